import PyProof.Rows.All
import Wide.All
import OpenK.AllK
import Wide.FinOn
import Lean
import PyProof.EqAt
import PyProof.EqKinds
import PyProof.TupleCall
import KE.KSortTup
import KE.KItemsList
import KE.KUnpack
import KE.KRevIter
import PyProof.ListStr
import PyProof.EnumMake
import PyProof.EnumFor
import PyProof.EnumStmt
import KE.KMinBuiltin
import PyProof.WalkInts
import PyProof.Rows.CallKwBuiltin
import PyProof.DictItemsLoops
import KE.KDictLaws
import KE.KPairComp
import KE.KDictSum
import PyProof.Rows.DictUnroll
import PyProof.ZipIter
import KE.IntBitsLaws
import PySem.Challenge.RW_shredjoin_k53_whole_led
set_option maxHeartbeats 0
set_option Elab.async false
set_option linter.all false
set_option maxRecDepth 100000
namespace L2
open PySem PySem.Spec PyProof.Rows
abbrev Key := Sum Int Str
def keyIs : Key → Value → Bool
 | .inl k, v => Value.isInt k v
 | .inr x, v => Value.isStrOf x v
def keyH (w : World) : Key → Int
 | .inl k => hashInt k
 | .inr x => hashStr w x
theorem keyIs_shape : ∀ {k : Key} {v : Value}, keyIs k v = true → (∃ i t, k = Sum.inl i ∧ v = Value.int i t) ∨ (∃ x t, k = Sum.inr x ∧ v = Value.str x t)
 | .inl i, v, h => by
  obtain ⟨t, e⟩ := Value.isInt_shape (k := i) (v := v) h
  exact .inl ⟨i, t, rfl, e⟩
 | .inr x, v, h => by
  obtain ⟨t, e⟩ := Value.isStrOf_shape (x := x) (v := v) h
  exact .inr ⟨x, t, rfl, e⟩
theorem keyIs_int (i : Int) (t : Tok) : keyIs (.inl i) (.int i t) = true := by simp [keyIs, Value.isInt]
theorem keyIs_str (x : Str) (t : Tok) : keyIs (.inr x) (.str x t) = true := by simp [keyIs, Value.isStrOf]
theorem key_ll (a b : Int) : decide ((Sum.inl a : Key) = Sum.inl b) = (a == b) := by
 by_cases e : a = b
 ·subst e; simp
 ·have h : ¬ (Sum.inl a : Key) = Sum.inl b := fun q => e (Sum.inl.inj q)
  rw [decide_eq_false h]
  exact (beq_eq_false_iff_ne.mpr e).symm
theorem key_rr (a b : Str) : decide ((Sum.inr a : Key) = Sum.inr b) = decide (a = b) := by
 by_cases e : a = b
 ·subst e; simp
 ·have h : ¬ (Sum.inr a : Key) = Sum.inr b := fun q => e (Sum.inr.inj q)
  rw [decide_eq_false h, decide_eq_false e]
theorem key_lr (a : Int) (b : Str) : decide ((Sum.inl a : Key) = Sum.inr b) = false := decide_eq_false (fun q => nomatch q)
theorem key_rl (a : Str) (b : Int) : decide ((Sum.inr a : Key) = Sum.inl b) = false := decide_eq_false (fun q => nomatch q)
def mixKind (prog : Program) (w : World) : PySem.KeyKind prog w Key where
 is := keyIs
 hash := keyH w
 inj := fun v a b ha hb => by
  rcases keyIs_shape ha with ⟨i, t, rfl, rfl⟩ | ⟨x, t, rfl, rfl⟩
  ·rcases keyIs_shape hb with ⟨j, u, rfl, e⟩ | ⟨y, u, rfl, e⟩
   ·injection e with e1 _; rw [e1]
   ·exact nomatch e
  ·rcases keyIs_shape hb with ⟨j, u, rfl, e⟩ | ⟨y, u, rfl, e⟩
   ·exact nomatch e
   ·injection e with e1 _; rw [e1]
 byValue := fun k v h => by
  rcases keyIs_shape h with ⟨i, t, rfl, rfl⟩ | ⟨x, t, rfl, rfl⟩ <;> rfl
 pyHash := fun hv h => by
  rcases keyIs_shape hv with ⟨i, t, rfl, rfl⟩ | ⟨x, t, rfl, rfl⟩
  ·exact wpAny_pyHash_int h
  ·exact wpAny_pyHash_str h
 eqBool := fun hu hv h => by
  rcases keyIs_shape hu with ⟨i, t, rfl, rfl⟩ | ⟨x, t, rfl, rfl⟩
  ·rcases keyIs_shape hv with ⟨j, u, rfl, rfl⟩ | ⟨y, u, rfl, rfl⟩
   ·rw [key_ll] at h; exact wpAny_eqBool_int h
   ·rw [key_lr] at h; exact SeqAt.EqAt.int_str i t y u _ _ _ _ h
  ·rcases keyIs_shape hv with ⟨j, u, rfl, rfl⟩ | ⟨y, u, rfl, rfl⟩
   ·rw [key_rl] at h; exact SeqAt.EqAt.str_int x t j u _ _ _ _ h
   ·rw [key_rr] at h; exact wpAny_eqBool_str h
 «strs» := fun k x t v h => by
  rcases keyIs_shape h with ⟨i, u, rfl, e⟩ | ⟨y, u, rfl, e⟩
  ·exact nomatch e
  ·injection e with e1 _
   subst e1
   cases v <;> rfl
theorem mixKind_int (prog : Program) (w : World) (i : Int) (t : Tok) : (mixKind prog w).is (.inl i) (.int i t) = true := keyIs_int i t
theorem mixKind_str (prog : Program) (w : World) (x : Str) (t : Tok) : (mixKind prog w).is (.inr x) (.str x t) = true := keyIs_str x t
inductive V where
 | non | bl (b : Bool) | int (i : Int) | str (x : Str) | byt (b : Array UInt8) | flt (b : UInt64) | ref (a : Addr) | ty (n : String)
 deriving DecidableEq
def RelV : V → Value → Prop
 | .non, u => u = Value.none
 | .bl b, u => u = Value.bool b
 | .int i, u => ∃ t, u = Value.int i t
 | .str x, u => ∃ t, u = Value.str x t
 | .byt b, u => ∃ t, u = Value.bytes b t
 | .flt b, u => ∃ t, u = Value.float b t
 | .ref a, u => u = Value.ref a
 | .ty n, u => u = Value.type n
abbrev Vals : List V → List Value → Prop := Paired RelV
theorem Vals.length {xs : List V} {us : List Value} (r : Vals xs us) : xs.length = us.length := Paired.length r
theorem Vals.get : ∀ {xs : List V} {us : List Value} {i : Nat} {x : V}, Vals xs us → xs[i]? = some x → ∃ u, us[i]? = some u ∧ RelV x u
 | _, _, _, _, .nil, e => by simp at e
 | _, _, 0, _, .cons r _, e => by simp at e; subst e; exact ⟨_, rfl, r⟩
 | _, _, i + 1, x, .cons _ t, e => by
  obtain ⟨u, h1, h2⟩ := Vals.get (i := i) (x := x) t (by simpa using e)
  exact ⟨u, by simpa using h1, h2⟩
theorem Vals.set {x : V} {u : Value} (r : RelV x u) : ∀ {xs : List V} {us : List Value} (i : Nat), Vals xs us → Vals (xs.set i x) (us.set i u)
 | _, _, _, .nil => .nil
 | _, _, 0, .cons _ t => .cons r t
 | _, _, i + 1, .cons q t => .cons q (Vals.set r i t)
theorem Vals.append : ∀ {xs ys : List V} {us ws : List Value}, Vals xs us → Vals ys ws → Vals (xs ++ ys) (us ++ ws)
 | _, _, _, _, .nil, s => s
 | _, _, _, _, .cons r t, s => .cons r (Vals.append t s)
theorem Vals.take : ∀ {xs : List V} {us : List Value} (n : Nat), Vals xs us → Vals (xs.take n) (us.take n)
 | _, _, 0, _ => .nil
 | _, _, _ + 1, .nil => .nil
 | _, _, n + 1, .cons r t => .cons r (Vals.take n t)
theorem Vals.drop : ∀ {xs : List V} {us : List Value} (n : Nat), Vals xs us → Vals (xs.drop n) (us.drop n)
 | _, _, 0, r => r
 | _, _, _ + 1, .nil => .nil
 | _, _, n + 1, .cons _ t => Vals.drop n t
def RelO : Option V → Option Value → Prop
 | some v, some u => RelV v u
 | none, none => True
 | _, _ => False
def KV {κ : Type} : List (κ × V) → List (κ × Value) → Prop := Paired fun (p : κ × V) (q : κ × Value) => p.1 = q.1 ∧ RelV p.2 q.2
def kV : Key → V
 | .inl i => .int i
 | .inr x => .str x
inductive HO where
  | lst (xs : List V)
  | tup (xs : List V)
  | dK (kvs : List (Key × V)) | dT (kvs : List (List Key × V))
  | set (S : Int → Bool) (n : Nat)
  | ins (C dx : Addr) (fs : List (Str × V))
  | own (x : Addr)
  | xd (fs : List (Str × V))
  | met (f x : Addr)
  | rng (lo hi : Int)
  | frz (o : Obj) (u : HO)
  | tbl (ps : Array Value)
  | ext (φ : Heap → Prop)
abbrev Hp := Addr → Option HO
def upd (H : Hp) (a : Addr) (o : HO) : Hp := fun b => if b = a then some o else H b
theorem upd_same {H : Hp} {a : Addr} {o : HO} : upd H a o a = some o := by unfold upd; rw [if_pos rfl]
theorem upd_ne {H : Hp} {a b : Addr} {o : HO} (h : b ≠ a) : upd H a o b = H b := by unfold upd; rw [if_neg h]
theorem ne_of {H : Hp} {a b : Addr} {o u : HO} (h : H a = some o) (h' : H b = some u) (d : o ≠ u) : a ≠ b := by
 intro e; subst e; rw [h] at h'; exact d (Option.some.inj h')
theorem ne_of_none {H : Hp} {a b : Addr} {o : HO} (h : H a = some o) (h' : H b = none) : a ≠ b := by
 intro e; subst e; rw [h] at h'; cases h'
section
variable (P : Program) (w : World)
def NoD (h : Heap) (a : Addr) : Prop := ∀ o, h.get? a = some o → o.dict = none
theorem noD_push {h : Heap} {o : Obj} (hd : o.dict = none) (hf : o.isFreed = false) : NoD (h.push o) h.objs.size := fun o2 e => by
 rw [Heap.get?_push_size h hf] at e
 cases e
 exact hd
def ObjOk (H : Hp) (h : Heap) (a : Addr) : HO → Prop
 | .lst xs => xs.length ≤ sizeLine ∧ ∃ (its : List Value) (n : Nat), Vals xs its ∧ h.get? a = some { cls := .type "list", data := .seq its.toArray n }
 | .tup xs => xs.length ≤ sizeLine ∧ ∃ its : List Value, Vals xs its ∧ IsTup h a its.toArray ∧ NoD h a
 | .dK kvs => kvs.length ≤ sizeLine ∧ (a == sysModules) = false ∧ ∃ vs, KV kvs vs ∧ h.DictOf (mixKind P w) a vs
 | .dT kvs => kvs.length ≤ sizeLine ∧ (a == sysModules) = false ∧ ∃ xs : List (List Key × Addr × Value),
   Paired (fun (p : List Key × V) (q : List Key × Addr × Value) => p.1 = q.1 ∧ H q.2.1 = some (.tup (p.1.map kV)) ∧ RelV p.2 q.2.2) kvs xs ∧
   ∃ o es ep, h.get? a = some o ∧ o.ExactDict ∧ o.data = .dict es ep ∧ es.toList = xs.map (entryOfKey (tupleKind (mixKind P w))) ∧ (xs.map (·.1)).Nodup
 | .set S n => h.SetOf (intKind P w) a S n
 | .ins C dx fs => H dx = some (.own a) ∧ fs.length ≤ 1000 ∧ dx ≠ a ∧ h.get? a = some (PySem.W.instObj C dx) ∧
   ∃ mA, h.Ns1 dx mA ∧ (∀ f, RelO (fs.lookup f) (mA f)) ∧ PySem.Within mA (fs.map (·.1))
 | .own _ => ∃ o, h.get? a = some o
 | .xd fs => ∃ mA, h.Ns1 a mA ∧ ∀ f, RelO (fs.lookup f) (mA f)
 | .rng lo hi => ∃ t u v, h.get? a = some { cls := .type "range", data := .fields #[.int lo t, .int hi u, .int 1 v] }
 | .frz o u => h.get? a = some o ∧ ObjOk H h a u
 | .tbl ps => h.get? a = some { cls := .none, data := .fields ps }
 | .met f x => h.get? a = some (PySem.W.methodObj (.ref f) (.ref x))
 | .ext φ => φ h ∧ (∃ o, h.get? a = some o) ∧ ∀ h1 h2 : Heap, φ h1 → (∀ o, h1.get? a = some o → h2.get? a = some o) → φ h2
def HOk (H : Hp) (h : Heap) : Prop := ∀ a o, H a = some o → ObjOk P w H h a o
end
section
variable {P : Program} {w : World} {H H' : Hp} {h h' : Heap} {a : Addr} {o : HO}
theorem ObjOk.lt (x : ObjOk P w H h a o) : a < h.objs.size := by
 cases o with
 | lst xs => obtain ⟨_, _, _, _, e⟩ := x; exact Heap.lt_size e
 | tup xs => obtain ⟨_, _, _, p, _⟩ := x; exact p.lt
 | dK kvs => obtain ⟨_, _, _, _, o, _, _, e, _⟩ := x; exact Heap.lt_size e
 | dT kvs => obtain ⟨_, _, _, _, o, _, _, e, _⟩ := x; exact Heap.lt_size e
 | set S n => obtain ⟨o, _, _, _, e, _⟩ := x; exact Heap.lt_size e
 | ins C dx fs => obtain ⟨_, _, _, e, _⟩ := x; exact Heap.lt_size e
 | own y => obtain ⟨_, e⟩ := x; exact Heap.lt_size e
 | xd fs => obtain ⟨_, ⟨_, _, _, e, _⟩, _⟩ := x; exact Heap.lt_size e
 | rng lo hi => obtain ⟨_, _, _, e⟩ := x; exact Heap.lt_size e
 | frz ob u => obtain ⟨e, _⟩ := x; exact Heap.lt_size e
 | tbl ps => exact Heap.lt_size (show h.get? a = some _ from x)
 | met f y => exact Heap.lt_size (show h.get? a = some _ from x)
 | ext φ => obtain ⟨_, ⟨_, e⟩, _⟩ := x; exact Heap.lt_size e
theorem Paired.mapP {α β : Type} {F G : α → β → Prop} : ∀ {l₁ : List α} {l₂ : List β}, Paired F l₁ l₂ → (∀ a b, F a b → G a b) → Paired G l₁ l₂
 | _, _, .nil, _ => .nil
 | _, _, .cons r t, f => .cons (f _ _ r) (Paired.mapP t f)
theorem ObjOk.stay (x : ObjOk P w H h a o) (k : ∀ b u, (b = a ∨ H b = some (.own a)) → h.get? b = some u → h'.get? b = some u)
  (ho : ∀ b, H b = some (.own a) → H' b = some (.own a)) (ht : ∀ b xs, H b = some (.tup xs) → H' b = some (.tup xs)) : ObjOk P w H' h' a o := by
 induction o with
 | lst xs => obtain ⟨z, its, n, r, e⟩ := x; exact ⟨z, its, n, r, k _ _ (.inl rfl) e⟩
 | tup xs =>
  obtain ⟨z, its, r, ⟨ob, e, c⟩, nd⟩ := x
  exact ⟨z, its, r, ⟨ob, k _ _ (.inl rfl) e, c⟩, fun o2 e2 => by
   rw [k _ _ (.inl rfl) e] at e2
   cases e2
   exact nd _ e⟩
 | dK kvs => obtain ⟨z, y, vs, r, ob, es, ep, e, c⟩ := x; exact ⟨z, y, vs, r, ob, es, ep, k _ _ (.inl rfl) e, c⟩
 | dT kvs =>
  obtain ⟨z, y, xs, r, ob, es, ep, e, c⟩ := x
  exact ⟨z, y, xs, Paired.mapP r fun p q z => ⟨z.1, ht _ _ z.2.1, z.2.2⟩, ob, es, ep, k _ _ (.inl rfl) e, c⟩
 | set S n => obtain ⟨ob, es, ep, t, e, c⟩ := x; exact ⟨ob, es, ep, t, k _ _ (.inl rfl) e, c⟩
 | ins C dx fs =>
  obtain ⟨d, z, ne, e, mA, ⟨od, es, ep, e2, c⟩, r⟩ := x
  exact ⟨ho _ d, z, ne, k _ _ (.inl rfl) e, mA, ⟨od, es, ep, k _ _ (.inr d) e2, c⟩, r⟩
 | own y => obtain ⟨ob, e⟩ := x; exact ⟨ob, k _ _ (.inl rfl) e⟩
 | xd fs => obtain ⟨mA, ⟨od, es, ep, e, c⟩, r⟩ := x; exact ⟨mA, ⟨od, es, ep, k _ _ (.inl rfl) e, c⟩, r⟩
 | rng lo hi => obtain ⟨t, u, v, e⟩ := x; exact ⟨t, u, v, k _ _ (.inl rfl) e⟩
 | frz ob u ih => obtain ⟨e, q⟩ := x; exact ⟨k _ _ (.inl rfl) e, ih q⟩
 | tbl ps =>
  have e : h.get? a = some { cls := .none, data := .fields ps } := x
  show h'.get? a = some { cls := .none, data := .fields ps }
  exact k a _ (.inl rfl) e
 | met f y =>
  have e : h.get? a = some (PySem.W.methodObj (.ref f) (.ref y)) := x
  show h'.get? a = some (PySem.W.methodObj (.ref f) (.ref y))
  exact k a _ (.inl rfl) e
 | ext φ => obtain ⟨p, ⟨o, e⟩, st⟩ := x; exact ⟨st _ _ p fun o q => k _ _ (.inl rfl) q, ⟨o, k _ _ (.inl rfl) e⟩, st⟩
theorem HOk.lt (x : HOk P w H h) (e : H a = some o) : a < h.objs.size := (x a o e).lt
theorem HOk.fresh (x : HOk P w H h) (e : h.objs.size ≤ a) : H a = none := by
 cases q : H a with
 | none => rfl
 | some u => exact absurd (Nat.lt_of_lt_of_le (x.lt q) e) (Nat.lt_irrefl _)
theorem HOk.kept (x : HOk P w H h) (k : ∀ b u, h.get? b = some u → h'.get? b = some u) : HOk P w H h' := fun a o e =>
 (x a o e).stay (fun b u _ q => k b u q) (fun _ q => q) fun _ _ q => q
theorem HOk.laid (x : HOk P w H h) (k : ∀ b u, h.get? b = some u → h'.get? b = some u) (hp : h.objs.size ≤ a) (new : ObjOk P w (upd H a o) h' a o) : HOk P w (upd H a o) h' := fun b u e => by
 have hn := x.fresh hp
 by_cases hb : b = a
 ·subst hb; rw [upd_same] at e; cases e; exact new
 ·rw [upd_ne hb] at e
  exact (x b u e).stay (fun c v _ q => k c v q) (fun c q => by rw [upd_ne (ne_of_none q hn)]; exact q) fun c xs q => by rw [upd_ne (ne_of_none q hn)]; exact q
end
def Rd (H : Hp) (a : Addr) (u : HO) : Prop := H a = some u ∨ ∃ o, H a = some (.frz o u)
theorem Rd.of {H : Hp} {a : Addr} {u : HO} (h : H a = some u) : Rd H a u := .inl h
theorem Rd.ok {P : Program} {w : World} {H : Hp} {h : Heap} {a : Addr} {u : HO} (r : Rd H a u) (x : HOk P w H h) : ObjOk P w H h a u := by
 rcases r with r | ⟨o, r⟩
 ·exact x a u r
 ·obtain ⟨_, q⟩ := x a _ r
  exact q
def Mut : Option HO → Prop
 | some (.lst _) => True
 | some (.dK _) => True
 | some (.dT _) => True
 | some (.set _ _) => True
 | some (.ins _ _ _) => True
 | some (.ext _) => True
 | _ => False
section
variable {P : Program} {w : World} {H : Hp} {h h' : Heap} {x e : Addr} {o' : HO}
theorem HOk.write (ok : HOk P w H h) (mu : Mut (H x)) (he : e = x ∨ H e = some (.own x)) (k : ∀ b u, b ≠ e → h.get? b = some u → h'.get? b = some u) (heo : ∃ u, h'.get? e = some u)
  (new : ObjOk P w (upd H x o') h' x o') : HOk P w (upd H x o') h' := fun b u q => by
 have nown : ∀ c y, H c = some (.own y) → c ≠ x := fun c y r z => by subst z; rw [r] at mu; exact mu
 have ntup : ∀ c xs, H c = some (.tup xs) → c ≠ x := fun c xs r z => by subst z; rw [r] at mu; exact mu
 by_cases hb : b = x
 ·subst hb; rw [upd_same] at q; cases q; exact new
 ·rw [upd_ne hb] at q
  by_cases hbe : b = e
  ·have q' : H b = some (.own x) := by
    rcases he with z | z
    ·exact absurd (hbe.trans z) hb
    ·rw [hbe]; exact z
   rw [q] at q'; cases q'
   obtain ⟨v, hv⟩ := heo
   exact ⟨v, by rw [hbe]; exact hv⟩
  ·refine (ok b u q).stay (fun c v hc r => k c v ?_ r) (fun c r => by rw [upd_ne (nown c b r)]; exact r) fun c xs r => by rw [upd_ne (ntup c xs r)]; exact r
   rcases hc with rfl | hc
   ·exact hbe
   ·rintro rfl
    rcases he with z | z
    ·exact nown c b hc z
    ·rw [hc] at z; cases z; exact hb rfl
end
structure Un (fs ex : List Addr) (H H' : Hp) (h h' : Heap) : Prop where
 keep : ∀ b o, h.get? b = some o → H b = none → b ∉ fs → b ∉ ex → h'.get? b = some o
 slot : ∀ b o, h.get? b = some o → H b = none → b ∈ fs → b ∉ ex → ∃ sl, h'.get? b = some { o with slots := sl }
 free : ∀ b o, h.get? b = some o → H b = none → b ∉ ex → H' b = none
 there : ∀ b o, h.get? b = some o → b ∉ ex → ∃ o', h'.get? b = some o'
 tups : ∀ b xs, H b = some (.tup xs) → H' b = some (.tup xs)
 frzs : ∀ b o u, H b = some (.frz o u) → H' b = some (.frz o u)
 tbls : ∀ b ps, H b = some (.tbl ps) → ∃ more, H' b = some (.tbl (ps ++ more))
section
variable {fs fs' ex ex' : List Addr} {H H1 H2 : Hp} {h h1 h2 h' : Heap} {a x e : Addr} {o : HO}
theorem Un.any (u : Un fs ex H H1 h h1) {b : Addr} {ob : Obj} (q : h.get? b = some ob) (n : H b = none) (hx : b ∉ ex) : ∃ sl, h1.get? b = some { ob with slots := sl } := by
 by_cases hb : b ∈ fs
 ·exact u.slot b ob q n hb hx
 ·exact ⟨ob.slots, u.keep b ob q n hb hx⟩
theorem Un.trans (a : Un fs ex H H1 h h1) (b : Un fs ex H1 H2 h1 h2) : Un fs ex H H2 h h2 where
 keep := fun c ob q n hc hx => b.keep c ob (a.keep c ob q n hc hx) (a.free c ob q n hx) hc hx
 slot := fun c ob q n hc hx => by
  obtain ⟨sl, e1⟩ := a.slot c ob q n hc hx
  obtain ⟨sl', e2⟩ := b.slot c _ e1 (a.free c ob q n hx) hc hx
  exact ⟨sl', e2⟩
 free := fun c ob q n hx => by
  obtain ⟨o', e1⟩ := a.there c ob q hx
  exact b.free c o' e1 (a.free c ob q n hx) hx
 there := fun c ob q hx => by
  obtain ⟨o', e1⟩ := a.there c ob q hx
  exact b.there c o' e1 hx
 tups := fun c xs q => b.tups c xs (a.tups c xs q)
 frzs := fun c ob xs q => b.frzs c ob xs (a.frzs c ob xs q)
 tbls := fun c ps q => by
  obtain ⟨m1, e1⟩ := a.tbls c ps q
  obtain ⟨m2, e2⟩ := b.tbls c _ e1
  exact ⟨m1 ++ m2, by rw [e2, Array.append_assoc]⟩
theorem Un.kept (k : ∀ b u, h.get? b = some u → h'.get? b = some u) : Un fs ex H H h h' :=
 ⟨fun b ob q _ _ _ => k b ob q, fun b ob q _ _ _ => ⟨ob.slots, k b ob q⟩, fun _ _ _ n _ => n, fun b ob q _ => ⟨ob, k b ob q⟩, fun _ _ q => q, fun _ _ _ q => q, fun _ ps q => ⟨#[], by rw [q]; simp⟩⟩
theorem Un.refl : Un fs ex H H h h := Un.kept fun _ _ q => q
theorem Un.laid (k : ∀ b u, h.get? b = some u → h'.get? b = some u) (hp : h.objs.size ≤ a) (hn : H a = none) : Un fs ex H (upd H a o) h h' where
 keep := fun b u q _ _ _ => k b u q
 slot := fun b u q _ _ _ => ⟨u.slots, k b u q⟩
 free := fun b u q n _ => by rw [upd_ne (Nat.ne_of_lt (Nat.lt_of_lt_of_le (Heap.lt_size q) hp))]; exact n
 there := fun b u q _ => ⟨u, k b u q⟩
 tups := fun b xs q => by rw [upd_ne (ne_of_none q hn)]; exact q
 frzs := fun b u xs q => by rw [upd_ne (ne_of_none q hn)]; exact q
 tbls := fun b ps q => ⟨#[], by rw [upd_ne (ne_of_none q hn), q]; simp⟩
theorem Un.write (mu : Mut (H x)) (he : e = x ∨ H e = some (.own x)) (k : ∀ b u, b ≠ e → h.get? b = some u → h'.get? b = some u) (heo : ∃ u, h'.get? e = some u) : Un fs ex H (upd H x o) h h' := by
 have hx : ∀ b, H b = none → b ≠ x := fun b n z => by subst z; rw [n] at mu; exact mu
 have hb : ∀ b, H b = none → b ≠ e := fun b n z => by
  subst z
  rcases he with r | r
  ·exact hx b n r
  ·rw [n] at r; cases r
 have hm : ∀ b u, H b = some u → ¬ Mut (some u) → b ≠ x := fun b u q nm z => by subst z; rw [q] at mu; exact nm mu
 refine ⟨fun b u q n _ _ => k b u (hb b n) q, fun b u q n _ _ => ⟨u.slots, k b u (hb b n) q⟩, fun b u q n _ => by rw [upd_ne (hx b n)]; exact n, fun b u q _ => ?_,
  fun b xs q => by rw [upd_ne (hm b _ q fun z => z)]; exact q, fun b u xs q => by rw [upd_ne (hm b _ q fun z => z)]; exact q, fun b ps q => ⟨#[], by rw [upd_ne (hm b _ q fun z => z), q]; simp⟩⟩
 by_cases hbe : b = e
 ·subst hbe; exact heo
 ·exact ⟨u, k b u hbe q⟩
theorem Un.mono (u : Un fs ex H H1 h h1) (hs : ∀ b ∈ fs, b ∈ fs') (hx : ∀ b ∈ ex, b ∈ ex') : Un fs' ex' H H1 h h1 :=
 ⟨fun b ob q n hb he => u.keep b ob q n (fun z => hb (hs b z)) fun z => he (hx b z), fun _ _ q n _ he => u.any q n fun z => he (hx _ z), fun b ob q n he => u.free b ob q n fun z => he (hx b z), fun b ob q he => u.there b ob q fun z => he (hx b z), u.tups, u.frzs, u.tbls⟩
end
def trk (h : Heap) (H : Hp) : List Addr := (List.range h.objs.size).filter fun a => (H a).isSome
def hidT (h : Heap) (H : Hp) : Heap := PySem.W.hideAll h (trk h H)
theorem hidT_size (h : Heap) (H : Hp) : (hidT h H).objs.size = h.objs.size := PySem.W.hideAll_size _ _
theorem hidT_get {h : Heap} {H : Hp} {b : Addr} {o : Obj} (e : h.get? b = some o) (n : H b = none) : (hidT h H).get? b = some o :=
 PySem.W.hideAll_get _ e fun hm => by
  have q : (H b).isSome = true := (List.mem_filter.mp hm).2
  rw [n] at q; simp at q
theorem of_hidT {h : Heap} {H : Hp} {b : Addr} {o : Obj} (e : (hidT h H).get? b = some o) : h.get? b = some o ∧ H b = none := by
 have e' : h.get? b = some o := PySem.W.of_hideAll (trk h H) e
 refine ⟨e', ?_⟩
 cases q : H b with
 | none => rfl
 | some x =>
  have hm : b ∈ trk h H := List.mem_filter.mpr ⟨List.mem_range.mpr (Heap.lt_size e'), by simp [q]⟩
  have z : (hidT h H).get? b = none := PySem.W.hideAll_none (trk h H) hm
  rw [z] at e; cases e
def allNews (g h : Heap) (L : Addr) : List (Addr × Obj) := (List.range h.objs.size).filterMap fun a => if a = L ∨ (g.get? a).isSome = true then none else (h.get? a).map fun o => (a, o)
def rest (g h : Heap) (L d : Addr) : List (Addr × Obj) := (allNews g h L).filter fun p => decide (p.1 ≠ d)
structure Mod (K : PySem.W.Frag) (mg : Str → Option Value) (base : Heap) : Prop where
 kin : K.In base
 glob : base.Ns mainGlobals mg
 blt : ∃ mb, base.Ns builtinsNs mb ∧ ∀ x : Str, x ≠ "__name__" → mb x = bootBuiltins x
 nolimit : base.NoLimit
structure Cx where
 prog : Program
 w : World
 K : PySem.W.Frag
 mg : Str → Option Value
 base : Heap
 A : Around
 N : List Str
 s₀ : Shared
 H₀ : Hp
 env : Env
 outer : List Env
 stack : List Env
 ex : List Addr
 fn : Str → Bool
 calm : Bool
 pn : List (Addr × Obj)
 xe : Value → Shared → Prop
def frs (l : List Env) : List Addr := l.filterMap (·.frame)
abbrev Cx.fs (X : Cx) : List Addr := frs X.outer
def Vis (sc : Scope) (x : Str) : Prop := sc.names.lookup x = some .local ∨ sc.names.lookup x = some .cell ∨ sc.names.lookup x = some .free
def Loc (sc : Scope) (x : Str) : Prop := sc.names.lookup x = some .local ∨ sc.names.lookup x = some .cell
def Look (env : Env) (h : Heap) (m : Str → Option Value) (x : Str) (u : Value) : Prop :=
 (env.kindOf x = some .local ∧ m x = some u) ∨ ((env.kindOf x = some .cell ∨ env.kindOf x = some .free) ∧ ∃ c, env.cells.lookup x = some c ∧ h.IsCell c (some u))
structure Cx.Ok (X : Cx) : Prop where
 mod : Mod X.K X.mg X.base
 kind : X.env.scope.kind = .function
 glob : X.env.globals = mainGlobals
 blt : X.env.builtins = builtinsNs
 above : X.s₀.heap.objs.size ≤ X.env.locals
 inj : ∀ x y c, X.env.cells.lookup x = some c → X.env.cells.lookup y = some c → x = y
 has : ∀ x, (X.env.kindOf x = some .cell ∨ X.env.kindOf x = some .free) → ∃ c, X.env.cells.lookup x = some c
 cab : ∀ x c, X.fn x = true → X.env.cells.lookup x = some c → X.s₀.heap.objs.size ≤ c
 hd : X.calm = true → X.A.handled = none
 frames : X.A.frames = some X.stack
 stk : X.stack = X.outer ∨ (X.stack = X.env :: X.outer ∧ X.env.frame = some X.env.locals)
 exf : ∀ b ∈ X.ex, b ≠ X.env.locals ∧ ∀ x c, X.env.cells.lookup x = some c → c ≠ b
 bs : ∀ b o, X.base.get? b = some o → X.s₀.heap.get? b = some o ∧ X.H₀ b = none
 bsz : X.base.objs.size ≤ X.s₀.heap.objs.size
 noex : ∀ b o, X.base.get? b = some o → b ∉ X.ex
 exfs : ∀ b ∈ X.ex, b ∉ X.fs
 funs : X.s₀.heap.FunFrames X.base X.outer
 frf : ∀ b ∈ X.fs, X.H₀ b = none
structure Inv (X : Cx) (pins : List (Addr × Obj)) (σ : List (Option V)) (H : Hp) (s : Shared) : Prop where
 ok : X.Ok
 os : s.os = X.s₀.os
 bare : AllBare s.gens
 base : Un X.fs X.ex X.H₀ H X.s₀.heap s.heap
 loc : ∃ m, s.heap.Ns X.env.locals m ∧ ∀ (i : Nat) (x : Str) (v : V), X.N[i]? = some x → σ[i]? = some (some v) → Vis X.env.scope x → ∃ u, RelV v u ∧ Look X.env s.heap m x u
 cell : ∀ x c, X.env.cells.lookup x = some c → ∃ v, s.heap.IsCell c v
 free : H X.env.locals = none
 freeC : ∀ x c, X.env.cells.lookup x = some c → H c = none
 pin : ∀ p ∈ X.pn ++ pins, s.heap.get? p.1 = some p.2 ∧ H p.1 = none ∧ p.1 ≠ X.env.locals ∧ p.1 ∉ X.fs ∧ ∀ v, p.2.data ≠ .cell v
 hok : HOk X.prog X.w H s.heap
 len : σ.length = X.N.length
section
variable {X : Cx} {pins : List (Addr × Obj)} {σ : List (Option V)} {H H' : Hp} {s : Shared} {h' : Heap}
theorem Cx.Ok.nofr (ok : X.Ok) {b : Addr} {o : Obj} (e : X.base.get? b = some o) : b ∉ X.fs := fun hb => by
 have := (ok.funs.mem hb).1
 rw [e] at this; cases this
theorem Inv.bs (I : Inv X pins σ H s) : ∀ b o, X.base.get? b = some o → s.heap.get? b = some o ∧ H b = none := fun b o e =>
 ⟨I.base.keep b o (I.ok.bs b o e).1 (I.ok.bs b o e).2 (I.ok.nofr e) (I.ok.noex b o e), I.base.free b o (I.ok.bs b o e).1 (I.ok.bs b o e).2 (I.ok.noex b o e)⟩
theorem Inv.bk (I : Inv X pins σ H s) : ∀ b o, X.base.get? b = some o → s.heap.get? b = some o := fun b o e => (I.bs b o e).1
theorem Inv.mod (I : Inv X pins σ H s) : Mod X.K X.mg X.base := I.ok.mod
theorem Inv.kIn (I : Inv X pins σ H s) : X.K.In s.heap := I.ok.mod.kin.keeps I.bk
theorem Inv.nolimit (I : Inv X pins σ H s) : s.heap.NoLimit := I.ok.mod.nolimit.keeps I.bk
theorem Inv.lt (I : Inv X pins σ H s) : X.env.locals < s.heap.objs.size := let ⟨_, hn, _⟩ := I.loc; hn.lt
theorem Inv.sz (I : Inv X pins σ H s) : X.s₀.heap.objs.size ≤ s.heap.objs.size := Nat.le_trans I.ok.above (Nat.le_of_lt I.lt)
theorem Inv.nofs (I : Inv X pins σ H s) {a : Addr} (h : s.heap.objs.size ≤ a) : a ∉ X.fs := fun hb => by
 obtain ⟨_, o, ho, _⟩ := I.ok.funs.mem hb
 exact absurd (Nat.lt_of_lt_of_le (Heap.lt_size ho) (Nat.le_trans I.sz h)) (Nat.lt_irrefl _)
theorem Inv.cne (I : Inv X pins σ H s) : ∀ x c, X.env.cells.lookup x = some c → c ≠ X.env.locals := fun x c e z => by
 obtain ⟨v, o, ho, hd⟩ := I.cell x c e
 obtain ⟨m, ⟨o', es, ep, ho', hd', _⟩, _⟩ := I.loc
 rw [z, ho'] at ho; cases ho; rw [hd'] at hd; cases hd
theorem Inv.funs (I : Inv X pins σ H s) : s.heap.FunFrames X.base X.outer := by
 have all : ∀ (l : List Env), (∀ b ∈ frs l, b ∈ X.fs) → X.s₀.heap.FunFrames X.base l → s.heap.FunFrames X.base l := by
  intro l
  induction l with
  | nil => intro _ _; trivial
  | cons env r ih =>
   intro hs hl
   obtain ⟨hk, ⟨L, o, hf, hn, ho, hd⟩, hr⟩ := hl
   have hL : L ∈ X.fs := hs L (by unfold frs; rw [List.filterMap_cons, hf]; exact List.mem_cons_self)
   obtain ⟨sl, e⟩ := I.base.slot L o ho (I.ok.frf L hL) hL fun z => I.ok.exfs L z hL
   exact ⟨hk, ⟨L, _, hf, hn, e, hd⟩, ih (fun b hb => hs b (by unfold frs; rw [List.filterMap_cons, hf]; exact List.mem_cons_of_mem _ hb)) hr⟩
 exact all X.outer (fun _ hb => hb) I.ok.funs
theorem Inv.stack (I : Inv X pins σ H s) : s.heap.FunFrames X.base X.stack := by
 rcases I.ok.stk with e | ⟨e, hf⟩
 ·rw [e]; exact I.funs
 ·rw [e]
  obtain ⟨m, hn, _⟩ := I.loc
  refine .cons (by rw [I.ok.kind]; decide) hf hn ?_ I.funs
  exact Heap.get?_none_of_le (Nat.le_trans I.ok.bsz I.ok.above)
theorem Inv.stkSub (I : Inv X pins σ H s) : ∀ b ∈ frs X.stack, b ∈ X.env.locals :: X.fs := fun b hb => by
 rcases I.ok.stk with e | ⟨e, hf⟩
 ·rw [e] at hb; exact List.mem_cons_of_mem _ hb
 ·rw [e] at hb
  unfold frs at hb
  rw [List.filterMap_cons, hf] at hb
  exact hb
theorem Inv.stkFree (I : Inv X pins σ H s) : ∀ b ∈ frs X.stack, H b = none := fun b hb => by
 rcases List.mem_cons.mp (I.stkSub b hb) with e | hb
 ·rw [e]; exact I.free
 ·obtain ⟨_, o, ho, _⟩ := I.ok.funs.mem hb
  exact I.base.free b o ho (I.ok.frf b hb) fun z => I.ok.exfs b z hb
theorem Inv.step {g' : Array GenState} {t' : Nat} {d' : Drawn} {ch : List Addr} (I : Inv X pins σ H s)
  (hch : ∀ b ∈ ch, (b ∈ X.ex ∨ X.s₀.heap.objs.size ≤ b) ∧ b ≠ X.env.locals ∧ (∀ x c, X.env.cells.lookup x = some c → c ≠ b) ∧ ∀ p ∈ X.pn ++ pins, p.1 ≠ b)
  (keep : ∀ b o, b ≠ X.env.locals → b ∉ X.fs → b ∉ ch → s.heap.get? b = some o → H b = none → h'.get? b = some o)
  (slot : ∀ b o, b ≠ X.env.locals → b ∈ X.fs → b ∉ ch → s.heap.get? b = some o → H b = none → ∃ sl, h'.get? b = some { o with slots := sl }) (free : ∀ b o, b ∉ ch → s.heap.get? b = some o → H b = none → H' b = none)
  (there : ∀ b o, b ∉ ch → s.heap.get? b = some o → ∃ o', h'.get? b = some o')
  (tups : ∀ b xs, H b = some (.tup xs) → H' b = some (.tup xs)) (frzs : ∀ b o u, H b = some (.frz o u) → H' b = some (.frz o u)) (tbls : ∀ b ps, H b = some (.tbl ps) → ∃ more, H' b = some (.tbl (ps ++ more)))
  (ns : ∀ m, s.heap.Ns X.env.locals m → h'.Ns X.env.locals m) (hok : HOk X.prog X.w H' h') (hg : AllBare g') :
  Inv X pins σ H' { s with heap := h', gens := g', drawn := d', toks := t' } := by
 have neL : ∀ b o, X.s₀.heap.get? b = some o → b ≠ X.env.locals := fun b o e => Nat.ne_of_lt (Nat.lt_of_lt_of_le (Heap.lt_size e) I.ok.above)
 have neC : ∀ b o, X.s₀.heap.get? b = some o → b ∉ X.ex → b ∉ ch := fun b o e hx hb => by
  rcases (hch b hb).1 with z | z
  ·exact hx z
  ·exact absurd (Nat.lt_of_lt_of_le (Heap.lt_size e) z) (Nat.lt_irrefl _)
 have cellK : ∀ x c, X.env.cells.lookup x = some c → ∀ v, s.heap.IsCell c v → h'.IsCell c v := fun x c e v ⟨o, ho, hd⟩ => by
  have nch : c ∉ ch := fun z => (hch c z).2.2.1 x c e rfl
  by_cases hc : c ∈ X.fs
  ·obtain ⟨sl, q⟩ := slot c o (I.cne x c e) hc nch ho (I.freeC x c e)
   exact ⟨_, q, hd⟩
  ·exact ⟨o, keep c o (I.cne x c e) hc nch ho (I.freeC x c e), hd⟩
 refine ⟨I.ok, I.os, hg, ⟨fun b o e n hb hx => ?_, fun b o e n hb hx => ?_, fun b o e n hx => ?_, fun b o e hx => ?_, fun b xs e => tups b xs (I.base.tups b xs e), fun b o xs e => frzs b o xs (I.base.frzs b o xs e), fun b ps e => ?_⟩, ?_, fun x c e => ?_, ?_, fun x c e => ?_, fun p hp => ?_, hok, I.len⟩
 ·exact keep b o (neL b o e) hb (neC b o e hx) (I.base.keep b o e n hb hx) (I.base.free b o e n hx)
 ·obtain ⟨sl, e1⟩ := I.base.slot b o e n hb hx
  obtain ⟨sl', e2⟩ := slot b _ (neL b o e) hb (neC b o e hx) e1 (I.base.free b o e n hx)
  exact ⟨sl', e2⟩
 ·obtain ⟨o', e1⟩ := I.base.there b o e hx
  exact free b o' (neC b o e hx) e1 (I.base.free b o e n hx)
 ·obtain ⟨o', e1⟩ := I.base.there b o e hx
  exact there b o' (neC b o e hx) e1
 ·obtain ⟨m1, e1⟩ := I.base.tbls b ps e
  obtain ⟨m2, e2⟩ := tbls b _ e1
  exact ⟨m1 ++ m2, by rw [e2, Array.append_assoc]⟩
 ·obtain ⟨m, hn, hl⟩ := I.loc
  refine ⟨m, ns m hn, fun i x v e1 e2 e3 => ?_⟩
  obtain ⟨u, r, l⟩ := hl i x v e1 e2 e3
  refine ⟨u, r, ?_⟩
  rcases l with l | ⟨k, c, e, z⟩
  ·exact .inl l
  ·exact .inr ⟨k, c, e, cellK x c e _ z⟩
 ·obtain ⟨v, z⟩ := I.cell x c e
  exact ⟨v, cellK x c e v z⟩
 ·obtain ⟨m, ⟨o, _, _, ho, _⟩, _⟩ := I.loc
  exact free _ o (fun z => (hch _ z).2.1 rfl) ho I.free
 ·obtain ⟨v, o, ho, hd⟩ := I.cell x c e
  exact free c o (fun z => (hch c z).2.2.1 x c e rfl) ho (I.freeC x c e)
 ·obtain ⟨e, n, ne, nf, d⟩ := I.pin p hp
  have nch : p.1 ∉ ch := fun z => (hch p.1 z).2.2.2 p hp rfl
  exact ⟨keep p.1 p.2 ne nf nch e n, free p.1 p.2 nch e n, ne, nf, d⟩
theorem Inv.un {t' : Nat} (I : Inv X pins σ H s) (u : Un X.fs [] H H' s.heap h') (hok : HOk X.prog X.w H' h') : Inv X pins σ H' { s with heap := h', toks := t' } := by
 obtain ⟨m, ⟨o, es, ep, ho, r⟩, _⟩ := id I.loc
 obtain ⟨sl, hL⟩ := u.any ho I.free (by simp)
 exact I.step (g' := s.gens) (d' := s.drawn) (ch := []) (fun _ z => nomatch z) (fun b o _ hb _ e n => u.keep b o e n hb (by simp)) (fun b o _ hb _ e n => u.slot b o e n hb (by simp)) (fun b o _ e n => u.free b o e n (by simp)) (fun b o _ e => u.there b o e (by simp)) u.tups u.frzs u.tbls (fun m' hm => by
  obtain ⟨o', es', ep', ho', r'⟩ := hm
  rw [ho] at ho'; cases ho'
  exact ⟨_, es', ep', hL, r'⟩) hok I.bare
theorem Inv.call {g' : Array GenState} {t' : Nat} {d' : Drawn} {ch : List Addr} (I : Inv X pins σ H s) (u : Un (frs X.stack) ch H H' s.heap h') (hok : HOk X.prog X.w H' h') (hg : AllBare g')
  (hch : ∀ b ∈ ch, (b ∈ X.ex ∨ X.s₀.heap.objs.size ≤ b) ∧ b ≠ X.env.locals ∧ (∀ x c, X.env.cells.lookup x = some c → c ≠ b) ∧ ∀ p ∈ X.pn ++ pins, p.1 ≠ b) :
  Inv X pins σ H' { s with heap := h', gens := g', drawn := d', toks := t' } := by
 obtain ⟨m, ⟨o, es, ep, ho, r⟩, _⟩ := id I.loc
 obtain ⟨sl, hL⟩ := u.any ho I.free fun z => (hch _ z).2.1 rfl
 exact I.step (ch := ch) hch (fun b o hL hb hc e n => u.keep b o e n (fun z => (List.mem_cons.mp (I.stkSub b z)).elim hL hb) hc) (fun b o _ _ hc e n => u.any e n hc) (fun b o hc e n => u.free b o e n hc) (fun b o hc e => u.there b o e hc) u.tups u.frzs u.tbls (fun m' hm => by
  obtain ⟨o', es', ep', ho', r'⟩ := hm
  rw [ho] at ho'; cases ho'
  exact ⟨_, es', ep', hL, r'⟩) hok hg
theorem Inv.turned {t' : Nat} {it : Addr} (I : Inv X pins σ H s) (k : ∀ b o, b ≠ it → s.heap.get? b = some o → h'.get? b = some o) (hn : H it = none) (hL : it ≠ X.env.locals)
  (h1 : it ∈ X.ex ∨ X.s₀.heap.objs.size ≤ it) (h2 : ∀ x c, X.env.cells.lookup x = some c → c ≠ it) (h3 : ∀ p ∈ X.pn ++ pins, p.1 ≠ it) : Inv X pins σ H { s with heap := h', toks := t' } := by
 have nit : ∀ b u, H b = some u → b ≠ it := fun b u e z => by rw [z, hn] at e; cases e
 refine I.step (g' := s.gens) (d' := s.drawn) (ch := [it]) (fun b hb => ?_) (fun b o _ _ hc e _ => k b o (fun z => hc (by simp [z])) e) (fun b o _ _ hc e _ => ⟨o.slots, k b o (fun z => hc (by simp [z])) e⟩) (fun _ _ _ _ n => n)
  (fun b o hc e => ⟨o, k b o (fun z => hc (by simp [z])) e⟩) (fun _ _ e => e) (fun _ _ _ e => e) (fun b ps e => ⟨#[], by rw [e]; simp⟩) (fun m hm => ?_) (fun b u e => ?_) I.bare
 ·have e : b = it := by simpa using hb
  subst e
  exact ⟨h1, hL, h2, h3⟩
 ·obtain ⟨o, es, ep, ho, r⟩ := hm
  exact ⟨o, es, ep, k _ o (Ne.symm hL) ho, r⟩
 ·refine (I.hok b u e).stay (fun c v hc q => k c v ?_ q) (fun _ q => q) fun _ _ q => q
  rcases hc with z | z
  ·rw [z]; exact nit b u e
  ·exact nit c _ z
theorem Inv.tok (I : Inv X pins σ H s) (t : Nat) : Inv X pins σ H { s with toks := t } := I.un (h' := s.heap) (t' := t) Un.refl I.hok
theorem Inv.kept {t' : Nat} (I : Inv X pins σ H s) (k : ∀ b u, s.heap.get? b = some u → h'.get? b = some u) : Inv X pins σ H { s with heap := h', toks := t' } := I.un (Un.kept k) (I.hok.kept k)
theorem Inv.laid {a : Addr} {o : HO} {t' : Nat} (I : Inv X pins σ H s) (k : ∀ b u, s.heap.get? b = some u → h'.get? b = some u) (hp : s.heap.objs.size ≤ a) (new : ObjOk X.prog X.w (upd H a o) h' a o) :
  Inv X pins σ (upd H a o) { s with heap := h', toks := t' } := I.un (Un.laid k hp (I.hok.fresh hp)) (I.hok.laid k hp new)
theorem Inv.write {x e : Addr} {o : HO} {t' : Nat} (I : Inv X pins σ H s) (mu : Mut (H x)) (he : e = x ∨ H e = some (.own x)) (k : ∀ b u, b ≠ e → s.heap.get? b = some u → h'.get? b = some u) (heo : ∃ u, h'.get? e = some u)
  (new : ObjOk X.prog X.w (upd H x o) h' x o) : Inv X pins σ (upd H x o) { s with heap := h', toks := t' } := I.un (Un.write mu he k heo) (I.hok.write mu he k heo new)
theorem Inv.pins_of {pins' : List (Addr × Obj)} (I : Inv X pins σ H s) (h : ∀ p ∈ pins', s.heap.get? p.1 = some p.2 ∧ H p.1 = none ∧ p.1 ≠ X.env.locals ∧ p.1 ∉ X.fs ∧ ∀ v, p.2.data ≠ .cell v) : Inv X pins' σ H s :=
 ⟨I.ok, I.os, I.bare, I.base, I.loc, I.cell, I.free, I.freeC, fun p hp => (List.mem_append.mp hp).elim (fun z => I.pin p (List.mem_append_left _ z)) (h p), I.hok, I.len⟩
theorem nodup_ix {N : List Str} (hN : N.Nodup) {i j : Nat} {x : Str} (a : N[i]? = some x) (b : N[j]? = some x) : i = j := by
 obtain ⟨h1, e1⟩ := List.getElem?_eq_some_iff.mp a
 obtain ⟨h2, e2⟩ := List.getElem?_eq_some_iff.mp b
 exact (List.getElem_inj hN).mp (e1.trans e2.symm)
theorem store_ok2 {M : Model} {A : Around} {E : Value → Shared → Prop} {i : Nat} {x : Str} {v : V} {u : Value} {Q : Unit → Shared → Prop} (I : Inv X pins σ H s) (hN : X.N.Nodup) (hi : X.N[i]? = some x) (hx : Loc X.env.scope x) (r : RelV v u)
  (h : ∀ s', Inv X pins (σ.set i (some v)) H s' → (∃ a, Heap.SameBut a s.heap s'.heap ∧ (a = X.env.locals ∨ X.env.cells.lookup x = some a)) → Q () s') (hf : X.fn x = true ∨ X.env.scope.names.lookup x = some .local := by first | exact .inl rfl | exact .inr rfl | assumption) : wpAny M A (storeName X.env x u) Q E s := by
 obtain ⟨m, hn, hl⟩ := id I.loc
 have hcls : (X.env.scope.kind == .class || (X.env.scope.kind == .module && X.env.locals != X.env.globals)) = false := by rw [I.ok.kind]; rfl
 have hiσ : i < σ.length := by rw [I.len]; exact (List.getElem?_eq_some_iff.mp hi).1
 have cne := I.cne
 have tracked : ∀ {a : Addr} {h' : Heap}, (∃ o, s.heap.get? a = some o ∧ H a = none) → Heap.SameBut a s.heap h' → HOk X.prog X.w H h' := fun {a h'} ha hs b ob e => by
  obtain ⟨_, _, hfree⟩ := ha
  refine (I.hok b ob e).stay (fun c w' hc q => (hs.2 c ?_).trans q) (fun _ q => q) fun _ _ q => q
  rintro rfl
  rcases hc with rfl | hc
  ·rw [hfree] at e; cases e
  ·rw [hfree] at hc; cases hc
 rcases hx with hk | hk
 ·refine wpAny_storeName_local hk hn (fun h' hn' hs => ?_) hcls
  obtain ⟨oL, _, _, hoL, _⟩ := id hn
  refine h _ ⟨I.ok, I.os, I.bare, ⟨fun b o e n hb hx => ?_, fun b o e n hb hx => ?_, I.base.free, fun b o e hx => ?_, I.base.tups, I.base.frzs, I.base.tbls⟩, ⟨_, hn', fun j y v' e1 e2 e3 => ?_⟩, fun y c e => ?_, I.free, I.freeC, fun p hp => ?_, tracked ⟨oL, hoL, I.free⟩ hs, by simpa using I.len⟩ ⟨_, hs, .inl rfl⟩
  ·exact (hs.2 b (Nat.ne_of_lt (Nat.lt_of_lt_of_le (Heap.lt_size e) I.ok.above))).trans (I.base.keep b o e n hb hx)
  ·obtain ⟨sl, e1⟩ := I.base.slot b o e n hb hx
   exact ⟨sl, (hs.2 b (Nat.ne_of_lt (Nat.lt_of_lt_of_le (Heap.lt_size e) I.ok.above))).trans e1⟩
  ·obtain ⟨o', e1⟩ := I.base.there b o e hx
   exact ⟨o', (hs.2 b (Nat.ne_of_lt (Nat.lt_of_lt_of_le (Heap.lt_size e) I.ok.above))).trans e1⟩
  ·by_cases hj : j = i
   ·subst hj
    rw [hi] at e1; cases e1
    rw [List.getElem?_set_self hiσ] at e2
    cases e2
    exact ⟨u, r, .inl ⟨hk, by simp⟩⟩
   ·rw [List.getElem?_set_ne (Ne.symm hj)] at e2
    obtain ⟨u', r', q⟩ := hl j y v' e1 e2 e3
    refine ⟨u', r', ?_⟩
    rcases q with ⟨k, e⟩ | ⟨k, c, e, z⟩
    ·refine .inl ⟨k, ?_⟩
     have : y ≠ x := fun e => hj (nodup_ix hN e1 (e ▸ hi))
     simp [this, e]
    ·exact .inr ⟨k, c, e, z.sameBut hs (cne y c e)⟩
  ·obtain ⟨w', z⟩ := I.cell y c e
   exact ⟨w', z.sameBut hs (cne y c e)⟩
  ·obtain ⟨e, n, ne, nf, d⟩ := I.pin p hp
   exact ⟨(hs.2 p.1 ne).trans e, n, ne, nf, d⟩
 ·have hfn : X.fn x = true := by
   rcases hf with z | z
   ·exact z
   ·rw [z] at hk; cases hk
  obtain ⟨c, hc⟩ := I.ok.has x (.inl hk)
  obtain ⟨w', z⟩ := I.cell x c hc
  refine wpAny_storeName_cell I.ok.kind hk hc z (fun h' hc' hs => ?_)
  obtain ⟨oc, hoc, hocd⟩ := id z
  refine h { s with heap := h' } ⟨I.ok, I.os, I.bare, ⟨fun b o e n hb hx => ?_, fun b o e n hb hx => ?_, I.base.free, fun b o e hx => ?_, I.base.tups, I.base.frzs, I.base.tbls⟩, ⟨m, hn.sameBut hs (Ne.symm (cne x c hc)), fun j y v' e1 e2 e3 => ?_⟩, fun y c' e => ?_, I.free, I.freeC, fun p hp => ?_, tracked ⟨oc, hoc, I.freeC x c hc⟩ hs, by simpa using I.len⟩ ⟨c, hs, .inr hc⟩
  ·exact (hs.2 b (Nat.ne_of_lt (Nat.lt_of_lt_of_le (Heap.lt_size e) (I.ok.cab x c hfn hc)))).trans (I.base.keep b o e n hb hx)
  ·obtain ⟨sl, e1⟩ := I.base.slot b o e n hb hx
   exact ⟨sl, (hs.2 b (Nat.ne_of_lt (Nat.lt_of_lt_of_le (Heap.lt_size e) (I.ok.cab x c hfn hc)))).trans e1⟩
  ·obtain ⟨o', e1⟩ := I.base.there b o e hx
   exact ⟨o', (hs.2 b (Nat.ne_of_lt (Nat.lt_of_lt_of_le (Heap.lt_size e) (I.ok.cab x c hfn hc)))).trans e1⟩
  ·by_cases hj : j = i
   ·subst hj
    rw [hi] at e1; cases e1
    rw [List.getElem?_set_self hiσ] at e2
    cases e2
    exact ⟨u, r, .inr ⟨.inl hk, c, hc, hc'⟩⟩
   ·rw [List.getElem?_set_ne (Ne.symm hj)] at e2
    obtain ⟨u', r', q⟩ := hl j y v' e1 e2 e3
    refine ⟨u', r', ?_⟩
    rcases q with q | ⟨k, c', e, z'⟩
    ·exact .inl q
    ·refine .inr ⟨k, c', e, z'.sameBut hs ?_⟩
     rintro rfl
     exact hj (nodup_ix hN e1 (I.ok.inj _ _ _ e hc ▸ hi))
  ·by_cases hcc : c' = c
   ·subst hcc; exact ⟨_, hc'⟩
   ·obtain ⟨w2, z2⟩ := I.cell y c' e
    exact ⟨w2, z2.sameBut hs hcc⟩
  ·obtain ⟨e, n, ne, nf, d⟩ := I.pin p hp
   refine ⟨(hs.2 p.1 ?_).trans e, n, ne, nf, d⟩
   intro q
   rw [q, hoc] at e
   have q' : oc = p.2 := Option.some.inj e
   exact d w' (by rw [← q']; exact hocd)
theorem store_ok {M : Model} {A : Around} {E : Value → Shared → Prop} {i : Nat} {x : Str} {v : V} {u : Value} {Q : Unit → Shared → Prop} (I : Inv X pins σ H s) (hN : X.N.Nodup) (hi : X.N[i]? = some x) (hx : Loc X.env.scope x) (r : RelV v u)
  (h : ∀ s', Inv X pins (σ.set i (some v)) H s' → Q () s') (hf : X.fn x = true ∨ X.env.scope.names.lookup x = some .local := by first | exact .inl rfl | exact .inr rfl | assumption) : wpAny M A (storeName X.env x u) Q E s :=
 store_ok2 I hN hi hx r (fun s' I' _ => h s' I') hf
theorem Inv.call' {s' : Shared} {ch : List Addr} (I : Inv X pins σ H s) (ho : s'.os = s.os) (u : Un (frs X.stack) ch H H' s.heap s'.heap) (hok : HOk X.prog X.w H' s'.heap) (hg : AllBare s'.gens)
  (hch : ∀ b ∈ ch, (b ∈ X.ex ∨ X.s₀.heap.objs.size ≤ b) ∧ b ≠ X.env.locals ∧ (∀ x c, X.env.cells.lookup x = some c → c ≠ b) ∧ ∀ p ∈ X.pn ++ pins, p.1 ≠ b) : Inv X pins σ H' s' := by
 obtain ⟨h', g', d', t', o'⟩ := s'
 have e : o' = s.os := ho
 subst e
 exact I.call (g' := g') (t' := t') (d' := d') u hok hg hch
end
abbrev XK := Value → Option Addr → Hp → Prop
abbrev St := List (Option V)
abbrev VK := V → Hp → Prop
abbrev TE := St → Hp → VK → Prop
abbrev TT := St → Hp → (Bool → Hp → Prop) → Prop
abbrev TA := St → Hp → (List V → Hp → Prop) → Prop
structure Ends where
 nx : St → Hp → Prop
 rt : VK
 bk : St → Hp → Prop := fun _ _ => False
 ct : St → Hp → Prop := fun _ _ => False
abbrev TS := Ends → St → Hp → Prop
def EP (X : Cx) (pins : List (Addr × Obj)) (σ : St) (Q : VK) (u : Value) (s' : Shared) : Prop := ∃ v H', Inv X pins σ H' s' ∧ RelV v u ∧ Q v H'
def TP (X : Cx) (pins : List (Addr × Obj)) (σ : St) (Q : Bool → Hp → Prop) (b : Bool) (s' : Shared) : Prop := ∃ H', Inv X pins σ H' s' ∧ Q b H'
def AP (X : Cx) (pins : List (Addr × Obj)) (σ : St) (Q : List V → Hp → Prop) (us : List Value) (s' : Shared) : Prop := ∃ vs H', Inv X pins σ H' s' ∧ Vals vs us ∧ Q vs H'
def SP (X : Cx) (pins : List (Addr × Obj)) (D : Ends) (f : Flow) (s' : Shared) : Prop :=
 match f with
 | .next => ∃ σ' H', Inv X pins σ' H' s' ∧ D.nx σ' H'
 | .brk => ∃ σ' H', Inv X pins σ' H' s' ∧ D.bk σ' H'
 | .cont => ∃ σ' H', Inv X pins σ' H' s' ∧ D.ct σ' H'
 | .ret u => ∃ v σ' H', Inv X pins σ' H' s' ∧ RelV v u ∧ D.rt v H'
def PE (X : Cx) (e : Expr) (t : TE) : Prop :=
 ∀ (pins : List (Addr × Obj)) (s : Shared) (σ : St) (H : Hp) (Q : VK), Inv X pins σ H s → t σ H Q → wpAny (model X.prog X.w) X.A (eval e X.env) (EP X pins σ Q) X.xe s
def PT (X : Cx) (e : Expr) (t : TT) : Prop :=
 ∀ (pins : List (Addr × Obj)) (s : Shared) (σ : St) (H : Hp) (Q : Bool → Hp → Prop), Inv X pins σ H s → t σ H Q → wpAny (model X.prog X.w) X.A (isTrue e X.env (eval e X.env)) (TP X pins σ Q) X.xe s
def PW (X : Cx) (e : Expr) (t : TT) : Prop :=
 ∀ (whole : Sem Value) (pins : List (Addr × Obj)) (s : Shared) (σ : St) (H : Hp) (Q : Bool → Hp → Prop), Inv X pins σ H s → t σ H Q → wpAny (model X.prog X.w) X.A (isTrue e X.env whole) (TP X pins σ Q) X.xe s
theorem PW.pt {X : Cx} {e : Expr} {t : TT} (h : PW X e t) : PT X e t := h _
def PA (X : Cx) (es : List Expr) (t : TA) : Prop :=
 ∀ (pos : Pos) (pins : List (Addr × Obj)) (s : Shared) (σ : St) (H : Hp) (Q : List V → Hp → Prop), Inv X pins σ H s → t σ H Q → wpAny (model X.prog X.w) X.A (spliced (backTo pos (starEach es X.env))) (AP X pins σ Q) X.xe s
def PS (X : Cx) (st : Stmt) (t : TS) : Prop :=
 ∀ (pins : List (Addr × Obj)) (s : Shared) (σ : St) (H : Hp) (D : Ends), Inv X pins σ H s → t D σ H → wpAny (model X.prog X.w) X.A (exec st X.env) (SP X pins D) X.xe s
def PSs (X : Cx) (st : List Stmt) (t : TS) : Prop :=
 ∀ (pins : List (Addr × Obj)) (s : Shared) (σ : St) (H : Hp) (D : Ends), Inv X pins σ H s → t D σ H → wpAny (model X.prog X.w) X.A (execs st X.env) (SP X pins D) X.xe s
theorem thn {α : Type} {t : Sem α} {Q Q' : α → Shared → Prop} {M : Model} {A : Around} {E : Value → Shared → Prop} {s : Shared} (h : wpAny M A t Q E s) (hQ : ∀ a s, Q a s → Q' a s) : wpAny M A t Q' E s := wpAny_mono h hQ fun _ _ x => x
section
variable {X : Cx}
theorem bin {a b : Expr} {ta tb : TE} (ha : PE X a ta) (hb : PE X b tb) {pins : List (Addr × Obj)} {s : Shared} {σ : St} {H : Hp} {R : V → V → Hp → Prop} (I : Inv X pins σ H s) (h : ta σ H fun x H1 => tb σ H1 fun y H2 => R x y H2)
  {α : Type} {Q : α → Shared → Prop} {f : Value → Value → Sem α}
  (hf : ∀ v u s2 x y H2, Inv X pins σ H2 s2 → RelV x v → RelV y u → R x y H2 → wpAny (model X.prog X.w) X.A (f v u) Q X.xe s2) :
  wpAny (model X.prog X.w) X.A (eval a X.env) (fun v s₁ => wpAny (model X.prog X.w) X.A (eval b X.env) (fun u s₂ => wpAny (model X.prog X.w) X.A (f v u) Q X.xe s₂) X.xe s₁) X.xe s := by
 refine thn (ha pins s σ H _ I h) fun v s1 ⟨x, H1, I1, r1, q1⟩ => ?_
 refine thn (hb pins s1 σ H1 _ I1 q1) fun u s2 ⟨y, H2, I2, r2, q2⟩ => ?_
 exact hf v u s2 x y H2 I2 r1 r2 q2
def tVar (i : Nat) : TE := fun σ H Q => ∃ v, σ[i]? = some (some v) ∧ Q v H
def tC (v : V) : TE := fun _ H Q => Q v H
theorem pe_var {i : Nat} {x : Str} {pos : Pos} (hN : X.N[i]? = some x) (hv : Vis X.env.scope x) (hd : (x == ("__debug__" : Str)) = false := by decide) (hcd : (x == ("__classdict__" : Str)) = false := by decide) : PE X (.Name x pos) (tVar i) := by
 intro pins s σ H Q I h
 obtain ⟨v, e, h⟩ := h
 obtain ⟨m, hn, hl⟩ := I.loc
 obtain ⟨u, r, l⟩ := hl i x v hN e hv
 have fin : EP X pins σ Q u s := ⟨v, H, I, r, h⟩
 rcases l with ⟨hk, hm⟩ | ⟨hk, c, hc, hcell⟩
 ·exact wpAny_Name (wpAny_loadName_local I.ok.kind hk hn hm fin) hd
 ·rcases hk with hk | hk
  ·exact wpAny_Name (wpAny_loadName_cell I.ok.kind hk hc hcell fin) hd
  ·exact wpAny_Name (wpAny_loadName_free I.ok.kind hk hc hcell fin hcd) hd
theorem pe_int {i j pos} : PE X (.Constant (.int i) j pos) (tC (.int i)) := fun _ _ _ H _ I h => wpAny_Constant_int ⟨.int i, H, I.tok _, ⟨_, rfl⟩, h⟩
theorem pe_bl {b j pos} : PE X (.Constant (.bool b) j pos) (tC (.bl b)) := fun _ _ _ H _ I h => Constant_bool ⟨.bl b, H, I, rfl, h⟩
theorem pe_str {x j pos} : PE X (.Constant (.str x) j pos) (tC (.str x)) := fun _ _ _ H _ I h => Calls.Constant_str ⟨.str x, H, I.tok _, ⟨_, rfl⟩, h⟩
def Gl (X : Cx) (x : Str) : Prop := X.env.kindOf x = some .globalImplicit
theorem ld_glob {E : Value → Shared → Prop} {pins : List (Addr × Obj)} {s : Shared} {σ : St} {H : Hp} {x : Str} {u : Value} {pos : Pos} {Q : Value → Shared → Prop} (I : Inv X pins σ H s) (hg : Gl X x) (hm : X.mg x = some u) (h : Q u s)
  (hd : (x == ("__debug__" : Str)) = false := by decide) : wpAny (model X.prog X.w) X.A (eval (.Name x pos) X.env) Q E s :=
 Calls.Name_function_global I.ok.kind hg (Calls.loadGlobal_global (by rw [I.ok.glob]; exact I.mod.glob.keeps I.bk) hm h) hd
theorem ld_blt {E : Value → Shared → Prop} {pins : List (Addr × Obj)} {s : Shared} {σ : St} {H : Hp} {x : Str} {u : Value} {pos : Pos} {Q : Value → Shared → Prop} (I : Inv X pins σ H s) (hg : Gl X x) (hm : X.mg x = none) (hv : bootBuiltins x = some u) (h : Q u s)
  (hn : x ≠ "__name__" := by decide) (hd : (x == ("__debug__" : Str)) = false := by decide) : wpAny (model X.prog X.w) X.A (eval (.Name x pos) X.env) Q E s := by
 obtain ⟨mb, h1, h2⟩ := I.mod.blt
 exact Calls.Name_function_global I.ok.kind hg (Calls.loadGlobal_builtin (by rw [I.ok.glob]; exact I.mod.glob.keeps I.bk) hm (by rw [I.ok.blt]; exact h1.keeps I.bk) ((h2 x hn).trans hv) h) hd
theorem pe_glob {x : Str} {v : V} {u : Value} {pos : Pos} (hg : Gl X x) (hm : X.mg x = some u) (r : RelV v u) (hd : (x == ("__debug__" : Str)) = false := by decide) : PE X (.Name x pos) (tC v) :=
 fun _ _ _ H _ I h => ld_glob I hg hm ⟨v, H, I, r, h⟩ hd
theorem pe_bltn {x : Str} {v : V} {u : Value} {pos : Pos} (hg : Gl X x) (hm : X.mg x = none) (hv : bootBuiltins x = some u) (r : RelV v u) (hn : x ≠ "__name__" := by decide) (hd : (x == ("__debug__" : Str)) = false := by decide) : PE X (.Name x pos) (tC v) :=
 fun _ _ _ H _ I h => ld_blt I hg hm hv ⟨v, H, I, r, h⟩ hn hd
variable {a b : Expr} {ta tb : TE} {pos : Pos}
def PC (X : Cx) (op : CmpOp) (a b : Expr) (t : TE) : Prop :=
 ∀ (pins : List (Addr × Obj)) (s : Shared) (σ : St) (H : Hp) (Q : VK), Inv X pins σ H s → t σ H Q →
  wpAny (model X.prog X.w) X.A (eval a X.env) (fun v s₁ => wpAny (model X.prog X.w) X.A (eval b X.env) (fun u s₂ => wpAny (model X.prog X.w) X.A (compareOp op v u) (EP X pins σ Q) X.xe s₂) X.xe s₁) X.xe s
theorem nobehind (b : Expr) {op : CmpOp} (h : op ≠ .In) (h2 : op ≠ .NotIn) : behindInMarks op b = false := by
 have e1 : (op == CmpOp.In) = false := by cases op <;> first | rfl | exact absurd rfl h
 have e2 : (op == CmpOp.NotIn) = false := by cases op <;> first | rfl | exact absurd rfl h2
 cases b <;> simp [behindInMarks, e1, e2]
def tB (t : TE) : TT := fun σ H Q => t σ H fun x H1 => ∃ c, x = .bl c ∧ Q c H1
theorem pt_cmp {op : CmpOp} {t : TE} (h : PC X op a b t) (h1 : behindInMarks op b = false := by first | exact nobehind _ (by decide) (by decide) | rfl) : PT X (.Compare a [op] [b] pos) (tB t) := by
 intro pins s σ H Q I hw
 refine wpAny_isTrue_Compare1 (thn (h pins s σ H _ I hw) fun v s1 h1 => thn h1 fun u s2 h2 => thn h2 fun c s3 ⟨x, H1, I1, r1, q1⟩ => ?_) h1
 obtain ⟨d, rfl, q⟩ := q1
 cases r1
 exact wpAny_truthy_bool ⟨H1, I1, q⟩
theorem pt_val {e : Expr} {t : TE} (h : PE X e t) (he : ∀ whole, isTrue e X.env whole = (do let v ← whole; standAt e.pos; holding [v] (truthy v)) := by intro _; rfl) : PT X e (tB t) := by
 intro pins s σ H Q I hw
 refine isTrue_plain (thn (h pins s σ H _ I hw) fun v s1 ⟨x, H1, I1, r1, q1⟩ => ?_) (he _)
 obtain ⟨d, rfl, q⟩ := q1
 cases r1
 exact wpAny_truthy_bool ⟨H1, I1, q⟩
variable {tA tB' : TT} {rest : List Expr}
def tAnd (t u : TT) : TT := fun σ H Q => t σ H fun c H1 => if c = true then u σ H1 Q else Q false H1
def tOr (t u : TT) : TT := fun σ H Q => t σ H fun c H1 => if c = true then Q true H1 else u σ H1 Q
def tNot (t : TT) : TT := fun σ H Q => t σ H fun c H1 => Q (!c) H1
theorem pw_and1 (ha : PT X a tA) : PW X (.BoolOp .And [a] pos) tA := by
 intro wh pins s σ H Q I h
 refine isTrue_and (thn (ha pins s σ H Q I h) fun c s1 e => ?_)
 cases c with
 | true => exact isTrue_and_nil e
 | false => exact e
theorem pw_or1 (ha : PT X a tA) : PW X (.BoolOp .Or [a] pos) tA := by
 intro wh pins s σ H Q I h
 refine isTrue_or (thn (ha pins s σ H Q I h) fun c s1 e => ?_)
 cases c with
 | false => exact isTrue_or_nil e
 | true => exact e
theorem pw_and (ha : PT X a tA) (hb : PW X (.BoolOp .And (b :: rest) pos) tB') : PW X (.BoolOp .And (a :: b :: rest) pos) (tAnd tA tB') := by
 intro wh pins s σ H Q I h
 refine isTrue_and (thn (ha pins s σ H _ I h) fun c s1 ⟨H1, I1, q1⟩ => ?_)
 cases c with
 | true => exact hb wh pins s1 σ H1 Q I1 q1
 | false => exact ⟨H1, I1, q1⟩
theorem pw_or (ha : PT X a tA) (hb : PW X (.BoolOp .Or (b :: rest) pos) tB') : PW X (.BoolOp .Or (a :: b :: rest) pos) (tOr tA tB') := by
 intro wh pins s σ H Q I h
 refine isTrue_or (thn (ha pins s σ H _ I h) fun c s1 ⟨H1, I1, q1⟩ => ?_)
 cases c with
 | true => exact ⟨H1, I1, q1⟩
 | false => exact hb wh pins s1 σ H1 Q I1 q1
theorem pt_not (ha : PT X a tA) : PT X (.UnaryOp .Not a pos) (tNot tA) := by
 intro pins s σ H Q I h
 exact isTrue_not (ha pins s σ H (fun c H1 => Q (!c) H1) I h)
def tAndV (ta tb : TE) : TE := fun σ H Q => ta σ H fun x H1 => ∃ c, x = .bl c ∧ if c = true then tb σ H1 Q else Q (.bl false) H1
def tOrV (ta tb : TE) : TE := fun σ H Q => ta σ H fun x H1 => ∃ c, x = .bl c ∧ if c = true then Q (.bl true) H1 else tb σ H1 Q
def tNotV (ta : TE) : TE := fun σ H Q => ta σ H fun x H1 => ∃ c, x = .bl c ∧ Q (.bl (!c)) H1
theorem pe_one {op} {t : TE} (h : PE X a t) : PE X (.BoolOp op [a] pos) t := fun pins s σ H Q I hw => BoolOp_one (h pins s σ H Q I hw)
theorem pe_and (ha : PE X a ta) (hb : PE X (.BoolOp .And (b :: rest) pos) tb) : PE X (.BoolOp .And (a :: b :: rest) pos) (tAndV ta tb) := by
 intro pins s σ H Q I h
 refine BoolOp_and (thn (ha pins s σ H _ I h) fun v s1 ⟨x, H1, I1, r1, q1⟩ => ?_)
 obtain ⟨c, rfl, q1⟩ := q1
 cases r1
 refine wpAny_truthy_bool ?_
 cases c with
 | true => exact hb pins s1 σ H1 Q I1 q1
 | false => exact ⟨.bl false, H1, I1, rfl, q1⟩
theorem pe_or (ha : PE X a ta) (hb : PE X (.BoolOp .Or (b :: rest) pos) tb) : PE X (.BoolOp .Or (a :: b :: rest) pos) (tOrV ta tb) := by
 intro pins s σ H Q I h
 refine BoolOp_or (thn (ha pins s σ H _ I h) fun v s1 ⟨x, H1, I1, r1, q1⟩ => ?_)
 obtain ⟨c, rfl, q1⟩ := q1
 cases r1
 refine wpAny_truthy_bool ?_
 cases c with
 | false => exact hb pins s1 σ H1 Q I1 q1
 | true => exact ⟨.bl true, H1, I1, rfl, q1⟩
theorem pe_not (ha : PE X a ta) : PE X (.UnaryOp .Not a pos) (tNotV ta) := by
 intro pins s σ H Q I h
 refine UnaryOp_ (thn (ha pins s σ H _ I h) fun v s1 ⟨x, H1, I1, r1, q1⟩ => ?_)
 obtain ⟨c, rfl, q1⟩ := q1
 cases r1
 exact not_of (wpAny_truthy_bool ⟨.bl (!c), H1, I1, rfl, q1⟩)
end
def SqL (K : PySem.W.Frag) (H : Hp) (a : Addr) (xs : List V) : Prop :=
 Rd H a (.lst xs) ∨
  ∃ (o : Obj) (its : Array Value) (n : Nat), K.lookup a = some o ∧ o.cls = .type "list" ∧ o.dict = none ∧ o.data = .seq its n ∧ its.size ≤ sizeLine ∧ Vals xs its.toList
def SqT (K : PySem.W.Frag) (H : Hp) (a : Addr) (xs : List V) : Prop :=
 Rd H a (.tup xs) ∨
  ∃ (o : Obj) (its : Array Value) (n : Nat), K.lookup a = some o ∧ o.cls = .type "tuple" ∧ o.data = .seq its n ∧ its.size ≤ sizeLine ∧ Vals xs its.toList
def absV : Value → Option V
 | .none => some .non
 | .bool b => some (.bl b)
 | .int i _ => some (.int i)
 | .str x _ => some (.str x)
 | .bytes b _ => some (.byt b)
 | .float b _ => some (.flt b)
 | .ref a => some (.ref a)
 | .type n => some (.ty n)
 | _ => none
theorem RelV.abs {x : V} {u : Value} (r : RelV x u) : absV u = some x := by
 cases x with
 | non => cases r; rfl
 | bl _ => cases r; rfl
 | int _ => obtain ⟨t, rfl⟩ := r; rfl
 | str _ => obtain ⟨t, rfl⟩ := r; rfl
 | byt _ => obtain ⟨t, rfl⟩ := r; rfl
 | flt _ => obtain ⟨t, rfl⟩ := r; rfl
 | ref _ => cases r; rfl
 | ty _ => cases r; rfl
theorem RelV.inj {x y : V} {u : Value} (r : RelV x u) (q : RelV y u) : x = y := Option.some.inj (r.abs.symm.trans q.abs)
theorem Vals.inj : ∀ {xs ys : List V} {us : List Value}, Vals xs us → Vals ys us → xs = ys
 | _, _, _, .nil, .nil => rfl
 | _, _, _, .cons r t, .cons r' t' => by rw [r.inj r', Vals.inj t t']
section
variable {X : Cx} {pins : List (Addr × Obj)} {σ : St} {H : Hp} {s : Shared} {a : Addr} {xs ys : List V}
theorem SqL.of {K : PySem.W.Frag} (h : H a = some (.lst xs)) : SqL K H a xs := .inl (.inl h)
theorem SqT.of {K : PySem.W.Frag} (h : H a = some (.tup xs)) : SqT K H a xs := .inl (.inl h)
theorem Inv.list (I : Inv X pins σ H s) (h : SqL X.K H a xs) : ∃ its : List Value, Vals xs its ∧ PlainL s.heap a its.toArray ∧ xs.length ≤ sizeLine := by
 rcases h with h | ⟨o, its, n, hk, hc, hd, hs, hz, r⟩
 ·obtain ⟨z, its, n, r, e⟩ := h.ok I.hok
  exact ⟨its, r, ⟨_, n, e, rfl, rfl, rfl⟩, z⟩
 ·refine ⟨its.toList, r, ⟨o, n, I.kIn a o hk, hc, hd, by simpa using hs⟩, ?_⟩
  have e := r.length
  simp only [Array.length_toList] at e
  omega
theorem Inv.tuple (I : Inv X pins σ H s) (h : SqT X.K H a xs) : ∃ its : List Value, Vals xs its ∧ IsTup s.heap a its.toArray ∧ xs.length ≤ sizeLine := by
 rcases h with h | ⟨o, its, n, hk, hc, hs, hz, r⟩
 ·obtain ⟨z, its, r, p, _⟩ := h.ok I.hok
  exact ⟨its, r, p, z⟩
 ·refine ⟨its.toList, r, ⟨o, I.kIn a o hk, hc, n, by simpa using hs⟩, ?_⟩
  have e := r.length
  simp only [Array.length_toList] at e
  omega
theorem Inv.list_inj (I : Inv X pins σ H s) (h : SqL X.K H a xs) (h' : SqL X.K H a ys) : xs = ys := by
 obtain ⟨its, r, ⟨o, n, e, _, _, d⟩, _⟩ := I.list h
 obtain ⟨its', r', ⟨o', n', e', _, _, d'⟩, _⟩ := I.list h'
 rw [e] at e'; cases e'
 rw [d] at d'
 injection d' with d1 _
 have : its = its' := by simpa using congrArg Array.toList d1
 subst this
 exact r.inj r'
theorem Inv.tuple_inj (I : Inv X pins σ H s) (h : SqT X.K H a xs) (h' : SqT X.K H a ys) : xs = ys := by
 obtain ⟨its, r, ⟨o, e, _, n, d⟩, _⟩ := I.tuple h
 obtain ⟨its', r', ⟨o', e', _, n', d'⟩, _⟩ := I.tuple h'
 rw [e] at e'; cases e'
 rw [d] at d'
 injection d' with d1 _
 have : its = its' := by simpa using congrArg Array.toList d1
 subst this
 exact r.inj r'
end
abbrev Cx.wish (X : Cx) (E : Value → Shared → Prop) : Cx := { X with xe := E }
abbrev Cx.nox (X : Cx) : Cx := X.wish fun _ _ => False
theorem Cx.Ok.wish {X : Cx} (ok : X.Ok) (E : Value → Shared → Prop) : (X.wish E).Ok :=
 ⟨ok.mod, ok.kind, ok.glob, ok.blt, ok.above, ok.inj, ok.has, ok.cab, ok.hd, ok.frames, ok.stk, ok.exf, ok.bs, ok.bsz, ok.noex, ok.exfs, ok.funs, ok.frf⟩
theorem Cx.Ok.unwish {X : Cx} {E : Value → Shared → Prop} (ok : (X.wish E).Ok) : X.Ok :=
 ⟨ok.mod, ok.kind, ok.glob, ok.blt, ok.above, ok.inj, ok.has, ok.cab, ok.hd, ok.frames, ok.stk, ok.exf, ok.bs, ok.bsz, ok.noex, ok.exfs, ok.funs, ok.frf⟩
section
variable {X : Cx} {pins : List (Addr × Obj)} {σ : St} {H : Hp} {s : Shared} {E : Value → Shared → Prop}
theorem Inv.wish (I : Inv X pins σ H s) (E : Value → Shared → Prop) : Inv (X.wish E) pins σ H s := ⟨I.ok.wish E, I.os, I.bare, I.base, I.loc, I.cell, I.free, I.freeC, I.pin, I.hok, I.len⟩
theorem Inv.unwish (I : Inv (X.wish E) pins σ H s) : Inv X pins σ H s := ⟨I.ok.unwish, I.os, I.bare, I.base, I.loc, I.cell, I.free, I.freeC, I.pin, I.hok, I.len⟩
theorem SP.unwish {D : Ends} {f : Flow} {s' : Shared} (h : SP (X.wish E) pins D f s') : SP X pins D f s' := by
 cases f with
 | next => obtain ⟨σ', H', I, q⟩ := h; exact ⟨σ', H', I.unwish, q⟩
 | brk => obtain ⟨σ', H', I, q⟩ := h; exact ⟨σ', H', I.unwish, q⟩
 | cont => obtain ⟨σ', H', I, q⟩ := h; exact ⟨σ', H', I.unwish, q⟩
 | ret u => obtain ⟨v, σ', H', I, r, q⟩ := h; exact ⟨v, σ', H', I.unwish, r, q⟩
theorem PE.nox {e : Expr} {t : TE} (h : PE X.nox e t) : PE X e t := fun pins s σ H Q I hw =>
 wpAny_mono (h pins s σ H Q (I.wish _) hw) (fun _ _ ⟨v, H', I', r, q⟩ => ⟨v, H', I'.unwish, r, q⟩) fun _ _ z => False.elim z
theorem PT.nox {e : Expr} {t : TT} (h : PT X.nox e t) : PT X e t := fun pins s σ H Q I hw =>
 wpAny_mono (h pins s σ H Q (I.wish _) hw) (fun _ _ ⟨H', I', q⟩ => ⟨H', I'.unwish, q⟩) fun _ _ z => False.elim z
theorem PSs.nox {st : List Stmt} {t : TS} (h : PSs X.nox st t) : PSs X st t := fun pins s σ H D I hw =>
 wpAny_mono (h pins s σ H D (I.wish _) hw) (fun _ _ q => q.unwish) fun _ _ z => False.elim z
end
section
variable {X : Cx} {st : Stmt} {rest : List Stmt} {t u : TS} {e : Expr} {te : TE} {pos : Pos}
def tNext : TS := fun D σ H => D.nx σ H
def tSeq (t u : TS) : TS := fun D σ H => t { D with nx := u D } σ H
theorem pss_nil : PSs X [] tNext := fun _ _ σ H _ I h => wpAny_execs_nil ⟨σ, H, I, h⟩
theorem pss_cons (h1 : PS X st t) (h2 : PSs X rest u) : PSs X (st :: rest) (tSeq t u) := by
 intro pins s σ H D I h
 refine wpAny_execs_cons (thn (h1 pins s σ H { D with nx := u D } I h) fun f s1 q => ?_)
 cases f with
 | next =>
  obtain ⟨σ', H', I', q⟩ := q
  exact h2 pins s1 σ' H' D I' q
 | ret v => exact q
 | brk => exact q
 | cont => exact q
theorem pss_one (h1 : PS X st t) : PSs X [st] t := by
 intro pins s σ H D I h
 refine wpAny_execs_cons (thn (h1 pins s σ H D I h) fun f s1 q => ?_)
 cases f with
 | next => exact wpAny_execs_nil q
 | ret v => exact q
 | brk => exact q
 | cont => exact q
theorem Inv.quiet {pins : List (Addr × Obj)} {σ : St} {H : Hp} {s : Shared} (I : Inv X pins σ H s) : interactive X.env = false := by simp [interactive, I.ok.kind]
def tDrop (te : TE) : TS := fun D σ H => te σ H fun _ H1 => D.nx σ H1
theorem ps_expr (he : PE X e te) (hs : swapsWith e none pos.line X.env = pure false := by rfl) : PS X (.Expr e pos) (tDrop te) := by
 intro pins s σ H D I h
 exact wpAny_Expr_any (thn (he pins s σ H _ I h) fun v s1 ⟨x, H1, I1, r1, q1⟩ => ⟨σ, H1, I1, q1⟩) I.quiet hs
def tRet (te : TE) : TS := fun D σ H => te σ H D.rt
theorem ps_ret (he : PE X e te) : PS X (.Return (some e) pos) (tRet te) := by
 intro pins s σ H D I h
 exact wpAny_Return_some (thn (he pins s σ H _ I h) fun v s1 ⟨x, H1, I1, r1, q1⟩ => ⟨x, σ, H1, I1, r1, q1⟩)
def tIfS (c : TT) (t u : TS) : TS := fun D σ H => c σ H fun b H1 => if b = true then t D σ H1 else u D σ H1
theorem ps_if {c : Expr} {a b : List Stmt} {tc : TT} (hc : PT X c tc) (ha : PSs X a t) (hb : PSs X b u) : PS X (.If c a b pos) (tIfS tc t u) := by
 intro pins s σ H D I h
 refine wpAny_If (thn (hc pins s σ H _ I h) fun d s1 ⟨H1, I1, q1⟩ => ?_)
 cases d with
 | true => exact ha pins s1 σ H1 D I1 q1
 | false => exact hb pins s1 σ H1 D I1 q1
end
abbrev TG := V → St → Hp → (St → Hp → Prop) → Prop
abbrev TGs := List V → St → Hp → (St → Hp → Prop) → Prop
def PG (X : Cx) (target : Expr) (t : TG) : Prop :=
 ∀ (pins : List (Addr × Obj)) (s : Shared) (σ : St) (H : Hp) (v : V) (u : Value) (Q : St → Hp → Prop), Inv X pins σ H s → RelV v u → t v σ H Q →
  wpAny (model X.prog X.w) X.A (assign target X.env u) (fun _ s' => ∃ σ' H', Inv X pins σ' H' s' ∧ Q σ' H') X.xe s
def PGs (X : Cx) (ts : List Expr) (t : TGs) : Prop :=
 ∀ (pins : List (Addr × Obj)) (s : Shared) (σ : St) (H : Hp) (vs : List V) (us : List Value) (Q : St → Hp → Prop), Inv X pins σ H s → Vals vs us → t vs σ H Q →
  wpAny (model X.prog X.w) X.A (assignInOrder ((assignEach ts X.env).map (·.2)) us) (fun _ s' => ∃ σ' H', Inv X pins σ' H' s' ∧ Q σ' H') X.xe s
abbrev TSet := V → V → V → Hp → (Hp → Prop) → Prop
def PSet (X : Cx) (t : TSet) : Prop :=
 ∀ (pins : List (Addr × Obj)) (s : Shared) (σ : St) (H : Hp) (o i v : V) (ov iv u : Value) (Q : Hp → Prop), Inv X pins σ H s → RelV o ov → RelV i iv → RelV v u → t o i v H Q →
  wpAny (model X.prog X.w) X.A (setItem ov iv u) (fun _ s' => ∃ H', Inv X pins σ H' s' ∧ Q H') X.xe s
section
variable {X : Cx} {pos : Pos}
def gName (i : Nat) : TG := fun v σ H Q => Q (σ.set i (some v)) H
theorem pg_name {i : Nat} {x : Str} (hN : X.N.Nodup) (hi : X.N[i]? = some x) (hx : Loc X.env.scope x) (hf : X.fn x = true ∨ X.env.scope.names.lookup x = some .local := by first | exact .inl rfl | exact .inr rfl | assumption) : PG X (.Name x pos) (gName i) := by
 intro pins s σ H v u Q I r h
 exact wpAny_assign_Name (store_ok I hN hi hx r (fun s' I' => ⟨_, H, I', h⟩) hf)
def gNil : TGs := fun vs σ H Q => vs = [] ∧ Q σ H
def gCons (t : TG) (u : TGs) : TGs := fun vs σ H Q => ∃ v r, vs = v :: r ∧ t v σ H fun σ' H' => u r σ' H' Q
theorem pgs_nil : PGs X [] gNil := by
 intro pins s σ H vs us Q I r h
 obtain ⟨e, h⟩ := h
 subst e
 cases r
 exact assignInOrder_nil ⟨σ, H, I, h⟩
theorem pgs_cons {e : Expr} {es : List Expr} {t : TG} {u : TGs} (h1 : PG X e t) (h2 : PGs X es u)
  (hs : (assignEach (e :: es) X.env).map (·.2) = assign e X.env :: (assignEach es X.env).map (·.2) := by rfl) : PGs X (e :: es) (gCons t u) := by
 intro pins s σ H vs us Q I r h
 obtain ⟨v, vr, e1, h⟩ := h
 subst e1
 cases r with
 | cons r rr =>
  rw [hs]
  refine assignInOrder_cons (thn (h1 pins s σ H _ _ _ I r h) fun _ s1 ⟨σ1, H1, I1, q1⟩ => ?_)
  exact h2 pins s1 σ1 H1 _ _ Q I1 rr q1
def gTup (K : PySem.W.Frag) (n : Nat) (t : TGs) : TG := fun v σ H Q => ∃ a xs, v = .ref a ∧ SqT K H a xs ∧ xs.length = n ∧ t xs σ H Q
theorem pg_tup {es : List Expr} {k : Nat} {t : TGs} {n : Nat} (hc : X.calm = true) (h : PGs X es t)
  (hn : (assignEach es X.env).length = n := by rfl) (hst : (assignEach es X.env).findIdx? (·.1) = none := by rfl) : PG X (.Tuple es k pos) (gTup X.K n t) := by
 intro pins s σ H v u Q I r hw
 obtain ⟨a, xs, e1, hq, hl, hw⟩ := hw
 subst e1
 cases r
 obtain ⟨its, rv, ht, hz⟩ := I.tuple hq
 refine assign_Tuple_tuple (I.ok.hd hc) ht (by simp [hn, ← hl, rv.length]) hst fun h' hx => ?_
 have I1 : Inv X pins σ H { s with heap := h' } := I.kept (t' := s.toks) fun b o e => hx b o (Nat.ne_of_lt (Heap.lt_size e)) e
 exact h pins _ σ H xs _ Q I1 (by simpa using rv) hw
def gSub (to ti : TE) (t : TSet) : TG := fun v σ H Q => to σ H fun o H1 => ti σ H1 fun i H2 => t o i v H2 fun H3 => Q σ H3
theorem pg_sub {o i : Expr} {to ti : TE} {t : TSet} (ho : PE X o to) (hi : PE X i ti) (hs : PSet X t)
  (ha : ∀ v, assign (.Subscript o i pos) X.env v = (do
   let ov ← holding [v] (eval o X.env)
   let iv ← holding [v, ov] (eval i X.env)
   standAt pos
   holding [v, ov, iv] (setItem ov iv v)
   release [v, ov, iv] []) := by intro _; rfl) : PG X (.Subscript o i pos) (gSub to ti t) := by
 intro pins s σ H v u Q I r h
 rw [ha]
 refine wpAny_bind (wpAny_holding (thn (ho pins s σ H _ I h) fun ov s1 ⟨x, H1, I1, r1, q1⟩ => ?_))
 refine wpAny_bind (wpAny_holding (thn (hi pins s1 σ H1 _ I1 q1) fun iv s2 ⟨y, H2, I2, r2, q2⟩ => ?_))
 refine wpAny_bind (wpAny_standAt (wpAny_bind (wpAny_holding (thn (hs pins s2 σ H2 x y v ov iv u _ I2 r1 r2 r q2) fun _ s3 ⟨H3, I3, q3⟩ => ?_))))
 exact wpAny_release ⟨σ, H3, I3, q3⟩
def tAsg (te : TE) (g : TG) : TS := fun D σ H => te σ H fun x H1 => g x σ H1 D.nx
theorem ps_asg {tg e : Expr} {te : TE} {g : TG} (he : PE X e te) (hg : PG X tg g) (hs : swapsWithSole [tg] e pos.line X.env = pure false := by rfl) (hw : swappedStores [tg] e X.env = pure none := by rfl)
  (h1 : (assignEach [tg] X.env).map (·.2) = [assign tg X.env] := by rfl) : PS X (.Assign [tg] e pos) (tAsg te g) := by
 intro pins s σ H D I h
 refine wpAny_Assign_stores (thn (he pins s σ H _ I h) fun v s1 ⟨x, H1, I1, r1, q1⟩ => ?_) hs hw
 rw [h1]
 exact thn (hg pins s1 σ H1 x v _ I1 r1 q1) fun _ s2 q => q
theorem ps_set {i : Nat} {x : Str} {e : Expr} {te : TE} {pos' : Pos} (hN : X.N.Nodup) (hi : X.N[i]? = some x) (hx : Loc X.env.scope x) (he : PE X e te) (hs : swapsWith e (some (.Name x pos')) pos.line X.env = pure false := by rfl) (hf : X.fn x = true ∨ X.env.scope.names.lookup x = some .local := by first | exact .inl rfl | exact .inr rfl | assumption) :
  PS X (.Assign [.Name x pos'] e pos) (tAsg te (gName i)) := by
 intro pins s σ H D I h
 refine wpAny_Assign_Name (thn (he pins s σ H _ I h) fun v s1 ⟨y, H1, I1, r1, q1⟩ => ?_) hs
 exact store_ok I1 hN hi hx r1 (fun s2 I2 => ⟨_, H1, I2, q1⟩) hf
end
section
variable {X : Cx} {pos : Pos}
def tWhile (c : TT) (tb : TS) : TS := fun D σ H => ∃ W : Nat → St → Hp → Prop, (∃ m, W m σ H) ∧ ∀ m σ H, W m σ H →
 c σ H fun b H1 => if b = true then ∃ N : St → Hp → Prop, (∀ σ' H', N σ' H' → ∃ m', m' < m ∧ W m' σ' H') ∧ tb { D with nx := N, ct := N, bk := D.nx } σ H1 else D.nx σ H1
theorem ps_while {c : Expr} {body : List Stmt} {tc : TT} {tb : TS} (hp : PassesOwn (model X.prog X.w) X.A X.env X.xe) (hc : PT X c tc) (hb : PSs X body tb) : PS X (.While c body [] pos) (tWhile tc tb) := by
 intro pins s σ H D I h
 obtain ⟨W, ⟨m0, w0⟩, turn⟩ := h
 refine wpAny_While (codeAny_whileLoop (fun n s' => ∃ σ' H', Inv X pins σ' H' s' ∧ W n σ' H') ?_ m0 ⟨σ, H, I, w0⟩)
 rintro n s1 ⟨σ1, H1, I1, w1⟩
 refine wpAny_passesOwn hp (thn (hc pins s1 σ1 H1 _ I1 (turn n σ1 H1 w1)) fun b s2 ⟨H2, I2, q2⟩ => ?_)
 cases b with
 | true =>
  obtain ⟨N, hN, q2⟩ := q2
  rw [if_pos rfl]
  refine wpAny_passesOwn hp (thn (hb pins s2 σ1 H2 _ I2 q2) fun f s3 q3 => ?_)
  cases f with
  | next =>
   obtain ⟨σ3, H3, I3, n3⟩ := q3
   obtain ⟨m', hm, w3⟩ := hN σ3 H3 n3
   exact ⟨m', hm, σ3, H3, I3, w3⟩
  | cont =>
   obtain ⟨σ3, H3, I3, n3⟩ := q3
   obtain ⟨m', hm, w3⟩ := hN σ3 H3 n3
   exact ⟨m', hm, σ3, H3, I3, w3⟩
  | brk => exact q3
  | ret v => exact q3
 | false =>
  rw [if_neg Bool.false_ne_true]
  exact wpAny_execs_nil ⟨σ1, H2, I2, q2⟩
end
structure It where
 go : Nat → Hp → Prop
 yld : Nat → Hp → V → Hp → Prop
 stop : Nat → Hp → Prop
def FpOk (X : Cx) (pins : List (Addr × Obj)) (H : Hp) (b : Addr) : Prop :=
 H b = none ∧ b ≠ X.env.locals ∧ b ∉ X.fs ∧ (b ∈ X.ex ∨ X.s₀.heap.objs.size ≤ b) ∧ (∀ x c, X.env.cells.lookup x = some c → c ≠ b) ∧ ∀ p ∈ X.pn ++ pins, p.1 ≠ b
theorem Inv.fpOk {X : Cx} {pins : List (Addr × Obj)} {σ : St} {H H' : Hp} {s : Shared} {b : Addr} (I : Inv X pins σ H s) (hb : s.heap.objs.size ≤ b) (hn : H' b = none) : FpOk X pins H' b := by
 refine ⟨hn, Nat.ne_of_gt (Nat.lt_of_lt_of_le I.lt hb), I.nofs hb, .inr (Nat.le_trans I.sz hb), fun x c e z => ?_, fun p hp z => ?_⟩
 ·obtain ⟨v, q⟩ := I.cell x c e
  exact absurd (Nat.lt_of_lt_of_le q.lt (by rw [z]; exact hb)) (Nat.lt_irrefl _)
 ·exact absurd (Nat.lt_of_lt_of_le (Heap.lt_size (I.pin p hp).1) (by rw [z]; exact hb)) (Nat.lt_irrefl _)
structure Turn (P : Program) (w : World) (K : PySem.W.Frag) (tg : Expr) (J : It) (fp : List Addr) (it : Addr) (tn : Nat → Heap → Prop) : Prop where
 mem : it ∈ fp
 obj : ∀ i h, tn i h → ∀ b ∈ fp, ∃ o, h.get? b = some o ∧ ∀ v, o.data ≠ .cell v
 keep : ∀ i h h', tn i h → (∀ b ∈ fp, ∀ o, h.get? b = some o → h'.get? b = some o) → tn i h'
 item : ∀ (X : Cx), X.prog = P → X.w = w → X.K = K → X.calm = true → ∀ (i : Nat) (pins : List (Addr × Obj)) (s : Shared) (σ : St) (H : Hp) (E : Value → Shared → Prop), Inv X pins σ H s → (∀ b ∈ fp, FpOk X pins H b) → tn i s.heap → J.go i H →
  wpAny (model P w) X.A (pyNext (.ref it)) (fun r s1 => ∃ u, r = some u ∧
   wpAny (model P w) X.A (letOwnedTupleGo tg (.ref it) u) (fun _ s2 => ∃ x H', Inv X pins σ H' s2 ∧ RelV x u ∧ J.yld i H x H' ∧ tn (i + 1) s2.heap ∧ ∀ b ∈ fp, H' b = none) E s1) E s
 done : ∀ (X : Cx), X.prog = P → X.w = w → X.K = K → X.calm = true → ∀ (i : Nat) (pins : List (Addr × Obj)) (s : Shared) (σ : St) (H : Hp) (E : Value → Shared → Prop), Inv X pins σ H s → (∀ b ∈ fp, FpOk X pins H b) → tn i s.heap → J.stop i H →
  wpAny (model P w) X.A (pyNext (.ref it)) (fun r s1 => r = none ∧ Inv X pins σ H s1) E s
 self : ∀ (A : Around) (i : Nat) (s : Shared) (Q : Value → Shared → Prop) (E : Value → Shared → Prop), tn i s.heap → Q (.ref it) s → wpAny (model P w) A (pyIter (.ref it)) Q E s
abbrev TI := St → Hp → (It → Hp → Prop) → Prop
def PIE (X : Cx) (pins : List (Addr × Obj)) (σ : St) (tg : Expr) (R : It → Hp → Prop) (itv : Value) (s2 : Shared) : Prop :=
 ∃ (it : Addr) (fp : List Addr) (tn : Nat → Heap → Prop) (J : It) (H' : Hp), itv = .ref it ∧ Inv X pins σ H' s2 ∧ Turn X.prog X.w X.K tg J fp it tn ∧ tn 0 s2.heap ∧ (∀ b ∈ fp, FpOk X pins H' b) ∧ R J H'
def PI (X : Cx) (tg iter : Expr) (wi : TI) : Prop :=
 ∀ (pins : List (Addr × Obj)) (s : Shared) (σ : St) (H : Hp) (R : It → Hp → Prop), Inv X pins σ H s → wi σ H R →
  wpAny (model X.prog X.w) X.A (eval iter X.env) (fun v s1 => wpAny (model X.prog X.w) X.A (pyIter v) (PIE X pins σ tg R) X.xe s1) X.xe s
theorem go_of {M : Model} {A : Around} {E : Value → Shared → Prop} {s : Shared} {tg : Expr} {it : Addr} {u : Value} {o : Obj} {n : String} {vs : Array Value} {Q : Unit → Shared → Prop} (ho : s.heap.get? it = some o) (hc : o.cls = .type n) (hd : o.data = .fields vs)
  (hn : ["enumerate", "zip", "dict_itemiterator", "dict_reverseitemiterator", "odict_iterator", "itertools.zip_longest", "itertools.pairwise"].contains n = false) (hQ : Q () s) : wpAny M A (letOwnedTupleGo tg (.ref it) u) Q E s := by
 unfold letOwnedTupleGo
 cases tg <;> first
  | exact wpAny_pure hQ
  | (cases u <;> first
    | exact wpAny_pure hQ
    | (refine wpAny_bind (wpAny_load ho ?_)
       rw [hc, hd]
       show wpAny M A (if (["enumerate", "zip", "dict_itemiterator", "dict_reverseitemiterator", "odict_iterator", "itertools.zip_longest", "itertools.pairwise"].contains n && vs[0]? == some (rawInt _)) = true then _ else _) Q E s
       rw [if_neg (by intro h; rw [hn, Bool.false_and] at h; cases h)]
       exact wpAny_pure hQ))
def Itl (K : PySem.W.Frag) (a : Addr) : It :=
 ⟨fun i H => ∃ xs x, SqL K H a xs ∧ xs[i]? = some x, fun i H x H' => H' = H ∧ ∀ xs, SqL K H a xs → xs[i]? = some x, fun i H => ∃ xs, SqL K H a xs ∧ xs.length ≤ i⟩
def Itt (K : PySem.W.Frag) (a : Addr) : It :=
 ⟨fun i H => ∃ xs x, SqT K H a xs ∧ xs[i]? = some x, fun i H x H' => H' = H ∧ ∀ xs, SqT K H a xs → xs[i]? = some x, fun i H => ∃ xs, SqT K H a xs ∧ xs.length ≤ i⟩
def Itr (lo : Int) (n : Nat) : It := ⟨fun i _ => i < n, fun i H x H' => H' = H ∧ x = .int (lo + i), fun i _ => n ≤ i⟩
theorem turn_list {P : Program} {w : World} {K : PySem.W.Frag} {tg : Expr} (a it : Addr) : Turn P w K tg (Itl K a) [it] it (fun i h => h.IsListIter it a i) where
 mem := by simp
 obj := fun i h st b hb => by
  have e : b = it := by simpa using hb
  subst e
  obtain ⟨o, e, c, d⟩ := st
  exact ⟨o, e, fun v z => by rw [d] at z; cases z⟩
 keep := fun i h h' st k => st.at fun o e => k it (by simp) o e
 item := by
  intro X hP hw hK hc i pins s σ H E I hf st hg
  subst hP hw hK
  obtain ⟨xs, x, hq, hx⟩ := hg
  obtain ⟨its, rv, p, hz⟩ := I.list hq
  obtain ⟨u, hu, ru⟩ := rv.get hx
  obtain ⟨f0, f1, f2, f3, f4, f5⟩ := hf it (by simp)
  refine wpAny_pyNext_list_item st p.isList (x := u) (by simpa using hu) fun h' st' sb => ?_
  have I1 : Inv X pins σ H { s with heap := h' } := I.turned (t' := s.toks) (fun b o hb e => (sb.2 b hb).trans e) f0 f1 f3 f4 f5
  obtain ⟨o, e, c, d⟩ := id st'
  exact ⟨u, rfl, go_of (s := { s with heap := h' }) e c d (by decide) ⟨x, H, I1, ru, ⟨rfl, fun ys hy => by rw [I.list_inj hy hq]; exact hx⟩, st', fun b hb => (hf b hb).1⟩⟩
 done := by
  intro X hP hw hK hc i pins s σ H E I hf st hg
  subst hP hw hK
  obtain ⟨xs, hq, hx⟩ := hg
  obtain ⟨its, rv, p, hz⟩ := I.list hq
  obtain ⟨f0, f1, f2, f3, f4, f5⟩ := hf it (by simp)
  have hl := rv.length
  exact wpAny_pyNext_list_end (I.ok.hd hc) st p.isList (by simp; omega) fun h' eb => ⟨rfl, I.turned (t' := s.toks) (fun b o hb e => eb b o hb e) f0 f1 f3 f4 f5⟩
 self := fun _ _ _ _ _ st h => wpAny_pyIter_listiter st h
theorem turn_tuple {P : Program} {w : World} {K : PySem.W.Frag} {tg : Expr} (a it : Addr) : Turn P w K tg (Itt K a) [it] it (fun i h => h.IsTupleIter it a i) where
 mem := by simp
 obj := fun i h st b hb => by
  have e : b = it := by simpa using hb
  subst e
  obtain ⟨o, e, c, d⟩ := st
  exact ⟨o, e, fun v z => by rw [d] at z; cases z⟩
 keep := fun i h h' st k => st.at fun o e => k it (by simp) o e
 item := by
  intro X hP hw hK hc i pins s σ H E I hf st hg
  subst hP hw hK
  obtain ⟨xs, x, hq, hx⟩ := hg
  obtain ⟨its, rv, p, hz⟩ := I.tuple hq
  obtain ⟨u, hu, ru⟩ := rv.get hx
  obtain ⟨f0, f1, f2, f3, f4, f5⟩ := hf it (by simp)
  refine wpAny_pyNext_tuple_item st (show s.heap.IsTuple a its.toArray from p) (x := u) (by simpa using hu) fun h' st' sb => ?_
  have I1 : Inv X pins σ H { s with heap := h' } := I.turned (t' := s.toks) (fun b o hb e => (sb.2 b hb).trans e) f0 f1 f3 f4 f5
  obtain ⟨o, e, c, d⟩ := id st'
  exact ⟨u, rfl, go_of (s := { s with heap := h' }) e c d (by decide) ⟨x, H, I1, ru, ⟨rfl, fun ys hy => by rw [I.tuple_inj hy hq]; exact hx⟩, st', fun b hb => (hf b hb).1⟩⟩
 done := by
  intro X hP hw hK hc i pins s σ H E I hf st hg
  subst hP hw hK
  obtain ⟨xs, hq, hx⟩ := hg
  obtain ⟨its, rv, p, hz⟩ := I.tuple hq
  obtain ⟨f0, f1, f2, f3, f4, f5⟩ := hf it (by simp)
  have hl := rv.length
  exact wpAny_pyNext_tuple_end (I.ok.hd hc) st (show s.heap.IsTuple a its.toArray from p) (by simp; omega) fun h' eb => ⟨rfl, I.turned (t' := s.toks) (fun b o hb e => eb b o hb e) f0 f1 f3 f4 f5⟩
 self := fun _ _ _ _ _ st h => wpAny_pyIter_tupleiter st h
theorem turn_range {P : Program} {w : World} {K : PySem.W.Frag} {tg : Expr} (it : Addr) (lo : Int) (n : Nat) : Turn P w K tg (Itr lo n) [it] it (fun i h => IsRangeIter h it (lo + (i : Nat) * 1) ((n : Int) - (i : Nat)) 1) where
 mem := by simp
 obj := fun i h st b hb => by
  have e : b = it := by simpa using hb
  subst e
  exact ⟨_, st, fun v z => by
   have z' : Data.fields _ = Data.cell v := z
   cases z'⟩
 keep := fun i h h' st k => k it (by simp) _ st
 item := by
  intro X hP hw hK hc i pins s σ H E I hf st hg
  subst hP hw hK
  obtain ⟨f0, f1, f2, f3, f4, f5⟩ := hf it (by simp)
  have W := Walks.range (prog := X.prog) (w := X.w) (I.ok.hd hc) it lo 1 n
  refine W.item i s _ _ hg st fun v h' tk hv st' kk => ?_
  obtain ⟨t, rfl⟩ := hv
  have I1 : Inv X pins σ H { s with heap := h', toks := tk } := I.turned (fun b o hb e => kk b o (by simpa using hb) e) f0 f1 f3 f4 f5
  refine ⟨_, rfl, go_of (s := { s with heap := h', toks := tk }) (n := "range_iterator") st' rfl rfl (by decide) ⟨.int (lo + i), H, I1, ⟨t, ?_⟩, ⟨rfl, rfl⟩, st', fun b hb => (hf b hb).1⟩⟩
  rw [Int.mul_one]
 done := by
  intro X hP hw hK hc i pins s σ H E I hf st hg
  subst hP hw hK
  obtain ⟨f0, f1, f2, f3, f4, f5⟩ := hf it (by simp)
  exact wpAny_pyNext_range_end (I.ok.hd hc) st (by have : n ≤ i := hg; omega) fun h' eb => ⟨rfl, I.turned (t' := s.toks) (fun b o hb e => eb b o hb e) f0 f1 f3 f4 f5⟩
 self := fun _ _ _ _ _ st h => wpAny_pyIter_rangeiter st h
section
variable {X : Cx} {tg : Expr}
def iList (K : PySem.W.Frag) (tl : TE) : TI := fun σ H R => tl σ H fun x H1 => ∃ a, x = .ref a ∧ (∃ xs, SqL K H1 a xs) ∧ R (Itl K a) H1
def iTup (K : PySem.W.Frag) (tl : TE) : TI := fun σ H R => tl σ H fun x H1 => ∃ a, x = .ref a ∧ (∃ xs, SqT K H1 a xs) ∧ R (Itt K a) H1
theorem pi_list {l : Expr} {tl : TE} (hl : PE X l tl) : PI X tg l (iList X.K tl) := by
 intro pins s σ H R I h
 refine thn (hl pins s σ H _ I h) fun v s1 ⟨x, H1, I1, r1, q1⟩ => ?_
 obtain ⟨a, e, ⟨xs, hq⟩, q⟩ := q1
 subst e
 cases r1
 obtain ⟨its, rv, p, hz⟩ := I1.list hq
 refine wpAny_pyIter_list p.isList ?_
 refine ⟨s1.heap.objs.size, [s1.heap.objs.size], _, _, H1, rfl, I1.kept (t' := s1.toks) fun b o e => Heap.get?_push_of_some _ e, turn_list a _, ⟨_, Heap.get?_push_size _ rfl, rfl, rfl⟩, fun b hb => ?_, q⟩
 have e : b = s1.heap.objs.size := by simpa using hb
 subst e
 exact I1.fpOk (Nat.le_refl _) (I1.hok.fresh (Nat.le_refl _))
theorem pi_tup {l : Expr} {tl : TE} (hl : PE X l tl) : PI X tg l (iTup X.K tl) := by
 intro pins s σ H R I h
 refine thn (hl pins s σ H _ I h) fun v s1 ⟨x, H1, I1, r1, q1⟩ => ?_
 obtain ⟨a, e, ⟨xs, hq⟩, q⟩ := q1
 subst e
 cases r1
 obtain ⟨its, rv, p, hz⟩ := I1.tuple hq
 refine wpAny_pyIter_tuple (show s1.heap.IsTuple a its.toArray from p) ?_
 refine ⟨s1.heap.objs.size, [s1.heap.objs.size], _, _, H1, rfl, I1.kept (t' := s1.toks) fun b o e => Heap.get?_push_of_some _ e, turn_tuple a _, ⟨_, Heap.get?_push_size _ rfl, rfl, rfl⟩, fun b hb => ?_, q⟩
 have e : b = s1.heap.objs.size := by simpa using hb
 subst e
 exact I1.fpOk (Nat.le_refl _) (I1.hok.fresh (Nat.le_refl _))
theorem range_it {pins : List (Addr × Obj)} {σ : St} {H : Hp} {s : Shared} {R : It → Hp → Prop} {E : Value → Shared → Prop} {lo hi : Int} {t u v : Tok} {tk : Nat} (I : Inv X pins σ H s) (h1 : -(2 ^ 62) ≤ lo) (h2 : lo < 2 ^ 62) (h3 : -(2 ^ 62) ≤ hi) (h4 : hi < 2 ^ 62)
  (q : R (Itr lo (hi - lo).toNat) H) : wpAny (model X.prog X.w) X.A (pyIter (.ref s.heap.objs.size)) (PIE X pins σ tg R) E { s with heap := s.heap.push { cls := .type "range", data := .fields #[.int lo t, .int hi u, .int 1 v] }, toks := tk } := by
 refine wpAny_pyIter_range (IsRange.new ..) (small_one h1 h2 h3 h4) ?_
 have I1 : Inv X pins σ H { s with heap := s.heap.push { cls := .type "range", data := .fields #[.int lo t, .int hi u, .int 1 v] }, toks := tk } := I.kept fun b o e => Heap.get?_push_of_some _ e
 refine ⟨(s.heap.push { cls := .type "range", data := .fields #[.int lo t, .int hi u, .int 1 v] }).objs.size, [(s.heap.push { cls := .type "range", data := .fields #[.int lo t, .int hi u, .int 1 v] }).objs.size], _, _, H, rfl,
  I1.kept (t' := tk) fun b o e => Heap.get?_push_of_some _ e, turn_range _ lo (hi - lo).toNat, ?_, fun b hb => ?_, q⟩
 ·have e1 : lo + ((0 : Nat) : Int) * 1 = lo := by simp
  have e2 : (((hi - lo).toNat : Nat) : Int) - ((0 : Nat) : Int) = Builtin.Range.rangeSize lo hi 1 := by rw [rangeSize_one]; split <;> omega
  show IsRangeIter _ _ (lo + ((0 : Nat) : Int) * 1) ((((hi - lo).toNat : Nat) : Int) - ((0 : Nat) : Int)) 1
  rw [e1, e2]
  exact Heap.get?_push_size _ rfl
 ·have e : b = (s.heap.push { cls := .type "range", data := .fields #[.int lo t, .int hi u, .int 1 v] }).objs.size := by simpa using hb
  subst e
  exact I1.fpOk (Nat.le_refl _) (I1.hok.fresh (Nat.le_refl _))
def iRng1 (ta : TA) : TI := fun σ H R => ta σ H fun vs H1 => ∃ j : Int, vs = [.int j] ∧ -(2 ^ 62) ≤ j ∧ j < 2 ^ 62 ∧ R (Itr 0 j.toNat) H1
def iRng2 (ta : TA) : TI := fun σ H R => ta σ H fun vs H1 => ∃ i j : Int, vs = [.int i, .int j] ∧ (-(2 ^ 62) ≤ i ∧ i < 2 ^ 62 ∧ -(2 ^ 62) ≤ j ∧ j < 2 ^ 62) ∧ R (Itr i (j - i).toNat) H1
theorem pi_range1 {a : Expr} {ta : TA} {p pos : Pos} (hg : Gl X "range") (hm : X.mg "range" = none) (ha : PA X [a] ta) (hs : starEach [a] X.env = [(false, eval a X.env)] := by rfl) : PI X tg (.Call (.Name "range" p) [a] [] pos) (iRng1 ta) := by
 intro pins s σ H R I h
 refine Call_ (ld_blt I hg hm boot_range (PyProof.Rows.callWith_type1 (thn (ha pos pins s σ H _ I h) fun us s1 ⟨vs, H1, I1, r1, q1⟩ => ?_) hs rfl))
 obtain ⟨j, e, q1, q2, q⟩ := q1
 subst e
 cases r1 with
 | cons r rr =>
  cases rr
  obtain ⟨t, rfl⟩ := r
  exact call_range_1 (range_it I1 (by omega) (by omega) q1 q2 (by simpa using q))
theorem pi_range2 {a b : Expr} {ta : TA} {p pos : Pos} (hg : Gl X "range") (hm : X.mg "range" = none) (ha : PA X [a, b] ta) (hs : starEach [a, b] X.env = [(false, eval a X.env), (false, eval b X.env)] := by rfl) (hs2 : starEach [b] X.env = [(false, eval b X.env)] := by rfl) :
  PI X tg (.Call (.Name "range" p) [a, b] [] pos) (iRng2 ta) := by
 intro pins s σ H R I h
 refine Call_ (ld_blt I hg hm boot_range (PyProof.Rows.callWith_type1 (thn (ha pos pins s σ H _ I h) fun us s1 ⟨vs, H1, I1, r1, q1⟩ => ?_) (by rw [hs, hs2]) (by rw [hs2]; rfl)))
 obtain ⟨i, j, e, ⟨q1, q2, q3, q4⟩, q⟩ := q1
 subst e
 cases r1 with
 | cons r rr =>
  cases rr with
  | cons r' rr =>
   cases rr
   obtain ⟨t, rfl⟩ := r
   obtain ⟨t', rfl⟩ := r'
   exact call_range_2 (range_it I1 q1 q2 q3 q4 q)
def tFor (wi : TI) (g : TG) (tb : TS) : TS := fun D σ H => wi σ H fun J H1 => ∃ W : Nat → Nat → St → Hp → Prop, (∃ m, W 0 m σ H1) ∧ ∀ i m σ H, W i m σ H →
 (J.stop i H ∧ D.nx σ H) ∨ (J.go i H ∧ ∃ N : St → Hp → Prop, (∀ σ' H', N σ' H' → ∃ m', m' < m ∧ W (i + 1) m' σ' H') ∧ ∀ x H', J.yld i H x H' → g x σ H' fun σ2 H2 => tb { D with nx := N, ct := N, bk := D.nx } σ2 H2)
def pinsAt (fp : List Addr) (h : Heap) : List (Addr × Obj) := fp.filterMap fun b => (h.get? b).map fun o => (b, o)
theorem mem_pinsAt {fp : List Addr} {h : Heap} {b : Addr} {o : Obj} (hb : b ∈ fp) (e : h.get? b = some o) : (b, o) ∈ pinsAt fp h := List.mem_filterMap.mpr ⟨b, hb, by rw [e]; rfl⟩
theorem of_pinsAt {fp : List Addr} {h : Heap} {p : Addr × Obj} (hp : p ∈ pinsAt fp h) : p.1 ∈ fp ∧ h.get? p.1 = some p.2 := by
 obtain ⟨b, hb, e⟩ := List.mem_filterMap.mp hp
 cases q : h.get? b with
 | none => rw [q] at e; cases e
 | some o =>
  rw [q] at e
  have e' : (b, o) = p := Option.some.inj e
  subst e'
  exact ⟨hb, q⟩
theorem Inv.pinned {pins : List (Addr × Obj)} {σ : St} {H : Hp} {s : Shared} {fp : List Addr} (I : Inv X pins σ H s) (hf : ∀ b ∈ fp, FpOk X pins H b) (ho : ∀ b ∈ fp, ∃ o, s.heap.get? b = some o ∧ ∀ v, o.data ≠ .cell v) : Inv X (pins ++ pinsAt fp s.heap) σ H s :=
 I.pins_of fun p hp => (List.mem_append.mp hp).elim (fun z => I.pin p (List.mem_append_right _ z)) fun z => by
  obtain ⟨hb, e⟩ := of_pinsAt z
  obtain ⟨f0, f1, f2, _⟩ := hf p.1 hb
  obtain ⟨o, e', d⟩ := ho p.1 hb
  rw [e] at e'; cases e'
  exact ⟨e, f0, f1, f2, d⟩
theorem Inv.unpinned {pins pl : List (Addr × Obj)} {σ : St} {H : Hp} {s : Shared} (I : Inv X (pins ++ pl) σ H s) : Inv X pins σ H s := I.pins_of fun p hp => I.pin p (List.mem_append_right _ (List.mem_append_left _ hp))
theorem ps_for {iter : Expr} {body : List Stmt} {wi : TI} {g : TG} {tb : TS} {pos : Pos} (hp : PassesOwn (model X.prog X.w) X.A X.env X.xe) (hc : X.calm = true) (hi : PI X tg iter wi) (hg : PG X tg g) (hb : PSs X body tb)
  (hs : ∀ x, foldedSetIterable iter X.env x = pure x := by intro _; rfl) : PS X (.For tg iter body [] pos) (tFor wi g tb) := by
 intro pins s σ H D I h
 refine wpAny_For (thn (hi pins s σ H _ I h) fun v s1 h1 => thn h1 fun itv s2 h2 => ?_) hs
 obtain ⟨it, fp, tn, J, H2, e, I2, T, st2, f2, W, ⟨m0, w0⟩, turn⟩ := h2
 subst e
 -- what stays true of the iterator's objects through the loop
 have stat : ∀ {H' : Hp}, (∀ b ∈ fp, H' b = none) → ∀ b ∈ fp, FpOk X pins H' b := fun hn b hb => ⟨hn b hb, (f2 b hb).2⟩
 refine codeAny_forLoop_any (fun n s' => ∃ i σ' H', Inv X pins σ' H' s' ∧ tn i s'.heap ∧ (∀ b ∈ fp, H' b = none) ∧ W i n σ' H') ?_ m0 ⟨0, σ, H2, I2, st2, fun b hb => (f2 b hb).1, w0⟩
 rintro n s3 ⟨i, σ3, H3, I3, st3, fr3, w3⟩
 rcases turn i n σ3 H3 w3 with ⟨stop, qn⟩ | ⟨go, N, hN, step⟩
 ·refine wpAny_passesOwn hp (thn (T.done X rfl rfl rfl hc i pins s3 σ3 H3 X.xe I3 (stat fr3) st3 stop) fun r s4 ⟨hr, I4⟩ => ?_)
  subst hr
  exact wpAny_execs_nil ⟨σ3, H3, I4, qn⟩
 ·refine wpAny_passesOwn hp (thn (T.item X rfl rfl rfl hc i pins s3 σ3 H3 X.xe I3 (stat fr3) st3 go) fun r s4 ⟨u, hr, h4⟩ => ?_)
  subst hr
  refine wpAny_passesOwn hp (thn h4 fun _ s5 ⟨x, H5, I5, r5, y5, st5, fr5⟩ => ?_)
  have I5' := I5.pinned (stat fr5) (T.obj _ _ st5)
  refine wpAny_passesOwn hp (thn (hg _ s5 σ3 H5 x u _ I5' r5 (step x H5 y5)) fun _ s6 ⟨σ6, H6, I6, q6⟩ => ?_)
  refine wpAny_passesOwn hp (thn (hb _ s6 σ6 H6 _ I6 q6) fun f s7 q7 => ?_)
  have again : ∀ {σ7 : St} {H7 : Hp}, Inv X (pins ++ pinsAt fp s5.heap) σ7 H7 s7 → N σ7 H7 → ∃ m, m < n ∧ ∃ i σ' H', Inv X pins σ' H' s7 ∧ tn i s7.heap ∧ (∀ b ∈ fp, H' b = none) ∧ W i m σ' H' := fun {σ7 H7} I7 n7 => by
   obtain ⟨m', hm, w7⟩ := hN σ7 H7 n7
   refine ⟨m', hm, i + 1, σ7, H7, I7.unpinned, T.keep _ _ _ st5 fun b hb o e => (I7.pin (b, o) (List.mem_append_right _ (List.mem_append_right _ (mem_pinsAt hb e)))).1, fun b hb => ?_, w7⟩
   obtain ⟨o, e, d⟩ := T.obj _ _ st5 b hb
   exact (I7.pin (b, o) (List.mem_append_right _ (List.mem_append_right _ (mem_pinsAt hb e)))).2.1
  cases f with
  | next => obtain ⟨σ7, H7, I7, n7⟩ := q7; exact again I7 n7
  | cont => obtain ⟨σ7, H7, I7, n7⟩ := q7; exact again I7 n7
  | brk => obtain ⟨σ7, H7, I7, q7⟩ := q7; exact ⟨σ7, H7, I7.unpinned, q7⟩
  | ret v => obtain ⟨x7, σ7, H7, I7, r7, q7⟩ := q7; exact ⟨x7, σ7, H7, I7.unpinned, r7, q7⟩
end
theorem for_list {K : PySem.W.Frag} {a : Addr} {xs : List V} {g : TG} {tb : TS} {D : Ends} {σ : St} {H : Hp} (Pv : Nat → St → Hp → Prop) (h0 : Pv 0 σ H) (hl : ∀ i σ H, i ≤ xs.length → Pv i σ H → SqL K H a xs)
  (hs : ∀ i x σ H, xs[i]? = some x → Pv i σ H → g x σ H fun σ2 H2 => tb { D with nx := Pv (i + 1), ct := Pv (i + 1), bk := D.nx } σ2 H2) (hd : ∀ σ H, Pv xs.length σ H → D.nx σ H) :
  ∃ W : Nat → Nat → St → Hp → Prop, (∃ m, W 0 m σ H) ∧ ∀ i m σ H, W i m σ H →
   ((Itl K a).stop i H ∧ D.nx σ H) ∨ ((Itl K a).go i H ∧ ∃ N : St → Hp → Prop, (∀ σ' H', N σ' H' → ∃ m', m' < m ∧ W (i + 1) m' σ' H') ∧ ∀ x H', (Itl K a).yld i H x H' → g x σ H' fun σ2 H2 => tb { D with nx := N, ct := N, bk := D.nx } σ2 H2) := by
 refine ⟨fun i m σ H => m = xs.length - i ∧ i ≤ xs.length ∧ Pv i σ H, ⟨xs.length, by simp, Nat.zero_le _, h0⟩, ?_⟩
 rintro i m σ H ⟨rfl, hi, p⟩
 have q := hl i σ H hi p
 by_cases hlt : i < xs.length
 ·refine .inr ⟨⟨xs, xs[i], q, by simp [hlt]⟩, Pv (i + 1), fun σ' H' p' => ⟨xs.length - (i + 1), by omega, rfl, hlt, p'⟩, fun x H' y => ?_⟩
  obtain ⟨e, y⟩ := y
  subst e
  exact hs i x σ _ (y xs q) p
 ·have e : i = xs.length := by omega
  subst e
  exact .inl ⟨⟨xs, q, Nat.le_refl _⟩, hd σ H p⟩
theorem for_tup {K : PySem.W.Frag} {a : Addr} {xs : List V} {g : TG} {tb : TS} {D : Ends} {σ : St} {H : Hp} (Pv : Nat → St → Hp → Prop) (h0 : Pv 0 σ H) (hl : ∀ i σ H, i ≤ xs.length → Pv i σ H → SqT K H a xs)
  (hs : ∀ i x σ H, xs[i]? = some x → Pv i σ H → g x σ H fun σ2 H2 => tb { D with nx := Pv (i + 1), ct := Pv (i + 1), bk := D.nx } σ2 H2) (hd : ∀ σ H, Pv xs.length σ H → D.nx σ H) :
  ∃ W : Nat → Nat → St → Hp → Prop, (∃ m, W 0 m σ H) ∧ ∀ i m σ H, W i m σ H →
   ((Itt K a).stop i H ∧ D.nx σ H) ∨ ((Itt K a).go i H ∧ ∃ N : St → Hp → Prop, (∀ σ' H', N σ' H' → ∃ m', m' < m ∧ W (i + 1) m' σ' H') ∧ ∀ x H', (Itt K a).yld i H x H' → g x σ H' fun σ2 H2 => tb { D with nx := N, ct := N, bk := D.nx } σ2 H2) := by
 refine ⟨fun i m σ H => m = xs.length - i ∧ i ≤ xs.length ∧ Pv i σ H, ⟨xs.length, by simp, Nat.zero_le _, h0⟩, ?_⟩
 rintro i m σ H ⟨rfl, hi, p⟩
 have q := hl i σ H hi p
 by_cases hlt : i < xs.length
 ·refine .inr ⟨⟨xs, xs[i], q, by simp [hlt]⟩, Pv (i + 1), fun σ' H' p' => ⟨xs.length - (i + 1), by omega, rfl, hlt, p'⟩, fun x H' y => ?_⟩
  obtain ⟨e, y⟩ := y
  subst e
  exact hs i x σ _ (y xs q) p
 ·have e : i = xs.length := by omega
  subst e
  exact .inl ⟨⟨xs, q, Nat.le_refl _⟩, hd σ H p⟩
theorem for_range {lo : Int} {n : Nat} {g : TG} {tb : TS} {D : Ends} {σ : St} {H : Hp} (Pv : Nat → St → Hp → Prop) (h0 : Pv 0 σ H)
  (hs : ∀ i σ H, i < n → Pv i σ H → g (.int (lo + i)) σ H fun σ2 H2 => tb { D with nx := Pv (i + 1), ct := Pv (i + 1), bk := D.nx } σ2 H2) (hd : ∀ σ H, Pv n σ H → D.nx σ H) :
  ∃ W : Nat → Nat → St → Hp → Prop, (∃ m, W 0 m σ H) ∧ ∀ i m σ H, W i m σ H →
   ((Itr lo n).stop i H ∧ D.nx σ H) ∨ ((Itr lo n).go i H ∧ ∃ N : St → Hp → Prop, (∀ σ' H', N σ' H' → ∃ m', m' < m ∧ W (i + 1) m' σ' H') ∧ ∀ x H', (Itr lo n).yld i H x H' → g x σ H' fun σ2 H2 => tb { D with nx := N, ct := N, bk := D.nx } σ2 H2) := by
 refine ⟨fun i m σ H => m = n - i ∧ i ≤ n ∧ Pv i σ H, ⟨n, by simp, Nat.zero_le _, h0⟩, ?_⟩
 rintro i m σ H ⟨rfl, hi, p⟩
 by_cases hlt : i < n
 ·refine .inr ⟨hlt, Pv (i + 1), fun σ' H' p' => ⟨n - (i + 1), by omega, rfl, hlt, p'⟩, fun x H' y => ?_⟩
  obtain ⟨e, y⟩ := y
  subst e y
  exact hs i σ _ hlt p
 ·have e : i = n := by omega
  subst e
  exact .inl ⟨Nat.le_refl _, hd σ H p⟩
abbrev R2 := V → V → Hp → VK → Prop
def OpR (X : Cx) (f : Value → Value → Sem Value) (r : R2) : Prop :=
 ∀ (pins : List (Addr × Obj)) (s : Shared) (σ : St) (H : Hp) (x y : V) (v u : Value) (Q : VK), Inv X pins σ H s → RelV x v → RelV y u → r x y H Q →
  wpAny (model X.prog X.w) X.A (f v u) (EP X pins σ Q) X.xe s
def UnR (X : Cx) (f : Value → Sem Value) (r : V → Hp → VK → Prop) : Prop :=
 ∀ (pins : List (Addr × Obj)) (s : Shared) (σ : St) (H : Hp) (x : V) (v : Value) (Q : VK), Inv X pins σ H s → RelV x v → r x H Q →
  wpAny (model X.prog X.w) X.A (f v) (EP X pins σ Q) X.xe s
def CallR (X : Cx) (f : Value) (r : List V → Hp → VK → Prop) : Prop :=
 ∀ (pins : List (Addr × Obj)) (s : Shared) (σ : St) (H : Hp) (xs : List V) (us : List Value) (Q : VK), Inv X pins σ H s → Vals xs us → r xs H Q →
  wpAny (model X.prog X.w) X.A (call f us) (EP X pins σ Q) X.xe s
def TruR (X : Cx) (r : V → Hp → (Bool → Hp → Prop) → Prop) : Prop :=
 ∀ (pins : List (Addr × Obj)) (s : Shared) (σ : St) (H : Hp) (x : V) (v : Value) (Q : Bool → Hp → Prop), Inv X pins σ H s → RelV x v → r x H Q →
  wpAny (model X.prog X.w) X.A (truthy v) (TP X pins σ Q) X.xe s
def tOp (r : R2) (ta tb : TE) : TE := fun σ H Q => ta σ H fun x H1 => tb σ H1 fun y H2 => r x y H2 Q
def tUn (r : V → Hp → VK → Prop) (ta : TE) : TE := fun σ H Q => ta σ H fun x H1 => r x H1 Q
def rI (C : Int → Int → Prop) (g : Int → Int → V) : R2 := fun x y H Q => ∃ i j, x = .int i ∧ y = .int j ∧ C i j ∧ Q (g i j) H
def rI0 (g : Int → Int → V) : R2 := fun x y H Q => ∃ i j, x = .int i ∧ y = .int j ∧ Q (g i j) H
def rU (g : Int → V) : V → Hp → VK → Prop := fun x H Q => ∃ i, x = .int i ∧ Q (g i) H
section
variable {X : Cx} {a b c : Expr} {ta tb tc : TE} {pos : Pos}
theorem binT (ha : PE X a ta) (hb : PE X b tb) {pins : List (Addr × Obj)} {s : Shared} {σ : St} {H : Hp} {R : V → V → Hp → Prop} (I : Inv X pins σ H s)
  (h : ta σ H fun x H1 => tb σ H1 fun y H2 => R x y H2) {Q : Value → Shared → Prop} {f : Value → Value → Sem Value}
  (hf : ∀ v u s2 x y H2, Inv X pins σ H2 s2 → RelV x v → RelV y u → R x y H2 → wpAny (model X.prog X.w) X.A (f v u) Q X.xe s2) :
  wpAny (model X.prog X.w) X.A (eval a X.env) (fun v s₁ => wpAny (model X.prog X.w) X.A (eval b X.env) (fun u s₂ => wpAny (model X.prog X.w) X.A (f v u) Q X.xe s₂) X.xe s₁) X.xe s := by
 refine thn (ha pins s σ H _ I h) fun v s1 ⟨x, H1, I1, r1, q1⟩ => ?_
 refine thn (hb pins s1 σ H1 _ I1 q1) fun u s2 ⟨y, H2, I2, r2, q2⟩ => ?_
 exact hf v u s2 x y H2 I2 r1 r2 q2
theorem pe_op {op : Operator} {r : R2} (ho : OpR X (binaryOp op) r) (ha : PE X a ta) (hb : PE X b tb) : PE X (.BinOp a op b pos) (tOp r ta tb) := by
 intro pins s σ H Q I h
 exact wpAny_BinOp (binT ha hb I h fun v u s2 x y H2 I2 rx ry q => ho pins s2 σ H2 x y v u Q I2 rx ry q)
theorem pe_un {op : UnaryOp} {r : V → Hp → VK → Prop} (ho : UnR X (unaryOp op) r) (ha : PE X a ta) : PE X (.UnaryOp op a pos) (tUn r ta) := by
 intro pins s σ H Q I h
 exact UnaryOp_ (thn (ha pins s σ H _ I h) fun v s1 ⟨x, H1, I1, r1, q1⟩ => ho pins s1 σ H1 x v Q I1 r1 q1)
theorem opI {f : Value → Value → Sem Value} {C : Int → Int → Prop} {g : Int → Int → Int}
  (rule : ∀ (i j : Int) (t u : Tok) (s : Shared) (Q : Value → Shared → Prop) (E : Value → Shared → Prop), C i j → Q (.int (g i j) s.toks) { s with toks := s.toks + 1 } → wpAny (model X.prog X.w) X.A (f (.int i t) (.int j u)) Q E s) :
  OpR X f (rI C fun i j => .int (g i j)) := by
 intro pins s σ H x y v u Q I rx ry h
 obtain ⟨i, j, rfl, rfl, hc, q⟩ := h
 obtain ⟨t, rfl⟩ := rx
 obtain ⟨t', rfl⟩ := ry
 exact rule i j t t' s _ _ hc ⟨.int (g i j), H, I.tok _, ⟨_, rfl⟩, q⟩
theorem opI0 {f : Value → Value → Sem Value} {g : Int → Int → Int}
  (rule : ∀ (i j : Int) (t u : Tok) (s : Shared) (Q : Value → Shared → Prop) (E : Value → Shared → Prop), Q (.int (g i j) s.toks) { s with toks := s.toks + 1 } → wpAny (model X.prog X.w) X.A (f (.int i t) (.int j u)) Q E s) :
  OpR X f (rI0 fun i j => .int (g i j)) := by
 intro pins s σ H x y v u Q I rx ry h
 obtain ⟨i, j, rfl, rfl, q⟩ := h
 obtain ⟨t, rfl⟩ := rx
 obtain ⟨t', rfl⟩ := ry
 exact rule i j t t' s _ _ ⟨.int (g i j), H, I.tok _, ⟨_, rfl⟩, q⟩
theorem opB0 {f : Value → Value → Sem Value} {g : Int → Int → Bool}
  (rule : ∀ (i j : Int) (t u : Tok) (s : Shared) (Q : Value → Shared → Prop) (E : Value → Shared → Prop), Q (.bool (g i j)) s → wpAny (model X.prog X.w) X.A (f (.int i t) (.int j u)) Q E s) :
  OpR X f (rI0 fun i j => .bl (g i j)) := by
 intro pins s σ H x y v u Q I rx ry h
 obtain ⟨i, j, rfl, rfl, q⟩ := h
 obtain ⟨t, rfl⟩ := rx
 obtain ⟨t', rfl⟩ := ry
 exact rule i j t t' s _ _ ⟨.bl (g i j), H, I, rfl, q⟩
def CDiv (i j : Int) : Prop := 0 < j ∧ j < 1073741824
def CPow (i j : Int) : Prop := 0 ≤ j ∧ j ≤ 1000000 ∧ i.natAbs < 2 ^ 64
def CMul (i j : Int) : Prop := (-(2 ^ 64) < i ∧ i < 2 ^ 64) ∨ (-(2 ^ 64) < j ∧ j < 2 ^ 64)
theorem CMul.ok {i j : Int} (h : CMul i j) : IntMulOk i j := by
 rcases h with ⟨h1, h2⟩ | ⟨h1, h2⟩
 ·exact .of_left (intBits_le_64 h1 h2)
 ·exact .of_right (intBits_le_64 h1 h2)
theorem op_add : OpR X (binaryOp .Add) (rI0 fun i j => .int (i + j)) := opI0 fun _ _ _ _ _ _ _ q => add_int q
theorem op_sub : OpR X (binaryOp .Sub) (rI0 fun i j => .int (i - j)) := opI0 fun _ _ _ _ _ _ _ q => sub_int q
theorem op_mul : OpR X (binaryOp .Mult) (rI CMul fun i j => .int (i * j)) := opI fun _ _ _ _ _ _ _ hc q => mul_int q hc.ok
theorem op_fdiv : OpR X (binaryOp .FloorDiv) (rI CDiv fun i j => .int (i / j)) := opI fun i j _ _ _ _ _ hc q => by
 have h1 : (0 : Int) < j := hc.1
 have h2 : j < 1073741824 := hc.2
 exact floordiv_int (by omega) (by rw [Int.fdiv_eq_ediv_of_nonneg i (by omega)]; exact q) (.inl (PyProof.noPylong_small (by omega)))
theorem op_mod : OpR X (binaryOp .Mod) (rI (fun _ j => 0 < j) fun i j => .int (i % j)) := opI fun i j _ _ _ _ _ hc q => by
 have h1 : (0 : Int) < j := hc
 exact mod_int' (by omega) (by rw [Int.fmod_eq_emod_of_nonneg i (by omega)]; exact q)
theorem op_pow : OpR X (binaryOp .Pow) (rI CPow fun i j => .int (i ^ j.toNat)) := opI fun _ _ _ _ _ _ _ hc q => pow_int_small hc.1 hc.2.1 hc.2.2 q
theorem unI {f : Value → Sem Value} {g : Int → Int}
  (rule : ∀ (i : Int) (t : Tok) (s : Shared) (Q : Value → Shared → Prop) (E : Value → Shared → Prop), Q (.int (g i) s.toks) { s with toks := s.toks + 1 } → wpAny (model X.prog X.w) X.A (f (.int i t)) Q E s) :
  UnR X f (rU fun i => .int (g i)) := by
 intro pins s σ H x v Q I rx h
 obtain ⟨i, rfl, q⟩ := h
 obtain ⟨t, rfl⟩ := rx
 exact rule i t s _ _ ⟨.int (g i), H, I.tok _, ⟨_, rfl⟩, q⟩
theorem un_neg : UnR X (unaryOp .USub) (rU fun i => .int (-i)) := unI fun _ _ _ _ _ q => neg_int q
end
def scal : V → V → Bool
 | .non, .non => true | .non, .int _ => true | .int _, .non => true | .non, .bl _ => true | .bl _, .non => true | .non, .str _ => true | .str _, .non => true
 | .int _, .int _ => true | .bl _, .bl _ => true | .str _, .str _ => true | .byt _, .byt _ => true
 | .int _, .str _ => true | .str _, .int _ => true | .bl _, .str _ => true | .str _, .bl _ => true
 | _, _ => false
def rEq : R2 := fun x y H Q => scal x y = true ∧ Q (.bl (decide (x = y))) H
def rNe : R2 := fun x y H Q => scal x y = true ∧ Q (.bl (!decide (x = y))) H
theorem dec_int {i j : Int} : decide (V.int i = V.int j) = (i == j) := by
 rw [Bool.eq_iff_iff]
 simp
theorem dec_bl {i j : Bool} : decide (V.bl i = V.bl j) = (i == j) := by
 rw [Bool.eq_iff_iff]
 simp
theorem dec_str {i j : Str} : decide (V.str i = V.str j) = (i == j) := by
 rw [Bool.eq_iff_iff]
 simp
theorem dec_byt {i j : Array UInt8} : decide (V.byt i = V.byt j) = (i.toList == j.toList) := by
 rw [Bool.eq_iff_iff]
 cases i
 cases j
 simp
section
variable {X : Cx} {a b c : Expr} {ta tb tc : TE} {pos : Pos}
theorem fin_bl {pins : List (Addr × Obj)} {σ : St} {H : Hp} {s : Shared} {Q : VK} {k k' : Bool} (I : Inv X pins σ H s) (q : Q (.bl k) H) (e : k = k') : EP X pins σ Q (.bool k') s := by
 subst e
 exact ⟨.bl k, H, I, rfl, q⟩
theorem op_eq : OpR X (compareOp .Eq) rEq := by
 intro pins s σ H x y v u Q I rx ry h
 obtain ⟨hs, q⟩ := h
 cases x with
 | non =>
  cases rx
  cases y with
  | non => cases ry; exact PySem.EqNone.eq_none_none (fin_bl I q (by simp))
  | bl j => cases ry; exact PySem.EqNone.eq_none_bool (fin_bl I q (by simp))
  | int j => obtain ⟨t', rfl⟩ := ry; exact PySem.EqNone.eq_none_int (fin_bl I q (by simp))
  | str j => obtain ⟨t', rfl⟩ := ry; exact PySem.EqNone.eq_none_str (fin_bl I q (by simp))
  | _ => exact absurd (show false = true from hs) Bool.false_ne_true
 | bl i =>
  cases rx
  cases y with
  | non => cases ry; exact PySem.EqNone.eq_bool_none (fin_bl I q (by simp))
  | bl j => cases ry; exact eq_bool (fin_bl I q dec_bl)
  | str j => obtain ⟨t', rfl⟩ := ry; exact PySem.EqMixed.eq_bool_str (fin_bl I q (by simp))
  | _ => exact absurd (show false = true from hs) Bool.false_ne_true
 | int i =>
  obtain ⟨t, rfl⟩ := rx
  cases y with
  | non => cases ry; exact PySem.EqNone.eq_int_none (fin_bl I q (by simp))
  | int j => obtain ⟨t', rfl⟩ := ry; exact eq_int (fin_bl I q dec_int)
  | str j => obtain ⟨t', rfl⟩ := ry; exact PySem.EqMixed.eq_int_str (fin_bl I q (by simp))
  | _ => exact absurd (show false = true from hs) Bool.false_ne_true
 | str i =>
  obtain ⟨t, rfl⟩ := rx
  cases y with
  | non => cases ry; exact PySem.EqNone.eq_str_none (fin_bl I q (by simp))
  | bl j => cases ry; exact PySem.EqMixed.eq_str_bool (fin_bl I q (by simp))
  | int j => obtain ⟨t', rfl⟩ := ry; exact PySem.EqMixed.eq_str_int (fin_bl I q (by simp))
  | str j => obtain ⟨t', rfl⟩ := ry; exact eq_str (fin_bl I q dec_str)
  | _ => exact absurd (show false = true from hs) Bool.false_ne_true
 | byt i =>
  obtain ⟨t, rfl⟩ := rx
  cases y with
  | byt j => obtain ⟨t', rfl⟩ := ry; exact PySem.W.eq_bytes (fin_bl I q dec_byt)
  | _ => exact absurd (show false = true from hs) Bool.false_ne_true
 | _ => cases y <;> exact absurd (show false = true from hs) Bool.false_ne_true
theorem op_ne : OpR X (compareOp .NotEq) rNe := by
 intro pins s σ H x y v u Q I rx ry h
 obtain ⟨hs, q⟩ := h
 cases x with
 | non =>
  cases rx
  cases y with
  | non => cases ry; exact PySem.EqNone.ne_none_none (fin_bl I q (by simp))
  | bl j => cases ry; exact PySem.EqNone.ne_none_bool (fin_bl I q (by simp))
  | int j => obtain ⟨t', rfl⟩ := ry; exact PySem.EqNone.ne_none_int (fin_bl I q (by simp))
  | str j => obtain ⟨t', rfl⟩ := ry; exact PySem.EqNone.ne_none_str (fin_bl I q (by simp))
  | _ => exact absurd (show false = true from hs) Bool.false_ne_true
 | bl i =>
  cases rx
  cases y with
  | non => cases ry; exact PySem.EqNone.ne_bool_none (fin_bl I q (by simp))
  | bl j => cases ry; exact ne_bool (fin_bl I q (congrArg not dec_bl))
  | str j => obtain ⟨t', rfl⟩ := ry; exact PySem.EqMixed.ne_bool_str (fin_bl I q (by simp))
  | _ => exact absurd (show false = true from hs) Bool.false_ne_true
 | int i =>
  obtain ⟨t, rfl⟩ := rx
  cases y with
  | non => cases ry; exact PySem.EqNone.ne_int_none (fin_bl I q (by simp))
  | int j => obtain ⟨t', rfl⟩ := ry; exact ne_int (fin_bl I q (congrArg not dec_int))
  | str j => obtain ⟨t', rfl⟩ := ry; exact PySem.EqMixed.ne_int_str (fin_bl I q (by simp))
  | _ => exact absurd (show false = true from hs) Bool.false_ne_true
 | str i =>
  obtain ⟨t, rfl⟩ := rx
  cases y with
  | non => cases ry; exact PySem.EqNone.ne_str_none (fin_bl I q (by simp))
  | bl j => cases ry; exact PySem.EqMixed.ne_str_bool (fin_bl I q (by simp))
  | int j => obtain ⟨t', rfl⟩ := ry; exact PySem.EqMixed.ne_str_int (fin_bl I q (by simp))
  | str j => obtain ⟨t', rfl⟩ := ry; exact ne_str (fin_bl I q (congrArg not dec_str))
  | _ => exact absurd (show false = true from hs) Bool.false_ne_true
 | byt i =>
  obtain ⟨t, rfl⟩ := rx
  cases y with
  | byt j => obtain ⟨t', rfl⟩ := ry; exact PySem.W.ne_bytes (fin_bl I q (congrArg not dec_byt))
  | _ => exact absurd (show false = true from hs) Bool.false_ne_true
 | _ => cases y <;> exact absurd (show false = true from hs) Bool.false_ne_true
theorem op_lt : OpR X (compareOp .Lt) (rI0 fun i j => .bl (decide (i < j))) := opB0 fun _ _ _ _ _ _ _ q => lt_int q
theorem op_le : OpR X (compareOp .LtE) (rI0 fun i j => .bl (decide (i ≤ j))) := opB0 fun _ _ _ _ _ _ _ q => le_int q
theorem op_gt : OpR X (compareOp .Gt) (rI0 fun i j => .bl (decide (j < i))) := opB0 fun _ _ _ _ _ _ _ q => gt_int q
theorem op_ge : OpR X (compareOp .GtE) (rI0 fun i j => .bl (decide (j ≤ i))) := opB0 fun _ _ _ _ _ _ _ q => ge_int q
theorem nomark (b : Expr) {op : CmpOp} (h : op ≠ .In := by decide) (h2 : op ≠ .NotIn := by decide) : behindInMarks op b = false := by
 have e1 : (op == CmpOp.In) = false := by cases op <;> first | rfl | exact absurd rfl h
 have e2 : (op == CmpOp.NotIn) = false := by cases op <;> first | rfl | exact absurd rfl h2
 cases b <;> simp [behindInMarks, e1, e2]
theorem pe_cmpR {op : CmpOp} {r : R2} (ho : OpR X (compareOp op) r) (ha : PE X a ta) (hb : PE X b tb) (hm : behindInMarks op b = false) : PE X (.Compare a [op] [b] pos) (tOp r ta tb) := by
 intro pins s σ H Q I h
 exact wpAny_Compare1 (binT ha hb I h fun v u s2 x y H2 I2 rx ry q => ho pins s2 σ H2 x y v u Q I2 rx ry q) hm
def tTest (t : TE) : TT := fun σ H Q => t σ H fun x H' => ∃ k, x = .bl k ∧ Q k H'
theorem pt_cmpR {op : CmpOp} {r : R2} (ho : OpR X (compareOp op) r) (ha : PE X a ta) (hb : PE X b tb) (hm : behindInMarks op b = false) : PT X (.Compare a [op] [b] pos) (tTest (tOp r ta tb)) := by
 intro pins s σ H Q I h
 refine wpAny_isTrue_Compare1 (thn (ha pins s σ H _ I h) fun v s1 ⟨x, H1, I1, r1, q1⟩ => thn (hb pins s1 σ H1 _ I1 q1) fun u s2 ⟨y, H2, I2, r2, q2⟩ =>
  thn (ho pins s2 σ H2 x y v u _ I2 r1 r2 q2) fun c s3 ⟨z, H3, I3, r3, k, e, q3⟩ => ?_) hm
 subst e
 cases r3
 exact wpAny_truthy_bool ⟨H3, I3, q3⟩
def TruV (K : PySem.W.Frag) (x : V) (H : Hp) (k : Bool) : Prop :=
 match x with
 | .non => k = false
 | .bl b => k = b
 | .int i => k = (i != 0)
 | .str y => y.length ≤ sizeLine ∧ k = ((y.length : Int) != 0)
 | .byt y => y.size ≤ sizeLine ∧ k = ((y.size : Int) != 0)
 | .ref p => (∃ xs, SqL K H p xs ∧ k = !xs.isEmpty) ∨ (∃ xs, SqT K H p xs ∧ k = !xs.isEmpty) ∨ ∃ kvs, H p = some (.dK kvs) ∧ k = !kvs.isEmpty
 | _ => False
theorem isEmpty_kv {κ : Type} {kvs : List (κ × V)} {vs : List (κ × Value)} (r : KV kvs vs) : (!vs.isEmpty) = !kvs.isEmpty := by
 cases r <;> rfl
theorem isEmpty_of {xs : List V} {its : List Value} (r : Vals xs its) : (!its.toArray.isEmpty) = !xs.isEmpty := by
 cases r <;> simp
theorem line63 : (sizeLine : Nat) < 2 ^ 63 := by rw [sizeLine_eq]; decide
theorem tru_ok : TruR X (fun x H Q => ∃ k, TruV X.K x H k ∧ Q k H) := by
 intro pins s σ H x v Q I rx h
 obtain ⟨k, e, q⟩ := h
 have hl := line63
 have hs : sizeLine = 16777216 := sizeLine_eq
 cases x with
 | non =>
  cases rx
  have e' : k = false := e
  subst e'
  exact truthy_none ⟨H, I, q⟩
 | bl b =>
  cases rx
  have e' : k = b := e
  subst e'
  exact wpAny_truthy_bool ⟨H, I, q⟩
 | int i =>
  obtain ⟨t, rfl⟩ := rx
  have e' : k = (i != 0) := e
  subst e'
  exact PySem.P.truthy_int ⟨H, I, q⟩
 | str y =>
  obtain ⟨t, rfl⟩ := rx
  obtain ⟨hy, e'⟩ : y.length ≤ sizeLine ∧ k = ((y.length : Int) != 0) := e
  subst e'
  exact PySem.P.truthy_str (by omega) ⟨H, I.tok _, q⟩
 | byt y =>
  obtain ⟨t, rfl⟩ := rx
  obtain ⟨hy, e'⟩ : y.size ≤ sizeLine ∧ k = ((y.size : Int) != 0) := e
  subst e'
  exact PySem.W.truthy_bytes (by omega) ⟨H, I.tok _, q⟩
 | ref p =>
  cases rx
  have e' : (∃ xs, SqL X.K H p xs ∧ k = !xs.isEmpty) ∨ (∃ xs, SqT X.K H p xs ∧ k = !xs.isEmpty) ∨ ∃ kvs, H p = some (.dK kvs) ∧ k = !kvs.isEmpty := e
  rcases e' with ⟨xs, hx, e'⟩ | ⟨xs, hx, e'⟩ | ⟨kvs, hx, e'⟩
  ·subst e'
   obtain ⟨its, r, pl, hz⟩ := I.list hx
   have hlen := r.length
   exact wpAny_truthy_list pl.isList (by simp only [List.size_toArray]; omega) ⟨H, I.tok _, by rw [isEmpty_of r]; exact q⟩
  ·subst e'
   obtain ⟨its, r, pl, hz⟩ := I.tuple hx
   have hlen := r.length
   exact truthy_tuple pl (by simp only [List.size_toArray]; omega) ⟨H, I.tok _, by rw [isEmpty_of r]; exact q⟩
  ·subst e'
   obtain ⟨hz, hS, vs, r, m⟩ : kvs.length ≤ sizeLine ∧ (p == sysModules) = false ∧ ∃ vs, KV kvs vs ∧ s.heap.DictOf (mixKind X.prog X.w) p vs := I.hok p _ hx
   have hlen : kvs.length = vs.length := Paired.length r
   exact wpAny_truthy_dict hS m (by omega) ⟨H, I.tok _, by rw [isEmpty_kv r]; exact q⟩
 | _ => exact (show False from e).elim
theorem op_add_str : OpR X (binaryOp .Add) (fun x y H Q => ∃ i j, x = .str i ∧ y = .str j ∧ i.length + j.length ≤ sizeLine ∧ Q (.str (i ++ j)) H) := by
 intro pins s σ H x y v u Q I rx ry h
 obtain ⟨i, j, rfl, rfl, hz, q⟩ := h
 obtain ⟨t, rfl⟩ := rx
 obtain ⟨t', rfl⟩ := ry
 exact add_str (fun t' tk => ⟨.str (i ++ j), H, I.tok _, ⟨_, rfl⟩, q⟩) hz
theorem vals1 {x : V} {us : List Value} (r : Vals [x] us) : ∃ u, us = [u] ∧ RelV x u := by
 cases r with
 | cons r1 r2 => cases r2; exact ⟨_, rfl, r1⟩
theorem vals2 {x y : V} {us : List Value} (r : Vals [x, y] us) : ∃ u w', us = [u, w'] ∧ RelV x u ∧ RelV y w' := by
 cases r with
 | cons r1 r2 =>
  cases r2 with
  | cons r3 r4 => cases r4; exact ⟨_, _, rfl, r1, r3⟩
theorem call_min2 (hc : X.calm = true) : CallR X (.builtin "min") (fun xs H Q => ∃ i j, xs = [.int i, .int j] ∧ Q (.int (if j < i then j else i)) H) := by
 intro pins s σ H xs us Q I r h
 obtain ⟨i, j, rfl, q⟩ := h
 obtain ⟨u, w', rfl, ⟨t, rfl⟩, ⟨t', rfl⟩⟩ := vals2 r
 refine min_two_ints (I.ok.hd hc) fun h' tk k => ⟨_, H, I.kept k, ?_, q⟩
 by_cases hj : j < i
 ·rw [if_pos hj, if_pos hj]; exact ⟨_, rfl⟩
 ·rw [if_neg hj, if_neg hj]; exact ⟨_, rfl⟩
theorem call_int1 : CallR X (.type "int") (fun xs H Q => (∃ i, xs = [.int i] ∧ Q (.int i) H) ∨ ∃ k, xs = [.bl k] ∧ Q (.int (if k then 1 else 0)) H) := by
 intro pins s σ H xs us Q I r h
 rcases h with ⟨i, rfl, q⟩ | ⟨k, rfl, q⟩
 ·obtain ⟨u, rfl, t, rfl⟩ := vals1 r
  exact call_int_int ⟨.int i, H, I, ⟨_, rfl⟩, q⟩
 ·obtain ⟨u, rfl, r1⟩ := vals1 r
  cases r1
  exact call_int_bool ⟨.int (if k then 1 else 0), H, I.tok _, ⟨_, rfl⟩, q⟩
def LenV (K : PySem.W.Frag) (x : V) (H : Hp) (n : Nat) : Prop :=
 match x with
 | .str y => y.length ≤ sizeLine ∧ n = y.length
 | .byt y => y.size ≤ sizeLine ∧ n = y.size
 | .ref p => (∃ xs, SqL K H p xs ∧ n = xs.length) ∨ ∃ xs, SqT K H p xs ∧ n = xs.length
 | _ => False
theorem call_len : CallR X (.builtin "len") (fun xs H Q => ∃ x n, xs = [x] ∧ LenV X.K x H n ∧ Q (.int n) H) := by
 intro pins s σ H xs us Q I r h
 obtain ⟨x, n, rfl, e, q⟩ := h
 obtain ⟨u, rfl, rx⟩ := vals1 r
 have hl := line63
 have hs : sizeLine = 16777216 := sizeLine_eq
 cases x with
 | str y =>
  obtain ⟨t, rfl⟩ := rx
  obtain ⟨hy, e'⟩ : y.length ≤ sizeLine ∧ n = y.length := e
  subst e'
  exact len_str (by omega) ⟨.int _, H, I.tok _, ⟨_, rfl⟩, q⟩
 | byt y =>
  obtain ⟨t, rfl⟩ := rx
  obtain ⟨hy, e'⟩ : y.size ≤ sizeLine ∧ n = y.size := e
  subst e'
  exact PySem.W.len_bytes (by omega) ⟨.int _, H, I.tok _, ⟨_, rfl⟩, q⟩
 | ref p =>
  cases rx
  have e' : (∃ xs, SqL X.K H p xs ∧ n = xs.length) ∨ ∃ xs, SqT X.K H p xs ∧ n = xs.length := e
  rcases e' with ⟨xs, hx, e'⟩ | ⟨xs, hx, e'⟩
  ·subst e'
   obtain ⟨its, r', pl, hz⟩ := I.list hx
   have hlen := r'.length
   exact Calls.call_len_list pl.isList (by simp only [List.size_toArray]; omega) ⟨.int xs.length, H, I.tok _, ⟨_, by simp only [List.size_toArray]; rw [hlen]⟩, q⟩
  ·subst e'
   obtain ⟨its, r', pl, hz⟩ := I.tuple hx
   have hlen := r'.length
   exact len_tuple pl (by simp only [List.size_toArray]; omega) ⟨.int xs.length, H, I.tok _, ⟨_, by simp only [List.size_toArray]; rw [hlen]⟩, q⟩
 | _ => exact (show False from e).elim
end
structure ObjM (h : Heap) (x dx C : Addr) (mA : Str → Option Value) : Prop where
 obj : h.get? x = some (PySem.W.instObj C dx)
 ns : h.Ns1 dx mA
 ne : dx ≠ x
theorem lookIn_ns {h : Heap} {dx : Addr} {mA : Str → Option Value} (n : h.Ns1 dx mA) : ∃ od, h.get? dx = some od ∧ ∀ name, PySem.W.lookIn name od = some (mA name) := by
 obtain ⟨o, es, ep, ho, hd, hk, _, hm⟩ := n
 refine ⟨o, ho, fun name => ?_⟩
 have e := hm name
 unfold nsFind findBy at e
 rw [← Array.find?_toList] at e
 unfold PySem.W.lookIn
 rw [hd]
 dsimp only
 split
 ·rename_i y q
  rw [q] at e
  exact congrArg some e
 ·rename_i q
  rw [q] at e
  have a : es.toList.any (·.refKey) = false := by
   rw [List.any_eq_false]
   intro y hy
   obtain ⟨z, t, hkey⟩ := hk y (Array.mem_toList_iff.mp hy)
   simp [DictEntry.refKey, hkey]
  have a' : ¬ es.toList.any (·.refKey) = true := by rw [a]; exact Bool.false_ne_true
  rw [if_neg a']
  exact congrArg some e
theorem ObjM.look {h : Heap} {x dx C : Addr} {mA : Str → Option Value} (I : ObjM h x dx C mA) : ∃ od, PySem.W.InstAt h x (PySem.W.instObj C dx) C (some od) ∧ ∀ name, PySem.W.lookIn name od = some (mA name) :=
 let ⟨od, ho, hl⟩ := lookIn_ns I.ns
 ⟨od, ⟨I.obj, rfl, rfl, ho⟩, hl⟩
section
variable {prog : Program} {w : World} {A : Around} {E : Value → Shared → Prop} {s : Shared} {K : PySem.W.Frag} {x dx C f : Addr} {mA : Str → Option Value} {name : Str} {v : Value}
end
theorem RelO.some_of {v : V} {o : Option Value} (r : RelO (some v) o) : ∃ u, o = some u ∧ RelV v u := by
 cases o with
 | none => exact (show False from r).elim
 | some u => exact ⟨u, rfl, r⟩
section
variable {P : Program} {w : World} {H H' : Hp} {h h' : Heap} {a C dx : Addr} {fs fs' : List (Str × V)}
theorem ins_get (hok : HOk P w H h) (e : H a = some (.ins C dx fs)) : ∃ mA, ObjM h a dx C mA ∧ (∀ f, RelO (fs.lookup f) (mA f)) ∧ PySem.Within mA (fs.map (·.1)) ∧ fs.length ≤ 1000 ∧ H dx = some (.own a) := by
 obtain ⟨d, z, ne, ob, mA, n, r, q⟩ := (show ObjOk P w H h a (.ins C dx fs) from hok a _ e)
 exact ⟨mA, ⟨ob, n, ne⟩, r, q, z, d⟩
end
structure Cls (K : PySem.W.Frag) (C : Addr) : Prop where
 pg : PySem.W.plainGet K C Str.empty = true
 hd : PySem.W.hasDictIn K C = true
 po : PySem.W.plainOver K C = true
 sa : PySem.W.findIn K (.ref C) "__setattr__" = some (some (.builtin "object.__setattr__"))
theorem Cls.get {K : PySem.W.Frag} {C : Addr} (c : Cls K C) (f : Str) : PySem.W.plainGet K C f = true := c.pg
section
variable {X : Cx} {pins : List (Addr × Obj)} {σ : St} {H : Hp} {s : Shared} {a C dx : Addr} {fs : List (Str × V)} {f : Str} {v : V} {A : Around} {E : Value → Shared → Prop}
end
section
variable {X : Cx} {o e value : Expr} {f : Str} {pos pos' tpos : Pos} {ta tv : TE}
end
section
variable {X : Cx} {pins : List (Addr × Obj)} {σ : St} {H : Hp} {s : Shared} {A : Around} {E : Value → Shared → Prop} {Q : Value → Shared → Prop} {c : Value} {b : Bool}
inductive TyOf (K : PySem.W.Frag) (H : Hp) : V → Value → Prop where
 | non : TyOf K H .non (.type "NoneType")
 | bl (x : Bool) : TyOf K H (.bl x) (.type "bool")
 | int (i : Int) : TyOf K H (.int i) (.type "int")
 | str (x : Str) : TyOf K H (.str x) (.type "str")
 | flt (x : UInt64) : TyOf K H (.flt x) (.type "float")
 | lst {a : Addr} {xs : List V} (e : H a = some (.lst xs)) : TyOf K H (.ref a) (.type "list")
 | frz {a : Addr} {o : Obj} {xs : List V} (e : H a = some (.frz o (.lst xs))) : TyOf K H (.ref a) (.type "list")
 | tup {a : Addr} {xs : List V} (e : H a = some (.tup xs)) : TyOf K H (.ref a) (.type "tuple")
 | dK {a : Addr} {kvs : List (Key × V)} (e : H a = some (.dK kvs)) : TyOf K H (.ref a) (.type "dict")
 | dT {a : Addr} {kvs : List (List Key × V)} (e : H a = some (.dT kvs)) : TyOf K H (.ref a) (.type "dict")
 | ins {a C dx : Addr} {fs : List (Str × V)} (e : H a = some (.ins C dx fs)) (cl : Cls K C) (ha : PySem.W.findIn K (.ref C) "__class__" = some (some (.builtin "object.__class__")))
   (hn : PySem.W.specialIn K (.builtin "object.__class__") "__get__" = some (some (.builtin "getset_descriptor.__get__"))) (htk : PySem.W.takesIn K (.builtin "object.__class__") = some true)
   (hm : PySem.W.mroIn K C (.type "object") = some true) : TyOf K H (.ref a) (.ref C)
theorem isinst_ok {x : V} {u t : Value} (I : Inv X pins σ H s) (rx : RelV x u) (ty : TyOf X.K H x t) (e : PySem.W.kitOne X.K t c = some b) (h : ∀ tk, Q (.bool b) { s with toks := tk }) :
  wpAny (model X.prog X.w) A (call (.builtin "isinstance") [u, c]) Q E s := by
 cases ty with
 | non => cases (show u = Value.none from rx); exact PySem.W.kia_one PySem.W.kitx_none I.kIn True.intro e (fun z => nomatch z) h
 | bl y => cases (show u = Value.bool y from rx); exact PySem.W.kia_one PySem.W.kitx_bool I.kIn True.intro e (fun z => nomatch z) h
 | int i => obtain ⟨t, q⟩ := (show ∃ t, u = Value.int i t from rx); cases q; exact PySem.W.kia_one PySem.W.kitx_int I.kIn True.intro e (fun z => nomatch z) h
 | str y => obtain ⟨t, q⟩ := (show ∃ t, u = Value.str y t from rx); cases q; exact PySem.W.kia_one PySem.W.kitx_str I.kIn True.intro e (fun z => nomatch z) h
 | flt y => obtain ⟨t, q⟩ := (show ∃ t, u = Value.float y t from rx); cases q; exact PySem.W.kia_one PySem.W.kitx_float I.kIn True.intro e (fun z => nomatch z) h
 | @lst a xs ea =>
  cases (show u = Value.ref a from rx)
  obtain ⟨_, _, n, _, h1⟩ := (show ObjOk X.prog X.w H s.heap a (.lst xs) from I.hok a _ ea)
  exact PySem.W.kia_one PySem.W.kitx_list I.kIn ⟨_, h1, rfl⟩ e (fun z => nomatch z) h
 | @frz a ob xs ea =>
  cases (show u = Value.ref a from rx)
  obtain ⟨_, _, _, n, _, h1⟩ := (show ObjOk X.prog X.w H s.heap a (.frz ob (.lst xs)) from I.hok a _ ea)
  exact PySem.W.kia_one PySem.W.kitx_list I.kIn ⟨_, h1, rfl⟩ e (fun z => nomatch z) h
 | @tup a xs ea =>
  cases (show u = Value.ref a from rx)
  obtain ⟨_, _, _, p, _⟩ := (show ObjOk X.prog X.w H s.heap a (.tup xs) from I.hok a _ ea)
  obtain ⟨o, h1, h2, _⟩ := p
  exact PySem.W.kia_one PySem.W.kitx_tuple I.kIn ⟨o, h1, h2⟩ e (fun z => nomatch z) h
 | @dK a kvs ea =>
  cases (show u = Value.ref a from rx)
  obtain ⟨_, _, vs, _, p⟩ := (show ObjOk X.prog X.w H s.heap a (.dK kvs) from I.hok a _ ea)
  obtain ⟨o, es, ep, h1, h2, _⟩ := p
  exact PySem.W.kia_one PySem.W.kitx_dict I.kIn ⟨o, h1, h2.1⟩ e (fun z => nomatch z) h
 | @dT a kvs ea =>
  cases (show u = Value.ref a from rx)
  obtain ⟨_, _, xs, _, o, es, ep, h1, h2, _⟩ := (show ObjOk X.prog X.w H s.heap a (.dT kvs) from I.hok a _ ea)
  exact PySem.W.kia_one PySem.W.kitx_dict I.kIn ⟨o, h1, h2.1⟩ e (fun z => nomatch z) h
 | @ins a C dx fs ea cl ha hn htk hm =>
  cases (show u = Value.ref a from rx)
  obtain ⟨mA, O, _⟩ := ins_get I.hok ea
  obtain ⟨od, J, _⟩ := O.look
  exact PySem.W.kia_one (PySem.W.kitx_own (cl.get _) cl.hd ha hn htk hm) I.kIn J e (fun z => nomatch z) h
end
structure Room (k : Nat) (A : Around) : Prop where
 hd : A.handled = none
 dp : A.depth + 3 * k + 5 < recursionLimit
 un : A.units + 16 * k + 200 < cLine
theorem Room.mono {j k : Nat} {A : Around} (r : Room k A) (h : j ≤ k) : Room j A := ⟨r.hd, by have := r.dp; omega, by have := r.un; omega⟩
theorem Room.deeper {k : Nat} {A : Around} (r : Room (k + 1) A) (env : Env) : Room k (A.deeper env) :=
 ⟨r.hd, by have := r.dp; show A.depth + 1 + 3 * k + 5 < _; omega, by have := r.un; show A.units + 3 + 16 * k + 200 < _; omega⟩
theorem Room.depth {k : Nat} {A : Around} (r : Room k A) : A.depth < recursionLimit := by have := r.dp; omega
theorem Room.units {k : Nat} {A : Around} (r : Room k A) : A.units + 64 < cLine := by have := r.un; omega
def tNil : TA := fun _ H Q => Q [] H
def tCons (ta : TE) (tr : TA) : TA := fun σ H Q => ta σ H fun x H1 => tr σ H1 fun xs H2 => Q (x :: xs) H2
section
variable {X : Cx} {e : Expr} {es : List Expr} {te : TE} {t : TA} {pos : Pos}
theorem pa_nil : PA X [] tNil := fun _ _ _ _ H Q I h => Calls.spliced_nil ⟨[], H, I, .nil, h⟩
theorem pa_cons (ha : PE X e te) (hr : PA X es t) (hs : starEach (e :: es) X.env = (false, eval e X.env) :: starEach es X.env := by rfl) : PA X (e :: es) (tCons te t) := by
 intro pos pins s σ H Q I h
 rw [hs]
 show wpAny _ _ (spliced ((false, eval e X.env) :: backTo pos (starEach es X.env))) _ _ s
 refine Calls.spliced_cons (thn (ha pins s σ H _ I h) fun u s1 ⟨x, H1, I1, r1, q1⟩ => ?_)
 exact thn (hr pos pins s1 σ H1 _ I1 q1) fun us s2 ⟨xs, H2, I2, r2, q2⟩ => ⟨x :: xs, H2, I2, .cons r1 r2, q2⟩
def tTup (t : TA) : TE := fun σ H Q => t σ H fun xs H1 => xs.length ≤ sizeLine ∧ ∀ p, H1 p = none → Q (.ref p) (upd H1 p (.tup xs))
def tLst (t : TA) : TE := fun σ H Q => t σ H fun xs H1 => xs.length ≤ sizeLine ∧ ∀ p, H1 p = none → Q (.ref p) (upd H1 p (.lst xs))
theorem pe_tup {x1} (h : PA X es t) : PE X (.Tuple es x1 pos) (tTup t) := by
 intro pins s σ H Q I hq
 refine wpAny_Tuple_spliced (thn (h pos pins s σ H _ I hq) fun us s1 ⟨xs, H1, I1, r, z, q⟩ => ⟨by rw [← r.length]; exact z, ?_⟩)
 have hf : H1 s1.heap.objs.size = none := I1.hok.fresh (Nat.le_refl _)
 refine ⟨.ref s1.heap.objs.size, upd H1 s1.heap.objs.size (.tup xs), I1.laid (t' := s1.toks) (fun b u e => Heap.get?_push_of_some _ e) (Nat.le_refl _) ?_, rfl, q _ hf⟩
 exact ⟨z, us, r, ⟨_, Heap.get?_push_size _ rfl, rfl, _, rfl⟩, noD_push rfl rfl⟩
theorem pe_lst (h : PA X es t) : PE X (.List es pos) (tLst t) := by
 intro pins s σ H Q I hq
 refine wpAny_List_spliced (thn (h pos pins s σ H _ I hq) fun us s1 ⟨xs, H1, I1, r, z, q⟩ => ⟨by rw [← r.length]; exact z, ?_⟩)
 have hf : H1 s1.heap.objs.size = none := I1.hok.fresh (Nat.le_refl _)
 refine ⟨.ref s1.heap.objs.size, upd H1 s1.heap.objs.size (.lst xs), I1.laid (t' := s1.toks) (fun b u e => Heap.get?_push_of_some _ e) (Nat.le_refl _) ?_, rfl, q _ hf⟩
 exact ⟨z, us, 0, r, Heap.get?_push_size _ rfl⟩
end
abbrev Sp := List V → Hp → VK → XK → Prop
abbrev CXT := List Env → Hp → Shared → XK → Value → Shared → Prop
structure Env0 (P : Program) (w : World) (K : PySem.W.Frag) (mg : Str → Option Value) (base : Heap) (A : Around) (outer : List Env) (s : Shared) (H : Hp) : Prop where
 frames : A.frames = some outer
 mod : Mod K mg base
 bs : ∀ b o, base.get? b = some o → s.heap.get? b = some o ∧ H b = none
 bsz : base.objs.size ≤ s.heap.objs.size
 funs : s.heap.FunFrames base outer
 frf : ∀ b ∈ frs outer, H b = none
 hok : HOk P w H s.heap
 bare : AllBare s.gens
def CE (outer : List Env) (P : Program) (w : World) (H : Hp) (s : Shared) (Q : VK) (u : Value) (s' : Shared) : Prop :=
 ∃ v H', s'.os = s.os ∧ AllBare s'.gens ∧ Un (frs outer) [] H H' s.heap s'.heap ∧ HOk P w H' s'.heap ∧ RelV v u ∧ Q v H'
def CR (CX : CXT) (outer : List Env) (P : Program) (w : World) (H : Hp) (s : Shared) (Q : VK) (E : XK) (r : Result) (s' : Shared) : Prop :=
 match r with
 | .ok (.ret u) => CE outer P w H s Q u s'
 | .ok _ => False
 | .error e => CX outer H s E e s'
structure FnOk (P : Program) (w : World) (K : PySem.W.Frag) (mg : Str → Option Value) (base : Heap) (CX : CXT) (k : Nat) (f : Addr) (fd : FuncData) (ps : List Str) (sp : Sp) : Prop where
 len : ∀ vs H Q E, sp vs H Q E → vs.length = ps.length
 run : ∀ (A : Around) (outer : List Env) (s : Shared) (H : Hp) (args : Args) (us : List Value) (vs : List V) (Q : VK) (E : XK), Room k A → Env0 P w K mg base A outer s H → BindsTo s fd args (ps.zip us) → Vals vs us → sp vs H Q E →
  codeAny (model P w) A (.call (.ref f) args) (CR CX outer P w H s Q E) s
theorem FnOk.mono {P : Program} {w : World} {K : PySem.W.Frag} {mg : Str → Option Value} {base : Heap} {CX : CXT} {j k : Nat} {f : Addr} {fd : FuncData} {ps : List Str} {sp : Sp} (F : FnOk P w K mg base CX j f fd ps sp) (h : j ≤ k) :
  FnOk P w K mg base CX k f fd ps sp := ⟨F.len, fun A outer s H args us vs Q E hr => F.run A outer s H args us vs Q E (hr.mono h)⟩
section
variable {X : Cx} {pins : List (Addr × Obj)} {σ : St} {H : Hp} {s s' : Shared}
theorem Inv.env0 (I : Inv X pins σ H s) : Env0 X.prog X.w X.K X.mg X.base X.A X.stack s H :=
 ⟨I.ok.frames, I.ok.mod, I.bs, Nat.le_trans I.ok.bsz I.sz, I.stack, I.stkFree, I.hok, I.bare⟩
theorem Inv.after {Q : VK} {u : Value} (I : Inv X pins σ H s) (h : CE X.stack X.prog X.w H s Q u s') : EP X pins σ Q u s' := by
 obtain ⟨v, H', os, bare, un, hok, r, q⟩ := h
 obtain ⟨hh, g, d, t, os'⟩ := s'
 obtain rfl : os' = s.os := os
 exact ⟨v, H', I.call (h' := hh) (g' := g) (d' := d) (t' := t) (ch := []) un hok bare (fun b z => absurd z (by simp)), r, q⟩
end
def tCall (sp : Sp) (dvs : List V) (E : XK) (t : TA) : TE := fun σ H Q => t σ H fun vs H1 => sp (vs ++ dvs) H1 Q E
def Binds (K : PySem.W.Frag) (fd : FuncData) (ps : List Str) (ds : List Value) : Prop :=
 ∀ (s : Shared) (us : List Value), K.In s.heap → (us ++ ds).length = ps.length → BindsTo s fd ⟨us, []⟩ (ps.zip (us ++ ds))
theorem Binds.all {K : PySem.W.Frag} {fd : FuncData} {ps : List Str} (h : ∀ us : List Value, us.length = ps.length → bindArgs fd ⟨us, []⟩ = pure (ps.zip us)) : Binds K fd ps [] := fun s us _ hl => by
 rw [List.append_nil] at hl ⊢
 exact .of_eq (h us hl)
def Passes (CX : CXT) (X : Cx) (E : XK) : Prop := ∀ (pins : List (Addr × Obj)) (σ : St) (H : Hp) (s : Shared) (e : Value) (s' : Shared), Inv X pins σ H s → CX X.stack H s E e s' → X.xe e s'
section
variable {X : Cx} {CX : CXT} {k : Nat} {f C : Addr} {fd : FuncData} {ps : List Str} {sp : Sp} {dvs : List V} {ds : List Value} {E : XK} {x m : Str} {p pos apos : Pos} {e o : Expr} {es : List Expr} {ta : TE} {t : TA}
theorem run_fn {pins : List (Addr × Obj)} {σ : St} {H : Hp} {s : Shared} {Q : VK} {us : List Value} {vs : List V} (F : FnOk X.prog X.w X.K X.mg X.base CX k f fd ps sp) (hr : Room k X.A) (hb : Binds X.K fd ps ds) (hd : Vals dvs ds) (hx : Passes CX X E)
  (I : Inv X pins σ H s) (r : Vals vs us) (h : sp (vs ++ dvs) H Q E) : wpAny (model X.prog X.w) X.A (call (.ref f) us) (EP X pins σ Q) X.xe s := by
 have r2 : Vals (vs ++ dvs) (us ++ ds) := r.append hd
 have hl : (us ++ ds).length = ps.length := by rw [← r2.length]; exact F.len _ _ _ _ h
 refine wpAny_call (codeAny_mono (F.run X.A X.stack s H ⟨us, []⟩ (us ++ ds) (vs ++ dvs) Q E hr I.env0 (hb s us I.kIn hl) r2 h) fun r s' hq => ?_)
 cases r with
 | error e => exact hx pins σ H s e s' I hq
 | ok fl =>
  cases fl with
  | ret u => exact I.after hq
  | next => exact False.elim hq
  | brk => exact False.elim hq
  | cont => exact False.elim hq
theorem pe_call (F : FnOk X.prog X.w X.K X.mg X.base CX k f fd ps sp) (hr : Room k X.A) (hg : Gl X x) (hm : X.mg x = some (.ref f)) (hk : PySem.W.keepIn X.K (.ref f) = true) (hb : Binds X.K fd ps ds) (hd : Vals dvs ds) (hx : Passes CX X E)
  (ha : PA X (e :: es) t) (hdb : (x == ("__debug__" : Str)) = false := by decide) (he : starEach (e :: es) X.env = (false, eval e X.env) :: starEach es X.env := by rfl) (hpl : (backTo pos (starEach es X.env)).any (·.1) = false := by rfl) :
  PE X (.Call (.Name x p) (e :: es) [] pos) (tCall sp dvs E t) := by
 intro pins s σ H Q I h
 refine wpAny_Call_Name_kw (ld_glob I hg hm ?_ hdb)
 refine PySem.W.callWith_K (h₀ := X.base) I.ok.mod.kin hk (thn (ha pos pins s σ H _ I h) fun us s1 ⟨vs, H1, I1, r, q⟩ => ⟨I1.kIn, ?_⟩) he hpl
 exact run_fn F hr hb hd hx I1 r q
end
section
variable {X : Cx} {CX : CXT} {k : Nat} {f C : Addr} {fd : FuncData} {ps ks : List Str} {sp : Sp} {E : XK} {x m : Str} {p pos apos kpos : Pos} {e o : Expr} {es : List Expr} {kws : List Keyword} {te ta : TE} {t tk : TA} {nm : Option Str}
variable {g : List Value → List Value → List Value} {gV : List V → List V → List V}
end
structure FnScope (N P : List Str) (sc : Scope) : Prop where
 kind : sc.kind = .function
 co : sc.isCoroutine = false
 gen : sc.isGenerator = false
 nd : N.Nodup
 pre : N.take P.length = P
 par : ∀ x ∈ P, sc.names.lookup x = some .local ∨ sc.names.lookup x = some .cell
 nofree : ∀ y ∈ sc.names, y.2 ≠ .free
theorem bindL_out {kindOf : Str → Option NameKind} {x : Str} : ∀ {binds : List (Str × Value)} {m : Str → Option Value}, (∀ v, (x, v) ∉ binds) → bindL kindOf binds m x = m x
 | [], _, _ => rfl
 | (n, v) :: r, m, h => by
  unfold bindL
  rw [bindL_out fun w hw => h w (List.mem_cons_of_mem _ hw)]
  split
  ·have : x ≠ n := by rintro rfl; exact h v List.mem_cons_self
   simp [this]
  ·rfl
theorem bindC_out {kindOf : Str → Option NameKind} {x : Str} : ∀ {binds : List (Str × Value)} {m : Str → Option Value}, (∀ v, (x, v) ∉ binds) → bindC kindOf binds m x = m x
 | [], _, _ => rfl
 | (n, v) :: r, m, h => by
  unfold bindC
  rw [bindC_out fun w hw => h w (List.mem_cons_of_mem _ hw)]
  split
  ·rfl
  ·have : x ≠ n := by rintro rfl; exact h v List.mem_cons_self
   simp [this]
theorem bindL_get {kindOf : Str → Option NameKind} {x : Str} {v : Value} : ∀ {P : List Str} {vs : List Value} {i : Nat} {m : Str → Option Value}, P.Nodup → P[i]? = some x → vs[i]? = some v → kindOf x = some .local →
  bindL kindOf (P.zip vs) m x = some v
 | [], _, _, _, _, h, _, _ => by simp at h
 | _ :: _, [], _, _, _, _, h, _ => by simp at h
 | p :: P, w :: vs, 0, m, nd, h1, h2, hk => by
  simp at h1 h2; subst h1; subst h2
  show bindL kindOf ((p, w) :: P.zip vs) m p = _
  unfold bindL
  rw [bindL_out fun v hv => (List.nodup_cons.mp nd).1 (List.of_mem_zip hv).1, if_pos hk]
  simp
 | p :: P, w :: vs, i + 1, m, nd, h1, h2, hk => by
  show bindL kindOf ((p, w) :: P.zip vs) m x = _
  unfold bindL
  exact bindL_get (i := i) (List.nodup_cons.mp nd).2 (by simpa using h1) (by simpa using h2) hk
theorem bindC_get {kindOf : Str → Option NameKind} {x : Str} {v : Value} : ∀ {P : List Str} {vs : List Value} {i : Nat} {m : Str → Option Value}, P.Nodup → P[i]? = some x → vs[i]? = some v → kindOf x ≠ some .local →
  bindC kindOf (P.zip vs) m x = some v
 | [], _, _, _, _, h, _, _ => by simp at h
 | _ :: _, [], _, _, _, _, h, _ => by simp at h
 | p :: P, w :: vs, 0, m, nd, h1, h2, hk => by
  simp at h1 h2; subst h1; subst h2
  show bindC kindOf ((p, w) :: P.zip vs) m p = _
  unfold bindC
  rw [bindC_out fun v hv => (List.nodup_cons.mp nd).1 (List.of_mem_zip hv).1, if_neg hk]
  simp
 | p :: P, w :: vs, i + 1, m, nd, h1, h2, hk => by
  show bindC kindOf ((p, w) :: P.zip vs) m x = _
  unfold bindC
  exact bindC_get (i := i) (List.nodup_cons.mp nd).2 (by simpa using h1) (by simpa using h2) hk
def start (N : List Str) (vs : List V) : St := vs.map some ++ List.replicate (N.length - vs.length) none
def cxOf (CX : CXT) (P : Program) (w : World) (K : PySem.W.Frag) (mg : Str → Option Value) (base : Heap) (N : List Str) (qual : Str) (scope : Scope) (f : Addr) (cd : Value) (A : Around) (outer : List Env) (s : Shared) (H : Hp) (E : XK) : Cx where
 prog := P
 w := w
 K := K
 mg := mg
 base := base
 A := A.deeper (envOfC qual scope s.heap.objs.size f cd)
 N := N
 s₀ := s
 H₀ := H
 env := envOfC qual scope s.heap.objs.size f cd
 outer := outer
 stack := envOfC qual scope s.heap.objs.size f cd :: outer
 ex := []
 calm := true
 fn := fun _ => true
 pn := []
 xe := fun e s' => wpAny (model P w) (A.deeper (envOfC qual scope s.heap.objs.size f cd)) (leaving (envOfC qual scope s.heap.objs.size f cd) e) (fun _ s'' => CX outer H s E e s'') (fun e' s'' => CX outer H s E e' s'') s'
theorem cell_has {sc : Scope} {n : Nat} {x : Str} (h : sc.names.lookup x = some .cell) : ∃ c, (cellsFrom n sc.names []).lookup x = some c := by
 have q := PySem.W.cellsFrom_some sc.names n [] (.inl h)
 exact Option.isSome_iff_exists.mp q
theorem inv_start {CX : CXT} {P : Program} {w : World} {K : PySem.W.Frag} {mg : Str → Option Value} {base : Heap} {N ps : List Str} {qual : Str} {scope : Scope} {f : Addr} {cd : Value} {A : Around} {outer : List Env} {s s1 : Shared} {H : Hp} {E : XK} {us : List Value} {vs : List V}
  (S : FnScope N ps scope) (hd : A.handled = none) (e0 : Env0 P w K mg base A outer s H) (hl : vs.length = ps.length) (r : Vals vs us)
  (x : InCallC s s.heap.objs.size (bindL (envOfC qual scope s.heap.objs.size f cd).kindOf (ps.zip us) fun _ => none) (cellsFrom (s.heap.objs.size + 1) scope.names []) (bindC (envOfC qual scope s.heap.objs.size f cd).kindOf (ps.zip us) fun _ => none) s1) :
  Inv (cxOf CX P w K mg base N qual scope f cd A outer s H E) [] (start N vs) H s1 := by
 have hpl : ps.length ≤ N.length := by have := congrArg List.length S.pre; rw [List.length_take] at this; omega
 obtain ⟨h1, tk, rfl, hk⟩ := x.done
 have noA : ∀ b : Addr, b ∉ (cxOf CX P w K mg base N qual scope f cd A outer s H E).ex := fun b z => absurd (show b ∈ ([] : List Addr) from z) (by simp)
 refine ⟨⟨e0.mod, S.kind, rfl, rfl, Nat.le_refl _, fun y z c h1 h2 => ?_, fun y hy => ?_, fun y c _ h => ?_, fun _ => hd, Around.frames_deeper e0.frames, .inr ⟨rfl, rfl⟩, fun b z => absurd z (noA b), e0.bs, e0.bsz, fun b _ _ => noA b, fun b z => absurd z (noA b), e0.funs, e0.frf⟩,
  rfl, e0.bare, Un.kept hk, ⟨_, x.toInCall.ns, fun i y v h1 h2 h3 => ?_⟩, fun y c h => ⟨_, x.cell y c h⟩, e0.hok.fresh (Nat.le_refl _), fun y c h => ?_, fun p hp => absurd (show p ∈ ([] : List (Addr × Obj)) from hp) (by simp), e0.hok.kept hk, ?_⟩
 ·exact name_of_addr x.apart (PySem.mem_of_lookup h1) (PySem.mem_of_lookup h2)
 ·have hy : scope.names.lookup y = some .cell ∨ scope.names.lookup y = some .free := hy
  rcases hy with hy | hy
  ·exact cell_has hy
  ·exact absurd rfl (S.nofree _ (PySem.mem_of_lookup hy))
 ·exact Nat.le_of_lt (x.above y c (PySem.mem_of_lookup h))
 ·have hi : i < vs.length := by
   unfold start at h2
   by_cases hi : i < vs.length
   ·exact hi
   ·rw [List.getElem?_append_right (by simpa using hi)] at h2
    rw [List.getElem?_replicate] at h2
    split at h2 <;> cases h2
  have ha : vs[i]? = some v := by
   unfold start at h2
   rw [List.getElem?_append_left (by simpa using hi), List.getElem?_map] at h2
   cases e : vs[i]? with
   | none => rw [e] at h2; cases h2
   | some a => rw [e] at h2; cases h2; rfl
  obtain ⟨u, hu, rv⟩ := r.get ha
  have hp : ps[i]? = some y := by
   rw [← S.pre, List.getElem?_take_of_lt (by omega)]; exact h1
  have ndP : ps.Nodup := by rw [← S.pre]; exact S.nd.sublist (List.take_sublist _ _)
  refine ⟨u, rv, ?_⟩
  rcases S.par y (List.mem_of_getElem? hp) with k | k
  ·exact .inl ⟨k, bindL_get ndP hp hu k⟩
  ·obtain ⟨c, e⟩ := cell_has (n := s.heap.objs.size + 1) k
   refine .inr ⟨.inl k, c, e, ?_⟩
   have q := x.cell y c e
   rw [bindC_get ndP hp hu (by show scope.names.lookup y ≠ _; rw [k]; decide)] at q
   exact q
 ·exact e0.hok.fresh (Nat.le_of_lt (x.above y c (PySem.mem_of_lookup h)))
 ·unfold start
  show _ = N.length
  rw [List.length_append, List.length_map, List.length_replicate]
  omega
theorem fn_of {CX : CXT} {P : Program} {w : World} {K : PySem.W.Frag} {mg : Str → Option Value} {base : Heap} {k : Nat} {f : Addr} {name qual : Str} {params : Arguments} {body : List Stmt} {scope : Scope} {dV kV doc pm cdv ct oc : Value} {an od : Option Addr}
  {osl : Array (Option Value)} {N ps : List Str} {sp : Sp} (lk : K.lookup f = some ⟨oc, od, .func (PySem.W.fnOf name qual params body scope dV kV doc pm an cdv ct), osl⟩) (hcd : PySem.W.codeIn K cdv qual = true) (S : FnScope N ps scope)
  (len : ∀ vs H Q E, sp vs H Q E → vs.length = ps.length)
  (hbody : ∀ (A : Around) (outer : List Env) (s : Shared) (H : Hp) (vs : List V) (Q : VK) (E : XK), Room k (A.deeper (envOfC qual scope s.heap.objs.size f cdv)) → sp vs H Q E →
   ∃ t, PSs (cxOf CX P w K mg base N qual scope f cdv A outer s H E) body t ∧ t { nx := fun _ H' => Q .non H', rt := Q } (start N vs) H) :
  FnOk P w K mg base CX (k + 1) f (PySem.W.fnOf name qual params body scope dV kV doc pm an cdv ct) ps sp := by
 refine ⟨len, fun A outer s H args us vs Q E hr e0 hb r hsp => ?_⟩
 have hl := len _ _ _ _ hsp
 have KX : K.In s.heap := e0.mod.kin.keeps fun b o e => (e0.bs b o e).1
 have lim : s.heap.NoLimit := e0.mod.nolimit.keeps fun b o e => (e0.bs b o e).1
 have hkind : ∀ y ∈ ps.zip us, scope.names.lookup y.1 = some .local ∨ (scope.names.lookup y.1 = some .cell ∧ ((cellsFrom (s.heap.objs.size + 1) scope.names []).lookup y.1).isSome = true) := fun ⟨n, v⟩ hy => by
  rcases S.par n (List.of_mem_zip hy).1 with q | q
  ·exact .inl q
  ·exact .inr ⟨q, PySem.W.cellsFrom_some _ _ _ (.inl q)⟩
 refine codeAny_call_function hr.depth (KX _ _ lk) rfl S.co S.gen rfl (PySem.W.codeRec_of KX hcd) (hb _ _ _ _ ?_)
 refine wpAny_newFunctionEnv_cells S.kind hkind fun env he s1 x => ?_
 subst he
 refine ⟨lim.keeps x.toInCall.keep, codeAny_func ?_⟩
 obtain ⟨t, ht, hq⟩ := hbody A outer s H vs Q E (hr.deeper _) hsp
 have I : Inv (cxOf CX P w K mg base N qual scope f cdv A outer s H E) [] (start N vs) H s1 := inv_start S hr.hd e0 hl r x
 refine wpAny_mono (ht [] s1 (start N vs) H _ I hq) (fun fl s' hs => ?_) fun e s' hs => hs
 have fin : ∀ {σ' : St} {H' : Hp} {v : V} {u : Value}, Inv (cxOf CX P w K mg base N qual scope f cdv A outer s H E) [] σ' H' s' → RelV v u → Q v H' → CE outer P w H s Q u s' :=
  fun {σ' H' v u} J rv q => ⟨v, H', J.os, J.bare, J.base, J.hok, rv, q⟩
 cases fl with
 | ret u =>
  obtain ⟨v, σ', H', J, rv, q⟩ := hs
  exact fin J rv q
 | next =>
  obtain ⟨σ', H', J, q⟩ := hs
  exact fin (v := V.non) (u := Value.none) J rfl q
 | brk =>
  obtain ⟨_, _, _, q⟩ := hs
  exact False.elim q
 | cont =>
  obtain ⟨_, _, _, q⟩ := hs
  exact False.elim q
section
variable {X : Cx} {x : Str} {p pos : Pos} {e : Expr} {es : List Expr} {t : TA} {id T : String} {r : List V → Hp → VK → Prop}
def tCB (r : List V → Hp → VK → Prop) (t : TA) : TE := fun σ H Q => t σ H fun vs H1 => r vs H1 Q
theorem pe_callB (hc : CallR X (.builtin id) r) (hg : Gl X x) (hm : X.mg x = none) (hv : bootBuiltins x = some (.builtin id)) (ha : PA X (e :: es) t) (hn : x ≠ "__name__" := by decide) (hdb : (x == ("__debug__" : Str)) = false := by decide)
  (he : starEach (e :: es) X.env = (false, eval e X.env) :: starEach es X.env := by rfl) (hpl : (backTo pos (starEach es X.env)).any (·.1) = false := by rfl) : PE X (.Call (.Name x p) (e :: es) [] pos) (tCB r t) := by
 intro pins s σ H Q I h
 refine wpAny_Call_Name_kw (ld_blt I hg hm hv ?_ hn hdb)
 exact PyProof.Rows.callWith_builtin1 (thn (ha pos pins s σ H _ I h) fun us s1 ⟨vs, H1, I1, r1, q1⟩ => hc pins s1 σ H1 vs us Q I1 r1 q1) he hpl
theorem pe_callTy (hc : CallR X (.type T) r) (hg : Gl X x) (hm : X.mg x = none) (hv : bootBuiltins x = some (.type T)) (ha : PA X (e :: es) t) (hn : x ≠ "__name__" := by decide) (hdb : (x == ("__debug__" : Str)) = false := by decide)
  (he : starEach (e :: es) X.env = (false, eval e X.env) :: starEach es X.env := by rfl) (hpl : (backTo pos (starEach es X.env)).any (·.1) = false := by rfl) : PE X (.Call (.Name x p) (e :: es) [] pos) (tCB r t) := by
 intro pins s σ H Q I h
 refine wpAny_Call_Name_kw (ld_blt I hg hm hv ?_ hn hdb)
 exact PyProof.Rows.callWith_type1 (thn (ha pos pins s σ H _ I h) fun us s1 ⟨vs, H1, I1, r1, q1⟩ => hc pins s1 σ H1 vs us Q I1 r1 q1) he hpl
end
section
variable {κ : Type} [DecidableEq κ]
def valV (kvs : List (κ × V)) (k : κ) : Option V := (kvs.find? fun kv => decide (kv.1 = k)).map (·.2)
def putK (kvs : List (κ × V)) (k : κ) (v : V) : List (κ × V) :=
 if (kvs.any fun kv => decide (kv.1 = k)) = true then kvs.map (fun kv => if kv.1 = k then (kv.1, v) else kv) else kvs ++ [(k, v)]
def dropK (kvs : List (κ × V)) (k : κ) : List (κ × V) := kvs.filter fun kv => decide (kv.1 ≠ k)
theorem valV_pos {p : κ × V} {r : List (κ × V)} {k : κ} (e : p.1 = k) : valV (p :: r) k = some p.2 := by simp [valV, List.find?_cons, e]
theorem valV_neg {p : κ × V} {r : List (κ × V)} {k : κ} (e : ¬ p.1 = k) : valV (p :: r) k = valV r k := by simp [valV, List.find?_cons, e]
theorem valV_any (k : κ) : ∀ kvs : List (κ × V), (kvs.any fun kv => decide (kv.1 = k)) = (valV kvs k).isSome
 | [] => rfl
 | p :: r => by
  rw [List.any_cons]
  by_cases e : p.1 = k
  ·simp only [valV_pos e, decide_eq_true e, Bool.true_or, Option.isSome_some]
  ·rw [valV_neg e, decide_eq_false e, Bool.false_or]; exact valV_any k r
theorem valV_map (k j : κ) (y : V) : ∀ kvs : List (κ × V), valV (kvs.map fun kv => if kv.1 = k then (kv.1, y) else kv) j = (valV kvs j).map fun x => if j = k then y else x
 | [] => rfl
 | p :: r => by
  have ih := valV_map k j y r
  rw [List.map_cons]
  by_cases h : p.1 = k
  ·rw [if_pos h]
   by_cases e : p.1 = j
   ·rw [valV_pos (p := (p.1, y)) e, valV_pos e, Option.map_some, if_pos (e.symm.trans h)]
   ·rw [valV_neg (p := (p.1, y)) e, valV_neg e, ih]
  ·rw [if_neg h]
   by_cases e : p.1 = j
   ·rw [valV_pos (p := p) e, valV_pos e, Option.map_some, if_neg (fun z => h (e.trans z))]
   ·rw [valV_neg (p := p) e, valV_neg e, ih]
theorem valV_snoc (k j : κ) (y : V) : ∀ kvs : List (κ × V), valV kvs k = none → valV (kvs ++ [(k, y)]) j = if j = k then some y else valV kvs j
 | [], _ => by
  by_cases e : k = j
  ·rw [if_pos e.symm]; exact valV_pos (p := (k, y)) e
  ·rw [if_neg (fun z => e z.symm)]; exact valV_neg (p := (k, y)) e
 | p :: r, hn => by
  rw [List.cons_append]
  have hk : ¬ p.1 = k := fun z => by rw [valV_pos z] at hn; cases hn
  rw [valV_neg hk] at hn
  have ih := valV_snoc k j y r hn
  by_cases e : p.1 = j
  ·rw [valV_pos e, valV_pos e, if_neg (fun z => hk (e.trans z))]
  ·rw [valV_neg e, valV_neg e, ih]
theorem valV_put (kvs : List (κ × V)) (k j : κ) (y : V) : valV (putK kvs k y) j = if j = k then some y else valV kvs j := by
 unfold putK
 by_cases a : (kvs.any fun kv => decide (kv.1 = k)) = true
 ·rw [if_pos a, valV_map]
  rw [valV_any] at a
  by_cases e : j = k
  ·obtain ⟨x, hx⟩ := Option.isSome_iff_exists.mp a
   rw [if_pos e, e, hx, Option.map_some, if_pos rfl]
  ·rw [if_neg e]
   cases valV kvs j with
   | none => rfl
   | some x => rw [Option.map_some, if_neg e]
 ·rw [if_neg a]
  refine valV_snoc k j y kvs ?_
  rw [valV_any] at a
  cases q : valV kvs k with
  | none => rfl
  | some x => rw [q] at a; exact (a rfl).elim
theorem length_putK (kvs : List (κ × V)) (k : κ) (v : V) : (putK kvs k v).length ≤ kvs.length + 1 := by
 unfold putK
 split
 ·rw [List.length_map]; omega
 ·rw [List.length_append, List.length_cons, List.length_nil]; omega
theorem putK_new {kvs : List (κ × V)} {k : κ} (v : V) (h : valV kvs k = none) : putK kvs k v = kvs ++ [(k, v)] := by
 unfold putK
 rw [valV_any, h]
 exact if_neg (by decide)
theorem RelO.isSome_eq {o : Option V} {u : Option Value} (r : RelO o u) : o.isSome = u.isSome := by
 cases o with
 | none => cases u with
  | none => rfl
  | some _ => exact (show False from r).elim
 | some _ => cases u with
  | none => exact (show False from r).elim
  | some _ => rfl
theorem RelO.getD {o : Option V} {u : Option Value} {d : V} {d' : Value} (r : RelO o u) (rd : RelV d d') : RelV (o.getD d) (u.getD d') := by
 cases o with
 | none => cases u with
  | none => exact rd
  | some _ => exact (show False from r).elim
 | some _ => cases u with
  | none => exact (show False from r).elim
  | some _ => exact r
theorem KV.val {kvs : List (κ × V)} {vs : List (κ × Value)} (r : KV kvs vs) (k : κ) : RelO (valV kvs k) (valueAt vs k) := by
 unfold KV at r
 induction r with
 | nil => exact True.intro
 | @cons p q ps qs h t ih =>
  obtain ⟨h1, h2⟩ := h
  by_cases e : p.1 = k
  ·have e' : q.1 = k := h1.symm.trans e
   have b : valueAt (q :: qs) k = some q.2 := by simp [valueAt, List.find?_cons, e']
   rw [valV_pos e, b]; exact h2
  ·have e' : ¬ q.1 = k := fun z => e (h1.trans z)
   have b : valueAt (q :: qs) k = valueAt qs k := by simp [valueAt, List.find?_cons, e']
   rw [valV_neg e, b]; exact ih
theorem KV.any {kvs : List (κ × V)} {vs : List (κ × Value)} (r : KV kvs vs) (k : κ) : (kvs.any fun kv => decide (kv.1 = k)) = vs.any fun kv => decide (kv.1 = k) := by
 unfold KV at r
 induction r with
 | nil => rfl
 | cons h t ih => rw [List.any_cons, List.any_cons, ih, h.1]
theorem KV.repl {kvs : List (κ × V)} {vs : List (κ × Value)} (r : KV kvs vs) (k : κ) {y : V} {u : Value} (ry : RelV y u) :
  KV (kvs.map fun kv => if kv.1 = k then (kv.1, y) else kv) (vs.map fun kv => if kv.1 = k then (kv.1, u) else kv) := by
 unfold KV at r ⊢
 induction r with
 | nil => exact .nil
 | @cons p q ps qs h t ih =>
  rw [List.map_cons, List.map_cons]
  refine .cons ?_ ih
  obtain ⟨h1, h2⟩ := h
  by_cases e : p.1 = k
  ·rw [if_pos e, if_pos (h1.symm.trans e)]; exact ⟨h1, ry⟩
  ·rw [if_neg e, if_neg (fun z => e (h1.trans z))]; exact ⟨h1, h2⟩
theorem KV.put {kvs : List (κ × V)} {vs : List (κ × Value)} (r : KV kvs vs) (k : κ) {y : V} {u : Value} (ry : RelV y u) : KV (putK kvs k y) (stored vs k u) := by
 unfold putK stored
 rw [r.any k]
 by_cases e : (vs.any fun kv => decide (kv.1 = k)) = true
 ·rw [if_pos e, if_pos e]; exact r.repl k ry
 ·rw [if_neg e, if_neg e]; exact Paired.snoc r ⟨rfl, ry⟩
theorem KV.drop {kvs : List (κ × V)} {vs : List (κ × Value)} (r : KV kvs vs) (k : κ) : KV (dropK kvs k) (without vs k) := by
 unfold KV at r ⊢
 unfold dropK without
 induction r with
 | nil => exact .nil
 | @cons p q ps qs h t ih =>
  obtain ⟨h1, h2⟩ := h
  rw [List.filter_cons, List.filter_cons]
  by_cases e : p.1 = k
  ·have a : ¬ decide (p.1 ≠ k) = true := by simp [e]
   have b : ¬ decide (q.1 ≠ k) = true := by simp [h1.symm.trans e]
   rw [if_neg a, if_neg b]; exact ih
  ·have e' : ¬ q.1 = k := fun z => e (h1.trans z)
   have a : decide (p.1 ≠ k) = true := by simp [e]
   have b : decide (q.1 ≠ k) = true := by simp [e']
   rw [if_pos a, if_pos b]; exact .cons ⟨h1, h2⟩ ih
theorem KV.keys {kvs : List (κ × V)} {vs : List (κ × Value)} (r : KV kvs vs) : kvs.map (·.1) = vs.map (·.1) := by
 unfold KV at r
 induction r with
 | nil => rfl
 | cons h t ih => rw [List.map_cons, List.map_cons, ih, h.1]
theorem KV.length {kvs : List (κ × V)} {vs : List (κ × Value)} (r : KV kvs vs) : kvs.length = vs.length := Paired.length r
end
theorem kV_is {P : Program} {w : World} {k : Key} {u : Value} (r : RelV (kV k) u) : (mixKind P w).is k u = true := by
 cases k with
 | inl i => obtain ⟨t, e⟩ := (show ∃ t, u = Value.int i t from r); subst e; exact mixKind_int P w i t
 | inr x => obtain ⟨t, e⟩ := (show ∃ t, u = Value.str x t from r); subst e; exact mixKind_str P w x t
theorem items_are {P : Program} {w : World} : ∀ {ks : List Key} {us : List Value}, Vals (ks.map kV) us → ItemsAre (mixKind P w) ks us
 | [], _, r => by rw [List.map_nil] at r; cases r; exact .nil
 | k :: ks, _, r => by
  rw [List.map_cons] at r
  cases r with
  | cons h t => exact .cons (kV_is h) (items_are t)
abbrev KT (H : Hp) : List (List Key × V) → List (List Key × Addr × Value) → Prop := Paired fun p q => p.1 = q.1 ∧ H q.2.1 = some (.tup (p.1.map kV)) ∧ RelV p.2 q.2.2
theorem KT.val {H : Hp} {kvs : List (List Key × V)} {xs : List (List Key × Addr × Value)} (r : KT H kvs xs) (k : List Key) : RelO (valV kvs k) ((atKey xs k).map (·.2)) := by
 induction r with
 | nil => exact True.intro
 | @cons p q ps qs h t ih =>
  obtain ⟨h1, _, h2⟩ := h
  by_cases e : p.1 = k
  ·have e' : q.1 = k := h1.symm.trans e
   have b : atKey (q :: qs) k = some q.2 := by simp [atKey, List.find?_cons, e']
   rw [valV_pos e, b]; exact h2
  ·have e' : ¬ q.1 = k := fun z => e (h1.trans z)
   have b : atKey (q :: qs) k = atKey qs k := by simp [atKey, List.find?_cons, e']
   rw [valV_neg e, b]; exact ih
theorem KT.repl {H : Hp} {kvs : List (List Key × V)} {xs : List (List Key × Addr × Value)} (r : KT H kvs xs) (k : List Key) {y : V} {u : Value} (ry : RelV y u) :
  KT H (kvs.map fun kv => if kv.1 = k then (kv.1, y) else kv) (xs.map (putAt k u)) := by
 induction r with
 | nil => exact .nil
 | @cons p q ps qs h t ih =>
  rw [List.map_cons, List.map_cons]
  refine .cons ?_ ih
  obtain ⟨h1, h2, h3⟩ := h
  unfold putAt
  by_cases e : p.1 = k
  ·rw [if_pos e, if_pos (h1.symm.trans e)]; exact ⟨h1, h2, ry⟩
  ·rw [if_neg e, if_neg (fun z => e (h1.trans z))]; exact ⟨h1, h2, h3⟩
theorem KT.put {H : Hp} {kvs : List (List Key × V)} {xs : List (List Key × Addr × Value)} (r : KT H kvs xs) (k : List Key) {b : Addr} {y : V} {u : Value} (hb : H b = some (.tup (k.map kV))) (ry : RelV y u) :
  KT H (putK kvs k y) (storedH xs k b u) := by
 have e : (kvs.any fun kv => decide (kv.1 = k)) = (atKey xs k).isSome := by
  rw [valV_any, (r.val k).isSome_eq, Option.isSome_map]
 unfold putK storedH
 rw [e]
 by_cases q : (atKey xs k).isSome = true
 ·rw [if_pos q, if_pos q]; exact r.repl k ry
 ·rw [if_neg q, if_neg q]; exact Paired.snoc r ⟨rfl, hb, ry⟩
theorem KT.keeps {H H' : Hp} {kvs : List (List Key × V)} {xs : List (List Key × Addr × Value)} (r : KT H kvs xs) (ht : ∀ b ys, H b = some (.tup ys) → H' b = some (.tup ys)) : KT H' kvs xs :=
 Paired.mapP r fun _ _ z => ⟨z.1, ht _ _ z.2.1, z.2.2⟩
section
variable {P : Program} {w : World} {H : Hp} {h : Heap} {a : Addr}
theorem rd_of {u : HO} (ok : HOk P w H h) (e : Rd H a u) : ObjOk P w H h a u := e.ok ok
theorem dk_rd {kvs : List (Key × V)} (ok : HOk P w H h) (e : Rd H a (.dK kvs)) : kvs.length ≤ sizeLine ∧ (a == sysModules) = false ∧ ∃ vs, KV kvs vs ∧ h.DictOf (mixKind P w) a vs :=
 show ObjOk P w H h a (.dK kvs) from rd_of ok e
theorem dk_of {kvs : List (Key × V)} (ok : HOk P w H h) (e : H a = some (.dK kvs)) : kvs.length ≤ sizeLine ∧ (a == sysModules) = false ∧ ∃ vs, KV kvs vs ∧ h.DictOf (mixKind P w) a vs := dk_rd ok (.inl e)
theorem key_of {ks : List Key} (ok : HOk P w H h) (e : H a = some (.tup (ks.map kV))) : (tupleKind (mixKind P w)).is h ks a := by
 obtain ⟨_, its, r, ⟨o, h1, h2, n, h3⟩, _⟩ := (show ObjOk P w H h a (.tup (ks.map kV)) from ok a _ e)
 exact ⟨o, its.toArray, n, h1, h2, h3, by simpa using items_are r⟩
theorem dt_rd {kvs : List (List Key × V)} (ok : HOk P w H h) (e : Rd H a (.dT kvs)) : kvs.length ≤ sizeLine ∧ (a == sysModules) = false ∧
  ∃ xs, KT H kvs xs ∧ h.DictOfH (tupleKind (mixKind P w)) a xs := by
 obtain ⟨z, y, xs, r, o, es, ep, h1, h2, h3, h4, h5⟩ := (show ObjOk P w H h a (.dT kvs) from rd_of ok e)
 refine ⟨z, y, xs, r, o, es, ep, h1, h2, h3, h4, fun x hx => ?_, h5⟩
 have all : ∀ {l : List (List Key × V)} {m : List (List Key × Addr × Value)}, KT H l m → ∀ x ∈ m, (tupleKind (mixKind P w)).is h x.1 x.2.1 := by
  intro l m q
  induction q with
  | nil => intro x hx; exact nomatch hx
  | @cons p q ps qs hq t ih =>
   intro x hx
   rcases List.mem_cons.mp hx with e | hx
   ·subst e
    exact key_of ok (by rw [← hq.1]; exact hq.2.1)
   ·exact ih x hx
 exact all r x hx
theorem dt_of {kvs : List (List Key × V)} (ok : HOk P w H h) (e : H a = some (.dT kvs)) : kvs.length ≤ sizeLine ∧ (a == sysModules) = false ∧
  ∃ xs, KT H kvs xs ∧ h.DictOfH (tupleKind (mixKind P w)) a xs := dt_rd ok (.inl e)
end
def DGet (H : Hp) (a : Addr) (y : V) (r : Option V) : Prop :=
 (∃ kvs k, Rd H a (.dK kvs) ∧ y = kV k ∧ r = valV kvs k) ∨ ∃ kvs k b, Rd H a (.dT kvs) ∧ y = .ref b ∧ H b = some (.tup (k.map kV)) ∧ r = valV kvs k
def DPut (H : Hp) (a : Addr) (y v : V) (H' : Hp) : Prop :=
 (∃ kvs k, H a = some (.dK kvs) ∧ y = kV k ∧ kvs.length < sizeLine ∧ H' = upd H a (.dK (putK kvs k v))) ∨
 ∃ kvs k b, H a = some (.dT kvs) ∧ y = .ref b ∧ H b = some (.tup (k.map kV)) ∧ kvs.length < sizeLine ∧ H' = upd H a (.dT (putK kvs k v))
theorem DGet.k {H : Hp} {a : Addr} {kvs : List (Key × V)} {k : Key} (e : H a = some (.dK kvs)) : DGet H a (kV k) (valV kvs k) := .inl ⟨kvs, k, .inl e, rfl, rfl⟩
theorem DPut.k {H : Hp} {a : Addr} {kvs : List (Key × V)} {k : Key} {v : V} (e : H a = some (.dK kvs)) (hl : kvs.length < sizeLine) : DPut H a (kV k) v (upd H a (.dK (putK kvs k v))) := .inl ⟨kvs, k, e, rfl, hl, rfl⟩
section
variable {X : Cx} {pins : List (Addr × Obj)} {σ : St} {H : Hp} {s : Shared} {a : Addr} {y v : V} {u r : Value} {o : Option V} {A : Around} {E : Value → Shared → Prop}
theorem Inv.big (I : Inv X pins σ H s) : sysModules < s.heap.objs.size := by
 have h : mainGlobals < s.heap.objs.size := (I.mod.glob.keeps I.bk).lt
 exact Nat.lt_trans (by decide) h
theorem d_getItem {Q : Value → Shared → Prop} (hu : A.units + 1 < cLine) (I : Inv X pins σ H s) (g : DGet H a y (some v)) (ry : RelV y u) (h : ∀ w' s', Inv X pins σ H s' → RelV v w' → Q w' s') :
  wpAny (model X.prog X.w) A (getItem (.ref a) u) Q E s := by
 rcases g with ⟨kvs, k, e, ey, l⟩ | ⟨kvs, k, b, e, ey, eb, l⟩
 ·subst ey
  obtain ⟨z, hd, vs, rel, dd⟩ := dk_rd I.hok e
  obtain ⟨w', hw, rw'⟩ := RelO.some_of (v := v) (o := valueAt vs k) (by rw [l]; exact rel.val k)
  exact wpAny_getItem_of (kV_is ry) dd.mapOf hw (h w' _ (I.tok _) rw')
 ·subst ey
  cases (show u = Value.ref b from ry)
  obtain ⟨z, hd, xs, rel, dd⟩ := dt_rd I.hok e
  obtain ⟨w', hw, rw'⟩ := RelO.some_of (v := v) (o := (atKey xs k).map (·.2)) (by rw [l]; exact rel.val k)
  obtain ⟨p, hp, hp2⟩ := Option.map_eq_some_iff.mp hw
  refine wpAny_getItem_heap (tupleKind_room_in1 hu) (key_of I.hok eb) dd hp ?_
  rw [hp2]
  exact h w' _ (I.tok _) rw'
theorem d_notIn {Q : Value → Shared → Prop} (hu : A.units + 1 < cLine) (I : Inv X pins σ H s) (g : DGet H a y o) (ry : RelV y u) (h : ∀ s', Inv X pins σ H s' → Q (.bool (!o.isSome)) s') :
  wpAny (model X.prog X.w) A (compareOp .NotIn u (.ref a)) Q E s := by
 rcases g with ⟨kvs, k, e, ey, l⟩ | ⟨kvs, k, b, e, ey, eb, l⟩
 ·subst ey
  obtain ⟨z, hd, vs, rel, dd⟩ := dk_rd I.hok e
  refine wpAny_notIn_of (kV_is ry) hd dd.mapOf ?_
  rw [← (rel.val k).isSome_eq, ← l]
  exact h _ (I.tok _)
 ·subst ey
  cases (show u = Value.ref b from ry)
  obtain ⟨z, hd, xs, rel, dd⟩ := dt_rd I.hok e
  refine wpAny_notIn_heap (tupleKind_room_in1 hu) (key_of I.hok eb) hd dd ?_
  have q := (rel.val k).isSome_eq
  rw [Option.isSome_map] at q
  rw [← q, ← l]
  exact h _ (I.tok _)
theorem d_write {h' : Heap} {t' : Nat} {ob : HO} (I : Inv X pins σ H s) (mu : Mut (H a)) (hs : Heap.SameBut a s.heap h') (he : ∃ q, h'.get? a = some q) (new : ObjOk X.prog X.w (upd H a ob) h' a ob) :
  Inv X pins σ (upd H a ob) { s with heap := h', toks := t' } :=
 I.write (x := a) (e := a) mu (.inl rfl) (fun b q hb z => (hs.2 b hb).trans z) he new
theorem dk_new {P : Program} {w : World} {H' : Hp} {h' : Heap} {kvs : List (Key × V)} {vs : List (Key × Value)} (z : kvs.length ≤ sizeLine) (hd : (a == sysModules) = false) (rel : KV kvs vs) (dd : h'.DictOf (mixKind P w) a vs) :
  ObjOk P w H' h' a (.dK kvs) := ⟨z, hd, vs, rel, dd⟩
theorem d_setItem {H' : Hp} {Q : Unit → Shared → Prop} (hu : A.units + 1 < cLine) (I : Inv X pins σ H s) (g : DPut H a y v H') (ry : RelV y u) (rv : RelV v r) (h : ∀ s', Inv X pins σ H' s' → Q () s') :
  wpAny (model X.prog X.w) A (setItem (.ref a) u r) Q E s := by
 rcases g with ⟨kvs, k, e, ey, l, eH⟩ | ⟨kvs, k, b, e, ey, eb, l, eH⟩
 ·subst ey eH
  obtain ⟨z, hd, vs, rel, dd⟩ := dk_of I.hok e
  have hz : vs.length ≤ sizeLine := by rw [← rel.length]; exact z
  have hl : (putK kvs k v).length ≤ sizeLine := by have := length_putK kvs k v; omega
  refine wpAny_setItem_pairs (hsz := hz) (kV_is ry) dd fun h' dd' hs => h _ ?_
  have he : ∃ q, h'.get? a = some q := let ⟨q, _, _, hq, _⟩ := dd'; ⟨q, hq⟩
  exact d_write I (by rw [e]; exact True.intro) hs he (dk_new hl hd (rel.put k rv) dd')
 ·subst ey eH
  cases (show u = Value.ref b from ry)
  obtain ⟨z, hd, xs, rel, dd⟩ := dt_of I.hok e
  have hz : xs.length ≤ sizeLine := by rw [← Paired.length rel]; exact z
  have hl : (putK kvs k v).length ≤ sizeLine := by have := length_putK kvs k v; omega
  refine wpAny_setItem_heap (hsz := hz) (tupleKind_room_in1 hu) (key_of I.hok eb) dd fun h' dd' hs => h _ ?_
  obtain ⟨q, es, ep, hq, h2, h3, h4, _, h5⟩ := dd'
  refine d_write I (by rw [e]; exact True.intro) hs ⟨q, hq⟩ ⟨hl, hd, _, (rel.put k eb rv).keeps fun c ys ec => ?_, q, es, ep, hq, h2, h3, h4, h5⟩
  rw [upd_ne (ne_of ec e (fun z => nomatch z))]
  exact ec
end
section
variable {X : Cx} {pins : List (Addr × Obj)} {σ : St} {H : Hp} {s : Shared} {a : Addr} {kvs : List (Key × V)} {k : Key} {u : Value} {A : Around} {E : Value → Shared → Prop}
end
def NoSl (i : Expr) : Prop := ∀ ov iv, subscripted i false ov iv = operate [ov, iv] (getItem ov iv)
theorem subD_of {prog : Program} {w : World} {A : Around} {E : Value → Shared → Prop} {s : Shared} {env : Env} {value slice : Expr} {pos : Pos} {T id : String} {Q : Value → Shared → Prop}
  (hl : typeLookup (.type T) "__getitem__" = pure (some (.builtin id))) (hs : NoSl slice)
  (h : wpAny (model prog w) A (eval value env) (fun o s₁ => wpAny (model prog w) A (eval slice env) (fun i s₂ => s₂.TypeIs o T ∧ wpAny (model prog w) A (getItem o i) Q E s₂) E s₁) E s) :
  wpAny (model prog w) A (eval (.Subscript value slice pos) env) Q E s := by
 refine Subscript_ (wpAny_mono h (fun o s₁ h₁ => wpAny_mono h₁ (fun i s₂ h₂ => ?_) fun _ _ x => x) fun _ _ x => x)
 obtain ⟨hT, h₂⟩ := h₂
 unfold subscriptTail
 refine wpAny_bind ?_
 rw [getitemInPython_of_ne hT.not_modules]
 refine wpAny_bind (wpAny_specialOf hT hl ?_)
 have fin : wpAny (model prog w) A (subscripted slice false o i) (fun r s₃ => wpAny (model prog w) A (letTemporaryGo value o r >>= fun _ => pure r) Q E s₃) E s₂ := by
  rw [hs o i]
  exact wpAny_operating (wpAny_mono h₂ (fun r s₃ h₃ => wpAny_bind (wpAny_letTemporaryGo (wpAny_pure h₃))) fun _ _ x => x)
 first
  | exact wpAny_pure (wpAny_bind fin)
  | exact wpAny_bind (wpAny_pure (wpAny_bind fin))
  | exact wpAny_bind fin
theorem dict_typeIs {X : Cx} {pins : List (Addr × Obj)} {σ : St} {H : Hp} {s : Shared} {a : Addr} {y : V} {o : Option V} (I : Inv X pins σ H s) (g : DGet H a y o) : s.TypeIs (.ref a) "dict" := by
 rcases g with ⟨kvs, k, e, _, _⟩ | ⟨kvs, k, b, e, _, _, _⟩
 ·obtain ⟨_, _, vs, _, dd⟩ := dk_rd I.hok e
  exact dd.typeIs
 ·obtain ⟨_, _, xs, _, dd⟩ := dt_rd I.hok e
  exact dd.typeIs
def tDGet (td ty : TE) : TE := fun σ H Q => td σ H fun x H1 => ty σ H1 fun y H2 => ∃ a v, x = .ref a ∧ DGet H2 a y (some v) ∧ Q v H2
def tDNotIn (ty td : TE) : TE := fun σ H Q => ty σ H fun y H1 => td σ H1 fun x H2 => ∃ a o, x = .ref a ∧ DGet H2 a y o ∧ Q (.bl (!o.isSome)) H2
def sDPut (td ty tv : TE) : TS := fun D σ H => tv σ H fun v H1 => td σ H1 fun x H2 => ty σ H2 fun y H3 => ∃ a H4, x = .ref a ∧ DPut H3 a y v H4 ∧ D.nx σ H4
section
variable {X : Cx} {o i e value : Expr} {pos pos' tpos : Pos} {td ty tv : TE}
theorem pe_dget (hu : X.A.units + 1 < cLine) (ho : PE X o td) (hi : PE X i ty) (hs : NoSl i) : PE X (.Subscript o i pos) (tDGet td ty) := by
 intro pins s σ H Q I h
 refine subD_of PySem.F.slot_dict_getitem.lookup hs (thn (ho pins s σ H _ I h) fun u s1 ⟨x, H1, I1, rx, q1⟩ => thn (hi pins s1 σ H1 _ I1 q1) fun iv s2 ⟨y, H2, I2, ry, a, v, ex, g, q2⟩ => ?_)
 subst ex
 obtain rfl : u = Value.ref a := rx
 exact ⟨dict_typeIs I2 g, d_getItem hu I2 g ry fun w' s3 I3 rw' => ⟨v, H2, I3, rw', q2⟩⟩
theorem pc_dnotin (hu : X.A.units + 1 < cLine) (hi : PE X i ty) (ho : PE X o td) : PC X .NotIn i o (tDNotIn ty td) := by
 intro pins s σ H Q I h
 refine thn (hi pins s σ H _ I h) fun iv s1 ⟨y, H1, I1, ry, q1⟩ => thn (ho pins s1 σ H1 _ I1 q1) fun u s2 ⟨x, H2, I2, rx, a, ov, ex, g, q2⟩ => ?_
 subst ex
 obtain rfl : u = Value.ref a := rx
 exact d_notIn hu I2 g ry fun s3 I3 => ⟨.bl (!ov.isSome), H2, I3, rfl, q2⟩
theorem ps_dput (hu : X.A.units + 1 < cLine) (ho : PE X o td) (hi : PE X i ty) (hv : PE X value tv) (hs : swapsWith value (some (.Subscript o i pos')) pos.line X.env = pure false) :
  PS X (.Assign [.Subscript o i pos'] value pos) (sDPut td ty tv) := by
 intro pins s σ H D I h
 refine wpAny_Assign_Subscript (thn (hv pins s σ H _ I h) fun r s1 ⟨v, H1, I1, rv, q1⟩ => thn (ho pins s1 σ H1 _ I1 q1) fun u s2 ⟨x, H2, I2, rx, q2⟩ => thn (hi pins s2 σ H2 _ I2 q2) fun iv s3 ⟨y, H3, I3, ry, a, H4, ex, g, q3⟩ => ?_) hs
 subst ex
 obtain rfl : u = Value.ref a := rx
 exact d_setItem hu I3 g ry rv fun s4 I4 => ⟨σ, H4, I4, q3⟩
end
theorem dk_empty {P : Program} {w : World} {H : Hp} (h : Heap) (hb : sysModules < h.objs.size) : ObjOk P w H (h.push { cls := .type "dict", data := .dict #[] }) h.objs.size (.dK []) :=
 ⟨Nat.zero_le _, beq_eq_false_iff_ne.mpr (Ne.symm (Nat.ne_of_lt hb)), [], .nil, Heap.DictOf.new h⟩
def tDNewK : TE := fun _ H Q => ∀ p, H p = none → Q (.ref p) (upd H p (.dK []))
section
variable {X : Cx} {pos : Pos}
theorem pe_dnewK : PE X (.Dict [] [] pos) tDNewK := fun pins s σ H Q I h =>
 wpAny_Dict_empty ⟨.ref s.heap.objs.size, _, I.laid (a := s.heap.objs.size) (o := .dK []) (t' := s.toks) (fun _ _ q => Heap.get?_push_of_some _ q) (Nat.le_refl _) (dk_empty s.heap I.big), rfl, h _ (I.hok.fresh (Nat.le_refl _))⟩
end
structure M2 (X : Cx) (o : Expr) (m : Str) (apos : Pos) (e f : Expr) (cpos : Pos) : Prop where
 base : attributeBase o m X.env (eval o X.env) = eval o X.env
 few : ((backTo cpos (starEach [e, f] X.env)).all (fun x => !x.1) && (backToKw cpos (keywordEach [] X.env)).all (fun x => x.1.isSome)
  && decide (([e, f] : List Expr).length + ([] : List Keyword).length + (if ([] : List Keyword).isEmpty then 0 else 1) < 30)) = true
 line : (apos.endLine == cpos.line) = true
 trees : backTo cpos (starEach [e, f] X.env) = [(false, eval e X.env), (false, eval f X.env)]
def IsD (H : Hp) (a : Addr) : Prop := (∃ kvs, Rd H a (.dK kvs)) ∨ ∃ kvs, Rd H a (.dT kvs)
theorem isD_at {X : Cx} {pins : List (Addr × Obj)} {σ : St} {H : Hp} {s : Shared} {a : Addr} (I : Inv X pins σ H s) (d : IsD H a) :
  s.TypeIs (.ref a) "dict" ∧ (∀ b, Value.ref a = .ref b → ∃ ob, s.heap.get? b = some ob ∧ ob.dict = none) ∧ (a == sysModules) = false := by
 rcases d with ⟨kvs, e⟩ | ⟨kvs, e⟩
 ·obtain ⟨_, hd, vs, _, dd⟩ := dk_rd I.hok e
  refine ⟨dd.typeIs, fun b q => ?_, hd⟩
  cases q
  obtain ⟨ob, _, _, h1, h2, _⟩ := dd
  exact ⟨ob, h1, h2.2.1⟩
 ·obtain ⟨_, hd, xs, _, dd⟩ := dt_rd I.hok e
  refine ⟨dd.typeIs, fun b q => ?_, hd⟩
  cases q
  obtain ⟨ob, _, _, h1, h2, _⟩ := dd
  exact ⟨ob, h1, h2.2.1⟩
section
variable {X : Cx} {pins : List (Addr × Obj)} {σ : St} {H : Hp} {s : Shared} {a : Addr} {y d : V} {u r : Value} {o : Option V} {A : Around} {E : Value → Shared → Prop}
theorem d_get2 {Q : Value → Shared → Prop} (hu : A.units + 1 < cLine) (I : Inv X pins σ H s) (g : DGet H a y o) (ry : RelV y u) (rd : RelV d r) (h : ∀ w' s', Inv X pins σ H s' → RelV (o.getD d) w' → Q w' s') :
  wpAny (model X.prog X.w) A (call (.builtin "dict.get") [.ref a, u, r]) Q E s := by
 rcases g with ⟨kvs, k, e, ey, l⟩ | ⟨kvs, k, b, e, ey, eb, l⟩
 ·subst ey
  obtain ⟨z, hd, vs, rel, dd⟩ := dk_rd I.hok e
  refine call_meetsIn PySem.F.slot_dict_get dd.typeIs PySem.F.entry_dict_get (PySem.F.args_dict_get_3 _ _ _) (meets_dict_get_default (mixKind X.prog X.w) a (kV_is ry) hd r) ⟨_, dd.mapOf, h _ _ (I.tok _) ?_⟩
  rw [l]
  exact (rel.val k).getD rd
 ·subst ey
  cases (show u = Value.ref b from ry)
  obtain ⟨z, hd, xs, rel, dd⟩ := dt_rd I.hok e
  refine call_meetsIn PySem.F.slot_dict_get dd.typeIs PySem.F.entry_dict_get (PySem.F.args_dict_get_3 _ _ _) (meetsH_dict_get_default (tupleKind (mixKind X.prog X.w)) a b hd r) ⟨tupleKind_room_in1 hu, k, xs, key_of I.hok eb, dd, h _ _ (I.tok _) ?_⟩
  rw [l]
  exact (rel.val k).getD rd
end
def tDGet2 (td ty tx : TE) : TE := fun σ H Q => td σ H fun x H1 => ∃ a, x = .ref a ∧ IsD H1 a ∧ ty σ H1 fun y H2 => tx σ H2 fun z H3 => ∃ o, DGet H3 a y o ∧ Q (o.getD z) H3
section
variable {X : Cx} {o e f : Expr} {apos cpos : Pos} {td ty tx : TE}
theorem pe_dget2 (hu : X.A.units + 1 < cLine) (ho : PE X o td) (he : PE X e ty) (hf : PE X f tx) (m : M2 X o "get" apos e f cpos) : PE X (.Call (.Attribute o "get" apos) [e, f] [] cpos) (tDGet2 td ty tx) := by
 intro pins s σ H Q I h
 refine wpAny_Call_method m.base m.few m.line PySem.F.plainAttrs_dict PySem.F.slot_dict_get PySem.F.type_dict_get (thn (ho pins s σ H _ I h) fun u s1 ⟨x, H1, I1, rx, a, ex, d, q1⟩ => ?_)
 subst ex
 obtain rfl : u = Value.ref a := rx
 obtain ⟨t1, t2, _⟩ := isD_at I1 d
 refine ⟨t1, t2, ?_⟩
 rw [m.trees]
 refine Calls.callWith_builtin rfl (Calls.evalArgs_plain (Calls.spliced_cons (thn (he pins s1 σ H1 _ I1 q1) fun iv s2 ⟨y, H2, I2, ry, q2⟩ =>
  Calls.spliced_cons (thn (hf pins s2 σ H2 _ I2 q2) fun fv s3 ⟨z, H3, I3, rz, ov, g, q3⟩ => Calls.spliced_nil ?_))))
 exact d_get2 hu I3 g ry rz fun w' s4 I4 rw' => ⟨_, H3, I4, rw', q3⟩
end
section
variable {X : Cx} {pins : List (Addr × Obj)} {σ : St} {H : Hp} {s : Shared} {a : Addr} {kvs : List (Key × V)} {A : Around} {E : Value → Shared → Prop}
end
section
variable {X : Cx} {pins : List (Addr × Obj)} {σ : St} {H : Hp} {s : Shared} {a : Addr} {y : V} {u : Value} {A : Around} {E : Value → Shared → Prop}
end
end L2
namespace HT
open PySem PyProof.Rows
section
open PySem.SeqAt
open PySem.AutoSeq1 (wpAny_loadPart')
open PySem.MeetsSeq PySem.MeetsSeq2 PySem.MeetsSeq3
end
section
variable {prog : Program} {w : World} {A : Around} {E : Value → Shared → Prop} {s : Shared}
def sIx (n d : Nat) : Option Int → Nat
 | none => d
 | some v => if v < 0 then (v + (n : Int)).toNat else min v.toNat n
theorem sIx_le (n d : Nat) (hd : d ≤ n) (o : Option Int) : sIx n d o ≤ n := by
 cases o with
 | none => exact hd
 | some v =>
  show (if v < 0 then (v + (n : Int)).toNat else min v.toNat n) ≤ n
  by_cases hv : v < 0
  ·rw [if_pos hv]; omega
  ·rw [if_neg hv]; exact Nat.min_le_right _ _
theorem clip_eq (v : Int) (n d : Nat) : (if v < 0 then max (v + (n : Int)) 0 else min v (n : Int)) = ((sIx n d (some v) : Nat) : Int) := by
 show (if v < 0 then max (v + (n : Int)) 0 else min v (n : Int)) = (((if v < 0 then (v + (n : Int)).toNat else min v.toNat n) : Nat) : Int)
 by_cases hv : v < 0
 ·simp only [if_pos hv]; omega
 ·simp only [if_neg hv]; omega
theorem adjust_gen (lo hi : Option Int) (n : Nat) : Builtin.Slice.sliceAdjust lo hi 1 (n : Int) = (((sIx n 0 lo : Nat) : Int), ((sIx n n hi : Nat) : Int)) := by
 have h1 : ¬ ((1 : Int) < 0) := by omega
 unfold Builtin.Slice.sliceAdjust
 simp only [h1, if_false]
 refine Prod.ext ?_ ?_
 ·cases lo with
  | none => rfl
  | some v => exact clip_eq v n 0
 ·cases hi with
  | none => rfl
  | some v => exact clip_eq v n n
theorem places_gen (i j : Nat) : Builtin.Slice.slicePlaces (i : Int) (j : Int) 1 = j - i := by
 unfold Builtin.Slice.slicePlaces
 have h1 : (1 : Int) > 0 := by omega
 simp only [h1, if_true, Int.ediv_one]
 split <;> omega
theorem slicePart_ {v : Value} {o : Option Int} {Q : Option Int → Shared → Prop} (p : IsPart v o) (h : Q o s) : wpAny (model prog w) A (Builtin.Slice.slicePartIndex v) Q E s := by
 cases p with
 | none => exact slicePart_none h
 | int i t => exact slicePart_int h
theorem sliceApplied_gen {sl : Addr} {vl vu : Value} {lo hi : Option Int} {n : Nat} {Q : Int × Int × Nat → Shared → Prop} (hs : s.heap.IsSliceOf sl vl vu .none) (pl : IsPart vl lo) (pu : IsPart vu hi)
  (h : Q (((sIx n 0 lo : Nat) : Int), 1, sIx n n hi - sIx n 0 lo) s) : wpAny (model prog w) A (Builtin.Slice.sliceApplied (.ref sl) (pure (n : Int))) Q E s := by
 obtain ⟨os, hos, hcs, hds⟩ := id hs
 unfold Builtin.Slice.sliceApplied Builtin.Slice.sliceFields
 refine wpAny_bind (wpAny_bind (wpAny_field hos hds (x := vl) rfl (wpAny_bind (wpAny_field hos hds (x := vu) rfl (wpAny_bind (wpAny_field hos hds (x := .none) rfl (wpAny_pure ?_)))))))
 refine wpAny_bind (slicePart_none ?_)
 show wpAny _ _ (if ((1 : Int) == 0) = true then _ else _) _ _ s
 rw [if_neg (by decide)]
 refine wpAny_bind (slicePart_ pl (wpAny_bind (slicePart_ pu (wpAny_bind (wpAny_pure ?_)))))
 show wpAny _ _ (match Builtin.Slice.sliceAdjust lo hi 1 (n : Int) with | (lo, hi) => pure (lo, (1 : Int), Builtin.Slice.slicePlaces lo hi 1)) _ _ s
 rw [adjust_gen lo hi n]
 show wpAny _ _ (pure (((sIx n 0 lo : Nat) : Int), (1 : Int), Builtin.Slice.slicePlaces ((sIx n 0 lo : Nat) : Int) ((sIx n n hi : Nat) : Int) 1)) _ _ s
 rw [places_gen]
 exact wpAny_pure h
theorem pick_gen (xs : Array Value) (i k : Nat) : ((List.range k).filterMap fun (m : Nat) => xs[((i : Int) + (m : Int) * 1).toNat]?).toArray = ((xs.toList.drop i).take k).toArray := by
 have e : (fun (m : Nat) => xs[((i : Int) + (m : Int) * 1).toNat]?) = fun m => xs[i + m]? := by
  funext m
  have : ((i : Int) + (m : Int) * 1).toNat = i + m := by omega
  rw [this]
 rw [e]
 have := pick_run xs i k
 rw [List.filterMap_map] at this
 have e2 : ((fun x => xs[x]?) ∘ fun x => i + x) = fun m => xs[i + m]? := rfl
 rw [e2] at this
 rw [this]
theorem getItem_tuple_cut {t sl : Addr} {items : Array Value} {vl vu : Value} {lo hi : Option Int} {Q : Value → Shared → Prop} (ht : IsTup s.heap t items) (hs : s.heap.IsSliceOf sl vl vu .none) (pl : IsPart vl lo) (pu : IsPart vu hi)
  (hw : ¬ (sIx items.size 0 lo = 0 ∧ sIx items.size items.size hi = items.size))
  (h : Q (.ref s.heap.objs.size) { s with heap := s.heap.push { cls := .type "tuple", data := .seq ((items.toList.drop (sIx items.size 0 lo)).take (sIx items.size items.size hi - sIx items.size 0 lo)).toArray } })
  (hsz : items.size ≤ sizeLine) : wpAny (model prog w) A (getItem (.ref t) (.ref sl)) Q E s := by
 have htake : sizeOk (.seq ((items.toList.drop (sIx items.size 0 lo)).take (sIx items.size items.size hi - sIx items.size 0 lo)).toArray) := by
  show ((items.toList.drop (sIx items.size 0 lo)).take (sIx items.size items.size hi - sIx items.size 0 lo)).toArray.size ≤ sizeLine
  rw [List.size_toArray, List.length_take, List.length_drop, Array.length_toList]
  omega
 have hj : sIx items.size items.size hi ≤ items.size := sIx_le _ _ (Nat.le_refl _) hi
 obtain ⟨os, hos, hcs, hds⟩ := id hs
 have hTs : s.TypeIs (.ref sl) "slice" := ⟨os, hos, hcs⟩
 unfold getItem
 try with_reducible refine wpAny_holding ?_
 first | refine wpAny_bind (wpAny_pure ?_) | skip
 refine wpAny_bind (wpAny_sequenceKey ht.typeIs (by decide) ?_)
 refine wpAny_bind (wpAny_callSpecial?_slot (name := Str.ofString "__getitem__") ht.typeIs PyProof.Rows.slot_tuple_getitem
  (wpAny_call_entry PyProof.Rows.slot_tuple_getitem ht.typeIs entry_tuple_getitem ?_ (args_tuple_getitem _ _)))
 show wpAny _ _ (Builtin.Tuple.tupleItemsOf (.ref t) >>= _) _ _ s
 refine wpAny_bind (tupleItemsOf_ ht ?_)
 refine wpAny_bind (wpAny_typeOf hTs ?_)
 rw [if_pos (by decide)]
 refine wpAny_bind (sliceApplied_gen hs pl pu ?_)
 have hno : ¬ ((((sIx items.size 0 lo : Nat) : Int) == 0 && (1 : Int) == 1 && (sIx items.size items.size hi - sIx items.size 0 lo) == items.size) = true) := by
  intro q
  rw [Bool.and_eq_true, Bool.and_eq_true] at q
  have q1 : ((sIx items.size 0 lo : Nat) : Int) = 0 := eq_of_beq q.1.1
  have q2 : sIx items.size items.size hi - sIx items.size 0 lo = items.size := eq_of_beq q.2
  exact hw ⟨by omega, by omega⟩
 show wpAny _ _ (if (((sIx items.size 0 lo : Nat) : Int) == 0 && (1 : Int) == 1 && (sIx items.size items.size hi - sIx items.size 0 lo) == items.size) = true then _ else _) _ _ s
 rw [if_neg hno, pick_gen]
 first
  | exact wpAny_bind (m := Builtin.Tuple.tupleExact _) (wpAny_newObj_type (wpAny_pure ⟨_, rfl, wpAny_pure h⟩) htake)
  | exact wpAny_bind (m := Builtin.Tuple.tupleExact _) (wpAny_newObj_type (wpAny_bind (wpAny_pure (wpAny_pure ⟨_, rfl, wpAny_pure h⟩))) htake)
  | exact wpAny_bind (wpAny_bind (m := Builtin.Tuple.tupleExact _) (wpAny_newObj_type (wpAny_pure (wpAny_pure ⟨_, rfl, wpAny_pure h⟩)) htake))
  | exact wpAny_bind (wpAny_bind (m := Builtin.Tuple.tupleExact _) (wpAny_newObj_type (wpAny_pure ⟨_, rfl, wpAny_pure h⟩) htake))
end
end HT
namespace L2
open PySem PySem.Spec PyProof.Rows
abbrev TO := St → Hp → (Option Int → Hp → Prop) → Prop
def PO (X : Cx) (e : Option Expr) (t : TO) : Prop :=
 ∀ (pins : List (Addr × Obj)) (s : Shared) (σ : St) (H : Hp) (Q : Option Int → Hp → Prop), Inv X pins σ H s → t σ H Q →
  wpAny (model X.prog X.w) X.A (evalPart e X.env) (fun u s' => ∃ o H', Inv X pins σ H' s' ∧ IsPart u o ∧ Q o H') X.xe s
def tNoPart : TO := fun _ H Q => Q none H
def tPart (t : TE) : TO := fun σ H Q => t σ H fun x H1 => ∃ i, x = .int i ∧ Q (some i) H1
section
variable {X : Cx} {e : Expr} {te : TE} {lo hi : Option Expr} {tl th : TO} {pos p2 : Pos}
theorem po_none : PO X none tNoPart := by
 intro pins s σ H Q I h
 rw [evalPart_none]
 exact wpAny_pure ⟨none, H, I, .none, h⟩
theorem po_some (h : PE X e te) : PO X (some e) (tPart te) := by
 intro pins s σ H Q I hw
 rw [evalPart_some]
 refine thn (h pins s σ H _ I hw) fun u s1 ⟨x, H1, I1, r1, q1⟩ => ?_
 obtain ⟨i, rfl, q⟩ := q1
 obtain ⟨t, rfl⟩ := r1
 exact ⟨some i, H1, I1, .int i t, q⟩
def SlR (X : Cx) (r : V → Option Int → Option Int → Hp → VK → Prop) : Prop :=
 ∀ (pins : List (Addr × Obj)) (s : Shared) (σ : St) (H : Hp) (x : V) (v vl vu : Value) (lo hi : Option Int) (sl : Addr) (Q : VK), Inv X pins σ H s → RelV x v → s.heap.IsSliceOf sl vl vu .none → IsPart vl lo → IsPart vu hi → r x lo hi H Q →
  ∃ T id, typeLookup (.type T) "__getitem__" = pure (some (.builtin id)) ∧ s.TypeIs v T ∧ wpAny (model X.prog X.w) X.A (getItem v (.ref sl)) (EP X pins σ Q) X.xe s
def tSl (r : V → Option Int → Option Int → Hp → VK → Prop) (te : TE) (tl th : TO) : TE := fun σ H Q => te σ H fun x H1 => tl σ H1 fun l H2 => th σ H2 fun u H3 => r x l u H3 Q
theorem pe_slice {r : V → Option Int → Option Int → Hp → VK → Prop} (hr : SlR X r) (he : PE X e te) (hl : PO X lo tl) (hu : PO X hi th) : PE X (.Subscript e (.Slice lo hi none p2) pos) (tSl r te tl th) := by
 intro pins s σ H Q I h
 refine Subscript_ (thn (he pins s σ H _ I h) fun v s1 ⟨x, H1, I1, r1, q1⟩ => ?_)
 refine wpAny_Slice (thn (hl pins s1 σ H1 _ I1 q1) fun vl s2 ⟨l, H2, I2, pl, q2⟩ => thn (hu pins s2 σ H2 _ I2 q2) fun vu s3 ⟨u, H3, I3, pu, q3⟩ => ?_)
 rw [evalPart_none]
 refine wpAny_pure ?_
 have I4 : Inv X pins σ H3 { s3 with heap := s3.heap.push { cls := .type "slice", data := .fields #[vl, vu, .none] } } := I3.kept (t' := s3.toks) fun b ob q => Heap.get?_push_of_some _ q
 obtain ⟨T, id, hT, ht, hg⟩ := hr pins { s3 with heap := s3.heap.push { cls := .type "slice", data := .fields #[vl, vu, .none] } } σ H3 x v vl vu l u s3.heap.objs.size Q I4 r1 (Heap.IsSliceOf.new ..) pl pu q3
 show wpAny (model X.prog X.w) X.A (subscriptTail e (.Slice lo hi none p2) v (.ref s3.heap.objs.size)) (EP X pins σ Q) X.xe { s3 with heap := s3.heap.push { cls := .type "slice", data := .fields #[vl, vu, .none] } }
 exact tail_any (ops := [.ref s3.heap.objs.size, v]) ht hT hg (by with_unfolding_all rfl)
def cutV (xs : List V) (lo hi : Option Int) : List V := (xs.drop (HT.sIx xs.length 0 lo)).take (HT.sIx xs.length xs.length hi - HT.sIx xs.length 0 lo)
theorem cutV_length (xs : List V) (lo hi : Option Int) : (cutV xs lo hi).length ≤ xs.length := by
 unfold cutV
 rw [List.length_take, List.length_drop]
 omega
def rSlT (K : PySem.W.Frag) : V → Option Int → Option Int → Hp → VK → Prop := fun x lo hi H Q => ∃ a xs, x = .ref a ∧ SqT K H a xs ∧
 ¬ (HT.sIx xs.length 0 lo = 0 ∧ HT.sIx xs.length xs.length hi = xs.length) ∧ ∀ p, H p = none → Q (.ref p) (upd H p (.tup (cutV xs lo hi)))
theorem sl_tup : SlR X (rSlT X.K) := by
 intro pins s σ H x v vl vu lo hi sl Q I rx hs pl pu h
 obtain ⟨a, xs, rfl, hx, hw, q⟩ := h
 cases rx
 obtain ⟨its, r, ht, hz⟩ := I.tuple hx
 have hlen : its.toArray.size = xs.length := by rw [List.size_toArray]; exact r.length.symm
 refine ⟨"tuple", _, PyProof.Rows.slot_tuple_getitem.lookup, ht.typeIs, ?_⟩
 refine HT.getItem_tuple_cut ht hs pl pu (by rw [hlen]; exact hw) ?_ (by rw [hlen]; exact hz)
 rw [hlen]
 refine ⟨.ref s.heap.objs.size, _, I.laid (t' := s.toks) (o := .tup (cutV xs lo hi)) (fun b ob q => Heap.get?_push_of_some _ q) (Nat.le_refl _) ?_, rfl, q _ (I.hok.fresh (Nat.le_refl _))⟩
 exact ⟨Nat.le_trans (cutV_length xs lo hi) hz, _, (r.drop (HT.sIx xs.length 0 lo)).take (HT.sIx xs.length xs.length hi - HT.sIx xs.length 0 lo), IsTup.new _ _, noD_push rfl rfl⟩
end
def ixN (n : Nat) (i : Int) : Option Nat := if 0 ≤ i then (if i < n then some i.toNat else none) else if -(n : Int) ≤ i then some (i + n).toNat else none
def atI {α : Type} (xs : List α) (i : Int) : Option α := (ixN xs.length i).bind fun j => xs[j]?
theorem ixN_seq {n : Nat} {i : Int} {j : Nat} (h : ixN n i = some j) : seqIndex? i n = some j ∧ j < n ∧ -(n : Int) ≤ i ∧ i < n := by
 unfold ixN at h
 by_cases h0 : 0 ≤ i
 ·rw [if_pos h0] at h
  by_cases h1 : i < n
  ·rw [if_pos h1] at h
   have e : i.toNat = j := Option.some.inj h
   exact ⟨by rw [seqIndex_of h0 h1, e], by omega, by omega, h1⟩
  ·rw [if_neg h1] at h; cases h
 ·rw [if_neg h0] at h
  by_cases h1 : -(n : Int) ≤ i
  ·rw [if_pos h1] at h
   have e : (i + n).toNat = j := Option.some.inj h
   exact ⟨by rw [seqIndex_neg (by omega) h1, e], by omega, h1, by omega⟩
  ·rw [if_neg h1] at h; cases h
theorem atI_get {α : Type} {xs : List α} {i : Int} {v : α} (h : atI xs i = some v) : ∃ j, seqIndex? i xs.length = some j ∧ xs[j]? = some v ∧ j < xs.length ∧ -(xs.length : Int) ≤ i ∧ i < xs.length := by
 unfold atI at h
 cases e : ixN xs.length i with
 | none => rw [e] at h; cases h
 | some j =>
  rw [e] at h
  obtain ⟨h1, h2, h3, h4⟩ := ixN_seq e
  exact ⟨j, h1, h, h2, h3, h4⟩
theorem atI_nat {α : Type} {xs : List α} {j : Nat} {v : α} (h : xs[j]? = some v) : atI xs (j : Int) = some v := by
 have hj : j < xs.length := (List.getElem?_eq_some_iff.mp h).1
 have e : ixN xs.length (j : Int) = some j := by
  unfold ixN
  rw [if_pos (by omega), if_pos (by omega)]; simp
 unfold atI; rw [e]; exact h
def PlainIx (b : Expr) : Prop := ∀ o i, subscripted b false o i = operate [o, i] (getItem o i)
def IxR (X : Cx) (r : R2) : Prop :=
 ∀ (value slice : Expr) (pins : List (Addr × Obj)) (s : Shared) (σ : St) (H : Hp) (x y : V) (v u : Value) (Q : VK), Inv X pins σ H s → RelV x v → RelV y u → r x y H Q →
  subscripted slice false v u = operate [v, u] (getItem v u) → wpAny (model X.prog X.w) X.A (subscriptTail value slice v u) (EP X pins σ Q) X.xe s
def MtR (X : Cx) (id : String) (r : V → List V → Hp → VK → Prop) : Prop :=
 ∀ (pins : List (Addr × Obj)) (s : Shared) (σ : St) (H : Hp) (x : V) (xs : List V) (v : Value) (us : List Value) (Q : VK), Inv X pins σ H s → RelV x v → Vals xs us → r x xs H Q →
  wpAny (model X.prog X.w) X.A (call (.builtin id) (v :: us)) (EP X pins σ Q) X.xe s
section
variable {X : Cx} {a b : Expr} {ta tb : TE} {pos : Pos}
theorem pe_ix {r : R2} (hr : IxR X r) (ha : PE X a ta) (hb : PE X b tb) (hs : PlainIx b) : PE X (.Subscript a b pos) (tOp r ta tb) := by
 intro pins s σ H Q I h
 exact Subscript_ (binT ha hb I h fun v u s2 x y H2 I2 rx ry q => hr a b pins s2 σ H2 x y v u Q I2 rx ry q (hs _ _))
def rIxL (K : PySem.W.Frag) : R2 := fun x y H Q => ∃ p xs i v, x = .ref p ∧ y = .int i ∧ SqL K H p xs ∧ atI xs i = some v ∧ Q v H
def rIxT (K : PySem.W.Frag) : R2 := fun x y H Q => ∃ p xs i v, x = .ref p ∧ y = .int i ∧ SqT K H p xs ∧ atI xs i = some v ∧ Q v H
def rIxS : R2 := fun x y H Q => ∃ z i c, x = .str z ∧ y = .int i ∧ z.length ≤ sizeLine ∧ atI z.cps.toList i = some c ∧ Q (.str ⟨#[c]⟩) H
theorem ix_list : IxR X (rIxL X.K) := by
 intro value slice pins s σ H x y v u Q I rx ry h hs
 obtain ⟨p, xs, i, z, rfl, rfl, hq, he, q⟩ := h
 cases rx
 obtain ⟨t, rfl⟩ := ry
 obtain ⟨its, r, pl, hz⟩ := I.list hq
 obtain ⟨j, h1, h2, h3, h4, h5⟩ := atI_get he
 obtain ⟨w, ew, rw'⟩ := r.get h2
 have hl := r.length
 have hn := line63
 have fin : EP X pins σ Q w s := ⟨z, H, I, rw', q⟩
 by_cases h0 : 0 ≤ i
 ·have hj : i.toNat = j := by
   rw [seqIndex_of h0 h5] at h1
   exact Option.some.inj h1
  exact item_listR pl.isList h0 (by omega) (by rw [hj]; simpa using ew) fin hs
 ·have hj : (i + (its.toArray.size : Int)).toNat = j := by
   rw [seqIndex_neg (by omega) h4] at h1
   rw [List.size_toArray, ← hl]
   exact Option.some.inj h1
  exact subscriptTail_builtinR (x := w) pl.isList.typeIs slot_list_getitem.lookup
   (wpAny_getItem_list_neg (Q := fun r s' => r = w ∧ EP X pins σ Q r s') pl.isList (by omega) (by rw [List.size_toArray] <;> omega) (by omega) (by rw [hj]; simpa using ew) ⟨rfl, fin⟩) hs
theorem ix_tup : IxR X (rIxT X.K) := by
 intro value slice pins s σ H x y v u Q I rx ry h hs
 obtain ⟨p, xs, i, z, rfl, rfl, hq, he, q⟩ := h
 cases rx
 obtain ⟨t, rfl⟩ := ry
 obtain ⟨its, r, pl, hz⟩ := I.tuple hq
 obtain ⟨j, h1, h2, h3, h4, h5⟩ := atI_get he
 obtain ⟨w, ew, rw'⟩ := r.get h2
 have hl := r.length
 have hn := line63
 have fin : EP X pins σ Q w s := ⟨z, H, I, rw', q⟩
 exact subscriptTail_builtinR (x := w) pl.typeIs slot_tuple_getitem.lookup
  (getItem_tuple (j := j) (Q := fun r s' => r = w ∧ EP X pins σ Q r s') pl (by omega) (by omega) (by rw [List.size_toArray, ← hl]; exact h1) (by simpa using ew) ⟨rfl, fin⟩) hs
theorem ix_str : IxR X rIxS := by
 intro value slice pins s σ H x y v u Q I rx ry h hs
 obtain ⟨z, i, c, rfl, rfl, hz, he, q⟩ := h
 obtain ⟨t, rfl⟩ := rx
 obtain ⟨t', rfl⟩ := ry
 obtain ⟨j, h1, h2, h3, h4, h5⟩ := atI_get he
 have hl : z.cps.toList.length = z.length := by simp [Str.length]
 rw [hl] at h1 h4 h5
 have hn := line63
 exact tail_any (typeIs_str s z t) slot_str_getitem.lookup (getItem_str (c := c) (by
  have e1 : decide (i < -(2 ^ 63 : Int)) = false := decide_eq_false (by omega)
  have e2 : decide (i ≥ 2 ^ 63) = false := decide_eq_false (by omega)
  rw [e1, e2, Bool.or_false]) (by rw [h1]; simpa using h2) ⟨.str ⟨#[c]⟩, H, I.tok _, ⟨_, rfl⟩, q⟩) hs
theorem mapSeq_set (its : List Value) (n j : Nat) (u : Value) : Obj.mapSeq (·.setIfInBounds j u) { cls := .type "list", data := .seq its.toArray n } = { cls := .type "list", data := .seq (its.set j u).toArray n } := by
 simp [Obj.mapSeq]
theorem Inv.lst {pins : List (Addr × Obj)} {σ : St} {H : Hp} {s : Shared} {p : Addr} {xs : List V} (I : Inv X pins σ H s) (h : H p = some (.lst xs)) :
  ∃ (its : List Value) (n : Nat), Vals xs its ∧ s.heap.get? p = some { cls := .type "list", data := .seq its.toArray n } ∧ xs.length ≤ sizeLine := by
 obtain ⟨z, its, n, r, e⟩ := I.hok p _ h
 exact ⟨its, n, r, e, z⟩
theorem Inv.lstUpd {pins : List (Addr × Obj)} {σ : St} {H : Hp} {s : Shared} {p : Addr} {xs ys : List V} {its its' : List Value} {n n' : Nat} {f : Obj → Obj} (I : Inv X pins σ H s) (h : H p = some (.lst xs))
  (ho : s.heap.get? p = some { cls := .type "list", data := .seq its.toArray n }) (hf : f { cls := .type "list", data := .seq its.toArray n } = { cls := .type "list", data := .seq its'.toArray n' }) (r : Vals ys its') (hz : ys.length ≤ sizeLine) (t : Nat) :
  Inv X pins σ (upd H p (.lst ys)) { s with heap := s.heap.update p f, toks := t } := by
 have e : (s.heap.update p f).get? p = some { cls := .type "list", data := .seq its'.toArray n' } := by
  rw [Heap.get?_update_self f ho (by rw [hf] <;> rfl), hf]
 refine I.write (x := p) (e := p) (by rw [h]; trivial) (.inl rfl) (fun b u hb q => (Heap.get?_update_other _ _ (Ne.symm hb)).trans q) ⟨_, e⟩ ?_
 exact ⟨hz, its', n', r, e⟩
def rSetL : V → V → V → Hp → (Hp → Prop) → Prop := fun o i v H Q => ∃ p xs k j, o = .ref p ∧ i = .int k ∧ H p = some (.lst xs) ∧ ixN xs.length k = some j ∧ Q (upd H p (.lst (xs.set j v)))
theorem set_list : PSet X rSetL := by
 intro pins s σ H o i v ov iv u Q I ro ri rv h
 obtain ⟨p, xs, k, j, rfl, rfl, hp, hj, q⟩ := h
 cases ro
 obtain ⟨t, rfl⟩ := ri
 obtain ⟨its, n, r, ho, hz⟩ := I.lst hp
 obtain ⟨h1, h2, h3, h4⟩ := ixN_seq hj
 have hl := r.length
 have hn := line63
 have I' : Inv X pins σ (upd H p (.lst (xs.set j v))) { s with heap := s.heap.update p (Obj.mapSeq (·.setIfInBounds j u)) } :=
  I.lstUpd hp ho (mapSeq_set its n j u) (r.set rv j) (by rw [List.length_set]; exact hz) s.toks
 by_cases h0 : 0 ≤ k
 ·have hk : k.toNat = j := by
   rw [seqIndex_of h0 h4] at h1
   exact Option.some.inj h1
  exact PySem.W.ki_setAt ho h0 (by omega) (by rw [List.size_toArray, ← hl]; exact h4) (by rw [hk]; exact ⟨_, I', q⟩)
 ·have hk : (k + (its.toArray.size : Int)).toNat = j := by
   rw [seqIndex_neg (by omega) h3] at h1
   rw [List.size_toArray, ← hl]
   exact Option.some.inj h1
  exact PySem.W.ki_setBack ho (by omega) (by rw [List.size_toArray, ← hl]; exact h3) (by omega) (by rw [hk]; exact ⟨_, I', q⟩)
theorem slice_bounds (lo hi : Option Int) (n : Nat) : (sliceBounds lo hi none n).1 = ((HT.sIx n 0 lo : Nat) : Int) ∧ (sliceBounds lo hi none n).2.1 = ((HT.sIx n n hi : Nat) : Int) ∧ (sliceBounds lo hi none n).2.2 = 1 := by
 refine ⟨?_, ?_, rfl⟩
 ·cases lo with
  | none => simp [sliceBounds, HT.sIx]
  | some i =>
   simp only [sliceBounds, HT.sIx, Option.getD_none, show (1 : Int) > 0 by decide, if_true]
   by_cases h : i < 0
   ·simp only [h, if_true] <;> omega
   ·simp only [h, if_false] <;> omega
 ·cases hi with
  | none => simp [sliceBounds, HT.sIx]
  | some i =>
   simp only [sliceBounds, HT.sIx, Option.getD_none, show (1 : Int) > 0 by decide, if_true]
   by_cases h : i < 0
   ·simp only [h, if_true] <;> omega
   ·simp only [h, if_false] <;> omega
theorem slicePick_cut (its : List Value) (lo hi : Option Int) : slicePick its.toArray lo hi none = ((its.drop (HT.sIx its.length 0 lo)).take (HT.sIx its.length its.length hi - HT.sIx its.length 0 lo)).toArray := by
 obtain ⟨h1, h2, h3⟩ := slice_bounds lo hi its.toArray.size
 unfold slicePick
 rw [h1, h2, h3]
 simp only [sliceRange_one, pick_run, List.size_toArray] <;> rfl
def rSlL (K : PySem.W.Frag) : V → Option Int → Option Int → Hp → VK → Prop := fun x lo hi H Q => ∃ a xs, x = .ref a ∧ SqL K H a xs ∧ ∀ p, H p = none → Q (.ref p) (upd H p (.lst (cutV xs lo hi)))
theorem sl_list : SlR X (rSlL X.K) := by
 intro pins s σ H x v vl vu lo hi sl Q I rx hs pl pu h
 obtain ⟨a, xs, rfl, hx, q⟩ := h
 cases rx
 obtain ⟨its, r, ht, hz⟩ := I.list hx
 have hlen := r.length
 refine ⟨"list", _, slot_list_getitem.lookup, ht.isList.typeIs, ?_⟩
 refine wpAny_getItem_list_slice ht.isList hs pl pu .none (by simp) ?_ (by rw [List.size_toArray] <;> omega)
 rw [slicePick_cut, ← hlen]
 refine ⟨.ref s.heap.objs.size, _, I.laid (t' := s.toks) (o := .lst (cutV xs lo hi)) (fun b ob q => Heap.get?_push_of_some _ q) (Nat.le_refl _) ?_, rfl, q _ (I.hok.fresh (Nat.le_refl _))⟩
 exact ⟨Nat.le_trans (cutV_length xs lo hi) hz, _, 0, (r.drop (HT.sIx xs.length 0 lo)).take (HT.sIx xs.length xs.length hi - HT.sIx xs.length 0 lo), Heap.get?_push_size _ rfl⟩
def flatV : V → Bool
 | .non => true
 | .bl _ => true
 | .int _ => true
 | .str _ => true
 | _ => false
def eqV : V → V → Bool
 | .non, .non => true
 | .bl a, .bl b => a == b
 | .bl a, .int b => (if a then 1 else 0) == b
 | .int a, .bl b => a == (if b then 1 else 0)
 | .int a, .int b => a == b
 | .str a, .str b => a == b
 | _, _ => false
theorem eqAt_V {A : Around} {s : Shared} {y x : V} {u v : Value} (ry : RelV y u) (rx : RelV x v) (fy : flatV y = true) (fx : flatV x = true) : SeqAt.EqAt A s u v (eqV y x) := by
 cases y with
 | non =>
  cases ry
  cases x with
  | non => cases rx; exact SeqAt.EqAt.same _
  | bl b => cases rx; exact SeqAt.EqAt.none_bool b
  | int b => obtain ⟨t, rfl⟩ := rx; exact SeqAt.EqAt.none_int b t
  | str b => obtain ⟨t, rfl⟩ := rx; exact SeqAt.EqAt.none_str b t
  | _ => exact absurd (show false = true from fx) Bool.false_ne_true
 | bl a =>
  cases ry
  cases x with
  | non => cases rx; exact SeqAt.EqAt.bool_none a
  | bl b => cases rx; exact SeqAt.EqAt.bool_bool a b
  | int b => obtain ⟨t, rfl⟩ := rx; exact SeqAt.EqAt.bool_int a b t
  | str b => obtain ⟨t, rfl⟩ := rx; exact SeqAt.EqAt.bool_str a b t
  | _ => exact absurd (show false = true from fx) Bool.false_ne_true
 | int a =>
  obtain ⟨t', rfl⟩ := ry
  cases x with
  | non => cases rx; exact SeqAt.EqAt.int_none a t'
  | bl b => cases rx; exact SeqAt.EqAt.int_bool a t' b
  | int b => obtain ⟨t, rfl⟩ := rx; exact SeqAt.EqAt.int_int a t' b t
  | str b => obtain ⟨t, rfl⟩ := rx; exact SeqAt.EqAt.int_str a t' b t
  | _ => exact absurd (show false = true from fx) Bool.false_ne_true
 | str a =>
  obtain ⟨t', rfl⟩ := ry
  cases x with
  | non => cases rx; exact SeqAt.EqAt.str_none a t'
  | bl b => cases rx; exact SeqAt.EqAt.str_bool a t' b
  | int b => obtain ⟨t, rfl⟩ := rx; exact SeqAt.EqAt.str_int a t' b t
  | str b => obtain ⟨t, rfl⟩ := rx; exact SeqAt.EqAt.str_str a t' b t
  | _ => exact absurd (show false = true from fx) Bool.false_ne_true
 | _ => exact absurd (show false = true from fy) Bool.false_ne_true
def eqU (x : V) (u : Value) : Bool := match u with
 | .none => eqV .non x
 | .bool b => eqV (.bl b) x
 | .int i _ => eqV (.int i) x
 | .str z _ => eqV (.str z) x
 | _ => false
theorem eqU_of {x y : V} {u : Value} (r : RelV y u) (f : flatV y = true) : eqU x u = eqV y x := by
 cases y with
 | non => cases r; rfl
 | bl b => cases r; rfl
 | int i => obtain ⟨t, rfl⟩ := r; rfl
 | str z => obtain ⟨t, rfl⟩ := r; rfl
 | _ => exact absurd (show false = true from f) Bool.false_ne_true
theorem any_eqU {x : V} : ∀ {xs : List V} {us : List Value}, Vals xs us → xs.all flatV = true → us.any (eqU x) = xs.any fun y => eqV y x
 | _, _, .nil, _ => rfl
 | y :: xs, u :: us, .cons r t, f => by
  rw [List.all_cons, Bool.and_eq_true] at f
  rw [List.any_cons, List.any_cons, eqU_of r f.1, any_eqU t f.2]
theorem mem_eqAt {A : Around} {s : Shared} {x : V} {v : Value} (rx : RelV x v) (fx : flatV x = true) : ∀ {xs : List V} {us : List Value}, Vals xs us → xs.all flatV = true → ∀ u ∈ us, SeqAt.EqAt A s u v (eqU x u)
 | _, _, .nil, _ => fun u hu => by cases hu
 | y :: xs, u :: us, .cons r t, f => fun u' hu => by
  rw [List.all_cons, Bool.and_eq_true] at f
  rcases List.mem_cons.mp hu with rfl | hu
  ·rw [eqU_of r f.1]; exact eqAt_V r rx f.1 fx
  ·exact mem_eqAt rx fx t f.2 u' hu
def inV (x : V) (xs : List V) : Bool := xs.any fun y => eqV y x
def rIn (K : PySem.W.Frag) (neg : Bool) : R2 := fun x y H Q => ∃ p xs, y = .ref p ∧ (SqL K H p xs ∨ SqT K H p xs) ∧ flatV x = true ∧ xs.all flatV = true ∧ Q (.bl (if neg then !inV x xs else inV x xs)) H
theorem op_notIn_seq : OpR X (compareOp .NotIn) (rIn X.K true) := by
 intro pins s σ H x y v u Q I rx ry h
 obtain ⟨p, xs, rfl, hq, fx, fs, q⟩ := h
 cases ry
 rcases hq with hq | hq
 ·obtain ⟨its, r, pl, hz⟩ := I.list hq
  refine SeqAt.notIn_listAt (eqU x) pl.isList (fun w hw => mem_eqAt rx fx r fs w (by simpa using hw)) ⟨.bl _, H, I, rfl, ?_⟩
  rw [show its.toArray.any (eqU x) = its.any (eqU x) by simp, any_eqU r fs]
  exact q
 ·obtain ⟨its, r, pl, hz⟩ := I.tuple hq
  refine SeqAt.notIn_tupleAt (eqU x) pl (fun w hw => mem_eqAt rx fx r fs w (by simpa using hw)) ⟨.bl _, H, I, rfl, ?_⟩
  rw [show its.toArray.any (eqU x) = its.any (eqU x) by simp, any_eqU r fs]
  exact q
theorem call_list_of : CallR X (.type "list") (fun xs H Q => ∃ p ys, xs = [.ref p] ∧ (SqL X.K H p ys ∨ SqT X.K H p ys) ∧ ∀ l, H l = none → Q (.ref l) (upd H l (.lst ys))) := by
 intro pins s σ H xs us Q I r h
 obtain ⟨p, ys, rfl, hq, q⟩ := h
 obtain ⟨u, rfl, rx⟩ := vals1 r
 cases rx
 have fin : ∀ (its : List Value), Vals ys its → ys.length ≤ sizeLine → ∀ (h' : Heap) (c' : Nat), (∀ b o', s.heap.get? b = some o' → h'.get? b = some o') →
   h'.get? s.heap.objs.size = some { cls := .type "list", dict := none, data := .seq its.toArray c', slots := #[] } → EP X pins σ Q (.ref s.heap.objs.size) { s with heap := h' } := fun its r' hz h' c' kp e =>
  ⟨.ref s.heap.objs.size, _, I.laid (t' := s.toks) kp (Nat.le_refl _) (show ObjOk X.prog X.w _ h' _ (.lst ys) from ⟨hz, its, c', r', e⟩), rfl, q _ (I.hok.fresh (Nat.le_refl _))⟩
 rcases hq with hq | hq
 ·obtain ⟨its, r', pl, hz⟩ := I.list hq
  have hlen := r'.length
  obtain ⟨o, ho, hc, n, hd⟩ := pl.isList
  exact call_list_seq p (.inl rfl) ho hc hd (fun h' c' kp e => fin its r' hz h' c' kp e) (by simp only [List.size_toArray] <;> omega)
 ·obtain ⟨its, r', pl, hz⟩ := I.tuple hq
  have hlen := r'.length
  obtain ⟨o, ho, hc, n, hd⟩ := pl
  exact call_list_seq p (.inr rfl) ho hc hd (fun h' c' kp e => fin its r' hz h' c' kp e) (by simp only [List.size_toArray] <;> omega)
theorem call_tuple_of : CallR X (.type "tuple") (fun xs H Q => ∃ p ys, xs = [.ref p] ∧ ((SqL X.K H p ys ∧ ∀ l, H l = none → Q (.ref l) (upd H l (.tup ys))) ∨ (SqT X.K H p ys ∧ Q (.ref p) H))) := by
 intro pins s σ H xs us Q I r h
 obtain ⟨p, ys, rfl, h⟩ := h
 obtain ⟨u, rfl, rx⟩ := vals1 r
 cases rx
 rcases h with ⟨hq, q⟩ | ⟨hq, q⟩
 ·obtain ⟨its, r', pl, hz⟩ := I.list hq
  have hlen := r'.length
  refine call_tuple_list pl.isList (fun h' kp => ?_) (by simp only [List.size_toArray] <;> omega)
  have I1 : Inv X pins σ H { s with heap := h' } := I.kept (t' := s.toks) kp
  have I2 : Inv X pins σ (upd H h'.objs.size (.tup ys)) { s with heap := h'.push { cls := .type "tuple", data := .seq its.toArray } } :=
   I1.laid (t' := s.toks) (fun b o e => Heap.get?_push_of_some _ e) (Nat.le_refl _) (show ObjOk X.prog X.w _ _ _ (.tup ys) from ⟨hz, its, r', IsTup.new _ _, noD_push rfl rfl⟩)
  exact ⟨.ref h'.objs.size, _, I2, rfl, q _ (I1.hok.fresh (Nat.le_refl _))⟩
 ·obtain ⟨its, r', pl, hz⟩ := I.tuple hq
  exact call_tuple_same pl ⟨.ref p, H, I, rfl, q⟩
def tyV (K : PySem.W.Frag) (T : String) (x : V) (H : Hp) : Prop := match x with
 | .str _ => T = "str"
 | .int _ => T = "int"
 | .ref p => (T = "list" ∧ ∃ xs, SqL K H p xs) ∨ (T = "tuple" ∧ ∃ o, K.lookup p = some o ∧ o.cls = .type "tuple" ∧ o.dict = none) ∨
   (T = "dict" ∧ ((∃ kvs, H p = some (.dK kvs)) ∨ ∃ kvs, H p = some (.dT kvs))) ∨ (T = "set" ∧ ∃ S n, H p = some (.set S n))
 | _ => False
theorem tyV_is {pins : List (Addr × Obj)} {σ : St} {H : Hp} {s : Shared} {T : String} {x : V} {v : Value} (I : Inv X pins σ H s) (r : RelV x v) (ty : tyV X.K T x H) :
  s.TypeIs v T ∧ ∀ a, v = .ref a → ∃ ob, s.heap.get? a = some ob ∧ ob.dict = none := by
 cases x with
 | str z =>
  obtain ⟨t, rfl⟩ := r
  cases (show T = "str" from ty)
  exact ⟨typeIs_str s z t, fun _ e => nomatch e⟩
 | int i =>
  obtain ⟨t, rfl⟩ := r
  cases (show T = "int" from ty)
  exact ⟨typeIs_int s i t, fun _ e => nomatch e⟩
 | ref p =>
  cases r
  rcases ty with ⟨rfl, xs, hq⟩ | ⟨rfl, o, hk, hc, hd⟩ | ⟨rfl, hk⟩ | ⟨rfl, S, n, hk⟩
  ·obtain ⟨its, _, pl, _⟩ := I.list hq
   refine ⟨pl.isList.typeIs, fun a e => ?_⟩
   cases e
   obtain ⟨o, n, e, c, hd, _⟩ := pl
   exact ⟨o, e, hd⟩
  ·refine ⟨⟨o, I.kIn p o hk, hc⟩, fun a e => ?_⟩
   cases e
   exact ⟨o, I.kIn _ o hk, hd⟩
  ·have z : ∃ o, s.heap.get? p = some o ∧ o.ExactDict := by
    rcases hk with ⟨kvs, hk⟩ | ⟨kvs, hk⟩
    ·obtain ⟨_, _, _, _, o, _, _, e, ex, _⟩ := I.hok p _ hk
     exact ⟨o, e, ex⟩
    ·obtain ⟨_, _, _, _, o, _, _, e, ex, _⟩ := I.hok p _ hk
     exact ⟨o, e, ex⟩
   obtain ⟨o, e, ex⟩ := z
   refine ⟨⟨o, e, ex.1⟩, fun a e2 => ?_⟩
   cases e2
   exact ⟨o, e, ex.2.1⟩
  ·obtain ⟨o, _, _, _, e, ex, _⟩ := I.hok p _ hk
   refine ⟨⟨o, e, ex.1⟩, fun a e2 => ?_⟩
   cases e2
   exact ⟨o, e, ex.2.1⟩
 | _ => exact False.elim ty
def tBM0 (K : PySem.W.Frag) (T : String) (r : V → List V → Hp → VK → Prop) (to : TE) : TE := fun σ H Q => to σ H fun x H1 => tyV K T x H1 ∧ r x [] H1 Q
def tBM (K : PySem.W.Frag) (T : String) (r : V → List V → Hp → VK → Prop) (to : TE) (t : TA) : TE := fun σ H Q => to σ H fun x H1 => tyV K T x H1 ∧ t σ H1 fun xs H2 => r x xs H2 Q
variable {o e : Expr} {es : List Expr} {to : TE} {t : TA} {name : Str} {apos cpos : Pos} {T id : String} {r : V → List V → Hp → VK → Prop}
theorem pe_bm0 (pa : PlainAttrs T) (slot : Slot T name id) (hty : typeOf (.builtin id) = pure (.type "method_descriptor")) (hm : MtR X id r) (ho : PE X o to)
  (hbase : attributeBase o name X.env (eval o X.env) = eval o X.env := by rfl) (hline : (apos.endLine == cpos.line) = true := by rfl) : PE X (.Call (.Attribute o name apos) [] [] cpos) (tBM0 X.K T r to) := by
 intro pins s σ H Q I h
 refine wpAny_Call_method0_late hbase hline (thn (ho pins s σ H _ I h) fun v s1 ⟨x, H1, I1, r1, ty, q1⟩ => ?_)
 obtain ⟨h1, h2⟩ := tyV_is I1 r1 ty
 exact ⟨T, id, pa, slot, hty, h1, h2, Calls.callWith_builtin rfl (PySem.evalArgs_none (hm pins s1 σ H1 x [] v [] Q I1 r1 .nil q1))⟩
theorem pe_bm (pa : PlainAttrs T) (slot : Slot T name id) (hty : typeOf (.builtin id) = pure (.type "method_descriptor")) (hm : MtR X id r) (ho : PE X o to) (ha : PA X (e :: es) t)
  (hbase : attributeBase o name X.env (eval o X.env) = eval o X.env := by rfl)
  (hfew : ((backTo cpos (starEach (e :: es) X.env)).all (fun x => !x.1) && (backToKw cpos (keywordEach [] X.env)).all (fun x => x.1.isSome)
   && decide ((e :: es).length + ([] : List Keyword).length + (if ([] : List Keyword).isEmpty then 0 else 1) < 30)) = true := by rfl)
  (hline : (apos.endLine == cpos.line) = true := by rfl) (hs : starEach (e :: es) X.env = (false, eval e X.env) :: starEach es X.env := by rfl) (hplain : (backTo cpos (starEach es X.env)).any (·.1) = false := by rfl) :
  PE X (.Call (.Attribute o name apos) (e :: es) [] cpos) (tBM X.K T r to t) := by
 intro pins s σ H Q I h
 refine wpAny_Call_method_late hbase hfew hline rfl (thn (ho pins s σ H _ I h) fun v s1 ⟨x, H1, I1, r1, ty, q1⟩ => ?_)
 obtain ⟨h1, h2⟩ := tyV_is I1 r1 ty
 refine ⟨T, id, pa, slot, hty, h1, h2, ?_⟩
 have hA := ha cpos pins s1 σ H1 _ I1 q1
 rw [hs] at hA ⊢
 refine Calls.callWith_builtin (by show (false || (backTo cpos (starEach es X.env)).any (·.1)) = false; rw [hplain] <;> rfl) (Calls.evalArgs_plain ?_)
 exact thn hA fun us s2 ⟨vs, H2, I2, r2, q2⟩ => hm pins s2 σ H2 x vs v us Q I2 r1 r2 q2
end
def MtM (X : Cx) (id : String) (r : V → List V → Hp → VK → Prop) : Prop :=
 ∀ (pins : List (Addr × Obj)) (s : Shared) (σ : St) (H : Hp) (x : V) (xs : List V) (v : Value) (us : List Value) (Q : VK), Inv X pins σ H s → RelV x v → Vals xs us → r x xs H Q →
  wpAny (model X.prog X.w) X.A (call (.builtin id) (v :: us)) (EP X pins σ Q) X.xe s
theorem Vals.one : ∀ {x : V} {us : List Value}, Vals [x] us → ∃ u, us = [u] ∧ RelV x u
 | _, _, .cons r .nil => ⟨_, rfl, r⟩
theorem Vals.zero : ∀ {us : List Value}, Vals [] us → us = []
 | _, .nil => rfl
theorem Vals.dropLast {xs : List V} {us : List Value} (h : Vals xs us) : Vals xs.dropLast us.dropLast := by
 induction h with
 | nil => exact .nil
 | cons r t ih =>
  cases t with
  | nil => exact .nil
  | cons q t' => exact .cons r ih
theorem Vals.eraseIdx : ∀ {xs : List V} {us : List Value} (i : Nat), Vals xs us → Vals (xs.eraseIdx i) (us.eraseIdx i)
 | _, _, _, .nil => .nil
 | _, _, 0, .cons _ t => t
 | _, _, i + 1, .cons r t => .cons r (Vals.eraseIdx i t)
theorem erase_last {α : Type} (l : List α) : l.eraseIdx (l.length - 1) = l.dropLast := by
 induction l with
 | nil => rfl
 | cons a r ih =>
  cases r with
  | nil => rfl
  | cons b r =>
   have e : (a :: b :: r).length - 1 = ((b :: r).length - 1) + 1 := by
    have h1 : (a :: b :: r).length = r.length + 2 := rfl
    have h2 : (b :: r).length = r.length + 1 := rfl
    omega
   rw [e, List.eraseIdx_cons_succ, ih]
   all_goals rfl
section
variable {X : Cx} {pins : List (Addr × Obj)} {σ : St} {H : Hp} {s : Shared} {l b : Addr} {xs ys zs : List V}
theorem Inv.lset {its its' : List Value} {n : Nat} {f : Array Value → Array Value} {t' : Nat} (I : Inv X pins σ H s) (hH : H l = some (.lst xs))
  (e : s.heap.get? l = some { cls := .type "list", data := .seq its.toArray n }) (hf : f its.toArray = its'.toArray) (hv : Vals ys its') (hz : ys.length ≤ sizeLine) :
  Inv X pins σ (upd H l (.lst ys)) { s with heap := s.heap.update l (Obj.mapSeq f), toks := t' } := by
 have q := PySem.IsL.update e f
 rw [hf] at q
 refine I.write (x := l) (e := l) (by rw [hH]; exact trivial) (.inl rfl) (fun b' u hb hu => (Heap.get?_update_other s.heap (Obj.mapSeq f) (Ne.symm hb)).trans hu) ⟨_, q⟩ ?_
 exact ⟨hz, its', _, hv, q⟩
theorem Inv.lnew {its : List Value} {t' : Nat} (I : Inv X pins σ H s) (hv : Vals ys its) (hz : ys.length ≤ sizeLine) :
  Inv X pins σ (upd H s.heap.objs.size (.lst ys)) { s with heap := s.heap.push { cls := .type "list", data := .seq its.toArray }, toks := t' } :=
 I.laid (fun _ _ q => Heap.get?_push_of_some _ q) (Nat.le_refl _) ⟨hz, its, 0, hv, Heap.get?_push_size _ rfl⟩
theorem Inv.fresh (I : Inv X pins σ H s) : H s.heap.objs.size = none := I.hok.fresh (Nat.le_refl _)
theorem Inv.lstM (I : Inv X pins σ H s) (hH : H l = some (.lst xs)) : xs.length ≤ sizeLine ∧ ∃ (its : List Value) (n : Nat), Vals xs its ∧ xs.length = its.length ∧ s.heap.get? l = some { cls := .type "list", data := .seq its.toArray n } := by
 obtain ⟨z, its, n, r, e⟩ := I.hok l _ hH
 exact ⟨z, its, n, r, r.length, e⟩
theorem notLongL {n : Nat} (h : n ≤ sizeLine) : Builtin.List.listTooLong n = false := by
 unfold Builtin.List.listTooLong
 exact decide_eq_false (by omega)
end
section
variable {X : Cx}
def rAppend : V → List V → Hp → VK → Prop := fun x vs H Q => ∃ l xs y, x = .ref l ∧ vs = [y] ∧ H l = some (.lst xs) ∧ xs.length < sizeLine ∧ Q .non (upd H l (.lst (xs ++ [y])))
theorem mt_append : MtM X "list.append" rAppend := by
 intro pins s σ H x vs v us Q I rx rv h
 obtain ⟨l, xs, y, rfl, rfl, hH, hz, q⟩ := h
 cases rx
 obtain ⟨u, rfl, ru⟩ := rv.one
 obtain ⟨z, its, n, r, hl, e⟩ := I.lstM hH
 refine call_meets F.slot_list_append ⟨_, e, rfl⟩ F.entry_list_append (F.args_list_append_2 _ _) (PySem.list_append l its.toArray n u (by rw [List.size_toArray]; omega)) ⟨e, ?_⟩
 refine ⟨.non, _, I.lset (its' := its ++ [u]) hH e (by simp) (r.append (.cons ru .nil)) ?_, rfl, q⟩
 rw [List.length_append, List.length_singleton]
 omega
def rExtend : V → List V → Hp → VK → Prop := fun x vs H Q => ∃ l b xs zs, x = .ref l ∧ vs = [.ref b] ∧ H l = some (.lst xs) ∧ H b = some (.lst zs) ∧ xs.length + zs.length ≤ sizeLine ∧ Q .non (upd H l (.lst (xs ++ zs)))
theorem mt_extend : MtM X "list.extend" rExtend := by
 intro pins s σ H x vs v us Q I rx rv h
 obtain ⟨l, b, xs, zs, rfl, rfl, hH, hB, hz, q⟩ := h
 cases rx
 obtain ⟨u, rfl, ru⟩ := rv.one
 cases ru
 obtain ⟨z, its, n, r, hl, e⟩ := I.lstM hH
 obtain ⟨z2, its2, n2, r2, hl2, e2⟩ := I.lstM hB
 have hsz : its.toArray.size + its2.toArray.size ≤ sizeLine := by rw [List.size_toArray, List.size_toArray]; omega
 have hlong : ¬ (!its.toArray.isEmpty && Builtin.List.listTooLong (its.toArray.size + its2.toArray.size)) = true := by
  rw [notLongL hsz, Bool.and_false]
  exact Bool.false_ne_true
 refine call_meets F.slot_list_extend ⟨_, e, rfl⟩ F.entry_list_extend (F.args_list_extend_2 _ _)
  (AutoSeq1.list_extend_list_list_0 l its.toArray n b its2.toArray n2 hlong (by rw [List.size_toArray]; omega) (by omega)) ⟨e, e2, ?_⟩
 refine ⟨.non, _, I.lset (its' := its ++ its2) hH e (by simp) (r.append r2) ?_, rfl, q⟩
 rw [List.length_append]
 omega
def rPop : V → List V → Hp → VK → Prop := fun x vs H Q => ∃ l xs y, x = .ref l ∧ vs = [] ∧ H l = some (.lst xs) ∧ xs[xs.length - 1]? = some y ∧ Q y (upd H l (.lst xs.dropLast))
theorem mt_pop : MtM X "list.pop" rPop := by
 intro pins s σ H x vs v us Q I rx rv h
 obtain ⟨l, xs, y, rfl, rfl, hH, hy, q⟩ := h
 cases rx
 have hus := rv.zero
 subst hus
 obtain ⟨z, its, n, r, hl, e⟩ := I.lstM hH
 obtain ⟨u, hu, ru⟩ := r.get hy
 have hy' : its.toArray[its.toArray.size - 1]? = some u := by
  show its.toArray[its.length - 1]? = some u
  rw [← Array.getElem?_toList, ← hl]
  exact hu
 refine call_meets F.slot_list_pop ⟨_, e, rfl⟩ F.entry_list_pop (F.args_list_pop_1 _) (MeetsSeq.list_pop_last l its.toArray n u hy' (by rw [List.size_toArray]; omega)) ⟨e, ?_⟩
 refine ⟨y, _, I.lset (its' := its.dropLast) hH e ?_ r.dropLast ?_, ru, q⟩
 ·show its.toArray.eraseIdxIfInBounds (its.toArray.size - 1) = its.dropLast.toArray
  rw [List.size_toArray, List.eraseIdxIfInBounds_toArray, erase_last]
 ·rw [List.length_dropLast]
  omega
def rCat : R2 := fun x y H Q => ∃ l b xs zs, x = .ref l ∧ y = .ref b ∧ H l = some (.lst xs) ∧ H b = some (.lst zs) ∧ xs.length + zs.length ≤ sizeLine ∧ ∀ p, H p = none → Q (.ref p) (upd H p (.lst (xs ++ zs)))
theorem op_cat : OpR X (binaryOp .Add) rCat := by
 intro pins s σ H x y v u Q I rx ry h
 obtain ⟨l, b, xs, zs, rfl, rfl, hH, hB, hz, q⟩ := h
 cases rx
 cases ry
 obtain ⟨z, its, n, r, hl, e⟩ := I.lstM hH
 obtain ⟨z2, its2, n2, r2, hl2, e2⟩ := I.lstM hB
 refine PySem.P.add_list e e2 ?_ (by rw [List.size_toArray, List.size_toArray]; omega)
 have ea : its.toArray ++ its2.toArray = (its ++ its2).toArray := by simp
 rw [ea]
 exact ⟨.ref _, _, I.lnew (t' := s.toks) (r.append r2) (by rw [List.length_append]; omega), rfl, q _ I.fresh⟩
end
section
variable {prog : Program} {w : World} {A : Around} {E : Value → Shared → Prop} {s : Shared}
end
section
variable {X : Cx}
end
end L2
namespace Att
open PySem PySem.W PySem.Calls PyProof.Rows
theorem ints_of_wellAll {P : Params} {h : Heap} : ∀ (ns : List Int) (vs : List Value), WellAll P h vs (ns.map WData.int) → IntsAre vs ns := by
 intro ns
 induction ns with
 | nil =>
  intro vs w
  rw [List.map_nil] at w
  cases w
  exact .nil
 | cons n ns ih =>
  intro vs w
  rw [List.map_cons] at w
  cases w with
  | cons a b =>
   cases a
   exact .cons _ _ (ih _ b)
theorem script_of {l : OpenLaw} {n : Nat} (hn : l.most = some n) {P : Params} {h : Heap} {args : List WData} {vals : List Value}
  (hpre : l.row.toRowW.claim.pre args = true) (hwl : WellAll P h vals args) :
  ∃ a vs ns, vals = [Value.ref a] ∧ args = [WData.list (ns.map WData.int)] ∧ h.get? a = some { cls := .type "list", data := .seq vs.toArray } ∧ IntsAre vs ns ∧ ns.length ≤ n := by
 have hsh : WShape.hasAll [] args [.list .int] = true := (pre_splitW hpre).1
 have hc : l.pre.holds [] { args := args } = true := (pre_splitW hpre).2
 obtain ⟨d, r, rfl, h1, h2⟩ := hasAllW_cons hsh
 obtain rfl := hasAllW_nil h2
 obtain ⟨xs, rfl, h3⟩ := hasW_list h1
 obtain ⟨ns, rfl⟩ := items_int h3
 have hlen : ns.length ≤ n := by
  unfold OpenLaw.pre at hc
  have h4 : (WTm.not (.lt (.lit (.int (n : Int))) (.len (.arg 0)))).holds [] { args := [.list (ns.map .int)] } = true := by
   have h4 := (holds_andW hc).1
   rw [hn] at h4
   exact h4
  have h5 := condW_of h4 (w_not (w_lt w_lit (w_len_list (w_arg rfl))))
  rw [List.length_map] at h5
  refine Nat.le_of_not_lt fun q => ?_
  have q' : (n : Int) < ((ns.length : Nat) : Int) := by omega
  first
   | (rw [decide_eq_true q'] at h5; exact absurd h5 (by decide))
   | (simp at h5; omega)
 cases hwl with
 | cons w1 w2 =>
  cases w2
  cases w1 with
  | list ho hall => exact ⟨_, _, ns, rfl, rfl, ho, ints_of_wellAll ns _ hall, hlen⟩
theorem post_true (l : OpenLaw) (args : List WData) : l.row.toRowW.claim.post args (.bool true) args = true :=
 postW_of (r := l.row.toRowW) (X := (true == true))
  (show WShape.has [] (.bool true) .bool = true by first | rfl | decide | simp [WShape.has, WShape.arms, WShape.armsAll])
  (show (WTm.eq .res (.lit (.bool true))).value [] { args := args, res := some (.bool true), after := args } = some (.bool (true == true)) from w_eq_bool (w_res rfl) w_lit) rfl
theorem attach_call {l : OpenLaw} {n : Nat} {q : Program} {loose : List Str} {XP : (Str → Option Value) → Heap → Prop} {YP : World → Heap → Prop} {d : DefRec}
  (hn : l.most = some n) (hdf : d.params.defaults = [])
  (call : ∀ (w : World) (s₀ s₁ : Shared) (mg mb : Str → Option Value) (fa : Addr) (o : Obj) (pm cd doc : Value) (a : Addr) (vs : List Value) (ns : List Int),
   Ground q loose [] XP w s₀ mg mb s₁.heap → YP w s₁.heap →
   s₁.heap.get? fa = some o → o.data = .func (docDef d.name d.params d.body d.scope pm cd doc) → s₁.heap.CodeRec cd d.name → mg d.name = some (.ref fa) →
   s₁.heap.get? a = some { cls := .type "list", data := .seq vs.toArray } → IntsAre vs ns → ns.length ≤ n → s₁.gens = #[] →
   codeAny (model l.prog w) callerA (.call (.ref fa) ⟨[.ref a], []⟩) (fun r s' => r = .ok (.ret (.bool true)) ∧ OldK s₁.heap s'.heap ∧ s'.os = s₁.os ∧ AllBare s'.gens) s₁) :
  WalkO q loose XP YP l.row.toRowW d [] (fun f vs => PySem.call f vs) := by
 intro w s₀ s₁ mg mb G Y fa o pm cd doc dV kV ho hd hcd hD hmg hg args vals as hpre hlay hrd hwl hlo
 obtain rfl : dV = .none := Dflts.none hD hdf
 obtain rfl : kV = .none := Dflts.noKw hD
 obtain ⟨a, vs, ns, rfl, rfl, hobj, hints, hlen⟩ := script_of hn hpre hwl
 refine enter_call (codeAny_mono (call w s₀ s₁ mg mb fa o pm cd doc a vs ns G Y ho (fd_plain hd) hcd hmg hobj hints hlen hg) fun r s' hq => ?_)
 obtain ⟨rfl, h2, h3, h4⟩ := hq
 exact ⟨.inl ⟨.bool true, .bool true, [], rfl, fun _ => rfl, .bool true, post_true l _, fun _ => ⟨List.Pairwise.nil, fun _ hm => (nomatch hm)⟩⟩, h2, h3, h4⟩
section
variable {prog : Program} {w : World} {A : Around} {E : Value → Shared → Prop} {s : Shared} {K : Frag}
def ledger (h : Heap) (L d : Addr) : List (Addr × Obj) := (List.range h.objs.size).filterMap fun a => if a = L ∨ a = d then none else (h.get? a).map fun o => (a, o)
end
end Att
namespace L2
open PySem PySem.Spec PyProof.Rows
theorem vals_ints : ∀ {vs : List Value} {ns : List Int}, IntsAre vs ns → Vals (ns.map V.int) vs
 | _, _, .nil => .nil
 | _, _, .cons n t h => .cons ⟨t, rfl⟩ (vals_ints h)
def Only (H : Hp) : Prop := ∀ b, H b = none ∨ ∃ o xs, H b = some (.frz o (.lst xs))
theorem law_call {P : Program} {w : World} {K : PySem.W.Frag} {mg mb : Str → Option Value} {CX : CXT} {k : Nat} {fa a : Addr} {fd : FuncData} {x : Str} {sp : Sp} {s₁ : Shared} {vs : List Value} {ns : List Int}
  (KX : K.In s₁.heap) (hns : s₁.heap.Ns mainGlobals mg) (hb : s₁.heap.Ns builtinsNs mb) (hbb : ∀ x : Str, x ≠ "__name__" → mb x = bootBuiltins x) (hlim : s₁.heap.NoLimit) (hg : s₁.gens = #[])
  (ha : s₁.heap.get? a = some { cls := .type "list", data := .seq vs.toArray }) (hi : IntsAre vs ns) (hl : ns.length ≤ sizeLine) (hr : Room k callerA)
  (F : ∀ base : Heap, K.In base → base.Ns mainGlobals mg → FnOk P w K mg base CX k fa fd [x] sp) (hbind : ∀ (s : Shared) (u : Value), BindsTo s fd ⟨[u], []⟩ [(x, u)])
  (hsp : ∀ H : Hp, Only H → SqL K H a (ns.map V.int) → sp [.ref a] H (fun v _ => v = .bl true) fun _ _ _ => False)
  (hCX : ∀ H e s', CX [] H s₁ (fun _ _ _ => False) e s' → False) :
  codeAny (model P w) callerA (.call (.ref fa) ⟨[.ref a], []⟩) (fun r s' => r = .ok (.ret (.bool true)) ∧ OldK s₁.heap s'.heap ∧ s'.os = s₁.os ∧ AllBare s'.gens) s₁ := by
 have rv := vals_ints hi
 have lenV := hi.length
 -- from an abstract heap in which nothing but the script may be tracked
 have core : ∀ H : Hp, Only H → SqL K H a (ns.map V.int) → HOk P w H s₁.heap → (∀ b, H b ≠ none → b = a) → (H a ≠ none → K.lookup a = none) →
   codeAny (model P w) callerA (.call (.ref fa) ⟨[.ref a], []⟩) (fun r s' => r = .ok (.ret (.bool true)) ∧ OldK s₁.heap s'.heap ∧ s'.os = s₁.os ∧ AllBare s'.gens) s₁ := by
  intro H hO hS hok hA hK
  have base_of : ∀ {b : Addr} {o : Obj}, s₁.heap.get? b = some o → H b = none → (hidT s₁.heap H).get? b = some o := fun e n => hidT_get e n
  have noA : ∀ {b : Addr} {o : Obj} {es : Array DictEntry} {ep : Nat}, s₁.heap.get? b = some o → o.data = .dict es ep → H b = none := fun {b o es ep} e d => by
   cases q : H b with
   | none => rfl
   | some u =>
    have e' : b = a := hA b (by rw [q]; simp)
    subst e'
    rw [ha] at e; cases e
    have d' : Data.seq vs.toArray _ = Data.dict es ep := d
    cases d'
  have nsK : ∀ {b : Addr} {m : Str → Option Value}, s₁.heap.Ns b m → (hidT s₁.heap H).Ns b m := fun {b m} ⟨o, es, ep, e, d, r⟩ => ⟨o, es, ep, base_of e (noA e d), d, r⟩
  have hKb : K.In (hidT s₁.heap H) := fun b o e => base_of (KX b o e) (by
   cases q : H b with
   | none => rfl
   | some u =>
    have e' : b = a := hA b (by rw [q]; simp)
    subst e'
    rw [hK (by rw [q]; simp)] at e; cases e)
  have hM : Mod K mg (hidT s₁.heap H) := ⟨hKb, nsK hns, ⟨mb, nsK hb, hbb⟩, let ⟨mc, h1, h2⟩ := hlim; ⟨mc, nsK h1, h2⟩⟩
  have e0 : Env0 P w K mg (hidT s₁.heap H) callerA [] s₁ H := ⟨rfl, hM, fun b o e => of_hidT e, Nat.le_of_eq (hidT_size _ _), trivial, fun b hb => absurd (show b ∈ ([] : List Addr) from hb) (by simp), hok, .of_eq hg⟩
  refine codeAny_mono ((F _ hKb (nsK hns)).run callerA [] s₁ H ⟨[.ref a], []⟩ [.ref a] [.ref a] _ _ hr e0 (hbind s₁ (.ref a)) (.cons rfl .nil) (hsp H hO hS)) fun r s' h => ?_
  cases r with
  | error e => exact (hCX H e s' h).elim
  | ok fl =>
   cases fl with
   | next => exact False.elim h
   | brk => exact False.elim h
   | cont => exact False.elim h
   | ret u =>
    obtain ⟨v, H', os, bare, un, hok', r', q⟩ := h
    have q' : v = .bl true := q
    subst q'
    obtain rfl : u = Value.bool true := r'
    refine ⟨rfl, OldK.of_keep fun b o e => ?_, os, bare⟩
    cases q : H b with
    | none => exact un.keep b o e q (by intro z; exact absurd (show b ∈ ([] : List Addr) from z) (by simp)) (by simp)
    | some u =>
     rcases hO b with z | ⟨ob, xs, z⟩
     ·rw [q] at z; cases z
     ·have z2 := un.frzs b ob _ z
      obtain ⟨e1, _⟩ := hok b _ z
      obtain ⟨e2, _⟩ := hok' b _ z2
      rw [e] at e1; cases e1
      exact e2
 cases hk : K.lookup a with
 | some o =>
  -- the script is one of the module's own objects
  have e := KX a o hk
  rw [ha] at e
  cases e
  refine core (fun _ => none) (fun _ => .inl rfl) (.inr ⟨_, vs.toArray, _, hk, rfl, rfl, rfl, by rw [List.size_toArray, lenV]; exact hl, by simpa using rv⟩) (fun b u z => by have z' : (none : Option HO) = some u := z; cases z') (fun b z => absurd rfl z) fun z => absurd rfl z
 | none =>
  refine core (fun b => if b = a then some (.frz { cls := .type "list", data := .seq vs.toArray } (.lst (ns.map V.int))) else none) (fun b => ?_) (.inl (.inr ⟨{ cls := .type "list", data := .seq vs.toArray }, if_pos rfl⟩)) (fun b u z => ?_) (fun b z => ?_) fun _ => hk
  ·by_cases hb : b = a
   ·exact .inr ⟨_, _, if_pos hb⟩
   ·exact .inl (if_neg hb)
  ·by_cases hb : b = a
   ·have z' := (if_pos hb).symm.trans z
    cases z'
    subst hb
    exact ⟨ha, by rw [List.length_map]; exact hl, vs, _, rv, ha⟩
   ·have z' := (if_neg hb).symm.trans z
    cases z'
  ·by_cases hb : b = a
   ·exact hb
   ·exact absurd (if_neg hb) z
theorem walk_of {l : PySem.W.OpenLaw} {n k : Nat} {q : Program} {loose : List Str} {XP : (Str → Option Value) → Heap → Prop} {YP : World → Heap → Prop} {d : DefRec} {K : Params → PySem.W.Frag} {CX : World → CXT} {sp : World → Sp} {x : Str}
  (hn : l.most = some n) (hn2 : n ≤ sizeLine) (hdf : d.params.defaults = []) (hr : Room k callerA)
  (hY : ∀ (w : World) (h : Heap), YP w h → (K w.params).In h)
  (F : ∀ (w : World) (mg : Str → Option Value) (fa : Addr) (h : Heap), (K w.params).In h → h.Ns mainGlobals mg → mg d.name = some (.ref fa) →
   ∃ fd : FuncData, (∀ (s : Shared) (u : Value), BindsTo s fd ⟨[u], []⟩ [(x, u)]) ∧
    ∀ base : Heap, (K w.params).In base → base.Ns mainGlobals mg → FnOk l.prog w (K w.params) mg base (CX w) k fa fd [x] (sp w))
  (hsp : ∀ (w : World) (H : Hp) (a : Addr) (ns : List Int), ns.length ≤ n → Only H → SqL (K w.params) H a (ns.map V.int) → sp w [.ref a] H (fun v _ => v = .bl true) fun _ _ _ => False)
  (hCX : ∀ (w : World) (H : Hp) (s : Shared) (e : Value) (s' : Shared), CX w [] H s (fun _ _ _ => False) e s' → False) :
  PySem.W.WalkO q loose XP YP l.row.toRowW d [] (fun f vs => PySem.call f vs) := by
 refine Att.attach_call hn hdf fun w s₀ s₁ mg mb fa o pm cd doc a vs ns G Y ho hd hcd hmg hobj hints hlen hg => ?_
 have KX := hY w _ Y
 obtain ⟨fd, hb, hF⟩ := F w mg fa _ KX G.T.g hmg
 exact law_call KX G.T.g G.T.b G.T.builtins G.T.nolimit hg hobj hints (Nat.le_trans hlen hn2) hr hF hb (fun H hO hS => hsp w H a ns hlen hO hS) fun H e s' => hCX w H s₁ e s'
def defArgs (s : Stmt) : Arguments := match s with
 | .FunctionDef _ a _ _ _ _ _ _ _ _ => a
 | _ => { posonlyargs := [], args := [], vararg := none, kwonlyargs := [], kw_defaults := [], kwarg := none, defaults := [] }
def defBody (s : Stmt) : List Stmt := match s with
 | .FunctionDef _ _ b _ _ _ _ _ _ _ => b
 | _ => []
def defScope (s : Stmt) : Scope := match s with
 | .FunctionDef _ _ _ _ _ _ sc _ _ _ => sc
 | _ => { kind := .function, names := [], isGenerator := false, isCoroutine := false }
abbrev CX0 : CXT := fun _ _ _ _ _ _ => False
abbrev E0 : XK := fun _ _ _ => False
theorem pass0 {X : Cx} : Passes CX0 X E0 := fun _ _ _ _ _ _ _ h => h.elim
structure Fun (K : PySem.W.Frag) (x qual : Str) (st : Stmt) (f : Addr) (fd : FuncData) : Prop where
 ex : ∃ (oc : Value) (od : Option Addr) (kV doc pm : Value) (an : Option Addr) (cdv ct : Value) (osl : Array (Option Value)),
  fd = PySem.W.fnOf x qual (defArgs st) (defBody st) (defScope st) .none kV doc pm an cdv ct ∧ K.lookup f = some ⟨oc, od, .func fd, osl⟩ ∧ PySem.W.codeIn K cdv qual = true
 kp : PySem.W.keepIn K (.ref f) = true
section
variable {P : Program} {w : World} {K : PySem.W.Frag} {mg : Str → Option Value} {base : Heap}
theorem Fun.ok {x qual : Str} {st : Stmt} {f : Addr} {fd : FuncData} {N ps : List Str} {k : Nat} {sp : Sp} (F : Fun K x qual st f fd) (S : FnScope N ps (defScope st)) (len : ∀ vs H Q E, sp vs H Q E → vs.length = ps.length)
  (hbody : ∀ (cdv : Value) (A : Around) (outer : List Env) (s : Shared) (H : Hp) (vs : List V) (Q : VK) (E : XK), Room k (A.deeper (envOfC qual (defScope st) s.heap.objs.size f cdv)) → sp vs H Q E →
   ∃ t, PSs (cxOf CX0 P w K mg base N qual (defScope st) f cdv A outer s H E).nox (defBody st) t ∧ t { nx := fun _ H' => Q .non H', rt := Q } (start N vs) H) : FnOk P w K mg base CX0 (k + 1) f fd ps sp := by
 obtain ⟨oc, od, kV, doc, pm, an, cdv, ct, osl, rfl, lk, hcd⟩ := F.ex
 refine fn_of lk hcd S len fun A outer s H vs Q E hr hsp => ?_
 obtain ⟨t, h, q⟩ := hbody cdv A outer s H vs Q E hr hsp
 exact ⟨t, h.nox, q⟩
theorem Fun.binds {x qual : Str} {st : Stmt} {f : Addr} {fd : FuncData} {ps : List Str} (F : Fun K x qual st f fd)
  (h : ∀ (kV doc pm : Value) (an : Option Addr) (cdv ct : Value) (us : List Value), us.length = ps.length → bindArgs (PySem.W.fnOf x qual (defArgs st) (defBody st) (defScope st) .none kV doc pm an cdv ct) ⟨us, []⟩ = pure (ps.zip us)) : Binds K fd ps [] := by
 obtain ⟨oc, od, kV, doc, pm, an, cdv, ct, osl, rfl, lk, hcd⟩ := F.ex
 exact .all (h kV doc pm an cdv ct)
theorem fun_mk {x qual : Str} {st : Stmt} {f : Addr} {oc : Value} {od an : Option Addr} {osl : Array (Option Value)} {kV doc pm cdv ct : Value} (l : K.lookup f = some ⟨oc, od, .func (PySem.W.fnOf x qual (defArgs st) (defBody st) (defScope st) .none kV doc pm an cdv ct), osl⟩)
  (c : PySem.W.codeIn K cdv qual = true) (k : PySem.W.keepIn K (.ref f) = true) : Fun K x qual st f (PySem.W.fnOf x qual (defArgs st) (defBody st) (defScope st) .none kV doc pm an cdv ct) := ⟨⟨oc, od, kV, doc, pm, an, cdv, ct, osl, rfl, l, c⟩, k⟩
end
theorem hu_of {A : Around} {k : Nat} (hr : Room k A) : A.units + 1 < cLine := Nat.lt_of_le_of_lt (Nat.add_le_add_left (by decide : 1 ≤ 64) _) hr.units
theorem small1000 {n : Nat} (h : n ≤ 1000) : n < sizeLine := Nat.lt_of_le_of_lt h (by decide)
section
variable {X : Cx}
theorem pv (i : Nat) {x : Str} {pos : Pos} (hN : X.N[i]? = some x := by rfl) (hv : Vis X.env.scope x := by first | exact Or.inl rfl | exact Or.inr (Or.inl rfl) | exact Or.inr (Or.inr rfl)) (hd : (x == ("__debug__" : Str)) = false := by decide)
  (hcd : (x == ("__classdict__" : Str)) = false := by decide) : PE X (.Name x pos) (tVar i) := pe_var hN hv hd hcd
end
theorem iteF {A B : Prop} (h : B) : if false = true then A else B := by
 rw [if_neg Bool.false_ne_true]
 exact h
theorem iteT {A B : Prop} (h : A) : if true = true then A else B := by
 rw [if_pos rfl]
 exact h
theorem ite2 {c A B : Prop} [Decidable c] (h1 : c → A) (h2 : ¬ c → B) : if c then A else B := by
 by_cases h : c
 ·rw [if_pos h]
  exact h1 h
 ·rw [if_neg h]
  exact h2 h
theorem iteNS {c A B : Prop} [Decidable c] (hc : c) (h : B) : if (!decide c) = true then A else B := by
 rw [decide_eq_true hc]
 exact iteF h
def Same (H H' : Hp) : Prop := ∀ b o, H b = some o → H' b = some o
theorem Same.refl (H : Hp) : Same H H := fun _ _ h => h
theorem Same.trans {H H1 H2 : Hp} (a : Same H H1) (b : Same H1 H2) : Same H H2 := fun c o h => b c o (a c o h)
theorem Same.free {H H' : Hp} (e : Same H H') {l : Addr} (h : H' l = Option.none) : H l = Option.none := by
 cases q : H l with
 | none => rfl
 | some o =>
  rw [e l o q] at h
  cases h
theorem Same.seq {K : PySem.W.Frag} {H H' : Hp} {a : Addr} {xs : List V} (e : Same H H') (h : SqL K H a xs) : SqL K H' a xs := by
 rcases h with (h | ⟨o, h⟩) | h
 ·exact .inl (.inl (e _ _ h))
 ·exact .inl (.inr ⟨o, e _ _ h⟩)
 ·exact .inr h
section
variable {κ : Type} [DecidableEq κ]
theorem nd_snoc : ∀ {l : List κ} {k : κ}, l.Nodup → ¬ k ∈ l → (l ++ [k]).Nodup
 | [], k, _, _ => by simp
 | a :: r, k, h, hk => by
  obtain ⟨h1, h2⟩ := List.nodup_cons.mp h
  show (a :: (r ++ [k])).Nodup
  refine List.nodup_cons.mpr ⟨fun m => ?_, nd_snoc h2 fun m => hk (List.mem_cons.mpr (Or.inr m))⟩
  rcases List.mem_append.mp m with q | q
  ·exact h1 q
  ·exact hk (List.mem_cons.mpr (Or.inl (List.mem_singleton.mp q).symm))
end
def closL (env : Env) : List (Str × NameKind) → List (Str × Addr) → List (Str × Addr)
 | [], cs => cs
 | y :: r, cs => closL env r (if y.2 == NameKind.free then (y.1, (env.cells.lookup y.1).getD 0) :: cs else cs)
theorem forIn_closL {env : Env} (f : Str × NameKind → List (Str × Addr) → Sem (ForInStep (List (Str × Addr)))) :
  ∀ (ns : List (Str × NameKind)) (cs : List (Str × Addr)), (∀ y ∈ ns, ∀ c, f y c = pure (.yield (if y.2 == NameKind.free then (y.1, (env.cells.lookup y.1).getD 0) :: c else c))) →
   forIn ns cs f = pure (closL env ns cs)
 | [], cs, _ => rfl
 | y :: r, cs, h => by
  rw [List.forIn_cons, h y List.mem_cons_self, pure_bind]
  exact forIn_closL f r _ fun z hz => h z (List.mem_cons_of_mem _ hz)
theorem closureFor_of {env : Env} {scope : Scope} (h : ∀ y ∈ scope.names, y.2 = .free → ∃ c, env.cells.lookup y.1 = some c) :
  closureFor scope env = pure (closL env scope.names []) := by
 simp only [closureFor]
 rw [forIn_closL (env := env) _ _ _ (fun y hy c => ?_)]
 ·rfl
 ·obtain ⟨n, k⟩ := y
  cases hk : (k == NameKind.free) with
  | true =>
   obtain ⟨a, ha⟩ := h (n, k) hy (by simpa using hk)
   have ha' : env.cells.lookup n = some a := ha
   simp only [if_true, cellOf, ha', Option.getD_some, pure_bind]
  | false => simp only [Bool.false_eq_true, if_false]
theorem closL_sub {env : Env} : ∀ (ns : List (Str × NameKind)) (cs : List (Str × Addr)), (∀ y ∈ ns, y.2 = .free → ∃ c, env.cells.lookup y.1 = some c) →
  (∀ n c, cs.lookup n = some c → env.cells.lookup n = some c) → ∀ n c, (closL env ns cs).lookup n = some c → env.cells.lookup n = some c
 | [], cs, _, h, n, c, e => h n c e
 | y :: r, cs, hf, h, n, c, e => by
  refine closL_sub r _ (fun z hz => hf z (List.mem_cons_of_mem _ hz)) (fun n c e => ?_) n c e
  split at e
  ·rename_i hk
   obtain ⟨a, ha⟩ := hf y List.mem_cons_self (by simpa using hk)
   rw [ha, Option.getD_some] at e
   cases hn : n == y.1 with
   | true =>
    simp only [List.lookup_cons, hn] at e
    cases e
    rw [eq_of_beq hn]
    exact ha
   | false =>
    simp only [List.lookup_cons, hn] at e
    exact h n c e
  ·exact h n c e
theorem closL_has {env : Env} : ∀ (ns : List (Str × NameKind)) (cs : List (Str × Addr)) (n : Str), ((n, NameKind.free) ∈ ns ∨ (cs.lookup n).isSome = true) →
  ((closL env ns cs).lookup n).isSome = true
 | [], cs, n, h => by
  rcases h with h | h
  ·cases h
  ·exact h
 | y :: r, cs, n, h => by
  refine closL_has r _ n ?_
  rcases h with h | h
  ·rcases List.mem_cons.mp h with h | h
   ·right
    subst h
    simp
   ·exact .inl h
  ·right
   split
   ·cases hn : n == y.1 with
    | true => simp only [List.lookup_cons, hn]; rfl
    | false => simp only [List.lookup_cons, hn]; exact h
   ·exact h
def rlab (env : Env) (n : Str) (k : NameKind) : NameKind := if (k == NameKind.free && env.scope.kind == .function && env.kindOf n == some .cell) = true then .cell else k
theorem relab_look (env : Env) (x : Str) : ∀ names : List (Str × NameKind),
  (names.map fun (n, k) => if (k == NameKind.free && env.scope.kind == .function && env.kindOf n == some .cell) then (n, NameKind.cell) else (n, k)).lookup x = (names.lookup x).map (rlab env x)
 | [] => rfl
 | (n, k) :: r => by
  have ih := relab_look env x r
  have e1 : (if (k == NameKind.free && env.scope.kind == .function && env.kindOf n == some .cell) = true then (n, NameKind.cell) else (n, k)) = (n, rlab env n k) := by
   unfold rlab
   split <;> rfl
  rw [List.map_cons]
  show List.lookup x ((if (k == NameKind.free && env.scope.kind == .function && env.kindOf n == some .cell) = true then (n, NameKind.cell) else (n, k)) :: _) = _
  rw [e1]
  cases hx : x == n with
  | true =>
   simp only [List.lookup_cons, hx]
   rw [eq_of_beq hx]
   rfl
  | false =>
   simp only [List.lookup_cons, hx]
   exact ih
theorem relabel_look (scope : Scope) (env : Env) (x : Str) : (relabel scope env).names.lookup x = (scope.names.lookup x).map (rlab env x) := relab_look env x scope.names
def lcN (N xs : List Str) (mp : List Nat) : List Str := xs ++ mp.map fun j => N.getD j ""
def lcS (k : Nat) (mp : List Nat) (σ : St) : St := List.replicate k none ++ mp.map fun j => (σ[j]?).getD none
structure LcOk (sc scope : Scope) (N xs : List Str) (mp : List Nat) : Prop where
 kind : scope.kind = .function
 nocell : ∀ y ∈ scope.names, y.2 ≠ .cell
 names : ∀ y ∈ scope.names, y.2 = .local → scope.names.lookup y.1 = some .local
 tg : ∀ x ∈ xs, scope.names.lookup x = some .local
 fr : ∀ y ∈ scope.names, y.2 = .free → sc.names.lookup y.1 = some .cell ∨ sc.names.lookup y.1 = some .free
 out : ∀ j ∈ mp, scope.names.lookup (N.getD j "") = some .free
 nd : (lcN N xs mp).Nodup
def lcChk (sc scope : Scope) (N xs : List Str) (mp : List Nat) : Bool :=
 decide (scope.kind = .function) && scope.names.all (fun y => decide (y.2 ≠ .cell)) && scope.names.all (fun y => decide (y.2 = .local → scope.names.lookup y.1 = some .local)) &&
  xs.all (fun x => decide (scope.names.lookup x = some .local)) && scope.names.all (fun y => decide (y.2 = .free → sc.names.lookup y.1 = some .cell ∨ sc.names.lookup y.1 = some .free)) &&
  mp.all (fun j => decide (scope.names.lookup (N.getD j "") = some .free)) && decide (lcN N xs mp).Nodup
theorem lcChk_ok {sc scope : Scope} {N xs : List Str} {mp : List Nat} (h : lcChk sc scope N xs mp = true) : LcOk sc scope N xs mp := by
 simp only [lcChk, Bool.and_eq_true, List.all_eq_true, decide_eq_true_eq] at h
 obtain ⟨⟨⟨⟨⟨⟨h1, h2⟩, h3⟩, h4⟩, h5⟩, h6⟩, h7⟩ := h
 exact ⟨h1, h2, h3, h4, h5, h6, h7⟩
abbrev lcx (X : Cx) (M : List Str) (scope : Scope) (cl : List (Str × Addr)) (C : Addr) (s₀ : Shared) (H₀ : Hp) (fp : List Addr) : Cx where
 prog := X.prog
 w := X.w
 K := X.K
 mg := X.mg
 base := X.base
 A := X.A
 N := M
 s₀ := s₀
 H₀ := H₀
 env := compEnvC scope cl C X.env
 outer := X.stack
 stack := X.stack
 ex := fp
 fn := fun _ => false
 calm := X.calm
 pn := []
 xe := fun _ _ => False
section
variable {X : Cx} {pins : List (Addr × Obj)} {σ : St} {H₀ : Hp} {s₀ : Shared} {scope sc : Scope} {N xs : List Str} {mp : List Nat} {fp : List Addr}
theorem lc_cells (I : Inv X pins σ H₀ s₀) (hsc : X.env.scope = sc) (S : LcOk sc scope N xs mp) : ∀ y ∈ scope.names, y.2 = .free → ∃ c, X.env.cells.lookup y.1 = some c := fun y hy e => by
 refine I.ok.has y.1 ?_
 have q := S.fr y hy e
 rw [← hsc] at q
 exact q
theorem lc_sub (I : Inv X pins σ H₀ s₀) (hsc : X.env.scope = sc) (S : LcOk sc scope N xs mp) {n : Str} {c : Addr} (e : (closL X.env scope.names []).lookup n = some c) : X.env.cells.lookup n = some c :=
 closL_sub scope.names [] (lc_cells I hsc S) (fun _ _ z => nomatch z) n c e
theorem lc_inv {h₁ : Heap} {o : Obj} {m : Str → Option Value} {tk : Nat} (I : Inv X pins σ H₀ s₀) (hsc : X.env.scope = sc) (S : LcOk sc scope N xs mp) (hf : ∀ b ∈ fp, FpOk X pins H₀ b)
  (hx : ∀ b ∈ fp, ∃ ob, s₀.heap.get? b = some ob) (hns : h₁.Ns s₀.heap.objs.size m) (hsb : Heap.SameBut s₀.heap.objs.size (s₀.heap.push o) h₁) :
  Inv (lcx X (lcN N xs mp) scope (closL X.env scope.names []) s₀.heap.objs.size s₀ H₀ fp) [] (List.replicate (xs.length + mp.length) none) H₀ { s₀ with heap := h₁, toks := tk } := by
 have kp : ∀ b u, s₀.heap.get? b = some u → h₁.get? b = some u := fun b u e => hsb.extBut b u (Nat.ne_of_lt (Heap.lt_size e)) (Heap.get?_push_of_some _ e)
 have sub := @lc_sub X pins σ H₀ s₀ scope sc N xs mp I hsc S
 refine ⟨⟨I.ok.mod, S.kind, I.ok.glob, I.ok.blt, Nat.le_refl _, fun x y c e1 e2 => I.ok.inj x y c (sub e1) (sub e2), fun x hk => ?_, fun x c h _ => (Bool.false_ne_true h).elim, I.ok.hd, I.ok.frames, .inl rfl,
  fun b hb => ⟨?_, fun x c e => (hf b hb).2.2.2.2.1 x c (sub e)⟩, fun b o e => I.bs b o e, Nat.le_trans I.ok.bsz I.sz, fun b o e hb => ?_, fun b hb z => ?_, I.stack, I.stkFree⟩,
  rfl, I.bare, Un.kept kp, ⟨m, hns, fun i x v _ e2 _ => ?_⟩, fun x c e => ?_, I.hok.fresh (Nat.le_refl _), fun x c e => I.freeC x c (sub e), fun p hp => absurd (show p ∈ ([] : List (Addr × Obj)) from hp) (by simp), I.hok.kept kp, ?_⟩
 ·have hk' : (relabel scope X.env).names.lookup x = some .cell ∨ (relabel scope X.env).names.lookup x = some .free := hk
  rw [relabel_look] at hk'
  cases e : scope.names.lookup x with
  | none => rw [e] at hk'; rcases hk' with z | z <;> cases z
  | some k =>
   have mem : (x, k) ∈ scope.names := PySem.mem_of_lookup e
   have hkf : k = .free := by
    rw [e] at hk'
    have n1 := S.nocell _ mem
    simp only [Option.map_some, Option.some.injEq] at hk'
    unfold rlab at hk'
    split at hk'
    ·rename_i hc
     simp only [Bool.and_eq_true] at hc
     simpa using hc.1.1
    ·rcases hk' with z | z
     ·exact absurd z n1
     ·exact z
   subst hkf
   exact Option.isSome_iff_exists.mp (closL_has scope.names [] x (.inl mem))
 ·obtain ⟨ob, e⟩ := hx b hb
  exact Nat.ne_of_lt (Heap.lt_size e)
 ·rcases (hf b hb).2.2.2.1 with z | z
  ·exact I.ok.noex b o e z
  ·exact absurd (Nat.lt_of_lt_of_le (Heap.lt_size (I.ok.bs b o e).1) z) (Nat.lt_irrefl _)
 ·rcases List.mem_cons.mp (I.stkSub b z) with e | e
  ·exact (hf b hb).2.1 e
  ·exact (hf b hb).2.2.1 e
 ·rw [List.getElem?_replicate] at e2
  split at e2 <;> cases e2
 ·obtain ⟨v, ob, ho, hd⟩ := I.cell x c (sub e)
  exact ⟨v, ob, kp c ob ho, hd⟩
 ·show (List.replicate (xs.length + mp.length) none : St).length = (lcN N xs mp).length
  simp [lcN]
theorem lc_reset {pY : List (Addr × Obj)} {σ' : St} {H : Hp} {s' : Shared} {C : Addr} (I : Inv X pins σ H₀ s₀) (hsc : X.env.scope = sc) (hN : X.N = N) (S : LcOk sc scope N xs mp) (hf : ∀ b ∈ fp, FpOk X pins H₀ b)
  (J : Inv (lcx X (lcN N xs mp) scope (closL X.env scope.names []) C s₀ H₀ fp) pY σ' H s') : Inv (lcx X (lcN N xs mp) scope (closL X.env scope.names []) C s₀ H₀ fp) pY (lcS xs.length mp σ) H s' := by
 obtain ⟨m, hn, _⟩ := J.loc
 refine ⟨J.ok, J.os, J.bare, J.base, ⟨m, hn, fun i x v e1 e2 e3 => ?_⟩, J.cell, J.free, J.freeC, J.pin, J.hok, ?_⟩
 ·have e1' : (lcN N xs mp)[i]? = some x := e1
  unfold lcN at e1'
  unfold lcS at e2
  by_cases hi : i < xs.length
  ·rw [List.getElem?_append_left (by simpa using hi), List.getElem?_replicate, if_pos hi] at e2
   cases e2
  ·rw [List.getElem?_append_right (by simpa using hi), List.length_replicate, List.getElem?_map] at e2
   rw [List.getElem?_append_right (by simpa using hi), List.getElem?_map] at e1'
   cases ej : mp[i - xs.length]? with
   | none => rw [ej] at e2; cases e2
   | some j =>
    rw [ej] at e1' e2
    have e1'' : N.getD j "" = x := Option.some.inj e1'
    have e2' : (σ[j]?).getD none = some v := Option.some.inj e2
    have e2'' : σ[j]? = some (some v) := by
     cases q : σ[j]? with
     | none => rw [q] at e2'; cases e2'
     | some z => rw [q] at e2'; exact congrArg some e2'
    have hj : j < N.length := by
     have h1 := (List.getElem?_eq_some_iff.mp e2'').1
     rw [I.len, hN] at h1
     exact h1
    have eN : N[j]? = some x := by
     rw [← e1'', List.getD_eq_getElem?_getD]
     cases q : N[j]? with
     | none => exact absurd (List.getElem?_eq_none_iff.mp q) (by omega)
     | some z => rfl
    have fr : scope.names.lookup x = some .free := by rw [← e1'']; exact S.out j (List.mem_of_getElem? ej)
    have mem : (x, NameKind.free) ∈ scope.names := PySem.mem_of_lookup fr
    have kX : X.env.scope.names.lookup x = some .cell ∨ X.env.scope.names.lookup x = some .free := by
     rw [hsc]
     exact S.fr _ mem rfl
    obtain ⟨mX, hnX, hl⟩ := I.loc
    obtain ⟨u, r, lk⟩ := hl j x v (by rw [hN]; exact eN) e2'' (.inr kX)
    rcases lk with ⟨k, _⟩ | ⟨k, c, hc, hcell⟩
    ·have k' : X.env.scope.names.lookup x = some .local := k
     rw [k'] at kX
     rcases kX with z | z <;> cases z
    ·refine ⟨u, r, .inr ⟨?_, c, ?_, ?_⟩⟩
     ·show (relabel scope X.env).names.lookup x = some .cell ∨ (relabel scope X.env).names.lookup x = some .free
      rw [relabel_look, fr]
      simp only [Option.map_some]
      unfold rlab
      split
      ·exact .inl rfl
      ·exact .inr rfl
     ·obtain ⟨c', e'⟩ := Option.isSome_iff_exists.mp (closL_has (env := X.env) scope.names [] x (.inl mem))
      have e'' := lc_sub I hsc S e'
      rw [hc] at e''
      cases e''
      exact e'
     ·obtain ⟨ob, ho, hd⟩ := hcell
      obtain ⟨sl, q⟩ := J.base.any ho (I.freeC x c hc) fun z => (hf c z).2.2.2.2.1 x c hc rfl
      exact ⟨_, q, hd⟩
 ·show (lcS xs.length mp σ).length = (lcN N xs mp).length
  simp [lcS, lcN]
theorem lc_back {pY : List (Addr × Obj)} {σ' : St} {H : Hp} {s' : Shared} {C : Addr} {M : List Str} {cl : List (Str × Addr)} (I : Inv X pins σ H₀ s₀) (hf : ∀ b ∈ fp, FpOk X pins H₀ b)
  (J : Inv (lcx X M scope cl C s₀ H₀ fp) pY σ' H s') : Inv X pins σ H s' :=
 I.call' (ch := fp) J.os J.base J.hok J.bare fun b hb => ⟨(hf b hb).2.2.2.1, (hf b hb).2.1, (hf b hb).2.2.2.2.1, (hf b hb).2.2.2.2.2⟩
end
theorem compLoop_of {prog : Program} {w : World} {A : Around} {R : Result → Shared → Prop} {s : Shared} {elt target iter : Expr} {ifs : List Expr} {scope : Scope} {pos : Pos} {it acc : Value} {env : Env} (I : Nat → Shared → Prop)
  (turn : ∀ n s, I n s → wpAny (model prog w) A (pyNext it) (fun r s1 => match r with
   | none => R (.ok .next) s1
   | some v => wpAny (model prog w) A (letOwnedTupleGo target it v) (fun _ s1' => wpAny (model prog w) A (assign target env v) (fun _ s2 =>
     wpAny (model prog w) A (forIn ifs true fun c r => if r = true then do let ok ← isTrue c env (eval c env); pure (ForInStep.yield ok) else pure (ForInStep.yield r)) (fun ok s3 =>
      if ok = true then wpAny (model prog w) A (eval elt env) (fun x s4 => wpAny (model prog w) A (call (.builtin "list.append") [acc, x]) (fun _ s5 => ∃ m, m < n ∧ I m s5) (fun _ _ => False) s4) (fun _ _ => False) s3
      else ∃ m, m < n ∧ I m s3) (fun _ _ => False) s2) (fun _ _ => False) s1') (fun _ _ => False) s1) (fun _ _ => False) s)
  (n : Nat) (h : I n s) : codeAny (model prog w) A (.compLoop (.ListComp elt [⟨target, iter, ifs, 0⟩] scope pos) 0 it acc env) R s := by
 refine codeAny_loop rfl I (fun n s hI => ?_) n h
 show wpAny (model prog w) A ((compTurn (.ListComp elt [⟨target, iter, ifs, 0⟩] scope pos) 0 it acc env).onRaise (fun x => do noteFrame x env; theTreesLotGoes x)) _ _ s
 refine wpAny_noted ?_
 rw [compTurn_list]
 refine wpAny_bind (wpAny_standAt (wpAny_bind (wpAny_mono (turn n s hI) (fun r s1 h1 => ?_) fun _ _ z => z.elim)))
 cases r with
 | none => exact wpAny_pure h1
 | some v =>
  refine wpAny_bind (wpAny_mono h1 (fun _ s1' h1' => ?_) fun _ _ z => z.elim)
  refine wpAny_bind (wpAny_mono h1' (fun _ s2 h2 => wpAny_bind (wpAny_mono h2 (fun ok s3 h3 => ?_) fun _ _ z => z.elim)) fun _ _ z => z.elim)
  cases ok with
  | false => exact wpAny_pure ⟨rfl, h3⟩
  | true => exact wpAny_bind (wpAny_bind (wpAny_mono h3 (fun x s4 h4 => wpAny_bind (wpAny_mono h4 (fun _ s5 h5 => wpAny_pure (wpAny_pure ⟨rfl, h5⟩)) fun _ _ z => z.elim)) fun _ _ z => z.elim))
def PCs (X : Cx) (ifs : List Expr) (t : TT) : Prop :=
 ∀ (pins : List (Addr × Obj)) (s : Shared) (σ : St) (H : Hp) (Q : Bool → Hp → Prop), Inv X pins σ H s → t σ H Q →
  wpAny (model X.prog X.w) X.A (forIn ifs true fun c r => if r = true then do let ok ← isTrue c X.env (eval c X.env); pure (ForInStep.yield ok) else pure (ForInStep.yield r)) (TP X pins σ Q) X.xe s
def tYes : TT := fun _ H Q => Q true H
theorem pcs_nil {X : Cx} : PCs X [] tYes := fun _ _ _ H _ I h => wpAny_tests_nil ⟨H, I, h⟩
theorem pcs_one {X : Cx} {c : Expr} {t : TT} (h : PT X c t) : PCs X [c] t := fun pins s σ H Q I hw => wpAny_tests_one (h pins s σ H Q I hw)
def lcPost (k : Nat) (mp : List Nat) (σ : St) (g : TG) (tc : TT) (te : TE) (J : It) (H1 : Hp) (Q : VK) : Prop :=
 ∀ D, H1 D = none → ∃ W : Nat → Nat → List V → Hp → Prop, (∃ m, W 0 m [] (upd H1 D (.lst []))) ∧ ∀ i m acc H2, W i m acc H2 →
  (J.stop i H2 ∧ Q (.ref D) H2) ∨ (J.go i H2 ∧ ∀ x H3, J.yld i H2 x H3 → g x (lcS k mp σ) H3 fun σ4 H4 => tc σ4 H4 fun b H5 =>
   if b = true then te σ4 H5 fun v H6 => H6 D = some (.lst acc) ∧ acc.length < sizeLine ∧ ∃ m', m' < m ∧ W (i + 1) m' (acc ++ [v]) (upd H6 D (.lst (acc ++ [v])))
   else ∃ m', m' < m ∧ W (i + 1) m' acc H5)
def tLc (k : Nat) (mp : List Nat) (wi : TI) (g : TG) (tc : TT) (te : TE) : TE := fun σ H Q => wi σ H fun J H1 => lcPost k mp σ g tc te J H1 Q
section
variable {X : Cx} {pins : List (Addr × Obj)} {σ : St} {elt tgt iter : Expr} {ifs : List Expr} {scope sc : Scope} {pos : Pos} {N xs : List Str} {mp : List Nat} {wi : TI} {g : TG} {tc : TT} {te : TE}
theorem lc_run {H2 : Hp} {s2 : Shared} {it : Addr} {fp : List Addr} {tn : Nat → Heap → Prop} {J : It} {Qv : VK} {E : Value → Shared → Prop} {RR : Value → Addr → Result → Shared → Prop}
  (hsc : X.env.scope = sc) (hN : X.N = N) (S : LcOk sc scope N xs mp) (hcalm : X.calm = true)
  (hg : ∀ cl C s₀ H₀ fp, PG (lcx X (lcN N xs mp) scope cl C s₀ H₀ fp) tgt g) (hc : ∀ cl C s₀ H₀ fp, PCs (lcx X (lcN N xs mp) scope cl C s₀ H₀ fp) ifs tc) (he : ∀ cl C s₀ H₀ fp, PE (lcx X (lcN N xs mp) scope cl C s₀ H₀ fp) elt te)
  (I2 : Inv X pins σ H2 s2) (T : Turn X.prog X.w X.K tgt J fp it tn) (st2 : tn 0 s2.heap) (f2 : ∀ b ∈ fp, FpOk X pins H2 b) (h : lcPost xs.length mp σ g tc te J H2 Qv)
  (hRR : ∀ (D C : Addr) (s' : Shared) (H' : Hp) (m : Str → Option Value), s'.heap.Ns C m → Inv X pins σ H' s' → FpOk X pins H' C → Qv (.ref D) H' → RR (.ref D) C (.ok .next) s') :
  wpAny (model X.prog X.w) X.A (newList []) (fun acc s3 => wpAny (model X.prog X.w) X.A (newFunctionEnv scope X.env.globals (closL X.env scope.names []) [] X.env.qual none .none (some X.env)) (fun cenv s4 =>
   codeAny (model X.prog X.w) X.A (.compStart (.ListComp elt [⟨tgt, iter, ifs, 0⟩] scope pos) 0 (.ref it) acc { cenv with scope := relabel scope X.env }) (RR acc cenv.locals) s4) E s3) E s2 := by
 have hD : H2 s2.heap.objs.size = none := I2.hok.fresh (Nat.le_refl _)
 obtain ⟨W, ⟨m0, w0⟩, turn⟩ := h s2.heap.objs.size hD
 refine wpAny_newObj_type (wpAny_newFunctionEnv S.nocell (by intro y hy; simp at hy) (fun h1 hns1 hsb1 => ?_) S.kind)
 dsimp only at hns1 hsb1 ⊢
 have fpD : ∀ b ∈ fp, b ≠ s2.heap.objs.size := fun b hb => by
  obtain ⟨o, e, _⟩ := T.obj _ _ st2 b hb
  exact Nat.ne_of_lt (Heap.lt_size e)
 have I3 : Inv X pins σ (upd H2 s2.heap.objs.size (.lst [])) { s2 with heap := s2.heap.push { cls := .type "list", dict := none, data := .seq ([] : List Value).toArray } } :=
  I2.laid (t' := s2.toks) (fun b u e => Heap.get?_push_of_some _ e) (Nat.le_refl _) ⟨Nat.zero_le _, [], 0, .nil, Heap.get?_push_size _ rfl⟩
 have f3 : ∀ b ∈ fp, FpOk X pins (upd H2 s2.heap.objs.size (.lst [])) b := fun b hb => ⟨by rw [upd_ne (fpD b hb)]; exact (f2 b hb).1, (f2 b hb).2⟩
 generalize hs3 : ({ s2 with heap := s2.heap.push { cls := .type "list", dict := none, data := .seq ([] : List Value).toArray } } : Shared) = s3 at I3
 have hh3 : s2.heap.push { cls := .type "list", dict := none, data := .seq ([] : List Value).toArray } = s3.heap := by rw [← hs3]
 have kp3 : ∀ b o, s2.heap.get? b = some o → s3.heap.get? b = some o := fun b o e => by rw [← hh3]; exact Heap.get?_push_of_some _ e
 rw [hh3] at hns1 hsb1 ⊢
 have st3 : tn 0 s3.heap := T.keep _ _ _ st2 fun b _ o e => kp3 b o e
 have x3 : ∀ b ∈ fp, ∃ o, s3.heap.get? b = some o := fun b hb => by
  obtain ⟨o, e, _⟩ := T.obj _ _ st3 b hb
  exact ⟨o, e⟩
 have st4 : tn 0 h1 := T.keep _ _ _ st3 fun b _ o e => hsb1.extBut b o (Nat.ne_of_lt (Heap.lt_size e)) (Heap.get?_push_of_some _ e)
 have I4 := fun tk => lc_reset I3 hsc hN S f3 (lc_inv (tk := tk) I3 hsc S f3 x3 hns1 hsb1)
 have key : ∀ s4 : Shared, s4 = { s3 with heap := h1, toks := s4.toks } → codeAny (model X.prog X.w) X.A (.compLoop (.ListComp elt [⟨tgt, iter, ifs, 0⟩] scope pos) 0 (.ref it) (.ref s2.heap.objs.size) (compEnvC scope (closL X.env scope.names []) s3.heap.objs.size X.env))
   (RR (.ref s2.heap.objs.size) s3.heap.objs.size) s4 := by
  intro s4 hs4
  have stat : ∀ {H' : Hp}, (∀ b ∈ fp, H' b = none) → ∀ b ∈ fp, FpOk (lcx X (lcN N xs mp) scope (closL X.env scope.names []) s3.heap.objs.size s3 (upd H2 s2.heap.objs.size (.lst [])) fp) [] H' b := fun hn b hb =>
   ⟨hn b hb, ((I4 0).ok.exf b hb).1, (I4 0).ok.exfs b hb, .inl hb, ((I4 0).ok.exf b hb).2, fun p hp => absurd (show p ∈ ([] : List (Addr × Obj)) from hp) (by simp)⟩
  refine compLoop_of (fun n s' => ∃ i acc H', Inv (lcx X (lcN N xs mp) scope (closL X.env scope.names []) s3.heap.objs.size s3 (upd H2 s2.heap.objs.size (.lst [])) fp) [] (lcS xs.length mp σ) H' s' ∧ tn i s'.heap ∧ (∀ b ∈ fp, H' b = none) ∧ W i n acc H') ?_ m0
   ⟨0, [], _, (by rw [hs4]; exact I4 _), (by rw [hs4]; exact st4), fun b hb => (f3 b hb).1, w0⟩
  rintro n s6 ⟨i, acc, H6, I6, st6, fr6, w6⟩
  rcases turn i n acc H6 w6 with ⟨stop, q⟩ | ⟨go, step⟩
  ·refine thn (T.done (lcx X (lcN N xs mp) scope (closL X.env scope.names []) s3.heap.objs.size s3 (upd H2 s2.heap.objs.size (.lst [])) fp) rfl rfl rfl hcalm i [] s6 _ H6 _ I6 (stat fr6) st6 stop) fun r s7 ⟨hr, I7⟩ => ?_
   subst hr
   obtain ⟨m7, hn7, _⟩ := I7.loc
   exact hRR _ _ s7 H6 m7 hn7 (lc_back I3 f3 I7) (I3.fpOk (Nat.le_refl _) I7.free) q
  ·refine thn (T.item (lcx X (lcN N xs mp) scope (closL X.env scope.names []) s3.heap.objs.size s3 (upd H2 s2.heap.objs.size (.lst [])) fp) rfl rfl rfl hcalm i [] s6 _ H6 _ I6 (stat fr6) st6 go) fun r s7 ⟨u, hr, h7⟩ => ?_
   subst hr
   refine thn h7 fun _ s8 ⟨x, H8, I8, r8, y8, st8, fr8⟩ => ?_
   have I8' := I8.pinned (stat fr8) (T.obj _ _ st8)
   have again : ∀ {σ' : St} {H' : Hp} {s' : Shared}, Inv (lcx X (lcN N xs mp) scope (closL X.env scope.names []) s3.heap.objs.size s3 (upd H2 s2.heap.objs.size (.lst [])) fp) ([] ++ pinsAt fp s8.heap) σ' H' s' → (∃ m acc', m < n ∧ W (i + 1) m acc' H') →
     ∃ m, m < n ∧ ∃ i acc H', Inv (lcx X (lcN N xs mp) scope (closL X.env scope.names []) s3.heap.objs.size s3 (upd H2 s2.heap.objs.size (.lst [])) fp) [] (lcS xs.length mp σ) H' s' ∧ tn i s'.heap ∧ (∀ b ∈ fp, H' b = none) ∧ W i m acc H' := by
    intro σ' H' s' J ⟨m, acc', hm, w'⟩
    refine ⟨m, hm, i + 1, acc', H', lc_reset I3 hsc hN S f3 J.unpinned, T.keep _ _ _ st8 fun b hb o e => (J.pin (b, o) (List.mem_append_right _ (List.mem_append_right _ (mem_pinsAt hb e)))).1, fun b hb => ?_, w'⟩
    obtain ⟨o, e, _⟩ := T.obj _ _ st8 b hb
    exact (J.pin (b, o) (List.mem_append_right _ (List.mem_append_right _ (mem_pinsAt hb e)))).2.1
   refine thn (hg _ _ _ _ _ _ s8 _ H8 x u _ I8' r8 (step x H8 y8)) fun _ s9 ⟨σ9, H9, I9, q9⟩ => ?_
   refine thn (hc _ _ _ _ _ _ s9 σ9 H9 _ I9 q9) fun b s10 ⟨H10, I10, q10⟩ => ?_
   cases b with
   | false =>
    obtain ⟨m', hm, w'⟩ := q10
    exact again I10 ⟨m', acc, hm, w'⟩
   | true =>
    refine thn (he _ _ _ _ _ _ s10 σ9 H10 _ I10 q10) fun yv s11 ⟨v, H11, I11, r11, hDa, hz, m', hm, w'⟩ => ?_
    refine thn (mt_append _ s11 σ9 H11 (.ref s2.heap.objs.size) [v] (.ref s2.heap.objs.size) [yv] (fun _ H12 => H12 = upd H11 s2.heap.objs.size (.lst (acc ++ [v]))) I11 rfl (.cons r11 .nil) ⟨_, acc, v, rfl, rfl, hDa, hz, rfl⟩) fun _ s12 ⟨_, H12, I12, _, e12⟩ => ?_
    subst e12
    exact again I12 ⟨m', _, hm, w'⟩
 subst hs3
 exact codeAny_compStart_list (key _ rfl) (T.self X.A 0 _ _ _ st4 (key _ rfl))
theorem pe_lcomp (sc : Scope) (N xs : List Str) (mp : List Nat) (hcalm : X.calm = true) (hi : PI X tgt iter wi) (hg : ∀ cl C s₀ H₀ fp, PG (lcx X (lcN N xs mp) scope cl C s₀ H₀ fp) tgt g)
  (hc : ∀ cl C s₀ H₀ fp, PCs (lcx X (lcN N xs mp) scope cl C s₀ H₀ fp) ifs tc) (he : ∀ cl C s₀ H₀ fp, PE (lcx X (lcN N xs mp) scope cl C s₀ H₀ fp) elt te)
  (S : lcChk sc scope N xs mp = true := by decide +kernel) (hsc : X.env.scope = sc := by rfl) (hN : X.N = N := by rfl) (hs : ∀ x, foldedSetIterable iter X.env x = pure x := by intro _; rfl) :
  PE X (.ListComp elt [⟨tgt, iter, ifs, 0⟩] scope pos) (tLc xs.length mp wi g tc te) := by
 intro pins s σ H Q I h
 have S' := lcChk_ok S
 rw [eval_ListComp]
 refine wpAny_comprehension_free (use := none) rfl hs (closureFor_of (lc_cells I hsc S')) S'.kind S'.names (thn (hi pins s σ H _ I h) fun v s1 h1 => thn h1 fun itv s2 h2 => ?_)
 obtain ⟨it, fp, tn, J, H2, e, I2, T, st2, f2, h3⟩ := h2
 subst e
 refine lc_run (RR := fun acc C => compPost (model X.prog X.w) X.A X.xe none (EP X pins σ Q) acc C) hsc hN S' hcalm hg hc he I2 T st2 f2 h3 ?_
 intro D C s' H' m hn I' fC q
 exact ⟨m, hn, fun h' hs' => ⟨.ref D, H', I'.turned (t' := s'.toks) (fun b o hb e => hs'.extBut b o hb e) fC.1 fC.2.1 fC.2.2.2.1 fC.2.2.2.2.1 fC.2.2.2.2.2, rfl, q⟩⟩
theorem ps_lcomp {i : Nat} {x : Str} {pos' spos : Pos} (sc : Scope) (N xs : List Str) (mp : List Nat) (hNd : X.N.Nodup) (hix : X.N[i]? = some x) (hx : Loc X.env.scope x) (hcalm : X.calm = true) (hi : PI X tgt iter wi) (hg : ∀ cl C s₀ H₀ fp, PG (lcx X (lcN N xs mp) scope cl C s₀ H₀ fp) tgt g)
  (hc : ∀ cl C s₀ H₀ fp, PCs (lcx X (lcN N xs mp) scope cl C s₀ H₀ fp) ifs tc) (he : ∀ cl C s₀ H₀ fp, PE (lcx X (lcN N xs mp) scope cl C s₀ H₀ fp) elt te)
  (S : lcChk sc scope N xs mp = true := by decide +kernel) (hsw : swapsWith (.ListComp elt [⟨tgt, iter, ifs, 0⟩] scope pos) (some (.Name x pos')) spos.line X.env = pure true := by rfl)
  (hsc : X.env.scope = sc := by rfl) (hN : X.N = N := by rfl) (hs : ∀ x, foldedSetIterable iter X.env x = pure x := by intro _; rfl) (hf : X.fn x = true ∨ X.env.scope.names.lookup x = some .local := by first | exact .inl rfl | exact .inr rfl | assumption) :
  PS X (.Assign [.Name x pos'] (.ListComp elt [⟨tgt, iter, ifs, 0⟩] scope pos) spos) (tAsg (tLc xs.length mp wi g tc te) (gName i)) := by
 intro pins s σ H D I h
 have S' := lcChk_ok S
 rw [exec_Assign_Name_used _ _ _ _ hsw]
 refine wpAny_bind (wpAny_standAt (wpAny_bind ?_))
 show wpAny (model X.prog X.w) X.A (do let _ ← comprehension (.ListComp elt [⟨tgt, iter, ifs, 0⟩] scope pos) scope X.env _ (newList []) false (eval iter X.env) (some (assign (.Name x pos') X.env))) _ _ s
 refine wpAny_bind (wpAny_mono (wpAny_comprehension_free (use := some (assign (.Name x pos') X.env)) (Q := fun _ s' => SP X pins D .next s') rfl hs (closureFor_of (lc_cells I hsc S')) S'.kind S'.names
  (thn (hi pins s σ H _ I h) fun v s1 h1 => thn h1 fun itv s2 h2 => ?_)) (fun _ s' hq => wpAny_pure (wpAny_pure hq)) fun _ _ e => e)
 obtain ⟨it, fp, tn, J, H2, e, I2, T, st2, f2, h3⟩ := h2
 subst e
 refine lc_run (RR := fun acc C => compPost (model X.prog X.w) X.A X.xe (some (assign (.Name x pos') X.env)) (fun _ s' => SP X pins D .next s') acc C) hsc hN S' hcalm hg hc he I2 T st2 f2 h3 ?_
 intro D' C s' H' m hn I' fC q
 show wpAny (model X.prog X.w) X.A (assign (.Name x pos') X.env (.ref D')) _ _ s'
 refine wpAny_assign_Name (store_ok2 I' hNd hix hx (v := .ref D') rfl (fun s'' I'' ⟨a, sb, ha⟩ => ?_) hf)
 have nC : C ≠ a := by
  rcases ha with z | z
  ·rw [z]; exact fC.2.1
  ·exact fun e => fC.2.2.2.2.1 x a z e.symm
 refine ⟨m, hn.sameBut sb nC, fun h' hs' => ⟨_, H', I''.turned (t' := s''.toks) (fun b o hb e => hs'.extBut b o hb e) fC.1 fC.2.1 fC.2.2.2.1 fC.2.2.2.2.1 fC.2.2.2.2.2, q⟩⟩
end
def TSame (H H' : Hp) : Prop := ∀ b xs, H b = some (.tup xs) → H' b = some (.tup xs)
theorem Same.tup {H H' : Hp} (h : Same H H') : TSame H H' := fun b xs e => h b _ e
theorem TSame.trans {H H1 H2 : Hp} (a : TSame H H1) (b : TSame H1 H2) : TSame H H2 := fun c xs e => b c xs (a c xs e)
theorem tsame_upd_lst {H : Hp} {D : Addr} {xs ys : List V} (h : H D = some (.lst xs)) : TSame H (upd H D (.lst ys)) := fun b zs e => by
 rw [upd_ne (fun z => by rw [z, h] at e; cases e)]
 exact e
theorem same_upd_new {H : Hp} {D : Addr} {o : HO} (h : H D = none) : Same H (upd H D o) := fun b u e => by
 rw [upd_ne (ne_of_none e h)]
 exact e
theorem lc_map {k : Nat} {mp : List Nat} {σ : St} {g : TG} {te : TE} {J : It} {H1 : Hp} {Q : VK} (n : Nat) (xs : Nat → V) (R : Nat → V → Hp → Prop) (hn : n ≤ sizeLine)
  (hR : ∀ i v H H', TSame H H' → R i v H → R i v H')
  (hJ : ∀ H, Same H1 H → (∀ i, i < n → J.go i H ∧ ∀ x H', J.yld i H x H' → H' = H ∧ x = xs i) ∧ J.stop n H)
  (step : ∀ i H (Qe : VK), i < n → Same H1 H → (∀ v H6, Same H H6 → R i v H6 → Qe v H6) → g (xs i) (lcS k mp σ) H fun σ4 H4 => te σ4 H4 Qe)
  (done : ∀ D vs H', vs.length = n → (∀ i v, vs[i]? = some v → R i v H') → Same H1 H' → H1 D = none → H' D = some (.lst vs) → Q (.ref D) H') : lcPost k mp σ g tYes te J H1 Q := by
 intro D hD
 refine ⟨fun i m acc H => m = n - i ∧ i ≤ n ∧ acc.length = i ∧ Same H1 H ∧ H D = some (.lst acc) ∧ ∀ j v, acc[j]? = some v → R j v H, ⟨n, by simp, Nat.zero_le _, rfl, same_upd_new hD, upd_same, fun j v e => by simp at e⟩, ?_⟩
 rintro i m acc H ⟨rfl, hi, hl, hs, hDa, hr⟩
 obtain ⟨j1, j2⟩ := hJ H hs
 by_cases hlt : i < n
 ·refine .inr ⟨(j1 i hlt).1, fun x H3 y => ?_⟩
  obtain ⟨e1, e2⟩ := (j1 i hlt).2 x H3 y
  subst e1 e2
  refine step i H3 _ hlt hs fun v H6 s6 r6 => ⟨s6 _ _ hDa, by omega, n - (i + 1), by omega, rfl, hlt, by rw [List.length_append, hl]; rfl, fun b o e => ?_, upd_same, fun j u e => ?_⟩
  ·rw [upd_ne (ne_of_none e hD)]
   exact s6 _ _ (hs b o e)
  ·have ts : TSame H6 (upd H6 D (.lst (acc ++ [v]))) := tsame_upd_lst (s6 _ _ hDa)
   rcases Nat.lt_trichotomy j acc.length with h | h | h
   ·rw [List.getElem?_append_left h] at e
    exact hR _ _ _ _ (s6.tup.trans ts) (hr j u e)
   ·subst h
    rw [List.getElem?_append_right (Nat.le_refl _), Nat.sub_self] at e
    cases e
    rw [hl]
    exact hR _ _ _ _ ts r6
   ·rw [List.getElem?_eq_none (by rw [List.length_append, List.length_singleton]; omega)] at e
    cases e
 ·have e : i = n := by omega
  subst e
  exact .inl ⟨j2, done D acc H hl hr hs hD hDa⟩
theorem jt_list {K : PySem.W.Frag} {a : Addr} {ys : List V} {H1 : Hp} (h : SqL K H1 a ys) : ∀ H, Same H1 H → (∀ i, i < ys.length → (Itl K a).go i H ∧ ∀ x H', (Itl K a).yld i H x H' → H' = H ∧ x = ys.getD i .non) ∧ (Itl K a).stop ys.length H := fun H s => by
 have q := s.seq h
 refine ⟨fun i hi => ⟨⟨ys, ys[i], q, by simp [hi]⟩, fun x H' y => ⟨y.1, ?_⟩⟩, ⟨ys, q, Nat.le_refl _⟩⟩
 have e := y.2 ys q
 rw [List.getD_eq_getElem?_getD, e]
 rfl
theorem Same.tupS {K : PySem.W.Frag} {H H' : Hp} {a : Addr} {xs : List V} (e : Same H H') (h : SqT K H a xs) : SqT K H' a xs := by
 rcases h with (h | ⟨o, h⟩) | h
 ·exact .inl (.inl (e _ _ h))
 ·exact .inl (.inr ⟨o, e _ _ h⟩)
 ·exact .inr h
theorem jt_tup {K : PySem.W.Frag} {a : Addr} {ys : List V} {H1 : Hp} (h : SqT K H1 a ys) : ∀ H, Same H1 H → (∀ i, i < ys.length → (Itt K a).go i H ∧ ∀ x H', (Itt K a).yld i H x H' → H' = H ∧ x = ys.getD i .non) ∧ (Itt K a).stop ys.length H := fun H s => by
 have q := s.tupS h
 refine ⟨fun i hi => ⟨⟨ys, ys[i], q, by simp [hi]⟩, fun x H' y => ⟨y.1, ?_⟩⟩, ⟨ys, q, Nat.le_refl _⟩⟩
 have e := y.2 ys q
 rw [List.getD_eq_getElem?_getD, e]
 rfl
theorem jt_range {lo : Int} {n : Nat} {H1 : Hp} : ∀ H, Same H1 H → (∀ i, i < n → (Itr lo n).go i H ∧ ∀ x H', (Itr lo n).yld i H x H' → H' = H ∧ x = .int (lo + i)) ∧ (Itr lo n).stop n H := fun H _ =>
 ⟨fun i hi => ⟨hi, fun x H' y => y⟩, Nat.le_refl _⟩
section
variable {X : Cx}
def rSlS : V → Option Int → Option Int → Hp → VK → Prop := fun x lo hi H Q => ∃ z : Str, x = .str z ∧ z.length ≤ sizeLine ∧ Q (.str (Txt.slice z lo hi)) H
theorem sl_str : SlR X rSlS := by
 intro pins s σ H x v vl vu lo hi sl Q I rx hs pl pu h
 obtain ⟨z, rfl, hz, q⟩ := h
 obtain ⟨t, rfl⟩ := rx
 have fin : ∀ t' k, EP X pins σ Q (.str (Txt.slice z lo hi) t') { s with toks := k } := fun t' k => ⟨.str _, H, I.tok _, ⟨_, rfl⟩, q⟩
 have hle : (Txt.slice z lo hi).length ≤ sizeLine := Nat.le_trans (Txt.slice_le z _ _) hz
 cases pl with
 | none =>
  cases pu with
  | none => exact ⟨"str", _, F.slot_str_getitem.lookup, typeIs_str _ _ _, wpAny_getItem_str_slice (l := none) (u := none) (st := none) hs rfl (post_val_or_str ⟨hle, fin⟩)⟩
  | int j u => exact ⟨"str", _, F.slot_str_getitem.lookup, typeIs_str _ _ _, wpAny_getItem_str_slice (l := none) (u := some (j, u)) (st := none) hs rfl (post_val_or_str ⟨hle, fin⟩)⟩
 | int i u' =>
  cases pu with
  | none => exact ⟨"str", _, F.slot_str_getitem.lookup, typeIs_str _ _ _, wpAny_getItem_str_slice (l := some (i, u')) (u := none) (st := none) hs rfl (post_val_or_str ⟨hle, fin⟩)⟩
  | int j u => exact ⟨"str", _, F.slot_str_getitem.lookup, typeIs_str _ _ _, wpAny_getItem_str_slice (l := some (i, u')) (u := some (j, u)) (st := none) hs rfl (post_val_or_str ⟨hle, fin⟩)⟩
theorem op_mulS : OpR X (binaryOp .Mult) (fun x y H Q => ∃ (z : Str) (n : Int), x = .str z ∧ y = .int n ∧ MulOk z n ∧ Q (.str (Txt.mul z n)) H) := by
 intro pins s σ H x y v u Q I rx ry h
 obtain ⟨z, n, rfl, rfl, hok, q⟩ := h
 obtain ⟨t, rfl⟩ := rx
 obtain ⟨t', rfl⟩ := ry
 exact SB.mul hok fun t' k => ⟨.str _, H, I.tok _, ⟨_, rfl⟩, q⟩
theorem strsAre_of : ∀ {ss : List Str} {us : List Value}, Vals (ss.map V.str) us → StrsAre us ss
 | [], _, r => by
  cases r
  exact .nil
 | x :: ss, _, r => by
  cases r with
  | cons r1 r2 =>
   obtain ⟨t, e⟩ := r1
   subst e
   exact .cons x t (strsAre_of r2)
def rJoin (K : PySem.W.Frag) : V → List V → Hp → VK → Prop := fun x vs H Q => ∃ (z : Str) (a : Addr) (ys : List Str), x = .str z ∧ vs = [.ref a] ∧ SqL K H a (ys.map V.str) ∧ (ys.map (·.length)).sum + ys.length * z.length ≤ 16777216 ∧ Q (.str (Txt.join z ys)) H
theorem mt_join : MtR X "str.join" (rJoin X.K) := by
 intro pins s σ H x vs v us Q I rx rv h
 obtain ⟨z, a, ys, rfl, rfl, hq, hz, q⟩ := h
 obtain ⟨t, rfl⟩ := rx
 obtain ⟨u, rfl, ru⟩ := vals1 rv
 cases ru
 obtain ⟨its, r, pl, _⟩ := I.list hq
 exact join_list pl.isList (strsAre_of (by simpa using r)) hz fun t' k => ⟨.str _, H, I.tok _, ⟨_, rfl⟩, q⟩
theorem call_allL (hc : X.calm = true) : CallR X (.builtin "all") (fun xs H Q => ∃ (a : Addr) (bs : List Bool), xs = [.ref a] ∧ SqL X.K H a (bs.map V.bl) ∧ Q (.bl (bs.all id)) H) := by
 intro pins s σ H xs us Q I r h
 obtain ⟨a, bs, rfl, hq, q⟩ := h
 obtain ⟨u, rfl, ru⟩ := vals1 r
 cases ru
 obtain ⟨its, rv, pl, hz⟩ := I.list hq
 have hl := rv.length
 rw [List.length_map] at hl
 have hlt : a < s.heap.objs.size := by
  obtain ⟨o, n, e, _⟩ := pl
  exact Heap.lt_size e
 refine call_all_walk (wpAny_pyIter_list pl.isList ⟨s.heap.objs.size, [s.heap.objs.size, a], [s.heap.objs.size], its.toArray.size, _, _, fun i => bs.getD i false, rfl, Walks.list (A := X.A.in1) (I.ok.hd hc) _ _ (Nat.ne_of_lt hlt) its.toArray,
  ⟨⟨_, Heap.get?_push_size _ rfl, rfl, rfl⟩, pl.isList.push _⟩, ?_, ?_⟩)
 ·intro i v Q' E' s' hv hQ
  have hi : i < its.length := by
   have := (Array.getElem?_eq_some_iff.mp hv).1
   simpa using this
  have e1 : its[i]? = some v := by simpa using hv
  have hb : (bs.map V.bl)[i]? = some (.bl (bs.getD i false)) := by
   rw [List.getElem?_map, List.getD_eq_getElem?_getD]
   cases e : bs[i]? with
   | none => exact absurd (List.getElem?_eq_none_iff.mp e) (by omega)
   | some b => rfl
  obtain ⟨u', hu, ru⟩ := rv.get hb
  rw [e1] at hu
  cases hu
  have ev : v = Value.bool (bs.getD i false) := ru
  rw [ev]
  exact wpAny_truthy_bool hQ
 ·intro h' tk kk
  have e : ((List.range its.toArray.size).all fun i => bs.getD i false) = bs.all id := by
   rw [List.size_toArray, ← hl]
   rw [Bool.eq_iff_iff, List.all_eq_true, List.all_eq_true]
   constructor
   ·intro h b hb
    obtain ⟨i, hi, e⟩ := List.getElem_of_mem hb
    have := h i (List.mem_range.mpr hi)
    rw [List.getD_eq_getElem?_getD, List.getElem?_eq_getElem hi, e] at this
    exact this
   ·intro h i hi
    have hi' := List.mem_range.mp hi
    rw [List.getD_eq_getElem?_getD, List.getElem?_eq_getElem hi']
    exact h _ (List.getElem_mem hi')
  rw [e]
  exact ⟨.bl _, H, I.kept fun b o e => kk b o (by simpa using Nat.ne_of_lt (Heap.lt_size e)) (Heap.get?_push_of_some _ e), rfl, q⟩
def clsV : V → Option Value
 | .ty n => some (.type n)
 | .ref a => some (.ref a)
 | _ => none
theorem call_isi : CallR X (.builtin "isinstance") (fun xs H Q => ∃ (x c : V) (t cv : Value) (b : Bool), xs = [x, c] ∧ TyOf X.K H x t ∧ clsV c = some cv ∧ PySem.W.kitOne X.K t cv = some b ∧ Q (.bl b) H) := by
 intro pins s σ H xs us Q I r h
 obtain ⟨x, c, t, cv, b, rfl, ty, rc, e, q⟩ := h
 obtain ⟨u, w', rfl, ru, rw'⟩ := vals2 r
 have ec : w' = cv := by
  cases c with
  | ty n => exact (show w' = Value.type n from rw').trans (Option.some.inj rc)
  | ref n => exact (show w' = Value.ref n from rw').trans (Option.some.inj rc)
  | _ => cases rc
 subst ec
 exact isinst_ok I ru ty e fun tk => ⟨.bl b, H, I.tok _, rfl, q⟩
end
mutual
def RepD (H : Hp) : PyData → V → Prop
 | .none, v => v = .non
 | .bool b, v => v = .bl b
 | .int i, v => v = .int i
 | .str x, v => v = .str x
 | .tuple ds, v => ∃ a xs, v = .ref a ∧ H a = some (.tup xs) ∧ RepA H ds xs
 | .list ds, v => ∃ a xs, v = .ref a ∧ H a = some (.lst xs) ∧ RepA H ds xs
 | .dict _, _ => False
def RepA (H : Hp) : List PyData → List V → Prop
 | [], xs => xs = []
 | d :: ds, xs => ∃ v vs, xs = v :: vs ∧ RepD H d v ∧ RepA H ds vs
end
mutual
theorem RepD.same {H H' : Hp} (h : Same H H') : ∀ (d : PyData) (v : V), RepD H d v → RepD H' d v
 | .none, _, r => r
 | .bool _, _, r => r
 | .int _, _, r => r
 | .str _, _, r => r
 | .tuple ds, v, r => by
  rw [RepD] at r ⊢
  obtain ⟨a, xs, e, e2, q⟩ := r
  exact ⟨a, xs, e, h _ _ e2, RepA.same h ds xs q⟩
 | .list ds, v, r => by
  rw [RepD] at r ⊢
  obtain ⟨a, xs, e, e2, q⟩ := r
  exact ⟨a, xs, e, h _ _ e2, RepA.same h ds xs q⟩
 | .dict _, v, r => by
  rw [RepD] at r
  exact r.elim
theorem RepA.same {H H' : Hp} (h : Same H H') : ∀ (ds : List PyData) (vs : List V), RepA H ds vs → RepA H' ds vs
 | [], _, r => r
 | d :: ds, vs, r => by
  rw [RepA] at r ⊢
  obtain ⟨v, us, e, q1, q2⟩ := r
  exact ⟨v, us, e, RepD.same h d v q1, RepA.same h ds us q2⟩
end
section
variable {X : Cx} {pins : List (Addr × Obj)} {σ : St} {H : Hp} {s : Shared}
mutual
theorem RepD.reads (I : Inv X pins σ H s) : ∀ (d : PyData) (v : V) (u : Value), RepD H d v → RelV v u → ∃ as, Reads s.heap u d as
 | .none, v, u, r, q => by
  rw [RepD] at r
  subst r
  cases q
  exact ⟨_, .none⟩
 | .bool b, v, u, r, q => by
  rw [RepD] at r
  subst r
  cases q
  exact ⟨_, .bool b⟩
 | .int i, v, u, r, q => by
  rw [RepD] at r
  subst r
  obtain ⟨t, rfl⟩ := q
  exact ⟨_, .int i t⟩
 | .str x, v, u, r, q => by
  rw [RepD] at r
  subst r
  obtain ⟨t, rfl⟩ := q
  exact ⟨_, .str x t⟩
 | .tuple ds, v, u, r, q => by
  rw [RepD] at r
  obtain ⟨a, xs, e, e2, q2⟩ := r
  subst e
  cases q
  obtain ⟨its, rv, ⟨o, h1, h2, n, h3⟩, _⟩ := I.tuple (SqT.of e2)
  obtain ⟨as, q3⟩ := RepA.reads I ds xs its q2 rv
  exact ⟨_, .tuple h1 h2 h3 (by simpa using q3)⟩
 | .list ds, v, u, r, q => by
  rw [RepD] at r
  obtain ⟨a, xs, e, e2, q2⟩ := r
  subst e
  cases q
  obtain ⟨its, rv, ⟨o, n, h1, h2, _, h3⟩, _⟩ := I.list (SqL.of e2)
  obtain ⟨as, q3⟩ := RepA.reads I ds xs its q2 rv
  exact ⟨_, .list h1 h2 h3 (by simpa using q3)⟩
 | .dict _, v, u, r, q => by
  rw [RepD] at r
  exact r.elim
theorem RepA.reads (I : Inv X pins σ H s) : ∀ (ds : List PyData) (vs : List V) (us : List Value), RepA H ds vs → Vals vs us → ∃ as, ReadsAll s.heap us ds as
 | [], vs, us, r, q => by
  rw [RepA] at r
  subst r
  cases q
  exact ⟨_, .nil⟩
 | d :: ds, vs, us, r, q => by
  rw [RepA] at r
  obtain ⟨v, vs', e, q1, q2⟩ := r
  subst e
  cases q with
  | cons p1 p2 =>
   obtain ⟨as, r1⟩ := RepD.reads I d v _ q1 p1
   obtain ⟨bs, r2⟩ := RepA.reads I ds vs' _ q2 p2
   exact ⟨_, .cons r1 r2⟩
end
end
section
variable {X : Cx}
theorem op_eqD (hu : X.A.units + 64 < cLine) : OpR X (compareOp .Eq) (fun x y H Q => ∃ da db, RepD H da x ∧ RepD H db y ∧ SeqAt.shaped da = true ∧ SeqAt.shaped db = true ∧ Q (.bl (PyData.eqv da db)) H) := by
 intro pins s σ H x y v u Q I rx ry h
 obtain ⟨da, db, r1, r2, s1, s2, q⟩ := h
 obtain ⟨as, q1⟩ := RepD.reads I da x v r1 rx
 obtain ⟨bs, q2⟩ := RepD.reads I db y u r2 ry
 exact eq_dataH q1 q2 s1 s2 hu ⟨.bl _, H, I, rfl, q⟩
end
structure HasDef (K : PySem.W.Frag) (mg : Str → Option Value) (name : Str) (st : Stmt) (ps : List Str) : Prop where
 ex : ∃ f fd, Fun K name name st f fd ∧ Binds K fd ps [] ∧ mg name = some (.ref f)
structure FOk (P : Program) (w : World) (K : PySem.W.Frag) (mg : Str → Option Value) (base : Heap) (k : Nat) (name : Str) (ps : List Str) (sp : Sp) : Prop where
 ex : ∃ f fd, FnOk P w K mg base CX0 k f fd ps sp ∧ Binds K fd ps [] ∧ mg name = some (.ref f) ∧ PySem.W.keepIn K (.ref f) = true
section
variable {P : Program} {w : World} {K : PySem.W.Frag} {mg : Str → Option Value} {base : Heap}
theorem HasDef.ok {name : Str} {st : Stmt} {N ps : List Str} {k : Nat} {sp : Sp} (D : HasDef K mg name st ps) (S : FnScope N ps (defScope st)) (len : ∀ vs H Q E, sp vs H Q E → vs.length = ps.length)
  (hbody : ∀ (f : Addr) (cdv : Value) (A : Around) (outer : List Env) (s : Shared) (H : Hp) (vs : List V) (Q : VK) (E : XK), Room k (A.deeper (envOfC name (defScope st) s.heap.objs.size f cdv)) → sp vs H Q E →
   ∃ t, PSs (cxOf CX0 P w K mg base N name (defScope st) f cdv A outer s H E).nox (defBody st) t ∧ t { nx := fun _ H' => Q .non H', rt := Q } (start N vs) H) : FOk P w K mg base (k + 1) name ps sp := by
 obtain ⟨f, fd, F, b, m⟩ := D.ex
 exact ⟨f, fd, F.ok S len fun cdv A outer s H vs Q E => hbody f cdv A outer s H vs Q E, b, m, F.kp⟩
theorem FOk.mono {name : Str} {ps : List Str} {j k : Nat} {sp : Sp} (G : FOk P w K mg base j name ps sp) (h : j ≤ k) : FOk P w K mg base k name ps sp := by
 obtain ⟨f, fd, F, r⟩ := G.ex
 exact ⟨f, fd, F.mono h, r⟩
end
theorem pe_fn {X : Cx} {k : Nat} {name : Str} {ps : List Str} {sp : Sp} {p pos : Pos} {e : Expr} {es : List Expr} {t : TA} (G : FOk X.prog X.w X.K X.mg X.base k name ps sp) (hr : Room k X.A) (ha : PA X (e :: es) t) (hg : Gl X name := by rfl)
  (hdb : (name == ("__debug__" : Str)) = false := by decide) (he : starEach (e :: es) X.env = (false, eval e X.env) :: starEach es X.env := by rfl) (hpl : (backTo pos (starEach es X.env)).any (·.1) = false := by rfl) :
  PE X (.Call (.Name name p) (e :: es) [] pos) (tCall sp [] E0 t) := by
 obtain ⟨f, fd, F, b, m, kp⟩ := G.ex
 exact pe_call F hr hg m kp b .nil pass0 ha hdb he hpl
inductive TyB (H : Hp) : V → String → Prop where
 | non : TyB H .non "NoneType"
 | bl (b : Bool) : TyB H (.bl b) "bool"
 | int (i : Int) : TyB H (.int i) "int"
 | str (x : Str) : TyB H (.str x) "str"
 | lst {a : Addr} {xs : List V} (e : H a = some (.lst xs)) : TyB H (.ref a) "list"
 | tup {a : Addr} {xs : List V} (e : H a = some (.tup xs)) : TyB H (.ref a) "tuple"
 | dK {a : Addr} {kvs : List (Key × V)} (e : H a = some (.dK kvs)) : TyB H (.ref a) "dict"
theorem TyB.of {K : PySem.W.Frag} {H : Hp} {x : V} {n : String} (h : TyB H x n) : TyOf K H x (.type n) := by
 cases h with
 | non => exact .non
 | bl b => exact .bl b
 | int i => exact .int i
 | str x => exact .str x
 | lst e => exact .lst e
 | tup e => exact .tup e
 | dK e => exact .dK e
theorem TyB.same {H H' : Hp} (s : Same H H') {x : V} {n : String} (h : TyB H x n) : TyB H' x n := by
 cases h with
 | non => exact .non
 | bl b => exact .bl b
 | int i => exact .int i
 | str x => exact .str x
 | lst e => exact .lst (s _ _ e)
 | tup e => exact .tup (s _ _ e)
 | dK e => exact .dK (s _ _ e)
def tyNames : List String := ["NoneType", "bool", "int", "str", "list", "tuple", "dict"]
theorem TyB.mem {H : Hp} {x : V} {n : String} (h : TyB H x n) : n ∈ tyNames := by
 cases h <;> simp [tyNames]
def isiB (n c : String) : Bool := n == c || (n == "bool" && c == "int")
def clNames : List String := ["int", "bool", "str", "tuple", "list"]
def kitB (a b : String) : Option Bool := if (Value.type a == Value.type b) = true then some true else if PySem.W.kitMeta b = true then (fastBuiltinMro a).map (·.contains (Value.type b)) else none
theorem kitB_ok : ∀ n ∈ tyNames, ∀ c ∈ clNames, kitB n c = some (isiB n c) := by decide +kernel
theorem call_isiB {X : Cx} : CallR X (.builtin "isinstance") (fun xs H Q => ∃ (x : V) (c n : String), xs = [x, .ty c] ∧ c ∈ clNames ∧ TyB H x n ∧ Q (.bl (isiB n c)) H) := by
 intro pins s σ H xs us Q I r h
 obtain ⟨x, c, n, rfl, hc, ty, q⟩ := h
 exact call_isi pins s σ H _ us Q I r ⟨x, .ty c, _, _, _, rfl, ty.of, rfl, kitB_ok n ty.mem c hc, q⟩
theorem isi_int : ∀ n ∈ tyNames, (isiB n "int" = true → (!isiB n "bool") = (n == "int")) ∧ (¬ isiB n "int" = true → (n == "int") = false) := by decide
theorem b_isi : bootBuiltins "isinstance" = some (.builtin "isinstance") := by decide +kernel
theorem b_len : bootBuiltins "len" = some (.builtin "len") := by decide +kernel
theorem b_all : bootBuiltins "all" = some (.builtin "all") := by decide +kernel
theorem b_min : bootBuiltins "min" = some (.builtin "min") := by decide +kernel
theorem b_sorted : bootBuiltins "sorted" = some (.builtin "sorted") := by decide +kernel
theorem b_int : bootBuiltins "int" = some (.type "int") := by decide +kernel
theorem b_bool : bootBuiltins "bool" = some (.type "bool") := by decide +kernel
theorem b_str : bootBuiltins "str" = some (.type "str") := by decide +kernel
theorem b_tuple : bootBuiltins "tuple" = some (.type "tuple") := by decide +kernel
theorem b_list : bootBuiltins "list" = some (.type "list") := by decide +kernel
theorem pe_ty {X : Cx} {x : Str} {c : String} {pos : Pos} (hg : Gl X x) (hm : X.mg x = none) (hv : bootBuiltins x = some (.type c)) (hn : x ≠ "__name__" := by decide) (hd : (x == ("__debug__" : Str)) = false := by decide) : PE X (.Name x pos) (tC (.ty c)) :=
 pe_bltn hg hm hv (show RelV (.ty c) (.type c) from rfl) hn hd
theorem pg_lc {X : Cx} {N xs : List Str} {mp : List Nat} {scope : Scope} {cl : List (Str × Addr)} {C : Addr} {s₀ : Shared} {H₀ : Hp} {fp : List Addr} (i : Nat) {x : Str} {pos : Pos} (nd : (lcN N xs mp).Nodup := by decide +kernel) (hi : (lcN N xs mp)[i]? = some x := by rfl)
  (hx : (lcx X (lcN N xs mp) scope cl C s₀ H₀ fp).env.scope.names.lookup x = some .local := by rfl) : PG (lcx X (lcN N xs mp) scope cl C s₀ H₀ fp) (.Name x pos) (gName i) := pg_name nd hi (.inl hx) (.inr hx)
def tx (l : List Nat) : Str := ⟨l.toArray⟩
theorem tx_list (l : List Nat) : (tx l).cps.toList = l := by simp [tx]
theorem tx_len (l : List Nat) : (tx l).length = l.length := by simp [tx, Str.length]
theorem tx_eta (x : Str) : tx x.cps.toList = x := by simp [tx]
theorem tx_inj {a b : List Nat} (h : tx a = tx b) : a = b := by
 have := congrArg (fun x : Str => x.cps.toList) h
 simpa [tx] using this
theorem vs_range {vs : List V} {n : Nat} {f : Nat → V} (hl : vs.length = n) (hr : ∀ i v, vs[i]? = some v → v = f i) : vs = (List.range n).map f := by
 apply List.ext_getElem?
 intro i
 rw [List.getElem?_map]
 by_cases h : i < n
 ·rw [List.getElem?_range h, Option.map_some, List.getElem?_eq_getElem (by omega)]
  exact congrArg some (hr i _ (List.getElem?_eq_getElem (by omega)))
 ·rw [List.getElem?_eq_none (by omega), List.getElem?_eq_none (by simpa using h)]
  rfl
theorem ix_listK {X : Cx} (K : PySem.W.Frag) (h : X.K = K := by rfl) : IxR X (rIxL K) := by subst h; exact ix_list
theorem size_small {n : Nat} (h : n ≤ 16777216) : n ≤ sizeLine := by rw [sizeLine_eq]; exact h
end L2
namespace L2
open PySem PySem.Spec PyProof.Rows PySem.Builtin.Str
section
variable {X : Cx}
theorem pg_tupK {es : List Expr} {k : Nat} {t : TGs} {pos : Pos} (n : Nat) (K : PySem.W.Frag) (hc : X.calm = true) (h : PGs X es t) (hK : X.K = K := by rfl)
  (hn : (assignEach es X.env).length = n := by rfl) (hst : (assignEach es X.env).findIdx? (·.1) = none := by rfl) : PG X (.Tuple es k pos) (gTup K n t) := by
 subst hK
 exact pg_tup hc h hn hst
end
theorem len_codes (x : Str) : x.cps.toList.length = x.length := by simp [Str.length]
theorem slice_to_codes {x : Str} {n : Int} (h : 0 ≤ n) : (Txt.slice x none (some n)).cps.toList = x.cps.toList.take n.toNat := by
 by_cases c : n ≤ x.length
 ·have e := eq_of_beq (slice_closes_toL (x := x) h c)
  rw [e]
  simp
 ·have e1 := slice_to_beyond (x := x) (j := n) (by omega)
  have e2 := eq_of_beq (slice_closes_toL (x := x) (j := x.length) (by omega) (Int.le_refl _))
  rw [e1, e2, List.take_of_length_le (l := x.cps.toList) (i := n.toNat) (by rw [len_codes]; omega)]
  simp [Str.length]
  exact List.take_of_length_le (by simp)
theorem slice_mid_codes {x : Str} {i j : Int} (h0 : 0 ≤ i) (h1 : i ≤ j) (h2 : j ≤ x.length) : (Txt.slice x (some i) (some j)).cps.toList = (x.cps.toList.drop i.toNat).take (j - i).toNat := by
 have e := eq_of_beq (slice_closesL (x := x) h0 h1 h2)
 rw [e]
theorem foldl_arr : ∀ (l : List (Array Nat)) (a : Array Nat), (l.foldl (· ++ ·) a).toList = a.toList ++ (l.map Array.toList).flatten
 | [], a => by simp
 | b :: l, a => by
  rw [List.foldl_cons, foldl_arr l]
  simp
theorem mul_codes {x : Str} {n : Int} (h : 1 ≤ n) (hx : x.length ≠ 0) : (Txt.mul x n).cps.toList = (List.replicate n.toNat x.cps.toList).flatten := by
 unfold Txt.mul
 rw [if_neg (by omega)]
 split
 ·rename_i c
  simp only [Bool.or_eq_true, beq_iff_eq] at c
  rcases c with c | c
  ·subst c
   simp
  ·exact absurd c hx
 ·rw [foldl_arr]
  simp
theorem mulOk_of {x : Str} {n : Int} (h1 : 1 ≤ n) (h2 : n ≤ 1000) (h3 : x.length ≤ 1000) : MulOk x n := by
 refine ⟨?_, ?_, ?_⟩
 ·have a : ¬ n < -(2 ^ 63) := by omega
  have b : ¬ n ≥ 2 ^ 63 := by omega
  rw [decide_eq_false a, decide_eq_false b]
  rfl
 ·intro _ _ q
  have : (1000 : Int) ≤ (2 ^ 63 - 1) / n := by
   rw [Int.le_ediv_iff_mul_le (by omega)]
   omega
  omega
 ·intro _ _
  have : x.length * n.toNat ≤ 1000 * 1000 := Nat.mul_le_mul h3 (by omega)
  unfold tooLong
  have hs : sizeLine = 16777216 := sizeLine_eq
  exact decide_eq_false (by omega)
theorem menu_at {ns : List Int} {i : Int} (h0 : 0 ≤ i) (h1 : i < ns.length) : atI (ns.map V.int) i = some (.int (ns.getD i.toNat 0)) := by
 obtain ⟨j, rfl⟩ := Int.eq_ofNat_of_zero_le h0
 refine atI_nat ?_
 have hj : j < ns.length := by omega
 rw [List.getElem?_map, List.getElem?_eq_getElem hj, Int.toNat_natCast, List.getD_eq_getElem?_getD, List.getElem?_eq_getElem hj]
 rfl
theorem item_at {α : Type} {l : List α} {i : Int} {c : α} (h0 : 0 ≤ i) (h : l[i.toNat]? = some c) : atI l i = some c := by
 obtain ⟨j, rfl⟩ := Int.eq_ofNat_of_zero_le h0
 exact atI_nat h
end L2
namespace L2
open PySem PySem.Spec PyProof.Rows
def tCut (t u : TS) : TS := fun D σ H => ∃ W : St → Hp → Prop, t { D with nx := W } σ H ∧ ∀ σ' H', W σ' H' → u D σ' H'
theorem pss_cut {X : Cx} {st : Stmt} {rest : List Stmt} {t u : TS} (h1 : PS X st t) (h2 : PSs X rest u) : PSs X (st :: rest) (tCut t u) := by
 intro pins s σ H D I h
 obtain ⟨W, hW, k⟩ := h
 refine wpAny_execs_cons (thn (h1 pins s σ H { D with nx := W } I hW) fun f s1 q => ?_)
 cases f with
 | next =>
  obtain ⟨σ', H', I', q⟩ := q
  exact h2 pins s1 σ' H' D I' (k σ' H' q)
 | ret v => exact q
 | brk => exact q
 | cont => exact q
theorem sIx_to {n i d : Nat} (h : i ≤ n) : HT.sIx n d (some (i : Int)) = i := by
 unfold HT.sIx
 simp only
 rw [if_neg (by omega)]
 simp
 omega
theorem cut_from {xs : List V} {i : Nat} (h : i ≤ xs.length) : cutV xs (some (i : Int)) none = xs.drop i := by
 have e1 : HT.sIx xs.length xs.length none = xs.length := rfl
 unfold cutV
 rw [e1, sIx_to h]
 exact List.take_of_length_le (by rw [List.length_drop]; omega)
structure XCls (K : PySem.W.Frag) (mg : Str → Option Value) (x : Str) (C : Addr) (bm : List Value) : Prop where
 bound : mg x = some (.ref C)
 look : ∃ nm q N bs hdct sn sub ab col dd k0 k1 k2 k3 k5, K.lookup C = some (excClassObj nm q C N bs bm hdct sn sub ab col dd k0 k1 k2 k3 k5 "ValueError.__new__") ∧
  PySem.W.nsOkIn K N = true ∧ PySem.W.nsIn K N "__init__" = some none
 tail : PySem.W.tailIn K [.type "ValueError", .type "Exception", .type "BaseException", .type "object"] bm = true
def mroX (K : PySem.W.Frag) (C : Addr) : List Value := match K.lookup C with
 | some ⟨_, _, .cls cd, _⟩ => cd.mro.tail
 | _ => []
theorem xcls_mk {K : PySem.W.Frag} {mg : Str → Option Value} {x : Str} {C : Addr} (hb : mg x = some (.ref C)) (hq : PySem.W.excIn K C [.type "ValueError", .type "Exception", .type "BaseException", .type "object"] "ValueError.__new__" = true) : XCls K mg x C (mroX K C) := by
 unfold PySem.W.excIn at hq
 cases hl : K.lookup C with
 | none => rw [hl] at hq; cases hq
 | some o =>
  rw [hl] at hq
  split at hq
  ·rename_i dd cd sl e0
   injection e0 with e1
   subst e1
   split at hq
   ·rename_i C1 bm k0 k1 k2 k3 n k5 e2 e3
    rw [Bool.and_eq_true, Bool.and_eq_true, Bool.and_eq_true, Bool.and_eq_true, Bool.and_eq_true] at hq
    obtain ⟨⟨⟨⟨⟨q1, q2⟩, q3⟩, q4⟩, q5⟩, q6⟩ := hq
    have r1 := beq_iff_eq.mp q1
    have r2 := beq_iff_eq.mp q2
    have r6 := beq_iff_eq.mp q6
    subst r1
    subst r2
    obtain ⟨f1, f2, f3, f4, f5, f6, f7, f8, f9, f10, f11⟩ := cd
    have em : mroX K C1 = bm := by
     unfold mroX
     rw [hl]
     show List.tail f3 = bm
     have e2' : f3 = Value.ref C1 :: bm := e2
     rw [e2']
     rfl
    rw [em]
    have e2' : f3 = Value.ref C1 :: bm := e2
    have q3' : f11 = false := by simpa using q3
    subst e2'
    subst q3'
    obtain ⟨l⟩ := sl
    have e3' : l = [k0, k1, k2, k3, some (.builtin "ValueError.__new__"), k5] := e3
    subst e3'
    exact ⟨hb, ⟨f1, f5, f4, f2, f6, f7, f8, f9, f10, dd, k0, k1, k2, k3, k5, hl, q5, r6⟩, q4⟩
   ·cases hq
  ·cases hq
theorem XCls.at {K : PySem.W.Frag} {mg : Str → Option Value} {x : Str} {C : Addr} {bm : List Value} {h : Heap} (c : XCls K mg x C bm) (X : K.In h) : ∃ N nm q bs hdct sn sub ab col dd k0 k1 k2 k3 k5 mN,
  h.get? C = some (excClassObj nm q C N bs bm hdct sn sub ab col dd k0 k1 k2 k3 k5 "ValueError.__new__") ∧ h.Ns N mN ∧ mN "__init__" = none ∧ OwnTail h [.type "ValueError", .type "Exception", .type "BaseException", .type "object"] bm := by
 obtain ⟨nm, q, N, bs, hdct, sn, sub, ab, col, dd, k0, k1, k2, k3, k5, hl, h1, h2⟩ := c.look
 exact ⟨N, nm, q, bs, hdct, sn, sub, ab, col, dd, k0, k1, k2, k3, k5, _, X _ _ hl, .of_isNs (PySem.W.isNs_of_in X h1), PySem.W.nsMap_none_of_in X h1 h2, PySem.W.tail_of_in X c.tail⟩
def CXx (P : Program) (w : World) : CXT := fun outer H s E e s' => ∃ (ea : Addr) (cls a0 : Value) (H' : Hp) (B : Heap), e = .ref ea ∧ s'.os = s.os ∧ AllBare s'.gens ∧ Un (frs outer) [] H H' s.heap s'.heap ∧ HOk P w H' s'.heap ∧
 Heap.FlyingW B outer ea cls a0 s'.heap ∧ (∀ b u, H' b = some u → ∃ o, B.get? b = some o) ∧ (∀ b o, s.heap.get? b = some o → H b = none → b ∉ frs outer → B.get? b = some o) ∧
 (∀ b o, s.heap.get? b = some o → b ∉ frs outer → ∃ o', B.get? b = some o') ∧ E cls none H'
theorem HOk.stays {P : Program} {w : World} {H : Hp} {h h' B : Heap} (x : HOk P w H h) (hB : ∀ b u, H b = some u → ∃ o, B.get? b = some o) (h1 : B.StaysIn h) (h2 : B.StaysIn h') : HOk P w H h' := fun a o e => by
 have key : ∀ b u, H b = some u → ∀ v, h.get? b = some v → h'.get? b = some v := fun b u q v hv => by
  obtain ⟨o', ho⟩ := hB b u q
  have e1 := h1 b o' ho
  rw [hv] at e1
  cases e1
  exact h2 b v ho
 refine (x a o e).stay (fun b v hb q => ?_) (fun _ q => q) fun _ _ q => q
 rcases hb with z | z
 ·subst z
  exact key b o e v q
 ·exact key b _ z v q
theorem frs_cons {env : Env} {L : Addr} {l : List Env} (h : env.frame = some L) : frs (env :: l) = L :: frs l := by
 unfold frs
 rw [List.filterMap_cons, h]
theorem ObjOk.there {P : Program} {w : World} {H : Hp} {h : Heap} {a : Addr} {o : HO} (x : ObjOk P w H h a o) : ∃ u, h.get? a = some u := by
 cases o with
 | lst xs => obtain ⟨_, _, _, _, e⟩ := x; exact ⟨_, e⟩
 | tup xs => obtain ⟨_, _, _, ⟨_, e, _⟩, _⟩ := x; exact ⟨_, e⟩
 | dK kvs => obtain ⟨_, _, _, _, o, _, _, e, _⟩ := x; exact ⟨_, e⟩
 | dT kvs => obtain ⟨_, _, _, _, o, _, _, e, _⟩ := x; exact ⟨_, e⟩
 | set S n => obtain ⟨o, _, _, _, e, _⟩ := x; exact ⟨_, e⟩
 | ins C dx fs => obtain ⟨_, _, _, e, _⟩ := x; exact ⟨_, e⟩
 | own y => exact x
 | xd fs => obtain ⟨_, ⟨_, _, _, e, _⟩, _⟩ := x; exact ⟨_, e⟩
 | rng lo hi => obtain ⟨_, _, _, e⟩ := x; exact ⟨_, e⟩
 | frz ob u => obtain ⟨e, _⟩ := x; exact ⟨_, e⟩
 | tbl ps => exact ⟨_, show h.get? a = some _ from x⟩
 | met f y => exact ⟨_, show h.get? a = some _ from x⟩
 | ext φ => obtain ⟨_, e, _⟩ := x; exact e
structure Lv (X : Cx) (E : XK) : Prop where
 ex : X.ex = []
 stk : X.stack = X.env :: X.outer
 fr : X.env.frame = some X.env.locals
 xe : ∀ e s', wpAny (model X.prog X.w) X.A (leaving X.env e) (fun _ s'' => CXx X.prog X.w X.outer X.H₀ X.s₀ E e s'') (fun e' s'' => CXx X.prog X.w X.outer X.H₀ X.s₀ E e' s'') s' → X.xe e s'
section
variable {X : Cx} {E : XK} {pins : List (Addr × Obj)} {σ : St} {H : Hp} {s : Shared}
theorem Lv.frs (L : Lv X E) : frs X.stack = X.env.locals :: X.fs := by rw [L.stk]; exact frs_cons L.fr
theorem Lv.old (L : Lv X E) (I : Inv X pins σ H s) {b : Addr} {o : Obj} (q : X.s₀.heap.get? b = some o) (hb : b ∉ X.fs) : b ∉ L2.frs X.stack := by
 rw [L.frs, List.mem_cons]
 rintro (z | z)
 ·exact absurd (Nat.lt_of_lt_of_le (Heap.lt_size q) (z ▸ I.ok.above)) (Nat.lt_irrefl _)
 ·exact hb z
theorem Lv.noex (L : Lv X E) (b : Addr) : b ∉ X.ex := by rw [L.ex]; simp
theorem Lv.raised (L : Lv X E) (I : Inv X pins σ H s) {h1 : Heap} {e C : Addr} {args : List Value} (hx : Heap.MadeExcOf s.heap h1 e (.ref C) args) (hE : E (.ref C) none H) : X.xe (.ref e) { s with heap := h1 } := by
 have hin : ∀ env ∈ X.stack, ∀ b, env.frame = some b → b ∈ L2.frs X.stack := fun env he b hb => List.mem_filterMap.mpr ⟨env, he, hb⟩
 have fB : s.heap.FunFrames (PySem.W.hideAll s.heap (L2.frs X.stack)) X.stack := PySem.W.funFrames_hide I.stack hin
 have kB : ∀ b o, s.heap.get? b = some o → b ∉ L2.frs X.stack → (PySem.W.hideAll s.heap (L2.frs X.stack)).get? b = some o := fun b o q n => PySem.W.hideAll_get _ q n
 rw [L.stk] at fB
 refine L.xe _ _ (wpAny_leaves_madeW (base := PySem.W.hideAll s.heap (L2.frs X.stack)) (h := s.heap) (by rw [← L.stk]; exact I.ok.frames) L.fr (fun b o q => PySem.W.of_hideAll _ q) (by rw [L.stk]; exact fB) hx fun h2 t fl tup bt up => ?_)
 have c1 : ∀ b u, H b = some u → ∃ o, (PySem.W.hideAll s.heap (L2.frs X.stack)).get? b = some o := fun b u q => by
  obtain ⟨o, ho⟩ := (I.hok b u q).there
  exact ⟨o, kB b o ho fun z => by rw [I.stkFree b z] at q; cases q⟩
 have c2 : ∀ b o, X.s₀.heap.get? b = some o → X.H₀ b = none → b ∉ L2.frs X.outer → (PySem.W.hideAll s.heap (L2.frs X.stack)).get? b = some o := fun b o q n hb => kB b o (I.base.keep b o q n hb (L.noex b)) (L.old I q hb)
 have c3 : ∀ b o, X.s₀.heap.get? b = some o → b ∉ L2.frs X.outer → ∃ o', (PySem.W.hideAll s.heap (L2.frs X.stack)).get? b = some o' := fun b o q hb => by
  obtain ⟨o', q1⟩ := I.base.there b o q (L.noex b)
  exact ⟨o', kB b o' q1 (L.old I q hb)⟩
 have fr : ∀ b ∈ L2.frs X.outer, ∀ o, s.heap.get? b = some o → ∃ sl, h2.get? b = some { o with slots := sl } := fun b hb o q => by
  obtain ⟨_, o', ho, hd⟩ := I.stack.mem (b := b) (by show b ∈ L2.frs X.stack; rw [L.frs]; exact List.mem_cons_of_mem _ hb)
  rw [q] at ho
  cases ho
  exact up b o (hx.keeps b o q) hd
 refine ⟨e, .ref C, .ref t, H, _, rfl, I.os, I.bare, ⟨fun b o q n hb _ => fl.1 b o (c2 b o q n hb), fun b o q n hb _ => ?_, fun b o q n _ => I.base.free b o q n (L.noex b), fun b o q _ => ?_, I.base.tups, I.base.frzs, I.base.tbls⟩,
  I.hok.stays c1 (fun b o q => PySem.W.of_hideAll _ q) fl.1, fl, c1, c2, c3, hE⟩
 ·obtain ⟨sl, q1⟩ := I.base.slot b o q n hb (L.noex b)
  obtain ⟨sl', q2⟩ := fr b hb _ q1
  exact ⟨sl', q2⟩
 ·by_cases hb : b ∈ L2.frs X.outer
  ·obtain ⟨o', q1⟩ := I.base.there b o q (L.noex b)
   obtain ⟨sl', q2⟩ := fr b hb _ q1
   exact ⟨_, q2⟩
  ·obtain ⟨o', q1⟩ := c3 b o q hb
   exact ⟨o', fl.1 b o' q1⟩
def tRaise (E : XK) (C : Addr) (t : TA) : TS := fun D σ H => t σ H fun vs H1 => vs.length ≤ sizeLine ∧ E (.ref C) none H1
theorem ps_raise {x : Str} {C : Addr} {bm : List Value} {e₀ : Expr} {es : List Expr} {t : TA} {np cpos pos : Pos} (L : Lv X E) (c : XCls X.K X.mg x C bm) (hcalm : X.calm = true) (ha : PA X (e₀ :: es) t) (hg : Gl X x := by rfl) (hd : (x == ("__debug__" : Str)) = false := by decide)
  (he : starEach (e₀ :: es) X.env = (false, eval e₀ X.env) :: starEach es X.env := by rfl) (hpl : (backTo cpos (starEach es X.env)).any (·.1) = false := by rfl) :
  PS X (.Raise (some (.Call (.Name x np) (e₀ :: es) [] cpos)) none pos) (tRaise E C t) := by
 intro pins s σ H D I h
 obtain ⟨N, nm, q, bs, hdct, sn, sub, ab, col, dd, k0, k1, k2, k3, k5, mN, hC, hN, hni, T⟩ := c.at I.mod.kin
 have hpl' : (backTo cpos (starEach (e₀ :: es) X.env)).any (·.1) = false := by
  rw [he]
  exact hpl
 refine wpAny_Raise_call_subU (C := C) (nm := nm) (q := q) (N := N) (bs := bs) (bm := bm) (hdct := hdct) (sn := sn) (sub := sub) (ab := ab) (col := col) (dd := dd) (k0 := k0) (k1 := k1) (k2 := k2) (k3 := k3) (k5 := k5)
  PySem.F.excBase_ValueError (by decide) PySem.F.excBase_ValueError (mN := mN) (T.hasType PySem.F.excBase_ValueError.hasBase) (I.ok.hd hcalm) hpl' hni (ld_glob I hg c.bound ⟨rfl, ?_⟩ hd)
 have hs := ha cpos pins s σ H _ I h
 rw [he] at hs ⊢
 refine Calls.evalArgs_plain (wpAny_mono hs (fun us s2 ⟨vs, H2, I2, r, hl, hE⟩ => ⟨rfl, ?_, ?_⟩) fun _ _ y => y)
 ·rw [← r.length]
  exact hl
 ·obtain ⟨N', nm', q', bs', hdct', sn', sub', ab', col', dd', k0', k1', k2', k3', k5', mN', hC', _⟩ := c.at I2.kIn
  exact ⟨I2.bk _ _ hC, hN.keeps I2.bk, T.keeps I2.bk, fun h1 e hm => L.raised I2 hm hE⟩
theorem PS.nox {st : Stmt} {t : TS} (h : PS X.nox st t) : PS X st t := fun pins s σ H D I hw =>
 wpAny_mono (h pins s σ H D (I.wish _) hw) (fun _ _ q => q.unwish) fun _ _ z => False.elim z
end
theorem Fun.okX {P : Program} {w : World} {K : PySem.W.Frag} {mg : Str → Option Value} {base : Heap} {x qual : Str} {st : Stmt} {f : Addr} {fd : FuncData} {N ps : List Str} {k : Nat} {sp : Sp} (F : Fun K x qual st f fd) (S : FnScope N ps (defScope st)) (len : ∀ vs H Q E, sp vs H Q E → vs.length = ps.length)
  (hbody : ∀ (X : Cx) (vs : List V) (H : Hp) (Q : VK) (E : XK) (cdv : Value) (A : Around) (outer : List Env) (s : Shared), X = cxOf (CXx P w) P w K mg base N qual (defScope st) f cdv A outer s H E → Lv X E → Room k X.A → sp vs H Q E →
   ∃ t, PSs (cxOf (CXx P w) P w K mg base N qual (defScope st) f cdv A outer s H E) (defBody st) t ∧ t { nx := fun _ H' => Q .non H', rt := Q } (start N vs) H) : FnOk P w K mg base (CXx P w) (k + 1) f fd ps sp := by
 obtain ⟨oc, od, kV, doc, pm, an, cdv, ct, osl, rfl, lk, hcd⟩ := F.ex
 refine fn_of lk hcd S len fun A outer s H vs Q E hr hsp => ?_
 exact hbody _ vs H Q E cdv A outer s rfl ⟨rfl, rfl, rfl, fun _ _ h => h⟩ hr hsp
structure FOkX (P : Program) (w : World) (K : PySem.W.Frag) (mg : Str → Option Value) (base : Heap) (k : Nat) (name : Str) (ps : List Str) (sp : Sp) : Prop where
 ex : ∃ f fd, FnOk P w K mg base (CXx P w) k f fd ps sp ∧ Binds K fd ps [] ∧ mg name = some (.ref f) ∧ PySem.W.keepIn K (.ref f) = true
theorem FOkX.mono {P : Program} {w : World} {K : PySem.W.Frag} {mg : Str → Option Value} {base : Heap} {name : Str} {ps : List Str} {j k : Nat} {sp : Sp} (G : FOkX P w K mg base j name ps sp) (h : j ≤ k) : FOkX P w K mg base k name ps sp := by
 obtain ⟨f, fd, F, r⟩ := G.ex
 exact ⟨f, fd, F.mono h, r⟩
theorem HasDef.okX {P : Program} {w : World} {K : PySem.W.Frag} {mg : Str → Option Value} {base : Heap} {name : Str} {st : Stmt} {N ps : List Str} {k : Nat} {sp : Sp} (D : HasDef K mg name st ps) (S : FnScope N ps (defScope st)) (len : ∀ vs H Q E, sp vs H Q E → vs.length = ps.length)
  (hbody : ∀ (f : Addr) (cdv : Value) (A : Around) (outer : List Env) (s : Shared) (vs : List V) (H : Hp) (Q : VK) (E : XK), Lv (cxOf (CXx P w) P w K mg base N name (defScope st) f cdv A outer s H E) E → Room k (A.deeper (envOfC name (defScope st) s.heap.objs.size f cdv)) → sp vs H Q E →
   ∃ t, PSs (cxOf (CXx P w) P w K mg base N name (defScope st) f cdv A outer s H E) (defBody st) t ∧ t { nx := fun _ H' => Q .non H', rt := Q } (start N vs) H) : FOkX P w K mg base (k + 1) name ps sp := by
 obtain ⟨f, fd, F, b, m⟩ := D.ex
 refine ⟨f, fd, F.okX S len fun X vs H Q E cdv A outer s e l r h => ?_, b, m, F.kp⟩
 subst e
 exact hbody f cdv A outer s vs H Q E l r h
section
variable {X : Cx} {pins : List (Addr × Obj)} {σ : St} {H : Hp} {s : Shared}
theorem name_gone {M : Model} {A : Around} {E : Value → Shared → Prop} {i : Nat} {n : Str} {pos : Pos} {Q : Unit → Shared → Prop} (I : Inv X pins σ H s) (hN : X.N.Nodup) (hi : X.N[i]? = some n) (hk : X.env.scope.names.lookup n = some .local)
  (h : ∀ s', Inv X pins (σ.set i none) H s' → Q () s') : wpAny M A (do bindName X.env n .none; unbindBehindTheSuite X.env n pos) Q E s := by
 obtain ⟨m, hn, hl⟩ := id I.loc
 obtain ⟨oL, _, _, hoL, _⟩ := id hn
 have hc : (X.env.scope.kind == .class || (X.env.scope.kind == .module && X.env.locals != X.env.globals)) = false := by rw [I.ok.kind]; rfl
 refine wpAny_nameGoes_keeps hk hn hc fun h' v hn' hs => ?_
 have ne : ∀ b o, X.s₀.heap.get? b = some o → b ≠ X.env.locals := fun b o e => Nat.ne_of_lt (Nat.lt_of_lt_of_le (Heap.lt_size e) I.ok.above)
 refine h _ ⟨I.ok, I.os, I.bare, ⟨fun b o e n hb hx => (hs.2 b (ne b o e)).trans (I.base.keep b o e n hb hx), fun b o e n hb hx => ?_, I.base.free, fun b o e hx => ?_, I.base.tups, I.base.frzs, I.base.tbls⟩, ⟨_, hn', fun j y v' e1 e2 e3 => ?_⟩, fun y c e => ?_, I.free, I.freeC, fun p hp => ?_, fun b ob e => ?_, by simpa using I.len⟩
 ·obtain ⟨sl, e1⟩ := I.base.slot b o e n hb hx
  exact ⟨sl, (hs.2 b (ne b o e)).trans e1⟩
 ·obtain ⟨o', e1⟩ := I.base.there b o e hx
  exact ⟨o', (hs.2 b (ne b o e)).trans e1⟩
 ·have hj : j ≠ i := by
   rintro rfl
   have hiσ : j < σ.length := by rw [I.len]; exact (List.getElem?_eq_some_iff.mp hi).1
   rw [List.getElem?_set_self hiσ] at e2
   cases e2
  rw [List.getElem?_set_ne (Ne.symm hj)] at e2
  obtain ⟨u', r', q⟩ := hl j y v' e1 e2 e3
  refine ⟨u', r', ?_⟩
  rcases q with ⟨k, e⟩ | ⟨k, c, e, z⟩
  ·have hy : y ≠ n := fun z => hj (nodup_ix hN e1 (z ▸ hi))
   exact .inl ⟨k, (if_neg hy).trans e⟩
  ·exact .inr ⟨k, c, e, z.sameBut hs (I.cne y c e)⟩
 ·obtain ⟨w', z⟩ := I.cell y c e
  exact ⟨w', z.sameBut hs (I.cne y c e)⟩
 ·obtain ⟨e, n, ne, nf, d⟩ := I.pin p hp
  exact ⟨(hs.2 p.1 ne).trans e, n, ne, nf, d⟩
 ·refine (I.hok b ob e).stay (fun c w' hc q => (hs.2 c fun z => ?_).trans q) (fun _ q => q) fun _ _ q => q
  subst z
  rcases hc with z | z
  ·rw [← z, I.free] at e; cases e
  ·rw [I.free] at z; cases z
abbrev Cx.caught (X : Cx) (ea : Addr) (pn : List (Addr × Obj)) : Cx := { X with A := X.A.mark (some (.ref ea)), calm := false, pn := pn, xe := fun _ _ => False }
theorem Inv.caught (I : Inv X pins σ H s) {ea : Addr} {oe : Obj} (h1 : s.heap.get? ea = some oe) (h2 : H ea = none) (h3 : ea ≠ X.env.locals) (h4 : ea ∉ X.fs) (h5 : ∀ v, oe.data ≠ .cell v) : Inv (X.caught ea (X.pn ++ pins ++ [(ea, oe)])) [] σ H s :=
 ⟨⟨I.ok.mod, I.ok.kind, I.ok.glob, I.ok.blt, I.ok.above, I.ok.inj, I.ok.has, I.ok.cab, fun z => (Bool.false_ne_true z).elim, I.ok.frames, I.ok.stk, I.ok.exf, I.ok.bs, I.ok.bsz, I.ok.noex, I.ok.exfs, I.ok.funs, I.ok.frf⟩, I.os, I.bare, I.base, I.loc, I.cell, I.free, I.freeC, fun p hp => by
  have hp' : p ∈ X.pn ++ pins ++ [(ea, oe)] := by simpa using hp
  rcases List.mem_append.mp hp' with z | z
  ·exact I.pin p z
  ·rw [List.mem_singleton.mp z]
   exact ⟨h1, h2, h3, h4, h5⟩, I.hok, I.len⟩
theorem Inv.uncaught {pins' q : List (Addr × Obj)} {ea : Addr} (ok : X.Ok) (I : Inv (X.caught ea (X.pn ++ pins ++ q)) pins' σ H s) : Inv X pins σ H s :=
 ⟨ok, I.os, I.bare, I.base, I.loc, I.cell, I.free, I.freeC, fun p hp => I.pin p (List.mem_append_left _ (List.mem_append_left _ hp)), I.hok, I.len⟩
end
theorem excMatches_own {M : Model} {A : Around} {E : Value → Shared → Prop} {nm q nm2 q2 : Str} {C N C2 N2 : Addr} {bs bm bs2 bm2 : List Value} {hdct hdct2 : Bool} {sn sn2 : List Str} {sub sub2 : List Value} {ab ab2 : Bool} {col col2 : Option Bool} {dd dd2 : Option Addr} {k0 k1 k2 k3 k5 j0 j1 j2 j3 j5 : Option Value} {nw nw2 : String}
  {h : Heap} {g : Array GenState} {d : Drawn} {t : Nat} {os : OsState} {e : Addr} {oe : Obj} {Q : Bool → Shared → Prop} (hC : h.get? C = some (excClassObj nm q C N bs bm hdct sn sub ab col dd k0 k1 k2 k3 k5 nw)) (hC2 : h.get? C2 = some (excClassObj nm2 q2 C2 N2 bs2 bm2 hdct2 sn2 sub2 ab2 col2 dd2 j0 j1 j2 j3 j5 nw2))
  (he : h.get? e = some oe) (hcls : oe.cls = .ref C) (hb : bm2.contains (.type "BaseException") = true) (hs : bm.contains (.ref C2) = true) (hq : Q true ⟨h, g, d, t, os⟩) : wpAny M A (excMatches (.ref e) (.ref C2)) Q E ⟨h, g, d, t, os⟩ := by
 have g1 : (Value.ref C2 :: bm2).contains (.type "BaseException") = true := by rw [List.contains_cons, hb, Bool.or_true]
 have g2 : (Value.ref C :: bm).contains (.ref C2) = true := by rw [List.contains_cons, hs, Bool.or_true]
 have g3 := tc_notTuple
 unfold excMatches
 repeat (first
  | (with_reducible refine wpAny_loadPart_at he ?_; rw [hcls])
  | with_reducible refine wpAny_loadPart_at hC2 ?_
  | (with_reducible refine wpAny_isSubtype_exc hC2 ?_; rw [g1])
  | (with_reducible refine wpAny_isSubtype_exc hC ?_; rw [g2])
  | wp_step)
 exact hq
def goneD (D : Ends) (i : Nat) : Ends := { nx := fun σ H => D.nx (σ.set i none) H, rt := D.rt, bk := fun σ H => D.bk (σ.set i none) H, ct := fun σ H => D.ct (σ.set i none) H }
def tTry (K : PySem.W.Frag) (mg : Str → Option Value) (C2 : Addr) (sp : Sp) (t : TA) (i : Nat) (hs : Addr → Obj → TS) : TS := fun D σ H => t σ H fun vs H1 => sp vs H1 (fun _ H2 => D.nx σ H2)
 (fun cls _ H2 => (∃ y C bm, cls = .ref C ∧ XCls K mg y C bm ∧ bm.contains (.ref C2) = true) ∧ ∀ ea oe, oe.cls = cls → H2 ea = none → hs ea oe (goneD D i) (σ.set i (some (.ref ea))) H2)
theorem ps_try {X : Cx} {k : Nat} {name x n : Str} {ps : List Str} {sp : Sp} {p cpos spos np hpos pos : Pos} {e : Expr} {es : List Expr} {t : TA} {C2 : Addr} {bm2 : List Value} {b₀ : Stmt} {suite : List Stmt} {hs : Addr → Obj → TS} (i : Nat)
  (hcalm : X.calm = true) (hstk : X.stack = X.env :: X.outer) (hfr : X.env.frame = some X.env.locals) (G : FOkX X.prog X.w X.K X.mg X.base k name ps sp) (hr : Room k X.A) (c : XCls X.K X.mg x C2 bm2) (ha : ∀ E, PA (X.wish E) (e :: es) t)
  (hsuite : ∀ ea oe pn, (ea, oe) ∈ pn → PSs (X.caught ea pn) (b₀ :: suite) (hs ea oe)) (hN : X.N.Nodup) (hi : X.N[i]? = some n := by rfl) (hk : X.env.scope.names.lookup n = some .local := by rfl) (hg : Gl X name := by rfl) (hgx : Gl X x := by rfl)
  (hdb : (name == ("__debug__" : Str)) = false := by decide) (hdx : (x == ("__debug__" : Str)) = false := by decide) (he : starEach (e :: es) X.env = (false, eval e X.env) :: starEach es X.env := by rfl) (hpl : (backTo cpos (starEach es X.env)).any (·.1) = false := by rfl)
  (hsw : swapsWith (.Call (.Name name p) (e :: es) [] cpos) none spos.line X.env = pure false := by rfl) :
  PS X (.Try [.Expr (.Call (.Name name p) (e :: es) [] cpos) spos] [.ExceptHandler (some (.Name x np)) (some n) (b₀ :: suite) hpos] [] [] pos) (tTry X.K X.mg C2 sp t i hs) := by
 intro pins s σ H D I h
 obtain ⟨f, fd, F, b, hm, hkp⟩ := G.ex
 let E0 : Value → Shared → Prop := fun e s₁ => wpAny (model X.prog X.w) X.A (noteFrame e X.env) (fun _ s₂ => wpAny (model X.prog X.w) X.A (setFlight e none)
  (fun _ s₃ => wpAny (model X.prog X.w) X.A (handleBy e X.env [.ExceptHandler (some (.Name x np)) (some n) (b₀ :: suite) hpos]) (SP X pins D) X.xe s₃) X.xe s₂) X.xe s₁
 refine wpAny_Try_except (wpAny_execs_cons (wpAny_Expr_any ?_ I.quiet hsw))
 refine wpAny_Call_Name_kw (ld_glob I hg hm ?_ hdb)
 refine PySem.W.callWith_K (h₀ := X.base) I.ok.mod.kin hkp (thn (ha E0 cpos pins s σ H _ (I.wish E0) h) fun us s1 ⟨vs, H1, I1', r, q⟩ => ⟨I1'.unwish.kIn, ?_⟩) he hpl
 have I1 := I1'.unwish
 have hl : us.length = ps.length := by rw [← r.length]; exact F.len _ _ _ _ q
 have hb1 := b s1 us I1.kIn (by simpa using hl)
 rw [List.append_nil] at hb1
 refine wpAny_call (codeAny_mono (F.run X.A X.stack s1 H1 ⟨us, []⟩ us vs _ _ hr I1.env0 hb1 r q) fun rs s2 hq => ?_)
 cases rs with
 | ok fl =>
  cases fl with
  | ret u =>
   obtain ⟨v, H2, I2, rv, q2⟩ := I1.after hq
   exact wpAny_execs_nil (wpAny_execs_nil ⟨σ, H2, I2, q2⟩)
  | next => exact False.elim hq
  | brk => exact False.elim hq
  | cont => exact False.elim hq
 | error ev =>
  obtain ⟨ea, cls, a0, H', B, rfl, os, bare, un, hok, fl, c1, c2, c3, ⟨y, C, bm, rfl, cy, hsub⟩, hE⟩ := hq
  have fl0 : Heap.FlyingW B (X.env :: X.outer) ea (.ref C) a0 s2.heap := by rw [← hstk]; exact fl
  have nfr : ea ∉ L2.frs X.stack := fun hm => by
   obtain ⟨_, o, ho, hd⟩ := fl.2.2.1.mem hm
   obtain ⟨_, _, _, oe, vs', _, _, _, he', _, hd', _⟩ := fl
   rw [he'] at ho
   cases ho
   exact hd _ hd'
  have hfrs : L2.frs X.stack = X.env.locals :: X.fs := by rw [hstk]; exact frs_cons hfr
  have nloc : ea ≠ X.env.locals := fun z => nfr (by rw [hfrs, z]; exact List.mem_cons_self)
  have nfs : ea ∉ X.fs := fun z => nfr (by rw [hfrs]; exact List.mem_cons_of_mem _ z)
  have nH : H' ea = none := by
   cases q3 : H' ea with
   | none => rfl
   | some u =>
    obtain ⟨o, ho⟩ := c1 ea u q3
    rw [fl.2.1] at ho
    cases ho
  have key : ∀ (h9 : Heap) (tk : Nat), B.StaysIn h9 → s2.heap.UpToSlots h9 → Inv X pins σ H' { s2 with heap := h9, toks := tk } := fun h9 tk hB up => by
   refine I1.call' (ch := []) os ⟨fun b o q n hb _ => hB b o (c2 b o q n hb), fun b o q n hb _ => ?_, un.free, fun b o q _ => ?_, un.tups, un.frzs, un.tbls⟩ (hok.stays c1 fl.1 hB) bare (fun b z => nomatch z)
   ·obtain ⟨sl, q2⟩ := un.slot b o q n hb (by simp)
    obtain ⟨_, o', ho, hd⟩ := fl.2.2.1.mem (b := b) hb
    rw [q2] at ho
    cases ho
    obtain ⟨sl2, q3⟩ := up b _ q2 hd
    exact ⟨sl2, q3⟩
   ·by_cases hb : b ∈ L2.frs X.stack
    ·obtain ⟨_, o', ho, hd⟩ := fl.2.2.1.mem (b := b) hb
     obtain ⟨sl2, q3⟩ := up b _ ho hd
     exact ⟨_, q3⟩
    ·obtain ⟨o', q3⟩ := c3 b o q hb
     exact ⟨o', hB b o' q3⟩
  refine wpAny_looks_onW (by rw [← hstk]; exact I1.ok.frames) hfr fl0 fun h2 held up2 => wpAny_landsW held fun h3 fl3 up3 => ?_
  have up23 := up2.trans up3
  obtain ⟨oe3, ws3, he3, hcls3, hd3, _⟩ := fl3.first
  have I3 := key h3 s2.toks fl3.1 up23
  have J3 := I3.caught (oe := oe3) he3 nH nloc nfs (fun v z => by rw [hd3] at z; cases z)
  obtain ⟨N1, nm1, qn1, bs1, hdct1, sn1, sub1, ab1, col1, dd1, k01, k11, k21, k31, k51, mN1, hC1, _, _, T1⟩ := cy.at I3.kIn
  obtain ⟨N2, nm2, qn2, bs2, hdct2, sn2, sub2, ab2, col2, dd2, k02, k12, k22, k32, k52, mN2, hC2, _, _, T2⟩ := c.at I3.kIn
  refine wpAny_handleBy_cons (codeAny_handlers_test (ld_glob J3 hgx c.bound ?_ hdx)) (by intro z; cases z)
  refine excMatches_own hC1 hC2 he3 hcls3 (T2.hasType PySem.F.excBase_ValueError.hasBase) hsub ?_
  refine codeAny_handlers_suite_as (lands_againW fl3 fun h4 fl4 up4 => ?_)
  obtain ⟨oe4, ws4, he4, hcls4, hd4, _⟩ := fl4.first
  have I4 := key h4 s2.toks fl4.1 (up23.trans up4)
  have J4 := I4.caught (oe := oe4) he4 nH nloc nfs (fun v z => by rw [hd4] at z; cases z)
  refine store_ok (X := X.caught ea (X.pn ++ pins ++ [(ea, oe4)])) J4 hN hi (.inl hk) (v := .ref ea) rfl (fun s5 J5 => ?_) (.inr hk)
  refine wpAny_mono (hsuite ea oe4 _ (List.mem_append_right _ (List.mem_singleton.mpr rfl)) [] s5 _ H' (goneD D i) J5 (hE ea oe4 hcls4 nH)) (fun fl6 s6 q6 => ?_) (fun _ _ z => z.elim)
  cases fl6 with
  | next =>
   obtain ⟨σ6, H6, I6, q7⟩ := q6
   exact name_gone (I6.uncaught I.ok) hN hi hk fun s7 I7 => ⟨_, H6, I7, q7⟩
  | brk =>
   obtain ⟨σ6, H6, I6, q7⟩ := q6
   exact name_gone (I6.uncaught I.ok) hN hi hk fun s7 I7 => ⟨_, H6, I7, q7⟩
  | cont =>
   obtain ⟨σ6, H6, I6, q7⟩ := q6
   exact name_gone (I6.uncaught I.ok) hN hi hk fun s7 I7 => ⟨_, H6, I7, q7⟩
  | ret u =>
   obtain ⟨v6, σ6, H6, I6, r6, q7⟩ := q6
   exact name_gone (I6.uncaught I.ok) hN hi hk fun s7 I7 => ⟨v6, _, H6, I7, r6, q7⟩
end L2
namespace Srt
open PySem PySem.W PyProof.Rows
section
variable {n : Nat} {lt : Nat → Nat → Bool} {cmp : Nat → Nat → (Bool → Shared → Prop) → Shared → Prop} {G : Shared → Prop}
structure Ord (n : Nat) (lt : Nat → Nat → Bool) : Prop where
 tr : ∀ i j k, lt i j = true → lt j k = true → lt i k = true
 asy : ∀ i j, lt i j = true → lt j i = false
 tot : ∀ i j, i < n → j < n → i ≠ j → lt i j = true ∨ lt j i = true
structure Pm (n : Nat) (p : Array Nat) : Prop where
 size : p.size = n
 perm : p.Perm (List.range n).toArray
theorem Pm.below (h : Pm n p) {a : Nat} (ha : a < n) : p.getD a 0 < n := by
 have hs : a < p.size := by rw [h.size]; exact ha
 have hm : p[a] ∈ p := Array.getElem_mem hs
 have : p[a] ∈ (List.range n).toArray := h.perm.mem_iff.mp hm
 rw [Array.getD_eq_getD_getElem?, Array.getElem?_eq_getElem hs]
 simpa using this
theorem Pm.ne (h : Pm n p) {a b : Nat} (ha : a < n) (hb : b < n) (hab : a ≠ b) : p.getD a 0 ≠ p.getD b 0 := by
 have hs : a < p.size := by rw [h.size]; exact ha
 have hs2 : b < p.size := by rw [h.size]; exact hb
 have nd : p.toList.Nodup := by
  have := (Array.perm_iff_toList_perm.mp h.perm)
  exact this.nodup_iff.mpr (by simpa using List.nodup_range)
 rw [Array.getD_eq_getD_getElem?, Array.getElem?_eq_getElem hs, Array.getD_eq_getD_getElem?, Array.getElem?_eq_getElem hs2]
 intro e
 have := (List.getElem_inj (h₀ := by simpa using hs) (h₁ := by simpa using hs2) nd).mp (by simpa using e)
 exact hab this
def Up (lt : Nat → Nat → Bool) (p : Array Nat) (m : Nat) : Prop := ∀ a b, a < b → b < m → lt (p.getD a 0) (p.getD b 0) = true
variable (o : Ord n lt) (hc : ∀ i j C s, i < n → j < n → i ≠ j → G s → (∀ s', G s' → C (lt i j) s') → cmp i j C s)
include o hc
omit o hc in
omit o hc in
end
end Srt
namespace L2
open PySem PySem.Spec PyProof.Rows PySem.W
def PrIn (h : Heap) (v : Value) (x : Str) : Prop := ∃ a t y, v = .ref a ∧ h.get? a = some { cls := .type "tuple", data := .seq #[.str x t, y] }
def ltX (xs : List Str) (i j : Nat) : Bool := decide ((xs.getD i "").cps.toList < (xs.getD j "").cps.toList)
theorem getD_at {xs : List Str} {i : Nat} (h : i < xs.length) : xs.getD i "" = xs[i] := by
 rw [List.getD_eq_getElem?_getD, List.getElem?_eq_getElem h]
 rfl
section
variable {prog : Program} {w : World} {A : Around} {E : Value → Shared → Prop} {s : Shared}
end
theorem ObjOk.there' {P : Program} {w : World} {H : Hp} {h : Heap} {a : Addr} {o : HO} (x : ObjOk P w H h a o) : ∃ u, h.get? a = some u := by
 cases o with
 | lst xs => obtain ⟨_, _, _, _, e⟩ := x; exact ⟨_, e⟩
 | tup xs => obtain ⟨_, _, _, ⟨_, e, _⟩, _⟩ := x; exact ⟨_, e⟩
 | dK kvs => obtain ⟨_, _, _, _, o, _, _, e, _⟩ := x; exact ⟨_, e⟩
 | dT kvs => obtain ⟨_, _, _, _, o, _, _, e, _⟩ := x; exact ⟨_, e⟩
 | set S n => obtain ⟨o, _, _, _, e, _⟩ := x; exact ⟨_, e⟩
 | ins C dx fs => obtain ⟨_, _, _, e, _⟩ := x; exact ⟨_, e⟩
 | own y => exact x
 | xd fs => obtain ⟨_, ⟨_, _, _, e, _⟩, _⟩ := x; exact ⟨_, e⟩
 | rng lo hi => obtain ⟨_, _, _, e⟩ := x; exact ⟨_, e⟩
 | frz ob u => obtain ⟨e, _⟩ := x; exact ⟨_, e⟩
 | tbl ps => exact ⟨_, show h.get? a = some _ from x⟩
 | met f y => exact ⟨_, show h.get? a = some _ from x⟩
 | ext φ => obtain ⟨_, e, _⟩ := x; exact e
section
variable {X : Cx} {pins : List (Addr × Obj)} {σ : St} {H : Hp} {s : Shared}
theorem Inv.laidN {N : Addr → Option HO} {h1 : Heap} {tk : Nat} (I : Inv X pins σ H s) (k : ∀ b u, s.heap.get? b = some u → h1.get? b = some u) (hN : ∀ a o, N a = some o → s.heap.get? a = none ∧ ∀ H2, ObjOk X.prog X.w H2 h1 a o) :
  Inv X pins σ (fun b => (N b).or (H b)) { s with heap := h1, toks := tk } := by
 have low : ∀ b u, s.heap.get? b = some u → N b = none := fun b u hb => by
  cases q : N b with
  | none => rfl
  | some o => rw [(hN b o q).1] at hb; cases hb
 have old : ∀ b u, H b = some u → (N b).or (H b) = some u := fun b u q => by
  obtain ⟨v, hv⟩ := (I.hok b u q).there'
  rw [low b v hv, Option.none_or]
  exact q
 refine I.un ⟨fun b o q _ _ _ => k b o q, fun b o q _ _ _ => ⟨o.slots, k b o q⟩, fun b o q n _ => ?_, fun b o q _ => ⟨o, k b o q⟩, fun b xs q => old b _ q, fun b o u q => old b _ q, fun b ps q => ⟨#[], by rw [old b _ q]; simp⟩⟩ fun a o q => ?_
 ·show (N b).or (H b) = none
  rw [low b o q, Option.none_or]
  exact n
 ·cases e : N a with
  | some u =>
   rw [e, Option.some_or] at q
   cases q
   exact (hN a o e).2 _
  | none =>
   rw [e, Option.none_or] at q
   exact (I.hok a o q).stay (fun b u _ z => k b u z) (fun b z => old b _ z) fun b xs z => old b _ z
end
def ivO (p d : Addr) : HO := .ext fun h => h.IsItemsView p d
theorem mt_items {X : Cx} : MtR X "dict.items" (fun x vs H Q => ∃ d kvs, x = .ref d ∧ vs = [] ∧ H d = some (.dK kvs) ∧ ∀ p, H p = none → Q (.ref p) (upd H p (ivO p d))) := by
 intro pins s σ H x vs v us Q I rx rv h
 obtain ⟨d, kvs, rfl, rfl, hd, q⟩ := h
 cases rx
 cases rv
 obtain ⟨hz, lo, vs', kv, dd⟩ := dk_of I.hok hd
 refine call_meetsIn PySem.F.slot_dict_items dd.typeIs PySem.F.entry_dict_items (PySem.F.args_dict_items_1 _) (meets_dict_items (mixKind X.prog X.w) d lo) ⟨⟨_, dd⟩, ?_⟩
 refine ⟨.ref s.heap.objs.size, _, I.laid (t' := s.toks) (o := ivO s.heap.objs.size d) (fun b u e => Heap.get?_push_of_some _ e) (Nat.le_refl _) ?_, rfl, q _ (I.hok.fresh (Nat.le_refl _))⟩
 refine ⟨⟨_, Heap.get?_push_size _ rfl, rfl, rfl⟩, ⟨_, Heap.get?_push_size _ rfl⟩, fun h1 h2 ⟨o, e, r⟩ k => ⟨o, k o e, r⟩⟩
theorem perm_getD (ks : List Str) (p : Array Nat) (hp : Srt.Pm ks.length p) : (p.toList.map fun i => ks.getD i "").Perm ks := by
 have h1 := (Array.perm_iff_toList_perm.mp hp.perm).map fun i => ks.getD i ""
 have h2 : ((List.range ks.length).toArray.toList.map fun i => ks.getD i "") = ks := by
  apply List.ext_getElem?
  intro i
  simp only [List.getElem?_map]
  by_cases hi : i < ks.length
  ·rw [List.getElem?_range hi, List.getElem?_eq_getElem hi, Option.map_some, getD_at hi]
  ·rw [List.getElem?_eq_none (by simp; omega), List.getElem?_eq_none (by omega)]
   rfl
 rw [h2] at h1
 exact h1
def tItems (td : TE) : TE := fun σ H Q => td σ H fun x H1 => ∃ d kvs, x = .ref d ∧ H1 d = some (.dK kvs) ∧ ∀ p, H1 p = none → Q (.ref p) (upd H1 p (ivO p d))
theorem pe_items {X : Cx} {o : Expr} {apos cpos : Pos} {td : TE} (ho : PE X o td) (hbase : attributeBase o "items" X.env (eval o X.env) = eval o X.env := by rfl) (hline : (apos.endLine == cpos.line) = true := by rfl) :
  PE X (.Call (.Attribute o "items" apos) [] [] cpos) (tItems td) := by
 intro pins s σ H Q I h
 refine wpAny_Call_method0_late hbase hline (thn (ho pins s σ H _ I h) fun v s1 ⟨x, H1, I1, r1, d, kvs, ex, hd, q1⟩ => ?_)
 subst ex
 obtain rfl : v = Value.ref d := r1
 obtain ⟨t1, t2, _⟩ := isD_at I1 (.inl ⟨kvs, .inl hd⟩)
 exact ⟨"dict", _, PySem.F.plainAttrs_dict, PySem.F.slot_dict_items, PySem.F.type_dict_items, t1, t2, Calls.callWith_builtin rfl (PySem.evalArgs_none (mt_items pins s1 σ H1 (.ref d) [] (.ref d) [] Q I1 rfl .nil ⟨d, kvs, rfl, rfl, hd, q1⟩))⟩
structure XAttr (K : PySem.W.Frag) (C : Addr) : Prop where
 ga : findIn K (.ref C) "__getattribute__" = some (some (.builtin "BaseException.__getattribute__"))
 gx : findIn K (.ref C) "__getattr__" = some none
 gc : findIn K (.ref C) "__class__" = some (some (.builtin "object.__class__"))
 sp : specialIn K (.builtin "object.__class__") "__get__" = some (some (.builtin "getset_descriptor.__get__"))
 tk : takesIn K (.builtin "object.__class__") = some true
 mo : mroIn K C (.type "object") = some true
 mb : mroIn K C (.type "BaseException") = some true
 cl : (clsIn K C).isSome = true
section
variable {prog : Program} {w : World} {A : Around} {E : Value → Shared → Prop} {s : Shared} {K : Frag} {a C : Addr} {o : Obj}
def ExAt (h : Heap) (a C : Addr) : Prop := ∃ o, h.get? a = some o ∧ o.cls = .ref C
theorem ExAt.type {M : Model} {h : Heap} (x : ExAt h a C) : Looks M h (typeOf (.ref a)) (.ref C) := by
 obtain ⟨o, h1, h2⟩ := x
 exact h2 ▸ (Looks.ld h1).andThen .now
theorem exc_find {M : Model} {h : Heap} (T : XAttr K C) (X : K.In h) : Looks M h (Builtin.ObjectAttr.find (.ref a) (.ref C) "__class__") (.bind (.builtin "getset_descriptor.__get__") (.builtin "object.__class__")) := by
 have l1 := looks_findIn (M := M) X T.gc
 have l2 : Looks M h (Builtin.ObjectAttr.getOf (some (.builtin "object.__class__"))) (some (.builtin "getset_descriptor.__get__")) := looks_specialIn X T.sp
 have l3 := looks_takesIn (M := M) X T.tk
 have l4 : Looks M h (Builtin.ObjectAttr.dataDescriptor? (some (.builtin "object.__class__")) (some (.builtin "getset_descriptor.__get__"))) (some (.builtin "getset_descriptor.__get__", .builtin "object.__class__")) := l3.andThen .now
 exact l1.andThen (l2.andThen (l4.andThen (Looks.tag .now)))
theorem exc_class_get {tp : Value} {R : Result → Shared → Prop} (T : XAttr K C) (X : K.In s.heap) (x : ExAt s.heap a C) (h : R (.ok (.ret (.ref C))) s) :
  codeAny (model prog w) A (.call (.builtin "getset_descriptor.__get__") ⟨[.builtin "object.__class__", .ref a, tp], []⟩) R s := by
 obtain ⟨hh, g, dr, t, os⟩ := s
 have l0 := x.type (M := model prog w)
 have l1 := looks_mroIn (M := model prog w) X T.mo
 refine codeAny_call_builtin
  KF.slot_gs.plain
  KF.entry_gs
  (KF.slot_gs.check _ _ _ _ _ _ _ _
   KF.type_class (KF.args_gs _ _ _) ?_)
 unfold Builtin.«getset_descriptor.__get__»
 unfold PySem.Builtin.Getset_descriptor.descrGet
 rw [dga_obj]
 refine wpAny_bind (wpAny_pure ?_)
 unfold PySem.Builtin.Getset_descriptor.descrGetter
 unfold PySem.Builtin.Getset_descriptor.descrCheckInstance
 unfold PySem.Builtin.Getset_descriptor.descrNameAndClass
 unfold isInstance
 simp only [KF.owner_class]
 repeat lk
 refine ⟨Code.quiet_builtin _ (by decide +kernel), ?_⟩
 refine codeAny_builtin KF.entry_class ?_
 unfold Builtin.«object.__class__»
 unfold shownTypeOf
 repeat lk
 exact h
theorem exc_class {Q : Option Value → Shared → Prop} (T : XAttr K C) (X : K.In s.heap) (I : ExAt s.heap a C) (h : Q (some (.ref C)) { s with toks := s.toks + 1 }) : wpAny (model prog w) A (getAttr? (.ref a) "__class__") Q E s := by
 obtain ⟨hh, g, d, t, os⟩ := s
 have L0 := I.type (M := model prog w)
 have L1 := looks_findIn (M := model prog w) X T.ga
 have L2 := looks_findIn (M := model prog w) X T.gx
 have L3 := exc_find (M := model prog w) (a := a) T X
 have L4 := looks_mroIn (M := model prog w) X T.mb
 have hx : (onTheHeap (Value.ref C) && Value.builtin "BaseException.__getattribute__" == Value.builtin "object.__getattribute__") = false := by
  have : (Value.builtin "BaseException.__getattribute__" == Value.builtin "object.__getattribute__") = false := by decide +kernel
  rw [this]
  rfl
 unfold getAttr? getAttrBy? getAttrBy
 refine wpAny_bind (wpAny_mkText (wpAny_bind (wpAny_attempt (wpAny_holding (wpAny_bind (L0.at (wpAny_bind (L1.at ?_))))))))
 dsimp only
 rw [hx]
 simp only [Bool.false_eq_true, if_false]
 unfold getAttrByItsOwn hookBefore
 rw [show onTheHeap (Value.ref C) = true from rfl, if_pos rfl]
 refine wpAny_bind (L2.at ?_)
 refine wpAny_bind (wpAny_attempt (wpAny_holding ?_))
 unfold callGetattribute boundAndCalled
 simp only [Bool.false_and, Bool.false_eq_true, if_false]
 have FB := PySem.F.attrBase_ValueError
 rw [FB.ga.bind (.ref a)]
 refine wpAny_bind (wpAny_pure ?_)
 have hk : builtinKind "BaseException.__getattribute__" = some .slot := by decide +kernel
 have hsp : splitId "BaseException.__getattribute__" = some ("BaseException", "__getattribute__") := by decide +kernel
 have hargs := F.args_bexc_ga (.ref a) (.str "__class__" t)
 refine wpAny_call (codeAny_call_builtin FB.ga.plain F.entry_bexc_ga ?_)
 show wpAny _ _ (checkBuiltinCall "BaseException.__getattribute__" ⟨[.ref a, .str "__class__" t], []⟩) _ _ _
 simp only [checkBuiltinCall, hk, hsp]
 refine wpAny_bind ?_
 unfold isInstance
 refine wpAny_bind (L0.at (L4.at ?_))
 simp only [Bool.not_true, Bool.false_eq_true, if_false]
 refine wpAny_of_eq (a := ()) hargs ?_
 show wpAny _ _ (Builtin.«object.__getattribute__» ⟨[.ref a, .str "__class__" t], []⟩) _ _ _
 unfold Builtin.«object.__getattribute__»
 refine wpAny_bind (m := slotArgs _ _ _) (wpAny_pure ?_)
 dsimp only
 refine wpAny_bind (wpAny_pure ?_)
 refine wpAny_bind (L0.at (wpAny_bind (L3.at ?_)))
 show wpAny _ _ (holding [Value.builtin "object.__class__"] (call (.builtin "getset_descriptor.__get__") [.builtin "object.__class__", .ref a, .ref C]) >>= ret) _ _ _
 refine wpAny_bind (wpAny_holding (wpAny_call (exc_class_get (s := { heap := hh, gens := g, drawn := d, toks := t + 1, os := os }) T X I ?_)))
 exact wpAny_pure (handed_on rfl (wpAny_pure h))
theorem kitx_exc (T : XAttr K C) : KitX K (.ref a) (.ref C) (fun h => ExAt h a C) where
 ty := fun _ _ _ I => I.type
 it := fun _ _ X _ => by
  have hc := T.cl
  unfold clsIn at hc
  split at hc
  ·rename_i c1 d1 cd1 sl1 ho
   intro A1 Q1 E1 s1 k q
   unfold isType loadHead
   exact wpAny_bind (wpAny_loadPart (k _ _ (X _ _ ho)) (wpAny_pure q))
  ·cases hc
 ne := fun h tp dd its n sl X htp => by
  have hc := T.cl
  refine Bool.eq_false_iff.mpr fun q => ?_
  have e : C = tp := Value.ref.inj (beq_iff_eq.mp q)
  subst e
  unfold clsIn at hc
  split at hc
  ·rename_i c1 d1 cd1 sl1 ho
   cases (X _ _ ho).symm.trans htp
  ·cases hc
 ca := fun X I k => exc_class T X I k
end
theorem pin_inst {X : Cx} {pn : List (Addr × Obj)} {pins : List (Addr × Obj)} {σ : St} {H : Hp} {s : Shared} {ea C : Addr} {oe : Obj} (I : Inv (X.caught ea pn) pins σ H s) (hm : (ea, oe) ∈ pn) (hc : oe.cls = .ref C) : ExAt s.heap ea C :=
 ⟨oe, (I.pin (ea, oe) (List.mem_append_left _ hm)).1, hc⟩
theorem call_isiE {X : Cx} {pn : List (Addr × Obj)} {ea : Addr} {oe : Obj} (hm : (ea, oe) ∈ pn) : CallR (X.caught ea pn) (.builtin "isinstance") (fun xs H Q => ∃ (c : V) (C : Addr) (cv : Value) (b : Bool), xs = [.ref ea, c] ∧ oe.cls = .ref C ∧ XAttr X.K C ∧ clsV c = some cv ∧ kitOne X.K (.ref C) cv = some b ∧ Q (.bl b) H) := by
 intro pins s σ H xs us Q I r h
 obtain ⟨c, C, cv, b, rfl, hc, T, rc, e, q⟩ := h
 obtain ⟨u, w', rfl, ru, rw'⟩ := vals2 r
 cases ru
 have ec : w' = cv := by
  cases c with
  | ty n => exact (show w' = Value.type n from rw').trans (Option.some.inj rc)
  | ref n => exact (show w' = Value.ref n from rw').trans (Option.some.inj rc)
  | _ => cases rc
 subst ec
 exact kia_one (kitx_exc T) I.kIn (pin_inst I hm hc) e (fun z => nomatch z) fun tk => ⟨.bl b, H, I.tok _, rfl, q⟩
theorem call_isiT {X : Cx} {pn : List (Addr × Obj)} {ea : Addr} {oe : Obj} (hm : (ea, oe) ∈ pn) : CallR (X.caught ea pn) (.builtin "isinstance") (fun xs H Q => ∃ (t C : Addr) (cs : List Addr) (b : Bool), xs = [.ref ea, .ref t] ∧ oe.cls = .ref C ∧ XAttr X.K C ∧ H t = some (.tup (cs.map V.ref)) ∧
  kitAny X.K (.ref C) (cs.map Value.ref) = some b ∧ Q (.bl b) H) := by
 intro pins s σ H xs us Q I r h
 obtain ⟨t, C, cs, b, rfl, hc, T, ht, e, q⟩ := h
 obtain ⟨u, w', rfl, ru, rw'⟩ := vals2 r
 cases ru
 cases rw'
 obtain ⟨_, its, rv, ⟨o, h1, h2, n, h3⟩, _⟩ := I.hok t _ ht
 have ei : its = cs.map Value.ref := by
  clear h3
  have gen : ∀ (cs : List Addr) (its : List Value), Vals (cs.map V.ref) its → its = cs.map Value.ref := by
   intro cs
   induction cs with
   | nil => intro its r; cases r; rfl
   | cons c cs ih =>
    intro its r
    cases r with
    | cons r1 r2 =>
     rw [ih _ r2, show _ = Value.ref c from r1]
     rfl
  exact gen cs its rv
 subst ei
 obtain ⟨oc, od, odat, osl⟩ := o
 have h2' : oc = .type "tuple" := h2
 have h3' : odat = .seq (cs.map Value.ref).toArray n := h3
 subst h2' h3'
 exact kia_tup (kitx_exc T) I.kIn (pin_inst I hm hc) h1 e (fun z => nomatch z) fun tk => ⟨.bl b, H, I.tok _, rfl, q⟩
end L2
namespace L2
open PySem PySem.Spec PyProof.Rows
theorem passN {X : Cx} : Passes (CXx X.prog X.w) X E0 := fun _ _ _ _ _ _ _ h => by
 obtain ⟨_, _, _, _, _, _, _, _, _, _, _, _, _, _, z⟩ := h
 exact z.elim
theorem pe_fnN {X : Cx} {k : Nat} {name : Str} {ps : List Str} {sp : Sp} {p pos : Pos} {e : Expr} {es : List Expr} {t : TA} (G : FOkX X.prog X.w X.K X.mg X.base k name ps sp) (hr : Room k X.A) (ha : PA X (e :: es) t) (hg : Gl X name := by rfl)
  (hdb : (name == ("__debug__" : Str)) = false := by decide) (he : starEach (e :: es) X.env = (false, eval e X.env) :: starEach es X.env := by rfl) (hpl : (backTo pos (starEach es X.env)).any (·.1) = false := by rfl) :
  PE X (.Call (.Name name p) (e :: es) [] pos) (tCall sp [] E0 t) := by
 obtain ⟨f, fd, F, b, m, kp⟩ := G.ex
 exact pe_call F hr hg m kp b .nil passN ha hdb he hpl
theorem b_VE : bootBuiltins "ValueError" = some (.type "ValueError") := by decide +kernel
theorem kit_self {K : PySem.W.Frag} {v : Value} : PySem.W.kitOne K v v = some true := by
 unfold PySem.W.kitOne
 rw [if_pos (beq_self_eq_true v)]
theorem pe_bmK {X : Cx} {o e : Expr} {es : List Expr} {to : TE} {t : TA} {name : Str} {apos cpos : Pos} {T id : String} {r : V → List V → Hp → VK → Prop} (K : PySem.W.Frag) (pa : PlainAttrs T) (slot : Slot T name id) (hty : typeOf (.builtin id) = pure (.type "method_descriptor")) (hm : MtR X id r) (ho : PE X o to) (ha : PA X (e :: es) t)
  (hK : X.K = K := by rfl) (hbase : attributeBase o name X.env (eval o X.env) = eval o X.env := by rfl)
  (hfew : ((backTo cpos (starEach (e :: es) X.env)).all (fun x => !x.1) && (backToKw cpos (keywordEach [] X.env)).all (fun x => x.1.isSome)
   && decide ((e :: es).length + ([] : List Keyword).length + (if ([] : List Keyword).isEmpty then 0 else 1) < 30)) = true := by rfl)
  (hline : (apos.endLine == cpos.line) = true := by rfl) (hs : starEach (e :: es) X.env = (false, eval e X.env) :: starEach es X.env := by rfl) (hplain : (backTo cpos (starEach es X.env)).any (·.1) = false := by rfl) :
  PE X (.Call (.Attribute o name apos) (e :: es) [] cpos) (tBM K T r to t) := by
 subst hK
 exact pe_bm pa slot hty hm ho ha hbase hfew hline hs hplain
theorem mt_appendR {X : Cx} : MtR X "list.append" rAppend := mt_append
theorem rep_bools {H : Hp} : ∀ bs : List Bool, RepA H (bs.map PyData.bool) (bs.map V.bl)
 | [] => by rw [List.map_nil, RepA]; rfl
 | b :: bs => by
  rw [List.map_cons, RepA]
  exact ⟨.bl b, bs.map V.bl, rfl, by rw [RepD], rep_bools bs⟩
theorem rep_blist {H : Hp} {a : Addr} {bs : List Bool} (h : H a = some (.lst (bs.map V.bl))) : RepD H (.list (bs.map PyData.bool)) (.ref a) := by
 rw [RepD]
 exact ⟨a, _, rfl, h, rep_bools bs⟩
theorem hasDef_mk {K : PySem.W.Frag} {h : Heap} {mg : Str → Option Value} {name : Str} {st : Stmt} {ps : List Str} {f : Addr} {oc : Value} {od an : Option Addr} {sl : Array (Option Value)} {kV dc pm cd ct : Value} (X : K.In h) (G : h.Ns mainGlobals mg)
  (a : PySem.W.nsIn K mainGlobals name = some (some (.ref f))) (l : K.lookup f = some ⟨oc, od, .func (PySem.W.fnOf name name (defArgs st) (defBody st) (defScope st) .none kV dc pm an cd ct), sl⟩) (c : PySem.W.codeIn K cd name = true) (k : PySem.W.keepIn K (.ref f) = true)
  (hb : ∀ (kV doc pm : Value) (an : Option Addr) (cdv ct : Value) (us : List Value), us.length = ps.length → bindArgs (PySem.W.fnOf name name (defArgs st) (defBody st) (defScope st) .none kV doc pm an cdv ct) ⟨us, []⟩ = pure (ps.zip us)) : HasDef K mg name st ps :=
 ⟨_, _, fun_mk (st := st) l c k, (fun_mk (st := st) l c k).binds hb, PySem.W.mg_of X G a⟩
abbrev upVE : List Value := [.type "ValueError", .type "Exception", .type "BaseException", .type "object"]
theorem xattr_mk {K : PySem.W.Frag} {C : Addr} (ga : PySem.W.findIn K (.ref C) "__getattribute__" = some (some (.builtin "BaseException.__getattribute__"))) (gx : PySem.W.findIn K (.ref C) "__getattr__" = some none) (gc : PySem.W.findIn K (.ref C) "__class__" = some (some (.builtin "object.__class__"))) (sp : PySem.W.specialIn K (.builtin "object.__class__") "__get__" = some (some (.builtin "getset_descriptor.__get__"))) (tk : PySem.W.takesIn K (.builtin "object.__class__") = some true) (mo : PySem.W.mroIn K C (.type "object") = some true) (mb : PySem.W.mroIn K C (.type "BaseException") = some true) {cv : PySem.ClassData} (cl : PySem.W.clsIn K C = some cv) : XAttr K C := ⟨ga, gx, gc, sp, tk, mo, mb, by rw [cl]; rfl⟩
theorem up_of {K : PySem.W.Frag} {C S : Addr} {bmB : List Value} {nw : String} (e : PySem.W.mroIn K C (.ref S) = some true) (q : PySem.W.excIn K C bmB nw = true) (hne : (S == C) = false) : (mroX K C).contains (.ref S) = true := by
 unfold PySem.W.mroIn PySem.W.clsIn at e
 unfold PySem.W.excIn at q
 unfold mroX
 cases hl : K.lookup C with
 | none => rw [hl] at q; cases q
 | some o =>
  rw [hl] at q e
  split at q
  ·rename_i dd cd sl e0
   injection e0 with e1
   subst e1
   split at q
   ·rename_i C1 bm k0 k1 k2 k3 n k5 e2 e3
    rw [Bool.and_eq_true, Bool.and_eq_true, Bool.and_eq_true, Bool.and_eq_true, Bool.and_eq_true] at q
    have r1 := beq_iff_eq.mp q.1.1.1.1.1
    subst r1
    dsimp only [Option.bind] at e ⊢
    rw [e2] at e ⊢
    injection e with e4
    rw [List.contains_cons] at e4
    rcases (Bool.or_eq_true ..).mp e4 with z | z
    ·have z1 := eq_of_beq z
     injection z1 with z2
     rw [z2, beq_self_eq_true] at hne
     cases hne
    ·exact z
   ·cases q
  ·cases q
theorem iteP {c : Bool} {A B : Prop} (h : c = true) (a : A) : if c = true then A else B := by rw [if_pos h]; exact a
theorem iteM {c : Bool} {A B : Prop} (h : c = false) (b : B) : if c = true then A else B := by rw [h]; exact iteF b
theorem iteNT {c A B : Prop} [Decidable c] (hc : ¬ c) (h : A) : if (!decide c) = true then A else B := by
 rw [decide_eq_false hc]
 exact iteT h
theorem int_ne {a b : Int} (h : ¬ a = b) : decide (V.int a = V.int b) = false := decide_eq_false fun q => h (by injection q)
theorem int_is {a b : Int} (h : a = b) : decide (V.int a = V.int b) = true := decide_eq_true (congrArg V.int h)
end L2
namespace L2
open PySem PySem.Spec PyProof.Rows PySem.Builtin.Str
theorem slice_from_codes {x : Str} {i : Int} (h0 : 0 ≤ i) (h1 : i ≤ x.length) : (Txt.slice x (some i) none).cps.toList = x.cps.toList.drop i.toNat := by
 rw [eq_of_beq (slice_closes_fromL h0 h1 rfl)]
 simp [Str.length]
 exact List.take_of_length_le (by simp; omega)
end L2
namespace L2
open PySem PySem.Spec PyProof.Rows
end L2
namespace Sh
open PySem L2 PyProof.Rows
theorem emod_bd (a : Int) {n : Int} (h : 0 < n) : 0 ≤ a % n ∧ a % n < n := ⟨Int.emod_nonneg _ (by omega), Int.emod_lt_of_pos _ h⟩
theorem app_codes (a b : Str) : (a ++ b).cps.toList = a.cps.toList ++ b.cps.toList := by simp [Str.cps_append]
theorem codes_inj {a b : Str} (h : a.cps.toList = b.cps.toList) : a = b := by rw [← tx_eta a, ← tx_eta b, h]
theorem tx_app (a b : List Nat) : tx a ++ tx b = tx (a ++ b) := by
 apply codes_inj
 rw [app_codes, tx_list, tx_list, tx_list]
theorem join_flat : ∀ l : List (List Nat), (Txt.join "" (l.map tx)) = tx l.flatten := by
 have key : ∀ l : List (List Nat), (Str.join "" (l.map tx)).cps.toList = l.flatten := by
  intro l
  induction l with
  | nil => rfl
  | cons c r ih =>
   cases r with
   | nil => simp [Str.join, tx]
   | cons d q =>
    have e : Str.join "" ((c :: d :: q).map tx) = tx c ++ "" ++ Str.join "" ((d :: q).map tx) := rfl
    have e2 : ("" : Str).cps.toList = [] := rfl
    rw [e, app_codes, app_codes, ih, e2, tx_list, List.append_nil]
    rfl
 intro l
 apply codes_inj
 have : Txt.join "" (l.map tx) = Str.join "" (l.map tx) := StrLaws.glued_eq_join _ _
 rw [this, key, tx_list]
theorem flat_ones : ∀ l : List Nat, (l.map fun c => [c]).flatten = l
 | [] => rfl
 | a :: l => by rw [List.map_cons, List.flatten_cons, flat_ones l]; rfl
theorem join_ones (l : List Nat) : Txt.join "" (l.map fun c => tx [c]) = tx l := by
 have h := join_flat (l.map fun c => [c])
 rw [List.map_map, flat_ones] at h
 exact h
theorem cut63 (xs : List V) (h : xs.length ≤ 63) : cutV xs none (some 63) = xs := by
 have e1 : HT.sIx xs.length 0 none = 0 := rfl
 have e2 : HT.sIx xs.length xs.length (some 63) = xs.length := by
  unfold HT.sIx
  simp
  omega
 unfold cutV
 rw [e1, e2]
 simp
theorem sum_len_le : ∀ (ys : List Str) (m : Nat), (∀ y ∈ ys, y.length ≤ m) → (ys.map (·.length)).sum ≤ ys.length * m
 | [], m, _ => by simp
 | y :: ys, m, h => by
  have h1 := sum_len_le ys m fun z hz => h z (List.mem_cons_of_mem _ hz)
  have h2 := h y List.mem_cons_self
  rw [List.map_cons, List.sum_cons, List.length_cons, Nat.succ_mul]
  omega
theorem rep_len (n : Nat) (l : List Nat) : ((List.replicate n l).flatten).length = n * l.length := by
 induction n with
 | zero => simp
 | succ n ih => rw [List.replicate_succ, List.flatten_cons, List.length_append, ih, Nat.succ_mul, Nat.add_comm]
theorem at_code {z : List Nat} {i : Int} (h0 : 0 ≤ i) (h1 : i < z.length) : atI (tx z).cps.toList i = some (z.getD i.toNat 0) := by
 refine item_at h0 ?_
 rw [tx_list, List.getD_eq_getElem?_getD, List.getElem?_eq_getElem (by omega)]
 rfl
theorem one_size : (1 : Nat) ≤ sizeLine := by rw [sizeLine_eq]; decide
theorem few_size {n : Nat} (h : n ≤ 1000) : n ≤ sizeLine := size_small (by omega)
theorem step_mapV {α : Type} {ns : List α} {f : α → V} {i : Nat} {x : V} (hi : (ns.map f)[i]? = some x) : ∃ h : i < ns.length, x = f ns[i] := by
 have h : i < ns.length := by
  have := (List.getElem?_eq_some_iff.mp hi).1
  rw [List.length_map] at this
  exact this
 rw [List.getElem?_map, List.getElem?_eq_getElem h] at hi
 exact ⟨h, (Option.some.inj hi).symm⟩
end Sh
namespace PySem
namespace F
theorem owner_rev : Manifest.owners.lookup (String.ofList ['d', 'e', 's', 'r', 'e', 'v', 'e', 'r'].reverse) = some Manifest.sig_reversed := by kernel_rfl
theorem slot_rev_next : Slot "reversed" "__next__" "reversed.__next__" :=
 .of (owner := "reversed") (n := "__next__") (by rw [typeLookup_type, builtinLookup_eq_fast]; kernel_rfl) (by decide +kernel) (by decide +kernel) (by decide +kernel)
  (by first | exact .inl (by decide +kernel) | exact .inr (by decide +kernel)) (by rw [isSubtype_type]; kernel_rfl)
theorem entry_rev_next : entryFor table "reversed.__next__" = some Builtin.«reversed.__next__» := entryFor_of_tree (by kernel_rfl)
theorem args_rev_next_1 (a : Value) : argsOk "reversed.__next__" ⟨[a], []⟩ := by
 unfold argsOk; rw [signature?_of (id := "reversed.__next__") (n := ['_', '_', 't', 'x', 'e', 'n', '_', '_']) (o := ['d', 'e', 's', 'r', 'e', 'v', 'e', 'r']) (by kernel_rfl) owner_rev]; kernel_rfl
theorem slot_rev_iter : Slot "reversed" "__iter__" "reversed.__iter__" :=
 .of (owner := "reversed") (n := "__iter__") (by rw [typeLookup_type, builtinLookup_eq_fast]; kernel_rfl) (by decide +kernel) (by decide +kernel) (by decide +kernel)
  (by first | exact .inl (by decide +kernel) | exact .inr (by decide +kernel)) (by rw [isSubtype_type]; kernel_rfl)
theorem args_rev_iter_1 (a : Value) : argsOk "reversed.__iter__" ⟨[a], []⟩ := by
 unfold argsOk; rw [signature?_of (id := "reversed.__iter__") (n := ['_', '_', 'r', 'e', 't', 'i', '_', '_']) (o := ['d', 'e', 's', 'r', 'e', 'v', 'e', 'r']) (by kernel_rfl) owner_rev]; kernel_rfl
theorem entry_rev_iter : entryFor table "reversed.__iter__" = some Builtin.«dict_keyiterator.__iter__» :=
 entryFor_alias (id' := "dict_keyiterator.__iter__") (by kernel_rfl) (by first | rfl | decide +kernel | (unfold String.splitOn; simp +decide [String.splitOnAux])) (by decide +kernel) (by kernel_rfl)
theorem rev_no_len : typeLookup (.type "reversed") "__len__" = pure none := by rw [typeLookup_type, builtinLookup_eq_fast]; kernel_rfl
theorem slot_rev_hint : Slot "reversed" "__length_hint__" "reversed.__length_hint__" :=
 .of (owner := "reversed") (n := "__length_hint__") (by rw [typeLookup_type, builtinLookup_eq_fast]; kernel_rfl) (by decide +kernel) (by decide +kernel) (by decide +kernel)
  (by first | exact .inl (by decide +kernel) | exact .inr (by decide +kernel)) (by rw [isSubtype_type]; kernel_rfl)
theorem entry_rev_hint : entryFor table "reversed.__length_hint__" = some Builtin.«reversed.__length_hint__» := entryFor_of_tree (by kernel_rfl)
theorem args_rev_hint_1 (a : Value) : argsOk "reversed.__length_hint__" ⟨[a], []⟩ := by
 unfold argsOk; rw [signature?_of (id := "reversed.__length_hint__") (n := ['_', '_', 't', 'n', 'i', 'h', '_', 'h', 't', 'g', 'n', 'e', 'l', '_', '_']) (o := ['d', 'e', 's', 'r', 'e', 'v', 'e', 'r']) (by kernel_rfl) owner_rev]; kernel_rfl
theorem str_no_reversed : typeLookup (.type "str") "__reversed__" = pure none := by rw [typeLookup_type, builtinLookup_eq_fast]; kernel_rfl
theorem sub_rev_rev : isSubtype (.type "reversed") (.type "reversed") = pure true := by rw [isSubtype_type]; kernel_rfl
theorem slot_rev_init : Slot "reversed" "__init__" "object.__init__" :=
 .of (owner := "object") (n := "__init__") (by rw [typeLookup_type, builtinLookup_eq_fast]; kernel_rfl) (by decide +kernel) (by decide +kernel) (by decide +kernel)
  (by first | exact .inl (by decide +kernel) | exact .inr (by decide +kernel)) (by rw [isSubtype_type]; kernel_rfl)
theorem called_rev : TypeCalled "reversed" "reversed.__new__" "object.__init__" :=
 ⟨by decide +kernel, by decide +kernel, ⟨_, _, mro_reversed⟩, madeBy_type mro_reversed lookup_reversed_new (by decide +kernel), by decide +kernel, by rw [isSubtype_type]; kernel_rfl, slot_rev_init⟩
end F
end PySem
namespace PySem
def revS (x : Str) (t : Tok) (i : Int) : Obj := { cls := .type "reversed", data := .fields #[.str x t, rawInt i] }
theorem meets_rev_new (x : Str) (t : Tok) (hx : x.length ≤ sizeLine) :
  Meets (Builtin.«reversed.__new__» ⟨[.type "reversed", .str x t], []⟩) (fun _ R s =>
   R (.ok (.ret (.ref s.heap.objs.size))) { s with toks := s.toks + 1 + 1, heap := s.heap.push (revS x t ((x.length : Int) - 1)) }) :=
 .of_wp fun prog w A R s h => by
  unfold Builtin.«reversed.__new__»
  refine wpAny_bind (wpAny_of_eq (newClass_reversed _) ?_)
  try dsimp only
  refine wpAny_bind (wpAny_of_eq (a := ()) (by first | rfl | kernel_rfl) ?_)
  refine wpAny_bind (wpAny_of_eq (a := ()) (by first | rfl | kernel_rfl) ?_)
  try dsimp only
  refine wpAny_bind (wpAny_specialOf (typeIs_str _ x t) F.str_no_reversed ?_)
  try dsimp only
  refine wpAny_bind ?_
  wp_delta
  refine wpAny_bind (wpAny_isInstance (T := "str") (v := .str x t) (b := false) rfl F.sub_str_dict ?_)
  try dsimp only
  refine wpAny_bind (wpAny_specialOf (typeIs_str _ x t) F.slot_str_getitem.lookup ?_)
  try dsimp only
  rw [if_pos (by decide)]
  refine wpAny_pure ?_
  rw [if_neg (by decide)]
  have hs : sizeLine = 16777216 := sizeLine_eq
  refine wpAny_bind (P.len_str (by omega) ?_)
  refine wpAny_bind (wpAny_of_eq (a := some (x.length : Int)) rfl ?_)
  try dsimp only
  unfold Builtin.SmallTypes.newRecord
  try dsimp only
  refine wpAny_bind (wpAny_newObj_type ?_)
  exact wpAny_pure ⟨_, rfl, h⟩
section
variable {prog : Program} {w : World} {A : Around} {E : Value → Shared → Prop} {s : Shared}
theorem call_reversed_str {x : Str} {t : Tok} {Q : Value → Shared → Prop} (hx : x.length ≤ sizeLine)
  (h : Q (.ref s.heap.objs.size) { s with toks := s.toks + 1 + 1, heap := s.heap.push (revS x t ((x.length : Int) - 1)) }) : wpAny (model prog w) A (call (.type "reversed") [.str x t]) Q E s :=
 callType_new F.called_rev (by decide) (F.typeCall_reversed_1 _) (F.newCall_reversed_1 _) (fun obj => F.args_object_init_2 obj _) F.entry_reversed_new (meets_rev_new x t hx) ⟨⟨_, Heap.get?_push_size _ rfl, rfl⟩, h⟩
def Heap.IsRevS (h : Heap) (a : Addr) (x : Str) (t : Tok) (i : Int) : Prop := ∃ o, h.get? a = some o ∧ o.cls = .type "reversed" ∧ o.data = .fields #[.str x t, rawInt i]
theorem Heap.IsRevS.typeIs {a : Addr} {x : Str} {t : Tok} {i : Int} (y : s.heap.IsRevS a x t i) : s.TypeIs (.ref a) "reversed" := let ⟨o, ho, hc, _⟩ := y; ⟨o, ho, hc⟩
theorem Heap.IsRevS.at {h h' : Heap} {a : Addr} {x : Str} {t : Tok} {i : Int} (y : h.IsRevS a x t i) (e : ∀ o, h.get? a = some o → h'.get? a = some o) : h'.IsRevS a x t i := let ⟨o, ho, r⟩ := y; ⟨o, e _ ho, r⟩
theorem wpAny_pyNext_revS {it : Addr} {x : Str} {t : Tok} {i c : Nat} {Q : Option Value → Shared → Prop} (hit : s.heap.IsRevS it x t (i : Int)) (hc : x.cps[i]? = some c) (hx : x.length ≤ sizeLine)
  (hQ : ∀ h' u, h'.IsRevS it x t ((i : Int) - 1) → Heap.SameBut it s.heap h' → Q (some (.str ⟨#[c]⟩ u)) { s with heap := h', toks := s.toks + 1 + 1 }) : wpAny (model prog w) A (pyNext (.ref it)) Q E s := by
 obtain ⟨o, ho, hcl, hd⟩ := id hit
 have hs : sizeLine = 16777216 := sizeLine_eq
 have hi : i < x.length := by
  have := (Array.getElem?_eq_some_iff.mp hc).1
  exact this
 unfold pyNext
 refine wpAny_bind (wpAny_attempt (wpAny_callSpecial?_slot (name := Str.ofString "__next__") hit.typeIs F.slot_rev_next
  (wpAny_call_entry F.slot_rev_next hit.typeIs F.entry_rev_next ?_ (F.args_rev_next_1 _))))
 unfold Builtin.«reversed.__next__»
 refine wpAny_bind (wpAny_of_eq (a := (Value.ref it, [])) rfl ?_)
 try dsimp only
 refine wpAny_bind (wpAny_field ho hd (x := .str x t) rfl ?_)
 refine wpAny_bind (wpAny_field ho hd (x := rawInt (i : Int)) rfl ?_)
 show wpAny _ _ (if (i : Int) < 0 then _ else _) _ _ s
 rw [if_neg (by omega)]
 refine wpAny_bind (wpAny_specialOf (typeIs_str _ x t) F.slot_str_getitem.lookup ?_)
 rw [if_neg (by decide)]
 refine wpAny_bind (wpAny_mkInt ?_)
 have e1 : decide ((i : Int) < -(2 ^ 63 : Int)) = false := decide_eq_false (by omega)
 have e2 : decide ((i : Int) ≥ 2 ^ 63) = false := decide_eq_false (by omega)
 have e3 : seqIndex? (i : Int) x.length = some i := (L2.ixN_seq (by unfold L2.ixN; rw [if_pos (by omega), if_pos (by omega)]; rfl)).1
 refine wpAny_bind (wpAny_attempt (P.getItem_str (c := c) (by rw [e1, e2]; rfl) (by rw [e3]; exact hc) ?_))
 try dsimp only
 refine wpAny_bind (wpAny_field ho hd (x := rawInt (i : Int)) rfl ?_)
 show wpAny _ _ (setField (Value.ref it) 1 (rawInt ((i : Int) - 1)) >>= _) _ _ _
 refine wpAny_bind (wpAny_setField ho hd (by simp) ?_)
 refine wpAny_pure ⟨_, rfl, wpAny_pure (hQ _ _ ?_ (Heap.SameBut.update ..))⟩
 exact ⟨_, Heap.get?_update_self _ ho (Obj.isFreed_of_fields (Obj.data_mapFields hd _)), (Obj.cls_mapFields ..).trans hcl, by
  rw [Obj.data_mapFields hd]; simp⟩
theorem wpAny_pyNext_revS_end {it : Addr} {x : Str} {t : Tok} {Q : Option Value → Shared → Prop} (hh : A.handled = none) (hit : s.heap.IsRevS it x t (-1))
  (hQ : ∀ h', Heap.ExtBut it s.heap h' → Q none { s with heap := h' }) : wpAny (model prog w) A (pyNext (.ref it)) Q E s := by
 obtain ⟨o, ho, hcl, hd⟩ := id hit
 unfold pyNext
 refine wpAny_bind (wpAny_attempt (wpAny_callSpecial?_slot (name := Str.ofString "__next__") hit.typeIs F.slot_rev_next
  (wpAny_call_entry F.slot_rev_next hit.typeIs F.entry_rev_next ?_ (F.args_rev_next_1 _))))
 unfold Builtin.«reversed.__next__»
 refine wpAny_bind (wpAny_of_eq (a := (Value.ref it, [])) rfl ?_)
 try dsimp only
 refine wpAny_bind (wpAny_field ho hd (x := .str x t) rfl ?_)
 refine wpAny_bind (wpAny_field ho hd (x := rawInt (-1)) rfl ?_)
 show wpAny _ _ (if (-1 : Int) < 0 then _ else _) _ _ s
 rw [if_pos (by decide)]
 refine wpAny_bind (wpAny_rule ?_)
 refine wpAny_bind ?_
 wp_delta
 refine wpAny_bind (wpAny_setField ho hd (by simp) ?_)
 have h1 := Heap.get?_update_self (Obj.mapFields fun vs => vs.set! 1 (rawInt (-1))) ho (Obj.isFreed_of_fields (Obj.data_mapFields hd _))
 have d1 : (Obj.mapFields (fun vs => vs.set! 1 (rawInt (-1))) o).data = .fields #[.str x t, rawInt (-1)] := by rw [Obj.data_mapFields hd]; simp
 refine wpAny_setField h1 d1 (by simp) ?_
 refine wpAny_bind ?_
 unfold Builtin.SmallTypes.stopIteration
 refine wpAny_bind ?_
 simp only [newExc, newTuple]
 refine wpAny_bind (wpAny_newObj_type ?_ (by size_fits))
 refine wpAny_bind (m := firstArgMember _ _) (wpAny_of_eq (a := Value.none) (by first | rfl | (simp only [firstArgMember]; rfl)) ?_)
 refine wpAny_newObj_type ?_ (by size_fits)
 simp only [raiseNew]
 refine wpAny_bind (wpAny_handled ?_)
 first | rw [show A.in1.handled = none from hh] | rw [hh]
 refine wpAny_bind (wpAny_pure (wpAny_throw ?_))
 refine wpAny_bind (wpAny_isInstance (T := "StopIteration") (b := true) ⟨_, Heap.get?_push_size _ rfl, rfl⟩ isSubtype_stop ?_)
 refine wpAny_pure (hQ _ ?_)
 intro b ob hb e
 refine Heap.get?_push_of_some _ (Heap.get?_push_of_some _ ?_)
 exact (Heap.get?_update_other _ _ (Ne.symm hb)).trans ((Heap.get?_update_other _ _ (Ne.symm hb)).trans e)
theorem wpAny_pyIter_revS {it : Addr} {x : Str} {t : Tok} {i : Int} {Q : Value → Shared → Prop} (hit : s.heap.IsRevS it x t i) (h : Q (.ref it) s) : wpAny (model prog w) A (pyIter (.ref it)) Q E s := by
 refine wpAny_pyIter_slot hit.typeIs F.slot_rev_iter (wpAny_call_entry F.slot_rev_iter hit.typeIs F.entry_rev_iter ?_ (F.args_rev_iter_1 _))
 show wpAny _ _ (ret (.ref it)) _ _ s
 exact wpAny_pure ⟨_, rfl, "reversed", _, hit.typeIs, F.slot_rev_next.lookup, h⟩
end
theorem walks_revS {prog : Program} {w : World} {A : Around} (hh : A.handled = none) (I : Addr) (x : Str) (t : Tok) (hx : x.length ≤ sizeLine) :
  Walks prog w A I [I] [I] x.length (fun i v => ∃ c u, x.cps[x.length - 1 - i]? = some c ∧ v = .str ⟨#[c]⟩ u) (fun i h => i ≤ x.length ∧ h.IsRevS I x t ((x.length : Int) - 1 - (i : Int))) where
 sub := fun b hb => by simp at hb; simp [hb]
 frame := fun _ _ _ y hk => ⟨y.1, y.2.at fun o e => hk I (by simp) o e⟩
 item := fun i s Q E hi y hQ => by
  have e : (x.length : Int) - 1 - (i : Int) = ((x.length - 1 - i : Nat) : Int) := by omega
  have hit := y.2
  rw [e] at hit
  have hlt : x.length - 1 - i < x.cps.size := by
   have : x.length = x.cps.size := rfl
   omega
  have hc : x.cps[x.length - 1 - i]? = some (x.cps[x.length - 1 - i]'hlt) := Array.getElem?_eq_getElem hlt
  refine wpAny_pyNext_revS hit hc hx fun h' u hit' hs' => ?_
  have e2 : ((x.length - 1 - i : Nat) : Int) - 1 = (x.length : Int) - 1 - ((i + 1 : Nat) : Int) := by omega
  rw [e2] at hit'
  exact hQ _ h' _ ⟨_, u, hc, rfl⟩ ⟨hi, hit'⟩ fun b o hb eo => hs'.extBut b o (fun h => hb (by simp [h])) eo
 done := fun s Q E y hQ => by
  have e : (x.length : Int) - 1 - (x.length : Int) = -1 := by omega
  have hit := y.2
  rw [e] at hit
  exact wpAny_pyNext_revS_end hh hit fun h' he' => hQ h' s.toks fun b o hb eo => he' b o (fun h => hb (by simp [h])) eo
 self := fun _ _ _ _ y hQ => wpAny_pyIter_revS y.2 hQ
end PySem
namespace PySem
section
variable {prog : Program} {w : World} {A : Around} {E : Value → Shared → Prop} {s : Shared}
theorem call_rev_hint {it : Addr} {x : Str} {t : Tok} {Q : Value → Shared → Prop} (hit : s.heap.IsRevS it x t ((x.length : Int) - 1)) (hx : x.length ≤ sizeLine)
  (h : ∀ u tk, Q (.int x.length u) { s with toks := tk }) : wpAny (model prog w) A (call (.builtin "reversed.__length_hint__") [.ref it]) Q E s := by
 obtain ⟨o, ho, hcl, hd⟩ := id hit
 have hs : sizeLine = 16777216 := sizeLine_eq
 refine wpAny_call_entry F.slot_rev_hint hit.typeIs F.entry_rev_hint ?_ (F.args_rev_hint_1 _)
 unfold Builtin.«reversed.__length_hint__»
 refine wpAny_bind (wpAny_of_eq (a := Value.ref it) rfl ?_)
 refine wpAny_bind (wpAny_field ho hd (x := .str x t) rfl ?_)
 rw [if_neg (show ¬ ((Value.str x t == Value.none) = true) from Bool.false_ne_true)]
 refine wpAny_bind (P.len_str (by omega) ?_)
 refine wpAny_bind (wpAny_of_eq (a := some (x.length : Int)) rfl ?_)
 try dsimp only
 refine wpAny_bind (wpAny_field ho hd (x := rawInt ((x.length : Int) - 1)) rfl ?_)
 show wpAny _ _ (if (x.length : Int) < (x.length : Int) - 1 + 1 then _ else _) _ _ _
 rw [if_neg (by omega)]
 unfold retInt
 refine wpAny_bind (wpAny_mkInt (wpAny_pure ⟨_, rfl, ?_⟩))
 have e : (x.length : Int) - 1 + 1 = x.length := by omega
 rw [e]
 exact h _ _
theorem rev_hint {it : Addr} {x : Str} {t : Tok} {Q : Bool → Shared → Prop} (hit : s.heap.IsRevS it x t ((x.length : Int) - 1)) (hx : x.length ≤ sizeLine)
  (h : ∀ b tk, Q b { s with toks := tk }) : wpAny (model prog w) A (Builtin.List.listLengthHint (.ref it)) Q E s := by
 have hs : sizeLine = 16777216 := sizeLine_eq
 unfold Builtin.List.listLengthHint
 refine wpAny_bind (wpAny_specialOf hit.typeIs F.rev_no_len ?_)
 show wpAny _ _ (specialOf (Value.ref it) (Str.ofString "__length_hint__") >>= _) _ _ _
 refine wpAny_bind (wpAny_specialOf hit.typeIs F.slot_rev_hint.lookup ?_)
 have hsp : splitId "reversed.__length_hint__" = some ("reversed", "__length_hint__") := by decide +kernel
 try dsimp only
 rw [hsp]
 try dsimp only
 refine wpAny_bind (wpAny_isInstance hit.typeIs F.sub_rev_rev ?_)
 rw [if_neg (by decide)]
 rw [if_neg (by decide +kernel)]
 refine wpAny_bind (wpAny_rule ?_)
 refine wpAny_bind (wpAny_of_eq (F.slot_rev_hint.bind _) ?_)
 try dsimp only
 refine wpAny_bind (wpAny_attempt (call_rev_hint hit hx fun u tk => ?_))
 have ea : asInt? (Value.int (x.length : Int) u) = pure (some (x.length : Int)) := by simp only [asInt?]
 generalize hn : (x.length : Int) = n at ea
 simp only [ea, pure_bind]
 subst hn
 try dsimp only
 have f1 : Builtin.List.listFitsIndex (x.length : Int) = true := by
  unfold Builtin.List.listFitsIndex
  have a1 : decide (-(2 ^ 63 : Int) ≤ (x.length : Int)) = true := decide_eq_true (by omega)
  have a2 : decide ((x.length : Int) < 2 ^ 63) = true := decide_eq_true (by omega)
  rw [a1, a2]
  rfl
 have f2 : Builtin.List.listTooLong (x.length : Int).toNat = false := by
  unfold Builtin.List.listTooLong
  rw [Int.toNat_natCast]
  exact decide_eq_false (Nat.not_lt.mpr hx)
 rw [f1, if_neg (by decide), if_neg (by omega), f2, if_neg (by decide)]
 exact wpAny_pure (h _ _)
section
variable {R : Result → Shared → Prop}
theorem extend_rev (hh : A.handled = none) {I : Addr} {x : Str} {t : Tok} (hx : x.length ≤ sizeLine) (S : Addr) (c₀ : Nat) (hit : s.heap.IsRevS I x t ((x.length : Int) - 1)) (hSI : S ≠ I)
  (hS : s.heap.get? S = some { cls := .type "list", data := .seq #[] c₀ })
  (hR : ∀ h' tk acc' c', (∀ b o, b ≠ S → b ≠ I → s.heap.get? b = some o → h'.get? b = some o) → h'.get? S = some { cls := .type "list", dict := none, data := .seq acc' c', slots := #[] } →
   ItemsOf (fun i v => ∃ c u, x.cps[x.length - 1 - i]? = some c ∧ v = .str ⟨#[c]⟩ u) acc' x.length → R (.ok (.ret .none)) { s with heap := h', toks := tk }) :
  wpAny (model prog w) A.in1 (Builtin.List.listExtendWith (.ref S) (.ref I) .none)
   (fun fin s' => match fin with | .done f => R (.ok f) s' | .again c' => c'.quiet = true ∧ codeAny (model prog w) A c' R s') (fun e s' => R (.error e) s') s := by
 have hSf : S ∉ [I] := fun hm => hSI (List.mem_singleton.mp hm)
 unfold Builtin.List.listExtendWith
 refine wpAny_bind (wpAny_typeOf hit.typeIs ?_)
 have h1 : Builtin.List.listSameRef (.ref S) (.ref I) = false := by simp [Builtin.List.listSameRef, hSI]
 have h2 : (Value.type "reversed" == Value.type "list") = false := by decide
 have h3 : (Value.type "reversed" == Value.type "tuple") = false := by decide
 simp only [h1, h2, h3, Bool.or_false, Bool.false_eq_true, if_false]
 refine wpAny_bind (wpAny_pyIter_revS hit ?_)
 refine wpAny_bind (wpAny_holding (rev_hint hit hx fun b tk => ?_))
 have W := (walks_revS (prog := prog) (w := w) (A := A.in1) hh I x t hx).toS
 have st0 : ∀ h' : Heap, (∀ b o, b ≠ S → s.heap.get? b = some o → h'.get? b = some o) → (0 ≤ x.length ∧ h'.IsRevS I x t ((x.length : Int) - 1 - ((0 : Nat) : Int))) := fun h' hk => ⟨Nat.zero_le _, by
  have := hit.at (h' := h') fun o e => hk I o (Ne.symm hSI) e
  have e : (x.length : Int) - 1 - ((0 : Nat) : Int) = (x.length : Int) - 1 := by omega
  rw [e]
  exact this⟩
 have fin : ∀ (h₁ : Heap) (c₁ : Nat), (∀ b o, b ≠ S → s.heap.get? b = some o → h₁.get? b = some o) → h₁.get? S = some { cls := .type "list", data := .seq #[] c₁ } →
   codeAny (model prog w) A (.builtin "list.extend.loop" ⟨[.ref S, .ref I, .none], []⟩) R { s with heap := h₁, toks := tk } := fun h₁ c₁ hk hS₁ => by
  refine codeAny_extend_loopS W hx _ hSf _ x.length 0 _ _ _ rfl (Nat.zero_le _) (st0 h₁ hk) hS₁ (ItemsOf.nil _) fun s' acc' c' hm hS' hacc => ?_
  rw [Moved.eq_with hm]
  refine hR s'.heap s'.toks acc' c' (fun b ob hb hbI e => hm.heap b ob (fun hmem => ?_) (hk b ob hb e)) hS' hacc
  rcases List.mem_cons.mp hmem with e' | hmem
  ·exact hb e'
  ·exact hbI (List.mem_singleton.mp hmem)
 split
 ·refine wpAny_bind (wpAny_rule ?_)
  refine wpAny_bind ?_
  show wpAny _ A.in1 (updateSeq S (·.push .none) >>= fun _ => updateSeq S (·.pop)) _ _ _
  refine wpAny_bind (wpAny_updateSeq hS rfl ?_)
  have hS₂ := Heap.get?_update_self (Obj.mapSeq (·.push Value.none)) hS rfl
  refine wpAny_updateSeq (hz := by seq_fits) hS₂ rfl ?_
  have hS₃ := Heap.get?_update_self (Obj.mapSeq (·.pop)) hS₂ rfl
  exact wpAny_pure ⟨plainId_quiet F.plain_extend_loop _, fin _ _ (fun b o hb e => (Heap.get?_update_other _ _ (Ne.symm hb)).trans ((Heap.get?_update_other _ _ (Ne.symm hb)).trans e)) hS₃⟩
 ·exact wpAny_pure ⟨plainId_quiet F.plain_extend_loop _, fin _ _ (fun b o hb e => e) hS⟩
theorem list_init_rev (hh : A.handled = none) {I : Addr} {x : Str} {t : Tok} (hx : x.length ≤ sizeLine) (S : Addr) (hit : s.heap.IsRevS I x t ((x.length : Int) - 1)) (hSI : S ≠ I)
  (hS : s.heap.get? S = some { cls := .type "list", data := .seq #[] })
  (hR : ∀ h' tk acc' c', (∀ b o, b ≠ S → b ≠ I → s.heap.get? b = some o → h'.get? b = some o) → h'.get? S = some { cls := .type "list", dict := none, data := .seq acc' c', slots := #[] } →
   ItemsOf (fun i v => ∃ c u, x.cps[x.length - 1 - i]? = some c ∧ v = .str ⟨#[c]⟩ u) acc' x.length → R (.ok (.ret .none)) { s with heap := h', toks := tk }) :
  wpAny (model prog w) A.in1 (Builtin.«list.__init__» ⟨[.ref S, .ref I], []⟩)
   (fun fin s' => match fin with | .done f => R (.ok f) s' | .again c' => c'.quiet = true ∧ codeAny (model prog w) A c' R s') (fun e s' => R (.error e) s') s := by
 show wpAny _ A.in1 (do let old ← Builtin.List.listItems (.ref S); Builtin.List.listUpdate (.ref S) (fun _ => #[]); letGo old.toList.reverse; Builtin.List.listExtendWith (.ref S) (.ref I) .none) _ _ s
 refine wpAny_bind ?_
 unfold Builtin.List.listItems
 refine wpAny_bind (wpAny_seqItems hS rfl (wpAny_pure ?_))
 show wpAny _ A.in1 (updateSeq S (fun _ => #[]) >>= fun _ => letGo (#[] : Array Value).toList.reverse >>= fun _ => Builtin.List.listExtendWith (.ref S) (.ref I) .none) _ _ s
 refine wpAny_bind (wpAny_updateSeq hS rfl ?_)
 have hS₂ := Heap.get?_update_self (Obj.mapSeq (fun _ => (#[] : Array Value))) hS rfl
 have oth : ∀ b o, b ≠ S → s.heap.get? b = some o → (s.heap.update S (Obj.mapSeq (fun _ => (#[] : Array Value)))).get? b = some o :=
  fun b o hb e => (Heap.get?_update_other _ _ (Ne.symm hb)).trans e
 refine wpAny_bind (wpAny_letGo ?_)
 refine extend_rev hh hx S _ (hit.at fun o e => oth I o (Ne.symm hSI) e) hSI hS₂ fun h' tk acc' c' hk hS' hacc => ?_
 exact hR h' tk acc' c' (fun b o hb hbI e => hk b o hb hbI (oth b o hb e)) hS' hacc
end
theorem call_list_rev (hh : A.handled = none) {I : Addr} {x : Str} {t : Tok} {Q : Value → Shared → Prop} (hx : x.length ≤ sizeLine) (hit : s.heap.IsRevS I x t ((x.length : Int) - 1))
  (hQ : ∀ h' tk acc' c', (∀ b o, b ≠ I → s.heap.get? b = some o → h'.get? b = some o) → h'.get? s.heap.objs.size = some { cls := .type "list", dict := none, data := .seq acc' c', slots := #[] } →
   ItemsOf (fun i v => ∃ c u, x.cps[x.length - 1 - i]? = some c ∧ v = .str ⟨#[c]⟩ u) acc' x.length → Q (.ref s.heap.objs.size) { s with heap := h', toks := tk }) :
  wpAny (model prog w) A (call (.type "list") [.ref I]) Q E s := by
 have hSI : s.heap.objs.size ≠ I := fun e => by
  obtain ⟨o, ho, _⟩ := hit
  exact Nat.lt_irrefl _ (e ▸ Heap.lt_size ho)
 refine callType_codes (Q₁ := fun obj s₁ => obj = .ref s.heap.objs.size ∧ s₁ = { s with heap := s.heap.push { cls := .type "list", data := .seq #[] } }) F.called_list (F.typeCall_list_1 _) F.entry_list_init
  (code_list_new _ ⟨rfl, rfl⟩) fun obj s₁ h₁ => ?_
 obtain ⟨rfl, rfl⟩ := h₁
 have hS : (s.heap.push { cls := .type "list", data := .seq #[] }).get? s.heap.objs.size = some { cls := .type "list", data := .seq #[] } := Heap.get?_push_size _ rfl
 refine ⟨⟨_, hS, rfl⟩, F.args_list_init_2 _ _, list_init_rev (A := A.in1) hh hx _ (hit.at fun o e => Heap.get?_push_of_some _ e) hSI hS fun h' tk acc' c' hk hS' hacc => ?_⟩
 exact ⟨rfl, hQ h' tk acc' c' (fun b o hbI e => hk b o (Nat.ne_of_lt (Heap.lt_size e)) hbI (Heap.get?_push_of_some _ e)) hS' hacc⟩
end
end PySem
namespace L2
open PySem PySem.Spec PyProof.Rows
theorem b_reversed : bootBuiltins "reversed" = some (.type "reversed") := by decide +kernel
theorem vals_of : ∀ (ws : List V) (us : List Value), ws.length = us.length → (∀ (i : Nat) (w : V) (u : Value), ws[i]? = some w → us[i]? = some u → RelV w u) → Vals ws us := by
 intro ws
 induction ws with
 | nil =>
  intro us hl _
  have : us = [] := List.length_eq_zero_iff.mp hl.symm
  subst this
  exact .nil
 | cons w ws ih =>
  intro us hl h
  cases us with
  | nil => cases hl
  | cons u us => exact .cons (h 0 w u rfl rfl) (ih us (by simpa using hl) fun i w' u' e1 e2 => h (i + 1) w' u' e1 e2)
def tLR (te : TE) : TE := fun σ H Q => te σ H fun x H1 => ∃ z : Str, x = .str z ∧ z.length ≤ sizeLine ∧ ∀ p, H1 p = none → Q (.ref p) (upd H1 p (.lst (z.cps.toList.reverse.map fun c => V.str (tx [c]))))
theorem pe_listRev {X : Cx} {e : Expr} {te : TE} {p1 p2 pos1 pos2 : Pos} (hc : X.calm = true) (hgl : Gl X "list") (hml : X.mg "list" = none) (hgr : Gl X "reversed") (hmr : X.mg "reversed" = none) (he : PE X e te)
  (hs1 : starEach [.Call (.Name "reversed" p2) [e] [] pos2] X.env = [(false, eval (.Call (.Name "reversed" p2) [e] [] pos2) X.env)] := by rfl) (hs2 : starEach [e] X.env = [(false, eval e X.env)] := by rfl) :
  PE X (.Call (.Name "list" p1) [.Call (.Name "reversed" p2) [e] [] pos2] [] pos1) (tLR te) := by
 intro pins s σ H Q I h
 refine wpAny_Call_Name_kw (ld_blt I hgl hml b_list ?_ (by decide) (by decide))
 refine PyProof.Rows.callWith_type1 ?_ hs1 rfl
 rw [hs1]
 refine Calls.spliced_cons ?_
 refine wpAny_Call_Name_kw (ld_blt I hgr hmr b_reversed ?_ (by decide) (by decide))
 refine PyProof.Rows.callWith_type1 ?_ hs2 rfl
 rw [hs2]
 refine Calls.spliced_cons (thn (he pins s σ H _ I h) fun u s1 ⟨x, H1, I1, r1, q1⟩ => Calls.spliced_nil ?_)
 obtain ⟨z, rfl, hz, q⟩ := q1
 obtain ⟨t, rfl⟩ := r1
 refine call_reversed_str hz ?_
 refine Calls.spliced_nil ?_
 refine call_list_rev (I.ok.hd hc) hz ⟨_, Heap.get?_push_size _ rfl, rfl, rfl⟩ fun h' tk acc c hk hS hacc => ?_
 have hsz : (s1.heap.push (revS z t ((z.length : Int) - 1))).objs.size = s1.heap.objs.size + 1 := Heap.size_push ..
 dsimp only at hS hk ⊢
 rw [hsz] at hS ⊢
 have hf : H1 (s1.heap.objs.size + 1) = none := I1.hok.fresh (Nat.le_succ _)
 refine ⟨.ref (s1.heap.objs.size + 1), _, I1.laid (h' := h') (t' := tk) (a := s1.heap.objs.size + 1) (o := .lst (z.cps.toList.reverse.map fun c => V.str (tx [c]))) (fun b u e => hk b u (Nat.ne_of_lt (Heap.lt_size e)) (Heap.get?_push_of_some _ e)) (Nat.le_succ _) ?_, rfl, q _ hf⟩
 refine ⟨by rw [List.length_map, List.length_reverse]; simpa [Str.length] using hz, acc.toList, c, ?_, by rw [hS, Array.toArray_toList]⟩
 have hzl : z.cps.toList.length = z.length := by simp [Str.length]
 refine vals_of _ _ (by rw [List.length_map, List.length_reverse, hzl, Array.length_toList, hacc.1]) fun i w u e1 e2 => ?_
 have hi : i < z.length := by
  have := (List.getElem?_eq_some_iff.mp e1).1
  rw [List.length_map, List.length_reverse, hzl] at this
  exact this
 obtain ⟨c', t', hc', rfl⟩ := hacc.2 i u (by rw [← Array.getElem?_toList]; exact e2)
 rw [List.getElem?_map, List.getElem?_reverse (by rw [hzl]; exact hi), hzl] at e1
 rw [← Array.getElem?_toList] at hc'
 rw [hc'] at e1
 cases e1
 exact ⟨t', rfl⟩
section
variable {prog : Program} {w : World} {A : Around} {R : Result → Shared → Prop} {it : Addr} {fp wr : List Addr} {n : Nat} {Pv : Nat → Value → Prop} {Sv : Nat → Heap → Prop}
end
section
variable {X : Cx} {pins : List (Addr × Obj)} {σ : St} {H H' : Hp} {s s' : Shared} {d : Addr} {o : Obj} {kvs kvs' : List (Key × V)}
end
theorem op_neD {X : Cx} (hu : X.A.units + 64 < cLine) : OpR X (compareOp .NotEq) (fun x y H Q => ∃ da db, RepD H da x ∧ RepD H db y ∧ SeqAt.shaped da = true ∧ SeqAt.shaped db = true ∧ Q (.bl (!PyData.eqv da db)) H) := by
 intro pins s σ H x y v u Q I rx ry h
 obtain ⟨da, db, r1, r2, s1, s2, q⟩ := h
 obtain ⟨as, q1⟩ := RepD.reads I da x v r1 rx
 obtain ⟨bs, q2⟩ := RepD.reads I db y u r2 ry
 exact ne_dataH q1 q2 s1 s2 hu ⟨.bl _, H, I, rfl, q⟩
theorem seq_any {t u : TS} {D : Ends} {σ : L2.St} {H : Hp} (I : L2.St → Hp → Prop) (h : ∀ R : L2.St → Hp → Prop, (∀ σ' H', I σ' H' → R σ' H') → t { D with nx := R } σ H) (hu : ∀ σ' H', I σ' H' → u D σ' H') : tSeq t u D σ H := h _ hu
theorem mt_popR {X : Cx} : MtR X "list.pop" rPop := mt_pop
section
variable {X : Cx} {pins : List (Addr × Obj)} {σ : St} {H : Hp} {s : Shared} {a : Addr} {kvs : List (Key × V)} {k : Key} {u : Value} {A : Around} {E : Value → Shared → Prop}
end
end L2
namespace L2
open PySem PySem.Spec PyProof.Rows PySem.Builtin.Str
theorem mt_find {X : Cx} : MtR X "str.find" (fun x vs H Q => ∃ (z y : Str) (i : Int), x = .str z ∧ vs = [.str y, .int i] ∧ Q (.int (Txt.find3 z y i)) H) := by
 intro pins s σ H x vs v us Q I rx rv h
 obtain ⟨z, y, i, rfl, rfl, q⟩ := h
 obtain ⟨t, rfl⟩ := rx
 obtain ⟨u0, u1, rfl, ⟨u, rfl⟩, ⟨u', rfl⟩⟩ := vals2 rv
 exact SC.find3 ⟨.int _, H, I.tok _, ⟨_, rfl⟩, q⟩
theorem vals_at {xs : List V} {us : List Value} (r : Vals xs us) : ∀ {i : Nat} {x : V} {u : Value}, xs[i]? = some x → us[i]? = some u → RelV x u := by
 induction r with
 | nil => intro i x u h; cases h
 | cons r1 r2 ih =>
  intro i x u h1 h2
  cases i with
  | zero =>
   cases h1
   cases h2
   exact r1
  | succ i => exact ih h1 h2
theorem mt_index {X : Cx} (K : PySem.W.Frag) (hK : X.K = K := by rfl) : MtR X "list.index" (fun x vs H Q => ∃ (p : Addr) (xs : List Str) (y : Str) (j : Nat), x = .ref p ∧ vs = [.str y] ∧ SqL K H p (xs.map V.str) ∧ xs[j]? = some y ∧ (∀ i, i < j → xs[i]? ≠ some y) ∧ Q (.int j) H) := by
 subst hK
 intro pins s σ H x vs v us Q I rx rv h
 obtain ⟨p, xs, y, j, rfl, rfl, hq, hj, hno, q⟩ := h
 cases rx
 obtain ⟨u0, rfl, ru⟩ := vals1 rv
 obtain ⟨its, r, pl, hz⟩ := I.list hq
 have hlen := r.length
 rw [List.length_map] at hlen
 have fs : (xs.map V.str).all flatV = true := List.all_eq_true.mpr fun z hz => by
  obtain ⟨w, _, rfl⟩ := List.mem_map.mp hz
  rfl
 have key : ∀ (m : Nat) (hm : m < its.toArray.size), eqU (.str y) its.toArray[m] = (xs.getD m "" == y) := fun m hm => by
  have hm' : m < its.length := by simpa using hm
  have hx : m < xs.length := by omega
  have e1 : (xs.map V.str)[m]? = some (V.str xs[m]) := by rw [List.getElem?_map, List.getElem?_eq_getElem hx]; rfl
  have rr := vals_at r e1 (List.getElem?_eq_getElem hm')
  rw [show its.toArray[m] = its[m] from rfl, eqU_of rr rfl, List.getD_eq_getElem?_getD, List.getElem?_eq_getElem hx]
  rfl
 have hjl : j < xs.length := (List.getElem?_eq_some_iff.mp hj).1
 have hls : sizeLine = 16777216 := sizeLine_eq
 obtain ⟨⟨cls, dd, data, sl⟩, ho, hc, n, hd⟩ := id pl.isList
 simp only at hc hd
 subst hc hd
 refine call_meets PySem.F.slot_list_index ⟨_, ho, rfl⟩ PySem.F.entry_list_index (PySem.F.args_list_index_2 _ _) (SeqAt.list_indexAt p its.toArray n dd sl u0 (eqU (.str y)) j (by simpa using (show j < its.length by omega)) (by rw [List.length_map] at hz; omega) ?_ ?_) ⟨ho, fun w hw => mem_eqAt ru rfl r fs w (by simpa using hw), ⟨.int _, H, I.tok _, ⟨_, rfl⟩, q⟩⟩
 ·rw [key, List.getD_eq_getElem?_getD, hj]
  simp
 ·intro m hm hmj
  rw [key]
  have := hno m hmj
  rw [List.getElem?_eq_getElem (show m < xs.length by omega)] at this
  rw [List.getD_eq_getElem?_getD, List.getElem?_eq_getElem (show m < xs.length by omega)]
  rw [Bool.eq_false_iff]
  intro c
  exact this (congrArg some (eq_of_beq c))
end L2
namespace Sh
open PySem L2 PyProof.Rows PySem.Builtin.Str
theorem find_tx {z p : List Nat} {lo c : Nat} (hlo : lo ≤ c) (hc : c + p.length ≤ z.length) (e : (z.drop c).take p.length = p) (hno : ∀ k, lo ≤ k → k < c → (z.drop k).take p.length ≠ p) : Txt.find3 (tx z) (tx p) (lo : Int) = c := by
 have at_iff : ∀ i, PySem.StrLaws.At (tx z) (tx p) (tx z).length i ↔ i + p.length ≤ z.length ∧ (z.drop i).take p.length = p := fun i => by
  unfold PySem.StrLaws.At
  rw [StrLaws.subAt_eq, tx_len, tx_len, tx_list, tx_list, beq_iff_eq]
 unfold Txt.find3
 have ef : fromIndex (tx z).length (lo : Int) = lo := by
  unfold fromIndex
  rw [if_neg (by omega)]
  omega
 rw [ef]
 rcases StrLaws.occ_head_from (tx z) (tx p) lo 1 (Nat.le_refl 1) with ⟨_, hn⟩ | ⟨i, r, h0, h1, h2, h3⟩
 ·exact absurd ((at_iff c).mpr ⟨hc, e⟩) (hn c hlo)
 ·rw [h0]
  show (i : Int) = c
  have h2' := (at_iff i).mp h2
  have : i = c := by
   by_cases q : i < c
   ·exact absurd h2'.2 (hno i h1 q)
   ·by_cases q2 : c < i
    ·exact absurd ((at_iff c).mpr ⟨hc, e⟩) (h3 c hlo q2)
    ·omega
  rw [this]
end Sh
namespace Tim
open PySem PySem.W PyProof.Rows
section
variable {M : Model} {A : Around} {E : Value → Shared → Prop} {σ : Type}
theorem kc_mono {α : Type} {m : StateT σ Sem α} {Q Q' : α → σ → Shared → Prop} {st : σ} {s : Shared} (h : kasC M A E m Q st s) (hq : ∀ a st' s', Q a st' s' → Q' a st' s') : kasC M A E m Q' st s :=
 wpAny_mono h (fun r s' h' => hq _ _ _ h') fun _ _ e => e
theorem kc_list {β : Type} {f : Nat → β → StateT σ Sem (ForInStep β)} {Q : β → σ → Shared → Prop} (I : Nat → β → σ → Shared → Prop) (b : Nat)
  (step : ∀ i c st s, i < b → I i c st s → kasC M A E (f i c) (fun r st' s' => match r with | .done c' => Q c' st' s' | .yield c' => I (i + 1) c' st' s') st s)
  (fin : ∀ c st s, I b c st s → Q c st s) : ∀ (n i : Nat) (c : β) (st : σ) (s : Shared), i + n = b → I i c st s → kasC M A E (forIn (List.range' i n) c f) Q st s
 | 0, i, c, st, s, e, h => by
  rw [List.range'_zero]
  refine kasC_nil (fin c st s ?_)
  have : i = b := by omega
  rw [← this]
  exact h
 | n + 1, i, c, st, s, e, h => by
  rw [List.range'_succ]
  refine kasC_cons (kc_mono (step i c st s (by omega) h) fun r st' s' h' => ?_)
  cases r with
  | done c' => exact h'
  | yield c' => exact kc_list I b step fin n (i + 1) c' st' s' (by omega) h'
theorem kc_for {β : Type} {a b : Nat} {c : β} {f : Nat → β → StateT σ Sem (ForInStep β)} {Q : β → σ → Shared → Prop} {st : σ} {s : Shared} (I : Nat → β → σ → Shared → Prop) (h : I a c st s)
  (step : ∀ i c st s, i < max a b → I i c st s → kasC M A E (f i c) (fun r st' s' => match r with | .done c' => Q c' st' s' | .yield c' => I (i + 1) c' st' s') st s)
  (fin : ∀ c st s, I (max a b) c st s → Q c st s) : kasC M A E (forIn [a:b] c f) Q st s :=
 kasC_range (kc_list I (max a b) step fin (b - a) a c st s (by omega) h)
end
section
variable {prog : Program} {w : World} {A : Around} {E : Value → Shared → Prop}
structure Rank (prog : Program) (w : World) (A : Around) (κ : SortKind) (ϕ : Keyed → Nat) (U : Keyed → Prop) (G : Shared → Prop) : Prop where
 ask : ∀ (x y : Keyed) (C : Bool → Shared → Prop) (s : Shared), U x → U y → G s → (∀ s', G s' → C (decide (ϕ x < ϕ y)) s') → wpAny (model prog w) A (keyLt' κ x.1 y.1) C (fun _ _ => False) s
variable {κ : SortKind} {ϕ : Keyed → Nat} {U : Keyed → Prop} {G : Shared → Prop}
theorem kc_lt (R : Rank prog w A κ ϕ U G) {x y : Keyed} {Q : Option Bool → SortSt → Shared → Prop} {st : SortSt} {s : Shared} (hk : kindOf st = κ) (hx : U x) (hy : U y) (g : G s) (h : ∀ s', G s' → Q (some (decide (ϕ x < ϕ y))) st s') :
  kasC (model prog w) A E (lt' x y) Q st s := by
 rw [lt'_eq]
 refine kasC_bind (kasC_get ?_)
 rw [hk]
 refine kasC_bind (kasC_lift (wpAny_attempt (wpAny_mono (R.ask x y (fun c s' => Q (some c) st s') s hx hy g h) (fun c s' hc => ?_) fun _ _ hF => hF.elim)))
 exact kasC_pure hc
theorem kc_elem {xs : Array Keyed} {i : Nat} {x : Keyed} {Q : Keyed → SortSt → Shared → Prop} {st : SortSt} {s : Shared} (hx : xs[i]? = some x) (h : Q x st s) : kasC (model prog w) A E (elem' xs i) Q st s := by
 rw [elem'_eq, hx]
 exact kasC_pure h
def fx (ϕ : Keyed → Nat) (xs : Array Keyed) (i : Nat) : Nat := match xs[i]? with
 | some p => ϕ p
 | none => 0
theorem fx_at {xs : Array Keyed} {i : Nat} {x : Keyed} (h : xs[i]? = some x) : fx ϕ xs i = ϕ x := by unfold fx; rw [h]
theorem fx_congr {xs ys : Array Keyed} {i j : Nat} (h : xs[i]? = ys[j]?) : fx ϕ xs i = fx ϕ ys j := by unfold fx; rw [h]
def Al (U : Keyed → Prop) (xs : Array Keyed) : Prop := ∀ (i : Nat) x, xs[i]? = some x → U x
theorem Al.perm {xs ys : Array Keyed} (h : Al U xs) (p : ys.Perm xs) : Al U ys := fun i x e => by
 have hm : x ∈ ys := Array.mem_of_getElem? e
 have := p.mem_iff.mp hm
 obtain ⟨j, hj, e2⟩ := Array.getElem_of_mem this
 exact h j x (by rw [← e2]; exact Array.getElem?_eq_getElem hj)
def galp' : Bool → Keyed → Array Keyed → Nat → Nat → Nat → StateT SortSt Sem (Option Nat) := sortPriv% PySem.Builtin.gallop
def bey' (lf : Bool) (ky : Keyed) (ar : Array Keyed) (bs : Nat) (i : Nat) : StateT SortSt Sem (Option Bool) := do
 let el ← elem' ar (bs + i)
 if lf then lt' el ky else return (← lt' ky el).map (!·)
theorem galp'_eq (lf : Bool) (ky : Keyed) (ar : Array Keyed) (bs n ht : Nat) : galp' lf ky ar bs n ht = (do
 let mut u := 0
 let mut v := 1
 let mut p := 0
 let mut q := 0
 let some rt ← bey' lf ky ar bs ht | return none
 if rt then
  let mx := n - ht
  for _ in [0:n] do
   if v ≥ mx then break
   let some mo ← bey' lf ky ar bs (ht + v) | return none
   if !mo then break
   u := v
   v := 2 * v + 1
  p := ht + u + 1
  q := ht + min v mx
 else
  let mx := ht + 1
  for _ in [0:n] do
   if v ≥ mx then break
   let some fo ← bey' lf ky ar bs (ht - v) | return none
   if fo then break
   u := v
   v := 2 * v + 1
  p := ht + 1 - min v mx
  q := ht - u
 for _ in [0:n] do
  if p ≥ q then break
  let m := p + (q - p) / 2
  let some mo ← bey' lf ky ar bs m | return none
  if mo then p := m + 1 else q := m
 return some q) := rfl
def beyB (ϕ : Keyed → Nat) (lf : Bool) (k : Nat) (ar : Array Keyed) (bs i : Nat) : Bool := if lf then decide (fx ϕ ar (bs + i) < k) else !decide (k < fx ϕ ar (bs + i))
theorem kc_bey (R : Rank prog w A κ ϕ U G) {lf : Bool} {ky : Keyed} {ar : Array Keyed} {bs i : Nat} {Q : Option Bool → SortSt → Shared → Prop} {st : SortSt} {s : Shared} (hk : kindOf st = κ) (hu : U ky) (ha : Al U ar) (hi : bs + i < ar.size) (g : G s)
  (h : ∀ s', G s' → Q (some (beyB ϕ lf (ϕ ky) ar bs i)) st s') : kasC (model prog w) A E (bey' lf ky ar bs i) Q st s := by
 unfold bey'
 have e : ar[bs + i]? = some ar[bs + i] := Array.getElem?_eq_getElem hi
 refine kasC_bind (kc_elem e ?_)
 unfold beyB at h
 rw [fx_at e] at h
 cases lf with
 | true =>
  rw [if_pos rfl]
  exact kc_lt R hk (ha _ _ e) hu g fun s' g' => by simpa using h s' g'
 | false =>
  rw [if_neg (by decide)]
  refine kasC_bind (kc_lt R hk hu (ha _ _ e) g fun s' g' => kasC_pure ?_)
  simpa using h s' g'
theorem kc_bis (R : Rank prog w A κ ϕ U G) {lf : Bool} {ky : Keyed} {ar : Array Keyed} {bs n p0 q0 : Nat} {Q : Option Nat → SortSt → Shared → Prop} {st : SortSt} {s : Shared} (hk : kindOf st = κ) (hu : U ky) (ha : Al U ar) (hn : bs + n ≤ ar.size)
  (mo : ∀ i j, i ≤ j → j < n → beyB ϕ lf (ϕ ky) ar bs j = true → beyB ϕ lf (ϕ ky) ar bs i = true) (g : G s) (hpq : p0 ≤ q0) (hq : q0 ≤ n) (h1 : ∀ i, i < p0 → beyB ϕ lf (ϕ ky) ar bs i = true) (h2 : ∀ i, q0 ≤ i → i < n → beyB ϕ lf (ϕ ky) ar bs i = false)
  (h : ∀ q s', q ≤ n → (∀ i, i < q → beyB ϕ lf (ϕ ky) ar bs i = true) → (∀ i, q ≤ i → i < n → beyB ϕ lf (ϕ ky) ar bs i = false) → G s' → Q (some q) st s') : kasC (model prog w) A E (do
   let mut p := p0
   let mut q := q0
   for _ in [0:n] do
    if p ≥ q then break
    let m := p + (q - p) / 2
    let some mo ← bey' lf ky ar bs m | return none
    if mo then p := m + 1 else q := m
   return some q) Q st s := by
 dsimp only
 refine kasC_bind (kc_for (fun t c st' s' => ∃ p q, c = (none, p, q) ∧ st' = st ∧ G s' ∧ p ≤ q ∧ q ≤ n ∧ (∀ i, i < p → beyB ϕ lf (ϕ ky) ar bs i = true) ∧ (∀ i, q ≤ i → i < n → beyB ϕ lf (ϕ ky) ar bs i = false) ∧ q - p ≤ n - t) ⟨p0, q0, rfl, rfl, g, hpq, hq, h1, h2, by omega⟩ ?_ ?_)
 ·rintro t c st' s' ht ⟨p, q, rfl, rfl, g', a1, a2, a3, a4, a5⟩
  dsimp only
  by_cases c : p ≥ q
  ·rw [if_pos c]
   have e : p = q := by omega
   subst e
   exact kasC_pure (kasC_pure (h p s' a2 a3 a4 g'))
  ·rw [if_neg c]
   refine kasC_bind (kc_bey R hk hu ha (by omega) g' fun s2 g2 => ?_)
   dsimp only
   by_cases cm : beyB ϕ lf (ϕ ky) ar bs (p + (q - p) / 2) = true
   ·rw [if_pos cm]
    exact kasC_pure ⟨p + (q - p) / 2 + 1, q, rfl, rfl, g2, by omega, a2, fun i hi => mo i _ (by omega) (by omega) cm, a4, by omega⟩
   ·rw [if_neg cm]
    refine kasC_pure ⟨p, p + (q - p) / 2, rfl, rfl, g2, by omega, by omega, a3, fun i hi1 hi2 => ?_, by omega⟩
    cases z : beyB ϕ lf (ϕ ky) ar bs i with
    | false => rfl
    | true => exact absurd (mo _ i hi1 hi2 z) cm
 ·rintro c st' s' ⟨p, q, rfl, rfl, g', a1, a2, a3, a4, a5⟩
  have e : p = q := by omega
  subst e
  exact kasC_pure (h p s' a2 a3 a4 g')
theorem kc_galp (R : Rank prog w A κ ϕ U G) {lf : Bool} {ky : Keyed} {ar : Array Keyed} {bs n ht : Nat} {Q : Option Nat → SortSt → Shared → Prop} {st : SortSt} {s : Shared} (hk : kindOf st = κ) (hu : U ky) (ha : Al U ar) (hn : bs + n ≤ ar.size) (hh : ht < n)
  (mo : ∀ i j, i ≤ j → j < n → beyB ϕ lf (ϕ ky) ar bs j = true → beyB ϕ lf (ϕ ky) ar bs i = true) (g : G s)
  (h : ∀ q s', q ≤ n → (∀ i, i < q → beyB ϕ lf (ϕ ky) ar bs i = true) → (∀ i, q ≤ i → i < n → beyB ϕ lf (ϕ ky) ar bs i = false) → G s' → Q (some q) st s') : kasC (model prog w) A E (galp' lf ky ar bs n ht) Q st s := by
 have mo' : ∀ i j, i ≤ j → j < n → beyB ϕ lf (ϕ ky) ar bs i = false → beyB ϕ lf (ϕ ky) ar bs j = false := fun i j h1 h2 e => by
  cases z : beyB ϕ lf (ϕ ky) ar bs j with
  | false => rfl
  | true => rw [mo i j h1 h2 z] at e; cases e
 rw [galp'_eq]
 refine kasC_bind (kc_bey R hk hu ha (by omega) g fun s1 g1 => ?_)
 dsimp only
 by_cases c : beyB ϕ lf (ϕ ky) ar bs ht = true
 ·rw [if_pos c]
  have go : ∀ u v s', G s' → ht + u < n → u < v → beyB ϕ lf (ϕ ky) ar bs (ht + u) = true → (n - ht ≤ v ∨ beyB ϕ lf (ϕ ky) ar bs (ht + v) = false) → ht + u + 1 ≤ ht + min v (n - ht) ∧ ht + min v (n - ht) ≤ n ∧ (∀ i, i < ht + u + 1 → beyB ϕ lf (ϕ ky) ar bs i = true) ∧ ∀ i, ht + min v (n - ht) ≤ i → i < n → beyB ϕ lf (ϕ ky) ar bs i = false := fun u v s' g' a1 a2 a3 a4 => by
   refine ⟨by omega, by omega, fun i hi => mo i _ (by omega) a1 a3, fun i h1 h2 => ?_⟩
   rcases a4 with z | z
   ·omega
   ·by_cases q : n - ht ≤ v
    ·omega
    ·exact mo' (ht + v) i (by omega) h2 z
  refine kasC_bind (kc_for (fun t c st' s' => ∃ u v, c = (none, u, v) ∧ st' = st ∧ G s' ∧ ht + u < n ∧ u < v ∧ beyB ϕ lf (ϕ ky) ar bs (ht + u) = true ∧ t + 1 ≤ v) ⟨0, 1, rfl, rfl, g1, by omega, by omega, by rw [Nat.add_zero]; exact c, by omega⟩ ?_ ?_)
  ·rintro t c st' s' ht' ⟨u, v, rfl, rfl, g', a1, a2, a3, a4⟩
   dsimp only
   by_cases c1 : v ≥ n - ht
   ·rw [if_pos c1]
    obtain ⟨b1, b2, b3, b4⟩ := go u v s' g' a1 a2 a3 (.inl c1)
    exact kasC_pure (kc_bis R hk hu ha hn mo g' b1 b2 b3 b4 h)
   ·rw [if_neg c1]
    refine kasC_bind (kc_bey R hk hu ha (by omega) g' fun s2 g2 => ?_)
    dsimp only
    by_cases cm : beyB ϕ lf (ϕ ky) ar bs (ht + v) = true
    ·rw [if_neg (by rw [cm]; decide)]
     exact kasC_pure ⟨v, 2 * v + 1, rfl, rfl, g2, by omega, by omega, cm, by omega⟩
    ·have cf : beyB ϕ lf (ϕ ky) ar bs (ht + v) = false := by simpa using cm
     rw [if_pos (by rw [cf]; decide)]
     obtain ⟨b1, b2, b3, b4⟩ := go u v s' g' a1 a2 a3 (.inr cf)
     exact kasC_pure (kc_bis R hk hu ha hn mo g2 b1 b2 b3 b4 h)
  ·rintro c st' s' ⟨u, v, rfl, rfl, g', a1, a2, a3, a4⟩
   obtain ⟨b1, b2, b3, b4⟩ := go u v s' g' a1 a2 a3 (.inl (by omega))
   exact kc_bis R hk hu ha hn mo g' b1 b2 b3 b4 h
 ·have cf : beyB ϕ lf (ϕ ky) ar bs ht = false := by simpa using c
  rw [if_neg c]
  have go : ∀ u v, u ≤ ht → u < v → beyB ϕ lf (ϕ ky) ar bs (ht - u) = false → (ht + 1 ≤ v ∨ beyB ϕ lf (ϕ ky) ar bs (ht - v) = true) → ht + 1 - min v (ht + 1) ≤ ht - u ∧ ht - u ≤ n ∧ (∀ i, i < ht + 1 - min v (ht + 1) → beyB ϕ lf (ϕ ky) ar bs i = true) ∧ ∀ i, ht - u ≤ i → i < n → beyB ϕ lf (ϕ ky) ar bs i = false := fun u v a1 a2 a3 a4 => by
   refine ⟨by omega, by omega, fun i hi => ?_, fun i h1 h2 => mo' _ i h1 h2 a3⟩
   rcases a4 with z | z
   ·omega
   ·exact mo i (ht - v) (by omega) (by omega) z
  refine kasC_bind (kc_for (fun t c st' s' => ∃ u v, c = (none, u, v) ∧ st' = st ∧ G s' ∧ u ≤ ht ∧ u < v ∧ beyB ϕ lf (ϕ ky) ar bs (ht - u) = false ∧ t + 1 ≤ v) ⟨0, 1, rfl, rfl, g1, by omega, by omega, cf, by omega⟩ ?_ ?_)
  ·rintro t c st' s' ht' ⟨u, v, rfl, rfl, g', a1, a2, a3, a4⟩
   dsimp only
   by_cases c1 : v ≥ ht + 1
   ·rw [if_pos c1]
    obtain ⟨b1, b2, b3, b4⟩ := go u v a1 a2 a3 (.inl c1)
    exact kasC_pure (kc_bis R hk hu ha hn mo g' b1 b2 b3 b4 h)
   ·rw [if_neg c1]
    refine kasC_bind (kc_bey R hk hu ha (by omega) g' fun s2 g2 => ?_)
    dsimp only
    by_cases cm : beyB ϕ lf (ϕ ky) ar bs (ht - v) = true
    ·rw [if_pos cm]
     obtain ⟨b1, b2, b3, b4⟩ := go u v a1 a2 a3 (.inr cm)
     exact kasC_pure (kc_bis R hk hu ha hn mo g2 b1 b2 b3 b4 h)
    ·have cf2 : beyB ϕ lf (ϕ ky) ar bs (ht - v) = false := by simpa using cm
     rw [if_neg cm]
     exact kasC_pure ⟨v, 2 * v + 1, rfl, rfl, g2, by omega, by omega, cf2, by omega⟩
  ·rintro c st' s' ⟨u, v, rfl, rfl, g', a1, a2, a3, a4⟩
   obtain ⟨b1, b2, b3, b4⟩ := go u v a1 a2 a3 (.inl (by omega))
   exact kc_bis R hk hu ha hn mo g' b1 b2 b3 b4 h
end
end Tim
namespace Tim
open PySem PySem.W PyProof.Rows
abbrev Up (ϕ : Keyed → Nat) (l : List Keyed) : Prop := l.Pairwise fun x y => ϕ x ≤ ϕ y
structure Lo (ϕ : Keyed → Nat) (T o X Y : List Keyed) : Prop where
 px : Up ϕ (o ++ X)
 py : Up ϕ (o ++ Y)
 pm : (o ++ X ++ Y).Perm T
section
variable {ϕ : Keyed → Nat} {T o X Y x y : List Keyed}
theorem Lo.goX (h : Lo ϕ T o (x ++ X) Y) (hx : ∀ u ∈ x, ∀ v ∈ Y, ϕ u ≤ ϕ v) : Lo ϕ T (o ++ x) X Y := by
 obtain ⟨h1, h2, h3⟩ := h
 refine ⟨by rw [List.append_assoc]; exact h1, ?_, by rw [List.append_assoc o x X]; exact h3⟩
 unfold Up at *
 rw [List.pairwise_append] at h1 h2 ⊢
 rw [List.pairwise_append] at h1
 rw [List.pairwise_append]
 refine ⟨⟨h1.1, h1.2.1.1, fun a ha b hb => h1.2.2 a ha b (List.mem_append_left _ hb)⟩, h2.2.1, fun a ha b hb => ?_⟩
 rcases List.mem_append.mp ha with z | z
 ·exact h2.2.2 a z b hb
 ·exact hx a z b hb
theorem Lo.swap (h : Lo ϕ T o X Y) : Lo ϕ T o Y X := ⟨h.py, h.px, (by
 rw [List.append_assoc]
 exact ((List.perm_append_comm.append_left o).trans (by rw [← List.append_assoc])).trans h.pm)⟩
theorem Lo.goY (h : Lo ϕ T o X (y ++ Y)) (hy : ∀ u ∈ y, ∀ v ∈ X, ϕ u ≤ ϕ v) : Lo ϕ T (o ++ y) X Y := (h.swap.goX hy).swap
theorem Lo.len (h : Lo ϕ T o X Y) : o.length + X.length + Y.length = T.length := by
 have := h.pm.length_eq
 simp only [List.length_append] at this
 exact this
end
theorem at_ {a : Array Keyed} {i : Nat} (h : i < a.size) : ∃ x, a[i]? = some x ∧ a.toList.drop i = x :: a.toList.drop (i + 1) :=
 ⟨a[i], Array.getElem?_eq_getElem h, by rw [List.drop_eq_getElem_cons (by simpa using h)]; simp⟩
theorem push_l (o : Array Keyed) (x : Keyed) : (o.push x).toList = o.toList ++ [x] := by simp
theorem ext_l (o : Array Keyed) (i k : Nat) : (o.extract i (i + k)).toList = (o.toList.drop i).take k := by
 rw [Array.toList_extract]
 simp
theorem ext_end (o : Array Keyed) (i : Nat) : (o.extract i o.size).toList = o.toList.drop i := by
 rw [Array.toList_extract, List.extract_eq_take_drop]
 exact List.take_of_length_le (by simp)
theorem ext_0 (o : Array Keyed) (i : Nat) : (o.extract 0 i).toList = o.toList.take i := by
 rw [Array.toList_extract]
 simp
theorem app_l (o p : Array Keyed) : (o ++ p).toList = o.toList ++ p.toList := by simp
theorem drop_cut (l : List Keyed) (i k : Nat) : l.drop i = (l.drop i).take k ++ l.drop (i + k) := by
 rw [← List.drop_drop, List.take_append_drop]
def Sim (st st' : SortSt) : Prop := kindOf st' = kindOf st ∧ arrOf st' = arrOf st ∧ pendingOf st' = pendingOf st ∧ failedOf st' = failedOf st
theorem Sim.refl (st : SortSt) : Sim st st := ⟨rfl, rfl, rfl, rfl⟩
theorem Sim.trans {a b c : SortSt} (h : Sim a b) (k : Sim b c) : Sim a c := ⟨k.1.trans h.1, k.2.1.trans h.2.1, k.2.2.1.trans h.2.2.1, k.2.2.2.trans h.2.2.2⟩
noncomputable def setG' : Nat → StateT SortSt Sem Unit := sortPriv% PySem.Builtin.setMinGallop
theorem setG'_eq (n : Nat) : setG' n = modify fun z => SortSt.mk' (kindOf z) (arrOf z) (pendingOf z) n (failedOf z) := rfl
section
variable {prog : Program} {w : World} {A : Around} {E : Value → Shared → Prop} {κ : SortKind} {ϕ : Keyed → Nat} {U : Keyed → Prop} {G : Shared → Prop}
theorem kc_setG {n : Nat} {Q : Unit → SortSt → Shared → Prop} {st : SortSt} {s : Shared} (h : ∀ st', Sim st st' → Q () st' s) : kasC (model prog w) A E (setG' n) Q st s := by
 rw [setG'_eq]
 exact kasC_modify (h _ ⟨rfl, rfl, rfl, rfl⟩)
theorem kc_rule {n : String} {Q : Unit → SortSt → Shared → Prop} {st : SortSt} {s : Shared} (h : Q () st s) : kasC (model prog w) A E (liftM (rule n) : StateT SortSt Sem Unit) Q st s :=
 kasC_lift (wpAny_rule h)
theorem fx_mem {a : Array Keyed} {bs k : Nat} {u : Keyed} (h : u ∈ (a.toList.drop bs).take k) : ∃ t, t < k ∧ bs + t < a.size ∧ fx ϕ a (bs + t) = ϕ u := by
 obtain ⟨t, ht, e⟩ := List.getElem_of_mem h
 have ht1 : t < k := by rw [List.length_take] at ht; omega
 have ht2 : bs + t < a.size := by rw [List.length_take, List.length_drop, Array.length_toList] at ht; omega
 refine ⟨t, ht1, ht2, ?_⟩
 have e2 : a[bs + t]? = some u := by
  rw [← e, Array.getElem?_eq_getElem ht2]
  simp
 exact fx_at e2
def UpTo (ϕ : Keyed → Nat) (a : Array Keyed) (p q : Nat) : Prop := ∀ i j, p ≤ i → i ≤ j → j < q → fx ϕ a i ≤ fx ϕ a j
theorem UpTo.of {a : Array Keyed} (h : Up ϕ a.toList) : UpTo ϕ a 0 a.size := fun i j _ hij hj => by
 have e1 : a[i]? = some a[i] := Array.getElem?_eq_getElem (by omega)
 have e2 : a[j]? = some a[j] := Array.getElem?_eq_getElem hj
 rw [fx_at e1, fx_at e2]
 rcases Nat.lt_or_ge i j with c | c
 ·have := List.pairwise_iff_getElem.mp h i j (by simpa using (by omega : i < a.size)) (by simpa using hj) c
  simpa using this
 ·have : i = j := by omega
  subst this
  exact Nat.le_refl _
theorem UpTo.sub {a : Array Keyed} {p q p' q' : Nat} (h : UpTo ϕ a p q) (h1 : p ≤ p') (h2 : q' ≤ q) : UpTo ϕ a p' q' := fun i j a1 a2 a3 => h i j (by omega) a2 (by omega)
theorem kc_gal (R : Rank prog w A κ ϕ U G) {lf : Bool} {ky : Keyed} {ar : Array Keyed} {bs n ht : Nat} {Q : Option Nat → SortSt → Shared → Prop} {st : SortSt} {s : Shared} (hk : kindOf st = κ) (hu : U ky) (ha : Al U ar) (hn : bs + n ≤ ar.size) (hh : ht < n)
  (up : UpTo ϕ ar bs (bs + n)) (g : G s)
  (h : ∀ q s', q ≤ n → (∀ u ∈ (ar.toList.drop bs).take q, ϕ u ≤ ϕ ky) → (∀ u ∈ (ar.toList.drop (bs + q)).take (n - q), ϕ ky ≤ ϕ u) → G s' → Q (some q) st s') : kasC (model prog w) A E (galp' lf ky ar bs n ht) Q st s := by
 refine kc_galp R hk hu ha hn hh (fun i j hij hj => ?_) g fun q s' hq h1 h2 g' => h q s' hq (fun u hu => ?_) (fun u hu => ?_) g'
 ·have := up (bs + i) (bs + j) (by omega) (by omega) (by omega)
  unfold beyB
  cases lf with
  | true => simp; omega
  | false => simp; omega
 ·obtain ⟨t, b1, b2, b3⟩ := fx_mem (ϕ := ϕ) hu
  have := h1 t b1
  unfold beyB at this
  cases lf with
  | true => simp at this; omega
  | false => simp at this; omega
 ·obtain ⟨t, b1, b2, b3⟩ := fx_mem (ϕ := ϕ) hu
  have := h2 (q + t) (by omega) (by omega)
  unfold beyB at this
  rw [← Nat.add_assoc] at this
  cases lf with
  | true => simp at this; omega
  | false => simp at this; omega
end
noncomputable def mgLo' : Array Keyed → Array Keyed → StateT SortSt Sem (Array Keyed) := sortPriv% PySem.Builtin.mergeLo
noncomputable def endLo (a b o : Array Keyed) (i j : Nat) : Array Keyed := o ++ a.extract i a.size ++ b.extract j b.size
noncomputable def lastLo (a b o : Array Keyed) (i j : Nat) : Array Keyed := o ++ b.extract j b.size ++ a.extract i a.size
noncomputable def loE (a b o : Array Keyed) (i j mg k k1 : Nat) : StateT SortSt Sem (ForInStep (Option (Array Keyed) × Array Keyed × Nat × Nat × Nat × Nat × Nat)) := do
 let x ← elem' a i
 if i + 1 + 1 == a.size then pure (.done (some (lastLo a b (o.push x) (i + 1) j), o.push x, i + 1, j, mg, k, k1))
 else if k < 7 && k1 < 7 then pure (.done (none, o.push x, i + 1, j, mg, k, k1))
 else pure (.yield (none, o.push x, i + 1, j, mg, k, k1))
noncomputable def loD (a b o : Array Keyed) (i j mg k bc : Nat) : StateT SortSt Sem (ForInStep (Option (Array Keyed) × Array Keyed × Nat × Nat × Nat × Nat × Nat)) := do
 let y ← elem' b j
 if j + 1 == b.size then pure (.done (some (endLo a b (o.push y) i (j + 1)), o.push y, i, j + 1, mg, k, bc))
 else do
  let x ← elem' a i
  let some k1 ← galp' true x b (j + 1) (b.size - (j + 1)) 0 | pure (.done (some (endLo a b (o.push y) i (j + 1)), o.push y, i, j + 1, mg, k, bc))
  if k1 > 0 then
   if j + 1 + k1 == b.size then pure (.done (some (endLo a b (o.push y ++ b.extract (j + 1) (j + 1 + k1)) i (j + 1 + k1)), o.push y ++ b.extract (j + 1) (j + 1 + k1), i, j + 1 + k1, mg, k, k1))
   else loE a b (o.push y ++ b.extract (j + 1) (j + 1 + k1)) i (j + 1 + k1) mg k k1
  else loE a b (o.push y) i (j + 1) mg k k1
noncomputable def loC (a b o : Array Keyed) (i j mg ac bc : Nat) : StateT SortSt Sem (ForInStep (Option (Array Keyed) × Array Keyed × Nat × Nat × Nat × Nat × Nat)) := do
 setG' mg
 let y ← elem' b j
 let some k ← galp' false y a i (a.size - i) 0 | pure (.done (some (endLo a b o i j), o, i, j, mg, ac, bc))
 if k > 0 then
  if i + k + 1 == a.size then pure (.done (some (lastLo a b (o ++ a.extract i (i + k)) (i + k) j), o ++ a.extract i (i + k), i + k, j, mg, k, bc))
  else if i + k == a.size then pure (.done (some (endLo a b (o ++ a.extract i (i + k)) (i + k) j), o ++ a.extract i (i + k), i + k, j, mg, k, bc))
  else loD a b (o ++ a.extract i (i + k)) (i + k) j mg k bc
 else loD a b o i j mg k bc
noncomputable def loB (a b : Array Keyed) (c : (Option (Array Keyed) × Array Keyed × Nat × Nat × Nat × Nat × Nat)) : StateT SortSt Sem (ForInStep (Option (Array Keyed) × Array Keyed × Nat × Nat × Nat × Nat × Nat)) :=
 if c.2.2.2.2.1 > 1 then loC a b c.2.1 c.2.2.1 c.2.2.2.1 (c.2.2.2.2.1 - 1) c.2.2.2.2.2.1 c.2.2.2.2.2.2
 else loC a b c.2.1 c.2.2.1 c.2.2.2.1 c.2.2.2.2.1 c.2.2.2.2.2.1 c.2.2.2.2.2.2
noncomputable def loM (a b : Array Keyed) (mg : Nat) (c : (Option (Array Keyed) × Array Keyed × Nat × Nat × Nat × Nat)) : StateT SortSt Sem (ForInStep (Option (Array Keyed) × Array Keyed × Nat × Nat × Nat × Nat)) := do
 let y ← elem' b c.2.2.2.1
 let x ← elem' a c.2.2.1
 let some bw ← lt' y x | pure (.done (some (endLo a b c.2.1 c.2.2.1 c.2.2.2.1), c.2.1, c.2.2.1, c.2.2.2.1, c.2.2.2.2.1, c.2.2.2.2.2))
 if bw then do
  let y ← elem' b c.2.2.2.1
  if c.2.2.2.1 + 1 == b.size then pure (.done (some (endLo a b (c.2.1.push y) c.2.2.1 (c.2.2.2.1 + 1)), c.2.1.push y, c.2.2.1, c.2.2.2.1 + 1, 0, c.2.2.2.2.2 + 1))
  else if c.2.2.2.2.2 + 1 ≥ mg then pure (.done (none, c.2.1.push y, c.2.2.1, c.2.2.2.1 + 1, 0, c.2.2.2.2.2 + 1))
  else pure (.yield (none, c.2.1.push y, c.2.2.1, c.2.2.2.1 + 1, 0, c.2.2.2.2.2 + 1))
 else do
  let x ← elem' a c.2.2.1
  if c.2.2.1 + 1 + 1 == a.size then pure (.done (some (lastLo a b (c.2.1.push x) (c.2.2.1 + 1) c.2.2.2.1), c.2.1.push x, c.2.2.1 + 1, c.2.2.2.1, c.2.2.2.2.1 + 1, 0))
  else if c.2.2.2.2.1 + 1 ≥ mg then pure (.done (none, c.2.1.push x, c.2.2.1 + 1, c.2.2.2.1, c.2.2.2.2.1 + 1, 0))
  else pure (.yield (none, c.2.1.push x, c.2.2.1 + 1, c.2.2.2.1, c.2.2.2.2.1 + 1, 0))
noncomputable def loO (a b : Array Keyed) (c : (Option (Array Keyed) × Array Keyed × Nat × Nat × Nat)) : StateT SortSt Sem (ForInStep (Option (Array Keyed) × Array Keyed × Nat × Nat × Nat)) := do
 let d ← forIn [0:a.size + b.size] ((none, c.2.1, c.2.2.1, c.2.2.2.1, 0, 0) : (Option (Array Keyed) × Array Keyed × Nat × Nat × Nat × Nat)) fun _ => loM a b c.2.2.2.2
 Break.runK.match_1 (motive := fun _ => StateT SortSt Sem (ForInStep (Option (Array Keyed) × Array Keyed × Nat × Nat × Nat))) d.1 (fun r => pure (.done (some r, d.2.1, d.2.2.1, d.2.2.2.1, c.2.2.2.2))) fun _ => do
  rule "list.sort.gallop"
  let e ← forIn [0:a.size + b.size] ((none, d.2.1, d.2.2.1, d.2.2.2.1, c.2.2.2.2 + 1, d.2.2.2.2.1, d.2.2.2.2.2) : (Option (Array Keyed) × Array Keyed × Nat × Nat × Nat × Nat × Nat)) fun _ => loB a b
  Break.runK.match_1 (motive := fun _ => StateT SortSt Sem (ForInStep (Option (Array Keyed) × Array Keyed × Nat × Nat × Nat))) e.1 (fun r => pure (.done (some r, e.2.1, e.2.2.1, e.2.2.2.1, e.2.2.2.2.1))) fun _ => do
   setG' (e.2.2.2.2.1 + 1)
   pure (.yield (none, e.2.1, e.2.2.1, e.2.2.2.1, e.2.2.2.2.1 + 1))
theorem mgLo'_eq (a b : Array Keyed) : mgLo' a b = (do
 rule "list.sort.merge-lo"
 let y ← elem' b 0
 if 1 == b.size then pure (endLo a b #[y] 0 1)
 else if 0 + 1 == a.size then pure (lastLo a b #[y] 0 1)
 else do
  let z ← get
  let c ← forIn [0:a.size + b.size] ((none, #[y], 0, 1, gallopOf z) : (Option (Array Keyed) × Array Keyed × Nat × Nat × Nat)) fun _ => loO a b
  Break.runK.match_1 (motive := fun _ => StateT SortSt Sem (Array Keyed)) c.1 (fun r => pure r) fun _ => unsupported "internal:list.sort.merge-bound") := rfl
section
variable {prog : Program} {w : World} {A : Around} {E : Value → Shared → Prop} {κ : SortKind} {ϕ : Keyed → Nat} {U : Keyed → Prop} {G : Shared → Prop}
theorem up_head {x : Keyed} {l : List Keyed} (h : Up ϕ (x :: l)) : ∀ v ∈ x :: l, ϕ x ≤ ϕ v := fun v hv => by
 rcases List.mem_cons.mp hv with e | e
 ·exact Nat.le_of_eq (by rw [e])
 ·exact (List.pairwise_cons.mp h).1 v e
theorem Lo.hx {T o X Y : List Keyed} (h : Lo ϕ T o X Y) : Up ϕ X := (List.pairwise_append.mp h.px).2.1
theorem Lo.hy {T o X Y : List Keyed} (h : Lo ϕ T o X Y) : Up ϕ Y := (List.pairwise_append.mp h.py).2.1
def LoI (ϕ : Keyed → Nat) (a b o : Array Keyed) (i j : Nat) : Prop := Lo ϕ (a.toList ++ b.toList) o.toList (a.toList.drop i) (b.toList.drop j)
def Ok (ϕ : Keyed → Nat) (a b r : Array Keyed) : Prop := Up ϕ r.toList ∧ r.toList.Perm (a.toList ++ b.toList)
theorem LoI.end1 {a b o : Array Keyed} {i j : Nat} (h : LoI ϕ a b o i j) (e : i = a.size ∨ j = b.size) : Ok ϕ a b (endLo a b o i j) := by
 have t : (endLo a b o i j).toList = o.toList ++ a.toList.drop i ++ b.toList.drop j := by
  unfold endLo
  rw [app_l, app_l, ext_end, ext_end]
 unfold Ok
 rw [t]
 refine ⟨?_, h.pm⟩
 rcases e with e | e
 ·have : a.toList.drop i = [] := by rw [e]; simp
  rw [this, List.append_nil]
  exact h.py
 ·have : b.toList.drop j = [] := by rw [e]; simp
  rw [this, List.append_nil]
  exact h.px
theorem LoI.end2 {a b o : Array Keyed} {i j : Nat} (h : LoI ϕ a b o i j) (e : i + 1 = a.size) (hl : ∀ x, a[a.size - 1]? = some x → ∀ y ∈ b.toList, ϕ y ≤ ϕ x) : Ok ϕ a b (lastLo a b o i j) := by
 have t : (lastLo a b o i j).toList = o.toList ++ b.toList.drop j ++ a.toList.drop i := by
  unfold lastLo
  rw [app_l, app_l, ext_end, ext_end]
 unfold Ok
 rw [t]
 obtain ⟨x, hx, hd⟩ := at_ (show i < a.size by omega)
 have hn : a.toList.drop (i + 1) = [] := by rw [e]; simp
 rw [hn] at hd
 have h' : Lo ϕ (a.toList ++ b.toList) o.toList (a.toList.drop i) (b.toList.drop j ++ []) := by rw [List.append_nil]; exact h
 have := h'.goY fun u hu v hv => by
  rw [hd, List.mem_singleton] at hv
  subst hv
  exact hl v (by rw [← e]; exact hx) u (List.mem_of_mem_drop hu)
 exact ⟨this.px, by have := this.pm; rw [List.append_nil] at this; exact this⟩
theorem LoI.push1 {a b o : Array Keyed} {i j : Nat} {x : Keyed} (h : LoI ϕ a b o i j) (e : a.toList.drop i = x :: a.toList.drop (i + 1)) (hx : ∀ v ∈ b.toList.drop j, ϕ x ≤ ϕ v) : LoI ϕ a b (o.push x) (i + 1) j := by
 unfold LoI at h ⊢
 rw [e] at h
 rw [push_l]
 exact Lo.goX (x := [x]) h fun u hu v hv => by rw [List.mem_singleton.mp hu]; exact hx v hv
theorem LoI.push2 {a b o : Array Keyed} {i j : Nat} {x : Keyed} (h : LoI ϕ a b o i j) (e : b.toList.drop j = x :: b.toList.drop (j + 1)) (hx : ∀ v ∈ a.toList.drop i, ϕ x ≤ ϕ v) : LoI ϕ a b (o.push x) i (j + 1) := by
 unfold LoI at h ⊢
 rw [e] at h
 rw [push_l]
 exact Lo.goY (y := [x]) h fun u hu v hv => by rw [List.mem_singleton.mp hu]; exact hx v hv
theorem LoI.app1 {a b o : Array Keyed} {i j k : Nat} (h : LoI ϕ a b o i j) (hx : ∀ u ∈ (a.toList.drop i).take k, ∀ v ∈ b.toList.drop j, ϕ u ≤ ϕ v) : LoI ϕ a b (o ++ a.extract i (i + k)) (i + k) j := by
 unfold LoI at h ⊢
 rw [drop_cut _ i k] at h
 rw [app_l, ext_l]
 exact h.goX hx
theorem LoI.app2 {a b o : Array Keyed} {i j k : Nat} (h : LoI ϕ a b o i j) (hx : ∀ u ∈ (b.toList.drop j).take k, ∀ v ∈ a.toList.drop i, ϕ u ≤ ϕ v) : LoI ϕ a b (o ++ b.extract j (j + k)) i (j + k) := by
 unfold LoI at h ⊢
 rw [drop_cut _ j k] at h
 rw [app_l, ext_l]
 exact h.goY hx
theorem LoI.size {a b o : Array Keyed} {i j : Nat} (h : LoI ϕ a b o i j) (hi : i ≤ a.size) (hj : j ≤ b.size) : o.size + (a.size - i) + (b.size - j) = a.size + b.size := by
 have := h.len
 simp only [List.length_drop, List.length_append, Array.length_toList] at this
 exact this
def LoX (ϕ : Keyed → Nat) (G : Shared → Prop) (a b : Array Keyed) (st : SortSt) (q : Option (Array Keyed)) (st' : SortSt) (s' : Shared) : Prop := ∃ r, q = some r ∧ Sim st st' ∧ G s' ∧ Ok ϕ a b r
def LoY (ϕ : Keyed → Nat) (G : Shared → Prop) (a b : Array Keyed) (st : SortSt) (t : Nat) (c : (Option (Array Keyed) × Array Keyed × Nat × Nat × Nat × Nat × Nat)) (st' : SortSt) (s' : Shared) : Prop :=
 ∃ o i j mg ac bc, c = (none, o, i, j, mg, ac, bc) ∧ Sim st st' ∧ G s' ∧ LoI ϕ a b o i j ∧ i + 1 < a.size ∧ j < b.size ∧ t + 1 + 1 ≤ o.size
def LoV (ϕ : Keyed → Nat) (G : Shared → Prop) (a b : Array Keyed) (st : SortSt) (t : Nat) (q : Nat) (c : (Option (Array Keyed) × Array Keyed × Nat × Nat × Nat × Nat)) (st' : SortSt) (s' : Shared) : Prop :=
 ∃ o i j ac bc, c = (none, o, i, j, ac, bc) ∧ Sim st st' ∧ G s' ∧ LoI ϕ a b o i j ∧ i + 1 < a.size ∧ j < b.size ∧ t + 1 + q ≤ o.size
def LoW (ϕ : Keyed → Nat) (G : Shared → Prop) (a b : Array Keyed) (st : SortSt) (t : Nat) (c : (Option (Array Keyed) × Array Keyed × Nat × Nat × Nat)) (st' : SortSt) (s' : Shared) : Prop :=
 ∃ o i j mg, c = (none, o, i, j, mg) ∧ Sim st st' ∧ G s' ∧ LoI ϕ a b o i j ∧ i + 1 < a.size ∧ j < b.size ∧ t + 1 ≤ o.size
def LoZ {β : Type} (X Y : β → SortSt → Shared → Prop) (r : ForInStep β) (st' : SortSt) (s' : Shared) : Prop :=
 match r with | .done c => X c st' s' | .yield c => Y c st' s'
theorem drop_ {c : Array Keyed} {p k : Nat} (hp : p + k ≤ c.size) : (c.toList.drop (p + k)).take (c.size - p - k) = c.toList.drop (p + k) := List.take_of_length_le (by rw [List.length_drop, Array.length_toList]; omega)
theorem kc_loE {a b o : Array Keyed} {i j mg k k1 t : Nat} {x : Keyed} {st st4 : SortSt} {s5 : Shared} (h1 : ∀ x, a[a.size - 1]? = some x → ∀ y ∈ b.toList, ϕ y ≤ ϕ x) (S4 : Sim st st4) (g5 : G s5) (hx : a[i]? = some x) (hd : a.toList.drop i = x :: a.toList.drop (i + 1))
  (I6 : LoI ϕ a b o i j) (l4 : ∀ u ∈ b.toList.drop j, ϕ x ≤ ϕ u) (hi : i + 1 < a.size) (hj : j < b.size) (hz : t + 1 + 1 ≤ o.size) :
  kasC (model prog w) A E (loE a b o i j mg k k1) (LoZ (fun c st' s' => LoX ϕ G a b st c.1 st' s' ∨ LoY ϕ G a b st t c st' s') (LoY ϕ G a b st t)) st4 s5 := by
 refine kasC_bind (kc_elem hx ?_)
 have I7 := I6.push1 hd l4
 have hz7 : t + 1 + 1 ≤ (o.push x).size := by rw [Array.size_push]; omega
 by_cases e5 : i + 1 + 1 = a.size
 ·rw [if_pos (by simpa using e5)]
  exact kasC_pure (.inl ⟨_, rfl, S4, g5, I7.end2 e5 h1⟩)
 rw [if_neg (by simpa using e5)]
 have hi7 : i + 1 + 1 < a.size := by omega
 split
 ·exact kasC_pure (.inr ⟨_, _, _, _, _, _, rfl, S4, g5, I7, hi7, hj, hz7⟩)
 ·exact kasC_pure ⟨_, _, _, _, _, _, rfl, S4, g5, I7, hi7, hj, hz7⟩
theorem kc_loD (R : Rank prog w A κ ϕ U G) {a b o : Array Keyed} {i j mg k bc t : Nat} {y : Keyed} {st st4 : SortSt} {s4 : Shared} (hk : kindOf st = κ) (ha : Al U a) (hb : Al U b) (ub : Up ϕ b.toList) (h1 : ∀ x, a[a.size - 1]? = some x → ∀ y ∈ b.toList, ϕ y ≤ ϕ x) (S4 : Sim st st4) (g4 : G s4)
  (hy : b[j]? = some y) (hd : b.toList.drop j = y :: b.toList.drop (j + 1)) (I4 : LoI ϕ a b o i j) (l2 : ∀ u ∈ a.toList.drop i, ϕ y ≤ ϕ u) (hi : i + 1 < a.size) (hj : j < b.size) (hz : t + 1 + 1 ≤ o.size) :
  kasC (model prog w) A E (loD a b o i j mg k bc) (LoZ (fun c st' s' => LoX ϕ G a b st c.1 st' s' ∨ LoY ϕ G a b st t c st' s') (LoY ϕ G a b st t)) st4 s4 := by
 refine kasC_bind (kc_elem hy ?_)
 have I5 := I4.push2 hd l2
 by_cases e3 : j + 1 = b.size
 ·rw [if_pos (by simpa using e3)]
  exact kasC_pure (.inl ⟨_, rfl, S4, g4, I5.end1 (.inr e3)⟩)
 rw [if_neg (by simpa using e3)]
 obtain ⟨x1, hx1, hdx1⟩ := at_ (show i < a.size by omega)
 have mx := up_head (ϕ := ϕ) (hdx1 ▸ I5.hx)
 rw [← hdx1] at mx
 have hz5 : t + 1 + 1 ≤ (o.push y).size := by rw [Array.size_push]; omega
 have hj5 : j + 1 < b.size := by omega
 clear e3 I4 l2 hd hz hj
 refine kasC_bind (kc_elem hx1 (kasC_bind (kc_gal R (S4.1.trans hk) (ha _ _ hx1) hb (by omega) (by omega) ((UpTo.of ub).sub (by omega) (by omega)) g4 fun k' s5 hk2 l3 l4 g5 => ?_)))
 rw [drop_ (by omega)] at l4
 dsimp only
 have I6 := I5.app2 (k := k') fun u hu v hv => Nat.le_trans (l3 u hu) (mx v hv)
 have hz6 : t + 1 + 1 ≤ (o.push y ++ b.extract (j + 1) (j + 1 + k')).size := by rw [Array.size_append]; omega
 by_cases ck : k' > 0
 ·rw [if_pos ck]
  by_cases e4 : j + 1 + k' = b.size
  ·rw [if_pos (by simpa using e4)]
   exact kasC_pure (.inl ⟨_, rfl, S4, g5, I6.end1 (.inr e4)⟩)
  rw [if_neg (by simpa using e4)]
  exact kc_loE h1 S4 g5 hx1 hdx1 I6 l4 hi (by omega) hz6
 ·rw [if_neg ck]
  have k0 : k' = 0 := by omega
  subst k0
  rw [Nat.add_zero] at l4
  exact kc_loE h1 S4 g5 hx1 hdx1 I5 l4 hi hj5 hz5
theorem kc_loC (R : Rank prog w A κ ϕ U G) {a b o : Array Keyed} {i j mg ac bc t : Nat} {st st3 : SortSt} {s3 : Shared} (hk : kindOf st = κ) (ha : Al U a) (hb : Al U b) (ua : Up ϕ a.toList) (ub : Up ϕ b.toList) (h1 : ∀ x, a[a.size - 1]? = some x → ∀ y ∈ b.toList, ϕ y ≤ ϕ x) (S3 : Sim st st3) (g3 : G s3)
  (I3 : LoI ϕ a b o i j) (hi : i + 1 < a.size) (hj : j < b.size) (hz : t + 1 + 1 ≤ o.size) :
  kasC (model prog w) A E (loC a b o i j mg ac bc) (LoZ (fun c st' s' => LoX ϕ G a b st c.1 st' s' ∨ LoY ϕ G a b st t c st' s') (LoY ϕ G a b st t)) st3 s3 := by
 refine kasC_bind (kc_setG fun st4 S4 => ?_)
 replace S4 := S3.trans S4
 obtain ⟨y, hy, hdy⟩ := at_ hj
 have my := up_head (ϕ := ϕ) (hdy ▸ I3.hy)
 rw [← hdy] at my
 refine kasC_bind (kc_elem hy (kasC_bind (kc_gal R (S4.1.trans hk) (hb _ _ hy) ha (by omega) (by omega) ((UpTo.of ua).sub (by omega) (by omega)) g3 fun k s4 hk1 l1 l2 g4 => ?_)))
 rw [drop_ (by omega)] at l2
 dsimp only
 have I4 := I3.app1 (k := k) fun u hu v hv => Nat.le_trans (l1 u hu) (my v hv)
 have hz4 : t + 1 + 1 ≤ (o ++ a.extract i (i + k)).size := by rw [Array.size_append]; omega
 by_cases ck : k > 0
 ·rw [if_pos ck]
  by_cases e1 : i + k + 1 = a.size
  ·rw [if_pos (by simpa using e1)]
   exact kasC_pure (.inl ⟨_, rfl, S4, g4, I4.end2 e1 h1⟩)
  rw [if_neg (by simpa using e1)]
  by_cases e2 : i + k = a.size
  ·rw [if_pos (by simpa using e2)]
   exact kasC_pure (.inl ⟨_, rfl, S4, g4, I4.end1 (.inl e2)⟩)
  rw [if_neg (by simpa using e2)]
  exact kc_loD R hk ha hb ub h1 S4 g4 hy hdy I4 l2 (by omega) hj hz4
 ·rw [if_neg ck]
  have k0 : k = 0 := by omega
  subst k0
  rw [Nat.add_zero] at l2
  exact kc_loD R hk ha hb ub h1 S4 g4 hy hdy I3 l2 hi hj hz
theorem kc_loM (R : Rank prog w A κ ϕ U G) {a b : Array Keyed} {mg t q : Nat} {c : (Option (Array Keyed) × Array Keyed × Nat × Nat × Nat × Nat)} {st st2 : SortSt} {s2 : Shared} (hk : kindOf st = κ) (ha : Al U a) (hb : Al U b) (h1 : ∀ x, a[a.size - 1]? = some x → ∀ y ∈ b.toList, ϕ y ≤ ϕ x)
  (h : LoV ϕ G a b st t q c st2 s2) : kasC (model prog w) A E (loM a b mg c) (LoZ (fun c st' s' => LoX ϕ G a b st c.1 st' s' ∨ LoV ϕ G a b st t 1 c st' s') (LoV ϕ G a b st t (q + 1))) st2 s2 := by
 obtain ⟨o, i, j, ac, bc, rfl, S2, g2, I2, hi2, hj2, hs2⟩ := h
 unfold loM
 dsimp only
 obtain ⟨x, hx, hdx⟩ := at_ (show i < a.size by omega)
 obtain ⟨y, hy, hdy⟩ := at_ hj2
 refine kasC_bind (kc_elem hy (kasC_bind (kc_elem hx (kasC_bind (kc_lt R (S2.1.trans hk) (hb _ _ hy) (ha _ _ hx) g2 fun s3 g3 => ?_)))))
 dsimp only
 have mx := up_head (ϕ := ϕ) (hdx ▸ I2.hx)
 have my := up_head (ϕ := ϕ) (hdy ▸ I2.hy)
 rw [← hdx] at mx
 rw [← hdy] at my
 by_cases cc : ϕ y < ϕ x
 ·rw [if_pos (by simpa using cc)]
  refine kasC_bind (kc_elem hy ?_)
  have I3 := I2.push2 hdy fun v hv => Nat.le_trans (Nat.le_of_lt cc) (mx v hv)
  by_cases e1 : j + 1 = b.size
  ·rw [if_pos (by simpa using e1)]
   exact kasC_pure (.inl ⟨_, rfl, S2, g3, I3.end1 (.inr e1)⟩)
  rw [if_neg (by simpa using e1)]
  have z : t + 1 + (q + 1) ≤ (o.push y).size := by rw [Array.size_push]; omega
  by_cases e2 : bc + 1 ≥ mg
  ·rw [if_pos e2]
   exact kasC_pure (.inr ⟨_, _, _, _, _, rfl, S2, g3, I3, hi2, by omega, by omega⟩)
  ·rw [if_neg e2]
   exact kasC_pure ⟨_, _, _, _, _, rfl, S2, g3, I3, hi2, by omega, z⟩
 ·rw [if_neg (by simpa using cc)]
  refine kasC_bind (kc_elem hx ?_)
  have I3 := I2.push1 hdx fun v hv => Nat.le_trans (by omega) (my v hv)
  by_cases e1 : i + 1 + 1 = a.size
  ·rw [if_pos (by simpa using e1)]
   exact kasC_pure (.inl ⟨_, rfl, S2, g3, I3.end2 e1 h1⟩)
  rw [if_neg (by simpa using e1)]
  have z : t + 1 + (q + 1) ≤ (o.push x).size := by rw [Array.size_push]; omega
  by_cases e2 : ac + 1 ≥ mg
  ·rw [if_pos e2]
   exact kasC_pure (.inr ⟨_, _, _, _, _, rfl, S2, g3, I3, by omega, hj2, by omega⟩)
  ·rw [if_neg e2]
   exact kasC_pure ⟨_, _, _, _, _, rfl, S2, g3, I3, by omega, hj2, z⟩
theorem kc_loB (R : Rank prog w A κ ϕ U G) {a b : Array Keyed} {t : Nat} {c : (Option (Array Keyed) × Array Keyed × Nat × Nat × Nat × Nat × Nat)} {st st3 : SortSt} {s3 : Shared} (hk : kindOf st = κ) (ha : Al U a) (hb : Al U b) (ua : Up ϕ a.toList) (ub : Up ϕ b.toList) (h1 : ∀ x, a[a.size - 1]? = some x → ∀ y ∈ b.toList, ϕ y ≤ ϕ x)
  (h : LoY ϕ G a b st t c st3 s3) : kasC (model prog w) A E (loB a b c) (LoZ (fun c st' s' => LoX ϕ G a b st c.1 st' s' ∨ LoY ϕ G a b st t c st' s') (LoY ϕ G a b st t)) st3 s3 := by
 obtain ⟨o, i, j, mg, ac, bc, rfl, S3, g3, I3, hi3, hj3, hs3⟩ := h
 unfold loB
 split
 ·exact kc_loC R hk ha hb ua ub h1 S3 g3 I3 hi3 hj3 hs3
 ·exact kc_loC R hk ha hb ua ub h1 S3 g3 I3 hi3 hj3 hs3
theorem kc_loO (R : Rank prog w A κ ϕ U G) {a b : Array Keyed} {t : Nat} {c : (Option (Array Keyed) × Array Keyed × Nat × Nat × Nat)} {st st' : SortSt} {s' : Shared} (hk : kindOf st = κ) (ha : Al U a) (hb : Al U b) (ua : Up ϕ a.toList) (ub : Up ϕ b.toList) (h1 : ∀ x, a[a.size - 1]? = some x → ∀ y ∈ b.toList, ϕ y ≤ ϕ x) (pa : 0 < a.size + b.size)
  (h : LoW ϕ G a b st t c st' s') : kasC (model prog w) A E (loO a b c) (LoZ (fun c st' s' => LoX ϕ G a b st c.1 st' s') (LoW ϕ G a b st (t + 1))) st' s' := by
 obtain ⟨o, i, j, mg, rfl, S, g', I, hi, hj, hs⟩ := h
 refine kasC_bind (kc_mono (Q := fun c st' s' => LoX ϕ G a b st c.1 st' s' ∨ LoV ϕ G a b st t 1 c st' s')
  (kc_for (LoV ϕ G a b st t) ⟨o, i, j, 0, 0, rfl, S, g', I, hi, hj, hs⟩ (fun q c st2 s2 hq V => kc_loM R hk ha hb h1 V) ?_) ?_)
 ·rintro c st2 s2 ⟨o, i, j, ac, bc, rfl, S2, g2, I2, hi2, hj2, hs2⟩
  exact .inr ⟨o, i, j, ac, bc, rfl, S2, g2, I2, hi2, hj2, by omega⟩
 ·rintro c st2 s2 (⟨r, e, S2, g2, O⟩ | ⟨o, i, j, ac, bc, rfl, S2, g2, I2, hi2, hj2, hs2⟩)
  ·rw [e]
   exact kasC_pure ⟨r, rfl, S2, g2, O⟩
  dsimp only
  refine kasC_bind (kc_rule ?_)
  refine kasC_bind (kc_mono (Q := fun c st' s' => LoX ϕ G a b st c.1 st' s' ∨ LoY ϕ G a b st t c st' s')
   (kc_for (fun _ => LoY ϕ G a b st t) ⟨o, i, j, _, ac, bc, rfl, S2, g2, I2, hi2, hj2, hs2⟩ (fun q c st3 s3 hq Y => kc_loB R hk ha hb ua ub h1 Y) fun c st3 s3 Y => .inr Y) ?_)
  rintro c st3 s3 (⟨r, e, S3, g3, O⟩ | ⟨o, i, j, mg, ac, bc, rfl, S3, g3, I3, hi3, hj3, hs3⟩)
  ·rw [e]
   exact kasC_pure ⟨r, rfl, S3, g3, O⟩
  dsimp only
  refine kasC_bind (kc_setG fun st4 S4 => ?_)
  exact kasC_pure ⟨o, i, j, _, rfl, S3.trans S4, g3, I3, hi3, hj3, hs3⟩
theorem kc_lo (R : Rank prog w A κ ϕ U G) {a b : Array Keyed} {Q : Array Keyed → SortSt → Shared → Prop} {st : SortSt} {s : Shared} (hk : kindOf st = κ) (ha : Al U a) (hb : Al U b) (ua : Up ϕ a.toList) (ub : Up ϕ b.toList) (pa : 0 < a.size) (pb : 0 < b.size)
  (h0 : ∀ y, b[0]? = some y → ∀ x ∈ a.toList, ϕ y ≤ ϕ x) (h1 : ∀ x, a[a.size - 1]? = some x → ∀ y ∈ b.toList, ϕ y ≤ ϕ x) (g : G s)
  (h : ∀ r st' s', Sim st st' → G s' → Ok ϕ a b r → Q r st' s') : kasC (model prog w) A E (mgLo' a b) Q st s := by
 rw [mgLo'_eq]
 refine kasC_bind (kc_rule ?_)
 obtain ⟨y0, hy0, hd0⟩ := at_ pb
 refine kasC_bind (kc_elem hy0 ?_)
 have I0 : LoI ϕ a b #[y0] 0 1 := by
  have : LoI ϕ a b #[] 0 0 := ⟨by simpa using ua, by simpa using ub, by simp⟩
  exact this.push2 hd0 fun v hv => h0 y0 hy0 v (List.mem_of_mem_drop hv)
 by_cases c1 : 1 = b.size
 ·rw [if_pos (by simpa using c1)]
  exact kasC_pure (h _ _ _ (Sim.refl _) g (I0.end1 (.inr c1)))
 rw [if_neg (by simpa using c1)]
 by_cases c2 : 0 + 1 = a.size
 ·rw [if_pos (by simpa using c2)]
  exact kasC_pure (h _ _ _ (Sim.refl _) g (I0.end2 c2 h1))
 rw [if_neg (by simpa using c2)]
 refine kasC_bind (kasC_get ?_)
 refine kasC_bind (kc_mono (Q := fun c st' s' => LoX ϕ G a b st c.1 st' s') (kc_for (LoW ϕ G a b st)
  ⟨_, _, _, _, rfl, Sim.refl _, g, I0, by omega, by omega, Nat.le_refl 1⟩ (fun t c st' s' ht W => kc_loO R hk ha hb ua ub h1 (by omega) W) ?_) ?_)
 ·rintro c st' s' ⟨o, i, j, mg, rfl, S, g', I, hi, hj, hs⟩
  have := I.size (by omega) (by omega)
  omega
 ·rintro c st' s' ⟨r, e, S, g', O⟩
  rw [e]
  exact kasC_pure (h r st' s' S g' O)
end
end Tim
namespace Tim
open PySem PySem.W PyProof.Rows
noncomputable def mgHi' : Array Keyed → Array Keyed → StateT SortSt Sem (Array Keyed) := sortPriv% PySem.Builtin.mergeHi
noncomputable def endHi (a b o : Array Keyed) (i j : Nat) : Array Keyed := a.extract 0 i ++ b.extract 0 j ++ o.reverse
noncomputable def fstHi (a b o : Array Keyed) (i j : Nat) : Array Keyed := b.extract 0 j ++ a.extract 0 i ++ o.reverse
noncomputable def hiE (a b o : Array Keyed) (i j mg k k1 : Nat) : StateT SortSt Sem (ForInStep (Option (Array Keyed) × Nat × Nat × Array Keyed × Nat × Nat × Nat)) := do
 let x ← elem' a (i - 1)
 if i - 1 == 0 then pure (.done (some (endHi a b (o.push x) (i - 1) j), i - 1, j, o.push x, mg, k, k1))
 else if k < 7 && k1 < 7 then pure (.done (none, i - 1, j, o.push x, mg, k, k1))
 else pure (.yield (none, i - 1, j, o.push x, mg, k, k1))
noncomputable def hiD (a b o : Array Keyed) (i j mg k bc : Nat) : StateT SortSt Sem (ForInStep (Option (Array Keyed) × Nat × Nat × Array Keyed × Nat × Nat × Nat)) := do
 let y ← elem' b (j - 1)
 if j - 1 == 1 then pure (.done (some (fstHi a b (o.push y) i (j - 1)), i, j - 1, o.push y, mg, k, bc))
 else do
  let x ← elem' a (i - 1)
  let some z ← galp' true x b 0 (j - 1) (j - 1 - 1) | pure (.done (some (endHi a b (o.push y) i (j - 1)), i, j - 1, o.push y, mg, k, bc))
  if j - 1 - z > 0 then
   if z == 1 then pure (.done (some (fstHi a b (o.push y ++ (b.extract z (j - 1)).reverse) i z), i, z, o.push y ++ (b.extract z (j - 1)).reverse, mg, k, j - 1 - z))
   else if z == 0 then pure (.done (some (endHi a b (o.push y ++ (b.extract z (j - 1)).reverse) i z), i, z, o.push y ++ (b.extract z (j - 1)).reverse, mg, k, j - 1 - z))
   else hiE a b (o.push y ++ (b.extract z (j - 1)).reverse) i z mg k (j - 1 - z)
  else hiE a b (o.push y) i (j - 1) mg k (j - 1 - z)
noncomputable def hiC (a b o : Array Keyed) (i j mg ac bc : Nat) : StateT SortSt Sem (ForInStep (Option (Array Keyed) × Nat × Nat × Array Keyed × Nat × Nat × Nat)) := do
 setG' mg
 let y ← elem' b (j - 1)
 let some z ← galp' false y a 0 i (i - 1) | pure (.done (some (endHi a b o i j), i, j, o, mg, ac, bc))
 if i - z > 0 then
  if z == 0 then pure (.done (some (endHi a b (o ++ (a.extract z i).reverse) z j), z, j, o ++ (a.extract z i).reverse, mg, i - z, bc))
  else hiD a b (o ++ (a.extract z i).reverse) z j mg (i - z) bc
 else hiD a b o i j mg (i - z) bc
noncomputable def hiB (a b : Array Keyed) (c : (Option (Array Keyed) × Nat × Nat × Array Keyed × Nat × Nat × Nat)) : StateT SortSt Sem (ForInStep (Option (Array Keyed) × Nat × Nat × Array Keyed × Nat × Nat × Nat)) :=
 if c.2.2.2.2.1 > 1 then hiC a b c.2.2.2.1 c.2.1 c.2.2.1 (c.2.2.2.2.1 - 1) c.2.2.2.2.2.1 c.2.2.2.2.2.2
 else hiC a b c.2.2.2.1 c.2.1 c.2.2.1 c.2.2.2.2.1 c.2.2.2.2.2.1 c.2.2.2.2.2.2
noncomputable def hiM (a b : Array Keyed) (mg : Nat) (c : (Option (Array Keyed) × Nat × Nat × Array Keyed × Nat × Nat)) : StateT SortSt Sem (ForInStep (Option (Array Keyed) × Nat × Nat × Array Keyed × Nat × Nat)) := do
 let y ← elem' b (c.2.2.1 - 1)
 let x ← elem' a (c.2.1 - 1)
 let some aw ← lt' y x | pure (.done (some (endHi a b c.2.2.2.1 c.2.1 c.2.2.1), c.2.1, c.2.2.1, c.2.2.2.1, c.2.2.2.2.1, c.2.2.2.2.2))
 if aw then do
  let x ← elem' a (c.2.1 - 1)
  if c.2.1 - 1 == 0 then pure (.done (some (endHi a b (c.2.2.2.1.push x) (c.2.1 - 1) c.2.2.1), c.2.1 - 1, c.2.2.1, c.2.2.2.1.push x, c.2.2.2.2.1 + 1, 0))
  else if c.2.2.2.2.1 + 1 ≥ mg then pure (.done (none, c.2.1 - 1, c.2.2.1, c.2.2.2.1.push x, c.2.2.2.2.1 + 1, 0))
  else pure (.yield (none, c.2.1 - 1, c.2.2.1, c.2.2.2.1.push x, c.2.2.2.2.1 + 1, 0))
 else do
  let y ← elem' b (c.2.2.1 - 1)
  if c.2.2.1 - 1 == 1 then pure (.done (some (fstHi a b (c.2.2.2.1.push y) c.2.1 (c.2.2.1 - 1)), c.2.1, c.2.2.1 - 1, c.2.2.2.1.push y, 0, c.2.2.2.2.2 + 1))
  else if c.2.2.2.2.2 + 1 ≥ mg then pure (.done (none, c.2.1, c.2.2.1 - 1, c.2.2.2.1.push y, 0, c.2.2.2.2.2 + 1))
  else pure (.yield (none, c.2.1, c.2.2.1 - 1, c.2.2.2.1.push y, 0, c.2.2.2.2.2 + 1))
noncomputable def hiO (a b : Array Keyed) (c : (Option (Array Keyed) × Nat × Nat × Array Keyed × Nat)) : StateT SortSt Sem (ForInStep (Option (Array Keyed) × Nat × Nat × Array Keyed × Nat)) := do
 let d ← forIn [0:a.size + b.size] ((none, c.2.1, c.2.2.1, c.2.2.2.1, 0, 0) : (Option (Array Keyed) × Nat × Nat × Array Keyed × Nat × Nat)) fun _ => hiM a b c.2.2.2.2
 Break.runK.match_1 (motive := fun _ => StateT SortSt Sem (ForInStep (Option (Array Keyed) × Nat × Nat × Array Keyed × Nat))) d.1 (fun r => pure (.done (some r, d.2.1, d.2.2.1, d.2.2.2.1, c.2.2.2.2))) fun _ => do
  rule "list.sort.gallop"
  let e ← forIn [0:a.size + b.size] ((none, d.2.1, d.2.2.1, d.2.2.2.1, c.2.2.2.2 + 1, d.2.2.2.2.1, d.2.2.2.2.2) : (Option (Array Keyed) × Nat × Nat × Array Keyed × Nat × Nat × Nat)) fun _ => hiB a b
  Break.runK.match_1 (motive := fun _ => StateT SortSt Sem (ForInStep (Option (Array Keyed) × Nat × Nat × Array Keyed × Nat))) e.1 (fun r => pure (.done (some r, e.2.1, e.2.2.1, e.2.2.2.1, e.2.2.2.2.1))) fun _ => do
   setG' (e.2.2.2.2.1 + 1)
   pure (.yield (none, e.2.1, e.2.2.1, e.2.2.2.1, e.2.2.2.2.1 + 1))
theorem mgHi'_eq (a b : Array Keyed) : mgHi' a b = (do
 rule "list.sort.merge-hi"
 let x ← elem' a (a.size - 1)
 if a.size - 1 == 0 then pure (endHi a b #[x] (a.size - 1) b.size)
 else if b.size == 1 then pure (fstHi a b #[x] (a.size - 1) b.size)
 else do
  let z ← get
  let c ← forIn [0:a.size + b.size] ((none, a.size - 1, b.size, #[x], gallopOf z) : (Option (Array Keyed) × Nat × Nat × Array Keyed × Nat)) fun _ => hiO a b
  Break.runK.match_1 (motive := fun _ => StateT SortSt Sem (Array Keyed)) c.1 (fun r => pure r) fun _ => unsupported "internal:list.sort.merge-bound") := rfl
structure Hi (ϕ : Keyed → Nat) (T O X Y : List Keyed) : Prop where
 px : Up ϕ (X ++ O)
 py : Up ϕ (Y ++ O)
 pm : (X ++ Y ++ O).Perm T
section
variable {ϕ : Keyed → Nat} {T O X Y x y : List Keyed}
theorem Hi.swap (h : Hi ϕ T O X Y) : Hi ϕ T O Y X := ⟨h.py, h.px, (List.perm_append_comm.append_right O).trans h.pm⟩
theorem Hi.goX (h : Hi ϕ T O (X ++ x) Y) (hx : ∀ u ∈ x, ∀ v ∈ Y, ϕ v ≤ ϕ u) : Hi ϕ T (x ++ O) X Y := by
 obtain ⟨h1, h2, h3⟩ := h
 refine ⟨by rw [← List.append_assoc]; exact h1, ?_, ?_⟩
 ·unfold Up at *
  rw [List.append_assoc, List.pairwise_append] at h1
  rw [List.pairwise_append] at h2 ⊢
  refine ⟨h2.1, h1.2.1, fun a ha b hb => ?_⟩
  rcases List.mem_append.mp hb with z | z
  ·exact hx b z a ha
  ·exact h2.2.2 a ha b z
 ·refine List.Perm.trans ?_ h3
  rw [List.append_assoc, List.append_assoc X x Y, List.append_assoc X]
  refine List.Perm.append_left X ?_
  rw [← List.append_assoc]
  exact List.perm_append_comm.append_right O
theorem Hi.goY (h : Hi ϕ T O X (Y ++ y)) (hy : ∀ u ∈ y, ∀ v ∈ X, ϕ v ≤ ϕ u) : Hi ϕ T (y ++ O) X Y := (h.swap.goX hy).swap
theorem Hi.len (h : Hi ϕ T O X Y) : O.length + X.length + Y.length = T.length := by
 have := h.pm.length_eq
 simp only [List.length_append] at this
 omega
theorem Hi.hx (h : Hi ϕ T O X Y) : Up ϕ X := (List.pairwise_append.mp h.px).1
theorem Hi.hy (h : Hi ϕ T O X Y) : Up ϕ Y := (List.pairwise_append.mp h.py).1
theorem up_last {x : Keyed} {l : List Keyed} (h : Up ϕ (l ++ [x])) : ∀ v ∈ l ++ [x], ϕ v ≤ ϕ x := fun v hv => by
 rcases List.mem_append.mp hv with e | e
 ·exact (List.pairwise_append.mp h).2.2 v e x (List.mem_singleton.mpr rfl)
 ·exact Nat.le_of_eq (by rw [List.mem_singleton.mp e])
def HiI (ϕ : Keyed → Nat) (a b o : Array Keyed) (i j : Nat) : Prop := Hi ϕ (a.toList ++ b.toList) o.toList.reverse (a.toList.take i) (b.toList.take j)
theorem atL {a : Array Keyed} {i : Nat} (h : i < a.size) : ∃ x, a[i]? = some x ∧ a.toList.take (i + 1) = a.toList.take i ++ [x] :=
 ⟨a[i], Array.getElem?_eq_getElem h, by rw [List.take_succ_eq_append_getElem (by simpa using h)]; simp⟩
theorem HiI.end1 {a b o : Array Keyed} {i j : Nat} (h : HiI ϕ a b o i j) (e : i = 0 ∨ j = 0) : Ok ϕ a b (endHi a b o i j) := by
 have t : (endHi a b o i j).toList = a.toList.take i ++ b.toList.take j ++ o.toList.reverse := by
  unfold endHi
  rw [app_l, app_l, ext_0, ext_0, Array.toList_reverse]
 unfold Ok
 rw [t]
 refine ⟨?_, h.pm⟩
 rcases e with e | e
 ·subst e
  rw [List.take_zero, List.nil_append]
  exact h.py
 ·subst e
  rw [List.take_zero, List.append_nil]
  exact h.px
theorem HiI.end2 {a b o : Array Keyed} {i j : Nat} (h : HiI ϕ a b o i j) (e : j = 1) (pb : 0 < b.size) (hl : ∀ y, b[0]? = some y → ∀ x ∈ a.toList, ϕ y ≤ ϕ x) : Ok ϕ a b (fstHi a b o i j) := by
 have t : (fstHi a b o i j).toList = b.toList.take j ++ a.toList.take i ++ o.toList.reverse := by
  unfold fstHi
  rw [app_l, app_l, ext_0, ext_0, Array.toList_reverse]
 unfold Ok
 rw [t]
 subst e
 obtain ⟨y, hy, hd⟩ := atL pb
 have h' : Hi ϕ (a.toList ++ b.toList) o.toList.reverse ([] ++ a.toList.take i) (b.toList.take 1) := h
 have := h'.goX fun u hu v hv => by
  rw [hd, List.take_zero, List.nil_append, List.mem_singleton] at hv
  subst hv
  exact hl v hy u (List.mem_of_mem_take hu)
 refine ⟨by rw [List.append_assoc]; exact this.py, ?_⟩
 have := this.pm
 rw [List.nil_append] at this
 rw [List.append_assoc]
 exact this
theorem push_r (o : Array Keyed) (x : Keyed) : (o.push x).toList.reverse = [x] ++ o.toList.reverse := by simp
theorem HiI.push1 {a b o : Array Keyed} {i j : Nat} {x : Keyed} (h : HiI ϕ a b o (i + 1) j) (e : a.toList.take (i + 1) = a.toList.take i ++ [x]) (hx : ∀ v ∈ b.toList.take j, ϕ v ≤ ϕ x) : HiI ϕ a b (o.push x) i j := by
 unfold HiI at h ⊢
 rw [e] at h
 rw [push_r]
 exact h.goX fun u hu v hv => by rw [List.mem_singleton.mp hu]; exact hx v hv
theorem HiI.push2 {a b o : Array Keyed} {i j : Nat} {x : Keyed} (h : HiI ϕ a b o i (j + 1)) (e : b.toList.take (j + 1) = b.toList.take j ++ [x]) (hx : ∀ v ∈ a.toList.take i, ϕ v ≤ ϕ x) : HiI ϕ a b (o.push x) i j := by
 unfold HiI at h ⊢
 rw [e] at h
 rw [push_r]
 exact h.goY fun u hu v hv => by rw [List.mem_singleton.mp hu]; exact hx v hv
theorem take_cut (l : List Keyed) {z i : Nat} (h : z ≤ i) : l.take i = l.take z ++ (l.drop z).take (i - z) := by
 rw [show i = z + (i - z) by omega, List.take_add]
 congr 2
 omega
theorem app_r (o a : Array Keyed) {z i : Nat} (h : z ≤ i) : (o ++ (a.extract z i).reverse).toList.reverse = (a.toList.drop z).take (i - z) ++ o.toList.reverse := by
 have := ext_l a z (i - z)
 rw [show z + (i - z) = i by omega] at this
 rw [app_l, List.reverse_append, Array.toList_reverse, List.reverse_reverse, this]
theorem HiI.app1 {a b o : Array Keyed} {i j z : Nat} (h : HiI ϕ a b o i j) (hz : z ≤ i) (hx : ∀ u ∈ (a.toList.drop z).take (i - z), ∀ v ∈ b.toList.take j, ϕ v ≤ ϕ u) : HiI ϕ a b (o ++ (a.extract z i).reverse) z j := by
 unfold HiI at h ⊢
 rw [take_cut _ hz] at h
 rw [app_r _ _ hz]
 exact h.goX hx
theorem HiI.app2 {a b o : Array Keyed} {i j z : Nat} (h : HiI ϕ a b o i j) (hz : z ≤ j) (hx : ∀ u ∈ (b.toList.drop z).take (j - z), ∀ v ∈ a.toList.take i, ϕ v ≤ ϕ u) : HiI ϕ a b (o ++ (b.extract z j).reverse) i z := by
 unfold HiI at h ⊢
 rw [take_cut _ hz] at h
 rw [app_r _ _ hz]
 exact h.goY hx
theorem HiI.size {a b o : Array Keyed} {i j : Nat} (h : HiI ϕ a b o i j) (hi : i ≤ a.size) (hj : j ≤ b.size) : o.size + i + j = a.size + b.size := by
 have := h.len
 simp only [List.length_take, List.length_append, Array.length_toList, List.length_reverse] at this
 omega
end
section
variable {prog : Program} {w : World} {A : Around} {E : Value → Shared → Prop} {κ : SortKind} {ϕ : Keyed → Nat} {U : Keyed → Prop} {G : Shared → Prop}
def HiY (ϕ : Keyed → Nat) (G : Shared → Prop) (a b : Array Keyed) (st : SortSt) (t : Nat) (c : (Option (Array Keyed) × Nat × Nat × Array Keyed × Nat × Nat × Nat)) (st' : SortSt) (s' : Shared) : Prop :=
 ∃ i j o mg ac bc, c = (none, i, j, o, mg, ac, bc) ∧ Sim st st' ∧ G s' ∧ HiI ϕ a b o i j ∧ 1 ≤ i ∧ i ≤ a.size ∧ 2 ≤ j ∧ j ≤ b.size ∧ t + 1 + 1 ≤ o.size
def HiV (ϕ : Keyed → Nat) (G : Shared → Prop) (a b : Array Keyed) (st : SortSt) (t : Nat) (q : Nat) (c : (Option (Array Keyed) × Nat × Nat × Array Keyed × Nat × Nat)) (st' : SortSt) (s' : Shared) : Prop :=
 ∃ i j o ac bc, c = (none, i, j, o, ac, bc) ∧ Sim st st' ∧ G s' ∧ HiI ϕ a b o i j ∧ 1 ≤ i ∧ i ≤ a.size ∧ 2 ≤ j ∧ j ≤ b.size ∧ t + 1 + q ≤ o.size
def HiW (ϕ : Keyed → Nat) (G : Shared → Prop) (a b : Array Keyed) (st : SortSt) (t : Nat) (c : (Option (Array Keyed) × Nat × Nat × Array Keyed × Nat)) (st' : SortSt) (s' : Shared) : Prop :=
 ∃ i j o mg, c = (none, i, j, o, mg) ∧ Sim st st' ∧ G s' ∧ HiI ϕ a b o i j ∧ 1 ≤ i ∧ i ≤ a.size ∧ 2 ≤ j ∧ j ≤ b.size ∧ t + 1 ≤ o.size
theorem kc_hiE {a b o : Array Keyed} {i j mg k k1 t : Nat} {x : Keyed} {st st4 : SortSt} {s5 : Shared} (S4 : Sim st st4) (g5 : G s5) (hx : a[i]? = some x) (hd : a.toList.take (i + 1) = a.toList.take i ++ [x])
  (I6 : HiI ϕ a b o (i + 1) j) (l3 : ∀ u ∈ b.toList.take j, ϕ u ≤ ϕ x) (hi : i + 1 ≤ a.size) (hj : 2 ≤ j) (hj' : j ≤ b.size) (hz : t + 1 + 1 ≤ o.size) :
  kasC (model prog w) A E (hiE a b o (i + 1) j mg k k1) (LoZ (fun c st' s' => LoX ϕ G a b st c.1 st' s' ∨ HiY ϕ G a b st t c st' s') (HiY ϕ G a b st t)) st4 s5 := by
 unfold hiE
 dsimp only [Nat.add_one_sub_one]
 refine kasC_bind (kc_elem hx ?_)
 have I7 := I6.push1 hd l3
 have hz7 : t + 1 + 1 ≤ (o.push x).size := by rw [Array.size_push]; omega
 by_cases e6 : i = 0
 ·rw [if_pos (by simpa using e6)]
  exact kasC_pure (.inl ⟨_, rfl, S4, g5, I7.end1 (.inl e6)⟩)
 rw [if_neg (by simpa using e6)]
 have hi1 : 1 ≤ i := by omega
 have hi2 : i ≤ a.size := by omega
 split
 ·exact kasC_pure (.inr ⟨_, _, _, _, _, _, rfl, S4, g5, I7, hi1, hi2, hj, hj', hz7⟩)
 ·exact kasC_pure ⟨_, _, _, _, _, _, rfl, S4, g5, I7, hi1, hi2, hj, hj', hz7⟩
theorem kc_hiD (R : Rank prog w A κ ϕ U G) {a b o : Array Keyed} {i j mg k bc t : Nat} {y : Keyed} {st st4 : SortSt} {s4 : Shared} (hk : kindOf st = κ) (ha : Al U a) (hb : Al U b) (ub : Up ϕ b.toList) (pb : 0 < b.size) (h0 : ∀ y, b[0]? = some y → ∀ x ∈ a.toList, ϕ y ≤ ϕ x) (S4 : Sim st st4) (g4 : G s4)
  (hy : b[j]? = some y) (hd : b.toList.take (j + 1) = b.toList.take j ++ [y]) (I4 : HiI ϕ a b o i (j + 1)) (l1 : ∀ u ∈ a.toList.take i, ϕ u ≤ ϕ y) (hi : 1 ≤ i) (hi' : i ≤ a.size) (hj : 1 ≤ j) (hj' : j + 1 ≤ b.size) (hz : t + 1 + 1 ≤ o.size) :
  kasC (model prog w) A E (hiD a b o i (j + 1) mg k bc) (LoZ (fun c st' s' => LoX ϕ G a b st c.1 st' s' ∨ HiY ϕ G a b st t c st' s') (HiY ϕ G a b st t)) st4 s4 := by
 obtain ⟨i, rfl⟩ : ∃ n, i = n + 1 := ⟨i - 1, by omega⟩
 unfold hiD
 dsimp only [Nat.add_one_sub_one]
 refine kasC_bind (kc_elem hy ?_)
 have I5 := I4.push2 hd l1
 by_cases e3 : j = 1
 ·rw [if_pos (by simpa using e3)]
  exact kasC_pure (.inl ⟨_, rfl, S4, g4, I5.end2 e3 pb h0⟩)
 rw [if_neg (by simpa using e3)]
 obtain ⟨x1, hx1, hdx1⟩ := atL (show i < a.size by omega)
 have mx := up_last (ϕ := ϕ) (hdx1 ▸ I5.hx)
 rw [← hdx1] at mx
 have hz5 : t + 1 + 1 ≤ (o.push y).size := by rw [Array.size_push]; omega
 have hj5 : 2 ≤ j := by omega
 clear e3 I4 l1 hd hz hj
 refine kasC_bind (kc_elem hx1 (kasC_bind (kc_gal R (S4.1.trans hk) (ha _ _ hx1) hb (by omega) (by omega) ((UpTo.of ub).sub (by omega) (by omega)) g4 fun k' s5 hk2 l3 l4 g5 => ?_)))
 rw [Nat.zero_add] at l4
 rw [List.drop_zero] at l3
 dsimp only
 have I6 := I5.app2 hk2 fun u hu v hv => Nat.le_trans (mx v hv) (l4 u hu)
 have hz6 : t + 1 + 1 ≤ (o.push y ++ (b.extract k' j).reverse).size := by rw [Array.size_append]; omega
 by_cases ck : j - k' > 0
 ·rw [if_pos ck]
  by_cases e4 : k' = 1
  ·rw [if_pos (by simpa using e4)]
   exact kasC_pure (.inl ⟨_, rfl, S4, g5, I6.end2 e4 pb h0⟩)
  rw [if_neg (by simpa using e4)]
  by_cases e5 : k' = 0
  ·rw [if_pos (by simpa using e5)]
   exact kasC_pure (.inl ⟨_, rfl, S4, g5, I6.end1 (.inr e5)⟩)
  rw [if_neg (by simpa using e5)]
  exact kc_hiE S4 g5 hx1 hdx1 I6 l3 hi' (by omega) (by omega) hz6
 ·rw [if_neg ck]
  have k0 : k' = j := by omega
  subst k0
  exact kc_hiE S4 g5 hx1 hdx1 I5 l3 hi' hj5 (by omega) hz5
theorem kc_hiC (R : Rank prog w A κ ϕ U G) {a b o : Array Keyed} {i j mg ac bc t : Nat} {st st3 : SortSt} {s3 : Shared} (hk : kindOf st = κ) (ha : Al U a) (hb : Al U b) (ua : Up ϕ a.toList) (ub : Up ϕ b.toList) (pb : 0 < b.size) (h0 : ∀ y, b[0]? = some y → ∀ x ∈ a.toList, ϕ y ≤ ϕ x) (S3 : Sim st st3) (g3 : G s3)
  (I3 : HiI ϕ a b o i j) (hi : 1 ≤ i) (hi' : i ≤ a.size) (hj : 2 ≤ j) (hj' : j ≤ b.size) (hz : t + 1 + 1 ≤ o.size) :
  kasC (model prog w) A E (hiC a b o i j mg ac bc) (LoZ (fun c st' s' => LoX ϕ G a b st c.1 st' s' ∨ HiY ϕ G a b st t c st' s') (HiY ϕ G a b st t)) st3 s3 := by
 obtain ⟨j, rfl⟩ : ∃ n, j = n + 1 := ⟨j - 1, by omega⟩
 unfold hiC
 dsimp only [Nat.add_one_sub_one]
 refine kasC_bind (kc_setG fun st4 S4 => ?_)
 replace S4 := S3.trans S4
 obtain ⟨y, hy, hdy⟩ := atL (show j < b.size by omega)
 have my := up_last (ϕ := ϕ) (hdy ▸ I3.hy)
 rw [← hdy] at my
 refine kasC_bind (kc_elem hy (kasC_bind (kc_gal R (S4.1.trans hk) (hb _ _ hy) ha (by omega) (by omega) ((UpTo.of ua).sub (by omega) (by omega)) g3 fun k s4 hk1 l1 l2 g4 => ?_)))
 rw [Nat.zero_add] at l2
 rw [List.drop_zero] at l1
 dsimp only
 have I4 := I3.app1 hk1 fun u hu v hv => Nat.le_trans (my v hv) (l2 u hu)
 have hz4 : t + 1 + 1 ≤ (o ++ (a.extract k i).reverse).size := by rw [Array.size_append]; omega
 have hj1 : 1 ≤ j := by omega
 by_cases ck : i - k > 0
 ·rw [if_pos ck]
  by_cases e1 : k = 0
  ·rw [if_pos (by simpa using e1)]
   exact kasC_pure (.inl ⟨_, rfl, S4, g4, I4.end1 (.inl e1)⟩)
  rw [if_neg (by simpa using e1)]
  exact kc_hiD R hk ha hb ub pb h0 S4 g4 hy hdy I4 l1 (by omega) (by omega) hj1 hj' hz4
 ·rw [if_neg ck]
  have k0 : k = i := by omega
  subst k0
  exact kc_hiD R hk ha hb ub pb h0 S4 g4 hy hdy I3 l1 hi hi' hj1 hj' hz
theorem kc_hiM (R : Rank prog w A κ ϕ U G) {a b : Array Keyed} {mg t q : Nat} {c : (Option (Array Keyed) × Nat × Nat × Array Keyed × Nat × Nat)} {st st2 : SortSt} {s2 : Shared} (hk : kindOf st = κ) (ha : Al U a) (hb : Al U b) (pb : 0 < b.size) (h0 : ∀ y, b[0]? = some y → ∀ x ∈ a.toList, ϕ y ≤ ϕ x)
  (h : HiV ϕ G a b st t q c st2 s2) : kasC (model prog w) A E (hiM a b mg c) (LoZ (fun c st' s' => LoX ϕ G a b st c.1 st' s' ∨ HiV ϕ G a b st t 1 c st' s') (HiV ϕ G a b st t (q + 1))) st2 s2 := by
 obtain ⟨i, j, o, ac, bc, rfl, S2, g2, I2, hi2, hi2', hj2, hj2', hs2⟩ := h
 obtain ⟨i, rfl⟩ : ∃ n, i = n + 1 := ⟨i - 1, by omega⟩
 obtain ⟨j, rfl⟩ : ∃ n, j = n + 1 := ⟨j - 1, by omega⟩
 unfold hiM
 dsimp only [Nat.add_one_sub_one]
 obtain ⟨x, hx, hdx⟩ := atL (show i < a.size by omega)
 obtain ⟨y, hy, hdy⟩ := atL (show j < b.size by omega)
 refine kasC_bind (kc_elem hy (kasC_bind (kc_elem hx (kasC_bind (kc_lt R (S2.1.trans hk) (hb _ _ hy) (ha _ _ hx) g2 fun s3 g3 => ?_)))))
 dsimp only
 have mx := up_last (ϕ := ϕ) (hdx ▸ I2.hx)
 have my := up_last (ϕ := ϕ) (hdy ▸ I2.hy)
 rw [← hdx] at mx
 rw [← hdy] at my
 by_cases cc : ϕ y < ϕ x
 ·rw [if_pos (by simpa using cc)]
  refine kasC_bind (kc_elem hx ?_)
  have I3 := I2.push1 hdx fun v hv => Nat.le_trans (my v hv) (Nat.le_of_lt cc)
  by_cases e1 : i = 0
  ·rw [if_pos (by simpa using e1)]
   exact kasC_pure (.inl ⟨_, rfl, S2, g3, I3.end1 (.inl e1)⟩)
  rw [if_neg (by simpa using e1)]
  have z : t + 1 + (q + 1) ≤ (o.push x).size := by rw [Array.size_push]; omega
  by_cases e2 : ac + 1 ≥ mg
  ·rw [if_pos e2]
   exact kasC_pure (.inr ⟨_, _, _, _, _, rfl, S2, g3, I3, by omega, by omega, hj2, hj2', by omega⟩)
  ·rw [if_neg e2]
   exact kasC_pure ⟨_, _, _, _, _, rfl, S2, g3, I3, by omega, by omega, hj2, hj2', z⟩
 ·rw [if_neg (by simpa using cc)]
  refine kasC_bind (kc_elem hy ?_)
  have I3 := I2.push2 hdy fun v hv => Nat.le_trans (mx v hv) (by omega)
  by_cases e1 : j = 1
  ·rw [if_pos (by simpa using e1)]
   exact kasC_pure (.inl ⟨_, rfl, S2, g3, I3.end2 e1 pb h0⟩)
  rw [if_neg (by simpa using e1)]
  have z : t + 1 + (q + 1) ≤ (o.push y).size := by rw [Array.size_push]; omega
  by_cases e2 : bc + 1 ≥ mg
  ·rw [if_pos e2]
   exact kasC_pure (.inr ⟨_, _, _, _, _, rfl, S2, g3, I3, hi2, hi2', by omega, by omega, by omega⟩)
  ·rw [if_neg e2]
   exact kasC_pure ⟨_, _, _, _, _, rfl, S2, g3, I3, hi2, hi2', by omega, by omega, z⟩
theorem kc_hiB (R : Rank prog w A κ ϕ U G) {a b : Array Keyed} {t : Nat} {c : (Option (Array Keyed) × Nat × Nat × Array Keyed × Nat × Nat × Nat)} {st st3 : SortSt} {s3 : Shared} (hk : kindOf st = κ) (ha : Al U a) (hb : Al U b) (ua : Up ϕ a.toList) (ub : Up ϕ b.toList) (pb : 0 < b.size) (h0 : ∀ y, b[0]? = some y → ∀ x ∈ a.toList, ϕ y ≤ ϕ x)
  (h : HiY ϕ G a b st t c st3 s3) : kasC (model prog w) A E (hiB a b c) (LoZ (fun c st' s' => LoX ϕ G a b st c.1 st' s' ∨ HiY ϕ G a b st t c st' s') (HiY ϕ G a b st t)) st3 s3 := by
 obtain ⟨i, j, o, mg, ac, bc, rfl, S3, g3, I3, hi3, hi3', hj3, hj3', hs3⟩ := h
 unfold hiB
 split
 ·exact kc_hiC R hk ha hb ua ub pb h0 S3 g3 I3 hi3 hi3' hj3 hj3' hs3
 ·exact kc_hiC R hk ha hb ua ub pb h0 S3 g3 I3 hi3 hi3' hj3 hj3' hs3
theorem kc_hiO (R : Rank prog w A κ ϕ U G) {a b : Array Keyed} {t : Nat} {c : (Option (Array Keyed) × Nat × Nat × Array Keyed × Nat)} {st st' : SortSt} {s' : Shared} (hk : kindOf st = κ) (ha : Al U a) (hb : Al U b) (ua : Up ϕ a.toList) (ub : Up ϕ b.toList) (pb : 0 < b.size) (h0 : ∀ y, b[0]? = some y → ∀ x ∈ a.toList, ϕ y ≤ ϕ x)
  (h : HiW ϕ G a b st t c st' s') : kasC (model prog w) A E (hiO a b c) (LoZ (fun c st' s' => LoX ϕ G a b st c.1 st' s') (HiW ϕ G a b st (t + 1))) st' s' := by
 obtain ⟨i, j, o, mg, rfl, S, g', I, hi, hi', hj, hj', hs⟩ := h
 refine kasC_bind (kc_mono (Q := fun c st' s' => LoX ϕ G a b st c.1 st' s' ∨ HiV ϕ G a b st t 1 c st' s')
  (kc_for (HiV ϕ G a b st t) ⟨i, j, o, 0, 0, rfl, S, g', I, hi, hi', hj, hj', hs⟩ (fun q c st2 s2 hq V => kc_hiM R hk ha hb pb h0 V) ?_) ?_)
 ·rintro c st2 s2 ⟨i, j, o, ac, bc, rfl, S2, g2, I2, hi2, hi2', hj2, hj2', hs2⟩
  exact .inr ⟨i, j, o, ac, bc, rfl, S2, g2, I2, hi2, hi2', hj2, hj2', by omega⟩
 ·rintro c st2 s2 (⟨r, e, S2, g2, O⟩ | ⟨i, j, o, ac, bc, rfl, S2, g2, I2, hi2⟩)
  ·rw [e]
   exact kasC_pure ⟨r, rfl, S2, g2, O⟩
  refine kasC_bind (kc_rule ?_)
  refine kasC_bind (kc_mono (Q := fun c st' s' => LoX ϕ G a b st c.1 st' s' ∨ HiY ϕ G a b st t c st' s')
   (kc_for (fun _ => HiY ϕ G a b st t) ⟨i, j, o, _, ac, bc, rfl, S2, g2, I2, hi2⟩ (fun q c st3 s3 hq Y => kc_hiB R hk ha hb ua ub pb h0 Y) fun c st3 s3 Y => .inr Y) ?_)
  rintro c st3 s3 (⟨r, e, S3, g3, O⟩ | ⟨i, j, o, mg, ac, bc, rfl, S3, g3, I3, hi3⟩)
  ·rw [e]
   exact kasC_pure ⟨r, rfl, S3, g3, O⟩
  refine kasC_bind (kc_setG fun st4 S4 => ?_)
  exact kasC_pure ⟨i, j, o, _, rfl, S3.trans S4, g3, I3, hi3⟩
theorem kc_hi (R : Rank prog w A κ ϕ U G) {a b : Array Keyed} {Q : Array Keyed → SortSt → Shared → Prop} {st : SortSt} {s : Shared} (hk : kindOf st = κ) (ha : Al U a) (hb : Al U b) (ua : Up ϕ a.toList) (ub : Up ϕ b.toList) (pa : 0 < a.size) (pb : 0 < b.size)
  (h0 : ∀ y, b[0]? = some y → ∀ x ∈ a.toList, ϕ y ≤ ϕ x) (h1 : ∀ x, a[a.size - 1]? = some x → ∀ y ∈ b.toList, ϕ y ≤ ϕ x) (g : G s)
  (h : ∀ r st' s', Sim st st' → G s' → Ok ϕ a b r → Q r st' s') : kasC (model prog w) A E (mgHi' a b) Q st s := by
 rw [mgHi'_eq]
 refine kasC_bind (kc_rule ?_)
 obtain ⟨x0, hx0, hd0⟩ := atL (show a.size - 1 < a.size by omega)
 refine kasC_bind (kc_elem hx0 ?_)
 have I0 : HiI ϕ a b #[x0] (a.size - 1) b.size := by
  have ea : a.toList.take (a.size - 1 + 1) = a.toList := List.take_of_length_le (by rw [Array.length_toList]; omega)
  have eb : b.toList.take b.size = b.toList := List.take_of_length_le (by rw [Array.length_toList]; omega)
  have : HiI ϕ a b #[] (a.size - 1 + 1) b.size := by
   unfold HiI
   rw [ea, eb]
   exact ⟨by simpa using ua, by simpa using ub, by simp⟩
  exact this.push1 hd0 fun v hv => h1 x0 hx0 v (List.mem_of_mem_take hv)
 by_cases c1 : a.size - 1 = 0
 ·rw [if_pos (by simpa using c1)]
  exact kasC_pure (h _ _ _ (Sim.refl _) g (I0.end1 (.inl c1)))
 rw [if_neg (by simpa using c1)]
 by_cases c2 : b.size = 1
 ·rw [if_pos (by simpa using c2)]
  exact kasC_pure (h _ _ _ (Sim.refl _) g (I0.end2 c2 pb h0))
 rw [if_neg (by simpa using c2)]
 refine kasC_bind (kasC_get ?_)
 refine kasC_bind (kc_mono (Q := fun c st' s' => LoX ϕ G a b st c.1 st' s') (kc_for (HiW ϕ G a b st)
  ⟨_, _, _, _, rfl, Sim.refl _, g, I0, by omega, by omega, by omega, by omega, Nat.le_refl 1⟩ (fun t c st' s' ht W => kc_hiO R hk ha hb ua ub pb h0 W) ?_) ?_)
 ·rintro c st' s' ⟨i, j, o, mg, rfl, S, g', I, hi, hi', hj, hj', hs⟩
  have := I.size (by omega) (by omega)
  omega
 ·rintro c st' s' ⟨r, e, S, g', O⟩
  rw [e]
  exact kasC_pure (h r st' s' S g' O)
end
end Tim
namespace Tim
open PySem PySem.W PyProof.Rows
theorem fx_mirror {ϕ : Keyed → Nat} {xs : Array Keyed} {i j : Nat} (hj : j ≤ xs.size) (k : Nat) : fx ϕ (mirror xs i j ((j - i) / 2)) k = if i ≤ k ∧ k < j then fx ϕ xs (i + j - 1 - k) else fx ϕ xs k := by
 have e := getElem?_mirror_all (i := i) hj k
 by_cases h1 : i ≤ k ∧ k < j
 ·rw [if_pos h1] at e ⊢
  exact fx_congr e
 ·rw [if_neg h1] at e ⊢
  exact fx_congr e
theorem fx_bubble {ϕ : Keyed → Nat} {xs : Array Keyed} {src d : Nat} (hs : src < xs.size) (hd : d ≤ src) (k : Nat) : fx ϕ (bubble xs src d) k = if k = src - d then fx ϕ xs src else if src - d < k ∧ k ≤ src then fx ϕ xs (k - 1) else fx ϕ xs k := by
 have e := getElem?_bubble hs d hd k
 by_cases h1 : k = src - d
 ·rw [if_pos h1] at e ⊢
  exact fx_congr e
 ·rw [if_neg h1] at e ⊢
  by_cases h2 : src - d < k ∧ k ≤ src
  ·rw [if_pos h2] at e ⊢
   exact fx_congr e
  ·rw [if_neg h2] at e ⊢
   exact fx_congr e
structure Kp (lo : Nat) (st st' : SortSt) : Prop where
 kind : kindOf st' = kindOf st
 pend : pendingOf st' = pendingOf st
 fail : failedOf st' = failedOf st
 perm : (arrOf st').Perm (arrOf st)
 low : ∀ i, i < lo → (arrOf st')[i]? = (arrOf st)[i]?
theorem Kp.refl (lo : Nat) (st : SortSt) : Kp lo st st := ⟨rfl, rfl, rfl, Array.Perm.refl _, fun _ _ => rfl⟩
theorem Kp.size {lo : Nat} {st st' : SortSt} (h : Kp lo st st') : (arrOf st').size = (arrOf st).size := h.perm.size_eq
theorem Kp.mir {lo i j : Nat} {st st' : SortSt} (h : Kp lo st st') (hi : lo ≤ i) (hj : j ≤ (arrOf st').size) : Kp lo st (setArr st' (mirror (arrOf st') i j ((j - i) / 2))) :=
 ⟨h.kind, h.pend, h.fail, (mirror_perm _ _ _ _).trans h.perm, fun k hk => by
  show (mirror (arrOf st') i j ((j - i) / 2))[k]? = _
  rw [getElem?_mirror_all hj k, if_neg (by omega)]
  exact h.low k hk⟩
theorem Kp.bub {lo src d : Nat} {st st' : SortSt} (h : Kp lo st st') (hs : src < (arrOf st').size) (hd : d ≤ src) (hl : lo ≤ src - d) : Kp lo st (setArr st' (bubble (arrOf st') src d)) :=
 ⟨h.kind, h.pend, h.fail, (bubble_perm _ _ _).trans h.perm, fun k hk => by
  show (bubble (arrOf st') src d)[k]? = _
  rw [getElem?_bubble hs d hd k, if_neg (by omega), if_neg (by omega)]
  exact h.low k hk⟩
def DnTo (ϕ : Keyed → Nat) (a : Array Keyed) (p q : Nat) : Prop := ∀ i j, p ≤ i → i ≤ j → j < q → fx ϕ a j ≤ fx ϕ a i
section
variable {prog : Program} {w : World} {A : Around} {E : Value → Shared → Prop} {κ : SortKind} {ϕ : Keyed → Nat} {U : Keyed → Prop} {G : Shared → Prop}
theorem kc_at (R : Rank prog w A κ ϕ U G) {i j : Nat} {Q : Option Bool → SortSt → Shared → Prop} {st : SortSt} {s : Shared} (hk : kindOf st = κ) (ha : Al U (arrOf st)) (hi : i < (arrOf st).size) (hj : j < (arrOf st).size) (g : G s)
  (h : ∀ s', G s' → Q (some (decide (fx ϕ (arrOf st) i < fx ϕ (arrOf st) j))) st s') : kasC (model prog w) A E (ltAt' i j) Q st s := by
 rw [ltAt'_eq]
 refine kasC_bind (kasC_get ?_)
 have e1 : (arrOf st)[i]? = some (arrOf st)[i] := Array.getElem?_eq_getElem hi
 have e2 : (arrOf st)[j]? = some (arrOf st)[j] := Array.getElem?_eq_getElem hj
 rw [fx_at e1, fx_at e2] at h
 exact kasC_bind (kc_elem e1 (kasC_bind (kc_elem e2 (kc_lt R hk (ha _ _ e1) (ha _ _ e2) g h))))
theorem kc_rev {i j : Nat} {Q : Unit → SortSt → Shared → Prop} {st : SortSt} {s : Shared} (h : Q () (setArr st (mirror (arrOf st) i j ((j - i) / 2))) s) : kasC (model prog w) A E (reverseSlice' i j) Q st s := by
 rw [reverseSlice'_eq]
 exact kasC_modify h
theorem kc_desc (R : Rank prog w A κ ϕ U G) {lo n0 nrem : Nat} {Q : Option Nat → SortSt → Shared → Prop} {st0 st : SortSt} {s : Shared} (hk : kindOf st0 = κ) (ha : Al U (arrOf st0)) (hn : lo + nrem ≤ (arrOf st0).size) (h1 : 1 ≤ n0) (hnn : n0 + 1 ≤ nrem) (K0 : Kp lo st0 st) (dn : DnTo ϕ (arrOf st) lo (lo + n0 + 1)) (g : G s)
  (h : ∀ n st' s', 1 ≤ n → n ≤ nrem → Kp lo st0 st' → UpTo ϕ (arrOf st') lo (lo + n) → G s' → Q (some n) st' s') : kasC (model prog w) A E (do
   rule "list.sort.descending-run"
   let mut n := n0 + 1
   let mut eq := 0
   for _ in [n:nrem] do
    let some sm ← ltAt' (lo + n) (lo + n - 1) | return none
    if sm then
     if eq > 0 then reverseSlice' (lo + n - (eq + 1)) (lo + n)
     eq := 0
    else
     let some la ← ltAt' (lo + n - 1) (lo + n) | return none
     if la then break
     eq := eq + 1
    n := n + 1
   if eq > 0 then reverseSlice' (lo + n - (eq + 1)) (lo + n)
   reverseSlice' lo (lo + n)
   for _ in [n:nrem] do
    let some sm ← ltAt' (lo + n) (lo + n - 1) | return none
    if sm then break
    n := n + 1
   return some n) Q st s := by
 have meq : ∀ {xs : Array Keyed} {i j : Nat}, j ≤ xs.size → (∀ k, i ≤ k → k < j → fx ϕ xs k = fx ϕ xs (j - 1)) → ∀ k, fx ϕ (mirror xs i j ((j - i) / 2)) k = fx ϕ xs k := fun {xs i j} hj he k => by
  rw [fx_mirror hj]
  split
  ·rw [he _ (by omega) (by omega), he k (by omega) (by omega)]
  ·rfl
 dsimp only
 refine kasC_bind (kc_rule ?_)
 refine kasC_bind (kc_mono (Q := fun c st' s' => ∃ n q, c = (none, n, q) ∧ Kp lo st0 st' ∧ G s' ∧ 1 ≤ n ∧ n ≤ nrem ∧ DnTo ϕ (arrOf st') lo (lo + n) ∧ q < n ∧ ∀ k, lo + n - (q + 1) ≤ k → k < lo + n → fx ϕ (arrOf st') k = fx ϕ (arrOf st') (lo + n - 1))
  (kc_for (fun t c st' s' => ∃ n q, c = (none, n, q) ∧ Kp lo st0 st' ∧ G s' ∧ 1 ≤ n ∧ n = t ∧ n ≤ nrem ∧ DnTo ϕ (arrOf st') lo (lo + n) ∧ q < n ∧ ∀ k, lo + n - (q + 1) ≤ k → k < lo + n → fx ϕ (arrOf st') k = fx ϕ (arrOf st') (lo + n - 1))
   ⟨n0 + 1, 0, rfl, K0, g, by omega, rfl, hnn, dn, by omega, fun k a1 a2 => by rw [show k = lo + (n0 + 1) - 1 by omega]⟩ ?_ ?_) ?_)
 ·rintro t c st' s' ht ⟨n, q, rfl, K1, g1, b1, rfl, b2, b3, b4, b5⟩
  dsimp only
  have sz := K1.size
  have al : Al U (arrOf st') := ha.perm K1.perm
  have htn : n < nrem := by omega
  have hsz : lo + n < (arrOf st').size := by omega
  clear ht hn hnn h1 sz b2 K0 dn h g
  refine kasC_bind (kc_at R (K1.kind.trans hk) al (by omega) (by omega) g1 fun s2 g2 => ?_)
  dsimp only
  by_cases c : fx ϕ (arrOf st') (lo + n) < fx ϕ (arrOf st') (lo + n - 1)
  ·rw [if_pos (by simpa using c)]
   have dn2 : DnTo ϕ (arrOf st') lo (lo + (n + 1)) := fun i j a1 a2 a3 => by
    rcases Nat.lt_or_ge j (lo + n) with z | z
    ·exact b3 i j a1 a2 z
    ·have ej : j = lo + n := by omega
     subst ej
     rcases Nat.lt_or_ge i (lo + n) with z2 | z2
     ·have := b3 i (lo + n - 1) a1 (by omega) (by omega)
      omega
     ·rw [show i = lo + n by omega]
      exact Nat.le_refl _
   by_cases cq : q > 0
   ·rw [if_pos cq]
    refine kasC_bind (kc_rev (kasC_pure ⟨n + 1, 0, rfl, K1.mir (by omega) (by omega), g2, by omega, rfl, by omega, fun i j a1 a2 a3 => ?_, by omega, fun k a1 a2 => by rw [show k = lo + (n + 1) - 1 by omega]⟩))
    show fx ϕ (mirror (arrOf st') _ _ _) j ≤ fx ϕ (mirror (arrOf st') _ _ _) i
    rw [meq (by omega) b5, meq (by omega) b5]
    exact dn2 i j a1 a2 a3
   ·rw [if_neg cq]
    exact kasC_pure ⟨n + 1, 0, rfl, K1, g2, by omega, rfl, by omega, dn2, by omega, fun k a1 a2 => by rw [show k = lo + (n + 1) - 1 by omega]⟩
  ·rw [if_neg (by simpa using c)]
   refine kasC_bind (kc_at R (K1.kind.trans hk) al (by omega) (by omega) g2 fun s3 g3 => ?_)
   dsimp only
   by_cases c2 : fx ϕ (arrOf st') (lo + n - 1) < fx ϕ (arrOf st') (lo + n)
   ·rw [if_pos (by simpa using c2)]
    exact kasC_pure ⟨n, q, rfl, K1, g3, b1, by omega, b3, b4, b5⟩
   ·rw [if_neg (by simpa using c2)]
    have e : fx ϕ (arrOf st') (lo + n) = fx ϕ (arrOf st') (lo + n - 1) := by omega
    refine kasC_pure ⟨n + 1, q + 1, rfl, K1, g3, by omega, rfl, by omega, fun i j a1 a2 a3 => ?_, by omega, fun k a1 a2 => ?_⟩
    ·rcases Nat.lt_or_ge j (lo + n) with z | z
     ·exact b3 i j a1 a2 z
     ·have ej : j = lo + n := by omega
      subst ej
      rcases Nat.lt_or_ge i (lo + n) with z2 | z2
      ·have := b3 i (lo + n - 1) a1 (by omega) (by omega)
       omega
      ·rw [show i = lo + n by omega]
       exact Nat.le_refl _
    ·rw [show lo + (n + 1) - 1 = lo + n by omega, e]
     rcases Nat.lt_or_ge k (lo + n) with z | z
     ·exact b5 k (by omega) z
     ·rw [show k = lo + n by omega]
      exact e
 ·rintro c st' s' ⟨n, q, rfl, K1, g1, b1, b2, b3, b4⟩
  exact ⟨n, q, rfl, K1, g1, b1, by omega, b4⟩
 ·rintro c st' s' ⟨n, q, rfl, K1, g1, b1, b2, b3, b4, b5⟩
  dsimp only
  have sz := K1.size
  have last : ∀ {st2 : SortSt}, Kp lo st0 st2 → DnTo ϕ (arrOf st2) lo (lo + n) → kasC (model prog w) A E (do
    reverseSlice' lo (lo + n)
    let mut m := n
    for _ in [m:nrem] do
     let some sm ← ltAt' (lo + m) (lo + m - 1) | return none
     if sm then break
     m := m + 1
    return some m) Q st2 s' := fun {st2} K2 d2 => by
   have sz2 := K2.size
   have hs2 : lo + n ≤ (arrOf st2).size := by omega
   dsimp only
   refine kasC_bind (kc_rev ?_)
   have K3 := K2.mir (i := lo) (j := lo + n) (by omega) (by omega)
   have u3 : UpTo ϕ (arrOf (setArr st2 (mirror (arrOf st2) lo (lo + n) ((lo + n - lo) / 2)))) lo (lo + n) := fun i j a1 a2 a3 => by
    show fx ϕ (mirror (arrOf st2) _ _ _) i ≤ fx ϕ (mirror (arrOf st2) _ _ _) j
    rw [fx_mirror (by omega), fx_mirror (by omega), if_pos (by omega), if_pos (by omega)]
    exact d2 _ _ (by omega) (by omega) (by omega)
   generalize setArr st2 (mirror (arrOf st2) lo (lo + n) ((lo + n - lo) / 2)) = st3 at *
   have sz3 := K3.size
   refine kasC_bind (kc_mono (Q := fun c st' s' => ∃ m, c = (none, m) ∧ st' = st3 ∧ G s' ∧ 1 ≤ m ∧ m ≤ nrem ∧ UpTo ϕ (arrOf st3) lo (lo + m)) (kc_for (fun t c st' s' => ∃ m, c = (none, m) ∧ st' = st3 ∧ G s' ∧ 1 ≤ m ∧ m = t ∧ m ≤ nrem ∧ UpTo ϕ (arrOf st3) lo (lo + m)) ⟨n, rfl, rfl, g1, b1, rfl, b2, u3⟩ ?_ ?_) ?_)
   ·rintro t c st4 s4 ht ⟨m, rfl, rfl, g4, d1, rfl, d3, d4⟩
    dsimp only
    have htn : m < nrem := by omega
    have hsz : lo + m < (arrOf st4).size := by omega
    clear ht hn hnn h1 sz sz2 sz3 d3 K0 dn h g b5 b4 b3 b2
    refine kasC_bind (kc_at R (K3.kind.trans hk) (ha.perm K3.perm) (by omega) (by omega) g4 fun s5 g5 => ?_)
    dsimp only
    by_cases c : fx ϕ (arrOf st4) (lo + m) < fx ϕ (arrOf st4) (lo + m - 1)
    ·rw [if_pos (by simpa using c)]
     exact kasC_pure ⟨m, rfl, rfl, g5, d1, Nat.le_of_lt htn, d4⟩
    ·rw [if_neg (by simpa using c)]
     refine kasC_pure ⟨m + 1, rfl, rfl, g5, by omega, rfl, by omega, fun i j a1 a2 a3 => ?_⟩
     rcases Nat.lt_or_ge j (lo + m) with z | z
     ·exact d4 i j a1 a2 z
     ·have ej : j = lo + m := by omega
      subst ej
      rcases Nat.lt_or_ge i (lo + m) with z2 | z2
      ·have := d4 i (lo + m - 1) a1 (by omega) (by omega)
       omega
      ·rw [show i = lo + m by omega]
       exact Nat.le_refl _
   ·rintro c st4 s4 ⟨m, rfl, rfl, g4, d1, rfl, d3, d4⟩
    exact ⟨_, rfl, rfl, g4, d1, d3, d4⟩
   ·rintro c st4 s4 ⟨m, rfl, rfl, g4, d1, d3, d4⟩
    exact kasC_pure (h m st4 s4 d1 d3 K3 d4 g4)
  by_cases cq : q > 0
  ·rw [if_pos cq]
   refine kasC_bind (kc_rev (last (K1.mir (by omega) (by omega)) fun i j a1 a2 a3 => ?_))
   show fx ϕ (mirror (arrOf st') _ _ _) j ≤ fx ϕ (mirror (arrOf st') _ _ _) i
   rw [meq (by omega) b5, meq (by omega) b5]
   exact b3 i j a1 a2 a3
  ·rw [if_neg cq]
   exact last K1 b3
theorem kc_count (R : Rank prog w A κ ϕ U G) {lo nrem : Nat} {Q : Option Nat → SortSt → Shared → Prop} {st : SortSt} {s : Shared} (hk : kindOf st = κ) (ha : Al U (arrOf st)) (hn : lo + nrem ≤ (arrOf st).size) (h1 : 1 ≤ nrem) (g : G s)
  (h : ∀ n st' s', 1 ≤ n → n ≤ nrem → Kp lo st st' → UpTo ϕ (arrOf st') lo (lo + n) → G s' → Q (some n) st' s') : kasC (model prog w) A E (countRun' lo nrem) Q st s := by
 rw [countRun'_eq]
 dsimp only
 refine kasC_bind (kc_mono (Q := fun c st' s' => ∃ m, c = (none, m) ∧ st' = st ∧ G s' ∧ 1 ≤ m ∧ m ≤ nrem ∧ UpTo ϕ (arrOf st) lo (lo + m) ∧ (m = nrem ∨ fx ϕ (arrOf st) (lo + m) < fx ϕ (arrOf st) (lo + m - 1))) (kc_for (fun t c st' s' => ∃ m, c = (none, m) ∧ st' = st ∧ G s' ∧ 1 ≤ m ∧ m = t ∧ m ≤ nrem ∧ UpTo ϕ (arrOf st) lo (lo + m)) ⟨1, rfl, rfl, g, by omega, rfl, h1, fun i j a1 a2 a3 => by rw [show i = j by omega]; exact Nat.le_refl _⟩ ?_ ?_) ?_)
 ·rintro t c st4 s4 ht ⟨m, rfl, rfl, g4, d1, rfl, d3, d4⟩
  dsimp only
  have htn : m < nrem := by omega
  have hsz : lo + m < (arrOf st4).size := by omega
  clear ht hn h1 d3 g h
  refine kasC_bind (kc_at R hk ha (by omega) (by omega) g4 fun s5 g5 => ?_)
  dsimp only
  by_cases c : fx ϕ (arrOf st4) (lo + m) < fx ϕ (arrOf st4) (lo + m - 1)
  ·rw [if_pos (by simpa using c)]
   exact kasC_pure ⟨m, rfl, rfl, g5, d1, Nat.le_of_lt htn, d4, .inr c⟩
  ·rw [if_neg (by simpa using c)]
   refine kasC_pure ⟨m + 1, rfl, rfl, g5, by omega, rfl, by omega, fun i j a1 a2 a3 => ?_⟩
   rcases Nat.lt_or_ge j (lo + m) with z | z
   ·exact d4 i j a1 a2 z
   ·have ej : j = lo + m := by omega
    subst ej
    rcases Nat.lt_or_ge i (lo + m) with z2 | z2
    ·have := d4 i (lo + m - 1) a1 (by omega) (by omega)
     omega
    ·rw [show i = lo + m by omega]
     exact Nat.le_refl _
 ·rintro c st4 s4 ⟨m, rfl, rfl, g4, d1, rfl, d3, d4⟩
  exact ⟨_, rfl, rfl, g4, d1, d3, d4, .inl (by omega)⟩
 ·rintro c st4 s4 ⟨m, rfl, rfl, g4, d1, d3, d4, d5⟩
  dsimp only
  by_cases c1 : m = nrem
  ·rw [if_pos (by simpa using c1)]
   exact kasC_pure (h m st4 s4 d1 d3 (Kp.refl _ _) d4 g4)
  rw [if_neg (by simpa using c1)]
  have hlt := d5.resolve_left c1
  replace c1 : m < nrem := by omega
  have hsz : lo + m < (arrOf st4).size := by omega
  clear d5 h1
  by_cases c2 : m > 1
  ·rw [if_pos c2]
   refine kasC_bind (kc_at R hk ha (by omega) (by omega) g4 fun s5 g5 => ?_)
   dsimp only
   by_cases c3 : fx ϕ (arrOf st4) lo < fx ϕ (arrOf st4) (lo + m - 1)
   ·rw [if_pos (by simpa using c3)]
    exact kasC_pure (h m st4 s5 d1 d3 (Kp.refl _ _) d4 g5)
   ·rw [if_neg (by simpa using c3)]
    have hall : ∀ k, lo ≤ k → k < lo + m → fx ϕ (arrOf st4) k = fx ϕ (arrOf st4) (lo + m - 1) := fun k a1 a2 => by
     have z1 := d4 lo k (by omega) a1 a2
     have z2 := d4 k (lo + m - 1) a1 (by omega) (by omega)
     omega
    refine kasC_bind (kc_rev (kc_desc R hk ha hn d1 (by omega) ((Kp.refl lo st4).mir (by omega) (by omega)) ?_ g5 h))
    have meq : ∀ k, fx ϕ (mirror (arrOf st4) lo (lo + m) ((lo + m - lo) / 2)) k = fx ϕ (arrOf st4) k := fun k => by
     rw [fx_mirror (by omega)]
     split
     ·rw [hall _ (by omega) (by omega), hall k (by omega) (by omega)]
     ·rfl
    intro i j a1 a2 a3
    show fx ϕ (mirror (arrOf st4) _ _ _) j ≤ fx ϕ (mirror (arrOf st4) _ _ _) i
    rw [meq, meq]
    rcases Nat.lt_or_ge j (lo + m) with z | z
    ·rw [hall i (by omega) (by omega), hall j (by omega) z]
     exact Nat.le_refl _
    ·have ej : j = lo + m := by omega
     subst ej
     rcases Nat.lt_or_ge i (lo + m) with z2 | z2
     ·rw [hall i a1 z2]
      omega
     ·rw [show i = lo + m by omega]
      exact Nat.le_refl _
  ·rw [if_neg c2]
   have hm : m = 1 := by omega
   subst hm
   refine kc_desc R hk ha hn d1 (by omega) (Kp.refl lo st4) ?_ g4 h
   intro i j a1 a2 a3
   rcases Nat.lt_or_ge i j with z | z
   ·have e1 : i = lo := by omega
    have e2 : j = lo + 1 := by omega
    subst e1 e2
    rw [Nat.add_sub_cancel] at hlt
    omega
   ·rw [show i = j by omega]
    exact Nat.le_refl _
theorem kc_ins (R : Rank prog w A κ ϕ U G) {lo n ok : Nat} {Q : Bool → SortSt → Shared → Prop} {st0 st : SortSt} {s : Shared} (hk : kindOf st0 = κ) (ha : Al U (arrOf st0)) (hn : lo + n ≤ (arrOf st0).size) (hok : ok ≤ n) (K0 : Kp lo st0 st) (up : UpTo ϕ (arrOf st) lo (lo + ok)) (g : G s)
  (h : ∀ st' s', Kp lo st0 st' → UpTo ϕ (arrOf st') lo (lo + n) → G s' → Q true st' s') : kasC (model prog w) A E (binarySort' lo n ok) Q st s := by
 rw [binarySort'_eq]
 dsimp only
 refine kasC_bind (kc_mono (Q := fun c st' s' => c = (none, ()) ∧ Kp lo st0 st' ∧ G s' ∧ UpTo ϕ (arrOf st') lo (lo + n)) (kc_for (fun k c st' s' => c = (none, ()) ∧ max ok 1 ≤ k ∧ Kp lo st0 st' ∧ G s' ∧ UpTo ϕ (arrOf st') lo (lo + min k n)) ⟨rfl, Nat.le_refl _, K0, g, fun i j a1 a2 a3 => ?_⟩ ?_ ?_) ?_)
 ·by_cases h1 : ok = 0
  ·rw [show i = j by omega]
   exact Nat.le_refl _
  ·exact up i j a1 a2 (by omega)
 ·rintro k c st1 s1 hkk ⟨rfl, hk1, K1, g1, u1⟩
  have sz := K1.size
  have hkn : k < n := by omega
  rw [show min k n = k by omega] at u1
  have hkm : True → max ok 1 ≤ k + 1 := fun _ => by omega
  have hks0 : lo + k < (arrOf st1).size := by omega
  clear hkk hk1 hok hn sz up
  refine kasC_bind (kc_mono (Q := fun c st' s' => st' = st1 ∧ G s' ∧ ∃ l r, c = (none, l, r) ∧ l ≤ k ∧ (∀ i, lo ≤ i → i < lo + l → fx ϕ (arrOf st1) i ≤ fx ϕ (arrOf st1) (lo + k)) ∧ (∀ i, lo + l ≤ i → i < lo + k → fx ϕ (arrOf st1) (lo + k) < fx ϕ (arrOf st1) i))
   (kc_for (fun x c st' s' => st' = st1 ∧ G s' ∧ ∃ l r, c = (none, l, r) ∧ l ≤ r ∧ r ≤ k ∧ r - l ≤ k - x ∧ (∀ i, lo ≤ i → i < lo + l → fx ϕ (arrOf st1) i ≤ fx ϕ (arrOf st1) (lo + k)) ∧ (∀ i, lo + r ≤ i → i < lo + k → fx ϕ (arrOf st1) (lo + k) < fx ϕ (arrOf st1) i))
    ⟨rfl, g1, 0, k, rfl, by omega, by omega, by omega, fun i a1 a2 => by omega, fun i a1 a2 => by omega⟩ ?_ ?_) ?_)
  ·rintro x c st2 s2 hx ⟨rfl, g2, l, r, rfl, b1, b2, b3, b4, b5⟩
   dsimp only
   by_cases hge : l ≥ r
   ·rw [if_pos hge]
    have : l = r := by omega
    subst this
    exact kasC_pure ⟨rfl, g2, l, l, rfl, b2, b4, b5⟩
   ·rw [if_neg hge]
    refine kasC_bind (kc_at R (K1.kind.trans hk) (ha.perm K1.perm) (by omega) (by omega) g2 fun s3 g3 => ?_)
    dsimp only
    by_cases c : fx ϕ (arrOf st2) (lo + k) < fx ϕ (arrOf st2) (lo + (l + r) / 2)
    ·rw [if_pos (by simpa using c)]
     refine kasC_pure ⟨rfl, g3, l, (l + r) / 2, rfl, by omega, by omega, by omega, b4, fun i a1 a2 => ?_⟩
     exact Nat.lt_of_lt_of_le c (u1 _ _ (by omega) a1 a2)
    ·rw [if_neg (by simpa using c)]
     refine kasC_pure ⟨rfl, g3, (l + r) / 2 + 1, r, rfl, by omega, by omega, by omega, fun i a1 a2 => ?_, b5⟩
     exact Nat.le_trans (u1 i (lo + (l + r) / 2) a1 (by omega) (by omega)) (Nat.not_lt.mp c)
  ·rintro c st2 s2 ⟨rfl, g2, l, r, rfl, b1, b2, b3, b4, b5⟩
   have : l = r := by omega
   subst this
   exact ⟨rfl, g2, l, l, rfl, b2, b4, b5⟩
  ·rintro c st2 s2 ⟨rfl, g2, l, r, rfl, b1, b2, b3⟩
   dsimp only
   rw [moveDown'_eq]
   refine kasC_bind (kasC_modify (kasC_pure ⟨rfl, hkm trivial, K1.bub (by omega) (by omega) (by omega), g2, ?_⟩))
   rw [show min (k + 1) n = k + 1 by omega]
   have hks := hks0
   clear hkn hkm
   intro i j a1 a2 a3
   show fx ϕ (bubble (arrOf st2) (lo + k) (lo + k - (lo + l))) i ≤ fx ϕ (bubble (arrOf st2) (lo + k) (lo + k - (lo + l))) j
   rw [fx_bubble hks (by omega), fx_bubble hks (by omega), show lo + k - (lo + k - (lo + l)) = lo + l by omega]
   repeat' split
   all_goals first
    | (exfalso; omega)
    | exact Nat.le_refl _
    | exact b2 _ (by omega) (by omega)
    | exact Nat.le_of_lt (b3 _ (by omega) (by omega))
    | exact u1 _ _ (by omega) (by omega) (by omega)
 ·rintro c st1 s1 ⟨rfl, hk1, K1, g1, u1⟩
  refine ⟨rfl, K1, g1, ?_⟩
  rwa [show min (max (max ok 1) n) n = n by omega] at u1
 ·rintro c st1 s1 ⟨rfl, K1, g1, u1⟩
  exact kasC_pure (h st1 s1 K1 u1 g1)
end
end Tim
namespace Tim
open PySem PySem.W PyProof.Rows
section
variable {ϕ : Keyed → Nat}
theorem up_of {a : Array Keyed} {P X S : List Keyed} (e : a.toList = P ++ X ++ S) (u : Up ϕ X) : UpTo ϕ a P.length (P.length + X.length) := by
 have ix : ∀ k (hk : k < X.length), fx ϕ a (P.length + k) = ϕ X[k] := fun k hk => by
  refine fx_at ?_
  rw [← Array.getElem?_toList, e, List.append_assoc, List.getElem?_append_right (by omega), Nat.add_sub_cancel_left, List.getElem?_append_left hk]
  exact List.getElem?_eq_getElem hk
 intro i j a1 a2 a3
 obtain ⟨x, rfl⟩ : ∃ x, i = P.length + x := ⟨i - P.length, by omega⟩
 obtain ⟨y, rfl⟩ : ∃ y, j = P.length + y := ⟨j - P.length, by omega⟩
 rw [ix x (by omega), ix y (by omega)]
 rcases Nat.lt_or_ge x y with c | c
 ·exact List.pairwise_iff_getElem.mp u x y (by omega) (by omega) c
 ·have : x = y := by omega
  subst this
  exact Nat.le_refl _
theorem of_up {a : Array Keyed} {p n : Nat} (h : UpTo ϕ a p (p + n)) (hn : p + n ≤ a.size) : Up ϕ ((a.toList.drop p).take n) := by
 refine List.pairwise_iff_getElem.mpr fun i j hi hj hij => ?_
 have hl : ((a.toList.drop p).take n).length = n := by rw [List.length_take, List.length_drop, Array.length_toList]; omega
 have ix : ∀ k (hk : k < ((a.toList.drop p).take n).length), fx ϕ a (p + k) = ϕ ((a.toList.drop p).take n)[k] := fun k hk => by
  have hk2 : p + k < a.size := by omega
  refine fx_at ?_
  rw [Array.getElem?_eq_getElem hk2]
  simp
 rw [← ix i hi, ← ix j hj]
 exact h _ _ (by omega) (by omega) (by omega)
def Runs (ϕ : Keyed → Nat) (a : Array Keyed) : List (Nat × Nat × Nat) → Nat → Nat → Prop
 | [], p, q => p = q
 | x :: l, p, q => x.1 = p ∧ 1 ≤ x.2.1 ∧ UpTo ϕ a p (p + x.2.1) ∧ Runs ϕ a l (p + x.2.1) q
theorem Runs.le {a : Array Keyed} : ∀ {l : List (Nat × Nat × Nat)} {p q : Nat}, Runs ϕ a l p q → p + l.length ≤ q
 | [], p, q, h => by
  have : p = q := h
  simp [this]
 | x :: l, p, q, h => by
  have := Runs.le h.2.2.2
  have := h.2.1
  simp only [List.length_cons]
  omega
theorem Runs.congr {a b : Array Keyed} : ∀ {l : List (Nat × Nat × Nat)} {p q : Nat}, Runs ϕ a l p q → (∀ i, p ≤ i → i < q → fx ϕ b i = fx ϕ a i) → Runs ϕ b l p q
 | [], _, _, h, _ => h
 | x :: l, p, q, h, e => by
  have hle := Runs.le h.2.2.2
  refine ⟨h.1, h.2.1, fun i j a1 a2 a3 => ?_, h.2.2.2.congr fun i a1 a2 => e i (by omega) a2⟩
  rw [e i (by omega) (by omega), e j (by omega) (by omega)]
  exact h.2.2.1 i j a1 a2 a3
theorem Runs.app {a : Array Keyed} : ∀ {l m : List (Nat × Nat × Nat)} {p q : Nat}, Runs ϕ a (l ++ m) p q → ∃ r, Runs ϕ a l p r ∧ Runs ϕ a m r q
 | [], m, p, q, h => ⟨p, rfl, h⟩
 | x :: l, m, p, q, h => by
  obtain ⟨r, h1, h2⟩ := Runs.app h.2.2.2
  exact ⟨r, ⟨h.1, h.2.1, h.2.2.1, h1⟩, h2⟩
theorem Runs.join {a : Array Keyed} : ∀ {l m : List (Nat × Nat × Nat)} {p q r : Nat}, Runs ϕ a l p r → Runs ϕ a m r q → Runs ϕ a (l ++ m) p q
 | [], m, p, q, r, h, k => by
  have : p = r := h
  subst this
  exact k
 | x :: l, m, p, q, r, h, k => ⟨h.1, h.2.1, h.2.2.1, Runs.join h.2.2.2 k⟩
theorem Runs.mod {a : Array Keyed} {f : Nat × Nat × Nat → Nat × Nat × Nat} (hf : ∀ x, (f x).1 = x.1 ∧ (f x).2.1 = x.2.1) : ∀ {l : List (Nat × Nat × Nat)} {p q : Nat} (k : Nat), Runs ϕ a l p q → Runs ϕ a (l.modify k f) p q
 | [], p, q, k, h => by rw [List.modify_nil]; exact h
 | x :: l, p, q, 0, h => by
  rw [List.modify_zero_cons]
  refine ⟨(hf x).1.trans h.1, by rw [(hf x).2]; exact h.2.1, by rw [(hf x).2]; exact h.2.2.1, by rw [(hf x).2]; exact h.2.2.2⟩
 | x :: l, p, q, k + 1, h => by
  rw [List.modify_succ_cons]
  exact ⟨h.1, h.2.1, h.2.2.1, Runs.mod hf k h.2.2.2⟩
end
theorem put_over : ∀ (r : List Keyed) (a : Array Keyed) (p k : Nat), p + k + r.length ≤ a.size → ((r.zipIdx k).foldl (fun a (x : Keyed × Nat) => a.setIfInBounds (p + x.2) x.1) a).toList = a.toList.take (p + k) ++ r ++ a.toList.drop (p + k + r.length)
 | [], a, p, k, h => by simp
 | x :: r, a, p, k, h => by
  rw [List.zipIdx_cons, List.foldl_cons]
  simp only [List.length_cons] at h
  rw [put_over r _ p (k + 1) (by rw [Array.size_setIfInBounds]; omega)]
  have hk : p + k < a.toList.length := by rw [Array.length_toList]; omega
  rw [Array.toList_setIfInBounds, List.set_eq_take_append_cons_drop, if_pos hk]
  have e1 : (a.toList.take (p + k)).length = p + k := by rw [List.length_take]; omega
  have e2 : (a.toList.take (p + k) ++ x :: a.toList.drop (p + k + 1)).take (p + (k + 1)) = a.toList.take (p + k) ++ [x] := by
   rw [List.take_append, e1, show p + (k + 1) - (p + k) = 1 by omega, List.take_of_length_le (by omega)]
   rfl
  have e3 : (a.toList.take (p + k) ++ x :: a.toList.drop (p + k + 1)).drop (p + (k + 1) + r.length) = a.toList.drop (p + k + (x :: r).length) := by
   rw [List.drop_append, e1, List.drop_of_length_le (by omega), List.nil_append, show p + (k + 1) + r.length - (p + k) = r.length + 1 by omega, List.drop_succ_cons, List.drop_drop]
   congr 1
   simp only [List.length_cons]
   omega
  rw [e2, e3]
  simp
theorem mgAt'_eq (i : Nat) : mergeAt' i = (do
 let z ← get
 let (some (sa, na, pw), some (sb, nb, _)) := ((pendingOf z)[i]?, (pendingOf z)[i + 1]?) | unsupported "internal:list.sort.pending"
 set (setPending z (((pendingOf z).setIfInBounds i (sa, na + nb, pw)).eraseIdxIfInBounds (i + 1)))
 let some k ← galp' false (← elem' (arrOf z) sb) (arrOf z) sa na 0 | return false
 let (sc, nc) := (sa + k, na - k)
 if nc == 0 then return true
 let some nd ← galp' true (← elem' (arrOf z) (sc + nc - 1)) (arrOf z) sb nb (nb - 1) | return false
 if nd == 0 then return true
 let x := (arrOf z).extract sc sb
 let y := (arrOf z).extract sb (sb + nd)
 let r ← if nc ≤ nd then mgLo' x y else mgHi' x y
 modify fun z => setArr z (r.toList.zipIdx.foldl (fun a (p, j) => a.setIfInBounds (sc + j) p) (arrOf z))
 return (failedOf (← get)).isNone) := rfl
section
variable {prog : Program} {w : World} {A : Around} {E : Value → Shared → Prop} {κ : SortKind} {ϕ : Keyed → Nat} {U : Keyed → Prop} {G : Shared → Prop}
theorem kasC_set {σ : Type} {M : Model} {t : σ} {Q : PUnit → σ → Shared → Prop} {st : σ} {s : Shared} (h : Q ⟨⟩ t s) : kasC M A E (set t : StateT σ Sem PUnit) Q st s := by
 unfold kasC; rw [StateT.run_set]; exact wpAny_pure h
structure Jn (κ : SortKind) (ϕ : Keyed → Nat) (a₀ : Array Keyed) (q : Nat) (l : List (Nat × Nat × Nat)) (st : SortSt) : Prop where
 kind : kindOf st = κ
 fail : failedOf st = none
 perm : (arrOf st).Perm a₀
 pend : (pendingOf st).toList = l
 runs : Runs ϕ (arrOf st) l 0 q
theorem seg_len {l : List Keyed} {p n N : Nat} (hl : l.length = N) (h : p + n ≤ N) : ((l.drop p).take n).length = n := by
 rw [List.length_take, List.length_drop, hl]
 omega
theorem kc_mgAt (R : Rank prog w A κ ϕ U G) {a₀ : Array Keyed} {q i : Nat} {l : List (Nat × Nat × Nat)} {Q : Bool → SortSt → Shared → Prop} {st : SortSt} {s : Shared} (ha : Al U a₀) (J : Jn κ ϕ a₀ q l st) (hq : q ≤ a₀.size) (hi : i + 1 < l.length) (g : G s)
  (h : ∀ l' st' s', l'.length + 1 = l.length → Jn κ ϕ a₀ q l' st' → (∀ k, q ≤ k → fx ϕ (arrOf st') k = fx ϕ (arrOf st) k) → G s' → Q true st' s') : kasC (model prog w) A E (mergeAt' i) Q st s := by
 obtain ⟨l1, x, y, l2, e, e1⟩ : ∃ l1 x y l2, l = l1 ++ x :: y :: l2 ∧ l1.length = i :=
  ⟨l.take i, l[i], l[i + 1], l.drop (i + 2), by
   rw [← List.drop_eq_getElem_cons (by omega), ← List.drop_eq_getElem_cons (by omega), List.take_append_drop], by rw [List.length_take]; omega⟩
 obtain ⟨sa, na, pw⟩ := x
 obtain ⟨sb, nb, pv⟩ := y
 obtain ⟨r, r1, r2⟩ := Runs.app (e ▸ J.runs)
 obtain ⟨z1, z2, z3, z4, z5, z6, z7⟩ := r2
 dsimp only at z1 z2 z3 z4 z5 z6 z7
 subst z1
 subst z4
 have sz : (arrOf st).size = a₀.size := J.perm.size_eq
 have al : Al U (arrOf st) := ha.perm J.perm
 have hle := z7.le
 have p1 : (pendingOf st)[i]? = some (sa, na, pw) := by
  rw [← Array.getElem?_toList, J.pend, e, ← e1, List.getElem?_append_right (Nat.le_refl _), Nat.sub_self]
  rfl
 have p2 : (pendingOf st)[i + 1]? = some (sa + na, nb, pv) := by
  rw [← Array.getElem?_toList, J.pend, e, ← e1, List.getElem?_append_right (by omega), Nat.add_sub_cancel_left]
  rfl
 have p3 : (((pendingOf st).setIfInBounds i (sa, na + nb, pw)).eraseIdxIfInBounds (i + 1)).toList = l1 ++ (sa, na + nb, pw) :: l2 := by
  rw [Array.toList_eraseIdxIfInBounds, Array.toList_setIfInBounds, J.pend, e, ← e1, List.set_append_right _ _ (Nat.le_refl _), Nat.sub_self, List.eraseIdx_append_of_length_le (by omega), Nat.add_sub_cancel_left]
  rfl
 have fin : ∀ (a' : Array Keyed), a'.Perm (arrOf st) → (∀ k, k < sa → fx ϕ a' k = fx ϕ (arrOf st) k) → (∀ k, sa + na + nb ≤ k → fx ϕ a' k = fx ϕ (arrOf st) k) → UpTo ϕ a' sa (sa + (na + nb)) → ∀ (st' : SortSt) (s' : Shared), kindOf st' = κ → failedOf st' = none → arrOf st' = a' → pendingOf st' = ((pendingOf st).setIfInBounds i (sa, na + nb, pw)).eraseIdxIfInBounds (i + 1) → G s' → Q true st' s' := by
  intro a' q1 q2 q3 q4 st' s' q5 q6 q7 q8 g'
  subst q7
  refine h (l1 ++ (sa, na + nb, pw) :: l2) st' s' (by rw [e]; simp only [List.length_append, List.length_cons]; omega) ⟨q5, q6, q1.trans J.perm, by rw [q8, p3], ?_⟩ (fun k hk => q3 k (by omega)) g'
  refine (r1.congr fun k b1 b2 => q2 k b2).join ⟨rfl, by show 1 ≤ na + nb; omega, q4, ?_⟩
  show Runs ϕ (arrOf st') l2 (sa + (na + nb)) q
  rw [← Nat.add_assoc]
  exact z7.congr fun k b1 b2 => q3 k b1
 have hsz : sa + na + nb ≤ a₀.size := by omega
 clear hi e1 hq hle h p3 r1 z7
 rw [mgAt'_eq]
 refine kasC_bind (kasC_get ?_)
 rw [p1, p2]
 dsimp only
 refine kasC_bind (kasC_set ?_)
 obtain ⟨y0, hy0, hdy0⟩ := at_ (show sa + na < (arrOf st).size by omega)
 have kd : kindOf (setPending st (((pendingOf st).setIfInBounds i (sa, na + nb, pw)).eraseIdxIfInBounds (i + 1))) = κ := J.kind
 generalize hst : setPending st (((pendingOf st).setIfInBounds i (sa, na + nb, pw)).eraseIdxIfInBounds (i + 1)) = st1 at *
 have ar1 : arrOf st1 = arrOf st := by rw [← hst]
 have pe1 : pendingOf st1 = ((pendingOf st).setIfInBounds i (sa, na + nb, pw)).eraseIdxIfInBounds (i + 1) := by rw [← hst]
 have fa1 : failedOf st1 = none := by rw [← hst]; exact J.fail
 have seg : ∀ p n, UpTo ϕ (arrOf st) p (p + n) → p + n ≤ a₀.size → Up ϕ (((arrOf st).toList.drop p).take n) := fun p n u hn => of_up u (by omega)
 have sB := seg _ _ z6 (by omega)
 have sA := seg _ _ z3 (by omega)
 have cutL : ∀ p n m, ((arrOf st).toList.drop p).take (n + m) = ((arrOf st).toList.drop p).take n ++ ((arrOf st).toList.drop (p + n)).take m := fun p n m => by
  rw [List.take_add, List.drop_drop]
 have lenL : True → (arrOf st).toList.length = a₀.size := fun _ => by rw [Array.length_toList, sz]
 refine kasC_bind (kc_elem hy0 (kasC_bind (kc_gal R kd (al _ _ hy0) al (by omega) (by omega) z3 g fun k s1 hk1 l1' l2' g1 => ?_)))
 dsimp only
 have upB : ∀ v ∈ ((arrOf st).toList.drop (sa + na)).take nb, ϕ y0 ≤ ϕ v := by
  obtain ⟨nb', rfl⟩ : ∃ m, nb = m + 1 := ⟨nb - 1, by omega⟩
  rw [hdy0, List.take_succ_cons] at sB ⊢
  exact up_head sB
 by_cases c1 : na - k = 0
 ·rw [if_pos (by simpa using c1)]
  have k0 : k = na := by omega
  subst k0
  refine kasC_pure (fin (arrOf st) (Array.Perm.refl _) (fun _ _ => rfl) (fun _ _ => rfl) ?_ st1 s1 kd fa1 ar1 pe1 g1)
  have u : Up ϕ (((arrOf st).toList.drop sa).take (k + nb)) := by
   rw [cutL]
   exact List.pairwise_append.mpr ⟨sA, sB, fun u hu v hv => Nat.le_trans (l1' u hu) (upB v hv)⟩
  have := up_of (ϕ := ϕ) (a := arrOf st) (P := (arrOf st).toList.take sa) (S := (arrOf st).toList.drop (sa + (k + nb))) (by rw [List.append_assoc, ← List.drop_drop, List.take_append_drop, List.take_append_drop]) u
  rw [List.length_take, lenL trivial, Nat.min_eq_left (by omega), seg_len (lenL trivial) (by omega)] at this
  exact this
 rw [if_neg (by simpa using c1)]
 replace c1 : k < na := by omega
 rw [show sa + k + (na - k) - 1 = sa + na - 1 by omega]
 obtain ⟨xl, hxl, hdxl⟩ := atL (show sa + na - 1 < (arrOf st).size by omega)
 have upA : ∀ v ∈ ((arrOf st).toList.drop sa).take na, ϕ v ≤ ϕ xl := by
  have : ((arrOf st).toList.drop sa).take na = ((arrOf st).toList.drop sa).take (na - 1) ++ [xl] := by
   have e9 : ∃ m, na = m + 1 := ⟨na - 1, by omega⟩
   obtain ⟨m, rfl⟩ := e9
   rw [cutL, Nat.add_sub_cancel]
   congr 1
   obtain ⟨x9, hx9, hd9⟩ := at_ (show sa + m < (arrOf st).size by omega)
   rw [hd9]
   have : x9 = xl := by
    rw [show sa + (m + 1) - 1 = sa + m by omega, hx9] at hxl
    exact Option.some.inj hxl
   rw [this]
   rfl
  rw [this] at sA ⊢
  exact up_last sA
 refine kasC_bind (kc_elem hxl (kasC_bind (kc_gal R kd (al _ _ hxl) al (by omega) (by omega) z6 g1 fun nd s2 hnd m1 m2 g2 => ?_)))
 dsimp only
 by_cases c2 : nd = 0
 ·rw [if_pos (by simpa using c2)]
  subst c2
  refine kasC_pure (fin (arrOf st) (Array.Perm.refl _) (fun _ _ => rfl) (fun _ _ => rfl) ?_ st1 s2 kd fa1 ar1 pe1 g2)
  have u : Up ϕ (((arrOf st).toList.drop sa).take (na + nb)) := by
   rw [cutL]
   exact List.pairwise_append.mpr ⟨sA, sB, fun u hu v hv => Nat.le_trans (upA u hu) (m2 v (by simpa using hv))⟩
  have := up_of (ϕ := ϕ) (a := arrOf st) (P := (arrOf st).toList.take sa) (S := (arrOf st).toList.drop (sa + (na + nb))) (by rw [List.append_assoc, ← List.drop_drop, List.take_append_drop, List.take_append_drop]) u
  rw [List.length_take, lenL trivial, Nat.min_eq_left (by omega), seg_len (lenL trivial) (by omega)] at this
  exact this
 rw [if_neg (by simpa using c2)]
 replace c2 : 0 < nd := by omega
 have ex1 : ((arrOf st).extract (sa + k) (sa + na)).toList = ((arrOf st).toList.drop (sa + k)).take (na - k) := by
  rw [← ext_l, show sa + k + (na - k) = sa + na by omega]
 have ex2 : ((arrOf st).extract (sa + na) (sa + na + nd)).toList = ((arrOf st).toList.drop (sa + na)).take nd := ext_l _ _ _
 have sz1 : True → ((arrOf st).extract (sa + k) (sa + na)).size = na - k := fun _ => by rw [Array.size_extract]; omega
 have sz2 : True → ((arrOf st).extract (sa + na) (sa + na + nd)).size = nd := fun _ => by rw [Array.size_extract]; omega
 have al' : ∀ p q', Al U ((arrOf st).extract p q') := fun p q' i x hx => by
  rw [Array.getElem?_extract] at hx
  split at hx
  ·exact al _ _ hx
  ·cases hx
 have u1 : Up ϕ ((arrOf st).extract (sa + k) (sa + na)).toList := by
  rw [ex1]
  exact seg _ _ (z3.sub (by omega) (by omega)) (by omega)
 have u2 : Up ϕ ((arrOf st).extract (sa + na) (sa + na + nd)).toList := by
  rw [ex2]
  exact seg _ _ (z6.sub (by omega) (by omega)) (by omega)
 have q0 : ∀ y, ((arrOf st).extract (sa + na) (sa + na + nd))[0]? = some y → ∀ x ∈ ((arrOf st).extract (sa + k) (sa + na)).toList, ϕ y ≤ ϕ x := fun y hy x hx => by
  rw [Array.getElem?_extract, if_pos (by omega), Nat.add_zero, hy0] at hy
  rw [← Option.some.inj hy]
  rw [ex1] at hx
  exact l2' x hx
 have q1 : ∀ x, ((arrOf st).extract (sa + k) (sa + na))[((arrOf st).extract (sa + k) (sa + na)).size - 1]? = some x → ∀ y ∈ ((arrOf st).extract (sa + na) (sa + na + nd)).toList, ϕ y ≤ ϕ x := fun x hx y hy => by
  rw [sz1 trivial, Array.getElem?_extract, if_pos (by omega), show sa + k + (na - k - 1) = sa + na - 1 by omega, hxl] at hx
  rw [← Option.some.inj hx]
  rw [ex2] at hy
  exact m1 y hy
 have last : ∀ (r : Array Keyed) (st' : SortSt) (s' : Shared), Sim st1 st' → G s' → Ok ϕ ((arrOf st).extract (sa + k) (sa + na)) ((arrOf st).extract (sa + na) (sa + na + nd)) r → kasC (model prog w) A E (do
   modify fun z => setArr z (r.toList.zipIdx.foldl (fun a (p, j) => a.setIfInBounds (sa + k + j) p) (arrOf z))
   return (failedOf (← get)).isNone) Q st' s' := by
  intro r st' s' S' g' O
  refine kasC_bind (kasC_modify (kasC_bind (kasC_get (kasC_pure ?_))))
  have fz : failedOf st' = none := S'.2.2.2.trans fa1
  show Q (failedOf st').isNone _ _
  rw [fz]
  have az : arrOf st' = arrOf st := S'.2.1.trans ar1
  obtain ⟨O1, O2⟩ := O
  have lr : True → r.toList.length = na - k + nd := fun _ => by
   rw [O2.length_eq, List.length_append, Array.length_toList, Array.length_toList, sz1 trivial, sz2 trivial]
  have pu := put_over r.toList (arrOf st) (sa + k) 0 (by rw [lr trivial]; omega)
  rw [Nat.add_zero, lr trivial, show sa + k + (na - k + nd) = sa + na + nd by omega] at pu
  have lr' : k + r.toList.length = na + nd := by rw [lr trivial]; omega
  rw [ex1, ex2] at O2
  obtain ⟨P, hP⟩ : ∃ z, (arrOf st).toList.take sa = z := ⟨_, rfl⟩
  obtain ⟨A1, hA1⟩ : ∃ z, ((arrOf st).toList.drop sa).take k = z := ⟨_, rfl⟩
  rw [hA1] at l1'
  obtain ⟨A2, hA2⟩ : ∃ z, ((arrOf st).toList.drop (sa + k)).take (na - k) = z := ⟨_, rfl⟩
  rw [hA2] at O2
  obtain ⟨B1, hB1⟩ : ∃ z, ((arrOf st).toList.drop (sa + na)).take nd = z := ⟨_, rfl⟩
  rw [hB1] at O2
  obtain ⟨B2, hB2⟩ : ∃ z, ((arrOf st).toList.drop (sa + na + nd)).take (nb - nd) = z := ⟨_, rfl⟩
  rw [hB2] at m2
  obtain ⟨S, hS⟩ : ∃ z, (arrOf st).toList.drop (sa + na + nb) = z := ⟨_, rfl⟩
  have hA : ((arrOf st).toList.drop sa).take na = A1 ++ A2 := by rw [← hA1, ← hA2, ← cutL, show k + (na - k) = na by omega]
  have hB : ((arrOf st).toList.drop (sa + na)).take nb = B1 ++ B2 := by rw [← hB1, ← hB2, ← cutL, show nd + (nb - nd) = nb by omega]
  have hD : (arrOf st).toList.drop (sa + na + nd) = B2 ++ S := by
   rw [← hB2, ← hS, show sa + na + nb = sa + na + nd + (nb - nd) by omega]
   exact drop_cut _ _ _
  have hT : (arrOf st).toList.take (sa + k) = P ++ A1 := by rw [← hP, ← hA1, List.take_add]
  have hL : (arrOf st).toList = P ++ ((A1 ++ A2) ++ (B1 ++ B2)) ++ S := by
   rw [← hA, ← hB, ← hP, ← hS, ← cutL, List.append_assoc, Nat.add_assoc, ← drop_cut, List.take_append_drop]
  rw [hT, hD] at pu
  have pL : P.length = sa := by rw [← hP, List.length_take, lenL trivial]; omega
  have pA1 : A1.length = k := by rw [← hA1, seg_len (lenL trivial) (by omega)]
  have pA2 : k + A2.length = na := by rw [← hA2, seg_len (lenL trivial) (by omega)]; omega
  have pB1 : B1.length = nd := by rw [← hB1, seg_len (lenL trivial) (by omega)]
  have pB2 : nd + B2.length = nb := by rw [← hB2, seg_len (lenL trivial) (by omega)]; omega
  refine fin (r.toList.zipIdx.foldl (fun a (x : Keyed × Nat) => a.setIfInBounds (sa + k + x.2) x.1) (arrOf st)) ?_ ?_ ?_ ?_ _ _ (S'.1.trans kd) fz (by rw [← az]) (S'.2.2.1.trans pe1) g'
  ·refine Array.perm_iff_toList_perm.mpr ?_
   have e9 : (r.toList ++ (B2 ++ S)).Perm (A2 ++ B1 ++ (B2 ++ S)) := O2.append_right _
   rw [pu, hL]
   have f1 : P ++ A1 ++ r.toList ++ (B2 ++ S) = P ++ (A1 ++ (r.toList ++ (B2 ++ S))) := by simp only [List.append_assoc]
   have f2 : P ++ (A1 ++ A2 ++ (B1 ++ B2)) ++ S = P ++ (A1 ++ (A2 ++ B1 ++ (B2 ++ S))) := by simp only [List.append_assoc]
   rw [f1, f2]
   exact (e9.append_left A1).append_left P
  ·intro j hj
   refine fx_congr ?_
   rw [← Array.getElem?_toList, ← Array.getElem?_toList, pu, hL]
   simp only [List.append_assoc]
   rw [List.getElem?_append_left (by omega), List.getElem?_append_left (by omega)]
  ·intro j hj
   refine fx_congr ?_
   rw [← Array.getElem?_toList, ← Array.getElem?_toList, pu, hL]
   have e1 : P ++ A1 ++ r.toList ++ (B2 ++ S) = (P ++ A1 ++ r.toList ++ B2) ++ S := by simp only [List.append_assoc]
   rw [e1, List.getElem?_append_right (by simp only [List.length_append]; omega), List.getElem?_append_right (by simp only [List.length_append]; omega)]
   congr 1
   simp only [List.length_append]
   omega
  ·have uu : Up ϕ (A1 ++ r.toList ++ B2) := by
    rw [hA] at sA
    rw [hB] at sB
    obtain ⟨t1, t2, t3⟩ := List.pairwise_append.mp sA
    obtain ⟨t4, t5, t6⟩ := List.pairwise_append.mp sB
    have m2' : ∀ u ∈ B2, ϕ xl ≤ ϕ u := m2
    rw [hA] at upA
    rw [hB] at upB
    have mm : ∀ u ∈ r.toList, u ∈ A2 ∨ u ∈ B1 := fun u hu => List.mem_append.mp (O2.mem_iff.mp hu)
    refine List.pairwise_append.mpr ⟨List.pairwise_append.mpr ⟨t1, O1, fun u hu v hv => ?_⟩, t5, fun u hu v hv => ?_⟩
    ·rcases mm v hv with z | z
     ·exact t3 u hu v z
     ·exact Nat.le_trans (l1' u hu) (upB v (List.mem_append_left _ z))
    ·rcases List.mem_append.mp hu with z | z
     ·exact Nat.le_trans (upA u (List.mem_append_left _ z)) (m2' v hv)
     ·rcases mm u z with z' | z'
      ·exact Nat.le_trans (upA u (List.mem_append_right _ z')) (m2' v hv)
      ·exact t6 u z' v hv
   have := up_of (ϕ := ϕ) (P := P) (S := S) (a := r.toList.zipIdx.foldl (fun a (x : Keyed × Nat) => a.setIfInBounds (sa + k + x.2) x.1) (arrOf st)) (by rw [pu]; simp only [List.append_assoc]) uu
   rw [pL, show (A1 ++ r.toList ++ B2).length = na + nb by simp only [List.length_append]; omega] at this
   exact this
 by_cases c3 : na - k ≤ nd
 ·rw [if_pos c3]
  exact kasC_bind (kc_lo R kd (al' _ _) (al' _ _) u1 u2 (by rw [sz1 trivial]; omega) (by rw [sz2 trivial]; omega) q0 q1 g2 last)
 ·rw [if_neg c3]
  exact kasC_bind (kc_hi R kd (al' _ _) (al' _ _) u1 u2 (by rw [sz1 trivial]; omega) (by rw [sz2 trivial]; omega) q0 q1 g2 last)
end
end Tim
namespace Tim
open PySem PySem.W PyProof.Rows
section
variable {prog : Program} {w : World} {A : Around} {E : Value → Shared → Prop} {κ : SortKind} {ϕ : Keyed → Nat} {U : Keyed → Prop} {G : Shared → Prop}
theorem Jn.kp {a₀ : Array Keyed} {q : Nat} {l : List (Nat × Nat × Nat)} {st st' : SortSt} (J : Jn κ ϕ a₀ q l st) (K : Kp q st st') : Jn κ ϕ a₀ q l st' :=
 ⟨K.kind.trans J.kind, K.fail.trans J.fail, K.perm.trans J.perm, by rw [K.pend]; exact J.pend, J.runs.congr fun i _ h => fx_congr (K.low i h)⟩
theorem Jn.mod {a₀ : Array Keyed} {q k : Nat} {l : List (Nat × Nat × Nat)} {st : SortSt} {f : Nat × Nat × Nat → Nat × Nat × Nat} (J : Jn κ ϕ a₀ q l st) (hf : ∀ x, (f x).1 = x.1 ∧ (f x).2.1 = x.2.1) : Jn κ ϕ a₀ q (l.modify k f) (setPending st ((pendingOf st).modify k f)) :=
 ⟨J.kind, J.fail, J.perm, by show ((pendingOf st).modify _ _).toList = _; rw [Array.toList_modify, J.pend], Runs.mod hf _ J.runs⟩
theorem if_le (c : Prop) [Decidable c] (n : Nat) : (if c then n - 1 else n) ≤ n := by split <;> omega
theorem kc_two3 {α β : Type} {code : β → StateT SortSt Sem α} {T : StateT SortSt Sem α} {Q : α → SortSt → Shared → Prop} {st : SortSt} {s : Shared} (P : β → SortSt → Shared → Prop)
  (main : (∀ x st s, P x st s → kasC (model prog w) A E (code x) Q st s) → kasC (model prog w) A E T Q st s) (tail : ∀ x st s, P x st s → kasC (model prog w) A E (code x) Q st s) : kasC (model prog w) A E T Q st s := main tail
theorem kc_sort (R : Rank prog w A κ ϕ U G) {a₀ : Array Keyed} {Q : Unit → SortSt → Shared → Prop} {st : SortSt} {s : Shared} (ha : Al U a₀) (hk : kindOf st = κ) (hf : failedOf st = none) (hp : pendingOf st = #[]) (har : arrOf st = a₀) (h2 : 1 ≤ a₀.size) (g : G s)
  (h : ∀ st' s', failedOf st' = none → (arrOf st').Perm a₀ → Up ϕ (arrOf st').toList → G s' → Q () st' s') : kasC (model prog w) A E sortRuns' Q st s := by
 rw [sortRuns'_eq]
 refine kasC_bind (kasC_get ?_)
 rw [har]
 dsimp only
 have J0 : Jn κ ϕ a₀ 0 [] st := ⟨hk, hf, by rw [har], by rw [hp], rfl⟩
 refine kasC_bind (kc_mono (Q := fun c st' s' => ∃ l, c = (none, a₀.size) ∧ Jn κ ϕ a₀ a₀.size l st' ∧ G s') (kc_for (fun t c st' s' => ∃ lo l, c = (none, lo) ∧ t ≤ lo ∧ lo ≤ a₀.size ∧ Jn κ ϕ a₀ lo l st' ∧ G s')
  ⟨0, [], rfl, by omega, by omega, J0, g⟩ ?_ ?_) ?_)
 ·rintro t c st1 s1 ht ⟨lo, l, rfl, b1, b2, J1, g1⟩
  dsimp only
  by_cases c1 : lo ≥ a₀.size
  ·rw [if_pos c1]
   have : lo = a₀.size := by omega
   subst this
   exact kasC_pure ⟨l, rfl, J1, g1⟩
  rw [if_neg c1]
  have sz : (arrOf st1).size = a₀.size := J1.perm.size_eq
  refine kasC_bind (kc_count R J1.kind (ha.perm J1.perm) (by omega) (by omega) g1 fun n st2 s2 n1 n2 K2 u2 g2 => ?_)
  dsimp only
  apply kc_two3 (P := fun n3 st3 s3 => (1 ≤ n3 ∧ lo + n3 ≤ a₀.size) ∧ Kp lo st1 st3 ∧ UpTo ϕ (arrOf st3) lo (lo + n3) ∧ G s3)
  ·intro tail
   by_cases cn : n < minRun' a₀.size a₀.size 0
   rotate_left
   ·rw [if_neg cn]
    have hP : (fun n3 st3 s3 => (1 ≤ n3 ∧ lo + n3 ≤ a₀.size) ∧ Kp lo st1 st3 ∧ UpTo ϕ (arrOf st3) lo (lo + n3) ∧ G s3) n st2 s2 := ⟨by omega, K2, u2, g2⟩
    revert hP
    generalize n = n'
    exact fun hP => tail n' st2 s2 hP
   ·rw [if_pos cn]
    refine kasC_bind (kc_rule ?_)
    refine kasC_bind (kc_ins R J1.kind (ha.perm J1.perm) (by omega) (by omega) K2 u2 g2 fun st3 s3 K3 u3 g3 => ?_)
    rw [if_neg (by decide)]
    exact tail _ st3 s3 ⟨by omega, K3, u3, g3⟩
  clear n1 n2 K2 u2 g2
  rintro n3 st3 s3 ⟨hn3, K3, u3, g3⟩
  refine kasC_bind (kasC_get ?_)
  have J3 := J1.kp K3
  have done : ∀ (l' : List (Nat × Nat × Nat)) (st4 : SortSt) (s4 : Shared), Jn κ ϕ a₀ lo l' st4 → UpTo ϕ (arrOf st4) lo (lo + n3) → G s4 → ∃ lo' l, ((none : Option Unit), lo + n3) = (none, lo') ∧ t + 1 ≤ lo' ∧ lo' ≤ a₀.size ∧ Jn κ ϕ a₀ lo' l (setPending st4 ((pendingOf st4).push (lo, n3, 0))) ∧ G s4 := fun l' st4 s4 J4 u4 g4 =>
   ⟨lo + n3, l' ++ [(lo, n3, 0)], rfl, by omega, by omega, ⟨J4.kind, J4.fail, J4.perm, by show ((pendingOf st4).push (lo, n3, 0)).toList = _; rw [Array.toList_push, J4.pend], J4.runs.join ⟨rfl, hn3.1, u4, rfl⟩⟩, g4⟩
  split
  ·refine kasC_bind (kc_mono (Q := fun c st' s' => c = (none, ()) ∧ ∃ l', Jn κ ϕ a₀ lo l' st' ∧ UpTo ϕ (arrOf st') lo (lo + n3) ∧ G s') (kc_for (fun _ c st' s' => c = (none, ()) ∧ ∃ l', Jn κ ϕ a₀ lo l' st' ∧ UpTo ϕ (arrOf st') lo (lo + n3) ∧ G s') ⟨rfl, l, J3, u3, g3⟩ ?_ ?_) ?_)
   ·rintro _ c st4 s4 _ ⟨rfl, l', J4, u4, g4⟩
    refine kasC_bind (kasC_get ?_)
    split
    ·rename_i hh
     by_cases cp : (pendingOf st4).size > 1
     ·split
      ·exact kasC_pure ⟨rfl, l', J4, u4, g4⟩
      ·refine kasC_bind (kc_mgAt R ha J4 b2 (by rw [← J4.pend, Array.length_toList]; omega) g4 fun l5 st5 s5 hl5 J5 e5 g5 => ?_)
       rw [if_neg (by decide)]
       exact kasC_pure ⟨rfl, l5, J5, fun i j a1 a2 a3 => (by rw [e5 i a1, e5 j (by omega)]; exact u4 i j a1 a2 a3), g5⟩
     ·rw [if_neg cp] at hh
      cases hh
    ·exact kasC_pure ⟨rfl, l', J4, u4, g4⟩
   ·rintro c st4 s4 hh
    exact hh
   ·rintro c st4 s4 ⟨rfl, l', J4, u4, g4⟩
    dsimp only
    exact kasC_bind (kasC_modify (kasC_bind (kasC_modify (kasC_pure (done _ _ _ (J4.mod fun x => ⟨rfl, rfl⟩) u4 g4)))))
  ·exact kasC_bind (kasC_modify (kasC_pure (done l _ _ J3 u3 g3)))
 ·rintro c st1 s1 ⟨lo, l, rfl, b1, b2, J1, g1⟩
  have : lo = a₀.size := by omega
  subst this
  exact ⟨l, rfl, J1, g1⟩
 ·rintro c st1 s1 ⟨l, rfl, J1, g1⟩
  dsimp only
  refine kasC_bind (kc_mono (Q := fun c st' s' => c = (none, ()) ∧ ∃ l, l.length ≤ 1 ∧ Jn κ ϕ a₀ a₀.size l st' ∧ G s') (kc_for (fun t c st' s' => c = (none, ()) ∧ ∃ l, (l.length ≤ 1 ∨ l.length + t ≤ a₀.size) ∧ Jn κ ϕ a₀ a₀.size l st' ∧ G s') ⟨rfl, l, ?_, J1, g1⟩ ?_ ?_) ?_)
  ·have := J1.runs.le
   omega
  ·rintro t c st4 s4 ht ⟨rfl, l', hl', J4, g4⟩
   refine kasC_bind (kasC_get ?_)
   have hsz : (pendingOf st4).size = l'.length := by rw [← J4.pend, Array.length_toList]
   by_cases cp : (pendingOf st4).size ≤ 1
   ·rw [if_pos cp]
    exact kasC_pure ⟨rfl, l', by omega, J4, g4⟩
   ·rw [if_neg cp]
    refine kasC_bind (kc_mgAt R ha J4 (Nat.le_refl _) ?_ g4 fun l5 st5 s5 hl5 J5 e5 g5 => ?_)
    ·exact Nat.lt_of_le_of_lt (Nat.succ_le_succ (if_le _ _)) (by omega)
    ·rw [if_neg (by decide)]
     exact kasC_pure ⟨rfl, l5, by omega, J5, g5⟩
  ·rintro c st4 s4 ⟨rfl, l', hl', J4, g4⟩
   have := J4.runs.le
   exact ⟨rfl, l', by omega, J4, g4⟩
  ·rintro c st4 s4 ⟨rfl, l', hl', J4, g4⟩
   refine kasC_pure (h st4 s4 J4.fail J4.perm ?_ g4)
   have r4 := J4.runs
   have sz : (arrOf st4).size = a₀.size := J4.perm.size_eq
   match l', hl', r4 with
   | [], _, r4 =>
    have : 0 = a₀.size := r4
    omega
   | [x], _, r4 =>
    obtain ⟨q1, q2, q3, q4⟩ := r4
    have q4 : 0 + x.2.1 = a₀.size := q4
    have := of_up (ϕ := ϕ) (a := arrOf st4) (p := 0) (n := x.2.1) q3 (by omega)
    rw [List.drop_zero, List.take_of_length_le (by rw [Array.length_toList]; omega)] at this
    exact this
   | x :: y :: l', hl', _ => simp at hl'
end
end Tim
namespace Tim
open PySem PySem.W PyProof.Rows
structure WO (n : Nat) (lt : Nat → Nat → Bool) : Prop where
 irr : ∀ i, i < n → lt i i = false
 tr : ∀ i j k, i < n → j < n → k < n → lt i j = true → lt j k = true → lt i k = true
 ntr : ∀ i j k, i < n → j < n → k < n → lt k j = true → lt k i = true ∨ lt i j = true
def rk (n : Nat) (lt : Nat → Nat → Bool) (i : Nat) : Nat := ((List.range n).filter fun k => lt k i).length
theorem len_filter_le {α : Type} {p q : α → Bool} : ∀ (l : List α), (∀ x ∈ l, p x = true → q x = true) → (l.filter p).length ≤ (l.filter q).length
 | [], _ => Nat.le_refl _
 | x :: l, h => by
  have ih := len_filter_le l fun y hy => h y (List.mem_cons_of_mem _ hy)
  rw [List.filter_cons, List.filter_cons]
  by_cases c : p x = true
  ·rw [if_pos c, if_pos (h x (List.mem_cons_self ..) c)]
   simpa using ih
  ·rw [if_neg c]
   split
   ·simp only [List.length_cons]
    omega
   ·exact ih
theorem len_filter_lt {α : Type} {p q : α → Bool} : ∀ (l : List α), (∀ x ∈ l, p x = true → q x = true) → (∃ x ∈ l, p x = false ∧ q x = true) → (l.filter p).length < (l.filter q).length
 | [], _, ⟨x, hx, _⟩ => nomatch hx
 | x :: l, h, ⟨y, hy, e1, e2⟩ => by
  have le := len_filter_le l fun z hz => h z (List.mem_cons_of_mem _ hz)
  rw [List.filter_cons, List.filter_cons]
  rcases List.mem_cons.mp hy with z | z
  ·subst z
   rw [if_neg (by rw [e1]; decide), if_pos e2]
   simp only [List.length_cons]
   omega
  ·have ih := len_filter_lt l (fun z hz => h z (List.mem_cons_of_mem _ hz)) ⟨y, z, e1, e2⟩
   by_cases c : p x = true
   ·rw [if_pos c, if_pos (h x (List.mem_cons_self ..) c)]
    simpa using ih
   ·rw [if_neg c]
    split
    ·simp only [List.length_cons]
     omega
    ·exact ih
theorem WO.rk_lt {n : Nat} {lt : Nat → Nat → Bool} (o : WO n lt) {i j : Nat} (hi : i < n) (hj : j < n) : decide (rk n lt i < rk n lt j) = lt i j := by
 cases c : lt i j with
 | true =>
  refine decide_eq_true (len_filter_lt _ (fun k hk h => o.tr k i j (List.mem_range.mp hk) hi hj h c) ⟨i, List.mem_range.mpr hi, o.irr i hi, c⟩)
 | false =>
  refine decide_eq_false (Nat.not_lt.mpr (len_filter_le _ fun k hk h => ?_))
  rcases o.ntr i j k hi hj (List.mem_range.mp hk) h with z | z
  ·exact z
  ·rw [c] at z
   cases z
theorem perm_map {α β : Type} {f : α → β} : ∀ {l : List β} {m : List β}, l.Perm m → ∀ q : List α, m = q.map f → ∃ q' : List α, q'.Perm q ∧ l = q'.map f := by
 intro l m h
 induction h with
 | nil =>
  intro q e
  exact ⟨q, List.Perm.refl _, e⟩
 | cons x _ ih =>
  intro q e
  match q, e with
  | y :: q, e =>
   rw [List.map_cons] at e
   injection e with e1 e2
   obtain ⟨q', h1, h2⟩ := ih q e2
   exact ⟨y :: q', h1.cons y, by rw [List.map_cons, h2, e1]⟩
 | swap x y l =>
  intro q e
  match q, e with
  | a :: b :: q, e =>
   simp only [List.map_cons] at e
   injection e with e1 e2
   injection e2 with e2 e3
   exact ⟨b :: a :: q, List.Perm.swap .., by simp only [List.map_cons]; rw [e1, e2, e3]⟩
 | trans _ _ ih1 ih2 =>
  intro q e
  obtain ⟨q2, h1, h2⟩ := ih2 q e
  obtain ⟨q3, h3, h4⟩ := ih1 q2 h2
  exact ⟨q3, h3.trans h1, h4⟩
section
variable {prog : Program} {w : World} {A : Around} {E : Value → Shared → Prop} {s : Shared}
open Classical in
noncomputable def phi (vs : List Value) (lt : Nat → Nat → Bool) (x : Keyed) : Nat := if h : ∃ i, vs[i]? = some x.1 then rk vs.length lt (Classical.choose h) else 0
theorem list_sortW {a : Addr} {vs : List Value} {lt : Nat → Nat → Bool} {κ : SortKind} {n : Nat} {P : PySem.Fin → Shared → Prop} (ho : s.heap.get? a = some (seqObj "list" vs.toArray n)) (hz : vs.length ≤ sizeLine) (o : WO vs.length lt)
  (same : ∀ i j, i < vs.length → vs[i]? = vs[j]? → ∀ k, lt k i = lt k j)
  (kd : ∀ (h6 : Heap) (Q : SortKind → Shared → Prop), (∀ b o, b ≠ a → s.heap.get? b = some o → h6.get? b = some o) → 2 ≤ vs.length → Q κ { s with heap := h6 } → wpAny (model prog w) A (keyKind' vs.toArray) Q E { s with heap := h6 })
  (ask : ∀ (h6 : Heap) (tk i j : Nat) (x y : Value) (C : Bool → Shared → Prop), (∀ b o, b ≠ a → s.heap.get? b = some o → h6.get? b = some o) → vs[i]? = some x → vs[j]? = some y → (∀ tk, C (lt i j) { s with heap := h6, toks := tk }) → wpAny (model prog w) A (keyLt' κ x y) C (fun _ _ => False) { s with heap := h6, toks := tk })
  (h : ∀ (h1 : Heap) (tk c : Nat) (p : Array Nat), Srt.Pm vs.length p → (∀ i j, i < j → j < vs.length → lt (p.getD j 0) (p.getD i 0) = false) → (∀ b o, b ≠ a → s.heap.get? b = some o → h1.get? b = some o) →
   h1.get? a = some (seqObj "list" (p.toList.map fun i => vs.getD i Value.none).toArray c) → P (.done (.ret .none)) { s with heap := h1, toks := tk }) :
  wpAny (model prog w) A (Builtin.«list.sort» ⟨[.ref a], []⟩) P E s := by
 have ha : a < s.heap.objs.size := Heap.lt_size ho
 rw [list_sort_plain]
 refine wpAny_bind (listItems_at ho rfl (wpAny_bind (listUpdate_at ho rfl ?_ (by rw [List.size_toArray]; exact hz) (Nat.zero_le _))))
 obtain ⟨e1, ho1⟩ : ∃ e1, (s.heap.update a (Obj.mapSeq fun _ => (#[] : Array Value))).get? a = some (seqObj "list" #[] e1) := ⟨_, get?_update_seq ho fun _ => #[]⟩
 have k1 : ∀ b o, b ≠ a → s.heap.get? b = some o → (s.heap.update a (Obj.mapSeq fun _ => (#[] : Array Value))).get? b = some o := fun b o hb q => (Heap.get?_update_other _ _ (Ne.symm hb)).trans q
 refine wpAny_bind (seqEpoch_at ho1 rfl (wpAny_bind (wpAny_newTuple ?_ (by show vs.length ≤ _; exact hz))))
 refine wpAny_bind (wpAny_newList ?_ (Nat.zero_le _))
 refine wpAny_holding ?_
 generalize hg : ((s.heap.update a (Obj.mapSeq fun _ => (#[] : Array Value))).push { cls := .type "tuple", data := .seq vs.toArray.toList.toArray }).push { cls := .type "list", data := .seq ([] : List Value).toArray } = h6
 have k6 : ∀ b o, b ≠ a → s.heap.get? b = some o → h6.get? b = some o := fun b o hb q => by
  rw [← hg]
  exact Heap.get?_push_of_some _ (Heap.get?_push_of_some _ (k1 b o hb q))
 have ho6 : h6.get? a = some (seqObj "list" #[] e1) := by
  rw [← hg]
  exact Heap.get?_push_of_some _ (Heap.get?_push_of_some _ ho1)
 show wpAny (model prog w) A _ P E { s with heap := h6 }
 dsimp only
 have fin : ∀ (tk : Nat) (p : Array Nat) (out : Array Value), Srt.Pm vs.length p → (∀ i j, i < j → j < vs.length → lt (p.getD j 0) (p.getD i 0) = false) → out = (p.toList.map fun i => vs.getD i Value.none).toArray →
   ∃ c, (h6.update a (Obj.mapSeq fun _ => out)).get? a = some (seqObj "list" out c) ∧ out.size ≤ sizeLine ∧ P (.done (.ret .none)) { s with heap := h6.update a (Obj.mapSeq fun _ => out), toks := tk } := fun tk p out hp hu ho' => by
  have hc := get?_update_seq ho6 fun _ => out
  refine ⟨_, hc, ?_, h _ tk _ p hp hu (fun b o hb q => (Heap.get?_update_other _ _ (Ne.symm hb)).trans (k6 b o hb q)) (by rw [← ho']; exact hc)⟩
  rw [ho', List.size_toArray, List.length_map, Array.length_toList, hp.size]
  exact hz
 have hr : vs = (List.range vs.length).map fun i => vs.getD i Value.none := by
  apply List.ext_getElem?
  intro i
  simp only [List.getElem?_map]
  by_cases hi : i < vs.length
  ·rw [List.getElem?_eq_getElem hi, List.getElem?_range hi, Option.map_some, List.getD_eq_getElem?_getD, List.getElem?_eq_getElem hi]
   rfl
  ·rw [List.getElem?_eq_none (by omega), List.getElem?_eq_none (by simp; omega)]
   rfl
 by_cases h2 : vs.toArray.size < 2
 ·rw [if_pos h2, if_pos h2]
  rw [List.size_toArray] at h2
  obtain ⟨c, f1, f2, f3⟩ := fin s.toks (List.range vs.length).toArray vs.toArray ⟨by simp, Array.Perm.refl _⟩ (fun a b hab hb => by omega) (congrArg List.toArray hr)
  refine wpAny_bind (wpAny_pure ?_)
  rw [StateT.run_pure]
  refine wpAny_bind (wpAny_pure ?_)
  have eo : (arrOf (SortSt.mk' general' (vs.toArray.zip vs.toArray) #[] 7 none)).map (·.2) = vs.toArray := by
   show (vs.toArray.zip vs.toArray).map (·.2) = vs.toArray
   apply Array.toList_inj.mp
   simp
   exact List.map_snd_zip (Nat.le_refl _)
  dsimp only
  rw [eo]
  refine wpAny_bind (seqEpoch_at ho6 rfl (wpAny_bind (listUpdate_at ho6 rfl ?_ (Nat.zero_le _) (Nat.le_succ_of_le f2))))
  simp only [bne_self_eq_false, Bool.false_eq_true, if_false]
  exact wpAny_pure f3
 ·rw [if_neg h2, if_neg h2]
  rw [List.size_toArray] at h2
  have zl : (vs.toArray.zip vs.toArray).toList = (List.range vs.length).map fun i => ((vs.getD i Value.none, vs.getD i Value.none) : Keyed) := by
   rw [Array.toList_zip]
   show vs.zip vs = _
   apply List.ext_getElem?
   intro i
   simp only [List.getElem?_map]
   by_cases hi : i < vs.length
   ·rw [List.getElem?_range hi, Option.map_some, (List.getElem?_zip_eq_some (z := (vs[i], vs[i]))).mpr ⟨List.getElem?_eq_getElem hi, List.getElem?_eq_getElem hi⟩, List.getD_eq_getElem?_getD, List.getElem?_eq_getElem hi]
    rfl
   ·rw [List.getElem?_eq_none (by simp; omega), List.getElem?_eq_none (by simp; omega)]
    rfl
  have zsz : (vs.toArray.zip vs.toArray).size = vs.length := by rw [← Array.length_toList, zl, List.length_map, List.length_range]
  have ph : ∀ (i : Nat) (x : Keyed), i < vs.length → x.1 = vs.getD i Value.none → phi vs lt x = rk vs.length lt i := fun i x hi e => by
   have hx : ∃ i, vs[i]? = some x.1 := ⟨i, by rw [e, List.getD_eq_getElem?_getD, List.getElem?_eq_getElem hi]; rfl⟩
   unfold phi
   rw [dif_pos hx]
   have hc := Classical.choose_spec hx
   generalize Classical.choose hx = j at *
   have hj : j < vs.length := (List.getElem?_eq_some_iff.mp hc).1
   have ee : vs[j]? = vs[i]? := by rw [hc, e, List.getD_eq_getElem?_getD, List.getElem?_eq_getElem hi]; rfl
   unfold rk
   congr 1
   refine List.filter_congr fun k hk => ?_
   exact same j i hj ee k
  refine wpAny_bind (kd h6 _ k6 (by omega) ?_)
  have R : Rank prog w A κ (phi vs lt) (fun x => ∃ i, i < vs.length ∧ x.1 = vs.getD i Value.none) (fun s' => ∃ tk, s' = { s with heap := h6, toks := tk }) := ⟨fun x y C s' ⟨i, hi, ei⟩ ⟨j, hj, ej⟩ ⟨tk, g⟩ k => by
   subst g
   refine ask h6 tk i j x.1 y.1 C k6 (by rw [ei, List.getD_eq_getElem?_getD, List.getElem?_eq_getElem hi]; rfl) (by rw [ej, List.getD_eq_getElem?_getD, List.getElem?_eq_getElem hj]; rfl) fun tk' => ?_
   rw [← o.rk_lt hi hj, ← ph i x hi ei, ← ph j y hj ej]
   exact k _ ⟨tk', rfl⟩⟩
  refine wpAny_bind (wpAny_mono (show kasC (model prog w) A E sortRuns' (fun _ st' s' => failedOf st' = none ∧ (arrOf st').Perm (vs.toArray.zip vs.toArray) ∧ Up (phi vs lt) (arrOf st').toList ∧ ∃ tk, s' = { s with heap := h6, toks := tk }) (SortSt.mk' κ (vs.toArray.zip vs.toArray) #[] 7 none) { s with heap := h6 } from
   kc_sort R (a₀ := vs.toArray.zip vs.toArray) (fun i x e => ?_) rfl rfl rfl rfl (by omega) ⟨s.toks, rfl⟩ fun st' s' a1 a2 a3 a4 => ⟨a1, a2, a3, a4⟩) ?_ fun _ _ e => e)
  ·have hi : i < vs.length := by
    have := (Array.getElem?_eq_some_iff.mp e).1
    omega
   rw [← Array.getElem?_toList, zl, List.getElem?_map, List.getElem?_range hi] at e
   cases e
   exact ⟨i, hi, rfl⟩
  ·rintro ⟨⟨⟩, st'⟩ s' ⟨hf', hpm, hup, tk, rfl⟩
   obtain ⟨q, hq1, hq2⟩ := perm_map (Array.perm_iff_toList_perm.mp hpm) _ zl
   have hqs : q.toArray.size = vs.length := by rw [List.size_toArray, hq1.length_eq, List.length_range]
   have hout : (arrOf st').map (·.2) = (q.toArray.toList.map fun i => vs.getD i Value.none).toArray := by
    apply Array.toList_inj.mp
    rw [Array.toList_map, hq2, List.map_map]
    rfl
   have up' : ∀ i j, i < j → j < vs.length → lt (q.toArray.getD j 0) (q.toArray.getD i 0) = false := fun i j hij hj => by
    rw [List.size_toArray] at hqs
    have gi : ∀ k (hk : k < q.length), q.toArray.getD k 0 = q[k] ∧ q[k] < vs.length := fun k hk => ⟨by rw [Array.getD_eq_getD_getElem?, List.getElem?_toArray, List.getElem?_eq_getElem hk]; rfl, List.mem_range.mp (hq1.mem_iff.mp (List.getElem_mem hk))⟩
    obtain ⟨ei, bi⟩ := gi i (by omega)
    obtain ⟨ej, bj⟩ := gi j (by omega)
    rw [ei, ej, ← o.rk_lt bj bi]
    refine decide_eq_false (Nat.not_lt.mpr ?_)
    rw [hq2] at hup
    have := List.pairwise_iff_getElem.mp (List.pairwise_map.mp hup) i j (by omega) (by omega) hij
    rw [ph _ _ bi rfl, ph _ _ bj rfl] at this
    exact this
   obtain ⟨c, f1, f2, f3⟩ := fin tk q.toArray _ ⟨hqs, Array.perm_iff_toList_perm.mpr (by simpa using hq1)⟩ up' hout
   dsimp only
   refine wpAny_bind (seqEpoch_at (s := { s with heap := h6, toks := tk }) ho6 rfl (wpAny_bind (listUpdate_at (s := { s with heap := h6, toks := tk }) ho6 rfl ?_ (Nat.zero_le _) (Nat.le_succ_of_le f2))))
   rw [hf']
   simp only [bne_self_eq_false, Bool.false_eq_true, if_false]
   exact wpAny_pure f3
end
end Tim
namespace Tim
open PySem PySem.W PyProof.Rows
structure SortAs (prog : Program) (w : World) (h1 : Heap) (vs : List Value) (lt : Nat → Nat → Bool) (κ : SortKind) : Prop where
 wo : WO vs.length lt
 same : ∀ i j, i < vs.length → vs[i]? = vs[j]? → ∀ k, lt k i = lt k j
 kd : ∀ (A : Around) (E : Value → Shared → Prop) (s : Shared) (Q : SortKind → Shared → Prop), (∀ b o, h1.get? b = some o → s.heap.get? b = some o) → 2 ≤ vs.length → Q κ s → wpAny (model prog w) A (keyKind' vs.toArray) Q E s
 ask : ∀ (A : Around) (s : Shared) (i j : Nat) (x y : Value) (C : Bool → Shared → Prop), (∀ b o, h1.get? b = some o → s.heap.get? b = some o) → vs[i]? = some x → vs[j]? = some y → (∀ tk, C (lt i j) { s with toks := tk }) → wpAny (model prog w) A (keyLt' κ x y) C (fun _ _ => False) s
section
variable {prog : Program} {w : World} {A : Around} {E : Value → Shared → Prop} {s : Shared}
theorem sorted_all {r : Addr} {Q : Value → Shared → Prop} {Pc : Heap → List Value → Prop} {lt : Nat → Nat → Bool} {κ : SortKind}
  (col : ∀ (R : List Value → Shared → Prop), (∀ h1 tk vs, (∀ b o, s.heap.get? b = some o → h1.get? b = some o) → Pc h1 vs → R vs { s with heap := h1, toks := tk }) → wpAny (model prog w) A.in1 (collect (.ref r)) R E s)
  (ord : ∀ h1 vs, (∀ b o, s.heap.get? b = some o → h1.get? b = some o) → Pc h1 vs → vs.length ≤ sizeLine ∧ SortAs prog w h1 vs lt κ)
  (fin : ∀ h1 vs h3 tk c p, Pc h1 vs → (∀ b o, s.heap.get? b = some o → h3.get? b = some o) → (∀ b o, h1.get? b = some o → h3.get? b = some o) → (∀ b o, s.heap.get? b = some o → h1.get? b = some o) → Srt.Pm vs.length p → (∀ i j, i < j → j < vs.length → lt (p.getD j 0) (p.getD i 0) = false) →
   h3.get? h1.objs.size = some (seqObj "list" (p.toList.map fun i => vs.getD i Value.none).toArray c) → s.heap.get? h1.objs.size = none → Q (.ref h1.objs.size) { s with heap := h3, toks := tk }) :
  wpAny (model prog w) A (call (.builtin "sorted") [.ref r]) Q E s := by
 refine Calls.call_function_entry kind_sorted plain_sorted entry_sorted (args_sorted1 _) ?_
 unfold Builtin.«sorted»
 refine wpAny_bind (m := checkCount "sorted" 1 1 _) (wpAny_pure ?_)
 refine wpAny_bind (col _ fun h1 tk vs hk hP => ?_)
 obtain ⟨hz, S⟩ := ord h1 vs hk hP
 refine wpAny_bind (wpAny_newList ?_ hz)
 have hB : (h1.push { cls := .type "list", data := .seq vs.toArray }).get? h1.objs.size = some (seqObj "list" vs.toArray 0) := Heap.get?_push_size _ rfl
 refine wpAny_bind (wpAny_holding (wpAny_call_entry slot_list_sort ⟨_, hB, rfl⟩ entry_list_sort ?body (args_list_sort _)))
 have k1 : ∀ {h6 : Heap}, (∀ b o, b ≠ h1.objs.size → (h1.push { cls := .type "list", data := .seq vs.toArray }).get? b = some o → h6.get? b = some o) → ∀ b o, h1.get? b = some o → h6.get? b = some o := fun k b o e => k b o (Nat.ne_of_lt (Heap.lt_size e)) (Heap.get?_push_of_some _ e)
 refine list_sortW (s := { s with heap := h1.push { cls := .type "list", data := .seq vs.toArray }, toks := tk }) hB hz S.wo S.same (fun h6 Q k h2 q => S.kd _ _ _ _ (k1 k) h2 q) (fun h6 tk' i j x y C k e1 e2 q => S.ask _ _ i j x y C (k1 k) e1 e2 fun tk2 => q tk2)
  fun h3 tk3 c p hp hs hkeep hD => ⟨_, rfl, wpAny_pure ⟨_, rfl, ?_⟩⟩
 refine fin h1 vs h3 tk3 c p hP (fun b o e => k1 hkeep b o (hk b o e)) (k1 hkeep) hk hp hs hD ?_
 cases e : s.heap.get? h1.objs.size with
 | none => rfl
 | some u => exact absurd (Heap.lt_size (hk _ _ e)) (Nat.lt_irrefl _)
def ltS (xs : List Str) (i j : Nat) : Bool := decide ((xs.getD i "").cps.toList < (xs.getD j "").cps.toList)
theorem ltS_wo (xs : List Str) (n : Nat) : WO n (ltS xs) where
 irr := fun i _ => by
  unfold ltS
  exact decide_eq_false (List.lt_irrefl _)
 tr := fun i j k _ _ _ h1 h2 => by
  unfold ltS at *
  rw [decide_eq_true_eq] at *
  exact List.lt_trans h1 h2
 ntr := fun i j k _ _ _ h => by
  unfold ltS at *
  rw [decide_eq_true_eq] at h
  rw [decide_eq_true_eq, decide_eq_true_eq]
  by_cases c : (xs.getD k "").cps.toList < (xs.getD i "").cps.toList
  ·exact .inl c
  ·exact .inr (List.lt_of_le_of_lt (List.not_lt.mp c) h)
theorem strs_at : ∀ {vs : List Value} {xs : List Str}, StrsAre vs xs → ∀ (i : Nat) (v : Value), vs[i]? = some v → ∃ t, v = .str (xs.getD i "") t ∧ xs[i]? = some (xs.getD i "")
 | _, _, .nil, i, v, h => by simp at h
 | _, _, .cons y t r, 0, v, h => by
  simp at h
  exact ⟨t, by rw [← h]; rfl, rfl⟩
 | _, _, .cons y t r, i + 1, v, h => by
  obtain ⟨t', e1, e2⟩ := strs_at r i v (by simpa using h)
  exact ⟨t', by rw [e1]; rfl, by simpa using e2⟩
theorem sa_strs {h1 : Heap} {vs : List Value} {xs : List Str} (hS : StrsAre vs xs) : SortAs prog w h1 vs (ltS xs) oneType' where
 wo := ltS_wo xs _
 same := fun i j hi e k => by
  have hj : vs[j]? = some vs[i] := by rw [← e]; exact List.getElem?_eq_getElem hi
  obtain ⟨t1, e1, _⟩ := strs_at hS i _ (List.getElem?_eq_getElem hi)
  obtain ⟨t2, e2, _⟩ := strs_at hS j _ hj
  rw [e1] at e2
  injection e2 with e2 _
  unfold ltS
  rw [e2]
 kd := fun A E s Q _ h2 q => by
  match vs, hS, h2 with
  | v1 :: v2 :: vs, hS, _ =>
   rw [keyKind_strs hS]
   exact wpAny_pure q
 ask := fun A s i j x y C _ e1 e2 q => by
  obtain ⟨t1, rfl, _⟩ := strs_at hS i _ e1
  obtain ⟨t2, rfl, _⟩ := strs_at hS j _ e2
  exact kas_lt_str (q s.toks)
def PrI (h : Heap) (v : Value) (x : Str) : Prop := ∃ a o n t y, v = .ref a ∧ h.get? a = some o ∧ o.cls = .type "tuple" ∧ o.data = .seq #[.str x t, y] n
theorem PrI.keep {h h' : Heap} {v : Value} {x : Str} (p : PrI h v x) (k : ∀ b o, h.get? b = some o → h'.get? b = some o) : PrI h' v x := by
 obtain ⟨a, o, n, t, y, e, e1, e2⟩ := p
 exact ⟨a, o, n, t, y, e, k a o e1, e2⟩
theorem katTups {h : Heap} : ∀ {vs : List Value} {xs : List Str}, xs.length = vs.length → (∀ (i : Nat) (v : Value) (x : Str), vs[i]? = some v → xs[i]? = some x → PrI h v x) → ∃ fs, KatTups h vs fs ∧ fs.length = vs.length ∧ ∀ f ∈ fs, ∃ x t, f = .str x t
 | [], [], _, _ => ⟨[], trivial, rfl, fun f hf => nomatch hf⟩
 | [], _ :: _, h, _ => by cases h
 | _ :: _, [], h, _ => by cases h
 | v :: vs, x :: xs, hl, hv => by
  obtain ⟨a, o, n, t, y, rfl, ha, hc, hd⟩ := hv 0 v x rfl rfl
  obtain ⟨fs, k, l, q⟩ := katTups (vs := vs) (xs := xs) (by simpa using hl) fun i v x e1 e2 => hv (i + 1) v x e1 e2
  refine ⟨.str x t :: fs, KatTups.cons ha hc hd rfl k, by simp [l], fun f hf => ?_⟩
  rcases List.mem_cons.mp hf with z | z
  ·exact ⟨x, t, z⟩
  ·exact q f z
theorem lt_ne {x y : Str} (h : ¬ x.cps.toList < y.cps.toList) (h2 : ¬ x = y) : y.cps.toList < x.cps.toList := by
 by_cases c : y.cps.toList < x.cps.toList
 ·exact c
 ·have e := List.le_antisymm (List.not_lt.mp c) (List.not_lt.mp h)
  exact absurd (by rw [← L2.tx_eta x, ← L2.tx_eta y, e]) h2
theorem eq_self {v : Value} {Q : Bool → Shared → Prop} (h : Q true s) : wpAny (model prog w) A (eqBool v v) Q E s := by
 unfold eqBool
 refine wpAny_holding ?_
 rw [if_pos (by simp)]
 exact wpAny_bind (wpAny_rule (wpAny_pure h))
theorem sa_tups {h1 : Heap} {vs : List Value} {xs : List Str} (hl : xs.length = vs.length) (nd : xs.Nodup) (hv : ∀ (i : Nat) (v : Value) (x : Str), vs[i]? = some v → xs[i]? = some x → PrI h1 v x) : SortAs prog w h1 vs (ltS xs) (tuples' ((Value.type "str") != Value.type "tuple")) where
 wo := ltS_wo xs _
 same := fun i j hi e k => by
  have hj : vs[j]? = some vs[i] := by rw [← e]; exact List.getElem?_eq_getElem hi
  have hj2 : j < vs.length := (List.getElem?_eq_some_iff.mp hj).1
  obtain ⟨a, o, n, t, y, e1, e2, e3, e4⟩ := hv i vs[i] xs[i] (List.getElem?_eq_getElem hi) (List.getElem?_eq_getElem (by omega))
  obtain ⟨a', o', n', t', y', e1', e2', e3', e4'⟩ := hv j vs[i] xs[j] hj (List.getElem?_eq_getElem (by omega))
  rw [e1] at e1'
  cases e1'
  rw [e2] at e2'
  cases e2'
  rw [e4] at e4'
  have ex : xs[i] = xs[j] := by
   injection e4' with z1 _
   have := congrArg (fun a : Array Value => a[0]?) z1
   simp at this
   exact this.1
  unfold ltS
  rw [List.getD_eq_getElem?_getD, List.getD_eq_getElem?_getD, List.getD_eq_getElem?_getD, List.getElem?_eq_getElem (show i < xs.length by omega), List.getElem?_eq_getElem (show j < xs.length by omega), ex]
 kd := fun A E s Q k h2 q => by
  obtain ⟨fs, kt, lf, hf⟩ := katTups (h := s.heap) hl fun i v x e1 e2 => (hv i v x e1 e2).keep k
  refine kat_kind (T := .type "str") kt (by omega) (fun f m => ?_) (by decide) q
  obtain ⟨x, t, rfl⟩ := hf f m
  exact Looks.of_pure rfl
 ask := fun A s i j x y C k e1 e2 q => by
  have hi : i < vs.length := (List.getElem?_eq_some_iff.mp e1).1
  have hj : j < vs.length := (List.getElem?_eq_some_iff.mp e2).1
  obtain ⟨a1, o1, n1, t1, y1, rfl, g1, c1, d1⟩ := (hv i x xs[i] e1 (List.getElem?_eq_getElem (by omega))).keep k
  obtain ⟨a2, o2, n2, t2, y2, rfl, g2, c2, d2⟩ := (hv j y xs[j] e2 (List.getElem?_eq_getElem (by omega))).keep k
  have el : ltS xs i j = decide (xs[i].cps.toList < xs[j].cps.toList) := by
   unfold ltS
   rw [List.getD_eq_getElem?_getD, List.getD_eq_getElem?_getD, List.getElem?_eq_getElem (show i < xs.length by omega), List.getElem?_eq_getElem (show j < xs.length by omega)]
   rfl
  by_cases hij : i = j
  ·subst hij
   rw [e1] at e2
   cases e2
   rw [g1] at g2
   cases g2
   rw [el] at q
   rw [decide_eq_false (List.lt_irrefl _)] at q
   refine kat_lt g1 d1 g1 d1 ?_
   refine kat_cons (eq_self (kat_yes (kat_cons (eq_self (kat_yes (kat_nil ?_))))))
   exact q s.toks
  have hne : ¬ xs[i] = xs[j] := fun z => hij ((List.getElem_inj nd).mp z)
  refine kat_lt g1 d1 g2 d2 (kat_cons (wpAny_eqBool_str ?_))
  rw [decide_eq_false hne]
  refine kat_no (kas_lt_str ?_)
  rw [← el]
  exact q s.toks
end
end Tim
namespace L2
open PySem PySem.Spec PyProof.Rows PySem.W
section
variable {prog : Program} {w : World} {A : Around} {E : Value → Shared → Prop} {s : Shared}
theorem sl_big {n : Nat} (h : n ≤ 1000) : n ≤ sizeLine := by rw [sizeLine_eq]; omega
theorem pm_up {xs : List Str} {n : Nat} {p : Array Nat} (hl : xs.length = n) (nd : xs.Nodup) (hp : Srt.Pm n p) (h : ∀ i j, i < j → j < n → Tim.ltS xs (p.getD j 0) (p.getD i 0) = false) : Srt.Up (ltX xs) p n := fun i j hij hj => by
 have h1 := h i j hij hj
 have bi := hp.below (show i < n by omega)
 have bj := hp.below hj
 have ne := hp.ne (show i < n by omega) hj (by omega)
 unfold Tim.ltS at h1
 unfold ltX
 rw [decide_eq_false_iff_not] at h1
 rw [decide_eq_true_eq]
 refine Tim.lt_ne h1 fun e => ne ?_
 rw [getD_at (by omega), getD_at (by omega)] at e
 exact ((List.getElem_inj nd).mp e).symm
theorem list_sortT2 {a : Addr} {vs : List Value} {xs : List Str} {n : Nat} {P : PySem.Fin → Shared → Prop} (ho : s.heap.get? a = some (seqObj "list" vs.toArray n)) (h1k : vs.length ≤ 1000) (hl : xs.length = vs.length) (nd : xs.Nodup)
  (hv : ∀ (i : Nat) (v : Value) (x : Str), vs[i]? = some v → xs[i]? = some x → PrIn s.heap v x)
  (h : ∀ (h1 : Heap) (tk c : Nat) (p : Array Nat), Srt.Pm xs.length p → Srt.Up (ltX xs) p xs.length → (∀ b o, b ≠ a → s.heap.get? b = some o → h1.get? b = some o) →
   h1.get? a = some (seqObj "list" (p.toList.map fun i => vs.getD i Value.none).toArray c) → P (.done (.ret .none)) { s with heap := h1, toks := tk }) :
  wpAny (model prog w) A (Builtin.«list.sort» ⟨[.ref a], []⟩) P E s := by
 have hv6 : ∀ {h6 : Heap}, (∀ b o, b ≠ a → s.heap.get? b = some o → h6.get? b = some o) → ∀ (i : Nat) (v : Value) (x : Str), vs[i]? = some v → xs[i]? = some x → Tim.PrI h6 v x := fun {h6} k6 i v x q1 q2 => by
  obtain ⟨b, t, y, rfl, hb⟩ := hv i v x q1 q2
  exact ⟨b, _, _, t, y, rfl, k6 b _ (fun z => by rw [z, ho] at hb; injection hb with hb; exact absurd (congrArg Obj.cls hb) (by unfold seqObj; simp)) hb, rfl, rfl⟩
 have hv0 : ∀ (i : Nat) (v : Value) (x : Str), vs[i]? = some v → xs[i]? = some x → Tim.PrI s.heap v x := fun i v x q1 q2 => by
  obtain ⟨b, t, y, rfl, hb⟩ := hv i v x q1 q2
  exact ⟨b, _, _, t, y, rfl, hb, rfl, rfl⟩
 refine Tim.list_sortW ho (sl_big h1k) (Tim.ltS_wo xs _) (Tim.sa_tups (prog := prog) (w := w) hl nd hv0).same (fun h6 Q k h2 q => (Tim.sa_tups (h1 := h6) hl nd (hv6 k)).kd _ _ _ _ (fun b o e => e) h2 q) (fun h6 tk i j x y C k e1 e2 q => (Tim.sa_tups (h1 := h6) hl nd (hv6 k)).ask _ _ i j x y C (fun b o e => e) e1 e2 fun tk2 => q tk2)
  fun h1 tk c p hp hs k hD => h h1 tk c p (hl ▸ hp) (by rw [hl]; exact pm_up hl nd hp hs) k hD
end
theorem call_sortedI2 {X : Cx} (hc : X.calm = true) : CallR X (.builtin "sorted") (fun xs H Q => ∃ (p d : Addr) (ks : List Str) (g : Str → V), xs = [.ref p] ∧ H p = some (ivO p d) ∧ H d = some (.dK (ks.map fun x => ((Sum.inr x : Key), g x))) ∧ ks.Nodup ∧ ks.length ≤ 1000 ∧
  ∀ (D : Addr) (H1 : Hp) (vs : List V) (ss : List Str), Same H H1 → ss.Perm ks → (ss.map fun x => x.cps.toList).Pairwise (· < ·) → H1 D = some (.lst vs) → vs.length = ss.length →
   (∀ (i : Nat) (x : Str), ss[i]? = some x → ∃ b, vs[i]? = some (.ref b) ∧ H1 b = some (.tup [.str x, g x])) → Q (.ref D) H1) := by
 intro pins s σ H xs us Q I r h
 obtain ⟨p, d, ks, g, rfl, hp, hd, nd, h1k, q⟩ := h
 obtain ⟨u, rfl, ru⟩ := vals1 r
 cases ru
 have hview : s.heap.IsItemsView p d := (I.hok p _ hp).1
 obtain ⟨hz, lo, vs', kv, dd⟩ := dk_of I.hok hd
 obtain ⟨ep, hat⟩ := dd.dictAt
 have hlen : ks.length = vs'.length := by have := kv.length; simpa using this
 have hsz : vs'.length ≤ sizeLine := by rw [sizeLine_eq]; omega
 refine Calls.call_function_entry kind_sorted plain_sorted entry_sorted (args_sorted1 _) ?_
 unfold Builtin.«sorted»
 refine wpAny_bind (m := checkCount "sorted" 1 1 _) (wpAny_pure ?_)
 refine wpAny_bind (kdx_collect (A := X.A.in1) (knd := mixKind X.prog X.w) (kvs := vs') (ep := ep) (I.ok.hd hc) hview hat hsz fun h1 tk as hk hl hG => ?_)
 refine wpAny_bind (wpAny_newList ?_ (by rw [List.length_map, hl]; exact hsz))
 have pr : ∀ (i : Nat), i < ks.length → ∃ a t y, as[i]? = some a ∧ RelV (g (ks.getD i "")) y ∧ h1.get? a = some { cls := .type "tuple", data := .seq #[.str (ks.getD i "") t, y] } := fun i hi => by
  have hi2 : i < as.length := by omega
  obtain ⟨key, k, x, e1, e2, e3⟩ := hG.pairs i as[i] (List.getElem?_eq_getElem hi2)
  have ek := congrArg (fun l : List Key => l[i]?) kv.keys
  simp only [List.getElem?_map] at ek
  rw [e1, List.getElem?_eq_getElem hi] at ek
  have ek' : (Sum.inr ks[i] : Key) = k := Option.some.inj ek
  have ev : RelV (g ks[i]) x := by
   have key : ∀ {l1 : List (Key × V)} {l2 : List (Key × Value)} (i : Nat) (p : Key × V) (q : Key × Value), Paired (fun (p : Key × V) (q : Key × Value) => p.1 = q.1 ∧ RelV p.2 q.2) l1 l2 → l1[i]? = some p → l2[i]? = some q → RelV p.2 q.2 := by
    intro l1 l2 i p q hP
    induction hP generalizing i with
    | nil => intro e; simp at e
    | cons r t ih =>
     intro e1 e2
     cases i with
     | zero =>
      simp at e1 e2
      subst e1 e2
      exact r.2
     | succ i => exact ih i (by simpa using e1) (by simpa using e2)
   exact key i (Sum.inr ks[i], g ks[i]) (k, x) kv (by rw [List.getElem?_map, List.getElem?_eq_getElem hi]; rfl) e1
  subst ek'
  rcases keyIs_shape (show keyIs (Sum.inr ks[i]) key = true from e2) with ⟨j, t, e4, _⟩ | ⟨z, t, e4, e5⟩
  ·cases e4
  ·injection e4 with e4
   subst e4
   refine ⟨as[i], t, x, List.getElem?_eq_getElem hi2, by rw [getD_at hi]; exact ev, ?_⟩
   rw [e3, e5, getD_at hi]
 have hB : (h1.push { cls := .type "list", data := .seq (as.map Value.ref).toArray }).get? h1.objs.size = some (seqObj "list" (as.map Value.ref).toArray 0) := Heap.get?_push_size _ rfl
 refine wpAny_bind (wpAny_holding (wpAny_call_entry slot_list_sort ⟨_, hB, rfl⟩ entry_list_sort ?body (args_list_sort _)))
 refine list_sortT2 (s := { s with heap := h1.push { cls := .type "list", data := .seq (as.map Value.ref).toArray }, toks := tk }) (xs := ks) hB (by rw [List.length_map]; omega) (by rw [List.length_map]; omega) nd (fun i v x e1 e2 => ?_) fun h3 tk3 c pm hpm hup hkeep hD => ⟨_, rfl, wpAny_pure ⟨_, rfl, ?_⟩⟩
 ·have hi : i < ks.length := (List.getElem?_eq_some_iff.mp e2).1
  obtain ⟨a, t, y, f1, _, f3⟩ := pr i hi
  rw [List.getElem?_map, f1] at e1
  cases e1
  have ex : ks.getD i "" = x := by rw [List.getD_eq_getElem?_getD, e2]; rfl
  rw [ex] at f3
  exact ⟨a, t, y, rfl, Heap.get?_push_of_some _ f3⟩
 ·have hold : ∀ b u, s.heap.get? b = some u → h3.get? b = some u := fun b u e => hkeep b u (Nat.ne_of_lt (Heap.lt_size (hk b u e))) (Heap.get?_push_of_some _ (hk b u e))
  have hDn : s.heap.get? h1.objs.size = none := by
   cases z : s.heap.get? h1.objs.size with
   | none => rfl
   | some u => exact absurd (Heap.lt_size (hk _ u z)) (Nat.lt_irrefl _)
  have tup3 : ∀ (i : Nat), i < ks.length → ∃ a t y, as[i]? = some a ∧ RelV (g (ks.getD i "")) y ∧ s.heap.get? a = none ∧ a ≠ h1.objs.size ∧ h3.get? a = some { cls := .type "tuple", data := .seq #[.str (ks.getD i "") t, y] } := fun i hi => by
   obtain ⟨a, t, y, f1, f2, f3⟩ := pr i hi
   have ne : a ≠ h1.objs.size := Nat.ne_of_lt (Heap.lt_size f3)
   exact ⟨a, t, y, f1, f2, Heap.get?_none_of_le (Nat.le_of_lt (hG.above a (List.mem_of_getElem? f1))), ne, hkeep a _ ne (Heap.get?_push_of_some _ f3)⟩
  have asnd : as.Nodup := hG.rise.imp fun {a b} z e => by subst e; exact Nat.lt_irrefl _ z
  let N : Addr → Option HO := fun b => if b = h1.objs.size then some (.lst (pm.toList.map fun i => V.ref (as.getD i 0))) else (as.idxOf? b).map fun i => .tup [.str (ks.getD i ""), g (ks.getD i "")]
  have hND : N h1.objs.size = some (.lst (pm.toList.map fun i => V.ref (as.getD i 0))) := if_pos rfl
  have hNt : ∀ (i : Nat), i < ks.length → ∃ a, as[i]? = some a ∧ N a = some (.tup [.str (ks.getD i ""), g (ks.getD i "")]) := fun i hi => by
   obtain ⟨a, t, y, f1, f2, f3, f4, f5⟩ := tup3 i hi
   refine ⟨a, f1, ?_⟩
   show (if a = h1.objs.size then _ else _) = _
   rw [if_neg f4]
   have hi2 : i < as.length := (List.getElem?_eq_some_iff.mp f1).1
   have e : as.idxOf? a = some i := by
    rw [List.idxOf?_eq_some_iff]
    refine ⟨hi2, by rw [List.getElem?_eq_getElem hi2] at f1; simpa using Option.some.inj f1, fun j hj => ?_⟩
    intro z
    have e1 : as[j]'(by omega) = as[i] := by rw [List.getElem?_eq_getElem hi2] at f1; rw [Option.some.inj f1]; simpa using z
    exact absurd ((List.getElem_inj asnd).mp e1) (by omega)
   rw [e]
   rfl
  have hNall : ∀ a o, N a = some o → s.heap.get? a = none ∧ ∀ H2, ObjOk X.prog X.w H2 h3 a o := fun a o e => by
   by_cases ha : a = h1.objs.size
   ·subst ha
    rw [hND] at e
    cases e
    refine ⟨hDn, fun H2 => ⟨?_, pm.toList.map (fun i => Value.ref (as.getD i 0)), c, ?_, ?_⟩⟩
    ·rw [List.length_map, Array.length_toList, hpm.size, sizeLine_eq]
     omega
    ·have gen : ∀ l : List Nat, Vals (l.map fun i => V.ref (as.getD i 0)) (l.map fun i => Value.ref (as.getD i 0)) := by
      intro l
      induction l with
      | nil => exact .nil
      | cons i l ih => exact .cons rfl ih
     exact gen _
    ·rw [hD]
     have el : (List.map (fun i => (List.map Value.ref as).getD i Value.none) pm.toList) = pm.toList.map fun i => Value.ref (as.getD i 0) := by
      refine List.map_congr_left fun i hi => ?_
      have hi' : i < as.length := by
       have : i ∈ pm := by simpa using hi
       have := hpm.perm.mem_iff.mp this
       have : i < ks.length := by simpa using this
       omega
      rw [List.getD_eq_getElem?_getD, List.getElem?_map, List.getElem?_eq_getElem hi', List.getD_eq_getElem?_getD, List.getElem?_eq_getElem hi']
      rfl
     rw [el]
   ·have e' : (as.idxOf? a).map (fun i => HO.tup [.str (ks.getD i ""), g (ks.getD i "")]) = some o := by
     have : (if a = h1.objs.size then some (HO.lst (pm.toList.map fun i => V.ref (as.getD i 0))) else (as.idxOf? a).map fun i => HO.tup [.str (ks.getD i ""), g (ks.getD i "")]) = some o := e
     rw [if_neg ha] at this
     exact this
    cases hx : as.idxOf? a with
    | none => rw [hx] at e'; cases e'
    | some i =>
     rw [hx] at e'
     cases e'
     obtain ⟨hi, hai, _⟩ := List.idxOf?_eq_some_iff.mp hx
     have hi' : i < ks.length := by omega
     obtain ⟨a', t, y, f1, f2, f3, f4, f5⟩ := tup3 i hi'
     rw [List.getElem?_eq_getElem hi] at f1
     have ea : a = a' := by rw [← Option.some.inj f1]; simpa using hai.symm
     subst ea
     refine ⟨f3, fun H2 => ⟨by show 2 ≤ sizeLine; rw [sizeLine_eq]; decide, [.str (ks.getD i "") t, y], .cons ⟨t, rfl⟩ (.cons f2 .nil), ⟨⟨_, f5, rfl, _, rfl⟩, fun o e => by rw [f5] at e; cases e; rfl⟩⟩⟩
  refine ⟨.ref h1.objs.size, _, I.laidN (N := N) (tk := tk3) hold hNall, rfl, ?_⟩
  have hsame : Same H fun b => (N b).or (H b) := fun b u e => by
   obtain ⟨v, hv⟩ := (I.hok b u e).there'
   have : N b = none := by
    cases z : N b with
    | none => rfl
    | some o => rw [(hNall b o z).1] at hv; cases hv
   show (N b).or (H b) = some u
   rw [this, Option.none_or]
   exact e
  refine q _ _ (pm.toList.map fun i => V.ref (as.getD i 0)) (pm.toList.map fun i => ks.getD i "") hsame (perm_getD ks pm hpm) ?_ (by rw [hND]; rfl) (by rw [List.length_map, List.length_map]) fun i x e => ?_
  ·rw [List.map_map, List.pairwise_map, List.pairwise_iff_getElem]
   intro i j hi hj hij
   have hz2 : pm.toList.length = ks.length := by rw [Array.length_toList, hpm.size]
   have hu := hup i j hij (by omega)
   unfold ltX at hu
   rw [decide_eq_true_eq] at hu
   have g1 : pm.getD i 0 = pm.toList[i] := by rw [Array.getD_eq_getD_getElem?, Array.getElem?_eq_getElem (by simpa using hi)]; simp
   have g2 : pm.getD j 0 = pm.toList[j] := by rw [Array.getD_eq_getD_getElem?, Array.getElem?_eq_getElem (by simpa using hj)]; simp
   rw [g1, g2] at hu
   exact hu
  ·rw [List.getElem?_map] at e
   cases ep : pm.toList[i]? with
   | none => rw [ep] at e; cases e
   | some k =>
    rw [ep] at e
    have ex : ks.getD k "" = x := Option.some.inj e
    have hkm : k ∈ pm := by simpa using List.mem_of_getElem? ep
    have hkl : k < ks.length := by simpa using hpm.perm.mem_iff.mp hkm
    obtain ⟨a, f1, f2⟩ := hNt k hkl
    refine ⟨a, ?_, ?_⟩
    ·rw [List.getElem?_map, ep, Option.map_some, List.getD_eq_getElem?_getD, f1]
     rfl
    ·show (N a).or (H a) = _
     rw [f2, Option.some_or, ex]
theorem one_new {X : Cx} {pins : List (Addr × Obj)} {σ : St} {H : Hp} {s : Shared} {h3 : Heap} {tk : Nat} {D : Addr} {vs : List V} (I : Inv X pins σ H s) (k : ∀ b u, s.heap.get? b = some u → h3.get? b = some u) (hD : s.heap.get? D = none) (hz : vs.length ≤ sizeLine)
  (ho : ∃ (its : List Value) (n : Nat), Vals vs its ∧ h3.get? D = some { cls := .type "list", data := .seq its.toArray n }) : H D = none ∧ Inv X pins σ (upd H D (.lst vs)) { s with heap := h3, toks := tk } := by
 have hn : H D = none := by
  cases e : H D with
  | none => rfl
  | some u =>
   obtain ⟨v, hv⟩ := (I.hok D u e).there'
   rw [hD] at hv
   cases hv
 refine ⟨hn, ?_⟩
 have := I.laidN (N := fun b => if b = D then some (.lst vs) else none) (tk := tk) k fun a o e => by
  by_cases c : a = D
  ·subst c
   rw [if_pos rfl] at e
   cases e
   exact ⟨hD, fun H2 => ⟨hz, ho⟩⟩
  ·rw [if_neg c] at e
   cases e
 have e : (fun b => (if b = D then some (HO.lst vs) else none).or (H b)) = upd H D (.lst vs) := by
  funext b
  by_cases c : b = D
  ·subst c
   rw [if_pos rfl, Option.some_or, upd_same]
  ·rw [if_neg c, Option.none_or, upd_ne c]
 rw [e] at this
 exact this
theorem perm_getD' {α : Type} {d : α} (ks : List α) (p : Array Nat) (hp : Srt.Pm ks.length p) : (p.toList.map fun i => ks.getD i d).Perm ks := by
 have h1 := (Array.perm_iff_toList_perm.mp hp.perm).map fun i => ks.getD i d
 have h2 : ((List.range ks.length).toArray.toList.map fun i => ks.getD i d) = ks := by
  apply List.ext_getElem?
  intro i
  simp only [List.getElem?_map]
  by_cases hi : i < ks.length
  ·rw [List.getElem?_range hi, List.getElem?_eq_getElem hi, Option.map_some, List.getD_eq_getElem?_getD, List.getElem?_eq_getElem hi]
   rfl
  ·rw [List.getElem?_eq_none (by simp; omega), List.getElem?_eq_none (by omega)]
   rfl
 rw [h2] at h1
 exact h1
theorem pm_at {n : Nat} {p : Array Nat} (hp : Srt.Pm n p) {i : Nat} (hi : i < p.toList.length) : p.getD i 0 = p.toList[i] := by
 rw [Array.getD_eq_getD_getElem?, Array.getElem?_eq_getElem (by simpa using hi)]
 simp
theorem srt_le {xs : List Str} {p : Array Nat} (hp : Srt.Pm xs.length p) (h : ∀ i j, i < j → j < xs.length → Tim.ltS xs (p.getD j 0) (p.getD i 0) = false) : ((p.toList.map fun i => xs.getD i "").map fun x => x.cps.toList).Pairwise (· ≤ ·) := by
 rw [List.map_map, List.pairwise_map, List.pairwise_iff_getElem]
 intro i j hi hj hij
 have hz : p.toList.length = xs.length := by rw [Array.length_toList, hp.size]
 have hu := h i j hij (by omega)
 unfold Tim.ltS at hu
 rw [decide_eq_false_iff_not, pm_at hp hi, pm_at hp hj] at hu
 exact List.not_lt.mp hu
theorem call_sortedSL {X : Cx} : CallR X (.builtin "sorted") (fun xs H Q => ∃ (a : Addr) (ss : List Str), xs = [.ref a] ∧ SqL X.K H a (ss.map V.str) ∧ ss.length ≤ 1000 ∧
  ∀ (p : Addr) (ss' : List Str), H p = none → ss'.Perm ss → (ss'.map fun x => x.cps.toList).Pairwise (· ≤ ·) → Q (.ref p) (upd H p (.lst (ss'.map V.str)))) := by
 intro pins s σ H xs us Q I r h
 obtain ⟨a, ss, rfl, hq, h1k, q⟩ := h
 obtain ⟨u, rfl, ru⟩ := vals1 r
 cases ru
 obtain ⟨its, rv, pl, hz⟩ := I.list hq
 have hl := rv.length
 rw [List.length_map] at hl
 have hS := strsAre_of rv
 refine Tim.sorted_all (lt := Tim.ltS ss) (κ := oneType') (Pc := fun h1 vs => its = vs) (fun R hR => ?_) (fun h1 vs hk hP => ?_) fun h1 vs h3 tk c p hP hk k1 hk1 hp hs hD hN => ?_
 ·exact collect_list pl.isList (hR _ s.toks its (fun b o e => (Heap.get?_update_other _ _ (Nat.ne_of_gt (Heap.lt_size e))).trans (Heap.get?_push_of_some _ e)) rfl) (sl_big (by omega))
 ·subst hP
  exact ⟨sl_big (by omega), Tim.sa_strs hS⟩
 ·subst hP
  have hp' : Srt.Pm ss.length p := by rw [hl]; exact hp
  have vv : ∀ l : List Nat, (∀ i ∈ l, i < ss.length) → Vals ((l.map fun i => ss.getD i "").map V.str) (l.map fun i => its.getD i Value.none) := by
   intro l
   induction l with
   | nil => intro _; exact .nil
   | cons i l ih =>
    intro hh
    have hi : i < its.length := by have := hh i (List.mem_cons_self ..); omega
    obtain ⟨t, e, _⟩ := Tim.strs_at hS i _ (List.getElem?_eq_getElem hi)
    refine .cons ?_ (ih fun j hj => hh j (List.mem_cons_of_mem _ hj))
    show RelV (V.str (ss.getD i "")) (its.getD i Value.none)
    rw [List.getD_eq_getElem?_getD (l := its), List.getElem?_eq_getElem hi]
    exact ⟨t, e⟩
  have hmem : ∀ i ∈ p.toList, i < ss.length := fun i hi => by
   have : i ∈ p := by simpa using hi
   have := hp'.perm.mem_iff.mp this
   simpa using this
  obtain ⟨hn, I2⟩ := one_new (tk := tk) (vs := (p.toList.map fun i => ss.getD i "").map V.str) I hk hN (by rw [List.length_map, List.length_map, Array.length_toList, hp'.size]; exact sl_big h1k) ⟨_, c, vv p.toList hmem, hD⟩
  exact ⟨.ref h1.objs.size, _, I2, rfl, q _ _ hn (perm_getD' ss p hp') (srt_le hp' (by rw [hl]; exact hs))⟩
end L2
namespace L2
open PySem PySem.Spec PyProof.Rows
section
variable {prog : Program} {w : World} {A : Around} {E : Value → Shared → Prop} {s : Shared}
end
end L2
namespace Sh
open PySem L2 PyProof.Rows
end Sh
namespace Sh
open PySem L2 PyProof.Rows
seal L2.PE L2.PS L2.PSs L2.PT L2.PW L2.PA L2.PI L2.PG L2.PGs L2.PO L2.PC L2.PCs L2.OpR L2.UnR L2.CallR L2.MtR L2.IxR L2.SlR
theorem valV_ks (g : Str → V) (y : Str) : ∀ ks : List Str, valV (ks.map fun x => ((Sum.inr x : Key), g x)) (Sum.inr y) = if y ∈ ks then some (g y) else none
 | [] => rfl
 | x :: ks => by
  have ih := valV_ks g y ks
  by_cases e : x = y
  ·subst e
   rw [List.map_cons, valV_pos rfl, if_pos List.mem_cons_self]
  ·rw [List.map_cons, valV_neg (fun q => e (Sum.inr.inj q)), ih]
   have : (y ∈ x :: ks) ↔ y ∈ ks := by
    rw [List.mem_cons]
    exact ⟨fun h => h.elim (fun q => absurd q.symm e) id, .inr⟩
   simp only [this]
theorem put_ks_old (g : Str → V) (y : Str) (v : V) (ks : List Str) (h : y ∈ ks) : putK (ks.map fun x => ((Sum.inr x : Key), g x)) (Sum.inr y) v = ks.map fun x => ((Sum.inr x : Key), if x = y then v else g x) := by
 unfold putK
 rw [valV_any, valV_ks, if_pos h]
 simp only [Option.isSome_some, if_true, List.map_map]
 apply List.map_congr_left
 intro x _
 by_cases e : x = y
 ·subst e
  simp
 ·have : ¬ (Sum.inr x : Key) = Sum.inr y := fun q => e (Sum.inr.inj q)
  simp [this, e]
end Sh
namespace Sh
open PySem L2 PyProof.Rows
end Sh
namespace Sh
open PySem L2 PyProof.Rows
seal L2.PE L2.PS L2.PSs L2.PT L2.PW L2.PA L2.PI L2.PG L2.PGs L2.PO L2.PC L2.PCs L2.OpR L2.UnR L2.CallR L2.MtR L2.IxR L2.SlR
theorem sorted_one : ∀ {l m : List (List Nat)}, l.Pairwise (· < ·) → m.Pairwise (· < ·) → (∀ x, x ∈ l ↔ x ∈ m) → l = m
 | [], [], _, _, _ => rfl
 | [], y :: m, _, _, h => absurd ((h y).mpr List.mem_cons_self) (by simp)
 | x :: l, [], _, _, h => absurd ((h x).mp List.mem_cons_self) (by simp)
 | x :: l, y :: m, hl, hm, h => by
  have h1 := List.pairwise_cons.mp hl
  have h2 := List.pairwise_cons.mp hm
  have e : x = y := by
   rcases List.mem_cons.mp ((h x).mp List.mem_cons_self) with z | z
   ·exact z
   ·rcases List.mem_cons.mp ((h y).mpr List.mem_cons_self) with z2 | z2
    ·exact z2.symm
    ·exact absurd (List.lt_trans (h1.1 y z2) (h2.1 x z)) (List.lt_irrefl _)
  subst e
  have ih := sorted_one h1.2 h2.2 fun z => by
   constructor
   ·intro hz
    rcases List.mem_cons.mp ((h z).mp (List.mem_cons_of_mem _ hz)) with q | q
    ·subst q
     exact absurd (h1.1 z hz) (List.lt_irrefl _)
    ·exact q
   ·intro hz
    rcases List.mem_cons.mp ((h z).mpr (List.mem_cons_of_mem _ hz)) with q | q
    ·subst q
     exact absurd (h2.1 z hz) (List.lt_irrefl _)
    ·exact q
  rw [ih]
end Sh
namespace L2
open PySem PySem.Spec PyProof.Rows
def CDivB (_ j : Int) : Prop := j ≠ 0 ∧ j.natAbs < 2 ^ 4000
theorem op_fdivB {X : Cx} : OpR X (binaryOp .FloorDiv) (rI CDivB fun i j => .int (i.fdiv j)) := opI fun _ j _ _ _ _ _ hc q => floordiv_int hc.1 q (.inl (PyProof.noPylong_of_log2 (by
 have h0 : j.natAbs ≠ 0 := fun z => hc.1 (by omega)
 have := (Nat.log2_lt h0).mpr hc.2
 omega)))
end L2
namespace PySem
namespace F
theorem lri_no_len : typeLookup (.type "list_reverseiterator") "__len__" = pure none := by rw [typeLookup_type, builtinLookup_eq_fast]; kernel_rfl
theorem slot_lri_hint : Slot "list_reverseiterator" "__length_hint__" "list_reverseiterator.__length_hint__" :=
 .of (owner := "list_reverseiterator") (n := "__length_hint__") (by rw [typeLookup_type, builtinLookup_eq_fast]; kernel_rfl) (by decide +kernel) (by decide +kernel) (by decide +kernel)
  (by first | exact .inl (by decide +kernel) | exact .inr (by decide +kernel)) (by rw [isSubtype_type]; kernel_rfl)
theorem sub_lri_lri : isSubtype (.type "list_reverseiterator") (.type "list_reverseiterator") = pure true := by rw [isSubtype_type]; kernel_rfl
end F
section
variable {prog : Program} {w : World} {A : Around} {E : Value → Shared → Prop} {s : Shared}
theorem lri_hint {it l : Addr} {items : Array Value} {Q : Bool → Shared → Prop} (hit : s.heap.IsRevIter it l ((items.size : Int) - 1)) (hl : s.heap.IsList l items) (hx : items.size ≤ sizeLine)
  (h : ∀ b tk, Q b { s with toks := tk }) : wpAny (model prog w) A (Builtin.List.listLengthHint (.ref it)) Q E s := by
 have hs : sizeLine = 16777216 := sizeLine_eq
 unfold Builtin.List.listLengthHint
 refine wpAny_bind (wpAny_specialOf hit.typeIs F.lri_no_len ?_)
 show wpAny _ _ (specialOf (Value.ref it) (Str.ofString "__length_hint__") >>= _) _ _ _
 refine wpAny_bind (wpAny_specialOf hit.typeIs F.slot_lri_hint.lookup ?_)
 have hsp : splitId "list_reverseiterator.__length_hint__" = some ("list_reverseiterator", "__length_hint__") := by decide +kernel
 try dsimp only
 rw [hsp]
 try dsimp only
 refine wpAny_bind (wpAny_isInstance hit.typeIs F.sub_lri_lri ?_)
 rw [if_neg (by decide)]
 rw [if_pos (by decide +kernel)]
 rw [if_neg (show ¬ ((Value.builtin "list_reverseiterator.__length_hint__" == Value.builtin "range_iterator.__length_hint__") = true) by decide +kernel)]
 exact wpAny_pure (h _ s.toks)
section
variable {R : Result → Shared → Prop}
theorem extend_lri (hh : A.handled = none) {I l : Addr} {items : Array Value} (hx : items.size ≤ sizeLine) (S : Addr) (c₀ : Nat) (hit : s.heap.IsRevIter I l ((items.size : Int) - 1)) (hl : s.heap.IsList l items) (hlI : l ≠ I) (hSI : S ≠ I) (hSl : S ≠ l)
  (hS : s.heap.get? S = some { cls := .type "list", data := .seq #[] c₀ })
  (hR : ∀ h' tk acc' c', (∀ b o, b ≠ S → b ≠ I → s.heap.get? b = some o → h'.get? b = some o) → h'.get? S = some { cls := .type "list", dict := none, data := .seq acc' c', slots := #[] } →
   ItemsOf (fun i v => items[items.size - 1 - i]? = some v) acc' items.size → R (.ok (.ret .none)) { s with heap := h', toks := tk }) :
  wpAny (model prog w) A.in1 (Builtin.List.listExtendWith (.ref S) (.ref I) .none)
   (fun fin s' => match fin with | .done f => R (.ok f) s' | .again c' => c'.quiet = true ∧ codeAny (model prog w) A c' R s') (fun e s' => R (.error e) s') s := by
 have hSf : S ∉ [I, l] := fun hm => by
  rcases List.mem_cons.mp hm with e | hm
  ·exact hSI e
  ·exact hSl (List.mem_singleton.mp hm)
 unfold Builtin.List.listExtendWith
 refine wpAny_bind (wpAny_typeOf hit.typeIs ?_)
 have h1 : Builtin.List.listSameRef (.ref S) (.ref I) = false := by simp [Builtin.List.listSameRef, hSI]
 have h2 : (Value.type "list_reverseiterator" == Value.type "list") = false := by decide
 have h3 : (Value.type "list_reverseiterator" == Value.type "tuple") = false := by decide
 simp only [h1, h2, h3, Bool.or_false, Bool.false_eq_true, if_false]
 refine wpAny_bind (wpAny_pyIter_revIter hit ?_)
 refine wpAny_bind (wpAny_holding (lri_hint hit hl hx fun b tk => ?_))
 have W := (Walks.listRev (prog := prog) (w := w) (A := A.in1) hh I l hlI items).toS
 have st0 : ∀ h' : Heap, (∀ b o, b ≠ S → s.heap.get? b = some o → h'.get? b = some o) → (0 ≤ items.size ∧ h'.IsRevIter I l ((items.size : Int) - 1 - ((0 : Nat) : Int)) ∧ h'.IsList l items) := fun h' hk => ⟨Nat.zero_le _, by
  have := hit.at (h' := h') fun o e => hk I o (Ne.symm hSI) e
  have e : (items.size : Int) - 1 - ((0 : Nat) : Int) = (items.size : Int) - 1 := by omega
  rw [e]
  exact this, hl.at fun o e => hk l o (Ne.symm hSl) e⟩
 have fin : ∀ (h₁ : Heap) (c₁ : Nat), (∀ b o, b ≠ S → s.heap.get? b = some o → h₁.get? b = some o) → h₁.get? S = some { cls := .type "list", data := .seq #[] c₁ } →
   codeAny (model prog w) A (.builtin "list.extend.loop" ⟨[.ref S, .ref I, .none], []⟩) R { s with heap := h₁, toks := tk } := fun h₁ c₁ hk hS₁ => by
  refine codeAny_extend_loopS W hx _ hSf _ items.size 0 _ _ _ rfl (Nat.zero_le _) (st0 h₁ hk) hS₁ (ItemsOf.nil _) fun s' acc' c' hm hS' hacc => ?_
  rw [Moved.eq_with hm]
  refine hR s'.heap s'.toks acc' c' (fun b ob hb hbI e => hm.heap b ob (fun hmem => ?_) (hk b ob hb e)) hS' hacc
  rcases List.mem_cons.mp hmem with e' | hmem
  ·exact hb e'
  ·exact hbI (List.mem_singleton.mp hmem)
 split
 ·refine wpAny_bind (wpAny_rule ?_)
  refine wpAny_bind ?_
  show wpAny _ A.in1 (updateSeq S (·.push .none) >>= fun _ => updateSeq S (·.pop)) _ _ _
  refine wpAny_bind (wpAny_updateSeq hS rfl ?_)
  have hS₂ := Heap.get?_update_self (Obj.mapSeq (·.push Value.none)) hS rfl
  refine wpAny_updateSeq (hz := by seq_fits) hS₂ rfl ?_
  have hS₃ := Heap.get?_update_self (Obj.mapSeq (·.pop)) hS₂ rfl
  exact wpAny_pure ⟨plainId_quiet F.plain_extend_loop _, fin _ _ (fun b o hb e => (Heap.get?_update_other _ _ (Ne.symm hb)).trans ((Heap.get?_update_other _ _ (Ne.symm hb)).trans e)) hS₃⟩
 ·exact wpAny_pure ⟨plainId_quiet F.plain_extend_loop _, fin _ _ (fun b o hb e => e) hS⟩
theorem list_init_lri (hh : A.handled = none) {I l : Addr} {items : Array Value} (hx : items.size ≤ sizeLine) (S : Addr) (hit : s.heap.IsRevIter I l ((items.size : Int) - 1)) (hl : s.heap.IsList l items) (hlI : l ≠ I) (hSI : S ≠ I) (hSl : S ≠ l)
  (hS : s.heap.get? S = some { cls := .type "list", data := .seq #[] })
  (hR : ∀ h' tk acc' c', (∀ b o, b ≠ S → b ≠ I → s.heap.get? b = some o → h'.get? b = some o) → h'.get? S = some { cls := .type "list", dict := none, data := .seq acc' c', slots := #[] } →
   ItemsOf (fun i v => items[items.size - 1 - i]? = some v) acc' items.size → R (.ok (.ret .none)) { s with heap := h', toks := tk }) :
  wpAny (model prog w) A.in1 (Builtin.«list.__init__» ⟨[.ref S, .ref I], []⟩)
   (fun fin s' => match fin with | .done f => R (.ok f) s' | .again c' => c'.quiet = true ∧ codeAny (model prog w) A c' R s') (fun e s' => R (.error e) s') s := by
 show wpAny _ A.in1 (do let old ← Builtin.List.listItems (.ref S); Builtin.List.listUpdate (.ref S) (fun _ => #[]); letGo old.toList.reverse; Builtin.List.listExtendWith (.ref S) (.ref I) .none) _ _ s
 refine wpAny_bind ?_
 unfold Builtin.List.listItems
 refine wpAny_bind (wpAny_seqItems hS rfl (wpAny_pure ?_))
 show wpAny _ A.in1 (updateSeq S (fun _ => #[]) >>= fun _ => letGo (#[] : Array Value).toList.reverse >>= fun _ => Builtin.List.listExtendWith (.ref S) (.ref I) .none) _ _ s
 refine wpAny_bind (wpAny_updateSeq hS rfl ?_)
 have hS₂ := Heap.get?_update_self (Obj.mapSeq (fun _ => (#[] : Array Value))) hS rfl
 have oth : ∀ b o, b ≠ S → s.heap.get? b = some o → (s.heap.update S (Obj.mapSeq (fun _ => (#[] : Array Value)))).get? b = some o :=
  fun b o hb e => (Heap.get?_update_other _ _ (Ne.symm hb)).trans e
 refine wpAny_bind (wpAny_letGo ?_)
 refine extend_lri hh hx S _ (hit.at fun o e => oth I o (Ne.symm hSI) e) (hl.at fun o e => oth l o (Ne.symm hSl) e) hlI hSI hSl hS₂ fun h' tk acc' c' hk hS' hacc => ?_
 exact hR h' tk acc' c' (fun b o hb hbI e => hk b o hb hbI (oth b o hb e)) hS' hacc
end
theorem call_list_lri (hh : A.handled = none) {I l : Addr} {items : Array Value} {Q : Value → Shared → Prop} (hx : items.size ≤ sizeLine) (hit : s.heap.IsRevIter I l ((items.size : Int) - 1)) (hl : s.heap.IsList l items) (hlI : l ≠ I)
  (hQ : ∀ h' tk acc' c', (∀ b o, b ≠ I → s.heap.get? b = some o → h'.get? b = some o) → h'.get? s.heap.objs.size = some { cls := .type "list", dict := none, data := .seq acc' c', slots := #[] } →
   ItemsOf (fun i v => items[items.size - 1 - i]? = some v) acc' items.size → Q (.ref s.heap.objs.size) { s with heap := h', toks := tk }) :
  wpAny (model prog w) A (call (.type "list") [.ref I]) Q E s := by
 have hSI : s.heap.objs.size ≠ I := fun e => by
  obtain ⟨o, ho, _⟩ := hit
  exact Nat.lt_irrefl _ (e ▸ Heap.lt_size ho)
 have hSl : s.heap.objs.size ≠ l := fun e => by
  obtain ⟨o, ho, _⟩ := hl
  exact Nat.lt_irrefl _ (e ▸ Heap.lt_size ho)
 refine callType_codes (Q₁ := fun obj s₁ => obj = .ref s.heap.objs.size ∧ s₁ = { s with heap := s.heap.push { cls := .type "list", data := .seq #[] } }) F.called_list (F.typeCall_list_1 _) F.entry_list_init
  (code_list_new _ ⟨rfl, rfl⟩) fun obj s₁ h₁ => ?_
 obtain ⟨rfl, rfl⟩ := h₁
 have hS : (s.heap.push { cls := .type "list", data := .seq #[] }).get? s.heap.objs.size = some { cls := .type "list", data := .seq #[] } := Heap.get?_push_size _ rfl
 refine ⟨⟨_, hS, rfl⟩, F.args_list_init_2 _ _, list_init_lri (A := A.in1) hh hx _ (hit.at fun o e => Heap.get?_push_of_some _ e) (hl.at fun o e => Heap.get?_push_of_some _ e) hlI hSI hSl hS fun h' tk acc' c' hk hS' hacc => ?_⟩
 exact ⟨rfl, hQ h' tk acc' c' (fun b o hbI e => hk b o (Nat.ne_of_lt (Heap.lt_size e)) hbI (Heap.get?_push_of_some _ e)) hS' hacc⟩
end
end PySem
namespace L2
open PySem PySem.Spec PyProof.Rows
def tLRL (K : PySem.W.Frag) (te : TE) : TE := fun σ H Q => te σ H fun x H1 => ∃ a xs, x = .ref a ∧ SqL K H1 a xs ∧ ∀ p, H1 p = none → Q (.ref p) (upd H1 p (.lst xs.reverse))
theorem pe_listRevL {X : Cx} {e : Expr} {te : TE} {p1 p2 pos1 pos2 : Pos} (hc : X.calm = true) (hgl : Gl X "list") (hml : X.mg "list" = none) (hgr : Gl X "reversed") (hmr : X.mg "reversed" = none) (he : PE X e te)
  (hs1 : starEach [.Call (.Name "reversed" p2) [e] [] pos2] X.env = [(false, eval (.Call (.Name "reversed" p2) [e] [] pos2) X.env)] := by rfl) (hs2 : starEach [e] X.env = [(false, eval e X.env)] := by rfl) :
  PE X (.Call (.Name "list" p1) [.Call (.Name "reversed" p2) [e] [] pos2] [] pos1) (tLRL X.K te) := by
 intro pins s σ H Q I h
 refine wpAny_Call_Name_kw (ld_blt I hgl hml b_list ?_ (by decide) (by decide))
 refine PyProof.Rows.callWith_type1 ?_ hs1 rfl
 rw [hs1]
 refine Calls.spliced_cons ?_
 refine wpAny_Call_Name_kw (ld_blt I hgr hmr b_reversed ?_ (by decide) (by decide))
 refine PyProof.Rows.callWith_type1 ?_ hs2 rfl
 rw [hs2]
 refine Calls.spliced_cons (thn (he pins s σ H _ I h) fun u s1 ⟨x, H1, I1, r1, q1⟩ => Calls.spliced_nil ?_)
 obtain ⟨a, xs, rfl, hx, q⟩ := q1
 cases r1
 obtain ⟨its, rv, pl, hz⟩ := I1.list hx
 have hl := rv.length
 have hlt : a < s1.heap.objs.size := by
  obtain ⟨o, n, e, _⟩ := pl
  exact Heap.lt_size e
 refine call_reversed_list pl.isList ?_
 refine Calls.spliced_nil ?_
 refine call_list_lri (items := its.toArray) (l := a) (I := s1.heap.objs.size) (I.ok.hd hc) (by rw [List.size_toArray]; omega) ⟨_, Heap.get?_push_size _ rfl, rfl, rfl⟩ (pl.isList.push _) (Nat.ne_of_lt hlt) fun h' tk acc c hk hS hacc => ?_
 have hsz : (s1.heap.push (revObj a ((its.toArray.size : Int) - 1))).objs.size = s1.heap.objs.size + 1 := Heap.size_push ..
 dsimp only at hS hk ⊢
 rw [hsz] at hS ⊢
 have hf : H1 (s1.heap.objs.size + 1) = none := I1.hok.fresh (Nat.le_succ _)
 refine ⟨.ref (s1.heap.objs.size + 1), _, I1.laid (h' := h') (t' := tk) (a := s1.heap.objs.size + 1) (o := .lst xs.reverse) (fun b u e => hk b u (Nat.ne_of_lt (Heap.lt_size e)) (Heap.get?_push_of_some _ e)) (Nat.le_succ _) ?_, rfl, q _ hf⟩
 refine ⟨by rw [List.length_reverse]; exact hz, acc.toList, c, ?_, by rw [hS, Array.toArray_toList]⟩
 have es : its.toArray.size = its.length := List.size_toArray ..
 have hal : acc.toList.length = xs.length := by rw [Array.length_toList]; exact hacc.1.trans (es.trans hl.symm)
 refine vals_of _ _ (by rw [List.length_reverse, hal]) fun i w u e1 e2 => ?_
 have hi : i < xs.length := by
  have := (List.getElem?_eq_some_iff.mp e1).1
  rw [List.length_reverse] at this
  exact this
 have h3 := hacc.2 i u (by rw [← Array.getElem?_toList]; exact e2)
 rw [List.getElem?_reverse hi] at e1
 obtain ⟨u', hu, ru⟩ := rv.get e1
 rw [es, ← hl] at h3
 have h4 : its[xs.length - 1 - i]? = some u := by simpa using h3
 rw [hu] at h4
 cases h4
 exact ru
end L2
namespace Sh
def seg (z : List Nat) (a b : Nat) : List Nat := (z.drop a).take (b - a)
def pt (z : List Nat) (L p : Nat) : List Nat := seg z p (p + L - 1)
def stt (z : List Nat) (L a b : Nat) : List Nat := seg z (a + L - 1) (b + L - 1)
def win (L : Nat) (z : List Nat) : List (List Nat) := (List.range (z.length + 1 - L)).map fun i => (z.drop i).take L
theorem seg_len {z : List Nat} {a b : Nat} (h : a ≤ b) (hb : b ≤ z.length) : (seg z a b).length = b - a := by
 unfold seg
 rw [List.length_take, List.length_drop]
 omega
theorem seg_app {z : List Nat} {a b c : Nat} (h1 : a ≤ b) (h2 : b ≤ c) : seg z a b ++ seg z b c = seg z a c := by
 unfold seg
 have e : z.drop b = (z.drop a).drop (b - a) := by rw [List.drop_drop]; congr 1; omega
 have e2 : c - a = (b - a) + (c - b) := by omega
 rw [e, e2, List.take_add]
theorem seg_all (z : List Nat) : seg z 0 z.length = z := by
 unfold seg
 simp
theorem win_cons {L : Nat} {a : Nat} {y : List Nat} (h1 : 1 ≤ L) (h : L ≤ y.length + 1) : win L (a :: y) = (a :: y).take L :: win L y := by
 unfold win
 have e : (a :: y).length + 1 - L = (y.length + 1 - L) + 1 := by rw [List.length_cons]; omega
 rw [e, List.range_succ_eq_map, List.map_cons, List.map_map]
 rfl
theorem win_short {L : Nat} {z : List Nat} (h : z.length < L) : win L z = [] := by
 unfold win
 have : z.length + 1 - L = 0 := by omega
 rw [this]
 rfl
theorem win_glue {L : Nat} (h1 : 1 ≤ L) {q : List Nat} (hq : q.length = L - 1) (y : List Nat) : ∀ x : List Nat, win L (x ++ q ++ y) = win L (x ++ q) ++ win L (q ++ y)
 | [] => by rw [List.nil_append, win_short (z := q) (by omega), List.nil_append]
 | a :: x => by
  rw [List.cons_append, List.cons_append, win_cons h1 (by simp; omega), win_cons h1 (by simp; omega), win_glue h1 hq y x, List.cons_append]
  congr 1
  rw [← List.cons_append, List.take_append_of_le_length (by simp; omega)]
theorem win_on {L : Nat} (h1 : 1 ≤ L) {u x q : List Nat} (y : List Nat) (hu : u = x ++ q) (hq : q.length = L - 1) : win L (u ++ y) = win L u ++ win L (q ++ y) := by
 subst hu
 exact win_glue h1 hq y x
structure Fit (z : List Nat) (L : Nat) : Prop where
 one : 1 ≤ L
 le : L ≤ z.length
section
variable {z : List Nat} {L : Nat}
theorem pt_len (h : Fit z L) {p : Nat} (hp : p ≤ z.length - L + 1) : (pt z L p).length = L - 1 := by
 have := h.one
 have := h.le
 unfold pt
 rw [seg_len (by omega) (by omega)]
 omega
theorem pt_stt (h : Fit z L) {a b : Nat} (hab : a ≤ b) : pt z L a ++ stt z L a b = seg z a (b + L - 1) := by
 have := h.one
 exact seg_app (by omega) (by omega)
theorem seg_pt (h : Fit z L) {a b : Nat} (hab : a ≤ b) : seg z a b ++ pt z L b = seg z a (b + L - 1) := by
 have := h.one
 exact seg_app hab (by omega)
def swapF (z : List Nat) (L p0 p1 p2 p3 : Nat) : List Nat := pt z L 0 ++ (stt z L 0 p0 ++ (stt z L p2 p3 ++ (stt z L p1 p2 ++ (stt z L p0 p1 ++ stt z L p3 (z.length - L + 1)))))
def turnF (z : List Nat) (L p : Nat) : List Nat := pt z L p ++ stt z L p (z.length - L + 1) ++ stt z L 0 p
theorem win_all (h : Fit z L) {p : Nat} (hp : p ≤ z.length - L + 1) {a : Nat} (ha : a ≤ p) {b : Nat} (hb : p ≤ b) : win L (seg z a (b + L - 1)) = win L (seg z a (p + L - 1)) ++ win L (seg z p (b + L - 1)) := by
 have := h.one
 have e : seg z a (p + L - 1) ++ stt z L p b = seg z a (b + L - 1) := seg_app (by omega) (by omega)
 rw [← e, win_on h.one (stt z L p b) (x := seg z a p) (q := pt z L p) (seg_pt h ha).symm (pt_len h hp), pt_stt h hb]
theorem swap_perm (h : Fit z L) {p0 p1 p2 p3 : Nat} (h01 : p0 ≤ p1) (h12 : p1 ≤ p2) (h23 : p2 ≤ p3) (h3 : p3 ≤ z.length - L + 1) (e02 : pt z L p0 = pt z L p2) (e13 : pt z L p1 = pt z L p3) : (win L (swapF z L p0 p1 p2 p3)).Perm (win L z) := by
 have o := h.one
 have l := h.le
 have hN : z.length - L + 1 + L - 1 = z.length := by omega
 -- the old text
 have w1 : win L z = win L (seg z 0 (p0 + L - 1)) ++ (win L (seg z p0 (p1 + L - 1)) ++ (win L (seg z p1 (p2 + L - 1)) ++ (win L (seg z p2 (p3 + L - 1)) ++ win L (seg z p3 (z.length - L + 1 + L - 1))))) := by
  rw [← win_all h (p := p3) (by omega) h23 (by omega), ← win_all h (p := p2) (by omega) h12 (by omega), ← win_all h (p := p1) (by omega) h01 (by omega), ← win_all h (p := p0) (by omega) (by omega) (by omega), hN, seg_all]
 -- the new one
 have u0 : pt z L 0 ++ stt z L 0 p0 = seg z 0 p0 ++ pt z L p0 := by rw [pt_stt h (by omega), seg_pt h (by omega)]
 have u1 : pt z L p2 ++ stt z L p2 p3 = seg z p2 p3 ++ pt z L p3 := by rw [pt_stt h h23, seg_pt h h23]
 have u2 : pt z L p1 ++ stt z L p1 p2 = seg z p1 p2 ++ pt z L p2 := by rw [pt_stt h h12, seg_pt h h12]
 have u3 : pt z L p0 ++ stt z L p0 p1 = seg z p0 p1 ++ pt z L p1 := by rw [pt_stt h h01, seg_pt h h01]
 have w2 : win L (swapF z L p0 p1 p2 p3) = win L (seg z 0 (p0 + L - 1)) ++ (win L (seg z p2 (p3 + L - 1)) ++ (win L (seg z p1 (p2 + L - 1)) ++ (win L (seg z p0 (p1 + L - 1)) ++ win L (seg z p3 (z.length - L + 1 + L - 1))))) := by
  unfold swapF
  have hp := fun {p : Nat} (q : p ≤ z.length - L + 1) => pt_len h q
  rw [← List.append_assoc, win_on o _ u0 (hp (by omega)), e02, ← List.append_assoc (pt z L p2), win_on o _ u1 (hp (by omega)), ← e13, ← List.append_assoc (pt z L p1), win_on o _ u2 (hp (by omega)), ← e02, ← List.append_assoc (pt z L p0), win_on o _ u3 (hp (by omega)), e13]
  have a0 := pt_stt h (a := 0) (b := p0) (by omega)
  have a1 : pt z L p0 ++ stt z L p2 p3 = seg z p2 (p3 + L - 1) := by rw [e02, pt_stt h h23]
  have a2 : pt z L p3 ++ stt z L p1 p2 = seg z p1 (p2 + L - 1) := by rw [← e13, pt_stt h h12]
  have a3 := pt_stt h h01
  have a4 := pt_stt h h3
  rw [a0, a1, a2, a3, a4]
 rw [w1, w2]
 refine List.Perm.append_left _ ?_
 rw [← List.append_assoc, ← List.append_assoc, ← List.append_assoc, ← List.append_assoc]
 refine List.Perm.append_right _ ?_
 refine (List.perm_append_comm).trans ?_
 rw [List.append_assoc]
 refine List.Perm.append_left _ ?_
 exact List.perm_append_comm
theorem turn_perm (h : Fit z L) {p : Nat} (hp : p ≤ z.length - L + 1) (e : pt z L 0 = pt z L (z.length - L + 1)) : (win L (turnF z L p)).Perm (win L z) := by
 have o := h.one
 have l := h.le
 have hN : z.length - L + 1 + L - 1 = z.length := by omega
 have w1 : win L z = win L (seg z 0 (p + L - 1)) ++ win L (seg z p (z.length - L + 1 + L - 1)) := by
  rw [← win_all h (p := p) hp (by omega) hp, hN, seg_all]
 have w2 : win L (turnF z L p) = win L (seg z p (z.length - L + 1 + L - 1)) ++ win L (seg z 0 (p + L - 1)) := by
  unfold turnF
  rw [win_on o _ (x := seg z p (z.length - L + 1)) (q := pt z L (z.length - L + 1)) (by rw [pt_stt h hp, seg_pt h hp]) (pt_len h (by omega)), ← e, pt_stt h hp, pt_stt h (Nat.zero_le p)]
 rw [w1, w2]
 exact List.perm_append_comm
theorem stt_len (h : Fit z L) {a b : Nat} (hab : a ≤ b) (hb : b ≤ z.length - L + 1) : (stt z L a b).length = b - a := by
 have := h.one
 have := h.le
 unfold stt
 rw [seg_len (by omega) (by omega)]
 omega
theorem swap_len (h : Fit z L) {p0 p1 p2 p3 : Nat} (h01 : p0 ≤ p1) (h12 : p1 ≤ p2) (h23 : p2 ≤ p3) (h3 : p3 ≤ z.length - L + 1) : (swapF z L p0 p1 p2 p3).length = z.length := by
 have := h.one
 have := h.le
 unfold swapF
 simp only [List.length_append]
 rw [pt_len h (by omega), stt_len h (by omega) (by omega), stt_len h h23 h3, stt_len h h12 (by omega), stt_len h h01 (by omega), stt_len h h3 (by omega)]
 omega
theorem turn_len (h : Fit z L) {p : Nat} (hp : p ≤ z.length - L + 1) : (turnF z L p).length = z.length := by
 have := h.one
 have := h.le
 unfold turnF
 simp only [List.length_append]
 rw [pt_len h hp, stt_len h hp (by omega), stt_len h (by omega) hp]
 omega
end
def wnd (z : List Nat) (L i : Nat) : List Nat := (z.drop i).take L
theorem win_len {z : List Nat} {L : Nat} : (win L z).length = z.length + 1 - L := by unfold win; simp
theorem win_get {z : List Nat} {L i : Nat} (h : i < z.length + 1 - L) : (win L z)[i]? = some (wnd z L i) := by
 unfold win wnd
 rw [List.getElem?_map, List.getElem?_range h]
 rfl
theorem wnd_pt {z : List Nat} {L i : Nat} (h : 1 ≤ L) : (wnd z L i).take (L - 1) = pt z L i := by
 unfold wnd pt seg
 rw [List.take_take]
 congr 1
 omega
theorem wnd_pt1 {z : List Nat} {L i : Nat} (h : 1 ≤ L) : (wnd z L i).drop 1 = pt z L (i + 1) := by
 unfold wnd pt seg
 rw [List.drop_take, List.drop_drop]
 congr 1
 omega
theorem wnd_last {z : List Nat} {L i : Nat} (h : 1 ≤ L) : (wnd z L i)[L - 1]? = z[i + L - 1]? := by
 unfold wnd
 rw [List.getElem?_take, if_pos (by omega), List.getElem?_drop]
 congr 1
 omega
structure Both (z g : List Nat) (L : Nat) : Prop where
 fit : Fit z L
 len : g.length = z.length
 perm : (win L z).Perm (win L g)
theorem Both.symm {z g : List Nat} {L : Nat} (h : Both z g L) : Both g z L := ⟨⟨h.fit.one, by rw [h.len]; exact h.fit.le⟩, h.len.symm, h.perm.symm⟩
theorem win_take {z g : List Nat} {L a : Nat} (o : 1 ≤ L) (hl : g.length = z.length) (e : z.take (a + L - 1) = g.take (a + L - 1)) : (win L z).take a = (win L g).take a := by
 apply List.ext_getElem?
 intro i
 rw [List.getElem?_take, List.getElem?_take]
 by_cases c : i < a
 ·rw [if_pos c, if_pos c]
  by_cases c2 : i < z.length + 1 - L
  ·rw [win_get c2, win_get (by omega)]
   have k : ∀ y : List Nat, wnd y L i = ((y.take (a + L - 1)).drop i).take L := fun y => by
    unfold wnd
    rw [List.drop_take, List.take_take]
    congr 1
    omega
   rw [k z, k g, e]
  ·rw [List.getElem?_eq_none (by rw [win_len]; omega), List.getElem?_eq_none (by rw [win_len]; omega)]
 ·rw [if_neg c, if_neg c]
theorem drop_perm {z g : List Nat} {L a : Nat} (h : Both z g L) (e : z.take (a + L - 1) = g.take (a + L - 1)) : ((win L z).drop a).Perm ((win L g).drop a) := by
 have p := h.perm
 rw [← List.take_append_drop a (win L z), ← List.take_append_drop a (win L g), win_take h.fit.one h.len e] at p
 exact (List.perm_append_left_iff _).mp p
theorem find_wnd {z g : List Nat} {L a i : Nat} (h : Both z g L) (e : z.take (a + L - 1) = g.take (a + L - 1)) (ha : a ≤ i) (hi : i < z.length + 1 - L) : ∃ j, a ≤ j ∧ j < z.length + 1 - L ∧ wnd z L j = wnd g L i := by
 have m : wnd g L i ∈ (win L g).drop a := by
  refine List.mem_of_getElem? (i := i - a) ?_
  rw [List.getElem?_drop, show a + (i - a) = i by omega, win_get (by rw [h.len]; exact hi)]
 have m2 := (drop_perm h e).mem_iff.mpr m
 obtain ⟨k, hk⟩ := List.mem_iff_getElem?.mp m2
 rw [List.getElem?_drop] at hk
 have hlt : a + k < z.length + 1 - L := by
  have := (List.getElem?_eq_some_iff.mp hk).1
  rw [win_len] at this
  exact this
 rw [win_get hlt] at hk
 exact ⟨a + k, by omega, hlt, Option.some.inj hk⟩
structure Un (z g : List Nat) (L a : Nat) : Prop where
 both : Both z g L
 lt : a + L - 1 < z.length
 pre : z.take (a + L - 1) = g.take (a + L - 1)
 ne : z[a + L - 1]? ≠ g[a + L - 1]?
theorem Un.pt_eq {z g : List Nat} {L a b : Nat} (h : Un z g L a) (hb : b ≤ a) : pt z L b = pt g L b := by
 have k : ∀ y : List Nat, pt y L b = ((y.take (a + L - 1)).drop b).take (b + L - 1 - b) := fun y => by
  unfold pt seg
  have := h.both.fit.one
  rw [List.drop_take, List.take_take]
  congr 1
  omega
 rw [k z, k g, h.pre]
theorem Un.wnd_ne {z g : List Nat} {L a : Nat} (h : Un z g L a) : wnd z L a ≠ wnd g L a := by
 intro e
 apply h.ne
 rw [← wnd_last h.both.fit.one, ← wnd_last h.both.fit.one, e]
theorem Un.found {z g : List Nat} {L a : Nat} (h : Un z g L a) : ∃ c, a + 1 ≤ c ∧ c < z.length + 1 - L ∧ wnd z L c = wnd g L a := by
 have := h.lt
 obtain ⟨j, h1, h2, h3⟩ := find_wnd h.both h.pre (Nat.le_refl a) (by omega)
 refine ⟨j, ?_, h2, h3⟩
 by_cases c : j = a
 ·subst c
  exact absurd h3 h.wnd_ne
 ·omega
theorem Un.pt_c {z g : List Nat} {L a c : Nat} (h : Un z g L a) (e : wnd z L c = wnd g L a) : pt z L a = pt z L c := by
 rw [h.pt_eq (Nat.le_refl a), ← wnd_pt h.both.fit.one, ← e, wnd_pt h.both.fit.one]
theorem Un.back {z g : List Nat} {L a c : Nat} (h : Un z g L a) (hac : a < c) (hc : c < z.length + 1 - L) (e : wnd z L c = wnd g L a) : ∃ d, c + 1 ≤ d ∧ d ≤ z.length - L + 1 ∧ ∃ b, a ≤ b ∧ b ≤ c ∧ pt z L b = pt z L d := by
 have o := h.both.fit.one
 have l := h.both.fit.le
 false_or_by_contra
 rename_i no
 have no' : ∀ d b, c + 1 ≤ d → d ≤ z.length - L + 1 → a ≤ b → b ≤ c → pt z L b ≠ pt z L d := fun d b h1 h2 h3 h4 q => no ⟨d, h1, h2, b, h3, h4, q⟩
 have hz : ∀ k, a ≤ k → k < z.length + 1 - L → (∀ b, a ≤ b → b ≤ c → pt z L b ≠ pt z L k) → ∀ b, a ≤ b → b ≤ c → pt z L b ≠ pt z L (k + 1) := fun k h1 h2 h3 b h4 h5 => by
  have : c + 1 ≤ k := by
   by_cases q : k ≤ c
   ·exact absurd rfl (h3 k h1 q)
   ·omega
  exact no' (k + 1) b (by omega) (by omega) h4 h5
 have hg : ∀ j, a + 1 + j ≤ z.length - L + 1 → ∀ b, a ≤ b → b ≤ c → pt z L b ≠ pt g L (a + 1 + j) := by
  intro j
  induction j with
  | zero =>
   intro _ b h1 h2
   rw [Nat.add_zero, ← wnd_pt1 o, ← e, wnd_pt1 o]
   exact no' (c + 1) b (Nat.le_refl _) (by omega) h1 h2
  | succ j ih =>
   intro hj b h1 h2
   have ih' := ih (by omega)
   obtain ⟨k, k1, k2, k3⟩ := find_wnd h.both h.pre (i := a + 1 + j) (by omega) (by omega)
   have e1 : pt g L (a + 1 + j) = pt z L k := by rw [← wnd_pt o, ← k3, wnd_pt o]
   have e2 : pt g L (a + 1 + (j + 1)) = pt z L (k + 1) := by
    rw [show a + 1 + (j + 1) = a + 1 + j + 1 by omega, ← wnd_pt1 o, ← k3, wnd_pt1 o]
   rw [e2]
   rw [e1] at ih'
   exact hz k k1 k2 ih' b h1 h2
 -- the tie of the text at a stands in the goal behind a
 have hs := h.both.symm
 obtain ⟨j, j1, j2, j3⟩ := find_wnd hs h.pre.symm (i := a) (Nat.le_refl a) (by rw [h.both.len]; omega)
 rw [h.both.len] at j2
 by_cases q : j = a
 ·subst q
  exact h.wnd_ne j3.symm
 ·have := hg (j - (a + 1)) (by omega) a (Nat.le_refl a) (by omega)
  apply this
  rw [show a + 1 + (j - (a + 1)) = j by omega, ← wnd_pt o, j3.symm, wnd_pt o]
theorem take_stt {z : List Nat} {L a : Nat} (h : Fit z L) : pt z L 0 ++ stt z L 0 a = z.take (a + L - 1) := by
 rw [pt_stt h (Nat.zero_le a)]
 unfold seg
 simp
theorem stt_head {z : List Nat} {L c d : Nat} (h : Fit z L) (hcd : c < d) (hd : d ≤ z.length - L + 1) : ∃ r, stt z L c d = z.getD (c + L - 1) 0 :: r := by
 have o := h.one
 have l := h.le
 unfold stt seg
 have hlt : c + L - 1 < z.length := by omega
 rw [List.drop_eq_getElem_cons hlt, show d + L - 1 - (c + L - 1) = (d - c - 1) + 1 by omega, List.take_succ_cons]
 refine ⟨(z.drop (c + L - 1 + 1)).take (d - c - 1), ?_⟩
 rw [List.getD_eq_getElem?_getD, List.getElem?_eq_getElem hlt]
 rfl
theorem Un.swap_more {z g : List Nat} {L a b c d : Nat} (h : Un z g L a) (hcd : c < d) (hd : d ≤ z.length - L + 1) (e : wnd z L c = wnd g L a) : (swapF z L a b c d).take (a + L) = g.take (a + L) := by
 have o := h.both.fit.one
 have l := h.both.fit.le
 have hlt := h.lt
 unfold swapF
 obtain ⟨r, hr⟩ := stt_head h.both.fit hcd hd
 rw [← List.append_assoc, take_stt h.both.fit, hr]
 have hl : (z.take (a + L - 1)).length = a + L - 1 := by rw [List.length_take]; omega
 obtain ⟨m, hm⟩ : ∃ m, m = a + L - 1 := ⟨_, rfl⟩
 have hpre := h.pre
 have eL : a + L = m + 1 := by omega
 rw [← hm] at hl hpre ⊢
 rw [eL, List.cons_append]
 have key : ∀ (u v : List Nat) (y : Nat), u.length = m → (u ++ y :: v).take (m + 1) = u ++ [y] := fun u v y hu => by
  rw [← hu, List.take_length_add_append, List.take_succ_cons, List.take_zero]
 rw [key _ _ _ hl, List.take_succ, hpre, hm]
 congr 1
 have h1 : z[c + L - 1]? = g[a + L - 1]? := by rw [← wnd_last o, ← wnd_last o, e]
 have hg : a + L - 1 < g.length := by rw [h.both.len]; exact hlt
 rw [List.getD_eq_getElem?_getD, h1, List.getElem?_eq_getElem hg]
 rfl
theorem eq_late {z g : List Nat} {L : Nat} (h : Both z g L) (e : z.take (z.length - 1) = g.take (z.length - 1)) : z = g := by
 have o := h.fit.one
 have l := h.fit.le
 have p := drop_perm (a := z.length - L) h (by rw [show z.length - L + L - 1 = z.length - 1 by omega]; exact e)
 obtain ⟨j, j1, j2, j3⟩ := find_wnd (a := z.length - L) (i := z.length - L) h (by rw [show z.length - L + L - 1 = z.length - 1 by omega]; exact e) (Nat.le_refl _) (by omega)
 have ej : j = z.length - L := by omega
 subst ej
 have h1 : z[z.length - 1]? = g[z.length - 1]? := by
  have : (wnd z L (z.length - L))[L - 1]? = (wnd g L (z.length - L))[L - 1]? := by rw [j3]
  rw [wnd_last o, wnd_last o, show z.length - L + L - 1 = z.length - 1 by omega] at this
  exact this
 have e2 : z.take (z.length - 1 + 1) = g.take (z.length - 1 + 1) := by
  rw [List.take_succ, List.take_succ, e, h1]
 have hg := h.len
 rw [List.take_of_length_le (by omega), List.take_of_length_le (by omega)] at e2
 exact e2
theorem Un.late {z g : List Nat} {L a : Nat} (h : Un z g L a) : a + L < z.length := by
 have o := h.both.fit.one
 have hlt := h.lt
 by_cases c : a + L - 1 = z.length - 1
 ·have := eq_late h.both (by rw [← c]; exact h.pre)
  exact absurd (by rw [this]) h.ne
 ·omega
def outs (x : List Nat) (L : Nat) (ws : List (List Nat)) : Nat := ws.countP fun w => decide (w.take (L - 1) = x)
def inns (x : List Nat) (ws : List (List Nat)) : Nat := ws.countP fun w => decide (w.drop 1 = x)
theorem tele {z : List Nat} {L : Nat} (o : 1 ≤ L) (x : List Nat) : ∀ n, outs x L ((List.range n).map fun i => wnd z L i) + (if pt z L n = x then 1 else 0) = inns x ((List.range n).map fun i => wnd z L i) + (if pt z L 0 = x then 1 else 0)
 | 0 => by simp [outs, inns]
 | n + 1 => by
  have ih := tele (z := z) o x n
  unfold outs inns at ih ⊢
  rw [List.range_succ, List.map_append, List.countP_append, List.countP_append, List.map_cons, List.map_nil, List.countP_singleton, List.countP_singleton, wnd_pt o, wnd_pt1 o]
  simp only [decide_eq_true_eq]
  omega
theorem closed_of {z g : List Nat} {L : Nat} (h : Both z g L) (ne : pt z L 0 ≠ pt g L 0) : pt z L 0 = pt z L (z.length - L + 1) := by
 have o := h.fit.one
 have l := h.fit.le
 have t1 := tele (z := z) o (pt z L 0) (z.length + 1 - L)
 have t2 := tele (z := g) o (pt z L 0) (g.length + 1 - L)
 have e1 : outs (pt z L 0) L (win L z) = outs (pt z L 0) L (win L g) := h.perm.countP_eq _
 have e2 : inns (pt z L 0) (win L z) = inns (pt z L 0) (win L g) := h.perm.countP_eq _
 have w1 : ((List.range (z.length + 1 - L)).map fun i => wnd z L i) = win L z := rfl
 have w2 : ((List.range (g.length + 1 - L)).map fun i => wnd g L i) = win L g := rfl
 rw [w1, if_pos rfl] at t1
 rw [w2, if_neg (c := pt g L 0 = pt z L 0) (fun q => ne q.symm)] at t2
 rw [show z.length - L + 1 = z.length + 1 - L by omega]
 by_cases c : pt z L (z.length + 1 - L) = pt z L 0
 ·exact c.symm
 ·rw [if_neg c] at t1
  omega
theorem begin_found {z g : List Nat} {L : Nat} (h : Both z g L) : ∃ p, p < z.length - L + 1 ∧ pt z L p = pt g L 0 := by
 have o := h.fit.one
 have l := h.fit.le
 have e0 : pt z L 0 = pt z L 0 := rfl
 have m : wnd g L 0 ∈ win L g := List.mem_of_getElem? (win_get (by have := h.len; omega))
 have m2 := h.perm.mem_iff.mpr m
 obtain ⟨k, hk⟩ := List.mem_iff_getElem?.mp m2
 have hlt : k < z.length + 1 - L := by
  have := (List.getElem?_eq_some_iff.mp hk).1
  rw [win_len] at this
  exact this
 rw [win_get hlt] at hk
 refine ⟨k, by omega, ?_⟩
 rw [← wnd_pt o, Option.some.inj hk, wnd_pt o]
theorem turn_begin {z g : List Nat} {L p : Nat} (h : Both z g L) (hp : p ≤ z.length - L + 1) (e : pt z L p = pt g L 0) : (turnF z L p).take (L - 1) = g.take (L - 1) := by
 have o := h.fit.one
 unfold turnF
 rw [List.append_assoc, List.take_append_of_le_length (by rw [pt_len h.fit hp]; exact Nat.le_refl _), List.take_of_length_le (by rw [pt_len h.fit hp]; exact Nat.le_refl _), e]
 unfold pt seg
 simp
theorem both_swap {z g : List Nat} {L p0 p1 p2 p3 : Nat} (h : Both z g L) (h01 : p0 ≤ p1) (h12 : p1 ≤ p2) (h23 : p2 ≤ p3) (h3 : p3 ≤ z.length - L + 1) (e02 : pt z L p0 = pt z L p2) (e13 : pt z L p1 = pt z L p3) : Both (swapF z L p0 p1 p2 p3) g L := by
 have hl := swap_len h.fit h01 h12 h23 h3
 exact ⟨⟨h.fit.one, by rw [hl]; exact h.fit.le⟩, by rw [hl]; exact h.len, (swap_perm h.fit h01 h12 h23 h3 e02 e13).trans h.perm⟩
theorem both_turn {z g : List Nat} {L p : Nat} (h : Both z g L) (hp : p ≤ z.length - L + 1) (e : pt z L 0 = pt z L (z.length - L + 1)) : Both (turnF z L p) g L := by
 have hl := turn_len h.fit hp
 exact ⟨⟨h.fit.one, by rw [hl]; exact h.fit.le⟩, by rw [hl]; exact h.len, (turn_perm h.fit hp e).trans h.perm⟩
end Sh
namespace Sh
open PySem L2 PyProof.Rows
seal L2.PE L2.PS L2.PSs L2.PT L2.PW L2.PA L2.PI L2.PG L2.PGs L2.PO L2.PC L2.PCs L2.OpR L2.UnR L2.CallR L2.MtR L2.IxR L2.SlR
def top (i : Nat) : Stmt := PySem.Challenge.pw_shredjoin_k53_whole_led.main.body.getD i (.Pass ⟨0, 0, 0, 0⟩)
structure Blt (mg : Str → Option Value) : Prop where
 isi : mg "isinstance" = none
 int : mg "int" = none
 bool : mg "bool" = none
 str : mg "str" = none
 tuple : mg "tuple" = none
 list : mg "list" = none
 len : mg "len" = none
 range : mg "range" = none
 all : mg "all" = none
 min : mg "min" = none
 sorted : mg "sorted" = none
 rev : mg "reversed" = none
section
variable {P : Program} {w : World} {K : PySem.W.Frag} {mg : Str → Option Value} {base : Heap}
def isIntV : V → Bool
 | .int _ => true
 | _ => false
def isStrV : V → Bool
 | .str _ => true
 | _ => false
theorem ty_int {H : Hp} {y : V} {n : String} (t : TyB H y n) : (n == "int") = isIntV y := by cases t <;> simp [isIntV]
theorem ty_str {H : Hp} {y : V} {n : String} (t : TyB H y n) : isiB n "str" = isStrV y := by cases t <;> simp [isStrV, isiB]
theorem ty_tup {H : Hp} {y : V} {n : String} (t : TyB H y n) (h : n ≠ "tuple") : isiB n "tuple" = false := by
 have : ∀ n ∈ tyNames, n ≠ "tuple" → isiB n "tuple" = false := by decide
 exact this n t.mem h
theorem bools_of {vs ys : List V} {g : V → Bool} (hl : vs.length = ys.length) (hr : ∀ (i : Nat) (v : V), vs[i]? = some v → v = V.bl (g (ys.getD i .non))) : vs = (ys.map g).map V.bl := by
 apply List.ext_getElem?
 intro i
 by_cases hi : i < vs.length
 ·have hi' : i < ys.length := by omega
  rw [List.getElem?_eq_getElem hi, hr i _ (List.getElem?_eq_getElem hi), List.getElem?_map, List.getElem?_map, List.getElem?_eq_getElem hi', List.getD_eq_getElem?_getD, List.getElem?_eq_getElem hi']
  rfl
 ·rw [List.getElem?_eq_none (by omega), List.getElem?_eq_none (by rw [List.length_map, List.length_map]; omega)]
theorem getD_mem {ys : List V} {i : Nat} (h : i < ys.length) : ys.getD i .non ∈ ys := by
 rw [List.getD_eq_getElem?_getD, List.getElem?_eq_getElem h]
 exact List.getElem_mem h
abbrev sIsWhole : Stmt := top 12
theorem scIsWhole : FnScope ["thing"] ["thing"] (defScope sIsWhole) := ⟨rfl, rfl, rfl, by decide +kernel, rfl, by decide +kernel, by decide +kernel⟩
def spWhole : Sp := fun vs H Q _ => ∃ (x : V) (n : String), vs = [x] ∧ TyB H x n ∧ Q (.bl (isIntV x)) H
theorem ok_is_whole (D : HasDef K mg "is_whole" sIsWhole ["thing"]) (B : Blt mg) : FOk P w K mg base 1 "is_whole" ["thing"] spWhole := by
 refine D.ok scIsWhole (fun vs H Q E h => ?_) (fun f cdv A outer s H vs Q E hr h => ?_)
 ·obtain ⟨x, n, rfl, _⟩ := h
  rfl
 ·obtain ⟨x, n, rfl, ty, k⟩ := h
  rw [← ty_int ty] at k
  refine ⟨_, pss_one (ps_ret (pe_and (pe_callB call_isiB rfl B.isi b_isi (pa_cons (pv 0) (pa_cons (pe_ty rfl B.int b_int) pa_nil)))
   (pe_one (pe_not (pe_callB call_isiB rfl B.isi b_isi (pa_cons (pv 0) (pa_cons (pe_ty rfl B.bool b_bool) pa_nil))))))), ?_⟩
  refine ⟨_, rfl, x, "int", n, rfl, by decide, ty, _, rfl, ?_⟩
  refine ite2 (fun e => ?_) (fun e => ?_)
  ·refine ⟨_, rfl, x, "bool", n, rfl, by decide, ty, _, rfl, ?_⟩
   rw [(isi_int n ty.mem).1 e]
   exact k
  ·rw [(isi_int n ty.mem).2 e] at k
   exact k
theorem tx_size {z : List Nat} (h : z.length ≤ 1000) : (tx z).length ≤ sizeLine := by rw [tx_len]; exact size_small (by omega)
abbrev sLastPlace : Stmt := top 17
abbrev nLastPlace : List Str := ["T", "long"]
theorem scLastPlace : FnScope nLastPlace ["T", "long"] (defScope sLastPlace) := ⟨rfl, rfl, rfl, by decide +kernel, rfl, by decide +kernel, by decide +kernel⟩
def spLast : Sp := fun vs H Q _ => ∃ (z : List Nat) (L : Nat), vs = [.str (tx z), .int L] ∧ Fit z L ∧ z.length ≤ 1000 ∧ Q (.int ((z.length - L + 1 : Nat) : Int)) H
theorem ok_last_place (D : HasDef K mg "last_place" sLastPlace ["T", "long"]) (B : Blt mg) : FOk P w K mg base 1 "last_place" ["T", "long"] spLast := by
 refine D.ok scLastPlace (fun vs H Q E h => ?_) (fun f cdv A outer s H vs Q E hr h => ?_)
 ·obtain ⟨z, L, rfl, _⟩ := h
  rfl
 ·obtain ⟨z, L, rfl, hF, hz, k⟩ := h
  refine ⟨_, (pss_one (ps_ret (pe_op op_add (pe_op op_sub (pe_callB call_len rfl B.len b_len (pa_cons (pv 0) pa_nil)) (pv 1)) pe_int))), ?_⟩
  refine ⟨_, rfl, .str (tx z), z.length, rfl, ⟨tx_size hz, (tx_len z).symm⟩, _, rfl, _, _, rfl, rfl, _, _, rfl, rfl, ?_⟩
  have := hF.le
  have e : ((z.length - L + 1 : Nat) : Int) = (z.length : Int) - (L : Int) + 1 := by omega
  rw [e] at k
  exact k
abbrev sPointAt : Stmt := top 18
abbrev nPointAt : List Str := ["T", "long", "place"]
theorem scPointAt : FnScope nPointAt ["T", "long", "place"] (defScope sPointAt) := ⟨rfl, rfl, rfl, by decide +kernel, rfl, by decide +kernel, by decide +kernel⟩
def spPoint : Sp := fun vs H Q _ => ∃ (z : List Nat) (L p : Nat), vs = [.str (tx z), .int L, .int p] ∧ Fit z L ∧ z.length ≤ 1000 ∧ p ≤ z.length - L + 1 ∧ Q (.str (tx (pt z L p))) H
theorem slice_seg {z : List Nat} {a b : Nat} {i j : Int} (ei : i = a) (ej : j = b) (hab : a ≤ b) (hb : b ≤ z.length) : Txt.slice (tx z) (some i) (some j) = tx (seg z a b) := by
 subst ei ej
 apply codes_inj
 rw [slice_mid_codes (by omega) (by omega) (by rw [tx_len]; omega), tx_list, tx_list]
 unfold seg
 congr 1
 omega
theorem ok_point_at (D : HasDef K mg "point_at" sPointAt ["T", "long", "place"]) (B : Blt mg) : FOk P w K mg base 1 "point_at" ["T", "long", "place"] spPoint := by
 refine D.ok scPointAt (fun vs H Q E h => ?_) (fun f cdv A outer s H vs Q E hr h => ?_)
 ·obtain ⟨z, L, p, rfl, _⟩ := h
  rfl
 ·obtain ⟨z, L, p, rfl, hF, hz, hp, k⟩ := h
  refine ⟨_, (pss_one (ps_ret (pe_slice sl_str (pv 0) (po_some (pv 2)) (po_some (pe_op op_sub (pe_op op_add (pv 2) (pv 1)) pe_int))))), ?_⟩
  refine ⟨_, rfl, _, rfl, _, rfl, _, rfl, _, rfl, _, _, rfl, rfl, _, _, rfl, rfl, _, rfl, _, rfl, tx_size hz, ?_⟩
  have := hF.one
  have := hF.le
  rw [slice_seg (z := z) (a := p) (b := p + L - 1) rfl (by omega) (by omega) (by omega)]
  exact k
abbrev sStretchBetween : Stmt := top 20
abbrev nStretchBetween : List Str := ["T", "long", "here", "there"]
theorem scStretchBetween : FnScope nStretchBetween ["T", "long", "here", "there"] (defScope sStretchBetween) := ⟨rfl, rfl, rfl, by decide +kernel, rfl, by decide +kernel, by decide +kernel⟩
def spStretch : Sp := fun vs H Q _ => ∃ (z : List Nat) (L a b : Nat), vs = [.str (tx z), .int L, .int a, .int b] ∧ Fit z L ∧ z.length ≤ 1000 ∧ a ≤ b ∧ b ≤ z.length - L + 1 ∧ Q (.str (tx (stt z L a b))) H
theorem ok_stretch (D : HasDef K mg "stretch_between" sStretchBetween ["T", "long", "here", "there"]) (B : Blt mg) : FOk P w K mg base 1 "stretch_between" ["T", "long", "here", "there"] spStretch := by
 refine D.ok scStretchBetween (fun vs H Q E h => ?_) (fun f cdv A outer s H vs Q E hr h => ?_)
 ·obtain ⟨z, L, a, b, rfl, _⟩ := h
  rfl
 ·obtain ⟨z, L, a, b, rfl, hF, hz, hab, hb, k⟩ := h
  refine ⟨_, (pss_one (ps_ret (pe_slice sl_str (pv 0) (po_some (pe_op op_sub (pe_op op_add (pv 2) (pv 1)) pe_int)) (po_some (pe_op op_sub (pe_op op_add (pv 3) (pv 1)) pe_int))))), ?_⟩
  refine ⟨_, rfl, _, rfl, _, rfl, _, _, rfl, rfl, _, _, rfl, rfl, _, rfl, _, rfl, _, rfl, _, _, rfl, rfl, _, _, rfl, rfl, _, rfl, _, rfl, tx_size hz, ?_⟩
  have := hF.one
  have := hF.le
  rw [slice_seg (z := z) (a := a + L - 1) (b := b + L - 1) (by omega) (by omega) (by omega) (by omega)]
  exact k
inductive DeedV (H : Hp) : V → Option (List V) → Prop where
 | no {x : V} {n : String} (t : TyB H x n) (h : n ≠ "tuple") : DeedV H x none
 | tup {a : Addr} {xs : List V} (e : H a = some (.tup xs)) (ht : ∀ y ∈ xs, ∃ n, TyB H y n) : DeedV H (.ref a) (some xs)
theorem DeedV.same {H H' : Hp} {x : V} {o : Option (List V)} (s : Same H H') (h : DeedV H x o) : DeedV H' x o := by
 cases h with
 | no t h => exact .no (t.same s) h
 | tup e ht => exact .tup (s _ _ e) fun y m => (ht y m).imp fun n t => t.same s
def deedL (word : Str) (many : Nat) (xs : List V) : Bool := decide (xs.length = many + 1) && decide (xs.headD .non = .str word) && (xs.drop 1).all isIntV
def deedO (word : Str) (many : Nat) : Option (List V) → Bool
 | none => false
 | some xs => deedL word many xs
abbrev sIsDeed : Stmt := top 21
abbrev nIsDeed : List Str := ["thing", "word", "many"]
theorem scIsDeed : FnScope nIsDeed ["thing", "word", "many"] (defScope sIsDeed) := ⟨rfl, rfl, rfl, by decide +kernel, rfl, by decide +kernel, by decide +kernel⟩
def spIsDeed : Sp := fun vs H Q _ => ∃ (x : V) (o : Option (List V)) (word : Str) (many : Nat), vs = [x, .str word, .int many] ∧ DeedV H x o ∧ 1 ≤ many ∧ many ≤ 10 ∧ ∀ H', Same H H' → Q (.bl (deedO word many o)) H'
theorem ok_is_deed (D : HasDef K mg "is_deed" sIsDeed ["thing", "word", "many"]) (B : Blt mg) (g21_ : FOk P w K mg base 1 "is_whole" ["thing"] spWhole) : FOk P w K mg base 2 "is_deed" ["thing", "word", "many"] spIsDeed := by
 refine D.ok scIsDeed (fun vs H Q E h => ?_) (fun f cdv A outer s H vs Q E hr h => ?_)
 ·obtain ⟨x, o, word, many, rfl, _⟩ := h
  rfl
 ·obtain ⟨x, o, word, many, rfl, hD, h1, h10, k⟩ := h
  refine ⟨_, (pss_cons (ps_if (PW.pt (pw_or (pt_not (pt_val (pe_callB call_isiB rfl B.isi b_isi (pa_cons (pv 0) (pa_cons (pe_ty rfl B.tuple b_tuple) pa_nil))))) (pw_or1 (pt_cmpR op_ne (pe_callB call_len rfl B.len b_len (pa_cons (pv 0) pa_nil)) (pe_op op_add (pv 2) pe_int) (nomark _))))) (pss_one (ps_ret pe_bl)) pss_nil)
   (pss_cons (ps_if (PW.pt (pw_or (pt_not (pt_val (pe_callB call_isiB rfl B.isi b_isi (pa_cons (pe_ix ix_tup (pv 0) pe_int (fun _ _ => rfl)) (pa_cons (pe_ty rfl B.str b_str) pa_nil))))) (pw_or1 (pt_cmpR op_ne (pe_ix ix_tup (pv 0) pe_int (fun _ _ => rfl)) (pv 1) (nomark _))))) (pss_one (ps_ret pe_bl)) pss_nil)
   (pss_one (ps_ret (pe_callB (call_allL rfl) rfl B.all b_all (pa_cons (pe_lcomp (defScope sIsDeed) nIsDeed ["number"] [] rfl (pi_tup (pe_slice sl_tup (pv 0) (po_some pe_int) po_none)) (fun _ _ _ _ _ => pg_lc 0) (fun _ _ _ _ _ => pcs_nil) (fun _ _ _ _ _ => (pe_fn g21_ hr (pa_cons (pv 0) pa_nil)))) pa_nil)))))), ?_⟩
  cases hD with
  | @no _ n t hn =>
   refine ⟨_, rfl, x, "tuple", n, rfl, by decide, t, _, rfl, iteP (by rw [ty_tup t hn]; rfl) (iteT ?_)⟩
   exact k H (Same.refl _)
  | @tup a xs e ht =>
   refine ⟨_, rfl, .ref a, "tuple", "tuple", rfl, by decide, .tup e, _, rfl, iteM (by decide) ?_⟩
   refine ⟨_, rfl, .ref a, xs.length, rfl, .inr ⟨xs, SqT.of e, rfl⟩, _, rfl, _, _, rfl, rfl, rfl, _, rfl, ?_⟩
   by_cases hlen : xs.length = many + 1
   ·refine iteNS (by dsimp only; rw [hlen]; rfl) ?_
    obtain ⟨y, ys, rfl⟩ : ∃ y ys, xs = y :: ys := by
     cases xs with
     | nil => simp at hlen
     | cons y ys => exact ⟨y, ys, rfl⟩
    obtain ⟨n0, t0⟩ := ht y (by simp)
    refine ⟨_, rfl, a, _, 0, y, rfl, rfl, SqT.of e, item_at (by decide) rfl, y, "str", n0, rfl, by decide, t0, _, rfl, ?_⟩
    rw [ty_str t0]
    by_cases hs : isStrV y = true
    ·obtain ⟨wd, rfl⟩ : ∃ wd, y = .str wd := by
      cases t0 <;> first | exact ⟨_, rfl⟩ | (simp [isStrV] at hs)
     refine iteM rfl ?_
     refine ⟨_, rfl, a, _, 0, .str wd, rfl, rfl, SqT.of e, item_at (by decide) rfl, _, rfl, rfl, _, rfl, ?_⟩
     by_cases hw : wd = word
     ·subst hw
      refine iteNS rfl ?_
      have ecut : cutV (V.str wd :: ys) (some 1) none = ys := cut_from (i := 1) (xs := V.str wd :: ys) (by simp)
      refine ⟨_, rfl, _, rfl, a, _, rfl, SqT.of e, ?_, fun p hp => ?_⟩
      ·rintro ⟨q, _⟩
       have e1 : HT.sIx (V.str wd :: ys).length 0 (some ((1 : Nat) : Int)) = 1 := sIx_to (by simp)
       exact absurd (e1.symm.trans q) (by decide)
      rw [ecut]
      have s1 := same_upd_new (o := .tup ys) hp
      refine ⟨p, rfl, ⟨_, SqT.of upd_same⟩, lc_map ys.length (fun i => ys.getD i .non) (fun i v _ => v = .bl (isIntV (ys.getD i .non))) (size_small (by simp at hlen; omega)) (fun _ _ _ _ _ r => r) (jt_tup (K := K) (SqT.of upd_same)) ?_ ?_⟩
      ·intro i H3 Qe hi hs3 kq
       obtain ⟨n, t⟩ := ht _ (List.mem_cons_of_mem _ (getD_mem hi))
       exact ⟨_, rfl, _, n, rfl, t.same (s1.trans hs3), kq _ _ (Same.refl _) rfl⟩
      ·intro D1 vs1 H3 hl1 hr1 hs3 hD1 hDl1
       have e1 := bools_of (g := isIntV) hl1 hr1
       refine ⟨D1, ys.map isIntV, rfl, SqL.of (by rw [hDl1, e1]), ?_⟩
       have := k _ (s1.trans hs3)
       have ev : deedO wd many (some (V.str wd :: ys)) = (ys.map isIntV).all id := by
        show deedL wd many (V.str wd :: ys) = _
        unfold deedL
        rw [decide_eq_true hlen]
        simp
       rw [ev] at this
       exact this
     ·refine iteNT (fun q => hw (by injection q)) ?_
      have := k _ (Same.refl H)
      have ev : deedO word many (some (V.str wd :: ys)) = false := by
       unfold deedO deedL
       have : ¬ (V.str wd = V.str word) := fun q => hw (by injection q)
       simp [this]
      rw [ev] at this
      exact this
    ·refine iteP (by rw [Bool.eq_false_iff.mpr hs]; rfl) (iteT ?_)
     have := k _ (Same.refl H)
     have ev : deedO word many (some (y :: ys)) = false := by
      unfold deedO deedL
      have : ¬ (y = V.str word) := fun q => hs (by rw [q]; rfl)
      simp [this]
     rw [ev] at this
     exact this
   ·refine iteNT (fun q => hlen (by injection q with q; omega)) ?_
    have := k _ (Same.refl H)
    have ev : deedO word many (some xs) = false := by
     show deedL word many xs = false
     unfold deedL
     rw [decide_eq_false hlen]
     rfl
    rw [ev] at this
    exact this
end
section
variable {P : Program} {w : World} {K : PySem.W.Frag} {mg : Str → Option Value} {base : Heap}
def ascB (l : List Int) : Bool := (List.range (l.length - 1)).all fun i => decide (l.getD i 0 ≤ l.getD (i + 1) 0)
def boundL (z : List Nat) (L : Nat) (ns : List Int) : List Int := 0 :: ns ++ [((z.length - L + 1 : Nat) : Int)]
theorem boundL_len (z : List Nat) (L : Nat) (ns : List Int) : (boundL z L ns).length = ns.length + 2 := by simp [boundL]
theorem at_int {m : List Int} {j : Nat} {i : Int} (e : i = j) (hj : j < m.length) : atI (m.map V.int) i = some (V.int (m.getD j 0)) := by
 subst e
 refine item_at (by omega) ?_
 rw [Int.toNat_natCast, List.getElem?_map, List.getElem?_eq_getElem hj, List.getD_eq_getElem?_getD, List.getElem?_eq_getElem hj]
 rfl
theorem bools_range {vs : List V} {n : Nat} {g : Nat → Bool} (hl : vs.length = n) (hr : ∀ (i : Nat) (v : V), vs[i]? = some v → v = V.bl (g i)) : vs = ((List.range n).map g).map V.bl := by
 rw [List.map_map]
 exact vs_range hl hr
abbrev sArePlaces : Stmt := top 22
abbrev nArePlaces : List Str := ["T", "long", "numbers", "bounded"]
theorem scArePlaces : FnScope nArePlaces ["T", "long", "numbers"] (defScope sArePlaces) := ⟨rfl, rfl, rfl, by decide +kernel, rfl, by decide +kernel, by decide +kernel⟩
def spPlaces : Sp := fun vs H Q _ => ∃ (z : List Nat) (L : Nat) (a : Addr) (ns : List Int), vs = [.str (tx z), .int L, .ref a] ∧ Fit z L ∧ z.length ≤ 1000 ∧ H a = some (.tup (ns.map V.int)) ∧ ns.length ≤ 10 ∧ ∀ H', Same H H' → Q (.bl (ascB (boundL z L ns))) H'
theorem ok_are_places (D : HasDef K mg "are_places" sArePlaces ["T", "long", "numbers"]) (B : Blt mg) (g22_ : FOk P w K mg base 1 "last_place" ["T", "long"] spLast) : FOk P w K mg base 2 "are_places" ["T", "long", "numbers"] spPlaces := by
 refine D.ok scArePlaces (fun vs H Q E h => ?_) (fun f cdv A outer s H vs Q E hr h => ?_)
 ·obtain ⟨z, L, a, ns, rfl, _⟩ := h
  rfl
 ·obtain ⟨z, L, a, ns, rfl, hF, hz, ha, hn, k⟩ := h
  refine ⟨_, (pss_cons (ps_set (i := 3) scArePlaces.nd rfl (Or.inr rfl) (pe_op op_cat (pe_op op_cat (pe_lst (pa_cons pe_int pa_nil)) (pe_callTy call_list_of rfl B.list b_list (pa_cons (pv 2) pa_nil))) (pe_lst (pa_cons (pe_fn g22_ hr (pa_cons (pv 0) (pa_cons (pv 1) pa_nil))) pa_nil))))
   (pss_one (ps_ret (pe_callB (call_allL rfl) rfl B.all b_all (pa_cons (pe_lcomp (defScope sArePlaces) nArePlaces ["place"] [3] rfl (pi_range1 rfl B.range (pa_cons (pe_op op_sub (pe_callB call_len rfl B.len b_len (pa_cons (pv 3) pa_nil)) pe_int) pa_nil)) (fun _ _ _ _ _ => pg_lc 0) (fun _ _ _ _ _ => pcs_nil) (fun _ _ _ _ _ => (pe_cmpR op_le (pe_ix (ix_listK K) (pv 1) (pv 0) (fun _ _ => rfl)) (pe_ix (ix_listK K) (pv 1) (pe_op op_add (pv 0) pe_int) (fun _ _ => rfl)) (nomark _)))) pa_nil))))), ?_⟩
  refine ⟨one_size, fun p0 hp0 => ?_⟩
  have s0 := same_upd_new (o := .lst [.int 0]) hp0
  refine ⟨_, rfl, a, _, rfl, .inr (SqT.of (s0 _ _ ha)), fun p1 hp1 => ?_⟩
  have s1 := same_upd_new (o := .lst (ns.map V.int)) hp1
  refine ⟨p0, p1, _, _, rfl, rfl, s1 _ _ upd_same, upd_same, few_size (by simp; omega), fun p2 hp2 => ?_⟩
  have s2 := same_upd_new (o := .lst ([.int 0] ++ ns.map V.int)) hp2
  refine ⟨_, rfl, _, rfl, z, L, rfl, hF, hz, one_size, fun p3 hp3 => ?_⟩
  have s3 := same_upd_new (o := .lst [.int ((z.length - L + 1 : Nat) : Int)]) hp3
  refine ⟨p2, p3, _, _, rfl, rfl, s3 _ _ upd_same, upd_same, few_size (by simp; omega), fun p4 hp4 => ?_⟩
  have eb : ([V.int 0] ++ ns.map V.int) ++ [V.int ((z.length - L + 1 : Nat) : Int)] = (boundL z L ns).map V.int := by simp [boundL]
  rw [eb]
  have s4 := same_upd_new (o := .lst ((boundL z L ns).map V.int)) hp4
  have sA := ((((s0.trans s1).trans s2).trans s3).trans s4)
  have hl := boundL_len z L ns
  refine ⟨_, rfl, .ref p4, _, rfl, .inl ⟨_, SqL.of upd_same, rfl⟩, _, _, rfl, rfl, _, rfl, ?_, ?_, ?_⟩
  ·rw [List.length_map, hl]; omega
  ·rw [List.length_map, hl]; omega
  have en : ((((boundL z L ns).map V.int).length : Nat) - (1 : Int)).toNat = (boundL z L ns).length - 1 := by rw [List.length_map, hl]; omega
  rw [en]
  refine lc_map ((boundL z L ns).length - 1) (fun i => .int (0 + (i : Int))) (fun i v _ => v = .bl (decide ((boundL z L ns).getD i 0 ≤ (boundL z L ns).getD (i + 1) 0))) (few_size (by omega)) (fun _ _ _ _ _ r => r) jt_range ?_ ?_
  ·intro i H3 Qe hi hs3 kq
   refine ⟨_, rfl, _, rfl, p4, _, _, _, rfl, rfl, SqL.of (hs3 _ _ upd_same), at_int (j := i) (by omega) (by omega), _, rfl, _, rfl, _, _, rfl, rfl, p4, _, _, _, rfl, rfl, SqL.of (hs3 _ _ upd_same), at_int (j := i + 1) (by omega) (by omega), _, _, rfl, rfl, kq _ _ (Same.refl _) rfl⟩
  ·intro D1 vs1 H3 hl1 hr1 hs3 hD1 hDl1
   refine ⟨D1, _, rfl, SqL.of (by rw [hDl1, bools_range hl1 hr1]), ?_⟩
   have := k _ (sA.trans hs3)
   unfold ascB at this
   rw [List.all_map]
   exact this
abbrev sIsClosed : Stmt := top 23
abbrev nIsClosed : List Str := ["T", "long"]
theorem scIsClosed : FnScope nIsClosed ["T", "long"] (defScope sIsClosed) := ⟨rfl, rfl, rfl, by decide +kernel, rfl, by decide +kernel, by decide +kernel⟩
def spClosed : Sp := fun vs H Q _ => ∃ (z : List Nat) (L : Nat), vs = [.str (tx z), .int L] ∧ Fit z L ∧ z.length ≤ 1000 ∧ Q (.bl (decide (pt z L 0 = pt z L (z.length - L + 1)))) H
theorem dec_tx {a b : List Nat} : decide (V.str (tx a) = V.str (tx b)) = decide (a = b) := by
 rw [Bool.eq_iff_iff, decide_eq_true_eq, decide_eq_true_eq]
 exact ⟨fun e => tx_inj (by injection e), fun e => by rw [e]⟩
theorem ok_is_closed (D : HasDef K mg "is_closed" sIsClosed ["T", "long"]) (B : Blt mg) (g22_ : FOk P w K mg base 1 "last_place" ["T", "long"] spLast) (g25_ : FOk P w K mg base 1 "point_at" ["T", "long", "place"] spPoint) : FOk P w K mg base 2 "is_closed" ["T", "long"] spClosed := by
 refine D.ok scIsClosed (fun vs H Q E h => ?_) (fun f cdv A outer s H vs Q E hr h => ?_)
 ·obtain ⟨z, L, rfl, _⟩ := h
  rfl
 ·obtain ⟨z, L, rfl, hF, hz, k⟩ := h
  refine ⟨_, (pss_one (ps_ret (pe_cmpR op_eq (pe_fn g25_ hr (pa_cons (pv 0) (pa_cons (pv 1) (pa_cons pe_int pa_nil)))) (pe_fn g25_ hr (pa_cons (pv 0) (pa_cons (pv 1) (pa_cons (pe_fn g22_ hr (pa_cons (pv 0) (pa_cons (pv 1) pa_nil))) pa_nil)))) (nomark _)))), ?_⟩
  refine ⟨_, rfl, _, rfl, z, L, 0, rfl, hF, hz, by omega, _, rfl, _, rfl, _, rfl, _, rfl, z, L, rfl, hF, hz, z, L, z.length - L + 1, rfl, hF, hz, by omega, rfl, ?_⟩
  rw [dec_tx]
  exact k
def nAt (ns : List Int) (i : Nat) : Nat := (ns.getD i 0).toNat
def fitsB (z : List Nat) (L : Nat) (ns : List Int) : Bool := ascB (boundL z L ns) && (decide (pt z L (nAt ns 0) = pt z L (nAt ns 2)) && decide (pt z L (nAt ns 1) = pt z L (nAt ns 3)))
theorem asc4 {z : List Nat} {L : Nat} {ns : List Int} (hl : ns.length = 4) (h : ascB (boundL z L ns) = true) : ∃ p0 p1 p2 p3 : Nat, ns = [(p0 : Int), p1, p2, p3] ∧ p0 ≤ p1 ∧ p1 ≤ p2 ∧ p2 ≤ p3 ∧ p3 ≤ z.length - L + 1 := by
 match ns, hl with
 | [a, b, c, d], _ =>
  simp [ascB, boundL, List.range_succ] at h
  refine ⟨a.toNat, b.toNat, c.toNat, d.toNat, ?_, by omega, by omega, by omega, by omega⟩
  have e1 : (a.toNat : Int) = a := by omega
  have e2 : (b.toNat : Int) = b := by omega
  have e3 : (c.toNat : Int) = c := by omega
  have e4 : (d.toNat : Int) = d := by omega
  rw [e1, e2, e3, e4]
theorem asc1 {z : List Nat} {L : Nat} {ns : List Int} (hl : ns.length = 1) (h : ascB (boundL z L ns) = true) : ∃ p : Nat, ns = [(p : Int)] ∧ p ≤ z.length - L + 1 := by
 match ns, hl with
 | [a], _ =>
  simp [ascB, boundL, List.range_succ] at h
  exact ⟨a.toNat, by rw [show (a.toNat : Int) = a by omega], by omega⟩
abbrev sSwapFits : Stmt := top 24
abbrev nSwapFits : List Str := ["T", "long", "places", "points"]
theorem scSwapFits : FnScope nSwapFits ["T", "long", "places"] (defScope sSwapFits) := ⟨rfl, rfl, rfl, by decide +kernel, rfl, by decide +kernel, by decide +kernel⟩
def spFits : Sp := fun vs H Q _ => ∃ (z : List Nat) (L : Nat) (a : Addr) (ns : List Int), vs = [.str (tx z), .int L, .ref a] ∧ Fit z L ∧ z.length ≤ 1000 ∧ H a = some (.tup (ns.map V.int)) ∧ ns.length = 4 ∧ ∀ H', Same H H' → Q (.bl (fitsB z L ns)) H'
theorem ok_swap_fits (D : HasDef K mg "swap_fits" sSwapFits ["T", "long", "places"]) (B : Blt mg) (g14_ : FOk P w K mg base 2 "are_places" ["T", "long", "numbers"] spPlaces) (g25_ : FOk P w K mg base 2 "point_at" ["T", "long", "place"] spPoint) : FOk P w K mg base 3 "swap_fits" ["T", "long", "places"] spFits := by
 refine D.ok scSwapFits (fun vs H Q E h => ?_) (fun f cdv A outer s H vs Q E hr h => ?_)
 ·obtain ⟨z, L, a, ns, rfl, _⟩ := h
  rfl
 ·obtain ⟨z, L, a, ns, rfl, hF, hz, ha, hn, k⟩ := h
  refine ⟨_, (pss_cons (ps_if (pt_not (pt_val (pe_fn g14_ hr (pa_cons (pv 0) (pa_cons (pv 1) (pa_cons (pv 2) pa_nil)))))) (pss_one (ps_ret pe_bl)) pss_nil)
   (pss_cons (ps_lcomp (i := 3) (defScope sSwapFits) nSwapFits ["place"] [0, 1] scSwapFits.nd rfl (Or.inl rfl) rfl (pi_tup (pv 2)) (fun _ _ _ _ _ => pg_lc 0) (fun _ _ _ _ _ => pcs_nil) (fun _ _ _ _ _ => (pe_fn g25_ hr (pa_cons (pv 1) (pa_cons (pv 2) (pa_cons (pv 0) pa_nil))))))
   (pss_one (ps_ret (pe_and (pe_cmpR op_eq (pe_ix ix_list (pv 3) pe_int (fun _ _ => rfl)) (pe_ix ix_list (pv 3) pe_int (fun _ _ => rfl)) (nomark _)) (pe_one (pe_cmpR op_eq (pe_ix ix_list (pv 3) pe_int (fun _ _ => rfl)) (pe_ix ix_list (pv 3) pe_int (fun _ _ => rfl)) (nomark _)))))))), ?_⟩
  refine ⟨_, rfl, _, rfl, _, rfl, z, L, a, ns, rfl, hF, hz, ha, by omega, fun H1 s1 => ⟨_, rfl, ?_⟩⟩
  by_cases hasc : ascB (boundL z L ns) = true
  ·refine iteM (by rw [hasc]; rfl) ?_
   obtain ⟨p0, p1, p2, p3, rfl, h01, h12, h23, h3⟩ := asc4 hn hasc
   have ha1 := s1 _ _ ha
   refine ⟨_, rfl, a, rfl, ⟨_, SqT.of ha1⟩, lc_map 4 (fun i => ([(p0 : Int), p1, p2, p3].map V.int).getD i .non) (fun i v _ => v = .str (tx (pt z L (nAt [(p0 : Int), p1, p2, p3] i)))) (few_size (by omega)) (fun _ _ _ _ _ r => r) (jt_tup (K := K) (SqT.of ha1)) ?_ ?_⟩
   ·intro i H3 Qe hi hs3 kq
    have key : ∀ j, j < 4 → ∃ p : Nat, ([(p0 : Int), p1, p2, p3].map V.int).getD j .non = .int p ∧ nAt [(p0 : Int), p1, p2, p3] j = p ∧ p ≤ z.length - L + 1 := by
     intro j hj
     match j, hj with
     | 0, _ => exact ⟨p0, rfl, rfl, by omega⟩
     | 1, _ => exact ⟨p1, rfl, rfl, by omega⟩
     | 2, _ => exact ⟨p2, rfl, rfl, by omega⟩
     | 3, _ => exact ⟨p3, rfl, rfl, by omega⟩
    obtain ⟨p, e1, e2, e3⟩ := key i hi
    rw [e1]
    exact ⟨_, rfl, _, rfl, _, rfl, z, L, p, rfl, hF, hz, e3, kq _ _ (Same.refl _) (by rw [e2])⟩
   ·intro D1 vs1 H3 hl1 hr1 hs3 hD1 hDl1
    have e1 := vs_range (f := fun i => V.str (tx (pt z L (nAt [(p0 : Int), p1, p2, p3] i)))) hl1 hr1
    have e2 : vs1 = [V.str (tx (pt z L p0)), V.str (tx (pt z L p1)), V.str (tx (pt z L p2)), V.str (tx (pt z L p3))] := by rw [e1]; rfl
    rw [e2] at hDl1
    refine ⟨_, rfl, D1, _, 0, _, rfl, rfl, SqL.of hDl1, item_at (by decide) rfl, _, rfl, D1, _, 2, _, rfl, rfl, SqL.of hDl1, item_at (by decide) rfl, rfl, _, rfl, ?_⟩
    have kk := k _ (s1.trans hs3)
    unfold fitsB at kk
    rw [hasc, Bool.true_and] at kk
    rw [dec_tx]
    by_cases c : pt z L p0 = pt z L p2
    ·refine iteP (decide_eq_true c) ?_
     refine ⟨_, rfl, D1, _, 1, _, rfl, rfl, SqL.of hDl1, item_at (by decide) rfl, _, rfl, D1, _, 3, _, rfl, rfl, SqL.of hDl1, item_at (by decide) rfl, rfl, ?_⟩
     rw [dec_tx]
     have e3 : decide (pt z L (nAt [(p0 : Int), p1, p2, p3] 0) = pt z L (nAt [(p0 : Int), p1, p2, p3] 2)) = true := decide_eq_true c
     rw [e3, Bool.true_and] at kk
     exact kk
    ·refine iteM (decide_eq_false c) ?_
     have e3 : decide (pt z L (nAt [(p0 : Int), p1, p2, p3] 0) = pt z L (nAt [(p0 : Int), p1, p2, p3] 2)) = false := decide_eq_false c
     rw [e3, Bool.false_and] at kk
     exact kk
  ·refine iteP (by rw [Bool.eq_false_iff.mpr hasc]; rfl) ?_
   have kk := k _ s1
   unfold fitsB at kk
   rw [Bool.eq_false_iff.mpr hasc, Bool.false_and] at kk
   exact kk
end
section
variable {P : Program} {w : World} {K : PySem.W.Frag} {mg : Str → Option Value} {base : Heap}
abbrev sSwapped : Stmt := top 25
abbrev nSwapped : List Str := ["T", "long", "places", "bounds"]
theorem scSwapped : FnScope nSwapped ["T", "long", "places"] (defScope sSwapped) := ⟨rfl, rfl, rfl, by decide +kernel, rfl, by decide +kernel, by decide +kernel⟩
def spSwapped : Sp := fun vs H Q _ => ∃ (z : List Nat) (L : Nat) (a : Addr) (p0 p1 p2 p3 : Nat), vs = [.str (tx z), .int L, .ref a] ∧ Fit z L ∧ z.length ≤ 1000 ∧ H a = some (.tup ([(p0 : Int), p1, p2, p3].map V.int)) ∧ p0 ≤ p1 ∧ p1 ≤ p2 ∧ p2 ≤ p3 ∧ p3 ≤ z.length - L + 1 ∧
 ∀ H', Same H H' → Q (.str (tx (swapF z L p0 p1 p2 p3))) H'
theorem two_size : (2 : Nat) ≤ sizeLine := by rw [sizeLine_eq]; decide
theorem four_size : (4 : Nat) ≤ sizeLine := by rw [sizeLine_eq]; decide
theorem seg_le (z : List Nat) (a b : Nat) : (seg z a b).length ≤ z.length := by
 unfold seg
 rw [List.length_take, List.length_drop]
 omega
theorem ok_swapped (D : HasDef K mg "swapped" sSwapped ["T", "long", "places"]) (B : Blt mg) (g22_ : FOk P w K mg base 1 "last_place" ["T", "long"] spLast) (g25_ : FOk P w K mg base 1 "point_at" ["T", "long", "place"] spPoint) (g27_ : FOk P w K mg base 1 "stretch_between" ["T", "long", "here", "there"] spStretch) : FOk P w K mg base 2 "swapped" ["T", "long", "places"] spSwapped := by
 refine D.ok scSwapped (fun vs H Q E h => ?_) (fun f cdv A outer s H vs Q E hr h => ?_)
 ·obtain ⟨z, L, a, p0, p1, p2, p3, rfl, _⟩ := h
  rfl
 ·obtain ⟨z, L, a, p0, p1, p2, p3, rfl, hF, hz, ha, h01, h12, h23, h3, k⟩ := h
  refine ⟨_, (pss_cons (ps_set (i := 3) scSwapped.nd rfl (Or.inl rfl) (pe_lst (pa_cons (pe_tup (pa_cons pe_int (pa_cons (pe_ix ix_tup (pv 2) pe_int (fun _ _ => rfl)) pa_nil))) (pa_cons (pe_tup (pa_cons (pe_ix ix_tup (pv 2) pe_int (fun _ _ => rfl)) (pa_cons (pe_ix ix_tup (pv 2) pe_int (fun _ _ => rfl)) pa_nil))) (pa_cons (pe_tup (pa_cons (pe_ix ix_tup (pv 2) pe_int (fun _ _ => rfl)) (pa_cons (pe_ix ix_tup (pv 2) pe_int (fun _ _ => rfl)) pa_nil))) (pa_cons (pe_tup (pa_cons (pe_ix ix_tup (pv 2) pe_int (fun _ _ => rfl)) (pa_cons (pe_ix ix_tup (pv 2) pe_int (fun _ _ => rfl)) pa_nil))) pa_nil))))))
   (pss_cons (ps_expr (pe_bm F.plainAttrs_list F.slot_list_append F.type_list_append mt_appendR (pv 3) (pa_cons (pe_tup (pa_cons (pe_ix ix_tup (pv 2) pe_int (fun _ _ => rfl)) (pa_cons (pe_fn g22_ hr (pa_cons (pv 0) (pa_cons (pv 1) pa_nil))) pa_nil))) pa_nil)))
   (pss_one (ps_ret (pe_op op_add_str (pe_fn g25_ hr (pa_cons (pv 0) (pa_cons (pv 1) (pa_cons pe_int pa_nil)))) (pe_bm F.plainAttrs_str F.slot_str_join F.type_str_join mt_join pe_str (pa_cons (pe_lcomp (defScope sSwapped) nSwapped ["here", "there"] [0, 1] rfl (pi_list (pv 3)) (fun _ _ _ _ _ => pg_tupK 2 K rfl (pgs_cons (pg_lc 0) (pgs_cons (pg_lc 1) pgs_nil))) (fun _ _ _ _ _ => pcs_nil) (fun _ _ _ _ _ => (pe_fn g27_ hr (pa_cons (pv 2) (pa_cons (pv 3) (pa_cons (pv 0) (pa_cons (pv 1) pa_nil))))))) pa_nil))))))), ?_⟩
  have o := hF.one
  have l := hF.le
  refine ⟨_, rfl, a, _, 0, _, rfl, rfl, SqT.of ha, item_at (by decide) rfl, two_size, fun q1 hq1 => ?_⟩
  have s1 := same_upd_new (o := .tup [.int 0, .int (p0 : Int)]) hq1
  refine ⟨_, rfl, a, _, 2, _, rfl, rfl, SqT.of (s1 _ _ ha), item_at (by decide) rfl, _, rfl, a, _, 3, _, rfl, rfl, SqT.of (s1 _ _ ha), item_at (by decide) rfl, two_size, fun q2 hq2 => ?_⟩
  have s2 := same_upd_new (o := .tup [.int (p2 : Int), .int (p3 : Int)]) hq2
  have s12 := s1.trans s2
  refine ⟨_, rfl, a, _, 1, _, rfl, rfl, SqT.of (s12 _ _ ha), item_at (by decide) rfl, _, rfl, a, _, 2, _, rfl, rfl, SqT.of (s12 _ _ ha), item_at (by decide) rfl, two_size, fun q3 hq3 => ?_⟩
  have s3 := same_upd_new (o := .tup [.int (p1 : Int), .int (p2 : Int)]) hq3
  have s13 := s12.trans s3
  refine ⟨_, rfl, a, _, 0, _, rfl, rfl, SqT.of (s13 _ _ ha), item_at (by decide) rfl, _, rfl, a, _, 1, _, rfl, rfl, SqT.of (s13 _ _ ha), item_at (by decide) rfl, two_size, fun q4 hq4 => ?_⟩
  have s4 := same_upd_new (o := .tup [.int (p0 : Int), .int (p1 : Int)]) hq4
  have s14 := s13.trans s4
  refine ⟨four_size, fun pb hpb => ?_⟩
  have s5 := same_upd_new (o := .lst [.ref q1, .ref q2, .ref q3, .ref q4]) hpb
  have s15 := s14.trans s5
  have t1 := (((s2.trans s3).trans s4).trans s5) _ _ (upd_same (H := H) (a := q1) (o := .tup [.int 0, .int (p0 : Int)]))
  have t2 := ((s3.trans s4).trans s5) _ _ (upd_same (H := upd H q1 (.tup [.int 0, .int (p0 : Int)])) (a := q2) (o := .tup [.int (p2 : Int), .int (p3 : Int)]))
  have t3 := (s4.trans s5) _ _ (upd_same (H := upd (upd H q1 (.tup [.int 0, .int (p0 : Int)])) q2 (.tup [.int (p2 : Int), .int (p3 : Int)])) (a := q3) (o := .tup [.int (p1 : Int), .int (p2 : Int)]))
  have t4 := s5 _ _ (upd_same (H := upd (upd (upd H q1 (.tup [.int 0, .int (p0 : Int)])) q2 (.tup [.int (p2 : Int), .int (p3 : Int)])) q3 (.tup [.int (p1 : Int), .int (p2 : Int)])) (a := q4) (o := .tup [.int (p0 : Int), .int (p1 : Int)]))
  have hb := upd_same (H := upd (upd (upd (upd H q1 (.tup [.int 0, .int (p0 : Int)])) q2 (.tup [.int (p2 : Int), .int (p3 : Int)])) q3 (.tup [.int (p1 : Int), .int (p2 : Int)])) q4 (.tup [.int (p0 : Int), .int (p1 : Int)])) (a := pb) (o := .lst [.ref q1, .ref q2, .ref q3, .ref q4])
  have nb : H pb = none := s14.free hpb
  generalize upd (upd (upd (upd (upd H q1 (.tup [.int 0, .int (p0 : Int)])) q2 (.tup [.int (p2 : Int), .int (p3 : Int)])) q3 (.tup [.int (p1 : Int), .int (p2 : Int)])) q4 (.tup [.int (p0 : Int), .int (p1 : Int)])) pb (.lst [.ref q1, .ref q2, .ref q3, .ref q4]) = H5 at s15 t1 t2 t3 t4 hb
  refine ⟨_, rfl, .inl ⟨rfl, _, SqL.of hb⟩, _, rfl, a, _, 3, _, rfl, rfl, SqT.of (s15 _ _ ha), item_at (by decide) rfl, _, rfl, _, rfl, z, L, rfl, hF, hz, two_size, fun q5 hq5 => ?_⟩
  have s6 := same_upd_new (o := .tup [.int (p3 : Int), .int ((z.length - L + 1 : Nat) : Int)]) hq5
  refine ⟨pb, _, _, rfl, rfl, s6 _ _ hb, (show 4 < sizeLine by rw [sizeLine_eq]; decide), ?_⟩
  have ts := tsame_upd_lst (ys := [.ref q1, .ref q2, .ref q3, .ref q4] ++ [.ref q5]) (s6 _ _ hb)
  have u1 := ts _ _ (s6 _ _ t1)
  have u2 := ts _ _ (s6 _ _ t2)
  have u3 := ts _ _ (s6 _ _ t3)
  have u4 := ts _ _ (s6 _ _ t4)
  have u5 := ts _ _ (upd_same (H := H5) (a := q5) (o := .tup [.int (p3 : Int), .int ((z.length - L + 1 : Nat) : Int)]))
  have ub := upd_same (H := upd H5 q5 (.tup [.int (p3 : Int), .int ((z.length - L + 1 : Nat) : Int)])) (a := pb) (o := .lst ([.ref q1, .ref q2, .ref q3, .ref q4] ++ [.ref q5]))
  have sF : Same H (upd (upd H5 q5 (.tup [.int (p3 : Int), .int ((z.length - L + 1 : Nat) : Int)])) pb (.lst ([.ref q1, .ref q2, .ref q3, .ref q4] ++ [.ref q5]))) := fun b o' e => by
   rw [upd_ne (ne_of_none e nb)]
   exact s6 _ _ (s15 _ _ e)
  generalize upd (upd H5 q5 (.tup [.int (p3 : Int), .int ((z.length - L + 1 : Nat) : Int)])) pb (.lst ([.ref q1, .ref q2, .ref q3, .ref q4] ++ [.ref q5])) = H6 at u1 u2 u3 u4 u5 ub sF ⊢
  refine ⟨_, rfl, _, rfl, z, L, 0, rfl, hF, hz, by omega, rfl, _, rfl, pb, rfl, ⟨_, SqL.of ub⟩, ?_⟩
  refine lc_map 5 (fun i => ([V.ref q1, V.ref q2, V.ref q3, V.ref q4] ++ [V.ref q5]).getD i .non) (fun i v _ => v = .str (tx ([stt z L 0 p0, stt z L p2 p3, stt z L p1 p2, stt z L p0 p1, stt z L p3 (z.length - L + 1)].getD i []))) (few_size (by omega)) (fun _ _ _ _ _ r => r) (jt_list (K := K) (SqL.of ub)) ?_ ?_
  ·intro i H7 Qe hi hs kq
   have key : ∀ j, j < 5 → ∃ (q : Addr) (x y : Nat), ([V.ref q1, V.ref q2, V.ref q3, V.ref q4] ++ [V.ref q5]).getD j .non = .ref q ∧ H6 q = some (.tup [.int (x : Int), .int (y : Int)]) ∧ x ≤ y ∧ y ≤ z.length - L + 1 ∧ stt z L x y = [stt z L 0 p0, stt z L p2 p3, stt z L p1 p2, stt z L p0 p1, stt z L p3 (z.length - L + 1)].getD j [] := by
    intro j hj
    match j, hj with
    | 0, _ => exact ⟨q1, 0, p0, rfl, u1, by omega, by omega, rfl⟩
    | 1, _ => exact ⟨q2, p2, p3, rfl, u2, by omega, by omega, rfl⟩
    | 2, _ => exact ⟨q3, p1, p2, rfl, u3, by omega, by omega, rfl⟩
    | 3, _ => exact ⟨q4, p0, p1, rfl, u4, by omega, by omega, rfl⟩
    | 4, _ => exact ⟨q5, p3, _, rfl, u5, by omega, by omega, rfl⟩
   obtain ⟨q, x, y, e1, e2, hxy, hy, e3⟩ := key i hi
   rw [e1]
   refine ⟨q, _, rfl, SqT.of (hs _ _ e2), rfl, _, _, rfl, _, _, rfl, rfl, _, rfl, _, rfl, _, rfl, _, rfl, z, L, x, y, rfl, hF, hz, hxy, hy, kq _ _ (Same.refl _) (by rw [e3])⟩
  ·intro D1 vs1 H7 hl1 hr1 hs7 hD1 hDl1
   have e1 := vs_range (f := fun i => V.str (tx ([stt z L 0 p0, stt z L p2 p3, stt z L p1 p2, stt z L p0 p1, stt z L p3 (z.length - L + 1)].getD i []))) hl1 hr1
   have e2 : vs1 = (([stt z L 0 p0, stt z L p2 p3, stt z L p1 p2, stt z L p0 p1, stt z L p3 (z.length - L + 1)]).map tx).map V.str := by rw [e1]; rfl
   rw [e2] at hDl1
   have b1 := seg_le z (0 + L - 1) (p0 + L - 1)
   have b2 := seg_le z (p2 + L - 1) (p3 + L - 1)
   have b3 := seg_le z (p1 + L - 1) (p2 + L - 1)
   have b4 := seg_le z (p0 + L - 1) (p1 + L - 1)
   have b5 := seg_le z (p3 + L - 1) (z.length - L + 1 + L - 1)
   refine ⟨"", D1, _, rfl, rfl, SqL.of hDl1, ?_, ?_⟩
   ·simp only [List.map_cons, List.map_nil, List.sum_cons, List.sum_nil, tx_len, stt]
    have e0 : ("" : Str).length = 0 := rfl
    rw [e0, Nat.mul_zero]
    omega
   rw [join_flat]
   have hsw := swap_len hF h01 h12 h23 h3
   have ef : pt z L 0 ++ ([stt z L 0 p0, stt z L p2 p3, stt z L p1 p2, stt z L p0 p1, stt z L p3 (z.length - L + 1)]).flatten = swapF z L p0 p1 p2 p3 := by
    unfold swapF
    simp
   refine ⟨_, _, rfl, rfl, ?_, ?_⟩
   ·rw [tx_len, tx_len]
    have := congrArg List.length ef
    rw [List.length_append, hsw] at this
    exact few_size (by omega)
   rw [tx_app, ef]
   exact k _ (sF.trans hs7)
abbrev sTurned : Stmt := top 26
abbrev nTurned : List Str := ["T", "long", "place", "behind"]
theorem scTurned : FnScope nTurned ["T", "long", "place"] (defScope sTurned) := ⟨rfl, rfl, rfl, by decide +kernel, rfl, by decide +kernel, by decide +kernel⟩
def spTurned : Sp := fun vs H Q _ => ∃ (z : List Nat) (L p : Nat), vs = [.str (tx z), .int L, .int p] ∧ Fit z L ∧ z.length ≤ 1000 ∧ p ≤ z.length - L + 1 ∧ Q (.str (tx (turnF z L p))) H
theorem ok_turned (D : HasDef K mg "turned" sTurned ["T", "long", "place"]) (B : Blt mg) (g22_ : FOk P w K mg base 1 "last_place" ["T", "long"] spLast) (g25_ : FOk P w K mg base 1 "point_at" ["T", "long", "place"] spPoint) (g27_ : FOk P w K mg base 1 "stretch_between" ["T", "long", "here", "there"] spStretch) : FOk P w K mg base 2 "turned" ["T", "long", "place"] spTurned := by
 refine D.ok scTurned (fun vs H Q E h => ?_) (fun f cdv A outer s H vs Q E hr h => ?_)
 ·obtain ⟨z, L, p, rfl, _⟩ := h
  rfl
 ·obtain ⟨z, L, p, rfl, hF, hz, hp, k⟩ := h
  refine ⟨_, (pss_cons (ps_set (i := 3) scTurned.nd rfl (Or.inl rfl) (pe_fn g27_ hr (pa_cons (pv 0) (pa_cons (pv 1) (pa_cons (pv 2) (pa_cons (pe_fn g22_ hr (pa_cons (pv 0) (pa_cons (pv 1) pa_nil))) pa_nil))))))
   (pss_one (ps_ret (pe_op op_add_str (pe_op op_add_str (pe_fn g25_ hr (pa_cons (pv 0) (pa_cons (pv 1) (pa_cons (pv 2) pa_nil)))) (pv 3)) (pe_fn g27_ hr (pa_cons (pv 0) (pa_cons (pv 1) (pa_cons pe_int (pa_cons (pv 2) pa_nil))))))))), ?_⟩
  have hl := turn_len hF hp
  unfold turnF at hl k
  rw [List.length_append, List.length_append] at hl
  refine ⟨_, rfl, _, rfl, _, rfl, _, rfl, _, rfl, z, L, rfl, hF, hz, z, L, p, z.length - L + 1, rfl, hF, hz, hp, by omega, ?_⟩
  refine ⟨_, rfl, _, rfl, _, rfl, z, L, p, rfl, hF, hz, hp, _, rfl, _, _, rfl, rfl, ?_, _, rfl, _, rfl, _, rfl, z, L, 0, p, rfl, hF, hz, by omega, hp, _, _, rfl, rfl, ?_, ?_⟩
  ·rw [tx_len, tx_len]; exact few_size (by omega)
  ·rw [tx_app, tx_len, tx_len, List.length_append]; exact few_size (by omega)
  ·rw [tx_app, tx_app]
   exact k
end
end Sh
namespace L2
theorem seq_cut {c : TT} {t1 t2 u : TS} {D : Ends} {σ : L2.St} {H : Hp} (I : L2.St → Hp → Prop) (h : ∀ R : L2.St → Hp → Prop, (∀ σ' H', I σ' H' → R σ' H') → tIfS c t1 t2 { D with nx := R } σ H) (hu : ∀ σ' H', I σ' H' → u D σ' H') : tSeq (tIfS c t1 t2) u D σ H := h _ hu
end L2
namespace Sh
open PySem L2 PyProof.Rows
seal L2.PE L2.PS L2.PSs L2.PT L2.PW L2.PA L2.PI L2.PG L2.PGs L2.PO L2.PC L2.PCs L2.OpR L2.UnR L2.CallR L2.MtR L2.IxR L2.SlR
def intOf : V → Int
 | .int i => i
 | _ => 0
def nsOf (o : Option (List V)) : List Int := ((o.getD []).drop 1).map intOf
def doneO (z : List Nat) (L : Nat) (o : Option (List V)) : Option (List Nat) :=
 if deedO "swap" 4 o = true ∧ fitsB z L (nsOf o) = true then some (swapF z L (nAt (nsOf o) 0) (nAt (nsOf o) 1) (nAt (nsOf o) 2) (nAt (nsOf o) 3))
 else if deedO "turn" 1 o = true ∧ ascB (boundL z L (nsOf o)) = true ∧ pt z L 0 = pt z L (z.length - L + 1) then some (turnF z L (nAt (nsOf o) 0)) else none
theorem ints_form : ∀ ys : List V, ys.all isIntV = true → ys = (ys.map intOf).map V.int
 | [], _ => rfl
 | y :: ys, h => by
  rw [List.all_cons, Bool.and_eq_true] at h
  rw [List.map_cons, List.map_cons, ← ints_form ys h.2]
  congr 1
  cases y with
  | int i => rfl
  | _ => simp [isIntV] at h
theorem deed_form {word : Str} {many : Nat} {o : Option (List V)} (h : deedO word many o = true) : o = some (.str word :: (nsOf o).map V.int) ∧ (nsOf o).length = many := by
 cases o with
 | none => simp [deedO] at h
 | some xs =>
  have h' : deedL word many xs = true := h
  unfold deedL at h'
  rw [Bool.and_eq_true, Bool.and_eq_true, decide_eq_true_eq, decide_eq_true_eq] at h'
  obtain ⟨⟨h1, h2⟩, h3⟩ := h'
  cases xs with
  | nil => simp at h1
  | cons y ys =>
   have h2' : y = .str word := h2
   subst h2'
   have h3' : ys.all isIntV = true := h3
   refine ⟨?_, ?_⟩
   ·show some (V.str word :: ys) = some (V.str word :: (ys.map intOf).map V.int)
    rw [← ints_form ys h3']
   ·show (ys.map intOf).length = many
    rw [List.length_map]
    simpa using h1
section
variable {P : Program} {w : World} {K : PySem.W.Frag} {mg : Str → Option Value} {base : Heap}
abbrev sDeedDone : Stmt := top 27
abbrev nDeedDone : List Str := ["T", "long", "deed"]
theorem scDeedDone : FnScope nDeedDone ["T", "long", "deed"] (defScope sDeedDone) := ⟨rfl, rfl, rfl, by decide +kernel, rfl, by decide +kernel, by decide +kernel⟩
def spDone (C : Addr) : Sp := fun vs H Q E => ∃ (z : List Nat) (L : Nat) (x : V) (o : Option (List V)), vs = [.str (tx z), .int L, x] ∧ Fit z L ∧ z.length ≤ 1000 ∧ DeedV H x o ∧ (∀ r, doneO z L o = some r → ∀ H', Same H H' → Q (.str (tx r)) H') ∧ (doneO z L o = none → ∀ H', Same H H' → E (.ref C) none H')
theorem cut_deed {word : Str} {ys : List V} : cutV (V.str word :: ys) (some 1) none = ys := cut_from (i := 1) (xs := V.str word :: ys) (by simp)
theorem cut_deed_no {word : Str} {ys : List V} : ¬ (HT.sIx (V.str word :: ys).length 0 (some 1) = 0 ∧ HT.sIx (V.str word :: ys).length (V.str word :: ys).length none = (V.str word :: ys).length) := by
 rintro ⟨q, _⟩
 have e1 : HT.sIx (V.str word :: ys).length 0 (some ((1 : Nat) : Int)) = 1 := sIx_to (by simp)
 exact absurd (e1.symm.trans q) (by decide)
theorem ok_deed_done {C : Addr} {bm : List Value} (D : HasDef K mg "deed_done" sDeedDone ["T", "long", "deed"]) (B : Blt mg) (c : XCls K mg "NoDeed" C bm) (g20_ : FOk P w K mg base 3 "is_deed" ["thing", "word", "many"] spIsDeed) (g28_ : FOk P w K mg base 3 "swap_fits" ["T", "long", "places"] spFits) (g30_ : FOk P w K mg base 3 "swapped" ["T", "long", "places"] spSwapped)
  (g14_ : FOk P w K mg base 3 "are_places" ["T", "long", "numbers"] spPlaces) (g19_ : FOk P w K mg base 3 "is_closed" ["T", "long"] spClosed) (g31_ : FOk P w K mg base 3 "turned" ["T", "long", "place"] spTurned) : FOkX P w K mg base 4 "deed_done" ["T", "long", "deed"] (spDone C) := by
 refine D.okX scDeedDone (fun vs H Q E h => ?_) (fun f cdv A outer s vs H Q E L hr h => ?_)
 ·obtain ⟨z, L, x, o, rfl, _⟩ := h
  rfl
 ·obtain ⟨z, L0, x, o, rfl, hF, hz, hD, kQ, kE⟩ := h
  refine ⟨_, (pss_cons (ps_if (PW.pt (pw_and (pt_val (pe_fn g20_ hr (pa_cons (pv 2) (pa_cons pe_str (pa_cons pe_int pa_nil))))) (pw_and1 (pt_val (pe_fn g28_ hr (pa_cons (pv 0) (pa_cons (pv 1) (pa_cons (pe_slice sl_tup (pv 2) (po_some pe_int) po_none) pa_nil)))))))) (pss_one (ps_ret (pe_fn g30_ hr (pa_cons (pv 0) (pa_cons (pv 1) (pa_cons (pe_slice sl_tup (pv 2) (po_some pe_int) po_none) pa_nil)))))) pss_nil)
   (pss_cons (ps_if (PW.pt (pw_and (pt_val (pe_fn g20_ hr (pa_cons (pv 2) (pa_cons pe_str (pa_cons pe_int pa_nil))))) (pw_and (pt_val (pe_fn g14_ hr (pa_cons (pv 0) (pa_cons (pv 1) (pa_cons (pe_slice sl_tup (pv 2) (po_some pe_int) po_none) pa_nil))))) (pw_and1 (pt_val (pe_fn g19_ hr (pa_cons (pv 0) (pa_cons (pv 1) pa_nil)))))))) (pss_one (ps_ret (pe_fn g31_ hr (pa_cons (pv 0) (pa_cons (pv 1) (pa_cons (pe_ix ix_tup (pv 2) pe_int (fun _ _ => rfl)) pa_nil)))))) pss_nil)
   (pss_one (ps_raise L c rfl (pa_cons pe_str pa_nil))))), ?_⟩
  have hone := hF.one
  show tSeq (tIfS _ _ _) _ _ _ _
  refine seq_cut (fun σ H' => σ = [some (.str (tx z)), some (.int L0), some x] ∧ Same H H' ∧ ¬ (deedO "swap" 4 o = true ∧ fitsB z L0 (nsOf o) = true)) (fun R hR => ?_) ?_
  ·refine ⟨_, rfl, x, o, "swap", 4, rfl, hD, by decide, by decide, fun H1 s1 => ⟨_, rfl, ?_⟩⟩
   by_cases hd : deedO "swap" 4 o = true
   ·refine iteP hd ?_
    obtain ⟨e1, e2⟩ := deed_form hd
    cases hD with
    | no => cases e1
    | @tup a xs e ht =>
     have ex : xs = V.str "swap" :: (nsOf (some xs)).map V.int := Option.some.inj e1
     generalize hns : nsOf (some xs) = ns at *
     subst ex
     refine ⟨_, rfl, _, rfl, _, rfl, _, rfl, a, _, rfl, SqT.of (s1 _ _ e), cut_deed_no, fun p hp => ?_⟩
     rw [cut_deed]
     have s2 := same_upd_new (o := .tup (ns.map V.int)) hp
     refine ⟨z, L0, p, ns, rfl, hF, hz, upd_same, e2, fun H2 s3 => ⟨_, rfl, ?_⟩⟩
     have s13 := (s1.trans s2).trans s3
     by_cases hf : fitsB z L0 ns = true
     ·refine iteP hf ?_
      have hf' := hf
      unfold fitsB at hf'
      rw [Bool.and_eq_true] at hf'
      obtain ⟨p0, p1, p2, p3, rfl, h01, h12, h23, h3⟩ := asc4 e2 hf'.1
      refine ⟨_, rfl, _, rfl, _, rfl, _, rfl, a, _, rfl, SqT.of (s13 _ _ e), cut_deed_no, fun p' hp' => ?_⟩
      rw [cut_deed]
      have s4 := same_upd_new (o := .tup ([(p0 : Int), p1, p2, p3].map V.int)) hp'
      refine ⟨z, L0, p', p0, p1, p2, p3, rfl, hF, hz, upd_same, h01, h12, h23, h3, fun H3 s5 => ?_⟩
      refine kQ _ ?_ H3 ((s13.trans s4).trans s5)
      unfold doneO
      rw [hns, if_pos ⟨hd, hf⟩]
      rfl
     ·refine iteM (Bool.eq_false_iff.mpr hf) ?_
      exact hR _ _ ⟨rfl, s13, fun q => hf q.2⟩
   ·refine iteM (Bool.eq_false_iff.mpr hd) (iteF ?_)
    exact hR _ _ ⟨rfl, s1, fun q => hd q.1⟩
  rintro σ H1 ⟨rfl, s1, hno⟩
  show tSeq (tIfS _ _ _) _ _ _ _
  refine seq_cut (fun σ H' => Same H H' ∧ doneO z L0 o = none) (fun R hR => ?_) ?_
  ·refine ⟨_, rfl, x, o, "turn", 1, rfl, hD.same s1, by decide, by decide, fun H2 s2 => ⟨_, rfl, ?_⟩⟩
   have s12 := s1.trans s2
   by_cases hd : deedO "turn" 1 o = true
   ·refine iteP hd ?_
    obtain ⟨e1, e2⟩ := deed_form hd
    cases hD with
    | no => cases e1
    | @tup a xs e ht =>
     have ex : xs = V.str "turn" :: (nsOf (some xs)).map V.int := Option.some.inj e1
     generalize hns : nsOf (some xs) = ns at *
     subst ex
     refine ⟨_, rfl, _, rfl, _, rfl, _, rfl, a, _, rfl, SqT.of (s12 _ _ e), cut_deed_no, fun p hp => ?_⟩
     rw [cut_deed]
     have s3 := same_upd_new (o := .tup (ns.map V.int)) hp
     refine ⟨z, L0, p, ns, rfl, hF, hz, upd_same, by omega, fun H3 s4 => ⟨_, rfl, ?_⟩⟩
     have s14 := (s12.trans s3).trans s4
     by_cases ha : ascB (boundL z L0 ns) = true
     ·refine iteP ha ?_
      refine ⟨_, rfl, _, rfl, z, L0, rfl, hF, hz, _, rfl, ?_⟩
      by_cases hc : pt z L0 0 = pt z L0 (z.length - L0 + 1)
      ·refine iteP (decide_eq_true hc) ?_
       obtain ⟨p0, rfl, hp0⟩ := asc1 e2 ha
       refine ⟨_, rfl, _, rfl, _, rfl, a, _, 1, _, rfl, rfl, SqT.of (s14 _ _ e), item_at (by decide) rfl, z, L0, p0, rfl, hF, hz, hp0, ?_⟩
       refine kQ _ ?_ H3 s14
       unfold doneO
       rw [hns, if_neg hno, if_pos ⟨hd, ha, hc⟩]
       rfl
      ·refine iteM (decide_eq_false hc) ?_
       refine hR _ _ ⟨s14, ?_⟩
       unfold doneO
       rw [hns, if_neg hno, if_neg fun q => hc q.2.2]
     ·refine iteM (Bool.eq_false_iff.mpr ha) (iteF ?_)
      refine hR _ _ ⟨s14, ?_⟩
      unfold doneO
      rw [hns, if_neg hno, if_neg fun q => ha q.2.1]
   ·refine iteM (Bool.eq_false_iff.mpr hd) (iteF ?_)
    refine hR _ _ ⟨s12, ?_⟩
    unfold doneO
    rw [if_neg hno, if_neg fun q => hd q.1]
  rintro σ H2 ⟨s2, hn⟩
  exact ⟨one_size, kE hn H2 s2⟩
end
section
variable {P : Program} {w : World} {K : PySem.W.Frag} {mg : Str → Option Value} {base : Heap}
def ptsL (z : List Nat) (L : Nat) : List V := (List.range (z.length - L + 2)).map fun i => V.str (tx (pt z L i))
def spPts : Sp := fun vs H Q _ => ∃ (z : List Nat) (L : Nat), vs = [.str (tx z), .int L] ∧ Fit z L ∧ z.length ≤ 1000 ∧ ∀ p H', Same H H' → H' p = some (.lst (ptsL z L)) → Q (.ref p) H'
end
theorem done_cases {z : List Nat} {L : Nat} {o : Option (List V)} {r : List Nat} (h : doneO z L o = some r) :
  (∃ p0 p1 p2 p3 : Nat, o = some (.str "swap" :: [(p0 : Int), p1, p2, p3].map V.int) ∧ p0 ≤ p1 ∧ p1 ≤ p2 ∧ p2 ≤ p3 ∧ p3 ≤ z.length - L + 1 ∧ pt z L p0 = pt z L p2 ∧ pt z L p1 = pt z L p3 ∧ r = swapF z L p0 p1 p2 p3) ∨
   ∃ p : Nat, o = some (.str "turn" :: [(p : Int)].map V.int) ∧ p ≤ z.length - L + 1 ∧ pt z L 0 = pt z L (z.length - L + 1) ∧ r = turnF z L p := by
 unfold doneO at h
 split at h
 ·rename_i c
  obtain ⟨e1, e2⟩ := deed_form c.1
  have hf := c.2
  generalize nsOf o = ns at *
  unfold fitsB at hf
  rw [Bool.and_eq_true, Bool.and_eq_true, decide_eq_true_eq, decide_eq_true_eq] at hf
  obtain ⟨p0, p1, p2, p3, rfl, h01, h12, h23, h3⟩ := asc4 e2 hf.1
  exact .inl ⟨p0, p1, p2, p3, e1, h01, h12, h23, h3, hf.2.1, hf.2.2, (Option.some.inj h).symm⟩
 ·split at h
  ·rename_i c
   obtain ⟨e1, e2⟩ := deed_form c.1
   have ha := c.2
   generalize nsOf o = ns at *
   obtain ⟨p, rfl, hp⟩ := asc1 e2 ha.1
   exact .inr ⟨p, e1, hp, ha.2, (Option.some.inj h).symm⟩
  ·cases h
theorem take_pt {z : List Nat} {L : Nat} (h : Fit z L) : z.take (L - 1) = pt z L 0 := by
 unfold pt seg
 simp
theorem done_turn {z : List Nat} {L : Nat} {p : Int} : (doneO z L (some (.str "turn" :: [p].map V.int))).isSome = (ascB (boundL z L [p]) && decide (pt z L 0 = pt z L (z.length - L + 1))) := by
 have h1 : deedO "swap" 4 (some (.str "turn" :: [p].map V.int)) = false := by simp [deedO, deedL]
 have h2 : deedO "turn" 1 (some (.str "turn" :: [p].map V.int)) = true := by simp [deedO, deedL, isIntV]
 have h3 : nsOf (some (.str "turn" :: [p].map V.int)) = [p] := by simp [nsOf, intOf]
 unfold doneO
 rw [h1, h2, h3, if_neg (by simp)]
 cases ascB (boundL z L [p]) <;> by_cases c : pt z L 0 = pt z L (z.length - L + 1) <;> simp [c]
theorem done_swap {z : List Nat} {L : Nat} {a b c d : Int} : (doneO z L (some (.str "swap" :: [a, b, c, d].map V.int))).isSome = fitsB z L [a, b, c, d] := by
 have h1 : deedO "swap" 4 (some (.str "swap" :: [a, b, c, d].map V.int)) = true := by simp [deedO, deedL, isIntV]
 have h2 : deedO "turn" 1 (some (.str "swap" :: [a, b, c, d].map V.int)) = false := by simp [deedO, deedL]
 have h3 : nsOf (some (.str "swap" :: [a, b, c, d].map V.int)) = [a, b, c, d] := by simp [nsOf, intOf]
 unfold doneO
 rw [h1, h2, h3]
 cases fitsB z L [a, b, c, d] <;> simp
def lastOf (f : Nat → Str) : Nat → Str → Option Nat
 | 0, _ => none
 | i + 1, s => if f i = s then some i else lastOf f i s
theorem lastOf_some {f : Nat → Str} : ∀ {n : Nat} {s : Str} {j : Nat}, lastOf f n s = some j → j < n ∧ f j = s ∧ ∀ k, k < n → f k = s → k ≤ j
 | 0, _, _, h => by cases h
 | n + 1, s, j, h => by
  unfold lastOf at h
  split at h
  ·rename_i e
   cases h
   exact ⟨by omega, e, fun k hk _ => by omega⟩
  ·rename_i e
   obtain ⟨h1, h2, h3⟩ := lastOf_some h
   refine ⟨by omega, h2, fun k hk ek => ?_⟩
   by_cases c : k = n
   ·subst c
    exact (e ek).elim
   ·exact h3 k (by omega) ek
theorem lastOf_is {f : Nat → Str} {s : Str} : ∀ {n i : Nat}, i < n → f i = s → ∃ j, lastOf f n s = some j
 | 0, i, h, _ => by omega
 | n + 1, i, h, e => by
  unfold lastOf
  by_cases c : f n = s
  ·exact ⟨n, if_pos c⟩
  ·rw [if_neg c]
   refine lastOf_is (i := i) ?_ e
   by_cases d : i = n
   ·subst d
    exact (c e).elim
   ·omega
section
variable {P : Program} {w : World} {K : PySem.W.Frag} {mg : Str → Option Value} {base : Heap}
abbrev sPointsAlong : Stmt := top 19
abbrev nPointsAlong : List Str := ["T", "long"]
theorem scPointsAlong : FnScope nPointsAlong ["T", "long"] (defScope sPointsAlong) := ⟨rfl, rfl, rfl, by decide +kernel, rfl, by decide +kernel, by decide +kernel⟩
theorem ok_points_along (D : HasDef K mg "points_along" sPointsAlong ["T", "long"]) (B : Blt mg) (g22_ : FOk P w K mg base 1 "last_place" ["T", "long"] spLast) (g25_ : FOk P w K mg base 1 "point_at" ["T", "long", "place"] spPoint) : FOk P w K mg base 2 "points_along" ["T", "long"] spPts := by
 refine D.ok scPointsAlong (fun vs H Q E h => ?_) (fun f cdv A outer s H vs Q E hr h => ?_)
 ·obtain ⟨z, L, rfl, _⟩ := h
  rfl
 ·obtain ⟨z, L, rfl, hF, hz, k⟩ := h
  refine ⟨_, (pss_one (ps_ret (pe_lcomp (defScope sPointsAlong) nPointsAlong ["place"] [0, 1] rfl (pi_range1 rfl B.range (pa_cons (pe_op op_add (pe_fn g22_ hr (pa_cons (pv 0) (pa_cons (pv 1) pa_nil))) pe_int) pa_nil)) (fun _ _ _ _ _ => pg_lc 0) (fun _ _ _ _ _ => pcs_nil) (fun _ _ _ _ _ => (pe_fn g25_ hr (pa_cons (pv 1) (pa_cons (pv 2) (pa_cons (pv 0) pa_nil)))))))), ?_⟩
  have o := hF.one
  have l := hF.le
  refine ⟨_, rfl, _, rfl, z, L, rfl, hF, hz, _, _, rfl, rfl, _, rfl, by omega, by omega, ?_⟩
  have en : (((z.length - L + 1 : Nat) : Int) + 1).toNat = z.length - L + 2 := by omega
  rw [en]
  refine lc_map (z.length - L + 2) (fun i => .int (0 + (i : Int))) (fun i v _ => v = .str (tx (pt z L i))) (size_small (by omega)) (fun _ _ _ _ _ r => r) jt_range ?_ ?_
  ·intro i H3 Qe hi hs kq
   refine ⟨_, rfl, _, rfl, _, rfl, z, L, i, ?_, hF, hz, by omega, kq _ _ (Same.refl _) rfl⟩
   rw [Int.zero_add]
   rfl
  ·intro D1 vs1 H3 hl1 hr1 hs3 hD1 hDl1
   refine k D1 H3 hs3 ?_
   rw [hDl1, vs_range hl1 hr1]
   rfl
end
section
variable {P : Program} {w : World} {K : PySem.W.Frag} {mg : Str → Option Value} {base : Heap}
end
abbrev Pr := Str × Int
def PairAt (H : Hp) (v : V) (p : Pr) : Prop := ∃ b, v = .ref b ∧ H b = some (.tup [.str p.1, .int p.2])
def HpAt (H : Hp) (v : V) (hp : List Pr) : Prop := ∃ a xs, v = .ref a ∧ H a = some (.tup xs) ∧ xs.length = hp.length ∧ ∀ i p, hp[i]? = some p → PairAt H (xs.getD i .non) p
theorem PairAt.same {H H' : Hp} (s : TSame H H') {v : V} {p : Pr} (h : PairAt H v p) : PairAt H' v p := by
 obtain ⟨b, e, q⟩ := h
 exact ⟨b, e, s _ _ q⟩
theorem HpAt.same {H H' : Hp} (s : TSame H H') {v : V} {hp : List Pr} (h : HpAt H v hp) : HpAt H' v hp := by
 obtain ⟨a, xs, e, q, l, r⟩ := h
 exact ⟨a, xs, e, s _ _ q, l, fun i p z => (r i p z).same s⟩
section
variable {P : Program} {w : World} {K : PySem.W.Frag} {mg : Str → Option Value} {base : Heap}
end
section
variable {P : Program} {w : World} {K : PySem.W.Frag} {mg : Str → Option Value} {base : Heap}
end
section
variable {P : Program} {w : World} {K : PySem.W.Frag} {mg : Str → Option Value} {base : Heap}
def pairD (p : Pr) : PyData := .tuple [.str p.1, .int p.2]
def heapD (hp : List Pr) : PyData := .tuple (hp.map pairD)
theorem rep_pairs {H : Hp} : ∀ (hp : List Pr) (xs : List V), xs.length = hp.length → (∀ i p, hp[i]? = some p → PairAt H (xs.getD i .non) p) → RepA H (hp.map pairD) xs
 | [], xs, hl, _ => by
  rw [List.map_nil, RepA]
  exact List.length_eq_zero_iff.mp hl
 | p :: hp, [], hl, _ => by cases hl
 | p :: hp, x :: xs, hl, h => by
  rw [List.map_cons, RepA]
  obtain ⟨b, eb, hb⟩ := h 0 p rfl
  refine ⟨x, xs, rfl, ?_, rep_pairs hp xs (by simpa using hl) fun i q e => h (i + 1) q e⟩
  unfold pairD
  rw [RepD]
  refine ⟨b, _, eb, hb, ?_⟩
  rw [RepA]
  refine ⟨_, _, rfl, by rw [RepD], ?_⟩
  rw [RepA]
  exact ⟨_, _, rfl, by rw [RepD], by rw [RepA]⟩
theorem rep_heap {H : Hp} {v : V} {hp : List Pr} (h : HpAt H v hp) : RepD H (heapD hp) v := by
 obtain ⟨a, xs, e, ha, hl, r⟩ := h
 unfold heapD
 rw [RepD]
 exact ⟨a, xs, e, ha, rep_pairs hp xs hl r⟩
end
end Sh
namespace Sh
open PySem L2 PyProof.Rows
end Sh
namespace Sh
open PySem L2 PyProof.Rows
seal L2.PE L2.PS L2.PSs L2.PT L2.PW L2.PA L2.PI L2.PG L2.PGs L2.PO L2.PC L2.PCs L2.OpR L2.UnR L2.CallR L2.MtR L2.IxR L2.SlR
section
variable {hp : List Pr} {L : Nat}
end
section
variable {P : Program} {w : World} {K : PySem.W.Frag} {mg : Str → Option Value} {base : Heap}
end
def cD (ks ps : List Str) : List (Key × V) := ks.map fun x => ((Sum.inr x : Key), V.int (ps.count x))
structure Cnt (ks ps : List Str) : Prop where
 nd : ks.Nodup
 mem : ∀ x, x ∈ ks ↔ x ∈ ps
theorem cnt_step {ks ps : List Str} (h : Cnt ks ps) (y : Str) : ∃ ks', Cnt ks' (ps ++ [y]) ∧ putK (cD ks ps) (Sum.inr y) (.int ((ps.count y : Int) + 1)) = cD ks' (ps ++ [y]) ∧ ks'.length ≤ ks.length + 1 := by
 have hc : ∀ x, (ps ++ [y]).count x = ps.count x + if y = x then 1 else 0 := fun x => by
  rw [List.count_append, List.count_singleton]
  simp [beq_iff_eq]
 by_cases m : y ∈ ks
 ·refine ⟨ks, ⟨h.nd, fun x => ?_⟩, ?_, Nat.le_succ _⟩
  ·rw [h.mem x, List.mem_append, List.mem_singleton]
   exact ⟨.inl, fun q => q.elim id fun e => by rw [e]; exact (h.mem y).mp m⟩
  ·unfold cD
   rw [put_ks_old _ _ _ _ m]
   apply List.map_congr_left
   intro x _
   rw [hc x]
   by_cases e : x = y
   ·subst e
    simp
   ·have e' : ¬ y = x := fun q => e q.symm
    simp [e, e']
 ·have hn : y ∉ ps := fun q => m ((h.mem y).mpr q)
  refine ⟨ks ++ [y], ⟨nd_snoc h.nd m, fun x => ?_⟩, ?_, by rw [List.length_append]; exact Nat.le_refl _⟩
  ·rw [List.mem_append, List.mem_append, h.mem x]
  ·unfold cD
   rw [putK_new _ (by rw [valV_ks, if_neg m]), List.map_append]
   congr 1
   ·apply List.map_congr_left
    intro x hx
    rw [hc x]
    have e' : ¬ y = x := fun q => m (q ▸ hx)
    simp [e']
   ·rw [List.map_singleton, hc y]
    simp
structure HeapOf (ps : List Str) (hp : List Pr) : Prop where
 srt : (hp.map fun p => p.1.cps.toList).Pairwise (· < ·)
 mem : ∀ x, x ∈ hp.map (·.1) ↔ x ∈ ps
 cnt : ∀ p ∈ hp, p.2 = ps.count p.1
section
variable {P : Program} {w : World} {K : PySem.W.Frag} {mg : Str → Option Value} {base : Heap}
def spHeap (K : PySem.W.Frag) : Sp := fun vs H Q _ => ∃ (a : Addr) (ps : List Str), vs = [.ref a] ∧ SqL K H a (ps.map V.str) ∧ ps.length ≤ 1000 ∧ ∀ v H' hp, Same H H' → HpAt H' v hp → HeapOf ps hp → Q v H'
end
end Sh
namespace Sh
open PySem L2 PyProof.Rows
def pcs (T : List Nat) (L : Nat) : List Str := (List.range (T.length - L + 1)).map fun i => tx ((T.drop i).take L)
end Sh
namespace Sh
open PySem L2 PyProof.Rows
seal L2.PE L2.PS L2.PSs L2.PT L2.PW L2.PA L2.PI L2.PG L2.PGs L2.PO L2.PC L2.PCs L2.OpR L2.UnR L2.CallR L2.MtR L2.IxR L2.SlR
abbrev sInRows : Stmt := top 13
abbrev sCounted : Stmt := top 14
abbrev sPiecesOf : Stmt := top 15
section
variable {P : Program} {w : World} {K : PySem.W.Frag} {mg : Str → Option Value} {base : Heap}
abbrev nInRows : List Str := ["manys"]
theorem scInRows : FnScope nInRows ["manys"] (defScope sInRows) := ⟨rfl, rfl, rfl, by decide +kernel, rfl, by decide +kernel, by decide +kernel⟩
def spRows : Sp := fun vs H Q _ => ∃ (d : Addr) (ks : List Str) (g : Str → Int), vs = [.ref d] ∧ H d = some (.dK (ks.map fun x => ((Sum.inr x : Key), V.int (g x)))) ∧ ks.Nodup ∧ ks.length ≤ 1000 ∧
 ∀ v H' (ss : List Str), Same H H' → ss.Perm ks → (ss.map fun x => x.cps.toList).Pairwise (· < ·) → HpAt H' v (ss.map fun x => (x, g x)) → Q v H'
theorem ok_in_rows (D : HasDef K mg "in_rows" sInRows ["manys"]) (B : Blt mg) : FOk P w K mg base 1 "in_rows" ["manys"] spRows := by
 refine D.ok scInRows (fun vs H Q E h => ?_) (fun f cdv A outer s H vs Q E hr h => ?_)
 ·obtain ⟨d, ks, g, rfl, _⟩ := h
  rfl
 ·obtain ⟨d, ks, g, rfl, hd, nd, h64, k⟩ := h
  refine ⟨_, (pss_one (ps_ret (pe_callTy call_tuple_of rfl B.tuple b_tuple (pa_cons (pe_callB (call_sortedI2 rfl) rfl B.sorted b_sorted (pa_cons (pe_items (pv 0)) pa_nil)) pa_nil)))), ?_⟩
  refine ⟨_, rfl, d, _, rfl, hd, fun p hp => ⟨p, d, ks, fun x => .int (g x), rfl, upd_same, same_upd_new hp _ _ hd, nd, h64, fun D1 H1 vs ss hs1 hperm hsrt hD1 hl hv => ?_⟩⟩
  refine ⟨D1, vs, rfl, .inl ⟨SqL.of hD1, fun l hl0 => ?_⟩⟩
  refine k _ _ ss (((same_upd_new hp).trans hs1).trans (same_upd_new hl0)) hperm hsrt ⟨l, vs, rfl, upd_same, by rw [List.length_map]; exact hl, fun i q e => ?_⟩
  rw [List.getElem?_map] at e
  cases ex : ss[i]? with
  | none => rw [ex] at e; cases e
  | some x =>
   rw [ex] at e
   cases e
   obtain ⟨b, e1, e2⟩ := hv i x ex
   rw [List.getD_eq_getElem?_getD, e1]
   exact ⟨b, rfl, same_upd_new hl0 _ _ e2⟩
abbrev nCounted : List Str := ["pieces", "manys", "piece"]
theorem scCounted : FnScope nCounted ["pieces"] (defScope sCounted) := ⟨rfl, rfl, rfl, by decide +kernel, rfl, by decide +kernel, by decide +kernel⟩
theorem ok_counted (D : HasDef K mg "counted" sCounted ["pieces"]) (B : Blt mg) (G1 : FOk P w K mg base 1 "in_rows" ["manys"] spRows) : FOk P w K mg base 2 "counted" ["pieces"] (spHeap K) := by
 refine D.ok scCounted (fun vs H Q E h => ?_) (fun f cdv A outer s H vs Q E hr h => ?_)
 ·obtain ⟨a, ps, rfl, _⟩ := h
  rfl
 ·obtain ⟨a, ps, rfl, ha, hl, k⟩ := h
  have hu := hu_of hr
  refine ⟨_, (pss_cons (ps_set (i := 1) scCounted.nd rfl (Or.inl rfl) pe_dnewK)
   (pss_cons (ps_for PassesOwn.never rfl (pi_list (pv 0)) (pg_name (i := 2) scCounted.nd rfl (Or.inl rfl))
    (pss_one (ps_dput hu (pv 1) (pv 2) (pe_op op_add (pe_dget2 hu (pv 1) (pv 2) pe_int ⟨rfl, rfl, rfl, rfl⟩) pe_int) rfl)))
   (pss_one (ps_ret (pe_fn G1 hr (pa_cons (pv 1) pa_nil)))))), ?_⟩
  intro d hd
  have hs0 : Same H (upd H d (.dK [])) := same_upd_new hd
  refine ⟨_, rfl, a, rfl, ⟨_, hs0.seq ha⟩, for_list (K := K) (a := a) (xs := ps.map V.str) (fun i σ H2 => (∃ z : Option V, σ = [some (.ref a), some (.ref d), z]) ∧ Same H H2 ∧ ∃ ks, Cnt ks (ps.take i) ∧ ks.length ≤ i ∧ H2 d = some (.dK (cD ks (ps.take i))))
   ⟨⟨none, rfl⟩, hs0, [], ⟨List.nodup_nil, fun x => Iff.rfl⟩, Nat.le_refl _, upd_same⟩ (fun i σ H2 _ ⟨_, s2, _⟩ => s2.seq ha) ?_ ?_⟩
  ·rintro i x σ H2 hi ⟨⟨z, rfl⟩, s2, ks, hk, hkl, hdd⟩
   have hi' : i < ps.length := by
    have := (List.getElem?_eq_some_iff.mp hi).1
    rw [List.length_map] at this
    exact this
   rw [List.getElem?_map, List.getElem?_eq_getElem hi'] at hi
   have ex : x = V.str ps[i] := (Option.some.inj hi).symm
   subst ex
   have hg : (valV (cD ks (ps.take i)) (Sum.inr ps[i] : Key)).getD (.int 0) = .int ((ps.take i).count ps[i]) := by
    unfold cD
    rw [valV_ks]
    split
    ·rfl
    ·rename_i m
     have : ps[i] ∉ ps.take i := fun q => m ((hk.mem _).mpr q)
     rw [List.count_eq_zero_of_not_mem this]
     rfl
   obtain ⟨ks', hk', ep, hl'⟩ := cnt_step hk ps[i]
   rw [← List.take_succ_eq_append_getElem hi'] at hk' ep
   refine ⟨_, rfl, d, rfl, .inl ⟨_, .inl hdd⟩, _, rfl, _, DGet.k (k := Sum.inr ps[i]) hdd, _, _, hg, rfl, _, rfl, _, rfl, d, _, rfl, DPut.k (k := Sum.inr ps[i]) hdd ?_, ?_⟩
   ·unfold cD
    rw [List.length_map]
    exact small1000 (by omega)
   ·refine ⟨⟨_, rfl⟩, fun b o e => ?_, ks', hk', by omega, ?_⟩
    ·rw [upd_ne (ne_of_none e hd)]
     exact s2 b o e
    ·rw [upd_same]
     exact congrArg (fun l => some (HO.dK l)) ep
  ·rintro σ H2 ⟨⟨z, rfl⟩, s2, ks, hk, hkl, hdd⟩
   rw [List.take_of_length_le (by rw [List.length_map]; exact Nat.le_refl _)] at hk hdd
   refine ⟨_, rfl, d, ks, fun x => (ps.count x : Int), rfl, hdd, hk.nd, by rw [List.length_map] at hkl; omega, fun v H3 ss hs3 hperm hsrt hA => ?_⟩
   refine k v H3 _ (s2.trans hs3) hA ⟨?_, ?_, ?_⟩
   ·rw [List.map_map]
    exact hsrt
   ·intro x
    rw [List.map_map]
    have : ss.map ((·.1) ∘ fun x => (x, (ps.count x : Int))) = ss := by
     conv => rhs; rw [← List.map_id ss]
     exact List.map_congr_left fun _ _ => rfl
    rw [this, hperm.mem_iff, hk.mem]
   ·intro p hp
    obtain ⟨x, _, rfl⟩ := List.mem_map.mp hp
    rfl
end
section
variable {P : Program} {w : World} {K : PySem.W.Frag} {mg : Str → Option Value} {base : Heap}
abbrev nPiecesOf : List Str := ["T", "long"]
theorem scPiecesOf : FnScope nPiecesOf ["T", "long"] (defScope sPiecesOf) := ⟨rfl, rfl, rfl, by decide +kernel, rfl, by decide +kernel, by decide +kernel⟩
def spPieces : Sp := fun vs H Q _ => ∃ (T : List Nat) (L : Nat), vs = [.str (tx T), .int L] ∧ 1 ≤ L ∧ L ≤ T.length ∧ T.length ≤ 1000 ∧ ∀ p H', Same H H' → H' p = some (.lst ((pcs T L).map V.str)) → Q (.ref p) H'
theorem ok_pieces_of (D : HasDef K mg "pieces_of" sPiecesOf ["T", "long"]) (B : Blt mg) : FOk P w K mg base 1 "pieces_of" ["T", "long"] spPieces := by
 refine D.ok scPiecesOf (fun vs H Q E h => ?_) (fun f cdv A outer s H vs Q E hr h => ?_)
 ·obtain ⟨T, L, rfl, _⟩ := h
  rfl
 ·obtain ⟨T, L0, rfl, hL1, hL2, hL3, k⟩ := h
  refine ⟨_, (pss_one (ps_ret (pe_lcomp (defScope sPiecesOf) nPiecesOf ["place"] [0, 1] rfl (pi_range1 rfl B.range (pa_cons (pe_op op_add (pe_op op_sub (pe_callB call_len rfl B.len b_len (pa_cons (pv 0) pa_nil)) (pv 1)) pe_int) pa_nil)) (fun _ _ _ _ _ => pg_lc 0) (fun _ _ _ _ _ => pcs_nil) (fun _ _ _ _ _ => (pe_slice sl_str (pv 1) (po_some (pv 0)) (po_some (pe_op op_add (pv 0) (pv 2)))))))), ?_⟩
  have hz' : (tx T).length ≤ sizeLine := by rw [tx_len]; exact size_small (by omega)
  have ej : ((T.length : Int) - (L0 : Int) + 1).toNat = T.length - L0 + 1 := by omega
  refine ⟨_, rfl, .str (tx T), T.length, rfl, ⟨hz', (tx_len T).symm⟩, _, rfl, _, _, rfl, rfl, _, _, rfl, rfl, _, rfl, by omega, by omega, ?_⟩
  rw [ej]
  refine lc_map (T.length - L0 + 1) (fun i => .int (0 + i)) (fun i v _ => v = .str (tx ((T.drop i).take L0))) (size_small (by omega)) (fun _ _ _ _ _ r => r) jt_range ?_ ?_
  ·intro i H3 Qe hi hs kq
   refine ⟨_, rfl, _, rfl, _, rfl, _, rfl, _, rfl, _, _, rfl, rfl, _, rfl, _, rfl, hz', kq _ _ (Same.refl _) ?_⟩
   refine congrArg V.str (codes_inj ?_)
   rw [slice_mid_codes (by omega) (by omega) (by rw [tx_len]; omega), tx_list, tx_list]
   congr 1
   ·omega
   ·congr 1
    omega
  intro D1 vs1 H3 hlv1 hr1 hs3 hD1 hDl1
  have e1 := vs_range (f := fun i => V.str (tx ((T.drop i).take L0))) hlv1 hr1
  refine k D1 H3 hs3 ?_
  rw [hDl1, e1]
  unfold pcs
  rw [List.map_map]
  rfl
end
section
variable {P : Program} {w : World} {K : PySem.W.Frag} {mg : Str → Option Value} {base : Heap}
end
section
variable {P : Program} {w : World} {K : PySem.W.Frag} {mg : Str → Option Value} {base : Heap} {S C A1 A2 A3 A4 A5 A6 A7 A8 : Addr}
def Cd (z : List Nat) : Prop := ∀ c ∈ z, c < 1000
end
theorem slice_take {z : List Nat} {n : Int} (h : 0 ≤ n) : Txt.slice (tx z) none (some n) = tx (z.take n.toNat) := by
 apply codes_inj
 rw [slice_to_codes h, tx_list, tx_list]
section
variable {P : Program} {w : World} {K : PySem.W.Frag} {mg : Str → Option Value} {base : Heap}
theorem ones_sum (cs : List Nat) (h : cs.length ≤ 1000) : (((cs.map fun c => tx [c]).map fun x => x.length).sum) + (cs.map fun c => tx [c]).length * ("" : Str).length ≤ 16777216 := by
 have e0 : ("" : Str).length = 0 := rfl
 have es : ((cs.map fun c => tx [c]).map fun x => x.length).sum ≤ (cs.map fun c => tx [c]).length * 1 := sum_len_le _ 1 fun y hy => by
  obtain ⟨c, _, rfl⟩ := List.mem_map.mp hy
  rw [tx_len]
  exact Nat.le_refl _
 rw [e0, Nat.mul_zero]
 rw [List.length_map] at es
 omega
end
def SB (D : Addr) (H H' : Hp) : Prop := ∀ b u, b ≠ D → H b = some u → H' b = some u
theorem SB.refl (D : Addr) (H : Hp) : SB D H H := fun _ _ _ e => e
theorem SB.trans {D : Addr} {H H1 H2 : Hp} (a : SB D H H1) (b : SB D H1 H2) : SB D H H2 := fun c u hc e => b c u hc (a c u hc e)
theorem sbOf {D : Addr} {H H' : Hp} (s : Same H H') : SB D H H' := fun b u _ e => s b u e
theorem SB.upd {D : Addr} {H : Hp} {o : HO} : SB D H (upd H D o) := fun b u hb e => by rw [upd_ne hb]; exact e
def DK (H : Hp) (D : Addr) (n : Nat) : Prop := ∃ ns : List Int, H D = some (.lst (ns.map V.int)) ∧ n ≤ ns.length ∧ ∀ x ∈ ns, 0 ≤ x ∧ x < 10 ^ 18
theorem DK.same {H H' : Hp} {D : Addr} {n : Nat} (h : DK H D n) (s : Same H H') : DK H' D n := by
 obtain ⟨ns, e, r⟩ := h
 exact ⟨ns, s _ _ e, r⟩
theorem DK.less {H : Hp} {D : Addr} {n m : Nat} (h : DK H D n) (hm : m ≤ n) : DK H D m := by
 obtain ⟨ns, e, r, t⟩ := h
 exact ⟨ns, e, by omega, t⟩
theorem DK.pop {H : Hp} {D : Addr} {n : Nat} (h : DK H D (n + 1)) : ∃ (ns : List Int) (c : Int), H D = some (.lst ((ns ++ [c]).map V.int)) ∧ 0 ≤ c ∧ c < 10 ^ 18 ∧ DK (upd H D (.lst (ns.map V.int))) D n := by
 obtain ⟨ns, e, l, b⟩ := h
 rcases List.eq_nil_or_concat ns with z | ⟨r, c, z⟩
 ·rw [z] at l
  simp at l
 ·rw [List.concat_eq_append] at z
  subst z
  have hc := b c (by simp)
  rw [List.length_append, List.length_singleton] at l
  exact ⟨r, c, e, hc.1, hc.2, r, upd_same, by omega, fun x hx => b x (List.mem_append_left _ hx)⟩
theorem last_int (ns : List Int) (c : Int) : ((ns ++ [c]).map V.int)[((ns ++ [c]).map V.int).length - 1]? = some (V.int c) := by
 rw [List.map_append, List.map_singleton]
 simp
theorem drop_int (ns : List Int) (c : Int) : ((ns ++ [c]).map V.int).dropLast = ns.map V.int := by
 rw [List.map_append, List.map_singleton, List.dropLast_concat]
theorem rep_ints {H : Hp} : ∀ ns : List Int, RepA H (ns.map PyData.int) (ns.map V.int)
 | [] => by rw [List.map_nil, RepA]; rfl
 | p :: ps => by
  rw [List.map_cons, RepA]
  exact ⟨.int p, ps.map V.int, rfl, by rw [RepD], rep_ints ps⟩
theorem rep_ilist {H : Hp} {a : Addr} {ns : List Int} (h : H a = some (.lst (ns.map V.int))) : RepD H (.list (ns.map PyData.int)) (.ref a) := by
 rw [RepD]
 exact ⟨a, _, rfl, h, rep_ints ns⟩
theorem lay_ints : ∀ ns : List Int, PyData.canLayAll0 (ns.map PyData.int) = true
 | [] => by simp [PyData.canLayAll0]
 | p :: ps => by
  rw [List.map_cons, PyData.canLayAll0, lay_ints ps]
  simp [PyData.canLay0]
theorem depth_ints : ∀ ns : List Int, PyData.depthAll (ns.map PyData.int) ≤ 1
 | [] => by simp [PyData.depthAll]
 | p :: ps => by
  rw [List.map_cons, PyData.depthAll]
  have := depth_ints ps
  simp [PyData.depth]
  exact this
theorem shaped_ints (ns : List Int) : SeqAt.shaped (.list (ns.map PyData.int)) = true := by
 unfold SeqAt.shaped
 rw [Bool.and_eq_true]
 constructor
 ·rw [PyData.canLay0]
  exact lay_ints ns
 ·refine decide_eq_true ?_
  have := depth_ints ns
  rw [PyData.depth]
  omega
theorem eqv_inil (ns : List Int) : PyData.eqv (.list (ns.map PyData.int)) (.list (([] : List Int).map PyData.int)) = ns.isEmpty := by
 cases ns with
 | nil => simp [PyData.eqv, PyData.eqvAll]
 | cons n r => simp [PyData.eqv, PyData.eqvAll]
theorem slice_drop {z : List Nat} {i : Int} (h0 : 0 ≤ i) (h1 : i ≤ z.length) : Txt.slice (tx z) (some i) none = tx (z.drop i.toNat) := by
 apply codes_inj
 rw [slice_from_codes h0 (by rw [tx_len]; exact h1), tx_list, tx_list]
section
variable {P : Program} {w : World} {K : PySem.W.Frag} {mg : Str → Option Value} {base : Heap}
abbrev sLMixed : Stmt := top 34
abbrev nLMixed : List Str := ["_law_row", "_law_k", "_law_cell"]
theorem scLMixed : FnScope nLMixed ["_law_row", "_law_k"] (defScope sLMixed) := ⟨rfl, rfl, rfl, by decide +kernel, rfl, by decide +kernel, by decide +kernel⟩
def spMixed : Sp := fun vs H Q _ => ∃ (r : Addr) (ns : List Int) (k : Int), vs = [.ref r, .int k] ∧ H r = some (.lst (ns.map V.int)) ∧ ns.length ≤ 63 ∧ 0 ≤ k ∧ k < 1000 ∧ ∀ n H', 0 ≤ n → n < 2147483629 → Same H H' → Q (.int n) H'
theorem ok_l_mixed (D : HasDef K mg "_law_mixed" sLMixed ["_law_row", "_law_k"]) (B : Blt mg) : FOk P w K mg base 1 "_law_mixed" ["_law_row", "_law_k"] spMixed := by
 refine D.ok scLMixed (fun vs H Q E h => ?_) (fun f cdv A outer s H vs Q E hr h => ?_)
 ·obtain ⟨r, ns, k, rfl, _⟩ := h
  rfl
 ·obtain ⟨r, ns, k, rfl, hr0, hn, k0, k1, kk⟩ := h
  refine ⟨_, (pss_cons (ps_set (i := 2) scLMixed.nd rfl (Or.inl rfl) (pe_op op_add (pe_op op_mul pe_int (pv 1)) pe_int))
   (pss_cons (ps_if (pt_cmpR (op_neD hr.units) (pv 0) (pe_lst pa_nil) (nomark _)) (pss_one (ps_set (i := 2) scLMixed.nd rfl (Or.inl rfl) (pe_op op_add (pe_op op_add (pe_op op_mod (pe_ix ix_list (pv 0) (pe_op op_mod (pv 1) (pe_callB call_len rfl B.len b_len (pa_cons (pv 0) pa_nil))) (fun _ _ => rfl)) pe_int) (pe_op op_mul (pe_op op_fdiv (pv 1) (pe_callB call_len rfl B.len b_len (pa_cons (pv 0) pa_nil))) pe_int)) pe_int))) pss_nil)
   (pss_cons (ps_set (i := 2) scLMixed.nd rfl (Or.inl rfl) (pe_op op_mod (pe_op op_add (pe_op op_add (pe_op op_mul (pv 2) pe_int) (pe_op op_mul (pe_op op_mul (pv 1) (pv 1)) pe_int)) pe_int) pe_int))
   (pss_one (ps_ret (pe_op op_mod (pe_op op_add (pe_op op_add (pe_op op_mul (pv 2) (pv 2)) (pe_op op_mul (pe_op op_mul (pe_op op_mul (pv 1) (pv 1)) (pv 1)) pe_int)) pe_int) pe_int)))))), ?_⟩
  refine ⟨_, rfl, _, _, rfl, rfl, .inl ⟨by decide, by decide⟩, _, _, rfl, rfl, ?_⟩
  dsimp only
  refine seq_any (fun σ H2 => Same H H2 ∧ ∃ c : Int, σ = [some (.ref r), some (.int k), some (.int c)]) (fun R hR => ?_) ?_
  ·refine ⟨_, rfl, few_size (show 0 ≤ 1000 by decide), fun p0 hp0 => ?_⟩
   have s0 := same_upd_new (o := .lst []) hp0
   have hr1 := s0 _ _ hr0
   refine ⟨.list (ns.map PyData.int), .list (([] : List Int).map PyData.int), rep_ilist hr1, rep_ilist (ns := []) upd_same, shaped_ints ns, shaped_ints [], _, rfl, ?_⟩
   rw [eqv_inil]
   cases ns with
   | nil => exact iteM rfl (hR _ _ ⟨s0, _, rfl⟩)
   | cons x xs =>
    refine iteP rfl ?_
    have hms : (x :: xs).length ≠ 0 := by simp
    generalize x :: xs = ms at *
    generalize upd H p0 (.lst []) = H1 at s0 hr1
    have hlp : (0 : Int) < ((ms.map V.int).length : Int) := by rw [List.length_map]; omega
    have mb := emod_bd k hlp
    have hat := menu_at (ns := ms) (i := k % ((ms.map V.int).length : Int)) mb.1 (by have := mb.2; rw [List.length_map] at this ⊢; exact this)
    refine ⟨_, rfl, _, rfl, _, rfl, .ref r, _, rfl, .inl ⟨_, SqL.of hr1, rfl⟩, _, _, rfl, rfl, hlp, r, _, _, _, rfl, rfl, SqL.of hr1, hat, _, _, rfl, rfl, (by show (0 : Int) < 2147483629; decide), _, rfl, _, rfl, .ref r, _, rfl, .inl ⟨_, SqL.of hr1, rfl⟩, _, _, rfl, rfl, ⟨hlp, by rw [List.length_map]; omega⟩, _, _, rfl, rfl, .inr ⟨by decide, by decide⟩, _, _, rfl, rfl, _, _, rfl, rfl, ?_⟩
    exact hR _ _ ⟨s0, _, rfl⟩
  rintro σ H2 ⟨s2, c, rfl⟩
  refine ⟨_, rfl, _, _, rfl, rfl, .inr ⟨by decide, by decide⟩, _, rfl, _, rfl, _, _, rfl, rfl, .inl ⟨by omega, by omega⟩, _, _, rfl, rfl, .inr ⟨by decide, by decide⟩, _, _, rfl, rfl, _, _, rfl, rfl, _, _, rfl, rfl, (by show (0 : Int) < 2147483647; decide), ?_⟩
  have m1 := emod_bd (c * 48271 + k * k * 16807 + 3) (show (0 : Int) < 2147483647 by decide)
  dsimp only
  generalize (c * 48271 + k * k * 16807 + 3) % 2147483647 = c2 at m1
  have m2 := emod_bd (c2 * c2 + k * k * k * 69621 + 5) (show (0 : Int) < 2147483629 by decide)
  refine ⟨_, rfl, _, rfl, _, _, rfl, rfl, .inl ⟨by omega, by omega⟩, _, rfl, _, rfl, _, _, rfl, rfl, .inl ⟨by omega, by omega⟩, _, rfl, _, _, rfl, rfl, .inr ⟨by omega, by omega⟩, _, _, rfl, rfl, .inr ⟨by decide, by decide⟩, _, _, rfl, rfl, _, _, rfl, rfl, _, _, rfl, rfl, (by show (0 : Int) < 2147483629; decide), ?_⟩
  exact kk _ _ m2.1 m2.2 s2
abbrev sLLetters : Stmt := top 36
abbrev nLLetters : List Str := ["_law_deck_here", "_law_few", "_law_some", "_law_number", "_law_found", "_law_k", "_law_at"]
theorem scLLetters : FnScope nLLetters ["_law_deck_here", "_law_few"] (defScope sLLetters) := ⟨rfl, rfl, rfl, by decide +kernel, rfl, by decide +kernel, by decide +kernel⟩
def spLett : Sp := fun vs H Q _ => ∃ (D : Addr) (few n : Nat), vs = [.ref D, .int few] ∧ 2 ≤ few ∧ few ≤ 26 ∧ DK H D (n + 1) ∧ ∀ (z : List Nat) H', SB D H H' → DK H' D n → z.length = few → Cd z → Q (.str (tx z)) H'
theorem abc_tx : ("abcdefghijklmnopqrstuvwxyz" : Str) = tx ((List.range 26).map (· + 97)) := by decide +kernel
theorem ok_l_letters (D : HasDef K mg "_law_letters" sLLetters ["_law_deck_here", "_law_few"]) (B : Blt mg) : FOk P w K mg base 1 "_law_letters" ["_law_deck_here", "_law_few"] spLett := by
 refine D.ok scLLetters (fun vs H Q E h => ?_) (fun f cdv A outer s H vs Q E hr h => ?_)
 ·obtain ⟨D, few, n, rfl, _⟩ := h
  rfl
 ·obtain ⟨Dk, few, n, rfl, f2, f26, hD, k⟩ := h
  refine ⟨_, (pss_cons (ps_set (i := 2) scLLetters.nd rfl (Or.inl rfl) pe_str)
   (pss_cons (ps_set (i := 3) scLLetters.nd rfl (Or.inl rfl) (pe_bm0 F.plainAttrs_list F.slot_list_pop F.type_list_pop mt_popR (pv 0)))
   (pss_cons (ps_set (i := 4) scLLetters.nd rfl (Or.inl rfl) pe_str)
   (pss_cons (ps_for PassesOwn.never rfl (pi_range1 rfl B.range (pa_cons (pe_callB (call_min2 rfl) rfl B.min b_min (pa_cons (pv 1) (pa_cons pe_int pa_nil))) pa_nil)) (pg_name (i := 5) scLLetters.nd rfl (Or.inl rfl))
    (pss_cons (ps_set (i := 6) scLLetters.nd rfl (Or.inl rfl) (pe_op op_mod (pv 3) (pe_callB call_len rfl B.len b_len (pa_cons (pv 2) pa_nil))))
   (pss_cons (ps_set (i := 4) scLLetters.nd rfl (Or.inl rfl) (pe_op op_add_str (pv 4) (pe_ix ix_str (pv 2) (pv 6) (fun _ _ => rfl))))
   (pss_cons (ps_set (i := 3) scLLetters.nd rfl (Or.inl rfl) (pe_op op_fdiv (pv 3) (pe_callB call_len rfl B.len b_len (pa_cons (pv 2) pa_nil))))
   (pss_one (ps_set (i := 2) scLLetters.nd rfl (Or.inl rfl) (pe_op op_add_str (pe_slice sl_str (pv 2) po_none (po_some (pv 6))) (pe_slice sl_str (pv 2) (po_some (pe_op op_add (pv 6) pe_int)) po_none))))))))
   (pss_one (ps_ret (pe_op op_add_str (pv 4) (pe_slice sl_str (pv 2) po_none (po_some (pe_op op_sub (pv 1) (pe_callB call_len rfl B.len b_len (pa_cons (pv 4) pa_nil)))))))))))), ?_⟩
  obtain ⟨ns, c, hDn, c0, c1, hD2⟩ := hD.pop
  refine ⟨_, rfl, .inl ⟨rfl, _, SqL.of hDn⟩, Dk, _, .int c, rfl, rfl, hDn, last_int ns c, ?_⟩
  rw [drop_int]
  have sb : SB Dk H (upd H Dk (.lst (ns.map V.int))) := SB.upd
  generalize upd H Dk (.lst (ns.map V.int)) = H1 at sb hD2
  rw [abc_tx]
  have hmn : (if (6 : Int) < (few : Int) then (6 : Int) else (few : Int)).toNat = min few 6 := by split <;> omega
  refine ⟨_, rfl, _, 6, rfl, _, rfl, by split <;> omega, by split <;> omega, ?_⟩
  rw [hmn]
  refine for_range (n := min few 6) (fun i σ H2 => H2 = H1 ∧ ∃ (y x : List Nat) (nb : Int) (z5 z6 : Option V), σ = [some (.ref Dk), some (.int few), some (.str (tx y)), some (.int nb), some (.str (tx x)), z5, z6] ∧ y.length = 26 - i ∧ x.length = i ∧ Cd y ∧ Cd x)
   ⟨rfl, (List.range 26).map (· + 97), [], c, none, none, rfl, by simp, rfl, fun c hc => by obtain ⟨j, hj, rfl⟩ := List.mem_map.mp hc; have := List.mem_range.mp hj; omega, fun c hc => by cases hc⟩ ?_ ?_
  ·rintro i σ H2 hi ⟨rfl, y, x, nb, z5, z6, rfl, hy, hx, yc, xc⟩
   have hlp : (0 : Int) < ((tx y).length : Int) := by rw [tx_len]; omega
   have hlen : ∀ H', LenV K (.str (tx y)) H' (tx y).length := fun H' => ⟨tx_size (by omega), rfl⟩
   have mb := emod_bd nb hlp
   refine ⟨_, rfl, _, rfl, .str (tx y), _, rfl, hlen _, _, _, rfl, rfl, hlp, ?_⟩
   dsimp only
   generalize nb % ((tx y).length : Int) = a_ at mb
   rw [tx_len] at mb
   refine ⟨_, rfl, _, rfl, _, rfl, tx y, _, _, rfl, rfl, tx_size (by omega), at_code mb.1 (by omega), _, _, rfl, rfl, ?_, ?_⟩
   ·rw [tx_len]
    exact few_size (by show x.length + 1 ≤ 1000; omega)
   rw [show ({ cps := #[y.getD a_.toNat 0] } : Str) = tx [y.getD a_.toNat 0] from rfl, tx_app]
   refine ⟨_, rfl, _, rfl, .str (tx y), _, rfl, hlen _, _, _, rfl, rfl, ⟨hlp, by rw [tx_len]; omega⟩, ?_⟩
   refine ⟨_, rfl, _, rfl, _, rfl, _, rfl, tx_size (by omega), _, rfl, _, rfl, _, _, rfl, rfl, _, rfl, _, rfl, tx_size (by omega), ?_⟩
   rw [slice_take mb.1, slice_drop (by omega) (by omega)]
   refine ⟨_, _, rfl, rfl, ?_, ?_⟩
   ·rw [tx_len, tx_len, List.length_take, List.length_drop]
    exact few_size (by omega)
   rw [tx_app]
   refine ⟨rfl, _, _, _, _, _, rfl, ?_, by rw [List.length_append, hx]; rfl, fun c hc => ?_, fun c hc => ?_⟩
   ·rw [List.length_append, List.length_take, List.length_drop]
    omega
   ·rcases List.mem_append.mp hc with q | q
    ·exact yc c (List.mem_of_mem_take q)
    ·exact yc c (List.mem_of_mem_drop q)
   ·rcases List.mem_append.mp hc with q | q
    ·exact xc c q
    ·rw [List.mem_singleton.mp q]
     refine yc _ ?_
     rw [List.getD_eq_getElem?_getD, List.getElem?_eq_getElem (by omega)]
     exact List.getElem_mem _
  ·rintro σ H2 ⟨rfl, y, x, nb, z5, z6, rfl, hy, hx, yc, xc⟩
   refine ⟨_, rfl, _, rfl, _, rfl, _, rfl, .str (tx x), _, rfl, ⟨tx_size (by omega), rfl⟩, _, _, rfl, rfl, _, rfl, _, rfl, tx_size (by omega), ?_⟩
   rw [slice_take (by rw [tx_len]; omega)]
   refine ⟨_, _, rfl, rfl, ?_, ?_⟩
   ·rw [tx_len, tx_len, List.length_take]
    exact few_size (by omega)
   rw [tx_app]
   refine k _ _ sb hD2 ?_ fun c hc => ?_
   ·rw [List.length_append, List.length_take, tx_len]
    omega
   ·rcases List.mem_append.mp hc with q | q
    ·exact xc c q
    ·exact yc c (List.mem_of_mem_take q)
abbrev sLSigns : Stmt := top 37
abbrev nLSigns : List Str := ["_law_deck_here", "_law_some", "_law_long", "_law_made", "_law_number", "_law_k"]
theorem scLSigns : FnScope nLSigns ["_law_deck_here", "_law_some", "_law_long"] (defScope sLSigns) := ⟨rfl, rfl, rfl, by decide +kernel, rfl, by decide +kernel, by decide +kernel⟩
def spSigns : Sp := fun vs H Q _ => ∃ (D : Addr) (y : List Nat) (L n : Nat), vs = [.ref D, .str (tx y), .int L] ∧ 1 ≤ y.length ∧ y.length ≤ 100 ∧ Cd y ∧ L ≤ 300 ∧ DK H D (n + (L + 11) / 12) ∧ ∀ (z : List Nat) H', SB D H H' → DK H' D n → z.length = L → Cd z → Q (.str (tx z)) H'
theorem ok_l_signs (D : HasDef K mg "_law_signs" sLSigns ["_law_deck_here", "_law_some", "_law_long"]) (B : Blt mg) : FOk P w K mg base 1 "_law_signs" ["_law_deck_here", "_law_some", "_law_long"] spSigns := by
 refine D.ok scLSigns (fun vs H Q E h => ?_) (fun f cdv A outer s H vs Q E hr h => ?_)
 ·obtain ⟨D, y, L, n, rfl, _⟩ := h
  rfl
 ·obtain ⟨Dk, y, L, n, rfl, y1, y2, yc, hL, hD, k⟩ := h
  refine ⟨_, (pss_cons (ps_set (i := 3) scLSigns.nd rfl (Or.inl rfl) pe_str)
   (pss_cons (ps_while PassesOwn.never (pt_cmpR op_lt (pe_callB call_len rfl B.len b_len (pa_cons (pv 3) pa_nil)) (pv 2) (nomark _))
    (pss_cons (ps_set (i := 4) scLSigns.nd rfl (Or.inl rfl) (pe_bm0 F.plainAttrs_list F.slot_list_pop F.type_list_pop mt_popR (pv 0)))
   (pss_one (ps_for PassesOwn.never rfl (pi_range1 rfl B.range (pa_cons (pe_callB (call_min2 rfl) rfl B.min b_min (pa_cons pe_int (pa_cons (pe_op op_sub (pv 2) (pe_callB call_len rfl B.len b_len (pa_cons (pv 3) pa_nil))) pa_nil))) pa_nil)) (pg_name (i := 5) scLSigns.nd rfl (Or.inl rfl))
    (pss_cons (ps_set (i := 3) scLSigns.nd rfl (Or.inl rfl) (pe_op op_add_str (pv 3) (pe_ix ix_str (pv 1) (pe_op op_mod (pv 4) (pe_callB call_len rfl B.len b_len (pa_cons (pv 1) pa_nil))) (fun _ _ => rfl))))
   (pss_one (ps_set (i := 4) scLSigns.nd rfl (Or.inl rfl) (pe_op op_fdiv (pv 4) (pe_callB call_len rfl B.len b_len (pa_cons (pv 1) pa_nil))))))))))
   (pss_one (ps_ret (pv 3))))), ?_⟩
  have hlp : (0 : Int) < ((tx y).length : Int) := by rw [tx_len]; omega
  have hleny : ∀ H', LenV K (.str (tx y)) H' (tx y).length := fun H' => ⟨tx_size (by omega), rfl⟩
  dsimp only [gName]
  rw [show ("" : Str) = tx [] from rfl]
  show tSeq (tWhile _ _) _ _ _ _
  refine seq_any (fun σ H4 => ∃ (z : List Nat) (z4 z5 : Option V), σ = [some (.ref Dk), some (.str (tx y)), some (.int L), some (.str (tx z)), z4, z5] ∧ SB Dk H H4 ∧ DK H4 Dk n ∧ z.length = L ∧ Cd z) (fun R hR => ?_) ?_
  ·refine ⟨fun m σ H4 => ∃ (z : List Nat) (z4 z5 : Option V), σ = [some (.ref Dk), some (.str (tx y)), some (.int L), some (.str (tx z)), z4, z5] ∧ SB Dk H H4 ∧ DK H4 Dk (n + (L - z.length + 11) / 12) ∧ z.length ≤ L ∧ Cd z ∧ m = L - z.length,
    ⟨_, [], none, none, rfl, SB.refl _ _, hD, Nat.zero_le _, (fun c hc => by cases hc), rfl⟩, ?_⟩
   rintro m σ H4 ⟨z, z4, z5, rfl, sb4, hD4, hz, zc, hm⟩
   have hlenz : ∀ H', LenV K (.str (tx z)) H' (tx z).length := fun H' => ⟨tx_size (by omega), rfl⟩
   refine ⟨_, rfl, .str (tx z), _, rfl, hlenz _, _, rfl, _, _, rfl, rfl, _, rfl, ?_⟩
   rw [tx_len]
   by_cases c : z.length < L
   rotate_left
   ·have e : z.length = L := by omega
    refine iteM (decide_eq_false (by omega)) (hR _ _ ⟨z, z4, z5, rfl, sb4, hD4.less (by omega), e, zc⟩)
   refine iteP (decide_eq_true (by omega)) ?_
   refine ⟨fun σ' H' => ∃ m', m' < m ∧ ∃ (z : List Nat) (z4 z5 : Option V), σ' = [some (.ref Dk), some (.str (tx y)), some (.int L), some (.str (tx z)), z4, z5] ∧ SB Dk H H' ∧ DK H' Dk (n + (L - z.length + 11) / 12) ∧ z.length ≤ L ∧ Cd z ∧ m' = L - z.length, fun _ _ z => z, ?_⟩
   have hD5 : DK H4 Dk (n + (L - z.length + 11) / 12 - 1 + 1) := hD4.less (by omega)
   obtain ⟨ns, cc, hDn, c0, c1, hD6⟩ := hD5.pop
   refine ⟨_, rfl, .inl ⟨rfl, _, SqL.of hDn⟩, Dk, _, .int cc, rfl, rfl, hDn, last_int ns cc, ?_⟩
   rw [drop_int]
   have sb6 : SB Dk H (upd H4 Dk (.lst (ns.map V.int))) := sb4.trans SB.upd
   generalize upd H4 Dk (.lst (ns.map V.int)) = H6 at sb6 hD6
   have hmn : (if (L : Int) - ((tx z).length : Int) < 12 then (L : Int) - ((tx z).length : Int) else 12).toNat = min (L - z.length) 12 := by rw [tx_len]; split <;> omega
   refine ⟨_, rfl, _, rfl, .str (tx z), _, rfl, hlenz _, _, _, rfl, rfl, 12, _, rfl, _, rfl, by rw [tx_len]; split <;> omega, by rw [tx_len]; split <;> omega, ?_⟩
   rw [hmn]
   refine for_range (n := min (L - z.length) 12) (fun i σ H7 => H7 = H6 ∧ ∃ (u : List Nat) (nb : Int) (z5 : Option V), σ = [some (.ref Dk), some (.str (tx y)), some (.int L), some (.str (tx u)), some (.int nb), z5] ∧ u.length = z.length + i ∧ Cd u)
    ⟨rfl, z, cc, z5, rfl, rfl, zc⟩ ?_ ?_
   ·rintro i σ H7 hi ⟨rfl, u, nb, z5', rfl, hul, uc⟩
    have mb := emod_bd nb hlp
    have hmy : (nb % ((tx y).length : Int)).toNat < y.length := by rw [tx_len] at mb ⊢; omega
    have hat := at_code (z := y) (i := nb % ((tx y).length : Int)) mb.1 (by rw [tx_len] at mb ⊢; exact mb.2)
    refine ⟨_, rfl, _, rfl, _, rfl, _, rfl, .str (tx y), _, rfl, hleny _, _, _, rfl, rfl, hlp, tx y, _, _, rfl, rfl, tx_size (by omega), hat, _, _, rfl, rfl, ?_, ?_⟩
    ·rw [tx_len]
     exact few_size (by show u.length + 1 ≤ 1000; omega)
    generalize nb % ((tx y).length : Int) = ix at hmy
    rw [show ({ cps := #[y.getD ix.toNat 0] } : Str) = tx [y.getD ix.toNat 0] from rfl, tx_app]
    refine ⟨_, rfl, _, rfl, .str (tx y), _, rfl, hleny _, _, _, rfl, rfl, ⟨hlp, by rw [tx_len]; omega⟩, ?_⟩
    refine ⟨rfl, _, _, _, rfl, by rw [List.length_append, hul]; rfl, fun c hc => ?_⟩
    rcases List.mem_append.mp hc with q | q
    ·exact uc c q
    ·rw [List.mem_singleton.mp q]
     refine yc _ ?_
     rw [List.getD_eq_getElem?_getD, List.getElem?_eq_getElem hmy]
     exact List.getElem_mem _
   ·rintro σ H7 ⟨rfl, u, nb, z5', rfl, hul, uc⟩
    refine ⟨_, ?_, u, _, _, rfl, sb6, hD6.less (by omega), by omega, uc, rfl⟩
    omega
  ·rintro σ H4 ⟨z, z4, z5, rfl, sb4, hD4, hz, zc⟩
   exact ⟨_, rfl, k z H4 sb4 hD4 hz zc⟩
end
section
variable {P : Program} {w : World} {K : PySem.W.Frag} {mg : Str → Option Value} {base : Heap}
abbrev sLDeck : Stmt := top 35
abbrev nLDeck : List Str := ["_law_script", "_law_many", "_law_row", "_law_left", "_law_found", "_law_k", "_law_number"]
theorem scLDeck : FnScope nLDeck ["_law_script", "_law_many"] (defScope sLDeck) := ⟨rfl, rfl, rfl, by decide +kernel, rfl, by decide +kernel, by decide +kernel⟩
def spDeck (K : PySem.W.Frag) : Sp := fun vs H Q _ => ∃ (a : Addr) (ns : List Int) (m : Nat), vs = [.ref a, .int m] ∧ SqL K H a (ns.map V.int) ∧ ns.length ≤ 63 ∧ m ≤ 600 ∧ ∀ D H', Same H H' → DK H' D m → Q (.ref D) H'
theorem ok_l_deck (D : HasDef K mg "_law_deck" sLDeck ["_law_script", "_law_many"]) (B : Blt mg) (g6_ : FOk P w K mg base 1 "_law_mixed" ["_law_row", "_law_k"] spMixed) : FOk P w K mg base 2 "_law_deck" ["_law_script", "_law_many"] (spDeck K) := by
 refine D.ok scLDeck (fun vs H Q E h => ?_) (fun f cdv A outer s H vs Q E hr h => ?_)
 ·obtain ⟨a, ns, m, rfl, _⟩ := h
  rfl
 ·obtain ⟨a, ns, m, rfl, ha, hn, hm, k⟩ := h
  refine ⟨_, (pss_cons (ps_set (i := 2) scLDeck.nd rfl (Or.inl rfl) (pe_callTy call_list_of rfl B.list b_list (pa_cons (pe_slice sl_list (pv 0) po_none (po_some pe_int)) pa_nil)))
   (pss_cons (ps_set (i := 3) scLDeck.nd rfl (Or.inl rfl) (pe_lst pa_nil))
   (pss_cons (ps_if (PW.pt (pw_and (pt_cmpR (op_neD hr.units) (pv 2) (pe_lst pa_nil) (nomark _)) (pw_and1 (pt_cmpR op_eq (pe_op op_mod (pe_ix ix_list (pv 2) pe_int (fun _ _ => rfl)) pe_int) pe_int (nomark _))))) (pss_one (ps_set (i := 3) scLDeck.nd rfl (Or.inl rfl) (pe_op op_cat (pe_lst (pa_cons (pe_op op_fdiv (pe_ix ix_list (pv 2) pe_int (fun _ _ => rfl)) pe_int) pa_nil)) (pe_slice sl_list (pv 2) (po_some pe_int) po_none)))) pss_nil)
   (pss_cons (ps_set (i := 4) scLDeck.nd rfl (Or.inl rfl) (pe_lst pa_nil))
   (pss_cons (ps_for PassesOwn.never rfl (pi_range1 rfl B.range (pa_cons (pv 1) pa_nil)) (pg_name (i := 5) scLDeck.nd rfl (Or.inl rfl))
    (pss_cons (ps_set (i := 6) scLDeck.nd rfl (Or.inl rfl) (pe_fn g6_ hr (pa_cons (pv 2) (pa_cons (pv 5) pa_nil))))
   (pss_cons (ps_if (PW.pt (pw_and (pt_cmpR (op_neD hr.units) (pv 3) (pe_lst pa_nil) (nomark _)) (pw_and1 (pt_cmpR op_notIn_seq (pe_ix ix_list (pv 3) (pe_op op_mod (pv 5) (pe_callB call_len rfl B.len b_len (pa_cons (pv 3) pa_nil))) (fun _ _ => rfl)) (pe_tup (pa_cons pe_int (pa_cons (pe_un un_neg pe_int) pa_nil))) rfl)))) (pss_cons (ps_set (i := 6) scLDeck.nd rfl (Or.inl rfl) (pe_op op_mod (pe_ix ix_list (pv 3) (pe_op op_mod (pv 5) (pe_callB call_len rfl B.len b_len (pa_cons (pv 3) pa_nil))) (fun _ _ => rfl)) (pe_op op_pow pe_int pe_int)))
   (pss_one (ps_asg (pe_op op_fdivB (pe_ix ix_list (pv 3) (pe_op op_mod (pv 5) (pe_callB call_len rfl B.len b_len (pa_cons (pv 3) pa_nil))) (fun _ _ => rfl)) (pe_op op_pow pe_int pe_int)) (pg_sub (pv 3) (pe_op op_mod (pv 5) (pe_callB call_len rfl B.len b_len (pa_cons (pv 3) pa_nil))) set_list)))) pss_nil)
   (pss_one (ps_expr (pe_bm F.plainAttrs_list F.slot_list_append F.type_list_append mt_appendR (pv 4) (pa_cons (pv 6) pa_nil)))))))
   (pss_one (ps_ret (pe_listRevL rfl rfl B.list rfl B.rev (pv 4))))))))), ?_⟩
  refine ⟨_, rfl, _, rfl, a, _, rfl, ha, fun p1 hp1 => ?_⟩
  rw [cut63 (ns.map V.int) (by rw [List.length_map]; exact hn)]
  refine ⟨p1, _, rfl, .inl (SqL.of upd_same), fun r hr1 => ?_⟩
  have s1 := (same_upd_new (o := .lst (ns.map V.int)) hp1).trans (same_upd_new (o := .lst (ns.map V.int)) hr1)
  have hrow : (upd (upd H p1 (.lst (ns.map V.int))) r (.lst (ns.map V.int))) r = some (.lst (ns.map V.int)) := upd_same
  generalize upd (upd H p1 (.lst (ns.map V.int))) r (.lst (ns.map V.int)) = H1 at s1 hrow
  refine ⟨few_size (show 0 ≤ 1000 by decide), fun lf hlf => ?_⟩
  have s2 := same_upd_new (o := .lst []) hlf
  have hlr : lf ≠ r := fun e => by rw [e, hrow] at hlf; cases hlf
  have hlfn : H lf = none := s1.free hlf
  have hrow2 := s2 _ _ hrow
  have hlf2 : (upd H1 lf (.lst [])) lf = some (.lst (([] : List Int).map V.int)) := upd_same
  have s12 := s1.trans s2
  generalize upd H1 lf (.lst []) = H2 at s12 hrow2 hlf2
  clear s2 hlf s1 hrow hr1 hp1
  dsimp only
  refine seq_any (fun σ H3 => ∃ (lf : Addr) (ls : List Int), σ = [some (.ref a), some (.int m), some (.ref r), some (.ref lf), none, none, none] ∧ Same H H3 ∧ H3 r = some (.lst (ns.map V.int)) ∧ H3 lf = some (.lst (ls.map V.int)) ∧ ls.length ≤ 64 ∧ H lf = none ∧ lf ≠ r) (fun R hR => ?_) ?_
  ·refine ⟨_, rfl, few_size (show 0 ≤ 1000 by decide), fun p0 hp0 => ?_⟩
   have s3 := same_upd_new (o := .lst []) hp0
   have hrow3 := s3 _ _ hrow2
   have hlf3 := s3 _ _ hlf2
   refine ⟨.list (ns.map PyData.int), .list (([] : List Int).map PyData.int), rep_ilist hrow3, rep_ilist (ns := []) upd_same, shaped_ints ns, shaped_ints [], _, rfl, ?_⟩
   rw [eqv_inil]
   have s13 := s12.trans s3
   generalize upd H2 p0 (.lst []) = H3 at s13 hrow3 hlf3
   cases ns with
   | nil => exact iteM rfl (iteM rfl (hR _ _ ⟨lf, [], rfl, s13, hrow3, hlf3, by decide, hlfn, hlr⟩))
   | cons x xs =>
    refine iteP rfl ?_
    have h0 : atI ((x :: xs).map V.int) 0 = some (.int x) := item_at (by decide) rfl
    refine ⟨_, rfl, r, _, 0, .int x, rfl, rfl, SqL.of hrow3, h0, _, _, rfl, rfl, (by show (0 : Int) < 2; decide), rfl, _, rfl, ?_⟩
    by_cases c : x % 2 = 1
    rotate_left
    ·exact iteM (int_ne c) (hR _ _ ⟨lf, [], rfl, s13, hrow3, hlf3, by decide, hlfn, hlr⟩)
    refine iteP (int_is c) ?_
    refine ⟨_, rfl, r, _, 0, .int x, rfl, rfl, SqL.of hrow3, h0, _, _, rfl, rfl, ⟨by decide, by decide⟩, few_size (show 1 ≤ 1000 by decide), fun q1 hq1 => ?_⟩
    have t1 := same_upd_new (o := .lst [.int (x / 2)]) hq1
    refine ⟨_, rfl, _, rfl, r, _, rfl, SqL.of (t1 _ _ hrow3), fun q2 hq2 => ?_⟩
    rw [show cutV ((x :: xs).map V.int) (some 1) none = xs.map V.int from cut_from (i := 1) (by simp)]
    have t2 := same_upd_new (o := .lst (xs.map V.int)) hq2
    refine ⟨q1, q2, _, _, rfl, rfl, t2 _ _ upd_same, upd_same, few_size (by rw [List.length_map, List.length_singleton]; rw [List.length_cons] at hn; omega), fun q3 hq3 => ?_⟩
    have t3 := same_upd_new (o := .lst ([.int (x / 2)] ++ xs.map V.int)) hq3
    have hrow6 := t3 _ _ (t2 _ _ (t1 _ _ hrow3))
    refine hR _ _ ⟨q3, x / 2 :: xs, rfl, s13.trans ((t1.trans t2).trans t3), hrow6, upd_same, by rw [List.length_cons] at hn ⊢; omega, s13.free ((t1.trans t2).free hq3), fun e => ?_⟩
    rw [e, (t1.trans t2) _ _ hrow3] at hq3
    cases hq3
  clear hlf2 hrow2 s12 hlr hlfn
  clear lf H2
  rintro σ H3 ⟨lf, ls, rfl, s3, hrow, hlf, hls, hlfn, hlr⟩
  refine ⟨few_size (show 0 ≤ 1000 by decide), fun fd hfd => ?_⟩
  have t4 := same_upd_new (o := .lst []) hfd
  have hfr : fd ≠ r := fun e => by rw [e, hrow] at hfd; cases hfd
  have hfl : fd ≠ lf := fun e => by rw [e, hlf] at hfd; cases hfd
  have hfn : H fd = none := s3.free hfd
  refine ⟨_, rfl, _, rfl, by omega, by omega, ?_⟩
  rw [Int.toNat_natCast]
  refine for_range (n := m) (fun i σ H5 => ∃ (ls fs : List Int) (z5 z6 : Option V), σ = [some (.ref a), some (.int m), some (.ref r), some (.ref lf), some (.ref fd), z5, z6] ∧ Same H H5 ∧ H5 r = some (.lst (ns.map V.int)) ∧ H5 lf = some (.lst (ls.map V.int)) ∧ ls.length ≤ 64 ∧ H5 fd = some (.lst (fs.map V.int)) ∧ fs.length = i ∧ ∀ x ∈ fs, 0 ≤ x ∧ x < 10 ^ 18)
   ⟨ls, [], none, none, rfl, s3.trans t4, t4 _ _ hrow, t4 _ _ hlf, hls, upd_same, rfl, fun x hx => by cases hx⟩ ?_ ?_
  ·clear t4 hfd hlf hrow s3 hls
   clear ls H3
   rintro i σ H5 hi ⟨ls, fs, z5, z6, rfl, s5, hrow, hlf, hls, hfd, hfs, hfb⟩
   refine ⟨_, rfl, _, rfl, r, ns, 0 + (i : Int), rfl, hrow, hn, by omega, by omega, fun n0 H6 b0 b1 s6 => ?_⟩
   have s56 := s5.trans s6
   have hrow6 := s6 _ _ hrow
   have hlf6 := s6 _ _ hlf
   have hfd6 := s6 _ _ hfd
   dsimp only
   refine seq_any (fun σ H7 => ∃ (ls : List Int) (n : Int), σ = [some (.ref a), some (.int m), some (.ref r), some (.ref lf), some (.ref fd), some (.int (0 + (i : Int))), some (.int n)] ∧ Same H H7 ∧ H7 r = some (.lst (ns.map V.int)) ∧ H7 lf = some (.lst (ls.map V.int)) ∧ ls.length ≤ 64 ∧ H7 fd = some (.lst (fs.map V.int)) ∧ 0 ≤ n ∧ n < 10 ^ 18) (fun R hR => ?_) ?_
   ·refine ⟨_, rfl, few_size (show 0 ≤ 1000 by decide), fun p0 hp0 => ?_⟩
    have t7 := same_upd_new (o := .lst []) hp0
    have hlf7 := t7 _ _ hlf6
    have hrow7 := t7 _ _ hrow6
    have hfd7 := t7 _ _ hfd6
    refine ⟨.list (ls.map PyData.int), .list (([] : List Int).map PyData.int), rep_ilist hlf7, rep_ilist (ns := []) upd_same, shaped_ints ls, shaped_ints [], _, rfl, ?_⟩
    rw [eqv_inil]
    have s57 := s56.trans t7
    generalize upd H6 p0 (.lst []) = H7 at s57 hlf7 hrow7 hfd7
    by_cases hne : ls.length = 0
    ·rw [List.length_eq_zero_iff.mp hne] at hlf7 ⊢
     exact iteM rfl (iteM rfl (hR _ _ ⟨[], n0, rfl, s57, hrow7, hlf7, by decide, hfd7, b0, by omega⟩))
    refine iteP (by cases ls with | nil => exact absurd rfl hne | cons _ _ => rfl) ?_
    have hlp : (0 : Int) < ((ls.map V.int).length : Int) := by rw [List.length_map]; omega
    have mb := emod_bd (0 + (i : Int)) hlp
    have hat := menu_at (ns := ls) (i := (0 + (i : Int)) % ((ls.map V.int).length : Int)) mb.1 (by have := mb.2; rw [List.length_map] at this ⊢; exact this)
    refine ⟨_, rfl, _, rfl, _, rfl, .ref lf, _, rfl, .inl ⟨_, SqL.of hlf7, rfl⟩, _, _, rfl, rfl, hlp, lf, _, _, _, rfl, rfl, SqL.of hlf7, hat, _, rfl, few_size (show 2 ≤ 1000 by decide), fun t ht => ?_⟩
    have t8 := same_upd_new (o := .tup [.int 0, .int (-1)]) ht
    have hlf8 := t8 _ _ hlf7
    have hrow8 := t8 _ _ hrow7
    have hfd8 := t8 _ _ hfd7
    have s58 := s57.trans t8
    refine ⟨t, _, rfl, .inr (SqT.of upd_same), rfl, rfl, _, rfl, ?_⟩
    generalize upd H7 t (.tup [.int 0, .int (-1)]) = H8 at s58 hlf8 hrow8 hfd8
    refine ite2 (fun _ => ?_) (fun _ => hR _ _ ⟨ls, n0, rfl, s58, hrow8, hlf8, hls, hfd8, b0, by omega⟩)
    refine ⟨_, rfl, _, rfl, _, rfl, .ref lf, _, rfl, .inl ⟨_, SqL.of hlf8, rfl⟩, _, _, rfl, rfl, hlp, lf, _, _, _, rfl, rfl, SqL.of hlf8, hat, _, _, rfl, rfl, ⟨by decide, by decide, by decide⟩, _, _, rfl, rfl, (by show (0 : Int) < 10 ^ 18; decide), ?_⟩
    have md := emod_bd (ls.getD ((0 + (i : Int)) % ((ls.map V.int).length : Int)).toNat 0) (show (0 : Int) < 10 ^ 18 by decide)
    refine ⟨_, rfl, _, rfl, _, rfl, .ref lf, _, rfl, .inl ⟨_, SqL.of hlf8, rfl⟩, _, _, rfl, rfl, hlp, lf, _, _, _, rfl, rfl, SqL.of hlf8, hat, _, _, rfl, rfl, ⟨by decide, by decide, by decide⟩, _, _, rfl, rfl, ⟨by decide, by decide +kernel⟩, ?_⟩
    refine ⟨_, rfl, _, rfl, _, rfl, .ref lf, _, rfl, .inl ⟨_, SqL.of hlf8, rfl⟩, _, _, rfl, rfl, hlp, lf, _, _, ((0 + (i : Int)) % ((ls.map V.int).length : Int)).toNat, rfl, rfl, hlf8, ?_, ?_⟩
    ·unfold ixN
     rw [if_pos mb.1, if_pos mb.2]
    refine hR _ _ ⟨ls.set ((0 + (i : Int)) % ((ls.map V.int).length : Int)).toNat ((ls.getD ((0 + (i : Int)) % ((ls.map V.int).length : Int)).toNat 0).fdiv (10 ^ 18)), _, rfl, fun b u hb => ?_, ?_, ?_, ?_, ?_, md.1, md.2⟩
    ·rw [upd_ne (ne_of_none hb hlfn)]
     exact s58 b u hb
    ·rw [upd_ne (Ne.symm hlr)]
     exact hrow8
    ·rw [upd_same, List.map_set]
     rfl
    ·rw [List.length_set]
     exact hls
    ·rw [upd_ne hfl]
     exact hfd8
   clear hlf6 hrow6 hfd6 s56 s6 hlf hls hfd s5 hrow b0 b1
   clear ls H6 n0
   rintro σ H7 ⟨ls, n, rfl, s7, hrow, hlf, hls, hfd, n0, n1⟩
   refine ⟨_, rfl, .inl ⟨rfl, _, SqL.of hfd⟩, _, rfl, fd, _, .int n, rfl, rfl, hfd, by rw [List.length_map]; exact small1000 (by omega), ?_⟩
   refine ⟨ls, fs ++ [n], _, _, rfl, fun b u hb => ?_, ?_, ?_, hls, ?_, by rw [List.length_append, hfs]; rfl, fun x hx => ?_⟩
   ·rw [upd_ne (ne_of_none hb hfn)]
    exact s7 b u hb
   ·rw [upd_ne (Ne.symm hfr)]
    exact hrow
   ·rw [upd_ne (Ne.symm hfl)]
    exact hlf
   ·rw [upd_same, List.map_append]
    rfl
   ·rcases List.mem_append.mp hx with z | z
    ·exact hfb x z
    ·rw [List.mem_singleton.mp z]
     exact ⟨n0, n1⟩
  ·rintro σ H5 ⟨ls, fs, z5, z6, rfl, s5, hrow, hlf, hls, hfd, hfs, hfb⟩
   refine ⟨_, rfl, fd, _, rfl, SqL.of hfd, fun Dk hDk => ?_⟩
   exact k Dk _ (s5.trans (same_upd_new hDk)) ⟨fs.reverse, by rw [upd_same, List.map_reverse], by rw [List.length_reverse]; omega, fun x hx => hfb x (List.mem_reverse.mp hx)⟩
end
theorem getD_inI {ns : List Int} {j : Nat} (h : j < ns.length) : ns.getD j 0 ∈ ns := by
 rw [List.getD_eq_getElem?_getD, List.getElem?_eq_getElem h]
 exact List.getElem_mem h
theorem menuI {ns : List Int} {i : Int} {lo hi : Int} (h0 : 0 ≤ i) (h1 : i < ns.length) (hb : ∀ x ∈ ns, lo ≤ x ∧ x ≤ hi) (hl : 0 ≤ lo) : ∃ v : Nat, atI (ns.map V.int) i = some (.int (v : Int)) ∧ lo ≤ v ∧ (v : Int) ≤ hi := by
 have hm := getD_inI (ns := ns) (j := i.toNat) (by omega)
 have := hb _ hm
 refine ⟨(ns.getD i.toNat 0).toNat, ?_, by omega, by omega⟩
 rw [menu_at h0 h1, Int.toNat_of_nonneg (by omega)]
section
variable {P : Program} {w : World} {K : PySem.W.Frag} {mg : Str → Option Value} {base : Heap}
abbrev sLText : Stmt := top 38
abbrev nLText : List Str := ["_law_deck_here", "_law_most", "_law_some", "_law_signs_here", "_law_way", "_law_cell"]
theorem scLText : FnScope nLText ["_law_deck_here", "_law_most"] (defScope sLText) := ⟨rfl, rfl, rfl, by decide +kernel, rfl, by decide +kernel, by decide +kernel⟩
def spText : Sp := fun vs H Q _ => ∃ (D : Addr) (most n : Nat), vs = [.ref D, .int most] ∧ 1 ≤ most ∧ most ≤ 63 ∧ DK H D (n + 30) ∧ ∀ (z : List Nat) H', SB D H H' → DK H' D n → 1 ≤ z.length → z.length ≤ 63 → Cd z → Q (.str (tx z)) H'
theorem ok_l_text (D : HasDef K mg "_law_text" sLText ["_law_deck_here", "_law_most"]) (B : Blt mg) (g5_ : FOk P w K mg base 1 "_law_letters" ["_law_deck_here", "_law_few"] spLett) (g9_ : FOk P w K mg base 1 "_law_signs" ["_law_deck_here", "_law_some", "_law_long"] spSigns) : FOk P w K mg base 2 "_law_text" ["_law_deck_here", "_law_most"] spText := by
 refine D.ok scLText (fun vs H Q E h => ?_) (fun f cdv A outer s H vs Q E hr h => ?_)
 ·obtain ⟨D, most, n, rfl, _⟩ := h
  rfl
 ·obtain ⟨Dk, most, n, rfl, m1, m3, hD, k⟩ := h
  refine ⟨_, (pss_cons (ps_set (i := 2) scLText.nd rfl (Or.inl rfl) (pe_fn g5_ hr (pa_cons (pv 0) (pa_cons (pe_ix ix_list (pe_lst (pa_cons pe_int (pa_cons pe_int (pa_cons pe_int (pa_cons pe_int (pa_cons pe_int pa_nil)))))) (pe_op op_mod (pe_bm0 F.plainAttrs_list F.slot_list_pop F.type_list_pop mt_popR (pv 0)) pe_int) (fun _ _ => rfl)) pa_nil))))
   (pss_cons (ps_set (i := 3) scLText.nd rfl (Or.inl rfl) (pe_fn g9_ hr (pa_cons (pv 0) (pa_cons (pv 2) (pa_cons (pe_op op_add pe_int (pe_op op_mod (pe_bm0 F.plainAttrs_list F.slot_list_pop F.type_list_pop mt_popR (pv 0)) (pv 1))) pa_nil)))))
   (pss_cons (ps_set (i := 4) scLText.nd rfl (Or.inl rfl) (pe_op op_mod (pe_bm0 F.plainAttrs_list F.slot_list_pop F.type_list_pop mt_popR (pv 0)) pe_int))
   (pss_cons (ps_set (i := 5) scLText.nd rfl (Or.inl rfl) (pe_bm0 F.plainAttrs_list F.slot_list_pop F.type_list_pop mt_popR (pv 0)))
   (pss_cons (ps_if (pt_cmpR op_eq (pv 4) pe_int (nomark _)) (pss_one (ps_set (i := 3) scLText.nd rfl (Or.inl rfl) (pe_slice sl_str (pe_op op_mulS (pe_slice sl_str (pv 3) po_none (po_some (pe_op op_add pe_int (pe_op op_mod (pv 5) pe_int)))) pe_int) po_none (po_some (pe_op op_add pe_int (pe_op op_mod (pe_op op_fdiv (pv 5) pe_int) pe_int)))))) pss_nil)
   (pss_cons (ps_if (pt_cmpR op_eq (pv 4) pe_int (nomark _)) (pss_one (ps_set (i := 3) scLText.nd rfl (Or.inl rfl) (pe_op op_add_str (pe_slice sl_str (pv 3) po_none (po_some pe_int)) (pe_bm F.plainAttrs_str F.slot_str_join F.type_str_join mt_join pe_str (pa_cons (pe_listRev rfl rfl B.list rfl B.rev (pe_slice sl_str (pv 3) po_none (po_some pe_int))) pa_nil))))) pss_nil)
   (pss_cons (ps_if (pt_cmpR op_eq (pv 4) pe_int (nomark _)) (pss_one (ps_set (i := 3) scLText.nd rfl (Or.inl rfl) (pe_op op_add_str (pe_slice sl_str (pv 3) po_none (po_some pe_int)) (pe_slice sl_str (pv 3) po_none (po_some (pe_op op_add pe_int (pe_op op_mod (pv 5) pe_int))))))) pss_nil)
   (pss_one (ps_ret (pv 3)))))))))), ?_⟩
  refine ⟨_, rfl, few_size (show 5 ≤ 1000 by decide), fun p hp => ?_⟩
  have s1 := same_upd_new (o := .lst [.int 2, .int 2, .int 3, .int 4, .int 26]) hp
  have hD1 : DK (upd H p (.lst [.int 2, .int 2, .int 3, .int 4, .int 26])) Dk (n + 29 + 1) := hD.same s1
  have hp1 : (upd H p (.lst [.int 2, .int 2, .int 3, .int 4, .int 26])) p = some (.lst (([2, 2, 3, 4, 26] : List Int).map V.int)) := upd_same
  have hpD : p ≠ Dk := fun e => by
   obtain ⟨_, e2, _⟩ := hD
   rw [← e, hp] at e2
   cases e2
  have sb1 : SB Dk H (upd H p (.lst [.int 2, .int 2, .int 3, .int 4, .int 26])) := (sbOf s1)
  generalize upd H p (.lst [.int 2, .int 2, .int 3, .int 4, .int 26]) = H1 at hD1 hp1 sb1
  obtain ⟨ns, c, hDn, c0, c1, hD2⟩ := hD1.pop
  refine ⟨_, rfl, .inl ⟨rfl, _, SqL.of hDn⟩, Dk, _, .int c, rfl, rfl, hDn, last_int ns c, ?_⟩
  rw [drop_int]
  have hp2 : (upd H1 Dk (.lst (ns.map V.int))) p = some (.lst (([2, 2, 3, 4, 26] : List Int).map V.int)) := by rw [upd_ne hpD]; exact hp1
  have sb2 := sb1.trans (SB.upd (o := .lst (ns.map V.int)))
  generalize upd H1 Dk (.lst (ns.map V.int)) = H2 at hD2 hp2 sb2
  have m5 := emod_bd c (show (0 : Int) < 5 by decide)
  obtain ⟨few, hat, fl, fh⟩ := menuI (ns := [2, 2, 3, 4, 26]) (lo := 2) (hi := 26) m5.1 m5.2 (by decide) (by decide)
  refine ⟨_, _, rfl, rfl, (by show (0 : Int) < 5; decide), p, _, _, _, rfl, rfl, SqL.of hp2, hat, Dk, few, n + 28, rfl, by omega, by omega, hD2, fun y H3 sb3 hD3 hy yc => ?_⟩
  have sb13 := sb2.trans sb3
  have hD3' : DK H3 Dk (n + 27 + 1) := hD3
  obtain ⟨ns2, c2, hDn2, _, _, hD4⟩ := hD3'.pop
  refine ⟨_, rfl, _, rfl, _, rfl, .inl ⟨rfl, _, SqL.of hDn2⟩, Dk, _, .int c2, rfl, rfl, hDn2, last_int ns2 c2, ?_⟩
  rw [drop_int]
  have sb4 := sb13.trans (SB.upd (H := H3) (o := .lst (ns2.map V.int)))
  generalize upd H3 Dk (.lst (ns2.map V.int)) = H4 at hD4 sb4
  have mm := emod_bd c2 (show (0 : Int) < (most : Int) by omega)
  obtain ⟨L, eL⟩ : ∃ L : Nat, 1 + c2 % (most : Int) = (L : Int) := ⟨(1 + c2 % (most : Int)).toNat, by omega⟩
  refine ⟨_, rfl, _, _, rfl, rfl, (by show (0 : Int) < (most : Int); omega), _, _, rfl, rfl, Dk, y, L, n + 2, (by rw [← eL]; rfl), by omega, by omega, yc, by omega, hD4.less (by omega), fun z H5 sb5 hD5 hz zc => ?_⟩
  have sb15 := sb4.trans sb5
  have hD5' : DK H5 Dk (n + 1 + 1) := hD5
  obtain ⟨ns3, c3, hDn3, _, _, hD6⟩ := hD5'.pop
  refine ⟨_, rfl, .inl ⟨rfl, _, SqL.of hDn3⟩, Dk, _, .int c3, rfl, rfl, hDn3, last_int ns3 c3, ?_⟩
  rw [drop_int]
  have sb6 := sb15.trans (SB.upd (H := H5) (o := .lst (ns3.map V.int)))
  generalize upd H5 Dk (.lst (ns3.map V.int)) = H6 at hD6 sb6
  refine ⟨_, _, rfl, rfl, (by show (0 : Int) < 6; decide), ?_⟩
  obtain ⟨ns4, c4, hDn4, _, _, hD7⟩ := hD6.pop
  refine ⟨_, rfl, .inl ⟨rfl, _, SqL.of hDn4⟩, Dk, _, .int c4, rfl, rfl, hDn4, last_int ns4 c4, ?_⟩
  rw [drop_int]
  have sb7 := sb6.trans (SB.upd (H := H6) (o := .lst (ns4.map V.int)))
  generalize upd H6 Dk (.lst (ns4.map V.int)) = H7 at hD7 sb7
  have z1 : 1 ≤ z.length := by omega
  have z3 : z.length ≤ 63 := by omega
  dsimp only
  clear hD6 hD5 hD5' hD4 hD3 hD3' hD2 hDn hDn2 hDn3 hDn4 sb6 sb15 sb5 sb4 sb13 sb3 sb2 sb1 hp2 hp1 hat
  generalize c3 % 6 = wy
  refine seq_any (fun σ H8 => ∃ z : List Nat, σ = [some (.ref Dk), some (.int most), some (.str (tx y)), some (.str (tx z)), some (.int wy), some (.int c4)] ∧ H8 = H7 ∧ 1 ≤ z.length ∧ z.length ≤ 63 ∧ Cd z) (fun R hR => ?_) ?_
  ·refine ⟨_, rfl, rfl, _, rfl, ite2 (fun e => ?_) (fun e => hR _ _ ⟨z, rfl, rfl, z1, z3, zc⟩)⟩
   have m7 := emod_bd c4 (show (0 : Int) < 7 by decide)
   have m60 := emod_bd (c4 / 7) (show (0 : Int) < 60 by decide)
   refine ⟨_, rfl, _, rfl, _, _, rfl, rfl, (by show (0 : Int) < 7; decide), _, _, rfl, rfl, _, rfl, _, rfl, tx_size (by omega), ?_⟩
   dsimp only
   rw [slice_take (by omega)]
   have hz' : (z.take (1 + c4 % 7).toNat).length ≤ 7 ∧ 1 ≤ (z.take (1 + c4 % 7).toNat).length := by
    rw [List.length_take]
    omega
   have hyc : Cd (z.take (1 + c4 % 7).toNat) := fun c hc => zc c (List.mem_of_mem_take hc)
   generalize z.take (1 + c4 % 7).toNat = u at hz' hyc
   have em : Txt.mul (tx u) 50 = tx ((List.replicate 50 u).flatten) := by
    apply codes_inj
    rw [mul_codes (by decide) (by rw [tx_len]; omega), tx_list, tx_list]
    rfl
   refine ⟨_, _, rfl, rfl, L2.mulOk_of (by decide) (by decide) (by rw [tx_len]; omega), ?_⟩
   rw [em]
   have hrl := rep_len 50 u
   refine ⟨_, rfl, _, _, rfl, rfl, ⟨by decide, by decide⟩, _, _, rfl, rfl, (by show (0 : Int) < 60; decide), _, _, rfl, rfl, _, rfl, _, rfl, tx_size (by omega), ?_⟩
   dsimp only
   rw [slice_take (by omega)]
   refine hR _ _ ⟨_, rfl, rfl, ?_, ?_, fun c hc => ?_⟩
   ·rw [List.length_take]; omega
   ·rw [List.length_take]; omega
   ·obtain ⟨q, hq, hcq⟩ := List.mem_flatten.mp (List.mem_of_mem_take hc)
    rw [(List.mem_replicate.mp hq).2] at hcq
    exact hyc c hcq
  clear z1 z3 zc hz
  clear z
  rintro σ H8 ⟨z, rfl, rfl, z1, z3, zc⟩
  refine seq_any (fun σ H9 => ∃ z : List Nat, σ = [some (.ref Dk), some (.int most), some (.str (tx y)), some (.str (tx z)), some (.int wy), some (.int c4)] ∧ Same H8 H9 ∧ 1 ≤ z.length ∧ z.length ≤ 63 ∧ Cd z) (fun R hR => ?_) ?_
  ·refine ⟨_, rfl, rfl, _, rfl, ite2 (fun e => ?_) (fun e => hR _ _ ⟨z, rfl, Same.refl _, z1, z3, zc⟩)⟩
   refine ⟨_, rfl, _, rfl, _, rfl, tx_size (by omega), rfl, _, rfl, _, rfl, _, rfl, tx_size (by omega), _, rfl, ?_, fun p hp => ?_⟩
   ·rw [slice_take (by decide)]
    exact tx_size (by rw [List.length_take]; omega)
   rw [slice_take (by decide), tx_list]
   have hz' : (z.take (30 : Int).toNat).length ≤ 30 ∧ 1 ≤ (z.take (30 : Int).toNat).length := by
    rw [List.length_take]
    have : (30 : Int).toNat = 30 := rfl
    omega
   have hyc : Cd (z.take (30 : Int).toNat) := fun c hc => zc c (List.mem_of_mem_take hc)
   generalize z.take (30 : Int).toNat = u at hz' hyc
   have s6 := same_upd_new (o := .lst (u.reverse.map fun c => V.str (tx [c]))) hp
   have em : (u.reverse.map fun c => V.str (tx [c])) = (u.reverse.map fun c => tx [c]).map V.str := by rw [List.map_map]; rfl
   refine ⟨"", p, u.reverse.map fun c => tx [c], rfl, rfl, SqL.of (by rw [upd_same, em]), ones_sum u.reverse (by rw [List.length_reverse]; omega), ?_⟩
   rw [join_ones]
   refine ⟨_, _, rfl, rfl, ?_, ?_⟩
   ·rw [tx_len, tx_len, List.length_reverse]; exact few_size (by omega)
   rw [tx_app]
   refine hR _ _ ⟨_, rfl, s6, ?_, ?_, fun c hc => ?_⟩
   ·rw [List.length_append]; omega
   ·rw [List.length_append, List.length_reverse]; omega
   ·rcases List.mem_append.mp hc with q | q
    ·exact hyc c q
    ·exact hyc c (List.mem_reverse.mp q)
  clear z1 z3 zc
  clear z
  rintro σ H9 ⟨z, rfl, s9, z1, z3, zc⟩
  refine seq_any (fun σ H10 => ∃ z : List Nat, σ = [some (.ref Dk), some (.int most), some (.str (tx y)), some (.str (tx z)), some (.int wy), some (.int c4)] ∧ H10 = H9 ∧ 1 ≤ z.length ∧ z.length ≤ 63 ∧ Cd z) (fun R hR => ?_) ?_
  ·refine ⟨_, rfl, rfl, _, rfl, ite2 (fun e => ?_) (fun e => hR _ _ ⟨z, rfl, rfl, z1, z3, zc⟩)⟩
   have m6 := emod_bd c4 (show (0 : Int) < 6 by decide)
   refine ⟨_, rfl, _, rfl, _, rfl, tx_size (by omega), _, rfl, _, rfl, _, _, rfl, rfl, (by show (0 : Int) < 6; decide), _, _, rfl, rfl, _, rfl, _, rfl, tx_size (by omega), ?_⟩
   dsimp only
   rw [slice_take (by decide), slice_take (by omega)]
   have b1 : (z.take (40 : Int).toNat).length ≤ 40 ∧ 1 ≤ (z.take (40 : Int).toNat).length := by
    rw [List.length_take]
    have : (40 : Int).toNat = 40 := rfl
    omega
   have b2 : (z.take (1 + c4 % 6).toNat).length ≤ 6 := by
    rw [List.length_take]; omega
   refine ⟨_, _, rfl, rfl, ?_, ?_⟩
   ·rw [tx_len, tx_len]; exact few_size (by omega)
   rw [tx_app]
   refine hR _ _ ⟨_, rfl, rfl, ?_, ?_, fun c hc => ?_⟩
   ·rw [List.length_append]; omega
   ·rw [List.length_append]; omega
   ·rcases List.mem_append.mp hc with q | q
    ·exact zc c (List.mem_of_mem_take q)
    ·exact zc c (List.mem_of_mem_take q)
  clear z1 z3 zc
  clear z
  rintro σ H10 ⟨z, rfl, rfl, z1, z3, zc⟩
  exact ⟨_, rfl, k z _ (sb7.trans (sbOf s9)) (hD7.same s9) z1 z3 zc⟩
end
section
variable {P : Program} {w : World} {K : PySem.W.Frag} {mg : Str → Option Value} {base : Heap}
end
section
variable {P : Program} {w : World} {K : PySem.W.Frag} {mg : Str → Option Value} {base : Heap}
end
section
variable {P : Program} {w : World} {K : PySem.W.Frag} {mg : Str → Option Value} {base : Heap} {S C A1 A2 A3 A4 A5 A6 A7 A8 : Addr}
end
section
variable {P : Program} {w : World} {K : PySem.W.Frag} {mg : Str → Option Value} {base : Heap}
abbrev sLPoints : Stmt := top 39
abbrev nLPoints : List Str := ["_law_signs_here", "_law_long"]
theorem scLPoints : FnScope nLPoints ["_law_signs_here", "_law_long"] (defScope sLPoints) := ⟨rfl, rfl, rfl, by decide +kernel, rfl, by decide +kernel, by decide +kernel⟩
theorem ok_l_points (D : HasDef K mg "_law_points" sLPoints ["_law_signs_here", "_law_long"]) (B : Blt mg) : FOk P w K mg base 1 "_law_points" ["_law_signs_here", "_law_long"] spPts := by
 refine D.ok scLPoints (fun vs H Q E h => ?_) (fun f cdv A outer s H vs Q E hr h => ?_)
 ·obtain ⟨z, L, rfl, _⟩ := h
  rfl
 ·obtain ⟨z, L, rfl, hF, hz, k⟩ := h
  refine ⟨_, (pss_one (ps_ret (pe_lcomp (defScope sLPoints) nLPoints ["_law_at"] [0, 1] rfl (pi_range1 rfl B.range (pa_cons (pe_op op_add (pe_op op_sub (pe_callB call_len rfl B.len b_len (pa_cons (pv 0) pa_nil)) (pv 1)) pe_int) pa_nil)) (fun _ _ _ _ _ => pg_lc 0) (fun _ _ _ _ _ => pcs_nil) (fun _ _ _ _ _ => (pe_slice sl_str (pv 1) (po_some (pv 0)) (po_some (pe_op op_sub (pe_op op_add (pv 0) (pv 2)) pe_int))))))), ?_⟩
  have o := hF.one
  have l := hF.le
  refine ⟨_, rfl, .str (tx z), z.length, rfl, ⟨tx_size hz, (tx_len z).symm⟩, _, rfl, _, _, rfl, rfl, _, _, rfl, rfl, _, rfl, by omega, by omega, ?_⟩
  have en : ((z.length : Int) - (L : Int) + 2).toNat = z.length - L + 2 := by omega
  rw [en]
  refine lc_map (z.length - L + 2) (fun i => .int (0 + (i : Int))) (fun i v _ => v = .str (tx (pt z L i))) (size_small (by omega)) (fun _ _ _ _ _ r => r) jt_range ?_ ?_
  ·intro i H3 Qe hi hs kq
   refine ⟨_, rfl, _, rfl, _, rfl, _, rfl, _, rfl, _, _, rfl, rfl, _, _, rfl, rfl, _, rfl, _, rfl, tx_size hz, kq _ _ (Same.refl _) ?_⟩
   rw [slice_seg (z := z) (a := i) (b := i + L - 1) (by omega) (by omega) (by omega) (by omega)]
   rfl
  ·intro D1 vs1 H3 hl1 hr1 hs3 hD1 hDl1
   refine k D1 H3 hs3 ?_
   rw [hDl1, vs_range hl1 hr1]
   rfl
abbrev sLPart : Stmt := top 40
abbrev nLPart : List Str := ["_law_signs_here", "_law_long", "_law_one", "_law_other"]
theorem scLPart : FnScope nLPart ["_law_signs_here", "_law_long", "_law_one", "_law_other"] (defScope sLPart) := ⟨rfl, rfl, rfl, by decide +kernel, rfl, by decide +kernel, by decide +kernel⟩
theorem ok_l_part (D : HasDef K mg "_law_part" sLPart ["_law_signs_here", "_law_long", "_law_one", "_law_other"]) (B : Blt mg) : FOk P w K mg base 1 "_law_part" ["_law_signs_here", "_law_long", "_law_one", "_law_other"] spStretch := by
 refine D.ok scLPart (fun vs H Q E h => ?_) (fun f cdv A outer s H vs Q E hr h => ?_)
 ·obtain ⟨z, L, a, b, rfl, _⟩ := h
  rfl
 ·obtain ⟨z, L, a, b, rfl, hF, hz, hab, hb, k⟩ := h
  refine ⟨_, (pss_one (ps_ret (pe_slice sl_str (pv 0) (po_some (pe_op op_sub (pe_op op_add (pv 2) (pv 1)) pe_int)) (po_some (pe_op op_sub (pe_op op_add (pv 3) (pv 1)) pe_int))))), ?_⟩
  refine ⟨_, rfl, _, rfl, _, rfl, _, _, rfl, rfl, _, _, rfl, rfl, _, rfl, _, rfl, _, rfl, _, _, rfl, rfl, _, _, rfl, rfl, _, rfl, _, rfl, tx_size hz, ?_⟩
  have := hF.one
  have := hF.le
  rw [slice_seg (z := z) (a := a + L - 1) (b := b + L - 1) (by omega) (by omega) (by omega) (by omega)]
  exact k
abbrev sLTorn : Stmt := top 45
abbrev nLTorn : List Str := ["_law_signs_here", "_law_long"]
theorem scLTorn : FnScope nLTorn ["_law_signs_here", "_law_long"] (defScope sLTorn) := ⟨rfl, rfl, rfl, by decide +kernel, rfl, by decide +kernel, by decide +kernel⟩
def spTorn : Sp := fun vs H Q _ => ∃ (z : List Nat) (L : Nat), vs = [.str (tx z), .int L] ∧ Fit z L ∧ z.length ≤ 100 ∧ ∀ p H' (ss : List Str), Same H H' → H' p = some (.lst (ss.map V.str)) → ss.Perm ((win L z).map tx) → (ss.map fun x => x.cps.toList).Pairwise (· ≤ ·) → Q (.ref p) H'
theorem ok_l_torn (D : HasDef K mg "_law_torn" sLTorn ["_law_signs_here", "_law_long"]) (B : Blt mg) : FOk P w K mg base 1 "_law_torn" ["_law_signs_here", "_law_long"] spTorn := by
 refine D.ok scLTorn (fun vs H Q E h => ?_) (fun f cdv A outer s H vs Q E hr h => ?_)
 ·obtain ⟨z, L, rfl, _⟩ := h
  rfl
 ·obtain ⟨z, L, rfl, hF, hz, k⟩ := h
  refine ⟨_, (pss_one (ps_ret (pe_callB call_sortedSL rfl B.sorted b_sorted (pa_cons (pe_lcomp (defScope sLTorn) nLTorn ["_law_at"] [0, 1] rfl (pi_range1 rfl B.range (pa_cons (pe_op op_add (pe_op op_sub (pe_callB call_len rfl B.len b_len (pa_cons (pv 0) pa_nil)) (pv 1)) pe_int) pa_nil)) (fun _ _ _ _ _ => pg_lc 0) (fun _ _ _ _ _ => pcs_nil) (fun _ _ _ _ _ => (pe_slice sl_str (pv 1) (po_some (pv 0)) (po_some (pe_op op_add (pv 0) (pv 2)))))) pa_nil)))), ?_⟩
  have o := hF.one
  have l := hF.le
  refine ⟨_, rfl, .str (tx z), z.length, rfl, ⟨tx_size (by omega), (tx_len z).symm⟩, _, rfl, _, _, rfl, rfl, _, _, rfl, rfl, _, rfl, by omega, by omega, ?_⟩
  have en : ((z.length : Int) - (L : Int) + 1).toNat = z.length + 1 - L := by omega
  rw [en]
  refine lc_map (z.length + 1 - L) (fun i => .int (0 + (i : Int))) (fun i v _ => v = .str (tx ((z.drop i).take L))) (size_small (by omega)) (fun _ _ _ _ _ r => r) jt_range ?_ ?_
  ·intro i H3 Qe hi hs kq
   refine ⟨_, rfl, _, rfl, _, rfl, _, rfl, _, rfl, _, _, rfl, rfl, _, rfl, _, rfl, tx_size (by omega), kq _ _ (Same.refl _) ?_⟩
   rw [slice_seg (z := z) (a := i) (b := i + L) (by omega) (by omega) (by omega) (by omega)]
   unfold seg
   rw [show i + L - i = L by omega]
  ·intro D1 vs1 H3 hl1 hr1 hs3 hD1 hDl1
   have e1 : vs1 = ((win L z).map tx).map V.str := by
    rw [vs_range hl1 hr1]
    unfold win
    rw [List.map_map, List.map_map]
    rfl
   rw [e1] at hDl1
   refine ⟨D1, (win L z).map tx, rfl, SqL.of hDl1, ?_, fun p ss hp hperm hsort => ?_⟩
   ·unfold win
    rw [List.length_map, List.length_map, List.length_range]
    omega
   ·exact k p _ ss (hs3.trans (same_upd_new hp)) upd_same hperm hsort
end
section
variable {P : Program} {w : World} {K : PySem.W.Frag} {mg : Str → Option Value} {base : Heap}
abbrev sLLed : Stmt := top 41
abbrev nLLed : List Str := ["_law_signs_here", "_law_long", "_law_deed", "_law_last", "_law_at", "_law_made"]
theorem scLLed : FnScope nLLed ["_law_signs_here", "_law_long", "_law_deed"] (defScope sLLed) := ⟨rfl, rfl, rfl, by decide +kernel, rfl, by decide +kernel, by decide +kernel⟩
def spLed : Sp := fun vs H Q _ => ∃ (z : List Nat) (L : Nat) (a : Addr) (xs : List V) (r : List Nat), vs = [.str (tx z), .int L, .ref a] ∧ Fit z L ∧ z.length ≤ 63 ∧ H a = some (.tup xs) ∧ doneO z L (some xs) = some r ∧ Q (.str (tx r)) H
theorem ok_l_led (D : HasDef K mg "_law_led" sLLed ["_law_signs_here", "_law_long", "_law_deed"]) (B : Blt mg) (g7_ : FOk P w K mg base 1 "_law_part" ["_law_signs_here", "_law_long", "_law_one", "_law_other"] spStretch) : FOk P w K mg base 2 "_law_led" ["_law_signs_here", "_law_long", "_law_deed"] spLed := by
 refine D.ok scLLed (fun vs H Q E h => ?_) (fun f cdv A outer s H vs Q E hr h => ?_)
 ·obtain ⟨z, L, a, xs, r, rfl, _⟩ := h
  rfl
 ·obtain ⟨z, L, a, xs, r, rfl, hF, hz, ha, hdone, k⟩ := h
  refine ⟨_, (pss_cons (ps_set (i := 3) scLLed.nd rfl (Or.inl rfl) (pe_op op_add (pe_op op_sub (pe_callB call_len rfl B.len b_len (pa_cons (pv 0) pa_nil)) (pv 1)) pe_int))
   (pss_cons (ps_if (pt_cmpR op_eq (pe_ix ix_tup (pv 2) pe_int (fun _ _ => rfl)) pe_str (nomark _)) (pss_cons (ps_set (i := 4) scLLed.nd rfl (Or.inl rfl) (pe_ix ix_tup (pv 2) pe_int (fun _ _ => rfl)))
   (pss_one (ps_ret (pe_op op_add_str (pe_op op_add_str (pe_slice sl_str (pv 0) (po_some (pv 4)) (po_some (pe_op op_sub (pe_op op_add (pv 4) (pv 1)) pe_int))) (pe_fn g7_ hr (pa_cons (pv 0) (pa_cons (pv 1) (pa_cons (pv 4) (pa_cons (pv 3) pa_nil)))))) (pe_fn g7_ hr (pa_cons (pv 0) (pa_cons (pv 1) (pa_cons pe_int (pa_cons (pv 4) pa_nil))))))))) pss_nil)
   (pss_cons (ps_set (i := 5) scLLed.nd rfl (Or.inl rfl) (pe_op op_add_str (pe_op op_add_str (pe_slice sl_str (pv 0) po_none (po_some (pe_op op_sub (pv 1) pe_int))) (pe_fn g7_ hr (pa_cons (pv 0) (pa_cons (pv 1) (pa_cons pe_int (pa_cons (pe_ix ix_tup (pv 2) pe_int (fun _ _ => rfl)) pa_nil)))))) (pe_fn g7_ hr (pa_cons (pv 0) (pa_cons (pv 1) (pa_cons (pe_ix ix_tup (pv 2) pe_int (fun _ _ => rfl)) (pa_cons (pe_ix ix_tup (pv 2) pe_int (fun _ _ => rfl)) pa_nil)))))))
   (pss_cons (ps_set (i := 5) scLLed.nd rfl (Or.inl rfl) (pe_op op_add_str (pe_op op_add_str (pv 5) (pe_fn g7_ hr (pa_cons (pv 0) (pa_cons (pv 1) (pa_cons (pe_ix ix_tup (pv 2) pe_int (fun _ _ => rfl)) (pa_cons (pe_ix ix_tup (pv 2) pe_int (fun _ _ => rfl)) pa_nil)))))) (pe_fn g7_ hr (pa_cons (pv 0) (pa_cons (pv 1) (pa_cons (pe_ix ix_tup (pv 2) pe_int (fun _ _ => rfl)) (pa_cons (pe_ix ix_tup (pv 2) pe_int (fun _ _ => rfl)) pa_nil)))))))
   (pss_one (ps_ret (pe_op op_add_str (pv 5) (pe_fn g7_ hr (pa_cons (pv 0) (pa_cons (pv 1) (pa_cons (pe_ix ix_tup (pv 2) pe_int (fun _ _ => rfl)) (pa_cons (pv 3) pa_nil)))))))))))), ?_⟩
  have o := hF.one
  have l := hF.le
  have hz' : z.length ≤ 1000 := by omega
  have elast : (z.length : Int) - (L : Int) + 1 = ((z.length - L + 1 : Nat) : Int) := by omega
  refine ⟨_, rfl, .str (tx z), z.length, rfl, ⟨tx_size hz', (tx_len z).symm⟩, _, rfl, _, _, rfl, rfl, _, _, rfl, rfl, ?_⟩
  dsimp only
  rw [elast]
  rcases done_cases hdone with ⟨p0, p1, p2, p3, e, h01, h12, h23, h3, _, _, rfl⟩ | ⟨p, e, hp, _, rfl⟩
  ·have ex := Option.some.inj e
   subst ex
   have hsw := swap_len hF h01 h12 h23 h3
   unfold swapF at hsw k
   simp only [List.length_append] at hsw
   refine ⟨_, rfl, a, _, 0, _, rfl, rfl, SqT.of ha, item_at (by decide) rfl, rfl, _, rfl, iteM (by decide) ?_⟩
   refine ⟨_, rfl, _, rfl, _, _, rfl, rfl, _, rfl, _, rfl, tx_size hz', ?_⟩
   have esl : Txt.slice (tx z) none (some ((L : Int) - 1)) = tx (pt z L 0) := by
    rw [slice_take (by omega), show ((L : Int) - 1).toNat = L - 1 by omega, take_pt hF]
   dsimp only
   rw [esl]
   refine ⟨_, rfl, _, rfl, _, rfl, a, _, 1, _, rfl, rfl, SqT.of ha, item_at (by decide) rfl, z, L, 0, p0, rfl, hF, hz', by omega, by omega, _, _, rfl, rfl, ?_, ?_⟩
   ·rw [tx_len, tx_len]; exact few_size (by omega)
   rw [tx_app]
   refine ⟨_, rfl, _, rfl, _, rfl, a, _, 3, _, rfl, rfl, SqT.of ha, item_at (by decide) rfl, _, rfl, a, _, 4, _, rfl, rfl, SqT.of ha, item_at (by decide) rfl, z, L, p2, p3, rfl, hF, hz', h23, h3, _, _, rfl, rfl, ?_, ?_⟩
   ·rw [tx_len, tx_len, List.length_append]; exact few_size (by omega)
   rw [tx_app]
   refine ⟨_, rfl, _, rfl, _, rfl, _, rfl, a, _, 2, _, rfl, rfl, SqT.of ha, item_at (by decide) rfl, _, rfl, a, _, 3, _, rfl, rfl, SqT.of ha, item_at (by decide) rfl, z, L, p1, p2, rfl, hF, hz', h12, by omega, _, _, rfl, rfl, ?_, ?_⟩
   ·rw [tx_len, tx_len]; simp only [List.length_append]; exact few_size (by omega)
   rw [tx_app]
   refine ⟨_, rfl, _, rfl, _, rfl, a, _, 1, _, rfl, rfl, SqT.of ha, item_at (by decide) rfl, _, rfl, a, _, 2, _, rfl, rfl, SqT.of ha, item_at (by decide) rfl, z, L, p0, p1, rfl, hF, hz', h01, by omega, _, _, rfl, rfl, ?_, ?_⟩
   ·rw [tx_len, tx_len]; simp only [List.length_append]; exact few_size (by omega)
   rw [tx_app]
   refine ⟨_, rfl, _, rfl, _, rfl, _, rfl, a, _, 4, _, rfl, rfl, SqT.of ha, item_at (by decide) rfl, _, rfl, z, L, p3, z.length - L + 1, rfl, hF, hz', h3, by omega, _, _, rfl, rfl, ?_, ?_⟩
   ·rw [tx_len, tx_len]; simp only [List.length_append]; exact few_size (by omega)
   rw [tx_app]
   simp only [List.append_assoc]
   exact k
  ·have ex := Option.some.inj e
   subst ex
   have hl := turn_len hF hp
   unfold turnF at hl k
   rw [List.length_append, List.length_append] at hl
   refine ⟨_, rfl, a, _, 0, _, rfl, rfl, SqT.of ha, item_at (by decide) rfl, rfl, _, rfl, iteP (by decide) ?_⟩
   refine ⟨_, rfl, a, _, 1, _, rfl, rfl, SqT.of ha, item_at (by decide) rfl, ?_⟩
   refine ⟨_, rfl, _, rfl, _, rfl, _, rfl, _, rfl, _, _, rfl, rfl, _, _, rfl, rfl, _, rfl, _, rfl, tx_size hz', ?_⟩
   dsimp only
   rw [slice_seg (z := z) (a := p) (b := p + L - 1) rfl (by omega) (by omega) (by omega)]
   refine ⟨_, rfl, _, rfl, _, rfl, _, rfl, z, L, p, z.length - L + 1, rfl, hF, hz', hp, by omega, _, _, rfl, rfl, ?_, ?_⟩
   ·rw [tx_len, tx_len]
    have : (seg z p (p + L - 1)).length = (pt z L p).length := rfl
    exact few_size (by omega)
   rw [tx_app]
   refine ⟨_, rfl, _, rfl, _, rfl, z, L, 0, p, rfl, hF, hz', by omega, hp, _, _, rfl, rfl, ?_, ?_⟩
   ·rw [tx_len, tx_len, List.length_append]
    have : (seg z p (p + L - 1)).length = (pt z L p).length := rfl
    exact few_size (by omega)
   rw [tx_app]
   exact k
end
def okDeed (o : Option (List V)) : Bool := deedO "turn" 1 o || deedO "swap" 4 o
theorem okDeed_len {xs : List V} (h2 : xs.length ≠ 2) (h5 : xs.length ≠ 5) : okDeed (some xs) = false := by
 show (deedL "turn" 1 xs || deedL "swap" 4 xs) = false
 unfold deedL
 rw [decide_eq_false (show ¬ xs.length = 1 + 1 by omega), decide_eq_false (show ¬ xs.length = 4 + 1 by omega)]
 rfl
theorem okDeed_head {y : V} {ys : List V} (h : isStrV y = false) : okDeed (some (y :: ys)) = false := by
 show (deedL "turn" 1 (y :: ys) || deedL "swap" 4 (y :: ys)) = false
 unfold deedL
 have h1 : ¬ (y = V.str "turn") := fun q => by rw [q] at h; cases h
 have h2 : ¬ (y = V.str "swap") := fun q => by rw [q] at h; cases h
 simp [h1, h2]
theorem okDeed_ints {y : V} {ys : List V} (h : ys.all isIntV = false) : okDeed (some (y :: ys)) = false := by
 show (deedL "turn" 1 (y :: ys) || deedL "swap" 4 (y :: ys)) = false
 unfold deedL
 rw [List.drop_succ_cons, List.drop_zero, h, Bool.and_false, Bool.and_false]
 rfl
theorem okDeed_all {y : V} {ys : List V} (h : ys.all isIntV = true) (hl : ys.length = 1 ∨ ys.length = 4) : okDeed (some (y :: ys)) = decide (y = V.str (if ys.length = 4 then "swap" else "turn")) := by
 show (deedL "turn" 1 (y :: ys) || deedL "swap" 4 (y :: ys)) = _
 unfold deedL
 rw [List.drop_succ_cons, List.drop_zero, h, Bool.and_true, Bool.and_true]
 rcases hl with hl | hl
 ·rw [if_neg (by omega)]
  simp [hl]
 ·rw [if_pos hl]
  simp [hl]
theorem in25 (n : Nat) : inV (.int (n : Int)) [.int 2, .int 5] = decide (n = 2 ∨ n = 5) := by
 rw [Bool.eq_iff_iff]
 simp [inV, eqV]
 omega
section
variable {P : Program} {w : World} {K : PySem.W.Frag} {mg : Str → Option Value} {base : Heap}
abbrev sLIsDeed : Stmt := top 43
abbrev nLIsDeed : List Str := ["_law_deed", "_law_place"]
theorem scLIsDeed : FnScope nLIsDeed ["_law_deed"] (defScope sLIsDeed) := ⟨rfl, rfl, rfl, by decide +kernel, rfl, by decide +kernel, by decide +kernel⟩
def spLIsDeed : Sp := fun vs H Q _ => ∃ (x : V) (o : Option (List V)), vs = [x] ∧ DeedV H x o ∧ ∀ H', Same H H' → Q (.bl (okDeed o)) H'
theorem ok_l_is_deed (D : HasDef K mg "_law_is_deed" sLIsDeed ["_law_deed"]) (B : Blt mg) : FOk P w K mg base 1 "_law_is_deed" ["_law_deed"] spLIsDeed := by
 refine D.ok scLIsDeed (fun vs H Q E h => ?_) (fun f cdv A outer s H vs Q E hr h => ?_)
 ·obtain ⟨x, o, rfl, _⟩ := h
  rfl
 ·obtain ⟨x, o, rfl, hD, k⟩ := h
  refine ⟨_, (pss_cons (ps_if (PW.pt (pw_or (pt_not (pt_val (pe_callB call_isiB rfl B.isi b_isi (pa_cons (pv 0) (pa_cons (pe_ty rfl B.tuple b_tuple) pa_nil))))) (pw_or (pt_cmpR op_notIn_seq (pe_callB call_len rfl B.len b_len (pa_cons (pv 0) pa_nil)) (pe_lst (pa_cons pe_int (pa_cons pe_int pa_nil))) rfl) (pw_or1 (pt_not (pt_val (pe_callB call_isiB rfl B.isi b_isi (pa_cons (pe_ix ix_tup (pv 0) pe_int (fun _ _ => rfl)) (pa_cons (pe_ty rfl B.str b_str) pa_nil))))))))) (pss_one (ps_ret pe_bl)) pss_nil)
   (pss_cons (ps_for PassesOwn.never rfl (pi_tup (pe_slice sl_tup (pv 0) (po_some pe_int) po_none)) (pg_name (i := 1) scLIsDeed.nd rfl (Or.inl rfl))
    (pss_one (ps_if (PW.pt (pw_or (pt_not (pt_val (pe_callB call_isiB rfl B.isi b_isi (pa_cons (pv 1) (pa_cons (pe_ty rfl B.int b_int) pa_nil))))) (pw_or1 (pt_val (pe_callB call_isiB rfl B.isi b_isi (pa_cons (pv 1) (pa_cons (pe_ty rfl B.bool b_bool) pa_nil))))))) (pss_one (ps_ret pe_bl)) pss_nil)))
   (pss_one (ps_ret (pe_cmpR op_eq (pe_ix ix_tup (pv 0) pe_int (fun _ _ => rfl)) (pe_ix ix_list (pe_lst (pa_cons pe_str (pa_cons pe_str pa_nil))) (pe_callTy call_int1 rfl B.int b_int (pa_cons (pe_cmpR op_eq (pe_callB call_len rfl B.len b_len (pa_cons (pv 0) pa_nil)) pe_int (nomark _)) pa_nil)) (fun _ _ => rfl)) (nomark _)))))), ?_⟩
  cases hD with
  | @no _ n t hn =>
   refine ⟨_, rfl, x, "tuple", n, rfl, by decide, t, _, rfl, iteP (by rw [ty_tup t hn]; rfl) (iteT ?_)⟩
   exact k H (Same.refl _)
  | @tup a xs e ht =>
   refine ⟨_, rfl, .ref a, "tuple", "tuple", rfl, by decide, .tup e, _, rfl, iteM (by decide) ?_⟩
   refine ⟨_, rfl, .ref a, xs.length, rfl, .inr ⟨xs, SqT.of e, rfl⟩, two_size, fun p hp => ?_⟩
   have s1 := same_upd_new (o := .lst [.int 2, .int 5]) hp
   refine ⟨p, _, rfl, .inl (SqL.of upd_same), rfl, rfl, _, rfl, ?_⟩
   rw [if_pos rfl, in25]
   by_cases hl : xs.length = 2 ∨ xs.length = 5
   ·refine iteM (by rw [decide_eq_true hl]; rfl) ?_
    obtain ⟨y, ys, rfl⟩ : ∃ y ys, xs = y :: ys := by
     cases xs with
     | nil => simp at hl
     | cons y ys => exact ⟨y, ys, rfl⟩
    have hl' : ys.length = 1 ∨ ys.length = 4 := by simp at hl; omega
    obtain ⟨n0, t0⟩ := ht y (by simp)
    refine ⟨_, rfl, a, _, 0, y, rfl, rfl, SqT.of (s1 _ _ e), item_at (by decide) rfl, y, "str", n0, rfl, by decide, t0.same s1, _, rfl, ?_⟩
    rw [ty_str t0]
    by_cases hs : isStrV y = true
    ·refine iteM (by rw [hs]; rfl) ?_
     have ecut : cutV (y :: ys) (some 1) none = ys := cut_from (i := 1) (xs := y :: ys) (by simp)
     refine ⟨_, rfl, _, rfl, a, _, rfl, SqT.of (s1 _ _ e), ?_, fun q hq => ?_⟩
     ·rintro ⟨q, _⟩
      have e1 : HT.sIx (y :: ys).length 0 (some ((1 : Nat) : Int)) = 1 := sIx_to (by simp)
      exact absurd (e1.symm.trans q) (by decide)
     rw [ecut]
     have s2 := same_upd_new (o := .tup ys) hq
     have s12 := s1.trans s2
     have hq2 := upd_same (H := upd H p (.lst [.int 2, .int 5])) (a := q) (o := .tup ys)
     generalize upd (upd H p (.lst [.int 2, .int 5])) q (.tup ys) = H2 at s12 hq2
     refine ⟨q, rfl, ⟨_, SqT.of hq2⟩, for_tup (K := K) (a := q) (xs := ys) (fun i σ H3 => H3 = H2 ∧ (∃ z : Option V, σ = [some (.ref a), z]) ∧ ∀ j, j < i → isIntV (ys.getD j .non) = true) ⟨rfl, ⟨none, rfl⟩, fun j hj => absurd hj (Nat.not_lt_zero _)⟩ (fun i σ H3 _ ⟨e3, _, _⟩ => by rw [e3]; exact SqT.of hq2) ?_ ?_⟩
     ·rintro i v σ H3 hv ⟨rfl, ⟨z, rfl⟩, hp3⟩
      have hi := (List.getElem?_eq_some_iff.mp hv).1
      have ev : ys.getD i .non = v := by rw [List.getD_eq_getElem?_getD, hv]; rfl
      obtain ⟨nv, tv⟩ := ht v (List.mem_cons_of_mem _ (List.mem_of_getElem? hv))
      have tv' := tv.same s12
      have bad : isIntV v = false → Q (.bl false) H3 := fun hb => by
       have kk := k H3 s12
       rw [okDeed_ints] at kk
       ·exact kk
       ·rw [List.all_eq_false]
        exact ⟨v, List.mem_of_getElem? hv, by rw [hb]; decide⟩
      refine ⟨_, rfl, v, "int", nv, rfl, by decide, tv', _, rfl, ?_⟩
      cases hi1 : isiB nv "int" with
      | false =>
       refine iteP rfl (iteT ?_)
       refine bad ?_
       rw [← ty_int tv]
       have : ∀ n ∈ tyNames, isiB n "int" = false → (n == "int") = false := by decide
       exact this nv tv.mem hi1
      | true =>
       refine iteM rfl ?_
       refine ⟨_, rfl, v, "bool", nv, rfl, by decide, tv', _, rfl, ?_⟩
       have ei := (isi_int nv tv.mem).1 hi1
       rw [ty_int tv] at ei
       cases hb : isiB nv "bool" with
       | true =>
        rw [hb] at ei
        exact iteT (bad ei.symm)
       | false =>
        rw [hb] at ei
        refine iteF ⟨rfl, ⟨_, rfl⟩, fun j hj => ?_⟩
        by_cases c : j < i
        ·exact hp3 j c
        ·have : j = i := by omega
         rw [this, ev]
         exact ei.symm
     ·rintro σ H3 ⟨rfl, ⟨z, rfl⟩, hp3⟩
      have hall : ys.all isIntV = true := by
       rw [List.all_eq_true]
       intro v hv
       obtain ⟨j, hj, ej⟩ := List.mem_iff_getElem.mp hv
       have := hp3 j hj
       rw [List.getD_eq_getElem?_getD, List.getElem?_eq_getElem hj] at this
       rw [← ej]
       exact this
      refine ⟨_, rfl, a, _, 0, y, rfl, rfl, SqT.of (s12 _ _ e), item_at (by decide) rfl, two_size, fun r hr => ?_⟩
      have s3 := same_upd_new (o := .lst [.str "turn", .str "swap"]) hr
      have ye : ∃ wd, y = V.str wd := by
       cases t0 <;> first | exact ⟨_, rfl⟩ | (simp [isStrV] at hs)
      obtain ⟨wd, rfl⟩ := ye
      have kk := k _ (s12.trans s3)
      rw [okDeed_all hall hl'] at kk
      refine ⟨_, rfl, .ref a, _, rfl, .inr ⟨_, SqT.of (s3 _ _ (s12 _ _ e)), rfl⟩, rfl, .inr ⟨_, rfl, ?_⟩⟩
      rcases hl' with h | h
      ·rw [if_neg (by omega)] at kk
       have ed : decide (V.int ((V.str wd :: ys).length : Nat) = V.int 5) = false := int_ne (by simp [h])
       rw [ed]
       exact ⟨r, _, 0, .str "turn", rfl, rfl, SqL.of upd_same, item_at (by decide) rfl, rfl, kk⟩
      ·rw [if_pos h] at kk
       have ed : decide (V.int ((V.str wd :: ys).length : Nat) = V.int 5) = true := int_is (by simp [h])
       rw [ed]
       exact ⟨r, _, 1, .str "swap", rfl, rfl, SqL.of upd_same, item_at (by decide) rfl, rfl, kk⟩
    ·refine iteP (by rw [Bool.eq_false_iff.mpr hs]; rfl) ?_
     have kk := k _ s1
     rw [okDeed_head (Bool.eq_false_iff.mpr hs)] at kk
     exact kk
   ·refine iteP (by rw [decide_eq_false hl]; rfl) (iteT ?_)
    have kk := k _ s1
    rw [okDeed_len (fun q => hl (.inl q)) (fun q => hl (.inr q))] at kk
    exact kk
end
def Chk (z : List Nat) (L : Nat) (ns : List Int) (i : Nat) : Prop := ∀ j, j < i → (0 :: ns).getD j 0 ≤ ns.getD j 0 ∧ ns.getD j 0 ≤ ((z.length - L + 1 : Nat) : Int)
theorem chk1 {z : List Nat} {L : Nat} {p : Int} : Chk z L [p] 1 ↔ ascB (boundL z L [p]) = true := by
 simp only [ascB, boundL, Chk]
 constructor
 ·intro h
  have := h 0 (by decide)
  simp [List.range_succ] at this ⊢
  omega
 ·intro h j hj
  have : j = 0 := by omega
  subst this
  simp [List.range_succ] at h ⊢
  omega
theorem chk4 {z : List Nat} {L : Nat} {a b c d : Int} : Chk z L [a, b, c, d] 4 ↔ ascB (boundL z L [a, b, c, d]) = true := by
 simp only [ascB, boundL, Chk]
 constructor
 ·intro h
  have h0 := h 0 (by decide)
  have h1 := h 1 (by decide)
  have h2 := h 2 (by decide)
  have h3 := h 3 (by decide)
  simp [List.range_succ] at h0 h1 h2 h3 ⊢
  omega
 ·intro h j hj
  simp [List.range_succ] at h
  match j, hj with
  | 0, _ => simp; omega
  | 1, _ => simp; omega
  | 2, _ => simp; omega
  | 3, _ => simp; omega
theorem pts_at {z : List Nat} {L p : Nat} (h : p ≤ z.length - L + 1) : atI (ptsL z L) (p : Int) = some (.str (tx (pt z L p))) := by
 refine atI_nat ?_
 unfold ptsL
 rw [List.getElem?_map, List.getElem?_range (by omega)]
 rfl
theorem pts_last {z : List Nat} {L : Nat} : atI (ptsL z L) (-1) = some (.str (tx (pt z L (z.length - L + 1)))) := by
 have hl : (ptsL z L).length = z.length - L + 2 := by unfold ptsL; simp
 unfold atI
 rw [hl]
 have e : ixN (z.length - L + 2) (-1) = some (z.length - L + 1) := by
  unfold ixN
  rw [if_neg (by decide), if_pos (by omega)]
  congr 1
  omega
 rw [e]
 show (ptsL z L)[z.length - L + 1]? = _
 unfold ptsL
 rw [List.getElem?_map, List.getElem?_range (by omega)]
 rfl
section
variable {P : Program} {w : World} {K : PySem.W.Frag} {mg : Str → Option Value} {base : Heap}
abbrev sLFits : Stmt := top 42
abbrev nLFits : List Str := ["_law_signs_here", "_law_long", "_law_deed", "_law_points_here", "_law_ahead", "_law_place"]
theorem scLFits : FnScope nLFits ["_law_signs_here", "_law_long", "_law_deed"] (defScope sLFits) := ⟨rfl, rfl, rfl, by decide +kernel, rfl, by decide +kernel, by decide +kernel⟩
inductive Form : List V → List Int → Prop where
 | turn (p : Int) : Form (.str "turn" :: [p].map V.int) [p]
 | swap (a b c d : Int) : Form (.str "swap" :: [a, b, c, d].map V.int) [a, b, c, d]
def spLFits : Sp := fun vs H Q _ => ∃ (z : List Nat) (L : Nat) (a : Addr) (xs : List V) (ns : List Int), vs = [.str (tx z), .int L, .ref a] ∧ Fit z L ∧ z.length ≤ 63 ∧ H a = some (.tup xs) ∧ Form xs ns ∧ ∀ H', Same H H' → Q (.bl (doneO z L (some xs)).isSome) H'
theorem ok_l_fits (D : HasDef K mg "_law_fits" sLFits ["_law_signs_here", "_law_long", "_law_deed"]) (B : Blt mg) (g8_ : FOk P w K mg base 1 "_law_points" ["_law_signs_here", "_law_long"] spPts) : FOk P w K mg base 2 "_law_fits" ["_law_signs_here", "_law_long", "_law_deed"] spLFits := by
 refine D.ok scLFits (fun vs H Q E h => ?_) (fun f cdv A outer s H vs Q E hr h => ?_)
 ·obtain ⟨z, L, a, xs, ns, rfl, _⟩ := h
  rfl
 ·obtain ⟨z, L, a, xs, ns, rfl, hF, hz, ha, hform, k⟩ := h
  refine ⟨_, (pss_cons (ps_set (i := 3) scLFits.nd rfl (Or.inl rfl) (pe_fn g8_ hr (pa_cons (pv 0) (pa_cons (pv 1) pa_nil))))
   (pss_cons (ps_set (i := 4) scLFits.nd rfl (Or.inl rfl) pe_int)
   (pss_cons (ps_for PassesOwn.never rfl (pi_tup (pe_slice sl_tup (pv 2) (po_some pe_int) po_none)) (pg_name (i := 5) scLFits.nd rfl (Or.inl rfl))
    (pss_cons (ps_if (PW.pt (pw_or (pt_cmpR op_lt (pv 5) (pv 4) (nomark _)) (pw_or1 (pt_cmpR op_ge (pv 5) (pe_callB call_len rfl B.len b_len (pa_cons (pv 3) pa_nil)) (nomark _))))) (pss_one (ps_ret pe_bl)) pss_nil)
   (pss_one (ps_set (i := 4) scLFits.nd rfl (Or.inl rfl) (pv 5)))))
   (pss_cons (ps_if (pt_cmpR op_eq (pe_ix ix_tup (pv 2) pe_int (fun _ _ => rfl)) pe_str (nomark _)) (pss_one (ps_ret (pe_cmpR op_eq (pe_ix ix_list (pv 3) pe_int (fun _ _ => rfl)) (pe_ix ix_list (pv 3) (pe_un un_neg pe_int) (fun _ _ => rfl)) (nomark _)))) pss_nil)
   (pss_one (ps_ret (pe_and (pe_cmpR op_eq (pe_ix ix_list (pv 3) (pe_ix ix_tup (pv 2) pe_int (fun _ _ => rfl)) (fun _ _ => rfl)) (pe_ix ix_list (pv 3) (pe_ix ix_tup (pv 2) pe_int (fun _ _ => rfl)) (fun _ _ => rfl)) (nomark _)) (pe_one (pe_cmpR op_eq (pe_ix ix_list (pv 3) (pe_ix ix_tup (pv 2) pe_int (fun _ _ => rfl)) (fun _ _ => rfl)) (pe_ix ix_list (pv 3) (pe_ix ix_tup (pv 2) pe_int (fun _ _ => rfl)) (fun _ _ => rfl)) (nomark _)))))))))), ?_⟩
  have o := hF.one
  have l := hF.le
  obtain ⟨wd, exs⟩ : ∃ wd, xs = V.str wd :: ns.map V.int := by cases hform <;> exact ⟨_, rfl⟩
  have hnl : ns.length = 1 ∨ ns.length = 4 := by cases hform <;> simp
  have hbad : ∀ i, i < ns.length → ¬ ((0 :: ns).getD i 0 ≤ ns.getD i 0 ∧ ns.getD i 0 ≤ ((z.length - L + 1 : Nat) : Int)) → (doneO z L (some xs)).isSome = false := fun i hi hb => by
   cases hform with
   | turn p =>
    rw [done_turn]
    have : ¬ ascB (boundL z L [p]) = true := fun q => hb (chk1.mpr q i hi)
    rw [Bool.eq_false_iff.mpr this]
    rfl
   | swap a b c d =>
    rw [done_swap]
    have : ¬ ascB (boundL z L [a, b, c, d]) = true := fun q => hb (chk4.mpr q i hi)
    unfold fitsB
    rw [Bool.eq_false_iff.mpr this]
    rfl
  refine ⟨_, rfl, _, rfl, z, L, rfl, hF, by omega, fun pp H1 s1 hpp => ?_⟩
  have hpl : (ptsL z L).length = z.length - L + 2 := by unfold ptsL; simp
  refine ⟨_, rfl, _, rfl, a, _, rfl, SqT.of (s1 _ _ ha), by rw [exs]; exact cut_deed_no, fun q hq => ?_⟩
  have ecut : cutV xs (some 1) none = ns.map V.int := by rw [exs]; exact cut_deed
  rw [ecut]
  have s2 := same_upd_new (o := .tup (ns.map V.int)) hq
  have s12 := s1.trans s2
  have hq2 := upd_same (H := H1) (a := q) (o := .tup (ns.map V.int))
  have hpp2 := s2 _ _ hpp
  generalize upd H1 q (.tup (ns.map V.int)) = H2 at s12 hq2 hpp2
  refine ⟨q, rfl, ⟨_, SqT.of hq2⟩, for_tup (K := K) (a := q) (xs := ns.map V.int) (fun i σ H3 => H3 = H2 ∧ (∃ z5 : Option V, σ = [some (.str (tx z)), some (.int L), some (.ref a), some (.ref pp), some (.int ((0 :: ns).getD i 0)), z5]) ∧ Chk z L ns i) ⟨rfl, ⟨none, rfl⟩, fun j hj => absurd hj (Nat.not_lt_zero _)⟩ (fun i σ H3 _ ⟨e3, _, _⟩ => by rw [e3]; exact SqT.of hq2) ?_ ?_⟩
  ·rintro i v σ H3 hv ⟨rfl, ⟨z5, rfl⟩, hchk⟩
   obtain ⟨hi, rfl⟩ := step_mapV hv
   have egi : ns.getD i 0 = ns[i] := by rw [List.getD_eq_getElem?_getD, List.getElem?_eq_getElem hi]; rfl
   have bad : ¬ ((0 :: ns).getD i 0 ≤ ns[i] ∧ ns[i] ≤ ((z.length - L + 1 : Nat) : Int)) → Q (.bl false) H3 := fun hb => by
    have kk := k _ s12
    rw [hbad i hi (by rw [egi]; exact hb)] at kk
    exact kk
   refine ⟨_, rfl, _, rfl, _, _, rfl, rfl, _, rfl, ite2 (fun e => iteT (bad ?_)) (fun e => ?_)⟩
   ·have := of_decide_eq_true e
    omega
   have e' : ¬ (ns[i] < (0 :: ns).getD i 0) := fun q => e (decide_eq_true q)
   refine ⟨_, rfl, _, rfl, .ref pp, _, rfl, .inl ⟨_, SqL.of hpp2, rfl⟩, _, _, rfl, rfl, _, rfl, ?_⟩
   rw [hpl]
   refine ite2 (fun e2 => bad ?_) (fun e2 => ?_)
   ·have := of_decide_eq_true e2
    omega
   have e2' : ¬ (((z.length - L + 2 : Nat) : Int) ≤ ns[i]) := fun q => e2 (decide_eq_true q)
   refine ⟨_, rfl, rfl, ⟨some (.int ns[i]), ?_⟩, fun j hj => ?_⟩
   ·have : (0 :: ns).getD (i + 1) 0 = ns[i] := by rw [List.getD_cons_succ, egi]
    rw [this]
    rfl
   ·by_cases c : j < i
    ·exact hchk j c
    ·have : j = i := by omega
     subst this
     rw [egi]
     omega
  ·rintro σ H3 ⟨rfl, ⟨z5, rfl⟩, hchk⟩
   rw [List.length_map] at hchk
   have kk := k _ s12
   have ha2 := s12 _ _ ha
   cases hform with
   | turn p =>
    have hasc := chk1.mp hchk
    rw [done_turn, hasc, Bool.true_and] at kk
    refine ⟨_, rfl, a, _, 0, _, rfl, rfl, SqT.of ha2, item_at (by decide) rfl, rfl, _, rfl, iteP (by decide) ?_⟩
    refine ⟨_, rfl, pp, _, 0, _, rfl, rfl, SqL.of hpp2, pts_at (p := 0) (by omega), _, rfl, _, rfl, pp, _, -1, _, rfl, rfl, SqL.of hpp2, pts_last, rfl, ?_⟩
    rw [dec_tx]
    exact kk
   | swap x0 x1 x2 x3 =>
    have hasc := chk4.mp hchk
    obtain ⟨p0, p1, p2, p3, e, h01, h12, h23, h3⟩ := asc4 rfl hasc
    simp only [List.cons.injEq, and_true] at e
    obtain ⟨rfl, rfl, rfl, rfl⟩ := e
    rw [done_swap] at kk
    unfold fitsB at kk
    rw [hasc, Bool.true_and] at kk
    refine ⟨_, rfl, a, _, 0, _, rfl, rfl, SqT.of ha2, item_at (by decide) rfl, rfl, _, rfl, iteM (by decide) ?_⟩
    refine ⟨_, rfl, _, rfl, a, _, 1, _, rfl, rfl, SqT.of ha2, item_at (by decide) rfl, pp, _, _, _, rfl, rfl, SqL.of hpp2, pts_at (p := p0) (by omega), _, rfl, _, rfl, a, _, 3, _, rfl, rfl, SqT.of ha2, item_at (by decide) rfl, pp, _, _, _, rfl, rfl, SqL.of hpp2, pts_at (p := p2) (by omega), rfl, _, rfl, ?_⟩
    rw [dec_tx]
    by_cases c : pt z L p0 = pt z L p2
    ·refine iteP (decide_eq_true c) ?_
     refine ⟨_, rfl, _, rfl, a, _, 2, _, rfl, rfl, SqT.of ha2, item_at (by decide) rfl, pp, _, _, _, rfl, rfl, SqL.of hpp2, pts_at (p := p1) (by omega), _, rfl, _, rfl, a, _, 4, _, rfl, rfl, SqT.of ha2, item_at (by decide) rfl, pp, _, _, _, rfl, rfl, SqL.of hpp2, pts_at (p := p3) (by omega), rfl, ?_⟩
     rw [dec_tx]
     have e3 : decide (pt z L (nAt [(p0 : Int), p1, p2, p3] 0) = pt z L (nAt [(p0 : Int), p1, p2, p3] 2)) = true := decide_eq_true c
     rw [e3, Bool.true_and] at kk
     exact kk
    ·refine iteM (decide_eq_false c) ?_
     have e3 : decide (pt z L (nAt [(p0 : Int), p1, p2, p3] 0) = pt z L (nAt [(p0 : Int), p1, p2, p3] 2)) = false := decide_eq_false c
     rw [e3, Bool.false_and] at kk
     exact kk
end
theorem okDeed_none {z : List Nat} {L : Nat} {o : Option (List V)} (h : okDeed o = false) : doneO z L o = none := by
 unfold okDeed at h
 rw [Bool.or_eq_false_iff] at h
 unfold doneO
 rw [h.1, h.2]
 simp
theorem okDeed_form {o : Option (List V)} (h : okDeed o = true) : ∃ xs ns, o = some xs ∧ Form xs ns := by
 unfold okDeed at h
 rw [Bool.or_eq_true] at h
 rcases h with h | h
 ·obtain ⟨e1, e2⟩ := deed_form h
  generalize nsOf o = ns at *
  match ns, e2 with
  | [p], _ => exact ⟨_, _, e1, .turn p⟩
 ·obtain ⟨e1, e2⟩ := deed_form h
  generalize nsOf o = ns at *
  match ns, e2 with
  | [a, b, c, d], _ => exact ⟨_, _, e1, .swap a b c d⟩
end Sh
namespace L2
open PySem PySem.Spec PyProof.Rows
theorem lc_filt {k : Nat} {mp : List Nat} {σ : L2.St} {g : TG} {tc : TT} {te : TE} {J : It} {H1 : Hp} {Q : VK} (n : Nat) (xs : Nat → V) (t : Nat → Bool) (hn : n ≤ sizeLine)
  (hJ : ∀ H, Same H1 H → (∀ i, i < n → J.go i H ∧ ∀ x H', J.yld i H x H' → H' = H ∧ x = xs i) ∧ J.stop n H)
  (step : ∀ i H (Qt : VK) (Qf : Hp → Prop), i < n → Same H1 H → (t i = true → Qt (xs i) H) → (t i = false → Qf H) → g (xs i) (lcS k mp σ) H fun σ4 H4 => tc σ4 H4 fun b H5 => if b = true then te σ4 H5 Qt else Qf H5)
  (done : ∀ D H', Same H1 H' → H1 D = none → H' D = some (.lst (((List.range n).filter t).map xs)) → Q (.ref D) H') : lcPost k mp σ g tc te J H1 Q := by
 intro D hD
 refine ⟨fun i m acc H => m = n - i ∧ i ≤ n ∧ acc = ((List.range i).filter t).map xs ∧ Same H1 H ∧ H D = some (.lst acc), ⟨n, by simp, Nat.zero_le _, rfl, same_upd_new hD, upd_same⟩, ?_⟩
 rintro i m acc H ⟨rfl, hi, rfl, hs, hDa⟩
 obtain ⟨j1, j2⟩ := hJ H hs
 by_cases hlt : i < n
 ·refine .inr ⟨(j1 i hlt).1, fun x H3 y => ?_⟩
  obtain ⟨e1, e2⟩ := (j1 i hlt).2 x H3 y
  subst e1 e2
  refine step i H3 _ _ hlt hs (fun ht => ⟨hDa, ?_, n - (i + 1), by omega, rfl, hlt, ?_, fun b o e => ?_, upd_same⟩) (fun ht => ⟨n - (i + 1), by omega, rfl, hlt, ?_, hs, hDa⟩)
  ·rw [List.length_map]
   have := List.length_filter_le t (List.range i)
   rw [List.length_range] at this
   omega
  ·rw [List.range_succ, List.filter_append, List.map_append]
   simp [ht]
  ·rw [upd_ne (ne_of_none e hD)]
   exact hs b o e
  ·rw [List.range_succ, List.filter_append, List.map_append]
   simp [ht]
 ·have e : i = n := by omega
  subst e
  exact .inl ⟨j2, done D H hs hD hDa⟩
theorem eqv_ints_nil (ns : List Int) : PyData.eqv (.list (ns.map PyData.int)) (.list []) = ns.isEmpty := by
 cases ns with
 | nil => simp [PyData.eqv, PyData.eqvAll]
 | cons n r => simp [PyData.eqv, PyData.eqvAll]
end L2
namespace Sh
open PySem L2 PyProof.Rows
seal L2.PE L2.PS L2.PSs L2.PT L2.PW L2.PA L2.PI L2.PG L2.PGs L2.PO L2.PC L2.PCs L2.OpR L2.UnR L2.CallR L2.MtR L2.IxR L2.SlR
section
variable {P : Program} {w : World} {K : PySem.W.Frag} {mg : Str → Option Value} {base : Heap}
def someL (z : List Nat) (L lo w : Nat) : List Int := ((List.range (z.length - L + 2 - lo)).filter fun i => decide (pt z L (lo + i) = pt z L w)).map fun i => ((lo + i : Nat) : Int)
theorem some_mem {z : List Nat} {L lo w : Nat} {v : Int} (h : v ∈ someL z L lo w) : ∃ q : Nat, v = q ∧ lo ≤ q ∧ q < z.length - L + 2 ∧ pt z L q = pt z L w := by
 unfold someL at h
 obtain ⟨i, hi, rfl⟩ := List.mem_map.mp h
 obtain ⟨h1, h2⟩ := List.mem_filter.mp hi
 have := List.mem_range.mp h1
 exact ⟨lo + i, rfl, by omega, by omega, of_decide_eq_true h2⟩
theorem some_ne {z : List Nat} {L lo : Nat} (h : lo < z.length - L + 2) : someL z L lo lo ≠ [] := by
 intro e
 have : (lo : Int) ∈ someL z L lo lo := by
  unfold someL
  exact List.mem_map.mpr ⟨0, List.mem_filter.mpr ⟨List.mem_range.mpr (by omega), by simp⟩, by simp⟩
 rw [e] at this
 cases this
abbrev sLDrawn : Stmt := top 44
abbrev nLDrawn : List Str := ["_law_signs_here", "_law_long", "_law_cell", "_law_points_here", "_law_one", "_law_some", "_law_three", "_law_two"]
theorem scLDrawn : FnScope nLDrawn ["_law_signs_here", "_law_long", "_law_cell"] (defScope sLDrawn) := ⟨rfl, rfl, rfl, by decide +kernel, rfl, by decide +kernel, by decide +kernel⟩
def spDrawn : Sp := fun vs H Q _ => ∃ (z : List Nat) (L : Nat) (cell : Int), vs = [.str (tx z), .int L, .int cell] ∧ Fit z L ∧ z.length ≤ 63 ∧ 0 ≤ cell ∧ ∀ p H' xs r, Same H H' → H' p = some (.tup xs) → doneO z L (some xs) = some r → Q (.ref p) H'
theorem done_swap_ok {z : List Nat} {L p0 p1 p2 p3 : Nat} (h01 : p0 ≤ p1) (h12 : p1 ≤ p2) (h23 : p2 ≤ p3) (h3 : p3 ≤ z.length - L + 1) (e02 : pt z L p0 = pt z L p2) (e13 : pt z L p1 = pt z L p3) : doneO z L (some (.str "swap" :: [(p0 : Int), p1, p2, p3].map V.int)) = some (swapF z L p0 p1 p2 p3) := by
 have h : (doneO z L (some (.str "swap" :: [(p0 : Int), p1, p2, p3].map V.int))).isSome = true := by
  rw [done_swap]
  unfold fitsB
  rw [Bool.and_eq_true, Bool.and_eq_true, decide_eq_true_eq, decide_eq_true_eq]
  refine ⟨chk4.mp fun j hj => ?_, e02, e13⟩
  match j, hj with
  | 0, _ => exact ⟨(by show (0 : Int) ≤ (p0 : Int); omega), (by show (p0 : Int) ≤ _; omega)⟩
  | 1, _ => exact ⟨(by show (p0 : Int) ≤ (p1 : Int); omega), (by show (p1 : Int) ≤ _; omega)⟩
  | 2, _ => exact ⟨(by show (p1 : Int) ≤ (p2 : Int); omega), (by show (p2 : Int) ≤ _; omega)⟩
  | 3, _ => exact ⟨(by show (p2 : Int) ≤ (p3 : Int); omega), (by show (p3 : Int) ≤ _; omega)⟩
 obtain ⟨r, hr⟩ := Option.isSome_iff_exists.mp h
 rw [hr]
 rcases done_cases hr with ⟨q0, q1, q2, q3, e, _, _, _, _, _, _, rfl⟩ | ⟨q, e, _⟩
 ·simp at e
  obtain ⟨e1, e2, e3, e4⟩ := e
  rw [Int.ofNat.inj e1, Int.ofNat.inj e2, Int.ofNat.inj e3, Int.ofNat.inj e4]
 ·simp at e
theorem done_turn_ok {z : List Nat} {L p : Nat} (hp : p ≤ z.length - L + 1) (ec : pt z L 0 = pt z L (z.length - L + 1)) : doneO z L (some (.str "turn" :: [(p : Int)].map V.int)) = some (turnF z L p) := by
 have h : (doneO z L (some (.str "turn" :: [(p : Int)].map V.int))).isSome = true := by
  rw [done_turn, Bool.and_eq_true, decide_eq_true_eq]
  refine ⟨chk1.mp fun j hj => ?_, ec⟩
  match j, hj with
  | 0, _ => exact ⟨(by show (0 : Int) ≤ (p : Int); omega), (by show (p : Int) ≤ _; omega)⟩
 obtain ⟨r, hr⟩ := Option.isSome_iff_exists.mp h
 rw [hr]
 rcases done_cases hr with ⟨q0, q1, q2, q3, e, _⟩ | ⟨q, e, _, _, rfl⟩
 ·simp at e
 ·simp at e
  rw [Int.ofNat.inj e]
theorem lc_places {K : PySem.W.Frag} {mp : List Nat} {σ : L2.St} {H1 : Hp} {Q : VK} {z : List Nat} {L lo w : Nat} {pp : Addr} (hlo : lo ≤ z.length - L + 1) (hw : w ≤ z.length - L + 1) (hz : z.length ≤ 63) (hpp : H1 pp = some (.lst (ptsL z L)))
  (hS : lcS 1 mp σ = [none, some (.ref pp), some (.int (w : Int))])
  (done : ∀ D H', Same H1 H' → H' D = some (.lst ((someL z L lo w).map V.int)) → Q (.ref D) H') :
  lcPost 1 mp σ (gName 0) (tTest (tOp rEq (tOp (rIxL K) (tVar 1) (tVar 0)) (tOp (rIxL K) (tVar 1) (tVar 2)))) (tVar 0) (Itr (lo : Int) (z.length - L + 2 - lo)) H1 Q := by
 refine lc_filt (z.length - L + 2 - lo) (fun i => .int ((lo : Int) + i)) (fun i => decide (pt z L (lo + i) = pt z L w)) (few_size (by omega)) jt_range ?_ ?_
 ·intro i H Qt Qf hi hs ht hf
  rw [hS]
  have e1 : (lo : Int) + i = ((lo + i : Nat) : Int) := by omega
  refine ⟨_, rfl, _, rfl, pp, _, _, _, rfl, rfl, SqL.of (hs _ _ hpp), by rw [e1]; exact pts_at (p := lo + i) (by omega), _, rfl, _, rfl, pp, _, _, _, rfl, rfl, SqL.of (hs _ _ hpp), pts_at (p := w) hw, rfl, _, rfl, ?_⟩
  rw [dec_tx]
  by_cases c : pt z L (lo + i) = pt z L w
  ·exact iteP (decide_eq_true c) ⟨_, rfl, ht (decide_eq_true c)⟩
  ·exact iteM (decide_eq_false c) (hf (decide_eq_false c))
 ·intro D H' hs hD hl
  refine done D H' hs ?_
  rw [hl]
  unfold someL
  rw [List.map_map]
  congr 2
theorem ok_l_drawn (D : HasDef K mg "_law_drawn" sLDrawn ["_law_signs_here", "_law_long", "_law_cell"]) (B : Blt mg) (g8_ : FOk P w K mg base 1 "_law_points" ["_law_signs_here", "_law_long"] spPts) : FOk P w K mg base 2 "_law_drawn" ["_law_signs_here", "_law_long", "_law_cell"] spDrawn := by
 refine D.ok scLDrawn (fun vs H Q E h => ?_) (fun f cdv A outer s H vs Q E hr h => ?_)
 ·obtain ⟨z, L, cell, rfl, _⟩ := h
  rfl
 ·obtain ⟨z, L, cell, rfl, hF, hz, c0, k⟩ := h
  refine ⟨_, (pss_cons (ps_set (i := 3) scLDrawn.nd rfl (Or.inr rfl) (pe_fn g8_ hr (pa_cons (pv 0) (pa_cons (pv 1) pa_nil))))
   (pss_cons (ps_if (PW.pt (pw_and (pt_cmpR op_eq (pe_ix ix_list (pv 3) pe_int (fun _ _ => rfl)) (pe_ix ix_list (pv 3) (pe_un un_neg pe_int) (fun _ _ => rfl)) (nomark _)) (pw_and1 (pt_cmpR op_eq (pe_op op_mod (pv 2) pe_int) pe_int (nomark _))))) (pss_one (ps_ret (pe_tup (pa_cons pe_str (pa_cons (pe_op op_mod (pe_op op_fdiv (pv 2) pe_int) (pe_callB call_len rfl B.len b_len (pa_cons (pv 3) pa_nil))) pa_nil))))) pss_nil)
   (pss_cons (ps_set (i := 2) scLDrawn.nd rfl (Or.inl rfl) (pe_op op_fdiv (pv 2) pe_int))
   (pss_cons (ps_set (i := 4) scLDrawn.nd rfl (Or.inr rfl) (pe_op op_mod (pv 2) (pe_callB call_len rfl B.len b_len (pa_cons (pv 3) pa_nil))))
   (pss_cons (ps_set (i := 2) scLDrawn.nd rfl (Or.inl rfl) (pe_op op_fdiv (pv 2) (pe_callB call_len rfl B.len b_len (pa_cons (pv 3) pa_nil))))
   (pss_cons (ps_lcomp (i := 5) (defScope sLDrawn) nLDrawn ["_law_k"] [3, 4] scLDrawn.nd rfl (Or.inl rfl) rfl (pi_range2 rfl B.range (pa_cons (pv 4) (pa_cons (pe_callB call_len rfl B.len b_len (pa_cons (pv 3) pa_nil)) pa_nil))) (fun _ _ _ _ _ => pg_lc 0) (fun _ _ _ _ _ => pcs_one (pt_cmpR op_eq (pe_ix (ix_listK K) (pv 1) (pv 0) (fun _ _ => rfl)) (pe_ix (ix_listK K) (pv 1) (pv 2) (fun _ _ => rfl)) (nomark _))) (fun _ _ _ _ _ => (pv 0)))
   (pss_cons (ps_set (i := 6) scLDrawn.nd rfl (Or.inl rfl) (pe_ix ix_list (pv 5) (pe_op op_mod (pv 2) (pe_callB call_len rfl B.len b_len (pa_cons (pv 5) pa_nil))) (fun _ _ => rfl)))
   (pss_cons (ps_set (i := 2) scLDrawn.nd rfl (Or.inl rfl) (pe_op op_fdiv (pv 2) (pe_callB call_len rfl B.len b_len (pa_cons (pv 5) pa_nil))))
   (pss_cons (ps_set (i := 7) scLDrawn.nd rfl (Or.inr rfl) (pe_op op_add (pv 4) (pe_op op_mod (pv 2) (pe_op op_add (pe_op op_sub (pv 6) (pv 4)) pe_int))))
   (pss_cons (ps_set (i := 2) scLDrawn.nd rfl (Or.inl rfl) (pe_op op_fdiv (pv 2) (pe_op op_add (pe_op op_sub (pv 6) (pv 4)) pe_int)))
   (pss_cons (ps_lcomp (i := 5) (defScope sLDrawn) nLDrawn ["_law_k"] [3, 7] scLDrawn.nd rfl (Or.inl rfl) rfl (pi_range2 rfl B.range (pa_cons (pv 6) (pa_cons (pe_callB call_len rfl B.len b_len (pa_cons (pv 3) pa_nil)) pa_nil))) (fun _ _ _ _ _ => pg_lc 0) (fun _ _ _ _ _ => pcs_one (pt_cmpR op_eq (pe_ix (ix_listK K) (pv 1) (pv 0) (fun _ _ => rfl)) (pe_ix (ix_listK K) (pv 1) (pv 2) (fun _ _ => rfl)) (nomark _))) (fun _ _ _ _ _ => (pv 0)))
   (pss_cons (ps_if (pt_cmpR (op_eqD hr.units) (pv 5) (pe_lst pa_nil) (nomark _)) (pss_cons (ps_set (i := 7) scLDrawn.nd rfl (Or.inr rfl) (pv 6))
   (pss_one (ps_lcomp (i := 5) (defScope sLDrawn) nLDrawn ["_law_k"] [3, 7] scLDrawn.nd rfl (Or.inl rfl) rfl (pi_range2 rfl B.range (pa_cons (pv 6) (pa_cons (pe_callB call_len rfl B.len b_len (pa_cons (pv 3) pa_nil)) pa_nil))) (fun _ _ _ _ _ => pg_lc 0) (fun _ _ _ _ _ => pcs_one (pt_cmpR op_eq (pe_ix (ix_listK K) (pv 1) (pv 0) (fun _ _ => rfl)) (pe_ix (ix_listK K) (pv 1) (pv 2) (fun _ _ => rfl)) (nomark _))) (fun _ _ _ _ _ => (pv 0))))) pss_nil)
   (pss_one (ps_ret (pe_tup (pa_cons pe_str (pa_cons (pv 4) (pa_cons (pv 7) (pa_cons (pv 6) (pa_cons (pe_ix ix_list (pv 5) (pe_op op_mod (pv 2) (pe_callB call_len rfl B.len b_len (pa_cons (pv 5) pa_nil))) (fun _ _ => rfl)) pa_nil)))))))))))))))))))), ?_⟩
  have o := hF.one
  have l := hF.le
  have hpl : (ptsL z L).length = z.length - L + 2 := by unfold ptsL; simp
  have mpos : (0 : Int) < ((ptsL z L).length : Int) := by rw [hpl]; omega
  refine ⟨_, rfl, _, rfl, z, L, rfl, hF, by omega, fun pp H1 s1 hpp => ?_⟩
  dsimp only [gName]
  show tSeq (tIfS _ _ _) _ _ _ _
  refine seq_cut (fun σ H' => σ = [some (.str (tx z)), some (.int L), some (.int cell), some (.ref pp), none, none, none, none] ∧ H' = H1) (fun R hR => ?_) ?_
  ·refine ⟨_, rfl, pp, _, 0, _, rfl, rfl, SqL.of hpp, pts_at (p := 0) (by omega), _, rfl, _, rfl, pp, _, -1, _, rfl, rfl, SqL.of hpp, pts_last, rfl, _, rfl, ?_⟩
   rw [dec_tx]
   refine ite2 (fun e => ?_) (fun e => iteF (hR _ _ ⟨rfl, rfl⟩))
   have ecl := of_decide_eq_true e
   refine ⟨_, rfl, _, _, rfl, rfl, (by show (0 : Int) < 4; decide), rfl, _, rfl, ite2 (fun e => ?_) (fun e => hR _ _ ⟨rfl, rfl⟩)⟩
   refine ⟨_, rfl, _, _, rfl, rfl, ⟨by decide, by decide⟩, _, rfl, .ref pp, _, rfl, .inl ⟨_, SqL.of hpp, rfl⟩, _, _, rfl, rfl, mpos, two_size, fun p hp => ?_⟩
   have m1 := emod_bd (cell / 4) mpos
   obtain ⟨q, eq⟩ : ∃ q : Nat, cell / 4 % ((ptsL z L).length : Int) = q := ⟨(cell / 4 % ((ptsL z L).length : Int)).toNat, by omega⟩
   dsimp only
   rw [eq]
   rw [hpl] at eq m1
   exact k p _ _ _ (s1.trans (same_upd_new hp)) upd_same (done_turn_ok (p := q) (by omega) ecl)
  rintro σ H2 ⟨rfl, rfl⟩
  refine ⟨_, rfl, _, _, rfl, rfl, ⟨by decide, by decide⟩, ?_⟩
  dsimp only
  generalize cell / 4 = cl
  have m1 := emod_bd cl mpos
  rw [hpl] at m1
  refine ⟨_, rfl, _, rfl, .ref pp, _, rfl, .inl ⟨_, SqL.of hpp, rfl⟩, _, _, rfl, rfl, mpos, ?_⟩
  obtain ⟨one, eone⟩ : ∃ one : Nat, cl % ((ptsL z L).length : Int) = one := ⟨(cl % ((ptsL z L).length : Int)).toNat, by rw [hpl]; omega⟩
  dsimp only
  rw [eone]
  rw [hpl] at eone
  have hone : one ≤ z.length - L + 1 := by omega
  refine ⟨_, rfl, _, rfl, .ref pp, _, rfl, .inl ⟨_, SqL.of hpp, rfl⟩, _, _, rfl, rfl, ⟨by rw [hpl]; omega, by rw [hpl]; omega⟩, ?_⟩
  dsimp only
  generalize cl / ((ptsL z L).length : Int) = cl2
  refine ⟨_, rfl, _, rfl, .ref pp, _, rfl, .inl ⟨_, SqL.of hpp, rfl⟩, _, _, rfl, ⟨by omega, by omega, by rw [hpl]; omega, by rw [hpl]; omega⟩, ?_⟩
  rw [hpl, show (((z.length - L + 2 : Nat) : Int) - (one : Int)).toNat = z.length - L + 2 - one by omega]
  refine lc_places (z := z) (L := L) (lo := one) (w := one) (pp := pp) hone hone hz hpp rfl fun q1 H3 s3 hq1 => ?_
  have hpp3 := s3 _ _ hpp
  have hne1 := some_ne (z := z) (L := L) (lo := one) (by omega)
  have hl1 : 0 < (someL z L one one).length := List.length_pos_iff.mpr hne1
  have hl1k : (someL z L one one).length ≤ 100 := by
   unfold someL
   rw [List.length_map]
   refine Nat.le_trans (List.length_filter_le _ _) ?_
   rw [List.length_range]
   omega
  have mp1 : (0 : Int) < (((someL z L one one).map V.int).length : Int) := by rw [List.length_map]; omega
  have mm1 := emod_bd cl2 mp1
  rw [List.length_map] at mm1
  refine ⟨_, rfl, _, rfl, _, rfl, .ref q1, _, rfl, .inl ⟨_, SqL.of hq1, rfl⟩, _, _, rfl, rfl, mp1, q1, _, _, _, rfl, rfl, SqL.of hq1, menu_at (by rw [List.length_map]; exact mm1.1) (by rw [List.length_map]; exact mm1.2), ?_⟩
  have hi1 : (cl2 % ((someL z L one one).length : Int)).toNat < (someL z L one one).length := by omega
  have hmem1 : (someL z L one one).getD (cl2 % (((someL z L one one).map V.int).length : Int)).toNat 0 ∈ someL z L one one := by
   rw [List.length_map, List.getD_eq_getElem?_getD, List.getElem?_eq_getElem hi1]
   exact List.getElem_mem hi1
  obtain ⟨three, e3, h13, h3m, p31⟩ := some_mem hmem1
  rw [e3]
  refine ⟨_, rfl, _, rfl, .ref q1, _, rfl, .inl ⟨_, SqL.of hq1, rfl⟩, _, _, rfl, rfl, ⟨mp1, by rw [List.length_map]; omega⟩, ?_⟩
  dsimp only
  generalize cl2 / (((someL z L one one).map V.int).length : Int) = cl3
  have mp2 : (0 : Int) < (three : Int) - (one : Int) + 1 := by omega
  have mm2 := emod_bd cl3 mp2
  refine ⟨_, rfl, _, rfl, _, rfl, _, rfl, _, _, rfl, rfl, _, _, rfl, rfl, _, _, rfl, rfl, mp2, _, _, rfl, rfl, ?_⟩
  obtain ⟨two, etwo⟩ : ∃ two : Nat, (one : Int) + cl3 % ((three : Int) - (one : Int) + 1) = two := ⟨((one : Int) + cl3 % ((three : Int) - (one : Int) + 1)).toNat, by omega⟩
  dsimp only
  rw [etwo]
  have htwo : two ≤ z.length - L + 1 := by omega
  have hthree : three ≤ z.length - L + 1 := by omega
  have h12 : one ≤ two ∧ two ≤ three := by omega
  refine ⟨_, rfl, _, rfl, _, rfl, _, _, rfl, rfl, _, _, rfl, rfl, _, _, rfl, rfl, ⟨mp2, by omega⟩, ?_⟩
  dsimp only
  generalize cl3 / ((three : Int) - (one : Int) + 1) = cl4
  clear mm2 mm1 hmem1 hi1 etwo m1 eone
  refine ⟨_, rfl, _, rfl, .ref pp, _, rfl, .inl ⟨_, SqL.of hpp3, rfl⟩, _, _, rfl, ⟨by omega, by omega, by rw [hpl]; omega, by rw [hpl]; omega⟩, ?_⟩
  rw [hpl, show (((z.length - L + 2 : Nat) : Int) - (three : Int)).toNat = z.length - L + 2 - three by omega]
  refine lc_places (z := z) (L := L) (lo := three) (w := two) (pp := pp) hthree htwo hz hpp3 rfl fun q2 H4 s4 hq2 => ?_
  have hpp4 := s4 _ _ hpp3
  have sA := (s1.trans s3).trans s4
  dsimp only [gName]
  show tSeq (tIfS _ _ _) _ _ _ _
  refine seq_cut (fun σ H' => ∃ (tw : Nat) (q : Addr) (ns : List Int), σ = [some (.str (tx z)), some (.int L), some (.int cl4), some (.ref pp), some (.int one), some (.ref q), some (.int three), some (.int tw)] ∧ Same H H' ∧ H' q = some (.lst (ns.map V.int)) ∧ ns ≠ [] ∧ one ≤ tw ∧ tw ≤ three ∧ ∀ v ∈ ns, ∃ f : Nat, v = f ∧ three ≤ f ∧ f < z.length - L + 2 ∧ pt z L f = pt z L tw) (fun R hR => ?_) ?_
  ·refine ⟨_, rfl, Nat.zero_le _, fun p0 hp0 => ?_⟩
   have s5 := same_upd_new (o := .lst []) hp0
   refine ⟨_, _, rep_ilist (s5 _ _ hq2), rep_ilist (ns := []) upd_same, shaped_ints _, shaped_ints [], _, rfl, ?_⟩
   rw [show PyData.eqv (.list ((someL z L three two).map PyData.int)) (.list (([] : List Int).map PyData.int)) = (someL z L three two).isEmpty from eqv_ints_nil _]
   refine ite2 (fun e => ?_) (fun e => ?_)
   ·have hpp5 := s5 _ _ hpp4
    refine ⟨_, rfl, ?_⟩
    refine ⟨_, rfl, _, rfl, .ref pp, _, rfl, .inl ⟨_, SqL.of hpp5, rfl⟩, _, _, rfl, ⟨by omega, by omega, by rw [hpl]; omega, by rw [hpl]; omega⟩, ?_⟩
    rw [hpl, show (((z.length - L + 2 : Nat) : Int) - (three : Int)).toNat = z.length - L + 2 - three by omega]
    refine lc_places (z := z) (L := L) (lo := three) (w := three) (pp := pp) hthree hthree hz hpp5 rfl fun q3 H6 s6 hq3 => ?_
    exact hR _ _ ⟨three, q3, _, rfl, (sA.trans s5).trans s6, hq3, some_ne (by omega), h13, Nat.le_refl _, fun v hv => some_mem hv⟩
   ·exact hR _ _ ⟨two, q2, _, rfl, sA.trans s5, s5 _ _ hq2, fun q => e (by rw [q]; rfl), h12.1, h12.2, fun v hv => some_mem hv⟩
  rintro σ H5 ⟨tw, q, ns, rfl, s5, hq, hne, t1, t2, hall⟩
  have hl2 : 0 < ns.length := List.length_pos_iff.mpr hne
  have mp3 : (0 : Int) < ((ns.map V.int).length : Int) := by rw [List.length_map]; omega
  have mm3 := emod_bd cl4 mp3
  rw [List.length_map] at mm3
  refine ⟨_, rfl, _, rfl, _, rfl, _, rfl, _, rfl, _, rfl, .ref q, _, rfl, .inl ⟨_, SqL.of hq, rfl⟩, _, _, rfl, rfl, mp3, q, _, _, _, rfl, rfl, SqL.of hq, menu_at (by rw [List.length_map]; exact mm3.1) (by rw [List.length_map]; exact mm3.2), few_size (by simp), fun p hp => ?_⟩
  have hi3 : (cl4 % (ns.length : Int)).toNat < ns.length := by omega
  have hm3 : ns.getD (cl4 % ((ns.map V.int).length : Int)).toNat 0 ∈ ns := by
   rw [List.length_map, List.getD_eq_getElem?_getD, List.getElem?_eq_getElem hi3]
   exact List.getElem_mem hi3
  obtain ⟨four, e4, h34, h4m, p42⟩ := hall _ hm3
  rw [e4]
  exact k p _ _ _ (s5.trans (same_upd_new hp)) upd_same (done_swap_ok (p0 := one) (p1 := tw) (p2 := three) (p3 := four) t1 t2 h34 (by omega) p31.symm p42.symm)
end
end Sh
namespace Sh
open PySem L2 PyProof.Rows
structure StepS (z g : List Nat) (L a b c d : Nat) : Prop where
 un : Un z g L a
 ac : a < c
 cn : c < z.length + 1 - L
 ec : wnd z L c = wnd g L a
 lc : ∀ k, a < k → k < c → wnd z L k ≠ wnd g L a
 cd : c < d
 dn : d ≤ z.length - L + 1
 ab : a ≤ b
 bc : b ≤ c
 eb : pt z L b = pt z L d
 lb : ∀ k, b < k → k ≤ c → pt z L k ≠ pt z L d
 ld : ∀ k, c < k → k < d → ∀ j, a ≤ j → j ≤ c → pt z L j ≠ pt z L k
inductive Step (g : List Nat) (L : Nat) (z : List Nat) : List V → List Nat → Prop where
 | turn {p : Nat} : pt z L 0 ≠ pt g L 0 → p < z.length - L + 1 → pt z L p = pt g L 0 → (∀ k, k < p → pt z L k ≠ pt g L 0) → Step g L z (.str "turn" :: [(p : Int)].map V.int) (turnF z L p)
 | swap {a b c d : Nat} : StepS z g L a b c d → Step g L z (.str "swap" :: [(a : Int), b, c, d].map V.int) (swapF z L a b c d)
inductive Walk (g : List Nat) (L : Nat) (one : List Nat) : List (List V) → List Nat → Prop where
 | nil : Walk g L one [] one
 | snoc {ds : List (List V)} {z r : List Nat} {d : List V} : Walk g L one ds z → z ≠ g → Step g L z d r → Walk g L one (ds ++ [d]) r
inductive Path (g : List Nat) (L : Nat) : List Nat → List (List V) → Prop where
 | nil : Path g L g []
 | cons {z r : List Nat} {d : List V} {ds : List (List V)} : z ≠ g → Step g L z d r → Path g L r ds → Path g L z (d :: ds)
theorem walk_path {g one : List Nat} {L : Nat} {ds : List (List V)} {z : List Nat} (h : Walk g L one ds z) : ∀ {es : List (List V)}, Path g L z es → Path g L one (ds ++ es) := by
 induction h with
 | nil => exact fun p => p
 | snoc w ne st ih =>
  intro es p
  rw [List.append_assoc]
  exact ih (.cons ne st p)
theorem un_one {z g : List Nat} {L a a' : Nat} (h : Un z g L a) (h' : Un z g L a') : a = a' := by
 have key : ∀ {x y : Nat}, Un z g L x → Un z g L y → ¬ x < y := fun {x y} hx hy q => by
  apply hx.ne
  have o := hx.both.fit.one
  have e := hy.pre
  have k : ∀ u : List Nat, u[x + L - 1]? = (u.take (y + L - 1))[x + L - 1]? := fun u => by
   rw [List.getElem?_take, if_pos (by omega)]
  rw [k z, k g, e]
 have := key h h'
 have := key h' h
 omega
theorem steps_one {z g : List Nat} {L a b c d a' b' c' d' : Nat} (h : StepS z g L a b c d) (h' : StepS z g L a' b' c' d') : a = a' ∧ b = b' ∧ c = c' ∧ d = d' := by
 have e1 := un_one h.un h'.un
 subst e1
 have e2 : c = c' := by
  by_cases q : c < c'
  ·exact absurd h.ec (h'.lc c h.ac q)
  ·by_cases q2 : c' < c
   ·exact absurd h'.ec (h.lc c' h'.ac q2)
   ·omega
 subst e2
 have e3 : d = d' := by
  by_cases q : d < d'
  ·exact absurd h.eb (h'.ld d h.cd q b h.ab h.bc)
  ·by_cases q2 : d' < d
   ·exact absurd h'.eb (h.ld d' h'.cd q2 b' h'.ab h'.bc)
   ·omega
 subst e3
 refine ⟨rfl, ?_, rfl, rfl⟩
 by_cases q : b < b'
 ·exact absurd h'.eb (h.lb b' q h'.bc)
 ·by_cases q2 : b' < b
  ·exact absurd h.eb (h'.lb b q2 h.bc)
  ·omega
theorem step_one {g z : List Nat} {L : Nat} {d d' : List V} {r r' : List Nat} (h : Step g L z d r) (h' : Step g L z d' r') : d = d' ∧ r = r' := by
 cases h with
 | turn n1 l1 e1 m1 =>
  rename_i p
  cases h' with
  | turn n2 l2 e2 m2 =>
   rename_i p'
   have : p = p' := by
    by_cases q : p < p'
    ·exact absurd e1 (m2 p q)
    ·by_cases q2 : p' < p
     ·exact absurd e2 (m1 p' q2)
     ·omega
   subst this
   exact ⟨rfl, rfl⟩
  | swap s => exact absurd (s.un.pt_eq (Nat.zero_le _)) n1
 | swap s =>
  cases h' with
  | turn n2 l2 e2 m2 => exact absurd (s.un.pt_eq (Nat.zero_le _)) n2
  | swap s' =>
   obtain ⟨rfl, rfl, rfl, rfl⟩ := steps_one s s'
   exact ⟨rfl, rfl⟩
theorem path_one {g : List Nat} {L : Nat} {z : List Nat} {ds : List (List V)} (h : Path g L z ds) : ∀ {es : List (List V)}, Path g L z es → ds = es := by
 induction h with
 | nil =>
  intro es p
  cases p with
  | nil => rfl
  | cons ne _ _ => exact absurd rfl ne
 | cons ne st _ ih =>
  intro es p
  cases p with
  | nil => exact absurd rfl ne
  | cons _ st' p' =>
   obtain ⟨rfl, rfl⟩ := step_one st st'
   rw [ih p']
theorem steps_fit {z g : List Nat} {L a b c d : Nat} (h : StepS z g L a b c d) : a ≤ b ∧ b ≤ c ∧ c ≤ d ∧ d ≤ z.length - L + 1 ∧ pt z L a = pt z L c ∧ pt z L b = pt z L d :=
 ⟨h.ab, h.bc, Nat.le_of_lt h.cd, h.dn, h.un.pt_c h.ec, h.eb⟩
theorem step_both {g z : List Nat} {L : Nat} {d : List V} {r : List Nat} (hb : Both z g L) (h : Step g L z d r) : Both r g L := by
 cases h with
 | turn n1 l1 e1 m1 => exact both_turn hb (Nat.le_of_lt l1) (closed_of hb n1)
 | swap s =>
  obtain ⟨h1, h2, h3, h4, h5, h6⟩ := steps_fit s
  exact both_swap hb h1 h2 h3 h4 h5 h6
def Far (g : List Nat) (L k : Nat) (z : List Nat) : Prop := k = 0 ∨ (1 ≤ k ∧ k ≤ z.length - L + 1 ∧ z.take (L + k - 2) = g.take (L + k - 2))
theorem step_far {g z : List Nat} {L k : Nat} {d : List V} {r : List Nat} (hb : Both z g L) (h : Step g L z d r) (f : Far g L k z) : Far g L (k + 1) r := by
 have o := hb.fit.one
 have l := hb.fit.le
 cases h with
 | turn n1 l1 e1 m1 =>
  rename_i p
  rcases f with rfl | ⟨f0, f1, f2⟩
  ·refine .inr ⟨by omega, by rw [turn_len hb.fit (Nat.le_of_lt l1)]; omega, ?_⟩
   rw [show L + (0 + 1) - 2 = L - 1 by omega]
   exact turn_begin hb (Nat.le_of_lt l1) e1
  ·exfalso
   apply n1
   rw [← take_pt hb.fit, ← take_pt hb.symm.fit]
   have := congrArg (List.take (L - 1)) f2
   rw [List.take_take, List.take_take, show min (L - 1) (L + k - 2) = L - 1 by omega] at this
   exact this
 | swap s =>
  rename_i a b c d
  obtain ⟨h1, h2, h3, h4, h5, h6⟩ := steps_fit s
  have hl := swap_len hb.fit h1 h2 h3 h4
  have hmore := s.un.swap_more (b := b) s.cd s.dn s.ec
  have hlate := s.un.late
  have hka : k = 0 ∨ k - 1 ≤ a := by
   rcases f with rfl | ⟨f0, f1, f2⟩
   ·exact .inl rfl
   ·refine .inr ?_
    false_or_by_contra
    apply s.un.ne
    have kk : ∀ u : List Nat, u[a + L - 1]? = (u.take (L + k - 2))[a + L - 1]? := fun u => by
     rw [List.getElem?_take, if_pos (by omega)]
    rw [kk z, kk g, f2]
  refine .inr ⟨by omega, by rw [hl]; omega, ?_⟩
  have := congrArg (List.take (L + (k + 1) - 2)) hmore
  rw [List.take_take, List.take_take, show min (L + (k + 1) - 2) (a + L) = L + (k + 1) - 2 by omega] at this
  exact this
end Sh
namespace Sh
open PySem L2 PyProof.Rows
seal L2.PE L2.PS L2.PSs L2.PT L2.PW L2.PA L2.PI L2.PG L2.PGs L2.PO L2.PC L2.PCs L2.OpR L2.UnR L2.CallR L2.MtR L2.IxR L2.SlR
theorem rep_strs {H : Hp} : ∀ ps : List Str, RepA H (ps.map PyData.str) (ps.map V.str)
 | [] => by rw [List.map_nil, RepA]; rfl
 | p :: ps => by
  rw [List.map_cons, RepA]
  exact ⟨.str p, ps.map V.str, rfl, by rw [RepD], rep_strs ps⟩
theorem rep_slist {H : Hp} {a : Addr} {ps : List Str} (h : H a = some (.lst (ps.map V.str))) : RepD H (.list (ps.map PyData.str)) (.ref a) := by
 rw [RepD]
 exact ⟨a, _, rfl, h, rep_strs ps⟩
theorem strOk_of {z : List Nat} (h : Cd z) : PyData.strOk (tx z) = true := by
 unfold PyData.strOk
 rw [← Array.all_toList, List.all_eq_true]
 intro c hc
 rw [tx_list] at hc
 have := h c hc
 exact decide_eq_true (by omega)
theorem lay_strs : ∀ ps : List Str, (∀ p ∈ ps, PyData.strOk p = true) → PyData.canLayAll0 (ps.map PyData.str) = true
 | [], _ => by simp [PyData.canLayAll0]
 | p :: ps, h => by
  rw [List.map_cons, PyData.canLayAll0, lay_strs ps fun q hq => h q (List.mem_cons_of_mem _ hq)]
  simp [PyData.canLay0, h p List.mem_cons_self]
theorem depth_strs : ∀ ps : List Str, PyData.depthAll (ps.map PyData.str) = 0
 | [] => by simp [PyData.depthAll]
 | p :: ps => by
  rw [List.map_cons, PyData.depthAll, depth_strs ps]
  simp [PyData.depth]
theorem shaped_strs {ps : List Str} (h : ∀ p ∈ ps, PyData.strOk p = true) : SeqAt.shaped (.list (ps.map PyData.str)) = true := by
 unfold SeqAt.shaped
 rw [Bool.and_eq_true]
 constructor
 ·rw [PyData.canLay0]
  exact lay_strs ps h
 ·refine decide_eq_true ?_
  rw [PyData.depth, depth_strs ps]
  decide
section
variable {P : Program} {w : World} {K : PySem.W.Frag} {mg : Str → Option Value} {base : Heap}
def CodesOk (hp : List Pr) : Prop := ∀ p ∈ hp, PyData.strOk p.1 = true
theorem lay_pairs : ∀ hp : List Pr, CodesOk hp → PyData.canLayAll0 (hp.map pairD) = true
 | [], _ => by simp [PyData.canLayAll0]
 | p :: hp, h => by
  rw [List.map_cons, PyData.canLayAll0, lay_pairs hp fun q hq => h q (List.mem_cons_of_mem _ hq)]
  simp [pairD, PyData.canLay0, PyData.canLayAll0, h p List.mem_cons_self]
theorem depth_pairs : ∀ hp : List Pr, PyData.depthAll (hp.map pairD) ≤ 1
 | [] => by simp [PyData.depthAll]
 | p :: hp => by
  have h := depth_pairs hp
  rw [List.map_cons, PyData.depthAll]
  have h2 : PyData.depth (pairD p) = 1 := by simp [pairD, PyData.depth, PyData.depthAll]
  omega
theorem shaped_heap {hp : List Pr} (h : CodesOk hp) : SeqAt.shaped (heapD hp) = true := by
 unfold SeqAt.shaped
 rw [Bool.and_eq_true]
 constructor
 ·unfold heapD
  rw [PyData.canLay0]
  exact lay_pairs hp h
 ·refine decide_eq_true ?_
  have h := depth_pairs hp
  unfold heapD
  rw [PyData.depth]
  omega
end
theorem heap_one {ps : List Str} {h1 h2 : List Pr} (a : HeapOf ps h1) (b : HeapOf ps h2) : h1 = h2 := by
 have mem : ∀ (h : List Pr), HeapOf ps h → ∀ x, x ∈ (h.map fun p => p.1.cps.toList) ↔ ∃ z ∈ ps, z.cps.toList = x := fun h hh x => by
  constructor
  ·intro q
   obtain ⟨p, hp, e⟩ := List.mem_map.mp q
   exact ⟨p.1, (hh.mem p.1).mp (List.mem_map.mpr ⟨p, hp, rfl⟩), e⟩
  ·rintro ⟨z, hz, e⟩
   obtain ⟨p, hp, e2⟩ := List.mem_map.mp ((hh.mem z).mpr hz)
   exact List.mem_map.mpr ⟨p, hp, by rw [e2, e]⟩
 have e := sorted_one a.srt b.srt fun x => (mem h1 a x).trans (mem h2 b x).symm
 have hl : h1.length = h2.length := by have := congrArg List.length e; simpa using this
 apply List.ext_getElem hl
 intro i hi1 hi2
 have e1 : h1[i].1.cps.toList = h2[i].1.cps.toList := by
  have := congrArg (fun l : List (List Nat) => l[i]?) e
  simpa [hi1, hi2] using this
 have e2 : h1[i].1 = h2[i].1 := codes_inj e1
 have e3 : h1[i].2 = h2[i].2 := by rw [a.cnt _ (List.getElem_mem hi1), b.cnt _ (List.getElem_mem hi2), e2]
 exact Prod.ext e2 e3
end Sh
namespace Sh
open PySem L2 PyProof.Rows
theorem eqvAll_strs : ∀ a b : List Str, PyData.eqvAll (a.map PyData.str) (b.map PyData.str) = decide (a = b)
 | [], [] => by simp [PyData.eqvAll]
 | [], y :: b => by simp [PyData.eqvAll]
 | x :: a, [] => by simp [PyData.eqvAll]
 | x :: a, y :: b => by
  rw [List.map_cons, List.map_cons, PyData.eqvAll, eqvAll_strs a b]
  by_cases h : x = y <;> simp [PyData.eqv, h]
theorem eqv_slists (a b : List Str) : PyData.eqv (.list (a.map PyData.str)) (.list (b.map PyData.str)) = decide (a = b) := by
 rw [PyData.eqv, eqvAll_strs]
theorem eqvAll_pairs : ∀ a b : List Pr, PyData.eqvAll (a.map pairD) (b.map pairD) = decide (a = b)
 | [], [] => by simp [PyData.eqvAll]
 | [], y :: b => by simp [PyData.eqvAll]
 | x :: a, [] => by simp [PyData.eqvAll]
 | x :: a, y :: b => by
  rw [List.map_cons, List.map_cons, PyData.eqvAll, eqvAll_pairs a b]
  obtain ⟨x1, x2⟩ := x
  obtain ⟨y1, y2⟩ := y
  by_cases h : x1 = y1 <;> by_cases h2 : x2 = y2 <;> simp [pairD, PyData.eqv, PyData.eqvAll, h, h2]
theorem eqv_heaps (a b : List Pr) : PyData.eqv (heapD a) (heapD b) = decide (a = b) := by
 unfold heapD
 rw [PyData.eqv, eqvAll_pairs]
theorem heaps_eq {ps qs : List Str} {h1 h2 : List Pr} (a : HeapOf ps h1) (b : HeapOf qs h2) : h1 = h2 ↔ ps.Perm qs := by
 constructor
 ·rintro rfl
  refine List.perm_iff_count.mpr fun x => ?_
  by_cases c : x ∈ h1.map (·.1)
  ·obtain ⟨p, hp, rfl⟩ := List.mem_map.mp c
   have e1 := a.cnt p hp
   have e2 := b.cnt p hp
   omega
  ·rw [List.count_eq_zero_of_not_mem fun q => c ((a.mem x).mpr q), List.count_eq_zero_of_not_mem fun q => c ((b.mem x).mpr q)]
 ·intro p
  exact heap_one (ps := qs) ⟨a.srt, fun x => (a.mem x).trans p.mem_iff, fun q m => by rw [a.cnt q m, p.count_eq]⟩ b
theorem pcs_win (z : List Nat) {L : Nat} (h : Fit z L) : pcs z L = (win L z).map tx := by
 unfold pcs win
 rw [List.map_map, show z.length + 1 - L = z.length - L + 1 by have := h.le; omega]
 rfl
theorem perm_tx {a b : List (List Nat)} : (a.map tx).Perm (b.map tx) ↔ a.Perm b := by
 constructor
 ·intro h
  have := h.map fun x : Str => x.cps.toList
  rw [List.map_map, List.map_map] at this
  have e : ∀ l : List (List Nat), l.map ((fun x : Str => x.cps.toList) ∘ tx) = l := fun l => by
   conv => rhs; rw [← List.map_id l]
   exact List.map_congr_left fun y _ => tx_list y
  rw [e, e] at this
  exact this
 ·exact fun h => h.map tx
theorem sortedL_eq {a b : List Str} (ha : (a.map fun x => x.cps.toList).Pairwise (· ≤ ·)) (hb : (b.map fun x => x.cps.toList).Pairwise (· ≤ ·)) : a = b ↔ a.Perm b := by
 constructor
 ·rintro rfl
  exact List.Perm.refl _
 ·intro h
  refine List.Perm.eq_of_pairwise (le := fun a b : Str => a.cps.toList ≤ b.cps.toList) (fun x y _ _ h1 h2 => ?_) (List.pairwise_map.mp ha) (List.pairwise_map.mp hb) h
  exact codes_inj (List.le_antisymm h1 h2)
end Sh
namespace Sh
open PySem L2 PyProof.Rows
seal L2.PE L2.PS L2.PSs L2.PT L2.PW L2.PA L2.PI L2.PG L2.PGs L2.PO L2.PC L2.PCs L2.OpR L2.UnR L2.CallR L2.MtR L2.IxR L2.SlR
theorem least {P : Nat → Prop} {lo : Nat} : ∀ n, lo ≤ n → P n → ∃ m, lo ≤ m ∧ m ≤ n ∧ P m ∧ ∀ k, lo ≤ k → k < m → ¬ P k := by
 intro n
 induction n using Nat.strongRecOn with
 | ind n ih =>
  intro h p
  by_cases c : ∃ k, lo ≤ k ∧ k < n ∧ P k
  ·obtain ⟨k, k1, k2, k3⟩ := c
   obtain ⟨m, m1, m2, m3, m4⟩ := ih k k2 k1 k3
   exact ⟨m, m1, by omega, m3, m4⟩
  ·exact ⟨n, h, Nat.le_refl n, p, fun k k1 k2 k3 => c ⟨k, k1, k2, k3⟩⟩
theorem first_ne {z g : List Nat} (hl : g.length = z.length) (ne : z ≠ g) : ∃ i, i < z.length ∧ z.take i = g.take i ∧ z.getD i 0 ≠ g.getD i 0 := by
 false_or_by_contra
 rename_i no
 apply ne
 have key : ∀ i, i ≤ z.length → z.take i = g.take i := fun i => by
  induction i with
  | zero => intro _; rfl
  | succ i ih =>
   intro hi
   have ih' := ih (by omega)
   rw [List.take_succ, List.take_succ, ih']
   congr 1
   have h1 : i < z.length := by omega
   have h2 : i < g.length := by omega
   by_cases c : z.getD i 0 = g.getD i 0
   ·rw [List.getD_eq_getElem?_getD, List.getD_eq_getElem?_getD, List.getElem?_eq_getElem h1, List.getElem?_eq_getElem h2] at c
    rw [List.getElem?_eq_getElem h1, List.getElem?_eq_getElem h2]
    exact congrArg (fun x => (some x).toList) c
   ·exact (no ⟨i, h1, ih', c⟩).elim
 have := key z.length (Nat.le_refl _)
 rw [List.take_of_length_le (Nat.le_refl _), List.take_of_length_le (by omega)] at this
 exact this
theorem getD_ne {z g : List Nat} {i : Nat} (h1 : i < z.length) (h2 : i < g.length) (h : z.getD i 0 ≠ g.getD i 0) : z[i]? ≠ g[i]? := by
 rw [List.getD_eq_getElem?_getD, List.getD_eq_getElem?_getD] at h
 intro e
 exact h (by rw [e])
theorem un_of {z g : List Nat} {L i : Nat} (hb : Both z g L) (e0 : pt z L 0 = pt g L 0) (hi : i < z.length) (hp : z.take i = g.take i) (hn : z.getD i 0 ≠ g.getD i 0) : ∃ a, i + 1 = a + L ∧ Un z g L a := by
 have o := hb.fit.one
 have l := hb.fit.le
 have hne := getD_ne hi (by rw [hb.len]; exact hi) hn
 have hiL : L ≤ i + 1 := by
  false_or_by_contra
  apply hne
  have : z.take (L - 1) = g.take (L - 1) := by rw [take_pt hb.fit, take_pt hb.symm.fit, e0]
  have k : ∀ u : List Nat, u[i]? = (u.take (L - 1))[i]? := fun u => by
   rw [List.getElem?_take, if_pos (by omega)]
  rw [k z, k g, this]
 refine ⟨i + 1 - L, by omega, hb, by omega, ?_, ?_⟩
 ·rw [show i + 1 - L + L - 1 = i by omega]; exact hp
 ·rw [show i + 1 - L + L - 1 = i by omega]; exact hne
theorem lastOf_succ (f : Nat → Str) (i : Nat) (s : Str) : lastOf f (i + 1) s = if f i = s then some i else lastOf f i s := rfl
section
variable {P : Program} {w : World} {K : PySem.W.Frag} {mg : Str → Option Value} {base : Heap}
abbrev sFirstUnlike : Stmt := top 29
abbrev nFirstUnlike : List Str := ["one", "other", "place"]
theorem scFirstUnlike : FnScope nFirstUnlike ["one", "other"] (defScope sFirstUnlike) := ⟨rfl, rfl, rfl, by decide +kernel, rfl, by decide +kernel, by decide +kernel⟩
def spUnl : Sp := fun vs H Q _ => ∃ (z g : List Nat), vs = [.str (tx z), .str (tx g)] ∧ g.length = z.length ∧ z.length ≤ 1000 ∧ z ≠ g ∧ ∀ i : Nat, i < z.length → z.take i = g.take i → z.getD i 0 ≠ g.getD i 0 → Q (.int i) H
theorem ok_first_unlike (D : HasDef K mg "first_unlike" sFirstUnlike ["one", "other"]) : FOk P w K mg base 1 "first_unlike" ["one", "other"] spUnl := by
 refine D.ok scFirstUnlike (fun vs H Q E h => ?_) (fun f cdv A outer s H vs Q E hr h => ?_)
 ·obtain ⟨z, g, rfl, _⟩ := h
  rfl
 ·obtain ⟨z, g, rfl, hl, hz, ne, k⟩ := h
  refine ⟨_, (pss_cons (ps_set (i := 2) scFirstUnlike.nd rfl (Or.inl rfl) pe_int)
   (pss_cons (ps_while PassesOwn.never (pt_cmpR op_eq (pe_ix ix_str (pv 0) (pv 2) (fun _ _ => rfl)) (pe_ix ix_str (pv 1) (pv 2) (fun _ _ => rfl)) (nomark _))
    (pss_one (ps_set (i := 2) scFirstUnlike.nd rfl (Or.inl rfl) (pe_op op_add (pv 2) pe_int))))
   (pss_one (ps_ret (pv 2))))), ?_⟩
  obtain ⟨i0, hi0, hp0, hn0⟩ := first_ne hl ne
  show tSeq (tWhile _ _) _ _ _ _
  refine seq_any (fun σ H4 => H4 = H ∧ σ = [some (.str (tx z)), some (.str (tx g)), some (.int i0)]) (fun R hR => ?_) ?_
  ·refine ⟨fun m σ H4 => H4 = H ∧ ∃ i : Nat, σ = [some (.str (tx z)), some (.str (tx g)), some (.int i)] ∧ i ≤ i0 ∧ m = i0 - i, ⟨_, rfl, 0, rfl, Nat.zero_le _, rfl⟩, ?_⟩
   rintro m σ H4 ⟨rfl, i, rfl, hi, hm⟩
   refine ⟨_, rfl, _, rfl, tx z, _, _, rfl, rfl, tx_size hz, at_code (by omega) (by omega), _, rfl, _, rfl, tx g, _, _, rfl, rfl, tx_size (by omega), at_code (by omega) (by omega), rfl, _, rfl, ?_⟩
   rw [show ({ cps := #[z.getD (i : Int).toNat 0] } : Str) = tx [z.getD i 0] from rfl, show ({ cps := #[g.getD (i : Int).toNat 0] } : Str) = tx [g.getD i 0] from rfl, dec_tx]
   by_cases c : i = i0
   ·subst c
    refine iteM (decide_eq_false fun q => hn0 (by simpa using q)) (hR _ _ ⟨rfl, rfl⟩)
   ·have e : z.getD i 0 = g.getD i 0 := by
     have kk : ∀ u : List Nat, u.getD i 0 = (u.take i0).getD i 0 := fun u => by
      rw [List.getD_eq_getElem?_getD, List.getD_eq_getElem?_getD, List.getElem?_take, if_pos (by omega)]
     rw [kk z, kk g, hp0]
    refine iteP (decide_eq_true (by rw [e])) ?_
    refine ⟨fun σ' H' => ∃ m', m' < m ∧ H' = H4 ∧ ∃ i : Nat, σ' = [some (.str (tx z)), some (.str (tx g)), some (.int i)] ∧ i ≤ i0 ∧ m' = i0 - i, fun _ _ z => z, ?_⟩
    refine ⟨_, rfl, _, _, rfl, rfl, i0 - (i + 1), by omega, rfl, i + 1, rfl, by omega, rfl⟩
  ·rintro σ H4 ⟨rfl, rfl⟩
   exact ⟨_, rfl, k i0 hi0 hp0 hn0⟩
abbrev sSwapTowards : Stmt := top 30
abbrev nSwapTowards : List Str := ["T", "goal", "long", "a", "c", "points", "places", "place", "d"]
theorem scSwapTowards : FnScope nSwapTowards ["T", "goal", "long"] (defScope sSwapTowards) := ⟨rfl, rfl, rfl, by decide +kernel, rfl, by decide +kernel, by decide +kernel⟩
def spSwTo : Sp := fun vs H Q _ => ∃ (z g : List Nat) (L : Nat), vs = [.str (tx z), .str (tx g), .int L] ∧ Both z g L ∧ z.length ≤ 100 ∧ z ≠ g ∧ pt z L 0 = pt g L 0 ∧ ∀ (a b c d : Nat) p H', StepS z g L a b c d → Same H H' → H p = none → H' p = some (.tup (.str "swap" :: [(a : Int), b, c, d].map V.int)) → Q (.ref p) H'
theorem ok_swap_towards (D : HasDef K mg "swap_towards" sSwapTowards ["T", "goal", "long"]) (B : Blt mg) (g18_ : FOk P w K mg base 2 "first_unlike" ["one", "other"] spUnl) (g26_ : FOk P w K mg base 2 "points_along" ["T", "long"] spPts) : FOk P w K mg base 3 "swap_towards" ["T", "goal", "long"] spSwTo := by
 refine D.ok scSwapTowards (fun vs H Q E h => ?_) (fun f cdv A outer s H vs Q E hr h => ?_)
 ·obtain ⟨z, g, L, rfl, _⟩ := h
  rfl
 ·obtain ⟨z, g, L, rfl, hb, hz, ne, e0, k⟩ := h
  have hu := hu_of hr
  refine ⟨_, (pss_cons (ps_set (i := 3) scSwapTowards.nd rfl (Or.inl rfl) (pe_op op_add (pe_op op_sub (pe_fn g18_ hr (pa_cons (pv 0) (pa_cons (pv 1) pa_nil))) (pv 2)) pe_int))
   (pss_cons (ps_set (i := 4) scSwapTowards.nd rfl (Or.inl rfl) (pe_bm F.plainAttrs_str F.slot_str_find F.type_str_find mt_find (pv 0) (pa_cons (pe_slice sl_str (pv 1) (po_some (pv 3)) (po_some (pe_op op_add (pv 3) (pv 2)))) (pa_cons (pe_op op_add (pv 3) pe_int) pa_nil))))
   (pss_cons (ps_set (i := 5) scSwapTowards.nd rfl (Or.inl rfl) (pe_fn g26_ hr (pa_cons (pv 0) (pa_cons (pv 2) pa_nil))))
   (pss_cons (ps_set (i := 6) scSwapTowards.nd rfl (Or.inl rfl) pe_dnewK)
   (pss_cons (ps_for PassesOwn.never rfl (pi_range2 rfl B.range (pa_cons (pv 3) (pa_cons (pe_op op_add (pv 4) pe_int) pa_nil))) (pg_name (i := 7) scSwapTowards.nd rfl (Or.inl rfl))
    (pss_one (ps_dput hu (pv 6) (pe_ix ix_list (pv 5) (pv 7) (fun _ _ => rfl)) (pv 7) rfl)))
   (pss_cons (ps_set (i := 8) scSwapTowards.nd rfl (Or.inl rfl) (pe_op op_add (pv 4) pe_int))
   (pss_cons (ps_while PassesOwn.never (pt_cmp (pc_dnotin hu (pe_ix ix_list (pv 5) (pv 8) (fun _ _ => rfl)) (pv 6)))
    (pss_one (ps_set (i := 8) scSwapTowards.nd rfl (Or.inl rfl) (pe_op op_add (pv 8) pe_int))))
   (pss_one (ps_ret (pe_tup (pa_cons pe_str (pa_cons (pv 3) (pa_cons (pe_dget hu (pv 6) (pe_ix ix_list (pv 5) (pv 8) (fun _ _ => rfl)) (fun _ _ => rfl)) (pa_cons (pv 4) (pa_cons (pv 8) pa_nil))))))))))))))), ?_⟩
  have o := hb.fit.one
  have l := hb.fit.le
  have hlen := hb.len
  refine ⟨_, rfl, _, rfl, z, g, rfl, hb.len, by omega, ne, fun i hi hp hn => ?_⟩
  obtain ⟨a, ea, un⟩ := un_of hb e0 hi hp hn
  obtain ⟨c1, c1a, c1n, c1e⟩ := un.found
  obtain ⟨c, ca, cc1, cw, cl⟩ := least (P := fun k => wnd z L k = wnd g L a) (lo := a + 1) c1 c1a c1e
  have cn : c < z.length + 1 - L := by omega
  have hlt := un.lt
  refine ⟨_, rfl, _, _, rfl, rfl, _, _, rfl, rfl, ?_⟩
  have e1 : (i : Int) - (L : Int) + 1 = (a : Int) := by omega
  dsimp only
  rw [e1]
  refine ⟨_, rfl, rfl, _, rfl, _, rfl, _, rfl, _, rfl, _, rfl, _, _, rfl, rfl, _, rfl, _, rfl, tx_size (by omega), _, rfl, _, _, rfl, rfl, _, _, _, rfl, rfl, ?_⟩
  rw [slice_seg (z := g) (a := a) (b := a + L) rfl (by omega) (by omega) (by omega)]
  have eseg : seg g a (a + L) = wnd g L a := by
   unfold seg wnd
   rw [show a + L - a = L by omega]
  have hwl : (wnd g L a).length = L := by
   unfold wnd
   rw [List.length_take, List.length_drop]
   omega
  rw [eseg]
  have efind : Txt.find3 (tx z) (tx (wnd g L a)) ((a + 1 : Nat) : Int) = c := find_tx ca (by rw [hwl]; omega) (by rw [hwl]; exact cw) (fun k k1 k2 => by rw [hwl]; exact cl k k1 k2)
  rw [show (a : Int) + 1 = ((a + 1 : Nat) : Int) by omega, efind]
  refine ⟨_, rfl, _, rfl, z, L, rfl, hb.fit, by omega, fun pp H1 s1 hpp => ?_⟩
  intro pd npd
  have s2 := same_upd_new (o := .dK []) npd
  have hpp2 := s2 _ _ hpp
  have hpd2 : (upd H1 pd (.dK [])) pd = some (.dK []) := upd_same
  have Npd : H pd = none := s1.free npd
  generalize hH2 : upd H1 pd (.dK []) = H2 at s2 hpp2 hpd2
  have s12 := s1.trans s2
  refine ⟨_, rfl, _, rfl, _, _, rfl, rfl, _, _, rfl, ⟨by omega, by omega, by omega, by omega⟩, ?_⟩
  rw [show (((c : Int) + 1) - (a : Int)).toNat = c + 1 - a by omega]
  refine for_range (n := c + 1 - a) (fun i σ H3 => ∃ (kvs : List (Key × V)) (z7 : Option V), σ = [some (.str (tx z)), some (.str (tx g)), some (.int L), some (.int a), some (.int c), some (.ref pp), some (.ref pd), z7, none] ∧ Same H H3 ∧ H3 pp = some (.lst (ptsL z L)) ∧ H3 pd = some (.dK kvs) ∧ kvs.length ≤ i ∧ ∀ s, valV kvs (.inr s) = (lastOf (fun j => tx (pt z L (a + j))) i s).map fun j : Nat => V.int ((a + j : Nat) : Int))
   ⟨[], none, rfl, s12, hpp2, hpd2, Nat.le_refl _, fun s => rfl⟩ ?_ ?_
  ·rintro i σ H3 hi ⟨kvs, z7, rfl, s3, hpp3, hpd3, hl, hv⟩
   have e2 : (a : Int) + (i : Int) = ((a + i : Nat) : Int) := by omega
   rw [e2]
   refine ⟨_, rfl, _, rfl, _, rfl, _, rfl, pp, _, _, _, rfl, rfl, SqL.of hpp3, pts_at (p := a + i) (by omega), pd, _, rfl, DPut.k (k := .inr (tx (pt z L (a + i)))) hpd3 (Nat.lt_of_le_of_lt hl (Nat.lt_of_lt_of_le (show i < 1001 + 1 by omega) (size_small (by decide)))), ?_⟩
   refine ⟨putK kvs (.inr (tx (pt z L (a + i)))) (.int ((a + i : Nat) : Int)), _, rfl, fun b u e => ?_, ?_, upd_same, ?_, fun s => ?_⟩
   ·rw [upd_ne (ne_of_none e Npd)]
    exact s3 _ _ e
   ·have : pp ≠ pd := fun q => by rw [q, hpd3] at hpp3; cases hpp3
    rw [upd_ne this]
    exact hpp3
   ·have := length_putK kvs (.inr (tx (pt z L (a + i))) : Key) (.int ((a + i : Nat) : Int))
    omega
   ·rw [valV_put, hv, lastOf_succ]
    by_cases q : tx (pt z L (a + i)) = s
    ·rw [if_pos (by rw [q]), if_pos q]
     rfl
    ·rw [if_neg (fun e => q (Sum.inr.inj e).symm), if_neg q]
  ·rintro σ H3 ⟨kvs, z7, rfl, s3, hpp3, hpd3, hl, hv⟩
   refine ⟨_, rfl, _, _, rfl, rfl, ?_⟩
   obtain ⟨d1, d1c, d1n, b1, b1a, b1c, b1e⟩ := un.back (by omega) cn cw
   obtain ⟨d, dc, dd1, ⟨b2, b2a, b2c, b2e⟩, dl⟩ := least (P := fun k => ∃ b, a ≤ b ∧ b ≤ c ∧ pt z L b = pt z L k) (lo := c + 1) d1 d1c ⟨b1, b1a, b1c, b1e⟩
   have dn : d ≤ z.length - L + 1 := by omega
   have hin : ∀ k, (∃ b, a ≤ b ∧ b ≤ c ∧ pt z L b = pt z L k) → ∃ b, a ≤ b ∧ b ≤ c ∧ pt z L b = pt z L k ∧ (∀ j, b < j → j ≤ c → pt z L j ≠ pt z L k) ∧ valV kvs (.inr (tx (pt z L k))) = some (.int (b : Int)) := fun k ⟨b, h1, h2, h3⟩ => by
    obtain ⟨j, hj⟩ := lastOf_is (f := fun j => tx (pt z L (a + j))) (s := tx (pt z L k)) (n := c + 1 - a) (i := b - a) (by omega) (by rw [show a + (b - a) = b by omega, h3])
    obtain ⟨l1, l2, l3⟩ := lastOf_some hj
    refine ⟨a + j, by omega, by omega, tx_inj l2, fun m m1 m2 m3 => ?_, by rw [hv, hj]; rfl⟩
    have := l3 (m - a) (by omega) (by rw [show a + (m - a) = m by omega, m3])
    omega
   have hout : ∀ k, (∀ b, a ≤ b → b ≤ c → pt z L b ≠ pt z L k) → valV kvs (.inr (tx (pt z L k))) = none := fun k h => by
    rw [hv]
    cases hj : lastOf (fun j => tx (pt z L (a + j))) (c + 1 - a) (tx (pt z L k)) with
    | none => rfl
    | some j =>
     obtain ⟨l1, l2, l3⟩ := lastOf_some hj
     exact absurd (tx_inj l2) (h (a + j) (by omega) (by omega))
   obtain ⟨b, ba, bc, be, bl, bv⟩ := hin d ⟨b2, b2a, b2c, b2e⟩
   dsimp only [gName]
   show tSeq (tWhile _ _) _ _ _ _
   refine seq_any (fun σ H4 => H4 = H3 ∧ σ = [some (.str (tx z)), some (.str (tx g)), some (.int L), some (.int a), some (.int c), some (.ref pp), some (.ref pd), z7, some (.int d)]) (fun R hR => ?_) ?_
   ·refine ⟨fun m σ H4 => H4 = H3 ∧ ∃ i : Nat, σ = [some (.str (tx z)), some (.str (tx g)), some (.int L), some (.int a), some (.int c), some (.ref pp), some (.ref pd), z7, some (.int i)] ∧ c + 1 ≤ i ∧ i ≤ d ∧ m = d - i, ⟨_, rfl, c + 1, rfl, Nat.le_refl _, dc, rfl⟩, ?_⟩
    rintro m σ H4 ⟨rfl, i, rfl, hi1, hi2, hm⟩
    refine ⟨_, rfl, _, rfl, pp, _, _, _, rfl, rfl, SqL.of hpp3, pts_at (p := i) (by omega), _, rfl, pd, _, rfl, DGet.k (k := .inr (tx (pt z L i))) hpd3, _, rfl, ?_⟩
    by_cases q : i = d
    ·subst q
     rw [bv]
     exact iteM rfl (hR _ _ ⟨rfl, rfl⟩)
    ·rw [hout i fun b h1 h2 h3 => dl i hi1 (by omega) ⟨b, h1, h2, h3⟩]
     refine iteP rfl ?_
     refine ⟨fun σ' H' => ∃ m', m' < m ∧ H' = H4 ∧ ∃ i : Nat, σ' = [some (.str (tx z)), some (.str (tx g)), some (.int L), some (.int a), some (.int c), some (.ref pp), some (.ref pd), z7, some (.int i)] ∧ c + 1 ≤ i ∧ i ≤ d ∧ m' = d - i, fun _ _ z => z, ?_⟩
     exact ⟨_, rfl, _, _, rfl, rfl, d - (i + 1), by omega, rfl, i + 1, rfl, by omega, by omega, rfl⟩
   ·rintro σ H4 ⟨rfl, rfl⟩
    refine ⟨_, rfl, _, rfl, _, rfl, _, rfl, pp, _, _, _, rfl, rfl, SqL.of hpp3, pts_at (p := d) dn, pd, .int (b : Int), rfl, .inl ⟨kvs, .inr (tx (pt z L d)), .inl hpd3, rfl, bv.symm⟩, _, rfl, _, rfl, few_size (by simp), fun p hp => ?_⟩
    refine k a b c d p _ ⟨un, by omega, cn, cw, fun k k1 k2 => cl k (by omega) k2, by omega, dn, ba, bc, be, bl, fun k k1 k2 j j1 j2 j3 => dl k (by omega) k2 ⟨j, j1, j2, j3⟩⟩ (s3.trans (same_upd_new hp)) (s3.free hp) upd_same
end
theorem step_done {g z : List Nat} {L : Nat} {d : List V} {r : List Nat} (hb : Both z g L) (h : Step g L z d r) : doneO z L (some d) = some r := by
 cases h with
 | turn n1 l1 e1 m1 => exact done_turn_ok (Nat.le_of_lt l1) (closed_of hb n1)
 | swap s =>
  obtain ⟨h1, h2, h3, h4, h5, h6⟩ := steps_fit s
  exact done_swap_ok h1 h2 h3 h4 h5 h6
theorem deedV {H : Hp} {a : Addr} {d : List V} {z r : List Nat} {L : Nat} (e : H a = some (.tup d)) (h : doneO z L (some d) = some r) : DeedV H (.ref a) (some d) := by
 have key : ∀ (wd : Str) (ns : List Int), ∀ y ∈ V.str wd :: ns.map V.int, ∃ n, TyB H y n := fun wd ns y hy => by
  rcases List.mem_cons.mp hy with rfl | hy
  ·exact ⟨_, .str _⟩
  ·obtain ⟨i, _, rfl⟩ := List.mem_map.mp hy
   exact ⟨_, .int _⟩
 rcases done_cases h with ⟨p0, p1, p2, p3, ee, _⟩ | ⟨p, ee, _⟩
 ·cases Option.some.inj ee
  exact .tup e (key _ _)
 ·cases Option.some.inj ee
  exact .tup e (key _ _)
section
variable {P : Program} {w : World} {K : PySem.W.Frag} {mg : Str → Option Value} {base : Heap}
abbrev sDeedTowards : Stmt := top 31
abbrev nDeedTowards : List Str := ["T", "goal", "long", "begin"]
theorem scDeedTowards : FnScope nDeedTowards ["T", "goal", "long"] (defScope sDeedTowards) := ⟨rfl, rfl, rfl, by decide +kernel, rfl, by decide +kernel, by decide +kernel⟩
def spTo : Sp := fun vs H Q _ => ∃ (z g : List Nat) (L : Nat), vs = [.str (tx z), .str (tx g), .int L] ∧ Both z g L ∧ z.length ≤ 100 ∧ z ≠ g ∧ ∀ (d : List V) (r : List Nat) p H', Step g L z d r → Same H H' → H p = none → H' p = some (.tup d) → Q (.ref p) H'
theorem ok_deed_towards (D : HasDef K mg "deed_towards" sDeedTowards ["T", "goal", "long"]) (B : Blt mg) (g25_ : FOk P w K mg base 3 "point_at" ["T", "long", "place"] spPoint) (g26_ : FOk P w K mg base 3 "points_along" ["T", "long"] spPts) (g29_ : FOk P w K mg base 3 "swap_towards" ["T", "goal", "long"] spSwTo) : FOk P w K mg base 4 "deed_towards" ["T", "goal", "long"] spTo := by
 refine D.ok scDeedTowards (fun vs H Q E h => ?_) (fun f cdv A outer s H vs Q E hr h => ?_)
 ·obtain ⟨z, g, L, rfl, _⟩ := h
  rfl
 ·obtain ⟨z, g, L, rfl, hb, hz, ne, k⟩ := h
  refine ⟨_, (pss_cons (ps_set (i := 3) scDeedTowards.nd rfl (Or.inl rfl) (pe_fn g25_ hr (pa_cons (pv 1) (pa_cons (pv 2) (pa_cons pe_int pa_nil)))))
   (pss_cons (ps_if (pt_cmpR op_ne (pe_fn g25_ hr (pa_cons (pv 0) (pa_cons (pv 2) (pa_cons pe_int pa_nil)))) (pv 3) (nomark _)) (pss_one (ps_ret (pe_tup (pa_cons pe_str (pa_cons (pe_bm F.plainAttrs_list F.slot_list_index F.type_list_index (mt_index K) (pe_fn g26_ hr (pa_cons (pv 0) (pa_cons (pv 2) pa_nil))) (pa_cons (pv 3) pa_nil)) pa_nil))))) pss_nil)
   (pss_one (ps_ret (pe_fn g29_ hr (pa_cons (pv 0) (pa_cons (pv 1) (pa_cons (pv 2) pa_nil)))))))), ?_⟩
  have o := hb.fit.one
  have l := hb.fit.le
  have hlen := hb.len
  refine ⟨_, rfl, _, rfl, g, L, 0, rfl, hb.symm.fit, by omega, by omega, ?_⟩
  refine ⟨_, rfl, _, rfl, z, L, 0, rfl, hb.fit, by omega, by omega, _, rfl, rfl, _, rfl, ?_⟩
  rw [dec_tx]
  by_cases c : pt z L 0 = pt g L 0
  ·refine iteM (by rw [decide_eq_true c]; rfl) ?_
   refine ⟨_, rfl, _, rfl, _, rfl, z, g, L, rfl, hb, hz, ne, c, fun a b cc d p H' st s1 hp h1 => k _ _ p H' (.swap st) s1 hp h1⟩
  ·refine iteP (by rw [decide_eq_false c]; rfl) ?_
   obtain ⟨p0, h0, e0⟩ := begin_found hb
   obtain ⟨p, _, pp0, pe, pl⟩ := least (P := fun k => pt z L k = pt g L 0) (lo := 0) p0 (Nat.zero_le _) e0
   refine ⟨_, rfl, _, rfl, z, L, rfl, hb.fit, by omega, fun q H1 s1 hq => ?_⟩
   have epts : ptsL z L = ((List.range (z.length - L + 2)).map fun i => tx (pt z L i)).map V.str := by unfold ptsL; rw [List.map_map]; rfl
   have hget : ∀ i, i < z.length - L + 2 → ((List.range (z.length - L + 2)).map fun i => tx (pt z L i))[i]? = some (tx (pt z L i)) := fun i hi => by
    rw [List.getElem?_map, List.getElem?_range hi]
    rfl
   refine ⟨.inl ⟨rfl, _, SqL.of hq⟩, _, rfl, q, (List.range (z.length - L + 2)).map fun i => tx (pt z L i), tx (pt g L 0), p, rfl, rfl, SqL.of (by rw [hq, epts]), by rw [hget p (by omega), pe], fun i hi e => ?_, two_size, fun t ht => ?_⟩
   ·rw [hget i (by omega)] at e
    exact pl i (Nat.zero_le _) hi (tx_inj (Option.some.inj e))
   ·exact k _ _ t _ (.turn c (by omega) pe fun i hi => pl i (Nat.zero_le _) hi) (s1.trans (same_upd_new ht)) (s1.free ht) upd_same
abbrev sLedTo : Stmt := top 32
abbrev nLedTo : List Str := ["one", "other", "long", "deeds", "text"]
theorem scLedTo : FnScope nLedTo ["one", "other", "long"] (defScope sLedTo) := ⟨rfl, rfl, rfl, by decide +kernel, rfl, by decide +kernel, by decide +kernel⟩
def DsA (H : Hp) (as : List Addr) (ds : List (List V)) : Prop := as.length = ds.length ∧ ∀ (i : Nat) (d : List V), ds[i]? = some d → ∃ a, as[i]? = some a ∧ H a = some (.tup d)
theorem DsA.same {H H' : Hp} {as : List Addr} {ds : List (List V)} (h : DsA H as ds) (s : TSame H H') : DsA H' as ds := ⟨h.1, fun i d e => by
 obtain ⟨a, e1, e2⟩ := h.2 i d e
 exact ⟨a, e1, s _ _ e2⟩⟩
theorem DsA.snoc {H : Hp} {as : List Addr} {ds : List (List V)} {a : Addr} {d : List V} (h : DsA H as ds) (e : H a = some (.tup d)) : DsA H (as ++ [a]) (ds ++ [d]) := by
 refine ⟨by rw [List.length_append, List.length_append, h.1]; rfl, fun i d' e' => ?_⟩
 by_cases c : i < ds.length
 ·rw [List.getElem?_append_left c] at e'
  obtain ⟨b, e1, e2⟩ := h.2 i d' e'
  exact ⟨b, by rw [List.getElem?_append_left (by rw [h.1]; exact c)]; exact e1, e2⟩
 ·have hi := (List.getElem?_eq_some_iff.mp e').1
  rw [List.length_append, List.length_singleton] at hi
  have : i = ds.length := by omega
  subst this
  rw [List.getElem?_append_right (Nat.le_refl _), Nat.sub_self] at e'
  cases e'
  exact ⟨a, by rw [← h.1, List.getElem?_append_right (Nat.le_refl _), Nat.sub_self]; rfl, e⟩
def spLedTo (C : Addr) : Sp := fun vs H Q E => ∃ (z g : List Nat) (L : Nat), vs = [.str (tx z), .str (tx g), .int L] ∧ Fit z L ∧ Fit g L ∧ z.length ≤ 100 ∧ g.length ≤ 100 ∧ Cd z ∧ Cd g ∧
 ((win L z).Perm (win L g) → ∀ p H' as ds, Same H H' → H' p = some (.tup (as.map V.ref)) → DsA H' as ds → Path g L z ds → ds.length ≤ z.length - L + 1 → Q (.ref p) H') ∧ (¬ (win L z).Perm (win L g) → ∀ H', Same H H' → E (.ref C) none H')
theorem codes_heap {z : List Nat} {L : Nat} {hp : List Pr} (hc : Cd z) (h : HeapOf (pcs z L) hp) : CodesOk hp := fun p m => by
 have := (h.mem p.1).mp (List.mem_map.mpr ⟨p, m, rfl⟩)
 unfold pcs at this
 obtain ⟨i, _, e⟩ := List.mem_map.mp this
 rw [← e]
 exact strOk_of fun c q => hc c (List.mem_of_mem_drop (List.mem_of_mem_take q))
theorem last_ref (as : List Addr) (a : Addr) : atI ((as ++ [a]).map V.ref) (-1) = some (.ref a) := by
 unfold atI
 rw [List.length_map, List.length_append, List.length_singleton]
 have e : ixN (as.length + 1) (-1) = some as.length := by
  unfold ixN
  rw [if_neg (by decide), if_pos (by omega)]
  congr 1
  omega
 rw [e]
 show ((as ++ [a]).map V.ref)[as.length]? = _
 rw [List.map_append, List.getElem?_append_right (by simp)]
 simp
theorem ok_led_to {C C2 : Addr} {bm : List Value} (D : HasDef K mg "led_to" sLedTo ["one", "other", "long"]) (B : Blt mg) (c : XCls K mg "Unlike" C bm) (g24_ : FOk P w K mg base 4 "pieces_of" ["T", "long"] spPieces) (g15_ : FOk P w K mg base 4 "counted" ["pieces"] (spHeap K))
  (g17_ : FOk P w K mg base 4 "deed_towards" ["T", "goal", "long"] spTo) (g16_ : FOkX P w K mg base 4 "deed_done" ["T", "long", "deed"] (spDone C2)) : FOkX P w K mg base 5 "led_to" ["one", "other", "long"] (spLedTo C) := by
 refine D.okX scLedTo (fun vs H Q E h => ?_) (fun f cdv A outer s vs H Q E Lx hr h => ?_)
 ·obtain ⟨z, g, L, rfl, _⟩ := h
  rfl
 ·obtain ⟨z, g, L, rfl, hFz, hFg, hz, hg, cz, cg, kQ, kE⟩ := h
  refine ⟨_, (pss_cons (ps_if (pt_cmpR (op_neD hr.units) (pe_fn g15_ hr (pa_cons (pe_fn g24_ hr (pa_cons (pv 0) (pa_cons (pv 2) pa_nil))) pa_nil)) (pe_fn g15_ hr (pa_cons (pe_fn g24_ hr (pa_cons (pv 1) (pa_cons (pv 2) pa_nil))) pa_nil)) (nomark _)) (pss_one (ps_raise Lx c rfl (pa_cons pe_str pa_nil))) pss_nil)
   (pss_cons (ps_set (i := 3) scLedTo.nd rfl (Or.inl rfl) (pe_lst pa_nil))
   (pss_cons (ps_set (i := 4) scLedTo.nd rfl (Or.inl rfl) (pv 0))
   (pss_cons (PS.nox (ps_while PassesOwn.never (pt_cmpR op_ne (pv 4) (pv 1) (nomark _))
    (pss_cons (ps_expr (pe_bm F.plainAttrs_list F.slot_list_append F.type_list_append mt_appendR (pv 3) (pa_cons (pe_fn g17_ hr (pa_cons (pv 4) (pa_cons (pv 1) (pa_cons (pv 2) pa_nil)))) pa_nil)))
   (pss_one (ps_set (i := 4) scLedTo.nd rfl (Or.inl rfl) (pe_fnN g16_ hr (pa_cons (pv 4) (pa_cons (pv 2) (pa_cons (pe_ix ix_list (pv 3) (pe_un un_neg pe_int) (fun _ _ => rfl)) pa_nil)))))))))
   (pss_one (ps_ret (pe_callTy call_tuple_of rfl B.tuple b_tuple (pa_cons (pv 3) pa_nil)))))))), ?_⟩
  have o := hFz.one
  have l := hFz.le
  have lg := hFg.le
  refine ⟨_, rfl, _, rfl, z, L, rfl, o, l, by omega, fun p1 H1 s1 hp1 => ?_⟩
  refine ⟨p1, pcs z L, rfl, SqL.of hp1, by unfold pcs; rw [List.length_map, List.length_range]; omega, fun v1 H2 h1 s2 hA1 hO1 => ?_⟩
  refine ⟨_, rfl, _, rfl, g, L, rfl, o, lg, by omega, fun p2 H3 s3 hp2 => ?_⟩
  refine ⟨p2, pcs g L, rfl, SqL.of hp2, by unfold pcs; rw [List.length_map, List.length_range]; omega, fun v2 H4 h2 s4 hA2 hO2 => ?_⟩
  have hA1' := hA1.same (s3.trans s4).tup
  refine ⟨_, _, rep_heap hA1', rep_heap hA2, shaped_heap (codes_heap cz hO1), shaped_heap (codes_heap cg hO2), _, rfl, ?_⟩
  rw [eqv_heaps]
  have hiff : h1 = h2 ↔ (win L z).Perm (win L g) := by
   rw [heaps_eq hO1 hO2, pcs_win z hFz, pcs_win g hFg]
   exact perm_tx
  have sA := ((s1.trans s2).trans s3).trans s4
  by_cases cp : (win L z).Perm (win L g)
  rotate_left
  ·refine iteP (by rw [decide_eq_false fun q => cp (hiff.mp q)]; rfl) ⟨one_size, kE cp H4 sA⟩
  refine iteM (by rw [decide_eq_true (hiff.mpr cp)]; rfl) ?_
  have hlen : g.length = z.length := by
   have := cp.length_eq
   rw [win_len, win_len] at this
   omega
  have hb : Both z g L := ⟨hFz, hlen, cp⟩
  refine ⟨Nat.zero_le _, fun pl npl => ?_⟩
  have s5 := same_upd_new (o := .lst []) npl
  have hpl : (upd H4 pl (.lst [])) pl = some (.lst []) := upd_same
  have Npl : H pl = none := sA.free npl
  have s05 := sA.trans s5
  generalize upd H4 pl (.lst []) = H5 at s05 hpl
  refine ⟨_, rfl, ?_⟩
  dsimp only [gName]
  show tSeq (tWhile _ _) _ _ _ _
  refine seq_any (fun σ H6 => ∃ (as : List Addr) (ds : List (List V)), σ = [some (.str (tx z)), some (.str (tx g)), some (.int L), some (.ref pl), some (.str (tx g))] ∧ Same H H6 ∧ H6 pl = some (.lst (as.map V.ref)) ∧ DsA H6 as ds ∧ Walk g L z ds g ∧ ds.length ≤ z.length - L + 1) (fun R hR => ?_) ?_
  ·refine ⟨fun m σ H6 => ∃ (as : List Addr) (ds : List (List V)) (y : List Nat), σ = [some (.str (tx z)), some (.str (tx g)), some (.int L), some (.ref pl), some (.str (tx y))] ∧ Same H H6 ∧ H6 pl = some (.lst (as.map V.ref)) ∧ DsA H6 as ds ∧ Walk g L z ds y ∧ Both y g L ∧ y.length = z.length ∧ Far g L ds.length y ∧ m + ds.length = z.length - L + 1,
    ⟨_, [], [], z, rfl, s05, hpl, ⟨rfl, fun i d e => by cases e⟩, .nil, hb, rfl, .inl rfl, rfl⟩, ?_⟩
   rintro m σ H6 ⟨as, ds, y, rfl, s6, hp6, hds, hw, hby, hy, hfar, hm⟩
   refine ⟨_, rfl, _, rfl, rfl, _, rfl, ?_⟩
   rw [dec_tx]
   by_cases q : y = g
   ·subst q
    refine iteM (by rw [decide_eq_true rfl]; rfl) (hR _ _ ⟨as, ds, rfl, s6, hp6, hds, hw, by omega⟩)
   refine iteP (by rw [decide_eq_false q]; rfl) ?_
   refine ⟨fun σ' H' => ∃ m', m' < m ∧ ∃ (as : List Addr) (ds : List (List V)) (y : List Nat), σ' = [some (.str (tx z)), some (.str (tx g)), some (.int L), some (.ref pl), some (.str (tx y))] ∧ Same H H' ∧ H' pl = some (.lst (as.map V.ref)) ∧ DsA H' as ds ∧ Walk g L z ds y ∧ Both y g L ∧ y.length = z.length ∧ Far g L ds.length y ∧ m' + ds.length = z.length - L + 1, fun _ _ z => z, ?_⟩
   refine ⟨_, rfl, .inl ⟨rfl, _, SqL.of hp6⟩, _, rfl, _, rfl, _, rfl, y, g, L, rfl, hby, by omega, q, fun d r pd H7 st s7 npd hpd => ?_⟩
   have hp7 := s7 _ _ hp6
   have hds7 := hds.same s7.tup
   have hal : as.length ≤ 100 := by rw [hds.1]; omega
   refine ⟨pl, _, _, rfl, rfl, hp7, ?_, ?_⟩
   ·rw [List.length_map]
    exact Nat.lt_of_lt_of_le (show as.length < 1002 by omega) (size_small (by decide))
   have em : as.map V.ref ++ [V.ref pd] = (as ++ [pd]).map V.ref := by rw [List.map_append]; rfl
   rw [em]
   have nepd : pd ≠ pl := fun q => by rw [q, hp6] at npd; cases npd
   have hpd8 : (upd H7 pl (.lst ((as ++ [pd]).map V.ref))) pd = some (.tup d) := by rw [upd_ne nepd]; exact hpd
   have hpl8 : (upd H7 pl (.lst ((as ++ [pd]).map V.ref))) pl = some (.lst ((as ++ [pd]).map V.ref)) := upd_same
   have s8 : Same H (upd H7 pl (.lst ((as ++ [pd]).map V.ref))) := fun b u e => by
    rw [upd_ne (ne_of_none e Npl)]
    exact s7 _ _ (s6 _ _ e)
   have t8 : TSame H7 (upd H7 pl (.lst ((as ++ [pd]).map V.ref))) := fun b u e => by
    rw [upd_ne fun q => by rw [q, hp7] at e; cases e]
    exact e
   have hds8 := (hds7.same t8).snoc hpd8
   generalize upd H7 pl (.lst ((as ++ [pd]).map V.ref)) = H8 at hpd8 hpl8 s8 hds8
   have hdone := step_done hby st
   refine ⟨_, rfl, _, rfl, _, rfl, _, rfl, pl, _, -1, _, rfl, rfl, SqL.of hpl8, last_ref as pd, y, L, .ref pd, some d, rfl, hby.fit, by omega, deedV hpd8 hdone, fun r' hr' H9 s9 => ?_, fun hn => by rw [hdone] at hn; cases hn⟩
   rw [hdone] at hr'
   cases hr'
   have hbr := step_both hby st
   have hfr := step_far hby st hfar
   have hrl : r.length = z.length := by rw [← hbr.len]; exact hlen
   have hk : ds.length + 1 ≤ z.length - L + 1 := by
    rcases hfr with q | ⟨_, q, _⟩
    ·omega
    ·omega
   refine ⟨m - 1, by omega, as ++ [pd], ds ++ [d], r, rfl, s8.trans s9, s9 _ _ hpl8, hds8.same s9.tup, hw.snoc q st, hbr, hrl, by rw [List.length_append, List.length_singleton]; exact hfr, by rw [List.length_append, List.length_singleton]; omega⟩
  ·rintro σ H6 ⟨as, ds, rfl, s6, hp6, hds, hw, hdl⟩
   refine ⟨_, rfl, pl, _, rfl, .inl ⟨SqL.of hp6, fun t ht => ?_⟩⟩
   have st := same_upd_new (o := .tup (as.map V.ref)) ht
   refine kQ cp t _ as ds (s6.trans st) upd_same (hds.same st.tup) ?_ hdl
   have := walk_path hw .nil
   rw [List.append_nil] at this
   exact this
end
structure Er53 (K : PySem.W.Frag) (mg : Str → Option Value) (S C A1 A2 A3 A4 A5 A6 A7 A8 : Addr) : Prop where
 sh : XCls K mg "ShredError" S (mroX K S)
 nd : XCls K mg "Unlike" C (mroX K C)
 up : (mroX K C).contains (.ref S) = true
 att : XAttr K C
 ve : PySem.W.kitOne K (.ref C) (.type "ValueError") = some true
 oth : PySem.W.kitAny K (.ref C) [.ref A1, .ref A2, .ref A3, .ref A4, .ref A5, .ref A6, .ref A7, .ref A8] = some false
 g1 : mg "NoText" = some (.ref A1)
 g2 : mg "NoHeap" = some (.ref A2)
 g3 : mg "NoPiece" = some (.ref A3)
 g4 : mg "NoLine" = some (.ref A4)
 g5 : mg "NoTexts" = some (.ref A5)
 g6 : mg "NoNumber" = some (.ref A6)
 g7 : mg "NoDeed" = some (.ref A7)
 g8 : mg "Apart" = some (.ref A8)
 vn : mg "ValueError" = none
 nd2 : XCls K mg "NoDeed" A7 (mroX K A7)
inductive At (g : List Nat) (L : Nat) (ds : List (List V)) : Nat → List Nat → Prop where
 | mk {i : Nat} {y : List Nat} : Both y g L → Path g L y (ds.drop i) → At g L ds i y
theorem At.step {g : List Nat} {L : Nat} {ds : List (List V)} {i : Nat} {y : List Nat} {d : List V} (h : At g L ds i y) (e : ds[i]? = some d) : ∃ r, doneO y L (some d) = some r ∧ Both y g L ∧ At g L ds (i + 1) r := by
 obtain ⟨hb, hp⟩ := h
 have hi := (List.getElem?_eq_some_iff.mp e).1
 have hd : ds.drop i = d :: ds.drop (i + 1) := by
  rw [List.drop_eq_getElem_cons hi]
  congr 1
  rw [List.getElem?_eq_getElem hi] at e
  exact Option.some.inj e
 rw [hd] at hp
 cases hp with
 | cons ne st p => exact ⟨_, step_done hb st, hb, .mk (step_both hb st) p⟩
theorem At.done {g : List Nat} {L : Nat} {ds : List (List V)} {y : List Nat} (h : At g L ds ds.length y) : y = g := by
 obtain ⟨hb, hp⟩ := h
 rw [List.drop_length] at hp
 cases hp
 rfl
theorem okDeed_of {z r : List Nat} {L : Nat} {d : List V} (h : doneO z L (some d) = some r) : okDeed (some d) = true := by
 cases c : okDeed (some d) with
 | true => rfl
 | false => rw [okDeed_none c] at h; cases h
section
variable {P : Program} {w : World} {K : PySem.W.Frag} {mg : Str → Option Value} {base : Heap}
abbrev sLWalked : Stmt := top 46
abbrev nLWalked : List Str := ["_law_one", "_law_other", "_law_long", "_law_told", "_law_here", "_law_deed"]
theorem scLWalked : FnScope nLWalked ["_law_one", "_law_other", "_law_long"] (defScope sLWalked) := ⟨rfl, rfl, rfl, by decide +kernel, rfl, by decide +kernel, by decide +kernel⟩
def spWalked : Sp := fun vs H Q _ => ∃ (z g : List Nat) (L : Nat), vs = [.str (tx z), .str (tx g), .int L] ∧ Both z g L ∧ z.length ≤ 63 ∧ Cd z ∧ Cd g ∧ ∀ H', Same H H' → Q (.bl true) H'
theorem shaped_nil : SeqAt.shaped (.tuple []) = true := by decide +kernel
theorem ok_l_walked {C : Addr} (D : HasDef K mg "_law_walked" sLWalked ["_law_one", "_law_other", "_law_long"]) (B : Blt mg) (g23_ : FOkX P w K mg base 5 "led_to" ["one", "other", "long"] (spLedTo C)) (g3_ : FOk P w K mg base 5 "_law_is_deed" ["_law_deed"] spLIsDeed) (g2_ : FOk P w K mg base 5 "_law_fits" ["_law_signs_here", "_law_long", "_law_deed"] spLFits)
  (g4_ : FOk P w K mg base 5 "_law_led" ["_law_signs_here", "_law_long", "_law_deed"] spLed) : FOk P w K mg base 6 "_law_walked" ["_law_one", "_law_other", "_law_long"] spWalked := by
 refine D.ok scLWalked (fun vs H Q E h => ?_) (fun f cdv A outer s H vs Q E hr h => ?_)
 ·obtain ⟨z, g, L, rfl, _⟩ := h
  rfl
 ·obtain ⟨z, g, L, rfl, hb, hz, cz, cg, k⟩ := h
  refine ⟨_, (pss_cons (ps_set (i := 3) scLWalked.nd rfl (Or.inl rfl) (pe_fnN g23_ hr (pa_cons (pv 0) (pa_cons (pv 1) (pa_cons (pv 2) pa_nil)))))
   (pss_cons (ps_if (PW.pt (pw_or (pt_not (pt_val (pe_callB call_isiB rfl B.isi b_isi (pa_cons (pv 3) (pa_cons (pe_ty rfl B.tuple b_tuple) pa_nil))))) (pw_or1 (pt_cmpR op_gt (pe_callB call_len rfl B.len b_len (pa_cons (pv 3) pa_nil)) (pe_op op_add (pe_op op_sub (pe_callB call_len rfl B.len b_len (pa_cons (pv 0) pa_nil)) (pv 2)) pe_int) (nomark _))))) (pss_one (ps_ret pe_bl)) pss_nil)
   (pss_cons (ps_set (i := 4) scLWalked.nd rfl (Or.inl rfl) (pv 0))
   (pss_cons (ps_for PassesOwn.never rfl (pi_tup (pv 3)) (pg_name (i := 5) scLWalked.nd rfl (Or.inl rfl))
    (pss_cons (ps_if (PW.pt (pw_or (pt_not (pt_val (pe_fn g3_ hr (pa_cons (pv 5) pa_nil)))) (pw_or1 (pt_not (pt_val (pe_fn g2_ hr (pa_cons (pv 4) (pa_cons (pv 2) (pa_cons (pv 5) pa_nil))))))))) (pss_one (ps_ret pe_bl)) pss_nil)
   (pss_one (ps_set (i := 4) scLWalked.nd rfl (Or.inl rfl) (pe_fn g4_ hr (pa_cons (pv 4) (pa_cons (pv 2) (pa_cons (pv 5) pa_nil))))))))
   (pss_one (ps_ret (pe_and (pe_cmpR op_eq (pv 4) (pv 1) (nomark _)) (pe_one (pe_or (pe_cmpR op_ne (pv 0) (pv 1) (nomark _)) (pe_one (pe_cmpR (op_eqD hr.units) (pv 3) (pe_tup pa_nil) (nomark _)))))))))))), ?_⟩
  have o := hb.fit.one
  have l := hb.fit.le
  have hlen := hb.len
  refine ⟨_, rfl, _, rfl, _, rfl, z, g, L, rfl, hb.fit, hb.symm.fit, by omega, by omega, cz, cg, fun _ p H1 as ds s1 hp hds hpath hdl => ?_, fun q => absurd hb.perm q⟩
  refine ⟨_, rfl, .ref p, "tuple", "tuple", rfl, by decide, .tup hp, _, rfl, iteM rfl ?_⟩
  refine ⟨_, rfl, .ref p, _, rfl, .inr ⟨_, SqT.of hp, rfl⟩, _, rfl, .str (tx z), z.length, rfl, ⟨tx_size (by omega), (tx_len z).symm⟩, _, rfl, _, _, rfl, rfl, _, _, rfl, rfl, _, _, rfl, rfl, _, rfl, iteM (decide_eq_false ?_) ?_⟩
  ·rw [List.length_map, hds.1]
   omega
  refine ⟨_, rfl, ?_⟩
  refine ⟨_, rfl, p, rfl, ⟨_, SqT.of hp⟩, for_tup (K := K) (a := p) (xs := as.map V.ref) (fun i σ H3 => ∃ (y : List Nat) (z5 : Option V), σ = [some (.str (tx z)), some (.str (tx g)), some (.int L), some (.ref p), some (.str (tx y)), z5] ∧ Same H1 H3 ∧ At g L ds i y) ⟨z, none, rfl, Same.refl _, .mk hb (by rw [List.drop_zero]; exact hpath)⟩ (fun i σ H3 _ ⟨_, _, _, s3, _⟩ => SqT.of (s3 _ _ hp)) ?_ ?_⟩
  ·rintro i v σ H3 hv ⟨y, z5, rfl, s3, hat⟩
   have hi : i < as.length := by
    have := (List.getElem?_eq_some_iff.mp hv).1
    rw [List.length_map] at this
    exact this
   have hi' : i < ds.length := by rw [← hds.1]; exact hi
   obtain ⟨a, ea, ha⟩ := hds.2 i _ (List.getElem?_eq_getElem hi')
   have ev : v = .ref a := by
    rw [List.getElem?_map, ea] at hv
    exact (Option.some.inj hv).symm
   subst ev
   obtain ⟨r, hdone, hby, hat'⟩ := hat.step (List.getElem?_eq_getElem hi')
   have hyl : y.length ≤ 63 := by have := hby.len; omega
   generalize ds[i] = d at ha hdone
   have ha3 := s3 _ _ ha
   refine ⟨_, rfl, .ref a, some d, rfl, deedV ha3 hdone, fun H4 s4 => ⟨_, rfl, ?_⟩⟩
   rw [okDeed_of hdone]
   refine iteM rfl ?_
   obtain ⟨xs, ns, exs, hform⟩ := okDeed_form (okDeed_of hdone)
   cases exs
   refine ⟨_, rfl, _, rfl, _, rfl, y, L, a, d, ns, rfl, hby.fit, hyl, s4 _ _ ha3, hform, fun H5 s5 => ⟨_, rfl, ?_⟩⟩
   rw [hdone]
   refine iteM rfl ?_
   refine ⟨_, rfl, _, rfl, _, rfl, y, L, a, d, r, rfl, hby.fit, hyl, s5 _ _ (s4 _ _ ha3), hdone, ?_⟩
   exact ⟨r, _, rfl, (s3.trans s4).trans s5, hat'⟩
  ·rintro σ H3 ⟨y, z5, rfl, s3, hat⟩
   rw [List.length_map, hds.1] at hat
   have ey := hat.done
   subst ey
   refine ⟨_, rfl, _, rfl, rfl, _, rfl, iteP (decide_eq_true rfl) ?_⟩
   refine ⟨_, rfl, _, rfl, rfl, _, rfl, ?_⟩
   rw [dec_tx]
   by_cases c : z = y
   ·subst c
    refine iteM (by rw [decide_eq_true rfl]; rfl) ?_
    cases hpath with
    | cons ne _ _ => exact absurd rfl ne
    | nil =>
     have eas : as = [] := List.length_eq_zero_iff.mp hds.1
     subst eas
     refine ⟨_, rfl, Nat.zero_le _, fun t ht => ?_⟩
     have st := same_upd_new (o := .tup []) ht
     refine ⟨.tuple [], .tuple [], ?_, ?_, shaped_nil, shaped_nil, ?_⟩
     ·rw [RepD]
      exact ⟨p, [], rfl, st _ _ (s3 _ _ hp), by rw [RepA]⟩
     ·rw [RepD]
      exact ⟨t, [], rfl, upd_same, by rw [RepA]⟩
     rw [show PyData.eqv (.tuple []) (.tuple []) = true by simp [PyData.eqv, PyData.eqvAll]]
     exact k _ ((s1.trans s3).trans st)
   ·refine iteP (by rw [decide_eq_false c]; rfl) ?_
    exact k _ (s1.trans s3)
end
section
variable {P : Program} {w : World} {K : PySem.W.Frag} {mg : Str → Option Value} {base : Heap} {S C A1 A2 A3 A4 A5 A6 A7 A8 : Addr}
abbrev sLUnlike : Stmt := top 47
abbrev nLUnlike : List Str := ["_law_one", "_law_other", "_law_long", "_law_own", "error"]
theorem scLUnlike : FnScope nLUnlike ["_law_one", "_law_other", "_law_long"] (defScope sLUnlike) := ⟨rfl, rfl, rfl, by decide +kernel, rfl, by decide +kernel, by decide +kernel⟩
def spUnlike : Sp := fun vs H Q _ => ∃ (z g : List Nat) (L : Nat), vs = [.str (tx z), .str (tx g), .int L] ∧ Fit z L ∧ z.length ≤ 100 ∧ g.length ≤ 100 ∧ Cd z ∧ Cd g ∧ ∀ H', Same H H' → Q (.bl true) H'
theorem torn_ok {z : List Nat} {L : Nat} {ss : List Str} (hc : Cd z) (h : ss.Perm ((win L z).map tx)) : ∀ p ∈ ss, PyData.strOk p = true := fun p hp => by
 have := h.mem_iff.mp hp
 unfold win at this
 rw [List.map_map] at this
 obtain ⟨i, _, e⟩ := List.mem_map.mp this
 rw [← e]
 exact strOk_of fun c q => hc c (List.mem_of_mem_drop (List.mem_of_mem_take q))
theorem ok_l_unlike (D : HasDef K mg "_law_unlike" sLUnlike ["_law_one", "_law_other", "_law_long"]) (B : Blt mg) (Er : Er53 K mg S C A1 A2 A3 A4 A5 A6 A7 A8) (G1 : FOkX P w K mg base 5 "led_to" ["one", "other", "long"] (spLedTo C)) (g11_ : FOk P w K mg base 5 "_law_torn" ["_law_signs_here", "_law_long"] spTorn) :
  FOk P w K mg base 6 "_law_unlike" ["_law_one", "_law_other", "_law_long"] spUnlike := by
 refine D.ok scLUnlike (fun vs H Q E h => ?_) (fun f cdv A outer s H vs Q E hr h => ?_)
 ·obtain ⟨z, g, L, rfl, _⟩ := h
  rfl
 ·obtain ⟨z, g, L, rfl, hF, hz, hg, cz, cg, k⟩ := h
  refine ⟨_, (pss_cons (ps_if (PW.pt (pw_or (pt_cmpR op_lt (pe_callB call_len rfl B.len b_len (pa_cons (pv 1) pa_nil)) (pv 2) (nomark _)) (pw_or1 (pt_cmpR (op_eqD hr.units) (pe_fn g11_ hr (pa_cons (pv 0) (pa_cons (pv 2) pa_nil))) (pe_fn g11_ hr (pa_cons (pv 1) (pa_cons (pv 2) pa_nil))) (nomark _))))) (pss_one (ps_ret pe_bl)) pss_nil)
   (pss_cons (ps_set (i := 3) scLUnlike.nd rfl (Or.inl rfl) (pe_lst pa_nil))
   (pss_cut (ps_try 4 rfl rfl rfl G1 hr Er.sh (fun _ => pa_cons (pv 0) (pa_cons (pv 1) (pa_cons (pv 2) pa_nil))) (fun ea oe pn hm =>
    (pss_cons (ps_set (i := 3) scLUnlike.nd rfl (Or.inl rfl) (pe_lst (pa_cons (pe_callB (call_isiE hm) rfl B.isi b_isi (pa_cons (pv 4) (pa_cons (pe_glob (v := .ref C) rfl Er.nd.bound rfl) pa_nil))) (pa_cons (pe_callB (call_isiE hm) rfl B.isi b_isi (pa_cons (pv 4) (pa_cons (pe_ty rfl Er.vn b_VE) pa_nil))) pa_nil))))
    (pss_one (ps_expr (pe_bmK K F.plainAttrs_list F.slot_list_append F.type_list_append mt_appendR (pv 3) (pa_cons (pe_callB (call_isiT hm) rfl B.isi b_isi (pa_cons (pv 4) (pa_cons (pe_tup (pa_cons (pe_glob (v := .ref A1) rfl Er.g1 rfl) (pa_cons (pe_glob (v := .ref A2) rfl Er.g2 rfl) (pa_cons (pe_glob (v := .ref A3) rfl Er.g3 rfl) (pa_cons (pe_glob (v := .ref A4) rfl Er.g4 rfl) (pa_cons (pe_glob (v := .ref A5) rfl Er.g5 rfl) (pa_cons (pe_glob (v := .ref A6) rfl Er.g6 rfl) (pa_cons (pe_glob (v := .ref A7) rfl Er.g7 rfl) (pa_cons (pe_glob (v := .ref A8) rfl Er.g8 rfl) pa_nil))))))))) pa_nil))) pa_nil)))))) scLUnlike.nd)
   (pss_one (ps_ret (pe_cmpR (op_eqD hr.units) (pv 3) (pe_lst (pa_cons pe_bl (pa_cons pe_bl (pa_cons pe_bl pa_nil)))) (nomark _))))))), ?_⟩
  show tSeq (tIfS _ _ _) _ _ _ _
  refine seq_cut (fun σ H' => σ = [some (.str (tx z)), some (.str (tx g)), some (.int L), none, none] ∧ Same H H' ∧ Fit g L ∧ ¬ (win L z).Perm (win L g)) (fun R hR => ?_) ?_
  ·refine ⟨_, rfl, .str (tx g), g.length, rfl, ⟨tx_size (by omega), (tx_len g).symm⟩, _, rfl, _, _, rfl, rfl, _, rfl, ?_⟩
   by_cases c : g.length < L
   ·exact iteP (decide_eq_true (by omega)) (iteT (k _ (Same.refl _)))
   refine iteM (decide_eq_false (by omega)) ?_
   have hFg : Fit g L := ⟨hF.one, by omega⟩
   refine ⟨_, rfl, _, rfl, z, L, rfl, hF, by omega, fun p1 H1 ss1 s1 hp1 hpm1 hsr1 => ?_⟩
   refine ⟨_, rfl, _, rfl, g, L, rfl, hFg, by omega, fun p2 H2 ss2 s2 hp2 hpm2 hsr2 => ?_⟩
   refine ⟨_, _, rep_slist (s2 _ _ hp1), rep_slist hp2, shaped_strs (torn_ok cz hpm1), shaped_strs (torn_ok cg hpm2), _, rfl, ?_⟩
   rw [eqv_slists]
   have hiff : ss1 = ss2 ↔ (win L z).Perm (win L g) := by
    rw [sortedL_eq hsr1 hsr2]
    constructor
    ·intro q
     exact perm_tx.mp ((hpm1.symm.trans q).trans hpm2)
    ·intro q
     exact (hpm1.trans (perm_tx.mpr q)).trans hpm2.symm
   by_cases cp : (win L z).Perm (win L g)
   ·exact iteP (decide_eq_true (hiff.mpr cp)) (k _ (s1.trans s2))
   ·exact iteM (decide_eq_false fun q => cp (hiff.mp q)) (hR _ _ ⟨rfl, s1.trans s2, hFg, cp⟩)
  rintro σ H0 ⟨rfl, s00, hFg, cp⟩
  refine ⟨Nat.zero_le _, fun p0 hp0 => ?_⟩
  have s0 := s00.trans (same_upd_new (o := .lst []) hp0)
  generalize upd H0 p0 (.lst []) = H00 at s0
  refine ⟨fun σ H' => ∃ p a0 a1 a2 a4, σ = [a0, a1, a2, some (.ref p), a4] ∧ Same H H' ∧ H' p = some (.lst ([true, true, false].map V.bl)), ?_, ?_⟩
  ·refine ⟨_, rfl, _, rfl, _, rfl, z, g, L, rfl, hF, hFg, hz, hg, cz, cg, fun q => absurd q cp, fun _ => ?_⟩
   intro H1 hs1
   refine ⟨⟨_, _, _, rfl, Er.nd, Er.up⟩, fun ea oe hoe hne => ?_⟩
   refine ⟨_, rfl, .ref C, C, .ref C, true, rfl, hoe, Er.att, rfl, kit_self, _, rfl, .ty "ValueError", C, _, true, rfl, hoe, Er.att, rfl, Er.ve, two_size, fun p hp => ?_⟩
   have s1 := same_upd_new (o := .lst [.bl true, .bl true]) hp
   refine ⟨_, rfl, .inl ⟨rfl, _, SqL.of upd_same⟩, _, rfl, (show 8 ≤ sizeLine by rw [sizeLine_eq]; decide), fun t ht => ?_⟩
   have s2 := same_upd_new (o := .tup [.ref A1, .ref A2, .ref A3, .ref A4, .ref A5, .ref A6, .ref A7, .ref A8]) ht
   refine ⟨t, C, [A1, A2, A3, A4, A5, A6, A7, A8], false, rfl, hoe, Er.att, upd_same, Er.oth, p, _, _, rfl, rfl, s2 _ _ upd_same, (show 2 < sizeLine by rw [sizeLine_eq]; decide), ?_⟩
   refine ⟨p, _, _, _, _, rfl, fun b o e => ?_, ?_⟩
   ·have e1 := hs1 b o (s0 b o e)
    rw [upd_ne (ne_of_none e1 hp)]
    exact s2 b o (s1 b o e1)
   ·rw [upd_same]
    rfl
  ·rintro σ H' ⟨p, a0, a1, a2, a4, rfl, sH, hp⟩
   refine ⟨_, rfl, (show 3 ≤ sizeLine by rw [sizeLine_eq]; decide), fun q hq => ?_⟩
   have s1 := same_upd_new (o := .lst ([true, true, false].map V.bl)) hq
   refine ⟨_, _, rep_blist (bs := [true, true, false]) (s1 _ _ hp), rep_blist (bs := [true, true, false]) upd_same, by decide +kernel, by decide +kernel, ?_⟩
   exact k _ (sH.trans s1)
end
def vD : V → PyData
 | .str s => .str s
 | .int i => .int i
 | _ => .none
def ledD (ds : List (List V)) : PyData := .tuple (ds.map fun d => .tuple (d.map vD))
theorem step_form {g z : List Nat} {L : Nat} {d : List V} {r : List Nat} (h : Step g L z d r) : ∃ ns, Form d ns := by
 cases h with
 | turn _ _ _ _ => exact ⟨_, .turn _⟩
 | swap _ => exact ⟨_, .swap _ _ _ _⟩
theorem path_form {g : List Nat} {L : Nat} {z : List Nat} {ds : List (List V)} (h : Path g L z ds) : ∀ d ∈ ds, ∃ ns, Form d ns := by
 induction h with
 | nil => intro d hd; cases hd
 | cons ne st _ ih =>
  intro d hd
  rcases List.mem_cons.mp hd with rfl | q
  ·exact step_form st
  ·exact ih d q
theorem rep_vs {H : Hp} : ∀ ns : List Int, RepA H ((ns.map V.int).map vD) (ns.map V.int)
 | [] => by rw [List.map_nil, List.map_nil, RepA]
 | p :: ps => by
  rw [List.map_cons, List.map_cons, RepA]
  exact ⟨.int p, ps.map V.int, rfl, by rw [vD, RepD], rep_vs ps⟩
theorem rep_form {H : Hp} {a : Addr} {d : List V} {ns : List Int} (f : Form d ns) (e : H a = some (.tup d)) : RepD H (.tuple (d.map vD)) (.ref a) := by
 rw [RepD]
 refine ⟨a, d, rfl, e, ?_⟩
 have key : ∀ (wd : Str) (ms : List Int), RepA H ((V.str wd :: ms.map V.int).map vD) (V.str wd :: ms.map V.int) := fun wd ms => by
  rw [List.map_cons, RepA]
  exact ⟨_, _, rfl, by rw [vD, RepD], rep_vs ms⟩
 cases f with
 | turn p => exact key _ _
 | swap a b c d => exact key _ _
theorem rep_leds {H : Hp} : ∀ (as : List Addr) (ds : List (List V)), DsA H as ds → (∀ d ∈ ds, ∃ ns, Form d ns) → RepA H (ds.map fun d => .tuple (d.map vD)) (as.map V.ref)
 | [], [], _, _ => by rw [List.map_nil, RepA]; rfl
 | [], d :: ds, h, _ => by cases h.1
 | a :: as, [], h, _ => by cases h.1
 | a :: as, d :: ds, h, hf => by
  rw [List.map_cons, RepA]
  obtain ⟨b, e1, e2⟩ := h.2 0 d rfl
  cases e1
  obtain ⟨ns, f⟩ := hf d List.mem_cons_self
  exact ⟨.ref a, as.map V.ref, rfl, rep_form f e2, rep_leds as ds ⟨by simpa using h.1, fun i d' e => h.2 (i + 1) d' e⟩ fun d' hd => hf d' (List.mem_cons_of_mem _ hd)⟩
theorem rep_led {H : Hp} {p : Addr} {as : List Addr} {ds : List (List V)} (e : H p = some (.tup (as.map V.ref))) (h : DsA H as ds) (hf : ∀ d ∈ ds, ∃ ns, Form d ns) : RepD H (ledD ds) (.ref p) := by
 unfold ledD
 rw [RepD]
 exact ⟨p, _, rfl, e, rep_leds as ds h hf⟩
theorem form_lay {d : List V} {ns : List Int} (f : Form d ns) : PyData.canLay0 (.tuple (d.map vD)) = true ∧ PyData.depth (.tuple (d.map vD)) ≤ 1 := by
 have h1 : PyData.strOk "turn" = true := by decide +kernel
 have h2 : PyData.strOk "swap" = true := by decide +kernel
 cases f with
 | turn p => simp [vD, PyData.canLay0, PyData.canLayAll0, PyData.depth, PyData.depthAll, h1]
 | swap a b c d => simp [vD, PyData.canLay0, PyData.canLayAll0, PyData.depth, PyData.depthAll, h2]
theorem lay_leds : ∀ ds : List (List V), (∀ d ∈ ds, ∃ ns, Form d ns) → PyData.canLayAll0 (ds.map fun d => .tuple (d.map vD)) = true ∧ PyData.depthAll (ds.map fun d => .tuple (d.map vD)) ≤ 1
 | [], _ => by simp [PyData.canLayAll0, PyData.depthAll]
 | d :: ds, h => by
  obtain ⟨ns, f⟩ := h d List.mem_cons_self
  have ih := lay_leds ds fun d' hd => h d' (List.mem_cons_of_mem _ hd)
  have hf := form_lay f
  rw [List.map_cons, PyData.canLayAll0, PyData.depthAll, hf.1, ih.1]
  exact ⟨rfl, by omega⟩
theorem shaped_led {ds : List (List V)} (hf : ∀ d ∈ ds, ∃ ns, Form d ns) : SeqAt.shaped (ledD ds) = true := by
 have h := lay_leds ds hf
 unfold SeqAt.shaped ledD
 rw [Bool.and_eq_true]
 constructor
 ·rw [PyData.canLay0]
  exact h.1
 ·refine decide_eq_true ?_
  rw [PyData.depth]
  omega
theorem eqv_sh {d : PyData} (h : SeqAt.shaped d = true) : PyData.eqv d d = true := SeqAt.eqv_refl d (SeqAt.canLay_of_shaped h)
theorem cd_seg {z : List Nat} (h : Cd z) (a b : Nat) : Cd (seg z a b) := fun c q => h c (List.mem_of_mem_drop (List.mem_of_mem_take q))
theorem cd_app {a b : List Nat} (h1 : Cd a) (h2 : Cd b) : Cd (a ++ b) := fun c q => (List.mem_append.mp q).elim (h1 c) (h2 c)
theorem done_ok {z r : List Nat} {L : Nat} {o : Option (List V)} (hF : Fit z L) (hc : Cd z) (h : doneO z L o = some r) : (win L r).Perm (win L z) ∧ r.length = z.length ∧ Cd r := by
 rcases done_cases h with ⟨p0, p1, p2, p3, e, h01, h12, h23, h3, e02, e13, rfl⟩ | ⟨p, e, hp, ec, rfl⟩
 ·refine ⟨swap_perm hF h01 h12 h23 h3 e02 e13, swap_len hF h01 h12 h23 h3, ?_⟩
  unfold swapF pt stt
  exact cd_app (cd_seg hc _ _) (cd_app (cd_seg hc _ _) (cd_app (cd_seg hc _ _) (cd_app (cd_seg hc _ _) (cd_app (cd_seg hc _ _) (cd_seg hc _ _)))))
 ·refine ⟨turn_perm hF hp ec, turn_len hF hp, ?_⟩
  unfold turnF pt stt
  exact cd_app (cd_app (cd_seg hc _ _) (cd_seg hc _ _)) (cd_seg hc _ _)
section
variable {P : Program} {w : World} {K : PySem.W.Frag} {mg : Str → Option Value} {base : Heap}
abbrev sLaw : Stmt := top 48
abbrev nLaw : List Str := ["_law_script", "_law_deck_here", "_law_signs_here", "_law_cell", "_law_long", "_law_other", "_law_k", "_law_at", "_law_odd"]
theorem scLaw : FnScope nLaw ["_law_script"] (defScope sLaw) := ⟨rfl, rfl, rfl, by decide +kernel, rfl, by decide +kernel, by decide +kernel⟩
def spLaw (K : PySem.W.Frag) : Sp := fun vs H Q _ => ∃ (a : Addr) (ns : List Int), vs = [.ref a] ∧ SqL K H a (ns.map V.int) ∧ ns.length ≤ 63 ∧ ∀ H', Q (.bl true) H'
theorem odd_at {a b c : List Nat} {i : Int} (h0 : 0 ≤ i) (h3 : i < 3) (ha : a.length ≤ 100 ∧ Cd a) (hb : b.length ≤ 100 ∧ Cd b) (hc : c.length ≤ 100 ∧ Cd c) : ∃ o : List Nat, atI [V.str (tx a), V.str (tx b), V.str (tx c)] i = some (.str (tx o)) ∧ o.length ≤ 100 ∧ Cd o := by
 have : i = 0 ∨ i = 1 ∨ i = 2 := by omega
 rcases this with rfl | rfl | rfl
 ·exact ⟨a, item_at (by decide) rfl, ha⟩
 ·exact ⟨b, item_at (by decide) rfl, hb⟩
 ·exact ⟨c, item_at (by decide) rfl, hc⟩
theorem ok_law {C fa : Addr} {fd : FuncData} (Fl : Fun K "law" "law" sLaw fa fd) (B : Blt mg) (g0_ : FOk P w K mg base 7 "_law_deck" ["_law_script", "_law_many"] (spDeck K)) (g10_ : FOk P w K mg base 7 "_law_text" ["_law_deck_here", "_law_most"] spText) (g1_ : FOk P w K mg base 7 "_law_drawn" ["_law_signs_here", "_law_long", "_law_cell"] spDrawn) (g4_ : FOk P w K mg base 7 "_law_led" ["_law_signs_here", "_law_long", "_law_deed"] spLed)
  (g13_ : FOk P w K mg base 7 "_law_walked" ["_law_one", "_law_other", "_law_long"] spWalked) (g23_ : FOkX P w K mg base 7 "led_to" ["one", "other", "long"] (spLedTo C)) (g12_ : FOk P w K mg base 7 "_law_unlike" ["_law_one", "_law_other", "_law_long"] spUnlike) :
  FnOk P w K mg base CX0 8 fa fd ["_law_script"] (spLaw K) := by
 refine Fl.ok scLaw (fun vs H Q E h => ?_) (fun cdv A outer s H vs Q E hr h => ?_)
 ·obtain ⟨a, ns, rfl, _⟩ := h
  rfl
 ·obtain ⟨a, ns, rfl, ha, hl, k⟩ := h
  refine ⟨_, (pss_cons (ps_set (i := 1) scLaw.nd rfl (Or.inl rfl) (pe_fn g0_ hr (pa_cons (pv 0) (pa_cons pe_int pa_nil))))
   (pss_cons (ps_set (i := 2) scLaw.nd rfl (Or.inl rfl) (pe_fn g10_ hr (pa_cons (pv 1) (pa_cons pe_int pa_nil))))
   (pss_cons (ps_set (i := 3) scLaw.nd rfl (Or.inl rfl) (pe_bm0 F.plainAttrs_list F.slot_list_pop F.type_list_pop mt_popR (pv 1)))
   (pss_cons (ps_set (i := 4) scLaw.nd rfl (Or.inl rfl) (pe_op op_add pe_int (pe_op op_mod (pe_op op_fdiv (pv 3) pe_int) (pe_callB (call_min2 rfl) rfl B.min b_min (pa_cons pe_int (pa_cons (pe_callB call_len rfl B.len b_len (pa_cons (pv 2) pa_nil)) pa_nil))))))
   (pss_cons (ps_if (pt_cmpR op_eq (pe_op op_mod (pv 3) pe_int) pe_int (nomark _)) (pss_one (ps_set (i := 4) scLaw.nd rfl (Or.inl rfl) (pe_op op_sub (pe_callB call_len rfl B.len b_len (pa_cons (pv 2) pa_nil)) (pe_op op_mod (pe_op op_fdiv (pv 3) pe_int) (pe_callB call_len rfl B.len b_len (pa_cons (pv 2) pa_nil)))))) pss_nil)
   (pss_cons (ps_set (i := 5) scLaw.nd rfl (Or.inl rfl) (pv 2))
   (pss_cons (ps_for PassesOwn.never rfl (pi_range1 rfl B.range (pa_cons (pe_op op_mod (pe_bm0 F.plainAttrs_list F.slot_list_pop F.type_list_pop mt_popR (pv 1)) pe_int) pa_nil)) (pg_name (i := 6) scLaw.nd rfl (Or.inl rfl))
    (pss_one (ps_set (i := 5) scLaw.nd rfl (Or.inl rfl) (pe_fn g4_ hr (pa_cons (pv 5) (pa_cons (pv 4) (pa_cons (pe_fn g1_ hr (pa_cons (pv 5) (pa_cons (pv 4) (pa_cons (pe_bm0 F.plainAttrs_list F.slot_list_pop F.type_list_pop mt_popR (pv 1)) pa_nil)))) pa_nil)))))))
   (pss_cons (ps_if (PW.pt (pw_or (pt_not (pt_val (pe_fn g13_ hr (pa_cons (pv 2) (pa_cons (pv 5) (pa_cons (pv 4) pa_nil)))))) (pw_or1 (pt_not (pt_val (pe_fn g13_ hr (pa_cons (pv 5) (pa_cons (pv 2) (pa_cons (pv 4) pa_nil))))))))) (pss_one (ps_ret pe_bl)) pss_nil)
   (pss_cons (ps_if (pt_cmpR (op_neD hr.units) (pe_fnN g23_ hr (pa_cons (pv 2) (pa_cons (pv 5) (pa_cons (pv 4) pa_nil)))) (pe_fnN g23_ hr (pa_cons (pv 2) (pa_cons (pv 5) (pa_cons (pv 4) pa_nil)))) (nomark _)) (pss_one (ps_ret pe_bl)) pss_nil)
   (pss_cons (ps_set (i := 3) scLaw.nd rfl (Or.inl rfl) (pe_bm0 F.plainAttrs_list F.slot_list_pop F.type_list_pop mt_popR (pv 1)))
   (pss_cons (ps_set (i := 7) scLaw.nd rfl (Or.inl rfl) (pe_op op_mod (pe_op op_fdiv (pv 3) pe_int) (pe_callB call_len rfl B.len b_len (pa_cons (pv 5) pa_nil))))
   (pss_cons (ps_set (i := 8) scLaw.nd rfl (Or.inl rfl) (pe_lst (pa_cons (pe_op op_add_str (pe_op op_add_str (pe_slice sl_str (pv 5) po_none (po_some (pv 7))) pe_str) (pe_slice sl_str (pv 5) (po_some (pe_op op_add (pv 7) pe_int)) po_none)) (pa_cons (pe_op op_add_str (pe_op op_add_str (pe_slice sl_str (pv 5) po_none (po_some (pv 7))) (pe_ix ix_str (pv 2) pe_int (fun _ _ => rfl))) (pe_slice sl_str (pv 5) (po_some (pv 7)) po_none)) (pa_cons (pe_op op_add_str (pe_slice sl_str (pv 5) po_none (po_some (pv 7))) (pe_slice sl_str (pv 5) (po_some (pe_op op_add (pv 7) pe_int)) po_none)) pa_nil)))))
   (pss_cons (ps_set (i := 8) scLaw.nd rfl (Or.inl rfl) (pe_ix ix_list (pv 8) (pe_op op_mod (pv 3) pe_int) (fun _ _ => rfl)))
   (pss_cons (ps_if (pt_cmpR op_eq (pv 8) pe_str (nomark _)) (pss_one (ps_ret pe_bl)) pss_nil)
   (pss_one (ps_ret (pe_and (pe_fn g12_ hr (pa_cons (pv 2) (pa_cons (pv 8) (pa_cons (pv 4) pa_nil)))) (pe_one (pe_fn g12_ hr (pa_cons (pv 8) (pa_cons (pv 2) (pa_cons (pe_callB (call_min2 rfl) rfl B.min b_min (pa_cons (pv 4) (pa_cons (pe_callB call_len rfl B.len b_len (pa_cons (pv 8) pa_nil)) pa_nil))) pa_nil)))))))))))))))))))))), ?_⟩
  refine ⟨_, rfl, a, ns, 100, rfl, ha, hl, by decide, fun Dk H1 s1 hD1 => ?_⟩
  refine ⟨_, rfl, Dk, 63, 70, rfl, by decide, by decide, hD1, fun z H2 sb2 hD2 z1 z3 zc => ?_⟩
  clear sb2 hD1
  have hD2' : DK H2 Dk (69 + 1) := hD2
  obtain ⟨ns1, c1, hDn1, c10, c11, hD3⟩ := hD2'.pop
  refine ⟨_, rfl, .inl ⟨rfl, _, SqL.of hDn1⟩, Dk, _, .int c1, rfl, rfl, hDn1, last_int ns1 c1, ?_⟩
  rw [drop_int]
  generalize upd H2 Dk (.lst (ns1.map V.int)) = H3 at hD3
  clear hD2 hD2' hDn1
  have hlenz : ∀ H', LenV K (.str (tx z)) H' (tx z).length := fun H' => ⟨tx_size (by omega), rfl⟩
  have hm4 : (0 : Int) < (if ((tx z).length : Int) < 4 then ((tx z).length : Int) else 4) := by rw [tx_len]; split <;> omega
  have hm4' : (if ((tx z).length : Int) < 4 then ((tx z).length : Int) else 4) ≤ z.length := by rw [tx_len]; split <;> omega
  refine ⟨_, rfl, _, _, rfl, rfl, ⟨by decide, by decide⟩, _, rfl, .str (tx z), _, rfl, hlenz _, 4, _, rfl, _, _, rfl, rfl, hm4, _, _, rfl, rfl, ?_⟩
  have mm := emod_bd (c1 / 7) hm4
  obtain ⟨L0, eL0⟩ : ∃ L : Nat, 1 + c1 / 7 % (if ((tx z).length : Int) < 4 then ((tx z).length : Int) else 4) = (L : Int) := ⟨(1 + c1 / 7 % (if ((tx z).length : Int) < 4 then ((tx z).length : Int) else 4)).toNat, by omega⟩
  have hL0 : 1 ≤ L0 ∧ L0 ≤ z.length := by omega
  dsimp only
  rw [eL0]
  clear eL0 mm hm4 hm4'
  show tSeq (tIfS _ _ _) _ _ _ _
  refine seq_cut (fun σ H' => ∃ L : Nat, σ = [some (.ref a), some (.ref Dk), some (.str (tx z)), some (.int c1), some (.int L), none, none, none, none] ∧ H' = H3 ∧ 1 ≤ L ∧ L ≤ z.length) (fun R hR => ?_) ?_
  ·refine ⟨_, rfl, _, _, rfl, rfl, (by show (0 : Int) < 7; decide), rfl, _, rfl, ite2 (fun e => ?_) (fun e => hR _ _ ⟨L0, rfl, rfl, hL0⟩)⟩
   have hlp : (0 : Int) < ((tx z).length : Int) := by rw [tx_len]; omega
   refine ⟨_, rfl, .str (tx z), _, rfl, hlenz _, _, rfl, _, _, rfl, rfl, ⟨by decide, by decide⟩, _, rfl, .str (tx z), _, rfl, hlenz _, _, _, rfl, rfl, hlp, _, _, rfl, rfl, ?_⟩
   have mm := emod_bd (c1 / 7) hlp
   obtain ⟨L1, eL1⟩ : ∃ L : Nat, ((tx z).length : Int) - c1 / 7 % ((tx z).length : Int) = (L : Int) := ⟨(((tx z).length : Int) - c1 / 7 % ((tx z).length : Int)).toNat, by omega⟩
   refine hR _ _ ⟨L1, by dsimp only; rw [eL1]; rfl, rfl, ?_⟩
   rw [tx_len] at eL1 mm
   omega
  rintro σ H4 ⟨L, rfl, rfl, hL1, hL2⟩
  have hF : Fit z L := ⟨hL1, hL2⟩
  clear hL0
  refine ⟨_, rfl, ?_⟩
  have hD3' : DK H4 Dk (68 + 1) := hD3.less (by decide)
  obtain ⟨ns2, c2, hDn2, c20, c21, hD5⟩ := hD3'.pop
  refine ⟨_, rfl, .inl ⟨rfl, _, SqL.of hDn2⟩, Dk, _, .int c2, rfl, rfl, hDn2, last_int ns2 c2, ?_⟩
  rw [drop_int]
  generalize upd H4 Dk (.lst (ns2.map V.int)) = H5 at hD5
  clear hD3 hD3' hDn2
  have m64 := emod_bd c2 (show (0 : Int) < 64 by decide)
  refine ⟨_, _, rfl, rfl, (by show (0 : Int) < 64; decide), _, rfl, by omega, by omega, ?_⟩
  obtain ⟨n, hn⟩ : ∃ n, n = (c2 % 64).toNat := ⟨_, rfl⟩
  have hn63 : n ≤ 63 := by omega
  rw [← hn]
  clear hn m64
  refine for_range (n := n) (fun i σ H6 => ∃ (y : List Nat) (z6 : Option V), σ = [some (.ref a), some (.ref Dk), some (.str (tx z)), some (.int c1), some (.int L), some (.str (tx y)), z6, none, none] ∧ DK H6 Dk (68 - i) ∧ Both z y L ∧ Cd y)
   ⟨z, none, rfl, hD5, ⟨hF, rfl, List.Perm.refl _⟩, zc⟩ ?_ ?_
  ·rintro i σ H6 hi ⟨y, z6, rfl, hD6, hby, yc⟩
   have hy := hby.len
   have hD6' : DK H6 Dk (68 - (i + 1) + 1) := hD6.less (by omega)
   obtain ⟨ns3, c3, hDn3, c30, c31, hD7⟩ := hD6'.pop
   refine ⟨_, rfl, _, rfl, _, rfl, _, rfl, _, rfl, .inl ⟨rfl, _, SqL.of hDn3⟩, Dk, _, .int c3, rfl, rfl, hDn3, last_int ns3 c3, ?_⟩
   rw [drop_int]
   generalize upd H6 Dk (.lst (ns3.map V.int)) = H7 at hD7
   refine ⟨y, L, c3, rfl, hby.symm.fit, by omega, c30, fun p H8 xs r s8 hp hdone => ?_⟩
   refine ⟨y, L, p, xs, r, rfl, hby.symm.fit, by omega, hp, hdone, ?_⟩
   obtain ⟨d1, d2, d3⟩ := done_ok hby.symm.fit yc hdone
   exact ⟨r, _, rfl, hD7.same s8, ⟨hF, by omega, hby.perm.trans d1.symm⟩, d3⟩
  ·rintro σ H6 ⟨y, z6, rfl, hD6, hb, yc⟩
   have hy := hb.len
   have o := hF.one
   refine ⟨_, rfl, _, rfl, _, rfl, z, y, L, rfl, hb, z3, zc, yc, fun H7 s7 => ⟨_, rfl, iteM rfl ?_⟩⟩
   refine ⟨_, rfl, _, rfl, _, rfl, y, z, L, rfl, hb.symm, by omega, yc, zc, fun H8 s8 => ⟨_, rfl, iteM rfl ?_⟩⟩
   have hD8 : DK H8 Dk 5 := ((hD6.same s7).same s8).less (by omega)
   clear hD6 s7 s8
   refine ⟨_, rfl, _, rfl, _, rfl, z, y, L, rfl, hb.fit, hb.symm.fit, by omega, by omega, zc, yc, fun _ q1 H9 as1 ds1 s9 hq1 hds1 hpa1 _ => ?_, fun q => absurd hb.perm q⟩
   refine ⟨_, rfl, _, rfl, _, rfl, z, y, L, rfl, hb.fit, hb.symm.fit, by omega, by omega, zc, yc, fun _ q2 H10 as2 ds2 s10 hq2 hds2 hpa2 _ => ?_, fun q => absurd hb.perm q⟩
   have eds := path_one hpa1 hpa2
   subst eds
   have hfm := path_form hpa1
   refine ⟨_, _, rep_led (s10 _ _ hq1) (hds1.same s10.tup) hfm, rep_led hq2 hds2 hfm, shaped_led hfm, shaped_led hfm, _, rfl, ?_⟩
   rw [eqv_sh (shaped_led hfm)]
   refine iteM rfl ?_
   have hD10 : DK H10 Dk (4 + 1) := (hD8.same s9).same s10
   clear hD8 s9 s10 hq1 hq2 hds1 hds2 hpa1 hpa2 hfm
   obtain ⟨ns4, c4, hDn4, c40, c41, hD11⟩ := hD10.pop
   refine ⟨_, rfl, .inl ⟨rfl, _, SqL.of hDn4⟩, Dk, _, .int c4, rfl, rfl, hDn4, last_int ns4 c4, ?_⟩
   rw [drop_int]
   generalize upd H10 Dk (.lst (ns4.map V.int)) = H11 at hD11
   have hlpy : (0 : Int) < ((tx y).length : Int) := by rw [tx_len]; omega
   have hleny : ∀ H', LenV K (.str (tx y)) H' (tx y).length := fun H' => ⟨tx_size (by omega), rfl⟩
   refine ⟨_, rfl, _, _, rfl, rfl, ⟨by decide, by decide⟩, _, rfl, .str (tx y), _, rfl, hleny _, _, _, rfl, rfl, hlpy, ?_⟩
   have ma := emod_bd (c4 / 3) hlpy
   obtain ⟨t, et⟩ : ∃ t : Nat, c4 / 3 % ((tx y).length : Int) = (t : Int) := ⟨(c4 / 3 % ((tx y).length : Int)).toNat, by omega⟩
   have ht : t < y.length := by rw [tx_len] at et ma; omega
   dsimp only
   rw [et]
   clear et ma hDn4 hD10
   have hty : (y.take t).length = t := by rw [List.length_take]; omega
   have hdy : (y.drop (t + 1)).length = y.length - (t + 1) := List.length_drop
   have hdy0 : (y.drop t).length = y.length - t := List.length_drop
   have ct : Cd (y.take t) := fun c q => yc c (List.mem_of_mem_take q)
   have cd1 : Cd (y.drop (t + 1)) := fun c q => yc c (List.mem_of_mem_drop q)
   have cd0 : Cd (y.drop t) := fun c q => yc c (List.mem_of_mem_drop q)
   have sl1 : Txt.slice (tx y) none (some (t : Int)) = tx (y.take t) := by rw [slice_take (by omega)]; rfl
   have sl2 : Txt.slice (tx y) (some ((t : Int) + 1)) none = tx (y.drop (t + 1)) := by rw [slice_drop (by omega) (by omega)]; rfl
   have sl3 : Txt.slice (tx y) (some (t : Int)) none = tx (y.drop t) := by rw [slice_drop (by omega) (by omega)]; rfl
   have eq1 : ("q" : Str) = tx [113] := rfl
   have cq : Cd [113] := fun c q => by rw [List.mem_singleton.mp q]; decide
   have hat0 := at_code (z := z) (i := 0) (by decide) (by omega)
   have c0 : Cd [z.getD 0 0] := fun c q => by
    rw [List.mem_singleton.mp q, List.getD_eq_getElem?_getD, List.getElem?_eq_getElem (show 0 < z.length by omega)]
    exact zc _ (List.getElem_mem _)
   refine ⟨_, rfl, _, rfl, _, rfl, _, rfl, tx_size (by omega), ?_⟩
   rw [sl1, eq1]
   refine ⟨_, _, rfl, rfl, ?_, ?_⟩
   ·rw [tx_len, tx_len]; exact few_size (by simp; omega)
   rw [tx_app]
   refine ⟨_, rfl, _, rfl, _, _, rfl, rfl, _, rfl, _, rfl, tx_size (by omega), ?_⟩
   rw [sl2]
   refine ⟨_, _, rfl, rfl, ?_, ?_⟩
   ·rw [tx_len, tx_len, List.length_append]; exact few_size (by simp; omega)
   rw [tx_app]
   refine ⟨_, rfl, _, rfl, _, rfl, _, rfl, tx_size (by omega), ?_⟩
   rw [sl1]
   refine ⟨_, rfl, tx z, _, _, rfl, rfl, tx_size (by omega), hat0, ?_⟩
   rw [show ({ cps := #[z.getD (0 : Int).toNat 0] } : Str) = tx [z.getD 0 0] from rfl]
   refine ⟨_, _, rfl, rfl, ?_, ?_⟩
   ·rw [tx_len, tx_len]; exact few_size (by simp; omega)
   rw [tx_app]
   refine ⟨_, rfl, _, rfl, _, rfl, _, rfl, tx_size (by omega), ?_⟩
   rw [sl3]
   refine ⟨_, _, rfl, rfl, ?_, ?_⟩
   ·rw [tx_len, tx_len, List.length_append]; exact few_size (by simp; omega)
   rw [tx_app]
   refine ⟨_, rfl, _, rfl, _, rfl, _, rfl, tx_size (by omega), ?_⟩
   rw [sl1]
   refine ⟨_, rfl, _, rfl, _, _, rfl, rfl, _, rfl, _, rfl, tx_size (by omega), ?_⟩
   rw [sl2]
   refine ⟨_, _, rfl, rfl, ?_, ?_⟩
   ·rw [tx_len, tx_len]; exact few_size (by omega)
   rw [tx_app]
   refine ⟨few_size (show 3 ≤ 1000 by decide), fun po npo => ?_⟩
   have m3 := emod_bd c4 (show (0 : Int) < 3 by decide)
   obtain ⟨od, eod, ol, oc⟩ := odd_at (a := y.take t ++ [113] ++ y.drop (t + 1)) (b := y.take t ++ [z.getD 0 0] ++ y.drop t) (c := y.take t ++ y.drop (t + 1)) m3.1 m3.2
    ⟨by simp only [List.length_append, List.length_singleton]; omega, cd_app (cd_app ct cq) cd1⟩ ⟨by simp only [List.length_append, List.length_singleton]; omega, cd_app (cd_app ct c0) cd0⟩ ⟨by rw [List.length_append]; omega, cd_app ct cd1⟩
   refine ⟨_, rfl, _, rfl, _, _, rfl, rfl, (by show (0 : Int) < 3; decide), po, _, _, _, rfl, rfl, SqL.of upd_same, eod, ?_⟩
   generalize upd H11 po _ = H12
   clear eod m3 npo sl1 sl2 sl3 hat0 c0 cq ct cd0 cd1 hty hdy hdy0 hD11
   refine ⟨_, rfl, rfl, _, rfl, ?_⟩
   rw [show ("" : Str) = tx [] from rfl, dec_tx]
   by_cases c : od = []
   ·exact iteP (decide_eq_true c) (k _)
   refine iteM (decide_eq_false c) ?_
   have hol : 1 ≤ od.length := List.length_pos_iff.mpr c
   refine ⟨_, rfl, _, rfl, _, rfl, z, od, L, rfl, hF, by omega, ol, zc, oc, fun H13 s13 => ⟨true, rfl, iteP rfl ?_⟩⟩
   obtain ⟨M, eM, hM1, hM2⟩ : ∃ M : Nat, (if ((tx od).length : Int) < (L : Int) then ((tx od).length : Int) else (L : Int)) = (M : Int) ∧ 1 ≤ M ∧ M ≤ od.length := by
    rw [tx_len]
    split
    ·exact ⟨od.length, rfl, hol, Nat.le_refl _⟩
    ·exact ⟨L, rfl, hL1, by omega⟩
   refine ⟨_, rfl, _, rfl, _, rfl, _, rfl, .str (tx od), _, rfl, ⟨tx_size (by omega), rfl⟩, _, _, rfl, od, z, M, (by rw [← eM]; rfl), ⟨hM1, hM2⟩, ol, by omega, oc, zc, fun H14 s14 => k _⟩
end
end Sh
namespace Sh
open PySem L2
theorem blt_mk {K : PySem.W.Frag} {h : Heap} {mg : Str → Option Value} (X : K.In h) (G : h.Ns mainGlobals mg) (z0 : PySem.W.nsIn K mainGlobals "isinstance" = some none) (z1 : PySem.W.nsIn K mainGlobals "int" = some none) (z2 : PySem.W.nsIn K mainGlobals "bool" = some none) (z3 : PySem.W.nsIn K mainGlobals "str" = some none) (z4 : PySem.W.nsIn K mainGlobals "tuple" = some none) (z5 : PySem.W.nsIn K mainGlobals "list" = some none) (z6 : PySem.W.nsIn K mainGlobals "len" = some none) (z7 : PySem.W.nsIn K mainGlobals "range" = some none) (z8 : PySem.W.nsIn K mainGlobals "all" = some none) (z9 : PySem.W.nsIn K mainGlobals "min" = some none) (z10 : PySem.W.nsIn K mainGlobals "sorted" = some none) (z11 : PySem.W.nsIn K mainGlobals "reversed" = some none) : Blt mg :=
 ⟨PySem.W.mg_none_of X G z0, PySem.W.mg_none_of X G z1, PySem.W.mg_none_of X G z2, PySem.W.mg_none_of X G z3, PySem.W.mg_none_of X G z4, PySem.W.mg_none_of X G z5, PySem.W.mg_none_of X G z6, PySem.W.mg_none_of X G z7, PySem.W.mg_none_of X G z8, PySem.W.mg_none_of X G z9, PySem.W.mg_none_of X G z10, PySem.W.mg_none_of X G z11⟩
theorem er_mk {K : PySem.W.Frag} {h : Heap} {mg : Str → Option Value} {S C A1 A2 A3 A4 A5 A6 A7 A8 : Addr} (X : K.In h) (G : h.Ns mainGlobals mg)
  (s0 : PySem.W.nsIn K mainGlobals "ShredError" = some (some (.ref S))) (th : PySem.W.nsIn K mainGlobals "Unlike" = some (some (.ref C))) (g1 : PySem.W.nsIn K mainGlobals "NoText" = some (some (.ref A1))) (g2 : PySem.W.nsIn K mainGlobals "NoHeap" = some (some (.ref A2))) (g3 : PySem.W.nsIn K mainGlobals "NoPiece" = some (some (.ref A3))) (g4 : PySem.W.nsIn K mainGlobals "NoLine" = some (some (.ref A4))) (g5 : PySem.W.nsIn K mainGlobals "NoTexts" = some (some (.ref A5))) (g6 : PySem.W.nsIn K mainGlobals "NoNumber" = some (some (.ref A6))) (g7 : PySem.W.nsIn K mainGlobals "NoDeed" = some (some (.ref A7))) (g8 : PySem.W.nsIn K mainGlobals "Apart" = some (some (.ref A8)))
  (vn : PySem.W.nsIn K mainGlobals "ValueError" = some none) (qs : PySem.W.excIn K S upVE "ValueError.__new__" = true) (qh : PySem.W.excIn K C upVE "ValueError.__new__" = true) (uh : PySem.W.mroIn K C (.ref S) = some true) (nh : (S == C) = false) (ah : XAttr K C)
  (veh : PySem.W.kitOne K (.ref C) (.type "ValueError") = some true) (oth : PySem.W.kitAny K (.ref C) [.ref A1, .ref A2, .ref A3, .ref A4, .ref A5, .ref A6, .ref A7, .ref A8] = some false) (q7 : PySem.W.excIn K A7 upVE "ValueError.__new__" = true) : Er53 K mg S C A1 A2 A3 A4 A5 A6 A7 A8 :=
 ⟨xcls_mk (PySem.W.mg_of X G s0) qs, xcls_mk (PySem.W.mg_of X G th) qh, up_of uh qh nh, ah, veh, oth, PySem.W.mg_of X G g1, PySem.W.mg_of X G g2, PySem.W.mg_of X G g3, PySem.W.mg_of X G g4, PySem.W.mg_of X G g5, PySem.W.mg_of X G g6, PySem.W.mg_of X G g7, PySem.W.mg_of X G g8, PySem.W.mg_none_of X G vn, xcls_mk (PySem.W.mg_of X G g7) q7⟩
theorem all_mk {l : PySem.W.OpenLaw} {w : World} {K : PySem.W.Frag} {h : Heap} {mg : Str → Option Value} {fa f0 : Addr} (X : K.In h) (G : h.Ns mainGlobals mg) (hfa : mg "law" = some (.ref fa)) {oc kV dc pm cd ct : Value} {od an : Option Addr} {sl : Array (Option Value)}
  (B : Blt mg) {S C A1 A2 A3 A4 A5 A6 A7 A8 : Addr} (Er : Er53 K mg S C A1 A2 A3 A4 A5 A6 A7 A8)
  (D0 : HasDef K mg "is_whole" sIsWhole ["thing"])
  (D1 : HasDef K mg "last_place" sLastPlace ["T", "long"])
  (D2 : HasDef K mg "point_at" sPointAt ["T", "long", "place"])
  (D3 : HasDef K mg "stretch_between" sStretchBetween ["T", "long", "here", "there"])
  (D4 : HasDef K mg "is_deed" sIsDeed ["thing", "word", "many"])
  (D5 : HasDef K mg "are_places" sArePlaces ["T", "long", "numbers"])
  (D6 : HasDef K mg "is_closed" sIsClosed ["T", "long"])
  (D7 : HasDef K mg "swap_fits" sSwapFits ["T", "long", "places"])
  (D8 : HasDef K mg "swapped" sSwapped ["T", "long", "places"])
  (D9 : HasDef K mg "turned" sTurned ["T", "long", "place"])
  (D10 : HasDef K mg "deed_done" sDeedDone ["T", "long", "deed"])
  (D11 : HasDef K mg "points_along" sPointsAlong ["T", "long"])
  (D12 : HasDef K mg "in_rows" sInRows ["manys"])
  (D13 : HasDef K mg "counted" sCounted ["pieces"])
  (D14 : HasDef K mg "pieces_of" sPiecesOf ["T", "long"])
  (D15 : HasDef K mg "first_unlike" sFirstUnlike ["one", "other"])
  (D16 : HasDef K mg "swap_towards" sSwapTowards ["T", "goal", "long"])
  (D17 : HasDef K mg "deed_towards" sDeedTowards ["T", "goal", "long"])
  (D18 : HasDef K mg "led_to" sLedTo ["one", "other", "long"])
  (D19 : HasDef K mg "_law_mixed" sLMixed ["_law_row", "_law_k"])
  (D20 : HasDef K mg "_law_deck" sLDeck ["_law_script", "_law_many"])
  (D21 : HasDef K mg "_law_letters" sLLetters ["_law_deck_here", "_law_few"])
  (D22 : HasDef K mg "_law_signs" sLSigns ["_law_deck_here", "_law_some", "_law_long"])
  (D23 : HasDef K mg "_law_text" sLText ["_law_deck_here", "_law_most"])
  (D24 : HasDef K mg "_law_points" sLPoints ["_law_signs_here", "_law_long"])
  (D25 : HasDef K mg "_law_part" sLPart ["_law_signs_here", "_law_long", "_law_one", "_law_other"])
  (D26 : HasDef K mg "_law_led" sLLed ["_law_signs_here", "_law_long", "_law_deed"])
  (D27 : HasDef K mg "_law_fits" sLFits ["_law_signs_here", "_law_long", "_law_deed"])
  (D28 : HasDef K mg "_law_is_deed" sLIsDeed ["_law_deed"])
  (D29 : HasDef K mg "_law_drawn" sLDrawn ["_law_signs_here", "_law_long", "_law_cell"])
  (D30 : HasDef K mg "_law_torn" sLTorn ["_law_signs_here", "_law_long"])
  (D31 : HasDef K mg "_law_walked" sLWalked ["_law_one", "_law_other", "_law_long"])
  (D32 : HasDef K mg "_law_unlike" sLUnlike ["_law_one", "_law_other", "_law_long"])
  (a0 : PySem.W.nsIn K mainGlobals "law" = some (some (.ref f0))) (l0 : K.lookup f0 = some ⟨oc, od, .func (PySem.W.fnOf "law" "law" (defArgs sLaw) (defBody sLaw) (defScope sLaw) .none kV dc pm an cd ct), sl⟩) (c0 : PySem.W.codeIn K cd "law" = true) (k0 : PySem.W.keepIn K (.ref f0) = true) :
  ∃ fd : FuncData, (∀ (s : Shared) (v : Value), BindsTo s fd ⟨[v], []⟩ [("_law_script", v)]) ∧ ∀ base : Heap, K.In base → base.Ns mainGlobals mg → FnOk l.prog w K mg base CX0 8 fa fd ["_law_script"] (spLaw K) := by
 have e := hfa.symm.trans (PySem.W.mg_of X G a0)
 cases e
 refine ⟨PySem.W.fnOf "law" "law" (defArgs sLaw) (defBody sLaw) (defScope sLaw) .none kV dc pm an cd ct, fun s v => .of_eq rfl, fun base _ _ => ?_⟩
 have W0 := ok_is_whole (P := l.prog) (w := w) (base := base) D0 B
 have W1 := ok_last_place (P := l.prog) (w := w) (base := base) D1 B
 have W2 := ok_point_at (P := l.prog) (w := w) (base := base) D2 B
 have W3 := ok_stretch (P := l.prog) (w := w) (base := base) D3 B
 have W4 := ok_is_deed (P := l.prog) (w := w) (base := base) D4 B W0
 have W5 := ok_are_places (P := l.prog) (w := w) (base := base) D5 B W1
 have W6 := ok_is_closed (P := l.prog) (w := w) (base := base) D6 B W1 W2
 have W7 := ok_swap_fits (P := l.prog) (w := w) (base := base) D7 B W5 (W2.mono (by decide))
 have W8 := ok_swapped (P := l.prog) (w := w) (base := base) D8 B W1 W2 W3
 have W9 := ok_turned (P := l.prog) (w := w) (base := base) D9 B W1 W2 W3
 have W10 := ok_deed_done (P := l.prog) (w := w) (base := base) D10 B Er.nd2 (W4.mono (by decide)) W7 (W8.mono (by decide)) (W5.mono (by decide)) (W6.mono (by decide)) (W9.mono (by decide))
 have W11 := ok_points_along (P := l.prog) (w := w) (base := base) D11 B W1 W2
 have W12 := ok_in_rows (P := l.prog) (w := w) (base := base) D12 B
 have W13 := ok_counted (P := l.prog) (w := w) (base := base) D13 B W12
 have W14 := ok_pieces_of (P := l.prog) (w := w) (base := base) D14 B
 have W15 := ok_first_unlike (P := l.prog) (w := w) (base := base) D15
 have W16 := ok_swap_towards (P := l.prog) (w := w) (base := base) D16 B (W15.mono (by decide)) W11
 have W17 := ok_deed_towards (P := l.prog) (w := w) (base := base) D17 B (W2.mono (by decide)) (W11.mono (by decide)) W16
 have W18 := ok_led_to (P := l.prog) (w := w) (base := base) D18 B Er.nd (W14.mono (by decide)) (W13.mono (by decide)) W17 W10
 have W19 := ok_l_mixed (P := l.prog) (w := w) (base := base) D19 B
 have W20 := ok_l_deck (P := l.prog) (w := w) (base := base) D20 B W19
 have W21 := ok_l_letters (P := l.prog) (w := w) (base := base) D21 B
 have W22 := ok_l_signs (P := l.prog) (w := w) (base := base) D22 B
 have W23 := ok_l_text (P := l.prog) (w := w) (base := base) D23 B W21 W22
 have W24 := ok_l_points (P := l.prog) (w := w) (base := base) D24 B
 have W25 := ok_l_part (P := l.prog) (w := w) (base := base) D25 B
 have W26 := ok_l_led (P := l.prog) (w := w) (base := base) D26 B W25
 have W27 := ok_l_fits (P := l.prog) (w := w) (base := base) D27 B W24
 have W28 := ok_l_is_deed (P := l.prog) (w := w) (base := base) D28 B
 have W29 := ok_l_drawn (P := l.prog) (w := w) (base := base) D29 B W24
 have W30 := ok_l_torn (P := l.prog) (w := w) (base := base) D30 B
 have W31 := ok_l_walked (P := l.prog) (w := w) (base := base) D31 B W18 (W28.mono (by decide)) (W27.mono (by decide)) (W26.mono (by decide))
 have W32 := ok_l_unlike (P := l.prog) (w := w) (base := base) D32 B Er W18 (W30.mono (by decide))
 exact ok_law (fun_mk (st := sLaw) l0 c0 k0) B (W20.mono (by decide)) (W23.mono (by decide)) (W29.mono (by decide)) (W26.mono (by decide)) (W31.mono (by decide)) (W18.mono (by decide)) (W32.mono (by decide))
theorem walk {l : PySem.W.OpenLaw} {q : Program} {loose : List Str} {XP : (Str → Option Value) → Heap → Prop} {YP : World → Heap → Prop} {d : DefRec} {K : Params → PySem.W.Frag} (hn : l.most = some 63) (hdf : d.params.defaults = [])
  (hY : ∀ (w : World) (h : Heap), YP w h → (K w.params).In h)
  (F : ∀ (w : World) (mg : Str → Option Value) (fa : Addr) (h : Heap), (K w.params).In h → h.Ns mainGlobals mg → mg d.name = some (.ref fa) →
   ∃ fd : FuncData, (∀ (s : Shared) (u : Value), BindsTo s fd ⟨[u], []⟩ [("_law_script", u)]) ∧ ∀ base : Heap, (K w.params).In base → base.Ns mainGlobals mg → FnOk l.prog w (K w.params) mg base CX0 8 fa fd ["_law_script"] (spLaw (K w.params))) :
  PySem.W.WalkO q loose XP YP l.row.toRowW d [] (fun f vs => PySem.call f vs) :=
 L2.walk_of (n := 63) (k := 8) (x := "_law_script") (CX := fun _ => CX0) (sp := fun w => spLaw (K w.params)) hn (by decide) hdf ⟨rfl, by decide, by decide⟩ hY F (fun _ _ a ns hl _ hS => ⟨a, ns, rfl, hS, hl, fun _ => rfl⟩) fun _ _ _ _ _ z => z
end Sh
def PySem.W.Fast.tw10522181620762525776 : Unit := ()
def PySem.W.Fast.tw15805300737006828978 : Unit := ()
def PySem.W.Fast.tw1865664153279132139 : Unit := ()
def PySem.W.Fast.tw4171810361584968538 : Unit := ()
def PySem.W.Fast.tw14351773894000876902 : Unit := ()
def PySem.W.Fast.tw7106448140036097384 : Unit := ()
def PySem.W.Fast.tw6994226043850730097 : Unit := ()
def PySem.W.Fast.tw17147826511672786256 : Unit := ()
def PySem.W.Fast.tw15067823776935892960 : Unit := ()
def PySem.W.Fast.tw14571556229456803088 : Unit := ()
def PySem.W.Fast.tw680578965581432066 : Unit := ()
def PySem.W.Fast.tw2804189105188038209 : Unit := ()
def PySem.W.Fast.tw12135237015603752589 : Unit := ()
def PySem.W.Fast.tw750681350687469852 : Unit := ()
def PySem.W.Fast.tw5257208602498107453 : Unit := ()
def PySem.W.Fast.tw1961499417413321864 : Unit := ()
def PySem.W.Fast.tw17662008056621490186 : Unit := ()
def PySem.W.Fast.tw779372458920516223 : Unit := ()
def PySem.W.Fast.tw1390066999440273478 : Unit := ()
def PySem.W.Fast.tw15951147595412507079 : Unit := ()
def PySem.W.Fast.tw17386349568169840755 : Unit := ()
def PySem.W.Fast.tw10107292225886684254 : Unit := ()
def PySem.W.Fast.tw17703668906931268062 : Unit := ()
def PySem.W.Fast.tw15966628779583921936 : Unit := ()
def PySem.W.Fast.tw5412317711248592640 : Unit := ()
def PySem.W.Fast.tw11120139061715975735 : Unit := ()
def PySem.W.Fast.tw14065129643932977767 : Unit := ()
def PySem.W.Fast.tw153819821694824808 : Unit := ()
def PySem.W.Fast.tw8750322246339845450 : Unit := ()
def PySem.W.Fast.tw15814823889018666626 : Unit := ()
def PySem.W.Fast.tw15385799757710651263 : Unit := ()
def PySem.W.Fast.tw15077442264332928106 : Unit := ()
def PySem.W.Fast.tw15736559233370550001 : Unit := ()
def PySem.W.Fast.tw12828346116966512296 : Unit := ()
def PySem.W.Fast.tw11939937076823902045 : Unit := ()
def PySem.W.Fast.tw7505564758142162882 : Unit := ()
def PySem.W.Fast.tw9193612938867121718 : Unit := ()
def PySem.W.Fast.tw1608715481053916958 : Unit := ()
def PySem.W.Fast.tw12646463258136825071 : Unit := ()
def PySem.W.Fast.tw18397823685258199734 : Unit := ()
def PySem.W.Fast.tw15957766598941964839 : Unit := ()
def PySem.W.Fast.tw12449275090446007142 : Unit := ()
def PySem.W.Fast.tw5558871755896198356 : Unit := ()
def PySem.W.Fast.tw16498690522473461896 : Unit := ()
def PySem.W.Fast.tw9480792373358607042 : Unit := ()
def PySem.W.Fast.tw3131943912393440791 : Unit := ()
def PySem.W.Fast.tw17713340335464665012 : Unit := ()
def PySem.W.Fast.tw2018209343766288753 : Unit := ()
def PySem.W.Fast.tw1679684098391890132 : Unit := ()
def PySem.W.Fast.tw4496697650034451349 : Unit := ()
def PySem.W.Fast.tw2653467014685733986 : Unit := ()
def PySem.W.Fast.tw11425041567127539912 : Unit := ()
def PySem.W.Fast.tw4147572209666596790 : Unit := ()
def PySem.W.Fast.tw8538080853846810073 : Unit := ()
def PySem.W.Fast.tw1478153328589430663 : Unit := ()
def PySem.W.Fast.tw10087909513150770477 : Unit := ()
def PySem.W.Fast.tw2522802415518058195 : Unit := ()
def PySem.W.Fast.tw16521526675854932537 : Unit := ()
def PySem.W.Fast.tw1804673541470917101 : Unit := ()
def PySem.W.Fast.tw13925429090019046006 : Unit := ()
def PySem.W.Fast.tw4826308938530875411 : Unit := ()
def PySem.W.Fast.tw8580886012410727262 : Unit := ()
def PySem.W.Fast.tw16909861764044877728 : Unit := ()
def PySem.W.Fast.tw7365687811761520032 : Unit := ()
def PySem.W.Fast.tw8569503060497104244 : Unit := ()
def PySem.W.Fast.tw15006983080240410676 : Unit := ()
def PySem.W.Fast.tw9020148460531454100 : Unit := ()
def PySem.W.Fast.tw7792638263235800193 : Unit := ()
def PySem.W.Fast.tw12506640786260292910 : Unit := ()
def PySem.W.Fast.tw9751092803766863748 : Unit := ()
def PySem.W.Fast.tw15370174747130816777 : Unit := ()
def PySem.W.Fast.tw16820848281959693663 : Unit := ()
def PySem.W.Fast.tw1378644643504312904 : Unit := ()
def PySem.W.Fast.tw16722732033469664263 : Unit := ()
def PySem.W.Fast.tw17085812716470779396 : Unit := ()
def PySem.W.Fast.tw9511237108629236023 : Unit := ()
def PySem.W.Fast.tw3176605976255994956 : Unit := ()
def PySem.W.Fast.tw14451658364715588204 : Unit := ()
def PySem.W.Fast.tw6020162162488946120 : Unit := ()
def PySem.W.Fast.tw10942985802593126194 : Unit := ()
def PySem.W.Fast.tw11754853701517164123 : Unit := ()
def PySem.W.Fast.tw9589316980502758222 : Unit := ()
def PySem.W.Fast.tw15181307951734498247 : Unit := ()
def PySem.W.Fast.tw2801306621134230974 : Unit := ()
def PySem.W.Fast.tw13977901805440604457 : Unit := ()
open PySem PySem.W PyProof.Rows
set_option maxRecDepth 100000 in
theorem PySem.Challenge.cw_shredjoin_k53_whole_led_holds : PySem.Challenge.rw_shredjoin_k53_whole_led.Holds := by
 w_on; o_law; k_head; (case hw => w_witness2)
 k_fill
 refine Sh.walk (l := PySem.Challenge.rw_shredjoin_k53_whole_led) rfl rfl (fun w h Y => PySem.W.kIn_of Y) ?F
 case F =>
  intro w mg fa h KX G hmg
  refine' Sh.all_mk KX G hmg ?B ?Er ?D0 ?D1 ?D2 ?D3 ?D4 ?D5 ?D6 ?D7 ?D8 ?D9 ?D10 ?D11 ?D12 ?D13 ?D14 ?D15 ?D16 ?D17 ?D18 ?D19 ?D20 ?D21 ?D22 ?D23 ?D24 ?D25 ?D26 ?D27 ?D28 ?D29 ?D30 ?D31 ?D32 ?a0 ?l0 ?c0 ?k0
  case B =>
   refine' Sh.blt_mk KX G ?z0 ?z1 ?z2 ?z3 ?z4 ?z5 ?z6 ?z7 ?z8 ?z9 ?z10 ?z11
   (case z0 => k_is); (case z1 => k_is); (case z2 => k_is); (case z3 => k_is); (case z4 => k_is); (case z5 => k_is); (case z6 => k_is); (case z7 => k_is); (case z8 => k_is); (case z9 => k_is); (case z10 => k_is); (case z11 => k_is)
  case Er =>
   refine' Sh.er_mk KX G ?s0 ?th ?g1 ?g2 ?g3 ?g4 ?g5 ?g6 ?g7 ?g8 ?vn ?qs ?qh ?uh ?nh ?ah ?veh ?oth ?q7
   (case s0 => k_is); (case th => k_is)
   (case g1 => k_is); (case g2 => k_is); (case g3 => k_is); (case g4 => k_is); (case g5 => k_is); (case g6 => k_is); (case g7 => k_is); (case g8 => k_is)
   (case vn => k_is); (case qs => k_exc); (case qh => k_exc)
   (case uh => k_is); (case nh => decide)
   (case ah =>
    refine' L2.xattr_mk ?ga ?gx ?gc ?sp ?tk ?mo ?mb ?cl
    (case ga => k_is); (case gx => k_is); (case gc => k_is); (case sp => k_is); (case tk => k_is); (case mo => k_is); (case mb => k_is); (case cl => k_is))
   (case veh => kit_is); (case oth => kit_is); (case q7 => k_exc)
  case D0 =>
   refine' L2.hasDef_mk KX G ?a ?l ?c ?k ?b
   (case a => k_is); (case l => k_is); (case c => k_is); (case k => k_is)
   case b => exact fun _ _ _ _ _ _ us hl => match us, hl with | [_], _ => rfl
  case D1 =>
   refine' L2.hasDef_mk KX G ?a ?l ?c ?k ?b
   (case a => k_is); (case l => k_is); (case c => k_is); (case k => k_is)
   case b => exact fun _ _ _ _ _ _ us hl => match us, hl with | [_, _], _ => rfl
  case D2 =>
   refine' L2.hasDef_mk KX G ?a ?l ?c ?k ?b
   (case a => k_is); (case l => k_is); (case c => k_is); (case k => k_is)
   case b => exact fun _ _ _ _ _ _ us hl => match us, hl with | [_, _, _], _ => rfl
  case D3 =>
   refine' L2.hasDef_mk KX G ?a ?l ?c ?k ?b
   (case a => k_is); (case l => k_is); (case c => k_is); (case k => k_is)
   case b => exact fun _ _ _ _ _ _ us hl => match us, hl with | [_, _, _, _], _ => rfl
  case D4 =>
   refine' L2.hasDef_mk KX G ?a ?l ?c ?k ?b
   (case a => k_is); (case l => k_is); (case c => k_is); (case k => k_is)
   case b => exact fun _ _ _ _ _ _ us hl => match us, hl with | [_, _, _], _ => rfl
  case D5 =>
   refine' L2.hasDef_mk KX G ?a ?l ?c ?k ?b
   (case a => k_is); (case l => k_is); (case c => k_is); (case k => k_is)
   case b => exact fun _ _ _ _ _ _ us hl => match us, hl with | [_, _, _], _ => rfl
  case D6 =>
   refine' L2.hasDef_mk KX G ?a ?l ?c ?k ?b
   (case a => k_is); (case l => k_is); (case c => k_is); (case k => k_is)
   case b => exact fun _ _ _ _ _ _ us hl => match us, hl with | [_, _], _ => rfl
  case D7 =>
   refine' L2.hasDef_mk KX G ?a ?l ?c ?k ?b
   (case a => k_is); (case l => k_is); (case c => k_is); (case k => k_is)
   case b => exact fun _ _ _ _ _ _ us hl => match us, hl with | [_, _, _], _ => rfl
  case D8 =>
   refine' L2.hasDef_mk KX G ?a ?l ?c ?k ?b
   (case a => k_is); (case l => k_is); (case c => k_is); (case k => k_is)
   case b => exact fun _ _ _ _ _ _ us hl => match us, hl with | [_, _, _], _ => rfl
  case D9 =>
   refine' L2.hasDef_mk KX G ?a ?l ?c ?k ?b
   (case a => k_is); (case l => k_is); (case c => k_is); (case k => k_is)
   case b => exact fun _ _ _ _ _ _ us hl => match us, hl with | [_, _, _], _ => rfl
  case D10 =>
   refine' L2.hasDef_mk KX G ?a ?l ?c ?k ?b
   (case a => k_is); (case l => k_is); (case c => k_is); (case k => k_is)
   case b => exact fun _ _ _ _ _ _ us hl => match us, hl with | [_, _, _], _ => rfl
  case D11 =>
   refine' L2.hasDef_mk KX G ?a ?l ?c ?k ?b
   (case a => k_is); (case l => k_is); (case c => k_is); (case k => k_is)
   case b => exact fun _ _ _ _ _ _ us hl => match us, hl with | [_, _], _ => rfl
  case D12 =>
   refine' L2.hasDef_mk KX G ?a ?l ?c ?k ?b
   (case a => k_is); (case l => k_is); (case c => k_is); (case k => k_is)
   case b => exact fun _ _ _ _ _ _ us hl => match us, hl with | [_], _ => rfl
  case D13 =>
   refine' L2.hasDef_mk KX G ?a ?l ?c ?k ?b
   (case a => k_is); (case l => k_is); (case c => k_is); (case k => k_is)
   case b => exact fun _ _ _ _ _ _ us hl => match us, hl with | [_], _ => rfl
  case D14 =>
   refine' L2.hasDef_mk KX G ?a ?l ?c ?k ?b
   (case a => k_is); (case l => k_is); (case c => k_is); (case k => k_is)
   case b => exact fun _ _ _ _ _ _ us hl => match us, hl with | [_, _], _ => rfl
  case D15 =>
   refine' L2.hasDef_mk KX G ?a ?l ?c ?k ?b
   (case a => k_is); (case l => k_is); (case c => k_is); (case k => k_is)
   case b => exact fun _ _ _ _ _ _ us hl => match us, hl with | [_, _], _ => rfl
  case D16 =>
   refine' L2.hasDef_mk KX G ?a ?l ?c ?k ?b
   (case a => k_is); (case l => k_is); (case c => k_is); (case k => k_is)
   case b => exact fun _ _ _ _ _ _ us hl => match us, hl with | [_, _, _], _ => rfl
  case D17 =>
   refine' L2.hasDef_mk KX G ?a ?l ?c ?k ?b
   (case a => k_is); (case l => k_is); (case c => k_is); (case k => k_is)
   case b => exact fun _ _ _ _ _ _ us hl => match us, hl with | [_, _, _], _ => rfl
  case D18 =>
   refine' L2.hasDef_mk KX G ?a ?l ?c ?k ?b
   (case a => k_is); (case l => k_is); (case c => k_is); (case k => k_is)
   case b => exact fun _ _ _ _ _ _ us hl => match us, hl with | [_, _, _], _ => rfl
  case D19 =>
   refine' L2.hasDef_mk KX G ?a ?l ?c ?k ?b
   (case a => k_is); (case l => k_is); (case c => k_is); (case k => k_is)
   case b => exact fun _ _ _ _ _ _ us hl => match us, hl with | [_, _], _ => rfl
  case D20 =>
   refine' L2.hasDef_mk KX G ?a ?l ?c ?k ?b
   (case a => k_is); (case l => k_is); (case c => k_is); (case k => k_is)
   case b => exact fun _ _ _ _ _ _ us hl => match us, hl with | [_, _], _ => rfl
  case D21 =>
   refine' L2.hasDef_mk KX G ?a ?l ?c ?k ?b
   (case a => k_is); (case l => k_is); (case c => k_is); (case k => k_is)
   case b => exact fun _ _ _ _ _ _ us hl => match us, hl with | [_, _], _ => rfl
  case D22 =>
   refine' L2.hasDef_mk KX G ?a ?l ?c ?k ?b
   (case a => k_is); (case l => k_is); (case c => k_is); (case k => k_is)
   case b => exact fun _ _ _ _ _ _ us hl => match us, hl with | [_, _, _], _ => rfl
  case D23 =>
   refine' L2.hasDef_mk KX G ?a ?l ?c ?k ?b
   (case a => k_is); (case l => k_is); (case c => k_is); (case k => k_is)
   case b => exact fun _ _ _ _ _ _ us hl => match us, hl with | [_, _], _ => rfl
  case D24 =>
   refine' L2.hasDef_mk KX G ?a ?l ?c ?k ?b
   (case a => k_is); (case l => k_is); (case c => k_is); (case k => k_is)
   case b => exact fun _ _ _ _ _ _ us hl => match us, hl with | [_, _], _ => rfl
  case D25 =>
   refine' L2.hasDef_mk KX G ?a ?l ?c ?k ?b
   (case a => k_is); (case l => k_is); (case c => k_is); (case k => k_is)
   case b => exact fun _ _ _ _ _ _ us hl => match us, hl with | [_, _, _, _], _ => rfl
  case D26 =>
   refine' L2.hasDef_mk KX G ?a ?l ?c ?k ?b
   (case a => k_is); (case l => k_is); (case c => k_is); (case k => k_is)
   case b => exact fun _ _ _ _ _ _ us hl => match us, hl with | [_, _, _], _ => rfl
  case D27 =>
   refine' L2.hasDef_mk KX G ?a ?l ?c ?k ?b
   (case a => k_is); (case l => k_is); (case c => k_is); (case k => k_is)
   case b => exact fun _ _ _ _ _ _ us hl => match us, hl with | [_, _, _], _ => rfl
  case D28 =>
   refine' L2.hasDef_mk KX G ?a ?l ?c ?k ?b
   (case a => k_is); (case l => k_is); (case c => k_is); (case k => k_is)
   case b => exact fun _ _ _ _ _ _ us hl => match us, hl with | [_], _ => rfl
  case D29 =>
   refine' L2.hasDef_mk KX G ?a ?l ?c ?k ?b
   (case a => k_is); (case l => k_is); (case c => k_is); (case k => k_is)
   case b => exact fun _ _ _ _ _ _ us hl => match us, hl with | [_, _, _], _ => rfl
  case D30 =>
   refine' L2.hasDef_mk KX G ?a ?l ?c ?k ?b
   (case a => k_is); (case l => k_is); (case c => k_is); (case k => k_is)
   case b => exact fun _ _ _ _ _ _ us hl => match us, hl with | [_, _], _ => rfl
  case D31 =>
   refine' L2.hasDef_mk KX G ?a ?l ?c ?k ?b
   (case a => k_is); (case l => k_is); (case c => k_is); (case k => k_is)
   case b => exact fun _ _ _ _ _ _ us hl => match us, hl with | [_, _, _], _ => rfl
  case D32 =>
   refine' L2.hasDef_mk KX G ?a ?l ?c ?k ?b
   (case a => k_is); (case l => k_is); (case c => k_is); (case k => k_is)
   case b => exact fun _ _ _ _ _ _ us hl => match us, hl with | [_, _, _], _ => rfl
  (case a0 => k_is); (case l0 => k_is); (case c0 => k_is); (case k0 => k_is)
#print axioms PySem.Challenge.cw_shredjoin_k53_whole_led_holds
