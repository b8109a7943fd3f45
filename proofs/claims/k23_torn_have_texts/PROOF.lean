import PyProof.Rows.All
import Wide.All
import OpenK.AllK
import Wide.FinOn
import Lean
import PyProof.EqAt
import PyProof.EqKinds
import PyProof.TupleCall
import KE.KSortTup
import KE.KItemsList
import KE.KUnpack
import KE.KRevIter
import PyProof.ListStr
import PyProof.EnumMake
import PyProof.EnumFor
import PyProof.EnumStmt
import KE.KMinBuiltin
import PyProof.WalkInts
import PyProof.Rows.CallKwBuiltin
import PyProof.DictItemsLoops
import KE.KDictLaws
import KE.KPairComp
import KE.KDictSum
import PyProof.SetRoads
import PyProof.Rows.SetFrom
import PyProof.FactsAll.set_1
import PyProof.FactsAll.set_2
import PyProof.Rows.DictUnroll
import PyProof.ZipIter
import KE.KStateDown
import KE.KRevSl
import PyProof.ListRange
import PyProof.Rows.Range3
import PyProof.SeqI3
import PyProof.TupleOfSeq
import KE.KDictOf
import PySem.Challenge.RW_shredjoin_k23_torn_have_texts
noncomputable section
set_option Elab.async false
set_option linter.all false
set_option maxRecDepth 100000
namespace L2
open PySem PySem.Spec PyProof.Rows
abbrev Key := Sum Int Str
noncomputable def keyIs : Key → Value → Bool
  | .inl k, v => Value.isInt k v
  | .inr x, v => Value.isStrOf x v
noncomputable def keyH (w : World) : Key → Int
  | .inl k => hashInt k
  | .inr x => hashStr w x
theorem keyIs_shape : ∀ {k : Key} {v : Value}, keyIs k v = true → (∃ i t, k = Sum.inl i ∧ v = Value.int i t) ∨ (∃ x t, k = Sum.inr x ∧ v = Value.str x t)
  | .inl i, v, h => by
    obtain ⟨t, e⟩ := Value.isInt_shape (k := i) (v := v) h
    exact .inl ⟨i, t, rfl, e⟩
  | .inr x, v, h => by
    obtain ⟨t, e⟩ := Value.isStrOf_shape (x := x) (v := v) h
    exact .inr ⟨x, t, rfl, e⟩
theorem keyIs_int (i : Int) (t : Tok) : keyIs (.inl i) (.int i t) = true := by simp [keyIs, Value.isInt]
theorem keyIs_str (x : Str) (t : Tok) : keyIs (.inr x) (.str x t) = true := by simp [keyIs, Value.isStrOf]
theorem key_ll (a b : Int) : decide ((Sum.inl a : Key) = Sum.inl b) = (a == b) := by
  by_cases e : a = b
  · subst e; simp
  · have h : ¬ (Sum.inl a : Key) = Sum.inl b := fun q => e (Sum.inl.inj q)
    rw [decide_eq_false h]
    exact (beq_eq_false_iff_ne.mpr e).symm
theorem key_rr (a b : Str) : decide ((Sum.inr a : Key) = Sum.inr b) = decide (a = b) := by
  by_cases e : a = b
  · subst e; simp
  · have h : ¬ (Sum.inr a : Key) = Sum.inr b := fun q => e (Sum.inr.inj q)
    rw [decide_eq_false h, decide_eq_false e]
theorem key_lr (a : Int) (b : Str) : decide ((Sum.inl a : Key) = Sum.inr b) = false := decide_eq_false (fun q => nomatch q)
theorem key_rl (a : Str) (b : Int) : decide ((Sum.inr a : Key) = Sum.inl b) = false := decide_eq_false (fun q => nomatch q)
noncomputable def mixKind (prog : Program) (w : World) : PySem.KeyKind prog w Key where
  is := keyIs
  hash := keyH w
  inj := fun v a b ha hb => by
    rcases keyIs_shape ha with ⟨i, t, rfl, rfl⟩ | ⟨x, t, rfl, rfl⟩
    · rcases keyIs_shape hb with ⟨j, u, rfl, e⟩ | ⟨y, u, rfl, e⟩
      · injection e with e1 _; rw [e1]
      · exact nomatch e
    · rcases keyIs_shape hb with ⟨j, u, rfl, e⟩ | ⟨y, u, rfl, e⟩
      · exact nomatch e
      · injection e with e1 _; rw [e1]
  byValue := fun k v h => by
    rcases keyIs_shape h with ⟨i, t, rfl, rfl⟩ | ⟨x, t, rfl, rfl⟩ <;> rfl
  pyHash := fun hv h => by
    rcases keyIs_shape hv with ⟨i, t, rfl, rfl⟩ | ⟨x, t, rfl, rfl⟩
    · exact wpAny_pyHash_int h
    · exact wpAny_pyHash_str h
  eqBool := fun hu hv h => by
    rcases keyIs_shape hu with ⟨i, t, rfl, rfl⟩ | ⟨x, t, rfl, rfl⟩
    · rcases keyIs_shape hv with ⟨j, u, rfl, rfl⟩ | ⟨y, u, rfl, rfl⟩
      · rw [key_ll] at h; exact wpAny_eqBool_int h
      · rw [key_lr] at h; exact SeqAt.EqAt.int_str i t y u _ _ _ _ h
    · rcases keyIs_shape hv with ⟨j, u, rfl, rfl⟩ | ⟨y, u, rfl, rfl⟩
      · rw [key_rl] at h; exact SeqAt.EqAt.str_int x t j u _ _ _ _ h
      · rw [key_rr] at h; exact wpAny_eqBool_str h
  «strs» := fun k x t v h => by
    rcases keyIs_shape h with ⟨i, u, rfl, e⟩ | ⟨y, u, rfl, e⟩
    · exact nomatch e
    · injection e with e1 _
      subst e1
      cases v <;> rfl
theorem mixKind_int (prog : Program) (w : World) (i : Int) (t : Tok) : (mixKind prog w).is (.inl i) (.int i t) = true := keyIs_int i t
theorem mixKind_str (prog : Program) (w : World) (x : Str) (t : Tok) : (mixKind prog w).is (.inr x) (.str x t) = true := keyIs_str x t
inductive V where
  | non | bl (b : Bool) | int (i : Int) | str (x : Str) | byt (b : Array UInt8) | flt (b : UInt64) | ref (a : Addr) | ty (n : String)
  deriving DecidableEq
def RelV : V → Value → Prop
  | .non, u => u = Value.none
  | .bl b, u => u = Value.bool b
  | .int i, u => ∃ t, u = Value.int i t
  | .str x, u => ∃ t, u = Value.str x t
  | .byt b, u => ∃ t, u = Value.bytes b t
  | .flt b, u => ∃ t, u = Value.float b t
  | .ref a, u => u = Value.ref a
  | .ty n, u => u = Value.type n
abbrev Vals : List V → List Value → Prop := Paired RelV
theorem Vals.length {xs : List V} {us : List Value} (r : Vals xs us) : xs.length = us.length := Paired.length r
theorem Vals.get : ∀ {xs : List V} {us : List Value} {i : Nat} {x : V}, Vals xs us → xs[i]? = some x → ∃ u, us[i]? = some u ∧ RelV x u
  | _, _, _, _, .nil, e => by simp at e
  | _, _, 0, _, .cons r _, e => by simp at e; subst e; exact ⟨_, rfl, r⟩
  | _, _, i + 1, x, .cons _ t, e => by
    obtain ⟨u, h1, h2⟩ := Vals.get (i := i) (x := x) t (by simpa using e)
    exact ⟨u, by simpa using h1, h2⟩
theorem Vals.set {x : V} {u : Value} (r : RelV x u) : ∀ {xs : List V} {us : List Value} (i : Nat), Vals xs us → Vals (xs.set i x) (us.set i u)
  | _, _, _, .nil => .nil
  | _, _, 0, .cons _ t => .cons r t
  | _, _, i + 1, .cons q t => .cons q (Vals.set r i t)
theorem Vals.append : ∀ {xs ys : List V} {us ws : List Value}, Vals xs us → Vals ys ws → Vals (xs ++ ys) (us ++ ws)
  | _, _, _, _, .nil, s => s
  | _, _, _, _, .cons r t, s => .cons r (Vals.append t s)
theorem Vals.take : ∀ {xs : List V} {us : List Value} (n : Nat), Vals xs us → Vals (xs.take n) (us.take n)
  | _, _, 0, _ => .nil
  | _, _, _ + 1, .nil => .nil
  | _, _, n + 1, .cons r t => .cons r (Vals.take n t)
theorem Vals.drop : ∀ {xs : List V} {us : List Value} (n : Nat), Vals xs us → Vals (xs.drop n) (us.drop n)
  | _, _, 0, r => r
  | _, _, _ + 1, .nil => .nil
  | _, _, n + 1, .cons _ t => Vals.drop n t
def RelO : Option V → Option Value → Prop
  | some v, some u => RelV v u
  | none, none => True
  | _, _ => False
def KV {κ : Type} : List (κ × V) → List (κ × Value) → Prop := Paired fun (p : κ × V) (q : κ × Value) => p.1 = q.1 ∧ RelV p.2 q.2
noncomputable def kV : Key → V
  | .inl i => .int i
  | .inr x => .str x
inductive HO where
    | lst (xs : List V)
    | tup (xs : List V)
    | dK (kvs : List (Key × V)) | dT (kvs : List (List Key × V))
    | set (S : Int → Bool) (n : Nat)
    | ins (C dx : Addr) (fs : List (Str × V))
    | own (x : Addr)
    | xd (fs : List (Str × V))
    | met (f x : Addr)
    | rng (lo hi : Int)
    | frz (o : Obj) (u : HO)
    | tbl (ps : Array Value)
    | ext (φ : Heap → Prop)
abbrev Hp := Addr → Option HO
noncomputable def upd (H : Hp) (a : Addr) (o : HO) : Hp := fun b => if b = a then some o else H b
theorem upd_same {H : Hp} {a : Addr} {o : HO} : upd H a o a = some o := by unfold upd; rw [if_pos rfl]
theorem upd_ne {H : Hp} {a b : Addr} {o : HO} (h : b ≠ a) : upd H a o b = H b := by unfold upd; rw [if_neg h]
theorem upd_upd {H : Hp} {a : Addr} {o u : HO} : upd (upd H a o) a u = upd H a u := by
  funext b; unfold upd; split <;> rfl
theorem ne_of {H : Hp} {a b : Addr} {o u : HO} (h : H a = some o) (h' : H b = some u) (d : o ≠ u) : a ≠ b := by
  intro e; subst e; rw [h] at h'; exact d (Option.some.inj h')
theorem ne_of_none {H : Hp} {a b : Addr} {o : HO} (h : H a = some o) (h' : H b = none) : a ≠ b := by
  intro e; subst e; rw [h] at h'; cases h'
section
variable (P : Program) (w : World)
def NoD (h : Heap) (a : Addr) : Prop := ∀ o, h.get? a = some o → o.dict = none
theorem noD_push {h : Heap} {o : Obj} (hd : o.dict = none) (hf : o.isFreed = false) : NoD (h.push o) h.objs.size := fun o2 e => by
  rw [Heap.get?_push_size h hf] at e
  cases e
  exact hd
def ObjOk (H : Hp) (h : Heap) (a : Addr) : HO → Prop
  | .lst xs => xs.length ≤ sizeLine ∧ ∃ (its : List Value) (n : Nat), Vals xs its ∧ h.get? a = some { cls := .type "list", data := .seq its.toArray n }
  | .tup xs => xs.length ≤ sizeLine ∧ ∃ its : List Value, Vals xs its ∧ IsTup h a its.toArray ∧ NoD h a
  | .dK kvs => kvs.length ≤ sizeLine ∧ (a == sysModules) = false ∧ ∃ vs, KV kvs vs ∧ h.DictOf (mixKind P w) a vs
  | .dT kvs => kvs.length ≤ sizeLine ∧ (a == sysModules) = false ∧ ∃ xs : List (List Key × Addr × Value),
      Paired (fun (p : List Key × V) (q : List Key × Addr × Value) => p.1 = q.1 ∧ H q.2.1 = some (.tup (p.1.map kV)) ∧ RelV p.2 q.2.2) kvs xs ∧
      ∃ o es ep, h.get? a = some o ∧ o.ExactDict ∧ o.data = .dict es ep ∧ es.toList = xs.map (entryOfKey (tupleKind (mixKind P w))) ∧ (xs.map (·.1)).Nodup
  | .set S n => h.SetOf (intKind P w) a S n
  | .ins C dx fs => H dx = some (.own a) ∧ fs.length ≤ 1000 ∧ dx ≠ a ∧ h.get? a = some (PySem.W.instObj C dx) ∧
      ∃ mA, h.Ns1 dx mA ∧ (∀ f, RelO (fs.lookup f) (mA f)) ∧ PySem.Within mA (fs.map (·.1))
  | .own _ => ∃ o, h.get? a = some o
  | .xd fs => ∃ mA, h.Ns1 a mA ∧ ∀ f, RelO (fs.lookup f) (mA f)
  | .rng lo hi => ∃ t u v, h.get? a = some { cls := .type "range", data := .fields #[.int lo t, .int hi u, .int 1 v] }
  | .frz o u => h.get? a = some o ∧ ObjOk H h a u
  | .tbl ps => h.get? a = some { cls := .none, data := .fields ps }
  | .met f x => h.get? a = some (PySem.W.methodObj (.ref f) (.ref x))
  | .ext φ => φ h ∧ (∃ o, h.get? a = some o) ∧ ∀ h1 h2 : Heap, φ h1 → (∀ o, h1.get? a = some o → h2.get? a = some o) → φ h2
def HOk (H : Hp) (h : Heap) : Prop := ∀ a o, H a = some o → ObjOk P w H h a o
end
section
variable {P : Program} {w : World} {H H' : Hp} {h h' : Heap} {a : Addr} {o : HO}
theorem ObjOk.lt (x : ObjOk P w H h a o) : a < h.objs.size := by
  cases o with
  | lst xs => obtain ⟨_, _, _, _, e⟩ := x; exact Heap.lt_size e
  | tup xs => obtain ⟨_, _, _, p, _⟩ := x; exact p.lt
  | dK kvs => obtain ⟨_, _, _, _, o, _, _, e, _⟩ := x; exact Heap.lt_size e
  | dT kvs => obtain ⟨_, _, _, _, o, _, _, e, _⟩ := x; exact Heap.lt_size e
  | set S n => obtain ⟨o, _, _, _, e, _⟩ := x; exact Heap.lt_size e
  | ins C dx fs => obtain ⟨_, _, _, e, _⟩ := x; exact Heap.lt_size e
  | own y => obtain ⟨_, e⟩ := x; exact Heap.lt_size e
  | xd fs => obtain ⟨_, ⟨_, _, _, e, _⟩, _⟩ := x; exact Heap.lt_size e
  | rng lo hi => obtain ⟨_, _, _, e⟩ := x; exact Heap.lt_size e
  | frz ob u => obtain ⟨e, _⟩ := x; exact Heap.lt_size e
  | tbl ps => exact Heap.lt_size (show h.get? a = some _ from x)
  | met f y => exact Heap.lt_size (show h.get? a = some _ from x)
  | ext φ => obtain ⟨_, ⟨_, e⟩, _⟩ := x; exact Heap.lt_size e
theorem Paired.mapP {α β : Type} {F G : α → β → Prop} : ∀ {l₁ : List α} {l₂ : List β}, Paired F l₁ l₂ → (∀ a b, F a b → G a b) → Paired G l₁ l₂
  | _, _, .nil, _ => .nil
  | _, _, .cons r t, f => .cons (f _ _ r) (Paired.mapP t f)
theorem ObjOk.stay (x : ObjOk P w H h a o) (k : ∀ b u, (b = a ∨ H b = some (.own a)) → h.get? b = some u → h'.get? b = some u)
    (ho : ∀ b, H b = some (.own a) → H' b = some (.own a)) (ht : ∀ b xs, H b = some (.tup xs) → H' b = some (.tup xs)) : ObjOk P w H' h' a o := by
  induction o with
  | lst xs => obtain ⟨z, its, n, r, e⟩ := x; exact ⟨z, its, n, r, k _ _ (.inl rfl) e⟩
  | tup xs =>
    obtain ⟨z, its, r, ⟨ob, e, c⟩, nd⟩ := x
    exact ⟨z, its, r, ⟨ob, k _ _ (.inl rfl) e, c⟩, fun o2 e2 => by
      rw [k _ _ (.inl rfl) e] at e2
      cases e2
      exact nd _ e⟩
  | dK kvs => obtain ⟨z, y, vs, r, ob, es, ep, e, c⟩ := x; exact ⟨z, y, vs, r, ob, es, ep, k _ _ (.inl rfl) e, c⟩
  | dT kvs =>
    obtain ⟨z, y, xs, r, ob, es, ep, e, c⟩ := x
    exact ⟨z, y, xs, Paired.mapP r fun p q z => ⟨z.1, ht _ _ z.2.1, z.2.2⟩, ob, es, ep, k _ _ (.inl rfl) e, c⟩
  | set S n => obtain ⟨ob, es, ep, t, e, c⟩ := x; exact ⟨ob, es, ep, t, k _ _ (.inl rfl) e, c⟩
  | ins C dx fs =>
    obtain ⟨d, z, ne, e, mA, ⟨od, es, ep, e2, c⟩, r⟩ := x
    exact ⟨ho _ d, z, ne, k _ _ (.inl rfl) e, mA, ⟨od, es, ep, k _ _ (.inr d) e2, c⟩, r⟩
  | own y => obtain ⟨ob, e⟩ := x; exact ⟨ob, k _ _ (.inl rfl) e⟩
  | xd fs => obtain ⟨mA, ⟨od, es, ep, e, c⟩, r⟩ := x; exact ⟨mA, ⟨od, es, ep, k _ _ (.inl rfl) e, c⟩, r⟩
  | rng lo hi => obtain ⟨t, u, v, e⟩ := x; exact ⟨t, u, v, k _ _ (.inl rfl) e⟩
  | frz ob u ih => obtain ⟨e, q⟩ := x; exact ⟨k _ _ (.inl rfl) e, ih q⟩
  | tbl ps =>
    have e : h.get? a = some { cls := .none, data := .fields ps } := x
    show h'.get? a = some { cls := .none, data := .fields ps }
    exact k a _ (.inl rfl) e
  | met f y =>
    have e : h.get? a = some (PySem.W.methodObj (.ref f) (.ref y)) := x
    show h'.get? a = some (PySem.W.methodObj (.ref f) (.ref y))
    exact k a _ (.inl rfl) e
  | ext φ => obtain ⟨p, ⟨o, e⟩, st⟩ := x; exact ⟨st _ _ p fun o q => k _ _ (.inl rfl) q, ⟨o, k _ _ (.inl rfl) e⟩, st⟩
theorem HOk.lt (x : HOk P w H h) (e : H a = some o) : a < h.objs.size := (x a o e).lt
theorem HOk.fresh (x : HOk P w H h) (e : h.objs.size ≤ a) : H a = none := by
  cases q : H a with
  | none => rfl
  | some u => exact absurd (Nat.lt_of_lt_of_le (x.lt q) e) (Nat.lt_irrefl _)
theorem HOk.kept (x : HOk P w H h) (k : ∀ b u, h.get? b = some u → h'.get? b = some u) : HOk P w H h' := fun a o e =>
  (x a o e).stay (fun b u _ q => k b u q) (fun _ q => q) fun _ _ q => q
theorem HOk.laid (x : HOk P w H h) (k : ∀ b u, h.get? b = some u → h'.get? b = some u) (hp : h.objs.size ≤ a) (new : ObjOk P w (upd H a o) h' a o) : HOk P w (upd H a o) h' := fun b u e => by
  have hn := x.fresh hp
  by_cases hb : b = a
  · subst hb; rw [upd_same] at e; cases e; exact new
  · rw [upd_ne hb] at e
    exact (x b u e).stay (fun c v _ q => k c v q) (fun c q => by rw [upd_ne (ne_of_none q hn)]; exact q) fun c xs q => by rw [upd_ne (ne_of_none q hn)]; exact q
end
def Rd (H : Hp) (a : Addr) (u : HO) : Prop := H a = some u ∨ ∃ o, H a = some (.frz o u)
theorem Rd.of {H : Hp} {a : Addr} {u : HO} (h : H a = some u) : Rd H a u := .inl h
theorem Rd.ok {P : Program} {w : World} {H : Hp} {h : Heap} {a : Addr} {u : HO} (r : Rd H a u) (x : HOk P w H h) : ObjOk P w H h a u := by
  rcases r with r | ⟨o, r⟩
  · exact x a u r
  · obtain ⟨_, q⟩ := x a _ r
    exact q
def Mut : Option HO → Prop
  | some (.lst _) => True
  | some (.dK _) => True
  | some (.dT _) => True
  | some (.set _ _) => True
  | some (.ins _ _ _) => True
  | some (.ext _) => True
  | _ => False
section
variable {P : Program} {w : World} {H : Hp} {h h' : Heap} {x e : Addr} {o' : HO}
theorem HOk.write (ok : HOk P w H h) (mu : Mut (H x)) (he : e = x ∨ H e = some (.own x)) (k : ∀ b u, b ≠ e → h.get? b = some u → h'.get? b = some u) (heo : ∃ u, h'.get? e = some u)
    (new : ObjOk P w (upd H x o') h' x o') : HOk P w (upd H x o') h' := fun b u q => by
  have nown : ∀ c y, H c = some (.own y) → c ≠ x := fun c y r z => by subst z; rw [r] at mu; exact mu
  have ntup : ∀ c xs, H c = some (.tup xs) → c ≠ x := fun c xs r z => by subst z; rw [r] at mu; exact mu
  by_cases hb : b = x
  · subst hb; rw [upd_same] at q; cases q; exact new
  · rw [upd_ne hb] at q
    by_cases hbe : b = e
    · have q' : H b = some (.own x) := by
        rcases he with z | z
        · exact absurd (hbe.trans z) hb
        · rw [hbe]; exact z
      rw [q] at q'; cases q'
      obtain ⟨v, hv⟩ := heo
      exact ⟨v, by rw [hbe]; exact hv⟩
    · refine (ok b u q).stay (fun c v hc r => k c v ?_ r) (fun c r => by rw [upd_ne (nown c b r)]; exact r) fun c xs r => by rw [upd_ne (ntup c xs r)]; exact r
      rcases hc with rfl | hc
      · exact hbe
      · rintro rfl
        rcases he with z | z
        · exact nown c b hc z
        · rw [hc] at z; cases z; exact hb rfl
end
structure Un (fs ex : List Addr) (H H' : Hp) (h h' : Heap) : Prop where
  keep : ∀ b o, h.get? b = some o → H b = none → b ∉ fs → b ∉ ex → h'.get? b = some o
  slot : ∀ b o, h.get? b = some o → H b = none → b ∈ fs → b ∉ ex → ∃ sl, h'.get? b = some { o with slots := sl }
  free : ∀ b o, h.get? b = some o → H b = none → b ∉ ex → H' b = none
  there : ∀ b o, h.get? b = some o → b ∉ ex → ∃ o', h'.get? b = some o'
  tups : ∀ b xs, H b = some (.tup xs) → H' b = some (.tup xs)
  frzs : ∀ b o u, H b = some (.frz o u) → H' b = some (.frz o u)
  tbls : ∀ b ps, H b = some (.tbl ps) → ∃ more, H' b = some (.tbl (ps ++ more))
section
variable {fs fs' ex ex' : List Addr} {H H1 H2 : Hp} {h h1 h2 h' : Heap} {a x e : Addr} {o : HO}
theorem Un.any (u : Un fs ex H H1 h h1) {b : Addr} {ob : Obj} (q : h.get? b = some ob) (n : H b = none) (hx : b ∉ ex) : ∃ sl, h1.get? b = some { ob with slots := sl } := by
  by_cases hb : b ∈ fs
  · exact u.slot b ob q n hb hx
  · exact ⟨ob.slots, u.keep b ob q n hb hx⟩
theorem Un.trans (a : Un fs ex H H1 h h1) (b : Un fs ex H1 H2 h1 h2) : Un fs ex H H2 h h2 where
  keep := fun c ob q n hc hx => b.keep c ob (a.keep c ob q n hc hx) (a.free c ob q n hx) hc hx
  slot := fun c ob q n hc hx => by
    obtain ⟨sl, e1⟩ := a.slot c ob q n hc hx
    obtain ⟨sl', e2⟩ := b.slot c _ e1 (a.free c ob q n hx) hc hx
    exact ⟨sl', e2⟩
  free := fun c ob q n hx => by
    obtain ⟨o', e1⟩ := a.there c ob q hx
    exact b.free c o' e1 (a.free c ob q n hx) hx
  there := fun c ob q hx => by
    obtain ⟨o', e1⟩ := a.there c ob q hx
    exact b.there c o' e1 hx
  tups := fun c xs q => b.tups c xs (a.tups c xs q)
  frzs := fun c ob xs q => b.frzs c ob xs (a.frzs c ob xs q)
  tbls := fun c ps q => by
    obtain ⟨m1, e1⟩ := a.tbls c ps q
    obtain ⟨m2, e2⟩ := b.tbls c _ e1
    exact ⟨m1 ++ m2, by rw [e2, Array.append_assoc]⟩
theorem Un.kept (k : ∀ b u, h.get? b = some u → h'.get? b = some u) : Un fs ex H H h h' :=
  ⟨fun b ob q _ _ _ => k b ob q, fun b ob q _ _ _ => ⟨ob.slots, k b ob q⟩, fun _ _ _ n _ => n, fun b ob q _ => ⟨ob, k b ob q⟩, fun _ _ q => q, fun _ _ _ q => q, fun _ ps q => ⟨#[], by rw [q]; simp⟩⟩
theorem Un.refl : Un fs ex H H h h := Un.kept fun _ _ q => q
theorem Un.laid (k : ∀ b u, h.get? b = some u → h'.get? b = some u) (hp : h.objs.size ≤ a) (hn : H a = none) : Un fs ex H (upd H a o) h h' where
  keep := fun b u q _ _ _ => k b u q
  slot := fun b u q _ _ _ => ⟨u.slots, k b u q⟩
  free := fun b u q n _ => by rw [upd_ne (Nat.ne_of_lt (Nat.lt_of_lt_of_le (Heap.lt_size q) hp))]; exact n
  there := fun b u q _ => ⟨u, k b u q⟩
  tups := fun b xs q => by rw [upd_ne (ne_of_none q hn)]; exact q
  frzs := fun b u xs q => by rw [upd_ne (ne_of_none q hn)]; exact q
  tbls := fun b ps q => ⟨#[], by rw [upd_ne (ne_of_none q hn), q]; simp⟩
theorem Un.write (mu : Mut (H x)) (he : e = x ∨ H e = some (.own x)) (k : ∀ b u, b ≠ e → h.get? b = some u → h'.get? b = some u) (heo : ∃ u, h'.get? e = some u) : Un fs ex H (upd H x o) h h' := by
  have hx : ∀ b, H b = none → b ≠ x := fun b n z => by subst z; rw [n] at mu; exact mu
  have hb : ∀ b, H b = none → b ≠ e := fun b n z => by
    subst z
    rcases he with r | r
    · exact hx b n r
    · rw [n] at r; cases r
  have hm : ∀ b u, H b = some u → ¬ Mut (some u) → b ≠ x := fun b u q nm z => by subst z; rw [q] at mu; exact nm mu
  refine ⟨fun b u q n _ _ => k b u (hb b n) q, fun b u q n _ _ => ⟨u.slots, k b u (hb b n) q⟩, fun b u q n _ => by rw [upd_ne (hx b n)]; exact n, fun b u q _ => ?_,
    fun b xs q => by rw [upd_ne (hm b _ q fun z => z)]; exact q, fun b u xs q => by rw [upd_ne (hm b _ q fun z => z)]; exact q, fun b ps q => ⟨#[], by rw [upd_ne (hm b _ q fun z => z), q]; simp⟩⟩
  by_cases hbe : b = e
  · subst hbe; exact heo
  · exact ⟨u, k b u hbe q⟩
theorem Un.mono (u : Un fs ex H H1 h h1) (hs : ∀ b ∈ fs, b ∈ fs') (hx : ∀ b ∈ ex, b ∈ ex') : Un fs' ex' H H1 h h1 :=
  ⟨fun b ob q n hb he => u.keep b ob q n (fun z => hb (hs b z)) fun z => he (hx b z), fun _ _ q n _ he => u.any q n fun z => he (hx _ z), fun b ob q n he => u.free b ob q n fun z => he (hx b z), fun b ob q he => u.there b ob q fun z => he (hx b z), u.tups, u.frzs, u.tbls⟩
end
noncomputable def trk (h : Heap) (H : Hp) : List Addr := (List.range h.objs.size).filter fun a => (H a).isSome
def hidT (h : Heap) (H : Hp) : Heap := PySem.W.hideAll h (trk h H)
theorem hidT_size (h : Heap) (H : Hp) : (hidT h H).objs.size = h.objs.size := PySem.W.hideAll_size _ _
theorem hidT_get {h : Heap} {H : Hp} {b : Addr} {o : Obj} (e : h.get? b = some o) (n : H b = none) : (hidT h H).get? b = some o :=
  PySem.W.hideAll_get _ e fun hm => by
    have q : (H b).isSome = true := (List.mem_filter.mp hm).2
    rw [n] at q; simp at q
theorem of_hidT {h : Heap} {H : Hp} {b : Addr} {o : Obj} (e : (hidT h H).get? b = some o) : h.get? b = some o ∧ H b = none := by
  have e' : h.get? b = some o := PySem.W.of_hideAll (trk h H) e
  refine ⟨e', ?_⟩
  cases q : H b with
  | none => rfl
  | some x =>
    have hm : b ∈ trk h H := List.mem_filter.mpr ⟨List.mem_range.mpr (Heap.lt_size e'), by simp [q]⟩
    have z : (hidT h H).get? b = none := PySem.W.hideAll_none (trk h H) hm
    rw [z] at e; cases e
noncomputable def allNews (g h : Heap) (L : Addr) : List (Addr × Obj) := (List.range h.objs.size).filterMap fun a => if a = L ∨ (g.get? a).isSome = true then none else (h.get? a).map fun o => (a, o)
noncomputable def rest (g h : Heap) (L d : Addr) : List (Addr × Obj) := (allNews g h L).filter fun p => decide (p.1 ≠ d)
structure Mod (K : PySem.W.Frag) (mg : Str → Option Value) (base : Heap) : Prop where
  kin : K.In base
  glob : base.Ns mainGlobals mg
  blt : ∃ mb, base.Ns builtinsNs mb ∧ ∀ x : Str, x ≠ "__name__" → mb x = bootBuiltins x
  nolimit : base.NoLimit
structure Cx where
  prog : Program
  w : World
  K : PySem.W.Frag
  mg : Str → Option Value
  base : Heap
  A : Around
  N : List Str
  s₀ : Shared
  H₀ : Hp
  env : Env
  outer : List Env
  stack : List Env
  ex : List Addr
  fn : Str → Bool
  calm : Bool
  pn : List (Addr × Obj)
  xe : Value → Shared → Prop
noncomputable def frs (l : List Env) : List Addr := l.filterMap (·.frame)
abbrev Cx.fs (X : Cx) : List Addr := frs X.outer
def Vis (sc : Scope) (x : Str) : Prop := sc.names.lookup x = some .local ∨ sc.names.lookup x = some .cell ∨ sc.names.lookup x = some .free
def Loc (sc : Scope) (x : Str) : Prop := sc.names.lookup x = some .local ∨ sc.names.lookup x = some .cell
def Look (env : Env) (h : Heap) (m : Str → Option Value) (x : Str) (u : Value) : Prop :=
  (env.kindOf x = some .local ∧ m x = some u) ∨ ((env.kindOf x = some .cell ∨ env.kindOf x = some .free) ∧ ∃ c, env.cells.lookup x = some c ∧ h.IsCell c (some u))
structure Cx.Ok (X : Cx) : Prop where
  mod : Mod X.K X.mg X.base
  kind : X.env.scope.kind = .function
  glob : X.env.globals = mainGlobals
  blt : X.env.builtins = builtinsNs
  above : X.s₀.heap.objs.size ≤ X.env.locals
  inj : ∀ x y c, X.env.cells.lookup x = some c → X.env.cells.lookup y = some c → x = y
  has : ∀ x, (X.env.kindOf x = some .cell ∨ X.env.kindOf x = some .free) → ∃ c, X.env.cells.lookup x = some c
  cab : ∀ x c, X.fn x = true → X.env.cells.lookup x = some c → X.s₀.heap.objs.size ≤ c
  hd : X.calm = true → X.A.handled = none
  frames : X.A.frames = some X.stack
  stk : X.stack = X.outer ∨ (X.stack = X.env :: X.outer ∧ X.env.frame = some X.env.locals)
  exf : ∀ b ∈ X.ex, b ≠ X.env.locals ∧ ∀ x c, X.env.cells.lookup x = some c → c ≠ b
  bs : ∀ b o, X.base.get? b = some o → X.s₀.heap.get? b = some o ∧ X.H₀ b = none
  bsz : X.base.objs.size ≤ X.s₀.heap.objs.size
  noex : ∀ b o, X.base.get? b = some o → b ∉ X.ex
  exfs : ∀ b ∈ X.ex, b ∉ X.fs
  funs : X.s₀.heap.FunFrames X.base X.outer
  frf : ∀ b ∈ X.fs, X.H₀ b = none
structure Inv (X : Cx) (pins : List (Addr × Obj)) (σ : List (Option V)) (H : Hp) (s : Shared) : Prop where
  ok : X.Ok
  os : s.os = X.s₀.os
  bare : AllBare s.gens
  base : Un X.fs X.ex X.H₀ H X.s₀.heap s.heap
  loc : ∃ m, s.heap.Ns X.env.locals m ∧ ∀ (i : Nat) (x : Str) (v : V), X.N[i]? = some x → σ[i]? = some (some v) → Vis X.env.scope x → ∃ u, RelV v u ∧ Look X.env s.heap m x u
  cell : ∀ x c, X.env.cells.lookup x = some c → ∃ v, s.heap.IsCell c v
  free : H X.env.locals = none
  freeC : ∀ x c, X.env.cells.lookup x = some c → H c = none
  pin : ∀ p ∈ X.pn ++ pins, s.heap.get? p.1 = some p.2 ∧ H p.1 = none ∧ p.1 ≠ X.env.locals ∧ p.1 ∉ X.fs ∧ ∀ v, p.2.data ≠ .cell v
  hok : HOk X.prog X.w H s.heap
  len : σ.length = X.N.length
section
variable {X : Cx} {pins : List (Addr × Obj)} {σ : List (Option V)} {H H' : Hp} {s : Shared} {h' : Heap}
theorem Cx.Ok.nofr (ok : X.Ok) {b : Addr} {o : Obj} (e : X.base.get? b = some o) : b ∉ X.fs := fun hb => by
  have := (ok.funs.mem hb).1
  rw [e] at this; cases this
theorem Inv.bs (I : Inv X pins σ H s) : ∀ b o, X.base.get? b = some o → s.heap.get? b = some o ∧ H b = none := fun b o e =>
  ⟨I.base.keep b o (I.ok.bs b o e).1 (I.ok.bs b o e).2 (I.ok.nofr e) (I.ok.noex b o e), I.base.free b o (I.ok.bs b o e).1 (I.ok.bs b o e).2 (I.ok.noex b o e)⟩
theorem Inv.bk (I : Inv X pins σ H s) : ∀ b o, X.base.get? b = some o → s.heap.get? b = some o := fun b o e => (I.bs b o e).1
theorem Inv.mod (I : Inv X pins σ H s) : Mod X.K X.mg X.base := I.ok.mod
theorem Inv.kIn (I : Inv X pins σ H s) : X.K.In s.heap := I.ok.mod.kin.keeps I.bk
theorem Inv.nolimit (I : Inv X pins σ H s) : s.heap.NoLimit := I.ok.mod.nolimit.keeps I.bk
theorem Inv.lt (I : Inv X pins σ H s) : X.env.locals < s.heap.objs.size := let ⟨_, hn, _⟩ := I.loc; hn.lt
theorem Inv.sz (I : Inv X pins σ H s) : X.s₀.heap.objs.size ≤ s.heap.objs.size := Nat.le_trans I.ok.above (Nat.le_of_lt I.lt)
theorem Inv.nofs (I : Inv X pins σ H s) {a : Addr} (h : s.heap.objs.size ≤ a) : a ∉ X.fs := fun hb => by
  obtain ⟨_, o, ho, _⟩ := I.ok.funs.mem hb
  exact absurd (Nat.lt_of_lt_of_le (Heap.lt_size ho) (Nat.le_trans I.sz h)) (Nat.lt_irrefl _)
theorem Inv.cne (I : Inv X pins σ H s) : ∀ x c, X.env.cells.lookup x = some c → c ≠ X.env.locals := fun x c e z => by
  obtain ⟨v, o, ho, hd⟩ := I.cell x c e
  obtain ⟨m, ⟨o', es, ep, ho', hd', _⟩, _⟩ := I.loc
  rw [z, ho'] at ho; cases ho; rw [hd'] at hd; cases hd
theorem Inv.funs (I : Inv X pins σ H s) : s.heap.FunFrames X.base X.outer := by
  have all : ∀ (l : List Env), (∀ b ∈ frs l, b ∈ X.fs) → X.s₀.heap.FunFrames X.base l → s.heap.FunFrames X.base l := by
    intro l
    induction l with
    | nil => intro _ _; trivial
    | cons env r ih =>
      intro hs hl
      obtain ⟨hk, ⟨L, o, hf, hn, ho, hd⟩, hr⟩ := hl
      have hL : L ∈ X.fs := hs L (by unfold frs; rw [List.filterMap_cons, hf]; exact List.mem_cons_self)
      obtain ⟨sl, e⟩ := I.base.slot L o ho (I.ok.frf L hL) hL fun z => I.ok.exfs L z hL
      exact ⟨hk, ⟨L, _, hf, hn, e, hd⟩, ih (fun b hb => hs b (by unfold frs; rw [List.filterMap_cons, hf]; exact List.mem_cons_of_mem _ hb)) hr⟩
  exact all X.outer (fun _ hb => hb) I.ok.funs
theorem Inv.stack (I : Inv X pins σ H s) : s.heap.FunFrames X.base X.stack := by
  rcases I.ok.stk with e | ⟨e, hf⟩
  · rw [e]; exact I.funs
  · rw [e]
    obtain ⟨m, hn, _⟩ := I.loc
    refine .cons (by rw [I.ok.kind]; decide) hf hn ?_ I.funs
    exact Heap.get?_none_of_le (Nat.le_trans I.ok.bsz I.ok.above)
theorem Inv.stkSub (I : Inv X pins σ H s) : ∀ b ∈ frs X.stack, b ∈ X.env.locals :: X.fs := fun b hb => by
  rcases I.ok.stk with e | ⟨e, hf⟩
  · rw [e] at hb; exact List.mem_cons_of_mem _ hb
  · rw [e] at hb
    unfold frs at hb
    rw [List.filterMap_cons, hf] at hb
    exact hb
theorem Inv.stkFree (I : Inv X pins σ H s) : ∀ b ∈ frs X.stack, H b = none := fun b hb => by
  rcases List.mem_cons.mp (I.stkSub b hb) with e | hb
  · rw [e]; exact I.free
  · obtain ⟨_, o, ho, _⟩ := I.ok.funs.mem hb
    exact I.base.free b o ho (I.ok.frf b hb) fun z => I.ok.exfs b z hb
theorem Inv.step {g' : Array GenState} {t' : Nat} {d' : Drawn} {ch : List Addr} (I : Inv X pins σ H s)
    (hch : ∀ b ∈ ch, (b ∈ X.ex ∨ X.s₀.heap.objs.size ≤ b) ∧ b ≠ X.env.locals ∧ (∀ x c, X.env.cells.lookup x = some c → c ≠ b) ∧ ∀ p ∈ X.pn ++ pins, p.1 ≠ b)
    (keep : ∀ b o, b ≠ X.env.locals → b ∉ X.fs → b ∉ ch → s.heap.get? b = some o → H b = none → h'.get? b = some o)
    (slot : ∀ b o, b ≠ X.env.locals → b ∈ X.fs → b ∉ ch → s.heap.get? b = some o → H b = none → ∃ sl, h'.get? b = some { o with slots := sl }) (free : ∀ b o, b ∉ ch → s.heap.get? b = some o → H b = none → H' b = none)
    (there : ∀ b o, b ∉ ch → s.heap.get? b = some o → ∃ o', h'.get? b = some o')
    (tups : ∀ b xs, H b = some (.tup xs) → H' b = some (.tup xs)) (frzs : ∀ b o u, H b = some (.frz o u) → H' b = some (.frz o u)) (tbls : ∀ b ps, H b = some (.tbl ps) → ∃ more, H' b = some (.tbl (ps ++ more)))
    (ns : ∀ m, s.heap.Ns X.env.locals m → h'.Ns X.env.locals m) (hok : HOk X.prog X.w H' h') (hg : AllBare g') :
    Inv X pins σ H' { s with heap := h', gens := g', drawn := d', toks := t' } := by
  have neL : ∀ b o, X.s₀.heap.get? b = some o → b ≠ X.env.locals := fun b o e => Nat.ne_of_lt (Nat.lt_of_lt_of_le (Heap.lt_size e) I.ok.above)
  have neC : ∀ b o, X.s₀.heap.get? b = some o → b ∉ X.ex → b ∉ ch := fun b o e hx hb => by
    rcases (hch b hb).1 with z | z
    · exact hx z
    · exact absurd (Nat.lt_of_lt_of_le (Heap.lt_size e) z) (Nat.lt_irrefl _)
  have cellK : ∀ x c, X.env.cells.lookup x = some c → ∀ v, s.heap.IsCell c v → h'.IsCell c v := fun x c e v ⟨o, ho, hd⟩ => by
    have nch : c ∉ ch := fun z => (hch c z).2.2.1 x c e rfl
    by_cases hc : c ∈ X.fs
    · obtain ⟨sl, q⟩ := slot c o (I.cne x c e) hc nch ho (I.freeC x c e)
      exact ⟨_, q, hd⟩
    · exact ⟨o, keep c o (I.cne x c e) hc nch ho (I.freeC x c e), hd⟩
  refine ⟨I.ok, I.os, hg, ⟨fun b o e n hb hx => ?_, fun b o e n hb hx => ?_, fun b o e n hx => ?_, fun b o e hx => ?_, fun b xs e => tups b xs (I.base.tups b xs e), fun b o xs e => frzs b o xs (I.base.frzs b o xs e), fun b ps e => ?_⟩, ?_, fun x c e => ?_, ?_, fun x c e => ?_, fun p hp => ?_, hok, I.len⟩
  · exact keep b o (neL b o e) hb (neC b o e hx) (I.base.keep b o e n hb hx) (I.base.free b o e n hx)
  · obtain ⟨sl, e1⟩ := I.base.slot b o e n hb hx
    obtain ⟨sl', e2⟩ := slot b _ (neL b o e) hb (neC b o e hx) e1 (I.base.free b o e n hx)
    exact ⟨sl', e2⟩
  · obtain ⟨o', e1⟩ := I.base.there b o e hx
    exact free b o' (neC b o e hx) e1 (I.base.free b o e n hx)
  · obtain ⟨o', e1⟩ := I.base.there b o e hx
    exact there b o' (neC b o e hx) e1
  · obtain ⟨m1, e1⟩ := I.base.tbls b ps e
    obtain ⟨m2, e2⟩ := tbls b _ e1
    exact ⟨m1 ++ m2, by rw [e2, Array.append_assoc]⟩
  · obtain ⟨m, hn, hl⟩ := I.loc
    refine ⟨m, ns m hn, fun i x v e1 e2 e3 => ?_⟩
    obtain ⟨u, r, l⟩ := hl i x v e1 e2 e3
    refine ⟨u, r, ?_⟩
    rcases l with l | ⟨k, c, e, z⟩
    · exact .inl l
    · exact .inr ⟨k, c, e, cellK x c e _ z⟩
  · obtain ⟨v, z⟩ := I.cell x c e
    exact ⟨v, cellK x c e v z⟩
  · obtain ⟨m, ⟨o, _, _, ho, _⟩, _⟩ := I.loc
    exact free _ o (fun z => (hch _ z).2.1 rfl) ho I.free
  · obtain ⟨v, o, ho, hd⟩ := I.cell x c e
    exact free c o (fun z => (hch c z).2.2.1 x c e rfl) ho (I.freeC x c e)
  · obtain ⟨e, n, ne, nf, d⟩ := I.pin p hp
    have nch : p.1 ∉ ch := fun z => (hch p.1 z).2.2.2 p hp rfl
    exact ⟨keep p.1 p.2 ne nf nch e n, free p.1 p.2 nch e n, ne, nf, d⟩
theorem Inv.un {t' : Nat} (I : Inv X pins σ H s) (u : Un X.fs [] H H' s.heap h') (hok : HOk X.prog X.w H' h') : Inv X pins σ H' { s with heap := h', toks := t' } := by
  obtain ⟨m, ⟨o, es, ep, ho, r⟩, _⟩ := id I.loc
  obtain ⟨sl, hL⟩ := u.any ho I.free (by simp)
  exact I.step (g' := s.gens) (d' := s.drawn) (ch := []) (fun _ z => nomatch z) (fun b o _ hb _ e n => u.keep b o e n hb (by simp)) (fun b o _ hb _ e n => u.slot b o e n hb (by simp)) (fun b o _ e n => u.free b o e n (by simp)) (fun b o _ e => u.there b o e (by simp)) u.tups u.frzs u.tbls (fun m' hm => by
    obtain ⟨o', es', ep', ho', r'⟩ := hm
    rw [ho] at ho'; cases ho'
    exact ⟨_, es', ep', hL, r'⟩) hok I.bare
theorem Inv.call {g' : Array GenState} {t' : Nat} {d' : Drawn} {ch : List Addr} (I : Inv X pins σ H s) (u : Un (frs X.stack) ch H H' s.heap h') (hok : HOk X.prog X.w H' h') (hg : AllBare g')
    (hch : ∀ b ∈ ch, (b ∈ X.ex ∨ X.s₀.heap.objs.size ≤ b) ∧ b ≠ X.env.locals ∧ (∀ x c, X.env.cells.lookup x = some c → c ≠ b) ∧ ∀ p ∈ X.pn ++ pins, p.1 ≠ b) :
    Inv X pins σ H' { s with heap := h', gens := g', drawn := d', toks := t' } := by
  obtain ⟨m, ⟨o, es, ep, ho, r⟩, _⟩ := id I.loc
  obtain ⟨sl, hL⟩ := u.any ho I.free fun z => (hch _ z).2.1 rfl
  exact I.step (ch := ch) hch (fun b o hL hb hc e n => u.keep b o e n (fun z => (List.mem_cons.mp (I.stkSub b z)).elim hL hb) hc) (fun b o _ _ hc e n => u.any e n hc) (fun b o hc e n => u.free b o e n hc) (fun b o hc e => u.there b o e hc) u.tups u.frzs u.tbls (fun m' hm => by
    obtain ⟨o', es', ep', ho', r'⟩ := hm
    rw [ho] at ho'; cases ho'
    exact ⟨_, es', ep', hL, r'⟩) hok hg
theorem Inv.turned {t' : Nat} {it : Addr} (I : Inv X pins σ H s) (k : ∀ b o, b ≠ it → s.heap.get? b = some o → h'.get? b = some o) (hn : H it = none) (hL : it ≠ X.env.locals)
    (h1 : it ∈ X.ex ∨ X.s₀.heap.objs.size ≤ it) (h2 : ∀ x c, X.env.cells.lookup x = some c → c ≠ it) (h3 : ∀ p ∈ X.pn ++ pins, p.1 ≠ it) : Inv X pins σ H { s with heap := h', toks := t' } := by
  have nit : ∀ b u, H b = some u → b ≠ it := fun b u e z => by rw [z, hn] at e; cases e
  refine I.step (g' := s.gens) (d' := s.drawn) (ch := [it]) (fun b hb => ?_) (fun b o _ _ hc e _ => k b o (fun z => hc (by simp [z])) e) (fun b o _ _ hc e _ => ⟨o.slots, k b o (fun z => hc (by simp [z])) e⟩) (fun _ _ _ _ n => n)
    (fun b o hc e => ⟨o, k b o (fun z => hc (by simp [z])) e⟩) (fun _ _ e => e) (fun _ _ _ e => e) (fun b ps e => ⟨#[], by rw [e]; simp⟩) (fun m hm => ?_) (fun b u e => ?_) I.bare
  · have e : b = it := by simpa using hb
    subst e
    exact ⟨h1, hL, h2, h3⟩
  · obtain ⟨o, es, ep, ho, r⟩ := hm
    exact ⟨o, es, ep, k _ o (Ne.symm hL) ho, r⟩
  · refine (I.hok b u e).stay (fun c v hc q => k c v ?_ q) (fun _ q => q) fun _ _ q => q
    rcases hc with z | z
    · rw [z]; exact nit b u e
    · exact nit c _ z
theorem Inv.tok (I : Inv X pins σ H s) (t : Nat) : Inv X pins σ H { s with toks := t } := I.un (h' := s.heap) (t' := t) Un.refl I.hok
theorem Inv.kept {t' : Nat} (I : Inv X pins σ H s) (k : ∀ b u, s.heap.get? b = some u → h'.get? b = some u) : Inv X pins σ H { s with heap := h', toks := t' } := I.un (Un.kept k) (I.hok.kept k)
theorem Inv.laid {a : Addr} {o : HO} {t' : Nat} (I : Inv X pins σ H s) (k : ∀ b u, s.heap.get? b = some u → h'.get? b = some u) (hp : s.heap.objs.size ≤ a) (new : ObjOk X.prog X.w (upd H a o) h' a o) :
    Inv X pins σ (upd H a o) { s with heap := h', toks := t' } := I.un (Un.laid k hp (I.hok.fresh hp)) (I.hok.laid k hp new)
theorem Inv.write {x e : Addr} {o : HO} {t' : Nat} (I : Inv X pins σ H s) (mu : Mut (H x)) (he : e = x ∨ H e = some (.own x)) (k : ∀ b u, b ≠ e → s.heap.get? b = some u → h'.get? b = some u) (heo : ∃ u, h'.get? e = some u)
    (new : ObjOk X.prog X.w (upd H x o) h' x o) : Inv X pins σ (upd H x o) { s with heap := h', toks := t' } := I.un (Un.write mu he k heo) (I.hok.write mu he k heo new)
theorem Inv.pins_of {pins' : List (Addr × Obj)} (I : Inv X pins σ H s) (h : ∀ p ∈ pins', s.heap.get? p.1 = some p.2 ∧ H p.1 = none ∧ p.1 ≠ X.env.locals ∧ p.1 ∉ X.fs ∧ ∀ v, p.2.data ≠ .cell v) : Inv X pins' σ H s :=
  ⟨I.ok, I.os, I.bare, I.base, I.loc, I.cell, I.free, I.freeC, fun p hp => (List.mem_append.mp hp).elim (fun z => I.pin p (List.mem_append_left _ z)) (h p), I.hok, I.len⟩
theorem nodup_ix {N : List Str} (hN : N.Nodup) {i j : Nat} {x : Str} (a : N[i]? = some x) (b : N[j]? = some x) : i = j := by
  obtain ⟨h1, e1⟩ := List.getElem?_eq_some_iff.mp a
  obtain ⟨h2, e2⟩ := List.getElem?_eq_some_iff.mp b
  exact (List.getElem_inj hN).mp (e1.trans e2.symm)
theorem store_ok2 {M : Model} {A : Around} {E : Value → Shared → Prop} {i : Nat} {x : Str} {v : V} {u : Value} {Q : Unit → Shared → Prop} (I : Inv X pins σ H s) (hN : X.N.Nodup) (hi : X.N[i]? = some x) (hx : Loc X.env.scope x) (r : RelV v u)
    (h : ∀ s', Inv X pins (σ.set i (some v)) H s' → (∃ a, Heap.SameBut a s.heap s'.heap ∧ (a = X.env.locals ∨ X.env.cells.lookup x = some a)) → Q () s') (hf : X.fn x = true ∨ X.env.scope.names.lookup x = some .local := by first | exact .inl rfl | exact .inr rfl | assumption) : wpAny M A (storeName X.env x u) Q E s := by
  obtain ⟨m, hn, hl⟩ := id I.loc
  have hcls : (X.env.scope.kind == .class || (X.env.scope.kind == .module && X.env.locals != X.env.globals)) = false := by rw [I.ok.kind]; rfl
  have hiσ : i < σ.length := by rw [I.len]; exact (List.getElem?_eq_some_iff.mp hi).1
  have cne := I.cne
  have tracked : ∀ {a : Addr} {h' : Heap}, (∃ o, s.heap.get? a = some o ∧ H a = none) → Heap.SameBut a s.heap h' → HOk X.prog X.w H h' := fun {a h'} ha hs b ob e => by
    obtain ⟨_, _, hfree⟩ := ha
    refine (I.hok b ob e).stay (fun c w' hc q => (hs.2 c ?_).trans q) (fun _ q => q) fun _ _ q => q
    rintro rfl
    rcases hc with rfl | hc
    · rw [hfree] at e; cases e
    · rw [hfree] at hc; cases hc
  rcases hx with hk | hk
  · refine wpAny_storeName_local hk hn (fun h' hn' hs => ?_) hcls
    obtain ⟨oL, _, _, hoL, _⟩ := id hn
    refine h _ ⟨I.ok, I.os, I.bare, ⟨fun b o e n hb hx => ?_, fun b o e n hb hx => ?_, I.base.free, fun b o e hx => ?_, I.base.tups, I.base.frzs, I.base.tbls⟩, ⟨_, hn', fun j y v' e1 e2 e3 => ?_⟩, fun y c e => ?_, I.free, I.freeC, fun p hp => ?_, tracked ⟨oL, hoL, I.free⟩ hs, by simpa using I.len⟩ ⟨_, hs, .inl rfl⟩
    · exact (hs.2 b (Nat.ne_of_lt (Nat.lt_of_lt_of_le (Heap.lt_size e) I.ok.above))).trans (I.base.keep b o e n hb hx)
    · obtain ⟨sl, e1⟩ := I.base.slot b o e n hb hx
      exact ⟨sl, (hs.2 b (Nat.ne_of_lt (Nat.lt_of_lt_of_le (Heap.lt_size e) I.ok.above))).trans e1⟩
    · obtain ⟨o', e1⟩ := I.base.there b o e hx
      exact ⟨o', (hs.2 b (Nat.ne_of_lt (Nat.lt_of_lt_of_le (Heap.lt_size e) I.ok.above))).trans e1⟩
    · by_cases hj : j = i
      · subst hj
        rw [hi] at e1; cases e1
        rw [List.getElem?_set_self hiσ] at e2
        cases e2
        exact ⟨u, r, .inl ⟨hk, by simp⟩⟩
      · rw [List.getElem?_set_ne (Ne.symm hj)] at e2
        obtain ⟨u', r', q⟩ := hl j y v' e1 e2 e3
        refine ⟨u', r', ?_⟩
        rcases q with ⟨k, e⟩ | ⟨k, c, e, z⟩
        · refine .inl ⟨k, ?_⟩
          have : y ≠ x := fun e => hj (nodup_ix hN e1 (e ▸ hi))
          simp [this, e]
        · exact .inr ⟨k, c, e, z.sameBut hs (cne y c e)⟩
    · obtain ⟨w', z⟩ := I.cell y c e
      exact ⟨w', z.sameBut hs (cne y c e)⟩
    · obtain ⟨e, n, ne, nf, d⟩ := I.pin p hp
      exact ⟨(hs.2 p.1 ne).trans e, n, ne, nf, d⟩
  · have hfn : X.fn x = true := by
      rcases hf with z | z
      · exact z
      · rw [z] at hk; cases hk
    obtain ⟨c, hc⟩ := I.ok.has x (.inl hk)
    obtain ⟨w', z⟩ := I.cell x c hc
    refine wpAny_storeName_cell I.ok.kind hk hc z (fun h' hc' hs => ?_)
    obtain ⟨oc, hoc, hocd⟩ := id z
    refine h { s with heap := h' } ⟨I.ok, I.os, I.bare, ⟨fun b o e n hb hx => ?_, fun b o e n hb hx => ?_, I.base.free, fun b o e hx => ?_, I.base.tups, I.base.frzs, I.base.tbls⟩, ⟨m, hn.sameBut hs (Ne.symm (cne x c hc)), fun j y v' e1 e2 e3 => ?_⟩, fun y c' e => ?_, I.free, I.freeC, fun p hp => ?_, tracked ⟨oc, hoc, I.freeC x c hc⟩ hs, by simpa using I.len⟩ ⟨c, hs, .inr hc⟩
    · exact (hs.2 b (Nat.ne_of_lt (Nat.lt_of_lt_of_le (Heap.lt_size e) (I.ok.cab x c hfn hc)))).trans (I.base.keep b o e n hb hx)
    · obtain ⟨sl, e1⟩ := I.base.slot b o e n hb hx
      exact ⟨sl, (hs.2 b (Nat.ne_of_lt (Nat.lt_of_lt_of_le (Heap.lt_size e) (I.ok.cab x c hfn hc)))).trans e1⟩
    · obtain ⟨o', e1⟩ := I.base.there b o e hx
      exact ⟨o', (hs.2 b (Nat.ne_of_lt (Nat.lt_of_lt_of_le (Heap.lt_size e) (I.ok.cab x c hfn hc)))).trans e1⟩
    · by_cases hj : j = i
      · subst hj
        rw [hi] at e1; cases e1
        rw [List.getElem?_set_self hiσ] at e2
        cases e2
        exact ⟨u, r, .inr ⟨.inl hk, c, hc, hc'⟩⟩
      · rw [List.getElem?_set_ne (Ne.symm hj)] at e2
        obtain ⟨u', r', q⟩ := hl j y v' e1 e2 e3
        refine ⟨u', r', ?_⟩
        rcases q with q | ⟨k, c', e, z'⟩
        · exact .inl q
        · refine .inr ⟨k, c', e, z'.sameBut hs ?_⟩
          rintro rfl
          exact hj (nodup_ix hN e1 (I.ok.inj _ _ _ e hc ▸ hi))
    · by_cases hcc : c' = c
      · subst hcc; exact ⟨_, hc'⟩
      · obtain ⟨w2, z2⟩ := I.cell y c' e
        exact ⟨w2, z2.sameBut hs hcc⟩
    · obtain ⟨e, n, ne, nf, d⟩ := I.pin p hp
      refine ⟨(hs.2 p.1 ?_).trans e, n, ne, nf, d⟩
      intro q
      rw [q, hoc] at e
      have q' : oc = p.2 := Option.some.inj e
      exact d w' (by rw [← q']; exact hocd)
theorem store_ok {M : Model} {A : Around} {E : Value → Shared → Prop} {i : Nat} {x : Str} {v : V} {u : Value} {Q : Unit → Shared → Prop} (I : Inv X pins σ H s) (hN : X.N.Nodup) (hi : X.N[i]? = some x) (hx : Loc X.env.scope x) (r : RelV v u)
    (h : ∀ s', Inv X pins (σ.set i (some v)) H s' → Q () s') (hf : X.fn x = true ∨ X.env.scope.names.lookup x = some .local := by first | exact .inl rfl | exact .inr rfl | assumption) : wpAny M A (storeName X.env x u) Q E s :=
  store_ok2 I hN hi hx r (fun s' I' _ => h s' I') hf
theorem Inv.call' {s' : Shared} {ch : List Addr} (I : Inv X pins σ H s) (ho : s'.os = s.os) (u : Un (frs X.stack) ch H H' s.heap s'.heap) (hok : HOk X.prog X.w H' s'.heap) (hg : AllBare s'.gens)
    (hch : ∀ b ∈ ch, (b ∈ X.ex ∨ X.s₀.heap.objs.size ≤ b) ∧ b ≠ X.env.locals ∧ (∀ x c, X.env.cells.lookup x = some c → c ≠ b) ∧ ∀ p ∈ X.pn ++ pins, p.1 ≠ b) : Inv X pins σ H' s' := by
  obtain ⟨h', g', d', t', o'⟩ := s'
  have e : o' = s.os := ho
  subst e
  exact I.call (g' := g') (t' := t') (d' := d') u hok hg hch
end
abbrev XK := Value → Option Addr → Hp → Prop
abbrev St := List (Option V)
abbrev VK := V → Hp → Prop
abbrev TE := St → Hp → VK → Prop
abbrev TT := St → Hp → (Bool → Hp → Prop) → Prop
abbrev TA := St → Hp → (List V → Hp → Prop) → Prop
structure Ends where
  nx : St → Hp → Prop
  rt : VK
  bk : St → Hp → Prop := fun _ _ => False
  ct : St → Hp → Prop := fun _ _ => False
abbrev TS := Ends → St → Hp → Prop
def EP (X : Cx) (pins : List (Addr × Obj)) (σ : St) (Q : VK) (u : Value) (s' : Shared) : Prop := ∃ v H', Inv X pins σ H' s' ∧ RelV v u ∧ Q v H'
def TP (X : Cx) (pins : List (Addr × Obj)) (σ : St) (Q : Bool → Hp → Prop) (b : Bool) (s' : Shared) : Prop := ∃ H', Inv X pins σ H' s' ∧ Q b H'
def AP (X : Cx) (pins : List (Addr × Obj)) (σ : St) (Q : List V → Hp → Prop) (us : List Value) (s' : Shared) : Prop := ∃ vs H', Inv X pins σ H' s' ∧ Vals vs us ∧ Q vs H'
def SP (X : Cx) (pins : List (Addr × Obj)) (D : Ends) (f : Flow) (s' : Shared) : Prop :=
  match f with
  | .next => ∃ σ' H', Inv X pins σ' H' s' ∧ D.nx σ' H'
  | .brk => ∃ σ' H', Inv X pins σ' H' s' ∧ D.bk σ' H'
  | .cont => ∃ σ' H', Inv X pins σ' H' s' ∧ D.ct σ' H'
  | .ret u => ∃ v σ' H', Inv X pins σ' H' s' ∧ RelV v u ∧ D.rt v H'
def PE (X : Cx) (e : Expr) (t : TE) : Prop :=
  ∀ (pins : List (Addr × Obj)) (s : Shared) (σ : St) (H : Hp) (Q : VK), Inv X pins σ H s → t σ H Q → wpAny (model X.prog X.w) X.A (eval e X.env) (EP X pins σ Q) X.xe s
def PT (X : Cx) (e : Expr) (t : TT) : Prop :=
  ∀ (pins : List (Addr × Obj)) (s : Shared) (σ : St) (H : Hp) (Q : Bool → Hp → Prop), Inv X pins σ H s → t σ H Q → wpAny (model X.prog X.w) X.A (isTrue e X.env (eval e X.env)) (TP X pins σ Q) X.xe s
def PW (X : Cx) (e : Expr) (t : TT) : Prop :=
  ∀ (whole : Sem Value) (pins : List (Addr × Obj)) (s : Shared) (σ : St) (H : Hp) (Q : Bool → Hp → Prop), Inv X pins σ H s → t σ H Q → wpAny (model X.prog X.w) X.A (isTrue e X.env whole) (TP X pins σ Q) X.xe s
theorem PW.pt {X : Cx} {e : Expr} {t : TT} (h : PW X e t) : PT X e t := h _
def PA (X : Cx) (es : List Expr) (t : TA) : Prop :=
  ∀ (pos : Pos) (pins : List (Addr × Obj)) (s : Shared) (σ : St) (H : Hp) (Q : List V → Hp → Prop), Inv X pins σ H s → t σ H Q → wpAny (model X.prog X.w) X.A (spliced (backTo pos (starEach es X.env))) (AP X pins σ Q) X.xe s
def PS (X : Cx) (st : Stmt) (t : TS) : Prop :=
  ∀ (pins : List (Addr × Obj)) (s : Shared) (σ : St) (H : Hp) (D : Ends), Inv X pins σ H s → t D σ H → wpAny (model X.prog X.w) X.A (exec st X.env) (SP X pins D) X.xe s
def PSs (X : Cx) (st : List Stmt) (t : TS) : Prop :=
  ∀ (pins : List (Addr × Obj)) (s : Shared) (σ : St) (H : Hp) (D : Ends), Inv X pins σ H s → t D σ H → wpAny (model X.prog X.w) X.A (execs st X.env) (SP X pins D) X.xe s
theorem thn {α : Type} {t : Sem α} {Q Q' : α → Shared → Prop} {M : Model} {A : Around} {E : Value → Shared → Prop} {s : Shared} (h : wpAny M A t Q E s) (hQ : ∀ a s, Q a s → Q' a s) : wpAny M A t Q' E s := wpAny_mono h hQ fun _ _ x => x
section
variable {X : Cx}
theorem bin {a b : Expr} {ta tb : TE} (ha : PE X a ta) (hb : PE X b tb) {pins : List (Addr × Obj)} {s : Shared} {σ : St} {H : Hp} {R : V → V → Hp → Prop} (I : Inv X pins σ H s) (h : ta σ H fun x H1 => tb σ H1 fun y H2 => R x y H2)
    {α : Type} {Q : α → Shared → Prop} {f : Value → Value → Sem α}
    (hf : ∀ v u s2 x y H2, Inv X pins σ H2 s2 → RelV x v → RelV y u → R x y H2 → wpAny (model X.prog X.w) X.A (f v u) Q X.xe s2) :
    wpAny (model X.prog X.w) X.A (eval a X.env) (fun v s₁ => wpAny (model X.prog X.w) X.A (eval b X.env) (fun u s₂ => wpAny (model X.prog X.w) X.A (f v u) Q X.xe s₂) X.xe s₁) X.xe s := by
  refine thn (ha pins s σ H _ I h) fun v s1 ⟨x, H1, I1, r1, q1⟩ => ?_
  refine thn (hb pins s1 σ H1 _ I1 q1) fun u s2 ⟨y, H2, I2, r2, q2⟩ => ?_
  exact hf v u s2 x y H2 I2 r1 r2 q2
def tVar (i : Nat) : TE := fun σ H Q => ∃ v, σ[i]? = some (some v) ∧ Q v H
def tC (v : V) : TE := fun _ H Q => Q v H
theorem pe_var {i : Nat} {x : Str} {pos : Pos} (hN : X.N[i]? = some x) (hv : Vis X.env.scope x) (hd : (x == ("__debug__" : Str)) = false := by decide) (hcd : (x == ("__classdict__" : Str)) = false := by decide) : PE X (.Name x pos) (tVar i) := by
  intro pins s σ H Q I h
  obtain ⟨v, e, h⟩ := h
  obtain ⟨m, hn, hl⟩ := I.loc
  obtain ⟨u, r, l⟩ := hl i x v hN e hv
  have fin : EP X pins σ Q u s := ⟨v, H, I, r, h⟩
  rcases l with ⟨hk, hm⟩ | ⟨hk, c, hc, hcell⟩
  · exact wpAny_Name (wpAny_loadName_local I.ok.kind hk hn hm fin) hd
  · rcases hk with hk | hk
    · exact wpAny_Name (wpAny_loadName_cell I.ok.kind hk hc hcell fin) hd
    · exact wpAny_Name (wpAny_loadName_free I.ok.kind hk hc hcell fin hcd) hd
theorem pe_int {i j pos} : PE X (.Constant (.int i) j pos) (tC (.int i)) := fun _ _ _ H _ I h => wpAny_Constant_int ⟨.int i, H, I.tok _, ⟨_, rfl⟩, h⟩
theorem pe_bl {b j pos} : PE X (.Constant (.bool b) j pos) (tC (.bl b)) := fun _ _ _ H _ I h => Constant_bool ⟨.bl b, H, I, rfl, h⟩
theorem pe_non {j pos} : PE X (.Constant .none j pos) (tC .non) := fun _ _ _ H _ I h => Constant_none ⟨.non, H, I, rfl, h⟩
theorem pe_str {x j pos} : PE X (.Constant (.str x) j pos) (tC (.str x)) := fun _ _ _ H _ I h => Calls.Constant_str ⟨.str x, H, I.tok _, ⟨_, rfl⟩, h⟩
def Gl (X : Cx) (x : Str) : Prop := X.env.kindOf x = some .globalImplicit
theorem ld_glob {E : Value → Shared → Prop} {pins : List (Addr × Obj)} {s : Shared} {σ : St} {H : Hp} {x : Str} {u : Value} {pos : Pos} {Q : Value → Shared → Prop} (I : Inv X pins σ H s) (hg : Gl X x) (hm : X.mg x = some u) (h : Q u s)
    (hd : (x == ("__debug__" : Str)) = false := by decide) : wpAny (model X.prog X.w) X.A (eval (.Name x pos) X.env) Q E s :=
  Calls.Name_function_global I.ok.kind hg (Calls.loadGlobal_global (by rw [I.ok.glob]; exact I.mod.glob.keeps I.bk) hm h) hd
theorem ld_blt {E : Value → Shared → Prop} {pins : List (Addr × Obj)} {s : Shared} {σ : St} {H : Hp} {x : Str} {u : Value} {pos : Pos} {Q : Value → Shared → Prop} (I : Inv X pins σ H s) (hg : Gl X x) (hm : X.mg x = none) (hv : bootBuiltins x = some u) (h : Q u s)
    (hn : x ≠ "__name__" := by decide) (hd : (x == ("__debug__" : Str)) = false := by decide) : wpAny (model X.prog X.w) X.A (eval (.Name x pos) X.env) Q E s := by
  obtain ⟨mb, h1, h2⟩ := I.mod.blt
  exact Calls.Name_function_global I.ok.kind hg (Calls.loadGlobal_builtin (by rw [I.ok.glob]; exact I.mod.glob.keeps I.bk) hm (by rw [I.ok.blt]; exact h1.keeps I.bk) ((h2 x hn).trans hv) h) hd
theorem pe_bltn {x : Str} {v : V} {u : Value} {pos : Pos} (hg : Gl X x) (hm : X.mg x = none) (hv : bootBuiltins x = some u) (r : RelV v u) (hn : x ≠ "__name__" := by decide) (hd : (x == ("__debug__" : Str)) = false := by decide) : PE X (.Name x pos) (tC v) :=
  fun _ _ _ H _ I h => ld_blt I hg hm hv ⟨v, H, I, r, h⟩ hn hd
variable {a b : Expr} {ta tb : TE} {pos : Pos}
def PC (X : Cx) (op : CmpOp) (a b : Expr) (t : TE) : Prop :=
  ∀ (pins : List (Addr × Obj)) (s : Shared) (σ : St) (H : Hp) (Q : VK), Inv X pins σ H s → t σ H Q →
    wpAny (model X.prog X.w) X.A (eval a X.env) (fun v s₁ => wpAny (model X.prog X.w) X.A (eval b X.env) (fun u s₂ => wpAny (model X.prog X.w) X.A (compareOp op v u) (EP X pins σ Q) X.xe s₂) X.xe s₁) X.xe s
theorem nobehind (b : Expr) {op : CmpOp} (h : op ≠ .In) (h2 : op ≠ .NotIn) : behindInMarks op b = false := by
  have e1 : (op == CmpOp.In) = false := by cases op <;> first | rfl | exact absurd rfl h
  have e2 : (op == CmpOp.NotIn) = false := by cases op <;> first | rfl | exact absurd rfl h2
  cases b <;> simp [behindInMarks, e1, e2]
def tB (t : TE) : TT := fun σ H Q => t σ H fun x H1 => ∃ c, x = .bl c ∧ Q c H1
theorem pt_cmp {op : CmpOp} {t : TE} (h : PC X op a b t) (h1 : behindInMarks op b = false := by first | exact nobehind _ (by decide) (by decide) | rfl) : PT X (.Compare a [op] [b] pos) (tB t) := by
  intro pins s σ H Q I hw
  refine wpAny_isTrue_Compare1 (thn (h pins s σ H _ I hw) fun v s1 h1 => thn h1 fun u s2 h2 => thn h2 fun c s3 ⟨x, H1, I1, r1, q1⟩ => ?_) h1
  obtain ⟨d, rfl, q⟩ := q1
  cases r1
  exact wpAny_truthy_bool ⟨H1, I1, q⟩
theorem pt_val {e : Expr} {t : TE} (h : PE X e t) (he : ∀ whole, isTrue e X.env whole = (do let v ← whole; standAt e.pos; holding [v] (truthy v)) := by intro _; rfl) : PT X e (tB t) := by
  intro pins s σ H Q I hw
  refine isTrue_plain (thn (h pins s σ H _ I hw) fun v s1 ⟨x, H1, I1, r1, q1⟩ => ?_) (he _)
  obtain ⟨d, rfl, q⟩ := q1
  cases r1
  exact wpAny_truthy_bool ⟨H1, I1, q⟩
variable {tA tB' : TT} {rest : List Expr}
def tAnd (t u : TT) : TT := fun σ H Q => t σ H fun c H1 => if c = true then u σ H1 Q else Q false H1
def tOr (t u : TT) : TT := fun σ H Q => t σ H fun c H1 => if c = true then Q true H1 else u σ H1 Q
def tNot (t : TT) : TT := fun σ H Q => t σ H fun c H1 => Q (!c) H1
theorem pw_and1 (ha : PT X a tA) : PW X (.BoolOp .And [a] pos) tA := by
  intro wh pins s σ H Q I h
  refine isTrue_and (thn (ha pins s σ H Q I h) fun c s1 e => ?_)
  cases c with
  | true => exact isTrue_and_nil e
  | false => exact e
theorem pw_or1 (ha : PT X a tA) : PW X (.BoolOp .Or [a] pos) tA := by
  intro wh pins s σ H Q I h
  refine isTrue_or (thn (ha pins s σ H Q I h) fun c s1 e => ?_)
  cases c with
  | false => exact isTrue_or_nil e
  | true => exact e
theorem pw_and (ha : PT X a tA) (hb : PW X (.BoolOp .And (b :: rest) pos) tB') : PW X (.BoolOp .And (a :: b :: rest) pos) (tAnd tA tB') := by
  intro wh pins s σ H Q I h
  refine isTrue_and (thn (ha pins s σ H _ I h) fun c s1 ⟨H1, I1, q1⟩ => ?_)
  cases c with
  | true => exact hb wh pins s1 σ H1 Q I1 q1
  | false => exact ⟨H1, I1, q1⟩
theorem pw_or (ha : PT X a tA) (hb : PW X (.BoolOp .Or (b :: rest) pos) tB') : PW X (.BoolOp .Or (a :: b :: rest) pos) (tOr tA tB') := by
  intro wh pins s σ H Q I h
  refine isTrue_or (thn (ha pins s σ H _ I h) fun c s1 ⟨H1, I1, q1⟩ => ?_)
  cases c with
  | true => exact ⟨H1, I1, q1⟩
  | false => exact hb wh pins s1 σ H1 Q I1 q1
theorem pt_not (ha : PT X a tA) : PT X (.UnaryOp .Not a pos) (tNot tA) := by
  intro pins s σ H Q I h
  exact isTrue_not (ha pins s σ H (fun c H1 => Q (!c) H1) I h)
def tAndV (ta tb : TE) : TE := fun σ H Q => ta σ H fun x H1 => ∃ c, x = .bl c ∧ if c = true then tb σ H1 Q else Q (.bl false) H1
def tNotV (ta : TE) : TE := fun σ H Q => ta σ H fun x H1 => ∃ c, x = .bl c ∧ Q (.bl (!c)) H1
theorem pe_one {op} {t : TE} (h : PE X a t) : PE X (.BoolOp op [a] pos) t := fun pins s σ H Q I hw => BoolOp_one (h pins s σ H Q I hw)
theorem pe_and (ha : PE X a ta) (hb : PE X (.BoolOp .And (b :: rest) pos) tb) : PE X (.BoolOp .And (a :: b :: rest) pos) (tAndV ta tb) := by
  intro pins s σ H Q I h
  refine BoolOp_and (thn (ha pins s σ H _ I h) fun v s1 ⟨x, H1, I1, r1, q1⟩ => ?_)
  obtain ⟨c, rfl, q1⟩ := q1
  cases r1
  refine wpAny_truthy_bool ?_
  cases c with
  | true => exact hb pins s1 σ H1 Q I1 q1
  | false => exact ⟨.bl false, H1, I1, rfl, q1⟩
theorem pe_not (ha : PE X a ta) : PE X (.UnaryOp .Not a pos) (tNotV ta) := by
  intro pins s σ H Q I h
  refine UnaryOp_ (thn (ha pins s σ H _ I h) fun v s1 ⟨x, H1, I1, r1, q1⟩ => ?_)
  obtain ⟨c, rfl, q1⟩ := q1
  cases r1
  exact not_of (wpAny_truthy_bool ⟨.bl (!c), H1, I1, rfl, q1⟩)
end
def SqL (K : PySem.W.Frag) (H : Hp) (a : Addr) (xs : List V) : Prop :=
  Rd H a (.lst xs) ∨
    ∃ (o : Obj) (its : Array Value) (n : Nat), K.lookup a = some o ∧ o.cls = .type "list" ∧ o.dict = none ∧ o.data = .seq its n ∧ its.size ≤ sizeLine ∧ Vals xs its.toList
def SqT (K : PySem.W.Frag) (H : Hp) (a : Addr) (xs : List V) : Prop :=
  Rd H a (.tup xs) ∨
    ∃ (o : Obj) (its : Array Value) (n : Nat), K.lookup a = some o ∧ o.cls = .type "tuple" ∧ o.data = .seq its n ∧ its.size ≤ sizeLine ∧ Vals xs its.toList
noncomputable def absV : Value → Option V
  | .none => some .non
  | .bool b => some (.bl b)
  | .int i _ => some (.int i)
  | .str x _ => some (.str x)
  | .bytes b _ => some (.byt b)
  | .float b _ => some (.flt b)
  | .ref a => some (.ref a)
  | .type n => some (.ty n)
  | _ => none
theorem RelV.abs {x : V} {u : Value} (r : RelV x u) : absV u = some x := by
  cases x with
  | non => cases r; rfl
  | bl _ => cases r; rfl
  | int _ => obtain ⟨t, rfl⟩ := r; rfl
  | str _ => obtain ⟨t, rfl⟩ := r; rfl
  | byt _ => obtain ⟨t, rfl⟩ := r; rfl
  | flt _ => obtain ⟨t, rfl⟩ := r; rfl
  | ref _ => cases r; rfl
  | ty _ => cases r; rfl
theorem RelV.inj {x y : V} {u : Value} (r : RelV x u) (q : RelV y u) : x = y := Option.some.inj (r.abs.symm.trans q.abs)
theorem Vals.inj : ∀ {xs ys : List V} {us : List Value}, Vals xs us → Vals ys us → xs = ys
  | _, _, _, .nil, .nil => rfl
  | _, _, _, .cons r t, .cons r' t' => by rw [r.inj r', Vals.inj t t']
section
variable {X : Cx} {pins : List (Addr × Obj)} {σ : St} {H : Hp} {s : Shared} {a : Addr} {xs ys : List V}
theorem SqL.of {K : PySem.W.Frag} (h : H a = some (.lst xs)) : SqL K H a xs := .inl (.inl h)
theorem SqT.of {K : PySem.W.Frag} (h : H a = some (.tup xs)) : SqT K H a xs := .inl (.inl h)
theorem Inv.list (I : Inv X pins σ H s) (h : SqL X.K H a xs) : ∃ its : List Value, Vals xs its ∧ PlainL s.heap a its.toArray ∧ xs.length ≤ sizeLine := by
  rcases h with h | ⟨o, its, n, hk, hc, hd, hs, hz, r⟩
  · obtain ⟨z, its, n, r, e⟩ := h.ok I.hok
    exact ⟨its, r, ⟨_, n, e, rfl, rfl, rfl⟩, z⟩
  · refine ⟨its.toList, r, ⟨o, n, I.kIn a o hk, hc, hd, by simpa using hs⟩, ?_⟩
    have e := r.length
    simp only [Array.length_toList] at e
    omega
theorem Inv.tuple (I : Inv X pins σ H s) (h : SqT X.K H a xs) : ∃ its : List Value, Vals xs its ∧ IsTup s.heap a its.toArray ∧ xs.length ≤ sizeLine := by
  rcases h with h | ⟨o, its, n, hk, hc, hs, hz, r⟩
  · obtain ⟨z, its, r, p, _⟩ := h.ok I.hok
    exact ⟨its, r, p, z⟩
  · refine ⟨its.toList, r, ⟨o, I.kIn a o hk, hc, n, by simpa using hs⟩, ?_⟩
    have e := r.length
    simp only [Array.length_toList] at e
    omega
theorem Inv.list_inj (I : Inv X pins σ H s) (h : SqL X.K H a xs) (h' : SqL X.K H a ys) : xs = ys := by
  obtain ⟨its, r, ⟨o, n, e, _, _, d⟩, _⟩ := I.list h
  obtain ⟨its', r', ⟨o', n', e', _, _, d'⟩, _⟩ := I.list h'
  rw [e] at e'; cases e'
  rw [d] at d'
  injection d' with d1 _
  have : its = its' := by simpa using congrArg Array.toList d1
  subst this
  exact r.inj r'
theorem Inv.tuple_inj (I : Inv X pins σ H s) (h : SqT X.K H a xs) (h' : SqT X.K H a ys) : xs = ys := by
  obtain ⟨its, r, ⟨o, e, _, n, d⟩, _⟩ := I.tuple h
  obtain ⟨its', r', ⟨o', e', _, n', d'⟩, _⟩ := I.tuple h'
  rw [e] at e'; cases e'
  rw [d] at d'
  injection d' with d1 _
  have : its = its' := by simpa using congrArg Array.toList d1
  subst this
  exact r.inj r'
end
noncomputable abbrev Cx.wish (X : Cx) (E : Value → Shared → Prop) : Cx := { X with xe := E }
noncomputable abbrev Cx.nox (X : Cx) : Cx := X.wish fun _ _ => False
theorem Cx.Ok.wish {X : Cx} (ok : X.Ok) (E : Value → Shared → Prop) : (X.wish E).Ok :=
  ⟨ok.mod, ok.kind, ok.glob, ok.blt, ok.above, ok.inj, ok.has, ok.cab, ok.hd, ok.frames, ok.stk, ok.exf, ok.bs, ok.bsz, ok.noex, ok.exfs, ok.funs, ok.frf⟩
theorem Cx.Ok.unwish {X : Cx} {E : Value → Shared → Prop} (ok : (X.wish E).Ok) : X.Ok :=
  ⟨ok.mod, ok.kind, ok.glob, ok.blt, ok.above, ok.inj, ok.has, ok.cab, ok.hd, ok.frames, ok.stk, ok.exf, ok.bs, ok.bsz, ok.noex, ok.exfs, ok.funs, ok.frf⟩
section
variable {X : Cx} {pins : List (Addr × Obj)} {σ : St} {H : Hp} {s : Shared} {E : Value → Shared → Prop}
theorem Inv.wish (I : Inv X pins σ H s) (E : Value → Shared → Prop) : Inv (X.wish E) pins σ H s := ⟨I.ok.wish E, I.os, I.bare, I.base, I.loc, I.cell, I.free, I.freeC, I.pin, I.hok, I.len⟩
theorem Inv.unwish (I : Inv (X.wish E) pins σ H s) : Inv X pins σ H s := ⟨I.ok.unwish, I.os, I.bare, I.base, I.loc, I.cell, I.free, I.freeC, I.pin, I.hok, I.len⟩
theorem SP.unwish {D : Ends} {f : Flow} {s' : Shared} (h : SP (X.wish E) pins D f s') : SP X pins D f s' := by
  cases f with
  | next => obtain ⟨σ', H', I, q⟩ := h; exact ⟨σ', H', I.unwish, q⟩
  | brk => obtain ⟨σ', H', I, q⟩ := h; exact ⟨σ', H', I.unwish, q⟩
  | cont => obtain ⟨σ', H', I, q⟩ := h; exact ⟨σ', H', I.unwish, q⟩
  | ret u => obtain ⟨v, σ', H', I, r, q⟩ := h; exact ⟨v, σ', H', I.unwish, r, q⟩
theorem PE.nox {e : Expr} {t : TE} (h : PE X.nox e t) : PE X e t := fun pins s σ H Q I hw =>
  wpAny_mono (h pins s σ H Q (I.wish _) hw) (fun _ _ ⟨v, H', I', r, q⟩ => ⟨v, H', I'.unwish, r, q⟩) fun _ _ z => False.elim z
theorem PT.nox {e : Expr} {t : TT} (h : PT X.nox e t) : PT X e t := fun pins s σ H Q I hw =>
  wpAny_mono (h pins s σ H Q (I.wish _) hw) (fun _ _ ⟨H', I', q⟩ => ⟨H', I'.unwish, q⟩) fun _ _ z => False.elim z
theorem PSs.nox {st : List Stmt} {t : TS} (h : PSs X.nox st t) : PSs X st t := fun pins s σ H D I hw =>
  wpAny_mono (h pins s σ H D (I.wish _) hw) (fun _ _ q => q.unwish) fun _ _ z => False.elim z
end
section
variable {X : Cx} {st : Stmt} {rest : List Stmt} {t u : TS} {e : Expr} {te : TE} {pos : Pos}
def tNext : TS := fun D σ H => D.nx σ H
def tSeq (t u : TS) : TS := fun D σ H => t { D with nx := u D } σ H
theorem pss_nil : PSs X [] tNext := fun _ _ σ H _ I h => wpAny_execs_nil ⟨σ, H, I, h⟩
theorem pss_cons (h1 : PS X st t) (h2 : PSs X rest u) : PSs X (st :: rest) (tSeq t u) := by
  intro pins s σ H D I h
  refine wpAny_execs_cons (thn (h1 pins s σ H { D with nx := u D } I h) fun f s1 q => ?_)
  cases f with
  | next =>
    obtain ⟨σ', H', I', q⟩ := q
    exact h2 pins s1 σ' H' D I' q
  | ret v => exact q
  | brk => exact q
  | cont => exact q
theorem pss_one (h1 : PS X st t) : PSs X [st] t := by
  intro pins s σ H D I h
  refine wpAny_execs_cons (thn (h1 pins s σ H D I h) fun f s1 q => ?_)
  cases f with
  | next => exact wpAny_execs_nil q
  | ret v => exact q
  | brk => exact q
  | cont => exact q
theorem Inv.quiet {pins : List (Addr × Obj)} {σ : St} {H : Hp} {s : Shared} (I : Inv X pins σ H s) : interactive X.env = false := by simp [interactive, I.ok.kind]
def tDrop (te : TE) : TS := fun D σ H => te σ H fun _ H1 => D.nx σ H1
theorem ps_expr (he : PE X e te) (hs : swapsWith e none pos.line X.env = pure false := by rfl) : PS X (.Expr e pos) (tDrop te) := by
  intro pins s σ H D I h
  exact wpAny_Expr_any (thn (he pins s σ H _ I h) fun v s1 ⟨x, H1, I1, r1, q1⟩ => ⟨σ, H1, I1, q1⟩) I.quiet hs
def tRet (te : TE) : TS := fun D σ H => te σ H D.rt
theorem ps_ret (he : PE X e te) : PS X (.Return (some e) pos) (tRet te) := by
  intro pins s σ H D I h
  exact wpAny_Return_some (thn (he pins s σ H _ I h) fun v s1 ⟨x, H1, I1, r1, q1⟩ => ⟨x, σ, H1, I1, r1, q1⟩)
def tIfS (c : TT) (t u : TS) : TS := fun D σ H => c σ H fun b H1 => if b = true then t D σ H1 else u D σ H1
theorem ps_if {c : Expr} {a b : List Stmt} {tc : TT} (hc : PT X c tc) (ha : PSs X a t) (hb : PSs X b u) : PS X (.If c a b pos) (tIfS tc t u) := by
  intro pins s σ H D I h
  refine wpAny_If (thn (hc pins s σ H _ I h) fun d s1 ⟨H1, I1, q1⟩ => ?_)
  cases d with
  | true => exact ha pins s1 σ H1 D I1 q1
  | false => exact hb pins s1 σ H1 D I1 q1
end
abbrev TG := V → St → Hp → (St → Hp → Prop) → Prop
abbrev TGs := List V → St → Hp → (St → Hp → Prop) → Prop
def PG (X : Cx) (target : Expr) (t : TG) : Prop :=
  ∀ (pins : List (Addr × Obj)) (s : Shared) (σ : St) (H : Hp) (v : V) (u : Value) (Q : St → Hp → Prop), Inv X pins σ H s → RelV v u → t v σ H Q →
    wpAny (model X.prog X.w) X.A (assign target X.env u) (fun _ s' => ∃ σ' H', Inv X pins σ' H' s' ∧ Q σ' H') X.xe s
def PGs (X : Cx) (ts : List Expr) (t : TGs) : Prop :=
  ∀ (pins : List (Addr × Obj)) (s : Shared) (σ : St) (H : Hp) (vs : List V) (us : List Value) (Q : St → Hp → Prop), Inv X pins σ H s → Vals vs us → t vs σ H Q →
    wpAny (model X.prog X.w) X.A (assignInOrder ((assignEach ts X.env).map (·.2)) us) (fun _ s' => ∃ σ' H', Inv X pins σ' H' s' ∧ Q σ' H') X.xe s
section
variable {X : Cx} {pos : Pos}
def gName (i : Nat) : TG := fun v σ H Q => Q (σ.set i (some v)) H
theorem pg_name {i : Nat} {x : Str} (hN : X.N.Nodup) (hi : X.N[i]? = some x) (hx : Loc X.env.scope x) (hf : X.fn x = true ∨ X.env.scope.names.lookup x = some .local := by first | exact .inl rfl | exact .inr rfl | assumption) : PG X (.Name x pos) (gName i) := by
  intro pins s σ H v u Q I r h
  exact wpAny_assign_Name (store_ok I hN hi hx r (fun s' I' => ⟨_, H, I', h⟩) hf)
def gNil : TGs := fun vs σ H Q => vs = [] ∧ Q σ H
def gCons (t : TG) (u : TGs) : TGs := fun vs σ H Q => ∃ v r, vs = v :: r ∧ t v σ H fun σ' H' => u r σ' H' Q
theorem pgs_nil : PGs X [] gNil := by
  intro pins s σ H vs us Q I r h
  obtain ⟨e, h⟩ := h
  subst e
  cases r
  exact assignInOrder_nil ⟨σ, H, I, h⟩
theorem pgs_cons {e : Expr} {es : List Expr} {t : TG} {u : TGs} (h1 : PG X e t) (h2 : PGs X es u)
    (hs : (assignEach (e :: es) X.env).map (·.2) = assign e X.env :: (assignEach es X.env).map (·.2) := by rfl) : PGs X (e :: es) (gCons t u) := by
  intro pins s σ H vs us Q I r h
  obtain ⟨v, vr, e1, h⟩ := h
  subst e1
  cases r with
  | cons r rr =>
    rw [hs]
    refine assignInOrder_cons (thn (h1 pins s σ H _ _ _ I r h) fun _ s1 ⟨σ1, H1, I1, q1⟩ => ?_)
    exact h2 pins s1 σ1 H1 _ _ Q I1 rr q1
def gTup (K : PySem.W.Frag) (n : Nat) (t : TGs) : TG := fun v σ H Q => ∃ a xs, v = .ref a ∧ SqT K H a xs ∧ xs.length = n ∧ t xs σ H Q
theorem pg_tup {es : List Expr} {k : Nat} {t : TGs} {n : Nat} (hc : X.calm = true) (h : PGs X es t)
    (hn : (assignEach es X.env).length = n := by rfl) (hst : (assignEach es X.env).findIdx? (·.1) = none := by rfl) : PG X (.Tuple es k pos) (gTup X.K n t) := by
  intro pins s σ H v u Q I r hw
  obtain ⟨a, xs, e1, hq, hl, hw⟩ := hw
  subst e1
  cases r
  obtain ⟨its, rv, ht, hz⟩ := I.tuple hq
  refine assign_Tuple_tuple (I.ok.hd hc) ht (by simp [hn, ← hl, rv.length]) hst fun h' hx => ?_
  have I1 : Inv X pins σ H { s with heap := h' } := I.kept (t' := s.toks) fun b o e => hx b o (Nat.ne_of_lt (Heap.lt_size e)) e
  exact h pins _ σ H xs _ Q I1 (by simpa using rv) hw
def tAsg (te : TE) (g : TG) : TS := fun D σ H => te σ H fun x H1 => g x σ H1 D.nx
theorem ps_set {i : Nat} {x : Str} {e : Expr} {te : TE} {pos' : Pos} (hN : X.N.Nodup) (hi : X.N[i]? = some x) (hx : Loc X.env.scope x) (he : PE X e te) (hs : swapsWith e (some (.Name x pos')) pos.line X.env = pure false := by rfl) (hf : X.fn x = true ∨ X.env.scope.names.lookup x = some .local := by first | exact .inl rfl | exact .inr rfl | assumption) :
    PS X (.Assign [.Name x pos'] e pos) (tAsg te (gName i)) := by
  intro pins s σ H D I h
  refine wpAny_Assign_Name (thn (he pins s σ H _ I h) fun v s1 ⟨y, H1, I1, r1, q1⟩ => ?_) hs
  exact store_ok I1 hN hi hx r1 (fun s2 I2 => ⟨_, H1, I2, q1⟩) hf
end
section
variable {X : Cx} {pos : Pos}
def tWhile (c : TT) (tb : TS) : TS := fun D σ H => ∃ W : Nat → St → Hp → Prop, (∃ m, W m σ H) ∧ ∀ m σ H, W m σ H →
  c σ H fun b H1 => if b = true then ∃ N : St → Hp → Prop, (∀ σ' H', N σ' H' → ∃ m', m' < m ∧ W m' σ' H') ∧ tb { D with nx := N, ct := N, bk := D.nx } σ H1 else D.nx σ H1
theorem ps_while {c : Expr} {body : List Stmt} {tc : TT} {tb : TS} (hp : PassesOwn (model X.prog X.w) X.A X.env X.xe) (hc : PT X c tc) (hb : PSs X body tb) : PS X (.While c body [] pos) (tWhile tc tb) := by
  intro pins s σ H D I h
  obtain ⟨W, ⟨m0, w0⟩, turn⟩ := h
  refine wpAny_While (codeAny_whileLoop (fun n s' => ∃ σ' H', Inv X pins σ' H' s' ∧ W n σ' H') ?_ m0 ⟨σ, H, I, w0⟩)
  rintro n s1 ⟨σ1, H1, I1, w1⟩
  refine wpAny_passesOwn hp (thn (hc pins s1 σ1 H1 _ I1 (turn n σ1 H1 w1)) fun b s2 ⟨H2, I2, q2⟩ => ?_)
  cases b with
  | true =>
    obtain ⟨N, hN, q2⟩ := q2
    rw [if_pos rfl]
    refine wpAny_passesOwn hp (thn (hb pins s2 σ1 H2 _ I2 q2) fun f s3 q3 => ?_)
    cases f with
    | next =>
      obtain ⟨σ3, H3, I3, n3⟩ := q3
      obtain ⟨m', hm, w3⟩ := hN σ3 H3 n3
      exact ⟨m', hm, σ3, H3, I3, w3⟩
    | cont =>
      obtain ⟨σ3, H3, I3, n3⟩ := q3
      obtain ⟨m', hm, w3⟩ := hN σ3 H3 n3
      exact ⟨m', hm, σ3, H3, I3, w3⟩
    | brk => exact q3
    | ret v => exact q3
  | false =>
    rw [if_neg Bool.false_ne_true]
    exact wpAny_execs_nil ⟨σ1, H2, I2, q2⟩
end
structure It where
  go : Nat → Hp → Prop
  yld : Nat → Hp → V → Hp → Prop
  stop : Nat → Hp → Prop
def FpOk (X : Cx) (pins : List (Addr × Obj)) (H : Hp) (b : Addr) : Prop :=
  H b = none ∧ b ≠ X.env.locals ∧ b ∉ X.fs ∧ (b ∈ X.ex ∨ X.s₀.heap.objs.size ≤ b) ∧ (∀ x c, X.env.cells.lookup x = some c → c ≠ b) ∧ ∀ p ∈ X.pn ++ pins, p.1 ≠ b
theorem Inv.fpOk {X : Cx} {pins : List (Addr × Obj)} {σ : St} {H H' : Hp} {s : Shared} {b : Addr} (I : Inv X pins σ H s) (hb : s.heap.objs.size ≤ b) (hn : H' b = none) : FpOk X pins H' b := by
  refine ⟨hn, Nat.ne_of_gt (Nat.lt_of_lt_of_le I.lt hb), I.nofs hb, .inr (Nat.le_trans I.sz hb), fun x c e z => ?_, fun p hp z => ?_⟩
  · obtain ⟨v, q⟩ := I.cell x c e
    exact absurd (Nat.lt_of_lt_of_le q.lt (by rw [z]; exact hb)) (Nat.lt_irrefl _)
  · exact absurd (Nat.lt_of_lt_of_le (Heap.lt_size (I.pin p hp).1) (by rw [z]; exact hb)) (Nat.lt_irrefl _)
structure Turn (P : Program) (w : World) (K : PySem.W.Frag) (tg : Expr) (J : It) (fp : List Addr) (it : Addr) (tn : Nat → Heap → Prop) : Prop where
  mem : it ∈ fp
  obj : ∀ i h, tn i h → ∀ b ∈ fp, ∃ o, h.get? b = some o ∧ ∀ v, o.data ≠ .cell v
  keep : ∀ i h h', tn i h → (∀ b ∈ fp, ∀ o, h.get? b = some o → h'.get? b = some o) → tn i h'
  item : ∀ (X : Cx), X.prog = P → X.w = w → X.K = K → X.calm = true → ∀ (i : Nat) (pins : List (Addr × Obj)) (s : Shared) (σ : St) (H : Hp) (E : Value → Shared → Prop), Inv X pins σ H s → (∀ b ∈ fp, FpOk X pins H b) → tn i s.heap → J.go i H →
    wpAny (model P w) X.A (pyNext (.ref it)) (fun r s1 => ∃ u, r = some u ∧
      wpAny (model P w) X.A (letOwnedTupleGo tg (.ref it) u) (fun _ s2 => ∃ x H', Inv X pins σ H' s2 ∧ RelV x u ∧ J.yld i H x H' ∧ tn (i + 1) s2.heap ∧ ∀ b ∈ fp, H' b = none) E s1) E s
  done : ∀ (X : Cx), X.prog = P → X.w = w → X.K = K → X.calm = true → ∀ (i : Nat) (pins : List (Addr × Obj)) (s : Shared) (σ : St) (H : Hp) (E : Value → Shared → Prop), Inv X pins σ H s → (∀ b ∈ fp, FpOk X pins H b) → tn i s.heap → J.stop i H →
    wpAny (model P w) X.A (pyNext (.ref it)) (fun r s1 => r = none ∧ Inv X pins σ H s1) E s
  self : ∀ (A : Around) (i : Nat) (s : Shared) (Q : Value → Shared → Prop) (E : Value → Shared → Prop), tn i s.heap → Q (.ref it) s → wpAny (model P w) A (pyIter (.ref it)) Q E s
abbrev TI := St → Hp → (It → Hp → Prop) → Prop
def PIE (X : Cx) (pins : List (Addr × Obj)) (σ : St) (tg : Expr) (R : It → Hp → Prop) (itv : Value) (s2 : Shared) : Prop :=
  ∃ (it : Addr) (fp : List Addr) (tn : Nat → Heap → Prop) (J : It) (H' : Hp), itv = .ref it ∧ Inv X pins σ H' s2 ∧ Turn X.prog X.w X.K tg J fp it tn ∧ tn 0 s2.heap ∧ (∀ b ∈ fp, FpOk X pins H' b) ∧ R J H'
def PI (X : Cx) (tg iter : Expr) (wi : TI) : Prop :=
  ∀ (pins : List (Addr × Obj)) (s : Shared) (σ : St) (H : Hp) (R : It → Hp → Prop), Inv X pins σ H s → wi σ H R →
    wpAny (model X.prog X.w) X.A (eval iter X.env) (fun v s1 => wpAny (model X.prog X.w) X.A (pyIter v) (PIE X pins σ tg R) X.xe s1) X.xe s
theorem go_of {M : Model} {A : Around} {E : Value → Shared → Prop} {s : Shared} {tg : Expr} {it : Addr} {u : Value} {o : Obj} {n : String} {vs : Array Value} {Q : Unit → Shared → Prop} (ho : s.heap.get? it = some o) (hc : o.cls = .type n) (hd : o.data = .fields vs)
    (hn : ["enumerate", "zip", "dict_itemiterator", "dict_reverseitemiterator", "odict_iterator", "itertools.zip_longest", "itertools.pairwise"].contains n = false) (hQ : Q () s) : wpAny M A (letOwnedTupleGo tg (.ref it) u) Q E s := by
  unfold letOwnedTupleGo
  cases tg <;> first
    | exact wpAny_pure hQ
    | (cases u <;> first
        | exact wpAny_pure hQ
        | (refine wpAny_bind (wpAny_load ho ?_)
           rw [hc, hd]
           show wpAny M A (if (["enumerate", "zip", "dict_itemiterator", "dict_reverseitemiterator", "odict_iterator", "itertools.zip_longest", "itertools.pairwise"].contains n && vs[0]? == some (rawInt _)) = true then _ else _) Q E s
           rw [if_neg (by intro h; rw [hn, Bool.false_and] at h; cases h)]
           exact wpAny_pure hQ))
def Itl (K : PySem.W.Frag) (a : Addr) : It :=
  ⟨fun i H => ∃ xs x, SqL K H a xs ∧ xs[i]? = some x, fun i H x H' => H' = H ∧ ∀ xs, SqL K H a xs → xs[i]? = some x, fun i H => ∃ xs, SqL K H a xs ∧ xs.length ≤ i⟩
noncomputable def Itt (K : PySem.W.Frag) (a : Addr) : It :=
  ⟨fun i H => ∃ xs x, SqT K H a xs ∧ xs[i]? = some x, fun i H x H' => H' = H ∧ ∀ xs, SqT K H a xs → xs[i]? = some x, fun i H => ∃ xs, SqT K H a xs ∧ xs.length ≤ i⟩
def Itr (lo : Int) (n : Nat) : It := ⟨fun i _ => i < n, fun i H x H' => H' = H ∧ x = .int (lo + i), fun i _ => n ≤ i⟩
theorem turn_list {P : Program} {w : World} {K : PySem.W.Frag} {tg : Expr} (a it : Addr) : Turn P w K tg (Itl K a) [it] it (fun i h => h.IsListIter it a i) where
  mem := by simp
  obj := fun i h st b hb => by
    have e : b = it := by simpa using hb
    subst e
    obtain ⟨o, e, c, d⟩ := st
    exact ⟨o, e, fun v z => by rw [d] at z; cases z⟩
  keep := fun i h h' st k => st.at fun o e => k it (by simp) o e
  item := by
    intro X hP hw hK hc i pins s σ H E I hf st hg
    subst hP hw hK
    obtain ⟨xs, x, hq, hx⟩ := hg
    obtain ⟨its, rv, p, hz⟩ := I.list hq
    obtain ⟨u, hu, ru⟩ := rv.get hx
    obtain ⟨f0, f1, f2, f3, f4, f5⟩ := hf it (by simp)
    refine wpAny_pyNext_list_item st p.isList (x := u) (by simpa using hu) fun h' st' sb => ?_
    have I1 : Inv X pins σ H { s with heap := h' } := I.turned (t' := s.toks) (fun b o hb e => (sb.2 b hb).trans e) f0 f1 f3 f4 f5
    obtain ⟨o, e, c, d⟩ := id st'
    exact ⟨u, rfl, go_of (s := { s with heap := h' }) e c d (by decide) ⟨x, H, I1, ru, ⟨rfl, fun ys hy => by rw [I.list_inj hy hq]; exact hx⟩, st', fun b hb => (hf b hb).1⟩⟩
  done := by
    intro X hP hw hK hc i pins s σ H E I hf st hg
    subst hP hw hK
    obtain ⟨xs, hq, hx⟩ := hg
    obtain ⟨its, rv, p, hz⟩ := I.list hq
    obtain ⟨f0, f1, f2, f3, f4, f5⟩ := hf it (by simp)
    have hl := rv.length
    exact wpAny_pyNext_list_end (I.ok.hd hc) st p.isList (by simp; omega) fun h' eb => ⟨rfl, I.turned (t' := s.toks) (fun b o hb e => eb b o hb e) f0 f1 f3 f4 f5⟩
  self := fun _ _ _ _ _ st h => wpAny_pyIter_listiter st h
theorem turn_tuple {P : Program} {w : World} {K : PySem.W.Frag} {tg : Expr} (a it : Addr) : Turn P w K tg (Itt K a) [it] it (fun i h => h.IsTupleIter it a i) where
  mem := by simp
  obj := fun i h st b hb => by
    have e : b = it := by simpa using hb
    subst e
    obtain ⟨o, e, c, d⟩ := st
    exact ⟨o, e, fun v z => by rw [d] at z; cases z⟩
  keep := fun i h h' st k => st.at fun o e => k it (by simp) o e
  item := by
    intro X hP hw hK hc i pins s σ H E I hf st hg
    subst hP hw hK
    obtain ⟨xs, x, hq, hx⟩ := hg
    obtain ⟨its, rv, p, hz⟩ := I.tuple hq
    obtain ⟨u, hu, ru⟩ := rv.get hx
    obtain ⟨f0, f1, f2, f3, f4, f5⟩ := hf it (by simp)
    refine wpAny_pyNext_tuple_item st (show s.heap.IsTuple a its.toArray from p) (x := u) (by simpa using hu) fun h' st' sb => ?_
    have I1 : Inv X pins σ H { s with heap := h' } := I.turned (t' := s.toks) (fun b o hb e => (sb.2 b hb).trans e) f0 f1 f3 f4 f5
    obtain ⟨o, e, c, d⟩ := id st'
    exact ⟨u, rfl, go_of (s := { s with heap := h' }) e c d (by decide) ⟨x, H, I1, ru, ⟨rfl, fun ys hy => by rw [I.tuple_inj hy hq]; exact hx⟩, st', fun b hb => (hf b hb).1⟩⟩
  done := by
    intro X hP hw hK hc i pins s σ H E I hf st hg
    subst hP hw hK
    obtain ⟨xs, hq, hx⟩ := hg
    obtain ⟨its, rv, p, hz⟩ := I.tuple hq
    obtain ⟨f0, f1, f2, f3, f4, f5⟩ := hf it (by simp)
    have hl := rv.length
    exact wpAny_pyNext_tuple_end (I.ok.hd hc) st (show s.heap.IsTuple a its.toArray from p) (by simp; omega) fun h' eb => ⟨rfl, I.turned (t' := s.toks) (fun b o hb e => eb b o hb e) f0 f1 f3 f4 f5⟩
  self := fun _ _ _ _ _ st h => wpAny_pyIter_tupleiter st h
theorem turn_range {P : Program} {w : World} {K : PySem.W.Frag} {tg : Expr} (it : Addr) (lo : Int) (n : Nat) : Turn P w K tg (Itr lo n) [it] it (fun i h => IsRangeIter h it (lo + (i : Nat) * 1) ((n : Int) - (i : Nat)) 1) where
  mem := by simp
  obj := fun i h st b hb => by
    have e : b = it := by simpa using hb
    subst e
    exact ⟨_, st, fun v z => by
      have z' : Data.fields _ = Data.cell v := z
      cases z'⟩
  keep := fun i h h' st k => k it (by simp) _ st
  item := by
    intro X hP hw hK hc i pins s σ H E I hf st hg
    subst hP hw hK
    obtain ⟨f0, f1, f2, f3, f4, f5⟩ := hf it (by simp)
    have W := Walks.range (prog := X.prog) (w := X.w) (I.ok.hd hc) it lo 1 n
    refine W.item i s _ _ hg st fun v h' tk hv st' kk => ?_
    obtain ⟨t, rfl⟩ := hv
    have I1 : Inv X pins σ H { s with heap := h', toks := tk } := I.turned (fun b o hb e => kk b o (by simpa using hb) e) f0 f1 f3 f4 f5
    refine ⟨_, rfl, go_of (s := { s with heap := h', toks := tk }) (n := "range_iterator") st' rfl rfl (by decide) ⟨.int (lo + i), H, I1, ⟨t, ?_⟩, ⟨rfl, rfl⟩, st', fun b hb => (hf b hb).1⟩⟩
    rw [Int.mul_one]
  done := by
    intro X hP hw hK hc i pins s σ H E I hf st hg
    subst hP hw hK
    obtain ⟨f0, f1, f2, f3, f4, f5⟩ := hf it (by simp)
    exact wpAny_pyNext_range_end (I.ok.hd hc) st (by have : n ≤ i := hg; omega) fun h' eb => ⟨rfl, I.turned (t' := s.toks) (fun b o hb e => eb b o hb e) f0 f1 f3 f4 f5⟩
  self := fun _ _ _ _ _ st h => wpAny_pyIter_rangeiter st h
section
variable {X : Cx} {tg : Expr}
def iList (K : PySem.W.Frag) (tl : TE) : TI := fun σ H R => tl σ H fun x H1 => ∃ a, x = .ref a ∧ (∃ xs, SqL K H1 a xs) ∧ R (Itl K a) H1
def iTup (K : PySem.W.Frag) (tl : TE) : TI := fun σ H R => tl σ H fun x H1 => ∃ a, x = .ref a ∧ (∃ xs, SqT K H1 a xs) ∧ R (Itt K a) H1
theorem pi_list {l : Expr} {tl : TE} (hl : PE X l tl) : PI X tg l (iList X.K tl) := by
  intro pins s σ H R I h
  refine thn (hl pins s σ H _ I h) fun v s1 ⟨x, H1, I1, r1, q1⟩ => ?_
  obtain ⟨a, e, ⟨xs, hq⟩, q⟩ := q1
  subst e
  cases r1
  obtain ⟨its, rv, p, hz⟩ := I1.list hq
  refine wpAny_pyIter_list p.isList ?_
  refine ⟨s1.heap.objs.size, [s1.heap.objs.size], _, _, H1, rfl, I1.kept (t' := s1.toks) fun b o e => Heap.get?_push_of_some _ e, turn_list a _, ⟨_, Heap.get?_push_size _ rfl, rfl, rfl⟩, fun b hb => ?_, q⟩
  have e : b = s1.heap.objs.size := by simpa using hb
  subst e
  exact I1.fpOk (Nat.le_refl _) (I1.hok.fresh (Nat.le_refl _))
theorem pi_tup {l : Expr} {tl : TE} (hl : PE X l tl) : PI X tg l (iTup X.K tl) := by
  intro pins s σ H R I h
  refine thn (hl pins s σ H _ I h) fun v s1 ⟨x, H1, I1, r1, q1⟩ => ?_
  obtain ⟨a, e, ⟨xs, hq⟩, q⟩ := q1
  subst e
  cases r1
  obtain ⟨its, rv, p, hz⟩ := I1.tuple hq
  refine wpAny_pyIter_tuple (show s1.heap.IsTuple a its.toArray from p) ?_
  refine ⟨s1.heap.objs.size, [s1.heap.objs.size], _, _, H1, rfl, I1.kept (t' := s1.toks) fun b o e => Heap.get?_push_of_some _ e, turn_tuple a _, ⟨_, Heap.get?_push_size _ rfl, rfl, rfl⟩, fun b hb => ?_, q⟩
  have e : b = s1.heap.objs.size := by simpa using hb
  subst e
  exact I1.fpOk (Nat.le_refl _) (I1.hok.fresh (Nat.le_refl _))
theorem range_it {pins : List (Addr × Obj)} {σ : St} {H : Hp} {s : Shared} {R : It → Hp → Prop} {E : Value → Shared → Prop} {lo hi : Int} {t u v : Tok} {tk : Nat} (I : Inv X pins σ H s) (h1 : -(2 ^ 62) ≤ lo) (h2 : lo < 2 ^ 62) (h3 : -(2 ^ 62) ≤ hi) (h4 : hi < 2 ^ 62)
    (q : R (Itr lo (hi - lo).toNat) H) : wpAny (model X.prog X.w) X.A (pyIter (.ref s.heap.objs.size)) (PIE X pins σ tg R) E { s with heap := s.heap.push { cls := .type "range", data := .fields #[.int lo t, .int hi u, .int 1 v] }, toks := tk } := by
  refine wpAny_pyIter_range (IsRange.new ..) (small_one h1 h2 h3 h4) ?_
  have I1 : Inv X pins σ H { s with heap := s.heap.push { cls := .type "range", data := .fields #[.int lo t, .int hi u, .int 1 v] }, toks := tk } := I.kept fun b o e => Heap.get?_push_of_some _ e
  refine ⟨(s.heap.push { cls := .type "range", data := .fields #[.int lo t, .int hi u, .int 1 v] }).objs.size, [(s.heap.push { cls := .type "range", data := .fields #[.int lo t, .int hi u, .int 1 v] }).objs.size], _, _, H, rfl,
    I1.kept (t' := tk) fun b o e => Heap.get?_push_of_some _ e, turn_range _ lo (hi - lo).toNat, ?_, fun b hb => ?_, q⟩
  · have e1 : lo + ((0 : Nat) : Int) * 1 = lo := by simp
    have e2 : (((hi - lo).toNat : Nat) : Int) - ((0 : Nat) : Int) = Builtin.Range.rangeSize lo hi 1 := by rw [rangeSize_one]; split <;> omega
    show IsRangeIter _ _ (lo + ((0 : Nat) : Int) * 1) ((((hi - lo).toNat : Nat) : Int) - ((0 : Nat) : Int)) 1
    rw [e1, e2]
    exact Heap.get?_push_size _ rfl
  · have e : b = (s.heap.push { cls := .type "range", data := .fields #[.int lo t, .int hi u, .int 1 v] }).objs.size := by simpa using hb
    subst e
    exact I1.fpOk (Nat.le_refl _) (I1.hok.fresh (Nat.le_refl _))
def iRng1 (ta : TA) : TI := fun σ H R => ta σ H fun vs H1 => ∃ j : Int, vs = [.int j] ∧ -(2 ^ 62) ≤ j ∧ j < 2 ^ 62 ∧ R (Itr 0 j.toNat) H1
theorem pi_range1 {a : Expr} {ta : TA} {p pos : Pos} (hg : Gl X "range") (hm : X.mg "range" = none) (ha : PA X [a] ta) (hs : starEach [a] X.env = [(false, eval a X.env)] := by rfl) : PI X tg (.Call (.Name "range" p) [a] [] pos) (iRng1 ta) := by
  intro pins s σ H R I h
  refine Call_ (ld_blt I hg hm boot_range (PyProof.Rows.callWith_type1 (thn (ha pos pins s σ H _ I h) fun us s1 ⟨vs, H1, I1, r1, q1⟩ => ?_) hs rfl))
  obtain ⟨j, e, q1, q2, q⟩ := q1
  subst e
  cases r1 with
  | cons r rr =>
    cases rr
    obtain ⟨t, rfl⟩ := r
    exact call_range_1 (range_it I1 (by omega) (by omega) q1 q2 (by simpa using q))
def tFor (wi : TI) (g : TG) (tb : TS) : TS := fun D σ H => wi σ H fun J H1 => ∃ W : Nat → Nat → St → Hp → Prop, (∃ m, W 0 m σ H1) ∧ ∀ i m σ H, W i m σ H →
  (J.stop i H ∧ D.nx σ H) ∨ (J.go i H ∧ ∃ N : St → Hp → Prop, (∀ σ' H', N σ' H' → ∃ m', m' < m ∧ W (i + 1) m' σ' H') ∧ ∀ x H', J.yld i H x H' → g x σ H' fun σ2 H2 => tb { D with nx := N, ct := N, bk := D.nx } σ2 H2)
noncomputable def pinsAt (fp : List Addr) (h : Heap) : List (Addr × Obj) := fp.filterMap fun b => (h.get? b).map fun o => (b, o)
theorem mem_pinsAt {fp : List Addr} {h : Heap} {b : Addr} {o : Obj} (hb : b ∈ fp) (e : h.get? b = some o) : (b, o) ∈ pinsAt fp h := List.mem_filterMap.mpr ⟨b, hb, by rw [e]; rfl⟩
theorem of_pinsAt {fp : List Addr} {h : Heap} {p : Addr × Obj} (hp : p ∈ pinsAt fp h) : p.1 ∈ fp ∧ h.get? p.1 = some p.2 := by
  obtain ⟨b, hb, e⟩ := List.mem_filterMap.mp hp
  cases q : h.get? b with
  | none => rw [q] at e; cases e
  | some o =>
    rw [q] at e
    have e' : (b, o) = p := Option.some.inj e
    subst e'
    exact ⟨hb, q⟩
theorem Inv.pinned {pins : List (Addr × Obj)} {σ : St} {H : Hp} {s : Shared} {fp : List Addr} (I : Inv X pins σ H s) (hf : ∀ b ∈ fp, FpOk X pins H b) (ho : ∀ b ∈ fp, ∃ o, s.heap.get? b = some o ∧ ∀ v, o.data ≠ .cell v) : Inv X (pins ++ pinsAt fp s.heap) σ H s :=
  I.pins_of fun p hp => (List.mem_append.mp hp).elim (fun z => I.pin p (List.mem_append_right _ z)) fun z => by
    obtain ⟨hb, e⟩ := of_pinsAt z
    obtain ⟨f0, f1, f2, _⟩ := hf p.1 hb
    obtain ⟨o, e', d⟩ := ho p.1 hb
    rw [e] at e'; cases e'
    exact ⟨e, f0, f1, f2, d⟩
theorem Inv.unpinned {pins pl : List (Addr × Obj)} {σ : St} {H : Hp} {s : Shared} (I : Inv X (pins ++ pl) σ H s) : Inv X pins σ H s := I.pins_of fun p hp => I.pin p (List.mem_append_right _ (List.mem_append_left _ hp))
theorem ps_for {iter : Expr} {body : List Stmt} {wi : TI} {g : TG} {tb : TS} {pos : Pos} (hp : PassesOwn (model X.prog X.w) X.A X.env X.xe) (hc : X.calm = true) (hi : PI X tg iter wi) (hg : PG X tg g) (hb : PSs X body tb)
    (hs : ∀ x, foldedSetIterable iter X.env x = pure x := by intro _; rfl) : PS X (.For tg iter body [] pos) (tFor wi g tb) := by
  intro pins s σ H D I h
  refine wpAny_For (thn (hi pins s σ H _ I h) fun v s1 h1 => thn h1 fun itv s2 h2 => ?_) hs
  obtain ⟨it, fp, tn, J, H2, e, I2, T, st2, f2, W, ⟨m0, w0⟩, turn⟩ := h2
  subst e
  -- what stays true of the iterator's objects through the loop
  have stat : ∀ {H' : Hp}, (∀ b ∈ fp, H' b = none) → ∀ b ∈ fp, FpOk X pins H' b := fun hn b hb => ⟨hn b hb, (f2 b hb).2⟩
  refine codeAny_forLoop_any (fun n s' => ∃ i σ' H', Inv X pins σ' H' s' ∧ tn i s'.heap ∧ (∀ b ∈ fp, H' b = none) ∧ W i n σ' H') ?_ m0 ⟨0, σ, H2, I2, st2, fun b hb => (f2 b hb).1, w0⟩
  rintro n s3 ⟨i, σ3, H3, I3, st3, fr3, w3⟩
  rcases turn i n σ3 H3 w3 with ⟨stop, qn⟩ | ⟨go, N, hN, step⟩
  · refine wpAny_passesOwn hp (thn (T.done X rfl rfl rfl hc i pins s3 σ3 H3 X.xe I3 (stat fr3) st3 stop) fun r s4 ⟨hr, I4⟩ => ?_)
    subst hr
    exact wpAny_execs_nil ⟨σ3, H3, I4, qn⟩
  · refine wpAny_passesOwn hp (thn (T.item X rfl rfl rfl hc i pins s3 σ3 H3 X.xe I3 (stat fr3) st3 go) fun r s4 ⟨u, hr, h4⟩ => ?_)
    subst hr
    refine wpAny_passesOwn hp (thn h4 fun _ s5 ⟨x, H5, I5, r5, y5, st5, fr5⟩ => ?_)
    have I5' := I5.pinned (stat fr5) (T.obj _ _ st5)
    refine wpAny_passesOwn hp (thn (hg _ s5 σ3 H5 x u _ I5' r5 (step x H5 y5)) fun _ s6 ⟨σ6, H6, I6, q6⟩ => ?_)
    refine wpAny_passesOwn hp (thn (hb _ s6 σ6 H6 _ I6 q6) fun f s7 q7 => ?_)
    have again : ∀ {σ7 : St} {H7 : Hp}, Inv X (pins ++ pinsAt fp s5.heap) σ7 H7 s7 → N σ7 H7 → ∃ m, m < n ∧ ∃ i σ' H', Inv X pins σ' H' s7 ∧ tn i s7.heap ∧ (∀ b ∈ fp, H' b = none) ∧ W i m σ' H' := fun {σ7 H7} I7 n7 => by
      obtain ⟨m', hm, w7⟩ := hN σ7 H7 n7
      refine ⟨m', hm, i + 1, σ7, H7, I7.unpinned, T.keep _ _ _ st5 fun b hb o e => (I7.pin (b, o) (List.mem_append_right _ (List.mem_append_right _ (mem_pinsAt hb e)))).1, fun b hb => ?_, w7⟩
      obtain ⟨o, e, d⟩ := T.obj _ _ st5 b hb
      exact (I7.pin (b, o) (List.mem_append_right _ (List.mem_append_right _ (mem_pinsAt hb e)))).2.1
    cases f with
    | next => obtain ⟨σ7, H7, I7, n7⟩ := q7; exact again I7 n7
    | cont => obtain ⟨σ7, H7, I7, n7⟩ := q7; exact again I7 n7
    | brk => obtain ⟨σ7, H7, I7, q7⟩ := q7; exact ⟨σ7, H7, I7.unpinned, q7⟩
    | ret v => obtain ⟨x7, σ7, H7, I7, r7, q7⟩ := q7; exact ⟨x7, σ7, H7, I7.unpinned, r7, q7⟩
end
theorem for_list {K : PySem.W.Frag} {a : Addr} {xs : List V} {g : TG} {tb : TS} {D : Ends} {σ : St} {H : Hp} (Pv : Nat → St → Hp → Prop) (h0 : Pv 0 σ H) (hl : ∀ i σ H, i ≤ xs.length → Pv i σ H → SqL K H a xs)
    (hs : ∀ i x σ H, xs[i]? = some x → Pv i σ H → g x σ H fun σ2 H2 => tb { D with nx := Pv (i + 1), ct := Pv (i + 1), bk := D.nx } σ2 H2) (hd : ∀ σ H, Pv xs.length σ H → D.nx σ H) :
    ∃ W : Nat → Nat → St → Hp → Prop, (∃ m, W 0 m σ H) ∧ ∀ i m σ H, W i m σ H →
      ((Itl K a).stop i H ∧ D.nx σ H) ∨ ((Itl K a).go i H ∧ ∃ N : St → Hp → Prop, (∀ σ' H', N σ' H' → ∃ m', m' < m ∧ W (i + 1) m' σ' H') ∧ ∀ x H', (Itl K a).yld i H x H' → g x σ H' fun σ2 H2 => tb { D with nx := N, ct := N, bk := D.nx } σ2 H2) := by
  refine ⟨fun i m σ H => m = xs.length - i ∧ i ≤ xs.length ∧ Pv i σ H, ⟨xs.length, by simp, Nat.zero_le _, h0⟩, ?_⟩
  rintro i m σ H ⟨rfl, hi, p⟩
  have q := hl i σ H hi p
  by_cases hlt : i < xs.length
  · refine .inr ⟨⟨xs, xs[i], q, by simp [hlt]⟩, Pv (i + 1), fun σ' H' p' => ⟨xs.length - (i + 1), by omega, rfl, hlt, p'⟩, fun x H' y => ?_⟩
    obtain ⟨e, y⟩ := y
    subst e
    exact hs i x σ _ (y xs q) p
  · have e : i = xs.length := by omega
    subst e
    exact .inl ⟨⟨xs, q, Nat.le_refl _⟩, hd σ H p⟩
theorem for_tup {K : PySem.W.Frag} {a : Addr} {xs : List V} {g : TG} {tb : TS} {D : Ends} {σ : St} {H : Hp} (Pv : Nat → St → Hp → Prop) (h0 : Pv 0 σ H) (hl : ∀ i σ H, i ≤ xs.length → Pv i σ H → SqT K H a xs)
    (hs : ∀ i x σ H, xs[i]? = some x → Pv i σ H → g x σ H fun σ2 H2 => tb { D with nx := Pv (i + 1), ct := Pv (i + 1), bk := D.nx } σ2 H2) (hd : ∀ σ H, Pv xs.length σ H → D.nx σ H) :
    ∃ W : Nat → Nat → St → Hp → Prop, (∃ m, W 0 m σ H) ∧ ∀ i m σ H, W i m σ H →
      ((Itt K a).stop i H ∧ D.nx σ H) ∨ ((Itt K a).go i H ∧ ∃ N : St → Hp → Prop, (∀ σ' H', N σ' H' → ∃ m', m' < m ∧ W (i + 1) m' σ' H') ∧ ∀ x H', (Itt K a).yld i H x H' → g x σ H' fun σ2 H2 => tb { D with nx := N, ct := N, bk := D.nx } σ2 H2) := by
  refine ⟨fun i m σ H => m = xs.length - i ∧ i ≤ xs.length ∧ Pv i σ H, ⟨xs.length, by simp, Nat.zero_le _, h0⟩, ?_⟩
  rintro i m σ H ⟨rfl, hi, p⟩
  have q := hl i σ H hi p
  by_cases hlt : i < xs.length
  · refine .inr ⟨⟨xs, xs[i], q, by simp [hlt]⟩, Pv (i + 1), fun σ' H' p' => ⟨xs.length - (i + 1), by omega, rfl, hlt, p'⟩, fun x H' y => ?_⟩
    obtain ⟨e, y⟩ := y
    subst e
    exact hs i x σ _ (y xs q) p
  · have e : i = xs.length := by omega
    subst e
    exact .inl ⟨⟨xs, q, Nat.le_refl _⟩, hd σ H p⟩
theorem for_range {lo : Int} {n : Nat} {g : TG} {tb : TS} {D : Ends} {σ : St} {H : Hp} (Pv : Nat → St → Hp → Prop) (h0 : Pv 0 σ H)
    (hs : ∀ i σ H, i < n → Pv i σ H → g (.int (lo + i)) σ H fun σ2 H2 => tb { D with nx := Pv (i + 1), ct := Pv (i + 1), bk := D.nx } σ2 H2) (hd : ∀ σ H, Pv n σ H → D.nx σ H) :
    ∃ W : Nat → Nat → St → Hp → Prop, (∃ m, W 0 m σ H) ∧ ∀ i m σ H, W i m σ H →
      ((Itr lo n).stop i H ∧ D.nx σ H) ∨ ((Itr lo n).go i H ∧ ∃ N : St → Hp → Prop, (∀ σ' H', N σ' H' → ∃ m', m' < m ∧ W (i + 1) m' σ' H') ∧ ∀ x H', (Itr lo n).yld i H x H' → g x σ H' fun σ2 H2 => tb { D with nx := N, ct := N, bk := D.nx } σ2 H2) := by
  refine ⟨fun i m σ H => m = n - i ∧ i ≤ n ∧ Pv i σ H, ⟨n, by simp, Nat.zero_le _, h0⟩, ?_⟩
  rintro i m σ H ⟨rfl, hi, p⟩
  by_cases hlt : i < n
  · refine .inr ⟨hlt, Pv (i + 1), fun σ' H' p' => ⟨n - (i + 1), by omega, rfl, hlt, p'⟩, fun x H' y => ?_⟩
    obtain ⟨e, y⟩ := y
    subst e y
    exact hs i σ _ hlt p
  · have e : i = n := by omega
    subst e
    exact .inl ⟨Nat.le_refl _, hd σ H p⟩
abbrev R2 := V → V → Hp → VK → Prop
def OpR (X : Cx) (f : Value → Value → Sem Value) (r : R2) : Prop :=
  ∀ (pins : List (Addr × Obj)) (s : Shared) (σ : St) (H : Hp) (x y : V) (v u : Value) (Q : VK), Inv X pins σ H s → RelV x v → RelV y u → r x y H Q →
    wpAny (model X.prog X.w) X.A (f v u) (EP X pins σ Q) X.xe s
def UnR (X : Cx) (f : Value → Sem Value) (r : V → Hp → VK → Prop) : Prop :=
  ∀ (pins : List (Addr × Obj)) (s : Shared) (σ : St) (H : Hp) (x : V) (v : Value) (Q : VK), Inv X pins σ H s → RelV x v → r x H Q →
    wpAny (model X.prog X.w) X.A (f v) (EP X pins σ Q) X.xe s
def CallR (X : Cx) (f : Value) (r : List V → Hp → VK → Prop) : Prop :=
  ∀ (pins : List (Addr × Obj)) (s : Shared) (σ : St) (H : Hp) (xs : List V) (us : List Value) (Q : VK), Inv X pins σ H s → Vals xs us → r xs H Q →
    wpAny (model X.prog X.w) X.A (call f us) (EP X pins σ Q) X.xe s
def TruR (X : Cx) (r : V → Hp → (Bool → Hp → Prop) → Prop) : Prop :=
  ∀ (pins : List (Addr × Obj)) (s : Shared) (σ : St) (H : Hp) (x : V) (v : Value) (Q : Bool → Hp → Prop), Inv X pins σ H s → RelV x v → r x H Q →
    wpAny (model X.prog X.w) X.A (truthy v) (TP X pins σ Q) X.xe s
def tOp (r : R2) (ta tb : TE) : TE := fun σ H Q => ta σ H fun x H1 => tb σ H1 fun y H2 => r x y H2 Q
def tUn (r : V → Hp → VK → Prop) (ta : TE) : TE := fun σ H Q => ta σ H fun x H1 => r x H1 Q
def rI (C : Int → Int → Prop) (g : Int → Int → V) : R2 := fun x y H Q => ∃ i j, x = .int i ∧ y = .int j ∧ C i j ∧ Q (g i j) H
def rI0 (g : Int → Int → V) : R2 := fun x y H Q => ∃ i j, x = .int i ∧ y = .int j ∧ Q (g i j) H
def rU (g : Int → V) : V → Hp → VK → Prop := fun x H Q => ∃ i, x = .int i ∧ Q (g i) H
section
variable {X : Cx} {a b c : Expr} {ta tb tc : TE} {pos : Pos}
theorem binT (ha : PE X a ta) (hb : PE X b tb) {pins : List (Addr × Obj)} {s : Shared} {σ : St} {H : Hp} {R : V → V → Hp → Prop} (I : Inv X pins σ H s)
    (h : ta σ H fun x H1 => tb σ H1 fun y H2 => R x y H2) {Q : Value → Shared → Prop} {f : Value → Value → Sem Value}
    (hf : ∀ v u s2 x y H2, Inv X pins σ H2 s2 → RelV x v → RelV y u → R x y H2 → wpAny (model X.prog X.w) X.A (f v u) Q X.xe s2) :
    wpAny (model X.prog X.w) X.A (eval a X.env) (fun v s₁ => wpAny (model X.prog X.w) X.A (eval b X.env) (fun u s₂ => wpAny (model X.prog X.w) X.A (f v u) Q X.xe s₂) X.xe s₁) X.xe s := by
  refine thn (ha pins s σ H _ I h) fun v s1 ⟨x, H1, I1, r1, q1⟩ => ?_
  refine thn (hb pins s1 σ H1 _ I1 q1) fun u s2 ⟨y, H2, I2, r2, q2⟩ => ?_
  exact hf v u s2 x y H2 I2 r1 r2 q2
theorem pe_op {op : Operator} {r : R2} (ho : OpR X (binaryOp op) r) (ha : PE X a ta) (hb : PE X b tb) : PE X (.BinOp a op b pos) (tOp r ta tb) := by
  intro pins s σ H Q I h
  exact wpAny_BinOp (binT ha hb I h fun v u s2 x y H2 I2 rx ry q => ho pins s2 σ H2 x y v u Q I2 rx ry q)
theorem pe_un {op : UnaryOp} {r : V → Hp → VK → Prop} (ho : UnR X (unaryOp op) r) (ha : PE X a ta) : PE X (.UnaryOp op a pos) (tUn r ta) := by
  intro pins s σ H Q I h
  exact UnaryOp_ (thn (ha pins s σ H _ I h) fun v s1 ⟨x, H1, I1, r1, q1⟩ => ho pins s1 σ H1 x v Q I1 r1 q1)
theorem opI {f : Value → Value → Sem Value} {C : Int → Int → Prop} {g : Int → Int → Int}
    (rule : ∀ (i j : Int) (t u : Tok) (s : Shared) (Q : Value → Shared → Prop) (E : Value → Shared → Prop), C i j → Q (.int (g i j) s.toks) { s with toks := s.toks + 1 } → wpAny (model X.prog X.w) X.A (f (.int i t) (.int j u)) Q E s) :
    OpR X f (rI C fun i j => .int (g i j)) := by
  intro pins s σ H x y v u Q I rx ry h
  obtain ⟨i, j, rfl, rfl, hc, q⟩ := h
  obtain ⟨t, rfl⟩ := rx
  obtain ⟨t', rfl⟩ := ry
  exact rule i j t t' s _ _ hc ⟨.int (g i j), H, I.tok _, ⟨_, rfl⟩, q⟩
theorem opI0 {f : Value → Value → Sem Value} {g : Int → Int → Int}
    (rule : ∀ (i j : Int) (t u : Tok) (s : Shared) (Q : Value → Shared → Prop) (E : Value → Shared → Prop), Q (.int (g i j) s.toks) { s with toks := s.toks + 1 } → wpAny (model X.prog X.w) X.A (f (.int i t) (.int j u)) Q E s) :
    OpR X f (rI0 fun i j => .int (g i j)) := by
  intro pins s σ H x y v u Q I rx ry h
  obtain ⟨i, j, rfl, rfl, q⟩ := h
  obtain ⟨t, rfl⟩ := rx
  obtain ⟨t', rfl⟩ := ry
  exact rule i j t t' s _ _ ⟨.int (g i j), H, I.tok _, ⟨_, rfl⟩, q⟩
theorem opB0 {f : Value → Value → Sem Value} {g : Int → Int → Bool}
    (rule : ∀ (i j : Int) (t u : Tok) (s : Shared) (Q : Value → Shared → Prop) (E : Value → Shared → Prop), Q (.bool (g i j)) s → wpAny (model X.prog X.w) X.A (f (.int i t) (.int j u)) Q E s) :
    OpR X f (rI0 fun i j => .bl (g i j)) := by
  intro pins s σ H x y v u Q I rx ry h
  obtain ⟨i, j, rfl, rfl, q⟩ := h
  obtain ⟨t, rfl⟩ := rx
  obtain ⟨t', rfl⟩ := ry
  exact rule i j t t' s _ _ ⟨.bl (g i j), H, I, rfl, q⟩
def CDiv (i j : Int) : Prop := 0 < j ∧ j < 1073741824
def CPow (i j : Int) : Prop := 0 ≤ j ∧ j ≤ 1000000 ∧ i.natAbs < 2 ^ 64
def CMul (i j : Int) : Prop := (-(2 ^ 64) < i ∧ i < 2 ^ 64) ∨ (-(2 ^ 64) < j ∧ j < 2 ^ 64)
theorem CMul.ok {i j : Int} (h : CMul i j) : IntMulOk i j := by
  rcases h with ⟨h1, h2⟩ | ⟨h1, h2⟩
  · exact .of_left (intBits_le_64 h1 h2)
  · exact .of_right (intBits_le_64 h1 h2)
theorem op_add : OpR X (binaryOp .Add) (rI0 fun i j => .int (i + j)) := opI0 fun _ _ _ _ _ _ _ q => add_int q
theorem op_sub : OpR X (binaryOp .Sub) (rI0 fun i j => .int (i - j)) := opI0 fun _ _ _ _ _ _ _ q => sub_int q
theorem op_mul : OpR X (binaryOp .Mult) (rI CMul fun i j => .int (i * j)) := opI fun _ _ _ _ _ _ _ hc q => mul_int q hc.ok
theorem op_fdiv : OpR X (binaryOp .FloorDiv) (rI CDiv fun i j => .int (i / j)) := opI fun i j _ _ _ _ _ hc q => by
  have h1 : (0 : Int) < j := hc.1
  have h2 : j < 1073741824 := hc.2
  exact floordiv_int (by omega) (by rw [Int.fdiv_eq_ediv_of_nonneg i (by omega)]; exact q) (.inl (PyProof.noPylong_small (by omega)))
theorem op_mod : OpR X (binaryOp .Mod) (rI (fun _ j => 0 < j) fun i j => .int (i % j)) := opI fun i j _ _ _ _ _ hc q => by
  have h1 : (0 : Int) < j := hc
  exact mod_int' (by omega) (by rw [Int.fmod_eq_emod_of_nonneg i (by omega)]; exact q)
theorem op_pow : OpR X (binaryOp .Pow) (rI CPow fun i j => .int (i ^ j.toNat)) := opI fun _ _ _ _ _ _ _ hc q => pow_int_small hc.1 hc.2.1 hc.2.2 q
theorem unI {f : Value → Sem Value} {g : Int → Int}
    (rule : ∀ (i : Int) (t : Tok) (s : Shared) (Q : Value → Shared → Prop) (E : Value → Shared → Prop), Q (.int (g i) s.toks) { s with toks := s.toks + 1 } → wpAny (model X.prog X.w) X.A (f (.int i t)) Q E s) :
    UnR X f (rU fun i => .int (g i)) := by
  intro pins s σ H x v Q I rx h
  obtain ⟨i, rfl, q⟩ := h
  obtain ⟨t, rfl⟩ := rx
  exact rule i t s _ _ ⟨.int (g i), H, I.tok _, ⟨_, rfl⟩, q⟩
theorem un_neg : UnR X (unaryOp .USub) (rU fun i => .int (-i)) := unI fun _ _ _ _ _ q => neg_int q
end
noncomputable def scal : V → V → Bool
  | .non, .non => true | .non, .int _ => true | .int _, .non => true | .non, .bl _ => true | .bl _, .non => true | .non, .str _ => true | .str _, .non => true
  | .int _, .int _ => true | .bl _, .bl _ => true | .str _, .str _ => true | .byt _, .byt _ => true
  | .int _, .str _ => true | .str _, .int _ => true | .bl _, .str _ => true | .str _, .bl _ => true
  | _, _ => false
def rEq : R2 := fun x y H Q => scal x y = true ∧ Q (.bl (decide (x = y))) H
def rNe : R2 := fun x y H Q => scal x y = true ∧ Q (.bl (!decide (x = y))) H
theorem dec_int {i j : Int} : decide (V.int i = V.int j) = (i == j) := by
  rw [Bool.eq_iff_iff]
  simp
theorem dec_bl {i j : Bool} : decide (V.bl i = V.bl j) = (i == j) := by
  rw [Bool.eq_iff_iff]
  simp
theorem dec_str {i j : Str} : decide (V.str i = V.str j) = (i == j) := by
  rw [Bool.eq_iff_iff]
  simp
theorem dec_byt {i j : Array UInt8} : decide (V.byt i = V.byt j) = (i.toList == j.toList) := by
  rw [Bool.eq_iff_iff]
  cases i
  cases j
  simp
section
variable {X : Cx} {a b c : Expr} {ta tb tc : TE} {pos : Pos}
theorem fin_bl {pins : List (Addr × Obj)} {σ : St} {H : Hp} {s : Shared} {Q : VK} {k k' : Bool} (I : Inv X pins σ H s) (q : Q (.bl k) H) (e : k = k') : EP X pins σ Q (.bool k') s := by
  subst e
  exact ⟨.bl k, H, I, rfl, q⟩
theorem op_eq : OpR X (compareOp .Eq) rEq := by
  intro pins s σ H x y v u Q I rx ry h
  obtain ⟨hs, q⟩ := h
  cases x with
  | non =>
    cases rx
    cases y with
    | non => cases ry; exact PySem.EqNone.eq_none_none (fin_bl I q (by simp))
    | bl j => cases ry; exact PySem.EqNone.eq_none_bool (fin_bl I q (by simp))
    | int j => obtain ⟨t', rfl⟩ := ry; exact PySem.EqNone.eq_none_int (fin_bl I q (by simp))
    | str j => obtain ⟨t', rfl⟩ := ry; exact PySem.EqNone.eq_none_str (fin_bl I q (by simp))
    | _ => exact absurd (show false = true from hs) Bool.false_ne_true
  | bl i =>
    cases rx
    cases y with
    | non => cases ry; exact PySem.EqNone.eq_bool_none (fin_bl I q (by simp))
    | bl j => cases ry; exact eq_bool (fin_bl I q dec_bl)
    | str j => obtain ⟨t', rfl⟩ := ry; exact PySem.EqMixed.eq_bool_str (fin_bl I q (by simp))
    | _ => exact absurd (show false = true from hs) Bool.false_ne_true
  | int i =>
    obtain ⟨t, rfl⟩ := rx
    cases y with
    | non => cases ry; exact PySem.EqNone.eq_int_none (fin_bl I q (by simp))
    | int j => obtain ⟨t', rfl⟩ := ry; exact eq_int (fin_bl I q dec_int)
    | str j => obtain ⟨t', rfl⟩ := ry; exact PySem.EqMixed.eq_int_str (fin_bl I q (by simp))
    | _ => exact absurd (show false = true from hs) Bool.false_ne_true
  | str i =>
    obtain ⟨t, rfl⟩ := rx
    cases y with
    | non => cases ry; exact PySem.EqNone.eq_str_none (fin_bl I q (by simp))
    | bl j => cases ry; exact PySem.EqMixed.eq_str_bool (fin_bl I q (by simp))
    | int j => obtain ⟨t', rfl⟩ := ry; exact PySem.EqMixed.eq_str_int (fin_bl I q (by simp))
    | str j => obtain ⟨t', rfl⟩ := ry; exact eq_str (fin_bl I q dec_str)
    | _ => exact absurd (show false = true from hs) Bool.false_ne_true
  | byt i =>
    obtain ⟨t, rfl⟩ := rx
    cases y with
    | byt j => obtain ⟨t', rfl⟩ := ry; exact PySem.W.eq_bytes (fin_bl I q dec_byt)
    | _ => exact absurd (show false = true from hs) Bool.false_ne_true
  | _ => cases y <;> exact absurd (show false = true from hs) Bool.false_ne_true
theorem op_ne : OpR X (compareOp .NotEq) rNe := by
  intro pins s σ H x y v u Q I rx ry h
  obtain ⟨hs, q⟩ := h
  cases x with
  | non =>
    cases rx
    cases y with
    | non => cases ry; exact PySem.EqNone.ne_none_none (fin_bl I q (by simp))
    | bl j => cases ry; exact PySem.EqNone.ne_none_bool (fin_bl I q (by simp))
    | int j => obtain ⟨t', rfl⟩ := ry; exact PySem.EqNone.ne_none_int (fin_bl I q (by simp))
    | str j => obtain ⟨t', rfl⟩ := ry; exact PySem.EqNone.ne_none_str (fin_bl I q (by simp))
    | _ => exact absurd (show false = true from hs) Bool.false_ne_true
  | bl i =>
    cases rx
    cases y with
    | non => cases ry; exact PySem.EqNone.ne_bool_none (fin_bl I q (by simp))
    | bl j => cases ry; exact ne_bool (fin_bl I q (congrArg not dec_bl))
    | str j => obtain ⟨t', rfl⟩ := ry; exact PySem.EqMixed.ne_bool_str (fin_bl I q (by simp))
    | _ => exact absurd (show false = true from hs) Bool.false_ne_true
  | int i =>
    obtain ⟨t, rfl⟩ := rx
    cases y with
    | non => cases ry; exact PySem.EqNone.ne_int_none (fin_bl I q (by simp))
    | int j => obtain ⟨t', rfl⟩ := ry; exact ne_int (fin_bl I q (congrArg not dec_int))
    | str j => obtain ⟨t', rfl⟩ := ry; exact PySem.EqMixed.ne_int_str (fin_bl I q (by simp))
    | _ => exact absurd (show false = true from hs) Bool.false_ne_true
  | str i =>
    obtain ⟨t, rfl⟩ := rx
    cases y with
    | non => cases ry; exact PySem.EqNone.ne_str_none (fin_bl I q (by simp))
    | bl j => cases ry; exact PySem.EqMixed.ne_str_bool (fin_bl I q (by simp))
    | int j => obtain ⟨t', rfl⟩ := ry; exact PySem.EqMixed.ne_str_int (fin_bl I q (by simp))
    | str j => obtain ⟨t', rfl⟩ := ry; exact ne_str (fin_bl I q (congrArg not dec_str))
    | _ => exact absurd (show false = true from hs) Bool.false_ne_true
  | byt i =>
    obtain ⟨t, rfl⟩ := rx
    cases y with
    | byt j => obtain ⟨t', rfl⟩ := ry; exact PySem.W.ne_bytes (fin_bl I q (congrArg not dec_byt))
    | _ => exact absurd (show false = true from hs) Bool.false_ne_true
  | _ => cases y <;> exact absurd (show false = true from hs) Bool.false_ne_true
theorem op_lt : OpR X (compareOp .Lt) (rI0 fun i j => .bl (decide (i < j))) := opB0 fun _ _ _ _ _ _ _ q => lt_int q
theorem op_gt : OpR X (compareOp .Gt) (rI0 fun i j => .bl (decide (j < i))) := opB0 fun _ _ _ _ _ _ _ q => gt_int q
theorem op_isN : OpR X (compareOp .Is) (fun x y H Q => y = .non ∧ Q (.bl (decide (x = .non))) H) := by
  intro pins s σ H x y v u Q I rx ry h
  obtain ⟨rfl, q⟩ := h
  cases ry
  refine is_none_gen (fin_bl I q ?_)
  cases x <;> first
    | (cases rx; rfl)
    | (obtain ⟨t, rfl⟩ := rx; rfl)
theorem OpR.or {f : Value → Value → Sem Value} {r r' : R2} (h : OpR X f r) (h' : OpR X f r') : OpR X f (fun x y H Q => r x y H Q ∨ r' x y H Q) := by
  intro pins s σ H x y v u Q I rx ry q
  rcases q with q | q
  · exact h pins s σ H x y v u Q I rx ry q
  · exact h' pins s σ H x y v u Q I rx ry q
theorem nomark (b : Expr) {op : CmpOp} (h : op ≠ .In := by decide) (h2 : op ≠ .NotIn := by decide) : behindInMarks op b = false := by
  have e1 : (op == CmpOp.In) = false := by cases op <;> first | rfl | exact absurd rfl h
  have e2 : (op == CmpOp.NotIn) = false := by cases op <;> first | rfl | exact absurd rfl h2
  cases b <;> simp [behindInMarks, e1, e2]
theorem pe_cmpR {op : CmpOp} {r : R2} (ho : OpR X (compareOp op) r) (ha : PE X a ta) (hb : PE X b tb) (hm : behindInMarks op b = false) : PE X (.Compare a [op] [b] pos) (tOp r ta tb) := by
  intro pins s σ H Q I h
  exact wpAny_Compare1 (binT ha hb I h fun v u s2 x y H2 I2 rx ry q => ho pins s2 σ H2 x y v u Q I2 rx ry q) hm
def tTest (t : TE) : TT := fun σ H Q => t σ H fun x H' => ∃ k, x = .bl k ∧ Q k H'
theorem pt_cmpR {op : CmpOp} {r : R2} (ho : OpR X (compareOp op) r) (ha : PE X a ta) (hb : PE X b tb) (hm : behindInMarks op b = false) : PT X (.Compare a [op] [b] pos) (tTest (tOp r ta tb)) := by
  intro pins s σ H Q I h
  refine wpAny_isTrue_Compare1 (thn (ha pins s σ H _ I h) fun v s1 ⟨x, H1, I1, r1, q1⟩ => thn (hb pins s1 σ H1 _ I1 q1) fun u s2 ⟨y, H2, I2, r2, q2⟩ =>
    thn (ho pins s2 σ H2 x y v u _ I2 r1 r2 q2) fun c s3 ⟨z, H3, I3, r3, k, e, q3⟩ => ?_) hm
  subst e
  cases r3
  exact wpAny_truthy_bool ⟨H3, I3, q3⟩
def TruV (K : PySem.W.Frag) (x : V) (H : Hp) (k : Bool) : Prop :=
  match x with
  | .non => k = false
  | .bl b => k = b
  | .int i => k = (i != 0)
  | .str y => y.length ≤ sizeLine ∧ k = ((y.length : Int) != 0)
  | .byt y => y.size ≤ sizeLine ∧ k = ((y.size : Int) != 0)
  | .ref p => (∃ xs, SqL K H p xs ∧ k = !xs.isEmpty) ∨ (∃ xs, SqT K H p xs ∧ k = !xs.isEmpty) ∨ ∃ kvs, H p = some (.dK kvs) ∧ k = !kvs.isEmpty
  | _ => False
theorem isEmpty_kv {κ : Type} {kvs : List (κ × V)} {vs : List (κ × Value)} (r : KV kvs vs) : (!vs.isEmpty) = !kvs.isEmpty := by
  cases r <;> rfl
theorem isEmpty_of {xs : List V} {its : List Value} (r : Vals xs its) : (!its.toArray.isEmpty) = !xs.isEmpty := by
  cases r <;> simp
theorem line63 : (sizeLine : Nat) < 2 ^ 63 := by rw [sizeLine_eq]; decide
theorem tru_ok : TruR X (fun x H Q => ∃ k, TruV X.K x H k ∧ Q k H) := by
  intro pins s σ H x v Q I rx h
  obtain ⟨k, e, q⟩ := h
  have hl := line63
  have hs : sizeLine = 16777216 := sizeLine_eq
  cases x with
  | non =>
    cases rx
    have e' : k = false := e
    subst e'
    exact truthy_none ⟨H, I, q⟩
  | bl b =>
    cases rx
    have e' : k = b := e
    subst e'
    exact wpAny_truthy_bool ⟨H, I, q⟩
  | int i =>
    obtain ⟨t, rfl⟩ := rx
    have e' : k = (i != 0) := e
    subst e'
    exact PySem.P.truthy_int ⟨H, I, q⟩
  | str y =>
    obtain ⟨t, rfl⟩ := rx
    obtain ⟨hy, e'⟩ : y.length ≤ sizeLine ∧ k = ((y.length : Int) != 0) := e
    subst e'
    exact PySem.P.truthy_str (by omega) ⟨H, I.tok _, q⟩
  | byt y =>
    obtain ⟨t, rfl⟩ := rx
    obtain ⟨hy, e'⟩ : y.size ≤ sizeLine ∧ k = ((y.size : Int) != 0) := e
    subst e'
    exact PySem.W.truthy_bytes (by omega) ⟨H, I.tok _, q⟩
  | ref p =>
    cases rx
    have e' : (∃ xs, SqL X.K H p xs ∧ k = !xs.isEmpty) ∨ (∃ xs, SqT X.K H p xs ∧ k = !xs.isEmpty) ∨ ∃ kvs, H p = some (.dK kvs) ∧ k = !kvs.isEmpty := e
    rcases e' with ⟨xs, hx, e'⟩ | ⟨xs, hx, e'⟩ | ⟨kvs, hx, e'⟩
    · subst e'
      obtain ⟨its, r, pl, hz⟩ := I.list hx
      have hlen := r.length
      exact wpAny_truthy_list pl.isList (by simp only [List.size_toArray]; omega) ⟨H, I.tok _, by rw [isEmpty_of r]; exact q⟩
    · subst e'
      obtain ⟨its, r, pl, hz⟩ := I.tuple hx
      have hlen := r.length
      exact truthy_tuple pl (by simp only [List.size_toArray]; omega) ⟨H, I.tok _, by rw [isEmpty_of r]; exact q⟩
    · subst e'
      obtain ⟨hz, hS, vs, r, m⟩ : kvs.length ≤ sizeLine ∧ (p == sysModules) = false ∧ ∃ vs, KV kvs vs ∧ s.heap.DictOf (mixKind X.prog X.w) p vs := I.hok p _ hx
      have hlen : kvs.length = vs.length := Paired.length r
      exact wpAny_truthy_dict hS m (by omega) ⟨H, I.tok _, by rw [isEmpty_kv r]; exact q⟩
  | _ => exact (show False from e).elim
theorem op_add_str : OpR X (binaryOp .Add) (fun x y H Q => ∃ i j, x = .str i ∧ y = .str j ∧ i.length + j.length ≤ sizeLine ∧ Q (.str (i ++ j)) H) := by
  intro pins s σ H x y v u Q I rx ry h
  obtain ⟨i, j, rfl, rfl, hz, q⟩ := h
  obtain ⟨t, rfl⟩ := rx
  obtain ⟨t', rfl⟩ := ry
  exact add_str (fun t' tk => ⟨.str (i ++ j), H, I.tok _, ⟨_, rfl⟩, q⟩) hz
theorem vals1 {x : V} {us : List Value} (r : Vals [x] us) : ∃ u, us = [u] ∧ RelV x u := by
  cases r with
  | cons r1 r2 => cases r2; exact ⟨_, rfl, r1⟩
theorem vals2 {x y : V} {us : List Value} (r : Vals [x, y] us) : ∃ u w', us = [u, w'] ∧ RelV x u ∧ RelV y w' := by
  cases r with
  | cons r1 r2 =>
    cases r2 with
    | cons r3 r4 => cases r4; exact ⟨_, _, rfl, r1, r3⟩
theorem call_min2 (hc : X.calm = true) : CallR X (.builtin "min") (fun xs H Q => ∃ i j, xs = [.int i, .int j] ∧ Q (.int (if j < i then j else i)) H) := by
  intro pins s σ H xs us Q I r h
  obtain ⟨i, j, rfl, q⟩ := h
  obtain ⟨u, w', rfl, ⟨t, rfl⟩, ⟨t', rfl⟩⟩ := vals2 r
  refine min_two_ints (I.ok.hd hc) fun h' tk k => ⟨_, H, I.kept k, ?_, q⟩
  by_cases hj : j < i
  · rw [if_pos hj, if_pos hj]; exact ⟨_, rfl⟩
  · rw [if_neg hj, if_neg hj]; exact ⟨_, rfl⟩
def LenV (K : PySem.W.Frag) (x : V) (H : Hp) (n : Nat) : Prop :=
  match x with
  | .str y => y.length ≤ sizeLine ∧ n = y.length
  | .byt y => y.size ≤ sizeLine ∧ n = y.size
  | .ref p => (∃ xs, SqL K H p xs ∧ n = xs.length) ∨ ∃ xs, SqT K H p xs ∧ n = xs.length
  | _ => False
theorem call_len : CallR X (.builtin "len") (fun xs H Q => ∃ x n, xs = [x] ∧ LenV X.K x H n ∧ Q (.int n) H) := by
  intro pins s σ H xs us Q I r h
  obtain ⟨x, n, rfl, e, q⟩ := h
  obtain ⟨u, rfl, rx⟩ := vals1 r
  have hl := line63
  have hs : sizeLine = 16777216 := sizeLine_eq
  cases x with
  | str y =>
    obtain ⟨t, rfl⟩ := rx
    obtain ⟨hy, e'⟩ : y.length ≤ sizeLine ∧ n = y.length := e
    subst e'
    exact len_str (by omega) ⟨.int _, H, I.tok _, ⟨_, rfl⟩, q⟩
  | byt y =>
    obtain ⟨t, rfl⟩ := rx
    obtain ⟨hy, e'⟩ : y.size ≤ sizeLine ∧ n = y.size := e
    subst e'
    exact PySem.W.len_bytes (by omega) ⟨.int _, H, I.tok _, ⟨_, rfl⟩, q⟩
  | ref p =>
    cases rx
    have e' : (∃ xs, SqL X.K H p xs ∧ n = xs.length) ∨ ∃ xs, SqT X.K H p xs ∧ n = xs.length := e
    rcases e' with ⟨xs, hx, e'⟩ | ⟨xs, hx, e'⟩
    · subst e'
      obtain ⟨its, r', pl, hz⟩ := I.list hx
      have hlen := r'.length
      exact Calls.call_len_list pl.isList (by simp only [List.size_toArray]; omega) ⟨.int xs.length, H, I.tok _, ⟨_, by simp only [List.size_toArray]; rw [hlen]⟩, q⟩
    · subst e'
      obtain ⟨its, r', pl, hz⟩ := I.tuple hx
      have hlen := r'.length
      exact len_tuple pl (by simp only [List.size_toArray]; omega) ⟨.int xs.length, H, I.tok _, ⟨_, by simp only [List.size_toArray]; rw [hlen]⟩, q⟩
  | _ => exact (show False from e).elim
end
structure ObjM (h : Heap) (x dx C : Addr) (mA : Str → Option Value) : Prop where
  obj : h.get? x = some (PySem.W.instObj C dx)
  ns : h.Ns1 dx mA
  ne : dx ≠ x
theorem lookIn_ns {h : Heap} {dx : Addr} {mA : Str → Option Value} (n : h.Ns1 dx mA) : ∃ od, h.get? dx = some od ∧ ∀ name, PySem.W.lookIn name od = some (mA name) := by
  obtain ⟨o, es, ep, ho, hd, hk, _, hm⟩ := n
  refine ⟨o, ho, fun name => ?_⟩
  have e := hm name
  unfold nsFind findBy at e
  rw [← Array.find?_toList] at e
  unfold PySem.W.lookIn
  rw [hd]
  dsimp only
  split
  · rename_i y q
    rw [q] at e
    exact congrArg some e
  · rename_i q
    rw [q] at e
    have a : es.toList.any (·.refKey) = false := by
      rw [List.any_eq_false]
      intro y hy
      obtain ⟨z, t, hkey⟩ := hk y (Array.mem_toList_iff.mp hy)
      simp [DictEntry.refKey, hkey]
    have a' : ¬ es.toList.any (·.refKey) = true := by rw [a]; exact Bool.false_ne_true
    rw [if_neg a']
    exact congrArg some e
theorem ObjM.look {h : Heap} {x dx C : Addr} {mA : Str → Option Value} (I : ObjM h x dx C mA) : ∃ od, PySem.W.InstAt h x (PySem.W.instObj C dx) C (some od) ∧ ∀ name, PySem.W.lookIn name od = some (mA name) :=
  let ⟨od, ho, hl⟩ := lookIn_ns I.ns
  ⟨od, ⟨I.obj, rfl, rfl, ho⟩, hl⟩
section
variable {prog : Program} {w : World} {A : Around} {E : Value → Shared → Prop} {s : Shared} {K : PySem.W.Frag} {x dx C f : Addr} {mA : Str → Option Value} {name : Str} {v : Value}
end
theorem RelO.some_of {v : V} {o : Option Value} (r : RelO (some v) o) : ∃ u, o = some u ∧ RelV v u := by
  cases o with
  | none => exact (show False from r).elim
  | some u => exact ⟨u, rfl, r⟩
section
variable {P : Program} {w : World} {H H' : Hp} {h h' : Heap} {a C dx : Addr} {fs fs' : List (Str × V)}
theorem ins_get (hok : HOk P w H h) (e : H a = some (.ins C dx fs)) : ∃ mA, ObjM h a dx C mA ∧ (∀ f, RelO (fs.lookup f) (mA f)) ∧ PySem.Within mA (fs.map (·.1)) ∧ fs.length ≤ 1000 ∧ H dx = some (.own a) := by
  obtain ⟨d, z, ne, ob, mA, n, r, q⟩ := (show ObjOk P w H h a (.ins C dx fs) from hok a _ e)
  exact ⟨mA, ⟨ob, n, ne⟩, r, q, z, d⟩
end
structure Cls (K : PySem.W.Frag) (C : Addr) : Prop where
  pg : PySem.W.plainGet K C Str.empty = true
  hd : PySem.W.hasDictIn K C = true
  po : PySem.W.plainOver K C = true
  sa : PySem.W.findIn K (.ref C) "__setattr__" = some (some (.builtin "object.__setattr__"))
theorem Cls.get {K : PySem.W.Frag} {C : Addr} (c : Cls K C) (f : Str) : PySem.W.plainGet K C f = true := c.pg
section
variable {X : Cx} {pins : List (Addr × Obj)} {σ : St} {H : Hp} {s : Shared} {a C dx : Addr} {fs : List (Str × V)} {f : Str} {v : V} {A : Around} {E : Value → Shared → Prop}
end
section
variable {X : Cx} {o e value : Expr} {f : Str} {pos pos' tpos : Pos} {ta tv : TE}
end
section
variable {X : Cx} {pins : List (Addr × Obj)} {σ : St} {H : Hp} {s : Shared} {A : Around} {E : Value → Shared → Prop} {Q : Value → Shared → Prop} {c : Value} {b : Bool}
inductive TyOf (K : PySem.W.Frag) (H : Hp) : V → Value → Prop where
  | non : TyOf K H .non (.type "NoneType")
  | bl (x : Bool) : TyOf K H (.bl x) (.type "bool")
  | int (i : Int) : TyOf K H (.int i) (.type "int")
  | str (x : Str) : TyOf K H (.str x) (.type "str")
  | flt (x : UInt64) : TyOf K H (.flt x) (.type "float")
  | lst {a : Addr} {xs : List V} (e : H a = some (.lst xs)) : TyOf K H (.ref a) (.type "list")
  | frz {a : Addr} {o : Obj} {xs : List V} (e : H a = some (.frz o (.lst xs))) : TyOf K H (.ref a) (.type "list")
  | tup {a : Addr} {xs : List V} (e : H a = some (.tup xs)) : TyOf K H (.ref a) (.type "tuple")
  | dK {a : Addr} {kvs : List (Key × V)} (e : H a = some (.dK kvs)) : TyOf K H (.ref a) (.type "dict")
  | dT {a : Addr} {kvs : List (List Key × V)} (e : H a = some (.dT kvs)) : TyOf K H (.ref a) (.type "dict")
  | ins {a C dx : Addr} {fs : List (Str × V)} (e : H a = some (.ins C dx fs)) (cl : Cls K C) (ha : PySem.W.findIn K (.ref C) "__class__" = some (some (.builtin "object.__class__")))
      (hn : PySem.W.specialIn K (.builtin "object.__class__") "__get__" = some (some (.builtin "getset_descriptor.__get__"))) (htk : PySem.W.takesIn K (.builtin "object.__class__") = some true)
      (hm : PySem.W.mroIn K C (.type "object") = some true) : TyOf K H (.ref a) (.ref C)
theorem isinst_ok {x : V} {u t : Value} (I : Inv X pins σ H s) (rx : RelV x u) (ty : TyOf X.K H x t) (e : PySem.W.kitOne X.K t c = some b) (h : ∀ tk, Q (.bool b) { s with toks := tk }) :
    wpAny (model X.prog X.w) A (call (.builtin "isinstance") [u, c]) Q E s := by
  cases ty with
  | non => cases (show u = Value.none from rx); exact PySem.W.kia_one PySem.W.kitx_none I.kIn True.intro e (fun z => nomatch z) h
  | bl y => cases (show u = Value.bool y from rx); exact PySem.W.kia_one PySem.W.kitx_bool I.kIn True.intro e (fun z => nomatch z) h
  | int i => obtain ⟨t, q⟩ := (show ∃ t, u = Value.int i t from rx); cases q; exact PySem.W.kia_one PySem.W.kitx_int I.kIn True.intro e (fun z => nomatch z) h
  | str y => obtain ⟨t, q⟩ := (show ∃ t, u = Value.str y t from rx); cases q; exact PySem.W.kia_one PySem.W.kitx_str I.kIn True.intro e (fun z => nomatch z) h
  | flt y => obtain ⟨t, q⟩ := (show ∃ t, u = Value.float y t from rx); cases q; exact PySem.W.kia_one PySem.W.kitx_float I.kIn True.intro e (fun z => nomatch z) h
  | @lst a xs ea =>
    cases (show u = Value.ref a from rx)
    obtain ⟨_, _, n, _, h1⟩ := (show ObjOk X.prog X.w H s.heap a (.lst xs) from I.hok a _ ea)
    exact PySem.W.kia_one PySem.W.kitx_list I.kIn ⟨_, h1, rfl⟩ e (fun z => nomatch z) h
  | @frz a ob xs ea =>
    cases (show u = Value.ref a from rx)
    obtain ⟨_, _, _, n, _, h1⟩ := (show ObjOk X.prog X.w H s.heap a (.frz ob (.lst xs)) from I.hok a _ ea)
    exact PySem.W.kia_one PySem.W.kitx_list I.kIn ⟨_, h1, rfl⟩ e (fun z => nomatch z) h
  | @tup a xs ea =>
    cases (show u = Value.ref a from rx)
    obtain ⟨_, _, _, p, _⟩ := (show ObjOk X.prog X.w H s.heap a (.tup xs) from I.hok a _ ea)
    obtain ⟨o, h1, h2, _⟩ := p
    exact PySem.W.kia_one PySem.W.kitx_tuple I.kIn ⟨o, h1, h2⟩ e (fun z => nomatch z) h
  | @dK a kvs ea =>
    cases (show u = Value.ref a from rx)
    obtain ⟨_, _, vs, _, p⟩ := (show ObjOk X.prog X.w H s.heap a (.dK kvs) from I.hok a _ ea)
    obtain ⟨o, es, ep, h1, h2, _⟩ := p
    exact PySem.W.kia_one PySem.W.kitx_dict I.kIn ⟨o, h1, h2.1⟩ e (fun z => nomatch z) h
  | @dT a kvs ea =>
    cases (show u = Value.ref a from rx)
    obtain ⟨_, _, xs, _, o, es, ep, h1, h2, _⟩ := (show ObjOk X.prog X.w H s.heap a (.dT kvs) from I.hok a _ ea)
    exact PySem.W.kia_one PySem.W.kitx_dict I.kIn ⟨o, h1, h2.1⟩ e (fun z => nomatch z) h
  | @ins a C dx fs ea cl ha hn htk hm =>
    cases (show u = Value.ref a from rx)
    obtain ⟨mA, O, _⟩ := ins_get I.hok ea
    obtain ⟨od, J, _⟩ := O.look
    exact PySem.W.kia_one (PySem.W.kitx_own (cl.get _) cl.hd ha hn htk hm) I.kIn J e (fun z => nomatch z) h
end
structure Room (k : Nat) (A : Around) : Prop where
  hd : A.handled = none
  dp : A.depth + 3 * k + 5 < recursionLimit
  un : A.units + 16 * k + 200 < cLine
theorem Room.mono {j k : Nat} {A : Around} (r : Room k A) (h : j ≤ k) : Room j A := ⟨r.hd, by have := r.dp; omega, by have := r.un; omega⟩
theorem Room.deeper {k : Nat} {A : Around} (r : Room (k + 1) A) (env : Env) : Room k (A.deeper env) :=
  ⟨r.hd, by have := r.dp; show A.depth + 1 + 3 * k + 5 < _; omega, by have := r.un; show A.units + 3 + 16 * k + 200 < _; omega⟩
theorem Room.depth {k : Nat} {A : Around} (r : Room k A) : A.depth < recursionLimit := by have := r.dp; omega
theorem Room.units {k : Nat} {A : Around} (r : Room k A) : A.units + 64 < cLine := by have := r.un; omega
def tNil : TA := fun _ H Q => Q [] H
def tCons (ta : TE) (tr : TA) : TA := fun σ H Q => ta σ H fun x H1 => tr σ H1 fun xs H2 => Q (x :: xs) H2
section
variable {X : Cx} {e : Expr} {es : List Expr} {te : TE} {t : TA} {pos : Pos}
theorem pa_nil : PA X [] tNil := fun _ _ _ _ H Q I h => Calls.spliced_nil ⟨[], H, I, .nil, h⟩
theorem pa_cons (ha : PE X e te) (hr : PA X es t) (hs : starEach (e :: es) X.env = (false, eval e X.env) :: starEach es X.env := by rfl) : PA X (e :: es) (tCons te t) := by
  intro pos pins s σ H Q I h
  rw [hs]
  show wpAny _ _ (spliced ((false, eval e X.env) :: backTo pos (starEach es X.env))) _ _ s
  refine Calls.spliced_cons (thn (ha pins s σ H _ I h) fun u s1 ⟨x, H1, I1, r1, q1⟩ => ?_)
  exact thn (hr pos pins s1 σ H1 _ I1 q1) fun us s2 ⟨xs, H2, I2, r2, q2⟩ => ⟨x :: xs, H2, I2, .cons r1 r2, q2⟩
def tTup (t : TA) : TE := fun σ H Q => t σ H fun xs H1 => xs.length ≤ sizeLine ∧ ∀ p, H1 p = none → Q (.ref p) (upd H1 p (.tup xs))
def tLst (t : TA) : TE := fun σ H Q => t σ H fun xs H1 => xs.length ≤ sizeLine ∧ ∀ p, H1 p = none → Q (.ref p) (upd H1 p (.lst xs))
theorem pe_tup {x1} (h : PA X es t) : PE X (.Tuple es x1 pos) (tTup t) := by
  intro pins s σ H Q I hq
  refine wpAny_Tuple_spliced (thn (h pos pins s σ H _ I hq) fun us s1 ⟨xs, H1, I1, r, z, q⟩ => ⟨by rw [← r.length]; exact z, ?_⟩)
  have hf : H1 s1.heap.objs.size = none := I1.hok.fresh (Nat.le_refl _)
  refine ⟨.ref s1.heap.objs.size, upd H1 s1.heap.objs.size (.tup xs), I1.laid (t' := s1.toks) (fun b u e => Heap.get?_push_of_some _ e) (Nat.le_refl _) ?_, rfl, q _ hf⟩
  exact ⟨z, us, r, ⟨_, Heap.get?_push_size _ rfl, rfl, _, rfl⟩, noD_push rfl rfl⟩
theorem pe_lst (h : PA X es t) : PE X (.List es pos) (tLst t) := by
  intro pins s σ H Q I hq
  refine wpAny_List_spliced (thn (h pos pins s σ H _ I hq) fun us s1 ⟨xs, H1, I1, r, z, q⟩ => ⟨by rw [← r.length]; exact z, ?_⟩)
  have hf : H1 s1.heap.objs.size = none := I1.hok.fresh (Nat.le_refl _)
  refine ⟨.ref s1.heap.objs.size, upd H1 s1.heap.objs.size (.lst xs), I1.laid (t' := s1.toks) (fun b u e => Heap.get?_push_of_some _ e) (Nat.le_refl _) ?_, rfl, q _ hf⟩
  exact ⟨z, us, 0, r, Heap.get?_push_size _ rfl⟩
end
abbrev Sp := List V → Hp → VK → XK → Prop
abbrev CXT := List Env → Hp → Shared → XK → Value → Shared → Prop
structure Env0 (P : Program) (w : World) (K : PySem.W.Frag) (mg : Str → Option Value) (base : Heap) (A : Around) (outer : List Env) (s : Shared) (H : Hp) : Prop where
  frames : A.frames = some outer
  mod : Mod K mg base
  bs : ∀ b o, base.get? b = some o → s.heap.get? b = some o ∧ H b = none
  bsz : base.objs.size ≤ s.heap.objs.size
  funs : s.heap.FunFrames base outer
  frf : ∀ b ∈ frs outer, H b = none
  hok : HOk P w H s.heap
  bare : AllBare s.gens
def CE (outer : List Env) (P : Program) (w : World) (H : Hp) (s : Shared) (Q : VK) (u : Value) (s' : Shared) : Prop :=
  ∃ v H', s'.os = s.os ∧ AllBare s'.gens ∧ Un (frs outer) [] H H' s.heap s'.heap ∧ HOk P w H' s'.heap ∧ RelV v u ∧ Q v H'
def CR (CX : CXT) (outer : List Env) (P : Program) (w : World) (H : Hp) (s : Shared) (Q : VK) (E : XK) (r : Result) (s' : Shared) : Prop :=
  match r with
  | .ok (.ret u) => CE outer P w H s Q u s'
  | .ok _ => False
  | .error e => CX outer H s E e s'
structure FnOk (P : Program) (w : World) (K : PySem.W.Frag) (mg : Str → Option Value) (base : Heap) (CX : CXT) (k : Nat) (f : Addr) (fd : FuncData) (ps : List Str) (sp : Sp) : Prop where
  len : ∀ vs H Q E, sp vs H Q E → vs.length = ps.length
  run : ∀ (A : Around) (outer : List Env) (s : Shared) (H : Hp) (args : Args) (us : List Value) (vs : List V) (Q : VK) (E : XK), Room k A → Env0 P w K mg base A outer s H → BindsTo s fd args (ps.zip us) → Vals vs us → sp vs H Q E →
    codeAny (model P w) A (.call (.ref f) args) (CR CX outer P w H s Q E) s
theorem FnOk.mono {P : Program} {w : World} {K : PySem.W.Frag} {mg : Str → Option Value} {base : Heap} {CX : CXT} {j k : Nat} {f : Addr} {fd : FuncData} {ps : List Str} {sp : Sp} (F : FnOk P w K mg base CX j f fd ps sp) (h : j ≤ k) :
    FnOk P w K mg base CX k f fd ps sp := ⟨F.len, fun A outer s H args us vs Q E hr => F.run A outer s H args us vs Q E (hr.mono h)⟩
section
variable {X : Cx} {pins : List (Addr × Obj)} {σ : St} {H : Hp} {s s' : Shared}
theorem Inv.env0 (I : Inv X pins σ H s) : Env0 X.prog X.w X.K X.mg X.base X.A X.stack s H :=
  ⟨I.ok.frames, I.ok.mod, I.bs, Nat.le_trans I.ok.bsz I.sz, I.stack, I.stkFree, I.hok, I.bare⟩
theorem Inv.after {Q : VK} {u : Value} (I : Inv X pins σ H s) (h : CE X.stack X.prog X.w H s Q u s') : EP X pins σ Q u s' := by
  obtain ⟨v, H', os, bare, un, hok, r, q⟩ := h
  obtain ⟨hh, g, d, t, os'⟩ := s'
  obtain rfl : os' = s.os := os
  exact ⟨v, H', I.call (h' := hh) (g' := g) (d' := d) (t' := t) (ch := []) un hok bare (fun b z => absurd z (by simp)), r, q⟩
end
def tCall (sp : Sp) (dvs : List V) (E : XK) (t : TA) : TE := fun σ H Q => t σ H fun vs H1 => sp (vs ++ dvs) H1 Q E
def Binds (K : PySem.W.Frag) (fd : FuncData) (ps : List Str) (ds : List Value) : Prop :=
  ∀ (s : Shared) (us : List Value), K.In s.heap → (us ++ ds).length = ps.length → BindsTo s fd ⟨us, []⟩ (ps.zip (us ++ ds))
theorem Binds.all {K : PySem.W.Frag} {fd : FuncData} {ps : List Str} (h : ∀ us : List Value, us.length = ps.length → bindArgs fd ⟨us, []⟩ = pure (ps.zip us)) : Binds K fd ps [] := fun s us _ hl => by
  rw [List.append_nil] at hl ⊢
  exact .of_eq (h us hl)
def Passes (CX : CXT) (X : Cx) (E : XK) : Prop := ∀ (pins : List (Addr × Obj)) (σ : St) (H : Hp) (s : Shared) (e : Value) (s' : Shared), Inv X pins σ H s → CX X.stack H s E e s' → X.xe e s'
section
variable {X : Cx} {CX : CXT} {k : Nat} {f C : Addr} {fd : FuncData} {ps : List Str} {sp : Sp} {dvs : List V} {ds : List Value} {E : XK} {x m : Str} {p pos apos : Pos} {e o : Expr} {es : List Expr} {ta : TE} {t : TA}
theorem run_fn {pins : List (Addr × Obj)} {σ : St} {H : Hp} {s : Shared} {Q : VK} {us : List Value} {vs : List V} (F : FnOk X.prog X.w X.K X.mg X.base CX k f fd ps sp) (hr : Room k X.A) (hb : Binds X.K fd ps ds) (hd : Vals dvs ds) (hx : Passes CX X E)
    (I : Inv X pins σ H s) (r : Vals vs us) (h : sp (vs ++ dvs) H Q E) : wpAny (model X.prog X.w) X.A (call (.ref f) us) (EP X pins σ Q) X.xe s := by
  have r2 : Vals (vs ++ dvs) (us ++ ds) := r.append hd
  have hl : (us ++ ds).length = ps.length := by rw [← r2.length]; exact F.len _ _ _ _ h
  refine wpAny_call (codeAny_mono (F.run X.A X.stack s H ⟨us, []⟩ (us ++ ds) (vs ++ dvs) Q E hr I.env0 (hb s us I.kIn hl) r2 h) fun r s' hq => ?_)
  cases r with
  | error e => exact hx pins σ H s e s' I hq
  | ok fl =>
    cases fl with
    | ret u => exact I.after hq
    | next => exact False.elim hq
    | brk => exact False.elim hq
    | cont => exact False.elim hq
theorem pe_call (F : FnOk X.prog X.w X.K X.mg X.base CX k f fd ps sp) (hr : Room k X.A) (hg : Gl X x) (hm : X.mg x = some (.ref f)) (hk : PySem.W.keepIn X.K (.ref f) = true) (hb : Binds X.K fd ps ds) (hd : Vals dvs ds) (hx : Passes CX X E)
    (ha : PA X (e :: es) t) (hdb : (x == ("__debug__" : Str)) = false := by decide) (he : starEach (e :: es) X.env = (false, eval e X.env) :: starEach es X.env := by rfl) (hpl : (backTo pos (starEach es X.env)).any (·.1) = false := by rfl) :
    PE X (.Call (.Name x p) (e :: es) [] pos) (tCall sp dvs E t) := by
  intro pins s σ H Q I h
  refine wpAny_Call_Name_kw (ld_glob I hg hm ?_ hdb)
  refine PySem.W.callWith_K (h₀ := X.base) I.ok.mod.kin hk (thn (ha pos pins s σ H _ I h) fun us s1 ⟨vs, H1, I1, r, q⟩ => ⟨I1.kIn, ?_⟩) he hpl
  exact run_fn F hr hb hd hx I1 r q
end
section
variable {X : Cx} {CX : CXT} {k : Nat} {f C : Addr} {fd : FuncData} {ps ks : List Str} {sp : Sp} {E : XK} {x m : Str} {p pos apos kpos : Pos} {e o : Expr} {es : List Expr} {kws : List Keyword} {te ta : TE} {t tk : TA} {nm : Option Str}
variable {g : List Value → List Value → List Value} {gV : List V → List V → List V}
end
structure FnScope (N P : List Str) (sc : Scope) : Prop where
  kind : sc.kind = .function
  co : sc.isCoroutine = false
  gen : sc.isGenerator = false
  nd : N.Nodup
  pre : N.take P.length = P
  par : ∀ x ∈ P, sc.names.lookup x = some .local ∨ sc.names.lookup x = some .cell
  nofree : ∀ y ∈ sc.names, y.2 ≠ .free
theorem bindL_out {kindOf : Str → Option NameKind} {x : Str} : ∀ {binds : List (Str × Value)} {m : Str → Option Value}, (∀ v, (x, v) ∉ binds) → bindL kindOf binds m x = m x
  | [], _, _ => rfl
  | (n, v) :: r, m, h => by
    unfold bindL
    rw [bindL_out fun w hw => h w (List.mem_cons_of_mem _ hw)]
    split
    · have : x ≠ n := by rintro rfl; exact h v List.mem_cons_self
      simp [this]
    · rfl
theorem bindC_out {kindOf : Str → Option NameKind} {x : Str} : ∀ {binds : List (Str × Value)} {m : Str → Option Value}, (∀ v, (x, v) ∉ binds) → bindC kindOf binds m x = m x
  | [], _, _ => rfl
  | (n, v) :: r, m, h => by
    unfold bindC
    rw [bindC_out fun w hw => h w (List.mem_cons_of_mem _ hw)]
    split
    · rfl
    · have : x ≠ n := by rintro rfl; exact h v List.mem_cons_self
      simp [this]
theorem bindL_get {kindOf : Str → Option NameKind} {x : Str} {v : Value} : ∀ {P : List Str} {vs : List Value} {i : Nat} {m : Str → Option Value}, P.Nodup → P[i]? = some x → vs[i]? = some v → kindOf x = some .local →
    bindL kindOf (P.zip vs) m x = some v
  | [], _, _, _, _, h, _, _ => by simp at h
  | _ :: _, [], _, _, _, _, h, _ => by simp at h
  | p :: P, w :: vs, 0, m, nd, h1, h2, hk => by
    simp at h1 h2; subst h1; subst h2
    show bindL kindOf ((p, w) :: P.zip vs) m p = _
    unfold bindL
    rw [bindL_out fun v hv => (List.nodup_cons.mp nd).1 (List.of_mem_zip hv).1, if_pos hk]
    simp
  | p :: P, w :: vs, i + 1, m, nd, h1, h2, hk => by
    show bindL kindOf ((p, w) :: P.zip vs) m x = _
    unfold bindL
    exact bindL_get (i := i) (List.nodup_cons.mp nd).2 (by simpa using h1) (by simpa using h2) hk
theorem bindC_get {kindOf : Str → Option NameKind} {x : Str} {v : Value} : ∀ {P : List Str} {vs : List Value} {i : Nat} {m : Str → Option Value}, P.Nodup → P[i]? = some x → vs[i]? = some v → kindOf x ≠ some .local →
    bindC kindOf (P.zip vs) m x = some v
  | [], _, _, _, _, h, _, _ => by simp at h
  | _ :: _, [], _, _, _, _, h, _ => by simp at h
  | p :: P, w :: vs, 0, m, nd, h1, h2, hk => by
    simp at h1 h2; subst h1; subst h2
    show bindC kindOf ((p, w) :: P.zip vs) m p = _
    unfold bindC
    rw [bindC_out fun v hv => (List.nodup_cons.mp nd).1 (List.of_mem_zip hv).1, if_neg hk]
    simp
  | p :: P, w :: vs, i + 1, m, nd, h1, h2, hk => by
    show bindC kindOf ((p, w) :: P.zip vs) m x = _
    unfold bindC
    exact bindC_get (i := i) (List.nodup_cons.mp nd).2 (by simpa using h1) (by simpa using h2) hk
noncomputable def start (N : List Str) (vs : List V) : St := vs.map some ++ List.replicate (N.length - vs.length) none
noncomputable def cxOf (CX : CXT) (P : Program) (w : World) (K : PySem.W.Frag) (mg : Str → Option Value) (base : Heap) (N : List Str) (qual : Str) (scope : Scope) (f : Addr) (cd : Value) (A : Around) (outer : List Env) (s : Shared) (H : Hp) (E : XK) : Cx where
  prog := P
  w := w
  K := K
  mg := mg
  base := base
  A := A.deeper (envOfC qual scope s.heap.objs.size f cd)
  N := N
  s₀ := s
  H₀ := H
  env := envOfC qual scope s.heap.objs.size f cd
  outer := outer
  stack := envOfC qual scope s.heap.objs.size f cd :: outer
  ex := []
  calm := true
  fn := fun _ => true
  pn := []
  xe := fun e s' => wpAny (model P w) (A.deeper (envOfC qual scope s.heap.objs.size f cd)) (leaving (envOfC qual scope s.heap.objs.size f cd) e) (fun _ s'' => CX outer H s E e s'') (fun e' s'' => CX outer H s E e' s'') s'
theorem cell_has {sc : Scope} {n : Nat} {x : Str} (h : sc.names.lookup x = some .cell) : ∃ c, (cellsFrom n sc.names []).lookup x = some c := by
  have q := PySem.W.cellsFrom_some sc.names n [] (.inl h)
  exact Option.isSome_iff_exists.mp q
theorem inv_start {CX : CXT} {P : Program} {w : World} {K : PySem.W.Frag} {mg : Str → Option Value} {base : Heap} {N ps : List Str} {qual : Str} {scope : Scope} {f : Addr} {cd : Value} {A : Around} {outer : List Env} {s s1 : Shared} {H : Hp} {E : XK} {us : List Value} {vs : List V}
    (S : FnScope N ps scope) (hd : A.handled = none) (e0 : Env0 P w K mg base A outer s H) (hl : vs.length = ps.length) (r : Vals vs us)
    (x : InCallC s s.heap.objs.size (bindL (envOfC qual scope s.heap.objs.size f cd).kindOf (ps.zip us) fun _ => none) (cellsFrom (s.heap.objs.size + 1) scope.names []) (bindC (envOfC qual scope s.heap.objs.size f cd).kindOf (ps.zip us) fun _ => none) s1) :
    Inv (cxOf CX P w K mg base N qual scope f cd A outer s H E) [] (start N vs) H s1 := by
  have hpl : ps.length ≤ N.length := by have := congrArg List.length S.pre; rw [List.length_take] at this; omega
  obtain ⟨h1, tk, rfl, hk⟩ := x.done
  have noA : ∀ b : Addr, b ∉ (cxOf CX P w K mg base N qual scope f cd A outer s H E).ex := fun b z => absurd (show b ∈ ([] : List Addr) from z) (by simp)
  refine ⟨⟨e0.mod, S.kind, rfl, rfl, Nat.le_refl _, fun y z c h1 h2 => ?_, fun y hy => ?_, fun y c _ h => ?_, fun _ => hd, Around.frames_deeper e0.frames, .inr ⟨rfl, rfl⟩, fun b z => absurd z (noA b), e0.bs, e0.bsz, fun b _ _ => noA b, fun b z => absurd z (noA b), e0.funs, e0.frf⟩,
    rfl, e0.bare, Un.kept hk, ⟨_, x.toInCall.ns, fun i y v h1 h2 h3 => ?_⟩, fun y c h => ⟨_, x.cell y c h⟩, e0.hok.fresh (Nat.le_refl _), fun y c h => ?_, fun p hp => absurd (show p ∈ ([] : List (Addr × Obj)) from hp) (by simp), e0.hok.kept hk, ?_⟩
  · exact name_of_addr x.apart (PySem.mem_of_lookup h1) (PySem.mem_of_lookup h2)
  · have hy : scope.names.lookup y = some .cell ∨ scope.names.lookup y = some .free := hy
    rcases hy with hy | hy
    · exact cell_has hy
    · exact absurd rfl (S.nofree _ (PySem.mem_of_lookup hy))
  · exact Nat.le_of_lt (x.above y c (PySem.mem_of_lookup h))
  · have hi : i < vs.length := by
      unfold start at h2
      by_cases hi : i < vs.length
      · exact hi
      · rw [List.getElem?_append_right (by simpa using hi)] at h2
        rw [List.getElem?_replicate] at h2
        split at h2 <;> cases h2
    have ha : vs[i]? = some v := by
      unfold start at h2
      rw [List.getElem?_append_left (by simpa using hi), List.getElem?_map] at h2
      cases e : vs[i]? with
      | none => rw [e] at h2; cases h2
      | some a => rw [e] at h2; cases h2; rfl
    obtain ⟨u, hu, rv⟩ := r.get ha
    have hp : ps[i]? = some y := by
      rw [← S.pre, List.getElem?_take_of_lt (by omega)]; exact h1
    have ndP : ps.Nodup := by rw [← S.pre]; exact S.nd.sublist (List.take_sublist _ _)
    refine ⟨u, rv, ?_⟩
    rcases S.par y (List.mem_of_getElem? hp) with k | k
    · exact .inl ⟨k, bindL_get ndP hp hu k⟩
    · obtain ⟨c, e⟩ := cell_has (n := s.heap.objs.size + 1) k
      refine .inr ⟨.inl k, c, e, ?_⟩
      have q := x.cell y c e
      rw [bindC_get ndP hp hu (by show scope.names.lookup y ≠ _; rw [k]; decide)] at q
      exact q
  · exact e0.hok.fresh (Nat.le_of_lt (x.above y c (PySem.mem_of_lookup h)))
  · unfold start
    show _ = N.length
    rw [List.length_append, List.length_map, List.length_replicate]
    omega
theorem fn_of {CX : CXT} {P : Program} {w : World} {K : PySem.W.Frag} {mg : Str → Option Value} {base : Heap} {k : Nat} {f : Addr} {name qual : Str} {params : Arguments} {body : List Stmt} {scope : Scope} {dV kV doc pm cdv ct oc : Value} {an od : Option Addr}
    {osl : Array (Option Value)} {N ps : List Str} {sp : Sp} (lk : K.lookup f = some ⟨oc, od, .func (PySem.W.fnOf name qual params body scope dV kV doc pm an cdv ct), osl⟩) (hcd : PySem.W.codeIn K cdv qual = true) (S : FnScope N ps scope)
    (len : ∀ vs H Q E, sp vs H Q E → vs.length = ps.length)
    (hbody : ∀ (A : Around) (outer : List Env) (s : Shared) (H : Hp) (vs : List V) (Q : VK) (E : XK), Room k (A.deeper (envOfC qual scope s.heap.objs.size f cdv)) → sp vs H Q E →
      ∃ t, PSs (cxOf CX P w K mg base N qual scope f cdv A outer s H E) body t ∧ t { nx := fun _ H' => Q .non H', rt := Q } (start N vs) H) :
    FnOk P w K mg base CX (k + 1) f (PySem.W.fnOf name qual params body scope dV kV doc pm an cdv ct) ps sp := by
  refine ⟨len, fun A outer s H args us vs Q E hr e0 hb r hsp => ?_⟩
  have hl := len _ _ _ _ hsp
  have KX : K.In s.heap := e0.mod.kin.keeps fun b o e => (e0.bs b o e).1
  have lim : s.heap.NoLimit := e0.mod.nolimit.keeps fun b o e => (e0.bs b o e).1
  have hkind : ∀ y ∈ ps.zip us, scope.names.lookup y.1 = some .local ∨ (scope.names.lookup y.1 = some .cell ∧ ((cellsFrom (s.heap.objs.size + 1) scope.names []).lookup y.1).isSome = true) := fun ⟨n, v⟩ hy => by
    rcases S.par n (List.of_mem_zip hy).1 with q | q
    · exact .inl q
    · exact .inr ⟨q, PySem.W.cellsFrom_some _ _ _ (.inl q)⟩
  refine codeAny_call_function hr.depth (KX _ _ lk) rfl S.co S.gen rfl (PySem.W.codeRec_of KX hcd) (hb _ _ _ _ ?_)
  refine wpAny_newFunctionEnv_cells S.kind hkind fun env he s1 x => ?_
  subst he
  refine ⟨lim.keeps x.toInCall.keep, codeAny_func ?_⟩
  obtain ⟨t, ht, hq⟩ := hbody A outer s H vs Q E (hr.deeper _) hsp
  have I : Inv (cxOf CX P w K mg base N qual scope f cdv A outer s H E) [] (start N vs) H s1 := inv_start S hr.hd e0 hl r x
  refine wpAny_mono (ht [] s1 (start N vs) H _ I hq) (fun fl s' hs => ?_) fun e s' hs => hs
  have fin : ∀ {σ' : St} {H' : Hp} {v : V} {u : Value}, Inv (cxOf CX P w K mg base N qual scope f cdv A outer s H E) [] σ' H' s' → RelV v u → Q v H' → CE outer P w H s Q u s' :=
    fun {σ' H' v u} J rv q => ⟨v, H', J.os, J.bare, J.base, J.hok, rv, q⟩
  cases fl with
  | ret u =>
    obtain ⟨v, σ', H', J, rv, q⟩ := hs
    exact fin J rv q
  | next =>
    obtain ⟨σ', H', J, q⟩ := hs
    exact fin (v := V.non) (u := Value.none) J rfl q
  | brk =>
    obtain ⟨_, _, _, q⟩ := hs
    exact False.elim q
  | cont =>
    obtain ⟨_, _, _, q⟩ := hs
    exact False.elim q
section
variable {X : Cx} {x : Str} {p pos : Pos} {e : Expr} {es : List Expr} {t : TA} {id T : String} {r : List V → Hp → VK → Prop}
def tCB (r : List V → Hp → VK → Prop) (t : TA) : TE := fun σ H Q => t σ H fun vs H1 => r vs H1 Q
theorem pe_callB (hc : CallR X (.builtin id) r) (hg : Gl X x) (hm : X.mg x = none) (hv : bootBuiltins x = some (.builtin id)) (ha : PA X (e :: es) t) (hn : x ≠ "__name__" := by decide) (hdb : (x == ("__debug__" : Str)) = false := by decide)
    (he : starEach (e :: es) X.env = (false, eval e X.env) :: starEach es X.env := by rfl) (hpl : (backTo pos (starEach es X.env)).any (·.1) = false := by rfl) : PE X (.Call (.Name x p) (e :: es) [] pos) (tCB r t) := by
  intro pins s σ H Q I h
  refine wpAny_Call_Name_kw (ld_blt I hg hm hv ?_ hn hdb)
  exact PyProof.Rows.callWith_builtin1 (thn (ha pos pins s σ H _ I h) fun us s1 ⟨vs, H1, I1, r1, q1⟩ => hc pins s1 σ H1 vs us Q I1 r1 q1) he hpl
theorem pe_callTy (hc : CallR X (.type T) r) (hg : Gl X x) (hm : X.mg x = none) (hv : bootBuiltins x = some (.type T)) (ha : PA X (e :: es) t) (hn : x ≠ "__name__" := by decide) (hdb : (x == ("__debug__" : Str)) = false := by decide)
    (he : starEach (e :: es) X.env = (false, eval e X.env) :: starEach es X.env := by rfl) (hpl : (backTo pos (starEach es X.env)).any (·.1) = false := by rfl) : PE X (.Call (.Name x p) (e :: es) [] pos) (tCB r t) := by
  intro pins s σ H Q I h
  refine wpAny_Call_Name_kw (ld_blt I hg hm hv ?_ hn hdb)
  exact PyProof.Rows.callWith_type1 (thn (ha pos pins s σ H _ I h) fun us s1 ⟨vs, H1, I1, r1, q1⟩ => hc pins s1 σ H1 vs us Q I1 r1 q1) he hpl
end
section
variable {κ : Type} [DecidableEq κ]
noncomputable def valV (kvs : List (κ × V)) (k : κ) : Option V := (kvs.find? fun kv => decide (kv.1 = k)).map (·.2)
noncomputable def putK (kvs : List (κ × V)) (k : κ) (v : V) : List (κ × V) :=
  if (kvs.any fun kv => decide (kv.1 = k)) = true then kvs.map (fun kv => if kv.1 = k then (kv.1, v) else kv) else kvs ++ [(k, v)]
noncomputable def dropK (kvs : List (κ × V)) (k : κ) : List (κ × V) := kvs.filter fun kv => decide (kv.1 ≠ k)
theorem valV_pos {p : κ × V} {r : List (κ × V)} {k : κ} (e : p.1 = k) : valV (p :: r) k = some p.2 := by simp [valV, List.find?_cons, e]
theorem valV_neg {p : κ × V} {r : List (κ × V)} {k : κ} (e : ¬ p.1 = k) : valV (p :: r) k = valV r k := by simp [valV, List.find?_cons, e]
theorem valV_any (k : κ) : ∀ kvs : List (κ × V), (kvs.any fun kv => decide (kv.1 = k)) = (valV kvs k).isSome
  | [] => rfl
  | p :: r => by
    rw [List.any_cons]
    by_cases e : p.1 = k
    · simp only [valV_pos e, decide_eq_true e, Bool.true_or, Option.isSome_some]
    · rw [valV_neg e, decide_eq_false e, Bool.false_or]; exact valV_any k r
theorem length_putK (kvs : List (κ × V)) (k : κ) (v : V) : (putK kvs k v).length ≤ kvs.length + 1 := by
  unfold putK
  split
  · rw [List.length_map]; omega
  · rw [List.length_append, List.length_cons, List.length_nil]; omega
theorem putK_new {kvs : List (κ × V)} {k : κ} (v : V) (h : valV kvs k = none) : putK kvs k v = kvs ++ [(k, v)] := by
  unfold putK
  rw [valV_any, h]
  exact if_neg (by decide)
theorem RelO.isSome_eq {o : Option V} {u : Option Value} (r : RelO o u) : o.isSome = u.isSome := by
  cases o with
  | none => cases u with
    | none => rfl
    | some _ => exact (show False from r).elim
  | some _ => cases u with
    | none => exact (show False from r).elim
    | some _ => rfl
theorem RelO.getD {o : Option V} {u : Option Value} {d : V} {d' : Value} (r : RelO o u) (rd : RelV d d') : RelV (o.getD d) (u.getD d') := by
  cases o with
  | none => cases u with
    | none => exact rd
    | some _ => exact (show False from r).elim
  | some _ => cases u with
    | none => exact (show False from r).elim
    | some _ => exact r
theorem KV.val {kvs : List (κ × V)} {vs : List (κ × Value)} (r : KV kvs vs) (k : κ) : RelO (valV kvs k) (valueAt vs k) := by
  unfold KV at r
  induction r with
  | nil => exact True.intro
  | @cons p q ps qs h t ih =>
    obtain ⟨h1, h2⟩ := h
    by_cases e : p.1 = k
    · have e' : q.1 = k := h1.symm.trans e
      have b : valueAt (q :: qs) k = some q.2 := by simp [valueAt, List.find?_cons, e']
      rw [valV_pos e, b]; exact h2
    · have e' : ¬ q.1 = k := fun z => e (h1.trans z)
      have b : valueAt (q :: qs) k = valueAt qs k := by simp [valueAt, List.find?_cons, e']
      rw [valV_neg e, b]; exact ih
theorem KV.any {kvs : List (κ × V)} {vs : List (κ × Value)} (r : KV kvs vs) (k : κ) : (kvs.any fun kv => decide (kv.1 = k)) = vs.any fun kv => decide (kv.1 = k) := by
  unfold KV at r
  induction r with
  | nil => rfl
  | cons h t ih => rw [List.any_cons, List.any_cons, ih, h.1]
theorem KV.repl {kvs : List (κ × V)} {vs : List (κ × Value)} (r : KV kvs vs) (k : κ) {y : V} {u : Value} (ry : RelV y u) :
    KV (kvs.map fun kv => if kv.1 = k then (kv.1, y) else kv) (vs.map fun kv => if kv.1 = k then (kv.1, u) else kv) := by
  unfold KV at r ⊢
  induction r with
  | nil => exact .nil
  | @cons p q ps qs h t ih =>
    rw [List.map_cons, List.map_cons]
    refine .cons ?_ ih
    obtain ⟨h1, h2⟩ := h
    by_cases e : p.1 = k
    · rw [if_pos e, if_pos (h1.symm.trans e)]; exact ⟨h1, ry⟩
    · rw [if_neg e, if_neg (fun z => e (h1.trans z))]; exact ⟨h1, h2⟩
theorem KV.put {kvs : List (κ × V)} {vs : List (κ × Value)} (r : KV kvs vs) (k : κ) {y : V} {u : Value} (ry : RelV y u) : KV (putK kvs k y) (stored vs k u) := by
  unfold putK stored
  rw [r.any k]
  by_cases e : (vs.any fun kv => decide (kv.1 = k)) = true
  · rw [if_pos e, if_pos e]; exact r.repl k ry
  · rw [if_neg e, if_neg e]; exact Paired.snoc r ⟨rfl, ry⟩
theorem KV.drop {kvs : List (κ × V)} {vs : List (κ × Value)} (r : KV kvs vs) (k : κ) : KV (dropK kvs k) (without vs k) := by
  unfold KV at r ⊢
  unfold dropK without
  induction r with
  | nil => exact .nil
  | @cons p q ps qs h t ih =>
    obtain ⟨h1, h2⟩ := h
    rw [List.filter_cons, List.filter_cons]
    by_cases e : p.1 = k
    · have a : ¬ decide (p.1 ≠ k) = true := by simp [e]
      have b : ¬ decide (q.1 ≠ k) = true := by simp [h1.symm.trans e]
      rw [if_neg a, if_neg b]; exact ih
    · have e' : ¬ q.1 = k := fun z => e (h1.trans z)
      have a : decide (p.1 ≠ k) = true := by simp [e]
      have b : decide (q.1 ≠ k) = true := by simp [e']
      rw [if_pos a, if_pos b]; exact .cons ⟨h1, h2⟩ ih
theorem KV.keys {kvs : List (κ × V)} {vs : List (κ × Value)} (r : KV kvs vs) : kvs.map (·.1) = vs.map (·.1) := by
  unfold KV at r
  induction r with
  | nil => rfl
  | cons h t ih => rw [List.map_cons, List.map_cons, ih, h.1]
theorem KV.length {kvs : List (κ × V)} {vs : List (κ × Value)} (r : KV kvs vs) : kvs.length = vs.length := Paired.length r
theorem dropK_le (kvs : List (κ × V)) (k : κ) : (dropK kvs k).length ≤ kvs.length := List.length_filter_le _ _
end
theorem kV_is {P : Program} {w : World} {k : Key} {u : Value} (r : RelV (kV k) u) : (mixKind P w).is k u = true := by
  cases k with
  | inl i => obtain ⟨t, e⟩ := (show ∃ t, u = Value.int i t from r); subst e; exact mixKind_int P w i t
  | inr x => obtain ⟨t, e⟩ := (show ∃ t, u = Value.str x t from r); subst e; exact mixKind_str P w x t
theorem items_are {P : Program} {w : World} : ∀ {ks : List Key} {us : List Value}, Vals (ks.map kV) us → ItemsAre (mixKind P w) ks us
  | [], _, r => by rw [List.map_nil] at r; cases r; exact .nil
  | k :: ks, _, r => by
    rw [List.map_cons] at r
    cases r with
    | cons h t => exact .cons (kV_is h) (items_are t)
abbrev KT (H : Hp) : List (List Key × V) → List (List Key × Addr × Value) → Prop := Paired fun p q => p.1 = q.1 ∧ H q.2.1 = some (.tup (p.1.map kV)) ∧ RelV p.2 q.2.2
theorem KT.val {H : Hp} {kvs : List (List Key × V)} {xs : List (List Key × Addr × Value)} (r : KT H kvs xs) (k : List Key) : RelO (valV kvs k) ((atKey xs k).map (·.2)) := by
  induction r with
  | nil => exact True.intro
  | @cons p q ps qs h t ih =>
    obtain ⟨h1, _, h2⟩ := h
    by_cases e : p.1 = k
    · have e' : q.1 = k := h1.symm.trans e
      have b : atKey (q :: qs) k = some q.2 := by simp [atKey, List.find?_cons, e']
      rw [valV_pos e, b]; exact h2
    · have e' : ¬ q.1 = k := fun z => e (h1.trans z)
      have b : atKey (q :: qs) k = atKey qs k := by simp [atKey, List.find?_cons, e']
      rw [valV_neg e, b]; exact ih
theorem KT.repl {H : Hp} {kvs : List (List Key × V)} {xs : List (List Key × Addr × Value)} (r : KT H kvs xs) (k : List Key) {y : V} {u : Value} (ry : RelV y u) :
    KT H (kvs.map fun kv => if kv.1 = k then (kv.1, y) else kv) (xs.map (putAt k u)) := by
  induction r with
  | nil => exact .nil
  | @cons p q ps qs h t ih =>
    rw [List.map_cons, List.map_cons]
    refine .cons ?_ ih
    obtain ⟨h1, h2, h3⟩ := h
    unfold putAt
    by_cases e : p.1 = k
    · rw [if_pos e, if_pos (h1.symm.trans e)]; exact ⟨h1, h2, ry⟩
    · rw [if_neg e, if_neg (fun z => e (h1.trans z))]; exact ⟨h1, h2, h3⟩
theorem KT.put {H : Hp} {kvs : List (List Key × V)} {xs : List (List Key × Addr × Value)} (r : KT H kvs xs) (k : List Key) {b : Addr} {y : V} {u : Value} (hb : H b = some (.tup (k.map kV))) (ry : RelV y u) :
    KT H (putK kvs k y) (storedH xs k b u) := by
  have e : (kvs.any fun kv => decide (kv.1 = k)) = (atKey xs k).isSome := by
    rw [valV_any, (r.val k).isSome_eq, Option.isSome_map]
  unfold putK storedH
  rw [e]
  by_cases q : (atKey xs k).isSome = true
  · rw [if_pos q, if_pos q]; exact r.repl k ry
  · rw [if_neg q, if_neg q]; exact Paired.snoc r ⟨rfl, hb, ry⟩
theorem KT.keeps {H H' : Hp} {kvs : List (List Key × V)} {xs : List (List Key × Addr × Value)} (r : KT H kvs xs) (ht : ∀ b ys, H b = some (.tup ys) → H' b = some (.tup ys)) : KT H' kvs xs :=
  Paired.mapP r fun _ _ z => ⟨z.1, ht _ _ z.2.1, z.2.2⟩
section
variable {P : Program} {w : World} {H : Hp} {h : Heap} {a : Addr}
theorem rd_of {u : HO} (ok : HOk P w H h) (e : Rd H a u) : ObjOk P w H h a u := e.ok ok
theorem dk_rd {kvs : List (Key × V)} (ok : HOk P w H h) (e : Rd H a (.dK kvs)) : kvs.length ≤ sizeLine ∧ (a == sysModules) = false ∧ ∃ vs, KV kvs vs ∧ h.DictOf (mixKind P w) a vs :=
  show ObjOk P w H h a (.dK kvs) from rd_of ok e
theorem dk_of {kvs : List (Key × V)} (ok : HOk P w H h) (e : H a = some (.dK kvs)) : kvs.length ≤ sizeLine ∧ (a == sysModules) = false ∧ ∃ vs, KV kvs vs ∧ h.DictOf (mixKind P w) a vs := dk_rd ok (.inl e)
theorem key_of {ks : List Key} (ok : HOk P w H h) (e : H a = some (.tup (ks.map kV))) : (tupleKind (mixKind P w)).is h ks a := by
  obtain ⟨_, its, r, ⟨o, h1, h2, n, h3⟩, _⟩ := (show ObjOk P w H h a (.tup (ks.map kV)) from ok a _ e)
  exact ⟨o, its.toArray, n, h1, h2, h3, by simpa using items_are r⟩
theorem dt_rd {kvs : List (List Key × V)} (ok : HOk P w H h) (e : Rd H a (.dT kvs)) : kvs.length ≤ sizeLine ∧ (a == sysModules) = false ∧
    ∃ xs, KT H kvs xs ∧ h.DictOfH (tupleKind (mixKind P w)) a xs := by
  obtain ⟨z, y, xs, r, o, es, ep, h1, h2, h3, h4, h5⟩ := (show ObjOk P w H h a (.dT kvs) from rd_of ok e)
  refine ⟨z, y, xs, r, o, es, ep, h1, h2, h3, h4, fun x hx => ?_, h5⟩
  have all : ∀ {l : List (List Key × V)} {m : List (List Key × Addr × Value)}, KT H l m → ∀ x ∈ m, (tupleKind (mixKind P w)).is h x.1 x.2.1 := by
    intro l m q
    induction q with
    | nil => intro x hx; exact nomatch hx
    | @cons p q ps qs hq t ih =>
      intro x hx
      rcases List.mem_cons.mp hx with e | hx
      · subst e
        exact key_of ok (by rw [← hq.1]; exact hq.2.1)
      · exact ih x hx
  exact all r x hx
theorem dt_of {kvs : List (List Key × V)} (ok : HOk P w H h) (e : H a = some (.dT kvs)) : kvs.length ≤ sizeLine ∧ (a == sysModules) = false ∧
    ∃ xs, KT H kvs xs ∧ h.DictOfH (tupleKind (mixKind P w)) a xs := dt_rd ok (.inl e)
end
def DGet (H : Hp) (a : Addr) (y : V) (r : Option V) : Prop :=
  (∃ kvs k, Rd H a (.dK kvs) ∧ y = kV k ∧ r = valV kvs k) ∨ ∃ kvs k b, Rd H a (.dT kvs) ∧ y = .ref b ∧ H b = some (.tup (k.map kV)) ∧ r = valV kvs k
def DPut (H : Hp) (a : Addr) (y v : V) (H' : Hp) : Prop :=
  (∃ kvs k, H a = some (.dK kvs) ∧ y = kV k ∧ kvs.length < sizeLine ∧ H' = upd H a (.dK (putK kvs k v))) ∨
  ∃ kvs k b, H a = some (.dT kvs) ∧ y = .ref b ∧ H b = some (.tup (k.map kV)) ∧ kvs.length < sizeLine ∧ H' = upd H a (.dT (putK kvs k v))
theorem DGet.k {H : Hp} {a : Addr} {kvs : List (Key × V)} {k : Key} (e : H a = some (.dK kvs)) : DGet H a (kV k) (valV kvs k) := .inl ⟨kvs, k, .inl e, rfl, rfl⟩
theorem DPut.k {H : Hp} {a : Addr} {kvs : List (Key × V)} {k : Key} {v : V} (e : H a = some (.dK kvs)) (hl : kvs.length < sizeLine) : DPut H a (kV k) v (upd H a (.dK (putK kvs k v))) := .inl ⟨kvs, k, e, rfl, hl, rfl⟩
section
variable {X : Cx} {pins : List (Addr × Obj)} {σ : St} {H : Hp} {s : Shared} {a : Addr} {y v : V} {u r : Value} {o : Option V} {A : Around} {E : Value → Shared → Prop}
theorem Inv.big (I : Inv X pins σ H s) : sysModules < s.heap.objs.size := by
  have h : mainGlobals < s.heap.objs.size := (I.mod.glob.keeps I.bk).lt
  exact Nat.lt_trans (by decide) h
theorem d_getItem {Q : Value → Shared → Prop} (hu : A.units + 1 < cLine) (I : Inv X pins σ H s) (g : DGet H a y (some v)) (ry : RelV y u) (h : ∀ w' s', Inv X pins σ H s' → RelV v w' → Q w' s') :
    wpAny (model X.prog X.w) A (getItem (.ref a) u) Q E s := by
  rcases g with ⟨kvs, k, e, ey, l⟩ | ⟨kvs, k, b, e, ey, eb, l⟩
  · subst ey
    obtain ⟨z, hd, vs, rel, dd⟩ := dk_rd I.hok e
    obtain ⟨w', hw, rw'⟩ := RelO.some_of (v := v) (o := valueAt vs k) (by rw [l]; exact rel.val k)
    exact wpAny_getItem_of (kV_is ry) dd.mapOf hw (h w' _ (I.tok _) rw')
  · subst ey
    cases (show u = Value.ref b from ry)
    obtain ⟨z, hd, xs, rel, dd⟩ := dt_rd I.hok e
    obtain ⟨w', hw, rw'⟩ := RelO.some_of (v := v) (o := (atKey xs k).map (·.2)) (by rw [l]; exact rel.val k)
    obtain ⟨p, hp, hp2⟩ := Option.map_eq_some_iff.mp hw
    refine wpAny_getItem_heap (tupleKind_room_in1 hu) (key_of I.hok eb) dd hp ?_
    rw [hp2]
    exact h w' _ (I.tok _) rw'
theorem d_in {Q : Value → Shared → Prop} (hu : A.units + 1 < cLine) (I : Inv X pins σ H s) (g : DGet H a y o) (ry : RelV y u) (h : ∀ s', Inv X pins σ H s' → Q (.bool o.isSome) s') :
    wpAny (model X.prog X.w) A (compareOp .In u (.ref a)) Q E s := by
  rcases g with ⟨kvs, k, e, ey, l⟩ | ⟨kvs, k, b, e, ey, eb, l⟩
  · subst ey
    obtain ⟨z, hd, vs, rel, dd⟩ := dk_rd I.hok e
    refine wpAny_in_of (kV_is ry) hd dd.mapOf ?_
    rw [← (rel.val k).isSome_eq, ← l]
    exact h _ (I.tok _)
  · subst ey
    cases (show u = Value.ref b from ry)
    obtain ⟨z, hd, xs, rel, dd⟩ := dt_rd I.hok e
    refine wpAny_in_heap (tupleKind_room_in1 hu) (key_of I.hok eb) hd dd ?_
    have q := (rel.val k).isSome_eq
    rw [Option.isSome_map] at q
    rw [← q, ← l]
    exact h _ (I.tok _)
theorem d_notIn {Q : Value → Shared → Prop} (hu : A.units + 1 < cLine) (I : Inv X pins σ H s) (g : DGet H a y o) (ry : RelV y u) (h : ∀ s', Inv X pins σ H s' → Q (.bool (!o.isSome)) s') :
    wpAny (model X.prog X.w) A (compareOp .NotIn u (.ref a)) Q E s := by
  rcases g with ⟨kvs, k, e, ey, l⟩ | ⟨kvs, k, b, e, ey, eb, l⟩
  · subst ey
    obtain ⟨z, hd, vs, rel, dd⟩ := dk_rd I.hok e
    refine wpAny_notIn_of (kV_is ry) hd dd.mapOf ?_
    rw [← (rel.val k).isSome_eq, ← l]
    exact h _ (I.tok _)
  · subst ey
    cases (show u = Value.ref b from ry)
    obtain ⟨z, hd, xs, rel, dd⟩ := dt_rd I.hok e
    refine wpAny_notIn_heap (tupleKind_room_in1 hu) (key_of I.hok eb) hd dd ?_
    have q := (rel.val k).isSome_eq
    rw [Option.isSome_map] at q
    rw [← q, ← l]
    exact h _ (I.tok _)
theorem d_write {h' : Heap} {t' : Nat} {ob : HO} (I : Inv X pins σ H s) (mu : Mut (H a)) (hs : Heap.SameBut a s.heap h') (he : ∃ q, h'.get? a = some q) (new : ObjOk X.prog X.w (upd H a ob) h' a ob) :
    Inv X pins σ (upd H a ob) { s with heap := h', toks := t' } :=
  I.write (x := a) (e := a) mu (.inl rfl) (fun b q hb z => (hs.2 b hb).trans z) he new
theorem dk_new {P : Program} {w : World} {H' : Hp} {h' : Heap} {kvs : List (Key × V)} {vs : List (Key × Value)} (z : kvs.length ≤ sizeLine) (hd : (a == sysModules) = false) (rel : KV kvs vs) (dd : h'.DictOf (mixKind P w) a vs) :
    ObjOk P w H' h' a (.dK kvs) := ⟨z, hd, vs, rel, dd⟩
theorem d_setItem {H' : Hp} {Q : Unit → Shared → Prop} (hu : A.units + 1 < cLine) (I : Inv X pins σ H s) (g : DPut H a y v H') (ry : RelV y u) (rv : RelV v r) (h : ∀ s', Inv X pins σ H' s' → Q () s') :
    wpAny (model X.prog X.w) A (setItem (.ref a) u r) Q E s := by
  rcases g with ⟨kvs, k, e, ey, l, eH⟩ | ⟨kvs, k, b, e, ey, eb, l, eH⟩
  · subst ey eH
    obtain ⟨z, hd, vs, rel, dd⟩ := dk_of I.hok e
    have hz : vs.length ≤ sizeLine := by rw [← rel.length]; exact z
    have hl : (putK kvs k v).length ≤ sizeLine := by have := length_putK kvs k v; omega
    refine wpAny_setItem_pairs (hsz := hz) (kV_is ry) dd fun h' dd' hs => h _ ?_
    have he : ∃ q, h'.get? a = some q := let ⟨q, _, _, hq, _⟩ := dd'; ⟨q, hq⟩
    exact d_write I (by rw [e]; exact True.intro) hs he (dk_new hl hd (rel.put k rv) dd')
  · subst ey eH
    cases (show u = Value.ref b from ry)
    obtain ⟨z, hd, xs, rel, dd⟩ := dt_of I.hok e
    have hz : xs.length ≤ sizeLine := by rw [← Paired.length rel]; exact z
    have hl : (putK kvs k v).length ≤ sizeLine := by have := length_putK kvs k v; omega
    refine wpAny_setItem_heap (hsz := hz) (tupleKind_room_in1 hu) (key_of I.hok eb) dd fun h' dd' hs => h _ ?_
    obtain ⟨q, es, ep, hq, h2, h3, h4, _, h5⟩ := dd'
    refine d_write I (by rw [e]; exact True.intro) hs ⟨q, hq⟩ ⟨hl, hd, _, (rel.put k eb rv).keeps fun c ys ec => ?_, q, es, ep, hq, h2, h3, h4, h5⟩
    rw [upd_ne (ne_of ec e (fun z => nomatch z))]
    exact ec
end
section
variable {X : Cx} {pins : List (Addr × Obj)} {σ : St} {H : Hp} {s : Shared} {a : Addr} {kvs : List (Key × V)} {k : Key} {u : Value} {A : Around} {E : Value → Shared → Prop}
theorem d_delItem {Q : Unit → Shared → Prop} (I : Inv X pins σ H s) (e : H a = some (.dK kvs)) (ry : RelV (kV k) u) (l : (valV kvs k).isSome = true) (h : ∀ s', Inv X pins σ (upd H a (.dK (dropK kvs k))) s' → Q () s') :
    wpAny (model X.prog X.w) A (delItem (.ref a) u) Q E s := by
  obtain ⟨z, hd, vs, rel, dd⟩ := dk_of I.hok e
  refine wpAny_delItem_slot dd.typeIs (by decide) PySem.F.slot_dict_delitem
    (call_meetsIn PySem.F.slot_dict_delitem dd.typeIs PySem.F.entry_dict_delitem (PySem.F.args_dict_delitem_2 _ _) (meets_dict_delitem_pairs (mixKind X.prog X.w) a (kV_is ry)) ⟨vs, dd, by rw [← rel.length]; exact z, by rw [← (rel.val k).isSome_eq]; exact l, fun h' dd' hs => h _ ?_⟩)
  have he : ∃ q, h'.get? a = some q := let ⟨q, _, _, hq, _⟩ := dd'; ⟨q, hq⟩
  exact d_write I (by rw [e]; exact True.intro) hs he (dk_new (Nat.le_trans (dropK_le kvs k) z) hd (rel.drop k) dd')
theorem d_pop {v : V} {more : List Value} {Q : Value → Shared → Prop} (I : Inv X pins σ H s) (e : H a = some (.dK kvs)) (ry : RelV (kV k) u) (l : valV kvs k = some v) (hm : more = [] ∨ ∃ x, more = [x])
    (h : ∀ w' s', Inv X pins σ (upd H a (.dK (dropK kvs k))) s' → RelV v w' → Q w' s') : wpAny (model X.prog X.w) A (call (.builtin "dict.pop") (.ref a :: u :: more)) Q E s := by
  obtain ⟨z, hd, vs, rel, dd⟩ := dk_of I.hok e
  obtain ⟨w', hw, rw'⟩ := RelO.some_of (v := v) (o := valueAt vs k) (by rw [← l]; exact rel.val k)
  have hp : (keyPart u).isSome = true := by
    cases k with
    | inl i => obtain ⟨t, q⟩ := (show ∃ t, u = Value.int i t from ry); subst q; rfl
    | inr x => obtain ⟨t, q⟩ := (show ∃ t, u = Value.str x t from ry); subst q; rfl
  have ha : argsOk "dict.pop" ⟨.ref a :: u :: more, []⟩ := by
    rcases hm with q | ⟨x, q⟩
    · subst q; exact PySem.F.args_dict_pop_2 _ _
    · subst q; exact PySem.F.args_dict_pop_3 _ _ _
  refine call_meetsIn PySem.F.slot_dict_pop dd.typeIs PySem.F.entry_dict_pop ha (meets_dict_pop_there (mixKind X.prog X.w) a (kV_is ry) more hm hp)
    ⟨vs, w', dd, by rw [← rel.length]; exact z, hw, fun h' dd' hs => h w' _ ?_ rw'⟩
  have he : ∃ q, h'.get? a = some q := let ⟨q, _, _, hq, _⟩ := dd'; ⟨q, hq⟩
  exact d_write I (by rw [e]; exact True.intro) hs he (dk_new (Nat.le_trans (dropK_le kvs k) z) hd (rel.drop k) dd')
theorem d_len {Q : Value → Shared → Prop} (I : Inv X pins σ H s) (e : Rd H a (.dK kvs)) (h : ∀ t s', Inv X pins σ H s' → Q (.int kvs.length t) s') : wpAny (model X.prog X.w) A (call (.builtin "len") [.ref a]) Q E s := by
  obtain ⟨z, hd, vs, rel, dd⟩ := dk_rd I.hok e
  refine call_len_dict hd dd (by rw [← rel.length]; rw [sizeLine_eq] at z; omega) ?_
  rw [← rel.length]
  exact h _ _ (I.tok _)
end
def NoSl (i : Expr) : Prop := ∀ ov iv, subscripted i false ov iv = operate [ov, iv] (getItem ov iv)
theorem subD_of {prog : Program} {w : World} {A : Around} {E : Value → Shared → Prop} {s : Shared} {env : Env} {value slice : Expr} {pos : Pos} {T id : String} {Q : Value → Shared → Prop}
    (hl : typeLookup (.type T) "__getitem__" = pure (some (.builtin id))) (hs : NoSl slice)
    (h : wpAny (model prog w) A (eval value env) (fun o s₁ => wpAny (model prog w) A (eval slice env) (fun i s₂ => s₂.TypeIs o T ∧ wpAny (model prog w) A (getItem o i) Q E s₂) E s₁) E s) :
    wpAny (model prog w) A (eval (.Subscript value slice pos) env) Q E s := by
  refine Subscript_ (wpAny_mono h (fun o s₁ h₁ => wpAny_mono h₁ (fun i s₂ h₂ => ?_) fun _ _ x => x) fun _ _ x => x)
  obtain ⟨hT, h₂⟩ := h₂
  unfold subscriptTail
  refine wpAny_bind ?_
  rw [getitemInPython_of_ne hT.not_modules]
  refine wpAny_bind (wpAny_specialOf hT hl ?_)
  have fin : wpAny (model prog w) A (subscripted slice false o i) (fun r s₃ => wpAny (model prog w) A (letTemporaryGo value o r >>= fun _ => pure r) Q E s₃) E s₂ := by
    rw [hs o i]
    exact wpAny_operating (wpAny_mono h₂ (fun r s₃ h₃ => wpAny_bind (wpAny_letTemporaryGo (wpAny_pure h₃))) fun _ _ x => x)
  first
    | exact wpAny_pure (wpAny_bind fin)
    | exact wpAny_bind (wpAny_pure (wpAny_bind fin))
    | exact wpAny_bind fin
theorem dict_typeIs {X : Cx} {pins : List (Addr × Obj)} {σ : St} {H : Hp} {s : Shared} {a : Addr} {y : V} {o : Option V} (I : Inv X pins σ H s) (g : DGet H a y o) : s.TypeIs (.ref a) "dict" := by
  rcases g with ⟨kvs, k, e, _, _⟩ | ⟨kvs, k, b, e, _, _, _⟩
  · obtain ⟨_, _, vs, _, dd⟩ := dk_rd I.hok e
    exact dd.typeIs
  · obtain ⟨_, _, xs, _, dd⟩ := dt_rd I.hok e
    exact dd.typeIs
def tDGet (td ty : TE) : TE := fun σ H Q => td σ H fun x H1 => ty σ H1 fun y H2 => ∃ a v, x = .ref a ∧ DGet H2 a y (some v) ∧ Q v H2
def tDIn (ty td : TE) : TE := fun σ H Q => ty σ H fun y H1 => td σ H1 fun x H2 => ∃ a o, x = .ref a ∧ DGet H2 a y o ∧ Q (.bl o.isSome) H2
def tDNotIn (ty td : TE) : TE := fun σ H Q => ty σ H fun y H1 => td σ H1 fun x H2 => ∃ a o, x = .ref a ∧ DGet H2 a y o ∧ Q (.bl (!o.isSome)) H2
def sDPut (td ty tv : TE) : TS := fun D σ H => tv σ H fun v H1 => td σ H1 fun x H2 => ty σ H2 fun y H3 => ∃ a H4, x = .ref a ∧ DPut H3 a y v H4 ∧ D.nx σ H4
section
variable {X : Cx} {o i e value : Expr} {pos pos' tpos : Pos} {td ty tv : TE}
theorem pe_dget (hu : X.A.units + 1 < cLine) (ho : PE X o td) (hi : PE X i ty) (hs : NoSl i) : PE X (.Subscript o i pos) (tDGet td ty) := by
  intro pins s σ H Q I h
  refine subD_of PySem.F.slot_dict_getitem.lookup hs (thn (ho pins s σ H _ I h) fun u s1 ⟨x, H1, I1, rx, q1⟩ => thn (hi pins s1 σ H1 _ I1 q1) fun iv s2 ⟨y, H2, I2, ry, a, v, ex, g, q2⟩ => ?_)
  subst ex
  obtain rfl : u = Value.ref a := rx
  exact ⟨dict_typeIs I2 g, d_getItem hu I2 g ry fun w' s3 I3 rw' => ⟨v, H2, I3, rw', q2⟩⟩
theorem pc_din (hu : X.A.units + 1 < cLine) (hi : PE X i ty) (ho : PE X o td) : PC X .In i o (tDIn ty td) := by
  intro pins s σ H Q I h
  refine thn (hi pins s σ H _ I h) fun iv s1 ⟨y, H1, I1, ry, q1⟩ => thn (ho pins s1 σ H1 _ I1 q1) fun u s2 ⟨x, H2, I2, rx, a, ov, ex, g, q2⟩ => ?_
  subst ex
  obtain rfl : u = Value.ref a := rx
  exact d_in hu I2 g ry fun s3 I3 => ⟨.bl ov.isSome, H2, I3, rfl, q2⟩
theorem pc_dnotin (hu : X.A.units + 1 < cLine) (hi : PE X i ty) (ho : PE X o td) : PC X .NotIn i o (tDNotIn ty td) := by
  intro pins s σ H Q I h
  refine thn (hi pins s σ H _ I h) fun iv s1 ⟨y, H1, I1, ry, q1⟩ => thn (ho pins s1 σ H1 _ I1 q1) fun u s2 ⟨x, H2, I2, rx, a, ov, ex, g, q2⟩ => ?_
  subst ex
  obtain rfl : u = Value.ref a := rx
  exact d_notIn hu I2 g ry fun s3 I3 => ⟨.bl (!ov.isSome), H2, I3, rfl, q2⟩
theorem ps_dput (hu : X.A.units + 1 < cLine) (ho : PE X o td) (hi : PE X i ty) (hv : PE X value tv) (hs : swapsWith value (some (.Subscript o i pos')) pos.line X.env = pure false) :
    PS X (.Assign [.Subscript o i pos'] value pos) (sDPut td ty tv) := by
  intro pins s σ H D I h
  refine wpAny_Assign_Subscript (thn (hv pins s σ H _ I h) fun r s1 ⟨v, H1, I1, rv, q1⟩ => thn (ho pins s1 σ H1 _ I1 q1) fun u s2 ⟨x, H2, I2, rx, q2⟩ => thn (hi pins s2 σ H2 _ I2 q2) fun iv s3 ⟨y, H3, I3, ry, a, H4, ex, g, q3⟩ => ?_) hs
  subst ex
  obtain rfl : u = Value.ref a := rx
  exact d_setItem hu I3 g ry rv fun s4 I4 => ⟨σ, H4, I4, q3⟩
end
theorem dk_empty {P : Program} {w : World} {H : Hp} (h : Heap) (hb : sysModules < h.objs.size) : ObjOk P w H (h.push { cls := .type "dict", data := .dict #[] }) h.objs.size (.dK []) :=
  ⟨Nat.zero_le _, beq_eq_false_iff_ne.mpr (Ne.symm (Nat.ne_of_lt hb)), [], .nil, Heap.DictOf.new h⟩
def tDNewK : TE := fun _ H Q => ∀ p, H p = none → Q (.ref p) (upd H p (.dK []))
section
variable {X : Cx} {pos : Pos}
theorem pe_dnewK : PE X (.Dict [] [] pos) tDNewK := fun pins s σ H Q I h =>
  wpAny_Dict_empty ⟨.ref s.heap.objs.size, _, I.laid (a := s.heap.objs.size) (o := .dK []) (t' := s.toks) (fun _ _ q => Heap.get?_push_of_some _ q) (Nat.le_refl _) (dk_empty s.heap I.big), rfl, h _ (I.hok.fresh (Nat.le_refl _))⟩
end
def tPairs : List (TE × TE) → St → Hp → (List (V × V) → Hp → Prop) → Prop
  | [], _, H, Q => Q [] H
  | (tk, tv) :: r, σ, H, Q => tk σ H fun x H1 => tv σ H1 fun y H2 => tPairs r σ H2 fun ps H3 => Q ((x, y) :: ps) H3
abbrev VV : List (V × V) → List (Value × Value) → Prop := Paired fun p q => RelV p.1 q.1 ∧ RelV p.2 q.2
def PPs (X : Cx) (pos : Pos) (keys : List (Option Expr)) (values : List Expr) (trs : List (TE × TE)) : Prop :=
  ∀ (pins : List (Addr × Obj)) (s : Shared) (σ : St) (H : Hp) (Q : List (V × V) → Hp → Prop), Inv X pins σ H s → tPairs trs σ H Q →
    wpAny (model X.prog X.w) X.A (evalPairs (pairTrees keys values X.env pos)) (fun vs s' => ∃ ps H', Inv X pins σ H' s' ∧ VV ps vs ∧ Q ps H') X.xe s
theorem pps_nil {X : Cx} {pos : Pos} : PPs X pos [] [] [] := fun pins s σ H Q I h => pairTrees_nil_walk ⟨[], H, I, .nil, h⟩
theorem pps_cons {X : Cx} {pos : Pos} {k v : Expr} {ks : List (Option Expr)} {vs : List Expr} {tk tv : TE} {trs : List (TE × TE)} (hk : PE X k tk) (hv : PE X v tv) (hr : PPs X pos ks vs trs) :
    PPs X pos (some k :: ks) (v :: vs) ((tk, tv) :: trs) := fun pins s σ H Q I h =>
  pairTrees_cons_walk (thn (hk pins s σ H _ I h) fun u s1 ⟨x, H1, I1, rx, q1⟩ => thn (hv pins s1 σ H1 _ I1 q1) fun w2 s2 ⟨y, H2, I2, ry, q2⟩ =>
    thn (hr pins s2 σ H2 _ I2 q2) fun ws s3 ⟨ps, H3, I3, rel, q3⟩ => ⟨(x, y) :: ps, H3, I3, .cons ⟨rx, ry⟩ rel, q3⟩)
noncomputable def mergeK (kvs more : List (Key × V)) : List (Key × V) := more.foldl (fun acc kv => putK acc kv.1 kv.2) kvs
theorem KV.merge : ∀ {more : List (Key × V)} {rs : List (Key × Value)} {kvs : List (Key × V)} {vs : List (Key × Value)}, KV more rs → KV kvs vs → KV (mergeK kvs more) (merged vs rs) := by
  intro more rs kvs vs r
  unfold KV at r
  induction r generalizing kvs vs with
  | nil => intro q; exact q
  | @cons p q ps qs h t ih =>
    intro r0
    have e : KV (putK kvs p.1 p.2) (stored vs q.1 q.2) := by
      have := r0.put p.1 h.2
      rw [← h.1]; exact this
    exact ih e
theorem length_mergeK : ∀ (more kvs : List (Key × V)), (mergeK kvs more).length ≤ kvs.length + more.length
  | [], kvs => by show kvs.length ≤ kvs.length + 0; omega
  | p :: r, kvs => by
    have h1 := length_mergeK r (putK kvs p.1 p.2)
    have h2 := length_putK kvs p.1 p.2
    show (mergeK (putK kvs p.1 p.2) r).length ≤ _
    rw [List.length_cons]; omega
theorem carries_of {P : Program} {w : World} : ∀ {kvs : List (Key × V)} {ws : List (Value × Value)}, VV (kvs.map fun kv => (kV kv.1, kv.2)) ws → ∃ rs, Carries (mixKind P w) ws rs ∧ KV kvs rs
  | [], _, r => by rw [List.map_nil] at r; cases r; exact ⟨[], True.intro, .nil⟩
  | p :: kvs, _, r => by
    rw [List.map_cons] at r
    cases r with
    | @cons a b as bs h t =>
      obtain ⟨rs, c, q⟩ := carries_of (P := P) (w := w) t
      obtain ⟨b1, b2⟩ := b
      exact ⟨(p.1, b2) :: rs, ⟨kV_is h.1, rfl, c⟩, .cons ⟨rfl, h.2⟩ q⟩
def tDisp (trs : List (TE × TE)) : TE := fun σ H Q => ∀ p, H p = none → tPairs trs σ (upd H p (.dK [])) fun ps H2 => H2 p = some (.dK []) ∧ ∃ kvs : List (Key × V), ps = kvs.map (fun kv => (kV kv.1, kv.2)) ∧ kvs.length ≤ 15 ∧ Q (.ref p) (upd H2 p (.dK (mergeK [] kvs)))
theorem pe_disp {X : Cx} {pos : Pos} {keys : List (Option Expr)} {values : List Expr} {trs : List (TE × TE)} (h : PPs X pos keys values trs) (hall : keys.all (·.isSome) = true) (hl : keys.length = values.length) (h0 : keys ≠ [])
    (h15 : keys.length ≤ 15) : PE X (.Dict keys values pos) (tDisp trs) := by
  intro pins s σ H Q I q
  have hn := I.hok.fresh (Nat.le_refl s.heap.objs.size)
  have I1 := I.laid (a := s.heap.objs.size) (o := .dK []) (h' := s.heap.push { cls := .type "dict", data := .dict #[] }) (t' := s.toks) (fun _ _ q => Heap.get?_push_of_some _ q) (Nat.le_refl _) (dk_empty s.heap I.big)
  refine wpAny_Dict_walk (knd := mixKind X.prog X.w) hall hl h0 h15 (thn (h pins _ σ _ _ I1 (q _ hn)) fun ws s2 ⟨ps, H2, I2, rel, e, kvs, ep, lk, q2⟩ => ?_)
  subst ep
  obtain ⟨rs, c, rk⟩ := carries_of (P := X.prog) (w := X.w) rel
  obtain ⟨z, hd, vs0, r0, dd⟩ := dk_of I2.hok e
  cases r0
  refine ⟨rs, c, dd, fun h' dd' hs => ⟨.ref s.heap.objs.size, _, ?_, rfl, q2⟩⟩
  have hz : (mergeK [] kvs).length ≤ sizeLine := by
    have h1 := length_mergeK kvs []
    rw [List.length_nil] at h1
    rw [sizeLine_eq]; omega
  have he : ∃ q, h'.get? s.heap.objs.size = some q := let ⟨q, _, _, hq, _⟩ := dd'; ⟨q, hq⟩
  exact d_write I2 (by rw [e]; exact True.intro) hs he (dk_new hz hd (rk.merge .nil) dd')
structure M1 (X : Cx) (o : Expr) (m : Str) (apos : Pos) (e : Expr) (cpos : Pos) : Prop where
  base : attributeBase o m X.env (eval o X.env) = eval o X.env
  few : ((backTo cpos (starEach [e] X.env)).all (fun x => !x.1) && (backToKw cpos (keywordEach [] X.env)).all (fun x => x.1.isSome)
    && decide (([e] : List Expr).length + ([] : List Keyword).length + (if ([] : List Keyword).isEmpty then 0 else 1) < 30)) = true
  line : (apos.endLine == cpos.line) = true
  trees : backTo cpos (starEach [e] X.env) = [(false, eval e X.env)]
structure M2 (X : Cx) (o : Expr) (m : Str) (apos : Pos) (e f : Expr) (cpos : Pos) : Prop where
  base : attributeBase o m X.env (eval o X.env) = eval o X.env
  few : ((backTo cpos (starEach [e, f] X.env)).all (fun x => !x.1) && (backToKw cpos (keywordEach [] X.env)).all (fun x => x.1.isSome)
    && decide (([e, f] : List Expr).length + ([] : List Keyword).length + (if ([] : List Keyword).isEmpty then 0 else 1) < 30)) = true
  line : (apos.endLine == cpos.line) = true
  trees : backTo cpos (starEach [e, f] X.env) = [(false, eval e X.env), (false, eval f X.env)]
def IsD (H : Hp) (a : Addr) : Prop := (∃ kvs, Rd H a (.dK kvs)) ∨ ∃ kvs, Rd H a (.dT kvs)
theorem isD_at {X : Cx} {pins : List (Addr × Obj)} {σ : St} {H : Hp} {s : Shared} {a : Addr} (I : Inv X pins σ H s) (d : IsD H a) :
    s.TypeIs (.ref a) "dict" ∧ (∀ b, Value.ref a = .ref b → ∃ ob, s.heap.get? b = some ob ∧ ob.dict = none) ∧ (a == sysModules) = false := by
  rcases d with ⟨kvs, e⟩ | ⟨kvs, e⟩
  · obtain ⟨_, hd, vs, _, dd⟩ := dk_rd I.hok e
    refine ⟨dd.typeIs, fun b q => ?_, hd⟩
    cases q
    obtain ⟨ob, _, _, h1, h2, _⟩ := dd
    exact ⟨ob, h1, h2.2.1⟩
  · obtain ⟨_, hd, xs, _, dd⟩ := dt_rd I.hok e
    refine ⟨dd.typeIs, fun b q => ?_, hd⟩
    cases q
    obtain ⟨ob, _, _, h1, h2, _⟩ := dd
    exact ⟨ob, h1, h2.2.1⟩
section
variable {X : Cx} {pins : List (Addr × Obj)} {σ : St} {H : Hp} {s : Shared} {a : Addr} {y d : V} {u r : Value} {o : Option V} {A : Around} {E : Value → Shared → Prop}
theorem d_get2 {Q : Value → Shared → Prop} (hu : A.units + 1 < cLine) (I : Inv X pins σ H s) (g : DGet H a y o) (ry : RelV y u) (rd : RelV d r) (h : ∀ w' s', Inv X pins σ H s' → RelV (o.getD d) w' → Q w' s') :
    wpAny (model X.prog X.w) A (call (.builtin "dict.get") [.ref a, u, r]) Q E s := by
  rcases g with ⟨kvs, k, e, ey, l⟩ | ⟨kvs, k, b, e, ey, eb, l⟩
  · subst ey
    obtain ⟨z, hd, vs, rel, dd⟩ := dk_rd I.hok e
    refine call_meetsIn PySem.F.slot_dict_get dd.typeIs PySem.F.entry_dict_get (PySem.F.args_dict_get_3 _ _ _) (meets_dict_get_default (mixKind X.prog X.w) a (kV_is ry) hd r) ⟨_, dd.mapOf, h _ _ (I.tok _) ?_⟩
    rw [l]
    exact (rel.val k).getD rd
  · subst ey
    cases (show u = Value.ref b from ry)
    obtain ⟨z, hd, xs, rel, dd⟩ := dt_rd I.hok e
    refine call_meetsIn PySem.F.slot_dict_get dd.typeIs PySem.F.entry_dict_get (PySem.F.args_dict_get_3 _ _ _) (meetsH_dict_get_default (tupleKind (mixKind X.prog X.w)) a b hd r) ⟨tupleKind_room_in1 hu, k, xs, key_of I.hok eb, dd, h _ _ (I.tok _) ?_⟩
    rw [l]
    exact (rel.val k).getD rd
end
def tDGet2 (td ty tx : TE) : TE := fun σ H Q => td σ H fun x H1 => ∃ a, x = .ref a ∧ IsD H1 a ∧ ty σ H1 fun y H2 => tx σ H2 fun z H3 => ∃ o, DGet H3 a y o ∧ Q (o.getD z) H3
def tDPop1 (td ty : TE) : TE := fun σ H Q => td σ H fun x H1 => ∃ a, x = .ref a ∧ IsD H1 a ∧ ty σ H1 fun y H2 => ∃ kvs k v, H2 a = some (.dK kvs) ∧ y = kV k ∧ valV kvs k = some v ∧ Q v (upd H2 a (.dK (dropK kvs k)))
section
variable {X : Cx} {o e f : Expr} {apos cpos : Pos} {td ty tx : TE}
theorem pe_dget2 (hu : X.A.units + 1 < cLine) (ho : PE X o td) (he : PE X e ty) (hf : PE X f tx) (m : M2 X o "get" apos e f cpos) : PE X (.Call (.Attribute o "get" apos) [e, f] [] cpos) (tDGet2 td ty tx) := by
  intro pins s σ H Q I h
  refine wpAny_Call_method m.base m.few m.line PySem.F.plainAttrs_dict PySem.F.slot_dict_get PySem.F.type_dict_get (thn (ho pins s σ H _ I h) fun u s1 ⟨x, H1, I1, rx, a, ex, d, q1⟩ => ?_)
  subst ex
  obtain rfl : u = Value.ref a := rx
  obtain ⟨t1, t2, _⟩ := isD_at I1 d
  refine ⟨t1, t2, ?_⟩
  rw [m.trees]
  refine Calls.callWith_builtin rfl (Calls.evalArgs_plain (Calls.spliced_cons (thn (he pins s1 σ H1 _ I1 q1) fun iv s2 ⟨y, H2, I2, ry, q2⟩ =>
    Calls.spliced_cons (thn (hf pins s2 σ H2 _ I2 q2) fun fv s3 ⟨z, H3, I3, rz, ov, g, q3⟩ => Calls.spliced_nil ?_))))
  exact d_get2 hu I3 g ry rz fun w' s4 I4 rw' => ⟨_, H3, I4, rw', q3⟩
theorem pe_dpop1 (ho : PE X o td) (he : PE X e ty) (m : M1 X o "pop" apos e cpos) : PE X (.Call (.Attribute o "pop" apos) [e] [] cpos) (tDPop1 td ty) := by
  intro pins s σ H Q I h
  refine wpAny_Call_method m.base m.few m.line PySem.F.plainAttrs_dict PySem.F.slot_dict_pop PySem.F.type_dict_pop (thn (ho pins s σ H _ I h) fun u s1 ⟨x, H1, I1, rx, a, ex, d, q1⟩ => ?_)
  subst ex
  obtain rfl : u = Value.ref a := rx
  obtain ⟨t1, t2, _⟩ := isD_at I1 d
  refine ⟨t1, t2, ?_⟩
  rw [m.trees]
  refine Calls.callWith_builtin rfl (Calls.evalArgs_plain (Calls.spliced_cons (thn (he pins s1 σ H1 _ I1 q1) fun iv s2 ⟨y, H2, I2, ry, kvs, k, v, ea, ey, l, q2⟩ => Calls.spliced_nil ?_)))
  subst ey
  exact d_pop I2 ea ry l (.inl rfl) fun w' s3 I3 rw' => ⟨v, _, I3, rw', q2⟩
end
section
variable {X : Cx} {pins : List (Addr × Obj)} {σ : St} {H : Hp} {s : Shared} {a : Addr} {kvs : List (Key × V)} {A : Around} {E : Value → Shared → Prop}
end
section
variable {X : Cx} {pins : List (Addr × Obj)} {σ : St} {H : Hp} {s : Shared} {a : Addr} {y : V} {u : Value} {A : Around} {E : Value → Shared → Prop}
end
end L2
namespace HT
open PySem PyProof.Rows
section
open PySem.SeqAt
open PySem.AutoSeq1 (wpAny_loadPart')
open PySem.MeetsSeq PySem.MeetsSeq2 PySem.MeetsSeq3
end
section
variable {prog : Program} {w : World} {A : Around} {E : Value → Shared → Prop} {s : Shared}
noncomputable def sIx (n d : Nat) : Option Int → Nat
  | none => d
  | some v => if v < 0 then (v + (n : Int)).toNat else min v.toNat n
end
end HT
namespace L2
open PySem PySem.Spec PyProof.Rows
abbrev TO := St → Hp → (Option Int → Hp → Prop) → Prop
def PO (X : Cx) (e : Option Expr) (t : TO) : Prop :=
  ∀ (pins : List (Addr × Obj)) (s : Shared) (σ : St) (H : Hp) (Q : Option Int → Hp → Prop), Inv X pins σ H s → t σ H Q →
    wpAny (model X.prog X.w) X.A (evalPart e X.env) (fun u s' => ∃ o H', Inv X pins σ H' s' ∧ IsPart u o ∧ Q o H') X.xe s
def tNoPart : TO := fun _ H Q => Q none H
def tPart (t : TE) : TO := fun σ H Q => t σ H fun x H1 => ∃ i, x = .int i ∧ Q (some i) H1
section
variable {X : Cx} {e : Expr} {te : TE} {lo hi : Option Expr} {tl th : TO} {pos p2 : Pos}
theorem po_none : PO X none tNoPart := by
  intro pins s σ H Q I h
  rw [evalPart_none]
  exact wpAny_pure ⟨none, H, I, .none, h⟩
theorem po_some (h : PE X e te) : PO X (some e) (tPart te) := by
  intro pins s σ H Q I hw
  rw [evalPart_some]
  refine thn (h pins s σ H _ I hw) fun u s1 ⟨x, H1, I1, r1, q1⟩ => ?_
  obtain ⟨i, rfl, q⟩ := q1
  obtain ⟨t, rfl⟩ := r1
  exact ⟨some i, H1, I1, .int i t, q⟩
def SlR (X : Cx) (r : V → Option Int → Option Int → Hp → VK → Prop) : Prop :=
  ∀ (pins : List (Addr × Obj)) (s : Shared) (σ : St) (H : Hp) (x : V) (v vl vu : Value) (lo hi : Option Int) (sl : Addr) (Q : VK), Inv X pins σ H s → RelV x v → s.heap.IsSliceOf sl vl vu .none → IsPart vl lo → IsPart vu hi → r x lo hi H Q →
    ∃ T id, typeLookup (.type T) "__getitem__" = pure (some (.builtin id)) ∧ s.TypeIs v T ∧ wpAny (model X.prog X.w) X.A (getItem v (.ref sl)) (EP X pins σ Q) X.xe s
theorem SlR.or {r r' : V → Option Int → Option Int → Hp → VK → Prop} (h : SlR X r) (h' : SlR X r') : SlR X (fun x lo hi H Q => r x lo hi H Q ∨ r' x lo hi H Q) := by
  intro pins s σ H x v vl vu lo hi sl Q I rx hs pl pu q
  rcases q with q | q
  · exact h pins s σ H x v vl vu lo hi sl Q I rx hs pl pu q
  · exact h' pins s σ H x v vl vu lo hi sl Q I rx hs pl pu q
def tSl (r : V → Option Int → Option Int → Hp → VK → Prop) (te : TE) (tl th : TO) : TE := fun σ H Q => te σ H fun x H1 => tl σ H1 fun l H2 => th σ H2 fun u H3 => r x l u H3 Q
theorem pe_slice {r : V → Option Int → Option Int → Hp → VK → Prop} (hr : SlR X r) (he : PE X e te) (hl : PO X lo tl) (hu : PO X hi th) : PE X (.Subscript e (.Slice lo hi none p2) pos) (tSl r te tl th) := by
  intro pins s σ H Q I h
  refine Subscript_ (thn (he pins s σ H _ I h) fun v s1 ⟨x, H1, I1, r1, q1⟩ => ?_)
  refine wpAny_Slice (thn (hl pins s1 σ H1 _ I1 q1) fun vl s2 ⟨l, H2, I2, pl, q2⟩ => thn (hu pins s2 σ H2 _ I2 q2) fun vu s3 ⟨u, H3, I3, pu, q3⟩ => ?_)
  rw [evalPart_none]
  refine wpAny_pure ?_
  have I4 : Inv X pins σ H3 { s3 with heap := s3.heap.push { cls := .type "slice", data := .fields #[vl, vu, .none] } } := I3.kept (t' := s3.toks) fun b ob q => Heap.get?_push_of_some _ q
  obtain ⟨T, id, hT, ht, hg⟩ := hr pins { s3 with heap := s3.heap.push { cls := .type "slice", data := .fields #[vl, vu, .none] } } σ H3 x v vl vu l u s3.heap.objs.size Q I4 r1 (Heap.IsSliceOf.new ..) pl pu q3
  show wpAny (model X.prog X.w) X.A (subscriptTail e (.Slice lo hi none p2) v (.ref s3.heap.objs.size)) (EP X pins σ Q) X.xe { s3 with heap := s3.heap.push { cls := .type "slice", data := .fields #[vl, vu, .none] } }
  exact tail_any (ops := [.ref s3.heap.objs.size, v]) ht hT hg (by with_unfolding_all rfl)
noncomputable def cutV (xs : List V) (lo hi : Option Int) : List V := (xs.drop (HT.sIx xs.length 0 lo)).take (HT.sIx xs.length xs.length hi - HT.sIx xs.length 0 lo)
theorem cutV_length (xs : List V) (lo hi : Option Int) : (cutV xs lo hi).length ≤ xs.length := by
  unfold cutV
  rw [List.length_take, List.length_drop]
  omega
end
noncomputable def ixN (n : Nat) (i : Int) : Option Nat := if 0 ≤ i then (if i < n then some i.toNat else none) else if -(n : Int) ≤ i then some (i + n).toNat else none
noncomputable def atI {α : Type} (xs : List α) (i : Int) : Option α := (ixN xs.length i).bind fun j => xs[j]?
theorem ixN_seq {n : Nat} {i : Int} {j : Nat} (h : ixN n i = some j) : seqIndex? i n = some j ∧ j < n ∧ -(n : Int) ≤ i ∧ i < n := by
  unfold ixN at h
  by_cases h0 : 0 ≤ i
  · rw [if_pos h0] at h
    by_cases h1 : i < n
    · rw [if_pos h1] at h
      have e : i.toNat = j := Option.some.inj h
      exact ⟨by rw [seqIndex_of h0 h1, e], by omega, by omega, h1⟩
    · rw [if_neg h1] at h; cases h
  · rw [if_neg h0] at h
    by_cases h1 : -(n : Int) ≤ i
    · rw [if_pos h1] at h
      have e : (i + n).toNat = j := Option.some.inj h
      exact ⟨by rw [seqIndex_neg (by omega) h1, e], by omega, h1, by omega⟩
    · rw [if_neg h1] at h; cases h
theorem atI_get {α : Type} {xs : List α} {i : Int} {v : α} (h : atI xs i = some v) : ∃ j, seqIndex? i xs.length = some j ∧ xs[j]? = some v ∧ j < xs.length ∧ -(xs.length : Int) ≤ i ∧ i < xs.length := by
  unfold atI at h
  cases e : ixN xs.length i with
  | none => rw [e] at h; cases h
  | some j =>
    rw [e] at h
    obtain ⟨h1, h2, h3, h4⟩ := ixN_seq e
    exact ⟨j, h1, h, h2, h3, h4⟩
theorem atI_nat {α : Type} {xs : List α} {j : Nat} {v : α} (h : xs[j]? = some v) : atI xs (j : Int) = some v := by
  have hj : j < xs.length := (List.getElem?_eq_some_iff.mp h).1
  have e : ixN xs.length (j : Int) = some j := by
    unfold ixN
    rw [if_pos (by omega), if_pos (by omega)]; simp
  unfold atI; rw [e]; exact h
def PlainIx (b : Expr) : Prop := ∀ o i, subscripted b false o i = operate [o, i] (getItem o i)
def IxR (X : Cx) (r : R2) : Prop :=
  ∀ (value slice : Expr) (pins : List (Addr × Obj)) (s : Shared) (σ : St) (H : Hp) (x y : V) (v u : Value) (Q : VK), Inv X pins σ H s → RelV x v → RelV y u → r x y H Q →
    subscripted slice false v u = operate [v, u] (getItem v u) → wpAny (model X.prog X.w) X.A (subscriptTail value slice v u) (EP X pins σ Q) X.xe s
def MtR (X : Cx) (id : String) (r : V → List V → Hp → VK → Prop) : Prop :=
  ∀ (pins : List (Addr × Obj)) (s : Shared) (σ : St) (H : Hp) (x : V) (xs : List V) (v : Value) (us : List Value) (Q : VK), Inv X pins σ H s → RelV x v → Vals xs us → r x xs H Q →
    wpAny (model X.prog X.w) X.A (call (.builtin id) (v :: us)) (EP X pins σ Q) X.xe s
section
variable {X : Cx} {a b : Expr} {ta tb : TE} {pos : Pos}
theorem IxR.or {r r' : R2} (h : IxR X r) (h' : IxR X r') : IxR X (fun x y H Q => r x y H Q ∨ r' x y H Q) := by
  intro value slice pins s σ H x y v u Q I rx ry q hs
  rcases q with q | q
  · exact h value slice pins s σ H x y v u Q I rx ry q hs
  · exact h' value slice pins s σ H x y v u Q I rx ry q hs
theorem MtR.or {id : String} {r r' : V → List V → Hp → VK → Prop} (h : MtR X id r) (h' : MtR X id r') : MtR X id (fun x xs H Q => r x xs H Q ∨ r' x xs H Q) := by
  intro pins s σ H x xs v us Q I rx rs q
  rcases q with q | q
  · exact h pins s σ H x xs v us Q I rx rs q
  · exact h' pins s σ H x xs v us Q I rx rs q
theorem pe_ix {r : R2} (hr : IxR X r) (ha : PE X a ta) (hb : PE X b tb) (hs : PlainIx b) : PE X (.Subscript a b pos) (tOp r ta tb) := by
  intro pins s σ H Q I h
  exact Subscript_ (binT ha hb I h fun v u s2 x y H2 I2 rx ry q => hr a b pins s2 σ H2 x y v u Q I2 rx ry q (hs _ _))
def rIxL (K : PySem.W.Frag) : R2 := fun x y H Q => ∃ p xs i v, x = .ref p ∧ y = .int i ∧ SqL K H p xs ∧ atI xs i = some v ∧ Q v H
def rIxT (K : PySem.W.Frag) : R2 := fun x y H Q => ∃ p xs i v, x = .ref p ∧ y = .int i ∧ SqT K H p xs ∧ atI xs i = some v ∧ Q v H
def rIxS : R2 := fun x y H Q => ∃ z i c, x = .str z ∧ y = .int i ∧ z.length ≤ sizeLine ∧ atI z.cps.toList i = some c ∧ Q (.str ⟨#[c]⟩) H
theorem ix_list : IxR X (rIxL X.K) := by
  intro value slice pins s σ H x y v u Q I rx ry h hs
  obtain ⟨p, xs, i, z, rfl, rfl, hq, he, q⟩ := h
  cases rx
  obtain ⟨t, rfl⟩ := ry
  obtain ⟨its, r, pl, hz⟩ := I.list hq
  obtain ⟨j, h1, h2, h3, h4, h5⟩ := atI_get he
  obtain ⟨w, ew, rw'⟩ := r.get h2
  have hl := r.length
  have hn := line63
  have fin : EP X pins σ Q w s := ⟨z, H, I, rw', q⟩
  by_cases h0 : 0 ≤ i
  · have hj : i.toNat = j := by
      rw [seqIndex_of h0 h5] at h1
      exact Option.some.inj h1
    exact item_listR pl.isList h0 (by omega) (by rw [hj]; simpa using ew) fin hs
  · have hj : (i + (its.toArray.size : Int)).toNat = j := by
      rw [seqIndex_neg (by omega) h4] at h1
      rw [List.size_toArray, ← hl]
      exact Option.some.inj h1
    exact subscriptTail_builtinR (x := w) pl.isList.typeIs slot_list_getitem.lookup
      (wpAny_getItem_list_neg (Q := fun r s' => r = w ∧ EP X pins σ Q r s') pl.isList (by omega) (by rw [List.size_toArray] <;> omega) (by omega) (by rw [hj]; simpa using ew) ⟨rfl, fin⟩) hs
theorem ix_tup : IxR X (rIxT X.K) := by
  intro value slice pins s σ H x y v u Q I rx ry h hs
  obtain ⟨p, xs, i, z, rfl, rfl, hq, he, q⟩ := h
  cases rx
  obtain ⟨t, rfl⟩ := ry
  obtain ⟨its, r, pl, hz⟩ := I.tuple hq
  obtain ⟨j, h1, h2, h3, h4, h5⟩ := atI_get he
  obtain ⟨w, ew, rw'⟩ := r.get h2
  have hl := r.length
  have hn := line63
  have fin : EP X pins σ Q w s := ⟨z, H, I, rw', q⟩
  exact subscriptTail_builtinR (x := w) pl.typeIs slot_tuple_getitem.lookup
    (getItem_tuple (j := j) (Q := fun r s' => r = w ∧ EP X pins σ Q r s') pl (by omega) (by omega) (by rw [List.size_toArray, ← hl]; exact h1) (by simpa using ew) ⟨rfl, fin⟩) hs
theorem ix_str : IxR X rIxS := by
  intro value slice pins s σ H x y v u Q I rx ry h hs
  obtain ⟨z, i, c, rfl, rfl, hz, he, q⟩ := h
  obtain ⟨t, rfl⟩ := rx
  obtain ⟨t', rfl⟩ := ry
  obtain ⟨j, h1, h2, h3, h4, h5⟩ := atI_get he
  have hl : z.cps.toList.length = z.length := by simp [Str.length]
  rw [hl] at h1 h4 h5
  have hn := line63
  exact tail_any (typeIs_str s z t) slot_str_getitem.lookup (getItem_str (c := c) (by
    have e1 : decide (i < -(2 ^ 63 : Int)) = false := decide_eq_false (by omega)
    have e2 : decide (i ≥ 2 ^ 63) = false := decide_eq_false (by omega)
    rw [e1, e2, Bool.or_false]) (by rw [h1]; simpa using h2) ⟨.str ⟨#[c]⟩, H, I.tok _, ⟨_, rfl⟩, q⟩) hs
def rIx (K : PySem.W.Frag) : R2 := fun x y H Q => rIxL K x y H Q ∨ rIxT K x y H Q ∨ rIxS x y H Q
theorem ix_seq : IxR X (rIx X.K) := ix_list.or (ix_tup.or ix_str)
theorem Inv.lst {pins : List (Addr × Obj)} {σ : St} {H : Hp} {s : Shared} {p : Addr} {xs : List V} (I : Inv X pins σ H s) (h : H p = some (.lst xs)) :
    ∃ (its : List Value) (n : Nat), Vals xs its ∧ s.heap.get? p = some { cls := .type "list", data := .seq its.toArray n } ∧ xs.length ≤ sizeLine := by
  obtain ⟨z, its, n, r, e⟩ := I.hok p _ h
  exact ⟨its, n, r, e, z⟩
theorem slice_bounds (lo hi : Option Int) (n : Nat) : (sliceBounds lo hi none n).1 = ((HT.sIx n 0 lo : Nat) : Int) ∧ (sliceBounds lo hi none n).2.1 = ((HT.sIx n n hi : Nat) : Int) ∧ (sliceBounds lo hi none n).2.2 = 1 := by
  refine ⟨?_, ?_, rfl⟩
  · cases lo with
    | none => simp [sliceBounds, HT.sIx]
    | some i =>
      simp only [sliceBounds, HT.sIx, Option.getD_none, show (1 : Int) > 0 by decide, if_true]
      by_cases h : i < 0
      · simp only [h, if_true] <;> omega
      · simp only [h, if_false] <;> omega
  · cases hi with
    | none => simp [sliceBounds, HT.sIx]
    | some i =>
      simp only [sliceBounds, HT.sIx, Option.getD_none, show (1 : Int) > 0 by decide, if_true]
      by_cases h : i < 0
      · simp only [h, if_true] <;> omega
      · simp only [h, if_false] <;> omega
theorem slicePick_cut (its : List Value) (lo hi : Option Int) : slicePick its.toArray lo hi none = ((its.drop (HT.sIx its.length 0 lo)).take (HT.sIx its.length its.length hi - HT.sIx its.length 0 lo)).toArray := by
  obtain ⟨h1, h2, h3⟩ := slice_bounds lo hi its.toArray.size
  unfold slicePick
  rw [h1, h2, h3]
  simp only [sliceRange_one, pick_run, List.size_toArray] <;> rfl
def rSlL (K : PySem.W.Frag) : V → Option Int → Option Int → Hp → VK → Prop := fun x lo hi H Q => ∃ a xs, x = .ref a ∧ SqL K H a xs ∧ ∀ p, H p = none → Q (.ref p) (upd H p (.lst (cutV xs lo hi)))
theorem sl_list : SlR X (rSlL X.K) := by
  intro pins s σ H x v vl vu lo hi sl Q I rx hs pl pu h
  obtain ⟨a, xs, rfl, hx, q⟩ := h
  cases rx
  obtain ⟨its, r, ht, hz⟩ := I.list hx
  have hlen := r.length
  refine ⟨"list", _, slot_list_getitem.lookup, ht.isList.typeIs, ?_⟩
  refine wpAny_getItem_list_slice ht.isList hs pl pu .none (by simp) ?_ (by rw [List.size_toArray] <;> omega)
  rw [slicePick_cut, ← hlen]
  refine ⟨.ref s.heap.objs.size, _, I.laid (t' := s.toks) (o := .lst (cutV xs lo hi)) (fun b ob q => Heap.get?_push_of_some _ q) (Nat.le_refl _) ?_, rfl, q _ (I.hok.fresh (Nat.le_refl _))⟩
  exact ⟨Nat.le_trans (cutV_length xs lo hi) hz, _, 0, (r.drop (HT.sIx xs.length 0 lo)).take (HT.sIx xs.length xs.length hi - HT.sIx xs.length 0 lo), Heap.get?_push_size _ rfl⟩
noncomputable def flatV : V → Bool
  | .non => true
  | .bl _ => true
  | .int _ => true
  | .str _ => true
  | _ => false
noncomputable def eqV : V → V → Bool
  | .non, .non => true
  | .bl a, .bl b => a == b
  | .bl a, .int b => (if a then 1 else 0) == b
  | .int a, .bl b => a == (if b then 1 else 0)
  | .int a, .int b => a == b
  | .str a, .str b => a == b
  | _, _ => false
theorem eqAt_V {A : Around} {s : Shared} {y x : V} {u v : Value} (ry : RelV y u) (rx : RelV x v) (fy : flatV y = true) (fx : flatV x = true) : SeqAt.EqAt A s u v (eqV y x) := by
  cases y with
  | non =>
    cases ry
    cases x with
    | non => cases rx; exact SeqAt.EqAt.same _
    | bl b => cases rx; exact SeqAt.EqAt.none_bool b
    | int b => obtain ⟨t, rfl⟩ := rx; exact SeqAt.EqAt.none_int b t
    | str b => obtain ⟨t, rfl⟩ := rx; exact SeqAt.EqAt.none_str b t
    | _ => exact absurd (show false = true from fx) Bool.false_ne_true
  | bl a =>
    cases ry
    cases x with
    | non => cases rx; exact SeqAt.EqAt.bool_none a
    | bl b => cases rx; exact SeqAt.EqAt.bool_bool a b
    | int b => obtain ⟨t, rfl⟩ := rx; exact SeqAt.EqAt.bool_int a b t
    | str b => obtain ⟨t, rfl⟩ := rx; exact SeqAt.EqAt.bool_str a b t
    | _ => exact absurd (show false = true from fx) Bool.false_ne_true
  | int a =>
    obtain ⟨t', rfl⟩ := ry
    cases x with
    | non => cases rx; exact SeqAt.EqAt.int_none a t'
    | bl b => cases rx; exact SeqAt.EqAt.int_bool a t' b
    | int b => obtain ⟨t, rfl⟩ := rx; exact SeqAt.EqAt.int_int a t' b t
    | str b => obtain ⟨t, rfl⟩ := rx; exact SeqAt.EqAt.int_str a t' b t
    | _ => exact absurd (show false = true from fx) Bool.false_ne_true
  | str a =>
    obtain ⟨t', rfl⟩ := ry
    cases x with
    | non => cases rx; exact SeqAt.EqAt.str_none a t'
    | bl b => cases rx; exact SeqAt.EqAt.str_bool a t' b
    | int b => obtain ⟨t, rfl⟩ := rx; exact SeqAt.EqAt.str_int a t' b t
    | str b => obtain ⟨t, rfl⟩ := rx; exact SeqAt.EqAt.str_str a t' b t
    | _ => exact absurd (show false = true from fx) Bool.false_ne_true
  | _ => exact absurd (show false = true from fy) Bool.false_ne_true
noncomputable def eqU (x : V) (u : Value) : Bool := match u with
  | .none => eqV .non x
  | .bool b => eqV (.bl b) x
  | .int i _ => eqV (.int i) x
  | .str z _ => eqV (.str z) x
  | _ => false
theorem eqU_of {x y : V} {u : Value} (r : RelV y u) (f : flatV y = true) : eqU x u = eqV y x := by
  cases y with
  | non => cases r; rfl
  | bl b => cases r; rfl
  | int i => obtain ⟨t, rfl⟩ := r; rfl
  | str z => obtain ⟨t, rfl⟩ := r; rfl
  | _ => exact absurd (show false = true from f) Bool.false_ne_true
theorem any_eqU {x : V} : ∀ {xs : List V} {us : List Value}, Vals xs us → xs.all flatV = true → us.any (eqU x) = xs.any fun y => eqV y x
  | _, _, .nil, _ => rfl
  | y :: xs, u :: us, .cons r t, f => by
    rw [List.all_cons, Bool.and_eq_true] at f
    rw [List.any_cons, List.any_cons, eqU_of r f.1, any_eqU t f.2]
theorem mem_eqAt {A : Around} {s : Shared} {x : V} {v : Value} (rx : RelV x v) (fx : flatV x = true) : ∀ {xs : List V} {us : List Value}, Vals xs us → xs.all flatV = true → ∀ u ∈ us, SeqAt.EqAt A s u v (eqU x u)
  | _, _, .nil, _ => fun u hu => by cases hu
  | y :: xs, u :: us, .cons r t, f => fun u' hu => by
    rw [List.all_cons, Bool.and_eq_true] at f
    rcases List.mem_cons.mp hu with rfl | hu
    · rw [eqU_of r f.1]; exact eqAt_V r rx f.1 fx
    · exact mem_eqAt rx fx t f.2 u' hu
def inV (x : V) (xs : List V) : Bool := xs.any fun y => eqV y x
def rIn (K : PySem.W.Frag) (neg : Bool) : R2 := fun x y H Q => ∃ p xs, y = .ref p ∧ (SqL K H p xs ∨ SqT K H p xs) ∧ flatV x = true ∧ xs.all flatV = true ∧ Q (.bl (if neg then !inV x xs else inV x xs)) H
theorem op_notIn_seq : OpR X (compareOp .NotIn) (rIn X.K true) := by
  intro pins s σ H x y v u Q I rx ry h
  obtain ⟨p, xs, rfl, hq, fx, fs, q⟩ := h
  cases ry
  rcases hq with hq | hq
  · obtain ⟨its, r, pl, hz⟩ := I.list hq
    refine SeqAt.notIn_listAt (eqU x) pl.isList (fun w hw => mem_eqAt rx fx r fs w (by simpa using hw)) ⟨.bl _, H, I, rfl, ?_⟩
    rw [show its.toArray.any (eqU x) = its.any (eqU x) by simp, any_eqU r fs]
    exact q
  · obtain ⟨its, r, pl, hz⟩ := I.tuple hq
    refine SeqAt.notIn_tupleAt (eqU x) pl (fun w hw => mem_eqAt rx fx r fs w (by simpa using hw)) ⟨.bl _, H, I, rfl, ?_⟩
    rw [show its.toArray.any (eqU x) = its.any (eqU x) by simp, any_eqU r fs]
    exact q
theorem CallR.or {f : Value} {r r' : List V → Hp → VK → Prop} (h : CallR X f r) (h' : CallR X f r') : CallR X f (fun xs H Q => r xs H Q ∨ r' xs H Q) := by
  intro pins s σ H xs us Q I rs q
  rcases q with q | q
  · exact h pins s σ H xs us Q I rs q
  · exact h' pins s σ H xs us Q I rs q
theorem call_tuple_of : CallR X (.type "tuple") (fun xs H Q => ∃ p ys, xs = [.ref p] ∧ ((SqL X.K H p ys ∧ ∀ l, H l = none → Q (.ref l) (upd H l (.tup ys))) ∨ (SqT X.K H p ys ∧ Q (.ref p) H))) := by
  intro pins s σ H xs us Q I r h
  obtain ⟨p, ys, rfl, h⟩ := h
  obtain ⟨u, rfl, rx⟩ := vals1 r
  cases rx
  rcases h with ⟨hq, q⟩ | ⟨hq, q⟩
  · obtain ⟨its, r', pl, hz⟩ := I.list hq
    have hlen := r'.length
    refine call_tuple_list pl.isList (fun h' kp => ?_) (by simp only [List.size_toArray] <;> omega)
    have I1 : Inv X pins σ H { s with heap := h' } := I.kept (t' := s.toks) kp
    have I2 : Inv X pins σ (upd H h'.objs.size (.tup ys)) { s with heap := h'.push { cls := .type "tuple", data := .seq its.toArray } } :=
      I1.laid (t' := s.toks) (fun b o e => Heap.get?_push_of_some _ e) (Nat.le_refl _) (show ObjOk X.prog X.w _ _ _ (.tup ys) from ⟨hz, its, r', IsTup.new _ _, noD_push rfl rfl⟩)
    exact ⟨.ref h'.objs.size, _, I2, rfl, q _ (I1.hok.fresh (Nat.le_refl _))⟩
  · obtain ⟨its, r', pl, hz⟩ := I.tuple hq
    exact call_tuple_same pl ⟨.ref p, H, I, rfl, q⟩
def tyV (K : PySem.W.Frag) (T : String) (x : V) (H : Hp) : Prop := match x with
  | .str _ => T = "str"
  | .int _ => T = "int"
  | .ref p => (T = "list" ∧ ∃ xs, SqL K H p xs) ∨ (T = "tuple" ∧ ∃ o, K.lookup p = some o ∧ o.cls = .type "tuple" ∧ o.dict = none) ∨
      (T = "dict" ∧ ((∃ kvs, H p = some (.dK kvs)) ∨ ∃ kvs, H p = some (.dT kvs))) ∨ (T = "set" ∧ ∃ S n, H p = some (.set S n))
  | _ => False
theorem tyV_is {pins : List (Addr × Obj)} {σ : St} {H : Hp} {s : Shared} {T : String} {x : V} {v : Value} (I : Inv X pins σ H s) (r : RelV x v) (ty : tyV X.K T x H) :
    s.TypeIs v T ∧ ∀ a, v = .ref a → ∃ ob, s.heap.get? a = some ob ∧ ob.dict = none := by
  cases x with
  | str z =>
    obtain ⟨t, rfl⟩ := r
    cases (show T = "str" from ty)
    exact ⟨typeIs_str s z t, fun _ e => nomatch e⟩
  | int i =>
    obtain ⟨t, rfl⟩ := r
    cases (show T = "int" from ty)
    exact ⟨typeIs_int s i t, fun _ e => nomatch e⟩
  | ref p =>
    cases r
    rcases ty with ⟨rfl, xs, hq⟩ | ⟨rfl, o, hk, hc, hd⟩ | ⟨rfl, hk⟩ | ⟨rfl, S, n, hk⟩
    · obtain ⟨its, _, pl, _⟩ := I.list hq
      refine ⟨pl.isList.typeIs, fun a e => ?_⟩
      cases e
      obtain ⟨o, n, e, c, hd, _⟩ := pl
      exact ⟨o, e, hd⟩
    · refine ⟨⟨o, I.kIn p o hk, hc⟩, fun a e => ?_⟩
      cases e
      exact ⟨o, I.kIn _ o hk, hd⟩
    · have z : ∃ o, s.heap.get? p = some o ∧ o.ExactDict := by
        rcases hk with ⟨kvs, hk⟩ | ⟨kvs, hk⟩
        · obtain ⟨_, _, _, _, o, _, _, e, ex, _⟩ := I.hok p _ hk
          exact ⟨o, e, ex⟩
        · obtain ⟨_, _, _, _, o, _, _, e, ex, _⟩ := I.hok p _ hk
          exact ⟨o, e, ex⟩
      obtain ⟨o, e, ex⟩ := z
      refine ⟨⟨o, e, ex.1⟩, fun a e2 => ?_⟩
      cases e2
      exact ⟨o, e, ex.2.1⟩
    · obtain ⟨o, _, _, _, e, ex, _⟩ := I.hok p _ hk
      refine ⟨⟨o, e, ex.1⟩, fun a e2 => ?_⟩
      cases e2
      exact ⟨o, e, ex.2.1⟩
  | _ => exact False.elim ty
def tBM0 (K : PySem.W.Frag) (T : String) (r : V → List V → Hp → VK → Prop) (to : TE) : TE := fun σ H Q => to σ H fun x H1 => tyV K T x H1 ∧ r x [] H1 Q
def tBM (K : PySem.W.Frag) (T : String) (r : V → List V → Hp → VK → Prop) (to : TE) (t : TA) : TE := fun σ H Q => to σ H fun x H1 => tyV K T x H1 ∧ t σ H1 fun xs H2 => r x xs H2 Q
variable {o e : Expr} {es : List Expr} {to : TE} {t : TA} {name : Str} {apos cpos : Pos} {T id : String} {r : V → List V → Hp → VK → Prop}
theorem pe_bm0 (pa : PlainAttrs T) (slot : Slot T name id) (hty : typeOf (.builtin id) = pure (.type "method_descriptor")) (hm : MtR X id r) (ho : PE X o to)
    (hbase : attributeBase o name X.env (eval o X.env) = eval o X.env := by rfl) (hline : (apos.endLine == cpos.line) = true := by rfl) : PE X (.Call (.Attribute o name apos) [] [] cpos) (tBM0 X.K T r to) := by
  intro pins s σ H Q I h
  refine wpAny_Call_method0_late hbase hline (thn (ho pins s σ H _ I h) fun v s1 ⟨x, H1, I1, r1, ty, q1⟩ => ?_)
  obtain ⟨h1, h2⟩ := tyV_is I1 r1 ty
  exact ⟨T, id, pa, slot, hty, h1, h2, Calls.callWith_builtin rfl (PySem.evalArgs_none (hm pins s1 σ H1 x [] v [] Q I1 r1 .nil q1))⟩
theorem pe_bm (pa : PlainAttrs T) (slot : Slot T name id) (hty : typeOf (.builtin id) = pure (.type "method_descriptor")) (hm : MtR X id r) (ho : PE X o to) (ha : PA X (e :: es) t)
    (hbase : attributeBase o name X.env (eval o X.env) = eval o X.env := by rfl)
    (hfew : ((backTo cpos (starEach (e :: es) X.env)).all (fun x => !x.1) && (backToKw cpos (keywordEach [] X.env)).all (fun x => x.1.isSome)
      && decide ((e :: es).length + ([] : List Keyword).length + (if ([] : List Keyword).isEmpty then 0 else 1) < 30)) = true := by rfl)
    (hline : (apos.endLine == cpos.line) = true := by rfl) (hs : starEach (e :: es) X.env = (false, eval e X.env) :: starEach es X.env := by rfl) (hplain : (backTo cpos (starEach es X.env)).any (·.1) = false := by rfl) :
    PE X (.Call (.Attribute o name apos) (e :: es) [] cpos) (tBM X.K T r to t) := by
  intro pins s σ H Q I h
  refine wpAny_Call_method_late hbase hfew hline rfl (thn (ho pins s σ H _ I h) fun v s1 ⟨x, H1, I1, r1, ty, q1⟩ => ?_)
  obtain ⟨h1, h2⟩ := tyV_is I1 r1 ty
  refine ⟨T, id, pa, slot, hty, h1, h2, ?_⟩
  have hA := ha cpos pins s1 σ H1 _ I1 q1
  rw [hs] at hA ⊢
  refine Calls.callWith_builtin (by show (false || (backTo cpos (starEach es X.env)).any (·.1)) = false; rw [hplain] <;> rfl) (Calls.evalArgs_plain ?_)
  exact thn hA fun us s2 ⟨vs, H2, I2, r2, q2⟩ => hm pins s2 σ H2 x vs v us Q I2 r1 r2 q2
end
def MtM (X : Cx) (id : String) (r : V → List V → Hp → VK → Prop) : Prop :=
  ∀ (pins : List (Addr × Obj)) (s : Shared) (σ : St) (H : Hp) (x : V) (xs : List V) (v : Value) (us : List Value) (Q : VK), Inv X pins σ H s → RelV x v → Vals xs us → r x xs H Q →
    wpAny (model X.prog X.w) X.A (call (.builtin id) (v :: us)) (EP X pins σ Q) X.xe s
theorem Vals.one : ∀ {x : V} {us : List Value}, Vals [x] us → ∃ u, us = [u] ∧ RelV x u
  | _, _, .cons r .nil => ⟨_, rfl, r⟩
theorem Vals.zero : ∀ {us : List Value}, Vals [] us → us = []
  | _, .nil => rfl
theorem Vals.dropLast {xs : List V} {us : List Value} (h : Vals xs us) : Vals xs.dropLast us.dropLast := by
  induction h with
  | nil => exact .nil
  | cons r t ih =>
    cases t with
    | nil => exact .nil
    | cons q t' => exact .cons r ih
theorem Vals.eraseIdx : ∀ {xs : List V} {us : List Value} (i : Nat), Vals xs us → Vals (xs.eraseIdx i) (us.eraseIdx i)
  | _, _, _, .nil => .nil
  | _, _, 0, .cons _ t => t
  | _, _, i + 1, .cons r t => .cons r (Vals.eraseIdx i t)
theorem Vals.rep {xs : List V} {us : List Value} (h : Vals xs us) : ∀ k : Nat, Vals (List.replicate k xs).flatten (List.replicate k us).flatten
  | 0 => .nil
  | k + 1 => by
    rw [List.replicate_succ, List.replicate_succ, List.flatten_cons, List.flatten_cons]
    exact Vals.append h (Vals.rep h k)
theorem erase_last {α : Type} (l : List α) : l.eraseIdx (l.length - 1) = l.dropLast := by
  induction l with
  | nil => rfl
  | cons a r ih =>
    cases r with
    | nil => rfl
    | cons b r =>
      have e : (a :: b :: r).length - 1 = ((b :: r).length - 1) + 1 := by
        have h1 : (a :: b :: r).length = r.length + 2 := rfl
        have h2 : (b :: r).length = r.length + 1 := rfl
        omega
      rw [e, List.eraseIdx_cons_succ, ih]
      all_goals rfl
theorem foldl_rep (its : List Value) : ∀ (k : Nat) (acc : List Value),
    List.foldl (fun x1 x2 => x1 ++ x2) acc.toArray (List.replicate k its.toArray) = (acc ++ (List.replicate k its).flatten).toArray
  | 0, acc => by simp
  | k + 1, acc => by
    have e : acc.toArray ++ its.toArray = (acc ++ its).toArray := by simp
    have e2 : (acc ++ its) ++ (List.replicate k its).flatten = acc ++ (List.replicate (k + 1) its).flatten := by
      rw [List.replicate_succ, List.flatten_cons, List.append_assoc]
    rw [← e2, ← foldl_rep its k (acc ++ its), ← e, List.replicate_succ, List.foldl_cons]
section
variable {X : Cx} {pins : List (Addr × Obj)} {σ : St} {H : Hp} {s : Shared} {l b : Addr} {xs ys zs : List V}
theorem Inv.lset {its its' : List Value} {n : Nat} {f : Array Value → Array Value} {t' : Nat} (I : Inv X pins σ H s) (hH : H l = some (.lst xs))
    (e : s.heap.get? l = some { cls := .type "list", data := .seq its.toArray n }) (hf : f its.toArray = its'.toArray) (hv : Vals ys its') (hz : ys.length ≤ sizeLine) :
    Inv X pins σ (upd H l (.lst ys)) { s with heap := s.heap.update l (Obj.mapSeq f), toks := t' } := by
  have q := PySem.IsL.update e f
  rw [hf] at q
  refine I.write (x := l) (e := l) (by rw [hH]; exact trivial) (.inl rfl) (fun b' u hb hu => (Heap.get?_update_other s.heap (Obj.mapSeq f) (Ne.symm hb)).trans hu) ⟨_, q⟩ ?_
  exact ⟨hz, its', _, hv, q⟩
theorem Inv.lnew {its : List Value} {t' : Nat} (I : Inv X pins σ H s) (hv : Vals ys its) (hz : ys.length ≤ sizeLine) :
    Inv X pins σ (upd H s.heap.objs.size (.lst ys)) { s with heap := s.heap.push { cls := .type "list", data := .seq its.toArray }, toks := t' } :=
  I.laid (fun _ _ q => Heap.get?_push_of_some _ q) (Nat.le_refl _) ⟨hz, its, 0, hv, Heap.get?_push_size _ rfl⟩
theorem Inv.fresh (I : Inv X pins σ H s) : H s.heap.objs.size = none := I.hok.fresh (Nat.le_refl _)
theorem Inv.lstM (I : Inv X pins σ H s) (hH : H l = some (.lst xs)) : xs.length ≤ sizeLine ∧ ∃ (its : List Value) (n : Nat), Vals xs its ∧ xs.length = its.length ∧ s.heap.get? l = some { cls := .type "list", data := .seq its.toArray n } := by
  obtain ⟨z, its, n, r, e⟩ := I.hok l _ hH
  exact ⟨z, its, n, r, r.length, e⟩
theorem notLongL {n : Nat} (h : n ≤ sizeLine) : Builtin.List.listTooLong n = false := by
  unfold Builtin.List.listTooLong
  exact decide_eq_false (by omega)
end
section
variable {X : Cx}
def rAppend : V → List V → Hp → VK → Prop := fun x vs H Q => ∃ l xs y, x = .ref l ∧ vs = [y] ∧ H l = some (.lst xs) ∧ xs.length < sizeLine ∧ Q .non (upd H l (.lst (xs ++ [y])))
theorem mt_append : MtM X "list.append" rAppend := by
  intro pins s σ H x vs v us Q I rx rv h
  obtain ⟨l, xs, y, rfl, rfl, hH, hz, q⟩ := h
  cases rx
  obtain ⟨u, rfl, ru⟩ := rv.one
  obtain ⟨z, its, n, r, hl, e⟩ := I.lstM hH
  refine call_meets F.slot_list_append ⟨_, e, rfl⟩ F.entry_list_append (F.args_list_append_2 _ _) (PySem.list_append l its.toArray n u (by rw [List.size_toArray]; omega)) ⟨e, ?_⟩
  refine ⟨.non, _, I.lset (its' := its ++ [u]) hH e (by simp) (r.append (.cons ru .nil)) ?_, rfl, q⟩
  rw [List.length_append, List.length_singleton]
  omega
def rExtend : V → List V → Hp → VK → Prop := fun x vs H Q => ∃ l b xs zs, x = .ref l ∧ vs = [.ref b] ∧ H l = some (.lst xs) ∧ H b = some (.lst zs) ∧ xs.length + zs.length ≤ sizeLine ∧ Q .non (upd H l (.lst (xs ++ zs)))
theorem mt_extend : MtM X "list.extend" rExtend := by
  intro pins s σ H x vs v us Q I rx rv h
  obtain ⟨l, b, xs, zs, rfl, rfl, hH, hB, hz, q⟩ := h
  cases rx
  obtain ⟨u, rfl, ru⟩ := rv.one
  cases ru
  obtain ⟨z, its, n, r, hl, e⟩ := I.lstM hH
  obtain ⟨z2, its2, n2, r2, hl2, e2⟩ := I.lstM hB
  have hsz : its.toArray.size + its2.toArray.size ≤ sizeLine := by rw [List.size_toArray, List.size_toArray]; omega
  have hlong : ¬ (!its.toArray.isEmpty && Builtin.List.listTooLong (its.toArray.size + its2.toArray.size)) = true := by
    rw [notLongL hsz, Bool.and_false]
    exact Bool.false_ne_true
  refine call_meets F.slot_list_extend ⟨_, e, rfl⟩ F.entry_list_extend (F.args_list_extend_2 _ _)
    (AutoSeq1.list_extend_list_list_0 l its.toArray n b its2.toArray n2 hlong (by rw [List.size_toArray]; omega) (by omega)) ⟨e, e2, ?_⟩
  refine ⟨.non, _, I.lset (its' := its ++ its2) hH e (by simp) (r.append r2) ?_, rfl, q⟩
  rw [List.length_append]
  omega
def rPop : V → List V → Hp → VK → Prop := fun x vs H Q => ∃ l xs y, x = .ref l ∧ vs = [] ∧ H l = some (.lst xs) ∧ xs[xs.length - 1]? = some y ∧ Q y (upd H l (.lst xs.dropLast))
theorem mt_pop : MtM X "list.pop" rPop := by
  intro pins s σ H x vs v us Q I rx rv h
  obtain ⟨l, xs, y, rfl, rfl, hH, hy, q⟩ := h
  cases rx
  have hus := rv.zero
  subst hus
  obtain ⟨z, its, n, r, hl, e⟩ := I.lstM hH
  obtain ⟨u, hu, ru⟩ := r.get hy
  have hy' : its.toArray[its.toArray.size - 1]? = some u := by
    show its.toArray[its.length - 1]? = some u
    rw [← Array.getElem?_toList, ← hl]
    exact hu
  refine call_meets F.slot_list_pop ⟨_, e, rfl⟩ F.entry_list_pop (F.args_list_pop_1 _) (MeetsSeq.list_pop_last l its.toArray n u hy' (by rw [List.size_toArray]; omega)) ⟨e, ?_⟩
  refine ⟨y, _, I.lset (its' := its.dropLast) hH e ?_ r.dropLast ?_, ru, q⟩
  · show its.toArray.eraseIdxIfInBounds (its.toArray.size - 1) = its.dropLast.toArray
    rw [List.size_toArray, List.eraseIdxIfInBounds_toArray, erase_last]
  · rw [List.length_dropLast]
    omega
def rCat : R2 := fun x y H Q => ∃ l b xs zs, x = .ref l ∧ y = .ref b ∧ H l = some (.lst xs) ∧ H b = some (.lst zs) ∧ xs.length + zs.length ≤ sizeLine ∧ ∀ p, H p = none → Q (.ref p) (upd H p (.lst (xs ++ zs)))
theorem op_cat : OpR X (binaryOp .Add) rCat := by
  intro pins s σ H x y v u Q I rx ry h
  obtain ⟨l, b, xs, zs, rfl, rfl, hH, hB, hz, q⟩ := h
  cases rx
  cases ry
  obtain ⟨z, its, n, r, hl, e⟩ := I.lstM hH
  obtain ⟨z2, its2, n2, r2, hl2, e2⟩ := I.lstM hB
  refine PySem.P.add_list e e2 ?_ (by rw [List.size_toArray, List.size_toArray]; omega)
  have ea : its.toArray ++ its2.toArray = (its ++ its2).toArray := by simp
  rw [ea]
  exact ⟨.ref _, _, I.lnew (t' := s.toks) (r.append r2) (by rw [List.length_append]; omega), rfl, q _ I.fresh⟩
def rRep : R2 := fun x y H Q => ∃ l k xs, x = .ref l ∧ y = .int k ∧ H l = some (.lst xs) ∧ -(2 ^ 63) ≤ k ∧ k < 2 ^ 63 ∧ xs.length * k.toNat ≤ sizeLine ∧
  ∀ p, H p = none → Q (.ref p) (upd H p (.lst (List.replicate k.toNat xs).flatten))
theorem len_rep {α : Type} (xs : List α) (k : Nat) : (List.replicate k xs).flatten.length = k * xs.length := by
  induction k with
  | zero => simp
  | succ k ih => rw [List.replicate_succ, List.flatten_cons, List.length_append, ih, Nat.succ_mul, Nat.add_comm]
theorem op_rep : OpR X (binaryOp .Mult) rRep := by
  intro pins s σ H x y v u Q I rx ry h
  obtain ⟨l, k, xs, rfl, rfl, hH, h1, h2, hz, q⟩ := h
  cases rx
  obtain ⟨t, rfl⟩ := ry
  obtain ⟨z, its, n, r, hl, e⟩ := I.lstM hH
  have hlen : its.toArray.size * k.toNat ≤ sizeLine := by rw [List.size_toArray, ← hl]; exact hz
  have hcap : ¬ its.toArray.size * k.toNat > (2 ^ 63 - 1) / 8 := by
    have : (sizeLine : Nat) ≤ (2 ^ 63 - 1) / 8 := by decide
    omega
  have hfit : ¬ (!Builtin.List.listFitsIndex k) = true := by
    rw [fitsIndex_both h1 h2]
    exact Bool.false_ne_true
  have hlong : ¬ Builtin.List.listTooLong (its.toArray.size * k.toNat) = true := by
    rw [notLongL hlen]
    exact Bool.false_ne_true
  have hnew : List.foldl (fun x1 x2 => x1 ++ x2) #[] (List.replicate (if its.toArray.isEmpty = true then 0 else k.toNat) its.toArray) = (List.replicate k.toNat its).flatten.toArray := by
    have f0 : ∀ m : Nat, List.foldl (fun x1 x2 => x1 ++ x2) #[] (List.replicate m its.toArray) = (List.replicate m its).flatten.toArray := fun m => by
      have := foldl_rep its m []
      rw [List.nil_append] at this
      exact this
    rw [f0]
    cases its with
    | nil => simp
    | cons a r' => rw [if_neg (by simp)]
  refine wpAny_binaryOp_repeat_ref (T := "list") (U := "int") (by decide) ⟨_, e, rfl⟩ (fun s' => typeIs_int s' k t) noFill_list_mul F.fills_int_mul F.slot_int_rmul repeat_list F.slot_int_index.lookup
    (call_meets F.slot_int_rmul (typeIs_int s k t) F.entry_int_rmul (F.args_int_rmul_2 _ _) (int___rmul___int_list k t l its.toArray n)
      ⟨e, rfl, ⟨_, e, rfl⟩, call_meets F.slot_list_mul ⟨_, e, rfl⟩ F.entry_list_mul (F.args_list_mul_2 _ _) (AutoListH.list___mul___list_int_3 l its.toArray n k t hfit hcap hlong) ⟨e, ?_⟩⟩)
  rw [hnew]
  exact ⟨.ref _, _, I.lnew (t' := s.toks) (r.rep k.toNat) (by rw [len_rep, Nat.mul_comm]; exact hz), rfl, q _ I.fresh⟩
end
section
variable {prog : Program} {w : World} {A : Around} {E : Value → Shared → Prop} {s : Shared}
end
section
variable {X : Cx}
end
end L2
namespace Att
open PySem PySem.W PySem.Calls PyProof.Rows
theorem ints_of_wellAll {P : Params} {h : Heap} : ∀ (ns : List Int) (vs : List Value), WellAll P h vs (ns.map WData.int) → IntsAre vs ns := by
  intro ns
  induction ns with
  | nil =>
    intro vs w
    rw [List.map_nil] at w
    cases w
    exact .nil
  | cons n ns ih =>
    intro vs w
    rw [List.map_cons] at w
    cases w with
    | cons a b =>
      cases a
      exact .cons _ _ (ih _ b)
theorem script_of {l : OpenLaw} {n : Nat} (hn : l.most = some n) {P : Params} {h : Heap} {args : List WData} {vals : List Value}
    (hpre : l.row.toRowW.claim.pre args = true) (hwl : WellAll P h vals args) :
    ∃ a vs ns, vals = [Value.ref a] ∧ args = [WData.list (ns.map WData.int)] ∧ h.get? a = some { cls := .type "list", data := .seq vs.toArray } ∧ IntsAre vs ns ∧ ns.length ≤ n := by
  have hsh : WShape.hasAll [] args [.list .int] = true := (pre_splitW hpre).1
  have hc : l.pre.holds [] { args := args } = true := (pre_splitW hpre).2
  obtain ⟨d, r, rfl, h1, h2⟩ := hasAllW_cons hsh
  obtain rfl := hasAllW_nil h2
  obtain ⟨xs, rfl, h3⟩ := hasW_list h1
  obtain ⟨ns, rfl⟩ := items_int h3
  have hlen : ns.length ≤ n := by
    unfold OpenLaw.pre at hc
    have h4 : (WTm.not (.lt (.lit (.int (n : Int))) (.len (.arg 0)))).holds [] { args := [.list (ns.map .int)] } = true := by
      have h4 := (holds_andW hc).1
      rw [hn] at h4
      exact h4
    have h5 := condW_of h4 (w_not (w_lt w_lit (w_len_list (w_arg rfl))))
    rw [List.length_map] at h5
    refine Nat.le_of_not_lt fun q => ?_
    have q' : (n : Int) < ((ns.length : Nat) : Int) := by omega
    first
      | (rw [decide_eq_true q'] at h5; exact absurd h5 (by decide))
      | (simp at h5; omega)
  cases hwl with
  | cons w1 w2 =>
    cases w2
    cases w1 with
    | list ho hall => exact ⟨_, _, ns, rfl, rfl, ho, ints_of_wellAll ns _ hall, hlen⟩
theorem post_true (l : OpenLaw) (args : List WData) : l.row.toRowW.claim.post args (.bool true) args = true :=
  postW_of (r := l.row.toRowW) (X := (true == true))
    (show WShape.has [] (.bool true) .bool = true by first | rfl | decide | simp [WShape.has, WShape.arms, WShape.armsAll])
    (show (WTm.eq .res (.lit (.bool true))).value [] { args := args, res := some (.bool true), after := args } = some (.bool (true == true)) from w_eq_bool (w_res rfl) w_lit) rfl
theorem attach_call {l : OpenLaw} {n : Nat} {q : Program} {loose : List Str} {XP : (Str → Option Value) → Heap → Prop} {YP : World → Heap → Prop} {d : DefRec}
    (hn : l.most = some n) (hdf : d.params.defaults = [])
    (call : ∀ (w : World) (s₀ s₁ : Shared) (mg mb : Str → Option Value) (fa : Addr) (o : Obj) (pm cd doc : Value) (a : Addr) (vs : List Value) (ns : List Int),
      Ground q loose [] XP w s₀ mg mb s₁.heap → YP w s₁.heap →
      s₁.heap.get? fa = some o → o.data = .func (docDef d.name d.params d.body d.scope pm cd doc) → s₁.heap.CodeRec cd d.name → mg d.name = some (.ref fa) →
      s₁.heap.get? a = some { cls := .type "list", data := .seq vs.toArray } → IntsAre vs ns → ns.length ≤ n → s₁.gens = #[] →
      codeAny (model l.prog w) callerA (.call (.ref fa) ⟨[.ref a], []⟩) (fun r s' => r = .ok (.ret (.bool true)) ∧ OldK s₁.heap s'.heap ∧ s'.os = s₁.os ∧ AllBare s'.gens) s₁) :
    WalkO q loose XP YP l.row.toRowW d [] (fun f vs => PySem.call f vs) := by
  intro w s₀ s₁ mg mb G Y fa o pm cd doc dV kV ho hd hcd hD hmg hg args vals as hpre hlay hrd hwl hlo
  obtain rfl : dV = .none := Dflts.none hD hdf
  obtain rfl : kV = .none := Dflts.noKw hD
  obtain ⟨a, vs, ns, rfl, rfl, hobj, hints, hlen⟩ := script_of hn hpre hwl
  refine enter_call (codeAny_mono (call w s₀ s₁ mg mb fa o pm cd doc a vs ns G Y ho (fd_plain hd) hcd hmg hobj hints hlen hg) fun r s' hq => ?_)
  obtain ⟨rfl, h2, h3, h4⟩ := hq
  exact ⟨.inl ⟨.bool true, .bool true, [], rfl, fun _ => rfl, .bool true, post_true l _, fun _ => ⟨List.Pairwise.nil, fun _ hm => (nomatch hm)⟩⟩, h2, h3, h4⟩
section
variable {prog : Program} {w : World} {A : Around} {E : Value → Shared → Prop} {s : Shared} {K : Frag}
noncomputable def ledger (h : Heap) (L d : Addr) : List (Addr × Obj) := (List.range h.objs.size).filterMap fun a => if a = L ∨ a = d then none else (h.get? a).map fun o => (a, o)
end
end Att
namespace L2
open PySem PySem.Spec PyProof.Rows
theorem vals_ints : ∀ {vs : List Value} {ns : List Int}, IntsAre vs ns → Vals (ns.map V.int) vs
  | _, _, .nil => .nil
  | _, _, .cons n t h => .cons ⟨t, rfl⟩ (vals_ints h)
def Only (H : Hp) : Prop := ∀ b, H b = none ∨ ∃ o xs, H b = some (.frz o (.lst xs))
theorem law_call {P : Program} {w : World} {K : PySem.W.Frag} {mg mb : Str → Option Value} {CX : CXT} {k : Nat} {fa a : Addr} {fd : FuncData} {x : Str} {sp : Sp} {s₁ : Shared} {vs : List Value} {ns : List Int}
    (KX : K.In s₁.heap) (hns : s₁.heap.Ns mainGlobals mg) (hb : s₁.heap.Ns builtinsNs mb) (hbb : ∀ x : Str, x ≠ "__name__" → mb x = bootBuiltins x) (hlim : s₁.heap.NoLimit) (hg : s₁.gens = #[])
    (ha : s₁.heap.get? a = some { cls := .type "list", data := .seq vs.toArray }) (hi : IntsAre vs ns) (hl : ns.length ≤ sizeLine) (hr : Room k callerA)
    (F : ∀ base : Heap, K.In base → base.Ns mainGlobals mg → FnOk P w K mg base CX k fa fd [x] sp) (hbind : ∀ (s : Shared) (u : Value), BindsTo s fd ⟨[u], []⟩ [(x, u)])
    (hsp : ∀ H : Hp, Only H → SqL K H a (ns.map V.int) → sp [.ref a] H (fun v _ => v = .bl true) fun _ _ _ => False)
    (hCX : ∀ H e s', CX [] H s₁ (fun _ _ _ => False) e s' → False) :
    codeAny (model P w) callerA (.call (.ref fa) ⟨[.ref a], []⟩) (fun r s' => r = .ok (.ret (.bool true)) ∧ OldK s₁.heap s'.heap ∧ s'.os = s₁.os ∧ AllBare s'.gens) s₁ := by
  have rv := vals_ints hi
  have lenV := hi.length
  -- from an abstract heap in which nothing but the script may be tracked
  have core : ∀ H : Hp, Only H → SqL K H a (ns.map V.int) → HOk P w H s₁.heap → (∀ b, H b ≠ none → b = a) → (H a ≠ none → K.lookup a = none) →
      codeAny (model P w) callerA (.call (.ref fa) ⟨[.ref a], []⟩) (fun r s' => r = .ok (.ret (.bool true)) ∧ OldK s₁.heap s'.heap ∧ s'.os = s₁.os ∧ AllBare s'.gens) s₁ := by
    intro H hO hS hok hA hK
    have base_of : ∀ {b : Addr} {o : Obj}, s₁.heap.get? b = some o → H b = none → (hidT s₁.heap H).get? b = some o := fun e n => hidT_get e n
    have noA : ∀ {b : Addr} {o : Obj} {es : Array DictEntry} {ep : Nat}, s₁.heap.get? b = some o → o.data = .dict es ep → H b = none := fun {b o es ep} e d => by
      cases q : H b with
      | none => rfl
      | some u =>
        have e' : b = a := hA b (by rw [q]; simp)
        subst e'
        rw [ha] at e; cases e
        have d' : Data.seq vs.toArray _ = Data.dict es ep := d
        cases d'
    have nsK : ∀ {b : Addr} {m : Str → Option Value}, s₁.heap.Ns b m → (hidT s₁.heap H).Ns b m := fun {b m} ⟨o, es, ep, e, d, r⟩ => ⟨o, es, ep, base_of e (noA e d), d, r⟩
    have hKb : K.In (hidT s₁.heap H) := fun b o e => base_of (KX b o e) (by
      cases q : H b with
      | none => rfl
      | some u =>
        have e' : b = a := hA b (by rw [q]; simp)
        subst e'
        rw [hK (by rw [q]; simp)] at e; cases e)
    have hM : Mod K mg (hidT s₁.heap H) := ⟨hKb, nsK hns, ⟨mb, nsK hb, hbb⟩, let ⟨mc, h1, h2⟩ := hlim; ⟨mc, nsK h1, h2⟩⟩
    have e0 : Env0 P w K mg (hidT s₁.heap H) callerA [] s₁ H := ⟨rfl, hM, fun b o e => of_hidT e, Nat.le_of_eq (hidT_size _ _), trivial, fun b hb => absurd (show b ∈ ([] : List Addr) from hb) (by simp), hok, .of_eq hg⟩
    refine codeAny_mono ((F _ hKb (nsK hns)).run callerA [] s₁ H ⟨[.ref a], []⟩ [.ref a] [.ref a] _ _ hr e0 (hbind s₁ (.ref a)) (.cons rfl .nil) (hsp H hO hS)) fun r s' h => ?_
    cases r with
    | error e => exact (hCX H e s' h).elim
    | ok fl =>
      cases fl with
      | next => exact False.elim h
      | brk => exact False.elim h
      | cont => exact False.elim h
      | ret u =>
        obtain ⟨v, H', os, bare, un, hok', r', q⟩ := h
        have q' : v = .bl true := q
        subst q'
        obtain rfl : u = Value.bool true := r'
        refine ⟨rfl, OldK.of_keep fun b o e => ?_, os, bare⟩
        cases q : H b with
        | none => exact un.keep b o e q (by intro z; exact absurd (show b ∈ ([] : List Addr) from z) (by simp)) (by simp)
        | some u =>
          rcases hO b with z | ⟨ob, xs, z⟩
          · rw [q] at z; cases z
          · have z2 := un.frzs b ob _ z
            obtain ⟨e1, _⟩ := hok b _ z
            obtain ⟨e2, _⟩ := hok' b _ z2
            rw [e] at e1; cases e1
            exact e2
  cases hk : K.lookup a with
  | some o =>
    -- the script is one of the module's own objects
    have e := KX a o hk
    rw [ha] at e
    cases e
    refine core (fun _ => none) (fun _ => .inl rfl) (.inr ⟨_, vs.toArray, _, hk, rfl, rfl, rfl, by rw [List.size_toArray, lenV]; exact hl, by simpa using rv⟩) (fun b u z => by have z' : (none : Option HO) = some u := z; cases z') (fun b z => absurd rfl z) fun z => absurd rfl z
  | none =>
    refine core (fun b => if b = a then some (.frz { cls := .type "list", data := .seq vs.toArray } (.lst (ns.map V.int))) else none) (fun b => ?_) (.inl (.inr ⟨{ cls := .type "list", data := .seq vs.toArray }, if_pos rfl⟩)) (fun b u z => ?_) (fun b z => ?_) fun _ => hk
    · by_cases hb : b = a
      · exact .inr ⟨_, _, if_pos hb⟩
      · exact .inl (if_neg hb)
    · by_cases hb : b = a
      · have z' := (if_pos hb).symm.trans z
        cases z'
        subst hb
        exact ⟨ha, by rw [List.length_map]; exact hl, vs, _, rv, ha⟩
      · have z' := (if_neg hb).symm.trans z
        cases z'
    · by_cases hb : b = a
      · exact hb
      · exact absurd (if_neg hb) z
theorem walk_of {l : PySem.W.OpenLaw} {n k : Nat} {q : Program} {loose : List Str} {XP : (Str → Option Value) → Heap → Prop} {YP : World → Heap → Prop} {d : DefRec} {K : Params → PySem.W.Frag} {CX : World → CXT} {sp : World → Sp} {x : Str}
    (hn : l.most = some n) (hn2 : n ≤ sizeLine) (hdf : d.params.defaults = []) (hr : Room k callerA)
    (hY : ∀ (w : World) (h : Heap), YP w h → (K w.params).In h)
    (F : ∀ (w : World) (mg : Str → Option Value) (fa : Addr) (h : Heap), (K w.params).In h → h.Ns mainGlobals mg → mg d.name = some (.ref fa) →
      ∃ fd : FuncData, (∀ (s : Shared) (u : Value), BindsTo s fd ⟨[u], []⟩ [(x, u)]) ∧
        ∀ base : Heap, (K w.params).In base → base.Ns mainGlobals mg → FnOk l.prog w (K w.params) mg base (CX w) k fa fd [x] (sp w))
    (hsp : ∀ (w : World) (H : Hp) (a : Addr) (ns : List Int), ns.length ≤ n → Only H → SqL (K w.params) H a (ns.map V.int) → sp w [.ref a] H (fun v _ => v = .bl true) fun _ _ _ => False)
    (hCX : ∀ (w : World) (H : Hp) (s : Shared) (e : Value) (s' : Shared), CX w [] H s (fun _ _ _ => False) e s' → False) :
    PySem.W.WalkO q loose XP YP l.row.toRowW d [] (fun f vs => PySem.call f vs) := by
  refine Att.attach_call hn hdf fun w s₀ s₁ mg mb fa o pm cd doc a vs ns G Y ho hd hcd hmg hobj hints hlen hg => ?_
  have KX := hY w _ Y
  obtain ⟨fd, hb, hF⟩ := F w mg fa _ KX G.T.g hmg
  exact law_call KX G.T.g G.T.b G.T.builtins G.T.nolimit hg hobj hints (Nat.le_trans hlen hn2) hr hF hb (fun H hO hS => hsp w H a ns hlen hO hS) fun H e s' => hCX w H s₁ e s'
noncomputable def defArgs (s : Stmt) : Arguments := match s with
  | .FunctionDef _ a _ _ _ _ _ _ _ _ => a
  | _ => { posonlyargs := [], args := [], vararg := none, kwonlyargs := [], kw_defaults := [], kwarg := none, defaults := [] }
noncomputable def defBody (s : Stmt) : List Stmt := match s with
  | .FunctionDef _ _ b _ _ _ _ _ _ _ => b
  | _ => []
noncomputable def defScope (s : Stmt) : Scope := match s with
  | .FunctionDef _ _ _ _ _ _ sc _ _ _ => sc
  | _ => { kind := .function, names := [], isGenerator := false, isCoroutine := false }
abbrev CX0 : CXT := fun _ _ _ _ _ _ => False
abbrev E0 : XK := fun _ _ _ => False
theorem pass0 {X : Cx} : Passes CX0 X E0 := fun _ _ _ _ _ _ _ h => h.elim
structure Fun (K : PySem.W.Frag) (x qual : Str) (st : Stmt) (f : Addr) (fd : FuncData) : Prop where
  ex : ∃ (oc : Value) (od : Option Addr) (kV doc pm : Value) (an : Option Addr) (cdv ct : Value) (osl : Array (Option Value)),
    fd = PySem.W.fnOf x qual (defArgs st) (defBody st) (defScope st) .none kV doc pm an cdv ct ∧ K.lookup f = some ⟨oc, od, .func fd, osl⟩ ∧ PySem.W.codeIn K cdv qual = true
  kp : PySem.W.keepIn K (.ref f) = true
section
variable {P : Program} {w : World} {K : PySem.W.Frag} {mg : Str → Option Value} {base : Heap}
theorem Fun.ok {x qual : Str} {st : Stmt} {f : Addr} {fd : FuncData} {N ps : List Str} {k : Nat} {sp : Sp} (F : Fun K x qual st f fd) (S : FnScope N ps (defScope st)) (len : ∀ vs H Q E, sp vs H Q E → vs.length = ps.length)
    (hbody : ∀ (cdv : Value) (A : Around) (outer : List Env) (s : Shared) (H : Hp) (vs : List V) (Q : VK) (E : XK), Room k (A.deeper (envOfC qual (defScope st) s.heap.objs.size f cdv)) → sp vs H Q E →
      ∃ t, PSs (cxOf CX0 P w K mg base N qual (defScope st) f cdv A outer s H E).nox (defBody st) t ∧ t { nx := fun _ H' => Q .non H', rt := Q } (start N vs) H) : FnOk P w K mg base CX0 (k + 1) f fd ps sp := by
  obtain ⟨oc, od, kV, doc, pm, an, cdv, ct, osl, rfl, lk, hcd⟩ := F.ex
  refine fn_of lk hcd S len fun A outer s H vs Q E hr hsp => ?_
  obtain ⟨t, h, q⟩ := hbody cdv A outer s H vs Q E hr hsp
  exact ⟨t, h.nox, q⟩
theorem Fun.binds {x qual : Str} {st : Stmt} {f : Addr} {fd : FuncData} {ps : List Str} (F : Fun K x qual st f fd)
    (h : ∀ (kV doc pm : Value) (an : Option Addr) (cdv ct : Value) (us : List Value), us.length = ps.length → bindArgs (PySem.W.fnOf x qual (defArgs st) (defBody st) (defScope st) .none kV doc pm an cdv ct) ⟨us, []⟩ = pure (ps.zip us)) : Binds K fd ps [] := by
  obtain ⟨oc, od, kV, doc, pm, an, cdv, ct, osl, rfl, lk, hcd⟩ := F.ex
  exact .all (h kV doc pm an cdv ct)
theorem fun_mk {x qual : Str} {st : Stmt} {f : Addr} {oc : Value} {od an : Option Addr} {osl : Array (Option Value)} {kV doc pm cdv ct : Value} (l : K.lookup f = some ⟨oc, od, .func (PySem.W.fnOf x qual (defArgs st) (defBody st) (defScope st) .none kV doc pm an cdv ct), osl⟩)
    (c : PySem.W.codeIn K cdv qual = true) (k : PySem.W.keepIn K (.ref f) = true) : Fun K x qual st f (PySem.W.fnOf x qual (defArgs st) (defBody st) (defScope st) .none kV doc pm an cdv ct) := ⟨⟨oc, od, kV, doc, pm, an, cdv, ct, osl, rfl, l, c⟩, k⟩
end
theorem hu_of {A : Around} {k : Nat} (hr : Room k A) : A.units + 1 < cLine := Nat.lt_of_le_of_lt (Nat.add_le_add_left (by decide : 1 ≤ 64) _) hr.units
theorem small1000 {n : Nat} (h : n ≤ 1000) : n < sizeLine := Nat.lt_of_le_of_lt h (by decide)
section
variable {X : Cx}
theorem pv (i : Nat) {x : Str} {pos : Pos} (hN : X.N[i]? = some x := by rfl) (hv : Vis X.env.scope x := by first | exact Or.inl rfl | exact Or.inr (Or.inl rfl) | exact Or.inr (Or.inr rfl)) (hd : (x == ("__debug__" : Str)) = false := by decide)
    (hcd : (x == ("__classdict__" : Str)) = false := by decide) : PE X (.Name x pos) (tVar i) := pe_var hN hv hd hcd
theorem call_lenD : CallR X (.builtin "len") (fun xs H Q => ∃ a kvs, xs = [V.ref a] ∧ H a = some (.dK kvs) ∧ Q (.int kvs.length) H) := by
  intro pins s σ H xs us Q I r h
  obtain ⟨a, kvs, rfl, ha, q⟩ := h
  obtain ⟨u, rfl, ru⟩ := vals1 r
  cases ru
  exact d_len I (.inl ha) fun t s' I' => ⟨.int kvs.length, H, I', ⟨t, rfl⟩, q⟩
end
theorem iteF {A B : Prop} (h : B) : if false = true then A else B := by
  rw [if_neg Bool.false_ne_true]
  exact h
theorem ite2 {c A B : Prop} [Decidable c] (h1 : c → A) (h2 : ¬ c → B) : if c then A else B := by
  by_cases h : c
  · rw [if_pos h]
    exact h1 h
  · rw [if_neg h]
    exact h2 h
def Same (H H' : Hp) : Prop := ∀ b o, H b = some o → H' b = some o
theorem Same.refl (H : Hp) : Same H H := fun _ _ h => h
theorem Same.trans {H H1 H2 : Hp} (a : Same H H1) (b : Same H1 H2) : Same H H2 := fun c o h => b c o (a c o h)
theorem Same.free {H H' : Hp} (e : Same H H') {l : Addr} (h : H' l = Option.none) : H l = Option.none := by
  cases q : H l with
  | none => rfl
  | some o =>
    rw [e l o q] at h
    cases h
theorem Same.seq {K : PySem.W.Frag} {H H' : Hp} {a : Addr} {xs : List V} (e : Same H H') (h : SqL K H a xs) : SqL K H' a xs := by
  rcases h with (h | ⟨o, h⟩) | h
  · exact .inl (.inl (e _ _ h))
  · exact .inl (.inr ⟨o, e _ _ h⟩)
  · exact .inr h
section
variable {κ : Type} [DecidableEq κ]
end
noncomputable def closL (env : Env) : List (Str × NameKind) → List (Str × Addr) → List (Str × Addr)
 | [], cs => cs
 | y :: r, cs => closL env r (if y.2 == NameKind.free then (y.1, (env.cells.lookup y.1).getD 0) :: cs else cs)
theorem forIn_closL {env : Env} (f : Str × NameKind → List (Str × Addr) → Sem (ForInStep (List (Str × Addr)))) :
  ∀ (ns : List (Str × NameKind)) (cs : List (Str × Addr)), (∀ y ∈ ns, ∀ c, f y c = pure (.yield (if y.2 == NameKind.free then (y.1, (env.cells.lookup y.1).getD 0) :: c else c))) →
   forIn ns cs f = pure (closL env ns cs)
 | [], cs, _ => rfl
 | y :: r, cs, h => by
  rw [List.forIn_cons, h y List.mem_cons_self, pure_bind]
  exact forIn_closL f r _ fun z hz => h z (List.mem_cons_of_mem _ hz)
theorem closureFor_of {env : Env} {scope : Scope} (h : ∀ y ∈ scope.names, y.2 = .free → ∃ c, env.cells.lookup y.1 = some c) :
  closureFor scope env = pure (closL env scope.names []) := by
 simp only [closureFor]
 rw [forIn_closL (env := env) _ _ _ (fun y hy c => ?_)]
 ·rfl
 ·obtain ⟨n, k⟩ := y
  cases hk : (k == NameKind.free) with
  | true =>
   obtain ⟨a, ha⟩ := h (n, k) hy (by simpa using hk)
   have ha' : env.cells.lookup n = some a := ha
   simp only [if_true, cellOf, ha', Option.getD_some, pure_bind]
  | false => simp only [Bool.false_eq_true, if_false]
theorem closL_sub {env : Env} : ∀ (ns : List (Str × NameKind)) (cs : List (Str × Addr)), (∀ y ∈ ns, y.2 = .free → ∃ c, env.cells.lookup y.1 = some c) →
  (∀ n c, cs.lookup n = some c → env.cells.lookup n = some c) → ∀ n c, (closL env ns cs).lookup n = some c → env.cells.lookup n = some c
 | [], cs, _, h, n, c, e => h n c e
 | y :: r, cs, hf, h, n, c, e => by
  refine closL_sub r _ (fun z hz => hf z (List.mem_cons_of_mem _ hz)) (fun n c e => ?_) n c e
  split at e
  ·rename_i hk
   obtain ⟨a, ha⟩ := hf y List.mem_cons_self (by simpa using hk)
   rw [ha, Option.getD_some] at e
   cases hn : n == y.1 with
   | true =>
    simp only [List.lookup_cons, hn] at e
    cases e
    rw [eq_of_beq hn]
    exact ha
   | false =>
    simp only [List.lookup_cons, hn] at e
    exact h n c e
  ·exact h n c e
theorem closL_has {env : Env} : ∀ (ns : List (Str × NameKind)) (cs : List (Str × Addr)) (n : Str), ((n, NameKind.free) ∈ ns ∨ (cs.lookup n).isSome = true) →
  ((closL env ns cs).lookup n).isSome = true
 | [], cs, n, h => by
  rcases h with h | h
  ·cases h
  ·exact h
 | y :: r, cs, n, h => by
  refine closL_has r _ n ?_
  rcases h with h | h
  ·rcases List.mem_cons.mp h with h | h
   ·right
    subst h
    simp
   ·exact .inl h
  ·right
   split
   ·cases hn : n == y.1 with
    | true => simp only [List.lookup_cons, hn]; rfl
    | false => simp only [List.lookup_cons, hn]; exact h
   ·exact h
noncomputable def rlab (env : Env) (n : Str) (k : NameKind) : NameKind := if (k == NameKind.free && env.scope.kind == .function && env.kindOf n == some .cell) = true then .cell else k
theorem relab_look (env : Env) (x : Str) : ∀ names : List (Str × NameKind),
  (names.map fun (n, k) => if (k == NameKind.free && env.scope.kind == .function && env.kindOf n == some .cell) then (n, NameKind.cell) else (n, k)).lookup x = (names.lookup x).map (rlab env x)
 | [] => rfl
 | (n, k) :: r => by
  have ih := relab_look env x r
  have e1 : (if (k == NameKind.free && env.scope.kind == .function && env.kindOf n == some .cell) = true then (n, NameKind.cell) else (n, k)) = (n, rlab env n k) := by
   unfold rlab
   split <;> rfl
  rw [List.map_cons]
  show List.lookup x ((if (k == NameKind.free && env.scope.kind == .function && env.kindOf n == some .cell) = true then (n, NameKind.cell) else (n, k)) :: _) = _
  rw [e1]
  cases hx : x == n with
  | true =>
   simp only [List.lookup_cons, hx]
   rw [eq_of_beq hx]
   rfl
  | false =>
   simp only [List.lookup_cons, hx]
   exact ih
theorem relabel_look (scope : Scope) (env : Env) (x : Str) : (relabel scope env).names.lookup x = (scope.names.lookup x).map (rlab env x) := relab_look env x scope.names
noncomputable def lcN (N xs : List Str) (mp : List Nat) : List Str := xs ++ mp.map fun j => N.getD j ""
noncomputable def lcS (k : Nat) (mp : List Nat) (σ : St) : St := List.replicate k none ++ mp.map fun j => (σ[j]?).getD none
structure LcOk (sc scope : Scope) (N xs : List Str) (mp : List Nat) : Prop where
 kind : scope.kind = .function
 nocell : ∀ y ∈ scope.names, y.2 ≠ .cell
 names : ∀ y ∈ scope.names, y.2 = .local → scope.names.lookup y.1 = some .local
 tg : ∀ x ∈ xs, scope.names.lookup x = some .local
 fr : ∀ y ∈ scope.names, y.2 = .free → sc.names.lookup y.1 = some .cell ∨ sc.names.lookup y.1 = some .free
 out : ∀ j ∈ mp, scope.names.lookup (N.getD j "") = some .free
 nd : (lcN N xs mp).Nodup
noncomputable def lcChk (sc scope : Scope) (N xs : List Str) (mp : List Nat) : Bool :=
 decide (scope.kind = .function) && scope.names.all (fun y => decide (y.2 ≠ .cell)) && scope.names.all (fun y => decide (y.2 = .local → scope.names.lookup y.1 = some .local)) &&
  xs.all (fun x => decide (scope.names.lookup x = some .local)) && scope.names.all (fun y => decide (y.2 = .free → sc.names.lookup y.1 = some .cell ∨ sc.names.lookup y.1 = some .free)) &&
  mp.all (fun j => decide (scope.names.lookup (N.getD j "") = some .free)) && decide (lcN N xs mp).Nodup
theorem lcChk_ok {sc scope : Scope} {N xs : List Str} {mp : List Nat} (h : lcChk sc scope N xs mp = true) : LcOk sc scope N xs mp := by
 simp only [lcChk, Bool.and_eq_true, List.all_eq_true, decide_eq_true_eq] at h
 obtain ⟨⟨⟨⟨⟨⟨h1, h2⟩, h3⟩, h4⟩, h5⟩, h6⟩, h7⟩ := h
 exact ⟨h1, h2, h3, h4, h5, h6, h7⟩
noncomputable abbrev lcx (X : Cx) (M : List Str) (scope : Scope) (cl : List (Str × Addr)) (C : Addr) (s₀ : Shared) (H₀ : Hp) (fp : List Addr) : Cx where
 prog := X.prog
 w := X.w
 K := X.K
 mg := X.mg
 base := X.base
 A := X.A
 N := M
 s₀ := s₀
 H₀ := H₀
 env := compEnvC scope cl C X.env
 outer := X.stack
 stack := X.stack
 ex := fp
 fn := fun _ => false
 calm := X.calm
 pn := []
 xe := fun _ _ => False
section
variable {X : Cx} {pins : List (Addr × Obj)} {σ : St} {H₀ : Hp} {s₀ : Shared} {scope sc : Scope} {N xs : List Str} {mp : List Nat} {fp : List Addr}
theorem lc_cells (I : Inv X pins σ H₀ s₀) (hsc : X.env.scope = sc) (S : LcOk sc scope N xs mp) : ∀ y ∈ scope.names, y.2 = .free → ∃ c, X.env.cells.lookup y.1 = some c := fun y hy e => by
 refine I.ok.has y.1 ?_
 have q := S.fr y hy e
 rw [← hsc] at q
 exact q
theorem lc_sub (I : Inv X pins σ H₀ s₀) (hsc : X.env.scope = sc) (S : LcOk sc scope N xs mp) {n : Str} {c : Addr} (e : (closL X.env scope.names []).lookup n = some c) : X.env.cells.lookup n = some c :=
 closL_sub scope.names [] (lc_cells I hsc S) (fun _ _ z => nomatch z) n c e
theorem lc_inv {h₁ : Heap} {o : Obj} {m : Str → Option Value} {tk : Nat} (I : Inv X pins σ H₀ s₀) (hsc : X.env.scope = sc) (S : LcOk sc scope N xs mp) (hf : ∀ b ∈ fp, FpOk X pins H₀ b)
  (hx : ∀ b ∈ fp, ∃ ob, s₀.heap.get? b = some ob) (hns : h₁.Ns s₀.heap.objs.size m) (hsb : Heap.SameBut s₀.heap.objs.size (s₀.heap.push o) h₁) :
  Inv (lcx X (lcN N xs mp) scope (closL X.env scope.names []) s₀.heap.objs.size s₀ H₀ fp) [] (List.replicate (xs.length + mp.length) none) H₀ { s₀ with heap := h₁, toks := tk } := by
 have kp : ∀ b u, s₀.heap.get? b = some u → h₁.get? b = some u := fun b u e => hsb.extBut b u (Nat.ne_of_lt (Heap.lt_size e)) (Heap.get?_push_of_some _ e)
 have sub := @lc_sub X pins σ H₀ s₀ scope sc N xs mp I hsc S
 refine ⟨⟨I.ok.mod, S.kind, I.ok.glob, I.ok.blt, Nat.le_refl _, fun x y c e1 e2 => I.ok.inj x y c (sub e1) (sub e2), fun x hk => ?_, fun x c h _ => (Bool.false_ne_true h).elim, I.ok.hd, I.ok.frames, .inl rfl,
  fun b hb => ⟨?_, fun x c e => (hf b hb).2.2.2.2.1 x c (sub e)⟩, fun b o e => I.bs b o e, Nat.le_trans I.ok.bsz I.sz, fun b o e hb => ?_, fun b hb z => ?_, I.stack, I.stkFree⟩,
  rfl, I.bare, Un.kept kp, ⟨m, hns, fun i x v _ e2 _ => ?_⟩, fun x c e => ?_, I.hok.fresh (Nat.le_refl _), fun x c e => I.freeC x c (sub e), fun p hp => absurd (show p ∈ ([] : List (Addr × Obj)) from hp) (by simp), I.hok.kept kp, ?_⟩
 ·have hk' : (relabel scope X.env).names.lookup x = some .cell ∨ (relabel scope X.env).names.lookup x = some .free := hk
  rw [relabel_look] at hk'
  cases e : scope.names.lookup x with
  | none => rw [e] at hk'; rcases hk' with z | z <;> cases z
  | some k =>
   have mem : (x, k) ∈ scope.names := PySem.mem_of_lookup e
   have hkf : k = .free := by
    rw [e] at hk'
    have n1 := S.nocell _ mem
    simp only [Option.map_some, Option.some.injEq] at hk'
    unfold rlab at hk'
    split at hk'
    ·rename_i hc
     simp only [Bool.and_eq_true] at hc
     simpa using hc.1.1
    ·rcases hk' with z | z
     ·exact absurd z n1
     ·exact z
   subst hkf
   exact Option.isSome_iff_exists.mp (closL_has scope.names [] x (.inl mem))
 ·obtain ⟨ob, e⟩ := hx b hb
  exact Nat.ne_of_lt (Heap.lt_size e)
 ·rcases (hf b hb).2.2.2.1 with z | z
  ·exact I.ok.noex b o e z
  ·exact absurd (Nat.lt_of_lt_of_le (Heap.lt_size (I.ok.bs b o e).1) z) (Nat.lt_irrefl _)
 ·rcases List.mem_cons.mp (I.stkSub b z) with e | e
  ·exact (hf b hb).2.1 e
  ·exact (hf b hb).2.2.1 e
 ·rw [List.getElem?_replicate] at e2
  split at e2 <;> cases e2
 ·obtain ⟨v, ob, ho, hd⟩ := I.cell x c (sub e)
  exact ⟨v, ob, kp c ob ho, hd⟩
 ·show (List.replicate (xs.length + mp.length) none : St).length = (lcN N xs mp).length
  simp [lcN]
theorem lc_reset {pY : List (Addr × Obj)} {σ' : St} {H : Hp} {s' : Shared} {C : Addr} (I : Inv X pins σ H₀ s₀) (hsc : X.env.scope = sc) (hN : X.N = N) (S : LcOk sc scope N xs mp) (hf : ∀ b ∈ fp, FpOk X pins H₀ b)
  (J : Inv (lcx X (lcN N xs mp) scope (closL X.env scope.names []) C s₀ H₀ fp) pY σ' H s') : Inv (lcx X (lcN N xs mp) scope (closL X.env scope.names []) C s₀ H₀ fp) pY (lcS xs.length mp σ) H s' := by
 obtain ⟨m, hn, _⟩ := J.loc
 refine ⟨J.ok, J.os, J.bare, J.base, ⟨m, hn, fun i x v e1 e2 e3 => ?_⟩, J.cell, J.free, J.freeC, J.pin, J.hok, ?_⟩
 ·have e1' : (lcN N xs mp)[i]? = some x := e1
  unfold lcN at e1'
  unfold lcS at e2
  by_cases hi : i < xs.length
  ·rw [List.getElem?_append_left (by simpa using hi), List.getElem?_replicate, if_pos hi] at e2
   cases e2
  ·rw [List.getElem?_append_right (by simpa using hi), List.length_replicate, List.getElem?_map] at e2
   rw [List.getElem?_append_right (by simpa using hi), List.getElem?_map] at e1'
   cases ej : mp[i - xs.length]? with
   | none => rw [ej] at e2; cases e2
   | some j =>
    rw [ej] at e1' e2
    have e1'' : N.getD j "" = x := Option.some.inj e1'
    have e2' : (σ[j]?).getD none = some v := Option.some.inj e2
    have e2'' : σ[j]? = some (some v) := by
     cases q : σ[j]? with
     | none => rw [q] at e2'; cases e2'
     | some z => rw [q] at e2'; exact congrArg some e2'
    have hj : j < N.length := by
     have h1 := (List.getElem?_eq_some_iff.mp e2'').1
     rw [I.len, hN] at h1
     exact h1
    have eN : N[j]? = some x := by
     rw [← e1'', List.getD_eq_getElem?_getD]
     cases q : N[j]? with
     | none => exact absurd (List.getElem?_eq_none_iff.mp q) (by omega)
     | some z => rfl
    have fr : scope.names.lookup x = some .free := by rw [← e1'']; exact S.out j (List.mem_of_getElem? ej)
    have mem : (x, NameKind.free) ∈ scope.names := PySem.mem_of_lookup fr
    have kX : X.env.scope.names.lookup x = some .cell ∨ X.env.scope.names.lookup x = some .free := by
     rw [hsc]
     exact S.fr _ mem rfl
    obtain ⟨mX, hnX, hl⟩ := I.loc
    obtain ⟨u, r, lk⟩ := hl j x v (by rw [hN]; exact eN) e2'' (.inr kX)
    rcases lk with ⟨k, _⟩ | ⟨k, c, hc, hcell⟩
    ·have k' : X.env.scope.names.lookup x = some .local := k
     rw [k'] at kX
     rcases kX with z | z <;> cases z
    ·refine ⟨u, r, .inr ⟨?_, c, ?_, ?_⟩⟩
     ·show (relabel scope X.env).names.lookup x = some .cell ∨ (relabel scope X.env).names.lookup x = some .free
      rw [relabel_look, fr]
      simp only [Option.map_some]
      unfold rlab
      split
      ·exact .inl rfl
      ·exact .inr rfl
     ·obtain ⟨c', e'⟩ := Option.isSome_iff_exists.mp (closL_has (env := X.env) scope.names [] x (.inl mem))
      have e'' := lc_sub I hsc S e'
      rw [hc] at e''
      cases e''
      exact e'
     ·obtain ⟨ob, ho, hd⟩ := hcell
      obtain ⟨sl, q⟩ := J.base.any ho (I.freeC x c hc) fun z => (hf c z).2.2.2.2.1 x c hc rfl
      exact ⟨_, q, hd⟩
 ·show (lcS xs.length mp σ).length = (lcN N xs mp).length
  simp [lcS, lcN]
theorem lc_back {pY : List (Addr × Obj)} {σ' : St} {H : Hp} {s' : Shared} {C : Addr} {M : List Str} {cl : List (Str × Addr)} (I : Inv X pins σ H₀ s₀) (hf : ∀ b ∈ fp, FpOk X pins H₀ b)
  (J : Inv (lcx X M scope cl C s₀ H₀ fp) pY σ' H s') : Inv X pins σ H s' :=
 I.call' (ch := fp) J.os J.base J.hok J.bare fun b hb => ⟨(hf b hb).2.2.2.1, (hf b hb).2.1, (hf b hb).2.2.2.2.1, (hf b hb).2.2.2.2.2⟩
end
theorem compLoop_of {prog : Program} {w : World} {A : Around} {R : Result → Shared → Prop} {s : Shared} {elt target iter : Expr} {ifs : List Expr} {scope : Scope} {pos : Pos} {it acc : Value} {env : Env} (I : Nat → Shared → Prop)
  (turn : ∀ n s, I n s → wpAny (model prog w) A (pyNext it) (fun r s1 => match r with
   | none => R (.ok .next) s1
   | some v => wpAny (model prog w) A (letOwnedTupleGo target it v) (fun _ s1' => wpAny (model prog w) A (assign target env v) (fun _ s2 =>
     wpAny (model prog w) A (forIn ifs true fun c r => if r = true then do let ok ← isTrue c env (eval c env); pure (ForInStep.yield ok) else pure (ForInStep.yield r)) (fun ok s3 =>
      if ok = true then wpAny (model prog w) A (eval elt env) (fun x s4 => wpAny (model prog w) A (call (.builtin "list.append") [acc, x]) (fun _ s5 => ∃ m, m < n ∧ I m s5) (fun _ _ => False) s4) (fun _ _ => False) s3
      else ∃ m, m < n ∧ I m s3) (fun _ _ => False) s2) (fun _ _ => False) s1') (fun _ _ => False) s1) (fun _ _ => False) s)
  (n : Nat) (h : I n s) : codeAny (model prog w) A (.compLoop (.ListComp elt [⟨target, iter, ifs, 0⟩] scope pos) 0 it acc env) R s := by
 refine codeAny_loop rfl I (fun n s hI => ?_) n h
 show wpAny (model prog w) A ((compTurn (.ListComp elt [⟨target, iter, ifs, 0⟩] scope pos) 0 it acc env).onRaise (fun x => do noteFrame x env; theTreesLotGoes x)) _ _ s
 refine wpAny_noted ?_
 rw [compTurn_list]
 refine wpAny_bind (wpAny_standAt (wpAny_bind (wpAny_mono (turn n s hI) (fun r s1 h1 => ?_) fun _ _ z => z.elim)))
 cases r with
 | none => exact wpAny_pure h1
 | some v =>
  refine wpAny_bind (wpAny_mono h1 (fun _ s1' h1' => ?_) fun _ _ z => z.elim)
  refine wpAny_bind (wpAny_mono h1' (fun _ s2 h2 => wpAny_bind (wpAny_mono h2 (fun ok s3 h3 => ?_) fun _ _ z => z.elim)) fun _ _ z => z.elim)
  cases ok with
  | false => exact wpAny_pure ⟨rfl, h3⟩
  | true => exact wpAny_bind (wpAny_bind (wpAny_mono h3 (fun x s4 h4 => wpAny_bind (wpAny_mono h4 (fun _ s5 h5 => wpAny_pure (wpAny_pure ⟨rfl, h5⟩)) fun _ _ z => z.elim)) fun _ _ z => z.elim))
def PCs (X : Cx) (ifs : List Expr) (t : TT) : Prop :=
 ∀ (pins : List (Addr × Obj)) (s : Shared) (σ : St) (H : Hp) (Q : Bool → Hp → Prop), Inv X pins σ H s → t σ H Q →
  wpAny (model X.prog X.w) X.A (forIn ifs true fun c r => if r = true then do let ok ← isTrue c X.env (eval c X.env); pure (ForInStep.yield ok) else pure (ForInStep.yield r)) (TP X pins σ Q) X.xe s
def tYes : TT := fun _ H Q => Q true H
theorem pcs_nil {X : Cx} : PCs X [] tYes := fun _ _ _ H _ I h => wpAny_tests_nil ⟨H, I, h⟩
theorem pcs_one {X : Cx} {c : Expr} {t : TT} (h : PT X c t) : PCs X [c] t := fun pins s σ H Q I hw => wpAny_tests_one (h pins s σ H Q I hw)
def lcPost (k : Nat) (mp : List Nat) (σ : St) (g : TG) (tc : TT) (te : TE) (J : It) (H1 : Hp) (Q : VK) : Prop :=
 ∀ D, H1 D = none → ∃ W : Nat → Nat → List V → Hp → Prop, (∃ m, W 0 m [] (upd H1 D (.lst []))) ∧ ∀ i m acc H2, W i m acc H2 →
  (J.stop i H2 ∧ Q (.ref D) H2) ∨ (J.go i H2 ∧ ∀ x H3, J.yld i H2 x H3 → g x (lcS k mp σ) H3 fun σ4 H4 => tc σ4 H4 fun b H5 =>
   if b = true then te σ4 H5 fun v H6 => H6 D = some (.lst acc) ∧ acc.length < sizeLine ∧ ∃ m', m' < m ∧ W (i + 1) m' (acc ++ [v]) (upd H6 D (.lst (acc ++ [v])))
   else ∃ m', m' < m ∧ W (i + 1) m' acc H5)
def tLc (k : Nat) (mp : List Nat) (wi : TI) (g : TG) (tc : TT) (te : TE) : TE := fun σ H Q => wi σ H fun J H1 => lcPost k mp σ g tc te J H1 Q
section
variable {X : Cx} {pins : List (Addr × Obj)} {σ : St} {elt tgt iter : Expr} {ifs : List Expr} {scope sc : Scope} {pos : Pos} {N xs : List Str} {mp : List Nat} {wi : TI} {g : TG} {tc : TT} {te : TE}
theorem lc_run {H2 : Hp} {s2 : Shared} {it : Addr} {fp : List Addr} {tn : Nat → Heap → Prop} {J : It} {Qv : VK} {E : Value → Shared → Prop} {RR : Value → Addr → Result → Shared → Prop}
  (hsc : X.env.scope = sc) (hN : X.N = N) (S : LcOk sc scope N xs mp) (hcalm : X.calm = true)
  (hg : ∀ cl C s₀ H₀ fp, PG (lcx X (lcN N xs mp) scope cl C s₀ H₀ fp) tgt g) (hc : ∀ cl C s₀ H₀ fp, PCs (lcx X (lcN N xs mp) scope cl C s₀ H₀ fp) ifs tc) (he : ∀ cl C s₀ H₀ fp, PE (lcx X (lcN N xs mp) scope cl C s₀ H₀ fp) elt te)
  (I2 : Inv X pins σ H2 s2) (T : Turn X.prog X.w X.K tgt J fp it tn) (st2 : tn 0 s2.heap) (f2 : ∀ b ∈ fp, FpOk X pins H2 b) (h : lcPost xs.length mp σ g tc te J H2 Qv)
  (hRR : ∀ (D C : Addr) (s' : Shared) (H' : Hp) (m : Str → Option Value), s'.heap.Ns C m → Inv X pins σ H' s' → FpOk X pins H' C → Qv (.ref D) H' → RR (.ref D) C (.ok .next) s') :
  wpAny (model X.prog X.w) X.A (newList []) (fun acc s3 => wpAny (model X.prog X.w) X.A (newFunctionEnv scope X.env.globals (closL X.env scope.names []) [] X.env.qual none .none (some X.env)) (fun cenv s4 =>
   codeAny (model X.prog X.w) X.A (.compStart (.ListComp elt [⟨tgt, iter, ifs, 0⟩] scope pos) 0 (.ref it) acc { cenv with scope := relabel scope X.env }) (RR acc cenv.locals) s4) E s3) E s2 := by
 have hD : H2 s2.heap.objs.size = none := I2.hok.fresh (Nat.le_refl _)
 obtain ⟨W, ⟨m0, w0⟩, turn⟩ := h s2.heap.objs.size hD
 refine wpAny_newObj_type (wpAny_newFunctionEnv S.nocell (by intro y hy; simp at hy) (fun h1 hns1 hsb1 => ?_) S.kind)
 dsimp only at hns1 hsb1 ⊢
 have fpD : ∀ b ∈ fp, b ≠ s2.heap.objs.size := fun b hb => by
  obtain ⟨o, e, _⟩ := T.obj _ _ st2 b hb
  exact Nat.ne_of_lt (Heap.lt_size e)
 have I3 : Inv X pins σ (upd H2 s2.heap.objs.size (.lst [])) { s2 with heap := s2.heap.push { cls := .type "list", dict := none, data := .seq ([] : List Value).toArray } } :=
  I2.laid (t' := s2.toks) (fun b u e => Heap.get?_push_of_some _ e) (Nat.le_refl _) ⟨Nat.zero_le _, [], 0, .nil, Heap.get?_push_size _ rfl⟩
 have f3 : ∀ b ∈ fp, FpOk X pins (upd H2 s2.heap.objs.size (.lst [])) b := fun b hb => ⟨by rw [upd_ne (fpD b hb)]; exact (f2 b hb).1, (f2 b hb).2⟩
 generalize hs3 : ({ s2 with heap := s2.heap.push { cls := .type "list", dict := none, data := .seq ([] : List Value).toArray } } : Shared) = s3 at I3
 have hh3 : s2.heap.push { cls := .type "list", dict := none, data := .seq ([] : List Value).toArray } = s3.heap := by rw [← hs3]
 have kp3 : ∀ b o, s2.heap.get? b = some o → s3.heap.get? b = some o := fun b o e => by rw [← hh3]; exact Heap.get?_push_of_some _ e
 rw [hh3] at hns1 hsb1 ⊢
 have st3 : tn 0 s3.heap := T.keep _ _ _ st2 fun b _ o e => kp3 b o e
 have x3 : ∀ b ∈ fp, ∃ o, s3.heap.get? b = some o := fun b hb => by
  obtain ⟨o, e, _⟩ := T.obj _ _ st3 b hb
  exact ⟨o, e⟩
 have st4 : tn 0 h1 := T.keep _ _ _ st3 fun b _ o e => hsb1.extBut b o (Nat.ne_of_lt (Heap.lt_size e)) (Heap.get?_push_of_some _ e)
 have I4 := fun tk => lc_reset I3 hsc hN S f3 (lc_inv (tk := tk) I3 hsc S f3 x3 hns1 hsb1)
 have key : ∀ s4 : Shared, s4 = { s3 with heap := h1, toks := s4.toks } → codeAny (model X.prog X.w) X.A (.compLoop (.ListComp elt [⟨tgt, iter, ifs, 0⟩] scope pos) 0 (.ref it) (.ref s2.heap.objs.size) (compEnvC scope (closL X.env scope.names []) s3.heap.objs.size X.env))
   (RR (.ref s2.heap.objs.size) s3.heap.objs.size) s4 := by
  intro s4 hs4
  have stat : ∀ {H' : Hp}, (∀ b ∈ fp, H' b = none) → ∀ b ∈ fp, FpOk (lcx X (lcN N xs mp) scope (closL X.env scope.names []) s3.heap.objs.size s3 (upd H2 s2.heap.objs.size (.lst [])) fp) [] H' b := fun hn b hb =>
   ⟨hn b hb, ((I4 0).ok.exf b hb).1, (I4 0).ok.exfs b hb, .inl hb, ((I4 0).ok.exf b hb).2, fun p hp => absurd (show p ∈ ([] : List (Addr × Obj)) from hp) (by simp)⟩
  refine compLoop_of (fun n s' => ∃ i acc H', Inv (lcx X (lcN N xs mp) scope (closL X.env scope.names []) s3.heap.objs.size s3 (upd H2 s2.heap.objs.size (.lst [])) fp) [] (lcS xs.length mp σ) H' s' ∧ tn i s'.heap ∧ (∀ b ∈ fp, H' b = none) ∧ W i n acc H') ?_ m0
   ⟨0, [], _, (by rw [hs4]; exact I4 _), (by rw [hs4]; exact st4), fun b hb => (f3 b hb).1, w0⟩
  rintro n s6 ⟨i, acc, H6, I6, st6, fr6, w6⟩
  rcases turn i n acc H6 w6 with ⟨stop, q⟩ | ⟨go, step⟩
  ·refine thn (T.done (lcx X (lcN N xs mp) scope (closL X.env scope.names []) s3.heap.objs.size s3 (upd H2 s2.heap.objs.size (.lst [])) fp) rfl rfl rfl hcalm i [] s6 _ H6 _ I6 (stat fr6) st6 stop) fun r s7 ⟨hr, I7⟩ => ?_
   subst hr
   obtain ⟨m7, hn7, _⟩ := I7.loc
   exact hRR _ _ s7 H6 m7 hn7 (lc_back I3 f3 I7) (I3.fpOk (Nat.le_refl _) I7.free) q
  ·refine thn (T.item (lcx X (lcN N xs mp) scope (closL X.env scope.names []) s3.heap.objs.size s3 (upd H2 s2.heap.objs.size (.lst [])) fp) rfl rfl rfl hcalm i [] s6 _ H6 _ I6 (stat fr6) st6 go) fun r s7 ⟨u, hr, h7⟩ => ?_
   subst hr
   refine thn h7 fun _ s8 ⟨x, H8, I8, r8, y8, st8, fr8⟩ => ?_
   have I8' := I8.pinned (stat fr8) (T.obj _ _ st8)
   have again : ∀ {σ' : St} {H' : Hp} {s' : Shared}, Inv (lcx X (lcN N xs mp) scope (closL X.env scope.names []) s3.heap.objs.size s3 (upd H2 s2.heap.objs.size (.lst [])) fp) ([] ++ pinsAt fp s8.heap) σ' H' s' → (∃ m acc', m < n ∧ W (i + 1) m acc' H') →
     ∃ m, m < n ∧ ∃ i acc H', Inv (lcx X (lcN N xs mp) scope (closL X.env scope.names []) s3.heap.objs.size s3 (upd H2 s2.heap.objs.size (.lst [])) fp) [] (lcS xs.length mp σ) H' s' ∧ tn i s'.heap ∧ (∀ b ∈ fp, H' b = none) ∧ W i m acc H' := by
    intro σ' H' s' J ⟨m, acc', hm, w'⟩
    refine ⟨m, hm, i + 1, acc', H', lc_reset I3 hsc hN S f3 J.unpinned, T.keep _ _ _ st8 fun b hb o e => (J.pin (b, o) (List.mem_append_right _ (List.mem_append_right _ (mem_pinsAt hb e)))).1, fun b hb => ?_, w'⟩
    obtain ⟨o, e, _⟩ := T.obj _ _ st8 b hb
    exact (J.pin (b, o) (List.mem_append_right _ (List.mem_append_right _ (mem_pinsAt hb e)))).2.1
   refine thn (hg _ _ _ _ _ _ s8 _ H8 x u _ I8' r8 (step x H8 y8)) fun _ s9 ⟨σ9, H9, I9, q9⟩ => ?_
   refine thn (hc _ _ _ _ _ _ s9 σ9 H9 _ I9 q9) fun b s10 ⟨H10, I10, q10⟩ => ?_
   cases b with
   | false =>
    obtain ⟨m', hm, w'⟩ := q10
    exact again I10 ⟨m', acc, hm, w'⟩
   | true =>
    refine thn (he _ _ _ _ _ _ s10 σ9 H10 _ I10 q10) fun yv s11 ⟨v, H11, I11, r11, hDa, hz, m', hm, w'⟩ => ?_
    refine thn (mt_append _ s11 σ9 H11 (.ref s2.heap.objs.size) [v] (.ref s2.heap.objs.size) [yv] (fun _ H12 => H12 = upd H11 s2.heap.objs.size (.lst (acc ++ [v]))) I11 rfl (.cons r11 .nil) ⟨_, acc, v, rfl, rfl, hDa, hz, rfl⟩) fun _ s12 ⟨_, H12, I12, _, e12⟩ => ?_
    subst e12
    exact again I12 ⟨m', _, hm, w'⟩
 subst hs3
 exact codeAny_compStart_list (key _ rfl) (T.self X.A 0 _ _ _ st4 (key _ rfl))
theorem pe_lcomp (sc : Scope) (N xs : List Str) (mp : List Nat) (hcalm : X.calm = true) (hi : PI X tgt iter wi) (hg : ∀ cl C s₀ H₀ fp, PG (lcx X (lcN N xs mp) scope cl C s₀ H₀ fp) tgt g)
  (hc : ∀ cl C s₀ H₀ fp, PCs (lcx X (lcN N xs mp) scope cl C s₀ H₀ fp) ifs tc) (he : ∀ cl C s₀ H₀ fp, PE (lcx X (lcN N xs mp) scope cl C s₀ H₀ fp) elt te)
  (S : lcChk sc scope N xs mp = true := by decide +kernel) (hsc : X.env.scope = sc := by rfl) (hN : X.N = N := by rfl) (hs : ∀ x, foldedSetIterable iter X.env x = pure x := by intro _; rfl) :
  PE X (.ListComp elt [⟨tgt, iter, ifs, 0⟩] scope pos) (tLc xs.length mp wi g tc te) := by
 intro pins s σ H Q I h
 have S' := lcChk_ok S
 rw [eval_ListComp]
 refine wpAny_comprehension_free (use := none) rfl hs (closureFor_of (lc_cells I hsc S')) S'.kind S'.names (thn (hi pins s σ H _ I h) fun v s1 h1 => thn h1 fun itv s2 h2 => ?_)
 obtain ⟨it, fp, tn, J, H2, e, I2, T, st2, f2, h3⟩ := h2
 subst e
 refine lc_run (RR := fun acc C => compPost (model X.prog X.w) X.A X.xe none (EP X pins σ Q) acc C) hsc hN S' hcalm hg hc he I2 T st2 f2 h3 ?_
 intro D C s' H' m hn I' fC q
 exact ⟨m, hn, fun h' hs' => ⟨.ref D, H', I'.turned (t' := s'.toks) (fun b o hb e => hs'.extBut b o hb e) fC.1 fC.2.1 fC.2.2.2.1 fC.2.2.2.2.1 fC.2.2.2.2.2, rfl, q⟩⟩
theorem ps_lcomp {i : Nat} {x : Str} {pos' spos : Pos} (sc : Scope) (N xs : List Str) (mp : List Nat) (hNd : X.N.Nodup) (hix : X.N[i]? = some x) (hx : Loc X.env.scope x) (hcalm : X.calm = true) (hi : PI X tgt iter wi) (hg : ∀ cl C s₀ H₀ fp, PG (lcx X (lcN N xs mp) scope cl C s₀ H₀ fp) tgt g)
  (hc : ∀ cl C s₀ H₀ fp, PCs (lcx X (lcN N xs mp) scope cl C s₀ H₀ fp) ifs tc) (he : ∀ cl C s₀ H₀ fp, PE (lcx X (lcN N xs mp) scope cl C s₀ H₀ fp) elt te)
  (S : lcChk sc scope N xs mp = true := by decide +kernel) (hsw : swapsWith (.ListComp elt [⟨tgt, iter, ifs, 0⟩] scope pos) (some (.Name x pos')) spos.line X.env = pure true := by rfl)
  (hsc : X.env.scope = sc := by rfl) (hN : X.N = N := by rfl) (hs : ∀ x, foldedSetIterable iter X.env x = pure x := by intro _; rfl) (hf : X.fn x = true ∨ X.env.scope.names.lookup x = some .local := by first | exact .inl rfl | exact .inr rfl | assumption) :
  PS X (.Assign [.Name x pos'] (.ListComp elt [⟨tgt, iter, ifs, 0⟩] scope pos) spos) (tAsg (tLc xs.length mp wi g tc te) (gName i)) := by
 intro pins s σ H D I h
 have S' := lcChk_ok S
 rw [exec_Assign_Name_used _ _ _ _ hsw]
 refine wpAny_bind (wpAny_standAt (wpAny_bind ?_))
 show wpAny (model X.prog X.w) X.A (do let _ ← comprehension (.ListComp elt [⟨tgt, iter, ifs, 0⟩] scope pos) scope X.env _ (newList []) false (eval iter X.env) (some (assign (.Name x pos') X.env))) _ _ s
 refine wpAny_bind (wpAny_mono (wpAny_comprehension_free (use := some (assign (.Name x pos') X.env)) (Q := fun _ s' => SP X pins D .next s') rfl hs (closureFor_of (lc_cells I hsc S')) S'.kind S'.names
  (thn (hi pins s σ H _ I h) fun v s1 h1 => thn h1 fun itv s2 h2 => ?_)) (fun _ s' hq => wpAny_pure (wpAny_pure hq)) fun _ _ e => e)
 obtain ⟨it, fp, tn, J, H2, e, I2, T, st2, f2, h3⟩ := h2
 subst e
 refine lc_run (RR := fun acc C => compPost (model X.prog X.w) X.A X.xe (some (assign (.Name x pos') X.env)) (fun _ s' => SP X pins D .next s') acc C) hsc hN S' hcalm hg hc he I2 T st2 f2 h3 ?_
 intro D' C s' H' m hn I' fC q
 show wpAny (model X.prog X.w) X.A (assign (.Name x pos') X.env (.ref D')) _ _ s'
 refine wpAny_assign_Name (store_ok2 I' hNd hix hx (v := .ref D') rfl (fun s'' I'' ⟨a, sb, ha⟩ => ?_) hf)
 have nC : C ≠ a := by
  rcases ha with z | z
  ·rw [z]; exact fC.2.1
  ·exact fun e => fC.2.2.2.2.1 x a z e.symm
 refine ⟨m, hn.sameBut sb nC, fun h' hs' => ⟨_, H', I''.turned (t' := s''.toks) (fun b o hb e => hs'.extBut b o hb e) fC.1 fC.2.1 fC.2.2.2.1 fC.2.2.2.2.1 fC.2.2.2.2.2, q⟩⟩
end
def TSame (H H' : Hp) : Prop := ∀ b xs, H b = some (.tup xs) → H' b = some (.tup xs)
theorem Same.tup {H H' : Hp} (h : Same H H') : TSame H H' := fun b xs e => h b _ e
theorem TSame.trans {H H1 H2 : Hp} (a : TSame H H1) (b : TSame H1 H2) : TSame H H2 := fun c xs e => b c xs (a c xs e)
theorem tsame_upd_lst {H : Hp} {D : Addr} {xs ys : List V} (h : H D = some (.lst xs)) : TSame H (upd H D (.lst ys)) := fun b zs e => by
 rw [upd_ne (fun z => by rw [z, h] at e; cases e)]
 exact e
theorem same_upd_new {H : Hp} {D : Addr} {o : HO} (h : H D = none) : Same H (upd H D o) := fun b u e => by
 rw [upd_ne (ne_of_none e h)]
 exact e
theorem lc_map {k : Nat} {mp : List Nat} {σ : St} {g : TG} {te : TE} {J : It} {H1 : Hp} {Q : VK} (n : Nat) (xs : Nat → V) (R : Nat → V → Hp → Prop) (hn : n ≤ sizeLine)
  (hR : ∀ i v H H', TSame H H' → R i v H → R i v H')
  (hJ : ∀ H, Same H1 H → (∀ i, i < n → J.go i H ∧ ∀ x H', J.yld i H x H' → H' = H ∧ x = xs i) ∧ J.stop n H)
  (step : ∀ i H (Qe : VK), i < n → Same H1 H → (∀ v H6, Same H H6 → R i v H6 → Qe v H6) → g (xs i) (lcS k mp σ) H fun σ4 H4 => te σ4 H4 Qe)
  (done : ∀ D vs H', vs.length = n → (∀ i v, vs[i]? = some v → R i v H') → Same H1 H' → H1 D = none → H' D = some (.lst vs) → Q (.ref D) H') : lcPost k mp σ g tYes te J H1 Q := by
 intro D hD
 refine ⟨fun i m acc H => m = n - i ∧ i ≤ n ∧ acc.length = i ∧ Same H1 H ∧ H D = some (.lst acc) ∧ ∀ j v, acc[j]? = some v → R j v H, ⟨n, by simp, Nat.zero_le _, rfl, same_upd_new hD, upd_same, fun j v e => by simp at e⟩, ?_⟩
 rintro i m acc H ⟨rfl, hi, hl, hs, hDa, hr⟩
 obtain ⟨j1, j2⟩ := hJ H hs
 by_cases hlt : i < n
 ·refine .inr ⟨(j1 i hlt).1, fun x H3 y => ?_⟩
  obtain ⟨e1, e2⟩ := (j1 i hlt).2 x H3 y
  subst e1 e2
  refine step i H3 _ hlt hs fun v H6 s6 r6 => ⟨s6 _ _ hDa, by omega, n - (i + 1), by omega, rfl, hlt, by rw [List.length_append, hl]; rfl, fun b o e => ?_, upd_same, fun j u e => ?_⟩
  ·rw [upd_ne (ne_of_none e hD)]
   exact s6 _ _ (hs b o e)
  ·have ts : TSame H6 (upd H6 D (.lst (acc ++ [v]))) := tsame_upd_lst (s6 _ _ hDa)
   rcases Nat.lt_trichotomy j acc.length with h | h | h
   ·rw [List.getElem?_append_left h] at e
    exact hR _ _ _ _ (s6.tup.trans ts) (hr j u e)
   ·subst h
    rw [List.getElem?_append_right (Nat.le_refl _), Nat.sub_self] at e
    cases e
    rw [hl]
    exact hR _ _ _ _ ts r6
   ·rw [List.getElem?_eq_none (by rw [List.length_append, List.length_singleton]; omega)] at e
    cases e
 ·have e : i = n := by omega
  subst e
  exact .inl ⟨j2, done D acc H hl hr hs hD hDa⟩
theorem jt_list {K : PySem.W.Frag} {a : Addr} {ys : List V} {H1 : Hp} (h : SqL K H1 a ys) : ∀ H, Same H1 H → (∀ i, i < ys.length → (Itl K a).go i H ∧ ∀ x H', (Itl K a).yld i H x H' → H' = H ∧ x = ys.getD i .non) ∧ (Itl K a).stop ys.length H := fun H s => by
 have q := s.seq h
 refine ⟨fun i hi => ⟨⟨ys, ys[i], q, by simp [hi]⟩, fun x H' y => ⟨y.1, ?_⟩⟩, ⟨ys, q, Nat.le_refl _⟩⟩
 have e := y.2 ys q
 rw [List.getD_eq_getElem?_getD, e]
 rfl
theorem Same.tupS {K : PySem.W.Frag} {H H' : Hp} {a : Addr} {xs : List V} (e : Same H H') (h : SqT K H a xs) : SqT K H' a xs := by
 rcases h with (h | ⟨o, h⟩) | h
 ·exact .inl (.inl (e _ _ h))
 ·exact .inl (.inr ⟨o, e _ _ h⟩)
 ·exact .inr h
theorem jt_tup {K : PySem.W.Frag} {a : Addr} {ys : List V} {H1 : Hp} (h : SqT K H1 a ys) : ∀ H, Same H1 H → (∀ i, i < ys.length → (Itt K a).go i H ∧ ∀ x H', (Itt K a).yld i H x H' → H' = H ∧ x = ys.getD i .non) ∧ (Itt K a).stop ys.length H := fun H s => by
 have q := s.tupS h
 refine ⟨fun i hi => ⟨⟨ys, ys[i], q, by simp [hi]⟩, fun x H' y => ⟨y.1, ?_⟩⟩, ⟨ys, q, Nat.le_refl _⟩⟩
 have e := y.2 ys q
 rw [List.getD_eq_getElem?_getD, e]
 rfl
theorem jt_range {lo : Int} {n : Nat} {H1 : Hp} : ∀ H, Same H1 H → (∀ i, i < n → (Itr lo n).go i H ∧ ∀ x H', (Itr lo n).yld i H x H' → H' = H ∧ x = .int (lo + i)) ∧ (Itr lo n).stop n H := fun H _ =>
 ⟨fun i hi => ⟨hi, fun x H' y => y⟩, Nat.le_refl _⟩
section
variable {X : Cx}
def rSlS : V → Option Int → Option Int → Hp → VK → Prop := fun x lo hi H Q => ∃ z : Str, x = .str z ∧ z.length ≤ sizeLine ∧ Q (.str (Txt.slice z lo hi)) H
theorem sl_str : SlR X rSlS := by
 intro pins s σ H x v vl vu lo hi sl Q I rx hs pl pu h
 obtain ⟨z, rfl, hz, q⟩ := h
 obtain ⟨t, rfl⟩ := rx
 have fin : ∀ t' k, EP X pins σ Q (.str (Txt.slice z lo hi) t') { s with toks := k } := fun t' k => ⟨.str _, H, I.tok _, ⟨_, rfl⟩, q⟩
 have hle : (Txt.slice z lo hi).length ≤ sizeLine := Nat.le_trans (Txt.slice_le z _ _) hz
 cases pl with
 | none =>
  cases pu with
  | none => exact ⟨"str", _, F.slot_str_getitem.lookup, typeIs_str _ _ _, wpAny_getItem_str_slice (l := none) (u := none) (st := none) hs rfl (post_val_or_str ⟨hle, fin⟩)⟩
  | int j u => exact ⟨"str", _, F.slot_str_getitem.lookup, typeIs_str _ _ _, wpAny_getItem_str_slice (l := none) (u := some (j, u)) (st := none) hs rfl (post_val_or_str ⟨hle, fin⟩)⟩
 | int i u' =>
  cases pu with
  | none => exact ⟨"str", _, F.slot_str_getitem.lookup, typeIs_str _ _ _, wpAny_getItem_str_slice (l := some (i, u')) (u := none) (st := none) hs rfl (post_val_or_str ⟨hle, fin⟩)⟩
  | int j u => exact ⟨"str", _, F.slot_str_getitem.lookup, typeIs_str _ _ _, wpAny_getItem_str_slice (l := some (i, u')) (u := some (j, u)) (st := none) hs rfl (post_val_or_str ⟨hle, fin⟩)⟩
theorem op_mulS : OpR X (binaryOp .Mult) (fun x y H Q => ∃ (z : Str) (n : Int), x = .str z ∧ y = .int n ∧ MulOk z n ∧ Q (.str (Txt.mul z n)) H) := by
 intro pins s σ H x y v u Q I rx ry h
 obtain ⟨z, n, rfl, rfl, hok, q⟩ := h
 obtain ⟨t, rfl⟩ := rx
 obtain ⟨t', rfl⟩ := ry
 exact SB.mul hok fun t' k => ⟨.str _, H, I.tok _, ⟨_, rfl⟩, q⟩
theorem strsAre_of : ∀ {ss : List Str} {us : List Value}, Vals (ss.map V.str) us → StrsAre us ss
 | [], _, r => by
  cases r
  exact .nil
 | x :: ss, _, r => by
  cases r with
  | cons r1 r2 =>
   obtain ⟨t, e⟩ := r1
   subst e
   exact .cons x t (strsAre_of r2)
def rJoin (K : PySem.W.Frag) : V → List V → Hp → VK → Prop := fun x vs H Q => ∃ (z : Str) (a : Addr) (ys : List Str), x = .str z ∧ vs = [.ref a] ∧ SqL K H a (ys.map V.str) ∧ (ys.map (·.length)).sum + ys.length * z.length ≤ 16777216 ∧ Q (.str (Txt.join z ys)) H
theorem mt_join : MtR X "str.join" (rJoin X.K) := by
 intro pins s σ H x vs v us Q I rx rv h
 obtain ⟨z, a, ys, rfl, rfl, hq, hz, q⟩ := h
 obtain ⟨t, rfl⟩ := rx
 obtain ⟨u, rfl, ru⟩ := vals1 rv
 cases ru
 obtain ⟨its, r, pl, _⟩ := I.list hq
 exact join_list pl.isList (strsAre_of (by simpa using r)) hz fun t' k => ⟨.str _, H, I.tok _, ⟨_, rfl⟩, q⟩
theorem preSum_list : ∀ (ns : List Int) (k : Nat), preSum (fun i => ns.getD i 0) k = (ns.take k).sum
 | ns, 0 => by simp [preSum]
 | ns, k + 1 => by
  rw [preSum, preSum_list ns k]
  by_cases h : k < ns.length
  ·rw [List.take_add_one, List.getElem?_eq_getElem h, List.getD_eq_getElem?_getD, List.getElem?_eq_getElem h]
   simp only [List.sum_append, Option.toList_some, List.sum_cons, List.sum_nil, Option.getD_some]
   omega
  ·have h' : ns.length ≤ k := Nat.le_of_not_lt h
   rw [List.take_of_length_le h', List.take_of_length_le (Nat.le_succ_of_le h'), List.getD_eq_getElem?_getD, List.getElem?_eq_none h']
   simp
theorem call_sumL (hc : X.calm = true) : CallR X (.builtin "sum") (fun xs H Q => ∃ (a : Addr) (ns : List Int), xs = [.ref a] ∧ SqL X.K H a (ns.map V.int) ∧ (∀ n ∈ ns, InLong n) ∧ (∀ k, InLong (ns.take k).sum) ∧ Q (.int ns.sum) H) := by
 intro pins s σ H xs us Q I r h
 obtain ⟨a, ns, rfl, hq, h1, h2, q⟩ := h
 obtain ⟨u, rfl, ru⟩ := vals1 r
 cases ru
 obtain ⟨its, rv, pl, hz⟩ := I.list hq
 have hl := rv.length
 rw [List.length_map] at hl
 have hlt : a < s.heap.objs.size := by
  obtain ⟨o, n, e, _⟩ := pl
  exact Heap.lt_size e
 refine call_sum_walk (wpAny_pyIter_list pl.isList ⟨s.heap.objs.size, [s.heap.objs.size, a], [s.heap.objs.size], its.toArray.size, _, _, fun i => ns.getD i 0, rfl, Walks.list (A := X.A.in1) (I.ok.hd hc) _ _ (Nat.ne_of_lt hlt) its.toArray,
  ⟨⟨_, Heap.get?_push_size _ rfl, rfl, rfl⟩, pl.isList.push _⟩, ?_, ?_, ?_, ?_⟩)
 ·intro b hb
  show b < (s.heap.push _).objs.size
  rw [Heap.size_push]
  have : b = s.heap.objs.size ∨ b = a := by simpa using hb
  rcases this with z | z
  ·rw [z]; exact Nat.lt_succ_self _
  ·rw [z]; exact Nat.lt_succ_of_lt hlt
 ·intro i v hv
  have e1 : its[i]? = some v := by simpa using hv
  have hi : i < its.length := (List.getElem?_eq_some_iff.mp e1).1
  have hb : (ns.map V.int)[i]? = some (.int (ns.getD i 0)) := by
   rw [List.getElem?_map, List.getD_eq_getElem?_getD]
   cases e : ns[i]? with
   | none => exact absurd (List.getElem?_eq_none_iff.mp e) (by omega)
   | some b => rfl
  obtain ⟨u', hu, ru⟩ := rv.get hb
  rw [e1] at hu
  cases hu
  exact ru
 ·intro j hj
  have hj' : j < ns.length := by rw [hl]; simpa using hj
  refine ⟨?_, ?_⟩
  ·show InLong (ns.getD j 0)
   rw [List.getD_eq_getElem?_getD, List.getElem?_eq_getElem hj']
   exact h1 _ (List.getElem_mem hj')
  ·rw [preSum_list]
   exact h2 _
 ·intro h' tk t' kk
  refine ⟨.int ns.sum, H, I.kept fun b o e => kk b o (by simpa using Nat.ne_of_lt (Heap.lt_size e)) (Heap.get?_push_of_some _ e), ⟨t', ?_⟩, q⟩
  rw [preSum_list, List.take_of_length_le (by rw [List.size_toArray]; omega)]
noncomputable def clsV : V → Option Value
 | .ty n => some (.type n)
 | .ref a => some (.ref a)
 | _ => none
theorem call_isi : CallR X (.builtin "isinstance") (fun xs H Q => ∃ (x c : V) (t cv : Value) (b : Bool), xs = [x, c] ∧ TyOf X.K H x t ∧ clsV c = some cv ∧ PySem.W.kitOne X.K t cv = some b ∧ Q (.bl b) H) := by
 intro pins s σ H xs us Q I r h
 obtain ⟨x, c, t, cv, b, rfl, ty, rc, e, q⟩ := h
 obtain ⟨u, w', rfl, ru, rw'⟩ := vals2 r
 have ec : w' = cv := by
  cases c with
  | ty n => exact (show w' = Value.type n from rw').trans (Option.some.inj rc)
  | ref n => exact (show w' = Value.ref n from rw').trans (Option.some.inj rc)
  | _ => cases rc
 subst ec
 exact isinst_ok I ru ty e fun tk => ⟨.bl b, H, I.tok _, rfl, q⟩
end
mutual
def RepD (H : Hp) : PyData → V → Prop
 | .none, v => v = .non
 | .bool b, v => v = .bl b
 | .int i, v => v = .int i
 | .str x, v => v = .str x
 | .tuple ds, v => ∃ a xs, v = .ref a ∧ H a = some (.tup xs) ∧ RepA H ds xs
 | .list ds, v => ∃ a xs, v = .ref a ∧ H a = some (.lst xs) ∧ RepA H ds xs
 | .dict _, _ => False
def RepA (H : Hp) : List PyData → List V → Prop
 | [], xs => xs = []
 | d :: ds, xs => ∃ v vs, xs = v :: vs ∧ RepD H d v ∧ RepA H ds vs
end
mutual
theorem RepD.same {H H' : Hp} (h : Same H H') : ∀ (d : PyData) (v : V), RepD H d v → RepD H' d v
 | .none, _, r => r
 | .bool _, _, r => r
 | .int _, _, r => r
 | .str _, _, r => r
 | .tuple ds, v, r => by
  rw [RepD] at r ⊢
  obtain ⟨a, xs, e, e2, q⟩ := r
  exact ⟨a, xs, e, h _ _ e2, RepA.same h ds xs q⟩
 | .list ds, v, r => by
  rw [RepD] at r ⊢
  obtain ⟨a, xs, e, e2, q⟩ := r
  exact ⟨a, xs, e, h _ _ e2, RepA.same h ds xs q⟩
 | .dict _, v, r => by
  rw [RepD] at r
  exact r.elim
theorem RepA.same {H H' : Hp} (h : Same H H') : ∀ (ds : List PyData) (vs : List V), RepA H ds vs → RepA H' ds vs
 | [], _, r => r
 | d :: ds, vs, r => by
  rw [RepA] at r ⊢
  obtain ⟨v, us, e, q1, q2⟩ := r
  exact ⟨v, us, e, RepD.same h d v q1, RepA.same h ds us q2⟩
end
section
variable {X : Cx} {pins : List (Addr × Obj)} {σ : St} {H : Hp} {s : Shared}
mutual
theorem RepD.reads (I : Inv X pins σ H s) : ∀ (d : PyData) (v : V) (u : Value), RepD H d v → RelV v u → ∃ as, Reads s.heap u d as
 | .none, v, u, r, q => by
  rw [RepD] at r
  subst r
  cases q
  exact ⟨_, .none⟩
 | .bool b, v, u, r, q => by
  rw [RepD] at r
  subst r
  cases q
  exact ⟨_, .bool b⟩
 | .int i, v, u, r, q => by
  rw [RepD] at r
  subst r
  obtain ⟨t, rfl⟩ := q
  exact ⟨_, .int i t⟩
 | .str x, v, u, r, q => by
  rw [RepD] at r
  subst r
  obtain ⟨t, rfl⟩ := q
  exact ⟨_, .str x t⟩
 | .tuple ds, v, u, r, q => by
  rw [RepD] at r
  obtain ⟨a, xs, e, e2, q2⟩ := r
  subst e
  cases q
  obtain ⟨its, rv, ⟨o, h1, h2, n, h3⟩, _⟩ := I.tuple (SqT.of e2)
  obtain ⟨as, q3⟩ := RepA.reads I ds xs its q2 rv
  exact ⟨_, .tuple h1 h2 h3 (by simpa using q3)⟩
 | .list ds, v, u, r, q => by
  rw [RepD] at r
  obtain ⟨a, xs, e, e2, q2⟩ := r
  subst e
  cases q
  obtain ⟨its, rv, ⟨o, n, h1, h2, _, h3⟩, _⟩ := I.list (SqL.of e2)
  obtain ⟨as, q3⟩ := RepA.reads I ds xs its q2 rv
  exact ⟨_, .list h1 h2 h3 (by simpa using q3)⟩
 | .dict _, v, u, r, q => by
  rw [RepD] at r
  exact r.elim
theorem RepA.reads (I : Inv X pins σ H s) : ∀ (ds : List PyData) (vs : List V) (us : List Value), RepA H ds vs → Vals vs us → ∃ as, ReadsAll s.heap us ds as
 | [], vs, us, r, q => by
  rw [RepA] at r
  subst r
  cases q
  exact ⟨_, .nil⟩
 | d :: ds, vs, us, r, q => by
  rw [RepA] at r
  obtain ⟨v, vs', e, q1, q2⟩ := r
  subst e
  cases q with
  | cons p1 p2 =>
   obtain ⟨as, r1⟩ := RepD.reads I d v _ q1 p1
   obtain ⟨bs, r2⟩ := RepA.reads I ds vs' _ q2 p2
   exact ⟨_, .cons r1 r2⟩
end
end
section
variable {X : Cx}
theorem op_eqD (hu : X.A.units + 64 < cLine) : OpR X (compareOp .Eq) (fun x y H Q => ∃ da db, RepD H da x ∧ RepD H db y ∧ SeqAt.shaped da = true ∧ SeqAt.shaped db = true ∧ Q (.bl (PyData.eqv da db)) H) := by
 intro pins s σ H x y v u Q I rx ry h
 obtain ⟨da, db, r1, r2, s1, s2, q⟩ := h
 obtain ⟨as, q1⟩ := RepD.reads I da x v r1 rx
 obtain ⟨bs, q2⟩ := RepD.reads I db y u r2 ry
 exact eq_dataH q1 q2 s1 s2 hu ⟨.bl _, H, I, rfl, q⟩
end
structure HasDef (K : PySem.W.Frag) (mg : Str → Option Value) (name : Str) (st : Stmt) (ps : List Str) : Prop where
 ex : ∃ f fd, Fun K name name st f fd ∧ Binds K fd ps [] ∧ mg name = some (.ref f)
structure FOk (P : Program) (w : World) (K : PySem.W.Frag) (mg : Str → Option Value) (base : Heap) (k : Nat) (name : Str) (ps : List Str) (sp : Sp) : Prop where
 ex : ∃ f fd, FnOk P w K mg base CX0 k f fd ps sp ∧ Binds K fd ps [] ∧ mg name = some (.ref f) ∧ PySem.W.keepIn K (.ref f) = true
section
variable {P : Program} {w : World} {K : PySem.W.Frag} {mg : Str → Option Value} {base : Heap}
theorem HasDef.ok {name : Str} {st : Stmt} {N ps : List Str} {k : Nat} {sp : Sp} (D : HasDef K mg name st ps) (S : FnScope N ps (defScope st)) (len : ∀ vs H Q E, sp vs H Q E → vs.length = ps.length)
  (hbody : ∀ (f : Addr) (cdv : Value) (A : Around) (outer : List Env) (s : Shared) (H : Hp) (vs : List V) (Q : VK) (E : XK), Room k (A.deeper (envOfC name (defScope st) s.heap.objs.size f cdv)) → sp vs H Q E →
   ∃ t, PSs (cxOf CX0 P w K mg base N name (defScope st) f cdv A outer s H E).nox (defBody st) t ∧ t { nx := fun _ H' => Q .non H', rt := Q } (start N vs) H) : FOk P w K mg base (k + 1) name ps sp := by
 obtain ⟨f, fd, F, b, m⟩ := D.ex
 exact ⟨f, fd, F.ok S len fun cdv A outer s H vs Q E => hbody f cdv A outer s H vs Q E, b, m, F.kp⟩
theorem FOk.mono {name : Str} {ps : List Str} {j k : Nat} {sp : Sp} (G : FOk P w K mg base j name ps sp) (h : j ≤ k) : FOk P w K mg base k name ps sp := by
 obtain ⟨f, fd, F, r⟩ := G.ex
 exact ⟨f, fd, F.mono h, r⟩
end
theorem pe_fn {X : Cx} {k : Nat} {name : Str} {ps : List Str} {sp : Sp} {p pos : Pos} {e : Expr} {es : List Expr} {t : TA} (G : FOk X.prog X.w X.K X.mg X.base k name ps sp) (hr : Room k X.A) (ha : PA X (e :: es) t) (hg : Gl X name := by rfl)
  (hdb : (name == ("__debug__" : Str)) = false := by decide) (he : starEach (e :: es) X.env = (false, eval e X.env) :: starEach es X.env := by rfl) (hpl : (backTo pos (starEach es X.env)).any (·.1) = false := by rfl) :
  PE X (.Call (.Name name p) (e :: es) [] pos) (tCall sp [] E0 t) := by
 obtain ⟨f, fd, F, b, m, kp⟩ := G.ex
 exact pe_call F hr hg m kp b .nil pass0 ha hdb he hpl
inductive TyB (H : Hp) : V → String → Prop where
 | non : TyB H .non "NoneType"
 | bl (b : Bool) : TyB H (.bl b) "bool"
 | int (i : Int) : TyB H (.int i) "int"
 | str (x : Str) : TyB H (.str x) "str"
 | lst {a : Addr} {xs : List V} (e : H a = some (.lst xs)) : TyB H (.ref a) "list"
 | tup {a : Addr} {xs : List V} (e : H a = some (.tup xs)) : TyB H (.ref a) "tuple"
 | dK {a : Addr} {kvs : List (Key × V)} (e : H a = some (.dK kvs)) : TyB H (.ref a) "dict"
theorem TyB.of {K : PySem.W.Frag} {H : Hp} {x : V} {n : String} (h : TyB H x n) : TyOf K H x (.type n) := by
 cases h with
 | non => exact .non
 | bl b => exact .bl b
 | int i => exact .int i
 | str x => exact .str x
 | lst e => exact .lst e
 | tup e => exact .tup e
 | dK e => exact .dK e
noncomputable def tyNames : List String := ["NoneType", "bool", "int", "str", "list", "tuple", "dict"]
theorem TyB.mem {H : Hp} {x : V} {n : String} (h : TyB H x n) : n ∈ tyNames := by
 cases h <;> simp [tyNames]
noncomputable def isiB (n c : String) : Bool := n == c || (n == "bool" && c == "int")
noncomputable def clNames : List String := ["int", "bool", "str", "tuple", "list"]
noncomputable def kitB (a b : String) : Option Bool := if (Value.type a == Value.type b) = true then some true else if PySem.W.kitMeta b = true then (fastBuiltinMro a).map (·.contains (Value.type b)) else none
theorem kitB_ok : ∀ n ∈ tyNames, ∀ c ∈ clNames, kitB n c = some (isiB n c) := by decide +kernel
theorem call_isiB {X : Cx} : CallR X (.builtin "isinstance") (fun xs H Q => ∃ (x : V) (c n : String), xs = [x, .ty c] ∧ c ∈ clNames ∧ TyB H x n ∧ Q (.bl (isiB n c)) H) := by
 intro pins s σ H xs us Q I r h
 obtain ⟨x, c, n, rfl, hc, ty, q⟩ := h
 exact call_isi pins s σ H _ us Q I r ⟨x, .ty c, _, _, _, rfl, ty.of, rfl, kitB_ok n ty.mem c hc, q⟩
theorem b_isi : bootBuiltins "isinstance" = some (.builtin "isinstance") := by decide +kernel
theorem b_len : bootBuiltins "len" = some (.builtin "len") := by decide +kernel
theorem b_sum : bootBuiltins "sum" = some (.builtin "sum") := by decide +kernel
theorem b_min : bootBuiltins "min" = some (.builtin "min") := by decide +kernel
theorem b_sorted : bootBuiltins "sorted" = some (.builtin "sorted") := by decide +kernel
theorem b_int : bootBuiltins "int" = some (.type "int") := by decide +kernel
theorem b_bool : bootBuiltins "bool" = some (.type "bool") := by decide +kernel
theorem b_str : bootBuiltins "str" = some (.type "str") := by decide +kernel
theorem b_tuple : bootBuiltins "tuple" = some (.type "tuple") := by decide +kernel
theorem b_list : bootBuiltins "list" = some (.type "list") := by decide +kernel
theorem b_dict : bootBuiltins "dict" = some (.type "dict") := by decide +kernel
theorem pe_ty {X : Cx} {x : Str} {c : String} {pos : Pos} (hg : Gl X x) (hm : X.mg x = none) (hv : bootBuiltins x = some (.type c)) (hn : x ≠ "__name__" := by decide) (hd : (x == ("__debug__" : Str)) = false := by decide) : PE X (.Name x pos) (tC (.ty c)) :=
 pe_bltn hg hm hv (show RelV (.ty c) (.type c) from rfl) hn hd
theorem pg_lc {X : Cx} {N xs : List Str} {mp : List Nat} {scope : Scope} {cl : List (Str × Addr)} {C : Addr} {s₀ : Shared} {H₀ : Hp} {fp : List Addr} (i : Nat) {x : Str} {pos : Pos} (nd : (lcN N xs mp).Nodup := by decide +kernel) (hi : (lcN N xs mp)[i]? = some x := by rfl)
  (hx : (lcx X (lcN N xs mp) scope cl C s₀ H₀ fp).env.scope.names.lookup x = some .local := by rfl) : PG (lcx X (lcN N xs mp) scope cl C s₀ H₀ fp) (.Name x pos) (gName i) := pg_name nd hi (.inl hx) (.inr hx)
def tx (l : List Nat) : Str := ⟨l.toArray⟩
theorem tx_list (l : List Nat) : (tx l).cps.toList = l := by simp [tx]
theorem tx_len (l : List Nat) : (tx l).length = l.length := by simp [tx, Str.length]
theorem tx_eta (x : Str) : tx x.cps.toList = x := by simp [tx]
theorem tx_inj {a b : List Nat} (h : tx a = tx b) : a = b := by
 have := congrArg (fun x : Str => x.cps.toList) h
 simpa [tx] using this
theorem ix_tupK {X : Cx} (K : PySem.W.Frag) (h : X.K = K := by rfl) : IxR X (rIxT K) := by subst h; exact ix_tup
theorem ix_listK {X : Cx} (K : PySem.W.Frag) (h : X.K = K := by rfl) : IxR X (rIxL K) := by subst h; exact ix_list
theorem call_lenK {X : Cx} (K : PySem.W.Frag) (h : X.K = K := by rfl) : CallR X (.builtin "len") (fun xs H Q => ∃ x n, xs = [x] ∧ LenV K x H n ∧ Q (.int n) H) := by subst h; exact call_len
theorem size_small {n : Nat} (h : n ≤ 16777216) : n ≤ sizeLine := by rw [sizeLine_eq]; exact h
end L2
namespace L2
open PySem PySem.Spec PyProof.Rows PySem.Builtin.Str
section
variable {X : Cx}
theorem pg_tupK {es : List Expr} {k : Nat} {t : TGs} {pos : Pos} (n : Nat) (K : PySem.W.Frag) (hc : X.calm = true) (h : PGs X es t) (hK : X.K = K := by rfl)
  (hn : (assignEach es X.env).length = n := by rfl) (hst : (assignEach es X.env).findIdx? (·.1) = none := by rfl) : PG X (.Tuple es k pos) (gTup K n t) := by
 subst hK
 exact pg_tup hc h hn hst
end
theorem len_codes (x : Str) : x.cps.toList.length = x.length := by simp [Str.length]
theorem slice_to_codes {x : Str} {n : Int} (h : 0 ≤ n) : (Txt.slice x none (some n)).cps.toList = x.cps.toList.take n.toNat := by
 by_cases c : n ≤ x.length
 ·have e := eq_of_beq (slice_closes_toL (x := x) h c)
  rw [e]
  simp
 ·have e1 := slice_to_beyond (x := x) (j := n) (by omega)
  have e2 := eq_of_beq (slice_closes_toL (x := x) (j := x.length) (by omega) (Int.le_refl _))
  rw [e1, e2, List.take_of_length_le (l := x.cps.toList) (i := n.toNat) (by rw [len_codes]; omega)]
  simp [Str.length]
  exact List.take_of_length_le (by simp)
theorem slice_mid_codes {x : Str} {i j : Int} (h0 : 0 ≤ i) (h1 : i ≤ j) (h2 : j ≤ x.length) : (Txt.slice x (some i) (some j)).cps.toList = (x.cps.toList.drop i.toNat).take (j - i).toNat := by
 have e := eq_of_beq (slice_closesL (x := x) h0 h1 h2)
 rw [e]
theorem foldl_arr : ∀ (l : List (Array Nat)) (a : Array Nat), (l.foldl (· ++ ·) a).toList = a.toList ++ (l.map Array.toList).flatten
 | [], a => by simp
 | b :: l, a => by
  rw [List.foldl_cons, foldl_arr l]
  simp
theorem mul_codes {x : Str} {n : Int} (h : 1 ≤ n) (hx : x.length ≠ 0) : (Txt.mul x n).cps.toList = (List.replicate n.toNat x.cps.toList).flatten := by
 unfold Txt.mul
 rw [if_neg (by omega)]
 split
 ·rename_i c
  simp only [Bool.or_eq_true, beq_iff_eq] at c
  rcases c with c | c
  ·subst c
   simp
  ·exact absurd c hx
 ·rw [foldl_arr]
  simp
theorem mulOk_of {x : Str} {n : Int} (h1 : 1 ≤ n) (h2 : n ≤ 1000) (h3 : x.length ≤ 1000) : MulOk x n := by
 refine ⟨?_, ?_, ?_⟩
 ·have a : ¬ n < -(2 ^ 63) := by omega
  have b : ¬ n ≥ 2 ^ 63 := by omega
  rw [decide_eq_false a, decide_eq_false b]
  rfl
 ·intro _ _ q
  have : (1000 : Int) ≤ (2 ^ 63 - 1) / n := by
   rw [Int.le_ediv_iff_mul_le (by omega)]
   omega
  omega
 ·intro _ _
  have : x.length * n.toNat ≤ 1000 * 1000 := Nat.mul_le_mul h3 (by omega)
  unfold tooLong
  have hs : sizeLine = 16777216 := sizeLine_eq
  exact decide_eq_false (by omega)
theorem menu_at {ns : List Int} {i : Int} (h0 : 0 ≤ i) (h1 : i < ns.length) : atI (ns.map V.int) i = some (.int (ns.getD i.toNat 0)) := by
 obtain ⟨j, rfl⟩ := Int.eq_ofNat_of_zero_le h0
 refine atI_nat ?_
 have hj : j < ns.length := by omega
 rw [List.getElem?_map, List.getElem?_eq_getElem hj, Int.toNat_natCast, List.getD_eq_getElem?_getD, List.getElem?_eq_getElem hj]
 rfl
theorem item_at {α : Type} {l : List α} {i : Int} {c : α} (h0 : 0 ≤ i) (h : l[i.toNat]? = some c) : atI l i = some c := by
 obtain ⟨j, rfl⟩ := Int.eq_ofNat_of_zero_le h0
 exact atI_nat h
end L2
namespace L2
open PySem PySem.Spec PyProof.Rows
section
variable {X : Cx} {E : XK} {pins : List (Addr × Obj)} {σ : St} {H : Hp} {s : Shared}
end
section
variable {X : Cx} {pins : List (Addr × Obj)} {σ : St} {H : Hp} {s : Shared}
end
end L2
namespace Srt
open PySem PySem.W PyProof.Rows
section
variable {n : Nat} {lt : Nat → Nat → Bool} {cmp : Nat → Nat → (Bool → Shared → Prop) → Shared → Prop} {G : Shared → Prop}
structure Ord (n : Nat) (lt : Nat → Nat → Bool) : Prop where
 tr : ∀ i j k, lt i j = true → lt j k = true → lt i k = true
 asy : ∀ i j, lt i j = true → lt j i = false
 tot : ∀ i j, i < n → j < n → i ≠ j → lt i j = true ∨ lt j i = true
structure Pm (n : Nat) (p : Array Nat) : Prop where
 size : p.size = n
 perm : p.Perm (List.range n).toArray
theorem Pm.below (h : Pm n p) {a : Nat} (ha : a < n) : p.getD a 0 < n := by
 have hs : a < p.size := by rw [h.size]; exact ha
 have hm : p[a] ∈ p := Array.getElem_mem hs
 have : p[a] ∈ (List.range n).toArray := h.perm.mem_iff.mp hm
 rw [Array.getD_eq_getD_getElem?, Array.getElem?_eq_getElem hs]
 simpa using this
theorem Pm.ne (h : Pm n p) {a b : Nat} (ha : a < n) (hb : b < n) (hab : a ≠ b) : p.getD a 0 ≠ p.getD b 0 := by
 have hs : a < p.size := by rw [h.size]; exact ha
 have hs2 : b < p.size := by rw [h.size]; exact hb
 have nd : p.toList.Nodup := by
  have := (Array.perm_iff_toList_perm.mp h.perm)
  exact this.nodup_iff.mpr (by simpa using List.nodup_range)
 rw [Array.getD_eq_getD_getElem?, Array.getElem?_eq_getElem hs, Array.getD_eq_getD_getElem?, Array.getElem?_eq_getElem hs2]
 intro e
 have := (List.getElem_inj (h₀ := by simpa using hs) (h₁ := by simpa using hs2) nd).mp (by simpa using e)
 exact hab this
def Up (lt : Nat → Nat → Bool) (p : Array Nat) (m : Nat) : Prop := ∀ a b, a < b → b < m → lt (p.getD a 0) (p.getD b 0) = true
variable (o : Ord n lt) (hc : ∀ i j C s, i < n → j < n → i ≠ j → G s → (∀ s', G s' → C (lt i j) s') → cmp i j C s)
include o hc
omit o hc in
omit o hc in
end
end Srt
namespace L2
open PySem PySem.Spec PyProof.Rows PySem.W
def PrIn (h : Heap) (v : Value) (x : Str) : Prop := ∃ a t y, v = .ref a ∧ h.get? a = some { cls := .type "tuple", data := .seq #[.str x t, y] }
noncomputable def ltX (xs : List Str) (i j : Nat) : Bool := decide ((xs.getD i "").cps.toList < (xs.getD j "").cps.toList)
theorem getD_at {xs : List Str} {i : Nat} (h : i < xs.length) : xs.getD i "" = xs[i] := by
 rw [List.getD_eq_getElem?_getD, List.getElem?_eq_getElem h]
 rfl
section
variable {prog : Program} {w : World} {A : Around} {E : Value → Shared → Prop} {s : Shared}
end
theorem ObjOk.there' {P : Program} {w : World} {H : Hp} {h : Heap} {a : Addr} {o : HO} (x : ObjOk P w H h a o) : ∃ u, h.get? a = some u := by
 cases o with
 | lst xs => obtain ⟨_, _, _, _, e⟩ := x; exact ⟨_, e⟩
 | tup xs => obtain ⟨_, _, _, ⟨_, e, _⟩, _⟩ := x; exact ⟨_, e⟩
 | dK kvs => obtain ⟨_, _, _, _, o, _, _, e, _⟩ := x; exact ⟨_, e⟩
 | dT kvs => obtain ⟨_, _, _, _, o, _, _, e, _⟩ := x; exact ⟨_, e⟩
 | set S n => obtain ⟨o, _, _, _, e, _⟩ := x; exact ⟨_, e⟩
 | ins C dx fs => obtain ⟨_, _, _, e, _⟩ := x; exact ⟨_, e⟩
 | own y => exact x
 | xd fs => obtain ⟨_, ⟨_, _, _, e, _⟩, _⟩ := x; exact ⟨_, e⟩
 | rng lo hi => obtain ⟨_, _, _, e⟩ := x; exact ⟨_, e⟩
 | frz ob u => obtain ⟨e, _⟩ := x; exact ⟨_, e⟩
 | tbl ps => exact ⟨_, show h.get? a = some _ from x⟩
 | met f y => exact ⟨_, show h.get? a = some _ from x⟩
 | ext φ => obtain ⟨_, e, _⟩ := x; exact e
section
variable {X : Cx} {pins : List (Addr × Obj)} {σ : St} {H : Hp} {s : Shared}
theorem Inv.laidN {N : Addr → Option HO} {h1 : Heap} {tk : Nat} (I : Inv X pins σ H s) (k : ∀ b u, s.heap.get? b = some u → h1.get? b = some u) (hN : ∀ a o, N a = some o → s.heap.get? a = none ∧ ∀ H2, ObjOk X.prog X.w H2 h1 a o) :
  Inv X pins σ (fun b => (N b).or (H b)) { s with heap := h1, toks := tk } := by
 have low : ∀ b u, s.heap.get? b = some u → N b = none := fun b u hb => by
  cases q : N b with
  | none => rfl
  | some o => rw [(hN b o q).1] at hb; cases hb
 have old : ∀ b u, H b = some u → (N b).or (H b) = some u := fun b u q => by
  obtain ⟨v, hv⟩ := (I.hok b u q).there'
  rw [low b v hv, Option.none_or]
  exact q
 refine I.un ⟨fun b o q _ _ _ => k b o q, fun b o q _ _ _ => ⟨o.slots, k b o q⟩, fun b o q n _ => ?_, fun b o q _ => ⟨o, k b o q⟩, fun b xs q => old b _ q, fun b o u q => old b _ q, fun b ps q => ⟨#[], by rw [old b _ q]; simp⟩⟩ fun a o q => ?_
 ·show (N b).or (H b) = none
  rw [low b o q, Option.none_or]
  exact n
 ·cases e : N a with
  | some u =>
   rw [e, Option.some_or] at q
   cases q
   exact (hN a o e).2 _
  | none =>
   rw [e, Option.none_or] at q
   exact (I.hok a o q).stay (fun b u _ z => k b u z) (fun b z => old b _ z) fun b xs z => old b _ z
end
noncomputable def ivO (p d : Addr) : HO := .ext fun h => h.IsItemsView p d
theorem mt_items {X : Cx} : MtR X "dict.items" (fun x vs H Q => ∃ d kvs, x = .ref d ∧ vs = [] ∧ H d = some (.dK kvs) ∧ ∀ p, H p = none → Q (.ref p) (upd H p (ivO p d))) := by
 intro pins s σ H x vs v us Q I rx rv h
 obtain ⟨d, kvs, rfl, rfl, hd, q⟩ := h
 cases rx
 cases rv
 obtain ⟨hz, lo, vs', kv, dd⟩ := dk_of I.hok hd
 refine call_meetsIn PySem.F.slot_dict_items dd.typeIs PySem.F.entry_dict_items (PySem.F.args_dict_items_1 _) (meets_dict_items (mixKind X.prog X.w) d lo) ⟨⟨_, dd⟩, ?_⟩
 refine ⟨.ref s.heap.objs.size, _, I.laid (t' := s.toks) (o := ivO s.heap.objs.size d) (fun b u e => Heap.get?_push_of_some _ e) (Nat.le_refl _) ?_, rfl, q _ (I.hok.fresh (Nat.le_refl _))⟩
 refine ⟨⟨_, Heap.get?_push_size _ rfl, rfl, rfl⟩, ⟨_, Heap.get?_push_size _ rfl⟩, fun h1 h2 ⟨o, e, r⟩ k => ⟨o, k o e, r⟩⟩
theorem perm_getD (ks : List Str) (p : Array Nat) (hp : Srt.Pm ks.length p) : (p.toList.map fun i => ks.getD i "").Perm ks := by
 have h1 := (Array.perm_iff_toList_perm.mp hp.perm).map fun i => ks.getD i ""
 have h2 : ((List.range ks.length).toArray.toList.map fun i => ks.getD i "") = ks := by
  apply List.ext_getElem?
  intro i
  simp only [List.getElem?_map]
  by_cases hi : i < ks.length
  ·rw [List.getElem?_range hi, List.getElem?_eq_getElem hi, Option.map_some, getD_at hi]
  ·rw [List.getElem?_eq_none (by simp; omega), List.getElem?_eq_none (by omega)]
   rfl
 rw [h2] at h1
 exact h1
def tItems (td : TE) : TE := fun σ H Q => td σ H fun x H1 => ∃ d kvs, x = .ref d ∧ H1 d = some (.dK kvs) ∧ ∀ p, H1 p = none → Q (.ref p) (upd H1 p (ivO p d))
theorem pe_items {X : Cx} {o : Expr} {apos cpos : Pos} {td : TE} (ho : PE X o td) (hbase : attributeBase o "items" X.env (eval o X.env) = eval o X.env := by rfl) (hline : (apos.endLine == cpos.line) = true := by rfl) :
  PE X (.Call (.Attribute o "items" apos) [] [] cpos) (tItems td) := by
 intro pins s σ H Q I h
 refine wpAny_Call_method0_late hbase hline (thn (ho pins s σ H _ I h) fun v s1 ⟨x, H1, I1, r1, d, kvs, ex, hd, q1⟩ => ?_)
 subst ex
 obtain rfl : v = Value.ref d := r1
 obtain ⟨t1, t2, _⟩ := isD_at I1 (.inl ⟨kvs, .inl hd⟩)
 exact ⟨"dict", _, PySem.F.plainAttrs_dict, PySem.F.slot_dict_items, PySem.F.type_dict_items, t1, t2, Calls.callWith_builtin rfl (PySem.evalArgs_none (mt_items pins s1 σ H1 (.ref d) [] (.ref d) [] Q I1 rfl .nil ⟨d, kvs, rfl, rfl, hd, q1⟩))⟩
section
variable {prog : Program} {w : World} {A : Around} {E : Value → Shared → Prop} {s : Shared} {K : Frag} {a C : Addr} {o : Obj}
end
end L2
namespace L2
open PySem PySem.Spec PyProof.Rows
theorem mt_appendR {X : Cx} : MtR X "list.append" rAppend := mt_append
theorem hasDef_mk {K : PySem.W.Frag} {h : Heap} {mg : Str → Option Value} {name : Str} {st : Stmt} {ps : List Str} {f : Addr} {oc : Value} {od an : Option Addr} {sl : Array (Option Value)} {kV dc pm cd ct : Value} (X : K.In h) (G : h.Ns mainGlobals mg)
  (a : PySem.W.nsIn K mainGlobals name = some (some (.ref f))) (l : K.lookup f = some ⟨oc, od, .func (PySem.W.fnOf name name (defArgs st) (defBody st) (defScope st) .none kV dc pm an cd ct), sl⟩) (c : PySem.W.codeIn K cd name = true) (k : PySem.W.keepIn K (.ref f) = true)
  (hb : ∀ (kV doc pm : Value) (an : Option Addr) (cdv ct : Value) (us : List Value), us.length = ps.length → bindArgs (PySem.W.fnOf name name (defArgs st) (defBody st) (defScope st) .none kV doc pm an cdv ct) ⟨us, []⟩ = pure (ps.zip us)) : HasDef K mg name st ps :=
 ⟨_, _, fun_mk (st := st) l c k, (fun_mk (st := st) l c k).binds hb, PySem.W.mg_of X G a⟩
theorem iteP {c : Bool} {A B : Prop} (h : c = true) (a : A) : if c = true then A else B := by rw [if_pos h]; exact a
theorem iteM {c : Bool} {A B : Prop} (h : c = false) (b : B) : if c = true then A else B := by rw [h]; exact iteF b
theorem int_ne {a b : Int} (h : ¬ a = b) : decide (V.int a = V.int b) = false := decide_eq_false fun q => h (by injection q)
theorem int_is {a b : Int} (h : a = b) : decide (V.int a = V.int b) = true := decide_eq_true (congrArg V.int h)
end L2
namespace L2
open PySem PySem.Spec PyProof.Rows PySem.Builtin.Str
theorem slice_from_codes {x : Str} {i : Int} (h0 : 0 ≤ i) (h1 : i ≤ x.length) : (Txt.slice x (some i) none).cps.toList = x.cps.toList.drop i.toNat := by
 rw [eq_of_beq (slice_closes_fromL h0 h1 rfl)]
 simp [Str.length]
 exact List.take_of_length_le (by simp; omega)
end L2
namespace L2
open PySem PySem.Spec PyProof.Rows
end L2
namespace Sh
open PySem L2 PyProof.Rows
theorem emod_bd (a : Int) {n : Int} (h : 0 < n) : 0 ≤ a % n ∧ a % n < n := ⟨Int.emod_nonneg _ (by omega), Int.emod_lt_of_pos _ h⟩
theorem app_codes (a b : Str) : (a ++ b).cps.toList = a.cps.toList ++ b.cps.toList := by simp [Str.cps_append]
theorem codes_inj {a b : Str} (h : a.cps.toList = b.cps.toList) : a = b := by rw [← tx_eta a, ← tx_eta b, h]
theorem tx_app (a b : List Nat) : tx a ++ tx b = tx (a ++ b) := by
 apply codes_inj
 rw [app_codes, tx_list, tx_list, tx_list]
theorem join_flat : ∀ l : List (List Nat), (Txt.join "" (l.map tx)) = tx l.flatten := by
 have key : ∀ l : List (List Nat), (Str.join "" (l.map tx)).cps.toList = l.flatten := by
  intro l
  induction l with
  | nil => rfl
  | cons c r ih =>
   cases r with
   | nil => simp [Str.join, tx]
   | cons d q =>
    have e : Str.join "" ((c :: d :: q).map tx) = tx c ++ "" ++ Str.join "" ((d :: q).map tx) := rfl
    have e2 : ("" : Str).cps.toList = [] := rfl
    rw [e, app_codes, app_codes, ih, e2, tx_list, List.append_nil]
    rfl
 intro l
 apply codes_inj
 have : Txt.join "" (l.map tx) = Str.join "" (l.map tx) := StrLaws.glued_eq_join _ _
 rw [this, key, tx_list]
theorem flat_ones : ∀ l : List Nat, (l.map fun c => [c]).flatten = l
 | [] => rfl
 | a :: l => by rw [List.map_cons, List.flatten_cons, flat_ones l]; rfl
theorem join_ones (l : List Nat) : Txt.join "" (l.map fun c => tx [c]) = tx l := by
 have h := join_flat (l.map fun c => [c])
 rw [List.map_map, flat_ones] at h
 exact h
theorem letters_list : (("abcdefghijklmnopqrstuvwxyz" : Str)).cps.toList = (List.range 26).map (· + 97) := by decide +kernel
theorem letter_at {i : Int} (h0 : 0 ≤ i) (h1 : i < 26) : atI (("abcdefghijklmnopqrstuvwxyz" : Str)).cps.toList i = some (i.toNat + 97) := by
 refine item_at h0 ?_
 rw [letters_list, List.getElem?_map, List.getElem?_range (by omega)]
 rfl
theorem cut63 (xs : List V) (h : xs.length ≤ 63) : cutV xs none (some 63) = xs := by
 have e1 : HT.sIx xs.length 0 none = 0 := rfl
 have e2 : HT.sIx xs.length xs.length (some 63) = xs.length := by
  unfold HT.sIx
  simp
  omega
 unfold cutV
 rw [e1, e2]
 simp
theorem sum_len_le : ∀ (ys : List Str) (m : Nat), (∀ y ∈ ys, y.length ≤ m) → (ys.map (·.length)).sum ≤ ys.length * m
 | [], m, _ => by simp
 | y :: ys, m, h => by
  have h1 := sum_len_le ys m fun z hz => h z (List.mem_cons_of_mem _ hz)
  have h2 := h y List.mem_cons_self
  rw [List.map_cons, List.sum_cons, List.length_cons, Nat.succ_mul]
  omega
theorem rep_len (n : Nat) (l : List Nat) : ((List.replicate n l).flatten).length = n * l.length := by
 induction n with
 | zero => simp
 | succ n ih => rw [List.replicate_succ, List.flatten_cons, List.length_append, ih, Nat.succ_mul, Nat.add_comm]
theorem atI_nat' {xs : List V} {i : Nat} {v : V} (h : xs[i]? = some v) : atI xs (i : Int) = some v := atI_nat h
theorem at_code {z : List Nat} {i : Int} (h0 : 0 ≤ i) (h1 : i < z.length) : atI (tx z).cps.toList i = some (z.getD i.toNat 0) := by
 refine item_at h0 ?_
 rw [tx_list, List.getD_eq_getElem?_getD, List.getElem?_eq_getElem (by omega)]
 rfl
theorem few_size {n : Nat} (h : n ≤ 1000) : n ≤ sizeLine := size_small (by omega)
theorem vs_ints {α : Type} {vs : List V} {ns : List α} {f : α → V} (hl : vs.length = ns.length) (hr : ∀ (i : Nat) (v : V), vs[i]? = some v → ∀ c, ns[i]? = some c → v = f c) : vs = ns.map f := by
 apply List.ext_getElem?
 intro i
 by_cases hi : i < vs.length
 ·have hi' : i < ns.length := by omega
  rw [List.getElem?_eq_getElem hi, hr i _ (List.getElem?_eq_getElem hi) _ (List.getElem?_eq_getElem hi'), List.getElem?_map, List.getElem?_eq_getElem hi']
  rfl
 ·rw [List.getElem?_eq_none (by omega), List.getElem?_eq_none (by rw [List.length_map]; omega)]
theorem getD_mapV {α : Type} {ns : List α} {f : α → V} {i : Nat} (hi : i < ns.length) : (ns.map f).getD i .non = f ns[i] := by
 rw [List.getD_eq_getElem?_getD, List.getElem?_map, List.getElem?_eq_getElem hi]
 rfl
theorem step_mapV {α : Type} {ns : List α} {f : α → V} {i : Nat} {x : V} (hi : (ns.map f)[i]? = some x) : ∃ h : i < ns.length, x = f ns[i] := by
 have h : i < ns.length := by
  have := (List.getElem?_eq_some_iff.mp hi).1
  rw [List.length_map] at this
  exact this
 rw [List.getElem?_map, List.getElem?_eq_getElem h] at hi
 exact ⟨h, (Option.some.inj hi).symm⟩
end Sh
namespace PySem
namespace F
theorem owner_rev : Manifest.owners.lookup (String.ofList ['d', 'e', 's', 'r', 'e', 'v', 'e', 'r'].reverse) = some Manifest.sig_reversed := by kernel_rfl
theorem slot_rev_next : Slot "reversed" "__next__" "reversed.__next__" :=
 .of (owner := "reversed") (n := "__next__") (by rw [typeLookup_type, builtinLookup_eq_fast]; kernel_rfl) (by decide +kernel) (by decide +kernel) (by decide +kernel)
  (by first | exact .inl (by decide +kernel) | exact .inr (by decide +kernel)) (by rw [isSubtype_type]; kernel_rfl)
theorem entry_rev_next : entryFor table "reversed.__next__" = some Builtin.«reversed.__next__» := entryFor_of_tree (by kernel_rfl)
theorem args_rev_next_1 (a : Value) : argsOk "reversed.__next__" ⟨[a], []⟩ := by
 unfold argsOk; rw [signature?_of (id := "reversed.__next__") (n := ['_', '_', 't', 'x', 'e', 'n', '_', '_']) (o := ['d', 'e', 's', 'r', 'e', 'v', 'e', 'r']) (by kernel_rfl) owner_rev]; kernel_rfl
theorem slot_rev_iter : Slot "reversed" "__iter__" "reversed.__iter__" :=
 .of (owner := "reversed") (n := "__iter__") (by rw [typeLookup_type, builtinLookup_eq_fast]; kernel_rfl) (by decide +kernel) (by decide +kernel) (by decide +kernel)
  (by first | exact .inl (by decide +kernel) | exact .inr (by decide +kernel)) (by rw [isSubtype_type]; kernel_rfl)
theorem args_rev_iter_1 (a : Value) : argsOk "reversed.__iter__" ⟨[a], []⟩ := by
 unfold argsOk; rw [signature?_of (id := "reversed.__iter__") (n := ['_', '_', 'r', 'e', 't', 'i', '_', '_']) (o := ['d', 'e', 's', 'r', 'e', 'v', 'e', 'r']) (by kernel_rfl) owner_rev]; kernel_rfl
theorem entry_rev_iter : entryFor table "reversed.__iter__" = some Builtin.«dict_keyiterator.__iter__» :=
 entryFor_alias (id' := "dict_keyiterator.__iter__") (by kernel_rfl) (by first | rfl | decide +kernel | (unfold String.splitOn; simp +decide [String.splitOnAux])) (by decide +kernel) (by kernel_rfl)
theorem rev_no_len : typeLookup (.type "reversed") "__len__" = pure none := by rw [typeLookup_type, builtinLookup_eq_fast]; kernel_rfl
theorem slot_rev_hint : Slot "reversed" "__length_hint__" "reversed.__length_hint__" :=
 .of (owner := "reversed") (n := "__length_hint__") (by rw [typeLookup_type, builtinLookup_eq_fast]; kernel_rfl) (by decide +kernel) (by decide +kernel) (by decide +kernel)
  (by first | exact .inl (by decide +kernel) | exact .inr (by decide +kernel)) (by rw [isSubtype_type]; kernel_rfl)
theorem entry_rev_hint : entryFor table "reversed.__length_hint__" = some Builtin.«reversed.__length_hint__» := entryFor_of_tree (by kernel_rfl)
theorem args_rev_hint_1 (a : Value) : argsOk "reversed.__length_hint__" ⟨[a], []⟩ := by
 unfold argsOk; rw [signature?_of (id := "reversed.__length_hint__") (n := ['_', '_', 't', 'n', 'i', 'h', '_', 'h', 't', 'g', 'n', 'e', 'l', '_', '_']) (o := ['d', 'e', 's', 'r', 'e', 'v', 'e', 'r']) (by kernel_rfl) owner_rev]; kernel_rfl
theorem str_no_reversed : typeLookup (.type "str") "__reversed__" = pure none := by rw [typeLookup_type, builtinLookup_eq_fast]; kernel_rfl
theorem sub_rev_rev : isSubtype (.type "reversed") (.type "reversed") = pure true := by rw [isSubtype_type]; kernel_rfl
theorem slot_rev_init : Slot "reversed" "__init__" "object.__init__" :=
 .of (owner := "object") (n := "__init__") (by rw [typeLookup_type, builtinLookup_eq_fast]; kernel_rfl) (by decide +kernel) (by decide +kernel) (by decide +kernel)
  (by first | exact .inl (by decide +kernel) | exact .inr (by decide +kernel)) (by rw [isSubtype_type]; kernel_rfl)
theorem called_rev : TypeCalled "reversed" "reversed.__new__" "object.__init__" :=
 ⟨by decide +kernel, by decide +kernel, ⟨_, _, mro_reversed⟩, madeBy_type mro_reversed lookup_reversed_new (by decide +kernel), by decide +kernel, by rw [isSubtype_type]; kernel_rfl, slot_rev_init⟩
end F
end PySem
namespace PySem
noncomputable def revS (x : Str) (t : Tok) (i : Int) : Obj := { cls := .type "reversed", data := .fields #[.str x t, rawInt i] }
theorem meets_rev_new (x : Str) (t : Tok) (hx : x.length ≤ sizeLine) :
  Meets (Builtin.«reversed.__new__» ⟨[.type "reversed", .str x t], []⟩) (fun _ R s =>
   R (.ok (.ret (.ref s.heap.objs.size))) { s with toks := s.toks + 1 + 1, heap := s.heap.push (revS x t ((x.length : Int) - 1)) }) :=
 .of_wp fun prog w A R s h => by
  unfold Builtin.«reversed.__new__»
  refine wpAny_bind (wpAny_of_eq (newClass_reversed _) ?_)
  try dsimp only
  refine wpAny_bind (wpAny_of_eq (a := ()) (by first | rfl | kernel_rfl) ?_)
  refine wpAny_bind (wpAny_of_eq (a := ()) (by first | rfl | kernel_rfl) ?_)
  try dsimp only
  refine wpAny_bind (wpAny_specialOf (typeIs_str _ x t) F.str_no_reversed ?_)
  try dsimp only
  refine wpAny_bind ?_
  wp_delta
  refine wpAny_bind (wpAny_isInstance (T := "str") (v := .str x t) (b := false) rfl F.sub_str_dict ?_)
  try dsimp only
  refine wpAny_bind (wpAny_specialOf (typeIs_str _ x t) F.slot_str_getitem.lookup ?_)
  try dsimp only
  rw [if_pos (by decide)]
  refine wpAny_pure ?_
  rw [if_neg (by decide)]
  have hs : sizeLine = 16777216 := sizeLine_eq
  refine wpAny_bind (P.len_str (by omega) ?_)
  refine wpAny_bind (wpAny_of_eq (a := some (x.length : Int)) rfl ?_)
  try dsimp only
  unfold Builtin.SmallTypes.newRecord
  try dsimp only
  refine wpAny_bind (wpAny_newObj_type ?_)
  exact wpAny_pure ⟨_, rfl, h⟩
section
variable {prog : Program} {w : World} {A : Around} {E : Value → Shared → Prop} {s : Shared}
theorem call_reversed_str {x : Str} {t : Tok} {Q : Value → Shared → Prop} (hx : x.length ≤ sizeLine)
  (h : Q (.ref s.heap.objs.size) { s with toks := s.toks + 1 + 1, heap := s.heap.push (revS x t ((x.length : Int) - 1)) }) : wpAny (model prog w) A (call (.type "reversed") [.str x t]) Q E s :=
 callType_new F.called_rev (by decide) (F.typeCall_reversed_1 _) (F.newCall_reversed_1 _) (fun obj => F.args_object_init_2 obj _) F.entry_reversed_new (meets_rev_new x t hx) ⟨⟨_, Heap.get?_push_size _ rfl, rfl⟩, h⟩
def Heap.IsRevS (h : Heap) (a : Addr) (x : Str) (t : Tok) (i : Int) : Prop := ∃ o, h.get? a = some o ∧ o.cls = .type "reversed" ∧ o.data = .fields #[.str x t, rawInt i]
theorem Heap.IsRevS.typeIs {a : Addr} {x : Str} {t : Tok} {i : Int} (y : s.heap.IsRevS a x t i) : s.TypeIs (.ref a) "reversed" := let ⟨o, ho, hc, _⟩ := y; ⟨o, ho, hc⟩
theorem Heap.IsRevS.at {h h' : Heap} {a : Addr} {x : Str} {t : Tok} {i : Int} (y : h.IsRevS a x t i) (e : ∀ o, h.get? a = some o → h'.get? a = some o) : h'.IsRevS a x t i := let ⟨o, ho, r⟩ := y; ⟨o, e _ ho, r⟩
theorem wpAny_pyNext_revS {it : Addr} {x : Str} {t : Tok} {i c : Nat} {Q : Option Value → Shared → Prop} (hit : s.heap.IsRevS it x t (i : Int)) (hc : x.cps[i]? = some c) (hx : x.length ≤ sizeLine)
  (hQ : ∀ h' u, h'.IsRevS it x t ((i : Int) - 1) → Heap.SameBut it s.heap h' → Q (some (.str ⟨#[c]⟩ u)) { s with heap := h', toks := s.toks + 1 + 1 }) : wpAny (model prog w) A (pyNext (.ref it)) Q E s := by
 obtain ⟨o, ho, hcl, hd⟩ := id hit
 have hs : sizeLine = 16777216 := sizeLine_eq
 have hi : i < x.length := by
  have := (Array.getElem?_eq_some_iff.mp hc).1
  exact this
 unfold pyNext
 refine wpAny_bind (wpAny_attempt (wpAny_callSpecial?_slot (name := Str.ofString "__next__") hit.typeIs F.slot_rev_next
  (wpAny_call_entry F.slot_rev_next hit.typeIs F.entry_rev_next ?_ (F.args_rev_next_1 _))))
 unfold Builtin.«reversed.__next__»
 refine wpAny_bind (wpAny_of_eq (a := (Value.ref it, [])) rfl ?_)
 try dsimp only
 refine wpAny_bind (wpAny_field ho hd (x := .str x t) rfl ?_)
 refine wpAny_bind (wpAny_field ho hd (x := rawInt (i : Int)) rfl ?_)
 show wpAny _ _ (if (i : Int) < 0 then _ else _) _ _ s
 rw [if_neg (by omega)]
 refine wpAny_bind (wpAny_specialOf (typeIs_str _ x t) F.slot_str_getitem.lookup ?_)
 rw [if_neg (by decide)]
 refine wpAny_bind (wpAny_mkInt ?_)
 have e1 : decide ((i : Int) < -(2 ^ 63 : Int)) = false := decide_eq_false (by omega)
 have e2 : decide ((i : Int) ≥ 2 ^ 63) = false := decide_eq_false (by omega)
 have e3 : seqIndex? (i : Int) x.length = some i := (L2.ixN_seq (by unfold L2.ixN; rw [if_pos (by omega), if_pos (by omega)]; rfl)).1
 refine wpAny_bind (wpAny_attempt (P.getItem_str (c := c) (by rw [e1, e2]; rfl) (by rw [e3]; exact hc) ?_))
 try dsimp only
 refine wpAny_bind (wpAny_field ho hd (x := rawInt (i : Int)) rfl ?_)
 show wpAny _ _ (setField (Value.ref it) 1 (rawInt ((i : Int) - 1)) >>= _) _ _ _
 refine wpAny_bind (wpAny_setField ho hd (by simp) ?_)
 refine wpAny_pure ⟨_, rfl, wpAny_pure (hQ _ _ ?_ (Heap.SameBut.update ..))⟩
 exact ⟨_, Heap.get?_update_self _ ho (Obj.isFreed_of_fields (Obj.data_mapFields hd _)), (Obj.cls_mapFields ..).trans hcl, by
  rw [Obj.data_mapFields hd]; simp⟩
theorem wpAny_pyNext_revS_end {it : Addr} {x : Str} {t : Tok} {Q : Option Value → Shared → Prop} (hh : A.handled = none) (hit : s.heap.IsRevS it x t (-1))
  (hQ : ∀ h', Heap.ExtBut it s.heap h' → Q none { s with heap := h' }) : wpAny (model prog w) A (pyNext (.ref it)) Q E s := by
 obtain ⟨o, ho, hcl, hd⟩ := id hit
 unfold pyNext
 refine wpAny_bind (wpAny_attempt (wpAny_callSpecial?_slot (name := Str.ofString "__next__") hit.typeIs F.slot_rev_next
  (wpAny_call_entry F.slot_rev_next hit.typeIs F.entry_rev_next ?_ (F.args_rev_next_1 _))))
 unfold Builtin.«reversed.__next__»
 refine wpAny_bind (wpAny_of_eq (a := (Value.ref it, [])) rfl ?_)
 try dsimp only
 refine wpAny_bind (wpAny_field ho hd (x := .str x t) rfl ?_)
 refine wpAny_bind (wpAny_field ho hd (x := rawInt (-1)) rfl ?_)
 show wpAny _ _ (if (-1 : Int) < 0 then _ else _) _ _ s
 rw [if_pos (by decide)]
 refine wpAny_bind (wpAny_rule ?_)
 refine wpAny_bind ?_
 wp_delta
 refine wpAny_bind (wpAny_setField ho hd (by simp) ?_)
 have h1 := Heap.get?_update_self (Obj.mapFields fun vs => vs.set! 1 (rawInt (-1))) ho (Obj.isFreed_of_fields (Obj.data_mapFields hd _))
 have d1 : (Obj.mapFields (fun vs => vs.set! 1 (rawInt (-1))) o).data = .fields #[.str x t, rawInt (-1)] := by rw [Obj.data_mapFields hd]; simp
 refine wpAny_setField h1 d1 (by simp) ?_
 refine wpAny_bind ?_
 unfold Builtin.SmallTypes.stopIteration
 refine wpAny_bind ?_
 simp only [newExc, newTuple]
 refine wpAny_bind (wpAny_newObj_type ?_ (by size_fits))
 refine wpAny_bind (m := firstArgMember _ _) (wpAny_of_eq (a := Value.none) (by first | rfl | (simp only [firstArgMember]; rfl)) ?_)
 refine wpAny_newObj_type ?_ (by size_fits)
 simp only [raiseNew]
 refine wpAny_bind (wpAny_handled ?_)
 first | rw [show A.in1.handled = none from hh] | rw [hh]
 refine wpAny_bind (wpAny_pure (wpAny_throw ?_))
 refine wpAny_bind (wpAny_isInstance (T := "StopIteration") (b := true) ⟨_, Heap.get?_push_size _ rfl, rfl⟩ isSubtype_stop ?_)
 refine wpAny_pure (hQ _ ?_)
 intro b ob hb e
 refine Heap.get?_push_of_some _ (Heap.get?_push_of_some _ ?_)
 exact (Heap.get?_update_other _ _ (Ne.symm hb)).trans ((Heap.get?_update_other _ _ (Ne.symm hb)).trans e)
theorem wpAny_pyIter_revS {it : Addr} {x : Str} {t : Tok} {i : Int} {Q : Value → Shared → Prop} (hit : s.heap.IsRevS it x t i) (h : Q (.ref it) s) : wpAny (model prog w) A (pyIter (.ref it)) Q E s := by
 refine wpAny_pyIter_slot hit.typeIs F.slot_rev_iter (wpAny_call_entry F.slot_rev_iter hit.typeIs F.entry_rev_iter ?_ (F.args_rev_iter_1 _))
 show wpAny _ _ (ret (.ref it)) _ _ s
 exact wpAny_pure ⟨_, rfl, "reversed", _, hit.typeIs, F.slot_rev_next.lookup, h⟩
end
theorem walks_revS {prog : Program} {w : World} {A : Around} (hh : A.handled = none) (I : Addr) (x : Str) (t : Tok) (hx : x.length ≤ sizeLine) :
  Walks prog w A I [I] [I] x.length (fun i v => ∃ c u, x.cps[x.length - 1 - i]? = some c ∧ v = .str ⟨#[c]⟩ u) (fun i h => i ≤ x.length ∧ h.IsRevS I x t ((x.length : Int) - 1 - (i : Int))) where
 sub := fun b hb => by simp at hb; simp [hb]
 frame := fun _ _ _ y hk => ⟨y.1, y.2.at fun o e => hk I (by simp) o e⟩
 item := fun i s Q E hi y hQ => by
  have e : (x.length : Int) - 1 - (i : Int) = ((x.length - 1 - i : Nat) : Int) := by omega
  have hit := y.2
  rw [e] at hit
  have hlt : x.length - 1 - i < x.cps.size := by
   have : x.length = x.cps.size := rfl
   omega
  have hc : x.cps[x.length - 1 - i]? = some (x.cps[x.length - 1 - i]'hlt) := Array.getElem?_eq_getElem hlt
  refine wpAny_pyNext_revS hit hc hx fun h' u hit' hs' => ?_
  have e2 : ((x.length - 1 - i : Nat) : Int) - 1 = (x.length : Int) - 1 - ((i + 1 : Nat) : Int) := by omega
  rw [e2] at hit'
  exact hQ _ h' _ ⟨_, u, hc, rfl⟩ ⟨hi, hit'⟩ fun b o hb eo => hs'.extBut b o (fun h => hb (by simp [h])) eo
 done := fun s Q E y hQ => by
  have e : (x.length : Int) - 1 - (x.length : Int) = -1 := by omega
  have hit := y.2
  rw [e] at hit
  exact wpAny_pyNext_revS_end hh hit fun h' he' => hQ h' s.toks fun b o hb eo => he' b o (fun h => hb (by simp [h])) eo
 self := fun _ _ _ _ y hQ => wpAny_pyIter_revS y.2 hQ
end PySem
namespace PySem
section
variable {prog : Program} {w : World} {A : Around} {E : Value → Shared → Prop} {s : Shared}
theorem call_rev_hint {it : Addr} {x : Str} {t : Tok} {Q : Value → Shared → Prop} (hit : s.heap.IsRevS it x t ((x.length : Int) - 1)) (hx : x.length ≤ sizeLine)
  (h : ∀ u tk, Q (.int x.length u) { s with toks := tk }) : wpAny (model prog w) A (call (.builtin "reversed.__length_hint__") [.ref it]) Q E s := by
 obtain ⟨o, ho, hcl, hd⟩ := id hit
 have hs : sizeLine = 16777216 := sizeLine_eq
 refine wpAny_call_entry F.slot_rev_hint hit.typeIs F.entry_rev_hint ?_ (F.args_rev_hint_1 _)
 unfold Builtin.«reversed.__length_hint__»
 refine wpAny_bind (wpAny_of_eq (a := Value.ref it) rfl ?_)
 refine wpAny_bind (wpAny_field ho hd (x := .str x t) rfl ?_)
 rw [if_neg (show ¬ ((Value.str x t == Value.none) = true) from Bool.false_ne_true)]
 refine wpAny_bind (P.len_str (by omega) ?_)
 refine wpAny_bind (wpAny_of_eq (a := some (x.length : Int)) rfl ?_)
 try dsimp only
 refine wpAny_bind (wpAny_field ho hd (x := rawInt ((x.length : Int) - 1)) rfl ?_)
 show wpAny _ _ (if (x.length : Int) < (x.length : Int) - 1 + 1 then _ else _) _ _ _
 rw [if_neg (by omega)]
 unfold retInt
 refine wpAny_bind (wpAny_mkInt (wpAny_pure ⟨_, rfl, ?_⟩))
 have e : (x.length : Int) - 1 + 1 = x.length := by omega
 rw [e]
 exact h _ _
theorem rev_hint {it : Addr} {x : Str} {t : Tok} {Q : Bool → Shared → Prop} (hit : s.heap.IsRevS it x t ((x.length : Int) - 1)) (hx : x.length ≤ sizeLine)
  (h : ∀ b tk, Q b { s with toks := tk }) : wpAny (model prog w) A (Builtin.List.listLengthHint (.ref it)) Q E s := by
 have hs : sizeLine = 16777216 := sizeLine_eq
 unfold Builtin.List.listLengthHint
 refine wpAny_bind (wpAny_specialOf hit.typeIs F.rev_no_len ?_)
 show wpAny _ _ (specialOf (Value.ref it) (Str.ofString "__length_hint__") >>= _) _ _ _
 refine wpAny_bind (wpAny_specialOf hit.typeIs F.slot_rev_hint.lookup ?_)
 have hsp : splitId "reversed.__length_hint__" = some ("reversed", "__length_hint__") := by decide +kernel
 try dsimp only
 rw [hsp]
 try dsimp only
 refine wpAny_bind (wpAny_isInstance hit.typeIs F.sub_rev_rev ?_)
 rw [if_neg (by decide)]
 rw [if_neg (by decide +kernel)]
 refine wpAny_bind (wpAny_rule ?_)
 refine wpAny_bind (wpAny_of_eq (F.slot_rev_hint.bind _) ?_)
 try dsimp only
 refine wpAny_bind (wpAny_attempt (call_rev_hint hit hx fun u tk => ?_))
 have ea : asInt? (Value.int (x.length : Int) u) = pure (some (x.length : Int)) := by simp only [asInt?]
 generalize hn : (x.length : Int) = n at ea
 simp only [ea, pure_bind]
 subst hn
 try dsimp only
 have f1 : Builtin.List.listFitsIndex (x.length : Int) = true := by
  unfold Builtin.List.listFitsIndex
  have a1 : decide (-(2 ^ 63 : Int) ≤ (x.length : Int)) = true := decide_eq_true (by omega)
  have a2 : decide ((x.length : Int) < 2 ^ 63) = true := decide_eq_true (by omega)
  rw [a1, a2]
  rfl
 have f2 : Builtin.List.listTooLong (x.length : Int).toNat = false := by
  unfold Builtin.List.listTooLong
  rw [Int.toNat_natCast]
  exact decide_eq_false (Nat.not_lt.mpr hx)
 rw [f1, if_neg (by decide), if_neg (by omega), f2, if_neg (by decide)]
 exact wpAny_pure (h _ _)
section
variable {R : Result → Shared → Prop}
theorem extend_rev (hh : A.handled = none) {I : Addr} {x : Str} {t : Tok} (hx : x.length ≤ sizeLine) (S : Addr) (c₀ : Nat) (hit : s.heap.IsRevS I x t ((x.length : Int) - 1)) (hSI : S ≠ I)
  (hS : s.heap.get? S = some { cls := .type "list", data := .seq #[] c₀ })
  (hR : ∀ h' tk acc' c', (∀ b o, b ≠ S → b ≠ I → s.heap.get? b = some o → h'.get? b = some o) → h'.get? S = some { cls := .type "list", dict := none, data := .seq acc' c', slots := #[] } →
   ItemsOf (fun i v => ∃ c u, x.cps[x.length - 1 - i]? = some c ∧ v = .str ⟨#[c]⟩ u) acc' x.length → R (.ok (.ret .none)) { s with heap := h', toks := tk }) :
  wpAny (model prog w) A.in1 (Builtin.List.listExtendWith (.ref S) (.ref I) .none)
   (fun fin s' => match fin with | .done f => R (.ok f) s' | .again c' => c'.quiet = true ∧ codeAny (model prog w) A c' R s') (fun e s' => R (.error e) s') s := by
 have hSf : S ∉ [I] := fun hm => hSI (List.mem_singleton.mp hm)
 unfold Builtin.List.listExtendWith
 refine wpAny_bind (wpAny_typeOf hit.typeIs ?_)
 have h1 : Builtin.List.listSameRef (.ref S) (.ref I) = false := by simp [Builtin.List.listSameRef, hSI]
 have h2 : (Value.type "reversed" == Value.type "list") = false := by decide
 have h3 : (Value.type "reversed" == Value.type "tuple") = false := by decide
 simp only [h1, h2, h3, Bool.or_false, Bool.false_eq_true, if_false]
 refine wpAny_bind (wpAny_pyIter_revS hit ?_)
 refine wpAny_bind (wpAny_holding (rev_hint hit hx fun b tk => ?_))
 have W := (walks_revS (prog := prog) (w := w) (A := A.in1) hh I x t hx).toS
 have st0 : ∀ h' : Heap, (∀ b o, b ≠ S → s.heap.get? b = some o → h'.get? b = some o) → (0 ≤ x.length ∧ h'.IsRevS I x t ((x.length : Int) - 1 - ((0 : Nat) : Int))) := fun h' hk => ⟨Nat.zero_le _, by
  have := hit.at (h' := h') fun o e => hk I o (Ne.symm hSI) e
  have e : (x.length : Int) - 1 - ((0 : Nat) : Int) = (x.length : Int) - 1 := by omega
  rw [e]
  exact this⟩
 have fin : ∀ (h₁ : Heap) (c₁ : Nat), (∀ b o, b ≠ S → s.heap.get? b = some o → h₁.get? b = some o) → h₁.get? S = some { cls := .type "list", data := .seq #[] c₁ } →
   codeAny (model prog w) A (.builtin "list.extend.loop" ⟨[.ref S, .ref I, .none], []⟩) R { s with heap := h₁, toks := tk } := fun h₁ c₁ hk hS₁ => by
  refine codeAny_extend_loopS W hx _ hSf _ x.length 0 _ _ _ rfl (Nat.zero_le _) (st0 h₁ hk) hS₁ (ItemsOf.nil _) fun s' acc' c' hm hS' hacc => ?_
  rw [Moved.eq_with hm]
  refine hR s'.heap s'.toks acc' c' (fun b ob hb hbI e => hm.heap b ob (fun hmem => ?_) (hk b ob hb e)) hS' hacc
  rcases List.mem_cons.mp hmem with e' | hmem
  ·exact hb e'
  ·exact hbI (List.mem_singleton.mp hmem)
 split
 ·refine wpAny_bind (wpAny_rule ?_)
  refine wpAny_bind ?_
  show wpAny _ A.in1 (updateSeq S (·.push .none) >>= fun _ => updateSeq S (·.pop)) _ _ _
  refine wpAny_bind (wpAny_updateSeq hS rfl ?_)
  have hS₂ := Heap.get?_update_self (Obj.mapSeq (·.push Value.none)) hS rfl
  refine wpAny_updateSeq (hz := by seq_fits) hS₂ rfl ?_
  have hS₃ := Heap.get?_update_self (Obj.mapSeq (·.pop)) hS₂ rfl
  exact wpAny_pure ⟨plainId_quiet F.plain_extend_loop _, fin _ _ (fun b o hb e => (Heap.get?_update_other _ _ (Ne.symm hb)).trans ((Heap.get?_update_other _ _ (Ne.symm hb)).trans e)) hS₃⟩
 ·exact wpAny_pure ⟨plainId_quiet F.plain_extend_loop _, fin _ _ (fun b o hb e => e) hS⟩
theorem list_init_rev (hh : A.handled = none) {I : Addr} {x : Str} {t : Tok} (hx : x.length ≤ sizeLine) (S : Addr) (hit : s.heap.IsRevS I x t ((x.length : Int) - 1)) (hSI : S ≠ I)
  (hS : s.heap.get? S = some { cls := .type "list", data := .seq #[] })
  (hR : ∀ h' tk acc' c', (∀ b o, b ≠ S → b ≠ I → s.heap.get? b = some o → h'.get? b = some o) → h'.get? S = some { cls := .type "list", dict := none, data := .seq acc' c', slots := #[] } →
   ItemsOf (fun i v => ∃ c u, x.cps[x.length - 1 - i]? = some c ∧ v = .str ⟨#[c]⟩ u) acc' x.length → R (.ok (.ret .none)) { s with heap := h', toks := tk }) :
  wpAny (model prog w) A.in1 (Builtin.«list.__init__» ⟨[.ref S, .ref I], []⟩)
   (fun fin s' => match fin with | .done f => R (.ok f) s' | .again c' => c'.quiet = true ∧ codeAny (model prog w) A c' R s') (fun e s' => R (.error e) s') s := by
 show wpAny _ A.in1 (do let old ← Builtin.List.listItems (.ref S); Builtin.List.listUpdate (.ref S) (fun _ => #[]); letGo old.toList.reverse; Builtin.List.listExtendWith (.ref S) (.ref I) .none) _ _ s
 refine wpAny_bind ?_
 unfold Builtin.List.listItems
 refine wpAny_bind (wpAny_seqItems hS rfl (wpAny_pure ?_))
 show wpAny _ A.in1 (updateSeq S (fun _ => #[]) >>= fun _ => letGo (#[] : Array Value).toList.reverse >>= fun _ => Builtin.List.listExtendWith (.ref S) (.ref I) .none) _ _ s
 refine wpAny_bind (wpAny_updateSeq hS rfl ?_)
 have hS₂ := Heap.get?_update_self (Obj.mapSeq (fun _ => (#[] : Array Value))) hS rfl
 have oth : ∀ b o, b ≠ S → s.heap.get? b = some o → (s.heap.update S (Obj.mapSeq (fun _ => (#[] : Array Value)))).get? b = some o :=
  fun b o hb e => (Heap.get?_update_other _ _ (Ne.symm hb)).trans e
 refine wpAny_bind (wpAny_letGo ?_)
 refine extend_rev hh hx S _ (hit.at fun o e => oth I o (Ne.symm hSI) e) hSI hS₂ fun h' tk acc' c' hk hS' hacc => ?_
 exact hR h' tk acc' c' (fun b o hb hbI e => hk b o hb hbI (oth b o hb e)) hS' hacc
end
theorem call_list_rev (hh : A.handled = none) {I : Addr} {x : Str} {t : Tok} {Q : Value → Shared → Prop} (hx : x.length ≤ sizeLine) (hit : s.heap.IsRevS I x t ((x.length : Int) - 1))
  (hQ : ∀ h' tk acc' c', (∀ b o, b ≠ I → s.heap.get? b = some o → h'.get? b = some o) → h'.get? s.heap.objs.size = some { cls := .type "list", dict := none, data := .seq acc' c', slots := #[] } →
   ItemsOf (fun i v => ∃ c u, x.cps[x.length - 1 - i]? = some c ∧ v = .str ⟨#[c]⟩ u) acc' x.length → Q (.ref s.heap.objs.size) { s with heap := h', toks := tk }) :
  wpAny (model prog w) A (call (.type "list") [.ref I]) Q E s := by
 have hSI : s.heap.objs.size ≠ I := fun e => by
  obtain ⟨o, ho, _⟩ := hit
  exact Nat.lt_irrefl _ (e ▸ Heap.lt_size ho)
 refine callType_codes (Q₁ := fun obj s₁ => obj = .ref s.heap.objs.size ∧ s₁ = { s with heap := s.heap.push { cls := .type "list", data := .seq #[] } }) F.called_list (F.typeCall_list_1 _) F.entry_list_init
  (code_list_new _ ⟨rfl, rfl⟩) fun obj s₁ h₁ => ?_
 obtain ⟨rfl, rfl⟩ := h₁
 have hS : (s.heap.push { cls := .type "list", data := .seq #[] }).get? s.heap.objs.size = some { cls := .type "list", data := .seq #[] } := Heap.get?_push_size _ rfl
 refine ⟨⟨_, hS, rfl⟩, F.args_list_init_2 _ _, list_init_rev (A := A.in1) hh hx _ (hit.at fun o e => Heap.get?_push_of_some _ e) hSI hS fun h' tk acc' c' hk hS' hacc => ?_⟩
 exact ⟨rfl, hQ h' tk acc' c' (fun b o hbI e => hk b o (Nat.ne_of_lt (Heap.lt_size e)) hbI (Heap.get?_push_of_some _ e)) hS' hacc⟩
end
end PySem
namespace L2
open PySem PySem.Spec PyProof.Rows
theorem b_reversed : bootBuiltins "reversed" = some (.type "reversed") := by decide +kernel
theorem vals_of : ∀ (ws : List V) (us : List Value), ws.length = us.length → (∀ (i : Nat) (w : V) (u : Value), ws[i]? = some w → us[i]? = some u → RelV w u) → Vals ws us := by
 intro ws
 induction ws with
 | nil =>
  intro us hl _
  have : us = [] := List.length_eq_zero_iff.mp hl.symm
  subst this
  exact .nil
 | cons w ws ih =>
  intro us hl h
  cases us with
  | nil => cases hl
  | cons u us => exact .cons (h 0 w u rfl rfl) (ih us (by simpa using hl) fun i w' u' e1 e2 => h (i + 1) w' u' e1 e2)
def tLR (te : TE) : TE := fun σ H Q => te σ H fun x H1 => ∃ z : Str, x = .str z ∧ z.length ≤ sizeLine ∧ ∀ p, H1 p = none → Q (.ref p) (upd H1 p (.lst (z.cps.toList.reverse.map fun c => V.str (tx [c]))))
theorem pe_listRev {X : Cx} {e : Expr} {te : TE} {p1 p2 pos1 pos2 : Pos} (hc : X.calm = true) (hgl : Gl X "list") (hml : X.mg "list" = none) (hgr : Gl X "reversed") (hmr : X.mg "reversed" = none) (he : PE X e te)
  (hs1 : starEach [.Call (.Name "reversed" p2) [e] [] pos2] X.env = [(false, eval (.Call (.Name "reversed" p2) [e] [] pos2) X.env)] := by rfl) (hs2 : starEach [e] X.env = [(false, eval e X.env)] := by rfl) :
  PE X (.Call (.Name "list" p1) [.Call (.Name "reversed" p2) [e] [] pos2] [] pos1) (tLR te) := by
 intro pins s σ H Q I h
 refine wpAny_Call_Name_kw (ld_blt I hgl hml b_list ?_ (by decide) (by decide))
 refine PyProof.Rows.callWith_type1 ?_ hs1 rfl
 rw [hs1]
 refine Calls.spliced_cons ?_
 refine wpAny_Call_Name_kw (ld_blt I hgr hmr b_reversed ?_ (by decide) (by decide))
 refine PyProof.Rows.callWith_type1 ?_ hs2 rfl
 rw [hs2]
 refine Calls.spliced_cons (thn (he pins s σ H _ I h) fun u s1 ⟨x, H1, I1, r1, q1⟩ => Calls.spliced_nil ?_)
 obtain ⟨z, rfl, hz, q⟩ := q1
 obtain ⟨t, rfl⟩ := r1
 refine call_reversed_str hz ?_
 refine Calls.spliced_nil ?_
 refine call_list_rev (I.ok.hd hc) hz ⟨_, Heap.get?_push_size _ rfl, rfl, rfl⟩ fun h' tk acc c hk hS hacc => ?_
 have hsz : (s1.heap.push (revS z t ((z.length : Int) - 1))).objs.size = s1.heap.objs.size + 1 := Heap.size_push ..
 dsimp only at hS hk ⊢
 rw [hsz] at hS ⊢
 have hf : H1 (s1.heap.objs.size + 1) = none := I1.hok.fresh (Nat.le_succ _)
 refine ⟨.ref (s1.heap.objs.size + 1), _, I1.laid (h' := h') (t' := tk) (a := s1.heap.objs.size + 1) (o := .lst (z.cps.toList.reverse.map fun c => V.str (tx [c]))) (fun b u e => hk b u (Nat.ne_of_lt (Heap.lt_size e)) (Heap.get?_push_of_some _ e)) (Nat.le_succ _) ?_, rfl, q _ hf⟩
 refine ⟨by rw [List.length_map, List.length_reverse]; simpa [Str.length] using hz, acc.toList, c, ?_, by rw [hS, Array.toArray_toList]⟩
 have hzl : z.cps.toList.length = z.length := by simp [Str.length]
 refine vals_of _ _ (by rw [List.length_map, List.length_reverse, hzl, Array.length_toList, hacc.1]) fun i w u e1 e2 => ?_
 have hi : i < z.length := by
  have := (List.getElem?_eq_some_iff.mp e1).1
  rw [List.length_map, List.length_reverse, hzl] at this
  exact this
 obtain ⟨c', t', hc', rfl⟩ := hacc.2 i u (by rw [← Array.getElem?_toList]; exact e2)
 rw [List.getElem?_map, List.getElem?_reverse (by rw [hzl]; exact hi), hzl] at e1
 rw [← Array.getElem?_toList] at hc'
 rw [hc'] at e1
 cases e1
 exact ⟨t', rfl⟩
section
variable {prog : Program} {w : World} {A : Around} {R : Result → Shared → Prop} {it : Addr} {fp wr : List Addr} {n : Nat} {Pv : Nat → Value → Prop} {Sv : Nat → Heap → Prop}
end
theorem rel_key {k : Key} {u : Value} (h : keyIs k u = true) : RelV (kV k) u := by
 rcases keyIs_shape h with ⟨i, t, rfl, rfl⟩ | ⟨x, t, rfl, rfl⟩
 ·exact ⟨t, rfl⟩
 ·exact ⟨t, rfl⟩
theorem kv_get {kvs : List (Key × V)} {vs : List (Key × Value)} (r : KV kvs vs) : ∀ {i : Nat} {p : Key × V}, kvs[i]? = some p → ∃ q, vs[i]? = some q ∧ p.1 = q.1 ∧ RelV p.2 q.2 := by
 unfold KV at r
 induction r with
 | nil => intro i p e; simp at e
 | @cons a b as bs h t ih =>
  intro i p e
  cases i with
  | zero =>
   simp at e
   subst e
   exact ⟨b, rfl, h⟩
  | succ i =>
   obtain ⟨q, e2, r⟩ := ih (i := i) (p := p) (by simpa using e)
   exact ⟨q, by simpa using e2, r⟩
section
variable {X : Cx} {pins : List (Addr × Obj)} {σ : St} {H H' : Hp} {s s' : Shared} {d : Addr} {o : Obj} {kvs kvs' : List (Key × V)}
theorem Inv.frozen (I : Inv X pins σ H s) (hd : H d = some (.dK kvs)) : ∃ o, Inv X pins σ (upd H d (.frz o (.dK kvs))) s := by
 have q := I.hok d _ hd
 obtain ⟨z, lo, vs, kv, dd⟩ := id q
 obtain ⟨o, es, ep, ho, r⟩ := id dd
 refine ⟨o, I.write (h' := s.heap) (t' := s.toks) (x := d) (e := d) (by rw [hd]; exact True.intro) (.inl rfl) (fun _ _ _ z => z) ⟨o, ho⟩ ⟨ho, z, lo, vs, kv, dd⟩⟩
theorem Inv.thaw (I : Inv X pins σ H s) (hd : H d = some (.dK kvs)) (J : Inv X pins σ H' s') (e : H' d = some (.frz o (.dK kvs'))) : Inv X pins σ (upd H' d (.dK kvs')) s' := by
 have nn : ∀ b, H' b = none → upd H' d (.dK kvs') b = none := fun b z => by
  rw [upd_ne]
  ·exact z
  ·intro w; rw [w, e] at z; cases z
 refine { J with base := ⟨J.base.keep, J.base.slot, fun b ob h1 h2 h3 => nn b (J.base.free b ob h1 h2 h3), J.base.there, fun b xs h1 => ?_, fun b ob u h1 => ?_, fun b ps h1 => ?_⟩, free := nn _ J.free, freeC := fun x c h => nn _ (J.freeC x c h), pin := fun p hp => ?_, hok := fun b u h1 => ?_ }
 ·have h2 := J.base.tups b xs h1
  rw [upd_ne]
  ·exact h2
  ·intro w; rw [w, e] at h2; cases h2
 ·by_cases w : b = d
  ·have h2 := I.base.frzs b ob u h1
   rw [w, hd] at h2
   cases h2
  ·rw [upd_ne w]
   exact J.base.frzs b ob u h1
 ·obtain ⟨more, h2⟩ := J.base.tbls b ps h1
  refine ⟨more, ?_⟩
  rw [upd_ne]
  ·exact h2
  ·intro w; rw [w, e] at h2; cases h2
 ·obtain ⟨p1, p2, p3⟩ := J.pin p hp
  exact ⟨p1, nn _ p2, p3⟩
 ·have ho : ∀ (a : Addr) (b : Addr), H' b = some (.own a) → upd H' d (.dK kvs') b = some (.own a) := fun a b z => by
   rw [upd_ne]
   ·exact z
   ·intro w; rw [w, e] at z; cases z
  have ht : ∀ (b : Addr) xs, H' b = some (.tup xs) → upd H' d (.dK kvs') b = some (.tup xs) := fun b xs z => by
   rw [upd_ne]
   ·exact z
   ·intro w; rw [w, e] at z; cases z
  by_cases w : b = d
  ·subst w
   rw [upd_same] at h1
   cases h1
   obtain ⟨_, q⟩ := J.hok b _ e
   exact q.stay (fun _ _ _ z => z) (ho b) ht
  ·rw [upd_ne w] at h1
   exact (J.hok b u h1).stay (fun _ _ _ z => z) (ho b) ht
end
def tFrz (t : TE) : TE := fun σ H Q => ∃ d kvs, H d = some (.dK kvs) ∧ ∀ o, t σ (upd H d (.frz o (.dK kvs))) fun v H' => H' d = some (.frz o (.dK kvs)) ∧ Q v (upd H' d (.dK kvs))
theorem pe_frz {X : Cx} {e : Expr} {t : TE} (h : PE X e t) : PE X e (tFrz t) := by
 intro pins s σ H Q I q
 obtain ⟨d, kvs, hd, q⟩ := q
 obtain ⟨o, I1⟩ := I.frozen hd
 exact thn (h pins s σ _ _ I1 (q o)) fun u s2 ⟨v, H2, I2, r, e2, q2⟩ => ⟨v, _, I.thaw hd I2 e2, r, q2⟩
theorem frz_at {X : Cx} {pins : List (Addr × Obj)} {σ : St} {H : Hp} {s : Shared} {d : Addr} {o : Obj} {kvs : List (Key × V)} {es : Array DictEntry} {ep : Nat} (I : Inv X pins σ H s) (hd : H d = some (.frz o (.dK kvs))) (ho : o.data = .dict es ep) :
  ∃ vs, KV kvs vs ∧ s.heap.DictAt (mixKind X.prog X.w) d vs ep ∧ (d == sysModules) = false := by
 obtain ⟨h1, z, lo, vs, kv, o', es', ep', h2, h3, h4, h5⟩ := I.hok d _ hd
 rw [h1] at h2
 cases h2
 rw [ho] at h4
 cases h4
 exact ⟨vs, kv, ⟨o, es, h1, h3, ho, h5⟩, lo⟩
theorem op_neD {X : Cx} (hu : X.A.units + 64 < cLine) : OpR X (compareOp .NotEq) (fun x y H Q => ∃ da db, RepD H da x ∧ RepD H db y ∧ SeqAt.shaped da = true ∧ SeqAt.shaped db = true ∧ Q (.bl (!PyData.eqv da db)) H) := by
 intro pins s σ H x y v u Q I rx ry h
 obtain ⟨da, db, r1, r2, s1, s2, q⟩ := h
 obtain ⟨as, q1⟩ := RepD.reads I da x v r1 rx
 obtain ⟨bs, q2⟩ := RepD.reads I db y u r2 ry
 exact ne_dataH q1 q2 s1 s2 hu ⟨.bl _, H, I, rfl, q⟩
theorem seq_any {t u : TS} {D : Ends} {σ : L2.St} {H : Hp} (I : L2.St → Hp → Prop) (h : ∀ R : L2.St → Hp → Prop, (∀ σ' H', I σ' H' → R σ' H') → t { D with nx := R } σ H) (hu : ∀ σ' H', I σ' H' → u D σ' H') : tSeq t u D σ H := h _ hu
theorem mt_popR {X : Cx} : MtR X "list.pop" rPop := mt_pop
section
variable {X : Cx} {pins : List (Addr × Obj)} {σ : St} {H : Hp} {s : Shared} {a : Addr} {kvs : List (Key × V)} {k : Key} {u : Value} {A : Around} {E : Value → Shared → Prop}
theorem d_setd {z : V} {r : Value} {Q : Value → Shared → Prop} (I : Inv X pins σ H s) (e : H a = some (.dK kvs)) (ry : RelV (kV k) u) (rz : RelV z r) (hl : kvs.length < sizeLine) (h1 : ∀ v w' s', valV kvs k = some v → RelV v w' → Inv X pins σ H s' → Q w' s')
  (h2 : valV kvs k = none → ∀ s', Inv X pins σ (upd H a (.dK (putK kvs k z))) s' → Q r s') : wpAny (model X.prog X.w) A (call (.builtin "dict.setdefault") [.ref a, u, r]) Q E s := by
 obtain ⟨zz, hd, vs, rel, dd⟩ := dk_of I.hok e
 refine call_meetsIn PySem.F.slot_dict_setdefault dd.typeIs PySem.F.entry_dict_setdefault (PySem.F.args_dict_setdefault_3 _ _ _) (kt_meets_setdefault (mixKind X.prog X.w) a (kV_is ry) hd r) ⟨vs, dd, by rw [← rel.length]; exact zz, fun v hv => ?_, fun hn h' dd' hs => ?_⟩
 ·have q := rel.val k
  rw [hv] at q
  cases l : valV kvs k with
  | none => rw [l] at q; exact (show False from q).elim
  | some v' => rw [l] at q; exact h1 v' v _ l q (I.tok _)
 ·have q := rel.val k
  rw [hn] at q
  have hlp : (putK kvs k z).length ≤ sizeLine := by have := length_putK kvs k z; omega
  have he : ∃ q, h'.get? a = some q := let ⟨q, _, _, hq, _⟩ := dd'; ⟨q, hq⟩
  cases l : valV kvs k with
  | none => exact h2 l _ (d_write I (by rw [e]; exact True.intro) hs he (dk_new hlp hd (rel.put k rz) dd'))
  | some v' => rw [l] at q; exact (show False from q).elim
end
def tDSet (td ty tx : TE) : TE := fun σ H Q => td σ H fun x H1 => ∃ a, x = .ref a ∧ IsD H1 a ∧ ty σ H1 fun y H2 => tx σ H2 fun z H3 => ∃ kvs k, H3 a = some (.dK kvs) ∧ y = kV k ∧ kvs.length < sizeLine ∧
 (∀ v, valV kvs k = some v → Q v H3) ∧ (valV kvs k = none → Q z (upd H3 a (.dK (putK kvs k z))))
theorem pe_dset {X : Cx} {o e f : Expr} {apos cpos : Pos} {td ty tx : TE} (ho : PE X o td) (he : PE X e ty) (hf : PE X f tx) (m : M2 X o "setdefault" apos e f cpos) : PE X (.Call (.Attribute o "setdefault" apos) [e, f] [] cpos) (tDSet td ty tx) := by
 intro pins s σ H Q I h
 refine wpAny_Call_method m.base m.few m.line PySem.F.plainAttrs_dict PySem.F.slot_dict_setdefault PySem.F.type_dict_setdefault (thn (ho pins s σ H _ I h) fun u s1 ⟨x, H1, I1, rx, a, ex, d, q1⟩ => ?_)
 subst ex
 obtain rfl : u = Value.ref a := rx
 obtain ⟨t1, t2, _⟩ := isD_at I1 d
 refine ⟨t1, t2, ?_⟩
 rw [m.trees]
 refine Calls.callWith_builtin rfl (Calls.evalArgs_plain (Calls.spliced_cons (thn (he pins s1 σ H1 _ I1 q1) fun iv s2 ⟨y, H2, I2, ry, q2⟩ =>
  Calls.spliced_cons (thn (hf pins s2 σ H2 _ I2 q2) fun fv s3 ⟨z, H3, I3, rz, kvs, k, ea, ey, hl, q3, q4⟩ => Calls.spliced_nil ?_))))
 subst ey
 exact d_setd I3 ea ry rz hl (fun v w' s4 l rw' I4 => ⟨v, H3, I4, rw', q3 v l⟩) fun l s4 I4 => ⟨z, _, I4, rz, q4 l⟩
end L2
namespace Tim
open PySem PySem.W PyProof.Rows
section
variable {M : Model} {A : Around} {E : Value → Shared → Prop} {σ : Type}
theorem kc_mono {α : Type} {m : StateT σ Sem α} {Q Q' : α → σ → Shared → Prop} {st : σ} {s : Shared} (h : kasC M A E m Q st s) (hq : ∀ a st' s', Q a st' s' → Q' a st' s') : kasC M A E m Q' st s :=
 wpAny_mono h (fun r s' h' => hq _ _ _ h') fun _ _ e => e
theorem kc_list {β : Type} {f : Nat → β → StateT σ Sem (ForInStep β)} {Q : β → σ → Shared → Prop} (I : Nat → β → σ → Shared → Prop) (b : Nat)
  (step : ∀ i c st s, i < b → I i c st s → kasC M A E (f i c) (fun r st' s' => match r with | .done c' => Q c' st' s' | .yield c' => I (i + 1) c' st' s') st s)
  (fin : ∀ c st s, I b c st s → Q c st s) : ∀ (n i : Nat) (c : β) (st : σ) (s : Shared), i + n = b → I i c st s → kasC M A E (forIn (List.range' i n) c f) Q st s
 | 0, i, c, st, s, e, h => by
  rw [List.range'_zero]
  refine kasC_nil (fin c st s ?_)
  have : i = b := by omega
  rw [← this]
  exact h
 | n + 1, i, c, st, s, e, h => by
  rw [List.range'_succ]
  refine kasC_cons (kc_mono (step i c st s (by omega) h) fun r st' s' h' => ?_)
  cases r with
  | done c' => exact h'
  | yield c' => exact kc_list I b step fin n (i + 1) c' st' s' (by omega) h'
theorem kc_for {β : Type} {a b : Nat} {c : β} {f : Nat → β → StateT σ Sem (ForInStep β)} {Q : β → σ → Shared → Prop} {st : σ} {s : Shared} (I : Nat → β → σ → Shared → Prop) (h : I a c st s)
  (step : ∀ i c st s, i < max a b → I i c st s → kasC M A E (f i c) (fun r st' s' => match r with | .done c' => Q c' st' s' | .yield c' => I (i + 1) c' st' s') st s)
  (fin : ∀ c st s, I (max a b) c st s → Q c st s) : kasC M A E (forIn [a:b] c f) Q st s :=
 kasC_range (kc_list I (max a b) step fin (b - a) a c st s (by omega) h)
end
section
variable {prog : Program} {w : World} {A : Around} {E : Value → Shared → Prop}
structure Rank (prog : Program) (w : World) (A : Around) (κ : SortKind) (ϕ : Keyed → Nat) (U : Keyed → Prop) (G : Shared → Prop) : Prop where
 ask : ∀ (x y : Keyed) (C : Bool → Shared → Prop) (s : Shared), U x → U y → G s → (∀ s', G s' → C (decide (ϕ x < ϕ y)) s') → wpAny (model prog w) A (keyLt' κ x.1 y.1) C (fun _ _ => False) s
variable {κ : SortKind} {ϕ : Keyed → Nat} {U : Keyed → Prop} {G : Shared → Prop}
theorem kc_lt (R : Rank prog w A κ ϕ U G) {x y : Keyed} {Q : Option Bool → SortSt → Shared → Prop} {st : SortSt} {s : Shared} (hk : kindOf st = κ) (hx : U x) (hy : U y) (g : G s) (h : ∀ s', G s' → Q (some (decide (ϕ x < ϕ y))) st s') :
  kasC (model prog w) A E (lt' x y) Q st s := by
 rw [lt'_eq]
 refine kasC_bind (kasC_get ?_)
 rw [hk]
 refine kasC_bind (kasC_lift (wpAny_attempt (wpAny_mono (R.ask x y (fun c s' => Q (some c) st s') s hx hy g h) (fun c s' hc => ?_) fun _ _ hF => hF.elim)))
 exact kasC_pure hc
theorem kc_elem {xs : Array Keyed} {i : Nat} {x : Keyed} {Q : Keyed → SortSt → Shared → Prop} {st : SortSt} {s : Shared} (hx : xs[i]? = some x) (h : Q x st s) : kasC (model prog w) A E (elem' xs i) Q st s := by
 rw [elem'_eq, hx]
 exact kasC_pure h
noncomputable def fx (ϕ : Keyed → Nat) (xs : Array Keyed) (i : Nat) : Nat := match xs[i]? with
 | some p => ϕ p
 | none => 0
theorem fx_at {xs : Array Keyed} {i : Nat} {x : Keyed} (h : xs[i]? = some x) : fx ϕ xs i = ϕ x := by unfold fx; rw [h]
theorem fx_congr {xs ys : Array Keyed} {i j : Nat} (h : xs[i]? = ys[j]?) : fx ϕ xs i = fx ϕ ys j := by unfold fx; rw [h]
def Al (U : Keyed → Prop) (xs : Array Keyed) : Prop := ∀ (i : Nat) x, xs[i]? = some x → U x
theorem Al.perm {xs ys : Array Keyed} (h : Al U xs) (p : ys.Perm xs) : Al U ys := fun i x e => by
 have hm : x ∈ ys := Array.mem_of_getElem? e
 have := p.mem_iff.mp hm
 obtain ⟨j, hj, e2⟩ := Array.getElem_of_mem this
 exact h j x (by rw [← e2]; exact Array.getElem?_eq_getElem hj)
noncomputable def galp' : Bool → Keyed → Array Keyed → Nat → Nat → Nat → StateT SortSt Sem (Option Nat) := sortPriv% PySem.Builtin.gallop
noncomputable def bey' (lf : Bool) (ky : Keyed) (ar : Array Keyed) (bs : Nat) (i : Nat) : StateT SortSt Sem (Option Bool) := do
 let el ← elem' ar (bs + i)
 if lf then lt' el ky else return (← lt' ky el).map (!·)
theorem galp'_eq (lf : Bool) (ky : Keyed) (ar : Array Keyed) (bs n ht : Nat) : galp' lf ky ar bs n ht = (do
 let mut u := 0
 let mut v := 1
 let mut p := 0
 let mut q := 0
 let some rt ← bey' lf ky ar bs ht | return none
 if rt then
  let mx := n - ht
  for _ in [0:n] do
   if v ≥ mx then break
   let some mo ← bey' lf ky ar bs (ht + v) | return none
   if !mo then break
   u := v
   v := 2 * v + 1
  p := ht + u + 1
  q := ht + min v mx
 else
  let mx := ht + 1
  for _ in [0:n] do
   if v ≥ mx then break
   let some fo ← bey' lf ky ar bs (ht - v) | return none
   if fo then break
   u := v
   v := 2 * v + 1
  p := ht + 1 - min v mx
  q := ht - u
 for _ in [0:n] do
  if p ≥ q then break
  let m := p + (q - p) / 2
  let some mo ← bey' lf ky ar bs m | return none
  if mo then p := m + 1 else q := m
 return some q) := rfl
noncomputable def beyB (ϕ : Keyed → Nat) (lf : Bool) (k : Nat) (ar : Array Keyed) (bs i : Nat) : Bool := if lf then decide (fx ϕ ar (bs + i) < k) else !decide (k < fx ϕ ar (bs + i))
theorem kc_bey (R : Rank prog w A κ ϕ U G) {lf : Bool} {ky : Keyed} {ar : Array Keyed} {bs i : Nat} {Q : Option Bool → SortSt → Shared → Prop} {st : SortSt} {s : Shared} (hk : kindOf st = κ) (hu : U ky) (ha : Al U ar) (hi : bs + i < ar.size) (g : G s)
  (h : ∀ s', G s' → Q (some (beyB ϕ lf (ϕ ky) ar bs i)) st s') : kasC (model prog w) A E (bey' lf ky ar bs i) Q st s := by
 unfold bey'
 have e : ar[bs + i]? = some ar[bs + i] := Array.getElem?_eq_getElem hi
 refine kasC_bind (kc_elem e ?_)
 unfold beyB at h
 rw [fx_at e] at h
 cases lf with
 | true =>
  rw [if_pos rfl]
  exact kc_lt R hk (ha _ _ e) hu g fun s' g' => by simpa using h s' g'
 | false =>
  rw [if_neg (by decide)]
  refine kasC_bind (kc_lt R hk hu (ha _ _ e) g fun s' g' => kasC_pure ?_)
  simpa using h s' g'
theorem kc_bis (R : Rank prog w A κ ϕ U G) {lf : Bool} {ky : Keyed} {ar : Array Keyed} {bs n p0 q0 : Nat} {Q : Option Nat → SortSt → Shared → Prop} {st : SortSt} {s : Shared} (hk : kindOf st = κ) (hu : U ky) (ha : Al U ar) (hn : bs + n ≤ ar.size)
  (mo : ∀ i j, i ≤ j → j < n → beyB ϕ lf (ϕ ky) ar bs j = true → beyB ϕ lf (ϕ ky) ar bs i = true) (g : G s) (hpq : p0 ≤ q0) (hq : q0 ≤ n) (h1 : ∀ i, i < p0 → beyB ϕ lf (ϕ ky) ar bs i = true) (h2 : ∀ i, q0 ≤ i → i < n → beyB ϕ lf (ϕ ky) ar bs i = false)
  (h : ∀ q s', q ≤ n → (∀ i, i < q → beyB ϕ lf (ϕ ky) ar bs i = true) → (∀ i, q ≤ i → i < n → beyB ϕ lf (ϕ ky) ar bs i = false) → G s' → Q (some q) st s') : kasC (model prog w) A E (do
   let mut p := p0
   let mut q := q0
   for _ in [0:n] do
    if p ≥ q then break
    let m := p + (q - p) / 2
    let some mo ← bey' lf ky ar bs m | return none
    if mo then p := m + 1 else q := m
   return some q) Q st s := by
 dsimp only
 refine kasC_bind (kc_for (fun t c st' s' => ∃ p q, c = (none, p, q) ∧ st' = st ∧ G s' ∧ p ≤ q ∧ q ≤ n ∧ (∀ i, i < p → beyB ϕ lf (ϕ ky) ar bs i = true) ∧ (∀ i, q ≤ i → i < n → beyB ϕ lf (ϕ ky) ar bs i = false) ∧ q - p ≤ n - t) ⟨p0, q0, rfl, rfl, g, hpq, hq, h1, h2, by omega⟩ ?_ ?_)
 ·rintro t c st' s' ht ⟨p, q, rfl, rfl, g', a1, a2, a3, a4, a5⟩
  dsimp only
  by_cases c : p ≥ q
  ·rw [if_pos c]
   have e : p = q := by omega
   subst e
   exact kasC_pure (kasC_pure (h p s' a2 a3 a4 g'))
  ·rw [if_neg c]
   refine kasC_bind (kc_bey R hk hu ha (by omega) g' fun s2 g2 => ?_)
   dsimp only
   by_cases cm : beyB ϕ lf (ϕ ky) ar bs (p + (q - p) / 2) = true
   ·rw [if_pos cm]
    exact kasC_pure ⟨p + (q - p) / 2 + 1, q, rfl, rfl, g2, by omega, a2, fun i hi => mo i _ (by omega) (by omega) cm, a4, by omega⟩
   ·rw [if_neg cm]
    refine kasC_pure ⟨p, p + (q - p) / 2, rfl, rfl, g2, by omega, by omega, a3, fun i hi1 hi2 => ?_, by omega⟩
    cases z : beyB ϕ lf (ϕ ky) ar bs i with
    | false => rfl
    | true => exact absurd (mo _ i hi1 hi2 z) cm
 ·rintro c st' s' ⟨p, q, rfl, rfl, g', a1, a2, a3, a4, a5⟩
  have e : p = q := by omega
  subst e
  exact kasC_pure (h p s' a2 a3 a4 g')
theorem kc_galp (R : Rank prog w A κ ϕ U G) {lf : Bool} {ky : Keyed} {ar : Array Keyed} {bs n ht : Nat} {Q : Option Nat → SortSt → Shared → Prop} {st : SortSt} {s : Shared} (hk : kindOf st = κ) (hu : U ky) (ha : Al U ar) (hn : bs + n ≤ ar.size) (hh : ht < n)
  (mo : ∀ i j, i ≤ j → j < n → beyB ϕ lf (ϕ ky) ar bs j = true → beyB ϕ lf (ϕ ky) ar bs i = true) (g : G s)
  (h : ∀ q s', q ≤ n → (∀ i, i < q → beyB ϕ lf (ϕ ky) ar bs i = true) → (∀ i, q ≤ i → i < n → beyB ϕ lf (ϕ ky) ar bs i = false) → G s' → Q (some q) st s') : kasC (model prog w) A E (galp' lf ky ar bs n ht) Q st s := by
 have mo' : ∀ i j, i ≤ j → j < n → beyB ϕ lf (ϕ ky) ar bs i = false → beyB ϕ lf (ϕ ky) ar bs j = false := fun i j h1 h2 e => by
  cases z : beyB ϕ lf (ϕ ky) ar bs j with
  | false => rfl
  | true => rw [mo i j h1 h2 z] at e; cases e
 rw [galp'_eq]
 refine kasC_bind (kc_bey R hk hu ha (by omega) g fun s1 g1 => ?_)
 dsimp only
 by_cases c : beyB ϕ lf (ϕ ky) ar bs ht = true
 ·rw [if_pos c]
  have go : ∀ u v s', G s' → ht + u < n → u < v → beyB ϕ lf (ϕ ky) ar bs (ht + u) = true → (n - ht ≤ v ∨ beyB ϕ lf (ϕ ky) ar bs (ht + v) = false) → ht + u + 1 ≤ ht + min v (n - ht) ∧ ht + min v (n - ht) ≤ n ∧ (∀ i, i < ht + u + 1 → beyB ϕ lf (ϕ ky) ar bs i = true) ∧ ∀ i, ht + min v (n - ht) ≤ i → i < n → beyB ϕ lf (ϕ ky) ar bs i = false := fun u v s' g' a1 a2 a3 a4 => by
   refine ⟨by omega, by omega, fun i hi => mo i _ (by omega) a1 a3, fun i h1 h2 => ?_⟩
   rcases a4 with z | z
   ·omega
   ·by_cases q : n - ht ≤ v
    ·omega
    ·exact mo' (ht + v) i (by omega) h2 z
  refine kasC_bind (kc_for (fun t c st' s' => ∃ u v, c = (none, u, v) ∧ st' = st ∧ G s' ∧ ht + u < n ∧ u < v ∧ beyB ϕ lf (ϕ ky) ar bs (ht + u) = true ∧ t + 1 ≤ v) ⟨0, 1, rfl, rfl, g1, by omega, by omega, by rw [Nat.add_zero]; exact c, by omega⟩ ?_ ?_)
  ·rintro t c st' s' ht' ⟨u, v, rfl, rfl, g', a1, a2, a3, a4⟩
   dsimp only
   by_cases c1 : v ≥ n - ht
   ·rw [if_pos c1]
    obtain ⟨b1, b2, b3, b4⟩ := go u v s' g' a1 a2 a3 (.inl c1)
    exact kasC_pure (kc_bis R hk hu ha hn mo g' b1 b2 b3 b4 h)
   ·rw [if_neg c1]
    refine kasC_bind (kc_bey R hk hu ha (by omega) g' fun s2 g2 => ?_)
    dsimp only
    by_cases cm : beyB ϕ lf (ϕ ky) ar bs (ht + v) = true
    ·rw [if_neg (by rw [cm]; decide)]
     exact kasC_pure ⟨v, 2 * v + 1, rfl, rfl, g2, by omega, by omega, cm, by omega⟩
    ·have cf : beyB ϕ lf (ϕ ky) ar bs (ht + v) = false := by simpa using cm
     rw [if_pos (by rw [cf]; decide)]
     obtain ⟨b1, b2, b3, b4⟩ := go u v s' g' a1 a2 a3 (.inr cf)
     exact kasC_pure (kc_bis R hk hu ha hn mo g2 b1 b2 b3 b4 h)
  ·rintro c st' s' ⟨u, v, rfl, rfl, g', a1, a2, a3, a4⟩
   obtain ⟨b1, b2, b3, b4⟩ := go u v s' g' a1 a2 a3 (.inl (by omega))
   exact kc_bis R hk hu ha hn mo g' b1 b2 b3 b4 h
 ·have cf : beyB ϕ lf (ϕ ky) ar bs ht = false := by simpa using c
  rw [if_neg c]
  have go : ∀ u v, u ≤ ht → u < v → beyB ϕ lf (ϕ ky) ar bs (ht - u) = false → (ht + 1 ≤ v ∨ beyB ϕ lf (ϕ ky) ar bs (ht - v) = true) → ht + 1 - min v (ht + 1) ≤ ht - u ∧ ht - u ≤ n ∧ (∀ i, i < ht + 1 - min v (ht + 1) → beyB ϕ lf (ϕ ky) ar bs i = true) ∧ ∀ i, ht - u ≤ i → i < n → beyB ϕ lf (ϕ ky) ar bs i = false := fun u v a1 a2 a3 a4 => by
   refine ⟨by omega, by omega, fun i hi => ?_, fun i h1 h2 => mo' _ i h1 h2 a3⟩
   rcases a4 with z | z
   ·omega
   ·exact mo i (ht - v) (by omega) (by omega) z
  refine kasC_bind (kc_for (fun t c st' s' => ∃ u v, c = (none, u, v) ∧ st' = st ∧ G s' ∧ u ≤ ht ∧ u < v ∧ beyB ϕ lf (ϕ ky) ar bs (ht - u) = false ∧ t + 1 ≤ v) ⟨0, 1, rfl, rfl, g1, by omega, by omega, cf, by omega⟩ ?_ ?_)
  ·rintro t c st' s' ht' ⟨u, v, rfl, rfl, g', a1, a2, a3, a4⟩
   dsimp only
   by_cases c1 : v ≥ ht + 1
   ·rw [if_pos c1]
    obtain ⟨b1, b2, b3, b4⟩ := go u v a1 a2 a3 (.inl c1)
    exact kasC_pure (kc_bis R hk hu ha hn mo g' b1 b2 b3 b4 h)
   ·rw [if_neg c1]
    refine kasC_bind (kc_bey R hk hu ha (by omega) g' fun s2 g2 => ?_)
    dsimp only
    by_cases cm : beyB ϕ lf (ϕ ky) ar bs (ht - v) = true
    ·rw [if_pos cm]
     obtain ⟨b1, b2, b3, b4⟩ := go u v a1 a2 a3 (.inr cm)
     exact kasC_pure (kc_bis R hk hu ha hn mo g2 b1 b2 b3 b4 h)
    ·have cf2 : beyB ϕ lf (ϕ ky) ar bs (ht - v) = false := by simpa using cm
     rw [if_neg cm]
     exact kasC_pure ⟨v, 2 * v + 1, rfl, rfl, g2, by omega, by omega, cf2, by omega⟩
  ·rintro c st' s' ⟨u, v, rfl, rfl, g', a1, a2, a3, a4⟩
   obtain ⟨b1, b2, b3, b4⟩ := go u v a1 a2 a3 (.inl (by omega))
   exact kc_bis R hk hu ha hn mo g' b1 b2 b3 b4 h
end
end Tim
namespace Tim
open PySem PySem.W PyProof.Rows
abbrev Up (ϕ : Keyed → Nat) (l : List Keyed) : Prop := l.Pairwise fun x y => ϕ x ≤ ϕ y
structure Lo (ϕ : Keyed → Nat) (T o X Y : List Keyed) : Prop where
 px : Up ϕ (o ++ X)
 py : Up ϕ (o ++ Y)
 pm : (o ++ X ++ Y).Perm T
section
variable {ϕ : Keyed → Nat} {T o X Y x y : List Keyed}
theorem Lo.goX (h : Lo ϕ T o (x ++ X) Y) (hx : ∀ u ∈ x, ∀ v ∈ Y, ϕ u ≤ ϕ v) : Lo ϕ T (o ++ x) X Y := by
 obtain ⟨h1, h2, h3⟩ := h
 refine ⟨by rw [List.append_assoc]; exact h1, ?_, by rw [List.append_assoc o x X]; exact h3⟩
 unfold Up at *
 rw [List.pairwise_append] at h1 h2 ⊢
 rw [List.pairwise_append] at h1
 rw [List.pairwise_append]
 refine ⟨⟨h1.1, h1.2.1.1, fun a ha b hb => h1.2.2 a ha b (List.mem_append_left _ hb)⟩, h2.2.1, fun a ha b hb => ?_⟩
 rcases List.mem_append.mp ha with z | z
 ·exact h2.2.2 a z b hb
 ·exact hx a z b hb
theorem Lo.swap (h : Lo ϕ T o X Y) : Lo ϕ T o Y X := ⟨h.py, h.px, (by
 rw [List.append_assoc]
 exact ((List.perm_append_comm.append_left o).trans (by rw [← List.append_assoc])).trans h.pm)⟩
theorem Lo.goY (h : Lo ϕ T o X (y ++ Y)) (hy : ∀ u ∈ y, ∀ v ∈ X, ϕ u ≤ ϕ v) : Lo ϕ T (o ++ y) X Y := (h.swap.goX hy).swap
theorem Lo.len (h : Lo ϕ T o X Y) : o.length + X.length + Y.length = T.length := by
 have := h.pm.length_eq
 simp only [List.length_append] at this
 exact this
end
theorem at_ {a : Array Keyed} {i : Nat} (h : i < a.size) : ∃ x, a[i]? = some x ∧ a.toList.drop i = x :: a.toList.drop (i + 1) :=
 ⟨a[i], Array.getElem?_eq_getElem h, by rw [List.drop_eq_getElem_cons (by simpa using h)]; simp⟩
theorem push_l (o : Array Keyed) (x : Keyed) : (o.push x).toList = o.toList ++ [x] := by simp
theorem ext_l (o : Array Keyed) (i k : Nat) : (o.extract i (i + k)).toList = (o.toList.drop i).take k := by
 rw [Array.toList_extract]
 simp
theorem ext_end (o : Array Keyed) (i : Nat) : (o.extract i o.size).toList = o.toList.drop i := by
 rw [Array.toList_extract, List.extract_eq_take_drop]
 exact List.take_of_length_le (by simp)
theorem ext_0 (o : Array Keyed) (i : Nat) : (o.extract 0 i).toList = o.toList.take i := by
 rw [Array.toList_extract]
 simp
theorem app_l (o p : Array Keyed) : (o ++ p).toList = o.toList ++ p.toList := by simp
theorem drop_cut (l : List Keyed) (i k : Nat) : l.drop i = (l.drop i).take k ++ l.drop (i + k) := by
 rw [← List.drop_drop, List.take_append_drop]
def Sim (st st' : SortSt) : Prop := kindOf st' = kindOf st ∧ arrOf st' = arrOf st ∧ pendingOf st' = pendingOf st ∧ failedOf st' = failedOf st
theorem Sim.refl (st : SortSt) : Sim st st := ⟨rfl, rfl, rfl, rfl⟩
theorem Sim.trans {a b c : SortSt} (h : Sim a b) (k : Sim b c) : Sim a c := ⟨k.1.trans h.1, k.2.1.trans h.2.1, k.2.2.1.trans h.2.2.1, k.2.2.2.trans h.2.2.2⟩
noncomputable def setG' : Nat → StateT SortSt Sem Unit := sortPriv% PySem.Builtin.setMinGallop
theorem setG'_eq (n : Nat) : setG' n = modify fun z => SortSt.mk' (kindOf z) (arrOf z) (pendingOf z) n (failedOf z) := rfl
section
variable {prog : Program} {w : World} {A : Around} {E : Value → Shared → Prop} {κ : SortKind} {ϕ : Keyed → Nat} {U : Keyed → Prop} {G : Shared → Prop}
theorem kc_setG {n : Nat} {Q : Unit → SortSt → Shared → Prop} {st : SortSt} {s : Shared} (h : ∀ st', Sim st st' → Q () st' s) : kasC (model prog w) A E (setG' n) Q st s := by
 rw [setG'_eq]
 exact kasC_modify (h _ ⟨rfl, rfl, rfl, rfl⟩)
theorem kc_rule {n : String} {Q : Unit → SortSt → Shared → Prop} {st : SortSt} {s : Shared} (h : Q () st s) : kasC (model prog w) A E (liftM (rule n) : StateT SortSt Sem Unit) Q st s :=
 kasC_lift (wpAny_rule h)
theorem fx_mem {a : Array Keyed} {bs k : Nat} {u : Keyed} (h : u ∈ (a.toList.drop bs).take k) : ∃ t, t < k ∧ bs + t < a.size ∧ fx ϕ a (bs + t) = ϕ u := by
 obtain ⟨t, ht, e⟩ := List.getElem_of_mem h
 have ht1 : t < k := by rw [List.length_take] at ht; omega
 have ht2 : bs + t < a.size := by rw [List.length_take, List.length_drop, Array.length_toList] at ht; omega
 refine ⟨t, ht1, ht2, ?_⟩
 have e2 : a[bs + t]? = some u := by
  rw [← e, Array.getElem?_eq_getElem ht2]
  simp
 exact fx_at e2
def UpTo (ϕ : Keyed → Nat) (a : Array Keyed) (p q : Nat) : Prop := ∀ i j, p ≤ i → i ≤ j → j < q → fx ϕ a i ≤ fx ϕ a j
theorem UpTo.of {a : Array Keyed} (h : Up ϕ a.toList) : UpTo ϕ a 0 a.size := fun i j _ hij hj => by
 have e1 : a[i]? = some a[i] := Array.getElem?_eq_getElem (by omega)
 have e2 : a[j]? = some a[j] := Array.getElem?_eq_getElem hj
 rw [fx_at e1, fx_at e2]
 rcases Nat.lt_or_ge i j with c | c
 ·have := List.pairwise_iff_getElem.mp h i j (by simpa using (by omega : i < a.size)) (by simpa using hj) c
  simpa using this
 ·have : i = j := by omega
  subst this
  exact Nat.le_refl _
theorem UpTo.sub {a : Array Keyed} {p q p' q' : Nat} (h : UpTo ϕ a p q) (h1 : p ≤ p') (h2 : q' ≤ q) : UpTo ϕ a p' q' := fun i j a1 a2 a3 => h i j (by omega) a2 (by omega)
theorem kc_gal (R : Rank prog w A κ ϕ U G) {lf : Bool} {ky : Keyed} {ar : Array Keyed} {bs n ht : Nat} {Q : Option Nat → SortSt → Shared → Prop} {st : SortSt} {s : Shared} (hk : kindOf st = κ) (hu : U ky) (ha : Al U ar) (hn : bs + n ≤ ar.size) (hh : ht < n)
  (up : UpTo ϕ ar bs (bs + n)) (g : G s)
  (h : ∀ q s', q ≤ n → (∀ u ∈ (ar.toList.drop bs).take q, ϕ u ≤ ϕ ky) → (∀ u ∈ (ar.toList.drop (bs + q)).take (n - q), ϕ ky ≤ ϕ u) → G s' → Q (some q) st s') : kasC (model prog w) A E (galp' lf ky ar bs n ht) Q st s := by
 refine kc_galp R hk hu ha hn hh (fun i j hij hj => ?_) g fun q s' hq h1 h2 g' => h q s' hq (fun u hu => ?_) (fun u hu => ?_) g'
 ·have := up (bs + i) (bs + j) (by omega) (by omega) (by omega)
  unfold beyB
  cases lf with
  | true => simp; omega
  | false => simp; omega
 ·obtain ⟨t, b1, b2, b3⟩ := fx_mem (ϕ := ϕ) hu
  have := h1 t b1
  unfold beyB at this
  cases lf with
  | true => simp at this; omega
  | false => simp at this; omega
 ·obtain ⟨t, b1, b2, b3⟩ := fx_mem (ϕ := ϕ) hu
  have := h2 (q + t) (by omega) (by omega)
  unfold beyB at this
  rw [← Nat.add_assoc] at this
  cases lf with
  | true => simp at this; omega
  | false => simp at this; omega
end
noncomputable def mgLo' : Array Keyed → Array Keyed → StateT SortSt Sem (Array Keyed) := sortPriv% PySem.Builtin.mergeLo
noncomputable def endLo (a b o : Array Keyed) (i j : Nat) : Array Keyed := o ++ a.extract i a.size ++ b.extract j b.size
noncomputable def lastLo (a b o : Array Keyed) (i j : Nat) : Array Keyed := o ++ b.extract j b.size ++ a.extract i a.size
noncomputable def loE (a b o : Array Keyed) (i j mg k k1 : Nat) : StateT SortSt Sem (ForInStep (Option (Array Keyed) × Array Keyed × Nat × Nat × Nat × Nat × Nat)) := do
 let x ← elem' a i
 if i + 1 + 1 == a.size then pure (.done (some (lastLo a b (o.push x) (i + 1) j), o.push x, i + 1, j, mg, k, k1))
 else if k < 7 && k1 < 7 then pure (.done (none, o.push x, i + 1, j, mg, k, k1))
 else pure (.yield (none, o.push x, i + 1, j, mg, k, k1))
noncomputable def loD (a b o : Array Keyed) (i j mg k bc : Nat) : StateT SortSt Sem (ForInStep (Option (Array Keyed) × Array Keyed × Nat × Nat × Nat × Nat × Nat)) := do
 let y ← elem' b j
 if j + 1 == b.size then pure (.done (some (endLo a b (o.push y) i (j + 1)), o.push y, i, j + 1, mg, k, bc))
 else do
  let x ← elem' a i
  let some k1 ← galp' true x b (j + 1) (b.size - (j + 1)) 0 | pure (.done (some (endLo a b (o.push y) i (j + 1)), o.push y, i, j + 1, mg, k, bc))
  if k1 > 0 then
   if j + 1 + k1 == b.size then pure (.done (some (endLo a b (o.push y ++ b.extract (j + 1) (j + 1 + k1)) i (j + 1 + k1)), o.push y ++ b.extract (j + 1) (j + 1 + k1), i, j + 1 + k1, mg, k, k1))
   else loE a b (o.push y ++ b.extract (j + 1) (j + 1 + k1)) i (j + 1 + k1) mg k k1
  else loE a b (o.push y) i (j + 1) mg k k1
noncomputable def loC (a b o : Array Keyed) (i j mg ac bc : Nat) : StateT SortSt Sem (ForInStep (Option (Array Keyed) × Array Keyed × Nat × Nat × Nat × Nat × Nat)) := do
 setG' mg
 let y ← elem' b j
 let some k ← galp' false y a i (a.size - i) 0 | pure (.done (some (endLo a b o i j), o, i, j, mg, ac, bc))
 if k > 0 then
  if i + k + 1 == a.size then pure (.done (some (lastLo a b (o ++ a.extract i (i + k)) (i + k) j), o ++ a.extract i (i + k), i + k, j, mg, k, bc))
  else if i + k == a.size then pure (.done (some (endLo a b (o ++ a.extract i (i + k)) (i + k) j), o ++ a.extract i (i + k), i + k, j, mg, k, bc))
  else loD a b (o ++ a.extract i (i + k)) (i + k) j mg k bc
 else loD a b o i j mg k bc
noncomputable def loB (a b : Array Keyed) (c : (Option (Array Keyed) × Array Keyed × Nat × Nat × Nat × Nat × Nat)) : StateT SortSt Sem (ForInStep (Option (Array Keyed) × Array Keyed × Nat × Nat × Nat × Nat × Nat)) :=
 if c.2.2.2.2.1 > 1 then loC a b c.2.1 c.2.2.1 c.2.2.2.1 (c.2.2.2.2.1 - 1) c.2.2.2.2.2.1 c.2.2.2.2.2.2
 else loC a b c.2.1 c.2.2.1 c.2.2.2.1 c.2.2.2.2.1 c.2.2.2.2.2.1 c.2.2.2.2.2.2
noncomputable def loM (a b : Array Keyed) (mg : Nat) (c : (Option (Array Keyed) × Array Keyed × Nat × Nat × Nat × Nat)) : StateT SortSt Sem (ForInStep (Option (Array Keyed) × Array Keyed × Nat × Nat × Nat × Nat)) := do
 let y ← elem' b c.2.2.2.1
 let x ← elem' a c.2.2.1
 let some bw ← lt' y x | pure (.done (some (endLo a b c.2.1 c.2.2.1 c.2.2.2.1), c.2.1, c.2.2.1, c.2.2.2.1, c.2.2.2.2.1, c.2.2.2.2.2))
 if bw then do
  let y ← elem' b c.2.2.2.1
  if c.2.2.2.1 + 1 == b.size then pure (.done (some (endLo a b (c.2.1.push y) c.2.2.1 (c.2.2.2.1 + 1)), c.2.1.push y, c.2.2.1, c.2.2.2.1 + 1, 0, c.2.2.2.2.2 + 1))
  else if c.2.2.2.2.2 + 1 ≥ mg then pure (.done (none, c.2.1.push y, c.2.2.1, c.2.2.2.1 + 1, 0, c.2.2.2.2.2 + 1))
  else pure (.yield (none, c.2.1.push y, c.2.2.1, c.2.2.2.1 + 1, 0, c.2.2.2.2.2 + 1))
 else do
  let x ← elem' a c.2.2.1
  if c.2.2.1 + 1 + 1 == a.size then pure (.done (some (lastLo a b (c.2.1.push x) (c.2.2.1 + 1) c.2.2.2.1), c.2.1.push x, c.2.2.1 + 1, c.2.2.2.1, c.2.2.2.2.1 + 1, 0))
  else if c.2.2.2.2.1 + 1 ≥ mg then pure (.done (none, c.2.1.push x, c.2.2.1 + 1, c.2.2.2.1, c.2.2.2.2.1 + 1, 0))
  else pure (.yield (none, c.2.1.push x, c.2.2.1 + 1, c.2.2.2.1, c.2.2.2.2.1 + 1, 0))
noncomputable def loO (a b : Array Keyed) (c : (Option (Array Keyed) × Array Keyed × Nat × Nat × Nat)) : StateT SortSt Sem (ForInStep (Option (Array Keyed) × Array Keyed × Nat × Nat × Nat)) := do
 let d ← forIn [0:a.size + b.size] ((none, c.2.1, c.2.2.1, c.2.2.2.1, 0, 0) : (Option (Array Keyed) × Array Keyed × Nat × Nat × Nat × Nat)) fun _ => loM a b c.2.2.2.2
 Break.runK.match_1 (motive := fun _ => StateT SortSt Sem (ForInStep (Option (Array Keyed) × Array Keyed × Nat × Nat × Nat))) d.1 (fun r => pure (.done (some r, d.2.1, d.2.2.1, d.2.2.2.1, c.2.2.2.2))) fun _ => do
  rule "list.sort.gallop"
  let e ← forIn [0:a.size + b.size] ((none, d.2.1, d.2.2.1, d.2.2.2.1, c.2.2.2.2 + 1, d.2.2.2.2.1, d.2.2.2.2.2) : (Option (Array Keyed) × Array Keyed × Nat × Nat × Nat × Nat × Nat)) fun _ => loB a b
  Break.runK.match_1 (motive := fun _ => StateT SortSt Sem (ForInStep (Option (Array Keyed) × Array Keyed × Nat × Nat × Nat))) e.1 (fun r => pure (.done (some r, e.2.1, e.2.2.1, e.2.2.2.1, e.2.2.2.2.1))) fun _ => do
   setG' (e.2.2.2.2.1 + 1)
   pure (.yield (none, e.2.1, e.2.2.1, e.2.2.2.1, e.2.2.2.2.1 + 1))
theorem mgLo'_eq (a b : Array Keyed) : mgLo' a b = (do
 rule "list.sort.merge-lo"
 let y ← elem' b 0
 if 1 == b.size then pure (endLo a b #[y] 0 1)
 else if 0 + 1 == a.size then pure (lastLo a b #[y] 0 1)
 else do
  let z ← get
  let c ← forIn [0:a.size + b.size] ((none, #[y], 0, 1, gallopOf z) : (Option (Array Keyed) × Array Keyed × Nat × Nat × Nat)) fun _ => loO a b
  Break.runK.match_1 (motive := fun _ => StateT SortSt Sem (Array Keyed)) c.1 (fun r => pure r) fun _ => unsupported "internal:list.sort.merge-bound") := rfl
section
variable {prog : Program} {w : World} {A : Around} {E : Value → Shared → Prop} {κ : SortKind} {ϕ : Keyed → Nat} {U : Keyed → Prop} {G : Shared → Prop}
theorem up_head {x : Keyed} {l : List Keyed} (h : Up ϕ (x :: l)) : ∀ v ∈ x :: l, ϕ x ≤ ϕ v := fun v hv => by
 rcases List.mem_cons.mp hv with e | e
 ·exact Nat.le_of_eq (by rw [e])
 ·exact (List.pairwise_cons.mp h).1 v e
theorem Lo.hx {T o X Y : List Keyed} (h : Lo ϕ T o X Y) : Up ϕ X := (List.pairwise_append.mp h.px).2.1
theorem Lo.hy {T o X Y : List Keyed} (h : Lo ϕ T o X Y) : Up ϕ Y := (List.pairwise_append.mp h.py).2.1
def LoI (ϕ : Keyed → Nat) (a b o : Array Keyed) (i j : Nat) : Prop := Lo ϕ (a.toList ++ b.toList) o.toList (a.toList.drop i) (b.toList.drop j)
def Ok (ϕ : Keyed → Nat) (a b r : Array Keyed) : Prop := Up ϕ r.toList ∧ r.toList.Perm (a.toList ++ b.toList)
theorem LoI.end1 {a b o : Array Keyed} {i j : Nat} (h : LoI ϕ a b o i j) (e : i = a.size ∨ j = b.size) : Ok ϕ a b (endLo a b o i j) := by
 have t : (endLo a b o i j).toList = o.toList ++ a.toList.drop i ++ b.toList.drop j := by
  unfold endLo
  rw [app_l, app_l, ext_end, ext_end]
 unfold Ok
 rw [t]
 refine ⟨?_, h.pm⟩
 rcases e with e | e
 ·have : a.toList.drop i = [] := by rw [e]; simp
  rw [this, List.append_nil]
  exact h.py
 ·have : b.toList.drop j = [] := by rw [e]; simp
  rw [this, List.append_nil]
  exact h.px
theorem LoI.end2 {a b o : Array Keyed} {i j : Nat} (h : LoI ϕ a b o i j) (e : i + 1 = a.size) (hl : ∀ x, a[a.size - 1]? = some x → ∀ y ∈ b.toList, ϕ y ≤ ϕ x) : Ok ϕ a b (lastLo a b o i j) := by
 have t : (lastLo a b o i j).toList = o.toList ++ b.toList.drop j ++ a.toList.drop i := by
  unfold lastLo
  rw [app_l, app_l, ext_end, ext_end]
 unfold Ok
 rw [t]
 obtain ⟨x, hx, hd⟩ := at_ (show i < a.size by omega)
 have hn : a.toList.drop (i + 1) = [] := by rw [e]; simp
 rw [hn] at hd
 have h' : Lo ϕ (a.toList ++ b.toList) o.toList (a.toList.drop i) (b.toList.drop j ++ []) := by rw [List.append_nil]; exact h
 have := h'.goY fun u hu v hv => by
  rw [hd, List.mem_singleton] at hv
  subst hv
  exact hl v (by rw [← e]; exact hx) u (List.mem_of_mem_drop hu)
 exact ⟨this.px, by have := this.pm; rw [List.append_nil] at this; exact this⟩
theorem LoI.push1 {a b o : Array Keyed} {i j : Nat} {x : Keyed} (h : LoI ϕ a b o i j) (e : a.toList.drop i = x :: a.toList.drop (i + 1)) (hx : ∀ v ∈ b.toList.drop j, ϕ x ≤ ϕ v) : LoI ϕ a b (o.push x) (i + 1) j := by
 unfold LoI at h ⊢
 rw [e] at h
 rw [push_l]
 exact Lo.goX (x := [x]) h fun u hu v hv => by rw [List.mem_singleton.mp hu]; exact hx v hv
theorem LoI.push2 {a b o : Array Keyed} {i j : Nat} {x : Keyed} (h : LoI ϕ a b o i j) (e : b.toList.drop j = x :: b.toList.drop (j + 1)) (hx : ∀ v ∈ a.toList.drop i, ϕ x ≤ ϕ v) : LoI ϕ a b (o.push x) i (j + 1) := by
 unfold LoI at h ⊢
 rw [e] at h
 rw [push_l]
 exact Lo.goY (y := [x]) h fun u hu v hv => by rw [List.mem_singleton.mp hu]; exact hx v hv
theorem LoI.app1 {a b o : Array Keyed} {i j k : Nat} (h : LoI ϕ a b o i j) (hx : ∀ u ∈ (a.toList.drop i).take k, ∀ v ∈ b.toList.drop j, ϕ u ≤ ϕ v) : LoI ϕ a b (o ++ a.extract i (i + k)) (i + k) j := by
 unfold LoI at h ⊢
 rw [drop_cut _ i k] at h
 rw [app_l, ext_l]
 exact h.goX hx
theorem LoI.app2 {a b o : Array Keyed} {i j k : Nat} (h : LoI ϕ a b o i j) (hx : ∀ u ∈ (b.toList.drop j).take k, ∀ v ∈ a.toList.drop i, ϕ u ≤ ϕ v) : LoI ϕ a b (o ++ b.extract j (j + k)) i (j + k) := by
 unfold LoI at h ⊢
 rw [drop_cut _ j k] at h
 rw [app_l, ext_l]
 exact h.goY hx
theorem LoI.size {a b o : Array Keyed} {i j : Nat} (h : LoI ϕ a b o i j) (hi : i ≤ a.size) (hj : j ≤ b.size) : o.size + (a.size - i) + (b.size - j) = a.size + b.size := by
 have := h.len
 simp only [List.length_drop, List.length_append, Array.length_toList] at this
 exact this
def LoX (ϕ : Keyed → Nat) (G : Shared → Prop) (a b : Array Keyed) (st : SortSt) (q : Option (Array Keyed)) (st' : SortSt) (s' : Shared) : Prop := ∃ r, q = some r ∧ Sim st st' ∧ G s' ∧ Ok ϕ a b r
def LoY (ϕ : Keyed → Nat) (G : Shared → Prop) (a b : Array Keyed) (st : SortSt) (t : Nat) (c : (Option (Array Keyed) × Array Keyed × Nat × Nat × Nat × Nat × Nat)) (st' : SortSt) (s' : Shared) : Prop :=
 ∃ o i j mg ac bc, c = (none, o, i, j, mg, ac, bc) ∧ Sim st st' ∧ G s' ∧ LoI ϕ a b o i j ∧ i + 1 < a.size ∧ j < b.size ∧ t + 1 + 1 ≤ o.size
def LoV (ϕ : Keyed → Nat) (G : Shared → Prop) (a b : Array Keyed) (st : SortSt) (t : Nat) (q : Nat) (c : (Option (Array Keyed) × Array Keyed × Nat × Nat × Nat × Nat)) (st' : SortSt) (s' : Shared) : Prop :=
 ∃ o i j ac bc, c = (none, o, i, j, ac, bc) ∧ Sim st st' ∧ G s' ∧ LoI ϕ a b o i j ∧ i + 1 < a.size ∧ j < b.size ∧ t + 1 + q ≤ o.size
def LoW (ϕ : Keyed → Nat) (G : Shared → Prop) (a b : Array Keyed) (st : SortSt) (t : Nat) (c : (Option (Array Keyed) × Array Keyed × Nat × Nat × Nat)) (st' : SortSt) (s' : Shared) : Prop :=
 ∃ o i j mg, c = (none, o, i, j, mg) ∧ Sim st st' ∧ G s' ∧ LoI ϕ a b o i j ∧ i + 1 < a.size ∧ j < b.size ∧ t + 1 ≤ o.size
def LoZ {β : Type} (X Y : β → SortSt → Shared → Prop) (r : ForInStep β) (st' : SortSt) (s' : Shared) : Prop :=
 match r with | .done c => X c st' s' | .yield c => Y c st' s'
theorem drop_ {c : Array Keyed} {p k : Nat} (hp : p + k ≤ c.size) : (c.toList.drop (p + k)).take (c.size - p - k) = c.toList.drop (p + k) := List.take_of_length_le (by rw [List.length_drop, Array.length_toList]; omega)
theorem kc_loE {a b o : Array Keyed} {i j mg k k1 t : Nat} {x : Keyed} {st st4 : SortSt} {s5 : Shared} (h1 : ∀ x, a[a.size - 1]? = some x → ∀ y ∈ b.toList, ϕ y ≤ ϕ x) (S4 : Sim st st4) (g5 : G s5) (hx : a[i]? = some x) (hd : a.toList.drop i = x :: a.toList.drop (i + 1))
  (I6 : LoI ϕ a b o i j) (l4 : ∀ u ∈ b.toList.drop j, ϕ x ≤ ϕ u) (hi : i + 1 < a.size) (hj : j < b.size) (hz : t + 1 + 1 ≤ o.size) :
  kasC (model prog w) A E (loE a b o i j mg k k1) (LoZ (fun c st' s' => LoX ϕ G a b st c.1 st' s' ∨ LoY ϕ G a b st t c st' s') (LoY ϕ G a b st t)) st4 s5 := by
 refine kasC_bind (kc_elem hx ?_)
 have I7 := I6.push1 hd l4
 have hz7 : t + 1 + 1 ≤ (o.push x).size := by rw [Array.size_push]; omega
 by_cases e5 : i + 1 + 1 = a.size
 ·rw [if_pos (by simpa using e5)]
  exact kasC_pure (.inl ⟨_, rfl, S4, g5, I7.end2 e5 h1⟩)
 rw [if_neg (by simpa using e5)]
 have hi7 : i + 1 + 1 < a.size := by omega
 split
 ·exact kasC_pure (.inr ⟨_, _, _, _, _, _, rfl, S4, g5, I7, hi7, hj, hz7⟩)
 ·exact kasC_pure ⟨_, _, _, _, _, _, rfl, S4, g5, I7, hi7, hj, hz7⟩
theorem kc_loD (R : Rank prog w A κ ϕ U G) {a b o : Array Keyed} {i j mg k bc t : Nat} {y : Keyed} {st st4 : SortSt} {s4 : Shared} (hk : kindOf st = κ) (ha : Al U a) (hb : Al U b) (ub : Up ϕ b.toList) (h1 : ∀ x, a[a.size - 1]? = some x → ∀ y ∈ b.toList, ϕ y ≤ ϕ x) (S4 : Sim st st4) (g4 : G s4)
  (hy : b[j]? = some y) (hd : b.toList.drop j = y :: b.toList.drop (j + 1)) (I4 : LoI ϕ a b o i j) (l2 : ∀ u ∈ a.toList.drop i, ϕ y ≤ ϕ u) (hi : i + 1 < a.size) (hj : j < b.size) (hz : t + 1 + 1 ≤ o.size) :
  kasC (model prog w) A E (loD a b o i j mg k bc) (LoZ (fun c st' s' => LoX ϕ G a b st c.1 st' s' ∨ LoY ϕ G a b st t c st' s') (LoY ϕ G a b st t)) st4 s4 := by
 refine kasC_bind (kc_elem hy ?_)
 have I5 := I4.push2 hd l2
 by_cases e3 : j + 1 = b.size
 ·rw [if_pos (by simpa using e3)]
  exact kasC_pure (.inl ⟨_, rfl, S4, g4, I5.end1 (.inr e3)⟩)
 rw [if_neg (by simpa using e3)]
 obtain ⟨x1, hx1, hdx1⟩ := at_ (show i < a.size by omega)
 have mx := up_head (ϕ := ϕ) (hdx1 ▸ I5.hx)
 rw [← hdx1] at mx
 have hz5 : t + 1 + 1 ≤ (o.push y).size := by rw [Array.size_push]; omega
 have hj5 : j + 1 < b.size := by omega
 clear e3 I4 l2 hd hz hj
 refine kasC_bind (kc_elem hx1 (kasC_bind (kc_gal R (S4.1.trans hk) (ha _ _ hx1) hb (by omega) (by omega) ((UpTo.of ub).sub (by omega) (by omega)) g4 fun k' s5 hk2 l3 l4 g5 => ?_)))
 rw [drop_ (by omega)] at l4
 dsimp only
 have I6 := I5.app2 (k := k') fun u hu v hv => Nat.le_trans (l3 u hu) (mx v hv)
 have hz6 : t + 1 + 1 ≤ (o.push y ++ b.extract (j + 1) (j + 1 + k')).size := by rw [Array.size_append]; omega
 by_cases ck : k' > 0
 ·rw [if_pos ck]
  by_cases e4 : j + 1 + k' = b.size
  ·rw [if_pos (by simpa using e4)]
   exact kasC_pure (.inl ⟨_, rfl, S4, g5, I6.end1 (.inr e4)⟩)
  rw [if_neg (by simpa using e4)]
  exact kc_loE h1 S4 g5 hx1 hdx1 I6 l4 hi (by omega) hz6
 ·rw [if_neg ck]
  have k0 : k' = 0 := by omega
  subst k0
  rw [Nat.add_zero] at l4
  exact kc_loE h1 S4 g5 hx1 hdx1 I5 l4 hi hj5 hz5
theorem kc_loC (R : Rank prog w A κ ϕ U G) {a b o : Array Keyed} {i j mg ac bc t : Nat} {st st3 : SortSt} {s3 : Shared} (hk : kindOf st = κ) (ha : Al U a) (hb : Al U b) (ua : Up ϕ a.toList) (ub : Up ϕ b.toList) (h1 : ∀ x, a[a.size - 1]? = some x → ∀ y ∈ b.toList, ϕ y ≤ ϕ x) (S3 : Sim st st3) (g3 : G s3)
  (I3 : LoI ϕ a b o i j) (hi : i + 1 < a.size) (hj : j < b.size) (hz : t + 1 + 1 ≤ o.size) :
  kasC (model prog w) A E (loC a b o i j mg ac bc) (LoZ (fun c st' s' => LoX ϕ G a b st c.1 st' s' ∨ LoY ϕ G a b st t c st' s') (LoY ϕ G a b st t)) st3 s3 := by
 refine kasC_bind (kc_setG fun st4 S4 => ?_)
 replace S4 := S3.trans S4
 obtain ⟨y, hy, hdy⟩ := at_ hj
 have my := up_head (ϕ := ϕ) (hdy ▸ I3.hy)
 rw [← hdy] at my
 refine kasC_bind (kc_elem hy (kasC_bind (kc_gal R (S4.1.trans hk) (hb _ _ hy) ha (by omega) (by omega) ((UpTo.of ua).sub (by omega) (by omega)) g3 fun k s4 hk1 l1 l2 g4 => ?_)))
 rw [drop_ (by omega)] at l2
 dsimp only
 have I4 := I3.app1 (k := k) fun u hu v hv => Nat.le_trans (l1 u hu) (my v hv)
 have hz4 : t + 1 + 1 ≤ (o ++ a.extract i (i + k)).size := by rw [Array.size_append]; omega
 by_cases ck : k > 0
 ·rw [if_pos ck]
  by_cases e1 : i + k + 1 = a.size
  ·rw [if_pos (by simpa using e1)]
   exact kasC_pure (.inl ⟨_, rfl, S4, g4, I4.end2 e1 h1⟩)
  rw [if_neg (by simpa using e1)]
  by_cases e2 : i + k = a.size
  ·rw [if_pos (by simpa using e2)]
   exact kasC_pure (.inl ⟨_, rfl, S4, g4, I4.end1 (.inl e2)⟩)
  rw [if_neg (by simpa using e2)]
  exact kc_loD R hk ha hb ub h1 S4 g4 hy hdy I4 l2 (by omega) hj hz4
 ·rw [if_neg ck]
  have k0 : k = 0 := by omega
  subst k0
  rw [Nat.add_zero] at l2
  exact kc_loD R hk ha hb ub h1 S4 g4 hy hdy I3 l2 hi hj hz
theorem kc_loM (R : Rank prog w A κ ϕ U G) {a b : Array Keyed} {mg t q : Nat} {c : (Option (Array Keyed) × Array Keyed × Nat × Nat × Nat × Nat)} {st st2 : SortSt} {s2 : Shared} (hk : kindOf st = κ) (ha : Al U a) (hb : Al U b) (h1 : ∀ x, a[a.size - 1]? = some x → ∀ y ∈ b.toList, ϕ y ≤ ϕ x)
  (h : LoV ϕ G a b st t q c st2 s2) : kasC (model prog w) A E (loM a b mg c) (LoZ (fun c st' s' => LoX ϕ G a b st c.1 st' s' ∨ LoV ϕ G a b st t 1 c st' s') (LoV ϕ G a b st t (q + 1))) st2 s2 := by
 obtain ⟨o, i, j, ac, bc, rfl, S2, g2, I2, hi2, hj2, hs2⟩ := h
 unfold loM
 dsimp only
 obtain ⟨x, hx, hdx⟩ := at_ (show i < a.size by omega)
 obtain ⟨y, hy, hdy⟩ := at_ hj2
 refine kasC_bind (kc_elem hy (kasC_bind (kc_elem hx (kasC_bind (kc_lt R (S2.1.trans hk) (hb _ _ hy) (ha _ _ hx) g2 fun s3 g3 => ?_)))))
 dsimp only
 have mx := up_head (ϕ := ϕ) (hdx ▸ I2.hx)
 have my := up_head (ϕ := ϕ) (hdy ▸ I2.hy)
 rw [← hdx] at mx
 rw [← hdy] at my
 by_cases cc : ϕ y < ϕ x
 ·rw [if_pos (by simpa using cc)]
  refine kasC_bind (kc_elem hy ?_)
  have I3 := I2.push2 hdy fun v hv => Nat.le_trans (Nat.le_of_lt cc) (mx v hv)
  by_cases e1 : j + 1 = b.size
  ·rw [if_pos (by simpa using e1)]
   exact kasC_pure (.inl ⟨_, rfl, S2, g3, I3.end1 (.inr e1)⟩)
  rw [if_neg (by simpa using e1)]
  have z : t + 1 + (q + 1) ≤ (o.push y).size := by rw [Array.size_push]; omega
  by_cases e2 : bc + 1 ≥ mg
  ·rw [if_pos e2]
   exact kasC_pure (.inr ⟨_, _, _, _, _, rfl, S2, g3, I3, hi2, by omega, by omega⟩)
  ·rw [if_neg e2]
   exact kasC_pure ⟨_, _, _, _, _, rfl, S2, g3, I3, hi2, by omega, z⟩
 ·rw [if_neg (by simpa using cc)]
  refine kasC_bind (kc_elem hx ?_)
  have I3 := I2.push1 hdx fun v hv => Nat.le_trans (by omega) (my v hv)
  by_cases e1 : i + 1 + 1 = a.size
  ·rw [if_pos (by simpa using e1)]
   exact kasC_pure (.inl ⟨_, rfl, S2, g3, I3.end2 e1 h1⟩)
  rw [if_neg (by simpa using e1)]
  have z : t + 1 + (q + 1) ≤ (o.push x).size := by rw [Array.size_push]; omega
  by_cases e2 : ac + 1 ≥ mg
  ·rw [if_pos e2]
   exact kasC_pure (.inr ⟨_, _, _, _, _, rfl, S2, g3, I3, by omega, hj2, by omega⟩)
  ·rw [if_neg e2]
   exact kasC_pure ⟨_, _, _, _, _, rfl, S2, g3, I3, by omega, hj2, z⟩
theorem kc_loB (R : Rank prog w A κ ϕ U G) {a b : Array Keyed} {t : Nat} {c : (Option (Array Keyed) × Array Keyed × Nat × Nat × Nat × Nat × Nat)} {st st3 : SortSt} {s3 : Shared} (hk : kindOf st = κ) (ha : Al U a) (hb : Al U b) (ua : Up ϕ a.toList) (ub : Up ϕ b.toList) (h1 : ∀ x, a[a.size - 1]? = some x → ∀ y ∈ b.toList, ϕ y ≤ ϕ x)
  (h : LoY ϕ G a b st t c st3 s3) : kasC (model prog w) A E (loB a b c) (LoZ (fun c st' s' => LoX ϕ G a b st c.1 st' s' ∨ LoY ϕ G a b st t c st' s') (LoY ϕ G a b st t)) st3 s3 := by
 obtain ⟨o, i, j, mg, ac, bc, rfl, S3, g3, I3, hi3, hj3, hs3⟩ := h
 unfold loB
 split
 ·exact kc_loC R hk ha hb ua ub h1 S3 g3 I3 hi3 hj3 hs3
 ·exact kc_loC R hk ha hb ua ub h1 S3 g3 I3 hi3 hj3 hs3
theorem kc_loO (R : Rank prog w A κ ϕ U G) {a b : Array Keyed} {t : Nat} {c : (Option (Array Keyed) × Array Keyed × Nat × Nat × Nat)} {st st' : SortSt} {s' : Shared} (hk : kindOf st = κ) (ha : Al U a) (hb : Al U b) (ua : Up ϕ a.toList) (ub : Up ϕ b.toList) (h1 : ∀ x, a[a.size - 1]? = some x → ∀ y ∈ b.toList, ϕ y ≤ ϕ x) (pa : 0 < a.size + b.size)
  (h : LoW ϕ G a b st t c st' s') : kasC (model prog w) A E (loO a b c) (LoZ (fun c st' s' => LoX ϕ G a b st c.1 st' s') (LoW ϕ G a b st (t + 1))) st' s' := by
 obtain ⟨o, i, j, mg, rfl, S, g', I, hi, hj, hs⟩ := h
 refine kasC_bind (kc_mono (Q := fun c st' s' => LoX ϕ G a b st c.1 st' s' ∨ LoV ϕ G a b st t 1 c st' s')
  (kc_for (LoV ϕ G a b st t) ⟨o, i, j, 0, 0, rfl, S, g', I, hi, hj, hs⟩ (fun q c st2 s2 hq V => kc_loM R hk ha hb h1 V) ?_) ?_)
 ·rintro c st2 s2 ⟨o, i, j, ac, bc, rfl, S2, g2, I2, hi2, hj2, hs2⟩
  exact .inr ⟨o, i, j, ac, bc, rfl, S2, g2, I2, hi2, hj2, by omega⟩
 ·rintro c st2 s2 (⟨r, e, S2, g2, O⟩ | ⟨o, i, j, ac, bc, rfl, S2, g2, I2, hi2, hj2, hs2⟩)
  ·rw [e]
   exact kasC_pure ⟨r, rfl, S2, g2, O⟩
  dsimp only
  refine kasC_bind (kc_rule ?_)
  refine kasC_bind (kc_mono (Q := fun c st' s' => LoX ϕ G a b st c.1 st' s' ∨ LoY ϕ G a b st t c st' s')
   (kc_for (fun _ => LoY ϕ G a b st t) ⟨o, i, j, _, ac, bc, rfl, S2, g2, I2, hi2, hj2, hs2⟩ (fun q c st3 s3 hq Y => kc_loB R hk ha hb ua ub h1 Y) fun c st3 s3 Y => .inr Y) ?_)
  rintro c st3 s3 (⟨r, e, S3, g3, O⟩ | ⟨o, i, j, mg, ac, bc, rfl, S3, g3, I3, hi3, hj3, hs3⟩)
  ·rw [e]
   exact kasC_pure ⟨r, rfl, S3, g3, O⟩
  dsimp only
  refine kasC_bind (kc_setG fun st4 S4 => ?_)
  exact kasC_pure ⟨o, i, j, _, rfl, S3.trans S4, g3, I3, hi3, hj3, hs3⟩
theorem kc_lo (R : Rank prog w A κ ϕ U G) {a b : Array Keyed} {Q : Array Keyed → SortSt → Shared → Prop} {st : SortSt} {s : Shared} (hk : kindOf st = κ) (ha : Al U a) (hb : Al U b) (ua : Up ϕ a.toList) (ub : Up ϕ b.toList) (pa : 0 < a.size) (pb : 0 < b.size)
  (h0 : ∀ y, b[0]? = some y → ∀ x ∈ a.toList, ϕ y ≤ ϕ x) (h1 : ∀ x, a[a.size - 1]? = some x → ∀ y ∈ b.toList, ϕ y ≤ ϕ x) (g : G s)
  (h : ∀ r st' s', Sim st st' → G s' → Ok ϕ a b r → Q r st' s') : kasC (model prog w) A E (mgLo' a b) Q st s := by
 rw [mgLo'_eq]
 refine kasC_bind (kc_rule ?_)
 obtain ⟨y0, hy0, hd0⟩ := at_ pb
 refine kasC_bind (kc_elem hy0 ?_)
 have I0 : LoI ϕ a b #[y0] 0 1 := by
  have : LoI ϕ a b #[] 0 0 := ⟨by simpa using ua, by simpa using ub, by simp⟩
  exact this.push2 hd0 fun v hv => h0 y0 hy0 v (List.mem_of_mem_drop hv)
 by_cases c1 : 1 = b.size
 ·rw [if_pos (by simpa using c1)]
  exact kasC_pure (h _ _ _ (Sim.refl _) g (I0.end1 (.inr c1)))
 rw [if_neg (by simpa using c1)]
 by_cases c2 : 0 + 1 = a.size
 ·rw [if_pos (by simpa using c2)]
  exact kasC_pure (h _ _ _ (Sim.refl _) g (I0.end2 c2 h1))
 rw [if_neg (by simpa using c2)]
 refine kasC_bind (kasC_get ?_)
 refine kasC_bind (kc_mono (Q := fun c st' s' => LoX ϕ G a b st c.1 st' s') (kc_for (LoW ϕ G a b st)
  ⟨_, _, _, _, rfl, Sim.refl _, g, I0, by omega, by omega, Nat.le_refl 1⟩ (fun t c st' s' ht W => kc_loO R hk ha hb ua ub h1 (by omega) W) ?_) ?_)
 ·rintro c st' s' ⟨o, i, j, mg, rfl, S, g', I, hi, hj, hs⟩
  have := I.size (by omega) (by omega)
  omega
 ·rintro c st' s' ⟨r, e, S, g', O⟩
  rw [e]
  exact kasC_pure (h r st' s' S g' O)
end
end Tim
namespace Tim
open PySem PySem.W PyProof.Rows
noncomputable def mgHi' : Array Keyed → Array Keyed → StateT SortSt Sem (Array Keyed) := sortPriv% PySem.Builtin.mergeHi
noncomputable def endHi (a b o : Array Keyed) (i j : Nat) : Array Keyed := a.extract 0 i ++ b.extract 0 j ++ o.reverse
noncomputable def fstHi (a b o : Array Keyed) (i j : Nat) : Array Keyed := b.extract 0 j ++ a.extract 0 i ++ o.reverse
noncomputable def hiE (a b o : Array Keyed) (i j mg k k1 : Nat) : StateT SortSt Sem (ForInStep (Option (Array Keyed) × Nat × Nat × Array Keyed × Nat × Nat × Nat)) := do
 let x ← elem' a (i - 1)
 if i - 1 == 0 then pure (.done (some (endHi a b (o.push x) (i - 1) j), i - 1, j, o.push x, mg, k, k1))
 else if k < 7 && k1 < 7 then pure (.done (none, i - 1, j, o.push x, mg, k, k1))
 else pure (.yield (none, i - 1, j, o.push x, mg, k, k1))
noncomputable def hiD (a b o : Array Keyed) (i j mg k bc : Nat) : StateT SortSt Sem (ForInStep (Option (Array Keyed) × Nat × Nat × Array Keyed × Nat × Nat × Nat)) := do
 let y ← elem' b (j - 1)
 if j - 1 == 1 then pure (.done (some (fstHi a b (o.push y) i (j - 1)), i, j - 1, o.push y, mg, k, bc))
 else do
  let x ← elem' a (i - 1)
  let some z ← galp' true x b 0 (j - 1) (j - 1 - 1) | pure (.done (some (endHi a b (o.push y) i (j - 1)), i, j - 1, o.push y, mg, k, bc))
  if j - 1 - z > 0 then
   if z == 1 then pure (.done (some (fstHi a b (o.push y ++ (b.extract z (j - 1)).reverse) i z), i, z, o.push y ++ (b.extract z (j - 1)).reverse, mg, k, j - 1 - z))
   else if z == 0 then pure (.done (some (endHi a b (o.push y ++ (b.extract z (j - 1)).reverse) i z), i, z, o.push y ++ (b.extract z (j - 1)).reverse, mg, k, j - 1 - z))
   else hiE a b (o.push y ++ (b.extract z (j - 1)).reverse) i z mg k (j - 1 - z)
  else hiE a b (o.push y) i (j - 1) mg k (j - 1 - z)
noncomputable def hiC (a b o : Array Keyed) (i j mg ac bc : Nat) : StateT SortSt Sem (ForInStep (Option (Array Keyed) × Nat × Nat × Array Keyed × Nat × Nat × Nat)) := do
 setG' mg
 let y ← elem' b (j - 1)
 let some z ← galp' false y a 0 i (i - 1) | pure (.done (some (endHi a b o i j), i, j, o, mg, ac, bc))
 if i - z > 0 then
  if z == 0 then pure (.done (some (endHi a b (o ++ (a.extract z i).reverse) z j), z, j, o ++ (a.extract z i).reverse, mg, i - z, bc))
  else hiD a b (o ++ (a.extract z i).reverse) z j mg (i - z) bc
 else hiD a b o i j mg (i - z) bc
noncomputable def hiB (a b : Array Keyed) (c : (Option (Array Keyed) × Nat × Nat × Array Keyed × Nat × Nat × Nat)) : StateT SortSt Sem (ForInStep (Option (Array Keyed) × Nat × Nat × Array Keyed × Nat × Nat × Nat)) :=
 if c.2.2.2.2.1 > 1 then hiC a b c.2.2.2.1 c.2.1 c.2.2.1 (c.2.2.2.2.1 - 1) c.2.2.2.2.2.1 c.2.2.2.2.2.2
 else hiC a b c.2.2.2.1 c.2.1 c.2.2.1 c.2.2.2.2.1 c.2.2.2.2.2.1 c.2.2.2.2.2.2
noncomputable def hiM (a b : Array Keyed) (mg : Nat) (c : (Option (Array Keyed) × Nat × Nat × Array Keyed × Nat × Nat)) : StateT SortSt Sem (ForInStep (Option (Array Keyed) × Nat × Nat × Array Keyed × Nat × Nat)) := do
 let y ← elem' b (c.2.2.1 - 1)
 let x ← elem' a (c.2.1 - 1)
 let some aw ← lt' y x | pure (.done (some (endHi a b c.2.2.2.1 c.2.1 c.2.2.1), c.2.1, c.2.2.1, c.2.2.2.1, c.2.2.2.2.1, c.2.2.2.2.2))
 if aw then do
  let x ← elem' a (c.2.1 - 1)
  if c.2.1 - 1 == 0 then pure (.done (some (endHi a b (c.2.2.2.1.push x) (c.2.1 - 1) c.2.2.1), c.2.1 - 1, c.2.2.1, c.2.2.2.1.push x, c.2.2.2.2.1 + 1, 0))
  else if c.2.2.2.2.1 + 1 ≥ mg then pure (.done (none, c.2.1 - 1, c.2.2.1, c.2.2.2.1.push x, c.2.2.2.2.1 + 1, 0))
  else pure (.yield (none, c.2.1 - 1, c.2.2.1, c.2.2.2.1.push x, c.2.2.2.2.1 + 1, 0))
 else do
  let y ← elem' b (c.2.2.1 - 1)
  if c.2.2.1 - 1 == 1 then pure (.done (some (fstHi a b (c.2.2.2.1.push y) c.2.1 (c.2.2.1 - 1)), c.2.1, c.2.2.1 - 1, c.2.2.2.1.push y, 0, c.2.2.2.2.2 + 1))
  else if c.2.2.2.2.2 + 1 ≥ mg then pure (.done (none, c.2.1, c.2.2.1 - 1, c.2.2.2.1.push y, 0, c.2.2.2.2.2 + 1))
  else pure (.yield (none, c.2.1, c.2.2.1 - 1, c.2.2.2.1.push y, 0, c.2.2.2.2.2 + 1))
noncomputable def hiO (a b : Array Keyed) (c : (Option (Array Keyed) × Nat × Nat × Array Keyed × Nat)) : StateT SortSt Sem (ForInStep (Option (Array Keyed) × Nat × Nat × Array Keyed × Nat)) := do
 let d ← forIn [0:a.size + b.size] ((none, c.2.1, c.2.2.1, c.2.2.2.1, 0, 0) : (Option (Array Keyed) × Nat × Nat × Array Keyed × Nat × Nat)) fun _ => hiM a b c.2.2.2.2
 Break.runK.match_1 (motive := fun _ => StateT SortSt Sem (ForInStep (Option (Array Keyed) × Nat × Nat × Array Keyed × Nat))) d.1 (fun r => pure (.done (some r, d.2.1, d.2.2.1, d.2.2.2.1, c.2.2.2.2))) fun _ => do
  rule "list.sort.gallop"
  let e ← forIn [0:a.size + b.size] ((none, d.2.1, d.2.2.1, d.2.2.2.1, c.2.2.2.2 + 1, d.2.2.2.2.1, d.2.2.2.2.2) : (Option (Array Keyed) × Nat × Nat × Array Keyed × Nat × Nat × Nat)) fun _ => hiB a b
  Break.runK.match_1 (motive := fun _ => StateT SortSt Sem (ForInStep (Option (Array Keyed) × Nat × Nat × Array Keyed × Nat))) e.1 (fun r => pure (.done (some r, e.2.1, e.2.2.1, e.2.2.2.1, e.2.2.2.2.1))) fun _ => do
   setG' (e.2.2.2.2.1 + 1)
   pure (.yield (none, e.2.1, e.2.2.1, e.2.2.2.1, e.2.2.2.2.1 + 1))
theorem mgHi'_eq (a b : Array Keyed) : mgHi' a b = (do
 rule "list.sort.merge-hi"
 let x ← elem' a (a.size - 1)
 if a.size - 1 == 0 then pure (endHi a b #[x] (a.size - 1) b.size)
 else if b.size == 1 then pure (fstHi a b #[x] (a.size - 1) b.size)
 else do
  let z ← get
  let c ← forIn [0:a.size + b.size] ((none, a.size - 1, b.size, #[x], gallopOf z) : (Option (Array Keyed) × Nat × Nat × Array Keyed × Nat)) fun _ => hiO a b
  Break.runK.match_1 (motive := fun _ => StateT SortSt Sem (Array Keyed)) c.1 (fun r => pure r) fun _ => unsupported "internal:list.sort.merge-bound") := rfl
structure Hi (ϕ : Keyed → Nat) (T O X Y : List Keyed) : Prop where
 px : Up ϕ (X ++ O)
 py : Up ϕ (Y ++ O)
 pm : (X ++ Y ++ O).Perm T
section
variable {ϕ : Keyed → Nat} {T O X Y x y : List Keyed}
theorem Hi.swap (h : Hi ϕ T O X Y) : Hi ϕ T O Y X := ⟨h.py, h.px, (List.perm_append_comm.append_right O).trans h.pm⟩
theorem Hi.goX (h : Hi ϕ T O (X ++ x) Y) (hx : ∀ u ∈ x, ∀ v ∈ Y, ϕ v ≤ ϕ u) : Hi ϕ T (x ++ O) X Y := by
 obtain ⟨h1, h2, h3⟩ := h
 refine ⟨by rw [← List.append_assoc]; exact h1, ?_, ?_⟩
 ·unfold Up at *
  rw [List.append_assoc, List.pairwise_append] at h1
  rw [List.pairwise_append] at h2 ⊢
  refine ⟨h2.1, h1.2.1, fun a ha b hb => ?_⟩
  rcases List.mem_append.mp hb with z | z
  ·exact hx b z a ha
  ·exact h2.2.2 a ha b z
 ·refine List.Perm.trans ?_ h3
  rw [List.append_assoc, List.append_assoc X x Y, List.append_assoc X]
  refine List.Perm.append_left X ?_
  rw [← List.append_assoc]
  exact List.perm_append_comm.append_right O
theorem Hi.goY (h : Hi ϕ T O X (Y ++ y)) (hy : ∀ u ∈ y, ∀ v ∈ X, ϕ v ≤ ϕ u) : Hi ϕ T (y ++ O) X Y := (h.swap.goX hy).swap
theorem Hi.len (h : Hi ϕ T O X Y) : O.length + X.length + Y.length = T.length := by
 have := h.pm.length_eq
 simp only [List.length_append] at this
 omega
theorem Hi.hx (h : Hi ϕ T O X Y) : Up ϕ X := (List.pairwise_append.mp h.px).1
theorem Hi.hy (h : Hi ϕ T O X Y) : Up ϕ Y := (List.pairwise_append.mp h.py).1
theorem up_last {x : Keyed} {l : List Keyed} (h : Up ϕ (l ++ [x])) : ∀ v ∈ l ++ [x], ϕ v ≤ ϕ x := fun v hv => by
 rcases List.mem_append.mp hv with e | e
 ·exact (List.pairwise_append.mp h).2.2 v e x (List.mem_singleton.mpr rfl)
 ·exact Nat.le_of_eq (by rw [List.mem_singleton.mp e])
def HiI (ϕ : Keyed → Nat) (a b o : Array Keyed) (i j : Nat) : Prop := Hi ϕ (a.toList ++ b.toList) o.toList.reverse (a.toList.take i) (b.toList.take j)
theorem atL {a : Array Keyed} {i : Nat} (h : i < a.size) : ∃ x, a[i]? = some x ∧ a.toList.take (i + 1) = a.toList.take i ++ [x] :=
 ⟨a[i], Array.getElem?_eq_getElem h, by rw [List.take_succ_eq_append_getElem (by simpa using h)]; simp⟩
theorem HiI.end1 {a b o : Array Keyed} {i j : Nat} (h : HiI ϕ a b o i j) (e : i = 0 ∨ j = 0) : Ok ϕ a b (endHi a b o i j) := by
 have t : (endHi a b o i j).toList = a.toList.take i ++ b.toList.take j ++ o.toList.reverse := by
  unfold endHi
  rw [app_l, app_l, ext_0, ext_0, Array.toList_reverse]
 unfold Ok
 rw [t]
 refine ⟨?_, h.pm⟩
 rcases e with e | e
 ·subst e
  rw [List.take_zero, List.nil_append]
  exact h.py
 ·subst e
  rw [List.take_zero, List.append_nil]
  exact h.px
theorem HiI.end2 {a b o : Array Keyed} {i j : Nat} (h : HiI ϕ a b o i j) (e : j = 1) (pb : 0 < b.size) (hl : ∀ y, b[0]? = some y → ∀ x ∈ a.toList, ϕ y ≤ ϕ x) : Ok ϕ a b (fstHi a b o i j) := by
 have t : (fstHi a b o i j).toList = b.toList.take j ++ a.toList.take i ++ o.toList.reverse := by
  unfold fstHi
  rw [app_l, app_l, ext_0, ext_0, Array.toList_reverse]
 unfold Ok
 rw [t]
 subst e
 obtain ⟨y, hy, hd⟩ := atL pb
 have h' : Hi ϕ (a.toList ++ b.toList) o.toList.reverse ([] ++ a.toList.take i) (b.toList.take 1) := h
 have := h'.goX fun u hu v hv => by
  rw [hd, List.take_zero, List.nil_append, List.mem_singleton] at hv
  subst hv
  exact hl v hy u (List.mem_of_mem_take hu)
 refine ⟨by rw [List.append_assoc]; exact this.py, ?_⟩
 have := this.pm
 rw [List.nil_append] at this
 rw [List.append_assoc]
 exact this
theorem push_r (o : Array Keyed) (x : Keyed) : (o.push x).toList.reverse = [x] ++ o.toList.reverse := by simp
theorem HiI.push1 {a b o : Array Keyed} {i j : Nat} {x : Keyed} (h : HiI ϕ a b o (i + 1) j) (e : a.toList.take (i + 1) = a.toList.take i ++ [x]) (hx : ∀ v ∈ b.toList.take j, ϕ v ≤ ϕ x) : HiI ϕ a b (o.push x) i j := by
 unfold HiI at h ⊢
 rw [e] at h
 rw [push_r]
 exact h.goX fun u hu v hv => by rw [List.mem_singleton.mp hu]; exact hx v hv
theorem HiI.push2 {a b o : Array Keyed} {i j : Nat} {x : Keyed} (h : HiI ϕ a b o i (j + 1)) (e : b.toList.take (j + 1) = b.toList.take j ++ [x]) (hx : ∀ v ∈ a.toList.take i, ϕ v ≤ ϕ x) : HiI ϕ a b (o.push x) i j := by
 unfold HiI at h ⊢
 rw [e] at h
 rw [push_r]
 exact h.goY fun u hu v hv => by rw [List.mem_singleton.mp hu]; exact hx v hv
theorem take_cut (l : List Keyed) {z i : Nat} (h : z ≤ i) : l.take i = l.take z ++ (l.drop z).take (i - z) := by
 rw [show i = z + (i - z) by omega, List.take_add]
 congr 2
 omega
theorem app_r (o a : Array Keyed) {z i : Nat} (h : z ≤ i) : (o ++ (a.extract z i).reverse).toList.reverse = (a.toList.drop z).take (i - z) ++ o.toList.reverse := by
 have := ext_l a z (i - z)
 rw [show z + (i - z) = i by omega] at this
 rw [app_l, List.reverse_append, Array.toList_reverse, List.reverse_reverse, this]
theorem HiI.app1 {a b o : Array Keyed} {i j z : Nat} (h : HiI ϕ a b o i j) (hz : z ≤ i) (hx : ∀ u ∈ (a.toList.drop z).take (i - z), ∀ v ∈ b.toList.take j, ϕ v ≤ ϕ u) : HiI ϕ a b (o ++ (a.extract z i).reverse) z j := by
 unfold HiI at h ⊢
 rw [take_cut _ hz] at h
 rw [app_r _ _ hz]
 exact h.goX hx
theorem HiI.app2 {a b o : Array Keyed} {i j z : Nat} (h : HiI ϕ a b o i j) (hz : z ≤ j) (hx : ∀ u ∈ (b.toList.drop z).take (j - z), ∀ v ∈ a.toList.take i, ϕ v ≤ ϕ u) : HiI ϕ a b (o ++ (b.extract z j).reverse) i z := by
 unfold HiI at h ⊢
 rw [take_cut _ hz] at h
 rw [app_r _ _ hz]
 exact h.goY hx
theorem HiI.size {a b o : Array Keyed} {i j : Nat} (h : HiI ϕ a b o i j) (hi : i ≤ a.size) (hj : j ≤ b.size) : o.size + i + j = a.size + b.size := by
 have := h.len
 simp only [List.length_take, List.length_append, Array.length_toList, List.length_reverse] at this
 omega
end
section
variable {prog : Program} {w : World} {A : Around} {E : Value → Shared → Prop} {κ : SortKind} {ϕ : Keyed → Nat} {U : Keyed → Prop} {G : Shared → Prop}
def HiY (ϕ : Keyed → Nat) (G : Shared → Prop) (a b : Array Keyed) (st : SortSt) (t : Nat) (c : (Option (Array Keyed) × Nat × Nat × Array Keyed × Nat × Nat × Nat)) (st' : SortSt) (s' : Shared) : Prop :=
 ∃ i j o mg ac bc, c = (none, i, j, o, mg, ac, bc) ∧ Sim st st' ∧ G s' ∧ HiI ϕ a b o i j ∧ 1 ≤ i ∧ i ≤ a.size ∧ 2 ≤ j ∧ j ≤ b.size ∧ t + 1 + 1 ≤ o.size
def HiV (ϕ : Keyed → Nat) (G : Shared → Prop) (a b : Array Keyed) (st : SortSt) (t : Nat) (q : Nat) (c : (Option (Array Keyed) × Nat × Nat × Array Keyed × Nat × Nat)) (st' : SortSt) (s' : Shared) : Prop :=
 ∃ i j o ac bc, c = (none, i, j, o, ac, bc) ∧ Sim st st' ∧ G s' ∧ HiI ϕ a b o i j ∧ 1 ≤ i ∧ i ≤ a.size ∧ 2 ≤ j ∧ j ≤ b.size ∧ t + 1 + q ≤ o.size
def HiW (ϕ : Keyed → Nat) (G : Shared → Prop) (a b : Array Keyed) (st : SortSt) (t : Nat) (c : (Option (Array Keyed) × Nat × Nat × Array Keyed × Nat)) (st' : SortSt) (s' : Shared) : Prop :=
 ∃ i j o mg, c = (none, i, j, o, mg) ∧ Sim st st' ∧ G s' ∧ HiI ϕ a b o i j ∧ 1 ≤ i ∧ i ≤ a.size ∧ 2 ≤ j ∧ j ≤ b.size ∧ t + 1 ≤ o.size
theorem kc_hiE {a b o : Array Keyed} {i j mg k k1 t : Nat} {x : Keyed} {st st4 : SortSt} {s5 : Shared} (S4 : Sim st st4) (g5 : G s5) (hx : a[i]? = some x) (hd : a.toList.take (i + 1) = a.toList.take i ++ [x])
  (I6 : HiI ϕ a b o (i + 1) j) (l3 : ∀ u ∈ b.toList.take j, ϕ u ≤ ϕ x) (hi : i + 1 ≤ a.size) (hj : 2 ≤ j) (hj' : j ≤ b.size) (hz : t + 1 + 1 ≤ o.size) :
  kasC (model prog w) A E (hiE a b o (i + 1) j mg k k1) (LoZ (fun c st' s' => LoX ϕ G a b st c.1 st' s' ∨ HiY ϕ G a b st t c st' s') (HiY ϕ G a b st t)) st4 s5 := by
 unfold hiE
 dsimp only [Nat.add_one_sub_one]
 refine kasC_bind (kc_elem hx ?_)
 have I7 := I6.push1 hd l3
 have hz7 : t + 1 + 1 ≤ (o.push x).size := by rw [Array.size_push]; omega
 by_cases e6 : i = 0
 ·rw [if_pos (by simpa using e6)]
  exact kasC_pure (.inl ⟨_, rfl, S4, g5, I7.end1 (.inl e6)⟩)
 rw [if_neg (by simpa using e6)]
 have hi1 : 1 ≤ i := by omega
 have hi2 : i ≤ a.size := by omega
 split
 ·exact kasC_pure (.inr ⟨_, _, _, _, _, _, rfl, S4, g5, I7, hi1, hi2, hj, hj', hz7⟩)
 ·exact kasC_pure ⟨_, _, _, _, _, _, rfl, S4, g5, I7, hi1, hi2, hj, hj', hz7⟩
theorem kc_hiD (R : Rank prog w A κ ϕ U G) {a b o : Array Keyed} {i j mg k bc t : Nat} {y : Keyed} {st st4 : SortSt} {s4 : Shared} (hk : kindOf st = κ) (ha : Al U a) (hb : Al U b) (ub : Up ϕ b.toList) (pb : 0 < b.size) (h0 : ∀ y, b[0]? = some y → ∀ x ∈ a.toList, ϕ y ≤ ϕ x) (S4 : Sim st st4) (g4 : G s4)
  (hy : b[j]? = some y) (hd : b.toList.take (j + 1) = b.toList.take j ++ [y]) (I4 : HiI ϕ a b o i (j + 1)) (l1 : ∀ u ∈ a.toList.take i, ϕ u ≤ ϕ y) (hi : 1 ≤ i) (hi' : i ≤ a.size) (hj : 1 ≤ j) (hj' : j + 1 ≤ b.size) (hz : t + 1 + 1 ≤ o.size) :
  kasC (model prog w) A E (hiD a b o i (j + 1) mg k bc) (LoZ (fun c st' s' => LoX ϕ G a b st c.1 st' s' ∨ HiY ϕ G a b st t c st' s') (HiY ϕ G a b st t)) st4 s4 := by
 obtain ⟨i, rfl⟩ : ∃ n, i = n + 1 := ⟨i - 1, by omega⟩
 unfold hiD
 dsimp only [Nat.add_one_sub_one]
 refine kasC_bind (kc_elem hy ?_)
 have I5 := I4.push2 hd l1
 by_cases e3 : j = 1
 ·rw [if_pos (by simpa using e3)]
  exact kasC_pure (.inl ⟨_, rfl, S4, g4, I5.end2 e3 pb h0⟩)
 rw [if_neg (by simpa using e3)]
 obtain ⟨x1, hx1, hdx1⟩ := atL (show i < a.size by omega)
 have mx := up_last (ϕ := ϕ) (hdx1 ▸ I5.hx)
 rw [← hdx1] at mx
 have hz5 : t + 1 + 1 ≤ (o.push y).size := by rw [Array.size_push]; omega
 have hj5 : 2 ≤ j := by omega
 clear e3 I4 l1 hd hz hj
 refine kasC_bind (kc_elem hx1 (kasC_bind (kc_gal R (S4.1.trans hk) (ha _ _ hx1) hb (by omega) (by omega) ((UpTo.of ub).sub (by omega) (by omega)) g4 fun k' s5 hk2 l3 l4 g5 => ?_)))
 rw [Nat.zero_add] at l4
 rw [List.drop_zero] at l3
 dsimp only
 have I6 := I5.app2 hk2 fun u hu v hv => Nat.le_trans (mx v hv) (l4 u hu)
 have hz6 : t + 1 + 1 ≤ (o.push y ++ (b.extract k' j).reverse).size := by rw [Array.size_append]; omega
 by_cases ck : j - k' > 0
 ·rw [if_pos ck]
  by_cases e4 : k' = 1
  ·rw [if_pos (by simpa using e4)]
   exact kasC_pure (.inl ⟨_, rfl, S4, g5, I6.end2 e4 pb h0⟩)
  rw [if_neg (by simpa using e4)]
  by_cases e5 : k' = 0
  ·rw [if_pos (by simpa using e5)]
   exact kasC_pure (.inl ⟨_, rfl, S4, g5, I6.end1 (.inr e5)⟩)
  rw [if_neg (by simpa using e5)]
  exact kc_hiE S4 g5 hx1 hdx1 I6 l3 hi' (by omega) (by omega) hz6
 ·rw [if_neg ck]
  have k0 : k' = j := by omega
  subst k0
  exact kc_hiE S4 g5 hx1 hdx1 I5 l3 hi' hj5 (by omega) hz5
theorem kc_hiC (R : Rank prog w A κ ϕ U G) {a b o : Array Keyed} {i j mg ac bc t : Nat} {st st3 : SortSt} {s3 : Shared} (hk : kindOf st = κ) (ha : Al U a) (hb : Al U b) (ua : Up ϕ a.toList) (ub : Up ϕ b.toList) (pb : 0 < b.size) (h0 : ∀ y, b[0]? = some y → ∀ x ∈ a.toList, ϕ y ≤ ϕ x) (S3 : Sim st st3) (g3 : G s3)
  (I3 : HiI ϕ a b o i j) (hi : 1 ≤ i) (hi' : i ≤ a.size) (hj : 2 ≤ j) (hj' : j ≤ b.size) (hz : t + 1 + 1 ≤ o.size) :
  kasC (model prog w) A E (hiC a b o i j mg ac bc) (LoZ (fun c st' s' => LoX ϕ G a b st c.1 st' s' ∨ HiY ϕ G a b st t c st' s') (HiY ϕ G a b st t)) st3 s3 := by
 obtain ⟨j, rfl⟩ : ∃ n, j = n + 1 := ⟨j - 1, by omega⟩
 unfold hiC
 dsimp only [Nat.add_one_sub_one]
 refine kasC_bind (kc_setG fun st4 S4 => ?_)
 replace S4 := S3.trans S4
 obtain ⟨y, hy, hdy⟩ := atL (show j < b.size by omega)
 have my := up_last (ϕ := ϕ) (hdy ▸ I3.hy)
 rw [← hdy] at my
 refine kasC_bind (kc_elem hy (kasC_bind (kc_gal R (S4.1.trans hk) (hb _ _ hy) ha (by omega) (by omega) ((UpTo.of ua).sub (by omega) (by omega)) g3 fun k s4 hk1 l1 l2 g4 => ?_)))
 rw [Nat.zero_add] at l2
 rw [List.drop_zero] at l1
 dsimp only
 have I4 := I3.app1 hk1 fun u hu v hv => Nat.le_trans (my v hv) (l2 u hu)
 have hz4 : t + 1 + 1 ≤ (o ++ (a.extract k i).reverse).size := by rw [Array.size_append]; omega
 have hj1 : 1 ≤ j := by omega
 by_cases ck : i - k > 0
 ·rw [if_pos ck]
  by_cases e1 : k = 0
  ·rw [if_pos (by simpa using e1)]
   exact kasC_pure (.inl ⟨_, rfl, S4, g4, I4.end1 (.inl e1)⟩)
  rw [if_neg (by simpa using e1)]
  exact kc_hiD R hk ha hb ub pb h0 S4 g4 hy hdy I4 l1 (by omega) (by omega) hj1 hj' hz4
 ·rw [if_neg ck]
  have k0 : k = i := by omega
  subst k0
  exact kc_hiD R hk ha hb ub pb h0 S4 g4 hy hdy I3 l1 hi hi' hj1 hj' hz
theorem kc_hiM (R : Rank prog w A κ ϕ U G) {a b : Array Keyed} {mg t q : Nat} {c : (Option (Array Keyed) × Nat × Nat × Array Keyed × Nat × Nat)} {st st2 : SortSt} {s2 : Shared} (hk : kindOf st = κ) (ha : Al U a) (hb : Al U b) (pb : 0 < b.size) (h0 : ∀ y, b[0]? = some y → ∀ x ∈ a.toList, ϕ y ≤ ϕ x)
  (h : HiV ϕ G a b st t q c st2 s2) : kasC (model prog w) A E (hiM a b mg c) (LoZ (fun c st' s' => LoX ϕ G a b st c.1 st' s' ∨ HiV ϕ G a b st t 1 c st' s') (HiV ϕ G a b st t (q + 1))) st2 s2 := by
 obtain ⟨i, j, o, ac, bc, rfl, S2, g2, I2, hi2, hi2', hj2, hj2', hs2⟩ := h
 obtain ⟨i, rfl⟩ : ∃ n, i = n + 1 := ⟨i - 1, by omega⟩
 obtain ⟨j, rfl⟩ : ∃ n, j = n + 1 := ⟨j - 1, by omega⟩
 unfold hiM
 dsimp only [Nat.add_one_sub_one]
 obtain ⟨x, hx, hdx⟩ := atL (show i < a.size by omega)
 obtain ⟨y, hy, hdy⟩ := atL (show j < b.size by omega)
 refine kasC_bind (kc_elem hy (kasC_bind (kc_elem hx (kasC_bind (kc_lt R (S2.1.trans hk) (hb _ _ hy) (ha _ _ hx) g2 fun s3 g3 => ?_)))))
 dsimp only
 have mx := up_last (ϕ := ϕ) (hdx ▸ I2.hx)
 have my := up_last (ϕ := ϕ) (hdy ▸ I2.hy)
 rw [← hdx] at mx
 rw [← hdy] at my
 by_cases cc : ϕ y < ϕ x
 ·rw [if_pos (by simpa using cc)]
  refine kasC_bind (kc_elem hx ?_)
  have I3 := I2.push1 hdx fun v hv => Nat.le_trans (my v hv) (Nat.le_of_lt cc)
  by_cases e1 : i = 0
  ·rw [if_pos (by simpa using e1)]
   exact kasC_pure (.inl ⟨_, rfl, S2, g3, I3.end1 (.inl e1)⟩)
  rw [if_neg (by simpa using e1)]
  have z : t + 1 + (q + 1) ≤ (o.push x).size := by rw [Array.size_push]; omega
  by_cases e2 : ac + 1 ≥ mg
  ·rw [if_pos e2]
   exact kasC_pure (.inr ⟨_, _, _, _, _, rfl, S2, g3, I3, by omega, by omega, hj2, hj2', by omega⟩)
  ·rw [if_neg e2]
   exact kasC_pure ⟨_, _, _, _, _, rfl, S2, g3, I3, by omega, by omega, hj2, hj2', z⟩
 ·rw [if_neg (by simpa using cc)]
  refine kasC_bind (kc_elem hy ?_)
  have I3 := I2.push2 hdy fun v hv => Nat.le_trans (mx v hv) (by omega)
  by_cases e1 : j = 1
  ·rw [if_pos (by simpa using e1)]
   exact kasC_pure (.inl ⟨_, rfl, S2, g3, I3.end2 e1 pb h0⟩)
  rw [if_neg (by simpa using e1)]
  have z : t + 1 + (q + 1) ≤ (o.push y).size := by rw [Array.size_push]; omega
  by_cases e2 : bc + 1 ≥ mg
  ·rw [if_pos e2]
   exact kasC_pure (.inr ⟨_, _, _, _, _, rfl, S2, g3, I3, hi2, hi2', by omega, by omega, by omega⟩)
  ·rw [if_neg e2]
   exact kasC_pure ⟨_, _, _, _, _, rfl, S2, g3, I3, hi2, hi2', by omega, by omega, z⟩
theorem kc_hiB (R : Rank prog w A κ ϕ U G) {a b : Array Keyed} {t : Nat} {c : (Option (Array Keyed) × Nat × Nat × Array Keyed × Nat × Nat × Nat)} {st st3 : SortSt} {s3 : Shared} (hk : kindOf st = κ) (ha : Al U a) (hb : Al U b) (ua : Up ϕ a.toList) (ub : Up ϕ b.toList) (pb : 0 < b.size) (h0 : ∀ y, b[0]? = some y → ∀ x ∈ a.toList, ϕ y ≤ ϕ x)
  (h : HiY ϕ G a b st t c st3 s3) : kasC (model prog w) A E (hiB a b c) (LoZ (fun c st' s' => LoX ϕ G a b st c.1 st' s' ∨ HiY ϕ G a b st t c st' s') (HiY ϕ G a b st t)) st3 s3 := by
 obtain ⟨i, j, o, mg, ac, bc, rfl, S3, g3, I3, hi3, hi3', hj3, hj3', hs3⟩ := h
 unfold hiB
 split
 ·exact kc_hiC R hk ha hb ua ub pb h0 S3 g3 I3 hi3 hi3' hj3 hj3' hs3
 ·exact kc_hiC R hk ha hb ua ub pb h0 S3 g3 I3 hi3 hi3' hj3 hj3' hs3
theorem kc_hiO (R : Rank prog w A κ ϕ U G) {a b : Array Keyed} {t : Nat} {c : (Option (Array Keyed) × Nat × Nat × Array Keyed × Nat)} {st st' : SortSt} {s' : Shared} (hk : kindOf st = κ) (ha : Al U a) (hb : Al U b) (ua : Up ϕ a.toList) (ub : Up ϕ b.toList) (pb : 0 < b.size) (h0 : ∀ y, b[0]? = some y → ∀ x ∈ a.toList, ϕ y ≤ ϕ x)
  (h : HiW ϕ G a b st t c st' s') : kasC (model prog w) A E (hiO a b c) (LoZ (fun c st' s' => LoX ϕ G a b st c.1 st' s') (HiW ϕ G a b st (t + 1))) st' s' := by
 obtain ⟨i, j, o, mg, rfl, S, g', I, hi, hi', hj, hj', hs⟩ := h
 refine kasC_bind (kc_mono (Q := fun c st' s' => LoX ϕ G a b st c.1 st' s' ∨ HiV ϕ G a b st t 1 c st' s')
  (kc_for (HiV ϕ G a b st t) ⟨i, j, o, 0, 0, rfl, S, g', I, hi, hi', hj, hj', hs⟩ (fun q c st2 s2 hq V => kc_hiM R hk ha hb pb h0 V) ?_) ?_)
 ·rintro c st2 s2 ⟨i, j, o, ac, bc, rfl, S2, g2, I2, hi2, hi2', hj2, hj2', hs2⟩
  exact .inr ⟨i, j, o, ac, bc, rfl, S2, g2, I2, hi2, hi2', hj2, hj2', by omega⟩
 ·rintro c st2 s2 (⟨r, e, S2, g2, O⟩ | ⟨i, j, o, ac, bc, rfl, S2, g2, I2, hi2⟩)
  ·rw [e]
   exact kasC_pure ⟨r, rfl, S2, g2, O⟩
  refine kasC_bind (kc_rule ?_)
  refine kasC_bind (kc_mono (Q := fun c st' s' => LoX ϕ G a b st c.1 st' s' ∨ HiY ϕ G a b st t c st' s')
   (kc_for (fun _ => HiY ϕ G a b st t) ⟨i, j, o, _, ac, bc, rfl, S2, g2, I2, hi2⟩ (fun q c st3 s3 hq Y => kc_hiB R hk ha hb ua ub pb h0 Y) fun c st3 s3 Y => .inr Y) ?_)
  rintro c st3 s3 (⟨r, e, S3, g3, O⟩ | ⟨i, j, o, mg, ac, bc, rfl, S3, g3, I3, hi3⟩)
  ·rw [e]
   exact kasC_pure ⟨r, rfl, S3, g3, O⟩
  refine kasC_bind (kc_setG fun st4 S4 => ?_)
  exact kasC_pure ⟨i, j, o, _, rfl, S3.trans S4, g3, I3, hi3⟩
theorem kc_hi (R : Rank prog w A κ ϕ U G) {a b : Array Keyed} {Q : Array Keyed → SortSt → Shared → Prop} {st : SortSt} {s : Shared} (hk : kindOf st = κ) (ha : Al U a) (hb : Al U b) (ua : Up ϕ a.toList) (ub : Up ϕ b.toList) (pa : 0 < a.size) (pb : 0 < b.size)
  (h0 : ∀ y, b[0]? = some y → ∀ x ∈ a.toList, ϕ y ≤ ϕ x) (h1 : ∀ x, a[a.size - 1]? = some x → ∀ y ∈ b.toList, ϕ y ≤ ϕ x) (g : G s)
  (h : ∀ r st' s', Sim st st' → G s' → Ok ϕ a b r → Q r st' s') : kasC (model prog w) A E (mgHi' a b) Q st s := by
 rw [mgHi'_eq]
 refine kasC_bind (kc_rule ?_)
 obtain ⟨x0, hx0, hd0⟩ := atL (show a.size - 1 < a.size by omega)
 refine kasC_bind (kc_elem hx0 ?_)
 have I0 : HiI ϕ a b #[x0] (a.size - 1) b.size := by
  have ea : a.toList.take (a.size - 1 + 1) = a.toList := List.take_of_length_le (by rw [Array.length_toList]; omega)
  have eb : b.toList.take b.size = b.toList := List.take_of_length_le (by rw [Array.length_toList]; omega)
  have : HiI ϕ a b #[] (a.size - 1 + 1) b.size := by
   unfold HiI
   rw [ea, eb]
   exact ⟨by simpa using ua, by simpa using ub, by simp⟩
  exact this.push1 hd0 fun v hv => h1 x0 hx0 v (List.mem_of_mem_take hv)
 by_cases c1 : a.size - 1 = 0
 ·rw [if_pos (by simpa using c1)]
  exact kasC_pure (h _ _ _ (Sim.refl _) g (I0.end1 (.inl c1)))
 rw [if_neg (by simpa using c1)]
 by_cases c2 : b.size = 1
 ·rw [if_pos (by simpa using c2)]
  exact kasC_pure (h _ _ _ (Sim.refl _) g (I0.end2 c2 pb h0))
 rw [if_neg (by simpa using c2)]
 refine kasC_bind (kasC_get ?_)
 refine kasC_bind (kc_mono (Q := fun c st' s' => LoX ϕ G a b st c.1 st' s') (kc_for (HiW ϕ G a b st)
  ⟨_, _, _, _, rfl, Sim.refl _, g, I0, by omega, by omega, by omega, by omega, Nat.le_refl 1⟩ (fun t c st' s' ht W => kc_hiO R hk ha hb ua ub pb h0 W) ?_) ?_)
 ·rintro c st' s' ⟨i, j, o, mg, rfl, S, g', I, hi, hi', hj, hj', hs⟩
  have := I.size (by omega) (by omega)
  omega
 ·rintro c st' s' ⟨r, e, S, g', O⟩
  rw [e]
  exact kasC_pure (h r st' s' S g' O)
end
end Tim
namespace Tim
open PySem PySem.W PyProof.Rows
theorem fx_mirror {ϕ : Keyed → Nat} {xs : Array Keyed} {i j : Nat} (hj : j ≤ xs.size) (k : Nat) : fx ϕ (mirror xs i j ((j - i) / 2)) k = if i ≤ k ∧ k < j then fx ϕ xs (i + j - 1 - k) else fx ϕ xs k := by
 have e := getElem?_mirror_all (i := i) hj k
 by_cases h1 : i ≤ k ∧ k < j
 ·rw [if_pos h1] at e ⊢
  exact fx_congr e
 ·rw [if_neg h1] at e ⊢
  exact fx_congr e
theorem fx_bubble {ϕ : Keyed → Nat} {xs : Array Keyed} {src d : Nat} (hs : src < xs.size) (hd : d ≤ src) (k : Nat) : fx ϕ (bubble xs src d) k = if k = src - d then fx ϕ xs src else if src - d < k ∧ k ≤ src then fx ϕ xs (k - 1) else fx ϕ xs k := by
 have e := getElem?_bubble hs d hd k
 by_cases h1 : k = src - d
 ·rw [if_pos h1] at e ⊢
  exact fx_congr e
 ·rw [if_neg h1] at e ⊢
  by_cases h2 : src - d < k ∧ k ≤ src
  ·rw [if_pos h2] at e ⊢
   exact fx_congr e
  ·rw [if_neg h2] at e ⊢
   exact fx_congr e
structure Kp (lo : Nat) (st st' : SortSt) : Prop where
 kind : kindOf st' = kindOf st
 pend : pendingOf st' = pendingOf st
 fail : failedOf st' = failedOf st
 perm : (arrOf st').Perm (arrOf st)
 low : ∀ i, i < lo → (arrOf st')[i]? = (arrOf st)[i]?
theorem Kp.refl (lo : Nat) (st : SortSt) : Kp lo st st := ⟨rfl, rfl, rfl, Array.Perm.refl _, fun _ _ => rfl⟩
theorem Kp.size {lo : Nat} {st st' : SortSt} (h : Kp lo st st') : (arrOf st').size = (arrOf st).size := h.perm.size_eq
theorem Kp.mir {lo i j : Nat} {st st' : SortSt} (h : Kp lo st st') (hi : lo ≤ i) (hj : j ≤ (arrOf st').size) : Kp lo st (setArr st' (mirror (arrOf st') i j ((j - i) / 2))) :=
 ⟨h.kind, h.pend, h.fail, (mirror_perm _ _ _ _).trans h.perm, fun k hk => by
  show (mirror (arrOf st') i j ((j - i) / 2))[k]? = _
  rw [getElem?_mirror_all hj k, if_neg (by omega)]
  exact h.low k hk⟩
theorem Kp.bub {lo src d : Nat} {st st' : SortSt} (h : Kp lo st st') (hs : src < (arrOf st').size) (hd : d ≤ src) (hl : lo ≤ src - d) : Kp lo st (setArr st' (bubble (arrOf st') src d)) :=
 ⟨h.kind, h.pend, h.fail, (bubble_perm _ _ _).trans h.perm, fun k hk => by
  show (bubble (arrOf st') src d)[k]? = _
  rw [getElem?_bubble hs d hd k, if_neg (by omega), if_neg (by omega)]
  exact h.low k hk⟩
def DnTo (ϕ : Keyed → Nat) (a : Array Keyed) (p q : Nat) : Prop := ∀ i j, p ≤ i → i ≤ j → j < q → fx ϕ a j ≤ fx ϕ a i
section
variable {prog : Program} {w : World} {A : Around} {E : Value → Shared → Prop} {κ : SortKind} {ϕ : Keyed → Nat} {U : Keyed → Prop} {G : Shared → Prop}
theorem kc_at (R : Rank prog w A κ ϕ U G) {i j : Nat} {Q : Option Bool → SortSt → Shared → Prop} {st : SortSt} {s : Shared} (hk : kindOf st = κ) (ha : Al U (arrOf st)) (hi : i < (arrOf st).size) (hj : j < (arrOf st).size) (g : G s)
  (h : ∀ s', G s' → Q (some (decide (fx ϕ (arrOf st) i < fx ϕ (arrOf st) j))) st s') : kasC (model prog w) A E (ltAt' i j) Q st s := by
 rw [ltAt'_eq]
 refine kasC_bind (kasC_get ?_)
 have e1 : (arrOf st)[i]? = some (arrOf st)[i] := Array.getElem?_eq_getElem hi
 have e2 : (arrOf st)[j]? = some (arrOf st)[j] := Array.getElem?_eq_getElem hj
 rw [fx_at e1, fx_at e2] at h
 exact kasC_bind (kc_elem e1 (kasC_bind (kc_elem e2 (kc_lt R hk (ha _ _ e1) (ha _ _ e2) g h))))
theorem kc_rev {i j : Nat} {Q : Unit → SortSt → Shared → Prop} {st : SortSt} {s : Shared} (h : Q () (setArr st (mirror (arrOf st) i j ((j - i) / 2))) s) : kasC (model prog w) A E (reverseSlice' i j) Q st s := by
 rw [reverseSlice'_eq]
 exact kasC_modify h
theorem kc_desc (R : Rank prog w A κ ϕ U G) {lo n0 nrem : Nat} {Q : Option Nat → SortSt → Shared → Prop} {st0 st : SortSt} {s : Shared} (hk : kindOf st0 = κ) (ha : Al U (arrOf st0)) (hn : lo + nrem ≤ (arrOf st0).size) (h1 : 1 ≤ n0) (hnn : n0 + 1 ≤ nrem) (K0 : Kp lo st0 st) (dn : DnTo ϕ (arrOf st) lo (lo + n0 + 1)) (g : G s)
  (h : ∀ n st' s', 1 ≤ n → n ≤ nrem → Kp lo st0 st' → UpTo ϕ (arrOf st') lo (lo + n) → G s' → Q (some n) st' s') : kasC (model prog w) A E (do
   rule "list.sort.descending-run"
   let mut n := n0 + 1
   let mut eq := 0
   for _ in [n:nrem] do
    let some sm ← ltAt' (lo + n) (lo + n - 1) | return none
    if sm then
     if eq > 0 then reverseSlice' (lo + n - (eq + 1)) (lo + n)
     eq := 0
    else
     let some la ← ltAt' (lo + n - 1) (lo + n) | return none
     if la then break
     eq := eq + 1
    n := n + 1
   if eq > 0 then reverseSlice' (lo + n - (eq + 1)) (lo + n)
   reverseSlice' lo (lo + n)
   for _ in [n:nrem] do
    let some sm ← ltAt' (lo + n) (lo + n - 1) | return none
    if sm then break
    n := n + 1
   return some n) Q st s := by
 have meq : ∀ {xs : Array Keyed} {i j : Nat}, j ≤ xs.size → (∀ k, i ≤ k → k < j → fx ϕ xs k = fx ϕ xs (j - 1)) → ∀ k, fx ϕ (mirror xs i j ((j - i) / 2)) k = fx ϕ xs k := fun {xs i j} hj he k => by
  rw [fx_mirror hj]
  split
  ·rw [he _ (by omega) (by omega), he k (by omega) (by omega)]
  ·rfl
 dsimp only
 refine kasC_bind (kc_rule ?_)
 refine kasC_bind (kc_mono (Q := fun c st' s' => ∃ n q, c = (none, n, q) ∧ Kp lo st0 st' ∧ G s' ∧ 1 ≤ n ∧ n ≤ nrem ∧ DnTo ϕ (arrOf st') lo (lo + n) ∧ q < n ∧ ∀ k, lo + n - (q + 1) ≤ k → k < lo + n → fx ϕ (arrOf st') k = fx ϕ (arrOf st') (lo + n - 1))
  (kc_for (fun t c st' s' => ∃ n q, c = (none, n, q) ∧ Kp lo st0 st' ∧ G s' ∧ 1 ≤ n ∧ n = t ∧ n ≤ nrem ∧ DnTo ϕ (arrOf st') lo (lo + n) ∧ q < n ∧ ∀ k, lo + n - (q + 1) ≤ k → k < lo + n → fx ϕ (arrOf st') k = fx ϕ (arrOf st') (lo + n - 1))
   ⟨n0 + 1, 0, rfl, K0, g, by omega, rfl, hnn, dn, by omega, fun k a1 a2 => by rw [show k = lo + (n0 + 1) - 1 by omega]⟩ ?_ ?_) ?_)
 ·rintro t c st' s' ht ⟨n, q, rfl, K1, g1, b1, rfl, b2, b3, b4, b5⟩
  dsimp only
  have sz := K1.size
  have al : Al U (arrOf st') := ha.perm K1.perm
  have htn : n < nrem := by omega
  have hsz : lo + n < (arrOf st').size := by omega
  clear ht hn hnn h1 sz b2 K0 dn h g
  refine kasC_bind (kc_at R (K1.kind.trans hk) al (by omega) (by omega) g1 fun s2 g2 => ?_)
  dsimp only
  by_cases c : fx ϕ (arrOf st') (lo + n) < fx ϕ (arrOf st') (lo + n - 1)
  ·rw [if_pos (by simpa using c)]
   have dn2 : DnTo ϕ (arrOf st') lo (lo + (n + 1)) := fun i j a1 a2 a3 => by
    rcases Nat.lt_or_ge j (lo + n) with z | z
    ·exact b3 i j a1 a2 z
    ·have ej : j = lo + n := by omega
     subst ej
     rcases Nat.lt_or_ge i (lo + n) with z2 | z2
     ·have := b3 i (lo + n - 1) a1 (by omega) (by omega)
      omega
     ·rw [show i = lo + n by omega]
      exact Nat.le_refl _
   by_cases cq : q > 0
   ·rw [if_pos cq]
    refine kasC_bind (kc_rev (kasC_pure ⟨n + 1, 0, rfl, K1.mir (by omega) (by omega), g2, by omega, rfl, by omega, fun i j a1 a2 a3 => ?_, by omega, fun k a1 a2 => by rw [show k = lo + (n + 1) - 1 by omega]⟩))
    show fx ϕ (mirror (arrOf st') _ _ _) j ≤ fx ϕ (mirror (arrOf st') _ _ _) i
    rw [meq (by omega) b5, meq (by omega) b5]
    exact dn2 i j a1 a2 a3
   ·rw [if_neg cq]
    exact kasC_pure ⟨n + 1, 0, rfl, K1, g2, by omega, rfl, by omega, dn2, by omega, fun k a1 a2 => by rw [show k = lo + (n + 1) - 1 by omega]⟩
  ·rw [if_neg (by simpa using c)]
   refine kasC_bind (kc_at R (K1.kind.trans hk) al (by omega) (by omega) g2 fun s3 g3 => ?_)
   dsimp only
   by_cases c2 : fx ϕ (arrOf st') (lo + n - 1) < fx ϕ (arrOf st') (lo + n)
   ·rw [if_pos (by simpa using c2)]
    exact kasC_pure ⟨n, q, rfl, K1, g3, b1, by omega, b3, b4, b5⟩
   ·rw [if_neg (by simpa using c2)]
    have e : fx ϕ (arrOf st') (lo + n) = fx ϕ (arrOf st') (lo + n - 1) := by omega
    refine kasC_pure ⟨n + 1, q + 1, rfl, K1, g3, by omega, rfl, by omega, fun i j a1 a2 a3 => ?_, by omega, fun k a1 a2 => ?_⟩
    ·rcases Nat.lt_or_ge j (lo + n) with z | z
     ·exact b3 i j a1 a2 z
     ·have ej : j = lo + n := by omega
      subst ej
      rcases Nat.lt_or_ge i (lo + n) with z2 | z2
      ·have := b3 i (lo + n - 1) a1 (by omega) (by omega)
       omega
      ·rw [show i = lo + n by omega]
       exact Nat.le_refl _
    ·rw [show lo + (n + 1) - 1 = lo + n by omega, e]
     rcases Nat.lt_or_ge k (lo + n) with z | z
     ·exact b5 k (by omega) z
     ·rw [show k = lo + n by omega]
      exact e
 ·rintro c st' s' ⟨n, q, rfl, K1, g1, b1, b2, b3, b4⟩
  exact ⟨n, q, rfl, K1, g1, b1, by omega, b4⟩
 ·rintro c st' s' ⟨n, q, rfl, K1, g1, b1, b2, b3, b4, b5⟩
  dsimp only
  have sz := K1.size
  have last : ∀ {st2 : SortSt}, Kp lo st0 st2 → DnTo ϕ (arrOf st2) lo (lo + n) → kasC (model prog w) A E (do
    reverseSlice' lo (lo + n)
    let mut m := n
    for _ in [m:nrem] do
     let some sm ← ltAt' (lo + m) (lo + m - 1) | return none
     if sm then break
     m := m + 1
    return some m) Q st2 s' := fun {st2} K2 d2 => by
   have sz2 := K2.size
   have hs2 : lo + n ≤ (arrOf st2).size := by omega
   dsimp only
   refine kasC_bind (kc_rev ?_)
   have K3 := K2.mir (i := lo) (j := lo + n) (by omega) (by omega)
   have u3 : UpTo ϕ (arrOf (setArr st2 (mirror (arrOf st2) lo (lo + n) ((lo + n - lo) / 2)))) lo (lo + n) := fun i j a1 a2 a3 => by
    show fx ϕ (mirror (arrOf st2) _ _ _) i ≤ fx ϕ (mirror (arrOf st2) _ _ _) j
    rw [fx_mirror (by omega), fx_mirror (by omega), if_pos (by omega), if_pos (by omega)]
    exact d2 _ _ (by omega) (by omega) (by omega)
   generalize setArr st2 (mirror (arrOf st2) lo (lo + n) ((lo + n - lo) / 2)) = st3 at *
   have sz3 := K3.size
   refine kasC_bind (kc_mono (Q := fun c st' s' => ∃ m, c = (none, m) ∧ st' = st3 ∧ G s' ∧ 1 ≤ m ∧ m ≤ nrem ∧ UpTo ϕ (arrOf st3) lo (lo + m)) (kc_for (fun t c st' s' => ∃ m, c = (none, m) ∧ st' = st3 ∧ G s' ∧ 1 ≤ m ∧ m = t ∧ m ≤ nrem ∧ UpTo ϕ (arrOf st3) lo (lo + m)) ⟨n, rfl, rfl, g1, b1, rfl, b2, u3⟩ ?_ ?_) ?_)
   ·rintro t c st4 s4 ht ⟨m, rfl, rfl, g4, d1, rfl, d3, d4⟩
    dsimp only
    have htn : m < nrem := by omega
    have hsz : lo + m < (arrOf st4).size := by omega
    clear ht hn hnn h1 sz sz2 sz3 d3 K0 dn h g b5 b4 b3 b2
    refine kasC_bind (kc_at R (K3.kind.trans hk) (ha.perm K3.perm) (by omega) (by omega) g4 fun s5 g5 => ?_)
    dsimp only
    by_cases c : fx ϕ (arrOf st4) (lo + m) < fx ϕ (arrOf st4) (lo + m - 1)
    ·rw [if_pos (by simpa using c)]
     exact kasC_pure ⟨m, rfl, rfl, g5, d1, Nat.le_of_lt htn, d4⟩
    ·rw [if_neg (by simpa using c)]
     refine kasC_pure ⟨m + 1, rfl, rfl, g5, by omega, rfl, by omega, fun i j a1 a2 a3 => ?_⟩
     rcases Nat.lt_or_ge j (lo + m) with z | z
     ·exact d4 i j a1 a2 z
     ·have ej : j = lo + m := by omega
      subst ej
      rcases Nat.lt_or_ge i (lo + m) with z2 | z2
      ·have := d4 i (lo + m - 1) a1 (by omega) (by omega)
       omega
      ·rw [show i = lo + m by omega]
       exact Nat.le_refl _
   ·rintro c st4 s4 ⟨m, rfl, rfl, g4, d1, rfl, d3, d4⟩
    exact ⟨_, rfl, rfl, g4, d1, d3, d4⟩
   ·rintro c st4 s4 ⟨m, rfl, rfl, g4, d1, d3, d4⟩
    exact kasC_pure (h m st4 s4 d1 d3 K3 d4 g4)
  by_cases cq : q > 0
  ·rw [if_pos cq]
   refine kasC_bind (kc_rev (last (K1.mir (by omega) (by omega)) fun i j a1 a2 a3 => ?_))
   show fx ϕ (mirror (arrOf st') _ _ _) j ≤ fx ϕ (mirror (arrOf st') _ _ _) i
   rw [meq (by omega) b5, meq (by omega) b5]
   exact b3 i j a1 a2 a3
  ·rw [if_neg cq]
   exact last K1 b3
theorem kc_count (R : Rank prog w A κ ϕ U G) {lo nrem : Nat} {Q : Option Nat → SortSt → Shared → Prop} {st : SortSt} {s : Shared} (hk : kindOf st = κ) (ha : Al U (arrOf st)) (hn : lo + nrem ≤ (arrOf st).size) (h1 : 1 ≤ nrem) (g : G s)
  (h : ∀ n st' s', 1 ≤ n → n ≤ nrem → Kp lo st st' → UpTo ϕ (arrOf st') lo (lo + n) → G s' → Q (some n) st' s') : kasC (model prog w) A E (countRun' lo nrem) Q st s := by
 rw [countRun'_eq]
 dsimp only
 refine kasC_bind (kc_mono (Q := fun c st' s' => ∃ m, c = (none, m) ∧ st' = st ∧ G s' ∧ 1 ≤ m ∧ m ≤ nrem ∧ UpTo ϕ (arrOf st) lo (lo + m) ∧ (m = nrem ∨ fx ϕ (arrOf st) (lo + m) < fx ϕ (arrOf st) (lo + m - 1))) (kc_for (fun t c st' s' => ∃ m, c = (none, m) ∧ st' = st ∧ G s' ∧ 1 ≤ m ∧ m = t ∧ m ≤ nrem ∧ UpTo ϕ (arrOf st) lo (lo + m)) ⟨1, rfl, rfl, g, by omega, rfl, h1, fun i j a1 a2 a3 => by rw [show i = j by omega]; exact Nat.le_refl _⟩ ?_ ?_) ?_)
 ·rintro t c st4 s4 ht ⟨m, rfl, rfl, g4, d1, rfl, d3, d4⟩
  dsimp only
  have htn : m < nrem := by omega
  have hsz : lo + m < (arrOf st4).size := by omega
  clear ht hn h1 d3 g h
  refine kasC_bind (kc_at R hk ha (by omega) (by omega) g4 fun s5 g5 => ?_)
  dsimp only
  by_cases c : fx ϕ (arrOf st4) (lo + m) < fx ϕ (arrOf st4) (lo + m - 1)
  ·rw [if_pos (by simpa using c)]
   exact kasC_pure ⟨m, rfl, rfl, g5, d1, Nat.le_of_lt htn, d4, .inr c⟩
  ·rw [if_neg (by simpa using c)]
   refine kasC_pure ⟨m + 1, rfl, rfl, g5, by omega, rfl, by omega, fun i j a1 a2 a3 => ?_⟩
   rcases Nat.lt_or_ge j (lo + m) with z | z
   ·exact d4 i j a1 a2 z
   ·have ej : j = lo + m := by omega
    subst ej
    rcases Nat.lt_or_ge i (lo + m) with z2 | z2
    ·have := d4 i (lo + m - 1) a1 (by omega) (by omega)
     omega
    ·rw [show i = lo + m by omega]
     exact Nat.le_refl _
 ·rintro c st4 s4 ⟨m, rfl, rfl, g4, d1, rfl, d3, d4⟩
  exact ⟨_, rfl, rfl, g4, d1, d3, d4, .inl (by omega)⟩
 ·rintro c st4 s4 ⟨m, rfl, rfl, g4, d1, d3, d4, d5⟩
  dsimp only
  by_cases c1 : m = nrem
  ·rw [if_pos (by simpa using c1)]
   exact kasC_pure (h m st4 s4 d1 d3 (Kp.refl _ _) d4 g4)
  rw [if_neg (by simpa using c1)]
  have hlt := d5.resolve_left c1
  replace c1 : m < nrem := by omega
  have hsz : lo + m < (arrOf st4).size := by omega
  clear d5 h1
  by_cases c2 : m > 1
  ·rw [if_pos c2]
   refine kasC_bind (kc_at R hk ha (by omega) (by omega) g4 fun s5 g5 => ?_)
   dsimp only
   by_cases c3 : fx ϕ (arrOf st4) lo < fx ϕ (arrOf st4) (lo + m - 1)
   ·rw [if_pos (by simpa using c3)]
    exact kasC_pure (h m st4 s5 d1 d3 (Kp.refl _ _) d4 g5)
   ·rw [if_neg (by simpa using c3)]
    have hall : ∀ k, lo ≤ k → k < lo + m → fx ϕ (arrOf st4) k = fx ϕ (arrOf st4) (lo + m - 1) := fun k a1 a2 => by
     have z1 := d4 lo k (by omega) a1 a2
     have z2 := d4 k (lo + m - 1) a1 (by omega) (by omega)
     omega
    refine kasC_bind (kc_rev (kc_desc R hk ha hn d1 (by omega) ((Kp.refl lo st4).mir (by omega) (by omega)) ?_ g5 h))
    have meq : ∀ k, fx ϕ (mirror (arrOf st4) lo (lo + m) ((lo + m - lo) / 2)) k = fx ϕ (arrOf st4) k := fun k => by
     rw [fx_mirror (by omega)]
     split
     ·rw [hall _ (by omega) (by omega), hall k (by omega) (by omega)]
     ·rfl
    intro i j a1 a2 a3
    show fx ϕ (mirror (arrOf st4) _ _ _) j ≤ fx ϕ (mirror (arrOf st4) _ _ _) i
    rw [meq, meq]
    rcases Nat.lt_or_ge j (lo + m) with z | z
    ·rw [hall i (by omega) (by omega), hall j (by omega) z]
     exact Nat.le_refl _
    ·have ej : j = lo + m := by omega
     subst ej
     rcases Nat.lt_or_ge i (lo + m) with z2 | z2
     ·rw [hall i a1 z2]
      omega
     ·rw [show i = lo + m by omega]
      exact Nat.le_refl _
  ·rw [if_neg c2]
   have hm : m = 1 := by omega
   subst hm
   refine kc_desc R hk ha hn d1 (by omega) (Kp.refl lo st4) ?_ g4 h
   intro i j a1 a2 a3
   rcases Nat.lt_or_ge i j with z | z
   ·have e1 : i = lo := by omega
    have e2 : j = lo + 1 := by omega
    subst e1 e2
    rw [Nat.add_sub_cancel] at hlt
    omega
   ·rw [show i = j by omega]
    exact Nat.le_refl _
theorem kc_ins (R : Rank prog w A κ ϕ U G) {lo n ok : Nat} {Q : Bool → SortSt → Shared → Prop} {st0 st : SortSt} {s : Shared} (hk : kindOf st0 = κ) (ha : Al U (arrOf st0)) (hn : lo + n ≤ (arrOf st0).size) (hok : ok ≤ n) (K0 : Kp lo st0 st) (up : UpTo ϕ (arrOf st) lo (lo + ok)) (g : G s)
  (h : ∀ st' s', Kp lo st0 st' → UpTo ϕ (arrOf st') lo (lo + n) → G s' → Q true st' s') : kasC (model prog w) A E (binarySort' lo n ok) Q st s := by
 rw [binarySort'_eq]
 dsimp only
 refine kasC_bind (kc_mono (Q := fun c st' s' => c = (none, ()) ∧ Kp lo st0 st' ∧ G s' ∧ UpTo ϕ (arrOf st') lo (lo + n)) (kc_for (fun k c st' s' => c = (none, ()) ∧ max ok 1 ≤ k ∧ Kp lo st0 st' ∧ G s' ∧ UpTo ϕ (arrOf st') lo (lo + min k n)) ⟨rfl, Nat.le_refl _, K0, g, fun i j a1 a2 a3 => ?_⟩ ?_ ?_) ?_)
 ·by_cases h1 : ok = 0
  ·rw [show i = j by omega]
   exact Nat.le_refl _
  ·exact up i j a1 a2 (by omega)
 ·rintro k c st1 s1 hkk ⟨rfl, hk1, K1, g1, u1⟩
  have sz := K1.size
  have hkn : k < n := by omega
  rw [show min k n = k by omega] at u1
  have hkm : True → max ok 1 ≤ k + 1 := fun _ => by omega
  have hks0 : lo + k < (arrOf st1).size := by omega
  clear hkk hk1 hok hn sz up
  refine kasC_bind (kc_mono (Q := fun c st' s' => st' = st1 ∧ G s' ∧ ∃ l r, c = (none, l, r) ∧ l ≤ k ∧ (∀ i, lo ≤ i → i < lo + l → fx ϕ (arrOf st1) i ≤ fx ϕ (arrOf st1) (lo + k)) ∧ (∀ i, lo + l ≤ i → i < lo + k → fx ϕ (arrOf st1) (lo + k) < fx ϕ (arrOf st1) i))
   (kc_for (fun x c st' s' => st' = st1 ∧ G s' ∧ ∃ l r, c = (none, l, r) ∧ l ≤ r ∧ r ≤ k ∧ r - l ≤ k - x ∧ (∀ i, lo ≤ i → i < lo + l → fx ϕ (arrOf st1) i ≤ fx ϕ (arrOf st1) (lo + k)) ∧ (∀ i, lo + r ≤ i → i < lo + k → fx ϕ (arrOf st1) (lo + k) < fx ϕ (arrOf st1) i))
    ⟨rfl, g1, 0, k, rfl, by omega, by omega, by omega, fun i a1 a2 => by omega, fun i a1 a2 => by omega⟩ ?_ ?_) ?_)
  ·rintro x c st2 s2 hx ⟨rfl, g2, l, r, rfl, b1, b2, b3, b4, b5⟩
   dsimp only
   by_cases hge : l ≥ r
   ·rw [if_pos hge]
    have : l = r := by omega
    subst this
    exact kasC_pure ⟨rfl, g2, l, l, rfl, b2, b4, b5⟩
   ·rw [if_neg hge]
    refine kasC_bind (kc_at R (K1.kind.trans hk) (ha.perm K1.perm) (by omega) (by omega) g2 fun s3 g3 => ?_)
    dsimp only
    by_cases c : fx ϕ (arrOf st2) (lo + k) < fx ϕ (arrOf st2) (lo + (l + r) / 2)
    ·rw [if_pos (by simpa using c)]
     refine kasC_pure ⟨rfl, g3, l, (l + r) / 2, rfl, by omega, by omega, by omega, b4, fun i a1 a2 => ?_⟩
     exact Nat.lt_of_lt_of_le c (u1 _ _ (by omega) a1 a2)
    ·rw [if_neg (by simpa using c)]
     refine kasC_pure ⟨rfl, g3, (l + r) / 2 + 1, r, rfl, by omega, by omega, by omega, fun i a1 a2 => ?_, b5⟩
     exact Nat.le_trans (u1 i (lo + (l + r) / 2) a1 (by omega) (by omega)) (Nat.not_lt.mp c)
  ·rintro c st2 s2 ⟨rfl, g2, l, r, rfl, b1, b2, b3, b4, b5⟩
   have : l = r := by omega
   subst this
   exact ⟨rfl, g2, l, l, rfl, b2, b4, b5⟩
  ·rintro c st2 s2 ⟨rfl, g2, l, r, rfl, b1, b2, b3⟩
   dsimp only
   rw [moveDown'_eq]
   refine kasC_bind (kasC_modify (kasC_pure ⟨rfl, hkm trivial, K1.bub (by omega) (by omega) (by omega), g2, ?_⟩))
   rw [show min (k + 1) n = k + 1 by omega]
   have hks := hks0
   clear hkn hkm
   intro i j a1 a2 a3
   show fx ϕ (bubble (arrOf st2) (lo + k) (lo + k - (lo + l))) i ≤ fx ϕ (bubble (arrOf st2) (lo + k) (lo + k - (lo + l))) j
   rw [fx_bubble hks (by omega), fx_bubble hks (by omega), show lo + k - (lo + k - (lo + l)) = lo + l by omega]
   repeat' split
   all_goals first
    | (exfalso; omega)
    | exact Nat.le_refl _
    | exact b2 _ (by omega) (by omega)
    | exact Nat.le_of_lt (b3 _ (by omega) (by omega))
    | exact u1 _ _ (by omega) (by omega) (by omega)
 ·rintro c st1 s1 ⟨rfl, hk1, K1, g1, u1⟩
  refine ⟨rfl, K1, g1, ?_⟩
  rwa [show min (max (max ok 1) n) n = n by omega] at u1
 ·rintro c st1 s1 ⟨rfl, K1, g1, u1⟩
  exact kasC_pure (h st1 s1 K1 u1 g1)
end
end Tim
namespace Tim
open PySem PySem.W PyProof.Rows
section
variable {ϕ : Keyed → Nat}
theorem up_of {a : Array Keyed} {P X S : List Keyed} (e : a.toList = P ++ X ++ S) (u : Up ϕ X) : UpTo ϕ a P.length (P.length + X.length) := by
 have ix : ∀ k (hk : k < X.length), fx ϕ a (P.length + k) = ϕ X[k] := fun k hk => by
  refine fx_at ?_
  rw [← Array.getElem?_toList, e, List.append_assoc, List.getElem?_append_right (by omega), Nat.add_sub_cancel_left, List.getElem?_append_left hk]
  exact List.getElem?_eq_getElem hk
 intro i j a1 a2 a3
 obtain ⟨x, rfl⟩ : ∃ x, i = P.length + x := ⟨i - P.length, by omega⟩
 obtain ⟨y, rfl⟩ : ∃ y, j = P.length + y := ⟨j - P.length, by omega⟩
 rw [ix x (by omega), ix y (by omega)]
 rcases Nat.lt_or_ge x y with c | c
 ·exact List.pairwise_iff_getElem.mp u x y (by omega) (by omega) c
 ·have : x = y := by omega
  subst this
  exact Nat.le_refl _
theorem of_up {a : Array Keyed} {p n : Nat} (h : UpTo ϕ a p (p + n)) (hn : p + n ≤ a.size) : Up ϕ ((a.toList.drop p).take n) := by
 refine List.pairwise_iff_getElem.mpr fun i j hi hj hij => ?_
 have hl : ((a.toList.drop p).take n).length = n := by rw [List.length_take, List.length_drop, Array.length_toList]; omega
 have ix : ∀ k (hk : k < ((a.toList.drop p).take n).length), fx ϕ a (p + k) = ϕ ((a.toList.drop p).take n)[k] := fun k hk => by
  have hk2 : p + k < a.size := by omega
  refine fx_at ?_
  rw [Array.getElem?_eq_getElem hk2]
  simp
 rw [← ix i hi, ← ix j hj]
 exact h _ _ (by omega) (by omega) (by omega)
def Runs (ϕ : Keyed → Nat) (a : Array Keyed) : List (Nat × Nat × Nat) → Nat → Nat → Prop
 | [], p, q => p = q
 | x :: l, p, q => x.1 = p ∧ 1 ≤ x.2.1 ∧ UpTo ϕ a p (p + x.2.1) ∧ Runs ϕ a l (p + x.2.1) q
theorem Runs.le {a : Array Keyed} : ∀ {l : List (Nat × Nat × Nat)} {p q : Nat}, Runs ϕ a l p q → p + l.length ≤ q
 | [], p, q, h => by
  have : p = q := h
  simp [this]
 | x :: l, p, q, h => by
  have := Runs.le h.2.2.2
  have := h.2.1
  simp only [List.length_cons]
  omega
theorem Runs.congr {a b : Array Keyed} : ∀ {l : List (Nat × Nat × Nat)} {p q : Nat}, Runs ϕ a l p q → (∀ i, p ≤ i → i < q → fx ϕ b i = fx ϕ a i) → Runs ϕ b l p q
 | [], _, _, h, _ => h
 | x :: l, p, q, h, e => by
  have hle := Runs.le h.2.2.2
  refine ⟨h.1, h.2.1, fun i j a1 a2 a3 => ?_, h.2.2.2.congr fun i a1 a2 => e i (by omega) a2⟩
  rw [e i (by omega) (by omega), e j (by omega) (by omega)]
  exact h.2.2.1 i j a1 a2 a3
theorem Runs.app {a : Array Keyed} : ∀ {l m : List (Nat × Nat × Nat)} {p q : Nat}, Runs ϕ a (l ++ m) p q → ∃ r, Runs ϕ a l p r ∧ Runs ϕ a m r q
 | [], m, p, q, h => ⟨p, rfl, h⟩
 | x :: l, m, p, q, h => by
  obtain ⟨r, h1, h2⟩ := Runs.app h.2.2.2
  exact ⟨r, ⟨h.1, h.2.1, h.2.2.1, h1⟩, h2⟩
theorem Runs.join {a : Array Keyed} : ∀ {l m : List (Nat × Nat × Nat)} {p q r : Nat}, Runs ϕ a l p r → Runs ϕ a m r q → Runs ϕ a (l ++ m) p q
 | [], m, p, q, r, h, k => by
  have : p = r := h
  subst this
  exact k
 | x :: l, m, p, q, r, h, k => ⟨h.1, h.2.1, h.2.2.1, Runs.join h.2.2.2 k⟩
theorem Runs.mod {a : Array Keyed} {f : Nat × Nat × Nat → Nat × Nat × Nat} (hf : ∀ x, (f x).1 = x.1 ∧ (f x).2.1 = x.2.1) : ∀ {l : List (Nat × Nat × Nat)} {p q : Nat} (k : Nat), Runs ϕ a l p q → Runs ϕ a (l.modify k f) p q
 | [], p, q, k, h => by rw [List.modify_nil]; exact h
 | x :: l, p, q, 0, h => by
  rw [List.modify_zero_cons]
  refine ⟨(hf x).1.trans h.1, by rw [(hf x).2]; exact h.2.1, by rw [(hf x).2]; exact h.2.2.1, by rw [(hf x).2]; exact h.2.2.2⟩
 | x :: l, p, q, k + 1, h => by
  rw [List.modify_succ_cons]
  exact ⟨h.1, h.2.1, h.2.2.1, Runs.mod hf k h.2.2.2⟩
end
theorem put_over : ∀ (r : List Keyed) (a : Array Keyed) (p k : Nat), p + k + r.length ≤ a.size → ((r.zipIdx k).foldl (fun a (x : Keyed × Nat) => a.setIfInBounds (p + x.2) x.1) a).toList = a.toList.take (p + k) ++ r ++ a.toList.drop (p + k + r.length)
 | [], a, p, k, h => by simp
 | x :: r, a, p, k, h => by
  rw [List.zipIdx_cons, List.foldl_cons]
  simp only [List.length_cons] at h
  rw [put_over r _ p (k + 1) (by rw [Array.size_setIfInBounds]; omega)]
  have hk : p + k < a.toList.length := by rw [Array.length_toList]; omega
  rw [Array.toList_setIfInBounds, List.set_eq_take_append_cons_drop, if_pos hk]
  have e1 : (a.toList.take (p + k)).length = p + k := by rw [List.length_take]; omega
  have e2 : (a.toList.take (p + k) ++ x :: a.toList.drop (p + k + 1)).take (p + (k + 1)) = a.toList.take (p + k) ++ [x] := by
   rw [List.take_append, e1, show p + (k + 1) - (p + k) = 1 by omega, List.take_of_length_le (by omega)]
   rfl
  have e3 : (a.toList.take (p + k) ++ x :: a.toList.drop (p + k + 1)).drop (p + (k + 1) + r.length) = a.toList.drop (p + k + (x :: r).length) := by
   rw [List.drop_append, e1, List.drop_of_length_le (by omega), List.nil_append, show p + (k + 1) + r.length - (p + k) = r.length + 1 by omega, List.drop_succ_cons, List.drop_drop]
   congr 1
   simp only [List.length_cons]
   omega
  rw [e2, e3]
  simp
theorem mgAt'_eq (i : Nat) : mergeAt' i = (do
 let z ← get
 let (some (sa, na, pw), some (sb, nb, _)) := ((pendingOf z)[i]?, (pendingOf z)[i + 1]?) | unsupported "internal:list.sort.pending"
 set (setPending z (((pendingOf z).setIfInBounds i (sa, na + nb, pw)).eraseIdxIfInBounds (i + 1)))
 let some k ← galp' false (← elem' (arrOf z) sb) (arrOf z) sa na 0 | return false
 let (sc, nc) := (sa + k, na - k)
 if nc == 0 then return true
 let some nd ← galp' true (← elem' (arrOf z) (sc + nc - 1)) (arrOf z) sb nb (nb - 1) | return false
 if nd == 0 then return true
 let x := (arrOf z).extract sc sb
 let y := (arrOf z).extract sb (sb + nd)
 let r ← if nc ≤ nd then mgLo' x y else mgHi' x y
 modify fun z => setArr z (r.toList.zipIdx.foldl (fun a (p, j) => a.setIfInBounds (sc + j) p) (arrOf z))
 return (failedOf (← get)).isNone) := rfl
section
variable {prog : Program} {w : World} {A : Around} {E : Value → Shared → Prop} {κ : SortKind} {ϕ : Keyed → Nat} {U : Keyed → Prop} {G : Shared → Prop}
theorem kasC_set {σ : Type} {M : Model} {t : σ} {Q : PUnit → σ → Shared → Prop} {st : σ} {s : Shared} (h : Q ⟨⟩ t s) : kasC M A E (set t : StateT σ Sem PUnit) Q st s := by
 unfold kasC; rw [StateT.run_set]; exact wpAny_pure h
structure Jn (κ : SortKind) (ϕ : Keyed → Nat) (a₀ : Array Keyed) (q : Nat) (l : List (Nat × Nat × Nat)) (st : SortSt) : Prop where
 kind : kindOf st = κ
 fail : failedOf st = none
 perm : (arrOf st).Perm a₀
 pend : (pendingOf st).toList = l
 runs : Runs ϕ (arrOf st) l 0 q
theorem seg_len {l : List Keyed} {p n N : Nat} (hl : l.length = N) (h : p + n ≤ N) : ((l.drop p).take n).length = n := by
 rw [List.length_take, List.length_drop, hl]
 omega
theorem kc_mgAt (R : Rank prog w A κ ϕ U G) {a₀ : Array Keyed} {q i : Nat} {l : List (Nat × Nat × Nat)} {Q : Bool → SortSt → Shared → Prop} {st : SortSt} {s : Shared} (ha : Al U a₀) (J : Jn κ ϕ a₀ q l st) (hq : q ≤ a₀.size) (hi : i + 1 < l.length) (g : G s)
  (h : ∀ l' st' s', l'.length + 1 = l.length → Jn κ ϕ a₀ q l' st' → (∀ k, q ≤ k → fx ϕ (arrOf st') k = fx ϕ (arrOf st) k) → G s' → Q true st' s') : kasC (model prog w) A E (mergeAt' i) Q st s := by
 obtain ⟨l1, x, y, l2, e, e1⟩ : ∃ l1 x y l2, l = l1 ++ x :: y :: l2 ∧ l1.length = i :=
  ⟨l.take i, l[i], l[i + 1], l.drop (i + 2), by
   rw [← List.drop_eq_getElem_cons (by omega), ← List.drop_eq_getElem_cons (by omega), List.take_append_drop], by rw [List.length_take]; omega⟩
 obtain ⟨sa, na, pw⟩ := x
 obtain ⟨sb, nb, pv⟩ := y
 obtain ⟨r, r1, r2⟩ := Runs.app (e ▸ J.runs)
 obtain ⟨z1, z2, z3, z4, z5, z6, z7⟩ := r2
 dsimp only at z1 z2 z3 z4 z5 z6 z7
 subst z1
 subst z4
 have sz : (arrOf st).size = a₀.size := J.perm.size_eq
 have al : Al U (arrOf st) := ha.perm J.perm
 have hle := z7.le
 have p1 : (pendingOf st)[i]? = some (sa, na, pw) := by
  rw [← Array.getElem?_toList, J.pend, e, ← e1, List.getElem?_append_right (Nat.le_refl _), Nat.sub_self]
  rfl
 have p2 : (pendingOf st)[i + 1]? = some (sa + na, nb, pv) := by
  rw [← Array.getElem?_toList, J.pend, e, ← e1, List.getElem?_append_right (by omega), Nat.add_sub_cancel_left]
  rfl
 have p3 : (((pendingOf st).setIfInBounds i (sa, na + nb, pw)).eraseIdxIfInBounds (i + 1)).toList = l1 ++ (sa, na + nb, pw) :: l2 := by
  rw [Array.toList_eraseIdxIfInBounds, Array.toList_setIfInBounds, J.pend, e, ← e1, List.set_append_right _ _ (Nat.le_refl _), Nat.sub_self, List.eraseIdx_append_of_length_le (by omega), Nat.add_sub_cancel_left]
  rfl
 have fin : ∀ (a' : Array Keyed), a'.Perm (arrOf st) → (∀ k, k < sa → fx ϕ a' k = fx ϕ (arrOf st) k) → (∀ k, sa + na + nb ≤ k → fx ϕ a' k = fx ϕ (arrOf st) k) → UpTo ϕ a' sa (sa + (na + nb)) → ∀ (st' : SortSt) (s' : Shared), kindOf st' = κ → failedOf st' = none → arrOf st' = a' → pendingOf st' = ((pendingOf st).setIfInBounds i (sa, na + nb, pw)).eraseIdxIfInBounds (i + 1) → G s' → Q true st' s' := by
  intro a' q1 q2 q3 q4 st' s' q5 q6 q7 q8 g'
  subst q7
  refine h (l1 ++ (sa, na + nb, pw) :: l2) st' s' (by rw [e]; simp only [List.length_append, List.length_cons]; omega) ⟨q5, q6, q1.trans J.perm, by rw [q8, p3], ?_⟩ (fun k hk => q3 k (by omega)) g'
  refine (r1.congr fun k b1 b2 => q2 k b2).join ⟨rfl, by show 1 ≤ na + nb; omega, q4, ?_⟩
  show Runs ϕ (arrOf st') l2 (sa + (na + nb)) q
  rw [← Nat.add_assoc]
  exact z7.congr fun k b1 b2 => q3 k b1
 have hsz : sa + na + nb ≤ a₀.size := by omega
 clear hi e1 hq hle h p3 r1 z7
 rw [mgAt'_eq]
 refine kasC_bind (kasC_get ?_)
 rw [p1, p2]
 dsimp only
 refine kasC_bind (kasC_set ?_)
 obtain ⟨y0, hy0, hdy0⟩ := at_ (show sa + na < (arrOf st).size by omega)
 have kd : kindOf (setPending st (((pendingOf st).setIfInBounds i (sa, na + nb, pw)).eraseIdxIfInBounds (i + 1))) = κ := J.kind
 generalize hst : setPending st (((pendingOf st).setIfInBounds i (sa, na + nb, pw)).eraseIdxIfInBounds (i + 1)) = st1 at *
 have ar1 : arrOf st1 = arrOf st := by rw [← hst]
 have pe1 : pendingOf st1 = ((pendingOf st).setIfInBounds i (sa, na + nb, pw)).eraseIdxIfInBounds (i + 1) := by rw [← hst]
 have fa1 : failedOf st1 = none := by rw [← hst]; exact J.fail
 have seg : ∀ p n, UpTo ϕ (arrOf st) p (p + n) → p + n ≤ a₀.size → Up ϕ (((arrOf st).toList.drop p).take n) := fun p n u hn => of_up u (by omega)
 have sB := seg _ _ z6 (by omega)
 have sA := seg _ _ z3 (by omega)
 have cutL : ∀ p n m, ((arrOf st).toList.drop p).take (n + m) = ((arrOf st).toList.drop p).take n ++ ((arrOf st).toList.drop (p + n)).take m := fun p n m => by
  rw [List.take_add, List.drop_drop]
 have lenL : True → (arrOf st).toList.length = a₀.size := fun _ => by rw [Array.length_toList, sz]
 refine kasC_bind (kc_elem hy0 (kasC_bind (kc_gal R kd (al _ _ hy0) al (by omega) (by omega) z3 g fun k s1 hk1 l1' l2' g1 => ?_)))
 dsimp only
 have upB : ∀ v ∈ ((arrOf st).toList.drop (sa + na)).take nb, ϕ y0 ≤ ϕ v := by
  obtain ⟨nb', rfl⟩ : ∃ m, nb = m + 1 := ⟨nb - 1, by omega⟩
  rw [hdy0, List.take_succ_cons] at sB ⊢
  exact up_head sB
 by_cases c1 : na - k = 0
 ·rw [if_pos (by simpa using c1)]
  have k0 : k = na := by omega
  subst k0
  refine kasC_pure (fin (arrOf st) (Array.Perm.refl _) (fun _ _ => rfl) (fun _ _ => rfl) ?_ st1 s1 kd fa1 ar1 pe1 g1)
  have u : Up ϕ (((arrOf st).toList.drop sa).take (k + nb)) := by
   rw [cutL]
   exact List.pairwise_append.mpr ⟨sA, sB, fun u hu v hv => Nat.le_trans (l1' u hu) (upB v hv)⟩
  have := up_of (ϕ := ϕ) (a := arrOf st) (P := (arrOf st).toList.take sa) (S := (arrOf st).toList.drop (sa + (k + nb))) (by rw [List.append_assoc, ← List.drop_drop, List.take_append_drop, List.take_append_drop]) u
  rw [List.length_take, lenL trivial, Nat.min_eq_left (by omega), seg_len (lenL trivial) (by omega)] at this
  exact this
 rw [if_neg (by simpa using c1)]
 replace c1 : k < na := by omega
 rw [show sa + k + (na - k) - 1 = sa + na - 1 by omega]
 obtain ⟨xl, hxl, hdxl⟩ := atL (show sa + na - 1 < (arrOf st).size by omega)
 have upA : ∀ v ∈ ((arrOf st).toList.drop sa).take na, ϕ v ≤ ϕ xl := by
  have : ((arrOf st).toList.drop sa).take na = ((arrOf st).toList.drop sa).take (na - 1) ++ [xl] := by
   have e9 : ∃ m, na = m + 1 := ⟨na - 1, by omega⟩
   obtain ⟨m, rfl⟩ := e9
   rw [cutL, Nat.add_sub_cancel]
   congr 1
   obtain ⟨x9, hx9, hd9⟩ := at_ (show sa + m < (arrOf st).size by omega)
   rw [hd9]
   have : x9 = xl := by
    rw [show sa + (m + 1) - 1 = sa + m by omega, hx9] at hxl
    exact Option.some.inj hxl
   rw [this]
   rfl
  rw [this] at sA ⊢
  exact up_last sA
 refine kasC_bind (kc_elem hxl (kasC_bind (kc_gal R kd (al _ _ hxl) al (by omega) (by omega) z6 g1 fun nd s2 hnd m1 m2 g2 => ?_)))
 dsimp only
 by_cases c2 : nd = 0
 ·rw [if_pos (by simpa using c2)]
  subst c2
  refine kasC_pure (fin (arrOf st) (Array.Perm.refl _) (fun _ _ => rfl) (fun _ _ => rfl) ?_ st1 s2 kd fa1 ar1 pe1 g2)
  have u : Up ϕ (((arrOf st).toList.drop sa).take (na + nb)) := by
   rw [cutL]
   exact List.pairwise_append.mpr ⟨sA, sB, fun u hu v hv => Nat.le_trans (upA u hu) (m2 v (by simpa using hv))⟩
  have := up_of (ϕ := ϕ) (a := arrOf st) (P := (arrOf st).toList.take sa) (S := (arrOf st).toList.drop (sa + (na + nb))) (by rw [List.append_assoc, ← List.drop_drop, List.take_append_drop, List.take_append_drop]) u
  rw [List.length_take, lenL trivial, Nat.min_eq_left (by omega), seg_len (lenL trivial) (by omega)] at this
  exact this
 rw [if_neg (by simpa using c2)]
 replace c2 : 0 < nd := by omega
 have ex1 : ((arrOf st).extract (sa + k) (sa + na)).toList = ((arrOf st).toList.drop (sa + k)).take (na - k) := by
  rw [← ext_l, show sa + k + (na - k) = sa + na by omega]
 have ex2 : ((arrOf st).extract (sa + na) (sa + na + nd)).toList = ((arrOf st).toList.drop (sa + na)).take nd := ext_l _ _ _
 have sz1 : True → ((arrOf st).extract (sa + k) (sa + na)).size = na - k := fun _ => by rw [Array.size_extract]; omega
 have sz2 : True → ((arrOf st).extract (sa + na) (sa + na + nd)).size = nd := fun _ => by rw [Array.size_extract]; omega
 have al' : ∀ p q', Al U ((arrOf st).extract p q') := fun p q' i x hx => by
  rw [Array.getElem?_extract] at hx
  split at hx
  ·exact al _ _ hx
  ·cases hx
 have u1 : Up ϕ ((arrOf st).extract (sa + k) (sa + na)).toList := by
  rw [ex1]
  exact seg _ _ (z3.sub (by omega) (by omega)) (by omega)
 have u2 : Up ϕ ((arrOf st).extract (sa + na) (sa + na + nd)).toList := by
  rw [ex2]
  exact seg _ _ (z6.sub (by omega) (by omega)) (by omega)
 have q0 : ∀ y, ((arrOf st).extract (sa + na) (sa + na + nd))[0]? = some y → ∀ x ∈ ((arrOf st).extract (sa + k) (sa + na)).toList, ϕ y ≤ ϕ x := fun y hy x hx => by
  rw [Array.getElem?_extract, if_pos (by omega), Nat.add_zero, hy0] at hy
  rw [← Option.some.inj hy]
  rw [ex1] at hx
  exact l2' x hx
 have q1 : ∀ x, ((arrOf st).extract (sa + k) (sa + na))[((arrOf st).extract (sa + k) (sa + na)).size - 1]? = some x → ∀ y ∈ ((arrOf st).extract (sa + na) (sa + na + nd)).toList, ϕ y ≤ ϕ x := fun x hx y hy => by
  rw [sz1 trivial, Array.getElem?_extract, if_pos (by omega), show sa + k + (na - k - 1) = sa + na - 1 by omega, hxl] at hx
  rw [← Option.some.inj hx]
  rw [ex2] at hy
  exact m1 y hy
 have last : ∀ (r : Array Keyed) (st' : SortSt) (s' : Shared), Sim st1 st' → G s' → Ok ϕ ((arrOf st).extract (sa + k) (sa + na)) ((arrOf st).extract (sa + na) (sa + na + nd)) r → kasC (model prog w) A E (do
   modify fun z => setArr z (r.toList.zipIdx.foldl (fun a (p, j) => a.setIfInBounds (sa + k + j) p) (arrOf z))
   return (failedOf (← get)).isNone) Q st' s' := by
  intro r st' s' S' g' O
  refine kasC_bind (kasC_modify (kasC_bind (kasC_get (kasC_pure ?_))))
  have fz : failedOf st' = none := S'.2.2.2.trans fa1
  show Q (failedOf st').isNone _ _
  rw [fz]
  have az : arrOf st' = arrOf st := S'.2.1.trans ar1
  obtain ⟨O1, O2⟩ := O
  have lr : True → r.toList.length = na - k + nd := fun _ => by
   rw [O2.length_eq, List.length_append, Array.length_toList, Array.length_toList, sz1 trivial, sz2 trivial]
  have pu := put_over r.toList (arrOf st) (sa + k) 0 (by rw [lr trivial]; omega)
  rw [Nat.add_zero, lr trivial, show sa + k + (na - k + nd) = sa + na + nd by omega] at pu
  have lr' : k + r.toList.length = na + nd := by rw [lr trivial]; omega
  rw [ex1, ex2] at O2
  obtain ⟨P, hP⟩ : ∃ z, (arrOf st).toList.take sa = z := ⟨_, rfl⟩
  obtain ⟨A1, hA1⟩ : ∃ z, ((arrOf st).toList.drop sa).take k = z := ⟨_, rfl⟩
  rw [hA1] at l1'
  obtain ⟨A2, hA2⟩ : ∃ z, ((arrOf st).toList.drop (sa + k)).take (na - k) = z := ⟨_, rfl⟩
  rw [hA2] at O2
  obtain ⟨B1, hB1⟩ : ∃ z, ((arrOf st).toList.drop (sa + na)).take nd = z := ⟨_, rfl⟩
  rw [hB1] at O2
  obtain ⟨B2, hB2⟩ : ∃ z, ((arrOf st).toList.drop (sa + na + nd)).take (nb - nd) = z := ⟨_, rfl⟩
  rw [hB2] at m2
  obtain ⟨S, hS⟩ : ∃ z, (arrOf st).toList.drop (sa + na + nb) = z := ⟨_, rfl⟩
  have hA : ((arrOf st).toList.drop sa).take na = A1 ++ A2 := by rw [← hA1, ← hA2, ← cutL, show k + (na - k) = na by omega]
  have hB : ((arrOf st).toList.drop (sa + na)).take nb = B1 ++ B2 := by rw [← hB1, ← hB2, ← cutL, show nd + (nb - nd) = nb by omega]
  have hD : (arrOf st).toList.drop (sa + na + nd) = B2 ++ S := by
   rw [← hB2, ← hS, show sa + na + nb = sa + na + nd + (nb - nd) by omega]
   exact drop_cut _ _ _
  have hT : (arrOf st).toList.take (sa + k) = P ++ A1 := by rw [← hP, ← hA1, List.take_add]
  have hL : (arrOf st).toList = P ++ ((A1 ++ A2) ++ (B1 ++ B2)) ++ S := by
   rw [← hA, ← hB, ← hP, ← hS, ← cutL, List.append_assoc, Nat.add_assoc, ← drop_cut, List.take_append_drop]
  rw [hT, hD] at pu
  have pL : P.length = sa := by rw [← hP, List.length_take, lenL trivial]; omega
  have pA1 : A1.length = k := by rw [← hA1, seg_len (lenL trivial) (by omega)]
  have pA2 : k + A2.length = na := by rw [← hA2, seg_len (lenL trivial) (by omega)]; omega
  have pB1 : B1.length = nd := by rw [← hB1, seg_len (lenL trivial) (by omega)]
  have pB2 : nd + B2.length = nb := by rw [← hB2, seg_len (lenL trivial) (by omega)]; omega
  refine fin (r.toList.zipIdx.foldl (fun a (x : Keyed × Nat) => a.setIfInBounds (sa + k + x.2) x.1) (arrOf st)) ?_ ?_ ?_ ?_ _ _ (S'.1.trans kd) fz (by rw [← az]) (S'.2.2.1.trans pe1) g'
  ·refine Array.perm_iff_toList_perm.mpr ?_
   have e9 : (r.toList ++ (B2 ++ S)).Perm (A2 ++ B1 ++ (B2 ++ S)) := O2.append_right _
   rw [pu, hL]
   have f1 : P ++ A1 ++ r.toList ++ (B2 ++ S) = P ++ (A1 ++ (r.toList ++ (B2 ++ S))) := by simp only [List.append_assoc]
   have f2 : P ++ (A1 ++ A2 ++ (B1 ++ B2)) ++ S = P ++ (A1 ++ (A2 ++ B1 ++ (B2 ++ S))) := by simp only [List.append_assoc]
   rw [f1, f2]
   exact (e9.append_left A1).append_left P
  ·intro j hj
   refine fx_congr ?_
   rw [← Array.getElem?_toList, ← Array.getElem?_toList, pu, hL]
   simp only [List.append_assoc]
   rw [List.getElem?_append_left (by omega), List.getElem?_append_left (by omega)]
  ·intro j hj
   refine fx_congr ?_
   rw [← Array.getElem?_toList, ← Array.getElem?_toList, pu, hL]
   have e1 : P ++ A1 ++ r.toList ++ (B2 ++ S) = (P ++ A1 ++ r.toList ++ B2) ++ S := by simp only [List.append_assoc]
   rw [e1, List.getElem?_append_right (by simp only [List.length_append]; omega), List.getElem?_append_right (by simp only [List.length_append]; omega)]
   congr 1
   simp only [List.length_append]
   omega
  ·have uu : Up ϕ (A1 ++ r.toList ++ B2) := by
    rw [hA] at sA
    rw [hB] at sB
    obtain ⟨t1, t2, t3⟩ := List.pairwise_append.mp sA
    obtain ⟨t4, t5, t6⟩ := List.pairwise_append.mp sB
    have m2' : ∀ u ∈ B2, ϕ xl ≤ ϕ u := m2
    rw [hA] at upA
    rw [hB] at upB
    have mm : ∀ u ∈ r.toList, u ∈ A2 ∨ u ∈ B1 := fun u hu => List.mem_append.mp (O2.mem_iff.mp hu)
    refine List.pairwise_append.mpr ⟨List.pairwise_append.mpr ⟨t1, O1, fun u hu v hv => ?_⟩, t5, fun u hu v hv => ?_⟩
    ·rcases mm v hv with z | z
     ·exact t3 u hu v z
     ·exact Nat.le_trans (l1' u hu) (upB v (List.mem_append_left _ z))
    ·rcases List.mem_append.mp hu with z | z
     ·exact Nat.le_trans (upA u (List.mem_append_left _ z)) (m2' v hv)
     ·rcases mm u z with z' | z'
      ·exact Nat.le_trans (upA u (List.mem_append_right _ z')) (m2' v hv)
      ·exact t6 u z' v hv
   have := up_of (ϕ := ϕ) (P := P) (S := S) (a := r.toList.zipIdx.foldl (fun a (x : Keyed × Nat) => a.setIfInBounds (sa + k + x.2) x.1) (arrOf st)) (by rw [pu]; simp only [List.append_assoc]) uu
   rw [pL, show (A1 ++ r.toList ++ B2).length = na + nb by simp only [List.length_append]; omega] at this
   exact this
 by_cases c3 : na - k ≤ nd
 ·rw [if_pos c3]
  exact kasC_bind (kc_lo R kd (al' _ _) (al' _ _) u1 u2 (by rw [sz1 trivial]; omega) (by rw [sz2 trivial]; omega) q0 q1 g2 last)
 ·rw [if_neg c3]
  exact kasC_bind (kc_hi R kd (al' _ _) (al' _ _) u1 u2 (by rw [sz1 trivial]; omega) (by rw [sz2 trivial]; omega) q0 q1 g2 last)
end
end Tim
namespace Tim
open PySem PySem.W PyProof.Rows
section
variable {prog : Program} {w : World} {A : Around} {E : Value → Shared → Prop} {κ : SortKind} {ϕ : Keyed → Nat} {U : Keyed → Prop} {G : Shared → Prop}
theorem Jn.kp {a₀ : Array Keyed} {q : Nat} {l : List (Nat × Nat × Nat)} {st st' : SortSt} (J : Jn κ ϕ a₀ q l st) (K : Kp q st st') : Jn κ ϕ a₀ q l st' :=
 ⟨K.kind.trans J.kind, K.fail.trans J.fail, K.perm.trans J.perm, by rw [K.pend]; exact J.pend, J.runs.congr fun i _ h => fx_congr (K.low i h)⟩
theorem Jn.mod {a₀ : Array Keyed} {q k : Nat} {l : List (Nat × Nat × Nat)} {st : SortSt} {f : Nat × Nat × Nat → Nat × Nat × Nat} (J : Jn κ ϕ a₀ q l st) (hf : ∀ x, (f x).1 = x.1 ∧ (f x).2.1 = x.2.1) : Jn κ ϕ a₀ q (l.modify k f) (setPending st ((pendingOf st).modify k f)) :=
 ⟨J.kind, J.fail, J.perm, by show ((pendingOf st).modify _ _).toList = _; rw [Array.toList_modify, J.pend], Runs.mod hf _ J.runs⟩
theorem if_le (c : Prop) [Decidable c] (n : Nat) : (if c then n - 1 else n) ≤ n := by split <;> omega
theorem kc_two3 {α β : Type} {code : β → StateT SortSt Sem α} {T : StateT SortSt Sem α} {Q : α → SortSt → Shared → Prop} {st : SortSt} {s : Shared} (P : β → SortSt → Shared → Prop)
  (main : (∀ x st s, P x st s → kasC (model prog w) A E (code x) Q st s) → kasC (model prog w) A E T Q st s) (tail : ∀ x st s, P x st s → kasC (model prog w) A E (code x) Q st s) : kasC (model prog w) A E T Q st s := main tail
theorem kc_sort (R : Rank prog w A κ ϕ U G) {a₀ : Array Keyed} {Q : Unit → SortSt → Shared → Prop} {st : SortSt} {s : Shared} (ha : Al U a₀) (hk : kindOf st = κ) (hf : failedOf st = none) (hp : pendingOf st = #[]) (har : arrOf st = a₀) (h2 : 1 ≤ a₀.size) (g : G s)
  (h : ∀ st' s', failedOf st' = none → (arrOf st').Perm a₀ → Up ϕ (arrOf st').toList → G s' → Q () st' s') : kasC (model prog w) A E sortRuns' Q st s := by
 rw [sortRuns'_eq]
 refine kasC_bind (kasC_get ?_)
 rw [har]
 dsimp only
 have J0 : Jn κ ϕ a₀ 0 [] st := ⟨hk, hf, by rw [har], by rw [hp], rfl⟩
 refine kasC_bind (kc_mono (Q := fun c st' s' => ∃ l, c = (none, a₀.size) ∧ Jn κ ϕ a₀ a₀.size l st' ∧ G s') (kc_for (fun t c st' s' => ∃ lo l, c = (none, lo) ∧ t ≤ lo ∧ lo ≤ a₀.size ∧ Jn κ ϕ a₀ lo l st' ∧ G s')
  ⟨0, [], rfl, by omega, by omega, J0, g⟩ ?_ ?_) ?_)
 ·rintro t c st1 s1 ht ⟨lo, l, rfl, b1, b2, J1, g1⟩
  dsimp only
  by_cases c1 : lo ≥ a₀.size
  ·rw [if_pos c1]
   have : lo = a₀.size := by omega
   subst this
   exact kasC_pure ⟨l, rfl, J1, g1⟩
  rw [if_neg c1]
  have sz : (arrOf st1).size = a₀.size := J1.perm.size_eq
  refine kasC_bind (kc_count R J1.kind (ha.perm J1.perm) (by omega) (by omega) g1 fun n st2 s2 n1 n2 K2 u2 g2 => ?_)
  dsimp only
  apply kc_two3 (P := fun n3 st3 s3 => (1 ≤ n3 ∧ lo + n3 ≤ a₀.size) ∧ Kp lo st1 st3 ∧ UpTo ϕ (arrOf st3) lo (lo + n3) ∧ G s3)
  ·intro tail
   by_cases cn : n < minRun' a₀.size a₀.size 0
   rotate_left
   ·rw [if_neg cn]
    have hP : (fun n3 st3 s3 => (1 ≤ n3 ∧ lo + n3 ≤ a₀.size) ∧ Kp lo st1 st3 ∧ UpTo ϕ (arrOf st3) lo (lo + n3) ∧ G s3) n st2 s2 := ⟨by omega, K2, u2, g2⟩
    revert hP
    generalize n = n'
    exact fun hP => tail n' st2 s2 hP
   ·rw [if_pos cn]
    refine kasC_bind (kc_rule ?_)
    refine kasC_bind (kc_ins R J1.kind (ha.perm J1.perm) (by omega) (by omega) K2 u2 g2 fun st3 s3 K3 u3 g3 => ?_)
    rw [if_neg (by decide)]
    exact tail _ st3 s3 ⟨by omega, K3, u3, g3⟩
  clear n1 n2 K2 u2 g2
  rintro n3 st3 s3 ⟨hn3, K3, u3, g3⟩
  refine kasC_bind (kasC_get ?_)
  have J3 := J1.kp K3
  have done : ∀ (l' : List (Nat × Nat × Nat)) (st4 : SortSt) (s4 : Shared), Jn κ ϕ a₀ lo l' st4 → UpTo ϕ (arrOf st4) lo (lo + n3) → G s4 → ∃ lo' l, ((none : Option Unit), lo + n3) = (none, lo') ∧ t + 1 ≤ lo' ∧ lo' ≤ a₀.size ∧ Jn κ ϕ a₀ lo' l (setPending st4 ((pendingOf st4).push (lo, n3, 0))) ∧ G s4 := fun l' st4 s4 J4 u4 g4 =>
   ⟨lo + n3, l' ++ [(lo, n3, 0)], rfl, by omega, by omega, ⟨J4.kind, J4.fail, J4.perm, by show ((pendingOf st4).push (lo, n3, 0)).toList = _; rw [Array.toList_push, J4.pend], J4.runs.join ⟨rfl, hn3.1, u4, rfl⟩⟩, g4⟩
  split
  ·refine kasC_bind (kc_mono (Q := fun c st' s' => c = (none, ()) ∧ ∃ l', Jn κ ϕ a₀ lo l' st' ∧ UpTo ϕ (arrOf st') lo (lo + n3) ∧ G s') (kc_for (fun _ c st' s' => c = (none, ()) ∧ ∃ l', Jn κ ϕ a₀ lo l' st' ∧ UpTo ϕ (arrOf st') lo (lo + n3) ∧ G s') ⟨rfl, l, J3, u3, g3⟩ ?_ ?_) ?_)
   ·rintro _ c st4 s4 _ ⟨rfl, l', J4, u4, g4⟩
    refine kasC_bind (kasC_get ?_)
    split
    ·rename_i hh
     by_cases cp : (pendingOf st4).size > 1
     ·split
      ·exact kasC_pure ⟨rfl, l', J4, u4, g4⟩
      ·refine kasC_bind (kc_mgAt R ha J4 b2 (by rw [← J4.pend, Array.length_toList]; omega) g4 fun l5 st5 s5 hl5 J5 e5 g5 => ?_)
       rw [if_neg (by decide)]
       exact kasC_pure ⟨rfl, l5, J5, fun i j a1 a2 a3 => (by rw [e5 i a1, e5 j (by omega)]; exact u4 i j a1 a2 a3), g5⟩
     ·rw [if_neg cp] at hh
      cases hh
    ·exact kasC_pure ⟨rfl, l', J4, u4, g4⟩
   ·rintro c st4 s4 hh
    exact hh
   ·rintro c st4 s4 ⟨rfl, l', J4, u4, g4⟩
    dsimp only
    exact kasC_bind (kasC_modify (kasC_bind (kasC_modify (kasC_pure (done _ _ _ (J4.mod fun x => ⟨rfl, rfl⟩) u4 g4)))))
  ·exact kasC_bind (kasC_modify (kasC_pure (done l _ _ J3 u3 g3)))
 ·rintro c st1 s1 ⟨lo, l, rfl, b1, b2, J1, g1⟩
  have : lo = a₀.size := by omega
  subst this
  exact ⟨l, rfl, J1, g1⟩
 ·rintro c st1 s1 ⟨l, rfl, J1, g1⟩
  dsimp only
  refine kasC_bind (kc_mono (Q := fun c st' s' => c = (none, ()) ∧ ∃ l, l.length ≤ 1 ∧ Jn κ ϕ a₀ a₀.size l st' ∧ G s') (kc_for (fun t c st' s' => c = (none, ()) ∧ ∃ l, (l.length ≤ 1 ∨ l.length + t ≤ a₀.size) ∧ Jn κ ϕ a₀ a₀.size l st' ∧ G s') ⟨rfl, l, ?_, J1, g1⟩ ?_ ?_) ?_)
  ·have := J1.runs.le
   omega
  ·rintro t c st4 s4 ht ⟨rfl, l', hl', J4, g4⟩
   refine kasC_bind (kasC_get ?_)
   have hsz : (pendingOf st4).size = l'.length := by rw [← J4.pend, Array.length_toList]
   by_cases cp : (pendingOf st4).size ≤ 1
   ·rw [if_pos cp]
    exact kasC_pure ⟨rfl, l', by omega, J4, g4⟩
   ·rw [if_neg cp]
    refine kasC_bind (kc_mgAt R ha J4 (Nat.le_refl _) ?_ g4 fun l5 st5 s5 hl5 J5 e5 g5 => ?_)
    ·exact Nat.lt_of_le_of_lt (Nat.succ_le_succ (if_le _ _)) (by omega)
    ·rw [if_neg (by decide)]
     exact kasC_pure ⟨rfl, l5, by omega, J5, g5⟩
  ·rintro c st4 s4 ⟨rfl, l', hl', J4, g4⟩
   have := J4.runs.le
   exact ⟨rfl, l', by omega, J4, g4⟩
  ·rintro c st4 s4 ⟨rfl, l', hl', J4, g4⟩
   refine kasC_pure (h st4 s4 J4.fail J4.perm ?_ g4)
   have r4 := J4.runs
   have sz : (arrOf st4).size = a₀.size := J4.perm.size_eq
   match l', hl', r4 with
   | [], _, r4 =>
    have : 0 = a₀.size := r4
    omega
   | [x], _, r4 =>
    obtain ⟨q1, q2, q3, q4⟩ := r4
    have q4 : 0 + x.2.1 = a₀.size := q4
    have := of_up (ϕ := ϕ) (a := arrOf st4) (p := 0) (n := x.2.1) q3 (by omega)
    rw [List.drop_zero, List.take_of_length_le (by rw [Array.length_toList]; omega)] at this
    exact this
   | x :: y :: l', hl', _ => simp at hl'
end
end Tim
namespace Tim
open PySem PySem.W PyProof.Rows
structure WO (n : Nat) (lt : Nat → Nat → Bool) : Prop where
 irr : ∀ i, i < n → lt i i = false
 tr : ∀ i j k, i < n → j < n → k < n → lt i j = true → lt j k = true → lt i k = true
 ntr : ∀ i j k, i < n → j < n → k < n → lt k j = true → lt k i = true ∨ lt i j = true
noncomputable def rk (n : Nat) (lt : Nat → Nat → Bool) (i : Nat) : Nat := ((List.range n).filter fun k => lt k i).length
theorem len_filter_le {α : Type} {p q : α → Bool} : ∀ (l : List α), (∀ x ∈ l, p x = true → q x = true) → (l.filter p).length ≤ (l.filter q).length
 | [], _ => Nat.le_refl _
 | x :: l, h => by
  have ih := len_filter_le l fun y hy => h y (List.mem_cons_of_mem _ hy)
  rw [List.filter_cons, List.filter_cons]
  by_cases c : p x = true
  ·rw [if_pos c, if_pos (h x (List.mem_cons_self ..) c)]
   simpa using ih
  ·rw [if_neg c]
   split
   ·simp only [List.length_cons]
    omega
   ·exact ih
theorem len_filter_lt {α : Type} {p q : α → Bool} : ∀ (l : List α), (∀ x ∈ l, p x = true → q x = true) → (∃ x ∈ l, p x = false ∧ q x = true) → (l.filter p).length < (l.filter q).length
 | [], _, ⟨x, hx, _⟩ => nomatch hx
 | x :: l, h, ⟨y, hy, e1, e2⟩ => by
  have le := len_filter_le l fun z hz => h z (List.mem_cons_of_mem _ hz)
  rw [List.filter_cons, List.filter_cons]
  rcases List.mem_cons.mp hy with z | z
  ·subst z
   rw [if_neg (by rw [e1]; decide), if_pos e2]
   simp only [List.length_cons]
   omega
  ·have ih := len_filter_lt l (fun z hz => h z (List.mem_cons_of_mem _ hz)) ⟨y, z, e1, e2⟩
   by_cases c : p x = true
   ·rw [if_pos c, if_pos (h x (List.mem_cons_self ..) c)]
    simpa using ih
   ·rw [if_neg c]
    split
    ·simp only [List.length_cons]
     omega
    ·exact ih
theorem WO.rk_lt {n : Nat} {lt : Nat → Nat → Bool} (o : WO n lt) {i j : Nat} (hi : i < n) (hj : j < n) : decide (rk n lt i < rk n lt j) = lt i j := by
 cases c : lt i j with
 | true =>
  refine decide_eq_true (len_filter_lt _ (fun k hk h => o.tr k i j (List.mem_range.mp hk) hi hj h c) ⟨i, List.mem_range.mpr hi, o.irr i hi, c⟩)
 | false =>
  refine decide_eq_false (Nat.not_lt.mpr (len_filter_le _ fun k hk h => ?_))
  rcases o.ntr i j k hi hj (List.mem_range.mp hk) h with z | z
  ·exact z
  ·rw [c] at z
   cases z
theorem perm_map {α β : Type} {f : α → β} : ∀ {l : List β} {m : List β}, l.Perm m → ∀ q : List α, m = q.map f → ∃ q' : List α, q'.Perm q ∧ l = q'.map f := by
 intro l m h
 induction h with
 | nil =>
  intro q e
  exact ⟨q, List.Perm.refl _, e⟩
 | cons x _ ih =>
  intro q e
  match q, e with
  | y :: q, e =>
   rw [List.map_cons] at e
   injection e with e1 e2
   obtain ⟨q', h1, h2⟩ := ih q e2
   exact ⟨y :: q', h1.cons y, by rw [List.map_cons, h2, e1]⟩
 | swap x y l =>
  intro q e
  match q, e with
  | a :: b :: q, e =>
   simp only [List.map_cons] at e
   injection e with e1 e2
   injection e2 with e2 e3
   exact ⟨b :: a :: q, List.Perm.swap .., by simp only [List.map_cons]; rw [e1, e2, e3]⟩
 | trans _ _ ih1 ih2 =>
  intro q e
  obtain ⟨q2, h1, h2⟩ := ih2 q e
  obtain ⟨q3, h3, h4⟩ := ih1 q2 h2
  exact ⟨q3, h3.trans h1, h4⟩
section
variable {prog : Program} {w : World} {A : Around} {E : Value → Shared → Prop} {s : Shared}
open Classical in
noncomputable def phi (vs : List Value) (lt : Nat → Nat → Bool) (x : Keyed) : Nat := if h : ∃ i, vs[i]? = some x.1 then rk vs.length lt (Classical.choose h) else 0
theorem list_sortW {a : Addr} {vs : List Value} {lt : Nat → Nat → Bool} {κ : SortKind} {n : Nat} {P : PySem.Fin → Shared → Prop} (ho : s.heap.get? a = some (seqObj "list" vs.toArray n)) (hz : vs.length ≤ sizeLine) (o : WO vs.length lt)
  (same : ∀ i j, i < vs.length → vs[i]? = vs[j]? → ∀ k, lt k i = lt k j)
  (kd : ∀ (h6 : Heap) (Q : SortKind → Shared → Prop), (∀ b o, b ≠ a → s.heap.get? b = some o → h6.get? b = some o) → 2 ≤ vs.length → Q κ { s with heap := h6 } → wpAny (model prog w) A (keyKind' vs.toArray) Q E { s with heap := h6 })
  (ask : ∀ (h6 : Heap) (tk i j : Nat) (x y : Value) (C : Bool → Shared → Prop), (∀ b o, b ≠ a → s.heap.get? b = some o → h6.get? b = some o) → vs[i]? = some x → vs[j]? = some y → (∀ tk, C (lt i j) { s with heap := h6, toks := tk }) → wpAny (model prog w) A (keyLt' κ x y) C (fun _ _ => False) { s with heap := h6, toks := tk })
  (h : ∀ (h1 : Heap) (tk c : Nat) (p : Array Nat), Srt.Pm vs.length p → (∀ i j, i < j → j < vs.length → lt (p.getD j 0) (p.getD i 0) = false) → (∀ b o, b ≠ a → s.heap.get? b = some o → h1.get? b = some o) →
   h1.get? a = some (seqObj "list" (p.toList.map fun i => vs.getD i Value.none).toArray c) → P (.done (.ret .none)) { s with heap := h1, toks := tk }) :
  wpAny (model prog w) A (Builtin.«list.sort» ⟨[.ref a], []⟩) P E s := by
 have ha : a < s.heap.objs.size := Heap.lt_size ho
 rw [list_sort_plain]
 refine wpAny_bind (listItems_at ho rfl (wpAny_bind (listUpdate_at ho rfl ?_ (by rw [List.size_toArray]; exact hz) (Nat.zero_le _))))
 obtain ⟨e1, ho1⟩ : ∃ e1, (s.heap.update a (Obj.mapSeq fun _ => (#[] : Array Value))).get? a = some (seqObj "list" #[] e1) := ⟨_, get?_update_seq ho fun _ => #[]⟩
 have k1 : ∀ b o, b ≠ a → s.heap.get? b = some o → (s.heap.update a (Obj.mapSeq fun _ => (#[] : Array Value))).get? b = some o := fun b o hb q => (Heap.get?_update_other _ _ (Ne.symm hb)).trans q
 refine wpAny_bind (seqEpoch_at ho1 rfl (wpAny_bind (wpAny_newTuple ?_ (by show vs.length ≤ _; exact hz))))
 refine wpAny_bind (wpAny_newList ?_ (Nat.zero_le _))
 refine wpAny_holding ?_
 generalize hg : ((s.heap.update a (Obj.mapSeq fun _ => (#[] : Array Value))).push { cls := .type "tuple", data := .seq vs.toArray.toList.toArray }).push { cls := .type "list", data := .seq ([] : List Value).toArray } = h6
 have k6 : ∀ b o, b ≠ a → s.heap.get? b = some o → h6.get? b = some o := fun b o hb q => by
  rw [← hg]
  exact Heap.get?_push_of_some _ (Heap.get?_push_of_some _ (k1 b o hb q))
 have ho6 : h6.get? a = some (seqObj "list" #[] e1) := by
  rw [← hg]
  exact Heap.get?_push_of_some _ (Heap.get?_push_of_some _ ho1)
 show wpAny (model prog w) A _ P E { s with heap := h6 }
 dsimp only
 have fin : ∀ (tk : Nat) (p : Array Nat) (out : Array Value), Srt.Pm vs.length p → (∀ i j, i < j → j < vs.length → lt (p.getD j 0) (p.getD i 0) = false) → out = (p.toList.map fun i => vs.getD i Value.none).toArray →
   ∃ c, (h6.update a (Obj.mapSeq fun _ => out)).get? a = some (seqObj "list" out c) ∧ out.size ≤ sizeLine ∧ P (.done (.ret .none)) { s with heap := h6.update a (Obj.mapSeq fun _ => out), toks := tk } := fun tk p out hp hu ho' => by
  have hc := get?_update_seq ho6 fun _ => out
  refine ⟨_, hc, ?_, h _ tk _ p hp hu (fun b o hb q => (Heap.get?_update_other _ _ (Ne.symm hb)).trans (k6 b o hb q)) (by rw [← ho']; exact hc)⟩
  rw [ho', List.size_toArray, List.length_map, Array.length_toList, hp.size]
  exact hz
 have hr : vs = (List.range vs.length).map fun i => vs.getD i Value.none := by
  apply List.ext_getElem?
  intro i
  simp only [List.getElem?_map]
  by_cases hi : i < vs.length
  ·rw [List.getElem?_eq_getElem hi, List.getElem?_range hi, Option.map_some, List.getD_eq_getElem?_getD, List.getElem?_eq_getElem hi]
   rfl
  ·rw [List.getElem?_eq_none (by omega), List.getElem?_eq_none (by simp; omega)]
   rfl
 by_cases h2 : vs.toArray.size < 2
 ·rw [if_pos h2, if_pos h2]
  rw [List.size_toArray] at h2
  obtain ⟨c, f1, f2, f3⟩ := fin s.toks (List.range vs.length).toArray vs.toArray ⟨by simp, Array.Perm.refl _⟩ (fun a b hab hb => by omega) (congrArg List.toArray hr)
  refine wpAny_bind (wpAny_pure ?_)
  rw [StateT.run_pure]
  refine wpAny_bind (wpAny_pure ?_)
  have eo : (arrOf (SortSt.mk' general' (vs.toArray.zip vs.toArray) #[] 7 none)).map (·.2) = vs.toArray := by
   show (vs.toArray.zip vs.toArray).map (·.2) = vs.toArray
   apply Array.toList_inj.mp
   simp
   exact List.map_snd_zip (Nat.le_refl _)
  dsimp only
  rw [eo]
  refine wpAny_bind (seqEpoch_at ho6 rfl (wpAny_bind (listUpdate_at ho6 rfl ?_ (Nat.zero_le _) (Nat.le_succ_of_le f2))))
  simp only [bne_self_eq_false, Bool.false_eq_true, if_false]
  exact wpAny_pure f3
 ·rw [if_neg h2, if_neg h2]
  rw [List.size_toArray] at h2
  have zl : (vs.toArray.zip vs.toArray).toList = (List.range vs.length).map fun i => ((vs.getD i Value.none, vs.getD i Value.none) : Keyed) := by
   rw [Array.toList_zip]
   show vs.zip vs = _
   apply List.ext_getElem?
   intro i
   simp only [List.getElem?_map]
   by_cases hi : i < vs.length
   ·rw [List.getElem?_range hi, Option.map_some, (List.getElem?_zip_eq_some (z := (vs[i], vs[i]))).mpr ⟨List.getElem?_eq_getElem hi, List.getElem?_eq_getElem hi⟩, List.getD_eq_getElem?_getD, List.getElem?_eq_getElem hi]
    rfl
   ·rw [List.getElem?_eq_none (by simp; omega), List.getElem?_eq_none (by simp; omega)]
    rfl
  have zsz : (vs.toArray.zip vs.toArray).size = vs.length := by rw [← Array.length_toList, zl, List.length_map, List.length_range]
  have ph : ∀ (i : Nat) (x : Keyed), i < vs.length → x.1 = vs.getD i Value.none → phi vs lt x = rk vs.length lt i := fun i x hi e => by
   have hx : ∃ i, vs[i]? = some x.1 := ⟨i, by rw [e, List.getD_eq_getElem?_getD, List.getElem?_eq_getElem hi]; rfl⟩
   unfold phi
   rw [dif_pos hx]
   have hc := Classical.choose_spec hx
   generalize Classical.choose hx = j at *
   have hj : j < vs.length := (List.getElem?_eq_some_iff.mp hc).1
   have ee : vs[j]? = vs[i]? := by rw [hc, e, List.getD_eq_getElem?_getD, List.getElem?_eq_getElem hi]; rfl
   unfold rk
   congr 1
   refine List.filter_congr fun k hk => ?_
   exact same j i hj ee k
  refine wpAny_bind (kd h6 _ k6 (by omega) ?_)
  have R : Rank prog w A κ (phi vs lt) (fun x => ∃ i, i < vs.length ∧ x.1 = vs.getD i Value.none) (fun s' => ∃ tk, s' = { s with heap := h6, toks := tk }) := ⟨fun x y C s' ⟨i, hi, ei⟩ ⟨j, hj, ej⟩ ⟨tk, g⟩ k => by
   subst g
   refine ask h6 tk i j x.1 y.1 C k6 (by rw [ei, List.getD_eq_getElem?_getD, List.getElem?_eq_getElem hi]; rfl) (by rw [ej, List.getD_eq_getElem?_getD, List.getElem?_eq_getElem hj]; rfl) fun tk' => ?_
   rw [← o.rk_lt hi hj, ← ph i x hi ei, ← ph j y hj ej]
   exact k _ ⟨tk', rfl⟩⟩
  refine wpAny_bind (wpAny_mono (show kasC (model prog w) A E sortRuns' (fun _ st' s' => failedOf st' = none ∧ (arrOf st').Perm (vs.toArray.zip vs.toArray) ∧ Up (phi vs lt) (arrOf st').toList ∧ ∃ tk, s' = { s with heap := h6, toks := tk }) (SortSt.mk' κ (vs.toArray.zip vs.toArray) #[] 7 none) { s with heap := h6 } from
   kc_sort R (a₀ := vs.toArray.zip vs.toArray) (fun i x e => ?_) rfl rfl rfl rfl (by omega) ⟨s.toks, rfl⟩ fun st' s' a1 a2 a3 a4 => ⟨a1, a2, a3, a4⟩) ?_ fun _ _ e => e)
  ·have hi : i < vs.length := by
    have := (Array.getElem?_eq_some_iff.mp e).1
    omega
   rw [← Array.getElem?_toList, zl, List.getElem?_map, List.getElem?_range hi] at e
   cases e
   exact ⟨i, hi, rfl⟩
  ·rintro ⟨⟨⟩, st'⟩ s' ⟨hf', hpm, hup, tk, rfl⟩
   obtain ⟨q, hq1, hq2⟩ := perm_map (Array.perm_iff_toList_perm.mp hpm) _ zl
   have hqs : q.toArray.size = vs.length := by rw [List.size_toArray, hq1.length_eq, List.length_range]
   have hout : (arrOf st').map (·.2) = (q.toArray.toList.map fun i => vs.getD i Value.none).toArray := by
    apply Array.toList_inj.mp
    rw [Array.toList_map, hq2, List.map_map]
    rfl
   have up' : ∀ i j, i < j → j < vs.length → lt (q.toArray.getD j 0) (q.toArray.getD i 0) = false := fun i j hij hj => by
    rw [List.size_toArray] at hqs
    have gi : ∀ k (hk : k < q.length), q.toArray.getD k 0 = q[k] ∧ q[k] < vs.length := fun k hk => ⟨by rw [Array.getD_eq_getD_getElem?, List.getElem?_toArray, List.getElem?_eq_getElem hk]; rfl, List.mem_range.mp (hq1.mem_iff.mp (List.getElem_mem hk))⟩
    obtain ⟨ei, bi⟩ := gi i (by omega)
    obtain ⟨ej, bj⟩ := gi j (by omega)
    rw [ei, ej, ← o.rk_lt bj bi]
    refine decide_eq_false (Nat.not_lt.mpr ?_)
    rw [hq2] at hup
    have := List.pairwise_iff_getElem.mp (List.pairwise_map.mp hup) i j (by omega) (by omega) hij
    rw [ph _ _ bi rfl, ph _ _ bj rfl] at this
    exact this
   obtain ⟨c, f1, f2, f3⟩ := fin tk q.toArray _ ⟨hqs, Array.perm_iff_toList_perm.mpr (by simpa using hq1)⟩ up' hout
   dsimp only
   refine wpAny_bind (seqEpoch_at (s := { s with heap := h6, toks := tk }) ho6 rfl (wpAny_bind (listUpdate_at (s := { s with heap := h6, toks := tk }) ho6 rfl ?_ (Nat.zero_le _) (Nat.le_succ_of_le f2))))
   rw [hf']
   simp only [bne_self_eq_false, Bool.false_eq_true, if_false]
   exact wpAny_pure f3
end
end Tim
namespace Tim
open PySem PySem.W PyProof.Rows
structure SortAs (prog : Program) (w : World) (h1 : Heap) (vs : List Value) (lt : Nat → Nat → Bool) (κ : SortKind) : Prop where
 wo : WO vs.length lt
 same : ∀ i j, i < vs.length → vs[i]? = vs[j]? → ∀ k, lt k i = lt k j
 kd : ∀ (A : Around) (E : Value → Shared → Prop) (s : Shared) (Q : SortKind → Shared → Prop), (∀ b o, h1.get? b = some o → s.heap.get? b = some o) → 2 ≤ vs.length → Q κ s → wpAny (model prog w) A (keyKind' vs.toArray) Q E s
 ask : ∀ (A : Around) (s : Shared) (i j : Nat) (x y : Value) (C : Bool → Shared → Prop), (∀ b o, h1.get? b = some o → s.heap.get? b = some o) → vs[i]? = some x → vs[j]? = some y → (∀ tk, C (lt i j) { s with toks := tk }) → wpAny (model prog w) A (keyLt' κ x y) C (fun _ _ => False) s
section
variable {prog : Program} {w : World} {A : Around} {E : Value → Shared → Prop} {s : Shared}
theorem sorted_all {r : Addr} {Q : Value → Shared → Prop} {Pc : Heap → List Value → Prop} {lt : Nat → Nat → Bool} {κ : SortKind}
  (col : ∀ (R : List Value → Shared → Prop), (∀ h1 tk vs, (∀ b o, s.heap.get? b = some o → h1.get? b = some o) → Pc h1 vs → R vs { s with heap := h1, toks := tk }) → wpAny (model prog w) A.in1 (collect (.ref r)) R E s)
  (ord : ∀ h1 vs, (∀ b o, s.heap.get? b = some o → h1.get? b = some o) → Pc h1 vs → vs.length ≤ sizeLine ∧ SortAs prog w h1 vs lt κ)
  (fin : ∀ h1 vs h3 tk c p, Pc h1 vs → (∀ b o, s.heap.get? b = some o → h3.get? b = some o) → (∀ b o, h1.get? b = some o → h3.get? b = some o) → (∀ b o, s.heap.get? b = some o → h1.get? b = some o) → Srt.Pm vs.length p → (∀ i j, i < j → j < vs.length → lt (p.getD j 0) (p.getD i 0) = false) →
   h3.get? h1.objs.size = some (seqObj "list" (p.toList.map fun i => vs.getD i Value.none).toArray c) → s.heap.get? h1.objs.size = none → Q (.ref h1.objs.size) { s with heap := h3, toks := tk }) :
  wpAny (model prog w) A (call (.builtin "sorted") [.ref r]) Q E s := by
 refine Calls.call_function_entry kind_sorted plain_sorted entry_sorted (args_sorted1 _) ?_
 unfold Builtin.«sorted»
 refine wpAny_bind (m := checkCount "sorted" 1 1 _) (wpAny_pure ?_)
 refine wpAny_bind (col _ fun h1 tk vs hk hP => ?_)
 obtain ⟨hz, S⟩ := ord h1 vs hk hP
 refine wpAny_bind (wpAny_newList ?_ hz)
 have hB : (h1.push { cls := .type "list", data := .seq vs.toArray }).get? h1.objs.size = some (seqObj "list" vs.toArray 0) := Heap.get?_push_size _ rfl
 refine wpAny_bind (wpAny_holding (wpAny_call_entry slot_list_sort ⟨_, hB, rfl⟩ entry_list_sort ?body (args_list_sort _)))
 have k1 : ∀ {h6 : Heap}, (∀ b o, b ≠ h1.objs.size → (h1.push { cls := .type "list", data := .seq vs.toArray }).get? b = some o → h6.get? b = some o) → ∀ b o, h1.get? b = some o → h6.get? b = some o := fun k b o e => k b o (Nat.ne_of_lt (Heap.lt_size e)) (Heap.get?_push_of_some _ e)
 refine list_sortW (s := { s with heap := h1.push { cls := .type "list", data := .seq vs.toArray }, toks := tk }) hB hz S.wo S.same (fun h6 Q k h2 q => S.kd _ _ _ _ (k1 k) h2 q) (fun h6 tk' i j x y C k e1 e2 q => S.ask _ _ i j x y C (k1 k) e1 e2 fun tk2 => q tk2)
  fun h3 tk3 c p hp hs hkeep hD => ⟨_, rfl, wpAny_pure ⟨_, rfl, ?_⟩⟩
 refine fin h1 vs h3 tk3 c p hP (fun b o e => k1 hkeep b o (hk b o e)) (k1 hkeep) hk hp hs hD ?_
 cases e : s.heap.get? h1.objs.size with
 | none => rfl
 | some u => exact absurd (Heap.lt_size (hk _ _ e)) (Nat.lt_irrefl _)
def ltS (xs : List Str) (i j : Nat) : Bool := decide ((xs.getD i "").cps.toList < (xs.getD j "").cps.toList)
theorem ltS_wo (xs : List Str) (n : Nat) : WO n (ltS xs) where
 irr := fun i _ => by
  unfold ltS
  exact decide_eq_false (List.lt_irrefl _)
 tr := fun i j k _ _ _ h1 h2 => by
  unfold ltS at *
  rw [decide_eq_true_eq] at *
  exact List.lt_trans h1 h2
 ntr := fun i j k _ _ _ h => by
  unfold ltS at *
  rw [decide_eq_true_eq] at h
  rw [decide_eq_true_eq, decide_eq_true_eq]
  by_cases c : (xs.getD k "").cps.toList < (xs.getD i "").cps.toList
  ·exact .inl c
  ·exact .inr (List.lt_of_le_of_lt (List.not_lt.mp c) h)
theorem strs_at : ∀ {vs : List Value} {xs : List Str}, StrsAre vs xs → ∀ (i : Nat) (v : Value), vs[i]? = some v → ∃ t, v = .str (xs.getD i "") t ∧ xs[i]? = some (xs.getD i "")
 | _, _, .nil, i, v, h => by simp at h
 | _, _, .cons y t r, 0, v, h => by
  simp at h
  exact ⟨t, by rw [← h]; rfl, rfl⟩
 | _, _, .cons y t r, i + 1, v, h => by
  obtain ⟨t', e1, e2⟩ := strs_at r i v (by simpa using h)
  exact ⟨t', by rw [e1]; rfl, by simpa using e2⟩
theorem strs_len : ∀ {vs : List Value} {xs : List Str}, StrsAre vs xs → vs.length = xs.length
 | _, _, .nil => rfl
 | _, _, .cons y t r => by simp [strs_len r]
theorem sa_strs {h1 : Heap} {vs : List Value} {xs : List Str} (hS : StrsAre vs xs) : SortAs prog w h1 vs (ltS xs) oneType' where
 wo := ltS_wo xs _
 same := fun i j hi e k => by
  have hj : vs[j]? = some vs[i] := by rw [← e]; exact List.getElem?_eq_getElem hi
  obtain ⟨t1, e1, _⟩ := strs_at hS i _ (List.getElem?_eq_getElem hi)
  obtain ⟨t2, e2, _⟩ := strs_at hS j _ hj
  rw [e1] at e2
  injection e2 with e2 _
  unfold ltS
  rw [e2]
 kd := fun A E s Q _ h2 q => by
  match vs, hS, h2 with
  | v1 :: v2 :: vs, hS, _ =>
   rw [keyKind_strs hS]
   exact wpAny_pure q
 ask := fun A s i j x y C _ e1 e2 q => by
  obtain ⟨t1, rfl, _⟩ := strs_at hS i _ e1
  obtain ⟨t2, rfl, _⟩ := strs_at hS j _ e2
  exact kas_lt_str (q s.toks)
def PrI (h : Heap) (v : Value) (x : Str) : Prop := ∃ a o n t y, v = .ref a ∧ h.get? a = some o ∧ o.cls = .type "tuple" ∧ o.data = .seq #[.str x t, y] n
theorem PrI.keep {h h' : Heap} {v : Value} {x : Str} (p : PrI h v x) (k : ∀ b o, h.get? b = some o → h'.get? b = some o) : PrI h' v x := by
 obtain ⟨a, o, n, t, y, e, e1, e2⟩ := p
 exact ⟨a, o, n, t, y, e, k a o e1, e2⟩
theorem katTups {h : Heap} : ∀ {vs : List Value} {xs : List Str}, xs.length = vs.length → (∀ (i : Nat) (v : Value) (x : Str), vs[i]? = some v → xs[i]? = some x → PrI h v x) → ∃ fs, KatTups h vs fs ∧ fs.length = vs.length ∧ ∀ f ∈ fs, ∃ x t, f = .str x t
 | [], [], _, _ => ⟨[], trivial, rfl, fun f hf => nomatch hf⟩
 | [], _ :: _, h, _ => by cases h
 | _ :: _, [], h, _ => by cases h
 | v :: vs, x :: xs, hl, hv => by
  obtain ⟨a, o, n, t, y, rfl, ha, hc, hd⟩ := hv 0 v x rfl rfl
  obtain ⟨fs, k, l, q⟩ := katTups (vs := vs) (xs := xs) (by simpa using hl) fun i v x e1 e2 => hv (i + 1) v x e1 e2
  refine ⟨.str x t :: fs, KatTups.cons ha hc hd rfl k, by simp [l], fun f hf => ?_⟩
  rcases List.mem_cons.mp hf with z | z
  ·exact ⟨x, t, z⟩
  ·exact q f z
theorem lt_ne {x y : Str} (h : ¬ x.cps.toList < y.cps.toList) (h2 : ¬ x = y) : y.cps.toList < x.cps.toList := by
 by_cases c : y.cps.toList < x.cps.toList
 ·exact c
 ·have e := List.le_antisymm (List.not_lt.mp c) (List.not_lt.mp h)
  exact absurd (by rw [← L2.tx_eta x, ← L2.tx_eta y, e]) h2
theorem eq_self {v : Value} {Q : Bool → Shared → Prop} (h : Q true s) : wpAny (model prog w) A (eqBool v v) Q E s := by
 unfold eqBool
 refine wpAny_holding ?_
 rw [if_pos (by simp)]
 exact wpAny_bind (wpAny_rule (wpAny_pure h))
theorem sa_tups {h1 : Heap} {vs : List Value} {xs : List Str} (hl : xs.length = vs.length) (nd : xs.Nodup) (hv : ∀ (i : Nat) (v : Value) (x : Str), vs[i]? = some v → xs[i]? = some x → PrI h1 v x) : SortAs prog w h1 vs (ltS xs) (tuples' ((Value.type "str") != Value.type "tuple")) where
 wo := ltS_wo xs _
 same := fun i j hi e k => by
  have hj : vs[j]? = some vs[i] := by rw [← e]; exact List.getElem?_eq_getElem hi
  have hj2 : j < vs.length := (List.getElem?_eq_some_iff.mp hj).1
  obtain ⟨a, o, n, t, y, e1, e2, e3, e4⟩ := hv i vs[i] xs[i] (List.getElem?_eq_getElem hi) (List.getElem?_eq_getElem (by omega))
  obtain ⟨a', o', n', t', y', e1', e2', e3', e4'⟩ := hv j vs[i] xs[j] hj (List.getElem?_eq_getElem (by omega))
  rw [e1] at e1'
  cases e1'
  rw [e2] at e2'
  cases e2'
  rw [e4] at e4'
  have ex : xs[i] = xs[j] := by
   injection e4' with z1 _
   have := congrArg (fun a : Array Value => a[0]?) z1
   simp at this
   exact this.1
  unfold ltS
  rw [List.getD_eq_getElem?_getD, List.getD_eq_getElem?_getD, List.getD_eq_getElem?_getD, List.getElem?_eq_getElem (show i < xs.length by omega), List.getElem?_eq_getElem (show j < xs.length by omega), ex]
 kd := fun A E s Q k h2 q => by
  obtain ⟨fs, kt, lf, hf⟩ := katTups (h := s.heap) hl fun i v x e1 e2 => (hv i v x e1 e2).keep k
  refine kat_kind (T := .type "str") kt (by omega) (fun f m => ?_) (by decide) q
  obtain ⟨x, t, rfl⟩ := hf f m
  exact Looks.of_pure rfl
 ask := fun A s i j x y C k e1 e2 q => by
  have hi : i < vs.length := (List.getElem?_eq_some_iff.mp e1).1
  have hj : j < vs.length := (List.getElem?_eq_some_iff.mp e2).1
  obtain ⟨a1, o1, n1, t1, y1, rfl, g1, c1, d1⟩ := (hv i x xs[i] e1 (List.getElem?_eq_getElem (by omega))).keep k
  obtain ⟨a2, o2, n2, t2, y2, rfl, g2, c2, d2⟩ := (hv j y xs[j] e2 (List.getElem?_eq_getElem (by omega))).keep k
  have el : ltS xs i j = decide (xs[i].cps.toList < xs[j].cps.toList) := by
   unfold ltS
   rw [List.getD_eq_getElem?_getD, List.getD_eq_getElem?_getD, List.getElem?_eq_getElem (show i < xs.length by omega), List.getElem?_eq_getElem (show j < xs.length by omega)]
   rfl
  by_cases hij : i = j
  ·subst hij
   rw [e1] at e2
   cases e2
   rw [g1] at g2
   cases g2
   rw [el] at q
   rw [decide_eq_false (List.lt_irrefl _)] at q
   refine kat_lt g1 d1 g1 d1 ?_
   refine kat_cons (eq_self (kat_yes (kat_cons (eq_self (kat_yes (kat_nil ?_))))))
   exact q s.toks
  have hne : ¬ xs[i] = xs[j] := fun z => hij ((List.getElem_inj nd).mp z)
  refine kat_lt g1 d1 g2 d2 (kat_cons (wpAny_eqBool_str ?_))
  rw [decide_eq_false hne]
  refine kat_no (kas_lt_str ?_)
  rw [← el]
  exact q s.toks
end
end Tim
namespace L2
open PySem PySem.Spec PyProof.Rows PySem.W
section
variable {prog : Program} {w : World} {A : Around} {E : Value → Shared → Prop} {s : Shared}
theorem sl_big {n : Nat} (h : n ≤ 1000) : n ≤ sizeLine := by rw [sizeLine_eq]; omega
theorem pm_up {xs : List Str} {n : Nat} {p : Array Nat} (hl : xs.length = n) (nd : xs.Nodup) (hp : Srt.Pm n p) (h : ∀ i j, i < j → j < n → Tim.ltS xs (p.getD j 0) (p.getD i 0) = false) : Srt.Up (ltX xs) p n := fun i j hij hj => by
 have h1 := h i j hij hj
 have bi := hp.below (show i < n by omega)
 have bj := hp.below hj
 have ne := hp.ne (show i < n by omega) hj (by omega)
 unfold Tim.ltS at h1
 unfold ltX
 rw [decide_eq_false_iff_not] at h1
 rw [decide_eq_true_eq]
 refine Tim.lt_ne h1 fun e => ne ?_
 rw [getD_at (by omega), getD_at (by omega)] at e
 exact ((List.getElem_inj nd).mp e).symm
theorem list_sortT2 {a : Addr} {vs : List Value} {xs : List Str} {n : Nat} {P : PySem.Fin → Shared → Prop} (ho : s.heap.get? a = some (seqObj "list" vs.toArray n)) (h1k : vs.length ≤ 1000) (hl : xs.length = vs.length) (nd : xs.Nodup)
  (hv : ∀ (i : Nat) (v : Value) (x : Str), vs[i]? = some v → xs[i]? = some x → PrIn s.heap v x)
  (h : ∀ (h1 : Heap) (tk c : Nat) (p : Array Nat), Srt.Pm xs.length p → Srt.Up (ltX xs) p xs.length → (∀ b o, b ≠ a → s.heap.get? b = some o → h1.get? b = some o) →
   h1.get? a = some (seqObj "list" (p.toList.map fun i => vs.getD i Value.none).toArray c) → P (.done (.ret .none)) { s with heap := h1, toks := tk }) :
  wpAny (model prog w) A (Builtin.«list.sort» ⟨[.ref a], []⟩) P E s := by
 have hv6 : ∀ {h6 : Heap}, (∀ b o, b ≠ a → s.heap.get? b = some o → h6.get? b = some o) → ∀ (i : Nat) (v : Value) (x : Str), vs[i]? = some v → xs[i]? = some x → Tim.PrI h6 v x := fun {h6} k6 i v x q1 q2 => by
  obtain ⟨b, t, y, rfl, hb⟩ := hv i v x q1 q2
  exact ⟨b, _, _, t, y, rfl, k6 b _ (fun z => by rw [z, ho] at hb; injection hb with hb; exact absurd (congrArg Obj.cls hb) (by unfold seqObj; simp)) hb, rfl, rfl⟩
 have hv0 : ∀ (i : Nat) (v : Value) (x : Str), vs[i]? = some v → xs[i]? = some x → Tim.PrI s.heap v x := fun i v x q1 q2 => by
  obtain ⟨b, t, y, rfl, hb⟩ := hv i v x q1 q2
  exact ⟨b, _, _, t, y, rfl, hb, rfl, rfl⟩
 refine Tim.list_sortW ho (sl_big h1k) (Tim.ltS_wo xs _) (Tim.sa_tups (prog := prog) (w := w) hl nd hv0).same (fun h6 Q k h2 q => (Tim.sa_tups (h1 := h6) hl nd (hv6 k)).kd _ _ _ _ (fun b o e => e) h2 q) (fun h6 tk i j x y C k e1 e2 q => (Tim.sa_tups (h1 := h6) hl nd (hv6 k)).ask _ _ i j x y C (fun b o e => e) e1 e2 fun tk2 => q tk2)
  fun h1 tk c p hp hs k hD => h h1 tk c p (hl ▸ hp) (by rw [hl]; exact pm_up hl nd hp hs) k hD
end
theorem call_sortedI2 {X : Cx} (hc : X.calm = true) : CallR X (.builtin "sorted") (fun xs H Q => ∃ (p d : Addr) (ks : List Str) (g : Str → V), xs = [.ref p] ∧ H p = some (ivO p d) ∧ H d = some (.dK (ks.map fun x => ((Sum.inr x : Key), g x))) ∧ ks.Nodup ∧ ks.length ≤ 1000 ∧
  ∀ (D : Addr) (H1 : Hp) (vs : List V) (ss : List Str), Same H H1 → ss.Perm ks → (ss.map fun x => x.cps.toList).Pairwise (· < ·) → H1 D = some (.lst vs) → vs.length = ss.length →
   (∀ (i : Nat) (x : Str), ss[i]? = some x → ∃ b, vs[i]? = some (.ref b) ∧ H1 b = some (.tup [.str x, g x])) → Q (.ref D) H1) := by
 intro pins s σ H xs us Q I r h
 obtain ⟨p, d, ks, g, rfl, hp, hd, nd, h1k, q⟩ := h
 obtain ⟨u, rfl, ru⟩ := vals1 r
 cases ru
 have hview : s.heap.IsItemsView p d := (I.hok p _ hp).1
 obtain ⟨hz, lo, vs', kv, dd⟩ := dk_of I.hok hd
 obtain ⟨ep, hat⟩ := dd.dictAt
 have hlen : ks.length = vs'.length := by have := kv.length; simpa using this
 have hsz : vs'.length ≤ sizeLine := by rw [sizeLine_eq]; omega
 refine Calls.call_function_entry kind_sorted plain_sorted entry_sorted (args_sorted1 _) ?_
 unfold Builtin.«sorted»
 refine wpAny_bind (m := checkCount "sorted" 1 1 _) (wpAny_pure ?_)
 refine wpAny_bind (kdx_collect (A := X.A.in1) (knd := mixKind X.prog X.w) (kvs := vs') (ep := ep) (I.ok.hd hc) hview hat hsz fun h1 tk as hk hl hG => ?_)
 refine wpAny_bind (wpAny_newList ?_ (by rw [List.length_map, hl]; exact hsz))
 have pr : ∀ (i : Nat), i < ks.length → ∃ a t y, as[i]? = some a ∧ RelV (g (ks.getD i "")) y ∧ h1.get? a = some { cls := .type "tuple", data := .seq #[.str (ks.getD i "") t, y] } := fun i hi => by
  have hi2 : i < as.length := by omega
  obtain ⟨key, k, x, e1, e2, e3⟩ := hG.pairs i as[i] (List.getElem?_eq_getElem hi2)
  have ek := congrArg (fun l : List Key => l[i]?) kv.keys
  simp only [List.getElem?_map] at ek
  rw [e1, List.getElem?_eq_getElem hi] at ek
  have ek' : (Sum.inr ks[i] : Key) = k := Option.some.inj ek
  have ev : RelV (g ks[i]) x := by
   have key : ∀ {l1 : List (Key × V)} {l2 : List (Key × Value)} (i : Nat) (p : Key × V) (q : Key × Value), Paired (fun (p : Key × V) (q : Key × Value) => p.1 = q.1 ∧ RelV p.2 q.2) l1 l2 → l1[i]? = some p → l2[i]? = some q → RelV p.2 q.2 := by
    intro l1 l2 i p q hP
    induction hP generalizing i with
    | nil => intro e; simp at e
    | cons r t ih =>
     intro e1 e2
     cases i with
     | zero =>
      simp at e1 e2
      subst e1 e2
      exact r.2
     | succ i => exact ih i (by simpa using e1) (by simpa using e2)
   exact key i (Sum.inr ks[i], g ks[i]) (k, x) kv (by rw [List.getElem?_map, List.getElem?_eq_getElem hi]; rfl) e1
  subst ek'
  rcases keyIs_shape (show keyIs (Sum.inr ks[i]) key = true from e2) with ⟨j, t, e4, _⟩ | ⟨z, t, e4, e5⟩
  ·cases e4
  ·injection e4 with e4
   subst e4
   refine ⟨as[i], t, x, List.getElem?_eq_getElem hi2, by rw [getD_at hi]; exact ev, ?_⟩
   rw [e3, e5, getD_at hi]
 have hB : (h1.push { cls := .type "list", data := .seq (as.map Value.ref).toArray }).get? h1.objs.size = some (seqObj "list" (as.map Value.ref).toArray 0) := Heap.get?_push_size _ rfl
 refine wpAny_bind (wpAny_holding (wpAny_call_entry slot_list_sort ⟨_, hB, rfl⟩ entry_list_sort ?body (args_list_sort _)))
 refine list_sortT2 (s := { s with heap := h1.push { cls := .type "list", data := .seq (as.map Value.ref).toArray }, toks := tk }) (xs := ks) hB (by rw [List.length_map]; omega) (by rw [List.length_map]; omega) nd (fun i v x e1 e2 => ?_) fun h3 tk3 c pm hpm hup hkeep hD => ⟨_, rfl, wpAny_pure ⟨_, rfl, ?_⟩⟩
 ·have hi : i < ks.length := (List.getElem?_eq_some_iff.mp e2).1
  obtain ⟨a, t, y, f1, _, f3⟩ := pr i hi
  rw [List.getElem?_map, f1] at e1
  cases e1
  have ex : ks.getD i "" = x := by rw [List.getD_eq_getElem?_getD, e2]; rfl
  rw [ex] at f3
  exact ⟨a, t, y, rfl, Heap.get?_push_of_some _ f3⟩
 ·have hold : ∀ b u, s.heap.get? b = some u → h3.get? b = some u := fun b u e => hkeep b u (Nat.ne_of_lt (Heap.lt_size (hk b u e))) (Heap.get?_push_of_some _ (hk b u e))
  have hDn : s.heap.get? h1.objs.size = none := by
   cases z : s.heap.get? h1.objs.size with
   | none => rfl
   | some u => exact absurd (Heap.lt_size (hk _ u z)) (Nat.lt_irrefl _)
  have tup3 : ∀ (i : Nat), i < ks.length → ∃ a t y, as[i]? = some a ∧ RelV (g (ks.getD i "")) y ∧ s.heap.get? a = none ∧ a ≠ h1.objs.size ∧ h3.get? a = some { cls := .type "tuple", data := .seq #[.str (ks.getD i "") t, y] } := fun i hi => by
   obtain ⟨a, t, y, f1, f2, f3⟩ := pr i hi
   have ne : a ≠ h1.objs.size := Nat.ne_of_lt (Heap.lt_size f3)
   exact ⟨a, t, y, f1, f2, Heap.get?_none_of_le (Nat.le_of_lt (hG.above a (List.mem_of_getElem? f1))), ne, hkeep a _ ne (Heap.get?_push_of_some _ f3)⟩
  have asnd : as.Nodup := hG.rise.imp fun {a b} z e => by subst e; exact Nat.lt_irrefl _ z
  let N : Addr → Option HO := fun b => if b = h1.objs.size then some (.lst (pm.toList.map fun i => V.ref (as.getD i 0))) else (as.idxOf? b).map fun i => .tup [.str (ks.getD i ""), g (ks.getD i "")]
  have hND : N h1.objs.size = some (.lst (pm.toList.map fun i => V.ref (as.getD i 0))) := if_pos rfl
  have hNt : ∀ (i : Nat), i < ks.length → ∃ a, as[i]? = some a ∧ N a = some (.tup [.str (ks.getD i ""), g (ks.getD i "")]) := fun i hi => by
   obtain ⟨a, t, y, f1, f2, f3, f4, f5⟩ := tup3 i hi
   refine ⟨a, f1, ?_⟩
   show (if a = h1.objs.size then _ else _) = _
   rw [if_neg f4]
   have hi2 : i < as.length := (List.getElem?_eq_some_iff.mp f1).1
   have e : as.idxOf? a = some i := by
    rw [List.idxOf?_eq_some_iff]
    refine ⟨hi2, by rw [List.getElem?_eq_getElem hi2] at f1; simpa using Option.some.inj f1, fun j hj => ?_⟩
    intro z
    have e1 : as[j]'(by omega) = as[i] := by rw [List.getElem?_eq_getElem hi2] at f1; rw [Option.some.inj f1]; simpa using z
    exact absurd ((List.getElem_inj asnd).mp e1) (by omega)
   rw [e]
   rfl
  have hNall : ∀ a o, N a = some o → s.heap.get? a = none ∧ ∀ H2, ObjOk X.prog X.w H2 h3 a o := fun a o e => by
   by_cases ha : a = h1.objs.size
   ·subst ha
    rw [hND] at e
    cases e
    refine ⟨hDn, fun H2 => ⟨?_, pm.toList.map (fun i => Value.ref (as.getD i 0)), c, ?_, ?_⟩⟩
    ·rw [List.length_map, Array.length_toList, hpm.size, sizeLine_eq]
     omega
    ·have gen : ∀ l : List Nat, Vals (l.map fun i => V.ref (as.getD i 0)) (l.map fun i => Value.ref (as.getD i 0)) := by
      intro l
      induction l with
      | nil => exact .nil
      | cons i l ih => exact .cons rfl ih
     exact gen _
    ·rw [hD]
     have el : (List.map (fun i => (List.map Value.ref as).getD i Value.none) pm.toList) = pm.toList.map fun i => Value.ref (as.getD i 0) := by
      refine List.map_congr_left fun i hi => ?_
      have hi' : i < as.length := by
       have : i ∈ pm := by simpa using hi
       have := hpm.perm.mem_iff.mp this
       have : i < ks.length := by simpa using this
       omega
      rw [List.getD_eq_getElem?_getD, List.getElem?_map, List.getElem?_eq_getElem hi', List.getD_eq_getElem?_getD, List.getElem?_eq_getElem hi']
      rfl
     rw [el]
   ·have e' : (as.idxOf? a).map (fun i => HO.tup [.str (ks.getD i ""), g (ks.getD i "")]) = some o := by
     have : (if a = h1.objs.size then some (HO.lst (pm.toList.map fun i => V.ref (as.getD i 0))) else (as.idxOf? a).map fun i => HO.tup [.str (ks.getD i ""), g (ks.getD i "")]) = some o := e
     rw [if_neg ha] at this
     exact this
    cases hx : as.idxOf? a with
    | none => rw [hx] at e'; cases e'
    | some i =>
     rw [hx] at e'
     cases e'
     obtain ⟨hi, hai, _⟩ := List.idxOf?_eq_some_iff.mp hx
     have hi' : i < ks.length := by omega
     obtain ⟨a', t, y, f1, f2, f3, f4, f5⟩ := tup3 i hi'
     rw [List.getElem?_eq_getElem hi] at f1
     have ea : a = a' := by rw [← Option.some.inj f1]; simpa using hai.symm
     subst ea
     refine ⟨f3, fun H2 => ⟨by show 2 ≤ sizeLine; rw [sizeLine_eq]; decide, [.str (ks.getD i "") t, y], .cons ⟨t, rfl⟩ (.cons f2 .nil), ⟨⟨_, f5, rfl, _, rfl⟩, fun o e => by rw [f5] at e; cases e; rfl⟩⟩⟩
  refine ⟨.ref h1.objs.size, _, I.laidN (N := N) (tk := tk3) hold hNall, rfl, ?_⟩
  have hsame : Same H fun b => (N b).or (H b) := fun b u e => by
   obtain ⟨v, hv⟩ := (I.hok b u e).there'
   have : N b = none := by
    cases z : N b with
    | none => rfl
    | some o => rw [(hNall b o z).1] at hv; cases hv
   show (N b).or (H b) = some u
   rw [this, Option.none_or]
   exact e
  refine q _ _ (pm.toList.map fun i => V.ref (as.getD i 0)) (pm.toList.map fun i => ks.getD i "") hsame (perm_getD ks pm hpm) ?_ (by rw [hND]; rfl) (by rw [List.length_map, List.length_map]) fun i x e => ?_
  ·rw [List.map_map, List.pairwise_map, List.pairwise_iff_getElem]
   intro i j hi hj hij
   have hz2 : pm.toList.length = ks.length := by rw [Array.length_toList, hpm.size]
   have hu := hup i j hij (by omega)
   unfold ltX at hu
   rw [decide_eq_true_eq] at hu
   have g1 : pm.getD i 0 = pm.toList[i] := by rw [Array.getD_eq_getD_getElem?, Array.getElem?_eq_getElem (by simpa using hi)]; simp
   have g2 : pm.getD j 0 = pm.toList[j] := by rw [Array.getD_eq_getD_getElem?, Array.getElem?_eq_getElem (by simpa using hj)]; simp
   rw [g1, g2] at hu
   exact hu
  ·rw [List.getElem?_map] at e
   cases ep : pm.toList[i]? with
   | none => rw [ep] at e; cases e
   | some k =>
    rw [ep] at e
    have ex : ks.getD k "" = x := Option.some.inj e
    have hkm : k ∈ pm := by simpa using List.mem_of_getElem? ep
    have hkl : k < ks.length := by simpa using hpm.perm.mem_iff.mp hkm
    obtain ⟨a, f1, f2⟩ := hNt k hkl
    refine ⟨a, ?_, ?_⟩
    ·rw [List.getElem?_map, ep, Option.map_some, List.getD_eq_getElem?_getD, f1]
     rfl
    ·show (N a).or (H a) = _
     rw [f2, Option.some_or, ex]
theorem one_new {X : Cx} {pins : List (Addr × Obj)} {σ : St} {H : Hp} {s : Shared} {h3 : Heap} {tk : Nat} {D : Addr} {vs : List V} (I : Inv X pins σ H s) (k : ∀ b u, s.heap.get? b = some u → h3.get? b = some u) (hD : s.heap.get? D = none) (hz : vs.length ≤ sizeLine)
  (ho : ∃ (its : List Value) (n : Nat), Vals vs its ∧ h3.get? D = some { cls := .type "list", data := .seq its.toArray n }) : H D = none ∧ Inv X pins σ (upd H D (.lst vs)) { s with heap := h3, toks := tk } := by
 have hn : H D = none := by
  cases e : H D with
  | none => rfl
  | some u =>
   obtain ⟨v, hv⟩ := (I.hok D u e).there'
   rw [hD] at hv
   cases hv
 refine ⟨hn, ?_⟩
 have := I.laidN (N := fun b => if b = D then some (.lst vs) else none) (tk := tk) k fun a o e => by
  by_cases c : a = D
  ·subst c
   rw [if_pos rfl] at e
   cases e
   exact ⟨hD, fun H2 => ⟨hz, ho⟩⟩
  ·rw [if_neg c] at e
   cases e
 have e : (fun b => (if b = D then some (HO.lst vs) else none).or (H b)) = upd H D (.lst vs) := by
  funext b
  by_cases c : b = D
  ·subst c
   rw [if_pos rfl, Option.some_or, upd_same]
  ·rw [if_neg c, Option.none_or, upd_ne c]
 rw [e] at this
 exact this
theorem perm_getD' {α : Type} {d : α} (ks : List α) (p : Array Nat) (hp : Srt.Pm ks.length p) : (p.toList.map fun i => ks.getD i d).Perm ks := by
 have h1 := (Array.perm_iff_toList_perm.mp hp.perm).map fun i => ks.getD i d
 have h2 : ((List.range ks.length).toArray.toList.map fun i => ks.getD i d) = ks := by
  apply List.ext_getElem?
  intro i
  simp only [List.getElem?_map]
  by_cases hi : i < ks.length
  ·rw [List.getElem?_range hi, List.getElem?_eq_getElem hi, Option.map_some, List.getD_eq_getElem?_getD, List.getElem?_eq_getElem hi]
   rfl
  ·rw [List.getElem?_eq_none (by simp; omega), List.getElem?_eq_none (by omega)]
   rfl
 rw [h2] at h1
 exact h1
theorem pm_at {n : Nat} {p : Array Nat} (hp : Srt.Pm n p) {i : Nat} (hi : i < p.toList.length) : p.getD i 0 = p.toList[i] := by
 rw [Array.getD_eq_getD_getElem?, Array.getElem?_eq_getElem (by simpa using hi)]
 simp
theorem srt_le {xs : List Str} {p : Array Nat} (hp : Srt.Pm xs.length p) (h : ∀ i j, i < j → j < xs.length → Tim.ltS xs (p.getD j 0) (p.getD i 0) = false) : ((p.toList.map fun i => xs.getD i "").map fun x => x.cps.toList).Pairwise (· ≤ ·) := by
 rw [List.map_map, List.pairwise_map, List.pairwise_iff_getElem]
 intro i j hi hj hij
 have hz : p.toList.length = xs.length := by rw [Array.length_toList, hp.size]
 have hu := h i j hij (by omega)
 unfold Tim.ltS at hu
 rw [decide_eq_false_iff_not, pm_at hp hi, pm_at hp hj] at hu
 exact List.not_lt.mp hu
theorem pair_keys : ∀ {ks : List Str} {g : Str → V} {vs : List (Key × Value)}, KV (ks.map fun x => ((Sum.inr x : Key), g x)) vs → ∀ (i : Nat) (k : Key) (x : Value), vs[i]? = some (k, x) → k = Sum.inr (ks.getD i "") ∧ i < ks.length := by
 intro ks g vs kv i k x e
 have ek := congrArg (fun l : List Key => l[i]?) kv.keys
 simp only [List.getElem?_map] at ek
 rw [e] at ek
 cases z : ks[i]? with
 | none => rw [z] at ek; cases ek
 | some y =>
  rw [z] at ek
  refine ⟨?_, (List.getElem?_eq_some_iff.mp z).1⟩
  rw [List.getD_eq_getElem?_getD, z]
  exact (Option.some.inj ek).symm
theorem call_sortedDK {X : Cx} (hc : X.calm = true) : CallR X (.builtin "sorted") (fun xs H Q => ∃ (d : Addr) (ks : List Str) (g : Str → V), xs = [.ref d] ∧ H d = some (.dK (ks.map fun x => ((Sum.inr x : Key), g x))) ∧ ks.length ≤ 1000 ∧
  ∀ (p : Addr) (ss' : List Str), H p = none → ss'.Perm ks → (ss'.map fun x => x.cps.toList).Pairwise (· ≤ ·) → Q (.ref p) (upd H p (.lst (ss'.map V.str)))) := by
 intro pins s σ H xs us Q I r h
 obtain ⟨d, ks, g, rfl, hd, h1k, q⟩ := h
 obtain ⟨u, rfl, ru⟩ := vals1 r
 cases ru
 obtain ⟨hz, lo, vs', kv, dd⟩ := dk_of I.hok hd
 obtain ⟨ep, hat⟩ := dd.dictAt
 have hlen : ks.length = vs'.length := by have := kv.length; simpa using this
 have toS : ∀ (n : Nat) (vs : List Value) (xs : List Str), vs.length = xs.length → (∀ (i : Nat) (v : Value), vs[i]? = some v → ∃ t, v = .str (xs.getD i "") t) → StrsAre vs xs := by
  intro n vs
  induction vs with
  | nil =>
   intro xs e _
   match xs, e with
   | [], _ => exact .nil
  | cons v vs ih =>
   intro xs e hh
   match xs, e with
   | x :: xs, e =>
    obtain ⟨t, rfl⟩ := hh 0 v rfl
    exact .cons x t (ih xs (by simpa using e) fun i u z => by
     obtain ⟨t, e⟩ := hh (i + 1) u (by simpa using z)
     exact ⟨t, e⟩)
 refine Tim.sorted_all (lt := Tim.ltS ks) (κ := oneType') (Pc := fun h1 vs => StrsAre vs ks) (fun R hR => ?_) (fun h1 vs hk hP => ?_) fun h1 vs h3 tk c p hP hk k1 hk1 hp hs hD hN => ?_
 ·refine kdu_collect (A := X.A.in1) (kdl_dict lo) (I.ok.hd hc) hat (sl_big (by omega)) fun h' tk acc hk hacc => hR h' tk acc.toList hk (toS 0 _ _ (by rw [Array.length_toList, hacc.1, hlen]) fun i v e => ?_)
  obtain ⟨k, x, e1, e2⟩ := hacc.2 i v (by rw [← Array.getElem?_toList]; exact e)
  obtain ⟨ek, hi⟩ := pair_keys kv i k x e1
  subst ek
  rcases keyIs_shape (show keyIs (Sum.inr (ks.getD i "")) v = true from e2) with ⟨j, t, e4, _⟩ | ⟨z, t, e4, e5⟩
  ·cases e4
  ·injection e4 with e4
   exact ⟨t, by rw [e5, e4]⟩
 ·have := Tim.strs_len hP
  exact ⟨sl_big (by omega), Tim.sa_strs hP⟩
 ·have hl := Tim.strs_len hP
  have hp' : Srt.Pm ks.length p := by rw [← hl]; exact hp
  have vv : ∀ l : List Nat, (∀ i ∈ l, i < ks.length) → Vals ((l.map fun i => ks.getD i "").map V.str) (l.map fun i => vs.getD i Value.none) := by
   intro l
   induction l with
   | nil => intro _; exact .nil
   | cons i l ih =>
    intro hh
    have hi : i < vs.length := by have := hh i (List.mem_cons_self ..); omega
    obtain ⟨t, e, _⟩ := Tim.strs_at hP i _ (List.getElem?_eq_getElem hi)
    refine .cons ?_ (ih fun j hj => hh j (List.mem_cons_of_mem _ hj))
    show RelV (V.str (ks.getD i "")) (vs.getD i Value.none)
    rw [List.getD_eq_getElem?_getD (l := vs), List.getElem?_eq_getElem hi]
    exact ⟨t, e⟩
  have hmem : ∀ i ∈ p.toList, i < ks.length := fun i hi => by
   have : i ∈ p := by simpa using hi
   have := hp'.perm.mem_iff.mp this
   simpa using this
  obtain ⟨hn, I2⟩ := one_new (tk := tk) (vs := (p.toList.map fun i => ks.getD i "").map V.str) I hk hN (by rw [List.length_map, List.length_map, Array.length_toList, hp'.size]; exact sl_big h1k) ⟨_, c, vv p.toList hmem, hD⟩
  exact ⟨.ref h1.objs.size, _, I2, rfl, q _ _ hn (perm_getD' ks p hp') (srt_le hp' (by rw [← hl]; exact hs))⟩
theorem call_sortedTL {X : Cx} : CallR X (.builtin "sorted") (fun xs H Q => ∃ (a : Addr) (rs : List (Addr × Str)), xs = [.ref a] ∧ SqL X.K H a (rs.map fun r => V.ref r.1) ∧ (∀ r ∈ rs, ∃ y, H r.1 = some (.tup [.str r.2, y])) ∧ (rs.map (·.2)).Nodup ∧ rs.length ≤ 1000 ∧
  ∀ (p : Addr) (rs' : List (Addr × Str)), H p = none → rs'.Perm rs → (rs'.map fun r => r.2.cps.toList).Pairwise (· < ·) → Q (.ref p) (upd H p (.lst (rs'.map fun r => V.ref r.1)))) := by
 intro pins s σ H xs us Q I r h
 obtain ⟨a, rs, rfl, hq, ht, nd, h1k, q⟩ := h
 obtain ⟨u, rfl, ru⟩ := vals1 r
 cases ru
 obtain ⟨its, rv, pl, hz⟩ := I.list hq
 have hl := rv.length
 rw [List.length_map] at hl
 have iat : ∀ (i : Nat) (hi : i < rs.length), its[i]? = some (.ref rs[i].1) := fun i hi => by
  obtain ⟨u', hu, ru⟩ := rv.get (show (rs.map fun r => V.ref r.1)[i]? = some (V.ref rs[i].1) by rw [List.getElem?_map, List.getElem?_eq_getElem hi]; rfl)
  rw [hu]
  exact congrArg some ru
 have pr : ∀ (i : Nat) (v : Value) (x : Str), its[i]? = some v → (rs.map (·.2))[i]? = some x → Tim.PrI s.heap v x := fun i v x e1 e2 => by
  have hi : i < rs.length := by have := (List.getElem?_eq_some_iff.mp e1).1; omega
  rw [iat i hi] at e1
  cases e1
  rw [List.getElem?_map, List.getElem?_eq_getElem hi] at e2
  cases e2
  obtain ⟨y, hy⟩ := ht rs[i] (List.getElem_mem hi)
  obtain ⟨_, jts, rj, ⟨o, g1, g2, n, g3⟩, _⟩ := (show ObjOk X.prog X.w H s.heap rs[i].1 (.tup [.str rs[i].2, y]) from I.hok _ _ hy)
  obtain ⟨u1, u2, ej, r1, r2⟩ := vals2 rj
  obtain ⟨t, rfl⟩ := r1
  exact ⟨rs[i].1, o, n, t, u2, rfl, g1, g2, by rw [g3, ej]⟩
 have hS : ∀ {h1 : Heap}, (∀ b o, s.heap.get? b = some o → h1.get? b = some o) → Tim.SortAs X.prog X.w h1 its (Tim.ltS (rs.map (·.2))) (tuples' ((Value.type "str") != Value.type "tuple")) := fun hk => Tim.sa_tups (by rw [List.length_map]; omega) nd fun i v x e1 e2 => (pr i v x e1 e2).keep hk
 refine Tim.sorted_all (lt := Tim.ltS (rs.map (·.2))) (κ := tuples' ((Value.type "str") != Value.type "tuple")) (Pc := fun h1 vs => its = vs) (fun R hR => ?_) (fun h1 vs hk hP => ?_) fun h1 vs h3 tk c p hP hk k1 hk1 hp hs hD hN => ?_
 ·exact collect_list pl.isList (hR _ s.toks its (fun b o e => (Heap.get?_update_other _ _ (Nat.ne_of_gt (Heap.lt_size e))).trans (Heap.get?_push_of_some _ e)) rfl) (sl_big (by omega))
 ·subst hP
  exact ⟨sl_big (by omega), hS hk⟩
 ·subst hP
  have hp' : Srt.Pm rs.length p := by rw [hl]; exact hp
  have vv : ∀ l : List Nat, (∀ i ∈ l, i < rs.length) → Vals ((l.map fun i => rs.getD i (0, "")).map fun r => V.ref r.1) (l.map fun i => its.getD i Value.none) := by
   intro l
   induction l with
   | nil => intro _; exact .nil
   | cons i l ih =>
    intro hh
    have hi : i < rs.length := hh i (List.mem_cons_self ..)
    refine .cons ?_ (ih fun j hj => hh j (List.mem_cons_of_mem _ hj))
    show its.getD i Value.none = Value.ref (rs.getD i (0, "")).1
    rw [List.getD_eq_getElem?_getD (l := its), iat i hi, List.getD_eq_getElem?_getD, List.getElem?_eq_getElem hi]
    rfl
  have hmem : ∀ i ∈ p.toList, i < rs.length := fun i hi => by
   have : i ∈ p := by simpa using hi
   have := hp'.perm.mem_iff.mp this
   simpa using this
  obtain ⟨hn, I2⟩ := one_new (tk := tk) (vs := (p.toList.map fun i => rs.getD i (0, "")).map fun r => V.ref r.1) I hk hN (by rw [List.length_map, List.length_map, Array.length_toList, hp'.size]; exact sl_big h1k) ⟨_, c, vv p.toList hmem, hD⟩
  refine ⟨.ref h1.objs.size, _, I2, rfl, q _ _ hn (perm_getD' rs p hp') ?_⟩
  have hup := pm_up (n := rs.length) (by rw [List.length_map]) nd hp' (by rw [hl]; exact hs)
  rw [List.map_map, List.pairwise_map, List.pairwise_iff_getElem]
  intro i j hi hj hij
  have hz2 : p.toList.length = rs.length := by rw [Array.length_toList, hp'.size]
  have hu := hup i j hij (by omega)
  unfold ltX at hu
  rw [decide_eq_true_eq, pm_at hp' hi, pm_at hp' hj] at hu
  have ge : ∀ k, k < rs.length → (rs.map fun r => r.2).getD k ("" : Str) = (rs.getD k (0, "")).2 := fun k hk => by
   rw [List.getD_eq_getElem?_getD, List.getElem?_map, List.getElem?_eq_getElem hk, List.getD_eq_getElem?_getD, List.getElem?_eq_getElem hk]
   rfl
  rw [ge _ (hmem _ (List.getElem_mem hi)), ge _ (hmem _ (List.getElem_mem hj))] at hu
  exact hu
end L2
namespace L2
open PySem PySem.Spec PyProof.Rows
theorem relaid_as {t t' : SetTable} {hs : Array Int} {n : Nat} {od : Array Nat} (h : t.relaid hs n = some (t', od)) : t'.led = t.led ∧ t'.plain = t.plain := by
 unfold SetTable.relaid SetTable.laid at h
 cases e : SetTable.layClean (SetTable.sizeAbove n - 1) hs with
 | none => rw [e] at h; cases h
 | some ow =>
  rw [e] at h
  obtain ⟨h1, _⟩ := Prod.mk.inj (Option.some.inj h)
  rw [← h1]
  exact ⟨rfl, rfl⟩
theorem relay_as (t : SetTable) (es : Array (Int × Value)) (n : Nat) : (relayAll t es n).2.1.led = t.led ∧ (t.plain = false → (relayAll t es n).2.1.plain = false) := by
 unfold relayAll
 split
 ·rename_i t' od e
  obtain ⟨e1, e2⟩ := relaid_as e
  dsimp only
  split
  ·exact ⟨e1, fun h => by rw [e2]; exact h⟩
  ·exact ⟨rfl, fun _ => rfl⟩
 ·exact ⟨rfl, fun _ => rfl⟩
theorem lay_as (t : SetTable) (es : Array (Int × Value)) (hh : Int) (x : Value) : (layNew t es hh x).2.1.led = t.led ∧ (t.plain = false → (layNew t es hh x).2.1.plain = false) := by
 unfold layNew
 split
 ·dsimp only
  unfold SetTable.orStandIn
  split
  ·exact ⟨rfl, fun h => h⟩
  ·exact ⟨rfl, fun _ => rfl⟩
 ·exact ⟨rfl, fun _ => rfl⟩
noncomputable def byT (w : World) : Bool := w.params.followText "set-order"
structure StT (prog : Program) (w : World) (h : Heap) (a : Addr) (ks : List Str) (o : Obj) (es : Array (Int × Value)) (ep : Nat) (t : SetTable) : Prop where
 ob : h.get? a = some o
 ex : o.ExactSet
 dt : o.data = .set es ep t
 el : ElemsOf (mixKind prog w) es.toList
 mem : ∀ k : Key, (∃ x, k = Sum.inr x ∧ x ∈ ks) ↔ ∃ e ∈ es.toList, (mixKind prog w).is k e.2 = true
 len : es.size = ks.length
 nd : ks.Nodup
 fits : t.fits es.size = true
 led : t.led = !byT w
 plain : ks ≠ [] → t.plain = false
def SetT (prog : Program) (w : World) (h : Heap) (a : Addr) (ks : List Str) : Prop := ∃ o es ep t, StT prog w h a ks o es ep t
section
variable {prog : Program} {w : World} {A : Around} {E : Value → Shared → Prop} {s : Shared}
theorem SetT.keep {h h' : Heap} {a : Addr} {ks : List Str} (x : SetT prog w h a ks) (k : ∀ o, h.get? a = some o → h'.get? a = some o) : SetT prog w h' a ks := by
 obtain ⟨o, es, ep, t, q⟩ := x
 exact ⟨o, es, ep, t, { q with ob := k o q.ob }⟩
noncomputable def addS (ks : List Str) (x : Str) : List Str := if x ∈ ks then ks else ks ++ [x]
theorem addS_mem {ks : List Str} {x y : Str} : y ∈ addS ks x ↔ y ∈ ks ∨ y = x := by
 unfold addS
 split
 ·rename_i c
  exact ⟨.inl, fun h => h.elim id fun e => e ▸ c⟩
 ·simp
theorem addS_nd {ks : List Str} {x : Str} (h : ks.Nodup) : (addS ks x).Nodup := by
 unfold addS
 split
 ·exact h
 ·rename_i c
  exact List.nodup_append.mpr ⟨h, by simp, fun a ha b hb e => by rw [List.mem_singleton.mp hb] at e; subst e; exact c ha⟩
theorem addS_len (ks : List Str) (x : Str) : (addS ks x).length ≤ ks.length + 1 := by
 unfold addS
 split <;> simp
theorem store_at {h : Heap} {a : Addr} {o : Obj} {es es' : Array (Int × Value)} {ep : Nat} {t t' : SetTable} (ho : h.get? a = some o) (hd : o.data = .set es ep t) : (h.update a (Obj.putSet es' t')).get? a = some { o with data := .set es' (ep + 1) t' } := by
 have := Heap.get?_update_self (Obj.putSet es' t') ho (by rw [putSet_of es' t' hd]; rfl)
 rw [putSet_of es' t' hd] at this
 exact this
theorem tail_add {gg : Bool → Sem Unit} (hgg : ∀ (b : Bool) (s₁ : Shared) (Q' : Unit → Shared → Prop), Q' () s₁ → wpAny (model prog w) A (gg b) Q' E s₁) {a : Addr} {o : Obj} {es es1 : Array (Int × Value)} {ep : Nat} {t t2 : SetTable} {ks : List Str} (ho : s.heap.get? a = some o) (hd : o.data = .set es ep t)
  (S : ∀ (h : Heap) (ob : Obj) (ep1 : Nat) (es2 : Array (Int × Value)) (t3 : SetTable), h.get? a = some ob → ob.ExactSet → ob.data = .set es2 ep1 t3 → List.Perm es2.toList es1.toList → t3.fits es2.size = true → t3.led = t2.led → (t2.plain = false → t3.plain = false) → SetT prog w h a ks) (hx : o.ExactSet) (hb : es1.size < scanBound) (hf : t2.fits es1.size = true) {wd : Bool} {R : Option Bool → Shared → Prop}
  (q : ∀ h1, Heap.SameBut a s.heap h1 → SetT prog w h1 a ks → R (some true) { s with heap := h1 }) :
  wpAny (model prog w) A (do
    storeSet a es1 t2
    if (!wd && t2.tooFull) = true then do
      gg (relayAll t2 es1 (SetTable.grown es1.size)).2.2
      storeSet a (relayAll t2 es1 (SetTable.grown es1.size)).1 (relayAll t2 es1 (SetTable.grown es1.size)).2.1
      pure (some true)
     else pure (some true)) R E s := by
 refine wpAny_bind (wpAny_storeSet_of ho hd ?_ (fits_of_scanBound hb))
 have o1 := store_at (es' := es1) (t' := t2) ho hd
 have m1 := Heap.SameBut.update s.heap a (Obj.putSet es1 t2)
 split
 ·have p := relayAll_perm t2 es1 (SetTable.grown es1.size)
  have f := relayAll_fits t2 es1 (SetTable.grown es1.size)
  obtain ⟨l1, l2⟩ := relay_as t2 es1 (SetTable.grown es1.size)
  generalize relayAll t2 es1 (SetTable.grown es1.size) = rl at p f l1 l2 ⊢
  have sz : rl.1.size = es1.size := by rw [← Array.length_toList, p.length_eq, Array.length_toList]
  refine wpAny_bind (hgg _ _ _ (wpAny_bind (wpAny_storeSet_of o1 rfl ?_ (fits_of_scanBound (by rw [sz]; exact hb)))))
  exact wpAny_pure (q _ (m1.trans (Heap.SameBut.update _ a _)) (S _ _ _ rl.1 rl.2.1 (store_at o1 rfl) hx rfl p f l1 l2))
 ·exact wpAny_pure (q _ m1 (S _ _ _ es1 t2 o1 hx rfl (List.Perm.refl _) hf rfl fun z => z))
theorem set_add {a : Addr} {ks : List Str} {x : Str} {tk : Tok} {Q : Bool → Shared → Prop} (hS : SetT prog w s.heap a ks) (hroom : ks.length + 1 < scanBound)
  (q : ∀ (r : Bool) (h1 : Heap), Heap.SameBut a s.heap h1 → SetT prog w h1 a (addS ks x) → Q r { s with heap := h1 }) : wpAny (model prog w) A (setAddHashed a (.str x tk) ((mixKind prog w).hash (Sum.inr x))) Q E s := by
 obtain ⟨o, es, ep, t, T⟩ := hS
 have hkey : (mixKind prog w).is (Sum.inr x : Key) (.str x tk) = true := mixKind_str prog w x tk
 have hb : es.size < scanBound := by rw [T.len]; omega
 unfold setAddHashed setAddHashedIn
 refine wpAny_holding (wpAny_bind (wpAny_setState_of T.ob T.dt T.fits ?_))
 dsimp only
 rw [byScan_of (knd := mixKind prog w) rfl hb T.el]
 simp only [↓reduceIte]
 unfold setAddByScan
 refine wpAny_bind (wpAny_bind (wpAny_rule (wpAny_bind (wpAny_setScan_of hkey T.ob T.dt T.fits T.el ?_))))
 cases hr : List.findIdx? (fun e => (mixKind prog w).is (Sum.inr x : Key) e.2) es.toList with
 | some j =>
  dsimp only
  obtain ⟨hj, hpj, _⟩ := List.findIdx?_eq_some_iff_getElem.mp hr
  obtain ⟨y, ey, hy⟩ := (T.mem (Sum.inr x)).mpr ⟨es.toList[j], List.getElem_mem hj, hpj⟩
  cases ey
  refine wpAny_pure (wpAny_pure ?_)
  have es0 : s = { s with heap := s.heap } := by cases s; rfl
  rw [es0]
  refine q _ s.heap (Heap.SameBut.refl a s.heap) ?_
  unfold addS
  rw [if_pos hy]
  exact ⟨o, es, ep, t, T⟩
 | none =>
  dsimp only
  have hx : x ∉ ks := fun hx => by
   obtain ⟨e, he, hp⟩ := (T.mem (Sum.inr x)).mp ⟨x, rfl, hx⟩
   have := List.findIdx?_eq_none_iff.mp hr e he
   rw [hp] at this
   cases this
  have perm := layNew_perm t es ((mixKind prog w).hash (Sum.inr x)) (.str x tk)
  have fit := layNew_fits t es ((mixKind prog w).hash (Sum.inr x)) (.str x tk)
  obtain ⟨l1, l2⟩ := lay_as t es ((mixKind prog w).hash (Sum.inr x)) (.str x tk)
  generalize layNew t es ((mixKind prog w).hash (Sum.inr x)) (.str x tk) = L at perm fit l1 l2 ⊢
  obtain ⟨es1, t1, wd, gave⟩ := L
  dsimp only at perm fit l1 l2 ⊢
  rw [Array.toList_push] at perm
  have sz1 : es1.size = ks.length + 1 := by rw [← Array.length_toList, perm.length_eq, List.length_append, Array.length_toList, T.len]; rfl
  refine wpAny_bind ?_
  have hgw : ∀ (b : Bool) (s₁ : Shared) (Q' : Unit → Shared → Prop), Q' () s₁ → wpAny (model prog w) A (match b with | true => rule "set.scan.the-table-gave-way" | false => pure ()) Q' E s₁ := fun b s₁ Q' hq => by cases b <;> first | exact wpAny_pure hq | exact wpAny_rule hq
  refine hgw gave _ _ ?_
  have mk : ∀ (t2 : SetTable), t2.led = t1.led → t2.plain = false → ∀ (h : Heap) (ob : Obj) (ep1 : Nat) (es2 : Array (Int × Value)) (t3 : SetTable), h.get? a = some ob → ob.ExactSet → ob.data = .set es2 ep1 t3 → List.Perm es2.toList es1.toList → t3.fits es2.size = true → t3.led = t2.led → (t2.plain = false → t3.plain = false) → SetT prog w h a (addS ks x) := by
   intro t2 e1 e2 h ob ep1 es2 t3 c1 c2 c3 c4 c5 c6 c7
   have pp := c4.trans perm
   refine ⟨ob, es2, ep1, t3, c1, c2, c3, (T.el.push hkey rfl).perm pp, fun k => ?_, ?_, addS_nd T.nd, c5, by rw [c6, e1, l1, T.led], fun _ => c7 e2⟩
   ·constructor
    ·rintro ⟨y, rfl, hy⟩
     rcases addS_mem.mp hy with z | z
     ·obtain ⟨e, he, hp⟩ := (T.mem (Sum.inr y)).mp ⟨y, rfl, z⟩
      exact ⟨e, pp.mem_iff.mpr (List.mem_append_left _ he), hp⟩
     ·subst z
      exact ⟨_, pp.mem_iff.mpr (List.mem_append_right _ (List.mem_singleton.mpr rfl)), hkey⟩
    ·rintro ⟨e, he, hp⟩
     rcases List.mem_append.mp (pp.mem_iff.mp he) with z | z
     ·obtain ⟨y, ey, hy⟩ := (T.mem k).mpr ⟨e, z, hp⟩
      exact ⟨y, ey, addS_mem.mpr (.inl hy)⟩
     ·rw [List.mem_singleton.mp z] at hp
      exact ⟨x, (mixKind prog w).inj _ _ _ hp hkey, addS_mem.mpr (.inr rfl)⟩
   ·rw [← Array.length_toList, c4.length_eq, Array.length_toList, sz1]
    unfold addS
    rw [if_neg hx, List.length_append]
    rfl
  split
  ·refine wpAny_bind ?_
   rw [hashByValue_scannable 8 (x := .str x tk) rfl]
   refine wpAny_pure ?_
   refine tail_add (t2 := if plainKind (.str x tk) = true then t1 else { t1 with plain := false }) hgw T.ob T.dt (mk _ rfl rfl) T.ex (by rw [sz1]; exact hroom) (SetTable.fits_plain_off fit) fun h1 m hS' => ?_
   exact wpAny_pure (q _ h1 m hS')
  ·rename_i hpl
   refine wpAny_bind (wpAny_pure ?_)
   simp only [↓reduceIte]
   refine tail_add hgw T.ob T.dt (mk t1 rfl (by simpa using hpl)) T.ex (by rw [sz1]; exact hroom) fit fun h1 m hS' => ?_
   exact wpAny_pure (q _ h1 m hS')
end
noncomputable def met (val : Nat → Str) : Nat → List Str
 | 0 => []
 | i + 1 => addS (met val i) (val i)
theorem met_len (val : Nat → Str) : ∀ i, (met val i).length ≤ i
 | 0 => Nat.le_refl _
 | i + 1 => by
  have := addS_len (met val i) (val i)
  have := met_len val i
  show (addS _ _).length ≤ _
  omega
theorem met_mem (val : Nat → Str) : ∀ i x, x ∈ met val i ↔ ∃ j, j < i ∧ val j = x
 | 0, x => by simp [met]
 | i + 1, x => by
  show x ∈ addS _ _ ↔ _
  rw [addS_mem, met_mem val i x]
  constructor
  ·rintro (⟨j, hj, e⟩ | e)
   ·exact ⟨j, by omega, e⟩
   ·exact ⟨i, by omega, e.symm⟩
  ·rintro ⟨j, hj, e⟩
   by_cases c : j = i
   ·subst c; exact .inr e.symm
   ·exact .inl ⟨j, by omega, e⟩
section
variable {prog : Program} {w : World} {A : Around} {R : Result → Shared → Prop} {J : Addr} {fp wr : List Addr} {G : Array GenState → Array GenState → Prop} {n : Nat} {P : Nat → Value → Prop} {St : Nat → Shared → Prop}
theorem upd_texts (W : WalksS prog w A.in1 J fp wr G n P St) (S : Addr) (hSf : S ∉ fp) (val : Nat → Str) (hval : ∀ i v, P i v → ∃ t, v = .str (val i) t) (hb : n + 1 < scanBound) :
  ∀ (k i : Nat) (s : Shared), n - i = k → i ≤ n → St i s → SetT prog w s.heap S (met val i) → (∀ s', Moved (S :: wr) G s s' → SetT prog w s'.heap S (met val n) → R (.ok (.ret .none)) s') →
   codeAny (model prog w) A (.builtin "set.update.loop" ⟨[.ref S, .ref J], []⟩) R s := by
 have hSw : S ∉ wr := fun h => hSf (W.sub _ h)
 have hsub : ∀ b ∈ wr, b ∈ S :: wr := fun b hb => List.mem_cons_of_mem _ hb
 intro k
 induction k with
 | zero =>
  intro i s hk hi hst hS hR
  have hin : i = n := by omega
  subst hin
  refine codeAny_builtin PyProof.Rows.F.entry_set_update_loop ?_
  rw [Around.under_plainId PyProof.Rows.F.plain_set_update_loop _]
  refine (show wpAny _ A.in1 (pyNext (.ref J) >>= _) _ _ s from wpAny_bind (W.done s _ _ hst fun s1 mv => ?_))
  exact (show wpAny _ A.in1 (ret Value.none) _ _ s1 from wpAny_pure (hR s1 (mv.mono hsub) (hS.keep fun o e => mv.heap S o hSw e)))
 | succ k ih =>
  intro i s hk hi hst hS hR
  have hlt : i < n := by omega
  refine codeAny_builtin PyProof.Rows.F.entry_set_update_loop ?_
  rw [Around.under_plainId PyProof.Rows.F.plain_set_update_loop _]
  refine (show wpAny _ A.in1 (pyNext (.ref J) >>= _) _ _ s from wpAny_bind (W.item i s _ _ hlt hst fun v s1 hP hst1 mv => ?_))
  obtain ⟨t, rfl⟩ := hval i v hP
  have hS1 : SetT prog w s1.heap S (met val i) := hS.keep fun o e => mv.heap S o hSw e
  refine (show wpAny _ A.in1 (holding [Value.str (val i) t] (setAdd S (.str (val i) t)) >>= _) _ _ s1 from wpAny_bind (wpAny_holding ?_))
  unfold setAdd
  refine wpAny_holding (wpAny_bind ((mixKind prog w).pyHash (k := (Sum.inr (val i) : Key)) (mixKind_str prog w (val i) t) ?_))
  refine set_add (s := { s1 with toks := s1.toks + 1 }) hS1 (by have := met_len val i; omega) fun r h1 sb hS2 => ?_
  refine wpAny_pure ⟨plainId_quiet PyProof.Rows.F.plain_set_update_loop _, ih (i + 1) _ (by omega) hlt (W.frame _ s1 _ _ hst1 (Nat.le_succ _) fun b hb o e => ?_) hS2 fun s2 mv2 hS3 => ?_⟩
  ·rw [sb.2 b (fun h : b = S => hSf (by rw [← h]; exact hb))]; exact e
  ·refine hR s2 (Moved.trans W.gtrans ((mv.mono hsub).then_heap (Nat.le_succ _) fun b o hb e => ?_) mv2) hS3
   rw [sb.2 b (fun h : b = S => hb (by rw [h]; exact List.mem_cons_self))]; exact e
end
section
variable {prog : Program} {w : World} {A : Around} {E : Value → Shared → Prop} {s : Shared}
theorem new_set (a : Value) {Q1 : Value → Shared → Prop}
  (q : Q1 (.ref s.heap.objs.size) { s with heap := s.heap.push { cls := .type "set", dict := none, data := .set #[] 0 (.fresh 0 0 (!byT w)) } }) :
  codeAny (model prog w) A (.call (.builtin "set.__new__") ⟨[.type "set", a], []⟩) (wants Q1 E) s := by
 refine codeAny_of_tree ?_
 refine (show wpAny _ A.in1 (do checkBuiltinCall "set.__new__" ⟨[.type "set", a], []⟩; again (.builtin "set.__new__" ⟨[.type "set", a], []⟩)) _ _ s from wpAny_bind (wpAny_of_eq (PySem.F.newCall_set_1 a) (wpAny_pure ⟨plainId_quiet PySem.F.plain_set_new _, codeAny_builtin PySem.F.entry_set_new ?_⟩)))
 rw [Around.under_plainId PySem.F.plain_set_new _]
 unfold Builtin.«set.__new__» Builtin.Frozenset.newClass
 have hsub := sub_set_self
 obtain ⟨hp, gg, dd, tk, os⟩ := s
 dsimp only
 wp_walk
 refine wpAny_askSetting (wpAny_pure ?_)
 dsimp only
 simp only [newObj]
 exact wpAny_bind (wpAny_alloc (wpAny_pure (wpAny_pure q)))
theorem fresh_set {h : Heap} {a : Addr} (e : h.get? a = some { cls := .type "set", dict := none, data := .set #[] 0 (.fresh 0 0 (!byT w)) }) : SetT prog w h a [] :=
 ⟨_, #[], 0, _, e, ⟨rfl, rfl, rfl⟩, rfl, fun e he => by simp at he, fun k => by simp, rfl, List.nodup_nil, by rfl, rfl, fun z => absurd rfl z⟩
set_option maxHeartbeats 3200000 in
theorem call_setS {l : Addr} {items : Array Value} {ss : List Str} {Q : Value → Shared → Prop} (hh : A.handled = none) (hl : s.heap.IsList l items) (hi : StrsAre items.toList ss) (hb : items.size + 1 < scanBound)
  (q : ∀ (h1 : Heap) (tk : Nat), SetT prog w h1 s.heap.objs.size (met (fun i => ss.getD i "") items.size) → (∀ b o, s.heap.get? b = some o → h1.get? b = some o) → Q (.ref s.heap.objs.size) { s with heap := h1, toks := tk }) :
  wpAny (model prog w) A (call (.type "set") [.ref l]) Q E s := by
 obtain ⟨c, tl, hmro⟩ := PySem.F.called_set.mro
 have hmade := PySem.F.called_set.made
 have hsub := PySem.F.called_set.sub
 refine wpAny_call (codeAny_of_tree ?_)
 refine (show wpAny _ _ (callAny (.type "set") _) _ _ _ from wpAny_pure ⟨Code.quiet_builtin _ (by decide +kernel), codeAny_builtin PySem.F.entry_type_call ?_⟩)
 rw [Around.under_plain (weight_type_call_type "set" [.ref l] []) rfl]
 have h1 := PySem.F.called_set.notType
 have h2 := PySem.F.called_set.canCreate
 have hct := PySem.F.typeCall_set_1 (.ref l)
 repeat (any_goals (first | assumption | wp_step))
 refine codeAny_mono (new_set (.ref l) (E := E) (Q1 := fun obj s1 => obj = .ref s.heap.objs.size ∧ s1 = { s with heap := s.heap.push { cls := .type "set", dict := none, data := .set #[] 0 (.fresh 0 0 (!byT w)) } }) ⟨rfl, rfl⟩) fun r s1 hr => ?_
 cases r with
 | error e => exact hr
 | ok fl =>
  cases fl with
  | ret obj =>
   obtain ⟨rfl, rfl⟩ := hr
   have gS : (s.heap.push { cls := .type "set", dict := none, data := .set #[] 0 (.fresh 0 0 (!byT w)) }).get? s.heap.objs.size = some { cls := .type "set", dict := none, data := .set #[] 0 (.fresh 0 0 (!byT w)) } := Heap.get?_push_size _ rfl
   have hT : Shared.TypeIs { s with heap := s.heap.push { cls := .type "set", dict := none, data := .set #[] 0 (.fresh 0 0 (!byT w)) } } (.ref s.heap.objs.size) "set" := ⟨_, gS, rfl⟩
   have hli := PySem.F.called_set.init.lookup
   have hbi := PySem.F.called_set.init.bind (.ref s.heap.objs.size)
   repeat (any_goals (first | assumption | wp_step))
   refine codeAny_mono (codeAny_call_builtin (R := wants (fun r s2 => r = .none ∧ ∃ g tk, s2 = { s with heap := g, toks := tk } ∧ SetT prog w g s.heap.objs.size (met (fun i => ss.getD i "") items.size) ∧ (∀ b o, s.heap.get? b = some o → g.get? b = some o)) E) PySem.F.called_set.init.plain PySem.F.entry_set_init (check_set_init_1 hT ?_)) fun r2 s2 hr2 => ?_
   ·obtain ⟨ol, hol, hcl, nl, hdl⟩ := hl
    obtain ⟨ocls, odict, odata, oslots⟩ := ol
    simp only at hcl hdl
    subst hcl; subst hdl
    have hol' : (s.heap.push { cls := .type "set", dict := none, data := .set #[] 0 (.fresh 0 0 (!byT w)) }).get? l = some { cls := .type "list", dict := odict, data := .seq items nl, slots := oslots } := Heap.get?_push_of_some _ hol
    have hsls := PySem.F.sub_list_set
    have hslf := PySem.F.sub_list_frozenset
    have hne : (Value.type "list" == Value.type "dict") = false := by decide
    have hl1 : (s.heap.push { cls := .type "set", dict := none, data := .set #[] 0 (.fresh 0 0 (!byT w)) }).IsList l items := ⟨_, hol', rfl, nl, rfl⟩
    unfold Builtin.«set.__init__» noKeywords Builtin.Frozenset.updateFrom
    generalize hPI : pyIter = PI
    wp_walk
    subst hPI
    refine wpAny_pyIter_list hl1 (wpAny_bind (wpAny_runValue ?_))
    have hlS : l < s.heap.objs.size := Heap.lt_size hol
    have hh3 : A.in1.in1.in1.handled = none := by simp [hh]
    have hneI : l ≠ (s.heap.push { cls := .type "set", dict := none, data := .set #[] 0 (.fresh 0 0 (!byT w)) }).objs.size := by
     rw [Heap.size_push]; exact Nat.ne_of_lt (Nat.lt_succ_of_lt hlS)
    have hSf : s.heap.objs.size ∉ [(s.heap.push { cls := .type "set", dict := none, data := .set #[] 0 (.fresh 0 0 (!byT w)) }).objs.size, l] := by
     rw [Heap.size_push]; simp only [List.mem_cons, List.not_mem_nil, or_false, not_or]
     exact ⟨Nat.ne_of_lt (Nat.lt_succ_self _), Nat.ne_of_gt hlS⟩
    have hval : ∀ (i : Nat) (v : Value), items[i]? = some v → ∃ t, v = .str ((fun i => ss.getD i "") i) t := fun i v hv => by
     obtain ⟨t, e, _⟩ := Tim.strs_at hi i v (by rw [Array.getElem?_toList]; exact hv)
     exact ⟨t, e⟩
    refine upd_texts ((Walks.list hh3 _ l hneI items).toS) s.heap.objs.size hSf (fun i => ss.getD i "") hval hb (items.size - 0) 0 _ (by omega) (Nat.zero_le _)
     ⟨⟨_, Heap.get?_push_size _ rfl, rfl, rfl⟩, (hl1.push _)⟩ (fresh_set (Heap.get?_push_of_some _ gS)) ?_
    intro s3 mv hS3
    obtain ⟨h3, g3, d3, t3, o3⟩ := s3
    have eg : g3 = s.gens := mv.gens
    have ed : d3 = s.drawn := mv.drawn
    have eo : o3 = s.os := mv.os
    subst eg; subst ed; subst eo
    refine wpAny_pure (show wpAny _ _ (ret Value.none) _ _ _ from wpAny_pure ⟨rfl, h3, t3, rfl, hS3, fun b o e => ?_⟩)
    have hb0 : b < s.heap.objs.size := Heap.lt_size e
    have hb2 : b ≠ (s.heap.push { cls := .type "set", dict := none, data := .set #[] 0 (.fresh 0 0 (!byT w)) }).objs.size := by
     rw [Heap.size_push]; exact Nat.ne_of_lt (Nat.lt_succ_of_lt hb0)
    exact mv.heap b o (by simp only [List.mem_cons, List.not_mem_nil, or_false, not_or]; exact ⟨Nat.ne_of_lt hb0, hb2⟩) (Heap.get?_push_of_some _ (Heap.get?_push_of_some _ e))
   ·cases r2 with
    | error e => exact hr2
    | ok fl2 =>
     cases fl2 with
     | ret r =>
      obtain ⟨rfl, g, tk, rfl, hS', hk'⟩ := hr2
      repeat (any_goals (first | assumption | wp_step))
      exact q _ _ hS' hk'
     | _ => exact hr2
  | _ => exact hr
end
theorem si_slot : Slot "set_iterator" "__next__" "set_iterator.__next__" :=
 .of (owner := "set_iterator") (n := "__next__") (by rw [typeLookup_type, builtinLookup_eq_fast]; kernel_rfl) (by decide +kernel) (by decide +kernel) (by decide +kernel) (by first | exact .inl (by decide +kernel) | exact .inr (by decide +kernel)) (by rw [isSubtype_type]; kernel_rfl)
theorem si_entry : entryFor table "set_iterator.__next__" = some Builtin.«set_iterator.__next__» := entryFor_of_fast (by kernel_rfl)
theorem si_args (a : Value) : argsOk "set_iterator.__next__" ⟨[a], []⟩ := by unfold argsOk; kernel_rfl
theorem st_entry : entryFor table "set.__iter__" = some Builtin.«frozenset.__iter__» :=
 entryFor_alias (id' := "frozenset.__iter__") (by kernel_rfl) (by first | rfl | decide +kernel | (unfold String.splitOn; simp +decide [String.splitOnAux])) (by decide +kernel) (by kernel_rfl)
theorem cons_erase {α : Type} {l : List α} {i : Nat} (h : i < l.length) : (l[i] :: l.eraseIdx i).Perm l := by
 rw [List.eraseIdx_eq_take_drop_succ]
 have e : l = l.take i ++ l[i] :: l.drop (i + 1) := by rw [← List.drop_eq_getElem_cons h, List.take_append_drop]
 conv => rhs; rw [e]
 exact List.perm_middle.symm
theorem pick_go {α : Type} (next : Nat → Nat) : ∀ (f k : Nat) (left : List α) (out : Array α), left.length ≤ f → (pickOrder.go next f k left out).toList.Perm (out.toList ++ left)
 | 0, k, left, out, h => by
  have : left = [] := List.length_eq_zero_iff.mp (by omega)
  subst this
  unfold pickOrder.go
  simp
 | f + 1, k, [], out, h => by
  unfold pickOrder.go
  simp
 | f + 1, k, x :: left, out, h => by
  unfold pickOrder.go
  have hi : next k % (x :: left).length < (x :: left).length := Nat.mod_lt _ (by simp)
  rw [List.getElem?_eq_getElem hi]
  dsimp only
  refine (pick_go next f (k + 1) _ _ ?_).trans ?_
  ·rw [List.length_eraseIdx, if_pos hi]
   simp at h ⊢
   omega
  ·rw [Array.toList_push, List.append_assoc]
   exact List.Perm.append_left _ (cons_erase hi)
theorem pick_perm {α : Type} (next : Nat → Nat) (xs : Array α) : (pickOrder next xs).toList.Perm xs.toList := by
 unfold pickOrder
 have := pick_go next xs.size 0 xs.toList #[] (by simp)
 simpa using this
abbrev IsSI (h : Heap) (J : Addr) (f : Value) (i : Nat) (a : Addr) (n ep : Nat) : Prop := h.get? J = some { cls := .type "set_iterator", dict := none, data := .fields #[f, .int i 0, .ref a, .int n 0, .int ep 0], slots := #[] }
section
variable {prog : Program} {w : World} {A : Around} {E : Value → Shared → Prop} {s : Shared}
theorem wpAny_choose {src : Source} {n : Nat} {Q : Nat → Shared → Prop} (hn : n ≠ 0) (h : ∀ i d, i < n → Q i { s with drawn := d }) : wpAny (model prog w) A (choose src n) Q E s :=
 fun _ _ _ => ⟨hn, h _ _ (Nat.mod_lt _ (Nat.pos_of_ne_zero hn))⟩
theorem draw_perm {α : Type} : ∀ (n : Nat) (xs : List α) (s : Shared) {Q : List α → Shared → Prop}, xs.length ≤ n → (∀ ys d, ys.Perm xs → Q ys { s with drawn := d }) → wpAny (model prog w) A (drawOrder n xs) Q E s
 | 0, xs, s, Q, hl, h => by
  have : xs = [] := List.length_eq_zero_iff.mp (by omega)
  subst this
  unfold drawOrder
  exact wpAny_pure (h [] s.drawn (List.Perm.refl _))
 | n + 1, [], s, Q, hl, h => by
  unfold drawOrder
  exact wpAny_pure (h [] s.drawn (List.Perm.refl _))
 | n + 1, x :: xs, s, Q, hl, h => by
  unfold drawOrder
  refine wpAny_bind (wpAny_choose (by simp) fun i d hi => ?_)
  rw [List.getElem?_eq_getElem hi]
  dsimp only
  refine wpAny_bind (draw_perm n ((x :: xs).eraseIdx i) { s with drawn := d } ?_ fun ys d2 hp => wpAny_pure (h _ d2 ?_))
  ·rw [List.length_eraseIdx]
   split <;> simp at * <;> omega
  ·exact (hp.cons _).trans (cons_erase hi)
structure SeesS (h : Heap) (a : Addr) (o : Obj) (es : Array (Int × Value)) (ep : Nat) (t : SetTable) (n : Nat) : Prop where
 ob : h.get? a = some o
 dt : o.data = .set es ep t
 fits : t.fits es.size = true
 len : es.size = n
theorem state_at {a : Addr} {o : Obj} {es : Array (Int × Value)} {ep n : Nat} {t : SetTable} {Q : (Array (Int × Value) × Nat × SetTable) → Shared → Prop} (V : SeesS s.heap a o es ep t n) (q : Q (es, ep, t) s) : wpAny (model prog w) A (setState a) Q E s := wpAny_setState_of V.ob V.dt V.fits q
theorem next_open {J a : Addr} {f : Value} {i n ep : Nat} {o : Obj} {es : Array (Int × Value)} {t : SetTable} {Q : PySem.Fin → Shared → Prop} (hJ : IsSI s.heap J f i a n ep) (V : SeesS s.heap a o es ep t n)
  (q : wpAny (model prog w) A (if let .int slot _ := f then (do
    match ← setNext a slot.toNat (i : Int).toNat (ep : Int).toNat with
    | some (x, next) =>
     setField (.ref J) 0 (rawInt next)
     setField (.ref J) 1 (rawInt ((i : Int) + 1))
     ret x
    | none => setField (.ref J) 2 .none; raiseNew (← newExc (.type "StopIteration") []))
   else (do
    let some places ← seqItems? f | unsupported "internal:set_iterator"
    match places[(i : Int).toNat]? with
    | some (.int place _) =>
     let x ← setNextDrawn a place.toNat (ep : Int).toNat
     setField (.ref J) 1 (rawInt ((i : Int) + 1))
     ret x
    | some _ => unsupported "internal:set_iterator"
    | none => setField (.ref J) 0 (rawInt 0); setField (.ref J) 2 .none; raiseNew (← newExc (.type "StopIteration") []))) Q E s) :
  wpAny (model prog w) A (Builtin.«set_iterator.__next__» ⟨[.ref J], []⟩) Q E s := by
 refine (show wpAny _ _ (fieldsOf (.ref J) >>= _) _ _ s from wpAny_bind (wpAny_fieldsOf hJ rfl ?_))
 dsimp only
 refine wpAny_bind (wpAny_setEntries_of V.ob V.dt V.fits ?_)
 rw [if_neg (by rw [V.len]; simp)]
 exact q
theorem stop_raise {J : Addr} {Q : PySem.Fin → Shared → Prop} {g0 : Heap} (hh : A.handled = none)
  (q : ∀ g e, (∀ c o, g0.get? c = some o → g.get? c = some o) → (∃ o, g.get? e = some o ∧ o.cls = .type "StopIteration") → E (.ref e) { s with heap := g }) :
  wpAny (model prog w) A (do raiseNew (← newExc (.type "StopIteration") [])) Q E { s with heap := g0 } := by
 refine wpAny_bind ?_
 simp only [newExc, newTuple]
 refine wpAny_bind (wpAny_newObj_type (wpAny_bind (m := firstArgMember _ _) (wpAny_of_eq (a := Value.none) (by first | rfl | (simp only [firstArgMember]; rfl)) (wpAny_newObj_type ?_ (by size_fits)))) (by size_fits))
 simp only [raiseNew]
 refine wpAny_bind (wpAny_handled ?_)
 first | rw [show A.in1.handled = none from hh] | rw [hh]
 exact wpAny_bind (wpAny_pure (wpAny_throw (q _ _ (fun c o e => Heap.get?_push_of_some _ (Heap.get?_push_of_some _ e)) ⟨_, Heap.get?_push_size _ rfl, rfl⟩)))
theorem siD_item {J T a : Addr} {i n ep p m : Nat} {o oT : Obj} {es : Array (Int × Value)} {t : SetTable} {pl : Array Value} {hx : Int} {x : Value} {Q : Value → Shared → Prop} (hJ : IsSI s.heap J (.ref T) i a n ep) (V : SeesS s.heap a o es ep t n)
  (gT : s.heap.get? T = some oT) (dT : oT.data = .seq pl m) (hp : pl[i]? = some (.int p 0)) (hx : es[p]? = some (hx, x)) (q : ∀ g, IsSI g J (.ref T) (i + 1) a n ep → Heap.SameBut J s.heap g → Q x { s with heap := g }) :
  wpAny (model prog w) A (Builtin.«set_iterator.__next__» ⟨[.ref J], []⟩) (fun fin s' => ∃ v, fin = .done (.ret v) ∧ Q v s') E s := by
 refine next_open hJ V ?_
 dsimp only
 refine wpAny_bind (wpAny_seqItems gT dT ?_)
 simp only [Int.toNat_natCast, hp]
 unfold setNextDrawn
 refine wpAny_bind (wpAny_bind (state_at V ?_))
 dsimp only
 rw [if_neg (by simp), hx]
 refine wpAny_pure (wpAny_bind (wpAny_setField_rec hJ (by simp) fun g hg sb => wpAny_pure ⟨x, rfl, q g ?_ sb⟩))
 have e : ((i + 1 : Nat) : Int) = (i : Int) + 1 := by push_cast; rfl
 unfold IsSI
 rw [e]
 exact hg
theorem siD_end {J T a : Addr} {i n ep m : Nat} {o oT : Obj} {es : Array (Int × Value)} {t : SetTable} {pl : Array Value} {Q : PySem.Fin → Shared → Prop} (hh : A.handled = none) (hJ : IsSI s.heap J (.ref T) i a n ep) (V : SeesS s.heap a o es ep t n)
  (gT : s.heap.get? T = some oT) (dT : oT.data = .seq pl m) (hp : pl[i]? = none) (q : ∀ g e, (∀ c o, c ≠ J → s.heap.get? c = some o → g.get? c = some o) → (∃ o, g.get? e = some o ∧ o.cls = .type "StopIteration") → E (.ref e) { s with heap := g }) :
  wpAny (model prog w) A (Builtin.«set_iterator.__next__» ⟨[.ref J], []⟩) Q E s := by
 refine next_open hJ V ?_
 dsimp only
 refine wpAny_bind (wpAny_seqItems gT dT ?_)
 simp only [Int.toNat_natCast, hp]
 refine wpAny_bind (wpAny_setField_rec hJ (by simp) fun g1 hg1 sb1 => wpAny_bind (wpAny_setField_rec hg1 (by simp) fun g2 hg2 sb2 => ?_))
 exact stop_raise (J := J) hh fun g e k he => q g e (fun c o hc z => k c o (sb2.extBut _ _ hc (sb1.extBut _ _ hc z))) he
theorem siT_item {J a : Addr} {i n ep : Nat} {o : Obj} {es : Array (Int × Value)} {t : SetTable} {hx : Int} {x : Value} {Q : Value → Shared → Prop} (hb : byT w = true) (hJ : IsSI s.heap J (.int 0 0) i a n ep) (V : SeesS s.heap a o es ep t n)
  (hp : (pickOrder (w.params.setOrder a ep) es)[i]? = some (hx, x)) (q : ∀ g, IsSI g J (.int 0 0) (i + 1) a n ep → Heap.SameBut J s.heap g → Q x { s with heap := g }) :
  wpAny (model prog w) A (Builtin.«set_iterator.__next__» ⟨[.ref J], []⟩) (fun fin s' => ∃ v, fin = .done (.ret v) ∧ Q v s') E s := by
 refine next_open hJ V ?_
 dsimp only
 refine wpAny_bind ?_
 unfold setNext setsByText
 refine wpAny_bind (state_at V ?_)
 dsimp only
 refine wpAny_bind (wpAny_bind (wpAny_askSetting (wpAny_pure ?_)))
 dsimp only
 rw [if_pos (show (model prog w).w.params.followText "set-order" = true from hb), if_neg (by simp)]
 unfold setWalk setsByText
 refine wpAny_bind (wpAny_bind (state_at V ?_))
 dsimp only
 refine wpAny_bind (wpAny_bind (wpAny_askSetting (wpAny_pure ?_)))
 dsimp only
 rw [if_pos (show (model prog w).w.params.followText "set-order" = true from hb)]
 refine wpAny_bind (wpAny_askSetting (wpAny_pure (wpAny_pure ?_)))
 have hp' : (pickOrder ((model prog w).w.params.setOrder a ep) es)[i]? = some (hx, x) := hp
 simp only [Int.toNat_natCast, hp', Option.map_some]
 refine wpAny_bind (wpAny_setField_rec hJ (by simp) fun g1 hg1 sb1 => wpAny_bind (wpAny_setField_rec hg1 (by simp) fun g2 hg2 sb2 => wpAny_pure ⟨x, rfl, q g2 ?_ (sb1.trans sb2)⟩))
 have e : ((i + 1 : Nat) : Int) = (i : Int) + 1 := by push_cast; rfl
 unfold IsSI
 rw [e]
 exact hg2
theorem siT_end {J a : Addr} {i n ep : Nat} {o : Obj} {es : Array (Int × Value)} {t : SetTable} {Q : PySem.Fin → Shared → Prop} (hh : A.handled = none) (hb : byT w = true) (hJ : IsSI s.heap J (.int 0 0) i a n ep) (V : SeesS s.heap a o es ep t n)
  (hp : (pickOrder (w.params.setOrder a ep) es)[i]? = none) (q : ∀ g e, (∀ c o, c ≠ J → s.heap.get? c = some o → g.get? c = some o) → (∃ o, g.get? e = some o ∧ o.cls = .type "StopIteration") → E (.ref e) { s with heap := g }) :
  wpAny (model prog w) A (Builtin.«set_iterator.__next__» ⟨[.ref J], []⟩) Q E s := by
 refine next_open hJ V ?_
 dsimp only
 refine wpAny_bind ?_
 unfold setNext setsByText
 refine wpAny_bind (state_at V ?_)
 dsimp only
 refine wpAny_bind (wpAny_bind (wpAny_askSetting (wpAny_pure ?_)))
 dsimp only
 rw [if_pos (show (model prog w).w.params.followText "set-order" = true from hb), if_neg (by simp)]
 unfold setWalk setsByText
 refine wpAny_bind (wpAny_bind (state_at V ?_))
 dsimp only
 refine wpAny_bind (wpAny_bind (wpAny_askSetting (wpAny_pure ?_)))
 dsimp only
 rw [if_pos (show (model prog w).w.params.followText "set-order" = true from hb)]
 refine wpAny_bind (wpAny_askSetting (wpAny_pure (wpAny_pure ?_)))
 have hp' : (pickOrder ((model prog w).w.params.setOrder a ep) es)[i]? = none := hp
 simp only [Int.toNat_natCast, hp', Option.map_none]
 refine wpAny_bind (wpAny_setField_rec hJ (by simp) fun g1 hg1 sb1 => ?_)
 exact stop_raise (J := J) hh fun g e k he => q g e (fun c o hc z => k c o (sb1.extBut _ _ hc z)) he
theorem plain_next {a : Addr} {sl i n ep : Nat} {o : Obj} {es : Array (Int × Value)} {t : SetTable} {Q : Option (Value × Nat) → Shared → Prop} (hb : byT w = false) (V : SeesS s.heap a o es ep t n) (hn : n ≤ 1) (led : t.led = true)
  (q : Q (match es[SetTable.below t.place sl]?, t.place[SetTable.below t.place sl]? with
   | some (_, x), some j => some (x, j + 1)
   | _, _ => none) s) : wpAny (model prog w) A (setNext a sl i ep) Q E s := by
 unfold setNext setsByText
 refine wpAny_bind (state_at V ?_)
 dsimp only
 refine wpAny_bind (wpAny_bind (wpAny_askSetting (wpAny_pure ?_)))
 dsimp only
 rw [if_neg (by rw [show (model prog w).w.params.followText "set-order" = false from hb]; decide)]
 refine (show wpAny (model prog w) A (if (!t.plain && decide (es.size > 1)) = true then _ else _) Q E s from ?_)
 rw [if_neg (by rw [V.len]; simp; omega)]
 refine (show wpAny (model prog w) A ((if (!t.led && !es.isEmpty) = true then unsupported "set:maker-not-led" else pure ()) >>= fun _ => _) Q E s from ?_)
 rw [led]
 simp only [Bool.not_true, Bool.false_and, Bool.false_eq_true, if_false]
 exact wpAny_bind (wpAny_pure (wpAny_pure q))
theorem siP_item {J a : Addr} {ep j : Nat} {o : Obj} {es : Array (Int × Value)} {t : SetTable} {hx : Int} {x : Value} {Q : Value → Shared → Prop} (hb : byT w = false) (led : t.led = true) (hJ : IsSI s.heap J (.int 0 0) 0 a 1 ep) (V : SeesS s.heap a o es ep t 1)
  (hj : t.place = #[j]) (hp : es[0]? = some (hx, x)) (q : ∀ g, IsSI g J (.int ((j + 1 : Nat) : Int) 0) 1 a 1 ep → Heap.SameBut J s.heap g → Q x { s with heap := g }) :
  wpAny (model prog w) A (Builtin.«set_iterator.__next__» ⟨[.ref J], []⟩) (fun fin s' => ∃ v, fin = .done (.ret v) ∧ Q v s') E s := by
 refine next_open hJ V ?_
 dsimp only
 refine wpAny_bind (plain_next hb V (Nat.le_refl _) led ?_)
 have hbw : SetTable.below t.place (0 : Int).toNat = 0 := by rw [hj]; rfl
 rw [hbw, hp, hj]
 refine wpAny_bind (wpAny_setField_rec hJ (by simp) fun g1 hg1 sb1 => wpAny_bind (wpAny_setField_rec hg1 (by simp) fun g2 hg2 sb2 => wpAny_pure ⟨x, rfl, q g2 hg2 (sb1.trans sb2)⟩))
theorem siP_end {J a : Addr} {sl i n ep : Nat} {o : Obj} {es : Array (Int × Value)} {t : SetTable} {Q : PySem.Fin → Shared → Prop} (hh : A.handled = none) (hb : byT w = false) (led : t.led = true) (hJ : IsSI s.heap J (.int (sl : Int) 0) i a n ep) (V : SeesS s.heap a o es ep t n) (hn : n ≤ 1)
  (hp : es[SetTable.below t.place sl]? = none) (q : ∀ g e, (∀ c o, c ≠ J → s.heap.get? c = some o → g.get? c = some o) → (∃ o, g.get? e = some o ∧ o.cls = .type "StopIteration") → E (.ref e) { s with heap := g }) :
  wpAny (model prog w) A (Builtin.«set_iterator.__next__» ⟨[.ref J], []⟩) Q E s := by
 refine next_open hJ V ?_
 dsimp only
 refine wpAny_bind (plain_next hb V hn led ?_)
 rw [Int.toNat_natCast, hp]
 refine wpAny_bind (wpAny_setField_rec hJ (by simp) fun g1 hg1 sb1 => ?_)
 exact stop_raise (J := J) hh fun g e k he => q g e (fun c o hc z => k c o (sb1.extBut _ _ hc z)) he
end
theorem SeesS.keep {h h' : Heap} {a : Addr} {o : Obj} {es : Array (Int × Value)} {ep n : Nat} {t : SetTable} (V : SeesS h a o es ep t n) (k : ∀ o, h.get? a = some o → h'.get? a = some o) : SeesS h' a o es ep t n := { V with ob := k o V.ob }
theorem si_iter : Slot "set_iterator" "__iter__" "set_iterator.__iter__" :=
 .of (owner := "set_iterator") (n := "__iter__") (by rw [typeLookup_type, builtinLookup_eq_fast]; kernel_rfl) (by decide +kernel) (by decide +kernel) (by decide +kernel) (by first | exact .inl (by decide +kernel) | exact .inr (by decide +kernel)) (by rw [isSubtype_type]; kernel_rfl)
theorem si_iterE : entryFor table "set_iterator.__iter__" = some Builtin.«dict_keyiterator.__iter__» :=
 entryFor_alias (id' := "dict_keyiterator.__iter__") (by kernel_rfl) (by first | rfl | decide +kernel | (unfold String.splitOn; simp +decide [String.splitOnAux])) (by decide +kernel) (by kernel_rfl)
theorem si_iterA (a : Value) : argsOk "set_iterator.__iter__" ⟨[a], []⟩ := by unfold argsOk; kernel_rfl
theorem si_self {prog : Program} {w : World} {A : Around} {E : Value → Shared → Prop} {s : Shared} {J a : Addr} {f : Value} {i n ep : Nat} {Q : Value → Shared → Prop} (hJ : IsSI s.heap J f i a n ep) (h : Q (.ref J) s) : wpAny (model prog w) A (pyIter (.ref J)) Q E s := by
 refine wpAny_pyIter_slot ⟨_, hJ, rfl⟩ si_iter (wpAny_call_entry si_iter ⟨_, hJ, rfl⟩ si_iterE ?_ (si_iterA _))
 exact (show wpAny _ _ (ret (.ref J)) _ _ s from wpAny_pure ⟨_, rfl, "set_iterator", _, ⟨_, hJ, rfl⟩, si_slot.lookup, h⟩)
section
variable {prog : Program} {w : World} {A : Around} {E : Value → Shared → Prop} {s : Shared}
abbrev ordP (ord : Array (Int × Value)) (i : Nat) (v : Value) : Prop := ∃ e, ord[i]? = some e ∧ v = e.2
theorem walkD (hh : A.handled = none) {J T a : Addr} {n ep : Nat} {o : Obj} {es : Array (Int × Value)} {t : SetTable} {ps : List Nat} (hJT : T ≠ J) (hJa : a ≠ J) (hps : ps.length = n) (hlt : ∀ p ∈ ps, p < es.size) :
  Walks prog w A J [J, T, a] [J] n (ordP (ps.map fun p => es.getD p (0, .none)).toArray) (fun i h => IsSI h J (.ref T) i a n ep ∧ (∃ oT m, h.get? T = some oT ∧ oT.data = .seq (ps.map fun p : Nat => Value.int (p : Int) 0).toArray m) ∧ SeesS h a o es ep t n) where
 sub := fun b hb => by rw [List.mem_singleton.mp hb]; simp
 frame := fun i h h' ⟨s1, ⟨oT, m, g, d⟩, s3⟩ k => ⟨k J (by simp) _ s1, ⟨oT, m, k T (by simp) _ g, d⟩, s3.keep fun o e => k a (by simp) o e⟩
 item := fun i s Q E hi ⟨s1, ⟨oT, m, g, d⟩, s3⟩ q => by
  have hi' : i < ps.length := by omega
  have hp : (ps.map fun p : Nat => Value.int (p : Int) 0).toArray[i]? = some (.int (ps[i] : Nat) 0) := by simp [hi']
  have hpe : ps[i] < es.size := hlt _ (List.getElem_mem hi')
  have hx : es[ps[i]]? = some (es[ps[i]].1, es[ps[i]].2) := by rw [Array.getElem?_eq_getElem hpe]
  unfold pyNext
  refine wpAny_bind (wpAny_attempt (wpAny_callSpecial?_slot (name := Str.ofString "__next__") ⟨_, s1, rfl⟩ si_slot (wpAny_call_entry si_slot ⟨_, s1, rfl⟩ si_entry (siD_item s1 s3 g d hp hx fun g1 h1 sb => wpAny_pure (q _ g1 s.toks ?_ ?_ ?_)) (si_args _))))
  ·refine ⟨es[ps[i]], ?_, rfl⟩
   simp [hi', hpe]
  ·exact ⟨h1, ⟨oT, m, sb.extBut _ _ hJT g, d⟩, s3.keep fun o e => sb.extBut _ _ hJa e⟩
  ·exact fun b o hb e => sb.extBut _ _ (fun z => hb (by simp [z])) e
 done := fun s Q E ⟨s1, ⟨oT, m, g, d⟩, s3⟩ q => by
  unfold pyNext
  refine wpAny_bind (wpAny_attempt (wpAny_callSpecial?_slot (name := Str.ofString "__next__") ⟨_, s1, rfl⟩ si_slot (wpAny_call_entry si_slot ⟨_, s1, rfl⟩ si_entry (siD_end hh s1 s3 g d (by simp [hps]) fun g1 e k ⟨oe, ge, ce⟩ => ?_) (si_args _))))
  exact wpAny_bind (wpAny_isInstance (T := "StopIteration") (b := true) ⟨oe, ge, ce⟩ isSubtype_stop (wpAny_pure (q g1 s.toks fun b o hb z => k b o (fun y => hb (by simp [y])) z)))
 self := fun i s Q E ⟨s1, _⟩ q => si_self s1 q
theorem walkT (hh : A.handled = none) (hb : byT w = true) {J a : Addr} {n ep : Nat} {o : Obj} {es : Array (Int × Value)} {t : SetTable} (hJa : a ≠ J) (hn : es.size = n) :
  Walks prog w A J [J, a] [J] n (ordP (pickOrder (w.params.setOrder a ep) es)) (fun i h => IsSI h J (.int 0 0) i a n ep ∧ SeesS h a o es ep t n) where
 sub := fun b hb => by rw [List.mem_singleton.mp hb]; simp
 frame := fun i h h' ⟨s1, s3⟩ k => ⟨k J (by simp) _ s1, s3.keep fun o e => k a (by simp) o e⟩
 item := fun i s Q E hi ⟨s1, s3⟩ q => by
  have hsz : (pickOrder (w.params.setOrder a ep) es).size = n := by rw [← Array.length_toList, (pick_perm _ es).length_eq, Array.length_toList, hn]
  have hx : (pickOrder (w.params.setOrder a ep) es)[i]? = some ((pickOrder (w.params.setOrder a ep) es)[i]'(by omega)) := Array.getElem?_eq_getElem (by omega)
  unfold pyNext
  refine wpAny_bind (wpAny_attempt (wpAny_callSpecial?_slot (name := Str.ofString "__next__") ⟨_, s1, rfl⟩ si_slot (wpAny_call_entry si_slot ⟨_, s1, rfl⟩ si_entry (siT_item hb s1 s3 hx fun g1 h1 sb => wpAny_pure (q _ g1 s.toks ⟨_, hx, rfl⟩ ⟨h1, s3.keep fun o e => sb.extBut _ _ hJa e⟩ fun b o hb e => sb.extBut _ _ (fun z => hb (by simp [z])) e)) (si_args _))))
 done := fun s Q E ⟨s1, s3⟩ q => by
  have hsz : (pickOrder (w.params.setOrder a ep) es).size = n := by rw [← Array.length_toList, (pick_perm _ es).length_eq, Array.length_toList, hn]
  unfold pyNext
  refine wpAny_bind (wpAny_attempt (wpAny_callSpecial?_slot (name := Str.ofString "__next__") ⟨_, s1, rfl⟩ si_slot (wpAny_call_entry si_slot ⟨_, s1, rfl⟩ si_entry (siT_end hh hb s1 s3 (Array.getElem?_eq_none (by omega)) fun g1 e k ⟨oe, ge, ce⟩ => ?_) (si_args _))))
  exact wpAny_bind (wpAny_isInstance (T := "StopIteration") (b := true) ⟨oe, ge, ce⟩ isSubtype_stop (wpAny_pure (q g1 s.toks fun b o hb z => k b o (fun y => hb (by simp [y])) z)))
 self := fun i s Q E ⟨s1, _⟩ q => si_self s1 q
theorem walkP (hh : A.handled = none) (hb : byT w = false) {J a : Addr} {n ep : Nat} {o : Obj} {es : Array (Int × Value)} {t : SetTable} (hJa : a ≠ J) (hn : es.size = n) (h1 : n ≤ 1) (led : t.led = true) (hf : t.fits es.size = true) :
  Walks prog w A J [J, a] [J] n (ordP es) (fun i h => (∃ sl : Nat, IsSI h J (.int (sl : Int) 0) i a n ep ∧ (i < n → sl = 0) ∧ (i = n → es[SetTable.below t.place sl]? = none)) ∧ SeesS h a o es ep t n) where
 sub := fun b hb => by rw [List.mem_singleton.mp hb]; simp
 frame := fun i h h' ⟨⟨sl, s1, s2⟩, s3⟩ k => ⟨⟨sl, k J (by simp) _ s1, s2⟩, s3.keep fun o e => k a (by simp) o e⟩
 item := fun i s Q E hi ⟨⟨sl, s1, s2, _⟩, s3⟩ q => by
  have hn1 : n = 1 := by omega
  have hi0 : i = 0 := by omega
  subst hi0
  have hsl := s2 hi
  subst hsl
  subst hn1
  have hpz : t.place.size = 1 := by
   simp only [SetTable.fits, Bool.and_eq_true, beq_iff_eq] at hf
   omega
  obtain ⟨j, hj⟩ : ∃ j, t.place = #[j] := by
   generalize t.place = pl at hpz
   obtain ⟨l⟩ := pl
   match l, hpz with
   | [j], _ => exact ⟨j, rfl⟩
  have hx : es[0]? = some es[0] := Array.getElem?_eq_getElem (by omega)
  unfold pyNext
  refine wpAny_bind (wpAny_attempt (wpAny_callSpecial?_slot (name := Str.ofString "__next__") ⟨_, s1, rfl⟩ si_slot (wpAny_call_entry si_slot ⟨_, s1, rfl⟩ si_entry (siP_item hb led s1 s3 hj hx fun g1 hg1 sb => wpAny_pure (q _ g1 s.toks ⟨_, hx, rfl⟩ ⟨⟨j + 1, hg1, fun z => absurd z (by omega), fun _ => ?_⟩, s3.keep fun o e => sb.extBut _ _ hJa e⟩ fun b o hb e => sb.extBut _ _ (fun z => hb (by simp [z])) e)) (si_args _))))
  have hbw : SetTable.below t.place (j + 1) = 1 := by
   rw [hj]
   unfold SetTable.below
   show SetTable.below.go #[j] (j + 1) 1 0 1 = 1
   unfold SetTable.below.go
   rw [if_pos (by omega)]
   dsimp only
   rw [if_pos (by simp)]
   rfl
  rw [hbw]
  exact Array.getElem?_eq_none (by omega)
 done := fun s Q E ⟨⟨sl, s1, _, s2⟩, s3⟩ q => by
  unfold pyNext
  refine wpAny_bind (wpAny_attempt (wpAny_callSpecial?_slot (name := Str.ofString "__next__") ⟨_, s1, rfl⟩ si_slot (wpAny_call_entry si_slot ⟨_, s1, rfl⟩ si_entry (siP_end hh hb led s1 s3 h1 (s2 rfl) fun g1 e k ⟨oe, ge, ce⟩ => ?_) (si_args _))))
  exact wpAny_bind (wpAny_isInstance (T := "StopIteration") (b := true) ⟨oe, ge, ce⟩ isSubtype_stop (wpAny_pure (q g1 s.toks fun b o hb z => k b o (fun y => hb (by simp [y])) z)))
 self := fun i s Q E ⟨⟨sl, s1, _⟩, _⟩ q => si_self s1 q
end
end L2
namespace L2
open PySem PySem.Spec PyProof.Rows PySem.W
section
variable {prog : Program} {w : World} {A : Around} {E : Value → Shared → Prop} {s : Shared}
theorem range_getD {es : Array (Int × Value)} {ps : List Nat} (h : ps.Perm (List.range es.size)) : (ps.map fun p => es.getD p (0, .none)).Perm es.toList := by
 have h1 := h.map fun p => es.getD p (0, .none)
 have h2 : ((List.range es.size).map fun p => es.getD p (0, .none)) = es.toList := by
  apply List.ext_getElem?
  intro i
  rw [List.getElem?_map]
  by_cases hi : i < es.size
  ·rw [List.getElem?_range hi, Array.getElem?_toList, Array.getElem?_eq_getElem hi]
   simp [hi]
  ·rw [List.getElem?_eq_none (by simp; omega), List.getElem?_eq_none (by simp; omega)]
   rfl
 rw [h2] at h1
 exact h1
theorem iter_set {A' : Around} {a : Addr} {ks : List Str} {o : Obj} {es : Array (Int × Value)} {ep : Nat} {t : SetTable} {Q : Value → Shared → Prop} (hh : A'.handled = none) (S : StT prog w s.heap a ks o es ep t) (hz : ks.length ≤ 1000)
  (q : ∀ (J : Addr) (h1 : Heap) (d : Drawn) (ord : Array (Int × Value)) (fp : List Addr) (St : Nat → Heap → Prop), ord.toList.Perm es.toList → Walks prog w A' J fp [J] ks.length (ordP ord) St → St 0 h1 → (∀ b ∈ fp, b = a ∨ s.heap.objs.size ≤ b) → s.heap.objs.size ≤ J →
   (∀ b u, s.heap.get? b = some u → h1.get? b = some u) → Q (.ref J) { s with heap := h1, drawn := d }) : wpAny (model prog w) A (pyIter (.ref a)) Q E s := by
 have hT : s.TypeIs (.ref a) "set" := ⟨o, S.ob, S.ex.1⟩
 have V : SeesS s.heap a o es ep t ks.length := ⟨S.ob, S.dt, S.fits, S.len⟩
 have ha : a < s.heap.objs.size := Heap.lt_size S.ob
 have es0 : s = { s with heap := s.heap, drawn := s.drawn } := by cases s; rfl
 refine wpAny_pyIter_slot hT PySem.F.slot_set_iter (wpAny_call_entry PySem.F.slot_set_iter hT st_entry ?_ (PySem.F.args_set_iter_1 _))
 unfold Builtin.«frozenset.__iter__»
 refine (show wpAny _ _ (Builtin.Frozenset.sizeOf a >>= _) _ _ s from wpAny_bind ?_)
 unfold Builtin.Frozenset.sizeOf
 refine wpAny_bind (wpAny_setEntries_of V.ob V.dt V.fits (wpAny_pure ?_))
 dsimp only
 unfold setDrawn setsByText
 refine wpAny_bind (wpAny_bind (state_at V ?_))
 dsimp only
 refine wpAny_bind (wpAny_bind (wpAny_askSetting (wpAny_pure (wpAny_pure ?_))))
 have lift1 : ∀ (x : Bool) (h : x = (!byT w && (!t.plain && decide (es.size > 1)))), x = (!(model prog w).w.params.followText "set-order" && (!t.plain && decide (es.size > 1))) := fun x h => h
 by_cases c : (!byT w && (!t.plain && decide (es.size > 1))) = true
 ·refine (show wpAny (model prog w) _ (if (!byT w && (!t.plain && decide (es.size > 1))) = true then _ else _) _ _ s from ?_)
  rw [if_pos c]
  refine wpAny_bind (draw_perm es.size (List.range es.size) s (by simp) fun ps d hp => ?_)
  have hpl : ps.length = ks.length := by rw [hp.length_eq, List.length_range, S.len]
  refine wpAny_bind (wpAny_newTuple ?_ (by rw [List.length_map]; exact sl_big (by omega)))
  have V1 : SeesS (s.heap.push { cls := .type "tuple", data := .seq (ps.map fun i : Nat => rawInt i).toArray }) a o es ep t ks.length := V.keep fun o e => Heap.get?_push_of_some _ e
  refine wpAny_bind ?_
  unfold setEpoch
  refine wpAny_bind (state_at (s := { s with heap := s.heap.push { cls := .type "tuple", data := .seq (ps.map fun i : Nat => rawInt i).toArray }, drawn := d }) V1 (wpAny_pure ?_))
  refine wpAny_bind (wpAny_newObj_type (wpAny_pure ⟨_, rfl, "set_iterator", _, ⟨_, Heap.get?_push_size _ rfl, rfl⟩, si_slot.lookup, ?_⟩))
  have hsz : (s.heap.push { cls := .type "tuple", data := .seq (ps.map fun i : Nat => rawInt i).toArray }).objs.size = s.heap.objs.size + 1 := Heap.size_push ..
  refine q _ _ d (ps.map fun p => es.getD p (0, .none)).toArray [_, s.heap.objs.size, a] _ (range_getD hp) (walkD hh (T := s.heap.objs.size) (a := a) (ep := ep) (o := o) (es := es) (t := t) (by rw [hsz]; exact Nat.ne_of_lt (Nat.lt_succ_self _)) (by rw [hsz]; exact Nat.ne_of_lt (Nat.lt_succ_of_lt ha)) hpl fun p hpm => List.mem_range.mp (hp.mem_iff.mp hpm)) ⟨?_, ⟨_, _, Heap.get?_push_of_some _ (Heap.get?_push_size _ rfl), rfl⟩, V1.keep fun o e => Heap.get?_push_of_some _ e⟩ ?_ (by rw [hsz]; exact Nat.le_succ _) fun b u e => Heap.get?_push_of_some _ (Heap.get?_push_of_some _ e)
  ·unfold IsSI
   rw [Heap.get?_push_size _ rfl, S.len]
   rfl
  ·intro b hb
   rcases List.mem_cons.mp hb with z | z
   ·rw [z, hsz]; exact .inr (Nat.le_succ _)
   ·rcases List.mem_cons.mp z with z | z
    ·rw [z]; exact .inr (Nat.le_refl _)
    ·exact .inl (List.mem_singleton.mp z)
 ·refine (show wpAny (model prog w) _ (if (!byT w && (!t.plain && decide (es.size > 1))) = true then _ else _) _ _ s from ?_)
  rw [if_neg c]
  refine wpAny_bind (wpAny_pure (wpAny_bind ?_))
  unfold setEpoch
  refine wpAny_bind (state_at V (wpAny_pure ?_))
  refine wpAny_bind (wpAny_newObj_type (wpAny_pure ⟨_, rfl, "set_iterator", _, ⟨_, Heap.get?_push_size _ rfl, rfl⟩, si_slot.lookup, ?_⟩))
  have fpk : ∀ b ∈ [s.heap.objs.size, a], b = a ∨ s.heap.objs.size ≤ b := fun b hb => by
   rcases List.mem_cons.mp hb with z | z
   ·rw [z]; exact .inr (Nat.le_refl _)
   ·exact .inl (List.mem_singleton.mp z)
  have gJ : IsSI (s.heap.push { cls := .type "set_iterator", data := .fields #[rawInt 0, rawInt 0, .ref a, rawInt es.size, rawInt ep] }) s.heap.objs.size (.int 0 0) 0 a ks.length ep := by
   unfold IsSI
   rw [Heap.get?_push_size _ rfl, S.len]
   rfl
  by_cases hb : byT w = true
  ·exact q _ _ s.drawn _ [s.heap.objs.size, a] _ (pick_perm _ es) (walkT hh hb (o := o) (t := t) (Nat.ne_of_lt ha) S.len) ⟨gJ, V.keep fun o e => Heap.get?_push_of_some _ e⟩ fpk (Nat.le_refl _) fun b u e => Heap.get?_push_of_some _ e
  ·have hb' : byT w = false := by simpa using hb
   have led : t.led = true := by rw [S.led, hb']; rfl
   have h1 : ks.length ≤ 1 := by
    rcases Nat.lt_or_ge 1 ks.length with z | z
    ·have hpf := S.plain (fun e => by rw [e] at z; simp at z)
     exact absurd (by rw [hb', hpf, S.len]; simp; omega) c
    ·exact z
   refine q _ _ s.drawn es [s.heap.objs.size, a] _ (List.Perm.refl _) (walkP hh hb' (o := o) (t := t) (ep := ep) (Nat.ne_of_lt ha) S.len h1 led S.fits) ⟨⟨0, gJ, fun _ => rfl, fun z => ?_⟩, V.keep fun o e => Heap.get?_push_of_some _ e⟩ fpk (Nat.le_refl _) fun b u e => Heap.get?_push_of_some _ e
   have : es.size = 0 := by rw [S.len]; exact z.symm
   exact Array.getElem?_eq_none (by omega)
end
theorem nd_perm : ∀ {ks xs : List Str}, ks.Nodup → (∀ x ∈ ks, x ∈ xs) → xs.length = ks.length → xs.Perm ks
 | [], xs, _, _, hl => by rw [List.length_eq_zero_iff.mp hl]
 | k :: ks, xs, nd, hs, hl => by
  have nd' := List.nodup_cons.mp nd
  have hk := hs k (List.mem_cons_self ..)
  have p := List.perm_cons_erase hk
  refine p.trans (List.Perm.cons k (nd_perm nd'.2 (fun x hx => ?_) ?_))
  ·have hne : x ≠ k := fun e => nd'.1 (e ▸ hx)
   exact (List.mem_erase_of_ne hne).mpr (hs x (List.mem_cons_of_mem _ hx))
  ·rw [List.length_erase_of_mem hk, hl]
   rfl
section
variable {prog : Program} {w : World} {A : Around} {E : Value → Shared → Prop} {s : Shared}
theorem hint_set {r : Addr} {Q : Bool → Shared → Prop} (hT : s.TypeIs (.ref r) "set") (q : Q false s) : wpAny (model prog w) A (Builtin.List.listLengthHint (.ref r)) Q E s := by
 unfold Builtin.List.listLengthHint
 refine wpAny_bind (wpAny_specialOf hT PySem.F.slot_set_len.lookup ?_)
 generalize hid : ("set.__len__" : String) = nm
 wp_delta
 rw [show splitId nm = some ("set", "__len__") from by subst hid; decide +kernel]
 subst hid
 refine wpAny_bind (wpAny_isInstance (T := "set") (b := true) hT (by rw [isSubtype_type]; kernel_rfl) ?_)
 refine wpAny_ite_split (fun z => absurd z (by decide)) fun _ => wpAny_ite_split (fun _ => ?_) fun z => absurd (by decide +kernel) z
 exact wpAny_bind (wpAny_typeOf hT (wpAny_pure q))
theorem extend_set {R : Result → Shared → Prop} {a S : Addr} {ks : List Str} {o : Obj} {es : Array (Int × Value)} {ep : Nat} {t : SetTable} {c₀ : Nat} {res : Value} (hh : A.handled = none) (T : StT prog w s.heap a ks o es ep t) (hz : ks.length ≤ 1000) (hSa : S ≠ a) (hS : s.heap.get? S = some { cls := .type "list", data := .seq #[] c₀ })
  (q : ∀ h1 tk d acc c (ord : Array (Int × Value)), ord.toList.Perm es.toList → (∀ b u, b ≠ S → s.heap.get? b = some u → h1.get? b = some u) → h1.get? S = some { cls := .type "list", dict := none, data := .seq acc c, slots := #[] } → ItemsOf (ordP ord) acc ks.length → R (.ok (.ret res)) { s with heap := h1, toks := tk, drawn := d }) :
  wpAny (model prog w) A.in1 (Builtin.List.listExtendWith (.ref S) (.ref a) res) (fun fin s' => match fin with | .done f => R (.ok f) s' | .again c' => c'.quiet = true ∧ codeAny (model prog w) A c' R s') (fun e s' => R (.error e) s') s := by
 have hT : s.TypeIs (.ref a) "set" := ⟨o, T.ob, T.ex.1⟩
 have hSl : S < s.heap.objs.size := Heap.lt_size hS
 unfold Builtin.List.listExtendWith
 refine wpAny_bind (wpAny_typeOf (T := "set") hT ?_)
 have h1 : Builtin.List.listSameRef (.ref S) (.ref a) = false := by simp [Builtin.List.listSameRef, hSa]
 have n1 : (Value.type "set" == Value.type "list") = false := by decide
 have n2 : (Value.type "set" == Value.type "tuple") = false := by decide
 simp only [h1, n1, n2, Bool.or_false, Bool.false_eq_true, if_false]
 refine wpAny_bind (iter_set (A' := A.in1) hh T hz fun J g d ord fp St hp W st hfp hJ kk => ?_)
 have gS := kk _ _ hS
 have nf : S ∉ fp := fun z => by
  rcases hfp S z with y | y
  ·exact hSa y
  ·exact absurd hSl (Nat.not_lt.mpr y)
 have key : ∀ (h : Heap) (c₁ tk : Nat), St 0 h → (∀ b u, b ≠ S → s.heap.get? b = some u → h.get? b = some u) → h.get? S = some { cls := .type "list", data := .seq #[] c₁ } → codeAny (model prog w) A (.builtin "list.extend.loop" ⟨[.ref S, .ref J, res], []⟩) R { s with heap := h, toks := tk, drawn := d } := by
  intro h c₁ tk hst hk hS₁
  refine codeAny_extend_loopS W.toS (sl_big hz) S nf res ks.length 0 _ #[] c₁ rfl (Nat.zero_le _) hst hS₁ (ItemsOf.nil _) fun s2 acc c mv hS2 hacc => ?_
  rw [Moved.eq_with mv]
  refine q s2.heap s2.toks d acc c ord hp (fun b u hb e => mv.heap b u (fun z => ?_) (hk b u hb e)) hS2 hacc
  rcases List.mem_cons.mp z with y | y
  ·exact hb y
  ·exact absurd (Heap.lt_size e) (by rw [List.mem_singleton.mp y]; exact Nat.not_lt.mpr hJ)
 refine wpAny_bind (wpAny_holding (hint_set (s := { s with heap := g, drawn := d }) ⟨o, kk _ _ T.ob, T.ex.1⟩ ?_))
 refine wpAny_ite_split (fun _ => ?_) (fun _ => wpAny_pure ⟨plainId_quiet PySem.F.plain_extend_loop _, key _ c₀ _ st (fun b u _ e => kk b u e) gS⟩)
 refine wpAny_bind (wpAny_rule (wpAny_bind ?_))
 refine (show wpAny _ _ (updateSeq S (·.push .none) >>= fun _ => updateSeq S (·.pop)) _ _ _ from wpAny_bind (wpAny_updateSeq gS rfl ?_))
 have g2 := Heap.get?_update_self (Obj.mapSeq (·.push Value.none)) gS rfl
 refine wpAny_updateSeq (hz := by seq_fits) g2 rfl ?_
 have g3 := Heap.get?_update_self (Obj.mapSeq (·.pop)) g2 rfl
 refine wpAny_pure ⟨plainId_quiet PySem.F.plain_extend_loop _, key _ _ _ (W.frame 0 _ _ st fun b hb u e => ?_) (fun b u hb e => ?_) g3⟩
 ·have ne : b ≠ S := fun z => nf (z ▸ hb)
  exact (Heap.get?_update_other _ _ (Ne.symm ne)).trans ((Heap.get?_update_other _ _ (Ne.symm ne)).trans e)
 ·exact (Heap.get?_update_other _ _ (Ne.symm hb)).trans ((Heap.get?_update_other _ _ (Ne.symm hb)).trans (kk _ _ e))
theorem collect_set {R : List Value → Shared → Prop} {a : Addr} {ks : List Str} {o : Obj} {es : Array (Int × Value)} {ep : Nat} {t : SetTable} (hh : A.handled = none) (T : StT prog w s.heap a ks o es ep t) (hz : ks.length ≤ 1000)
  (q : ∀ h1 tk d (acc : Array Value) (ord : Array (Int × Value)), ord.toList.Perm es.toList → (∀ b u, s.heap.get? b = some u → h1.get? b = some u) → ItemsOf (ordP ord) acc ks.length → R acc.toList { s with heap := h1, toks := tk, drawn := d }) :
  wpAny (model prog w) A (collect (.ref a)) R E s := by
 have ha : a < s.heap.objs.size := Heap.lt_size T.ob
 unfold collect
 refine wpAny_bind (wpAny_runValue (codeAny_builtin entry_proto_collect' ?_))
 rw [Around.under_plainId PySem.F.plain_proto_collect _]
 refine (show wpAny _ A.in1 (newList [] >>= fun l => again (.builtin "list.__iadd__" ⟨[l, .ref a], []⟩)) _ _ s from wpAny_bind (wpAny_newObj_type (wpAny_pure ⟨plainId_quiet PySem.F.plain_list_iadd _, codeAny_builtin entry_list_iadd' ?_⟩)))
 rw [Around.under_plainId PySem.F.plain_list_iadd _]
 have gS : (s.heap.push { cls := .type "list", data := .seq ([] : List Value).toArray }).get? s.heap.objs.size = some { cls := .type "list", data := .seq #[] } := Heap.get?_push_size _ rfl
 show wpAny _ A.in1 (Builtin.List.listExtendWith (.ref s.heap.objs.size) (.ref a) (.ref s.heap.objs.size)) _ _ _
 have T1 : StT prog w (s.heap.push { cls := .type "list", data := .seq ([] : List Value).toArray }) a ks o es ep t := { T with ob := Heap.get?_push_of_some _ T.ob }
 have key := extend_set (A := A) (s := { s with heap := s.heap.push { cls := .type "list", data := .seq ([] : List Value).toArray } })
  (R := fun (z : Result) (s' : Shared) => ∃ (g : Heap) (tk : Nat) (d : Drawn) (acc : Array Value) (c : Nat) (ord : Array (Int × Value)), z = .ok (.ret (.ref s.heap.objs.size)) ∧ s' = { s with heap := g, toks := tk, drawn := d } ∧ ord.toList.Perm es.toList ∧
   (∀ b u, s.heap.get? b = some u → g.get? b = some u) ∧ g.get? s.heap.objs.size = some { cls := .type "list", dict := none, data := .seq acc c, slots := #[] } ∧ ItemsOf (ordP ord) acc ks.length)
  (S := s.heap.objs.size) (res := .ref s.heap.objs.size) (c₀ := 0) hh T1 hz (Nat.ne_of_gt ha) gS (fun g tk d acc c ord hp kk gS2 hacc => ⟨g, tk, d, acc, c, ord, rfl, rfl, hp, fun b u e => kk b u (Nat.ne_of_lt (Heap.lt_size e)) (Heap.get?_push_of_some _ e), gS2, hacc⟩)
 refine wpAny_mono key (fun fin s' x => ?_) fun e s' x => ?_
 ·cases fin with
  | done f =>
   obtain ⟨g, tk, d, acc, c, ord, e, rfl, hp, kk, gS2, hacc⟩ := x
   cases e
   exact (show wpAny _ A (load s.heap.objs.size >>= _) _ _ _ from wpAny_bind (wpAny_load gS2 (wpAny_pure (q g tk d acc ord hp kk hacc))))
  | again c1 =>
   refine ⟨x.1, codeAny_mono x.2 fun z s2 y => ?_⟩
   obtain ⟨g, tk, d, acc, c, ord, rfl, rfl, hp, kk, gS2, hacc⟩ := y
   exact (show wpAny _ A (load s.heap.objs.size >>= _) _ _ _ from wpAny_bind (wpAny_load gS2 (wpAny_pure (q g tk d acc ord hp kk hacc))))
 ·obtain ⟨_, _, _, _, _, _, z, _⟩ := x
  cases z
theorem set_texts {h : Heap} {a : Addr} {ks : List Str} {o : Obj} {es : Array (Int × Value)} {ep : Nat} {t : SetTable} (T : StT prog w h a ks o es ep t) {ord : Array (Int × Value)} (hp : ord.toList.Perm es.toList) {acc : Array Value} (hacc : ItemsOf (ordP ord) acc ks.length) :
  ∃ xs : List Str, xs.Perm ks ∧ StrsAre acc.toList xs := by
 have hol : ord.toList.length = ks.length := by rw [hp.length_eq, Array.length_toList, T.len]
 have el : ∀ e ∈ ord.toList, ∃ x tk, e.2 = .str x tk ∧ x ∈ ks := fun e he => by
  have hm := hp.mem_iff.mp he
  obtain ⟨⟨k, hk, _⟩, _⟩ := T.el e hm
  obtain ⟨x, ek, hx⟩ := (T.mem k).mpr ⟨e, hm, hk⟩
  subst ek
  rcases keyIs_shape (show keyIs (Sum.inr x) e.2 = true from hk) with ⟨j, t, e4, _⟩ | ⟨z, t, e4, e5⟩
  ·cases e4
  ·injection e4 with e4
   exact ⟨x, t, by rw [e5, e4], hx⟩
 have key : ∀ (l : List (Int × Value)), (∀ e ∈ l, ∃ x tk, e.2 = .str x tk ∧ x ∈ ks) → ∃ xs : List Str, StrsAre (l.map (·.2)) xs ∧ (∀ x ∈ xs, x ∈ ks) ∧ xs.length = l.length ∧ ∀ x, (∃ e ∈ l, keyIs (Sum.inr x) e.2 = true) → x ∈ xs := by
  intro l
  induction l with
  | nil => exact fun _ => ⟨[], .nil, (fun x hx => by cases hx), rfl, (fun x ⟨e, he, _⟩ => by cases he)⟩
  | cons e l ih =>
   intro hl
   obtain ⟨xs, h1, h2, h3, h4⟩ := ih fun e he => hl e (List.mem_cons_of_mem _ he)
   obtain ⟨x, tk, ex, hx⟩ := hl e (List.mem_cons_self ..)
   refine ⟨x :: xs, ?_, fun y hy => ?_, by simp [h3], fun y ⟨e', he', hk⟩ => ?_⟩
   ·rw [List.map_cons, ex]
    exact .cons x tk h1
   ·rcases List.mem_cons.mp hy with z | z
    ·rw [z]; exact hx
    ·exact h2 y z
   ·rcases List.mem_cons.mp he' with z | z
    ·subst z
     rw [ex] at hk
     rcases keyIs_shape hk with ⟨j, t, e4, _⟩ | ⟨z, t, e4, e5⟩
     ·cases e4
     ·injection e4 with e4
      injection e5 with e5 _
      rw [e4, ← e5]
      exact List.mem_cons_self ..
    ·exact List.mem_cons_of_mem _ (h4 y ⟨e', z, hk⟩)
 obtain ⟨xs, h1, h2, h3, h4⟩ := key ord.toList el
 have hsub : ∀ x ∈ ks, x ∈ xs := fun x hx => by
  obtain ⟨e, he, hk⟩ := (T.mem (Sum.inr x)).mp ⟨x, rfl, hx⟩
  exact h4 x ⟨e, hp.mem_iff.mpr he, hk⟩
 refine ⟨xs, ?_, ?_⟩
 ·exact nd_perm T.nd hsub (by omega)
 ·have : acc.toList = ord.toList.map (·.2) := by
   apply List.ext_getElem?
   intro i
   by_cases hi : i < acc.toList.length
   ·obtain ⟨e, e1, e2⟩ := hacc.2 i acc.toList[i] (by rw [← Array.getElem?_toList]; exact List.getElem?_eq_getElem hi)
    rw [List.getElem?_eq_getElem hi, List.getElem?_map, Array.getElem?_toList, e1, e2]
    rfl
   ·have hl := hacc.1
    rw [← Array.length_toList] at hl
    rw [List.getElem?_eq_none (by omega), List.getElem?_eq_none (by rw [List.length_map]; omega)]
  rw [this]
  exact h1
end
section
variable {X : Cx} {pins : List (Addr × Obj)} {σ : St} {H : Hp} {s : Shared}
theorem Inv.drw (I : Inv X pins σ H s) (d : Drawn) : Inv X pins σ H { s with drawn := d } := by
 refine I.step (h' := s.heap) (t' := s.toks) (g' := s.gens) (d' := d) (ch := []) (fun b hb => by cases hb) (fun b u _ _ _ e _ => e) (fun b u _ _ _ e _ => ⟨u.slots, e⟩) (fun b u _ e n => n) (fun b u _ e => ⟨u, e⟩) (fun b xs e => e) (fun b u xs e => e) (fun b ps e => ⟨#[], by rw [e]; simp⟩) (fun m hm => hm) I.hok I.bare
end
noncomputable def stO (X : Cx) (p : Addr) (ks : List Str) : HO := .ext fun h => SetT X.prog X.w h p ks
theorem call_setL {X : Cx} (hc : X.calm = true) : CallR X (.type "set") (fun xs H Q => ∃ (a : Addr) (ss : List Str), xs = [.ref a] ∧ SqL X.K H a (ss.map V.str) ∧ ss.length ≤ 1000 ∧
  ∀ (p : Addr) (ks : List Str), H p = none → ks.Nodup → (∀ x, x ∈ ks ↔ x ∈ ss) → ks.length ≤ ss.length → Q (.ref p) (upd H p (stO X p ks))) := by
 intro pins s σ H xs us Q I r h
 obtain ⟨a, ss, rfl, hq, h1k, q⟩ := h
 obtain ⟨u, rfl, ru⟩ := vals1 r
 cases ru
 obtain ⟨its, rv, pl, hz⟩ := I.list hq
 have hl := rv.length
 rw [List.length_map] at hl
 refine call_setS (I.ok.hd hc) pl.isList (by simpa using strsAre_of rv) (by rw [List.size_toArray]; show its.length + 1 < 4096; omega) fun h1 tk hS kk => ?_
 have ez : its.toArray.size = ss.length := by rw [List.size_toArray, hl]
 rw [ez] at hS
 have hn : H s.heap.objs.size = none := I.hok.fresh (Nat.le_refl _)
 obtain ⟨o, es, ep, t, T⟩ := id hS
 refine ⟨.ref s.heap.objs.size, _, I.laid (t' := tk) (o := stO X s.heap.objs.size _) kk (Nat.le_refl _) ⟨hS, ⟨o, T.ob⟩, fun g1 g2 z k => z.keep k⟩, rfl, q _ _ hn T.nd (fun x => ?_) (met_len _ _)⟩
 rw [met_mem]
 constructor
 ·rintro ⟨j, hj, e⟩
  rw [← e, List.getD_eq_getElem?_getD, List.getElem?_eq_getElem hj]
  exact List.getElem_mem hj
 ·intro hx
  obtain ⟨j, hj, e⟩ := List.getElem_of_mem hx
  exact ⟨j, hj, by rw [List.getD_eq_getElem?_getD, List.getElem?_eq_getElem hj]; exact e⟩
theorem call_sortedSet {X : Cx} (hc : X.calm = true) : CallR X (.builtin "sorted") (fun xs H Q => ∃ (p : Addr) (ks : List Str), xs = [.ref p] ∧ H p = some (stO X p ks) ∧ ks.length ≤ 1000 ∧
  ∀ (q : Addr) (ss : List Str), H q = none → ss.Perm ks → (ss.map fun x => x.cps.toList).Pairwise (· < ·) → Q (.ref q) (upd H q (.lst (ss.map V.str)))) := by
 intro pins s σ H xs us Q I r h
 obtain ⟨p, ks, rfl, hp, h1k, q⟩ := h
 obtain ⟨u, rfl, ru⟩ := vals1 r
 cases ru
 obtain ⟨⟨o, es, ep, t, T⟩, _, _⟩ := (show SetT X.prog X.w s.heap p ks ∧ _ from I.hok p _ hp)
 refine Calls.call_function_entry kind_sorted plain_sorted entry_sorted (args_sorted1 _) ?_
 unfold Builtin.«sorted»
 refine wpAny_bind (m := checkCount "sorted" 1 1 _) (wpAny_pure (wpAny_bind (collect_set (A := X.A.in1) (I.ok.hd hc) T h1k fun h1 tk d acc ord hpm kk hacc => ?_)))
 obtain ⟨ys, hys, hS⟩ := set_texts T hpm hacc
 have hl := Tim.strs_len hS
 have hyl := hys.length_eq
 generalize acc.toList = vs at hS hl
 have SA : Tim.SortAs X.prog X.w h1 vs (Tim.ltS ys) oneType' := Tim.sa_strs hS
 refine wpAny_bind (wpAny_newList ?_ (sl_big (by omega)))
 have hB : (h1.push { cls := .type "list", data := .seq vs.toArray }).get? h1.objs.size = some (seqObj "list" vs.toArray 0) := Heap.get?_push_size _ rfl
 have k1 : ∀ {h6 : Heap}, (∀ b o, b ≠ h1.objs.size → (h1.push { cls := .type "list", data := .seq vs.toArray }).get? b = some o → h6.get? b = some o) → ∀ b o, h1.get? b = some o → h6.get? b = some o := fun k b o e => k b o (Nat.ne_of_lt (Heap.lt_size e)) (Heap.get?_push_of_some _ e)
 refine wpAny_bind (wpAny_holding (wpAny_call_entry slot_list_sort ⟨_, hB, rfl⟩ entry_list_sort ?_ (args_list_sort _)))
 refine Tim.list_sortW (s := { s with heap := h1.push { cls := .type "list", data := .seq vs.toArray }, toks := tk, drawn := d }) hB (sl_big (by omega)) SA.wo SA.same (fun h6 Q k h2 q => SA.kd _ _ _ _ (k1 k) h2 q) (fun h6 tk' i j x y C k e1 e2 q => SA.ask _ _ i j x y C (k1 k) e1 e2 fun tk2 => q tk2)
  fun h3 tk3 c pm hpm3 hs3 hkeep hD => ⟨_, rfl, wpAny_pure ⟨_, rfl, ?_⟩⟩
 have hp' : Srt.Pm ys.length pm := by rw [← hl]; exact hpm3
 have hN : s.heap.get? h1.objs.size = none := by
  cases e : s.heap.get? h1.objs.size with
  | none => rfl
  | some u => exact absurd (Heap.lt_size (kk _ _ e)) (Nat.lt_irrefl _)
 have hmem : ∀ i ∈ pm.toList, i < ys.length := fun i hi => by
  have : i ∈ pm := by simpa using hi
  have := hp'.perm.mem_iff.mp this
  simpa using this
 have vv : ∀ l : List Nat, (∀ i ∈ l, i < ys.length) → Vals ((l.map fun i => ys.getD i "").map V.str) (l.map fun i => vs.getD i Value.none) := by
  intro l
  induction l with
  | nil => intro _; exact .nil
  | cons i l ih =>
   intro hh
   have hi : i < vs.length := by have := hh i (List.mem_cons_self ..); omega
   obtain ⟨t, e, _⟩ := Tim.strs_at hS i _ (List.getElem?_eq_getElem hi)
   refine .cons ?_ (ih fun j hj => hh j (List.mem_cons_of_mem _ hj))
   show RelV (V.str (ys.getD i "")) (vs.getD i Value.none)
   rw [List.getD_eq_getElem?_getD (l := vs), List.getElem?_eq_getElem hi]
   exact ⟨t, e⟩
 obtain ⟨hn, I2⟩ := one_new (tk := tk3) (vs := (pm.toList.map fun i => ys.getD i "").map V.str) (I.drw d) (fun b u e => k1 hkeep b u (kk b u e)) hN (by rw [List.length_map, List.length_map, Array.length_toList, hp'.size]; exact sl_big (by omega)) ⟨_, c, vv pm.toList hmem, hD⟩
 refine ⟨.ref h1.objs.size, _, I2, rfl, q _ _ hn ((perm_getD' ys pm hp').trans hys) ?_⟩
 have nd : ys.Nodup := hys.nodup_iff.mpr T.nd
 have hup := pm_up (n := ys.length) rfl nd hp' (by rw [← hl]; exact hs3)
 rw [List.map_map, List.pairwise_map, List.pairwise_iff_getElem]
 intro i j hi hj hij
 have hz2 : pm.toList.length = ys.length := by rw [Array.length_toList, hp'.size]
 have hu := hup i j hij (by omega)
 unfold ltX at hu
 rw [decide_eq_true_eq, pm_at hp' hi, pm_at hp' hj] at hu
 exact hu
end L2
namespace L2
open PySem PySem.Spec PyProof.Rows
noncomputable def Itk (d : Addr) (o : Obj) (kvs : List (Key × V)) : It :=
 ⟨fun i H => H d = some (.frz o (.dK kvs)) ∧ i < kvs.length, fun i H x H' => H' = H ∧ ∃ p, kvs[i]? = some p ∧ x = kV p.1, fun i H => H d = some (.frz o (.dK kvs)) ∧ kvs.length ≤ i⟩
theorem turn_keys {P : Program} {w : World} {K : PySem.W.Frag} {tg : Expr} (d it : Addr) (o : Obj) (kvs : List (Key × V)) {es : Array DictEntry} {ep : Nat} (hod : o.data = .dict es ep) :
  Turn P w K tg (Itk d o kvs) [it] it (fun i h => h.IsKeyIter it d i kvs.length ep) where
 mem := by simp
 obj := fun i h he c hc => by
  have hc := List.mem_singleton.mp hc
  subst hc
  obtain ⟨ob, g1, g2, g3⟩ := he
  exact ⟨ob, g1, fun v z => by rw [g3] at z; cases z⟩
 keep := fun i h h' he kk => he.at fun ob e => kk it (by simp) ob e
 item := by
  intro X hP hw hK hc i pins s σ H E I hf he hg
  subst hP hw hK
  obtain ⟨hd, hi⟩ := hg
  obtain ⟨vs, kv, da, lo⟩ := frz_at I hd hod
  obtain ⟨p, hp⟩ : ∃ p, kvs[i]? = some p := ⟨_, List.getElem?_eq_getElem hi⟩
  obtain ⟨q, hq, e1, e2⟩ := kv_get kv hp
  obtain ⟨f0, f1, f2, f3, f4, f5⟩ := hf it (by simp)
  have he' : s.heap.IsKeyIter it d i vs.length ep := by rw [← kv.length]; exact he
  refine wpAny_pyNext_dict_item (k := q.1) he' da hq fun key h1 hkey hit1 sb => ?_
  have I1 : Inv X pins σ H { s with heap := h1 } := I.turned (t' := s.toks) (fun b u hb e => (sb.2 b hb).trans e) f0 f1 f3 f4 f5
  refine ⟨key, rfl, letGo_keyiter hit1 ⟨kV p.1, H, I1, by rw [e1]; exact rel_key hkey, ⟨rfl, p, hp, rfl⟩, by rw [kv.length]; exact hit1, fun b hb => (hf b hb).1⟩⟩
 done := by
  intro X hP hw hK hc i pins s σ H E I hf he hg
  subst hP hw hK
  obtain ⟨hd, hi⟩ := hg
  obtain ⟨vs, kv, da, lo⟩ := frz_at I hd hod
  obtain ⟨f0, f1, f2, f3, f4, f5⟩ := hf it (by simp)
  have he' : s.heap.IsKeyIter it d i vs.length ep := by rw [← kv.length]; exact he
  exact wpAny_pyNext_dict_end (I.ok.hd hc) he' da (List.getElem?_eq_none (by rw [← kv.length]; exact hi)) fun h' eb => ⟨rfl, I.turned (t' := s.toks) (fun b u hb e => eb b u hb e) f0 f1 f3 f4 f5⟩
 self := fun A i s Q E he h => wpAny_pyIter_keyiter he h
def iKeys (td : TE) : TI := fun σ H R => td σ H fun x H1 => ∃ d o kvs, x = .ref d ∧ H1 d = some (.frz o (.dK kvs)) ∧ R (Itk d o kvs) H1
theorem pi_keys {X : Cx} {tg ob : Expr} {td : TE} (ho : PE X ob td) : PI X tg ob (iKeys td) := by
 intro pins s σ H R I h
 refine thn (ho pins s σ H _ I h) fun v s1 ⟨x, H1, I1, r1, d, o, kvs, ex, hd, q1⟩ => ?_
 subst ex
 obtain rfl : v = Value.ref d := r1
 obtain ⟨g1, z, lo, vs, kv, dd⟩ := I1.hok d _ hd
 obtain ⟨ep, da⟩ := dd.dictAt
 refine wpAny_pyIter_dict lo da ?_
 obtain ⟨o', es, g2, _, g3, _⟩ := id da
 rw [g1] at g2
 cases g2
 refine ⟨_, [_], _, Itk d o kvs, H1, rfl, I1.kept (t' := s1.toks) fun b u e => Heap.get?_push_of_some _ e, turn_keys d s1.heap.objs.size o kvs g3, ?_, fun b hb => ?_, q1⟩
 ·rw [kv.length]
  exact ⟨_, Heap.get?_push_size _ rfl, rfl, rfl⟩
 ·rw [List.mem_singleton.mp hb]
  exact I1.fpOk (Nat.le_refl _) (I1.hok.fresh (Nat.le_refl _))
theorem jt_keys {d : Addr} {o : Obj} {kvs : List (Key × V)} {H1 : Hp} (hd : H1 d = some (.frz o (.dK kvs))) : ∀ H, Same H1 H → (∀ i, i < kvs.length → (Itk d o kvs).go i H ∧ ∀ x H', (Itk d o kvs).yld i H x H' → H' = H ∧ x = (kvs.map fun p => kV p.1).getD i .non) ∧ (Itk d o kvs).stop kvs.length H := fun H s => by
 refine ⟨fun i hi => ⟨⟨s _ _ hd, hi⟩, fun x H' y => ?_⟩, ⟨s _ _ hd, Nat.le_refl _⟩⟩
 obtain ⟨e, p, hp, ex⟩ := y
 refine ⟨e, ?_⟩
 rw [ex, List.getD_eq_getElem?_getD, List.getElem?_map, hp]
 rfl
theorem lc_fmap {k : Nat} {mp : List Nat} {σ : St} {g : TG} {tc : TT} {te : TE} {J : It} {H1 : Hp} {Q : VK} (n : Nat) (xs : Nat → V) (t : Nat → Bool) (R : Nat → V → Hp → Prop) (hn : n ≤ sizeLine)
  (hR : ∀ i v H H', TSame H H' → R i v H → R i v H')
  (hJ : ∀ H, Same H1 H → (∀ i, i < n → J.go i H ∧ ∀ x H', J.yld i H x H' → H' = H ∧ x = xs i) ∧ J.stop n H)
  (step : ∀ i H (Qt : VK) (Qf : Hp → Prop), i < n → Same H1 H → (t i = true → ∀ v H6, Same H H6 → R i v H6 → Qt v H6) → (t i = false → ∀ H6, Same H H6 → Qf H6) → g (xs i) (lcS k mp σ) H fun σ4 H4 => tc σ4 H4 fun b H5 => if b = true then te σ4 H5 Qt else Qf H5)
  (done : ∀ D vs H', vs.length = ((List.range n).filter t).length → (∀ (j i : Nat) (v : V), ((List.range n).filter t)[j]? = some i → vs[j]? = some v → R i v H') → Same H1 H' → H1 D = none → H' D = some (.lst vs) → Q (.ref D) H') : lcPost k mp σ g tc te J H1 Q := by
 intro D hD
 refine ⟨fun i m acc H => m = n - i ∧ i ≤ n ∧ acc.length = ((List.range i).filter t).length ∧ Same H1 H ∧ H D = some (.lst acc) ∧ ∀ (j q : Nat) (v : V), ((List.range i).filter t)[j]? = some q → acc[j]? = some v → R q v H,
  ⟨n, by simp, Nat.zero_le _, rfl, same_upd_new hD, upd_same, fun j q v e _ => by simp at e⟩, ?_⟩
 rintro i m acc H ⟨rfl, hi, hl, hs, hDa, hr⟩
 obtain ⟨j1, j2⟩ := hJ H hs
 by_cases hlt : i < n
 ·refine .inr ⟨(j1 i hlt).1, fun x H3 y => ?_⟩
  obtain ⟨e1, e2⟩ := (j1 i hlt).2 x H3 y
  subst e1 e2
  refine step i H3 _ _ hlt hs (fun ht v H6 s6 r6 => ⟨s6 _ _ hDa, ?_, n - (i + 1), by omega, rfl, hlt, ?_, fun b o e => ?_, upd_same, fun j q u e1 e2 => ?_⟩) (fun ht H6 s6 => ⟨n - (i + 1), by omega, rfl, hlt, ?_, hs.trans s6, s6 _ _ hDa, fun j q u e1 e2 => ?_⟩)
  ·have := List.length_filter_le t (List.range i)
   rw [List.length_range] at this
   omega
  ·rw [List.range_succ, List.filter_append, List.length_append, List.length_append, hl]
   simp [ht]
  ·rw [upd_ne (ne_of_none e hD)]
   exact s6 _ _ (hs b o e)
  ·have ts : TSame H6 (upd H6 D (.lst (acc ++ [v]))) := tsame_upd_lst (s6 _ _ hDa)
   rw [List.range_succ, List.filter_append] at e1
   rcases Nat.lt_trichotomy j acc.length with h | h | h
   ·rw [List.getElem?_append_left h] at e2
    rw [List.getElem?_append_left (by omega)] at e1
    exact hR _ _ _ _ (s6.tup.trans ts) (hr j q u e1 e2)
   ·subst h
    rw [List.getElem?_append_right (Nat.le_refl _), Nat.sub_self] at e2
    rw [List.getElem?_append_right (by omega), hl, Nat.sub_self] at e1
    simp [ht] at e1 e2
    subst e1 e2
    exact hR _ _ _ _ ts r6
   ·rw [List.getElem?_eq_none (by rw [List.length_append, List.length_singleton]; omega)] at e2
    cases e2
  ·rw [List.range_succ, List.filter_append, List.length_append, hl]
   simp [ht]
  ·rw [List.range_succ, List.filter_append] at e1
   have hj : j < acc.length := (List.getElem?_eq_some_iff.mp e2).1
   rw [List.getElem?_append_left (by omega)] at e1
   exact hR _ _ _ _ s6.tup (hr j q u e1 e2)
 ·have e : i = n := by omega
  subst e
  exact .inl ⟨j2, done D acc H hl hr hs hD hDa⟩
section
variable {prog : Program} {w : World} {A : Around} {E : Value → Shared → Prop} {s : Shared}
theorem nx_item {J t : Addr} {i : Nat} {its : Array Value} {x : Value} {Q : Value → Shared → Prop} (hJ : s.heap.IsTupleIter J t i) (ht : s.heap.IsTuple t its) (hx : its[i]? = some x)
  (q : ∀ h1, h1.IsTupleIter J t (i + 1) → Heap.SameBut J s.heap h1 → Q x { s with heap := h1 }) : wpAny (model prog w) A (Builtin.SmallTypes.nextOf (.ref J)) Q E s := by
 obtain ⟨oj, gj, cj, dj⟩ := id hJ
 obtain ⟨ot, gt, _, nt, dt⟩ := ht
 unfold Builtin.SmallTypes.nextOf
 refine wpAny_bind (wpAny_callSpecial?_slot (name := Str.ofString "__next__") hJ.typeIs F.slot_tuple_iterator_next (wpAny_call_entry F.slot_tuple_iterator_next hJ.typeIs F.entry_tuple_iterator_next ?_ (F.args_tuple_iterator_next_1 _)))
 show wpAny _ _ (field (.ref J) 0 >>= _) _ _ s
 refine wpAny_bind (wpAny_field gj dj (x := .ref t) rfl ?_)
 dsimp only
 rw [if_neg (show ¬ ((Value.ref t == Value.none) = true) from fun z => Bool.false_ne_true z)]
 refine wpAny_bind (wpAny_field gj dj (x := .int i 0) rfl ?_)
 dsimp only
 refine wpAny_bind (wpAny_seqItems gt dt ?_)
 simp only [Int.toNat_natCast, hx]
 refine wpAny_bind (wpAny_setField gj dj (by simp) (wpAny_pure ⟨x, rfl, wpAny_pure (q _ ⟨_, Heap.get?_update_self _ gj (Obj.isFreed_of_fields (Obj.data_mapFields dj _)), (Obj.cls_mapFields ..).trans cj, ?_⟩ (Heap.SameBut.update ..))⟩))
 rw [Obj.data_mapFields dj]
 simp [rawInt]
theorem nx_end {J t : Addr} {i : Nat} {its : Array Value} {Q : Value → Shared → Prop} (hh : A.handled = none) (hJ : s.heap.IsTupleIter J t i) (ht : s.heap.IsTuple t its) (hx : its[i]? = none)
  (q : ∀ h1 e, Heap.ExtBut J s.heap h1 → (∃ o, h1.get? e = some o ∧ o.cls = .type "StopIteration") → E (.ref e) { s with heap := h1 }) : wpAny (model prog w) A (Builtin.SmallTypes.nextOf (.ref J)) Q E s := by
 obtain ⟨oj, gj, cj, dj⟩ := id hJ
 obtain ⟨ot, gt, _, nt, dt⟩ := ht
 unfold Builtin.SmallTypes.nextOf
 refine wpAny_bind (wpAny_callSpecial?_slot (name := Str.ofString "__next__") hJ.typeIs F.slot_tuple_iterator_next (wpAny_call_entry F.slot_tuple_iterator_next hJ.typeIs F.entry_tuple_iterator_next ?_ (F.args_tuple_iterator_next_1 _)))
 show wpAny _ _ (field (.ref J) 0 >>= _) _ _ s
 refine wpAny_bind (wpAny_field gj dj (x := .ref t) rfl ?_)
 dsimp only
 rw [if_neg (show ¬ ((Value.ref t == Value.none) = true) from fun z => Bool.false_ne_true z)]
 refine wpAny_bind (wpAny_field gj dj (x := .int i 0) rfl ?_)
 dsimp only
 refine wpAny_bind (wpAny_seqItems gt dt ?_)
 simp only [Int.toNat_natCast, hx]
 refine wpAny_bind (wpAny_rule (wpAny_bind (wpAny_setField gj dj (by simp) ?_)))
 show wpAny _ _ (newExc (.type "StopIteration") [] >>= _) _ _ _
 refine wpAny_bind ?_
 simp only [newExc, newTuple]
 refine wpAny_bind (wpAny_newObj_type (wpAny_bind (m := firstArgMember _ _) (wpAny_of_eq (a := Value.none) (by first | rfl | (simp only [firstArgMember]; rfl)) (wpAny_newObj_type ?_ (by size_fits)))) (by size_fits))
 simp only [raiseNew]
 refine wpAny_bind (wpAny_handled ?_)
 first | rw [show A.in1.handled = none from hh] | rw [hh]
 exact wpAny_bind (wpAny_pure (wpAny_throw (q _ _ (((Heap.SameBut.update ..).extBut.push _).push _) ⟨_, Heap.get?_push_size _ rfl, rfl⟩)))
theorem z_item {z TI TO i1 i2 l1 l2 : Addr} {n1 n2 : Nat} {xs ys : Array Value} {x y u v : Value} {Q : Value → Shared → Prop} (D : ZipApart z TI TO i1 i2 l1 l2) (zz : IsZip s.heap z TI TO .none) (pI : IsPair s.heap TI (.ref i1) (.ref i2)) (pO : IsPair s.heap TO u v)
  (j1 : s.heap.IsTupleIter i1 l1 n1) (j2 : s.heap.IsTupleIter i2 l2 n2) (t1 : s.heap.IsTuple l1 xs) (t2 : s.heap.IsTuple l2 ys) (ex : xs[n1]? = some x) (ey : ys[n2]? = some y)
  (q : ∀ g, IsZip g z TI TO (rawInt s.heap.objs.size) → IsPair g TO x y → g.IsTupleIter i1 l1 (n1 + 1) → g.IsTupleIter i2 l2 (n2 + 1) → IsPair g s.heap.objs.size x y → (∀ c o, c ≠ z → c ≠ TO → c ≠ i1 → c ≠ i2 → s.heap.get? c = some o → g.get? c = some o) → Q (.ref s.heap.objs.size) { s with heap := g }) :
  wpAny (model prog w) A (Builtin.«zip.__next__» ⟨[.ref z], []⟩) (fun fin s' => ∃ v, fin = .done (.ret v) ∧ Q v s') E s := by
 show wpAny _ _ (field (.ref z) 2 >>= _) _ _ _
 refine wpAny_bind (wpAny_field zz rfl (x := .bool false) rfl (show wpAny _ _ (field (.ref z) 3 >>= _) _ _ _ from wpAny_bind (wpAny_field zz rfl (x := .ref TI) rfl (wpAny_bind (wpAny_seqItems pI rfl ?_)))))
 refine (show wpAny _ _ (Builtin.SmallTypes.ownedTupleIsFree (.ref z) >>= _) _ _ _ from wpAny_bind ?_)
 unfold Builtin.SmallTypes.ownedTupleIsFree
 refine wpAny_bind (wpAny_field zz rfl (x := .none) rfl (wpAny_pure ?_))
 simp only [if_true]
 refine wpAny_bind (wpAny_rule (wpAny_bind (wpAny_field zz rfl (x := .ref TO) rfl (wpAny_bind (wpAny_setField_rec zz (by simp) fun g1 z1 m1 => wpAny_bind ?_)))))
 replace z1 : IsZip g1 z TI TO .ellipsis := z1
 simp only [List.zipIdx_cons, List.zipIdx_nil, List.forIn_cons, List.forIn_nil]
 refine wpAny_bind (wpAny_bind (wpAny_onRaise (show wpAny _ _ (Builtin.SmallTypes.nextOf (.ref i1) >>= _) _ _ _ from wpAny_bind (nx_item (j1.extBut m1.extBut D.i1z) (t1.extBut m1.extBut D.l1z) ex fun g2 j12 m2 => wpAny_pure ?_))))
 have o2 : IsPair g2 TO u v := m2.extBut _ _ D.TOi1 (m1.extBut _ _ D.TOz pO)
 refine wpAny_bind (wpAny_seqItems o2 rfl (wpAny_bind (wpAny_updateSeq_pair o2 fun g3 o3 m3 => wpAny_bind (wpAny_letGo (wpAny_pure ?_)))))
 replace o3 : IsPair g3 TO x v := o3
 refine wpAny_bind (wpAny_bind (wpAny_onRaise (show wpAny _ _ (Builtin.SmallTypes.nextOf (.ref i2) >>= _) _ _ _ from wpAny_bind (nx_item (((j2.extBut m1.extBut D.i2z).extBut m2.extBut D.i12.symm).extBut m3.extBut D.TOi2.symm) (((t2.extBut m1.extBut D.l2z).extBut m2.extBut D.l2i1).extBut m3.extBut D.l2TO) ey fun g4 j24 m4 => wpAny_pure ?_))))
 have o4 : IsPair g4 TO x v := m4.extBut _ _ D.TOi2 o3
 refine wpAny_bind (wpAny_seqItems o4 rfl (wpAny_bind (wpAny_updateSeq_pair o4 fun g5 o5 m5 => wpAny_bind (wpAny_letGo (wpAny_pure (wpAny_pure ?_))))))
 replace o5 : IsPair g5 TO x y := o5
 refine wpAny_bind (wpAny_seqItems o5 rfl (wpAny_bind (wpAny_newTuple ?_)))
 have sz : g5.objs.size = s.heap.objs.size := by rw [m5.1, m4.1, m3.1, m2.1, m1.1]
 have z5 : IsZip g5 z TI TO .ellipsis := m5.extBut _ _ D.TOz.symm (m4.extBut _ _ D.i2z.symm (m3.extBut _ _ D.TOz.symm (m2.extBut _ _ D.i1z.symm z1)))
 have k5 : ∀ c o, c ≠ z → c ≠ TO → c ≠ i1 → c ≠ i2 → s.heap.get? c = some o → g5.get? c = some o := fun c o a1 a2 a3 a4 e => m5.extBut _ _ a2 (m4.extBut _ _ a4 (m3.extBut _ _ a2 (m2.extBut _ _ a3 (m1.extBut _ _ a1 e))))
 have j15 : g5.IsTupleIter i1 l1 (n1 + 1) := ((j12.extBut m3.extBut D.TOi1.symm).extBut m4.extBut D.i12).extBut m5.extBut D.TOi1.symm
 have j25 : g5.IsTupleIter i2 l2 (n2 + 1) := j24.extBut m5.extBut D.TOi2.symm
 have zl : z < g5.objs.size := Heap.lt_size z5
 refine (show wpAny _ _ (Builtin.SmallTypes.ownedTupleHandOut (.ref z) (.ref g5.objs.size) >>= _) _ _ _ from wpAny_bind ?_)
 unfold Builtin.SmallTypes.ownedTupleHandOut
 have z6 : IsZip (g5.push { cls := .type "tuple", data := .seq #[x, y] }) z TI TO .ellipsis := Heap.get?_push_of_some _ z5
 refine wpAny_bind (wpAny_setField_rec z6 (by simp) fun g7 z7 m7 => ?_)
 replace z7 : IsZip g7 z TI TO (rawInt g5.objs.size) := z7
 refine wpAny_setField_rec z7 (by simp) fun g8 z8 m8 => ?_
 replace z8 : IsZip g8 z TI TO (rawInt g5.objs.size) := z8
 have up : ∀ c o, c ≠ z → g5.get? c = some o → g8.get? c = some o := fun c o a1 e => m8.extBut _ _ a1 (m7.extBut _ _ a1 (Heap.get?_push_of_some _ e))
 have p8 : IsPair g8 g5.objs.size x y := m8.extBut _ _ (Nat.ne_of_gt zl) (m7.extBut _ _ (Nat.ne_of_gt zl) (Heap.get?_push_size _ rfl))
 rw [sz] at z8 p8
 refine wpAny_pure ⟨.ref g5.objs.size, rfl, ?_⟩
 rw [sz]
 exact q g8 z8 (up _ _ D.TOz o5) (j15.at fun o e => up _ o D.i1z e) (j25.at fun o e => up _ o D.i2z e) p8 fun c o a1 a2 a3 a4 e => up c o a1 (k5 c o a1 a2 a3 a4 e)
theorem z_end {z TI TO i1 i2 l1 l2 : Addr} {n1 n2 : Nat} {xs ys : Array Value} {u v : Value} {Q : PySem.Fin → Shared → Prop} (hh : A.handled = none) (D : ZipApart z TI TO i1 i2 l1 l2) (zz : IsZip s.heap z TI TO .none) (pI : IsPair s.heap TI (.ref i1) (.ref i2))
  (j1 : s.heap.IsTupleIter i1 l1 n1) (t1 : s.heap.IsTuple l1 xs) (ex : xs[n1]? = none)
  (q : ∀ g e, (∀ c o, c ≠ z → c ≠ i1 → s.heap.get? c = some o → g.get? c = some o) → (∃ o, g.get? e = some o ∧ o.cls = .type "StopIteration") → E (.ref e) { s with heap := g }) :
  wpAny (model prog w) A (Builtin.«zip.__next__» ⟨[.ref z], []⟩) Q E s := by
 show wpAny _ _ (field (.ref z) 2 >>= _) _ _ _
 refine wpAny_bind (wpAny_field zz rfl (x := .bool false) rfl (show wpAny _ _ (field (.ref z) 3 >>= _) _ _ _ from wpAny_bind (wpAny_field zz rfl (x := .ref TI) rfl (wpAny_bind (wpAny_seqItems pI rfl ?_)))))
 refine (show wpAny _ _ (Builtin.SmallTypes.ownedTupleIsFree (.ref z) >>= _) _ _ _ from wpAny_bind ?_)
 unfold Builtin.SmallTypes.ownedTupleIsFree
 refine wpAny_bind (wpAny_field zz rfl (x := .none) rfl (wpAny_pure ?_))
 simp only [if_true]
 refine wpAny_bind (wpAny_rule (wpAny_bind (wpAny_field zz rfl (x := .ref TO) rfl (wpAny_bind (wpAny_setField_rec zz (by simp) fun g1 z1 m1 => wpAny_bind ?_)))))
 replace z1 : IsZip g1 z TI TO .ellipsis := z1
 simp only [List.zipIdx_cons, List.zipIdx_nil, List.forIn_cons, List.forIn_nil]
 refine wpAny_bind (wpAny_bind (wpAny_onRaise (show wpAny _ _ (Builtin.SmallTypes.nextOf (.ref i1) >>= _) _ _ _ from wpAny_bind (nx_end hh (j1.extBut m1.extBut D.i1z) (t1.extBut m1.extBut D.l1z) ex fun g2 e m2 ⟨oe, ge, ce⟩ => ?_))))
 have z2 : IsZip g2 z TI TO .ellipsis := m2 _ _ D.i1z.symm z1
 have ez : e ≠ z := fun x => by subst x; rw [z2] at ge; cases ge; simp at ce
 exact wpAny_setField_rec z2 (by simp) fun g3 _ m3 => q g3 e (fun c o a1 a3 x => m3.extBut _ _ a1 (m2 _ _ a3 (m1.extBut _ _ a1 x))) ⟨oe, m3.extBut _ _ ez ge, ce⟩
theorem pn_item {z TI TO i1 i2 l1 l2 : Addr} {n1 n2 : Nat} {xs ys : Array Value} {x y u v : Value} {Q : Option Value → Shared → Prop} (D : ZipApart z TI TO i1 i2 l1 l2) (zz : IsZip s.heap z TI TO .none) (pI : IsPair s.heap TI (.ref i1) (.ref i2)) (pO : IsPair s.heap TO u v)
  (j1 : s.heap.IsTupleIter i1 l1 n1) (j2 : s.heap.IsTupleIter i2 l2 n2) (t1 : s.heap.IsTuple l1 xs) (t2 : s.heap.IsTuple l2 ys) (ex : xs[n1]? = some x) (ey : ys[n2]? = some y)
  (q : ∀ g, IsZip g z TI TO (rawInt s.heap.objs.size) → IsPair g TO x y → g.IsTupleIter i1 l1 (n1 + 1) → g.IsTupleIter i2 l2 (n2 + 1) → IsPair g s.heap.objs.size x y → (∀ c o, c ≠ z → c ≠ TO → c ≠ i1 → c ≠ i2 → s.heap.get? c = some o → g.get? c = some o) → Q (some (.ref s.heap.objs.size)) { s with heap := g }) :
  wpAny (model prog w) A (pyNext (.ref z)) Q E s := by
 unfold pyNext
 exact wpAny_bind (wpAny_attempt (wpAny_callSpecial?_slot (name := Str.ofString "__next__") ⟨_, zz, rfl⟩ F.slot_zip_next (wpAny_call_entry F.slot_zip_next ⟨_, zz, rfl⟩ F.entry_zip_next (z_item D zz pI pO j1 j2 t1 t2 ex ey fun g a1 a2 a3 a4 a5 a6 => wpAny_pure (q g a1 a2 a3 a4 a5 a6)) (F.args_zip_next_1 _))))
theorem pn_end {z TI TO i1 i2 l1 l2 : Addr} {n1 : Nat} {xs : Array Value} {Q : Option Value → Shared → Prop} (hh : A.handled = none) (D : ZipApart z TI TO i1 i2 l1 l2) (zz : IsZip s.heap z TI TO .none) (pI : IsPair s.heap TI (.ref i1) (.ref i2))
  (j1 : s.heap.IsTupleIter i1 l1 n1) (t1 : s.heap.IsTuple l1 xs) (ex : xs[n1]? = none) (q : ∀ g, (∀ c o, c ≠ z → c ≠ i1 → s.heap.get? c = some o → g.get? c = some o) → Q none { s with heap := g }) : wpAny (model prog w) A (pyNext (.ref z)) Q E s := by
 unfold pyNext
 refine wpAny_bind (wpAny_attempt (wpAny_callSpecial?_slot (name := Str.ofString "__next__") ⟨_, zz, rfl⟩ F.slot_zip_next (wpAny_call_entry F.slot_zip_next ⟨_, zz, rfl⟩ F.entry_zip_next (z_end (u := .none) (v := .none) (n2 := 0) (ys := #[]) hh D zz pI j1 t1 ex fun g e k ⟨oe, ge, ce⟩ => ?_) (F.args_zip_next_1 _))))
 exact wpAny_bind (wpAny_isInstance (T := "StopIteration") (b := true) ⟨oe, ge, ce⟩ isSubtype_stop (wpAny_pure (q _ k)))
end
theorem Inv.laidM {X : Cx} {pins : List (Addr × Obj)} {σ : St} {H : Hp} {s : Shared} {h' : Heap} {a : Addr} {ch : List Addr} {o : HO} {t' : Nat} (I : Inv X pins σ H s) (k : ∀ b u, b ∉ ch → s.heap.get? b = some u → h'.get? b = some u) (hf : ∀ b ∈ ch, FpOk X pins H b)
  (hp : s.heap.objs.size ≤ a) (new : ObjOk X.prog X.w (upd H a o) h' a o) : Inv X pins σ (upd H a o) { s with heap := h', toks := t' } := by
 have hn : H a = none := I.hok.fresh hp
 have nit : ∀ b u, H b = some u → b ∉ ch := fun b u e z => by
  rw [(hf b z).1] at e
  cases e
 refine I.step (g' := s.gens) (d' := s.drawn) (ch := ch) (fun b hb => ?_) (fun b u _ _ hc e _ => k b u hc e) (fun b u _ _ hc e _ => ⟨u.slots, k b u hc e⟩) (fun b u _ e n => ?_) (fun b u hc e => ⟨u, k b u hc e⟩) (fun b xs e => ?_) (fun b u xs e => ?_) (fun b ps e => ⟨#[], ?_⟩) (fun m hm => ?_) (fun b u e => ?_) I.bare
 ·obtain ⟨f0, f1, f2, f3, f4, f5⟩ := hf b hb
  exact ⟨f3, f1, f4, f5⟩
 ·rw [upd_ne (Nat.ne_of_lt (Nat.lt_of_lt_of_le (Heap.lt_size e) hp))]
  exact n
 ·rw [upd_ne (ne_of_none e hn)]; exact e
 ·rw [upd_ne (ne_of_none e hn)]; exact e
 ·rw [upd_ne (ne_of_none e hn), e]; simp
 ·obtain ⟨o, es, ep, ho, r⟩ := hm
  exact ⟨o, es, ep, k _ o (fun z => (hf _ z).2.1 rfl) ho, r⟩
 ·by_cases hb : b = a
  ·subst hb
   rw [upd_same] at e
   cases e
   exact new
  ·rw [upd_ne hb] at e
   refine (I.hok b u e).stay (fun c v hc q => k c v ?_ q) (fun c q => by rw [upd_ne (ne_of_none q hn)]; exact q) fun c xs q => by rw [upd_ne (ne_of_none q hn)]; exact q
   rcases hc with z | z
   ·rw [z]; exact nit b u e
   ·exact nit c _ z
theorem Inv.turnedM {X : Cx} {pins : List (Addr × Obj)} {σ : St} {H : Hp} {s : Shared} {h' : Heap} {ch : List Addr} {t' : Nat} (I : Inv X pins σ H s) (k : ∀ b u, b ∉ ch → s.heap.get? b = some u → h'.get? b = some u) (hf : ∀ b ∈ ch, FpOk X pins H b) : Inv X pins σ H { s with heap := h', toks := t' } := by
 have nit : ∀ b u, H b = some u → b ∉ ch := fun b u e z => by
  rw [(hf b z).1] at e
  cases e
 refine I.step (g' := s.gens) (d' := s.drawn) (ch := ch) (fun b hb => ?_) (fun b u _ _ hc e _ => k b u hc e) (fun b u _ _ hc e _ => ⟨u.slots, k b u hc e⟩) (fun b u _ e n => n) (fun b u hc e => ⟨u, k b u hc e⟩) (fun b xs e => e) (fun b u xs e => e) (fun b ps e => ⟨#[], by rw [e]; simp⟩) (fun m hm => ?_) (fun b u e => ?_) I.bare
 ·obtain ⟨f0, f1, f2, f3, f4, f5⟩ := hf b hb
  exact ⟨f3, f1, f4, f5⟩
 ·obtain ⟨o, es, ep, ho, r⟩ := hm
  exact ⟨o, es, ep, k _ o (fun z => (hf _ z).2.1 rfl) ho, r⟩
 ·refine (I.hok b u e).stay (fun c v hc q => k c v ?_ q) (fun c q => q) fun c xs q => q
  rcases hc with z | z
  ·rw [z]; exact nit b u e
  ·exact nit c _ z
def Itz (a b : Addr) : It :=
 ⟨fun i H => ∃ xs x ys y, H a = some (.tup xs) ∧ xs[i]? = some x ∧ H b = some (.tup ys) ∧ ys[i]? = some y, fun i H v H' => ∃ t x y, H t = none ∧ v = .ref t ∧ H' = upd H t (.tup [x, y]) ∧ (∀ xs, H a = some (.tup xs) → xs[i]? = some x) ∧ ∀ ys, H b = some (.tup ys) → ys[i]? = some y,
  fun i H => ∃ xs, H a = some (.tup xs) ∧ xs.length ≤ i⟩
theorem apart {n : Nat} {a b : Addr} (ha : a ∉ [n + 4, n + 3, n, n + 1]) (hb : b ∉ [n + 4, n + 3, n, n + 1]) : ZipApart (n + 4) (n + 2) (n + 3) n (n + 1) a b := by
 simp only [List.mem_cons, List.not_mem_nil, or_false, not_or] at ha hb
 refine ⟨?_, ?_, ?_, ?_, ?_, ?_, ?_, ?_, ?_, ?_, ha.1, ha.2.1, ha.2.2.1, ha.2.2.2, hb.1, hb.2.1, hb.2.2.1, hb.2.2.2⟩ <;> (intro z; have z : (_ : Nat) = _ := z; omega)
def zSt (a b : Addr) (n : Nat) (i : Nat) (h : Heap) : Prop := IsZip h (n + 4) (n + 2) (n + 3) .none ∧ IsPair h (n + 2) (.ref n) (.ref (n + 1)) ∧ (∃ u v, IsPair h (n + 3) u v) ∧ h.IsTupleIter n a i ∧ h.IsTupleIter (n + 1) b i
theorem turn_zip {P : Program} {w : World} {K : PySem.W.Frag} {elts : List Expr} {k : Nat} {pos : Pos} (a b : Addr) (n : Nat) : Turn P w K (.Tuple elts k pos) (Itz a b) [n + 4, n + 2, n + 3, n, n + 1] (n + 4) (zSt a b n) where
 mem := by simp
 obj := fun i h ⟨s1, s2, ⟨u, v, s3⟩, ⟨o4, e4, c4, d4⟩, ⟨o5, e5, c5, d5⟩⟩ c hc => by
  have hc : c = n + 4 ∨ c = n + 2 ∨ c = n + 3 ∨ c = n ∨ c = n + 1 := by simpa using hc
  rcases hc with z | z | z | z | z
  ·subst z; exact ⟨_, s1, fun v z => by have z' : Data.fields _ = Data.cell v := z; cases z'⟩
  ·subst z; exact ⟨_, s2, fun v z => by have z' : Data.seq _ _ = Data.cell v := z; cases z'⟩
  ·subst z; exact ⟨_, s3, fun v z => by have z' : Data.seq _ _ = Data.cell v := z; cases z'⟩
  ·subst z; exact ⟨o4, e4, fun v z => by rw [d4] at z; cases z⟩
  ·subst z; exact ⟨o5, e5, fun v z => by rw [d5] at z; cases z⟩
 keep := fun i h h' ⟨s1, s2, ⟨u, v, s3⟩, s4, s5⟩ kk => ⟨kk _ (by simp) _ s1, kk _ (by simp) _ s2, ⟨u, v, kk _ (by simp) _ s3⟩, s4.at fun o e => kk n (by simp) o e, s5.at fun o e => kk (n + 1) (by simp) o e⟩
 item := by
  intro X hP hw hK hc i pins s σ H E I hf ⟨s1, s2, ⟨u, v, s3⟩, s4, s5⟩ hg
  subst hP hw hK
  obtain ⟨xs, x, ys, y, ha, hx, hb, hy⟩ := hg
  obtain ⟨_, its, rv, p1, _⟩ := (show ObjOk X.prog X.w H s.heap a (.tup xs) from I.hok a _ ha)
  obtain ⟨_, jts, rw', p2, _⟩ := (show ObjOk X.prog X.w H s.heap b (.tup ys) from I.hok b _ hb)
  obtain ⟨x', hx', rx⟩ := rv.get hx
  obtain ⟨y', hy', ry⟩ := rw'.get hy
  have nin : ∀ c o, H c = some o → c ∉ [n + 4, n + 2, n + 3, n, n + 1] := fun c o e z => by rw [(hf c z).1] at e; cases e
  have sub : ∀ c, c ∉ [n + 4, n + 2, n + 3, n, n + 1] → c ∉ [n + 4, n + 3, n, n + 1] := fun c h z => h (by simp at z ⊢; rcases z with z | z | z | z <;> simp [z])
  refine pn_item (apart (sub a (nin a _ ha)) (sub b (nin b _ hb))) s1 s2 s3 s4 s5 (show s.heap.IsTuple a its.toArray from p1) (show s.heap.IsTuple b jts.toArray from p2) (x := x') (y := y') (by simpa using hx') (by simpa using hy') fun g z1 o1 j1 j2 t1 kk => ?_
  refine ⟨_, rfl, wpAny_letOwnedTupleGo_zip z1 fun g2 z2 sb => ?_⟩
  have k2 : ∀ c o, c ≠ n + 4 → g.get? c = some o → g2.get? c = some o := fun c o hc e => (sb.2 c hc).trans e
  have nz : s.heap.objs.size ≠ n + 4 := Nat.ne_of_gt (Heap.lt_size s1)
  have t2 := k2 _ _ nz t1
  have lt3 : n + 3 < s.heap.objs.size := Heap.lt_size s3
  have d1 : n + 3 ≠ n + 4 := by omega
  have d2 : n ≠ n + 4 := by omega
  have d3 : n + 1 ≠ n + 4 := by omega
  have e1 : n + 2 ≠ n + 4 := by omega
  have e2 : n + 2 ≠ n + 3 := by omega
  have e3 : n + 2 ≠ n := by omega
  have e4 : n + 2 ≠ n + 1 := by omega
  refine ⟨.ref s.heap.objs.size, _, Inv.laidM (s := s) (a := s.heap.objs.size) (t' := s.toks) (o := .tup [x, y]) (ch := [n + 4, n + 2, n + 3, n, n + 1]) I (fun c o hc e => ?_) (fun c hc => hf c hc) (Nat.le_refl _) ?_, rfl, ⟨_, x, y, I.hok.fresh (Nat.le_refl _), rfl, rfl, fun xs' h' => ?_, fun ys' h' => ?_⟩, ⟨z2, k2 _ _ e1 (kk _ _ e1 e2 e3 e4 s2), ⟨x', y', k2 _ _ d1 o1⟩, j1.at fun o e => k2 _ o d2 e, j2.at fun o e => k2 _ o d3 e⟩, fun c hc => ?_⟩
  ·simp only [List.mem_cons, List.not_mem_nil, or_false, not_or] at hc
   exact k2 c o hc.1 (kk c o hc.1 hc.2.2.1 hc.2.2.2.1 hc.2.2.2.2 e)
  ·exact ⟨(show 2 ≤ sizeLine by rw [sizeLine_eq]; decide), [x', y'], .cons rx (.cons ry .nil), ⟨_, t2, rfl, _, rfl⟩, fun o q => by rw [t2] at q; cases q; rfl⟩
  ·rw [ha] at h'; cases h'; exact hx
  ·rw [hb] at h'; cases h'; exact hy
  ·rw [upd_ne]
   ·exact (hf c hc).1
   ·have hc' : c = n + 4 ∨ c = n + 2 ∨ c = n + 3 ∨ c = n ∨ c = n + 1 := by simpa using hc
    have lt4 : n + 4 < s.heap.objs.size := Heap.lt_size s1
    exact Nat.ne_of_lt (show (c : Nat) < s.heap.objs.size by rcases hc' with z | z | z | z | z <;> (rw [z]; first | omega | exact Nat.lt_of_le_of_lt (by omega) lt4))
 done := by
  intro X hP hw hK hc i pins s σ H E I hf ⟨s1, s2, ⟨u, v, s3⟩, s4, s5⟩ hg
  subst hP hw hK
  obtain ⟨xs, ha, hx⟩ := hg
  obtain ⟨_, its, rv, p1, _⟩ := (show ObjOk X.prog X.w H s.heap a (.tup xs) from I.hok a _ ha)
  have nin : a ∉ [n + 4, n + 2, n + 3, n, n + 1] := fun z => by rw [(hf a z).1] at ha; cases ha
  have sub : a ∉ [n + 4, n + 3, n, n + 1] := fun z => nin (by simp at z ⊢; rcases z with z | z | z | z <;> simp [z])
  have hl := rv.length
  exact pn_end (I.ok.hd hc) (apart sub sub) s1 s2 s4 (show s.heap.IsTuple a its.toArray from p1) (by simp; omega) fun g kk => ⟨rfl, Inv.turnedM (t' := s.toks) (ch := [n + 4, n + 2, n + 3, n, n + 1]) I (fun c o hc e => kk c o (fun z => hc (by simp [z])) (fun z => hc (by simp [z])) e) hf⟩
 self := fun _ _ _ _ _ ⟨s1, _⟩ h => wpAny_pyIter_zip s1 h
noncomputable abbrev tz1 (h : Heap) (p : Addr) : Heap := h.push { cls := .type "tuple_iterator", data := .fields #[.ref p, .int 0 0] }
noncomputable abbrev tz2 (h : Heap) (p r : Addr) : Heap := (tz1 h p).push { cls := .type "tuple_iterator", data := .fields #[.ref r, .int 0 0] }
noncomputable abbrev tz3 (h : Heap) (p r : Addr) : Heap := (tz2 h p r).push { cls := .type "tuple", data := .seq #[.ref h.objs.size, .ref (tz1 h p).objs.size] }
noncomputable abbrev tz4 (h : Heap) (p r : Addr) : Heap := (tz3 h p r).push { cls := .type "tuple", data := .seq #[.none, .none] }
noncomputable abbrev tz5 (h : Heap) (p r : Addr) : Heap := (tz4 h p r).push { cls := .type "zip", data := .fields #[.none, .bool false, .bool false, .ref (tz2 h p r).objs.size, .ref (tz3 h p r).objs.size] }
theorem meets_zipT (p r : Addr) (xs ys : Array Value) : Meets (Builtin.«zip.__new__» ⟨[.type "zip", .ref p, .ref r], []⟩) (fun _ R s => s.heap.IsTuple p xs ∧ s.heap.IsTuple r ys ∧ R (.ok (.ret (.ref (tz4 s.heap p r).objs.size))) { s with heap := tz5 s.heap p r }) :=
 .of_wp fun prog w A R s h => by
  obtain ⟨hp, gg, dd, tk, os⟩ := s; obtain ⟨t1, t2, h⟩ := h
  have hsub := sub_zip
  have T1 : Heap.IsTuple (Shared.heap ⟨hp, gg, dd, tk, os⟩) p xs := t1
  have T2 : Heap.IsTuple (Shared.heap ⟨hp.push { cls := .type "tuple_iterator", data := .fields #[.ref p, .int 0 0] }, gg, dd, tk, os⟩) r ys := t2.push _
  wp_walk using wpAny_pyIter_tuple T1, wpAny_pyIter_tuple T2
  exact ⟨_, rfl, h⟩
theorem call_zipT {prog : Program} {w : World} {A : Around} {E : Value → Shared → Prop} {s : Shared} {p r : Addr} {xs ys : Array Value} {Q : Value → Shared → Prop} (t1 : s.heap.IsTuple p xs) (t2 : s.heap.IsTuple r ys)
  (q : ∀ g, zSt p r s.heap.objs.size 0 g → (∀ c o, s.heap.get? c = some o → g.get? c = some o) → Q (.ref (s.heap.objs.size + 4)) { s with heap := g }) : wpAny (model prog w) A (call (.type "zip") [.ref p, .ref r]) Q E s := by
 refine callType_new F.called_zip (by decide) (F.typeCall_zip_2 _ _) (F.newCall_zip_2 _ _) (fun obj => F.args_object_init_3 obj _ _) F.entry_zip_new (meets_zipT p r xs ys) ⟨t1, t2, ?_⟩
 have y1 : (tz1 s.heap p).objs.size = s.heap.objs.size + 1 := Heap.size_push ..
 have y2 : (tz2 s.heap p r).objs.size = s.heap.objs.size + 2 := by rw [Heap.size_push, y1]
 have y3 : (tz3 s.heap p r).objs.size = s.heap.objs.size + 3 := by rw [Heap.size_push, y2]
 have y4 : (tz4 s.heap p r).objs.size = s.heap.objs.size + 4 := by rw [Heap.size_push, y3]
 have f5 : (tz5 s.heap p r).get? (tz4 s.heap p r).objs.size = some _ := Heap.get?_push_size _ rfl
 have f4 : (tz5 s.heap p r).get? (tz3 s.heap p r).objs.size = some _ := Heap.get?_push_of_some _ (Heap.get?_push_size _ rfl)
 have f3 : (tz5 s.heap p r).get? (tz2 s.heap p r).objs.size = some _ := Heap.get?_push_of_some _ (Heap.get?_push_of_some _ (Heap.get?_push_size _ rfl))
 have f2 : (tz5 s.heap p r).get? (tz1 s.heap p).objs.size = some _ := Heap.get?_push_of_some _ (Heap.get?_push_of_some _ (Heap.get?_push_of_some _ (Heap.get?_push_size _ rfl)))
 have f1 : (tz5 s.heap p r).get? s.heap.objs.size = some _ := Heap.get?_push_of_some _ (Heap.get?_push_of_some _ (Heap.get?_push_of_some _ (Heap.get?_push_of_some _ (Heap.get?_push_size _ rfl))))
 show _ ∧ _
 rw [y2, y3, y4] at f5
 rw [y1, y2] at f3
 rw [y3] at f4
 rw [y1] at f2
 rw [y4]
 exact ⟨⟨_, f5, rfl⟩, q _ ⟨f5, f3, ⟨_, _, f4⟩, ⟨_, f1, rfl, rfl⟩, ⟨_, f2, rfl, rfl⟩⟩ fun c o e => Heap.get?_push_of_some _ (Heap.get?_push_of_some _ (Heap.get?_push_of_some _ (Heap.get?_push_of_some _ (Heap.get?_push_of_some _ e))))⟩
theorem b_zip : bootBuiltins "zip" = some (.type "zip") := by decide +kernel
def iZip (ta : TA) : TI := fun σ H R => ta σ H fun vs H1 => ∃ a b xs ys, vs = [.ref a, .ref b] ∧ H1 a = some (.tup xs) ∧ H1 b = some (.tup ys) ∧ R (Itz a b) H1
theorem pi_zip {X : Cx} {elts : List Expr} {kt : Nat} {tpos : Pos} {l : Expr} {rs : List Expr} {ta : TA} {p pos : Pos} (hg : Gl X "zip") (hm : X.mg "zip" = none) (ha : PA X (l :: rs) ta) (hs : starEach (l :: rs) X.env = (false, eval l X.env) :: starEach rs X.env := by rfl) (hpl : (backTo pos (starEach rs X.env)).any (·.1) = false := by rfl) :
  PI X (.Tuple elts kt tpos) (.Call (.Name "zip" p) (l :: rs) [] pos) (iZip ta) := by
 intro pins s σ H R I h
 refine Call_ (ld_blt I hg hm b_zip (PyProof.Rows.callWith_type1 (thn (ha pos pins s σ H _ I h) fun us s1 ⟨vs, H1, I1, r1, q1⟩ => ?_) hs hpl))
 obtain ⟨a, b, xs, ys, e, h1, h2, q⟩ := q1
 subst e
 obtain ⟨u, u', rfl, ru, ru'⟩ := vals2 r1
 cases ru
 cases ru'
 obtain ⟨_, its, rv, p1, _⟩ := (show ObjOk X.prog X.w H1 s1.heap a (.tup xs) from I1.hok a _ h1)
 obtain ⟨_, jts, rw', p2, _⟩ := (show ObjOk X.prog X.w H1 s1.heap b (.tup ys) from I1.hok b _ h2)
 refine call_zipT (show s1.heap.IsTuple a its.toArray from p1) (show s1.heap.IsTuple b jts.toArray from p2) fun g st kk => ?_
 refine wpAny_pyIter_zip st.1 ?_
 refine ⟨s1.heap.objs.size + 4, [s1.heap.objs.size + 4, s1.heap.objs.size + 2, s1.heap.objs.size + 3, s1.heap.objs.size, s1.heap.objs.size + 1], _, _, H1, rfl, I1.kept (t' := s1.toks) fun c o e => kk c o e, turn_zip a b s1.heap.objs.size, st, fun c hc => ?_, q⟩
 have hc' : c = s1.heap.objs.size + 4 ∨ c = s1.heap.objs.size + 2 ∨ c = s1.heap.objs.size + 3 ∨ c = s1.heap.objs.size ∨ c = s1.heap.objs.size + 1 := by simpa using hc
 have hle : s1.heap.objs.size ≤ c := by rcases hc' with z | z | z | z | z <;> (rw [z]; first | exact Nat.le_refl _ | exact Nat.le_add_right _ _)
 exact I1.fpOk hle (I1.hok.fresh hle)
theorem for_zip {a b : Addr} {xs ys : List V} {g : TG} {tb : TS} {D : Ends} {σ : St} {H : Hp} (Pv : Nat → St → Hp → Prop) (hxy : ys.length = xs.length) (h0 : Pv 0 σ H) (hl : ∀ i σ H, i ≤ xs.length → Pv i σ H → H a = some (.tup xs) ∧ H b = some (.tup ys))
  (hs : ∀ i x y σ H t, xs[i]? = some x → ys[i]? = some y → H t = none → Pv i σ H → g (.ref t) σ (upd H t (.tup [x, y])) fun σ2 H2 => tb { D with nx := Pv (i + 1), ct := Pv (i + 1), bk := D.nx } σ2 H2) (hd : ∀ σ H, Pv xs.length σ H → D.nx σ H) :
  ∃ W : Nat → Nat → St → Hp → Prop, (∃ m, W 0 m σ H) ∧ ∀ i m σ H, W i m σ H →
   ((Itz a b).stop i H ∧ D.nx σ H) ∨ ((Itz a b).go i H ∧ ∃ N : St → Hp → Prop, (∀ σ' H', N σ' H' → ∃ m', m' < m ∧ W (i + 1) m' σ' H') ∧ ∀ x H', (Itz a b).yld i H x H' → g x σ H' fun σ2 H2 => tb { D with nx := N, ct := N, bk := D.nx } σ2 H2) := by
 refine ⟨fun i m σ H => m = xs.length - i ∧ i ≤ xs.length ∧ Pv i σ H, ⟨xs.length, by simp, Nat.zero_le _, h0⟩, ?_⟩
 rintro i m σ H ⟨rfl, hi, p⟩
 obtain ⟨qa, qb⟩ := hl i σ H hi p
 by_cases hlt : i < xs.length
 ·refine .inr ⟨⟨xs, xs[i], ys, ys[i], qa, by simp [hlt], qb, by simp [hxy, hlt]⟩, Pv (i + 1), fun σ' H' p' => ⟨xs.length - (i + 1), by omega, rfl, hlt, p'⟩, fun x H' y => ?_⟩
  obtain ⟨t, x, y, ht, rfl, rfl, hx, hy⟩ := y
  exact hs i x y σ H t (hx xs qa) (hy ys qb) ht p
 ·have e : i = xs.length := by omega
  subst e
  exact .inl ⟨⟨xs, qa, Nat.le_refl _⟩, hd σ H p⟩
def SeqAt' (H : Hp) (a : Addr) (ys : List V) : Prop := H a = some (.lst ys) ∨ H a = some (.tup ys)
theorem SeqAt'.same {H H' : Hp} {a : Addr} {ys : List V} (s : Same H H') (h : SeqAt' H a ys) : SeqAt' H' a ys := h.imp (s _ _) (s _ _)
theorem len_seq {K : PySem.W.Frag} {H : Hp} {a : Addr} {ys : List V} (h : SeqAt' H a ys) : LenV K (.ref a) H ys.length := h.elim (fun h => .inl ⟨_, SqL.of h, rfl⟩) fun h => .inr ⟨_, SqT.of h, rfl⟩
theorem ix_seqK {X : Cx} (K : PySem.W.Frag) (h : X.K = K := by rfl) : IxR X (rIx K) := by subst h; exact ix_seq
theorem seq_ix {K : PySem.W.Frag} {H : Hp} {a : Addr} {ys : List V} {i : Int} {v : V} {Q : VK} (h : SeqAt' H a ys) (e : atI ys i = some v) (q : Q v H) : rIx K (.ref a) (.int i) H Q :=
 h.elim (fun h => .inl ⟨a, ys, i, v, rfl, rfl, SqL.of h, e, q⟩) fun h => .inr (.inl ⟨a, ys, i, v, rfl, rfl, SqT.of h, e, q⟩)
end L2
namespace Sh
open PySem L2 PyProof.Rows
end Sh
namespace Sh
open PySem L2 PyProof.Rows
seal L2.PE L2.PS L2.PSs L2.PT L2.PW L2.PA L2.PI L2.PG L2.PGs L2.PO L2.PC L2.PCs L2.OpR L2.UnR L2.CallR L2.MtR L2.IxR L2.SlR
theorem valV_ks (g : Str → V) (y : Str) : ∀ ks : List Str, valV (ks.map fun x => ((Sum.inr x : Key), g x)) (Sum.inr y) = if y ∈ ks then some (g y) else none
 | [] => rfl
 | x :: ks => by
  have ih := valV_ks g y ks
  by_cases e : x = y
  ·subst e
   rw [List.map_cons, valV_pos rfl, if_pos List.mem_cons_self]
  ·rw [List.map_cons, valV_neg (fun q => e (Sum.inr.inj q)), ih]
   have : (y ∈ x :: ks) ↔ y ∈ ks := by
    rw [List.mem_cons]
    exact ⟨fun h => h.elim (fun q => absurd q.symm e) id, .inr⟩
   simp only [this]
theorem put_ks_old (g : Str → V) (y : Str) (v : V) (ks : List Str) (h : y ∈ ks) : putK (ks.map fun x => ((Sum.inr x : Key), g x)) (Sum.inr y) v = ks.map fun x => ((Sum.inr x : Key), if x = y then v else g x) := by
 unfold putK
 rw [valV_any, valV_ks, if_pos h]
 simp only [Option.isSome_some, if_true, List.map_map]
 apply List.map_congr_left
 intro x _
 by_cases e : x = y
 ·subst e
  simp
 ·have : ¬ (Sum.inr x : Key) = Sum.inr y := fun q => e (Sum.inr.inj q)
  simp [this, e]
end Sh
namespace Sh
open PySem L2 PyProof.Rows
end Sh
namespace Sh
open PySem L2 PyProof.Rows
seal L2.PE L2.PS L2.PSs L2.PT L2.PW L2.PA L2.PI L2.PG L2.PGs L2.PO L2.PC L2.PCs L2.OpR L2.UnR L2.CallR L2.MtR L2.IxR L2.SlR
theorem sorted_one : ∀ {l m : List (List Nat)}, l.Pairwise (· < ·) → m.Pairwise (· < ·) → (∀ x, x ∈ l ↔ x ∈ m) → l = m
 | [], [], _, _, _ => rfl
 | [], y :: m, _, _, h => absurd ((h y).mpr List.mem_cons_self) (by simp)
 | x :: l, [], _, _, h => absurd ((h x).mp List.mem_cons_self) (by simp)
 | x :: l, y :: m, hl, hm, h => by
  have h1 := List.pairwise_cons.mp hl
  have h2 := List.pairwise_cons.mp hm
  have e : x = y := by
   rcases List.mem_cons.mp ((h x).mp List.mem_cons_self) with z | z
   ·exact z
   ·rcases List.mem_cons.mp ((h y).mpr List.mem_cons_self) with z2 | z2
    ·exact z2.symm
    ·exact absurd (List.lt_trans (h1.1 y z2) (h2.1 x z)) (List.lt_irrefl _)
  subst e
  have ih := sorted_one h1.2 h2.2 fun z => by
   constructor
   ·intro hz
    rcases List.mem_cons.mp ((h z).mp (List.mem_cons_of_mem _ hz)) with q | q
    ·subst q
     exact absurd (h1.1 z hz) (List.lt_irrefl _)
    ·exact q
   ·intro hz
    rcases List.mem_cons.mp ((h z).mpr (List.mem_cons_of_mem _ hz)) with q | q
    ·subst q
     exact absurd (h2.1 z hz) (List.lt_irrefl _)
    ·exact q
  rw [ih]
def gD (ks : List Str) (g : Str → Int) : List (Key × V) := ks.map fun x => ((Sum.inr x : Key), V.int (g x))
theorem gD_len (ks : List Str) (g : Str → Int) : (gD ks g).length = ks.length := by unfold gD; rw [List.length_map]
theorem gD_val (ks : List Str) (g : Str → Int) (y : Str) : valV (gD ks g) (Sum.inr y) = if y ∈ ks then some (.int (g y)) else none := valV_ks (fun x => V.int (g x)) y ks
theorem gD_congr {ks : List Str} {g g' : Str → Int} (h : ∀ x ∈ ks, g x = g' x) : gD ks g = gD ks g' := by
 unfold gD
 exact List.map_congr_left fun x m => by rw [h x m]
theorem gD_put (ks : List Str) (g : Str → Int) (y : Str) (n : Int) : putK (gD ks g) (Sum.inr y) (.int n) = gD (if y ∈ ks then ks else ks ++ [y]) fun x => if x = y then n else g x := by
 by_cases m : y ∈ ks
 ·rw [if_pos m]
  unfold gD
  rw [put_ks_old _ _ _ _ m]
  apply List.map_congr_left
  intro x _
  dsimp only
  by_cases e : x = y
  ·rw [if_pos e, if_pos e]
  ·rw [if_neg e, if_neg e]
 ·rw [if_neg m, putK_new _ (by rw [gD_val, if_neg m])]
  unfold gD
  rw [List.map_append, List.map_singleton]
  dsimp only
  rw [if_pos rfl]
  congr 1
  apply List.map_congr_left
  intro x hx
  have ne : ¬ x = y := by
   intro e
   rw [e] at hx
   exact m hx
  rw [if_neg ne]
theorem gD_drop (ks : List Str) (g : Str → Int) (y : Str) : dropK (gD ks g) (Sum.inr y) = gD (ks.filter fun x => decide (x ≠ y)) g := by
 unfold dropK gD
 induction ks with
 | nil => rfl
 | cons x ks ih =>
  rw [List.map_cons, List.filter_cons, List.filter_cons, ih]
  by_cases e : x = y
  ·subst e
   simp
  ·have h1 : decide ((Sum.inr x : Key) ≠ Sum.inr y) = true := decide_eq_true fun q => e (by injection q)
   have h2 : decide (x ≠ y) = true := decide_eq_true e
   rw [if_pos h1, if_pos h2, List.map_cons]
end Sh
namespace L2
open PySem PySem.Spec PyProof.Rows PySem.W
def Itdn (hi : Int) (n : Nat) : It := ⟨fun i _ => i < n, fun i H x H' => H' = H ∧ x = .int (hi - i), fun i _ => n ≤ i⟩
theorem turn_rangeD {P : Program} {w : World} {K : PySem.W.Frag} {tg : Expr} (it : Addr) (hi : Int) (n : Nat) : Turn P w K tg (Itdn hi n) [it] it (fun i h => IsRangeIter h it (hi + (i : Nat) * (-1)) ((n : Int) - (i : Nat)) (-1)) where
 mem := by simp
 obj := fun i h st b hb => by
  have e : b = it := by simpa using hb
  subst e
  exact ⟨_, st, fun v z => by
   have z' : Data.fields _ = Data.cell v := z
   cases z'⟩
 keep := fun i h h' st k => k it (by simp) _ st
 item := by
  intro X hP hw hK hc i pins s σ H E I hf st hg
  subst hP hw hK
  obtain ⟨f0, f1, f2, f3, f4, f5⟩ := hf it (by simp)
  have W := Walks.range (prog := X.prog) (w := X.w) (I.ok.hd hc) it hi (-1) n
  refine W.item i s _ _ hg st fun v h' tk hv st' kk => ?_
  obtain ⟨t, rfl⟩ := hv
  have I1 : Inv X pins σ H { s with heap := h', toks := tk } := I.turned (fun b o hb e => kk b o (by simpa using hb) e) f0 f1 f3 f4 f5
  refine ⟨_, rfl, go_of (s := { s with heap := h', toks := tk }) (n := "range_iterator") st' rfl rfl (by decide) ⟨.int (hi - i), H, I1, ⟨t, ?_⟩, ⟨rfl, rfl⟩, st', fun b hb => (hf b hb).1⟩⟩
  rw [show hi + (i : Int) * (-1) = hi - i by omega]
 done := by
  intro X hP hw hK hc i pins s σ H E I hf st hg
  subst hP hw hK
  obtain ⟨f0, f1, f2, f3, f4, f5⟩ := hf it (by simp)
  exact wpAny_pyNext_range_end (I.ok.hd hc) st (by have : n ≤ i := hg; omega) fun h' eb => ⟨rfl, I.turned (t' := s.toks) (fun b o hb e => eb b o hb e) f0 f1 f3 f4 f5⟩
 self := fun _ _ _ _ _ st h => wpAny_pyIter_rangeiter st h
section
variable {X : Cx} {tg : Expr}
theorem range_itD {pins : List (Addr × Obj)} {σ : St} {H : Hp} {s : Shared} {R : It → Hp → Prop} {E : Value → Shared → Prop} {lo hi : Int} {t u v : Tok} {tk : Nat} (I : Inv X pins σ H s) (h1 : -(2 ^ 62) ≤ lo) (h2 : lo < 2 ^ 62) (h3 : -(2 ^ 62) ≤ hi) (h4 : hi < 2 ^ 62)
  (q : R (Itdn lo (lo - hi).toNat) H) : wpAny (model X.prog X.w) X.A (pyIter (.ref s.heap.objs.size)) (PIE X pins σ tg R) E { s with heap := s.heap.push { cls := .type "range", data := .fields #[.int lo t, .int hi u, .int (-1) v] }, toks := tk } := by
 refine wpAny_pyIter_range (IsRange.new ..) (small_down h1 h2 h3 h4) ?_
 have I1 : Inv X pins σ H { s with heap := s.heap.push { cls := .type "range", data := .fields #[.int lo t, .int hi u, .int (-1) v] }, toks := tk } := I.kept fun b o e => Heap.get?_push_of_some _ e
 refine ⟨(s.heap.push { cls := .type "range", data := .fields #[.int lo t, .int hi u, .int (-1) v] }).objs.size, [(s.heap.push { cls := .type "range", data := .fields #[.int lo t, .int hi u, .int (-1) v] }).objs.size], _, _, H, rfl,
  I1.kept (t' := tk) fun b o e => Heap.get?_push_of_some _ e, turn_rangeD _ lo (lo - hi).toNat, ?_, fun b hb => ?_, q⟩
 ·have e1 : lo + ((0 : Nat) : Int) * (-1) = lo := by simp
  have e2 : (((lo - hi).toNat : Nat) : Int) - ((0 : Nat) : Int) = Builtin.Range.rangeSize lo hi (-1) := by rw [rangeSize_downNat]; omega
  show IsRangeIter _ _ (lo + ((0 : Nat) : Int) * (-1)) ((((lo - hi).toNat : Nat) : Int) - ((0 : Nat) : Int)) (-1)
  rw [e1, e2]
  exact Heap.get?_push_size _ rfl
 ·have e : b = (s.heap.push { cls := .type "range", data := .fields #[.int lo t, .int hi u, .int (-1) v] }).objs.size := by simpa using hb
  subst e
  exact I1.fpOk (Nat.le_refl _) (I1.hok.fresh (Nat.le_refl _))
def iRngD (ta : TA) : TI := fun σ H R => ta σ H fun vs H1 => ∃ i j : Int, vs = [.int i, .int j, .int (-1)] ∧ (-(2 ^ 62) ≤ i ∧ i < 2 ^ 62 ∧ -(2 ^ 62) ≤ j ∧ j < 2 ^ 62) ∧ R (Itdn i (i - j).toNat) H1
theorem pi_rangeD {a : Expr} {rs : List Expr} {ta : TA} {p pos : Pos} (hg : Gl X "range") (hm : X.mg "range" = none) (ha : PA X (a :: rs) ta) (hs : starEach (a :: rs) X.env = (false, eval a X.env) :: starEach rs X.env := by rfl) (hpl : (backTo pos (starEach rs X.env)).any (·.1) = false := by rfl) : PI X tg (.Call (.Name "range" p) (a :: rs) [] pos) (iRngD ta) := by
 intro pins s σ H R I h
 refine Call_ (ld_blt I hg hm boot_range (PyProof.Rows.callWith_type1 (thn (ha pos pins s σ H _ I h) fun us s1 ⟨vs, H1, I1, r1, q1⟩ => ?_) hs hpl))
 obtain ⟨i, j, e, ⟨q1, q2, q3, q4⟩, q⟩ := q1
 subst e
 cases r1 with
 | cons r rr =>
  cases rr with
  | cons r' rr =>
   cases rr with
   | cons r'' rr =>
    cases rr
    obtain ⟨t, rfl⟩ := r
    obtain ⟨t', rfl⟩ := r'
    obtain ⟨t'', rfl⟩ := r''
    exact call_range_3 (by decide) (range_itD I1 q1 q2 q3 q4 q) (.inl (PyProof.noPylong_of_log2 (by decide +kernel)))
theorem for_rangeD {lo : Int} {n : Nat} {g : TG} {tb : TS} {D : Ends} {σ : St} {H : Hp} (Pv : Nat → St → Hp → Prop) (h0 : Pv 0 σ H)
  (hs : ∀ i σ H, i < n → Pv i σ H → g (.int (lo - i)) σ H fun σ2 H2 => tb { D with nx := Pv (i + 1), ct := Pv (i + 1), bk := D.nx } σ2 H2) (hd : ∀ σ H, Pv n σ H → D.nx σ H) :
  ∃ W : Nat → Nat → St → Hp → Prop, (∃ m, W 0 m σ H) ∧ ∀ i m σ H, W i m σ H →
   ((Itdn lo n).stop i H ∧ D.nx σ H) ∨ ((Itdn lo n).go i H ∧ ∃ N : St → Hp → Prop, (∀ σ' H', N σ' H' → ∃ m', m' < m ∧ W (i + 1) m' σ' H') ∧ ∀ x H', (Itdn lo n).yld i H x H' → g x σ H' fun σ2 H2 => tb { D with nx := N, ct := N, bk := D.nx } σ2 H2) := by
 refine ⟨fun i m σ H => m = n - i ∧ i ≤ n ∧ Pv i σ H, ⟨n, by simp, Nat.zero_le _, h0⟩, ?_⟩
 rintro i m σ H ⟨rfl, hi, p⟩
 by_cases hlt : i < n
 ·refine .inr ⟨hlt, Pv (i + 1), fun σ' H' p' => ⟨n - (i + 1), by omega, rfl, hlt, p'⟩, fun x H' y => ?_⟩
  obtain ⟨e, y⟩ := y
  subst e y
  exact hs i σ _ hlt p
 ·have e : i = n := by omega
  subst e
  exact .inl ⟨Nat.le_refl _, hd σ H p⟩
theorem Vals.rev {xs : List V} {us : List Value} (r : Vals xs us) : Vals xs.reverse us.reverse := by
 induction r with
 | nil => exact .nil
 | cons h t ih =>
  rw [List.reverse_cons, List.reverse_cons]
  exact Vals.append ih (.cons h .nil)
def tRev (K : PySem.W.Frag) (te ts : TE) : TE := fun σ H Q => te σ H fun x H1 => ts σ H1 fun y H2 => ∃ a xs, x = .ref a ∧ SqL K H2 a xs ∧ y = .int (-1) ∧ ∀ p, H2 p = none → Q (.ref p) (upd H2 p (.lst xs.reverse))
theorem pe_rev {e st : Expr} {te ts : TE} {p2 pos : Pos} (he : PE X e te) (hs : PE X st ts) : PE X (.Subscript e (.Slice none none (some st) p2) pos) (tRev X.K te ts) := by
 intro pins s σ H Q I h
 refine Subscript_ (thn (he pins s σ H _ I h) fun v s1 ⟨x, H1, I1, r1, q1⟩ => ?_)
 refine wpAny_Slice ?_
 rw [evalPart_none]
 refine wpAny_pure (wpAny_pure ?_)
 rw [evalPart_some]
 refine thn (hs pins s1 σ H1 _ I1 q1) fun vs s3 ⟨y, H3, I3, ry, q3⟩ => ?_
 obtain ⟨a, xs, rfl, hx, rfl, q⟩ := q3
 obtain ⟨t, rfl⟩ := ry
 cases r1
 have I4 : Inv X pins σ H3 { s3 with heap := s3.heap.push { cls := .type "slice", data := .fields #[.none, .none, .int (-1) t] } } := I3.kept (t' := s3.toks) fun b ob q => Heap.get?_push_of_some _ q
 obtain ⟨its, r, ht, hz⟩ := I4.list hx
 have hlen := r.length
 refine tail_any (ops := [.ref a, .ref s3.heap.objs.size]) ht.isList.typeIs slot_list_getitem.lookup ?_ (by with_unfolding_all rfl)
 refine wpAny_getItem_list_slice ht.isList (Heap.IsSliceOf.new ..) .none .none (.int (-1) t) (by decide) ?_ (by rw [List.size_toArray] <;> omega)
 rw [krv_pick]
 have hv := r.rev
 refine ⟨.ref _, _, I4.laid (t' := s3.toks) (o := .lst xs.reverse) (fun b ob q => Heap.get?_push_of_some _ q) (Nat.le_refl _) ?_, rfl, q _ (I4.hok.fresh (Nat.le_refl _))⟩
 exact ⟨by rw [List.length_reverse]; omega, _, 0, hv, Heap.get?_push_size _ rfl⟩
end
end L2
namespace Tim
open PySem PySem.W PyProof.Rows
section
variable {prog : Program} {w : World} {A : Around} {E : Value → Shared → Prop} {s : Shared}
end
end Tim
namespace L2
open PySem PySem.Spec PyProof.Rows PySem.W
end L2
namespace L2
open PySem PySem.Spec PyProof.Rows
theorem call_dictD {X : Cx} : CallR X (.type "dict") (fun xs H Q => ∃ (d : Addr) (kvs : List (Key × V)), xs = [.ref d] ∧ H d = some (.dK kvs) ∧ ∀ p, H p = none → Q (.ref p) (upd H p (.dK kvs))) := by
 intro pins s σ H xs us Q I r h
 obtain ⟨d, kvs, rfl, hd, q⟩ := h
 obtain ⟨u, rfl, ru⟩ := vals1 r
 cases ru
 obtain ⟨hz, lo, vs', kv, dd⟩ := dk_of I.hok hd
 refine kt_call_dict lo dd (by rw [← kv.length]; exact hz) fun h' hn hs => ?_
 have kp : ∀ b o, s.heap.get? b = some o → h'.get? b = some o := fun b o e => hs.extBut b o (Nat.ne_of_lt (Heap.lt_size e)) (Heap.get?_push_of_some _ e)
 exact ⟨.ref s.heap.objs.size, _, I.laid (t' := s.toks) (o := .dK kvs) kp (Nat.le_refl _) ⟨hz, beq_eq_false_iff_ne.mpr (Ne.symm (Nat.ne_of_lt I.big)), vs', kv, hn⟩, rfl, q _ (I.hok.fresh (Nat.le_refl _))⟩
end L2
namespace Sh
open PySem L2 PyProof.Rows
abbrev Ts := List (Str × Str)
noncomputable def dl (a b : Str) : Int := if a = b then 1 else 0
theorem dl_self (a : Str) : dl a a = 1 := if_pos rfl
theorem dl_nn (a b : Str) : 0 ≤ dl a b := by unfold dl; split <;> omega
noncomputable def frm (ts : Ts) (i : Nat) : Str := (ts.getD i ("", "")).1
noncomputable def tow (ts : Ts) (i : Nat) : Str := (ts.getD i ("", "")).2
noncomputable def bal (ts : Ts) (X : List Nat) (p : Str) : Int := (X.map fun i => dl (frm ts i) p - dl (tow ts i) p).sum
theorem bal_nil (ts : Ts) (p : Str) : bal ts [] p = 0 := rfl
theorem bal_cons (ts : Ts) (i : Nat) (X : List Nat) (p : Str) : bal ts (i :: X) p = dl (frm ts i) p - dl (tow ts i) p + bal ts X p := by
 unfold bal
 rw [List.map_cons, List.sum_cons]
theorem bal_append (ts : Ts) (X Y : List Nat) (p : Str) : bal ts (X ++ Y) p = bal ts X p + bal ts Y p := by
 unfold bal
 rw [List.map_append, List.sum_append]
theorem bal_perm {ts : Ts} {X Y : List Nat} (h : X.Perm Y) (p : Str) : bal ts X p = bal ts Y p := by
 induction h with
 | nil => rfl
 | cons x _ ih => rw [bal_cons, bal_cons, ih]
 | swap x y l => rw [bal_cons, bal_cons, bal_cons, bal_cons]; omega
 | trans _ _ a b => exact a.trans b
inductive Ch (ts : Ts) : Str → List Nat → Str → Prop where
 | nil (u : Str) : Ch ts u [] u
 | cons {i : Nat} {X : List Nat} {u v : Str} (e : frm ts i = u) (h : Ch ts (tow ts i) X v) : Ch ts u (i :: X) v
theorem Ch.bal {ts : Ts} {u v : Str} {X : List Nat} (h : Ch ts u X v) (p : Str) : bal ts X p = dl u p - dl v p := by
 induction h with
 | nil u => rw [bal_nil]; omega
 | cons e h ih => rw [bal_cons, ih, e]; omega
theorem Ch.snoc {ts : Ts} {u v : Str} {X : List Nat} {i : Nat} (h : Ch ts u X v) (e : frm ts i = v) : Ch ts u (X ++ [i]) (tow ts i) := by
 induction h with
 | nil u => exact .cons e (.nil _)
 | cons e' h ih => exact .cons e' (ih e)
theorem Ch.pop {ts : Ts} {u v : Str} {i : Nat} : ∀ {X : List Nat}, Ch ts u (X ++ [i]) v → Ch ts u X (frm ts i) ∧ v = tow ts i
 | [], h => by
  cases h with
  | cons e h =>
   cases h
   exact ⟨e ▸ .nil _, rfl⟩
 | j :: X, h => by
  cases h with
  | cons e h =>
   obtain ⟨a, b⟩ := Ch.pop (X := X) h
   exact ⟨.cons e a, b⟩
theorem Ch.start {ts : Ts} {u w v : Str} {X : List Nat} (h : Ch ts u X v) (h' : Ch ts w X v) : u = w := by
 cases h with
 | nil u => cases h'; rfl
 | cons e _ => cases h' with | cons e' _ => exact e.symm.trans e'
def AdjT (ts : Ts) (P y : Str) : Prop := ∃ i, i < ts.length ∧ ((frm ts i = P ∧ tow ts i = y) ∨ (tow ts i = P ∧ frm ts i = y))
inductive RchT (ts : Ts) (a : Str) : Str → Prop where
 | here : RchT ts a a
 | step {P y : Str} (h : RchT ts a P) (k : AdjT ts P y) : RchT ts a y
theorem RchT.closed {ts : Ts} {a : Str} {F : Str → Prop} (ha : F a) (hc : ∀ P, F P → ∀ y, AdjT ts P y → F y) {y : Str} (h : RchT ts a y) : F y := by
 induction h with
 | here => exact ha
 | step _ k ih => exact hc _ ih _ k
def Deg (ts : Ts) (b f : Str) : Prop := ∀ p, bal ts (List.range ts.length) p = dl b p - dl f p
def Good (ts : Ts) (b : Str) : Prop := (∃ f, Deg ts b f) ∧ ∀ i, i < ts.length → RchT ts b (frm ts i)
def Eul (ts : Ts) (b : Str) (X : List Nat) : Prop := X.Perm (List.range ts.length) ∧ ∃ v, Ch ts b X v
theorem nodup_perm {X Y : List Nat} (h1 : X.Nodup) (h2 : Y.Nodup) (h : ∀ x, x ∈ X ↔ x ∈ Y) : X.Perm Y := by
 rw [List.perm_iff_count]
 intro a
 rw [h1.count, h2.count]
 by_cases c : a ∈ X
 ·rw [if_pos c, if_pos ((h a).mp c)]
 ·rw [if_neg c, if_neg (fun z => c ((h a).mpr z))]
theorem nat_le {F : List Nat} : ∀ {ks : List Nat}, F.Nodup → (∀ x ∈ F, x ∈ ks) → F.length ≤ ks.length := by
 induction F with
 | nil => exact fun _ _ => Nat.zero_le _
 | cons x F ih =>
  intro ks h1 h2
  have nd' := List.nodup_cons.mp h1
  have hx := h2 x (List.mem_cons_self ..)
  have := ih (ks := ks.erase x) nd'.2 fun y hy => (List.mem_erase_of_ne (fun (q : y = x) => nd'.1 (q ▸ hy))).mpr (h2 y (List.mem_cons_of_mem _ hy))
  rw [List.length_erase_of_mem hx] at this
  have hpos : 0 < ks.length := List.length_pos_of_mem hx
  rw [List.length_cons]
  omega
theorem nat_all {F ks : List Nat} (h1 : F.Nodup) (h2 : ∀ x ∈ F, x ∈ ks) (he : F.length = ks.length) : ∀ x ∈ ks, x ∈ F := by
 intro x hx
 apply Classical.byContradiction
 intro hn
 have := nat_le (ks := ks.erase x) h1 fun y hy => (List.mem_erase_of_ne (fun (q : y = x) => hn (q ▸ hy))).mpr (h2 y hy)
 rw [List.length_erase_of_mem hx] at this
 have hpos : 0 < ks.length := List.length_pos_of_mem hx
 omega
structure WI (ts : Ts) (b pt : Str) (r : Str → List Nat) (G B : List Nat) : Prop where
 nd : (G ++ B).Nodup
 lt : ∀ i ∈ G ++ B, i < ts.length
 rnd : ∀ p, (r p).Nodup
 row : ∀ p i, i ∈ r p ↔ i < ts.length ∧ frm ts i = p ∧ i ∉ G ++ B
 chG : Ch ts b G pt
 chB : ∀ f, Deg ts b f → ∃ w, Ch ts w B.reverse f
 stk : ∀ i ∈ B, r (tow ts i) = []
theorem WI.start {ts : Ts} {b : Str} {r : Str → List Nat} (h1 : ∀ p, (r p).Nodup) (h2 : ∀ p i, i ∈ r p ↔ i < ts.length ∧ frm ts i = p) : WI ts b b r [] [] where
 nd := List.nodup_nil
 lt := fun i hi => by cases hi
 rnd := h1
 row := fun p i => by rw [h2]; simp
 chG := .nil _
 chB := fun f _ => ⟨f, .nil _⟩
 stk := fun i hi => by cases hi
noncomputable def setR (r : Str → List Nat) (p : Str) (X : List Nat) : Str → List Nat := fun q => if q = p then X else r q
theorem WI.push {ts : Ts} {b pt : Str} {r : Str → List Nat} {G B X : List Nat} {i : Nat} (h : WI ts b pt r G B) (e : r pt = X ++ [i]) : WI ts b (tow ts i) (setR r pt X) (G ++ [i]) B := by
 have hi := (h.row pt i).mp (by rw [e]; simp)
 have hrn := h.rnd pt
 rw [e] at hrn
 have hiX : i ∉ X := fun z => (List.nodup_append.mp hrn).2.2 i z i (by simp) rfl
 have mm : ∀ j, j ∈ (G ++ [i]) ++ B ↔ j ∈ G ++ B ∨ j = i := fun j => by
  simp only [List.mem_append, List.mem_singleton]
  constructor
  ·rintro ((z | z) | z)
   ·exact .inl (.inl z)
   ·exact .inr z
   ·exact .inl (.inr z)
  ·rintro ((z | z) | z)
   ·exact .inl (.inl z)
   ·exact .inr z
   ·exact .inl (.inr z)
 refine ⟨?_, fun j hj => ?_, fun p => ?_, fun p j => ?_, h.chG.snoc hi.2.1, h.chB, fun j hj => ?_⟩
 ·have pp : ((G ++ [i]) ++ B).Perm (i :: (G ++ B)) := by
   rw [List.append_assoc, List.singleton_append]
   exact List.perm_middle
  exact pp.nodup_iff.mpr (List.nodup_cons.mpr ⟨hi.2.2, h.nd⟩)
 ·rcases (mm j).mp hj with z | z
  ·exact h.lt j z
  ·rw [z]; exact hi.1
 ·unfold setR
  split
  ·exact (List.nodup_append.mp hrn).1
  ·exact h.rnd p
 ·rw [mm]
  unfold setR
  by_cases c : p = pt
  ·rw [if_pos c]
   have hr := h.row pt j
   rw [e, List.mem_append, List.mem_singleton] at hr
   subst c
   constructor
   ·intro z
    obtain ⟨a1, a2, a3⟩ := hr.mp (.inl z)
    exact ⟨a1, a2, fun q => q.elim a3 fun w => hiX (w ▸ z)⟩
   ·rintro ⟨a1, a2, a3⟩
    rcases hr.mpr ⟨a1, a2, fun q => a3 (.inl q)⟩ with z | z
    ·exact z
    ·exact absurd (.inr z) a3
  ·rw [if_neg c, h.row]
   constructor
   ·rintro ⟨a1, a2, a3⟩
    refine ⟨a1, a2, fun q => q.elim a3 fun w => c ?_⟩
    rw [← a2, w, hi.2.1]
   ·rintro ⟨a1, a2, a3⟩
    exact ⟨a1, a2, fun q => a3 (.inl q)⟩
 ·unfold setR
  have hs := h.stk j hj
  rw [if_neg (fun c => by rw [c, e] at hs; simp at hs)]
  exact hs
theorem WI.stuck {ts : Ts} {b pt w f : Str} {r : Str → List Nat} {G B : List Nat} (h : WI ts b pt r G B) (e : r pt = []) (d : Deg ts b f) (c : Ch ts w B.reverse f) : pt = w := by
 have hp : (List.range ts.length).Perm ((G ++ B) ++ (List.range ts.length).filter fun i => decide (i ∉ G ++ B)) := by
  refine nodup_perm List.nodup_range (List.nodup_append.mpr ⟨h.nd, List.nodup_range.filter _, fun a ha b' hb z => ?_⟩) fun x => ?_
  ·subst z
   have := (List.mem_filter.mp hb).2
   simp only [decide_eq_true_eq] at this
   exact this ha
  ·rw [List.mem_append, List.mem_filter, List.mem_range]
   constructor
   ·intro hx
    by_cases cc : x ∈ G ++ B
    ·exact .inl cc
    ·exact .inr ⟨hx, decide_eq_true cc⟩
   ·rintro (z | z)
    ·exact h.lt x z
    ·exact z.1
 have h1 := d pt
 rw [bal_perm hp, bal_append, bal_append, h.chG.bal, ← bal_perm (List.reverse_perm B), c.bal] at h1
 have h2 : ∀ L : List Nat, (∀ i ∈ L, frm ts i ≠ pt) → bal ts L pt ≤ 0 := by
  intro L
  induction L with
  | nil => intro _; rw [bal_nil]; omega
  | cons i L ih =>
   intro hL
   have a := ih fun j hj => hL j (List.mem_cons_of_mem _ hj)
   have b' : dl (frm ts i) pt = 0 := if_neg (hL i (List.mem_cons_self ..))
   have c' := dl_nn (tow ts i) pt
   rw [bal_cons]
   omega
 have h3 := h2 ((List.range ts.length).filter fun i => decide (i ∉ G ++ B)) fun i hi z => by
  obtain ⟨a1, a2⟩ := List.mem_filter.mp hi
  have := (h.row pt i).mpr ⟨List.mem_range.mp a1, z, by simpa using a2⟩
  rw [e] at this
  cases this
 rw [dl_self] at h1
 apply Classical.byContradiction
 intro hn
 have h4 : dl w pt = 0 := if_neg (fun z => hn z.symm)
 omega
theorem WI.pop {ts : Ts} {b pt : Str} {r : Str → List Nat} {X B : List Nat} {i : Nat} (h : WI ts b pt r (X ++ [i]) B) (e : r pt = []) : WI ts b (frm ts i) r X (B ++ [i]) := by
 obtain ⟨c1, c2⟩ := h.chG.pop
 have pp : (X ++ (B ++ [i])).Perm ((X ++ [i]) ++ B) := by
  rw [List.append_assoc]
  exact List.perm_append_comm.append_left _ |>.trans (List.Perm.refl _)
 refine ⟨pp.nodup_iff.mpr h.nd, fun j hj => h.lt j (pp.mem_iff.mp hj), h.rnd, fun p j => by rw [h.row, pp.mem_iff], c1, fun f d => ?_, fun j hj => ?_⟩
 ·obtain ⟨w, c⟩ := h.chB f d
  have := h.stuck e d c
  rw [List.reverse_append, List.reverse_singleton, List.singleton_append]
  refine ⟨frm ts i, .cons rfl ?_⟩
  rw [← c2, this]
  exact c
 ·rcases List.mem_append.mp hj with z | z
  ·exact h.stk j z
  ·rw [List.mem_singleton.mp z, ← c2]
   exact e
theorem WI.done {ts : Ts} {b pt : Str} {r : Str → List Nat} {B : List Nat} (h : WI ts b pt r [] B) (e : r pt = []) (g : Good ts b) : Eul ts b B.reverse := by
 obtain ⟨⟨f, d⟩, hr⟩ := g
 have hpt : b = pt := by cases h.chG; rfl
 subst hpt
 obtain ⟨w, c⟩ := h.chB f d
 have ew := h.stuck e d c
 subst ew
 have hnd := h.nd
 have hlt := h.lt
 rw [List.nil_append] at hnd hlt
 refine ⟨?_, f, c⟩
 -- whoever is met has nothing left
 let M : Str → Prop := fun p => p = b ∨ ∃ i ∈ B, tow ts i = p
 have hM : ∀ p, M p → r p = [] := fun p hp => by
  rcases hp with z | ⟨i, hi, z⟩
  ·rw [z]; exact e
  ·rw [← z]; exact h.stk i hi
 have hp : (List.range ts.length).Perm (B ++ (List.range ts.length).filter fun i => decide (i ∉ B)) := by
  refine nodup_perm List.nodup_range (List.nodup_append.mpr ⟨hnd, List.nodup_range.filter _, fun a ha b' hb z => ?_⟩) fun x => ?_
  ·subst z
   have := (List.mem_filter.mp hb).2
   simp only [decide_eq_true_eq] at this
   exact this ha
  ·rw [List.mem_append, List.mem_filter, List.mem_range]
   constructor
   ·intro hx
    by_cases cc : x ∈ B
    ·exact .inl cc
    ·exact .inr ⟨hx, decide_eq_true cc⟩
   ·rintro (z | z)
    ·exact hlt x z
    ·exact z.1
 have hz : ∀ p, bal ts ((List.range ts.length).filter fun i => decide (i ∉ B)) p = 0 := fun p => by
  have h1 := d p
  rw [bal_perm hp, bal_append, ← bal_perm (List.reverse_perm B), c.bal] at h1
  omega
 have key : ∀ p, M p → ∀ i, i < ts.length → (frm ts i = p ∨ tow ts i = p) → i ∈ B := fun p hp i hi ht => by
  apply Classical.byContradiction
  intro hn
  have hne : ∀ j, j < ts.length → j ∉ B → frm ts j ≠ p := fun j hj hjn z => by
   have := (h.row p j).mpr ⟨hj, z, by simpa using hjn⟩
   rw [hM p hp] at this
   cases this
  rcases ht with z | z
  ·exact hne i hi hn z
  ·have h2 : ∀ L : List Nat, (∀ j ∈ L, frm ts j ≠ p) → bal ts L p ≤ 0 ∧ (i ∈ L → bal ts L p < 0) := by
    intro L
    induction L with
    | nil => intro _; exact ⟨by rw [bal_nil]; omega, fun q => by cases q⟩
    | cons j L ih =>
     intro hL
     obtain ⟨a1, a2⟩ := ih fun k hk => hL k (List.mem_cons_of_mem _ hk)
     have b' : dl (frm ts j) p = 0 := if_neg (hL j (List.mem_cons_self ..))
     have c' := dl_nn (tow ts j) p
     rw [bal_cons]
     refine ⟨by omega, fun q => ?_⟩
     rcases List.mem_cons.mp q with q | q
     ·subst q
      have : dl (tow ts i) p = 1 := if_pos z
      omega
     ·have := a2 q
      omega
   have h3 := (h2 ((List.range ts.length).filter fun i => decide (i ∉ B)) fun j hj => by
    obtain ⟨a1, a2⟩ := List.mem_filter.mp hj
    exact hne j (List.mem_range.mp a1) (by simpa using a2)).2 (List.mem_filter.mpr ⟨List.mem_range.mpr hi, decide_eq_true hn⟩)
   rw [hz] at h3
   omega
 have hfr : ∀ u X v, Ch ts u X v → M u → (∀ j ∈ X, j ∈ B) → ∀ j ∈ X, M (frm ts j) := by
  intro u X v hc
  induction hc with
  | nil u => intro _ _ j hj; cases hj
  | @cons k X u v e' _ ih =>
   intro hu hX j hj
   rcases List.mem_cons.mp hj with z | z
   ·rw [z, e']; exact hu
   ·exact ih (.inr ⟨k, hX k (List.mem_cons_self ..), rfl⟩) (fun l hl => hX l (List.mem_cons_of_mem _ hl)) j z
 have hcl : ∀ P, M P → ∀ y, AdjT ts P y → M y := fun P hP y ⟨i, hi, q⟩ => by
  rcases q with ⟨q1, q2⟩ | ⟨q1, q2⟩
  ·exact .inr ⟨i, key P hP i hi (.inl q1), q2⟩
  ·have := key P hP i hi (.inr q1)
   rw [← q2]
   exact hfr _ _ _ c (.inl rfl) (fun j hj => List.mem_reverse.mp hj) i (List.mem_reverse.mpr this)
 refine nodup_perm ((List.reverse_perm B).nodup_iff.mpr hnd) List.nodup_range fun x => ?_
 rw [List.mem_reverse, List.mem_range]
 refine ⟨hlt x, fun hx => ?_⟩
 exact key _ (RchT.closed (F := M) (.inl rfl) hcl (hr x hx)) x hx (.inl rfl)
theorem WI.eul {ts : Ts} {b pt v : Str} {r : Str → List Nat} {B : List Nat} (h : WI ts b pt r [] B) (hl : B.length = ts.length) (c : Ch ts b B.reverse v) : Eul ts b B.reverse := by
 have hnd := h.nd
 have hlt := h.lt
 rw [List.nil_append] at hnd hlt
 refine ⟨?_, v, c⟩
 have hsub : ∀ x ∈ B, x ∈ List.range ts.length := fun x hx => List.mem_range.mpr (hlt x hx)
 refine (List.reverse_perm B).trans (nodup_perm hnd List.nodup_range fun x => ⟨hsub x, nat_all hnd hsub (by rw [List.length_range, hl]) x⟩)
noncomputable def rows (ts : Ts) (p : Str) : List Nat := ((List.range ts.length).filter fun i => decide (frm ts i = p)).reverse
theorem rows_nd (ts : Ts) (p : Str) : (rows ts p).Nodup := (List.reverse_perm _).nodup_iff.mpr (List.nodup_range.filter _)
theorem rows_mem (ts : Ts) (p : Str) (i : Nat) : i ∈ rows ts p ↔ i < ts.length ∧ frm ts i = p := by
 unfold rows
 rw [List.mem_reverse, List.mem_filter, List.mem_range, decide_eq_true_eq]
noncomputable def wlk (ts : Ts) : Nat → (Str → List Nat) → Str → List Nat → List Nat → List Nat
 | 0, _, _, _, B => B
 | n + 1, r, pt, G, B => match (r pt).getLast? with
  | some i => wlk ts n (setR r pt (r pt).dropLast) (tow ts i) (G ++ [i]) B
  | none => match G.getLast? with
   | some i => wlk ts n r (frm ts i) G.dropLast (B ++ [i])
   | none => B
theorem walk_push {ts : Ts} {n : Nat} {r : Str → List Nat} {pt : Str} {G B X : List Nat} {i : Nat} (e : r pt = X ++ [i]) : wlk ts (n + 1) r pt G B = wlk ts n (setR r pt X) (tow ts i) (G ++ [i]) B := by
 rw [wlk, e]
 simp
theorem walk_pop {ts : Ts} {n : Nat} {r : Str → List Nat} {pt : Str} {X B : List Nat} {i : Nat} (e : r pt = []) : wlk ts (n + 1) r pt (X ++ [i]) B = wlk ts n r (frm ts i) X (B ++ [i]) := by
 rw [wlk, e]
 simp
theorem walk_end {ts : Ts} {n : Nat} {r : Str → List Nat} {pt : Str} {B : List Nat} (e : r pt = []) : wlk ts n r pt [] B = B := by
 cases n with
 | zero => rfl
 | succ n => rw [wlk, e]; rfl
noncomputable def wayX (ts : Ts) (b : Str) : List Nat := (wlk ts (2 * ts.length) (rows ts) b [] []).reverse
theorem WI.len {ts : Ts} {b pt : Str} {r : Str → List Nat} {G B : List Nat} (h : WI ts b pt r G B) : G.length + B.length ≤ ts.length := by
 have := nat_le (ks := List.range ts.length) h.nd fun x hx => List.mem_range.mpr (h.lt x hx)
 rw [List.length_append, List.length_range] at this
 exact this
theorem WI.in_len {ts : Ts} {b pt : Str} {r : Str → List Nat} {G B : List Nat} (h : WI ts b pt r G B) (p : Str) : (r p).length ≤ ts.length := by
 have := nat_le (ks := List.range ts.length) (h.rnd p) fun x hx => List.mem_range.mpr ((h.row p x).mp hx).1
 rw [List.length_range] at this
 exact this
def sumZ (ks : List Str) (f : Str → Int) : Int := (ks.map f).sum
theorem sumZ_cons (k : Str) (ks : List Str) (f : Str → Int) : sumZ (k :: ks) f = f k + sumZ ks f := by
 unfold sumZ
 rw [List.map_cons, List.sum_cons]
theorem sumZ_add (ks : List Str) (f g : Str → Int) : sumZ ks (fun p => f p + g p) = sumZ ks f + sumZ ks g := by
 induction ks with
 | nil => rfl
 | cons k ks ih => rw [sumZ_cons, sumZ_cons, sumZ_cons, ih]; omega
theorem sumZ_sub (ks : List Str) (f g : Str → Int) : sumZ ks (fun p => f p - g p) = sumZ ks f - sumZ ks g := by
 induction ks with
 | nil => rfl
 | cons k ks ih => rw [sumZ_cons, sumZ_cons, sumZ_cons, ih]; omega
theorem sumZ_le {ks : List Str} {f g : Str → Int} (h : ∀ p ∈ ks, f p ≤ g p) : sumZ ks f ≤ sumZ ks g := by
 induction ks with
 | nil => exact Int.le_refl _
 | cons k ks ih =>
  rw [sumZ_cons, sumZ_cons]
  have h1 := h k (List.mem_cons_self ..)
  have h2 := ih fun p hp => h p (List.mem_cons_of_mem _ hp)
  omega
theorem sumZ_zero (ks : List Str) : sumZ ks (fun _ => 0) = 0 := by
 induction ks with
 | nil => rfl
 | cons k ks ih => rw [sumZ_cons, ih]; omega
theorem sumZ_mem {ks : List Str} {f : Str → Int} (h : ∀ p ∈ ks, 0 ≤ f p) {p : Str} (hp : p ∈ ks) : f p ≤ sumZ ks f := by
 induction ks with
 | nil => cases hp
 | cons k ks ih =>
  rw [sumZ_cons]
  have h0 := h k (List.mem_cons_self ..)
  have h1 : 0 ≤ sumZ ks f := by
   have := sumZ_le (ks := ks) (f := fun _ => 0) (g := f) fun p hp => h p (List.mem_cons_of_mem _ hp)
   rw [sumZ_zero] at this
   exact this
  rcases List.mem_cons.mp hp with z | z
  ·rw [z]; omega
  ·have := ih (fun p hp => h p (List.mem_cons_of_mem _ hp)) z
   omega
theorem sumZ_mem2 {ks : List Str} {f : Str → Int} (h : ∀ p ∈ ks, 0 ≤ f p) {p q : Str} (hp : p ∈ ks) (hq : q ∈ ks) (hne : p ≠ q) : f p + f q ≤ sumZ ks f := by
 induction ks with
 | nil => cases hp
 | cons k ks ih =>
  rw [sumZ_cons]
  have hk : ∀ p ∈ ks, 0 ≤ f p := fun p hp => h p (List.mem_cons_of_mem _ hp)
  have h0 := h k (List.mem_cons_self ..)
  rcases List.mem_cons.mp hp with z | z
  ·rcases List.mem_cons.mp hq with y | y
   ·exact absurd (z.trans y.symm) hne
   ·have := sumZ_mem hk y
    rw [z]; omega
  ·rcases List.mem_cons.mp hq with y | y
   ·have := sumZ_mem hk z
    rw [y]; omega
   ·have := ih hk z y
    omega
theorem dl_out {a p : Str} (h : p ≠ a) : dl a p = 0 := if_neg fun e => h e.symm
theorem sumZ_dl {ks : List Str} (nd : ks.Nodup) {a : Str} (h : a ∈ ks) : sumZ ks (dl a) = 1 := by
 induction ks with
 | nil => cases h
 | cons k ks ih =>
  have nd' := List.nodup_cons.mp nd
  rw [sumZ_cons]
  rcases List.mem_cons.mp h with z | z
  ·subst z
   have : sumZ ks (dl a) = 0 := by
    have e : ∀ p ∈ ks, dl a p = 0 := fun p hp => dl_out fun e => nd'.1 (e ▸ hp)
    have h1 := sumZ_le (f := dl a) (g := fun _ => 0) fun p hp => by rw [e p hp]; exact Int.le_refl _
    have h2 := sumZ_le (f := fun _ => 0) (g := dl a) fun p hp => by rw [e p hp]; exact Int.le_refl _
    rw [sumZ_zero] at h1 h2
    omega
   rw [this, dl_self]
   omega
  ·rw [ih nd'.2 z, dl_out (fun e : k = a => nd'.1 (e ▸ z))]
   omega
noncomputable abbrev moT (ts : Ts) (p : Str) : Int := bal ts (List.range ts.length) p
theorem sum_bal {ts : Ts} {ks : List Str} (nd : ks.Nodup) : ∀ X : List Nat, (∀ i ∈ X, frm ts i ∈ ks ∧ tow ts i ∈ ks) → sumZ ks (bal ts X) = 0
 | [], _ => sumZ_zero ks
 | i :: X, h => by
  obtain ⟨h1, h2⟩ := h i (List.mem_cons_self ..)
  have ih := sum_bal nd X fun j hj => h j (List.mem_cons_of_mem _ hj)
  have e : bal ts (i :: X) = fun p => (dl (frm ts i) p - dl (tow ts i) p) + bal ts X p := funext fun p => bal_cons ts i X p
  rw [e, sumZ_add, sumZ_sub, sumZ_dl nd h1, sumZ_dl nd h2, ih]
  rfl
theorem bal_out {ts : Ts} {p : Str} : ∀ X : List Nat, (∀ i ∈ X, frm ts i ≠ p ∧ tow ts i ≠ p) → bal ts X p = 0
 | [], _ => rfl
 | i :: X, h => by
  obtain ⟨h1, h2⟩ := h i (List.mem_cons_self ..)
  rw [bal_cons, bal_out X fun j hj => h j (List.mem_cons_of_mem _ hj)]
  unfold dl
  rw [if_neg h1, if_neg h2]
  rfl
noncomputable def posZ (x : Int) : Int := if x > 0 then x else 0
theorem one_of {ks : List Str} (nd : ks.Nodup) {g : Str → Int} (h0 : ∀ p ∈ ks, 0 ≤ g p) (h1 : sumZ ks g = 1) : ∃ f ∈ ks, ∀ p ∈ ks, g p = dl f p := by
 have : ∃ f ∈ ks, 1 ≤ g f := by
  apply Classical.byContradiction
  intro hn
  have hz : ∀ p ∈ ks, g p ≤ 0 := fun p hp => by
   apply Classical.byContradiction
   intro c
   exact hn ⟨p, hp, by omega⟩
  have := sumZ_le (f := g) (g := fun _ => 0) hz
  rw [sumZ_zero] at this
  omega
 obtain ⟨f, hf, hg⟩ := this
 refine ⟨f, hf, fun p hp => ?_⟩
 by_cases c : p = f
 ·subst c
  have := sumZ_mem h0 hp
  rw [dl_self]
  omega
 ·have := sumZ_mem2 h0 hp hf c
  have := h0 p hp
  rw [dl_out c]
  omega
structure Kp (ts : Ts) (ks : List Str) : Prop where
 nd : ks.Nodup
 mem : ∀ p, p ∈ ks ↔ ∃ i, i < ts.length ∧ (frm ts i = p ∨ tow ts i = p)
theorem Kp.out {ts : Ts} {ks : List Str} (h : Kp ts ks) {p : Str} (hp : p ∉ ks) : moT ts p = 0 :=
 bal_out _ fun i hi => ⟨fun e => hp ((h.mem p).mpr ⟨i, List.mem_range.mp hi, .inl e⟩), fun e => hp ((h.mem p).mpr ⟨i, List.mem_range.mp hi, .inr e⟩)⟩
theorem Kp.total {ts : Ts} {ks : List Str} (h : Kp ts ks) : sumZ ks (moT ts) = 0 :=
 sum_bal h.nd _ fun i hi => ⟨(h.mem _).mpr ⟨i, List.mem_range.mp hi, .inl rfl⟩, (h.mem _).mpr ⟨i, List.mem_range.mp hi, .inr rfl⟩⟩
theorem good_of {ts : Ts} {b : Str} {ks : List Str} {M : Int} (h : Kp ts ks) (hb : b ∈ ks) (hs : sumZ ks (fun p => posZ (moT ts p)) ≤ 1) (hM : M ∈ ks.map (moT ts)) (hle : ∀ x ∈ ks.map (moT ts), x ≤ M) (h1 : M = 1 → moT ts b = 1) (hr : ∀ p ∈ ks, RchT ts b p) : Good ts b := by
 have hpos : ∀ p ∈ ks, 0 ≤ posZ (moT ts p) := fun p _ => by unfold posZ; split <;> omega
 have hle' : ∀ p ∈ ks, moT ts p ≤ M := fun p hp => hle _ (List.mem_map_of_mem hp)
 have tot := h.total
 refine ⟨?_, fun i hi => hr _ ((h.mem _).mpr ⟨i, hi, .inl rfl⟩)⟩
 by_cases c : M ≤ 0
 ·refine ⟨b, fun p => ?_⟩
  show moT ts p = _
  rw [Int.sub_self]
  by_cases hp : p ∈ ks
  ·have hn : ∀ q ∈ ks, 0 ≤ (fun q => 0 - moT ts q) q := fun q hq => by have := hle' q hq; show 0 ≤ 0 - moT ts q; omega
   have := sumZ_mem hn hp
   rw [sumZ_sub, sumZ_zero, tot] at this
   have h2 := hle' p hp
   have h3 : 0 - moT ts p ≤ 0 - 0 := this
   omega
  ·exact h.out hp
 ·obtain ⟨p0, hp0, e0⟩ := List.mem_map.mp hM
  have hM1 : M = 1 := by
   have := sumZ_mem hpos hp0
   have e : posZ (moT ts p0) = M := by rw [e0]; unfold posZ; rw [if_pos (by omega)]
   have h4 : posZ (moT ts p0) ≤ 1 := Int.le_trans this hs
   rw [e] at h4
   omega
  have hb1 := h1 hM1
  have eb : posZ (moT ts b) = 1 := by rw [hb1]; rfl
  have hoth : ∀ p ∈ ks, p ≠ b → moT ts p ≤ 0 := fun p hp hne => by
   have := sumZ_mem2 hpos hp hb hne
   have h4 : posZ (moT ts p) + posZ (moT ts b) ≤ 1 := Int.le_trans this hs
   rw [eb] at h4
   apply Classical.byContradiction
   intro c2
   have : posZ (moT ts p) = moT ts p := by unfold posZ; rw [if_pos (by omega)]
   omega
  obtain ⟨f, hf, hg⟩ := one_of h.nd (g := fun p => dl b p - moT ts p) (fun p hp => by
   show 0 ≤ dl b p - moT ts p
   by_cases c2 : p = b
   ·subst c2
    rw [dl_self, hb1]
    decide
   ·have := hoth p hp c2
    rw [dl_out c2]
    omega) (by rw [sumZ_sub, sumZ_dl h.nd hb, tot]; rfl)
  refine ⟨f, fun p => ?_⟩
  show moT ts p = _
  by_cases hp : p ∈ ks
  ·have : dl b p - moT ts p = dl f p := hg p hp
   omega
  ·rw [h.out hp, dl_out (fun e : p = b => hp (e ▸ hb)), dl_out (fun e : p = f => hp (e ▸ hf))]
   rfl
noncomputable def bg (x : Str) : Str := tx x.cps.toList.dropLast
noncomputable def en (x : Str) : Str := tx (x.cps.toList.drop 1)
abbrev Es := List (Str × Int)
noncomputable def ind (p : Prop) [Decidable p] : Int := if p then 1 else 0
noncomputable def mo1 (e : Str × Int) (P : Str) : Int := e.2 * ind (bg e.1 = P) - e.2 * ind (en e.1 = P)
noncomputable def mo (es : Es) (P : Str) : Int := (es.map fun e => mo1 e P).sum
theorem mo_snoc (es : Es) (e : Str × Int) (P : Str) : mo (es ++ [e]) P = mo es P + mo1 e P := by
 unfold mo
 rw [List.map_append, List.sum_append]
 simp
theorem mo_nil (P : Str) : mo [] P = 0 := rfl
theorem mo_cons (e : Str × Int) (es : Es) (P : Str) : mo (e :: es) P = mo1 e P + mo es P := by
 unfold mo
 rw [List.map_cons, List.sum_cons]
theorem mo_none : ∀ {es : Es} {P : Str}, (∀ e ∈ es, bg e.1 ≠ P ∧ en e.1 ≠ P) → mo es P = 0
 | [], _, _ => rfl
 | e :: es, P, h => by
  rw [mo_cons, mo_none fun x hx => h x (List.mem_cons_of_mem _ hx)]
  obtain ⟨h1, h2⟩ := h e (List.mem_cons_self ..)
  unfold mo1 ind
  rw [if_neg h1, if_neg h2]
  simp
noncomputable def tot (f : Str → Int) (ks : List Str) : Int := (ks.map f).sum
theorem tot_cons (f : Str → Int) (x : Str) (ks : List Str) : tot f (x :: ks) = f x + tot f ks := by
 unfold tot
 rw [List.map_cons, List.sum_cons]
theorem tot_add (f g : Str → Int) : ∀ ks : List Str, tot (fun x => f x + g x) ks = tot f ks + tot g ks
 | [] => rfl
 | x :: ks => by
  rw [tot_cons, tot_cons, tot_cons, tot_add f g ks]
  omega
theorem tot_ind (c : Int) (y : Str) : ∀ ks : List Str, ks.Nodup → tot (fun P => c * ind (y = P)) ks = if y ∈ ks then c else 0
 | [], _ => rfl
 | x :: ks, nd => by
  have nd' := List.nodup_cons.mp nd
  rw [tot_cons, tot_ind c y ks nd'.2]
  unfold ind
  by_cases e : y = x
  ·subst e
   rw [if_pos rfl, if_neg nd'.1, if_pos (List.mem_cons_self ..)]
   omega
  ·rw [if_neg e]
   have : (y ∈ x :: ks) ↔ y ∈ ks := by simp [e]
   simp only [this]
   omega
noncomputable def ups (f : Str → Int) (ss : List Str) : Es := (ss.filter fun x => decide (0 < f x)).map fun x => (x, f x)
noncomputable def sm (es : Es) : Int := (es.map fun e => e.2).sum
theorem ups_cons (f : Str → Int) (x : Str) (ss : List Str) : sm (ups f (x :: ss)) = (if 0 < f x then f x else 0) + sm (ups f ss) := by
 unfold sm ups
 rw [List.filter_cons]
 by_cases c : 0 < f x
 ·rw [if_pos c, if_pos (by simpa using c)]
  simp
 ·rw [if_neg c, if_neg (by simpa using c)]
  simp
theorem ups_le {f g : Str → Int} (h : ∀ x, f x ≤ g x) (h0 : ∀ x, 0 ≤ g x) : ∀ ss : List Str, sm (ups f ss) ≤ tot g ss
 | [] => Int.le_refl _
 | x :: ss => by
  have ih := ups_le h h0 ss
  rw [ups_cons, tot_cons]
  have := h x
  have := h0 x
  split <;> omega
theorem ups_bd {f : Str → Int} {b : Nat} (h : ∀ x, (f x).natAbs ≤ b) (ss : List Str) : ∀ e ∈ ups f ss, 0 < e.2 ∧ e.2 ≤ b := fun e he => by
 unfold ups at he
 obtain ⟨x, hx, rfl⟩ := List.mem_map.mp he
 have h1 := (List.mem_filter.mp hx).2
 have h2 := h x
 simp at h1
 constructor
 ·exact h1
 ·show f x ≤ b
  omega
theorem mo_bd : ∀ {es : Es} {b : Nat} (P : Str), (∀ e ∈ es, 0 ≤ e.2 ∧ e.2 ≤ b) → (mo es P).natAbs ≤ b * es.length
 | [], _, _, _ => by simp [mo]
 | e :: es, b, P, h => by
  have ih := mo_bd (es := es) P fun x hx => h x (List.mem_cons_of_mem _ hx)
  obtain ⟨h1, h2⟩ := h e (List.mem_cons_self ..)
  rw [mo_cons, List.length_cons, Nat.mul_add]
  have : (mo1 e P).natAbs ≤ b := by
   unfold mo1 ind
   split <;> split <;> omega
  omega
noncomputable def pcs (z : List Nat) (L : Nat) : List Str := (List.range (z.length - L + 1)).map fun i => tx ((z.drop i).take L)
noncomputable def tornE (ws ss : List Str) : Es := ss.map fun x => (x, (ws.count x : Int))
theorem mo_torn : ∀ {ws ss : List Str} (P : Str), ss.Nodup → (∀ x ∈ ws, x ∈ ss) → mo (tornE ws ss) P = mo (ws.map fun x => (x, 1)) P
 | [], ss, P, _, _ => by
  have : ∀ l : List Str, mo (tornE [] l) P = 0 := by
   intro l
   induction l with
   | nil => rfl
   | cons x l ih =>
    show mo ((x, (([] : List Str).count x : Int)) :: tornE [] l) P = 0
    rw [mo_cons, ih]
    unfold mo1
    simp
  rw [this]
  rfl
 | w :: ws, ss, P, nd, h => by
  have hw := h w (List.mem_cons_self ..)
  have ih := mo_torn (ws := ws) P nd fun x hx => h x (List.mem_cons_of_mem _ hx)
  rw [List.map_cons, mo_cons, ← ih]
  have key : ∀ l : List Str, l.Nodup → mo (tornE (w :: ws) l) P = (if w ∈ l then mo1 (w, 1) P else 0) + mo (tornE ws l) P := by
   intro l
   induction l with
   | nil => intro _; rfl
   | cons x l ih2 =>
    intro ndl
    have ndl' := List.nodup_cons.mp ndl
    show mo ((x, ((w :: ws).count x : Int)) :: tornE (w :: ws) l) P = _ + mo ((x, (ws.count x : Int)) :: tornE ws l) P
    rw [mo_cons, mo_cons, ih2 ndl'.2, List.count_cons]
    by_cases e : w = x
    ·subst e
     rw [if_neg ndl'.1, if_pos (List.mem_cons_self ..), if_pos (by simp)]
     unfold mo1
     dsimp only
     push_cast
     rw [Int.add_mul, Int.add_mul, Int.one_mul, Int.one_mul]
     omega
    ·have h1 : ((w == x) = true) = False := by simp [e]
     have h2 : (w ∈ x :: l) ↔ w ∈ l := by simp [e]
     rw [if_neg (by simp [e])]
     simp only [h2, Nat.add_zero]
     omega
  rw [key ss nd, if_pos hw]
def Chain : List Str → Prop
 | [] => True
 | [_] => True
 | a :: b :: l => en a = bg b ∧ Chain (b :: l)
theorem mo_chain (P : Str) : ∀ (w : Str) (ws : List Str), Chain (w :: ws) → mo ((w :: ws).map fun x => (x, 1)) P ≤ ind (bg w = P)
 | w, [], _ => by
  show mo [(w, 1)] P ≤ _
  rw [mo_cons, mo_nil]
  unfold mo1 ind
  split <;> split <;> omega
 | w, v :: ws, h => by
  have ih := mo_chain P v ws h.2
  rw [List.map_cons, mo_cons]
  have e : mo1 (w, 1) P = ind (bg w = P) - ind (bg v = P) := by
   unfold mo1
   dsimp only
   rw [h.1]
   omega
  rw [e]
  omega
theorem tx_cps (z : List Nat) : (tx z).cps.toList = z := tx_list z
theorem dropLast_take {z : List Nat} {n : Nat} (h : n + 1 ≤ z.length) : (z.take (n + 1)).dropLast = z.take n := by
 rw [List.dropLast_eq_take, List.length_take, List.take_take]
 congr 1
 omega
theorem bg_win {z : List Nat} {i L : Nat} (hL : 1 ≤ L) (h : i + L ≤ z.length) : bg (tx ((z.drop i).take L)) = tx ((z.drop i).take (L - 1)) := by
 unfold bg
 rw [tx_cps]
 obtain ⟨n, rfl⟩ : ∃ n, L = n + 1 := ⟨L - 1, by omega⟩
 rw [dropLast_take (by rw [List.length_drop]; omega), Nat.add_sub_cancel]
theorem en_win {z : List Nat} {i L : Nat} (hL : 1 ≤ L) : en (tx ((z.drop i).take L)) = tx ((z.drop (i + 1)).take (L - 1)) := by
 unfold en
 rw [tx_cps, List.drop_take, List.drop_drop]
theorem chain_of {f : Nat → Str} : ∀ (n a : Nat), (∀ i, a ≤ i → i + 1 < a + n → en (f i) = bg (f (i + 1))) → Chain ((List.range' a n).map f)
 | 0, a, _ => trivial
 | 1, a, _ => trivial
 | n + 2, a, h => by
  rw [List.range'_succ, List.range'_succ]
  refine ⟨h a (Nat.le_refl _) (by omega), ?_⟩
  have := chain_of (n + 1) (a + 1) fun i h1 h2 => h i (by omega) (by omega)
  rw [List.range'_succ] at this
  exact this
theorem torn_one {z : List Nat} {L : Nat} (h1 : 1 ≤ L) (h2 : L ≤ z.length) {es : Es} {ss ks : List Str} (hs : ss.Nodup) (hm : ∀ x ∈ pcs z L, x ∈ ss) (he : es = tornE (pcs z L) ss) (nd : ks.Nodup) : sm (ups (mo es) ks) ≤ 1 := by
 have hc : Chain (pcs z L) := by
  unfold pcs
  rw [List.range_eq_range']
  refine chain_of _ _ fun i a1 a2 => ?_
  rw [bg_win h1 (by omega), en_win h1]
 subst he
 obtain ⟨w, ws, ew⟩ : ∃ w ws, pcs z L = w :: ws := by
  cases e : pcs z L with
  | nil =>
   have := congrArg List.length e
   unfold pcs at this
   rw [List.length_map, List.length_range] at this
   simp at this
  | cons w ws => exact ⟨w, ws, rfl⟩
 have le := ups_le (f := mo (tornE (pcs z L) ss)) (g := fun P => 1 * ind (bg w = P)) (fun P => by
  rw [mo_torn P hs hm, ew]
  rw [ew] at hc
  have := mo_chain P w ws hc
  omega) (fun P => by unfold ind; split <;> omega) ks
 refine Int.le_trans le ?_
 rw [tot_ind 1 (bg w) ks nd]
 split <;> omega
def Adj (es : Es) (P y : Str) : Prop := ∃ e ∈ es, (bg e.1 = P ∧ en e.1 = y) ∨ (en e.1 = P ∧ bg e.1 = y)
inductive Rch (es : Es) (a : Str) : Str → Prop where
 | here : Rch es a a
 | step {P y : Str} (h : Rch es a P) (k : Adj es P y) : Rch es a y
theorem Rch.closed {es : Es} {a : Str} {F : Str → Prop} (ha : F a) (hc : ∀ P, F P → ∀ y, Adj es P y → F y) {y : Str} (h : Rch es a y) : F y := by
 induction h with
 | here => exact ha
 | step _ k ih => exact hc _ ih _ k
theorem adj_snoc {es : Es} {e : Str × Int} {P y : Str} : Adj (es ++ [e]) P y ↔ Adj es P y ∨ (bg e.1 = P ∧ en e.1 = y) ∨ (en e.1 = P ∧ bg e.1 = y) := by
 unfold Adj
 constructor
 ·rintro ⟨x, hx, q⟩
  rcases List.mem_append.mp hx with z | z
  ·exact .inl ⟨x, z, q⟩
  ·rw [List.mem_singleton.mp z] at q
   exact .inr q
 ·rintro (⟨x, hx, q⟩ | q)
  ·exact ⟨x, List.mem_append_left _ hx, q⟩
  ·exact ⟨e, by simp, q⟩
noncomputable def flatE (es : Es) : List Str := es.flatMap fun e => List.replicate e.2.toNat e.1
noncomputable def tsE (es : Es) : Ts := (flatE es).map fun x => (bg x, en x)
theorem flatE_cons (e : Str × Int) (es : Es) : flatE (e :: es) = List.replicate e.2.toNat e.1 ++ flatE es := by
 unfold flatE
 rw [List.flatMap_cons]
theorem flatE_snoc (es : Es) (e : Str × Int) : flatE (es ++ [e]) = flatE es ++ List.replicate e.2.toNat e.1 := by
 unfold flatE
 rw [List.flatMap_append]
 simp
theorem flatE_mem {es : Es} (hp : ∀ e ∈ es, 1 ≤ e.2) (x : Str) : x ∈ flatE es ↔ ∃ e ∈ es, e.1 = x := by
 unfold flatE
 rw [List.mem_flatMap]
 constructor
 ·rintro ⟨e, he, h⟩
  exact ⟨e, he, (List.mem_replicate.mp h).2.symm⟩
 ·rintro ⟨e, he, h⟩
  have := hp e he
  exact ⟨e, he, List.mem_replicate.mpr ⟨by omega, h.symm⟩⟩
theorem tsE_len (es : Es) : (tsE es).length = (flatE es).length := by unfold tsE; rw [List.length_map]
theorem frm_E {es : Es} {i : Nat} (h : i < (flatE es).length) : frm (tsE es) i = bg ((flatE es).getD i "") := by
 unfold frm tsE
 rw [List.getD_eq_getElem?_getD, List.getElem?_map, List.getElem?_eq_getElem h, List.getD_eq_getElem?_getD, List.getElem?_eq_getElem h]
 rfl
theorem tow_E {es : Es} {i : Nat} (h : i < (flatE es).length) : tow (tsE es) i = en ((flatE es).getD i "") := by
 unfold tow tsE
 rw [List.getD_eq_getElem?_getD, List.getElem?_map, List.getElem?_eq_getElem h, List.getD_eq_getElem?_getD, List.getElem?_eq_getElem h]
 rfl
theorem getD_mem {l : List Str} {i : Nat} (h : i < l.length) : l.getD i "" ∈ l := by
 rw [List.getD_eq_getElem?_getD, List.getElem?_eq_getElem h]
 exact List.getElem_mem h
theorem mem_getD {l : List Str} {x : Str} (h : x ∈ l) : ∃ i, i < l.length ∧ l.getD i "" = x := by
 obtain ⟨i, hi, e⟩ := List.getElem_of_mem h
 refine ⟨i, hi, ?_⟩
 rw [List.getD_eq_getElem?_getD, List.getElem?_eq_getElem hi]
 exact e
theorem bal_list (ts : Ts) (p : Str) : ∀ n, n ≤ ts.length → bal ts (List.range n) p = ((ts.take n).map fun t => dl t.1 p - dl t.2 p).sum
 | 0, _ => by simp [bal_nil]
 | n + 1, h => by
  rw [List.range_succ, bal_append, bal_list ts p n (by omega), bal_cons, bal_nil, List.take_succ_eq_append_getElem (by omega), List.map_append, List.sum_append]
  unfold frm tow
  rw [List.getD_eq_getElem?_getD, List.getElem?_eq_getElem (by omega)]
  simp
theorem sum_rep (n : Nat) (c : Int) : (List.replicate n c).sum = n * c := by
 induction n with
 | zero => simp
 | succ n ih =>
  rw [List.replicate_succ, List.sum_cons, ih, Int.natCast_add, Int.add_mul]
  omega
theorem moT_E {es : Es} (h0 : ∀ e ∈ es, 0 ≤ e.2) (p : Str) : moT (tsE es) p = mo es p := by
 unfold moT
 rw [bal_list _ _ _ (Nat.le_refl _), List.take_length]
 induction es with
 | nil => rfl
 | cons e es ih =>
  have h1 := h0 e (List.mem_cons_self ..)
  unfold tsE
  rw [flatE_cons, List.map_append, List.map_append, List.sum_append, List.map_replicate, List.map_replicate, sum_rep, mo_cons]
  have := ih fun e he => h0 e (List.mem_cons_of_mem _ he)
  unfold tsE at this
  rw [this]
  unfold mo1 dl ind
  rw [Int.toNat_of_nonneg h1, Int.mul_sub]
theorem adj_E {es : Es} (hp : ∀ e ∈ es, 1 ≤ e.2) (P y : Str) : AdjT (tsE es) P y ↔ Adj es P y := by
 unfold AdjT Adj
 constructor
 ·rintro ⟨i, hi, q⟩
  rw [tsE_len] at hi
  rw [frm_E hi, tow_E hi] at q
  obtain ⟨e, he, h⟩ := (flatE_mem hp _).mp (getD_mem hi)
  rw [← h] at q
  exact ⟨e, he, q⟩
 ·rintro ⟨e, he, q⟩
  obtain ⟨i, hi, h⟩ := mem_getD ((flatE_mem hp e.1).mpr ⟨e, he, rfl⟩)
  refine ⟨i, by rw [tsE_len]; exact hi, ?_⟩
  rw [frm_E hi, tow_E hi, h]
  exact q
theorem rch_E {es : Es} (hp : ∀ e ∈ es, 1 ≤ e.2) {a y : Str} (h : Rch es a y) : RchT (tsE es) a y := by
 induction h with
 | here => exact .here
 | step _ k ih => exact .step ih ((adj_E hp _ _).mpr k)
theorem Adj.symm {es : Es} {P y : Str} (h : Adj es P y) : Adj es y P := by
 obtain ⟨e, he, q⟩ := h
 exact ⟨e, he, q.symm.imp (fun z => ⟨z.2, z.1⟩) fun z => ⟨z.2, z.1⟩⟩
theorem Rch.trans {es : Es} {a b c : Str} (h : Rch es a b) (k : Rch es b c) : Rch es a c := by
 induction k with
 | here => exact h
 | step _ j ih => exact .step ih j
theorem Rch.symm {es : Es} {a b : Str} (h : Rch es a b) : Rch es b a := by
 induction h with
 | here => exact .here
 | step _ k ih => exact Rch.trans (.step .here k.symm) ih
theorem sm_pos (f : Str → Int) : ∀ ss : List Str, sm (ups f ss) = sumZ ss fun p => posZ (f p)
 | [] => rfl
 | x :: ss => by
  rw [ups_cons, sumZ_cons, sm_pos f ss]
  rfl
theorem has_max : ∀ l : List Int, l ≠ [] → ∃ M ∈ l, ∀ x ∈ l, x ≤ M
 | [], h => absurd rfl h
 | [x], _ => ⟨x, by simp, fun y hy => by rw [List.mem_singleton.mp hy]; exact Int.le_refl _⟩
 | x :: y :: l, _ => by
  obtain ⟨M, h1, h2⟩ := has_max (y :: l) (by simp)
  by_cases c : M ≤ x
  ·refine ⟨x, by simp, fun z hz => ?_⟩
   rcases List.mem_cons.mp hz with e | e
   ·rw [e]; exact Int.le_refl _
   ·exact Int.le_trans (h2 z e) c
  ·refine ⟨M, List.mem_cons_of_mem _ h1, fun z hz => ?_⟩
   rcases List.mem_cons.mp hz with e | e
   ·rw [e]; omega
   ·exact h2 z e
noncomputable def startE (e0 : Str × Int) (us : Es) : Str := match us with | [] => bg e0.1 | u :: _ => u.1
theorem good_E {e0 : Str × Int} {es0 : Es} {ss : List Str} (hp : ∀ e ∈ e0 :: es0, 1 ≤ e.2) (nd : ss.Nodup) (mem : ∀ p, p ∈ ss ↔ ∃ e ∈ e0 :: es0, bg e.1 = p ∨ en e.1 = p)
  (hs : sm (ups (mo (e0 :: es0)) ss) ≤ 1) (hh : ∀ e ∈ e0 :: es0, Rch (e0 :: es0) (bg e0.1) (bg e.1)) : Good (tsE (e0 :: es0)) (startE e0 (ups (mo (e0 :: es0)) ss)) := by
 have h0 : ∀ e ∈ e0 :: es0, 0 ≤ e.2 := fun e he => by have := hp e he; omega
 have emo : moT (tsE (e0 :: es0)) = mo (e0 :: es0) := funext fun p => moT_E h0 p
 have hin : e0 ∈ e0 :: es0 := List.mem_cons_self ..
 generalize e0 :: es0 = es at *
 have hK : Kp (tsE es) ss := ⟨nd, fun p => by
  rw [mem]
  constructor
  ·rintro ⟨e, he, q⟩
   obtain ⟨i, hi, h⟩ := mem_getD ((flatE_mem hp e.1).mpr ⟨e, he, rfl⟩)
   refine ⟨i, by rw [tsE_len]; exact hi, ?_⟩
   rw [frm_E hi, tow_E hi, h]
   exact q
  ·rintro ⟨i, hi, q⟩
   rw [tsE_len] at hi
   rw [frm_E hi, tow_E hi] at q
   obtain ⟨e, he, h⟩ := (flatE_mem hp _).mp (getD_mem hi)
   rw [← h] at q
   exact ⟨e, he, q⟩⟩
 have h0b : bg e0.1 ∈ ss := (mem _).mpr ⟨e0, hin, .inl rfl⟩
 have hall : ∀ p ∈ ss, Rch es (bg e0.1) p := fun p hpp => by
  obtain ⟨e, he, q⟩ := (mem p).mp hpp
  rcases q with q | q
  ·rw [← q]; exact hh e he
  ·exact .step (hh e he) ⟨e, he, .inl ⟨rfl, q⟩⟩
 obtain ⟨M, hM, hMx⟩ := has_max (ss.map (mo es)) (fun z => by rw [List.map_eq_nil_iff] at z; rw [z] at h0b; cases h0b)
 have hs' : sumZ ss (fun p => posZ (moT (tsE es) p)) ≤ 1 := by rw [emo, ← sm_pos]; exact hs
 have hst : startE e0 (ups (mo es) ss) ∈ ss ∧ (M = 1 → mo es (startE e0 (ups (mo es) ss)) = 1) := by
  cases hu : ups (mo es) ss with
  | nil =>
   refine ⟨h0b, fun e => ?_⟩
   obtain ⟨p, hpp, ep⟩ := List.mem_map.mp hM
   have : (p, mo es p) ∈ ups (mo es) ss := List.mem_map.mpr ⟨p, List.mem_filter.mpr ⟨hpp, decide_eq_true (by omega)⟩, rfl⟩
   rw [hu] at this
   cases this
  | cons u us =>
   have hm : u ∈ ups (mo es) ss := by rw [hu]; exact List.mem_cons_self ..
   obtain ⟨p, hpp, ep⟩ := List.mem_map.mp hm
   obtain ⟨h1, h2⟩ := List.mem_filter.mp hpp
   have h3 := of_decide_eq_true h2
   have e1 : startE e0 (u :: us) = p := by rw [← ep]; rfl
   rw [e1]
   refine ⟨h1, fun _ => ?_⟩
   have := sumZ_mem (f := fun p => posZ (moT (tsE es) p)) (fun p _ => by show 0 ≤ posZ _; unfold posZ; split <;> omega) h1
   have h5 : posZ (moT (tsE es) p) = mo es p := by rw [emo]; unfold posZ; rw [if_pos (by omega)]
   have h6 : posZ (moT (tsE es) p) ≤ 1 := Int.le_trans this hs'
   omega
 refine good_of hK hst.1 hs' (M := M) (by rw [emo]; exact hM) (by rw [emo]; exact hMx) (fun e => by rw [emo]; exact hst.2 e) fun p hpp => ?_
 exact rch_E hp ((hall _ hst.1).symm.trans (hall p hpp))
noncomputable def lst (x : Str) : Nat := x.cps.toList.getLastD 0
theorem bg_lst {x : Str} (h : 1 ≤ x.length) : x.cps.toList = (bg x).cps.toList ++ [lst x] := by
 unfold bg lst
 rw [tx_list]
 rcases List.eq_nil_or_concat x.cps.toList with e | ⟨l, c, e⟩
 ·rw [← len_codes, e] at h
  simp at h
 ·rw [List.concat_eq_append] at e
  rw [e]
  simp
noncomputable def spell (es : Es) (b : Str) (X : List Nat) : List Nat := b.cps.toList ++ X.map fun i => lst ((flatE es).getD i "")
theorem spell_at {es : Es} {L : Nat} (hL : 1 ≤ L) (hlen : ∀ x ∈ flatE es, x.length = L) {u v : Str} {X : List Nat} (c : Ch (tsE es) u X v) : (∀ i ∈ X, i < (flatE es).length) → u.length = L - 1 → ∀ i x, (X.map fun j => (flatE es).getD j "")[i]? = some x → tx (((spell es u X).drop i).take L) = x := by
 induction c with
 | nil u => intro _ _ i x e; simp at e
 | @cons j X u v e c ih =>
  intro hX hu i x hx
  have hj := hX j (List.mem_cons_self ..)
  have hT := hlen _ (getD_mem hj)
  rw [frm_E hj] at e
  have hbl := bg_lst (x := (flatE es).getD j "") (by omega)
  rw [e] at hbl
  have hsp : spell es u (j :: X) = ((flatE es).getD j "").cps.toList ++ X.map fun i => lst ((flatE es).getD i "") := by
   unfold spell
   rw [List.map_cons, hbl]
   simp
  have hcl : ((flatE es).getD j "").cps.toList.length = L := by rw [len_codes]; exact hT
  cases i with
  | zero =>
   simp at hx
   rw [hsp, List.drop_zero, List.take_left' hcl, tx_eta, ← hx, List.getD_eq_getElem?_getD]
  | succ i =>
   rw [List.map_cons] at hx
   have hx' : (X.map fun j => (flatE es).getD j "")[i]? = some x := by simpa using hx
   have en1 : (tow (tsE es) j).cps.toList = ((flatE es).getD j "").cps.toList.drop 1 := by
    rw [tow_E hj]
    unfold en
    rw [tx_list]
   have htl : (tow (tsE es) j).length = L - 1 := by rw [← len_codes, en1, List.length_drop, hcl]
   have := ih (fun k hk => hX k (List.mem_cons_of_mem _ hk)) htl i x hx'
   have hd : (spell es u (j :: X)).drop (i + 1) = (spell es (tow (tsE es) j) X).drop i := by
    rw [hsp, Nat.add_comm, ← List.drop_drop]
    congr 1
    unfold spell
    rw [en1, List.drop_append_of_le_length (by omega)]
   rw [hd]
   exact this
theorem spell_pcs {es : Es} {L : Nat} (hL : 1 ≤ L) (hlen : ∀ x ∈ flatE es, x.length = L) {u : Str} {X : List Nat} (hE : Eul (tsE es) u X) (hu : u.length = L - 1) (hne : 0 < (flatE es).length) : pcs (spell es u X) L = X.map fun j => (flatE es).getD j "" := by
 obtain ⟨hp, v, c⟩ := hE
 have hXl : X.length = (flatE es).length := by rw [hp.length_eq, List.length_range, tsE_len]
 have hX : ∀ i ∈ X, i < (flatE es).length := fun i hi => by
  have := List.mem_range.mp (hp.mem_iff.mp hi)
  rw [tsE_len] at this
  exact this
 have hsl : (spell es u X).length = L - 1 + X.length := by
  unfold spell
  rw [List.length_append, List.length_map, len_codes, hu]
 apply List.ext_getElem?
 intro i
 unfold pcs
 rw [List.getElem?_map, hsl]
 by_cases hi : i < X.length
 ·rw [List.getElem?_range (by omega), Option.map_some]
  have hx : (X.map fun j => (flatE es).getD j "")[i]? = some ((flatE es).getD X[i] "") := by rw [List.getElem?_map, List.getElem?_eq_getElem hi]; rfl
  rw [hx, spell_at hL hlen c hX hu i _ hx]
 ·rw [List.getElem?_eq_none (by rw [List.length_range]; omega), List.getElem?_eq_none (by rw [List.length_map]; omega)]
  rfl
theorem map_range_getD (l : List Str) : (List.range l.length).map (fun i => l.getD i "") = l := by
 apply List.ext_getElem?
 intro i
 rw [List.getElem?_map]
 by_cases hi : i < l.length
 ·rw [List.getElem?_range hi, Option.map_some, List.getD_eq_getElem?_getD, List.getElem?_eq_getElem hi]
  rfl
 ·rw [List.getElem?_eq_none (by rw [List.length_range]; omega), List.getElem?_eq_none (by omega)]
  rfl
theorem spell_perm {es : Es} {L : Nat} (hL : 1 ≤ L) (hlen : ∀ x ∈ flatE es, x.length = L) {u : Str} {X : List Nat} (hE : Eul (tsE es) u X) (hu : u.length = L - 1) (hne : 0 < (flatE es).length) : (pcs (spell es u X) L).Perm (flatE es) := by
 rw [spell_pcs hL hlen hE hu hne]
 have := hE.1.map fun j => (flatE es).getD j ""
 rw [tsE_len, map_range_getD] at this
 exact this
theorem count_E : ∀ {es : Es}, (es.map (·.1)).Nodup → (∀ e ∈ es, 0 ≤ e.2) → ∀ e ∈ es, ((flatE es).count e.1 : Int) = e.2
 | [], _, _, e, he => by cases he
 | d :: es, nd, h0, e, he => by
  rw [List.map_cons] at nd
  have nd' := List.nodup_cons.mp nd
  have hd := h0 d (List.mem_cons_self ..)
  rw [flatE_cons, List.count_append, List.count_replicate]
  rcases List.mem_cons.mp he with z | z
  ·subst z
   have : (flatE es).count e.1 = 0 := by
    rw [List.count_eq_zero]
    intro q
    unfold flatE at q
    obtain ⟨e', he', h⟩ := List.mem_flatMap.mp q
    exact nd'.1 (List.mem_map.mpr ⟨e', he', (List.mem_replicate.mp h).2.symm⟩)
   rw [this, if_pos (by simp)]
   omega
  ·have ne : ¬ (d.1 == e.1) = true := fun q => nd'.1 (List.mem_map.mpr ⟨e, z, (by simpa using q : d.1 = e.1).symm⟩)
   rw [if_neg ne]
   have := count_E nd'.2 (fun e he => h0 e (List.mem_cons_of_mem _ he)) e z
   omega
end Sh
namespace Sh
open PySem L2 PyProof.Rows
seal L2.PE L2.PS L2.PSs L2.PT L2.PW L2.PA L2.PI L2.PG L2.PGs L2.PO L2.PC L2.PCs L2.OpR L2.UnR L2.CallR L2.MtR L2.IxR L2.SlR
noncomputable def top (i : Nat) : Stmt := PySem.Challenge.pw_shredjoin_k23_torn_have_texts.main.body.getD i (.Pass ⟨0, 0, 0, 0⟩)
structure Blt (mg : Str → Option Value) : Prop where
 isi : mg "isinstance" = none
 int : mg "int" = none
 bool : mg "bool" = none
 str : mg "str" = none
 tuple : mg "tuple" = none
 list : mg "list" = none
 len : mg "len" = none
 range : mg "range" = none
 all : mg "all" = none
 min : mg "min" = none
 sorted : mg "sorted" = none
 rev : mg "reversed" = none
 zip : mg "zip" = none
 sum : mg "sum" = none
 set : mg "set" = none
 dict : mg "dict" = none
section
variable {P : Program} {w : World} {K : PySem.W.Frag} {mg : Str → Option Value} {base : Heap}
theorem tx_size {z : List Nat} (h : z.length ≤ 1000) : (tx z).length ≤ sizeLine := by rw [tx_len]; exact size_small (by omega)
end
section
variable {P : Program} {w : World} {K : PySem.W.Frag} {mg : Str → Option Value} {base : Heap}
theorem small5000 {n : Nat} (h : n ≤ 5000) : n < sizeLine := Nat.lt_of_le_of_lt h (by rw [sizeLine_eq]; decide)
theorem four_size : (4 : Nat) ≤ sizeLine := by rw [sizeLine_eq]; decide
end
end Sh
namespace L2
theorem seq_cut {c : TT} {t1 t2 u : TS} {D : Ends} {σ : L2.St} {H : Hp} (I : L2.St → Hp → Prop) (h : ∀ R : L2.St → Hp → Prop, (∀ σ' H', I σ' H' → R σ' H') → tIfS c t1 t2 { D with nx := R } σ H) (hu : ∀ σ' H', I σ' H' → u D σ' H') : tSeq (tIfS c t1 t2) u D σ H := h _ hu
end L2
namespace Sh
open PySem L2 PyProof.Rows
seal L2.PE L2.PS L2.PSs L2.PT L2.PW L2.PA L2.PI L2.PG L2.PGs L2.PO L2.PC L2.PCs L2.OpR L2.UnR L2.CallR L2.MtR L2.IxR L2.SlR
section
variable {P : Program} {w : World} {K : PySem.W.Frag} {mg : Str → Option Value} {base : Heap} {S C A1 A2 A3 A4 A5 A6 A7 A8 : Addr}
abbrev sLSeed : Stmt := top 21
noncomputable abbrev nLSeed : List Str := ["_law_cells", "_law_seed_here", "_law_cell"]
theorem scLSeed : FnScope nLSeed ["_law_cells"] (defScope sLSeed) := ⟨rfl, rfl, rfl, by decide +kernel, rfl, by decide +kernel, by decide +kernel⟩
def spSeed (K : PySem.W.Frag) : Sp := fun vs H Q _ => ∃ (a : Addr) (ns : List Int), vs = [.ref a] ∧ SqL K H a (ns.map V.int) ∧ ns.length ≤ 63 ∧ ∀ sd : Int, 0 ≤ sd → sd < 999999937 → Q (.int sd) H
theorem ok_l_seed (D : HasDef K mg "_law_seed" sLSeed ["_law_cells"]) (B : Blt mg) : FOk P w K mg base 1 "_law_seed" ["_law_cells"] (spSeed K) := by
 refine D.ok scLSeed (fun vs H Q E h => ?_) (fun f cdv A outer s H vs Q E hr h => ?_)
 ·obtain ⟨a, ns, rfl, _⟩ := h
  rfl
 ·obtain ⟨a, ns, rfl, ha, hl, k⟩ := h
  refine ⟨_, (pss_cons (ps_set (i := 1) scLSeed.nd rfl (Or.inl rfl) (pe_op op_add pe_int (pe_callB call_len rfl B.len b_len (pa_cons (pv 0) pa_nil))))
   (pss_cons (ps_for PassesOwn.never rfl (pi_list (pv 0)) (pg_name (i := 2) scLSeed.nd rfl (Or.inl rfl))
    (pss_one (ps_set (i := 1) scLSeed.nd rfl (Or.inl rfl) (pe_op op_mod (pe_op op_add (pe_op op_mul (pv 1) pe_int) (pv 2)) pe_int))))
   (pss_one (ps_ret (pv 1))))), ?_⟩
  refine ⟨_, rfl, .ref a, ns.length, rfl, (.inl ⟨_, ha, by rw [List.length_map]⟩), _, _, rfl, rfl, ?_⟩
  refine ⟨_, rfl, a, rfl, ⟨_, ha⟩, for_list (K := K) (a := a) (xs := ns.map V.int) (fun i σ H2 => (∃ (z : Option V) (sd : Int), σ = [some (.ref a), some (.int sd), z] ∧ 0 ≤ sd ∧ sd < 999999937) ∧ H2 = H)
   ⟨⟨none, _, rfl, by omega, by omega⟩, rfl⟩ (fun i σ H2 _ ⟨_, e⟩ => by rw [e]; exact ha) ?_ ?_⟩
  ·rintro i x σ H2 hi ⟨⟨z, sd, rfl, b1, b2⟩, rfl⟩
   obtain ⟨hi', rfl⟩ := step_mapV hi
   have bd := emod_bd (sd * 613 + ns[i]) (show (0 : Int) < 999999937 by decide)
   refine ⟨_, rfl, _, _, rfl, rfl, .inr ⟨by decide, by decide⟩, _, rfl, _, _, rfl, rfl, _, _, rfl, rfl, (by show (0 : Int) < 999999937; decide), ?_⟩
   exact ⟨⟨some (.int ns[i]), _, rfl, bd.1, bd.2⟩, rfl⟩
  rintro σ H2 ⟨⟨z, sd, rfl, b1, b2⟩, rfl⟩
  exact ⟨_, rfl, k sd b1 b2⟩
abbrev sLLetters : Stmt := top 22
noncomputable abbrev nLLetters : List Str := ["_law_cell", "_law_some", "_law_step"]
theorem scLLetters : FnScope nLLetters ["_law_cell"] (defScope sLLetters) := ⟨rfl, rfl, rfl, by decide +kernel, rfl, by decide +kernel, by decide +kernel⟩
def Cd (z : List Nat) : Prop := ∀ c ∈ z, c < 1000
def spLetters : Sp := fun vs H Q _ => ∃ cell : Int, vs = [.int cell] ∧ 0 ≤ cell ∧ cell < 2147483647 ∧ ∀ (l : List Nat) H', Same H H' → 2 ≤ l.length → l.length ≤ 4 → Cd l → Q (.str (tx l)) H'
set_option maxHeartbeats 4000000 in
theorem ok_l_letters (D : HasDef K mg "_law_letters" sLLetters ["_law_cell"]) (B : Blt mg) : FOk P w K mg base 1 "_law_letters" ["_law_cell"] spLetters := by
 refine D.ok scLLetters (fun vs H Q E h => ?_) (fun f cdv A outer s H vs Q E hr h => ?_)
 ·obtain ⟨cell, rfl, _⟩ := h
  rfl
 ·obtain ⟨cell, rfl, c0, c1, k⟩ := h
  refine ⟨_, (pss_cons (ps_set (i := 1) scLLetters.nd rfl (Or.inr rfl) pe_str)
   (pss_cons (ps_set (i := 2) scLLetters.nd rfl (Or.inr rfl) (pe_op op_add pe_int (pe_op op_mod (pe_op op_fdiv (pv 0) pe_int) pe_int)))
   (pss_one (ps_ret (pe_bm F.plainAttrs_str F.slot_str_join F.type_str_join mt_join pe_str (pa_cons (pe_lcomp (defScope sLLetters) nLLetters ["_law_k"] [0, 1, 2] rfl (pi_range1 rfl B.range (pa_cons (pe_ix ix_list (pe_lst (pa_cons pe_int (pa_cons pe_int (pa_cons pe_int (pa_cons pe_int pa_nil))))) (pe_op op_mod (pv 0) pe_int) (fun _ _ => rfl)) pa_nil)) (fun _ _ _ _ _ => pg_lc 0) (fun _ _ _ _ _ => pcs_nil) (fun _ _ _ _ _ => (pe_ix ix_str (pv 2) (pe_op op_mod (pe_op op_add (pe_op op_fdiv (pv 1) pe_int) (pe_op op_mul (pv 0) (pv 3))) pe_int) (fun _ _ => rfl)))) pa_nil)))))), ?_⟩
  have m4 := emod_bd cell (show (0 : Int) < 4 by decide)
  have m8 := emod_bd (cell / 104) (show (0 : Int) < 8 by decide)
  have hm : ∀ j : Nat, j < 4 → 2 ≤ ([2, 2, 3, 4] : List Int).getD j 0 ∧ ([2, 2, 3, 4] : List Int).getD j 0 ≤ 4 := by decide
  have hm4 := hm (cell % 4).toNat (by omega)
  refine ⟨_, rfl, _, _, rfl, rfl, ⟨by decide, by decide⟩, _, _, rfl, rfl, (by show (0 : Int) < 8; decide), _, _, rfl, rfl, ?_⟩
  refine ⟨rfl, four_size, fun p hp => ⟨_, rfl, _, _, rfl, rfl, (by show (0 : Int) < 4; decide), p, _, _, _, rfl, rfl, SqL.of upd_same, menu_at (ns := [2, 2, 3, 4]) m4.1 m4.2, _, rfl, by omega, by omega, ?_⟩⟩
  have s0 := same_upd_new (o := .lst [.int 2, .int 2, .int 3, .int 4]) hp
  generalize hN : (([2, 2, 3, 4] : List Int).getD (cell % 4).toNat 0) = N at hm4
  refine lc_map N.toNat (fun i => .int (0 + (i : Int))) (fun i v _ => ∃ c : Nat, v = .str (tx [c]) ∧ c < 1000) (few_size (by omega)) (fun _ _ _ _ _ r => r) jt_range ?_ ?_
  ·intro i H3 Qe hi hs kq
   have mb := emod_bd (cell / 4 + (0 + (i : Int)) * (1 + cell / 104 % 8)) (show (0 : Int) < 26 by decide)
   refine ⟨_, rfl, _, rfl, _, _, rfl, rfl, ⟨by decide, by decide⟩, _, rfl, _, rfl, _, _, rfl, rfl, .inl ⟨by omega, by omega⟩, _, _, rfl, rfl, _, _, rfl, rfl, (by show (0 : Int) < 26; decide), _, _, _, rfl, rfl, size_small (by decide), letter_at mb.1 mb.2, kq _ _ (Same.refl _) ⟨_, rfl, by omega⟩⟩
  ·intro D1 vs1 H3 hl1 hr1 hs3 hD1 hDl1
   have hcs : ∃ cs : List Nat, vs1 = (cs.map fun c => tx [c]).map V.str ∧ cs.length = vs1.length ∧ Cd cs := by
    have : ∀ vs : List V, (∀ v ∈ vs, ∃ c : Nat, v = V.str (tx [c]) ∧ c < 1000) → ∃ cs : List Nat, vs = (cs.map fun c => tx [c]).map V.str ∧ cs.length = vs.length ∧ Cd cs := by
     intro vs
     induction vs with
     | nil => exact fun _ => ⟨[], rfl, rfl, fun c hc => by cases hc⟩
     | cons v vs ih =>
      intro h
      obtain ⟨cs, e, el, ed⟩ := ih fun u hu => h u (by simp [hu])
      obtain ⟨c, ec, hc⟩ := h v (by simp)
      exact ⟨c :: cs, by rw [ec, e]; rfl, by simp [el], fun x hx => (List.mem_cons.mp hx).elim (fun q => q ▸ hc) (ed x)⟩
    exact this vs1 fun v hv => by
     obtain ⟨i, hi, e⟩ := List.mem_iff_getElem.mp hv
     exact hr1 i v (by rw [← e]; exact List.getElem?_eq_getElem hi)
   obtain ⟨cs, ecs, elc, ecd⟩ := hcs
   rw [ecs] at hDl1
   refine ⟨"", D1, cs.map fun c => tx [c], rfl, rfl, SqL.of hDl1, ?_, ?_⟩
   ·have e0 : ("" : Str).length = 0 := rfl
    have es : ((cs.map fun c => tx [c]).map fun x => x.length).sum ≤ (cs.map fun c => tx [c]).length * 1 := sum_len_le _ 1 fun y hy => by
     obtain ⟨c, _, rfl⟩ := List.mem_map.mp hy
     rw [tx_len]
     exact Nat.le_refl _
    rw [e0, Nat.mul_zero]
    rw [List.length_map] at es
    omega
   ·rw [join_ones]
    exact k cs _ (s0.trans hs3) (by omega) (by omega) ecd
end
theorem slice_take {z : List Nat} {n : Int} (h : 0 ≤ n) : Txt.slice (tx z) none (some n) = tx (z.take n.toNat) := by
 apply codes_inj
 rw [slice_to_codes h, tx_list, tx_list]
section
variable {P : Program} {w : World} {K : PySem.W.Frag} {mg : Str → Option Value} {base : Heap}
abbrev sLText : Stmt := top 23
noncomputable abbrev nLText : List Str := ["_law_cells", "_law_seed_here", "_law_letters_here", "_law_signs", "_law_way"]
theorem scLText : FnScope nLText ["_law_cells", "_law_seed_here"] (defScope sLText) := ⟨rfl, rfl, rfl, by decide +kernel, rfl, by decide +kernel, by decide +kernel⟩
def spText (K : PySem.W.Frag) : Sp := fun vs H Q _ => ∃ (a : Addr) (ns : List Int) (sd : Int), vs = [.ref a, .int sd] ∧ SqL K H a (ns.map V.int) ∧ ns.length ≤ 63 ∧ 0 ≤ sd ∧ sd < 999999937 ∧ ∀ (z : List Nat) H', Same H H' → 1 ≤ z.length → z.length ≤ 63 → Cd z → Q (.str (tx z)) H'
theorem ones_of : ∀ vs : List V, (∀ v ∈ vs, ∃ c : Nat, v = V.str (tx [c]) ∧ c < 1000) → ∃ cs : List Nat, vs = (cs.map fun c => tx [c]).map V.str ∧ cs.length = vs.length ∧ Cd cs := by
 intro vs
 induction vs with
 | nil => exact fun _ => ⟨[], rfl, rfl, fun c hc => by cases hc⟩
 | cons v vs ih =>
  intro h
  obtain ⟨cs, e, el, ed⟩ := ih fun u hu => h u (by simp [hu])
  obtain ⟨c, ec, hc⟩ := h v (by simp)
  exact ⟨c :: cs, by rw [ec, e]; rfl, by simp [el], fun x hx => (List.mem_cons.mp hx).elim (fun q => q ▸ hc) (ed x)⟩
theorem cd_getD {l : List Nat} (h : Cd l) (i : Nat) : l.getD i 0 < 1000 := by
 rw [List.getD_eq_getElem?_getD]
 by_cases hi : i < l.length
 ·rw [List.getElem?_eq_getElem hi]
  exact h _ (List.getElem_mem hi)
 ·rw [List.getElem?_eq_none (by omega)]
  decide
theorem ones_sum (cs : List Nat) (h : cs.length ≤ 1000) : (((cs.map fun c => tx [c]).map fun x => x.length).sum) + (cs.map fun c => tx [c]).length * ("" : Str).length ≤ 16777216 := by
 have e0 : ("" : Str).length = 0 := rfl
 have es : ((cs.map fun c => tx [c]).map fun x => x.length).sum ≤ (cs.map fun c => tx [c]).length * 1 := sum_len_le _ 1 fun y hy => by
  obtain ⟨c, _, rfl⟩ := List.mem_map.mp hy
  rw [tx_len]
  exact Nat.le_refl _
 rw [e0, Nat.mul_zero]
 rw [List.length_map] at es
 omega
set_option maxHeartbeats 16000000 in
theorem ok_l_text (D : HasDef K mg "_law_text" sLText ["_law_cells", "_law_seed_here"]) (B : Blt mg) (G__law_letters : FOk P w K mg base 1 "_law_letters" ["_law_cell"] spLetters) : FOk P w K mg base 2 "_law_text" ["_law_cells", "_law_seed_here"] (spText K) := by
 refine D.ok scLText (fun vs H Q E h => ?_) (fun f cdv A outer s H vs Q E hr h => ?_)
 ·obtain ⟨a, ns, sd, rfl, _⟩ := h
  rfl
 ·obtain ⟨a, ns, sd, rfl, ha, hl, h0, h1, k⟩ := h
  refine ⟨_, (pss_cons (ps_set (i := 2) scLText.nd rfl (Or.inr rfl) (pe_fn G__law_letters hr (pa_cons (pv 1) pa_nil)))
   (pss_cons (ps_set (i := 3) scLText.nd rfl (Or.inl rfl) (pe_bm F.plainAttrs_str F.slot_str_join F.type_str_join mt_join pe_str (pa_cons (pe_lcomp (defScope sLText) nLText ["_law_cell"] [2] rfl (pi_list (pv 0)) (fun _ _ _ _ _ => pg_lc 0) (fun _ _ _ _ _ => pcs_nil) (fun _ _ _ _ _ => (pe_ix ix_str (pv 1) (pe_op op_mod (pv 0) (pe_callB (call_lenK K) rfl B.len b_len (pa_cons (pv 1) pa_nil))) (fun _ _ => rfl)))) pa_nil)))
   (pss_cons (ps_set (i := 4) scLText.nd rfl (Or.inl rfl) (pe_op op_mod (pe_op op_fdiv (pv 1) pe_int) pe_int))
   (pss_cons (ps_if (pt_cmpR op_eq (pv 3) pe_str (nomark _)) (pss_one (ps_set (i := 3) scLText.nd rfl (Or.inl rfl) (pe_ix ix_str (pv 2) pe_int (fun _ _ => rfl)))) pss_nil)
   (pss_cons (ps_if (pt_cmpR op_eq (pv 4) pe_int (nomark _)) (pss_one (ps_set (i := 3) scLText.nd rfl (Or.inl rfl) (pe_slice sl_str (pe_op op_mulS (pe_slice sl_str (pv 3) po_none (po_some (pe_op op_add pe_int (pe_op op_mod (pe_op op_fdiv (pv 1) pe_int) pe_int)))) pe_int) po_none (po_some (pe_op op_add pe_int (pe_op op_mod (pe_op op_fdiv (pv 1) pe_int) pe_int)))))) pss_nil)
   (pss_cons (ps_if (pt_cmpR op_eq (pv 4) pe_int (nomark _)) (pss_one (ps_set (i := 3) scLText.nd rfl (Or.inl rfl) (pe_op op_add_str (pe_slice sl_str (pv 3) po_none (po_some pe_int)) (pe_bm F.plainAttrs_str F.slot_str_join F.type_str_join mt_join pe_str (pa_cons (pe_listRev rfl rfl B.list rfl B.rev (pe_slice sl_str (pv 3) po_none (po_some pe_int))) pa_nil))))) pss_nil)
   (pss_cons (ps_if (pt_cmpR op_eq (pv 4) pe_int (nomark _)) (pss_one (ps_set (i := 3) scLText.nd rfl (Or.inl rfl) (pe_op op_add_str (pe_slice sl_str (pv 3) po_none (po_some pe_int)) (pe_slice sl_str (pv 3) po_none (po_some (pe_op op_add pe_int (pe_op op_mod (pe_op op_fdiv (pv 1) pe_int) pe_int))))))) pss_nil)
   (pss_one (ps_ret (pv 3)))))))))), ?_⟩
  refine ⟨_, rfl, sd, rfl, h0, by omega, fun l H1 s1 l2 l4 lcd => ?_⟩
  have ha1 := s1.seq ha
  refine ⟨rfl, _, rfl, a, rfl, ⟨_, ha1⟩, ?_⟩
  refine lc_map (ns.map V.int).length (fun i => (ns.map V.int).getD i .non) (fun i v _ => ∃ c : Nat, v = .str (tx [c]) ∧ c < 1000) (by rw [List.length_map]; exact few_size (by omega)) (fun _ _ _ _ _ r => r) (jt_list ha1) ?_ ?_
  ·intro i H4 Qe hi hs kq
   have hi' : i < ns.length := by rw [List.length_map] at hi; exact hi
   rw [getD_mapV hi']
   have mb := emod_bd ns[i] (show (0 : Int) < (l.length : Int) by omega)
   exact ⟨_, rfl, _, rfl, _, rfl, .str (tx l), l.length, rfl, ⟨tx_size (by omega), (tx_len l).symm⟩, _, _, rfl, rfl, (by show (0 : Int) < (l.length : Int); omega), _, _, _, rfl, rfl, tx_size (by omega), at_code mb.1 mb.2, kq _ _ (Same.refl _) ⟨_, rfl, cd_getD lcd _⟩⟩
  intro D1 vs1 H3 hl1 hr1 hs3 hD1 hDl1
  obtain ⟨cs, ecs, elc, ccd⟩ := ones_of vs1 fun v hv => by
   obtain ⟨i, hi, e⟩ := List.mem_iff_getElem.mp hv
   exact hr1 i v (by rw [← e]; exact List.getElem?_eq_getElem hi)
  rw [ecs] at hDl1
  rw [List.length_map] at hl1
  refine ⟨"", D1, cs.map fun c => tx [c], rfl, rfl, SqL.of hDl1, ones_sum cs (by omega), ?_⟩
  rw [join_ones]
  refine ⟨_, rfl, _, _, rfl, rfl, ⟨by decide, by decide⟩, _, _, rfl, rfl, (by show (0 : Int) < 6; decide), ?_⟩
  have s13 := s1.trans hs3
  dsimp only [gName]
  show tSeq (tIfS _ _ _) _ _ _ _
  refine seq_cut (fun σ H' => ∃ z : List Nat, σ = [some (.ref a), some (.int sd), some (.str (tx l)), some (.str (tx z)), some (.int (sd / 1009 % 6))] ∧ Same H H' ∧ 1 ≤ z.length ∧ z.length ≤ 63 ∧ Cd z) (fun R hR => ?_) ?_
  ·refine ⟨_, rfl, rfl, _, rfl, ite2 (fun e => ?_) (fun e => ?_)⟩
   ·refine ⟨_, rfl, _, _, _, rfl, rfl, tx_size (by omega), at_code (z := l) (by decide) (by omega), ?_⟩
    exact hR _ _ ⟨[l.getD 0 0], rfl, s13, by simp, by simp, fun c hc => by rw [List.mem_singleton.mp hc]; exact cd_getD lcd 0⟩
   ·refine hR _ _ ⟨cs, rfl, s13, ?_, by omega, ccd⟩
    cases cs with
    | nil => exact absurd (decide_eq_true rfl) e
    | cons c r => simp
  rintro σ H4 ⟨z, rfl, s4, z1, z63, zcd⟩
  show tSeq (tIfS _ _ _) _ _ _ _
  refine seq_cut (fun σ H' => ∃ z : List Nat, σ = [some (.ref a), some (.int sd), some (.str (tx l)), some (.str (tx z)), some (.int (sd / 1009 % 6))] ∧ Same H H' ∧ 1 ≤ z.length ∧ z.length ≤ 63 ∧ Cd z) (fun R hR => ?_) ?_
  ·refine ⟨_, rfl, rfl, _, rfl, ite2 (fun e => ?_) (fun e => hR _ _ ⟨z, rfl, s4, z1, z63, zcd⟩)⟩
   have m7 := emod_bd (sd / 7) (show (0 : Int) < 7 by decide)
   have m60 := emod_bd (sd / 49) (show (0 : Int) < 60 by decide)
   refine ⟨_, rfl, _, rfl, _, _, rfl, rfl, ⟨by decide, by decide⟩, _, _, rfl, rfl, (by show (0 : Int) < 7; decide), _, _, rfl, rfl, _, rfl, _, rfl, tx_size (by omega), ?_⟩
   dsimp only
   rw [slice_take (by omega)]
   have hz' : (z.take (1 + sd / 7 % 7).toNat).length ≤ 7 ∧ 1 ≤ (z.take (1 + sd / 7 % 7).toNat).length := by
    rw [List.length_take]
    omega
   have hyc : Cd (z.take (1 + sd / 7 % 7).toNat) := fun c hc => zcd c (List.mem_of_mem_take hc)
   generalize z.take (1 + sd / 7 % 7).toNat = y at hz' hyc
   have em : Txt.mul (tx y) 50 = tx ((List.replicate 50 y).flatten) := by
    apply codes_inj
    rw [mul_codes (by decide) (by rw [tx_len]; omega), tx_list, tx_list]
    rfl
   refine ⟨_, _, rfl, rfl, L2.mulOk_of (by decide) (by decide) (by rw [tx_len]; omega), ?_⟩
   rw [em]
   have hrl := rep_len 50 y
   refine ⟨_, rfl, _, _, rfl, rfl, ⟨by decide, by decide⟩, _, _, rfl, rfl, (by show (0 : Int) < 60; decide), _, _, rfl, rfl, _, rfl, _, rfl, tx_size (by omega), ?_⟩
   dsimp only
   rw [slice_take (by omega)]
   refine hR _ _ ⟨_, rfl, s4, ?_, ?_, fun c hc => ?_⟩
   ·rw [List.length_take]; omega
   ·rw [List.length_take]; omega
   ·obtain ⟨q, hq, hcq⟩ := List.mem_flatten.mp (List.mem_of_mem_take hc)
    rw [(List.mem_replicate.mp hq).2] at hcq
    exact hyc c hcq
  rintro σ H5 ⟨z, rfl, s5, z1, z63, zcd⟩
  show tSeq (tIfS _ _ _) _ _ _ _
  refine seq_cut (fun σ H' => ∃ z : List Nat, σ = [some (.ref a), some (.int sd), some (.str (tx l)), some (.str (tx z)), some (.int (sd / 1009 % 6))] ∧ Same H H' ∧ 1 ≤ z.length ∧ z.length ≤ 63 ∧ Cd z) (fun R hR => ?_) ?_
  ·refine ⟨_, rfl, rfl, _, rfl, ite2 (fun e => ?_) (fun e => hR _ _ ⟨z, rfl, s5, z1, z63, zcd⟩)⟩
   refine ⟨_, rfl, _, rfl, _, rfl, tx_size (by omega), rfl, _, rfl, _, rfl, _, rfl, tx_size (by omega), _, rfl, ?_, fun p hp => ?_⟩
   ·rw [slice_take (by decide)]
    exact tx_size (by rw [List.length_take]; omega)
   rw [slice_take (by decide), tx_list]
   have hz' : (z.take (30 : Int).toNat).length ≤ 30 ∧ 1 ≤ (z.take (30 : Int).toNat).length := by
    rw [List.length_take]
    have : (30 : Int).toNat = 30 := rfl
    omega
   have hyc : Cd (z.take (30 : Int).toNat) := fun c hc => zcd c (List.mem_of_mem_take hc)
   generalize z.take (30 : Int).toNat = y at hz' hyc
   have s6 := same_upd_new (o := .lst (y.reverse.map fun c => V.str (tx [c]))) hp
   have em : (y.reverse.map fun c => V.str (tx [c])) = (y.reverse.map fun c => tx [c]).map V.str := by rw [List.map_map]; rfl
   refine ⟨"", p, y.reverse.map fun c => tx [c], rfl, rfl, SqL.of (by rw [upd_same, em]), ones_sum y.reverse (by rw [List.length_reverse]; omega), ?_⟩
   rw [join_ones]
   refine ⟨_, _, rfl, rfl, ?_, ?_⟩
   ·rw [tx_len, tx_len, List.length_reverse]; exact few_size (by omega)
   rw [tx_app]
   refine hR _ _ ⟨_, rfl, s5.trans s6, ?_, ?_, fun c hc => ?_⟩
   ·rw [List.length_append]; omega
   ·rw [List.length_append, List.length_reverse]; omega
   ·rcases List.mem_append.mp hc with q | q
    ·exact hyc c q
    ·exact hyc c (List.mem_reverse.mp q)
  rintro σ H6 ⟨z, rfl, s6, z1, z63, zcd⟩
  show tSeq (tIfS _ _ _) _ _ _ _
  refine seq_cut (fun σ H' => ∃ z : List Nat, σ = [some (.ref a), some (.int sd), some (.str (tx l)), some (.str (tx z)), some (.int (sd / 1009 % 6))] ∧ Same H H' ∧ 1 ≤ z.length ∧ z.length ≤ 63 ∧ Cd z) (fun R hR => ?_) ?_
  ·refine ⟨_, rfl, rfl, _, rfl, ite2 (fun e => ?_) (fun e => hR _ _ ⟨z, rfl, s6, z1, z63, zcd⟩)⟩
   have m6 := emod_bd (sd / 11) (show (0 : Int) < 6 by decide)
   refine ⟨_, rfl, _, rfl, _, rfl, tx_size (by omega), _, rfl, _, rfl, _, _, rfl, rfl, ⟨by decide, by decide⟩, _, _, rfl, rfl, (by show (0 : Int) < 6; decide), _, _, rfl, rfl, _, rfl, _, rfl, tx_size (by omega), ?_⟩
   dsimp only
   rw [slice_take (by decide), slice_take (by omega)]
   have b1 : (z.take (40 : Int).toNat).length ≤ 40 ∧ 1 ≤ (z.take (40 : Int).toNat).length := by
    rw [List.length_take]
    have : (40 : Int).toNat = 40 := rfl
    omega
   have b2 : (z.take (1 + sd / 11 % 6).toNat).length ≤ 6 := by
    rw [List.length_take]; omega
   refine ⟨_, _, rfl, rfl, ?_, ?_⟩
   ·rw [tx_len, tx_len]; exact few_size (by omega)
   rw [tx_app]
   refine hR _ _ ⟨_, rfl, s6, ?_, ?_, fun c hc => ?_⟩
   ·rw [List.length_append]; omega
   ·rw [List.length_append]; omega
   ·rcases List.mem_append.mp hc with q | q
    ·exact zcd c (List.mem_of_mem_take q)
    ·exact zcd c (List.mem_of_mem_take q)
  rintro σ H7 ⟨z, rfl, s7, z1, z63, zcd⟩
  exact ⟨_, rfl, k z H7 s7 z1 z63 zcd⟩
end
theorem slice_bg {x : Str} (h : 1 ≤ x.length) : Txt.slice x none (some (-1)) = bg x := by
 apply codes_inj
 rw [eq_of_beq (slice_closes_to_neg (x := x) (j := -1) (k := -1 + x.length) (by decide) (by omega) rfl)]
 unfold bg
 rw [tx_list, List.dropLast_eq_take, len_codes]
 simp
 congr 1
 omega
theorem slice_en {x : Str} (h : 1 ≤ x.length) : Txt.slice x (some 1) none = en x := by
 apply codes_inj
 rw [slice_from_codes (by decide) (by omega)]
 unfold en
 rw [tx_list]
 rfl
def PA (H : Hp) (vs : List V) (es : Es) : Prop := vs.length = es.length ∧ ∀ (i : Nat) (e : Str × Int), es[i]? = some e → ∃ b, vs[i]? = some (.ref b) ∧ H b = some (.tup [.str e.1, .int e.2])
theorem PA.same {H H' : Hp} {vs : List V} {es : Es} (h : PA H vs es) (s : TSame H H') : PA H' vs es := ⟨h.1, fun i e q => by
 obtain ⟨b, e1, e2⟩ := h.2 i e q
 exact ⟨b, e1, s _ _ e2⟩⟩
def HeapV (H : Hp) (v : V) (es : Es) : Prop := ∃ q vs, v = .ref q ∧ H q = some (.tup vs) ∧ PA H vs es
theorem HeapV.same {H H' : Hp} {v : V} {es : Es} (h : HeapV H v es) (s : Same H H') : HeapV H' v es := by
 obtain ⟨q, vs, e, e1, e2⟩ := h
 exact ⟨q, vs, e, s _ _ e1, e2.same s.tup⟩
structure Fine (es : Es) : Prop where
 few : es.length ≤ 301
 many : ∀ e ∈ es, 0 ≤ e.2 ∧ e.2 ≤ 1000
 long : ∀ e ∈ es, 1 ≤ e.1.length ∧ e.1.length ≤ 1000
structure Pts (es : Es) (ks : List Str) : Prop where
 nd : ks.Nodup
 mem : ∀ P, P ∈ ks ↔ ∃ e ∈ es, bg e.1 = P ∨ en e.1 = P
 len : ks.length ≤ 2 * es.length
theorem Pts.nil : Pts [] [] := ⟨List.nodup_nil, fun P => by simp, Nat.le_refl _⟩
def addK (ks : List Str) (x : Str) : List Str := if x ∈ ks then ks else ks ++ [x]
theorem addK_nd {ks : List Str} {x : Str} (h : ks.Nodup) : (addK ks x).Nodup := by
 unfold addK
 split
 ·exact h
 ·rename_i c
  exact List.nodup_append.mpr ⟨h, by simp, fun a ha b hb e => by rw [List.mem_singleton.mp hb] at e; subst e; exact c ha⟩
theorem addK_mem {ks : List Str} {x y : Str} : y ∈ addK ks x ↔ y ∈ ks ∨ y = x := by
 unfold addK
 split
 ·rename_i c
  exact ⟨.inl, fun h => h.elim id fun e => e ▸ c⟩
 ·simp
theorem addK_len (ks : List Str) (x : Str) : (addK ks x).length ≤ ks.length + 1 := by
 unfold addK
 split <;> simp
theorem Pts.step {es : Es} {ks : List Str} (h : Pts es ks) (e : Str × Int) : Pts (es ++ [e]) (addK (addK ks (bg e.1)) (en e.1)) where
 nd := addK_nd (addK_nd h.nd)
 mem := fun P => by
  rw [addK_mem, addK_mem, h.mem]
  constructor
  ·rintro ((⟨x, hx, q⟩ | q) | q)
   ·exact ⟨x, List.mem_append_left _ hx, q⟩
   ·exact ⟨e, by simp, .inl q.symm⟩
   ·exact ⟨e, by simp, .inr q.symm⟩
  ·rintro ⟨x, hx, q⟩
   rcases List.mem_append.mp hx with z | z
   ·exact .inl (.inl ⟨x, z, q⟩)
   ·rw [List.mem_singleton.mp z] at q
    rcases q with q | q
    ·exact .inl (.inr q.symm)
    ·exact .inr q.symm
 len := by
  have h1 := addK_len (addK ks (bg e.1)) (en e.1)
  have h2 := addK_len ks (bg e.1)
  have := h.len
  rw [List.length_append, List.length_singleton]
  omega
theorem Pts.zero {es : Es} {ks : List Str} (h : Pts es ks) {P : Str} (hP : P ∉ ks) : mo es P = 0 := mo_none fun e he => ⟨fun q => hP ((h.mem P).mpr ⟨e, he, .inl q⟩), fun q => hP ((h.mem P).mpr ⟨e, he, .inr q⟩)⟩
theorem gD_get {ks : List Str} {g : Str → Int} {y : Str} (h0 : y ∉ ks → g y = 0) : (valV (gD ks g) (Sum.inr y : Key)).getD (.int 0) = .int (g y) := by
 rw [gD_val]
 split
 ·rfl
 ·rename_i c
  rw [h0 c]
  rfl
theorem filt_ix {ss : List Str} {p : Str → Bool} : ss.filter p = ((List.range ss.length).filter fun i => p (ss.getD i "")).map fun i => ss.getD i "" := by
 have e : ss = (List.range ss.length).map fun i => ss.getD i "" := by
  apply List.ext_getElem?
  intro i
  rw [List.getElem?_map]
  by_cases hi : i < ss.length
  ·rw [List.getElem?_range hi, Option.map_some, List.getD_eq_getElem?_getD, List.getElem?_eq_getElem hi]
   rfl
  ·rw [List.getElem?_eq_none (by omega), List.getElem?_eq_none (by simp; omega)]
   rfl
 conv => lhs; rw [e]
 rw [List.filter_map]
 rfl
def rowAt (x : Str) (n : Int) (v : V) (H : Hp) : Prop := ∃ b, v = .ref b ∧ H b = some (.tup [.str x, .int n])
theorem pa_of {H : Hp} {vs : List V} {ss : List Str} {p : Str → Bool} {f : Str → Int} (hl : vs.length = ((List.range ss.length).filter fun i => p (ss.getD i "")).length)
  (hR : ∀ (j i : Nat) (v : V), ((List.range ss.length).filter fun i => p (ss.getD i ""))[j]? = some i → vs[j]? = some v → rowAt (ss.getD i "") (f (ss.getD i "")) v H) : PA H vs ((ss.filter p).map fun x => (x, f x)) := by
 rw [filt_ix]
 refine ⟨by rw [List.length_map, List.length_map, hl], fun j e he => ?_⟩
 rw [List.getElem?_map, List.getElem?_map] at he
 cases hj : ((List.range ss.length).filter fun i => p (ss.getD i ""))[j]? with
 | none => rw [hj] at he; cases he
 | some i =>
  rw [hj] at he
  cases he
  have hjv : j < vs.length := by rw [hl]; exact (List.getElem?_eq_some_iff.mp hj).1
  obtain ⟨b, e1, e2⟩ := hR j i vs[j] hj (List.getElem?_eq_getElem hjv)
  exact ⟨b, by rw [List.getElem?_eq_getElem hjv, e1], e2⟩
structure SPts (es : Es) (ss : List Str) : Prop where
 srt : (ss.map fun x => x.cps.toList).Pairwise (· < ·)
 pts : Pts es ss
theorem SPts.of {es : Es} {ks ss : List Str} (h : Pts es ks) (p : ss.Perm ks) (s : (ss.map fun x => x.cps.toList).Pairwise (· < ·)) : SPts es ss :=
 ⟨s, p.nodup_iff.mpr h.nd, fun P => by rw [p.mem_iff, h.mem], by rw [p.length_eq]; exact h.len⟩
section
variable {P : Program} {w : World} {K : PySem.W.Frag} {mg : Str → Option Value} {base : Heap}
theorem len_size {x : Str} (h : x.length ≤ 1000) : x.length ≤ sizeLine := size_small (by omega)
abbrev sBeginOf : Stmt := top 1
noncomputable abbrev nBeginOf : List Str := ["piece"]
theorem scBeginOf : FnScope nBeginOf ["piece"] (defScope sBeginOf) := ⟨rfl, rfl, rfl, by decide +kernel, rfl, by decide +kernel, by decide +kernel⟩
def spBeg : Sp := fun vs H Q _ => ∃ x : Str, vs = [.str x] ∧ 1 ≤ x.length ∧ x.length ≤ 1000 ∧ Q (.str (bg x)) H
theorem ok_begin_of (D : HasDef K mg "begin_of" sBeginOf ["piece"]) : FOk P w K mg base 1 "begin_of" ["piece"] spBeg := by
 refine D.ok scBeginOf (fun vs H Q E h => ?_) (fun f cdv A outer s H vs Q E hr h => ?_)
 ·obtain ⟨x, rfl, _⟩ := h
  rfl
 ·obtain ⟨x, rfl, h1, h2, k⟩ := h
  refine ⟨_, (pss_one (ps_ret (pe_slice sl_str (pv 0) po_none (po_some (pe_un un_neg pe_int))))), ?_⟩
  refine ⟨_, rfl, _, rfl, _, rfl, _, rfl, len_size h2, ?_⟩
  rw [← slice_bg h1] at k
  exact k
abbrev sEndOf : Stmt := top 2
abbrev nEndOf : List Str := ["piece"]
theorem scEndOf : FnScope nEndOf ["piece"] (defScope sEndOf) := ⟨rfl, rfl, rfl, by decide +kernel, rfl, by decide +kernel, by decide +kernel⟩
def spEnd : Sp := fun vs H Q _ => ∃ x : Str, vs = [.str x] ∧ 1 ≤ x.length ∧ x.length ≤ 1000 ∧ Q (.str (en x)) H
theorem ok_end_of (D : HasDef K mg "end_of" sEndOf ["piece"]) : FOk P w K mg base 1 "end_of" ["piece"] spEnd := by
 refine D.ok scEndOf (fun vs H Q E h => ?_) (fun f cdv A outer s H vs Q E hr h => ?_)
 ·obtain ⟨x, rfl, _⟩ := h
  rfl
 ·obtain ⟨x, rfl, h1, h2, k⟩ := h
  refine ⟨_, (pss_one (ps_ret (pe_slice sl_str (pv 0) (po_some pe_int) po_none))), ?_⟩
  refine ⟨_, rfl, _, rfl, _, rfl, len_size h2, ?_⟩
  rw [← slice_en h1] at k
  exact k
end
theorem slice_win {z : List Nat} {i L : Nat} {a b : Int} (ea : a = i) (eb : b = i + L) (h : i + L ≤ z.length) : Txt.slice (tx z) (some a) (some b) = tx ((z.drop i).take L) := by
 subst ea eb
 apply codes_inj
 rw [slice_mid_codes (by omega) (by omega) (by rw [tx_len]; omega), tx_list, tx_list]
 congr 1
 omega
theorem one_tx (c : Nat) : ({ cps := #[c] } : Str) = tx [c] := rfl
theorem pcs_len (z : List Nat) (L : Nat) : (pcs z L).length = z.length - L + 1 := by unfold pcs; rw [List.length_map, List.length_range]
theorem pcs_at {z : List Nat} {L i : Nat} (h : i < (pcs z L).length) : (pcs z L)[i] = tx ((z.drop i).take L) := by
 have e : (pcs z L)[i]? = some (tx ((z.drop i).take L)) := by
  rw [pcs_len] at h
  unfold pcs
  rw [List.getElem?_map, List.getElem?_range h]
  rfl
 rw [List.getElem?_eq_getElem h] at e
 exact Option.some.inj e
section
variable {P : Program} {w : World} {K : PySem.W.Frag} {mg : Str → Option Value} {base : Heap}
abbrev sLTorn : Stmt := top 24
noncomputable abbrev nLTorn : List Str := ["_law_signs", "_law_long", "_law_found", "_law_at", "_law_piece_here"]
theorem scLTorn : FnScope nLTorn ["_law_signs", "_law_long"] (defScope sLTorn) := ⟨rfl, rfl, rfl, by decide +kernel, rfl, by decide +kernel, by decide +kernel⟩
structure CntD (ws ks : List Str) : Prop where
 nd : ks.Nodup
 mem : ∀ x, x ∈ ks ↔ x ∈ ws
 len : ks.length ≤ ws.length
noncomputable def cnt (ws : List Str) (x : Str) : Int := (ws.count x : Int)
def spTorn : Sp := fun vs H Q _ => ∃ (z : List Nat) (L : Nat), vs = [.str (tx z), .int L] ∧ 1 ≤ L ∧ L ≤ z.length ∧ z.length ≤ 700 ∧ ∀ d H' ks, H d = none → Same H H' → H' d = some (.dK (gD ks (cnt (pcs z L)))) → CntD (pcs z L) ks → Q (.ref d) H'
set_option maxHeartbeats 4000000 in
theorem ok_l_torn (D : HasDef K mg "_law_torn" sLTorn ["_law_signs", "_law_long"]) (B : Blt mg) : FOk P w K mg base 1 "_law_torn" ["_law_signs", "_law_long"] spTorn := by
 refine D.ok scLTorn (fun vs H Q E h => ?_) (fun f cdv A outer s H vs Q E hr h => ?_)
 ·obtain ⟨z, L, rfl, _⟩ := h
  rfl
 ·obtain ⟨z, L, rfl, h1, h2, h63, k⟩ := h
  have hu := hu_of hr
  refine ⟨_, (pss_cons (ps_set (i := 2) scLTorn.nd rfl (Or.inl rfl) pe_dnewK)
   (pss_cons (ps_for PassesOwn.never rfl (pi_range1 rfl B.range (pa_cons (pe_op op_add (pe_op op_sub (pe_callB call_len rfl B.len b_len (pa_cons (pv 0) pa_nil)) (pv 1)) pe_int) pa_nil)) (pg_name (i := 3) scLTorn.nd rfl (Or.inl rfl))
    (pss_cons (ps_set (i := 4) scLTorn.nd rfl (Or.inl rfl) (pe_slice sl_str (pv 0) (po_some (pv 3)) (po_some (pe_op op_add (pv 3) (pv 1)))))
   (pss_one (ps_dput hu (pv 2) (pv 4) (pe_op op_add (pe_dget2 hu (pv 2) (pv 4) pe_int ⟨rfl, rfl, rfl, rfl⟩) pe_int) rfl))))
   (pss_one (ps_ret (pv 2))))), ?_⟩
  refine fun d hd => ⟨_, rfl, .str (tx z), z.length, rfl, ⟨tx_size (by omega), (tx_len z).symm⟩, _, rfl, _, _, rfl, rfl, _, _, rfl, rfl, _, rfl, by omega, by omega, ?_⟩
  have en : ((z.length : Int) - (L : Int) + 1).toNat = (pcs z L).length := by rw [pcs_len]; omega
  have hpl := pcs_len z L
  rw [en]
  refine for_range (n := (pcs z L).length) (fun i σ H2 => (∃ z3 z4 : Option V, σ = [some (.str (tx z)), some (.int L), some (.ref d), z3, z4]) ∧ Same H H2 ∧ ∃ ks, CntD ((pcs z L).take i) ks ∧ H2 d = some (.dK (gD ks (cnt ((pcs z L).take i)))))
   ⟨⟨none, none, rfl⟩, same_upd_new hd, [], ⟨List.nodup_nil, fun x => by simp, Nat.le_refl _⟩, upd_same⟩ ?_ ?_
  ·rintro i σ H2 hi ⟨⟨z3, z4, rfl⟩, s2, ks, hk, hdd⟩
   rw [Int.zero_add]
   refine ⟨_, rfl, _, rfl, _, rfl, _, rfl, _, rfl, _, _, rfl, rfl, _, rfl, _, rfl, tx_size (by omega), ?_⟩
   rw [slice_win (z := z) (i := i) (L := L) rfl rfl (by omega), ← pcs_at hi]
   have hg := gD_get (ks := ks) (g := cnt ((pcs z L).take i)) (y := (pcs z L)[i]) fun hP => by
    unfold cnt
    rw [List.count_eq_zero_of_not_mem fun q => hP ((hk.mem _).mpr q)]
    rfl
   have hkl := hk.len
   rw [List.length_take] at hkl
   have het : (pcs z L).take (i + 1) = (pcs z L).take i ++ [(pcs z L)[i]] := List.take_succ_eq_append_getElem hi
   generalize (pcs z L)[i] = y at *
   refine ⟨_, rfl, d, rfl, .inl ⟨_, .inl hdd⟩, _, rfl, _, DGet.k (k := Sum.inr y) hdd, _, _, hg, rfl, _, rfl, _, rfl, d, _, rfl, DPut.k (k := Sum.inr y) hdd (by rw [gD_len]; exact small1000 (by omega)), ?_⟩
   refine ⟨⟨_, _, rfl⟩, fun b u e => ?_, addK ks y, ⟨addK_nd hk.nd, fun x => ?_, ?_⟩, ?_⟩
   ·rw [upd_ne (ne_of_none e hd)]
    exact s2 b u e
   ·rw [addK_mem, hk.mem, het]
    simp
   ·have := addK_len ks y
    rw [het, List.length_append, List.length_singleton, List.length_take]
    omega
   ·rw [upd_same, gD_put, het]
    refine congrArg (fun l => some (HO.dK l)) (gD_congr fun x _ => ?_)
    unfold cnt
    rw [List.count_append, List.count_singleton]
    by_cases c : x = y
    ·subst c
     rw [if_pos rfl, if_pos (by simp)]
     push_cast
     rfl
    ·rw [if_neg c, if_neg (by simp; exact fun q => c q.symm)]
     rfl
  ·rintro σ H2 ⟨⟨z3, z4, rfl⟩, s2, ks, hk, hdd⟩
   rw [List.take_length] at hk hdd
   exact ⟨_, rfl, k d H2 ks hd s2 hdd hk⟩
abbrev sLPiece : Stmt := top 25
noncomputable abbrev nLPiece : List Str := ["_law_cell", "_law_letters_here", "_law_long", "_law_piece_here", "_law_k"]
theorem scLPiece : FnScope nLPiece ["_law_cell", "_law_letters_here", "_law_long"] (defScope sLPiece) := ⟨rfl, rfl, rfl, by decide +kernel, rfl, by decide +kernel, by decide +kernel⟩
def spPiece : Sp := fun vs H Q _ => ∃ (c : Int) (l : List Nat) (L : Nat), vs = [.int c, .str (tx l), .int L] ∧ 2 ≤ l.length ∧ l.length ≤ 4 ∧ Cd l ∧ L ≤ 300 ∧ ∀ z : List Nat, z.length = L → Cd z → Q (.str (tx z)) H
set_option maxHeartbeats 4000000 in
theorem ok_l_piece (D : HasDef K mg "_law_piece" sLPiece ["_law_cell", "_law_letters_here", "_law_long"]) (B : Blt mg) : FOk P w K mg base 1 "_law_piece" ["_law_cell", "_law_letters_here", "_law_long"] spPiece := by
 refine D.ok scLPiece (fun vs H Q E h => ?_) (fun f cdv A outer s H vs Q E hr h => ?_)
 ·obtain ⟨c, l, L, rfl, _⟩ := h
  rfl
 ·obtain ⟨c, l, L, rfl, l2, l4, lc, hL, k⟩ := h
  refine ⟨_, (pss_cons (ps_set (i := 3) scLPiece.nd rfl (Or.inl rfl) pe_str)
   (pss_cons (ps_for PassesOwn.never rfl (pi_range1 rfl B.range (pa_cons (pv 2) pa_nil)) (pg_name (i := 4) scLPiece.nd rfl (Or.inl rfl))
    (pss_cons (ps_set (i := 3) scLPiece.nd rfl (Or.inl rfl) (pe_op op_add_str (pv 3) (pe_ix ix_str (pv 1) (pe_op op_mod (pv 0) (pe_callB call_len rfl B.len b_len (pa_cons (pv 1) pa_nil))) (fun _ _ => rfl))))
   (pss_one (ps_set (i := 0) scLPiece.nd rfl (Or.inl rfl) (pe_op op_add (pe_op op_fdiv (pv 0) (pe_callB call_len rfl B.len b_len (pa_cons (pv 1) pa_nil))) (pe_op op_mul (pe_op op_mod (pv 0) pe_int) pe_int))))))
   (pss_one (ps_ret (pv 3))))), ?_⟩
  refine ⟨_, rfl, _, rfl, by omega, by omega, ?_⟩
  rw [Int.toNat_natCast]
  refine for_range (n := L) (fun i σ H2 => (∃ (c : Int) (z : List Nat) (z4 : Option V), σ = [some (.int c), some (.str (tx l)), some (.int L), some (.str (tx z)), z4] ∧ z.length = i ∧ Cd z) ∧ H2 = H)
   ⟨⟨c, [], none, rfl, rfl, fun c hc => by cases hc⟩, rfl⟩ ?_ ?_
  ·rintro i σ H2 hi ⟨⟨c, z, z4, rfl, hz, zc⟩, rfl⟩
   have mb := emod_bd c (show (0 : Int) < (l.length : Int) by omega)
   have hlen : LenV K (.str (tx l)) H2 l.length := ⟨tx_size (by omega), (tx_len l).symm⟩
   refine ⟨_, rfl, _, rfl, _, rfl, _, rfl, .str (tx l), l.length, rfl, hlen, _, _, rfl, rfl, (by show (0 : Int) < (l.length : Int); omega), _, _, _, rfl, rfl, tx_size (by omega), at_code mb.1 mb.2, ?_⟩
   refine ⟨_, _, rfl, rfl, by rw [one_tx, tx_len, tx_len]; exact few_size (by simp; omega), ?_⟩
   rw [one_tx, tx_app]
   refine ⟨_, rfl, _, rfl, .str (tx l), l.length, rfl, hlen, _, _, rfl, rfl, ⟨by omega, by omega⟩, _, rfl, _, _, rfl, rfl, (by show (0 : Int) < 7; decide), _, _, rfl, rfl, .inr ⟨by decide, by decide⟩, _, _, rfl, rfl, ?_⟩
   refine ⟨⟨_, z ++ [l.getD (c % (l.length : Int)).toNat 0], _, rfl, by rw [List.length_append, hz]; rfl, fun x hx => ?_⟩, rfl⟩
   rcases List.mem_append.mp hx with q | q
   ·exact zc x q
   ·rw [List.mem_singleton.mp q]
    exact cd_getD lc _
  ·rintro σ H2 ⟨⟨c, z, z4, rfl, hz, zc⟩, rfl⟩
   exact ⟨_, rfl, k z hz zc⟩
end
section
variable {P : Program} {w : World} {K : PySem.W.Frag} {mg : Str → Option Value} {base : Heap}
theorem CntD.one {z : List Nat} {L : Nat} {ks : List Str} (h : CntD (pcs z L) ks) : 1 ≤ ks.length := by
 have hp := pcs_len z L
 have : (pcs z L)[0]'(by omega) ∈ ks := (h.mem _).mpr (List.getElem_mem _)
 exact List.length_pos_of_mem this
end
inductive Flat : Nat → PyData → Prop where
 | int (n : Nat) (i : Int) : Flat n (.int i)
 | str (n : Nat) (x : Str) : Flat n (.str x)
 | tup (n : Nat) (ds : List PyData) (h : ∀ d ∈ ds, Flat n d) (hl : ds.length ≤ 1000) : Flat (n + 1) (.tuple ds)
theorem repA_len {H : Hp} : ∀ {ds : List PyData} {vs : List V}, RepA H ds vs → vs.length = ds.length
 | [], vs, r => by rw [RepA] at r; rw [r]; rfl
 | d :: ds, vs, r => by
  rw [RepA] at r
  obtain ⟨v, us, e, _, q⟩ := r
  rw [e, List.length_cons, List.length_cons, repA_len q]
theorem repA_get {H : Hp} : ∀ {ds : List PyData} {vs : List V}, RepA H ds vs → ∀ (i : Nat) (v : V), vs[i]? = some v → ∃ d, ds[i]? = some d ∧ RepD H d v
 | [], vs, r, i, v, e => by rw [RepA] at r; rw [r] at e; simp at e
 | d :: ds, vs, r, i, v, e => by
  rw [RepA] at r
  obtain ⟨u, us, eu, q1, q2⟩ := r
  subst eu
  cases i with
  | zero =>
   simp at e
   subst e
   exact ⟨d, rfl, q1⟩
  | succ i =>
   obtain ⟨d', e1, e2⟩ := repA_get q2 i v (by simpa using e)
   exact ⟨d', by simpa using e1, e2⟩
section
variable {P : Program} {w : World} {K : PySem.W.Frag} {mg : Str → Option Value} {base : Heap}
abbrev sLAlike : Stmt := top 26
noncomputable abbrev nLAlike : List Str := ["_law_found", "_law_due", "_law_one", "_law_other"]
theorem scLAlike : FnScope nLAlike ["_law_found", "_law_due"] (defScope sLAlike) := ⟨rfl, rfl, rfl, by decide +kernel, rfl, by decide +kernel, by decide +kernel⟩
def spA (n : Nat) : Sp := fun vs H Q _ => ∃ (v1 v2 : V) (d : PyData), vs = [v1, v2] ∧ RepD H d v1 ∧ RepD H d v2 ∧ Flat n d ∧ ∀ H', Same H H' → Q (.bl true) H'
def spAle (N : Nat) : Sp := fun vs H Q E => ∃ n, n ≤ N ∧ spA n vs H Q E
set_option maxHeartbeats 8000000 in
theorem alike_step {j N : Nat} {sp : Sp} (D : HasDef K mg "_law_alike" sLAlike ["_law_found", "_law_due"]) (B : Blt mg) (hsp : ∀ m, m + 1 ≤ N → ∀ vs H Q E, spA m vs H Q E → sp vs H Q E) (G__law_alike : FOk P w K mg base j "_law_alike" ["_law_found", "_law_due"] sp) : FOk P w K mg base (j + 1) "_law_alike" ["_law_found", "_law_due"] (spAle N) := by
 refine D.ok scLAlike (fun vs H Q E h => ?_) (fun f cdv A outer s H vs Q E hr h => ?_)
 ·obtain ⟨n, _, v1, v2, d, rfl, _⟩ := h
  rfl
 ·obtain ⟨n, hnN, v1, v2, d, rfl, r1, r2, hfl, k⟩ := h
  refine ⟨_, (pss_cons (ps_if (pt_val (pe_callB call_isiB rfl B.isi b_isi (pa_cons (pv 1) (pa_cons (pe_ty rfl B.tuple b_tuple) pa_nil)))) (pss_cons (ps_if (PW.pt (pw_or (pt_not (pt_val (pe_callB call_isiB rfl B.isi b_isi (pa_cons (pv 0) (pa_cons (pe_ty rfl B.tuple b_tuple) pa_nil))))) (pw_or1 (pt_cmpR op_ne (pe_callB call_len rfl B.len b_len (pa_cons (pv 0) pa_nil)) (pe_callB call_len rfl B.len b_len (pa_cons (pv 1) pa_nil)) (nomark _))))) (pss_one (ps_ret pe_bl)) pss_nil)
   (pss_cons (ps_for PassesOwn.never rfl (pi_zip rfl B.zip (pa_cons (pv 0) (pa_cons (pv 1) pa_nil))) (pg_tupK 2 K rfl (pgs_cons (pg_name (i := 2) scLAlike.nd rfl (Or.inl rfl)) (pgs_cons (pg_name (i := 3) scLAlike.nd rfl (Or.inl rfl)) pgs_nil)))
    (pss_one (ps_if (pt_not (pt_val (pe_fn G__law_alike hr (pa_cons (pv 2) (pa_cons (pv 3) pa_nil))))) (pss_one (ps_ret pe_bl)) pss_nil)))
   (pss_one (ps_ret pe_bl)))) pss_nil)
   (pss_cons (ps_if (pt_val (pe_callB call_isiB rfl B.isi b_isi (pa_cons (pv 1) (pa_cons (pe_ty rfl B.str b_str) pa_nil)))) (pss_one (ps_ret (pe_and (pe_callB call_isiB rfl B.isi b_isi (pa_cons (pv 0) (pa_cons (pe_ty rfl B.str b_str) pa_nil))) (pe_one (pe_cmpR op_eq (pv 0) (pv 1) (nomark _)))))) pss_nil)
   (pss_one (ps_ret (pe_and (pe_callB call_isiB rfl B.isi b_isi (pa_cons (pv 0) (pa_cons (pe_ty rfl B.int b_int) pa_nil))) (pe_and (pe_not (pe_callB call_isiB rfl B.isi b_isi (pa_cons (pv 0) (pa_cons (pe_ty rfl B.bool b_bool) pa_nil)))) (pe_one (pe_cmpR op_eq (pv 0) (pv 1) (nomark _))))))))), ?_⟩
  cases hfl with
  | int n i =>
   rw [RepD] at r1 r2
   subst r1 r2
   refine ⟨_, rfl, .int i, "tuple", "int", rfl, by decide, .int i, _, rfl, iteM (by decide) ?_⟩
   refine ⟨_, rfl, .int i, "str", "int", rfl, by decide, .int i, _, rfl, iteM (by decide) ?_⟩
   refine ⟨_, rfl, .int i, "int", "int", rfl, by decide, .int i, _, rfl, iteP (by decide) ?_⟩
   refine ⟨_, rfl, .int i, "bool", "int", rfl, by decide, .int i, _, rfl, _, rfl, iteP (by decide) ?_⟩
   refine ⟨_, rfl, _, rfl, rfl, ?_⟩
   rw [decide_eq_true rfl]
   exact k H (Same.refl _)
  | str n x =>
   rw [RepD] at r1 r2
   subst r1 r2
   refine ⟨_, rfl, .str x, "tuple", "str", rfl, by decide, .str x, _, rfl, iteM (by decide) ?_⟩
   refine ⟨_, rfl, .str x, "str", "str", rfl, by decide, .str x, _, rfl, iteP (by decide) ?_⟩
   refine ⟨_, rfl, .str x, "str", "str", rfl, by decide, .str x, _, rfl, iteP (by decide) ?_⟩
   refine ⟨_, rfl, _, rfl, rfl, ?_⟩
   rw [decide_eq_true rfl]
   exact k H (Same.refl _)
  | tup m ds hds hl =>
   rw [RepD] at r1 r2
   obtain ⟨a1, xs, rfl, h1, q1⟩ := r1
   obtain ⟨a2, ys, rfl, h2, q2⟩ := r2
   have l1 := repA_len q1
   have l2 := repA_len q2
   refine ⟨_, rfl, .ref a2, "tuple", "tuple", rfl, by decide, .tup h2, _, rfl, iteP (by decide) ?_⟩
   refine ⟨_, rfl, .ref a1, "tuple", "tuple", rfl, by decide, .tup h1, _, rfl, iteM (by decide) ?_⟩
   refine ⟨_, rfl, .ref a1, _, rfl, .inr ⟨_, SqT.of h1, rfl⟩, _, rfl, .ref a2, _, rfl, .inr ⟨_, SqT.of h2, rfl⟩, rfl, _, rfl, iteM (by rw [l1, l2]; simp) ?_⟩
   refine ⟨_, rfl, _, rfl, a1, a2, xs, ys, rfl, h1, h2, ?_⟩
   refine for_zip (xs := xs) (ys := ys) (fun i σ H2 => (∃ z2 z3 : Option V, σ = [some (.ref a1), some (.ref a2), z2, z3]) ∧ Same H H2) (by omega) ⟨⟨none, none, rfl⟩, Same.refl _⟩ (fun i σ H2 _ ⟨_, s2⟩ => ⟨s2 _ _ h1, s2 _ _ h2⟩) ?_ ?_
   ·rintro i x y σ H2 t hx hy ht ⟨⟨z2, z3, rfl⟩, s2⟩
    obtain ⟨d1, e1, rd1⟩ := repA_get q1 i x hx
    obtain ⟨d2, e2, rd2⟩ := repA_get q2 i y hy
    rw [e1] at e2
    cases e2
    have s3 := s2.trans (same_upd_new (o := .tup [x, y]) ht)
    refine ⟨t, _, rfl, SqT.of upd_same, rfl, _, _, rfl, _, _, rfl, rfl, ?_⟩
    refine ⟨_, rfl, _, rfl, hsp m hnN _ _ _ _ ⟨x, y, d1, rfl, RepD.same s3 _ _ rd1, RepD.same s3 _ _ rd2, hds d1 (List.mem_of_getElem? e1), fun H4 s4 => ?_⟩⟩
    exact ⟨_, rfl, iteM (by decide) ⟨⟨_, _, rfl⟩, s3.trans s4⟩⟩
   ·rintro σ H2 ⟨⟨z2, z3, rfl⟩, s2⟩
    exact k H2 s2
theorem ok_l_alike (D : HasDef K mg "_law_alike" sLAlike ["_law_found", "_law_due"]) (B : Blt mg) : ∀ N : Nat, FOk P w K mg base (N + 2) "_law_alike" ["_law_found", "_law_due"] (spAle N)
 | 0 => alike_step (sp := fun _ _ _ _ => False) D B (fun m e => by omega) (D.ok (k := 0) scLAlike (fun _ _ _ _ h => h.elim) fun _ _ _ _ _ _ _ _ _ _ h => h.elim)
 | N + 1 => alike_step D B (fun m e vs H Q E h => ⟨m, by omega, h⟩) (ok_l_alike D B N)
end
theorem srt_one {l m : List Str} (hl : (l.map fun x => x.cps.toList).Pairwise (· < ·)) (hm : (m.map fun x => x.cps.toList).Pairwise (· < ·)) (h : ∀ x, x ∈ l ↔ x ∈ m) : l = m := by
 have e := sorted_one hl hm fun c => by
  rw [List.mem_map, List.mem_map]
  exact ⟨fun ⟨x, hx, q⟩ => ⟨x, (h x).mp hx, q⟩, fun ⟨x, hx, q⟩ => ⟨x, (h x).mpr hx, q⟩⟩
 have key : ∀ (l m : List Str), (l.map fun x => x.cps.toList) = (m.map fun x => x.cps.toList) → l = m := by
  intro l
  induction l with
  | nil =>
   intro m e
   cases m with
   | nil => rfl
   | cons _ _ => cases e
  | cons x l ih =>
   intro m e
   cases m with
   | nil => cases e
   | cons y m =>
    rw [List.map_cons, List.map_cons] at e
    injection e with e1 e2
    rw [codes_inj e1, ih m e2]
 exact key l m e
theorem SPts.one {es : Es} {l m : List Str} (h : SPts es l) (k : SPts es m) : l = m := srt_one h.srt k.srt fun x => by rw [h.pts.mem, k.pts.mem]
theorem pa_items {H : Hp} {vs : List V} {ss : List Str} {g : Str → Int} (hl : vs.length = ss.length) (hv : ∀ (i : Nat) (x : Str), ss[i]? = some x → ∃ b, vs[i]? = some (.ref b) ∧ H b = some (.tup [.str x, .int (g x)])) : PA H vs (ss.map fun x => (x, g x)) :=
 ⟨by rw [List.length_map, hl], fun i e he => by
  rw [List.getElem?_map] at he
  cases hi : ss[i]? with
  | none => rw [hi] at he; cases he
  | some x =>
   rw [hi] at he
   cases he
   exact hv i x hi⟩
section
variable {P : Program} {w : World} {K : PySem.W.Frag} {mg : Str → Option Value} {base : Heap}
abbrev sMoreOut : Stmt := top 5
noncomputable abbrev nMoreOut : List Str := ["H", "more", "piece", "many"]
theorem scMoreOut : FnScope nMoreOut ["H"] (defScope sMoreOut) := ⟨rfl, rfl, rfl, by decide +kernel, rfl, by decide +kernel, by decide +kernel⟩
def spMoreOut : Sp := fun vs H Q _ => ∃ (v : V) (es : Es), vs = [v] ∧ HeapV H v es ∧ Fine es ∧ ∀ d H' ks, Same H H' → H' d = some (.dK (gD ks (mo es))) → Pts es ks → Q (.ref d) H'
set_option maxHeartbeats 4000000 in
theorem ok_more_out (D : HasDef K mg "more_out" sMoreOut ["H"]) (G_begin_of : FOk P w K mg base 1 "begin_of" ["piece"] spBeg) (G_end_of : FOk P w K mg base 1 "end_of" ["piece"] spEnd) : FOk P w K mg base 2 "more_out" ["H"] spMoreOut := by
 refine D.ok scMoreOut (fun vs H Q E h => ?_) (fun f cdv A outer s H vs Q E hr h => ?_)
 ·obtain ⟨v, es, rfl, _⟩ := h
  rfl
 ·obtain ⟨v, es, rfl, ⟨q, vs, rfl, hq, hpa⟩, hF, k⟩ := h
  have hu := hu_of hr
  refine ⟨_, (pss_cons (ps_set (i := 1) scMoreOut.nd rfl (Or.inl rfl) pe_dnewK)
   (pss_cons (ps_for PassesOwn.never rfl (pi_tup (pv 0)) (pg_tupK 2 K rfl (pgs_cons (pg_name (i := 2) scMoreOut.nd rfl (Or.inl rfl)) (pgs_cons (pg_name (i := 3) scMoreOut.nd rfl (Or.inl rfl)) pgs_nil)))
    (pss_cons (ps_dput hu (pv 1) (pe_fn G_begin_of hr (pa_cons (pv 2) pa_nil)) (pe_op op_add (pe_dget2 hu (pv 1) (pe_fn G_begin_of hr (pa_cons (pv 2) pa_nil)) pe_int ⟨rfl, rfl, rfl, rfl⟩) (pv 3)) rfl)
   (pss_one (ps_dput hu (pv 1) (pe_fn G_end_of hr (pa_cons (pv 2) pa_nil)) (pe_op op_sub (pe_dget2 hu (pv 1) (pe_fn G_end_of hr (pa_cons (pv 2) pa_nil)) pe_int ⟨rfl, rfl, rfl, rfl⟩) (pv 3)) rfl))))
   (pss_one (ps_ret (pv 1))))), ?_⟩
  intro d hd
  have s1 := same_upd_new (o := .dK []) hd
  refine ⟨_, rfl, q, rfl, ⟨_, SqT.of (s1 _ _ hq)⟩, ?_⟩
  refine for_tup (K := K) (a := q) (xs := vs) (fun i σ H2 => (∃ z2 z3 : Option V, σ = [some (.ref q), some (.ref d), z2, z3]) ∧ Same H H2 ∧ ∃ ks, Pts (es.take i) ks ∧ H2 d = some (.dK (gD ks (mo (es.take i)))))
   ⟨⟨none, none, rfl⟩, s1, [], Pts.nil, upd_same⟩ (fun i σ H2 _ ⟨_, s2, _⟩ => SqT.of (s2 _ _ hq)) ?_ ?_
  ·rintro i x σ H2 hi ⟨⟨z2, z3, rfl⟩, s2, ks, hk, hdd⟩
   have hiv : i < vs.length := (List.getElem?_eq_some_iff.mp hi).1
   have hie : i < es.length := by rw [← hpa.1]; exact hiv
   obtain ⟨b, e1, e2⟩ := hpa.2 i es[i] (List.getElem?_eq_getElem hie)
   rw [hi] at e1
   cases e1
   obtain ⟨l1, l2⟩ := hF.long es[i] (List.getElem_mem hie)
   have hkl := hk.len
   have hfew := hF.few
   rw [List.length_take] at hkl
   refine ⟨b, _, rfl, SqT.of (s2 _ _ e2), rfl, _, _, rfl, _, _, rfl, rfl, ?_⟩
   have het : es.take (i + 1) = es.take i ++ [es[i]] := List.take_succ_eq_append_getElem hie
   generalize es[i] = e at *
   have h0 := fun (hP : bg e.1 ∉ ks) => hk.zero hP
   have hg := gD_get (ks := ks) (g := mo (es.take i)) h0
   refine ⟨_, rfl, d, rfl, .inl ⟨_, .inl hdd⟩, _, rfl, e.1, rfl, l1, l2, _, DGet.k (k := Sum.inr (bg e.1)) hdd, _, rfl, _, _, hg, rfl, _, rfl, _, rfl, e.1, rfl, l1, l2, d, _, rfl, DPut.k (k := Sum.inr (bg e.1)) hdd (by rw [gD_len]; exact small1000 (by omega)), ?_⟩
   rw [gD_put]
   have hdd2 : (upd H2 d (.dK (gD (addK ks (bg e.1)) fun x => if x = bg e.1 then mo (es.take i) (bg e.1) + e.2 else mo (es.take i) x))) d = some (.dK (gD (addK ks (bg e.1)) fun x => if x = bg e.1 then mo (es.take i) (bg e.1) + e.2 else mo (es.take i) x)) := upd_same
   have hg2 := gD_get (ks := addK ks (bg e.1)) (g := fun x => if x = bg e.1 then mo (es.take i) (bg e.1) + e.2 else mo (es.take i) x) (y := en e.1) fun hP => by
    rw [addK_mem, not_or] at hP
    rw [if_neg hP.2, hk.zero hP.1]
   have hal := addK_len ks (bg e.1)
   refine ⟨_, rfl, d, rfl, .inl ⟨_, .inl hdd2⟩, _, rfl, e.1, rfl, l1, l2, _, DGet.k (k := Sum.inr (en e.1)) hdd2, _, rfl, _, _, hg2, rfl, _, rfl, _, rfl, e.1, rfl, l1, l2, d, _, rfl, DPut.k (k := Sum.inr (en e.1)) hdd2 (by rw [gD_len]; exact small1000 (by omega)), ?_⟩
   refine ⟨⟨_, _, rfl⟩, fun c u hc => ?_, addK (addK ks (bg e.1)) (en e.1), by rw [het]; exact hk.step e, ?_⟩
   ·rw [upd_upd, upd_ne (ne_of_none hc hd)]
    exact s2 c u hc
   ·rw [upd_same, gD_put, het]
    refine congrArg (fun l => some (HO.dK l)) (gD_congr fun x _ => ?_)
    rw [mo_snoc]
    unfold mo1 ind
    by_cases c1 : x = en e.1
    ·subst c1
     rw [if_pos rfl, if_pos rfl]
     by_cases c2 : en e.1 = bg e.1
     ·rw [if_pos c2, if_pos c2.symm, c2]
      omega
     ·rw [if_neg c2, if_neg (Ne.symm c2)]
      omega
    ·rw [if_neg c1, if_neg (Ne.symm c1)]
     by_cases c2 : x = bg e.1
     ·subst c2
      rw [if_pos rfl, if_pos rfl]
      omega
     ·rw [if_neg c2, if_neg (Ne.symm c2)]
      omega
  ·rintro σ H2 ⟨⟨z2, z3, rfl⟩, s2, ks, hk, hdd⟩
   rw [hpa.1, List.take_length] at hk hdd
   exact ⟨_, rfl, k d H2 ks s2 hdd hk⟩
abbrev sBeginsOf : Stmt := top 6
abbrev nBeginsOf : List Str := ["H"]
theorem scBeginsOf : FnScope nBeginsOf ["H"] (defScope sBeginsOf) := ⟨rfl, rfl, rfl, by decide +kernel, rfl, by decide +kernel, by decide +kernel⟩
def spBegins : Sp := fun vs H Q _ => ∃ (v : V) (es : Es), vs = [v] ∧ HeapV H v es ∧ Fine es ∧ ∀ v' H' ss, Same H H' → HeapV H' v' (ups (mo es) ss) → SPts es ss → Q v' H'
set_option maxHeartbeats 4000000 in
theorem ok_begins_of (D : HasDef K mg "begins_of" sBeginsOf ["H"]) (B : Blt mg) (G_more_out : FOk P w K mg base 2 "more_out" ["H"] spMoreOut) : FOk P w K mg base 3 "begins_of" ["H"] spBegins := by
 refine D.ok scBeginsOf (fun vs H Q E h => ?_) (fun f cdv A outer s H vs Q E hr h => ?_)
 ·obtain ⟨v, es, rfl, _⟩ := h
  rfl
 ·obtain ⟨v, es, rfl, hV, hF, k⟩ := h
  refine ⟨_, (pss_one (ps_ret (pe_callTy call_tuple_of rfl B.tuple b_tuple (pa_cons (pe_lcomp (defScope sBeginsOf) nBeginsOf ["point", "more"] [] rfl (pi_list (pe_callB (call_sortedI2 rfl) rfl B.sorted b_sorted (pa_cons (pe_items (pe_fn G_more_out hr (pa_cons (pv 0) pa_nil))) pa_nil))) (fun _ _ _ _ _ => pg_tupK 2 K rfl (pgs_cons (pg_lc 0) (pgs_cons (pg_lc 1) pgs_nil))) (fun _ _ _ _ _ => pcs_one (pt_cmpR op_gt (pv 1) pe_int (nomark _))) (fun _ _ _ _ _ => (pe_tup (pa_cons (pv 0) (pa_cons (pv 1) pa_nil))))) pa_nil)))), ?_⟩
  refine ⟨_, rfl, v, es, rfl, hV, hF, fun d H1 ks s1 hd hP => ⟨d, _, rfl, hd, fun p hp => ?_⟩⟩
  have hkl := hP.len
  have hfew := hF.few
  refine ⟨p, d, ks, fun x => .int (mo es x), rfl, upd_same, same_upd_new hp _ _ hd, hP.nd, by omega, fun D1 H2 vs ss s2 hpm hsrt hD1 hl hv => ?_⟩
  have hss := hpm.length_eq
  refine ⟨D1, rfl, ⟨_, SqL.of hD1⟩, lc_fmap ss.length (fun i => vs.getD i .non) (fun i => decide (0 < (mo es) (ss.getD i ""))) (fun i v H => rowAt (ss.getD i "") ((mo es) (ss.getD i "")) v H) (few_size (by omega)) (fun i v H H' hs ⟨b, e1, e2⟩ => ⟨b, e1, hs _ _ e2⟩) (by have := jt_list (K := K) (SqL.of hD1); rw [hl] at this; exact this) ?_ ?_⟩
  ·intro i H3 Qt Qf hi hs ht hf
   obtain ⟨b, e1, e2⟩ := hv i ss[i] (List.getElem?_eq_getElem hi)
   have ev : vs.getD i .non = .ref b := by rw [List.getD_eq_getElem?_getD, e1]; rfl
   have es1 : ss.getD i "" = ss[i] := by rw [List.getD_eq_getElem?_getD, List.getElem?_eq_getElem hi]; rfl
   rw [es1] at ht hf
   rw [ev]
   refine ⟨b, _, rfl, SqT.of (hs _ _ e2), rfl, _, _, rfl, _, _, rfl, rfl, ?_⟩
   refine ⟨_, rfl, _, _, rfl, rfl, _, rfl, ?_⟩
   by_cases c : 0 < (mo es) ss[i]
   ·refine iteP (decide_eq_true (by omega)) (⟨_, rfl, _, rfl, few_size (show 2 ≤ 1000 by decide), fun r hr => ht (decide_eq_true c) _ _ (same_upd_new hr) ⟨r, rfl, upd_same⟩⟩)
   ·exact iteM (decide_eq_false (by omega)) (hf (decide_eq_false c) _ (Same.refl _))
  ·intro D2 vs2 H3 hl2 hR hs3 hD2 hDl
   refine ⟨D2, vs2, rfl, .inl ⟨SqL.of hDl, fun q hq => ?_⟩⟩
   have sq := same_upd_new (o := .tup vs2) hq
   refine k (.ref q) _ ss (((s1.trans (same_upd_new hp)).trans s2).trans (hs3.trans sq)) ⟨q, vs2, rfl, upd_same, ?_⟩ (SPts.of hP hpm hsrt)
   exact (pa_of (p := fun x => decide (0 < (mo es) x)) (f := fun x => (mo es) x) hl2 hR).same sq.tup
end
theorem pa_rows {H : Hp} {vs : List V} {fs : List Str} {f : Str → Int} (h : PA H vs (fs.map fun x => (x, f x))) : ∃ rs : List (Addr × Str), vs = rs.map (fun r => V.ref r.1) ∧ rs.map Prod.snd = fs ∧ ∀ r ∈ rs, H r.1 = some (.tup [.str r.2, .int (f r.2)]) := by
 obtain ⟨hl, hh⟩ := h
 rw [List.length_map] at hl
 induction fs generalizing vs with
 | nil =>
  have : vs = [] := List.length_eq_zero_iff.mp hl
  subst this
  exact ⟨[], rfl, rfl, fun r hr => by cases hr⟩
 | cons x fs ih =>
  cases vs with
  | nil => simp at hl
  | cons v vs =>
   obtain ⟨b, e1, e2⟩ := hh 0 (x, f x) rfl
   obtain ⟨rs, h1, h2, h3⟩ := ih (vs := vs) (by simpa using hl) fun i e he => by
    obtain ⟨b, q1, q2⟩ := hh (i + 1) e (by simpa using he)
    exact ⟨b, by simpa using q1, q2⟩
   have ev : v = .ref b := by simpa using e1
   refine ⟨(b, x) :: rs, by rw [List.map_cons, ← h1, ev], by rw [List.map_cons, h2], fun r hr => ?_⟩
   rcases List.mem_cons.mp hr with z | z
   ·rw [z]; exact e2
   ·exact h3 r z
section
variable {P : Program} {w : World} {K : PySem.W.Frag} {mg : Str → Option Value} {base : Heap}
end
theorem lc_snd {K : PySem.W.Frag} {mp : List Nat} {σ : L2.St} {H1 : Hp} {Q : VK} {q : Addr} {vs : List V} {es : Es} (hS : lcS 2 mp σ = [none, none]) (hq : H1 q = some (.tup vs)) (hpa : PA H1 vs es) (hl : es.length ≤ 1000)
  (done : ∀ D H', Same H1 H' → H' D = some (.lst ((es.map fun e => e.2).map V.int)) → Q (.ref D) H') : lcPost 2 mp σ (gTup K 2 (gCons (gName 0) (gCons (gName 1) gNil))) tYes (tVar 1) (Itt K q) H1 Q := by
 refine lc_map vs.length (fun i => vs.getD i .non) (fun i v _ => v = .int (es.getD i ("", 0)).2) (few_size (by rw [hpa.1]; exact hl)) (fun _ _ _ _ _ r => r) (jt_tup (SqT.of hq)) ?_ ?_
 ·intro i H Qe hi hs kq
  have hie : i < es.length := by rw [← hpa.1]; exact hi
  obtain ⟨b, e1, e2⟩ := hpa.2 i es[i] (List.getElem?_eq_getElem hie)
  have ev : vs.getD i .non = .ref b := by rw [List.getD_eq_getElem?_getD, e1]; rfl
  have ee : es.getD i ("", 0) = es[i] := by rw [List.getD_eq_getElem?_getD, List.getElem?_eq_getElem hie]; rfl
  rw [ev, hS]
  refine ⟨b, _, rfl, SqT.of (hs _ _ e2), rfl, _, _, rfl, _, _, rfl, rfl, _, rfl, kq _ _ (Same.refl _) ?_⟩
  rw [ee]
 ·intro D us H' hul hR hs hD hDl
  refine done D H' hs ?_
  rw [hDl]
  congr 2
  apply List.ext_getElem?
  intro i
  by_cases hi : i < us.length
  ·have hie : i < es.length := by rw [← hpa.1, ← hul]; exact hi
   rw [List.getElem?_eq_getElem hi, hR i _ (List.getElem?_eq_getElem hi), List.getElem?_map, List.getElem?_map, List.getElem?_eq_getElem hie, List.getD_eq_getElem?_getD, List.getElem?_eq_getElem hie]
   rfl
  ·rw [List.getElem?_eq_none (by omega), List.getElem?_eq_none (by rw [List.length_map, List.length_map]; have := hpa.1; omega)]
theorem sum_bd : ∀ {l : List Int} {b : Nat}, (∀ x ∈ l, 0 ≤ x ∧ x ≤ b) → 0 ≤ l.sum ∧ l.sum ≤ b * l.length
 | [], b, _ => by simp
 | x :: l, b, h => by
  have ih := sum_bd (l := l) (b := b) fun y hy => h y (List.mem_cons_of_mem _ hy)
  have hx := h x (List.mem_cons_self ..)
  rw [List.sum_cons, List.length_cons]
  push_cast
  rw [Int.mul_add, Int.mul_one]
  omega
theorem long_bd {l : List Int} (h : ∀ x ∈ l, 0 ≤ x ∧ x ≤ (301000 : Nat)) (hl : l.length ≤ 602) : (∀ x ∈ l, InLong x) ∧ ∀ k, InLong (l.take k).sum := by
 constructor
 ·intro x hx
  have := h x hx
  unfold InLong
  omega
 ·intro k
  have h1 := sum_bd (l := l.take k) (b := 301000) fun x hx => h x (List.mem_of_mem_take hx)
  have h2 : (l.take k).length ≤ 602 := by rw [List.length_take]; omega
  unfold InLong
  omega
noncomputable def pairD (es : Es) : PyData := .tuple (es.map fun e => .tuple [.str e.1, .int e.2])
theorem heap_rep {H : Hp} {v : V} {es : Es} (h : HeapV H v es) : RepD H (pairD es) v := by
 obtain ⟨q, vs, rfl, hq, hl, hh⟩ := h
 unfold pairD
 rw [RepD]
 refine ⟨q, vs, rfl, hq, ?_⟩
 induction es generalizing vs with
 | nil =>
  rw [List.map_nil, RepA]
  exact List.length_eq_zero_iff.mp hl
 | cons e es ih =>
  cases vs with
  | nil => simp at hl
  | cons v vs =>
   rw [List.map_cons, RepA]
   obtain ⟨b, e1, e2⟩ := hh 0 e rfl
   have ev : v = .ref b := by simpa using e1
   refine ⟨v, vs, rfl, ?_, ?_⟩
   ·rw [RepD]
    refine ⟨b, _, ev, e2, ?_⟩
    rw [RepA]
    refine ⟨_, _, rfl, by rw [RepD], ?_⟩
    rw [RepA]
    exact ⟨_, _, rfl, by rw [RepD], by rw [RepA]⟩
   ·clear hq ev
    have : ∀ (es : Es) (vs : List V), vs.length = es.length → (∀ (i : Nat) (e : Str × Int), es[i]? = some e → ∃ b, vs[i]? = some (.ref b) ∧ H b = some (.tup [.str e.1, .int e.2])) → RepA H (es.map fun e => PyData.tuple [.str e.1, .int e.2]) vs := by
     intro es
     induction es with
     | nil =>
      intro vs hl _
      rw [List.map_nil, RepA]
      exact List.length_eq_zero_iff.mp hl
     | cons e es ih2 =>
      intro vs hl hh
      cases vs with
      | nil => simp at hl
      | cons v vs =>
       rw [List.map_cons, RepA]
       obtain ⟨b, e1, e2⟩ := hh 0 e rfl
       have ev : v = .ref b := by simpa using e1
       refine ⟨v, vs, rfl, ?_, ih2 vs (by simpa using hl) fun i e' he' => ?_⟩
       ·rw [RepD]
        refine ⟨b, _, ev, e2, ?_⟩
        rw [RepA]
        refine ⟨_, _, rfl, by rw [RepD], ?_⟩
        rw [RepA]
        exact ⟨_, _, rfl, by rw [RepD], by rw [RepA]⟩
       ·obtain ⟨b', q1, q2⟩ := hh (i + 1) e' (by simpa using he')
        exact ⟨b', by simpa using q1, q2⟩
    exact this es vs (by simpa using hl) fun i e' he' => by
     obtain ⟨b', q1, q2⟩ := hh (i + 1) e' (by simpa using he')
     exact ⟨b', by simpa using q1, q2⟩
theorem flat_pairs {es : Es} (h : es.length ≤ 1000) : Flat 2 (pairD es) := by
 refine .tup 1 _ (fun d hd => ?_) (by rw [List.length_map]; exact h)
 obtain ⟨e, _, rfl⟩ := List.mem_map.mp hd
 refine .tup 0 _ (fun d' hd' => ?_) (by simp)
 rcases List.mem_cons.mp hd' with z | z
 ·rw [z]; exact .str 0 _
 ·rw [List.mem_singleton.mp z]; exact .int 0 _
theorem ups_one {es : Es} {f : Str → Int} {ss us : List Str} (h : SPts es ss) (hs : (us.map fun x => x.cps.toList).Pairwise (· < ·)) (hm : ∀ x, x ∈ us ↔ (∃ e ∈ es, bg e.1 = x ∨ en e.1 = x) ∧ 0 < f x) : (us.map fun x => (x, f x)) = ups f ss := by
 unfold ups
 have : us = ss.filter fun x => decide (0 < f x) := by
  refine srt_one hs ?_ fun x => ?_
  ·exact (h.srt.sublist (List.Sublist.map _ List.filter_sublist))
  ·rw [hm, List.mem_filter, h.pts.mem]
   simp
 rw [this]
theorem ups_len (f : Str → Int) (ss : List Str) : (ups f ss).length ≤ ss.length := by
 unfold ups
 rw [List.length_map]
 exact List.length_filter_le _ _
theorem ups_long {es : Es} (hF : Fine es) {f : Str → Int} (hf : ∀ x, (f x).natAbs = (mo es x).natAbs) {ss : List Str} (hp : SPts es ss) : (∀ x ∈ (ups f ss).map fun e => e.2, InLong x) ∧ (∀ k, InLong (((ups f ss).map fun e => e.2).take k).sum) ∧ (ups f ss).length ≤ 1000 := by
 have hb : ∀ x, (f x).natAbs ≤ 301000 := fun x => by
  rw [hf]
  have := mo_bd (es := es) (b := 1000) x hF.many
  have := hF.few
  omega
 have hl : (ups f ss).length ≤ 602 := by
  have := ups_len f ss
  have := hp.pts.len
  have := hF.few
  omega
 obtain ⟨a1, a2⟩ := long_bd (l := (ups f ss).map fun e => e.2) (fun x hx => by
  obtain ⟨e, he, rfl⟩ := List.mem_map.mp hx
  have := ups_bd hb ss e he
  omega) (by rw [List.length_map]; exact hl)
 exact ⟨a1, a2, by omega⟩
section
variable {P : Program} {w : World} {K : PySem.W.Frag} {mg : Str → Option Value} {base : Heap}
end
end Sh
namespace L2
open PySem PySem.Spec PyProof.Rows
theorem b_set : bootBuiltins "set" = some (.type "set") := by decide +kernel
end L2
namespace Sh
open PySem L2 PyProof.Rows
seal L2.PE L2.PS L2.PSs L2.PT L2.PW L2.PA L2.PI L2.PG L2.PGs L2.PO L2.PC L2.PCs L2.OpR L2.UnR L2.CallR L2.MtR L2.IxR L2.SlR
theorem strs_of {vs : List V} {es : Es} {f : Str → Str} (hl : vs.length = es.length) (hR : ∀ (i : Nat) (v : V), vs[i]? = some v → v = .str (f (es.getD i ("", 0)).1)) : vs = (es.map fun e => f e.1).map V.str := by
 apply List.ext_getElem?
 intro i
 by_cases hi : i < vs.length
 ·have hie : i < es.length := by omega
  rw [List.getElem?_eq_getElem hi, hR i _ (List.getElem?_eq_getElem hi), List.getElem?_map, List.getElem?_map, List.getElem?_eq_getElem hie, List.getD_eq_getElem?_getD, List.getElem?_eq_getElem hie]
  rfl
 ·rw [List.getElem?_eq_none (by omega), List.getElem?_eq_none (by rw [List.length_map, List.length_map]; omega)]
section
variable {P : Program} {w : World} {K : PySem.W.Frag} {mg : Str → Option Value} {base : Heap}
def TupS (H : Hp) (v : V) (ss : List Str) : Prop := ∃ q, v = .ref q ∧ H q = some (.tup (ss.map V.str))
theorem TupS.same {H H' : Hp} {v : V} {ss : List Str} (h : TupS H v ss) (s : Same H H') : TupS H' v ss := by
 obtain ⟨q, e, e2⟩ := h
 exact ⟨q, e, s _ _ e2⟩
abbrev sPointsOf : Stmt := top 4
abbrev nPointsOf : List Str := ["H"]
theorem scPointsOf : FnScope nPointsOf ["H"] (defScope sPointsOf) := ⟨rfl, rfl, rfl, by decide +kernel, rfl, by decide +kernel, by decide +kernel⟩
def spPoints : Sp := fun vs H Q _ => ∃ (v : V) (es : Es), vs = [v] ∧ HeapV H v es ∧ Fine es ∧ ∀ v' H' ss, Same H H' → TupS H' v' ss → SPts es ss → Q v' H'
set_option maxHeartbeats 4000000 in
theorem ok_points_of (D : HasDef K mg "points_of" sPointsOf ["H"]) (B : Blt mg) (G_begin_of : FOk P w K mg base 1 "begin_of" ["piece"] spBeg) (G_end_of : FOk P w K mg base 1 "end_of" ["piece"] spEnd) : FOk P w K mg base 2 "points_of" ["H"] spPoints := by
 refine D.ok scPointsOf (fun vs H Q E h => ?_) (fun f cdv A outer s H vs Q E hr h => ?_)
 ·obtain ⟨v, es, rfl, _⟩ := h
  rfl
 ·obtain ⟨v, es, rfl, ⟨q, vs, rfl, hq, hpa⟩, hF, k⟩ := h
  refine ⟨_, (pss_one (ps_ret (pe_callTy call_tuple_of rfl B.tuple b_tuple (pa_cons (pe_callB (call_sortedSet rfl) rfl B.sorted b_sorted (pa_cons (pe_callTy (call_setL rfl) rfl B.set b_set (pa_cons (pe_op op_cat (pe_lcomp (defScope sPointsOf) nPointsOf ["piece", "many"] [] rfl (pi_tup (pv 0)) (fun _ _ _ _ _ => pg_tupK 2 K rfl (pgs_cons (pg_lc 0) (pgs_cons (pg_lc 1) pgs_nil))) (fun _ _ _ _ _ => pcs_nil) (fun _ _ _ _ _ => (pe_fn G_begin_of hr (pa_cons (pv 0) pa_nil))))
   (pe_lcomp (defScope sPointsOf) nPointsOf ["piece", "many"] [] rfl (pi_tup (pv 0)) (fun _ _ _ _ _ => pg_tupK 2 K rfl (pgs_cons (pg_lc 0) (pgs_cons (pg_lc 1) pgs_nil))) (fun _ _ _ _ _ => pcs_nil) (fun _ _ _ _ _ => (pe_fn G_end_of hr (pa_cons (pv 0) pa_nil))))) pa_nil)) pa_nil)) pa_nil)))), ?_⟩
  have hfew := hF.few
  have hvl := hpa.1
  refine ⟨_, rfl, q, rfl, ⟨_, SqT.of hq⟩, lc_map vs.length (fun i => vs.getD i .non) (fun i v _ => v = .str (bg (es.getD i ("", 0)).1)) (few_size (by omega)) (fun _ _ _ _ _ r => r) (jt_tup (SqT.of hq)) ?_ ?_⟩
  ·intro i H3 Qe hi hs kq
   have hie : i < es.length := by omega
   obtain ⟨b, e1, e2⟩ := hpa.2 i es[i] (List.getElem?_eq_getElem hie)
   have ev : vs.getD i .non = .ref b := by rw [List.getD_eq_getElem?_getD, e1]; rfl
   have ee : es.getD i ("", 0) = es[i] := by rw [List.getD_eq_getElem?_getD, List.getElem?_eq_getElem hie]; rfl
   obtain ⟨l1, l2⟩ := hF.long es[i] (List.getElem_mem hie)
   rw [ev]
   refine ⟨b, _, rfl, SqT.of (hs _ _ e2), rfl, _, _, rfl, _, _, rfl, rfl, _, rfl, es[i].1, rfl, l1, l2, kq _ _ (Same.refl _) ?_⟩
   rw [ee]
  intro D1 vs1 H3 hl1 hr1 hs3 hD1 hDl1
  rw [strs_of (f := bg) (by omega) hr1] at hDl1
  refine ⟨_, rfl, q, rfl, ⟨_, SqT.of (hs3 _ _ hq)⟩, lc_map vs.length (fun i => vs.getD i .non) (fun i v _ => v = .str (en (es.getD i ("", 0)).1)) (few_size (by omega)) (fun _ _ _ _ _ r => r) (jt_tup (SqT.of (hs3 _ _ hq))) ?_ ?_⟩
  ·intro i H4 Qe hi hs kq
   have hie : i < es.length := by omega
   obtain ⟨b, e1, e2⟩ := hpa.2 i es[i] (List.getElem?_eq_getElem hie)
   have ev : vs.getD i .non = .ref b := by rw [List.getD_eq_getElem?_getD, e1]; rfl
   have ee : es.getD i ("", 0) = es[i] := by rw [List.getD_eq_getElem?_getD, List.getElem?_eq_getElem hie]; rfl
   obtain ⟨l1, l2⟩ := hF.long es[i] (List.getElem_mem hie)
   rw [ev]
   refine ⟨b, _, rfl, SqT.of (hs _ _ (hs3 _ _ e2)), rfl, _, _, rfl, _, _, rfl, rfl, _, rfl, es[i].1, rfl, l1, l2, kq _ _ (Same.refl _) ?_⟩
   rw [ee]
  intro D2 vs2 H4 hl2 hr2 hs4 hD2 hDl2
  rw [strs_of (f := en) (by omega) hr2] at hDl2
  refine ⟨D1, D2, _, _, rfl, rfl, hs4 _ _ hDl1, hDl2, few_size (by simp only [List.length_map]; omega), fun p hp => ?_⟩
  have s5 := same_upd_new (o := .lst ((es.map fun e => bg e.1).map V.str ++ (es.map fun e => en e.1).map V.str)) hp
  refine ⟨p, (es.map fun e => bg e.1) ++ (es.map fun e => en e.1), rfl, SqL.of (by rw [upd_same, List.map_append]), by simp only [List.length_append, List.length_map]; omega, fun p2 ks hp2 hnd hmem hkl => ?_⟩
  have hkl' : ks.length ≤ 2 * es.length := by simp only [List.length_append, List.length_map] at hkl; omega
  refine ⟨p2, ks, rfl, upd_same, by omega, fun q2 ss hq2 hpm hsrt => ?_⟩
  refine ⟨q2, _, rfl, .inl ⟨SqL.of upd_same, fun l hl => ?_⟩⟩
  refine k (.ref l) _ ss (((((hs3.trans hs4).trans s5).trans (same_upd_new hp2)).trans (same_upd_new hq2)).trans (same_upd_new hl)) ⟨l, rfl, upd_same⟩ (SPts.of (ks := ks) ⟨hnd, fun x => ?_, hkl'⟩ hpm hsrt)
  rw [hmem, List.mem_append, List.mem_map, List.mem_map]
  constructor
  ·rintro (⟨e, he, z⟩ | ⟨e, he, z⟩)
   ·exact ⟨e, he, .inl z⟩
   ·exact ⟨e, he, .inr z⟩
  ·rintro ⟨e, he, z | z⟩
   ·exact .inl ⟨e, he, z⟩
   ·exact .inr ⟨e, he, z⟩
end
noncomputable def rD (ks : List Str) (adr : Str → Addr) : List (Key × V) := ks.map fun x => ((Sum.inr x : Key), V.ref (adr x))
theorem rD_len (ks : List Str) (adr : Str → Addr) : (rD ks adr).length = ks.length := by unfold rD; rw [List.length_map]
theorem rD_val (ks : List Str) (adr : Str → Addr) (y : Str) : valV (rD ks adr) (Sum.inr y) = if y ∈ ks then some (.ref (adr y)) else none := valV_ks (fun x => V.ref (adr x)) y ks
theorem rD_new {ks : List Str} {adr : Str → Addr} {y : Str} {p : Addr} (h : y ∉ ks) : putK (rD ks adr) (Sum.inr y) (.ref p) = rD (ks ++ [y]) fun x => if x = y then p else adr x := by
 rw [putK_new _ (by rw [rD_val, if_neg h])]
 unfold rD
 rw [List.map_append, List.map_singleton]
 dsimp only
 rw [if_pos rfl]
 congr 1
 refine List.map_congr_left fun x hx => ?_
 rw [if_neg (fun e : x = y => h (e ▸ hx))]
structure TJ (H H2 : Hp) (d : Addr) (ks : List Str) (adr : Str → Addr) (r : Str → List Str) : Prop where
 sm : Same H H2
 dn : H d = none
 dd : H2 d = some (.dK (rD ks adr))
 nd : ks.Nodup
 row : ∀ P ∈ ks, H2 (adr P) = some (.lst ((r P).map V.str))
 fresh : ∀ P ∈ ks, H (adr P) = none
 inj : ∀ P ∈ ks, ∀ P' ∈ ks, adr P = adr P' → P = P'
 out : ∀ P, P ∉ ks → r P = []
noncomputable def addR (r : Str → List Str) (P y : Str) : Str → List Str := fun x => if x = P then r P ++ [y] else r x
theorem addR_mem {r : Str → List Str} {P y x z : Str} : z ∈ addR r P y x ↔ z ∈ r x ∨ (x = P ∧ z = y) := by
 unfold addR
 by_cases c : x = P
 ·subst c
  rw [if_pos rfl]
  simp
 ·rw [if_neg c]
  simp [c]
theorem addR_len {r : Str → List Str} {P y : Str} {n : Nat} (h : ∀ x, (r x).length ≤ n) (x : Str) : (addR r P y x).length ≤ n + 1 := by
 unfold addR
 split
 ·have := h P
  simp
  omega
 ·have := h x
  omega
theorem TJ.ne {H H2 : Hp} {d : Addr} {ks : List Str} {adr : Str → Addr} {r : Str → List Str} (J : TJ H H2 d ks adr r) {P : Str} (hP : P ∈ ks) : adr P ≠ d := fun e => by
 have := J.row P hP
 rw [e, J.dd] at this
 cases this
theorem TJ.old {H H2 : Hp} {d p : Addr} {ks : List Str} {adr : Str → Addr} {r : Str → List Str} (J : TJ H H2 d ks adr r) {P y : Str} (hP : P ∈ ks) (hp : H2 p = none) :
  TJ H (upd (upd H2 p (.lst [])) (adr P) (.lst ((r P).map V.str ++ [.str y]))) d (addK ks P) adr (addR r P y) := by
 have ek : addK ks P = ks := by unfold addK; rw [if_pos hP]
 rw [ek]
 have s1 := same_upd_new (o := .lst []) hp
 refine ⟨fun b u hb => ?_, J.dn, ?_, J.nd, fun Q hQ => ?_, J.fresh, J.inj, fun Q hQ => ?_⟩
 ·rw [upd_ne fun e => by rw [e, J.fresh P hP] at hb; cases hb]
  exact s1 _ _ (J.sm b u hb)
 ·rw [upd_ne (Ne.symm (J.ne hP))]
  exact s1 _ _ J.dd
 ·unfold addR
  by_cases c : Q = P
  ·subst c
   rw [upd_same, if_pos rfl, List.map_append]
   rfl
  ·rw [if_neg c, upd_ne fun e => c (J.inj Q hQ P hP e)]
   exact s1 _ _ (J.row Q hQ)
 ·unfold addR
  rw [if_neg (fun e : Q = P => hQ (e ▸ hP))]
  exact J.out Q hQ
theorem TJ.new {H H2 : Hp} {d p : Addr} {ks : List Str} {adr : Str → Addr} {r : Str → List Str} (J : TJ H H2 d ks adr r) {P y : Str} (hP : P ∉ ks) (hp : H2 p = none) :
  TJ H (upd (upd (upd H2 p (.lst [])) d (.dK (rD (ks ++ [P]) fun x => if x = P then p else adr x))) p (.lst ([] ++ [.str y]))) d (addK ks P) (fun x => if x = P then p else adr x) (addR r P y) := by
 have ek : addK ks P = ks ++ [P] := by unfold addK; rw [if_neg hP]
 rw [ek]
 have hpd : d ≠ p := fun e => by rw [← e, J.dd] at hp; cases hp
 have hpa : ∀ Q ∈ ks, adr Q ≠ p := fun Q hQ e => by have := J.row Q hQ; rw [e, hp] at this; cases this
 have mm : ∀ Q, Q ∈ ks ++ [P] → Q ∈ ks ∨ Q = P := fun Q h => by simpa using h
 refine ⟨fun b u hb => ?_, J.dn, ?_, ?_, fun Q hQ => ?_, fun Q hQ => ?_, fun Q hQ Q' hQ' e => ?_, fun Q hQ => ?_⟩
 ·have h2 := J.sm b u hb
  rw [upd_ne (ne_of_none h2 hp), upd_ne (ne_of_none hb J.dn), upd_ne (ne_of_none h2 hp)]
  exact h2
 ·rw [upd_ne hpd, upd_same]
 ·exact List.nodup_append.mpr ⟨J.nd, by simp, fun a ha b hb e => by rw [List.mem_singleton.mp hb] at e; subst e; exact hP ha⟩
 ·unfold addR
  by_cases c : Q = P
  ·subst c
   rw [if_pos rfl, if_pos rfl, upd_same, J.out Q hP]
   rfl
  ·rw [if_neg c, if_neg c]
   have hQ' : Q ∈ ks := (mm Q hQ).resolve_right c
   rw [upd_ne (hpa Q hQ'), upd_ne (J.ne hQ'), upd_ne (hpa Q hQ')]
   exact J.row Q hQ'
 ·skip
  by_cases c : Q = P
  ·rw [if_pos c]
   cases hh : H p with
   | none => rfl
   | some u => have := J.sm p u hh; rw [hp] at this; cases this
  ·rw [if_neg c]
   exact J.fresh Q ((mm Q hQ).resolve_right c)
 ·skip
  by_cases c : Q = P
  ·by_cases c' : Q' = P
   ·rw [c, c']
   ·rw [if_pos c, if_neg c'] at e
    exact absurd e.symm (hpa Q' ((mm Q' hQ').resolve_right c'))
  ·by_cases c' : Q' = P
   ·rw [if_neg c, if_pos c'] at e
    exact absurd e (hpa Q ((mm Q hQ).resolve_right c))
   ·rw [if_neg c, if_neg c'] at e
    exact J.inj Q ((mm Q hQ).resolve_right c) Q' ((mm Q' hQ').resolve_right c') e
 ·have h1 : Q ∉ ks := fun z => hQ (List.mem_append_left _ z)
  have h2 : ¬ Q = P := fun z => hQ (by simp [z])
  unfold addR
  rw [if_neg h2]
  exact J.out Q h1
def TiR (H : Hp) (q d : Addr) (es : Es) (i : Nat) : L2.St → Hp → Prop := fun σ H2 => (∃ z2 z3 : Option V, σ = [some (.ref q), some (.ref d), z2, z3]) ∧ ∃ ks adr r, TJ H H2 d ks adr r ∧ Pts (es.take i) ks ∧ (∀ P y, y ∈ r P ↔ Adj (es.take i) P y) ∧ ∀ P, (r P).length ≤ 2 * i
section
variable {P : Program} {w : World} {K : PySem.W.Frag} {mg : Str → Option Value} {base : Heap}
abbrev sTiedPoints : Stmt := top 9
noncomputable abbrev nTiedPoints : List Str := ["H", "tied", "piece", "many"]
theorem scTiedPoints : FnScope nTiedPoints ["H"] (defScope sTiedPoints) := ⟨rfl, rfl, rfl, by decide +kernel, rfl, by decide +kernel, by decide +kernel⟩
def spTied : Sp := fun vs H Q _ => ∃ (v : V) (es : Es), vs = [v] ∧ HeapV H v es ∧ Fine es ∧ ∀ d H' ks adr r, TJ H H' d ks adr r → Pts es ks → (∀ P y, y ∈ r P ↔ Adj es P y) → (∀ P, (r P).length ≤ 602) → Q (.ref d) H'
set_option maxHeartbeats 8000000 in
theorem ok_tied_points (D : HasDef K mg "tied_points" sTiedPoints ["H"]) (G_begin_of : FOk P w K mg base 1 "begin_of" ["piece"] spBeg) (G_end_of : FOk P w K mg base 1 "end_of" ["piece"] spEnd) : FOk P w K mg base 2 "tied_points" ["H"] spTied := by
 refine D.ok scTiedPoints (fun vs H Q E h => ?_) (fun f cdv A outer s H vs Q E hr h => ?_)
 ·obtain ⟨v, es, rfl, _⟩ := h
  rfl
 ·obtain ⟨v, es, rfl, ⟨q, vs, rfl, hq, hpa⟩, hF, k⟩ := h
  refine ⟨_, (pss_cons (ps_set (i := 1) scTiedPoints.nd rfl (Or.inl rfl) pe_dnewK)
   (pss_cons (ps_for PassesOwn.never rfl (pi_tup (pv 0)) (pg_tupK 2 K rfl (pgs_cons (pg_name (i := 2) scTiedPoints.nd rfl (Or.inl rfl)) (pgs_cons (pg_name (i := 3) scTiedPoints.nd rfl (Or.inl rfl)) pgs_nil)))
    (pss_cons (ps_expr (pe_bm F.plainAttrs_list F.slot_list_append F.type_list_append mt_appendR (pe_dset (pv 1) (pe_fn G_begin_of hr (pa_cons (pv 2) pa_nil)) (pe_lst pa_nil) ⟨rfl, rfl, rfl, rfl⟩) (pa_cons (pe_fn G_end_of hr (pa_cons (pv 2) pa_nil)) pa_nil)))
   (pss_one (ps_expr (pe_bm F.plainAttrs_list F.slot_list_append F.type_list_append mt_appendR (pe_dset (pv 1) (pe_fn G_end_of hr (pa_cons (pv 2) pa_nil)) (pe_lst pa_nil) ⟨rfl, rfl, rfl, rfl⟩) (pa_cons (pe_fn G_begin_of hr (pa_cons (pv 2) pa_nil)) pa_nil))))))
   (pss_one (ps_ret (pv 1))))), ?_⟩
  intro d hd
  have s1 := same_upd_new (o := .dK []) hd
  refine ⟨_, rfl, q, rfl, ⟨_, SqT.of (s1 _ _ hq)⟩, ?_⟩
  refine for_tup (K := K) (a := q) (xs := vs) (fun i σ H2 => (∃ z2 z3 : Option V, σ = [some (.ref q), some (.ref d), z2, z3]) ∧ ∃ ks adr r, TJ H H2 d ks adr r ∧ Pts (es.take i) ks ∧ (∀ P y, y ∈ r P ↔ Adj (es.take i) P y) ∧ ∀ P, (r P).length ≤ 2 * i)
   ⟨⟨none, none, rfl⟩, [], fun _ => d, fun _ => [], ⟨s1, hd, upd_same, List.nodup_nil, (fun P h => by cases h), (fun P h => by cases h), (fun P h => by cases h), fun _ _ => rfl⟩, Pts.nil, (fun P y => by simp [Adj]), fun P => Nat.le_refl _⟩ (fun i σ H2 _ ⟨_, _, _, _, J, _⟩ => SqT.of (J.sm _ _ hq)) ?_ ?_
  ·rintro i x σ H2 hi ⟨⟨z2, z3, rfl⟩, ks, adr, r, J, hk, hadj, hlen⟩
   have hiv : i < vs.length := (List.getElem?_eq_some_iff.mp hi).1
   have hie : i < es.length := by rw [← hpa.1]; exact hiv
   obtain ⟨b, e1, e2⟩ := hpa.2 i es[i] (List.getElem?_eq_getElem hie)
   rw [hi] at e1
   cases e1
   obtain ⟨l1, l2⟩ := hF.long es[i] (List.getElem_mem hie)
   have hkl := hk.len
   have hfew := hF.few
   rw [List.length_take] at hkl
   refine ⟨b, _, rfl, SqT.of (J.sm _ _ e2), rfl, _, _, rfl, _, _, rfl, rfl, ?_⟩
   have het : es.take (i + 1) = es.take i ++ [es[i]] := List.take_succ_eq_append_getElem hie
   generalize es[i] = e at *
   have one : ∀ (H3 : Hp) (ks3 : List Str) (adr3 : Str → Addr) (r3 : Str → List Str) (P y : Str) (R : L2.St → Hp → Prop) (σ3 : L2.St), TJ H H3 d ks3 adr3 r3 → ks3.length ≤ 700 → (∀ x, (r3 x).length ≤ 700) → (∀ H4 adr4, TJ H H4 d (addK ks3 P) adr4 (addR r3 P y) → R σ3 H4) → ∀ p, H3 p = none →
     (∀ v, valV (rD ks3 adr3) (Sum.inr P : Key) = some v → ∃ l xs, v = .ref l ∧ (upd H3 p (.lst [])) l = some (.lst xs) ∧ xs.length < sizeLine ∧ R σ3 (upd (upd H3 p (.lst [])) l (.lst (xs ++ [.str y])))) ∧
     (valV (rD ks3 adr3) (Sum.inr P : Key) = none → ∃ xs, (upd (upd H3 p (.lst [])) d (.dK (putK (rD ks3 adr3) (Sum.inr P) (.ref p)))) p = some (.lst xs) ∧ xs.length < sizeLine ∧ R σ3 (upd (upd (upd H3 p (.lst [])) d (.dK (putK (rD ks3 adr3) (Sum.inr P) (.ref p)))) p (.lst (xs ++ [.str y])))) := by
    intro H3 ks3 adr3 r3 P y R σ3 J3 hks hr3 hR p hp
    constructor
    ·intro v hv
     rw [rD_val] at hv
     by_cases c : P ∈ ks3
     ·rw [if_pos c] at hv
      cases hv
      refine ⟨adr3 P, (r3 P).map V.str, rfl, same_upd_new hp _ _ (J3.row P c), ?_, hR _ _ (J3.old c hp)⟩
      rw [List.length_map]
      have := hr3 P
      exact small1000 (by omega)
     ·rw [if_neg c] at hv
      cases hv
    ·intro hv
     rw [rD_val] at hv
     by_cases c : P ∈ ks3
     ·rw [if_pos c] at hv
      cases hv
     ·have hpd : p ≠ d := fun e => by rw [e, J3.dd] at hp; cases hp
      refine ⟨[], by rw [upd_ne hpd, upd_same], small1000 (by decide), ?_⟩
      rw [rD_new c]
      exact hR _ _ (J3.new c hp)
   have hkz : ks.length ≤ 700 := by omega
   have hrz : ∀ x, (r x).length ≤ 700 := fun x => by have := hlen x; omega
   show tSeq _ _ _ _ _
   refine seq_any (fun σ H' => σ = [some (.ref q), some (.ref d), some (.str e.1), some (.int e.2)] ∧ ∃ adr', TJ H H' d (addK ks (bg e.1)) adr' (addR r (bg e.1) (en e.1))) (fun R hR => ?_) ?_
   ·refine ⟨_, rfl, d, rfl, .inl ⟨_, .inl J.dd⟩, _, rfl, e.1, rfl, l1, l2, few_size (show 0 ≤ 1000 by decide), fun p hp => ?_⟩
    refine ⟨_, Sum.inr (bg e.1), same_upd_new hp _ _ J.dd, rfl, by rw [rD_len]; exact small1000 (by omega), fun v hv => ?_, fun hv => ?_⟩
    ·obtain ⟨l, xs, rfl, hl, hz, hr'⟩ := (one H2 ks adr r (bg e.1) (en e.1) R [some (.ref q), some (.ref d), some (.str e.1), some (.int e.2)] J hkz hrz (fun H4 adr4 J4 => hR _ _ ⟨rfl, adr4, J4⟩) p hp).1 v hv
     exact ⟨.inl ⟨rfl, _, SqL.of hl⟩, _, rfl, e.1, rfl, l1, l2, l, xs, .str (en e.1), rfl, rfl, hl, hz, hr'⟩
    ·obtain ⟨xs, hl, hz, hr'⟩ := (one H2 ks adr r (bg e.1) (en e.1) R [some (.ref q), some (.ref d), some (.str e.1), some (.int e.2)] J hkz hrz (fun H4 adr4 J4 => hR _ _ ⟨rfl, adr4, J4⟩) p hp).2 hv
     exact ⟨.inl ⟨rfl, _, SqL.of hl⟩, _, rfl, e.1, rfl, l1, l2, p, xs, .str (en e.1), rfl, rfl, hl, hz, hr'⟩
   rintro σ H3 ⟨rfl, adr3, J3⟩
   have hal := addK_len ks (bg e.1)
   have hrz3 : ∀ x, (addR r (bg e.1) (en e.1) x).length ≤ 700 := fun x => by have := addR_len (P := bg e.1) (y := en e.1) hlen x; omega
   have fin : ∀ H4 adr4, TJ H H4 d (addK (addK ks (bg e.1)) (en e.1)) adr4 (addR (addR r (bg e.1) (en e.1)) (en e.1) (bg e.1)) → TiR H q d es (i + 1) [some (.ref q), some (.ref d), some (.str e.1), some (.int e.2)] H4 := fun H4 adr4 J4 => by
    refine ⟨⟨_, _, rfl⟩, _, adr4, _, J4, by rw [het]; exact hk.step e, fun P y => ?_, fun P => ?_⟩
    ·rw [addR_mem, addR_mem, hadj, het, adj_snoc]
     constructor
     ·rintro ((z | ⟨z1, z2⟩) | ⟨z1, z2⟩)
      ·exact .inl z
      ·exact .inr (.inl ⟨z1.symm, z2.symm⟩)
      ·exact .inr (.inr ⟨z1.symm, z2.symm⟩)
     ·rintro (z | ⟨z1, z2⟩ | ⟨z1, z2⟩)
      ·exact .inl (.inl z)
      ·exact .inl (.inr ⟨z1.symm, z2.symm⟩)
      ·exact .inr ⟨z1.symm, z2.symm⟩
    ·have := addR_len (P := en e.1) (y := bg e.1) (fun x => addR_len (P := bg e.1) (y := en e.1) hlen x) P
     omega
   refine ⟨_, rfl, d, rfl, .inl ⟨_, .inl J3.dd⟩, _, rfl, e.1, rfl, l1, l2, few_size (show 0 ≤ 1000 by decide), fun p hp => ?_⟩
   refine ⟨_, Sum.inr (en e.1), same_upd_new hp _ _ J3.dd, rfl, by rw [rD_len]; exact small1000 (by omega), fun v hv => ?_, fun hv => ?_⟩
   ·obtain ⟨l, xs, rfl, hl, hz, hr'⟩ := (one H3 _ adr3 _ (en e.1) (bg e.1) (TiR H q d es (i + 1)) [some (.ref q), some (.ref d), some (.str e.1), some (.int e.2)] J3 (by omega) hrz3 fin p hp).1 v hv
    exact ⟨.inl ⟨rfl, _, SqL.of hl⟩, _, rfl, e.1, rfl, l1, l2, l, xs, .str (bg e.1), rfl, rfl, hl, hz, hr'⟩
   ·obtain ⟨xs, hl, hz, hr'⟩ := (one H3 _ adr3 _ (en e.1) (bg e.1) (TiR H q d es (i + 1)) [some (.ref q), some (.ref d), some (.str e.1), some (.int e.2)] J3 (by omega) hrz3 fin p hp).2 hv
    exact ⟨.inl ⟨rfl, _, SqL.of hl⟩, _, rfl, e.1, rfl, l1, l2, p, xs, .str (bg e.1), rfl, rfl, hl, hz, hr'⟩
  ·rintro σ H2 ⟨⟨z2, z3, rfl⟩, ks, adr, r, J, hk, hadj, hlen⟩
   rw [hpa.1, List.take_length] at hk hadj
   have := hF.few
   exact ⟨_, rfl, k d H2 ks adr r J hk hadj fun P => by have := hlen P; rw [hpa.1] at this; omega⟩
end
def bD (ks : List Str) : List (Key × V) := ks.map fun x => ((Sum.inr x : Key), V.bl true)
theorem bD_len (ks : List Str) : (bD ks).length = ks.length := by unfold bD; rw [List.length_map]
theorem bD_val (ks : List Str) (y : Str) : valV (bD ks) (Sum.inr y) = if y ∈ ks then some (.bl true) else none := valV_ks (fun _ => V.bl true) y ks
theorem bD_put (ks : List Str) (y : Str) : putK (bD ks) (Sum.inr y) (.bl true) = bD (addK ks y) := by
 unfold addK
 by_cases m : y ∈ ks
 ·rw [if_pos m]
  unfold bD
  rw [put_ks_old _ _ _ _ m]
  refine List.map_congr_left fun x _ => ?_
  simp
 ·rw [if_neg m, putK_new _ (by rw [bD_val, if_neg m])]
  unfold bD
  rw [List.map_append, List.map_singleton]
theorem lt_of_nd {ss : List Str} (nd : ss.Nodup) (h : (ss.map fun x => x.cps.toList).Pairwise (· ≤ ·)) : (ss.map fun x => x.cps.toList).Pairwise (· < ·) := by
 rw [List.pairwise_map] at h ⊢
 have := List.Pairwise.and nd h
 refine this.imp fun {a b} q => ?_
 refine Tim.lt_ne (fun z => ?_) (Ne.symm q.1)
 exact absurd z (List.not_lt.mpr q.2)
structure Wk (es : Es) (a : Str) (ks F W : List Str) : Prop where
 nd : F.Nodup
 fst : a ∈ F
 rch : ∀ x ∈ F, Rch es a x
 sub : ∀ x ∈ W, x ∈ F
 inn : ∀ x ∈ F, x ∈ ks
theorem Wk.le {es : Es} {a : Str} {ks F W : List Str} (h : Wk es a ks F W) : F.length ≤ ks.length := by
 have h1 := h.nd
 have h2 := h.inn
 clear h
 induction F generalizing ks with
 | nil => exact Nat.zero_le _
 | cons x F ih =>
  have nd' := List.nodup_cons.mp h1
  have hx := h2 x (List.mem_cons_self ..)
  have p := List.perm_cons_erase hx
  have := ih (ks := ks.erase x) nd'.2 fun y hy => (List.mem_erase_of_ne (fun (q : y = x) => nd'.1 (q ▸ hy))).mpr (h2 y (List.mem_cons_of_mem _ hy))
  rw [List.length_erase_of_mem hx] at this
  have hpos : 0 < ks.length := List.length_pos_of_mem hx
  rw [List.length_cons]
  omega
section
variable {P : Program} {w : World} {K : PySem.W.Frag} {mg : Str → Option Value} {base : Heap}
abbrev sPartOf : Stmt := top 10
noncomputable abbrev nPartOf : List Str := ["H", "tied", "first", "found", "waiting", "here", "point"]
theorem scPartOf : FnScope nPartOf ["H"] (defScope sPartOf) := ⟨rfl, rfl, rfl, by decide +kernel, rfl, by decide +kernel, by decide +kernel⟩
def spPart : Sp := fun vs H Q _ => ∃ (v : V) (e : Str × Int) (es : Es), vs = [v] ∧ HeapV H v (e :: es) ∧ Fine (e :: es) ∧ ∀ v' H' ss, Same H H' → TupS H' v' ss → (ss.map fun x => x.cps.toList).Pairwise (· < ·) → ss.length ≤ 602 → (∀ x, x ∈ ss ↔ Rch (e :: es) (bg e.1) x) → Q v' H'
set_option maxHeartbeats 8000000 in
theorem ok_part_of (D : HasDef K mg "part_of" sPartOf ["H"]) (B : Blt mg) (G_begin_of : FOk P w K mg base 2 "begin_of" ["piece"] spBeg) (G_tied_points : FOk P w K mg base 2 "tied_points" ["H"] spTied) : FOk P w K mg base 3 "part_of" ["H"] spPart := by
 refine D.ok scPartOf (fun vs H Q E h => ?_) (fun f cdv A outer s H vs Q E hr h => ?_)
 ·obtain ⟨v, e, es, rfl, _⟩ := h
  rfl
 ·obtain ⟨v, e, es0, rfl, hV, hF, k⟩ := h
  have hu := hu_of hr
  obtain ⟨q, vs, rfl, hq, hpa⟩ := id hV
  refine ⟨_, (pss_cons (ps_set (i := 1) scPartOf.nd rfl (Or.inl rfl) (pe_fn G_tied_points hr (pa_cons (pv 0) pa_nil)))
   (pss_cons (ps_set (i := 2) scPartOf.nd rfl (Or.inl rfl) (pe_fn G_begin_of hr (pa_cons (pe_ix ix_tup (pe_ix ix_tup (pv 0) pe_int (fun _ _ => rfl)) pe_int (fun _ _ => rfl)) pa_nil)))
   (pss_cons (ps_set (i := 3) scPartOf.nd rfl (Or.inl rfl) (pe_disp (pps_cons (pv 2) pe_bl pps_nil) rfl rfl (List.cons_ne_nil _ _) (by decide)))
   (pss_cons (ps_set (i := 4) scPartOf.nd rfl (Or.inl rfl) (pe_lst (pa_cons (pv 2) pa_nil)))
   (pss_cons (ps_while PassesOwn.never (pt_cmpR op_gt (pe_callB call_len rfl B.len b_len (pa_cons (pv 4) pa_nil)) pe_int (nomark _))
    (pss_cons (ps_set (i := 5) scPartOf.nd rfl (Or.inl rfl) (pe_bm0 F.plainAttrs_list F.slot_list_pop F.type_list_pop mt_popR (pv 4)))
   (pss_one (ps_for PassesOwn.never rfl (pi_list (pe_dget hu (pv 1) (pv 5) (fun _ _ => rfl))) (pg_name (i := 6) scPartOf.nd rfl (Or.inl rfl))
    (pss_one (ps_if (pt_cmp (pc_dnotin hu (pv 6) (pv 3))) (pss_cons (ps_dput hu (pv 3) (pv 6) pe_bl rfl)
   (pss_one (ps_expr (pe_bm F.plainAttrs_list F.slot_list_append F.type_list_append mt_appendR (pv 4) (pa_cons (pv 6) pa_nil))))) pss_nil))))))
   (pss_one (ps_ret (pe_callTy call_tuple_of rfl B.tuple b_tuple (pa_cons (pe_callB (call_sortedDK rfl) rfl B.sorted b_sorted (pa_cons (pv 3) pa_nil)) pa_nil))))))))), ?_⟩
  obtain ⟨b0, eb0, hb0⟩ := hpa.2 0 e rfl
  obtain ⟨l1, l2⟩ := hF.long e (List.mem_cons_self ..)
  refine ⟨_, rfl, .ref q, e :: es0, rfl, hV, hF, fun d H1 ks adr r J hk hadj hlen => ?_⟩
  have hf1 := hk.len
  have hf2 := hF.few
  have haK : bg e.1 ∈ ks := (hk.mem _).mpr ⟨e, List.mem_cons_self .., .inl rfl⟩
  generalize hes : e :: es0 = es at *
  refine ⟨_, rfl, q, vs, 0, .ref b0, rfl, rfl, SqT.of (J.sm _ _ hq), item_at (by decide) eb0, b0, _, 0, .str e.1, rfl, rfl, SqT.of (J.sm _ _ hb0), rfl, e.1, rfl, l1, l2, fun fd hfd => ?_⟩
  refine ⟨_, rfl, upd_same, [((Sum.inr (bg e.1) : Key), V.bl true)], rfl, by simp, ?_⟩
  rw [upd_upd]
  have s2 : Same H1 (upd H1 fd (.dK (mergeK [] [((Sum.inr (bg e.1) : Key), V.bl true)]))) := same_upd_new hfd
  have hfd2 : (upd H1 fd (.dK (mergeK [] [((Sum.inr (bg e.1) : Key), V.bl true)]))) fd = some (.dK (bD [bg e.1])) := upd_same
  generalize upd H1 fd (.dK (mergeK [] [((Sum.inr (bg e.1) : Key), V.bl true)])) = H2 at s2 hfd2
  refine ⟨_, rfl, few_size (show 1 ≤ 1000 by decide), fun wl hwl => ?_⟩
  have hwl1 : H1 wl = none := s2.free hwl
  have hne : wl ≠ fd := fun z => by rw [z, hfd2] at hwl; cases hwl
  have s3 := s2.trans (same_upd_new (o := .lst [.str (bg e.1)]) hwl)
  have hfd3 := same_upd_new (o := .lst [.str (bg e.1)]) hwl _ _ hfd2
  have hwl3 : (upd H2 wl (.lst [.str (bg e.1)])) wl = some (.lst ([bg e.1].map V.str)) := upd_same
  generalize upd H2 wl (.lst [.str (bg e.1)]) = H3 at s3 hfd3 hwl3
  have shift : ∀ {H4 : Hp} (F W : List Str), Same H1 H4 → Same H1 (upd (upd H4 fd (.dK (bD F))) wl (.lst (W.map V.str))) := fun F W s b u hb => by
   rw [upd_ne (ne_of_none hb hwl1), upd_ne (ne_of_none hb hfd)]
   exact s b u hb
  have shW : ∀ {H4 : Hp} (o : HO), Same H1 H4 → Same H1 (upd H4 wl o) := fun o s b u hb => by
   rw [upd_ne (ne_of_none hb hwl1)]
   exact s b u hb
  have shF : ∀ {H4 : Hp} (o : HO), Same H1 H4 → Same H1 (upd H4 fd o) := fun o s b u hb => by
   rw [upd_ne (ne_of_none hb hfd)]
   exact s b u hb
  try dsimp only [gName]
  show tSeq (tWhile _ _) _ _ _ _
  refine seq_any (fun σ H4 => ∃ (F : List Str) (z5 z6 : Option V), σ = [some (.ref q), some (.ref d), some (.str (bg e.1)), some (.ref fd), some (.ref wl), z5, z6] ∧ Same H1 H4 ∧ H4 fd = some (.dK (bD F)) ∧ Wk es (bg e.1) ks F [] ∧ ∀ x ∈ F, ∀ y, Adj es x y → y ∈ F) (fun R hR => ?_) ?_
  ·refine ⟨fun m σ H4 => ∃ (F W : List Str) (z5 z6 : Option V), σ = [some (.ref q), some (.ref d), some (.str (bg e.1)), some (.ref fd), some (.ref wl), z5, z6] ∧ Same H1 H4 ∧ H4 fd = some (.dK (bD F)) ∧ H4 wl = some (.lst (W.map V.str)) ∧ Wk es (bg e.1) ks F W ∧ (∀ x ∈ F, x ∉ W → ∀ y, Adj es x y → y ∈ F) ∧ m = 2 * (ks.length - F.length) + W.length ∧ m ≤ 2 * ks.length,
    ⟨_, [bg e.1], [bg e.1], none, none, rfl, s3, hfd3, hwl3, ⟨by simp, by simp, (fun x hx => by rw [List.mem_singleton.mp hx]; exact .here), fun x hx => hx, fun x hx => by rw [List.mem_singleton.mp hx]; exact haK⟩, (fun x hx hw => absurd hx hw), rfl, by have := List.length_pos_of_mem haK; simp only [List.length_singleton]; omega⟩, ?_⟩
   rintro m σ H4 ⟨F, W, z5, z6, rfl, s4, hfd4, hwl4, hW, hcl, hm, hw5⟩
   refine ⟨_, rfl, .ref wl, _, rfl, .inl ⟨_, SqL.of hwl4, rfl⟩, _, _, rfl, rfl, _, rfl, ?_⟩
   rcases List.eq_nil_or_concat W with rfl | ⟨r0, here, rfl⟩
   ·exact iteM (by decide) (hR _ _ ⟨F, z5, z6, rfl, s4, hfd4, hW, fun x hx => hcl x hx (fun z => by cases z)⟩)
   rw [List.concat_eq_append] at *
   refine iteP (decide_eq_true (by rw [List.map_append, List.length_append, List.map_singleton, List.length_singleton]; omega)) ?_
   have hhF : here ∈ F := hW.sub here (by simp)
   have hhK := hW.inn here hhF
   rw [List.length_append, List.length_singleton] at hm
   refine ⟨fun σ' H' => ∃ m', m' < m ∧ ∃ (F W : List Str) (z5 z6 : Option V), σ' = [some (.ref q), some (.ref d), some (.str (bg e.1)), some (.ref fd), some (.ref wl), z5, z6] ∧ Same H1 H' ∧ H' fd = some (.dK (bD F)) ∧ H' wl = some (.lst (W.map V.str)) ∧ Wk es (bg e.1) ks F W ∧ (∀ x ∈ F, x ∉ W → ∀ y, Adj es x y → y ∈ F) ∧ m' = 2 * (ks.length - F.length) + W.length ∧ m' ≤ 2 * ks.length, fun _ _ z => z, ?_⟩
   refine ⟨_, rfl, .inl ⟨rfl, _, SqL.of hwl4⟩, wl, _, V.str here, rfl, rfl, hwl4, by rw [List.map_append, List.map_singleton]; simp, ?_⟩
   rw [show ((r0 ++ [here]).map V.str).dropLast = r0.map V.str by rw [List.map_append, List.map_singleton, List.dropLast_concat]]
   have s5 : Same H1 (upd H4 wl (.lst (r0.map V.str))) := shW _ s4
   have hwl5 : (upd H4 wl (.lst (r0.map V.str))) wl = some (.lst (r0.map V.str)) := upd_same
   have hfd5 : (upd H4 wl (.lst (r0.map V.str))) fd = some (.dK (bD F)) := by rw [upd_ne (Ne.symm hne)]; exact hfd4
   generalize upd H4 wl (.lst (r0.map V.str)) = H5 at s5 hwl5 hfd5
   refine ⟨_, rfl, _, rfl, d, .ref (adr here), rfl, .inl ⟨_, Sum.inr here, .inl (s5 _ _ J.dd), rfl, by rw [rD_val, if_pos hhK]⟩, adr here, rfl, ⟨_, SqL.of (s5 _ _ (J.row here hhK))⟩, ?_⟩
   refine for_list (K := K) (a := adr here) (xs := (r here).map V.str) (fun j σ' H' => ∃ (F W : List Str) (z6 : Option V), σ' = [some (.ref q), some (.ref d), some (.str (bg e.1)), some (.ref fd), some (.ref wl), some (.str here), z6] ∧ Same H1 H' ∧ H' fd = some (.dK (bD F)) ∧ H' wl = some (.lst (W.map V.str)) ∧ Wk es (bg e.1) ks F W ∧ (∀ x ∈ F, x ∉ W → x ≠ here → ∀ y, Adj es x y → y ∈ F) ∧ (∀ y ∈ (r here).take j, y ∈ F) ∧ 2 * (ks.length - F.length) + W.length + 1 ≤ m)
    ⟨F, r0, z6, rfl, s5, hfd5, hwl5, ⟨hW.nd, hW.fst, hW.rch, fun x hx => hW.sub x (List.mem_append_left _ hx), hW.inn⟩, fun x hx h1 h2 => hcl x hx (fun z => by rcases List.mem_append.mp z with z | z; exact h1 z; exact h2 (List.mem_singleton.mp z)), (fun y hy => by rw [List.take_zero] at hy; cases hy), by omega⟩
    (fun i σ' H' _ ⟨_, _, _, _, s6, _⟩ => SqL.of (s6 _ _ (J.row here hhK))) ?_ ?_
   ·rintro j x σ' H6 hj ⟨F6, W6, z6', rfl, s6, hfd6, hwl6, hW6, hcl6, hin6, hm6⟩
    rw [List.getElem?_map] at hj
    obtain ⟨y, hy, rfl⟩ := Option.map_eq_some_iff.mp hj
    have hya : Adj es here y := (hadj here y).mp (List.mem_of_getElem? hy)
    have hyK : y ∈ ks := by
     obtain ⟨e', he', q'⟩ := hya
     rcases q' with ⟨_, q'⟩ | ⟨_, q'⟩
     ·exact (hk.mem y).mpr ⟨e', he', .inr q'⟩
     ·exact (hk.mem y).mpr ⟨e', he', .inl q'⟩
    have htk : (r here).take (j + 1) = (r here).take j ++ [y] := by
     rw [List.take_add_one, hy]
     rfl
    have hle6 := hW6.le
    refine ⟨_, rfl, _, rfl, fd, valV (bD F6) (Sum.inr y), rfl, .inl ⟨_, Sum.inr y, .inl hfd6, rfl, rfl⟩, ?_⟩
    rw [bD_val]
    by_cases c : y ∈ F6
    ·rw [if_pos c]
     refine ⟨_, rfl, iteM rfl ⟨F6, W6, _, rfl, s6, hfd6, hwl6, hW6, hcl6, fun y' hy' => ?_, hm6⟩⟩
     rw [htk] at hy'
     rcases List.mem_append.mp hy' with z | z
     ·exact hin6 y' z
     ·rw [List.mem_singleton.mp z]
      exact c
    ·rw [if_neg c]
     have hW7 : Wk es (bg e.1) ks (F6 ++ [y]) (W6 ++ [y]) := ⟨List.nodup_append.mpr ⟨hW6.nd, by simp, fun a ha b hb e => by rw [List.mem_singleton.mp hb] at e; subst e; exact c ha⟩, List.mem_append_left _ hW6.fst, (fun x hx => by
       rcases List.mem_append.mp hx with z | z
       ·exact hW6.rch x z
       ·rw [List.mem_singleton.mp z]; exact .step (hW.rch here hhF) hya), (fun x hx => by
       rcases List.mem_append.mp hx with z | z
       ·exact List.mem_append_left _ (hW6.sub x z)
       ·rw [List.mem_singleton.mp z]; simp), fun x hx => by
       rcases List.mem_append.mp hx with z | z
       ·exact hW6.inn x z
       ·rw [List.mem_singleton.mp z]; exact hyK⟩
     have hlt : F6.length + 1 ≤ ks.length := by
      have := hW7.le
      rw [List.length_append, List.length_singleton] at this
      exact this
     refine ⟨_, rfl, iteP rfl ⟨_, rfl, _, rfl, fd, _, rfl, DPut.k (k := Sum.inr y) hfd6 (by rw [bD_len]; exact small1000 (by omega)), ?_⟩⟩
     rw [bD_put, show addK F6 y = F6 ++ [y] by unfold addK; rw [if_neg c]]
     have s7 : Same H1 (upd H6 fd (.dK (bD (F6 ++ [y])))) := shF _ s6
     have hfd7 : (upd H6 fd (.dK (bD (F6 ++ [y])))) fd = some (.dK (bD (F6 ++ [y]))) := upd_same
     have hwl7 : (upd H6 fd (.dK (bD (F6 ++ [y])))) wl = some (.lst (W6.map V.str)) := by rw [upd_ne hne]; exact hwl6
     generalize upd H6 fd (.dK (bD (F6 ++ [y]))) = H7 at s7 hfd7 hwl7
     refine ⟨_, rfl, .inl ⟨rfl, _, SqL.of hwl7⟩, _, rfl, wl, _, .str y, rfl, rfl, hwl7, by rw [List.length_map]; exact small5000 (by omega), ?_⟩
     refine ⟨F6 ++ [y], W6 ++ [y], _, rfl, shW _ s7, by rw [upd_ne (Ne.symm hne)]; exact hfd7, by rw [upd_same, List.map_append, List.map_singleton], hW7, fun x hx hxw hxh y' hy' => ?_, fun y' hy' => ?_, by rw [List.length_append, List.length_append, List.length_singleton]; omega⟩
     ·rcases List.mem_append.mp hx with z | z
      ·exact List.mem_append_left _ (hcl6 x z (fun q => hxw (List.mem_append_left _ q)) hxh y' hy')
      ·exact absurd (List.mem_append_right _ z) hxw
     ·rw [htk] at hy'
      rcases List.mem_append.mp hy' with z | z
      ·exact List.mem_append_left _ (hin6 y' z)
      ·exact List.mem_append_right _ z
   ·rintro σ' H6 ⟨F6, W6, z6', rfl, s6, hfd6, hwl6, hW6, hcl6, hin6, hm6⟩
    rw [List.length_map, List.take_length] at hin6
    refine ⟨_, ?_, F6, W6, _, _, rfl, s6, hfd6, hwl6, hW6, fun x hx hxw y hxy => ?_, rfl, ?_⟩
    ·omega
    ·by_cases c : x = here
     ·subst c
      exact hin6 y ((hadj x y).mpr hxy)
     ·exact hcl6 x hx hxw c y hxy
    ·omega
  ·rintro σ H4 ⟨F, z5, z6, rfl, s4, hfd4, hW, hcl⟩
   have hle := hW.le
   refine ⟨_, rfl, fd, F, fun _ => .bl true, rfl, hfd4, by omega, fun p ss hp hpm hsrt => ?_⟩
   refine ⟨p, _, rfl, .inl ⟨SqL.of upd_same, fun l hl => ?_⟩⟩
   refine k (.ref l) _ ss (((J.sm.trans s4).trans (same_upd_new hp)).trans (same_upd_new hl)) ⟨l, rfl, upd_same⟩ (lt_of_nd (hpm.nodup_iff.mpr hW.nd) hsrt) (by rw [hpm.length_eq]; omega) fun x => ?_
   rw [hpm.mem_iff]
   exact ⟨hW.rch x, fun z => Rch.closed hW.fst hcl z⟩
end
theorem nd_le {F : List Str} : ∀ {ks : List Str}, F.Nodup → (∀ x ∈ F, x ∈ ks) → F.length ≤ ks.length := by
 induction F with
 | nil => exact fun _ _ => Nat.zero_le _
 | cons x F ih =>
  intro ks h1 h2
  have nd' := List.nodup_cons.mp h1
  have hx := h2 x (List.mem_cons_self ..)
  have := ih (ks := ks.erase x) nd'.2 fun y hy => (List.mem_erase_of_ne (fun (q : y = x) => nd'.1 (q ▸ hy))).mpr (h2 y (List.mem_cons_of_mem _ hy))
  rw [List.length_erase_of_mem hx] at this
  have hpos : 0 < ks.length := List.length_pos_of_mem hx
  rw [List.length_cons]
  omega
theorem nd_all {F ks : List Str} (h1 : F.Nodup) (h2 : ∀ x ∈ F, x ∈ ks) (he : F.length = ks.length) : ∀ x ∈ ks, x ∈ F := by
 intro x hx
 apply Classical.byContradiction
 intro hn
 have := nd_le (ks := ks.erase x) h1 fun y hy => (List.mem_erase_of_ne (fun (q : y = x) => hn (q ▸ hy))).mpr (h2 y hy)
 rw [List.length_erase_of_mem hx] at this
 have hpos : 0 < ks.length := List.length_pos_of_mem hx
 omega
theorem nd_of_lt {ss : List Str} (h : (ss.map fun x => x.cps.toList).Pairwise (· < ·)) : ss.Nodup := by
 rw [List.pairwise_map] at h
 refine h.imp fun {a b} q e => ?_
 subst e
 exact List.lt_irrefl _ q
theorem Rch.pt {e : Str × Int} {es : Es} {x : Str} (h : Rch (e :: es) (bg e.1) x) : ∃ e' ∈ e :: es, bg e'.1 = x ∨ en e'.1 = x := by
 cases h with
 | here => exact ⟨e, by simp, .inl rfl⟩
 | step _ k =>
  obtain ⟨e', he, ⟨_, q⟩ | ⟨_, q⟩⟩ := k
  ·exact ⟨e', he, .inr q⟩
  ·exact ⟨e', he, .inl q⟩
theorem hang_iff {e : Str × Int} {es : Es} {ss pp : List Str} (n1 : ss.Nodup) (h1 : ∀ x, x ∈ ss ↔ Rch (e :: es) (bg e.1) x) (n2 : pp.Nodup) (h2 : ∀ x, x ∈ pp ↔ ∃ e' ∈ e :: es, bg e'.1 = x ∨ en e'.1 = x) :
  ss.length = pp.length ↔ ∀ e' ∈ e :: es, Rch (e :: es) (bg e.1) (bg e'.1) := by
 have sub : ∀ x ∈ ss, x ∈ pp := fun x hx => (h2 x).mpr ((h1 x).mp hx).pt
 constructor
 ·intro he e' he'
  exact (h1 _).mp (nd_all n1 sub he _ ((h2 _).mpr ⟨e', he', .inl rfl⟩))
 ·intro h
  have : ∀ x ∈ pp, x ∈ ss := fun x hx => by
   obtain ⟨e', he', q | q⟩ := (h2 x).mp hx
   ·rw [← q]
    exact (h1 _).mpr (h e' he')
   ·exact (h1 _).mpr (.step (h e' he') ⟨e', he', .inl ⟨rfl, q⟩⟩)
  have a := nd_le n1 sub
  have b := nd_le n2 this
  omega
theorem addK_or (F : List Str) (x : Str) : addK F x = F ∨ F.length < (addK F x).length := by
 unfold addK
 split
 ·exact .inl rfl
 ·right
  rw [List.length_append, List.length_singleton]
  omega
section
variable {P : Program} {w : World} {K : PySem.W.Frag} {mg : Str → Option Value} {base : Heap}
abbrev sHangs : Stmt := top 11
abbrev nHangs : List Str := ["H"]
theorem scHangs : FnScope nHangs ["H"] (defScope sHangs) := ⟨rfl, rfl, rfl, by decide +kernel, rfl, by decide +kernel, by decide +kernel⟩
def spHangs : Sp := fun vs H Q _ => ∃ (v : V) (e : Str × Int) (es : Es), vs = [v] ∧ HeapV H v (e :: es) ∧ Fine (e :: es) ∧ ∀ H' (b : Bool), Same H H' → (b = true ↔ ∀ e' ∈ e :: es, Rch (e :: es) (bg e.1) (bg e'.1)) → Q (.bl b) H'
theorem ok_hangs (D : HasDef K mg "hangs" sHangs ["H"]) (B : Blt mg) (G_part_of : FOk P w K mg base 3 "part_of" ["H"] spPart) (G_points_of : FOk P w K mg base 3 "points_of" ["H"] spPoints) : FOk P w K mg base 4 "hangs" ["H"] spHangs := by
 refine D.ok scHangs (fun vs H Q E h => ?_) (fun f cdv A outer s H vs Q E hr h => ?_)
 ·obtain ⟨v, e, es, rfl, _⟩ := h
  rfl
 ·obtain ⟨v, e, es, rfl, hV, hF, k⟩ := h
  refine ⟨_, (pss_one (ps_ret (pe_cmpR op_eq (pe_callB call_len rfl B.len b_len (pa_cons (pe_fn G_part_of hr (pa_cons (pv 0) pa_nil)) pa_nil)) (pe_callB call_len rfl B.len b_len (pa_cons (pe_fn G_points_of hr (pa_cons (pv 0) pa_nil)) pa_nil)) (nomark _)))), ?_⟩
  refine ⟨_, rfl, v, e, es, rfl, hV, hF, fun v1 H1 ss s1 ht1 hs1 hl1 hm1 => ?_⟩
  obtain ⟨q1, rfl, hq1⟩ := id ht1
  refine ⟨.ref q1, ss.length, rfl, .inr ⟨_, SqT.of hq1, by rw [List.length_map]⟩, _, rfl, v, e :: es, rfl, hV.same s1, hF, fun v2 H2 pp s2 ht2 hp2 => ?_⟩
  obtain ⟨q2, rfl, hq2⟩ := id ht2
  refine ⟨.ref q2, pp.length, rfl, .inr ⟨_, SqT.of hq2, by rw [List.length_map]⟩, ?_⟩
  refine ⟨rfl, k _ _ (s1.trans s2) ?_⟩
  rw [dec_int, ← hang_iff (nd_of_lt hs1) hm1 hp2.pts.nd hp2.pts.mem, beq_iff_eq]
  exact ⟨fun z => by omega, fun z => by rw [z]⟩
end
theorem rep_strs {H : Hp} : ∀ ps : List Str, RepA H (ps.map PyData.str) (ps.map V.str)
 | [] => by rw [List.map_nil, RepA]; rfl
 | p :: ps => by
  rw [List.map_cons, RepA]
  exact ⟨.str p, ps.map V.str, rfl, by rw [RepD], rep_strs ps⟩
theorem rep_slist {H : Hp} {a : Addr} {ps : List Str} (h : H a = some (.lst (ps.map V.str))) : RepD H (.list (ps.map PyData.str)) (.ref a) := by
 rw [RepD]
 exact ⟨a, _, rfl, h, rep_strs ps⟩
theorem rep_stup {H : Hp} {v : V} {ps : List Str} (h : TupS H v ps) : RepD H (.tuple (ps.map PyData.str)) v := by
 obtain ⟨q, rfl, hq⟩ := h
 rw [RepD]
 exact ⟨q, _, rfl, hq, rep_strs ps⟩
theorem flat_strs {ps : List Str} (h : ps.length ≤ 1000) : Flat 1 (.tuple (ps.map PyData.str)) := by
 refine .tup 0 _ (fun d hd => ?_) (by rw [List.length_map]; exact h)
 obtain ⟨e, _, rfl⟩ := List.mem_map.mp hd
 exact .str 0 _
theorem strOk_cd {x : Str} (h : Cd x.cps.toList) : PyData.strOk x = true := by
 unfold PyData.strOk
 rw [← Array.all_toList, List.all_eq_true]
 intro c hc
 have := h c hc
 exact decide_eq_true (by omega)
theorem lay_strs : ∀ ps : List Str, (∀ p ∈ ps, PyData.strOk p = true) → PyData.canLayAll0 (ps.map PyData.str) = true
 | [], _ => by simp [PyData.canLayAll0]
 | p :: ps, h => by
  rw [List.map_cons, PyData.canLayAll0, lay_strs ps fun q hq => h q (List.mem_cons_of_mem _ hq)]
  simp [PyData.canLay0, h p List.mem_cons_self]
theorem depth_strs : ∀ ps : List Str, PyData.depthAll (ps.map PyData.str) = 0
 | [] => by simp [PyData.depthAll]
 | p :: ps => by
  rw [List.map_cons, PyData.depthAll, depth_strs ps]
  simp [PyData.depth]
theorem shaped_strs {ps : List Str} (h : ∀ p ∈ ps, PyData.strOk p = true) : SeqAt.shaped (.list (ps.map PyData.str)) = true := by
 unfold SeqAt.shaped
 rw [Bool.and_eq_true]
 constructor
 ·rw [PyData.canLay0]
  exact lay_strs ps h
 ·refine decide_eq_true ?_
  rw [PyData.depth, depth_strs ps]
  decide
theorem eqv_strs (ps : List Str) : PyData.eqv (.list (ps.map PyData.str)) (.list ([].map PyData.str)) = ps.isEmpty := by
 cases ps with
 | nil => simp [PyData.eqv, PyData.eqvAll]
 | cons n r => simp [PyData.eqv, PyData.eqvAll]
theorem strs_fil {vs : List V} {es : Es} {l : List Nat} (hl : vs.length = l.length) (hb : ∀ i ∈ l, i < es.length) (hR : ∀ (j i : Nat) (v : V), l[j]? = some i → vs[j]? = some v → v = .str (es.getD i ("", 0)).1) : ∃ ps : List Str, vs = ps.map V.str ∧ (∀ p ∈ ps, ∃ e ∈ es, p = e.1) ∧ ps.length = l.length := by
 refine ⟨l.map fun i => (es.getD i ("", 0)).1, List.ext_getElem? fun j => ?_, fun p hp => ?_, List.length_map ..⟩
 ·by_cases hj : j < vs.length
  ·have hj' : j < l.length := by omega
   rw [List.getElem?_eq_getElem hj, hR j l[j] vs[j] (List.getElem?_eq_getElem hj') (List.getElem?_eq_getElem hj), List.getElem?_map, List.getElem?_map, List.getElem?_eq_getElem hj']
   rfl
  ·rw [List.getElem?_eq_none (by omega), List.getElem?_eq_none (by simp only [List.length_map]; omega)]
 ·obtain ⟨i, hi, rfl⟩ := List.mem_map.mp hp
  have := hb i hi
  refine ⟨es[i], List.getElem_mem this, ?_⟩
  rw [List.getD_eq_getElem?_getD, List.getElem?_eq_getElem this]
  rfl
section
variable {P : Program} {w : World} {K : PySem.W.Frag} {mg : Str → Option Value} {base : Heap}
end
noncomputable abbrev nV (i : Nat) : V := V.int (i : Int)
def TieAt (H : Hp) (b : Addr) (t : Str × Str) : Prop := ∃ s : Str, H b = some (.tup [.str t.1, .str s, .str t.2])
def TyA (H : Hp) (vs : List V) (ts : Ts) : Prop := vs.length = ts.length ∧ ∀ (i : Nat) (t : Str × Str), ts[i]? = some t → ∃ b, vs[i]? = some (.ref b) ∧ TieAt H b t
def TiesV (H : Hp) (v : V) (ts : Ts) : Prop := ∃ a vs, v = .ref a ∧ SeqAt' H a vs ∧ TyA H vs ts
theorem TyA.same {H H' : Hp} {vs : List V} {ts : Ts} (h : TyA H vs ts) (s : Same H H') : TyA H' vs ts := ⟨h.1, fun i t e => by
 obtain ⟨b, e1, m, e2⟩ := h.2 i t e
 exact ⟨b, e1, m, s _ _ e2⟩⟩
theorem TiesV.same {H H' : Hp} {v : V} {ts : Ts} (h : TiesV H v ts) (s : Same H H') : TiesV H' v ts := by
 obtain ⟨a, vs, e, h1, h2⟩ := h
 exact ⟨a, vs, e, h1.same s, h2.same s⟩
theorem TyA.at {H : Hp} {vs : List V} {ts : Ts} (h : TyA H vs ts) {i : Nat} (hi : i < ts.length) : ∃ b s, atI vs (i : Int) = some (.ref b) ∧ H b = some (.tup [.str (frm ts i), .str s, .str (tow ts i)]) := by
 obtain ⟨b, e1, s, e2⟩ := h.2 i ts[i] (List.getElem?_eq_getElem hi)
 refine ⟨b, s, atI_nat' e1, ?_⟩
 unfold frm tow
 rw [List.getD_eq_getElem?_getD, List.getElem?_eq_getElem hi]
 exact e2
theorem at_last {xs : List V} {v : V} : atI (xs ++ [v]) (-1) = some v := by
 unfold atI ixN
 rw [if_neg (by decide), if_pos (by rw [List.length_append, List.length_singleton]; omega)]
 simp only [Option.bind_some, List.length_append, List.length_singleton]
 rw [show ((-1 : Int) + ((xs.length + 1 : Nat) : Int)).toNat = xs.length by omega]
 simp
structure NJ (H H2 : Hp) (d : Addr) (ks : List Str) (adr : Str → Addr) (r : Str → List Nat) : Prop where
 sm : Same H H2
 dn : H d = none
 dd : H2 d = some (.dK (rD ks adr))
 nd : ks.Nodup
 row : ∀ P ∈ ks, H2 (adr P) = some (.lst ((r P).map nV))
 fresh : ∀ P ∈ ks, H (adr P) = none
 inj : ∀ P ∈ ks, ∀ P' ∈ ks, adr P = adr P' → P = P'
 out : ∀ P, P ∉ ks → r P = []
noncomputable def addN (r : Str → List Nat) (P : Str) (y : Nat) : Str → List Nat := fun x => if x = P then r P ++ [y] else r x
theorem NJ.ne {H H2 : Hp} {d : Addr} {ks : List Str} {adr : Str → Addr} {r : Str → List Nat} (J : NJ H H2 d ks adr r) {P : Str} (hP : P ∈ ks) : adr P ≠ d := fun e => by
 have := J.row P hP
 rw [e, J.dd] at this
 cases this
theorem NJ.old {H H2 : Hp} {d p : Addr} {ks : List Str} {adr : Str → Addr} {r : Str → List Nat} (J : NJ H H2 d ks adr r) {P : Str} {y : Nat} (hP : P ∈ ks) (hp : H2 p = none) :
  NJ H (upd (upd H2 p (.lst [])) (adr P) (.lst ((r P).map nV ++ [nV y]))) d (addK ks P) adr (addN r P y) := by
 have ek : addK ks P = ks := by unfold addK; rw [if_pos hP]
 rw [ek]
 have s1 := same_upd_new (o := .lst []) hp
 refine ⟨fun b u hb => ?_, J.dn, ?_, J.nd, fun Q hQ => ?_, J.fresh, J.inj, fun Q hQ => ?_⟩
 ·rw [upd_ne fun e => by rw [e, J.fresh P hP] at hb; cases hb]
  exact s1 _ _ (J.sm b u hb)
 ·rw [upd_ne (Ne.symm (J.ne hP))]
  exact s1 _ _ J.dd
 ·unfold addN
  by_cases c : Q = P
  ·subst c
   rw [upd_same, if_pos rfl, List.map_append]
   rfl
  ·rw [if_neg c, upd_ne fun e => c (J.inj Q hQ P hP e)]
   exact s1 _ _ (J.row Q hQ)
 ·unfold addN
  rw [if_neg (fun e : Q = P => hQ (e ▸ hP))]
  exact J.out Q hQ
theorem NJ.new {H H2 : Hp} {d p : Addr} {ks : List Str} {adr : Str → Addr} {r : Str → List Nat} (J : NJ H H2 d ks adr r) {P : Str} {y : Nat} (hP : P ∉ ks) (hp : H2 p = none) :
  NJ H (upd (upd (upd H2 p (.lst [])) d (.dK (rD (ks ++ [P]) fun x => if x = P then p else adr x))) p (.lst ([] ++ [nV y]))) d (addK ks P) (fun x => if x = P then p else adr x) (addN r P y) := by
 have ek : addK ks P = ks ++ [P] := by unfold addK; rw [if_neg hP]
 rw [ek]
 have hpd : d ≠ p := fun e => by rw [← e, J.dd] at hp; cases hp
 have hpa : ∀ Q ∈ ks, adr Q ≠ p := fun Q hQ e => by have := J.row Q hQ; rw [e, hp] at this; cases this
 have mm : ∀ Q, Q ∈ ks ++ [P] → Q ∈ ks ∨ Q = P := fun Q h => by simpa using h
 refine ⟨fun b u hb => ?_, J.dn, ?_, ?_, fun Q hQ => ?_, fun Q hQ => ?_, fun Q hQ Q' hQ' e => ?_, fun Q hQ => ?_⟩
 ·have h2 := J.sm b u hb
  rw [upd_ne (ne_of_none h2 hp), upd_ne (ne_of_none hb J.dn), upd_ne (ne_of_none h2 hp)]
  exact h2
 ·rw [upd_ne hpd, upd_same]
 ·exact List.nodup_append.mpr ⟨J.nd, by simp, fun a ha b hb e => by rw [List.mem_singleton.mp hb] at e; subst e; exact hP ha⟩
 ·unfold addN
  by_cases c : Q = P
  ·subst c
   rw [if_pos rfl, if_pos rfl, upd_same, J.out Q hP]
   rfl
  ·rw [if_neg c, if_neg c]
   have hQ' : Q ∈ ks := (mm Q hQ).resolve_right c
   rw [upd_ne (hpa Q hQ'), upd_ne (J.ne hQ'), upd_ne (hpa Q hQ')]
   exact J.row Q hQ'
 ·skip
  by_cases c : Q = P
  ·rw [if_pos c]
   cases hh : H p with
   | none => rfl
   | some u => have := J.sm p u hh; rw [hp] at this; cases this
  ·rw [if_neg c]
   exact J.fresh Q ((mm Q hQ).resolve_right c)
 ·skip
  by_cases c : Q = P
  ·by_cases c' : Q' = P
   ·rw [c, c']
   ·rw [if_pos c, if_neg c'] at e
    exact absurd e.symm (hpa Q' ((mm Q' hQ').resolve_right c'))
  ·by_cases c' : Q' = P
   ·rw [if_neg c, if_pos c'] at e
    exact absurd e (hpa Q ((mm Q hQ).resolve_right c))
   ·rw [if_neg c, if_neg c'] at e
    exact J.inj Q ((mm Q hQ).resolve_right c) Q' ((mm Q' hQ').resolve_right c') e
 ·have h1 : Q ∉ ks := fun z => hQ (List.mem_append_left _ z)
  have h2 : ¬ Q = P := fun z => hQ (by simp [z])
  unfold addN
  rw [if_neg h2]
  exact J.out Q h1
def NoR (H : Hp) (v : V) (d : Addr) (ts : Ts) (j : Nat) : L2.St → Hp → Prop := fun σ H2 => (∃ z2 : Option V, σ = [some v, some (.ref d), z2]) ∧ ∃ ks adr r, NJ H H2 d ks adr r ∧ ks.length ≤ j ∧ ∀ P, r P = ((List.range' (ts.length - j) j).filter fun i => decide (frm ts i = P)).reverse
section
variable {P : Program} {w : World} {K : PySem.W.Frag} {mg : Str → Option Value} {base : Heap}
abbrev sNumbersOut : Stmt := top 13
noncomputable abbrev nNumbersOut : List Str := ["ties", "numbers", "number"]
theorem scNumbersOut : FnScope nNumbersOut ["ties"] (defScope sNumbersOut) := ⟨rfl, rfl, rfl, by decide +kernel, rfl, by decide +kernel, by decide +kernel⟩
def spOut : Sp := fun vs H Q _ => ∃ (v : V) (ts : Ts), vs = [v] ∧ TiesV H v ts ∧ ts.length ≤ 400 ∧ ∀ d H' ks adr, NJ H H' d ks adr (rows ts) → Q (.ref d) H'
set_option maxHeartbeats 8000000 in
theorem ok_numbers_out (D : HasDef K mg "numbers_out" sNumbersOut ["ties"]) (B : Blt mg) : FOk P w K mg base 1 "numbers_out" ["ties"] spOut := by
 refine D.ok scNumbersOut (fun vs H Q E h => ?_) (fun f cdv A outer s H vs Q E hr h => ?_)
 ·obtain ⟨v, ts, rfl, _⟩ := h
  rfl
 ·obtain ⟨v, ts, rfl, hV, hlen, k⟩ := h
  obtain ⟨a, vs, rfl, hs, hty⟩ := id hV
  refine ⟨_, (pss_cons (ps_set (i := 1) scNumbersOut.nd rfl (Or.inl rfl) pe_dnewK)
   (pss_cons (ps_for PassesOwn.never rfl (pi_rangeD rfl B.range (pa_cons (pe_op op_sub (pe_callB call_len rfl B.len b_len (pa_cons (pv 0) pa_nil)) pe_int) (pa_cons (pe_un un_neg pe_int) (pa_cons (pe_un un_neg pe_int) pa_nil)))) (pg_name (i := 2) scNumbersOut.nd rfl (Or.inl rfl))
    (pss_one (ps_expr (pe_bm F.plainAttrs_list F.slot_list_append F.type_list_append mt_appendR (pe_dset (pv 1) (pe_ix ix_tup (pe_ix (ix_seqK K) (pv 0) (pv 2) (fun _ _ => rfl)) pe_int (fun _ _ => rfl)) (pe_lst pa_nil) ⟨rfl, rfl, rfl, rfl⟩) (pa_cons (pv 2) pa_nil)))))
   (pss_one (ps_ret (pv 1))))), ?_⟩
  intro d hd
  have s1 := same_upd_new (o := .dK []) hd
  have hvl := hty.1
  refine ⟨_, rfl, .ref a, _, rfl, len_seq (hs.same s1), _, _, rfl, rfl, _, rfl, _, rfl, _, _, rfl, ⟨by omega, by omega, by decide, by decide⟩, ?_⟩
  rw [show ((vs.length : Int) - 1 - (-1)).toNat = ts.length by omega]
  refine for_rangeD (fun j σ H2 => NoR H (.ref a) d ts j σ H2) ⟨⟨none, rfl⟩, [], fun _ => d, fun _ => [], ⟨s1, hd, upd_same, List.nodup_nil, (fun P h => by cases h), (fun P h => by cases h), (fun P h => by cases h), fun _ _ => rfl⟩, Nat.le_refl _, fun P => by simp⟩ ?_ ?_
  ·rintro j σ H2 hj ⟨⟨z2, rfl⟩, ks, adr, r, J, hkl, hr2⟩
   have hi : ts.length - 1 - j < ts.length := by omega
   obtain ⟨b, sg, e1, e2⟩ := hty.at hi
   have ej : ((vs.length : Int) - 1 - (j : Int)) = ((ts.length - 1 - j : Nat) : Int) := by omega
   have hrl : ∀ P, (r P).length ≤ j := fun P => by
    rw [hr2, List.length_reverse]
    have := List.length_filter_le (fun i => decide (frm ts i = P)) (List.range' (ts.length - j) j)
    rw [List.length_range'] at this
    exact this
   have eR : List.range' (ts.length - (j + 1)) (j + 1) = (ts.length - 1 - j) :: List.range' (ts.length - j) j := by
    rw [List.range'_succ, show ts.length - (j + 1) = ts.length - 1 - j by omega, show ts.length - 1 - j + 1 = ts.length - j by omega]
   have fin : ∀ H4 adr4, NJ H H4 d (addK ks (frm ts (ts.length - 1 - j))) adr4 (addN r (frm ts (ts.length - 1 - j)) (ts.length - 1 - j)) → NoR H (.ref a) d ts (j + 1) [some (.ref a), some (.ref d), some (.int ((vs.length : Int) - 1 - (j : Int)))] H4 := fun H4 adr4 J4 => by
    refine ⟨⟨_, rfl⟩, _, adr4, _, J4, ?_, fun P => ?_⟩
    ·have := addK_len ks (frm ts (ts.length - 1 - j))
     omega
    ·rw [eR, List.filter_cons]
     unfold addN
     by_cases c : P = frm ts (ts.length - 1 - j)
     ·rw [if_pos c, if_pos (decide_eq_true c.symm), List.reverse_cons, ← c, hr2]
     ·rw [if_neg c, if_neg (fun z => c (of_decide_eq_true z).symm), hr2]
   refine ⟨_, rfl, d, rfl, .inl ⟨_, .inl J.dd⟩, _, rfl, _, rfl, ?_⟩
   rw [ej]
   refine seq_ix ((hs.same J.sm)) e1 ⟨b, _, 0, .str (frm ts (ts.length - 1 - j)), rfl, rfl, SqT.of (J.sm _ _ e2), rfl, few_size (show 0 ≤ 1000 by decide), fun p hp => ?_⟩
   rw [← ej]
   refine ⟨_, Sum.inr (frm ts (ts.length - 1 - j)), same_upd_new hp _ _ J.dd, rfl, by rw [rD_len]; exact small1000 (by omega), fun v hv => ?_, fun hv => ?_⟩
   ·rw [rD_val] at hv
    by_cases c : frm ts (ts.length - 1 - j) ∈ ks
    ·rw [if_pos c] at hv
     cases hv
     have hrow := same_upd_new (o := .lst []) hp _ _ (J.row _ c)
     refine ⟨.inl ⟨rfl, _, SqL.of hrow⟩, _, rfl, adr _, _, .int ((vs.length : Int) - 1 - (j : Int)), rfl, rfl, hrow, ?_, ?_⟩
     ·rw [List.length_map]
      have := hrl (frm ts (ts.length - 1 - j))
      exact small1000 (by omega)
     ·have := fin _ _ (J.old (y := ts.length - 1 - j) c hp)
      rw [ej] at this ⊢
      exact this
    ·rw [if_neg c] at hv
     cases hv
   ·rw [rD_val] at hv
    by_cases c : frm ts (ts.length - 1 - j) ∈ ks
    ·rw [if_pos c] at hv
     cases hv
    ·have hpd : p ≠ d := fun e => by rw [e, J.dd] at hp; cases hp
     rw [rD_new c]
     have hl : (upd (upd H2 p (.lst [])) d (.dK (rD (ks ++ [frm ts (ts.length - 1 - j)]) fun x => if x = frm ts (ts.length - 1 - j) then p else adr x))) p = some (.lst []) := by rw [upd_ne hpd, upd_same]
     refine ⟨.inl ⟨rfl, _, SqL.of hl⟩, _, rfl, p, [], .int ((vs.length : Int) - 1 - (j : Int)), rfl, rfl, hl, small1000 (by decide), ?_⟩
     have := fin _ _ (J.new (y := ts.length - 1 - j) c hp)
     rw [ej] at this ⊢
     exact this
  ·rintro σ H2 ⟨⟨z2, rfl⟩, ks, adr, r, J, hkl, hr2⟩
   have er : r = rows ts := funext fun P => by
    rw [hr2, Nat.sub_self]
    unfold rows
    rw [List.range_eq_range']
   rw [er] at J
   exact ⟨_, rfl, k d H2 ks adr J⟩
def TupN (H : Hp) (v : V) (X : List Nat) : Prop := ∃ q, v = .ref q ∧ H q = some (.tup (X.map nV))
theorem ch_pre {ts : Ts} {u : Str} : ∀ {Y X : List Nat}, (∃ v, Ch ts u (X ++ Y) v) → ∃ v, Ch ts u X v
 | [], X, h => by rw [List.append_nil] at h; exact h
 | y :: Y, X, h => by
  rw [show X ++ y :: Y = (X ++ [y]) ++ Y by simp] at h
  obtain ⟨v, h⟩ := ch_pre (Y := Y) h
  exact ⟨_, h.pop.1⟩
theorem Ch.det {ts : Ts} {u v w : Str} {X : List Nat} (h : Ch ts u X v) (h' : Ch ts u X w) : v = w := by
 induction h with
 | nil u => cases h'; rfl
 | cons e h ih => cases h' with | cons e' h' => exact ih h'
abbrev sIsWay : Stmt := top 14
noncomputable abbrev nIsWay : List Str := ["ties", "begin", "numbers", "point", "number"]
theorem scIsWay : FnScope nIsWay ["ties", "begin", "numbers"] (defScope sIsWay) := ⟨rfl, rfl, rfl, by decide +kernel, rfl, by decide +kernel, by decide +kernel⟩
def spIsWay : Sp := fun vs H Q _ => ∃ (v x : V) (b : Str) (ts : Ts) (X : List Nat), vs = [v, .str b, x] ∧ TiesV H v ts ∧ TupN H x X ∧ (∀ i ∈ X, i < ts.length) ∧ ∀ c : Bool, (c = true ↔ X.length = ts.length ∧ ∃ f, Ch ts b X f) → Q (.bl c) H
set_option maxHeartbeats 8000000 in
theorem ok_is_way (D : HasDef K mg "is_way" sIsWay ["ties", "begin", "numbers"]) (B : Blt mg) : FOk P w K mg base 1 "is_way" ["ties", "begin", "numbers"] spIsWay := by
 refine D.ok scIsWay (fun vs H Q E h => ?_) (fun f cdv A outer s H vs Q E hr h => ?_)
 ·obtain ⟨v, x, b, ts, X, rfl, _⟩ := h
  rfl
 ·obtain ⟨v, x, b, ts, X, rfl, ⟨a, vs, rfl, hs, hty⟩, ⟨q, rfl, hq⟩, hX, k⟩ := h
  refine ⟨_, (pss_cons (ps_if (pt_cmpR op_ne (pe_callB call_len rfl B.len b_len (pa_cons (pv 2) pa_nil)) (pe_callB call_len rfl B.len b_len (pa_cons (pv 0) pa_nil)) (nomark _)) (pss_one (ps_ret pe_bl)) pss_nil)
   (pss_cons (ps_set (i := 3) scIsWay.nd rfl (Or.inl rfl) (pv 1))
   (pss_cons (ps_for PassesOwn.never rfl (pi_tup (pv 2)) (pg_name (i := 4) scIsWay.nd rfl (Or.inl rfl))
    (pss_cons (ps_if (pt_cmpR op_ne (pe_ix ix_tup (pe_ix (ix_seqK K) (pv 0) (pv 4) (fun _ _ => rfl)) pe_int (fun _ _ => rfl)) (pv 3) (nomark _)) (pss_one (ps_ret pe_bl)) pss_nil)
   (pss_one (ps_set (i := 3) scIsWay.nd rfl (Or.inl rfl) (pe_ix ix_tup (pe_ix (ix_seqK K) (pv 0) (pv 4) (fun _ _ => rfl)) pe_int (fun _ _ => rfl))))))
   (pss_one (ps_ret pe_bl))))), ?_⟩
  refine ⟨_, rfl, .ref q, _, rfl, .inr ⟨_, SqT.of hq, rfl⟩, _, rfl, .ref a, _, rfl, len_seq hs, rfl, _, rfl, ?_⟩
  rw [List.length_map, hty.1]
  by_cases cl : X.length = ts.length
  ·refine iteM (by rw [int_is (by rw [cl])]; rfl) ?_
   refine ⟨_, rfl, _, rfl, q, rfl, ⟨_, SqT.of hq⟩, for_tup (K := K) (a := q) (xs := X.map nV) (fun i σ H2 => (∃ (pt : Str) (z : Option V), σ = [some (.ref a), some (.str b), some (.ref q), some (.str pt), z] ∧ Ch ts b (X.take i) pt) ∧ H2 = H)
    ⟨⟨b, none, rfl, .nil _⟩, rfl⟩ (fun i σ H2 _ ⟨_, e⟩ => by rw [e]; exact SqT.of hq) ?_ ?_⟩
   ·rintro i x σ H2 hi ⟨⟨pt, z, rfl, hc⟩, rfl⟩
    obtain ⟨hi', rfl⟩ := step_mapV hi
    have hin := hX X[i] (List.getElem_mem hi')
    obtain ⟨b0, sg, e1, e2⟩ := hty.at hin
    have etk : X.take (i + 1) = X.take i ++ [X[i]] := List.take_succ_eq_append_getElem hi'
    refine ⟨_, rfl, _, rfl, seq_ix hs e1 ⟨b0, _, 0, .str (frm ts X[i]), rfl, rfl, SqT.of e2, rfl, _, rfl, rfl, _, rfl, ?_⟩⟩
    by_cases cf : frm ts X[i] = pt
    ·refine iteM (by rw [cf]; simp) ?_
     refine ⟨_, rfl, _, rfl, seq_ix hs e1 ⟨b0, _, 2, .str (tow ts X[i]), rfl, rfl, SqT.of e2, rfl, ?_⟩⟩
     exact ⟨⟨tow ts X[i], _, rfl, by rw [etk]; exact hc.snoc cf⟩, rfl⟩
    ·refine iteP (by simp [cf]) (k false ⟨fun z => (by cases z), fun z => ?_⟩)
     obtain ⟨_, f, hf⟩ := z
     have := ch_pre (ts := ts) (u := b) (X := X.take (i + 1)) (Y := X.drop (i + 1)) ⟨f, by rw [List.take_append_drop]; exact hf⟩
     obtain ⟨f', hf'⟩ := this
     rw [etk] at hf'
     exact absurd (hf'.pop.1.det hc) cf
   ·rintro σ H2 ⟨⟨pt, z, rfl, hc⟩, rfl⟩
    rw [List.length_map, List.take_length] at hc
    exact k true ⟨fun _ => ⟨cl, pt, hc⟩, fun _ => rfl⟩
  ·refine iteP (by rw [int_ne (by omega)]; rfl) (k false ⟨fun z => (by cases z), fun z => absurd z.1 cl⟩)
end
structure WJ (H : Hp) (d g bk : Addr) (ks : List Str) (adr : Str → Addr) (H4 : Hp) (r : Str → List Nat) (G B : List Nat) : Prop where
 sm : Same H H4
 dd : H4 d = some (.dK (rD ks adr))
 row : ∀ P ∈ ks, H4 (adr P) = some (.lst ((r P).map nV))
 gg : H4 g = some (.lst (G.map nV))
 bb : H4 bk = some (.lst (B.map nV))
 gn : H g = none
 bn : H bk = none
 fresh : ∀ P ∈ ks, H (adr P) = none
 inj : ∀ P ∈ ks, ∀ P' ∈ ks, adr P = adr P' → P = P'
 ag : ∀ P ∈ ks, adr P ≠ g
 ab : ∀ P ∈ ks, adr P ≠ bk
 gb : g ≠ bk
 out : ∀ P, P ∉ ks → r P = []
theorem WJ.same {H H4 H5 : Hp} {d g bk : Addr} {ks : List Str} {adr : Str → Addr} {r : Str → List Nat} {G B : List Nat} (J : WJ H d g bk ks adr H4 r G B) (s : Same H4 H5) : WJ H d g bk ks adr H5 r G B where
 sm := J.sm.trans s
 dd := s _ _ J.dd
 row := fun P hP => s _ _ (J.row P hP)
 gg := s _ _ J.gg
 bb := s _ _ J.bb
 gn := J.gn
 bn := J.bn
 fresh := J.fresh
 inj := J.inj
 ag := J.ag
 ab := J.ab
 gb := J.gb
 out := J.out
theorem WJ.setRow {H H4 : Hp} {d g bk : Addr} {ks : List Str} {adr : Str → Addr} {r : Str → List Nat} {G B X : List Nat} {pt : Str} (J : WJ H d g bk ks adr H4 r G B) (hp : pt ∈ ks) : WJ H d g bk ks adr (upd H4 (adr pt) (.lst (X.map nV))) (setR r pt X) G B where
 sm := fun b u hb => by
  rw [upd_ne (ne_of_none hb (J.fresh pt hp))]
  exact J.sm b u hb
 dd := by
  rw [upd_ne (ne_of J.dd (J.row pt hp) (by simp))]
  exact J.dd
 row := fun P hP => by
  unfold setR
  by_cases c : P = pt
  ·subst c
   rw [if_pos rfl, upd_same]
  ·rw [if_neg c, upd_ne (fun e => c (J.inj P hP pt hp e))]
   exact J.row P hP
 gg := by
  rw [upd_ne (Ne.symm (J.ag pt hp))]
  exact J.gg
 bb := by
  rw [upd_ne (Ne.symm (J.ab pt hp))]
  exact J.bb
 gn := J.gn
 bn := J.bn
 fresh := J.fresh
 inj := J.inj
 ag := J.ag
 ab := J.ab
 gb := J.gb
 out := fun P hP => by
  unfold setR
  rw [if_neg (fun e : P = pt => hP (e ▸ hp))]
  exact J.out P hP
theorem WJ.setG {H H4 : Hp} {d g bk : Addr} {ks : List Str} {adr : Str → Addr} {r : Str → List Nat} {G B X : List Nat} (J : WJ H d g bk ks adr H4 r G B) : WJ H d g bk ks adr (upd H4 g (.lst (X.map nV))) r X B where
 sm := fun b u hb => by
  rw [upd_ne (ne_of_none hb J.gn)]
  exact J.sm b u hb
 dd := by
  rw [upd_ne (ne_of J.dd J.gg (by simp))]
  exact J.dd
 row := fun P hP => by
  rw [upd_ne (J.ag P hP)]
  exact J.row P hP
 gg := upd_same
 bb := by
  rw [upd_ne (Ne.symm J.gb)]
  exact J.bb
 gn := J.gn
 bn := J.bn
 fresh := J.fresh
 inj := J.inj
 ag := J.ag
 ab := J.ab
 gb := J.gb
 out := J.out
theorem WJ.setB {H H4 : Hp} {d g bk : Addr} {ks : List Str} {adr : Str → Addr} {r : Str → List Nat} {G B X : List Nat} (J : WJ H d g bk ks adr H4 r G B) : WJ H d g bk ks adr (upd H4 bk (.lst (X.map nV))) r G X where
 sm := fun b u hb => by
  rw [upd_ne (ne_of_none hb J.bn)]
  exact J.sm b u hb
 dd := by
  rw [upd_ne (ne_of J.dd J.bb (by simp))]
  exact J.dd
 row := fun P hP => by
  rw [upd_ne (J.ab P hP)]
  exact J.row P hP
 gg := by
  rw [upd_ne J.gb]
  exact J.gg
 bb := upd_same
 gn := J.gn
 bn := J.bn
 fresh := J.fresh
 inj := J.inj
 ag := J.ag
 ab := J.ab
 gb := J.gb
 out := J.out
theorem WJ.got {H H4 : Hp} {d g bk p : Addr} {ks : List Str} {adr : Str → Addr} {r : Str → List Nat} {G B : List Nat} (J : WJ H d g bk ks adr H4 r G B) (pt : Str) (hp : H4 p = none) : ∃ l, (valV (rD ks adr) (Sum.inr pt : Key)).getD (.ref p) = .ref l ∧ (upd H4 p (.lst [])) l = some (.lst ((r pt).map nV)) := by
 rw [rD_val]
 by_cases c : pt ∈ ks
 ·rw [if_pos c]
  exact ⟨_, rfl, same_upd_new hp _ _ (J.row pt c)⟩
 ·rw [if_neg c]
  exact ⟨p, rfl, by rw [upd_same, J.out pt c]; rfl⟩
section
variable {P : Program} {w : World} {K : PySem.W.Frag} {mg : Str → Option Value} {base : Heap}
abbrev sWayOf : Stmt := top 15
noncomputable abbrev nWayOf : List Str := ["ties", "begin", "left", "gone", "backwards", "point", "numbers"]
theorem scWayOf : FnScope nWayOf ["ties", "begin"] (defScope sWayOf) := ⟨rfl, rfl, rfl, by decide +kernel, rfl, by decide +kernel, by decide +kernel⟩
def spWay : Sp := fun vs H Q _ => ∃ (v : V) (b : Str) (ts : Ts), vs = [v, .str b] ∧ TiesV H v ts ∧ ts.length ≤ 400 ∧ (Eul ts b (wayX ts b) → ∀ x H', Same H H' → TupN H' x (wayX ts b) → Q x H') ∧ (¬ Good ts b → ∀ H', Same H H' → Q .non H')
set_option maxHeartbeats 16000000 in
theorem ok_way_of (D : HasDef K mg "way_of" sWayOf ["ties", "begin"]) (B : Blt mg) (G_numbers_out : FOk P w K mg base 1 "numbers_out" ["ties"] spOut) (G_is_way : FOk P w K mg base 1 "is_way" ["ties", "begin", "numbers"] spIsWay) : FOk P w K mg base 2 "way_of" ["ties", "begin"] spWay := by
 refine D.ok scWayOf (fun vs H Q E h => ?_) (fun f cdv A outer s H vs Q E hr h => ?_)
 ·obtain ⟨v, b, ts, rfl, _⟩ := h
  rfl
 ·obtain ⟨v, b, ts, rfl, hV, hlen, k1, k2⟩ := h
  have hu := hu_of hr
  obtain ⟨a, vs, rfl, hs, hty⟩ := id hV
  refine ⟨_, (pss_cons (ps_set (i := 2) scWayOf.nd rfl (Or.inl rfl) (pe_fn G_numbers_out hr (pa_cons (pv 0) pa_nil)))
   (pss_cons (ps_set (i := 3) scWayOf.nd rfl (Or.inl rfl) (pe_lst pa_nil))
   (pss_cons (ps_set (i := 4) scWayOf.nd rfl (Or.inl rfl) (pe_lst pa_nil))
   (pss_cons (ps_set (i := 5) scWayOf.nd rfl (Or.inl rfl) (pv 1))
   (pss_cons (ps_while PassesOwn.never (PW.pt (pw_or (pt_cmpR op_gt (pe_callB call_len rfl B.len b_len (pa_cons (pe_dget2 hu (pv 2) (pv 5) (pe_lst pa_nil) ⟨rfl, rfl, rfl, rfl⟩) pa_nil)) pe_int (nomark _)) (pw_or1 (pt_cmpR op_gt (pe_callB call_len rfl B.len b_len (pa_cons (pv 3) pa_nil)) pe_int (nomark _)))))
    (pss_one (ps_if (pt_cmpR op_gt (pe_callB call_len rfl B.len b_len (pa_cons (pe_dget2 hu (pv 2) (pv 5) (pe_lst pa_nil) ⟨rfl, rfl, rfl, rfl⟩) pa_nil)) pe_int (nomark _)) (pss_cons (ps_expr (pe_bm F.plainAttrs_list F.slot_list_append F.type_list_append mt_appendR (pv 3) (pa_cons (pe_bm0 F.plainAttrs_list F.slot_list_pop F.type_list_pop mt_popR (pe_dget hu (pv 2) (pv 5) (fun _ _ => rfl))) pa_nil)))
   (pss_one (ps_set (i := 5) scWayOf.nd rfl (Or.inl rfl) (pe_ix ix_tup (pe_ix (ix_seqK K) (pv 0) (pe_ix ix_list (pv 3) (pe_un un_neg pe_int) (fun _ _ => rfl)) (fun _ _ => rfl)) pe_int (fun _ _ => rfl))))) (pss_cons (ps_expr (pe_bm F.plainAttrs_list F.slot_list_append F.type_list_append mt_appendR (pv 4) (pa_cons (pe_bm0 F.plainAttrs_list F.slot_list_pop F.type_list_pop mt_popR (pv 3)) pa_nil)))
   (pss_one (ps_set (i := 5) scWayOf.nd rfl (Or.inl rfl) (pe_ix ix_tup (pe_ix (ix_seqK K) (pv 0) (pe_ix ix_list (pv 4) (pe_un un_neg pe_int) (fun _ _ => rfl)) (fun _ _ => rfl)) pe_int (fun _ _ => rfl))))))))
   (pss_cons (ps_set (i := 6) scWayOf.nd rfl (Or.inl rfl) (pe_callTy call_tuple_of rfl B.tuple b_tuple (pa_cons (pe_rev (pv 4) (pe_un un_neg pe_int)) pa_nil)))
   (pss_cons (ps_if (pt_val (pe_fn G_is_way hr (pa_cons (pv 0) (pa_cons (pv 1) (pa_cons (pv 6) pa_nil))))) (pss_one (ps_ret (pv 6))) pss_nil)
   (pss_one (ps_ret pe_non))))))))), ?_⟩
  refine ⟨_, rfl, .ref a, ts, rfl, hV, hlen, fun d H1 ks adr J => ?_⟩
  refine ⟨few_size (show 0 ≤ 1000 by decide), fun g hg => ?_⟩
  refine ⟨few_size (show 0 ≤ 1000 by decide), fun bk hbk => ?_⟩
  have hgb : g ≠ bk := fun e => by rw [← e, upd_same] at hbk; cases hbk
  have hbk1 : H1 bk = none := by rw [upd_ne (Ne.symm hgb)] at hbk; exact hbk
  have W0 : WJ H d g bk ks adr (upd (upd H1 g (.lst [])) bk (.lst [])) (rows ts) [] [] := by
   have ss := (same_upd_new (o := .lst []) hg).trans (same_upd_new (o := .lst []) hbk)
   exact ⟨J.sm.trans ss, ss _ _ J.dd, fun P hP => ss _ _ (J.row P hP), by rw [upd_ne hgb, upd_same]; rfl, upd_same, J.sm.free hg, J.sm.free hbk1, J.fresh, J.inj, (fun P hP e => by have := J.row P hP; rw [e, hg] at this; cases this), (fun P hP e => by have := J.row P hP; rw [e, hbk1] at this; cases this), hgb, J.out⟩
  generalize upd (upd H1 g (.lst [])) bk (.lst []) = H3 at W0
  refine ⟨_, rfl, ?_⟩
  try dsimp only [gName]
  show tSeq (tWhile _ _) _ _ _ _
  refine seq_any (fun σ H4 => ∃ (pt : Str) (r : Str → List Nat) (BB : List Nat), σ = [some (.ref a), some (.str b), some (.ref d), some (.ref g), some (.ref bk), some (.str pt), none] ∧ WJ H d g bk ks adr H4 r [] BB ∧ WI ts b pt r [] BB ∧ r pt = [] ∧ BB.reverse = wayX ts b) (fun R hR => ?_) ?_
  ·refine ⟨fun m σ H4 => ∃ (pt : Str) (r : Str → List Nat) (G BB : List Nat), σ = [some (.ref a), some (.str b), some (.ref d), some (.ref g), some (.ref bk), some (.str pt), none] ∧ WJ H d g bk ks adr H4 r G BB ∧ WI ts b pt r G BB ∧ m = 2 * (ts.length - (G.length + BB.length)) + G.length ∧ wlk ts m r pt G BB = wlk ts (2 * ts.length) (rows ts) b [] [],
    ⟨_, b, rows ts, [], [], rfl, W0, WI.start (rows_nd ts) (rows_mem ts), rfl, by simp⟩, ?_⟩
   rintro m σ H4 ⟨pt, r, G, BB, rfl, J4, hW, hm, hw⟩
   have hl4 := hW.len
   have hrl := hW.in_len pt
   refine ⟨_, rfl, d, rfl, .inl ⟨_, .inl J4.dd⟩, _, rfl, few_size (show 0 ≤ 1000 by decide), fun p hp => ?_⟩
   have s5 := same_upd_new (o := .lst []) hp
   obtain ⟨l, el, hl⟩ := J4.got pt hp
   have J5 := J4.same s5
   refine ⟨_, .inl ⟨_, Sum.inr pt, .inl J5.dd, rfl, rfl⟩, ?_⟩
   rw [el]
   generalize upd H4 p (.lst []) = H5 at J5 hl
   clear hp s5 el J4 H4
   refine ⟨.ref l, _, rfl, .inl ⟨_, SqL.of hl, rfl⟩, _, _, rfl, rfl, _, rfl, ?_⟩
   rw [List.length_map]
   rcases List.eq_nil_or_concat (r pt) with e0 | ⟨X, i, e0⟩
   ·refine iteM (by rw [e0]; simp) ?_
    refine ⟨_, rfl, .ref g, _, rfl, .inl ⟨_, SqL.of J5.gg, rfl⟩, _, _, rfl, rfl, _, rfl, ?_⟩
    rw [List.length_map]
    rcases List.eq_nil_or_concat G with rfl | ⟨X, i, rfl⟩
    ·refine iteM (by simp) (hR _ _ ⟨pt, r, BB, rfl, J5, hW, e0, ?_⟩)
     rw [walk_end e0] at hw
     unfold wayX
     rw [← hw]
    ·rw [List.concat_eq_append] at *
     refine iteP (by simp) ?_
     have hi : i < ts.length := hW.lt i (by simp)
     obtain ⟨b0, sg, f1, f2⟩ := hty.at hi
     rw [List.length_append, List.length_singleton] at hm hl4
     refine ⟨fun σ' H' => ∃ m', m' < m ∧ ∃ (pt : Str) (r : Str → List Nat) (G BB : List Nat), σ' = [some (.ref a), some (.str b), some (.ref d), some (.ref g), some (.ref bk), some (.str pt), none] ∧ WJ H d g bk ks adr H' r G BB ∧ WI ts b pt r G BB ∧ m' = 2 * (ts.length - (G.length + BB.length)) + G.length ∧ wlk ts m' r pt G BB = wlk ts (2 * ts.length) (rows ts) b [] [], fun _ _ z => z, ?_⟩
     refine ⟨_, rfl, d, rfl, .inl ⟨_, .inl J5.dd⟩, _, rfl, few_size (show 0 ≤ 1000 by decide), fun p hp => ?_⟩
     have s5 := same_upd_new (o := .lst []) hp
     obtain ⟨l', el, hl'⟩ := J5.got pt hp
     have J6 := J5.same s5
     refine ⟨_, .inl ⟨_, Sum.inr pt, .inl J6.dd, rfl, rfl⟩, ?_⟩
     rw [el]
     generalize upd H5 p (.lst []) = H6 at J6 hl'
     refine ⟨.ref l', _, rfl, .inl ⟨_, SqL.of hl', rfl⟩, _, _, rfl, rfl, _, rfl, ?_⟩
     rw [List.length_map]
     refine iteM (by rw [e0]; simp) ?_
     refine ⟨_, rfl, .inl ⟨rfl, _, SqL.of J6.bb⟩, _, rfl, .inl ⟨rfl, _, SqL.of J6.gg⟩, g, _, nV i, rfl, rfl, J6.gg, by simp, ?_⟩
     rw [show ((X ++ [i]).map nV).dropLast = X.map nV by rw [List.map_append, List.map_singleton, List.dropLast_concat]]
     have J7 := J6.setG (X := X)
     refine ⟨bk, _, nV i, rfl, rfl, J7.bb, by rw [List.length_map]; exact small1000 (by omega), ?_⟩
     rw [show BB.map nV ++ [nV i] = (BB ++ [i]).map nV by rw [List.map_append, List.map_singleton]]
     have J8 := J7.setB (X := BB ++ [i])
     refine ⟨_, rfl, _, rfl, _, rfl, bk, _, -1, nV i, rfl, rfl, SqL.of J8.bb, by rw [List.map_append, List.map_singleton]; exact at_last, ?_⟩
     refine seq_ix (hs.same J8.sm) f1 ⟨b0, _, 0, .str (frm ts i), rfl, rfl, SqT.of (J8.sm _ _ f2), rfl, ?_⟩
     refine ⟨2 * (ts.length - (X.length + (BB ++ [i]).length)) + X.length, ?_, frm ts i, r, X, BB ++ [i], rfl, J8, hW.pop e0, rfl, ?_⟩
     ·rw [List.length_append, List.length_singleton]
      omega
     ·rw [← hw, show m = 2 * (ts.length - (X.length + (BB ++ [i]).length)) + X.length + 1 by rw [List.length_append, List.length_singleton]; omega, walk_pop e0]
   ·rw [List.concat_eq_append] at e0
    refine iteP (by rw [e0]; simp) ?_
    refine iteP rfl ?_
    have hik : i ∈ r pt := by rw [e0]; simp
    have hpk : pt ∈ ks := Classical.byContradiction fun c => by rw [J5.out pt c] at hik; cases hik
    have hi : i < ts.length := ((hW.row pt i).mp hik).1
    obtain ⟨b0, sg, f1, f2⟩ := hty.at hi
    have hW2 := hW.push e0
    have hl5 := hW2.len
    rw [List.length_append, List.length_singleton] at hl5
    refine ⟨fun σ' H' => ∃ m', m' < m ∧ ∃ (pt : Str) (r : Str → List Nat) (G BB : List Nat), σ' = [some (.ref a), some (.str b), some (.ref d), some (.ref g), some (.ref bk), some (.str pt), none] ∧ WJ H d g bk ks adr H' r G BB ∧ WI ts b pt r G BB ∧ m' = 2 * (ts.length - (G.length + BB.length)) + G.length ∧ wlk ts m' r pt G BB = wlk ts (2 * ts.length) (rows ts) b [] [], fun _ _ z => z, ?_⟩
    refine ⟨_, rfl, d, rfl, .inl ⟨_, .inl J5.dd⟩, _, rfl, few_size (show 0 ≤ 1000 by decide), fun p hp => ?_⟩
    have s5 := same_upd_new (o := .lst []) hp
    obtain ⟨l', el, hl'⟩ := J5.got pt hp
    have J6 := J5.same s5
    refine ⟨_, .inl ⟨_, Sum.inr pt, .inl J6.dd, rfl, rfl⟩, ?_⟩
    rw [el]
    generalize upd H5 p (.lst []) = H6 at J6 hl'
    refine ⟨.ref l', _, rfl, .inl ⟨_, SqL.of hl', rfl⟩, _, _, rfl, rfl, _, rfl, ?_⟩
    rw [List.length_map]
    refine iteP (by rw [e0]; simp) ?_
    have hrow := J6.row pt hpk
    rw [e0] at hrow
    refine ⟨_, rfl, .inl ⟨rfl, _, SqL.of J6.gg⟩, _, rfl, _, rfl, d, .ref (adr pt), rfl, .inl ⟨_, Sum.inr pt, .inl J6.dd, rfl, by rw [rD_val, if_pos hpk]⟩, .inl ⟨rfl, _, SqL.of hrow⟩, adr pt, _, nV i, rfl, rfl, hrow, by simp, ?_⟩
    rw [show ((X ++ [i]).map nV).dropLast = X.map nV by rw [List.map_append, List.map_singleton, List.dropLast_concat]]
    have J7 := J6.setRow (X := X) hpk
    refine ⟨g, _, nV i, rfl, rfl, J7.gg, by rw [List.length_map]; exact small1000 (by omega), ?_⟩
    rw [show G.map nV ++ [nV i] = (G ++ [i]).map nV by rw [List.map_append, List.map_singleton]]
    have J8 := J7.setG (X := G ++ [i])
    refine ⟨_, rfl, _, rfl, _, rfl, g, _, -1, nV i, rfl, rfl, SqL.of J8.gg, by rw [List.map_append, List.map_singleton]; exact at_last, ?_⟩
    refine seq_ix (hs.same J8.sm) f1 ⟨b0, _, 2, .str (tow ts i), rfl, rfl, SqT.of (J8.sm _ _ f2), rfl, ?_⟩
    refine ⟨2 * (ts.length - ((G ++ [i]).length + BB.length)) + (G ++ [i]).length, ?_, tow ts i, setR r pt X, G ++ [i], BB, rfl, J8, hW2, rfl, ?_⟩
    ·rw [List.length_append, List.length_singleton]
     omega
    ·rw [← hw, show m = 2 * (ts.length - ((G ++ [i]).length + BB.length)) + (G ++ [i]).length + 1 by rw [List.length_append, List.length_singleton]; omega, walk_push e0]
  ·rintro σ H4 ⟨pt, r, BB, rfl, J4, hW, e0, ew⟩
   refine ⟨_, rfl, _, rfl, bk, _, rfl, SqL.of J4.bb, rfl, fun p hp => ?_⟩
   refine ⟨p, _, rfl, .inl ⟨SqL.of upd_same, fun l hl => ?_⟩⟩
   have s5 := (J4.sm.trans (same_upd_new (o := .lst (BB.map nV).reverse) hp)).trans (same_upd_new (o := .tup (BB.map nV).reverse) hl)
   have hT : TupN (upd (upd H4 p (.lst (BB.map nV).reverse)) l (.tup (BB.map nV).reverse)) (.ref l) (wayX ts b) := ⟨l, rfl, by rw [upd_same, ← ew, List.map_reverse]⟩
   refine ⟨_, rfl, _, rfl, _, rfl, .ref a, .ref l, b, ts, wayX ts b, rfl, hV.same s5, hT, fun i hi => ?_, fun c hc => ?_⟩
   ·rw [← ew, List.mem_reverse] at hi
    exact hW.lt i (by simpa using hi)
   ·refine ⟨_, rfl, ?_⟩
    cases c with
    | true =>
     obtain ⟨h1, f, h2⟩ := hc.mp rfl
     rw [← ew] at h1 h2
     rw [List.length_reverse] at h1
     have hE := hW.eul h1 h2
     rw [ew] at hE
     exact iteP rfl ⟨_, rfl, k1 hE _ _ s5 hT⟩
    | false =>
     refine iteM rfl (k2 (fun hg => ?_) _ s5)
     have hE := hW.done e0 hg
     rw [ew] at hE
     have := hc.mpr ⟨by rw [hE.1.length_eq, List.length_range], hE.2⟩
     cases this
end
end Sh
namespace L2
theorem mt_extendR {X : Cx} : MtR X "list.extend" rExtend := mt_extend
end L2
namespace Sh
open PySem L2 PyProof.Rows
seal L2.PE L2.PS L2.PSs L2.PT L2.PW L2.PA L2.PI L2.PG L2.PGs L2.PO L2.PC L2.PCs L2.OpR L2.UnR L2.CallR L2.MtR L2.IxR L2.SlR
structure Hpy (es : Es) (L : Nat) : Prop where
 fine : Fine es
 ne : es ≠ []
 len : ∀ e ∈ es, e.1.length = L
 l1 : 1 ≤ L
 l3 : L ≤ 300
 pos : ∀ e ∈ es, 1 ≤ e.2
 tot : (flatE es).length ≤ 350
 srt : ((es.map (·.1)).map fun x => x.cps.toList).Pairwise (· < ·)
 cd : ∀ e ∈ es, Cd e.1.cps.toList
theorem bg_len (x : Str) : (bg x).length = x.length - 1 := by
 unfold bg
 rw [tx_len, List.length_dropLast, len_codes]
theorem en_len (x : Str) : (en x).length = x.length - 1 := by
 unfold en
 rw [tx_len, List.length_drop, len_codes]
def TyS (H : Hp) (us : List V) (T : List Str) : Prop := us.length = T.length ∧ ∀ (i : Nat) (x : Str), T[i]? = some x → ∃ b, us[i]? = some (.ref b) ∧ H b = some (.tup [.str (bg x), .str (tx [lst x]), .str (en x)])
theorem TyS.same {H H' : Hp} {us : List V} {T : List Str} (h : TyS H us T) (s : TSame H H') : TyS H' us T := ⟨h.1, fun i x e => by
 obtain ⟨b, e1, e2⟩ := h.2 i x e
 exact ⟨b, e1, s _ _ e2⟩⟩
theorem TyS.rep {H : Hp} {us : List V} {T : List Str} (h : TyS H us T) {b : Addr} {x : Str} (hb : H b = some (.tup [.str (bg x), .str (tx [lst x]), .str (en x)])) (n : Nat) : TyS H (us ++ List.replicate n (.ref b)) (T ++ List.replicate n x) := by
 refine ⟨by simp [h.1], fun i y e => ?_⟩
 by_cases hi : i < T.length
 ·rw [List.getElem?_append_left hi] at e
  obtain ⟨c, e1, e2⟩ := h.2 i y e
  exact ⟨c, by rw [List.getElem?_append_left (by rw [h.1]; exact hi)]; exact e1, e2⟩
 ·rw [List.getElem?_append_right (by omega)] at e
  have hm := List.mem_of_getElem? e
  have hl := (List.getElem?_eq_some_iff.mp e).1
  rw [List.length_replicate] at hl
  rw [(List.mem_replicate.mp hm).2]
  refine ⟨b, ?_, hb⟩
  rw [List.getElem?_append_right (by rw [h.1]; omega), h.1, List.getElem?_replicate, if_pos hl]
theorem TyS.tyA {H : Hp} {us : List V} {es : Es} (h : TyS H us (flatE es)) : TyA H us (tsE es) := ⟨by rw [h.1, tsE_len], fun i t e => by
 unfold tsE at e
 rw [List.getElem?_map] at e
 cases hx : (flatE es)[i]? with
 | none => rw [hx] at e; cases e
 | some x =>
  rw [hx] at e
  cases e
  obtain ⟨b, e1, e2⟩ := h.2 i x hx
  exact ⟨b, e1, _, e2⟩⟩
theorem at_lastN {α : Type} {l : List α} {c : α} : atI (l ++ [c]) (-1) = some c := by
 unfold atI ixN
 rw [if_neg (by decide), if_pos (by rw [List.length_append, List.length_singleton]; omega)]
 simp only [Option.bind_some, List.length_append, List.length_singleton]
 rw [show ((-1 : Int) + ((l.length + 1 : Nat) : Int)).toNat = l.length by omega]
 simp
theorem lst_at {x : Str} (h : 1 ≤ x.length) : atI x.cps.toList (-1) = some (lst x) := by
 rw [bg_lst h]
 exact at_lastN
theorem flat_one {α : Type} (n : Nat) (a : α) : (List.replicate n [a]).flatten = List.replicate n a := by
 induction n with
 | zero => rfl
 | succ n ih => rw [List.replicate_succ, List.flatten_cons, ih, List.replicate_succ]; rfl
theorem flatE_take {es : Es} {n : Nat} : (flatE (es.take n)).length ≤ (flatE es).length := by
 have : flatE es = flatE (es.take n) ++ flatE (es.drop n) := by
  unfold flatE
  rw [← List.flatMap_append, List.take_append_drop]
 rw [this, List.length_append]
 omega
def WayV (H : Hp) (x : V) (ts : Ts) (b : Str) : Prop := (Eul ts b (wayX ts b) ∧ TupN H x (wayX ts b)) ∨ (¬ Good ts b ∧ x = .non)
theorem way_both {ts : Ts} {b : Str} {H : Hp} {Q : V → Hp → Prop} (h : ∀ x H', Same H H' → WayV H' x ts b → Q x H') : (Eul ts b (wayX ts b) → ∀ x H', Same H H' → TupN H' x (wayX ts b) → Q x H') ∧ (¬ Good ts b → ∀ H', Same H H' → Q .non H') :=
 ⟨fun e x H' s t => h x H' s (.inl ⟨e, t⟩), fun g H' s => h .non H' s (.inr ⟨g, rfl⟩)⟩
section
variable {P : Program} {w : World} {K : PySem.W.Frag} {mg : Str → Option Value} {base : Heap}
abbrev sTiesOf : Stmt := top 3
noncomputable abbrev nTiesOf : List Str := ["H", "ties", "piece", "many"]
theorem scTiesOf : FnScope nTiesOf ["H"] (defScope sTiesOf) := ⟨rfl, rfl, rfl, by decide +kernel, rfl, by decide +kernel, by decide +kernel⟩
def spTiesOf : Sp := fun vs H Q _ => ∃ (v : V) (es : Es) (L : Nat), vs = [v] ∧ HeapV H v es ∧ Hpy es L ∧ ∀ q us H', Same H H' → H' q = some (.lst us) → TyS H' us (flatE es) → Q (.ref q) H'
set_option maxHeartbeats 8000000 in
theorem ok_ties_of (D : HasDef K mg "ties_of" sTiesOf ["H"]) (G_begin_of : FOk P w K mg base 1 "begin_of" ["piece"] spBeg) (G_end_of : FOk P w K mg base 1 "end_of" ["piece"] spEnd) : FOk P w K mg base 2 "ties_of" ["H"] spTiesOf := by
 refine D.ok scTiesOf (fun vs H Q E h => ?_) (fun f cdv A outer s H vs Q E hr h => ?_)
 ·obtain ⟨v, es, L, rfl, _⟩ := h
  rfl
 ·obtain ⟨v, es, L, rfl, ⟨q, vs, rfl, hq, hpa⟩, hF, k⟩ := h
  refine ⟨_, (pss_cons (ps_set (i := 1) scTiesOf.nd rfl (Or.inl rfl) (pe_lst pa_nil))
   (pss_cons (ps_for PassesOwn.never rfl (pi_tup (pv 0)) (pg_tupK 2 K rfl (pgs_cons (pg_name (i := 2) scTiesOf.nd rfl (Or.inl rfl)) (pgs_cons (pg_name (i := 3) scTiesOf.nd rfl (Or.inl rfl)) pgs_nil)))
    (pss_one (ps_expr (pe_bm F.plainAttrs_list F.slot_list_extend F.type_list_extend mt_extendR (pv 1) (pa_cons (pe_op op_rep (pe_lst (pa_cons (pe_tup (pa_cons (pe_fn G_begin_of hr (pa_cons (pv 2) pa_nil)) (pa_cons (pe_ix ix_str (pv 2) (pe_un un_neg pe_int) (fun _ _ => rfl)) (pa_cons (pe_fn G_end_of hr (pa_cons (pv 2) pa_nil)) pa_nil)))) pa_nil)) (pv 3)) pa_nil)))))
   (pss_one (ps_ret (pv 1))))), ?_⟩
  refine ⟨few_size (show 0 ≤ 1000 by decide), fun l hl => ?_⟩
  have s1 := same_upd_new (o := .lst []) hl
  refine ⟨_, rfl, q, rfl, ⟨_, SqT.of (s1 _ _ hq)⟩, ?_⟩
  refine for_tup (K := K) (a := q) (xs := vs) (fun i σ H2 => ∃ (z2 z3 : Option V) (us : List V), σ = [some (.ref q), some (.ref l), z2, z3] ∧ Same H H2 ∧ H2 l = some (.lst us) ∧ TyS H2 us (flatE (es.take i)))
   ⟨none, none, [], rfl, s1, upd_same, ⟨rfl, fun i x e => by rw [List.take_zero] at e; cases e⟩⟩ (fun i σ H2 _ ⟨_, _, _, _, s2, _⟩ => SqT.of (s2 _ _ hq)) ?_ ?_
  ·rintro i x σ H2 hi ⟨z2, z3, us, rfl, s2, hl2, hty⟩
   have hiv : i < vs.length := (List.getElem?_eq_some_iff.mp hi).1
   have hie : i < es.length := by rw [← hpa.1]; exact hiv
   obtain ⟨b, e1, e2⟩ := hpa.2 i es[i] (List.getElem?_eq_getElem hie)
   rw [hi] at e1
   cases e1
   obtain ⟨l1, l2⟩ := hF.fine.long es[i] (List.getElem_mem hie)
   have hm := hF.fine.many es[i] (List.getElem_mem hie)
   have het : es.take (i + 1) = es.take i ++ [es[i]] := List.take_succ_eq_append_getElem hie
   have htot := hF.tot
   have ht1 := flatE_take (es := es) (n := i)
   have hul := hty.1
   refine ⟨b, _, rfl, SqT.of (s2 _ _ e2), rfl, _, _, rfl, _, _, rfl, rfl, ?_⟩
   rw [het, flatE_snoc]
   generalize es[i] = e at *
   refine ⟨_, rfl, .inl ⟨rfl, _, SqL.of hl2⟩, _, rfl, e.1, rfl, l1, l2, _, rfl, _, rfl, e.1, _, _, rfl, rfl, len_size l2, lst_at l1, _, rfl, e.1, rfl, l1, l2, few_size (show 3 ≤ 1000 by decide), fun t ht => ?_⟩
   have t1 := same_upd_new (o := .tup [.str (bg e.1), .str (tx [lst e.1]), .str (en e.1)]) ht
   refine ⟨few_size (show 1 ≤ 1000 by decide), fun p hp => ?_⟩
   have t2 := same_upd_new (o := .lst [.ref t]) hp
   refine ⟨_, rfl, p, e.2, _, rfl, rfl, upd_same, by omega, by omega, few_size (by simp only [List.length_singleton]; omega), fun p2 hp2 => ?_⟩
   rw [flat_one]
   have t3 := same_upd_new (o := .lst (List.replicate e.2.toNat (V.ref t))) hp2
   have hl5 := t3 _ _ (t2 _ _ (t1 _ _ hl2))
   refine ⟨l, p2, _, _, rfl, rfl, hl5, upd_same, ?_, ?_⟩
   ·rw [List.length_replicate]
    refine size_small ?_
    omega
   have ts := tsame_upd_lst (ys := us ++ List.replicate e.2.toNat (V.ref t)) hl5
   refine ⟨_, _, _, rfl, fun b u hb => by rw [upd_ne (ne_of_none hb hl)]; exact t3 _ _ (t2 _ _ (t1 _ _ (s2 b u hb))), upd_same, ?_⟩
   exact ((hty.same (((t1.trans t2).trans t3).tup.trans ts)).rep (ts _ _ (t3 _ _ (t2 _ _ upd_same))) _)
  ·rintro σ H2 ⟨z2, z3, us, rfl, s2, hl2, hty⟩
   rw [hpa.1, List.take_length] at hty
   exact ⟨_, rfl, k l us H2 s2 hl2 hty⟩
abbrev sStartOf : Stmt := top 7
noncomputable abbrev nStartOf : List Str := ["H", "wish", "begins"]
theorem scStartOf : FnScope nStartOf ["H", "wish"] (defScope sStartOf) := ⟨rfl, rfl, rfl, by decide +kernel, rfl, by decide +kernel, by decide +kernel⟩
noncomputable def stOr (wsh : Str) (us : Es) : Str := match us with | [] => wsh | u :: _ => u.1
def spStart : Sp := fun vs H Q _ => ∃ (v : V) (wsh : Str) (es : Es), vs = [v, .str wsh] ∧ HeapV H v es ∧ Fine es ∧ ∀ H' ss, Same H H' → SPts es ss → Q (.str (stOr wsh (ups (mo es) ss))) H'
set_option maxHeartbeats 8000000 in
theorem ok_start_of (D : HasDef K mg "start_of" sStartOf ["H", "wish"]) (B : Blt mg) (G_begins_of : FOk P w K mg base 3 "begins_of" ["H"] spBegins) : FOk P w K mg base 4 "start_of" ["H", "wish"] spStart := by
 refine D.ok scStartOf (fun vs H Q E h => ?_) (fun f cdv A outer s H vs Q E hr h => ?_)
 ·obtain ⟨v, wsh, es, rfl, _⟩ := h
  rfl
 ·obtain ⟨v, wsh, es, rfl, hV, hF, k⟩ := h
  refine ⟨_, (pss_cons (ps_set (i := 2) scStartOf.nd rfl (Or.inl rfl) (pe_fn G_begins_of hr (pa_cons (pv 0) pa_nil)))
   (pss_cons (ps_if (pt_cmpR op_eq (pe_callB call_len rfl B.len b_len (pa_cons (pv 2) pa_nil)) pe_int (nomark _)) (pss_one (ps_ret (pv 1))) pss_nil)
   (pss_one (ps_ret (pe_ix ix_tup (pe_ix ix_tup (pv 2) pe_int (fun _ _ => rfl)) pe_int (fun _ _ => rfl)))))), ?_⟩
  refine ⟨_, rfl, v, es, rfl, hV, hF, fun v' H1 ss s1 hv' hss => ?_⟩
  have kk := k H1 ss s1 hss
  obtain ⟨q, us, rfl, hq, hpa⟩ := hv'
  refine ⟨_, rfl, .ref q, _, rfl, .inr ⟨_, SqT.of hq, rfl⟩, rfl, _, rfl, ?_⟩
  rw [hpa.1]
  generalize ups (mo es) ss = ue at *
  cases ue with
  | nil => exact iteP (by decide) ⟨_, rfl, kk⟩
  | cons u ue =>
   refine iteM (int_ne (by rw [List.length_cons]; omega)) ?_
   obtain ⟨b, e1, e2⟩ := hpa.2 0 u rfl
   exact ⟨_, rfl, q, us, 0, .ref b, rfl, rfl, SqT.of hq, item_at (by decide) e1, b, _, 0, .str u.1, rfl, rfl, SqT.of e2, rfl, kk⟩
abbrev sTextFrom : Stmt := top 16
noncomputable abbrev nTextFrom : List Str := ["ties", "begin", "numbers"]
theorem scTextFrom : FnScope nTextFrom ["ties", "begin"] (defScope sTextFrom) := ⟨rfl, rfl, rfl, by decide +kernel, rfl, by decide +kernel, by decide +kernel⟩
def spTextFrom : Sp := fun vs H Q _ => ∃ (q : Addr) (b : Str) (us : List V) (es : Es) (L : Nat), vs = [.ref q, .str b] ∧ H q = some (.lst us) ∧ TyS H us (flatE es) ∧ Hpy es L ∧ b.length = L - 1 ∧ Good (tsE es) b ∧ ∀ H', Same H H' → Eul (tsE es) b (wayX (tsE es) b) → Q (.str (tx (spell es b (wayX (tsE es) b)))) H'
set_option maxHeartbeats 8000000 in
theorem ok_text_from (D : HasDef K mg "text_from" sTextFrom ["ties", "begin"]) (B : Blt mg) (G_way_of : FOk P w K mg base 2 "way_of" ["ties", "begin"] spWay) : FOk P w K mg base 3 "text_from" ["ties", "begin"] spTextFrom := by
 refine D.ok scTextFrom (fun vs H Q E h => ?_) (fun f cdv A outer s H vs Q E hr h => ?_)
 ·obtain ⟨q, b, us, es, L, rfl, _⟩ := h
  rfl
 ·obtain ⟨q, b, us, es, L, rfl, hq, hty, hF, hb, hg, k⟩ := h
  refine ⟨_, (pss_cons (ps_set (i := 2) scTextFrom.nd rfl (Or.inl rfl) (pe_fn G_way_of hr (pa_cons (pv 0) (pa_cons (pv 1) pa_nil))))
   (pss_cons (ps_if (pt_cmpR op_isN (pv 2) pe_non (nomark _)) (pss_one (ps_ret pe_non)) pss_nil)
   (pss_one (ps_ret (pe_op op_add_str (pv 1) (pe_bm F.plainAttrs_str F.slot_str_join F.type_str_join mt_join pe_str (pa_cons (pe_lcomp (defScope sTextFrom) nTextFrom ["number"] [0] rfl (pi_tup (pv 2)) (fun _ _ _ _ _ => pg_lc 0) (fun _ _ _ _ _ => pcs_nil) (fun _ _ _ _ _ => (pe_ix (ix_tupK K) (pe_ix (ix_listK K) (pv 1) (pv 0) (fun _ _ => rfl)) pe_int (fun _ _ => rfl)))) pa_nil))))))), ?_⟩
  have htot := hF.tot
  have hl3 := hF.l3
  refine ⟨_, rfl, _, rfl, .ref q, b, tsE es, rfl, ⟨q, us, rfl, .inl hq, hty.tyA⟩, by rw [tsE_len]; omega, way_both fun x H1 s1 hx => ?_⟩
  rcases hx with ⟨hE, qn, rfl, hqn⟩ | ⟨hn, _⟩
  rotate_left
  ·exact absurd hg hn
  have kE := fun H' s' => k H' s' hE
  have hXl : (wayX (tsE es) b).length = (flatE es).length := by rw [hE.1.length_eq, List.length_range, tsE_len]
  have hX : ∀ i ∈ wayX (tsE es) b, i < (flatE es).length := fun i hi => by
   have := List.mem_range.mp (hE.1.mem_iff.mp hi)
   rw [tsE_len] at this
   exact this
  generalize wayX (tsE es) b = X at *
  refine ⟨_, rfl, rfl, _, rfl, iteM (by simp) ?_⟩
  refine ⟨_, rfl, rfl, _, rfl, qn, rfl, ⟨_, SqT.of hqn⟩, lc_map X.length (fun i => (X.map nV).getD i .non) (fun i v _ => v = .str (tx [lst ((flatE es).getD (X.getD i 0) "")])) (few_size (by omega)) (fun _ _ _ _ _ r => r) (by have := jt_tup (SqT.of (K := K) hqn); rw [List.length_map] at this; exact this) ?_ ?_⟩
  ·intro i H3 Qe hi hs kq
   rw [getD_mapV hi]
   have hin := hX X[i] (List.getElem_mem hi)
   obtain ⟨b0, e1, e2⟩ := hty.2 X[i] (flatE es)[X[i]] (List.getElem?_eq_getElem hin)
   refine ⟨_, rfl, _, rfl, q, us, X[i], .ref b0, rfl, rfl, SqL.of (hs _ _ (s1 _ _ hq)), atI_nat' e1, b0, _, 1, _, rfl, rfl, SqT.of (hs _ _ (s1 _ _ e2)), rfl, kq _ _ (Same.refl _) ?_⟩
   rw [List.getD_eq_getElem?_getD (l := X), List.getElem?_eq_getElem hi, Option.getD_some, List.getD_eq_getElem?_getD, List.getElem?_eq_getElem hin]
   rfl
  intro D1 vs1 H3 hl1 hr1 hs3 hD1 hDl1
  have ev : vs1 = ((X.map fun i => lst ((flatE es).getD i "")).map fun c => tx [c]).map V.str := by
   rw [List.map_map, List.map_map]
   refine vs_ints hl1 fun i v hv c hc => ?_
   rw [hr1 i v hv, List.getD_eq_getElem?_getD (l := X), hc]
   rfl
  rw [ev] at hDl1
  have hos := ones_sum (X.map fun i => lst ((flatE es).getD i "")) (by rw [List.length_map]; omega)
  refine ⟨"", D1, _, rfl, rfl, SqL.of hDl1, hos, ?_⟩
  rw [join_ones]
  refine ⟨_, _, rfl, rfl, ?_, ?_⟩
  ·rw [tx_len, List.length_map]
   refine few_size ?_
   omega
  rw [show b ++ tx (X.map fun i => lst ((flatE es).getD i "")) = tx (spell es b X) by unfold spell; rw [← tx_app, tx_eta]]
  exact kE H3 (s1.trans hs3)
end
def Hang (e0 : Str × Int) (es0 : Es) : Prop := ∀ e ∈ e0 :: es0, Rch (e0 :: es0) (bg e0.1) (bg e.1)
def VerV (H : Hp) (v : V) (e0 : Str × Int) (es0 : Es) (L : Nat) : Prop := ∃ q wd x ss, v = .ref q ∧ H q = some (.tup [.str wd, x]) ∧ SPts (e0 :: es0) ss ∧
 ((wd = "begins" ∧ 1 < sm (ups (mo (e0 :: es0)) ss) ∧ HeapV H x (ups (mo (e0 :: es0)) ss)) ∨
  (wd = "apart" ∧ ¬ 1 < sm (ups (mo (e0 :: es0)) ss) ∧ ¬ Hang e0 es0 ∧ ∃ ps, TupS H x ps ∧ (ps.map fun x => x.cps.toList).Pairwise (· < ·) ∧ ps.length ≤ 602 ∧ ∀ x, x ∈ ps ↔ Rch (e0 :: es0) (bg e0.1) x) ∨
  (wd = "text" ∧ ¬ 1 < sm (ups (mo (e0 :: es0)) ss) ∧ Hang e0 es0 ∧ ∃ b X, x = .str (tx (spell (e0 :: es0) b X)) ∧ b = startE e0 (ups (mo (e0 :: es0)) ss) ∧ X = wayX (tsE (e0 :: es0)) b ∧ Eul (tsE (e0 :: es0)) b X ∧ b.length = L - 1))
theorem VerV.same {H H' : Hp} {v : V} {e0 : Str × Int} {es0 : Es} {L : Nat} (h : VerV H v e0 es0 L) (s : Same H H') : VerV H' v e0 es0 L := by
 obtain ⟨q, wd, x, ss, e1, e2, e3, h⟩ := h
 refine ⟨q, wd, x, ss, e1, s _ _ e2, e3, ?_⟩
 rcases h with ⟨a, b, c⟩ | ⟨a, b, c, ps, d, f⟩ | h
 ·exact .inl ⟨a, b, c.same s⟩
 ·exact .inr (.inl ⟨a, b, c, ps, d.same s, f⟩)
 ·exact .inr (.inr h)
theorem start_len {e0 : Str × Int} {es0 : Es} {ss : List Str} {L : Nat} (hF : Hpy (e0 :: es0) L) (hs : SPts (e0 :: es0) ss) : (startE e0 (ups (mo (e0 :: es0)) ss)).length = L - 1 := by
 cases hu : ups (mo (e0 :: es0)) ss with
 | nil =>
  show (bg e0.1).length = L - 1
  rw [bg_len, hF.len e0 (List.mem_cons_self ..)]
 | cons u us =>
  have hm : u ∈ ups (mo (e0 :: es0)) ss := by rw [hu]; exact List.mem_cons_self ..
  obtain ⟨p, hp, ep⟩ := List.mem_map.mp hm
  obtain ⟨h1, _⟩ := List.mem_filter.mp hp
  obtain ⟨e, he, q⟩ := (hs.pts.mem p).mp h1
  show u.1.length = L - 1
  rw [← ep]
  show p.length = L - 1
  rcases q with q | q
  ·rw [← q, bg_len, hF.len e he]
  ·rw [← q, en_len, hF.len e he]
theorem stOr_E (e0 : Str × Int) (us : Es) : stOr (bg e0.1) us = startE e0 us := by
 cases us <;> rfl
section
variable {P : Program} {w : World} {K : PySem.W.Frag} {mg : Str → Option Value} {base : Heap}
abbrev sHasManyBegins : Stmt := top 18
abbrev nHasManyBegins : List Str := ["H"]
theorem scHasManyBegins : FnScope nHasManyBegins ["H"] (defScope sHasManyBegins) := ⟨rfl, rfl, rfl, by decide +kernel, rfl, by decide +kernel, by decide +kernel⟩
def spMany : Sp := fun vs H Q _ => ∃ (v : V) (es : Es), vs = [v] ∧ HeapV H v es ∧ Fine es ∧ ∀ H' ss, Same H H' → SPts es ss → Q (.bl (decide (1 < sm (ups (mo es) ss)))) H'
set_option maxHeartbeats 8000000 in
theorem ok_has_many (D : HasDef K mg "has_many_begins" sHasManyBegins ["H"]) (B : Blt mg) (G_begins_of : FOk P w K mg base 3 "begins_of" ["H"] spBegins) : FOk P w K mg base 4 "has_many_begins" ["H"] spMany := by
 refine D.ok scHasManyBegins (fun vs H Q E h => ?_) (fun f cdv A outer s H vs Q E hr h => ?_)
 ·obtain ⟨v, es, rfl, _⟩ := h
  rfl
 ·obtain ⟨v, es, rfl, hV, hF, k⟩ := h
  refine ⟨_, (pss_one (ps_ret (pe_cmpR op_gt (pe_callB (call_sumL rfl) rfl B.sum b_sum (pa_cons (pe_lcomp (defScope sHasManyBegins) nHasManyBegins ["point", "more"] [] rfl (pi_tup (pe_fn G_begins_of hr (pa_cons (pv 0) pa_nil))) (fun _ _ _ _ _ => pg_tupK 2 K rfl (pgs_cons (pg_lc 0) (pgs_cons (pg_lc 1) pgs_nil))) (fun _ _ _ _ _ => pcs_nil) (fun _ _ _ _ _ => (pv 1))) pa_nil)) pe_int (nomark _)))), ?_⟩
  refine ⟨_, rfl, v, es, rfl, hV, hF, fun v' H1 ss s1 hv' hss => ?_⟩
  obtain ⟨b1, b2, b3⟩ := ups_long hF (f := mo es) (fun _ => rfl) hss
  obtain ⟨q, us, rfl, hq, hpa⟩ := hv'
  refine ⟨q, rfl, ⟨_, SqT.of hq⟩, lc_snd rfl hq hpa b3 fun D1 H2 s2 hD => ?_⟩
  exact ⟨D1, _, rfl, SqL.of hD, b1, b2, _, _, rfl, rfl, k H2 ss (s1.trans s2) hss⟩
abbrev sVerdict : Stmt := top 19
abbrev nVerdict : List Str := ["H"]
theorem scVerdict : FnScope nVerdict ["H"] (defScope sVerdict) := ⟨rfl, rfl, rfl, by decide +kernel, rfl, by decide +kernel, by decide +kernel⟩
def spVerdict : Sp := fun vs H Q _ => ∃ (v : V) (e0 : Str × Int) (es0 : Es) (L : Nat), vs = [v] ∧ HeapV H v (e0 :: es0) ∧ Hpy (e0 :: es0) L ∧ ∀ v' H', Same H H' → VerV H' v' e0 es0 L → Q v' H'
set_option maxHeartbeats 8000000 in
theorem ok_verdict (D : HasDef K mg "verdict" sVerdict ["H"]) (B : Blt mg) (G_has_many_begins : FOk P w K mg base 4 "has_many_begins" ["H"] spMany) (G_begins_of : FOk P w K mg base 4 "begins_of" ["H"] spBegins) (G_hangs : FOk P w K mg base 4 "hangs" ["H"] spHangs) (G_part_of : FOk P w K mg base 4 "part_of" ["H"] spPart) (G_ties_of : FOk P w K mg base 4 "ties_of" ["H"] spTiesOf) (G_begin_of : FOk P w K mg base 4 "begin_of" ["piece"] spBeg) (G_start_of : FOk P w K mg base 4 "start_of" ["H", "wish"] spStart) (G_text_from : FOk P w K mg base 4 "text_from" ["ties", "begin"] spTextFrom) : FOk P w K mg base 5 "verdict" ["H"] spVerdict := by
 refine D.ok scVerdict (fun vs H Q E h => ?_) (fun f cdv A outer s H vs Q E hr h => ?_)
 ·obtain ⟨v, e0, es0, L, rfl, _⟩ := h
  rfl
 ·obtain ⟨v, e0, es0, L, rfl, hV, hF, k⟩ := h
  refine ⟨_, (pss_cons (ps_if (pt_val (pe_fn G_has_many_begins hr (pa_cons (pv 0) pa_nil))) (pss_one (ps_ret (pe_tup (pa_cons pe_str (pa_cons (pe_fn G_begins_of hr (pa_cons (pv 0) pa_nil)) pa_nil))))) pss_nil)
   (pss_cons (ps_if (pt_not (pt_val (pe_fn G_hangs hr (pa_cons (pv 0) pa_nil)))) (pss_one (ps_ret (pe_tup (pa_cons pe_str (pa_cons (pe_fn G_part_of hr (pa_cons (pv 0) pa_nil)) pa_nil))))) pss_nil)
   (pss_one (ps_ret (pe_tup (pa_cons pe_str (pa_cons (pe_fn G_text_from hr (pa_cons (pe_fn G_ties_of hr (pa_cons (pv 0) pa_nil)) (pa_cons (pe_fn G_start_of hr (pa_cons (pv 0) (pa_cons (pe_fn G_begin_of hr (pa_cons (pe_ix ix_tup (pe_ix ix_tup (pv 0) pe_int (fun _ _ => rfl)) pe_int (fun _ _ => rfl)) pa_nil)) pa_nil))) pa_nil))) pa_nil))))))), ?_⟩
  refine ⟨_, rfl, v, _, rfl, hV, hF.fine, fun H1 ss s1 hss => ⟨_, rfl, ?_⟩⟩
  by_cases c1 : 1 < sm (ups (mo (e0 :: es0)) ss)
  ·refine iteP (decide_eq_true c1) ⟨_, rfl, v, _, rfl, hV.same s1, hF.fine, fun v' H2 ss2 s2 hv' hss2 => ⟨few_size (show 2 ≤ 1000 by decide), fun p hp => ?_⟩⟩
   have es := hss.one hss2
   subst es
   have s3 := same_upd_new (o := .tup [.str "begins", v']) hp
   exact k _ _ ((s1.trans s2).trans s3) ⟨p, "begins", v', ss, rfl, upd_same, hss, .inl ⟨rfl, c1, hv'.same s3⟩⟩
  ·refine iteM (decide_eq_false c1) ⟨_, rfl, v, e0, es0, rfl, hV.same s1, hF.fine, fun H2 c s2 hc => ⟨_, rfl, ?_⟩⟩
   have hV2 := (hV.same s1).same s2
   cases c with
   | false =>
    have hn : ¬ Hang e0 es0 := fun h => by have := hc.mpr h; cases this
    refine iteP rfl ⟨_, rfl, v, e0, es0, rfl, hV2, hF.fine, fun v' H3 ps s3 hps hsr hpl hpm => ⟨few_size (show 2 ≤ 1000 by decide), fun p hp => ?_⟩⟩
    have s4 := same_upd_new (o := .tup [.str "apart", v']) hp
    exact k _ _ (((s1.trans s2).trans s3).trans s4) ⟨p, "apart", v', ss, rfl, upd_same, hss, .inr (.inl ⟨rfl, c1, hn, ps, hps.same s4, hsr, hpl, hpm⟩)⟩
   | true =>
    have hh : Hang e0 es0 := hc.mp rfl
    refine iteM rfl ?_
    refine ⟨_, rfl, v, _, L, rfl, hV2, hF, fun q us H3 s3 hq hty => ?_⟩
    have hV3 := hV2.same s3
    obtain ⟨qv, vs, rfl, hqv, hpa⟩ := id hV3
    obtain ⟨b0, f1, f2⟩ := hpa.2 0 e0 rfl
    obtain ⟨l1, l2⟩ := hF.fine.long e0 (List.mem_cons_self ..)
    refine ⟨_, rfl, _, rfl, qv, vs, 0, .ref b0, rfl, rfl, SqT.of hqv, item_at (by decide) f1, b0, _, 0, .str e0.1, rfl, rfl, SqT.of f2, rfl, e0.1, rfl, l1, l2, .ref qv, bg e0.1, _, rfl, hV3, hF.fine, fun H4 ss4 s4 hss4 => ?_⟩
    have es := hss.one hss4
    subst es
    rw [stOr_E]
    have hg : Good (tsE (e0 :: es0)) (startE e0 (ups (mo (e0 :: es0)) ss)) := good_E hF.pos hss.pts.nd hss.pts.mem (by omega) hh
    have hbl := start_len hF hss
    refine ⟨q, _, us, e0 :: es0, L, rfl, s4 _ _ hq, hty.same s4.tup, hF, hbl, hg, fun H5 s5 hE => ⟨few_size (show 2 ≤ 1000 by decide), fun p hp => ?_⟩⟩
    have s6 := same_upd_new (o := .tup [.str "text", .str (tx (spell (e0 :: es0) (startE e0 (ups (mo (e0 :: es0)) ss)) (wayX (tsE (e0 :: es0)) (startE e0 (ups (mo (e0 :: es0)) ss)))))]) hp
    exact k _ _ (((((s1.trans s2).trans s3).trans s4).trans s5).trans s6) ⟨p, "text", _, ss, rfl, upd_same, hss, .inr (.inr ⟨rfl, c1, hh, _, _, rfl, rfl, rfl, hE, hbl⟩)⟩
end
end Sh
namespace L2
open PySem PySem.Spec PyProof.Rows
theorem op_notIn_seqK {X : Cx} (K : PySem.W.Frag) (h : X.K = K := by rfl) : OpR X (compareOp .NotIn) (rIn K true) := by subst h; exact op_notIn_seq
end L2
namespace Sh
open PySem L2 PyProof.Rows
seal L2.PE L2.PS L2.PSs L2.PT L2.PW L2.PA L2.PI L2.PG L2.PGs L2.PO L2.PC L2.PCs L2.OpR L2.UnR L2.CallR L2.MtR L2.IxR L2.SlR
theorem flat_all (ss : List Str) : (ss.map V.str).all flatV = true := by
 rw [List.all_eq_true]
 intro v hv
 obtain ⟨x, _, rfl⟩ := List.mem_map.mp hv
 rfl
section
variable {P : Program} {w : World} {K : PySem.W.Frag} {mg : Str → Option Value} {base : Heap}
noncomputable abbrev sLBegins : Stmt := top 27
noncomputable abbrev nLBegins : List Str := ["_law_heap", "_law_found", "_law_piece_here", "_law_many"]
theorem scLBegins : FnScope nLBegins ["_law_heap"] (defScope sLBegins) := ⟨rfl, rfl, rfl, by decide +kernel, rfl, by decide +kernel, by decide +kernel⟩
def spLBegins : Sp := fun vs H Q _ => ∃ (v : V) (es : Es), vs = [v] ∧ HeapV H v es ∧ Fine es ∧ ∀ (v' : V) (H' : Hp) (ss : List Str), Same H H' → HeapV H' v' (ss.map fun x => (x, mo es x)) → (ss.map fun x => x.cps.toList).Pairwise (· < ·) → (∀ x, x ∈ ss ↔ (∃ e ∈ es, bg e.1 = x ∨ en e.1 = x) ∧ 0 < mo es x) → Q v' H'
set_option maxHeartbeats 8000000 in
theorem ok_l_begins (D : HasDef K mg "_law_begins" sLBegins ["_law_heap"]) (B : Blt mg) : FOk P w K mg base 1 "_law_begins" ["_law_heap"] spLBegins := by
 refine D.ok scLBegins (fun vs H Q E h => ?_) (fun f cdv A outer s H vs Q E hr h => ?_)
 ·obtain ⟨v, es, rfl, _⟩ := h
  rfl
 ·obtain ⟨v, es, rfl, ⟨q, vs, rfl, hq, hpa⟩, hF, k⟩ := h
  have hu := hu_of hr
  refine ⟨_, (pss_cons (ps_set (i := 1) scLBegins.nd rfl (Or.inr rfl) pe_dnewK)
   (pss_cons (ps_for PassesOwn.never rfl (pi_tup (pv 0)) (pg_tupK 2 K rfl (pgs_cons (pg_name (i := 2) scLBegins.nd rfl (Or.inl rfl)) (pgs_cons (pg_name (i := 3) scLBegins.nd rfl (Or.inl rfl)) pgs_nil)))
    (pss_cons (ps_dput hu (pv 1) (pe_slice sl_str (pv 2) po_none (po_some (pe_un un_neg pe_int))) (pe_op op_add (pe_dget2 hu (pv 1) (pe_slice sl_str (pv 2) po_none (po_some (pe_un un_neg pe_int))) pe_int ⟨rfl, rfl, rfl, rfl⟩) (pv 3)) rfl)
   (pss_one (ps_dput hu (pv 1) (pe_slice sl_str (pv 2) (po_some pe_int) po_none) (pe_op op_sub (pe_dget2 hu (pv 1) (pe_slice sl_str (pv 2) (po_some pe_int) po_none) pe_int ⟨rfl, rfl, rfl, rfl⟩) (pv 3)) rfl))))
   (pss_one (ps_ret (pe_callTy call_tuple_of rfl B.tuple b_tuple (pa_cons (pe_callB call_sortedTL rfl B.sorted b_sorted (pa_cons (pe_frz (pe_lcomp (defScope sLBegins) nLBegins ["_law_point"] [1] rfl (pi_keys (pv 1)) (fun _ _ _ _ _ => pg_lc 0) (fun _ _ _ _ _ => pcs_one (pt_cmpR op_gt (pe_dget hu (pv 1) (pv 0) (fun _ _ => rfl)) pe_int (nomark _))) (fun _ _ _ _ _ => (pe_tup (pa_cons (pv 0) (pa_cons (pe_dget hu (pv 1) (pv 0) (fun _ _ => rfl)) pa_nil)))))) pa_nil)) pa_nil)))))), ?_⟩
  intro d hd
  have s1 := same_upd_new (o := .dK []) hd
  refine ⟨_, rfl, q, rfl, ⟨_, SqT.of (s1 _ _ hq)⟩, ?_⟩
  refine for_tup (K := K) (a := q) (xs := vs) (fun i σ H2 => (∃ z3 z4 : Option V, σ = [some (.ref q), some (.ref d), z3, z4]) ∧ Same H H2 ∧ ∃ ks, Pts (es.take i) ks ∧ H2 d = some (.dK (gD ks (mo (es.take i)))))
   ⟨⟨none, none, rfl⟩, s1, [], Pts.nil, upd_same⟩ (fun i σ H2 _ ⟨_, s2, _⟩ => SqT.of (s2 _ _ hq)) ?_ ?_
  ·rintro i x σ H2 hi ⟨⟨z3, z4, rfl⟩, s2, ks, hk, hdd⟩
   have hiv : i < vs.length := (List.getElem?_eq_some_iff.mp hi).1
   have hie : i < es.length := by rw [← hpa.1]; exact hiv
   obtain ⟨b, e1, e2⟩ := hpa.2 i es[i] (List.getElem?_eq_getElem hie)
   rw [hi] at e1
   cases e1
   obtain ⟨l1, l2⟩ := hF.long es[i] (List.getElem_mem hie)
   have hkl := hk.len
   have hfew := hF.few
   rw [List.length_take] at hkl
   refine ⟨b, _, rfl, SqT.of (s2 _ _ e2), rfl, _, _, rfl, _, _, rfl, rfl, ?_⟩
   have het : es.take (i + 1) = es.take i ++ [es[i]] := List.take_succ_eq_append_getElem hie
   generalize es[i] = e at *
   have hz : e.1.length ≤ sizeLine := len_size l2
   have hg := gD_get (ks := ks) (g := mo (es.take i)) (y := bg e.1) fun hP => hk.zero hP
   have sb : Txt.slice e.1 none (some (-1)) = bg e.1 := slice_bg l1
   have se : Txt.slice e.1 (some 1) none = en e.1 := slice_en l1
   refine ⟨_, rfl, d, rfl, .inl ⟨_, .inl hdd⟩, _, rfl, _, rfl, _, rfl, _, rfl, hz, ?_⟩
   rw [sb]
   refine ⟨_, DGet.k (k := Sum.inr (bg e.1)) hdd, _, rfl, _, _, hg, rfl, _, rfl, _, rfl, _, rfl, _, rfl, _, rfl, hz, ?_⟩
   rw [sb]
   refine ⟨d, _, rfl, DPut.k (k := Sum.inr (bg e.1)) hdd (by rw [gD_len]; exact small1000 (by omega)), ?_⟩
   rw [gD_put]
   have hdd2 : (upd H2 d (.dK (gD (addK ks (bg e.1)) fun x => if x = bg e.1 then mo (es.take i) (bg e.1) + e.2 else mo (es.take i) x))) d = some (.dK (gD (addK ks (bg e.1)) fun x => if x = bg e.1 then mo (es.take i) (bg e.1) + e.2 else mo (es.take i) x)) := upd_same
   have hg2 := gD_get (ks := addK ks (bg e.1)) (g := fun x => if x = bg e.1 then mo (es.take i) (bg e.1) + e.2 else mo (es.take i) x) (y := en e.1) fun hP => by
    rw [addK_mem, not_or] at hP
    rw [if_neg hP.2, hk.zero hP.1]
   have hal := addK_len ks (bg e.1)
   refine ⟨_, rfl, d, rfl, .inl ⟨_, .inl hdd2⟩, _, rfl, _, rfl, _, rfl, hz, ?_⟩
   rw [se]
   refine ⟨_, DGet.k (k := Sum.inr (en e.1)) hdd2, _, rfl, _, _, hg2, rfl, _, rfl, _, rfl, _, rfl, _, rfl, hz, ?_⟩
   rw [se]
   refine ⟨d, _, rfl, DPut.k (k := Sum.inr (en e.1)) hdd2 (by rw [gD_len]; exact small1000 (by omega)), ?_⟩
   refine ⟨⟨_, _, rfl⟩, fun c u hc => ?_, addK (addK ks (bg e.1)) (en e.1), by rw [het]; exact hk.step e, ?_⟩
   ·rw [upd_upd, upd_ne (ne_of_none hc hd)]
    exact s2 c u hc
   ·rw [upd_same, gD_put, het]
    refine congrArg (fun l => some (HO.dK l)) (gD_congr fun x _ => ?_)
    rw [mo_snoc]
    unfold mo1 ind
    by_cases c1 : x = en e.1
    ·subst c1
     rw [if_pos rfl, if_pos rfl]
     by_cases c2 : en e.1 = bg e.1
     ·rw [if_pos c2, if_pos c2.symm, c2, Int.mul_one, Int.sub_self]
      omega
     ·rw [if_neg c2, if_neg (Ne.symm c2), Int.mul_one, Int.mul_zero]
      omega
    ·rw [if_neg c1, if_neg (Ne.symm c1)]
     by_cases c2 : x = bg e.1
     ·subst c2
      rw [if_pos rfl, if_pos rfl, Int.mul_one, Int.mul_zero, Int.sub_zero]
     ·rw [if_neg c2, if_neg (Ne.symm c2), Int.mul_zero, Int.sub_zero]
      omega
  ·rintro σ H2 ⟨⟨z3, z4, rfl⟩, s2, ks, hk, hdd⟩
   rw [hpa.1, List.take_length] at hk hdd
   have hkl := hk.len
   have hfew := hF.few
   refine ⟨d, _, hdd, fun o => ?_⟩
   have hfz : (upd H2 d (.frz o (.dK (gD ks (mo es))))) d = some (.frz o (.dK (gD ks (mo es)))) := upd_same
   refine ⟨_, rfl, d, o, _, rfl, hfz, lc_fmap (gD ks (mo es)).length (fun i => ((gD ks (mo es)).map fun p => kV p.1).getD i .non) (fun i => decide (0 < mo es (ks.getD i ""))) (fun i v H => rowAt (ks.getD i "") (mo es (ks.getD i "")) v H) (few_size (by rw [gD_len]; omega)) (fun i v H H' hs ⟨b, e1, e2⟩ => ⟨b, e1, hs _ _ e2⟩) (jt_keys hfz) ?_ ?_⟩
   ·intro i H3 Qt Qf hi hs ht hf
    rw [gD_len] at hi
    have es1 : ks.getD i "" = ks[i] := by rw [List.getD_eq_getElem?_getD, List.getElem?_eq_getElem hi]; rfl
    have ek : ((gD ks (mo es)).map fun p => kV p.1).getD i .non = .str ks[i] := by
     unfold gD
     rw [List.map_map, List.getD_eq_getElem?_getD, List.getElem?_map, List.getElem?_eq_getElem hi]
     rfl
    rw [es1] at ht hf
    rw [ek]
    have hgt : ∀ H', Same (upd H2 d (.frz o (.dK (gD ks (mo es))))) H' → DGet H' d (kV (Sum.inr ks[i])) (some (.int (mo es ks[i]))) := fun H' s' => .inl ⟨_, Sum.inr ks[i], .inr ⟨o, s' _ _ hfz⟩, rfl, by rw [gD_val, if_pos (List.getElem_mem hi)]⟩
    refine ⟨_, rfl, _, rfl, d, _, rfl, hgt _ hs, _, _, rfl, rfl, _, rfl, ?_⟩
    by_cases c : 0 < mo es ks[i]
    ·refine iteP (decide_eq_true c) ⟨_, rfl, _, rfl, _, rfl, d, _, rfl, hgt _ hs, few_size (show 2 ≤ 1000 by decide), fun r hr => ht (decide_eq_true c) _ _ (same_upd_new hr) ⟨r, rfl, upd_same⟩⟩
    ·exact iteM (decide_eq_false c) (hf (decide_eq_false c) _ (Same.refl _))
   ·intro D2 vs2 H3 hl2 hR hs3 hD2 hDl
    refine ⟨hs3 _ _ hfz, ?_⟩
    have hpa2 : PA H3 vs2 ((ks.filter fun x => decide (0 < mo es x)).map fun x => (x, mo es x)) := by
     refine pa_of (p := fun x => decide (0 < mo es x)) (f := fun x => mo es x) ?_ ?_
     ·rw [gD_len] at hl2; exact hl2
     ·rw [gD_len] at hR; exact hR
    have ts : TSame H3 (upd H3 d (.dK (gD ks (mo es)))) := fun b xs e => by
     rw [upd_ne (fun z => by rw [z, hs3 _ _ hfz] at e; cases e)]
     exact e
    have hpa3 := hpa2.same ts
    have hD2d : D2 ≠ d := fun z => by rw [z, hfz] at hD2; cases hD2
    have s4 : Same H (upd H3 d (.dK (gD ks (mo es)))) := fun b u hb => by
     have nb := ne_of_none hb hd
     rw [upd_ne nb]
     exact hs3 _ _ (by rw [upd_ne nb]; exact s2 _ _ hb)
    have hDl4 : (upd H3 d (.dK (gD ks (mo es)))) D2 = some (.lst vs2) := by rw [upd_ne hD2d]; exact hDl
    generalize upd H3 d (.dK (gD ks (mo es))) = H4 at hpa3 s4 hDl4 ts
    obtain ⟨fs, hfs⟩ : ∃ fs, fs = ks.filter fun x => decide (0 < mo es x) := ⟨_, rfl⟩
    rw [← hfs] at hpa3
    have hfnd : fs.Nodup := by rw [hfs]; exact hk.nd.filter _
    have hfl : fs.length ≤ 1000 := by
     rw [hfs]
     exact Nat.le_trans (List.length_filter_le _ _) (by omega)
    obtain ⟨rs, hrs1, hrs2, hrs3⟩ := pa_rows hpa3
    refine ⟨D2, rs, rfl, by rw [← hrs1]; exact SqL.of hDl4, fun r hr => ⟨_, hrs3 r hr⟩, by rw [hrs2]; exact hfnd, by rw [← List.length_map (f := Prod.snd), hrs2]; exact hfl, fun p rs' hp hpm hsrt => ?_⟩
    refine ⟨p, _, rfl, .inl ⟨SqL.of upd_same, fun l hl => ?_⟩⟩
    have s5 := (same_upd_new (o := .lst (rs'.map fun r => V.ref r.1)) hp).trans (same_upd_new (o := .tup (rs'.map fun r => V.ref r.1)) hl)
    refine k (.ref l) _ (rs'.map (·.2)) (s4.trans s5) ⟨l, _, rfl, upd_same, ?_⟩ ?_ fun x => ?_
    ·refine ⟨by rw [List.length_map, List.length_map, List.length_map], fun i e he => ?_⟩
     rw [List.getElem?_map, List.getElem?_map] at he
     cases hri : rs'[i]? with
     | none => rw [hri] at he; cases he
     | some r =>
      rw [hri] at he
      cases he
      refine ⟨r.1, by rw [List.getElem?_map, hri]; rfl, s5 _ _ (hrs3 r (hpm.mem_iff.mp (List.mem_of_getElem? hri)))⟩
    ·rw [List.map_map]
     exact hsrt
    ·have : x ∈ rs'.map (·.2) ↔ x ∈ fs := by rw [(hpm.map Prod.snd).mem_iff, hrs2]
     rw [this, hfs, List.mem_filter, hk.mem]
     simp
abbrev sLCome : Stmt := top 28
noncomputable abbrev nLCome : List Str := ["_law_heap", "_law_come_here", "_law_many", "_law_piece_here", "_law_more"]
theorem scLCome : FnScope nLCome ["_law_heap"] (defScope sLCome) := ⟨rfl, rfl, rfl, by decide +kernel, rfl, by decide +kernel, by decide +kernel⟩
def spCome : Sp := fun vs H Q _ => ∃ (v : V) (e : Str × Int) (es : Es), vs = [v] ∧ HeapV H v (e :: es) ∧ Fine (e :: es) ∧ ∀ v' H' ps, Same H H' → TupS H' v' ps → (ps.map fun x => x.cps.toList).Pairwise (· < ·) → ps.length ≤ 602 → (∀ x, x ∈ ps ↔ Rch (e :: es) (bg e.1) x) → Q v' H'
set_option maxHeartbeats 8000000 in
theorem ok_l_come (D : HasDef K mg "_law_come" sLCome ["_law_heap"]) (B : Blt mg) : FOk P w K mg base 1 "_law_come" ["_law_heap"] spCome := by
 refine D.ok scLCome (fun vs H Q E h => ?_) (fun f cdv A outer s H vs Q E hr h => ?_)
 ·obtain ⟨v, e, es, rfl, _⟩ := h
  rfl
 ·obtain ⟨v, e, es0, rfl, hV, hF, k⟩ := h
  have hu := hu_of hr
  obtain ⟨q, vs, rfl, hq, hpa⟩ := id hV
  refine ⟨_, (pss_cons (ps_set (i := 1) scLCome.nd rfl (Or.inl rfl) (pe_disp (pps_cons (pe_slice sl_str (pe_ix ix_tup (pe_ix ix_tup (pv 0) pe_int (fun _ _ => rfl)) pe_int (fun _ _ => rfl)) po_none (po_some (pe_un un_neg pe_int))) pe_bl pps_nil) rfl rfl (List.cons_ne_nil _ _) (by decide)))
   (pss_cons (ps_set (i := 2) scLCome.nd rfl (Or.inl rfl) pe_int)
   (pss_cons (ps_while PassesOwn.never (pt_cmpR op_lt (pv 2) (pe_callB call_lenD rfl B.len b_len (pa_cons (pv 1) pa_nil)) (nomark _))
    (pss_cons (ps_set (i := 2) scLCome.nd rfl (Or.inl rfl) (pe_callB call_lenD rfl B.len b_len (pa_cons (pv 1) pa_nil)))
   (pss_one (ps_for PassesOwn.never rfl (pi_tup (pv 0)) (pg_tupK 2 K rfl (pgs_cons (pg_name (i := 3) scLCome.nd rfl (Or.inl rfl)) (pgs_cons (pg_name (i := 4) scLCome.nd rfl (Or.inl rfl)) pgs_nil)))
    (pss_one (ps_if (PW.pt (pw_or (pt_cmp (pc_din hu (pe_slice sl_str (pv 3) po_none (po_some (pe_un un_neg pe_int))) (pv 1))) (pw_or1 (pt_cmp (pc_din hu (pe_slice sl_str (pv 3) (po_some pe_int) po_none) (pv 1)))))) (pss_cons (ps_dput hu (pv 1) (pe_slice sl_str (pv 3) po_none (po_some (pe_un un_neg pe_int))) pe_bl rfl)
   (pss_one (ps_dput hu (pv 1) (pe_slice sl_str (pv 3) (po_some pe_int) po_none) pe_bl rfl))) pss_nil))))))
   (pss_one (ps_ret (pe_callTy call_tuple_of rfl B.tuple b_tuple (pa_cons (pe_callB (call_sortedDK rfl) rfl B.sorted b_sorted (pa_cons (pv 1) pa_nil)) pa_nil))))))), ?_⟩
  obtain ⟨b0, eb0, hb0⟩ := hpa.2 0 e rfl
  obtain ⟨l1, l2⟩ := hF.long e (List.mem_cons_self ..)
  have hf2 := hF.few
  have hhead : e ∈ e :: es0 := List.mem_cons_self ..
  generalize hes : e :: es0 = es at *
  intro d hd
  have sd := same_upd_new (o := .dK []) hd
  refine ⟨_, rfl, q, vs, 0, .ref b0, rfl, rfl, SqT.of (sd _ _ hq), item_at (by decide) eb0, b0, _, 0, .str e.1, rfl, rfl, SqT.of (sd _ _ hb0), rfl, _, rfl, _, rfl, _, rfl, len_size l2, ?_⟩
  refine ⟨upd_same, [((Sum.inr (bg e.1) : Key), V.bl true)], by rw [← slice_bg l1]; rfl, by simp, ?_⟩
  rw [upd_upd]
  have s2 : Same H (upd H d (.dK (mergeK [] [((Sum.inr (bg e.1) : Key), V.bl true)]))) := same_upd_new hd
  have hd2 : (upd H d (.dK (mergeK [] [((Sum.inr (bg e.1) : Key), V.bl true)]))) d = some (.dK (bD [bg e.1])) := upd_same
  generalize upd H d (.dK (mergeK [] [((Sum.inr (bg e.1) : Key), V.bl true)])) = H2 at s2 hd2
  have sh : ∀ {H4 : Hp} (o : HO), Same H H4 → Same H (upd H4 d o) := fun o s b u hb => by
   rw [upd_ne (ne_of_none hb hd)]
   exact s b u hb
  have hkl : (es.map (fun x => bg x.1) ++ es.map fun x => en x.1).length ≤ 602 := by
   rw [List.length_append, List.length_map, List.length_map]
   omega
  have hb : ∀ x ∈ es, bg x.1 ∈ es.map (fun x => bg x.1) ++ es.map fun x => en x.1 := fun x hx => List.mem_append_left _ (List.mem_map_of_mem hx)
  have hn : ∀ x ∈ es, en x.1 ∈ es.map (fun x => bg x.1) ++ es.map fun x => en x.1 := fun x hx => List.mem_append_right _ (List.mem_map_of_mem hx)
  generalize hks : (es.map (fun x => bg x.1) ++ es.map fun x => en x.1) = ks at hkl hb hn
  try dsimp only [gName]
  show tSeq (tWhile _ _) _ _ _ _
  refine seq_any (fun σ H4 => ∃ (F : List Str) (z2 z3 z4 : Option V), σ = [some (.ref q), some (.ref d), z2, z3, z4] ∧ Same H H4 ∧ H4 d = some (.dK (bD F)) ∧ Wk es (bg e.1) ks F [] ∧ ∀ x ∈ es, (bg x.1 ∈ F ∨ en x.1 ∈ F) → bg x.1 ∈ F ∧ en x.1 ∈ F) (fun R hR => ?_) ?_
  ·refine ⟨fun m σ H4 => ∃ (F : List Str) (n : Nat) (z3 z4 : Option V), σ = [some (.ref q), some (.ref d), some (.int (n : Int)), z3, z4] ∧ Same H H4 ∧ H4 d = some (.dK (bD F)) ∧ Wk es (bg e.1) ks F [] ∧ (n < F.length ∨ ∀ x ∈ es, (bg x.1 ∈ F ∨ en x.1 ∈ F) → bg x.1 ∈ F ∧ en x.1 ∈ F) ∧ m = 1000 - n,
    ⟨_, [bg e.1], 0, none, none, rfl, s2, hd2, ⟨by simp, by simp, (fun x hx => by rw [List.mem_singleton.mp hx]; exact .here), (fun x hx => by cases hx), fun x hx => by rw [List.mem_singleton.mp hx]; exact hb e hhead⟩, .inl (by simp), rfl⟩, ?_⟩
   rintro m σ H4 ⟨F, n, z3, z4, rfl, s4, hd4, hW, hor, hm⟩
   have hle := hW.le
   refine ⟨_, rfl, _, rfl, d, _, rfl, hd4, _, _, rfl, rfl, _, rfl, ?_⟩
   rw [bD_len]
   by_cases c : ¬ n < F.length
   ·refine iteM (decide_eq_false (by omega)) (hR _ _ ⟨F, _, z3, z4, rfl, s4, hd4, hW, hor.resolve_left c⟩)
   have c := Classical.not_not.mp c
   refine iteP (decide_eq_true (by omega)) ?_
   refine ⟨fun σ' H' => ∃ m', m' < m ∧ ∃ (F : List Str) (n : Nat) (z3 z4 : Option V), σ' = [some (.ref q), some (.ref d), some (.int (n : Int)), z3, z4] ∧ Same H H' ∧ H' d = some (.dK (bD F)) ∧ Wk es (bg e.1) ks F [] ∧ (n < F.length ∨ ∀ x ∈ es, (bg x.1 ∈ F ∨ en x.1 ∈ F) → bg x.1 ∈ F ∧ en x.1 ∈ F) ∧ m' = 1000 - n, fun _ _ z => z, ?_⟩
   refine ⟨_, rfl, d, _, rfl, hd4, ?_⟩
   rw [bD_len]
   refine ⟨_, rfl, q, rfl, ⟨_, SqT.of (s4 _ _ hq)⟩, ?_⟩
   refine for_tup (K := K) (a := q) (xs := vs) (fun j σ' H' => ∃ (F' : List Str) (z3 z4 : Option V), σ' = [some (.ref q), some (.ref d), some (.int (F.length : Int)), z3, z4] ∧ Same H H' ∧ H' d = some (.dK (bD F')) ∧ Wk es (bg e.1) ks F' [] ∧ (F' = F ∨ F.length < F'.length) ∧ (∀ x ∈ F, x ∈ F') ∧ ∀ x ∈ es.take j, (bg x.1 ∈ F ∨ en x.1 ∈ F) → bg x.1 ∈ F' ∧ en x.1 ∈ F')
    ⟨F, z3, z4, rfl, s4, hd4, hW, .inl rfl, fun x hx => hx, fun x hx => by rw [List.take_zero] at hx; cases hx⟩
    (fun i σ' H' _ ⟨_, _, _, _, s6, _⟩ => SqT.of (s6 _ _ hq)) ?_ ?_
   ·rintro i x σ' H6 hi ⟨F6, z3', z4', rfl, s6, hd6, hW6, hor6, hsub6, hcl6⟩
    have hiv : i < vs.length := (List.getElem?_eq_some_iff.mp hi).1
    have hie : i < es.length := by rw [← hpa.1]; exact hiv
    obtain ⟨b, e1, e2⟩ := hpa.2 i es[i] (List.getElem?_eq_getElem hie)
    rw [hi] at e1
    cases e1
    obtain ⟨m1, m2⟩ := hF.long es[i] (List.getElem_mem hie)
    have het : es.take (i + 1) = es.take i ++ [es[i]] := List.take_succ_eq_append_getElem hie
    have hmem : es[i] ∈ es := List.getElem_mem hie
    refine ⟨b, _, rfl, SqT.of (s6 _ _ e2), rfl, _, _, rfl, _, _, rfl, rfl, ?_⟩
    generalize es[i] = y at *
    have hle6 := hW6.le
    have eb := slice_bg m1
    have ee := slice_en m1
    have stay : (bg y.1 ∈ F6 ∨ en y.1 ∈ F6) → bg y.1 ∈ addK (addK F6 (bg y.1)) (en y.1) ∧ Wk es (bg e.1) ks (addK (addK F6 (bg y.1)) (en y.1)) [] := fun hh => by
     have r1 : Rch es (bg e.1) (bg y.1) ∧ Rch es (bg e.1) (en y.1) := by
      rcases hh with z | z
      ·exact ⟨hW6.rch _ z, .step (hW6.rch _ z) ⟨y, hmem, .inl ⟨rfl, rfl⟩⟩⟩
      ·exact ⟨.step (hW6.rch _ z) ⟨y, hmem, .inr ⟨rfl, rfl⟩⟩, hW6.rch _ z⟩
     refine ⟨by simp [addK_mem], addK_nd (addK_nd hW6.nd), by simp [addK_mem, hW6.fst], fun x hx => ?_, (fun x hx => by cases hx), fun x hx => ?_⟩
     ·rcases addK_mem.mp hx with z | z
      ·rcases addK_mem.mp z with z | z
       ·exact hW6.rch _ z
       ·rw [z]; exact r1.1
      ·rw [z]; exact r1.2
     ·rcases addK_mem.mp hx with z | z
      ·rcases addK_mem.mp z with z | z
       ·exact hW6.inn _ z
       ·rw [z]; exact hb y hmem
      ·rw [z]; exact hn y hmem
    have fin : (bg y.1 ∈ F6 ∨ en y.1 ∈ F6) → ∃ (F' : List Str) (z3 z4 : Option V), [some (.ref q), some (.ref d), some (.int (F.length : Int)), some (V.str y.1), some (.int y.2)] = [some (.ref q), some (.ref d), some (.int (F.length : Int)), z3, z4] ∧ Same H (upd H6 d (.dK (bD (addK (addK F6 (bg y.1)) (en y.1))))) ∧ (upd H6 d (.dK (bD (addK (addK F6 (bg y.1)) (en y.1))))) d = some (.dK (bD F')) ∧ Wk es (bg e.1) ks F' [] ∧ (F' = F ∨ F.length < F'.length) ∧ (∀ x ∈ F, x ∈ F') ∧ ∀ x ∈ es.take (i + 1), (bg x.1 ∈ F ∨ en x.1 ∈ F) → bg x.1 ∈ F' ∧ en x.1 ∈ F' := fun hh => by
     refine ⟨_, _, _, rfl, sh _ s6, upd_same, (stay hh).2, ?_, fun x hx => by simp [addK_mem, hsub6 x hx], fun x hx hx2 => ?_⟩
     ·have h1 := addK_or F6 (bg y.1)
      have h2 := addK_or (addK F6 (bg y.1)) (en y.1)
      rcases h1 with h1 | h1 <;> rcases h2 with h2 | h2
      ·rw [h2, h1]
       exact hor6
      ·right
       rw [h1] at h2 ⊢
       rcases hor6 with z | z
       ·rw [z] at h2 ⊢
        exact h2
       ·omega
      ·right
       rw [h2]
       rcases hor6 with z | z
       ·rw [z] at h1 ⊢
        exact h1
       ·omega
      ·right
       rcases hor6 with z | z
       ·rw [← z]
        omega
       ·omega
     ·rw [het] at hx
      rcases List.mem_append.mp hx with z | z
      ·have := hcl6 x z hx2
       simp [addK_mem, this.1, this.2]
      ·rw [List.mem_singleton.mp z]
       simp [addK_mem]
    refine ⟨_, rfl, _, rfl, _, rfl, _, rfl, len_size m2, ?_⟩
    refine ⟨_, rfl, d, valV (bD F6) (Sum.inr (bg y.1)), rfl, .inl ⟨_, Sum.inr (bg y.1), .inl hd6, by rw [← eb]; rfl, rfl⟩, ?_⟩
    rw [bD_val]
    by_cases c1 : bg y.1 ∈ F6
    ·rw [if_pos c1]
     refine ⟨_, rfl, iteP rfl (iteP rfl ?_)⟩
     refine ⟨_, rfl, _, rfl, _, rfl, _, rfl, _, rfl, len_size m2, d, _, rfl, .inl ⟨_, Sum.inr (bg y.1), hd6, by rw [← eb]; rfl, by rw [bD_len]; exact small1000 (by omega), rfl⟩, ?_⟩
     rw [bD_put]
     have hd7 : (upd H6 d (.dK (bD (addK F6 (bg y.1))))) d = some (.dK (bD (addK F6 (bg y.1)))) := upd_same
     have hal := addK_len F6 (bg y.1)
     refine ⟨_, rfl, _, rfl, _, rfl, _, rfl, len_size m2, d, _, rfl, .inl ⟨_, Sum.inr (en y.1), hd7, by rw [← ee]; rfl, by rw [bD_len]; exact small1000 (by omega), rfl⟩, ?_⟩
     rw [bD_put, upd_upd]
     exact fin (.inl c1)
    rw [if_neg c1]
    refine ⟨_, rfl, iteM rfl ⟨_, rfl, _, rfl, _, rfl, len_size m2, _, rfl, d, valV (bD F6) (Sum.inr (en y.1)), rfl, .inl ⟨_, Sum.inr (en y.1), .inl hd6, by rw [← ee]; rfl, rfl⟩, ?_⟩⟩
    rw [bD_val]
    by_cases c2 : en y.1 ∈ F6
    ·rw [if_pos c2]
     refine ⟨_, rfl, iteP rfl ?_⟩
     refine ⟨_, rfl, _, rfl, _, rfl, _, rfl, _, rfl, len_size m2, d, _, rfl, .inl ⟨_, Sum.inr (bg y.1), hd6, by rw [← eb]; rfl, by rw [bD_len]; exact small1000 (by omega), rfl⟩, ?_⟩
     rw [bD_put]
     have hd7 : (upd H6 d (.dK (bD (addK F6 (bg y.1))))) d = some (.dK (bD (addK F6 (bg y.1)))) := upd_same
     have hal := addK_len F6 (bg y.1)
     refine ⟨_, rfl, _, rfl, _, rfl, _, rfl, len_size m2, d, _, rfl, .inl ⟨_, Sum.inr (en y.1), hd7, by rw [← ee]; rfl, by rw [bD_len]; exact small1000 (by omega), rfl⟩, ?_⟩
     rw [bD_put, upd_upd]
     exact fin (.inr c2)
    rw [if_neg c2]
    refine ⟨_, rfl, iteM rfl ⟨F6, _, _, rfl, s6, hd6, hW6, hor6, hsub6, fun x hx hx2 => ?_⟩⟩
    rw [het] at hx
    rcases List.mem_append.mp hx with z | z
    ·exact hcl6 x z hx2
    ·rw [List.mem_singleton.mp z] at hx2 ⊢
     rcases hx2 with w | w
     ·exact absurd (hsub6 _ w) c1
     ·exact absurd (hsub6 _ w) c2
   ·rintro σ' H6 ⟨F6, z3', z4', rfl, s6, hd6, hW6, hor6, hsub6, hcl6⟩
    rw [hpa.1, List.take_length] at hcl6
    refine ⟨_, ?_, F6, F.length, _, _, rfl, s6, hd6, hW6, ?_, rfl⟩
    ·omega
    ·rcases hor6 with z | z
     ·subst z
      exact .inr hcl6
     ·exact .inl z
  ·rintro σ H4 ⟨F, z2, z3, z4, rfl, s4, hd4, hW, hcl⟩
   have hle := hW.le
   refine ⟨_, rfl, d, F, fun _ => .bl true, rfl, hd4, by omega, fun p ss hp hpm hsrt => ?_⟩
   refine ⟨p, _, rfl, .inl ⟨SqL.of upd_same, fun l hl => ?_⟩⟩
   refine k (.ref l) _ ss ((s4.trans (same_upd_new hp)).trans (same_upd_new hl)) ⟨l, rfl, upd_same⟩ (lt_of_nd (hpm.nodup_iff.mpr hW.nd) hsrt) (by rw [hpm.length_eq]; omega) fun x => ?_
   rw [hpm.mem_iff]
   refine ⟨hW.rch x, fun z => ?_⟩
   refine Rch.closed (F := fun x => x ∈ F) hW.fst (fun P' hP y hy => ?_) z
   obtain ⟨x', hx', ⟨q1, q2⟩ | ⟨q1, q2⟩⟩ := hy
   ·rw [← q2]
    exact (hcl x' hx' (.inl (q1 ▸ hP))).2
   ·rw [← q2]
    exact (hcl x' hx' (.inr (q1 ▸ hP))).1
end
theorem nodup_srt {l : List Str} (h : (l.map fun x => x.cps.toList).Pairwise (· < ·)) : l.Nodup := by
 rw [List.pairwise_map] at h
 refine h.imp fun {a b} q e => ?_
 rw [e] at q
 exact absurd q (List.lt_irrefl _)
theorem heap_back {es : Es} {L : Nat} {z : List Nat} {ks ss : List Str} (hF : Hpy es L) (hp : (pcs z L).Perm (flatE es)) (hk : CntD (pcs z L) ks) (hpm : ss.Perm ks) (hs : (ss.map fun x => x.cps.toList).Pairwise (· < ·)) : (ss.map fun x => (x, cnt (pcs z L) x)) = es := by
 have e1 : ss = es.map (·.1) := srt_one hs hF.srt fun x => by
  rw [hpm.mem_iff, hk.mem, hp.mem_iff, flatE_mem hF.pos, List.mem_map]
 rw [e1, List.map_map]
 have nd : (es.map (·.1)).Nodup := nodup_srt hF.srt
 have h0 : ∀ e ∈ es, 0 ≤ e.2 := fun e he => by have := hF.pos e he; omega
 have : es.map ((fun x => (x, cnt (pcs z L) x)) ∘ fun e => e.1) = es.map id := List.map_congr_left fun e he => by
  show (e.1, cnt (pcs z L) e.1) = e
  unfold cnt
  rw [hp.count_eq, count_E nd h0 e he]
 rw [this, List.map_id]
theorem flatE_pos {e0 : Str × Int} {es0 : Es} {L : Nat} (hF : Hpy (e0 :: es0) L) : 0 < (flatE (e0 :: es0)).length := by
 have h := hF.pos e0 (List.mem_cons_self ..)
 rw [flatE_cons, List.length_append, List.length_replicate]
 omega
theorem flatE_len {es : Es} {L : Nat} (hF : Hpy es L) : ∀ x ∈ flatE es, x.length = L := fun x hx => by
 obtain ⟨e, he, rfl⟩ := (flatE_mem hF.pos x).mp hx
 exact hF.len e he
theorem lay_pairs : ∀ es : Es, (∀ e ∈ es, Cd e.1.cps.toList) → PyData.canLayAll0 (es.map fun e => .tuple [.str e.1, .int e.2]) = true ∧ PyData.depthAll (es.map fun e => .tuple [.str e.1, .int e.2]) ≤ 1
 | [], _ => by simp [PyData.canLayAll0, PyData.depthAll]
 | e :: es, h => by
  obtain ⟨h1, h2⟩ := lay_pairs es fun d hd => h d (List.mem_cons_of_mem _ hd)
  rw [List.map_cons, PyData.canLayAll0, PyData.depthAll, h1]
  refine ⟨by simp [PyData.canLay0, PyData.canLayAll0, strOk_cd (h e List.mem_cons_self)], ?_⟩
  simp [PyData.depth, PyData.depthAll]
  exact Nat.max_le.mpr ⟨Nat.le_refl _, h2⟩
theorem shaped_pairs {es : Es} (h : ∀ e ∈ es, Cd e.1.cps.toList) : SeqAt.shaped (pairD es) = true := by
 obtain ⟨h1, h2⟩ := lay_pairs es h
 unfold SeqAt.shaped pairD
 rw [Bool.and_eq_true]
 constructor
 ·rw [PyData.canLay0]
  exact h1
 ·refine decide_eq_true ?_
  rw [PyData.depth]
  omega
theorem eqv_sh {d : PyData} (h : SeqAt.shaped d = true) : PyData.eqv d d = true := SeqAt.eqv_refl d (SeqAt.canLay_of_shaped h)
theorem inV_strs (y : Str) (ps : List Str) : inV (.str y) (ps.map V.str) = decide (y ∈ ps) := by
 unfold inV
 rw [Bool.eq_iff_iff, List.any_eq_true, decide_eq_true_eq]
 constructor
 ·rintro ⟨v, hv, e⟩
  obtain ⟨p, hp, rfl⟩ := List.mem_map.mp hv
  have : p = y := by first | exact of_decide_eq_true e | exact (of_decide_eq_true e).symm
  rw [← this]
  exact hp
 ·intro h
  exact ⟨.str y, List.mem_map_of_mem h, decide_eq_true rfl⟩
section
variable {P : Program} {w : World} {K : PySem.W.Frag} {mg : Str → Option Value} {base : Heap}
abbrev sLJudged : Stmt := top 29
noncomputable abbrev nLJudged : List Str := ["_law_heap", "_law_told", "_law_begins_here", "_law_come_here"]
theorem scLJudged : FnScope nLJudged ["_law_heap"] (defScope sLJudged) := ⟨rfl, rfl, rfl, by decide +kernel, rfl, by decide +kernel, by decide +kernel⟩
def spJudged : Sp := fun vs H Q _ => ∃ (v : V) (e0 : Str × Int) (es0 : Es) (L : Nat), vs = [v] ∧ HeapV H v (e0 :: es0) ∧ Hpy (e0 :: es0) L ∧ ∀ H', Same H H' → Q (.bl true) H'
set_option maxHeartbeats 16000000 in
theorem ok_l_judged (D : HasDef K mg "_law_judged" sLJudged ["_law_heap"]) (B : Blt mg) (G_verdict : FOk P w K mg base 5 "verdict" ["H"] spVerdict) (G__law_begins : FOk P w K mg base 5 "_law_begins" ["_law_heap"] spLBegins) (G__law_alike : FOk P w K mg base 5 "_law_alike" ["_law_found", "_law_due"] (spAle 2)) (G__law_come : FOk P w K mg base 5 "_law_come" ["_law_heap"] spCome) (G__law_torn : FOk P w K mg base 5 "_law_torn" ["_law_signs", "_law_long"] spTorn) : FOk P w K mg base 6 "_law_judged" ["_law_heap"] spJudged := by
 refine D.ok scLJudged (fun vs H Q E h => ?_) (fun f cdv A outer s H vs Q E hr h => ?_)
 ·obtain ⟨v, e0, es0, L, rfl, _⟩ := h
  rfl
 ·obtain ⟨v, e0, es0, L, rfl, hV, hF, k⟩ := h
  have hu := hu_of hr
  refine ⟨_, (pss_cons (ps_set (i := 1) scLJudged.nd rfl (Or.inl rfl) (pe_fn G_verdict hr (pa_cons (pv 0) pa_nil)))
   (pss_cons (ps_if (PW.pt (pw_or (pt_not (pt_val (pe_callB call_isiB rfl B.isi b_isi (pa_cons (pv 1) (pa_cons (pe_ty rfl B.tuple b_tuple) pa_nil))))) (pw_or (pt_cmpR op_ne (pe_callB call_len rfl B.len b_len (pa_cons (pv 1) pa_nil)) pe_int (nomark _)) (pw_or1 (pt_not (pt_val (pe_callB call_isiB rfl B.isi b_isi (pa_cons (pe_ix ix_tup (pv 1) pe_int (fun _ _ => rfl)) (pa_cons (pe_ty rfl B.str b_str) pa_nil))))))))) (pss_one (ps_ret pe_bl)) pss_nil)
   (pss_cons (ps_set (i := 2) scLJudged.nd rfl (Or.inl rfl) (pe_fn G__law_begins hr (pa_cons (pv 0) pa_nil)))
   (pss_cons (ps_if (pt_cmpR op_gt (pe_callB (call_sumL rfl) rfl B.sum b_sum (pa_cons (pe_lcomp (defScope sLJudged) nLJudged ["_law_point", "_law_more"] [] rfl (pi_tup (pv 2)) (fun _ _ _ _ _ => pg_tupK 2 K rfl (pgs_cons (pg_lc 0) (pgs_cons (pg_lc 1) pgs_nil))) (fun _ _ _ _ _ => pcs_nil) (fun _ _ _ _ _ => (pv 1))) pa_nil)) pe_int (nomark _)) (pss_one (ps_ret (pe_and (pe_cmpR op_eq (pe_ix ix_tup (pv 1) pe_int (fun _ _ => rfl)) pe_str (nomark _)) (pe_one (pe_fn G__law_alike hr (pa_cons (pe_ix ix_tup (pv 1) pe_int (fun _ _ => rfl)) (pa_cons (pv 2) pa_nil))))))) pss_nil)
   (pss_cons (ps_set (i := 3) scLJudged.nd rfl (Or.inr rfl) (pe_fn G__law_come hr (pa_cons (pv 0) pa_nil)))
   (pss_cons (ps_if (pt_cmpR (op_neD hr.units) (pe_lcomp (defScope sLJudged) nLJudged ["_law_piece_here", "_law_many"] [3] rfl (pi_tup (pv 0)) (fun _ _ _ _ _ => pg_tupK 2 K rfl (pgs_cons (pg_lc 0) (pgs_cons (pg_lc 1) pgs_nil))) (fun _ _ _ _ _ => pcs_one (pt_cmpR (op_notIn_seqK K) (pe_slice sl_str (pv 0) po_none (po_some (pe_un un_neg pe_int))) (pv 2) rfl)) (fun _ _ _ _ _ => (pv 0))) (pe_lst pa_nil) (nomark _)) (pss_one (ps_ret (pe_and (pe_cmpR op_eq (pe_ix ix_tup (pv 1) pe_int (fun _ _ => rfl)) pe_str (nomark _)) (pe_one (pe_fn G__law_alike hr (pa_cons (pe_ix ix_tup (pv 1) pe_int (fun _ _ => rfl)) (pa_cons (pv 3) pa_nil))))))) pss_nil)
   (pss_cons (ps_if (PW.pt (pw_or (pt_cmpR op_ne (pe_ix ix_tup (pv 1) pe_int (fun _ _ => rfl)) pe_str (nomark _)) (pw_or1 (pt_not (pt_val (pe_callB call_isiB rfl B.isi b_isi (pa_cons (pe_ix ix_tup (pv 1) pe_int (fun _ _ => rfl)) (pa_cons (pe_ty rfl B.str b_str) pa_nil)))))))) (pss_one (ps_ret pe_bl)) pss_nil)
   (pss_one (ps_ret (pe_cmpR (op_eqD hr.units) (pe_callTy call_tuple_of rfl B.tuple b_tuple (pa_cons (pe_callB (call_sortedI2 rfl) rfl B.sorted b_sorted (pa_cons (pe_items (pe_fn G__law_torn hr (pa_cons (pe_ix ix_tup (pv 1) pe_int (fun _ _ => rfl)) (pa_cons (pe_callB call_len rfl B.len b_len (pa_cons (pe_ix ix_tup (pe_ix ix_tup (pv 0) pe_int (fun _ _ => rfl)) pe_int (fun _ _ => rfl)) pa_nil)) pa_nil)))) pa_nil)) pa_nil)) (pv 0) (nomark _))))))))))), ?_⟩
  have hfew := hF.fine.few
  refine ⟨_, rfl, v, e0, es0, L, rfl, hV, hF, fun v' H1 s1 hver => ?_⟩
  obtain ⟨q, wd, x, ss, rfl, hq, hss, hcase⟩ := id hver
  have hssl := hss.pts.len
  refine ⟨_, rfl, .ref q, "tuple", "tuple", rfl, by decide, .tup hq, _, rfl, iteM (by decide) ?_⟩
  refine ⟨_, rfl, .ref q, _, rfl, .inr ⟨_, SqT.of hq, rfl⟩, rfl, _, rfl, iteM (by rw [int_is (show (([V.str wd, x].length : Nat) : Int) = 2 from rfl)]; rfl) ?_⟩
  refine ⟨_, rfl, q, _, 0, .str wd, rfl, rfl, SqT.of hq, rfl, .str wd, "str", "str", rfl, by decide, .str wd, _, rfl, iteM (by decide) ?_⟩
  have hV1 := hV.same s1
  refine ⟨_, rfl, v, _, rfl, hV1, hF.fine, fun vb H2 us s2 hvb hus hum => ?_⟩
  have eu := ups_one hss hus hum
  rw [eu] at hvb
  obtain ⟨b1, b2, b3⟩ := ups_long hF.fine (f := mo (e0 :: es0)) (fun _ => rfl) hss
  obtain ⟨qb, vbs, rfl, hqb, hpab⟩ := id hvb
  refine ⟨_, rfl, qb, rfl, ⟨_, SqT.of hqb⟩, lc_snd rfl hqb hpab b3 fun D1 H3 s3 hD => ⟨D1, _, rfl, SqL.of hD, b1, b2, _, _, rfl, rfl, _, rfl, ?_⟩⟩
  show if decide (1 < sm (ups (mo (e0 :: es0)) ss)) = true then _ else _
  have s23 := s2.trans s3
  have hq3 := s23 _ _ hq
  by_cases c1 : 1 < sm (ups (mo (e0 :: es0)) ss)
  ·refine iteP (decide_eq_true c1) ?_
   rcases hcase with ⟨rfl, _, hx⟩ | ⟨_, c, _⟩ | ⟨_, c, _⟩
   ·refine ⟨_, rfl, q, _, 0, .str "begins", rfl, rfl, SqT.of hq3, rfl, rfl, _, rfl, iteP (by decide) ?_⟩
    refine ⟨_, rfl, q, _, 1, x, rfl, rfl, SqT.of hq3, rfl, _, rfl, 2, Nat.le_refl _, x, .ref qb, pairD (ups (mo (e0 :: es0)) ss), rfl, heap_rep (hx.same s23), heap_rep (hvb.same s3), flat_pairs b3, fun H4 s4 => k _ ((s1.trans s23).trans s4)⟩
   ·exact absurd c1 c
   ·exact absurd c1 c
  refine iteM (decide_eq_false c1) ?_
  have hV3 := hV1.same s23
  refine ⟨_, rfl, v, e0, es0, rfl, hV3, hF.fine, fun vc H4 ps s4 hps hpsr hpl hpm => ?_⟩
  obtain ⟨qc, rfl, hqc⟩ := id hps
  have hV4 := hV3.same s4
  have s14 := (s1.trans s23).trans s4
  have hq4 := s4 _ _ hq3
  obtain ⟨qv, vs, rfl, hqv, hpa⟩ := id hV4
  have hvl := hpa.1
  have hhang : Hang e0 es0 ↔ ∀ e ∈ e0 :: es0, bg e.1 ∈ ps := ⟨fun h e he => (hpm _).mpr (h e he), fun h e he => (hpm _).mp (h e he)⟩
  refine ⟨_, rfl, qv, rfl, ⟨_, SqT.of hqv⟩, lc_fmap vs.length (fun i => vs.getD i .non) (fun i => !decide (bg ((e0 :: es0).getD i ("", 0)).1 ∈ ps)) (fun i v _ => v = .str ((e0 :: es0).getD i ("", 0)).1) (few_size (by omega)) (fun _ _ _ _ _ r => r) (jt_tup (SqT.of hqv)) ?_ ?_⟩
  ·intro i H5 Qt Qf hi hs ht hf
   have hie : i < (e0 :: es0).length := by omega
   obtain ⟨b, e1, e2⟩ := hpa.2 i (e0 :: es0)[i] (List.getElem?_eq_getElem hie)
   have ev : vs.getD i .non = .ref b := by rw [List.getD_eq_getElem?_getD, e1]; rfl
   have ee : (e0 :: es0).getD i ("", 0) = (e0 :: es0)[i] := by rw [List.getD_eq_getElem?_getD, List.getElem?_eq_getElem hie]; rfl
   obtain ⟨l1, l2⟩ := hF.fine.long (e0 :: es0)[i] (List.getElem_mem hie)
   rw [ee] at ht hf
   rw [ev]
   have eb := slice_bg l1
   refine ⟨b, _, rfl, SqT.of (hs _ _ e2), rfl, _, _, rfl, _, _, rfl, rfl, _, rfl, _, rfl, _, rfl, _, rfl, len_size l2, _, rfl, qc, _, rfl, .inr (SqT.of (hs _ _ hqc)), rfl, flat_all ps, _, rfl, ?_⟩
   rw [eb]
   show if (!inV (.str (bg (e0 :: es0)[i].1)) (ps.map V.str)) = true then _ else _
   rw [inV_strs]
   by_cases c : bg (e0 :: es0)[i].1 ∈ ps
   ·exact iteM (by rw [decide_eq_true c]; rfl) (hf (by rw [decide_eq_true c]; rfl) _ (Same.refl _))
   ·exact iteP (by rw [decide_eq_false c]; rfl) ⟨_, rfl, ht (by rw [decide_eq_false c]; rfl) _ _ (Same.refl _) rfl⟩
  intro D2 vs2 H5 hl2 hR2 s5 hD2 hDl2
  obtain ⟨fs, rfl, hfs, hfl⟩ := strs_fil hl2 (fun i hi => by have := List.mem_range.mp (List.mem_filter.mp hi).1; omega) hR2
  refine ⟨few_size (show 0 ≤ 1000 by decide), fun p0 hp0 => ?_⟩
  have s6 := same_upd_new (o := .lst []) hp0
  refine ⟨.list (fs.map PyData.str), .list (([] : List Str).map PyData.str), rep_slist (s6 _ _ hDl2), rep_slist (ps := []) upd_same, shaped_strs (fun p hp => ?_), shaped_strs (fun p hp => by cases hp), _, rfl, ?_⟩
  ·obtain ⟨e', he', rfl⟩ := hfs p hp
   exact strOk_cd (hF.cd e' he')
  rw [eqv_strs]
  have s56 := s5.trans s6
  have s16 := s14.trans s56
  have hq6 := s56 _ _ hq4
  have hqc6 := s56 _ _ hqc
  have hV6 := hV4.same s56
  generalize upd H5 p0 (.lst []) = H6 at s16 hq6 hqc6 hV6 s56
  have hemp : fs.isEmpty = true ↔ Hang e0 es0 := by
   rw [hhang, List.isEmpty_iff]
   constructor
   ·intro h e' he'
    obtain ⟨i, hi, rfl⟩ := List.mem_iff_getElem.mp he'
    rw [h] at hfl
    have h0 := List.filter_eq_nil_iff.mp (List.length_eq_zero_iff.mp hfl.symm) i (List.mem_range.mpr (by omega))
    rw [List.getD_eq_getElem?_getD, List.getElem?_eq_getElem hi, Option.getD_some] at h0
    refine Classical.byContradiction fun z => h0 ?_
    rw [decide_eq_false z]
    rfl
   ·intro h
    apply List.eq_nil_of_length_eq_zero
    rw [hfl, List.length_eq_zero_iff, List.filter_eq_nil_iff]
    intro i hi
    have hi' : i < (e0 :: es0).length := by have := List.mem_range.mp hi; omega
    rw [List.getD_eq_getElem?_getD, List.getElem?_eq_getElem hi', Option.getD_some, decide_eq_true (h _ (List.getElem_mem hi'))]
    decide
  by_cases c2 : Hang e0 es0
  rotate_left
  ·have hf : fs.isEmpty = false := by
    cases hh : fs.isEmpty with
    | true => exact absurd (hemp.mp hh) c2
    | false => rfl
   refine iteP (by rw [hf]; rfl) ?_
   rcases hcase with ⟨_, c, _⟩ | ⟨rfl, _, _, ps2, hps2, hps2r, hps2l, hps2m⟩ | ⟨_, _, c, _⟩
   ·exact absurd c c1
   ·have ep : ps2 = ps := srt_one hps2r hpsr fun y => by rw [hps2m, hpm]
    subst ep
    refine ⟨_, rfl, q, _, 0, .str "apart", rfl, rfl, SqT.of hq6, rfl, rfl, _, rfl, iteP (by decide) ?_⟩
    refine ⟨_, rfl, q, _, 1, x, rfl, rfl, SqT.of hq6, rfl, _, rfl, 1, by decide, x, .ref qc, .tuple (ps2.map PyData.str), rfl, rep_stup (hps2.same ((s23.trans s4).trans s56)), rep_stup ⟨qc, rfl, hqc6⟩, flat_strs (by omega), fun H7 s7 => k _ (s16.trans s7)⟩
   ·exact absurd c c2
  refine iteM (by rw [hemp.mpr c2]; rfl) ?_
  rcases hcase with ⟨_, c, _⟩ | ⟨_, _, c, _⟩ | ⟨rfl, _, _, b, X, rfl, hb, hX, hE, hbl⟩
  ·exact absurd c c1
  ·exact absurd c2 c
  refine ⟨_, rfl, q, _, 0, .str "text", rfl, rfl, SqT.of hq6, rfl, rfl, _, rfl, iteM (by decide) ?_⟩
  refine ⟨_, rfl, q, _, 1, .str (tx (spell (e0 :: es0) b X)), rfl, rfl, SqT.of hq6, rfl, .str (tx (spell (e0 :: es0) b X)), "str", "str", rfl, by decide, .str _, _, rfl, iteM (by decide) ?_⟩
  have hfp := flatE_pos hF
  have hperm := spell_perm hF.l1 (flatE_len hF) hE hbl hfp
  have hXl : X.length = (flatE (e0 :: es0)).length := by rw [hE.1.length_eq, List.length_range, tsE_len]
  have hsl : (spell (e0 :: es0) b X).length = L - 1 + X.length := by
   unfold spell
   rw [List.length_append, List.length_map, len_codes, hbl]
  have hl1 := hF.l1
  have hl3 := hF.l3
  have htot := hF.tot
  generalize spell (e0 :: es0) b X = z at *
  obtain ⟨qv', vs', eqv', hqv6, hpa6⟩ := id hV6
  cases eqv'
  obtain ⟨b0, f1, f2⟩ := hpa6.2 0 e0 rfl
  obtain ⟨l1, l2⟩ := hF.fine.long e0 (List.mem_cons_self ..)
  have hlen0 := hF.len e0 (List.mem_cons_self ..)
  refine ⟨_, rfl, q, _, 1, .str (tx z), rfl, rfl, SqT.of hq6, rfl, _, rfl, qv, vs', 0, .ref b0, rfl, rfl, SqT.of hqv6, item_at (by decide) f1, b0, _, 0, .str e0.1, rfl, rfl, SqT.of f2, rfl, .str e0.1, e0.1.length, rfl, ⟨len_size l2, rfl⟩, z, e0.1.length, rfl, l1, by omega, by omega, fun d H7 ks hd s7 hdd hk => ?_⟩
  rw [hlen0] at hdd hk
  have hpl2 := hk.len
  rw [hperm.length_eq] at hpl2
  refine ⟨d, _, rfl, hdd, fun p2 hp2 => ⟨p2, d, ks, fun x => .int (cnt (pcs z L) x), rfl, upd_same, same_upd_new hp2 _ _ hdd, hk.nd, by omega, fun D3 H10 vs3 ss3 s10 hpm3 hsrt3 hD3 hvl3 hv3 => ⟨D3, vs3, rfl, .inl ⟨SqL.of hD3, fun q3 hq3' => ?_⟩⟩⟩⟩
  have s11 := same_upd_new (o := .tup vs3) hq3'
  have hVn : HeapV (upd H10 q3 (.tup vs3)) (.ref q3) (ss3.map fun x => (x, cnt (pcs z L) x)) := ⟨q3, vs3, rfl, upd_same, (pa_items hvl3 hv3).same s11.tup⟩
  rw [heap_back hF hperm hk hpm3 hsrt3] at hVn
  have s711 := ((s7.trans (same_upd_new hp2)).trans s10).trans s11
  have hsh := shaped_pairs hF.cd
  refine ⟨_, rfl, pairD (e0 :: es0), pairD (e0 :: es0), heap_rep hVn, heap_rep (hV6.same s711), hsh, hsh, ?_⟩
  rw [eqv_sh hsh]
  exact k _ (s16.trans s711)
end
theorem slice_sub {z : List Nat} {lo hi : Option Int} : ∃ u : List Nat, Txt.slice (tx z) lo hi = tx u ∧ u.length ≤ z.length ∧ ∀ c ∈ u, c ∈ z := by
 refine ⟨(Txt.slice (tx z) lo hi).cps.toList, (tx_eta _).symm, ?_, fun c hc => ?_⟩
 ·rw [len_codes]
  have := Txt.slice_le (tx z) lo hi
  rw [tx_len] at this
  exact this
 ·unfold Txt.slice at hc
  split at hc
  ·rw [tx_list] at hc
   exact hc
  ·obtain ⟨i, _, hi⟩ := List.mem_filterMap.mp (by simpa using hc)
   have : (tx z).cps.toList[i]? = some c := by rw [Array.getElem?_toList]; exact hi
   rw [tx_list] at this
   exact List.mem_of_getElem? this
theorem pcs_cd {z : List Nat} {L : Nat} (h : Cd z) : ∀ x ∈ pcs z L, Cd x.cps.toList := fun x hx => by
 unfold pcs at hx
 obtain ⟨i, _, rfl⟩ := List.mem_map.mp hx
 rw [tx_list]
 exact fun c hc => h c (List.mem_of_mem_drop (List.mem_of_mem_take hc))
theorem pcs_long {z : List Nat} {L : Nat} (h1 : 1 ≤ L) (h2 : L ≤ z.length) : ∀ x ∈ pcs z L, x.length = L := fun x hx => by
 unfold pcs at hx
 obtain ⟨i, hi, rfl⟩ := List.mem_map.mp hx
 have := List.mem_range.mp hi
 rw [tx_len, List.length_take, List.length_drop]
 omega
noncomputable def tN (ks : List Str) (g : Str → Int) : Nat := (ks.map fun x => (g x).toNat).sum
theorem tN_cons (x : Str) (ks : List Str) (g : Str → Int) : tN (x :: ks) g = (g x).toNat + tN ks g := by
 unfold tN
 rw [List.map_cons, List.sum_cons]
theorem tN_append (ks ls : List Str) (g : Str → Int) : tN (ks ++ ls) g = tN ks g + tN ls g := by
 unfold tN
 rw [List.map_append, List.sum_append]
theorem tN_perm {ks ls : List Str} (h : ks.Perm ls) (g : Str → Int) : tN ks g = tN ls g := by
 induction h with
 | nil => rfl
 | cons x _ ih => rw [tN_cons, tN_cons, ih]
 | swap x y l => rw [tN_cons, tN_cons, tN_cons, tN_cons]; omega
 | trans _ _ a b => exact a.trans b
theorem tN_le {ks : List Str} {g g' : Str → Int} (h : ∀ x ∈ ks, g' x ≤ g x) : tN ks g' ≤ tN ks g := by
 induction ks with
 | nil => exact Nat.le_refl _
 | cons x ks ih =>
  rw [tN_cons, tN_cons]
  have h1 := h x (List.mem_cons_self ..)
  have h2 := ih fun y hy => h y (List.mem_cons_of_mem _ hy)
  omega
theorem tN_filter {ks : List Str} {g : Str → Int} (p : Str → Bool) : tN (ks.filter p) g ≤ tN ks g := by
 induction ks with
 | nil => exact Nat.le_refl _
 | cons x ks ih =>
  rw [List.filter_cons]
  split
  ·rw [tN_cons, tN_cons]; omega
  ·rw [tN_cons]; omega
theorem tN_mem {ks : List Str} {g : Str → Int} {x : Str} (h : x ∈ ks) : (g x).toNat ≤ tN ks g := by
 induction ks with
 | nil => cases h
 | cons y ks ih =>
  rw [tN_cons]
  rcases List.mem_cons.mp h with z | z
  ·rw [z]; omega
  ·have := ih z; omega
theorem tN_len {ks : List Str} {g : Str → Int} (h : ∀ x ∈ ks, 1 ≤ g x) : ks.length ≤ tN ks g := by
 induction ks with
 | nil => exact Nat.zero_le _
 | cons y ks ih =>
  rw [tN_cons, List.length_cons]
  have h1 := h y (List.mem_cons_self ..)
  have h2 := ih fun x hx => h x (List.mem_cons_of_mem _ hx)
  omega
theorem tN_put {o : Str} {n : Int} {g : Str → Int} (h0 : 0 ≤ g o) (hn : g o ≤ n) : ∀ {ks : List Str}, ks.Nodup → tN ks (fun x => if x = o then n else g x) ≤ tN ks g + (n - g o).toNat
 | [], _ => by show 0 ≤ _; omega
 | y :: ks, nd => by
  have nd' := List.nodup_cons.mp nd
  rw [tN_cons, tN_cons]
  by_cases c : y = o
  ·subst c
   rw [if_pos rfl]
   have : tN ks (fun x => if x = y then n else g x) ≤ tN ks g := tN_le fun x hx => by
    rw [if_neg (fun e : x = y => nd'.1 (e ▸ hx))]
    exact Int.le_refl _
   omega
  ·rw [if_neg c]
   have := tN_put h0 hn nd'.2
   omega
theorem flatE_tN (ss : List Str) (g : Str → Int) : (flatE (ss.map fun x => (x, g x))).length = tN ss g := by
 induction ss with
 | nil => rfl
 | cons x ss ih =>
  rw [List.map_cons, flatE_cons, List.length_append, List.length_replicate, ih, tN_cons]
structure DG (ks : List Str) (g : Str → Int) (L : Nat) : Prop where
 nd : ks.Nodup
 len : ∀ x ∈ ks, x.length = L
 pos : ∀ x ∈ ks, 1 ≤ g x
 zero : ∀ x, x ∉ ks → g x = 0
 cd : ∀ x ∈ ks, Cd x.cps.toList
 tot : tN ks g ≤ 301
 l1 : 1 ≤ L
 l3 : L ≤ 300
theorem DG.few {ks : List Str} {g : Str → Int} {L : Nat} (h : DG ks g L) : ks.length ≤ 301 := Nat.le_trans (tN_len h.pos) h.tot
theorem DG.hpy {ks ss : List Str} {g : Str → Int} {L : Nat} (h : DG ks g L) (hne : ks ≠ []) (p : ss.Perm ks) (hs : (ss.map fun x => x.cps.toList).Pairwise (· < ·)) : Hpy (ss.map fun x => (x, g x)) L := by
 have hm : ∀ e ∈ ss.map fun x => (x, g x), e.1 ∈ ks ∧ e.2 = g e.1 := fun e he => by
  obtain ⟨x, hx, rfl⟩ := List.mem_map.mp he
  exact ⟨p.mem_iff.mp hx, rfl⟩
 have hl1 := h.l1
 have hl3 := h.l3
 have htot := h.tot
 refine ⟨⟨by rw [List.length_map, p.length_eq]; exact h.few, fun e he => ?_, fun e he => ?_⟩, fun z => ?_, fun e he => h.len _ (hm e he).1, h.l1, h.l3, fun e he => ?_, ?_, ?_, fun e he => h.cd _ (hm e he).1⟩
 ·obtain ⟨h1, h2⟩ := hm e he
  rw [h2]
  have := h.pos _ h1
  have := tN_mem (g := g) h1
  omega
 ·have := h.len _ (hm e he).1
  omega
 ·have := congrArg List.length z
  rw [List.length_map, p.length_eq] at this
  exact hne (List.length_eq_zero_iff.mp this)
 ·rw [(hm e he).2]
  exact h.pos _ (hm e he).1
 ·rw [flatE_tN, tN_perm p]
  omega
 ·rw [List.map_map, List.map_map]
  exact hs
theorem DG.less {ks : List Str} {g : Str → Int} {L : Nat} (h : DG ks g L) {o : Str} (ho : o ∈ ks) (h2 : g o ≠ 1) : DG ks (fun x => if x = o then g o - 1 else g x) L := by
 have h1 := h.pos o ho
 refine ⟨h.nd, h.len, fun x hx => ?_, fun x hx => ?_, h.cd, Nat.le_trans (tN_le fun x hx => ?_) h.tot, h.l1, h.l3⟩
 ·by_cases c : x = o
  ·show 1 ≤ if x = o then g o - 1 else g x
   rw [if_pos c]; omega
  ·show 1 ≤ if x = o then g o - 1 else g x
   rw [if_neg c]; exact h.pos x hx
 ·show (if x = o then g o - 1 else g x) = 0
  rw [if_neg (fun e : x = o => hx (e ▸ ho))]
  exact h.zero x hx
 ·show (if x = o then g o - 1 else g x) ≤ g x
  by_cases c : x = o
  ·rw [if_pos c, c]; omega
  ·rw [if_neg c]; exact Int.le_refl _
theorem DG.gone {ks : List Str} {g : Str → Int} {L : Nat} (h : DG ks g L) (o : Str) : DG (ks.filter fun x => decide (x ≠ o)) (fun x => if x = o then 0 else g x) L := by
 have hm : ∀ x, x ∈ (ks.filter fun x => decide (x ≠ o)) ↔ x ∈ ks ∧ x ≠ o := fun x => by rw [List.mem_filter]; simp
 refine ⟨h.nd.filter _, fun x hx => h.len x ((hm x).mp hx).1, fun x hx => ?_, fun x hx => ?_, fun x hx => h.cd x ((hm x).mp hx).1, Nat.le_trans (Nat.le_trans (tN_filter _) (tN_le fun x hx => ?_)) h.tot, h.l1, h.l3⟩
 ·show 1 ≤ if x = o then 0 else g x
  rw [if_neg ((hm x).mp hx).2]
  exact h.pos x ((hm x).mp hx).1
 ·show (if x = o then 0 else g x) = 0
  by_cases c : x = o
  ·rw [if_pos c]
  ·rw [if_neg c]
   exact h.zero x fun z => hx ((hm x).mpr ⟨z, c⟩)
 ·show (if x = o then 0 else g x) ≤ g x
  have := h.pos x hx
  by_cases c : x = o
  ·rw [if_pos c]; omega
  ·rw [if_neg c]; exact Int.le_refl _
theorem DG.nn {ks : List Str} {g : Str → Int} {L : Nat} (h : DG ks g L) (x : Str) : 0 ≤ g x := by
 by_cases c : x ∈ ks
 ·have := h.pos x c; omega
 ·rw [h.zero x c]; exact Int.le_refl _
theorem DG.more {ks : List Str} {g : Str → Int} {L : Nat} (h : DG ks g L) {o : Str} {n : Int} (ol : o.length = L) (oc : Cd o.cps.toList) (hn : g o < n) (ht : tN ks g + (n - g o).toNat ≤ 301) : DG (addK ks o) (fun x => if x = o then n else g x) L := by
 have h0 := h.nn o
 have hadd : tN (addK ks o) (fun x => if x = o then n else g x) ≤ tN ks g + (n - g o).toNat := by
  have := tN_put h0 (Int.le_of_lt hn) (addK_nd (x := o) h.nd)
  refine Nat.le_trans this ?_
  have e : tN (addK ks o) g = tN ks g := by
   unfold addK
   split
   ·rfl
   ·rename_i c
    rw [tN_append, tN_cons, h.zero o c]
    rfl
  rw [e]
  exact Nat.le_refl _
 refine ⟨addK_nd h.nd, fun x hx => ?_, fun x hx => ?_, fun x hx => ?_, fun x hx => ?_, Nat.le_trans hadd ht, h.l1, h.l3⟩
 ·rcases addK_mem.mp hx with z | z
  ·exact h.len x z
  ·rw [z]; exact ol
 ·show 1 ≤ if x = o then n else g x
  by_cases c : x = o
  ·rw [if_pos c]; omega
  ·rw [if_neg c]
   exact h.pos x ((addK_mem.mp hx).resolve_right c)
 ·rw [addK_mem, not_or] at hx
  show (if x = o then n else g x) = 0
  rw [if_neg hx.2]
  exact h.zero x hx.1
 ·rcases addK_mem.mp hx with z | z
  ·exact h.cd x z
  ·rw [z]; exact oc
theorem tN_cnt {ws : List Str} : ∀ {ks : List Str}, ks.Nodup → (∀ x ∈ ws, x ∈ ks) → tN ks (cnt ws) = ws.length := by
 induction ws with
 | nil =>
  intro ks nd _
  induction ks with
  | nil => rfl
  | cons x ks ih => rw [tN_cons, ih (List.nodup_cons.mp nd).2 (fun x hx => by cases hx)]; rfl
 | cons w ws ih =>
  intro ks nd hm
  have hw := hm w (List.mem_cons_self ..)
  have ih' := ih nd fun x hx => hm x (List.mem_cons_of_mem _ hx)
  have p := List.perm_cons_erase hw
  have e1 : tN ks (cnt (w :: ws)) = tN (w :: ks.erase w) (cnt (w :: ws)) := tN_perm p _
  have e2 : tN ks (cnt ws) = tN (w :: ks.erase w) (cnt ws) := tN_perm p _
  have nd2 := p.nodup_iff.mp nd
  have nd3 := List.nodup_cons.mp nd2
  have e3 : tN (ks.erase w) (cnt (w :: ws)) = tN (ks.erase w) (cnt ws) := by
   unfold tN
   congr 1
   refine List.map_congr_left fun x hx => ?_
   unfold cnt
   rw [List.count_cons_of_ne (fun e : w = x => nd3.1 (e ▸ hx))]
  rw [e2, tN_cons] at ih'
  rw [e1, tN_cons, e3, List.length_cons]
  have e4 : cnt (w :: ws) w = cnt ws w + 1 := by
   unfold cnt
   rw [List.count_cons_self]
   push_cast
   rfl
  have : 0 ≤ cnt ws w := by unfold cnt; omega
  rw [e4]
  omega
theorem torn_dg {z : List Nat} {L : Nat} {ks : List Str} (h1 : 1 ≤ L) (h2 : L ≤ z.length) (h3 : z.length ≤ 300) (hc : Cd z) (hk : CntD (pcs z L) ks) : DG ks (cnt (pcs z L)) L where
 nd := hk.nd
 len := fun x hx => pcs_long h1 h2 x ((hk.mem x).mp hx)
 pos := fun x hx => by
  unfold cnt
  have := List.count_pos_iff.mpr ((hk.mem x).mp hx)
  omega
 zero := fun x hx => by
  unfold cnt
  rw [List.count_eq_zero_of_not_mem fun q => hx ((hk.mem x).mpr q)]
  rfl
 cd := fun x hx => pcs_cd hc x ((hk.mem x).mp hx)
 tot := by
  rw [tN_cnt hk.nd fun x hx => (hk.mem x).mpr hx, pcs_len]
  omega
 l1 := h1
 l3 := by omega
theorem torn_hang {z : List Nat} {L : Nat} {e0 : Str × Int} {es0 : Es} (h1 : 1 ≤ L) (h2 : L ≤ z.length) (hm : ∀ x, x ∈ (e0 :: es0).map (·.1) ↔ x ∈ pcs z L) : Hang e0 es0 := by
 have ok : ∀ i, i + L ≤ z.length → ∃ e ∈ e0 :: es0, e.1 = tx ((z.drop i).take L) := fun i hi => by
  have : tx ((z.drop i).take L) ∈ pcs z L := List.mem_map.mpr ⟨i, List.mem_range.mpr (by omega), rfl⟩
  obtain ⟨e, he, q⟩ := List.mem_map.mp ((hm _).mpr this)
  exact ⟨e, he, q⟩
 have all : ∀ i, i + L ≤ z.length → Rch (e0 :: es0) (bg (tx ((z.drop 0).take L))) (bg (tx ((z.drop i).take L))) := by
  intro i
  induction i with
  | zero => intro _; exact .here
  | succ i ih =>
   intro hi
   obtain ⟨e, he, q⟩ := ok i (by omega)
   refine .step (ih (by omega)) ⟨e, he, .inl ⟨by rw [q], ?_⟩⟩
   rw [q, en_win h1, bg_win h1 (by omega)]
 have at_ : ∀ e ∈ e0 :: es0, ∃ i, i + L ≤ z.length ∧ e.1 = tx ((z.drop i).take L) := fun e he => by
  obtain ⟨i, hi, q⟩ := List.mem_map.mp ((hm e.1).mp (List.mem_map_of_mem he))
  have := List.mem_range.mp hi
  exact ⟨i, by omega, q.symm⟩
 intro e he
 obtain ⟨i, hi, q⟩ := at_ e he
 obtain ⟨j, hj, q0⟩ := at_ e0 (List.mem_cons_self ..)
 rw [q, q0]
 exact (all j hj).symm.trans (all i hi)
theorem torn_few {z : List Nat} {L : Nat} {es : Es} {ss ps ks : List Str} (h1 : 1 ≤ L) (h2 : L ≤ z.length) (hk : CntD (pcs z L) ks) (hp : ss.Perm ks) (he : es = ss.map fun x => (x, cnt (pcs z L) x)) (nd : ps.Nodup) : ¬ 1 < sm (ups (mo es) ps) := by
 have := torn_one h1 h2 (es := es) (ss := ss) (ks := ps) (hp.nodup_iff.mpr hk.nd) (fun x hx => hp.mem_iff.mpr ((hk.mem x).mpr hx)) he nd
 omega
theorem one_text {z z' : List Nat} {L : Nat} (h1 : 1 ≤ L) (hz : z.length = L) (hz' : z'.length = L) (hp : (pcs z' L).Perm (pcs z L)) : z' = z := by
 have e : ∀ y : List Nat, y.length = L → pcs y L = [tx y] := fun y hy => by
  unfold pcs
  rw [hy, Nat.sub_self]
  simp [List.range_succ, List.take_of_length_le (Nat.le_of_eq hy)]
 rw [e z hz, e z' hz'] at hp
 have := List.perm_singleton.mp hp
 injection this with this
 exact tx_inj this
section
variable {P : Program} {w : World} {K : PySem.W.Frag} {mg : Str → Option Value} {base : Heap}
abbrev sLLonger : Stmt := top 30
noncomputable abbrev nLLonger : List Str := ["_law_signs", "_law_seed_here", "_law_made", "_law_k", "_law_at"]
theorem scLLonger : FnScope nLLonger ["_law_signs", "_law_seed_here"] (defScope sLLonger) := ⟨rfl, rfl, rfl, by decide +kernel, rfl, by decide +kernel, by decide +kernel⟩
def spLonger : Sp := fun vs H Q _ => ∃ (z : List Nat) (sd : Int), vs = [.str (tx z), .int sd] ∧ 1 ≤ z.length ∧ z.length ≤ 63 ∧ Cd z ∧ 0 ≤ sd ∧ sd < 999999937 ∧ ∀ (y : List Nat), 1 ≤ y.length → y.length ≤ 300 → Cd y → Q (.str (tx y)) H
set_option maxHeartbeats 8000000 in
theorem ok_l_longer (D : HasDef K mg "_law_longer" sLLonger ["_law_signs", "_law_seed_here"]) (B : Blt mg) : FOk P w K mg base 1 "_law_longer" ["_law_signs", "_law_seed_here"] spLonger := by
 refine D.ok scLLonger (fun vs H Q E h => ?_) (fun f cdv A outer s H vs Q E hr h => ?_)
 ·obtain ⟨z, sd, rfl, _⟩ := h
  rfl
 ·obtain ⟨z, sd, rfl, z1, z63, zc, s0, s9, k⟩ := h
  refine ⟨_, (pss_cons (ps_set (i := 2) scLLonger.nd rfl (Or.inl rfl) (pv 0))
   (pss_cons (ps_for PassesOwn.never rfl (pi_range1 rfl B.range (pa_cons pe_int pa_nil)) (pg_name (i := 3) scLLonger.nd rfl (Or.inl rfl))
    (pss_cons (ps_set (i := 4) scLLonger.nd rfl (Or.inl rfl) (pe_op op_mod (pe_op op_add (pe_op op_fdiv (pv 1) (pe_op op_add (pv 3) pe_int)) (pe_op op_mul (pe_op op_mul pe_int (pv 3)) (pv 3))) (pe_callB call_len rfl B.len b_len (pa_cons (pv 0) pa_nil))))
   (pss_one (ps_set (i := 2) scLLonger.nd rfl (Or.inl rfl) (pe_op op_add_str (pv 2) (pe_slice sl_str (pv 0) (po_some (pv 4)) (po_some (pe_op op_add (pe_op op_add (pv 4) pe_int) (pe_op op_mod (pe_op op_fdiv (pv 1) (pe_op op_add (pv 3) pe_int)) pe_int)))))))))
   (pss_one (ps_ret (pe_slice sl_str (pv 2) po_none (po_some pe_int)))))), ?_⟩
  refine ⟨_, rfl, _, rfl, by decide, by decide, ?_⟩
  refine for_range (n := (12 : Int).toNat) (fun i σ H2 => H2 = H ∧ ∃ (y : List Nat) (z3 z4 : Option V), σ = [some (.str (tx z)), some (.int sd), some (.str (tx y)), z3, z4] ∧ 1 ≤ y.length ∧ y.length ≤ 63 + 63 * i ∧ Cd y)
   ⟨rfl, z, none, none, rfl, z1, by omega, zc⟩ ?_ ?_
  ·rintro i σ H2 hi ⟨rfl, y, z3, z4, rfl, y1, y2, yc⟩
   have hi12 : i < 12 := hi
   have hlp : (0 : Int) < ((tx z).length : Int) := by rw [tx_len]; omega
   refine ⟨_, rfl, _, rfl, _, _, rfl, rfl, _, _, rfl, rfl, ⟨by omega, by omega⟩, _, rfl, _, _, rfl, rfl, .inl ⟨by decide, by decide⟩, _, rfl, _, _, rfl, rfl, .inr ⟨by omega, by omega⟩, _, _, rfl, rfl, _, rfl, .str (tx z), (tx z).length, rfl, ⟨tx_size (by omega), rfl⟩, _, _, rfl, rfl, hlp, ?_⟩
   dsimp only
   generalize (sd / (0 + (i : Int) + 1) + 5 * (0 + (i : Int)) * (0 + (i : Int))) % ((tx z).length : Int) = at_
   refine ⟨_, rfl, _, rfl, _, rfl, _, rfl, _, rfl, _, _, rfl, rfl, _, rfl, _, rfl, _, _, rfl, rfl, _, _, rfl, rfl, ⟨by omega, by omega⟩, _, _, rfl, rfl, (by show (0 : Int) < 40; decide), _, _, rfl, rfl, _, rfl, _, rfl, tx_size (by omega), ?_⟩
   generalize hsl : Txt.slice (tx z) (some at_) (some (at_ + 1 + sd / (0 + (i : Int) + 3) % 40)) = sl
   obtain ⟨u, eu, hul, huc⟩ : ∃ u : List Nat, sl = tx u ∧ u.length ≤ 63 ∧ Cd u := by
    obtain ⟨u, e1, e2⟩ := slice_sub (z := z) (lo := some at_) (hi := some (at_ + 1 + sd / (0 + (i : Int) + 3) % 40))
    exact ⟨u, by rw [← hsl, e1], Nat.le_trans e2.1 z63, fun c hc => zc c (e2.2 c hc)⟩
   rw [eu]
   refine ⟨_, _, rfl, rfl, ?_, ?_⟩
   ·rw [tx_len, tx_len]
    exact few_size (by omega)
   ·rw [tx_app]
    refine ⟨rfl, y ++ u, _, _, rfl, by rw [List.length_append]; omega, by rw [List.length_append]; omega, fun c hc => ?_⟩
    rcases List.mem_append.mp hc with q | q
    ·exact yc c q
    ·exact huc c q
  ·rintro σ H2 ⟨rfl, y, z3, z4, rfl, y1, y2, yc⟩
   have y3 : y.length ≤ 63 + 63 * 12 := y2
   refine ⟨_, rfl, _, rfl, _, rfl, tx_size (by omega), ?_⟩
   rw [slice_take (by decide)]
   refine k _ ?_ ?_ fun c hc => yc c (List.mem_of_mem_take hc)
   ·rw [List.length_take]
    have : (300 : Int).toNat = 300 := rfl
    omega
   ·rw [List.length_take]
    have : (300 : Int).toNat = 300 := rfl
    omega
end
theorem gone_ne {ks : List Str} {g : Str → Int} {p : Str} (nd : ks.Nodup) (hp : p ∈ ks) (h1 : g p = 1) (h2 : 2 ≤ tN ks g) : (ks.filter fun x => decide (x ≠ p)) ≠ [] := fun e => by
 have pm := List.perm_cons_erase hp
 have e2 : ks.erase p = [] := by
  cases h : ks.erase p with
  | nil => rfl
  | cons y l =>
   have hy : y ∈ ks.erase p := by rw [h]; exact List.mem_cons_self ..
   have hyk := List.mem_of_mem_erase hy
   have nd2 := List.nodup_cons.mp (pm.nodup_iff.mp nd)
   have hne : y ≠ p := fun z => nd2.1 (z ▸ hy)
   have : y ∈ ks.filter fun x => decide (x ≠ p) := List.mem_filter.mpr ⟨hyk, decide_eq_true hne⟩
   rw [e] at this
   cases this
 rw [tN_perm pm, tN_cons, e2, h1] at h2
 have : tN ([] : List Str) g = 0 := rfl
 rw [this] at h2
 exact absurd h2 (by decide)
section
variable {P : Program} {w : World} {K : PySem.W.Frag} {mg : Str → Option Value} {base : Heap}
abbrev sLaw : Stmt := top 31
noncomputable abbrev nLaw : List Str := ["_law_script", "_law_cells", "_law_seed_here", "_law_signs", "_law_long", "_law_found", "_law_heap", "_law_piece_here", "_law_fewer", "_law_other"]
theorem scLaw : FnScope nLaw ["_law_script"] (defScope sLaw) := ⟨rfl, rfl, rfl, by decide +kernel, rfl, by decide +kernel, by decide +kernel⟩
def spLaw (K : PySem.W.Frag) : Sp := fun vs H Q _ => ∃ (a : Addr) (ns : List Int), vs = [.ref a] ∧ SqL K H a (ns.map V.int) ∧ ns.length ≤ 63 ∧ ∀ H', Q (.bl true) H'
set_option maxHeartbeats 32000000 in
theorem ok_law {fa : Addr} {fd : FuncData} (Fl : Fun K "law" "law" sLaw fa fd) (B : Blt mg) (G__law_seed : FOk P w K mg base 6 "_law_seed" ["_law_cells"] (spSeed K)) (G__law_text : FOk P w K mg base 6 "_law_text" ["_law_cells", "_law_seed_here"] (spText K)) (G__law_longer : FOk P w K mg base 6 "_law_longer" ["_law_signs", "_law_seed_here"] spLonger) (G__law_torn : FOk P w K mg base 6 "_law_torn" ["_law_signs", "_law_long"] spTorn) (G_verdict : FOk P w K mg base 6 "verdict" ["H"] spVerdict) (G__law_judged : FOk P w K mg base 6 "_law_judged" ["_law_heap"] spJudged) (G__law_letters : FOk P w K mg base 6 "_law_letters" ["_law_cell"] spLetters) (G__law_piece : FOk P w K mg base 6 "_law_piece" ["_law_cell", "_law_letters_here", "_law_long"] spPiece) :
  FnOk P w K mg base CX0 7 fa fd ["_law_script"] (spLaw K) := by
 refine Fl.ok scLaw (fun vs H Q E h => ?_) (fun cdv A outer s H vs Q E hr h => ?_)
 ·obtain ⟨a, ns, rfl, _⟩ := h
  rfl
 ·obtain ⟨a, ns, rfl, ha, hl, k⟩ := h
  have hu := hu_of hr
  refine ⟨_, (pss_cons (ps_lcomp (i := 1) (defScope sLaw) nLaw ["_law_cell"] [] scLaw.nd rfl (Or.inl rfl) rfl (pi_list (pe_slice sl_list (pv 0) po_none (po_some pe_int))) (fun _ _ _ _ _ => pg_lc 0) (fun _ _ _ _ _ => pcs_nil) (fun _ _ _ _ _ => (pe_op op_mod (pv 0) (pe_op op_pow pe_int pe_int))))
   (pss_cons (ps_set (i := 2) scLaw.nd rfl (Or.inl rfl) (pe_fn G__law_seed hr (pa_cons (pv 1) pa_nil)))
   (pss_cons (ps_set (i := 3) scLaw.nd rfl (Or.inl rfl) (pe_fn G__law_text hr (pa_cons (pv 1) (pa_cons (pe_op op_fdiv (pv 2) pe_int) pa_nil))))
   (pss_cons (ps_if (pt_cmpR op_eq (pe_op op_mod (pv 2) pe_int) pe_int (nomark _)) (pss_one (ps_set (i := 3) scLaw.nd rfl (Or.inl rfl) (pe_fn G__law_longer hr (pa_cons (pv 3) (pa_cons (pv 2) pa_nil))))) pss_nil)
   (pss_cons (ps_set (i := 4) scLaw.nd rfl (Or.inl rfl) (pe_op op_add pe_int (pe_op op_mod (pe_op op_fdiv (pv 2) pe_int) (pe_callB (call_min2 rfl) rfl B.min b_min (pa_cons pe_int (pa_cons (pe_callB call_len rfl B.len b_len (pa_cons (pv 3) pa_nil)) pa_nil))))))
   (pss_cons (ps_if (pt_cmpR op_eq (pe_op op_mod (pe_op op_fdiv (pv 2) pe_int) pe_int) pe_int (nomark _)) (pss_one (ps_set (i := 4) scLaw.nd rfl (Or.inl rfl) (pe_op op_sub (pe_callB call_len rfl B.len b_len (pa_cons (pv 3) pa_nil)) (pe_op op_mod (pe_op op_fdiv (pv 2) pe_int) (pe_callB (call_min2 rfl) rfl B.min b_min (pa_cons pe_int (pa_cons (pe_callB call_len rfl B.len b_len (pa_cons (pv 3) pa_nil)) pa_nil))))))) pss_nil)
   (pss_cons (ps_set (i := 5) scLaw.nd rfl (Or.inl rfl) (pe_fn G__law_torn hr (pa_cons (pv 3) (pa_cons (pv 4) pa_nil))))
   (pss_cons (ps_set (i := 6) scLaw.nd rfl (Or.inl rfl) (pe_callTy call_tuple_of rfl B.tuple b_tuple (pa_cons (pe_callB (call_sortedI2 rfl) rfl B.sorted b_sorted (pa_cons (pe_items (pv 5)) pa_nil)) pa_nil)))
   (pss_cons (ps_if (PW.pt (pw_or (pt_cmpR op_ne (pe_ix ix_tup (pe_fn G_verdict hr (pa_cons (pv 6) pa_nil)) pe_int (fun _ _ => rfl)) pe_str (nomark _)) (pw_or1 (pt_not (pt_val (pe_fn G__law_judged hr (pa_cons (pv 6) pa_nil))))))) (pss_one (ps_ret pe_bl)) pss_nil)
   (pss_cons (ps_if (PW.pt (pw_and (pt_cmpR op_eq (pv 4) (pe_callB call_len rfl B.len b_len (pa_cons (pv 3) pa_nil)) (nomark _)) (pw_and1 (pt_cmpR op_ne (pe_ix ix_tup (pe_fn G_verdict hr (pa_cons (pv 6) pa_nil)) pe_int (fun _ _ => rfl)) (pv 3) (nomark _))))) (pss_one (ps_ret pe_bl)) pss_nil)
   (pss_cons (ps_set (i := 7) scLaw.nd rfl (Or.inl rfl) (pe_ix ix_tup (pe_ix ix_tup (pv 6) (pe_op op_mod (pe_op op_fdiv (pv 2) pe_int) (pe_callB call_len rfl B.len b_len (pa_cons (pv 6) pa_nil))) (fun _ _ => rfl)) pe_int (fun _ _ => rfl)))
   (pss_cons (ps_if (pt_cmpR op_gt (pe_callB call_len rfl B.len b_len (pa_cons (pv 3) pa_nil)) (pv 4) (nomark _)) (pss_cons (ps_set (i := 8) scLaw.nd rfl (Or.inl rfl) (pe_callTy call_dictD rfl B.dict b_dict (pa_cons (pv 5) pa_nil)))
   (pss_cons (ps_dput hu (pv 8) (pv 7) (pe_op op_sub (pe_dget hu (pv 8) (pv 7) (fun _ _ => rfl)) pe_int) rfl)
   (pss_cons (ps_if (pt_cmpR op_eq (pe_dget hu (pv 8) (pv 7) (fun _ _ => rfl)) pe_int (nomark _)) (pss_one (ps_expr (pe_dpop1 (pv 8) (pv 7) ⟨rfl, rfl, rfl, rfl⟩))) pss_nil)
   (pss_one (ps_if (pt_not (pt_val (pe_fn G__law_judged hr (pa_cons (pe_callTy call_tuple_of rfl B.tuple b_tuple (pa_cons (pe_callB (call_sortedI2 rfl) rfl B.sorted b_sorted (pa_cons (pe_items (pv 8)) pa_nil)) pa_nil)) pa_nil)))) (pss_one (ps_ret pe_bl)) pss_nil))))) pss_nil)
   (pss_cons (ps_if (pt_cmpR op_lt (pe_callB call_len rfl B.len b_len (pa_cons (pv 3) pa_nil)) pe_int (nomark _)) (pss_cons (ps_set (i := 9) scLaw.nd rfl (Or.inl rfl) (pe_fn G__law_piece hr (pa_cons (pv 2) (pa_cons (pe_fn G__law_letters hr (pa_cons (pe_op op_fdiv (pv 2) pe_int) pa_nil)) (pa_cons (pv 4) pa_nil)))))
   (pss_one (ps_dput hu (pv 5) (pv 9) (pe_op op_add (pe_dget2 hu (pv 5) (pv 9) pe_int ⟨rfl, rfl, rfl, rfl⟩) pe_int) rfl))) pss_nil)
   (pss_one (ps_ret (pe_fn G__law_judged hr (pa_cons (pe_callTy call_tuple_of rfl B.tuple b_tuple (pa_cons (pe_callB (call_sortedI2 rfl) rfl B.sorted b_sorted (pa_cons (pe_items (pv 5)) pa_nil)) pa_nil)) pa_nil))))))))))))))))), ?_⟩
  refine ⟨_, rfl, _, rfl, a, _, rfl, ha, fun p1 hp1 => ?_⟩
  rw [cut63 (ns.map V.int) (by rw [List.length_map]; exact hl)]
  refine ⟨p1, rfl, ⟨_, SqL.of upd_same⟩, lc_map (ns.map V.int).length (fun i => (ns.map V.int).getD i .non) (fun i v _ => ∀ c, ns[i]? = some c → v = .int (c % 10 ^ 18)) (by rw [List.length_map]; exact few_size (by omega)) (fun _ _ _ _ _ r => r) (jt_list (K := K) (SqL.of upd_same)) ?_ ?_⟩
  ·intro i H4 Qe hi hs kq
   have hi' : i < ns.length := by rw [List.length_map] at hi; exact hi
   rw [getD_mapV hi']
   refine ⟨_, rfl, _, _, rfl, rfl, ⟨by decide, by decide, by decide⟩, _, _, rfl, rfl, (by show (0 : Int) < 10 ^ 18; decide), kq _ _ (Same.refl _) fun c hc => ?_⟩
   rw [List.getElem?_eq_getElem hi'] at hc
   cases hc
   rfl
  intro pc vs1 H3 hl1 hr1 hs3 hD1 hDl1
  rw [List.length_map] at hl1
  have evs := vs_ints (f := fun c => V.int (c % 10 ^ 18)) hl1 hr1
  have evs2 : vs1 = (ns.map fun c => c % 10 ^ 18).map V.int := by rw [evs, List.map_map]; rfl
  rw [evs2] at hDl1
  have hcl : (ns.map fun c => c % 10 ^ 18).length ≤ 63 := by rw [List.length_map]; exact hl
  generalize ns.map (fun c => c % 10 ^ 18) = cs at hDl1 hcl
  clear hs3 hD1 evs evs2 hr1
  refine ⟨_, rfl, pc, cs, rfl, SqL.of hDl1, hcl, fun sd h0 h1 => ?_⟩
  refine ⟨_, rfl, _, rfl, _, _, rfl, rfl, ⟨by decide, by decide⟩, pc, cs, sd / 2, rfl, SqL.of hDl1, hcl, by omega, by omega, fun z H4 s4 z1 z63 zc => ?_⟩
  dsimp only
  refine seq_any (fun σ H5 => ∃ z : List Nat, σ = [some (.ref a), some (.ref pc), some (.int sd), some (.str (tx z)), none, none, none, none, none, none] ∧ 1 ≤ z.length ∧ z.length ≤ 300 ∧ Cd z) (fun R hR => ?_) ?_
  ·refine ⟨_, rfl, _, _, rfl, rfl, (by show (0 : Int) < 4; decide), rfl, _, rfl, ?_⟩
   by_cases c : sd % 4 = 1
   ·exact iteP (int_is c) ⟨_, rfl, _, rfl, z, sd, rfl, z1, z63, zc, h0, h1, fun y y1 y3 yc => hR _ _ ⟨y, rfl, y1, y3, yc⟩⟩
   ·exact iteM (int_ne c) (hR _ _ ⟨z, rfl, z1, by omega, zc⟩)
  clear zc z63 z1 s4
  clear z H4
  rintro σ H4 ⟨z, rfl, z1, z3, zc⟩
  have hzl : (tx z).length = z.length := tx_len z
  have hlen : ∀ H', LenV K (.str (tx z)) H' (tx z).length := fun H' => ⟨tx_size (by omega), rfl⟩
  have hm8 : (0 : Int) < (if ((tx z).length : Int) < 8 then ((tx z).length : Int) else 8) ∧ (if ((tx z).length : Int) < 8 then ((tx z).length : Int) else 8) ≤ (z.length : Int) := by split <;> omega
  have hm3 : (0 : Int) < (if ((tx z).length : Int) < 3 then ((tx z).length : Int) else 3) ∧ (if ((tx z).length : Int) < 3 then ((tx z).length : Int) else 3) ≤ (z.length : Int) := by split <;> omega
  refine ⟨_, rfl, _, _, rfl, rfl, ⟨by decide, by decide⟩, _, rfl, .str (tx z), _, rfl, hlen _, 8, _, rfl, _, _, rfl, rfl, hm8.1, _, _, rfl, rfl, ?_⟩
  have mb := emod_bd (sd / 17) hm8.1
  obtain ⟨L0, eL0⟩ : ∃ L0 : Nat, 1 + sd / 17 % (if ((tx z).length : Int) < 8 then ((tx z).length : Int) else 8) = (L0 : Int) := ⟨(1 + sd / 17 % (if ((tx z).length : Int) < 8 then ((tx z).length : Int) else 8)).toNat, by omega⟩
  have hL0 : 1 ≤ L0 ∧ L0 ≤ z.length := by omega
  dsimp only
  refine seq_any (fun σ H5 => H5 = H4 ∧ ∃ L : Nat, σ = [some (.ref a), some (.ref pc), some (.int sd), some (.str (tx z)), some (.int (L : Int)), none, none, none, none, none] ∧ 1 ≤ L ∧ L ≤ z.length) (fun R hR => ?_) ?_
  ·refine ⟨_, rfl, _, _, rfl, rfl, ⟨by decide, by decide⟩, _, _, rfl, rfl, (by show (0 : Int) < 5; decide), rfl, _, rfl, ?_⟩
   by_cases c : sd / 5 % 5 = 0
   ·refine iteP (int_is c) ⟨_, rfl, .str (tx z), _, rfl, hlen _, _, rfl, _, _, rfl, rfl, ⟨by decide, by decide⟩, _, rfl, .str (tx z), _, rfl, hlen _, 3, _, rfl, _, _, rfl, rfl, hm3.1, _, _, rfl, rfl, ?_⟩
    have mb3 := emod_bd (sd / 17) hm3.1
    obtain ⟨L1, eL1⟩ : ∃ L1 : Nat, ((tx z).length : Int) - sd / 17 % (if ((tx z).length : Int) < 3 then ((tx z).length : Int) else 3) = (L1 : Int) := ⟨(((tx z).length : Int) - sd / 17 % (if ((tx z).length : Int) < 3 then ((tx z).length : Int) else 3)).toNat, by omega⟩
    refine hR _ _ ⟨rfl, L1, ?_, by omega, by omega⟩
    rw [← eL1]
    rfl
   ·refine iteM (int_ne c) (hR _ _ ⟨rfl, L0, ?_, hL0.1, hL0.2⟩)
    rw [← eL0]
    rfl
  rintro σ H5 ⟨rfl, L, rfl, L1, L2⟩
  clear hL0 eL0 mb hm8 hm3 L0
  refine ⟨_, rfl, _, rfl, z, L, rfl, L1, L2, by omega, fun d H6 ks hd s6 hdd hk => ?_⟩
  have hO := torn_dg L1 L2 z3 zc hk
  have hkf := hO.few
  have hksne : ks ≠ [] := fun e => by
   have := (hk.mem (tx ((z.drop 0).take L))).mpr (List.mem_map.mpr ⟨0, List.mem_range.mpr (by omega), rfl⟩)
   rw [e] at this
   cases this
  have htot : tN ks (cnt (pcs z L)) = z.length - L + 1 := by rw [tN_cnt hk.nd fun x hx => (hk.mem x).mpr hx, pcs_len]
  refine ⟨_, rfl, d, _, rfl, hdd, fun p2 hp2 => ⟨p2, d, ks, fun x => .int (cnt (pcs z L) x), rfl, upd_same, same_upd_new hp2 _ _ hdd, hO.nd, by omega, fun D1 H7 vs ss s7 hpm hsrt hD1 hvl hv => ⟨D1, vs, rfl, .inl ⟨SqL.of hD1, fun q hq => ?_⟩⟩⟩⟩
  have sq := same_upd_new (o := .tup vs) hq
  have hF := hO.hpy hksne hpm hsrt
  have hV : HeapV (upd H7 q (.tup vs)) (.ref q) (ss.map fun x => (x, cnt (pcs z L) x)) := ⟨q, vs, rfl, upd_same, (pa_items hvl hv).same sq.tup⟩
  have hd8 := sq _ _ (s7 _ _ (same_upd_new hp2 _ _ hdd))
  have hmem : ∀ x, x ∈ (ss.map fun x => (x, cnt (pcs z L) x)).map (·.1) ↔ x ∈ pcs z L := fun x => by
   rw [List.map_map, ← hk.mem, ← hpm.mem_iff]
   simp
  have hnf : ∀ ps : List Str, ps.Nodup → ¬ 1 < sm (ups (mo (ss.map fun x => (x, cnt (pcs z L) x))) ps) := fun ps nd => torn_few L1 L2 hk hpm rfl nd
  have hnk : ((ss.map fun x => (x, cnt (pcs z L) x)).map (·.1)).Nodup := by
   rw [List.map_map]
   have : ss.map ((fun e : Str × Int => e.1) ∘ fun x => (x, cnt (pcs z L) x)) = ss.map id := rfl
   rw [this, List.map_id]
   exact hpm.nodup_iff.mpr hO.nd
  have hbackp : ∀ z' : List Nat, (pcs z' L).Perm (flatE (ss.map fun x => (x, cnt (pcs z L) x))) → (pcs z' L).Perm (pcs z L) := fun z' h => by
   rw [List.perm_iff_count] at h ⊢
   intro x
   rw [h x]
   by_cases cx : x ∈ ss
   ·have := count_E (es := ss.map fun x => (x, cnt (pcs z L) x)) hnk (fun e he => by have := hF.pos e he; omega) (x, cnt (pcs z L) x) (List.mem_map.mpr ⟨x, cx, rfl⟩)
    unfold cnt at this
    exact Int.ofNat.inj this
   ·have h1 : x ∉ pcs z L := fun q => cx (hpm.mem_iff.mpr ((hk.mem x).mpr q))
    rw [List.count_eq_zero_of_not_mem h1, List.count_eq_zero_of_not_mem]
    intro q
    obtain ⟨e, he, e1⟩ := (flatE_mem hF.pos x).mp q
    obtain ⟨y, hy, rfl⟩ := List.mem_map.mp he
    exact cx (e1 ▸ hy)
  generalize hes : ss.map (fun x => (x, cnt (pcs z L) x)) = es at hF hV hmem hnf hbackp
  have hemem : ∀ e ∈ es, e.1 ∈ ks := fun e he => by
   rw [← hes] at he
   obtain ⟨y, hy, rfl⟩ := List.mem_map.mp he
   exact hpm.mem_iff.mp hy
  generalize upd H7 q (.tup vs) = H8 at hV hd8
  obtain ⟨e0, es0, rfl⟩ : ∃ e es', es = e :: es' := List.exists_cons_of_ne_nil hF.ne
  have hhang : Hang e0 es0 := torn_hang L1 L2 hmem
  have third : ∀ {H' : Hp} {v' : V}, VerV H' v' e0 es0 L → ∃ q' z', v' = .ref q' ∧ H' q' = some (.tup [.str "text", .str (tx z')]) ∧ (pcs z' L).Perm (flatE (e0 :: es0)) ∧ z'.length = L - 1 + (flatE (e0 :: es0)).length := fun {H'} {v'} h => by
   obtain ⟨q', wd, x, sp, e1, e2, e3, hc⟩ := h
   rcases hc with ⟨_, c, _⟩ | ⟨_, _, c, _⟩ | ⟨rfl, _, _, b, X, rfl, hb, hX, hE, hbl⟩
   ·exact absurd c (hnf _ e3.pts.nd)
   ·exact absurd hhang c
   ·refine ⟨q', _, e1, e2, spell_perm hF.l1 (flatE_len hF) hE hbl (flatE_pos hF), ?_⟩
    unfold spell
    rw [List.length_append, List.length_map, len_codes, hbl, hE.1.length_eq, List.length_range, tsE_len]
  refine ⟨_, rfl, .ref q, e0, es0, L, rfl, hV, hF, fun v' H9 s9 hver => ?_⟩
  obtain ⟨q', z', rfl, hq', _, _⟩ := third hver
  refine ⟨q', _, 0, .str "text", rfl, rfl, SqT.of hq', rfl, rfl, _, rfl, iteM (by decide) ?_⟩
  have hV9 := hV.same s9
  refine ⟨_, rfl, .ref q, e0, es0, L, rfl, hV9, hF, fun H10 s10 => ⟨_, rfl, iteM (by decide) ?_⟩⟩
  have hV10 := hV9.same s10
  have hd10 := s10 _ _ (s9 _ _ hd8)
  clear hver hq' hV9 s9 hV hd8
  dsimp only [tNext]
  refine seq_any (fun σ H11 => σ = [some (.ref a), some (.ref pc), some (.int sd), some (.str (tx z)), some (.int (L : Int)), some (.ref d), some (.ref q), none, none, none] ∧ Same H10 H11) (fun R hR => ?_) ?_
  ·refine ⟨_, rfl, _, rfl, .str (tx z), _, rfl, hlen _, rfl, _, rfl, ?_⟩
   by_cases c : L = z.length
   ·refine iteP (int_is (by rw [hzl, c])) ⟨_, rfl, .ref q, e0, es0, L, rfl, hV10, hF, fun v2 H11 s11 hver2 => ?_⟩
    obtain ⟨q2, z2, rfl, hq2, hp2', hl2'⟩ := third hver2
    have e2 : z2 = z := by
     refine one_text L1 c.symm ?_ (hbackp z2 hp2')
     have := (hbackp z2 hp2').length_eq
     rw [pcs_len, pcs_len] at this
     rw [hp2'.symm.length_eq, pcs_len] at hl2'
     omega
    subst e2
    exact ⟨q2, _, 1, .str (tx z2), rfl, rfl, SqT.of hq2, rfl, _, rfl, rfl, _, rfl, iteM (by simp) (hR _ _ ⟨rfl, s11⟩)⟩
   ·exact iteM (int_ne (by rw [hzl]; omega)) (iteM rfl (hR _ _ ⟨rfl, Same.refl _⟩))
  rintro σ H11 ⟨rfl, s11⟩
  have hV11 := hV10.same s11
  have hd11 := s11 _ _ hd10
  obtain ⟨q', vs', eq', hq11, hpa⟩ := id hV11
  cases eq'
  have hvp : (0 : Int) < (vs'.length : Int) := by rw [hpa.1, List.length_cons]; omega
  have mv := emod_bd (sd / 23) hvp
  have hix : (sd / 23 % (vs'.length : Int)).toNat < (e0 :: es0).length := by rw [← hpa.1]; omega
  obtain ⟨bx, f1, f2⟩ := hpa.2 _ (e0 :: es0)[(sd / 23 % (vs'.length : Int)).toNat] (List.getElem?_eq_getElem hix)
  have hpk := hemem _ (List.getElem_mem hix)
  refine ⟨_, rfl, _, rfl, _, _, rfl, rfl, ⟨by decide, by decide⟩, _, rfl, .ref q, _, rfl, .inr ⟨_, SqT.of hq11, rfl⟩, _, _, rfl, rfl, hvp, q, vs', _, .ref bx, rfl, rfl, SqT.of hq11, item_at mv.1 f1, bx, _, 0, .str (e0 :: es0)[(sd / 23 % (vs'.length : Int)).toNat].1, rfl, rfl, SqT.of f2, rfl, ?_⟩
  generalize (e0 :: es0)[(sd / 23 % (vs'.length : Int)).toNat].1 = px at hpk
  generalize hg : cnt (pcs z L) = g at *
  dsimp only
  refine seq_any (fun σ H12 => ∃ z8 : Option V, σ = [some (.ref a), some (.ref pc), some (.int sd), some (.str (tx z)), some (.int (L : Int)), some (.ref d), some (.ref q), some (.str px), z8, none] ∧ H12 d = some (.dK (gD ks g))) (fun R hR => ?_) ?_
  ·refine ⟨_, rfl, .str (tx z), _, rfl, hlen _, _, rfl, _, _, rfl, rfl, _, rfl, ?_⟩
   by_cases c : L < z.length
   rotate_left
   ·exact iteM (decide_eq_false (by omega)) (hR _ _ ⟨none, rfl, hd11⟩)
   refine iteP (decide_eq_true (by omega)) ?_
   refine ⟨_, rfl, d, _, rfl, hd11, fun fw hfw => ?_⟩
   have hdf : d ≠ fw := fun e => by rw [← e, hd11] at hfw; cases hfw
   have hfw1 : (upd H11 fw (.dK (gD ks g))) fw = some (.dK (gD ks g)) := upd_same
   have hd12 := same_upd_new (o := .dK (gD ks g)) hfw _ _ hd11
   generalize upd H11 fw (.dK (gD ks g)) = H12 at hfw1 hd12
   refine ⟨_, rfl, _, rfl, fw, .int (g px), rfl, .inl ⟨_, Sum.inr px, .inl hfw1, rfl, by rw [gD_val, if_pos hpk]⟩, _, _, rfl, rfl, _, rfl, _, rfl, fw, _, rfl, DPut.k (k := Sum.inr px) hfw1 (by rw [gD_len]; exact small1000 (by omega)), ?_⟩
   rw [gD_put, if_pos hpk]
   have hfw2 : (upd H12 fw (.dK (gD ks fun x => if x = px then g px - 1 else g x))) fw = some (.dK (gD ks fun x => if x = px then g px - 1 else g x)) := upd_same
   have hd13 : (upd H12 fw (.dK (gD ks fun x => if x = px then g px - 1 else g x))) d = some (.dK (gD ks g)) := by rw [upd_ne hdf]; exact hd12
   generalize upd H12 fw (.dK (gD ks fun x => if x = px then g px - 1 else g x)) = H13 at hfw2 hd13
   dsimp only
   refine seq_any (fun σ H14 => σ = [some (.ref a), some (.ref pc), some (.int sd), some (.str (tx z)), some (.int (L : Int)), some (.ref d), some (.ref q), some (.str px), some (.ref fw), none] ∧ H14 d = some (.dK (gD ks g)) ∧ ∃ ks' g', H14 fw = some (.dK (gD ks' g')) ∧ DG ks' g' L ∧ ks' ≠ []) (fun R2 hR2 => ?_) ?_
   ·refine ⟨_, rfl, _, rfl, fw, .int (g px - 1), rfl, .inl ⟨_, Sum.inr px, .inl hfw2, rfl, by rw [gD_val, if_pos hpk, if_pos rfl]⟩, rfl, _, rfl, ?_⟩
    by_cases c2 : g px - 1 = 0
    ·refine iteP (int_is c2) ⟨_, rfl, fw, rfl, .inl ⟨_, .inl hfw2⟩, _, rfl, _, Sum.inr px, .int (g px - 1), hfw2, rfl, by rw [gD_val, if_pos hpk, if_pos rfl], ?_⟩
     rw [gD_drop]
     refine hR2 _ _ ⟨rfl, by rw [upd_ne hdf]; exact hd13, _, (fun x => if x = px then 0 else g x), ?_, hO.gone px, gone_ne (g := g) hO.nd hpk (by omega) (by rw [htot]; omega)⟩
     rw [upd_same]
     refine congrArg (fun l => some (HO.dK l)) (gD_congr fun x hx => ?_)
     have := (List.mem_filter.mp hx).2
     simp only [decide_eq_true_eq] at this
     rw [if_neg this, if_neg this]
    ·exact iteM (int_ne c2) (hR2 _ _ ⟨rfl, hd13, ks, _, hfw2, hO.less hpk (by omega), hksne⟩)
   rintro σ H14 ⟨rfl, hd14, ks', g', hfw3, hO', hne'⟩
   have hkf' := hO'.few
   refine ⟨_, rfl, fw, _, rfl, hfw3, fun p3 hp3 => ⟨p3, fw, ks', fun x => .int (g' x), rfl, upd_same, same_upd_new hp3 _ _ hfw3, hO'.nd, by omega, fun D2 H15 ws st s15 hpm2 hsrt2 hD2 hwl hw => ⟨D2, ws, rfl, .inl ⟨SqL.of hD2, fun q2 hq2 => ?_⟩⟩⟩⟩
   have sq2 := same_upd_new (o := .tup ws) hq2
   have hF2 := hO'.hpy hne' hpm2 hsrt2
   have hV2 : HeapV (upd H15 q2 (.tup ws)) (.ref q2) (st.map fun x => (x, g' x)) := ⟨q2, ws, rfl, upd_same, (pa_items hwl hw).same sq2.tup⟩
   have hd15 := sq2 _ _ (s15 _ _ (same_upd_new hp3 _ _ hd14))
   generalize st.map (fun x => (x, g' x)) = es2 at hF2 hV2
   obtain ⟨e1, es1, rfl⟩ : ∃ e es', es2 = e :: es' := List.exists_cons_of_ne_nil hF2.ne
   exact ⟨.ref q2, e1, es1, L, rfl, hV2, hF2, fun H16 s16 => ⟨_, rfl, iteM (by decide) (hR _ _ ⟨_, rfl, s16 _ _ hd15⟩)⟩⟩
  clear hd11 hV11 hpa hq11 s11 hd10 hV10 f1 f2
  rintro σ H12 ⟨z8, rfl, hd12⟩
  refine seq_any (fun σ H13 => (∃ z9 : Option V, σ = [some (.ref a), some (.ref pc), some (.int sd), some (.str (tx z)), some (.int (L : Int)), some (.ref d), some (.ref q), some (.str px), z8, z9]) ∧ ∃ ks' g', H13 d = some (.dK (gD ks' g')) ∧ DG ks' g' L ∧ ks' ≠ []) (fun R hR => ?_) ?_
  ·refine ⟨_, rfl, .str (tx z), _, rfl, hlen _, _, _, rfl, rfl, _, rfl, ?_⟩
   by_cases c : z.length < 300
   rotate_left
   ·exact iteM (decide_eq_false (by omega)) (hR _ _ ⟨⟨none, rfl⟩, ks, g, hd12, hO, hksne⟩)
   refine iteP (decide_eq_true (by omega)) ?_
   refine ⟨_, rfl, _, rfl, _, _, rfl, rfl, ⟨by decide, by decide⟩, sd / 2, rfl, by omega, by omega, fun l H13 s13 l2 l4 lc => ⟨_, rfl, sd, l, L, rfl, l2, l4, lc, by omega, fun y yl yc => ?_⟩⟩
   have hd13 := s13 _ _ hd12
   have hgt := gD_get (ks := ks) (g := g) (y := tx y) fun hP => hO.zero _ hP
   refine ⟨_, rfl, d, rfl, .inl ⟨_, .inl hd13⟩, _, rfl, _, DGet.k (k := Sum.inr (tx y)) hd13, _, _, hgt, rfl, _, rfl, _, rfl, d, _, rfl, DPut.k (k := Sum.inr (tx y)) hd13 (by rw [gD_len]; exact small1000 (by omega)), ?_⟩
   rw [gD_put]
   refine hR _ _ ⟨⟨_, rfl⟩, addK ks (tx y), _, upd_same, hO.more (by rw [tx_len]; exact yl) (by rw [tx_list]; exact yc) (by omega) (by rw [htot]; omega), fun e => ?_⟩
   have : tx y ∈ addK ks (tx y) := addK_mem.mpr (.inr rfl)
   rw [e] at this
   cases this
  rintro σ H13 ⟨⟨z9, rfl⟩, ks', g', hd13, hO', hne'⟩
  have hkf' := hO'.few
  refine ⟨_, rfl, d, _, rfl, hd13, fun p3 hp3 => ⟨p3, d, ks', fun x => .int (g' x), rfl, upd_same, same_upd_new hp3 _ _ hd13, hO'.nd, by omega, fun D2 H15 ws st s15 hpm2 hsrt2 hD2 hwl hw => ⟨D2, ws, rfl, .inl ⟨SqL.of hD2, fun q2 hq2 => ?_⟩⟩⟩⟩
  have sq2 := same_upd_new (o := .tup ws) hq2
  have hF2 := hO'.hpy hne' hpm2 hsrt2
  have hV2 : HeapV (upd H15 q2 (.tup ws)) (.ref q2) (st.map fun x => (x, g' x)) := ⟨q2, ws, rfl, upd_same, (pa_items hwl hw).same sq2.tup⟩
  generalize st.map (fun x => (x, g' x)) = es2 at hF2 hV2
  obtain ⟨e1, es1, rfl⟩ : ∃ e es', es2 = e :: es' := List.exists_cons_of_ne_nil hF2.ne
  exact ⟨.ref q2, e1, es1, L, rfl, hV2, hF2, fun H16 s16 => k _⟩
end
end Sh
namespace Sh
open PySem L2
theorem blt_mk {K : PySem.W.Frag} {h : Heap} {mg : Str → Option Value} (X : K.In h) (G : h.Ns mainGlobals mg) (z0 : PySem.W.nsIn K mainGlobals "isinstance" = some none) (z1 : PySem.W.nsIn K mainGlobals "int" = some none) (z2 : PySem.W.nsIn K mainGlobals "bool" = some none) (z3 : PySem.W.nsIn K mainGlobals "str" = some none) (z4 : PySem.W.nsIn K mainGlobals "tuple" = some none) (z5 : PySem.W.nsIn K mainGlobals "list" = some none) (z6 : PySem.W.nsIn K mainGlobals "len" = some none) (z7 : PySem.W.nsIn K mainGlobals "range" = some none) (z8 : PySem.W.nsIn K mainGlobals "all" = some none) (z9 : PySem.W.nsIn K mainGlobals "min" = some none) (z10 : PySem.W.nsIn K mainGlobals "sorted" = some none) (z11 : PySem.W.nsIn K mainGlobals "reversed" = some none) (z12 : PySem.W.nsIn K mainGlobals "zip" = some none) (z13 : PySem.W.nsIn K mainGlobals "sum" = some none) (z14 : PySem.W.nsIn K mainGlobals "set" = some none) (z15 : PySem.W.nsIn K mainGlobals "dict" = some none) : Blt mg :=
 ⟨PySem.W.mg_none_of X G z0, PySem.W.mg_none_of X G z1, PySem.W.mg_none_of X G z2, PySem.W.mg_none_of X G z3, PySem.W.mg_none_of X G z4, PySem.W.mg_none_of X G z5, PySem.W.mg_none_of X G z6, PySem.W.mg_none_of X G z7, PySem.W.mg_none_of X G z8, PySem.W.mg_none_of X G z9, PySem.W.mg_none_of X G z10, PySem.W.mg_none_of X G z11, PySem.W.mg_none_of X G z12, PySem.W.mg_none_of X G z13, PySem.W.mg_none_of X G z14, PySem.W.mg_none_of X G z15⟩
theorem all_mk {l : PySem.W.OpenLaw} {w : World} {K : PySem.W.Frag} {h : Heap} {mg : Str → Option Value} {fa f0 : Addr} (X : K.In h) (G : h.Ns mainGlobals mg) (hfa : mg "law" = some (.ref fa)) {oc kV dc pm cd ct : Value} {od an : Option Addr} {sl : Array (Option Value)}
  (B : Blt mg)
  (D0 : HasDef K mg "begin_of" sBeginOf ["piece"])
  (D1 : HasDef K mg "end_of" sEndOf ["piece"])
  (D2 : HasDef K mg "ties_of" sTiesOf ["H"])
  (D3 : HasDef K mg "points_of" sPointsOf ["H"])
  (D4 : HasDef K mg "more_out" sMoreOut ["H"])
  (D5 : HasDef K mg "begins_of" sBeginsOf ["H"])
  (D6 : HasDef K mg "start_of" sStartOf ["H", "wish"])
  (D7 : HasDef K mg "tied_points" sTiedPoints ["H"])
  (D8 : HasDef K mg "part_of" sPartOf ["H"])
  (D9 : HasDef K mg "hangs" sHangs ["H"])
  (D10 : HasDef K mg "numbers_out" sNumbersOut ["ties"])
  (D11 : HasDef K mg "is_way" sIsWay ["ties", "begin", "numbers"])
  (D12 : HasDef K mg "way_of" sWayOf ["ties", "begin"])
  (D13 : HasDef K mg "text_from" sTextFrom ["ties", "begin"])
  (D14 : HasDef K mg "has_many_begins" sHasManyBegins ["H"])
  (D15 : HasDef K mg "verdict" sVerdict ["H"])
  (D16 : HasDef K mg "_law_seed" sLSeed ["_law_cells"])
  (D17 : HasDef K mg "_law_letters" sLLetters ["_law_cell"])
  (D18 : HasDef K mg "_law_text" sLText ["_law_cells", "_law_seed_here"])
  (D19 : HasDef K mg "_law_torn" sLTorn ["_law_signs", "_law_long"])
  (D20 : HasDef K mg "_law_piece" sLPiece ["_law_cell", "_law_letters_here", "_law_long"])
  (D21 : HasDef K mg "_law_alike" sLAlike ["_law_found", "_law_due"])
  (D22 : HasDef K mg "_law_begins" sLBegins ["_law_heap"])
  (D23 : HasDef K mg "_law_come" sLCome ["_law_heap"])
  (D24 : HasDef K mg "_law_judged" sLJudged ["_law_heap"])
  (D25 : HasDef K mg "_law_longer" sLLonger ["_law_signs", "_law_seed_here"])
  (a0 : PySem.W.nsIn K mainGlobals "law" = some (some (.ref f0))) (l0 : K.lookup f0 = some ⟨oc, od, .func (PySem.W.fnOf "law" "law" (defArgs sLaw) (defBody sLaw) (defScope sLaw) .none kV dc pm an cd ct), sl⟩) (c0 : PySem.W.codeIn K cd "law" = true) (k0 : PySem.W.keepIn K (.ref f0) = true) :
  ∃ fd : FuncData, (∀ (s : Shared) (v : Value), BindsTo s fd ⟨[v], []⟩ [("_law_script", v)]) ∧ ∀ base : Heap, K.In base → base.Ns mainGlobals mg → FnOk l.prog w K mg base CX0 7 fa fd ["_law_script"] (spLaw K) := by
 have e := hfa.symm.trans (PySem.W.mg_of X G a0)
 cases e
 refine ⟨PySem.W.fnOf "law" "law" (defArgs sLaw) (defBody sLaw) (defScope sLaw) .none kV dc pm an cd ct, fun s v => .of_eq rfl, fun base _ _ => ?_⟩
 have W0 := ok_begin_of (P := l.prog) (w := w) (base := base) D0
 have W1 := ok_end_of (P := l.prog) (w := w) (base := base) D1
 have W2 := ok_ties_of (P := l.prog) (w := w) (base := base) D2 W0 W1
 have W3 := ok_points_of (P := l.prog) (w := w) (base := base) D3 B W0 W1
 have W4 := ok_more_out (P := l.prog) (w := w) (base := base) D4 W0 W1
 have W5 := ok_begins_of (P := l.prog) (w := w) (base := base) D5 B W4
 have W6 := ok_start_of (P := l.prog) (w := w) (base := base) D6 B W5
 have W7 := ok_tied_points (P := l.prog) (w := w) (base := base) D7 W0 W1
 have W8 := ok_part_of (P := l.prog) (w := w) (base := base) D8 B (W0.mono (by decide)) W7
 have W9 := ok_hangs (P := l.prog) (w := w) (base := base) D9 B W8 (W3.mono (by decide))
 have W10 := ok_numbers_out (P := l.prog) (w := w) (base := base) D10 B
 have W11 := ok_is_way (P := l.prog) (w := w) (base := base) D11 B
 have W12 := ok_way_of (P := l.prog) (w := w) (base := base) D12 B W10 W11
 have W13 := ok_text_from (P := l.prog) (w := w) (base := base) D13 B W12
 have W14 := ok_has_many (P := l.prog) (w := w) (base := base) D14 B W5
 have W15 := ok_verdict (P := l.prog) (w := w) (base := base) D15 B W14 (W5.mono (by decide)) W9 (W8.mono (by decide)) (W2.mono (by decide)) (W0.mono (by decide)) W6 (W13.mono (by decide))
 have W16 := ok_l_seed (P := l.prog) (w := w) (base := base) D16 B
 have W17 := ok_l_letters (P := l.prog) (w := w) (base := base) D17 B
 have W18 := ok_l_text (P := l.prog) (w := w) (base := base) D18 B W17
 have W19 := ok_l_torn (P := l.prog) (w := w) (base := base) D19 B
 have W20 := ok_l_piece (P := l.prog) (w := w) (base := base) D20 B
 have W21 := ok_l_alike (P := l.prog) (w := w) (base := base) D21 B 2
 have W22 := ok_l_begins (P := l.prog) (w := w) (base := base) D22 B
 have W23 := ok_l_come (P := l.prog) (w := w) (base := base) D23 B
 have W24 := ok_l_judged (P := l.prog) (w := w) (base := base) D24 B W15 (W22.mono (by decide)) (W21.mono (by decide)) (W23.mono (by decide)) (W19.mono (by decide))
 have W25 := ok_l_longer (P := l.prog) (w := w) (base := base) D25 B
 exact ok_law (fun_mk (st := sLaw) l0 c0 k0) B (W16.mono (by decide)) (W18.mono (by decide)) (W25.mono (by decide)) (W19.mono (by decide)) (W15.mono (by decide)) W24 (W17.mono (by decide)) (W20.mono (by decide))
theorem walk {l : PySem.W.OpenLaw} {q : Program} {loose : List Str} {XP : (Str → Option Value) → Heap → Prop} {YP : World → Heap → Prop} {d : DefRec} {K : Params → PySem.W.Frag} (hn : l.most = some 63) (hdf : d.params.defaults = [])
  (hY : ∀ (w : World) (h : Heap), YP w h → (K w.params).In h)
  (F : ∀ (w : World) (mg : Str → Option Value) (fa : Addr) (h : Heap), (K w.params).In h → h.Ns mainGlobals mg → mg d.name = some (.ref fa) →
   ∃ fd : FuncData, (∀ (s : Shared) (u : Value), BindsTo s fd ⟨[u], []⟩ [("_law_script", u)]) ∧ ∀ base : Heap, (K w.params).In base → base.Ns mainGlobals mg → FnOk l.prog w (K w.params) mg base CX0 7 fa fd ["_law_script"] (spLaw (K w.params))) :
  PySem.W.WalkO q loose XP YP l.row.toRowW d [] (fun f vs => PySem.call f vs) :=
 L2.walk_of (n := 63) (k := 7) (x := "_law_script") (CX := fun _ => CX0) (sp := fun w => spLaw (K w.params)) hn (by decide) hdf ⟨rfl, by decide, by decide⟩ hY F (fun _ _ a ns hl _ hS => ⟨a, ns, rfl, hS, hl, fun _ => rfl⟩) fun _ _ _ _ _ z => z
end Sh
open PySem PySem.W PyProof.Rows
set_option maxRecDepth 100000 in
set_option maxHeartbeats 0 in
theorem PySem.Challenge.cw_shredjoin_k23_torn_have_texts_holds : PySem.Challenge.rw_shredjoin_k23_torn_have_texts.Holds := by
 w_on; o_law; k_head; (case hw => w_witness2)
 k_fill
 refine Sh.walk (l := PySem.Challenge.rw_shredjoin_k23_torn_have_texts) rfl rfl (fun w h Y => PySem.W.kIn_of Y) ?F
 case F =>
  intro w mg fa h KX G hmg
  refine' Sh.all_mk KX G hmg ?B ?D0 ?D1 ?D2 ?D3 ?D4 ?D5 ?D6 ?D7 ?D8 ?D9 ?D10 ?D11 ?D12 ?D13 ?D14 ?D15 ?D16 ?D17 ?D18 ?D19 ?D20 ?D21 ?D22 ?D23 ?D24 ?D25 ?a0 ?l0 ?c0 ?k0
  case B =>
   refine' Sh.blt_mk KX G ?z0 ?z1 ?z2 ?z3 ?z4 ?z5 ?z6 ?z7 ?z8 ?z9 ?z10 ?z11 ?z12 ?z13 ?z14 ?z15
   (case z0 => k_is); (case z1 => k_is); (case z2 => k_is); (case z3 => k_is); (case z4 => k_is); (case z5 => k_is); (case z6 => k_is); (case z7 => k_is); (case z8 => k_is); (case z9 => k_is); (case z10 => k_is); (case z11 => k_is); (case z12 => k_is); (case z13 => k_is); (case z14 => k_is); (case z15 => k_is)
  case D0 =>
   refine' L2.hasDef_mk KX G ?a ?l ?c ?k ?b
   (case a => k_is); (case l => k_is); (case c => k_is); (case k => k_is)
   case b => exact fun _ _ _ _ _ _ us hl => match us, hl with | [_], _ => rfl
  case D1 =>
   refine' L2.hasDef_mk KX G ?a ?l ?c ?k ?b
   (case a => k_is); (case l => k_is); (case c => k_is); (case k => k_is)
   case b => exact fun _ _ _ _ _ _ us hl => match us, hl with | [_], _ => rfl
  case D2 =>
   refine' L2.hasDef_mk KX G ?a ?l ?c ?k ?b
   (case a => k_is); (case l => k_is); (case c => k_is); (case k => k_is)
   case b => exact fun _ _ _ _ _ _ us hl => match us, hl with | [_], _ => rfl
  case D3 =>
   refine' L2.hasDef_mk KX G ?a ?l ?c ?k ?b
   (case a => k_is); (case l => k_is); (case c => k_is); (case k => k_is)
   case b => exact fun _ _ _ _ _ _ us hl => match us, hl with | [_], _ => rfl
  case D4 =>
   refine' L2.hasDef_mk KX G ?a ?l ?c ?k ?b
   (case a => k_is); (case l => k_is); (case c => k_is); (case k => k_is)
   case b => exact fun _ _ _ _ _ _ us hl => match us, hl with | [_], _ => rfl
  case D5 =>
   refine' L2.hasDef_mk KX G ?a ?l ?c ?k ?b
   (case a => k_is); (case l => k_is); (case c => k_is); (case k => k_is)
   case b => exact fun _ _ _ _ _ _ us hl => match us, hl with | [_], _ => rfl
  case D6 =>
   refine' L2.hasDef_mk KX G ?a ?l ?c ?k ?b
   (case a => k_is); (case l => k_is); (case c => k_is); (case k => k_is)
   case b => exact fun _ _ _ _ _ _ us hl => match us, hl with | [_, _], _ => rfl
  case D7 =>
   refine' L2.hasDef_mk KX G ?a ?l ?c ?k ?b
   (case a => k_is); (case l => k_is); (case c => k_is); (case k => k_is)
   case b => exact fun _ _ _ _ _ _ us hl => match us, hl with | [_], _ => rfl
  case D8 =>
   refine' L2.hasDef_mk KX G ?a ?l ?c ?k ?b
   (case a => k_is); (case l => k_is); (case c => k_is); (case k => k_is)
   case b => exact fun _ _ _ _ _ _ us hl => match us, hl with | [_], _ => rfl
  case D9 =>
   refine' L2.hasDef_mk KX G ?a ?l ?c ?k ?b
   (case a => k_is); (case l => k_is); (case c => k_is); (case k => k_is)
   case b => exact fun _ _ _ _ _ _ us hl => match us, hl with | [_], _ => rfl
  case D10 =>
   refine' L2.hasDef_mk KX G ?a ?l ?c ?k ?b
   (case a => k_is); (case l => k_is); (case c => k_is); (case k => k_is)
   case b => exact fun _ _ _ _ _ _ us hl => match us, hl with | [_], _ => rfl
  case D11 =>
   refine' L2.hasDef_mk KX G ?a ?l ?c ?k ?b
   (case a => k_is); (case l => k_is); (case c => k_is); (case k => k_is)
   case b => exact fun _ _ _ _ _ _ us hl => match us, hl with | [_, _, _], _ => rfl
  case D12 =>
   refine' L2.hasDef_mk KX G ?a ?l ?c ?k ?b
   (case a => k_is); (case l => k_is); (case c => k_is); (case k => k_is)
   case b => exact fun _ _ _ _ _ _ us hl => match us, hl with | [_, _], _ => rfl
  case D13 =>
   refine' L2.hasDef_mk KX G ?a ?l ?c ?k ?b
   (case a => k_is); (case l => k_is); (case c => k_is); (case k => k_is)
   case b => exact fun _ _ _ _ _ _ us hl => match us, hl with | [_, _], _ => rfl
  case D14 =>
   refine' L2.hasDef_mk KX G ?a ?l ?c ?k ?b
   (case a => k_is); (case l => k_is); (case c => k_is); (case k => k_is)
   case b => exact fun _ _ _ _ _ _ us hl => match us, hl with | [_], _ => rfl
  case D15 =>
   refine' L2.hasDef_mk KX G ?a ?l ?c ?k ?b
   (case a => k_is); (case l => k_is); (case c => k_is); (case k => k_is)
   case b => exact fun _ _ _ _ _ _ us hl => match us, hl with | [_], _ => rfl
  case D16 =>
   refine' L2.hasDef_mk KX G ?a ?l ?c ?k ?b
   (case a => k_is); (case l => k_is); (case c => k_is); (case k => k_is)
   case b => exact fun _ _ _ _ _ _ us hl => match us, hl with | [_], _ => rfl
  case D17 =>
   refine' L2.hasDef_mk KX G ?a ?l ?c ?k ?b
   (case a => k_is); (case l => k_is); (case c => k_is); (case k => k_is)
   case b => exact fun _ _ _ _ _ _ us hl => match us, hl with | [_], _ => rfl
  case D18 =>
   refine' L2.hasDef_mk KX G ?a ?l ?c ?k ?b
   (case a => k_is); (case l => k_is); (case c => k_is); (case k => k_is)
   case b => exact fun _ _ _ _ _ _ us hl => match us, hl with | [_, _], _ => rfl
  case D19 =>
   refine' L2.hasDef_mk KX G ?a ?l ?c ?k ?b
   (case a => k_is); (case l => k_is); (case c => k_is); (case k => k_is)
   case b => exact fun _ _ _ _ _ _ us hl => match us, hl with | [_, _], _ => rfl
  case D20 =>
   refine' L2.hasDef_mk KX G ?a ?l ?c ?k ?b
   (case a => k_is); (case l => k_is); (case c => k_is); (case k => k_is)
   case b => exact fun _ _ _ _ _ _ us hl => match us, hl with | [_, _, _], _ => rfl
  case D21 =>
   refine' L2.hasDef_mk KX G ?a ?l ?c ?k ?b
   (case a => k_is); (case l => k_is); (case c => k_is); (case k => k_is)
   case b => exact fun _ _ _ _ _ _ us hl => match us, hl with | [_, _], _ => rfl
  case D22 =>
   refine' L2.hasDef_mk KX G ?a ?l ?c ?k ?b
   (case a => k_is); (case l => k_is); (case c => k_is); (case k => k_is)
   case b => exact fun _ _ _ _ _ _ us hl => match us, hl with | [_], _ => rfl
  case D23 =>
   refine' L2.hasDef_mk KX G ?a ?l ?c ?k ?b
   (case a => k_is); (case l => k_is); (case c => k_is); (case k => k_is)
   case b => exact fun _ _ _ _ _ _ us hl => match us, hl with | [_], _ => rfl
  case D24 =>
   refine' L2.hasDef_mk KX G ?a ?l ?c ?k ?b
   (case a => k_is); (case l => k_is); (case c => k_is); (case k => k_is)
   case b => exact fun _ _ _ _ _ _ us hl => match us, hl with | [_], _ => rfl
  case D25 =>
   refine' L2.hasDef_mk KX G ?a ?l ?c ?k ?b
   (case a => k_is); (case l => k_is); (case c => k_is); (case k => k_is)
   case b => exact fun _ _ _ _ _ _ us hl => match us, hl with | [_, _], _ => rfl
  (case a0 => k_is); (case l0 => k_is); (case c0 => k_is); (case k0 => k_is)
#print axioms PySem.Challenge.cw_shredjoin_k23_torn_have_texts_holds
