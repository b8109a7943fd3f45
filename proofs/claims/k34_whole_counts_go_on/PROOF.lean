import PyProof.Rows.All
import Wide.All
import OpenK.AllK
import Wide.FinOn
import Lean
import PyProof.EqAt
import PyProof.EqKinds
import PyProof.TupleCall
import KE.KSortTup
import KE.KItemsList
import KE.KUnpack
import PyProof.EnumMake
import PyProof.EnumFor
import PyProof.EnumStmt
import KE.IntBitsLaws
import KE.KDictSum
import PyProof.SetRoads
import PyProof.Rows.SetFrom
import PyProof.FactsAll.set_1
import PyProof.FactsAll.set_2
import KE.KMinBuiltin
import PyProof.WalkInts
import PyProof.Rows.CallKwBuiltin
import PyProof.DictItemsLoops
import KE.KDictLaws
import KE.KPairComp
import PyProof.Rows.DictUnroll
import PyProof.ZipIter
import KE.KRevIter
import PyProof.ListStr
import PySem.Challenge.RW_shredjoin_k34_whole_counts_go_on
set_option maxHeartbeats 0
set_option Elab.async false
set_option linter.all false
set_option maxRecDepth 100000
namespace L2
open PySem PySem.Spec PyProof.Rows
abbrev Key:=Sum Int Str
def J2:Key→Value→Bool
 | .inl k,v=>Value.isInt k v
 | .inr x,v=>Value.isStrOf x v
def Zn3 (w:World):Key→Int
 | .inl k=>hashInt k
 | .inr x=>hashStr w x
theorem keyIs_shape:∀ {k:Key} {v:Value},J2 k v=true→(∃ i t,k=Sum.inl i∧v=Value.int i t)∨(∃ x t,k=Sum.inr x∧v=Value.str x t)
 | .inl i,v,h=>by
  obtain ⟨t,e⟩:=Value.isInt_shape (k:=i) (v:=v) h
  exact .inl ⟨i,t,rfl,e⟩
 | .inr x,v,h=>by
  obtain ⟨t,e⟩:=Value.isStrOf_shape (x:=x) (v:=v) h
  exact .inr ⟨x,t,rfl,e⟩
theorem ZgQ (i:Int) (t:Tok):J2 (.inl i) (.int i t)=true:=by simp [J2,Value.isInt]
theorem ZgP (x:Str) (t:Tok):J2 (.inr x) (.str x t)=true:=by simp [J2,Value.isStrOf]
theorem Zmj (a b:Int):decide ((Sum.inl a:Key)=Sum.inl b)=(a == b):=by
 by_cases e:a=b
 ·subst e; simp
 ·have h:¬ (Sum.inl a:Key)=Sum.inl b:=fun q=>e (Sum.inl.inj q)
  rw [decide_eq_false h]
  exact (beq_eq_false_iff_ne.mpr e).symm
theorem Zmg (a b:Str):decide ((Sum.inr a:Key)=Sum.inr b)=decide (a=b):=by
 by_cases e:a=b
 ·subst e; simp
 ·have h:¬ (Sum.inr a:Key)=Sum.inr b:=fun q=>e (Sum.inr.inj q)
  rw [decide_eq_false h,decide_eq_false e]
theorem Zmi (a:Int) (b:Str):decide ((Sum.inl a:Key)=Sum.inr b)=false:=decide_eq_false (fun q=>nomatch q)
theorem Zmh (a:Str) (b:Int):decide ((Sum.inr a:Key)=Sum.inl b)=false:=decide_eq_false (fun q=>nomatch q)
def Zp (prog:Program) (w:World):PySem.KeyKind prog w Key where
 is:=J2
 hash:=Zn3 w
 inj:=fun v a b ha hb=>by
  rcases keyIs_shape ha with ⟨i,t,rfl,rfl⟩ | ⟨x,t,rfl,rfl⟩
  ·rcases keyIs_shape hb with ⟨j,u,rfl,e⟩ | ⟨y,u,rfl,e⟩
   ·injection e with e1 _; rw [e1]
   ·exact nomatch e
  ·rcases keyIs_shape hb with ⟨j,u,rfl,e⟩ | ⟨y,u,rfl,e⟩
   ·exact nomatch e
   ·injection e with e1 _; rw [e1]
 byValue:=fun k v h=>by
  rcases keyIs_shape h with ⟨i,t,rfl,rfl⟩ | ⟨x,t,rfl,rfl⟩ <;> rfl
 pyHash:=fun hv h=>by
  rcases keyIs_shape hv with ⟨i,t,rfl,rfl⟩ | ⟨x,t,rfl,rfl⟩
  ·exact wpAny_pyHash_int h
  ·exact wpAny_pyHash_str h
 eqBool:=fun hu hv h=>by
  rcases keyIs_shape hu with ⟨i,t,rfl,rfl⟩ | ⟨x,t,rfl,rfl⟩
  ·rcases keyIs_shape hv with ⟨j,u,rfl,rfl⟩ | ⟨y,u,rfl,rfl⟩
   ·rw [Zmj] at h; exact wpAny_eqBool_int h
   ·rw [Zmi] at h; exact SeqAt.EqAt.int_str i t y u _ _ _ _ h
  ·rcases keyIs_shape hv with ⟨j,u,rfl,rfl⟩ | ⟨y,u,rfl,rfl⟩
   ·rw [Zmh] at h; exact SeqAt.EqAt.str_int x t j u _ _ _ _ h
   ·rw [Zmg] at h; exact wpAny_eqBool_str h
 «strs»:=fun k x t v h=>by
  rcases keyIs_shape h with ⟨i,u,rfl,e⟩ | ⟨y,u,rfl,e⟩
  ·exact nomatch e
  ·injection e with e1 _
   subst e1
   cases v <;> rfl
theorem Zc8 (prog:Program) (w:World) (i:Int) (t:Tok):(Zp prog w).is (.inl i) (.int i t)=true:=ZgQ i t
theorem Xp (prog:Program) (w:World) (x:Str) (t:Tok):(Zp prog w).is (.inr x) (.str x t)=true:=ZgP x t
inductive V where
 | non | bl (b:Bool) | int (i:Int) | str (x:Str) | byt (b:Array UInt8) | flt (b:UInt64) | ref (a:Addr) | ty (n:String)
 deriving DecidableEq
def RelV:V→Value→Prop
 | .non,u=>u=Value.none
 | .bl b,u=>u=Value.bool b
 | .int i,u=>∃ t,u=Value.int i t
 | .str x,u=>∃ t,u=Value.str x t
 | .byt b,u=>∃ t,u=Value.bytes b t
 | .flt b,u=>∃ t,u=Value.float b t
 | .ref a,u=>u=Value.ref a
 | .ty n,u=>u=Value.type n
abbrev Vals:List V→List Value→Prop:=Paired RelV
theorem Vals.length {xs:List V} {us:List Value} (r:Vals xs us):xs.length=us.length:=Paired.length r
theorem Vals.get:∀ {xs:List V} {us:List Value} {i:Nat} {x:V},Vals xs us→xs[i]?=some x→∃ u,us[i]?=some u∧RelV x u
 | _,_,_,_,.nil,e=>by simp at e
 | _,_,0,_,.cons r _,e=>by simp at e; subst e; exact ⟨_,rfl,r⟩
 | _,_,i + 1,x,.cons _ t,e=>by
  obtain ⟨u,h1,h2⟩:=Vals.get (i:=i) (x:=x) t (by simpa using e)
  exact ⟨u,by simpa using h1,h2⟩
theorem Vals.set {x:V} {u:Value} (r:RelV x u):∀ {xs:List V} {us:List Value} (i:Nat),Vals xs us→Vals (xs.set i x) (us.set i u)
 | _,_,_,.nil=>.nil
 | _,_,0,.cons _ t=>.cons r t
 | _,_,i + 1,.cons q t=>.cons q (Vals.set r i t)
theorem Vals.append:∀ {xs ys:List V} {us ws:List Value},Vals xs us→Vals ys ws→Vals (xs ++ ys) (us ++ ws)
 | _,_,_,_,.nil,s=>s
 | _,_,_,_,.cons r t,s=>.cons r (Vals.append t s)
theorem Vals.take:∀ {xs:List V} {us:List Value} (n:Nat),Vals xs us→Vals (xs.take n) (us.take n)
 | _,_,0,_=>.nil
 | _,_,_ + 1,.nil=>.nil
 | _,_,n + 1,.cons r t=>.cons r (Vals.take n t)
theorem Vals.drop:∀ {xs:List V} {us:List Value} (n:Nat),Vals xs us→Vals (xs.drop n) (us.drop n)
 | _,_,0,r=>r
 | _,_,_ + 1,.nil=>.nil
 | _,_,n + 1,.cons _ t=>Vals.drop n t
def RelO:Option V→Option Value→Prop
 | some v,some u=>RelV v u
 | none,none=>True
 | _,_=>False
def KV {κ:Type}:List (κ × V)→List (κ × Value)→Prop:=Paired fun (p:κ × V) (q:κ × Value)=>p.1=q.1∧RelV p.2 q.2
def kV:Key→V
 | .inl i=>.int i
 | .inr x=>.str x
inductive HO where
  | lst (xs:List V)
  | tup (xs:List V)
  | dK (kvs:List (Key × V)) | dT (kvs:List (List Key × V))
  | set (S:Int→Bool) (n:Nat)
  | ins (C dx:Addr) (fs:List (Str × V))
  | own (x:Addr)
  | xd (fs:List (Str × V))
  | met (f x:Addr)
  | rng (lo hi:Int)
  | frz (o:Obj) (u:HO)
  | tbl (ps:Array Value)
  | ext (φ:Heap→Prop)
abbrev Hp:=Addr→Option HO
def upd (H:Hp) (a:Addr) (o:HO):Hp:=fun b=>if b=a then some o else H b
theorem Zc {H:Hp} {a:Addr} {o:HO}:upd H a o a=some o:=by unfold upd; rw [if_pos rfl]
theorem Zi {H:Hp} {a b:Addr} {o:HO} (h:b≠a):upd H a o b=H b:=by unfold upd; rw [if_neg h]
theorem ZaI {H:Hp} {a:Addr} {o u:HO}:upd (upd H a o) a u=upd H a u:=by
 funext b; unfold upd; split <;> rfl
theorem Znb {H:Hp} {a b:Addr} {o u:HO} (h:H a=some o) (h':H b=some u) (d:o≠u):a≠b:=by
 intro e; subst e; rw [h] at h'; exact d (Option.some.inj h')
theorem Zj {H:Hp} {a b:Addr} {o:HO} (h:H a=some o) (h':H b=none):a≠b:=by
 intro e; subst e; rw [h] at h'; cases h'
section
variable (P:Program) (w:World)
def NoD (h:Heap) (a:Addr):Prop:=∀ o,h.get? a=some o→o.dict=none
theorem Zd3 {h:Heap} {o:Obj} (hd:o.dict=none) (hf:o.isFreed=false):NoD (h.push o) h.objs.size:=fun o2 e=>by
 rw [Heap.get?_push_size h hf] at e
 cases e
 exact hd
def ObjOk (H:Hp) (h:Heap) (a:Addr):HO→Prop
 | .lst xs=>xs.length≤sizeLine∧∃ (its:List Value) (n:Nat),Vals xs its∧h.get? a=some { cls:=.type "list",data:=.seq its.toArray n }
 | .tup xs=>xs.length≤sizeLine∧∃ its:List Value,Vals xs its∧IsTup h a its.toArray∧NoD h a
 | .dK kvs=>kvs.length≤sizeLine∧(a == sysModules)=false∧∃ vs,KV kvs vs∧h.DictOf (Zp P w) a vs
 | .dT kvs=>kvs.length≤sizeLine∧(a == sysModules)=false∧∃ xs:List (List Key × Addr × Value),
   Paired (fun (p:List Key × V) (q:List Key × Addr × Value)=>p.1=q.1∧H q.2.1=some (.tup (p.1.map kV))∧RelV p.2 q.2.2) kvs xs ∧
   ∃ o es ep,h.get? a=some o∧o.ExactDict∧o.data = .dict es ep∧es.toList=xs.map (entryOfKey (tupleKind (Zp P w)))∧(xs.map (·.1)).Nodup
 | .set S n=>h.SetOf (intKind P w) a S n
 | .ins C dx fs=>H dx=some (.own a)∧fs.length≤1000∧dx≠a∧h.get? a=some (PySem.W.instObj C dx) ∧
   ∃ mA,h.Ns1 dx mA∧(∀ f,RelO (fs.lookup f) (mA f))∧PySem.Within mA (fs.map (·.1))
 | .own _=>∃ o,h.get? a=some o
 | .xd fs=>∃ mA,h.Ns1 a mA∧∀ f,RelO (fs.lookup f) (mA f)
 | .rng lo hi=>∃ t u v,h.get? a=some { cls:=.type "range",data:=.fields #[.int lo t,.int hi u,.int 1 v] }
 | .frz o u=>h.get? a=some o∧ObjOk H h a u
 | .tbl ps=>h.get? a=some { cls:=.none,data:=.fields ps }
 | .met f x=>h.get? a=some (PySem.W.methodObj (.ref f) (.ref x))
 | .ext φ=>φ h∧(∃ o,h.get? a=some o)∧∀ h1 h2:Heap,φ h1→(∀ o,h1.get? a=some o→h2.get? a=some o)→φ h2
def HOk (H:Hp) (h:Heap):Prop:=∀ a o,H a=some o→ObjOk P w H h a o
end
section
variable {P:Program} {w:World} {H H':Hp} {h h':Heap} {a:Addr} {o:HO}
theorem ObjOk.lt (x:ObjOk P w H h a o):a < h.objs.size:=by
 cases o with
 | lst xs=>obtain ⟨_,_,_,_,e⟩:=x; exact Heap.lt_size e
 | tup xs=>obtain ⟨_,_,_,p,_⟩:=x; exact p.lt
 | dK kvs=>obtain ⟨_,_,_,_,o,_,_,e,_⟩:=x; exact Heap.lt_size e
 | dT kvs=>obtain ⟨_,_,_,_,o,_,_,e,_⟩:=x; exact Heap.lt_size e
 | set S n=>obtain ⟨o,_,_,_,e,_⟩:=x; exact Heap.lt_size e
 | ins C dx fs=>obtain ⟨_,_,_,e,_⟩:=x; exact Heap.lt_size e
 | own y=>obtain ⟨_,e⟩:=x; exact Heap.lt_size e
 | xd fs=>obtain ⟨_,⟨_,_,_,e,_⟩,_⟩:=x; exact Heap.lt_size e
 | rng lo hi=>obtain ⟨_,_,_,e⟩:=x; exact Heap.lt_size e
 | frz ob u=>obtain ⟨e,_⟩:=x; exact Heap.lt_size e
 | tbl ps=>exact Heap.lt_size (show h.get? a=some _ from x)
 | met f y=>exact Heap.lt_size (show h.get? a=some _ from x)
 | ext φ=>obtain ⟨_,⟨_,e⟩,_⟩:=x; exact Heap.lt_size e
theorem Paired.mapP {α β:Type} {F G:α→β→Prop}:∀ {l₁:List α} {l₂:List β},Paired F l₁ l₂→(∀ a b,F a b→G a b)→Paired G l₁ l₂
 | _,_,.nil,_=>.nil
 | _,_,.cons r t,f=>.cons (f _ _ r) (Paired.mapP t f)
theorem ObjOk.stay (x:ObjOk P w H h a o) (k:∀ b u,(b=a∨H b=some (.own a))→h.get? b=some u→h'.get? b=some u)
  (ho:∀ b,H b=some (.own a)→H' b=some (.own a)) (ht:∀ b xs,H b=some (.tup xs)→H' b=some (.tup xs)):ObjOk P w H' h' a o:=by
 induction o with
 | lst xs=>obtain ⟨z,its,n,r,e⟩:=x; exact ⟨z,its,n,r,k _ _ (.inl rfl) e⟩
 | tup xs =>
  obtain ⟨z,its,r,⟨ob,e,c⟩,nd⟩:=x
  exact ⟨z,its,r,⟨ob,k _ _ (.inl rfl) e,c⟩,fun o2 e2=>by
   rw [k _ _ (.inl rfl) e] at e2
   cases e2
   exact nd _ e⟩
 | dK kvs=>obtain ⟨z,y,vs,r,ob,es,ep,e,c⟩:=x; exact ⟨z,y,vs,r,ob,es,ep,k _ _ (.inl rfl) e,c⟩
 | dT kvs =>
  obtain ⟨z,y,xs,r,ob,es,ep,e,c⟩:=x
  exact ⟨z,y,xs,Paired.mapP r fun p q z=>⟨z.1,ht _ _ z.2.1,z.2.2⟩,ob,es,ep,k _ _ (.inl rfl) e,c⟩
 | set S n=>obtain ⟨ob,es,ep,t,e,c⟩:=x; exact ⟨ob,es,ep,t,k _ _ (.inl rfl) e,c⟩
 | ins C dx fs =>
  obtain ⟨d,z,ne,e,mA,⟨od,es,ep,e2,c⟩,r⟩:=x
  exact ⟨ho _ d,z,ne,k _ _ (.inl rfl) e,mA,⟨od,es,ep,k _ _ (.inr d) e2,c⟩,r⟩
 | own y=>obtain ⟨ob,e⟩:=x; exact ⟨ob,k _ _ (.inl rfl) e⟩
 | xd fs=>obtain ⟨mA,⟨od,es,ep,e,c⟩,r⟩:=x; exact ⟨mA,⟨od,es,ep,k _ _ (.inl rfl) e,c⟩,r⟩
 | rng lo hi=>obtain ⟨t,u,v,e⟩:=x; exact ⟨t,u,v,k _ _ (.inl rfl) e⟩
 | frz ob u ih=>obtain ⟨e,q⟩:=x; exact ⟨k _ _ (.inl rfl) e,ih q⟩
 | tbl ps =>
  have e:h.get? a=some { cls:=.none,data:=.fields ps }:=x
  show h'.get? a=some { cls:=.none,data:=.fields ps }
  exact k a _ (.inl rfl) e
 | met f y =>
  have e:h.get? a=some (PySem.W.methodObj (.ref f) (.ref y)):=x
  show h'.get? a=some (PySem.W.methodObj (.ref f) (.ref y))
  exact k a _ (.inl rfl) e
 | ext φ=>obtain ⟨p,⟨o,e⟩,st⟩:=x; exact ⟨st _ _ p fun o q=>k _ _ (.inl rfl) q,⟨o,k _ _ (.inl rfl) e⟩,st⟩
theorem HOk.lt (x:HOk P w H h) (e:H a=some o):a < h.objs.size:=(x a o e).lt
theorem HOk.fresh (x:HOk P w H h) (e:h.objs.size≤a):H a=none:=by
 cases q:H a with
 | none=>rfl
 | some u=>exact absurd (Nat.lt_of_lt_of_le (x.lt q) e) (Nat.lt_irrefl _)
theorem HOk.kept (x:HOk P w H h) (k:∀ b u,h.get? b=some u→h'.get? b=some u):HOk P w H h':=fun a o e =>
 (x a o e).stay (fun b u _ q=>k b u q) (fun _ q=>q) fun _ _ q=>q
theorem HOk.laid (x:HOk P w H h) (k:∀ b u,h.get? b=some u→h'.get? b=some u) (hp:h.objs.size≤a) (new:ObjOk P w (upd H a o) h' a o):HOk P w (upd H a o) h':=fun b u e=>by
 have hn:=x.fresh hp
 by_cases hb:b=a
 ·subst hb; rw [Zc] at e; cases e; exact new
 ·rw [Zi hb] at e
  exact (x b u e).stay (fun c v _ q=>k c v q) (fun c q=>by rw [Zi (Zj q hn)]; exact q) fun c xs q=>by rw [Zi (Zj q hn)]; exact q
end
def Rd (H:Hp) (a:Addr) (u:HO):Prop:=H a=some u∨∃ o,H a=some (.frz o u)
theorem Rd.of {H:Hp} {a:Addr} {u:HO} (h:H a=some u):Rd H a u:=.inl h
theorem Rd.ok {P:Program} {w:World} {H:Hp} {h:Heap} {a:Addr} {u:HO} (r:Rd H a u) (x:HOk P w H h):ObjOk P w H h a u:=by
 rcases r with r | ⟨o,r⟩
 ·exact x a u r
 ·obtain ⟨_,q⟩:=x a _ r
  exact q
def Mut:Option HO→Prop
 | some (.lst _)=>True
 | some (.dK _)=>True
 | some (.dT _)=>True
 | some (.set _ _)=>True
 | some (.ins _ _ _)=>True
 | some (.ext _)=>True
 | _=>False
section
variable {P:Program} {w:World} {H:Hp} {h h':Heap} {x e:Addr} {o':HO}
theorem HOk.write (ok:HOk P w H h) (mu:Mut (H x)) (he:e=x∨H e=some (.own x)) (k:∀ b u,b≠e→h.get? b=some u→h'.get? b=some u) (heo:∃ u,h'.get? e=some u)
  (new:ObjOk P w (upd H x o') h' x o'):HOk P w (upd H x o') h':=fun b u q=>by
 have nown:∀ c y,H c=some (.own y)→c≠x:=fun c y r z=>by subst z; rw [r] at mu; exact mu
 have ntup:∀ c xs,H c=some (.tup xs)→c≠x:=fun c xs r z=>by subst z; rw [r] at mu; exact mu
 by_cases hb:b=x
 ·subst hb; rw [Zc] at q; cases q; exact new
 ·rw [Zi hb] at q
  by_cases hbe:b=e
  ·have q':H b=some (.own x):=by
    rcases he with z | z
    ·exact absurd (hbe.trans z) hb
    ·rw [hbe]; exact z
   rw [q] at q'; cases q'
   obtain ⟨v,hv⟩:=heo
   exact ⟨v,by rw [hbe]; exact hv⟩
  ·refine (ok b u q).stay (fun c v hc r=>k c v ?_ r) (fun c r=>by rw [Zi (nown c b r)]; exact r) fun c xs r=>by rw [Zi (ntup c xs r)]; exact r
   rcases hc with rfl | hc
   ·exact hbe
   ·rintro rfl
    rcases he with z | z
    ·exact nown c b hc z
    ·rw [hc] at z; cases z; exact hb rfl
end
structure Un (fs ex:List Addr) (H H':Hp) (h h':Heap):Prop where
 keep:∀ b o,h.get? b=some o→H b=none→b∉fs→b∉ex→h'.get? b=some o
 slot:∀ b o,h.get? b=some o→H b=none→b∈fs→b∉ex→∃ sl,h'.get? b=some { o with slots:=sl }
 free:∀ b o,h.get? b=some o→H b=none→b∉ex→H' b=none
 there:∀ b o,h.get? b=some o→b∉ex→∃ o',h'.get? b=some o'
 tups:∀ b xs,H b=some (.tup xs)→H' b=some (.tup xs)
 frzs:∀ b o u,H b=some (.frz o u)→H' b=some (.frz o u)
 tbls:∀ b ps,H b=some (.tbl ps)→∃ more,H' b=some (.tbl (ps ++ more))
section
variable {fs fs' ex ex':List Addr} {H H1 H2:Hp} {h h1 h2 h':Heap} {a x e:Addr} {o:HO}
theorem Un.any (u:Un fs ex H H1 h h1) {b:Addr} {ob:Obj} (q:h.get? b=some ob) (n:H b=none) (hx:b∉ex):∃ sl,h1.get? b=some { ob with slots:=sl }:=by
 by_cases hb:b∈fs
 ·exact u.slot b ob q n hb hx
 ·exact ⟨ob.slots,u.keep b ob q n hb hx⟩
theorem Un.trans (a:Un fs ex H H1 h h1) (b:Un fs ex H1 H2 h1 h2):Un fs ex H H2 h h2 where
 keep:=fun c ob q n hc hx=>b.keep c ob (a.keep c ob q n hc hx) (a.free c ob q n hx) hc hx
 slot:=fun c ob q n hc hx=>by
  obtain ⟨sl,e1⟩:=a.slot c ob q n hc hx
  obtain ⟨sl',e2⟩:=b.slot c _ e1 (a.free c ob q n hx) hc hx
  exact ⟨sl',e2⟩
 free:=fun c ob q n hx=>by
  obtain ⟨o',e1⟩:=a.there c ob q hx
  exact b.free c o' e1 (a.free c ob q n hx) hx
 there:=fun c ob q hx=>by
  obtain ⟨o',e1⟩:=a.there c ob q hx
  exact b.there c o' e1 hx
 tups:=fun c xs q=>b.tups c xs (a.tups c xs q)
 frzs:=fun c ob xs q=>b.frzs c ob xs (a.frzs c ob xs q)
 tbls:=fun c ps q=>by
  obtain ⟨m1,e1⟩:=a.tbls c ps q
  obtain ⟨m2,e2⟩:=b.tbls c _ e1
  exact ⟨m1 ++ m2,by rw [e2,Array.append_assoc]⟩
theorem Un.kept (k:∀ b u,h.get? b=some u→h'.get? b=some u):Un fs ex H H h h' :=
 ⟨fun b ob q _ _ _=>k b ob q,fun b ob q _ _ _=>⟨ob.slots,k b ob q⟩,fun _ _ _ n _=>n,fun b ob q _=>⟨ob,k b ob q⟩,fun _ _ q=>q,fun _ _ _ q=>q,fun _ ps q=>⟨#[],by rw [q]; simp⟩⟩
theorem Un.refl:Un fs ex H H h h:=Un.kept fun _ _ q=>q
theorem Un.laid (k:∀ b u,h.get? b=some u→h'.get? b=some u) (hp:h.objs.size≤a) (hn:H a=none):Un fs ex H (upd H a o) h h' where
 keep:=fun b u q _ _ _=>k b u q
 slot:=fun b u q _ _ _=>⟨u.slots,k b u q⟩
 free:=fun b u q n _=>by rw [Zi (Nat.ne_of_lt (Nat.lt_of_lt_of_le (Heap.lt_size q) hp))]; exact n
 there:=fun b u q _=>⟨u,k b u q⟩
 tups:=fun b xs q=>by rw [Zi (Zj q hn)]; exact q
 frzs:=fun b u xs q=>by rw [Zi (Zj q hn)]; exact q
 tbls:=fun b ps q=>⟨#[],by rw [Zi (Zj q hn),q]; simp⟩
theorem Un.write (mu:Mut (H x)) (he:e=x∨H e=some (.own x)) (k:∀ b u,b≠e→h.get? b=some u→h'.get? b=some u) (heo:∃ u,h'.get? e=some u):Un fs ex H (upd H x o) h h':=by
 have hx:∀ b,H b=none→b≠x:=fun b n z=>by subst z; rw [n] at mu; exact mu
 have hb:∀ b,H b=none→b≠e:=fun b n z=>by
  subst z
  rcases he with r | r
  ·exact hx b n r
  ·rw [n] at r; cases r
 have hm:∀ b u,H b=some u→¬ Mut (some u)→b≠x:=fun b u q nm z=>by subst z; rw [q] at mu; exact nm mu
 refine ⟨fun b u q n _ _=>k b u (hb b n) q,fun b u q n _ _=>⟨u.slots,k b u (hb b n) q⟩,fun b u q n _=>by rw [Zi (hx b n)]; exact n,fun b u q _=>?_,
  fun b xs q=>by rw [Zi (hm b _ q fun z=>z)]; exact q,fun b u xs q=>by rw [Zi (hm b _ q fun z=>z)]; exact q,fun b ps q=>⟨#[],by rw [Zi (hm b _ q fun z=>z),q]; simp⟩⟩
 by_cases hbe:b=e
 ·subst hbe; exact heo
 ·exact ⟨u,k b u hbe q⟩
theorem Un.mono (u:Un fs ex H H1 h h1) (hs:∀ b∈fs,b∈fs') (hx:∀ b∈ex,b∈ex'):Un fs' ex' H H1 h h1 :=
 ⟨fun b ob q n hb he=>u.keep b ob q n (fun z=>hb (hs b z)) fun z=>he (hx b z),fun _ _ q n _ he=>u.any q n fun z=>he (hx _ z),fun b ob q n he=>u.free b ob q n fun z=>he (hx b z),fun b ob q he=>u.there b ob q fun z=>he (hx b z),u.tups,u.frzs,u.tbls⟩
end
def trk (h:Heap) (H:Hp):List Addr:=(List.range h.objs.size).filter fun a=>(H a).isSome
def ZiG (h:Heap) (H:Hp):Heap:=PySem.W.hideAll h (trk h H)
theorem Zg1 (h:Heap) (H:Hp):(ZiG h H).objs.size=h.objs.size:=PySem.W.hideAll_size _ _
theorem ZiF {h:Heap} {H:Hp} {b:Addr} {o:Obj} (e:h.get? b=some o) (n:H b=none):(ZiG h H).get? b=some o :=
 PySem.W.hideAll_get _ e fun hm=>by
  have q:(H b).isSome=true:=(List.mem_filter.mp hm).2
  rw [n] at q; simp at q
theorem ZkF {h:Heap} {H:Hp} {b:Addr} {o:Obj} (e:(ZiG h H).get? b=some o):h.get? b=some o∧H b=none:=by
 have e':h.get? b=some o:=PySem.W.of_hideAll (trk h H) e
 refine ⟨e',?_⟩
 cases q:H b with
 | none=>rfl
 | some x =>
  have hm:b∈trk h H:=List.mem_filter.mpr ⟨List.mem_range.mpr (Heap.lt_size e'),by simp [q]⟩
  have z:(ZiG h H).get? b=none:=PySem.W.hideAll_none (trk h H) hm
  rw [z] at e; cases e
def Zlj (g h:Heap) (L:Addr):List (Addr × Obj):=(List.range h.objs.size).filterMap fun a=>if a=L∨(g.get? a).isSome=true then none else (h.get? a).map fun o=>(a,o)
def rest (g h:Heap) (L d:Addr):List (Addr × Obj):=(Zlj g h L).filter fun p=>decide (p.1≠d)
structure Mod (K:PySem.W.Frag) (mg:Str→Option Value) (base:Heap):Prop where
 kin:K.In base
 glob:base.Ns mainGlobals mg
 blt:∃ mb,base.Ns builtinsNs mb∧∀ x:Str,x≠"__name__"→mb x=bootBuiltins x
 nolimit:base.NoLimit
structure Cx where
 prog:Program
 w:World
 K:PySem.W.Frag
 mg:Str→Option Value
 base:Heap
 A:Around
 N:List Str
 s₀:Shared
 H₀:Hp
 env:Env
 outer:List Env
 stack:List Env
 ex:List Addr
 fn:Str→Bool
 calm:Bool
 pn:List (Addr × Obj)
 xe:Value→Shared→Prop
def frs (l:List Env):List Addr:=l.filterMap (·.frame)
abbrev Cx.fs (X:Cx):List Addr:=frs X.outer
def Vis (sc:Scope) (x:Str):Prop:=sc.names.lookup x=some .local∨sc.names.lookup x=some .cell∨sc.names.lookup x=some .free
def Loc (sc:Scope) (x:Str):Prop:=sc.names.lookup x=some .local∨sc.names.lookup x=some .cell
def Zod (env:Env) (h:Heap) (m:Str→Option Value) (x:Str) (u:Value):Prop :=
 (env.kindOf x=some .local∧m x=some u)∨((env.kindOf x=some .cell∨env.kindOf x=some .free)∧∃ c,env.cells.lookup x=some c∧h.IsCell c (some u))
structure Cx.Ok (X:Cx):Prop where
 mod:Mod X.K X.mg X.base
 kind:X.env.scope.kind = .function
 glob:X.env.globals=mainGlobals
 blt:X.env.builtins=builtinsNs
 above:X.s₀.heap.objs.size≤X.env.locals
 inj:∀ x y c,X.env.cells.lookup x=some c→X.env.cells.lookup y=some c→x=y
 has:∀ x,(X.env.kindOf x=some .cell∨X.env.kindOf x=some .free)→∃ c,X.env.cells.lookup x=some c
 cab:∀ x c,X.fn x=true→X.env.cells.lookup x=some c→X.s₀.heap.objs.size≤c
 hd:X.calm=true→X.A.handled=none
 frames:X.A.frames=some X.stack
 stk:X.stack=X.outer∨(X.stack=X.env :: X.outer∧X.env.frame=some X.env.locals)
 exf:∀ b∈X.ex,b≠X.env.locals∧∀ x c,X.env.cells.lookup x=some c→c≠b
 bs:∀ b o,X.base.get? b=some o→X.s₀.heap.get? b=some o∧X.H₀ b=none
 bsz:X.base.objs.size≤X.s₀.heap.objs.size
 noex:∀ b o,X.base.get? b=some o→b∉X.ex
 exfs:∀ b∈X.ex,b∉X.fs
 funs:X.s₀.heap.FunFrames X.base X.outer
 frf:∀ b∈X.fs,X.H₀ b=none
structure Inv (X:Cx) (pins:List (Addr × Obj)) (σ:List (Option V)) (H:Hp) (s:Shared):Prop where
 ok:X.Ok
 os:s.os=X.s₀.os
 bare:AllBare s.gens
 base:Un X.fs X.ex X.H₀ H X.s₀.heap s.heap
 loc:∃ m,s.heap.Ns X.env.locals m∧∀ (i:Nat) (x:Str) (v:V),X.N[i]?=some x→σ[i]?=some (some v)→Vis X.env.scope x→∃ u,RelV v u∧Zod X.env s.heap m x u
 cell:∀ x c,X.env.cells.lookup x=some c→∃ v,s.heap.IsCell c v
 free:H X.env.locals=none
 freeC:∀ x c,X.env.cells.lookup x=some c→H c=none
 pin:∀ p∈X.pn ++ pins,s.heap.get? p.1=some p.2∧H p.1=none∧p.1≠X.env.locals∧p.1∉X.fs∧∀ v,p.2.data≠.cell v
 hok:HOk X.prog X.w H s.heap
 len:σ.length=X.N.length
section
variable {X:Cx} {pins:List (Addr × Obj)} {σ:List (Option V)} {H H':Hp} {s:Shared} {h':Heap}
theorem Cx.Ok.nofr (ok:X.Ok) {b:Addr} {o:Obj} (e:X.base.get? b=some o):b∉X.fs:=fun hb=>by
 have:=(ok.funs.mem hb).1
 rw [e] at this; cases this
theorem Inv.bs (I:Inv X pins σ H s):∀ b o,X.base.get? b=some o→s.heap.get? b=some o∧H b=none:=fun b o e =>
 ⟨I.base.keep b o (I.ok.bs b o e).1 (I.ok.bs b o e).2 (I.ok.nofr e) (I.ok.noex b o e),I.base.free b o (I.ok.bs b o e).1 (I.ok.bs b o e).2 (I.ok.noex b o e)⟩
theorem Inv.bk (I:Inv X pins σ H s):∀ b o,X.base.get? b=some o→s.heap.get? b=some o:=fun b o e=>(I.bs b o e).1
theorem Inv.mod (I:Inv X pins σ H s):Mod X.K X.mg X.base:=I.ok.mod
theorem Inv.kIn (I:Inv X pins σ H s):X.K.In s.heap:=I.ok.mod.kin.keeps I.bk
theorem Inv.nolimit (I:Inv X pins σ H s):s.heap.NoLimit:=I.ok.mod.nolimit.keeps I.bk
theorem Inv.lt (I:Inv X pins σ H s):X.env.locals < s.heap.objs.size:=let ⟨_,hn,_⟩:=I.loc; hn.lt
theorem Inv.sz (I:Inv X pins σ H s):X.s₀.heap.objs.size≤s.heap.objs.size:=Nat.le_trans I.ok.above (Nat.le_of_lt I.lt)
theorem Inv.nofs (I:Inv X pins σ H s) {a:Addr} (h:s.heap.objs.size≤a):a∉X.fs:=fun hb=>by
 obtain ⟨_,o,ho,_⟩:=I.ok.funs.mem hb
 exact absurd (Nat.lt_of_lt_of_le (Heap.lt_size ho) (Nat.le_trans I.sz h)) (Nat.lt_irrefl _)
theorem Inv.cne (I:Inv X pins σ H s):∀ x c,X.env.cells.lookup x=some c→c≠X.env.locals:=fun x c e z=>by
 obtain ⟨v,o,ho,hd⟩:=I.cell x c e
 obtain ⟨m,⟨o',es,ep,ho',hd',_⟩,_⟩:=I.loc
 rw [z,ho'] at ho; cases ho; rw [hd'] at hd; cases hd
theorem Inv.funs (I:Inv X pins σ H s):s.heap.FunFrames X.base X.outer:=by
 have all:∀ (l:List Env),(∀ b∈frs l,b∈X.fs)→X.s₀.heap.FunFrames X.base l→s.heap.FunFrames X.base l:=by
  intro l
  induction l with
  | nil=>intro _ _; trivial
  | cons env r ih =>
   intro hs hl
   obtain ⟨hk,⟨L,o,hf,hn,ho,hd⟩,hr⟩:=hl
   have hL:L∈X.fs:=hs L (by unfold frs; rw [List.filterMap_cons,hf]; exact List.mem_cons_self)
   obtain ⟨sl,e⟩:=I.base.slot L o ho (I.ok.frf L hL) hL fun z=>I.ok.exfs L z hL
   exact ⟨hk,⟨L,_,hf,hn,e,hd⟩,ih (fun b hb=>hs b (by unfold frs; rw [List.filterMap_cons,hf]; exact List.mem_cons_of_mem _ hb)) hr⟩
 exact all X.outer (fun _ hb=>hb) I.ok.funs
theorem Inv.stack (I:Inv X pins σ H s):s.heap.FunFrames X.base X.stack:=by
 rcases I.ok.stk with e | ⟨e,hf⟩
 ·rw [e]; exact I.funs
 ·rw [e]
  obtain ⟨m,hn,_⟩:=I.loc
  refine .cons (by rw [I.ok.kind]; decide) hf hn ?_ I.funs
  exact Heap.get?_none_of_le (Nat.le_trans I.ok.bsz I.ok.above)
theorem Inv.stkSub (I:Inv X pins σ H s):∀ b∈frs X.stack,b∈X.env.locals :: X.fs:=fun b hb=>by
 rcases I.ok.stk with e | ⟨e,hf⟩
 ·rw [e] at hb; exact List.mem_cons_of_mem _ hb
 ·rw [e] at hb
  unfold frs at hb
  rw [List.filterMap_cons,hf] at hb
  exact hb
theorem Inv.stkFree (I:Inv X pins σ H s):∀ b∈frs X.stack,H b=none:=fun b hb=>by
 rcases List.mem_cons.mp (I.stkSub b hb) with e | hb
 ·rw [e]; exact I.free
 ·obtain ⟨_,o,ho,_⟩:=I.ok.funs.mem hb
  exact I.base.free b o ho (I.ok.frf b hb) fun z=>I.ok.exfs b z hb
theorem Inv.step {g':Array GenState} {t':Nat} {d':Drawn} {ch:List Addr} (I:Inv X pins σ H s)
  (hch:∀ b∈ch,(b∈X.ex∨X.s₀.heap.objs.size≤b)∧b≠X.env.locals∧(∀ x c,X.env.cells.lookup x=some c→c≠b)∧∀ p∈X.pn ++ pins,p.1≠b)
  (keep:∀ b o,b≠X.env.locals→b∉X.fs→b∉ch→s.heap.get? b=some o→H b=none→h'.get? b=some o)
  (slot:∀ b o,b≠X.env.locals→b∈X.fs→b∉ch→s.heap.get? b=some o→H b=none→∃ sl,h'.get? b=some { o with slots:=sl }) (free:∀ b o,b∉ch→s.heap.get? b=some o→H b=none→H' b=none)
  (there:∀ b o,b∉ch→s.heap.get? b=some o→∃ o',h'.get? b=some o')
  (tups:∀ b xs,H b=some (.tup xs)→H' b=some (.tup xs)) (frzs:∀ b o u,H b=some (.frz o u)→H' b=some (.frz o u)) (tbls:∀ b ps,H b=some (.tbl ps)→∃ more,H' b=some (.tbl (ps ++ more)))
  (ns:∀ m,s.heap.Ns X.env.locals m→h'.Ns X.env.locals m) (hok:HOk X.prog X.w H' h') (hg:AllBare g') :
  Inv X pins σ H' { s with heap:=h',gens:=g',drawn:=d',toks:=t' }:=by
 have neL:∀ b o,X.s₀.heap.get? b=some o→b≠X.env.locals:=fun b o e=>Nat.ne_of_lt (Nat.lt_of_lt_of_le (Heap.lt_size e) I.ok.above)
 have neC:∀ b o,X.s₀.heap.get? b=some o→b∉X.ex→b∉ch:=fun b o e hx hb=>by
  rcases (hch b hb).1 with z | z
  ·exact hx z
  ·exact absurd (Nat.lt_of_lt_of_le (Heap.lt_size e) z) (Nat.lt_irrefl _)
 have cellK:∀ x c,X.env.cells.lookup x=some c→∀ v,s.heap.IsCell c v→h'.IsCell c v:=fun x c e v ⟨o,ho,hd⟩=>by
  have nch:c∉ch:=fun z=>(hch c z).2.2.1 x c e rfl
  by_cases hc:c∈X.fs
  ·obtain ⟨sl,q⟩:=slot c o (I.cne x c e) hc nch ho (I.freeC x c e)
   exact ⟨_,q,hd⟩
  ·exact ⟨o,keep c o (I.cne x c e) hc nch ho (I.freeC x c e),hd⟩
 refine ⟨I.ok,I.os,hg,⟨fun b o e n hb hx=>?_,fun b o e n hb hx=>?_,fun b o e n hx=>?_,fun b o e hx=>?_,fun b xs e=>tups b xs (I.base.tups b xs e),fun b o xs e=>frzs b o xs (I.base.frzs b o xs e),fun b ps e=>?_⟩,?_,fun x c e=>?_,?_,fun x c e=>?_,fun p hp=>?_,hok,I.len⟩
 ·exact keep b o (neL b o e) hb (neC b o e hx) (I.base.keep b o e n hb hx) (I.base.free b o e n hx)
 ·obtain ⟨sl,e1⟩:=I.base.slot b o e n hb hx
  obtain ⟨sl',e2⟩:=slot b _ (neL b o e) hb (neC b o e hx) e1 (I.base.free b o e n hx)
  exact ⟨sl',e2⟩
 ·obtain ⟨o',e1⟩:=I.base.there b o e hx
  exact free b o' (neC b o e hx) e1 (I.base.free b o e n hx)
 ·obtain ⟨o',e1⟩:=I.base.there b o e hx
  exact there b o' (neC b o e hx) e1
 ·obtain ⟨m1,e1⟩:=I.base.tbls b ps e
  obtain ⟨m2,e2⟩:=tbls b _ e1
  exact ⟨m1 ++ m2,by rw [e2,Array.append_assoc]⟩
 ·obtain ⟨m,hn,hl⟩:=I.loc
  refine ⟨m,ns m hn,fun i x v e1 e2 e3=>?_⟩
  obtain ⟨u,r,l⟩:=hl i x v e1 e2 e3
  refine ⟨u,r,?_⟩
  rcases l with l | ⟨k,c,e,z⟩
  ·exact .inl l
  ·exact .inr ⟨k,c,e,cellK x c e _ z⟩
 ·obtain ⟨v,z⟩:=I.cell x c e
  exact ⟨v,cellK x c e v z⟩
 ·obtain ⟨m,⟨o,_,_,ho,_⟩,_⟩:=I.loc
  exact free _ o (fun z=>(hch _ z).2.1 rfl) ho I.free
 ·obtain ⟨v,o,ho,hd⟩:=I.cell x c e
  exact free c o (fun z=>(hch c z).2.2.1 x c e rfl) ho (I.freeC x c e)
 ·obtain ⟨e,n,ne,nf,d⟩:=I.pin p hp
  have nch:p.1∉ch:=fun z=>(hch p.1 z).2.2.2 p hp rfl
  exact ⟨keep p.1 p.2 ne nf nch e n,free p.1 p.2 nch e n,ne,nf,d⟩
theorem Inv.un {t':Nat} (I:Inv X pins σ H s) (u:Un X.fs [] H H' s.heap h') (hok:HOk X.prog X.w H' h'):Inv X pins σ H' { s with heap:=h',toks:=t' }:=by
 obtain ⟨m,⟨o,es,ep,ho,r⟩,_⟩:=id I.loc
 obtain ⟨sl,hL⟩:=u.any ho I.free (by simp)
 exact I.step (g':=s.gens) (d':=s.drawn) (ch:=[]) (fun _ z=>nomatch z) (fun b o _ hb _ e n=>u.keep b o e n hb (by simp)) (fun b o _ hb _ e n=>u.slot b o e n hb (by simp)) (fun b o _ e n=>u.free b o e n (by simp)) (fun b o _ e=>u.there b o e (by simp)) u.tups u.frzs u.tbls (fun m' hm=>by
  obtain ⟨o',es',ep',ho',r'⟩:=hm
  rw [ho] at ho'; cases ho'
  exact ⟨_,es',ep',hL,r'⟩) hok I.bare
theorem Inv.call {g':Array GenState} {t':Nat} {d':Drawn} {ch:List Addr} (I:Inv X pins σ H s) (u:Un (frs X.stack) ch H H' s.heap h') (hok:HOk X.prog X.w H' h') (hg:AllBare g')
  (hch:∀ b∈ch,(b∈X.ex∨X.s₀.heap.objs.size≤b)∧b≠X.env.locals∧(∀ x c,X.env.cells.lookup x=some c→c≠b)∧∀ p∈X.pn ++ pins,p.1≠b) :
  Inv X pins σ H' { s with heap:=h',gens:=g',drawn:=d',toks:=t' }:=by
 obtain ⟨m,⟨o,es,ep,ho,r⟩,_⟩:=id I.loc
 obtain ⟨sl,hL⟩:=u.any ho I.free fun z=>(hch _ z).2.1 rfl
 exact I.step (ch:=ch) hch (fun b o hL hb hc e n=>u.keep b o e n (fun z=>(List.mem_cons.mp (I.stkSub b z)).elim hL hb) hc) (fun b o _ _ hc e n=>u.any e n hc) (fun b o hc e n=>u.free b o e n hc) (fun b o hc e=>u.there b o e hc) u.tups u.frzs u.tbls (fun m' hm=>by
  obtain ⟨o',es',ep',ho',r'⟩:=hm
  rw [ho] at ho'; cases ho'
  exact ⟨_,es',ep',hL,r'⟩) hok hg
theorem Inv.turned {t':Nat} {it:Addr} (I:Inv X pins σ H s) (k:∀ b o,b≠it→s.heap.get? b=some o→h'.get? b=some o) (hn:H it=none) (hL:it≠X.env.locals)
  (h1:it∈X.ex∨X.s₀.heap.objs.size≤it) (h2:∀ x c,X.env.cells.lookup x=some c→c≠it) (h3:∀ p∈X.pn ++ pins,p.1≠it):Inv X pins σ H { s with heap:=h',toks:=t' }:=by
 have nit:∀ b u,H b=some u→b≠it:=fun b u e z=>by rw [z,hn] at e; cases e
 refine I.step (g':=s.gens) (d':=s.drawn) (ch:=[it]) (fun b hb=>?_) (fun b o _ _ hc e _=>k b o (fun z=>hc (by simp [z])) e) (fun b o _ _ hc e _=>⟨o.slots,k b o (fun z=>hc (by simp [z])) e⟩) (fun _ _ _ _ n=>n)
  (fun b o hc e=>⟨o,k b o (fun z=>hc (by simp [z])) e⟩) (fun _ _ e=>e) (fun _ _ _ e=>e) (fun b ps e=>⟨#[],by rw [e]; simp⟩) (fun m hm=>?_) (fun b u e=>?_) I.bare
 ·have e:b=it:=by simpa using hb
  subst e
  exact ⟨h1,hL,h2,h3⟩
 ·obtain ⟨o,es,ep,ho,r⟩:=hm
  exact ⟨o,es,ep,k _ o (Ne.symm hL) ho,r⟩
 ·refine (I.hok b u e).stay (fun c v hc q=>k c v ?_ q) (fun _ q=>q) fun _ _ q=>q
  rcases hc with z | z
  ·rw [z]; exact nit b u e
  ·exact nit c _ z
theorem Inv.tok (I:Inv X pins σ H s) (t:Nat):Inv X pins σ H { s with toks:=t }:=I.un (h':=s.heap) (t':=t) Un.refl I.hok
theorem Inv.kept {t':Nat} (I:Inv X pins σ H s) (k:∀ b u,s.heap.get? b=some u→h'.get? b=some u):Inv X pins σ H { s with heap:=h',toks:=t' }:=I.un (Un.kept k) (I.hok.kept k)
theorem Inv.laid {a:Addr} {o:HO} {t':Nat} (I:Inv X pins σ H s) (k:∀ b u,s.heap.get? b=some u→h'.get? b=some u) (hp:s.heap.objs.size≤a) (new:ObjOk X.prog X.w (upd H a o) h' a o) :
  Inv X pins σ (upd H a o) { s with heap:=h',toks:=t' }:=I.un (Un.laid k hp (I.hok.fresh hp)) (I.hok.laid k hp new)
theorem Inv.write {x e:Addr} {o:HO} {t':Nat} (I:Inv X pins σ H s) (mu:Mut (H x)) (he:e=x∨H e=some (.own x)) (k:∀ b u,b≠e→s.heap.get? b=some u→h'.get? b=some u) (heo:∃ u,h'.get? e=some u)
  (new:ObjOk X.prog X.w (upd H x o) h' x o):Inv X pins σ (upd H x o) { s with heap:=h',toks:=t' }:=I.un (Un.write mu he k heo) (I.hok.write mu he k heo new)
theorem Inv.pins_of {pins':List (Addr × Obj)} (I:Inv X pins σ H s) (h:∀ p∈pins',s.heap.get? p.1=some p.2∧H p.1=none∧p.1≠X.env.locals∧p.1∉X.fs∧∀ v,p.2.data≠.cell v):Inv X pins' σ H s :=
 ⟨I.ok,I.os,I.bare,I.base,I.loc,I.cell,I.free,I.freeC,fun p hp=>(List.mem_append.mp hp).elim (fun z=>I.pin p (List.mem_append_left _ z)) (h p),I.hok,I.len⟩
theorem Zd2 {N:List Str} (hN:N.Nodup) {i j:Nat} {x:Str} (a:N[i]?=some x) (b:N[j]?=some x):i=j:=by
 obtain ⟨h1,e1⟩:=List.getElem?_eq_some_iff.mp a
 obtain ⟨h2,e2⟩:=List.getElem?_eq_some_iff.mp b
 exact (List.getElem_inj hN).mp (e1.trans e2.symm)
theorem ZbI {M:Model} {A:Around} {E:Value→Shared→Prop} {i:Nat} {x:Str} {v:V} {u:Value} {Q:Unit→Shared→Prop} (I:Inv X pins σ H s) (hN:X.N.Nodup) (hi:X.N[i]?=some x) (hx:Loc X.env.scope x) (r:RelV v u)
  (h:∀ s',Inv X pins (σ.set i (some v)) H s'→(∃ a,Heap.SameBut a s.heap s'.heap∧(a=X.env.locals∨X.env.cells.lookup x=some a))→Q () s') (hf:X.fn x=true∨X.env.scope.names.lookup x=some .local:=by first | exact .inl rfl | exact .inr rfl | assumption):wpAny M A (storeName X.env x u) Q E s:=by
 obtain ⟨m,hn,hl⟩:=id I.loc
 have hcls:(X.env.scope.kind == .class || (X.env.scope.kind == .module && X.env.locals != X.env.globals))=false:=by rw [I.ok.kind]; rfl
 have hiσ:i < σ.length:=by rw [I.len]; exact (List.getElem?_eq_some_iff.mp hi).1
 have cne:=I.cne
 have tracked:∀ {a:Addr} {h':Heap},(∃ o,s.heap.get? a=some o∧H a=none)→Heap.SameBut a s.heap h'→HOk X.prog X.w H h':=fun {a h'} ha hs b ob e=>by
  obtain ⟨_,_,hfree⟩:=ha
  refine (I.hok b ob e).stay (fun c w' hc q=>(hs.2 c ?_).trans q) (fun _ q=>q) fun _ _ q=>q
  rintro rfl
  rcases hc with rfl | hc
  ·rw [hfree] at e; cases e
  ·rw [hfree] at hc; cases hc
 rcases hx with hk | hk
 ·refine wpAny_storeName_local hk hn (fun h' hn' hs=>?_) hcls
  obtain ⟨oL,_,_,hoL,_⟩:=id hn
  refine h _ ⟨I.ok,I.os,I.bare,⟨fun b o e n hb hx=>?_,fun b o e n hb hx=>?_,I.base.free,fun b o e hx=>?_,I.base.tups,I.base.frzs,I.base.tbls⟩,⟨_,hn',fun j y v' e1 e2 e3=>?_⟩,fun y c e=>?_,I.free,I.freeC,fun p hp=>?_,tracked ⟨oL,hoL,I.free⟩ hs,by simpa using I.len⟩ ⟨_,hs,.inl rfl⟩
  ·exact (hs.2 b (Nat.ne_of_lt (Nat.lt_of_lt_of_le (Heap.lt_size e) I.ok.above))).trans (I.base.keep b o e n hb hx)
  ·obtain ⟨sl,e1⟩:=I.base.slot b o e n hb hx
   exact ⟨sl,(hs.2 b (Nat.ne_of_lt (Nat.lt_of_lt_of_le (Heap.lt_size e) I.ok.above))).trans e1⟩
  ·obtain ⟨o',e1⟩:=I.base.there b o e hx
   exact ⟨o',(hs.2 b (Nat.ne_of_lt (Nat.lt_of_lt_of_le (Heap.lt_size e) I.ok.above))).trans e1⟩
  ·by_cases hj:j=i
   ·subst hj
    rw [hi] at e1; cases e1
    rw [List.getElem?_set_self hiσ] at e2
    cases e2
    exact ⟨u,r,.inl ⟨hk,by simp⟩⟩
   ·rw [List.getElem?_set_ne (Ne.symm hj)] at e2
    obtain ⟨u',r',q⟩:=hl j y v' e1 e2 e3
    refine ⟨u',r',?_⟩
    rcases q with ⟨k,e⟩ | ⟨k,c,e,z⟩
    ·refine .inl ⟨k,?_⟩
     have:y≠x:=fun e=>hj (Zd2 hN e1 (e ▸ hi))
     simp [this,e]
    ·exact .inr ⟨k,c,e,z.sameBut hs (cne y c e)⟩
  ·obtain ⟨w',z⟩:=I.cell y c e
   exact ⟨w',z.sameBut hs (cne y c e)⟩
  ·obtain ⟨e,n,ne,nf,d⟩:=I.pin p hp
   exact ⟨(hs.2 p.1 ne).trans e,n,ne,nf,d⟩
 ·have hfn:X.fn x=true:=by
   rcases hf with z | z
   ·exact z
   ·rw [z] at hk; cases hk
  obtain ⟨c,hc⟩:=I.ok.has x (.inl hk)
  obtain ⟨w',z⟩:=I.cell x c hc
  refine wpAny_storeName_cell I.ok.kind hk hc z (fun h' hc' hs=>?_)
  obtain ⟨oc,hoc,hocd⟩:=id z
  refine h { s with heap:=h' } ⟨I.ok,I.os,I.bare,⟨fun b o e n hb hx=>?_,fun b o e n hb hx=>?_,I.base.free,fun b o e hx=>?_,I.base.tups,I.base.frzs,I.base.tbls⟩,⟨m,hn.sameBut hs (Ne.symm (cne x c hc)),fun j y v' e1 e2 e3=>?_⟩,fun y c' e=>?_,I.free,I.freeC,fun p hp=>?_,tracked ⟨oc,hoc,I.freeC x c hc⟩ hs,by simpa using I.len⟩ ⟨c,hs,.inr hc⟩
  ·exact (hs.2 b (Nat.ne_of_lt (Nat.lt_of_lt_of_le (Heap.lt_size e) (I.ok.cab x c hfn hc)))).trans (I.base.keep b o e n hb hx)
  ·obtain ⟨sl,e1⟩:=I.base.slot b o e n hb hx
   exact ⟨sl,(hs.2 b (Nat.ne_of_lt (Nat.lt_of_lt_of_le (Heap.lt_size e) (I.ok.cab x c hfn hc)))).trans e1⟩
  ·obtain ⟨o',e1⟩:=I.base.there b o e hx
   exact ⟨o',(hs.2 b (Nat.ne_of_lt (Nat.lt_of_lt_of_le (Heap.lt_size e) (I.ok.cab x c hfn hc)))).trans e1⟩
  ·by_cases hj:j=i
   ·subst hj
    rw [hi] at e1; cases e1
    rw [List.getElem?_set_self hiσ] at e2
    cases e2
    exact ⟨u,r,.inr ⟨.inl hk,c,hc,hc'⟩⟩
   ·rw [List.getElem?_set_ne (Ne.symm hj)] at e2
    obtain ⟨u',r',q⟩:=hl j y v' e1 e2 e3
    refine ⟨u',r',?_⟩
    rcases q with q | ⟨k,c',e,z'⟩
    ·exact .inl q
    ·refine .inr ⟨k,c',e,z'.sameBut hs ?_⟩
     rintro rfl
     exact hj (Zd2 hN e1 (I.ok.inj _ _ _ e hc ▸ hi))
  ·by_cases hcc:c'=c
   ·subst hcc; exact ⟨_,hc'⟩
   ·obtain ⟨w2,z2⟩:=I.cell y c' e
    exact ⟨w2,z2.sameBut hs hcc⟩
  ·obtain ⟨e,n,ne,nf,d⟩:=I.pin p hp
   refine ⟨(hs.2 p.1 ?_).trans e,n,ne,nf,d⟩
   intro q
   rw [q,hoc] at e
   have q':oc=p.2:=Option.some.inj e
   exact d w' (by rw [← q']; exact hocd)
theorem ZdG {M:Model} {A:Around} {E:Value→Shared→Prop} {i:Nat} {x:Str} {v:V} {u:Value} {Q:Unit→Shared→Prop} (I:Inv X pins σ H s) (hN:X.N.Nodup) (hi:X.N[i]?=some x) (hx:Loc X.env.scope x) (r:RelV v u)
  (h:∀ s',Inv X pins (σ.set i (some v)) H s'→Q () s') (hf:X.fn x=true∨X.env.scope.names.lookup x=some .local:=by first | exact .inl rfl | exact .inr rfl | assumption):wpAny M A (storeName X.env x u) Q E s :=
 ZbI I hN hi hx r (fun s' I' _=>h s' I') hf
theorem Inv.call' {s':Shared} {ch:List Addr} (I:Inv X pins σ H s) (ho:s'.os=s.os) (u:Un (frs X.stack) ch H H' s.heap s'.heap) (hok:HOk X.prog X.w H' s'.heap) (hg:AllBare s'.gens)
  (hch:∀ b∈ch,(b∈X.ex∨X.s₀.heap.objs.size≤b)∧b≠X.env.locals∧(∀ x c,X.env.cells.lookup x=some c→c≠b)∧∀ p∈X.pn ++ pins,p.1≠b):Inv X pins σ H' s':=by
 obtain ⟨h',g',d',t',o'⟩:=s'
 have e:o'=s.os:=ho
 subst e
 exact I.call (g':=g') (t':=t') (d':=d') u hok hg hch
end
abbrev XK:=Value→Option Addr→Hp→Prop
abbrev St:=List (Option V)
abbrev VK:=V→Hp→Prop
abbrev TE:=St→Hp→VK→Prop
abbrev TT:=St→Hp→(Bool→Hp→Prop)→Prop
abbrev TA:=St→Hp→(List V→Hp→Prop)→Prop
structure Ze6 where
 nx:St→Hp→Prop
 rt:VK
 bk:St→Hp→Prop:=fun _ _=>False
 ct:St→Hp→Prop:=fun _ _=>False
abbrev TS:=Ze6→St→Hp→Prop
def EP (X:Cx) (pins:List (Addr × Obj)) (σ:St) (Q:VK) (u:Value) (s':Shared):Prop:=∃ v H',Inv X pins σ H' s'∧RelV v u∧Q v H'
def TP (X:Cx) (pins:List (Addr × Obj)) (σ:St) (Q:Bool→Hp→Prop) (b:Bool) (s':Shared):Prop:=∃ H',Inv X pins σ H' s'∧Q b H'
def AP (X:Cx) (pins:List (Addr × Obj)) (σ:St) (Q:List V→Hp→Prop) (us:List Value) (s':Shared):Prop:=∃ vs H',Inv X pins σ H' s'∧Vals vs us∧Q vs H'
def SP (X:Cx) (pins:List (Addr × Obj)) (D:Ze6) (f:Flow) (s':Shared):Prop :=
 match f with
 | .next=>∃ σ' H',Inv X pins σ' H' s'∧D.nx σ' H'
 | .brk=>∃ σ' H',Inv X pins σ' H' s'∧D.bk σ' H'
 | .cont=>∃ σ' H',Inv X pins σ' H' s'∧D.ct σ' H'
 | .ret u=>∃ v σ' H',Inv X pins σ' H' s'∧RelV v u∧D.rt v H'
def PE (X:Cx) (e:Expr) (t:TE):Prop :=
 ∀ (pins:List (Addr × Obj)) (s:Shared) (σ:St) (H:Hp) (Q:VK),Inv X pins σ H s→t σ H Q→wpAny (model X.prog X.w) X.A (eval e X.env) (EP X pins σ Q) X.xe s
def PT (X:Cx) (e:Expr) (t:TT):Prop :=
 ∀ (pins:List (Addr × Obj)) (s:Shared) (σ:St) (H:Hp) (Q:Bool→Hp→Prop),Inv X pins σ H s→t σ H Q→wpAny (model X.prog X.w) X.A (isTrue e X.env (eval e X.env)) (TP X pins σ Q) X.xe s
def PW (X:Cx) (e:Expr) (t:TT):Prop :=
 ∀ (whole:Sem Value) (pins:List (Addr × Obj)) (s:Shared) (σ:St) (H:Hp) (Q:Bool→Hp→Prop),Inv X pins σ H s→t σ H Q→wpAny (model X.prog X.w) X.A (isTrue e X.env whole) (TP X pins σ Q) X.xe s
theorem PW.pt {X:Cx} {e:Expr} {t:TT} (h:PW X e t):PT X e t:=h _
def PA (X:Cx) (es:List Expr) (t:TA):Prop :=
 ∀ (pos:Pos) (pins:List (Addr × Obj)) (s:Shared) (σ:St) (H:Hp) (Q:List V→Hp→Prop),Inv X pins σ H s→t σ H Q→wpAny (model X.prog X.w) X.A (spliced (backTo pos (starEach es X.env))) (AP X pins σ Q) X.xe s
def PS (X:Cx) (st:Stmt) (t:TS):Prop :=
 ∀ (pins:List (Addr × Obj)) (s:Shared) (σ:St) (H:Hp) (D:Ze6),Inv X pins σ H s→t D σ H→wpAny (model X.prog X.w) X.A (exec st X.env) (SP X pins D) X.xe s
def PSs (X:Cx) (st:List Stmt) (t:TS):Prop :=
 ∀ (pins:List (Addr × Obj)) (s:Shared) (σ:St) (H:Hp) (D:Ze6),Inv X pins σ H s→t D σ H→wpAny (model X.prog X.w) X.A (execs st X.env) (SP X pins D) X.xe s
theorem thn {α:Type} {t:Sem α} {Q Q':α→Shared→Prop} {M:Model} {A:Around} {E:Value→Shared→Prop} {s:Shared} (h:wpAny M A t Q E s) (hQ:∀ a s,Q a s→Q' a s):wpAny M A t Q' E s:=wpAny_mono h hQ fun _ _ x=>x
section
variable {X:Cx}
theorem bin {a b:Expr} {ta tb:TE} (ha:PE X a ta) (hb:PE X b tb) {pins:List (Addr × Obj)} {s:Shared} {σ:St} {H:Hp} {R:V→V→Hp→Prop} (I:Inv X pins σ H s) (h:ta σ H fun x H1=>tb σ H1 fun y H2=>R x y H2)
  {α:Type} {Q:α→Shared→Prop} {f:Value→Value→Sem α}
  (hf:∀ v u s2 x y H2,Inv X pins σ H2 s2→RelV x v→RelV y u→R x y H2→wpAny (model X.prog X.w) X.A (f v u) Q X.xe s2) :
  wpAny (model X.prog X.w) X.A (eval a X.env) (fun v s₁=>wpAny (model X.prog X.w) X.A (eval b X.env) (fun u s₂=>wpAny (model X.prog X.w) X.A (f v u) Q X.xe s₂) X.xe s₁) X.xe s:=by
 refine thn (ha pins s σ H _ I h) fun v s1 ⟨x,H1,I1,r1,q1⟩=>?_
 refine thn (hb pins s1 σ H1 _ I1 q1) fun u s2 ⟨y,H2,I2,r2,q2⟩=>?_
 exact hf v u s2 x y H2 I2 r1 r2 q2
def ZhF (i:Nat):TE:=fun σ H Q=>∃ v,σ[i]?=some (some v)∧Q v H
def tC (v:V):TE:=fun _ H Q=>Q v H
theorem ZlQ {i:Nat} {x:Str} {pos:Pos} (hN:X.N[i]?=some x) (hv:Vis X.env.scope x) (hd:(x == ("__debug__" : Str))=false:=by decide) (hcd:(x == ("__classdict__" : Str))=false:=by decide):PE X (.Name x pos) (ZhF i):=by
 intro pins s σ H Q I h
 obtain ⟨v,e,h⟩:=h
 obtain ⟨m,hn,hl⟩:=I.loc
 obtain ⟨u,r,l⟩:=hl i x v hN e hv
 have fin:EP X pins σ Q u s:=⟨v,H,I,r,h⟩
 rcases l with ⟨hk,hm⟩ | ⟨hk,c,hc,hcell⟩
 ·exact wpAny_Name (wpAny_loadName_local I.ok.kind hk hn hm fin) hd
 ·rcases hk with hk | hk
  ·exact wpAny_Name (wpAny_loadName_cell I.ok.kind hk hc hcell fin) hd
  ·exact wpAny_Name (wpAny_loadName_free I.ok.kind hk hc hcell fin hcd) hd
theorem Zf {i j pos}:PE X (.Constant (.int i) j pos) (tC (.int i)):=fun _ _ _ H _ I h=>wpAny_Constant_int ⟨.int i,H,I.tok _,⟨_,rfl⟩,h⟩
theorem Zgj {b j pos}:PE X (.Constant (.bool b) j pos) (tC (.bl b)):=fun _ _ _ H _ I h=>Constant_bool ⟨.bl b,H,I,rfl,h⟩
theorem ZdW {j pos}:PE X (.Constant .none j pos) (tC .non):=fun _ _ _ H _ I h=>Constant_none ⟨.non,H,I,rfl,h⟩
theorem Zgf {x j pos}:PE X (.Constant (.str x) j pos) (tC (.str x)):=fun _ _ _ H _ I h=>Calls.Constant_str ⟨.str x,H,I.tok _,⟨_,rfl⟩,h⟩
def Gl (X:Cx) (x:Str):Prop:=X.env.kindOf x=some .globalImplicit
theorem ZkR {E:Value→Shared→Prop} {pins:List (Addr × Obj)} {s:Shared} {σ:St} {H:Hp} {x:Str} {u:Value} {pos:Pos} {Q:Value→Shared→Prop} (I:Inv X pins σ H s) (hg:Gl X x) (hm:X.mg x=some u) (h:Q u s)
  (hd:(x == ("__debug__" : Str))=false:=by decide):wpAny (model X.prog X.w) X.A (eval (.Name x pos) X.env) Q E s :=
 Calls.Name_function_global I.ok.kind hg (Calls.loadGlobal_global (by rw [I.ok.glob]; exact I.mod.glob.keeps I.bk) hm h) hd
theorem XH {E:Value→Shared→Prop} {pins:List (Addr × Obj)} {s:Shared} {σ:St} {H:Hp} {x:Str} {u:Value} {pos:Pos} {Q:Value→Shared→Prop} (I:Inv X pins σ H s) (hg:Gl X x) (hm:X.mg x=none) (hv:bootBuiltins x=some u) (h:Q u s)
  (hn:x≠"__name__":=by decide) (hd:(x == ("__debug__" : Str))=false:=by decide):wpAny (model X.prog X.w) X.A (eval (.Name x pos) X.env) Q E s:=by
 obtain ⟨mb,h1,h2⟩:=I.mod.blt
 exact Calls.Name_function_global I.ok.kind hg (Calls.loadGlobal_builtin (by rw [I.ok.glob]; exact I.mod.glob.keeps I.bk) hm (by rw [I.ok.blt]; exact h1.keeps I.bk) ((h2 x hn).trans hv) h) hd
theorem ZkA {x:Str} {v:V} {u:Value} {pos:Pos} (hg:Gl X x) (hm:X.mg x=none) (hv:bootBuiltins x=some u) (r:RelV v u) (hn:x≠"__name__":=by decide) (hd:(x == ("__debug__" : Str))=false:=by decide):PE X (.Name x pos) (tC v) :=
 fun _ _ _ H _ I h=>XH I hg hm hv ⟨v,H,I,r,h⟩ hn hd
variable {a b:Expr} {ta tb:TE} {pos:Pos}
def PC (X:Cx) (op:CmpOp) (a b:Expr) (t:TE):Prop :=
 ∀ (pins:List (Addr × Obj)) (s:Shared) (σ:St) (H:Hp) (Q:VK),Inv X pins σ H s→t σ H Q →
  wpAny (model X.prog X.w) X.A (eval a X.env) (fun v s₁=>wpAny (model X.prog X.w) X.A (eval b X.env) (fun u s₂=>wpAny (model X.prog X.w) X.A (compareOp op v u) (EP X pins σ Q) X.xe s₂) X.xe s₁) X.xe s
theorem Zif (b:Expr) {op:CmpOp} (h:op≠.In) (h2:op≠.NotIn):behindInMarks op b=false:=by
 have e1:(op == CmpOp.In)=false:=by cases op <;> first | rfl | exact absurd rfl h
 have e2:(op == CmpOp.NotIn)=false:=by cases op <;> first | rfl | exact absurd rfl h2
 cases b <;> simp [behindInMarks,e1,e2]
def tB (t:TE):TT:=fun σ H Q=>t σ H fun x H1=>∃ c,x = .bl c∧Q c H1
theorem ZlJ {op:CmpOp} {t:TE} (h:PC X op a b t) (h1:behindInMarks op b=false:=by first | exact Zif _ (by decide) (by decide) | rfl):PT X (.Compare a [op] [b] pos) (tB t):=by
 intro pins s σ H Q I hw
 refine wpAny_isTrue_Compare1 (thn (h pins s σ H _ I hw) fun v s1 h1=>thn h1 fun u s2 h2=>thn h2 fun c s3 ⟨x,H1,I1,r1,q1⟩=>?_) h1
 obtain ⟨d,rfl,q⟩:=q1
 cases r1
 exact wpAny_truthy_bool ⟨H1,I1,q⟩
theorem ZdT {e:Expr} {t:TE} (h:PE X e t) (he:∀ whole,isTrue e X.env whole=(do let v ← whole; standAt e.pos; holding [v] (truthy v)):=by intro _; rfl):PT X e (tB t):=by
 intro pins s σ H Q I hw
 refine isTrue_plain (thn (h pins s σ H _ I hw) fun v s1 ⟨x,H1,I1,r1,q1⟩=>?_) (he _)
 obtain ⟨d,rfl,q⟩:=q1
 cases r1
 exact wpAny_truthy_bool ⟨H1,I1,q⟩
variable {tA tB':TT} {rest:List Expr}
def ZnV (t u:TT):TT:=fun σ H Q=>t σ H fun c H1=>if c=true then u σ H1 Q else Q false H1
def tOr (t u:TT):TT:=fun σ H Q=>t σ H fun c H1=>if c=true then Q true H1 else u σ H1 Q
def ZnO (t:TT):TT:=fun σ H Q=>t σ H fun c H1=>Q (!c) H1
theorem ZcS (ha:PT X a tA):PW X (.BoolOp .And [a] pos) tA:=by
 intro wh pins s σ H Q I h
 refine isTrue_and (thn (ha pins s σ H Q I h) fun c s1 e=>?_)
 cases c with
 | true=>exact isTrue_and_nil e
 | false=>exact e
theorem ZlH (ha:PT X a tA):PW X (.BoolOp .Or [a] pos) tA:=by
 intro wh pins s σ H Q I h
 refine isTrue_or (thn (ha pins s σ H Q I h) fun c s1 e=>?_)
 cases c with
 | false=>exact isTrue_or_nil e
 | true=>exact e
theorem Zf7 (ha:PT X a tA) (hb:PW X (.BoolOp .And (b :: rest) pos) tB'):PW X (.BoolOp .And (a :: b :: rest) pos) (ZnV tA tB'):=by
 intro wh pins s σ H Q I h
 refine isTrue_and (thn (ha pins s σ H _ I h) fun c s1 ⟨H1,I1,q1⟩=>?_)
 cases c with
 | true=>exact hb wh pins s1 σ H1 Q I1 q1
 | false=>exact ⟨H1,I1,q1⟩
theorem ZlI (ha:PT X a tA) (hb:PW X (.BoolOp .Or (b :: rest) pos) tB'):PW X (.BoolOp .Or (a :: b :: rest) pos) (tOr tA tB'):=by
 intro wh pins s σ H Q I h
 refine isTrue_or (thn (ha pins s σ H _ I h) fun c s1 ⟨H1,I1,q1⟩=>?_)
 cases c with
 | true=>exact ⟨H1,I1,q1⟩
 | false=>exact hb wh pins s1 σ H1 Q I1 q1
theorem ZdU (ha:PT X a tA):PT X (.UnaryOp .Not a pos) (ZnO tA):=by
 intro pins s σ H Q I h
 exact isTrue_not (ha pins s σ H (fun c H1=>Q (!c) H1) I h)
def Zm7 (ta tb:TE):TE:=fun σ H Q=>ta σ H fun x H1=>∃ c,x = .bl c∧if c=true then tb σ H1 Q else Q (.bl false) H1
def ZmX (ta:TE):TE:=fun σ H Q=>ta σ H fun x H1=>∃ c,x = .bl c∧Q (.bl (!c)) H1
theorem Zgg {op} {t:TE} (h:PE X a t):PE X (.BoolOp op [a] pos) t:=fun pins s σ H Q I hw=>BoolOp_one (h pins s σ H Q I hw)
theorem Zgk (ha:PE X a ta) (hb:PE X (.BoolOp .And (b :: rest) pos) tb):PE X (.BoolOp .And (a :: b :: rest) pos) (Zm7 ta tb):=by
 intro pins s σ H Q I h
 refine BoolOp_and (thn (ha pins s σ H _ I h) fun v s1 ⟨x,H1,I1,r1,q1⟩=>?_)
 obtain ⟨c,rfl,q1⟩:=q1
 cases r1
 refine wpAny_truthy_bool ?_
 cases c with
 | true=>exact hb pins s1 σ H1 Q I1 q1
 | false=>exact ⟨.bl false,H1,I1,rfl,q1⟩
theorem Zjw (ha:PE X a ta):PE X (.UnaryOp .Not a pos) (ZmX ta):=by
 intro pins s σ H Q I h
 refine UnaryOp_ (thn (ha pins s σ H _ I h) fun v s1 ⟨x,H1,I1,r1,q1⟩=>?_)
 obtain ⟨c,rfl,q1⟩:=q1
 cases r1
 exact not_of (wpAny_truthy_bool ⟨.bl (!c),H1,I1,rfl,q1⟩)
def tIf (t:TT) (ta tb:TE):TE:=fun σ H Q=>t σ H fun c H1=>if c=true then ta σ H1 Q else tb σ H1 Q
theorem ZdY {c:Expr} (hc:PT X c tA) (ha:PE X a ta) (hb:PE X b tb):PE X (.IfExp c a b pos) (tIf tA ta tb):=by
 intro pins s σ H Q I h
 refine wpAny_IfExp (thn (hc pins s σ H _ I h) fun d s1 ⟨H1,I1,q1⟩=>?_)
 cases d with
 | true=>exact ha pins s1 σ H1 Q I1 q1
 | false=>exact hb pins s1 σ H1 Q I1 q1
end
def SqL (K:PySem.W.Frag) (H:Hp) (a:Addr) (xs:List V):Prop :=
 Rd H a (.lst xs) ∨
  ∃ (o:Obj) (its:Array Value) (n:Nat),K.lookup a=some o∧o.cls = .type "list"∧o.dict=none∧o.data = .seq its n∧its.size≤sizeLine∧Vals xs its.toList
def SqT (K:PySem.W.Frag) (H:Hp) (a:Addr) (xs:List V):Prop :=
 Rd H a (.tup xs) ∨
  ∃ (o:Obj) (its:Array Value) (n:Nat),K.lookup a=some o∧o.cls = .type "tuple"∧o.data = .seq its n∧its.size≤sizeLine∧Vals xs its.toList
def Zn9:Value→Option V
 | .none=>some .non
 | .bool b=>some (.bl b)
 | .int i _=>some (.int i)
 | .str x _=>some (.str x)
 | .bytes b _=>some (.byt b)
 | .float b _=>some (.flt b)
 | .ref a=>some (.ref a)
 | .type n=>some (.ty n)
 | _=>none
theorem RelV.abs {x:V} {u:Value} (r:RelV x u):Zn9 u=some x:=by
 cases x with
 | non=>cases r; rfl
 | bl _=>cases r; rfl
 | int _=>obtain ⟨t,rfl⟩:=r; rfl
 | str _=>obtain ⟨t,rfl⟩:=r; rfl
 | byt _=>obtain ⟨t,rfl⟩:=r; rfl
 | flt _=>obtain ⟨t,rfl⟩:=r; rfl
 | ref _=>cases r; rfl
 | ty _=>cases r; rfl
theorem RelV.inj {x y:V} {u:Value} (r:RelV x u) (q:RelV y u):x=y:=Option.some.inj (r.abs.symm.trans q.abs)
theorem Vals.inj:∀ {xs ys:List V} {us:List Value},Vals xs us→Vals ys us→xs=ys
 | _,_,_,.nil,.nil=>rfl
 | _,_,_,.cons r t,.cons r' t'=>by rw [r.inj r',Vals.inj t t']
section
variable {X:Cx} {pins:List (Addr × Obj)} {σ:St} {H:Hp} {s:Shared} {a:Addr} {xs ys:List V}
theorem SqL.of {K:PySem.W.Frag} (h:H a=some (.lst xs)):SqL K H a xs:=.inl (.inl h)
theorem SqT.of {K:PySem.W.Frag} (h:H a=some (.tup xs)):SqT K H a xs:=.inl (.inl h)
theorem Inv.list (I:Inv X pins σ H s) (h:SqL X.K H a xs):∃ its:List Value,Vals xs its∧PlainL s.heap a its.toArray∧xs.length≤sizeLine:=by
 rcases h with h | ⟨o,its,n,hk,hc,hd,hs,hz,r⟩
 ·obtain ⟨z,its,n,r,e⟩:=h.ok I.hok
  exact ⟨its,r,⟨_,n,e,rfl,rfl,rfl⟩,z⟩
 ·refine ⟨its.toList,r,⟨o,n,I.kIn a o hk,hc,hd,by simpa using hs⟩,?_⟩
  have e:=r.length
  simp only [Array.length_toList] at e
  omega
theorem Inv.tuple (I:Inv X pins σ H s) (h:SqT X.K H a xs):∃ its:List Value,Vals xs its∧IsTup s.heap a its.toArray∧xs.length≤sizeLine:=by
 rcases h with h | ⟨o,its,n,hk,hc,hs,hz,r⟩
 ·obtain ⟨z,its,r,p,_⟩:=h.ok I.hok
  exact ⟨its,r,p,z⟩
 ·refine ⟨its.toList,r,⟨o,I.kIn a o hk,hc,n,by simpa using hs⟩,?_⟩
  have e:=r.length
  simp only [Array.length_toList] at e
  omega
theorem Inv.list_inj (I:Inv X pins σ H s) (h:SqL X.K H a xs) (h':SqL X.K H a ys):xs=ys:=by
 obtain ⟨its,r,⟨o,n,e,_,_,d⟩,_⟩:=I.list h
 obtain ⟨its',r',⟨o',n',e',_,_,d'⟩,_⟩:=I.list h'
 rw [e] at e'; cases e'
 rw [d] at d'
 injection d' with d1 _
 have:its=its':=by simpa using congrArg Array.toList d1
 subst this
 exact r.inj r'
theorem Inv.tuple_inj (I:Inv X pins σ H s) (h:SqT X.K H a xs) (h':SqT X.K H a ys):xs=ys:=by
 obtain ⟨its,r,⟨o,e,_,n,d⟩,_⟩:=I.tuple h
 obtain ⟨its',r',⟨o',e',_,n',d'⟩,_⟩:=I.tuple h'
 rw [e] at e'; cases e'
 rw [d] at d'
 injection d' with d1 _
 have:its=its':=by simpa using congrArg Array.toList d1
 subst this
 exact r.inj r'
end
abbrev Cx.wish (X:Cx) (E:Value→Shared→Prop):Cx:={ X with xe:=E }
abbrev Cx.nox (X:Cx):Cx:=X.wish fun _ _=>False
theorem Cx.Ok.wish {X:Cx} (ok:X.Ok) (E:Value→Shared→Prop):(X.wish E).Ok :=
 ⟨ok.mod,ok.kind,ok.glob,ok.blt,ok.above,ok.inj,ok.has,ok.cab,ok.hd,ok.frames,ok.stk,ok.exf,ok.bs,ok.bsz,ok.noex,ok.exfs,ok.funs,ok.frf⟩
theorem Cx.Ok.unwish {X:Cx} {E:Value→Shared→Prop} (ok:(X.wish E).Ok):X.Ok :=
 ⟨ok.mod,ok.kind,ok.glob,ok.blt,ok.above,ok.inj,ok.has,ok.cab,ok.hd,ok.frames,ok.stk,ok.exf,ok.bs,ok.bsz,ok.noex,ok.exfs,ok.funs,ok.frf⟩
section
variable {X:Cx} {pins:List (Addr × Obj)} {σ:St} {H:Hp} {s:Shared} {E:Value→Shared→Prop}
theorem Inv.wish (I:Inv X pins σ H s) (E:Value→Shared→Prop):Inv (X.wish E) pins σ H s:=⟨I.ok.wish E,I.os,I.bare,I.base,I.loc,I.cell,I.free,I.freeC,I.pin,I.hok,I.len⟩
theorem Inv.unwish (I:Inv (X.wish E) pins σ H s):Inv X pins σ H s:=⟨I.ok.unwish,I.os,I.bare,I.base,I.loc,I.cell,I.free,I.freeC,I.pin,I.hok,I.len⟩
theorem SP.unwish {D:Ze6} {f:Flow} {s':Shared} (h:SP (X.wish E) pins D f s'):SP X pins D f s':=by
 cases f with
 | next=>obtain ⟨σ',H',I,q⟩:=h; exact ⟨σ',H',I.unwish,q⟩
 | brk=>obtain ⟨σ',H',I,q⟩:=h; exact ⟨σ',H',I.unwish,q⟩
 | cont=>obtain ⟨σ',H',I,q⟩:=h; exact ⟨σ',H',I.unwish,q⟩
 | ret u=>obtain ⟨v,σ',H',I,r,q⟩:=h; exact ⟨v,σ',H',I.unwish,r,q⟩
theorem PE.nox {e:Expr} {t:TE} (h:PE X.nox e t):PE X e t:=fun pins s σ H Q I hw =>
 wpAny_mono (h pins s σ H Q (I.wish _) hw) (fun _ _ ⟨v,H',I',r,q⟩=>⟨v,H',I'.unwish,r,q⟩) fun _ _ z=>False.elim z
theorem PT.nox {e:Expr} {t:TT} (h:PT X.nox e t):PT X e t:=fun pins s σ H Q I hw =>
 wpAny_mono (h pins s σ H Q (I.wish _) hw) (fun _ _ ⟨H',I',q⟩=>⟨H',I'.unwish,q⟩) fun _ _ z=>False.elim z
theorem PSs.nox {st:List Stmt} {t:TS} (h:PSs X.nox st t):PSs X st t:=fun pins s σ H D I hw =>
 wpAny_mono (h pins s σ H D (I.wish _) hw) (fun _ _ q=>q.unwish) fun _ _ z=>False.elim z
end
section
variable {X:Cx} {st:Stmt} {rest:List Stmt} {t u:TS} {e:Expr} {te:TE} {pos:Pos}
def ZmY:TS:=fun D σ H=>D.nx σ H
def Zlu (t u:TS):TS:=fun D σ H=>t { D with nx:=u D } σ H
theorem ZA:PSs X [] ZmY:=fun _ _ σ H _ I h=>wpAny_execs_nil ⟨σ,H,I,h⟩
theorem Zd (h1:PS X st t) (h2:PSs X rest u):PSs X (st :: rest) (Zlu t u):=by
 intro pins s σ H D I h
 refine wpAny_execs_cons (thn (h1 pins s σ H { D with nx:=u D } I h) fun f s1 q=>?_)
 cases f with
 | next =>
  obtain ⟨σ',H',I',q⟩:=q
  exact h2 pins s1 σ' H' D I' q
 | ret v=>exact q
 | brk=>exact q
 | cont=>exact q
theorem Zh (h1:PS X st t):PSs X [st] t:=by
 intro pins s σ H D I h
 refine wpAny_execs_cons (thn (h1 pins s σ H D I h) fun f s1 q=>?_)
 cases f with
 | next=>exact wpAny_execs_nil q
 | ret v=>exact q
 | brk=>exact q
 | cont=>exact q
theorem Inv.quiet {pins:List (Addr × Obj)} {σ:St} {H:Hp} {s:Shared} (I:Inv X pins σ H s):interactive X.env=false:=by simp [interactive,I.ok.kind]
def Zm0 (te:TE):TS:=fun D σ H=>te σ H fun _ H1=>D.nx σ H1
theorem YU (he:PE X e te) (hs:swapsWith e none pos.line X.env=pure false:=by rfl):PS X (.Expr e pos) (Zm0 te):=by
 intro pins s σ H D I h
 exact wpAny_Expr_any (thn (he pins s σ H _ I h) fun v s1 ⟨x,H1,I1,r1,q1⟩=>⟨σ,H1,I1,q1⟩) I.quiet hs
def ZnN (te:TE):TS:=fun D σ H=>te σ H D.rt
theorem Zr (he:PE X e te):PS X (.Return (some e) pos) (ZnN te):=by
 intro pins s σ H D I h
 exact wpAny_Return_some (thn (he pins s σ H _ I h) fun v s1 ⟨x,H1,I1,r1,q1⟩=>⟨x,σ,H1,I1,r1,q1⟩)
def ZnS (c:TT) (t u:TS):TS:=fun D σ H=>c σ H fun b H1=>if b=true then t D σ H1 else u D σ H1
theorem Ye {c:Expr} {a b:List Stmt} {tc:TT} (hc:PT X c tc) (ha:PSs X a t) (hb:PSs X b u):PS X (.If c a b pos) (ZnS tc t u):=by
 intro pins s σ H D I h
 refine wpAny_If (thn (hc pins s σ H _ I h) fun d s1 ⟨H1,I1,q1⟩=>?_)
 cases d with
 | true=>exact ha pins s1 σ H1 D I1 q1
 | false=>exact hb pins s1 σ H1 D I1 q1
end
abbrev TG:=V→St→Hp→(St→Hp→Prop)→Prop
abbrev TGs:=List V→St→Hp→(St→Hp→Prop)→Prop
def PG (X:Cx) (target:Expr) (t:TG):Prop :=
 ∀ (pins:List (Addr × Obj)) (s:Shared) (σ:St) (H:Hp) (v:V) (u:Value) (Q:St→Hp→Prop),Inv X pins σ H s→RelV v u→t v σ H Q →
  wpAny (model X.prog X.w) X.A (assign target X.env u) (fun _ s'=>∃ σ' H',Inv X pins σ' H' s'∧Q σ' H') X.xe s
def PGs (X:Cx) (ts:List Expr) (t:TGs):Prop :=
 ∀ (pins:List (Addr × Obj)) (s:Shared) (σ:St) (H:Hp) (vs:List V) (us:List Value) (Q:St→Hp→Prop),Inv X pins σ H s→Vals vs us→t vs σ H Q →
  wpAny (model X.prog X.w) X.A (assignInOrder ((assignEach ts X.env).map (·.2)) us) (fun _ s'=>∃ σ' H',Inv X pins σ' H' s'∧Q σ' H') X.xe s
abbrev ZmO:=V→V→V→Hp→(Hp→Prop)→Prop
def Znv (X:Cx) (t:ZmO):Prop :=
 ∀ (pins:List (Addr × Obj)) (s:Shared) (σ:St) (H:Hp) (o i v:V) (ov iv u:Value) (Q:Hp→Prop),Inv X pins σ H s→RelV o ov→RelV i iv→RelV v u→t o i v H Q →
  wpAny (model X.prog X.w) X.A (setItem ov iv u) (fun _ s'=>∃ H',Inv X pins σ H' s'∧Q H') X.xe s
abbrev TIp:=V→V→Hp→VK→Prop
def PIp (X:Cx) (op:Operator) (t:TIp):Prop :=
 ∀ (pins:List (Addr × Obj)) (s:Shared) (σ:St) (H:Hp) (x y:V) (v u:Value) (Q:VK),Inv X pins σ H s→RelV x v→RelV y u→t x y H Q →
  wpAny (model X.prog X.w) X.A (inplaceOp op v u) (EP X pins σ Q) X.xe s
section
variable {X:Cx} {pos:Pos}
def Zak (i:Nat):TG:=fun v σ H Q=>Q (σ.set i (some v)) H
theorem Zz {i:Nat} {x:Str} (hN:X.N.Nodup) (hi:X.N[i]?=some x) (hx:Loc X.env.scope x) (hf:X.fn x=true∨X.env.scope.names.lookup x=some .local:=by first | exact .inl rfl | exact .inr rfl | assumption):PG X (.Name x pos) (Zak i):=by
 intro pins s σ H v u Q I r h
 exact wpAny_assign_Name (ZdG I hN hi hx r (fun s' I'=>⟨_,H,I',h⟩) hf)
def ZnI:TGs:=fun vs σ H Q=>vs=[]∧Q σ H
def Zk9 (t:TG) (u:TGs):TGs:=fun vs σ H Q=>∃ v r,vs=v :: r∧t v σ H fun σ' H'=>u r σ' H' Q
theorem Ya:PGs X [] ZnI:=by
 intro pins s σ H vs us Q I r h
 obtain ⟨e,h⟩:=h
 subst e
 cases r
 exact assignInOrder_nil ⟨σ,H,I,h⟩
theorem Zw {e:Expr} {es:List Expr} {t:TG} {u:TGs} (h1:PG X e t) (h2:PGs X es u)
  (hs:(assignEach (e :: es) X.env).map (·.2)=assign e X.env :: (assignEach es X.env).map (·.2):=by rfl):PGs X (e :: es) (Zk9 t u):=by
 intro pins s σ H vs us Q I r h
 obtain ⟨v,vr,e1,h⟩:=h
 subst e1
 cases r with
 | cons r rr =>
  rw [hs]
  refine assignInOrder_cons (thn (h1 pins s σ H _ _ _ I r h) fun _ s1 ⟨σ1,H1,I1,q1⟩=>?_)
  exact h2 pins s1 σ1 H1 _ _ Q I1 rr q1
def Znn (K:PySem.W.Frag) (n:Nat) (t:TGs):TG:=fun v σ H Q=>∃ a xs,v = .ref a∧SqT K H a xs∧xs.length=n∧t xs σ H Q
theorem ZlO {es:List Expr} {k:Nat} {t:TGs} {n:Nat} (hc:X.calm=true) (h:PGs X es t)
  (hn:(assignEach es X.env).length=n:=by rfl) (hst:(assignEach es X.env).findIdx? (·.1)=none:=by rfl):PG X (.Tuple es k pos) (Znn X.K n t):=by
 intro pins s σ H v u Q I r hw
 obtain ⟨a,xs,e1,hq,hl,hw⟩:=hw
 subst e1
 cases r
 obtain ⟨its,rv,ht,hz⟩:=I.tuple hq
 refine assign_Tuple_tuple (I.ok.hd hc) ht (by simp [hn,← hl,rv.length]) hst fun h' hx=>?_
 have I1:Inv X pins σ H { s with heap:=h' }:=I.kept (t':=s.toks) fun b o e=>hx b o (Nat.ne_of_lt (Heap.lt_size e)) e
 exact h pins _ σ H xs _ Q I1 (by simpa using rv) hw
def Zn5 (to ti:TE) (t:ZmO):TG:=fun v σ H Q=>to σ H fun o H1=>ti σ H1 fun i H2=>t o i v H2 fun H3=>Q σ H3
theorem ZlP {o i:Expr} {to ti:TE} {t:ZmO} (ho:PE X o to) (hi:PE X i ti) (hs:Znv X t)
  (ha:∀ v,assign (.Subscript o i pos) X.env v=(do
   let ov ← holding [v] (eval o X.env)
   let iv ← holding [v,ov] (eval i X.env)
   standAt pos
   holding [v,ov,iv] (setItem ov iv v)
   release [v,ov,iv] []):=by intro _; rfl):PG X (.Subscript o i pos) (Zn5 to ti t):=by
 intro pins s σ H v u Q I r h
 rw [ha]
 refine wpAny_bind (wpAny_holding (thn (ho pins s σ H _ I h) fun ov s1 ⟨x,H1,I1,r1,q1⟩=>?_))
 refine wpAny_bind (wpAny_holding (thn (hi pins s1 σ H1 _ I1 q1) fun iv s2 ⟨y,H2,I2,r2,q2⟩=>?_))
 refine wpAny_bind (wpAny_standAt (wpAny_bind (wpAny_holding (thn (hs pins s2 σ H2 x y v ov iv u _ I2 r1 r2 r q2) fun _ s3 ⟨H3,I3,q3⟩=>?_))))
 exact wpAny_release ⟨σ,H3,I3,q3⟩
def Zm6 (te:TE) (g:TG):TS:=fun D σ H=>te σ H fun x H1=>g x σ H1 D.nx
theorem ZlL {tg e:Expr} {te:TE} {g:TG} (he:PE X e te) (hg:PG X tg g) (hs:swapsWithSole [tg] e pos.line X.env=pure false:=by rfl) (hw:swappedStores [tg] e X.env=pure none:=by rfl)
  (h1:(assignEach [tg] X.env).map (·.2)=[assign tg X.env]:=by rfl):PS X (.Assign [tg] e pos) (Zm6 te g):=by
 intro pins s σ H D I h
 refine wpAny_Assign_stores (thn (he pins s σ H _ I h) fun v s1 ⟨x,H1,I1,r1,q1⟩=>?_) hs hw
 rw [h1]
 exact thn (hg pins s1 σ H1 x v _ I1 r1 q1) fun _ s2 q=>q
theorem Zm {i:Nat} {x:Str} {e:Expr} {te:TE} {pos':Pos} (hN:X.N.Nodup) (hi:X.N[i]?=some x) (hx:Loc X.env.scope x) (he:PE X e te) (hs:swapsWith e (some (.Name x pos')) pos.line X.env=pure false:=by rfl) (hf:X.fn x=true∨X.env.scope.names.lookup x=some .local:=by first | exact .inl rfl | exact .inr rfl | assumption) :
  PS X (.Assign [.Name x pos'] e pos) (Zm6 te (Zak i)):=by
 intro pins s σ H D I h
 refine wpAny_Assign_Name (thn (he pins s σ H _ I h) fun v s1 ⟨y,H1,I1,r1,q1⟩=>?_) hs
 exact ZdG I1 hN hi hx r1 (fun s2 I2=>⟨_,H1,I2,q1⟩) hf
def Zm5 (to ti te:TE) (tget:V→V→Hp→VK→Prop) (tip:TIp) (tset:ZmO):TS:=fun D σ H=>to σ H fun o H1=>ti σ H1 fun i H2=>tget o i H2 fun x H3=>te σ H3 fun y H4=>tip x y H4 fun z H5=>tset o i z H5 fun H6=>D.nx σ H6
def ZnJ (X:Cx) (t:V→V→Hp→VK→Prop):Prop :=
 ∀ (pins:List (Addr × Obj)) (s:Shared) (σ:St) (H:Hp) (o i:V) (ov iv:Value) (Q:VK),Inv X pins σ H s→RelV o ov→RelV i iv→t o i H Q →
  wpAny (model X.prog X.w) X.A (getItem ov iv) (EP X pins σ Q) X.xe s
theorem Zf8 {o i e:Expr} {to ti te:TE} {tget:V→V→Hp→VK→Prop} {tip:TIp} {tset:ZmO} {op:Operator} {tpos:Pos} (ho:PE X o to) (hi:PE X i ti) (hg:ZnJ X tget) (he:PE X e te) (hp:PIp X op tip) (hs:Znv X tset)
  (ha:∀ ov iv new,augStore i ov iv new=(do holding [new,ov,iv] (setItem ov iv new); release [new,ov,iv] []; pure .next):=by intros; rfl):PS X (.AugAssign (.Subscript o i tpos) op e pos) (Zm5 to ti te tget tip tset):=by
 intro pins s σ H D I h
 refine wpAny_AugAssign_SubscriptAny (thn (ho pins s σ H _ I h) fun ov s1 ⟨x1,H1,I1,r1,q1⟩=>?_) ha
 refine thn (hi pins s1 σ H1 _ I1 q1) fun iv s2 ⟨x2,H2,I2,r2,q2⟩=>?_
 refine thn (hg pins s2 σ H2 x1 x2 ov iv _ I2 r1 r2 q2) fun old s3 ⟨x3,H3,I3,r3,q3⟩=>?_
 refine thn (he pins s3 σ H3 _ I3 q3) fun v s4 ⟨x4,H4,I4,r4,q4⟩=>?_
 refine thn (hp pins s4 σ H4 x3 x4 old v _ I4 r3 r4 q4) fun new s5 ⟨x5,H5,I5,r5,q5⟩=>?_
 exact thn (hs pins s5 σ H5 x1 x2 x5 ov iv new _ I5 r1 r2 r5 q5) fun _ s6 ⟨H6,I6,q6⟩=>⟨σ,H6,I6,q6⟩
def ipI (f:Int→Int→Int):TIp:=fun x y H Q=>∃ i j,x = .int i∧y = .int j∧Q (.int (f i j)) H
theorem Zmt:PIp X .Add (ipI fun i j=>i + j):=by
 intro pins s σ H x y v u Q I r1 r2 h
 obtain ⟨i,j,e1,e2,q⟩:=h
 subst e1; subst e2
 obtain ⟨t,rfl⟩:=r1
 obtain ⟨t',rfl⟩:=r2
 exact iadd_int ⟨.int _,H,I.tok _,⟨_,rfl⟩,q⟩
theorem Zms:PIp X .Sub (ipI fun i j=>i - j):=by
 intro pins s σ H x y v u Q I r1 r2 h
 obtain ⟨i,j,e1,e2,q⟩:=h
 subst e1; subst e2
 obtain ⟨t,rfl⟩:=r1
 obtain ⟨t',rfl⟩:=r2
 exact isub_int ⟨.int _,H,I.tok _,⟨_,rfl⟩,q⟩
def ZdE (c:TT) (tb:TS):TS:=fun D σ H=>∃ W:Nat→St→Hp→Prop,(∃ m,W m σ H)∧∀ m σ H,W m σ H →
 c σ H fun b H1=>if b=true then ∃ N:St→Hp→Prop,(∀ σ' H',N σ' H'→∃ m',m' < m∧W m' σ' H')∧tb { D with nx:=N,ct:=N,bk:=D.nx } σ H1 else D.nx σ H1
theorem Jy {c:Expr} {body:List Stmt} {tc:TT} {tb:TS} (hp:PassesOwn (model X.prog X.w) X.A X.env X.xe) (hc:PT X c tc) (hb:PSs X body tb):PS X (.While c body [] pos) (ZdE tc tb):=by
 intro pins s σ H D I h
 obtain ⟨W,⟨m0,w0⟩,turn⟩:=h
 refine wpAny_While (codeAny_whileLoop (fun n s'=>∃ σ' H',Inv X pins σ' H' s'∧W n σ' H') ?_ m0 ⟨σ,H,I,w0⟩)
 rintro n s1 ⟨σ1,H1,I1,w1⟩
 refine wpAny_passesOwn hp (thn (hc pins s1 σ1 H1 _ I1 (turn n σ1 H1 w1)) fun b s2 ⟨H2,I2,q2⟩=>?_)
 cases b with
 | true =>
  obtain ⟨N,hN,q2⟩:=q2
  rw [if_pos rfl]
  refine wpAny_passesOwn hp (thn (hb pins s2 σ1 H2 _ I2 q2) fun f s3 q3=>?_)
  cases f with
  | next =>
   obtain ⟨σ3,H3,I3,n3⟩:=q3
   obtain ⟨m',hm,w3⟩:=hN σ3 H3 n3
   exact ⟨m',hm,σ3,H3,I3,w3⟩
  | cont =>
   obtain ⟨σ3,H3,I3,n3⟩:=q3
   obtain ⟨m',hm,w3⟩:=hN σ3 H3 n3
   exact ⟨m',hm,σ3,H3,I3,w3⟩
  | brk=>exact q3
  | ret v=>exact q3
 | false =>
  rw [if_neg Bool.false_ne_true]
  exact wpAny_execs_nil ⟨σ1,H2,I2,q2⟩
end
structure It where
 go:Nat→Hp→Prop
 yld:Nat→Hp→V→Hp→Prop
 stop:Nat→Hp→Prop
def Zcz (X:Cx) (pins:List (Addr × Obj)) (H:Hp) (b:Addr):Prop :=
 H b=none∧b≠X.env.locals∧b∉X.fs∧(b∈X.ex∨X.s₀.heap.objs.size≤b)∧(∀ x c,X.env.cells.lookup x=some c→c≠b)∧∀ p∈X.pn ++ pins,p.1≠b
theorem Inv.fpOk {X:Cx} {pins:List (Addr × Obj)} {σ:St} {H H':Hp} {s:Shared} {b:Addr} (I:Inv X pins σ H s) (hb:s.heap.objs.size≤b) (hn:H' b=none):Zcz X pins H' b:=by
 refine ⟨hn,Nat.ne_of_gt (Nat.lt_of_lt_of_le I.lt hb),I.nofs hb,.inr (Nat.le_trans I.sz hb),fun x c e z=>?_,fun p hp z=>?_⟩
 ·obtain ⟨v,q⟩:=I.cell x c e
  exact absurd (Nat.lt_of_lt_of_le q.lt (by rw [z]; exact hb)) (Nat.lt_irrefl _)
 ·exact absurd (Nat.lt_of_lt_of_le (Heap.lt_size (I.pin p hp).1) (by rw [z]; exact hb)) (Nat.lt_irrefl _)
structure ZjY (P:Program) (w:World) (K:PySem.W.Frag) (tg:Expr) (J:It) (fp:List Addr) (it:Addr) (tn:Nat→Heap→Prop):Prop where
 mem:it∈fp
 obj:∀ i h,tn i h→∀ b∈fp,∃ o,h.get? b=some o∧∀ v,o.data≠.cell v
 keep:∀ i h h',tn i h→(∀ b∈fp,∀ o,h.get? b=some o→h'.get? b=some o)→tn i h'
 item:∀ (X:Cx),X.prog=P→X.w=w→X.K=K→X.calm=true→∀ (i:Nat) (pins:List (Addr × Obj)) (s:Shared) (σ:St) (H:Hp) (E:Value→Shared→Prop),Inv X pins σ H s→(∀ b∈fp,Zcz X pins H b)→tn i s.heap→J.go i H →
  wpAny (model P w) X.A (pyNext (.ref it)) (fun r s1=>∃ u,r=some u ∧
   wpAny (model P w) X.A (letOwnedTupleGo tg (.ref it) u) (fun _ s2=>∃ x H',Inv X pins σ H' s2∧RelV x u∧J.yld i H x H'∧tn (i + 1) s2.heap∧∀ b∈fp,H' b=none) E s1) E s
 done:∀ (X:Cx),X.prog=P→X.w=w→X.K=K→X.calm=true→∀ (i:Nat) (pins:List (Addr × Obj)) (s:Shared) (σ:St) (H:Hp) (E:Value→Shared→Prop),Inv X pins σ H s→(∀ b∈fp,Zcz X pins H b)→tn i s.heap→J.stop i H →
  wpAny (model P w) X.A (pyNext (.ref it)) (fun r s1=>r=none∧Inv X pins σ H s1) E s
 self:∀ (A:Around) (i:Nat) (s:Shared) (Q:Value→Shared→Prop) (E:Value→Shared→Prop),tn i s.heap→Q (.ref it) s→wpAny (model P w) A (pyIter (.ref it)) Q E s
abbrev TI:=St→Hp→(It→Hp→Prop)→Prop
def PIE (X:Cx) (pins:List (Addr × Obj)) (σ:St) (tg:Expr) (R:It→Hp→Prop) (itv:Value) (s2:Shared):Prop :=
 ∃ (it:Addr) (fp:List Addr) (tn:Nat→Heap→Prop) (J:It) (H':Hp),itv = .ref it∧Inv X pins σ H' s2∧ZjY X.prog X.w X.K tg J fp it tn∧tn 0 s2.heap∧(∀ b∈fp,Zcz X pins H' b)∧R J H'
def PI (X:Cx) (tg iter:Expr) (wi:TI):Prop :=
 ∀ (pins:List (Addr × Obj)) (s:Shared) (σ:St) (H:Hp) (R:It→Hp→Prop),Inv X pins σ H s→wi σ H R →
  wpAny (model X.prog X.w) X.A (eval iter X.env) (fun v s1=>wpAny (model X.prog X.w) X.A (pyIter v) (PIE X pins σ tg R) X.xe s1) X.xe s
theorem Zk7 {M:Model} {A:Around} {E:Value→Shared→Prop} {s:Shared} {tg:Expr} {it:Addr} {u:Value} {o:Obj} {n:String} {vs:Array Value} {Q:Unit→Shared→Prop} (ho:s.heap.get? it=some o) (hc:o.cls = .type n) (hd:o.data = .fields vs)
  (hn:["enumerate","zip","dict_itemiterator","dict_reverseitemiterator","odict_iterator","itertools.zip_longest","itertools.pairwise"].contains n=false) (hQ:Q () s):wpAny M A (letOwnedTupleGo tg (.ref it) u) Q E s:=by
 unfold letOwnedTupleGo
 cases tg <;> first
  | exact wpAny_pure hQ
  | (cases u <;> first
    | exact wpAny_pure hQ
    | (refine wpAny_bind (wpAny_load ho ?_)
       rw [hc,hd]
       show wpAny M A (if (["enumerate","zip","dict_itemiterator","dict_reverseitemiterator","odict_iterator","itertools.zip_longest","itertools.pairwise"].contains n && vs[0]? == some (rawInt _))=true then _ else _) Q E s
       rw [if_neg (by intro h; rw [hn,Bool.false_and] at h; cases h)]
       exact wpAny_pure hQ))
def Itl (K:PySem.W.Frag) (a:Addr):It :=
 ⟨fun i H=>∃ xs x,SqL K H a xs∧xs[i]?=some x,fun i H x H'=>H'=H∧∀ xs,SqL K H a xs→xs[i]?=some x,fun i H=>∃ xs,SqL K H a xs∧xs.length≤i⟩
def Itt (K:PySem.W.Frag) (a:Addr):It :=
 ⟨fun i H=>∃ xs x,SqT K H a xs∧xs[i]?=some x,fun i H x H'=>H'=H∧∀ xs,SqT K H a xs→xs[i]?=some x,fun i H=>∃ xs,SqT K H a xs∧xs.length≤i⟩
def Itr (lo:Int) (n:Nat):It:=⟨fun i _=>i < n,fun i H x H'=>H'=H∧x = .int (lo + i),fun i _=>n≤i⟩
theorem Zfh {P:Program} {w:World} {K:PySem.W.Frag} {tg:Expr} (a it:Addr):ZjY P w K tg (Itl K a) [it] it (fun i h=>h.IsListIter it a i) where
 mem:=by simp
 obj:=fun i h st b hb=>by
  have e:b=it:=by simpa using hb
  subst e
  obtain ⟨o,e,c,d⟩:=st
  exact ⟨o,e,fun v z=>by rw [d] at z; cases z⟩
 keep:=fun i h h' st k=>st.at fun o e=>k it (by simp) o e
 item:=by
  intro X hP hw hK hc i pins s σ H E I hf st hg
  subst hP hw hK
  obtain ⟨xs,x,hq,hx⟩:=hg
  obtain ⟨its,rv,p,hz⟩:=I.list hq
  obtain ⟨u,hu,ru⟩:=rv.get hx
  obtain ⟨f0,f1,f2,f3,f4,f5⟩:=hf it (by simp)
  refine wpAny_pyNext_list_item st p.isList (x:=u) (by simpa using hu) fun h' st' sb=>?_
  have I1:Inv X pins σ H { s with heap:=h' }:=I.turned (t':=s.toks) (fun b o hb e=>(sb.2 b hb).trans e) f0 f1 f3 f4 f5
  obtain ⟨o,e,c,d⟩:=id st'
  exact ⟨u,rfl,Zk7 (s:={ s with heap:=h' }) e c d (by decide) ⟨x,H,I1,ru,⟨rfl,fun ys hy=>by rw [I.list_inj hy hq]; exact hx⟩,st',fun b hb=>(hf b hb).1⟩⟩
 done:=by
  intro X hP hw hK hc i pins s σ H E I hf st hg
  subst hP hw hK
  obtain ⟨xs,hq,hx⟩:=hg
  obtain ⟨its,rv,p,hz⟩:=I.list hq
  obtain ⟨f0,f1,f2,f3,f4,f5⟩:=hf it (by simp)
  have hl:=rv.length
  exact wpAny_pyNext_list_end (I.ok.hd hc) st p.isList (by simp; omega) fun h' eb=>⟨rfl,I.turned (t':=s.toks) (fun b o hb e=>eb b o hb e) f0 f1 f3 f4 f5⟩
 self:=fun _ _ _ _ _ st h=>wpAny_pyIter_listiter st h
theorem Zey {P:Program} {w:World} {K:PySem.W.Frag} {tg:Expr} (a it:Addr):ZjY P w K tg (Itt K a) [it] it (fun i h=>h.IsTupleIter it a i) where
 mem:=by simp
 obj:=fun i h st b hb=>by
  have e:b=it:=by simpa using hb
  subst e
  obtain ⟨o,e,c,d⟩:=st
  exact ⟨o,e,fun v z=>by rw [d] at z; cases z⟩
 keep:=fun i h h' st k=>st.at fun o e=>k it (by simp) o e
 item:=by
  intro X hP hw hK hc i pins s σ H E I hf st hg
  subst hP hw hK
  obtain ⟨xs,x,hq,hx⟩:=hg
  obtain ⟨its,rv,p,hz⟩:=I.tuple hq
  obtain ⟨u,hu,ru⟩:=rv.get hx
  obtain ⟨f0,f1,f2,f3,f4,f5⟩:=hf it (by simp)
  refine wpAny_pyNext_tuple_item st (show s.heap.IsTuple a its.toArray from p) (x:=u) (by simpa using hu) fun h' st' sb=>?_
  have I1:Inv X pins σ H { s with heap:=h' }:=I.turned (t':=s.toks) (fun b o hb e=>(sb.2 b hb).trans e) f0 f1 f3 f4 f5
  obtain ⟨o,e,c,d⟩:=id st'
  exact ⟨u,rfl,Zk7 (s:={ s with heap:=h' }) e c d (by decide) ⟨x,H,I1,ru,⟨rfl,fun ys hy=>by rw [I.tuple_inj hy hq]; exact hx⟩,st',fun b hb=>(hf b hb).1⟩⟩
 done:=by
  intro X hP hw hK hc i pins s σ H E I hf st hg
  subst hP hw hK
  obtain ⟨xs,hq,hx⟩:=hg
  obtain ⟨its,rv,p,hz⟩:=I.tuple hq
  obtain ⟨f0,f1,f2,f3,f4,f5⟩:=hf it (by simp)
  have hl:=rv.length
  exact wpAny_pyNext_tuple_end (I.ok.hd hc) st (show s.heap.IsTuple a its.toArray from p) (by simp; omega) fun h' eb=>⟨rfl,I.turned (t':=s.toks) (fun b o hb e=>eb b o hb e) f0 f1 f3 f4 f5⟩
 self:=fun _ _ _ _ _ st h=>wpAny_pyIter_tupleiter st h
theorem Zez {P:Program} {w:World} {K:PySem.W.Frag} {tg:Expr} (it:Addr) (lo:Int) (n:Nat):ZjY P w K tg (Itr lo n) [it] it (fun i h=>IsRangeIter h it (lo + (i:Nat) * 1) ((n:Int) - (i:Nat)) 1) where
 mem:=by simp
 obj:=fun i h st b hb=>by
  have e:b=it:=by simpa using hb
  subst e
  exact ⟨_,st,fun v z=>by
   have z':Data.fields _=Data.cell v:=z
   cases z'⟩
 keep:=fun i h h' st k=>k it (by simp) _ st
 item:=by
  intro X hP hw hK hc i pins s σ H E I hf st hg
  subst hP hw hK
  obtain ⟨f0,f1,f2,f3,f4,f5⟩:=hf it (by simp)
  have W:=Walks.range (prog:=X.prog) (w:=X.w) (I.ok.hd hc) it lo 1 n
  refine W.item i s _ _ hg st fun v h' tk hv st' kk=>?_
  obtain ⟨t,rfl⟩:=hv
  have I1:Inv X pins σ H { s with heap:=h',toks:=tk }:=I.turned (fun b o hb e=>kk b o (by simpa using hb) e) f0 f1 f3 f4 f5
  refine ⟨_,rfl,Zk7 (s:={ s with heap:=h',toks:=tk }) (n:="range_iterator") st' rfl rfl (by decide) ⟨.int (lo + i),H,I1,⟨t,?_⟩,⟨rfl,rfl⟩,st',fun b hb=>(hf b hb).1⟩⟩
  rw [Int.mul_one]
 done:=by
  intro X hP hw hK hc i pins s σ H E I hf st hg
  subst hP hw hK
  obtain ⟨f0,f1,f2,f3,f4,f5⟩:=hf it (by simp)
  exact wpAny_pyNext_range_end (I.ok.hd hc) st (by have:n≤i:=hg; omega) fun h' eb=>⟨rfl,I.turned (t':=s.toks) (fun b o hb e=>eb b o hb e) f0 f1 f3 f4 f5⟩
 self:=fun _ _ _ _ _ st h=>wpAny_pyIter_rangeiter st h
section
variable {X:Cx} {tg:Expr}
def Znk (K:PySem.W.Frag) (tl:TE):TI:=fun σ H R=>tl σ H fun x H1=>∃ a,x = .ref a∧(∃ xs,SqL K H1 a xs)∧R (Itl K a) H1
def Zn4 (K:PySem.W.Frag) (tl:TE):TI:=fun σ H R=>tl σ H fun x H1=>∃ a,x = .ref a∧(∃ xs,SqT K H1 a xs)∧R (Itt K a) H1
theorem ZX {l:Expr} {tl:TE} (hl:PE X l tl):PI X tg l (Znk X.K tl):=by
 intro pins s σ H R I h
 refine thn (hl pins s σ H _ I h) fun v s1 ⟨x,H1,I1,r1,q1⟩=>?_
 obtain ⟨a,e,⟨xs,hq⟩,q⟩:=q1
 subst e
 cases r1
 obtain ⟨its,rv,p,hz⟩:=I1.list hq
 refine wpAny_pyIter_list p.isList ?_
 refine ⟨s1.heap.objs.size,[s1.heap.objs.size],_,_,H1,rfl,I1.kept (t':=s1.toks) fun b o e=>Heap.get?_push_of_some _ e,Zfh a _,⟨_,Heap.get?_push_size _ rfl,rfl,rfl⟩,fun b hb=>?_,q⟩
 have e:b=s1.heap.objs.size:=by simpa using hb
 subst e
 exact I1.fpOk (Nat.le_refl _) (I1.hok.fresh (Nat.le_refl _))
theorem YK {l:Expr} {tl:TE} (hl:PE X l tl):PI X tg l (Zn4 X.K tl):=by
 intro pins s σ H R I h
 refine thn (hl pins s σ H _ I h) fun v s1 ⟨x,H1,I1,r1,q1⟩=>?_
 obtain ⟨a,e,⟨xs,hq⟩,q⟩:=q1
 subst e
 cases r1
 obtain ⟨its,rv,p,hz⟩:=I1.tuple hq
 refine wpAny_pyIter_tuple (show s1.heap.IsTuple a its.toArray from p) ?_
 refine ⟨s1.heap.objs.size,[s1.heap.objs.size],_,_,H1,rfl,I1.kept (t':=s1.toks) fun b o e=>Heap.get?_push_of_some _ e,Zey a _,⟨_,Heap.get?_push_size _ rfl,rfl,rfl⟩,fun b hb=>?_,q⟩
 have e:b=s1.heap.objs.size:=by simpa using hb
 subst e
 exact I1.fpOk (Nat.le_refl _) (I1.hok.fresh (Nat.le_refl _))
theorem ZdP {pins:List (Addr × Obj)} {σ:St} {H:Hp} {s:Shared} {R:It→Hp→Prop} {E:Value→Shared→Prop} {lo hi:Int} {t u v:Tok} {tk:Nat} (I:Inv X pins σ H s) (h1 : -(2 ^ 62)≤lo) (h2:lo < 2 ^ 62) (h3 : -(2 ^ 62)≤hi) (h4:hi < 2 ^ 62)
  (q:R (Itr lo (hi - lo).toNat) H):wpAny (model X.prog X.w) X.A (pyIter (.ref s.heap.objs.size)) (PIE X pins σ tg R) E { s with heap:=s.heap.push { cls:=.type "range",data:=.fields #[.int lo t,.int hi u,.int 1 v] },toks:=tk }:=by
 refine wpAny_pyIter_range (IsRange.new ..) (small_one h1 h2 h3 h4) ?_
 have I1:Inv X pins σ H { s with heap:=s.heap.push { cls:=.type "range",data:=.fields #[.int lo t,.int hi u,.int 1 v] },toks:=tk }:=I.kept fun b o e=>Heap.get?_push_of_some _ e
 refine ⟨(s.heap.push { cls:=.type "range",data:=.fields #[.int lo t,.int hi u,.int 1 v] }).objs.size,[(s.heap.push { cls:=.type "range",data:=.fields #[.int lo t,.int hi u,.int 1 v] }).objs.size],_,_,H,rfl,
  I1.kept (t':=tk) fun b o e=>Heap.get?_push_of_some _ e,Zez _ lo (hi - lo).toNat,?_,fun b hb=>?_,q⟩
 ·have e1:lo + ((0:Nat):Int) * 1=lo:=by simp
  have e2:(((hi - lo).toNat:Nat):Int) - ((0:Nat):Int)=Builtin.Range.rangeSize lo hi 1:=by rw [rangeSize_one]; split <;> omega
  show IsRangeIter _ _ (lo + ((0:Nat):Int) * 1) ((((hi - lo).toNat:Nat):Int) - ((0:Nat):Int)) 1
  rw [e1,e2]
  exact Heap.get?_push_size _ rfl
 ·have e:b=(s.heap.push { cls:=.type "range",data:=.fields #[.int lo t,.int hi u,.int 1 v] }).objs.size:=by simpa using hb
  subst e
  exact I1.fpOk (Nat.le_refl _) (I1.hok.fresh (Nat.le_refl _))
def Zni (ta:TA):TI:=fun σ H R=>ta σ H fun vs H1=>∃ j:Int,vs=[.int j]∧-(2 ^ 62)≤j∧j < 2 ^ 62∧R (Itr 0 j.toNat) H1
def Znh (ta:TA):TI:=fun σ H R=>ta σ H fun vs H1=>∃ i j:Int,vs=[.int i,.int j]∧(-(2 ^ 62)≤i∧i < 2 ^ 62∧-(2 ^ 62)≤j∧j < 2 ^ 62)∧R (Itr i (j - i).toNat) H1
theorem Yx {a:Expr} {ta:TA} {p pos:Pos} (hg:Gl X "range") (hm:X.mg "range" = none) (ha:PA X [a] ta) (hs:starEach [a] X.env=[(false,eval a X.env)]:=by rfl):PI X tg (.Call (.Name "range" p) [a] [] pos) (Zni ta):=by
 intro pins s σ H R I h
 refine Call_ (XH I hg hm boot_range (PyProof.Rows.callWith_type1 (thn (ha pos pins s σ H _ I h) fun us s1 ⟨vs,H1,I1,r1,q1⟩=>?_) hs rfl))
 obtain ⟨j,e,q1,q2,q⟩:=q1
 subst e
 cases r1 with
 | cons r rr =>
  cases rr
  obtain ⟨t,rfl⟩:=r
  exact call_range_1 (ZdP I1 (by omega) (by omega) q1 q2 (by simpa using q))
theorem ZbR {a b:Expr} {ta:TA} {p pos:Pos} (hg:Gl X "range") (hm:X.mg "range" = none) (ha:PA X [a,b] ta) (hs:starEach [a,b] X.env=[(false,eval a X.env),(false,eval b X.env)]:=by rfl) (hs2:starEach [b] X.env=[(false,eval b X.env)]:=by rfl) :
  PI X tg (.Call (.Name "range" p) [a,b] [] pos) (Znh ta):=by
 intro pins s σ H R I h
 refine Call_ (XH I hg hm boot_range (PyProof.Rows.callWith_type1 (thn (ha pos pins s σ H _ I h) fun us s1 ⟨vs,H1,I1,r1,q1⟩=>?_) (by rw [hs,hs2]) (by rw [hs2]; rfl)))
 obtain ⟨i,j,e,⟨q1,q2,q3,q4⟩,q⟩:=q1
 subst e
 cases r1 with
 | cons r rr =>
  cases rr with
  | cons r' rr =>
   cases rr
   obtain ⟨t,rfl⟩:=r
   obtain ⟨t',rfl⟩:=r'
   exact call_range_2 (ZdP I1 q1 q2 q3 q4 q)
def ZnT (wi:TI) (g:TG) (tb:TS):TS:=fun D σ H=>wi σ H fun J H1=>∃ W:Nat→Nat→St→Hp→Prop,(∃ m,W 0 m σ H1)∧∀ i m σ H,W i m σ H →
 (J.stop i H∧D.nx σ H)∨(J.go i H∧∃ N:St→Hp→Prop,(∀ σ' H',N σ' H'→∃ m',m' < m∧W (i + 1) m' σ' H')∧∀ x H',J.yld i H x H'→g x σ H' fun σ2 H2=>tb { D with nx:=N,ct:=N,bk:=D.nx } σ2 H2)
def ZbQ (fp:List Addr) (h:Heap):List (Addr × Obj):=fp.filterMap fun b=>(h.get? b).map fun o=>(b,o)
theorem Xb {fp:List Addr} {h:Heap} {b:Addr} {o:Obj} (hb:b∈fp) (e:h.get? b=some o):(b,o)∈ZbQ fp h:=List.mem_filterMap.mpr ⟨b,hb,by rw [e]; rfl⟩
theorem Zgw {fp:List Addr} {h:Heap} {p:Addr × Obj} (hp:p∈ZbQ fp h):p.1∈fp∧h.get? p.1=some p.2:=by
 obtain ⟨b,hb,e⟩:=List.mem_filterMap.mp hp
 cases q:h.get? b with
 | none=>rw [q] at e; cases e
 | some o =>
  rw [q] at e
  have e':(b,o)=p:=Option.some.inj e
  subst e'
  exact ⟨hb,q⟩
theorem Inv.pinned {pins:List (Addr × Obj)} {σ:St} {H:Hp} {s:Shared} {fp:List Addr} (I:Inv X pins σ H s) (hf:∀ b∈fp,Zcz X pins H b) (ho:∀ b∈fp,∃ o,s.heap.get? b=some o∧∀ v,o.data≠.cell v):Inv X (pins ++ ZbQ fp s.heap) σ H s :=
 I.pins_of fun p hp=>(List.mem_append.mp hp).elim (fun z=>I.pin p (List.mem_append_right _ z)) fun z=>by
  obtain ⟨hb,e⟩:=Zgw z
  obtain ⟨f0,f1,f2,_⟩:=hf p.1 hb
  obtain ⟨o,e',d⟩:=ho p.1 hb
  rw [e] at e'; cases e'
  exact ⟨e,f0,f1,f2,d⟩
theorem Inv.unpinned {pins pl:List (Addr × Obj)} {σ:St} {H:Hp} {s:Shared} (I:Inv X (pins ++ pl) σ H s):Inv X pins σ H s:=I.pins_of fun p hp=>I.pin p (List.mem_append_right _ (List.mem_append_left _ hp))
theorem Z3 {iter:Expr} {body:List Stmt} {wi:TI} {g:TG} {tb:TS} {pos:Pos} (hp:PassesOwn (model X.prog X.w) X.A X.env X.xe) (hc:X.calm=true) (hi:PI X tg iter wi) (hg:PG X tg g) (hb:PSs X body tb)
  (hs:∀ x,foldedSetIterable iter X.env x=pure x:=by intro _; rfl):PS X (.For tg iter body [] pos) (ZnT wi g tb):=by
 intro pins s σ H D I h
 refine wpAny_For (thn (hi pins s σ H _ I h) fun v s1 h1=>thn h1 fun itv s2 h2=>?_) hs
 obtain ⟨it,fp,tn,J,H2,e,I2,T,st2,f2,W,⟨m0,w0⟩,turn⟩:=h2
 subst e
 -- what stays true of the iterator's objects through the loop
 have stat:∀ {H':Hp},(∀ b∈fp,H' b=none)→∀ b∈fp,Zcz X pins H' b:=fun hn b hb=>⟨hn b hb,(f2 b hb).2⟩
 refine codeAny_forLoop_any (fun n s'=>∃ i σ' H',Inv X pins σ' H' s'∧tn i s'.heap∧(∀ b∈fp,H' b=none)∧W i n σ' H') ?_ m0 ⟨0,σ,H2,I2,st2,fun b hb=>(f2 b hb).1,w0⟩
 rintro n s3 ⟨i,σ3,H3,I3,st3,fr3,w3⟩
 rcases turn i n σ3 H3 w3 with ⟨stop,qn⟩ | ⟨go,N,hN,step⟩
 ·refine wpAny_passesOwn hp (thn (T.done X rfl rfl rfl hc i pins s3 σ3 H3 X.xe I3 (stat fr3) st3 stop) fun r s4 ⟨hr,I4⟩=>?_)
  subst hr
  exact wpAny_execs_nil ⟨σ3,H3,I4,qn⟩
 ·refine wpAny_passesOwn hp (thn (T.item X rfl rfl rfl hc i pins s3 σ3 H3 X.xe I3 (stat fr3) st3 go) fun r s4 ⟨u,hr,h4⟩=>?_)
  subst hr
  refine wpAny_passesOwn hp (thn h4 fun _ s5 ⟨x,H5,I5,r5,y5,st5,fr5⟩=>?_)
  have I5':=I5.pinned (stat fr5) (T.obj _ _ st5)
  refine wpAny_passesOwn hp (thn (hg _ s5 σ3 H5 x u _ I5' r5 (step x H5 y5)) fun _ s6 ⟨σ6,H6,I6,q6⟩=>?_)
  refine wpAny_passesOwn hp (thn (hb _ s6 σ6 H6 _ I6 q6) fun f s7 q7=>?_)
  have again:∀ {σ7:St} {H7:Hp},Inv X (pins ++ ZbQ fp s5.heap) σ7 H7 s7→N σ7 H7→∃ m,m < n∧∃ i σ' H',Inv X pins σ' H' s7∧tn i s7.heap∧(∀ b∈fp,H' b=none)∧W i m σ' H':=fun {σ7 H7} I7 n7=>by
   obtain ⟨m',hm,w7⟩:=hN σ7 H7 n7
   refine ⟨m',hm,i + 1,σ7,H7,I7.unpinned,T.keep _ _ _ st5 fun b hb o e=>(I7.pin (b,o) (List.mem_append_right _ (List.mem_append_right _ (Xb hb e)))).1,fun b hb=>?_,w7⟩
   obtain ⟨o,e,d⟩:=T.obj _ _ st5 b hb
   exact (I7.pin (b,o) (List.mem_append_right _ (List.mem_append_right _ (Xb hb e)))).2.1
  cases f with
  | next=>obtain ⟨σ7,H7,I7,n7⟩:=q7; exact again I7 n7
  | cont=>obtain ⟨σ7,H7,I7,n7⟩:=q7; exact again I7 n7
  | brk=>obtain ⟨σ7,H7,I7,q7⟩:=q7; exact ⟨σ7,H7,I7.unpinned,q7⟩
  | ret v=>obtain ⟨x7,σ7,H7,I7,r7,q7⟩:=q7; exact ⟨x7,σ7,H7,I7.unpinned,r7,q7⟩
end
theorem XM {K:PySem.W.Frag} {a:Addr} {xs:List V} {g:TG} {tb:TS} {D:Ze6} {σ:St} {H:Hp} (Pv:Nat→St→Hp→Prop) (h0:Pv 0 σ H) (hl:∀ i σ H,i≤xs.length→Pv i σ H→SqL K H a xs)
  (hs:∀ i x σ H,xs[i]?=some x→Pv i σ H→g x σ H fun σ2 H2=>tb { D with nx:=Pv (i + 1),ct:=Pv (i + 1),bk:=D.nx } σ2 H2) (hd:∀ σ H,Pv xs.length σ H→D.nx σ H) :
  ∃ W:Nat→Nat→St→Hp→Prop,(∃ m,W 0 m σ H)∧∀ i m σ H,W i m σ H →
   ((Itl K a).stop i H∧D.nx σ H)∨((Itl K a).go i H∧∃ N:St→Hp→Prop,(∀ σ' H',N σ' H'→∃ m',m' < m∧W (i + 1) m' σ' H')∧∀ x H',(Itl K a).yld i H x H'→g x σ H' fun σ2 H2=>tb { D with nx:=N,ct:=N,bk:=D.nx } σ2 H2):=by
 refine ⟨fun i m σ H=>m=xs.length - i∧i≤xs.length∧Pv i σ H,⟨xs.length,by simp,Nat.zero_le _,h0⟩,?_⟩
 rintro i m σ H ⟨rfl,hi,p⟩
 have q:=hl i σ H hi p
 by_cases hlt:i < xs.length
 ·refine .inr ⟨⟨xs,xs[i],q,by simp [hlt]⟩,Pv (i + 1),fun σ' H' p'=>⟨xs.length - (i + 1),by omega,rfl,hlt,p'⟩,fun x H' y=>?_⟩
  obtain ⟨e,y⟩:=y
  subst e
  exact hs i x σ _ (y xs q) p
 ·have e:i=xs.length:=by omega
  subst e
  exact .inl ⟨⟨xs,q,Nat.le_refl _⟩,hd σ H p⟩
theorem X8 {K:PySem.W.Frag} {a:Addr} {xs:List V} {g:TG} {tb:TS} {D:Ze6} {σ:St} {H:Hp} (Pv:Nat→St→Hp→Prop) (h0:Pv 0 σ H) (hl:∀ i σ H,i≤xs.length→Pv i σ H→SqT K H a xs)
  (hs:∀ i x σ H,xs[i]?=some x→Pv i σ H→g x σ H fun σ2 H2=>tb { D with nx:=Pv (i + 1),ct:=Pv (i + 1),bk:=D.nx } σ2 H2) (hd:∀ σ H,Pv xs.length σ H→D.nx σ H) :
  ∃ W:Nat→Nat→St→Hp→Prop,(∃ m,W 0 m σ H)∧∀ i m σ H,W i m σ H →
   ((Itt K a).stop i H∧D.nx σ H)∨((Itt K a).go i H∧∃ N:St→Hp→Prop,(∀ σ' H',N σ' H'→∃ m',m' < m∧W (i + 1) m' σ' H')∧∀ x H',(Itt K a).yld i H x H'→g x σ H' fun σ2 H2=>tb { D with nx:=N,ct:=N,bk:=D.nx } σ2 H2):=by
 refine ⟨fun i m σ H=>m=xs.length - i∧i≤xs.length∧Pv i σ H,⟨xs.length,by simp,Nat.zero_le _,h0⟩,?_⟩
 rintro i m σ H ⟨rfl,hi,p⟩
 have q:=hl i σ H hi p
 by_cases hlt:i < xs.length
 ·refine .inr ⟨⟨xs,xs[i],q,by simp [hlt]⟩,Pv (i + 1),fun σ' H' p'=>⟨xs.length - (i + 1),by omega,rfl,hlt,p'⟩,fun x H' y=>?_⟩
  obtain ⟨e,y⟩:=y
  subst e
  exact hs i x σ _ (y xs q) p
 ·have e:i=xs.length:=by omega
  subst e
  exact .inl ⟨⟨xs,q,Nat.le_refl _⟩,hd σ H p⟩
theorem Y0 {lo:Int} {n:Nat} {g:TG} {tb:TS} {D:Ze6} {σ:St} {H:Hp} (Pv:Nat→St→Hp→Prop) (h0:Pv 0 σ H)
  (hs:∀ i σ H,i < n→Pv i σ H→g (.int (lo + i)) σ H fun σ2 H2=>tb { D with nx:=Pv (i + 1),ct:=Pv (i + 1),bk:=D.nx } σ2 H2) (hd:∀ σ H,Pv n σ H→D.nx σ H) :
  ∃ W:Nat→Nat→St→Hp→Prop,(∃ m,W 0 m σ H)∧∀ i m σ H,W i m σ H →
   ((Itr lo n).stop i H∧D.nx σ H)∨((Itr lo n).go i H∧∃ N:St→Hp→Prop,(∀ σ' H',N σ' H'→∃ m',m' < m∧W (i + 1) m' σ' H')∧∀ x H',(Itr lo n).yld i H x H'→g x σ H' fun σ2 H2=>tb { D with nx:=N,ct:=N,bk:=D.nx } σ2 H2):=by
 refine ⟨fun i m σ H=>m=n - i∧i≤n∧Pv i σ H,⟨n,by simp,Nat.zero_le _,h0⟩,?_⟩
 rintro i m σ H ⟨rfl,hi,p⟩
 by_cases hlt:i < n
 ·refine .inr ⟨hlt,Pv (i + 1),fun σ' H' p'=>⟨n - (i + 1),by omega,rfl,hlt,p'⟩,fun x H' y=>?_⟩
  obtain ⟨e,y⟩:=y
  subst e y
  exact hs i σ _ hlt p
 ·have e:i=n:=by omega
  subst e
  exact .inl ⟨Nat.le_refl _,hd σ H p⟩
theorem ZhH {c:TT} {tb:TS} {D:Ze6} {σ:St} {H:Hp} (Pv:St→Hp→Prop) (μ:St→Hp→Nat) (h0:Pv σ H)
  (hs:∀ σ H,Pv σ H→c σ H fun b H1=>if b=true then tb { D with nx:=fun σ' H'=>Pv σ' H'∧μ σ' H' < μ σ H,ct:=fun σ' H'=>Pv σ' H'∧μ σ' H' < μ σ H,bk:=D.nx } σ H1 else D.nx σ H1)
  (mono:∀ σ H Q Q',(∀ b H1,Q b H1→Q' b H1)→c σ H Q→c σ H Q'):ZdE c tb D σ H:=by
 refine ⟨fun m σ H=>m=μ σ H∧Pv σ H,⟨_,rfl,h0⟩,?_⟩
 rintro m σ H ⟨rfl,p⟩
 refine mono σ H _ _ (fun b H1 q=>?_) (hs σ H p)
 cases b with
 | true=>exact ⟨_,fun σ' H' ⟨p',l⟩=>⟨_,l,rfl,p'⟩,q⟩
 | false=>exact q
abbrev R2:=V→V→Hp→VK→Prop
def OpR (X:Cx) (f:Value→Value→Sem Value) (r:R2):Prop :=
 ∀ (pins:List (Addr × Obj)) (s:Shared) (σ:St) (H:Hp) (x y:V) (v u:Value) (Q:VK),Inv X pins σ H s→RelV x v→RelV y u→r x y H Q →
  wpAny (model X.prog X.w) X.A (f v u) (EP X pins σ Q) X.xe s
def UnR (X:Cx) (f:Value→Sem Value) (r:V→Hp→VK→Prop):Prop :=
 ∀ (pins:List (Addr × Obj)) (s:Shared) (σ:St) (H:Hp) (x:V) (v:Value) (Q:VK),Inv X pins σ H s→RelV x v→r x H Q →
  wpAny (model X.prog X.w) X.A (f v) (EP X pins σ Q) X.xe s
def CallR (X:Cx) (f:Value) (r:List V→Hp→VK→Prop):Prop :=
 ∀ (pins:List (Addr × Obj)) (s:Shared) (σ:St) (H:Hp) (xs:List V) (us:List Value) (Q:VK),Inv X pins σ H s→Vals xs us→r xs H Q →
  wpAny (model X.prog X.w) X.A (call f us) (EP X pins σ Q) X.xe s
def Zob (X:Cx) (r:V→Hp→(Bool→Hp→Prop)→Prop):Prop :=
 ∀ (pins:List (Addr × Obj)) (s:Shared) (σ:St) (H:Hp) (x:V) (v:Value) (Q:Bool→Hp→Prop),Inv X pins σ H s→RelV x v→r x H Q →
  wpAny (model X.prog X.w) X.A (truthy v) (TP X pins σ Q) X.xe s
def tOp (r:R2) (ta tb:TE):TE:=fun σ H Q=>ta σ H fun x H1=>tb σ H1 fun y H2=>r x y H2 Q
def tUn (r:V→Hp→VK→Prop) (ta:TE):TE:=fun σ H Q=>ta σ H fun x H1=>r x H1 Q
def rI (C:Int→Int→Prop) (g:Int→Int→V):R2:=fun x y H Q=>∃ i j,x = .int i∧y = .int j∧C i j∧Q (g i j) H
def rI0 (g:Int→Int→V):R2:=fun x y H Q=>∃ i j,x = .int i∧y = .int j∧Q (g i j) H
def rU (g:Int→V):V→Hp→VK→Prop:=fun x H Q=>∃ i,x = .int i∧Q (g i) H
section
variable {X:Cx} {a b c:Expr} {ta tb tc:TE} {pos:Pos}
theorem Znr (ha:PE X a ta) (hb:PE X b tb) {pins:List (Addr × Obj)} {s:Shared} {σ:St} {H:Hp} {R:V→V→Hp→Prop} (I:Inv X pins σ H s)
  (h:ta σ H fun x H1=>tb σ H1 fun y H2=>R x y H2) {Q:Value→Shared→Prop} {f:Value→Value→Sem Value}
  (hf:∀ v u s2 x y H2,Inv X pins σ H2 s2→RelV x v→RelV y u→R x y H2→wpAny (model X.prog X.w) X.A (f v u) Q X.xe s2) :
  wpAny (model X.prog X.w) X.A (eval a X.env) (fun v s₁=>wpAny (model X.prog X.w) X.A (eval b X.env) (fun u s₂=>wpAny (model X.prog X.w) X.A (f v u) Q X.xe s₂) X.xe s₁) X.xe s:=by
 refine thn (ha pins s σ H _ I h) fun v s1 ⟨x,H1,I1,r1,q1⟩=>?_
 refine thn (hb pins s1 σ H1 _ I1 q1) fun u s2 ⟨y,H2,I2,r2,q2⟩=>?_
 exact hf v u s2 x y H2 I2 r1 r2 q2
theorem Zn {op:Operator} {r:R2} (ho:OpR X (binaryOp op) r) (ha:PE X a ta) (hb:PE X b tb):PE X (.BinOp a op b pos) (tOp r ta tb):=by
 intro pins s σ H Q I h
 exact wpAny_BinOp (Znr ha hb I h fun v u s2 x y H2 I2 rx ry q=>ho pins s2 σ H2 x y v u Q I2 rx ry q)
theorem Jh {op:UnaryOp} {r:V→Hp→VK→Prop} (ho:UnR X (unaryOp op) r) (ha:PE X a ta):PE X (.UnaryOp op a pos) (tUn r ta):=by
 intro pins s σ H Q I h
 exact UnaryOp_ (thn (ha pins s σ H _ I h) fun v s1 ⟨x,H1,I1,r1,q1⟩=>ho pins s1 σ H1 x v Q I1 r1 q1)
theorem opI {f:Value→Value→Sem Value} {C:Int→Int→Prop} {g:Int→Int→Int}
  (rule:∀ (i j:Int) (t u:Tok) (s:Shared) (Q:Value→Shared→Prop) (E:Value→Shared→Prop),C i j→Q (.int (g i j) s.toks) { s with toks:=s.toks + 1 }→wpAny (model X.prog X.w) X.A (f (.int i t) (.int j u)) Q E s) :
  OpR X f (rI C fun i j=>.int (g i j)):=by
 intro pins s σ H x y v u Q I rx ry h
 obtain ⟨i,j,rfl,rfl,hc,q⟩:=h
 obtain ⟨t,rfl⟩:=rx
 obtain ⟨t',rfl⟩:=ry
 exact rule i j t t' s _ _ hc ⟨.int (g i j),H,I.tok _,⟨_,rfl⟩,q⟩
theorem ZnE {f:Value→Value→Sem Value} {g:Int→Int→Int}
  (rule:∀ (i j:Int) (t u:Tok) (s:Shared) (Q:Value→Shared→Prop) (E:Value→Shared→Prop),Q (.int (g i j) s.toks) { s with toks:=s.toks + 1 }→wpAny (model X.prog X.w) X.A (f (.int i t) (.int j u)) Q E s) :
  OpR X f (rI0 fun i j=>.int (g i j)):=by
 intro pins s σ H x y v u Q I rx ry h
 obtain ⟨i,j,rfl,rfl,q⟩:=h
 obtain ⟨t,rfl⟩:=rx
 obtain ⟨t',rfl⟩:=ry
 exact rule i j t t' s _ _ ⟨.int (g i j),H,I.tok _,⟨_,rfl⟩,q⟩
theorem ZnF {f:Value→Value→Sem Value} {g:Int→Int→Bool}
  (rule:∀ (i j:Int) (t u:Tok) (s:Shared) (Q:Value→Shared→Prop) (E:Value→Shared→Prop),Q (.bool (g i j)) s→wpAny (model X.prog X.w) X.A (f (.int i t) (.int j u)) Q E s) :
  OpR X f (rI0 fun i j=>.bl (g i j)):=by
 intro pins s σ H x y v u Q I rx ry h
 obtain ⟨i,j,rfl,rfl,q⟩:=h
 obtain ⟨t,rfl⟩:=rx
 obtain ⟨t',rfl⟩:=ry
 exact rule i j t t' s _ _ ⟨.bl (g i j),H,I,rfl,q⟩
def Zof (i j:Int):Prop:=0 < j∧j < 1073741824
def Zoe (i j:Int):Prop:=0≤j∧j≤1000000∧i.natAbs < 2 ^ 64
def CMul (i j:Int):Prop:=(-(2 ^ 64) < i∧i < 2 ^ 64)∨(-(2 ^ 64) < j∧j < 2 ^ 64)
theorem CMul.ok {i j:Int} (h:CMul i j):IntMulOk i j:=by
 rcases h with ⟨h1,h2⟩ | ⟨h1,h2⟩
 ·exact .of_left (intBits_le_64 h1 h2)
 ·exact .of_right (intBits_le_64 h1 h2)
theorem ZY:OpR X (binaryOp .Add) (rI0 fun i j=>.int (i + j)):=ZnE fun _ _ _ _ _ _ _ q=>add_int q
theorem Jc:OpR X (binaryOp .Sub) (rI0 fun i j=>.int (i - j)):=ZnE fun _ _ _ _ _ _ _ q=>sub_int q
theorem Xe:OpR X (binaryOp .Mult) (rI CMul fun i j=>.int (i * j)):=opI fun _ _ _ _ _ _ _ hc q=>mul_int q hc.ok
theorem YW:OpR X (binaryOp .FloorDiv) (rI Zof fun i j=>.int (i / j)):=opI fun i j _ _ _ _ _ hc q=>by
 have h1:(0:Int) < j:=hc.1
 have h2:j < 1073741824:=hc.2
 exact floordiv_int (by omega) (by rw [Int.fdiv_eq_ediv_of_nonneg i (by omega)]; exact q) (.inl (PyProof.noPylong_small (by omega)))
theorem ZI:OpR X (binaryOp .Mod) (rI (fun _ j=>0 < j) fun i j=>.int (i % j)):=opI fun i j _ _ _ _ _ hc q=>by
 have h1:(0:Int) < j:=hc
 exact mod_int' (by omega) (by rw [Int.fmod_eq_emod_of_nonneg i (by omega)]; exact q)
theorem ZjA:OpR X (binaryOp .Pow) (rI Zoe fun i j=>.int (i ^ j.toNat)):=opI fun _ _ _ _ _ _ _ hc q=>pow_int_small hc.1 hc.2.1 hc.2.2 q
theorem unI {f:Value→Sem Value} {g:Int→Int}
  (rule:∀ (i:Int) (t:Tok) (s:Shared) (Q:Value→Shared→Prop) (E:Value→Shared→Prop),Q (.int (g i) s.toks) { s with toks:=s.toks + 1 }→wpAny (model X.prog X.w) X.A (f (.int i t)) Q E s) :
  UnR X f (rU fun i=>.int (g i)):=by
 intro pins s σ H x v Q I rx h
 obtain ⟨i,rfl,q⟩:=h
 obtain ⟨t,rfl⟩:=rx
 exact rule i t s _ _ ⟨.int (g i),H,I.tok _,⟨_,rfl⟩,q⟩
theorem YH:UnR X (unaryOp .USub) (rU fun i=>.int (-i)):=unI fun _ _ _ _ _ q=>neg_int q
end
def ZnA:V→V→Bool
 | .non,.non=>true | .non,.int _=>true | .int _,.non=>true | .non,.bl _=>true | .bl _,.non=>true | .non,.str _=>true | .str _,.non=>true
 | .int _,.int _=>true | .bl _,.bl _=>true | .str _,.str _=>true | .byt _,.byt _=>true
 | .int _,.str _=>true | .str _,.int _=>true | .bl _,.str _=>true | .str _,.bl _=>true
 | _,_=>false
def rEq:R2:=fun x y H Q=>ZnA x y=true∧Q (.bl (decide (x=y))) H
def rNe:R2:=fun x y H Q=>ZnA x y=true∧Q (.bl (!decide (x=y))) H
theorem Zdm {i j:Int}:decide (V.int i=V.int j)=(i == j):=by
 rw [Bool.eq_iff_iff]
 simp
theorem ZjV {i j:Bool}:decide (V.bl i=V.bl j)=(i == j):=by
 rw [Bool.eq_iff_iff]
 simp
theorem dec_str {i j:Str}:decide (V.str i=V.str j)=(i == j):=by
 rw [Bool.eq_iff_iff]
 simp
theorem Zhp {i j:Array UInt8}:decide (V.byt i=V.byt j)=(i.toList == j.toList):=by
 rw [Bool.eq_iff_iff]
 cases i
 cases j
 simp
section
variable {X:Cx} {a b c:Expr} {ta tb tc:TE} {pos:Pos}
theorem ZC {pins:List (Addr × Obj)} {σ:St} {H:Hp} {s:Shared} {Q:VK} {k k':Bool} (I:Inv X pins σ H s) (q:Q (.bl k) H) (e:k=k'):EP X pins σ Q (.bool k') s:=by
 subst e
 exact ⟨.bl k,H,I,rfl,q⟩
theorem XE:OpR X (compareOp .Eq) rEq:=by
 intro pins s σ H x y v u Q I rx ry h
 obtain ⟨hs,q⟩:=h
 cases x with
 | non =>
  cases rx
  cases y with
  | non=>cases ry; exact PySem.EqNone.eq_none_none (ZC I q (by simp))
  | bl j=>cases ry; exact PySem.EqNone.eq_none_bool (ZC I q (by simp))
  | int j=>obtain ⟨t',rfl⟩:=ry; exact PySem.EqNone.eq_none_int (ZC I q (by simp))
  | str j=>obtain ⟨t',rfl⟩:=ry; exact PySem.EqNone.eq_none_str (ZC I q (by simp))
  | _=>exact absurd (show false=true from hs) Bool.false_ne_true
 | bl i =>
  cases rx
  cases y with
  | non=>cases ry; exact PySem.EqNone.eq_bool_none (ZC I q (by simp))
  | bl j=>cases ry; exact eq_bool (ZC I q ZjV)
  | str j=>obtain ⟨t',rfl⟩:=ry; exact PySem.EqMixed.eq_bool_str (ZC I q (by simp))
  | _=>exact absurd (show false=true from hs) Bool.false_ne_true
 | int i =>
  obtain ⟨t,rfl⟩:=rx
  cases y with
  | non=>cases ry; exact PySem.EqNone.eq_int_none (ZC I q (by simp))
  | int j=>obtain ⟨t',rfl⟩:=ry; exact eq_int (ZC I q Zdm)
  | str j=>obtain ⟨t',rfl⟩:=ry; exact PySem.EqMixed.eq_int_str (ZC I q (by simp))
  | _=>exact absurd (show false=true from hs) Bool.false_ne_true
 | str i =>
  obtain ⟨t,rfl⟩:=rx
  cases y with
  | non=>cases ry; exact PySem.EqNone.eq_str_none (ZC I q (by simp))
  | bl j=>cases ry; exact PySem.EqMixed.eq_str_bool (ZC I q (by simp))
  | int j=>obtain ⟨t',rfl⟩:=ry; exact PySem.EqMixed.eq_str_int (ZC I q (by simp))
  | str j=>obtain ⟨t',rfl⟩:=ry; exact eq_str (ZC I q dec_str)
  | _=>exact absurd (show false=true from hs) Bool.false_ne_true
 | byt i =>
  obtain ⟨t,rfl⟩:=rx
  cases y with
  | byt j=>obtain ⟨t',rfl⟩:=ry; exact PySem.W.eq_bytes (ZC I q Zhp)
  | _=>exact absurd (show false=true from hs) Bool.false_ne_true
 | _=>cases y <;> exact absurd (show false=true from hs) Bool.false_ne_true
theorem Zgp:OpR X (compareOp .NotEq) rNe:=by
 intro pins s σ H x y v u Q I rx ry h
 obtain ⟨hs,q⟩:=h
 cases x with
 | non =>
  cases rx
  cases y with
  | non=>cases ry; exact PySem.EqNone.ne_none_none (ZC I q (by simp))
  | bl j=>cases ry; exact PySem.EqNone.ne_none_bool (ZC I q (by simp))
  | int j=>obtain ⟨t',rfl⟩:=ry; exact PySem.EqNone.ne_none_int (ZC I q (by simp))
  | str j=>obtain ⟨t',rfl⟩:=ry; exact PySem.EqNone.ne_none_str (ZC I q (by simp))
  | _=>exact absurd (show false=true from hs) Bool.false_ne_true
 | bl i =>
  cases rx
  cases y with
  | non=>cases ry; exact PySem.EqNone.ne_bool_none (ZC I q (by simp))
  | bl j=>cases ry; exact ne_bool (ZC I q (congrArg not ZjV))
  | str j=>obtain ⟨t',rfl⟩:=ry; exact PySem.EqMixed.ne_bool_str (ZC I q (by simp))
  | _=>exact absurd (show false=true from hs) Bool.false_ne_true
 | int i =>
  obtain ⟨t,rfl⟩:=rx
  cases y with
  | non=>cases ry; exact PySem.EqNone.ne_int_none (ZC I q (by simp))
  | int j=>obtain ⟨t',rfl⟩:=ry; exact ne_int (ZC I q (congrArg not Zdm))
  | str j=>obtain ⟨t',rfl⟩:=ry; exact PySem.EqMixed.ne_int_str (ZC I q (by simp))
  | _=>exact absurd (show false=true from hs) Bool.false_ne_true
 | str i =>
  obtain ⟨t,rfl⟩:=rx
  cases y with
  | non=>cases ry; exact PySem.EqNone.ne_str_none (ZC I q (by simp))
  | bl j=>cases ry; exact PySem.EqMixed.ne_str_bool (ZC I q (by simp))
  | int j=>obtain ⟨t',rfl⟩:=ry; exact PySem.EqMixed.ne_str_int (ZC I q (by simp))
  | str j=>obtain ⟨t',rfl⟩:=ry; exact ne_str (ZC I q (congrArg not dec_str))
  | _=>exact absurd (show false=true from hs) Bool.false_ne_true
 | byt i =>
  obtain ⟨t,rfl⟩:=rx
  cases y with
  | byt j=>obtain ⟨t',rfl⟩:=ry; exact PySem.W.ne_bytes (ZC I q (congrArg not Zhp))
  | _=>exact absurd (show false=true from hs) Bool.false_ne_true
 | _=>cases y <;> exact absurd (show false=true from hs) Bool.false_ne_true
theorem ZlX:OpR X (compareOp .Lt) (rI0 fun i j=>.bl (decide (i < j))):=ZnF fun _ _ _ _ _ _ _ q=>lt_int q
theorem ZcX:OpR X (compareOp .Gt) (rI0 fun i j=>.bl (decide (j < i))):=ZnF fun _ _ _ _ _ _ _ q=>gt_int q
theorem ZlY:OpR X (compareOp .Is) (fun x y H Q=>y = .non∧Q (.bl (decide (x = .non))) H):=by
 intro pins s σ H x y v u Q I rx ry h
 obtain ⟨rfl,q⟩:=h
 cases ry
 refine is_none_gen (ZC I q ?_)
 cases x <;> first
  | (cases rx; rfl)
  | (obtain ⟨t,rfl⟩:=rx; rfl)
theorem Zgn:OpR X (compareOp .IsNot) (fun x y H Q=>y = .non∧Q (.bl (!decide (x = .non))) H):=by
 intro pins s σ H x y v u Q I rx ry h
 obtain ⟨rfl,q⟩:=h
 cases ry
 refine isnot_none_gen (ZC I q ?_)
 cases x <;> first
  | (cases rx; rfl)
  | (obtain ⟨t,rfl⟩:=rx; rfl)
theorem Zy (b:Expr) {op:CmpOp} (h:op≠.In:=by decide) (h2:op≠.NotIn:=by decide):behindInMarks op b=false:=by
 have e1:(op == CmpOp.In)=false:=by cases op <;> first | rfl | exact absurd rfl h
 have e2:(op == CmpOp.NotIn)=false:=by cases op <;> first | rfl | exact absurd rfl h2
 cases b <;> simp [behindInMarks,e1,e2]
theorem Za2 {op:CmpOp} {r:R2} (ho:OpR X (compareOp op) r) (ha:PE X a ta) (hb:PE X b tb) (hm:behindInMarks op b=false):PE X (.Compare a [op] [b] pos) (tOp r ta tb):=by
 intro pins s σ H Q I h
 exact wpAny_Compare1 (Znr ha hb I h fun v u s2 x y H2 I2 rx ry q=>ho pins s2 σ H2 x y v u Q I2 rx ry q) hm
def Zlt (t:TE):TT:=fun σ H Q=>t σ H fun x H'=>∃ k,x = .bl k∧Q k H'
theorem Zt {op:CmpOp} {r:R2} (ho:OpR X (compareOp op) r) (ha:PE X a ta) (hb:PE X b tb) (hm:behindInMarks op b=false):PT X (.Compare a [op] [b] pos) (Zlt (tOp r ta tb)):=by
 intro pins s σ H Q I h
 refine wpAny_isTrue_Compare1 (thn (ha pins s σ H _ I h) fun v s1 ⟨x,H1,I1,r1,q1⟩=>thn (hb pins s1 σ H1 _ I1 q1) fun u s2 ⟨y,H2,I2,r2,q2⟩ =>
  thn (ho pins s2 σ H2 x y v u _ I2 r1 r2 q2) fun c s3 ⟨z,H3,I3,r3,k,e,q3⟩=>?_) hm
 subst e
 cases r3
 exact wpAny_truthy_bool ⟨H3,I3,q3⟩
def Zoa (K:PySem.W.Frag) (x:V) (H:Hp) (k:Bool):Prop :=
 match x with
 | .non=>k=false
 | .bl b=>k=b
 | .int i=>k=(i != 0)
 | .str y=>y.length≤sizeLine∧k=((y.length:Int) != 0)
 | .byt y=>y.size≤sizeLine∧k=((y.size:Int) != 0)
 | .ref p=>(∃ xs,SqL K H p xs∧k = !xs.isEmpty)∨(∃ xs,SqT K H p xs∧k = !xs.isEmpty)∨∃ kvs,H p=some (.dK kvs)∧k = !kvs.isEmpty
 | _=>False
theorem ZeS {κ:Type} {kvs:List (κ × V)} {vs:List (κ × Value)} (r:KV kvs vs):(!vs.isEmpty) = !kvs.isEmpty:=by
 cases r <;> rfl
theorem ZaD {xs:List V} {its:List Value} (r:Vals xs its):(!its.toArray.isEmpty) = !xs.isEmpty:=by
 cases r <;> simp
theorem JX:(sizeLine:Nat) < 2 ^ 63:=by rw [sizeLine_eq]; decide
theorem Znz:Zob X (fun x H Q=>∃ k,Zoa X.K x H k∧Q k H):=by
 intro pins s σ H x v Q I rx h
 obtain ⟨k,e,q⟩:=h
 have hl:=JX
 have hs:sizeLine=16777216:=sizeLine_eq
 cases x with
 | non =>
  cases rx
  have e':k=false:=e
  subst e'
  exact truthy_none ⟨H,I,q⟩
 | bl b =>
  cases rx
  have e':k=b:=e
  subst e'
  exact wpAny_truthy_bool ⟨H,I,q⟩
 | int i =>
  obtain ⟨t,rfl⟩:=rx
  have e':k=(i != 0):=e
  subst e'
  exact PySem.P.truthy_int ⟨H,I,q⟩
 | str y =>
  obtain ⟨t,rfl⟩:=rx
  obtain ⟨hy,e'⟩:y.length≤sizeLine∧k=((y.length:Int) != 0):=e
  subst e'
  exact PySem.P.truthy_str (by omega) ⟨H,I.tok _,q⟩
 | byt y =>
  obtain ⟨t,rfl⟩:=rx
  obtain ⟨hy,e'⟩:y.size≤sizeLine∧k=((y.size:Int) != 0):=e
  subst e'
  exact PySem.W.truthy_bytes (by omega) ⟨H,I.tok _,q⟩
 | ref p =>
  cases rx
  have e':(∃ xs,SqL X.K H p xs∧k = !xs.isEmpty)∨(∃ xs,SqT X.K H p xs∧k = !xs.isEmpty)∨∃ kvs,H p=some (.dK kvs)∧k = !kvs.isEmpty:=e
  rcases e' with ⟨xs,hx,e'⟩ | ⟨xs,hx,e'⟩ | ⟨kvs,hx,e'⟩
  ·subst e'
   obtain ⟨its,r,pl,hz⟩:=I.list hx
   have hlen:=r.length
   exact wpAny_truthy_list pl.isList (by simp only [List.size_toArray]; omega) ⟨H,I.tok _,by rw [ZaD r]; exact q⟩
  ·subst e'
   obtain ⟨its,r,pl,hz⟩:=I.tuple hx
   have hlen:=r.length
   exact truthy_tuple pl (by simp only [List.size_toArray]; omega) ⟨H,I.tok _,by rw [ZaD r]; exact q⟩
  ·subst e'
   obtain ⟨hz,hS,vs,r,m⟩:kvs.length≤sizeLine∧(p == sysModules)=false∧∃ vs,KV kvs vs∧s.heap.DictOf (Zp X.prog X.w) p vs:=I.hok p _ hx
   have hlen:kvs.length=vs.length:=Paired.length r
   exact wpAny_truthy_dict hS m (by omega) ⟨H,I.tok _,by rw [ZeS r]; exact q⟩
 | _=>exact (show False from e).elim
theorem Yy:OpR X (binaryOp .Add) (fun x y H Q=>∃ i j,x = .str i∧y = .str j∧i.length + j.length≤sizeLine∧Q (.str (i ++ j)) H):=by
 intro pins s σ H x y v u Q I rx ry h
 obtain ⟨i,j,rfl,rfl,hz,q⟩:=h
 obtain ⟨t,rfl⟩:=rx
 obtain ⟨t',rfl⟩:=ry
 exact add_str (fun t' tk=>⟨.str (i ++ j),H,I.tok _,⟨_,rfl⟩,q⟩) hz
theorem Xg {x:V} {us:List Value} (r:Vals [x] us):∃ u,us=[u]∧RelV x u:=by
 cases r with
 | cons r1 r2=>cases r2; exact ⟨_,rfl,r1⟩
theorem Zfa {x y:V} {us:List Value} (r:Vals [x,y] us):∃ u w',us=[u,w']∧RelV x u∧RelV y w':=by
 cases r with
 | cons r1 r2 =>
  cases r2 with
  | cons r3 r4=>cases r4; exact ⟨_,_,rfl,r1,r3⟩
theorem Zhw (hc:X.calm=true):CallR X (.builtin "max") (fun xs H Q=>∃ i j,xs=[.int i,.int j]∧Q (.int (if j > i then j else i)) H):=by
 intro pins s σ H xs us Q I r h
 obtain ⟨i,j,rfl,q⟩:=h
 obtain ⟨u,w',rfl,⟨t,rfl⟩,⟨t',rfl⟩⟩:=Zfa r
 refine max_two_ints (I.ok.hd hc) fun h' tk k=>⟨_,H,I.kept k,?_,q⟩
 by_cases hj:j > i
 ·rw [if_pos hj,if_pos hj]; exact ⟨_,rfl⟩
 ·rw [if_neg hj,if_neg hj]; exact ⟨_,rfl⟩
theorem Zcr (hc:X.calm=true):CallR X (.builtin "min") (fun xs H Q=>∃ i j,xs=[.int i,.int j]∧Q (.int (if j < i then j else i)) H):=by
 intro pins s σ H xs us Q I r h
 obtain ⟨i,j,rfl,q⟩:=h
 obtain ⟨u,w',rfl,⟨t,rfl⟩,⟨t',rfl⟩⟩:=Zfa r
 refine min_two_ints (I.ok.hd hc) fun h' tk k=>⟨_,H,I.kept k,?_,q⟩
 by_cases hj:j < i
 ·rw [if_pos hj,if_pos hj]; exact ⟨_,rfl⟩
 ·rw [if_neg hj,if_neg hj]; exact ⟨_,rfl⟩
def ZmR (K:PySem.W.Frag) (x:V) (H:Hp) (n:Nat):Prop :=
 match x with
 | .str y=>y.length≤sizeLine∧n=y.length
 | .byt y=>y.size≤sizeLine∧n=y.size
 | .ref p=>(∃ xs,SqL K H p xs∧n=xs.length)∨∃ xs,SqT K H p xs∧n=xs.length
 | _=>False
theorem Zq:CallR X (.builtin "len") (fun xs H Q=>∃ x n,xs=[x]∧ZmR X.K x H n∧Q (.int n) H):=by
 intro pins s σ H xs us Q I r h
 obtain ⟨x,n,rfl,e,q⟩:=h
 obtain ⟨u,rfl,rx⟩:=Xg r
 have hl:=JX
 have hs:sizeLine=16777216:=sizeLine_eq
 cases x with
 | str y =>
  obtain ⟨t,rfl⟩:=rx
  obtain ⟨hy,e'⟩:y.length≤sizeLine∧n=y.length:=e
  subst e'
  exact len_str (by omega) ⟨.int _,H,I.tok _,⟨_,rfl⟩,q⟩
 | byt y =>
  obtain ⟨t,rfl⟩:=rx
  obtain ⟨hy,e'⟩:y.size≤sizeLine∧n=y.size:=e
  subst e'
  exact PySem.W.len_bytes (by omega) ⟨.int _,H,I.tok _,⟨_,rfl⟩,q⟩
 | ref p =>
  cases rx
  have e':(∃ xs,SqL X.K H p xs∧n=xs.length)∨∃ xs,SqT X.K H p xs∧n=xs.length:=e
  rcases e' with ⟨xs,hx,e'⟩ | ⟨xs,hx,e'⟩
  ·subst e'
   obtain ⟨its,r',pl,hz⟩:=I.list hx
   have hlen:=r'.length
   exact Calls.call_len_list pl.isList (by simp only [List.size_toArray]; omega) ⟨.int xs.length,H,I.tok _,⟨_,by simp only [List.size_toArray]; rw [hlen]⟩,q⟩
  ·subst e'
   obtain ⟨its,r',pl,hz⟩:=I.tuple hx
   have hlen:=r'.length
   exact len_tuple pl (by simp only [List.size_toArray]; omega) ⟨.int xs.length,H,I.tok _,⟨_,by simp only [List.size_toArray]; rw [hlen]⟩,q⟩
 | _=>exact (show False from e).elim
end
structure ObjM (h:Heap) (x dx C:Addr) (mA:Str→Option Value):Prop where
 obj:h.get? x=some (PySem.W.instObj C dx)
 ns:h.Ns1 dx mA
 ne:dx≠x
theorem ZgK {h:Heap} {dx:Addr} {mA:Str→Option Value} (n:h.Ns1 dx mA):∃ od,h.get? dx=some od∧∀ name,PySem.W.lookIn name od=some (mA name):=by
 obtain ⟨o,es,ep,ho,hd,hk,_,hm⟩:=n
 refine ⟨o,ho,fun name=>?_⟩
 have e:=hm name
 unfold nsFind findBy at e
 rw [← Array.find?_toList] at e
 unfold PySem.W.lookIn
 rw [hd]
 dsimp only
 split
 ·rename_i y q
  rw [q] at e
  exact congrArg some e
 ·rename_i q
  rw [q] at e
  have a:es.toList.any (·.refKey)=false:=by
   rw [List.any_eq_false]
   intro y hy
   obtain ⟨z,t,hkey⟩:=hk y (Array.mem_toList_iff.mp hy)
   simp [DictEntry.refKey,hkey]
  have a':¬ es.toList.any (·.refKey)=true:=by rw [a]; exact Bool.false_ne_true
  rw [if_neg a']
  exact congrArg some e
theorem ObjM.look {h:Heap} {x dx C:Addr} {mA:Str→Option Value} (I:ObjM h x dx C mA):∃ od,PySem.W.InstAt h x (PySem.W.instObj C dx) C (some od)∧∀ name,PySem.W.lookIn name od=some (mA name) :=
 let ⟨od,ho,hl⟩:=ZgK I.ns
 ⟨od,⟨I.obj,rfl,rfl,ho⟩,hl⟩
section
variable {prog:Program} {w:World} {A:Around} {E:Value→Shared→Prop} {s:Shared} {K:PySem.W.Frag} {x dx C f:Addr} {mA:Str→Option Value} {name:Str} {v:Value}
end
theorem RelO.some_of {v:V} {o:Option Value} (r:RelO (some v) o):∃ u,o=some u∧RelV v u:=by
 cases o with
 | none=>exact (show False from r).elim
 | some u=>exact ⟨u,rfl,r⟩
section
variable {P:Program} {w:World} {H H':Hp} {h h':Heap} {a C dx:Addr} {fs fs':List (Str × V)}
theorem Zk4 (hok:HOk P w H h) (e:H a=some (.ins C dx fs)):∃ mA,ObjM h a dx C mA∧(∀ f,RelO (fs.lookup f) (mA f))∧PySem.Within mA (fs.map (·.1))∧fs.length≤1000∧H dx=some (.own a):=by
 obtain ⟨d,z,ne,ob,mA,n,r,q⟩:=(show ObjOk P w H h a (.ins C dx fs) from hok a _ e)
 exact ⟨mA,⟨ob,n,ne⟩,r,q,z,d⟩
end
structure Cls (K:PySem.W.Frag) (C:Addr):Prop where
 pg:PySem.W.plainGet K C Str.empty=true
 hd:PySem.W.hasDictIn K C=true
 po:PySem.W.plainOver K C=true
 sa:PySem.W.findIn K (.ref C) "__setattr__" = some (some (.builtin "object.__setattr__"))
theorem Cls.get {K:PySem.W.Frag} {C:Addr} (c:Cls K C) (f:Str):PySem.W.plainGet K C f=true:=c.pg
section
variable {X:Cx} {pins:List (Addr × Obj)} {σ:St} {H:Hp} {s:Shared} {a C dx:Addr} {fs:List (Str × V)} {f:Str} {v:V} {A:Around} {E:Value→Shared→Prop}
end
section
variable {X:Cx} {o e value:Expr} {f:Str} {pos pos' tpos:Pos} {ta tv:TE}
end
section
variable {X:Cx} {pins:List (Addr × Obj)} {σ:St} {H:Hp} {s:Shared} {A:Around} {E:Value→Shared→Prop} {Q:Value→Shared→Prop} {c:Value} {b:Bool}
inductive Zex (K:PySem.W.Frag) (H:Hp):V→Value→Prop where
 | non:Zex K H .non (.type "NoneType")
 | bl (x:Bool):Zex K H (.bl x) (.type "bool")
 | int (i:Int):Zex K H (.int i) (.type "int")
 | str (x:Str):Zex K H (.str x) (.type "str")
 | flt (x:UInt64):Zex K H (.flt x) (.type "float")
 | lst {a:Addr} {xs:List V} (e:H a=some (.lst xs)):Zex K H (.ref a) (.type "list")
 | frz {a:Addr} {o:Obj} {xs:List V} (e:H a=some (.frz o (.lst xs))):Zex K H (.ref a) (.type "list")
 | tup {a:Addr} {xs:List V} (e:H a=some (.tup xs)):Zex K H (.ref a) (.type "tuple")
 | dK {a:Addr} {kvs:List (Key × V)} (e:H a=some (.dK kvs)):Zex K H (.ref a) (.type "dict")
 | dT {a:Addr} {kvs:List (List Key × V)} (e:H a=some (.dT kvs)):Zex K H (.ref a) (.type "dict")
 | ins {a C dx:Addr} {fs:List (Str × V)} (e:H a=some (.ins C dx fs)) (cl:Cls K C) (ha:PySem.W.findIn K (.ref C) "__class__" = some (some (.builtin "object.__class__")))
   (hn:PySem.W.specialIn K (.builtin "object.__class__") "__get__" = some (some (.builtin "getset_descriptor.__get__"))) (htk:PySem.W.takesIn K (.builtin "object.__class__")=some true)
   (hm:PySem.W.mroIn K C (.type "object")=some true):Zex K H (.ref a) (.ref C)
theorem ZgW {x:V} {u t:Value} (I:Inv X pins σ H s) (rx:RelV x u) (ty:Zex X.K H x t) (e:PySem.W.kitOne X.K t c=some b) (h:∀ tk,Q (.bool b) { s with toks:=tk }) :
  wpAny (model X.prog X.w) A (call (.builtin "isinstance") [u,c]) Q E s:=by
 cases ty with
 | non=>cases (show u=Value.none from rx); exact PySem.W.kia_one PySem.W.kitx_none I.kIn True.intro e (fun z=>nomatch z) h
 | bl y=>cases (show u=Value.bool y from rx); exact PySem.W.kia_one PySem.W.kitx_bool I.kIn True.intro e (fun z=>nomatch z) h
 | int i=>obtain ⟨t,q⟩:=(show ∃ t,u=Value.int i t from rx); cases q; exact PySem.W.kia_one PySem.W.kitx_int I.kIn True.intro e (fun z=>nomatch z) h
 | str y=>obtain ⟨t,q⟩:=(show ∃ t,u=Value.str y t from rx); cases q; exact PySem.W.kia_one PySem.W.kitx_str I.kIn True.intro e (fun z=>nomatch z) h
 | flt y=>obtain ⟨t,q⟩:=(show ∃ t,u=Value.float y t from rx); cases q; exact PySem.W.kia_one PySem.W.kitx_float I.kIn True.intro e (fun z=>nomatch z) h
 | @lst a xs ea =>
  cases (show u=Value.ref a from rx)
  obtain ⟨_,_,n,_,h1⟩:=(show ObjOk X.prog X.w H s.heap a (.lst xs) from I.hok a _ ea)
  exact PySem.W.kia_one PySem.W.kitx_list I.kIn ⟨_,h1,rfl⟩ e (fun z=>nomatch z) h
 | @frz a ob xs ea =>
  cases (show u=Value.ref a from rx)
  obtain ⟨_,_,_,n,_,h1⟩:=(show ObjOk X.prog X.w H s.heap a (.frz ob (.lst xs)) from I.hok a _ ea)
  exact PySem.W.kia_one PySem.W.kitx_list I.kIn ⟨_,h1,rfl⟩ e (fun z=>nomatch z) h
 | @tup a xs ea =>
  cases (show u=Value.ref a from rx)
  obtain ⟨_,_,_,p,_⟩:=(show ObjOk X.prog X.w H s.heap a (.tup xs) from I.hok a _ ea)
  obtain ⟨o,h1,h2,_⟩:=p
  exact PySem.W.kia_one PySem.W.kitx_tuple I.kIn ⟨o,h1,h2⟩ e (fun z=>nomatch z) h
 | @dK a kvs ea =>
  cases (show u=Value.ref a from rx)
  obtain ⟨_,_,vs,_,p⟩:=(show ObjOk X.prog X.w H s.heap a (.dK kvs) from I.hok a _ ea)
  obtain ⟨o,es,ep,h1,h2,_⟩:=p
  exact PySem.W.kia_one PySem.W.kitx_dict I.kIn ⟨o,h1,h2.1⟩ e (fun z=>nomatch z) h
 | @dT a kvs ea =>
  cases (show u=Value.ref a from rx)
  obtain ⟨_,_,xs,_,o,es,ep,h1,h2,_⟩:=(show ObjOk X.prog X.w H s.heap a (.dT kvs) from I.hok a _ ea)
  exact PySem.W.kia_one PySem.W.kitx_dict I.kIn ⟨o,h1,h2.1⟩ e (fun z=>nomatch z) h
 | @ins a C dx fs ea cl ha hn htk hm =>
  cases (show u=Value.ref a from rx)
  obtain ⟨mA,O,_⟩:=Zk4 I.hok ea
  obtain ⟨od,J,_⟩:=O.look
  exact PySem.W.kia_one (PySem.W.kitx_own (cl.get _) cl.hd ha hn htk hm) I.kIn J e (fun z=>nomatch z) h
end
structure Room (k:Nat) (A:Around):Prop where
 hd:A.handled=none
 dp:A.depth + 3 * k + 5 < recursionLimit
 un:A.units + 16 * k + 200 < cLine
theorem Room.mono {j k:Nat} {A:Around} (r:Room k A) (h:j≤k):Room j A:=⟨r.hd,by have:=r.dp; omega,by have:=r.un; omega⟩
theorem Room.deeper {k:Nat} {A:Around} (r:Room (k + 1) A) (env:Env):Room k (A.deeper env) :=
 ⟨r.hd,by have:=r.dp; show A.depth + 1 + 3 * k + 5 < _; omega,by have:=r.un; show A.units + 3 + 16 * k + 200 < _; omega⟩
theorem Room.depth {k:Nat} {A:Around} (r:Room k A):A.depth < recursionLimit:=by have:=r.dp; omega
theorem Room.units {k:Nat} {A:Around} (r:Room k A):A.units + 64 < cLine:=by have:=r.un; omega
def ZnP:TA:=fun _ H Q=>Q [] H
def Zm4 (ta:TE) (tr:TA):TA:=fun σ H Q=>ta σ H fun x H1=>tr σ H1 fun xs H2=>Q (x :: xs) H2
section
variable {X:Cx} {e:Expr} {es:List Expr} {te:TE} {t:TA} {pos:Pos}
theorem Ze:PA X [] ZnP:=fun _ _ _ _ H Q I h=>Calls.spliced_nil ⟨[],H,I,.nil,h⟩
theorem Za (ha:PE X e te) (hr:PA X es t) (hs:starEach (e :: es) X.env=(false,eval e X.env) :: starEach es X.env:=by rfl):PA X (e :: es) (Zm4 te t):=by
 intro pos pins s σ H Q I h
 rw [hs]
 show wpAny _ _ (spliced ((false,eval e X.env) :: backTo pos (starEach es X.env))) _ _ s
 refine Calls.spliced_cons (thn (ha pins s σ H _ I h) fun u s1 ⟨x,H1,I1,r1,q1⟩=>?_)
 exact thn (hr pos pins s1 σ H1 _ I1 q1) fun us s2 ⟨xs,H2,I2,r2,q2⟩=>⟨x :: xs,H2,I2,.cons r1 r2,q2⟩
def ZnM (t:TA):TE:=fun σ H Q=>t σ H fun xs H1=>xs.length≤sizeLine∧∀ p,H1 p=none→Q (.ref p) (upd H1 p (.tup xs))
def ZnQ (t:TA):TE:=fun σ H Q=>t σ H fun xs H1=>xs.length≤sizeLine∧∀ p,H1 p=none→Q (.ref p) (upd H1 p (.lst xs))
theorem Zav {x1} (h:PA X es t):PE X (.Tuple es x1 pos) (ZnM t):=by
 intro pins s σ H Q I hq
 refine wpAny_Tuple_spliced (thn (h pos pins s σ H _ I hq) fun us s1 ⟨xs,H1,I1,r,z,q⟩=>⟨by rw [← r.length]; exact z,?_⟩)
 have hf:H1 s1.heap.objs.size=none:=I1.hok.fresh (Nat.le_refl _)
 refine ⟨.ref s1.heap.objs.size,upd H1 s1.heap.objs.size (.tup xs),I1.laid (t':=s1.toks) (fun b u e=>Heap.get?_push_of_some _ e) (Nat.le_refl _) ?_,rfl,q _ hf⟩
 exact ⟨z,us,r,⟨_,Heap.get?_push_size _ rfl,rfl,_,rfl⟩,Zd3 rfl rfl⟩
theorem Yn (h:PA X es t):PE X (.List es pos) (ZnQ t):=by
 intro pins s σ H Q I hq
 refine wpAny_List_spliced (thn (h pos pins s σ H _ I hq) fun us s1 ⟨xs,H1,I1,r,z,q⟩=>⟨by rw [← r.length]; exact z,?_⟩)
 have hf:H1 s1.heap.objs.size=none:=I1.hok.fresh (Nat.le_refl _)
 refine ⟨.ref s1.heap.objs.size,upd H1 s1.heap.objs.size (.lst xs),I1.laid (t':=s1.toks) (fun b u e=>Heap.get?_push_of_some _ e) (Nat.le_refl _) ?_,rfl,q _ hf⟩
 exact ⟨z,us,0,r,Heap.get?_push_size _ rfl⟩
end
abbrev Sp:=List V→Hp→VK→XK→Prop
abbrev CXT:=List Env→Hp→Shared→XK→Value→Shared→Prop
structure ZmS (P:Program) (w:World) (K:PySem.W.Frag) (mg:Str→Option Value) (base:Heap) (A:Around) (outer:List Env) (s:Shared) (H:Hp):Prop where
 frames:A.frames=some outer
 mod:Mod K mg base
 bs:∀ b o,base.get? b=some o→s.heap.get? b=some o∧H b=none
 bsz:base.objs.size≤s.heap.objs.size
 funs:s.heap.FunFrames base outer
 frf:∀ b∈frs outer,H b=none
 hok:HOk P w H s.heap
 bare:AllBare s.gens
def CE (outer:List Env) (P:Program) (w:World) (H:Hp) (s:Shared) (Q:VK) (u:Value) (s':Shared):Prop :=
 ∃ v H',s'.os=s.os∧AllBare s'.gens∧Un (frs outer) [] H H' s.heap s'.heap∧HOk P w H' s'.heap∧RelV v u∧Q v H'
def CR (CX:CXT) (outer:List Env) (P:Program) (w:World) (H:Hp) (s:Shared) (Q:VK) (E:XK) (r:Result) (s':Shared):Prop :=
 match r with
 | .ok (.ret u)=>CE outer P w H s Q u s'
 | .ok _=>False
 | .error e=>CX outer H s E e s'
structure FnOk (P:Program) (w:World) (K:PySem.W.Frag) (mg:Str→Option Value) (base:Heap) (CX:CXT) (k:Nat) (f:Addr) (fd:FuncData) (ps:List Str) (sp:Sp):Prop where
 len:∀ vs H Q E,sp vs H Q E→vs.length=ps.length
 run:∀ (A:Around) (outer:List Env) (s:Shared) (H:Hp) (args:Args) (us:List Value) (vs:List V) (Q:VK) (E:XK),Room k A→ZmS P w K mg base A outer s H→BindsTo s fd args (ps.zip us)→Vals vs us→sp vs H Q E →
  codeAny (model P w) A (.call (.ref f) args) (CR CX outer P w H s Q E) s
theorem FnOk.mono {P:Program} {w:World} {K:PySem.W.Frag} {mg:Str→Option Value} {base:Heap} {CX:CXT} {j k:Nat} {f:Addr} {fd:FuncData} {ps:List Str} {sp:Sp} (F:FnOk P w K mg base CX j f fd ps sp) (h:j≤k) :
  FnOk P w K mg base CX k f fd ps sp:=⟨F.len,fun A outer s H args us vs Q E hr=>F.run A outer s H args us vs Q E (hr.mono h)⟩
section
variable {X:Cx} {pins:List (Addr × Obj)} {σ:St} {H:Hp} {s s':Shared}
theorem Inv.env0 (I:Inv X pins σ H s):ZmS X.prog X.w X.K X.mg X.base X.A X.stack s H :=
 ⟨I.ok.frames,I.ok.mod,I.bs,Nat.le_trans I.ok.bsz I.sz,I.stack,I.stkFree,I.hok,I.bare⟩
theorem Inv.after {Q:VK} {u:Value} (I:Inv X pins σ H s) (h:CE X.stack X.prog X.w H s Q u s'):EP X pins σ Q u s':=by
 obtain ⟨v,H',os,bare,un,hok,r,q⟩:=h
 obtain ⟨hh,g,d,t,os'⟩:=s'
 obtain rfl:os'=s.os:=os
 exact ⟨v,H',I.call (h':=hh) (g':=g) (d':=d) (t':=t) (ch:=[]) un hok bare (fun b z=>absurd z (by simp)),r,q⟩
end
def Zlz (sp:Sp) (dvs:List V) (E:XK) (t:TA):TE:=fun σ H Q=>t σ H fun vs H1=>sp (vs ++ dvs) H1 Q E
def Binds (K:PySem.W.Frag) (fd:FuncData) (ps:List Str) (ds:List Value):Prop :=
 ∀ (s:Shared) (us:List Value),K.In s.heap→(us ++ ds).length=ps.length→BindsTo s fd ⟨us,[]⟩ (ps.zip (us ++ ds))
theorem Binds.all {K:PySem.W.Frag} {fd:FuncData} {ps:List Str} (h:∀ us:List Value,us.length=ps.length→bindArgs fd ⟨us,[]⟩=pure (ps.zip us)):Binds K fd ps []:=fun s us _ hl=>by
 rw [List.append_nil] at hl ⊢
 exact .of_eq (h us hl)
def ZhD (CX:CXT) (X:Cx) (E:XK):Prop:=∀ (pins:List (Addr × Obj)) (σ:St) (H:Hp) (s:Shared) (e:Value) (s':Shared),Inv X pins σ H s→CX X.stack H s E e s'→X.xe e s'
section
variable {X:Cx} {CX:CXT} {k:Nat} {f C:Addr} {fd:FuncData} {ps:List Str} {sp:Sp} {dvs:List V} {ds:List Value} {E:XK} {x m:Str} {p pos apos:Pos} {e o:Expr} {es:List Expr} {ta:TE} {t:TA}
theorem ZlE {pins:List (Addr × Obj)} {σ:St} {H:Hp} {s:Shared} {Q:VK} {us:List Value} {vs:List V} (F:FnOk X.prog X.w X.K X.mg X.base CX k f fd ps sp) (hr:Room k X.A) (hb:Binds X.K fd ps ds) (hd:Vals dvs ds) (hx:ZhD CX X E)
  (I:Inv X pins σ H s) (r:Vals vs us) (h:sp (vs ++ dvs) H Q E):wpAny (model X.prog X.w) X.A (call (.ref f) us) (EP X pins σ Q) X.xe s:=by
 have r2:Vals (vs ++ dvs) (us ++ ds):=r.append hd
 have hl:(us ++ ds).length=ps.length:=by rw [← r2.length]; exact F.len _ _ _ _ h
 refine wpAny_call (codeAny_mono (F.run X.A X.stack s H ⟨us,[]⟩ (us ++ ds) (vs ++ dvs) Q E hr I.env0 (hb s us I.kIn hl) r2 h) fun r s' hq=>?_)
 cases r with
 | error e=>exact hx pins σ H s e s' I hq
 | ok fl =>
  cases fl with
  | ret u=>exact I.after hq
  | next=>exact False.elim hq
  | brk=>exact False.elim hq
  | cont=>exact False.elim hq
theorem Zkz (F:FnOk X.prog X.w X.K X.mg X.base CX k f fd ps sp) (hr:Room k X.A) (hg:Gl X x) (hm:X.mg x=some (.ref f)) (hk:PySem.W.keepIn X.K (.ref f)=true) (hb:Binds X.K fd ps ds) (hd:Vals dvs ds) (hx:ZhD CX X E)
  (ha:PA X (e :: es) t) (hdb:(x == ("__debug__" : Str))=false:=by decide) (he:starEach (e :: es) X.env=(false,eval e X.env) :: starEach es X.env:=by rfl) (hpl:(backTo pos (starEach es X.env)).any (·.1)=false:=by rfl) :
  PE X (.Call (.Name x p) (e :: es) [] pos) (Zlz sp dvs E t):=by
 intro pins s σ H Q I h
 refine wpAny_Call_Name_kw (ZkR I hg hm ?_ hdb)
 refine PySem.W.callWith_K (h₀:=X.base) I.ok.mod.kin hk (thn (ha pos pins s σ H _ I h) fun us s1 ⟨vs,H1,I1,r,q⟩=>⟨I1.kIn,?_⟩) he hpl
 exact ZlE F hr hb hd hx I1 r q
end
section
variable {X:Cx} {CX:CXT} {k:Nat} {f C:Addr} {fd:FuncData} {ps ks:List Str} {sp:Sp} {E:XK} {x m:Str} {p pos apos kpos:Pos} {e o:Expr} {es:List Expr} {kws:List Keyword} {te ta:TE} {t tk:TA} {nm:Option Str}
variable {g:List Value→List Value→List Value} {gV:List V→List V→List V}
end
structure Zo (N P:List Str) (sc:Scope):Prop where
 kind:sc.kind = .function
 co:sc.isCoroutine=false
 gen:sc.isGenerator=false
 nd:N.Nodup
 pre:N.take P.length=P
 par:∀ x∈P,sc.names.lookup x=some .local∨sc.names.lookup x=some .cell
 nofree:∀ y∈sc.names,y.2≠.free
theorem Zct {kindOf:Str→Option NameKind} {x:Str}:∀ {binds:List (Str × Value)} {m:Str→Option Value},(∀ v,(x,v)∉binds)→bindL kindOf binds m x=m x
 | [],_,_=>rfl
 | (n,v) :: r,m,h=>by
  unfold bindL
  rw [Zct fun w hw=>h w (List.mem_cons_of_mem _ hw)]
  split
  ·have:x≠n:=by rintro rfl; exact h v List.mem_cons_self
   simp [this]
  ·rfl
theorem Zcv {kindOf:Str→Option NameKind} {x:Str}:∀ {binds:List (Str × Value)} {m:Str→Option Value},(∀ v,(x,v)∉binds)→bindC kindOf binds m x=m x
 | [],_,_=>rfl
 | (n,v) :: r,m,h=>by
  unfold bindC
  rw [Zcv fun w hw=>h w (List.mem_cons_of_mem _ hw)]
  split
  ·rfl
  ·have:x≠n:=by rintro rfl; exact h v List.mem_cons_self
   simp [this]
theorem Zcu {kindOf:Str→Option NameKind} {x:Str} {v:Value}:∀ {P:List Str} {vs:List Value} {i:Nat} {m:Str→Option Value},P.Nodup→P[i]?=some x→vs[i]?=some v→kindOf x=some .local →
  bindL kindOf (P.zip vs) m x=some v
 | [],_,_,_,_,h,_,_=>by simp at h
 | _ :: _,[],_,_,_,_,h,_=>by simp at h
 | p :: P,w :: vs,0,m,nd,h1,h2,hk=>by
  simp at h1 h2; subst h1; subst h2
  show bindL kindOf ((p,w) :: P.zip vs) m p=_
  unfold bindL
  rw [Zct fun v hv=>(List.nodup_cons.mp nd).1 (List.of_mem_zip hv).1,if_pos hk]
  simp
 | p :: P,w :: vs,i + 1,m,nd,h1,h2,hk=>by
  show bindL kindOf ((p,w) :: P.zip vs) m x=_
  unfold bindL
  exact Zcu (i:=i) (List.nodup_cons.mp nd).2 (by simpa using h1) (by simpa using h2) hk
theorem Zcw {kindOf:Str→Option NameKind} {x:Str} {v:Value}:∀ {P:List Str} {vs:List Value} {i:Nat} {m:Str→Option Value},P.Nodup→P[i]?=some x→vs[i]?=some v→kindOf x≠some .local →
  bindC kindOf (P.zip vs) m x=some v
 | [],_,_,_,_,h,_,_=>by simp at h
 | _ :: _,[],_,_,_,_,h,_=>by simp at h
 | p :: P,w :: vs,0,m,nd,h1,h2,hk=>by
  simp at h1 h2; subst h1; subst h2
  show bindC kindOf ((p,w) :: P.zip vs) m p=_
  unfold bindC
  rw [Zcv fun v hv=>(List.nodup_cons.mp nd).1 (List.of_mem_zip hv).1,if_neg hk]
  simp
 | p :: P,w :: vs,i + 1,m,nd,h1,h2,hk=>by
  show bindC kindOf ((p,w) :: P.zip vs) m x=_
  unfold bindC
  exact Zcw (i:=i) (List.nodup_cons.mp nd).2 (by simpa using h1) (by simpa using h2) hk
def ZaL (N:List Str) (vs:List V):St:=vs.map some ++ List.replicate (N.length - vs.length) none
def Zlg (CX:CXT) (P:Program) (w:World) (K:PySem.W.Frag) (mg:Str→Option Value) (base:Heap) (N:List Str) (qual:Str) (scope:Scope) (f:Addr) (cd:Value) (A:Around) (outer:List Env) (s:Shared) (H:Hp) (E:XK):Cx where
 prog:=P
 w:=w
 K:=K
 mg:=mg
 base:=base
 A:=A.deeper (envOfC qual scope s.heap.objs.size f cd)
 N:=N
 s₀:=s
 H₀:=H
 env:=envOfC qual scope s.heap.objs.size f cd
 outer:=outer
 stack:=envOfC qual scope s.heap.objs.size f cd :: outer
 ex:=[]
 calm:=true
 fn:=fun _=>true
 pn:=[]
 xe:=fun e s'=>wpAny (model P w) (A.deeper (envOfC qual scope s.heap.objs.size f cd)) (leaving (envOfC qual scope s.heap.objs.size f cd) e) (fun _ s''=>CX outer H s E e s'') (fun e' s''=>CX outer H s E e' s'') s'
theorem Zet {sc:Scope} {n:Nat} {x:Str} (h:sc.names.lookup x=some .cell):∃ c,(cellsFrom n sc.names []).lookup x=some c:=by
 have q:=PySem.W.cellsFrom_some sc.names n [] (.inl h)
 exact Option.isSome_iff_exists.mp q
theorem ZgZ {CX:CXT} {P:Program} {w:World} {K:PySem.W.Frag} {mg:Str→Option Value} {base:Heap} {N ps:List Str} {qual:Str} {scope:Scope} {f:Addr} {cd:Value} {A:Around} {outer:List Env} {s s1:Shared} {H:Hp} {E:XK} {us:List Value} {vs:List V}
  (S:Zo N ps scope) (hd:A.handled=none) (e0:ZmS P w K mg base A outer s H) (hl:vs.length=ps.length) (r:Vals vs us)
  (x:InCallC s s.heap.objs.size (bindL (envOfC qual scope s.heap.objs.size f cd).kindOf (ps.zip us) fun _=>none) (cellsFrom (s.heap.objs.size + 1) scope.names []) (bindC (envOfC qual scope s.heap.objs.size f cd).kindOf (ps.zip us) fun _=>none) s1) :
  Inv (Zlg CX P w K mg base N qual scope f cd A outer s H E) [] (ZaL N vs) H s1:=by
 have hpl:ps.length≤N.length:=by have:=congrArg List.length S.pre; rw [List.length_take] at this; omega
 obtain ⟨h1,tk,rfl,hk⟩:=x.done
 have noA:∀ b:Addr,b∉(Zlg CX P w K mg base N qual scope f cd A outer s H E).ex:=fun b z=>absurd (show b∈([]:List Addr) from z) (by simp)
 refine ⟨⟨e0.mod,S.kind,rfl,rfl,Nat.le_refl _,fun y z c h1 h2=>?_,fun y hy=>?_,fun y c _ h=>?_,fun _=>hd,Around.frames_deeper e0.frames,.inr ⟨rfl,rfl⟩,fun b z=>absurd z (noA b),e0.bs,e0.bsz,fun b _ _=>noA b,fun b z=>absurd z (noA b),e0.funs,e0.frf⟩,
  rfl,e0.bare,Un.kept hk,⟨_,x.toInCall.ns,fun i y v h1 h2 h3=>?_⟩,fun y c h=>⟨_,x.cell y c h⟩,e0.hok.fresh (Nat.le_refl _),fun y c h=>?_,fun p hp=>absurd (show p∈([]:List (Addr × Obj)) from hp) (by simp),e0.hok.kept hk,?_⟩
 ·exact name_of_addr x.apart (PySem.mem_of_lookup h1) (PySem.mem_of_lookup h2)
 ·have hy:scope.names.lookup y=some .cell∨scope.names.lookup y=some .free:=hy
  rcases hy with hy | hy
  ·exact Zet hy
  ·exact absurd rfl (S.nofree _ (PySem.mem_of_lookup hy))
 ·exact Nat.le_of_lt (x.above y c (PySem.mem_of_lookup h))
 ·have hi:i < vs.length:=by
   unfold ZaL at h2
   by_cases hi:i < vs.length
   ·exact hi
   ·rw [List.getElem?_append_right (by simpa using hi)] at h2
    rw [List.getElem?_replicate] at h2
    split at h2 <;> cases h2
  have ha:vs[i]?=some v:=by
   unfold ZaL at h2
   rw [List.getElem?_append_left (by simpa using hi),List.getElem?_map] at h2
   cases e:vs[i]? with
   | none=>rw [e] at h2; cases h2
   | some a=>rw [e] at h2; cases h2; rfl
  obtain ⟨u,hu,rv⟩:=r.get ha
  have hp:ps[i]?=some y:=by
   rw [← S.pre,List.getElem?_take_of_lt (by omega)]; exact h1
  have ndP:ps.Nodup:=by rw [← S.pre]; exact S.nd.sublist (List.take_sublist _ _)
  refine ⟨u,rv,?_⟩
  rcases S.par y (List.mem_of_getElem? hp) with k | k
  ·exact .inl ⟨k,Zcu ndP hp hu k⟩
  ·obtain ⟨c,e⟩:=Zet (n:=s.heap.objs.size + 1) k
   refine .inr ⟨.inl k,c,e,?_⟩
   have q:=x.cell y c e
   rw [Zcw ndP hp hu (by show scope.names.lookup y≠_; rw [k]; decide)] at q
   exact q
 ·exact e0.hok.fresh (Nat.le_of_lt (x.above y c (PySem.mem_of_lookup h)))
 ·unfold ZaL
  show _=N.length
  rw [List.length_append,List.length_map,List.length_replicate]
  omega
theorem Zno {CX:CXT} {P:Program} {w:World} {K:PySem.W.Frag} {mg:Str→Option Value} {base:Heap} {k:Nat} {f:Addr} {name qual:Str} {params:Arguments} {body:List Stmt} {scope:Scope} {dV kV doc pm cdv ct oc:Value} {an od:Option Addr}
  {osl:Array (Option Value)} {N ps:List Str} {sp:Sp} (lk:K.lookup f=some ⟨oc,od,.func (PySem.W.fnOf name qual params body scope dV kV doc pm an cdv ct),osl⟩) (hcd:PySem.W.codeIn K cdv qual=true) (S:Zo N ps scope)
  (len:∀ vs H Q E,sp vs H Q E→vs.length=ps.length)
  (hbody:∀ (A:Around) (outer:List Env) (s:Shared) (H:Hp) (vs:List V) (Q:VK) (E:XK),Room k (A.deeper (envOfC qual scope s.heap.objs.size f cdv))→sp vs H Q E →
   ∃ t,PSs (Zlg CX P w K mg base N qual scope f cdv A outer s H E) body t∧t { nx:=fun _ H'=>Q .non H',rt:=Q } (ZaL N vs) H) :
  FnOk P w K mg base CX (k + 1) f (PySem.W.fnOf name qual params body scope dV kV doc pm an cdv ct) ps sp:=by
 refine ⟨len,fun A outer s H args us vs Q E hr e0 hb r hsp=>?_⟩
 have hl:=len _ _ _ _ hsp
 have KX:K.In s.heap:=e0.mod.kin.keeps fun b o e=>(e0.bs b o e).1
 have lim:s.heap.NoLimit:=e0.mod.nolimit.keeps fun b o e=>(e0.bs b o e).1
 have hkind:∀ y∈ps.zip us,scope.names.lookup y.1=some .local∨(scope.names.lookup y.1=some .cell∧((cellsFrom (s.heap.objs.size + 1) scope.names []).lookup y.1).isSome=true):=fun ⟨n,v⟩ hy=>by
  rcases S.par n (List.of_mem_zip hy).1 with q | q
  ·exact .inl q
  ·exact .inr ⟨q,PySem.W.cellsFrom_some _ _ _ (.inl q)⟩
 refine codeAny_call_function hr.depth (KX _ _ lk) rfl S.co S.gen rfl (PySem.W.codeRec_of KX hcd) (hb _ _ _ _ ?_)
 refine wpAny_newFunctionEnv_cells S.kind hkind fun env he s1 x=>?_
 subst he
 refine ⟨lim.keeps x.toInCall.keep,codeAny_func ?_⟩
 obtain ⟨t,ht,hq⟩:=hbody A outer s H vs Q E (hr.deeper _) hsp
 have I:Inv (Zlg CX P w K mg base N qual scope f cdv A outer s H E) [] (ZaL N vs) H s1:=ZgZ S hr.hd e0 hl r x
 refine wpAny_mono (ht [] s1 (ZaL N vs) H _ I hq) (fun fl s' hs=>?_) fun e s' hs=>hs
 have fin:∀ {σ':St} {H':Hp} {v:V} {u:Value},Inv (Zlg CX P w K mg base N qual scope f cdv A outer s H E) [] σ' H' s'→RelV v u→Q v H'→CE outer P w H s Q u s' :=
  fun {σ' H' v u} J rv q=>⟨v,H',J.os,J.bare,J.base,J.hok,rv,q⟩
 cases fl with
 | ret u =>
  obtain ⟨v,σ',H',J,rv,q⟩:=hs
  exact fin J rv q
 | next =>
  obtain ⟨σ',H',J,q⟩:=hs
  exact fin (v:=V.non) (u:=Value.none) J rfl q
 | brk =>
  obtain ⟨_,_,_,q⟩:=hs
  exact False.elim q
 | cont =>
  obtain ⟨_,_,_,q⟩:=hs
  exact False.elim q
section
variable {X:Cx} {x:Str} {p pos:Pos} {e:Expr} {es:List Expr} {t:TA} {id T:String} {r:List V→Hp→VK→Prop}
def tCB (r:List V→Hp→VK→Prop) (t:TA):TE:=fun σ H Q=>t σ H fun vs H1=>r vs H1 Q
theorem Zk (hc:CallR X (.builtin id) r) (hg:Gl X x) (hm:X.mg x=none) (hv:bootBuiltins x=some (.builtin id)) (ha:PA X (e :: es) t) (hn:x≠"__name__":=by decide) (hdb:(x == ("__debug__" : Str))=false:=by decide)
  (he:starEach (e :: es) X.env=(false,eval e X.env) :: starEach es X.env:=by rfl) (hpl:(backTo pos (starEach es X.env)).any (·.1)=false:=by rfl):PE X (.Call (.Name x p) (e :: es) [] pos) (tCB r t):=by
 intro pins s σ H Q I h
 refine wpAny_Call_Name_kw (XH I hg hm hv ?_ hn hdb)
 exact PyProof.Rows.callWith_builtin1 (thn (ha pos pins s σ H _ I h) fun us s1 ⟨vs,H1,I1,r1,q1⟩=>hc pins s1 σ H1 vs us Q I1 r1 q1) he hpl
theorem ZE (hc:CallR X (.type T) r) (hg:Gl X x) (hm:X.mg x=none) (hv:bootBuiltins x=some (.type T)) (ha:PA X (e :: es) t) (hn:x≠"__name__":=by decide) (hdb:(x == ("__debug__" : Str))=false:=by decide)
  (he:starEach (e :: es) X.env=(false,eval e X.env) :: starEach es X.env:=by rfl) (hpl:(backTo pos (starEach es X.env)).any (·.1)=false:=by rfl):PE X (.Call (.Name x p) (e :: es) [] pos) (tCB r t):=by
 intro pins s σ H Q I h
 refine wpAny_Call_Name_kw (XH I hg hm hv ?_ hn hdb)
 exact PyProof.Rows.callWith_type1 (thn (ha pos pins s σ H _ I h) fun us s1 ⟨vs,H1,I1,r1,q1⟩=>hc pins s1 σ H1 vs us Q I1 r1 q1) he hpl
end
section
variable {κ:Type} [DecidableEq κ]
def XR (kvs:List (κ × V)) (k:κ):Option V:=(kvs.find? fun kv=>decide (kv.1=k)).map (·.2)
def XC (kvs:List (κ × V)) (k:κ) (v:V):List (κ × V) :=
 if (kvs.any fun kv=>decide (kv.1=k))=true then kvs.map (fun kv=>if kv.1=k then (kv.1,v) else kv) else kvs ++ [(k,v)]
def Zmz (kvs:List (κ × V)) (k:κ):List (κ × V):=kvs.filter fun kv=>decide (kv.1≠k)
theorem Jm {p:κ × V} {r:List (κ × V)} {k:κ} (e:p.1=k):XR (p :: r) k=some p.2:=by simp [XR,List.find?_cons,e]
theorem Jo {p:κ × V} {r:List (κ × V)} {k:κ} (e:¬ p.1=k):XR (p :: r) k=XR r k:=by simp [XR,List.find?_cons,e]
theorem Jp (k:κ):∀ kvs:List (κ × V),(kvs.any fun kv=>decide (kv.1=k))=(XR kvs k).isSome
 | []=>rfl
 | p :: r=>by
  rw [List.any_cons]
  by_cases e:p.1=k
  ·simp only [Jm e,decide_eq_true e,Bool.true_or,Option.isSome_some]
  ·rw [Jo e,decide_eq_false e,Bool.false_or]; exact Jp k r
theorem YC (kvs:List (κ × V)) (k:κ) (v:V):(XC kvs k v).length≤kvs.length + 1:=by
 unfold XC
 split
 ·rw [List.length_map]; omega
 ·rw [List.length_append,List.length_cons,List.length_nil]; omega
theorem Jx {kvs:List (κ × V)} {k:κ} (v:V) (h:XR kvs k=none):XC kvs k v=kvs ++ [(k,v)]:=by
 unfold XC
 rw [Jp,h]
 exact if_neg (by decide)
theorem RelO.isSome_eq {o:Option V} {u:Option Value} (r:RelO o u):o.isSome=u.isSome:=by
 cases o with
 | none=>cases u with
  | none=>rfl
  | some _=>exact (show False from r).elim
 | some _=>cases u with
  | none=>exact (show False from r).elim
  | some _=>rfl
theorem RelO.getD {o:Option V} {u:Option Value} {d:V} {d':Value} (r:RelO o u) (rd:RelV d d'):RelV (o.getD d) (u.getD d'):=by
 cases o with
 | none=>cases u with
  | none=>exact rd
  | some _=>exact (show False from r).elim
 | some _=>cases u with
  | none=>exact (show False from r).elim
  | some _=>exact r
theorem KV.val {kvs:List (κ × V)} {vs:List (κ × Value)} (r:KV kvs vs) (k:κ):RelO (XR kvs k) (valueAt vs k):=by
 unfold KV at r
 induction r with
 | nil=>exact True.intro
 | @cons p q ps qs h t ih =>
  obtain ⟨h1,h2⟩:=h
  by_cases e:p.1=k
  ·have e':q.1=k:=h1.symm.trans e
   have b:valueAt (q :: qs) k=some q.2:=by simp [valueAt,List.find?_cons,e']
   rw [Jm e,b]; exact h2
  ·have e':¬ q.1=k:=fun z=>e (h1.trans z)
   have b:valueAt (q :: qs) k=valueAt qs k:=by simp [valueAt,List.find?_cons,e']
   rw [Jo e,b]; exact ih
theorem KV.any {kvs:List (κ × V)} {vs:List (κ × Value)} (r:KV kvs vs) (k:κ):(kvs.any fun kv=>decide (kv.1=k))=vs.any fun kv=>decide (kv.1=k):=by
 unfold KV at r
 induction r with
 | nil=>rfl
 | cons h t ih=>rw [List.any_cons,List.any_cons,ih,h.1]
theorem KV.repl {kvs:List (κ × V)} {vs:List (κ × Value)} (r:KV kvs vs) (k:κ) {y:V} {u:Value} (ry:RelV y u) :
  KV (kvs.map fun kv=>if kv.1=k then (kv.1,y) else kv) (vs.map fun kv=>if kv.1=k then (kv.1,u) else kv):=by
 unfold KV at r ⊢
 induction r with
 | nil=>exact .nil
 | @cons p q ps qs h t ih =>
  rw [List.map_cons,List.map_cons]
  refine .cons ?_ ih
  obtain ⟨h1,h2⟩:=h
  by_cases e:p.1=k
  ·rw [if_pos e,if_pos (h1.symm.trans e)]; exact ⟨h1,ry⟩
  ·rw [if_neg e,if_neg (fun z=>e (h1.trans z))]; exact ⟨h1,h2⟩
theorem KV.put {kvs:List (κ × V)} {vs:List (κ × Value)} (r:KV kvs vs) (k:κ) {y:V} {u:Value} (ry:RelV y u):KV (XC kvs k y) (stored vs k u):=by
 unfold XC stored
 rw [r.any k]
 by_cases e:(vs.any fun kv=>decide (kv.1=k))=true
 ·rw [if_pos e,if_pos e]; exact r.repl k ry
 ·rw [if_neg e,if_neg e]; exact Paired.snoc r ⟨rfl,ry⟩
theorem KV.drop {kvs:List (κ × V)} {vs:List (κ × Value)} (r:KV kvs vs) (k:κ):KV (Zmz kvs k) (without vs k):=by
 unfold KV at r ⊢
 unfold Zmz without
 induction r with
 | nil=>exact .nil
 | @cons p q ps qs h t ih =>
  obtain ⟨h1,h2⟩:=h
  rw [List.filter_cons,List.filter_cons]
  by_cases e:p.1=k
  ·have a:¬ decide (p.1≠k)=true:=by simp [e]
   have b:¬ decide (q.1≠k)=true:=by simp [h1.symm.trans e]
   rw [if_neg a,if_neg b]; exact ih
  ·have e':¬ q.1=k:=fun z=>e (h1.trans z)
   have a:decide (p.1≠k)=true:=by simp [e]
   have b:decide (q.1≠k)=true:=by simp [e']
   rw [if_pos a,if_pos b]; exact .cons ⟨h1,h2⟩ ih
theorem KV.keys {kvs:List (κ × V)} {vs:List (κ × Value)} (r:KV kvs vs):kvs.map (·.1)=vs.map (·.1):=by
 unfold KV at r
 induction r with
 | nil=>rfl
 | cons h t ih=>rw [List.map_cons,List.map_cons,ih,h.1]
theorem KV.length {kvs:List (κ × V)} {vs:List (κ × Value)} (r:KV kvs vs):kvs.length=vs.length:=Paired.length r
end
theorem Zb8 {P:Program} {w:World} {k:Key} {u:Value} (r:RelV (kV k) u):(Zp P w).is k u=true:=by
 cases k with
 | inl i=>obtain ⟨t,e⟩:=(show ∃ t,u=Value.int i t from r); subst e; exact Zc8 P w i t
 | inr x=>obtain ⟨t,e⟩:=(show ∃ t,u=Value.str x t from r); subst e; exact Xp P w x t
theorem Zca {P:Program} {w:World}:∀ {ks:List Key} {us:List Value},Vals (ks.map kV) us→ItemsAre (Zp P w) ks us
 | [],_,r=>by rw [List.map_nil] at r; cases r; exact .nil
 | k :: ks,_,r=>by
  rw [List.map_cons] at r
  cases r with
  | cons h t=>exact .cons (Zb8 h) (Zca t)
abbrev KT (H:Hp):List (List Key × V)→List (List Key × Addr × Value)→Prop:=Paired fun p q=>p.1=q.1∧H q.2.1=some (.tup (p.1.map kV))∧RelV p.2 q.2.2
theorem KT.val {H:Hp} {kvs:List (List Key × V)} {xs:List (List Key × Addr × Value)} (r:KT H kvs xs) (k:List Key):RelO (XR kvs k) ((atKey xs k).map (·.2)):=by
 induction r with
 | nil=>exact True.intro
 | @cons p q ps qs h t ih =>
  obtain ⟨h1,_,h2⟩:=h
  by_cases e:p.1=k
  ·have e':q.1=k:=h1.symm.trans e
   have b:atKey (q :: qs) k=some q.2:=by simp [atKey,List.find?_cons,e']
   rw [Jm e,b]; exact h2
  ·have e':¬ q.1=k:=fun z=>e (h1.trans z)
   have b:atKey (q :: qs) k=atKey qs k:=by simp [atKey,List.find?_cons,e']
   rw [Jo e,b]; exact ih
theorem KT.repl {H:Hp} {kvs:List (List Key × V)} {xs:List (List Key × Addr × Value)} (r:KT H kvs xs) (k:List Key) {y:V} {u:Value} (ry:RelV y u) :
  KT H (kvs.map fun kv=>if kv.1=k then (kv.1,y) else kv) (xs.map (putAt k u)):=by
 induction r with
 | nil=>exact .nil
 | @cons p q ps qs h t ih =>
  rw [List.map_cons,List.map_cons]
  refine .cons ?_ ih
  obtain ⟨h1,h2,h3⟩:=h
  unfold putAt
  by_cases e:p.1=k
  ·rw [if_pos e,if_pos (h1.symm.trans e)]; exact ⟨h1,h2,ry⟩
  ·rw [if_neg e,if_neg (fun z=>e (h1.trans z))]; exact ⟨h1,h2,h3⟩
theorem KT.put {H:Hp} {kvs:List (List Key × V)} {xs:List (List Key × Addr × Value)} (r:KT H kvs xs) (k:List Key) {b:Addr} {y:V} {u:Value} (hb:H b=some (.tup (k.map kV))) (ry:RelV y u) :
  KT H (XC kvs k y) (storedH xs k b u):=by
 have e:(kvs.any fun kv=>decide (kv.1=k))=(atKey xs k).isSome:=by
  rw [Jp,(r.val k).isSome_eq,Option.isSome_map]
 unfold XC storedH
 rw [e]
 by_cases q:(atKey xs k).isSome=true
 ·rw [if_pos q,if_pos q]; exact r.repl k ry
 ·rw [if_neg q,if_neg q]; exact Paired.snoc r ⟨rfl,hb,ry⟩
theorem KT.keeps {H H':Hp} {kvs:List (List Key × V)} {xs:List (List Key × Addr × Value)} (r:KT H kvs xs) (ht:∀ b ys,H b=some (.tup ys)→H' b=some (.tup ys)):KT H' kvs xs :=
 Paired.mapP r fun _ _ z=>⟨z.1,ht _ _ z.2.1,z.2.2⟩
section
variable {P:Program} {w:World} {H:Hp} {h:Heap} {a:Addr}
theorem ZlF {u:HO} (ok:HOk P w H h) (e:Rd H a u):ObjOk P w H h a u:=e.ok ok
theorem Zcj {kvs:List (Key × V)} (ok:HOk P w H h) (e:Rd H a (.dK kvs)):kvs.length≤sizeLine∧(a == sysModules)=false∧∃ vs,KV kvs vs∧h.DictOf (Zp P w) a vs :=
 show ObjOk P w H h a (.dK kvs) from ZlF ok e
theorem Zdj {kvs:List (Key × V)} (ok:HOk P w H h) (e:H a=some (.dK kvs)):kvs.length≤sizeLine∧(a == sysModules)=false∧∃ vs,KV kvs vs∧h.DictOf (Zp P w) a vs:=Zcj ok (.inl e)
theorem Zax {ks:List Key} (ok:HOk P w H h) (e:H a=some (.tup (ks.map kV))):(tupleKind (Zp P w)).is h ks a:=by
 obtain ⟨_,its,r,⟨o,h1,h2,n,h3⟩,_⟩:=(show ObjOk P w H h a (.tup (ks.map kV)) from ok a _ e)
 exact ⟨o,its.toArray,n,h1,h2,h3,by simpa using Zca r⟩
theorem Zdi {kvs:List (List Key × V)} (ok:HOk P w H h) (e:Rd H a (.dT kvs)):kvs.length≤sizeLine∧(a == sysModules)=false ∧
  ∃ xs,KT H kvs xs∧h.DictOfH (tupleKind (Zp P w)) a xs:=by
 obtain ⟨z,y,xs,r,o,es,ep,h1,h2,h3,h4,h5⟩:=(show ObjOk P w H h a (.dT kvs) from ZlF ok e)
 refine ⟨z,y,xs,r,o,es,ep,h1,h2,h3,h4,fun x hx=>?_,h5⟩
 have all:∀ {l:List (List Key × V)} {m:List (List Key × Addr × Value)},KT H l m→∀ x∈m,(tupleKind (Zp P w)).is h x.1 x.2.1:=by
  intro l m q
  induction q with
  | nil=>intro x hx; exact nomatch hx
  | @cons p q ps qs hq t ih =>
   intro x hx
   rcases List.mem_cons.mp hx with e | hx
   ·subst e
    exact Zax ok (by rw [← hq.1]; exact hq.2.1)
   ·exact ih x hx
 exact all r x hx
theorem Znp {kvs:List (List Key × V)} (ok:HOk P w H h) (e:H a=some (.dT kvs)):kvs.length≤sizeLine∧(a == sysModules)=false ∧
  ∃ xs,KT H kvs xs∧h.DictOfH (tupleKind (Zp P w)) a xs:=Zdi ok (.inl e)
end
def DGet (H:Hp) (a:Addr) (y:V) (r:Option V):Prop :=
 (∃ kvs k,Rd H a (.dK kvs)∧y=kV k∧r=XR kvs k)∨∃ kvs k b,Rd H a (.dT kvs)∧y = .ref b∧H b=some (.tup (k.map kV))∧r=XR kvs k
def DPut (H:Hp) (a:Addr) (y v:V) (H':Hp):Prop :=
 (∃ kvs k,H a=some (.dK kvs)∧y=kV k∧kvs.length < sizeLine∧H'=upd H a (.dK (XC kvs k v))) ∨
 ∃ kvs k b,H a=some (.dT kvs)∧y = .ref b∧H b=some (.tup (k.map kV))∧kvs.length < sizeLine∧H'=upd H a (.dT (XC kvs k v))
theorem DGet.k {H:Hp} {a:Addr} {kvs:List (Key × V)} {k:Key} (e:H a=some (.dK kvs)):DGet H a (kV k) (XR kvs k):=.inl ⟨kvs,k,.inl e,rfl,rfl⟩
theorem DPut.k {H:Hp} {a:Addr} {kvs:List (Key × V)} {k:Key} {v:V} (e:H a=some (.dK kvs)) (hl:kvs.length < sizeLine):DPut H a (kV k) v (upd H a (.dK (XC kvs k v))):=.inl ⟨kvs,k,e,rfl,hl,rfl⟩
section
variable {X:Cx} {pins:List (Addr × Obj)} {σ:St} {H:Hp} {s:Shared} {a:Addr} {y v:V} {u r:Value} {o:Option V} {A:Around} {E:Value→Shared→Prop}
theorem Inv.big (I:Inv X pins σ H s):sysModules < s.heap.objs.size:=by
 have h:mainGlobals < s.heap.objs.size:=(I.mod.glob.keeps I.bk).lt
 exact Nat.lt_trans (by decide) h
theorem Zhr {Q:Value→Shared→Prop} (hu:A.units + 1 < cLine) (I:Inv X pins σ H s) (g:DGet H a y (some v)) (ry:RelV y u) (h:∀ w' s',Inv X pins σ H s'→RelV v w'→Q w' s') :
  wpAny (model X.prog X.w) A (getItem (.ref a) u) Q E s:=by
 rcases g with ⟨kvs,k,e,ey,l⟩ | ⟨kvs,k,b,e,ey,eb,l⟩
 ·subst ey
  obtain ⟨z,hd,vs,rel,dd⟩:=Zcj I.hok e
  obtain ⟨w',hw,rw'⟩:=RelO.some_of (v:=v) (o:=valueAt vs k) (by rw [l]; exact rel.val k)
  exact wpAny_getItem_of (Zb8 ry) dd.mapOf hw (h w' _ (I.tok _) rw')
 ·subst ey
  cases (show u=Value.ref b from ry)
  obtain ⟨z,hd,xs,rel,dd⟩:=Zdi I.hok e
  obtain ⟨w',hw,rw'⟩:=RelO.some_of (v:=v) (o:=(atKey xs k).map (·.2)) (by rw [l]; exact rel.val k)
  obtain ⟨p,hp,hp2⟩:=Option.map_eq_some_iff.mp hw
  refine wpAny_getItem_heap (tupleKind_room_in1 hu) (Zax I.hok eb) dd hp ?_
  rw [hp2]
  exact h w' _ (I.tok _) rw'
theorem Zlf {Q:Value→Shared→Prop} (hu:A.units + 1 < cLine) (I:Inv X pins σ H s) (g:DGet H a y o) (ry:RelV y u) (h:∀ s',Inv X pins σ H s'→Q (.bool (!o.isSome)) s') :
  wpAny (model X.prog X.w) A (compareOp .NotIn u (.ref a)) Q E s:=by
 rcases g with ⟨kvs,k,e,ey,l⟩ | ⟨kvs,k,b,e,ey,eb,l⟩
 ·subst ey
  obtain ⟨z,hd,vs,rel,dd⟩:=Zcj I.hok e
  refine wpAny_notIn_of (Zb8 ry) hd dd.mapOf ?_
  rw [← (rel.val k).isSome_eq,← l]
  exact h _ (I.tok _)
 ·subst ey
  cases (show u=Value.ref b from ry)
  obtain ⟨z,hd,xs,rel,dd⟩:=Zdi I.hok e
  refine wpAny_notIn_heap (tupleKind_room_in1 hu) (Zax I.hok eb) hd dd ?_
  have q:=(rel.val k).isSome_eq
  rw [Option.isSome_map] at q
  rw [← q,← l]
  exact h _ (I.tok _)
theorem Zbs {h':Heap} {t':Nat} {ob:HO} (I:Inv X pins σ H s) (mu:Mut (H a)) (hs:Heap.SameBut a s.heap h') (he:∃ q,h'.get? a=some q) (new:ObjOk X.prog X.w (upd H a ob) h' a ob) :
  Inv X pins σ (upd H a ob) { s with heap:=h',toks:=t' } :=
 I.write (x:=a) (e:=a) mu (.inl rfl) (fun b q hb z=>(hs.2 b hb).trans z) he new
theorem Zhi {P:Program} {w:World} {H':Hp} {h':Heap} {kvs:List (Key × V)} {vs:List (Key × Value)} (z:kvs.length≤sizeLine) (hd:(a == sysModules)=false) (rel:KV kvs vs) (dd:h'.DictOf (Zp P w) a vs) :
  ObjOk P w H' h' a (.dK kvs):=⟨z,hd,vs,rel,dd⟩
theorem Zhq {H':Hp} {Q:Unit→Shared→Prop} (hu:A.units + 1 < cLine) (I:Inv X pins σ H s) (g:DPut H a y v H') (ry:RelV y u) (rv:RelV v r) (h:∀ s',Inv X pins σ H' s'→Q () s') :
  wpAny (model X.prog X.w) A (setItem (.ref a) u r) Q E s:=by
 rcases g with ⟨kvs,k,e,ey,l,eH⟩ | ⟨kvs,k,b,e,ey,eb,l,eH⟩
 ·subst ey eH
  obtain ⟨z,hd,vs,rel,dd⟩:=Zdj I.hok e
  have hz:vs.length≤sizeLine:=by rw [← rel.length]; exact z
  have hl:(XC kvs k v).length≤sizeLine:=by have:=YC kvs k v; omega
  refine wpAny_setItem_pairs (hsz:=hz) (Zb8 ry) dd fun h' dd' hs=>h _ ?_
  have he:∃ q,h'.get? a=some q:=let ⟨q,_,_,hq,_⟩:=dd'; ⟨q,hq⟩
  exact Zbs I (by rw [e]; exact True.intro) hs he (Zhi hl hd (rel.put k rv) dd')
 ·subst ey eH
  cases (show u=Value.ref b from ry)
  obtain ⟨z,hd,xs,rel,dd⟩:=Znp I.hok e
  have hz:xs.length≤sizeLine:=by rw [← Paired.length rel]; exact z
  have hl:(XC kvs k v).length≤sizeLine:=by have:=YC kvs k v; omega
  refine wpAny_setItem_heap (hsz:=hz) (tupleKind_room_in1 hu) (Zax I.hok eb) dd fun h' dd' hs=>h _ ?_
  obtain ⟨q,es,ep,hq,h2,h3,h4,_,h5⟩:=dd'
  refine Zbs I (by rw [e]; exact True.intro) hs ⟨q,hq⟩ ⟨hl,hd,_,(rel.put k eb rv).keeps fun c ys ec=>?_,q,es,ep,hq,h2,h3,h4,h5⟩
  rw [Zi (Znb ec e (fun z=>nomatch z))]
  exact ec
end
section
variable {X:Cx} {pins:List (Addr × Obj)} {σ:St} {H:Hp} {s:Shared} {a:Addr} {kvs:List (Key × V)} {k:Key} {u:Value} {A:Around} {E:Value→Shared→Prop}
theorem ZmB {Q:Value→Shared→Prop} (I:Inv X pins σ H s) (e:Rd H a (.dK kvs)) (h:∀ t s',Inv X pins σ H s'→Q (.int kvs.length t) s'):wpAny (model X.prog X.w) A (call (.builtin "len") [.ref a]) Q E s:=by
 obtain ⟨z,hd,vs,rel,dd⟩:=Zcj I.hok e
 refine call_len_dict hd dd (by rw [← rel.length]; rw [sizeLine_eq] at z; omega) ?_
 rw [← rel.length]
 exact h _ _ (I.tok _)
end
def ZnK (i:Expr):Prop:=∀ ov iv,subscripted i false ov iv=operate [ov,iv] (getItem ov iv)
theorem Zkc {prog:Program} {w:World} {A:Around} {E:Value→Shared→Prop} {s:Shared} {env:Env} {value slice:Expr} {pos:Pos} {T id:String} {Q:Value→Shared→Prop}
  (hl:typeLookup (.type T) "__getitem__" = pure (some (.builtin id))) (hs:ZnK slice)
  (h:wpAny (model prog w) A (eval value env) (fun o s₁=>wpAny (model prog w) A (eval slice env) (fun i s₂=>s₂.TypeIs o T∧wpAny (model prog w) A (getItem o i) Q E s₂) E s₁) E s) :
  wpAny (model prog w) A (eval (.Subscript value slice pos) env) Q E s:=by
 refine Subscript_ (wpAny_mono h (fun o s₁ h₁=>wpAny_mono h₁ (fun i s₂ h₂=>?_) fun _ _ x=>x) fun _ _ x=>x)
 obtain ⟨hT,h₂⟩:=h₂
 unfold subscriptTail
 refine wpAny_bind ?_
 rw [getitemInPython_of_ne hT.not_modules]
 refine wpAny_bind (wpAny_specialOf hT hl ?_)
 have fin:wpAny (model prog w) A (subscripted slice false o i) (fun r s₃=>wpAny (model prog w) A (letTemporaryGo value o r >>= fun _=>pure r) Q E s₃) E s₂:=by
  rw [hs o i]
  exact wpAny_operating (wpAny_mono h₂ (fun r s₃ h₃=>wpAny_bind (wpAny_letTemporaryGo (wpAny_pure h₃))) fun _ _ x=>x)
 first
  | exact wpAny_pure (wpAny_bind fin)
  | exact wpAny_bind (wpAny_pure (wpAny_bind fin))
  | exact wpAny_bind fin
theorem Zdk {X:Cx} {pins:List (Addr × Obj)} {σ:St} {H:Hp} {s:Shared} {a:Addr} {y:V} {o:Option V} (I:Inv X pins σ H s) (g:DGet H a y o):s.TypeIs (.ref a) "dict":=by
 rcases g with ⟨kvs,k,e,_,_⟩ | ⟨kvs,k,b,e,_,_,_⟩
 ·obtain ⟨_,_,vs,_,dd⟩:=Zcj I.hok e
  exact dd.typeIs
 ·obtain ⟨_,_,xs,_,dd⟩:=Zdi I.hok e
  exact dd.typeIs
def Zm3 (td ty:TE):TE:=fun σ H Q=>td σ H fun x H1=>ty σ H1 fun y H2=>∃ a v,x = .ref a∧DGet H2 a y (some v)∧Q v H2
def Zkb (ty td:TE):TE:=fun σ H Q=>ty σ H fun y H1=>td σ H1 fun x H2=>∃ a o,x = .ref a∧DGet H2 a y o∧Q (.bl (!o.isSome)) H2
def Zm8 (td ty tv:TE):TS:=fun D σ H=>tv σ H fun v H1=>td σ H1 fun x H2=>ty σ H2 fun y H3=>∃ a H4,x = .ref a∧DPut H3 a y v H4∧D.nx σ H4
section
variable {X:Cx} {o i e value:Expr} {pos pos' tpos:Pos} {td ty tv:TE}
theorem Zgi (hu:X.A.units + 1 < cLine) (ho:PE X o td) (hi:PE X i ty) (hs:ZnK i):PE X (.Subscript o i pos) (Zm3 td ty):=by
 intro pins s σ H Q I h
 refine Zkc PySem.F.slot_dict_getitem.lookup hs (thn (ho pins s σ H _ I h) fun u s1 ⟨x,H1,I1,rx,q1⟩=>thn (hi pins s1 σ H1 _ I1 q1) fun iv s2 ⟨y,H2,I2,ry,a,v,ex,g,q2⟩=>?_)
 subst ex
 obtain rfl:u=Value.ref a:=rx
 exact ⟨Zdk I2 g,Zhr hu I2 g ry fun w' s3 I3 rw'=>⟨v,H2,I3,rw',q2⟩⟩
theorem Zgl (hu:X.A.units + 1 < cLine) (hi:PE X i ty) (ho:PE X o td):PC X .NotIn i o (Zkb ty td):=by
 intro pins s σ H Q I h
 refine thn (hi pins s σ H _ I h) fun iv s1 ⟨y,H1,I1,ry,q1⟩=>thn (ho pins s1 σ H1 _ I1 q1) fun u s2 ⟨x,H2,I2,rx,a,ov,ex,g,q2⟩=>?_
 subst ex
 obtain rfl:u=Value.ref a:=rx
 exact Zlf hu I2 g ry fun s3 I3=>⟨.bl (!ov.isSome),H2,I3,rfl,q2⟩
theorem JQ (hu:X.A.units + 1 < cLine) (ho:PE X o td) (hi:PE X i ty) (hv:PE X value tv) (hs:swapsWith value (some (.Subscript o i pos')) pos.line X.env=pure false) :
  PS X (.Assign [.Subscript o i pos'] value pos) (Zm8 td ty tv):=by
 intro pins s σ H D I h
 refine wpAny_Assign_Subscript (thn (hv pins s σ H _ I h) fun r s1 ⟨v,H1,I1,rv,q1⟩=>thn (ho pins s1 σ H1 _ I1 q1) fun u s2 ⟨x,H2,I2,rx,q2⟩=>thn (hi pins s2 σ H2 _ I2 q2) fun iv s3 ⟨y,H3,I3,ry,a,H4,ex,g,q3⟩=>?_) hs
 subst ex
 obtain rfl:u=Value.ref a:=rx
 exact Zhq hu I3 g ry rv fun s4 I4=>⟨σ,H4,I4,q3⟩
end
theorem Zeo {P:Program} {w:World} {H:Hp} (h:Heap) (hb:sysModules < h.objs.size):ObjOk P w H (h.push { cls:=.type "dict",data:=.dict #[] }) h.objs.size (.dK []) :=
 ⟨Nat.zero_le _,beq_eq_false_iff_ne.mpr (Ne.symm (Nat.ne_of_lt hb)),[],.nil,Heap.DictOf.new h⟩
def Zlw:TE:=fun _ H Q=>∀ p,H p=none→Q (.ref p) (upd H p (.dK []))
section
variable {X:Cx} {pos:Pos}
theorem Jz:PE X (.Dict [] [] pos) Zlw:=fun pins s σ H Q I h =>
 wpAny_Dict_empty ⟨.ref s.heap.objs.size,_,I.laid (a:=s.heap.objs.size) (o:=.dK []) (t':=s.toks) (fun _ _ q=>Heap.get?_push_of_some _ q) (Nat.le_refl _) (Zeo s.heap I.big),rfl,h _ (I.hok.fresh (Nat.le_refl _))⟩
end
def Zfo:List (TE × TE)→St→Hp→(List (V × V)→Hp→Prop)→Prop
 | [],_,H,Q=>Q [] H
 | (tk,tv) :: r,σ,H,Q=>tk σ H fun x H1=>tv σ H1 fun y H2=>Zfo r σ H2 fun ps H3=>Q ((x,y) :: ps) H3
abbrev VV:List (V × V)→List (Value × Value)→Prop:=Paired fun p q=>RelV p.1 q.1∧RelV p.2 q.2
def PPs (X:Cx) (pos:Pos) (keys:List (Option Expr)) (values:List Expr) (trs:List (TE × TE)):Prop :=
 ∀ (pins:List (Addr × Obj)) (s:Shared) (σ:St) (H:Hp) (Q:List (V × V)→Hp→Prop),Inv X pins σ H s→Zfo trs σ H Q →
  wpAny (model X.prog X.w) X.A (evalPairs (pairTrees keys values X.env pos)) (fun vs s'=>∃ ps H',Inv X pins σ H' s'∧VV ps vs∧Q ps H') X.xe s
theorem Zku {X:Cx} {pos:Pos}:PPs X pos [] [] []:=fun pins s σ H Q I h=>pairTrees_nil_walk ⟨[],H,I,.nil,h⟩
theorem Zh6 {X:Cx} {pos:Pos} {k v:Expr} {ks:List (Option Expr)} {vs:List Expr} {tk tv:TE} {trs:List (TE × TE)} (hk:PE X k tk) (hv:PE X v tv) (hr:PPs X pos ks vs trs) :
  PPs X pos (some k :: ks) (v :: vs) ((tk,tv) :: trs):=fun pins s σ H Q I h =>
 pairTrees_cons_walk (thn (hk pins s σ H _ I h) fun u s1 ⟨x,H1,I1,rx,q1⟩=>thn (hv pins s1 σ H1 _ I1 q1) fun w2 s2 ⟨y,H2,I2,ry,q2⟩ =>
  thn (hr pins s2 σ H2 _ I2 q2) fun ws s3 ⟨ps,H3,I3,rel,q3⟩=>⟨(x,y) :: ps,H3,I3,.cons ⟨rx,ry⟩ rel,q3⟩)
def Je (kvs more:List (Key × V)):List (Key × V):=more.foldl (fun acc kv=>XC acc kv.1 kv.2) kvs
theorem KV.merge:∀ {more:List (Key × V)} {rs:List (Key × Value)} {kvs:List (Key × V)} {vs:List (Key × Value)},KV more rs→KV kvs vs→KV (Je kvs more) (merged vs rs):=by
 intro more rs kvs vs r
 unfold KV at r
 induction r generalizing kvs vs with
 | nil=>intro q; exact q
 | @cons p q ps qs h t ih =>
  intro r0
  have e:KV (XC kvs p.1 p.2) (stored vs q.1 q.2):=by
   have:=r0.put p.1 h.2
   rw [← h.1]; exact this
  exact ih e
theorem XF:∀ (more kvs:List (Key × V)),(Je kvs more).length≤kvs.length + more.length
 | [],kvs=>by show kvs.length≤kvs.length + 0; omega
 | p :: r,kvs=>by
  have h1:=XF r (XC kvs p.1 p.2)
  have h2:=YC kvs p.1 p.2
  show (Je (XC kvs p.1 p.2) r).length≤_
  rw [List.length_cons]; omega
theorem ZaH {P:Program} {w:World}:∀ {kvs:List (Key × V)} {ws:List (Value × Value)},VV (kvs.map fun kv=>(kV kv.1,kv.2)) ws→∃ rs,Carries (Zp P w) ws rs∧KV kvs rs
 | [],_,r=>by rw [List.map_nil] at r; cases r; exact ⟨[],True.intro,.nil⟩
 | p :: kvs,_,r=>by
  rw [List.map_cons] at r
  cases r with
  | @cons a b as bs h t =>
   obtain ⟨rs,c,q⟩:=ZaH (P:=P) (w:=w) t
   obtain ⟨b1,b2⟩:=b
   exact ⟨(p.1,b2) :: rs,⟨Zb8 h.1,rfl,c⟩,.cons ⟨rfl,h.2⟩ q⟩
def Zm1 (trs:List (TE × TE)):TE:=fun σ H Q=>∀ p,H p=none→Zfo trs σ (upd H p (.dK [])) fun ps H2=>H2 p=some (.dK [])∧∃ kvs:List (Key × V),ps=kvs.map (fun kv=>(kV kv.1,kv.2))∧kvs.length≤15∧Q (.ref p) (upd H2 p (.dK (Je [] kvs)))
theorem Zky {X:Cx} {pos:Pos} {keys:List (Option Expr)} {values:List Expr} {trs:List (TE × TE)} (h:PPs X pos keys values trs) (hall:keys.all (·.isSome)=true) (hl:keys.length=values.length) (h0:keys≠[])
  (h15:keys.length≤15):PE X (.Dict keys values pos) (Zm1 trs):=by
 intro pins s σ H Q I q
 have hn:=I.hok.fresh (Nat.le_refl s.heap.objs.size)
 have I1:=I.laid (a:=s.heap.objs.size) (o:=.dK []) (h':=s.heap.push { cls:=.type "dict",data:=.dict #[] }) (t':=s.toks) (fun _ _ q=>Heap.get?_push_of_some _ q) (Nat.le_refl _) (Zeo s.heap I.big)
 refine wpAny_Dict_walk (knd:=Zp X.prog X.w) hall hl h0 h15 (thn (h pins _ σ _ _ I1 (q _ hn)) fun ws s2 ⟨ps,H2,I2,rel,e,kvs,ep,lk,q2⟩=>?_)
 subst ep
 obtain ⟨rs,c,rk⟩:=ZaH (P:=X.prog) (w:=X.w) rel
 obtain ⟨z,hd,vs0,r0,dd⟩:=Zdj I2.hok e
 cases r0
 refine ⟨rs,c,dd,fun h' dd' hs=>⟨.ref s.heap.objs.size,_,?_,rfl,q2⟩⟩
 have hz:(Je [] kvs).length≤sizeLine:=by
  have h1:=XF kvs []
  rw [List.length_nil] at h1
  rw [sizeLine_eq]; omega
 have he:∃ q,h'.get? s.heap.objs.size=some q:=let ⟨q,_,_,hq,_⟩:=dd'; ⟨q,hq⟩
 exact Zbs I2 (by rw [e]; exact True.intro) hs he (Zhi hz hd (rk.merge .nil) dd')
structure M1 (X:Cx) (o:Expr) (m:Str) (apos:Pos) (e:Expr) (cpos:Pos):Prop where
 base:attributeBase o m X.env (eval o X.env)=eval o X.env
 few:((backTo cpos (starEach [e] X.env)).all (fun x=>!x.1) && (backToKw cpos (keywordEach [] X.env)).all (fun x=>x.1.isSome)
  && decide (([e]:List Expr).length + ([]:List Keyword).length + (if ([]:List Keyword).isEmpty then 0 else 1) < 30))=true
 line:(apos.endLine == cpos.line)=true
 trees:backTo cpos (starEach [e] X.env)=[(false,eval e X.env)]
structure M2 (X:Cx) (o:Expr) (m:Str) (apos:Pos) (e f:Expr) (cpos:Pos):Prop where
 base:attributeBase o m X.env (eval o X.env)=eval o X.env
 few:((backTo cpos (starEach [e,f] X.env)).all (fun x=>!x.1) && (backToKw cpos (keywordEach [] X.env)).all (fun x=>x.1.isSome)
  && decide (([e,f]:List Expr).length + ([]:List Keyword).length + (if ([]:List Keyword).isEmpty then 0 else 1) < 30))=true
 line:(apos.endLine == cpos.line)=true
 trees:backTo cpos (starEach [e,f] X.env)=[(false,eval e X.env),(false,eval f X.env)]
def IsD (H:Hp) (a:Addr):Prop:=(∃ kvs,Rd H a (.dK kvs))∨∃ kvs,Rd H a (.dT kvs)
theorem Zei {X:Cx} {pins:List (Addr × Obj)} {σ:St} {H:Hp} {s:Shared} {a:Addr} (I:Inv X pins σ H s) (d:IsD H a) :
  s.TypeIs (.ref a) "dict"∧(∀ b,Value.ref a = .ref b→∃ ob,s.heap.get? b=some ob∧ob.dict=none)∧(a == sysModules)=false:=by
 rcases d with ⟨kvs,e⟩ | ⟨kvs,e⟩
 ·obtain ⟨_,hd,vs,_,dd⟩:=Zcj I.hok e
  refine ⟨dd.typeIs,fun b q=>?_,hd⟩
  cases q
  obtain ⟨ob,_,_,h1,h2,_⟩:=dd
  exact ⟨ob,h1,h2.2.1⟩
 ·obtain ⟨_,hd,xs,_,dd⟩:=Zdi I.hok e
  refine ⟨dd.typeIs,fun b q=>?_,hd⟩
  cases q
  obtain ⟨ob,_,_,h1,h2,_⟩:=dd
  exact ⟨ob,h1,h2.2.1⟩
section
variable {X:Cx} {pins:List (Addr × Obj)} {σ:St} {H:Hp} {s:Shared} {a:Addr} {y d:V} {u r:Value} {o:Option V} {A:Around} {E:Value→Shared→Prop}
theorem ZmD {Q:Value→Shared→Prop} (hu:A.units + 1 < cLine) (I:Inv X pins σ H s) (g:DGet H a y o) (ry:RelV y u) (h:∀ w' s',Inv X pins σ H s'→RelV (o.getD .non) w'→Q w' s') :
  wpAny (model X.prog X.w) A (call (.builtin "dict.get") [.ref a,u]) Q E s:=by
 rcases g with ⟨kvs,k,e,ey,l⟩ | ⟨kvs,k,b,e,ey,eb,l⟩
 ·subst ey
  obtain ⟨z,hd,vs,rel,dd⟩:=Zcj I.hok e
  refine call_meetsIn PySem.F.slot_dict_get dd.typeIs PySem.F.entry_dict_get (PySem.F.args_dict_get_2 _ _) (meets_dict_get (Zp X.prog X.w) a (Zb8 ry) hd) ⟨_,dd.mapOf,h _ _ (I.tok _) ?_⟩
  rw [l]
  exact (rel.val k).getD rfl
 ·subst ey
  cases (show u=Value.ref b from ry)
  obtain ⟨z,hd,xs,rel,dd⟩:=Zdi I.hok e
  refine call_meetsIn PySem.F.slot_dict_get dd.typeIs PySem.F.entry_dict_get (PySem.F.args_dict_get_2 _ _) (meetsH_dict_get (tupleKind (Zp X.prog X.w)) a b hd) ⟨tupleKind_room_in1 hu,k,xs,Zax I.hok eb,dd,h _ _ (I.tok _) ?_⟩
  rw [l]
  exact (rel.val k).getD rfl
theorem ZmC {Q:Value→Shared→Prop} (hu:A.units + 1 < cLine) (I:Inv X pins σ H s) (g:DGet H a y o) (ry:RelV y u) (rd:RelV d r) (h:∀ w' s',Inv X pins σ H s'→RelV (o.getD d) w'→Q w' s') :
  wpAny (model X.prog X.w) A (call (.builtin "dict.get") [.ref a,u,r]) Q E s:=by
 rcases g with ⟨kvs,k,e,ey,l⟩ | ⟨kvs,k,b,e,ey,eb,l⟩
 ·subst ey
  obtain ⟨z,hd,vs,rel,dd⟩:=Zcj I.hok e
  refine call_meetsIn PySem.F.slot_dict_get dd.typeIs PySem.F.entry_dict_get (PySem.F.args_dict_get_3 _ _ _) (meets_dict_get_default (Zp X.prog X.w) a (Zb8 ry) hd r) ⟨_,dd.mapOf,h _ _ (I.tok _) ?_⟩
  rw [l]
  exact (rel.val k).getD rd
 ·subst ey
  cases (show u=Value.ref b from ry)
  obtain ⟨z,hd,xs,rel,dd⟩:=Zdi I.hok e
  refine call_meetsIn PySem.F.slot_dict_get dd.typeIs PySem.F.entry_dict_get (PySem.F.args_dict_get_3 _ _ _) (meetsH_dict_get_default (tupleKind (Zp X.prog X.w)) a b hd r) ⟨tupleKind_room_in1 hu,k,xs,Zax I.hok eb,dd,h _ _ (I.tok _) ?_⟩
  rw [l]
  exact (rel.val k).getD rd
end
def Zly (td ty:TE):TE:=fun σ H Q=>td σ H fun x H1=>∃ a,x = .ref a∧IsD H1 a∧ty σ H1 fun y H2=>∃ o,DGet H2 a y o∧Q (o.getD .non) H2
def Zlx (td ty tx:TE):TE:=fun σ H Q=>td σ H fun x H1=>∃ a,x = .ref a∧IsD H1 a∧ty σ H1 fun y H2=>tx σ H2 fun z H3=>∃ o,DGet H3 a y o∧Q (o.getD z) H3
section
variable {X:Cx} {o e f:Expr} {apos cpos:Pos} {td ty tx:TE}
theorem ZdZ (hu:X.A.units + 1 < cLine) (ho:PE X o td) (he:PE X e ty) (m:M1 X o "get" apos e cpos):PE X (.Call (.Attribute o "get" apos) [e] [] cpos) (Zly td ty):=by
 intro pins s σ H Q I h
 refine wpAny_Call_method m.base m.few m.line PySem.F.plainAttrs_dict PySem.F.slot_dict_get PySem.F.type_dict_get (thn (ho pins s σ H _ I h) fun u s1 ⟨x,H1,I1,rx,a,ex,d,q1⟩=>?_)
 subst ex
 obtain rfl:u=Value.ref a:=rx
 obtain ⟨t1,t2,_⟩:=Zei I1 d
 refine ⟨t1,t2,?_⟩
 rw [m.trees]
 refine Calls.callWith_builtin rfl (Calls.evalArgs_plain (Calls.spliced_cons (thn (he pins s1 σ H1 _ I1 q1) fun iv s2 ⟨y,H2,I2,ry,ov,g,q2⟩=>Calls.spliced_nil ?_)))
 exact ZmD hu I2 g ry fun w' s3 I3 rw'=>⟨_,H2,I3,rw',q2⟩
theorem Za1 (hu:X.A.units + 1 < cLine) (ho:PE X o td) (he:PE X e ty) (hf:PE X f tx) (m:M2 X o "get" apos e f cpos):PE X (.Call (.Attribute o "get" apos) [e,f] [] cpos) (Zlx td ty tx):=by
 intro pins s σ H Q I h
 refine wpAny_Call_method m.base m.few m.line PySem.F.plainAttrs_dict PySem.F.slot_dict_get PySem.F.type_dict_get (thn (ho pins s σ H _ I h) fun u s1 ⟨x,H1,I1,rx,a,ex,d,q1⟩=>?_)
 subst ex
 obtain rfl:u=Value.ref a:=rx
 obtain ⟨t1,t2,_⟩:=Zei I1 d
 refine ⟨t1,t2,?_⟩
 rw [m.trees]
 refine Calls.callWith_builtin rfl (Calls.evalArgs_plain (Calls.spliced_cons (thn (he pins s1 σ H1 _ I1 q1) fun iv s2 ⟨y,H2,I2,ry,q2⟩ =>
  Calls.spliced_cons (thn (hf pins s2 σ H2 _ I2 q2) fun fv s3 ⟨z,H3,I3,rz,ov,g,q3⟩=>Calls.spliced_nil ?_))))
 exact ZmC hu I3 g ry rz fun w' s4 I4 rw'=>⟨_,H3,I4,rw',q3⟩
end
section
variable {X:Cx} {pins:List (Addr × Obj)} {σ:St} {H:Hp} {s:Shared} {a:Addr} {kvs:List (Key × V)} {A:Around} {E:Value→Shared→Prop}
end
section
variable {X:Cx} {pins:List (Addr × Obj)} {σ:St} {H:Hp} {s:Shared} {a:Addr} {y:V} {u:Value} {A:Around} {E:Value→Shared→Prop}
end
end L2
namespace HT
open PySem PyProof.Rows
section
open PySem.SeqAt
open PySem.AutoSeq1 (wpAny_loadPart')
open PySem.MeetsSeq PySem.MeetsSeq2 PySem.MeetsSeq3
end
section
variable {prog:Program} {w:World} {A:Around} {E:Value→Shared→Prop} {s:Shared}
def sIx (n d:Nat):Option Int→Nat
 | none=>d
 | some v=>if v < 0 then (v + (n:Int)).toNat else min v.toNat n
theorem sIx_none (n d:Nat):sIx n d none=d:=rfl
theorem sIx_nat (n d k:Nat):sIx n d (some (k:Int))=min k n:=by
 show (if (k:Int) < 0 then ((k:Int) + (n:Int)).toNat else min (k:Int).toNat n)=min k n
 rw [if_neg (by omega),Int.toNat_natCast]
end
end HT
namespace L2
open PySem PySem.Spec PyProof.Rows
abbrev TO:=St→Hp→(Option Int→Hp→Prop)→Prop
def PO (X:Cx) (e:Option Expr) (t:TO):Prop :=
 ∀ (pins:List (Addr × Obj)) (s:Shared) (σ:St) (H:Hp) (Q:Option Int→Hp→Prop),Inv X pins σ H s→t σ H Q →
  wpAny (model X.prog X.w) X.A (evalPart e X.env) (fun u s'=>∃ o H',Inv X pins σ H' s'∧IsPart u o∧Q o H') X.xe s
def Zka:TO:=fun _ H Q=>Q none H
def Zj9 (t:TE):TO:=fun σ H Q=>t σ H fun x H1=>∃ i,x = .int i∧Q (some i) H1
section
variable {X:Cx} {e:Expr} {te:TE} {lo hi:Option Expr} {tl th:TO} {pos p2:Pos}
theorem ZB:PO X none Zka:=by
 intro pins s σ H Q I h
 rw [evalPart_none]
 exact wpAny_pure ⟨none,H,I,.none,h⟩
theorem Zx (h:PE X e te):PO X (some e) (Zj9 te):=by
 intro pins s σ H Q I hw
 rw [evalPart_some]
 refine thn (h pins s σ H _ I hw) fun u s1 ⟨x,H1,I1,r1,q1⟩=>?_
 obtain ⟨i,rfl,q⟩:=q1
 obtain ⟨t,rfl⟩:=r1
 exact ⟨some i,H1,I1,.int i t,q⟩
def SlR (X:Cx) (r:V→Option Int→Option Int→Hp→VK→Prop):Prop :=
 ∀ (pins:List (Addr × Obj)) (s:Shared) (σ:St) (H:Hp) (x:V) (v vl vu:Value) (lo hi:Option Int) (sl:Addr) (Q:VK),Inv X pins σ H s→RelV x v→s.heap.IsSliceOf sl vl vu .none→IsPart vl lo→IsPart vu hi→r x lo hi H Q →
  ∃ T id,typeLookup (.type T) "__getitem__" = pure (some (.builtin id))∧s.TypeIs v T∧wpAny (model X.prog X.w) X.A (getItem v (.ref sl)) (EP X pins σ Q) X.xe s
def tSl (r:V→Option Int→Option Int→Hp→VK→Prop) (te:TE) (tl th:TO):TE:=fun σ H Q=>te σ H fun x H1=>tl σ H1 fun l H2=>th σ H2 fun u H3=>r x l u H3 Q
theorem Zv {r:V→Option Int→Option Int→Hp→VK→Prop} (hr:SlR X r) (he:PE X e te) (hl:PO X lo tl) (hu:PO X hi th):PE X (.Subscript e (.Slice lo hi none p2) pos) (tSl r te tl th):=by
 intro pins s σ H Q I h
 refine Subscript_ (thn (he pins s σ H _ I h) fun v s1 ⟨x,H1,I1,r1,q1⟩=>?_)
 refine wpAny_Slice (thn (hl pins s1 σ H1 _ I1 q1) fun vl s2 ⟨l,H2,I2,pl,q2⟩=>thn (hu pins s2 σ H2 _ I2 q2) fun vu s3 ⟨u,H3,I3,pu,q3⟩=>?_)
 rw [evalPart_none]
 refine wpAny_pure ?_
 have I4:Inv X pins σ H3 { s3 with heap:=s3.heap.push { cls:=.type "slice",data:=.fields #[vl,vu,.none] } }:=I3.kept (t':=s3.toks) fun b ob q=>Heap.get?_push_of_some _ q
 obtain ⟨T,id,hT,ht,hg⟩:=hr pins { s3 with heap:=s3.heap.push { cls:=.type "slice",data:=.fields #[vl,vu,.none] } } σ H3 x v vl vu l u s3.heap.objs.size Q I4 r1 (Heap.IsSliceOf.new ..) pl pu q3
 show wpAny (model X.prog X.w) X.A (subscriptTail e (.Slice lo hi none p2) v (.ref s3.heap.objs.size)) (EP X pins σ Q) X.xe { s3 with heap:=s3.heap.push { cls:=.type "slice",data:=.fields #[vl,vu,.none] } }
 exact tail_any (ops:=[.ref s3.heap.objs.size,v]) ht hT hg (by with_unfolding_all rfl)
def Jk (xs:List V) (lo hi:Option Int):List V:=(xs.drop (HT.sIx xs.length 0 lo)).take (HT.sIx xs.length xs.length hi - HT.sIx xs.length 0 lo)
theorem Zdn (xs:List V) (lo hi:Option Int):(Jk xs lo hi).length≤xs.length:=by
 unfold Jk
 rw [List.length_take,List.length_drop]
 omega
end
def ixN (n:Nat) (i:Int):Option Nat:=if 0≤i then (if i < n then some i.toNat else none) else if -(n:Int)≤i then some (i + n).toNat else none
def atI {α:Type} (xs:List α) (i:Int):Option α:=(ixN xs.length i).bind fun j=>xs[j]?
theorem Zdd {n:Nat} {i:Int} {j:Nat} (h:ixN n i=some j):seqIndex? i n=some j∧j < n∧-(n:Int)≤i∧i < n:=by
 unfold ixN at h
 by_cases h0:0≤i
 ·rw [if_pos h0] at h
  by_cases h1:i < n
  ·rw [if_pos h1] at h
   have e:i.toNat=j:=Option.some.inj h
   exact ⟨by rw [seqIndex_of h0 h1,e],by omega,by omega,h1⟩
  ·rw [if_neg h1] at h; cases h
 ·rw [if_neg h0] at h
  by_cases h1 : -(n:Int)≤i
  ·rw [if_pos h1] at h
   have e:(i + n).toNat=j:=Option.some.inj h
   exact ⟨by rw [seqIndex_neg (by omega) h1,e],by omega,h1,by omega⟩
  ·rw [if_neg h1] at h; cases h
theorem Zds {α:Type} {xs:List α} {i:Int} {v:α} (h:atI xs i=some v):∃ j,seqIndex? i xs.length=some j∧xs[j]?=some v∧j < xs.length∧-(xs.length:Int)≤i∧i < xs.length:=by
 unfold atI at h
 cases e:ixN xs.length i with
 | none=>rw [e] at h; cases h
 | some j =>
  rw [e] at h
  obtain ⟨h1,h2,h3,h4⟩:=Zdd e
  exact ⟨j,h1,h,h2,h3,h4⟩
theorem Zdr {α:Type} {xs:List α} {j:Nat} {v:α} (h:xs[j]?=some v):atI xs (j:Int)=some v:=by
 have hj:j < xs.length:=(List.getElem?_eq_some_iff.mp h).1
 have e:ixN xs.length (j:Int)=some j:=by
  unfold ixN
  rw [if_pos (by omega),if_pos (by omega)]; simp
 unfold atI; rw [e]; exact h
def Zll (b:Expr):Prop:=∀ o i,subscripted b false o i=operate [o,i] (getItem o i)
def IxR (X:Cx) (r:R2):Prop :=
 ∀ (value slice:Expr) (pins:List (Addr × Obj)) (s:Shared) (σ:St) (H:Hp) (x y:V) (v u:Value) (Q:VK),Inv X pins σ H s→RelV x v→RelV y u→r x y H Q →
  subscripted slice false v u=operate [v,u] (getItem v u)→wpAny (model X.prog X.w) X.A (subscriptTail value slice v u) (EP X pins σ Q) X.xe s
def MtR (X:Cx) (id:String) (r:V→List V→Hp→VK→Prop):Prop :=
 ∀ (pins:List (Addr × Obj)) (s:Shared) (σ:St) (H:Hp) (x:V) (xs:List V) (v:Value) (us:List Value) (Q:VK),Inv X pins σ H s→RelV x v→Vals xs us→r x xs H Q →
  wpAny (model X.prog X.w) X.A (call (.builtin id) (v :: us)) (EP X pins σ Q) X.xe s
section
variable {X:Cx} {a b:Expr} {ta tb:TE} {pos:Pos}
theorem ZR {r:R2} (hr:IxR X r) (ha:PE X a ta) (hb:PE X b tb) (hs:Zll b):PE X (.Subscript a b pos) (tOp r ta tb):=by
 intro pins s σ H Q I h
 exact Subscript_ (Znr ha hb I h fun v u s2 x y H2 I2 rx ry q=>hr a b pins s2 σ H2 x y v u Q I2 rx ry q (hs _ _))
def ZnD (K:PySem.W.Frag):R2:=fun x y H Q=>∃ p xs i v,x = .ref p∧y = .int i∧SqL K H p xs∧atI xs i=some v∧Q v H
def ZnY (K:PySem.W.Frag):R2:=fun x y H Q=>∃ p xs i v,x = .ref p∧y = .int i∧SqT K H p xs∧atI xs i=some v∧Q v H
def ZnZ:R2:=fun x y H Q=>∃ z i c,x = .str z∧y = .int i∧z.length≤sizeLine∧atI z.cps.toList i=some c∧Q (.str ⟨#[c]⟩) H
theorem ZG:IxR X (ZnD X.K):=by
 intro value slice pins s σ H x y v u Q I rx ry h hs
 obtain ⟨p,xs,i,z,rfl,rfl,hq,he,q⟩:=h
 cases rx
 obtain ⟨t,rfl⟩:=ry
 obtain ⟨its,r,pl,hz⟩:=I.list hq
 obtain ⟨j,h1,h2,h3,h4,h5⟩:=Zds he
 obtain ⟨w,ew,rw'⟩:=r.get h2
 have hl:=r.length
 have hn:=JX
 have fin:EP X pins σ Q w s:=⟨z,H,I,rw',q⟩
 by_cases h0:0≤i
 ·have hj:i.toNat=j:=by
   rw [seqIndex_of h0 h5] at h1
   exact Option.some.inj h1
  exact item_listR pl.isList h0 (by omega) (by rw [hj]; simpa using ew) fin hs
 ·have hj:(i + (its.toArray.size:Int)).toNat=j:=by
   rw [seqIndex_neg (by omega) h4] at h1
   rw [List.size_toArray,← hl]
   exact Option.some.inj h1
  exact subscriptTail_builtinR (x:=w) pl.isList.typeIs slot_list_getitem.lookup
   (wpAny_getItem_list_neg (Q:=fun r s'=>r=w∧EP X pins σ Q r s') pl.isList (by omega) (by rw [List.size_toArray] <;> omega) (by omega) (by rw [hj]; simpa using ew) ⟨rfl,fin⟩) hs
theorem ZaB:IxR X (ZnY X.K):=by
 intro value slice pins s σ H x y v u Q I rx ry h hs
 obtain ⟨p,xs,i,z,rfl,rfl,hq,he,q⟩:=h
 cases rx
 obtain ⟨t,rfl⟩:=ry
 obtain ⟨its,r,pl,hz⟩:=I.tuple hq
 obtain ⟨j,h1,h2,h3,h4,h5⟩:=Zds he
 obtain ⟨w,ew,rw'⟩:=r.get h2
 have hl:=r.length
 have hn:=JX
 have fin:EP X pins σ Q w s:=⟨z,H,I,rw',q⟩
 exact subscriptTail_builtinR (x:=w) pl.typeIs slot_tuple_getitem.lookup
  (getItem_tuple (j:=j) (Q:=fun r s'=>r=w∧EP X pins σ Q r s') pl (by omega) (by omega) (by rw [List.size_toArray,← hl]; exact h1) (by simpa using ew) ⟨rfl,fin⟩) hs
theorem ZjN:IxR X ZnZ:=by
 intro value slice pins s σ H x y v u Q I rx ry h hs
 obtain ⟨z,i,c,rfl,rfl,hz,he,q⟩:=h
 obtain ⟨t,rfl⟩:=rx
 obtain ⟨t',rfl⟩:=ry
 obtain ⟨j,h1,h2,h3,h4,h5⟩:=Zds he
 have hl:z.cps.toList.length=z.length:=by simp [Str.length]
 rw [hl] at h1 h4 h5
 have hn:=JX
 exact tail_any (typeIs_str s z t) slot_str_getitem.lookup (getItem_str (c:=c) (by
  have e1:decide (i < -(2 ^ 63:Int))=false:=decide_eq_false (by omega)
  have e2:decide (i ≥ 2 ^ 63)=false:=decide_eq_false (by omega)
  rw [e1,e2,Bool.or_false]) (by rw [h1]; simpa using h2) ⟨.str ⟨#[c]⟩,H,I.tok _,⟨_,rfl⟩,q⟩) hs
theorem ZeQ (its:List Value) (n j:Nat) (u:Value):Obj.mapSeq (·.setIfInBounds j u) { cls:=.type "list",data:=.seq its.toArray n }={ cls:=.type "list",data:=.seq (its.set j u).toArray n }:=by
 simp [Obj.mapSeq]
theorem Inv.lst {pins:List (Addr × Obj)} {σ:St} {H:Hp} {s:Shared} {p:Addr} {xs:List V} (I:Inv X pins σ H s) (h:H p=some (.lst xs)) :
  ∃ (its:List Value) (n:Nat),Vals xs its∧s.heap.get? p=some { cls:=.type "list",data:=.seq its.toArray n }∧xs.length≤sizeLine:=by
 obtain ⟨z,its,n,r,e⟩:=I.hok p _ h
 exact ⟨its,n,r,e,z⟩
theorem Inv.lstUpd {pins:List (Addr × Obj)} {σ:St} {H:Hp} {s:Shared} {p:Addr} {xs ys:List V} {its its':List Value} {n n':Nat} {f:Obj→Obj} (I:Inv X pins σ H s) (h:H p=some (.lst xs))
  (ho:s.heap.get? p=some { cls:=.type "list",data:=.seq its.toArray n }) (hf:f { cls:=.type "list",data:=.seq its.toArray n }={ cls:=.type "list",data:=.seq its'.toArray n' }) (r:Vals ys its') (hz:ys.length≤sizeLine) (t:Nat) :
  Inv X pins σ (upd H p (.lst ys)) { s with heap:=s.heap.update p f,toks:=t }:=by
 have e:(s.heap.update p f).get? p=some { cls:=.type "list",data:=.seq its'.toArray n' }:=by
  rw [Heap.get?_update_self f ho (by rw [hf] <;> rfl),hf]
 refine I.write (x:=p) (e:=p) (by rw [h]; trivial) (.inl rfl) (fun b u hb q=>(Heap.get?_update_other _ _ (Ne.symm hb)).trans q) ⟨_,e⟩ ?_
 exact ⟨hz,its',n',r,e⟩
def Zm9:V→V→V→Hp→(Hp→Prop)→Prop:=fun o i v H Q=>∃ p xs k j,o = .ref p∧i = .int k∧H p=some (.lst xs)∧ixN xs.length k=some j∧Q (upd H p (.lst (xs.set j v)))
theorem ZaP:Znv X Zm9:=by
 intro pins s σ H o i v ov iv u Q I ro ri rv h
 obtain ⟨p,xs,k,j,rfl,rfl,hp,hj,q⟩:=h
 cases ro
 obtain ⟨t,rfl⟩:=ri
 obtain ⟨its,n,r,ho,hz⟩:=I.lst hp
 obtain ⟨h1,h2,h3,h4⟩:=Zdd hj
 have hl:=r.length
 have hn:=JX
 have I':Inv X pins σ (upd H p (.lst (xs.set j v))) { s with heap:=s.heap.update p (Obj.mapSeq (·.setIfInBounds j u)) } :=
  I.lstUpd hp ho (ZeQ its n j u) (r.set rv j) (by rw [List.length_set]; exact hz) s.toks
 by_cases h0:0≤k
 ·have hk:k.toNat=j:=by
   rw [seqIndex_of h0 h4] at h1
   exact Option.some.inj h1
  exact PySem.W.ki_setAt ho h0 (by omega) (by rw [List.size_toArray,← hl]; exact h4) (by rw [hk]; exact ⟨_,I',q⟩)
 ·have hk:(k + (its.toArray.size:Int)).toNat=j:=by
   rw [seqIndex_neg (by omega) h3] at h1
   rw [List.size_toArray,← hl]
   exact Option.some.inj h1
  exact PySem.W.ki_setBack ho (by omega) (by rw [List.size_toArray,← hl]; exact h3) (by omega) (by rw [hk]; exact ⟨_,I',q⟩)
theorem ZbL (lo hi:Option Int) (n:Nat):(sliceBounds lo hi none n).1=((HT.sIx n 0 lo:Nat):Int)∧(sliceBounds lo hi none n).2.1=((HT.sIx n n hi:Nat):Int)∧(sliceBounds lo hi none n).2.2=1:=by
 refine ⟨?_,?_,rfl⟩
 ·cases lo with
  | none=>simp [sliceBounds,HT.sIx]
  | some i =>
   simp only [sliceBounds,HT.sIx,Option.getD_none,show (1:Int) > 0 by decide,if_true]
   by_cases h:i < 0
   ·simp only [h,if_true] <;> omega
   ·simp only [h,if_false] <;> omega
 ·cases hi with
  | none=>simp [sliceBounds,HT.sIx]
  | some i =>
   simp only [sliceBounds,HT.sIx,Option.getD_none,show (1:Int) > 0 by decide,if_true]
   by_cases h:i < 0
   ·simp only [h,if_true] <;> omega
   ·simp only [h,if_false] <;> omega
theorem ZaO (its:List Value) (lo hi:Option Int):slicePick its.toArray lo hi none=((its.drop (HT.sIx its.length 0 lo)).take (HT.sIx its.length its.length hi - HT.sIx its.length 0 lo)).toArray:=by
 obtain ⟨h1,h2,h3⟩:=ZbL lo hi its.toArray.size
 unfold slicePick
 rw [h1,h2,h3]
 simp only [sliceRange_one,pick_run,List.size_toArray] <;> rfl
def ZnW (K:PySem.W.Frag):V→Option Int→Option Int→Hp→VK→Prop:=fun x lo hi H Q=>∃ a xs,x = .ref a∧SqL K H a xs∧∀ p,H p=none→Q (.ref p) (upd H p (.lst (Jk xs lo hi)))
theorem Xi:SlR X (ZnW X.K):=by
 intro pins s σ H x v vl vu lo hi sl Q I rx hs pl pu h
 obtain ⟨a,xs,rfl,hx,q⟩:=h
 cases rx
 obtain ⟨its,r,ht,hz⟩:=I.list hx
 have hlen:=r.length
 refine ⟨"list",_,slot_list_getitem.lookup,ht.isList.typeIs,?_⟩
 refine wpAny_getItem_list_slice ht.isList hs pl pu .none (by simp) ?_ (by rw [List.size_toArray] <;> omega)
 rw [ZaO,← hlen]
 refine ⟨.ref s.heap.objs.size,_,I.laid (t':=s.toks) (o:=.lst (Jk xs lo hi)) (fun b ob q=>Heap.get?_push_of_some _ q) (Nat.le_refl _) ?_,rfl,q _ (I.hok.fresh (Nat.le_refl _))⟩
 exact ⟨Nat.le_trans (Zdn xs lo hi) hz,_,0,(r.drop (HT.sIx xs.length 0 lo)).take (HT.sIx xs.length xs.length hi - HT.sIx xs.length 0 lo),Heap.get?_push_size _ rfl⟩
def Zbl:V→Bool
 | .non=>true
 | .bl _=>true
 | .int _=>true
 | .str _=>true
 | _=>false
def eqV:V→V→Bool
 | .non,.non=>true
 | .bl a,.bl b=>a == b
 | .bl a,.int b=>(if a then 1 else 0) == b
 | .int a,.bl b=>a == (if b then 1 else 0)
 | .int a,.int b=>a == b
 | .str a,.str b=>a == b
 | _,_=>false
theorem Zmx {A:Around} {s:Shared} {y x:V} {u v:Value} (ry:RelV y u) (rx:RelV x v) (fy:Zbl y=true) (fx:Zbl x=true):SeqAt.EqAt A s u v (eqV y x):=by
 cases y with
 | non =>
  cases ry
  cases x with
  | non=>cases rx; exact SeqAt.EqAt.same _
  | bl b=>cases rx; exact SeqAt.EqAt.none_bool b
  | int b=>obtain ⟨t,rfl⟩:=rx; exact SeqAt.EqAt.none_int b t
  | str b=>obtain ⟨t,rfl⟩:=rx; exact SeqAt.EqAt.none_str b t
  | _=>exact absurd (show false=true from fx) Bool.false_ne_true
 | bl a =>
  cases ry
  cases x with
  | non=>cases rx; exact SeqAt.EqAt.bool_none a
  | bl b=>cases rx; exact SeqAt.EqAt.bool_bool a b
  | int b=>obtain ⟨t,rfl⟩:=rx; exact SeqAt.EqAt.bool_int a b t
  | str b=>obtain ⟨t,rfl⟩:=rx; exact SeqAt.EqAt.bool_str a b t
  | _=>exact absurd (show false=true from fx) Bool.false_ne_true
 | int a =>
  obtain ⟨t',rfl⟩:=ry
  cases x with
  | non=>cases rx; exact SeqAt.EqAt.int_none a t'
  | bl b=>cases rx; exact SeqAt.EqAt.int_bool a t' b
  | int b=>obtain ⟨t,rfl⟩:=rx; exact SeqAt.EqAt.int_int a t' b t
  | str b=>obtain ⟨t,rfl⟩:=rx; exact SeqAt.EqAt.int_str a t' b t
  | _=>exact absurd (show false=true from fx) Bool.false_ne_true
 | str a =>
  obtain ⟨t',rfl⟩:=ry
  cases x with
  | non=>cases rx; exact SeqAt.EqAt.str_none a t'
  | bl b=>cases rx; exact SeqAt.EqAt.str_bool a t' b
  | int b=>obtain ⟨t,rfl⟩:=rx; exact SeqAt.EqAt.str_int a t' b t
  | str b=>obtain ⟨t,rfl⟩:=rx; exact SeqAt.EqAt.str_str a t' b t
  | _=>exact absurd (show false=true from fx) Bool.false_ne_true
 | _=>exact absurd (show false=true from fy) Bool.false_ne_true
def eqU (x:V) (u:Value):Bool:=match u with
 | .none=>eqV .non x
 | .bool b=>eqV (.bl b) x
 | .int i _=>eqV (.int i) x
 | .str z _=>eqV (.str z) x
 | _=>false
theorem ZjT {x y:V} {u:Value} (r:RelV y u) (f:Zbl y=true):eqU x u=eqV y x:=by
 cases y with
 | non=>cases r; rfl
 | bl b=>cases r; rfl
 | int i=>obtain ⟨t,rfl⟩:=r; rfl
 | str z=>obtain ⟨t,rfl⟩:=r; rfl
 | _=>exact absurd (show false=true from f) Bool.false_ne_true
theorem Zdt {x:V}:∀ {xs:List V} {us:List Value},Vals xs us→xs.all Zbl=true→us.any (eqU x)=xs.any fun y=>eqV y x
 | _,_,.nil,_=>rfl
 | y :: xs,u :: us,.cons r t,f=>by
  rw [List.all_cons,Bool.and_eq_true] at f
  rw [List.any_cons,List.any_cons,ZjT r f.1,Zdt t f.2]
theorem Zbc {A:Around} {s:Shared} {x:V} {v:Value} (rx:RelV x v) (fx:Zbl x=true):∀ {xs:List V} {us:List Value},Vals xs us→xs.all Zbl=true→∀ u∈us,SeqAt.EqAt A s u v (eqU x u)
 | _,_,.nil,_=>fun u hu=>by cases hu
 | y :: xs,u :: us,.cons r t,f=>fun u' hu=>by
  rw [List.all_cons,Bool.and_eq_true] at f
  rcases List.mem_cons.mp hu with rfl | hu
  ·rw [ZjT r f.1]; exact Zmx r rx f.1 fx
  ·exact Zbc rx fx t f.2 u' hu
def inV (x:V) (xs:List V):Bool:=xs.any fun y=>eqV y x
def rIn (K:PySem.W.Frag) (neg:Bool):R2:=fun x y H Q=>∃ p xs,y = .ref p∧(SqL K H p xs∨SqT K H p xs)∧Zbl x=true∧xs.all Zbl=true∧Q (.bl (if neg then !inV x xs else inV x xs)) H
theorem Jd:OpR X (compareOp .NotIn) (rIn X.K true):=by
 intro pins s σ H x y v u Q I rx ry h
 obtain ⟨p,xs,rfl,hq,fx,fs,q⟩:=h
 cases ry
 rcases hq with hq | hq
 ·obtain ⟨its,r,pl,hz⟩:=I.list hq
  refine SeqAt.notIn_listAt (eqU x) pl.isList (fun w hw=>Zbc rx fx r fs w (by simpa using hw)) ⟨.bl _,H,I,rfl,?_⟩
  rw [show its.toArray.any (eqU x)=its.any (eqU x) by simp,Zdt r fs]
  exact q
 ·obtain ⟨its,r,pl,hz⟩:=I.tuple hq
  refine SeqAt.notIn_tupleAt (eqU x) pl (fun w hw=>Zbc rx fx r fs w (by simpa using hw)) ⟨.bl _,H,I,rfl,?_⟩
  rw [show its.toArray.any (eqU x)=its.any (eqU x) by simp,Zdt r fs]
  exact q
theorem Y4:CallR X (.type "list") (fun xs H Q=>∃ p ys,xs=[.ref p]∧(SqL X.K H p ys∨SqT X.K H p ys)∧∀ l,H l=none→Q (.ref l) (upd H l (.lst ys))):=by
 intro pins s σ H xs us Q I r h
 obtain ⟨p,ys,rfl,hq,q⟩:=h
 obtain ⟨u,rfl,rx⟩:=Xg r
 cases rx
 have fin:∀ (its:List Value),Vals ys its→ys.length≤sizeLine→∀ (h':Heap) (c':Nat),(∀ b o',s.heap.get? b=some o'→h'.get? b=some o') →
   h'.get? s.heap.objs.size=some { cls:=.type "list",dict:=none,data:=.seq its.toArray c',slots:=#[] }→EP X pins σ Q (.ref s.heap.objs.size) { s with heap:=h' }:=fun its r' hz h' c' kp e =>
  ⟨.ref s.heap.objs.size,_,I.laid (t':=s.toks) kp (Nat.le_refl _) (show ObjOk X.prog X.w _ h' _ (.lst ys) from ⟨hz,its,c',r',e⟩),rfl,q _ (I.hok.fresh (Nat.le_refl _))⟩
 rcases hq with hq | hq
 ·obtain ⟨its,r',pl,hz⟩:=I.list hq
  have hlen:=r'.length
  obtain ⟨o,ho,hc,n,hd⟩:=pl.isList
  exact call_list_seq p (.inl rfl) ho hc hd (fun h' c' kp e=>fin its r' hz h' c' kp e) (by simp only [List.size_toArray] <;> omega)
 ·obtain ⟨its,r',pl,hz⟩:=I.tuple hq
  have hlen:=r'.length
  obtain ⟨o,ho,hc,n,hd⟩:=pl
  exact call_list_seq p (.inr rfl) ho hc hd (fun h' c' kp e=>fin its r' hz h' c' kp e) (by simp only [List.size_toArray] <;> omega)
theorem ZJ:CallR X (.type "tuple") (fun xs H Q=>∃ p ys,xs=[.ref p]∧((SqL X.K H p ys∧∀ l,H l=none→Q (.ref l) (upd H l (.tup ys)))∨(SqT X.K H p ys∧Q (.ref p) H))):=by
 intro pins s σ H xs us Q I r h
 obtain ⟨p,ys,rfl,h⟩:=h
 obtain ⟨u,rfl,rx⟩:=Xg r
 cases rx
 rcases h with ⟨hq,q⟩ | ⟨hq,q⟩
 ·obtain ⟨its,r',pl,hz⟩:=I.list hq
  have hlen:=r'.length
  refine call_tuple_list pl.isList (fun h' kp=>?_) (by simp only [List.size_toArray] <;> omega)
  have I1:Inv X pins σ H { s with heap:=h' }:=I.kept (t':=s.toks) kp
  have I2:Inv X pins σ (upd H h'.objs.size (.tup ys)) { s with heap:=h'.push { cls:=.type "tuple",data:=.seq its.toArray } } :=
   I1.laid (t':=s.toks) (fun b o e=>Heap.get?_push_of_some _ e) (Nat.le_refl _) (show ObjOk X.prog X.w _ _ _ (.tup ys) from ⟨hz,its,r',IsTup.new _ _,Zd3 rfl rfl⟩)
  exact ⟨.ref h'.objs.size,_,I2,rfl,q _ (I1.hok.fresh (Nat.le_refl _))⟩
 ·obtain ⟨its,r',pl,hz⟩:=I.tuple hq
  exact call_tuple_same pl ⟨.ref p,H,I,rfl,q⟩
def tyV (K:PySem.W.Frag) (T:String) (x:V) (H:Hp):Prop:=match x with
 | .str _=>T = "str"
 | .int _=>T = "int"
 | .ref p=>(T = "list"∧∃ xs,SqL K H p xs)∨(T = "tuple"∧∃ o,K.lookup p=some o∧o.cls = .type "tuple"∧o.dict=none) ∨
   (T = "dict"∧((∃ kvs,H p=some (.dK kvs))∨∃ kvs,H p=some (.dT kvs)))∨(T = "set"∧∃ S n,H p=some (.set S n))
 | _=>False
theorem Zja {pins:List (Addr × Obj)} {σ:St} {H:Hp} {s:Shared} {T:String} {x:V} {v:Value} (I:Inv X pins σ H s) (r:RelV x v) (ty:tyV X.K T x H) :
  s.TypeIs v T∧∀ a,v = .ref a→∃ ob,s.heap.get? a=some ob∧ob.dict=none:=by
 cases x with
 | str z =>
  obtain ⟨t,rfl⟩:=r
  cases (show T = "str" from ty)
  exact ⟨typeIs_str s z t,fun _ e=>nomatch e⟩
 | int i =>
  obtain ⟨t,rfl⟩:=r
  cases (show T = "int" from ty)
  exact ⟨typeIs_int s i t,fun _ e=>nomatch e⟩
 | ref p =>
  cases r
  rcases ty with ⟨rfl,xs,hq⟩ | ⟨rfl,o,hk,hc,hd⟩ | ⟨rfl,hk⟩ | ⟨rfl,S,n,hk⟩
  ·obtain ⟨its,_,pl,_⟩:=I.list hq
   refine ⟨pl.isList.typeIs,fun a e=>?_⟩
   cases e
   obtain ⟨o,n,e,c,hd,_⟩:=pl
   exact ⟨o,e,hd⟩
  ·refine ⟨⟨o,I.kIn p o hk,hc⟩,fun a e=>?_⟩
   cases e
   exact ⟨o,I.kIn _ o hk,hd⟩
  ·have z:∃ o,s.heap.get? p=some o∧o.ExactDict:=by
    rcases hk with ⟨kvs,hk⟩ | ⟨kvs,hk⟩
    ·obtain ⟨_,_,_,_,o,_,_,e,ex,_⟩:=I.hok p _ hk
     exact ⟨o,e,ex⟩
    ·obtain ⟨_,_,_,_,o,_,_,e,ex,_⟩:=I.hok p _ hk
     exact ⟨o,e,ex⟩
   obtain ⟨o,e,ex⟩:=z
   refine ⟨⟨o,e,ex.1⟩,fun a e2=>?_⟩
   cases e2
   exact ⟨o,e,ex.2.1⟩
  ·obtain ⟨o,_,_,_,e,ex,_⟩:=I.hok p _ hk
   refine ⟨⟨o,e,ex.1⟩,fun a e2=>?_⟩
   cases e2
   exact ⟨o,e,ex.2.1⟩
 | _=>exact False.elim ty
def ZnU (K:PySem.W.Frag) (T:String) (r:V→List V→Hp→VK→Prop) (to:TE):TE:=fun σ H Q=>to σ H fun x H1=>tyV K T x H1∧r x [] H1 Q
def tBM (K:PySem.W.Frag) (T:String) (r:V→List V→Hp→VK→Prop) (to:TE) (t:TA):TE:=fun σ H Q=>to σ H fun x H1=>tyV K T x H1∧t σ H1 fun xs H2=>r x xs H2 Q
variable {o e:Expr} {es:List Expr} {to:TE} {t:TA} {name:Str} {apos cpos:Pos} {T id:String} {r:V→List V→Hp→VK→Prop}
theorem YV (pa:PlainAttrs T) (slot:Slot T name id) (hty:typeOf (.builtin id)=pure (.type "method_descriptor")) (hm:MtR X id r) (ho:PE X o to)
  (hbase:attributeBase o name X.env (eval o X.env)=eval o X.env:=by rfl) (hline:(apos.endLine == cpos.line)=true:=by rfl):PE X (.Call (.Attribute o name apos) [] [] cpos) (ZnU X.K T r to):=by
 intro pins s σ H Q I h
 refine wpAny_Call_method0_late hbase hline (thn (ho pins s σ H _ I h) fun v s1 ⟨x,H1,I1,r1,ty,q1⟩=>?_)
 obtain ⟨h1,h2⟩:=Zja I1 r1 ty
 exact ⟨T,id,pa,slot,hty,h1,h2,Calls.callWith_builtin rfl (PySem.evalArgs_none (hm pins s1 σ H1 x [] v [] Q I1 r1 .nil q1))⟩
theorem ZcU (pa:PlainAttrs T) (slot:Slot T name id) (hty:typeOf (.builtin id)=pure (.type "method_descriptor")) (hm:MtR X id r) (ho:PE X o to) (ha:PA X (e :: es) t)
  (hbase:attributeBase o name X.env (eval o X.env)=eval o X.env:=by rfl)
  (hfew:((backTo cpos (starEach (e :: es) X.env)).all (fun x=>!x.1) && (backToKw cpos (keywordEach [] X.env)).all (fun x=>x.1.isSome)
   && decide ((e :: es).length + ([]:List Keyword).length + (if ([]:List Keyword).isEmpty then 0 else 1) < 30))=true:=by rfl)
  (hline:(apos.endLine == cpos.line)=true:=by rfl) (hs:starEach (e :: es) X.env=(false,eval e X.env) :: starEach es X.env:=by rfl) (hplain:(backTo cpos (starEach es X.env)).any (·.1)=false:=by rfl) :
  PE X (.Call (.Attribute o name apos) (e :: es) [] cpos) (tBM X.K T r to t):=by
 intro pins s σ H Q I h
 refine wpAny_Call_method_late hbase hfew hline rfl (thn (ho pins s σ H _ I h) fun v s1 ⟨x,H1,I1,r1,ty,q1⟩=>?_)
 obtain ⟨h1,h2⟩:=Zja I1 r1 ty
 refine ⟨T,id,pa,slot,hty,h1,h2,?_⟩
 have hA:=ha cpos pins s1 σ H1 _ I1 q1
 rw [hs] at hA ⊢
 refine Calls.callWith_builtin (by show (false || (backTo cpos (starEach es X.env)).any (·.1))=false; rw [hplain] <;> rfl) (Calls.evalArgs_plain ?_)
 exact thn hA fun us s2 ⟨vs,H2,I2,r2,q2⟩=>hm pins s2 σ H2 x vs v us Q I2 r1 r2 q2
end
def MtM (X:Cx) (id:String) (r:V→List V→Hp→VK→Prop):Prop :=
 ∀ (pins:List (Addr × Obj)) (s:Shared) (σ:St) (H:Hp) (x:V) (xs:List V) (v:Value) (us:List Value) (Q:VK),Inv X pins σ H s→RelV x v→Vals xs us→r x xs H Q →
  wpAny (model X.prog X.w) X.A (call (.builtin id) (v :: us)) (EP X pins σ Q) X.xe s
theorem Vals.one:∀ {x:V} {us:List Value},Vals [x] us→∃ u,us=[u]∧RelV x u
 | _,_,.cons r .nil=>⟨_,rfl,r⟩
theorem Vals.zero:∀ {us:List Value},Vals [] us→us=[]
 | _,.nil=>rfl
theorem Vals.dropLast {xs:List V} {us:List Value} (h:Vals xs us):Vals xs.dropLast us.dropLast:=by
 induction h with
 | nil=>exact .nil
 | cons r t ih =>
  cases t with
  | nil=>exact .nil
  | cons q t'=>exact .cons r ih
theorem Vals.eraseIdx:∀ {xs:List V} {us:List Value} (i:Nat),Vals xs us→Vals (xs.eraseIdx i) (us.eraseIdx i)
 | _,_,_,.nil=>.nil
 | _,_,0,.cons _ t=>t
 | _,_,i + 1,.cons r t=>.cons r (Vals.eraseIdx i t)
theorem Vals.rep {xs:List V} {us:List Value} (h:Vals xs us):∀ k:Nat,Vals (List.replicate k xs).flatten (List.replicate k us).flatten
 | 0=>.nil
 | k + 1=>by
  rw [List.replicate_succ,List.replicate_succ,List.flatten_cons,List.flatten_cons]
  exact Vals.append h (Vals.rep h k)
theorem ZeY {α:Type} (l:List α):l.eraseIdx (l.length - 1)=l.dropLast:=by
 induction l with
 | nil=>rfl
 | cons a r ih =>
  cases r with
  | nil=>rfl
  | cons b r =>
   have e:(a :: b :: r).length - 1=((b :: r).length - 1) + 1:=by
    have h1:(a :: b :: r).length=r.length + 2:=rfl
    have h2:(b :: r).length=r.length + 1:=rfl
    omega
   rw [e,List.eraseIdx_cons_succ,ih]
   all_goals rfl
theorem JY {α:Type}:∀ (l:List α) (i:Nat),(l.eraseIdx i).length≤l.length
 | [],_=>Nat.le_refl _
 | _ :: _,0=>Nat.le_succ _
 | _ :: r,i + 1=>Nat.succ_le_succ (JY r i)
theorem Zcg (its:List Value):∀ (k:Nat) (acc:List Value),
  List.foldl (fun x1 x2=>x1 ++ x2) acc.toArray (List.replicate k its.toArray)=(acc ++ (List.replicate k its).flatten).toArray
 | 0,acc=>by simp
 | k + 1,acc=>by
  have e:acc.toArray ++ its.toArray=(acc ++ its).toArray:=by simp
  have e2:(acc ++ its) ++ (List.replicate k its).flatten=acc ++ (List.replicate (k + 1) its).flatten:=by
   rw [List.replicate_succ,List.flatten_cons,List.append_assoc]
  rw [← e2,← Zcg its k (acc ++ its),← e,List.replicate_succ,List.foldl_cons]
section
variable {X:Cx} {pins:List (Addr × Obj)} {σ:St} {H:Hp} {s:Shared} {l b:Addr} {xs ys zs:List V}
theorem Inv.lset {its its':List Value} {n:Nat} {f:Array Value→Array Value} {t':Nat} (I:Inv X pins σ H s) (hH:H l=some (.lst xs))
  (e:s.heap.get? l=some { cls:=.type "list",data:=.seq its.toArray n }) (hf:f its.toArray=its'.toArray) (hv:Vals ys its') (hz:ys.length≤sizeLine) :
  Inv X pins σ (upd H l (.lst ys)) { s with heap:=s.heap.update l (Obj.mapSeq f),toks:=t' }:=by
 have q:=PySem.IsL.update e f
 rw [hf] at q
 refine I.write (x:=l) (e:=l) (by rw [hH]; exact trivial) (.inl rfl) (fun b' u hb hu=>(Heap.get?_update_other s.heap (Obj.mapSeq f) (Ne.symm hb)).trans hu) ⟨_,q⟩ ?_
 exact ⟨hz,its',_,hv,q⟩
theorem Inv.lnew {its:List Value} {t':Nat} (I:Inv X pins σ H s) (hv:Vals ys its) (hz:ys.length≤sizeLine) :
  Inv X pins σ (upd H s.heap.objs.size (.lst ys)) { s with heap:=s.heap.push { cls:=.type "list",data:=.seq its.toArray },toks:=t' } :=
 I.laid (fun _ _ q=>Heap.get?_push_of_some _ q) (Nat.le_refl _) ⟨hz,its,0,hv,Heap.get?_push_size _ rfl⟩
theorem Inv.fresh (I:Inv X pins σ H s):H s.heap.objs.size=none:=I.hok.fresh (Nat.le_refl _)
theorem Inv.lstM (I:Inv X pins σ H s) (hH:H l=some (.lst xs)):xs.length≤sizeLine∧∃ (its:List Value) (n:Nat),Vals xs its∧xs.length=its.length∧s.heap.get? l=some { cls:=.type "list",data:=.seq its.toArray n }:=by
 obtain ⟨z,its,n,r,e⟩:=I.hok l _ hH
 exact ⟨z,its,n,r,r.length,e⟩
theorem Zd1 {n:Nat} (h:n≤sizeLine):Builtin.List.listTooLong n=false:=by
 unfold Builtin.List.listTooLong
 exact decide_eq_false (by omega)
end
section
variable {X:Cx}
def Zf6:V→List V→Hp→VK→Prop:=fun x vs H Q=>∃ l xs y,x = .ref l∧vs=[y]∧H l=some (.lst xs)∧xs.length < sizeLine∧Q .non (upd H l (.lst (xs ++ [y])))
theorem Zb5:MtM X "list.append" Zf6:=by
 intro pins s σ H x vs v us Q I rx rv h
 obtain ⟨l,xs,y,rfl,rfl,hH,hz,q⟩:=h
 cases rx
 obtain ⟨u,rfl,ru⟩:=rv.one
 obtain ⟨z,its,n,r,hl,e⟩:=I.lstM hH
 refine call_meets F.slot_list_append ⟨_,e,rfl⟩ F.entry_list_append (F.args_list_append_2 _ _) (PySem.list_append l its.toArray n u (by rw [List.size_toArray]; omega)) ⟨e,?_⟩
 refine ⟨.non,_,I.lset (its':=its ++ [u]) hH e (by simp) (r.append (.cons ru .nil)) ?_,rfl,q⟩
 rw [List.length_append,List.length_singleton]
 omega
def Zks:V→List V→Hp→VK→Prop:=fun x vs H Q=>∃ l b xs zs,x = .ref l∧vs=[.ref b]∧H l=some (.lst xs)∧H b=some (.lst zs)∧xs.length + zs.length≤sizeLine∧Q .non (upd H l (.lst (xs ++ zs)))
theorem Zma:MtM X "list.extend" Zks:=by
 intro pins s σ H x vs v us Q I rx rv h
 obtain ⟨l,b,xs,zs,rfl,rfl,hH,hB,hz,q⟩:=h
 cases rx
 obtain ⟨u,rfl,ru⟩:=rv.one
 cases ru
 obtain ⟨z,its,n,r,hl,e⟩:=I.lstM hH
 obtain ⟨z2,its2,n2,r2,hl2,e2⟩:=I.lstM hB
 have hsz:its.toArray.size + its2.toArray.size≤sizeLine:=by rw [List.size_toArray,List.size_toArray]; omega
 have hlong:¬ (!its.toArray.isEmpty && Builtin.List.listTooLong (its.toArray.size + its2.toArray.size))=true:=by
  rw [Zd1 hsz,Bool.and_false]
  exact Bool.false_ne_true
 refine call_meets F.slot_list_extend ⟨_,e,rfl⟩ F.entry_list_extend (F.args_list_extend_2 _ _)
  (AutoSeq1.list_extend_list_list_0 l its.toArray n b its2.toArray n2 hlong (by rw [List.size_toArray]; omega) (by omega)) ⟨e,e2,?_⟩
 refine ⟨.non,_,I.lset (its':=its ++ its2) hH e (by simp) (r.append r2) ?_,rfl,q⟩
 rw [List.length_append]
 omega
def ZnC:V→List V→Hp→VK→Prop:=fun x vs H Q=>∃ l xs y,x = .ref l∧vs=[]∧H l=some (.lst xs)∧xs[xs.length - 1]?=some y∧Q y (upd H l (.lst xs.dropLast))
theorem Zl9:MtM X "list.pop" ZnC:=by
 intro pins s σ H x vs v us Q I rx rv h
 obtain ⟨l,xs,y,rfl,rfl,hH,hy,q⟩:=h
 cases rx
 have hus:=rv.zero
 subst hus
 obtain ⟨z,its,n,r,hl,e⟩:=I.lstM hH
 obtain ⟨u,hu,ru⟩:=r.get hy
 have hy':its.toArray[its.toArray.size - 1]?=some u:=by
  show its.toArray[its.length - 1]?=some u
  rw [← Array.getElem?_toList,← hl]
  exact hu
 refine call_meets F.slot_list_pop ⟨_,e,rfl⟩ F.entry_list_pop (F.args_list_pop_1 _) (MeetsSeq.list_pop_last l its.toArray n u hy' (by rw [List.size_toArray]; omega)) ⟨e,?_⟩
 refine ⟨y,_,I.lset (its':=its.dropLast) hH e ?_ r.dropLast ?_,ru,q⟩
 ·show its.toArray.eraseIdxIfInBounds (its.toArray.size - 1)=its.dropLast.toArray
  rw [List.size_toArray,List.eraseIdxIfInBounds_toArray,ZeY]
 ·rw [List.length_dropLast]
  omega
def Zjr:V→List V→Hp→VK→Prop:=fun x vs H Q=>∃ l xs i k y,x = .ref l∧vs=[.int i]∧H l=some (.lst xs)∧-(2 ^ 63)≤i∧i < 2 ^ 63∧seqIndex? i xs.length=some k∧xs[k]?=some y∧Q y (upd H l (.lst (xs.eraseIdx k)))
theorem Zio:MtM X "list.pop" Zjr:=by
 intro pins s σ H x vs v us Q I rx rv h
 obtain ⟨l,xs,i,k,y,rfl,rfl,hH,h1,h2,hk,hy,q⟩:=h
 cases rx
 obtain ⟨u,rfl,ru⟩:=rv.one
 obtain ⟨t,rfl⟩:=ru
 obtain ⟨z,its,n,r,hl,e⟩:=I.lstM hH
 obtain ⟨w,hw,rw'⟩:=r.get hy
 refine call_meets F.slot_list_pop ⟨_,e,rfl⟩ F.entry_list_pop (F.args_list_pop_2 _ _)
  (MeetsSeq.list_pop_at l its.toArray n i t k w (fitsIndex_both h1 h2) (by rw [List.size_toArray,← hl]; exact hk) (by rw [← Array.getElem?_toList]; exact hw) (by rw [List.size_toArray]; omega)) ⟨e,?_⟩
 refine ⟨y,_,I.lset (its':=its.eraseIdx k) hH e ?_ (r.eraseIdx k) ?_,rw',q⟩
 ·show its.toArray.eraseIdxIfInBounds k=(its.eraseIdx k).toArray
  rw [List.eraseIdxIfInBounds_toArray]
 ·have:=JY xs k
  omega
def Zn0:R2:=fun x y H Q=>∃ l b xs zs,x = .ref l∧y = .ref b∧H l=some (.lst xs)∧H b=some (.lst zs)∧xs.length + zs.length≤sizeLine∧∀ p,H p=none→Q (.ref p) (upd H p (.lst (xs ++ zs)))
theorem ZbT:OpR X (binaryOp .Add) Zn0:=by
 intro pins s σ H x y v u Q I rx ry h
 obtain ⟨l,b,xs,zs,rfl,rfl,hH,hB,hz,q⟩:=h
 cases rx
 cases ry
 obtain ⟨z,its,n,r,hl,e⟩:=I.lstM hH
 obtain ⟨z2,its2,n2,r2,hl2,e2⟩:=I.lstM hB
 refine PySem.P.add_list e e2 ?_ (by rw [List.size_toArray,List.size_toArray]; omega)
 have ea:its.toArray ++ its2.toArray=(its ++ its2).toArray:=by simp
 rw [ea]
 exact ⟨.ref _,_,I.lnew (t':=s.toks) (r.append r2) (by rw [List.length_append]; omega),rfl,q _ I.fresh⟩
def ZnX:R2:=fun x y H Q=>∃ l k xs,x = .ref l∧y = .int k∧H l=some (.lst xs)∧-(2 ^ 63)≤k∧k < 2 ^ 63∧xs.length * k.toNat≤sizeLine ∧
 ∀ p,H p=none→Q (.ref p) (upd H p (.lst (List.replicate k.toNat xs).flatten))
theorem ZkQ {α:Type} (xs:List α) (k:Nat):(List.replicate k xs).flatten.length=k * xs.length:=by
 induction k with
 | zero=>simp
 | succ k ih=>rw [List.replicate_succ,List.flatten_cons,List.length_append,ih,Nat.succ_mul,Nat.add_comm]
theorem ZlW:OpR X (binaryOp .Mult) ZnX:=by
 intro pins s σ H x y v u Q I rx ry h
 obtain ⟨l,k,xs,rfl,rfl,hH,h1,h2,hz,q⟩:=h
 cases rx
 obtain ⟨t,rfl⟩:=ry
 obtain ⟨z,its,n,r,hl,e⟩:=I.lstM hH
 have hlen:its.toArray.size * k.toNat≤sizeLine:=by rw [List.size_toArray,← hl]; exact hz
 have hcap:¬ its.toArray.size * k.toNat > (2 ^ 63 - 1) / 8:=by
  have:(sizeLine:Nat)≤(2 ^ 63 - 1) / 8:=by decide
  omega
 have hfit:¬ (!Builtin.List.listFitsIndex k)=true:=by
  rw [fitsIndex_both h1 h2]
  exact Bool.false_ne_true
 have hlong:¬ Builtin.List.listTooLong (its.toArray.size * k.toNat)=true:=by
  rw [Zd1 hlen]
  exact Bool.false_ne_true
 have hnew:List.foldl (fun x1 x2=>x1 ++ x2) #[] (List.replicate (if its.toArray.isEmpty=true then 0 else k.toNat) its.toArray)=(List.replicate k.toNat its).flatten.toArray:=by
  have f0:∀ m:Nat,List.foldl (fun x1 x2=>x1 ++ x2) #[] (List.replicate m its.toArray)=(List.replicate m its).flatten.toArray:=fun m=>by
   have:=Zcg its m []
   rw [List.nil_append] at this
   exact this
  rw [f0]
  cases its with
  | nil=>simp
  | cons a r'=>rw [if_neg (by simp)]
 refine wpAny_binaryOp_repeat_ref (T:="list") (U:="int") (by decide) ⟨_,e,rfl⟩ (fun s'=>typeIs_int s' k t) noFill_list_mul F.fills_int_mul F.slot_int_rmul repeat_list F.slot_int_index.lookup
  (call_meets F.slot_int_rmul (typeIs_int s k t) F.entry_int_rmul (F.args_int_rmul_2 _ _) (int___rmul___int_list k t l its.toArray n)
   ⟨e,rfl,⟨_,e,rfl⟩,call_meets F.slot_list_mul ⟨_,e,rfl⟩ F.entry_list_mul (F.args_list_mul_2 _ _) (AutoListH.list___mul___list_int_3 l its.toArray n k t hfit hcap hlong) ⟨e,?_⟩⟩)
 rw [hnew]
 exact ⟨.ref _,_,I.lnew (t':=s.toks) (r.rep k.toNat) (by rw [ZkQ,Nat.mul_comm]; exact hz),rfl,q _ I.fresh⟩
end
section
variable {prog:Program} {w:World} {A:Around} {E:Value→Shared→Prop} {s:Shared}
end
section
variable {X:Cx}
end
end L2
namespace Att
open PySem PySem.W PySem.Calls PyProof.Rows
theorem J6 {P:Params} {h:Heap}:∀ (ns:List Int) (vs:List Value),WellAll P h vs (ns.map WData.int)→IntsAre vs ns:=by
 intro ns
 induction ns with
 | nil =>
  intro vs w
  rw [List.map_nil] at w
  cases w
  exact .nil
 | cons n ns ih =>
  intro vs w
  rw [List.map_cons] at w
  cases w with
  | cons a b =>
   cases a
   exact .cons _ _ (ih _ b)
theorem ZfR {l:OpenLaw} {n:Nat} (hn:l.most=some n) {P:Params} {h:Heap} {args:List WData} {vals:List Value}
  (hpre:l.row.toRowW.claim.pre args=true) (hwl:WellAll P h vals args) :
  ∃ a vs ns,vals=[Value.ref a]∧args=[WData.list (ns.map WData.int)]∧h.get? a=some { cls:=.type "list",data:=.seq vs.toArray }∧IntsAre vs ns∧ns.length≤n:=by
 have hsh:WShape.hasAll [] args [.list .int]=true:=(pre_splitW hpre).1
 have hc:l.pre.holds [] { args:=args }=true:=(pre_splitW hpre).2
 obtain ⟨d,r,rfl,h1,h2⟩:=hasAllW_cons hsh
 obtain rfl:=hasAllW_nil h2
 obtain ⟨xs,rfl,h3⟩:=hasW_list h1
 obtain ⟨ns,rfl⟩:=items_int h3
 have hlen:ns.length≤n:=by
  unfold OpenLaw.pre at hc
  have h4:(WTm.not (.lt (.lit (.int (n:Int))) (.len (.arg 0)))).holds [] { args:=[.list (ns.map .int)] }=true:=by
   have h4:=(holds_andW hc).1
   rw [hn] at h4
   exact h4
  have h5:=condW_of h4 (w_not (w_lt w_lit (w_len_list (w_arg rfl))))
  rw [List.length_map] at h5
  refine Nat.le_of_not_lt fun q=>?_
  have q':(n:Int) < ((ns.length:Nat):Int):=by omega
  first
   | (rw [decide_eq_true q'] at h5; exact absurd h5 (by decide))
   | (simp at h5; omega)
 cases hwl with
 | cons w1 w2 =>
  cases w2
  cases w1 with
  | list ho hall=>exact ⟨_,_,ns,rfl,rfl,ho,J6 ns _ hall,hlen⟩
theorem Zgc (l:OpenLaw) (args:List WData):l.row.toRowW.claim.post args (.bool true) args=true :=
 postW_of (r:=l.row.toRowW) (X:=(true == true))
  (show WShape.has [] (.bool true) .bool=true by first | rfl | decide | simp [WShape.has,WShape.arms,WShape.armsAll])
  (show (WTm.eq .res (.lit (.bool true))).value [] { args:=args,res:=some (.bool true),after:=args }=some (.bool (true == true)) from w_eq_bool (w_res rfl) w_lit) rfl
theorem attach_call {l:OpenLaw} {n:Nat} {q:Program} {loose:List Str} {XP:(Str→Option Value)→Heap→Prop} {YP:World→Heap→Prop} {d:DefRec}
  (hn:l.most=some n) (hdf:d.params.defaults=[])
  (call:∀ (w:World) (s₀ s₁:Shared) (mg mb:Str→Option Value) (fa:Addr) (o:Obj) (pm cd doc:Value) (a:Addr) (vs:List Value) (ns:List Int),
   Ground q loose [] XP w s₀ mg mb s₁.heap→YP w s₁.heap →
   s₁.heap.get? fa=some o→o.data = .func (docDef d.name d.params d.body d.scope pm cd doc)→s₁.heap.CodeRec cd d.name→mg d.name=some (.ref fa) →
   s₁.heap.get? a=some { cls:=.type "list",data:=.seq vs.toArray }→IntsAre vs ns→ns.length≤n→s₁.gens = #[] →
   codeAny (model l.prog w) callerA (.call (.ref fa) ⟨[.ref a],[]⟩) (fun r s'=>r = .ok (.ret (.bool true))∧OldK s₁.heap s'.heap∧s'.os=s₁.os∧AllBare s'.gens) s₁) :
  WalkO q loose XP YP l.row.toRowW d [] (fun f vs=>PySem.call f vs):=by
 intro w s₀ s₁ mg mb G Y fa o pm cd doc dV kV ho hd hcd hD hmg hg args vals as hpre hlay hrd hwl hlo
 obtain rfl:dV = .none:=Dflts.none hD hdf
 obtain rfl:kV = .none:=Dflts.noKw hD
 obtain ⟨a,vs,ns,rfl,rfl,hobj,hints,hlen⟩:=ZfR hn hpre hwl
 refine enter_call (codeAny_mono (call w s₀ s₁ mg mb fa o pm cd doc a vs ns G Y ho (fd_plain hd) hcd hmg hobj hints hlen hg) fun r s' hq=>?_)
 obtain ⟨rfl,h2,h3,h4⟩:=hq
 exact ⟨.inl ⟨.bool true,.bool true,[],rfl,fun _=>rfl,.bool true,Zgc l _,fun _=>⟨List.Pairwise.nil,fun _ hm=>(nomatch hm)⟩⟩,h2,h3,h4⟩
section
variable {prog:Program} {w:World} {A:Around} {E:Value→Shared→Prop} {s:Shared} {K:Frag}
def ZnG (h:Heap) (L d:Addr):List (Addr × Obj):=(List.range h.objs.size).filterMap fun a=>if a=L∨a=d then none else (h.get? a).map fun o=>(a,o)
end
end Att
namespace L2
open PySem PySem.Spec PyProof.Rows
theorem ZbD:∀ {vs:List Value} {ns:List Int},IntsAre vs ns→Vals (ns.map V.int) vs
 | _,_,.nil=>.nil
 | _,_,.cons n t h=>.cons ⟨t,rfl⟩ (ZbD h)
def Znw (H:Hp):Prop:=∀ b,H b=none∨∃ o xs,H b=some (.frz o (.lst xs))
theorem Ziy {P:Program} {w:World} {K:PySem.W.Frag} {mg mb:Str→Option Value} {CX:CXT} {k:Nat} {fa a:Addr} {fd:FuncData} {x:Str} {sp:Sp} {s₁:Shared} {vs:List Value} {ns:List Int}
  (KX:K.In s₁.heap) (hns:s₁.heap.Ns mainGlobals mg) (hb:s₁.heap.Ns builtinsNs mb) (hbb:∀ x:Str,x≠"__name__"→mb x=bootBuiltins x) (hlim:s₁.heap.NoLimit) (hg:s₁.gens = #[])
  (ha:s₁.heap.get? a=some { cls:=.type "list",data:=.seq vs.toArray }) (hi:IntsAre vs ns) (hl:ns.length≤sizeLine) (hr:Room k callerA)
  (F:∀ base:Heap,K.In base→base.Ns mainGlobals mg→FnOk P w K mg base CX k fa fd [x] sp) (hbind:∀ (s:Shared) (u:Value),BindsTo s fd ⟨[u],[]⟩ [(x,u)])
  (hsp:∀ H:Hp,Znw H→SqL K H a (ns.map V.int)→sp [.ref a] H (fun v _=>v = .bl true) fun _ _ _=>False)
  (hCX:∀ H e s',CX [] H s₁ (fun _ _ _=>False) e s'→False) :
  codeAny (model P w) callerA (.call (.ref fa) ⟨[.ref a],[]⟩) (fun r s'=>r = .ok (.ret (.bool true))∧OldK s₁.heap s'.heap∧s'.os=s₁.os∧AllBare s'.gens) s₁:=by
 have rv:=ZbD hi
 have lenV:=hi.length
 -- from an abstract heap in which nothing but the script may be tracked
 have core:∀ H:Hp,Znw H→SqL K H a (ns.map V.int)→HOk P w H s₁.heap→(∀ b,H b≠none→b=a)→(H a≠none→K.lookup a=none) →
   codeAny (model P w) callerA (.call (.ref fa) ⟨[.ref a],[]⟩) (fun r s'=>r = .ok (.ret (.bool true))∧OldK s₁.heap s'.heap∧s'.os=s₁.os∧AllBare s'.gens) s₁:=by
  intro H hO hS hok hA hK
  have base_of:∀ {b:Addr} {o:Obj},s₁.heap.get? b=some o→H b=none→(ZiG s₁.heap H).get? b=some o:=fun e n=>ZiF e n
  have noA:∀ {b:Addr} {o:Obj} {es:Array DictEntry} {ep:Nat},s₁.heap.get? b=some o→o.data = .dict es ep→H b=none:=fun {b o es ep} e d=>by
   cases q:H b with
   | none=>rfl
   | some u =>
    have e':b=a:=hA b (by rw [q]; simp)
    subst e'
    rw [ha] at e; cases e
    have d':Data.seq vs.toArray _=Data.dict es ep:=d
    cases d'
  have nsK:∀ {b:Addr} {m:Str→Option Value},s₁.heap.Ns b m→(ZiG s₁.heap H).Ns b m:=fun {b m} ⟨o,es,ep,e,d,r⟩=>⟨o,es,ep,base_of e (noA e d),d,r⟩
  have hKb:K.In (ZiG s₁.heap H):=fun b o e=>base_of (KX b o e) (by
   cases q:H b with
   | none=>rfl
   | some u =>
    have e':b=a:=hA b (by rw [q]; simp)
    subst e'
    rw [hK (by rw [q]; simp)] at e; cases e)
  have hM:Mod K mg (ZiG s₁.heap H):=⟨hKb,nsK hns,⟨mb,nsK hb,hbb⟩,let ⟨mc,h1,h2⟩:=hlim; ⟨mc,nsK h1,h2⟩⟩
  have e0:ZmS P w K mg (ZiG s₁.heap H) callerA [] s₁ H:=⟨rfl,hM,fun b o e=>ZkF e,Nat.le_of_eq (Zg1 _ _),trivial,fun b hb=>absurd (show b∈([]:List Addr) from hb) (by simp),hok,.of_eq hg⟩
  refine codeAny_mono ((F _ hKb (nsK hns)).run callerA [] s₁ H ⟨[.ref a],[]⟩ [.ref a] [.ref a] _ _ hr e0 (hbind s₁ (.ref a)) (.cons rfl .nil) (hsp H hO hS)) fun r s' h=>?_
  cases r with
  | error e=>exact (hCX H e s' h).elim
  | ok fl =>
   cases fl with
   | next=>exact False.elim h
   | brk=>exact False.elim h
   | cont=>exact False.elim h
   | ret u =>
    obtain ⟨v,H',os,bare,un,hok',r',q⟩:=h
    have q':v = .bl true:=q
    subst q'
    obtain rfl:u=Value.bool true:=r'
    refine ⟨rfl,OldK.of_keep fun b o e=>?_,os,bare⟩
    cases q:H b with
    | none=>exact un.keep b o e q (by intro z; exact absurd (show b∈([]:List Addr) from z) (by simp)) (by simp)
    | some u =>
     rcases hO b with z | ⟨ob,xs,z⟩
     ·rw [q] at z; cases z
     ·have z2:=un.frzs b ob _ z
      obtain ⟨e1,_⟩:=hok b _ z
      obtain ⟨e2,_⟩:=hok' b _ z2
      rw [e] at e1; cases e1
      exact e2
 cases hk:K.lookup a with
 | some o =>
  -- the script is one of the module's own objects
  have e:=KX a o hk
  rw [ha] at e
  cases e
  refine core (fun _=>none) (fun _=>.inl rfl) (.inr ⟨_,vs.toArray,_,hk,rfl,rfl,rfl,by rw [List.size_toArray,lenV]; exact hl,by simpa using rv⟩) (fun b u z=>by have z':(none:Option HO)=some u:=z; cases z') (fun b z=>absurd rfl z) fun z=>absurd rfl z
 | none =>
  refine core (fun b=>if b=a then some (.frz { cls:=.type "list",data:=.seq vs.toArray } (.lst (ns.map V.int))) else none) (fun b=>?_) (.inl (.inr ⟨{ cls:=.type "list",data:=.seq vs.toArray },if_pos rfl⟩)) (fun b u z=>?_) (fun b z=>?_) fun _=>hk
  ·by_cases hb:b=a
   ·exact .inr ⟨_,_,if_pos hb⟩
   ·exact .inl (if_neg hb)
  ·by_cases hb:b=a
   ·have z':=(if_pos hb).symm.trans z
    cases z'
    subst hb
    exact ⟨ha,by rw [List.length_map]; exact hl,vs,_,rv,ha⟩
   ·have z':=(if_neg hb).symm.trans z
    cases z'
  ·by_cases hb:b=a
   ·exact hb
   ·exact absurd (if_neg hb) z
theorem walk_of {l:PySem.W.OpenLaw} {n k:Nat} {q:Program} {loose:List Str} {XP:(Str→Option Value)→Heap→Prop} {YP:World→Heap→Prop} {d:DefRec} {K:Params→PySem.W.Frag} {CX:World→CXT} {sp:World→Sp} {x:Str}
  (hn:l.most=some n) (hn2:n≤sizeLine) (hdf:d.params.defaults=[]) (hr:Room k callerA)
  (hY:∀ (w:World) (h:Heap),YP w h→(K w.params).In h)
  (F:∀ (w:World) (mg:Str→Option Value) (fa:Addr) (h:Heap),(K w.params).In h→h.Ns mainGlobals mg→mg d.name=some (.ref fa) →
   ∃ fd:FuncData,(∀ (s:Shared) (u:Value),BindsTo s fd ⟨[u],[]⟩ [(x,u)]) ∧
    ∀ base:Heap,(K w.params).In base→base.Ns mainGlobals mg→FnOk l.prog w (K w.params) mg base (CX w) k fa fd [x] (sp w))
  (hsp:∀ (w:World) (H:Hp) (a:Addr) (ns:List Int),ns.length≤n→Znw H→SqL (K w.params) H a (ns.map V.int)→sp w [.ref a] H (fun v _=>v = .bl true) fun _ _ _=>False)
  (hCX:∀ (w:World) (H:Hp) (s:Shared) (e:Value) (s':Shared),CX w [] H s (fun _ _ _=>False) e s'→False) :
  PySem.W.WalkO q loose XP YP l.row.toRowW d [] (fun f vs=>PySem.call f vs):=by
 refine Att.attach_call hn hdf fun w s₀ s₁ mg mb fa o pm cd doc a vs ns G Y ho hd hcd hmg hobj hints hlen hg=>?_
 have KX:=hY w _ Y
 obtain ⟨fd,hb,hF⟩:=F w mg fa _ KX G.T.g hmg
 exact Ziy KX G.T.g G.T.b G.T.builtins G.T.nolimit hg hobj hints (Nat.le_trans hlen hn2) hr hF hb (fun H hO hS=>hsp w H a ns hlen hO hS) fun H e s'=>hCX w H s₁ e s'
def Y2 (s:Stmt):Arguments:=match s with
 | .FunctionDef _ a _ _ _ _ _ _ _ _=>a
 | _=>{ posonlyargs:=[],args:=[],vararg:=none,kwonlyargs:=[],kw_defaults:=[],kwarg:=none,defaults:=[] }
def Yt (s:Stmt):List Stmt:=match s with
 | .FunctionDef _ _ b _ _ _ _ _ _ _=>b
 | _=>[]
def Zg (s:Stmt):Scope:=match s with
 | .FunctionDef _ _ _ _ _ _ sc _ _ _=>sc
 | _=>{ kind:=.function,names:=[],isGenerator:=false,isCoroutine:=false }
abbrev CX0:CXT:=fun _ _ _ _ _ _=>False
abbrev E0:XK:=fun _ _ _=>False
theorem Zna {X:Cx}:ZhD CX0 X E0:=fun _ _ _ _ _ _ _ h=>h.elim
structure Fun (K:PySem.W.Frag) (x qual:Str) (st:Stmt) (f:Addr) (fd:FuncData):Prop where
 ex:∃ (oc:Value) (od:Option Addr) (kV doc pm:Value) (an:Option Addr) (cdv ct:Value) (osl:Array (Option Value)),
  fd=PySem.W.fnOf x qual (Y2 st) (Yt st) (Zg st) .none kV doc pm an cdv ct∧K.lookup f=some ⟨oc,od,.func fd,osl⟩∧PySem.W.codeIn K cdv qual=true
 kp:PySem.W.keepIn K (.ref f)=true
section
variable {P:Program} {w:World} {K:PySem.W.Frag} {mg:Str→Option Value} {base:Heap}
theorem Fun.ok {x qual:Str} {st:Stmt} {f:Addr} {fd:FuncData} {N ps:List Str} {k:Nat} {sp:Sp} (F:Fun K x qual st f fd) (S:Zo N ps (Zg st)) (len:∀ vs H Q E,sp vs H Q E→vs.length=ps.length)
  (hbody:∀ (cdv:Value) (A:Around) (outer:List Env) (s:Shared) (H:Hp) (vs:List V) (Q:VK) (E:XK),Room k (A.deeper (envOfC qual (Zg st) s.heap.objs.size f cdv))→sp vs H Q E →
   ∃ t,PSs (Zlg CX0 P w K mg base N qual (Zg st) f cdv A outer s H E).nox (Yt st) t∧t { nx:=fun _ H'=>Q .non H',rt:=Q } (ZaL N vs) H):FnOk P w K mg base CX0 (k + 1) f fd ps sp:=by
 obtain ⟨oc,od,kV,doc,pm,an,cdv,ct,osl,rfl,lk,hcd⟩:=F.ex
 refine Zno lk hcd S len fun A outer s H vs Q E hr hsp=>?_
 obtain ⟨t,h,q⟩:=hbody cdv A outer s H vs Q E hr hsp
 exact ⟨t,h.nox,q⟩
theorem Fun.binds {x qual:Str} {st:Stmt} {f:Addr} {fd:FuncData} {ps:List Str} (F:Fun K x qual st f fd)
  (h:∀ (kV doc pm:Value) (an:Option Addr) (cdv ct:Value) (us:List Value),us.length=ps.length→bindArgs (PySem.W.fnOf x qual (Y2 st) (Yt st) (Zg st) .none kV doc pm an cdv ct) ⟨us,[]⟩=pure (ps.zip us)):Binds K fd ps []:=by
 obtain ⟨oc,od,kV,doc,pm,an,cdv,ct,osl,rfl,lk,hcd⟩:=F.ex
 exact .all (h kV doc pm an cdv ct)
theorem Zhb {x qual:Str} {st:Stmt} {f:Addr} {oc:Value} {od an:Option Addr} {osl:Array (Option Value)} {kV doc pm cdv ct:Value} (l:K.lookup f=some ⟨oc,od,.func (PySem.W.fnOf x qual (Y2 st) (Yt st) (Zg st) .none kV doc pm an cdv ct),osl⟩)
  (c:PySem.W.codeIn K cdv qual=true) (k:PySem.W.keepIn K (.ref f)=true):Fun K x qual st f (PySem.W.fnOf x qual (Y2 st) (Yt st) (Zg st) .none kV doc pm an cdv ct):=⟨⟨oc,od,kV,doc,pm,an,cdv,ct,osl,rfl,l,c⟩,k⟩
end
theorem ZeT {A:Around} {k:Nat} (hr:Room k A):A.units + 1 < cLine:=Nat.lt_of_le_of_lt (Nat.add_le_add_left (by decide:1≤64) _) hr.units
theorem ZQ {n:Nat} (h:n≤1000):n < sizeLine:=Nat.lt_of_le_of_lt h (by decide)
section
variable {X:Cx}
theorem pv (i:Nat) {x:Str} {pos:Pos} (hN:X.N[i]?=some x:=by rfl) (hv:Vis X.env.scope x:=by first | exact Or.inl rfl | exact Or.inr (.inl rfl) | exact Or.inr (.inr rfl)) (hd:(x == ("__debug__" : Str))=false:=by decide)
  (hcd:(x == ("__classdict__" : Str))=false:=by decide):PE X (.Name x pos) (ZhF i):=ZlQ hN hv hd hcd
theorem Zhy:CallR X (.builtin "len") (fun xs H Q=>∃ a kvs,xs=[V.ref a]∧H a=some (.dK kvs)∧Q (.int kvs.length) H):=by
 intro pins s σ H xs us Q I r h
 obtain ⟨a,kvs,rfl,ha,q⟩:=h
 obtain ⟨u,rfl,ru⟩:=Xg r
 cases ru
 exact ZmB I (.inl ha) fun t s' I'=>⟨.int kvs.length,H,I',⟨t,rfl⟩,q⟩
end
theorem Zne {A B:Prop} (h:B):if false=true then A else B:=by
 rw [if_neg Bool.false_ne_true]
 exact h
theorem ZnH {A B:Prop} (h:A):if true=true then A else B:=by
 rw [if_pos rfl]
 exact h
theorem Zde {c A B:Prop} [Decidable c] (h1:c→A) (h2:¬ c→B):if c then A else B:=by
 by_cases h:c
 ·rw [if_pos h]
  exact h1 h
 ·rw [if_neg h]
  exact h2 h
def Same (H H':Hp):Prop:=∀ b o,H b=some o→H' b=some o
theorem Same.refl (H:Hp):Same H H:=fun _ _ h=>h
theorem Same.trans {H H1 H2:Hp} (a:Same H H1) (b:Same H1 H2):Same H H2:=fun c o h=>b c o (a c o h)
theorem Same.free {H H':Hp} (e:Same H H') {l:Addr} (h:H' l=Option.none):H l=Option.none:=by
 cases q:H l with
 | none=>rfl
 | some o =>
  rw [e l o q] at h
  cases h
theorem Same.seq {K:PySem.W.Frag} {H H':Hp} {a:Addr} {xs:List V} (e:Same H H') (h:SqL K H a xs):SqL K H' a xs:=by
 rcases h with (h | ⟨o,h⟩) | h
 ·exact .inl (.inl (e _ _ h))
 ·exact .inl (.inr ⟨o,e _ _ h⟩)
 ·exact .inr h
section
variable {κ:Type} [DecidableEq κ]
theorem Zgy:∀ {l:List κ} {k:κ},l.Nodup→¬ k∈l→(l ++ [k]).Nodup
 | [],k,_,_=>by simp
 | a :: r,k,h,hk=>by
  obtain ⟨h1,h2⟩:=List.nodup_cons.mp h
  show (a :: (r ++ [k])).Nodup
  refine List.nodup_cons.mpr ⟨fun m=>?_,Zgy h2 fun m=>hk (List.mem_cons.mpr (Or.inr m))⟩
  rcases List.mem_append.mp m with q | q
  ·exact h1 q
  ·exact hk (List.mem_cons.mpr (Or.inl (List.mem_singleton.mp q).symm))
end
def Y3 (env:Env):List (Str × NameKind)→List (Str × Addr)→List (Str × Addr)
 | [],cs=>cs
 | y :: r,cs=>Y3 env r (if y.2 == NameKind.free then (y.1,(env.cells.lookup y.1).getD 0) :: cs else cs)
theorem J9 {env:Env} (f:Str × NameKind→List (Str × Addr)→Sem (ForInStep (List (Str × Addr)))) :
  ∀ (ns:List (Str × NameKind)) (cs:List (Str × Addr)),(∀ y∈ns,∀ c,f y c=pure (.yield (if y.2 == NameKind.free then (y.1,(env.cells.lookup y.1).getD 0) :: c else c))) →
   forIn ns cs f=pure (Y3 env ns cs)
 | [],cs,_=>rfl
 | y :: r,cs,h=>by
  rw [List.forIn_cons,h y List.mem_cons_self,pure_bind]
  exact J9 f r _ fun z hz=>h z (List.mem_cons_of_mem _ hz)
theorem XN {env:Env} {scope:Scope} (h:∀ y∈scope.names,y.2 = .free→∃ c,env.cells.lookup y.1=some c) :
  closureFor scope env=pure (Y3 env scope.names []):=by
 simp only [closureFor]
 rw [J9 (env:=env) _ _ _ (fun y hy c=>?_)]
 ·rfl
 ·obtain ⟨n,k⟩:=y
  cases hk:(k == NameKind.free) with
  | true =>
   obtain ⟨a,ha⟩:=h (n,k) hy (by simpa using hk)
   have ha':env.cells.lookup n=some a:=ha
   simp only [if_true,cellOf,ha',Option.getD_some,pure_bind]
  | false=>simp only [Bool.false_eq_true,if_false]
theorem Zco {env:Env}:∀ (ns:List (Str × NameKind)) (cs:List (Str × Addr)),(∀ y∈ns,y.2 = .free→∃ c,env.cells.lookup y.1=some c) →
  (∀ n c,cs.lookup n=some c→env.cells.lookup n=some c)→∀ n c,(Y3 env ns cs).lookup n=some c→env.cells.lookup n=some c
 | [],cs,_,h,n,c,e=>h n c e
 | y :: r,cs,hf,h,n,c,e=>by
  refine Zco r _ (fun z hz=>hf z (List.mem_cons_of_mem _ hz)) (fun n c e=>?_) n c e
  split at e
  ·rename_i hk
   obtain ⟨a,ha⟩:=hf y List.mem_cons_self (by simpa using hk)
   rw [ha,Option.getD_some] at e
   cases hn:n == y.1 with
   | true =>
    simp only [List.lookup_cons,hn] at e
    cases e
    rw [eq_of_beq hn]
    exact ha
   | false =>
    simp only [List.lookup_cons,hn] at e
    exact h n c e
  ·exact h n c e
theorem Zad {env:Env}:∀ (ns:List (Str × NameKind)) (cs:List (Str × Addr)) (n:Str),((n,NameKind.free)∈ns∨(cs.lookup n).isSome=true) →
  ((Y3 env ns cs).lookup n).isSome=true
 | [],cs,n,h=>by
  rcases h with h | h
  ·cases h
  ·exact h
 | y :: r,cs,n,h=>by
  refine Zad r _ n ?_
  rcases h with h | h
  ·rcases List.mem_cons.mp h with h | h
   ·right
    subst h
    simp
   ·exact .inl h
  ·right
   split
   ·cases hn:n == y.1 with
    | true=>simp only [List.lookup_cons,hn]; rfl
    | false=>simp only [List.lookup_cons,hn]; exact h
   ·exact h
def Zln (env:Env) (n:Str) (k:NameKind):NameKind:=if (k == NameKind.free && env.scope.kind == .function && env.kindOf n == some .cell)=true then .cell else k
theorem Zar (env:Env) (x:Str):∀ names:List (Str × NameKind),
  (names.map fun (n,k)=>if (k == NameKind.free && env.scope.kind == .function && env.kindOf n == some .cell) then (n,NameKind.cell) else (n,k)).lookup x=(names.lookup x).map (Zln env x)
 | []=>rfl
 | (n,k) :: r=>by
  have ih:=Zar env x r
  have e1:(if (k == NameKind.free && env.scope.kind == .function && env.kindOf n == some .cell)=true then (n,NameKind.cell) else (n,k))=(n,Zln env n k):=by
   unfold Zln
   split <;> rfl
  rw [List.map_cons]
  show List.lookup x ((if (k == NameKind.free && env.scope.kind == .function && env.kindOf n == some .cell)=true then (n,NameKind.cell) else (n,k)) :: _)=_
  rw [e1]
  cases hx:x == n with
  | true =>
   simp only [List.lookup_cons,hx]
   rw [eq_of_beq hx]
   rfl
  | false =>
   simp only [List.lookup_cons,hx]
   exact ih
theorem Jb (scope:Scope) (env:Env) (x:Str):(relabel scope env).names.lookup x=(scope.names.lookup x).map (Zln env x):=Zar env x scope.names
def lcN (N xs:List Str) (mp:List Nat):List Str:=xs ++ mp.map fun j=>N.getD j ""
def lcS (k:Nat) (mp:List Nat) (σ:St):St:=List.replicate k none ++ mp.map fun j=>(σ[j]?).getD none
structure Zlo (sc scope:Scope) (N xs:List Str) (mp:List Nat):Prop where
 kind:scope.kind = .function
 nocell:∀ y∈scope.names,y.2≠.cell
 names:∀ y∈scope.names,y.2 = .local→scope.names.lookup y.1=some .local
 tg:∀ x∈xs,scope.names.lookup x=some .local
 fr:∀ y∈scope.names,y.2 = .free→sc.names.lookup y.1=some .cell∨sc.names.lookup y.1=some .free
 out:∀ j∈mp,scope.names.lookup (N.getD j "")=some .free
 nd:(lcN N xs mp).Nodup
def Zix (sc scope:Scope) (N xs:List Str) (mp:List Nat):Bool :=
 decide (scope.kind = .function) && scope.names.all (fun y=>decide (y.2≠.cell)) && scope.names.all (fun y=>decide (y.2 = .local→scope.names.lookup y.1=some .local)) &&
  xs.all (fun x=>decide (scope.names.lookup x=some .local)) && scope.names.all (fun y=>decide (y.2 = .free→sc.names.lookup y.1=some .cell∨sc.names.lookup y.1=some .free)) &&
  mp.all (fun j=>decide (scope.names.lookup (N.getD j "")=some .free)) && decide (lcN N xs mp).Nodup
theorem Zea {sc scope:Scope} {N xs:List Str} {mp:List Nat} (h:Zix sc scope N xs mp=true):Zlo sc scope N xs mp:=by
 simp only [Zix,Bool.and_eq_true,List.all_eq_true,decide_eq_true_eq] at h
 obtain ⟨⟨⟨⟨⟨⟨h1,h2⟩,h3⟩,h4⟩,h5⟩,h6⟩,h7⟩:=h
 exact ⟨h1,h2,h3,h4,h5,h6,h7⟩
abbrev lcx (X:Cx) (M:List Str) (scope:Scope) (cl:List (Str × Addr)) (C:Addr) (s₀:Shared) (H₀:Hp) (fp:List Addr):Cx where
 prog:=X.prog
 w:=X.w
 K:=X.K
 mg:=X.mg
 base:=X.base
 A:=X.A
 N:=M
 s₀:=s₀
 H₀:=H₀
 env:=compEnvC scope cl C X.env
 outer:=X.stack
 stack:=X.stack
 ex:=fp
 fn:=fun _=>false
 calm:=X.calm
 pn:=[]
 xe:=fun _ _=>False
section
variable {X:Cx} {pins:List (Addr × Obj)} {σ:St} {H₀:Hp} {s₀:Shared} {scope sc:Scope} {N xs:List Str} {mp:List Nat} {fp:List Addr}
theorem Zbe (I:Inv X pins σ H₀ s₀) (hsc:X.env.scope=sc) (S:Zlo sc scope N xs mp):∀ y∈scope.names,y.2 = .free→∃ c,X.env.cells.lookup y.1=some c:=fun y hy e=>by
 refine I.ok.has y.1 ?_
 have q:=S.fr y hy e
 rw [← hsc] at q
 exact q
theorem ZjE (I:Inv X pins σ H₀ s₀) (hsc:X.env.scope=sc) (S:Zlo sc scope N xs mp) {n:Str} {c:Addr} (e:(Y3 X.env scope.names []).lookup n=some c):X.env.cells.lookup n=some c :=
 Zco scope.names [] (Zbe I hsc S) (fun _ _ z=>nomatch z) n c e
theorem Zmd {h₁:Heap} {o:Obj} {m:Str→Option Value} {tk:Nat} (I:Inv X pins σ H₀ s₀) (hsc:X.env.scope=sc) (S:Zlo sc scope N xs mp) (hf:∀ b∈fp,Zcz X pins H₀ b)
  (hx:∀ b∈fp,∃ ob,s₀.heap.get? b=some ob) (hns:h₁.Ns s₀.heap.objs.size m) (hsb:Heap.SameBut s₀.heap.objs.size (s₀.heap.push o) h₁) :
  Inv (lcx X (lcN N xs mp) scope (Y3 X.env scope.names []) s₀.heap.objs.size s₀ H₀ fp) [] (List.replicate (xs.length + mp.length) none) H₀ { s₀ with heap:=h₁,toks:=tk }:=by
 have kp:∀ b u,s₀.heap.get? b=some u→h₁.get? b=some u:=fun b u e=>hsb.extBut b u (Nat.ne_of_lt (Heap.lt_size e)) (Heap.get?_push_of_some _ e)
 have sub:=@ZjE X pins σ H₀ s₀ scope sc N xs mp I hsc S
 refine ⟨⟨I.ok.mod,S.kind,I.ok.glob,I.ok.blt,Nat.le_refl _,fun x y c e1 e2=>I.ok.inj x y c (sub e1) (sub e2),fun x hk=>?_,fun x c h _=>(Bool.false_ne_true h).elim,I.ok.hd,I.ok.frames,.inl rfl,
  fun b hb=>⟨?_,fun x c e=>(hf b hb).2.2.2.2.1 x c (sub e)⟩,fun b o e=>I.bs b o e,Nat.le_trans I.ok.bsz I.sz,fun b o e hb=>?_,fun b hb z=>?_,I.stack,I.stkFree⟩,
  rfl,I.bare,Un.kept kp,⟨m,hns,fun i x v _ e2 _=>?_⟩,fun x c e=>?_,I.hok.fresh (Nat.le_refl _),fun x c e=>I.freeC x c (sub e),fun p hp=>absurd (show p∈([]:List (Addr × Obj)) from hp) (by simp),I.hok.kept kp,?_⟩
 ·have hk':(relabel scope X.env).names.lookup x=some .cell∨(relabel scope X.env).names.lookup x=some .free:=hk
  rw [Jb] at hk'
  cases e:scope.names.lookup x with
  | none=>rw [e] at hk'; rcases hk' with z | z <;> cases z
  | some k =>
   have mem:(x,k)∈scope.names:=PySem.mem_of_lookup e
   have hkf:k = .free:=by
    rw [e] at hk'
    have n1:=S.nocell _ mem
    simp only [Option.map_some,Option.some.injEq] at hk'
    unfold Zln at hk'
    split at hk'
    ·rename_i hc
     simp only [Bool.and_eq_true] at hc
     simpa using hc.1.1
    ·rcases hk' with z | z
     ·exact absurd z n1
     ·exact z
   subst hkf
   exact Option.isSome_iff_exists.mp (Zad scope.names [] x (.inl mem))
 ·obtain ⟨ob,e⟩:=hx b hb
  exact Nat.ne_of_lt (Heap.lt_size e)
 ·rcases (hf b hb).2.2.2.1 with z | z
  ·exact I.ok.noex b o e z
  ·exact absurd (Nat.lt_of_lt_of_le (Heap.lt_size (I.ok.bs b o e).1) z) (Nat.lt_irrefl _)
 ·rcases List.mem_cons.mp (I.stkSub b z) with e | e
  ·exact (hf b hb).2.1 e
  ·exact (hf b hb).2.2.1 e
 ·rw [List.getElem?_replicate] at e2
  split at e2 <;> cases e2
 ·obtain ⟨v,ob,ho,hd⟩:=I.cell x c (sub e)
  exact ⟨v,ob,kp c ob ho,hd⟩
 ·show (List.replicate (xs.length + mp.length) none:St).length=(lcN N xs mp).length
  simp [lcN]
theorem Zd8 {pY:List (Addr × Obj)} {σ':St} {H:Hp} {s':Shared} {C:Addr} (I:Inv X pins σ H₀ s₀) (hsc:X.env.scope=sc) (hN:X.N=N) (S:Zlo sc scope N xs mp) (hf:∀ b∈fp,Zcz X pins H₀ b)
  (J:Inv (lcx X (lcN N xs mp) scope (Y3 X.env scope.names []) C s₀ H₀ fp) pY σ' H s'):Inv (lcx X (lcN N xs mp) scope (Y3 X.env scope.names []) C s₀ H₀ fp) pY (lcS xs.length mp σ) H s':=by
 obtain ⟨m,hn,_⟩:=J.loc
 refine ⟨J.ok,J.os,J.bare,J.base,⟨m,hn,fun i x v e1 e2 e3=>?_⟩,J.cell,J.free,J.freeC,J.pin,J.hok,?_⟩
 ·have e1':(lcN N xs mp)[i]?=some x:=e1
  unfold lcN at e1'
  unfold lcS at e2
  by_cases hi:i < xs.length
  ·rw [List.getElem?_append_left (by simpa using hi),List.getElem?_replicate,if_pos hi] at e2
   cases e2
  ·rw [List.getElem?_append_right (by simpa using hi),List.length_replicate,List.getElem?_map] at e2
   rw [List.getElem?_append_right (by simpa using hi),List.getElem?_map] at e1'
   cases ej:mp[i - xs.length]? with
   | none=>rw [ej] at e2; cases e2
   | some j =>
    rw [ej] at e1' e2
    have e1'':N.getD j "" = x:=Option.some.inj e1'
    have e2':(σ[j]?).getD none=some v:=Option.some.inj e2
    have e2'':σ[j]?=some (some v):=by
     cases q:σ[j]? with
     | none=>rw [q] at e2'; cases e2'
     | some z=>rw [q] at e2'; exact congrArg some e2'
    have hj:j < N.length:=by
     have h1:=(List.getElem?_eq_some_iff.mp e2'').1
     rw [I.len,hN] at h1
     exact h1
    have eN:N[j]?=some x:=by
     rw [← e1'',List.getD_eq_getElem?_getD]
     cases q:N[j]? with
     | none=>exact absurd (List.getElem?_eq_none_iff.mp q) (by omega)
     | some z=>rfl
    have fr:scope.names.lookup x=some .free:=by rw [← e1'']; exact S.out j (List.mem_of_getElem? ej)
    have mem:(x,NameKind.free)∈scope.names:=PySem.mem_of_lookup fr
    have kX:X.env.scope.names.lookup x=some .cell∨X.env.scope.names.lookup x=some .free:=by
     rw [hsc]
     exact S.fr _ mem rfl
    obtain ⟨mX,hnX,hl⟩:=I.loc
    obtain ⟨u,r,lk⟩:=hl j x v (by rw [hN]; exact eN) e2'' (.inr kX)
    rcases lk with ⟨k,_⟩ | ⟨k,c,hc,hcell⟩
    ·have k':X.env.scope.names.lookup x=some .local:=k
     rw [k'] at kX
     rcases kX with z | z <;> cases z
    ·refine ⟨u,r,.inr ⟨?_,c,?_,?_⟩⟩
     ·show (relabel scope X.env).names.lookup x=some .cell∨(relabel scope X.env).names.lookup x=some .free
      rw [Jb,fr]
      simp only [Option.map_some]
      unfold Zln
      split
      ·exact .inl rfl
      ·exact .inr rfl
     ·obtain ⟨c',e'⟩:=Option.isSome_iff_exists.mp (Zad (env:=X.env) scope.names [] x (.inl mem))
      have e'':=ZjE I hsc S e'
      rw [hc] at e''
      cases e''
      exact e'
     ·obtain ⟨ob,ho,hd⟩:=hcell
      obtain ⟨sl,q⟩:=J.base.any ho (I.freeC x c hc) fun z=>(hf c z).2.2.2.2.1 x c hc rfl
      exact ⟨_,q,hd⟩
 ·show (lcS xs.length mp σ).length=(lcN N xs mp).length
  simp [lcS,lcN]
theorem ZkU {pY:List (Addr × Obj)} {σ':St} {H:Hp} {s':Shared} {C:Addr} {M:List Str} {cl:List (Str × Addr)} (I:Inv X pins σ H₀ s₀) (hf:∀ b∈fp,Zcz X pins H₀ b)
  (J:Inv (lcx X M scope cl C s₀ H₀ fp) pY σ' H s'):Inv X pins σ H s' :=
 I.call' (ch:=fp) J.os J.base J.hok J.bare fun b hb=>⟨(hf b hb).2.2.2.1,(hf b hb).2.1,(hf b hb).2.2.2.2.1,(hf b hb).2.2.2.2.2⟩
end
theorem Zdo {prog:Program} {w:World} {A:Around} {R:Result→Shared→Prop} {s:Shared} {elt target iter:Expr} {ifs:List Expr} {scope:Scope} {pos:Pos} {it acc:Value} {env:Env} (I:Nat→Shared→Prop)
  (turn:∀ n s,I n s→wpAny (model prog w) A (pyNext it) (fun r s1=>match r with
   | none=>R (.ok .next) s1
   | some v=>wpAny (model prog w) A (letOwnedTupleGo target it v) (fun _ s1'=>wpAny (model prog w) A (assign target env v) (fun _ s2 =>
     wpAny (model prog w) A (forIn ifs true fun c r=>if r=true then do let ok ← isTrue c env (eval c env); pure (ForInStep.yield ok) else pure (ForInStep.yield r)) (fun ok s3 =>
      if ok=true then wpAny (model prog w) A (eval elt env) (fun x s4=>wpAny (model prog w) A (call (.builtin "list.append") [acc,x]) (fun _ s5=>∃ m,m < n∧I m s5) (fun _ _=>False) s4) (fun _ _=>False) s3
      else ∃ m,m < n∧I m s3) (fun _ _=>False) s2) (fun _ _=>False) s1') (fun _ _=>False) s1) (fun _ _=>False) s)
  (n:Nat) (h:I n s):codeAny (model prog w) A (.compLoop (.ListComp elt [⟨target,iter,ifs,0⟩] scope pos) 0 it acc env) R s:=by
 refine codeAny_loop rfl I (fun n s hI=>?_) n h
 show wpAny (model prog w) A ((compTurn (.ListComp elt [⟨target,iter,ifs,0⟩] scope pos) 0 it acc env).onRaise (fun x=>do noteFrame x env; theTreesLotGoes x)) _ _ s
 refine wpAny_noted ?_
 rw [compTurn_list]
 refine wpAny_bind (wpAny_standAt (wpAny_bind (wpAny_mono (turn n s hI) (fun r s1 h1=>?_) fun _ _ z=>z.elim)))
 cases r with
 | none=>exact wpAny_pure h1
 | some v =>
  refine wpAny_bind (wpAny_mono h1 (fun _ s1' h1'=>?_) fun _ _ z=>z.elim)
  refine wpAny_bind (wpAny_mono h1' (fun _ s2 h2=>wpAny_bind (wpAny_mono h2 (fun ok s3 h3=>?_) fun _ _ z=>z.elim)) fun _ _ z=>z.elim)
  cases ok with
  | false=>exact wpAny_pure ⟨rfl,h3⟩
  | true=>exact wpAny_bind (wpAny_bind (wpAny_mono h3 (fun x s4 h4=>wpAny_bind (wpAny_mono h4 (fun _ s5 h5=>wpAny_pure (wpAny_pure ⟨rfl,h5⟩)) fun _ _ z=>z.elim)) fun _ _ z=>z.elim))
def PCs (X:Cx) (ifs:List Expr) (t:TT):Prop :=
 ∀ (pins:List (Addr × Obj)) (s:Shared) (σ:St) (H:Hp) (Q:Bool→Hp→Prop),Inv X pins σ H s→t σ H Q →
  wpAny (model X.prog X.w) X.A (forIn ifs true fun c r=>if r=true then do let ok ← isTrue c X.env (eval c X.env); pure (ForInStep.yield ok) else pure (ForInStep.yield r)) (TP X pins σ Q) X.xe s
def Zj8:TT:=fun _ H Q=>Q true H
theorem ZP {X:Cx}:PCs X [] Zj8:=fun _ _ _ H _ I h=>wpAny_tests_nil ⟨H,I,h⟩
theorem ZcV {X:Cx} {c:Expr} {t:TT} (h:PT X c t):PCs X [c] t:=fun pins s σ H Q I hw=>wpAny_tests_one (h pins s σ H Q I hw)
def XI (k:Nat) (mp:List Nat) (σ:St) (g:TG) (tc:TT) (te:TE) (J:It) (H1:Hp) (Q:VK):Prop :=
 ∀ D,H1 D=none→∃ W:Nat→Nat→List V→Hp→Prop,(∃ m,W 0 m [] (upd H1 D (.lst [])))∧∀ i m acc H2,W i m acc H2 →
  (J.stop i H2∧Q (.ref D) H2)∨(J.go i H2∧∀ x H3,J.yld i H2 x H3→g x (lcS k mp σ) H3 fun σ4 H4=>tc σ4 H4 fun b H5 =>
   if b=true then te σ4 H5 fun v H6=>H6 D=some (.lst acc)∧acc.length < sizeLine∧∃ m',m' < m∧W (i + 1) m' (acc ++ [v]) (upd H6 D (.lst (acc ++ [v])))
   else ∃ m',m' < m∧W (i + 1) m' acc H5)
def tLc (k:Nat) (mp:List Nat) (wi:TI) (g:TG) (tc:TT) (te:TE):TE:=fun σ H Q=>wi σ H fun J H1=>XI k mp σ g tc te J H1 Q
section
variable {X:Cx} {pins:List (Addr × Obj)} {σ:St} {elt tgt iter:Expr} {ifs:List Expr} {scope sc:Scope} {pos:Pos} {N xs:List Str} {mp:List Nat} {wi:TI} {g:TG} {tc:TT} {te:TE}
theorem ZjF {H2:Hp} {s2:Shared} {it:Addr} {fp:List Addr} {tn:Nat→Heap→Prop} {J:It} {Qv:VK} {E:Value→Shared→Prop} {RR:Value→Addr→Result→Shared→Prop}
  (hsc:X.env.scope=sc) (hN:X.N=N) (S:Zlo sc scope N xs mp) (hcalm:X.calm=true)
  (hg:∀ cl C s₀ H₀ fp,PG (lcx X (lcN N xs mp) scope cl C s₀ H₀ fp) tgt g) (hc:∀ cl C s₀ H₀ fp,PCs (lcx X (lcN N xs mp) scope cl C s₀ H₀ fp) ifs tc) (he:∀ cl C s₀ H₀ fp,PE (lcx X (lcN N xs mp) scope cl C s₀ H₀ fp) elt te)
  (I2:Inv X pins σ H2 s2) (T:ZjY X.prog X.w X.K tgt J fp it tn) (st2:tn 0 s2.heap) (f2:∀ b∈fp,Zcz X pins H2 b) (h:XI xs.length mp σ g tc te J H2 Qv)
  (hRR:∀ (D C:Addr) (s':Shared) (H':Hp) (m:Str→Option Value),s'.heap.Ns C m→Inv X pins σ H' s'→Zcz X pins H' C→Qv (.ref D) H'→RR (.ref D) C (.ok .next) s') :
  wpAny (model X.prog X.w) X.A (newList []) (fun acc s3=>wpAny (model X.prog X.w) X.A (newFunctionEnv scope X.env.globals (Y3 X.env scope.names []) [] X.env.qual none .none (some X.env)) (fun cenv s4 =>
   codeAny (model X.prog X.w) X.A (.compStart (.ListComp elt [⟨tgt,iter,ifs,0⟩] scope pos) 0 (.ref it) acc { cenv with scope:=relabel scope X.env }) (RR acc cenv.locals) s4) E s3) E s2:=by
 have hD:H2 s2.heap.objs.size=none:=I2.hok.fresh (Nat.le_refl _)
 obtain ⟨W,⟨m0,w0⟩,turn⟩:=h s2.heap.objs.size hD
 refine wpAny_newObj_type (wpAny_newFunctionEnv S.nocell (by intro y hy; simp at hy) (fun h1 hns1 hsb1=>?_) S.kind)
 dsimp only at hns1 hsb1 ⊢
 have fpD:∀ b∈fp,b≠s2.heap.objs.size:=fun b hb=>by
  obtain ⟨o,e,_⟩:=T.obj _ _ st2 b hb
  exact Nat.ne_of_lt (Heap.lt_size e)
 have I3:Inv X pins σ (upd H2 s2.heap.objs.size (.lst [])) { s2 with heap:=s2.heap.push { cls:=.type "list",dict:=none,data:=.seq ([]:List Value).toArray } } :=
  I2.laid (t':=s2.toks) (fun b u e=>Heap.get?_push_of_some _ e) (Nat.le_refl _) ⟨Nat.zero_le _,[],0,.nil,Heap.get?_push_size _ rfl⟩
 have f3:∀ b∈fp,Zcz X pins (upd H2 s2.heap.objs.size (.lst [])) b:=fun b hb=>⟨by rw [Zi (fpD b hb)]; exact (f2 b hb).1,(f2 b hb).2⟩
 generalize hs3:({ s2 with heap:=s2.heap.push { cls:=.type "list",dict:=none,data:=.seq ([]:List Value).toArray } }:Shared)=s3 at I3
 have hh3:s2.heap.push { cls:=.type "list",dict:=none,data:=.seq ([]:List Value).toArray }=s3.heap:=by rw [← hs3]
 have kp3:∀ b o,s2.heap.get? b=some o→s3.heap.get? b=some o:=fun b o e=>by rw [← hh3]; exact Heap.get?_push_of_some _ e
 rw [hh3] at hns1 hsb1 ⊢
 have st3:tn 0 s3.heap:=T.keep _ _ _ st2 fun b _ o e=>kp3 b o e
 have x3:∀ b∈fp,∃ o,s3.heap.get? b=some o:=fun b hb=>by
  obtain ⟨o,e,_⟩:=T.obj _ _ st3 b hb
  exact ⟨o,e⟩
 have st4:tn 0 h1:=T.keep _ _ _ st3 fun b _ o e=>hsb1.extBut b o (Nat.ne_of_lt (Heap.lt_size e)) (Heap.get?_push_of_some _ e)
 have I4:=fun tk=>Zd8 I3 hsc hN S f3 (Zmd (tk:=tk) I3 hsc S f3 x3 hns1 hsb1)
 have key:∀ s4:Shared,s4={ s3 with heap:=h1,toks:=s4.toks }→codeAny (model X.prog X.w) X.A (.compLoop (.ListComp elt [⟨tgt,iter,ifs,0⟩] scope pos) 0 (.ref it) (.ref s2.heap.objs.size) (compEnvC scope (Y3 X.env scope.names []) s3.heap.objs.size X.env))
   (RR (.ref s2.heap.objs.size) s3.heap.objs.size) s4:=by
  intro s4 hs4
  have stat:∀ {H':Hp},(∀ b∈fp,H' b=none)→∀ b∈fp,Zcz (lcx X (lcN N xs mp) scope (Y3 X.env scope.names []) s3.heap.objs.size s3 (upd H2 s2.heap.objs.size (.lst [])) fp) [] H' b:=fun hn b hb =>
   ⟨hn b hb,((I4 0).ok.exf b hb).1,(I4 0).ok.exfs b hb,.inl hb,((I4 0).ok.exf b hb).2,fun p hp=>absurd (show p∈([]:List (Addr × Obj)) from hp) (by simp)⟩
  refine Zdo (fun n s'=>∃ i acc H',Inv (lcx X (lcN N xs mp) scope (Y3 X.env scope.names []) s3.heap.objs.size s3 (upd H2 s2.heap.objs.size (.lst [])) fp) [] (lcS xs.length mp σ) H' s'∧tn i s'.heap∧(∀ b∈fp,H' b=none)∧W i n acc H') ?_ m0
   ⟨0,[],_,(by rw [hs4]; exact I4 _),(by rw [hs4]; exact st4),fun b hb=>(f3 b hb).1,w0⟩
  rintro n s6 ⟨i,acc,H6,I6,st6,fr6,w6⟩
  rcases turn i n acc H6 w6 with ⟨stop,q⟩ | ⟨go,step⟩
  ·refine thn (T.done (lcx X (lcN N xs mp) scope (Y3 X.env scope.names []) s3.heap.objs.size s3 (upd H2 s2.heap.objs.size (.lst [])) fp) rfl rfl rfl hcalm i [] s6 _ H6 _ I6 (stat fr6) st6 stop) fun r s7 ⟨hr,I7⟩=>?_
   subst hr
   obtain ⟨m7,hn7,_⟩:=I7.loc
   exact hRR _ _ s7 H6 m7 hn7 (ZkU I3 f3 I7) (I3.fpOk (Nat.le_refl _) I7.free) q
  ·refine thn (T.item (lcx X (lcN N xs mp) scope (Y3 X.env scope.names []) s3.heap.objs.size s3 (upd H2 s2.heap.objs.size (.lst [])) fp) rfl rfl rfl hcalm i [] s6 _ H6 _ I6 (stat fr6) st6 go) fun r s7 ⟨u,hr,h7⟩=>?_
   subst hr
   refine thn h7 fun _ s8 ⟨x,H8,I8,r8,y8,st8,fr8⟩=>?_
   have I8':=I8.pinned (stat fr8) (T.obj _ _ st8)
   have again:∀ {σ':St} {H':Hp} {s':Shared},Inv (lcx X (lcN N xs mp) scope (Y3 X.env scope.names []) s3.heap.objs.size s3 (upd H2 s2.heap.objs.size (.lst [])) fp) ([] ++ ZbQ fp s8.heap) σ' H' s'→(∃ m acc',m < n∧W (i + 1) m acc' H') →
     ∃ m,m < n∧∃ i acc H',Inv (lcx X (lcN N xs mp) scope (Y3 X.env scope.names []) s3.heap.objs.size s3 (upd H2 s2.heap.objs.size (.lst [])) fp) [] (lcS xs.length mp σ) H' s'∧tn i s'.heap∧(∀ b∈fp,H' b=none)∧W i m acc H':=by
    intro σ' H' s' J ⟨m,acc',hm,w'⟩
    refine ⟨m,hm,i + 1,acc',H',Zd8 I3 hsc hN S f3 J.unpinned,T.keep _ _ _ st8 fun b hb o e=>(J.pin (b,o) (List.mem_append_right _ (List.mem_append_right _ (Xb hb e)))).1,fun b hb=>?_,w'⟩
    obtain ⟨o,e,_⟩:=T.obj _ _ st8 b hb
    exact (J.pin (b,o) (List.mem_append_right _ (List.mem_append_right _ (Xb hb e)))).2.1
   refine thn (hg _ _ _ _ _ _ s8 _ H8 x u _ I8' r8 (step x H8 y8)) fun _ s9 ⟨σ9,H9,I9,q9⟩=>?_
   refine thn (hc _ _ _ _ _ _ s9 σ9 H9 _ I9 q9) fun b s10 ⟨H10,I10,q10⟩=>?_
   cases b with
   | false =>
    obtain ⟨m',hm,w'⟩:=q10
    exact again I10 ⟨m',acc,hm,w'⟩
   | true =>
    refine thn (he _ _ _ _ _ _ s10 σ9 H10 _ I10 q10) fun yv s11 ⟨v,H11,I11,r11,hDa,hz,m',hm,w'⟩=>?_
    refine thn (Zb5 _ s11 σ9 H11 (.ref s2.heap.objs.size) [v] (.ref s2.heap.objs.size) [yv] (fun _ H12=>H12=upd H11 s2.heap.objs.size (.lst (acc ++ [v]))) I11 rfl (.cons r11 .nil) ⟨_,acc,v,rfl,rfl,hDa,hz,rfl⟩) fun _ s12 ⟨_,H12,I12,_,e12⟩=>?_
    subst e12
    exact again I12 ⟨m',_,hm,w'⟩
 subst hs3
 exact codeAny_compStart_list (key _ rfl) (T.self X.A 0 _ _ _ st4 (key _ rfl))
theorem ZL (sc:Scope) (N xs:List Str) (mp:List Nat) (hcalm:X.calm=true) (hi:PI X tgt iter wi) (hg:∀ cl C s₀ H₀ fp,PG (lcx X (lcN N xs mp) scope cl C s₀ H₀ fp) tgt g)
  (hc:∀ cl C s₀ H₀ fp,PCs (lcx X (lcN N xs mp) scope cl C s₀ H₀ fp) ifs tc) (he:∀ cl C s₀ H₀ fp,PE (lcx X (lcN N xs mp) scope cl C s₀ H₀ fp) elt te)
  (S:Zix sc scope N xs mp=true:=by decide +kernel) (hsc:X.env.scope=sc:=by rfl) (hN:X.N=N:=by rfl) (hs:∀ x,foldedSetIterable iter X.env x=pure x:=by intro _; rfl) :
  PE X (.ListComp elt [⟨tgt,iter,ifs,0⟩] scope pos) (tLc xs.length mp wi g tc te):=by
 intro pins s σ H Q I h
 have S':=Zea S
 rw [eval_ListComp]
 refine wpAny_comprehension_free (use:=none) rfl hs (XN (Zbe I hsc S')) S'.kind S'.names (thn (hi pins s σ H _ I h) fun v s1 h1=>thn h1 fun itv s2 h2=>?_)
 obtain ⟨it,fp,tn,J,H2,e,I2,T,st2,f2,h3⟩:=h2
 subst e
 refine ZjF (RR:=fun acc C=>compPost (model X.prog X.w) X.A X.xe none (EP X pins σ Q) acc C) hsc hN S' hcalm hg hc he I2 T st2 f2 h3 ?_
 intro D C s' H' m hn I' fC q
 exact ⟨m,hn,fun h' hs'=>⟨.ref D,H',I'.turned (t':=s'.toks) (fun b o hb e=>hs'.extBut b o hb e) fC.1 fC.2.1 fC.2.2.2.1 fC.2.2.2.2.1 fC.2.2.2.2.2,rfl,q⟩⟩
theorem XD {i:Nat} {x:Str} {pos' spos:Pos} (sc:Scope) (N xs:List Str) (mp:List Nat) (hNd:X.N.Nodup) (hix:X.N[i]?=some x) (hx:Loc X.env.scope x) (hcalm:X.calm=true) (hi:PI X tgt iter wi) (hg:∀ cl C s₀ H₀ fp,PG (lcx X (lcN N xs mp) scope cl C s₀ H₀ fp) tgt g)
  (hc:∀ cl C s₀ H₀ fp,PCs (lcx X (lcN N xs mp) scope cl C s₀ H₀ fp) ifs tc) (he:∀ cl C s₀ H₀ fp,PE (lcx X (lcN N xs mp) scope cl C s₀ H₀ fp) elt te)
  (S:Zix sc scope N xs mp=true:=by decide +kernel) (hsw:swapsWith (.ListComp elt [⟨tgt,iter,ifs,0⟩] scope pos) (some (.Name x pos')) spos.line X.env=pure true:=by rfl)
  (hsc:X.env.scope=sc:=by rfl) (hN:X.N=N:=by rfl) (hs:∀ x,foldedSetIterable iter X.env x=pure x:=by intro _; rfl) (hf:X.fn x=true∨X.env.scope.names.lookup x=some .local:=by first | exact .inl rfl | exact .inr rfl | assumption) :
  PS X (.Assign [.Name x pos'] (.ListComp elt [⟨tgt,iter,ifs,0⟩] scope pos) spos) (Zm6 (tLc xs.length mp wi g tc te) (Zak i)):=by
 intro pins s σ H D I h
 have S':=Zea S
 rw [exec_Assign_Name_used _ _ _ _ hsw]
 refine wpAny_bind (wpAny_standAt (wpAny_bind ?_))
 show wpAny (model X.prog X.w) X.A (do let _ ← comprehension (.ListComp elt [⟨tgt,iter,ifs,0⟩] scope pos) scope X.env _ (newList []) false (eval iter X.env) (some (assign (.Name x pos') X.env))) _ _ s
 refine wpAny_bind (wpAny_mono (wpAny_comprehension_free (use:=some (assign (.Name x pos') X.env)) (Q:=fun _ s'=>SP X pins D .next s') rfl hs (XN (Zbe I hsc S')) S'.kind S'.names
  (thn (hi pins s σ H _ I h) fun v s1 h1=>thn h1 fun itv s2 h2=>?_)) (fun _ s' hq=>wpAny_pure (wpAny_pure hq)) fun _ _ e=>e)
 obtain ⟨it,fp,tn,J,H2,e,I2,T,st2,f2,h3⟩:=h2
 subst e
 refine ZjF (RR:=fun acc C=>compPost (model X.prog X.w) X.A X.xe (some (assign (.Name x pos') X.env)) (fun _ s'=>SP X pins D .next s') acc C) hsc hN S' hcalm hg hc he I2 T st2 f2 h3 ?_
 intro D' C s' H' m hn I' fC q
 show wpAny (model X.prog X.w) X.A (assign (.Name x pos') X.env (.ref D')) _ _ s'
 refine wpAny_assign_Name (ZbI I' hNd hix hx (v:=.ref D') rfl (fun s'' I'' ⟨a,sb,ha⟩=>?_) hf)
 have nC:C≠a:=by
  rcases ha with z | z
  ·rw [z]; exact fC.2.1
  ·exact fun e=>fC.2.2.2.2.1 x a z e.symm
 refine ⟨m,hn.sameBut sb nC,fun h' hs'=>⟨_,H',I''.turned (t':=s''.toks) (fun b o hb e=>hs'.extBut b o hb e) fC.1 fC.2.1 fC.2.2.2.1 fC.2.2.2.2.1 fC.2.2.2.2.2,q⟩⟩
end
def TSame (H H':Hp):Prop:=∀ b xs,H b=some (.tup xs)→H' b=some (.tup xs)
theorem Same.tup {H H':Hp} (h:Same H H'):TSame H H':=fun b xs e=>h b _ e
theorem TSame.trans {H H1 H2:Hp} (a:TSame H H1) (b:TSame H1 H2):TSame H H2:=fun c xs e=>b c xs (a c xs e)
theorem Xs {H:Hp} {D:Addr} {xs ys:List V} (h:H D=some (.lst xs)):TSame H (upd H D (.lst ys)):=fun b zs e=>by
 rw [Zi (fun z=>by rw [z,h] at e; cases e)]
 exact e
theorem Zb {H:Hp} {D:Addr} {o:HO} (h:H D=none):Same H (upd H D o):=fun b u e=>by
 rw [Zi (Zj e h)]
 exact e
theorem YL {k:Nat} {mp:List Nat} {σ:St} {g:TG} {te:TE} {J:It} {H1:Hp} {Q:VK} (n:Nat) (xs:Nat→V) (R:Nat→V→Hp→Prop) (hn:n≤sizeLine)
  (hR:∀ i v H H',TSame H H'→R i v H→R i v H')
  (hJ:∀ H,Same H1 H→(∀ i,i < n→J.go i H∧∀ x H',J.yld i H x H'→H'=H∧x=xs i)∧J.stop n H)
  (step:∀ i H (Qe:VK),i < n→Same H1 H→(∀ v H6,Same H H6→R i v H6→Qe v H6)→g (xs i) (lcS k mp σ) H fun σ4 H4=>te σ4 H4 Qe)
  (done:∀ D vs H',vs.length=n→(∀ i v,vs[i]?=some v→R i v H')→Same H1 H'→H1 D=none→H' D=some (.lst vs)→Q (.ref D) H'):XI k mp σ g Zj8 te J H1 Q:=by
 intro D hD
 refine ⟨fun i m acc H=>m=n - i∧i≤n∧acc.length=i∧Same H1 H∧H D=some (.lst acc)∧∀ j v,acc[j]?=some v→R j v H,⟨n,by simp,Nat.zero_le _,rfl,Zb hD,Zc,fun j v e=>by simp at e⟩,?_⟩
 rintro i m acc H ⟨rfl,hi,hl,hs,hDa,hr⟩
 obtain ⟨j1,j2⟩:=hJ H hs
 by_cases hlt:i < n
 ·refine .inr ⟨(j1 i hlt).1,fun x H3 y=>?_⟩
  obtain ⟨e1,e2⟩:=(j1 i hlt).2 x H3 y
  subst e1 e2
  refine step i H3 _ hlt hs fun v H6 s6 r6=>⟨s6 _ _ hDa,by omega,n - (i + 1),by omega,rfl,hlt,by rw [List.length_append,hl]; rfl,fun b o e=>?_,Zc,fun j u e=>?_⟩
  ·rw [Zi (Zj e hD)]
   exact s6 _ _ (hs b o e)
  ·have ts:TSame H6 (upd H6 D (.lst (acc ++ [v]))):=Xs (s6 _ _ hDa)
   rcases Nat.lt_trichotomy j acc.length with h | h | h
   ·rw [List.getElem?_append_left h] at e
    exact hR _ _ _ _ (s6.tup.trans ts) (hr j u e)
   ·subst h
    rw [List.getElem?_append_right (Nat.le_refl _),Nat.sub_self] at e
    cases e
    rw [hl]
    exact hR _ _ _ _ ts r6
   ·rw [List.getElem?_eq_none (by rw [List.length_append,List.length_singleton]; omega)] at e
    cases e
 ·have e:i=n:=by omega
  subst e
  exact .inl ⟨j2,done D acc H hl hr hs hD hDa⟩
theorem YE {K:PySem.W.Frag} {a:Addr} {ys:List V} {H1:Hp} (h:SqL K H1 a ys):∀ H,Same H1 H→(∀ i,i < ys.length→(Itl K a).go i H∧∀ x H',(Itl K a).yld i H x H'→H'=H∧x=ys.getD i .non)∧(Itl K a).stop ys.length H:=fun H s=>by
 have q:=s.seq h
 refine ⟨fun i hi=>⟨⟨ys,ys[i],q,by simp [hi]⟩,fun x H' y=>⟨y.1,?_⟩⟩,⟨ys,q,Nat.le_refl _⟩⟩
 have e:=y.2 ys q
 rw [List.getD_eq_getElem?_getD,e]
 rfl
theorem Same.tupS {K:PySem.W.Frag} {H H':Hp} {a:Addr} {xs:List V} (e:Same H H') (h:SqT K H a xs):SqT K H' a xs:=by
 rcases h with (h | ⟨o,h⟩) | h
 ·exact .inl (.inl (e _ _ h))
 ·exact .inl (.inr ⟨o,e _ _ h⟩)
 ·exact .inr h
theorem ZaA {K:PySem.W.Frag} {a:Addr} {ys:List V} {H1:Hp} (h:SqT K H1 a ys):∀ H,Same H1 H→(∀ i,i < ys.length→(Itt K a).go i H∧∀ x H',(Itt K a).yld i H x H'→H'=H∧x=ys.getD i .non)∧(Itt K a).stop ys.length H:=fun H s=>by
 have q:=s.tupS h
 refine ⟨fun i hi=>⟨⟨ys,ys[i],q,by simp [hi]⟩,fun x H' y=>⟨y.1,?_⟩⟩,⟨ys,q,Nat.le_refl _⟩⟩
 have e:=y.2 ys q
 rw [List.getD_eq_getElem?_getD,e]
 rfl
theorem Zeh {lo:Int} {n:Nat} {H1:Hp}:∀ H,Same H1 H→(∀ i,i < n→(Itr lo n).go i H∧∀ x H',(Itr lo n).yld i H x H'→H'=H∧x = .int (lo + i))∧(Itr lo n).stop n H:=fun H _ =>
 ⟨fun i hi=>⟨hi,fun x H' y=>y⟩,Nat.le_refl _⟩
section
variable {X:Cx}
def ZnB:V→Option Int→Option Int→Hp→VK→Prop:=fun x lo hi H Q=>∃ z:Str,x = .str z∧z.length≤sizeLine∧Q (.str (Txt.slice z lo hi)) H
theorem Z2:SlR X ZnB:=by
 intro pins s σ H x v vl vu lo hi sl Q I rx hs pl pu h
 obtain ⟨z,rfl,hz,q⟩:=h
 obtain ⟨t,rfl⟩:=rx
 have fin:∀ t' k,EP X pins σ Q (.str (Txt.slice z lo hi) t') { s with toks:=k }:=fun t' k=>⟨.str _,H,I.tok _,⟨_,rfl⟩,q⟩
 have hle:(Txt.slice z lo hi).length≤sizeLine:=Nat.le_trans (Txt.slice_le z _ _) hz
 cases pl with
 | none =>
  cases pu with
  | none=>exact ⟨"str",_,F.slot_str_getitem.lookup,typeIs_str _ _ _,wpAny_getItem_str_slice (l:=none) (u:=none) (st:=none) hs rfl (post_val_or_str ⟨hle,fin⟩)⟩
  | int j u=>exact ⟨"str",_,F.slot_str_getitem.lookup,typeIs_str _ _ _,wpAny_getItem_str_slice (l:=none) (u:=some (j,u)) (st:=none) hs rfl (post_val_or_str ⟨hle,fin⟩)⟩
 | int i u' =>
  cases pu with
  | none=>exact ⟨"str",_,F.slot_str_getitem.lookup,typeIs_str _ _ _,wpAny_getItem_str_slice (l:=some (i,u')) (u:=none) (st:=none) hs rfl (post_val_or_str ⟨hle,fin⟩)⟩
  | int j u=>exact ⟨"str",_,F.slot_str_getitem.lookup,typeIs_str _ _ _,wpAny_getItem_str_slice (l:=some (i,u')) (u:=some (j,u)) (st:=none) hs rfl (post_val_or_str ⟨hle,fin⟩)⟩
theorem XT:∀ {ss:List Str} {us:List Value},Vals (ss.map V.str) us→StrsAre us ss
 | [],_,r=>by
  cases r
  exact .nil
 | x :: ss,_,r=>by
  cases r with
  | cons r1 r2 =>
   obtain ⟨t,e⟩:=r1
   subst e
   exact .cons x t (XT r2)
theorem ZbC:∀ {us:List Value} {ss:List Str},StrsAre us ss→Vals (ss.map V.str) us
 | _,_,.nil=>.nil
 | _,_,.cons x t h=>.cons ⟨t,rfl⟩ (ZbC h)
theorem YB:∀ (ns:List Int) (k:Nat),preSum (fun i=>ns.getD i 0) k=(ns.take k).sum
 | ns,0=>by simp [preSum]
 | ns,k + 1=>by
  rw [preSum,YB ns k]
  by_cases h:k < ns.length
  ·rw [List.take_add_one,List.getElem?_eq_getElem h,List.getD_eq_getElem?_getD,List.getElem?_eq_getElem h]
   simp only [List.sum_append,Option.toList_some,List.sum_cons,List.sum_nil,Option.getD_some]
   omega
  ·have h':ns.length≤k:=Nat.le_of_not_lt h
   rw [List.take_of_length_le h',List.take_of_length_le (Nat.le_succ_of_le h'),List.getD_eq_getElem?_getD,List.getElem?_eq_none h']
   simp
theorem Zcp (hc:X.calm=true):CallR X (.builtin "sum") (fun xs H Q=>∃ (a:Addr) (ns:List Int),xs=[.ref a]∧SqL X.K H a (ns.map V.int)∧(∀ n∈ns,InLong n)∧(∀ k,InLong (ns.take k).sum)∧Q (.int ns.sum) H):=by
 intro pins s σ H xs us Q I r h
 obtain ⟨a,ns,rfl,hq,h1,h2,q⟩:=h
 obtain ⟨u,rfl,ru⟩:=Xg r
 cases ru
 obtain ⟨its,rv,pl,hz⟩:=I.list hq
 have hl:=rv.length
 rw [List.length_map] at hl
 have hlt:a < s.heap.objs.size:=by
  obtain ⟨o,n,e,_⟩:=pl
  exact Heap.lt_size e
 refine call_sum_walk (wpAny_pyIter_list pl.isList ⟨s.heap.objs.size,[s.heap.objs.size,a],[s.heap.objs.size],its.toArray.size,_,_,fun i=>ns.getD i 0,rfl,Walks.list (A:=X.A.in1) (I.ok.hd hc) _ _ (Nat.ne_of_lt hlt) its.toArray,
  ⟨⟨_,Heap.get?_push_size _ rfl,rfl,rfl⟩,pl.isList.push _⟩,?_,?_,?_,?_⟩)
 ·intro b hb
  show b < (s.heap.push _).objs.size
  rw [Heap.size_push]
  have:b=s.heap.objs.size∨b=a:=by simpa using hb
  rcases this with z | z
  ·rw [z]; exact Nat.lt_succ_self _
  ·rw [z]; exact Nat.lt_succ_of_lt hlt
 ·intro i v hv
  have e1:its[i]?=some v:=by simpa using hv
  have hi:i < its.length:=(List.getElem?_eq_some_iff.mp e1).1
  have hb:(ns.map V.int)[i]?=some (.int (ns.getD i 0)):=by
   rw [List.getElem?_map,List.getD_eq_getElem?_getD]
   cases e:ns[i]? with
   | none=>exact absurd (List.getElem?_eq_none_iff.mp e) (by omega)
   | some b=>rfl
  obtain ⟨u',hu,ru⟩:=rv.get hb
  rw [e1] at hu
  cases hu
  exact ru
 ·intro j hj
  have hj':j < ns.length:=by rw [hl]; simpa using hj
  refine ⟨?_,?_⟩
  ·show InLong (ns.getD j 0)
   rw [List.getD_eq_getElem?_getD,List.getElem?_eq_getElem hj']
   exact h1 _ (List.getElem_mem hj')
  ·rw [YB]
   exact h2 _
 ·intro h' tk t' kk
  refine ⟨.int ns.sum,H,I.kept fun b o e=>kk b o (by simpa using Nat.ne_of_lt (Heap.lt_size e)) (Heap.get?_push_of_some _ e),⟨t',?_⟩,q⟩
  rw [YB,List.take_of_length_le (by rw [List.size_toArray]; omega)]
theorem Zcq:CallR X (.builtin "sorted") (fun xs H Q=>∃ (a:Addr) (ss:List Str),xs=[.ref a]∧SqL X.K H a (ss.map V.str)∧ss.length < 64 ∧
  ∀ p ss',H p=none→ss'.Perm ss→sortedS ss'=true→Q (.ref p) (upd H p (.lst (ss'.map V.str)))):=by
 intro pins s σ H xs us Q I r h
 obtain ⟨a,ss,rfl,hq,h64,q⟩:=h
 obtain ⟨u,rfl,ru⟩:=Xg r
 cases ru
 obtain ⟨its,rv,pl,hz⟩:=I.list hq
 have hl:=rv.length
 rw [List.length_map] at hl
 refine sorted_strs pl.isList (XT rv) (by omega) fun out ss' a1 a2 a3=>?_
 obtain ⟨e,he⟩:=sortedAll_at s.heap its out
 have hn:H (s.heap.objs.size + 1)=none:=I.hok.fresh (Nat.le_succ _)
 refine ⟨.ref (s.heap.objs.size + 1),_,I.laid (t':=s.toks) (o:=.lst (ss'.map V.str)) (fun b o e=>sortedAll_old e) (Nat.le_succ _) ?_,rfl,q _ _ hn a2 a3⟩
 have hln:ss'.length=ss.length:=a2.length_eq
 refine ⟨by rw [List.length_map,hln]; rw [sizeLine_eq]; omega,out.toList,e,ZbC a1,?_⟩
 rw [he]
def Zn7:V→Option Value
 | .ty n=>some (.type n)
 | .ref a=>some (.ref a)
 | _=>none
theorem Zi2:CallR X (.builtin "isinstance") (fun xs H Q=>∃ (x c:V) (t cv:Value) (b:Bool),xs=[x,c]∧Zex X.K H x t∧Zn7 c=some cv∧PySem.W.kitOne X.K t cv=some b∧Q (.bl b) H):=by
 intro pins s σ H xs us Q I r h
 obtain ⟨x,c,t,cv,b,rfl,ty,rc,e,q⟩:=h
 obtain ⟨u,w',rfl,ru,rw'⟩:=Zfa r
 have ec:w'=cv:=by
  cases c with
  | ty n=>exact (show w'=Value.type n from rw').trans (Option.some.inj rc)
  | ref n=>exact (show w'=Value.ref n from rw').trans (Option.some.inj rc)
  | _=>cases rc
 subst ec
 exact ZgW I ru ty e fun tk=>⟨.bl b,H,I.tok _,rfl,q⟩
end
mutual
def RepD (H:Hp):PyData→V→Prop
 | .none,v=>v = .non
 | .bool b,v=>v = .bl b
 | .int i,v=>v = .int i
 | .str x,v=>v = .str x
 | .tuple ds,v=>∃ a xs,v = .ref a∧H a=some (.tup xs)∧RepA H ds xs
 | .list ds,v=>∃ a xs,v = .ref a∧H a=some (.lst xs)∧RepA H ds xs
 | .dict _,_=>False
def RepA (H:Hp):List PyData→List V→Prop
 | [],xs=>xs=[]
 | d :: ds,xs=>∃ v vs,xs=v :: vs∧RepD H d v∧RepA H ds vs
end
mutual
theorem RepD.same {H H':Hp} (h:Same H H'):∀ (d:PyData) (v:V),RepD H d v→RepD H' d v
 | .none,_,r=>r
 | .bool _,_,r=>r
 | .int _,_,r=>r
 | .str _,_,r=>r
 | .tuple ds,v,r=>by
  rw [RepD] at r ⊢
  obtain ⟨a,xs,e,e2,q⟩:=r
  exact ⟨a,xs,e,h _ _ e2,RepA.same h ds xs q⟩
 | .list ds,v,r=>by
  rw [RepD] at r ⊢
  obtain ⟨a,xs,e,e2,q⟩:=r
  exact ⟨a,xs,e,h _ _ e2,RepA.same h ds xs q⟩
 | .dict _,v,r=>by
  rw [RepD] at r
  exact r.elim
theorem RepA.same {H H':Hp} (h:Same H H'):∀ (ds:List PyData) (vs:List V),RepA H ds vs→RepA H' ds vs
 | [],_,r=>r
 | d :: ds,vs,r=>by
  rw [RepA] at r ⊢
  obtain ⟨v,us,e,q1,q2⟩:=r
  exact ⟨v,us,e,RepD.same h d v q1,RepA.same h ds us q2⟩
end
section
variable {X:Cx} {pins:List (Addr × Obj)} {σ:St} {H:Hp} {s:Shared}
mutual
theorem RepD.reads (I:Inv X pins σ H s):∀ (d:PyData) (v:V) (u:Value),RepD H d v→RelV v u→∃ as,Reads s.heap u d as
 | .none,v,u,r,q=>by
  rw [RepD] at r
  subst r
  cases q
  exact ⟨_,.none⟩
 | .bool b,v,u,r,q=>by
  rw [RepD] at r
  subst r
  cases q
  exact ⟨_,.bool b⟩
 | .int i,v,u,r,q=>by
  rw [RepD] at r
  subst r
  obtain ⟨t,rfl⟩:=q
  exact ⟨_,.int i t⟩
 | .str x,v,u,r,q=>by
  rw [RepD] at r
  subst r
  obtain ⟨t,rfl⟩:=q
  exact ⟨_,.str x t⟩
 | .tuple ds,v,u,r,q=>by
  rw [RepD] at r
  obtain ⟨a,xs,e,e2,q2⟩:=r
  subst e
  cases q
  obtain ⟨its,rv,⟨o,h1,h2,n,h3⟩,_⟩:=I.tuple (SqT.of e2)
  obtain ⟨as,q3⟩:=RepA.reads I ds xs its q2 rv
  exact ⟨_,.tuple h1 h2 h3 (by simpa using q3)⟩
 | .list ds,v,u,r,q=>by
  rw [RepD] at r
  obtain ⟨a,xs,e,e2,q2⟩:=r
  subst e
  cases q
  obtain ⟨its,rv,⟨o,n,h1,h2,_,h3⟩,_⟩:=I.list (SqL.of e2)
  obtain ⟨as,q3⟩:=RepA.reads I ds xs its q2 rv
  exact ⟨_,.list h1 h2 h3 (by simpa using q3)⟩
 | .dict _,v,u,r,q=>by
  rw [RepD] at r
  exact r.elim
theorem RepA.reads (I:Inv X pins σ H s):∀ (ds:List PyData) (vs:List V) (us:List Value),RepA H ds vs→Vals vs us→∃ as,ReadsAll s.heap us ds as
 | [],vs,us,r,q=>by
  rw [RepA] at r
  subst r
  cases q
  exact ⟨_,.nil⟩
 | d :: ds,vs,us,r,q=>by
  rw [RepA] at r
  obtain ⟨v,vs',e,q1,q2⟩:=r
  subst e
  cases q with
  | cons p1 p2 =>
   obtain ⟨as,r1⟩:=RepD.reads I d v _ q1 p1
   obtain ⟨bs,r2⟩:=RepA.reads I ds vs' _ q2 p2
   exact ⟨_,.cons r1 r2⟩
end
end
section
variable {X:Cx}
theorem ZlZ (hu:X.A.units + 64 < cLine):OpR X (compareOp .Eq) (fun x y H Q=>∃ da db,RepD H da x∧RepD H db y∧SeqAt.shaped da=true∧SeqAt.shaped db=true∧Q (.bl (PyData.eqv da db)) H):=by
 intro pins s σ H x y v u Q I rx ry h
 obtain ⟨da,db,r1,r2,s1,s2,q⟩:=h
 obtain ⟨as,q1⟩:=RepD.reads I da x v r1 rx
 obtain ⟨bs,q2⟩:=RepD.reads I db y u r2 ry
 exact eq_dataH q1 q2 s1 s2 hu ⟨.bl _,H,I,rfl,q⟩
end
structure HasDef (K:PySem.W.Frag) (mg:Str→Option Value) (name:Str) (st:Stmt) (ps:List Str):Prop where
 ex:∃ f fd,Fun K name name st f fd∧Binds K fd ps []∧mg name=some (.ref f)
structure FOk (P:Program) (w:World) (K:PySem.W.Frag) (mg:Str→Option Value) (base:Heap) (k:Nat) (name:Str) (ps:List Str) (sp:Sp):Prop where
 ex:∃ f fd,FnOk P w K mg base CX0 k f fd ps sp∧Binds K fd ps []∧mg name=some (.ref f)∧PySem.W.keepIn K (.ref f)=true
section
variable {P:Program} {w:World} {K:PySem.W.Frag} {mg:Str→Option Value} {base:Heap}
theorem HasDef.ok {name:Str} {st:Stmt} {N ps:List Str} {k:Nat} {sp:Sp} (D:HasDef K mg name st ps) (S:Zo N ps (Zg st)) (len:∀ vs H Q E,sp vs H Q E→vs.length=ps.length)
  (hbody:∀ (f:Addr) (cdv:Value) (A:Around) (outer:List Env) (s:Shared) (H:Hp) (vs:List V) (Q:VK) (E:XK),Room k (A.deeper (envOfC name (Zg st) s.heap.objs.size f cdv))→sp vs H Q E →
   ∃ t,PSs (Zlg CX0 P w K mg base N name (Zg st) f cdv A outer s H E).nox (Yt st) t∧t { nx:=fun _ H'=>Q .non H',rt:=Q } (ZaL N vs) H):FOk P w K mg base (k + 1) name ps sp:=by
 obtain ⟨f,fd,F,b,m⟩:=D.ex
 exact ⟨f,fd,F.ok S len fun cdv A outer s H vs Q E=>hbody f cdv A outer s H vs Q E,b,m,F.kp⟩
theorem FOk.mono {name:Str} {ps:List Str} {j k:Nat} {sp:Sp} (G:FOk P w K mg base j name ps sp) (h:j≤k):FOk P w K mg base k name ps sp:=by
 obtain ⟨f,fd,F,r⟩:=G.ex
 exact ⟨f,fd,F.mono h,r⟩
end
theorem Zu {X:Cx} {k:Nat} {name:Str} {ps:List Str} {sp:Sp} {p pos:Pos} {e:Expr} {es:List Expr} {t:TA} (G:FOk X.prog X.w X.K X.mg X.base k name ps sp) (hr:Room k X.A) (ha:PA X (e :: es) t) (hg:Gl X name:=by rfl)
  (hdb:(name == ("__debug__" : Str))=false:=by decide) (he:starEach (e :: es) X.env=(false,eval e X.env) :: starEach es X.env:=by rfl) (hpl:(backTo pos (starEach es X.env)).any (·.1)=false:=by rfl) :
  PE X (.Call (.Name name p) (e :: es) [] pos) (Zlz sp [] E0 t):=by
 obtain ⟨f,fd,F,b,m,kp⟩:=G.ex
 exact Zkz F hr hg m kp b .nil Zna ha hdb he hpl
inductive TyB (H:Hp):V→String→Prop where
 | non:TyB H .non "NoneType"
 | bl (b:Bool):TyB H (.bl b) "bool"
 | int (i:Int):TyB H (.int i) "int"
 | str (x:Str):TyB H (.str x) "str"
 | lst {a:Addr} {xs:List V} (e:H a=some (.lst xs)):TyB H (.ref a) "list"
 | tup {a:Addr} {xs:List V} (e:H a=some (.tup xs)):TyB H (.ref a) "tuple"
 | dK {a:Addr} {kvs:List (Key × V)} (e:H a=some (.dK kvs)):TyB H (.ref a) "dict"
theorem TyB.of {K:PySem.W.Frag} {H:Hp} {x:V} {n:String} (h:TyB H x n):Zex K H x (.type n):=by
 cases h with
 | non=>exact .non
 | bl b=>exact .bl b
 | int i=>exact .int i
 | str x=>exact .str x
 | lst e=>exact .lst e
 | tup e=>exact .tup e
 | dK e=>exact .dK e
def ZaJ:List String:=["NoneType","bool","int","str","list","tuple","dict"]
theorem TyB.mem {H:Hp} {x:V} {n:String} (h:TyB H x n):n∈ZaJ:=by
 cases h <;> simp [ZaJ]
def Zmr (n c:String):Bool:=n == c || (n == "bool" && c == "int")
def Zht:List String:=["int","bool","str","tuple","list"]
def Zn2 (a b:String):Option Bool:=if (Value.type a == Value.type b)=true then some true else if PySem.W.kitMeta b=true then (fastBuiltinMro a).map (·.contains (Value.type b)) else none
theorem ZkW:∀ n∈ZaJ,∀ c∈Zht,Zn2 n c=some (Zmr n c):=by decide +kernel
theorem Zcs {X:Cx}:CallR X (.builtin "isinstance") (fun xs H Q=>∃ (x:V) (c n:String),xs=[x,.ty c]∧c∈Zht∧TyB H x n∧Q (.bl (Zmr n c)) H):=by
 intro pins s σ H xs us Q I r h
 obtain ⟨x,c,n,rfl,hc,ty,q⟩:=h
 exact Zi2 pins s σ H _ us Q I r ⟨x,.ty c,_,_,_,rfl,ty.of,rfl,ZkW n ty.mem c hc,q⟩
theorem ZgX:∀ n∈ZaJ,(Zmr n "int" = true→(!Zmr n "bool")=(n == "int"))∧(¬ Zmr n "int" = true→(n == "int")=false):=by decide
theorem ZmG:bootBuiltins "isinstance" = some (.builtin "isinstance"):=by decide +kernel
theorem ZV:bootBuiltins "len" = some (.builtin "len"):=by decide +kernel
theorem Zli:bootBuiltins "sum" = some (.builtin "sum"):=by decide +kernel
theorem ZmF:bootBuiltins "min" = some (.builtin "min"):=by decide +kernel
theorem Znt:bootBuiltins "max" = some (.builtin "max"):=by decide +kernel
theorem YG:bootBuiltins "sorted" = some (.builtin "sorted"):=by decide +kernel
theorem Znu:bootBuiltins "int" = some (.type "int"):=by decide +kernel
theorem ZmI:bootBuiltins "bool" = some (.type "bool"):=by decide +kernel
theorem Xr:bootBuiltins "tuple" = some (.type "tuple"):=by decide +kernel
theorem Zcy:bootBuiltins "list" = some (.type "list"):=by decide +kernel
theorem ZlR {X:Cx} {x:Str} {c:String} {pos:Pos} (hg:Gl X x) (hm:X.mg x=none) (hv:bootBuiltins x=some (.type c)) (hn:x≠"__name__":=by decide) (hd:(x == ("__debug__" : Str))=false:=by decide):PE X (.Name x pos) (tC (.ty c)) :=
 ZkA hg hm hv (show RelV (.ty c) (.type c) from rfl) hn hd
theorem Yc {X:Cx} {N xs:List Str} {mp:List Nat} {scope:Scope} {cl:List (Str × Addr)} {C:Addr} {s₀:Shared} {H₀:Hp} {fp:List Addr} (i:Nat) {x:Str} {pos:Pos} (nd:(lcN N xs mp).Nodup:=by decide +kernel) (hi:(lcN N xs mp)[i]?=some x:=by rfl)
  (hx:(lcx X (lcN N xs mp) scope cl C s₀ H₀ fp).env.scope.names.lookup x=some .local:=by rfl):PG (lcx X (lcN N xs mp) scope cl C s₀ H₀ fp) (.Name x pos) (Zak i):=Zz nd hi (.inl hx) (.inr hx)
def tx (l:List Nat):Str:=⟨l.toArray⟩
theorem ZO (l:List Nat):(tx l).cps.toList=l:=by simp [tx]
theorem ZH (l:List Nat):(tx l).length=l.length:=by simp [tx,Str.length]
theorem tx_eta (x:Str):tx x.cps.toList=x:=by simp [tx]
theorem Zdw {vs:List V} {n:Nat} {f:Nat→V} (hl:vs.length=n) (hr:∀ i v,vs[i]?=some v→v=f i):vs=(List.range n).map f:=by
 apply List.ext_getElem?
 intro i
 rw [List.getElem?_map]
 by_cases h:i < n
 ·rw [List.getElem?_range h,Option.map_some,List.getElem?_eq_getElem (by omega)]
  exact congrArg some (hr i _ (List.getElem?_eq_getElem (by omega)))
 ·rw [List.getElem?_eq_none (by omega),List.getElem?_eq_none (by simpa using h)]
  rfl
theorem JB {X:Cx} (K:PySem.W.Frag) (h:X.K=K:=by rfl):IxR X (ZnD K):=by subst h; exact ZG
theorem ZK {n:Nat} (h:n≤16777216):n≤sizeLine:=by rw [sizeLine_eq]; exact h
end L2
namespace L2
open PySem PySem.Spec PyProof.Rows PySem.Builtin.Str
section
variable {X:Cx}
theorem Yb {es:List Expr} {k:Nat} {t:TGs} {pos:Pos} (n:Nat) (K:PySem.W.Frag) (hc:X.calm=true) (h:PGs X es t) (hK:X.K=K:=by rfl)
  (hn:(assignEach es X.env).length=n:=by rfl) (hst:(assignEach es X.env).findIdx? (·.1)=none:=by rfl):PG X (.Tuple es k pos) (Znn K n t):=by
 subst hK
 exact ZlO hc h hn hst
end
theorem Zb7 (x:Str):x.cps.toList.length=x.length:=by simp [Str.length]
theorem Zaf {x:Str} {n:Int} (h:0≤n):(Txt.slice x none (some n)).cps.toList=x.cps.toList.take n.toNat:=by
 by_cases c:n≤x.length
 ·have e:=eq_of_beq (slice_closes_toL (x:=x) h c)
  rw [e]
  simp
 ·have e1:=slice_to_beyond (x:=x) (j:=n) (by omega)
  have e2:=eq_of_beq (slice_closes_toL (x:=x) (j:=x.length) (by omega) (Int.le_refl _))
  rw [e1,e2,List.take_of_length_le (l:=x.cps.toList) (i:=n.toNat) (by rw [Zb7]; omega)]
  simp [Str.length]
  exact List.take_of_length_le (by simp)
theorem JK {x:Str} {i j:Int} (h0:0≤i) (h1:i≤j) (h2:j≤x.length):(Txt.slice x (some i) (some j)).cps.toList=(x.cps.toList.drop i.toNat).take (j - i).toNat:=by
 have e:=eq_of_beq (slice_closesL (x:=x) h0 h1 h2)
 rw [e]
theorem Zda {ns:List Int} {i:Int} (h0:0≤i) (h1:i < ns.length):atI (ns.map V.int) i=some (.int (ns.getD i.toNat 0)):=by
 obtain ⟨j,rfl⟩:=Int.eq_ofNat_of_zero_le h0
 refine Zdr ?_
 have hj:j < ns.length:=by omega
 rw [List.getElem?_map,List.getElem?_eq_getElem hj,Int.toNat_natCast,List.getD_eq_getElem?_getD,List.getElem?_eq_getElem hj]
 rfl
theorem YF {α:Type} {l:List α} {i:Int} {c:α} (h0:0≤i) (h:l[i.toNat]?=some c):atI l i=some c:=by
 obtain ⟨j,rfl⟩:=Int.eq_ofNat_of_zero_le h0
 exact Zdr h
end L2
namespace L2
open PySem PySem.Spec PyProof.Rows
theorem Zjq {n i d:Nat} (h:i≤n):HT.sIx n d (some (i:Int))=i:=by
 unfold HT.sIx
 simp only
 rw [if_neg (by omega)]
 simp
 omega
theorem cut_to {xs:List V} {i:Nat} (h:i≤xs.length):Jk xs none (some (i:Int))=xs.take i:=by
 have e1:HT.sIx xs.length 0 none=0:=rfl
 unfold Jk
 rw [e1,Zjq h]
 simp
theorem cut_from {xs:List V} {i:Nat} (h:i≤xs.length):Jk xs (some (i:Int)) none=xs.drop i:=by
 have e1:HT.sIx xs.length xs.length none=xs.length:=rfl
 unfold Jk
 rw [e1,Zjq h]
 exact List.take_of_length_le (by rw [List.length_drop]; omega)
end L2
namespace Srt
open PySem PySem.W PyProof.Rows
section
variable {n:Nat} {lt:Nat→Nat→Bool} {cmp:Nat→Nat→(Bool→Shared→Prop)→Shared→Prop} {G:Shared→Prop}
structure Ord (n:Nat) (lt:Nat→Nat→Bool):Prop where
 tr:∀ i j k,lt i j=true→lt j k=true→lt i k=true
 asy:∀ i j,lt i j=true→lt j i=false
 tot:∀ i j,i < n→j < n→i≠j→lt i j=true∨lt j i=true
structure Pm (n:Nat) (p:Array Nat):Prop where
 size:p.size=n
 perm:p.Perm (List.range n).toArray
theorem Pm.below (h:Pm n p) {a:Nat} (ha:a < n):p.getD a 0 < n:=by
 have hs:a < p.size:=by rw [h.size]; exact ha
 have hm:p[a]∈p:=Array.getElem_mem hs
 have:p[a]∈(List.range n).toArray:=h.perm.mem_iff.mp hm
 rw [Array.getD_eq_getD_getElem?,Array.getElem?_eq_getElem hs]
 simpa using this
theorem Pm.ne (h:Pm n p) {a b:Nat} (ha:a < n) (hb:b < n) (hab:a≠b):p.getD a 0≠p.getD b 0:=by
 have hs:a < p.size:=by rw [h.size]; exact ha
 have hs2:b < p.size:=by rw [h.size]; exact hb
 have nd:p.toList.Nodup:=by
  have:=(Array.perm_iff_toList_perm.mp h.perm)
  exact this.nodup_iff.mpr (by simpa using List.nodup_range)
 rw [Array.getD_eq_getD_getElem?,Array.getElem?_eq_getElem hs,Array.getD_eq_getD_getElem?,Array.getElem?_eq_getElem hs2]
 intro e
 have:=(List.getElem_inj (h₀:=by simpa using hs) (h₁:=by simpa using hs2) nd).mp (by simpa using e)
 exact hab this
def Up (lt:Nat→Nat→Bool) (p:Array Nat) (m:Nat):Prop:=∀ a b,a < b→b < m→lt (p.getD a 0) (p.getD b 0)=true
variable (o:Ord n lt) (hc:∀ i j C s,i < n→j < n→i≠j→G s→(∀ s',G s'→C (lt i j) s')→cmp i j C s)
include o hc
omit o hc in
omit o hc in
end
end Srt
namespace L2
open PySem PySem.Spec PyProof.Rows PySem.W
def Zoc (h:Heap) (v:Value) (x:Str):Prop:=∃ a t y,v = .ref a∧h.get? a=some { cls:=.type "tuple",data:=.seq #[.str x t,y] }
def ltX (xs:List Str) (i j:Nat):Bool:=decide ((xs.getD i "").cps.toList < (xs.getD j "").cps.toList)
theorem J8 {xs:List Str} {i:Nat} (h:i < xs.length):xs.getD i "" = xs[i]:=by
 rw [List.getD_eq_getElem?_getD,List.getElem?_eq_getElem h]
 rfl
section
variable {prog:Program} {w:World} {A:Around} {E:Value→Shared→Prop} {s:Shared}
end
theorem ObjOk.there' {P:Program} {w:World} {H:Hp} {h:Heap} {a:Addr} {o:HO} (x:ObjOk P w H h a o):∃ u,h.get? a=some u:=by
 cases o with
 | lst xs=>obtain ⟨_,_,_,_,e⟩:=x; exact ⟨_,e⟩
 | tup xs=>obtain ⟨_,_,_,⟨_,e,_⟩,_⟩:=x; exact ⟨_,e⟩
 | dK kvs=>obtain ⟨_,_,_,_,o,_,_,e,_⟩:=x; exact ⟨_,e⟩
 | dT kvs=>obtain ⟨_,_,_,_,o,_,_,e,_⟩:=x; exact ⟨_,e⟩
 | set S n=>obtain ⟨o,_,_,_,e,_⟩:=x; exact ⟨_,e⟩
 | ins C dx fs=>obtain ⟨_,_,_,e,_⟩:=x; exact ⟨_,e⟩
 | own y=>exact x
 | xd fs=>obtain ⟨_,⟨_,_,_,e,_⟩,_⟩:=x; exact ⟨_,e⟩
 | rng lo hi=>obtain ⟨_,_,_,e⟩:=x; exact ⟨_,e⟩
 | frz ob u=>obtain ⟨e,_⟩:=x; exact ⟨_,e⟩
 | tbl ps=>exact ⟨_,show h.get? a=some _ from x⟩
 | met f y=>exact ⟨_,show h.get? a=some _ from x⟩
 | ext φ=>obtain ⟨_,e,_⟩:=x; exact e
section
variable {X:Cx} {pins:List (Addr × Obj)} {σ:St} {H:Hp} {s:Shared}
theorem Inv.laidN {N:Addr→Option HO} {h1:Heap} {tk:Nat} (I:Inv X pins σ H s) (k:∀ b u,s.heap.get? b=some u→h1.get? b=some u) (hN:∀ a o,N a=some o→s.heap.get? a=none∧∀ H2,ObjOk X.prog X.w H2 h1 a o) :
  Inv X pins σ (fun b=>(N b).or (H b)) { s with heap:=h1,toks:=tk }:=by
 have low:∀ b u,s.heap.get? b=some u→N b=none:=fun b u hb=>by
  cases q:N b with
  | none=>rfl
  | some o=>rw [(hN b o q).1] at hb; cases hb
 have old:∀ b u,H b=some u→(N b).or (H b)=some u:=fun b u q=>by
  obtain ⟨v,hv⟩:=(I.hok b u q).there'
  rw [low b v hv,Option.none_or]
  exact q
 refine I.un ⟨fun b o q _ _ _=>k b o q,fun b o q _ _ _=>⟨o.slots,k b o q⟩,fun b o q n _=>?_,fun b o q _=>⟨o,k b o q⟩,fun b xs q=>old b _ q,fun b o u q=>old b _ q,fun b ps q=>⟨#[],by rw [old b _ q]; simp⟩⟩ fun a o q=>?_
 ·show (N b).or (H b)=none
  rw [low b o q,Option.none_or]
  exact n
 ·cases e:N a with
  | some u =>
   rw [e,Option.some_or] at q
   cases q
   exact (hN a o e).2 _
  | none =>
   rw [e,Option.none_or] at q
   exact (I.hok a o q).stay (fun b u _ z=>k b u z) (fun b z=>old b _ z) fun b xs z=>old b _ z
end
def ivO (p d:Addr):HO:=.ext fun h=>h.IsItemsView p d
theorem Zip {X:Cx}:MtR X "dict.items" (fun x vs H Q=>∃ d kvs,x = .ref d∧vs=[]∧H d=some (.dK kvs)∧∀ p,H p=none→Q (.ref p) (upd H p (ivO p d))):=by
 intro pins s σ H x vs v us Q I rx rv h
 obtain ⟨d,kvs,rfl,rfl,hd,q⟩:=h
 cases rx
 cases rv
 obtain ⟨hz,lo,vs',kv,dd⟩:=Zdj I.hok hd
 refine call_meetsIn PySem.F.slot_dict_items dd.typeIs PySem.F.entry_dict_items (PySem.F.args_dict_items_1 _) (meets_dict_items (Zp X.prog X.w) d lo) ⟨⟨_,dd⟩,?_⟩
 refine ⟨.ref s.heap.objs.size,_,I.laid (t':=s.toks) (o:=ivO s.heap.objs.size d) (fun b u e=>Heap.get?_push_of_some _ e) (Nat.le_refl _) ?_,rfl,q _ (I.hok.fresh (Nat.le_refl _))⟩
 refine ⟨⟨_,Heap.get?_push_size _ rfl,rfl,rfl⟩,⟨_,Heap.get?_push_size _ rfl⟩,fun h1 h2 ⟨o,e,r⟩ k=>⟨o,k o e,r⟩⟩
theorem Zge (ks:List Str) (p:Array Nat) (hp:Srt.Pm ks.length p):(p.toList.map fun i=>ks.getD i "").Perm ks:=by
 have h1:=(Array.perm_iff_toList_perm.mp hp.perm).map fun i=>ks.getD i ""
 have h2:((List.range ks.length).toArray.toList.map fun i=>ks.getD i "")=ks:=by
  apply List.ext_getElem?
  intro i
  simp only [List.getElem?_map]
  by_cases hi:i < ks.length
  ·rw [List.getElem?_range hi,List.getElem?_eq_getElem hi,Option.map_some,J8 hi]
  ·rw [List.getElem?_eq_none (by simp; omega),List.getElem?_eq_none (by omega)]
   rfl
 rw [h2] at h1
 exact h1
def Zlv (td:TE):TE:=fun σ H Q=>td σ H fun x H1=>∃ d kvs,x = .ref d∧H1 d=some (.dK kvs)∧∀ p,H1 p=none→Q (.ref p) (upd H1 p (ivO p d))
theorem ZdX {X:Cx} {o:Expr} {apos cpos:Pos} {td:TE} (ho:PE X o td) (hbase:attributeBase o "items" X.env (eval o X.env)=eval o X.env:=by rfl) (hline:(apos.endLine == cpos.line)=true:=by rfl) :
  PE X (.Call (.Attribute o "items" apos) [] [] cpos) (Zlv td):=by
 intro pins s σ H Q I h
 refine wpAny_Call_method0_late hbase hline (thn (ho pins s σ H _ I h) fun v s1 ⟨x,H1,I1,r1,d,kvs,ex,hd,q1⟩=>?_)
 subst ex
 obtain rfl:v=Value.ref d:=r1
 obtain ⟨t1,t2,_⟩:=Zei I1 (.inl ⟨kvs,.inl hd⟩)
 exact ⟨"dict",_,PySem.F.plainAttrs_dict,PySem.F.slot_dict_items,PySem.F.type_dict_items,t1,t2,Calls.callWith_builtin rfl (PySem.evalArgs_none (Zip pins s1 σ H1 (.ref d) [] (.ref d) [] Q I1 rfl .nil ⟨d,kvs,rfl,rfl,hd,q1⟩))⟩
end L2
namespace L2
open PySem PySem.Spec PyProof.Rows
section
variable {X:Cx} {E:XK} {pins:List (Addr × Obj)} {σ:St} {H:Hp} {s:Shared}
end
section
variable {X:Cx} {pins:List (Addr × Obj)} {σ:St} {H:Hp} {s:Shared}
end
end L2
namespace L2
open PySem PySem.Spec PyProof.Rows PySem.W
section
variable {prog:Program} {w:World} {A:Around} {E:Value→Shared→Prop} {s:Shared} {K:Frag} {a C:Addr} {o:Obj}
end
end L2
namespace L2
open PySem PySem.Spec PyProof.Rows
theorem Xa {X:Cx}:MtR X "list.append" Zf6:=Zb5
theorem hasDef_mk {K:PySem.W.Frag} {h:Heap} {mg:Str→Option Value} {name:Str} {st:Stmt} {ps:List Str} {f:Addr} {oc:Value} {od an:Option Addr} {sl:Array (Option Value)} {kV dc pm cd ct:Value} (X:K.In h) (G:h.Ns mainGlobals mg)
  (a:PySem.W.nsIn K mainGlobals name=some (some (.ref f))) (l:K.lookup f=some ⟨oc,od,.func (PySem.W.fnOf name name (Y2 st) (Yt st) (Zg st) .none kV dc pm an cd ct),sl⟩) (c:PySem.W.codeIn K cd name=true) (k:PySem.W.keepIn K (.ref f)=true)
  (hb:∀ (kV doc pm:Value) (an:Option Addr) (cdv ct:Value) (us:List Value),us.length=ps.length→bindArgs (PySem.W.fnOf name name (Y2 st) (Yt st) (Zg st) .none kV doc pm an cdv ct) ⟨us,[]⟩=pure (ps.zip us)):HasDef K mg name st ps :=
 ⟨_,_,Zhb (st:=st) l c k,(Zhb (st:=st) l c k).binds hb,PySem.W.mg_of X G a⟩
theorem ZaC {c:Bool} {A B:Prop} (h:c=true) (a:A):if c=true then A else B:=by rw [if_pos h]; exact a
theorem Jg {c:Bool} {A B:Prop} (h:c=false) (b:B):if c=true then A else B:=by rw [h]; exact Zne b
theorem Zej {a b:Int} (h:¬ a=b):decide (V.int a=V.int b)=false:=decide_eq_false fun q=>h (by injection q)
theorem Zmu {a b:Int} (h:a=b):decide (V.int a=V.int b)=true:=decide_eq_true (congrArg V.int h)
end L2
namespace L2
open PySem PySem.Spec PyProof.Rows PySem.Builtin.Str
theorem YJ {x:Str} {i:Int} (h0:0≤i) (h1:i≤x.length):(Txt.slice x (some i) none).cps.toList=x.cps.toList.drop i.toNat:=by
 rw [eq_of_beq (slice_closes_fromL h0 h1 rfl)]
 simp [Str.length]
 exact List.take_of_length_le (by simp; omega)
end L2
namespace L2
open PySem PySem.Spec PyProof.Rows
theorem Inv.laid2 {X:Cx} {pins:List (Addr × Obj)} {σ:St} {H:Hp} {s:Shared} {h':Heap} {a x y:Addr} {o:HO} {t':Nat} (I:Inv X pins σ H s) (k:∀ b u,b≠x→b≠y→s.heap.get? b=some u→h'.get? b=some u) (hx:Zcz X pins H x) (hy:Zcz X pins H y)
  (hxt:∃ u,h'.get? x=some u) (hyt:∃ u,h'.get? y=some u) (hp:s.heap.objs.size≤a) (new:ObjOk X.prog X.w (upd H a o) h' a o):Inv X pins σ (upd H a o) { s with heap:=h',toks:=t' }:=by
 obtain ⟨f0,f1,f2,f3,f4,f5⟩:=hx
 obtain ⟨g0,g1,g2,g3,g4,g5⟩:=hy
 have hn:H a=none:=I.hok.fresh hp
 have nit:∀ b u,H b=some u→b≠x∧b≠y:=fun b u e=>⟨(fun z=>by rw [z,f0] at e; cases e),(fun z=>by rw [z,g0] at e; cases e)⟩
 have nc:∀ b:Addr,b∉[x,y]→b≠x∧b≠y:=fun b hb=>⟨fun z=>hb (by simp [z]),fun z=>hb (by simp [z])⟩
 refine I.step (g':=s.gens) (d':=s.drawn) (ch:=[x,y]) (fun b hb=>?_) (fun b u _ _ hc e _=>k b u (nc b hc).1 (nc b hc).2 e) (fun b u _ _ hc e _=>⟨u.slots,k b u (nc b hc).1 (nc b hc).2 e⟩) (fun b u _ e n=>?_)
  (fun b u hc e=>⟨u,k b u (nc b hc).1 (nc b hc).2 e⟩) (fun b xs e=>?_) (fun b u xs e=>?_) (fun b ps e=>⟨#[],?_⟩) (fun m hm=>?_) (fun b u e=>?_) I.bare
 ·rcases List.mem_cons.mp hb with z | z
  ·subst z
   exact ⟨f3,f1,f4,f5⟩
  ·have z:=List.mem_singleton.mp z
   subst z
   exact ⟨g3,g1,g4,g5⟩
 ·rw [Zi (Nat.ne_of_lt (Nat.lt_of_lt_of_le (Heap.lt_size e) hp))]
  exact n
 ·rw [Zi (Zj e hn)]; exact e
 ·rw [Zi (Zj e hn)]; exact e
 ·rw [Zi (Zj e hn),e]; simp
 ·obtain ⟨o,es,ep,ho,r⟩:=hm
  exact ⟨o,es,ep,k _ o (Ne.symm f1) (Ne.symm g1) ho,r⟩
 ·by_cases hb:b=a
  ·subst hb
   rw [Zc] at e
   cases e
   exact new
  ·rw [Zi hb] at e
   refine (I.hok b u e).stay (fun c v hc q=>k c v ?_ ?_ q) (fun c q=>by rw [Zi (Zj q hn)]; exact q) fun c xs q=>by rw [Zi (Zj q hn)]; exact q
   ·rcases hc with z | z
    ·rw [z]; exact (nit b u e).1
    ·exact (nit c _ z).1
   ·rcases hc with z | z
    ·rw [z]; exact (nit b u e).2
    ·exact (nit c _ z).2
def Ite (K:PySem.W.Frag) (a:Addr):It :=
 ⟨fun i H=>∃ xs x,SqL K H a xs∧xs[i]?=some x,fun i H x H'=>∃ t y,H t=none∧x = .ref t∧H'=upd H t (.tup [.int i,y])∧∀ xs,SqL K H a xs→xs[i]?=some y,fun i H=>∃ xs,SqL K H a xs∧xs.length≤i⟩
theorem Zfj {P:Program} {w:World} {K:PySem.W.Frag} {elts:List Expr} {k:Nat} {pos:Pos} (a e it:Addr) (hne:e≠it):ZjY P w K (.Tuple elts k pos) (Ite K a) [e,it] e (fun i h=>(∃ old,IsEnum h e it i old)∧h.IsListIter it a i) where
 mem:=by simp
 obj:=fun i h st b hb=>by
  obtain ⟨⟨old,he⟩,o,e1,c,d⟩:=st
  rcases List.mem_cons.mp hb with z | z
  ·subst z
   exact ⟨_,he,fun v z=>by
    have z':Data.fields _=Data.cell v:=z
    cases z'⟩
  ·have z:=List.mem_singleton.mp z
   subst z
   exact ⟨o,e1,fun v z=>by rw [d] at z; cases z⟩
 keep:=fun i h h' ⟨⟨old,he⟩,st⟩ kk=>⟨⟨old,kk e (by simp) _ he⟩,st.at fun o e1=>kk it (by simp) o e1⟩
 item:=by
  intro X hP hw hK hc i pins s σ H E I hf ⟨⟨old,he⟩,st⟩ hg
  subst hP hw hK
  obtain ⟨xs,x,hq,hx⟩:=hg
  obtain ⟨its,rv,p,hz⟩:=I.list hq
  obtain ⟨u,hu,ru⟩:=rv.get hx
  obtain ⟨f0,f1,f2,f3,f4,f5⟩:=hf e (by simp)
  obtain ⟨g0,g1,g2,g3,g4,g5⟩:=hf it (by simp)
  refine wpAny_pyNext_enum_item he st p.isList (x:=u) (by simpa using hu) hne fun h1 heo st1 ht1 hz1 kk=>?_
  refine ⟨_,rfl,wpAny_letOwnedTupleGo_enum heo fun h2 he2 sb=>?_⟩
  have hk2:∀ b o,b≠e→b≠it→s.heap.get? b=some o→h2.get? b=some o:=fun b o q1 q2 q=>(sb.2 b q1).trans (kk b o q1 q2 q)
  have hte:s.heap.objs.size≠e:=Nat.ne_of_gt (Heap.lt_size he)
  have ht2:h2.get? s.heap.objs.size=some { cls:=.type "tuple",data:=.seq #[.int i s.toks,u] }:=(sb.2 _ hte).trans ht1
  have st2:h2.IsListIter it a (i + 1):=st1.extBut sb.extBut (Ne.symm hne)
  refine ⟨.ref s.heap.objs.size,_,Inv.laid2 (s:=s) (a:=s.heap.objs.size) (t':=s.toks + 1) (o:=.tup [.int i,x]) I hk2 (hf e (by simp)) (hf it (by simp)) ⟨_,he2⟩ (let ⟨o,q,_⟩:=st2; ⟨o,q⟩) (Nat.le_refl _) ?_,rfl,⟨_,x,I.hok.fresh (Nat.le_refl _),rfl,rfl,fun ys hy=>by rw [I.list_inj hy hq]; exact hx⟩,⟨⟨u,?_⟩,st2⟩,fun b hb=>?_⟩
  ·refine ⟨(show 2≤sizeLine by rw [sizeLine_eq]; decide),[.int i s.toks,u],.cons ⟨_,rfl⟩ (.cons ru .nil),⟨_,ht2,rfl,_,rfl⟩,fun o q=>by rw [ht2] at q; cases q; rfl⟩
  ·have:((i + 1:Nat):Int)=(i:Int) + 1:=by push_cast; rfl
   rw [this]
   exact he2
  ·rw [Zi]
   ·exact (hf b hb).1
   ·rcases List.mem_cons.mp hb with z | z
    ·rw [z]; exact Ne.symm hte
    ·rw [List.mem_singleton.mp z]
     obtain ⟨o,q,_⟩:=st
     exact Nat.ne_of_lt (Heap.lt_size q)
 done:=by
  intro X hP hw hK hc i pins s σ H E I hf ⟨⟨old,he⟩,st⟩ hg
  subst hP hw hK
  obtain ⟨xs,hq,hx⟩:=hg
  obtain ⟨its,rv,p,hz⟩:=I.list hq
  obtain ⟨g0,g1,g2,g3,g4,g5⟩:=hf it (by simp)
  have hl:=rv.length
  exact wpAny_pyNext_enum_end (I.ok.hd hc) he st p.isList (by simp; omega) fun h' eb=>⟨rfl,I.turned (t':=s.toks) (fun b o hb e=>eb b o hb e) g0 g1 g3 g4 g5⟩
 self:=fun _ _ _ _ _ ⟨⟨old,he⟩,_⟩ h=>wpAny_pyIter_enum he h
theorem ZmH:bootBuiltins "enumerate" = some (.type "enumerate"):=by decide +kernel
def Znm (K:PySem.W.Frag) (ta:TA):TI:=fun σ H R=>ta σ H fun vs H1=>∃ a,vs=[.ref a]∧(∃ xs,SqL K H1 a xs)∧R (Ite K a) H1
theorem Zkx {X:Cx} {elts:List Expr} {kt:Nat} {tpos:Pos} {l:Expr} {ta:TA} {p pos:Pos} (hg:Gl X "enumerate") (hm:X.mg "enumerate" = none) (ha:PA X [l] ta) (hs:starEach [l] X.env=[(false,eval l X.env)]:=by rfl):PI X (.Tuple elts kt tpos) (.Call (.Name "enumerate" p) [l] [] pos) (Znm X.K ta):=by
 intro pins s σ H R I h
 refine Call_ (XH I hg hm ZmH (PyProof.Rows.callWith_type1 (thn (ha pos pins s σ H _ I h) fun us s1 ⟨vs,H1,I1,r1,q1⟩=>?_) hs rfl))
 obtain ⟨a,e,⟨xs,hq⟩,q⟩:=q1
 subst e
 cases r1 with
 | cons r rr =>
  cases rr
  cases r
  obtain ⟨its,rv,pl,hz⟩:=I1.list hq
  refine call_enumerate_list pl.isList fun h' he hit hsz kk=>?_
  refine wpAny_pyIter_enum he ?_
  refine ⟨s1.heap.objs.size + 1,[s1.heap.objs.size + 1,s1.heap.objs.size],_,_,H1,rfl,I1.kept (t':=s1.toks) fun b o e=>kk b o e,Zfj a _ _ (Nat.succ_ne_self _),⟨⟨.none,he⟩,hit⟩,fun b hb=>?_,q⟩
  have hle:s1.heap.objs.size≤b:=by
   rcases List.mem_cons.mp hb with z | z
   ·rw [z]; exact Nat.le_succ _
   ·rw [List.mem_singleton.mp z]; exact Nat.le_refl _
  exact I1.fpOk hle (I1.hok.fresh hle)
theorem ZiR {K:PySem.W.Frag} {a:Addr} {xs:List V} {g:TG} {tb:TS} {D:Ze6} {σ:St} {H:Hp} (Pv:Nat→St→Hp→Prop) (h0:Pv 0 σ H) (hl:∀ i σ H,i≤xs.length→Pv i σ H→SqL K H a xs)
  (hs:∀ i x σ H t,xs[i]?=some x→H t=none→Pv i σ H→g (.ref t) σ (upd H t (.tup [.int i,x])) fun σ2 H2=>tb { D with nx:=Pv (i + 1),ct:=Pv (i + 1),bk:=D.nx } σ2 H2) (hd:∀ σ H,Pv xs.length σ H→D.nx σ H) :
  ∃ W:Nat→Nat→St→Hp→Prop,(∃ m,W 0 m σ H)∧∀ i m σ H,W i m σ H →
   ((Ite K a).stop i H∧D.nx σ H)∨((Ite K a).go i H∧∃ N:St→Hp→Prop,(∀ σ' H',N σ' H'→∃ m',m' < m∧W (i + 1) m' σ' H')∧∀ x H',(Ite K a).yld i H x H'→g x σ H' fun σ2 H2=>tb { D with nx:=N,ct:=N,bk:=D.nx } σ2 H2):=by
 refine ⟨fun i m σ H=>m=xs.length - i∧i≤xs.length∧Pv i σ H,⟨xs.length,by simp,Nat.zero_le _,h0⟩,?_⟩
 rintro i m σ H ⟨rfl,hi,p⟩
 have q:=hl i σ H hi p
 by_cases hlt:i < xs.length
 ·refine .inr ⟨⟨xs,xs[i],q,by simp [hlt]⟩,Pv (i + 1),fun σ' H' p'=>⟨xs.length - (i + 1),by omega,rfl,hlt,p'⟩,fun x H' y=>?_⟩
  obtain ⟨t,y,ht,rfl,rfl,hy⟩:=y
  exact hs i y σ H t (hy xs q) ht p
 ·have e:i=xs.length:=by omega
  subst e
  exact .inl ⟨⟨xs,q,Nat.le_refl _⟩,hd σ H p⟩
end L2
namespace Sh
open PySem L2 PyProof.Rows
theorem ZM (a:Int) {n:Int} (h:0 < n):0≤a % n∧a % n < n:=⟨Int.emod_nonneg _ (by omega),Int.emod_lt_of_pos _ h⟩
theorem ZhB (a b:Str):(a ++ b).cps.toList=a.cps.toList ++ b.cps.toList:=by simp [Str.cps_append]
theorem ZZ {a b:Str} (h:a.cps.toList=b.cps.toList):a=b:=by rw [← tx_eta a,← tx_eta b,h]
theorem ZbE (a b:List Nat):tx a ++ tx b=tx (a ++ b):=by
 apply ZZ
 rw [ZhB,ZO,ZO,ZO]
theorem Znq (xs:List V) (h:xs.length≤63):Jk xs none (some 63)=xs:=by
 have e1:HT.sIx xs.length 0 none=0:=rfl
 have e2:HT.sIx xs.length xs.length (some 63)=xs.length:=by
  unfold HT.sIx
  simp
  omega
 unfold Jk
 rw [e1,e2]
 simp
theorem ZhA {z:List Nat} {i:Int} (h0:0≤i) (h1:i < z.length):atI (tx z).cps.toList i=some (z.getD i.toNat 0):=by
 refine YF h0 ?_
 rw [ZO,List.getD_eq_getElem?_getD,List.getElem?_eq_getElem (by omega)]
 rfl
theorem Zia:(1:Nat)≤sizeLine:=by rw [sizeLine_eq]; decide
theorem Zl {n:Nat} (h:n≤1000):n≤sizeLine:=ZK (by omega)
theorem YA {α:Type} {ns:List α} {f:α→V} {i:Nat} (hi:i < ns.length):(ns.map f).getD i .non=f ns[i]:=by
 rw [List.getD_eq_getElem?_getD,List.getElem?_map,List.getElem?_eq_getElem hi]
 rfl
theorem Yj {α:Type} {ns:List α} {f:α→V} {i:Nat} {x:V} (hi:(ns.map f)[i]?=some x):∃ h:i < ns.length,x=f ns[i]:=by
 have h:i < ns.length:=by
  have:=(List.getElem?_eq_some_iff.mp hi).1
  rw [List.length_map] at this
  exact this
 rw [List.getElem?_map,List.getElem?_eq_getElem h] at hi
 exact ⟨h,(Option.some.inj hi).symm⟩
end Sh
namespace L2
open PySem PySem.Spec PyProof.Rows
theorem Zhz {a:Nat} {i:Int} (h:i.natAbs < 2 ^ a):Builtin.Int.intBits i≤a:=intBits_le_iff.mpr h
def Zog (i j:Int):Prop:=i.natAbs < 2 ^ 4000∧j.natAbs < 2 ^ 4000
theorem JU {X:Cx}:OpR X (binaryOp .Mult) (rI Zog fun i j=>.int (i * j)):=opI fun _ _ _ _ _ _ _ hc q=>mul_int q (IntMulOk.of_le (m:=4000) (n:=4000) (Zhz hc.1) (Zhz hc.2) (by decide))
def Znx (_ j:Int):Prop:=j≠0∧j.natAbs < 2 ^ 4000
theorem Za4 {X:Cx}:OpR X (binaryOp .FloorDiv) (rI Znx fun i j=>.int (i.fdiv j)):=opI fun _ j _ _ _ _ _ hc q=>floordiv_int hc.1 q (.inl (PyProof.noPylong_of_log2 (by
 have h0:j.natAbs≠0:=fun z=>hc.1 (by omega)
 have:=(Nat.log2_lt h0).mpr hc.2
 omega)))
theorem Zd9 {k:Nat} {mp:List Nat} {σ:St} {g:TG} {te:TE} {J:It} {H1:Hp} {Q:VK} (n:Nat) (xs:Nat→V) (f:Nat→List V) (hn:n≤sizeLine)
  (hJ:∀ H,Same H1 H→(∀ i,i < n→J.go i H∧∀ x H',J.yld i H x H'→H'=H∧x=xs i)∧J.stop n H)
  (step:∀ i H (Qe:VK),i < n→Same H1 H→(∀ a H6,Same H H6→H a=none→H6 a=some (.lst (f i))→Qe (.ref a) H6)→g (xs i) (lcS k mp σ) H fun σ4 H4=>te σ4 H4 Qe)
  (done:∀ D (as:List Addr) H',as.length=n→(∀ i a,as[i]?=some a→a≠D∧H1 a=none∧H' a=some (.lst (f i)))→Same H1 H'→H1 D=none→H' D=some (.lst (as.map V.ref))→Q (.ref D) H'):XI k mp σ g Zj8 te J H1 Q:=by
 intro D hD
 refine ⟨fun i m acc H=>m=n - i∧i≤n∧Same H1 H∧H D=some (.lst acc)∧∃ as:List Addr,acc=as.map V.ref∧as.length=i∧∀ j a,as[j]?=some a→a≠D∧H1 a=none∧H a=some (.lst (f j)),⟨n,by simp,Nat.zero_le _,Zb hD,Zc,[],rfl,rfl,fun j v e=>by simp at e⟩,?_⟩
 rintro i m acc H ⟨rfl,hi,hs,hDa,as,rfl,hl,hr⟩
 obtain ⟨j1,j2⟩:=hJ H hs
 by_cases hlt:i < n
 ·refine .inr ⟨(j1 i hlt).1,fun x H3 y=>?_⟩
  obtain ⟨e1,e2⟩:=(j1 i hlt).2 x H3 y
  subst e1 e2
  refine step i H3 _ hlt hs fun a H6 s6 ha r6=>⟨s6 _ _ hDa,by rw [List.length_map]; omega,n - (i + 1),by omega,rfl,hlt,fun b o e=>?_,Zc,as ++ [a],by rw [List.map_append]; rfl,by rw [List.length_append,hl]; rfl,fun j u e=>?_⟩
  ·rw [Zi (Zj e hD)]
   exact s6 _ _ (hs b o e)
  ·have naD:a≠D:=fun z=>by rw [z,hDa] at ha; cases ha
   rcases Nat.lt_trichotomy j as.length with h | h | h
   ·rw [List.getElem?_append_left h] at e
    obtain ⟨q1,q2,q3⟩:=hr j u e
    exact ⟨q1,q2,by rw [Zi q1]; exact s6 _ _ q3⟩
   ·subst h
    rw [List.getElem?_append_right (Nat.le_refl _),Nat.sub_self] at e
    cases e
    exact ⟨naD,hs.free ha,by rw [Zi naD,hl]; exact r6⟩
   ·rw [List.getElem?_eq_none (by rw [List.length_append,List.length_singleton]; omega)] at e
    cases e
 ·have e:i=n:=by omega
  subst e
  exact .inl ⟨j2,done D as H hl hr hs hD hDa⟩
section
variable {X:Cx} {pins:List (Addr × Obj)} {σ:St} {H₀:Hp} {s₀:Shared} {scope sc:Scope} {N xs:List Str} {mp:List Nat} {fp:List Addr} {z:Str}
end
section
variable {X:Cx} {pins:List (Addr × Obj)} {σ:St} {elt tgt iter:Expr} {ifs:List Expr} {scope sc:Scope} {pos:Pos} {N xs:List Str} {mp:List Nat} {wi:TI} {g:TG} {tc:TT} {te:TE} {z:Str}
end
end L2
namespace Sh
abbrev ZW:=Nat→Nat→Int
def YN:Nat→(Nat→Int)→Int
 | 0,_=>0
 | n + 1,g=>YN n g + g n
def Jv (i:Nat):Int:=if i % 2=0 then 1 else -1
def rmv (i r:Nat):Nat:=if r < i then r else r + 1
def det:Nat→ZW→Int
 | 0,_=>1
 | n + 1,f=>YN (n + 1) fun i=>Jv i * f i 0 * det n fun r c=>f (rmv i r) (c + 1)
theorem Yh {g h:Nat→Int}:∀ {n:Nat},(∀ i,i < n→g i=h i)→YN n g=YN n h
 | 0,_=>rfl
 | n + 1,e=>by
  rw [YN,YN,Yh (n:=n) fun i hi=>e i (by omega),e n (by omega)]
theorem Js (a b:Int) (g h:Nat→Int):∀ n:Nat,YN n (fun i=>a * g i + b * h i)=a * YN n g + b * YN n h
 | 0=>by simp [YN]
 | n + 1=>by
  rw [YN,YN,YN,Js a b g h n]
  rw [Int.mul_add,Int.mul_add]
  omega
theorem Xt {g:Nat→Int}:∀ {n:Nat},(∀ i,i < n→g i=0)→YN n g=0
 | 0,_=>rfl
 | n + 1,e=>by
  rw [YN,Xt (n:=n) fun i hi=>e i (by omega),e n (by omega)]
  rfl
theorem ZbH {g:Nat→Int} {p:Nat} (h2:g p + g (p + 1)=0):∀ {n:Nat},p + 1 < n→(∀ i,i < n→i≠p→i≠p + 1→g i=0)→YN n g=0
 | 0,h,_=>by omega
 | n + 1,h,e=>by
  by_cases c:n=p + 1
  ·subst c
   rw [YN,YN,Xt (n:=p) fun i hi=>e i (by omega) (by omega) (by omega)]
   omega
  ·rw [YN,ZbH h2 (n:=n) (by omega) fun i hi=>e i (by omega),e n (by omega) (by omega) c]
   rfl
theorem Zao {g:Nat→Int}:∀ {n:Nat},(∀ i,0 < i→i < n + 1→g i=0)→YN (n + 1) g=g 0
 | 0,_=>by simp [YN]
 | n + 1,e=>by
  rw [YN,Zao (n:=n) fun i h1 h2=>e i h1 (by omega),e (n + 1) (by omega) (by omega)]
  omega
theorem Z8:∀ {n:Nat} {f g:ZW},(∀ r,r < n→∀ c,c < n→f r c=g r c)→det n f=det n g
 | 0,_,_,_=>rfl
 | n + 1,f,g,e=>by
  rw [det,det]
  refine Yh fun i hi=>?_
  rw [e i hi 0 (by omega),Z8 (n:=n) fun r hr c hc=>e (rmv i r) (by unfold rmv; split <;> omega) (c + 1) (by omega)]
def Z1 (f:ZW) (p:Nat) (u:Nat→Int):ZW:=fun r=>if r=p then u else f r
theorem Z5 {f:ZW} {p:Nat} {u:Nat→Int}:Z1 f p u p=u:=by unfold Z1; rw [if_pos rfl]
theorem Yl {f:ZW} {p r:Nat} {u:Nat→Int} (h:r≠p):Z1 f p u r=f r:=by unfold Z1; rw [if_neg h]
theorem Yk (f:ZW) (p:Nat):Z1 f p (f p)=f:=by
 funext r
 unfold Z1
 split
 ·rename_i e; rw [e]
 ·rfl
theorem Zaq (i r:Nat):rmv i r≠i:=by unfold rmv; split <;> omega
theorem Zbb (f:ZW) (p:Nat) (u:Nat→Int):(fun r c=>Z1 f p u (rmv p r) (c + 1))=fun r c=>f (rmv p r) (c + 1):=by
 funext r c
 rw [Yl (Zaq p r)]
theorem Zba (f:ZW) {p i:Nat} (u:Nat→Int) (h:i≠p):(fun r c=>Z1 f p u (rmv i r) (c + 1))=Z1 (fun r c=>f (rmv i r) (c + 1)) (if p < i then p else p - 1) (fun c=>u (c + 1)):=by
 funext r c
 have key:rmv i r=p↔r=(if p < i then p else p - 1):=by
  unfold rmv
  split <;> split <;> omega
 by_cases q:r=(if p < i then p else p - 1)
 ·show Z1 f p u (rmv i r) (c + 1)=Z1 _ _ _ r c
  rw [key.mpr q,Z5,q,Z5]
 ·show Z1 f p u (rmv i r) (c + 1)=Z1 _ _ _ r c
  rw [Yl (fun z=>q (key.mp z)),Yl q]
theorem Y1:∀ {n:Nat} (f:ZW) {p:Nat} (a b:Int) (u v:Nat→Int),p < n→det n (Z1 f p fun c=>a * u c + b * v c)=a * det n (Z1 f p u) + b * det n (Z1 f p v)
 | 0,_,_,_,_,_,_,h=>by omega
 | n + 1,f,p,a,b,u,v,h=>by
  rw [det,det,det,← Js]
  refine Yh fun i hi=>?_
  by_cases c:i=p
  ·subst c
   rw [Zbb,Zbb,Zbb,Z5,Z5,Z5]
   simp only [Int.mul_add,Int.add_mul]
   congr 1 <;> simp only [Int.mul_assoc,Int.mul_left_comm,Int.mul_comm]
  ·rw [Zba f _ c,Zba f _ c,Zba f _ c,Yl c,Yl c,Yl c]
   have ih:=Y1 (n:=n) (fun r c=>f (rmv i r) (c + 1)) (p:=if p < i then p else p - 1) a b (fun c=>u (c + 1)) (fun c=>v (c + 1)) (by split <;> omega)
   rw [ih]
   simp only [Int.mul_add]
   congr 1 <;> simp only [Int.mul_assoc,Int.mul_left_comm,Int.mul_comm]
theorem Ju (i:Nat):Jv (i + 1) = - Jv i:=by
 unfold Jv
 by_cases c:i % 2=0
 ·rw [if_pos c,if_neg (by omega)]
 ·rw [if_neg c,if_pos (by omega)]
  rfl
theorem Zbo:∀ {n:Nat} {f:ZW} {p:Nat},p + 1 < n→f p=f (p + 1)→det n f=0
 | 0,_,_,h,_=>by omega
 | n + 1,f,p,h,e=>by
  rw [det]
  refine ZbH (p:=p) ?_ h fun i hi c1 c2=>?_
  ·have em:(fun r c=>f (rmv p r) (c + 1))=fun r c=>f (rmv (p + 1) r) (c + 1):=by
    funext r c
    unfold rmv
    by_cases c1:r < p
    ·rw [if_pos c1,if_pos (by omega)]
    ·rw [if_neg c1]
     by_cases c2:r=p
     ·subst c2
      rw [if_pos (by omega),e]
     ·rw [if_neg (by omega)]
   rw [em,Ju,← e]
   simp only [Int.neg_mul]
   omega
  ·have:det n (fun r c=>f (rmv i r) (c + 1))=0:=by
    by_cases c:p + 1 < i
    ·refine Zbo (p:=p) (by omega) ?_
     funext q
     unfold rmv
     rw [if_pos (by omega),if_pos c,e]
    ·refine Zbo (p:=p - 1) (by omega) ?_
     funext q
     unfold rmv
     rw [if_neg (by omega),if_neg (by omega),show p - 1 + 1=p by omega,e]
   rw [this,Int.mul_zero]
def Zfp (f:ZW) (p q:Nat):ZW:=fun r=>if r=p then f q else if r=q then f p else f r
theorem ZhT (f:ZW) {p q:Nat} (h:p≠q):Zfp f p q=Z1 (Z1 f p (f q)) q (f p):=by
 funext r
 unfold Zfp Z1
 by_cases c1:r=p
 ·subst c1
  rw [if_pos rfl,if_neg h,if_pos rfl]
 ·rw [if_neg c1]
  split
  ·rfl
  ·rfl
theorem Xx (f:ZW) {p q:Nat} (u v:Nat→Int) (h:p≠q):Z1 (Z1 f p u) q v=Z1 (Z1 f q v) p u:=by
 funext r
 unfold Z1
 by_cases c1:r=p
 ·subst c1
  rw [if_neg h,if_pos rfl,if_pos rfl]
 ·rw [if_neg c1,if_neg c1]
theorem ZfQ (f:ZW) (p:Nat) (u v:Nat→Int):Z1 (Z1 f p u) p v=Z1 f p v:=by
 funext r
 unfold Z1
 split <;> rfl
theorem ZiX {n:Nat} {f:ZW} {p q:Nat} (h:p≠q) (hp:p < n) (hq:q < n) (z:∀ g:ZW,g p=g q→det n g=0):det n (Zfp f p q) = - det n f:=by
 have key:∀ (u v:Nat→Int),det n (Z1 (Z1 f p u) q v) + det n (Z1 (Z1 f p v) q u)=0:=fun u v=>by
  have h0:=z (Z1 (Z1 f p fun c=>1 * u c + 1 * v c) q fun c=>1 * u c + 1 * v c) (by rw [Z5,Yl h,Z5])
  rw [Y1 _ 1 1 u v hq,Xx _ _ _ h,Xx _ _ _ h,Y1 _ 1 1 u v hp,Y1 _ 1 1 u v hp] at h0
  have h1:=z (Z1 (Z1 f q u) p u) (by rw [Z5,Yl (Ne.symm h),Z5])
  have h2:=z (Z1 (Z1 f q v) p v) (by rw [Z5,Yl (Ne.symm h),Z5])
  rw [h1,h2] at h0
  rw [Xx _ _ _ h,Xx (f:=f) (p:=p) v u h]
  omega
 have h1:=key (f p) (f q)
 have h2:det n (Z1 (Z1 f p (f p)) q (f q))=det n f:=by rw [Yk,Yk]
 rw [h2] at h1
 rw [ZhT f h]
 omega
theorem Zcl {n:Nat} {f:ZW} {p:Nat} (h:p + 1 < n):det n (Zfp f p (p + 1)) = - det n f:=ZiX (by omega) (by omega) h fun g e=>Zbo h e
theorem Zbq {n:Nat}:∀ (k:Nat) {f:ZW} {p:Nat},p + 1 + k < n→f p=f (p + 1 + k)→det n f=0
 | 0,f,p,h,e=>Zbo (by omega) (by rw [Nat.add_zero] at e; exact e)
 | k + 1,f,p,h,e=>by
  have h1:=Zcl (f:=f) (n:=n) (p:=p + 1 + k) (by omega)
  have h2:=Zbq (n:=n) k (f:=Zfp f (p + 1 + k) (p + 1 + k + 1)) (p:=p) (by omega) (by
   have e1:Zfp f (p + 1 + k) (p + 1 + k + 1) p=f p:=by
    unfold Zfp
    rw [if_neg (by omega),if_neg (by omega)]
   have e2:Zfp f (p + 1 + k) (p + 1 + k + 1) (p + 1 + k)=f (p + 1 + k + 1):=by
    unfold Zfp
    rw [if_pos rfl]
   rw [e1,e2,e]
   rfl)
  omega
theorem Zle {n:Nat} {f:ZW} {p q:Nat} (h:p≠q) (hp:p < n) (hq:q < n) (e:f p=f q):det n f=0:=by
 rcases Nat.lt_or_gt_of_ne h with c | c
 ·exact Zbq (q - p - 1) (p:=p) (by omega) (by rw [show p + 1 + (q - p - 1)=q by omega]; exact e)
 ·exact Zbq (p - q - 1) (p:=q) (by omega) (by rw [show q + 1 + (p - q - 1)=p by omega]; exact e.symm)
theorem Zho {n:Nat} {f:ZW} {p q:Nat} (a b:Int) (h:p≠q) (hp:p < n) (hq:q < n):det n (Z1 f p fun c=>a * f p c + b * f q c)=a * det n f:=by
 rw [Y1 f a b (f p) (f q) hp,Yk,Zle (f:=Z1 f p (f q)) h hp hq (by rw [Z5,Yl (Ne.symm h)])]
 omega
theorem Zhk {n:Nat} {f:ZW} {p:Nat} (a:Int) (hp:p < n):det n (Z1 f p fun c=>a * f p c)=a * det n f:=by
 have h:=Y1 f a 0 (f p) (f p) hp
 rw [Yk] at h
 have e:(fun c=>a * f p c + 0 * f p c)=fun c=>a * f p c:=by
  funext c
  omega
 rw [e] at h
 omega
def ZcD (f:ZW) (p:Nat):ZW:=fun r=>if r=0 then f p else f (rmv p (r - 1))
theorem Zdl {n:Nat}:∀ {p:Nat} {f:ZW},p < n→det n (ZcD f p)=Jv p * det n f
 | 0,f,h=>by
  have e:ZcD f 0=f:=by
   funext r
   unfold ZcD rmv
   split
   ·rename_i c; rw [c]
   ·rw [if_neg (by omega),show r - 1 + 1=r by omega]
  rw [e]
  simp [Jv]
 | p + 1,f,h=>by
  have e:ZcD f (p + 1)=ZcD (Zfp f p (p + 1)) p:=by
   funext r
   unfold ZcD rmv Zfp
   by_cases c:r=0
   ·rw [if_pos c,if_pos c,if_pos rfl]
   ·rw [if_neg c,if_neg c]
    by_cases c1:r - 1 < p
    ·rw [if_pos c1,if_pos (by omega),if_neg (by omega),if_neg (by omega)]
    ·rw [if_neg c1]
     by_cases c2:r - 1=p
     ·rw [if_pos (by omega),if_neg (by omega),if_pos (by omega),c2]
     ·rw [if_neg (by omega),if_neg (by omega),if_neg (by omega)]
  rw [e,Zdl (p:=p) (by omega),Zcl h,Ju]
  simp [Int.mul_neg,Int.neg_mul]
theorem Zcm (a:Int):∀ (n:Nat) (f:ZW),det n (fun i j=>a * f i j)=a ^ n * det n f
 | 0,_=>by simp [det]
 | n + 1,f=>by
  rw [det,det]
  have e:∀ g:Nat→Int,a ^ (n + 1) * YN (n + 1) g=YN (n + 1) fun i=>a ^ (n + 1) * g i + 0 * g i:=fun g=>by
   rw [Js]
   omega
  rw [e]
  refine Yh fun i hi=>?_
  rw [Zcm a n fun r c=>f (rmv i r) (c + 1),Int.pow_succ]
  simp only [Int.zero_mul,Int.add_zero,Int.mul_assoc,Int.mul_left_comm,Int.mul_comm]
theorem Zbr {n:Nat} {f:ZW} (h:∀ i,0 < i→i < n + 1→f i 0=0):det (n + 1) f=f 0 0 * det n fun r c=>f (r + 1) (c + 1):=by
 rw [det,Zao fun i h1 h2=>by rw [h i h1 h2,Int.mul_zero,Int.zero_mul]]
 have e:(fun r c=>f (rmv 0 r) (c + 1))=fun r c=>f (r + 1) (c + 1):=by
  funext r c
  unfold rmv
  rw [if_neg (by omega)]
 rw [e]
 simp [Jv]
def clr (f:ZW) (m:Nat):ZW:=fun r=>if r=0 then f 0 else if r≤m then fun c=>f 0 0 * f r c + -(f r 0) * f 0 c else f r
theorem Zhn {k:Nat} {f:ZW}:∀ m,m≤k + 1→det (k + 2) (clr f m)=f 0 0 ^ m * det (k + 2) f
 | 0,_=>by
  have e:clr f 0=f:=by
   funext r
   unfold clr
   split
   ·rename_i c; rw [c]
   ·rw [if_neg (by omega)]
  rw [e]
  simp
 | m + 1,h=>by
  have e:clr f (m + 1)=Z1 (clr f m) (m + 1) fun c=>f 0 0 * clr f m (m + 1) c + -(f (m + 1) 0) * clr f m 0 c:=by
   funext r
   unfold Z1 clr
   by_cases c:r=m + 1
   ·subst c
    rw [if_neg (by omega),if_pos (Nat.le_refl _),if_pos rfl,if_neg (by omega),if_neg (by omega),if_pos rfl]
   ·rw [if_neg c]
    by_cases c0:r=0
    ·rw [if_pos c0,if_pos c0]
    ·rw [if_neg c0,if_neg c0]
     by_cases c1:r≤m
     ·rw [if_pos (by omega),if_pos c1]
     ·rw [if_neg (by omega),if_neg c1]
  rw [e,Zho (f 0 0) (-(f (m + 1) 0)) (by omega) (by omega) (by omega),Zhn m (by omega),Int.pow_succ]
  simp only [Int.mul_assoc,Int.mul_left_comm,Int.mul_comm]
def Zi1 (f:ZW):ZW:=fun i j=>f 0 0 * f (i + 1) (j + 1) - f (i + 1) 0 * f 0 (j + 1)
theorem Zn8 (k:Nat) (f:ZW):f 0 0 * det (k + 1) (Zi1 f)=f 0 0 ^ (k + 1) * det (k + 2) f:=by
 rw [← Zhn (k + 1) (Nat.le_refl _),Zbr (f:=clr f (k + 1)) fun i h1 h2=>by
  unfold clr
  rw [if_neg (by omega),if_pos (by omega)]
  show f 0 0 * f i 0 + -(f i 0) * f 0 0=0
  rw [Int.neg_mul,Int.mul_comm (f i 0)]
  omega]
 have e:clr f (k + 1) 0 0=f 0 0:=by
  unfold clr
  rw [if_pos rfl]
 rw [e]
 congr 1
 refine Z8 fun r hr c hc=>?_
 unfold clr Zi1
 rw [if_neg (by omega),if_pos (by omega)]
 show _=f 0 0 * f (r + 1) (c + 1) + -(f (r + 1) 0) * f 0 (c + 1)
 rw [Int.neg_mul]
 rfl
def Zi9 (M:ZW) (t:Nat) (d:Int) (R:ZW):Prop:=∀ (k:Nat) (ρ γ:Nat→Nat),∃ ρ' γ':Nat→Nat,det (k + 1) (fun i j=>R (ρ i) (γ j))=d ^ k * det (k + 1 + t) fun i j=>M (ρ' i) (γ' j)
theorem ZeU (M:ZW):Zi9 M 0 1 M:=fun k ρ γ=>⟨ρ,γ,by rw [Int.one_pow,Int.one_mul]⟩
theorem ZiV (f:ZW):det 2 f=f 0 0 * f 1 1 - f 1 0 * f 0 1:=by
 simp [det,YN,Jv,rmv]
 rw [Int.neg_mul]
 rfl
theorem ZiM {M R:ZW} {t:Nat} {d:Int} (h:Zi9 M t d R) (p i j:Nat):d ∣ R p 0 * R i (j + 1) - R i 0 * R p (j + 1):=by
 obtain ⟨ρ',γ',e⟩:=h 1 (fun a=>if a=0 then p else i) (fun b=>if b=0 then 0 else j + 1)
 rw [ZiV,Int.pow_one] at e
 exact ⟨_,e⟩
def JV (R:ZW) (d:Int) (p:Nat):ZW:=fun i j=>(R p 0 * R (rmv p i) (j + 1) - R (rmv p i) 0 * R p (j + 1)) / d
theorem Zd4 {M R:ZW} {t:Nat} {d:Int} (h:Zi9 M t d R) (p i j:Nat):d * JV R d p i j=R p 0 * R (rmv p i) (j + 1) - R (rmv p i) 0 * R p (j + 1):=Int.mul_ediv_cancel' (ZiM h p (rmv p i) j)
theorem Zd5 {M R:ZW} {t:Nat} {d:Int} (h:Zi9 M t d R) (hd:d≠0) {p:Nat} (hp:R p 0≠0) (k:Nat) (ρ γ:Nat→Nat) {q:Int}
  (e:det (k + 2) (fun i j=>R (if i=0 then p else rmv p (ρ (i - 1))) (if j=0 then 0 else γ (j - 1) + 1))=d ^ (k + 1) * q):det (k + 1) (fun i j=>JV R d p (ρ i) (γ j))=R p 0 ^ k * q:=by
 have c:=Zn8 k fun i j=>R (if i=0 then p else rmv p (ρ (i - 1))) (if j=0 then 0 else γ (j - 1) + 1)
 rw [e] at c
 have e2:Zi1 (fun i j=>R (if i=0 then p else rmv p (ρ (i - 1))) (if j=0 then 0 else γ (j - 1) + 1))=fun i j=>d * JV R d p (ρ i) (γ j):=by
  funext i j
  rw [Zd4 h]
  unfold Zi1
  simp
 rw [e2,Zcm] at c
 have c':R p 0 * (d ^ (k + 1) * det (k + 1) fun i j=>JV R d p (ρ i) (γ j))=R p 0 ^ (k + 1) * (d ^ (k + 1) * q):=c
 rw [Int.pow_succ (R p 0)] at c'
 have hne:R p 0 * d ^ (k + 1)≠0:=Int.mul_ne_zero hp (Int.pow_ne_zero hd)
 apply Int.eq_of_mul_eq_mul_left hne
 calc R p 0 * d ^ (k + 1) * (det (k + 1) fun i j=>JV R d p (ρ i) (γ j))=R p 0 * (d ^ (k + 1) * det (k + 1) fun i j=>JV R d p (ρ i) (γ j)):=by rw [Int.mul_assoc]
  _=R p 0 ^ k * R p 0 * (d ^ (k + 1) * q):=c'
  _=R p 0 * d ^ (k + 1) * (R p 0 ^ k * q):=by simp only [Int.mul_assoc,Int.mul_left_comm,Int.mul_comm]
theorem Zg6 {M R:ZW} {t:Nat} {d:Int} (h:Zi9 M t d R) (hd:d≠0) {p:Nat} (hp:R p 0≠0):Zi9 M (t + 1) (R p 0) (JV R d p):=fun k ρ γ=>by
 obtain ⟨ρ',γ',e⟩:=h (k + 1) (fun i=>if i=0 then p else rmv p (ρ (i - 1))) (fun j=>if j=0 then 0 else γ (j - 1) + 1)
 refine ⟨ρ',γ',?_⟩
 rw [Zd5 h hd hp k ρ γ e]
 congr 2
 omega
theorem Zgx {M R:ZW} {t:Nat} {d X:Int} (h:Zi9 M t d R) (hd:d≠0) {p:Nat} (hp:R p 0≠0) {m:Nat} (hpm:p < m + 2) (e:det (m + 2) R=d ^ (m + 1) * X):det (m + 1) (JV R d p)=R p 0 ^ m * (Jv p * X):=by
 refine Zd5 h hd hp m id id ?_
 have e1:det (m + 2) (ZcD R p)=Jv p * det (m + 2) R:=Zdl hpm
 rw [e] at e1
 have e2:det (m + 2) (fun i j=>R (if i=0 then p else rmv p (id (i - 1))) (if j=0 then 0 else id (j - 1) + 1))=det (m + 2) (ZcD R p):=by
  refine Z8 fun r _ c _=>?_
  unfold ZcD
  have ec:(if c=0 then 0 else id (c - 1) + 1)=c:=by
   split
   ·rename_i q; exact q.symm
   ·show c - 1 + 1=c
    omega
  rw [ec]
  by_cases q:r=0
  ·rw [if_pos q,if_pos q]
  ·rw [if_neg q,if_neg q]
   rfl
 rw [e2,e1]
 simp only [Int.mul_assoc,Int.mul_left_comm,Int.mul_comm]
theorem Zer {n:Nat} {f:ZW} (h:∀ i,i < n + 1→f i 0=0):det (n + 1) f=0:=by
 rw [det]
 exact Xt fun i hi=>by rw [h i hi,Int.mul_zero,Int.zero_mul]
end Sh
namespace Sh
open PySem L2 PyProof.Rows
def bg (x:Str):Str:=tx x.cps.toList.dropLast
def en (x:Str):Str:=tx (x.cps.toList.drop 1)
abbrev Es:=List (Str × Int)
def ind (p:Prop) [Decidable p]:Int:=if p then 1 else 0
def mo1 (e:Str × Int) (P:Str):Int:=e.2 * ind (bg e.1=P) - e.2 * ind (en e.1=P)
def mo (es:Es) (P:Str):Int:=(es.map fun e=>mo1 e P).sum
theorem ZkL (es:Es) (e:Str × Int) (P:Str):mo (es ++ [e]) P=mo es P + mo1 e P:=by
 unfold mo
 rw [List.map_append,List.sum_append]
 simp
theorem Za9 (e:Str × Int) (es:Es) (P:Str):mo (e :: es) P=mo1 e P + mo es P:=by
 unfold mo
 rw [List.map_cons,List.sum_cons]
theorem Zc7:∀ {es:Es} {P:Str},(∀ e∈es,bg e.1≠P∧en e.1≠P)→mo es P=0
 | [],_,_=>rfl
 | e :: es,P,h=>by
  rw [Za9,Zc7 fun x hx=>h x (List.mem_cons_of_mem _ hx)]
  obtain ⟨h1,h2⟩:=h e (List.mem_cons_self ..)
  unfold mo1 ind
  rw [if_neg h1,if_neg h2]
  simp
def tot (f:Str→Int) (ks:List Str):Int:=(ks.map f).sum
theorem Y5 (f:Str→Int) (x:Str) (ks:List Str):tot f (x :: ks)=f x + tot f ks:=by
 unfold tot
 rw [List.map_cons,List.sum_cons]
theorem ZcC (f g:Str→Int):∀ ks:List Str,tot (fun x=>f x + g x) ks=tot f ks + tot g ks
 | []=>rfl
 | x :: ks=>by
  rw [Y5,Y5,Y5,ZcC f g ks]
  omega
theorem ZcB (c:Int) (y:Str):∀ ks:List Str,ks.Nodup→tot (fun P=>c * ind (y=P)) ks=if y∈ks then c else 0
 | [],_=>rfl
 | x :: ks,nd=>by
  have nd':=List.nodup_cons.mp nd
  rw [Y5,ZcB c y ks nd'.2]
  unfold ind
  by_cases e:y=x
  ·subst e
   rw [if_pos rfl,if_neg nd'.1,if_pos (List.mem_cons_self ..)]
   omega
  ·rw [if_neg e]
   have:(y∈x :: ks)↔y∈ks:=by simp [e]
   simp only [this]
   omega
theorem ZdA:∀ ks:List Str,tot (fun _=>0) ks=0
 | []=>rfl
 | x :: ks=>by rw [Y5,ZdA ks]; rfl
theorem Zjb {ks:List Str} (nd:ks.Nodup):∀ {es:Es},(∀ e∈es,bg e.1∈ks∧en e.1∈ks)→tot (mo es) ks=0
 | [],_=>ZdA ks
 | e :: es,h=>by
  have e1:tot (mo (e :: es)) ks=tot (fun P=>mo1 e P + mo es P) ks:=by
   unfold tot
   exact congrArg List.sum (List.map_congr_left fun P _=>Za9 e es P)
  rw [e1,ZcC,Zjb nd fun x hx=>h x (List.mem_cons_of_mem _ hx)]
  obtain ⟨h1,h2⟩:=h e (List.mem_cons_self ..)
  have e2:tot (mo1 e) ks=tot (fun P=>e.2 * ind (bg e.1=P) + -e.2 * ind (en e.1=P)) ks:=by
   unfold tot
   congr 1
   refine List.map_congr_left fun P _=>?_
   unfold mo1
   rw [Int.neg_mul]
   omega
  rw [e2,ZcC,ZcB _ _ _ nd,ZcB _ _ _ nd,if_pos h1,if_pos h2]
  omega
def ups (f:Str→Int) (ss:List Str):Es:=(ss.filter fun x=>decide (0 < f x)).map fun x=>(x,f x)
def sm (es:Es):Int:=(es.map fun e=>e.2).sum
theorem Zdy (f:Str→Int) (x:Str) (ss:List Str):sm (ups f (x :: ss))=(if 0 < f x then f x else 0) + sm (ups f ss):=by
 unfold sm ups
 rw [List.filter_cons]
 by_cases c:0 < f x
 ·rw [if_pos c,if_pos (by simpa using c)]
  simp
 ·rw [if_neg c,if_neg (by simpa using c)]
  simp
theorem Zfc (f:Str→Int):∀ ss:List Str,sm (ups f ss) - sm (ups (fun x=>-f x) ss)=tot f ss
 | []=>rfl
 | x :: ss=>by
  have ih:=Zfc f ss
  rw [Zdy,Zdy,Y5]
  split <;> split <;> omega
theorem Zlq {f:Str→Int} {b:Nat} (h:∀ x,(f x).natAbs≤b) (ss:List Str):∀ e∈ups f ss,0 < e.2∧e.2≤b:=fun e he=>by
 unfold ups at he
 obtain ⟨x,hx,rfl⟩:=List.mem_map.mp he
 have h1:=(List.mem_filter.mp hx).2
 have h2:=h x
 simp at h1
 constructor
 ·exact h1
 ·show f x≤b
  omega
theorem Zmb:∀ {es:Es} {b:Nat} (P:Str),(∀ e∈es,0≤e.2∧e.2≤b)→(mo es P).natAbs≤b * es.length
 | [],_,_,_=>by simp [mo]
 | e :: es,b,P,h=>by
  have ih:=Zmb (es:=es) P fun x hx=>h x (List.mem_cons_of_mem _ hx)
  obtain ⟨h1,h2⟩:=h e (List.mem_cons_self ..)
  rw [Za9,List.length_cons,Nat.mul_add]
  have:(mo1 e P).natAbs≤b:=by
   unfold mo1 ind
   split <;> split <;> omega
  omega
def Adj (es:Es) (P y:Str):Prop:=∃ e∈es,(bg e.1=P∧en e.1=y)∨(en e.1=P∧bg e.1=y)
inductive Rch (es:Es) (a:Str):Str→Prop where
 | here:Rch es a a
 | step {P y:Str} (h:Rch es a P) (k:Adj es P y):Rch es a y
theorem Rch.closed {es:Es} {a:Str} {F:Str→Prop} (ha:F a) (hc:∀ P,F P→∀ y,Adj es P y→F y) {y:Str} (h:Rch es a y):F y:=by
 induction h with
 | here=>exact ha
 | step _ k ih=>exact hc _ ih _ k
theorem Zi6 {es:Es} {e:Str × Int} {P y:Str}:Adj (es ++ [e]) P y↔Adj es P y∨(bg e.1=P∧en e.1=y)∨(en e.1=P∧bg e.1=y):=by
 unfold Adj
 constructor
 ·rintro ⟨x,hx,q⟩
  rcases List.mem_append.mp hx with z | z
  ·exact .inl ⟨x,z,q⟩
  ·rw [List.mem_singleton.mp z] at q
   exact .inr q
 ·rintro (⟨x,hx,q⟩ | q)
  ·exact ⟨x,List.mem_append_left _ hx,q⟩
  ·exact ⟨e,by simp,q⟩
end Sh
namespace Tim
open PySem PySem.W PyProof.Rows
section
variable {M:Model} {A:Around} {E:Value→Shared→Prop} {σ:Type}
theorem ZU {α:Type} {m:StateT σ Sem α} {Q Q':α→σ→Shared→Prop} {st:σ} {s:Shared} (h:kasC M A E m Q st s) (hq:∀ a st' s',Q a st' s'→Q' a st' s'):kasC M A E m Q' st s :=
 wpAny_mono h (fun r s' h'=>hq _ _ _ h') fun _ _ e=>e
theorem ZgT {β:Type} {f:Nat→β→StateT σ Sem (ForInStep β)} {Q:β→σ→Shared→Prop} (I:Nat→β→σ→Shared→Prop) (b:Nat)
  (step:∀ i c st s,i < b→I i c st s→kasC M A E (f i c) (fun r st' s'=>match r with | .done c'=>Q c' st' s' | .yield c'=>I (i + 1) c' st' s') st s)
  (fin:∀ c st s,I b c st s→Q c st s):∀ (n i:Nat) (c:β) (st:σ) (s:Shared),i + n=b→I i c st s→kasC M A E (forIn (List.range' i n) c f) Q st s
 | 0,i,c,st,s,e,h=>by
  rw [List.range'_zero]
  refine kasC_nil (fin c st s ?_)
  have:i=b:=by omega
  rw [← this]
  exact h
 | n + 1,i,c,st,s,e,h=>by
  rw [List.range'_succ]
  refine kasC_cons (ZU (step i c st s (by omega) h) fun r st' s' h'=>?_)
  cases r with
  | done c'=>exact h'
  | yield c'=>exact ZgT I b step fin n (i + 1) c' st' s' (by omega) h'
theorem Z7 {β:Type} {a b:Nat} {c:β} {f:Nat→β→StateT σ Sem (ForInStep β)} {Q:β→σ→Shared→Prop} {st:σ} {s:Shared} (I:Nat→β→σ→Shared→Prop) (h:I a c st s)
  (step:∀ i c st s,i < max a b→I i c st s→kasC M A E (f i c) (fun r st' s'=>match r with | .done c'=>Q c' st' s' | .yield c'=>I (i + 1) c' st' s') st s)
  (fin:∀ c st s,I (max a b) c st s→Q c st s):kasC M A E (forIn [a:b] c f) Q st s :=
 kasC_range (ZgT I (max a b) step fin (b - a) a c st s (by omega) h)
end
section
variable {prog:Program} {w:World} {A:Around} {E:Value→Shared→Prop}
structure JE (prog:Program) (w:World) (A:Around) (κ:SortKind) (ϕ:Keyed→Nat) (U:Keyed→Prop) (G:Shared→Prop):Prop where
 ask:∀ (x y:Keyed) (C:Bool→Shared→Prop) (s:Shared),U x→U y→G s→(∀ s',G s'→C (decide (ϕ x < ϕ y)) s')→wpAny (model prog w) A (keyLt' κ x.1 y.1) C (fun _ _=>False) s
variable {κ:SortKind} {ϕ:Keyed→Nat} {U:Keyed→Prop} {G:Shared→Prop}
theorem ZgS (R:JE prog w A κ ϕ U G) {x y:Keyed} {Q:Option Bool→SortSt→Shared→Prop} {st:SortSt} {s:Shared} (hk:kindOf st=κ) (hx:U x) (hy:U y) (g:G s) (h:∀ s',G s'→Q (some (decide (ϕ x < ϕ y))) st s') :
  kasC (model prog w) A E (lt' x y) Q st s:=by
 rw [lt'_eq]
 refine kasC_bind (kasC_get ?_)
 rw [hk]
 refine kasC_bind (kasC_lift (wpAny_attempt (wpAny_mono (R.ask x y (fun c s'=>Q (some c) st s') s hx hy g h) (fun c s' hc=>?_) fun _ _ hF=>hF.elim)))
 exact kasC_pure hc
theorem ZF {xs:Array Keyed} {i:Nat} {x:Keyed} {Q:Keyed→SortSt→Shared→Prop} {st:SortSt} {s:Shared} (hx:xs[i]?=some x) (h:Q x st s):kasC (model prog w) A E (elem' xs i) Q st s:=by
 rw [elem'_eq,hx]
 exact kasC_pure h
def fx (ϕ:Keyed→Nat) (xs:Array Keyed) (i:Nat):Nat:=match xs[i]? with
 | some p=>ϕ p
 | none=>0
theorem Zcf {xs:Array Keyed} {i:Nat} {x:Keyed} (h:xs[i]?=some x):fx ϕ xs i=ϕ x:=by unfold fx; rw [h]
theorem Ys {xs ys:Array Keyed} {i j:Nat} (h:xs[i]?=ys[j]?):fx ϕ xs i=fx ϕ ys j:=by unfold fx; rw [h]
def Al (U:Keyed→Prop) (xs:Array Keyed):Prop:=∀ (i:Nat) x,xs[i]?=some x→U x
theorem Al.perm {xs ys:Array Keyed} (h:Al U xs) (p:ys.Perm xs):Al U ys:=fun i x e=>by
 have hm:x∈ys:=Array.mem_of_getElem? e
 have:=p.mem_iff.mp hm
 obtain ⟨j,hj,e2⟩:=Array.getElem_of_mem this
 exact h j x (by rw [← e2]; exact Array.getElem?_eq_getElem hj)
def Zbk:Bool→Keyed→Array Keyed→Nat→Nat→Nat→StateT SortSt Sem (Option Nat):=sortPriv% PySem.Builtin.gallop
def Zlh (lf:Bool) (ky:Keyed) (ar:Array Keyed) (bs:Nat) (i:Nat):StateT SortSt Sem (Option Bool):=do
 let el ← elem' ar (bs + i)
 if lf then lt' el ky else return (← lt' ky el).map (!·)
theorem ZiP (lf:Bool) (ky:Keyed) (ar:Array Keyed) (bs n ht:Nat):Zbk lf ky ar bs n ht=(do
 let mut u:=0
 let mut v:=1
 let mut p:=0
 let mut q:=0
 let some rt ← Zlh lf ky ar bs ht | return none
 if rt then
  let mx:=n - ht
  for _ in [0:n] do
   if v ≥ mx then break
   let some mo ← Zlh lf ky ar bs (ht + v) | return none
   if !mo then break
   u:=v
   v:=2 * v + 1
  p:=ht + u + 1
  q:=ht + min v mx
 else
  let mx:=ht + 1
  for _ in [0:n] do
   if v ≥ mx then break
   let some fo ← Zlh lf ky ar bs (ht - v) | return none
   if fo then break
   u:=v
   v:=2 * v + 1
  p:=ht + 1 - min v mx
  q:=ht - u
 for _ in [0:n] do
  if p ≥ q then break
  let m:=p + (q - p) / 2
  let some mo ← Zlh lf ky ar bs m | return none
  if mo then p:=m + 1 else q:=m
 return some q):=rfl
def YM (ϕ:Keyed→Nat) (lf:Bool) (k:Nat) (ar:Array Keyed) (bs i:Nat):Bool:=if lf then decide (fx ϕ ar (bs + i) < k) else !decide (k < fx ϕ ar (bs + i))
theorem Zeg (R:JE prog w A κ ϕ U G) {lf:Bool} {ky:Keyed} {ar:Array Keyed} {bs i:Nat} {Q:Option Bool→SortSt→Shared→Prop} {st:SortSt} {s:Shared} (hk:kindOf st=κ) (hu:U ky) (ha:Al U ar) (hi:bs + i < ar.size) (g:G s)
  (h:∀ s',G s'→Q (some (YM ϕ lf (ϕ ky) ar bs i)) st s'):kasC (model prog w) A E (Zlh lf ky ar bs i) Q st s:=by
 unfold Zlh
 have e:ar[bs + i]?=some ar[bs + i]:=Array.getElem?_eq_getElem hi
 refine kasC_bind (ZF e ?_)
 unfold YM at h
 rw [Zcf e] at h
 cases lf with
 | true =>
  rw [if_pos rfl]
  exact ZgS R hk (ha _ _ e) hu g fun s' g'=>by simpa using h s' g'
 | false =>
  rw [if_neg (by decide)]
  refine kasC_bind (ZgS R hk hu (ha _ _ e) g fun s' g'=>kasC_pure ?_)
  simpa using h s' g'
theorem Zaz (R:JE prog w A κ ϕ U G) {lf:Bool} {ky:Keyed} {ar:Array Keyed} {bs n p0 q0:Nat} {Q:Option Nat→SortSt→Shared→Prop} {st:SortSt} {s:Shared} (hk:kindOf st=κ) (hu:U ky) (ha:Al U ar) (hn:bs + n≤ar.size)
  (mo:∀ i j,i≤j→j < n→YM ϕ lf (ϕ ky) ar bs j=true→YM ϕ lf (ϕ ky) ar bs i=true) (g:G s) (hpq:p0≤q0) (hq:q0≤n) (h1:∀ i,i < p0→YM ϕ lf (ϕ ky) ar bs i=true) (h2:∀ i,q0≤i→i < n→YM ϕ lf (ϕ ky) ar bs i=false)
  (h:∀ q s',q≤n→(∀ i,i < q→YM ϕ lf (ϕ ky) ar bs i=true)→(∀ i,q≤i→i < n→YM ϕ lf (ϕ ky) ar bs i=false)→G s'→Q (some q) st s'):kasC (model prog w) A E (do
   let mut p:=p0
   let mut q:=q0
   for _ in [0:n] do
    if p ≥ q then break
    let m:=p + (q - p) / 2
    let some mo ← Zlh lf ky ar bs m | return none
    if mo then p:=m + 1 else q:=m
   return some q) Q st s:=by
 dsimp only
 refine kasC_bind (Z7 (fun t c st' s'=>∃ p q,c=(none,p,q)∧st'=st∧G s'∧p≤q∧q≤n∧(∀ i,i < p→YM ϕ lf (ϕ ky) ar bs i=true)∧(∀ i,q≤i→i < n→YM ϕ lf (ϕ ky) ar bs i=false)∧q - p≤n - t) ⟨p0,q0,rfl,rfl,g,hpq,hq,h1,h2,by omega⟩ ?_ ?_)
 ·rintro t c st' s' ht ⟨p,q,rfl,rfl,g',a1,a2,a3,a4,a5⟩
  dsimp only
  by_cases c:p ≥ q
  ·rw [if_pos c]
   have e:p=q:=by omega
   subst e
   exact kasC_pure (kasC_pure (h p s' a2 a3 a4 g'))
  ·rw [if_neg c]
   refine kasC_bind (Zeg R hk hu ha (by omega) g' fun s2 g2=>?_)
   dsimp only
   by_cases cm:YM ϕ lf (ϕ ky) ar bs (p + (q - p) / 2)=true
   ·rw [if_pos cm]
    exact kasC_pure ⟨p + (q - p) / 2 + 1,q,rfl,rfl,g2,by omega,a2,fun i hi=>mo i _ (by omega) (by omega) cm,a4,by omega⟩
   ·rw [if_neg cm]
    refine kasC_pure ⟨p,p + (q - p) / 2,rfl,rfl,g2,by omega,by omega,a3,fun i hi1 hi2=>?_,by omega⟩
    cases z:YM ϕ lf (ϕ ky) ar bs i with
    | false=>rfl
    | true=>exact absurd (mo _ i hi1 hi2 z) cm
 ·rintro c st' s' ⟨p,q,rfl,rfl,g',a1,a2,a3,a4,a5⟩
  have e:p=q:=by omega
  subst e
  exact kasC_pure (h p s' a2 a3 a4 g')
theorem ZkZ (R:JE prog w A κ ϕ U G) {lf:Bool} {ky:Keyed} {ar:Array Keyed} {bs n ht:Nat} {Q:Option Nat→SortSt→Shared→Prop} {st:SortSt} {s:Shared} (hk:kindOf st=κ) (hu:U ky) (ha:Al U ar) (hn:bs + n≤ar.size) (hh:ht < n)
  (mo:∀ i j,i≤j→j < n→YM ϕ lf (ϕ ky) ar bs j=true→YM ϕ lf (ϕ ky) ar bs i=true) (g:G s)
  (h:∀ q s',q≤n→(∀ i,i < q→YM ϕ lf (ϕ ky) ar bs i=true)→(∀ i,q≤i→i < n→YM ϕ lf (ϕ ky) ar bs i=false)→G s'→Q (some q) st s'):kasC (model prog w) A E (Zbk lf ky ar bs n ht) Q st s:=by
 have mo':∀ i j,i≤j→j < n→YM ϕ lf (ϕ ky) ar bs i=false→YM ϕ lf (ϕ ky) ar bs j=false:=fun i j h1 h2 e=>by
  cases z:YM ϕ lf (ϕ ky) ar bs j with
  | false=>rfl
  | true=>rw [mo i j h1 h2 z] at e; cases e
 rw [ZiP]
 refine kasC_bind (Zeg R hk hu ha (by omega) g fun s1 g1=>?_)
 dsimp only
 by_cases c:YM ϕ lf (ϕ ky) ar bs ht=true
 ·rw [if_pos c]
  have go:∀ u v s',G s'→ht + u < n→u < v→YM ϕ lf (ϕ ky) ar bs (ht + u)=true→(n - ht≤v∨YM ϕ lf (ϕ ky) ar bs (ht + v)=false)→ht + u + 1≤ht + min v (n - ht)∧ht + min v (n - ht)≤n∧(∀ i,i < ht + u + 1→YM ϕ lf (ϕ ky) ar bs i=true)∧∀ i,ht + min v (n - ht)≤i→i < n→YM ϕ lf (ϕ ky) ar bs i=false:=fun u v s' g' a1 a2 a3 a4=>by
   refine ⟨by omega,by omega,fun i hi=>mo i _ (by omega) a1 a3,fun i h1 h2=>?_⟩
   rcases a4 with z | z
   ·omega
   ·by_cases q:n - ht≤v
    ·omega
    ·exact mo' (ht + v) i (by omega) h2 z
  refine kasC_bind (Z7 (fun t c st' s'=>∃ u v,c=(none,u,v)∧st'=st∧G s'∧ht + u < n∧u < v∧YM ϕ lf (ϕ ky) ar bs (ht + u)=true∧t + 1≤v) ⟨0,1,rfl,rfl,g1,by omega,by omega,by rw [Nat.add_zero]; exact c,by omega⟩ ?_ ?_)
  ·rintro t c st' s' ht' ⟨u,v,rfl,rfl,g',a1,a2,a3,a4⟩
   dsimp only
   by_cases c1:v ≥ n - ht
   ·rw [if_pos c1]
    obtain ⟨b1,b2,b3,b4⟩:=go u v s' g' a1 a2 a3 (.inl c1)
    exact kasC_pure (Zaz R hk hu ha hn mo g' b1 b2 b3 b4 h)
   ·rw [if_neg c1]
    refine kasC_bind (Zeg R hk hu ha (by omega) g' fun s2 g2=>?_)
    dsimp only
    by_cases cm:YM ϕ lf (ϕ ky) ar bs (ht + v)=true
    ·rw [if_neg (by rw [cm]; decide)]
     exact kasC_pure ⟨v,2 * v + 1,rfl,rfl,g2,by omega,by omega,cm,by omega⟩
    ·have cf:YM ϕ lf (ϕ ky) ar bs (ht + v)=false:=by simpa using cm
     rw [if_pos (by rw [cf]; decide)]
     obtain ⟨b1,b2,b3,b4⟩:=go u v s' g' a1 a2 a3 (.inr cf)
     exact kasC_pure (Zaz R hk hu ha hn mo g2 b1 b2 b3 b4 h)
  ·rintro c st' s' ⟨u,v,rfl,rfl,g',a1,a2,a3,a4⟩
   obtain ⟨b1,b2,b3,b4⟩:=go u v s' g' a1 a2 a3 (.inl (by omega))
   exact Zaz R hk hu ha hn mo g' b1 b2 b3 b4 h
 ·have cf:YM ϕ lf (ϕ ky) ar bs ht=false:=by simpa using c
  rw [if_neg c]
  have go:∀ u v,u≤ht→u < v→YM ϕ lf (ϕ ky) ar bs (ht - u)=false→(ht + 1≤v∨YM ϕ lf (ϕ ky) ar bs (ht - v)=true)→ht + 1 - min v (ht + 1)≤ht - u∧ht - u≤n∧(∀ i,i < ht + 1 - min v (ht + 1)→YM ϕ lf (ϕ ky) ar bs i=true)∧∀ i,ht - u≤i→i < n→YM ϕ lf (ϕ ky) ar bs i=false:=fun u v a1 a2 a3 a4=>by
   refine ⟨by omega,by omega,fun i hi=>?_,fun i h1 h2=>mo' _ i h1 h2 a3⟩
   rcases a4 with z | z
   ·omega
   ·exact mo i (ht - v) (by omega) (by omega) z
  refine kasC_bind (Z7 (fun t c st' s'=>∃ u v,c=(none,u,v)∧st'=st∧G s'∧u≤ht∧u < v∧YM ϕ lf (ϕ ky) ar bs (ht - u)=false∧t + 1≤v) ⟨0,1,rfl,rfl,g1,by omega,by omega,cf,by omega⟩ ?_ ?_)
  ·rintro t c st' s' ht' ⟨u,v,rfl,rfl,g',a1,a2,a3,a4⟩
   dsimp only
   by_cases c1:v ≥ ht + 1
   ·rw [if_pos c1]
    obtain ⟨b1,b2,b3,b4⟩:=go u v a1 a2 a3 (.inl c1)
    exact kasC_pure (Zaz R hk hu ha hn mo g' b1 b2 b3 b4 h)
   ·rw [if_neg c1]
    refine kasC_bind (Zeg R hk hu ha (by omega) g' fun s2 g2=>?_)
    dsimp only
    by_cases cm:YM ϕ lf (ϕ ky) ar bs (ht - v)=true
    ·rw [if_pos cm]
     obtain ⟨b1,b2,b3,b4⟩:=go u v a1 a2 a3 (.inr cm)
     exact kasC_pure (Zaz R hk hu ha hn mo g2 b1 b2 b3 b4 h)
    ·have cf2:YM ϕ lf (ϕ ky) ar bs (ht - v)=false:=by simpa using cm
     rw [if_neg cm]
     exact kasC_pure ⟨v,2 * v + 1,rfl,rfl,g2,by omega,by omega,cf2,by omega⟩
  ·rintro c st' s' ⟨u,v,rfl,rfl,g',a1,a2,a3,a4⟩
   obtain ⟨b1,b2,b3,b4⟩:=go u v a1 a2 a3 (.inl (by omega))
   exact Zaz R hk hu ha hn mo g' b1 b2 b3 b4 h
end
end Tim
namespace Tim
open PySem PySem.W PyProof.Rows
abbrev Up (ϕ:Keyed→Nat) (l:List Keyed):Prop:=l.Pairwise fun x y=>ϕ x≤ϕ y
structure Lo (ϕ:Keyed→Nat) (T o X Y:List Keyed):Prop where
 px:Up ϕ (o ++ X)
 py:Up ϕ (o ++ Y)
 pm:(o ++ X ++ Y).Perm T
section
variable {ϕ:Keyed→Nat} {T o X Y x y:List Keyed}
theorem Lo.goX (h:Lo ϕ T o (x ++ X) Y) (hx:∀ u∈x,∀ v∈Y,ϕ u≤ϕ v):Lo ϕ T (o ++ x) X Y:=by
 obtain ⟨h1,h2,h3⟩:=h
 refine ⟨by rw [List.append_assoc]; exact h1,?_,by rw [List.append_assoc o x X]; exact h3⟩
 unfold Up at *
 rw [List.pairwise_append] at h1 h2 ⊢
 rw [List.pairwise_append] at h1
 rw [List.pairwise_append]
 refine ⟨⟨h1.1,h1.2.1.1,fun a ha b hb=>h1.2.2 a ha b (List.mem_append_left _ hb)⟩,h2.2.1,fun a ha b hb=>?_⟩
 rcases List.mem_append.mp ha with z | z
 ·exact h2.2.2 a z b hb
 ·exact hx a z b hb
theorem Lo.swap (h:Lo ϕ T o X Y):Lo ϕ T o Y X:=⟨h.py,h.px,(by
 rw [List.append_assoc]
 exact ((List.perm_append_comm.append_left o).trans (by rw [← List.append_assoc])).trans h.pm)⟩
theorem Lo.goY (h:Lo ϕ T o X (y ++ Y)) (hy:∀ u∈y,∀ v∈X,ϕ u≤ϕ v):Lo ϕ T (o ++ y) X Y:=(h.swap.goX hy).swap
theorem Lo.len (h:Lo ϕ T o X Y):o.length + X.length + Y.length=T.length:=by
 have:=h.pm.length_eq
 simp only [List.length_append] at this
 exact this
end
theorem at_ {a:Array Keyed} {i:Nat} (h:i < a.size):∃ x,a[i]?=some x∧a.toList.drop i=x :: a.toList.drop (i + 1) :=
 ⟨a[i],Array.getElem?_eq_getElem h,by rw [List.drop_eq_getElem_cons (by simpa using h)]; simp⟩
theorem Zju (o:Array Keyed) (x:Keyed):(o.push x).toList=o.toList ++ [x]:=by simp
theorem Zhg (o:Array Keyed) (i k:Nat):(o.extract i (i + k)).toList=(o.toList.drop i).take k:=by
 rw [Array.toList_extract]
 simp
theorem Zbm (o:Array Keyed) (i:Nat):(o.extract i o.size).toList=o.toList.drop i:=by
 rw [Array.toList_extract,List.extract_eq_take_drop]
 exact List.take_of_length_le (by simp)
theorem ZiT (o:Array Keyed) (i:Nat):(o.extract 0 i).toList=o.toList.take i:=by
 rw [Array.toList_extract]
 simp
theorem Zae (o p:Array Keyed):(o ++ p).toList=o.toList ++ p.toList:=by simp
theorem JC (l:List Keyed) (i k:Nat):l.drop i=(l.drop i).take k ++ l.drop (i + k):=by
 rw [← List.drop_drop,List.take_append_drop]
def Sim (st st':SortSt):Prop:=kindOf st'=kindOf st∧arrOf st'=arrOf st∧pendingOf st'=pendingOf st∧failedOf st'=failedOf st
theorem Sim.refl (st:SortSt):Sim st st:=⟨rfl,rfl,rfl,rfl⟩
theorem Sim.trans {a b c:SortSt} (h:Sim a b) (k:Sim b c):Sim a c:=⟨k.1.trans h.1,k.2.1.trans h.2.1,k.2.2.1.trans h.2.2.1,k.2.2.2.trans h.2.2.2⟩
noncomputable def ZeC:Nat→StateT SortSt Sem Unit:=sortPriv% PySem.Builtin.setMinGallop
theorem ZhU (n:Nat):ZeC n=modify fun z=>SortSt.mk' (kindOf z) (arrOf z) (pendingOf z) n (failedOf z):=rfl
section
variable {prog:Program} {w:World} {A:Around} {E:Value→Shared→Prop} {κ:SortKind} {ϕ:Keyed→Nat} {U:Keyed→Prop} {G:Shared→Prop}
theorem Zbf {n:Nat} {Q:Unit→SortSt→Shared→Prop} {st:SortSt} {s:Shared} (h:∀ st',Sim st st'→Q () st' s):kasC (model prog w) A E (ZeC n) Q st s:=by
 rw [ZhU]
 exact kasC_modify (h _ ⟨rfl,rfl,rfl,rfl⟩)
theorem X5 {n:String} {Q:Unit→SortSt→Shared→Prop} {st:SortSt} {s:Shared} (h:Q () st s):kasC (model prog w) A E (liftM (rule n):StateT SortSt Sem Unit) Q st s :=
 kasC_lift (wpAny_rule h)
theorem ZjQ {a:Array Keyed} {bs k:Nat} {u:Keyed} (h:u∈(a.toList.drop bs).take k):∃ t,t < k∧bs + t < a.size∧fx ϕ a (bs + t)=ϕ u:=by
 obtain ⟨t,ht,e⟩:=List.getElem_of_mem h
 have ht1:t < k:=by rw [List.length_take] at ht; omega
 have ht2:bs + t < a.size:=by rw [List.length_take,List.length_drop,Array.length_toList] at ht; omega
 refine ⟨t,ht1,ht2,?_⟩
 have e2:a[bs + t]?=some u:=by
  rw [← e,Array.getElem?_eq_getElem ht2]
  simp
 exact Zcf e2
def UpTo (ϕ:Keyed→Nat) (a:Array Keyed) (p q:Nat):Prop:=∀ i j,p≤i→i≤j→j < q→fx ϕ a i≤fx ϕ a j
theorem UpTo.of {a:Array Keyed} (h:Up ϕ a.toList):UpTo ϕ a 0 a.size:=fun i j _ hij hj=>by
 have e1:a[i]?=some a[i]:=Array.getElem?_eq_getElem (by omega)
 have e2:a[j]?=some a[j]:=Array.getElem?_eq_getElem hj
 rw [Zcf e1,Zcf e2]
 rcases Nat.lt_or_ge i j with c | c
 ·have:=List.pairwise_iff_getElem.mp h i j (by simpa using (by omega:i < a.size)) (by simpa using hj) c
  simpa using this
 ·have:i=j:=by omega
  subst this
  exact Nat.le_refl _
theorem UpTo.sub {a:Array Keyed} {p q p' q':Nat} (h:UpTo ϕ a p q) (h1:p≤p') (h2:q'≤q):UpTo ϕ a p' q':=fun i j a1 a2 a3=>h i j (by omega) a2 (by omega)
theorem Zay (R:JE prog w A κ ϕ U G) {lf:Bool} {ky:Keyed} {ar:Array Keyed} {bs n ht:Nat} {Q:Option Nat→SortSt→Shared→Prop} {st:SortSt} {s:Shared} (hk:kindOf st=κ) (hu:U ky) (ha:Al U ar) (hn:bs + n≤ar.size) (hh:ht < n)
  (up:UpTo ϕ ar bs (bs + n)) (g:G s)
  (h:∀ q s',q≤n→(∀ u∈(ar.toList.drop bs).take q,ϕ u≤ϕ ky)→(∀ u∈(ar.toList.drop (bs + q)).take (n - q),ϕ ky≤ϕ u)→G s'→Q (some q) st s'):kasC (model prog w) A E (Zbk lf ky ar bs n ht) Q st s:=by
 refine ZkZ R hk hu ha hn hh (fun i j hij hj=>?_) g fun q s' hq h1 h2 g'=>h q s' hq (fun u hu=>?_) (fun u hu=>?_) g'
 ·have:=up (bs + i) (bs + j) (by omega) (by omega) (by omega)
  unfold YM
  cases lf with
  | true=>simp; omega
  | false=>simp; omega
 ·obtain ⟨t,b1,b2,b3⟩:=ZjQ (ϕ:=ϕ) hu
  have:=h1 t b1
  unfold YM at this
  cases lf with
  | true=>simp at this; omega
  | false=>simp at this; omega
 ·obtain ⟨t,b1,b2,b3⟩:=ZjQ (ϕ:=ϕ) hu
  have:=h2 (q + t) (by omega) (by omega)
  unfold YM at this
  rw [← Nat.add_assoc] at this
  cases lf with
  | true=>simp at this; omega
  | false=>simp at this; omega
end
noncomputable def ZkM:Array Keyed→Array Keyed→StateT SortSt Sem (Array Keyed):=sortPriv% PySem.Builtin.mergeLo
noncomputable def Zab (a b o:Array Keyed) (i j:Nat):Array Keyed:=o ++ a.extract i a.size ++ b.extract j b.size
noncomputable def JZ (a b o:Array Keyed) (i j:Nat):Array Keyed:=o ++ b.extract j b.size ++ a.extract i a.size
noncomputable def loE (a b o:Array Keyed) (i j mg k k1:Nat):StateT SortSt Sem (ForInStep (Option (Array Keyed) × Array Keyed × Nat × Nat × Nat × Nat × Nat)):=do
 let x ← elem' a i
 if i + 1 + 1 == a.size then pure (.done (some (JZ a b (o.push x) (i + 1) j),o.push x,i + 1,j,mg,k,k1))
 else if k < 7 && k1 < 7 then pure (.done (none,o.push x,i + 1,j,mg,k,k1))
 else pure (.yield (none,o.push x,i + 1,j,mg,k,k1))
noncomputable def loD (a b o:Array Keyed) (i j mg k bc:Nat):StateT SortSt Sem (ForInStep (Option (Array Keyed) × Array Keyed × Nat × Nat × Nat × Nat × Nat)):=do
 let y ← elem' b j
 if j + 1 == b.size then pure (.done (some (Zab a b (o.push y) i (j + 1)),o.push y,i,j + 1,mg,k,bc))
 else do
  let x ← elem' a i
  let some k1 ← Zbk true x b (j + 1) (b.size - (j + 1)) 0 | pure (.done (some (Zab a b (o.push y) i (j + 1)),o.push y,i,j + 1,mg,k,bc))
  if k1 > 0 then
   if j + 1 + k1 == b.size then pure (.done (some (Zab a b (o.push y ++ b.extract (j + 1) (j + 1 + k1)) i (j + 1 + k1)),o.push y ++ b.extract (j + 1) (j + 1 + k1),i,j + 1 + k1,mg,k,k1))
   else loE a b (o.push y ++ b.extract (j + 1) (j + 1 + k1)) i (j + 1 + k1) mg k k1
  else loE a b (o.push y) i (j + 1) mg k k1
noncomputable def loC (a b o:Array Keyed) (i j mg ac bc:Nat):StateT SortSt Sem (ForInStep (Option (Array Keyed) × Array Keyed × Nat × Nat × Nat × Nat × Nat)):=do
 ZeC mg
 let y ← elem' b j
 let some k ← Zbk false y a i (a.size - i) 0 | pure (.done (some (Zab a b o i j),o,i,j,mg,ac,bc))
 if k > 0 then
  if i + k + 1 == a.size then pure (.done (some (JZ a b (o ++ a.extract i (i + k)) (i + k) j),o ++ a.extract i (i + k),i + k,j,mg,k,bc))
  else if i + k == a.size then pure (.done (some (Zab a b (o ++ a.extract i (i + k)) (i + k) j),o ++ a.extract i (i + k),i + k,j,mg,k,bc))
  else loD a b (o ++ a.extract i (i + k)) (i + k) j mg k bc
 else loD a b o i j mg k bc
noncomputable def loB (a b:Array Keyed) (c:(Option (Array Keyed) × Array Keyed × Nat × Nat × Nat × Nat × Nat)):StateT SortSt Sem (ForInStep (Option (Array Keyed) × Array Keyed × Nat × Nat × Nat × Nat × Nat)) :=
 if c.2.2.2.2.1 > 1 then loC a b c.2.1 c.2.2.1 c.2.2.2.1 (c.2.2.2.2.1 - 1) c.2.2.2.2.2.1 c.2.2.2.2.2.2
 else loC a b c.2.1 c.2.2.1 c.2.2.2.1 c.2.2.2.2.1 c.2.2.2.2.2.1 c.2.2.2.2.2.2
noncomputable def loM (a b:Array Keyed) (mg:Nat) (c:(Option (Array Keyed) × Array Keyed × Nat × Nat × Nat × Nat)):StateT SortSt Sem (ForInStep (Option (Array Keyed) × Array Keyed × Nat × Nat × Nat × Nat)):=do
 let y ← elem' b c.2.2.2.1
 let x ← elem' a c.2.2.1
 let some bw ← lt' y x | pure (.done (some (Zab a b c.2.1 c.2.2.1 c.2.2.2.1),c.2.1,c.2.2.1,c.2.2.2.1,c.2.2.2.2.1,c.2.2.2.2.2))
 if bw then do
  let y ← elem' b c.2.2.2.1
  if c.2.2.2.1 + 1 == b.size then pure (.done (some (Zab a b (c.2.1.push y) c.2.2.1 (c.2.2.2.1 + 1)),c.2.1.push y,c.2.2.1,c.2.2.2.1 + 1,0,c.2.2.2.2.2 + 1))
  else if c.2.2.2.2.2 + 1 ≥ mg then pure (.done (none,c.2.1.push y,c.2.2.1,c.2.2.2.1 + 1,0,c.2.2.2.2.2 + 1))
  else pure (.yield (none,c.2.1.push y,c.2.2.1,c.2.2.2.1 + 1,0,c.2.2.2.2.2 + 1))
 else do
  let x ← elem' a c.2.2.1
  if c.2.2.1 + 1 + 1 == a.size then pure (.done (some (JZ a b (c.2.1.push x) (c.2.2.1 + 1) c.2.2.2.1),c.2.1.push x,c.2.2.1 + 1,c.2.2.2.1,c.2.2.2.2.1 + 1,0))
  else if c.2.2.2.2.1 + 1 ≥ mg then pure (.done (none,c.2.1.push x,c.2.2.1 + 1,c.2.2.2.1,c.2.2.2.2.1 + 1,0))
  else pure (.yield (none,c.2.1.push x,c.2.2.1 + 1,c.2.2.2.1,c.2.2.2.2.1 + 1,0))
noncomputable def loO (a b:Array Keyed) (c:(Option (Array Keyed) × Array Keyed × Nat × Nat × Nat)):StateT SortSt Sem (ForInStep (Option (Array Keyed) × Array Keyed × Nat × Nat × Nat)):=do
 let d ← forIn [0:a.size + b.size] ((none,c.2.1,c.2.2.1,c.2.2.2.1,0,0):(Option (Array Keyed) × Array Keyed × Nat × Nat × Nat × Nat)) fun _=>loM a b c.2.2.2.2
 Break.runK.match_1 (motive:=fun _=>StateT SortSt Sem (ForInStep (Option (Array Keyed) × Array Keyed × Nat × Nat × Nat))) d.1 (fun r=>pure (.done (some r,d.2.1,d.2.2.1,d.2.2.2.1,c.2.2.2.2))) fun _=>do
  rule "list.sort.gallop"
  let e ← forIn [0:a.size + b.size] ((none,d.2.1,d.2.2.1,d.2.2.2.1,c.2.2.2.2 + 1,d.2.2.2.2.1,d.2.2.2.2.2):(Option (Array Keyed) × Array Keyed × Nat × Nat × Nat × Nat × Nat)) fun _=>loB a b
  Break.runK.match_1 (motive:=fun _=>StateT SortSt Sem (ForInStep (Option (Array Keyed) × Array Keyed × Nat × Nat × Nat))) e.1 (fun r=>pure (.done (some r,e.2.1,e.2.2.1,e.2.2.2.1,e.2.2.2.2.1))) fun _=>do
   ZeC (e.2.2.2.2.1 + 1)
   pure (.yield (none,e.2.1,e.2.2.1,e.2.2.2.1,e.2.2.2.2.1 + 1))
theorem Ziq (a b:Array Keyed):ZkM a b=(do
 rule "list.sort.merge-lo"
 let y ← elem' b 0
 if 1 == b.size then pure (Zab a b #[y] 0 1)
 else if 0 + 1 == a.size then pure (JZ a b #[y] 0 1)
 else do
  let z ← get
  let c ← forIn [0:a.size + b.size] ((none,#[y],0,1,gallopOf z):(Option (Array Keyed) × Array Keyed × Nat × Nat × Nat)) fun _=>loO a b
  Break.runK.match_1 (motive:=fun _=>StateT SortSt Sem (Array Keyed)) c.1 (fun r=>pure r) fun _=>unsupported "internal:list.sort.merge-bound"):=rfl
section
variable {prog:Program} {w:World} {A:Around} {E:Value→Shared→Prop} {κ:SortKind} {ϕ:Keyed→Nat} {U:Keyed→Prop} {G:Shared→Prop}
theorem JG {x:Keyed} {l:List Keyed} (h:Up ϕ (x :: l)):∀ v∈x :: l,ϕ x≤ϕ v:=fun v hv=>by
 rcases List.mem_cons.mp hv with e | e
 ·exact Nat.le_of_eq (by rw [e])
 ·exact (List.pairwise_cons.mp h).1 v e
theorem Lo.hx {T o X Y:List Keyed} (h:Lo ϕ T o X Y):Up ϕ X:=(List.pairwise_append.mp h.px).2.1
theorem Lo.hy {T o X Y:List Keyed} (h:Lo ϕ T o X Y):Up ϕ Y:=(List.pairwise_append.mp h.py).2.1
def LoI (ϕ:Keyed→Nat) (a b o:Array Keyed) (i j:Nat):Prop:=Lo ϕ (a.toList ++ b.toList) o.toList (a.toList.drop i) (b.toList.drop j)
def Ok (ϕ:Keyed→Nat) (a b r:Array Keyed):Prop:=Up ϕ r.toList∧r.toList.Perm (a.toList ++ b.toList)
theorem LoI.end1 {a b o:Array Keyed} {i j:Nat} (h:LoI ϕ a b o i j) (e:i=a.size∨j=b.size):Ok ϕ a b (Zab a b o i j):=by
 have t:(Zab a b o i j).toList=o.toList ++ a.toList.drop i ++ b.toList.drop j:=by
  unfold Zab
  rw [Zae,Zae,Zbm,Zbm]
 unfold Ok
 rw [t]
 refine ⟨?_,h.pm⟩
 rcases e with e | e
 ·have:a.toList.drop i=[]:=by rw [e]; simp
  rw [this,List.append_nil]
  exact h.py
 ·have:b.toList.drop j=[]:=by rw [e]; simp
  rw [this,List.append_nil]
  exact h.px
theorem LoI.end2 {a b o:Array Keyed} {i j:Nat} (h:LoI ϕ a b o i j) (e:i + 1=a.size) (hl:∀ x,a[a.size - 1]?=some x→∀ y∈b.toList,ϕ y≤ϕ x):Ok ϕ a b (JZ a b o i j):=by
 have t:(JZ a b o i j).toList=o.toList ++ b.toList.drop j ++ a.toList.drop i:=by
  unfold JZ
  rw [Zae,Zae,Zbm,Zbm]
 unfold Ok
 rw [t]
 obtain ⟨x,hx,hd⟩:=at_ (show i < a.size by omega)
 have hn:a.toList.drop (i + 1)=[]:=by rw [e]; simp
 rw [hn] at hd
 have h':Lo ϕ (a.toList ++ b.toList) o.toList (a.toList.drop i) (b.toList.drop j ++ []):=by rw [List.append_nil]; exact h
 have:=h'.goY fun u hu v hv=>by
  rw [hd,List.mem_singleton] at hv
  subst hv
  exact hl v (by rw [← e]; exact hx) u (List.mem_of_mem_drop hu)
 exact ⟨this.px,by have:=this.pm; rw [List.append_nil] at this; exact this⟩
theorem LoI.push1 {a b o:Array Keyed} {i j:Nat} {x:Keyed} (h:LoI ϕ a b o i j) (e:a.toList.drop i=x :: a.toList.drop (i + 1)) (hx:∀ v∈b.toList.drop j,ϕ x≤ϕ v):LoI ϕ a b (o.push x) (i + 1) j:=by
 unfold LoI at h ⊢
 rw [e] at h
 rw [Zju]
 exact Lo.goX (x:=[x]) h fun u hu v hv=>by rw [List.mem_singleton.mp hu]; exact hx v hv
theorem LoI.push2 {a b o:Array Keyed} {i j:Nat} {x:Keyed} (h:LoI ϕ a b o i j) (e:b.toList.drop j=x :: b.toList.drop (j + 1)) (hx:∀ v∈a.toList.drop i,ϕ x≤ϕ v):LoI ϕ a b (o.push x) i (j + 1):=by
 unfold LoI at h ⊢
 rw [e] at h
 rw [Zju]
 exact Lo.goY (y:=[x]) h fun u hu v hv=>by rw [List.mem_singleton.mp hu]; exact hx v hv
theorem LoI.app1 {a b o:Array Keyed} {i j k:Nat} (h:LoI ϕ a b o i j) (hx:∀ u∈(a.toList.drop i).take k,∀ v∈b.toList.drop j,ϕ u≤ϕ v):LoI ϕ a b (o ++ a.extract i (i + k)) (i + k) j:=by
 unfold LoI at h ⊢
 rw [JC _ i k] at h
 rw [Zae,Zhg]
 exact h.goX hx
theorem LoI.app2 {a b o:Array Keyed} {i j k:Nat} (h:LoI ϕ a b o i j) (hx:∀ u∈(b.toList.drop j).take k,∀ v∈a.toList.drop i,ϕ u≤ϕ v):LoI ϕ a b (o ++ b.extract j (j + k)) i (j + k):=by
 unfold LoI at h ⊢
 rw [JC _ j k] at h
 rw [Zae,Zhg]
 exact h.goY hx
theorem LoI.size {a b o:Array Keyed} {i j:Nat} (h:LoI ϕ a b o i j) (hi:i≤a.size) (hj:j≤b.size):o.size + (a.size - i) + (b.size - j)=a.size + b.size:=by
 have:=h.len
 simp only [List.length_drop,List.length_append,Array.length_toList] at this
 exact this
def LoX (ϕ:Keyed→Nat) (G:Shared→Prop) (a b:Array Keyed) (st:SortSt) (q:Option (Array Keyed)) (st':SortSt) (s':Shared):Prop:=∃ r,q=some r∧Sim st st'∧G s'∧Ok ϕ a b r
def LoY (ϕ:Keyed→Nat) (G:Shared→Prop) (a b:Array Keyed) (st:SortSt) (t:Nat) (c:(Option (Array Keyed) × Array Keyed × Nat × Nat × Nat × Nat × Nat)) (st':SortSt) (s':Shared):Prop :=
 ∃ o i j mg ac bc,c=(none,o,i,j,mg,ac,bc)∧Sim st st'∧G s'∧LoI ϕ a b o i j∧i + 1 < a.size∧j < b.size∧t + 1 + 1≤o.size
def LoV (ϕ:Keyed→Nat) (G:Shared→Prop) (a b:Array Keyed) (st:SortSt) (t:Nat) (q:Nat) (c:(Option (Array Keyed) × Array Keyed × Nat × Nat × Nat × Nat)) (st':SortSt) (s':Shared):Prop :=
 ∃ o i j ac bc,c=(none,o,i,j,ac,bc)∧Sim st st'∧G s'∧LoI ϕ a b o i j∧i + 1 < a.size∧j < b.size∧t + 1 + q≤o.size
def LoW (ϕ:Keyed→Nat) (G:Shared→Prop) (a b:Array Keyed) (st:SortSt) (t:Nat) (c:(Option (Array Keyed) × Array Keyed × Nat × Nat × Nat)) (st':SortSt) (s':Shared):Prop :=
 ∃ o i j mg,c=(none,o,i,j,mg)∧Sim st st'∧G s'∧LoI ϕ a b o i j∧i + 1 < a.size∧j < b.size∧t + 1≤o.size
def LoZ {β:Type} (X Y:β→SortSt→Shared→Prop) (r:ForInStep β) (st':SortSt) (s':Shared):Prop :=
 match r with | .done c=>X c st' s' | .yield c=>Y c st' s'
theorem Zmy {c:Array Keyed} {p k:Nat} (hp:p + k≤c.size):(c.toList.drop (p + k)).take (c.size - p - k)=c.toList.drop (p + k):=List.take_of_length_le (by rw [List.length_drop,Array.length_toList]; omega)
theorem ZjG {a b o:Array Keyed} {i j mg k k1 t:Nat} {x:Keyed} {st st4:SortSt} {s5:Shared} (h1:∀ x,a[a.size - 1]?=some x→∀ y∈b.toList,ϕ y≤ϕ x) (S4:Sim st st4) (g5:G s5) (hx:a[i]?=some x) (hd:a.toList.drop i=x :: a.toList.drop (i + 1))
  (I6:LoI ϕ a b o i j) (l4:∀ u∈b.toList.drop j,ϕ x≤ϕ u) (hi:i + 1 < a.size) (hj:j < b.size) (hz:t + 1 + 1≤o.size) :
  kasC (model prog w) A E (loE a b o i j mg k k1) (LoZ (fun c st' s'=>LoX ϕ G a b st c.1 st' s'∨LoY ϕ G a b st t c st' s') (LoY ϕ G a b st t)) st4 s5:=by
 refine kasC_bind (ZF hx ?_)
 have I7:=I6.push1 hd l4
 have hz7:t + 1 + 1≤(o.push x).size:=by rw [Array.size_push]; omega
 by_cases e5:i + 1 + 1=a.size
 ·rw [if_pos (by simpa using e5)]
  exact kasC_pure (.inl ⟨_,rfl,S4,g5,I7.end2 e5 h1⟩)
 rw [if_neg (by simpa using e5)]
 have hi7:i + 1 + 1 < a.size:=by omega
 split
 ·exact kasC_pure (.inr ⟨_,_,_,_,_,_,rfl,S4,g5,I7,hi7,hj,hz7⟩)
 ·exact kasC_pure ⟨_,_,_,_,_,_,rfl,S4,g5,I7,hi7,hj,hz7⟩
theorem ZjH (R:JE prog w A κ ϕ U G) {a b o:Array Keyed} {i j mg k bc t:Nat} {y:Keyed} {st st4:SortSt} {s4:Shared} (hk:kindOf st=κ) (ha:Al U a) (hb:Al U b) (ub:Up ϕ b.toList) (h1:∀ x,a[a.size - 1]?=some x→∀ y∈b.toList,ϕ y≤ϕ x) (S4:Sim st st4) (g4:G s4)
  (hy:b[j]?=some y) (hd:b.toList.drop j=y :: b.toList.drop (j + 1)) (I4:LoI ϕ a b o i j) (l2:∀ u∈a.toList.drop i,ϕ y≤ϕ u) (hi:i + 1 < a.size) (hj:j < b.size) (hz:t + 1 + 1≤o.size) :
  kasC (model prog w) A E (loD a b o i j mg k bc) (LoZ (fun c st' s'=>LoX ϕ G a b st c.1 st' s'∨LoY ϕ G a b st t c st' s') (LoY ϕ G a b st t)) st4 s4:=by
 refine kasC_bind (ZF hy ?_)
 have I5:=I4.push2 hd l2
 by_cases e3:j + 1=b.size
 ·rw [if_pos (by simpa using e3)]
  exact kasC_pure (.inl ⟨_,rfl,S4,g4,I5.end1 (.inr e3)⟩)
 rw [if_neg (by simpa using e3)]
 obtain ⟨x1,hx1,hdx1⟩:=at_ (show i < a.size by omega)
 have mx:=JG (ϕ:=ϕ) (hdx1 ▸ I5.hx)
 rw [← hdx1] at mx
 have hz5:t + 1 + 1≤(o.push y).size:=by rw [Array.size_push]; omega
 have hj5:j + 1 < b.size:=by omega
 clear e3 I4 l2 hd hz hj
 refine kasC_bind (ZF hx1 (kasC_bind (Zay R (S4.1.trans hk) (ha _ _ hx1) hb (by omega) (by omega) ((UpTo.of ub).sub (by omega) (by omega)) g4 fun k' s5 hk2 l3 l4 g5=>?_)))
 rw [Zmy (by omega)] at l4
 dsimp only
 have I6:=I5.app2 (k:=k') fun u hu v hv=>Nat.le_trans (l3 u hu) (mx v hv)
 have hz6:t + 1 + 1≤(o.push y ++ b.extract (j + 1) (j + 1 + k')).size:=by rw [Array.size_append]; omega
 by_cases ck:k' > 0
 ·rw [if_pos ck]
  by_cases e4:j + 1 + k'=b.size
  ·rw [if_pos (by simpa using e4)]
   exact kasC_pure (.inl ⟨_,rfl,S4,g5,I6.end1 (.inr e4)⟩)
  rw [if_neg (by simpa using e4)]
  exact ZjG h1 S4 g5 hx1 hdx1 I6 l4 hi (by omega) hz6
 ·rw [if_neg ck]
  have k0:k'=0:=by omega
  subst k0
  rw [Nat.add_zero] at l4
  exact ZjG h1 S4 g5 hx1 hdx1 I5 l4 hi hj5 hz5
theorem ZjI (R:JE prog w A κ ϕ U G) {a b o:Array Keyed} {i j mg ac bc t:Nat} {st st3:SortSt} {s3:Shared} (hk:kindOf st=κ) (ha:Al U a) (hb:Al U b) (ua:Up ϕ a.toList) (ub:Up ϕ b.toList) (h1:∀ x,a[a.size - 1]?=some x→∀ y∈b.toList,ϕ y≤ϕ x) (S3:Sim st st3) (g3:G s3)
  (I3:LoI ϕ a b o i j) (hi:i + 1 < a.size) (hj:j < b.size) (hz:t + 1 + 1≤o.size) :
  kasC (model prog w) A E (loC a b o i j mg ac bc) (LoZ (fun c st' s'=>LoX ϕ G a b st c.1 st' s'∨LoY ϕ G a b st t c st' s') (LoY ϕ G a b st t)) st3 s3:=by
 refine kasC_bind (Zbf fun st4 S4=>?_)
 replace S4:=S3.trans S4
 obtain ⟨y,hy,hdy⟩:=at_ hj
 have my:=JG (ϕ:=ϕ) (hdy ▸ I3.hy)
 rw [← hdy] at my
 refine kasC_bind (ZF hy (kasC_bind (Zay R (S4.1.trans hk) (hb _ _ hy) ha (by omega) (by omega) ((UpTo.of ua).sub (by omega) (by omega)) g3 fun k s4 hk1 l1 l2 g4=>?_)))
 rw [Zmy (by omega)] at l2
 dsimp only
 have I4:=I3.app1 (k:=k) fun u hu v hv=>Nat.le_trans (l1 u hu) (my v hv)
 have hz4:t + 1 + 1≤(o ++ a.extract i (i + k)).size:=by rw [Array.size_append]; omega
 by_cases ck:k > 0
 ·rw [if_pos ck]
  by_cases e1:i + k + 1=a.size
  ·rw [if_pos (by simpa using e1)]
   exact kasC_pure (.inl ⟨_,rfl,S4,g4,I4.end2 e1 h1⟩)
  rw [if_neg (by simpa using e1)]
  by_cases e2:i + k=a.size
  ·rw [if_pos (by simpa using e2)]
   exact kasC_pure (.inl ⟨_,rfl,S4,g4,I4.end1 (.inl e2)⟩)
  rw [if_neg (by simpa using e2)]
  exact ZjH R hk ha hb ub h1 S4 g4 hy hdy I4 l2 (by omega) hj hz4
 ·rw [if_neg ck]
  have k0:k=0:=by omega
  subst k0
  rw [Nat.add_zero] at l2
  exact ZjH R hk ha hb ub h1 S4 g4 hy hdy I3 l2 hi hj hz
theorem Zml (R:JE prog w A κ ϕ U G) {a b:Array Keyed} {mg t q:Nat} {c:(Option (Array Keyed) × Array Keyed × Nat × Nat × Nat × Nat)} {st st2:SortSt} {s2:Shared} (hk:kindOf st=κ) (ha:Al U a) (hb:Al U b) (h1:∀ x,a[a.size - 1]?=some x→∀ y∈b.toList,ϕ y≤ϕ x)
  (h:LoV ϕ G a b st t q c st2 s2):kasC (model prog w) A E (loM a b mg c) (LoZ (fun c st' s'=>LoX ϕ G a b st c.1 st' s'∨LoV ϕ G a b st t 1 c st' s') (LoV ϕ G a b st t (q + 1))) st2 s2:=by
 obtain ⟨o,i,j,ac,bc,rfl,S2,g2,I2,hi2,hj2,hs2⟩:=h
 unfold loM
 dsimp only
 obtain ⟨x,hx,hdx⟩:=at_ (show i < a.size by omega)
 obtain ⟨y,hy,hdy⟩:=at_ hj2
 refine kasC_bind (ZF hy (kasC_bind (ZF hx (kasC_bind (ZgS R (S2.1.trans hk) (hb _ _ hy) (ha _ _ hx) g2 fun s3 g3=>?_)))))
 dsimp only
 have mx:=JG (ϕ:=ϕ) (hdx ▸ I2.hx)
 have my:=JG (ϕ:=ϕ) (hdy ▸ I2.hy)
 rw [← hdx] at mx
 rw [← hdy] at my
 by_cases cc:ϕ y < ϕ x
 ·rw [if_pos (by simpa using cc)]
  refine kasC_bind (ZF hy ?_)
  have I3:=I2.push2 hdy fun v hv=>Nat.le_trans (Nat.le_of_lt cc) (mx v hv)
  by_cases e1:j + 1=b.size
  ·rw [if_pos (by simpa using e1)]
   exact kasC_pure (.inl ⟨_,rfl,S2,g3,I3.end1 (.inr e1)⟩)
  rw [if_neg (by simpa using e1)]
  have z:t + 1 + (q + 1)≤(o.push y).size:=by rw [Array.size_push]; omega
  by_cases e2:bc + 1 ≥ mg
  ·rw [if_pos e2]
   exact kasC_pure (.inr ⟨_,_,_,_,_,rfl,S2,g3,I3,hi2,by omega,by omega⟩)
  ·rw [if_neg e2]
   exact kasC_pure ⟨_,_,_,_,_,rfl,S2,g3,I3,hi2,by omega,z⟩
 ·rw [if_neg (by simpa using cc)]
  refine kasC_bind (ZF hx ?_)
  have I3:=I2.push1 hdx fun v hv=>Nat.le_trans (by omega) (my v hv)
  by_cases e1:i + 1 + 1=a.size
  ·rw [if_pos (by simpa using e1)]
   exact kasC_pure (.inl ⟨_,rfl,S2,g3,I3.end2 e1 h1⟩)
  rw [if_neg (by simpa using e1)]
  have z:t + 1 + (q + 1)≤(o.push x).size:=by rw [Array.size_push]; omega
  by_cases e2:ac + 1 ≥ mg
  ·rw [if_pos e2]
   exact kasC_pure (.inr ⟨_,_,_,_,_,rfl,S2,g3,I3,by omega,hj2,by omega⟩)
  ·rw [if_neg e2]
   exact kasC_pure ⟨_,_,_,_,_,rfl,S2,g3,I3,by omega,hj2,z⟩
theorem Zmm (R:JE prog w A κ ϕ U G) {a b:Array Keyed} {t:Nat} {c:(Option (Array Keyed) × Array Keyed × Nat × Nat × Nat × Nat × Nat)} {st st3:SortSt} {s3:Shared} (hk:kindOf st=κ) (ha:Al U a) (hb:Al U b) (ua:Up ϕ a.toList) (ub:Up ϕ b.toList) (h1:∀ x,a[a.size - 1]?=some x→∀ y∈b.toList,ϕ y≤ϕ x)
  (h:LoY ϕ G a b st t c st3 s3):kasC (model prog w) A E (loB a b c) (LoZ (fun c st' s'=>LoX ϕ G a b st c.1 st' s'∨LoY ϕ G a b st t c st' s') (LoY ϕ G a b st t)) st3 s3:=by
 obtain ⟨o,i,j,mg,ac,bc,rfl,S3,g3,I3,hi3,hj3,hs3⟩:=h
 unfold loB
 split
 ·exact ZjI R hk ha hb ua ub h1 S3 g3 I3 hi3 hj3 hs3
 ·exact ZjI R hk ha hb ua ub h1 S3 g3 I3 hi3 hj3 hs3
theorem Zmk (R:JE prog w A κ ϕ U G) {a b:Array Keyed} {t:Nat} {c:(Option (Array Keyed) × Array Keyed × Nat × Nat × Nat)} {st st':SortSt} {s':Shared} (hk:kindOf st=κ) (ha:Al U a) (hb:Al U b) (ua:Up ϕ a.toList) (ub:Up ϕ b.toList) (h1:∀ x,a[a.size - 1]?=some x→∀ y∈b.toList,ϕ y≤ϕ x) (pa:0 < a.size + b.size)
  (h:LoW ϕ G a b st t c st' s'):kasC (model prog w) A E (loO a b c) (LoZ (fun c st' s'=>LoX ϕ G a b st c.1 st' s') (LoW ϕ G a b st (t + 1))) st' s':=by
 obtain ⟨o,i,j,mg,rfl,S,g',I,hi,hj,hs⟩:=h
 refine kasC_bind (ZU (Q:=fun c st' s'=>LoX ϕ G a b st c.1 st' s'∨LoV ϕ G a b st t 1 c st' s')
  (Z7 (LoV ϕ G a b st t) ⟨o,i,j,0,0,rfl,S,g',I,hi,hj,hs⟩ (fun q c st2 s2 hq V=>Zml R hk ha hb h1 V) ?_) ?_)
 ·rintro c st2 s2 ⟨o,i,j,ac,bc,rfl,S2,g2,I2,hi2,hj2,hs2⟩
  exact .inr ⟨o,i,j,ac,bc,rfl,S2,g2,I2,hi2,hj2,by omega⟩
 ·rintro c st2 s2 (⟨r,e,S2,g2,O⟩ | ⟨o,i,j,ac,bc,rfl,S2,g2,I2,hi2,hj2,hs2⟩)
  ·rw [e]
   exact kasC_pure ⟨r,rfl,S2,g2,O⟩
  dsimp only
  refine kasC_bind (X5 ?_)
  refine kasC_bind (ZU (Q:=fun c st' s'=>LoX ϕ G a b st c.1 st' s'∨LoY ϕ G a b st t c st' s')
   (Z7 (fun _=>LoY ϕ G a b st t) ⟨o,i,j,_,ac,bc,rfl,S2,g2,I2,hi2,hj2,hs2⟩ (fun q c st3 s3 hq Y=>Zmm R hk ha hb ua ub h1 Y) fun c st3 s3 Y=>.inr Y) ?_)
  rintro c st3 s3 (⟨r,e,S3,g3,O⟩ | ⟨o,i,j,mg,ac,bc,rfl,S3,g3,I3,hi3,hj3,hs3⟩)
  ·rw [e]
   exact kasC_pure ⟨r,rfl,S3,g3,O⟩
  dsimp only
  refine kasC_bind (Zbf fun st4 S4=>?_)
  exact kasC_pure ⟨o,i,j,_,rfl,S3.trans S4,g3,I3,hi3,hj3,hs3⟩
theorem Znc (R:JE prog w A κ ϕ U G) {a b:Array Keyed} {Q:Array Keyed→SortSt→Shared→Prop} {st:SortSt} {s:Shared} (hk:kindOf st=κ) (ha:Al U a) (hb:Al U b) (ua:Up ϕ a.toList) (ub:Up ϕ b.toList) (pa:0 < a.size) (pb:0 < b.size)
  (h0:∀ y,b[0]?=some y→∀ x∈a.toList,ϕ y≤ϕ x) (h1:∀ x,a[a.size - 1]?=some x→∀ y∈b.toList,ϕ y≤ϕ x) (g:G s)
  (h:∀ r st' s',Sim st st'→G s'→Ok ϕ a b r→Q r st' s'):kasC (model prog w) A E (ZkM a b) Q st s:=by
 rw [Ziq]
 refine kasC_bind (X5 ?_)
 obtain ⟨y0,hy0,hd0⟩:=at_ pb
 refine kasC_bind (ZF hy0 ?_)
 have I0:LoI ϕ a b #[y0] 0 1:=by
  have:LoI ϕ a b #[] 0 0:=⟨by simpa using ua,by simpa using ub,by simp⟩
  exact this.push2 hd0 fun v hv=>h0 y0 hy0 v (List.mem_of_mem_drop hv)
 by_cases c1:1=b.size
 ·rw [if_pos (by simpa using c1)]
  exact kasC_pure (h _ _ _ (Sim.refl _) g (I0.end1 (.inr c1)))
 rw [if_neg (by simpa using c1)]
 by_cases c2:0 + 1=a.size
 ·rw [if_pos (by simpa using c2)]
  exact kasC_pure (h _ _ _ (Sim.refl _) g (I0.end2 c2 h1))
 rw [if_neg (by simpa using c2)]
 refine kasC_bind (kasC_get ?_)
 refine kasC_bind (ZU (Q:=fun c st' s'=>LoX ϕ G a b st c.1 st' s') (Z7 (LoW ϕ G a b st)
  ⟨_,_,_,_,rfl,Sim.refl _,g,I0,by omega,by omega,Nat.le_refl 1⟩ (fun t c st' s' ht W=>Zmk R hk ha hb ua ub h1 (by omega) W) ?_) ?_)
 ·rintro c st' s' ⟨o,i,j,mg,rfl,S,g',I,hi,hj,hs⟩
  have:=I.size (by omega) (by omega)
  omega
 ·rintro c st' s' ⟨r,e,S,g',O⟩
  rw [e]
  exact kasC_pure (h r st' s' S g' O)
end
end Tim
namespace Tim
open PySem PySem.W PyProof.Rows
noncomputable def ZkN:Array Keyed→Array Keyed→StateT SortSt Sem (Array Keyed):=sortPriv% PySem.Builtin.mergeHi
noncomputable def Zac (a b o:Array Keyed) (i j:Nat):Array Keyed:=a.extract 0 i ++ b.extract 0 j ++ o.reverse
noncomputable def Zdg (a b o:Array Keyed) (i j:Nat):Array Keyed:=b.extract 0 j ++ a.extract 0 i ++ o.reverse
noncomputable def hiE (a b o:Array Keyed) (i j mg k k1:Nat):StateT SortSt Sem (ForInStep (Option (Array Keyed) × Nat × Nat × Array Keyed × Nat × Nat × Nat)):=do
 let x ← elem' a (i - 1)
 if i - 1 == 0 then pure (.done (some (Zac a b (o.push x) (i - 1) j),i - 1,j,o.push x,mg,k,k1))
 else if k < 7 && k1 < 7 then pure (.done (none,i - 1,j,o.push x,mg,k,k1))
 else pure (.yield (none,i - 1,j,o.push x,mg,k,k1))
noncomputable def hiD (a b o:Array Keyed) (i j mg k bc:Nat):StateT SortSt Sem (ForInStep (Option (Array Keyed) × Nat × Nat × Array Keyed × Nat × Nat × Nat)):=do
 let y ← elem' b (j - 1)
 if j - 1 == 1 then pure (.done (some (Zdg a b (o.push y) i (j - 1)),i,j - 1,o.push y,mg,k,bc))
 else do
  let x ← elem' a (i - 1)
  let some z ← Zbk true x b 0 (j - 1) (j - 1 - 1) | pure (.done (some (Zac a b (o.push y) i (j - 1)),i,j - 1,o.push y,mg,k,bc))
  if j - 1 - z > 0 then
   if z == 1 then pure (.done (some (Zdg a b (o.push y ++ (b.extract z (j - 1)).reverse) i z),i,z,o.push y ++ (b.extract z (j - 1)).reverse,mg,k,j - 1 - z))
   else if z == 0 then pure (.done (some (Zac a b (o.push y ++ (b.extract z (j - 1)).reverse) i z),i,z,o.push y ++ (b.extract z (j - 1)).reverse,mg,k,j - 1 - z))
   else hiE a b (o.push y ++ (b.extract z (j - 1)).reverse) i z mg k (j - 1 - z)
  else hiE a b (o.push y) i (j - 1) mg k (j - 1 - z)
noncomputable def hiC (a b o:Array Keyed) (i j mg ac bc:Nat):StateT SortSt Sem (ForInStep (Option (Array Keyed) × Nat × Nat × Array Keyed × Nat × Nat × Nat)):=do
 ZeC mg
 let y ← elem' b (j - 1)
 let some z ← Zbk false y a 0 i (i - 1) | pure (.done (some (Zac a b o i j),i,j,o,mg,ac,bc))
 if i - z > 0 then
  if z == 0 then pure (.done (some (Zac a b (o ++ (a.extract z i).reverse) z j),z,j,o ++ (a.extract z i).reverse,mg,i - z,bc))
  else hiD a b (o ++ (a.extract z i).reverse) z j mg (i - z) bc
 else hiD a b o i j mg (i - z) bc
noncomputable def hiB (a b:Array Keyed) (c:(Option (Array Keyed) × Nat × Nat × Array Keyed × Nat × Nat × Nat)):StateT SortSt Sem (ForInStep (Option (Array Keyed) × Nat × Nat × Array Keyed × Nat × Nat × Nat)) :=
 if c.2.2.2.2.1 > 1 then hiC a b c.2.2.2.1 c.2.1 c.2.2.1 (c.2.2.2.2.1 - 1) c.2.2.2.2.2.1 c.2.2.2.2.2.2
 else hiC a b c.2.2.2.1 c.2.1 c.2.2.1 c.2.2.2.2.1 c.2.2.2.2.2.1 c.2.2.2.2.2.2
noncomputable def hiM (a b:Array Keyed) (mg:Nat) (c:(Option (Array Keyed) × Nat × Nat × Array Keyed × Nat × Nat)):StateT SortSt Sem (ForInStep (Option (Array Keyed) × Nat × Nat × Array Keyed × Nat × Nat)):=do
 let y ← elem' b (c.2.2.1 - 1)
 let x ← elem' a (c.2.1 - 1)
 let some aw ← lt' y x | pure (.done (some (Zac a b c.2.2.2.1 c.2.1 c.2.2.1),c.2.1,c.2.2.1,c.2.2.2.1,c.2.2.2.2.1,c.2.2.2.2.2))
 if aw then do
  let x ← elem' a (c.2.1 - 1)
  if c.2.1 - 1 == 0 then pure (.done (some (Zac a b (c.2.2.2.1.push x) (c.2.1 - 1) c.2.2.1),c.2.1 - 1,c.2.2.1,c.2.2.2.1.push x,c.2.2.2.2.1 + 1,0))
  else if c.2.2.2.2.1 + 1 ≥ mg then pure (.done (none,c.2.1 - 1,c.2.2.1,c.2.2.2.1.push x,c.2.2.2.2.1 + 1,0))
  else pure (.yield (none,c.2.1 - 1,c.2.2.1,c.2.2.2.1.push x,c.2.2.2.2.1 + 1,0))
 else do
  let y ← elem' b (c.2.2.1 - 1)
  if c.2.2.1 - 1 == 1 then pure (.done (some (Zdg a b (c.2.2.2.1.push y) c.2.1 (c.2.2.1 - 1)),c.2.1,c.2.2.1 - 1,c.2.2.2.1.push y,0,c.2.2.2.2.2 + 1))
  else if c.2.2.2.2.2 + 1 ≥ mg then pure (.done (none,c.2.1,c.2.2.1 - 1,c.2.2.2.1.push y,0,c.2.2.2.2.2 + 1))
  else pure (.yield (none,c.2.1,c.2.2.1 - 1,c.2.2.2.1.push y,0,c.2.2.2.2.2 + 1))
noncomputable def hiO (a b:Array Keyed) (c:(Option (Array Keyed) × Nat × Nat × Array Keyed × Nat)):StateT SortSt Sem (ForInStep (Option (Array Keyed) × Nat × Nat × Array Keyed × Nat)):=do
 let d ← forIn [0:a.size + b.size] ((none,c.2.1,c.2.2.1,c.2.2.2.1,0,0):(Option (Array Keyed) × Nat × Nat × Array Keyed × Nat × Nat)) fun _=>hiM a b c.2.2.2.2
 Break.runK.match_1 (motive:=fun _=>StateT SortSt Sem (ForInStep (Option (Array Keyed) × Nat × Nat × Array Keyed × Nat))) d.1 (fun r=>pure (.done (some r,d.2.1,d.2.2.1,d.2.2.2.1,c.2.2.2.2))) fun _=>do
  rule "list.sort.gallop"
  let e ← forIn [0:a.size + b.size] ((none,d.2.1,d.2.2.1,d.2.2.2.1,c.2.2.2.2 + 1,d.2.2.2.2.1,d.2.2.2.2.2):(Option (Array Keyed) × Nat × Nat × Array Keyed × Nat × Nat × Nat)) fun _=>hiB a b
  Break.runK.match_1 (motive:=fun _=>StateT SortSt Sem (ForInStep (Option (Array Keyed) × Nat × Nat × Array Keyed × Nat))) e.1 (fun r=>pure (.done (some r,e.2.1,e.2.2.1,e.2.2.2.1,e.2.2.2.2.1))) fun _=>do
   ZeC (e.2.2.2.2.1 + 1)
   pure (.yield (none,e.2.1,e.2.2.1,e.2.2.2.1,e.2.2.2.2.1 + 1))
theorem Zir (a b:Array Keyed):ZkN a b=(do
 rule "list.sort.merge-hi"
 let x ← elem' a (a.size - 1)
 if a.size - 1 == 0 then pure (Zac a b #[x] (a.size - 1) b.size)
 else if b.size == 1 then pure (Zdg a b #[x] (a.size - 1) b.size)
 else do
  let z ← get
  let c ← forIn [0:a.size + b.size] ((none,a.size - 1,b.size,#[x],gallopOf z):(Option (Array Keyed) × Nat × Nat × Array Keyed × Nat)) fun _=>hiO a b
  Break.runK.match_1 (motive:=fun _=>StateT SortSt Sem (Array Keyed)) c.1 (fun r=>pure r) fun _=>unsupported "internal:list.sort.merge-bound"):=rfl
structure Hi (ϕ:Keyed→Nat) (T O X Y:List Keyed):Prop where
 px:Up ϕ (X ++ O)
 py:Up ϕ (Y ++ O)
 pm:(X ++ Y ++ O).Perm T
section
variable {ϕ:Keyed→Nat} {T O X Y x y:List Keyed}
theorem Hi.swap (h:Hi ϕ T O X Y):Hi ϕ T O Y X:=⟨h.py,h.px,(List.perm_append_comm.append_right O).trans h.pm⟩
theorem Hi.goX (h:Hi ϕ T O (X ++ x) Y) (hx:∀ u∈x,∀ v∈Y,ϕ v≤ϕ u):Hi ϕ T (x ++ O) X Y:=by
 obtain ⟨h1,h2,h3⟩:=h
 refine ⟨by rw [← List.append_assoc]; exact h1,?_,?_⟩
 ·unfold Up at *
  rw [List.append_assoc,List.pairwise_append] at h1
  rw [List.pairwise_append] at h2 ⊢
  refine ⟨h2.1,h1.2.1,fun a ha b hb=>?_⟩
  rcases List.mem_append.mp hb with z | z
  ·exact hx b z a ha
  ·exact h2.2.2 a ha b z
 ·refine List.Perm.trans ?_ h3
  rw [List.append_assoc,List.append_assoc X x Y,List.append_assoc X]
  refine List.Perm.append_left X ?_
  rw [← List.append_assoc]
  exact List.perm_append_comm.append_right O
theorem Hi.goY (h:Hi ϕ T O X (Y ++ y)) (hy:∀ u∈y,∀ v∈X,ϕ v≤ϕ u):Hi ϕ T (y ++ O) X Y:=(h.swap.goX hy).swap
theorem Hi.len (h:Hi ϕ T O X Y):O.length + X.length + Y.length=T.length:=by
 have:=h.pm.length_eq
 simp only [List.length_append] at this
 omega
theorem Hi.hx (h:Hi ϕ T O X Y):Up ϕ X:=(List.pairwise_append.mp h.px).1
theorem Hi.hy (h:Hi ϕ T O X Y):Up ϕ Y:=(List.pairwise_append.mp h.py).1
theorem JF {x:Keyed} {l:List Keyed} (h:Up ϕ (l ++ [x])):∀ v∈l ++ [x],ϕ v≤ϕ x:=fun v hv=>by
 rcases List.mem_append.mp hv with e | e
 ·exact (List.pairwise_append.mp h).2.2 v e x (List.mem_singleton.mpr rfl)
 ·exact Nat.le_of_eq (by rw [List.mem_singleton.mp e])
def HiI (ϕ:Keyed→Nat) (a b o:Array Keyed) (i j:Nat):Prop:=Hi ϕ (a.toList ++ b.toList) o.toList.reverse (a.toList.take i) (b.toList.take j)
theorem atL {a:Array Keyed} {i:Nat} (h:i < a.size):∃ x,a[i]?=some x∧a.toList.take (i + 1)=a.toList.take i ++ [x] :=
 ⟨a[i],Array.getElem?_eq_getElem h,by rw [List.take_succ_eq_append_getElem (by simpa using h)]; simp⟩
theorem HiI.end1 {a b o:Array Keyed} {i j:Nat} (h:HiI ϕ a b o i j) (e:i=0∨j=0):Ok ϕ a b (Zac a b o i j):=by
 have t:(Zac a b o i j).toList=a.toList.take i ++ b.toList.take j ++ o.toList.reverse:=by
  unfold Zac
  rw [Zae,Zae,ZiT,ZiT,Array.toList_reverse]
 unfold Ok
 rw [t]
 refine ⟨?_,h.pm⟩
 rcases e with e | e
 ·subst e
  rw [List.take_zero,List.nil_append]
  exact h.py
 ·subst e
  rw [List.take_zero,List.append_nil]
  exact h.px
theorem HiI.end2 {a b o:Array Keyed} {i j:Nat} (h:HiI ϕ a b o i j) (e:j=1) (pb:0 < b.size) (hl:∀ y,b[0]?=some y→∀ x∈a.toList,ϕ y≤ϕ x):Ok ϕ a b (Zdg a b o i j):=by
 have t:(Zdg a b o i j).toList=b.toList.take j ++ a.toList.take i ++ o.toList.reverse:=by
  unfold Zdg
  rw [Zae,Zae,ZiT,ZiT,Array.toList_reverse]
 unfold Ok
 rw [t]
 subst e
 obtain ⟨y,hy,hd⟩:=atL pb
 have h':Hi ϕ (a.toList ++ b.toList) o.toList.reverse ([] ++ a.toList.take i) (b.toList.take 1):=h
 have:=h'.goX fun u hu v hv=>by
  rw [hd,List.take_zero,List.nil_append,List.mem_singleton] at hv
  subst hv
  exact hl v hy u (List.mem_of_mem_take hu)
 refine ⟨by rw [List.append_assoc]; exact this.py,?_⟩
 have:=this.pm
 rw [List.nil_append] at this
 rw [List.append_assoc]
 exact this
theorem Zjt (o:Array Keyed) (x:Keyed):(o.push x).toList.reverse=[x] ++ o.toList.reverse:=by simp
theorem HiI.push1 {a b o:Array Keyed} {i j:Nat} {x:Keyed} (h:HiI ϕ a b o (i + 1) j) (e:a.toList.take (i + 1)=a.toList.take i ++ [x]) (hx:∀ v∈b.toList.take j,ϕ v≤ϕ x):HiI ϕ a b (o.push x) i j:=by
 unfold HiI at h ⊢
 rw [e] at h
 rw [Zjt]
 exact h.goX fun u hu v hv=>by rw [List.mem_singleton.mp hu]; exact hx v hv
theorem HiI.push2 {a b o:Array Keyed} {i j:Nat} {x:Keyed} (h:HiI ϕ a b o i (j + 1)) (e:b.toList.take (j + 1)=b.toList.take j ++ [x]) (hx:∀ v∈a.toList.take i,ϕ v≤ϕ x):HiI ϕ a b (o.push x) i j:=by
 unfold HiI at h ⊢
 rw [e] at h
 rw [Zjt]
 exact h.goY fun u hu v hv=>by rw [List.mem_singleton.mp hu]; exact hx v hv
theorem ZdB (l:List Keyed) {z i:Nat} (h:z≤i):l.take i=l.take z ++ (l.drop z).take (i - z):=by
 rw [show i=z + (i - z) by omega,List.take_add]
 congr 2
 omega
theorem ZmM (o a:Array Keyed) {z i:Nat} (h:z≤i):(o ++ (a.extract z i).reverse).toList.reverse=(a.toList.drop z).take (i - z) ++ o.toList.reverse:=by
 have:=Zhg a z (i - z)
 rw [show z + (i - z)=i by omega] at this
 rw [Zae,List.reverse_append,Array.toList_reverse,List.reverse_reverse,this]
theorem HiI.app1 {a b o:Array Keyed} {i j z:Nat} (h:HiI ϕ a b o i j) (hz:z≤i) (hx:∀ u∈(a.toList.drop z).take (i - z),∀ v∈b.toList.take j,ϕ v≤ϕ u):HiI ϕ a b (o ++ (a.extract z i).reverse) z j:=by
 unfold HiI at h ⊢
 rw [ZdB _ hz] at h
 rw [ZmM _ _ hz]
 exact h.goX hx
theorem HiI.app2 {a b o:Array Keyed} {i j z:Nat} (h:HiI ϕ a b o i j) (hz:z≤j) (hx:∀ u∈(b.toList.drop z).take (j - z),∀ v∈a.toList.take i,ϕ v≤ϕ u):HiI ϕ a b (o ++ (b.extract z j).reverse) i z:=by
 unfold HiI at h ⊢
 rw [ZdB _ hz] at h
 rw [ZmM _ _ hz]
 exact h.goY hx
theorem HiI.size {a b o:Array Keyed} {i j:Nat} (h:HiI ϕ a b o i j) (hi:i≤a.size) (hj:j≤b.size):o.size + i + j=a.size + b.size:=by
 have:=h.len
 simp only [List.length_take,List.length_append,Array.length_toList,List.length_reverse] at this
 omega
end
section
variable {prog:Program} {w:World} {A:Around} {E:Value→Shared→Prop} {κ:SortKind} {ϕ:Keyed→Nat} {U:Keyed→Prop} {G:Shared→Prop}
def HiY (ϕ:Keyed→Nat) (G:Shared→Prop) (a b:Array Keyed) (st:SortSt) (t:Nat) (c:(Option (Array Keyed) × Nat × Nat × Array Keyed × Nat × Nat × Nat)) (st':SortSt) (s':Shared):Prop :=
 ∃ i j o mg ac bc,c=(none,i,j,o,mg,ac,bc)∧Sim st st'∧G s'∧HiI ϕ a b o i j∧1≤i∧i≤a.size∧2≤j∧j≤b.size∧t + 1 + 1≤o.size
def HiV (ϕ:Keyed→Nat) (G:Shared→Prop) (a b:Array Keyed) (st:SortSt) (t:Nat) (q:Nat) (c:(Option (Array Keyed) × Nat × Nat × Array Keyed × Nat × Nat)) (st':SortSt) (s':Shared):Prop :=
 ∃ i j o ac bc,c=(none,i,j,o,ac,bc)∧Sim st st'∧G s'∧HiI ϕ a b o i j∧1≤i∧i≤a.size∧2≤j∧j≤b.size∧t + 1 + q≤o.size
def HiW (ϕ:Keyed→Nat) (G:Shared→Prop) (a b:Array Keyed) (st:SortSt) (t:Nat) (c:(Option (Array Keyed) × Nat × Nat × Array Keyed × Nat)) (st':SortSt) (s':Shared):Prop :=
 ∃ i j o mg,c=(none,i,j,o,mg)∧Sim st st'∧G s'∧HiI ϕ a b o i j∧1≤i∧i≤a.size∧2≤j∧j≤b.size∧t + 1≤o.size
theorem ZjJ {a b o:Array Keyed} {i j mg k k1 t:Nat} {x:Keyed} {st st4:SortSt} {s5:Shared} (S4:Sim st st4) (g5:G s5) (hx:a[i]?=some x) (hd:a.toList.take (i + 1)=a.toList.take i ++ [x])
  (I6:HiI ϕ a b o (i + 1) j) (l3:∀ u∈b.toList.take j,ϕ u≤ϕ x) (hi:i + 1≤a.size) (hj:2≤j) (hj':j≤b.size) (hz:t + 1 + 1≤o.size) :
  kasC (model prog w) A E (hiE a b o (i + 1) j mg k k1) (LoZ (fun c st' s'=>LoX ϕ G a b st c.1 st' s'∨HiY ϕ G a b st t c st' s') (HiY ϕ G a b st t)) st4 s5:=by
 unfold hiE
 dsimp only [Nat.add_one_sub_one]
 refine kasC_bind (ZF hx ?_)
 have I7:=I6.push1 hd l3
 have hz7:t + 1 + 1≤(o.push x).size:=by rw [Array.size_push]; omega
 by_cases e6:i=0
 ·rw [if_pos (by simpa using e6)]
  exact kasC_pure (.inl ⟨_,rfl,S4,g5,I7.end1 (.inl e6)⟩)
 rw [if_neg (by simpa using e6)]
 have hi1:1≤i:=by omega
 have hi2:i≤a.size:=by omega
 split
 ·exact kasC_pure (.inr ⟨_,_,_,_,_,_,rfl,S4,g5,I7,hi1,hi2,hj,hj',hz7⟩)
 ·exact kasC_pure ⟨_,_,_,_,_,_,rfl,S4,g5,I7,hi1,hi2,hj,hj',hz7⟩
theorem ZjK (R:JE prog w A κ ϕ U G) {a b o:Array Keyed} {i j mg k bc t:Nat} {y:Keyed} {st st4:SortSt} {s4:Shared} (hk:kindOf st=κ) (ha:Al U a) (hb:Al U b) (ub:Up ϕ b.toList) (pb:0 < b.size) (h0:∀ y,b[0]?=some y→∀ x∈a.toList,ϕ y≤ϕ x) (S4:Sim st st4) (g4:G s4)
  (hy:b[j]?=some y) (hd:b.toList.take (j + 1)=b.toList.take j ++ [y]) (I4:HiI ϕ a b o i (j + 1)) (l1:∀ u∈a.toList.take i,ϕ u≤ϕ y) (hi:1≤i) (hi':i≤a.size) (hj:1≤j) (hj':j + 1≤b.size) (hz:t + 1 + 1≤o.size) :
  kasC (model prog w) A E (hiD a b o i (j + 1) mg k bc) (LoZ (fun c st' s'=>LoX ϕ G a b st c.1 st' s'∨HiY ϕ G a b st t c st' s') (HiY ϕ G a b st t)) st4 s4:=by
 obtain ⟨i,rfl⟩:∃ n,i=n + 1:=⟨i - 1,by omega⟩
 unfold hiD
 dsimp only [Nat.add_one_sub_one]
 refine kasC_bind (ZF hy ?_)
 have I5:=I4.push2 hd l1
 by_cases e3:j=1
 ·rw [if_pos (by simpa using e3)]
  exact kasC_pure (.inl ⟨_,rfl,S4,g4,I5.end2 e3 pb h0⟩)
 rw [if_neg (by simpa using e3)]
 obtain ⟨x1,hx1,hdx1⟩:=atL (show i < a.size by omega)
 have mx:=JF (ϕ:=ϕ) (hdx1 ▸ I5.hx)
 rw [← hdx1] at mx
 have hz5:t + 1 + 1≤(o.push y).size:=by rw [Array.size_push]; omega
 have hj5:2≤j:=by omega
 clear e3 I4 l1 hd hz hj
 refine kasC_bind (ZF hx1 (kasC_bind (Zay R (S4.1.trans hk) (ha _ _ hx1) hb (by omega) (by omega) ((UpTo.of ub).sub (by omega) (by omega)) g4 fun k' s5 hk2 l3 l4 g5=>?_)))
 rw [Nat.zero_add] at l4
 rw [List.drop_zero] at l3
 dsimp only
 have I6:=I5.app2 hk2 fun u hu v hv=>Nat.le_trans (mx v hv) (l4 u hu)
 have hz6:t + 1 + 1≤(o.push y ++ (b.extract k' j).reverse).size:=by rw [Array.size_append]; omega
 by_cases ck:j - k' > 0
 ·rw [if_pos ck]
  by_cases e4:k'=1
  ·rw [if_pos (by simpa using e4)]
   exact kasC_pure (.inl ⟨_,rfl,S4,g5,I6.end2 e4 pb h0⟩)
  rw [if_neg (by simpa using e4)]
  by_cases e5:k'=0
  ·rw [if_pos (by simpa using e5)]
   exact kasC_pure (.inl ⟨_,rfl,S4,g5,I6.end1 (.inr e5)⟩)
  rw [if_neg (by simpa using e5)]
  exact ZjJ S4 g5 hx1 hdx1 I6 l3 hi' (by omega) (by omega) hz6
 ·rw [if_neg ck]
  have k0:k'=j:=by omega
  subst k0
  exact ZjJ S4 g5 hx1 hdx1 I5 l3 hi' hj5 (by omega) hz5
theorem ZjL (R:JE prog w A κ ϕ U G) {a b o:Array Keyed} {i j mg ac bc t:Nat} {st st3:SortSt} {s3:Shared} (hk:kindOf st=κ) (ha:Al U a) (hb:Al U b) (ua:Up ϕ a.toList) (ub:Up ϕ b.toList) (pb:0 < b.size) (h0:∀ y,b[0]?=some y→∀ x∈a.toList,ϕ y≤ϕ x) (S3:Sim st st3) (g3:G s3)
  (I3:HiI ϕ a b o i j) (hi:1≤i) (hi':i≤a.size) (hj:2≤j) (hj':j≤b.size) (hz:t + 1 + 1≤o.size) :
  kasC (model prog w) A E (hiC a b o i j mg ac bc) (LoZ (fun c st' s'=>LoX ϕ G a b st c.1 st' s'∨HiY ϕ G a b st t c st' s') (HiY ϕ G a b st t)) st3 s3:=by
 obtain ⟨j,rfl⟩:∃ n,j=n + 1:=⟨j - 1,by omega⟩
 unfold hiC
 dsimp only [Nat.add_one_sub_one]
 refine kasC_bind (Zbf fun st4 S4=>?_)
 replace S4:=S3.trans S4
 obtain ⟨y,hy,hdy⟩:=atL (show j < b.size by omega)
 have my:=JF (ϕ:=ϕ) (hdy ▸ I3.hy)
 rw [← hdy] at my
 refine kasC_bind (ZF hy (kasC_bind (Zay R (S4.1.trans hk) (hb _ _ hy) ha (by omega) (by omega) ((UpTo.of ua).sub (by omega) (by omega)) g3 fun k s4 hk1 l1 l2 g4=>?_)))
 rw [Nat.zero_add] at l2
 rw [List.drop_zero] at l1
 dsimp only
 have I4:=I3.app1 hk1 fun u hu v hv=>Nat.le_trans (my v hv) (l2 u hu)
 have hz4:t + 1 + 1≤(o ++ (a.extract k i).reverse).size:=by rw [Array.size_append]; omega
 have hj1:1≤j:=by omega
 by_cases ck:i - k > 0
 ·rw [if_pos ck]
  by_cases e1:k=0
  ·rw [if_pos (by simpa using e1)]
   exact kasC_pure (.inl ⟨_,rfl,S4,g4,I4.end1 (.inl e1)⟩)
  rw [if_neg (by simpa using e1)]
  exact ZjK R hk ha hb ub pb h0 S4 g4 hy hdy I4 l1 (by omega) (by omega) hj1 hj' hz4
 ·rw [if_neg ck]
  have k0:k=i:=by omega
  subst k0
  exact ZjK R hk ha hb ub pb h0 S4 g4 hy hdy I3 l1 hi hi' hj1 hj' hz
theorem Zmp (R:JE prog w A κ ϕ U G) {a b:Array Keyed} {mg t q:Nat} {c:(Option (Array Keyed) × Nat × Nat × Array Keyed × Nat × Nat)} {st st2:SortSt} {s2:Shared} (hk:kindOf st=κ) (ha:Al U a) (hb:Al U b) (pb:0 < b.size) (h0:∀ y,b[0]?=some y→∀ x∈a.toList,ϕ y≤ϕ x)
  (h:HiV ϕ G a b st t q c st2 s2):kasC (model prog w) A E (hiM a b mg c) (LoZ (fun c st' s'=>LoX ϕ G a b st c.1 st' s'∨HiV ϕ G a b st t 1 c st' s') (HiV ϕ G a b st t (q + 1))) st2 s2:=by
 obtain ⟨i,j,o,ac,bc,rfl,S2,g2,I2,hi2,hi2',hj2,hj2',hs2⟩:=h
 obtain ⟨i,rfl⟩:∃ n,i=n + 1:=⟨i - 1,by omega⟩
 obtain ⟨j,rfl⟩:∃ n,j=n + 1:=⟨j - 1,by omega⟩
 unfold hiM
 dsimp only [Nat.add_one_sub_one]
 obtain ⟨x,hx,hdx⟩:=atL (show i < a.size by omega)
 obtain ⟨y,hy,hdy⟩:=atL (show j < b.size by omega)
 refine kasC_bind (ZF hy (kasC_bind (ZF hx (kasC_bind (ZgS R (S2.1.trans hk) (hb _ _ hy) (ha _ _ hx) g2 fun s3 g3=>?_)))))
 dsimp only
 have mx:=JF (ϕ:=ϕ) (hdx ▸ I2.hx)
 have my:=JF (ϕ:=ϕ) (hdy ▸ I2.hy)
 rw [← hdx] at mx
 rw [← hdy] at my
 by_cases cc:ϕ y < ϕ x
 ·rw [if_pos (by simpa using cc)]
  refine kasC_bind (ZF hx ?_)
  have I3:=I2.push1 hdx fun v hv=>Nat.le_trans (my v hv) (Nat.le_of_lt cc)
  by_cases e1:i=0
  ·rw [if_pos (by simpa using e1)]
   exact kasC_pure (.inl ⟨_,rfl,S2,g3,I3.end1 (.inl e1)⟩)
  rw [if_neg (by simpa using e1)]
  have z:t + 1 + (q + 1)≤(o.push x).size:=by rw [Array.size_push]; omega
  by_cases e2:ac + 1 ≥ mg
  ·rw [if_pos e2]
   exact kasC_pure (.inr ⟨_,_,_,_,_,rfl,S2,g3,I3,by omega,by omega,hj2,hj2',by omega⟩)
  ·rw [if_neg e2]
   exact kasC_pure ⟨_,_,_,_,_,rfl,S2,g3,I3,by omega,by omega,hj2,hj2',z⟩
 ·rw [if_neg (by simpa using cc)]
  refine kasC_bind (ZF hy ?_)
  have I3:=I2.push2 hdy fun v hv=>Nat.le_trans (mx v hv) (by omega)
  by_cases e1:j=1
  ·rw [if_pos (by simpa using e1)]
   exact kasC_pure (.inl ⟨_,rfl,S2,g3,I3.end2 e1 pb h0⟩)
  rw [if_neg (by simpa using e1)]
  have z:t + 1 + (q + 1)≤(o.push y).size:=by rw [Array.size_push]; omega
  by_cases e2:bc + 1 ≥ mg
  ·rw [if_pos e2]
   exact kasC_pure (.inr ⟨_,_,_,_,_,rfl,S2,g3,I3,hi2,hi2',by omega,by omega,by omega⟩)
  ·rw [if_neg e2]
   exact kasC_pure ⟨_,_,_,_,_,rfl,S2,g3,I3,hi2,hi2',by omega,by omega,z⟩
theorem Zmq (R:JE prog w A κ ϕ U G) {a b:Array Keyed} {t:Nat} {c:(Option (Array Keyed) × Nat × Nat × Array Keyed × Nat × Nat × Nat)} {st st3:SortSt} {s3:Shared} (hk:kindOf st=κ) (ha:Al U a) (hb:Al U b) (ua:Up ϕ a.toList) (ub:Up ϕ b.toList) (pb:0 < b.size) (h0:∀ y,b[0]?=some y→∀ x∈a.toList,ϕ y≤ϕ x)
  (h:HiY ϕ G a b st t c st3 s3):kasC (model prog w) A E (hiB a b c) (LoZ (fun c st' s'=>LoX ϕ G a b st c.1 st' s'∨HiY ϕ G a b st t c st' s') (HiY ϕ G a b st t)) st3 s3:=by
 obtain ⟨i,j,o,mg,ac,bc,rfl,S3,g3,I3,hi3,hi3',hj3,hj3',hs3⟩:=h
 unfold hiB
 split
 ·exact ZjL R hk ha hb ua ub pb h0 S3 g3 I3 hi3 hi3' hj3 hj3' hs3
 ·exact ZjL R hk ha hb ua ub pb h0 S3 g3 I3 hi3 hi3' hj3 hj3' hs3
theorem Zmo (R:JE prog w A κ ϕ U G) {a b:Array Keyed} {t:Nat} {c:(Option (Array Keyed) × Nat × Nat × Array Keyed × Nat)} {st st':SortSt} {s':Shared} (hk:kindOf st=κ) (ha:Al U a) (hb:Al U b) (ua:Up ϕ a.toList) (ub:Up ϕ b.toList) (pb:0 < b.size) (h0:∀ y,b[0]?=some y→∀ x∈a.toList,ϕ y≤ϕ x)
  (h:HiW ϕ G a b st t c st' s'):kasC (model prog w) A E (hiO a b c) (LoZ (fun c st' s'=>LoX ϕ G a b st c.1 st' s') (HiW ϕ G a b st (t + 1))) st' s':=by
 obtain ⟨i,j,o,mg,rfl,S,g',I,hi,hi',hj,hj',hs⟩:=h
 refine kasC_bind (ZU (Q:=fun c st' s'=>LoX ϕ G a b st c.1 st' s'∨HiV ϕ G a b st t 1 c st' s')
  (Z7 (HiV ϕ G a b st t) ⟨i,j,o,0,0,rfl,S,g',I,hi,hi',hj,hj',hs⟩ (fun q c st2 s2 hq V=>Zmp R hk ha hb pb h0 V) ?_) ?_)
 ·rintro c st2 s2 ⟨i,j,o,ac,bc,rfl,S2,g2,I2,hi2,hi2',hj2,hj2',hs2⟩
  exact .inr ⟨i,j,o,ac,bc,rfl,S2,g2,I2,hi2,hi2',hj2,hj2',by omega⟩
 ·rintro c st2 s2 (⟨r,e,S2,g2,O⟩ | ⟨i,j,o,ac,bc,rfl,S2,g2,I2,hi2⟩)
  ·rw [e]
   exact kasC_pure ⟨r,rfl,S2,g2,O⟩
  refine kasC_bind (X5 ?_)
  refine kasC_bind (ZU (Q:=fun c st' s'=>LoX ϕ G a b st c.1 st' s'∨HiY ϕ G a b st t c st' s')
   (Z7 (fun _=>HiY ϕ G a b st t) ⟨i,j,o,_,ac,bc,rfl,S2,g2,I2,hi2⟩ (fun q c st3 s3 hq Y=>Zmq R hk ha hb ua ub pb h0 Y) fun c st3 s3 Y=>.inr Y) ?_)
  rintro c st3 s3 (⟨r,e,S3,g3,O⟩ | ⟨i,j,o,mg,ac,bc,rfl,S3,g3,I3,hi3⟩)
  ·rw [e]
   exact kasC_pure ⟨r,rfl,S3,g3,O⟩
  refine kasC_bind (Zbf fun st4 S4=>?_)
  exact kasC_pure ⟨i,j,o,_,rfl,S3.trans S4,g3,I3,hi3⟩
theorem Znd (R:JE prog w A κ ϕ U G) {a b:Array Keyed} {Q:Array Keyed→SortSt→Shared→Prop} {st:SortSt} {s:Shared} (hk:kindOf st=κ) (ha:Al U a) (hb:Al U b) (ua:Up ϕ a.toList) (ub:Up ϕ b.toList) (pa:0 < a.size) (pb:0 < b.size)
  (h0:∀ y,b[0]?=some y→∀ x∈a.toList,ϕ y≤ϕ x) (h1:∀ x,a[a.size - 1]?=some x→∀ y∈b.toList,ϕ y≤ϕ x) (g:G s)
  (h:∀ r st' s',Sim st st'→G s'→Ok ϕ a b r→Q r st' s'):kasC (model prog w) A E (ZkN a b) Q st s:=by
 rw [Zir]
 refine kasC_bind (X5 ?_)
 obtain ⟨x0,hx0,hd0⟩:=atL (show a.size - 1 < a.size by omega)
 refine kasC_bind (ZF hx0 ?_)
 have I0:HiI ϕ a b #[x0] (a.size - 1) b.size:=by
  have ea:a.toList.take (a.size - 1 + 1)=a.toList:=List.take_of_length_le (by rw [Array.length_toList]; omega)
  have eb:b.toList.take b.size=b.toList:=List.take_of_length_le (by rw [Array.length_toList]; omega)
  have:HiI ϕ a b #[] (a.size - 1 + 1) b.size:=by
   unfold HiI
   rw [ea,eb]
   exact ⟨by simpa using ua,by simpa using ub,by simp⟩
  exact this.push1 hd0 fun v hv=>h1 x0 hx0 v (List.mem_of_mem_take hv)
 by_cases c1:a.size - 1=0
 ·rw [if_pos (by simpa using c1)]
  exact kasC_pure (h _ _ _ (Sim.refl _) g (I0.end1 (.inl c1)))
 rw [if_neg (by simpa using c1)]
 by_cases c2:b.size=1
 ·rw [if_pos (by simpa using c2)]
  exact kasC_pure (h _ _ _ (Sim.refl _) g (I0.end2 c2 pb h0))
 rw [if_neg (by simpa using c2)]
 refine kasC_bind (kasC_get ?_)
 refine kasC_bind (ZU (Q:=fun c st' s'=>LoX ϕ G a b st c.1 st' s') (Z7 (HiW ϕ G a b st)
  ⟨_,_,_,_,rfl,Sim.refl _,g,I0,by omega,by omega,by omega,by omega,Nat.le_refl 1⟩ (fun t c st' s' ht W=>Zmo R hk ha hb ua ub pb h0 W) ?_) ?_)
 ·rintro c st' s' ⟨i,j,o,mg,rfl,S,g',I,hi,hi',hj,hj',hs⟩
  have:=I.size (by omega) (by omega)
  omega
 ·rintro c st' s' ⟨r,e,S,g',O⟩
  rw [e]
  exact kasC_pure (h r st' s' S g' O)
end
end Tim
namespace Tim
open PySem PySem.W PyProof.Rows
theorem XL {ϕ:Keyed→Nat} {xs:Array Keyed} {i j:Nat} (hj:j≤xs.size) (k:Nat):fx ϕ (mirror xs i j ((j - i) / 2)) k=if i≤k∧k < j then fx ϕ xs (i + j - 1 - k) else fx ϕ xs k:=by
 have e:=getElem?_mirror_all (i:=i) hj k
 by_cases h1:i≤k∧k < j
 ·rw [if_pos h1] at e ⊢
  exact Ys e
 ·rw [if_neg h1] at e ⊢
  exact Ys e
theorem Zce {ϕ:Keyed→Nat} {xs:Array Keyed} {src d:Nat} (hs:src < xs.size) (hd:d≤src) (k:Nat):fx ϕ (bubble xs src d) k=if k=src - d then fx ϕ xs src else if src - d < k∧k≤src then fx ϕ xs (k - 1) else fx ϕ xs k:=by
 have e:=getElem?_bubble hs d hd k
 by_cases h1:k=src - d
 ·rw [if_pos h1] at e ⊢
  exact Ys e
 ·rw [if_neg h1] at e ⊢
  by_cases h2:src - d < k∧k≤src
  ·rw [if_pos h2] at e ⊢
   exact Ys e
  ·rw [if_neg h2] at e ⊢
   exact Ys e
structure Kp (lo:Nat) (st st':SortSt):Prop where
 kind:kindOf st'=kindOf st
 pend:pendingOf st'=pendingOf st
 fail:failedOf st'=failedOf st
 perm:(arrOf st').Perm (arrOf st)
 low:∀ i,i < lo→(arrOf st')[i]?=(arrOf st)[i]?
theorem Kp.refl (lo:Nat) (st:SortSt):Kp lo st st:=⟨rfl,rfl,rfl,Array.Perm.refl _,fun _ _=>rfl⟩
theorem Kp.size {lo:Nat} {st st':SortSt} (h:Kp lo st st'):(arrOf st').size=(arrOf st).size:=h.perm.size_eq
theorem Kp.mir {lo i j:Nat} {st st':SortSt} (h:Kp lo st st') (hi:lo≤i) (hj:j≤(arrOf st').size):Kp lo st (setArr st' (mirror (arrOf st') i j ((j - i) / 2))) :=
 ⟨h.kind,h.pend,h.fail,(mirror_perm _ _ _ _).trans h.perm,fun k hk=>by
  show (mirror (arrOf st') i j ((j - i) / 2))[k]?=_
  rw [getElem?_mirror_all hj k,if_neg (by omega)]
  exact h.low k hk⟩
theorem Kp.bub {lo src d:Nat} {st st':SortSt} (h:Kp lo st st') (hs:src < (arrOf st').size) (hd:d≤src) (hl:lo≤src - d):Kp lo st (setArr st' (bubble (arrOf st') src d)) :=
 ⟨h.kind,h.pend,h.fail,(bubble_perm _ _ _).trans h.perm,fun k hk=>by
  show (bubble (arrOf st') src d)[k]?=_
  rw [getElem?_bubble hs d hd k,if_neg (by omega),if_neg (by omega)]
  exact h.low k hk⟩
def ZmQ (ϕ:Keyed→Nat) (a:Array Keyed) (p q:Nat):Prop:=∀ i j,p≤i→i≤j→j < q→fx ϕ a j≤fx ϕ a i
section
variable {prog:Program} {w:World} {A:Around} {E:Value→Shared→Prop} {κ:SortKind} {ϕ:Keyed→Nat} {U:Keyed→Prop} {G:Shared→Prop}
theorem ZeR (R:JE prog w A κ ϕ U G) {i j:Nat} {Q:Option Bool→SortSt→Shared→Prop} {st:SortSt} {s:Shared} (hk:kindOf st=κ) (ha:Al U (arrOf st)) (hi:i < (arrOf st).size) (hj:j < (arrOf st).size) (g:G s)
  (h:∀ s',G s'→Q (some (decide (fx ϕ (arrOf st) i < fx ϕ (arrOf st) j))) st s'):kasC (model prog w) A E (ltAt' i j) Q st s:=by
 rw [ltAt'_eq]
 refine kasC_bind (kasC_get ?_)
 have e1:(arrOf st)[i]?=some (arrOf st)[i]:=Array.getElem?_eq_getElem hi
 have e2:(arrOf st)[j]?=some (arrOf st)[j]:=Array.getElem?_eq_getElem hj
 rw [Zcf e1,Zcf e2] at h
 exact kasC_bind (ZF e1 (kasC_bind (ZF e2 (ZgS R hk (ha _ _ e1) (ha _ _ e2) g h))))
theorem Zef {i j:Nat} {Q:Unit→SortSt→Shared→Prop} {st:SortSt} {s:Shared} (h:Q () (setArr st (mirror (arrOf st) i j ((j - i) / 2))) s):kasC (model prog w) A E (reverseSlice' i j) Q st s:=by
 rw [reverseSlice'_eq]
 exact kasC_modify h
theorem ZgU (R:JE prog w A κ ϕ U G) {lo n0 nrem:Nat} {Q:Option Nat→SortSt→Shared→Prop} {st0 st:SortSt} {s:Shared} (hk:kindOf st0=κ) (ha:Al U (arrOf st0)) (hn:lo + nrem≤(arrOf st0).size) (h1:1≤n0) (hnn:n0 + 1≤nrem) (K0:Kp lo st0 st) (dn:ZmQ ϕ (arrOf st) lo (lo + n0 + 1)) (g:G s)
  (h:∀ n st' s',1≤n→n≤nrem→Kp lo st0 st'→UpTo ϕ (arrOf st') lo (lo + n)→G s'→Q (some n) st' s'):kasC (model prog w) A E (do
   rule "list.sort.descending-run"
   let mut n:=n0 + 1
   let mut eq:=0
   for _ in [n:nrem] do
    let some sm ← ltAt' (lo + n) (lo + n - 1) | return none
    if sm then
     if eq > 0 then reverseSlice' (lo + n - (eq + 1)) (lo + n)
     eq:=0
    else
     let some la ← ltAt' (lo + n - 1) (lo + n) | return none
     if la then break
     eq:=eq + 1
    n:=n + 1
   if eq > 0 then reverseSlice' (lo + n - (eq + 1)) (lo + n)
   reverseSlice' lo (lo + n)
   for _ in [n:nrem] do
    let some sm ← ltAt' (lo + n) (lo + n - 1) | return none
    if sm then break
    n:=n + 1
   return some n) Q st s:=by
 have meq:∀ {xs:Array Keyed} {i j:Nat},j≤xs.size→(∀ k,i≤k→k < j→fx ϕ xs k=fx ϕ xs (j - 1))→∀ k,fx ϕ (mirror xs i j ((j - i) / 2)) k=fx ϕ xs k:=fun {xs i j} hj he k=>by
  rw [XL hj]
  split
  ·rw [he _ (by omega) (by omega),he k (by omega) (by omega)]
  ·rfl
 dsimp only
 refine kasC_bind (X5 ?_)
 refine kasC_bind (ZU (Q:=fun c st' s'=>∃ n q,c=(none,n,q)∧Kp lo st0 st'∧G s'∧1≤n∧n≤nrem∧ZmQ ϕ (arrOf st') lo (lo + n)∧q < n∧∀ k,lo + n - (q + 1)≤k→k < lo + n→fx ϕ (arrOf st') k=fx ϕ (arrOf st') (lo + n - 1))
  (Z7 (fun t c st' s'=>∃ n q,c=(none,n,q)∧Kp lo st0 st'∧G s'∧1≤n∧n=t∧n≤nrem∧ZmQ ϕ (arrOf st') lo (lo + n)∧q < n∧∀ k,lo + n - (q + 1)≤k→k < lo + n→fx ϕ (arrOf st') k=fx ϕ (arrOf st') (lo + n - 1))
   ⟨n0 + 1,0,rfl,K0,g,by omega,rfl,hnn,dn,by omega,fun k a1 a2=>by rw [show k=lo + (n0 + 1) - 1 by omega]⟩ ?_ ?_) ?_)
 ·rintro t c st' s' ht ⟨n,q,rfl,K1,g1,b1,rfl,b2,b3,b4,b5⟩
  dsimp only
  have sz:=K1.size
  have al:Al U (arrOf st'):=ha.perm K1.perm
  have htn:n < nrem:=by omega
  have hsz:lo + n < (arrOf st').size:=by omega
  clear ht hn hnn h1 sz b2 K0 dn h g
  refine kasC_bind (ZeR R (K1.kind.trans hk) al (by omega) (by omega) g1 fun s2 g2=>?_)
  dsimp only
  by_cases c:fx ϕ (arrOf st') (lo + n) < fx ϕ (arrOf st') (lo + n - 1)
  ·rw [if_pos (by simpa using c)]
   have dn2:ZmQ ϕ (arrOf st') lo (lo + (n + 1)):=fun i j a1 a2 a3=>by
    rcases Nat.lt_or_ge j (lo + n) with z | z
    ·exact b3 i j a1 a2 z
    ·have ej:j=lo + n:=by omega
     subst ej
     rcases Nat.lt_or_ge i (lo + n) with z2 | z2
     ·have:=b3 i (lo + n - 1) a1 (by omega) (by omega)
      omega
     ·rw [show i=lo + n by omega]
      exact Nat.le_refl _
   by_cases cq:q > 0
   ·rw [if_pos cq]
    refine kasC_bind (Zef (kasC_pure ⟨n + 1,0,rfl,K1.mir (by omega) (by omega),g2,by omega,rfl,by omega,fun i j a1 a2 a3=>?_,by omega,fun k a1 a2=>by rw [show k=lo + (n + 1) - 1 by omega]⟩))
    show fx ϕ (mirror (arrOf st') _ _ _) j≤fx ϕ (mirror (arrOf st') _ _ _) i
    rw [meq (by omega) b5,meq (by omega) b5]
    exact dn2 i j a1 a2 a3
   ·rw [if_neg cq]
    exact kasC_pure ⟨n + 1,0,rfl,K1,g2,by omega,rfl,by omega,dn2,by omega,fun k a1 a2=>by rw [show k=lo + (n + 1) - 1 by omega]⟩
  ·rw [if_neg (by simpa using c)]
   refine kasC_bind (ZeR R (K1.kind.trans hk) al (by omega) (by omega) g2 fun s3 g3=>?_)
   dsimp only
   by_cases c2:fx ϕ (arrOf st') (lo + n - 1) < fx ϕ (arrOf st') (lo + n)
   ·rw [if_pos (by simpa using c2)]
    exact kasC_pure ⟨n,q,rfl,K1,g3,b1,by omega,b3,b4,b5⟩
   ·rw [if_neg (by simpa using c2)]
    have e:fx ϕ (arrOf st') (lo + n)=fx ϕ (arrOf st') (lo + n - 1):=by omega
    refine kasC_pure ⟨n + 1,q + 1,rfl,K1,g3,by omega,rfl,by omega,fun i j a1 a2 a3=>?_,by omega,fun k a1 a2=>?_⟩
    ·rcases Nat.lt_or_ge j (lo + n) with z | z
     ·exact b3 i j a1 a2 z
     ·have ej:j=lo + n:=by omega
      subst ej
      rcases Nat.lt_or_ge i (lo + n) with z2 | z2
      ·have:=b3 i (lo + n - 1) a1 (by omega) (by omega)
       omega
      ·rw [show i=lo + n by omega]
       exact Nat.le_refl _
    ·rw [show lo + (n + 1) - 1=lo + n by omega,e]
     rcases Nat.lt_or_ge k (lo + n) with z | z
     ·exact b5 k (by omega) z
     ·rw [show k=lo + n by omega]
      exact e
 ·rintro c st' s' ⟨n,q,rfl,K1,g1,b1,b2,b3,b4⟩
  exact ⟨n,q,rfl,K1,g1,b1,by omega,b4⟩
 ·rintro c st' s' ⟨n,q,rfl,K1,g1,b1,b2,b3,b4,b5⟩
  dsimp only
  have sz:=K1.size
  have last:∀ {st2:SortSt},Kp lo st0 st2→ZmQ ϕ (arrOf st2) lo (lo + n)→kasC (model prog w) A E (do
    reverseSlice' lo (lo + n)
    let mut m:=n
    for _ in [m:nrem] do
     let some sm ← ltAt' (lo + m) (lo + m - 1) | return none
     if sm then break
     m:=m + 1
    return some m) Q st2 s':=fun {st2} K2 d2=>by
   have sz2:=K2.size
   have hs2:lo + n≤(arrOf st2).size:=by omega
   dsimp only
   refine kasC_bind (Zef ?_)
   have K3:=K2.mir (i:=lo) (j:=lo + n) (by omega) (by omega)
   have u3:UpTo ϕ (arrOf (setArr st2 (mirror (arrOf st2) lo (lo + n) ((lo + n - lo) / 2)))) lo (lo + n):=fun i j a1 a2 a3=>by
    show fx ϕ (mirror (arrOf st2) _ _ _) i≤fx ϕ (mirror (arrOf st2) _ _ _) j
    rw [XL (by omega),XL (by omega),if_pos (by omega),if_pos (by omega)]
    exact d2 _ _ (by omega) (by omega) (by omega)
   generalize setArr st2 (mirror (arrOf st2) lo (lo + n) ((lo + n - lo) / 2))=st3 at *
   have sz3:=K3.size
   refine kasC_bind (ZU (Q:=fun c st' s'=>∃ m,c=(none,m)∧st'=st3∧G s'∧1≤m∧m≤nrem∧UpTo ϕ (arrOf st3) lo (lo + m)) (Z7 (fun t c st' s'=>∃ m,c=(none,m)∧st'=st3∧G s'∧1≤m∧m=t∧m≤nrem∧UpTo ϕ (arrOf st3) lo (lo + m)) ⟨n,rfl,rfl,g1,b1,rfl,b2,u3⟩ ?_ ?_) ?_)
   ·rintro t c st4 s4 ht ⟨m,rfl,rfl,g4,d1,rfl,d3,d4⟩
    dsimp only
    have htn:m < nrem:=by omega
    have hsz:lo + m < (arrOf st4).size:=by omega
    clear ht hn hnn h1 sz sz2 sz3 d3 K0 dn h g b5 b4 b3 b2
    refine kasC_bind (ZeR R (K3.kind.trans hk) (ha.perm K3.perm) (by omega) (by omega) g4 fun s5 g5=>?_)
    dsimp only
    by_cases c:fx ϕ (arrOf st4) (lo + m) < fx ϕ (arrOf st4) (lo + m - 1)
    ·rw [if_pos (by simpa using c)]
     exact kasC_pure ⟨m,rfl,rfl,g5,d1,Nat.le_of_lt htn,d4⟩
    ·rw [if_neg (by simpa using c)]
     refine kasC_pure ⟨m + 1,rfl,rfl,g5,by omega,rfl,by omega,fun i j a1 a2 a3=>?_⟩
     rcases Nat.lt_or_ge j (lo + m) with z | z
     ·exact d4 i j a1 a2 z
     ·have ej:j=lo + m:=by omega
      subst ej
      rcases Nat.lt_or_ge i (lo + m) with z2 | z2
      ·have:=d4 i (lo + m - 1) a1 (by omega) (by omega)
       omega
      ·rw [show i=lo + m by omega]
       exact Nat.le_refl _
   ·rintro c st4 s4 ⟨m,rfl,rfl,g4,d1,rfl,d3,d4⟩
    exact ⟨_,rfl,rfl,g4,d1,d3,d4⟩
   ·rintro c st4 s4 ⟨m,rfl,rfl,g4,d1,d3,d4⟩
    exact kasC_pure (h m st4 s4 d1 d3 K3 d4 g4)
  by_cases cq:q > 0
  ·rw [if_pos cq]
   refine kasC_bind (Zef (last (K1.mir (by omega) (by omega)) fun i j a1 a2 a3=>?_))
   show fx ϕ (mirror (arrOf st') _ _ _) j≤fx ϕ (mirror (arrOf st') _ _ _) i
   rw [meq (by omega) b5,meq (by omega) b5]
   exact b3 i j a1 a2 a3
  ·rw [if_neg cq]
   exact last K1 b3
theorem Ziz (R:JE prog w A κ ϕ U G) {lo nrem:Nat} {Q:Option Nat→SortSt→Shared→Prop} {st:SortSt} {s:Shared} (hk:kindOf st=κ) (ha:Al U (arrOf st)) (hn:lo + nrem≤(arrOf st).size) (h1:1≤nrem) (g:G s)
  (h:∀ n st' s',1≤n→n≤nrem→Kp lo st st'→UpTo ϕ (arrOf st') lo (lo + n)→G s'→Q (some n) st' s'):kasC (model prog w) A E (countRun' lo nrem) Q st s:=by
 rw [countRun'_eq]
 dsimp only
 refine kasC_bind (ZU (Q:=fun c st' s'=>∃ m,c=(none,m)∧st'=st∧G s'∧1≤m∧m≤nrem∧UpTo ϕ (arrOf st) lo (lo + m)∧(m=nrem∨fx ϕ (arrOf st) (lo + m) < fx ϕ (arrOf st) (lo + m - 1))) (Z7 (fun t c st' s'=>∃ m,c=(none,m)∧st'=st∧G s'∧1≤m∧m=t∧m≤nrem∧UpTo ϕ (arrOf st) lo (lo + m)) ⟨1,rfl,rfl,g,by omega,rfl,h1,fun i j a1 a2 a3=>by rw [show i=j by omega]; exact Nat.le_refl _⟩ ?_ ?_) ?_)
 ·rintro t c st4 s4 ht ⟨m,rfl,rfl,g4,d1,rfl,d3,d4⟩
  dsimp only
  have htn:m < nrem:=by omega
  have hsz:lo + m < (arrOf st4).size:=by omega
  clear ht hn h1 d3 g h
  refine kasC_bind (ZeR R hk ha (by omega) (by omega) g4 fun s5 g5=>?_)
  dsimp only
  by_cases c:fx ϕ (arrOf st4) (lo + m) < fx ϕ (arrOf st4) (lo + m - 1)
  ·rw [if_pos (by simpa using c)]
   exact kasC_pure ⟨m,rfl,rfl,g5,d1,Nat.le_of_lt htn,d4,.inr c⟩
  ·rw [if_neg (by simpa using c)]
   refine kasC_pure ⟨m + 1,rfl,rfl,g5,by omega,rfl,by omega,fun i j a1 a2 a3=>?_⟩
   rcases Nat.lt_or_ge j (lo + m) with z | z
   ·exact d4 i j a1 a2 z
   ·have ej:j=lo + m:=by omega
    subst ej
    rcases Nat.lt_or_ge i (lo + m) with z2 | z2
    ·have:=d4 i (lo + m - 1) a1 (by omega) (by omega)
     omega
    ·rw [show i=lo + m by omega]
     exact Nat.le_refl _
 ·rintro c st4 s4 ⟨m,rfl,rfl,g4,d1,rfl,d3,d4⟩
  exact ⟨_,rfl,rfl,g4,d1,d3,d4,.inl (by omega)⟩
 ·rintro c st4 s4 ⟨m,rfl,rfl,g4,d1,d3,d4,d5⟩
  dsimp only
  by_cases c1:m=nrem
  ·rw [if_pos (by simpa using c1)]
   exact kasC_pure (h m st4 s4 d1 d3 (Kp.refl _ _) d4 g4)
  rw [if_neg (by simpa using c1)]
  have hlt:=d5.resolve_left c1
  replace c1:m < nrem:=by omega
  have hsz:lo + m < (arrOf st4).size:=by omega
  clear d5 h1
  by_cases c2:m > 1
  ·rw [if_pos c2]
   refine kasC_bind (ZeR R hk ha (by omega) (by omega) g4 fun s5 g5=>?_)
   dsimp only
   by_cases c3:fx ϕ (arrOf st4) lo < fx ϕ (arrOf st4) (lo + m - 1)
   ·rw [if_pos (by simpa using c3)]
    exact kasC_pure (h m st4 s5 d1 d3 (Kp.refl _ _) d4 g5)
   ·rw [if_neg (by simpa using c3)]
    have hall:∀ k,lo≤k→k < lo + m→fx ϕ (arrOf st4) k=fx ϕ (arrOf st4) (lo + m - 1):=fun k a1 a2=>by
     have z1:=d4 lo k (by omega) a1 a2
     have z2:=d4 k (lo + m - 1) a1 (by omega) (by omega)
     omega
    refine kasC_bind (Zef (ZgU R hk ha hn d1 (by omega) ((Kp.refl lo st4).mir (by omega) (by omega)) ?_ g5 h))
    have meq:∀ k,fx ϕ (mirror (arrOf st4) lo (lo + m) ((lo + m - lo) / 2)) k=fx ϕ (arrOf st4) k:=fun k=>by
     rw [XL (by omega)]
     split
     ·rw [hall _ (by omega) (by omega),hall k (by omega) (by omega)]
     ·rfl
    intro i j a1 a2 a3
    show fx ϕ (mirror (arrOf st4) _ _ _) j≤fx ϕ (mirror (arrOf st4) _ _ _) i
    rw [meq,meq]
    rcases Nat.lt_or_ge j (lo + m) with z | z
    ·rw [hall i (by omega) (by omega),hall j (by omega) z]
     exact Nat.le_refl _
    ·have ej:j=lo + m:=by omega
     subst ej
     rcases Nat.lt_or_ge i (lo + m) with z2 | z2
     ·rw [hall i a1 z2]
      omega
     ·rw [show i=lo + m by omega]
      exact Nat.le_refl _
  ·rw [if_neg c2]
   have hm:m=1:=by omega
   subst hm
   refine ZgU R hk ha hn d1 (by omega) (Kp.refl lo st4) ?_ g4 h
   intro i j a1 a2 a3
   rcases Nat.lt_or_ge i j with z | z
   ·have e1:i=lo:=by omega
    have e2:j=lo + 1:=by omega
    subst e1 e2
    rw [Nat.add_sub_cancel] at hlt
    omega
   ·rw [show i=j by omega]
    exact Nat.le_refl _
theorem Zmn (R:JE prog w A κ ϕ U G) {lo n ok:Nat} {Q:Bool→SortSt→Shared→Prop} {st0 st:SortSt} {s:Shared} (hk:kindOf st0=κ) (ha:Al U (arrOf st0)) (hn:lo + n≤(arrOf st0).size) (hok:ok≤n) (K0:Kp lo st0 st) (up:UpTo ϕ (arrOf st) lo (lo + ok)) (g:G s)
  (h:∀ st' s',Kp lo st0 st'→UpTo ϕ (arrOf st') lo (lo + n)→G s'→Q true st' s'):kasC (model prog w) A E (binarySort' lo n ok) Q st s:=by
 rw [binarySort'_eq]
 dsimp only
 refine kasC_bind (ZU (Q:=fun c st' s'=>c=(none,())∧Kp lo st0 st'∧G s'∧UpTo ϕ (arrOf st') lo (lo + n)) (Z7 (fun k c st' s'=>c=(none,())∧max ok 1≤k∧Kp lo st0 st'∧G s'∧UpTo ϕ (arrOf st') lo (lo + min k n)) ⟨rfl,Nat.le_refl _,K0,g,fun i j a1 a2 a3=>?_⟩ ?_ ?_) ?_)
 ·by_cases h1:ok=0
  ·rw [show i=j by omega]
   exact Nat.le_refl _
  ·exact up i j a1 a2 (by omega)
 ·rintro k c st1 s1 hkk ⟨rfl,hk1,K1,g1,u1⟩
  have sz:=K1.size
  have hkn:k < n:=by omega
  rw [show min k n=k by omega] at u1
  have hkm:True→max ok 1≤k + 1:=fun _=>by omega
  have hks0:lo + k < (arrOf st1).size:=by omega
  clear hkk hk1 hok hn sz up
  refine kasC_bind (ZU (Q:=fun c st' s'=>st'=st1∧G s'∧∃ l r,c=(none,l,r)∧l≤k∧(∀ i,lo≤i→i < lo + l→fx ϕ (arrOf st1) i≤fx ϕ (arrOf st1) (lo + k))∧(∀ i,lo + l≤i→i < lo + k→fx ϕ (arrOf st1) (lo + k) < fx ϕ (arrOf st1) i))
   (Z7 (fun x c st' s'=>st'=st1∧G s'∧∃ l r,c=(none,l,r)∧l≤r∧r≤k∧r - l≤k - x∧(∀ i,lo≤i→i < lo + l→fx ϕ (arrOf st1) i≤fx ϕ (arrOf st1) (lo + k))∧(∀ i,lo + r≤i→i < lo + k→fx ϕ (arrOf st1) (lo + k) < fx ϕ (arrOf st1) i))
    ⟨rfl,g1,0,k,rfl,by omega,by omega,by omega,fun i a1 a2=>by omega,fun i a1 a2=>by omega⟩ ?_ ?_) ?_)
  ·rintro x c st2 s2 hx ⟨rfl,g2,l,r,rfl,b1,b2,b3,b4,b5⟩
   dsimp only
   by_cases hge:l ≥ r
   ·rw [if_pos hge]
    have:l=r:=by omega
    subst this
    exact kasC_pure ⟨rfl,g2,l,l,rfl,b2,b4,b5⟩
   ·rw [if_neg hge]
    refine kasC_bind (ZeR R (K1.kind.trans hk) (ha.perm K1.perm) (by omega) (by omega) g2 fun s3 g3=>?_)
    dsimp only
    by_cases c:fx ϕ (arrOf st2) (lo + k) < fx ϕ (arrOf st2) (lo + (l + r) / 2)
    ·rw [if_pos (by simpa using c)]
     refine kasC_pure ⟨rfl,g3,l,(l + r) / 2,rfl,by omega,by omega,by omega,b4,fun i a1 a2=>?_⟩
     exact Nat.lt_of_lt_of_le c (u1 _ _ (by omega) a1 a2)
    ·rw [if_neg (by simpa using c)]
     refine kasC_pure ⟨rfl,g3,(l + r) / 2 + 1,r,rfl,by omega,by omega,by omega,fun i a1 a2=>?_,b5⟩
     exact Nat.le_trans (u1 i (lo + (l + r) / 2) a1 (by omega) (by omega)) (Nat.not_lt.mp c)
  ·rintro c st2 s2 ⟨rfl,g2,l,r,rfl,b1,b2,b3,b4,b5⟩
   have:l=r:=by omega
   subst this
   exact ⟨rfl,g2,l,l,rfl,b2,b4,b5⟩
  ·rintro c st2 s2 ⟨rfl,g2,l,r,rfl,b1,b2,b3⟩
   dsimp only
   rw [moveDown'_eq]
   refine kasC_bind (kasC_modify (kasC_pure ⟨rfl,hkm trivial,K1.bub (by omega) (by omega) (by omega),g2,?_⟩))
   rw [show min (k + 1) n=k + 1 by omega]
   have hks:=hks0
   clear hkn hkm
   intro i j a1 a2 a3
   show fx ϕ (bubble (arrOf st2) (lo + k) (lo + k - (lo + l))) i≤fx ϕ (bubble (arrOf st2) (lo + k) (lo + k - (lo + l))) j
   rw [Zce hks (by omega),Zce hks (by omega),show lo + k - (lo + k - (lo + l))=lo + l by omega]
   repeat' split
   all_goals first
    | (exfalso; omega)
    | exact Nat.le_refl _
    | exact b2 _ (by omega) (by omega)
    | exact Nat.le_of_lt (b3 _ (by omega) (by omega))
    | exact u1 _ _ (by omega) (by omega) (by omega)
 ·rintro c st1 s1 ⟨rfl,hk1,K1,g1,u1⟩
  refine ⟨rfl,K1,g1,?_⟩
  rwa [show min (max (max ok 1) n) n=n by omega] at u1
 ·rintro c st1 s1 ⟨rfl,K1,g1,u1⟩
  exact kasC_pure (h st1 s1 K1 u1 g1)
end
end Tim
namespace Tim
open PySem PySem.W PyProof.Rows
section
variable {ϕ:Keyed→Nat}
theorem Zj4 {a:Array Keyed} {P X S:List Keyed} (e:a.toList=P ++ X ++ S) (u:Up ϕ X):UpTo ϕ a P.length (P.length + X.length):=by
 have ix:∀ k (hk:k < X.length),fx ϕ a (P.length + k)=ϕ X[k]:=fun k hk=>by
  refine Zcf ?_
  rw [← Array.getElem?_toList,e,List.append_assoc,List.getElem?_append_right (by omega),Nat.add_sub_cancel_left,List.getElem?_append_left hk]
  exact List.getElem?_eq_getElem hk
 intro i j a1 a2 a3
 obtain ⟨x,rfl⟩:∃ x,i=P.length + x:=⟨i - P.length,by omega⟩
 obtain ⟨y,rfl⟩:∃ y,j=P.length + y:=⟨j - P.length,by omega⟩
 rw [ix x (by omega),ix y (by omega)]
 rcases Nat.lt_or_ge x y with c | c
 ·exact List.pairwise_iff_getElem.mp u x y (by omega) (by omega) c
 ·have:x=y:=by omega
  subst this
  exact Nat.le_refl _
theorem Zl1 {a:Array Keyed} {p n:Nat} (h:UpTo ϕ a p (p + n)) (hn:p + n≤a.size):Up ϕ ((a.toList.drop p).take n):=by
 refine List.pairwise_iff_getElem.mpr fun i j hi hj hij=>?_
 have hl:((a.toList.drop p).take n).length=n:=by rw [List.length_take,List.length_drop,Array.length_toList]; omega
 have ix:∀ k (hk:k < ((a.toList.drop p).take n).length),fx ϕ a (p + k)=ϕ ((a.toList.drop p).take n)[k]:=fun k hk=>by
  have hk2:p + k < a.size:=by omega
  refine Zcf ?_
  rw [Array.getElem?_eq_getElem hk2]
  simp
 rw [← ix i hi,← ix j hj]
 exact h _ _ (by omega) (by omega) (by omega)
def Runs (ϕ:Keyed→Nat) (a:Array Keyed):List (Nat × Nat × Nat)→Nat→Nat→Prop
 | [],p,q=>p=q
 | x :: l,p,q=>x.1=p∧1≤x.2.1∧UpTo ϕ a p (p + x.2.1)∧Runs ϕ a l (p + x.2.1) q
theorem Runs.le {a:Array Keyed}:∀ {l:List (Nat × Nat × Nat)} {p q:Nat},Runs ϕ a l p q→p + l.length≤q
 | [],p,q,h=>by
  have:p=q:=h
  simp [this]
 | x :: l,p,q,h=>by
  have:=Runs.le h.2.2.2
  have:=h.2.1
  simp only [List.length_cons]
  omega
theorem Runs.congr {a b:Array Keyed}:∀ {l:List (Nat × Nat × Nat)} {p q:Nat},Runs ϕ a l p q→(∀ i,p≤i→i < q→fx ϕ b i=fx ϕ a i)→Runs ϕ b l p q
 | [],_,_,h,_=>h
 | x :: l,p,q,h,e=>by
  have hle:=Runs.le h.2.2.2
  refine ⟨h.1,h.2.1,fun i j a1 a2 a3=>?_,h.2.2.2.congr fun i a1 a2=>e i (by omega) a2⟩
  rw [e i (by omega) (by omega),e j (by omega) (by omega)]
  exact h.2.2.1 i j a1 a2 a3
theorem Runs.app {a:Array Keyed}:∀ {l m:List (Nat × Nat × Nat)} {p q:Nat},Runs ϕ a (l ++ m) p q→∃ r,Runs ϕ a l p r∧Runs ϕ a m r q
 | [],m,p,q,h=>⟨p,rfl,h⟩
 | x :: l,m,p,q,h=>by
  obtain ⟨r,h1,h2⟩:=Runs.app h.2.2.2
  exact ⟨r,⟨h.1,h.2.1,h.2.2.1,h1⟩,h2⟩
theorem Runs.join {a:Array Keyed}:∀ {l m:List (Nat × Nat × Nat)} {p q r:Nat},Runs ϕ a l p r→Runs ϕ a m r q→Runs ϕ a (l ++ m) p q
 | [],m,p,q,r,h,k=>by
  have:p=r:=h
  subst this
  exact k
 | x :: l,m,p,q,r,h,k=>⟨h.1,h.2.1,h.2.2.1,Runs.join h.2.2.2 k⟩
theorem Runs.mod {a:Array Keyed} {f:Nat × Nat × Nat→Nat × Nat × Nat} (hf:∀ x,(f x).1=x.1∧(f x).2.1=x.2.1):∀ {l:List (Nat × Nat × Nat)} {p q:Nat} (k:Nat),Runs ϕ a l p q→Runs ϕ a (l.modify k f) p q
 | [],p,q,k,h=>by rw [List.modify_nil]; exact h
 | x :: l,p,q,0,h=>by
  rw [List.modify_zero_cons]
  refine ⟨(hf x).1.trans h.1,by rw [(hf x).2]; exact h.2.1,by rw [(hf x).2]; exact h.2.2.1,by rw [(hf x).2]; exact h.2.2.2⟩
 | x :: l,p,q,k + 1,h=>by
  rw [List.modify_succ_cons]
  exact ⟨h.1,h.2.1,h.2.2.1,Runs.mod hf k h.2.2.2⟩
end
theorem ZdR:∀ (r:List Keyed) (a:Array Keyed) (p k:Nat),p + k + r.length≤a.size→((r.zipIdx k).foldl (fun a (x:Keyed × Nat)=>a.setIfInBounds (p + x.2) x.1) a).toList=a.toList.take (p + k) ++ r ++ a.toList.drop (p + k + r.length)
 | [],a,p,k,h=>by simp
 | x :: r,a,p,k,h=>by
  rw [List.zipIdx_cons,List.foldl_cons]
  simp only [List.length_cons] at h
  rw [ZdR r _ p (k + 1) (by rw [Array.size_setIfInBounds]; omega)]
  have hk:p + k < a.toList.length:=by rw [Array.length_toList]; omega
  rw [Array.toList_setIfInBounds,List.set_eq_take_append_cons_drop,if_pos hk]
  have e1:(a.toList.take (p + k)).length=p + k:=by rw [List.length_take]; omega
  have e2:(a.toList.take (p + k) ++ x :: a.toList.drop (p + k + 1)).take (p + (k + 1))=a.toList.take (p + k) ++ [x]:=by
   rw [List.take_append,e1,show p + (k + 1) - (p + k)=1 by omega,List.take_of_length_le (by omega)]
   rfl
  have e3:(a.toList.take (p + k) ++ x :: a.toList.drop (p + k + 1)).drop (p + (k + 1) + r.length)=a.toList.drop (p + k + (x :: r).length):=by
   rw [List.drop_append,e1,List.drop_of_length_le (by omega),List.nil_append,show p + (k + 1) + r.length - (p + k)=r.length + 1 by omega,List.drop_succ_cons,List.drop_drop]
   congr 1
   simp only [List.length_cons]
   omega
  rw [e2,e3]
  simp
theorem Zis (i:Nat):mergeAt' i=(do
 let z ← get
 let (some (sa,na,pw),some (sb,nb,_)):=((pendingOf z)[i]?,(pendingOf z)[i + 1]?) | unsupported "internal:list.sort.pending"
 set (setPending z (((pendingOf z).setIfInBounds i (sa,na + nb,pw)).eraseIdxIfInBounds (i + 1)))
 let some k ← Zbk false (← elem' (arrOf z) sb) (arrOf z) sa na 0 | return false
 let (sc,nc):=(sa + k,na - k)
 if nc == 0 then return true
 let some nd ← Zbk true (← elem' (arrOf z) (sc + nc - 1)) (arrOf z) sb nb (nb - 1) | return false
 if nd == 0 then return true
 let x:=(arrOf z).extract sc sb
 let y:=(arrOf z).extract sb (sb + nd)
 let r ← if nc≤nd then ZkM x y else ZkN x y
 modify fun z=>setArr z (r.toList.zipIdx.foldl (fun a (p,j)=>a.setIfInBounds (sc + j) p) (arrOf z))
 return (failedOf (← get)).isNone):=rfl
section
variable {prog:Program} {w:World} {A:Around} {E:Value→Shared→Prop} {κ:SortKind} {ϕ:Keyed→Nat} {U:Keyed→Prop} {G:Shared→Prop}
theorem ZiA {σ:Type} {M:Model} {t:σ} {Q:PUnit→σ→Shared→Prop} {st:σ} {s:Shared} (h:Q ⟨⟩ t s):kasC M A E (set t:StateT σ Sem PUnit) Q st s:=by
 unfold kasC; rw [StateT.run_set]; exact wpAny_pure h
structure Jn (κ:SortKind) (ϕ:Keyed→Nat) (a₀:Array Keyed) (q:Nat) (l:List (Nat × Nat × Nat)) (st:SortSt):Prop where
 kind:kindOf st=κ
 fail:failedOf st=none
 perm:(arrOf st).Perm a₀
 pend:(pendingOf st).toList=l
 runs:Runs ϕ (arrOf st) l 0 q
theorem XY {l:List Keyed} {p n N:Nat} (hl:l.length=N) (h:p + n≤N):((l.drop p).take n).length=n:=by
 rw [List.length_take,List.length_drop,hl]
 omega
theorem ZgR (R:JE prog w A κ ϕ U G) {a₀:Array Keyed} {q i:Nat} {l:List (Nat × Nat × Nat)} {Q:Bool→SortSt→Shared→Prop} {st:SortSt} {s:Shared} (ha:Al U a₀) (J:Jn κ ϕ a₀ q l st) (hq:q≤a₀.size) (hi:i + 1 < l.length) (g:G s)
  (h:∀ l' st' s',l'.length + 1=l.length→Jn κ ϕ a₀ q l' st'→(∀ k,q≤k→fx ϕ (arrOf st') k=fx ϕ (arrOf st) k)→G s'→Q true st' s'):kasC (model prog w) A E (mergeAt' i) Q st s:=by
 obtain ⟨l1,x,y,l2,e,e1⟩:∃ l1 x y l2,l=l1 ++ x :: y :: l2∧l1.length=i :=
  ⟨l.take i,l[i],l[i + 1],l.drop (i + 2),by
   rw [← List.drop_eq_getElem_cons (by omega),← List.drop_eq_getElem_cons (by omega),List.take_append_drop],by rw [List.length_take]; omega⟩
 obtain ⟨sa,na,pw⟩:=x
 obtain ⟨sb,nb,pv⟩:=y
 obtain ⟨r,r1,r2⟩:=Runs.app (e ▸ J.runs)
 obtain ⟨z1,z2,z3,z4,z5,z6,z7⟩:=r2
 dsimp only at z1 z2 z3 z4 z5 z6 z7
 subst z1
 subst z4
 have sz:(arrOf st).size=a₀.size:=J.perm.size_eq
 have al:Al U (arrOf st):=ha.perm J.perm
 have hle:=z7.le
 have p1:(pendingOf st)[i]?=some (sa,na,pw):=by
  rw [← Array.getElem?_toList,J.pend,e,← e1,List.getElem?_append_right (Nat.le_refl _),Nat.sub_self]
  rfl
 have p2:(pendingOf st)[i + 1]?=some (sa + na,nb,pv):=by
  rw [← Array.getElem?_toList,J.pend,e,← e1,List.getElem?_append_right (by omega),Nat.add_sub_cancel_left]
  rfl
 have p3:(((pendingOf st).setIfInBounds i (sa,na + nb,pw)).eraseIdxIfInBounds (i + 1)).toList=l1 ++ (sa,na + nb,pw) :: l2:=by
  rw [Array.toList_eraseIdxIfInBounds,Array.toList_setIfInBounds,J.pend,e,← e1,List.set_append_right _ _ (Nat.le_refl _),Nat.sub_self,List.eraseIdx_append_of_length_le (by omega),Nat.add_sub_cancel_left]
  rfl
 have fin:∀ (a':Array Keyed),a'.Perm (arrOf st)→(∀ k,k < sa→fx ϕ a' k=fx ϕ (arrOf st) k)→(∀ k,sa + na + nb≤k→fx ϕ a' k=fx ϕ (arrOf st) k)→UpTo ϕ a' sa (sa + (na + nb))→∀ (st':SortSt) (s':Shared),kindOf st'=κ→failedOf st'=none→arrOf st'=a'→pendingOf st'=((pendingOf st).setIfInBounds i (sa,na + nb,pw)).eraseIdxIfInBounds (i + 1)→G s'→Q true st' s':=by
  intro a' q1 q2 q3 q4 st' s' q5 q6 q7 q8 g'
  subst q7
  refine h (l1 ++ (sa,na + nb,pw) :: l2) st' s' (by rw [e]; simp only [List.length_append,List.length_cons]; omega) ⟨q5,q6,q1.trans J.perm,by rw [q8,p3],?_⟩ (fun k hk=>q3 k (by omega)) g'
  refine (r1.congr fun k b1 b2=>q2 k b2).join ⟨rfl,by show 1≤na + nb; omega,q4,?_⟩
  show Runs ϕ (arrOf st') l2 (sa + (na + nb)) q
  rw [← Nat.add_assoc]
  exact z7.congr fun k b1 b2=>q3 k b1
 have hsz:sa + na + nb≤a₀.size:=by omega
 clear hi e1 hq hle h p3 r1 z7
 rw [Zis]
 refine kasC_bind (kasC_get ?_)
 rw [p1,p2]
 dsimp only
 refine kasC_bind (ZiA ?_)
 obtain ⟨y0,hy0,hdy0⟩:=at_ (show sa + na < (arrOf st).size by omega)
 have kd:kindOf (setPending st (((pendingOf st).setIfInBounds i (sa,na + nb,pw)).eraseIdxIfInBounds (i + 1)))=κ:=J.kind
 generalize hst:setPending st (((pendingOf st).setIfInBounds i (sa,na + nb,pw)).eraseIdxIfInBounds (i + 1))=st1 at *
 have ar1:arrOf st1=arrOf st:=by rw [← hst]
 have pe1:pendingOf st1=((pendingOf st).setIfInBounds i (sa,na + nb,pw)).eraseIdxIfInBounds (i + 1):=by rw [← hst]
 have fa1:failedOf st1=none:=by rw [← hst]; exact J.fail
 have seg:∀ p n,UpTo ϕ (arrOf st) p (p + n)→p + n≤a₀.size→Up ϕ (((arrOf st).toList.drop p).take n):=fun p n u hn=>Zl1 u (by omega)
 have sB:=seg _ _ z6 (by omega)
 have sA:=seg _ _ z3 (by omega)
 have cutL:∀ p n m,((arrOf st).toList.drop p).take (n + m)=((arrOf st).toList.drop p).take n ++ ((arrOf st).toList.drop (p + n)).take m:=fun p n m=>by
  rw [List.take_add,List.drop_drop]
 have lenL:True→(arrOf st).toList.length=a₀.size:=fun _=>by rw [Array.length_toList,sz]
 refine kasC_bind (ZF hy0 (kasC_bind (Zay R kd (al _ _ hy0) al (by omega) (by omega) z3 g fun k s1 hk1 l1' l2' g1=>?_)))
 dsimp only
 have upB:∀ v∈((arrOf st).toList.drop (sa + na)).take nb,ϕ y0≤ϕ v:=by
  obtain ⟨nb',rfl⟩:∃ m,nb=m + 1:=⟨nb - 1,by omega⟩
  rw [hdy0,List.take_succ_cons] at sB ⊢
  exact JG sB
 by_cases c1:na - k=0
 ·rw [if_pos (by simpa using c1)]
  have k0:k=na:=by omega
  subst k0
  refine kasC_pure (fin (arrOf st) (Array.Perm.refl _) (fun _ _=>rfl) (fun _ _=>rfl) ?_ st1 s1 kd fa1 ar1 pe1 g1)
  have u:Up ϕ (((arrOf st).toList.drop sa).take (k + nb)):=by
   rw [cutL]
   exact List.pairwise_append.mpr ⟨sA,sB,fun u hu v hv=>Nat.le_trans (l1' u hu) (upB v hv)⟩
  have:=Zj4 (ϕ:=ϕ) (a:=arrOf st) (P:=(arrOf st).toList.take sa) (S:=(arrOf st).toList.drop (sa + (k + nb))) (by rw [List.append_assoc,← List.drop_drop,List.take_append_drop,List.take_append_drop]) u
  rw [List.length_take,lenL trivial,Nat.min_eq_left (by omega),XY (lenL trivial) (by omega)] at this
  exact this
 rw [if_neg (by simpa using c1)]
 replace c1:k < na:=by omega
 rw [show sa + k + (na - k) - 1=sa + na - 1 by omega]
 obtain ⟨xl,hxl,hdxl⟩:=atL (show sa + na - 1 < (arrOf st).size by omega)
 have upA:∀ v∈((arrOf st).toList.drop sa).take na,ϕ v≤ϕ xl:=by
  have:((arrOf st).toList.drop sa).take na=((arrOf st).toList.drop sa).take (na - 1) ++ [xl]:=by
   have e9:∃ m,na=m + 1:=⟨na - 1,by omega⟩
   obtain ⟨m,rfl⟩:=e9
   rw [cutL,Nat.add_sub_cancel]
   congr 1
   obtain ⟨x9,hx9,hd9⟩:=at_ (show sa + m < (arrOf st).size by omega)
   rw [hd9]
   have:x9=xl:=by
    rw [show sa + (m + 1) - 1=sa + m by omega,hx9] at hxl
    exact Option.some.inj hxl
   rw [this]
   rfl
  rw [this] at sA ⊢
  exact JF sA
 refine kasC_bind (ZF hxl (kasC_bind (Zay R kd (al _ _ hxl) al (by omega) (by omega) z6 g1 fun nd s2 hnd m1 m2 g2=>?_)))
 dsimp only
 by_cases c2:nd=0
 ·rw [if_pos (by simpa using c2)]
  subst c2
  refine kasC_pure (fin (arrOf st) (Array.Perm.refl _) (fun _ _=>rfl) (fun _ _=>rfl) ?_ st1 s2 kd fa1 ar1 pe1 g2)
  have u:Up ϕ (((arrOf st).toList.drop sa).take (na + nb)):=by
   rw [cutL]
   exact List.pairwise_append.mpr ⟨sA,sB,fun u hu v hv=>Nat.le_trans (upA u hu) (m2 v (by simpa using hv))⟩
  have:=Zj4 (ϕ:=ϕ) (a:=arrOf st) (P:=(arrOf st).toList.take sa) (S:=(arrOf st).toList.drop (sa + (na + nb))) (by rw [List.append_assoc,← List.drop_drop,List.take_append_drop,List.take_append_drop]) u
  rw [List.length_take,lenL trivial,Nat.min_eq_left (by omega),XY (lenL trivial) (by omega)] at this
  exact this
 rw [if_neg (by simpa using c2)]
 replace c2:0 < nd:=by omega
 have ex1:((arrOf st).extract (sa + k) (sa + na)).toList=((arrOf st).toList.drop (sa + k)).take (na - k):=by
  rw [← Zhg,show sa + k + (na - k)=sa + na by omega]
 have ex2:((arrOf st).extract (sa + na) (sa + na + nd)).toList=((arrOf st).toList.drop (sa + na)).take nd:=Zhg _ _ _
 have sz1:True→((arrOf st).extract (sa + k) (sa + na)).size=na - k:=fun _=>by rw [Array.size_extract]; omega
 have sz2:True→((arrOf st).extract (sa + na) (sa + na + nd)).size=nd:=fun _=>by rw [Array.size_extract]; omega
 have al':∀ p q',Al U ((arrOf st).extract p q'):=fun p q' i x hx=>by
  rw [Array.getElem?_extract] at hx
  split at hx
  ·exact al _ _ hx
  ·cases hx
 have u1:Up ϕ ((arrOf st).extract (sa + k) (sa + na)).toList:=by
  rw [ex1]
  exact seg _ _ (z3.sub (by omega) (by omega)) (by omega)
 have u2:Up ϕ ((arrOf st).extract (sa + na) (sa + na + nd)).toList:=by
  rw [ex2]
  exact seg _ _ (z6.sub (by omega) (by omega)) (by omega)
 have q0:∀ y,((arrOf st).extract (sa + na) (sa + na + nd))[0]?=some y→∀ x∈((arrOf st).extract (sa + k) (sa + na)).toList,ϕ y≤ϕ x:=fun y hy x hx=>by
  rw [Array.getElem?_extract,if_pos (by omega),Nat.add_zero,hy0] at hy
  rw [← Option.some.inj hy]
  rw [ex1] at hx
  exact l2' x hx
 have q1:∀ x,((arrOf st).extract (sa + k) (sa + na))[((arrOf st).extract (sa + k) (sa + na)).size - 1]?=some x→∀ y∈((arrOf st).extract (sa + na) (sa + na + nd)).toList,ϕ y≤ϕ x:=fun x hx y hy=>by
  rw [sz1 trivial,Array.getElem?_extract,if_pos (by omega),show sa + k + (na - k - 1)=sa + na - 1 by omega,hxl] at hx
  rw [← Option.some.inj hx]
  rw [ex2] at hy
  exact m1 y hy
 have last:∀ (r:Array Keyed) (st':SortSt) (s':Shared),Sim st1 st'→G s'→Ok ϕ ((arrOf st).extract (sa + k) (sa + na)) ((arrOf st).extract (sa + na) (sa + na + nd)) r→kasC (model prog w) A E (do
   modify fun z=>setArr z (r.toList.zipIdx.foldl (fun a (p,j)=>a.setIfInBounds (sa + k + j) p) (arrOf z))
   return (failedOf (← get)).isNone) Q st' s':=by
  intro r st' s' S' g' O
  refine kasC_bind (kasC_modify (kasC_bind (kasC_get (kasC_pure ?_))))
  have fz:failedOf st'=none:=S'.2.2.2.trans fa1
  show Q (failedOf st').isNone _ _
  rw [fz]
  have az:arrOf st'=arrOf st:=S'.2.1.trans ar1
  obtain ⟨O1,O2⟩:=O
  have lr:True→r.toList.length=na - k + nd:=fun _=>by
   rw [O2.length_eq,List.length_append,Array.length_toList,Array.length_toList,sz1 trivial,sz2 trivial]
  have pu:=ZdR r.toList (arrOf st) (sa + k) 0 (by rw [lr trivial]; omega)
  rw [Nat.add_zero,lr trivial,show sa + k + (na - k + nd)=sa + na + nd by omega] at pu
  have lr':k + r.toList.length=na + nd:=by rw [lr trivial]; omega
  rw [ex1,ex2] at O2
  obtain ⟨P,hP⟩:∃ z,(arrOf st).toList.take sa=z:=⟨_,rfl⟩
  obtain ⟨A1,hA1⟩:∃ z,((arrOf st).toList.drop sa).take k=z:=⟨_,rfl⟩
  rw [hA1] at l1'
  obtain ⟨A2,hA2⟩:∃ z,((arrOf st).toList.drop (sa + k)).take (na - k)=z:=⟨_,rfl⟩
  rw [hA2] at O2
  obtain ⟨B1,hB1⟩:∃ z,((arrOf st).toList.drop (sa + na)).take nd=z:=⟨_,rfl⟩
  rw [hB1] at O2
  obtain ⟨B2,hB2⟩:∃ z,((arrOf st).toList.drop (sa + na + nd)).take (nb - nd)=z:=⟨_,rfl⟩
  rw [hB2] at m2
  obtain ⟨S,hS⟩:∃ z,(arrOf st).toList.drop (sa + na + nb)=z:=⟨_,rfl⟩
  have hA:((arrOf st).toList.drop sa).take na=A1 ++ A2:=by rw [← hA1,← hA2,← cutL,show k + (na - k)=na by omega]
  have hB:((arrOf st).toList.drop (sa + na)).take nb=B1 ++ B2:=by rw [← hB1,← hB2,← cutL,show nd + (nb - nd)=nb by omega]
  have hD:(arrOf st).toList.drop (sa + na + nd)=B2 ++ S:=by
   rw [← hB2,← hS,show sa + na + nb=sa + na + nd + (nb - nd) by omega]
   exact JC _ _ _
  have hT:(arrOf st).toList.take (sa + k)=P ++ A1:=by rw [← hP,← hA1,List.take_add]
  have hL:(arrOf st).toList=P ++ ((A1 ++ A2) ++ (B1 ++ B2)) ++ S:=by
   rw [← hA,← hB,← hP,← hS,← cutL,List.append_assoc,Nat.add_assoc,← JC,List.take_append_drop]
  rw [hT,hD] at pu
  have pL:P.length=sa:=by rw [← hP,List.length_take,lenL trivial]; omega
  have pA1:A1.length=k:=by rw [← hA1,XY (lenL trivial) (by omega)]
  have pA2:k + A2.length=na:=by rw [← hA2,XY (lenL trivial) (by omega)]; omega
  have pB1:B1.length=nd:=by rw [← hB1,XY (lenL trivial) (by omega)]
  have pB2:nd + B2.length=nb:=by rw [← hB2,XY (lenL trivial) (by omega)]; omega
  refine fin (r.toList.zipIdx.foldl (fun a (x:Keyed × Nat)=>a.setIfInBounds (sa + k + x.2) x.1) (arrOf st)) ?_ ?_ ?_ ?_ _ _ (S'.1.trans kd) fz (by rw [← az]) (S'.2.2.1.trans pe1) g'
  ·refine Array.perm_iff_toList_perm.mpr ?_
   have e9:(r.toList ++ (B2 ++ S)).Perm (A2 ++ B1 ++ (B2 ++ S)):=O2.append_right _
   rw [pu,hL]
   have f1:P ++ A1 ++ r.toList ++ (B2 ++ S)=P ++ (A1 ++ (r.toList ++ (B2 ++ S))):=by simp only [List.append_assoc]
   have f2:P ++ (A1 ++ A2 ++ (B1 ++ B2)) ++ S=P ++ (A1 ++ (A2 ++ B1 ++ (B2 ++ S))):=by simp only [List.append_assoc]
   rw [f1,f2]
   exact (e9.append_left A1).append_left P
  ·intro j hj
   refine Ys ?_
   rw [← Array.getElem?_toList,← Array.getElem?_toList,pu,hL]
   simp only [List.append_assoc]
   rw [List.getElem?_append_left (by omega),List.getElem?_append_left (by omega)]
  ·intro j hj
   refine Ys ?_
   rw [← Array.getElem?_toList,← Array.getElem?_toList,pu,hL]
   have e1:P ++ A1 ++ r.toList ++ (B2 ++ S)=(P ++ A1 ++ r.toList ++ B2) ++ S:=by simp only [List.append_assoc]
   rw [e1,List.getElem?_append_right (by simp only [List.length_append]; omega),List.getElem?_append_right (by simp only [List.length_append]; omega)]
   congr 1
   simp only [List.length_append]
   omega
  ·have uu:Up ϕ (A1 ++ r.toList ++ B2):=by
    rw [hA] at sA
    rw [hB] at sB
    obtain ⟨t1,t2,t3⟩:=List.pairwise_append.mp sA
    obtain ⟨t4,t5,t6⟩:=List.pairwise_append.mp sB
    have m2':∀ u∈B2,ϕ xl≤ϕ u:=m2
    rw [hA] at upA
    rw [hB] at upB
    have mm:∀ u∈r.toList,u∈A2∨u∈B1:=fun u hu=>List.mem_append.mp (O2.mem_iff.mp hu)
    refine List.pairwise_append.mpr ⟨List.pairwise_append.mpr ⟨t1,O1,fun u hu v hv=>?_⟩,t5,fun u hu v hv=>?_⟩
    ·rcases mm v hv with z | z
     ·exact t3 u hu v z
     ·exact Nat.le_trans (l1' u hu) (upB v (List.mem_append_left _ z))
    ·rcases List.mem_append.mp hu with z | z
     ·exact Nat.le_trans (upA u (List.mem_append_left _ z)) (m2' v hv)
     ·rcases mm u z with z' | z'
      ·exact Nat.le_trans (upA u (List.mem_append_right _ z')) (m2' v hv)
      ·exact t6 u z' v hv
   have:=Zj4 (ϕ:=ϕ) (P:=P) (S:=S) (a:=r.toList.zipIdx.foldl (fun a (x:Keyed × Nat)=>a.setIfInBounds (sa + k + x.2) x.1) (arrOf st)) (by rw [pu]; simp only [List.append_assoc]) uu
   rw [pL,show (A1 ++ r.toList ++ B2).length=na + nb by simp only [List.length_append]; omega] at this
   exact this
 by_cases c3:na - k≤nd
 ·rw [if_pos c3]
  exact kasC_bind (Znc R kd (al' _ _) (al' _ _) u1 u2 (by rw [sz1 trivial]; omega) (by rw [sz2 trivial]; omega) q0 q1 g2 last)
 ·rw [if_neg c3]
  exact kasC_bind (Znd R kd (al' _ _) (al' _ _) u1 u2 (by rw [sz1 trivial]; omega) (by rw [sz2 trivial]; omega) q0 q1 g2 last)
end
end Tim
namespace Tim
open PySem PySem.W PyProof.Rows
section
variable {prog:Program} {w:World} {A:Around} {E:Value→Shared→Prop} {κ:SortKind} {ϕ:Keyed→Nat} {U:Keyed→Prop} {G:Shared→Prop}
theorem Jn.kp {a₀:Array Keyed} {q:Nat} {l:List (Nat × Nat × Nat)} {st st':SortSt} (J:Jn κ ϕ a₀ q l st) (K:Kp q st st'):Jn κ ϕ a₀ q l st' :=
 ⟨K.kind.trans J.kind,K.fail.trans J.fail,K.perm.trans J.perm,by rw [K.pend]; exact J.pend,J.runs.congr fun i _ h=>Ys (K.low i h)⟩
theorem Jn.mod {a₀:Array Keyed} {q k:Nat} {l:List (Nat × Nat × Nat)} {st:SortSt} {f:Nat × Nat × Nat→Nat × Nat × Nat} (J:Jn κ ϕ a₀ q l st) (hf:∀ x,(f x).1=x.1∧(f x).2.1=x.2.1):Jn κ ϕ a₀ q (l.modify k f) (setPending st ((pendingOf st).modify k f)) :=
 ⟨J.kind,J.fail,J.perm,by show ((pendingOf st).modify _ _).toList=_; rw [Array.toList_modify,J.pend],Runs.mod hf _ J.runs⟩
theorem Znf (c:Prop) [Decidable c] (n:Nat):(if c then n - 1 else n)≤n:=by split <;> omega
theorem ZkX {α β:Type} {code:β→StateT SortSt Sem α} {T:StateT SortSt Sem α} {Q:α→SortSt→Shared→Prop} {st:SortSt} {s:Shared} (P:β→SortSt→Shared→Prop)
  (main:(∀ x st s,P x st s→kasC (model prog w) A E (code x) Q st s)→kasC (model prog w) A E T Q st s) (tail:∀ x st s,P x st s→kasC (model prog w) A E (code x) Q st s):kasC (model prog w) A E T Q st s:=main tail
theorem ZkY (R:JE prog w A κ ϕ U G) {a₀:Array Keyed} {Q:Unit→SortSt→Shared→Prop} {st:SortSt} {s:Shared} (ha:Al U a₀) (hk:kindOf st=κ) (hf:failedOf st=none) (hp:pendingOf st = #[]) (har:arrOf st=a₀) (h2:1≤a₀.size) (g:G s)
  (h:∀ st' s',failedOf st'=none→(arrOf st').Perm a₀→Up ϕ (arrOf st').toList→G s'→Q () st' s'):kasC (model prog w) A E sortRuns' Q st s:=by
 rw [sortRuns'_eq]
 refine kasC_bind (kasC_get ?_)
 rw [har]
 dsimp only
 have J0:Jn κ ϕ a₀ 0 [] st:=⟨hk,hf,by rw [har],by rw [hp],rfl⟩
 refine kasC_bind (ZU (Q:=fun c st' s'=>∃ l,c=(none,a₀.size)∧Jn κ ϕ a₀ a₀.size l st'∧G s') (Z7 (fun t c st' s'=>∃ lo l,c=(none,lo)∧t≤lo∧lo≤a₀.size∧Jn κ ϕ a₀ lo l st'∧G s')
  ⟨0,[],rfl,by omega,by omega,J0,g⟩ ?_ ?_) ?_)
 ·rintro t c st1 s1 ht ⟨lo,l,rfl,b1,b2,J1,g1⟩
  dsimp only
  by_cases c1:lo ≥ a₀.size
  ·rw [if_pos c1]
   have:lo=a₀.size:=by omega
   subst this
   exact kasC_pure ⟨l,rfl,J1,g1⟩
  rw [if_neg c1]
  have sz:(arrOf st1).size=a₀.size:=J1.perm.size_eq
  refine kasC_bind (Ziz R J1.kind (ha.perm J1.perm) (by omega) (by omega) g1 fun n st2 s2 n1 n2 K2 u2 g2=>?_)
  dsimp only
  apply ZkX (P:=fun n3 st3 s3=>(1≤n3∧lo + n3≤a₀.size)∧Kp lo st1 st3∧UpTo ϕ (arrOf st3) lo (lo + n3)∧G s3)
  ·intro tail
   by_cases cn:n < minRun' a₀.size a₀.size 0
   rotate_left
   ·rw [if_neg cn]
    have hP:(fun n3 st3 s3=>(1≤n3∧lo + n3≤a₀.size)∧Kp lo st1 st3∧UpTo ϕ (arrOf st3) lo (lo + n3)∧G s3) n st2 s2:=⟨by omega,K2,u2,g2⟩
    revert hP
    generalize n=n'
    exact fun hP=>tail n' st2 s2 hP
   ·rw [if_pos cn]
    refine kasC_bind (X5 ?_)
    refine kasC_bind (Zmn R J1.kind (ha.perm J1.perm) (by omega) (by omega) K2 u2 g2 fun st3 s3 K3 u3 g3=>?_)
    rw [if_neg (by decide)]
    exact tail _ st3 s3 ⟨by omega,K3,u3,g3⟩
  clear n1 n2 K2 u2 g2
  rintro n3 st3 s3 ⟨hn3,K3,u3,g3⟩
  refine kasC_bind (kasC_get ?_)
  have J3:=J1.kp K3
  have done:∀ (l':List (Nat × Nat × Nat)) (st4:SortSt) (s4:Shared),Jn κ ϕ a₀ lo l' st4→UpTo ϕ (arrOf st4) lo (lo + n3)→G s4→∃ lo' l,((none:Option Unit),lo + n3)=(none,lo')∧t + 1≤lo'∧lo'≤a₀.size∧Jn κ ϕ a₀ lo' l (setPending st4 ((pendingOf st4).push (lo,n3,0)))∧G s4:=fun l' st4 s4 J4 u4 g4 =>
   ⟨lo + n3,l' ++ [(lo,n3,0)],rfl,by omega,by omega,⟨J4.kind,J4.fail,J4.perm,by show ((pendingOf st4).push (lo,n3,0)).toList=_; rw [Array.toList_push,J4.pend],J4.runs.join ⟨rfl,hn3.1,u4,rfl⟩⟩,g4⟩
  split
  ·refine kasC_bind (ZU (Q:=fun c st' s'=>c=(none,())∧∃ l',Jn κ ϕ a₀ lo l' st'∧UpTo ϕ (arrOf st') lo (lo + n3)∧G s') (Z7 (fun _ c st' s'=>c=(none,())∧∃ l',Jn κ ϕ a₀ lo l' st'∧UpTo ϕ (arrOf st') lo (lo + n3)∧G s') ⟨rfl,l,J3,u3,g3⟩ ?_ ?_) ?_)
   ·rintro _ c st4 s4 _ ⟨rfl,l',J4,u4,g4⟩
    refine kasC_bind (kasC_get ?_)
    split
    ·rename_i hh
     by_cases cp:(pendingOf st4).size > 1
     ·split
      ·exact kasC_pure ⟨rfl,l',J4,u4,g4⟩
      ·refine kasC_bind (ZgR R ha J4 b2 (by rw [← J4.pend,Array.length_toList]; omega) g4 fun l5 st5 s5 hl5 J5 e5 g5=>?_)
       rw [if_neg (by decide)]
       exact kasC_pure ⟨rfl,l5,J5,fun i j a1 a2 a3=>(by rw [e5 i a1,e5 j (by omega)]; exact u4 i j a1 a2 a3),g5⟩
     ·rw [if_neg cp] at hh
      cases hh
    ·exact kasC_pure ⟨rfl,l',J4,u4,g4⟩
   ·rintro c st4 s4 hh
    exact hh
   ·rintro c st4 s4 ⟨rfl,l',J4,u4,g4⟩
    dsimp only
    exact kasC_bind (kasC_modify (kasC_bind (kasC_modify (kasC_pure (done _ _ _ (J4.mod fun x=>⟨rfl,rfl⟩) u4 g4)))))
  ·exact kasC_bind (kasC_modify (kasC_pure (done l _ _ J3 u3 g3)))
 ·rintro c st1 s1 ⟨lo,l,rfl,b1,b2,J1,g1⟩
  have:lo=a₀.size:=by omega
  subst this
  exact ⟨l,rfl,J1,g1⟩
 ·rintro c st1 s1 ⟨l,rfl,J1,g1⟩
  dsimp only
  refine kasC_bind (ZU (Q:=fun c st' s'=>c=(none,())∧∃ l,l.length≤1∧Jn κ ϕ a₀ a₀.size l st'∧G s') (Z7 (fun t c st' s'=>c=(none,())∧∃ l,(l.length≤1∨l.length + t≤a₀.size)∧Jn κ ϕ a₀ a₀.size l st'∧G s') ⟨rfl,l,?_,J1,g1⟩ ?_ ?_) ?_)
  ·have:=J1.runs.le
   omega
  ·rintro t c st4 s4 ht ⟨rfl,l',hl',J4,g4⟩
   refine kasC_bind (kasC_get ?_)
   have hsz:(pendingOf st4).size=l'.length:=by rw [← J4.pend,Array.length_toList]
   by_cases cp:(pendingOf st4).size≤1
   ·rw [if_pos cp]
    exact kasC_pure ⟨rfl,l',by omega,J4,g4⟩
   ·rw [if_neg cp]
    refine kasC_bind (ZgR R ha J4 (Nat.le_refl _) ?_ g4 fun l5 st5 s5 hl5 J5 e5 g5=>?_)
    ·exact Nat.lt_of_le_of_lt (Nat.succ_le_succ (Znf _ _)) (by omega)
    ·rw [if_neg (by decide)]
     exact kasC_pure ⟨rfl,l5,by omega,J5,g5⟩
  ·rintro c st4 s4 ⟨rfl,l',hl',J4,g4⟩
   have:=J4.runs.le
   exact ⟨rfl,l',by omega,J4,g4⟩
  ·rintro c st4 s4 ⟨rfl,l',hl',J4,g4⟩
   refine kasC_pure (h st4 s4 J4.fail J4.perm ?_ g4)
   have r4:=J4.runs
   have sz:(arrOf st4).size=a₀.size:=J4.perm.size_eq
   match l',hl',r4 with
   | [],_,r4 =>
    have:0=a₀.size:=r4
    omega
   | [x],_,r4 =>
    obtain ⟨q1,q2,q3,q4⟩:=r4
    have q4:0 + x.2.1=a₀.size:=q4
    have:=Zl1 (ϕ:=ϕ) (a:=arrOf st4) (p:=0) (n:=x.2.1) q3 (by omega)
    rw [List.drop_zero,List.take_of_length_le (by rw [Array.length_toList]; omega)] at this
    exact this
   | x :: y :: l',hl',_=>simp at hl'
end
end Tim
namespace Tim
open PySem PySem.W PyProof.Rows
structure WO (n:Nat) (lt:Nat→Nat→Bool):Prop where
 irr:∀ i,i < n→lt i i=false
 tr:∀ i j k,i < n→j < n→k < n→lt i j=true→lt j k=true→lt i k=true
 ntr:∀ i j k,i < n→j < n→k < n→lt k j=true→lt k i=true∨lt i j=true
def rk (n:Nat) (lt:Nat→Nat→Bool) (i:Nat):Nat:=((List.range n).filter fun k=>lt k i).length
theorem YD {α:Type} {p q:α→Bool}:∀ (l:List α),(∀ x∈l,p x=true→q x=true)→(l.filter p).length≤(l.filter q).length
 | [],_=>Nat.le_refl _
 | x :: l,h=>by
  have ih:=YD l fun y hy=>h y (List.mem_cons_of_mem _ hy)
  rw [List.filter_cons,List.filter_cons]
  by_cases c:p x=true
  ·rw [if_pos c,if_pos (h x (List.mem_cons_self ..) c)]
   simpa using ih
  ·rw [if_neg c]
   split
   ·simp only [List.length_cons]
    omega
   ·exact ih
theorem XG {α:Type} {p q:α→Bool}:∀ (l:List α),(∀ x∈l,p x=true→q x=true)→(∃ x∈l,p x=false∧q x=true)→(l.filter p).length < (l.filter q).length
 | [],_,⟨x,hx,_⟩=>nomatch hx
 | x :: l,h,⟨y,hy,e1,e2⟩=>by
  have le:=YD l fun z hz=>h z (List.mem_cons_of_mem _ hz)
  rw [List.filter_cons,List.filter_cons]
  rcases List.mem_cons.mp hy with z | z
  ·subst z
   rw [if_neg (by rw [e1]; decide),if_pos e2]
   simp only [List.length_cons]
   omega
  ·have ih:=XG l (fun z hz=>h z (List.mem_cons_of_mem _ hz)) ⟨y,z,e1,e2⟩
   by_cases c:p x=true
   ·rw [if_pos c,if_pos (h x (List.mem_cons_self ..) c)]
    simpa using ih
   ·rw [if_neg c]
    split
    ·simp only [List.length_cons]
     omega
    ·exact ih
theorem WO.rk_lt {n:Nat} {lt:Nat→Nat→Bool} (o:WO n lt) {i j:Nat} (hi:i < n) (hj:j < n):decide (rk n lt i < rk n lt j)=lt i j:=by
 cases c:lt i j with
 | true =>
  refine decide_eq_true (XG _ (fun k hk h=>o.tr k i j (List.mem_range.mp hk) hi hj h c) ⟨i,List.mem_range.mpr hi,o.irr i hi,c⟩)
 | false =>
  refine decide_eq_false (Nat.not_lt.mpr (YD _ fun k hk h=>?_))
  rcases o.ntr i j k hi hj (List.mem_range.mp hk) h with z | z
  ·exact z
  ·rw [c] at z
   cases z
theorem Zh8 {α β:Type} {f:α→β}:∀ {l:List β} {m:List β},l.Perm m→∀ q:List α,m=q.map f→∃ q':List α,q'.Perm q∧l=q'.map f:=by
 intro l m h
 induction h with
 | nil =>
  intro q e
  exact ⟨q,List.Perm.refl _,e⟩
 | cons x _ ih =>
  intro q e
  match q,e with
  | y :: q,e =>
   rw [List.map_cons] at e
   injection e with e1 e2
   obtain ⟨q',h1,h2⟩:=ih q e2
   exact ⟨y :: q',h1.cons y,by rw [List.map_cons,h2,e1]⟩
 | swap x y l =>
  intro q e
  match q,e with
  | a :: b :: q,e =>
   simp only [List.map_cons] at e
   injection e with e1 e2
   injection e2 with e2 e3
   exact ⟨b :: a :: q,List.Perm.swap ..,by simp only [List.map_cons]; rw [e1,e2,e3]⟩
 | trans _ _ ih1 ih2 =>
  intro q e
  obtain ⟨q2,h1,h2⟩:=ih2 q e
  obtain ⟨q3,h3,h4⟩:=ih1 q2 h2
  exact ⟨q3,h3.trans h1,h4⟩
section
variable {prog:Program} {w:World} {A:Around} {E:Value→Shared→Prop} {s:Shared}
open Classical in
noncomputable def phi (vs:List Value) (lt:Nat→Nat→Bool) (x:Keyed):Nat:=if h:∃ i,vs[i]?=some x.1 then rk vs.length lt (Classical.choose h) else 0
theorem list_sortW {a:Addr} {vs:List Value} {lt:Nat→Nat→Bool} {κ:SortKind} {n:Nat} {P:PySem.Fin→Shared→Prop} (ho:s.heap.get? a=some (seqObj "list" vs.toArray n)) (hz:vs.length≤sizeLine) (o:WO vs.length lt)
  (same:∀ i j,i < vs.length→vs[i]?=vs[j]?→∀ k,lt k i=lt k j)
  (kd:∀ (h6:Heap) (Q:SortKind→Shared→Prop),(∀ b o,b≠a→s.heap.get? b=some o→h6.get? b=some o)→2≤vs.length→Q κ { s with heap:=h6 }→wpAny (model prog w) A (keyKind' vs.toArray) Q E { s with heap:=h6 })
  (ask:∀ (h6:Heap) (tk i j:Nat) (x y:Value) (C:Bool→Shared→Prop),(∀ b o,b≠a→s.heap.get? b=some o→h6.get? b=some o)→vs[i]?=some x→vs[j]?=some y→(∀ tk,C (lt i j) { s with heap:=h6,toks:=tk })→wpAny (model prog w) A (keyLt' κ x y) C (fun _ _=>False) { s with heap:=h6,toks:=tk })
  (h:∀ (h1:Heap) (tk c:Nat) (p:Array Nat),Srt.Pm vs.length p→(∀ i j,i < j→j < vs.length→lt (p.getD j 0) (p.getD i 0)=false)→(∀ b o,b≠a→s.heap.get? b=some o→h1.get? b=some o) →
   h1.get? a=some (seqObj "list" (p.toList.map fun i=>vs.getD i Value.none).toArray c)→P (.done (.ret .none)) { s with heap:=h1,toks:=tk }) :
  wpAny (model prog w) A (Builtin.«list.sort» ⟨[.ref a],[]⟩) P E s:=by
 have ha:a < s.heap.objs.size:=Heap.lt_size ho
 rw [list_sort_plain]
 refine wpAny_bind (listItems_at ho rfl (wpAny_bind (listUpdate_at ho rfl ?_ (by rw [List.size_toArray]; exact hz) (Nat.zero_le _))))
 obtain ⟨e1,ho1⟩:∃ e1,(s.heap.update a (Obj.mapSeq fun _=>(#[]:Array Value))).get? a=some (seqObj "list" #[] e1):=⟨_,get?_update_seq ho fun _=>#[]⟩
 have k1:∀ b o,b≠a→s.heap.get? b=some o→(s.heap.update a (Obj.mapSeq fun _=>(#[]:Array Value))).get? b=some o:=fun b o hb q=>(Heap.get?_update_other _ _ (Ne.symm hb)).trans q
 refine wpAny_bind (seqEpoch_at ho1 rfl (wpAny_bind (wpAny_newTuple ?_ (by show vs.length≤_; exact hz))))
 refine wpAny_bind (wpAny_newList ?_ (Nat.zero_le _))
 refine wpAny_holding ?_
 generalize hg:((s.heap.update a (Obj.mapSeq fun _=>(#[]:Array Value))).push { cls:=.type "tuple",data:=.seq vs.toArray.toList.toArray }).push { cls:=.type "list",data:=.seq ([]:List Value).toArray }=h6
 have k6:∀ b o,b≠a→s.heap.get? b=some o→h6.get? b=some o:=fun b o hb q=>by
  rw [← hg]
  exact Heap.get?_push_of_some _ (Heap.get?_push_of_some _ (k1 b o hb q))
 have ho6:h6.get? a=some (seqObj "list" #[] e1):=by
  rw [← hg]
  exact Heap.get?_push_of_some _ (Heap.get?_push_of_some _ ho1)
 show wpAny (model prog w) A _ P E { s with heap:=h6 }
 dsimp only
 have fin:∀ (tk:Nat) (p:Array Nat) (out:Array Value),Srt.Pm vs.length p→(∀ i j,i < j→j < vs.length→lt (p.getD j 0) (p.getD i 0)=false)→out=(p.toList.map fun i=>vs.getD i Value.none).toArray →
   ∃ c,(h6.update a (Obj.mapSeq fun _=>out)).get? a=some (seqObj "list" out c)∧out.size≤sizeLine∧P (.done (.ret .none)) { s with heap:=h6.update a (Obj.mapSeq fun _=>out),toks:=tk }:=fun tk p out hp hu ho'=>by
  have hc:=get?_update_seq ho6 fun _=>out
  refine ⟨_,hc,?_,h _ tk _ p hp hu (fun b o hb q=>(Heap.get?_update_other _ _ (Ne.symm hb)).trans (k6 b o hb q)) (by rw [← ho']; exact hc)⟩
  rw [ho',List.size_toArray,List.length_map,Array.length_toList,hp.size]
  exact hz
 have hr:vs=(List.range vs.length).map fun i=>vs.getD i Value.none:=by
  apply List.ext_getElem?
  intro i
  simp only [List.getElem?_map]
  by_cases hi:i < vs.length
  ·rw [List.getElem?_eq_getElem hi,List.getElem?_range hi,Option.map_some,List.getD_eq_getElem?_getD,List.getElem?_eq_getElem hi]
   rfl
  ·rw [List.getElem?_eq_none (by omega),List.getElem?_eq_none (by simp; omega)]
   rfl
 by_cases h2:vs.toArray.size < 2
 ·rw [if_pos h2,if_pos h2]
  rw [List.size_toArray] at h2
  obtain ⟨c,f1,f2,f3⟩:=fin s.toks (List.range vs.length).toArray vs.toArray ⟨by simp,Array.Perm.refl _⟩ (fun a b hab hb=>by omega) (congrArg List.toArray hr)
  refine wpAny_bind (wpAny_pure ?_)
  rw [StateT.run_pure]
  refine wpAny_bind (wpAny_pure ?_)
  have eo:(arrOf (SortSt.mk' general' (vs.toArray.zip vs.toArray) #[] 7 none)).map (·.2)=vs.toArray:=by
   show (vs.toArray.zip vs.toArray).map (·.2)=vs.toArray
   apply Array.toList_inj.mp
   simp
   exact List.map_snd_zip (Nat.le_refl _)
  dsimp only
  rw [eo]
  refine wpAny_bind (seqEpoch_at ho6 rfl (wpAny_bind (listUpdate_at ho6 rfl ?_ (Nat.zero_le _) (Nat.le_succ_of_le f2))))
  simp only [bne_self_eq_false,Bool.false_eq_true,if_false]
  exact wpAny_pure f3
 ·rw [if_neg h2,if_neg h2]
  rw [List.size_toArray] at h2
  have zl:(vs.toArray.zip vs.toArray).toList=(List.range vs.length).map fun i=>((vs.getD i Value.none,vs.getD i Value.none):Keyed):=by
   rw [Array.toList_zip]
   show vs.zip vs=_
   apply List.ext_getElem?
   intro i
   simp only [List.getElem?_map]
   by_cases hi:i < vs.length
   ·rw [List.getElem?_range hi,Option.map_some,(List.getElem?_zip_eq_some (z:=(vs[i],vs[i]))).mpr ⟨List.getElem?_eq_getElem hi,List.getElem?_eq_getElem hi⟩,List.getD_eq_getElem?_getD,List.getElem?_eq_getElem hi]
    rfl
   ·rw [List.getElem?_eq_none (by simp; omega),List.getElem?_eq_none (by simp; omega)]
    rfl
  have zsz:(vs.toArray.zip vs.toArray).size=vs.length:=by rw [← Array.length_toList,zl,List.length_map,List.length_range]
  have ph:∀ (i:Nat) (x:Keyed),i < vs.length→x.1=vs.getD i Value.none→phi vs lt x=rk vs.length lt i:=fun i x hi e=>by
   have hx:∃ i,vs[i]?=some x.1:=⟨i,by rw [e,List.getD_eq_getElem?_getD,List.getElem?_eq_getElem hi]; rfl⟩
   unfold phi
   rw [dif_pos hx]
   have hc:=Classical.choose_spec hx
   generalize Classical.choose hx=j at *
   have hj:j < vs.length:=(List.getElem?_eq_some_iff.mp hc).1
   have ee:vs[j]?=vs[i]?:=by rw [hc,e,List.getD_eq_getElem?_getD,List.getElem?_eq_getElem hi]; rfl
   unfold rk
   congr 1
   refine List.filter_congr fun k hk=>?_
   exact same j i hj ee k
  refine wpAny_bind (kd h6 _ k6 (by omega) ?_)
  have R:JE prog w A κ (phi vs lt) (fun x=>∃ i,i < vs.length∧x.1=vs.getD i Value.none) (fun s'=>∃ tk,s'={ s with heap:=h6,toks:=tk }):=⟨fun x y C s' ⟨i,hi,ei⟩ ⟨j,hj,ej⟩ ⟨tk,g⟩ k=>by
   subst g
   refine ask h6 tk i j x.1 y.1 C k6 (by rw [ei,List.getD_eq_getElem?_getD,List.getElem?_eq_getElem hi]; rfl) (by rw [ej,List.getD_eq_getElem?_getD,List.getElem?_eq_getElem hj]; rfl) fun tk'=>?_
   rw [← o.rk_lt hi hj,← ph i x hi ei,← ph j y hj ej]
   exact k _ ⟨tk',rfl⟩⟩
  refine wpAny_bind (wpAny_mono (show kasC (model prog w) A E sortRuns' (fun _ st' s'=>failedOf st'=none∧(arrOf st').Perm (vs.toArray.zip vs.toArray)∧Up (phi vs lt) (arrOf st').toList∧∃ tk,s'={ s with heap:=h6,toks:=tk }) (SortSt.mk' κ (vs.toArray.zip vs.toArray) #[] 7 none) { s with heap:=h6 } from
   ZkY R (a₀:=vs.toArray.zip vs.toArray) (fun i x e=>?_) rfl rfl rfl rfl (by omega) ⟨s.toks,rfl⟩ fun st' s' a1 a2 a3 a4=>⟨a1,a2,a3,a4⟩) ?_ fun _ _ e=>e)
  ·have hi:i < vs.length:=by
    have:=(Array.getElem?_eq_some_iff.mp e).1
    omega
   rw [← Array.getElem?_toList,zl,List.getElem?_map,List.getElem?_range hi] at e
   cases e
   exact ⟨i,hi,rfl⟩
  ·rintro ⟨⟨⟩,st'⟩ s' ⟨hf',hpm,hup,tk,rfl⟩
   obtain ⟨q,hq1,hq2⟩:=Zh8 (Array.perm_iff_toList_perm.mp hpm) _ zl
   have hqs:q.toArray.size=vs.length:=by rw [List.size_toArray,hq1.length_eq,List.length_range]
   have hout:(arrOf st').map (·.2)=(q.toArray.toList.map fun i=>vs.getD i Value.none).toArray:=by
    apply Array.toList_inj.mp
    rw [Array.toList_map,hq2,List.map_map]
    rfl
   have up':∀ i j,i < j→j < vs.length→lt (q.toArray.getD j 0) (q.toArray.getD i 0)=false:=fun i j hij hj=>by
    rw [List.size_toArray] at hqs
    have gi:∀ k (hk:k < q.length),q.toArray.getD k 0=q[k]∧q[k] < vs.length:=fun k hk=>⟨by rw [Array.getD_eq_getD_getElem?,List.getElem?_toArray,List.getElem?_eq_getElem hk]; rfl,List.mem_range.mp (hq1.mem_iff.mp (List.getElem_mem hk))⟩
    obtain ⟨ei,bi⟩:=gi i (by omega)
    obtain ⟨ej,bj⟩:=gi j (by omega)
    rw [ei,ej,← o.rk_lt bj bi]
    refine decide_eq_false (Nat.not_lt.mpr ?_)
    rw [hq2] at hup
    have:=List.pairwise_iff_getElem.mp (List.pairwise_map.mp hup) i j (by omega) (by omega) hij
    rw [ph _ _ bi rfl,ph _ _ bj rfl] at this
    exact this
   obtain ⟨c,f1,f2,f3⟩:=fin tk q.toArray _ ⟨hqs,Array.perm_iff_toList_perm.mpr (by simpa using hq1)⟩ up' hout
   dsimp only
   refine wpAny_bind (seqEpoch_at (s:={ s with heap:=h6,toks:=tk }) ho6 rfl (wpAny_bind (listUpdate_at (s:={ s with heap:=h6,toks:=tk }) ho6 rfl ?_ (Nat.zero_le _) (Nat.le_succ_of_le f2))))
   rw [hf']
   simp only [bne_self_eq_false,Bool.false_eq_true,if_false]
   exact wpAny_pure f3
end
end Tim
namespace Tim
open PySem PySem.W PyProof.Rows
structure SortAs (prog:Program) (w:World) (h1:Heap) (vs:List Value) (lt:Nat→Nat→Bool) (κ:SortKind):Prop where
 wo:WO vs.length lt
 same:∀ i j,i < vs.length→vs[i]?=vs[j]?→∀ k,lt k i=lt k j
 kd:∀ (A:Around) (E:Value→Shared→Prop) (s:Shared) (Q:SortKind→Shared→Prop),(∀ b o,h1.get? b=some o→s.heap.get? b=some o)→2≤vs.length→Q κ s→wpAny (model prog w) A (keyKind' vs.toArray) Q E s
 ask:∀ (A:Around) (s:Shared) (i j:Nat) (x y:Value) (C:Bool→Shared→Prop),(∀ b o,h1.get? b=some o→s.heap.get? b=some o)→vs[i]?=some x→vs[j]?=some y→(∀ tk,C (lt i j) { s with toks:=tk })→wpAny (model prog w) A (keyLt' κ x y) C (fun _ _=>False) s
section
variable {prog:Program} {w:World} {A:Around} {E:Value→Shared→Prop} {s:Shared}
theorem sorted_all {r:Addr} {Q:Value→Shared→Prop} {Pc:Heap→List Value→Prop} {lt:Nat→Nat→Bool} {κ:SortKind}
  (col:∀ (R:List Value→Shared→Prop),(∀ h1 tk vs,(∀ b o,s.heap.get? b=some o→h1.get? b=some o)→Pc h1 vs→R vs { s with heap:=h1,toks:=tk })→wpAny (model prog w) A.in1 (collect (.ref r)) R E s)
  (ord:∀ h1 vs,(∀ b o,s.heap.get? b=some o→h1.get? b=some o)→Pc h1 vs→vs.length≤sizeLine∧SortAs prog w h1 vs lt κ)
  (fin:∀ h1 vs h3 tk c p,Pc h1 vs→(∀ b o,s.heap.get? b=some o→h3.get? b=some o)→(∀ b o,h1.get? b=some o→h3.get? b=some o)→(∀ b o,s.heap.get? b=some o→h1.get? b=some o)→Srt.Pm vs.length p→(∀ i j,i < j→j < vs.length→lt (p.getD j 0) (p.getD i 0)=false) →
   h3.get? h1.objs.size=some (seqObj "list" (p.toList.map fun i=>vs.getD i Value.none).toArray c)→s.heap.get? h1.objs.size=none→Q (.ref h1.objs.size) { s with heap:=h3,toks:=tk }) :
  wpAny (model prog w) A (call (.builtin "sorted") [.ref r]) Q E s:=by
 refine Calls.call_function_entry kind_sorted plain_sorted entry_sorted (args_sorted1 _) ?_
 unfold Builtin.«sorted»
 refine wpAny_bind (m:=checkCount "sorted" 1 1 _) (wpAny_pure ?_)
 refine wpAny_bind (col _ fun h1 tk vs hk hP=>?_)
 obtain ⟨hz,S⟩:=ord h1 vs hk hP
 refine wpAny_bind (wpAny_newList ?_ hz)
 have hB:(h1.push { cls:=.type "list",data:=.seq vs.toArray }).get? h1.objs.size=some (seqObj "list" vs.toArray 0):=Heap.get?_push_size _ rfl
 refine wpAny_bind (wpAny_holding (wpAny_call_entry slot_list_sort ⟨_,hB,rfl⟩ entry_list_sort ?body (args_list_sort _)))
 have k1:∀ {h6:Heap},(∀ b o,b≠h1.objs.size→(h1.push { cls:=.type "list",data:=.seq vs.toArray }).get? b=some o→h6.get? b=some o)→∀ b o,h1.get? b=some o→h6.get? b=some o:=fun k b o e=>k b o (Nat.ne_of_lt (Heap.lt_size e)) (Heap.get?_push_of_some _ e)
 refine list_sortW (s:={ s with heap:=h1.push { cls:=.type "list",data:=.seq vs.toArray },toks:=tk }) hB hz S.wo S.same (fun h6 Q k h2 q=>S.kd _ _ _ _ (k1 k) h2 q) (fun h6 tk' i j x y C k e1 e2 q=>S.ask _ _ i j x y C (k1 k) e1 e2 fun tk2=>q tk2)
  fun h3 tk3 c p hp hs hkeep hD=>⟨_,rfl,wpAny_pure ⟨_,rfl,?_⟩⟩
 refine fin h1 vs h3 tk3 c p hP (fun b o e=>k1 hkeep b o (hk b o e)) (k1 hkeep) hk hp hs hD ?_
 cases e:s.heap.get? h1.objs.size with
 | none=>rfl
 | some u=>exact absurd (Heap.lt_size (hk _ _ e)) (Nat.lt_irrefl _)
def ltS (xs:List Str) (i j:Nat):Bool:=decide ((xs.getD i "").cps.toList < (xs.getD j "").cps.toList)
theorem ltS_wo (xs:List Str) (n:Nat):WO n (ltS xs) where
 irr:=fun i _=>by
  unfold ltS
  exact decide_eq_false (List.lt_irrefl _)
 tr:=fun i j k _ _ _ h1 h2=>by
  unfold ltS at *
  rw [decide_eq_true_eq] at *
  exact List.lt_trans h1 h2
 ntr:=fun i j k _ _ _ h=>by
  unfold ltS at *
  rw [decide_eq_true_eq] at h
  rw [decide_eq_true_eq,decide_eq_true_eq]
  by_cases c:(xs.getD k "").cps.toList < (xs.getD i "").cps.toList
  ·exact .inl c
  ·exact .inr (List.lt_of_le_of_lt (List.not_lt.mp c) h)
theorem strs_at:∀ {vs:List Value} {xs:List Str},StrsAre vs xs→∀ (i:Nat) (v:Value),vs[i]?=some v→∃ t,v = .str (xs.getD i "") t∧xs[i]?=some (xs.getD i "")
 | _,_,.nil,i,v,h=>by simp at h
 | _,_,.cons y t r,0,v,h=>by
  simp at h
  exact ⟨t,by rw [← h]; rfl,rfl⟩
 | _,_,.cons y t r,i + 1,v,h=>by
  obtain ⟨t',e1,e2⟩:=strs_at r i v (by simpa using h)
  exact ⟨t',by rw [e1]; rfl,by simpa using e2⟩
theorem strs_len:∀ {vs:List Value} {xs:List Str},StrsAre vs xs→vs.length=xs.length
 | _,_,.nil=>rfl
 | _,_,.cons y t r=>by simp [strs_len r]
theorem sa_strs {h1:Heap} {vs:List Value} {xs:List Str} (hS:StrsAre vs xs):SortAs prog w h1 vs (ltS xs) oneType' where
 wo:=ltS_wo xs _
 same:=fun i j hi e k=>by
  have hj:vs[j]?=some vs[i]:=by rw [← e]; exact List.getElem?_eq_getElem hi
  obtain ⟨t1,e1,_⟩:=strs_at hS i _ (List.getElem?_eq_getElem hi)
  obtain ⟨t2,e2,_⟩:=strs_at hS j _ hj
  rw [e1] at e2
  injection e2 with e2 _
  unfold ltS
  rw [e2]
 kd:=fun A E s Q _ h2 q=>by
  match vs,hS,h2 with
  | v1 :: v2 :: vs,hS,_ =>
   rw [keyKind_strs hS]
   exact wpAny_pure q
 ask:=fun A s i j x y C _ e1 e2 q=>by
  obtain ⟨t1,rfl,_⟩:=strs_at hS i _ e1
  obtain ⟨t2,rfl,_⟩:=strs_at hS j _ e2
  exact kas_lt_str (q s.toks)
def PrI (h:Heap) (v:Value) (x:Str):Prop:=∃ a o n t y,v = .ref a∧h.get? a=some o∧o.cls = .type "tuple"∧o.data = .seq #[.str x t,y] n
theorem PrI.keep {h h':Heap} {v:Value} {x:Str} (p:PrI h v x) (k:∀ b o,h.get? b=some o→h'.get? b=some o):PrI h' v x:=by
 obtain ⟨a,o,n,t,y,e,e1,e2⟩:=p
 exact ⟨a,o,n,t,y,e,k a o e1,e2⟩
theorem ZgV {h:Heap}:∀ {vs:List Value} {xs:List Str},xs.length=vs.length→(∀ (i:Nat) (v:Value) (x:Str),vs[i]?=some v→xs[i]?=some x→PrI h v x)→∃ fs,KatTups h vs fs∧fs.length=vs.length∧∀ f∈fs,∃ x t,f = .str x t
 | [],[],_,_=>⟨[],trivial,rfl,fun f hf=>nomatch hf⟩
 | [],_ :: _,h,_=>by cases h
 | _ :: _,[],h,_=>by cases h
 | v :: vs,x :: xs,hl,hv=>by
  obtain ⟨a,o,n,t,y,rfl,ha,hc,hd⟩:=hv 0 v x rfl rfl
  obtain ⟨fs,k,l,q⟩:=ZgV (vs:=vs) (xs:=xs) (by simpa using hl) fun i v x e1 e2=>hv (i + 1) v x e1 e2
  refine ⟨.str x t :: fs,KatTups.cons ha hc hd rfl k,by simp [l],fun f hf=>?_⟩
  rcases List.mem_cons.mp hf with z | z
  ·exact ⟨x,t,z⟩
  ·exact q f z
theorem lt_ne {x y:Str} (h:¬ x.cps.toList < y.cps.toList) (h2:¬ x=y):y.cps.toList < x.cps.toList:=by
 by_cases c:y.cps.toList < x.cps.toList
 ·exact c
 ·have e:=List.le_antisymm (List.not_lt.mp c) (List.not_lt.mp h)
  exact absurd (by rw [← L2.tx_eta x,← L2.tx_eta y,e]) h2
theorem Zhh {v:Value} {Q:Bool→Shared→Prop} (h:Q true s):wpAny (model prog w) A (eqBool v v) Q E s:=by
 unfold eqBool
 refine wpAny_holding ?_
 rw [if_pos (by simp)]
 exact wpAny_bind (wpAny_rule (wpAny_pure h))
theorem sa_tups {h1:Heap} {vs:List Value} {xs:List Str} (hl:xs.length=vs.length) (nd:xs.Nodup) (hv:∀ (i:Nat) (v:Value) (x:Str),vs[i]?=some v→xs[i]?=some x→PrI h1 v x):SortAs prog w h1 vs (ltS xs) (tuples' ((Value.type "str") != Value.type "tuple")) where
 wo:=ltS_wo xs _
 same:=fun i j hi e k=>by
  have hj:vs[j]?=some vs[i]:=by rw [← e]; exact List.getElem?_eq_getElem hi
  have hj2:j < vs.length:=(List.getElem?_eq_some_iff.mp hj).1
  obtain ⟨a,o,n,t,y,e1,e2,e3,e4⟩:=hv i vs[i] xs[i] (List.getElem?_eq_getElem hi) (List.getElem?_eq_getElem (by omega))
  obtain ⟨a',o',n',t',y',e1',e2',e3',e4'⟩:=hv j vs[i] xs[j] hj (List.getElem?_eq_getElem (by omega))
  rw [e1] at e1'
  cases e1'
  rw [e2] at e2'
  cases e2'
  rw [e4] at e4'
  have ex:xs[i]=xs[j]:=by
   injection e4' with z1 _
   have:=congrArg (fun a:Array Value=>a[0]?) z1
   simp at this
   exact this.1
  unfold ltS
  rw [List.getD_eq_getElem?_getD,List.getD_eq_getElem?_getD,List.getD_eq_getElem?_getD,List.getElem?_eq_getElem (show i < xs.length by omega),List.getElem?_eq_getElem (show j < xs.length by omega),ex]
 kd:=fun A E s Q k h2 q=>by
  obtain ⟨fs,kt,lf,hf⟩:=ZgV (h:=s.heap) hl fun i v x e1 e2=>(hv i v x e1 e2).keep k
  refine kat_kind (T:=.type "str") kt (by omega) (fun f m=>?_) (by decide) q
  obtain ⟨x,t,rfl⟩:=hf f m
  exact Looks.of_pure rfl
 ask:=fun A s i j x y C k e1 e2 q=>by
  have hi:i < vs.length:=(List.getElem?_eq_some_iff.mp e1).1
  have hj:j < vs.length:=(List.getElem?_eq_some_iff.mp e2).1
  obtain ⟨a1,o1,n1,t1,y1,rfl,g1,c1,d1⟩:=(hv i x xs[i] e1 (List.getElem?_eq_getElem (by omega))).keep k
  obtain ⟨a2,o2,n2,t2,y2,rfl,g2,c2,d2⟩:=(hv j y xs[j] e2 (List.getElem?_eq_getElem (by omega))).keep k
  have el:ltS xs i j=decide (xs[i].cps.toList < xs[j].cps.toList):=by
   unfold ltS
   rw [List.getD_eq_getElem?_getD,List.getD_eq_getElem?_getD,List.getElem?_eq_getElem (show i < xs.length by omega),List.getElem?_eq_getElem (show j < xs.length by omega)]
   rfl
  by_cases hij:i=j
  ·subst hij
   rw [e1] at e2
   cases e2
   rw [g1] at g2
   cases g2
   rw [el] at q
   rw [decide_eq_false (List.lt_irrefl _)] at q
   refine kat_lt g1 d1 g1 d1 ?_
   refine kat_cons (Zhh (kat_yes (kat_cons (Zhh (kat_yes (kat_nil ?_))))))
   exact q s.toks
  have hne:¬ xs[i]=xs[j]:=fun z=>hij ((List.getElem_inj nd).mp z)
  refine kat_lt g1 d1 g2 d2 (kat_cons (wpAny_eqBool_str ?_))
  rw [decide_eq_false hne]
  refine kat_no (kas_lt_str ?_)
  rw [← el]
  exact q s.toks
end
end Tim
namespace L2
open PySem PySem.Spec PyProof.Rows PySem.W
section
variable {prog:Program} {w:World} {A:Around} {E:Value→Shared→Prop} {s:Shared}
theorem Xw {n:Nat} (h:n≤1000):n≤sizeLine:=by rw [sizeLine_eq]; omega
theorem ZlM {xs:List Str} {n:Nat} {p:Array Nat} (hl:xs.length=n) (nd:xs.Nodup) (hp:Srt.Pm n p) (h:∀ i j,i < j→j < n→Tim.ltS xs (p.getD j 0) (p.getD i 0)=false):Srt.Up (ltX xs) p n:=fun i j hij hj=>by
 have h1:=h i j hij hj
 have bi:=hp.below (show i < n by omega)
 have bj:=hp.below hj
 have ne:=hp.ne (show i < n by omega) hj (by omega)
 unfold Tim.ltS at h1
 unfold ltX
 rw [decide_eq_false_iff_not] at h1
 rw [decide_eq_true_eq]
 refine Tim.lt_ne h1 fun e=>ne ?_
 rw [J8 (by omega),J8 (by omega)] at e
 exact ((List.getElem_inj nd).mp e).symm
theorem Zdb {a:Addr} {vs:List Value} {xs:List Str} {n:Nat} {P:PySem.Fin→Shared→Prop} (ho:s.heap.get? a=some (seqObj "list" vs.toArray n)) (h1k:vs.length≤1000) (hl:xs.length=vs.length) (nd:xs.Nodup)
  (hv:∀ (i:Nat) (v:Value) (x:Str),vs[i]?=some v→xs[i]?=some x→Zoc s.heap v x)
  (h:∀ (h1:Heap) (tk c:Nat) (p:Array Nat),Srt.Pm xs.length p→Srt.Up (ltX xs) p xs.length→(∀ b o,b≠a→s.heap.get? b=some o→h1.get? b=some o) →
   h1.get? a=some (seqObj "list" (p.toList.map fun i=>vs.getD i Value.none).toArray c)→P (.done (.ret .none)) { s with heap:=h1,toks:=tk }) :
  wpAny (model prog w) A (Builtin.«list.sort» ⟨[.ref a],[]⟩) P E s:=by
 have hv6:∀ {h6:Heap},(∀ b o,b≠a→s.heap.get? b=some o→h6.get? b=some o)→∀ (i:Nat) (v:Value) (x:Str),vs[i]?=some v→xs[i]?=some x→Tim.PrI h6 v x:=fun {h6} k6 i v x q1 q2=>by
  obtain ⟨b,t,y,rfl,hb⟩:=hv i v x q1 q2
  exact ⟨b,_,_,t,y,rfl,k6 b _ (fun z=>by rw [z,ho] at hb; injection hb with hb; exact absurd (congrArg Obj.cls hb) (by unfold seqObj; simp)) hb,rfl,rfl⟩
 have hv0:∀ (i:Nat) (v:Value) (x:Str),vs[i]?=some v→xs[i]?=some x→Tim.PrI s.heap v x:=fun i v x q1 q2=>by
  obtain ⟨b,t,y,rfl,hb⟩:=hv i v x q1 q2
  exact ⟨b,_,_,t,y,rfl,hb,rfl,rfl⟩
 refine Tim.list_sortW ho (Xw h1k) (Tim.ltS_wo xs _) (Tim.sa_tups (prog:=prog) (w:=w) hl nd hv0).same (fun h6 Q k h2 q=>(Tim.sa_tups (h1:=h6) hl nd (hv6 k)).kd _ _ _ _ (fun b o e=>e) h2 q) (fun h6 tk i j x y C k e1 e2 q=>(Tim.sa_tups (h1:=h6) hl nd (hv6 k)).ask _ _ i j x y C (fun b o e=>e) e1 e2 fun tk2=>q tk2)
  fun h1 tk c p hp hs k hD=>h h1 tk c p (hl ▸ hp) (by rw [hl]; exact ZlM hl nd hp hs) k hD
end
theorem XO {X:Cx} (hc:X.calm=true):CallR X (.builtin "sorted") (fun xs H Q=>∃ (p d:Addr) (ks:List Str) (g:Str→V),xs=[.ref p]∧H p=some (ivO p d)∧H d=some (.dK (ks.map fun x=>((Sum.inr x:Key),g x)))∧ks.Nodup∧ks.length≤1000 ∧
  ∀ (D:Addr) (H1:Hp) (vs:List V) (ss:List Str),Same H H1→ss.Perm ks→(ss.map fun x=>x.cps.toList).Pairwise (· < ·)→H1 D=some (.lst vs)→vs.length=ss.length →
   (∀ (i:Nat) (x:Str),ss[i]?=some x→∃ b,vs[i]?=some (.ref b)∧H1 b=some (.tup [.str x,g x]))→Q (.ref D) H1):=by
 intro pins s σ H xs us Q I r h
 obtain ⟨p,d,ks,g,rfl,hp,hd,nd,h1k,q⟩:=h
 obtain ⟨u,rfl,ru⟩:=Xg r
 cases ru
 have hview:s.heap.IsItemsView p d:=(I.hok p _ hp).1
 obtain ⟨hz,lo,vs',kv,dd⟩:=Zdj I.hok hd
 obtain ⟨ep,hat⟩:=dd.dictAt
 have hlen:ks.length=vs'.length:=by have:=kv.length; simpa using this
 have hsz:vs'.length≤sizeLine:=by rw [sizeLine_eq]; omega
 refine Calls.call_function_entry kind_sorted plain_sorted entry_sorted (args_sorted1 _) ?_
 unfold Builtin.«sorted»
 refine wpAny_bind (m:=checkCount "sorted" 1 1 _) (wpAny_pure ?_)
 refine wpAny_bind (kdx_collect (A:=X.A.in1) (knd:=Zp X.prog X.w) (kvs:=vs') (ep:=ep) (I.ok.hd hc) hview hat hsz fun h1 tk as hk hl hG=>?_)
 refine wpAny_bind (wpAny_newList ?_ (by rw [List.length_map,hl]; exact hsz))
 have pr:∀ (i:Nat),i < ks.length→∃ a t y,as[i]?=some a∧RelV (g (ks.getD i "")) y∧h1.get? a=some { cls:=.type "tuple",data:=.seq #[.str (ks.getD i "") t,y] }:=fun i hi=>by
  have hi2:i < as.length:=by omega
  obtain ⟨key,k,x,e1,e2,e3⟩:=hG.pairs i as[i] (List.getElem?_eq_getElem hi2)
  have ek:=congrArg (fun l:List Key=>l[i]?) kv.keys
  simp only [List.getElem?_map] at ek
  rw [e1,List.getElem?_eq_getElem hi] at ek
  have ek':(Sum.inr ks[i]:Key)=k:=Option.some.inj ek
  have ev:RelV (g ks[i]) x:=by
   have key:∀ {l1:List (Key × V)} {l2:List (Key × Value)} (i:Nat) (p:Key × V) (q:Key × Value),Paired (fun (p:Key × V) (q:Key × Value)=>p.1=q.1∧RelV p.2 q.2) l1 l2→l1[i]?=some p→l2[i]?=some q→RelV p.2 q.2:=by
    intro l1 l2 i p q hP
    induction hP generalizing i with
    | nil=>intro e; simp at e
    | cons r t ih =>
     intro e1 e2
     cases i with
     | zero =>
      simp at e1 e2
      subst e1 e2
      exact r.2
     | succ i=>exact ih i (by simpa using e1) (by simpa using e2)
   exact key i (Sum.inr ks[i],g ks[i]) (k,x) kv (by rw [List.getElem?_map,List.getElem?_eq_getElem hi]; rfl) e1
  subst ek'
  rcases keyIs_shape (show J2 (Sum.inr ks[i]) key=true from e2) with ⟨j,t,e4,_⟩ | ⟨z,t,e4,e5⟩
  ·cases e4
  ·injection e4 with e4
   subst e4
   refine ⟨as[i],t,x,List.getElem?_eq_getElem hi2,by rw [J8 hi]; exact ev,?_⟩
   rw [e3,e5,J8 hi]
 have hB:(h1.push { cls:=.type "list",data:=.seq (as.map Value.ref).toArray }).get? h1.objs.size=some (seqObj "list" (as.map Value.ref).toArray 0):=Heap.get?_push_size _ rfl
 refine wpAny_bind (wpAny_holding (wpAny_call_entry slot_list_sort ⟨_,hB,rfl⟩ entry_list_sort ?body (args_list_sort _)))
 refine Zdb (s:={ s with heap:=h1.push { cls:=.type "list",data:=.seq (as.map Value.ref).toArray },toks:=tk }) (xs:=ks) hB (by rw [List.length_map]; omega) (by rw [List.length_map]; omega) nd (fun i v x e1 e2=>?_) fun h3 tk3 c pm hpm hup hkeep hD=>⟨_,rfl,wpAny_pure ⟨_,rfl,?_⟩⟩
 ·have hi:i < ks.length:=(List.getElem?_eq_some_iff.mp e2).1
  obtain ⟨a,t,y,f1,_,f3⟩:=pr i hi
  rw [List.getElem?_map,f1] at e1
  cases e1
  have ex:ks.getD i "" = x:=by rw [List.getD_eq_getElem?_getD,e2]; rfl
  rw [ex] at f3
  exact ⟨a,t,y,rfl,Heap.get?_push_of_some _ f3⟩
 ·have hold:∀ b u,s.heap.get? b=some u→h3.get? b=some u:=fun b u e=>hkeep b u (Nat.ne_of_lt (Heap.lt_size (hk b u e))) (Heap.get?_push_of_some _ (hk b u e))
  have hDn:s.heap.get? h1.objs.size=none:=by
   cases z:s.heap.get? h1.objs.size with
   | none=>rfl
   | some u=>exact absurd (Heap.lt_size (hk _ u z)) (Nat.lt_irrefl _)
  have tup3:∀ (i:Nat),i < ks.length→∃ a t y,as[i]?=some a∧RelV (g (ks.getD i "")) y∧s.heap.get? a=none∧a≠h1.objs.size∧h3.get? a=some { cls:=.type "tuple",data:=.seq #[.str (ks.getD i "") t,y] }:=fun i hi=>by
   obtain ⟨a,t,y,f1,f2,f3⟩:=pr i hi
   have ne:a≠h1.objs.size:=Nat.ne_of_lt (Heap.lt_size f3)
   exact ⟨a,t,y,f1,f2,Heap.get?_none_of_le (Nat.le_of_lt (hG.above a (List.mem_of_getElem? f1))),ne,hkeep a _ ne (Heap.get?_push_of_some _ f3)⟩
  have asnd:as.Nodup:=hG.rise.imp fun {a b} z e=>by subst e; exact Nat.lt_irrefl _ z
  let N:Addr→Option HO:=fun b=>if b=h1.objs.size then some (.lst (pm.toList.map fun i=>V.ref (as.getD i 0))) else (as.idxOf? b).map fun i=>.tup [.str (ks.getD i ""),g (ks.getD i "")]
  have hND:N h1.objs.size=some (.lst (pm.toList.map fun i=>V.ref (as.getD i 0))):=if_pos rfl
  have hNt:∀ (i:Nat),i < ks.length→∃ a,as[i]?=some a∧N a=some (.tup [.str (ks.getD i ""),g (ks.getD i "")]):=fun i hi=>by
   obtain ⟨a,t,y,f1,f2,f3,f4,f5⟩:=tup3 i hi
   refine ⟨a,f1,?_⟩
   show (if a=h1.objs.size then _ else _)=_
   rw [if_neg f4]
   have hi2:i < as.length:=(List.getElem?_eq_some_iff.mp f1).1
   have e:as.idxOf? a=some i:=by
    rw [List.idxOf?_eq_some_iff]
    refine ⟨hi2,by rw [List.getElem?_eq_getElem hi2] at f1; simpa using Option.some.inj f1,fun j hj=>?_⟩
    intro z
    have e1:as[j]'(by omega)=as[i]:=by rw [List.getElem?_eq_getElem hi2] at f1; rw [Option.some.inj f1]; simpa using z
    exact absurd ((List.getElem_inj asnd).mp e1) (by omega)
   rw [e]
   rfl
  have hNall:∀ a o,N a=some o→s.heap.get? a=none∧∀ H2,ObjOk X.prog X.w H2 h3 a o:=fun a o e=>by
   by_cases ha:a=h1.objs.size
   ·subst ha
    rw [hND] at e
    cases e
    refine ⟨hDn,fun H2=>⟨?_,pm.toList.map (fun i=>Value.ref (as.getD i 0)),c,?_,?_⟩⟩
    ·rw [List.length_map,Array.length_toList,hpm.size,sizeLine_eq]
     omega
    ·have gen:∀ l:List Nat,Vals (l.map fun i=>V.ref (as.getD i 0)) (l.map fun i=>Value.ref (as.getD i 0)):=by
      intro l
      induction l with
      | nil=>exact .nil
      | cons i l ih=>exact .cons rfl ih
     exact gen _
    ·rw [hD]
     have el:(List.map (fun i=>(List.map Value.ref as).getD i Value.none) pm.toList)=pm.toList.map fun i=>Value.ref (as.getD i 0):=by
      refine List.map_congr_left fun i hi=>?_
      have hi':i < as.length:=by
       have:i∈pm:=by simpa using hi
       have:=hpm.perm.mem_iff.mp this
       have:i < ks.length:=by simpa using this
       omega
      rw [List.getD_eq_getElem?_getD,List.getElem?_map,List.getElem?_eq_getElem hi',List.getD_eq_getElem?_getD,List.getElem?_eq_getElem hi']
      rfl
     rw [el]
   ·have e':(as.idxOf? a).map (fun i=>HO.tup [.str (ks.getD i ""),g (ks.getD i "")])=some o:=by
     have:(if a=h1.objs.size then some (HO.lst (pm.toList.map fun i=>V.ref (as.getD i 0))) else (as.idxOf? a).map fun i=>HO.tup [.str (ks.getD i ""),g (ks.getD i "")])=some o:=e
     rw [if_neg ha] at this
     exact this
    cases hx:as.idxOf? a with
    | none=>rw [hx] at e'; cases e'
    | some i =>
     rw [hx] at e'
     cases e'
     obtain ⟨hi,hai,_⟩:=List.idxOf?_eq_some_iff.mp hx
     have hi':i < ks.length:=by omega
     obtain ⟨a',t,y,f1,f2,f3,f4,f5⟩:=tup3 i hi'
     rw [List.getElem?_eq_getElem hi] at f1
     have ea:a=a':=by rw [← Option.some.inj f1]; simpa using hai.symm
     subst ea
     refine ⟨f3,fun H2=>⟨by show 2≤sizeLine; rw [sizeLine_eq]; decide,[.str (ks.getD i "") t,y],.cons ⟨t,rfl⟩ (.cons f2 .nil),⟨⟨_,f5,rfl,_,rfl⟩,fun o e=>by rw [f5] at e; cases e; rfl⟩⟩⟩
  refine ⟨.ref h1.objs.size,_,I.laidN (N:=N) (tk:=tk3) hold hNall,rfl,?_⟩
  have hsame:Same H fun b=>(N b).or (H b):=fun b u e=>by
   obtain ⟨v,hv⟩:=(I.hok b u e).there'
   have:N b=none:=by
    cases z:N b with
    | none=>rfl
    | some o=>rw [(hNall b o z).1] at hv; cases hv
   show (N b).or (H b)=some u
   rw [this,Option.none_or]
   exact e
  refine q _ _ (pm.toList.map fun i=>V.ref (as.getD i 0)) (pm.toList.map fun i=>ks.getD i "") hsame (Zge ks pm hpm) ?_ (by rw [hND]; rfl) (by rw [List.length_map,List.length_map]) fun i x e=>?_
  ·rw [List.map_map,List.pairwise_map,List.pairwise_iff_getElem]
   intro i j hi hj hij
   have hz2:pm.toList.length=ks.length:=by rw [Array.length_toList,hpm.size]
   have hu:=hup i j hij (by omega)
   unfold ltX at hu
   rw [decide_eq_true_eq] at hu
   have g1:pm.getD i 0=pm.toList[i]:=by rw [Array.getD_eq_getD_getElem?,Array.getElem?_eq_getElem (by simpa using hi)]; simp
   have g2:pm.getD j 0=pm.toList[j]:=by rw [Array.getD_eq_getD_getElem?,Array.getElem?_eq_getElem (by simpa using hj)]; simp
   rw [g1,g2] at hu
   exact hu
  ·rw [List.getElem?_map] at e
   cases ep:pm.toList[i]? with
   | none=>rw [ep] at e; cases e
   | some k =>
    rw [ep] at e
    have ex:ks.getD k "" = x:=Option.some.inj e
    have hkm:k∈pm:=by simpa using List.mem_of_getElem? ep
    have hkl:k < ks.length:=by simpa using hpm.perm.mem_iff.mp hkm
    obtain ⟨a,f1,f2⟩:=hNt k hkl
    refine ⟨a,?_,?_⟩
    ·rw [List.getElem?_map,ep,Option.map_some,List.getD_eq_getElem?_getD,f1]
     rfl
    ·show (N a).or (H a)=_
     rw [f2,Option.some_or,ex]
theorem Zgq {X:Cx} {pins:List (Addr × Obj)} {σ:St} {H:Hp} {s:Shared} {h3:Heap} {tk:Nat} {D:Addr} {vs:List V} (I:Inv X pins σ H s) (k:∀ b u,s.heap.get? b=some u→h3.get? b=some u) (hD:s.heap.get? D=none) (hz:vs.length≤sizeLine)
  (ho:∃ (its:List Value) (n:Nat),Vals vs its∧h3.get? D=some { cls:=.type "list",data:=.seq its.toArray n }):H D=none∧Inv X pins σ (upd H D (.lst vs)) { s with heap:=h3,toks:=tk }:=by
 have hn:H D=none:=by
  cases e:H D with
  | none=>rfl
  | some u =>
   obtain ⟨v,hv⟩:=(I.hok D u e).there'
   rw [hD] at hv
   cases hv
 refine ⟨hn,?_⟩
 have:=I.laidN (N:=fun b=>if b=D then some (.lst vs) else none) (tk:=tk) k fun a o e=>by
  by_cases c:a=D
  ·subst c
   rw [if_pos rfl] at e
   cases e
   exact ⟨hD,fun H2=>⟨hz,ho⟩⟩
  ·rw [if_neg c] at e
   cases e
 have e:(fun b=>(if b=D then some (HO.lst vs) else none).or (H b))=upd H D (.lst vs):=by
  funext b
  by_cases c:b=D
  ·subst c
   rw [if_pos rfl,Option.some_or,Zc]
  ·rw [if_neg c,Option.none_or,Zi c]
 rw [e] at this
 exact this
theorem Zau {α:Type} {d:α} (ks:List α) (p:Array Nat) (hp:Srt.Pm ks.length p):(p.toList.map fun i=>ks.getD i d).Perm ks:=by
 have h1:=(Array.perm_iff_toList_perm.mp hp.perm).map fun i=>ks.getD i d
 have h2:((List.range ks.length).toArray.toList.map fun i=>ks.getD i d)=ks:=by
  apply List.ext_getElem?
  intro i
  simp only [List.getElem?_map]
  by_cases hi:i < ks.length
  ·rw [List.getElem?_range hi,List.getElem?_eq_getElem hi,Option.map_some,List.getD_eq_getElem?_getD,List.getElem?_eq_getElem hi]
   rfl
  ·rw [List.getElem?_eq_none (by simp; omega),List.getElem?_eq_none (by omega)]
   rfl
 rw [h2] at h1
 exact h1
theorem Zh7 {n:Nat} {p:Array Nat} (hp:Srt.Pm n p) {i:Nat} (hi:i < p.toList.length):p.getD i 0=p.toList[i]:=by
 rw [Array.getD_eq_getD_getElem?,Array.getElem?_eq_getElem (by simpa using hi)]
 simp
theorem ZlA {xs:List Str} {p:Array Nat} (hp:Srt.Pm xs.length p) (h:∀ i j,i < j→j < xs.length→Tim.ltS xs (p.getD j 0) (p.getD i 0)=false):((p.toList.map fun i=>xs.getD i "").map fun x=>x.cps.toList).Pairwise (·≤·):=by
 rw [List.map_map,List.pairwise_map,List.pairwise_iff_getElem]
 intro i j hi hj hij
 have hz:p.toList.length=xs.length:=by rw [Array.length_toList,hp.size]
 have hu:=h i j hij (by omega)
 unfold Tim.ltS at hu
 rw [decide_eq_false_iff_not,Zh7 hp hi,Zh7 hp hj] at hu
 exact List.not_lt.mp hu
theorem Zgm:∀ {ks:List Str} {g:Str→V} {vs:List (Key × Value)},KV (ks.map fun x=>((Sum.inr x:Key),g x)) vs→∀ (i:Nat) (k:Key) (x:Value),vs[i]?=some (k,x)→k=Sum.inr (ks.getD i "")∧i < ks.length:=by
 intro ks g vs kv i k x e
 have ek:=congrArg (fun l:List Key=>l[i]?) kv.keys
 simp only [List.getElem?_map] at ek
 rw [e] at ek
 cases z:ks[i]? with
 | none=>rw [z] at ek; cases ek
 | some y =>
  rw [z] at ek
  refine ⟨?_,(List.getElem?_eq_some_iff.mp z).1⟩
  rw [List.getD_eq_getElem?_getD,z]
  exact (Option.some.inj ek).symm
theorem Zbu {X:Cx} (hc:X.calm=true):CallR X (.builtin "sorted") (fun xs H Q=>∃ (d:Addr) (ks:List Str) (g:Str→V),xs=[.ref d]∧H d=some (.dK (ks.map fun x=>((Sum.inr x:Key),g x)))∧ks.length≤1000 ∧
  ∀ (p:Addr) (ss':List Str),H p=none→ss'.Perm ks→(ss'.map fun x=>x.cps.toList).Pairwise (·≤·)→Q (.ref p) (upd H p (.lst (ss'.map V.str)))):=by
 intro pins s σ H xs us Q I r h
 obtain ⟨d,ks,g,rfl,hd,h1k,q⟩:=h
 obtain ⟨u,rfl,ru⟩:=Xg r
 cases ru
 obtain ⟨hz,lo,vs',kv,dd⟩:=Zdj I.hok hd
 obtain ⟨ep,hat⟩:=dd.dictAt
 have hlen:ks.length=vs'.length:=by have:=kv.length; simpa using this
 have toS:∀ (n:Nat) (vs:List Value) (xs:List Str),vs.length=xs.length→(∀ (i:Nat) (v:Value),vs[i]?=some v→∃ t,v = .str (xs.getD i "") t)→StrsAre vs xs:=by
  intro n vs
  induction vs with
  | nil =>
   intro xs e _
   match xs,e with
   | [],_=>exact .nil
  | cons v vs ih =>
   intro xs e hh
   match xs,e with
   | x :: xs,e =>
    obtain ⟨t,rfl⟩:=hh 0 v rfl
    exact .cons x t (ih xs (by simpa using e) fun i u z=>by
     obtain ⟨t,e⟩:=hh (i + 1) u (by simpa using z)
     exact ⟨t,e⟩)
 refine Tim.sorted_all (lt:=Tim.ltS ks) (κ:=oneType') (Pc:=fun h1 vs=>StrsAre vs ks) (fun R hR=>?_) (fun h1 vs hk hP=>?_) fun h1 vs h3 tk c p hP hk k1 hk1 hp hs hD hN=>?_
 ·refine kdu_collect (A:=X.A.in1) (kdl_dict lo) (I.ok.hd hc) hat (Xw (by omega)) fun h' tk acc hk hacc=>hR h' tk acc.toList hk (toS 0 _ _ (by rw [Array.length_toList,hacc.1,hlen]) fun i v e=>?_)
  obtain ⟨k,x,e1,e2⟩:=hacc.2 i v (by rw [← Array.getElem?_toList]; exact e)
  obtain ⟨ek,hi⟩:=Zgm kv i k x e1
  subst ek
  rcases keyIs_shape (show J2 (Sum.inr (ks.getD i "")) v=true from e2) with ⟨j,t,e4,_⟩ | ⟨z,t,e4,e5⟩
  ·cases e4
  ·injection e4 with e4
   exact ⟨t,by rw [e5,e4]⟩
 ·have:=Tim.strs_len hP
  exact ⟨Xw (by omega),Tim.sa_strs hP⟩
 ·have hl:=Tim.strs_len hP
  have hp':Srt.Pm ks.length p:=by rw [← hl]; exact hp
  have vv:∀ l:List Nat,(∀ i∈l,i < ks.length)→Vals ((l.map fun i=>ks.getD i "").map V.str) (l.map fun i=>vs.getD i Value.none):=by
   intro l
   induction l with
   | nil=>intro _; exact .nil
   | cons i l ih =>
    intro hh
    have hi:i < vs.length:=by have:=hh i (List.mem_cons_self ..); omega
    obtain ⟨t,e,_⟩:=Tim.strs_at hP i _ (List.getElem?_eq_getElem hi)
    refine .cons ?_ (ih fun j hj=>hh j (List.mem_cons_of_mem _ hj))
    show RelV (V.str (ks.getD i "")) (vs.getD i Value.none)
    rw [List.getD_eq_getElem?_getD (l:=vs),List.getElem?_eq_getElem hi]
    exact ⟨t,e⟩
  have hmem:∀ i∈p.toList,i < ks.length:=fun i hi=>by
   have:i∈p:=by simpa using hi
   have:=hp'.perm.mem_iff.mp this
   simpa using this
  obtain ⟨hn,I2⟩:=Zgq (tk:=tk) (vs:=(p.toList.map fun i=>ks.getD i "").map V.str) I hk hN (by rw [List.length_map,List.length_map,Array.length_toList,hp'.size]; exact Xw h1k) ⟨_,c,vv p.toList hmem,hD⟩
  exact ⟨.ref h1.objs.size,_,I2,rfl,q _ _ hn (Zau ks p hp') (ZlA hp' (by rw [← hl]; exact hs))⟩
end L2
namespace L2
open PySem PySem.Spec PyProof.Rows
theorem Zf4 {t t':SetTable} {hs:Array Int} {n:Nat} {od:Array Nat} (h:t.relaid hs n=some (t',od)):t'.led=t.led∧t'.plain=t.plain:=by
 unfold SetTable.relaid SetTable.laid at h
 cases e:SetTable.layClean (SetTable.sizeAbove n - 1) hs with
 | none=>rw [e] at h; cases h
 | some ow =>
  rw [e] at h
  obtain ⟨h1,_⟩:=Prod.mk.inj (Option.some.inj h)
  rw [← h1]
  exact ⟨rfl,rfl⟩
theorem Zh2 (t:SetTable) (es:Array (Int × Value)) (n:Nat):(relayAll t es n).2.1.led=t.led∧(t.plain=false→(relayAll t es n).2.1.plain=false):=by
 unfold relayAll
 split
 ·rename_i t' od e
  obtain ⟨e1,e2⟩:=Zf4 e
  dsimp only
  split
  ·exact ⟨e1,fun h=>by rw [e2]; exact h⟩
  ·exact ⟨rfl,fun _=>rfl⟩
 ·exact ⟨rfl,fun _=>rfl⟩
theorem Zme (t:SetTable) (es:Array (Int × Value)) (hh:Int) (x:Value):(layNew t es hh x).2.1.led=t.led∧(t.plain=false→(layNew t es hh x).2.1.plain=false):=by
 unfold layNew
 split
 ·dsimp only
  unfold SetTable.orStandIn
  split
  ·exact ⟨rfl,fun h=>h⟩
  ·exact ⟨rfl,fun _=>rfl⟩
 ·exact ⟨rfl,fun _=>rfl⟩
def byT (w:World):Bool:=w.params.followText "set-order"
structure StT (prog:Program) (w:World) (h:Heap) (a:Addr) (ks:List Str) (o:Obj) (es:Array (Int × Value)) (ep:Nat) (t:SetTable):Prop where
 ob:h.get? a=some o
 ex:o.ExactSet
 dt:o.data = .set es ep t
 el:ElemsOf (Zp prog w) es.toList
 mem:∀ k:Key,(∃ x,k=Sum.inr x∧x∈ks)↔∃ e∈es.toList,(Zp prog w).is k e.2=true
 len:es.size=ks.length
 nd:ks.Nodup
 fits:t.fits es.size=true
 led:t.led = !byT w
 plain:ks≠[]→t.plain=false
def SetT (prog:Program) (w:World) (h:Heap) (a:Addr) (ks:List Str):Prop:=∃ o es ep t,StT prog w h a ks o es ep t
section
variable {prog:Program} {w:World} {A:Around} {E:Value→Shared→Prop} {s:Shared}
theorem SetT.keep {h h':Heap} {a:Addr} {ks:List Str} (x:SetT prog w h a ks) (k:∀ o,h.get? a=some o→h'.get? a=some o):SetT prog w h' a ks:=by
 obtain ⟨o,es,ep,t,q⟩:=x
 exact ⟨o,es,ep,t,{ q with ob:=k o q.ob }⟩
def Ze4 (ks:List Str) (x:Str):List Str:=if x∈ks then ks else ks ++ [x]
theorem addS_mem {ks:List Str} {x y:Str}:y∈Ze4 ks x↔y∈ks∨y=x:=by
 unfold Ze4
 split
 ·rename_i c
  exact ⟨.inl,fun h=>h.elim id fun e=>e ▸ c⟩
 ·simp
theorem Zlk {ks:List Str} {x:Str} (h:ks.Nodup):(Ze4 ks x).Nodup:=by
 unfold Ze4
 split
 ·exact h
 ·rename_i c
  exact List.nodup_append.mpr ⟨h,by simp,fun a ha b hb e=>by rw [List.mem_singleton.mp hb] at e; subst e; exact c ha⟩
theorem Zi8 (ks:List Str) (x:Str):(Ze4 ks x).length≤ks.length + 1:=by
 unfold Ze4
 split <;> simp
theorem ZdH {h:Heap} {a:Addr} {o:Obj} {es es':Array (Int × Value)} {ep:Nat} {t t':SetTable} (ho:h.get? a=some o) (hd:o.data = .set es ep t):(h.update a (Obj.putSet es' t')).get? a=some { o with data:=.set es' (ep + 1) t' }:=by
 have:=Heap.get?_update_self (Obj.putSet es' t') ho (by rw [putSet_of es' t' hd]; rfl)
 rw [putSet_of es' t' hd] at this
 exact this
theorem ZdC {gg:Bool→Sem Unit} (hgg:∀ (b:Bool) (s₁:Shared) (Q':Unit→Shared→Prop),Q' () s₁→wpAny (model prog w) A (gg b) Q' E s₁) {a:Addr} {o:Obj} {es es1:Array (Int × Value)} {ep:Nat} {t t2:SetTable} {ks:List Str} (ho:s.heap.get? a=some o) (hd:o.data = .set es ep t)
  (S:∀ (h:Heap) (ob:Obj) (ep1:Nat) (es2:Array (Int × Value)) (t3:SetTable),h.get? a=some ob→ob.ExactSet→ob.data = .set es2 ep1 t3→List.Perm es2.toList es1.toList→t3.fits es2.size=true→t3.led=t2.led→(t2.plain=false→t3.plain=false)→SetT prog w h a ks) (hx:o.ExactSet) (hb:es1.size < scanBound) (hf:t2.fits es1.size=true) {wd:Bool} {R:Option Bool→Shared→Prop}
  (q:∀ h1,Heap.SameBut a s.heap h1→SetT prog w h1 a ks→R (some true) { s with heap:=h1 }) :
  wpAny (model prog w) A (do
    storeSet a es1 t2
    if (!wd && t2.tooFull)=true then do
      gg (relayAll t2 es1 (SetTable.grown es1.size)).2.2
      storeSet a (relayAll t2 es1 (SetTable.grown es1.size)).1 (relayAll t2 es1 (SetTable.grown es1.size)).2.1
      pure (some true)
     else pure (some true)) R E s:=by
 refine wpAny_bind (wpAny_storeSet_of ho hd ?_ (fits_of_scanBound hb))
 have o1:=ZdH (es':=es1) (t':=t2) ho hd
 have m1:=Heap.SameBut.update s.heap a (Obj.putSet es1 t2)
 split
 ·have p:=relayAll_perm t2 es1 (SetTable.grown es1.size)
  have f:=relayAll_fits t2 es1 (SetTable.grown es1.size)
  obtain ⟨l1,l2⟩:=Zh2 t2 es1 (SetTable.grown es1.size)
  generalize relayAll t2 es1 (SetTable.grown es1.size)=rl at p f l1 l2 ⊢
  have sz:rl.1.size=es1.size:=by rw [← Array.length_toList,p.length_eq,Array.length_toList]
  refine wpAny_bind (hgg _ _ _ (wpAny_bind (wpAny_storeSet_of o1 rfl ?_ (fits_of_scanBound (by rw [sz]; exact hb)))))
  exact wpAny_pure (q _ (m1.trans (Heap.SameBut.update _ a _)) (S _ _ _ rl.1 rl.2.1 (ZdH o1 rfl) hx rfl p f l1 l2))
 ·exact wpAny_pure (q _ m1 (S _ _ _ es1 t2 o1 hx rfl (List.Perm.refl _) hf rfl fun z=>z))
theorem Zki {a:Addr} {ks:List Str} {x:Str} {tk:Tok} {Q:Bool→Shared→Prop} (hS:SetT prog w s.heap a ks) (hroom:ks.length + 1 < scanBound)
  (q:∀ (r:Bool) (h1:Heap),Heap.SameBut a s.heap h1→SetT prog w h1 a (Ze4 ks x)→Q r { s with heap:=h1 }):wpAny (model prog w) A (setAddHashed a (.str x tk) ((Zp prog w).hash (Sum.inr x))) Q E s:=by
 obtain ⟨o,es,ep,t,T⟩:=hS
 have hkey:(Zp prog w).is (Sum.inr x:Key) (.str x tk)=true:=Xp prog w x tk
 have hb:es.size < scanBound:=by rw [T.len]; omega
 unfold setAddHashed setAddHashedIn
 refine wpAny_holding (wpAny_bind (wpAny_setState_of T.ob T.dt T.fits ?_))
 dsimp only
 rw [byScan_of (knd:=Zp prog w) rfl hb T.el]
 simp only [↓reduceIte]
 unfold setAddByScan
 refine wpAny_bind (wpAny_bind (wpAny_rule (wpAny_bind (wpAny_setScan_of hkey T.ob T.dt T.fits T.el ?_))))
 cases hr:List.findIdx? (fun e=>(Zp prog w).is (Sum.inr x:Key) e.2) es.toList with
 | some j =>
  dsimp only
  obtain ⟨hj,hpj,_⟩:=List.findIdx?_eq_some_iff_getElem.mp hr
  obtain ⟨y,ey,hy⟩:=(T.mem (Sum.inr x)).mpr ⟨es.toList[j],List.getElem_mem hj,hpj⟩
  cases ey
  refine wpAny_pure (wpAny_pure ?_)
  have es0:s={ s with heap:=s.heap }:=by cases s; rfl
  rw [es0]
  refine q _ s.heap (Heap.SameBut.refl a s.heap) ?_
  unfold Ze4
  rw [if_pos hy]
  exact ⟨o,es,ep,t,T⟩
 | none =>
  dsimp only
  have hx:x∉ks:=fun hx=>by
   obtain ⟨e,he,hp⟩:=(T.mem (Sum.inr x)).mp ⟨x,rfl,hx⟩
   have:=List.findIdx?_eq_none_iff.mp hr e he
   rw [hp] at this
   cases this
  have perm:=layNew_perm t es ((Zp prog w).hash (Sum.inr x)) (.str x tk)
  have fit:=layNew_fits t es ((Zp prog w).hash (Sum.inr x)) (.str x tk)
  obtain ⟨l1,l2⟩:=Zme t es ((Zp prog w).hash (Sum.inr x)) (.str x tk)
  generalize layNew t es ((Zp prog w).hash (Sum.inr x)) (.str x tk)=L at perm fit l1 l2 ⊢
  obtain ⟨es1,t1,wd,gave⟩:=L
  dsimp only at perm fit l1 l2 ⊢
  rw [Array.toList_push] at perm
  have sz1:es1.size=ks.length + 1:=by rw [← Array.length_toList,perm.length_eq,List.length_append,Array.length_toList,T.len]; rfl
  refine wpAny_bind ?_
  have hgw:∀ (b:Bool) (s₁:Shared) (Q':Unit→Shared→Prop),Q' () s₁→wpAny (model prog w) A (match b with | true=>rule "set.scan.the-table-gave-way" | false=>pure ()) Q' E s₁:=fun b s₁ Q' hq=>by cases b <;> first | exact wpAny_pure hq | exact wpAny_rule hq
  refine hgw gave _ _ ?_
  have mk:∀ (t2:SetTable),t2.led=t1.led→t2.plain=false→∀ (h:Heap) (ob:Obj) (ep1:Nat) (es2:Array (Int × Value)) (t3:SetTable),h.get? a=some ob→ob.ExactSet→ob.data = .set es2 ep1 t3→List.Perm es2.toList es1.toList→t3.fits es2.size=true→t3.led=t2.led→(t2.plain=false→t3.plain=false)→SetT prog w h a (Ze4 ks x):=by
   intro t2 e1 e2 h ob ep1 es2 t3 c1 c2 c3 c4 c5 c6 c7
   have pp:=c4.trans perm
   refine ⟨ob,es2,ep1,t3,c1,c2,c3,(T.el.push hkey rfl).perm pp,fun k=>?_,?_,Zlk T.nd,c5,by rw [c6,e1,l1,T.led],fun _=>c7 e2⟩
   ·constructor
    ·rintro ⟨y,rfl,hy⟩
     rcases addS_mem.mp hy with z | z
     ·obtain ⟨e,he,hp⟩:=(T.mem (Sum.inr y)).mp ⟨y,rfl,z⟩
      exact ⟨e,pp.mem_iff.mpr (List.mem_append_left _ he),hp⟩
     ·subst z
      exact ⟨_,pp.mem_iff.mpr (List.mem_append_right _ (List.mem_singleton.mpr rfl)),hkey⟩
    ·rintro ⟨e,he,hp⟩
     rcases List.mem_append.mp (pp.mem_iff.mp he) with z | z
     ·obtain ⟨y,ey,hy⟩:=(T.mem k).mpr ⟨e,z,hp⟩
      exact ⟨y,ey,addS_mem.mpr (.inl hy)⟩
     ·rw [List.mem_singleton.mp z] at hp
      exact ⟨x,(Zp prog w).inj _ _ _ hp hkey,addS_mem.mpr (.inr rfl)⟩
   ·rw [← Array.length_toList,c4.length_eq,Array.length_toList,sz1]
    unfold Ze4
    rw [if_neg hx,List.length_append]
    rfl
  split
  ·refine wpAny_bind ?_
   rw [hashByValue_scannable 8 (x:=.str x tk) rfl]
   refine wpAny_pure ?_
   refine ZdC (t2:=if plainKind (.str x tk)=true then t1 else { t1 with plain:=false }) hgw T.ob T.dt (mk _ rfl rfl) T.ex (by rw [sz1]; exact hroom) (SetTable.fits_plain_off fit) fun h1 m hS'=>?_
   exact wpAny_pure (q _ h1 m hS')
  ·rename_i hpl
   refine wpAny_bind (wpAny_pure ?_)
   simp only [↓reduceIte]
   refine ZdC hgw T.ob T.dt (mk t1 rfl (by simpa using hpl)) T.ex (by rw [sz1]; exact hroom) fit fun h1 m hS'=>?_
   exact wpAny_pure (q _ h1 m hS')
end
def met (val:Nat→Str):Nat→List Str
 | 0=>[]
 | i + 1=>Ze4 (met val i) (val i)
theorem Zc9 (val:Nat→Str):∀ i,(met val i).length≤i
 | 0=>Nat.le_refl _
 | i + 1=>by
  have:=Zi8 (met val i) (val i)
  have:=Zc9 val i
  show (Ze4 _ _).length≤_
  omega
theorem ZgJ (val:Nat→Str):∀ i x,x∈met val i↔∃ j,j < i∧val j=x
 | 0,x=>by simp [met]
 | i + 1,x=>by
  show x∈Ze4 _ _↔_
  rw [addS_mem,ZgJ val i x]
  constructor
  ·rintro (⟨j,hj,e⟩ | e)
   ·exact ⟨j,by omega,e⟩
   ·exact ⟨i,by omega,e.symm⟩
  ·rintro ⟨j,hj,e⟩
   by_cases c:j=i
   ·subst c; exact .inr e.symm
   ·exact .inl ⟨j,by omega,e⟩
section
variable {prog:Program} {w:World} {A:Around} {R:Result→Shared→Prop} {J:Addr} {fp wr:List Addr} {G:Array GenState→Array GenState→Prop} {n:Nat} {P:Nat→Value→Prop} {St:Nat→Shared→Prop}
theorem Zfd (W:WalksS prog w A.in1 J fp wr G n P St) (S:Addr) (hSf:S∉fp) (val:Nat→Str) (hval:∀ i v,P i v→∃ t,v = .str (val i) t) (hb:n + 1 < scanBound) :
  ∀ (k i:Nat) (s:Shared),n - i=k→i≤n→St i s→SetT prog w s.heap S (met val i)→(∀ s',Moved (S :: wr) G s s'→SetT prog w s'.heap S (met val n)→R (.ok (.ret .none)) s') →
   codeAny (model prog w) A (.builtin "set.update.loop" ⟨[.ref S,.ref J],[]⟩) R s:=by
 have hSw:S∉wr:=fun h=>hSf (W.sub _ h)
 have hsub:∀ b∈wr,b∈S :: wr:=fun b hb=>List.mem_cons_of_mem _ hb
 intro k
 induction k with
 | zero =>
  intro i s hk hi hst hS hR
  have hin:i=n:=by omega
  subst hin
  refine codeAny_builtin PyProof.Rows.F.entry_set_update_loop ?_
  rw [Around.under_plainId PyProof.Rows.F.plain_set_update_loop _]
  refine (show wpAny _ A.in1 (pyNext (.ref J) >>= _) _ _ s from wpAny_bind (W.done s _ _ hst fun s1 mv=>?_))
  exact (show wpAny _ A.in1 (ret Value.none) _ _ s1 from wpAny_pure (hR s1 (mv.mono hsub) (hS.keep fun o e=>mv.heap S o hSw e)))
 | succ k ih =>
  intro i s hk hi hst hS hR
  have hlt:i < n:=by omega
  refine codeAny_builtin PyProof.Rows.F.entry_set_update_loop ?_
  rw [Around.under_plainId PyProof.Rows.F.plain_set_update_loop _]
  refine (show wpAny _ A.in1 (pyNext (.ref J) >>= _) _ _ s from wpAny_bind (W.item i s _ _ hlt hst fun v s1 hP hst1 mv=>?_))
  obtain ⟨t,rfl⟩:=hval i v hP
  have hS1:SetT prog w s1.heap S (met val i):=hS.keep fun o e=>mv.heap S o hSw e
  refine (show wpAny _ A.in1 (holding [Value.str (val i) t] (setAdd S (.str (val i) t)) >>= _) _ _ s1 from wpAny_bind (wpAny_holding ?_))
  unfold setAdd
  refine wpAny_holding (wpAny_bind ((Zp prog w).pyHash (k:=(Sum.inr (val i):Key)) (Xp prog w (val i) t) ?_))
  refine Zki (s:={ s1 with toks:=s1.toks + 1 }) hS1 (by have:=Zc9 val i; omega) fun r h1 sb hS2=>?_
  refine wpAny_pure ⟨plainId_quiet PyProof.Rows.F.plain_set_update_loop _,ih (i + 1) _ (by omega) hlt (W.frame _ s1 _ _ hst1 (Nat.le_succ _) fun b hb o e=>?_) hS2 fun s2 mv2 hS3=>?_⟩
  ·rw [sb.2 b (fun h:b=S=>hSf (by rw [← h]; exact hb))]; exact e
  ·refine hR s2 (Moved.trans W.gtrans ((mv.mono hsub).then_heap (Nat.le_succ _) fun b o hb e=>?_) mv2) hS3
   rw [sb.2 b (fun h:b=S=>hb (by rw [h]; exact List.mem_cons_self))]; exact e
end
section
variable {prog:Program} {w:World} {A:Around} {E:Value→Shared→Prop} {s:Shared}
theorem ZkG (a:Value) {Q1:Value→Shared→Prop}
  (q:Q1 (.ref s.heap.objs.size) { s with heap:=s.heap.push { cls:=.type "set",dict:=none,data:=.set #[] 0 (.fresh 0 0 (!byT w)) } }) :
  codeAny (model prog w) A (.call (.builtin "set.__new__") ⟨[.type "set",a],[]⟩) (wants Q1 E) s:=by
 refine codeAny_of_tree ?_
 refine (show wpAny _ A.in1 (do checkBuiltinCall "set.__new__" ⟨[.type "set",a],[]⟩; again (.builtin "set.__new__" ⟨[.type "set",a],[]⟩)) _ _ s from wpAny_bind (wpAny_of_eq (PySem.F.newCall_set_1 a) (wpAny_pure ⟨plainId_quiet PySem.F.plain_set_new _,codeAny_builtin PySem.F.entry_set_new ?_⟩)))
 rw [Around.under_plainId PySem.F.plain_set_new _]
 unfold Builtin.«set.__new__» Builtin.Frozenset.newClass
 have hsub:=sub_set_self
 obtain ⟨hp,gg,dd,tk,os⟩:=s
 dsimp only
 wp_walk
 refine wpAny_askSetting (wpAny_pure ?_)
 dsimp only
 simp only [newObj]
 exact wpAny_bind (wpAny_alloc (wpAny_pure (wpAny_pure q)))
theorem Zhc {h:Heap} {a:Addr} (e:h.get? a=some { cls:=.type "set",dict:=none,data:=.set #[] 0 (.fresh 0 0 (!byT w)) }):SetT prog w h a [] :=
 ⟨_,#[],0,_,e,⟨rfl,rfl,rfl⟩,rfl,fun e he=>by simp at he,fun k=>by simp,rfl,List.nodup_nil,by rfl,rfl,fun z=>absurd rfl z⟩
theorem Zhv {l:Addr} {items:Array Value} {ss:List Str} {Q:Value→Shared→Prop} (hh:A.handled=none) (hl:s.heap.IsList l items) (hi:StrsAre items.toList ss) (hb:items.size + 1 < scanBound)
  (q:∀ (h1:Heap) (tk:Nat),SetT prog w h1 s.heap.objs.size (met (fun i=>ss.getD i "") items.size)→(∀ b o,s.heap.get? b=some o→h1.get? b=some o)→Q (.ref s.heap.objs.size) { s with heap:=h1,toks:=tk }) :
  wpAny (model prog w) A (call (.type "set") [.ref l]) Q E s:=by
 obtain ⟨c,tl,hmro⟩:=PySem.F.called_set.mro
 have hmade:=PySem.F.called_set.made
 have hsub:=PySem.F.called_set.sub
 refine wpAny_call (codeAny_of_tree ?_)
 refine (show wpAny _ _ (callAny (.type "set") _) _ _ _ from wpAny_pure ⟨Code.quiet_builtin _ (by decide +kernel),codeAny_builtin PySem.F.entry_type_call ?_⟩)
 rw [Around.under_plain (weight_type_call_type "set" [.ref l] []) rfl]
 have h1:=PySem.F.called_set.notType
 have h2:=PySem.F.called_set.canCreate
 have hct:=PySem.F.typeCall_set_1 (.ref l)
 repeat (any_goals (first | assumption | wp_step))
 refine codeAny_mono (ZkG (.ref l) (E:=E) (Q1:=fun obj s1=>obj = .ref s.heap.objs.size∧s1={ s with heap:=s.heap.push { cls:=.type "set",dict:=none,data:=.set #[] 0 (.fresh 0 0 (!byT w)) } }) ⟨rfl,rfl⟩) fun r s1 hr=>?_
 cases r with
 | error e=>exact hr
 | ok fl =>
  cases fl with
  | ret obj =>
   obtain ⟨rfl,rfl⟩:=hr
   have gS:(s.heap.push { cls:=.type "set",dict:=none,data:=.set #[] 0 (.fresh 0 0 (!byT w)) }).get? s.heap.objs.size=some { cls:=.type "set",dict:=none,data:=.set #[] 0 (.fresh 0 0 (!byT w)) }:=Heap.get?_push_size _ rfl
   have hT:Shared.TypeIs { s with heap:=s.heap.push { cls:=.type "set",dict:=none,data:=.set #[] 0 (.fresh 0 0 (!byT w)) } } (.ref s.heap.objs.size) "set":=⟨_,gS,rfl⟩
   have hli:=PySem.F.called_set.init.lookup
   have hbi:=PySem.F.called_set.init.bind (.ref s.heap.objs.size)
   repeat (any_goals (first | assumption | wp_step))
   refine codeAny_mono (codeAny_call_builtin (R:=wants (fun r s2=>r = .none∧∃ g tk,s2={ s with heap:=g,toks:=tk }∧SetT prog w g s.heap.objs.size (met (fun i=>ss.getD i "") items.size)∧(∀ b o,s.heap.get? b=some o→g.get? b=some o)) E) PySem.F.called_set.init.plain PySem.F.entry_set_init (check_set_init_1 hT ?_)) fun r2 s2 hr2=>?_
   ·obtain ⟨ol,hol,hcl,nl,hdl⟩:=hl
    obtain ⟨ocls,odict,odata,oslots⟩:=ol
    simp only at hcl hdl
    subst hcl; subst hdl
    have hol':(s.heap.push { cls:=.type "set",dict:=none,data:=.set #[] 0 (.fresh 0 0 (!byT w)) }).get? l=some { cls:=.type "list",dict:=odict,data:=.seq items nl,slots:=oslots }:=Heap.get?_push_of_some _ hol
    have hsls:=PySem.F.sub_list_set
    have hslf:=PySem.F.sub_list_frozenset
    have hne:(Value.type "list" == Value.type "dict")=false:=by decide
    have hl1:(s.heap.push { cls:=.type "set",dict:=none,data:=.set #[] 0 (.fresh 0 0 (!byT w)) }).IsList l items:=⟨_,hol',rfl,nl,rfl⟩
    unfold Builtin.«set.__init__» noKeywords Builtin.Frozenset.updateFrom
    generalize hPI:pyIter=PI
    wp_walk
    subst hPI
    refine wpAny_pyIter_list hl1 (wpAny_bind (wpAny_runValue ?_))
    have hlS:l < s.heap.objs.size:=Heap.lt_size hol
    have hh3:A.in1.in1.in1.handled=none:=by simp [hh]
    have hneI:l≠(s.heap.push { cls:=.type "set",dict:=none,data:=.set #[] 0 (.fresh 0 0 (!byT w)) }).objs.size:=by
     rw [Heap.size_push]; exact Nat.ne_of_lt (Nat.lt_succ_of_lt hlS)
    have hSf:s.heap.objs.size∉[(s.heap.push { cls:=.type "set",dict:=none,data:=.set #[] 0 (.fresh 0 0 (!byT w)) }).objs.size,l]:=by
     rw [Heap.size_push]; simp only [List.mem_cons,List.not_mem_nil,or_false,not_or]
     exact ⟨Nat.ne_of_lt (Nat.lt_succ_self _),Nat.ne_of_gt hlS⟩
    have hval:∀ (i:Nat) (v:Value),items[i]?=some v→∃ t,v = .str ((fun i=>ss.getD i "") i) t:=fun i v hv=>by
     obtain ⟨t,e,_⟩:=Tim.strs_at hi i v (by rw [Array.getElem?_toList]; exact hv)
     exact ⟨t,e⟩
    refine Zfd ((Walks.list hh3 _ l hneI items).toS) s.heap.objs.size hSf (fun i=>ss.getD i "") hval hb (items.size - 0) 0 _ (by omega) (Nat.zero_le _)
     ⟨⟨_,Heap.get?_push_size _ rfl,rfl,rfl⟩,(hl1.push _)⟩ (Zhc (Heap.get?_push_of_some _ gS)) ?_
    intro s3 mv hS3
    obtain ⟨h3,g3,d3,t3,o3⟩:=s3
    have eg:g3=s.gens:=mv.gens
    have ed:d3=s.drawn:=mv.drawn
    have eo:o3=s.os:=mv.os
    subst eg; subst ed; subst eo
    refine wpAny_pure (show wpAny _ _ (ret Value.none) _ _ _ from wpAny_pure ⟨rfl,h3,t3,rfl,hS3,fun b o e=>?_⟩)
    have hb0:b < s.heap.objs.size:=Heap.lt_size e
    have hb2:b≠(s.heap.push { cls:=.type "set",dict:=none,data:=.set #[] 0 (.fresh 0 0 (!byT w)) }).objs.size:=by
     rw [Heap.size_push]; exact Nat.ne_of_lt (Nat.lt_succ_of_lt hb0)
    exact mv.heap b o (by simp only [List.mem_cons,List.not_mem_nil,or_false,not_or]; exact ⟨Nat.ne_of_lt hb0,hb2⟩) (Heap.get?_push_of_some _ (Heap.get?_push_of_some _ e))
   ·cases r2 with
    | error e=>exact hr2
    | ok fl2 =>
     cases fl2 with
     | ret r =>
      obtain ⟨rfl,g,tk,rfl,hS',hk'⟩:=hr2
      repeat (any_goals (first | assumption | wp_step))
      exact q _ _ hS' hk'
     | _=>exact hr2
  | _=>exact hr
end
theorem si_slot:Slot "set_iterator" "__next__" "set_iterator.__next__" :=
 .of (owner:="set_iterator") (n:="__next__") (by rw [typeLookup_type,builtinLookup_eq_fast]; kernel_rfl) (by decide +kernel) (by decide +kernel) (by decide +kernel) (by first | exact .inl (by decide +kernel) | exact .inr (by decide +kernel)) (by rw [isSubtype_type]; kernel_rfl)
theorem Y6:entryFor table "set_iterator.__next__" = some Builtin.«set_iterator.__next__»:=entryFor_of_fast (by kernel_rfl)
theorem XW (a:Value):argsOk "set_iterator.__next__" ⟨[a],[]⟩:=by unfold argsOk; kernel_rfl
theorem ZhM:entryFor table "set.__iter__" = some Builtin.«frozenset.__iter__» :=
 entryFor_alias (id':="frozenset.__iter__") (by kernel_rfl) (by first | rfl | decide +kernel | (unfold String.splitOn; simp +decide [String.splitOnAux])) (by decide +kernel) (by kernel_rfl)
theorem ZaG {α:Type} {l:List α} {i:Nat} (h:i < l.length):(l[i] :: l.eraseIdx i).Perm l:=by
 rw [List.eraseIdx_eq_take_drop_succ]
 have e:l=l.take i ++ l[i] :: l.drop (i + 1):=by rw [← List.drop_eq_getElem_cons h,List.take_append_drop]
 conv=>rhs; rw [e]
 exact List.perm_middle.symm
theorem Zgd {α:Type} (next:Nat→Nat):∀ (f k:Nat) (left:List α) (out:Array α),left.length≤f→(pickOrder.go next f k left out).toList.Perm (out.toList ++ left)
 | 0,k,left,out,h=>by
  have:left=[]:=List.length_eq_zero_iff.mp (by omega)
  subst this
  unfold pickOrder.go
  simp
 | f + 1,k,[],out,h=>by
  unfold pickOrder.go
  simp
 | f + 1,k,x :: left,out,h=>by
  unfold pickOrder.go
  have hi:next k % (x :: left).length < (x :: left).length:=Nat.mod_lt _ (by simp)
  rw [List.getElem?_eq_getElem hi]
  dsimp only
  refine (Zgd next f (k + 1) _ _ ?_).trans ?_
  ·rw [List.length_eraseIdx,if_pos hi]
   simp at h ⊢
   omega
  ·rw [Array.toList_push,List.append_assoc]
   exact List.Perm.append_left _ (ZaG hi)
theorem JT {α:Type} (next:Nat→Nat) (xs:Array α):(pickOrder next xs).toList.Perm xs.toList:=by
 unfold pickOrder
 have:=Zgd next xs.size 0 xs.toList #[] (by simp)
 simpa using this
abbrev ZbA (h:Heap) (J:Addr) (f:Value) (i:Nat) (a:Addr) (n ep:Nat):Prop:=h.get? J=some { cls:=.type "set_iterator",dict:=none,data:=.fields #[f,.int i 0,.ref a,.int n 0,.int ep 0],slots:=#[] }
section
variable {prog:Program} {w:World} {A:Around} {E:Value→Shared→Prop} {s:Shared}
theorem ZbB {src:Source} {n:Nat} {Q:Nat→Shared→Prop} (hn:n≠0) (h:∀ i d,i < n→Q i { s with drawn:=d }):wpAny (model prog w) A (choose src n) Q E s :=
 fun _ _ _=>⟨hn,h _ _ (Nat.mod_lt _ (Nat.pos_of_ne_zero hn))⟩
theorem Zci {α:Type}:∀ (n:Nat) (xs:List α) (s:Shared) {Q:List α→Shared→Prop},xs.length≤n→(∀ ys d,ys.Perm xs→Q ys { s with drawn:=d })→wpAny (model prog w) A (drawOrder n xs) Q E s
 | 0,xs,s,Q,hl,h=>by
  have:xs=[]:=List.length_eq_zero_iff.mp (by omega)
  subst this
  unfold drawOrder
  exact wpAny_pure (h [] s.drawn (List.Perm.refl _))
 | n + 1,[],s,Q,hl,h=>by
  unfold drawOrder
  exact wpAny_pure (h [] s.drawn (List.Perm.refl _))
 | n + 1,x :: xs,s,Q,hl,h=>by
  unfold drawOrder
  refine wpAny_bind (ZbB (by simp) fun i d hi=>?_)
  rw [List.getElem?_eq_getElem hi]
  dsimp only
  refine wpAny_bind (Zci n ((x :: xs).eraseIdx i) { s with drawn:=d } ?_ fun ys d2 hp=>wpAny_pure (h _ d2 ?_))
  ·rw [List.length_eraseIdx]
   split <;> simp at * <;> omega
  ·exact (hp.cons _).trans (ZaG hi)
structure SeesS (h:Heap) (a:Addr) (o:Obj) (es:Array (Int × Value)) (ep:Nat) (t:SetTable) (n:Nat):Prop where
 ob:h.get? a=some o
 dt:o.data = .set es ep t
 fits:t.fits es.size=true
 len:es.size=n
theorem Yd {a:Addr} {o:Obj} {es:Array (Int × Value)} {ep n:Nat} {t:SetTable} {Q:(Array (Int × Value) × Nat × SetTable)→Shared→Prop} (V:SeesS s.heap a o es ep t n) (q:Q (es,ep,t) s):wpAny (model prog w) A (setState a) Q E s:=wpAny_setState_of V.ob V.dt V.fits q
theorem Yz {J a:Addr} {f:Value} {i n ep:Nat} {o:Obj} {es:Array (Int × Value)} {t:SetTable} {Q:PySem.Fin→Shared→Prop} (hJ:ZbA s.heap J f i a n ep) (V:SeesS s.heap a o es ep t n)
  (q:wpAny (model prog w) A (if let .int slot _:=f then (do
    match ← setNext a slot.toNat (i:Int).toNat (ep:Int).toNat with
    | some (x,next) =>
     setField (.ref J) 0 (rawInt next)
     setField (.ref J) 1 (rawInt ((i:Int) + 1))
     ret x
    | none=>setField (.ref J) 2 .none; raiseNew (← newExc (.type "StopIteration") []))
   else (do
    let some places ← seqItems? f | unsupported "internal:set_iterator"
    match places[(i:Int).toNat]? with
    | some (.int place _) =>
     let x ← setNextDrawn a place.toNat (ep:Int).toNat
     setField (.ref J) 1 (rawInt ((i:Int) + 1))
     ret x
    | some _=>unsupported "internal:set_iterator"
    | none=>setField (.ref J) 0 (rawInt 0); setField (.ref J) 2 .none; raiseNew (← newExc (.type "StopIteration") []))) Q E s) :
  wpAny (model prog w) A (Builtin.«set_iterator.__next__» ⟨[.ref J],[]⟩) Q E s:=by
 refine (show wpAny _ _ (fieldsOf (.ref J) >>= _) _ _ s from wpAny_bind (wpAny_fieldsOf hJ rfl ?_))
 dsimp only
 refine wpAny_bind (wpAny_setEntries_of V.ob V.dt V.fits ?_)
 rw [if_neg (by rw [V.len]; simp)]
 exact q
theorem XU {J:Addr} {Q:PySem.Fin→Shared→Prop} {g0:Heap} (hh:A.handled=none)
  (q:∀ g e,(∀ c o,g0.get? c=some o→g.get? c=some o)→(∃ o,g.get? e=some o∧o.cls = .type "StopIteration")→E (.ref e) { s with heap:=g }) :
  wpAny (model prog w) A (do raiseNew (← newExc (.type "StopIteration") [])) Q E { s with heap:=g0 }:=by
 refine wpAny_bind ?_
 simp only [newExc,newTuple]
 refine wpAny_bind (wpAny_newObj_type (wpAny_bind (m:=firstArgMember _ _) (wpAny_of_eq (a:=Value.none) (by first | rfl | (simp only [firstArgMember]; rfl)) (wpAny_newObj_type ?_ (by size_fits)))) (by size_fits))
 simp only [raiseNew]
 refine wpAny_bind (wpAny_handled ?_)
 first | rw [show A.in1.handled=none from hh] | rw [hh]
 exact wpAny_bind (wpAny_pure (wpAny_throw (q _ _ (fun c o e=>Heap.get?_push_of_some _ (Heap.get?_push_of_some _ e)) ⟨_,Heap.get?_push_size _ rfl,rfl⟩)))
theorem ZhS {J T a:Addr} {i n ep p m:Nat} {o oT:Obj} {es:Array (Int × Value)} {t:SetTable} {pl:Array Value} {hx:Int} {x:Value} {Q:Value→Shared→Prop} (hJ:ZbA s.heap J (.ref T) i a n ep) (V:SeesS s.heap a o es ep t n)
  (gT:s.heap.get? T=some oT) (dT:oT.data = .seq pl m) (hp:pl[i]?=some (.int p 0)) (hx:es[p]?=some (hx,x)) (q:∀ g,ZbA g J (.ref T) (i + 1) a n ep→Heap.SameBut J s.heap g→Q x { s with heap:=g }) :
  wpAny (model prog w) A (Builtin.«set_iterator.__next__» ⟨[.ref J],[]⟩) (fun fin s'=>∃ v,fin = .done (.ret v)∧Q v s') E s:=by
 refine Yz hJ V ?_
 dsimp only
 refine wpAny_bind (wpAny_seqItems gT dT ?_)
 simp only [Int.toNat_natCast,hp]
 unfold setNextDrawn
 refine wpAny_bind (wpAny_bind (Yd V ?_))
 dsimp only
 rw [if_neg (by simp),hx]
 refine wpAny_pure (wpAny_bind (wpAny_setField_rec hJ (by simp) fun g hg sb=>wpAny_pure ⟨x,rfl,q g ?_ sb⟩))
 have e:((i + 1:Nat):Int)=(i:Int) + 1:=by push_cast; rfl
 unfold ZbA
 rw [e]
 exact hg
theorem Zkh {J T a:Addr} {i n ep m:Nat} {o oT:Obj} {es:Array (Int × Value)} {t:SetTable} {pl:Array Value} {Q:PySem.Fin→Shared→Prop} (hh:A.handled=none) (hJ:ZbA s.heap J (.ref T) i a n ep) (V:SeesS s.heap a o es ep t n)
  (gT:s.heap.get? T=some oT) (dT:oT.data = .seq pl m) (hp:pl[i]?=none) (q:∀ g e,(∀ c o,c≠J→s.heap.get? c=some o→g.get? c=some o)→(∃ o,g.get? e=some o∧o.cls = .type "StopIteration")→E (.ref e) { s with heap:=g }) :
  wpAny (model prog w) A (Builtin.«set_iterator.__next__» ⟨[.ref J],[]⟩) Q E s:=by
 refine Yz hJ V ?_
 dsimp only
 refine wpAny_bind (wpAny_seqItems gT dT ?_)
 simp only [Int.toNat_natCast,hp]
 refine wpAny_bind (wpAny_setField_rec hJ (by simp) fun g1 hg1 sb1=>wpAny_bind (wpAny_setField_rec hg1 (by simp) fun g2 hg2 sb2=>?_))
 exact XU (J:=J) hh fun g e k he=>q g e (fun c o hc z=>k c o (sb2.extBut _ _ hc (sb1.extBut _ _ hc z))) he
theorem ZhQ {J a:Addr} {i n ep:Nat} {o:Obj} {es:Array (Int × Value)} {t:SetTable} {hx:Int} {x:Value} {Q:Value→Shared→Prop} (hb:byT w=true) (hJ:ZbA s.heap J (.int 0 0) i a n ep) (V:SeesS s.heap a o es ep t n)
  (hp:(pickOrder (w.params.setOrder a ep) es)[i]?=some (hx,x)) (q:∀ g,ZbA g J (.int 0 0) (i + 1) a n ep→Heap.SameBut J s.heap g→Q x { s with heap:=g }) :
  wpAny (model prog w) A (Builtin.«set_iterator.__next__» ⟨[.ref J],[]⟩) (fun fin s'=>∃ v,fin = .done (.ret v)∧Q v s') E s:=by
 refine Yz hJ V ?_
 dsimp only
 refine wpAny_bind ?_
 unfold setNext setsByText
 refine wpAny_bind (Yd V ?_)
 dsimp only
 refine wpAny_bind (wpAny_bind (wpAny_askSetting (wpAny_pure ?_)))
 dsimp only
 rw [if_pos (show (model prog w).w.params.followText "set-order" = true from hb),if_neg (by simp)]
 unfold setWalk setsByText
 refine wpAny_bind (wpAny_bind (Yd V ?_))
 dsimp only
 refine wpAny_bind (wpAny_bind (wpAny_askSetting (wpAny_pure ?_)))
 dsimp only
 rw [if_pos (show (model prog w).w.params.followText "set-order" = true from hb)]
 refine wpAny_bind (wpAny_askSetting (wpAny_pure (wpAny_pure ?_)))
 have hp':(pickOrder ((model prog w).w.params.setOrder a ep) es)[i]?=some (hx,x):=hp
 simp only [Int.toNat_natCast,hp',Option.map_some]
 refine wpAny_bind (wpAny_setField_rec hJ (by simp) fun g1 hg1 sb1=>wpAny_bind (wpAny_setField_rec hg1 (by simp) fun g2 hg2 sb2=>wpAny_pure ⟨x,rfl,q g2 ?_ (sb1.trans sb2)⟩))
 have e:((i + 1:Nat):Int)=(i:Int) + 1:=by push_cast; rfl
 unfold ZbA
 rw [e]
 exact hg2
theorem Zkf {J a:Addr} {i n ep:Nat} {o:Obj} {es:Array (Int × Value)} {t:SetTable} {Q:PySem.Fin→Shared→Prop} (hh:A.handled=none) (hb:byT w=true) (hJ:ZbA s.heap J (.int 0 0) i a n ep) (V:SeesS s.heap a o es ep t n)
  (hp:(pickOrder (w.params.setOrder a ep) es)[i]?=none) (q:∀ g e,(∀ c o,c≠J→s.heap.get? c=some o→g.get? c=some o)→(∃ o,g.get? e=some o∧o.cls = .type "StopIteration")→E (.ref e) { s with heap:=g }) :
  wpAny (model prog w) A (Builtin.«set_iterator.__next__» ⟨[.ref J],[]⟩) Q E s:=by
 refine Yz hJ V ?_
 dsimp only
 refine wpAny_bind ?_
 unfold setNext setsByText
 refine wpAny_bind (Yd V ?_)
 dsimp only
 refine wpAny_bind (wpAny_bind (wpAny_askSetting (wpAny_pure ?_)))
 dsimp only
 rw [if_pos (show (model prog w).w.params.followText "set-order" = true from hb),if_neg (by simp)]
 unfold setWalk setsByText
 refine wpAny_bind (wpAny_bind (Yd V ?_))
 dsimp only
 refine wpAny_bind (wpAny_bind (wpAny_askSetting (wpAny_pure ?_)))
 dsimp only
 rw [if_pos (show (model prog w).w.params.followText "set-order" = true from hb)]
 refine wpAny_bind (wpAny_askSetting (wpAny_pure (wpAny_pure ?_)))
 have hp':(pickOrder ((model prog w).w.params.setOrder a ep) es)[i]?=none:=hp
 simp only [Int.toNat_natCast,hp',Option.map_none]
 refine wpAny_bind (wpAny_setField_rec hJ (by simp) fun g1 hg1 sb1=>?_)
 exact XU (J:=J) hh fun g e k he=>q g e (fun c o hc z=>k c o (sb1.extBut _ _ hc z)) he
theorem Zat {a:Addr} {sl i n ep:Nat} {o:Obj} {es:Array (Int × Value)} {t:SetTable} {Q:Option (Value × Nat)→Shared→Prop} (hb:byT w=false) (V:SeesS s.heap a o es ep t n) (hn:n≤1) (led:t.led=true)
  (q:Q (match es[SetTable.below t.place sl]?,t.place[SetTable.below t.place sl]? with
   | some (_,x),some j=>some (x,j + 1)
   | _,_=>none) s):wpAny (model prog w) A (setNext a sl i ep) Q E s:=by
 unfold setNext setsByText
 refine wpAny_bind (Yd V ?_)
 dsimp only
 refine wpAny_bind (wpAny_bind (wpAny_askSetting (wpAny_pure ?_)))
 dsimp only
 rw [if_neg (by rw [show (model prog w).w.params.followText "set-order" = false from hb]; decide)]
 refine (show wpAny (model prog w) A (if (!t.plain && decide (es.size > 1))=true then _ else _) Q E s from ?_)
 rw [if_neg (by rw [V.len]; simp; omega)]
 refine (show wpAny (model prog w) A ((if (!t.led && !es.isEmpty)=true then unsupported "set:maker-not-led" else pure ()) >>= fun _=>_) Q E s from ?_)
 rw [led]
 simp only [Bool.not_true,Bool.false_and,Bool.false_eq_true,if_false]
 exact wpAny_bind (wpAny_pure (wpAny_pure q))
theorem ZhR {J a:Addr} {ep j:Nat} {o:Obj} {es:Array (Int × Value)} {t:SetTable} {hx:Int} {x:Value} {Q:Value→Shared→Prop} (hb:byT w=false) (led:t.led=true) (hJ:ZbA s.heap J (.int 0 0) 0 a 1 ep) (V:SeesS s.heap a o es ep t 1)
  (hj:t.place = #[j]) (hp:es[0]?=some (hx,x)) (q:∀ g,ZbA g J (.int ((j + 1:Nat):Int) 0) 1 a 1 ep→Heap.SameBut J s.heap g→Q x { s with heap:=g }) :
  wpAny (model prog w) A (Builtin.«set_iterator.__next__» ⟨[.ref J],[]⟩) (fun fin s'=>∃ v,fin = .done (.ret v)∧Q v s') E s:=by
 refine Yz hJ V ?_
 dsimp only
 refine wpAny_bind (Zat hb V (Nat.le_refl _) led ?_)
 have hbw:SetTable.below t.place (0:Int).toNat=0:=by rw [hj]; rfl
 rw [hbw,hp,hj]
 refine wpAny_bind (wpAny_setField_rec hJ (by simp) fun g1 hg1 sb1=>wpAny_bind (wpAny_setField_rec hg1 (by simp) fun g2 hg2 sb2=>wpAny_pure ⟨x,rfl,q g2 hg2 (sb1.trans sb2)⟩))
theorem Zkg {J a:Addr} {sl i n ep:Nat} {o:Obj} {es:Array (Int × Value)} {t:SetTable} {Q:PySem.Fin→Shared→Prop} (hh:A.handled=none) (hb:byT w=false) (led:t.led=true) (hJ:ZbA s.heap J (.int (sl:Int) 0) i a n ep) (V:SeesS s.heap a o es ep t n) (hn:n≤1)
  (hp:es[SetTable.below t.place sl]?=none) (q:∀ g e,(∀ c o,c≠J→s.heap.get? c=some o→g.get? c=some o)→(∃ o,g.get? e=some o∧o.cls = .type "StopIteration")→E (.ref e) { s with heap:=g }) :
  wpAny (model prog w) A (Builtin.«set_iterator.__next__» ⟨[.ref J],[]⟩) Q E s:=by
 refine Yz hJ V ?_
 dsimp only
 refine wpAny_bind (Zat hb V hn led ?_)
 rw [Int.toNat_natCast,hp]
 refine wpAny_bind (wpAny_setField_rec hJ (by simp) fun g1 hg1 sb1=>?_)
 exact XU (J:=J) hh fun g e k he=>q g e (fun c o hc z=>k c o (sb1.extBut _ _ hc z)) he
end
theorem SeesS.keep {h h':Heap} {a:Addr} {o:Obj} {es:Array (Int × Value)} {ep n:Nat} {t:SetTable} (V:SeesS h a o es ep t n) (k:∀ o,h.get? a=some o→h'.get? a=some o):SeesS h' a o es ep t n:={ V with ob:=k o V.ob }
theorem ZfK:Slot "set_iterator" "__iter__" "set_iterator.__iter__" :=
 .of (owner:="set_iterator") (n:="__iter__") (by rw [typeLookup_type,builtinLookup_eq_fast]; kernel_rfl) (by decide +kernel) (by decide +kernel) (by decide +kernel) (by first | exact .inl (by decide +kernel) | exact .inr (by decide +kernel)) (by rw [isSubtype_type]; kernel_rfl)
theorem ZhO:entryFor table "set_iterator.__iter__" = some Builtin.«dict_keyiterator.__iter__» :=
 entryFor_alias (id':="dict_keyiterator.__iter__") (by kernel_rfl) (by first | rfl | decide +kernel | (unfold String.splitOn; simp +decide [String.splitOnAux])) (by decide +kernel) (by kernel_rfl)
theorem ZhP (a:Value):argsOk "set_iterator.__iter__" ⟨[a],[]⟩:=by unfold argsOk; kernel_rfl
theorem ZcL {prog:Program} {w:World} {A:Around} {E:Value→Shared→Prop} {s:Shared} {J a:Addr} {f:Value} {i n ep:Nat} {Q:Value→Shared→Prop} (hJ:ZbA s.heap J f i a n ep) (h:Q (.ref J) s):wpAny (model prog w) A (pyIter (.ref J)) Q E s:=by
 refine wpAny_pyIter_slot ⟨_,hJ,rfl⟩ ZfK (wpAny_call_entry ZfK ⟨_,hJ,rfl⟩ ZhO ?_ (ZhP _))
 exact (show wpAny _ _ (ret (.ref J)) _ _ s from wpAny_pure ⟨_,rfl,"set_iterator",_,⟨_,hJ,rfl⟩,si_slot.lookup,h⟩)
section
variable {prog:Program} {w:World} {A:Around} {E:Value→Shared→Prop} {s:Shared}
abbrev Zjz (ord:Array (Int × Value)) (i:Nat) (v:Value):Prop:=∃ e,ord[i]?=some e∧v=e.2
theorem ZmW (hh:A.handled=none) {J T a:Addr} {n ep:Nat} {o:Obj} {es:Array (Int × Value)} {t:SetTable} {ps:List Nat} (hJT:T≠J) (hJa:a≠J) (hps:ps.length=n) (hlt:∀ p∈ps,p < es.size) :
  Walks prog w A J [J,T,a] [J] n (Zjz (ps.map fun p=>es.getD p (0,.none)).toArray) (fun i h=>ZbA h J (.ref T) i a n ep∧(∃ oT m,h.get? T=some oT∧oT.data = .seq (ps.map fun p:Nat=>Value.int (p:Int) 0).toArray m)∧SeesS h a o es ep t n) where
 sub:=fun b hb=>by rw [List.mem_singleton.mp hb]; simp
 frame:=fun i h h' ⟨s1,⟨oT,m,g,d⟩,s3⟩ k=>⟨k J (by simp) _ s1,⟨oT,m,k T (by simp) _ g,d⟩,s3.keep fun o e=>k a (by simp) o e⟩
 item:=fun i s Q E hi ⟨s1,⟨oT,m,g,d⟩,s3⟩ q=>by
  have hi':i < ps.length:=by omega
  have hp:(ps.map fun p:Nat=>Value.int (p:Int) 0).toArray[i]?=some (.int (ps[i]:Nat) 0):=by simp [hi']
  have hpe:ps[i] < es.size:=hlt _ (List.getElem_mem hi')
  have hx:es[ps[i]]?=some (es[ps[i]].1,es[ps[i]].2):=by rw [Array.getElem?_eq_getElem hpe]
  unfold pyNext
  refine wpAny_bind (wpAny_attempt (wpAny_callSpecial?_slot (name:=Str.ofString "__next__") ⟨_,s1,rfl⟩ si_slot (wpAny_call_entry si_slot ⟨_,s1,rfl⟩ Y6 (ZhS s1 s3 g d hp hx fun g1 h1 sb=>wpAny_pure (q _ g1 s.toks ?_ ?_ ?_)) (XW _))))
  ·refine ⟨es[ps[i]],?_,rfl⟩
   simp [hi',hpe]
  ·exact ⟨h1,⟨oT,m,sb.extBut _ _ hJT g,d⟩,s3.keep fun o e=>sb.extBut _ _ hJa e⟩
  ·exact fun b o hb e=>sb.extBut _ _ (fun z=>hb (by simp [z])) e
 done:=fun s Q E ⟨s1,⟨oT,m,g,d⟩,s3⟩ q=>by
  unfold pyNext
  refine wpAny_bind (wpAny_attempt (wpAny_callSpecial?_slot (name:=Str.ofString "__next__") ⟨_,s1,rfl⟩ si_slot (wpAny_call_entry si_slot ⟨_,s1,rfl⟩ Y6 (Zkh hh s1 s3 g d (by simp [hps]) fun g1 e k ⟨oe,ge,ce⟩=>?_) (XW _))))
  exact wpAny_bind (wpAny_isInstance (T:="StopIteration") (b:=true) ⟨oe,ge,ce⟩ isSubtype_stop (wpAny_pure (q g1 s.toks fun b o hb z=>k b o (fun y=>hb (by simp [y])) z)))
 self:=fun i s Q E ⟨s1,_⟩ q=>ZcL s1 q
theorem ZmU (hh:A.handled=none) (hb:byT w=true) {J a:Addr} {n ep:Nat} {o:Obj} {es:Array (Int × Value)} {t:SetTable} (hJa:a≠J) (hn:es.size=n) :
  Walks prog w A J [J,a] [J] n (Zjz (pickOrder (w.params.setOrder a ep) es)) (fun i h=>ZbA h J (.int 0 0) i a n ep∧SeesS h a o es ep t n) where
 sub:=fun b hb=>by rw [List.mem_singleton.mp hb]; simp
 frame:=fun i h h' ⟨s1,s3⟩ k=>⟨k J (by simp) _ s1,s3.keep fun o e=>k a (by simp) o e⟩
 item:=fun i s Q E hi ⟨s1,s3⟩ q=>by
  have hsz:(pickOrder (w.params.setOrder a ep) es).size=n:=by rw [← Array.length_toList,(JT _ es).length_eq,Array.length_toList,hn]
  have hx:(pickOrder (w.params.setOrder a ep) es)[i]?=some ((pickOrder (w.params.setOrder a ep) es)[i]'(by omega)):=Array.getElem?_eq_getElem (by omega)
  unfold pyNext
  refine wpAny_bind (wpAny_attempt (wpAny_callSpecial?_slot (name:=Str.ofString "__next__") ⟨_,s1,rfl⟩ si_slot (wpAny_call_entry si_slot ⟨_,s1,rfl⟩ Y6 (ZhQ hb s1 s3 hx fun g1 h1 sb=>wpAny_pure (q _ g1 s.toks ⟨_,hx,rfl⟩ ⟨h1,s3.keep fun o e=>sb.extBut _ _ hJa e⟩ fun b o hb e=>sb.extBut _ _ (fun z=>hb (by simp [z])) e)) (XW _))))
 done:=fun s Q E ⟨s1,s3⟩ q=>by
  have hsz:(pickOrder (w.params.setOrder a ep) es).size=n:=by rw [← Array.length_toList,(JT _ es).length_eq,Array.length_toList,hn]
  unfold pyNext
  refine wpAny_bind (wpAny_attempt (wpAny_callSpecial?_slot (name:=Str.ofString "__next__") ⟨_,s1,rfl⟩ si_slot (wpAny_call_entry si_slot ⟨_,s1,rfl⟩ Y6 (Zkf hh hb s1 s3 (Array.getElem?_eq_none (by omega)) fun g1 e k ⟨oe,ge,ce⟩=>?_) (XW _))))
  exact wpAny_bind (wpAny_isInstance (T:="StopIteration") (b:=true) ⟨oe,ge,ce⟩ isSubtype_stop (wpAny_pure (q g1 s.toks fun b o hb z=>k b o (fun y=>hb (by simp [y])) z)))
 self:=fun i s Q E ⟨s1,_⟩ q=>ZcL s1 q
theorem ZmV (hh:A.handled=none) (hb:byT w=false) {J a:Addr} {n ep:Nat} {o:Obj} {es:Array (Int × Value)} {t:SetTable} (hJa:a≠J) (hn:es.size=n) (h1:n≤1) (led:t.led=true) (hf:t.fits es.size=true) :
  Walks prog w A J [J,a] [J] n (Zjz es) (fun i h=>(∃ sl:Nat,ZbA h J (.int (sl:Int) 0) i a n ep∧(i < n→sl=0)∧(i=n→es[SetTable.below t.place sl]?=none))∧SeesS h a o es ep t n) where
 sub:=fun b hb=>by rw [List.mem_singleton.mp hb]; simp
 frame:=fun i h h' ⟨⟨sl,s1,s2⟩,s3⟩ k=>⟨⟨sl,k J (by simp) _ s1,s2⟩,s3.keep fun o e=>k a (by simp) o e⟩
 item:=fun i s Q E hi ⟨⟨sl,s1,s2,_⟩,s3⟩ q=>by
  have hn1:n=1:=by omega
  have hi0:i=0:=by omega
  subst hi0
  have hsl:=s2 hi
  subst hsl
  subst hn1
  have hpz:t.place.size=1:=by
   simp only [SetTable.fits,Bool.and_eq_true,beq_iff_eq] at hf
   omega
  obtain ⟨j,hj⟩:∃ j,t.place = #[j]:=by
   generalize t.place=pl at hpz
   obtain ⟨l⟩:=pl
   match l,hpz with
   | [j],_=>exact ⟨j,rfl⟩
  have hx:es[0]?=some es[0]:=Array.getElem?_eq_getElem (by omega)
  unfold pyNext
  refine wpAny_bind (wpAny_attempt (wpAny_callSpecial?_slot (name:=Str.ofString "__next__") ⟨_,s1,rfl⟩ si_slot (wpAny_call_entry si_slot ⟨_,s1,rfl⟩ Y6 (ZhR hb led s1 s3 hj hx fun g1 hg1 sb=>wpAny_pure (q _ g1 s.toks ⟨_,hx,rfl⟩ ⟨⟨j + 1,hg1,fun z=>absurd z (by omega),fun _=>?_⟩,s3.keep fun o e=>sb.extBut _ _ hJa e⟩ fun b o hb e=>sb.extBut _ _ (fun z=>hb (by simp [z])) e)) (XW _))))
  have hbw:SetTable.below t.place (j + 1)=1:=by
   rw [hj]
   unfold SetTable.below
   show SetTable.below.go #[j] (j + 1) 1 0 1=1
   unfold SetTable.below.go
   rw [if_pos (by omega)]
   dsimp only
   rw [if_pos (by simp)]
   rfl
  rw [hbw]
  exact Array.getElem?_eq_none (by omega)
 done:=fun s Q E ⟨⟨sl,s1,_,s2⟩,s3⟩ q=>by
  unfold pyNext
  refine wpAny_bind (wpAny_attempt (wpAny_callSpecial?_slot (name:=Str.ofString "__next__") ⟨_,s1,rfl⟩ si_slot (wpAny_call_entry si_slot ⟨_,s1,rfl⟩ Y6 (Zkg hh hb led s1 s3 h1 (s2 rfl) fun g1 e k ⟨oe,ge,ce⟩=>?_) (XW _))))
  exact wpAny_bind (wpAny_isInstance (T:="StopIteration") (b:=true) ⟨oe,ge,ce⟩ isSubtype_stop (wpAny_pure (q g1 s.toks fun b o hb z=>k b o (fun y=>hb (by simp [y])) z)))
 self:=fun i s Q E ⟨⟨sl,s1,_⟩,_⟩ q=>ZcL s1 q
end
end L2
namespace L2
open PySem PySem.Spec PyProof.Rows PySem.W
section
variable {prog:Program} {w:World} {A:Around} {E:Value→Shared→Prop} {s:Shared}
theorem range_getD {es:Array (Int × Value)} {ps:List Nat} (h:ps.Perm (List.range es.size)):(ps.map fun p=>es.getD p (0,.none)).Perm es.toList:=by
 have h1:=h.map fun p=>es.getD p (0,.none)
 have h2:((List.range es.size).map fun p=>es.getD p (0,.none))=es.toList:=by
  apply List.ext_getElem?
  intro i
  rw [List.getElem?_map]
  by_cases hi:i < es.size
  ·rw [List.getElem?_range hi,Array.getElem?_toList,Array.getElem?_eq_getElem hi]
   simp [hi]
  ·rw [List.getElem?_eq_none (by simp; omega),List.getElem?_eq_none (by simp; omega)]
   rfl
 rw [h2] at h1
 exact h1
theorem ZiC {A':Around} {a:Addr} {ks:List Str} {o:Obj} {es:Array (Int × Value)} {ep:Nat} {t:SetTable} {Q:Value→Shared→Prop} (hh:A'.handled=none) (S:StT prog w s.heap a ks o es ep t) (hz:ks.length≤1000)
  (q:∀ (J:Addr) (h1:Heap) (d:Drawn) (ord:Array (Int × Value)) (fp:List Addr) (St:Nat→Heap→Prop),ord.toList.Perm es.toList→Walks prog w A' J fp [J] ks.length (Zjz ord) St→St 0 h1→(∀ b∈fp,b=a∨s.heap.objs.size≤b)→s.heap.objs.size≤J →
   (∀ b u,s.heap.get? b=some u→h1.get? b=some u)→Q (.ref J) { s with heap:=h1,drawn:=d }):wpAny (model prog w) A (pyIter (.ref a)) Q E s:=by
 have hT:s.TypeIs (.ref a) "set":=⟨o,S.ob,S.ex.1⟩
 have V:SeesS s.heap a o es ep t ks.length:=⟨S.ob,S.dt,S.fits,S.len⟩
 have ha:a < s.heap.objs.size:=Heap.lt_size S.ob
 have es0:s={ s with heap:=s.heap,drawn:=s.drawn }:=by cases s; rfl
 refine wpAny_pyIter_slot hT PySem.F.slot_set_iter (wpAny_call_entry PySem.F.slot_set_iter hT ZhM ?_ (PySem.F.args_set_iter_1 _))
 unfold Builtin.«frozenset.__iter__»
 refine (show wpAny _ _ (Builtin.Frozenset.sizeOf a >>= _) _ _ s from wpAny_bind ?_)
 unfold Builtin.Frozenset.sizeOf
 refine wpAny_bind (wpAny_setEntries_of V.ob V.dt V.fits (wpAny_pure ?_))
 dsimp only
 unfold setDrawn setsByText
 refine wpAny_bind (wpAny_bind (Yd V ?_))
 dsimp only
 refine wpAny_bind (wpAny_bind (wpAny_askSetting (wpAny_pure (wpAny_pure ?_))))
 have lift1:∀ (x:Bool) (h:x=(!byT w && (!t.plain && decide (es.size > 1)))),x=(!(model prog w).w.params.followText "set-order" && (!t.plain && decide (es.size > 1))):=fun x h=>h
 by_cases c:(!byT w && (!t.plain && decide (es.size > 1)))=true
 ·refine (show wpAny (model prog w) _ (if (!byT w && (!t.plain && decide (es.size > 1)))=true then _ else _) _ _ s from ?_)
  rw [if_pos c]
  refine wpAny_bind (Zci es.size (List.range es.size) s (by simp) fun ps d hp=>?_)
  have hpl:ps.length=ks.length:=by rw [hp.length_eq,List.length_range,S.len]
  refine wpAny_bind (wpAny_newTuple ?_ (by rw [List.length_map]; exact Xw (by omega)))
  have V1:SeesS (s.heap.push { cls:=.type "tuple",data:=.seq (ps.map fun i:Nat=>rawInt i).toArray }) a o es ep t ks.length:=V.keep fun o e=>Heap.get?_push_of_some _ e
  refine wpAny_bind ?_
  unfold setEpoch
  refine wpAny_bind (Yd (s:={ s with heap:=s.heap.push { cls:=.type "tuple",data:=.seq (ps.map fun i:Nat=>rawInt i).toArray },drawn:=d }) V1 (wpAny_pure ?_))
  refine wpAny_bind (wpAny_newObj_type (wpAny_pure ⟨_,rfl,"set_iterator",_,⟨_,Heap.get?_push_size _ rfl,rfl⟩,si_slot.lookup,?_⟩))
  have hsz:(s.heap.push { cls:=.type "tuple",data:=.seq (ps.map fun i:Nat=>rawInt i).toArray }).objs.size=s.heap.objs.size + 1:=Heap.size_push ..
  refine q _ _ d (ps.map fun p=>es.getD p (0,.none)).toArray [_,s.heap.objs.size,a] _ (range_getD hp) (ZmW hh (T:=s.heap.objs.size) (a:=a) (ep:=ep) (o:=o) (es:=es) (t:=t) (by rw [hsz]; exact Nat.ne_of_lt (Nat.lt_succ_self _)) (by rw [hsz]; exact Nat.ne_of_lt (Nat.lt_succ_of_lt ha)) hpl fun p hpm=>List.mem_range.mp (hp.mem_iff.mp hpm)) ⟨?_,⟨_,_,Heap.get?_push_of_some _ (Heap.get?_push_size _ rfl),rfl⟩,V1.keep fun o e=>Heap.get?_push_of_some _ e⟩ ?_ (by rw [hsz]; exact Nat.le_succ _) fun b u e=>Heap.get?_push_of_some _ (Heap.get?_push_of_some _ e)
  ·unfold ZbA
   rw [Heap.get?_push_size _ rfl,S.len]
   rfl
  ·intro b hb
   rcases List.mem_cons.mp hb with z | z
   ·rw [z,hsz]; exact .inr (Nat.le_succ _)
   ·rcases List.mem_cons.mp z with z | z
    ·rw [z]; exact .inr (Nat.le_refl _)
    ·exact .inl (List.mem_singleton.mp z)
 ·refine (show wpAny (model prog w) _ (if (!byT w && (!t.plain && decide (es.size > 1)))=true then _ else _) _ _ s from ?_)
  rw [if_neg c]
  refine wpAny_bind (wpAny_pure (wpAny_bind ?_))
  unfold setEpoch
  refine wpAny_bind (Yd V (wpAny_pure ?_))
  refine wpAny_bind (wpAny_newObj_type (wpAny_pure ⟨_,rfl,"set_iterator",_,⟨_,Heap.get?_push_size _ rfl,rfl⟩,si_slot.lookup,?_⟩))
  have fpk:∀ b∈[s.heap.objs.size,a],b=a∨s.heap.objs.size≤b:=fun b hb=>by
   rcases List.mem_cons.mp hb with z | z
   ·rw [z]; exact .inr (Nat.le_refl _)
   ·exact .inl (List.mem_singleton.mp z)
  have gJ:ZbA (s.heap.push { cls:=.type "set_iterator",data:=.fields #[rawInt 0,rawInt 0,.ref a,rawInt es.size,rawInt ep] }) s.heap.objs.size (.int 0 0) 0 a ks.length ep:=by
   unfold ZbA
   rw [Heap.get?_push_size _ rfl,S.len]
   rfl
  by_cases hb:byT w=true
  ·exact q _ _ s.drawn _ [s.heap.objs.size,a] _ (JT _ es) (ZmU hh hb (o:=o) (t:=t) (Nat.ne_of_lt ha) S.len) ⟨gJ,V.keep fun o e=>Heap.get?_push_of_some _ e⟩ fpk (Nat.le_refl _) fun b u e=>Heap.get?_push_of_some _ e
  ·have hb':byT w=false:=by simpa using hb
   have led:t.led=true:=by rw [S.led,hb']; rfl
   have h1:ks.length≤1:=by
    rcases Nat.lt_or_ge 1 ks.length with z | z
    ·have hpf:=S.plain (fun e=>by rw [e] at z; simp at z)
     exact absurd (by rw [hb',hpf,S.len]; simp; omega) c
    ·exact z
   refine q _ _ s.drawn es [s.heap.objs.size,a] _ (List.Perm.refl _) (ZmV hh hb' (o:=o) (t:=t) (ep:=ep) (Nat.ne_of_lt ha) S.len h1 led S.fits) ⟨⟨0,gJ,fun _=>rfl,fun z=>?_⟩,V.keep fun o e=>Heap.get?_push_of_some _ e⟩ fpk (Nat.le_refl _) fun b u e=>Heap.get?_push_of_some _ e
   have:es.size=0:=by rw [S.len]; exact z.symm
   exact Array.getElem?_eq_none (by omega)
end
theorem Zgz:∀ {ks xs:List Str},ks.Nodup→(∀ x∈ks,x∈xs)→xs.length=ks.length→xs.Perm ks
 | [],xs,_,_,hl=>by rw [List.length_eq_zero_iff.mp hl]
 | k :: ks,xs,nd,hs,hl=>by
  have nd':=List.nodup_cons.mp nd
  have hk:=hs k (List.mem_cons_self ..)
  have p:=List.perm_cons_erase hk
  refine p.trans (List.Perm.cons k (Zgz nd'.2 (fun x hx=>?_) ?_))
  ·have hne:x≠k:=fun e=>nd'.1 (e ▸ hx)
   exact (List.mem_erase_of_ne hne).mpr (hs x (List.mem_cons_of_mem _ hx))
  ·rw [List.length_erase_of_mem hk,hl]
   rfl
section
variable {prog:Program} {w:World} {A:Around} {E:Value→Shared→Prop} {s:Shared}
theorem ZiE {r:Addr} {Q:Bool→Shared→Prop} (hT:s.TypeIs (.ref r) "set") (q:Q false s):wpAny (model prog w) A (Builtin.List.listLengthHint (.ref r)) Q E s:=by
 unfold Builtin.List.listLengthHint
 refine wpAny_bind (wpAny_specialOf hT PySem.F.slot_set_len.lookup ?_)
 generalize hid:("set.__len__" : String)=nm
 wp_delta
 rw [show splitId nm=some ("set","__len__") from by subst hid; decide +kernel]
 subst hid
 refine wpAny_bind (wpAny_isInstance (T:="set") (b:=true) hT (by rw [isSubtype_type]; kernel_rfl) ?_)
 refine wpAny_ite_split (fun z=>absurd z (by decide)) fun _=>wpAny_ite_split (fun _=>?_) fun z=>absurd (by decide +kernel) z
 exact wpAny_bind (wpAny_typeOf hT (wpAny_pure q))
theorem ZeW {R:Result→Shared→Prop} {a S:Addr} {ks:List Str} {o:Obj} {es:Array (Int × Value)} {ep:Nat} {t:SetTable} {c₀:Nat} {res:Value} (hh:A.handled=none) (T:StT prog w s.heap a ks o es ep t) (hz:ks.length≤1000) (hSa:S≠a) (hS:s.heap.get? S=some { cls:=.type "list",data:=.seq #[] c₀ })
  (q:∀ h1 tk d acc c (ord:Array (Int × Value)),ord.toList.Perm es.toList→(∀ b u,b≠S→s.heap.get? b=some u→h1.get? b=some u)→h1.get? S=some { cls:=.type "list",dict:=none,data:=.seq acc c,slots:=#[] }→ItemsOf (Zjz ord) acc ks.length→R (.ok (.ret res)) { s with heap:=h1,toks:=tk,drawn:=d }) :
  wpAny (model prog w) A.in1 (Builtin.List.listExtendWith (.ref S) (.ref a) res) (fun fin s'=>match fin with | .done f=>R (.ok f) s' | .again c'=>c'.quiet=true∧codeAny (model prog w) A c' R s') (fun e s'=>R (.error e) s') s:=by
 have hT:s.TypeIs (.ref a) "set":=⟨o,T.ob,T.ex.1⟩
 have hSl:S < s.heap.objs.size:=Heap.lt_size hS
 unfold Builtin.List.listExtendWith
 refine wpAny_bind (wpAny_typeOf (T:="set") hT ?_)
 have h1:Builtin.List.listSameRef (.ref S) (.ref a)=false:=by simp [Builtin.List.listSameRef,hSa]
 have n1:(Value.type "set" == Value.type "list")=false:=by decide
 have n2:(Value.type "set" == Value.type "tuple")=false:=by decide
 simp only [h1,n1,n2,Bool.or_false,Bool.false_eq_true,if_false]
 refine wpAny_bind (ZiC (A':=A.in1) hh T hz fun J g d ord fp St hp W st hfp hJ kk=>?_)
 have gS:=kk _ _ hS
 have nf:S∉fp:=fun z=>by
  rcases hfp S z with y | y
  ·exact hSa y
  ·exact absurd hSl (Nat.not_lt.mpr y)
 have key:∀ (h:Heap) (c₁ tk:Nat),St 0 h→(∀ b u,b≠S→s.heap.get? b=some u→h.get? b=some u)→h.get? S=some { cls:=.type "list",data:=.seq #[] c₁ }→codeAny (model prog w) A (.builtin "list.extend.loop" ⟨[.ref S,.ref J,res],[]⟩) R { s with heap:=h,toks:=tk,drawn:=d }:=by
  intro h c₁ tk hst hk hS₁
  refine codeAny_extend_loopS W.toS (Xw hz) S nf res ks.length 0 _ #[] c₁ rfl (Nat.zero_le _) hst hS₁ (ItemsOf.nil _) fun s2 acc c mv hS2 hacc=>?_
  rw [Moved.eq_with mv]
  refine q s2.heap s2.toks d acc c ord hp (fun b u hb e=>mv.heap b u (fun z=>?_) (hk b u hb e)) hS2 hacc
  rcases List.mem_cons.mp z with y | y
  ·exact hb y
  ·exact absurd (Heap.lt_size e) (by rw [List.mem_singleton.mp y]; exact Nat.not_lt.mpr hJ)
 refine wpAny_bind (wpAny_holding (ZiE (s:={ s with heap:=g,drawn:=d }) ⟨o,kk _ _ T.ob,T.ex.1⟩ ?_))
 refine wpAny_ite_split (fun _=>?_) (fun _=>wpAny_pure ⟨plainId_quiet PySem.F.plain_extend_loop _,key _ c₀ _ st (fun b u _ e=>kk b u e) gS⟩)
 refine wpAny_bind (wpAny_rule (wpAny_bind ?_))
 refine (show wpAny _ _ (updateSeq S (·.push .none) >>= fun _=>updateSeq S (·.pop)) _ _ _ from wpAny_bind (wpAny_updateSeq gS rfl ?_))
 have g2:=Heap.get?_update_self (Obj.mapSeq (·.push Value.none)) gS rfl
 refine wpAny_updateSeq (hz:=by seq_fits) g2 rfl ?_
 have g3:=Heap.get?_update_self (Obj.mapSeq (·.pop)) g2 rfl
 refine wpAny_pure ⟨plainId_quiet PySem.F.plain_extend_loop _,key _ _ _ (W.frame 0 _ _ st fun b hb u e=>?_) (fun b u hb e=>?_) g3⟩
 ·have ne:b≠S:=fun z=>nf (z ▸ hb)
  exact (Heap.get?_update_other _ _ (Ne.symm ne)).trans ((Heap.get?_update_other _ _ (Ne.symm ne)).trans e)
 ·exact (Heap.get?_update_other _ _ (Ne.symm hb)).trans ((Heap.get?_update_other _ _ (Ne.symm hb)).trans (kk _ _ e))
theorem Zdp {R:List Value→Shared→Prop} {a:Addr} {ks:List Str} {o:Obj} {es:Array (Int × Value)} {ep:Nat} {t:SetTable} (hh:A.handled=none) (T:StT prog w s.heap a ks o es ep t) (hz:ks.length≤1000)
  (q:∀ h1 tk d (acc:Array Value) (ord:Array (Int × Value)),ord.toList.Perm es.toList→(∀ b u,s.heap.get? b=some u→h1.get? b=some u)→ItemsOf (Zjz ord) acc ks.length→R acc.toList { s with heap:=h1,toks:=tk,drawn:=d }) :
  wpAny (model prog w) A (collect (.ref a)) R E s:=by
 have ha:a < s.heap.objs.size:=Heap.lt_size T.ob
 unfold collect
 refine wpAny_bind (wpAny_runValue (codeAny_builtin entry_proto_collect' ?_))
 rw [Around.under_plainId PySem.F.plain_proto_collect _]
 refine (show wpAny _ A.in1 (newList [] >>= fun l=>again (.builtin "list.__iadd__" ⟨[l,.ref a],[]⟩)) _ _ s from wpAny_bind (wpAny_newObj_type (wpAny_pure ⟨plainId_quiet PySem.F.plain_list_iadd _,codeAny_builtin entry_list_iadd' ?_⟩)))
 rw [Around.under_plainId PySem.F.plain_list_iadd _]
 have gS:(s.heap.push { cls:=.type "list",data:=.seq ([]:List Value).toArray }).get? s.heap.objs.size=some { cls:=.type "list",data:=.seq #[] }:=Heap.get?_push_size _ rfl
 show wpAny _ A.in1 (Builtin.List.listExtendWith (.ref s.heap.objs.size) (.ref a) (.ref s.heap.objs.size)) _ _ _
 have T1:StT prog w (s.heap.push { cls:=.type "list",data:=.seq ([]:List Value).toArray }) a ks o es ep t:={ T with ob:=Heap.get?_push_of_some _ T.ob }
 have key:=ZeW (A:=A) (s:={ s with heap:=s.heap.push { cls:=.type "list",data:=.seq ([]:List Value).toArray } })
  (R:=fun (z:Result) (s':Shared)=>∃ (g:Heap) (tk:Nat) (d:Drawn) (acc:Array Value) (c:Nat) (ord:Array (Int × Value)),z = .ok (.ret (.ref s.heap.objs.size))∧s'={ s with heap:=g,toks:=tk,drawn:=d }∧ord.toList.Perm es.toList ∧
   (∀ b u,s.heap.get? b=some u→g.get? b=some u)∧g.get? s.heap.objs.size=some { cls:=.type "list",dict:=none,data:=.seq acc c,slots:=#[] }∧ItemsOf (Zjz ord) acc ks.length)
  (S:=s.heap.objs.size) (res:=.ref s.heap.objs.size) (c₀:=0) hh T1 hz (Nat.ne_of_gt ha) gS (fun g tk d acc c ord hp kk gS2 hacc=>⟨g,tk,d,acc,c,ord,rfl,rfl,hp,fun b u e=>kk b u (Nat.ne_of_lt (Heap.lt_size e)) (Heap.get?_push_of_some _ e),gS2,hacc⟩)
 refine wpAny_mono key (fun fin s' x=>?_) fun e s' x=>?_
 ·cases fin with
  | done f =>
   obtain ⟨g,tk,d,acc,c,ord,e,rfl,hp,kk,gS2,hacc⟩:=x
   cases e
   exact (show wpAny _ A (load s.heap.objs.size >>= _) _ _ _ from wpAny_bind (wpAny_load gS2 (wpAny_pure (q g tk d acc ord hp kk hacc))))
  | again c1 =>
   refine ⟨x.1,codeAny_mono x.2 fun z s2 y=>?_⟩
   obtain ⟨g,tk,d,acc,c,ord,rfl,rfl,hp,kk,gS2,hacc⟩:=y
   exact (show wpAny _ A (load s.heap.objs.size >>= _) _ _ _ from wpAny_bind (wpAny_load gS2 (wpAny_pure (q g tk d acc ord hp kk hacc))))
 ·obtain ⟨_,_,_,_,_,_,z,_⟩:=x
  cases z
theorem ZfP {h:Heap} {a:Addr} {ks:List Str} {o:Obj} {es:Array (Int × Value)} {ep:Nat} {t:SetTable} (T:StT prog w h a ks o es ep t) {ord:Array (Int × Value)} (hp:ord.toList.Perm es.toList) {acc:Array Value} (hacc:ItemsOf (Zjz ord) acc ks.length) :
  ∃ xs:List Str,xs.Perm ks∧StrsAre acc.toList xs:=by
 have hol:ord.toList.length=ks.length:=by rw [hp.length_eq,Array.length_toList,T.len]
 have el:∀ e∈ord.toList,∃ x tk,e.2 = .str x tk∧x∈ks:=fun e he=>by
  have hm:=hp.mem_iff.mp he
  obtain ⟨⟨k,hk,_⟩,_⟩:=T.el e hm
  obtain ⟨x,ek,hx⟩:=(T.mem k).mpr ⟨e,hm,hk⟩
  subst ek
  rcases keyIs_shape (show J2 (Sum.inr x) e.2=true from hk) with ⟨j,t,e4,_⟩ | ⟨z,t,e4,e5⟩
  ·cases e4
  ·injection e4 with e4
   exact ⟨x,t,by rw [e5,e4],hx⟩
 have key:∀ (l:List (Int × Value)),(∀ e∈l,∃ x tk,e.2 = .str x tk∧x∈ks)→∃ xs:List Str,StrsAre (l.map (·.2)) xs∧(∀ x∈xs,x∈ks)∧xs.length=l.length∧∀ x,(∃ e∈l,J2 (Sum.inr x) e.2=true)→x∈xs:=by
  intro l
  induction l with
  | nil=>exact fun _=>⟨[],.nil,(fun x hx=>by cases hx),rfl,(fun x ⟨e,he,_⟩=>by cases he)⟩
  | cons e l ih =>
   intro hl
   obtain ⟨xs,h1,h2,h3,h4⟩:=ih fun e he=>hl e (List.mem_cons_of_mem _ he)
   obtain ⟨x,tk,ex,hx⟩:=hl e (List.mem_cons_self ..)
   refine ⟨x :: xs,?_,fun y hy=>?_,by simp [h3],fun y ⟨e',he',hk⟩=>?_⟩
   ·rw [List.map_cons,ex]
    exact .cons x tk h1
   ·rcases List.mem_cons.mp hy with z | z
    ·rw [z]; exact hx
    ·exact h2 y z
   ·rcases List.mem_cons.mp he' with z | z
    ·subst z
     rw [ex] at hk
     rcases keyIs_shape hk with ⟨j,t,e4,_⟩ | ⟨z,t,e4,e5⟩
     ·cases e4
     ·injection e4 with e4
      injection e5 with e5 _
      rw [e4,← e5]
      exact List.mem_cons_self ..
    ·exact List.mem_cons_of_mem _ (h4 y ⟨e',z,hk⟩)
 obtain ⟨xs,h1,h2,h3,h4⟩:=key ord.toList el
 have hsub:∀ x∈ks,x∈xs:=fun x hx=>by
  obtain ⟨e,he,hk⟩:=(T.mem (Sum.inr x)).mp ⟨x,rfl,hx⟩
  exact h4 x ⟨e,hp.mem_iff.mpr he,hk⟩
 refine ⟨xs,?_,?_⟩
 ·exact Zgz T.nd hsub (by omega)
 ·have:acc.toList=ord.toList.map (·.2):=by
   apply List.ext_getElem?
   intro i
   by_cases hi:i < acc.toList.length
   ·obtain ⟨e,e1,e2⟩:=hacc.2 i acc.toList[i] (by rw [← Array.getElem?_toList]; exact List.getElem?_eq_getElem hi)
    rw [List.getElem?_eq_getElem hi,List.getElem?_map,Array.getElem?_toList,e1,e2]
    rfl
   ·have hl:=hacc.1
    rw [← Array.length_toList] at hl
    rw [List.getElem?_eq_none (by omega),List.getElem?_eq_none (by rw [List.length_map]; omega)]
  rw [this]
  exact h1
end
section
variable {X:Cx} {pins:List (Addr × Obj)} {σ:St} {H:Hp} {s:Shared}
theorem Inv.drw (I:Inv X pins σ H s) (d:Drawn):Inv X pins σ H { s with drawn:=d }:=by
 refine I.step (h':=s.heap) (t':=s.toks) (g':=s.gens) (d':=d) (ch:=[]) (fun b hb=>by cases hb) (fun b u _ _ _ e _=>e) (fun b u _ _ _ e _=>⟨u.slots,e⟩) (fun b u _ e n=>n) (fun b u _ e=>⟨u,e⟩) (fun b xs e=>e) (fun b u xs e=>e) (fun b ps e=>⟨#[],by rw [e]; simp⟩) (fun m hm=>hm) I.hok I.bare
end
def stO (X:Cx) (p:Addr) (ks:List Str):HO:=.ext fun h=>SetT X.prog X.w h p ks
theorem XQ {X:Cx} (hc:X.calm=true):CallR X (.type "set") (fun xs H Q=>∃ (a:Addr) (ss:List Str),xs=[.ref a]∧SqL X.K H a (ss.map V.str)∧ss.length≤1000 ∧
  ∀ (p:Addr) (ks:List Str),H p=none→ks.Nodup→(∀ x,x∈ks↔x∈ss)→ks.length≤ss.length→Q (.ref p) (upd H p (stO X p ks))):=by
 intro pins s σ H xs us Q I r h
 obtain ⟨a,ss,rfl,hq,h1k,q⟩:=h
 obtain ⟨u,rfl,ru⟩:=Xg r
 cases ru
 obtain ⟨its,rv,pl,hz⟩:=I.list hq
 have hl:=rv.length
 rw [List.length_map] at hl
 refine Zhv (I.ok.hd hc) pl.isList (by simpa using XT rv) (by rw [List.size_toArray]; show its.length + 1 < 4096; omega) fun h1 tk hS kk=>?_
 have ez:its.toArray.size=ss.length:=by rw [List.size_toArray,hl]
 rw [ez] at hS
 have hn:H s.heap.objs.size=none:=I.hok.fresh (Nat.le_refl _)
 obtain ⟨o,es,ep,t,T⟩:=id hS
 refine ⟨.ref s.heap.objs.size,_,I.laid (t':=tk) (o:=stO X s.heap.objs.size _) kk (Nat.le_refl _) ⟨hS,⟨o,T.ob⟩,fun g1 g2 z k=>z.keep k⟩,rfl,q _ _ hn T.nd (fun x=>?_) (Zc9 _ _)⟩
 rw [ZgJ]
 constructor
 ·rintro ⟨j,hj,e⟩
  rw [← e,List.getD_eq_getElem?_getD,List.getElem?_eq_getElem hj]
  exact List.getElem_mem hj
 ·intro hx
  obtain ⟨j,hj,e⟩:=List.getElem_of_mem hx
  exact ⟨j,hj,by rw [List.getD_eq_getElem?_getD,List.getElem?_eq_getElem hj]; exact e⟩
theorem Yu {X:Cx} (hc:X.calm=true):CallR X (.builtin "sorted") (fun xs H Q=>∃ (p:Addr) (ks:List Str),xs=[.ref p]∧H p=some (stO X p ks)∧ks.length≤1000 ∧
  ∀ (q:Addr) (ss:List Str),H q=none→ss.Perm ks→(ss.map fun x=>x.cps.toList).Pairwise (· < ·)→Q (.ref q) (upd H q (.lst (ss.map V.str)))):=by
 intro pins s σ H xs us Q I r h
 obtain ⟨p,ks,rfl,hp,h1k,q⟩:=h
 obtain ⟨u,rfl,ru⟩:=Xg r
 cases ru
 obtain ⟨⟨o,es,ep,t,T⟩,_,_⟩:=(show SetT X.prog X.w s.heap p ks∧_ from I.hok p _ hp)
 refine Calls.call_function_entry kind_sorted plain_sorted entry_sorted (args_sorted1 _) ?_
 unfold Builtin.«sorted»
 refine wpAny_bind (m:=checkCount "sorted" 1 1 _) (wpAny_pure (wpAny_bind (Zdp (A:=X.A.in1) (I.ok.hd hc) T h1k fun h1 tk d acc ord hpm kk hacc=>?_)))
 obtain ⟨ys,hys,hS⟩:=ZfP T hpm hacc
 have hl:=Tim.strs_len hS
 have hyl:=hys.length_eq
 generalize acc.toList=vs at hS hl
 have SA:Tim.SortAs X.prog X.w h1 vs (Tim.ltS ys) oneType':=Tim.sa_strs hS
 refine wpAny_bind (wpAny_newList ?_ (Xw (by omega)))
 have hB:(h1.push { cls:=.type "list",data:=.seq vs.toArray }).get? h1.objs.size=some (seqObj "list" vs.toArray 0):=Heap.get?_push_size _ rfl
 have k1:∀ {h6:Heap},(∀ b o,b≠h1.objs.size→(h1.push { cls:=.type "list",data:=.seq vs.toArray }).get? b=some o→h6.get? b=some o)→∀ b o,h1.get? b=some o→h6.get? b=some o:=fun k b o e=>k b o (Nat.ne_of_lt (Heap.lt_size e)) (Heap.get?_push_of_some _ e)
 refine wpAny_bind (wpAny_holding (wpAny_call_entry slot_list_sort ⟨_,hB,rfl⟩ entry_list_sort ?_ (args_list_sort _)))
 refine Tim.list_sortW (s:={ s with heap:=h1.push { cls:=.type "list",data:=.seq vs.toArray },toks:=tk,drawn:=d }) hB (Xw (by omega)) SA.wo SA.same (fun h6 Q k h2 q=>SA.kd _ _ _ _ (k1 k) h2 q) (fun h6 tk' i j x y C k e1 e2 q=>SA.ask _ _ i j x y C (k1 k) e1 e2 fun tk2=>q tk2)
  fun h3 tk3 c pm hpm3 hs3 hkeep hD=>⟨_,rfl,wpAny_pure ⟨_,rfl,?_⟩⟩
 have hp':Srt.Pm ys.length pm:=by rw [← hl]; exact hpm3
 have hN:s.heap.get? h1.objs.size=none:=by
  cases e:s.heap.get? h1.objs.size with
  | none=>rfl
  | some u=>exact absurd (Heap.lt_size (kk _ _ e)) (Nat.lt_irrefl _)
 have hmem:∀ i∈pm.toList,i < ys.length:=fun i hi=>by
  have:i∈pm:=by simpa using hi
  have:=hp'.perm.mem_iff.mp this
  simpa using this
 have vv:∀ l:List Nat,(∀ i∈l,i < ys.length)→Vals ((l.map fun i=>ys.getD i "").map V.str) (l.map fun i=>vs.getD i Value.none):=by
  intro l
  induction l with
  | nil=>intro _; exact .nil
  | cons i l ih =>
   intro hh
   have hi:i < vs.length:=by have:=hh i (List.mem_cons_self ..); omega
   obtain ⟨t,e,_⟩:=Tim.strs_at hS i _ (List.getElem?_eq_getElem hi)
   refine .cons ?_ (ih fun j hj=>hh j (List.mem_cons_of_mem _ hj))
   show RelV (V.str (ys.getD i "")) (vs.getD i Value.none)
   rw [List.getD_eq_getElem?_getD (l:=vs),List.getElem?_eq_getElem hi]
   exact ⟨t,e⟩
 obtain ⟨hn,I2⟩:=Zgq (tk:=tk3) (vs:=(pm.toList.map fun i=>ys.getD i "").map V.str) (I.drw d) (fun b u e=>k1 hkeep b u (kk b u e)) hN (by rw [List.length_map,List.length_map,Array.length_toList,hp'.size]; exact Xw (by omega)) ⟨_,c,vv pm.toList hmem,hD⟩
 refine ⟨.ref h1.objs.size,_,I2,rfl,q _ _ hn ((Zau ys pm hp').trans hys) ?_⟩
 have nd:ys.Nodup:=hys.nodup_iff.mpr T.nd
 have hup:=ZlM (n:=ys.length) rfl nd hp' (by rw [← hl]; exact hs3)
 rw [List.map_map,List.pairwise_map,List.pairwise_iff_getElem]
 intro i j hi hj hij
 have hz2:pm.toList.length=ys.length:=by rw [Array.length_toList,hp'.size]
 have hu:=hup i j hij (by omega)
 unfold ltX at hu
 rw [decide_eq_true_eq,Zh7 hp' hi,Zh7 hp' hj] at hu
 exact hu
end L2
namespace Sh
open PySem L2 PyProof.Rows
end Sh
namespace Sh
open PySem L2 PyProof.Rows
seal L2.PE L2.PS L2.PSs L2.PT L2.PW L2.PA L2.PI L2.PG L2.PGs L2.PO L2.PC L2.PCs L2.OpR L2.UnR L2.CallR L2.MtR L2.IxR L2.SlR
theorem YO (g:Str→V) (y:Str):∀ ks:List Str,XR (ks.map fun x=>((Sum.inr x:Key),g x)) (Sum.inr y)=if y∈ks then some (g y) else none
 | []=>rfl
 | x :: ks=>by
  have ih:=YO g y ks
  by_cases e:x=y
  ·subst e
   rw [List.map_cons,Jm rfl,if_pos List.mem_cons_self]
  ·rw [List.map_cons,Jo (fun q=>e (Sum.inr.inj q)),ih]
   have:(y∈x :: ks)↔y∈ks:=by
    rw [List.mem_cons]
    exact ⟨fun h=>h.elim (fun q=>absurd q.symm e) id,.inr⟩
   simp only [this]
theorem X1 (g:Str→V) (y:Str) (v:V) (ks:List Str) (h:y∈ks):XC (ks.map fun x=>((Sum.inr x:Key),g x)) (Sum.inr y) v=ks.map fun x=>((Sum.inr x:Key),if x=y then v else g x):=by
 unfold XC
 rw [Jp,YO,if_pos h]
 simp only [Option.isSome_some,if_true,List.map_map]
 apply List.map_congr_left
 intro x _
 by_cases e:x=y
 ·subst e
  simp
 ·have:¬ (Sum.inr x:Key)=Sum.inr y:=fun q=>e (Sum.inr.inj q)
  simp [this,e]
end Sh
namespace Sh
open PySem L2 PyProof.Rows
end Sh
namespace Sh
open PySem L2 PyProof.Rows
seal L2.PE L2.PS L2.PSs L2.PT L2.PW L2.PA L2.PI L2.PG L2.PGs L2.PO L2.PC L2.PCs L2.OpR L2.UnR L2.CallR L2.MtR L2.IxR L2.SlR
theorem Zap:∀ {l m:List (List Nat)},l.Pairwise (· < ·)→m.Pairwise (· < ·)→(∀ x,x∈l↔x∈m)→l=m
 | [],[],_,_,_=>rfl
 | [],y :: m,_,_,h=>absurd ((h y).mpr List.mem_cons_self) (by simp)
 | x :: l,[],_,_,h=>absurd ((h x).mp List.mem_cons_self) (by simp)
 | x :: l,y :: m,hl,hm,h=>by
  have h1:=List.pairwise_cons.mp hl
  have h2:=List.pairwise_cons.mp hm
  have e:x=y:=by
   rcases List.mem_cons.mp ((h x).mp List.mem_cons_self) with z | z
   ·exact z
   ·rcases List.mem_cons.mp ((h y).mpr List.mem_cons_self) with z2 | z2
    ·exact z2.symm
    ·exact absurd (List.lt_trans (h1.1 y z2) (h2.1 x z)) (List.lt_irrefl _)
  subst e
  have ih:=Zap h1.2 h2.2 fun z=>by
   constructor
   ·intro hz
    rcases List.mem_cons.mp ((h z).mp (List.mem_cons_of_mem _ hz)) with q | q
    ·subst q
     exact absurd (h1.1 z hz) (List.lt_irrefl _)
    ·exact q
   ·intro hz
    rcases List.mem_cons.mp ((h z).mpr (List.mem_cons_of_mem _ hz)) with q | q
    ·subst q
     exact absurd (h2.1 z hz) (List.lt_irrefl _)
    ·exact q
  rw [ih]
def gD (ks:List Str) (g:Str→Int):List (Key × V):=ks.map fun x=>((Sum.inr x:Key),V.int (g x))
theorem Zcd (ks:List Str) (g:Str→Int):(gD ks g).length=ks.length:=by unfold gD; rw [List.length_map]
theorem Zg9 (ks:List Str) (g:Str→Int) (y:Str):XR (gD ks g) (Sum.inr y)=if y∈ks then some (.int (g y)) else none:=YO (fun x=>V.int (g x)) y ks
theorem Zel {ks:List Str} {g g':Str→Int} (h:∀ x∈ks,g x=g' x):gD ks g=gD ks g':=by
 unfold gD
 exact List.map_congr_left fun x m=>by rw [h x m]
theorem Zha (ks:List Str) (g:Str→Int) (y:Str) (n:Int):XC (gD ks g) (Sum.inr y) (.int n)=gD (if y∈ks then ks else ks ++ [y]) fun x=>if x=y then n else g x:=by
 by_cases m:y∈ks
 ·rw [if_pos m]
  unfold gD
  rw [X1 _ _ _ _ m]
  apply List.map_congr_left
  intro x _
  dsimp only
  by_cases e:x=y
  ·rw [if_pos e,if_pos e]
  ·rw [if_neg e,if_neg e]
 ·rw [if_neg m,Jx _ (by rw [Zg9,if_neg m])]
  unfold gD
  rw [List.map_append,List.map_singleton]
  dsimp only
  rw [if_pos rfl]
  congr 1
  apply List.map_congr_left
  intro x hx
  have ne:¬ x=y:=by
   intro e
   rw [e] at hx
   exact m hx
  rw [if_neg ne]
end Sh
namespace L2
open PySem PySem.Spec PyProof.Rows
section
variable {prog:Program} {w:World} {A:Around} {R:Result→Shared→Prop} {it:Addr} {fp wr:List Addr} {n:Nat} {Pv:Nat→Value→Prop} {Sv:Nat→Heap→Prop}
end
theorem Zkp {k:Key} {u:Value} (h:J2 k u=true):RelV (kV k) u:=by
 rcases keyIs_shape h with ⟨i,t,rfl,rfl⟩ | ⟨x,t,rfl,rfl⟩
 ·exact ⟨t,rfl⟩
 ·exact ⟨t,rfl⟩
theorem Zmf {kvs:List (Key × V)} {vs:List (Key × Value)} (r:KV kvs vs):∀ {i:Nat} {p:Key × V},kvs[i]?=some p→∃ q,vs[i]?=some q∧p.1=q.1∧RelV p.2 q.2:=by
 unfold KV at r
 induction r with
 | nil=>intro i p e; simp at e
 | @cons a b as bs h t ih =>
  intro i p e
  cases i with
  | zero =>
   simp at e
   subst e
   exact ⟨b,rfl,h⟩
  | succ i =>
   obtain ⟨q,e2,r⟩:=ih (i:=i) (p:=p) (by simpa using e)
   exact ⟨q,by simpa using e2,r⟩
section
variable {X:Cx} {pins:List (Addr × Obj)} {σ:St} {H H':Hp} {s s':Shared} {d:Addr} {o:Obj} {kvs kvs':List (Key × V)}
theorem Inv.frozen (I:Inv X pins σ H s) (hd:H d=some (.dK kvs)):∃ o,Inv X pins σ (upd H d (.frz o (.dK kvs))) s:=by
 have q:=I.hok d _ hd
 obtain ⟨z,lo,vs,kv,dd⟩:=id q
 obtain ⟨o,es,ep,ho,r⟩:=id dd
 refine ⟨o,I.write (h':=s.heap) (t':=s.toks) (x:=d) (e:=d) (by rw [hd]; exact True.intro) (.inl rfl) (fun _ _ _ z=>z) ⟨o,ho⟩ ⟨ho,z,lo,vs,kv,dd⟩⟩
end
theorem ZjR {X:Cx} {pins:List (Addr × Obj)} {σ:St} {H:Hp} {s:Shared} {d:Addr} {o:Obj} {kvs:List (Key × V)} {es:Array DictEntry} {ep:Nat} (I:Inv X pins σ H s) (hd:H d=some (.frz o (.dK kvs))) (ho:o.data = .dict es ep) :
  ∃ vs,KV kvs vs∧s.heap.DictAt (Zp X.prog X.w) d vs ep∧(d == sysModules)=false:=by
 obtain ⟨h1,z,lo,vs,kv,o',es',ep',h2,h3,h4,h5⟩:=I.hok d _ hd
 rw [h1] at h2
 cases h2
 rw [ho] at h4
 cases h4
 exact ⟨vs,kv,⟨o,es,h1,h3,ho,h5⟩,lo⟩
theorem Zgo {X:Cx} (hu:X.A.units + 64 < cLine):OpR X (compareOp .NotEq) (fun x y H Q=>∃ da db,RepD H da x∧RepD H db y∧SeqAt.shaped da=true∧SeqAt.shaped db=true∧Q (.bl (!PyData.eqv da db)) H):=by
 intro pins s σ H x y v u Q I rx ry h
 obtain ⟨da,db,r1,r2,s1,s2,q⟩:=h
 obtain ⟨as,q1⟩:=RepD.reads I da x v r1 rx
 obtain ⟨bs,q2⟩:=RepD.reads I db y u r2 ry
 exact ne_dataH q1 q2 s1 s2 hu ⟨.bl _,H,I,rfl,q⟩
theorem Ym {t u:TS} {D:Ze6} {σ:L2.St} {H:Hp} (I:L2.St→Hp→Prop) (h:∀ R:L2.St→Hp→Prop,(∀ σ' H',I σ' H'→R σ' H')→t { D with nx:=R } σ H) (hu:∀ σ' H',I σ' H'→u D σ' H'):Zlu t u D σ H:=h _ hu
theorem Yo {X:Cx}:MtR X "list.pop" ZnC:=Zl9
section
variable {X:Cx} {pins:List (Addr × Obj)} {σ:St} {H:Hp} {s:Shared} {a:Addr} {kvs:List (Key × V)} {k:Key} {u:Value} {A:Around} {E:Value→Shared→Prop}
theorem ZmA {z:V} {r:Value} {Q:Value→Shared→Prop} (I:Inv X pins σ H s) (e:H a=some (.dK kvs)) (ry:RelV (kV k) u) (rz:RelV z r) (hl:kvs.length < sizeLine) (h1:∀ v w' s',XR kvs k=some v→RelV v w'→Inv X pins σ H s'→Q w' s')
  (h2:XR kvs k=none→∀ s',Inv X pins σ (upd H a (.dK (XC kvs k z))) s'→Q r s'):wpAny (model X.prog X.w) A (call (.builtin "dict.setdefault") [.ref a,u,r]) Q E s:=by
 obtain ⟨zz,hd,vs,rel,dd⟩:=Zdj I.hok e
 refine call_meetsIn PySem.F.slot_dict_setdefault dd.typeIs PySem.F.entry_dict_setdefault (PySem.F.args_dict_setdefault_3 _ _ _) (kt_meets_setdefault (Zp X.prog X.w) a (Zb8 ry) hd r) ⟨vs,dd,by rw [← rel.length]; exact zz,fun v hv=>?_,fun hn h' dd' hs=>?_⟩
 ·have q:=rel.val k
  rw [hv] at q
  cases l:XR kvs k with
  | none=>rw [l] at q; exact (show False from q).elim
  | some v'=>rw [l] at q; exact h1 v' v _ l q (I.tok _)
 ·have q:=rel.val k
  rw [hn] at q
  have hlp:(XC kvs k z).length≤sizeLine:=by have:=YC kvs k z; omega
  have he:∃ q,h'.get? a=some q:=let ⟨q,_,_,hq,_⟩:=dd'; ⟨q,hq⟩
  cases l:XR kvs k with
  | none=>exact h2 l _ (Zbs I (by rw [e]; exact True.intro) hs he (Zhi hlp hd (rel.put k rz) dd'))
  | some v'=>rw [l] at q; exact (show False from q).elim
end
def Zm2 (td ty tx:TE):TE:=fun σ H Q=>td σ H fun x H1=>∃ a,x = .ref a∧IsD H1 a∧ty σ H1 fun y H2=>tx σ H2 fun z H3=>∃ kvs k,H3 a=some (.dK kvs)∧y=kV k∧kvs.length < sizeLine ∧
 (∀ v,XR kvs k=some v→Q v H3)∧(XR kvs k=none→Q z (upd H3 a (.dK (XC kvs k z))))
theorem Zgh {X:Cx} {o e f:Expr} {apos cpos:Pos} {td ty tx:TE} (ho:PE X o td) (he:PE X e ty) (hf:PE X f tx) (m:M2 X o "setdefault" apos e f cpos):PE X (.Call (.Attribute o "setdefault" apos) [e,f] [] cpos) (Zm2 td ty tx):=by
 intro pins s σ H Q I h
 refine wpAny_Call_method m.base m.few m.line PySem.F.plainAttrs_dict PySem.F.slot_dict_setdefault PySem.F.type_dict_setdefault (thn (ho pins s σ H _ I h) fun u s1 ⟨x,H1,I1,rx,a,ex,d,q1⟩=>?_)
 subst ex
 obtain rfl:u=Value.ref a:=rx
 obtain ⟨t1,t2,_⟩:=Zei I1 d
 refine ⟨t1,t2,?_⟩
 rw [m.trees]
 refine Calls.callWith_builtin rfl (Calls.evalArgs_plain (Calls.spliced_cons (thn (he pins s1 σ H1 _ I1 q1) fun iv s2 ⟨y,H2,I2,ry,q2⟩ =>
  Calls.spliced_cons (thn (hf pins s2 σ H2 _ I2 q2) fun fv s3 ⟨z,H3,I3,rz,kvs,k,ea,ey,hl,q3,q4⟩=>Calls.spliced_nil ?_))))
 subst ey
 exact ZmA I3 ea ry rz hl (fun v w' s4 l rw' I4=>⟨v,H3,I4,rw',q3 v l⟩) fun l s4 I4=>⟨z,_,I4,rz,q4 l⟩
end L2
namespace L2
open PySem PySem.Spec PyProof.Rows PySem.Builtin.Str
theorem Zj1 {xs:List V} {us:List Value} (r:Vals xs us):∀ {i:Nat} {x:V} {u:Value},xs[i]?=some x→us[i]?=some u→RelV x u:=by
 induction r with
 | nil=>intro i x u h; cases h
 | cons r1 r2 ih =>
  intro i x u h1 h2
  cases i with
  | zero =>
   cases h1
   cases h2
   exact r1
  | succ i=>exact ih h1 h2
end L2
namespace Sh
open PySem L2 PyProof.Rows PySem.Builtin.Str
end Sh
namespace L2
open PySem PySem.Spec PyProof.Rows
def Itk (d:Addr) (o:Obj) (kvs:List (Key × V)):It :=
 ⟨fun i H=>H d=some (.frz o (.dK kvs))∧i < kvs.length,fun i H x H'=>H'=H∧∃ p,kvs[i]?=some p∧x=kV p.1,fun i H=>H d=some (.frz o (.dK kvs))∧kvs.length≤i⟩
theorem Zfi {P:Program} {w:World} {K:PySem.W.Frag} {tg:Expr} (d it:Addr) (o:Obj) (kvs:List (Key × V)) {es:Array DictEntry} {ep:Nat} (hod:o.data = .dict es ep) :
  ZjY P w K tg (Itk d o kvs) [it] it (fun i h=>h.IsKeyIter it d i kvs.length ep) where
 mem:=by simp
 obj:=fun i h he c hc=>by
  have hc:=List.mem_singleton.mp hc
  subst hc
  obtain ⟨ob,g1,g2,g3⟩:=he
  exact ⟨ob,g1,fun v z=>by rw [g3] at z; cases z⟩
 keep:=fun i h h' he kk=>he.at fun ob e=>kk it (by simp) ob e
 item:=by
  intro X hP hw hK hc i pins s σ H E I hf he hg
  subst hP hw hK
  obtain ⟨hd,hi⟩:=hg
  obtain ⟨vs,kv,da,lo⟩:=ZjR I hd hod
  obtain ⟨p,hp⟩:∃ p,kvs[i]?=some p:=⟨_,List.getElem?_eq_getElem hi⟩
  obtain ⟨q,hq,e1,e2⟩:=Zmf kv hp
  obtain ⟨f0,f1,f2,f3,f4,f5⟩:=hf it (by simp)
  have he':s.heap.IsKeyIter it d i vs.length ep:=by rw [← kv.length]; exact he
  refine wpAny_pyNext_dict_item (k:=q.1) he' da hq fun key h1 hkey hit1 sb=>?_
  have I1:Inv X pins σ H { s with heap:=h1 }:=I.turned (t':=s.toks) (fun b u hb e=>(sb.2 b hb).trans e) f0 f1 f3 f4 f5
  refine ⟨key,rfl,letGo_keyiter hit1 ⟨kV p.1,H,I1,by rw [e1]; exact Zkp hkey,⟨rfl,p,hp,rfl⟩,by rw [kv.length]; exact hit1,fun b hb=>(hf b hb).1⟩⟩
 done:=by
  intro X hP hw hK hc i pins s σ H E I hf he hg
  subst hP hw hK
  obtain ⟨hd,hi⟩:=hg
  obtain ⟨vs,kv,da,lo⟩:=ZjR I hd hod
  obtain ⟨f0,f1,f2,f3,f4,f5⟩:=hf it (by simp)
  have he':s.heap.IsKeyIter it d i vs.length ep:=by rw [← kv.length]; exact he
  exact wpAny_pyNext_dict_end (I.ok.hd hc) he' da (List.getElem?_eq_none (by rw [← kv.length]; exact hi)) fun h' eb=>⟨rfl,I.turned (t':=s.toks) (fun b u hb e=>eb b u hb e) f0 f1 f3 f4 f5⟩
 self:=fun A i s Q E he h=>wpAny_pyIter_keyiter he h
def Znl (td:TE):TI:=fun σ H R=>td σ H fun x H1=>∃ d o kvs,x = .ref d∧H1 d=some (.frz o (.dK kvs))∧R (Itk d o kvs) H1
theorem Zkw {X:Cx} {tg ob:Expr} {td:TE} (ho:PE X ob td):PI X tg ob (Znl td):=by
 intro pins s σ H R I h
 refine thn (ho pins s σ H _ I h) fun v s1 ⟨x,H1,I1,r1,d,o,kvs,ex,hd,q1⟩=>?_
 subst ex
 obtain rfl:v=Value.ref d:=r1
 obtain ⟨g1,z,lo,vs,kv,dd⟩:=I1.hok d _ hd
 obtain ⟨ep,da⟩:=dd.dictAt
 refine wpAny_pyIter_dict lo da ?_
 obtain ⟨o',es,g2,_,g3,_⟩:=id da
 rw [g1] at g2
 cases g2
 refine ⟨_,[_],_,Itk d o kvs,H1,rfl,I1.kept (t':=s1.toks) fun b u e=>Heap.get?_push_of_some _ e,Zfi d s1.heap.objs.size o kvs g3,?_,fun b hb=>?_,q1⟩
 ·rw [kv.length]
  exact ⟨_,Heap.get?_push_size _ rfl,rfl,rfl⟩
 ·rw [List.mem_singleton.mp hb]
  exact I1.fpOk (Nat.le_refl _) (I1.hok.fresh (Nat.le_refl _))
theorem Zk0 {d:Addr} {o:Obj} {kvs:List (Key × V)} {H1:Hp} (hd:H1 d=some (.frz o (.dK kvs))):∀ H,Same H1 H→(∀ i,i < kvs.length→(Itk d o kvs).go i H∧∀ x H',(Itk d o kvs).yld i H x H'→H'=H∧x=(kvs.map fun p=>kV p.1).getD i .non)∧(Itk d o kvs).stop kvs.length H:=fun H s=>by
 refine ⟨fun i hi=>⟨⟨s _ _ hd,hi⟩,fun x H' y=>?_⟩,⟨s _ _ hd,Nat.le_refl _⟩⟩
 obtain ⟨e,p,hp,ex⟩:=y
 refine ⟨e,?_⟩
 rw [ex,List.getD_eq_getElem?_getD,List.getElem?_map,hp]
 rfl
theorem Zdc {k:Nat} {mp:List Nat} {σ:St} {g:TG} {tc:TT} {te:TE} {J:It} {H1:Hp} {Q:VK} (n:Nat) (xs:Nat→V) (t:Nat→Bool) (R:Nat→V→Hp→Prop) (hn:n≤sizeLine)
  (hR:∀ i v H H',TSame H H'→R i v H→R i v H')
  (hJ:∀ H,Same H1 H→(∀ i,i < n→J.go i H∧∀ x H',J.yld i H x H'→H'=H∧x=xs i)∧J.stop n H)
  (step:∀ i H (Qt:VK) (Qf:Hp→Prop),i < n→Same H1 H→(t i=true→∀ v H6,Same H H6→R i v H6→Qt v H6)→(t i=false→∀ H6,Same H H6→Qf H6)→g (xs i) (lcS k mp σ) H fun σ4 H4=>tc σ4 H4 fun b H5=>if b=true then te σ4 H5 Qt else Qf H5)
  (done:∀ D vs H',vs.length=((List.range n).filter t).length→(∀ (j i:Nat) (v:V),((List.range n).filter t)[j]?=some i→vs[j]?=some v→R i v H')→Same H1 H'→H1 D=none→H' D=some (.lst vs)→Q (.ref D) H'):XI k mp σ g tc te J H1 Q:=by
 intro D hD
 refine ⟨fun i m acc H=>m=n - i∧i≤n∧acc.length=((List.range i).filter t).length∧Same H1 H∧H D=some (.lst acc)∧∀ (j q:Nat) (v:V),((List.range i).filter t)[j]?=some q→acc[j]?=some v→R q v H,
  ⟨n,by simp,Nat.zero_le _,rfl,Zb hD,Zc,fun j q v e _=>by simp at e⟩,?_⟩
 rintro i m acc H ⟨rfl,hi,hl,hs,hDa,hr⟩
 obtain ⟨j1,j2⟩:=hJ H hs
 by_cases hlt:i < n
 ·refine .inr ⟨(j1 i hlt).1,fun x H3 y=>?_⟩
  obtain ⟨e1,e2⟩:=(j1 i hlt).2 x H3 y
  subst e1 e2
  refine step i H3 _ _ hlt hs (fun ht v H6 s6 r6=>⟨s6 _ _ hDa,?_,n - (i + 1),by omega,rfl,hlt,?_,fun b o e=>?_,Zc,fun j q u e1 e2=>?_⟩) (fun ht H6 s6=>⟨n - (i + 1),by omega,rfl,hlt,?_,hs.trans s6,s6 _ _ hDa,fun j q u e1 e2=>?_⟩)
  ·have:=List.length_filter_le t (List.range i)
   rw [List.length_range] at this
   omega
  ·rw [List.range_succ,List.filter_append,List.length_append,List.length_append,hl]
   simp [ht]
  ·rw [Zi (Zj e hD)]
   exact s6 _ _ (hs b o e)
  ·have ts:TSame H6 (upd H6 D (.lst (acc ++ [v]))):=Xs (s6 _ _ hDa)
   rw [List.range_succ,List.filter_append] at e1
   rcases Nat.lt_trichotomy j acc.length with h | h | h
   ·rw [List.getElem?_append_left h] at e2
    rw [List.getElem?_append_left (by omega)] at e1
    exact hR _ _ _ _ (s6.tup.trans ts) (hr j q u e1 e2)
   ·subst h
    rw [List.getElem?_append_right (Nat.le_refl _),Nat.sub_self] at e2
    rw [List.getElem?_append_right (by omega),hl,Nat.sub_self] at e1
    simp [ht] at e1 e2
    subst e1 e2
    exact hR _ _ _ _ ts r6
   ·rw [List.getElem?_eq_none (by rw [List.length_append,List.length_singleton]; omega)] at e2
    cases e2
  ·rw [List.range_succ,List.filter_append,List.length_append,hl]
   simp [ht]
  ·rw [List.range_succ,List.filter_append] at e1
   have hj:j < acc.length:=(List.getElem?_eq_some_iff.mp e2).1
   rw [List.getElem?_append_left (by omega)] at e1
   exact hR _ _ _ _ s6.tup (hr j q u e1 e2)
 ·have e:i=n:=by omega
  subst e
  exact .inl ⟨j2,done D acc H hl hr hs hD hDa⟩
section
variable {prog:Program} {w:World} {A:Around} {E:Value→Shared→Prop} {s:Shared}
end
theorem Inv.laidM {X:Cx} {pins:List (Addr × Obj)} {σ:St} {H:Hp} {s:Shared} {h':Heap} {a:Addr} {ch:List Addr} {o:HO} {t':Nat} (I:Inv X pins σ H s) (k:∀ b u,b∉ch→s.heap.get? b=some u→h'.get? b=some u) (hf:∀ b∈ch,Zcz X pins H b)
  (hp:s.heap.objs.size≤a) (new:ObjOk X.prog X.w (upd H a o) h' a o):Inv X pins σ (upd H a o) { s with heap:=h',toks:=t' }:=by
 have hn:H a=none:=I.hok.fresh hp
 have nit:∀ b u,H b=some u→b∉ch:=fun b u e z=>by
  rw [(hf b z).1] at e
  cases e
 refine I.step (g':=s.gens) (d':=s.drawn) (ch:=ch) (fun b hb=>?_) (fun b u _ _ hc e _=>k b u hc e) (fun b u _ _ hc e _=>⟨u.slots,k b u hc e⟩) (fun b u _ e n=>?_) (fun b u hc e=>⟨u,k b u hc e⟩) (fun b xs e=>?_) (fun b u xs e=>?_) (fun b ps e=>⟨#[],?_⟩) (fun m hm=>?_) (fun b u e=>?_) I.bare
 ·obtain ⟨f0,f1,f2,f3,f4,f5⟩:=hf b hb
  exact ⟨f3,f1,f4,f5⟩
 ·rw [Zi (Nat.ne_of_lt (Nat.lt_of_lt_of_le (Heap.lt_size e) hp))]
  exact n
 ·rw [Zi (Zj e hn)]; exact e
 ·rw [Zi (Zj e hn)]; exact e
 ·rw [Zi (Zj e hn),e]; simp
 ·obtain ⟨o,es,ep,ho,r⟩:=hm
  exact ⟨o,es,ep,k _ o (fun z=>(hf _ z).2.1 rfl) ho,r⟩
 ·by_cases hb:b=a
  ·subst hb
   rw [Zc] at e
   cases e
   exact new
  ·rw [Zi hb] at e
   refine (I.hok b u e).stay (fun c v hc q=>k c v ?_ q) (fun c q=>by rw [Zi (Zj q hn)]; exact q) fun c xs q=>by rw [Zi (Zj q hn)]; exact q
   rcases hc with z | z
   ·rw [z]; exact nit b u e
   ·exact nit c _ z
theorem Inv.turnedM {X:Cx} {pins:List (Addr × Obj)} {σ:St} {H:Hp} {s:Shared} {h':Heap} {ch:List Addr} {t':Nat} (I:Inv X pins σ H s) (k:∀ b u,b∉ch→s.heap.get? b=some u→h'.get? b=some u) (hf:∀ b∈ch,Zcz X pins H b):Inv X pins σ H { s with heap:=h',toks:=t' }:=by
 have nit:∀ b u,H b=some u→b∉ch:=fun b u e z=>by
  rw [(hf b z).1] at e
  cases e
 refine I.step (g':=s.gens) (d':=s.drawn) (ch:=ch) (fun b hb=>?_) (fun b u _ _ hc e _=>k b u hc e) (fun b u _ _ hc e _=>⟨u.slots,k b u hc e⟩) (fun b u _ e n=>n) (fun b u hc e=>⟨u,k b u hc e⟩) (fun b xs e=>e) (fun b u xs e=>e) (fun b ps e=>⟨#[],by rw [e]; simp⟩) (fun m hm=>?_) (fun b u e=>?_) I.bare
 ·obtain ⟨f0,f1,f2,f3,f4,f5⟩:=hf b hb
  exact ⟨f3,f1,f4,f5⟩
 ·obtain ⟨o,es,ep,ho,r⟩:=hm
  exact ⟨o,es,ep,k _ o (fun z=>(hf _ z).2.1 rfl) ho,r⟩
 ·refine (I.hok b u e).stay (fun c v hc q=>k c v ?_ q) (fun c q=>q) fun c xs q=>q
  rcases hc with z | z
  ·rw [z]; exact nit b u e
  ·exact nit c _ z
theorem apart {n:Nat} {a b:Addr} (ha:a∉[n + 4,n + 3,n,n + 1]) (hb:b∉[n + 4,n + 3,n,n + 1]):ZipApart (n + 4) (n + 2) (n + 3) n (n + 1) a b:=by
 simp only [List.mem_cons,List.not_mem_nil,or_false,not_or] at ha hb
 refine ⟨?_,?_,?_,?_,?_,?_,?_,?_,?_,?_,ha.1,ha.2.1,ha.2.2.1,ha.2.2.2,hb.1,hb.2.1,hb.2.2.1,hb.2.2.2⟩ <;> (intro z; have z:(_:Nat)=_:=z; omega)
theorem Zns:bootBuiltins "zip" = some (.type "zip"):=by decide +kernel
section
variable {X:Cx} {pins:List (Addr × Obj)} {σ:St} {H H':Hp} {s s':Shared} {d:Addr} {o:Obj} {kvs kvs':List (Key × V)}
theorem Inv.thaw2 {σ2:St} (I:Inv X pins σ H s) (hd:H d=some (.dK kvs)) (J:Inv X pins σ2 H' s') (e:H' d=some (.frz o (.dK kvs'))):Inv X pins σ2 (upd H' d (.dK kvs')) s':=by
 have nn:∀ b,H' b=none→upd H' d (.dK kvs') b=none:=fun b z=>by
  rw [Zi]
  ·exact z
  ·intro w; rw [w,e] at z; cases z
 refine { J with base:=⟨J.base.keep,J.base.slot,fun b ob h1 h2 h3=>nn b (J.base.free b ob h1 h2 h3),J.base.there,fun b xs h1=>?_,fun b ob u h1=>?_,fun b ps h1=>?_⟩,free:=nn _ J.free,freeC:=fun x c h=>nn _ (J.freeC x c h),pin:=fun p hp=>?_,hok:=fun b u h1=>?_ }
 ·have h2:=J.base.tups b xs h1
  rw [Zi]
  ·exact h2
  ·intro w; rw [w,e] at h2; cases h2
 ·by_cases w:b=d
  ·have h2:=I.base.frzs b ob u h1
   rw [w,hd] at h2
   cases h2
  ·rw [Zi w]
   exact J.base.frzs b ob u h1
 ·obtain ⟨more,h2⟩:=J.base.tbls b ps h1
  refine ⟨more,?_⟩
  rw [Zi]
  ·exact h2
  ·intro w; rw [w,e] at h2; cases h2
 ·obtain ⟨p1,p2,p3⟩:=J.pin p hp
  exact ⟨p1,nn _ p2,p3⟩
 ·have ho:∀ (a:Addr) (b:Addr),H' b=some (.own a)→upd H' d (.dK kvs') b=some (.own a):=fun a b z=>by
   rw [Zi]
   ·exact z
   ·intro w; rw [w,e] at z; cases z
  have ht:∀ (b:Addr) xs,H' b=some (.tup xs)→upd H' d (.dK kvs') b=some (.tup xs):=fun b xs z=>by
   rw [Zi]
   ·exact z
   ·intro w; rw [w,e] at z; cases z
  by_cases w:b=d
  ·subst w
   rw [Zc] at h1
   cases h1
   obtain ⟨_,q⟩:=J.hok b _ e
   exact q.stay (fun _ _ _ z=>z) (ho b) ht
  ·rw [Zi w] at h1
   exact (J.hok b u h1).stay (fun _ _ _ z=>z) (ho b) ht
end
def ZmZ (t:TS):TS:=fun D σ H=>∃ d kvs,H d=some (.dK kvs)∧∀ o,t ⟨fun σ' H'=>H' d=some (.frz o (.dK kvs))∧D.nx σ' (upd H' d (.dK kvs)),fun _ _=>False,fun _ _=>False,fun _ _=>False⟩ σ (upd H d (.frz o (.dK kvs)))
theorem ZlK {X:Cx} {st:Stmt} {t:TS} (h:PS X st t):PS X st (ZmZ t):=by
 intro pins s σ H D I q
 obtain ⟨d,kvs,hd,q⟩:=q
 obtain ⟨o,I1⟩:=I.frozen hd
 refine wpAny_mono (h pins s σ _ _ I1 (q o)) (fun f s2 z=>?_) fun _ _ e=>e
 cases f with
 | next =>
  obtain ⟨σ2,H2,I2,e2,q2⟩:=z
  exact ⟨σ2,_,I.thaw2 hd I2 e2,q2⟩
 | brk =>
  obtain ⟨_,_,_,z⟩:=z
  exact z.elim
 | cont =>
  obtain ⟨_,_,_,z⟩:=z
  exact z.elim
 | ret v =>
  obtain ⟨_,_,_,_,_,z⟩:=z
  exact z.elim
theorem ZgO {k:Nat} {mp:List Nat} {σ:St} {g:TG} {te:TE} {J:It} {H1:Hp} {Q:VK} (n:Nat) (xs:Nat→V) (f:Nat→List V) (hn:n≤sizeLine)
  (hJ:∀ H,Same H1 H→(∀ i,i < n→J.go i H∧∀ x H',J.yld i H x H'→H'=H∧x=xs i)∧J.stop n H)
  (step:∀ i H (Qe:VK),i < n→Same H1 H→(∀ a H6,Same H H6→H a=none→H6 a=some (.lst (f i))→Qe (.ref a) H6)→g (xs i) (lcS k mp σ) H fun σ4 H4=>te σ4 H4 Qe)
  (done:∀ D (as:List Addr) H',as.length=n→as.Nodup→(∀ i a,as[i]?=some a→a≠D∧H1 a=none∧H' a=some (.lst (f i)))→Same H1 H'→H1 D=none→H' D=some (.lst (as.map V.ref))→Q (.ref D) H'):XI k mp σ g Zj8 te J H1 Q:=by
 intro D hD
 refine ⟨fun i m acc H=>m=n - i∧i≤n∧Same H1 H∧H D=some (.lst acc)∧∃ as:List Addr,acc=as.map V.ref∧as.length=i∧as.Nodup∧∀ j a,as[j]?=some a→a≠D∧H1 a=none∧H a=some (.lst (f j)),⟨n,by simp,Nat.zero_le _,Zb hD,Zc,[],rfl,rfl,List.nodup_nil,fun j v e=>by simp at e⟩,?_⟩
 rintro i m acc H ⟨rfl,hi,hs,hDa,as,rfl,hl,hnd,hr⟩
 obtain ⟨j1,j2⟩:=hJ H hs
 by_cases hlt:i < n
 ·refine .inr ⟨(j1 i hlt).1,fun x H3 y=>?_⟩
  obtain ⟨e1,e2⟩:=(j1 i hlt).2 x H3 y
  subst e1 e2
  refine step i H3 _ hlt hs fun a H6 s6 ha r6=>⟨s6 _ _ hDa,by rw [List.length_map]; omega,n - (i + 1),by omega,rfl,hlt,fun b o e=>?_,Zc,as ++ [a],by rw [List.map_append]; rfl,by rw [List.length_append,hl]; rfl,?_,fun j u e=>?_⟩
  ·rw [Zi (Zj e hD)]
   exact s6 _ _ (hs b o e)
  ·rw [List.nodup_append]
   refine ⟨hnd,by simp,fun x hx y hy e=>?_⟩
   rw [List.mem_singleton.mp hy] at e
   subst e
   obtain ⟨j,hj⟩:=List.mem_iff_getElem?.mp hx
   rw [(hr j x hj).2.2] at ha
   cases ha
  ·have naD:a≠D:=fun z=>by rw [z,hDa] at ha; cases ha
   rcases Nat.lt_trichotomy j as.length with h | h | h
   ·rw [List.getElem?_append_left h] at e
    obtain ⟨q1,q2,q3⟩:=hr j u e
    exact ⟨q1,q2,by rw [Zi q1]; exact s6 _ _ q3⟩
   ·subst h
    rw [List.getElem?_append_right (Nat.le_refl _),Nat.sub_self] at e
    cases e
    exact ⟨naD,hs.free ha,by rw [Zi naD,hl]; exact r6⟩
   ·rw [List.getElem?_eq_none (by rw [List.length_append,List.length_singleton]; omega)] at e
    cases e
 ·have e:i=n:=by omega
  subst e
  exact .inl ⟨j2,done D as H hl hnd hr hs hD hDa⟩
end L2
set_option maxRecDepth 4000
namespace L2
open PySem PySem.Spec PyProof.Rows
def Zkr:V→List V→Hp→VK→Prop:=fun x vs H Q=>∃ l xs,∃ i:Nat,∃ y,x = .ref l∧vs=[.int i,y]∧H l=some (.lst xs)∧i≤xs.length∧xs.length < sizeLine∧Q .non (upd H l (.lst (xs.take i ++ [y] ++ xs.drop i)))
theorem Ze8 {xs:List V} {us:List Value} (r:Vals xs us):∀ i:Nat,Vals (xs.take i) (us.take i):=by
 induction r with
 | nil=>intro i; rw [List.take_nil,List.take_nil]; exact .nil
 | cons h t ih =>
  intro i
  cases i with
  | zero=>exact .nil
  | succ i=>exact .cons h (ih i)
theorem Ze9 {xs:List V} {us:List Value} (r:Vals xs us):∀ i:Nat,Vals (xs.drop i) (us.drop i):=by
 induction r with
 | nil=>intro i; rw [List.drop_nil,List.drop_nil]; exact .nil
 | cons h t ih =>
  intro i
  cases i with
  | zero=>exact .cons h t
  | succ i=>exact ih i
theorem Zg0 {prog:Program} {w:World} {A:Around} {E:Value→Shared→Prop} {s:Shared} {Q:Value→Shared→Prop} {l:Addr} {its:List Value} {n:Nat} {x:Int} {t:Tok} {y:Value} (e:s.heap.get? l=some { cls:=.type "list",dict:=none,data:=.seq its.toArray n,slots:=#[] })
  (hfit:¬ (!Builtin.List.listFitsIndex x)=true) (hsz:its.toArray.size≤sizeLine) (h:Q .none { s with heap:=s.heap.update l (Obj.mapSeq fun xs=>have k:=if x < 0 then (x + (xs.size:Int)).toNat else min x.toNat xs.size; (xs.extract 0 k).push y ++ xs.extract k),toks:=s.toks }) :
  wpAny (model prog w) A (call (.builtin "list.insert") [.ref l,.int x t,y]) Q E s :=
 call_meets F.slot_list_insert ⟨_,e,rfl⟩ F.entry_list_insert (F.args_list_insert_3 _ _ _) (AutoSeq1.list_insert_list_int_val_1 l its.toArray n x t y hfit hsz) ⟨e,h⟩
theorem ZgH {X:Cx}:MtR X "list.insert" Zkr:=by
 intro pins s σ H x vs v us Q I rx rv h
 obtain ⟨l,xs,i,y,rfl,rfl,hH,hi,hz,q⟩:=h
 cases rx
 obtain ⟨u,w',rfl,ru,rw'⟩:=Zfa rv
 obtain ⟨t,rfl⟩:=ru
 obtain ⟨z,its,n,r,hl,e⟩:=I.lstM hH
 have hs:sizeLine=16777216:=sizeLine_eq
 have hfit:Builtin.List.listFitsIndex (i:Int)=true:=fitsIndex_both (by omega) (by omega)
 have hfit2:¬ (!Builtin.List.listFitsIndex (i:Int))=true:=by
  rw [hfit]
  exact Bool.false_ne_true
 have hsz:its.toArray.size≤sizeLine:=by rw [List.size_toArray]; omega
 have e1:∀ m:Nat,i≤m→(if (i:Int) < 0 then ((i:Int) + ((m:Nat):Int)).toNat else min (i:Int).toNat m)=i:=fun m hm=>by
  rw [if_neg (by omega),Int.toNat_natCast]
  omega
 have hf:(fun xs:Array Value=>(xs.extract 0 (if (i:Int) < 0 then ((i:Int) + ((xs.size:Nat):Int)).toNat else min (i:Int).toNat xs.size)).push w' ++ xs.extract (if (i:Int) < 0 then ((i:Int) + ((xs.size:Nat):Int)).toNat else min (i:Int).toNat xs.size)) its.toArray=(its.take i ++ [w'] ++ its.drop i).toArray:=by
  show (its.toArray.extract 0 (if (i:Int) < 0 then ((i:Int) + ((its.toArray.size:Nat):Int)).toNat else min (i:Int).toNat its.toArray.size)).push w' ++ its.toArray.extract (if (i:Int) < 0 then ((i:Int) + ((its.toArray.size:Nat):Int)).toNat else min (i:Int).toNat its.toArray.size)=_
  rw [e1 _ (by rw [List.size_toArray]; omega)]
  simp
  exact List.take_of_length_le (by rw [List.length_drop]; omega)
 have J:=I.lset (f:=fun xs:Array Value=>(xs.extract 0 (if (i:Int) < 0 then ((i:Int) + ((xs.size:Nat):Int)).toNat else min (i:Int).toNat xs.size)).push w' ++ xs.extract (if (i:Int) < 0 then ((i:Int) + ((xs.size:Nat):Int)).toNat else min (i:Int).toNat xs.size)) (t':=s.toks) (ys:=xs.take i ++ [y] ++ xs.drop i) hH e hf (((Ze8 r i).append (.cons rw' .nil)).append (Ze9 r i)) (by
  simp only [List.length_append,List.length_take,List.length_drop,List.length_singleton]
  omega)
 have fin:EP X pins σ Q .none { s with heap:=s.heap.update l (Obj.mapSeq fun xs:Array Value=>(xs.extract 0 (if (i:Int) < 0 then ((i:Int) + ((xs.size:Nat):Int)).toNat else min (i:Int).toNat xs.size)).push w' ++ xs.extract (if (i:Int) < 0 then ((i:Int) + ((xs.size:Nat):Int)).toNat else min (i:Int).toNat xs.size)),toks:=s.toks }:=⟨.non,_,J,rfl,q⟩
 exact Zg0 e hfit2 hsz fin
theorem ZgG {X:Cx}:MtR X "list.pop" Zjr:=Zio
end L2
namespace PySem
namespace F
end F
end PySem
namespace PySem
section
variable {prog:Program} {w:World} {A:Around} {E:Value→Shared→Prop} {s:Shared}
end
end PySem
namespace PySem
section
variable {prog:Program} {w:World} {A:Around} {E:Value→Shared→Prop} {s:Shared}
section
variable {R:Result→Shared→Prop}
end
end
end PySem
namespace L2
open PySem PySem.Spec PyProof.Rows
theorem Ze3:bootBuiltins "reversed" = some (.type "reversed"):=by decide +kernel
theorem Zj0:∀ (ws:List V) (us:List Value),ws.length=us.length→(∀ (i:Nat) (w:V) (u:Value),ws[i]?=some w→us[i]?=some u→RelV w u)→Vals ws us:=by
 intro ws
 induction ws with
 | nil =>
  intro us hl _
  have:us=[]:=List.length_eq_zero_iff.mp hl.symm
  subst this
  exact .nil
 | cons w ws ih =>
  intro us hl h
  cases us with
  | nil=>cases hl
  | cons u us=>exact .cons (h 0 w u rfl rfl) (ih us (by simpa using hl) fun i w' u' e1 e2=>h (i + 1) w' u' e1 e2)
end L2
namespace PySem
namespace F
theorem lri_no_len:typeLookup (.type "list_reverseiterator") "__len__" = pure none:=by rw [typeLookup_type,builtinLookup_eq_fast]; kernel_rfl
theorem slot_lri_hint:Slot "list_reverseiterator" "__length_hint__" "list_reverseiterator.__length_hint__" :=
 .of (owner:="list_reverseiterator") (n:="__length_hint__") (by rw [typeLookup_type,builtinLookup_eq_fast]; kernel_rfl) (by decide +kernel) (by decide +kernel) (by decide +kernel)
  (by first | exact .inl (by decide +kernel) | exact .inr (by decide +kernel)) (by rw [isSubtype_type]; kernel_rfl)
theorem sub_lri_lri:isSubtype (.type "list_reverseiterator") (.type "list_reverseiterator")=pure true:=by rw [isSubtype_type]; kernel_rfl
end F
section
variable {prog:Program} {w:World} {A:Around} {E:Value→Shared→Prop} {s:Shared}
theorem Ziu {it l:Addr} {items:Array Value} {Q:Bool→Shared→Prop} (hit:s.heap.IsRevIter it l ((items.size:Int) - 1)) (hl:s.heap.IsList l items) (hx:items.size≤sizeLine)
  (h:∀ b tk,Q b { s with toks:=tk }):wpAny (model prog w) A (Builtin.List.listLengthHint (.ref it)) Q E s:=by
 have hs:sizeLine=16777216:=sizeLine_eq
 unfold Builtin.List.listLengthHint
 refine wpAny_bind (wpAny_specialOf hit.typeIs F.lri_no_len ?_)
 show wpAny _ _ (specialOf (Value.ref it) (Str.ofString "__length_hint__") >>= _) _ _ _
 refine wpAny_bind (wpAny_specialOf hit.typeIs F.slot_lri_hint.lookup ?_)
 have hsp:splitId "list_reverseiterator.__length_hint__" = some ("list_reverseiterator","__length_hint__"):=by decide +kernel
 try dsimp only
 rw [hsp]
 try dsimp only
 refine wpAny_bind (wpAny_isInstance hit.typeIs F.sub_lri_lri ?_)
 rw [if_neg (by decide)]
 rw [if_pos (by decide +kernel)]
 rw [if_neg (show ¬ ((Value.builtin "list_reverseiterator.__length_hint__" == Value.builtin "range_iterator.__length_hint__")=true) by decide +kernel)]
 exact wpAny_pure (h _ s.toks)
section
variable {R:Result→Shared→Prop}
theorem ZeX (hh:A.handled=none) {I l:Addr} {items:Array Value} (hx:items.size≤sizeLine) (S:Addr) (c₀:Nat) (hit:s.heap.IsRevIter I l ((items.size:Int) - 1)) (hl:s.heap.IsList l items) (hlI:l≠I) (hSI:S≠I) (hSl:S≠l)
  (hS:s.heap.get? S=some { cls:=.type "list",data:=.seq #[] c₀ })
  (hR:∀ h' tk acc' c',(∀ b o,b≠S→b≠I→s.heap.get? b=some o→h'.get? b=some o)→h'.get? S=some { cls:=.type "list",dict:=none,data:=.seq acc' c',slots:=#[] } →
   ItemsOf (fun i v=>items[items.size - 1 - i]?=some v) acc' items.size→R (.ok (.ret .none)) { s with heap:=h',toks:=tk }) :
  wpAny (model prog w) A.in1 (Builtin.List.listExtendWith (.ref S) (.ref I) .none)
   (fun fin s'=>match fin with | .done f=>R (.ok f) s' | .again c'=>c'.quiet=true∧codeAny (model prog w) A c' R s') (fun e s'=>R (.error e) s') s:=by
 have hSf:S∉[I,l]:=fun hm=>by
  rcases List.mem_cons.mp hm with e | hm
  ·exact hSI e
  ·exact hSl (List.mem_singleton.mp hm)
 unfold Builtin.List.listExtendWith
 refine wpAny_bind (wpAny_typeOf hit.typeIs ?_)
 have h1:Builtin.List.listSameRef (.ref S) (.ref I)=false:=by simp [Builtin.List.listSameRef,hSI]
 have h2:(Value.type "list_reverseiterator" == Value.type "list")=false:=by decide
 have h3:(Value.type "list_reverseiterator" == Value.type "tuple")=false:=by decide
 simp only [h1,h2,h3,Bool.or_false,Bool.false_eq_true,if_false]
 refine wpAny_bind (wpAny_pyIter_revIter hit ?_)
 refine wpAny_bind (wpAny_holding (Ziu hit hl hx fun b tk=>?_))
 have W:=(Walks.listRev (prog:=prog) (w:=w) (A:=A.in1) hh I l hlI items).toS
 have st0:∀ h':Heap,(∀ b o,b≠S→s.heap.get? b=some o→h'.get? b=some o)→(0≤items.size∧h'.IsRevIter I l ((items.size:Int) - 1 - ((0:Nat):Int))∧h'.IsList l items):=fun h' hk=>⟨Nat.zero_le _,by
  have:=hit.at (h':=h') fun o e=>hk I o (Ne.symm hSI) e
  have e:(items.size:Int) - 1 - ((0:Nat):Int)=(items.size:Int) - 1:=by omega
  rw [e]
  exact this,hl.at fun o e=>hk l o (Ne.symm hSl) e⟩
 have fin:∀ (h₁:Heap) (c₁:Nat),(∀ b o,b≠S→s.heap.get? b=some o→h₁.get? b=some o)→h₁.get? S=some { cls:=.type "list",data:=.seq #[] c₁ } →
   codeAny (model prog w) A (.builtin "list.extend.loop" ⟨[.ref S,.ref I,.none],[]⟩) R { s with heap:=h₁,toks:=tk }:=fun h₁ c₁ hk hS₁=>by
  refine codeAny_extend_loopS W hx _ hSf _ items.size 0 _ _ _ rfl (Nat.zero_le _) (st0 h₁ hk) hS₁ (ItemsOf.nil _) fun s' acc' c' hm hS' hacc=>?_
  rw [Moved.eq_with hm]
  refine hR s'.heap s'.toks acc' c' (fun b ob hb hbI e=>hm.heap b ob (fun hmem=>?_) (hk b ob hb e)) hS' hacc
  rcases List.mem_cons.mp hmem with e' | hmem
  ·exact hb e'
  ·exact hbI (List.mem_singleton.mp hmem)
 split
 ·refine wpAny_bind (wpAny_rule ?_)
  refine wpAny_bind ?_
  show wpAny _ A.in1 (updateSeq S (·.push .none) >>= fun _=>updateSeq S (·.pop)) _ _ _
  refine wpAny_bind (wpAny_updateSeq hS rfl ?_)
  have hS₂:=Heap.get?_update_self (Obj.mapSeq (·.push Value.none)) hS rfl
  refine wpAny_updateSeq (hz:=by seq_fits) hS₂ rfl ?_
  have hS₃:=Heap.get?_update_self (Obj.mapSeq (·.pop)) hS₂ rfl
  exact wpAny_pure ⟨plainId_quiet F.plain_extend_loop _,fin _ _ (fun b o hb e=>(Heap.get?_update_other _ _ (Ne.symm hb)).trans ((Heap.get?_update_other _ _ (Ne.symm hb)).trans e)) hS₃⟩
 ·exact wpAny_pure ⟨plainId_quiet F.plain_extend_loop _,fin _ _ (fun b o hb e=>e) hS⟩
theorem Zbd (hh:A.handled=none) {I l:Addr} {items:Array Value} (hx:items.size≤sizeLine) (S:Addr) (hit:s.heap.IsRevIter I l ((items.size:Int) - 1)) (hl:s.heap.IsList l items) (hlI:l≠I) (hSI:S≠I) (hSl:S≠l)
  (hS:s.heap.get? S=some { cls:=.type "list",data:=.seq #[] })
  (hR:∀ h' tk acc' c',(∀ b o,b≠S→b≠I→s.heap.get? b=some o→h'.get? b=some o)→h'.get? S=some { cls:=.type "list",dict:=none,data:=.seq acc' c',slots:=#[] } →
   ItemsOf (fun i v=>items[items.size - 1 - i]?=some v) acc' items.size→R (.ok (.ret .none)) { s with heap:=h',toks:=tk }) :
  wpAny (model prog w) A.in1 (Builtin.«list.__init__» ⟨[.ref S,.ref I],[]⟩)
   (fun fin s'=>match fin with | .done f=>R (.ok f) s' | .again c'=>c'.quiet=true∧codeAny (model prog w) A c' R s') (fun e s'=>R (.error e) s') s:=by
 show wpAny _ A.in1 (do let old ← Builtin.List.listItems (.ref S); Builtin.List.listUpdate (.ref S) (fun _=>#[]); letGo old.toList.reverse; Builtin.List.listExtendWith (.ref S) (.ref I) .none) _ _ s
 refine wpAny_bind ?_
 unfold Builtin.List.listItems
 refine wpAny_bind (wpAny_seqItems hS rfl (wpAny_pure ?_))
 show wpAny _ A.in1 (updateSeq S (fun _=>#[]) >>= fun _=>letGo (#[]:Array Value).toList.reverse >>= fun _=>Builtin.List.listExtendWith (.ref S) (.ref I) .none) _ _ s
 refine wpAny_bind (wpAny_updateSeq hS rfl ?_)
 have hS₂:=Heap.get?_update_self (Obj.mapSeq (fun _=>(#[]:Array Value))) hS rfl
 have oth:∀ b o,b≠S→s.heap.get? b=some o→(s.heap.update S (Obj.mapSeq (fun _=>(#[]:Array Value)))).get? b=some o :=
  fun b o hb e=>(Heap.get?_update_other _ _ (Ne.symm hb)).trans e
 refine wpAny_bind (wpAny_letGo ?_)
 refine ZeX hh hx S _ (hit.at fun o e=>oth I o (Ne.symm hSI) e) (hl.at fun o e=>oth l o (Ne.symm hSl) e) hlI hSI hSl hS₂ fun h' tk acc' c' hk hS' hacc=>?_
 exact hR h' tk acc' c' (fun b o hb hbI e=>hk b o hb hbI (oth b o hb e)) hS' hacc
end
theorem Zbw (hh:A.handled=none) {I l:Addr} {items:Array Value} {Q:Value→Shared→Prop} (hx:items.size≤sizeLine) (hit:s.heap.IsRevIter I l ((items.size:Int) - 1)) (hl:s.heap.IsList l items) (hlI:l≠I)
  (hQ:∀ h' tk acc' c',(∀ b o,b≠I→s.heap.get? b=some o→h'.get? b=some o)→h'.get? s.heap.objs.size=some { cls:=.type "list",dict:=none,data:=.seq acc' c',slots:=#[] } →
   ItemsOf (fun i v=>items[items.size - 1 - i]?=some v) acc' items.size→Q (.ref s.heap.objs.size) { s with heap:=h',toks:=tk }) :
  wpAny (model prog w) A (call (.type "list") [.ref I]) Q E s:=by
 have hSI:s.heap.objs.size≠I:=fun e=>by
  obtain ⟨o,ho,_⟩:=hit
  exact Nat.lt_irrefl _ (e ▸ Heap.lt_size ho)
 have hSl:s.heap.objs.size≠l:=fun e=>by
  obtain ⟨o,ho,_⟩:=hl
  exact Nat.lt_irrefl _ (e ▸ Heap.lt_size ho)
 refine callType_codes (Q₁:=fun obj s₁=>obj = .ref s.heap.objs.size∧s₁={ s with heap:=s.heap.push { cls:=.type "list",data:=.seq #[] } }) F.called_list (F.typeCall_list_1 _) F.entry_list_init
  (code_list_new _ ⟨rfl,rfl⟩) fun obj s₁ h₁=>?_
 obtain ⟨rfl,rfl⟩:=h₁
 have hS:(s.heap.push { cls:=.type "list",data:=.seq #[] }).get? s.heap.objs.size=some { cls:=.type "list",data:=.seq #[] }:=Heap.get?_push_size _ rfl
 refine ⟨⟨_,hS,rfl⟩,F.args_list_init_2 _ _,Zbd (A:=A.in1) hh hx _ (hit.at fun o e=>Heap.get?_push_of_some _ e) (hl.at fun o e=>Heap.get?_push_of_some _ e) hlI hSI hSl hS fun h' tk acc' c' hk hS' hacc=>?_⟩
 exact ⟨rfl,hQ h' tk acc' c' (fun b o hbI e=>hk b o (Nat.ne_of_lt (Heap.lt_size e)) hbI (Heap.get?_push_of_some _ e)) hS' hacc⟩
end
end PySem
namespace L2
open PySem PySem.Spec PyProof.Rows
def ZnR (K:PySem.W.Frag) (te:TE):TE:=fun σ H Q=>te σ H fun x H1=>∃ a xs,x = .ref a∧SqL K H1 a xs∧∀ p,H1 p=none→Q (.ref p) (upd H1 p (.lst xs.reverse))
theorem ZcT {X:Cx} {e:Expr} {te:TE} {p1 p2 pos1 pos2:Pos} (hc:X.calm=true) (hgl:Gl X "list") (hml:X.mg "list" = none) (hgr:Gl X "reversed") (hmr:X.mg "reversed" = none) (he:PE X e te)
  (hs1:starEach [.Call (.Name "reversed" p2) [e] [] pos2] X.env=[(false,eval (.Call (.Name "reversed" p2) [e] [] pos2) X.env)]:=by rfl) (hs2:starEach [e] X.env=[(false,eval e X.env)]:=by rfl) :
  PE X (.Call (.Name "list" p1) [.Call (.Name "reversed" p2) [e] [] pos2] [] pos1) (ZnR X.K te):=by
 intro pins s σ H Q I h
 refine wpAny_Call_Name_kw (XH I hgl hml Zcy ?_ (by decide) (by decide))
 refine PyProof.Rows.callWith_type1 ?_ hs1 rfl
 rw [hs1]
 refine Calls.spliced_cons ?_
 refine wpAny_Call_Name_kw (XH I hgr hmr Ze3 ?_ (by decide) (by decide))
 refine PyProof.Rows.callWith_type1 ?_ hs2 rfl
 rw [hs2]
 refine Calls.spliced_cons (thn (he pins s σ H _ I h) fun u s1 ⟨x,H1,I1,r1,q1⟩=>Calls.spliced_nil ?_)
 obtain ⟨a,xs,rfl,hx,q⟩:=q1
 cases r1
 obtain ⟨its,rv,pl,hz⟩:=I1.list hx
 have hl:=rv.length
 have hlt:a < s1.heap.objs.size:=by
  obtain ⟨o,n,e,_⟩:=pl
  exact Heap.lt_size e
 refine call_reversed_list pl.isList ?_
 refine Calls.spliced_nil ?_
 refine Zbw (items:=its.toArray) (l:=a) (I:=s1.heap.objs.size) (I.ok.hd hc) (by rw [List.size_toArray]; omega) ⟨_,Heap.get?_push_size _ rfl,rfl,rfl⟩ (pl.isList.push _) (Nat.ne_of_lt hlt) fun h' tk acc c hk hS hacc=>?_
 have hsz:(s1.heap.push (revObj a ((its.toArray.size:Int) - 1))).objs.size=s1.heap.objs.size + 1:=Heap.size_push ..
 dsimp only at hS hk ⊢
 rw [hsz] at hS ⊢
 have hf:H1 (s1.heap.objs.size + 1)=none:=I1.hok.fresh (Nat.le_succ _)
 refine ⟨.ref (s1.heap.objs.size + 1),_,I1.laid (h':=h') (t':=tk) (a:=s1.heap.objs.size + 1) (o:=.lst xs.reverse) (fun b u e=>hk b u (Nat.ne_of_lt (Heap.lt_size e)) (Heap.get?_push_of_some _ e)) (Nat.le_succ _) ?_,rfl,q _ hf⟩
 refine ⟨by rw [List.length_reverse]; exact hz,acc.toList,c,?_,by rw [hS,Array.toArray_toList]⟩
 have es:its.toArray.size=its.length:=List.size_toArray ..
 have hal:acc.toList.length=xs.length:=by rw [Array.length_toList]; exact hacc.1.trans (es.trans hl.symm)
 refine Zj0 _ _ (by rw [List.length_reverse,hal]) fun i w u e1 e2=>?_
 have hi:i < xs.length:=by
  have:=(List.getElem?_eq_some_iff.mp e1).1
  rw [List.length_reverse] at this
  exact this
 have h3:=hacc.2 i u (by rw [← Array.getElem?_toList]; exact e2)
 rw [List.getElem?_reverse hi] at e1
 obtain ⟨u',hu,ru⟩:=rv.get e1
 rw [es,← hl] at h3
 have h4:its[xs.length - 1 - i]?=some u:=by simpa using h3
 rw [hu] at h4
 cases h4
 exact ru
end L2
namespace Sh
abbrev Mat:=List (List Int)
def Sm (n:Nat) (x:Int):Prop:=x.natAbs < 2 ^ n
def Yp (M:Mat):Option Nat:=M.findIdx? fun r=>decide (r.headD 0≠0)
def Zb6 (r h:List Int) (d:Int):List Int:=(List.range (r.length - 1)).map fun j=>(h.headD 0 * r.getD (j + 1) 0 - r.headD 0 * h.getD (j + 1) 0).fdiv d
def Jj (M:Mat) (p:Nat) (d:Int):Mat:=(M.take p ++ M.drop (p + 1)).map fun r=>Zb6 r (M.getD p []) d
def Sq (n:Nat) (M:Mat):Prop:=M.length=n∧∀ r∈M,r.length=n
def SmM (k:Nat) (M:Mat):Prop:=∀ r∈M,∀ x∈r,Sm k x
def FineM:Nat→Mat→Int→Int→Int→Prop
 | 0,M,_,_,W=>M=[]∧W=1
 | 1,M,s,_,W=>∃ x,M=[[x]]∧W=s * x∧(s=1∨s = -1)
 | n + 2,M,s,d,W=>Sq (n + 2) M∧SmM 3900 M∧Sm 3900 d∧d≠0∧(s=1∨s = -1)∧match Yp M with
  | none=>W=0
  | some p=>FineM (n + 1) (Jj M p d) (if p % 2=0 then s else -s) ((M.getD p []).headD 0) W
theorem Sm.mul {a b:Nat} {x y:Int} (h:Sm a x) (k:Sm b y):Sm (a + b) (x * y):=by
 unfold Sm at *
 rw [Int.natAbs_mul,Nat.pow_add]
 exact Nat.mul_lt_mul'' h k
theorem Sm.up {a b:Nat} {x:Int} (h:Sm a x) (hab:a≤b):Sm b x:=Nat.lt_of_lt_of_le h (Nat.pow_le_pow_right (by decide) hab)
theorem Sm.one (a:Nat) (h:1≤a):Sm a 1:=by
 have:Sm 1 1:=by unfold Sm; decide
 exact this.up h
end Sh
namespace Sh
open PySem L2 PyProof.Rows
seal L2.PE L2.PS L2.PSs L2.PT L2.PW L2.PA L2.PI L2.PG L2.PGs L2.PO L2.PC L2.PCs L2.OpR L2.UnR L2.CallR L2.MtR L2.IxR L2.SlR
def top (i:Nat):Stmt:=PySem.Challenge.pw_shredjoin_k34_whole_counts_go_on.main.body.getD i (.Pass ⟨0,0,0,0⟩)
structure Blt (mg:Str→Option Value):Prop where
 isi:mg "isinstance" = none
 int:mg "int" = none
 bool:mg "bool" = none
 len:mg "len" = none
 range:mg "range" = none
 list:mg "list" = none
 tuple:mg "tuple" = none
 enum:mg "enumerate" = none
 sum:mg "sum" = none
 sorted:mg "sorted" = none
 set:mg "set" = none
 max:mg "max" = none
 min:mg "min" = none
 rev:mg "reversed" = none
 zip:mg "zip" = none
section
variable {P:Program} {w:World} {K:PySem.W.Frag} {mg:Str→Option Value} {base:Heap}
structure RowsL (H:Hp) (as:List Addr) (M:Mat):Prop where
 len:as.length=M.length
 row:∀ i a,as[i]?=some a→H a=some (.lst ((M.getD i []).map V.int))
theorem RowsL.same {H H':Hp} {as:List Addr} {M:Mat} (s:Same H H') (h:RowsL H as M):RowsL H' as M:=⟨h.len,fun i a e=>s _ _ (h.row i a e)⟩
theorem Xc (m:List Int) (h:m≠[]):atI (m.map V.int) 0=some (V.int (m.headD 0)):=by
 cases m with
 | nil=>exact absurd rfl h
 | cons a r=>exact YF (by decide) rfl
theorem Zg4 {M:Mat} {i:Nat} (hi:i < M.length) (h:(M.getD i []).headD 0≠0) (hb:∀ j,j < i→(M.getD j []).headD 0=0):Yp M=some i:=by
 unfold Yp
 rw [List.findIdx?_eq_some_iff_getElem]
 refine ⟨hi,?_,fun j hj=>?_⟩
 ·have e:M.getD i []=M[i]:=by rw [List.getD_eq_getElem?_getD,List.getElem?_eq_getElem hi]; rfl
  rw [e] at h
  exact decide_eq_true h
 ·have hj':j < M.length:=by omega
  have e:M.getD j []=M[j]:=by rw [List.getD_eq_getElem?_getD,List.getElem?_eq_getElem hj']; rfl
  have:=hb j hj
  rw [e] at this
  rw [this]
  decide
theorem Zg5 {M:Mat} (hb:∀ j,j < M.length→(M.getD j []).headD 0=0):Yp M=none:=by
 unfold Yp
 rw [List.findIdx?_eq_none_iff]
 intro r hr
 obtain ⟨j,hj,e⟩:=List.mem_iff_getElem.mp hr
 have:=hb j hj
 rw [List.getD_eq_getElem?_getD,List.getElem?_eq_getElem hj] at this
 have:r.headD 0=0:=by rw [← e]; exact this
 rw [this]
 decide
def ZiK (M:Mat):V:=match Yp M with
 | none=>.non
 | some p=>.int p
abbrev YT:Stmt:=top 9
abbrev Zb2:List Str:=["rows","place","row"]
theorem scPlaceOfHead:Zo Zb2 ["rows"] (Zg YT):=⟨rfl,rfl,rfl,by decide +kernel,rfl,by decide +kernel,by decide +kernel⟩
def Zjk:Sp:=fun vs H Q _=>∃ (r:Addr) (as:List Addr) (M:Mat),vs=[.ref r]∧H r=some (.lst (as.map V.ref))∧RowsL H as M∧(∀ m∈M,m≠[])∧∀ H',Same H H'→Q (ZiK M) H'
theorem Ji (D:HasDef K mg "place_of_head" YT ["rows"]) (B:Blt mg):FOk P w K mg base 1 "place_of_head" ["rows"] Zjk:=by
 refine D.ok scPlaceOfHead (fun vs H Q E h=>?_) (fun f cdv A outer s H vs Q E hr h=>?_)
 ·obtain ⟨r,as,M,rfl,_⟩:=h
  rfl
 ·obtain ⟨r,as,M,rfl,hr1,hR,hM,k⟩:=h
  refine ⟨_,(Zd (Z3 PassesOwn.never rfl (Zkx rfl B.enum (Za (pv 0) Ze)) (Yb 2 K rfl (Zw (Zz (i:=1) scPlaceOfHead.nd rfl (.inl rfl)) (Zw (Zz (i:=2) scPlaceOfHead.nd rfl (.inl rfl)) Ya)))
    (Zh (Ye (Zt Zgp (ZR ZG (pv 2) Zf (fun _ _=>rfl)) Zf (Zy _)) (Zh (Zr (pv 1))) ZA)))
   (Zh (Zr ZdW))),?_⟩
  refine ⟨_,rfl,r,rfl,⟨_,SqL.of hr1⟩,?_⟩
  refine ZiR (K:=K) (a:=r) (xs:=as.map V.ref) (fun i σ H2=>Same H H2∧(∃ z1 z2:Option V,σ=[some (.ref r),z1,z2])∧∀ j,j < i→(M.getD j []).headD 0=0) ⟨Same.refl _,⟨none,none,rfl⟩,fun j hj=>absurd hj (Nat.not_lt_zero _)⟩ (fun i σ H2 _ ⟨s2,_,_⟩=>SqL.of (s2 _ _ hr1)) ?_ ?_
  ·rintro i x σ H2 t hx ht ⟨s2,⟨z1,z2,rfl⟩,hp⟩
   obtain ⟨hi,rfl⟩:=Yj hx
   have s3:Same H2 (upd H2 t (.tup [.int i,.ref as[i]])):=Zb ht
   have hi':i < M.length:=by rw [← hR.len]; exact hi
   have hrow:=hR.row i as[i] (List.getElem?_eq_getElem hi)
   have hne:M.getD i []≠[]:=by
    rw [List.getD_eq_getElem?_getD,List.getElem?_eq_getElem hi']
    exact hM _ (List.getElem_mem hi')
   refine ⟨t,[.int i,.ref as[i]],rfl,SqT.of Zc,rfl,?_⟩
   refine ⟨_,_,rfl,_,_,rfl,rfl,_,rfl,as[i],_,0,_,rfl,rfl,SqL.of (s3 _ _ (s2 _ _ hrow)),Xc _ hne,rfl,_,rfl,Zde (fun e=>?_) (fun e=>?_)⟩
   ·refine ⟨_,rfl,?_⟩
    have h0:(M.getD i []).headD 0≠0:=by
     intro z
     rw [z] at e
     simp at e
    have:=k _ (s2.trans s3)
    unfold ZiK at this
    rw [Zg4 hi' h0 hp] at this
    exact this
   ·refine ⟨s2.trans s3,⟨_,_,rfl⟩,fun j hj=>?_⟩
    by_cases c:j < i
    ·exact hp j c
    ·have:j=i:=by omega
     subst this
     apply Classical.byContradiction
     intro z
     apply e
     have ne:V.int ((M.getD j []).headD 0)≠V.int 0:=fun q=>z (by injection q)
     show (!decide (V.int ((M.getD j []).headD 0)=V.int 0))=true
     rw [decide_eq_false ne]
     rfl
  ·rintro σ H2 ⟨s2,⟨z1,z2,rfl⟩,hp⟩
   have:=k _ s2
   unfold ZiK at this
   rw [Zg5 (fun j hj=>hp j (by rw [List.length_map,hR.len]; exact hj))] at this
   exact this
abbrev Xz:Stmt:=top 10
abbrev Zb3:List Str:=["row","head","divisor"]
theorem ZeE:Zo Zb3 ["row","head","divisor"] (Zg Xz):=⟨rfl,rfl,rfl,by decide +kernel,rfl,by decide +kernel,by decide +kernel⟩
def Zji (K:PySem.W.Frag):Sp:=fun vs H Q _=>∃ (a b:Addr) (m h:List Int) (d:Int),vs=[.ref a,.ref b,.int d]∧H a=some (.lst (m.map V.int))∧H b=some (.lst (h.map V.int))∧m.length=h.length∧1≤m.length∧m.length≤31 ∧
 (∀ x∈m,Sm 3900 x)∧(∀ x∈h,Sm 3900 x)∧Sm 3900 d∧d≠0∧∀ p H',Same H H'→H p=none→H' p=some (.lst ((Zb6 m h d).map V.int))→Q (.ref p) H'
theorem ZfJ {m:List Int} {k:Nat} (h:∀ x∈m,Sm k x) {j:Nat} (hj:j < m.length):Sm k (m.getD j 0):=by
 rw [List.getD_eq_getElem?_getD,List.getElem?_eq_getElem hj]
 exact h _ (List.getElem_mem hj)
theorem ZdJ {m:List Int} {k:Nat} (h:∀ x∈m,Sm k x) (hj:1≤m.length):Sm k (m.headD 0):=by
 cases m with
 | nil=>simp at hj
 | cons a r=>exact h _ (by simp)
theorem ZjX {m:List Int} {j:Nat} {i:Int} (e:i=j) (hj:j < m.length):atI (m.map V.int) i=some (V.int (m.getD j 0)):=by
 subst e
 refine YF (by omega) ?_
 rw [Int.toNat_natCast,List.getElem?_map,List.getElem?_eq_getElem hj,List.getD_eq_getElem?_getD,List.getElem?_eq_getElem hj]
 rfl
theorem Sm.big {k:Nat} {x:Int} (h:Sm k x) (hk:k≤4000):x.natAbs < 2 ^ 4000:=h.up hk
theorem Zc1 (D:HasDef K mg "lessened" Xz ["row","head","divisor"]) (B:Blt mg):FOk P w K mg base 1 "lessened" ["row","head","divisor"] (Zji K):=by
 refine D.ok ZeE (fun vs H Q E h=>?_) (fun f cdv A outer s H vs Q E hr h=>?_)
 ·obtain ⟨a,b,m,h,d,rfl,_⟩:=h
  rfl
 ·obtain ⟨a,b,m,h,d,rfl,ha,hb,hl,h1,h4,hm,hh,hd,hd0,k⟩:=h
  refine ⟨_,(Zh (Zr (ZL (Zg Xz) Zb3 ["place"] [0,1,2] rfl (ZbR rfl B.range (Za Zf (Za (Zk Zq rfl B.len ZV (Za (pv 0) Ze)) Ze))) (fun _ _ _ _ _=>Yc 0) (fun _ _ _ _ _=>ZP) (fun _ _ _ _ _=>(Zn Za4 (Zn Jc (Zn JU (ZR (JB K) (pv 2) Zf (fun _ _=>rfl)) (ZR (JB K) (pv 1) (pv 0) (fun _ _=>rfl))) (Zn JU (ZR (JB K) (pv 1) Zf (fun _ _=>rfl)) (ZR (JB K) (pv 2) (pv 0) (fun _ _=>rfl)))) (pv 3)))))),?_⟩
  have hne:m≠[]:=fun z=>by rw [z] at h1; simp at h1
  have hne2:h≠[]:=fun z=>by rw [hl,z] at h1; simp at h1
  refine ⟨_,rfl,.ref a,_,rfl,.inl ⟨_,SqL.of ha,rfl⟩,1,_,rfl,?_,?_⟩
  ·rw [List.length_map]
   refine ⟨by decide,by decide,by omega,by omega⟩
  have en:(((m.map V.int).length:Nat) - (1:Int)).toNat=m.length - 1:=by rw [List.length_map]; omega
  rw [en]
  refine YL (m.length - 1) (fun i=>.int (1 + (i:Int))) (fun i v _=>v = .int ((h.headD 0 * m.getD (i + 1) 0 - m.headD 0 * h.getD (i + 1) 0).fdiv d)) (ZK (by omega)) (fun _ _ _ _ _ r=>r) Zeh ?_ ?_
  ·intro i H1 Qe hi hs kq
   have e1:(1 + (i:Int))=((i + 1:Nat):Int):=by omega
   have a1:i + 1 < m.length:=by omega
   have a2:i + 1 < h.length:=by omega
   refine ⟨_,rfl,b,_,0,_,rfl,rfl,SqL.of (hs _ _ hb),Xc _ hne2,_,rfl,_,rfl,a,_,_,_,rfl,rfl,SqL.of (hs _ _ ha),ZjX e1 a1,_,_,rfl,rfl,⟨(ZdJ hh (by omega)).big (by decide),(ZfJ hm a1).big (by decide)⟩,?_⟩
   refine ⟨_,rfl,a,_,0,_,rfl,rfl,SqL.of (hs _ _ ha),Xc _ hne,_,rfl,_,rfl,b,_,_,_,rfl,rfl,SqL.of (hs _ _ hb),ZjX e1 a2,_,_,rfl,rfl,⟨(ZdJ hm h1).big (by decide),(ZfJ hh a2).big (by decide)⟩,?_⟩
   exact ⟨_,_,rfl,rfl,_,rfl,_,_,rfl,rfl,⟨hd0,hd.big (by decide)⟩,kq _ _ (Same.refl _) rfl⟩
  ·intro D1 vs1 H1 hlv hrv hs1 hD1 hDl
   refine k D1 H1 hs1 hD1 ?_
   rw [hDl,Zdw hlv hrv]
   unfold Zb6
   rw [List.map_map]
   rfl
theorem Zbv {X:Cx} (K:PySem.W.Frag) (h:X.K=K:=by rfl):CallR X (.type "list") (fun xs H Q=>∃ p ys,xs=[.ref p]∧(SqL K H p ys∨SqT K H p ys)∧∀ l,H l=none→Q (.ref l) (upd H l (.lst ys))):=by subst h; exact Y4
theorem ZiO {α:Type} (l:List α) (p i:Nat) (d:α):(l.take p ++ l.drop (p + 1)).getD i d=if i < p then l.getD i d else l.getD (i + 1) d:=by
 rw [List.getD_eq_getElem?_getD,List.getElem?_append]
 by_cases hi:i < p
 ·rw [if_pos hi]
  by_cases hl:i < l.length
  ·rw [if_pos (by rw [List.length_take]; omega),List.getElem?_take_of_lt hi,List.getD_eq_getElem?_getD]
  ·rw [if_neg (by rw [List.length_take]; omega),List.getElem?_drop,List.getElem?_eq_none (by rw [List.length_take]; omega),List.getD_eq_getElem?_getD,List.getElem?_eq_none (by omega)]
 ·rw [if_neg hi,List.getD_eq_getElem?_getD]
  by_cases hl:p≤l.length
  ·rw [if_neg (by rw [List.length_take]; omega),List.getElem?_drop,List.length_take,Nat.min_eq_left hl]
   congr 2
   omega
  ·rw [List.getElem?_eq_none (by omega:l.length≤i + 1)]
   by_cases c:i < (l.take p).length
   ·rw [List.length_take] at c
    omega
   ·rw [if_neg c,List.getElem?_drop,List.getElem?_eq_none (by omega)]
theorem Zk8 {l:List Addr} {p i:Nat} {a:Addr} (h:(l.take p ++ l.drop (p + 1))[i]?=some a) (hp:p < l.length):l[if i < p then i else i + 1]?=some a:=by
 rw [List.getElem?_append] at h
 by_cases hi:i < p
 ·rw [if_pos hi]
  rw [if_pos (by rw [List.length_take]; omega),List.getElem?_take_of_lt hi] at h
  exact h
 ·rw [if_neg hi]
  rw [if_neg (by rw [List.length_take]; omega),List.getElem?_drop,List.length_take,Nat.min_eq_left (by omega)] at h
  have e:p + 1 + (i - p)=i + 1:=by omega
  rw [e] at h
  exact h
theorem RowsL.cut {H:Hp} {as:List Addr} {M:Mat} {p:Nat} (h:RowsL H as M) (hp:p < as.length):RowsL H (as.take p ++ as.drop (p + 1)) (M.take p ++ M.drop (p + 1)):=by
 refine ⟨?_,fun i a e=>?_⟩
 ·have:=h.len
  simp only [List.length_append,List.length_take,List.length_drop]
  omega
 ·rw [ZiO]
  have:=h.row _ _ (Zk8 e hp)
  split at this
  ·rw [if_pos (by assumption)]; exact this
  ·rw [if_neg (by assumption)]; exact this
theorem FineM.len:∀ {n:Nat} {M:Mat} {s d W:Int},FineM n M s d W→M.length=n
 | 0,_,_,_,_,h=>by rw [h.1]; rfl
 | 1,_,_,_,_,⟨x,e,_⟩=>by rw [e]; rfl
 | _ + 2,_,_,_,_,h=>h.1.1
theorem Zk5 {M:Mat} {p:Nat} (h:Yp M=some p):p < M.length:=by
 unfold Yp at h
 rw [List.findIdx?_eq_some_iff_getElem] at h
 exact h.1
theorem FineM.go {n p:Nat} {M:Mat} {s d W:Int} (h:FineM (n + 2) M s d W) (e:Yp M=some p):FineM (n + 1) (Jj M p d) (if p % 2=0 then s else -s) ((M.getD p []).headD 0) W:=by
 have:=h.2.2.2.2.2
 rw [e] at this
 exact this
theorem FineM.stop {n:Nat} {M:Mat} {s d W:Int} (h:FineM (n + 2) M s d W) (e:Yp M=none):W=0:=by
 have:=h.2.2.2.2.2
 rw [e] at this
 exact this
abbrev Xy:Stmt:=top 11
abbrev Za7:List Str:=["table","rows","sign","divisor","place","head"]
theorem scWorthOf:Zo Za7 ["table"] (Zg Xy):=⟨rfl,rfl,rfl,by decide +kernel,rfl,by decide +kernel,by decide +kernel⟩
structure RowsT (H:Hp) (as:List Addr) (M:Mat):Prop where
 len:as.length=M.length
 row:∀ i a,as[i]?=some a→H a=some (.tup ((M.getD i []).map V.int))
theorem RowsT.same {H H':Hp} {as:List Addr} {M:Mat} (s:Same H H') (h:RowsT H as M):RowsT H' as M:=⟨h.len,fun i a e=>s _ _ (h.row i a e)⟩
def ZbJ:Sp:=fun vs H Q _=>∃ (t:Addr) (ts:List Addr) (M:Mat) (n:Nat) (W:Int),vs=[.ref t]∧H t=some (.tup (ts.map V.ref))∧RowsT H ts M∧FineM n M 1 1 W∧n≤31∧∀ H',Same H H'→Q (.int W) H'
def ZdL (σ:List (Option L2.V)) (H:Hp):Nat:=match σ.getD 1 none with
 | some (L2.V.ref r)=>match H r with
  | some (HO.lst xs)=>xs.length
  | _=>0
 | _=>0
theorem ZbM {t0:Option L2.V} {r:Addr} {xs:List L2.V} {l:List (Option L2.V)} {H:Hp} (h:H r=some (.lst xs)):ZdL (t0 :: some (L2.V.ref r) :: l) H=xs.length:=by
 unfold ZdL
 simp [h]
theorem ZcY (D:HasDef K mg "worth_of" Xy ["table"]) (B:Blt mg) (g26_:FOk P w K mg base 1 "place_of_head" ["rows"] Zjk) (g21_:FOk P w K mg base 1 "lessened" ["row","head","divisor"] (Zji K)):FOk P w K mg base 2 "worth_of" ["table"] ZbJ:=by
 refine D.ok scWorthOf (fun vs H Q E h=>?_) (fun f cdv A outer s H vs Q E hr h=>?_)
 ·obtain ⟨t,ts,M,n,W,rfl,_⟩:=h
  rfl
 ·obtain ⟨t,ts,M,n,W,rfl,ht,hT,hF,hn,k⟩:=h
  refine ⟨_,(Zd (XD (i:=1) (Zg Xy) Za7 ["row"] [] scWorthOf.nd rfl (.inl rfl) rfl (YK (pv 0)) (fun _ _ _ _ _=>Yc 0) (fun _ _ _ _ _=>ZP) (fun _ _ _ _ _=>(ZE (Zbv K) rfl B.list Zcy (Za (pv 0) Ze))))
   (Zd (Zm (i:=2) scWorthOf.nd rfl (.inl rfl) Zf)
   (Zd (Zm (i:=3) scWorthOf.nd rfl (.inr rfl) Zf)
   (Zd (Jy PassesOwn.never (Zt ZcX (Zk Zq rfl B.len ZV (Za (pv 1) Ze)) Zf (Zy _))
    (Zd (Zm (i:=4) scWorthOf.nd rfl (.inl rfl) (Zu g26_ hr (Za (pv 1) Ze)))
   (Zd (Ye (Zt ZlY (pv 4) ZdW (Zy _)) (Zh (Zr Zf)) ZA)
   (Zd (Zm (i:=2) scWorthOf.nd rfl (.inl rfl) (ZdY (Zt XE (Zn ZI (pv 4) Zf) Zf (Zy _)) (pv 2) (Jh YH (pv 2))))
   (Zd (Zm (i:=5) scWorthOf.nd rfl (.inr rfl) (ZR ZG (pv 1) (pv 4) (fun _ _=>rfl)))
   (Zd (XD (i:=1) (Zg Xy) Za7 ["row"] [3,5] scWorthOf.nd rfl (.inl rfl) rfl (ZX (Zn ZbT (Zv Xi (pv 1) ZB (Zx (pv 4))) (Zv Xi (pv 1) (Zx (Zn ZY (pv 4) Zf)) ZB))) (fun _ _ _ _ _=>Yc 0) (fun _ _ _ _ _=>ZP) (fun _ _ _ _ _=>(Zu g21_ hr (Za (pv 0) (Za (pv 2) (Za (pv 1) Ze))))))
   (Zh (Zm (i:=3) scWorthOf.nd rfl (.inr rfl) (ZR ZG (pv 5) Zf (fun _ _=>rfl))))))))))
   (Zd (Ye (Zt XE (Zk Zq rfl B.len ZV (Za (pv 1) Ze)) Zf (Zy _)) (Zh (Zr Zf)) ZA)
   (Zh (Zr (Zn Xe (pv 2) (ZR ZG (ZR ZG (pv 1) Zf (fun _ _=>rfl)) Zf (fun _ _=>rfl)))))))))),?_⟩
  have hlM:=hF.len
  have hlt:=hT.len
  refine ⟨_,rfl,t,rfl,⟨_,SqT.of ht⟩,Zd9 ts.length (fun i=>(ts.map V.ref).getD i .non) (fun i=>(M.getD i []).map V.int) (ZK (by omega)) (by have:=ZaA (K:=K) (SqT.of ht); rw [List.length_map] at this; exact this) ?_ ?_⟩
  ·intro i H1 Qe hi hs kq
   rw [YA hi]
   refine ⟨_,rfl,ts[i],_,rfl,.inr (SqT.of (hs _ _ (hT.row i _ (List.getElem?_eq_getElem hi)))),fun l hl=>kq l _ (Zb hl) hl Zc⟩
  intro D1 as H1 hla hra hs1 hD1 hDl1
  refine ZhH (fun σ H2=>∃ (n:Nat) (M:Mat) (s d:Int) (r:Addr) (as:List Addr) (z4 z5:Option V),σ=[some (.ref t),some (.ref r),some (.int s),some (.int d),z4,z5]∧Same H H2∧H2 r=some (.lst (as.map V.ref))∧RowsL H2 as M∧FineM n M s d W∧n≤31) ZdL
   ⟨n,M,1,1,D1,as,none,none,rfl,hs1,hDl1,⟨by omega,fun i a e=>(hra i a e).2.2⟩,hF,hn⟩ ?_ ?_
  ·rintro σ H2 ⟨n,M,sg,d,r,as,z4,z5,rfl,s2,hr2,hR,hF,hn⟩
   have hlM:=hF.len
   have hla:=hR.len
   refine ⟨_,rfl,.ref r,_,rfl,.inl ⟨_,SqL.of hr2,rfl⟩,_,_,rfl,rfl,_,rfl,?_⟩
   rw [List.length_map]
   refine Zde (fun e=>?_) (fun e=>?_)
   ·have e':1 < as.length:=by
     have:=of_decide_eq_true e
     omega
    obtain ⟨m,rfl⟩:∃ m,n=m + 2:=⟨n - 2,by omega⟩
    obtain ⟨sq,sm,smd,d0,sgs,_⟩:=id hF
    refine ⟨_,rfl,r,as,M,rfl,hr2,hR,fun q mq z=>?_,fun H3 s3=>?_⟩
    ·have:=sq.2 q mq
     rw [z] at this
     simp at this
    have hr3:=s3 _ _ hr2
    have hR3:=hR.same s3
    have s13:=s2.trans s3
    unfold ZiK
    cases hh:Yp M with
    | none =>
     refine ⟨_,rfl,rfl,_,rfl,ZnH ?_⟩
     have:=k _ s13
     rw [hF.stop hh] at this
     exact this
    | some p =>
     have hp:=Zk5 hh
     have hp':p < as.length:=by omega
     have hF2:=hF.go hh
     refine ⟨_,rfl,rfl,_,rfl,Zne ?_⟩
     have hrow:=hR3.row p as[p] (List.getElem?_eq_getElem hp')
     have mrow:M.getD p []∈M:=by
      rw [List.getD_eq_getElem?_getD,List.getElem?_eq_getElem hp]
      exact List.getElem_mem hp
     have sgn2:∀ (Qq:VK),Qq (.int (if p % 2=0 then sg else -sg)) H3→(tIf (Zlt (tOp rEq (tOp (rI (fun _ j=>0 < j) fun i j=>.int (i % j)) (ZhF 4) (tC (.int 2))) (tC (.int 0)))) (ZhF 2) (tUn (rU fun i=>.int (-i)) (ZhF 2))) [some (.ref t),some (.ref r),some (.int sg),some (.int d),some (.int p),z5] H3 Qq:=fun Qq q=>by
      refine ⟨_,rfl,_,_,rfl,rfl,(by show (0:Int) < 2; decide),rfl,_,rfl,Zde (fun e=>?_) (fun e=>?_)⟩
      ·have:p % 2=0:=by
        have:=of_decide_eq_true e
        injection this with this
        omega
       rw [if_pos this] at q
       exact ⟨_,rfl,q⟩
      ·have:¬ p % 2=0:=fun z=>e (decide_eq_true (by show V.int ((p:Int) % 2)=V.int 0; rw [show ((p:Int) % 2)=0 by omega]))
       rw [if_neg this] at q
       exact ⟨_,rfl,_,rfl,q⟩
     refine sgn2 _ ?_
     refine ⟨_,rfl,_,rfl,r,_,_,_,rfl,rfl,SqL.of hr3,Zdr (by rw [List.getElem?_map,List.getElem?_eq_getElem hp']; rfl),?_⟩
     refine ⟨_,rfl,_,rfl,_,rfl,r,_,rfl,SqL.of hr3,fun p1 hp1=>?_⟩
     rw [cut_to (by rw [List.length_map]; omega)]
     have s4:=Zb (o:=.lst ((as.map V.ref).take p)) hp1
     refine ⟨_,rfl,_,rfl,_,_,rfl,rfl,_,rfl,r,_,rfl,SqL.of (s4 _ _ hr3),fun p2 hp2=>?_⟩
     have e5:((p:Int) + 1)=((p + 1:Nat):Int):=by omega
     rw [e5,cut_from (by rw [List.length_map]; omega)]
     have s5:=Zb (o:=.lst ((as.map V.ref).drop (p + 1))) hp2
     have ecut:(as.map V.ref).take p ++ (as.map V.ref).drop (p + 1)=(as.take p ++ as.drop (p + 1)).map V.ref:=by
      rw [List.map_append,List.map_take,List.map_drop]
     refine ⟨p1,p2,_,_,rfl,rfl,s5 _ _ Zc,Zc,?_,fun p3 hp3=>?_⟩
     ·simp only [List.length_take,List.length_drop,List.length_map]
      exact ZK (by omega)
     rw [ecut]
     have s6:=Zb (o:=.lst ((as.take p ++ as.drop (p + 1)).map V.ref)) hp3
     have s36:=(s4.trans s5).trans s6
     have hRc:=(hR3.same s36).cut hp'
     have hlc:(as.take p ++ as.drop (p + 1)).length=as.length - 1:=by
      simp only [List.length_append,List.length_take,List.length_drop]
      omega
     refine ⟨p3,rfl,⟨_,SqL.of Zc⟩,Zd9 (as.take p ++ as.drop (p + 1)).length (fun i=>((as.take p ++ as.drop (p + 1)).map V.ref).getD i .non) (fun i=>(Zb6 ((M.take p ++ M.drop (p + 1)).getD i []) (M.getD p []) d).map V.int) (ZK (by omega)) (by have:=YE (K:=K) (SqL.of (Zc (H:=upd (upd H3 p1 (.lst ((as.map V.ref).take p))) p2 (.lst ((as.map V.ref).drop (p + 1)))) (a:=p3) (o:=.lst ((as.take p ++ as.drop (p + 1)).map V.ref)))); rw [List.length_map] at this; exact this) ?_ ?_⟩
     ·intro i H4 Qe hi hs kq
      rw [YA hi]
      have hi':i < (M.take p ++ M.drop (p + 1)).length:=by rw [← hRc.len]; exact hi
      have mi:(M.take p ++ M.drop (p + 1)).getD i []∈M:=by
       rw [List.getD_eq_getElem?_getD,List.getElem?_eq_getElem hi']
       rcases List.mem_append.mp (List.getElem_mem hi') with q | q
       ·exact List.mem_of_mem_take q
       ·exact List.mem_of_mem_drop q
      have l1:=sq.2 _ mi
      have l2:=sq.2 _ mrow
      refine ⟨_,rfl,_,rfl,_,rfl,_,as[p],_,_,d,rfl,hs _ _ (hRc.row i _ (List.getElem?_eq_getElem hi)),hs _ _ (s36 _ _ hrow),?_,?_,?_,sm _ mi,sm _ mrow,smd,d0,fun q H5 s5 hq hl=>kq q H5 s5 hq hl⟩
      ·rw [l1,l2]
      ·rw [l1]; omega
      ·rw [l1]; omega
     intro D2 as2 H4 hla2 hra2 hs4 hD2 hDl2
     refine ⟨_,rfl,as[p],_,0,_,rfl,rfl,SqL.of (hs4 _ _ (s36 _ _ hrow)),Xc _ (fun z=>?_),?_⟩
     ·have:=sq.2 _ mrow
      rw [z] at this
      simp at this
     refine ⟨⟨m + 1,Jj M p d,_,_,D2,as2,_,_,rfl,(s13.trans s36).trans hs4,hDl2,⟨?_,fun i a e=>?_⟩,hF2,by omega⟩,?_⟩
     ·rw [hF2.len,hla2,hlc]
      omega
     ·have hi2:i < as2.length:=(List.getElem?_eq_some_iff.mp e).1
      rw [(hra2 i a e).2.2]
      have hi':i < (M.take p ++ M.drop (p + 1)).length:=by rw [← hRc.len]; omega
      have:(Jj M p d).getD i []=Zb6 ((M.take p ++ M.drop (p + 1)).getD i []) (M.getD p []) d:=by
       unfold Jj
       rw [List.getD_eq_getElem?_getD,List.getElem?_map,List.getElem?_eq_getElem hi',List.getD_eq_getElem?_getD (l:=M.take p ++ M.drop (p + 1)),List.getElem?_eq_getElem hi']
       rfl
      rw [this]
     ·rw [ZbM hr2]
      show ZdL (some (.ref t) :: some (.ref D2) :: _) H4 < _
      rw [ZbM hDl2,List.length_map,List.length_map]
      omega
   ·have e':¬ 1 < as.length:=fun z=>e (decide_eq_true (by omega))
    refine ⟨_,rfl,.ref r,_,rfl,.inl ⟨_,SqL.of hr2,rfl⟩,rfl,_,rfl,?_⟩
    rw [List.length_map]
    have n2:n=0∨n=1:=by omega
    rcases n2 with rfl | rfl
    ·have:as.length=0:=by omega
     rw [this]
     refine ZnH ?_
     have:=k _ s2
     rw [hF.2] at this
     exact this
    ·have l1:as.length=1:=by omega
     refine Jg (Zej (by omega)) ?_
     obtain ⟨x,e1,e2,hs1⟩:=hF
     subst e1
     have h0:=hR.row 0 as[0] (List.getElem?_eq_getElem (by omega))
     refine ⟨_,rfl,_,rfl,r,_,0,.ref as[0],rfl,rfl,SqL.of hr2,YF (by decide) (by rw [List.getElem?_map]; exact congrArg (Option.map V.ref) (List.getElem?_eq_getElem (by omega))),as[0],_,0,.int x,rfl,rfl,SqL.of h0,YF (by decide) rfl,_,_,rfl,rfl,.inl (by omega),?_⟩
     show Q (.int (sg * x)) H2
     rw [← e2]
     exact k _ s2
  ·rintro σ H2 Q1 Q2 himp ⟨v,e,x,n,e2,hl,i,j,e3,e4,b,e5,q⟩
   exact ⟨v,e,x,n,e2,hl,i,j,e3,e4,b,e5,himp _ _ q⟩
abbrev ZcO:Stmt:=top 35
theorem ZhW:Zo ["_law_found"] ["_law_found"] (Zg ZcO):=⟨rfl,rfl,rfl,by decide +kernel,rfl,by decide +kernel,by decide +kernel⟩
def ZcI:Sp:=fun vs H Q _=>∃ (x:V) (n:String),vs=[x]∧TyB H x n∧Q (.bl (n == "int")) H
theorem ZeJ (D:HasDef K mg "_law_whole" ZcO ["_law_found"]) (B:Blt mg):FOk P w K mg base 1 "_law_whole" ["_law_found"] ZcI:=by
 refine D.ok ZhW (fun vs H Q E h=>?_) (fun f cdv A outer s H vs Q E hr h=>?_)
 ·obtain ⟨x,n,rfl,_⟩:=h
  rfl
 ·obtain ⟨x,n,rfl,ty,k⟩:=h
  refine ⟨_,Zh (Zr (Zgk (Zk Zcs rfl B.isi ZmG (Za (pv 0) (Za (ZlR rfl B.int Znu) Ze)))
   (Zgg (Zjw (Zk Zcs rfl B.isi ZmG (Za (pv 0) (Za (ZlR rfl B.bool ZmI) Ze))))))),?_⟩
  refine ⟨_,rfl,x,"int",n,rfl,by decide,ty,_,rfl,?_⟩
  refine Zde (fun e=>?_) (fun e=>?_)
  ·refine ⟨_,rfl,x,"bool",n,rfl,by decide,ty,_,rfl,?_⟩
   rw [(ZgX n ty.mem).1 e]
   exact k
  ·rw [(ZgX n ty.mem).2 e] at k
   exact k
end
end Sh
namespace Sh
theorem Zfv {k:Nat} {g:Nat→Int}:∀ {n:Nat},(∀ i,i < n→Sm k (g i))→(YN n g).natAbs≤n * 2 ^ k
 | 0,_=>by simp [YN]
 | n + 1,h=>by
  have h1:=Zfv (n:=n) fun i hi=>h i (by omega)
  have h2:=h n (by omega)
  unfold Sm at h2
  rw [YN,Nat.add_mul,Nat.one_mul]
  omega
theorem ZjU {b:Nat}:∀ {n:Nat} {f:ZW},n≤31→(∀ i j,Sm b (f i j))→Sm (n * (b + 5) + 1) (det n f)
 | 0,f,_,h=>by
  show (1:Int).natAbs < 2 ^ (0 * (b + 5) + 1)
  rw [Nat.zero_mul]
  decide
 | n + 1,f,hn,h=>by
  rw [det]
  have h1:∀ i,i < n + 1→Sm (b + (n * (b + 5) + 1)) (Jv i * f i 0 * det n fun r c=>f (rmv i r) (c + 1)):=fun i _=>by
   have hs:Sm b (Jv i * f i 0):=by
    have:=h i 0
    unfold Sm Jv at *
    split
    ·rw [Int.one_mul]; exact this
    ·rw [Int.neg_mul,Int.one_mul,Int.natAbs_neg]; exact this
   exact hs.mul (ZjU (n:=n) (by omega) fun r c=>h _ _)
  have h2:=Zfv h1
  unfold Sm
  have e:(n + 1) * (b + 5) + 1=(b + (n * (b + 5) + 1)) + 5:=by
   rw [Nat.add_mul,Nat.one_mul]
   omega
  rw [e,Nat.pow_add]
  have hp:0 < 2 ^ (b + (n * (b + 5) + 1)):=Nat.pow_pos (by decide)
  have h3:(n + 1) * 2 ^ (b + (n * (b + 5) + 1)) < 2 ^ (b + (n * (b + 5) + 1)) * 2 ^ 5:=by
   rw [Nat.mul_comm]
   exact Nat.mul_lt_mul_of_pos_left (by omega) hp
  omega
structure Rel (n:Nat) (R:Mat) (F:ZW):Prop where
 sq:Sq n R
 at_:∀ i j,i < n→j < n→(R.getD i []).getD j 0=F i j
theorem X7 {m:List Int}:m.headD 0=m.getD 0 0:=by cases m <;> rfl
theorem Zg8 (l:Mat) (p i:Nat):(l.take p ++ l.drop (p + 1)).getD i []=l.getD (rmv p i) []:=by
 unfold rmv
 rw [List.getD_eq_getElem?_getD,List.getElem?_append]
 by_cases hi:i < p
 ·rw [if_pos hi]
  by_cases hl:i < l.length
  ·rw [if_pos (by rw [List.length_take]; omega),List.getElem?_take_of_lt hi,List.getD_eq_getElem?_getD]
  ·rw [if_neg (by rw [List.length_take]; omega),List.getElem?_drop,List.getElem?_eq_none (by rw [List.length_take]; omega),List.getD_eq_getElem?_getD,List.getElem?_eq_none (by omega)]
 ·rw [if_neg hi,List.getD_eq_getElem?_getD]
  by_cases hl:p≤l.length
  ·rw [if_neg (by rw [List.length_take]; omega),List.getElem?_drop,List.length_take,Nat.min_eq_left hl]
   congr 2
   omega
  ·rw [List.getElem?_eq_none (by omega:l.length≤i + 1)]
   by_cases c:i < (l.take p).length
   ·rw [List.length_take] at c
    omega
   ·rw [if_neg c,List.getElem?_drop,List.getElem?_eq_none (by omega)]
theorem Zf1 {n:Nat} {R:Mat} (h:Sq n R) {i:Nat} (hi:i < n):R.getD i []∈R:=by
 rw [List.getD_eq_getElem?_getD,List.getElem?_eq_getElem (by rw [h.1]; exact hi)]
 exact List.getElem_mem _
theorem Rel.next {M:ZW} {n t p:Nat} {R:Mat} {F:ZW} {d:Int} (h:Rel (n + 2) R F) (g:Zi9 M t d F) (hd:d≠0) (hp:p < n + 2):Rel (n + 1) (Jj R p d) (JV F d p):=by
 have hl:(R.take p ++ R.drop (p + 1)).length=n + 1:=by
  rw [List.length_append,List.length_take,List.length_drop,h.sq.1]
  omega
 have hrow:∀ i,i < n + 1→(Jj R p d).getD i []=Zb6 (R.getD (rmv p i) []) (R.getD p []) d:=fun i hi=>by
  unfold Jj
  rw [List.getD_eq_getElem?_getD,List.getElem?_map,List.getElem?_eq_getElem (by rw [hl]; exact hi)]
  have:(R.take p ++ R.drop (p + 1))[i]'(by rw [hl]; exact hi)=R.getD (rmv p i) []:=by
   rw [← Zg8,List.getD_eq_getElem?_getD,List.getElem?_eq_getElem (by rw [hl]; exact hi)]
   rfl
  rw [Option.map_some,this]
  rfl
 have hr:∀ i,i < n + 1→rmv p i < n + 2:=fun i hi=>by unfold rmv; split <;> omega
 have hlen:∀ i,i < n + 2→(R.getD i []).length=n + 2:=fun i hi=>h.sq.2 _ (Zf1 h.sq hi)
 refine ⟨⟨by unfold Jj; rw [List.length_map,hl],fun r hr'=>?_⟩,fun i j hi hj=>?_⟩
 ·unfold Jj at hr'
  obtain ⟨q,hq,rfl⟩:=List.mem_map.mp hr'
  unfold Zb6
  rw [List.length_map,List.length_range]
  have:q∈R:=by
   rcases List.mem_append.mp hq with z | z
   ·exact List.mem_of_mem_take z
   ·exact List.mem_of_mem_drop z
  rw [h.sq.2 q this]
  rfl
 ·rw [hrow i hi]
  unfold Zb6
  rw [List.getD_eq_getElem?_getD,List.getElem?_map,List.getElem?_range (by rw [hlen _ (hr i hi)]; omega)]
  show ((R.getD p []).headD 0 * (R.getD (rmv p i) []).getD (j + 1) 0 - (R.getD (rmv p i) []).headD 0 * (R.getD p []).getD (j + 1) 0).fdiv d=JV F d p i j
  rw [X7,X7,h.at_ p 0 hp (by omega),h.at_ _ (j + 1) (hr i hi) (by omega),h.at_ _ 0 (hr i hi) (by omega),h.at_ p (j + 1) hp (by omega),← Zd4 g,Int.mul_fdiv_cancel_left _ hd]
theorem Zen {M:ZW} (hB:∀ (k:Nat) (ρ γ:Nat→Nat),k≤31→Sm 3900 (det k fun i j=>M (ρ i) (γ j))):∀ (m t:Nat) {R:Mat} {F:ZW} {d s X:Int},m + 1 + t≤31→Rel (m + 1) R F→Zi9 M t d F→d≠0→Sm 3900 d→(s=1∨s = -1)→det (m + 1) F=d ^ m * X→FineM (m + 1) R s d (s * X)
 | 0,t,R,F,d,s,X,hm,hR,hG,hd,hds,hs,e=>by
  have l1:=hR.sq.1
  match R,l1,hR with
  | [r],_,hR =>
   have l2:=hR.sq.2 r (by simp)
   match r,l2,hR with
   | [x],_,hR =>
    have ex:x=F 0 0:=hR.at_ 0 0 (by omega) (by omega)
    have eX:X=F 0 0:=by
     have:det 1 F=F 0 0:=by simp [det,YN,Jv]
     rw [this] at e
     simpa using e.symm
    exact ⟨x,rfl,by rw [eX,ex],hs⟩
 | m + 1,t,R,F,d,s,X,hm,hR,hG,hd,hds,hs,e=>by
  have ent:∀ i j,Sm 3900 (F i j):=fun i j=>by
   obtain ⟨ρ',γ',e1⟩:=hG 0 (fun _=>i) (fun _=>j)
   have e2:det 1 (fun _ _=>F i j)=F i j:=by simp [det,YN,Jv]
   have e3:F i j=det (0 + 1 + t) fun a b=>M (ρ' a) (γ' b):=by
    rw [← e2]
    simpa using e1
   rw [e3]
   exact hB _ _ _ (by omega)
  have inR:∀ r∈R,∀ x∈r,Sm 3900 x:=fun r hr x hx=>by
   obtain ⟨i,hi,rfl⟩:=List.getElem_of_mem hr
   obtain ⟨j,hj,rfl⟩:=List.getElem_of_mem hx
   have hi':i < m + 2:=by rw [← hR.sq.1]; exact hi
   have hj':j < m + 2:=by rw [← hR.sq.2 _ hr]; exact hj
   have:=hR.at_ i j hi' hj'
   rw [List.getD_eq_getElem?_getD (l:=R),List.getElem?_eq_getElem hi] at this
   have e4:R[i].getD j 0=R[i][j]:=by rw [List.getD_eq_getElem?_getD,List.getElem?_eq_getElem hj]; rfl
   have e5:R[i][j]=F i j:=by rw [← e4]; exact this
   rw [e5]
   exact ent i j
  have hd0:∀ i,i < m + 2→(R.getD i []).headD 0=F i 0:=fun i hi=>by rw [X7]; exact hR.at_ i 0 hi (by omega)
  refine ⟨hR.sq,inR,hds,hd,hs,?_⟩
  cases hh:Yp R with
  | none =>
   have z:∀ i,i < m + 2→F i 0=0:=fun i hi=>by
    rw [← hd0 i hi]
    unfold Yp at hh
    rw [List.findIdx?_eq_none_iff] at hh
    have:=hh _ (Zf1 hR.sq hi)
    exact Classical.byContradiction fun q=>by rw [decide_eq_true q] at this; cases this
   have e0:det (m + 2) F=0:=Zer z
   rw [e0] at e
   have:X=0:=by
    rcases Int.mul_eq_zero.mp e.symm with q | q
    ·exact (Int.pow_ne_zero hd q).elim
    ·exact q
   show s * X=0
   rw [this,Int.mul_zero]
  | some p =>
   have hp:p < m + 2:=by
    unfold Yp at hh
    rw [List.findIdx?_eq_some_iff_getElem] at hh
    rw [← hR.sq.1]
    exact hh.1
   have hne:F p 0≠0:=by
    rw [← hd0 p hp]
    unfold Yp at hh
    rw [List.findIdx?_eq_some_iff_getElem] at hh
    obtain ⟨h1,h2,_⟩:=hh
    have e1:R.getD p []=R[p]:=by rw [List.getD_eq_getElem?_getD,List.getElem?_eq_getElem h1]; rfl
    rw [e1]
    exact of_decide_eq_true h2
   have ih:=Zen hB m (t + 1) (R:=Jj R p d) (F:=JV F d p) (d:=F p 0) (s:=if p % 2=0 then s else -s) (X:=Jv p * X) (by omega) (hR.next hG hd hp) (Zg6 hG hd hne) hne (ent p 0) (by split <;> omega) (Zgx hG hd hne hp e)
   have ew:(if p % 2=0 then s else -s) * (Jv p * X)=s * X:=by
    unfold Jv
    split
    ·rw [Int.one_mul]
    ·rw [Int.neg_mul,Int.neg_mul,Int.one_mul,Int.mul_neg,Int.neg_neg]
   rw [ew] at ih
   show FineM (m + 1) (Jj R p d) (if p % 2=0 then s else -s) ((R.getD p []).headD 0) (s * X)
   rw [hd0 p hp]
   exact ih
def ZjC (R:Mat):ZW:=fun i j=>(R.getD i []).getD j 0
theorem Zla {n:Nat} {R:Mat} (hn:n≤31) (hq:Sq n R) (hb:SmM 120 R):FineM n R 1 1 (det n (ZjC R)):=by
 have ent:∀ i j,Sm 120 (ZjC R i j):=fun i j=>by
  unfold ZjC
  by_cases hi:i < R.length
  ·rw [List.getD_eq_getElem?_getD (l:=R),List.getElem?_eq_getElem hi]
   show Sm 120 (R[i].getD j 0)
   by_cases hj:j < R[i].length
   ·rw [List.getD_eq_getElem?_getD,List.getElem?_eq_getElem hj]
    exact hb _ (List.getElem_mem hi) _ (List.getElem_mem hj)
   ·rw [List.getD_eq_getElem?_getD,List.getElem?_eq_none (by omega)]
    show (0:Int).natAbs < 2 ^ 120
    decide
  ·rw [List.getD_eq_getElem?_getD (l:=R),List.getElem?_eq_none (by omega)]
   show (0:Int).natAbs < 2 ^ 120
   decide
 cases n with
 | zero =>
  refine ⟨List.length_eq_zero_iff.mp hq.1,rfl⟩
 | succ m =>
  have h:=Zen (M:=ZjC R) (fun k ρ γ hk=>(ZjU (b:=120) (by omega) fun i j=>ent _ _).up (by omega)) m 0 (R:=R) (F:=ZjC R) (d:=1) (s:=1) (X:=det (m + 1) (ZjC R)) (by omega) ⟨hq,fun i j _ _=>rfl⟩ (ZeU _) (by decide) (Sm.one _ (by decide)) (.inl rfl) (by rw [Int.one_pow,Int.one_mul])
  rw [Int.one_mul] at h
  exact h
def Xl:Nat→(Nat→Int)→Int
 | 0,_=>1
 | n + 1,g=>Xl n g * g n
theorem JR {g h:Nat→Int}:∀ {n:Nat},(∀ i,i < n→g i=h i)→Xl n g=Xl n h
 | 0,_=>rfl
 | n + 1,e=>by
  rw [Xl,Xl,JR (n:=n) fun i hi=>e i (by omega),e n (by omega)]
theorem Zas (g:Nat→Int):∀ n:Nat,Xl (n + 1) g=g 0 * Xl n fun i=>g (i + 1)
 | 0=>by simp [Xl]
 | n + 1=>by
  rw [Xl,Zas g n,Xl,Int.mul_assoc]
theorem ZbP:∀ n:Nat,Xl n (fun _=>1)=1
 | 0=>rfl
 | n + 1=>by rw [Xl,ZbP n]; rfl
theorem Zck:∀ {n:Nat} {B:ZW},(∀ k j,j < k→B k j=0)→det n B=Xl n fun i=>B i i
 | 0,_,_=>rfl
 | n + 1,B,h=>by
  rw [Zbr fun i h1 _=>h i 0 h1,Zck (n:=n) (B:=fun r c=>B (r + 1) (c + 1)) fun k j hj=>h _ _ (by omega),Zas]
end Sh
namespace Sh
open PySem L2 PyProof.Rows
seal L2.PE L2.PS L2.PSs L2.PT L2.PW L2.PA L2.PI L2.PG L2.PGs L2.PO L2.PC L2.PCs L2.OpR L2.UnR L2.CallR L2.MtR L2.IxR L2.SlR
section
variable {P:Program} {w:World} {K:PySem.W.Frag} {mg:Str→Option Value} {base:Heap}
theorem Zal {X:Cx} (K:PySem.W.Frag) (h:X.K=K:=by rfl):CallR X (.type "tuple") (fun xs H Q=>∃ p ys,xs=[.ref p]∧((SqL K H p ys∧∀ l,H l=none→Q (.ref l) (upd H l (.tup ys)))∨(SqT K H p ys∧Q (.ref p) H))):=by subst h; exact ZJ
theorem Zf5 {H':Hp}:∀ (vs:List V) (f:Nat→List V),(∀ (i:Nat) v,vs[i]?=some v→∃ a,v=V.ref a∧H' a=some (.tup (f i)))→∃ ts:List Addr,vs=ts.map V.ref∧∀ (i:Nat) a,ts[i]?=some a→H' a=some (.tup (f i))
 | [],_,_=>⟨[],rfl,fun i a e=>by simp at e⟩
 | v :: vs,f,h=>by
  obtain ⟨ts,e,ht⟩:=Zf5 vs (fun i=>f (i + 1)) fun i u hu=>h (i + 1) u (by simpa using hu)
  obtain ⟨a,ea,ha⟩:=h 0 v rfl
  refine ⟨a :: ts,by rw [e,ea]; rfl,fun i b eb=>?_⟩
  cases i with
  | zero=>simp at eb; subst eb; exact ha
  | succ i=>exact ht i b (by simpa using eb)
end
abbrev Pr:=Str × Int
def PairAt (H:Hp) (v:V) (p:Pr):Prop:=∃ b,v = .ref b∧H b=some (.tup [.str p.1,.int p.2])
def HpAt (H:Hp) (v:V) (hp:List Pr):Prop:=∃ a xs,v = .ref a∧H a=some (.tup xs)∧xs.length=hp.length∧∀ i p,hp[i]?=some p→PairAt H (xs.getD i .non) p
theorem PairAt.same {H H':Hp} (s:TSame H H') {v:V} {p:Pr} (h:PairAt H v p):PairAt H' v p:=by
 obtain ⟨b,e,q⟩:=h
 exact ⟨b,e,s _ _ q⟩
theorem HpAt.same {H H':Hp} (s:TSame H H') {v:V} {hp:List Pr} (h:HpAt H v hp):HpAt H' v hp:=by
 obtain ⟨a,xs,e,q,l,r⟩:=h
 exact ⟨a,xs,e,s _ _ q,l,fun i p z=>(r i p z).same s⟩
section
variable {P:Program} {w:World} {K:PySem.W.Frag} {mg:Str→Option Value} {base:Heap}
theorem ZhL {ss:List Str} {i:Nat} (h:i < ss.length):(ss.map V.str).getD i .non = .str ss[i]:=by
 rw [List.getD_eq_getElem?_getD,List.getElem?_map,List.getElem?_eq_getElem h]
 rfl
end
end Sh
namespace L2
open PySem PySem.Spec PyProof.Rows
theorem Ze1 {X:Cx} (hc:X.calm=true):CallR X (.type "list") (fun xs H Q=>∃ (a:Addr) (kvs:List (Key × V)),xs=[.ref a]∧H a=some (.dK kvs)∧∀ p,H p=none→Q (.ref p) (upd H p (.lst (kvs.map fun kv=>kV kv.1)))):=by
 intro pins s σ H xs us Q I r h
 obtain ⟨a,kvs,rfl,ha,q⟩:=h
 obtain ⟨u,rfl,ru⟩:=Xg r
 cases ru
 obtain ⟨hz,lo,vs,kv,dd⟩:=Zdj I.hok ha
 obtain ⟨ep,hat⟩:=dd.dictAt
 have hlen:kvs.length=vs.length:=kv.length
 refine PySem.W.kdl_call (PySem.W.kdl_dict (knd:=Zp X.prog X.w) (kvs:=vs) (ep:=ep) lo) (I.ok.hd hc) hat (by omega) fun h' tk acc' c' hk hS hacc=>?_
 have hf:H s.heap.objs.size=none:=I.hok.fresh (Nat.le_refl _)
 refine ⟨.ref s.heap.objs.size,_,I.laid (t':=tk) (o:=.lst (kvs.map fun kv=>kV kv.1)) hk (Nat.le_refl _) ?_,rfl,q _ hf⟩
 refine ⟨by rw [List.length_map]; exact hz,acc'.toList,c',?_,by rw [hS,Array.toArray_toList]⟩
 have hsz:acc'.toList.length=kvs.length:=by rw [Array.length_toList,hlen]; exact hacc.1
 have key:∀ (ws:List V) (us:List Value),ws.length=us.length→(∀ (i:Nat) (w:V) (u:Value),ws[i]?=some w→us[i]?=some u→RelV w u)→Vals ws us:=by
  intro ws
  induction ws with
  | nil =>
   intro us hl _
   have:us=[]:=List.length_eq_zero_iff.mp hl.symm
   subst this
   exact .nil
  | cons w ws ih =>
   intro us hl h
   cases us with
   | nil=>cases hl
   | cons u us=>exact .cons (h 0 w u rfl rfl) (ih us (by simpa using hl) fun i w' u' e1 e2=>h (i + 1) w' u' e1 e2)
 refine key _ _ (by rw [List.length_map,hsz]) fun i w u e1 e2=>?_
 obtain ⟨k,x,hx,hk⟩:=hacc.2 i u (by rw [← Array.getElem?_toList]; exact e2)
 have ek:=congrArg (fun l:List Key=>l[i]?) kv.keys
 simp only [List.getElem?_map] at ek
 rw [hx] at ek
 rw [List.getElem?_map] at e1
 cases ev:kvs[i]? with
 | none=>rw [ev] at e1; cases e1
 | some p =>
  rw [ev] at ek e1
  have ek':p.1=k:=Option.some.inj ek
  have e1':kV p.1=w:=Option.some.inj e1
  subst e1'
  subst ek'
  rcases keyIs_shape hk with ⟨j,t,e3,e4⟩ | ⟨y,t,e3,e4⟩
  ·rw [e3,e4]
   exact ⟨t,rfl⟩
  ·rw [e3,e4]
   exact ⟨t,rfl⟩
end L2
namespace Sh
open PySem L2 PyProof.Rows
seal L2.PE L2.PS L2.PSs L2.PT L2.PW L2.PA L2.PI L2.PG L2.PGs L2.PO L2.PC L2.PCs L2.OpR L2.UnR L2.CallR L2.MtR L2.IxR L2.SlR
abbrev ZdK:Stmt:=top 36
def cD (ks ps:List Str):List (Key × V):=ks.map fun x=>((Sum.inr x:Key),V.int (ps.count x))
structure Cnt (ks ps:List Str):Prop where
 nd:ks.Nodup
 mem:∀ x,x∈ks↔x∈ps
theorem Zi0 {ks ps:List Str} (h:Cnt ks ps) (y:Str):∃ ks',Cnt ks' (ps ++ [y])∧XC (cD ks ps) (Sum.inr y) (.int ((ps.count y:Int) + 1))=cD ks' (ps ++ [y])∧ks'.length≤ks.length + 1:=by
 have hc:∀ x,(ps ++ [y]).count x=ps.count x + if y=x then 1 else 0:=fun x=>by
  rw [List.count_append,List.count_singleton]
  simp [beq_iff_eq]
 by_cases m:y∈ks
 ·refine ⟨ks,⟨h.nd,fun x=>?_⟩,?_,Nat.le_succ _⟩
  ·rw [h.mem x,List.mem_append,List.mem_singleton]
   exact ⟨.inl,fun q=>q.elim id fun e=>by rw [e]; exact (h.mem y).mp m⟩
  ·unfold cD
   rw [X1 _ _ _ _ m]
   apply List.map_congr_left
   intro x _
   rw [hc x]
   by_cases e:x=y
   ·subst e
    simp
   ·have e':¬ y=x:=fun q=>e q.symm
    simp [e,e']
 ·have hn:y∉ps:=fun q=>m ((h.mem y).mpr q)
  refine ⟨ks ++ [y],⟨Zgy h.nd m,fun x=>?_⟩,?_,by rw [List.length_append]; exact Nat.le_refl _⟩
  ·rw [List.mem_append,List.mem_append,h.mem x]
  ·unfold cD
   rw [Jx _ (by rw [YO,if_neg m]),List.map_append]
   congr 1
   ·apply List.map_congr_left
    intro x hx
    rw [hc x]
    have e':¬ y=x:=fun q=>m (q ▸ hx)
    simp [e']
   ·rw [List.map_singleton,hc y]
    simp
theorem Y9 {α:Type} [DecidableEq α]:∀ {l B:List α},l.Nodup→(∀ x∈l,x∈B)→l.length≤B.length
 | [],B,_,_=>Nat.zero_le _
 | x :: l,B,nd,h=>by
  have h1:=List.nodup_cons.mp nd
  have h2:=Y9 (l:=l) (B:=B.erase x) h1.2 fun y hy=>by
   have ne:y≠x:=fun q=>h1.1 (q ▸ hy)
   exact (List.mem_erase_of_ne ne).mpr (h y (List.mem_cons_of_mem _ hy))
  have h3:=List.length_erase_of_mem (h x List.mem_cons_self)
  have h4:0 < B.length:=List.length_pos_of_mem (h x List.mem_cons_self)
  rw [List.length_cons]
  omega
theorem ZbN:∀ (r:List Str) (p:Str),risingS p r=true→∀ x∈r,¬ x.cps.toList < p.cps.toList
 | [],_,_,x,hx=>by cases hx
 | y :: r,p,h,x,hx=>by
  have h':(!Spec.ltCps y.cps.toList p.cps.toList && risingS y r)=true:=h
  rw [Bool.and_eq_true,ltCps_eq] at h'
  have h1:¬ y.cps.toList < p.cps.toList:=by
   have:=h'.1
   simpa using this
  rcases List.mem_cons.mp hx with e | e
  ·rw [e]
   exact h1
  ·have h2:=ZbN r y h'.2 x e
   intro q
   exact h1 (List.lt_of_le_of_lt (List.not_lt.mp h2) q)
theorem JJ:∀ (l:List Str),sortedS l=true→l.Nodup→(l.map fun x=>x.cps.toList).Pairwise (· < ·)
 | [],_,_=>List.Pairwise.nil
 | p :: r,h,nd=>by
  have h1:=ZbN r p h
  have nd':=List.nodup_cons.mp nd
  rw [List.map_cons,List.pairwise_cons]
  refine ⟨fun z hz=>?_,?_⟩
  ·obtain ⟨x,hx,rfl⟩:=List.mem_map.mp hz
   have h2:=h1 x hx
   by_cases q:p.cps.toList < x.cps.toList
   ·exact q
   ·have e:=List.le_antisymm (List.not_lt.mp h2) (List.not_lt.mp q)
    have:p=x:=ZZ e
    exact absurd (this ▸ hx) nd'.1
  ·refine JJ r ?_ nd'.2
   cases r with
   | nil=>rfl
   | cons y q =>
    have h':(!Spec.ltCps y.cps.toList p.cps.toList && risingS y q)=true:=h
    exact (Bool.and_eq_true_iff.mp h').2
structure ZS (ps:List Str) (hp:List Pr):Prop where
 srt:(hp.map fun p=>p.1.cps.toList).Pairwise (· < ·)
 mem:∀ x,x∈hp.map (·.1)↔x∈ps
 cnt:∀ p∈hp,p.2=ps.count p.1
section
variable {P:Program} {w:World} {K:PySem.W.Frag} {mg:Str→Option Value} {base:Heap}
def ZfF (K:PySem.W.Frag):Sp:=fun vs H Q _=>∃ (a:Addr) (ps B:List Str),vs=[.ref a]∧SqL K H a (ps.map V.str)∧ps.length≤1000∧B.length≤63∧(∀ x∈ps,x∈B)∧∀ v H' hp,Same H H'→HpAt H' v hp→ZS ps hp→Q v H'
theorem scHeap:Zo ["_law_pieces","_law_found","_law_piece"] ["_law_pieces"] (Zg ZdK):=⟨rfl,rfl,rfl,by decide +kernel,rfl,by decide +kernel,by decide +kernel⟩
theorem Zgs (D:HasDef K mg "_law_heap" ZdK ["_law_pieces"]) (B:Blt mg):FOk P w K mg base 1 "_law_heap" ["_law_pieces"] (ZfF K):=by
 refine D.ok scHeap (fun vs H Q E h=>?_) (fun f cdv A outer s H vs Q E hr h=>?_)
 ·obtain ⟨a,ps,Bd,rfl,_⟩:=h
  rfl
 ·obtain ⟨a,ps,Bd,rfl,ha,hl,hB,hsub,k⟩:=h
  have hu:=ZeT hr
  refine ⟨_,Zd (Zm (i:=1) scHeap.nd rfl (.inr rfl) Jz)
   (Zd (Z3 PassesOwn.never rfl (ZX (pv 0)) (Zz (i:=2) scHeap.nd rfl (.inl rfl))
    (Zh (JQ hu (pv 1) (pv 2) (Zn ZY (Za1 hu (pv 1) (pv 2) Zf ⟨rfl,rfl,rfl,rfl⟩) Zf) rfl)))
   (Zh (Zr (ZE ZJ rfl B.tuple Xr (Za (ZL (Zg ZdK) ["_law_pieces","_law_found","_law_piece"] ["_law_piece"] [1] rfl
    (ZX (Zk Zcq rfl B.sorted YG (Za (ZE (Ze1 rfl) rfl B.list Zcy (Za (pv 1) Ze)) Ze))) (fun _ _ _ _ _=>Yc 0) (fun _ _ _ _ _=>ZP)
    (fun _ _ _ _ _=>Zav (Za (pv 0) (Za (Zgi hu (pv 1) (pv 0) (fun _ _=>rfl)) Ze)))) Ze))))),?_⟩
  intro d hd
  have hs0:Same H (upd H d (.dK [])):=Zb hd
  refine ⟨_,rfl,a,rfl,⟨_,hs0.seq ha⟩,XM (K:=K) (a:=a) (xs:=ps.map V.str) (fun i σ H2=>(∃ z:Option V,σ=[some (.ref a),some (.ref d),z])∧Same H H2∧∃ ks,Cnt ks (ps.take i)∧ks.length≤i∧H2 d=some (.dK (cD ks (ps.take i))))
   ⟨⟨none,rfl⟩,hs0,[],⟨List.nodup_nil,fun x=>Iff.rfl⟩,Nat.le_refl _,Zc⟩ (fun i σ H2 _ ⟨_,s2,_⟩=>s2.seq ha) ?_ ?_⟩
  ·rintro i x σ H2 hi ⟨⟨z,rfl⟩,s2,ks,hk,hkl,hdd⟩
   have hi':i < ps.length:=by
    have:=(List.getElem?_eq_some_iff.mp hi).1
    rw [List.length_map] at this
    exact this
   rw [List.getElem?_map,List.getElem?_eq_getElem hi'] at hi
   have ex:x=V.str ps[i]:=(Option.some.inj hi).symm
   subst ex
   have hg:(XR (cD ks (ps.take i)) (Sum.inr ps[i]:Key)).getD (.int 0) = .int ((ps.take i).count ps[i]):=by
    unfold cD
    rw [YO]
    split
    ·rfl
    ·rename_i m
     have:ps[i]∉ps.take i:=fun q=>m ((hk.mem _).mpr q)
     rw [List.count_eq_zero_of_not_mem this]
     rfl
   obtain ⟨ks',hk',ep,hl'⟩:=Zi0 hk ps[i]
   rw [← List.take_succ_eq_append_getElem hi'] at hk' ep
   refine ⟨_,rfl,d,rfl,.inl ⟨_,.inl hdd⟩,_,rfl,_,DGet.k (k:=Sum.inr ps[i]) hdd,_,_,hg,rfl,_,rfl,_,rfl,d,_,rfl,DPut.k (k:=Sum.inr ps[i]) hdd ?_,?_⟩
   ·unfold cD
    rw [List.length_map]
    exact ZQ (by omega)
   ·refine ⟨⟨_,rfl⟩,fun b o e=>?_,ks',hk',by omega,?_⟩
    ·rw [Zi (Zj e hd)]
     exact s2 b o e
    ·rw [Zc]
     exact congrArg (fun l=>some (HO.dK l)) ep
  ·rintro σ H2 ⟨⟨z,rfl⟩,s2,ks,hk,hkl,hdd⟩
   rw [List.take_of_length_le (by rw [List.length_map]; exact Nat.le_refl _)] at hk hdd
   have hk63:ks.length≤63:=Nat.le_trans (Y9 hk.nd fun x hx=>hsub x ((hk.mem x).mp hx)) hB
   refine ⟨_,rfl,d,_,rfl,hdd,fun p1 hp1=>?_⟩
   have e1:(cD ks ps).map (fun kv=>kV kv.1)=ks.map V.str:=by
    unfold cD
    rw [List.map_map]
    rfl
   refine ⟨p1,ks,rfl,SqL.of (by rw [Zc,e1]),by omega,fun p2 ss hp2 hperm hsort=>?_⟩
   have hsA:Same H2 (upd (upd H2 p1 (.lst ((cD ks ps).map fun kv=>kV kv.1))) p2 (.lst (ss.map V.str))):=(Zb hp1).trans (Zb hp2)
   have hsl:ss.length=ks.length:=hperm.length_eq
   refine ⟨p2,rfl,⟨_,SqL.of Zc⟩,YL _ (fun i=>(ss.map V.str).getD i .non) (fun i v H=>∀ x,ss[i]?=some x→PairAt H v (x,(ps.count x:Int))) (by rw [List.length_map]; exact ZK (by omega)) (fun i v H H' ts r x e=>(r x e).same ts) (YE (SqL.of Zc)) ?_ ?_⟩
   ·intro i H3 Qe hi hs kq
    have hi':i < ss.length:=by rw [List.length_map] at hi; exact hi
    have hd3:H3 d=some (.dK (cD ks ps)):=hs _ _ (hsA _ _ hdd)
    have hmem:ss[i]∈ks:=hperm.mem_iff.mp (List.getElem_mem hi')
    rw [ZhL hi']
    have hg:DGet H3 d (.str ss[i]) (some (.int (ps.count ss[i]))):=by
     have:=DGet.k (k:=Sum.inr ss[i]) hd3
     unfold cD at this
     rw [YO,if_pos hmem] at this
     exact this
    refine ⟨_,rfl,_,rfl,_,rfl,d,_,rfl,hg,(show 2≤sizeLine by rw [sizeLine_eq]; decide),fun t ht=>kq _ _ (Zb ht) ?_⟩
    intro x e
    rw [List.getElem?_eq_getElem hi'] at e
    cases e
    exact ⟨t,rfl,Zc⟩
   ·intro D1 vs1 H3 hlv1 hr1 hs3 hD1 hDl1
    rw [List.length_map] at hlv1
    refine ⟨D1,vs1,rfl,.inl ⟨SqL.of hDl1,fun l hl0=>?_⟩⟩
    refine k (.ref l) _ (ss.map fun x=>(x,(ps.count x:Int))) (((s2.trans hsA).trans hs3).trans (Zb hl0)) ?_ ⟨?_,?_,?_⟩
    ·refine ⟨l,vs1,rfl,Zc,by rw [List.length_map]; exact hlv1,fun i p e=>?_⟩
     rw [List.getElem?_map] at e
     cases ex:ss[i]? with
     | none=>rw [ex] at e; cases e
     | some x =>
      rw [ex] at e
      cases e
      have hi:i < vs1.length:=by
       have:=(List.getElem?_eq_some_iff.mp ex).1
       omega
      rw [List.getD_eq_getElem?_getD,List.getElem?_eq_getElem hi]
      exact (hr1 i _ (List.getElem?_eq_getElem hi) x ex).same (Zb hl0).tup
    ·rw [List.map_map]
     exact JJ ss hsort (hperm.nodup_iff.mpr hk.nd)
    ·intro x
     rw [List.map_map]
     have:ss.map ((·.1) ∘ fun x=>(x,(ps.count x:Int)))=ss:=by
      conv=>rhs; rw [← List.map_id ss]
      exact List.map_congr_left fun _ _=>rfl
     rw [this,hperm.mem_iff,hk.mem]
    ·intro p hp
     obtain ⟨x,_,rfl⟩:=List.mem_map.mp hp
     rfl
theorem Z9 {z:List Nat} (h:z.length≤1000):(tx z).length≤sizeLine:=by rw [ZH]; exact ZK (by omega)
end
section
variable {P:Program} {w:World} {K:PySem.W.Frag} {mg:Str→Option Value} {base:Heap} {S C A1 A2 A3 A4 A5 A6 A7 A8:Addr}
def Cd (z:List Nat):Prop:=∀ c∈z,c < 1000
end
theorem Yq {x:Str} (h:1≤x.length):Txt.slice x none (some (-1))=bg x:=by
 apply ZZ
 rw [eq_of_beq (slice_closes_to_neg (x:=x) (j:=-1) (k:=-1 + x.length) (by decide) (by omega) rfl)]
 unfold bg
 rw [ZO,List.dropLast_eq_take,Zb7]
 simp
 congr 1
 omega
theorem Xv {x:Str} (h:1≤x.length):Txt.slice x (some 1) none=en x:=by
 apply ZZ
 rw [YJ (by decide) (by omega)]
 unfold en
 rw [ZO]
 rfl
def PA (H:Hp) (vs:List V) (es:Es):Prop:=vs.length=es.length∧∀ (i:Nat) (e:Str × Int),es[i]?=some e→∃ b,vs[i]?=some (.ref b)∧H b=some (.tup [.str e.1,.int e.2])
theorem PA.same {H H':Hp} {vs:List V} {es:Es} (h:PA H vs es) (s:TSame H H'):PA H' vs es:=⟨h.1,fun i e q=>by
 obtain ⟨b,e1,e2⟩:=h.2 i e q
 exact ⟨b,e1,s _ _ e2⟩⟩
def HeapV (H:Hp) (v:V) (es:Es):Prop:=∃ q vs,v = .ref q∧H q=some (.tup vs)∧PA H vs es
theorem HeapV.same {H H':Hp} {v:V} {es:Es} (h:HeapV H v es) (s:Same H H'):HeapV H' v es:=by
 obtain ⟨q,vs,e,e1,e2⟩:=h
 exact ⟨q,vs,e,s _ _ e1,e2.same s.tup⟩
structure X9 (es:Es):Prop where
 few:es.length≤64
 many:∀ e∈es,0≤e.2∧e.2≤1000
 long:∀ e∈es,1≤e.1.length∧e.1.length≤1000
structure Pts (es:Es) (ks:List Str):Prop where
 nd:ks.Nodup
 mem:∀ P,P∈ks↔∃ e∈es,bg e.1=P∨en e.1=P
 len:ks.length≤2 * es.length
theorem Pts.nil:Pts [] []:=⟨List.nodup_nil,fun P=>by simp,Nat.le_refl _⟩
def XS (ks:List Str) (x:Str):List Str:=if x∈ks then ks else ks ++ [x]
theorem ZhC {ks:List Str} {x:Str} (h:ks.Nodup):(XS ks x).Nodup:=by
 unfold XS
 split
 ·exact h
 ·rename_i c
  exact List.nodup_append.mpr ⟨h,by simp,fun a ha b hb e=>by rw [List.mem_singleton.mp hb] at e; subst e; exact c ha⟩
theorem Zbz {ks:List Str} {x y:Str}:y∈XS ks x↔y∈ks∨y=x:=by
 unfold XS
 split
 ·rename_i c
  exact ⟨.inl,fun h=>h.elim id fun e=>e ▸ c⟩
 ·simp
theorem JD (ks:List Str) (x:Str):(XS ks x).length≤ks.length + 1:=by
 unfold XS
 split <;> simp
theorem Pts.step {es:Es} {ks:List Str} (h:Pts es ks) (e:Str × Int):Pts (es ++ [e]) (XS (XS ks (bg e.1)) (en e.1)) where
 nd:=ZhC (ZhC h.nd)
 mem:=fun P=>by
  rw [Zbz,Zbz,h.mem]
  constructor
  ·rintro ((⟨x,hx,q⟩ | q) | q)
   ·exact ⟨x,List.mem_append_left _ hx,q⟩
   ·exact ⟨e,by simp,.inl q.symm⟩
   ·exact ⟨e,by simp,.inr q.symm⟩
  ·rintro ⟨x,hx,q⟩
   rcases List.mem_append.mp hx with z | z
   ·exact .inl (.inl ⟨x,z,q⟩)
   ·rw [List.mem_singleton.mp z] at q
    rcases q with q | q
    ·exact .inl (.inr q.symm)
    ·exact .inr q.symm
 len:=by
  have h1:=JD (XS ks (bg e.1)) (en e.1)
  have h2:=JD ks (bg e.1)
  have:=h.len
  rw [List.length_append,List.length_singleton]
  omega
theorem Pts.zero {es:Es} {ks:List Str} (h:Pts es ks) {P:Str} (hP:P∉ks):mo es P=0:=Zc7 fun e he=>⟨fun q=>hP ((h.mem P).mpr ⟨e,he,.inl q⟩),fun q=>hP ((h.mem P).mpr ⟨e,he,.inr q⟩)⟩
theorem ZjP {ks:List Str} {g:Str→Int} {y:Str} (h0:y∉ks→g y=0):(XR (gD ks g) (Sum.inr y:Key)).getD (.int 0) = .int (g y):=by
 rw [Zg9]
 split
 ·rfl
 ·rename_i c
  rw [h0 c]
  rfl
theorem Zlb {ss:List Str} {p:Str→Bool}:ss.filter p=((List.range ss.length).filter fun i=>p (ss.getD i "")).map fun i=>ss.getD i "":=by
 have e:ss=(List.range ss.length).map fun i=>ss.getD i "":=by
  apply List.ext_getElem?
  intro i
  rw [List.getElem?_map]
  by_cases hi:i < ss.length
  ·rw [List.getElem?_range hi,Option.map_some,List.getD_eq_getElem?_getD,List.getElem?_eq_getElem hi]
   rfl
  ·rw [List.getElem?_eq_none (by omega),List.getElem?_eq_none (by simp; omega)]
   rfl
 conv=>lhs; rw [e]
 rw [List.filter_map]
 rfl
def Zkn (x:Str) (n:Int) (v:V) (H:Hp):Prop:=∃ b,v = .ref b∧H b=some (.tup [.str x,.int n])
theorem ZlS {H:Hp} {vs:List V} {ss:List Str} {p:Str→Bool} {f:Str→Int} (hl:vs.length=((List.range ss.length).filter fun i=>p (ss.getD i "")).length)
  (hR:∀ (j i:Nat) (v:V),((List.range ss.length).filter fun i=>p (ss.getD i ""))[j]?=some i→vs[j]?=some v→Zkn (ss.getD i "") (f (ss.getD i "")) v H):PA H vs ((ss.filter p).map fun x=>(x,f x)):=by
 rw [Zlb]
 refine ⟨by rw [List.length_map,List.length_map,hl],fun j e he=>?_⟩
 rw [List.getElem?_map,List.getElem?_map] at he
 cases hj:((List.range ss.length).filter fun i=>p (ss.getD i ""))[j]? with
 | none=>rw [hj] at he; cases he
 | some i =>
  rw [hj] at he
  cases he
  have hjv:j < vs.length:=by rw [hl]; exact (List.getElem?_eq_some_iff.mp hj).1
  obtain ⟨b,e1,e2⟩:=hR j i vs[j] hj (List.getElem?_eq_getElem hjv)
  exact ⟨b,by rw [List.getElem?_eq_getElem hjv,e1],e2⟩
structure SPts (es:Es) (ss:List Str):Prop where
 srt:(ss.map fun x=>x.cps.toList).Pairwise (· < ·)
 pts:Pts es ss
theorem SPts.of {es:Es} {ks ss:List Str} (h:Pts es ks) (p:ss.Perm ks) (s:(ss.map fun x=>x.cps.toList).Pairwise (· < ·)):SPts es ss :=
 ⟨s,p.nodup_iff.mpr h.nd,fun P=>by rw [p.mem_iff,h.mem],by rw [p.length_eq]; exact h.len⟩
section
variable {P:Program} {w:World} {K:PySem.W.Frag} {mg:Str→Option Value} {base:Heap}
theorem ZN {x:Str} (h:x.length≤1000):x.length≤sizeLine:=ZK (by omega)
abbrev ZaW:Stmt:=top 1
abbrev Zin:List Str:=["piece"]
theorem ZfW:Zo Zin ["piece"] (Zg ZaW):=⟨rfl,rfl,rfl,by decide +kernel,rfl,by decide +kernel,by decide +kernel⟩
def ZcK:Sp:=fun vs H Q _=>∃ x:Str,vs=[.str x]∧1≤x.length∧x.length≤1000∧Q (.str (bg x)) H
theorem Zc4 (D:HasDef K mg "begin_of" ZaW ["piece"]):FOk P w K mg base 1 "begin_of" ["piece"] ZcK:=by
 refine D.ok ZfW (fun vs H Q E h=>?_) (fun f cdv A outer s H vs Q E hr h=>?_)
 ·obtain ⟨x,rfl,_⟩:=h
  rfl
 ·obtain ⟨x,rfl,h1,h2,k⟩:=h
  refine ⟨_,(Zh (Zr (Zv Z2 (pv 0) ZB (Zx (Jh YH Zf))))),?_⟩
  refine ⟨_,rfl,_,rfl,_,rfl,_,rfl,ZN h2,?_⟩
  rw [← Yq h1] at k
  exact k
abbrev Zf0:Stmt:=top 2
abbrev Zl8:List Str:=["piece"]
theorem Zkl:Zo Zl8 ["piece"] (Zg Zf0):=⟨rfl,rfl,rfl,by decide +kernel,rfl,by decide +kernel,by decide +kernel⟩
def ZfI:Sp:=fun vs H Q _=>∃ x:Str,vs=[.str x]∧1≤x.length∧x.length≤1000∧Q (.str (en x)) H
theorem Zgv (D:HasDef K mg "end_of" Zf0 ["piece"]):FOk P w K mg base 1 "end_of" ["piece"] ZfI:=by
 refine D.ok Zkl (fun vs H Q E h=>?_) (fun f cdv A outer s H vs Q E hr h=>?_)
 ·obtain ⟨x,rfl,_⟩:=h
  rfl
 ·obtain ⟨x,rfl,h1,h2,k⟩:=h
  refine ⟨_,(Zh (Zr (Zv Z2 (pv 0) (Zx Zf) ZB))),?_⟩
  refine ⟨_,rfl,_,rfl,_,rfl,ZN h2,?_⟩
  rw [← Xv h1] at k
  exact k
end
theorem Zfx {l m:List Str} (hl:(l.map fun x=>x.cps.toList).Pairwise (· < ·)) (hm:(m.map fun x=>x.cps.toList).Pairwise (· < ·)) (h:∀ x,x∈l↔x∈m):l=m:=by
 have e:=Zap hl hm fun c=>by
  rw [List.mem_map,List.mem_map]
  exact ⟨fun ⟨x,hx,q⟩=>⟨x,(h x).mp hx,q⟩,fun ⟨x,hx,q⟩=>⟨x,(h x).mpr hx,q⟩⟩
 have key:∀ (l m:List Str),(l.map fun x=>x.cps.toList)=(m.map fun x=>x.cps.toList)→l=m:=by
  intro l
  induction l with
  | nil =>
   intro m e
   cases m with
   | nil=>rfl
   | cons _ _=>cases e
  | cons x l ih =>
   intro m e
   cases m with
   | nil=>cases e
   | cons y m =>
    rw [List.map_cons,List.map_cons] at e
    injection e with e1 e2
    rw [ZZ e1,ih m e2]
 exact key l m e
theorem SPts.one {es:Es} {l m:List Str} (h:SPts es l) (k:SPts es m):l=m:=Zfx h.srt k.srt fun x=>by rw [h.pts.mem,k.pts.mem]
section
variable {P:Program} {w:World} {K:PySem.W.Frag} {mg:Str→Option Value} {base:Heap}
abbrev ZaS:Stmt:=top 5
abbrev Zij:List Str:=["H","more","piece","many"]
theorem scMoreOut:Zo Zij ["H"] (Zg ZaS):=⟨rfl,rfl,rfl,by decide +kernel,rfl,by decide +kernel,by decide +kernel⟩
def JI:Sp:=fun vs H Q _=>∃ (v:V) (es:Es),vs=[v]∧HeapV H v es∧X9 es∧∀ d H' ks,Same H H'→H' d=some (.dK (gD ks (mo es)))→Pts es ks→Q (.ref d) H'
theorem Zc0 (D:HasDef K mg "more_out" ZaS ["H"]) (g11_:FOk P w K mg base 1 "begin_of" ["piece"] ZcK) (g15_:FOk P w K mg base 1 "end_of" ["piece"] ZfI):FOk P w K mg base 2 "more_out" ["H"] JI:=by
 refine D.ok scMoreOut (fun vs H Q E h=>?_) (fun f cdv A outer s H vs Q E hr h=>?_)
 ·obtain ⟨v,es,rfl,_⟩:=h
  rfl
 ·obtain ⟨v,es,rfl,⟨q,vs,rfl,hq,hpa⟩,hF,k⟩:=h
  have hu:=ZeT hr
  refine ⟨_,(Zd (Zm (i:=1) scMoreOut.nd rfl (.inl rfl) Jz)
   (Zd (Z3 PassesOwn.never rfl (YK (pv 0)) (Yb 2 K rfl (Zw (Zz (i:=2) scMoreOut.nd rfl (.inl rfl)) (Zw (Zz (i:=3) scMoreOut.nd rfl (.inl rfl)) Ya)))
    (Zd (JQ hu (pv 1) (Zu g11_ hr (Za (pv 2) Ze)) (Zn ZY (Za1 hu (pv 1) (Zu g11_ hr (Za (pv 2) Ze)) Zf ⟨rfl,rfl,rfl,rfl⟩) (pv 3)) rfl)
   (Zh (JQ hu (pv 1) (Zu g15_ hr (Za (pv 2) Ze)) (Zn Jc (Za1 hu (pv 1) (Zu g15_ hr (Za (pv 2) Ze)) Zf ⟨rfl,rfl,rfl,rfl⟩) (pv 3)) rfl))))
   (Zh (Zr (pv 1))))),?_⟩
  intro d hd
  have s1:=Zb (o:=.dK []) hd
  refine ⟨_,rfl,q,rfl,⟨_,SqT.of (s1 _ _ hq)⟩,?_⟩
  refine X8 (K:=K) (a:=q) (xs:=vs) (fun i σ H2=>(∃ z2 z3:Option V,σ=[some (.ref q),some (.ref d),z2,z3])∧Same H H2∧∃ ks,Pts (es.take i) ks∧H2 d=some (.dK (gD ks (mo (es.take i)))))
   ⟨⟨none,none,rfl⟩,s1,[],Pts.nil,Zc⟩ (fun i σ H2 _ ⟨_,s2,_⟩=>SqT.of (s2 _ _ hq)) ?_ ?_
  ·rintro i x σ H2 hi ⟨⟨z2,z3,rfl⟩,s2,ks,hk,hdd⟩
   have hiv:i < vs.length:=(List.getElem?_eq_some_iff.mp hi).1
   have hie:i < es.length:=by rw [← hpa.1]; exact hiv
   obtain ⟨b,e1,e2⟩:=hpa.2 i es[i] (List.getElem?_eq_getElem hie)
   rw [hi] at e1
   cases e1
   obtain ⟨l1,l2⟩:=hF.long es[i] (List.getElem_mem hie)
   have hkl:=hk.len
   have hfew:=hF.few
   rw [List.length_take] at hkl
   refine ⟨b,_,rfl,SqT.of (s2 _ _ e2),rfl,_,_,rfl,_,_,rfl,rfl,?_⟩
   have het:es.take (i + 1)=es.take i ++ [es[i]]:=List.take_succ_eq_append_getElem hie
   generalize es[i]=e at *
   have h0:=fun (hP:bg e.1∉ks)=>hk.zero hP
   have hg:=ZjP (ks:=ks) (g:=mo (es.take i)) h0
   refine ⟨_,rfl,d,rfl,.inl ⟨_,.inl hdd⟩,_,rfl,e.1,rfl,l1,l2,_,DGet.k (k:=Sum.inr (bg e.1)) hdd,_,rfl,_,_,hg,rfl,_,rfl,_,rfl,e.1,rfl,l1,l2,d,_,rfl,DPut.k (k:=Sum.inr (bg e.1)) hdd (by rw [Zcd]; exact ZQ (by omega)),?_⟩
   rw [Zha]
   have hdd2:(upd H2 d (.dK (gD (XS ks (bg e.1)) fun x=>if x=bg e.1 then mo (es.take i) (bg e.1) + e.2 else mo (es.take i) x))) d=some (.dK (gD (XS ks (bg e.1)) fun x=>if x=bg e.1 then mo (es.take i) (bg e.1) + e.2 else mo (es.take i) x)):=Zc
   have hg2:=ZjP (ks:=XS ks (bg e.1)) (g:=fun x=>if x=bg e.1 then mo (es.take i) (bg e.1) + e.2 else mo (es.take i) x) (y:=en e.1) fun hP=>by
    rw [Zbz,not_or] at hP
    rw [if_neg hP.2,hk.zero hP.1]
   have hal:=JD ks (bg e.1)
   refine ⟨_,rfl,d,rfl,.inl ⟨_,.inl hdd2⟩,_,rfl,e.1,rfl,l1,l2,_,DGet.k (k:=Sum.inr (en e.1)) hdd2,_,rfl,_,_,hg2,rfl,_,rfl,_,rfl,e.1,rfl,l1,l2,d,_,rfl,DPut.k (k:=Sum.inr (en e.1)) hdd2 (by rw [Zcd]; exact ZQ (by omega)),?_⟩
   refine ⟨⟨_,_,rfl⟩,fun c u hc=>?_,XS (XS ks (bg e.1)) (en e.1),by rw [het]; exact hk.step e,?_⟩
   ·rw [ZaI,Zi (Zj hc hd)]
    exact s2 c u hc
   ·rw [Zc,Zha,het]
    refine congrArg (fun l=>some (HO.dK l)) (Zel fun x _=>?_)
    rw [ZkL]
    unfold mo1 ind
    by_cases c1:x=en e.1
    ·subst c1
     rw [if_pos rfl,if_pos rfl]
     by_cases c2:en e.1=bg e.1
     ·rw [if_pos c2,if_pos c2.symm,c2]
      omega
     ·rw [if_neg c2,if_neg (Ne.symm c2)]
      omega
    ·rw [if_neg c1,if_neg (Ne.symm c1)]
     by_cases c2:x=bg e.1
     ·subst c2
      rw [if_pos rfl,if_pos rfl]
      omega
     ·rw [if_neg c2,if_neg (Ne.symm c2)]
      omega
  ·rintro σ H2 ⟨⟨z2,z3,rfl⟩,s2,ks,hk,hdd⟩
   rw [hpa.1,List.take_length] at hk hdd
   exact ⟨_,rfl,k d H2 ks s2 hdd hk⟩
abbrev XB:Stmt:=top 6
abbrev Zb4:List Str:=["H"]
theorem ZeF:Zo Zb4 ["H"] (Zg XB):=⟨rfl,rfl,rfl,by decide +kernel,rfl,by decide +kernel,by decide +kernel⟩
def ZaM:Sp:=fun vs H Q _=>∃ (v:V) (es:Es),vs=[v]∧HeapV H v es∧X9 es∧∀ v' H' ss,Same H H'→HeapV H' v' (ups (mo es) ss)→SPts es ss→Q v' H'
theorem Zb1 (D:HasDef K mg "begins_of" XB ["H"]) (B:Blt mg) (g22_:FOk P w K mg base 2 "more_out" ["H"] JI):FOk P w K mg base 3 "begins_of" ["H"] ZaM:=by
 refine D.ok ZeF (fun vs H Q E h=>?_) (fun f cdv A outer s H vs Q E hr h=>?_)
 ·obtain ⟨v,es,rfl,_⟩:=h
  rfl
 ·obtain ⟨v,es,rfl,hV,hF,k⟩:=h
  refine ⟨_,(Zh (Zr (ZE ZJ rfl B.tuple Xr (Za (ZL (Zg XB) Zb4 ["point","more"] [] rfl (ZX (Zk (XO rfl) rfl B.sorted YG (Za (ZdX (Zu g22_ hr (Za (pv 0) Ze))) Ze))) (fun _ _ _ _ _=>Yb 2 K rfl (Zw (Yc 0) (Zw (Yc 1) Ya))) (fun _ _ _ _ _=>ZcV (Zt ZcX (pv 1) Zf (Zy _))) (fun _ _ _ _ _=>(Zav (Za (pv 0) (Za (pv 1) Ze))))) Ze)))),?_⟩
  refine ⟨_,rfl,v,es,rfl,hV,hF,fun d H1 ks s1 hd hP=>⟨d,_,rfl,hd,fun p hp=>?_⟩⟩
  have hkl:=hP.len
  have hfew:=hF.few
  refine ⟨p,d,ks,fun x=>.int (mo es x),rfl,Zc,Zb hp _ _ hd,hP.nd,by omega,fun D1 H2 vs ss s2 hpm hsrt hD1 hl hv=>?_⟩
  have hss:=hpm.length_eq
  refine ⟨D1,rfl,⟨_,SqL.of hD1⟩,Zdc ss.length (fun i=>vs.getD i .non) (fun i=>decide (0 < (mo es) (ss.getD i ""))) (fun i v H=>Zkn (ss.getD i "") ((mo es) (ss.getD i "")) v H) (Zl (by omega)) (fun i v H H' hs ⟨b,e1,e2⟩=>⟨b,e1,hs _ _ e2⟩) (by have:=YE (K:=K) (SqL.of hD1); rw [hl] at this; exact this) ?_ ?_⟩
  ·intro i H3 Qt Qf hi hs ht hf
   obtain ⟨b,e1,e2⟩:=hv i ss[i] (List.getElem?_eq_getElem hi)
   have ev:vs.getD i .non = .ref b:=by rw [List.getD_eq_getElem?_getD,e1]; rfl
   have es1:ss.getD i "" = ss[i]:=by rw [List.getD_eq_getElem?_getD,List.getElem?_eq_getElem hi]; rfl
   rw [es1] at ht hf
   rw [ev]
   refine ⟨b,_,rfl,SqT.of (hs _ _ e2),rfl,_,_,rfl,_,_,rfl,rfl,?_⟩
   refine ⟨_,rfl,_,_,rfl,rfl,_,rfl,?_⟩
   by_cases c:0 < (mo es) ss[i]
   ·refine ZaC (decide_eq_true (by omega)) (⟨_,rfl,_,rfl,Zl (show 2≤1000 by decide),fun r hr=>ht (decide_eq_true c) _ _ (Zb hr) ⟨r,rfl,Zc⟩⟩)
   ·exact Jg (decide_eq_false (by omega)) (hf (decide_eq_false c) _ (Same.refl _))
  ·intro D2 vs2 H3 hl2 hR hs3 hD2 hDl
   refine ⟨D2,vs2,rfl,.inl ⟨SqL.of hDl,fun q hq=>?_⟩⟩
   have sq:=Zb (o:=.tup vs2) hq
   refine k (.ref q) _ ss (((s1.trans (Zb hp)).trans s2).trans (hs3.trans sq)) ⟨q,vs2,rfl,Zc,?_⟩ (SPts.of hP hpm hsrt)
   exact (ZlS (p:=fun x=>decide (0 < (mo es) x)) (f:=fun x=>(mo es) x) hl2 hR).same sq.tup
abbrev ZaV:Stmt:=top 7
abbrev ZgE:List Str:=["H"]
theorem ZhX:Zo ZgE ["H"] (Zg ZaV):=⟨rfl,rfl,rfl,by decide +kernel,rfl,by decide +kernel,by decide +kernel⟩
def Zjn:Sp:=fun vs H Q _=>∃ (v:V) (es:Es),vs=[v]∧HeapV H v es∧X9 es∧∀ v' H' ss,Same H H'→HeapV H' v' (ups (fun y=>-mo es y) ss)→SPts es ss→Q v' H'
theorem ZeN (D:HasDef K mg "ends_of" ZaV ["H"]) (B:Blt mg) (g22_:FOk P w K mg base 2 "more_out" ["H"] JI):FOk P w K mg base 3 "ends_of" ["H"] Zjn:=by
 refine D.ok ZhX (fun vs H Q E h=>?_) (fun f cdv A outer s H vs Q E hr h=>?_)
 ·obtain ⟨v,es,rfl,_⟩:=h
  rfl
 ·obtain ⟨v,es,rfl,hV,hF,k⟩:=h
  refine ⟨_,(Zh (Zr (ZE ZJ rfl B.tuple Xr (Za (ZL (Zg ZaV) ZgE ["point","more"] [] rfl (ZX (Zk (XO rfl) rfl B.sorted YG (Za (ZdX (Zu g22_ hr (Za (pv 0) Ze))) Ze))) (fun _ _ _ _ _=>Yb 2 K rfl (Zw (Yc 0) (Zw (Yc 1) Ya))) (fun _ _ _ _ _=>ZcV (Zt ZlX (pv 1) Zf (Zy _))) (fun _ _ _ _ _=>(Zav (Za (pv 0) (Za (Jh YH (pv 1)) Ze))))) Ze)))),?_⟩
  refine ⟨_,rfl,v,es,rfl,hV,hF,fun d H1 ks s1 hd hP=>⟨d,_,rfl,hd,fun p hp=>?_⟩⟩
  have hkl:=hP.len
  have hfew:=hF.few
  refine ⟨p,d,ks,fun x=>.int (mo es x),rfl,Zc,Zb hp _ _ hd,hP.nd,by omega,fun D1 H2 vs ss s2 hpm hsrt hD1 hl hv=>?_⟩
  have hss:=hpm.length_eq
  refine ⟨D1,rfl,⟨_,SqL.of hD1⟩,Zdc ss.length (fun i=>vs.getD i .non) (fun i=>decide (0 < (fun y=>-mo es y) (ss.getD i ""))) (fun i v H=>Zkn (ss.getD i "") ((fun y=>-mo es y) (ss.getD i "")) v H) (Zl (by omega)) (fun i v H H' hs ⟨b,e1,e2⟩=>⟨b,e1,hs _ _ e2⟩) (by have:=YE (K:=K) (SqL.of hD1); rw [hl] at this; exact this) ?_ ?_⟩
  ·intro i H3 Qt Qf hi hs ht hf
   obtain ⟨b,e1,e2⟩:=hv i ss[i] (List.getElem?_eq_getElem hi)
   have ev:vs.getD i .non = .ref b:=by rw [List.getD_eq_getElem?_getD,e1]; rfl
   have es1:ss.getD i "" = ss[i]:=by rw [List.getD_eq_getElem?_getD,List.getElem?_eq_getElem hi]; rfl
   rw [es1] at ht hf
   rw [ev]
   refine ⟨b,_,rfl,SqT.of (hs _ _ e2),rfl,_,_,rfl,_,_,rfl,rfl,?_⟩
   refine ⟨_,rfl,_,_,rfl,rfl,_,rfl,?_⟩
   by_cases c:0 < (fun y=>-mo es y) ss[i]
   ·refine ZaC (decide_eq_true (by have c:=c; dsimp only at c; omega)) (⟨_,rfl,_,rfl,_,rfl,Zl (show 2≤1000 by decide),fun r hr=>ht (decide_eq_true c) _ _ (Zb hr) ⟨r,rfl,Zc⟩⟩)
   ·exact Jg (decide_eq_false (by have c:=c; dsimp only at c; omega)) (hf (decide_eq_false c) _ (Same.refl _))
  ·intro D2 vs2 H3 hl2 hR hs3 hD2 hDl
   refine ⟨D2,vs2,rfl,.inl ⟨SqL.of hDl,fun q hq=>?_⟩⟩
   have sq:=Zb (o:=.tup vs2) hq
   refine k (.ref q) _ ss (((s1.trans (Zb hp)).trans s2).trans (hs3.trans sq)) ⟨q,vs2,rfl,Zc,?_⟩ (SPts.of hP hpm hsrt)
   exact (ZlS (p:=fun x=>decide (0 < (fun y=>-mo es y) x)) (f:=fun x=>(fun y=>-mo es y) x) hl2 hR).same sq.tup
end
end Sh
namespace L2
open PySem PySem.Spec PyProof.Rows
theorem Zi4:bootBuiltins "set" = some (.type "set"):=by decide +kernel
end L2
namespace Sh
open PySem L2 PyProof.Rows
seal L2.PE L2.PS L2.PSs L2.PT L2.PW L2.PA L2.PI L2.PG L2.PGs L2.PO L2.PC L2.PCs L2.OpR L2.UnR L2.CallR L2.MtR L2.IxR L2.SlR
theorem ZaK {vs:List V} {es:Es} {f:Str→Str} (hl:vs.length=es.length) (hR:∀ (i:Nat) (v:V),vs[i]?=some v→v = .str (f (es.getD i ("",0)).1)):vs=(es.map fun e=>f e.1).map V.str:=by
 apply List.ext_getElem?
 intro i
 by_cases hi:i < vs.length
 ·have hie:i < es.length:=by omega
  rw [List.getElem?_eq_getElem hi,hR i _ (List.getElem?_eq_getElem hi),List.getElem?_map,List.getElem?_map,List.getElem?_eq_getElem hie,List.getD_eq_getElem?_getD,List.getElem?_eq_getElem hie]
  rfl
 ·rw [List.getElem?_eq_none (by omega),List.getElem?_eq_none (by rw [List.length_map,List.length_map]; omega)]
section
variable {P:Program} {w:World} {K:PySem.W.Frag} {mg:Str→Option Value} {base:Heap}
def TupS (H:Hp) (v:V) (ss:List Str):Prop:=∃ q,v = .ref q∧H q=some (.tup (ss.map V.str))
theorem TupS.same {H H':Hp} {v:V} {ss:List Str} (h:TupS H v ss) (s:Same H H'):TupS H' v ss:=by
 obtain ⟨q,e,e2⟩:=h
 exact ⟨q,e,s _ _ e2⟩
abbrev YS:Stmt:=top 3
abbrev JW:List Str:=["H"]
theorem ZeD:Zo JW ["H"] (Zg YS):=⟨rfl,rfl,rfl,by decide +kernel,rfl,by decide +kernel,by decide +kernel⟩
def Xu:Sp:=fun vs H Q _=>∃ (v:V) (es:Es),vs=[v]∧HeapV H v es∧X9 es∧∀ v' H' ss,Same H H'→TupS H' v' ss→SPts es ss→Q v' H'
theorem ZbU (D:HasDef K mg "points_of" YS ["H"]) (B:Blt mg) (g11_:FOk P w K mg base 1 "begin_of" ["piece"] ZcK) (g15_:FOk P w K mg base 1 "end_of" ["piece"] ZfI):FOk P w K mg base 2 "points_of" ["H"] Xu:=by
 refine D.ok ZeD (fun vs H Q E h=>?_) (fun f cdv A outer s H vs Q E hr h=>?_)
 ·obtain ⟨v,es,rfl,_⟩:=h
  rfl
 ·obtain ⟨v,es,rfl,⟨q,vs,rfl,hq,hpa⟩,hF,k⟩:=h
  refine ⟨_,(Zh (Zr (ZE ZJ rfl B.tuple Xr (Za (Zk (Yu rfl) rfl B.sorted YG (Za (ZE (XQ rfl) rfl B.set Zi4 (Za (Zn ZbT (ZL (Zg YS) JW ["piece","many"] [] rfl (YK (pv 0)) (fun _ _ _ _ _=>Yb 2 K rfl (Zw (Yc 0) (Zw (Yc 1) Ya))) (fun _ _ _ _ _=>ZP) (fun _ _ _ _ _=>(Zu g11_ hr (Za (pv 0) Ze))))
   (ZL (Zg YS) JW ["piece","many"] [] rfl (YK (pv 0)) (fun _ _ _ _ _=>Yb 2 K rfl (Zw (Yc 0) (Zw (Yc 1) Ya))) (fun _ _ _ _ _=>ZP) (fun _ _ _ _ _=>(Zu g15_ hr (Za (pv 0) Ze))))) Ze)) Ze)) Ze)))),?_⟩
  have hfew:=hF.few
  have hvl:=hpa.1
  refine ⟨_,rfl,q,rfl,⟨_,SqT.of hq⟩,YL vs.length (fun i=>vs.getD i .non) (fun i v _=>v = .str (bg (es.getD i ("",0)).1)) (Zl (by omega)) (fun _ _ _ _ _ r=>r) (ZaA (SqT.of hq)) ?_ ?_⟩
  ·intro i H3 Qe hi hs kq
   have hie:i < es.length:=by omega
   obtain ⟨b,e1,e2⟩:=hpa.2 i es[i] (List.getElem?_eq_getElem hie)
   have ev:vs.getD i .non = .ref b:=by rw [List.getD_eq_getElem?_getD,e1]; rfl
   have ee:es.getD i ("",0)=es[i]:=by rw [List.getD_eq_getElem?_getD,List.getElem?_eq_getElem hie]; rfl
   obtain ⟨l1,l2⟩:=hF.long es[i] (List.getElem_mem hie)
   rw [ev]
   refine ⟨b,_,rfl,SqT.of (hs _ _ e2),rfl,_,_,rfl,_,_,rfl,rfl,_,rfl,es[i].1,rfl,l1,l2,kq _ _ (Same.refl _) ?_⟩
   rw [ee]
  intro D1 vs1 H3 hl1 hr1 hs3 hD1 hDl1
  rw [ZaK (f:=bg) (by omega) hr1] at hDl1
  refine ⟨_,rfl,q,rfl,⟨_,SqT.of (hs3 _ _ hq)⟩,YL vs.length (fun i=>vs.getD i .non) (fun i v _=>v = .str (en (es.getD i ("",0)).1)) (Zl (by omega)) (fun _ _ _ _ _ r=>r) (ZaA (SqT.of (hs3 _ _ hq))) ?_ ?_⟩
  ·intro i H4 Qe hi hs kq
   have hie:i < es.length:=by omega
   obtain ⟨b,e1,e2⟩:=hpa.2 i es[i] (List.getElem?_eq_getElem hie)
   have ev:vs.getD i .non = .ref b:=by rw [List.getD_eq_getElem?_getD,e1]; rfl
   have ee:es.getD i ("",0)=es[i]:=by rw [List.getD_eq_getElem?_getD,List.getElem?_eq_getElem hie]; rfl
   obtain ⟨l1,l2⟩:=hF.long es[i] (List.getElem_mem hie)
   rw [ev]
   refine ⟨b,_,rfl,SqT.of (hs _ _ (hs3 _ _ e2)),rfl,_,_,rfl,_,_,rfl,rfl,_,rfl,es[i].1,rfl,l1,l2,kq _ _ (Same.refl _) ?_⟩
   rw [ee]
  intro D2 vs2 H4 hl2 hr2 hs4 hD2 hDl2
  rw [ZaK (f:=en) (by omega) hr2] at hDl2
  refine ⟨D1,D2,_,_,rfl,rfl,hs4 _ _ hDl1,hDl2,Zl (by simp only [List.length_map]; omega),fun p hp=>?_⟩
  have s5:=Zb (o:=.lst ((es.map fun e=>bg e.1).map V.str ++ (es.map fun e=>en e.1).map V.str)) hp
  refine ⟨p,(es.map fun e=>bg e.1) ++ (es.map fun e=>en e.1),rfl,SqL.of (by rw [Zc,List.map_append]),by simp only [List.length_append,List.length_map]; omega,fun p2 ks hp2 hnd hmem hkl=>?_⟩
  have hkl':ks.length≤2 * es.length:=by simp only [List.length_append,List.length_map] at hkl; omega
  refine ⟨p2,ks,rfl,Zc,by omega,fun q2 ss hq2 hpm hsrt=>?_⟩
  refine ⟨q2,_,rfl,.inl ⟨SqL.of Zc,fun l hl=>?_⟩⟩
  refine k (.ref l) _ ss (((((hs3.trans hs4).trans s5).trans (Zb hp2)).trans (Zb hq2)).trans (Zb hl)) ⟨l,rfl,Zc⟩ (SPts.of (ks:=ks) ⟨hnd,fun x=>?_,hkl'⟩ hpm hsrt)
  rw [hmem,List.mem_append,List.mem_map,List.mem_map]
  constructor
  ·rintro (⟨e,he,z⟩ | ⟨e,he,z⟩)
   ·exact ⟨e,he,.inl z⟩
   ·exact ⟨e,he,.inr z⟩
  ·rintro ⟨e,he,z | z⟩
   ·exact .inl ⟨e,he,z⟩
   ·exact .inr ⟨e,he,z⟩
end
def rD (ks:List Str) (adr:Str→Addr):List (Key × V):=ks.map fun x=>((Sum.inr x:Key),V.ref (adr x))
theorem Zjs (ks:List Str) (adr:Str→Addr):(rD ks adr).length=ks.length:=by unfold rD; rw [List.length_map]
theorem ZdQ (ks:List Str) (adr:Str→Addr) (y:Str):XR (rD ks adr) (Sum.inr y)=if y∈ks then some (.ref (adr y)) else none:=YO (fun x=>V.ref (adr x)) y ks
theorem ZlG {ks:List Str} {adr:Str→Addr} {y:Str} {p:Addr} (h:y∉ks):XC (rD ks adr) (Sum.inr y) (.ref p)=rD (ks ++ [y]) fun x=>if x=y then p else adr x:=by
 rw [Jx _ (by rw [ZdQ,if_neg h])]
 unfold rD
 rw [List.map_append,List.map_singleton]
 dsimp only
 rw [if_pos rfl]
 congr 1
 refine List.map_congr_left fun x hx=>?_
 rw [if_neg (fun e:x=y=>h (e ▸ hx))]
structure TJ (H H2:Hp) (d:Addr) (ks:List Str) (adr:Str→Addr) (r:Str→List Str):Prop where
 sm:Same H H2
 dn:H d=none
 dd:H2 d=some (.dK (rD ks adr))
 nd:ks.Nodup
 row:∀ P∈ks,H2 (adr P)=some (.lst ((r P).map V.str))
 fresh:∀ P∈ks,H (adr P)=none
 inj:∀ P∈ks,∀ P'∈ks,adr P=adr P'→P=P'
 out:∀ P,P∉ks→r P=[]
def Zdu (r:Str→List Str) (P y:Str):Str→List Str:=fun x=>if x=P then r P ++ [y] else r x
theorem Zew {r:Str→List Str} {P y x z:Str}:z∈Zdu r P y x↔z∈r x∨(x=P∧z=y):=by
 unfold Zdu
 by_cases c:x=P
 ·subst c
  rw [if_pos rfl]
  simp
 ·rw [if_neg c]
  simp [c]
theorem Zby {r:Str→List Str} {P y:Str} {n:Nat} (h:∀ x,(r x).length≤n) (x:Str):(Zdu r P y x).length≤n + 1:=by
 unfold Zdu
 split
 ·have:=h P
  simp
  omega
 ·have:=h x
  omega
theorem TJ.ne {H H2:Hp} {d:Addr} {ks:List Str} {adr:Str→Addr} {r:Str→List Str} (J:TJ H H2 d ks adr r) {P:Str} (hP:P∈ks):adr P≠d:=fun e=>by
 have:=J.row P hP
 rw [e,J.dd] at this
 cases this
theorem TJ.old {H H2:Hp} {d p:Addr} {ks:List Str} {adr:Str→Addr} {r:Str→List Str} (J:TJ H H2 d ks adr r) {P y:Str} (hP:P∈ks) (hp:H2 p=none) :
  TJ H (upd (upd H2 p (.lst [])) (adr P) (.lst ((r P).map V.str ++ [.str y]))) d (XS ks P) adr (Zdu r P y):=by
 have ek:XS ks P=ks:=by unfold XS; rw [if_pos hP]
 rw [ek]
 have s1:=Zb (o:=.lst []) hp
 refine ⟨fun b u hb=>?_,J.dn,?_,J.nd,fun Q hQ=>?_,J.fresh,J.inj,fun Q hQ=>?_⟩
 ·rw [Zi fun e=>by rw [e,J.fresh P hP] at hb; cases hb]
  exact s1 _ _ (J.sm b u hb)
 ·rw [Zi (Ne.symm (J.ne hP))]
  exact s1 _ _ J.dd
 ·unfold Zdu
  by_cases c:Q=P
  ·subst c
   rw [Zc,if_pos rfl,List.map_append]
   rfl
  ·rw [if_neg c,Zi fun e=>c (J.inj Q hQ P hP e)]
   exact s1 _ _ (J.row Q hQ)
 ·unfold Zdu
  rw [if_neg (fun e:Q=P=>hQ (e ▸ hP))]
  exact J.out Q hQ
theorem TJ.new {H H2:Hp} {d p:Addr} {ks:List Str} {adr:Str→Addr} {r:Str→List Str} (J:TJ H H2 d ks adr r) {P y:Str} (hP:P∉ks) (hp:H2 p=none) :
  TJ H (upd (upd (upd H2 p (.lst [])) d (.dK (rD (ks ++ [P]) fun x=>if x=P then p else adr x))) p (.lst ([] ++ [.str y]))) d (XS ks P) (fun x=>if x=P then p else adr x) (Zdu r P y):=by
 have ek:XS ks P=ks ++ [P]:=by unfold XS; rw [if_neg hP]
 rw [ek]
 have hpd:d≠p:=fun e=>by rw [← e,J.dd] at hp; cases hp
 have hpa:∀ Q∈ks,adr Q≠p:=fun Q hQ e=>by have:=J.row Q hQ; rw [e,hp] at this; cases this
 have mm:∀ Q,Q∈ks ++ [P]→Q∈ks∨Q=P:=fun Q h=>by simpa using h
 refine ⟨fun b u hb=>?_,J.dn,?_,?_,fun Q hQ=>?_,fun Q hQ=>?_,fun Q hQ Q' hQ' e=>?_,fun Q hQ=>?_⟩
 ·have h2:=J.sm b u hb
  rw [Zi (Zj h2 hp),Zi (Zj hb J.dn),Zi (Zj h2 hp)]
  exact h2
 ·rw [Zi hpd,Zc]
 ·exact List.nodup_append.mpr ⟨J.nd,by simp,fun a ha b hb e=>by rw [List.mem_singleton.mp hb] at e; subst e; exact hP ha⟩
 ·unfold Zdu
  by_cases c:Q=P
  ·subst c
   rw [if_pos rfl,if_pos rfl,Zc,J.out Q hP]
   rfl
  ·rw [if_neg c,if_neg c]
   have hQ':Q∈ks:=(mm Q hQ).resolve_right c
   rw [Zi (hpa Q hQ'),Zi (J.ne hQ'),Zi (hpa Q hQ')]
   exact J.row Q hQ'
 ·skip
  by_cases c:Q=P
  ·rw [if_pos c]
   cases hh:H p with
   | none=>rfl
   | some u=>have:=J.sm p u hh; rw [hp] at this; cases this
  ·rw [if_neg c]
   exact J.fresh Q ((mm Q hQ).resolve_right c)
 ·skip
  by_cases c:Q=P
  ·by_cases c':Q'=P
   ·rw [c,c']
   ·rw [if_pos c,if_neg c'] at e
    exact absurd e.symm (hpa Q' ((mm Q' hQ').resolve_right c'))
  ·by_cases c':Q'=P
   ·rw [if_neg c,if_pos c'] at e
    exact absurd e (hpa Q ((mm Q hQ).resolve_right c))
   ·rw [if_neg c,if_neg c'] at e
    exact J.inj Q ((mm Q hQ).resolve_right c) Q' ((mm Q' hQ').resolve_right c') e
 ·have h1:Q∉ks:=fun z=>hQ (List.mem_append_left _ z)
  have h2:¬ Q=P:=fun z=>hQ (by simp [z])
  unfold Zdu
  rw [if_neg h2]
  exact J.out Q h1
def TiR (H:Hp) (q d:Addr) (es:Es) (i:Nat):L2.St→Hp→Prop:=fun σ H2=>(∃ z2 z3:Option V,σ=[some (.ref q),some (.ref d),z2,z3])∧∃ ks adr r,TJ H H2 d ks adr r∧Pts (es.take i) ks∧(∀ P y,y∈r P↔Adj (es.take i) P y)∧∀ P,(r P).length≤2 * i
section
variable {P:Program} {w:World} {K:PySem.W.Frag} {mg:Str→Option Value} {base:Heap}
abbrev Xj:Stmt:=top 13
abbrev Zc5:List Str:=["H","tied","piece","many"]
theorem scTiedPoints:Zo Zc5 ["H"] (Zg Xj):=⟨rfl,rfl,rfl,by decide +kernel,rfl,by decide +kernel,by decide +kernel⟩
def Zje:Sp:=fun vs H Q _=>∃ (v:V) (es:Es),vs=[v]∧HeapV H v es∧X9 es∧∀ d H' ks adr r,TJ H H' d ks adr r→Pts es ks→(∀ P y,y∈r P↔Adj es P y)→(∀ P,(r P).length≤128)→Q (.ref d) H'
theorem Zah (D:HasDef K mg "tied_points" Xj ["H"]) (g11_:FOk P w K mg base 1 "begin_of" ["piece"] ZcK) (g15_:FOk P w K mg base 1 "end_of" ["piece"] ZfI):FOk P w K mg base 2 "tied_points" ["H"] Zje:=by
 refine D.ok scTiedPoints (fun vs H Q E h=>?_) (fun f cdv A outer s H vs Q E hr h=>?_)
 ·obtain ⟨v,es,rfl,_⟩:=h
  rfl
 ·obtain ⟨v,es,rfl,⟨q,vs,rfl,hq,hpa⟩,hF,k⟩:=h
  refine ⟨_,(Zd (Zm (i:=1) scTiedPoints.nd rfl (.inl rfl) Jz)
   (Zd (Z3 PassesOwn.never rfl (YK (pv 0)) (Yb 2 K rfl (Zw (Zz (i:=2) scTiedPoints.nd rfl (.inl rfl)) (Zw (Zz (i:=3) scTiedPoints.nd rfl (.inl rfl)) Ya)))
    (Zd (YU (ZcU F.plainAttrs_list F.slot_list_append F.type_list_append Xa (Zgh (pv 1) (Zu g11_ hr (Za (pv 2) Ze)) (Yn Ze) ⟨rfl,rfl,rfl,rfl⟩) (Za (Zu g15_ hr (Za (pv 2) Ze)) Ze)))
   (Zh (YU (ZcU F.plainAttrs_list F.slot_list_append F.type_list_append Xa (Zgh (pv 1) (Zu g15_ hr (Za (pv 2) Ze)) (Yn Ze) ⟨rfl,rfl,rfl,rfl⟩) (Za (Zu g11_ hr (Za (pv 2) Ze)) Ze))))))
   (Zh (Zr (pv 1))))),?_⟩
  intro d hd
  have s1:=Zb (o:=.dK []) hd
  refine ⟨_,rfl,q,rfl,⟨_,SqT.of (s1 _ _ hq)⟩,?_⟩
  refine X8 (K:=K) (a:=q) (xs:=vs) (fun i σ H2=>(∃ z2 z3:Option V,σ=[some (.ref q),some (.ref d),z2,z3])∧∃ ks adr r,TJ H H2 d ks adr r∧Pts (es.take i) ks∧(∀ P y,y∈r P↔Adj (es.take i) P y)∧∀ P,(r P).length≤2 * i)
   ⟨⟨none,none,rfl⟩,[],fun _=>d,fun _=>[],⟨s1,hd,Zc,List.nodup_nil,(fun P h=>by cases h),(fun P h=>by cases h),(fun P h=>by cases h),fun _ _=>rfl⟩,Pts.nil,(fun P y=>by simp [Adj]),fun P=>Nat.le_refl _⟩ (fun i σ H2 _ ⟨_,_,_,_,J,_⟩=>SqT.of (J.sm _ _ hq)) ?_ ?_
  ·rintro i x σ H2 hi ⟨⟨z2,z3,rfl⟩,ks,adr,r,J,hk,hadj,hlen⟩
   have hiv:i < vs.length:=(List.getElem?_eq_some_iff.mp hi).1
   have hie:i < es.length:=by rw [← hpa.1]; exact hiv
   obtain ⟨b,e1,e2⟩:=hpa.2 i es[i] (List.getElem?_eq_getElem hie)
   rw [hi] at e1
   cases e1
   obtain ⟨l1,l2⟩:=hF.long es[i] (List.getElem_mem hie)
   have hkl:=hk.len
   have hfew:=hF.few
   rw [List.length_take] at hkl
   refine ⟨b,_,rfl,SqT.of (J.sm _ _ e2),rfl,_,_,rfl,_,_,rfl,rfl,?_⟩
   have het:es.take (i + 1)=es.take i ++ [es[i]]:=List.take_succ_eq_append_getElem hie
   generalize es[i]=e at *
   have one:∀ (H3:Hp) (ks3:List Str) (adr3:Str→Addr) (r3:Str→List Str) (P y:Str) (R:L2.St→Hp→Prop) (σ3:L2.St),TJ H H3 d ks3 adr3 r3→ks3.length≤500→(∀ x,(r3 x).length≤500)→(∀ H4 adr4,TJ H H4 d (XS ks3 P) adr4 (Zdu r3 P y)→R σ3 H4)→∀ p,H3 p=none →
     (∀ v,XR (rD ks3 adr3) (Sum.inr P:Key)=some v→∃ l xs,v = .ref l∧(upd H3 p (.lst [])) l=some (.lst xs)∧xs.length < sizeLine∧R σ3 (upd (upd H3 p (.lst [])) l (.lst (xs ++ [.str y])))) ∧
     (XR (rD ks3 adr3) (Sum.inr P:Key)=none→∃ xs,(upd (upd H3 p (.lst [])) d (.dK (XC (rD ks3 adr3) (Sum.inr P) (.ref p)))) p=some (.lst xs)∧xs.length < sizeLine∧R σ3 (upd (upd (upd H3 p (.lst [])) d (.dK (XC (rD ks3 adr3) (Sum.inr P) (.ref p)))) p (.lst (xs ++ [.str y])))):=by
    intro H3 ks3 adr3 r3 P y R σ3 J3 hks hr3 hR p hp
    constructor
    ·intro v hv
     rw [ZdQ] at hv
     by_cases c:P∈ks3
     ·rw [if_pos c] at hv
      cases hv
      refine ⟨adr3 P,(r3 P).map V.str,rfl,Zb hp _ _ (J3.row P c),?_,hR _ _ (J3.old c hp)⟩
      rw [List.length_map]
      have:=hr3 P
      exact ZQ (by omega)
     ·rw [if_neg c] at hv
      cases hv
    ·intro hv
     rw [ZdQ] at hv
     by_cases c:P∈ks3
     ·rw [if_pos c] at hv
      cases hv
     ·have hpd:p≠d:=fun e=>by rw [e,J3.dd] at hp; cases hp
      refine ⟨[],by rw [Zi hpd,Zc],ZQ (by decide),?_⟩
      rw [ZlG c]
      exact hR _ _ (J3.new c hp)
   have hkz:ks.length≤500:=by omega
   have hrz:∀ x,(r x).length≤500:=fun x=>by have:=hlen x; omega
   show Zlu _ _ _ _ _
   refine Ym (fun σ H'=>σ=[some (.ref q),some (.ref d),some (.str e.1),some (.int e.2)]∧∃ adr',TJ H H' d (XS ks (bg e.1)) adr' (Zdu r (bg e.1) (en e.1))) (fun R hR=>?_) ?_
   ·refine ⟨_,rfl,d,rfl,.inl ⟨_,.inl J.dd⟩,_,rfl,e.1,rfl,l1,l2,Zl (show 0≤1000 by decide),fun p hp=>?_⟩
    refine ⟨_,Sum.inr (bg e.1),Zb hp _ _ J.dd,rfl,by rw [Zjs]; exact ZQ (by omega),fun v hv=>?_,fun hv=>?_⟩
    ·obtain ⟨l,xs,rfl,hl,hz,hr'⟩:=(one H2 ks adr r (bg e.1) (en e.1) R [some (.ref q),some (.ref d),some (.str e.1),some (.int e.2)] J hkz hrz (fun H4 adr4 J4=>hR _ _ ⟨rfl,adr4,J4⟩) p hp).1 v hv
     exact ⟨.inl ⟨rfl,_,SqL.of hl⟩,_,rfl,e.1,rfl,l1,l2,l,xs,.str (en e.1),rfl,rfl,hl,hz,hr'⟩
    ·obtain ⟨xs,hl,hz,hr'⟩:=(one H2 ks adr r (bg e.1) (en e.1) R [some (.ref q),some (.ref d),some (.str e.1),some (.int e.2)] J hkz hrz (fun H4 adr4 J4=>hR _ _ ⟨rfl,adr4,J4⟩) p hp).2 hv
     exact ⟨.inl ⟨rfl,_,SqL.of hl⟩,_,rfl,e.1,rfl,l1,l2,p,xs,.str (en e.1),rfl,rfl,hl,hz,hr'⟩
   rintro σ H3 ⟨rfl,adr3,J3⟩
   have hal:=JD ks (bg e.1)
   have hrz3:∀ x,(Zdu r (bg e.1) (en e.1) x).length≤500:=fun x=>by have:=Zby (P:=bg e.1) (y:=en e.1) hlen x; omega
   have fin:∀ H4 adr4,TJ H H4 d (XS (XS ks (bg e.1)) (en e.1)) adr4 (Zdu (Zdu r (bg e.1) (en e.1)) (en e.1) (bg e.1))→TiR H q d es (i + 1) [some (.ref q),some (.ref d),some (.str e.1),some (.int e.2)] H4:=fun H4 adr4 J4=>by
    refine ⟨⟨_,_,rfl⟩,_,adr4,_,J4,by rw [het]; exact hk.step e,fun P y=>?_,fun P=>?_⟩
    ·rw [Zew,Zew,hadj,het,Zi6]
     constructor
     ·rintro ((z | ⟨z1,z2⟩) | ⟨z1,z2⟩)
      ·exact .inl z
      ·exact .inr (.inl ⟨z1.symm,z2.symm⟩)
      ·exact .inr (.inr ⟨z1.symm,z2.symm⟩)
     ·rintro (z | ⟨z1,z2⟩ | ⟨z1,z2⟩)
      ·exact .inl (.inl z)
      ·exact .inl (.inr ⟨z1.symm,z2.symm⟩)
      ·exact .inr ⟨z1.symm,z2.symm⟩
    ·have:=Zby (P:=en e.1) (y:=bg e.1) (fun x=>Zby (P:=bg e.1) (y:=en e.1) hlen x) P
     omega
   refine ⟨_,rfl,d,rfl,.inl ⟨_,.inl J3.dd⟩,_,rfl,e.1,rfl,l1,l2,Zl (show 0≤1000 by decide),fun p hp=>?_⟩
   refine ⟨_,Sum.inr (en e.1),Zb hp _ _ J3.dd,rfl,by rw [Zjs]; exact ZQ (by omega),fun v hv=>?_,fun hv=>?_⟩
   ·obtain ⟨l,xs,rfl,hl,hz,hr'⟩:=(one H3 _ adr3 _ (en e.1) (bg e.1) (TiR H q d es (i + 1)) [some (.ref q),some (.ref d),some (.str e.1),some (.int e.2)] J3 (by omega) hrz3 fin p hp).1 v hv
    exact ⟨.inl ⟨rfl,_,SqL.of hl⟩,_,rfl,e.1,rfl,l1,l2,l,xs,.str (bg e.1),rfl,rfl,hl,hz,hr'⟩
   ·obtain ⟨xs,hl,hz,hr'⟩:=(one H3 _ adr3 _ (en e.1) (bg e.1) (TiR H q d es (i + 1)) [some (.ref q),some (.ref d),some (.str e.1),some (.int e.2)] J3 (by omega) hrz3 fin p hp).2 hv
    exact ⟨.inl ⟨rfl,_,SqL.of hl⟩,_,rfl,e.1,rfl,l1,l2,p,xs,.str (bg e.1),rfl,rfl,hl,hz,hr'⟩
  ·rintro σ H2 ⟨⟨z2,z3,rfl⟩,ks,adr,r,J,hk,hadj,hlen⟩
   rw [hpa.1,List.take_length] at hk hadj
   have:=hF.few
   exact ⟨_,rfl,k d H2 ks adr r J hk hadj fun P=>by have:=hlen P; rw [hpa.1] at this; omega⟩
end
def bD (ks:List Str):List (Key × V):=ks.map fun x=>((Sum.inr x:Key),V.bl true)
theorem ZmK (ks:List Str):(bD ks).length=ks.length:=by unfold bD; rw [List.length_map]
theorem ZjW (ks:List Str) (y:Str):XR (bD ks) (Sum.inr y)=if y∈ks then some (.bl true) else none:=YO (fun _=>V.bl true) y ks
theorem ZmJ (ks:List Str) (y:Str):XC (bD ks) (Sum.inr y) (.bl true)=bD (XS ks y):=by
 unfold XS
 by_cases m:y∈ks
 ·rw [if_pos m]
  unfold bD
  rw [X1 _ _ _ _ m]
  refine List.map_congr_left fun x _=>?_
  simp
 ·rw [if_neg m,Jx _ (by rw [ZjW,if_neg m])]
  unfold bD
  rw [List.map_append,List.map_singleton]
theorem Zit {ss:List Str} (nd:ss.Nodup) (h:(ss.map fun x=>x.cps.toList).Pairwise (·≤·)):(ss.map fun x=>x.cps.toList).Pairwise (· < ·):=by
 rw [List.pairwise_map] at h ⊢
 have:=List.Pairwise.and nd h
 refine this.imp fun {a b} q=>?_
 refine Tim.lt_ne (fun z=>?_) (Ne.symm q.1)
 exact absurd z (List.not_lt.mpr q.2)
structure Wk (es:Es) (a:Str) (ks F W:List Str):Prop where
 nd:F.Nodup
 fst:a∈F
 rch:∀ x∈F,Rch es a x
 sub:∀ x∈W,x∈F
 inn:∀ x∈F,x∈ks
theorem Wk.le {es:Es} {a:Str} {ks F W:List Str} (h:Wk es a ks F W):F.length≤ks.length:=by
 have h1:=h.nd
 have h2:=h.inn
 clear h
 induction F generalizing ks with
 | nil=>exact Nat.zero_le _
 | cons x F ih =>
  have nd':=List.nodup_cons.mp h1
  have hx:=h2 x (List.mem_cons_self ..)
  have p:=List.perm_cons_erase hx
  have:=ih (ks:=ks.erase x) nd'.2 fun y hy=>(List.mem_erase_of_ne (fun (q:y=x)=>nd'.1 (q ▸ hy))).mpr (h2 y (List.mem_cons_of_mem _ hy))
  rw [List.length_erase_of_mem hx] at this
  have hpos:0 < ks.length:=List.length_pos_of_mem hx
  rw [List.length_cons]
  omega
section
variable {P:Program} {w:World} {K:PySem.W.Frag} {mg:Str→Option Value} {base:Heap}
abbrev ZcN:Stmt:=top 14
abbrev ZkI:List Str:=["H","tied","first","found","waiting","here","point"]
theorem scPartOf:Zo ZkI ["H"] (Zg ZcN):=⟨rfl,rfl,rfl,by decide +kernel,rfl,by decide +kernel,by decide +kernel⟩
def Zjg:Sp:=fun vs H Q _=>∃ (v:V) (e:Str × Int) (es:Es),vs=[v]∧HeapV H v (e :: es)∧X9 (e :: es)∧∀ v' H' ss,Same H H'→TupS H' v' ss→(ss.map fun x=>x.cps.toList).Pairwise (· < ·)→ss.length≤128→(∀ x,x∈ss↔Rch (e :: es) (bg e.1) x)→Q v' H'
theorem ZeH (D:HasDef K mg "part_of" ZcN ["H"]) (B:Blt mg) (g11_:FOk P w K mg base 2 "begin_of" ["piece"] ZcK) (g30_:FOk P w K mg base 2 "tied_points" ["H"] Zje):FOk P w K mg base 3 "part_of" ["H"] Zjg:=by
 refine D.ok scPartOf (fun vs H Q E h=>?_) (fun f cdv A outer s H vs Q E hr h=>?_)
 ·obtain ⟨v,e,es,rfl,_⟩:=h
  rfl
 ·obtain ⟨v,e,es0,rfl,hV,hF,k⟩:=h
  have hu:=ZeT hr
  obtain ⟨q,vs,rfl,hq,hpa⟩:=id hV
  refine ⟨_,(Zd (Zm (i:=1) scPartOf.nd rfl (.inl rfl) (Zu g30_ hr (Za (pv 0) Ze)))
   (Zd (Zm (i:=2) scPartOf.nd rfl (.inl rfl) (Zu g11_ hr (Za (ZR ZaB (ZR ZaB (pv 0) Zf (fun _ _=>rfl)) Zf (fun _ _=>rfl)) Ze)))
   (Zd (Zm (i:=3) scPartOf.nd rfl (.inl rfl) (Zky (Zh6 (pv 2) Zgj Zku) rfl rfl (List.cons_ne_nil _ _) (by decide)))
   (Zd (Zm (i:=4) scPartOf.nd rfl (.inl rfl) (Yn (Za (pv 2) Ze)))
   (Zd (Jy PassesOwn.never (Zt ZcX (Zk Zq rfl B.len ZV (Za (pv 4) Ze)) Zf (Zy _))
    (Zd (Zm (i:=5) scPartOf.nd rfl (.inl rfl) (YV F.plainAttrs_list F.slot_list_pop F.type_list_pop Yo (pv 4)))
   (Zh (Z3 PassesOwn.never rfl (ZX (Zgi hu (pv 1) (pv 5) (fun _ _=>rfl))) (Zz (i:=6) scPartOf.nd rfl (.inl rfl))
    (Zh (Ye (ZlJ (Zgl hu (pv 6) (pv 3))) (Zd (JQ hu (pv 3) (pv 6) Zgj rfl)
   (Zh (YU (ZcU F.plainAttrs_list F.slot_list_append F.type_list_append Xa (pv 4) (Za (pv 6) Ze))))) ZA))))))
   (Zh (Zr (ZE ZJ rfl B.tuple Xr (Za (Zk (Zbu rfl) rfl B.sorted YG (Za (pv 3) Ze)) Ze))))))))),?_⟩
  obtain ⟨b0,eb0,hb0⟩:=hpa.2 0 e rfl
  obtain ⟨l1,l2⟩:=hF.long e (List.mem_cons_self ..)
  refine ⟨_,rfl,.ref q,e :: es0,rfl,hV,hF,fun d H1 ks adr r J hk hadj hlen=>?_⟩
  have hf1:=hk.len
  have hf2:=hF.few
  have haK:bg e.1∈ks:=(hk.mem _).mpr ⟨e,List.mem_cons_self ..,.inl rfl⟩
  generalize hes:e :: es0=es at *
  refine ⟨_,rfl,q,vs,0,.ref b0,rfl,rfl,SqT.of (J.sm _ _ hq),YF (by decide) eb0,b0,_,0,.str e.1,rfl,rfl,SqT.of (J.sm _ _ hb0),rfl,e.1,rfl,l1,l2,fun fd hfd=>?_⟩
  refine ⟨_,rfl,Zc,[((Sum.inr (bg e.1):Key),V.bl true)],rfl,by simp,?_⟩
  rw [ZaI]
  have s2:Same H1 (upd H1 fd (.dK (Je [] [((Sum.inr (bg e.1):Key),V.bl true)]))):=Zb hfd
  have hfd2:(upd H1 fd (.dK (Je [] [((Sum.inr (bg e.1):Key),V.bl true)]))) fd=some (.dK (bD [bg e.1])):=Zc
  generalize upd H1 fd (.dK (Je [] [((Sum.inr (bg e.1):Key),V.bl true)]))=H2 at s2 hfd2
  refine ⟨_,rfl,Zl (show 1≤1000 by decide),fun wl hwl=>?_⟩
  have hwl1:H1 wl=none:=s2.free hwl
  have hne:wl≠fd:=fun z=>by rw [z,hfd2] at hwl; cases hwl
  have s3:=s2.trans (Zb (o:=.lst [.str (bg e.1)]) hwl)
  have hfd3:=Zb (o:=.lst [.str (bg e.1)]) hwl _ _ hfd2
  have hwl3:(upd H2 wl (.lst [.str (bg e.1)])) wl=some (.lst ([bg e.1].map V.str)):=Zc
  generalize upd H2 wl (.lst [.str (bg e.1)])=H3 at s3 hfd3 hwl3
  have shift:∀ {H4:Hp} (F W:List Str),Same H1 H4→Same H1 (upd (upd H4 fd (.dK (bD F))) wl (.lst (W.map V.str))):=fun F W s b u hb=>by
   rw [Zi (Zj hb hwl1),Zi (Zj hb hfd)]
   exact s b u hb
  have shW:∀ {H4:Hp} (o:HO),Same H1 H4→Same H1 (upd H4 wl o):=fun o s b u hb=>by
   rw [Zi (Zj hb hwl1)]
   exact s b u hb
  have shF:∀ {H4:Hp} (o:HO),Same H1 H4→Same H1 (upd H4 fd o):=fun o s b u hb=>by
   rw [Zi (Zj hb hfd)]
   exact s b u hb
  try dsimp only [Zak]
  show Zlu (ZdE _ _) _ _ _ _
  refine Ym (fun σ H4=>∃ (F:List Str) (z5 z6:Option V),σ=[some (.ref q),some (.ref d),some (.str (bg e.1)),some (.ref fd),some (.ref wl),z5,z6]∧Same H1 H4∧H4 fd=some (.dK (bD F))∧Wk es (bg e.1) ks F []∧∀ x∈F,∀ y,Adj es x y→y∈F) (fun R hR=>?_) ?_
  ·refine ⟨fun m σ H4=>∃ (F W:List Str) (z5 z6:Option V),σ=[some (.ref q),some (.ref d),some (.str (bg e.1)),some (.ref fd),some (.ref wl),z5,z6]∧Same H1 H4∧H4 fd=some (.dK (bD F))∧H4 wl=some (.lst (W.map V.str))∧Wk es (bg e.1) ks F W∧(∀ x∈F,x∉W→∀ y,Adj es x y→y∈F)∧m=2 * (ks.length - F.length) + W.length∧m≤2 * ks.length,
    ⟨_,[bg e.1],[bg e.1],none,none,rfl,s3,hfd3,hwl3,⟨by simp,by simp,(fun x hx=>by rw [List.mem_singleton.mp hx]; exact .here),fun x hx=>hx,fun x hx=>by rw [List.mem_singleton.mp hx]; exact haK⟩,(fun x hx hw=>absurd hx hw),rfl,by have:=List.length_pos_of_mem haK; simp only [List.length_singleton]; omega⟩,?_⟩
   rintro m σ H4 ⟨F,W,z5,z6,rfl,s4,hfd4,hwl4,hW,hcl,hm,hw5⟩
   refine ⟨_,rfl,.ref wl,_,rfl,.inl ⟨_,SqL.of hwl4,rfl⟩,_,_,rfl,rfl,_,rfl,?_⟩
   rcases List.eq_nil_or_concat W with rfl | ⟨r0,here,rfl⟩
   ·exact Jg (by decide) (hR _ _ ⟨F,z5,z6,rfl,s4,hfd4,hW,fun x hx=>hcl x hx (fun z=>by cases z)⟩)
   rw [List.concat_eq_append] at *
   refine ZaC (decide_eq_true (by rw [List.map_append,List.length_append,List.map_singleton,List.length_singleton]; omega)) ?_
   have hhF:here∈F:=hW.sub here (by simp)
   have hhK:=hW.inn here hhF
   rw [List.length_append,List.length_singleton] at hm
   refine ⟨fun σ' H'=>∃ m',m' < m∧∃ (F W:List Str) (z5 z6:Option V),σ'=[some (.ref q),some (.ref d),some (.str (bg e.1)),some (.ref fd),some (.ref wl),z5,z6]∧Same H1 H'∧H' fd=some (.dK (bD F))∧H' wl=some (.lst (W.map V.str))∧Wk es (bg e.1) ks F W∧(∀ x∈F,x∉W→∀ y,Adj es x y→y∈F)∧m'=2 * (ks.length - F.length) + W.length∧m'≤2 * ks.length,fun _ _ z=>z,?_⟩
   refine ⟨_,rfl,.inl ⟨rfl,_,SqL.of hwl4⟩,wl,_,V.str here,rfl,rfl,hwl4,by rw [List.map_append,List.map_singleton]; simp,?_⟩
   rw [show ((r0 ++ [here]).map V.str).dropLast=r0.map V.str by rw [List.map_append,List.map_singleton,List.dropLast_concat]]
   have s5:Same H1 (upd H4 wl (.lst (r0.map V.str))):=shW _ s4
   have hwl5:(upd H4 wl (.lst (r0.map V.str))) wl=some (.lst (r0.map V.str)):=Zc
   have hfd5:(upd H4 wl (.lst (r0.map V.str))) fd=some (.dK (bD F)):=by rw [Zi (Ne.symm hne)]; exact hfd4
   generalize upd H4 wl (.lst (r0.map V.str))=H5 at s5 hwl5 hfd5
   refine ⟨_,rfl,_,rfl,d,.ref (adr here),rfl,.inl ⟨_,Sum.inr here,.inl (s5 _ _ J.dd),rfl,by rw [ZdQ,if_pos hhK]⟩,adr here,rfl,⟨_,SqL.of (s5 _ _ (J.row here hhK))⟩,?_⟩
   refine XM (K:=K) (a:=adr here) (xs:=(r here).map V.str) (fun j σ' H'=>∃ (F W:List Str) (z6:Option V),σ'=[some (.ref q),some (.ref d),some (.str (bg e.1)),some (.ref fd),some (.ref wl),some (.str here),z6]∧Same H1 H'∧H' fd=some (.dK (bD F))∧H' wl=some (.lst (W.map V.str))∧Wk es (bg e.1) ks F W∧(∀ x∈F,x∉W→x≠here→∀ y,Adj es x y→y∈F)∧(∀ y∈(r here).take j,y∈F)∧2 * (ks.length - F.length) + W.length + 1≤m)
    ⟨F,r0,z6,rfl,s5,hfd5,hwl5,⟨hW.nd,hW.fst,hW.rch,fun x hx=>hW.sub x (List.mem_append_left _ hx),hW.inn⟩,fun x hx h1 h2=>hcl x hx (fun z=>by rcases List.mem_append.mp z with z | z; exact h1 z; exact h2 (List.mem_singleton.mp z)),(fun y hy=>by rw [List.take_zero] at hy; cases hy),by omega⟩
    (fun i σ' H' _ ⟨_,_,_,_,s6,_⟩=>SqL.of (s6 _ _ (J.row here hhK))) ?_ ?_
   ·rintro j x σ' H6 hj ⟨F6,W6,z6',rfl,s6,hfd6,hwl6,hW6,hcl6,hin6,hm6⟩
    rw [List.getElem?_map] at hj
    obtain ⟨y,hy,rfl⟩:=Option.map_eq_some_iff.mp hj
    have hya:Adj es here y:=(hadj here y).mp (List.mem_of_getElem? hy)
    have hyK:y∈ks:=by
     obtain ⟨e',he',q'⟩:=hya
     rcases q' with ⟨_,q'⟩ | ⟨_,q'⟩
     ·exact (hk.mem y).mpr ⟨e',he',.inr q'⟩
     ·exact (hk.mem y).mpr ⟨e',he',.inl q'⟩
    have htk:(r here).take (j + 1)=(r here).take j ++ [y]:=by
     rw [List.take_add_one,hy]
     rfl
    have hle6:=hW6.le
    refine ⟨_,rfl,_,rfl,fd,XR (bD F6) (Sum.inr y),rfl,.inl ⟨_,Sum.inr y,.inl hfd6,rfl,rfl⟩,?_⟩
    rw [ZjW]
    by_cases c:y∈F6
    ·rw [if_pos c]
     refine ⟨_,rfl,Jg rfl ⟨F6,W6,_,rfl,s6,hfd6,hwl6,hW6,hcl6,fun y' hy'=>?_,hm6⟩⟩
     rw [htk] at hy'
     rcases List.mem_append.mp hy' with z | z
     ·exact hin6 y' z
     ·rw [List.mem_singleton.mp z]
      exact c
    ·rw [if_neg c]
     have hW7:Wk es (bg e.1) ks (F6 ++ [y]) (W6 ++ [y]):=⟨List.nodup_append.mpr ⟨hW6.nd,by simp,fun a ha b hb e=>by rw [List.mem_singleton.mp hb] at e; subst e; exact c ha⟩,List.mem_append_left _ hW6.fst,(fun x hx=>by
       rcases List.mem_append.mp hx with z | z
       ·exact hW6.rch x z
       ·rw [List.mem_singleton.mp z]; exact .step (hW.rch here hhF) hya),(fun x hx=>by
       rcases List.mem_append.mp hx with z | z
       ·exact List.mem_append_left _ (hW6.sub x z)
       ·rw [List.mem_singleton.mp z]; simp),fun x hx=>by
       rcases List.mem_append.mp hx with z | z
       ·exact hW6.inn x z
       ·rw [List.mem_singleton.mp z]; exact hyK⟩
     have hlt:F6.length + 1≤ks.length:=by
      have:=hW7.le
      rw [List.length_append,List.length_singleton] at this
      exact this
     refine ⟨_,rfl,ZaC rfl ⟨_,rfl,_,rfl,fd,_,rfl,DPut.k (k:=Sum.inr y) hfd6 (by rw [ZmK]; exact ZQ (by omega)),?_⟩⟩
     rw [ZmJ,show XS F6 y=F6 ++ [y] by unfold XS; rw [if_neg c]]
     have s7:Same H1 (upd H6 fd (.dK (bD (F6 ++ [y])))):=shF _ s6
     have hfd7:(upd H6 fd (.dK (bD (F6 ++ [y])))) fd=some (.dK (bD (F6 ++ [y]))):=Zc
     have hwl7:(upd H6 fd (.dK (bD (F6 ++ [y])))) wl=some (.lst (W6.map V.str)):=by rw [Zi hne]; exact hwl6
     generalize upd H6 fd (.dK (bD (F6 ++ [y])))=H7 at s7 hfd7 hwl7
     refine ⟨_,rfl,.inl ⟨rfl,_,SqL.of hwl7⟩,_,rfl,wl,_,.str y,rfl,rfl,hwl7,by rw [List.length_map]; exact ZQ (by omega),?_⟩
     refine ⟨F6 ++ [y],W6 ++ [y],_,rfl,shW _ s7,by rw [Zi (Ne.symm hne)]; exact hfd7,by rw [Zc,List.map_append,List.map_singleton],hW7,fun x hx hxw hxh y' hy'=>?_,fun y' hy'=>?_,by rw [List.length_append,List.length_append,List.length_singleton]; omega⟩
     ·rcases List.mem_append.mp hx with z | z
      ·exact List.mem_append_left _ (hcl6 x z (fun q=>hxw (List.mem_append_left _ q)) hxh y' hy')
      ·exact absurd (List.mem_append_right _ z) hxw
     ·rw [htk] at hy'
      rcases List.mem_append.mp hy' with z | z
      ·exact List.mem_append_left _ (hin6 y' z)
      ·exact List.mem_append_right _ z
   ·rintro σ' H6 ⟨F6,W6,z6',rfl,s6,hfd6,hwl6,hW6,hcl6,hin6,hm6⟩
    rw [List.length_map,List.take_length] at hin6
    refine ⟨_,?_,F6,W6,_,_,rfl,s6,hfd6,hwl6,hW6,fun x hx hxw y hxy=>?_,rfl,?_⟩
    ·omega
    ·by_cases c:x=here
     ·subst c
      exact hin6 y ((hadj x y).mpr hxy)
     ·exact hcl6 x hx hxw c y hxy
    ·omega
  ·rintro σ H4 ⟨F,z5,z6,rfl,s4,hfd4,hW,hcl⟩
   have hle:=hW.le
   refine ⟨_,rfl,fd,F,fun _=>.bl true,rfl,hfd4,by omega,fun p ss hp hpm hsrt=>?_⟩
   refine ⟨p,_,rfl,.inl ⟨SqL.of Zc,fun l hl=>?_⟩⟩
   refine k (.ref l) _ ss (((J.sm.trans s4).trans (Zb hp)).trans (Zb hl)) ⟨l,rfl,Zc⟩ (Zit (hpm.nodup_iff.mpr hW.nd) hsrt) (by rw [hpm.length_eq]; omega) fun x=>?_
   rw [hpm.mem_iff]
   exact ⟨hW.rch x,fun z=>Rch.closed hW.fst hcl z⟩
end
theorem ZkH {F:List Str}:∀ {ks:List Str},F.Nodup→(∀ x∈F,x∈ks)→F.length≤ks.length:=by
 induction F with
 | nil=>exact fun _ _=>Nat.zero_le _
 | cons x F ih =>
  intro ks h1 h2
  have nd':=List.nodup_cons.mp h1
  have hx:=h2 x (List.mem_cons_self ..)
  have:=ih (ks:=ks.erase x) nd'.2 fun y hy=>(List.mem_erase_of_ne (fun (q:y=x)=>nd'.1 (q ▸ hy))).mpr (h2 y (List.mem_cons_of_mem _ hy))
  rw [List.length_erase_of_mem hx] at this
  have hpos:0 < ks.length:=List.length_pos_of_mem hx
  rw [List.length_cons]
  omega
theorem Zl3 {F ks:List Str} (h1:F.Nodup) (h2:∀ x∈F,x∈ks) (he:F.length=ks.length):∀ x∈ks,x∈F:=by
 intro x hx
 apply Classical.byContradiction
 intro hn
 have:=ZkH (ks:=ks.erase x) h1 fun y hy=>(List.mem_erase_of_ne (fun (q:y=x)=>hn (q ▸ hy))).mpr (h2 y hy)
 rw [List.length_erase_of_mem hx] at this
 have hpos:0 < ks.length:=List.length_pos_of_mem hx
 omega
theorem Zih {ss:List Str} (h:(ss.map fun x=>x.cps.toList).Pairwise (· < ·)):ss.Nodup:=by
 rw [List.pairwise_map] at h
 refine h.imp fun {a b} q e=>?_
 subst e
 exact List.lt_irrefl _ q
theorem Rch.pt {e:Str × Int} {es:Es} {x:Str} (h:Rch (e :: es) (bg e.1) x):∃ e'∈e :: es,bg e'.1=x∨en e'.1=x:=by
 cases h with
 | here=>exact ⟨e,by simp,.inl rfl⟩
 | step _ k =>
  obtain ⟨e',he,⟨_,q⟩ | ⟨_,q⟩⟩:=k
  ·exact ⟨e',he,.inr q⟩
  ·exact ⟨e',he,.inl q⟩
theorem ZiL {e:Str × Int} {es:Es} {ss pp:List Str} (n1:ss.Nodup) (h1:∀ x,x∈ss↔Rch (e :: es) (bg e.1) x) (n2:pp.Nodup) (h2:∀ x,x∈pp↔∃ e'∈e :: es,bg e'.1=x∨en e'.1=x) :
  ss.length=pp.length↔∀ e'∈e :: es,Rch (e :: es) (bg e.1) (bg e'.1):=by
 have sub:∀ x∈ss,x∈pp:=fun x hx=>(h2 x).mpr ((h1 x).mp hx).pt
 constructor
 ·intro he e' he'
  exact (h1 _).mp (Zl3 n1 sub he _ ((h2 _).mpr ⟨e',he',.inl rfl⟩))
 ·intro h
  have:∀ x∈pp,x∈ss:=fun x hx=>by
   obtain ⟨e',he',q | q⟩:=(h2 x).mp hx
   ·rw [← q]
    exact (h1 _).mpr (h e' he')
   ·exact (h1 _).mpr (.step (h e' he') ⟨e',he',.inl ⟨rfl,q⟩⟩)
  have a:=ZkH n1 sub
  have b:=ZkH n2 this
  omega
section
variable {P:Program} {w:World} {K:PySem.W.Frag} {mg:Str→Option Value} {base:Heap}
abbrev ZfZ:Stmt:=top 15
abbrev Zl7:List Str:=["H"]
theorem Zkk:Zo Zl7 ["H"] (Zg ZfZ):=⟨rfl,rfl,rfl,by decide +kernel,rfl,by decide +kernel,by decide +kernel⟩
def ZfH:Sp:=fun vs H Q _=>∃ (v:V) (e:Str × Int) (es:Es),vs=[v]∧HeapV H v (e :: es)∧X9 (e :: es)∧∀ H' (b:Bool),Same H H'→(b=true↔∀ e'∈e :: es,Rch (e :: es) (bg e.1) (bg e'.1))→Q (.bl b) H'
theorem Zie (D:HasDef K mg "hangs" ZfZ ["H"]) (B:Blt mg) (g25_:FOk P w K mg base 3 "part_of" ["H"] Zjg) (g27_:FOk P w K mg base 3 "points_of" ["H"] Xu):FOk P w K mg base 4 "hangs" ["H"] ZfH:=by
 refine D.ok Zkk (fun vs H Q E h=>?_) (fun f cdv A outer s H vs Q E hr h=>?_)
 ·obtain ⟨v,e,es,rfl,_⟩:=h
  rfl
 ·obtain ⟨v,e,es,rfl,hV,hF,k⟩:=h
  refine ⟨_,(Zh (Zr (Za2 XE (Zk Zq rfl B.len ZV (Za (Zu g25_ hr (Za (pv 0) Ze)) Ze)) (Zk Zq rfl B.len ZV (Za (Zu g27_ hr (Za (pv 0) Ze)) Ze)) (Zy _)))),?_⟩
  refine ⟨_,rfl,v,e,es,rfl,hV,hF,fun v1 H1 ss s1 ht1 hs1 hl1 hm1=>?_⟩
  obtain ⟨q1,rfl,hq1⟩:=id ht1
  refine ⟨.ref q1,ss.length,rfl,.inr ⟨_,SqT.of hq1,by rw [List.length_map]⟩,_,rfl,v,e :: es,rfl,hV.same s1,hF,fun v2 H2 pp s2 ht2 hp2=>?_⟩
  obtain ⟨q2,rfl,hq2⟩:=id ht2
  refine ⟨.ref q2,pp.length,rfl,.inr ⟨_,SqT.of hq2,by rw [List.length_map]⟩,?_⟩
  refine ⟨rfl,k _ _ (s1.trans s2) ?_⟩
  rw [Zdm,← ZiL (Zih hs1) hm1 hp2.pts.nd hp2.pts.mem,beq_iff_eq]
  exact ⟨fun z=>by omega,fun z=>by rw [z]⟩
end
theorem Zn6 {es:Es} {p:Str × Int→Bool}:es.filter p=((List.range es.length).filter fun i=>p (es.getD i ("",0))).map fun i=>es.getD i ("",0):=by
 have e:es=(List.range es.length).map fun i=>es.getD i ("",0):=by
  apply List.ext_getElem?
  intro i
  rw [List.getElem?_map]
  by_cases hi:i < es.length
  ·rw [List.getElem?_range hi,Option.map_some,List.getD_eq_getElem?_getD,List.getElem?_eq_getElem hi]
   rfl
  ·rw [List.getElem?_eq_none (by omega),List.getElem?_eq_none (by simp; omega)]
   rfl
 conv=>lhs; rw [e]
 rw [List.filter_map]
 rfl
theorem ZiD {vs:List V} {es:Es} {p:Str × Int→Bool} {n:Nat} (hn:n=es.length) (hl:vs.length=((List.range n).filter fun i=>p (es.getD i ("",0))).length)
  (hR:∀ (j i:Nat) (v:V),((List.range n).filter fun i=>p (es.getD i ("",0)))[j]?=some i→vs[j]?=some v→v = .int (es.getD i ("",0)).2):vs=((es.filter p).map fun e=>e.2).map V.int:=by
 subst hn
 rw [Zn6]
 apply List.ext_getElem?
 intro j
 rw [List.getElem?_map,List.getElem?_map,List.getElem?_map]
 cases hj:((List.range es.length).filter fun i=>p (es.getD i ("",0)))[j]? with
 | none =>
  rw [List.getElem?_eq_none (by rw [hl]; exact List.getElem?_eq_none_iff.mp hj)]
  rfl
 | some i =>
  have hjv:j < vs.length:=by rw [hl]; exact (List.getElem?_eq_some_iff.mp hj).1
  rw [List.getElem?_eq_getElem hjv,hR j i vs[j] hj (List.getElem?_eq_getElem hjv)]
  rfl
theorem Zfu:∀ l:List Int,(∀ x∈l,0≤x∧x≤1000)→0≤l.sum∧l.sum≤1000 * l.length
 | [],_=>⟨Int.le_refl _,Int.le_refl _⟩
 | x :: l,h=>by
  have h1:=Zfu l fun y hy=>h y (List.mem_cons_of_mem _ hy)
  have h2:=h x (List.mem_cons_self ..)
  rw [List.sum_cons,List.length_cons]
  omega
theorem Ziv {es:Es} (hF:X9 es) (p:Str × Int→Bool):(∀ x∈(es.filter p).map fun e=>e.2,InLong x)∧∀ k,InLong (((es.filter p).map fun e=>e.2).take k).sum:=by
 have hb:∀ x∈(es.filter p).map fun e=>e.2,0≤x∧x≤1000:=fun x hx=>by
  obtain ⟨e,he,rfl⟩:=List.mem_map.mp hx
  exact hF.many e (List.mem_filter.mp he).1
 refine ⟨fun x hx=>?_,fun k=>?_⟩
 ·have:=hb x hx
  unfold InLong
  omega
 ·have h1:=Zfu _ fun x hx=>hb x (List.mem_of_mem_take hx (i:=k))
  have h2:(((es.filter p).map fun e=>e.2).take k).length≤64:=by
   rw [List.length_take,List.length_map]
   have:=List.length_filter_le p es
   have:=hF.few
   omega
  unfold InLong
  omega
def Zaw (es:Es) (y:Str):Int:=((es.filter fun e=>decide (bg e.1=y)).map fun e=>e.2).sum
theorem dec_str {x y:Str}:decide (V.str x=V.str y)=decide (x=y):=by
 rw [Bool.eq_iff_iff]
 simp
section
variable {P:Program} {w:World} {K:PySem.W.Frag} {mg:Str→Option Value} {base:Heap}
abbrev ZaR:Stmt:=top 4
abbrev ZgB:List Str:=["H","P"]
theorem ZhV:Zo ZgB ["H","P"] (Zg ZaR):=⟨rfl,rfl,rfl,by decide +kernel,rfl,by decide +kernel,by decide +kernel⟩
def Zjh:Sp:=fun vs H Q _=>∃ (v:V) (es:Es) (y:Str),vs=[v,.str y]∧HeapV H v es∧X9 es∧∀ H',Same H H'→Q (.int (Zaw es y)) H'
theorem ZeI (D:HasDef K mg "outs_of" ZaR ["H","P"]) (B:Blt mg) (g11_:FOk P w K mg base 1 "begin_of" ["piece"] ZcK):FOk P w K mg base 2 "outs_of" ["H","P"] Zjh:=by
 refine D.ok ZhV (fun vs H Q E h=>?_) (fun f cdv A outer s H vs Q E hr h=>?_)
 ·obtain ⟨v,es,y,rfl,_⟩:=h
  rfl
 ·obtain ⟨v,es,y,rfl,⟨q,vs,rfl,hq,hpa⟩,hF,k⟩:=h
  refine ⟨_,(Zh (Zr (Zk (Zcp rfl) rfl B.sum Zli (Za (ZL (Zg ZaR) ZgB ["piece","many"] [1] rfl (YK (pv 0)) (fun _ _ _ _ _=>Yb 2 K rfl (Zw (Yc 0) (Zw (Yc 1) Ya))) (fun _ _ _ _ _=>ZcV (Zt XE (Zu g11_ hr (Za (pv 0) Ze)) (pv 2) (Zy _))) (fun _ _ _ _ _=>(pv 1))) Ze)))),?_⟩
  have hfew:=hF.few
  have hvl:=hpa.1
  refine ⟨_,rfl,q,rfl,⟨_,SqT.of hq⟩,Zdc vs.length (fun i=>vs.getD i .non) (fun i=>(fun e:Str × Int=>decide (bg e.1=y)) (es.getD i ("",0))) (fun i v _=>v = .int (es.getD i ("",0)).2) (Zl (by omega)) (fun _ _ _ _ _ r=>r) (ZaA (SqT.of hq)) ?_ ?_⟩
  ·intro i H3 Qt Qf hi hs ht hf
   have hie:i < es.length:=by omega
   obtain ⟨b,e1,e2⟩:=hpa.2 i es[i] (List.getElem?_eq_getElem hie)
   have ev:vs.getD i .non = .ref b:=by rw [List.getD_eq_getElem?_getD,e1]; rfl
   have ee:es.getD i ("",0)=es[i]:=by rw [List.getD_eq_getElem?_getD,List.getElem?_eq_getElem hie]; rfl
   obtain ⟨l1,l2⟩:=hF.long es[i] (List.getElem_mem hie)
   rw [ee] at ht hf
   rw [ev]
   refine ⟨b,_,rfl,SqT.of (hs _ _ e2),rfl,_,_,rfl,_,_,rfl,rfl,_,rfl,es[i].1,rfl,l1,l2,_,rfl,rfl,_,rfl,?_⟩
   rw [dec_str]
   by_cases c:bg es[i].1=y
   ·exact ZaC (decide_eq_true c) ⟨_,rfl,ht (decide_eq_true c) _ _ (Same.refl _) rfl⟩
   ·exact Jg (decide_eq_false c) (hf (decide_eq_false c) _ (Same.refl _))
  intro D2 vs2 H16 hl2 hR2 s16 hD2 hDl2
  rw [ZiD (p:=fun e=>decide (bg e.1=y)) hvl hl2 hR2] at hDl2
  obtain ⟨o1,o2⟩:=Ziv hF fun e=>decide (bg e.1=y)
  exact ⟨D2,_,rfl,SqL.of hDl2,o1,o2,k _ s16⟩
end
end Sh
namespace Sh
def Z0 (f:Nat→Nat):ZW:=fun r c=>(if c=r then 1 else 0) - (if c=f r then 1 else 0)
def ZcA (f:Nat→Nat) (p v:Nat):Nat→Nat:=fun r=>if r=p then v else f r
theorem JL (f:Nat→Nat) (p v:Nat):ZcA f p v p=v:=by unfold ZcA; rw [if_pos rfl]
theorem ZfO {f:Nat→Nat} {p v r:Nat} (h:r≠p):ZcA f p v r=f r:=by unfold ZcA; rw [if_neg h]
theorem ZfM (f:Nat→Nat) (p v u:Nat):ZcA (ZcA f p v) p u=ZcA f p u:=by
 funext r
 unfold ZcA
 split <;> rfl
theorem ZfN (f:Nat→Nat) (p:Nat):ZcA f p (f p)=f:=by
 funext r
 unfold ZcA
 split
 ·rename_i h; rw [h]
 ·rfl
theorem ZfL {n p:Nat} {f:Nat→Nat} (hp:p < n) (hq:f p < n) (hne:f p≠p):det n (Z0 (ZcA f p (f (f p))))=det n (Z0 f):=by
 have h:=Zho (n:=n) (f:=Z0 f) (p:=p) (q:=f p) 1 1 (fun e=>hne e.symm) hp hq
 rw [Int.one_mul] at h
 rw [← h]
 congr 1
 funext r c
 unfold Z1
 by_cases e:r=p
 ·subst e
  rw [if_pos rfl]
  unfold Z0
  rw [JL]
  omega
 ·rw [if_neg e]
  unfold Z0
  rw [ZfO e]
def itr (f:Nat→Nat):Nat→Nat→Nat
 | 0,x=>x
 | k + 1,x=>f (itr f k x)
theorem YY (f:Nat→Nat) (a:Nat):∀ (b x:Nat),itr f (a + b) x=itr f b (itr f a x)
 | 0,x=>rfl
 | b + 1,x=>by
  show f (itr f (a + b) x)=f (itr f b (itr f a x))
  rw [YY f a b x]
theorem XX {n p:Nat} {f:Nat→Nat} (hp:p < n):∀ k:Nat,(∀ j,1≤j→j≤k→itr f j p < n∧itr f j p≠p)→det n (Z0 (ZcA f p (itr f (k + 1) p)))=det n (Z0 f)
 | 0,_=>by
  show det n (Z0 (ZcA f p (f p)))=_
  rw [ZfN]
 | k + 1,h=>by
  have ih:=XX hp k fun j h1 h2=>h j h1 (by omega)
  obtain ⟨h1,h2⟩:=h (k + 1) (by omega) (Nat.le_refl _)
  rw [← ih]
  have:=ZfL (n:=n) (p:=p) (f:=ZcA f p (itr f (k + 1) p)) hp (by rw [JL]; exact h1) (by rw [JL]; exact h2)
  rw [JL,ZfO h2,ZfM] at this
  exact this
theorem Zfe {n p:Nat} {f:Nat→Nat} (hp:p < n) (e:f p=p):det n (Z0 f)=0:=by
 have h:=Zhk (n:=n) (f:=Z0 f) (p:=p) 0 hp
 rw [Int.zero_mul] at h
 rw [← h]
 congr 1
 funext r c
 unfold Z1
 by_cases q:r=p
 ·subst q
  rw [if_pos rfl]
  unfold Z0
  rw [e]
  omega
 ·rw [if_neg q]
def gof (n:Nat) (f:Nat→Nat) (x:Nat):Nat:=if x < n then f x else x
theorem Zcb {n x:Nat} {f:Nat→Nat} (h:x < n):gof n f x=f x:=if_pos h
theorem Zk6 {n x:Nat} {f:Nat→Nat} (h:¬ x < n):gof n f x=x:=if_neg h
theorem Zbg {n x:Nat} {f:Nat→Nat} (h:¬ x < n):∀ k,itr (gof n f) k x=x
 | 0=>rfl
 | k + 1=>by
  show gof n f (itr (gof n f) k x)=x
  rw [Zbg h k,Zk6 h]
theorem ZiB {n x:Nat} {f:Nat→Nat} {a b:Nat} (hab:a≤b) (h:itr (gof n f) b x < n):itr (gof n f) a x < n:=by
 false_or_by_contra
 rename_i q
 obtain ⟨c,rfl⟩:∃ c,b=a + c:=⟨b - a,by omega⟩
 rw [YY,Zbg q] at h
 exact q h
theorem Zbh {n x:Nat} {f:Nat→Nat}:∀ {k:Nat},(∀ j,j < k→itr (gof n f) j x < n)→itr (gof n f) k x=itr f k x
 | 0,_=>rfl
 | k + 1,h=>by
  have ih:=Zbh (k:=k) fun j hj=>h j (by omega)
  show gof n f (itr (gof n f) k x)=f (itr f k x)
  rw [Zcb (h k (by omega)),ih]
def Zd7 (n:Nat) (f:Nat→Nat):Prop:=∀ i,i < n→¬ itr (gof n f) n i < n
theorem ZjD {P:Nat→Prop}:∀ n,P n→∃ m,m≤n∧P m∧∀ k,k < m→¬ P k:=by
 intro n
 induction n using Nat.strongRecOn with
 | ind n ih =>
  intro p
  by_cases c:∃ k,k < n∧P k
  ·obtain ⟨k,k2,k3⟩:=c
   obtain ⟨m,m2,m3,m4⟩:=ih k k2 k3
   exact ⟨m,by omega,m3,m4⟩
  ·exact ⟨n,Nat.le_refl n,p,fun k k2 k3=>c ⟨k,k2,k3⟩⟩
theorem Zhm {n j t:Nat} {f:Nat→Nat} (ht:1≤t) (hin:∀ k,k < t→itr f k j < n) (e:itr f t j=j):det n (Z0 f)=0:=by
 obtain ⟨m,m1,⟨m0,m2⟩,m3⟩:=ZjD (P:=fun k=>1≤k∧itr f k j=j) t ⟨ht,e⟩
 have hj:j < n:=hin 0 (by omega)
 obtain ⟨k,rfl⟩:∃ k,m=k + 1:=⟨m - 1,by omega⟩
 have h:=XX (n:=n) (p:=j) (f:=f) hj k fun i h1 h2=>⟨hin i (by omega),fun q=>m3 i (by omega) ⟨h1,q⟩⟩
 rw [← h]
 exact Zfe hj (by rw [JL,m2])
theorem ZlN {n:Nat} (g:Nat→Nat) (h:∀ i,i≤n→g i < n):∃ a b,a < b∧b≤n∧g a=g b:=by
 false_or_by_contra
 rename_i no
 have nd:((List.range (n + 1)).map g).Nodup:=by
  rw [List.nodup_iff_pairwise_ne,List.pairwise_map]
  refine List.Pairwise.imp_of_mem ?_ List.pairwise_lt_range
  intro a b ha hb hab e
  have:=List.mem_range.mp hb
  exact no ⟨a,b,hab,by omega,e⟩
 have le:=Y9 (B:=List.range n) nd fun x hx=>by
  obtain ⟨i,hi,rfl⟩:=List.mem_map.mp hx
  exact List.mem_range.mpr (h i (by have:=List.mem_range.mp hi; omega))
 rw [List.length_map,List.length_range,List.length_range] at le
 omega
theorem ZeZ {n:Nat} {f:Nat→Nat} (h:¬ Zd7 n f):det n (Z0 f)=0:=by
 obtain ⟨i,hi,hn⟩:∃ i,i < n∧itr (gof n f) n i < n:=by
  false_or_by_contra
  rename_i no
  exact h fun i hi q=>no ⟨i,hi,q⟩
 have hall:∀ k,k≤n→itr (gof n f) k i < n:=fun k hk=>ZiB hk hn
 obtain ⟨a,b,hab,hb,e⟩:=ZlN (fun k=>itr (gof n f) k i) hall
 have sm:∀ k,k≤n→itr (gof n f) k i=itr f k i:=fun k hk=>Zbh fun j hj=>hall j (by omega)
 rw [sm a (by omega),sm b hb] at e
 refine Zhm (n:=n) (f:=f) (j:=itr f a i) (t:=b - a) (by omega) (fun k hk=>?_) ?_
 ·rw [← YY,← sm (a + k) (by omega)]
  exact hall _ (by omega)
 ·rw [← YY,show a + (b - a)=b by omega,e]
def Ze5 (n p:Nat) (f:Nat→Nat):Nat→Nat:=fun i=>if i < p then n else f i
theorem Zcn {n p:Nat} {f:Nat→Nat}:∀ (m x:Nat),¬ itr (gof n f) m x < n→∃ m',¬ itr (gof n (Ze5 n p f)) m' x < n
 | 0,x,h=>⟨0,h⟩
 | m + 1,x,h=>by
  by_cases c:x < n
  ·by_cases q:x < p
   ·refine ⟨1,?_⟩
    show ¬ gof n (Ze5 n p f) x < n
    rw [Zcb c]
    unfold Ze5
    rw [if_pos q]
    exact Nat.lt_irrefl n
   ·rw [show m + 1=1 + m by omega,YY] at h
    obtain ⟨m',hm⟩:=Zcn m _ h
    refine ⟨1 + m',?_⟩
    rw [YY]
    have e:itr (gof n (Ze5 n p f)) 1 x=itr (gof n f) 1 x:=by
     show gof n (Ze5 n p f) x=gof n f x
     rw [Zcb c,Zcb c]
     unfold Ze5
     rw [if_neg q]
    rw [e]
    exact hm
  ·exact ⟨0,c⟩
theorem Zhj {n p:Nat} {f:Nat→Nat} (hp:p < n) {m:Nat} (hm:¬ itr (gof n f) m p < n) (hr:∀ i,i < n→f i≤n):det n (Z0 (ZcA f p n))=det n (Z0 f):=by
 obtain ⟨t,_,t2,t3⟩:=ZjD (P:=fun k=>¬ itr (gof n f) k p < n) m hm
 have t0:t≠0:=fun q=>t2 (by rw [q]; exact hp)
 obtain ⟨k,rfl⟩:∃ k,t=k + 1:=⟨t - 1,by omega⟩
 have hin:∀ j,j < k + 1→itr (gof n f) j p < n:=fun j hj=>by
  false_or_by_contra
  rename_i q
  exact t3 j hj q
 have sm:∀ j,j≤k + 1→itr (gof n f) j p=itr f j p:=fun j hj=>Zbh fun i hi=>hin i (by omega)
 have h:=XX (n:=n) (p:=p) (f:=f) hp k fun j h1 h2=>⟨by rw [← sm j (by omega)]; exact hin j (by omega),fun q=>?_⟩
 ·have hout:itr f (k + 1) p=n:=by
   have h1:¬ itr f (k + 1) p < n:=by rw [← sm (k + 1) (Nat.le_refl _)]; exact t2
   have h2:itr f (k + 1) p≤n:=hr _ (by rw [← sm k (by omega)]; exact hin k (by omega))
   omega
  rw [hout] at h
  exact h
 ·have q':itr (gof n f) j p=p:=by rw [sm j (by omega)]; exact q
  have:∀ c,itr (gof n f) (c * j) p=p:=fun c=>by
   induction c with
   | zero=>rw [Nat.zero_mul]; rfl
   | succ c ih=>rw [Nat.succ_mul,YY,ih,q']
  have h3:=this (k + 1)
  have h4:itr (gof n f) ((k + 1) * j) p=itr (gof n f) (k + 1) p:=by
   have hle:k + 1≤(k + 1) * j:=Nat.le_mul_of_pos_right _ (by omega)
   rw [show (k + 1) * j=(k + 1) + ((k + 1) * j - (k + 1)) by omega,YY,Zbg t2]
  rw [h3] at h4
  exact t2 (by rw [← h4]; exact hp)
theorem Zhl {n:Nat} {f:Nat→Nat} (hr:∀ i,i < n→f i≤n) (h:Zd7 n f):det n (Z0 f)=1:=by
 have key:∀ p,p≤n→det n (Z0 (Ze5 n p f))=det n (Z0 f):=by
  intro p
  induction p with
  | zero =>
   intro _
   congr 2
  | succ p ih =>
   intro hp
   rw [← ih (by omega)]
   obtain ⟨m,hm⟩:=Zcn (p:=p) n p (h p (by omega))
   have:=Zhj (n:=n) (p:=p) (f:=Ze5 n p f) (by omega) hm fun i hi=>by
    unfold Ze5
    split
    ·exact Nat.le_refl _
    ·exact hr i hi
   rw [← this]
   congr 2
   funext i
   unfold Ze5 ZcA
   by_cases e:i=p
   ·subst e
    rw [if_pos (by omega),if_pos rfl]
   ·rw [if_neg e]
    by_cases q:i < p
    ·rw [if_pos (by omega)]
     exact (if_pos q).symm
    ·rw [if_neg (by omega)]
     exact (if_neg q).symm
 rw [← key n (Nat.le_refl n)]
 have e1:det n (Z0 (Ze5 n n f))=det n fun r c=>if c=r then 1 else 0:=Z8 fun r hr c hc=>by
  unfold Z0 Ze5
  rw [if_pos hr,if_neg (Nat.ne_of_lt hc)]
  omega
 rw [e1,Zck fun k j hj=>by rw [if_neg (by omega)]]
 have:(Xl n fun i=>if i=i then (1:Int) else 0)=Xl n fun _=>1:=JR fun i _=>if_pos rfl
 rw [this,ZbP]
abbrev Tie:=Nat × Int
def Zkm (n r:Nat) (ts:List Tie):Nat→Int:=fun c=>(ts.map fun t=>t.2 * ((if c=r then 1 else 0) - (if c=t.1 then 1 else 0))).sum
def Xd (n:Nat) (T:Nat→List Tie) (ch:List Nat):ZW:=fun r=>if r < ch.length then Z0 (fun i=>ch.getD i n) r else Zkm n r (T r)
noncomputable def ZD (n:Nat) (T:Nat→List Tie):Nat→List Nat→Int
 | 0,ch=>by
  classical
  exact if Zd7 n (fun i=>ch.getD i n) then 1 else 0
 | k + 1,ch=>((T ch.length).map fun t=>t.2 * ZD n T k (ch ++ [t.1])).sum
theorem Zbp {n:Nat} (F:ZW) {p:Nat} (hp:p < n) (u:Nat→Nat→Int):∀ ts:List Tie,det n (Z1 F p fun c=>(ts.map fun t=>t.2 * u t.1 c).sum)=(ts.map fun t=>t.2 * det n (Z1 F p (u t.1))).sum
 | []=>by
  rw [List.map_nil,List.sum_nil]
  have h:=Zhk (n:=n) (f:=Z1 F p fun _=>0) (p:=p) 0 hp
  rw [Int.zero_mul] at h
  rw [← h,ZfQ]
  congr 1
  congr 1
  funext c
  rw [Int.zero_mul]
  rfl
 | t :: ts=>by
  rw [List.map_cons,List.sum_cons,← Zbp F hp u ts]
  have h:=Y1 F (p:=p) t.2 1 (u t.1) (fun c=>(ts.map fun t=>t.2 * u t.1 c).sum) hp
  rw [Int.one_mul] at h
  rw [← h]
  congr 2
  funext c
  rw [List.map_cons,List.sum_cons,Int.one_mul]
theorem YR {n:Nat} {T:Nat→List Tie} (hT:∀ r t,t∈T r→t.1≤n):∀ (k:Nat) (ch:List Nat),ch.length + k=n→(∀ x∈ch,x≤n)→ZD n T k ch=det n (Xd n T ch)
 | 0,ch,hl,hc=>by
  have e:det n (Xd n T ch)=det n (Z0 fun i=>ch.getD i n):=Z8 fun r hr c _=>by
   unfold Xd
   rw [if_pos (by omega)]
  rw [e]
  have hle:∀ i,i < n→ch.getD i n≤n:=fun i hi=>by
   rw [List.getD_eq_getElem?_getD,List.getElem?_eq_getElem (by omega)]
   exact hc _ (List.getElem_mem _)
  unfold ZD
  by_cases q:Zd7 n fun i=>ch.getD i n
  ·rw [if_pos q,Zhl hle q]
  ·rw [if_neg q,ZeZ q]
 | k + 1,ch,hl,hc=>by
  have hp:ch.length < n:=by omega
  unfold ZD
  have ih:∀ t∈T ch.length,ZD n T k (ch ++ [t.1])=det n (Xd n T (ch ++ [t.1])):=fun t ht=>YR hT k _ (by rw [List.length_append,List.length_singleton]; omega) fun x hx=>by
   rcases List.mem_append.mp hx with q | q
   ·exact hc x q
   ·rw [List.mem_singleton.mp q]
    exact hT _ _ ht
  have e1:((T ch.length).map fun t=>t.2 * ZD n T k (ch ++ [t.1])).sum=((T ch.length).map fun t=>t.2 * det n (Z1 (Xd n T ch) ch.length fun c=>(if c=ch.length then 1 else 0) - (if c=t.1 then 1 else 0))).sum:=by
   congr 1
   refine List.map_congr_left fun t ht=>?_
   rw [ih t ht]
   congr 2
   funext r c
   have hlen:(ch ++ [t.1]).length=ch.length + 1:=by rw [List.length_append,List.length_singleton]
   have hlast:(ch ++ [t.1]).getD ch.length n=t.1:=by
    rw [List.getD_eq_getElem?_getD,List.getElem?_append_right (Nat.le_refl _),Nat.sub_self]
    rfl
   have unit_cg:∀ {f g:Nat→Nat} {r:Nat},f r=g r→Z0 f r c=Z0 g r c:=fun {f g r} e=>by
    unfold Z0
    rw [e]
   by_cases e:r=ch.length
   ·subst e
    have h1:Xd n T (ch ++ [t.1]) ch.length=Z0 (fun i=>(ch ++ [t.1]).getD i n) ch.length:=if_pos (by rw [hlen]; omega)
    have h2:Z1 (Xd n T ch) ch.length (fun c=>(if c=ch.length then 1 else 0) - (if c=t.1 then 1 else 0)) ch.length=fun c=>(if c=ch.length then 1 else 0) - (if c=t.1 then 1 else 0):=Z5
    rw [h1,h2]
    exact unit_cg (g:=fun _=>t.1) hlast
   ·have h2:Z1 (Xd n T ch) ch.length (fun c=>(if c=ch.length then 1 else 0) - (if c=t.1 then 1 else 0)) r=Xd n T ch r:=Yl e
    rw [h2]
    by_cases q:r < ch.length
    ·have h1:Xd n T (ch ++ [t.1]) r=Z0 (fun i=>(ch ++ [t.1]).getD i n) r:=if_pos (by rw [hlen]; omega)
     have h3:Xd n T ch r=Z0 (fun i=>ch.getD i n) r:=if_pos q
     rw [h1,h3]
     refine unit_cg ?_
     show (ch ++ [t.1]).getD r n=ch.getD r n
     rw [List.getD_eq_getElem?_getD,List.getD_eq_getElem?_getD,List.getElem?_append_left q]
    ·have h1:Xd n T (ch ++ [t.1]) r=Zkm n r (T r):=if_neg (by rw [hlen]; omega)
     have h3:Xd n T ch r=Zkm n r (T r):=if_neg q
     rw [h1,h3]
  rw [e1,← Zbp (Xd n T ch) hp (fun v c=>(if c=ch.length then 1 else 0) - (if c=v then 1 else 0))]
  congr 1
  have:(fun c=>((T ch.length).map fun t=>t.2 * ((if c=ch.length then (1:Int) else 0) - (if c=t.1 then 1 else 0))).sum)=Xd n T ch ch.length:=by
   unfold Xd
   rw [if_neg (Nat.lt_irrefl _)]
   rfl
  rw [this,Yk]
end Sh
namespace L2
open PySem PySem.Spec PyProof.Rows
theorem Zcc {X:Cx}:ZnJ X (fun o i H Q=>∃ p xs,∃ k:Nat,∃ z,o = .ref p∧i = .int k∧H p=some (.lst xs)∧xs[k]?=some z∧Q z H):=by
 intro pins s σ H o i ov iv Q I ro ri h
 obtain ⟨p,xs,k,z,rfl,rfl,hp,hz,q⟩:=h
 cases ro
 obtain ⟨t,rfl⟩:=ri
 obtain ⟨its,n,r,ho,hl⟩:=I.lst hp
 obtain ⟨w,ew,rw'⟩:=r.get hz
 have hlen:=r.length
 have hn:=JX
 have hk:=(List.getElem?_eq_some_iff.mp hz).1
 exact wpAny_getItem_list ⟨_,ho,rfl,n,rfl⟩ (by omega) (by omega) (by simpa using ew) ⟨z,H,I,rw',q⟩
end L2
namespace Sh
open PySem L2 PyProof.Rows
seal L2.PE L2.PS L2.PSs L2.PT L2.PW L2.PA L2.PI L2.PG L2.PGs L2.PO L2.PC L2.PCs L2.OpR L2.UnR L2.CallR L2.MtR L2.IxR L2.SlR
def othL (ss:List Str) (r:Str):List Str:=ss.filter fun x=>decide (x≠r)
def ixD (os:List Str):List (Key × V):=gD os fun x=>(os.idxOf x:Int)
theorem Zk1 {os:List Str} {x:Str} (h:x∉os):XC (ixD os) (Sum.inr x) (.int (os.length:Int))=ixD (os ++ [x]):=by
 unfold ixD
 rw [Zha,if_neg h]
 refine Zel fun y hy=>?_
 by_cases e:y=x
 ·rw [if_pos e,e,List.idxOf_append,if_neg h]
  simp
 ·rw [if_neg e]
  rcases List.mem_append.mp hy with q | q
  ·rw [List.idxOf_append,if_pos q]
  ·exact absurd (List.mem_singleton.mp q) e
theorem ZjM (os:List Str) (x:Str):XR (ixD os) (Sum.inr x)=if x∈os then some (.int (os.idxOf x:Int)) else none:=Zg9 _ _ _
def ZT (os:List Str) (es:Es) (r:Nat):List Tie:=(es.filter fun e=>decide (os.idxOf (bg e.1)=r)).map fun e=>(os.idxOf (en e.1),e.2)
def Ja (os:List Str) (es:Es):ZW:=fun r=>Zkm os.length r (ZT os es r)
def Zag (n:Nat) (f:Nat→Int):List Int:=(List.range n).map f
theorem Y7 (n:Nat) (f:Nat→Int):(Zag n f).length=n:=by unfold Zag; simp
theorem Y8 {n:Nat} {f:Nat→Int} {j:Nat} (h:j < n):((Zag n f).map V.int)[j]?=some (V.int (f j)):=by
 unfold Zag
 rw [List.getElem?_map,List.getElem?_map,List.getElem?_range h]
 rfl
theorem ZdM {n:Nat} {f:Nat→Int} {j:Nat} (m:Int):((Zag n f).map V.int).set j (V.int (f j + m))=(Zag n fun c=>f c + if c=j then m else 0).map V.int:=by
 apply List.ext_getElem?
 intro i
 rw [List.getElem?_set]
 by_cases h:i < n
 ·by_cases e:j=i
  ·subst e
   rw [if_pos rfl,if_pos (by rw [List.length_map,Y7]; exact h),Y8 h,if_pos rfl]
  ·rw [if_neg e,Y8 h,Y8 h,if_neg (Ne.symm e),Int.add_zero]
 ·have h1:∀ g:Nat→Int,((Zag n g).map V.int)[i]?=none:=fun g=>List.getElem?_eq_none (by rw [List.length_map,Y7]; omega)
  rw [h1,h1]
  split
  ·rw [if_neg (by rw [List.length_map,Y7]; omega)]
  ·rfl
theorem Jq (os:List Str) (es:Es) (e:Str × Int) (r c:Nat):Ja os (es ++ [e]) r c=Ja os es r c + if r=os.idxOf (bg e.1) then e.2 * ((if c=r then 1 else 0) - (if c=os.idxOf (en e.1) then 1 else 0)) else 0:=by
 unfold Ja Zkm ZT
 rw [List.filter_append,List.map_append,List.map_append,List.sum_append]
 congr 1
 by_cases h:os.idxOf (bg e.1)=r
 ·rw [if_pos h.symm]
  simp [h]
 ·rw [if_neg (Ne.symm h)]
  simp [h]
section
variable {P:Program} {w:World} {K:PySem.W.Frag} {mg:Str→Option Value} {base:Heap}
abbrev Xk:Stmt:=top 20
abbrev Zc6:List Str:=["H","root","numbers","point"]
theorem scRowNumbers:Zo Zc6 ["H","root"] (Zg Xk):=⟨rfl,rfl,rfl,by decide +kernel,rfl,by decide +kernel,by decide +kernel⟩
def Zjf:Sp:=fun vs H Q _=>∃ (v:V) (es:Es) (r:Str),vs=[v,.str r]∧HeapV H v es∧X9 es∧∀ d H' ss,Same H H'→SPts es ss→H' d=some (.dK (ixD (othL ss r)))→Q (.ref d) H'
theorem Zai (D:HasDef K mg "row_numbers" Xk ["H","root"]) (B:Blt mg) (g27_:FOk P w K mg base 2 "points_of" ["H"] Xu):FOk P w K mg base 3 "row_numbers" ["H","root"] Zjf:=by
 refine D.ok scRowNumbers (fun vs H Q E h=>?_) (fun f cdv A outer s H vs Q E hr h=>?_)
 ·obtain ⟨v,es,r,rfl,_⟩:=h
  rfl
 ·obtain ⟨v,es,r,rfl,hV,hF,k⟩:=h
  have hu:=ZeT hr
  refine ⟨_,(Zd (Zm (i:=2) scRowNumbers.nd rfl (.inl rfl) Jz)
   (Zd (Z3 PassesOwn.never rfl (YK (Zu g27_ hr (Za (pv 0) Ze))) (Zz (i:=3) scRowNumbers.nd rfl (.inl rfl))
    (Zh (Ye (Zt Zgp (pv 3) (pv 1) (Zy _)) (Zh (JQ hu (pv 2) (pv 3) (Zk Zhy rfl B.len ZV (Za (pv 2) Ze)) rfl)) ZA)))
   (Zh (Zr (pv 2))))),?_⟩
  intro d hd
  have s0:=Zb (o:=.dK []) hd
  have hd0:(upd H d (.dK [])) d=some (.dK []):=Zc
  generalize upd H d (.dK [])=H0 at s0 hd0
  refine ⟨_,rfl,v,es,rfl,hV.same s0,hF,fun v' H1 ss s1 hT hS=>?_⟩
  obtain ⟨q,rfl,hq⟩:=hT
  have hd1:=s1 _ _ hd0
  have hnd:=hS.pts.nd
  have hsl:=hS.pts.len
  have hfew:=hF.few
  refine ⟨q,rfl,⟨_,SqT.of hq⟩,X8 (K:=K) (a:=q) (xs:=ss.map V.str) (fun i σ H2=>(∃ z3:Option V,σ=[some v,some (.str r),some (.ref d),z3])∧Same H H2∧H2 q=some (.tup (ss.map V.str))∧H2 d=some (.dK (ixD (othL (ss.take i) r))))
   ⟨⟨none,rfl⟩,s0.trans s1,hq,hd1⟩ (fun i σ H2 _ ⟨_,_,hq2,_⟩=>SqT.of hq2) ?_ ?_⟩
  ·rintro i x σ H2 hi ⟨⟨z3,rfl⟩,s2,hq2,hd2⟩
   have hi':i < ss.length:=by
    have:=(List.getElem?_eq_some_iff.mp hi).1
    rw [List.length_map] at this
    exact this
   have ex:x=V.str ss[i]:=by
    rw [List.getElem?_map,List.getElem?_eq_getElem hi'] at hi
    exact (Option.some.inj hi).symm
   subst ex
   have etk:ss.take (i + 1)=ss.take i ++ [ss[i]]:=List.take_succ_eq_append_getElem hi'
   refine ⟨_,rfl,_,rfl,rfl,_,rfl,?_⟩
   by_cases c:ss[i]=r
   ·refine Jg (by rw [c]; simp) ⟨⟨_,rfl⟩,s2,hq2,?_⟩
    rw [hd2,etk]
    unfold othL
    rw [List.filter_append]
    simp [c]
   ·refine ZaC (by simp [c]) ?_
    have hnin:ss[i]∉othL (ss.take i) r:=fun q=>by
     unfold othL at q
     have h1:=(List.mem_filter.mp q).1
     have h2:(ss.take (i + 1)).Nodup:=hnd.sublist (List.take_sublist _ _)
     rw [etk,List.nodup_append] at h2
     exact h2.2.2 _ h1 _ (List.mem_singleton.mpr rfl) rfl
    refine ⟨_,rfl,d,_,rfl,hd2,_,rfl,_,rfl,d,_,rfl,DPut.k (k:=Sum.inr ss[i]) hd2 ?_,?_⟩
    ·unfold ixD
     rw [Zcd]
     have:(othL (ss.take i) r).length≤(ss.take i).length:=List.length_filter_le _ _
     rw [List.length_take] at this
     exact Nat.lt_of_lt_of_le (show (othL (ss.take i) r).length < 1002 by omega) (ZK (by decide))
    refine ⟨⟨_,rfl⟩,fun b o e=>?_,?_,?_⟩
    ·rw [Zi (Zj e hd)]
     exact s2 b o e
    ·rw [Zi fun z=>by rw [z,hd2] at hq2; cases hq2]
     exact hq2
    ·rw [Zc]
     unfold ixD
     rw [Zcd]
     have:=Zk1 hnin
     unfold ixD at this
     rw [this,etk]
     unfold othL
     rw [List.filter_append]
     simp [c]
  ·rintro σ H2 ⟨⟨z3,rfl⟩,s2,hq2,hd2⟩
   rw [List.length_map,List.take_of_length_le (Nat.le_refl _)] at hd2
   exact ⟨_,rfl,k d H2 ss s2 hS hd2⟩
end
end Sh
namespace L2
open PySem PySem.Spec PyProof.Rows
theorem Zhx {X:Cx}:CallR X (.builtin "len") (fun xs H Q=>∃ a kvs,xs=[V.ref a]∧Rd H a (.dK kvs)∧Q (.int kvs.length) H):=by
 intro pins s σ H xs us Q I r h
 obtain ⟨a,kvs,rfl,ha,q⟩:=h
 obtain ⟨u,rfl,ru⟩:=Xg r
 cases ru
 exact ZmB I ha fun t s' I'=>⟨.int kvs.length,H,I',⟨t,rfl⟩,q⟩
end L2
namespace Sh
open PySem L2 PyProof.Rows
seal L2.PE L2.PS L2.PSs L2.PT L2.PW L2.PA L2.PI L2.PG L2.PGs L2.PO L2.PC L2.PCs L2.OpR L2.UnR L2.CallR L2.MtR L2.IxR L2.SlR
def Zfn (os:List Str) (es:Es):Mat:=(List.range os.length).map fun r=>Zag os.length (Ja os es r)
theorem ZdD {os:List Str} {es:Es} {r:Nat} (h:r < os.length):(Zfn os es).getD r []=Zag os.length (Ja os es r):=by
 unfold Zfn
 rw [List.getD_eq_getElem?_getD,List.getElem?_map,List.getElem?_range h]
 rfl
structure RowsI (H:Hp) (pr:Addr) (as:List Addr) (os:List Str) (es:Es):Prop where
 tab:H pr=some (.lst (as.map V.ref))
 len:as.length=os.length
 nd:as.Nodup
 row:∀ r a,as[r]?=some a→a≠pr∧H a=some (.lst ((Zag os.length (Ja os es r)).map V.int))
theorem ZiS (n:Nat) (x:V):(List.replicate n [x]).flatten=List.replicate n x:=by
 induction n with
 | zero=>rfl
 | succ n ih=>rw [List.replicate_succ,List.flatten_cons,ih,List.replicate_succ]; rfl
theorem Ze7 (os:List Str) (r:Nat):List.replicate os.length (V.int 0)=(Zag os.length (Ja os [] r)).map V.int:=by
 apply List.ext_getElem?
 intro i
 rw [List.getElem?_replicate]
 by_cases h:i < os.length
 ·rw [if_pos h,Y8 h]
  rfl
 ·rw [if_neg h,List.getElem?_eq_none (by rw [List.length_map,Y7]; omega)]
theorem ZmL (x m:Int) (p q:Prop) [Decidable p] [Decidable q]:x + (if p then m else 0) + (if q then -m else 0)=x + m * ((if p then 1 else 0) - (if q then 1 else 0)):=by
 by_cases hp:p <;> by_cases hq:q <;> simp [hp,hq] <;> omega
theorem Zb9 {n j:Nat} (h:j < n):ixN n (j:Int)=some j:=by
 unfold ixN
 rw [if_pos (by omega),if_pos (by omega)]
 rfl
theorem ZcR {n:Nat} {f g:Nat→Int} (h:∀ c,c < n→f c=g c):Zag n f=Zag n g:=List.map_congr_left fun c hc=>h c (List.mem_range.mp hc)
theorem RowsI.upd {H:Hp} {pr a:Addr} {as:List Addr} {os:List Str} {es es':Es} {r0:Nat} {f:Nat→Int} (h:RowsI H pr as os es) (ha:as[r0]?=some a) (hf:∀ c,c < os.length→f c=Ja os es' r0 c) (ho:∀ r,r < os.length→r≠r0→∀ c,c < os.length→Ja os es r c=Ja os es' r c) :
  RowsI (upd H a (.lst ((Zag os.length f).map V.int))) pr as os es':=by
 have hr0:=(List.getElem?_eq_some_iff.mp ha).1
 refine ⟨?_,h.len,h.nd,fun r b e=>?_⟩
 ·rw [Zi (Ne.symm (h.row r0 a ha).1)]
  exact h.tab
 ·obtain ⟨e1,e2⟩:=h.row r b e
  refine ⟨e1,?_⟩
  have hr:=(List.getElem?_eq_some_iff.mp e).1
  by_cases c:r=r0
  ·subst c
   rw [e] at ha
   cases ha
   rw [Zc,ZcR hf]
  ·have hne:b≠a:=fun q=>by
    subst q
    have x1:=(List.getElem?_eq_some_iff.mp e).2
    have x2:=(List.getElem?_eq_some_iff.mp ha).2
    exact c ((List.getElem_inj h.nd).mp (x1.trans x2.symm))
   rw [Zi hne,e2,ZcR (ho r (by rw [← h.len]; exact hr) c)]
theorem RowsI.on {H H':Hp} {pr:Addr} {as:List Addr} {os:List Str} {es es':Es} (h:RowsI H pr as os es) (s:Same H H') (ho:∀ r,r < os.length→∀ c,c < os.length→Ja os es r c=Ja os es' r c):RowsI H' pr as os es' :=
 ⟨s _ _ h.tab,h.len,h.nd,fun r a e=>by
  obtain ⟨e1,e2⟩:=h.row r a e
  have hr:=(List.getElem?_eq_some_iff.mp e).1
  refine ⟨e1,s _ _ ?_⟩
  rw [e2,ZcR (ho r (by rw [← h.len]; exact hr))]⟩
section
variable {P:Program} {w:World} {K:PySem.W.Frag} {mg:Str→Option Value} {base:Heap}
abbrev Yv:Stmt:=top 21
abbrev X4:List Str:=["H","root","numbers","rows","piece","many","here","there"]
theorem scTreeTable:Zo X4 ["H","root"] (Zg Yv):=⟨rfl,rfl,rfl,by decide +kernel,rfl,by decide +kernel,by decide +kernel⟩
def ZfA:Sp:=fun vs H Q _=>∃ (v:V) (es:Es) (r:Str),vs=[v,.str r]∧HeapV H v es∧X9 es∧∀ t H' ts ss,Same H H'→SPts es ss→H' t=some (.tup (ts.map V.ref))→RowsT H' ts (Zfn (othL ss r) es)→Q (.ref t) H'
theorem Za5 (D:HasDef K mg "tree_table" Yv ["H","root"]) (B:Blt mg) (g28_:FOk P w K mg base 3 "row_numbers" ["H","root"] Zjf) (g11_:FOk P w K mg base 3 "begin_of" ["piece"] ZcK) (g15_:FOk P w K mg base 3 "end_of" ["piece"] ZfI):FOk P w K mg base 4 "tree_table" ["H","root"] ZfA:=by
 refine D.ok scTreeTable (fun vs H Q E h=>?_) (fun f cdv A outer s H vs Q E hr h=>?_)
 ·obtain ⟨v,es,r,rfl,_⟩:=h
  rfl
 ·obtain ⟨v,es,r,rfl,hV,hF,k⟩:=h
  have hu:=ZeT hr
  refine ⟨_,(Zd (Zm (i:=2) scTreeTable.nd rfl (.inr rfl) (Zu g28_ hr (Za (pv 0) (Za (pv 1) Ze))))
   (Zd (ZlK (XD (i:=3) (Zg Yv) X4 ["point"] [2] scTreeTable.nd rfl (.inl rfl) rfl (Zkw (pv 2)) (fun _ _ _ _ _=>Yc 0) (fun _ _ _ _ _=>ZP) (fun _ _ _ _ _=>(Zn ZlW (Yn (Za Zf Ze)) (Zk Zhx rfl B.len ZV (Za (pv 1) Ze))))))
   (Zd (Z3 PassesOwn.never rfl (YK (pv 0)) (Yb 2 K rfl (Zw (Zz (i:=4) scTreeTable.nd rfl (.inl rfl)) (Zw (Zz (i:=5) scTreeTable.nd rfl (.inl rfl)) Ya)))
    (Zd (Zm (i:=6) scTreeTable.nd rfl (.inl rfl) (ZdZ hu (pv 2) (Zu g11_ hr (Za (pv 4) Ze)) ⟨rfl,rfl,rfl,rfl⟩))
   (Zd (Zm (i:=7) scTreeTable.nd rfl (.inl rfl) (ZdZ hu (pv 2) (Zu g15_ hr (Za (pv 4) Ze)) ⟨rfl,rfl,rfl,rfl⟩))
   (Zh (Ye (Zt Zgn (pv 6) ZdW (Zy _)) (Zd (Zf8 (ZR ZG (pv 3) (pv 6) (fun _ _=>rfl)) (pv 6) Zcc (pv 5) Zmt ZaP)
   (Zh (Ye (Zt Zgn (pv 7) ZdW (Zy _)) (Zh (Zf8 (ZR ZG (pv 3) (pv 6) (fun _ _=>rfl)) (pv 7) Zcc (pv 5) Zms ZaP)) ZA))) ZA)))))
   (Zh (Zr (ZE ZJ rfl B.tuple Xr (Za (ZL (Zg Yv) X4 ["row"] [] rfl (ZX (pv 3)) (fun _ _ _ _ _=>Yc 0) (fun _ _ _ _ _=>ZP) (fun _ _ _ _ _=>(ZE (Zal K) rfl B.tuple Xr (Za (pv 0) Ze)))) Ze))))))),?_⟩
  obtain ⟨q,vs,rfl,hq,hpa⟩:=hV
  have hvl:=hpa.1
  have hfew:=hF.few
  refine ⟨_,rfl,_,rfl,.ref q,es,r,rfl,⟨q,vs,rfl,hq,hpa⟩,hF,fun d H1 ss s1 hS hd1=>?_⟩
  have hol:(othL ss r).length≤128:=by
   have h1:(othL ss r).length≤ss.length:=List.length_filter_le _ _
   have h2:=hS.pts.len
   omega
  generalize hos:othL ss r=os at *
  have hkl:(ixD os).length=os.length:=Zcd _ _
  refine ⟨d,_,hd1,fun o=>⟨_,rfl,d,o,_,rfl,Zc,ZgO (ixD os).length (fun i=>((ixD os).map fun p=>kV p.1).getD i .non) (fun _=>List.replicate os.length (V.int 0)) (Zl (by omega)) (Zk0 Zc) ?_ ?_⟩⟩
  ·intro i H3 Qe hi hs kq
   refine ⟨Zia,fun p1 hp1=>?_⟩
   have s2:=Zb (o:=.lst [V.int 0]) hp1
   refine ⟨_,rfl,d,ixD os,rfl,.inr ⟨o,s2 _ _ (hs _ _ Zc)⟩,p1,_,_,rfl,rfl,Zc,by omega,by omega,?_,fun p2 hp2=>?_⟩
   ·rw [hkl]
    exact Zl (by simp; omega)
   refine kq p2 _ (s2.trans (Zb hp2)) (s2.free hp2) ?_
   rw [Zc,hkl,show ((os.length:Int)).toNat=os.length from rfl,ZiS]
  intro pr as H2 hal hnd hrow hs2 hpr hprl
  rw [hkl] at hal
  have hdf:H2 d=some (.frz o (.dK (ixD os))):=hs2 _ _ Zc
  refine ⟨hdf,?_⟩
  have npd:pr≠d:=fun z=>by rw [z,Zc] at hpr; cases hpr
  have nad:∀ (r:Nat) (a:Addr),as[r]?=some a→a≠d:=fun r a e z=>by
   have:=(hrow r a e).2.1
   rw [z,Zc] at this
   cases this
  have n1:∀ b,(upd H1 d (.frz o (.dK (ixD os)))) b=none→H1 b=none:=fun b z=>by
   by_cases e:b=d
   ·rw [e,Zc] at z
    cases z
   ·rw [Zi e] at z
    exact z
  have s3:Same H (upd H2 d (.dK (ixD os))):=fun b u e=>by
   by_cases z:b=d
   ·rw [z] at e ⊢
    rw [Zc,← hd1]
    exact s1 _ _ e
   ·rw [Zi z]
    refine hs2 _ _ ?_
    rw [Zi z]
    exact s1 _ _ e
  have hd3:(upd H2 d (.dK (ixD os))) d=some (.dK (ixD os)):=Zc
  have hR3:RowsI (upd H2 d (.dK (ixD os))) pr as os []:=by
   refine ⟨by rw [Zi npd]; exact hprl,hal,hnd,fun r a e=>⟨(hrow r a e).1,?_⟩⟩
   rw [Zi (nad r a e),(hrow r a e).2.2,Ze7 os r]
  have Npr:H pr=none:=s1.free (n1 _ hpr)
  have Nas:∀ (r:Nat) (a:Addr),as[r]?=some a→H a=none:=fun r a e=>s1.free (n1 _ (hrow r a e).2.1)
  generalize upd H2 d (.dK (ixD os))=H3 at s3 hd3 hR3
  clear hdf hrow hprl hpr hs2 n1
  refine ⟨_,rfl,q,rfl,⟨_,SqT.of (s3 _ _ hq)⟩,X8 (K:=K) (a:=q) (xs:=vs) (fun i σ H4=>(∃ z4 z5 z6 z7:Option V,σ=[some (.ref q),some (.str r),some (.ref d),some (.ref pr),z4,z5,z6,z7])∧Same H H4∧H4 d=some (.dK (ixD os))∧RowsI H4 pr as os (es.take i))
   ⟨⟨none,none,none,none,rfl⟩,s3,hd3,hR3⟩ (fun i σ H4 _ ⟨_,s4,_⟩=>SqT.of (s4 _ _ hq)) ?_ ?_⟩
  ·rintro i x σ H4 hi ⟨⟨z4,z5,z6,z7,rfl⟩,s4,hd4,hR4⟩
   have hiv:i < vs.length:=(List.getElem?_eq_some_iff.mp hi).1
   have hie:i < es.length:=by rw [← hpa.1]; exact hiv
   obtain ⟨b,e1,e2⟩:=hpa.2 i es[i] (List.getElem?_eq_getElem hie)
   rw [hi] at e1
   cases e1
   obtain ⟨l1,l2⟩:=hF.long es[i] (List.getElem_mem hie)
   have het:es.take (i + 1)=es.take i ++ [es[i]]:=List.take_succ_eq_append_getElem hie
   have e2':=s4 _ _ e2
   rw [het]
   generalize es[i]=e at *
   generalize es.take i=et at *
   refine ⟨b,_,rfl,SqT.of e2',rfl,_,_,rfl,_,_,rfl,rfl,?_⟩
   refine ⟨_,rfl,d,rfl,.inl ⟨_,.inl hd4⟩,_,rfl,e.1,rfl,l1,l2,_,DGet.k (k:=Sum.inr (bg e.1)) hd4,?_⟩
   refine ⟨_,rfl,d,rfl,.inl ⟨_,.inl hd4⟩,_,rfl,e.1,rfl,l1,l2,_,DGet.k (k:=Sum.inr (en e.1)) hd4,?_⟩
   rw [ZjM,ZjM]
   refine ⟨_,rfl,rfl,_,rfl,?_⟩
   by_cases hb:bg e.1∈os
   rotate_left
   ·rw [if_neg hb]
    refine Jg (by simp) ⟨⟨_,_,_,_,rfl⟩,s4,hd4,hR4.on (Same.refl _) fun r hr c hc=>?_⟩
    rw [Jq,if_neg (by rw [List.idxOf_eq_length hb]; omega),Int.add_zero]
   rw [if_pos hb]
   refine ZaC (by simp) ?_
   have hb0:os.idxOf (bg e.1) < os.length:=List.idxOf_lt_length_iff.mpr hb
   obtain ⟨hb1,hidx⟩:∃ n,os.idxOf (bg e.1)=n:=⟨_,rfl⟩
   rw [hidx] at hb0 ⊢
   have hba:hb1 < as.length:=by rw [hal]; exact hb0
   have ha:=List.getElem?_eq_getElem hba
   generalize as[hb1]=a at ha
   obtain ⟨nap,hrow4⟩:=hR4.row hb1 a ha
   have hatr:atI (as.map V.ref) (hb1:Int)=some (.ref a):=by
    unfold atI
    rw [List.length_map,Zb9 hba]
    show (as.map V.ref)[hb1]?=_
    rw [List.getElem?_map,ha]
    rfl
   have hlenr:∀ f:Nat→Int,((Zag os.length f).map V.int).length=os.length:=fun f=>by rw [List.length_map,Y7]
   refine ⟨_,rfl,_,rfl,pr,_,_,_,rfl,rfl,SqL.of hR4.tab,hatr,_,rfl,a,_,hb1,_,rfl,rfl,hrow4,Y8 hb0,_,rfl,_,_,rfl,rfl,a,_,_,hb1,rfl,rfl,hrow4,by rw [hlenr]; exact Zb9 hb0,?_⟩
   rw [ZdM]
   have s5:Same H (upd H4 a (.lst ((Zag os.length fun c=>Ja os et hb1 c + if c=hb1 then e.2 else 0).map V.int))):=fun c u q=>by
    rw [Zi (Zj q (Nas hb1 a ha))]
    exact s4 _ _ q
   have nda:d≠a:=fun z=>by rw [z,hrow4] at hd4; cases hd4
   have hd5:(upd H4 a (.lst ((Zag os.length fun c=>Ja os et hb1 c + if c=hb1 then e.2 else 0).map V.int))) d=some (.dK (ixD os)):=by rw [Zi nda]; exact hd4
   have hpr5:(upd H4 a (.lst ((Zag os.length fun c=>Ja os et hb1 c + if c=hb1 then e.2 else 0).map V.int))) pr=some (.lst (as.map V.ref)):=by rw [Zi (Ne.symm nap)]; exact hR4.tab
   have hoth:∀ r,r < os.length→r≠hb1→∀ c,c < os.length→Ja os et r c=Ja os (et ++ [e]) r c:=fun r _ hr c _=>by
    rw [Jq,if_neg (by rw [hidx]; exact hr),Int.add_zero]
   refine ⟨_,rfl,rfl,_,rfl,?_⟩
   by_cases ht:en e.1∈os
   rotate_left
   ·rw [if_neg ht]
    refine Jg (by simp) ⟨⟨_,_,_,_,rfl⟩,s5,hd5,hR4.upd ha (fun c hc=>?_) hoth⟩
    rw [Jq,hidx,if_pos (rfl:hb1=hb1),List.idxOf_eq_length ht,if_neg (show ¬ c=os.length by omega)]
    by_cases z:c=hb1 <;> simp [z]
   rw [if_pos ht]
   refine ZaC (by simp) ?_
   have ht0:os.idxOf (en e.1) < os.length:=List.idxOf_lt_length_iff.mpr ht
   obtain ⟨ht1,hidt⟩:∃ n,os.idxOf (en e.1)=n:=⟨_,rfl⟩
   rw [hidt] at ht0 ⊢
   have hrow5:(upd H4 a (.lst ((Zag os.length fun c=>Ja os et hb1 c + if c=hb1 then e.2 else 0).map V.int))) a=_:=Zc
   refine ⟨_,rfl,_,rfl,pr,_,_,_,rfl,rfl,SqL.of hpr5,hatr,_,rfl,a,_,ht1,_,rfl,rfl,hrow5,Y8 ht0,_,rfl,_,_,rfl,rfl,a,_,_,ht1,rfl,rfl,hrow5,by rw [hlenr]; exact Zb9 ht0,?_⟩
   dsimp only
   rw [Int.sub_eq_add_neg,ZdM,ZaI]
   refine ⟨⟨_,_,_,_,rfl⟩,fun c u q=>?_,?_,hR4.upd ha (fun c hc=>?_) hoth⟩
   ·rw [Zi (Zj q (Nas hb1 a ha))]
    exact s4 _ _ q
   ·rw [Zi nda]
    exact hd4
   ·rw [Jq,hidx,if_pos (rfl:hb1=hb1),hidt]
    exact ZmL _ _ _ _
  ·rintro σ H4 ⟨⟨z4,z5,z6,z7,rfl⟩,s4,hd4,hR4⟩
   rw [hpa.1,List.take_of_length_le (Nat.le_refl _)] at hR4
   refine ⟨_,rfl,pr,rfl,⟨_,SqL.of hR4.tab⟩,YL as.length (fun i=>(as.map V.ref).getD i .non) (fun i v H=>∃ a,v=V.ref a∧H a=some (.tup (((Zfn os es).getD i []).map V.int))) (Zl (by omega)) (fun i v H H' ts ⟨b,e,q⟩=>⟨b,e,ts _ _ q⟩) (by have:=YE (K:=K) (SqL.of hR4.tab); rw [List.length_map] at this; exact this) ?_ ?_⟩
   ·intro i H5 Qe hi hs kq
    rw [YA hi]
    have hrw:=(hR4.row i _ (List.getElem?_eq_getElem hi)).2
    rw [← ZdD (by rw [← hal]; exact hi)] at hrw
    exact ⟨_,rfl,_,_,rfl,.inl ⟨SqL.of (hs _ _ hrw),fun l hl=>kq _ _ (Zb hl) ⟨l,rfl,Zc⟩⟩⟩
   intro D1 vs1 H5 hl1 hr3 hs3 hD1 hDl1
   obtain ⟨ts,ets,hts⟩:=Zf5 vs1 _ hr3
   refine ⟨D1,vs1,rfl,.inl ⟨SqL.of hDl1,fun t ht=>?_⟩⟩
   have s6:=Zb (o:=.tup vs1) ht
   have htt:(upd H5 t (.tup vs1)) t=some (.tup (ts.map V.ref)):=by rw [Zc,ets]
   subst hos
   refine k t _ ts ss ((s4.trans hs3).trans s6) hS htt ⟨?_,fun i b e=>s6 _ _ (hts i b e)⟩
   have h1:ts.length=vs1.length:=by rw [ets,List.length_map]
   rw [h1,hl1,hal]
   unfold Zfn
   simp
end
theorem Zjc {g:Tie→Int}:∀ ts:List Tie,(∀ t∈ts,(g t).natAbs≤2000)→((ts.map g).sum).natAbs≤2000 * ts.length
 | [],_=>by simp
 | t :: ts,h=>by
  have ih:=Zjc ts fun u hu=>h u (List.mem_cons_of_mem _ hu)
  have h1:=h t List.mem_cons_self
  rw [List.map_cons,List.sum_cons,List.length_cons]
  have:=Int.natAbs_add_le (g t) ((ts.map g).sum)
  omega
theorem Zls {os:List Str} {es:Es} (hF:X9 es) (r c:Nat):Sm 120 (Ja os es r c):=by
 have h:(Ja os es r c).natAbs≤2000 * (ZT os es r).length:=by
  unfold Ja Zkm
  refine Zjc _ fun t ht=>?_
  unfold ZT at ht
  obtain ⟨e,he,rfl⟩:=List.mem_map.mp ht
  have hm:=hF.many e (List.mem_filter.mp he).1
  dsimp only
  split <;> split <;> simp <;> omega
 have hl:(ZT os es r).length≤es.length:=by
  unfold ZT
  rw [List.length_map]
  exact List.length_filter_le _ _
 have hf:=hF.few
 have:(Ja os es r c).natAbs≤128000:=by omega
 exact Nat.lt_of_le_of_lt this (by decide)
theorem Zj7 (os:List Str) (es:Es):det os.length (ZjC (Zfn os es))=ZD os.length (ZT os es) os.length []:=by
 rw [YR (T:=ZT os es) (fun r t ht=>?_) os.length [] (by simp) (fun x hx=>by cases hx)]
 ·refine Z8 fun r hr c hc=>?_
  unfold ZjC
  rw [ZdD hr]
  unfold Zag
  rw [List.getD_eq_getElem?_getD,List.getElem?_map,List.getElem?_range hc]
  rfl
 ·unfold ZT at ht
  obtain ⟨e,_,rfl⟩:=List.mem_map.mp ht
  exact List.idxOf_le_length
section
variable {P:Program} {w:World} {K:PySem.W.Frag} {mg:Str→Option Value} {base:Heap}
abbrev ZaQ:Stmt:=top 22
abbrev Zii:List Str:=["H","root"]
theorem ZfS:Zo Zii ["H","root"] (Zg ZaQ):=⟨rfl,rfl,rfl,by decide +kernel,rfl,by decide +kernel,by decide +kernel⟩
noncomputable def YI (os:List Str) (es:Es):Int:=ZD os.length (ZT os es) os.length []
def Zfz:Sp:=fun vs H Q _=>∃ (v:V) (es:Es) (r:Str),vs=[v,.str r]∧HeapV H v es∧X9 es∧(∀ ss,SPts es ss→(othL ss r).length≤31)∧∀ H' ss,Same H H'→SPts es ss→Q (.int (YI (othL ss r) es)) H'
theorem ZcZ (D:HasDef K mg "trees_of" ZaQ ["H","root"]) (B:Blt mg) (g31_:FOk P w K mg base 4 "tree_table" ["H","root"] ZfA) (g33_:FOk P w K mg base 4 "worth_of" ["table"] ZbJ):FOk P w K mg base 5 "trees_of" ["H","root"] Zfz:=by
 refine D.ok ZfS (fun vs H Q E h=>?_) (fun f cdv A outer s H vs Q E hr h=>?_)
 ·obtain ⟨v,es,r,rfl,_⟩:=h
  rfl
 ·obtain ⟨v,es,r,rfl,hV,hF,hn,k⟩:=h
  refine ⟨_,(Zh (Zr (Zu g33_ hr (Za (Zu g31_ hr (Za (pv 0) (Za (pv 1) Ze))) Ze)))),?_⟩
  refine ⟨_,rfl,_,rfl,v,es,r,rfl,hV,hF,fun t H1 ts ss s1 hS ht hR=>?_⟩
  have hq:Sq (othL ss r).length (Zfn (othL ss r) es):=by
   refine ⟨by unfold Zfn; simp,fun row hrow=>?_⟩
   unfold Zfn at hrow
   obtain ⟨i,_,rfl⟩:=List.mem_map.mp hrow
   exact Y7 _ _
  have hm:SmM 120 (Zfn (othL ss r) es):=fun row hrow x hx=>by
   unfold Zfn at hrow
   obtain ⟨i,_,rfl⟩:=List.mem_map.mp hrow
   unfold Zag at hx
   obtain ⟨c,_,rfl⟩:=List.mem_map.mp hx
   exact Zls hF i c
  refine ⟨t,ts,_,_,_,rfl,ht,hR,Zla (hn ss hS) hq hm,hn ss hS,fun H2 s2=>?_⟩
  rw [Zj7]
  exact k H2 ss (s1.trans s2) hS
end
theorem range_getD {α:Type} (l:List α) (d:α):(List.range l.length).map (fun i=>l.getD i d)=l:=by
 apply List.ext_getElem?
 intro i
 rw [List.getElem?_map]
 by_cases h:i < l.length
 ·rw [List.getElem?_range h,List.getElem?_eq_getElem h]
  show some (l.getD i d)=_
  rw [List.getD_eq_getElem?_getD,List.getElem?_eq_getElem h]
  rfl
 ·rw [List.getElem?_eq_none (by rw [List.length_range]; omega),List.getElem?_eq_none (by omega)]
  rfl
section
variable {P:Program} {w:World} {K:PySem.W.Frag} {mg:Str→Option Value} {base:Heap}
abbrev XA:Stmt:=top 37
abbrev Za8:List Str:=["_law_row_here"]
theorem ZfT:Zo Za8 ["_law_row_here"] (Zg XA):=⟨rfl,rfl,rfl,by decide +kernel,rfl,by decide +kernel,by decide +kernel⟩
def Zjj (K:PySem.W.Frag):Sp:=fun vs H Q _=>∃ (a:Addr) (es:Es),vs=[.ref a]∧SqL K H a ((es.map (·.1)).map V.str)∧X9 es∧∀ p H' ss,Same H H'→SPts es ss→H' p=some (.lst (ss.map V.str))→Q (.ref p) H'
theorem Zc2 (D:HasDef K mg "_law_points" XA ["_law_row_here"]) (B:Blt mg):FOk P w K mg base 1 "_law_points" ["_law_row_here"] (Zjj K):=by
 refine D.ok ZfT (fun vs H Q E h=>?_) (fun f cdv A outer s H vs Q E hr h=>?_)
 ·obtain ⟨a,es,rfl,_⟩:=h
  rfl
 ·obtain ⟨a,es,rfl,ha,hF,k⟩:=h
  refine ⟨_,(Zh (Zr (Zk (Yu rfl) rfl B.sorted YG (Za (ZE (XQ rfl) rfl B.set Zi4 (Za (Zn ZbT (ZL (Zg XA) Za8 ["_law_piece"] [] rfl (ZX (pv 0)) (fun _ _ _ _ _=>Yc 0) (fun _ _ _ _ _=>ZP) (fun _ _ _ _ _=>(Zv Z2 (pv 0) ZB (Zx (Jh YH Zf)))))
   (ZL (Zg XA) Za8 ["_law_piece"] [] rfl (ZX (pv 0)) (fun _ _ _ _ _=>Yc 0) (fun _ _ _ _ _=>ZP) (fun _ _ _ _ _=>(Zv Z2 (pv 0) (Zx Zf) ZB)))) Ze)) Ze)))),?_⟩
  have hfew:=hF.few
  have hlen:((es.map (·.1)).map V.str).length=es.length:=by rw [List.length_map,List.length_map]
  have hit:∀ i,i < es.length→((es.map (·.1)).map V.str).getD i .non = .str (es.getD i ("",0)).1:=fun i hi=>by
   rw [List.getD_eq_getElem?_getD,List.getElem?_map,List.getElem?_map,List.getElem?_eq_getElem hi,List.getD_eq_getElem?_getD,List.getElem?_eq_getElem hi]
   rfl
  have hmem:∀ i,i < es.length→es.getD i ("",0)∈es:=fun i hi=>by
   rw [List.getD_eq_getElem?_getD,List.getElem?_eq_getElem hi]
   exact List.getElem_mem hi
  refine ⟨_,rfl,a,rfl,⟨_,ha⟩,YL ((es.map (·.1)).map V.str).length (fun i=>((es.map (·.1)).map V.str).getD i .non) (fun i v _=>v = .str (bg (es.getD i ("",0)).1)) (Zl (by omega)) (fun _ _ _ _ _ r=>r) (YE ha) ?_ ?_⟩
  ·intro i H3 Qe hi hs kq
   rw [hlen] at hi
   rw [hit i hi]
   obtain ⟨l1,l2⟩:=hF.long _ (hmem i hi)
   refine ⟨_,rfl,_,rfl,_,rfl,_,rfl,ZN l2,?_⟩
   rw [Yq l1]
   exact kq _ _ (Same.refl _) rfl
  intro D1 vs1 H3 hl1 hr1 hs3 hD1 hDl1
  rw [ZaK (f:=bg) (by omega) hr1] at hDl1
  refine ⟨_,rfl,a,rfl,⟨_,hs3.seq ha⟩,YL ((es.map (·.1)).map V.str).length (fun i=>((es.map (·.1)).map V.str).getD i .non) (fun i v _=>v = .str (en (es.getD i ("",0)).1)) (Zl (by omega)) (fun _ _ _ _ _ r=>r) (YE (hs3.seq ha)) ?_ ?_⟩
  ·intro i H4 Qe hi hs kq
   rw [hlen] at hi
   rw [hit i hi]
   obtain ⟨l1,l2⟩:=hF.long _ (hmem i hi)
   refine ⟨_,rfl,_,rfl,_,rfl,ZN l2,?_⟩
   rw [Xv l1]
   exact kq _ _ (Same.refl _) rfl
  intro D2 vs2 H4 hl2 hr2 hs4 hD2 hDl2
  rw [ZaK (f:=en) (by omega) hr2] at hDl2
  refine ⟨D1,D2,_,_,rfl,rfl,hs4 _ _ hDl1,hDl2,Zl (by simp only [List.length_map]; omega),fun p hp=>?_⟩
  have s5:=Zb (o:=.lst ((es.map fun e=>bg e.1).map V.str ++ (es.map fun e=>en e.1).map V.str)) hp
  refine ⟨p,(es.map fun e=>bg e.1) ++ (es.map fun e=>en e.1),rfl,SqL.of (by rw [Zc,List.map_append]),by simp only [List.length_append,List.length_map]; omega,fun p2 ks hp2 hnd hmem2 hkl=>?_⟩
  have hkl':ks.length≤2 * es.length:=by simp only [List.length_append,List.length_map] at hkl; omega
  refine ⟨p2,ks,rfl,Zc,by omega,fun q2 ss hq2 hpm hsrt=>?_⟩
  refine k q2 _ ss ((((hs3.trans hs4).trans s5).trans (Zb hp2)).trans (Zb hq2)) (SPts.of (ks:=ks) ⟨hnd,fun x=>?_,hkl'⟩ hpm hsrt) Zc
  rw [hmem2,List.mem_append,List.mem_map,List.mem_map]
  constructor
  ·rintro (⟨e,he,z⟩ | ⟨e,he,z⟩)
   ·exact ⟨e,he,.inl z⟩
   ·exact ⟨e,he,.inr z⟩
  ·rintro ⟨e,he,z | z⟩
   ·exact .inl ⟨e,he,z⟩
   ·exact .inr ⟨e,he,z⟩
end
theorem Zev {l:List Str} {i:Nat} (h:i < l.length):atI (l.map V.str) (i:Int)=some (.str l[i]):=by
 unfold atI
 rw [List.length_map,Zb9 h]
 show (l.map V.str)[i]?=_
 rw [List.getElem?_map,List.getElem?_eq_getElem h]
 rfl
section
variable {P:Program} {w:World} {K:PySem.W.Frag} {mg:Str→Option Value} {base:Heap}
end
section
variable {P:Program} {w:World} {K:PySem.W.Frag} {mg:Str→Option Value} {base:Heap} {S C A1 A2 A3 A4 A5 A6 A7 A8:Addr}
end
theorem XV {z:List Nat} {n:Int} (h:0≤n):Txt.slice (tx z) none (some n)=tx (z.take n.toNat):=by
 apply ZZ
 rw [Zaf h,ZO,ZO]
section
variable {P:Program} {w:World} {K:PySem.W.Frag} {mg:Str→Option Value} {base:Heap}
end
def SB (D:Addr) (H H':Hp):Prop:=∀ b u,b≠D→H b=some u→H' b=some u
theorem SB.refl (D:Addr) (H:Hp):SB D H H:=fun _ _ _ e=>e
theorem SB.trans {D:Addr} {H H1 H2:Hp} (a:SB D H H1) (b:SB D H1 H2):SB D H H2:=fun c u hc e=>b c u hc (a c u hc e)
theorem SB.upd {D:Addr} {H:Hp} {o:HO}:SB D H (upd H D o):=fun b u hb e=>by rw [Zi hb]; exact e
def DK (H:Hp) (D:Addr) (n:Nat):Prop:=∃ ns:List Int,H D=some (.lst (ns.map V.int))∧n≤ns.length∧∀ x∈ns,0≤x∧x < 10 ^ 18
theorem DK.same {H H':Hp} {D:Addr} {n:Nat} (h:DK H D n) (s:Same H H'):DK H' D n:=by
 obtain ⟨ns,e,r⟩:=h
 exact ⟨ns,s _ _ e,r⟩
theorem DK.less {H:Hp} {D:Addr} {n m:Nat} (h:DK H D n) (hm:m≤n):DK H D m:=by
 obtain ⟨ns,e,r,t⟩:=h
 exact ⟨ns,e,by omega,t⟩
theorem DK.pop {H:Hp} {D:Addr} {n:Nat} (h:DK H D (n + 1)):∃ (ns:List Int) (c:Int),H D=some (.lst ((ns ++ [c]).map V.int))∧0≤c∧c < 10 ^ 18∧DK (upd H D (.lst (ns.map V.int))) D n:=by
 obtain ⟨ns,e,l,b⟩:=h
 rcases List.eq_nil_or_concat ns with z | ⟨r,c,z⟩
 ·rw [z] at l
  simp at l
 ·rw [List.concat_eq_append] at z
  subst z
  have hc:=b c (by simp)
  rw [List.length_append,List.length_singleton] at l
  exact ⟨r,c,e,hc.1,hc.2,r,Zc,by omega,fun x hx=>b x (List.mem_append_left _ hx)⟩
theorem Yf (ns:List Int) (c:Int):((ns ++ [c]).map V.int)[((ns ++ [c]).map V.int).length - 1]?=some (V.int c):=by
 rw [List.map_append,List.map_singleton]
 simp
theorem Yg (ns:List Int) (c:Int):((ns ++ [c]).map V.int).dropLast=ns.map V.int:=by
 rw [List.map_append,List.map_singleton,List.dropLast_concat]
theorem ZdO {H:Hp}:∀ ns:List Int,RepA H (ns.map PyData.int) (ns.map V.int)
 | []=>by rw [List.map_nil,RepA]; rfl
 | p :: ps=>by
  rw [List.map_cons,RepA]
  exact ⟨.int p,ps.map V.int,rfl,by rw [RepD],ZdO ps⟩
theorem Yw {H:Hp} {a:Addr} {ns:List Int} (h:H a=some (.lst (ns.map V.int))):RepD H (.list (ns.map PyData.int)) (.ref a):=by
 rw [RepD]
 exact ⟨a,_,rfl,h,ZdO ns⟩
theorem Zec:∀ ns:List Int,PyData.canLayAll0 (ns.map PyData.int)=true
 | []=>by simp [PyData.canLayAll0]
 | p :: ps=>by
  rw [List.map_cons,PyData.canLayAll0,Zec ps]
  simp [PyData.canLay0]
theorem ZaF:∀ ns:List Int,PyData.depthAll (ns.map PyData.int)≤1
 | []=>by simp [PyData.depthAll]
 | p :: ps=>by
  rw [List.map_cons,PyData.depthAll]
  have:=ZaF ps
  simp [PyData.depth]
  exact this
theorem Z4 (ns:List Int):SeqAt.shaped (.list (ns.map PyData.int))=true:=by
 unfold SeqAt.shaped
 rw [Bool.and_eq_true]
 constructor
 ·rw [PyData.canLay0]
  exact Zec ns
 ·refine decide_eq_true ?_
  have:=ZaF ns
  rw [PyData.depth]
  omega
theorem Zbn (ns:List Int):PyData.eqv (.list (ns.map PyData.int)) (.list (([]:List Int).map PyData.int))=ns.isEmpty:=by
 cases ns with
 | nil=>simp [PyData.eqv,PyData.eqvAll]
 | cons n r=>simp [PyData.eqv,PyData.eqvAll]
theorem ZeB {z:List Nat} {i:Int} (h0:0≤i) (h1:i≤z.length):Txt.slice (tx z) (some i) none=tx (z.drop i.toNat):=by
 apply ZZ
 rw [YJ h0 (by rw [ZH]; exact h1),ZO,ZO]
section
variable {P:Program} {w:World} {K:PySem.W.Frag} {mg:Str→Option Value} {base:Heap}
abbrev ZcQ:Stmt:=top 29
abbrev ZkK:List Str:=["_law_row_here","_law_k","_law_cell"]
theorem scLMixed:Zo ZkK ["_law_row_here","_law_k"] (Zg ZcQ):=⟨rfl,rfl,rfl,by decide +kernel,rfl,by decide +kernel,by decide +kernel⟩
def ZfC:Sp:=fun vs H Q _=>∃ (r:Addr) (ns:List Int) (k:Int),vs=[.ref r,.int k]∧H r=some (.lst (ns.map V.int))∧ns.length≤63∧0≤k∧k < 1000∧∀ n H',0≤n→n < 2147483629→Same H H'→Q (.int n) H'
theorem ZeM (D:HasDef K mg "_law_mixed" ZcQ ["_law_row_here","_law_k"]) (B:Blt mg):FOk P w K mg base 1 "_law_mixed" ["_law_row_here","_law_k"] ZfC:=by
 refine D.ok scLMixed (fun vs H Q E h=>?_) (fun f cdv A outer s H vs Q E hr h=>?_)
 ·obtain ⟨r,ns,k,rfl,_⟩:=h
  rfl
 ·obtain ⟨r,ns,k,rfl,hr0,hn,k0,k1,kk⟩:=h
  refine ⟨_,(Zd (Zm (i:=2) scLMixed.nd rfl (.inl rfl) (Zn ZY (Zn Xe Zf (pv 1)) Zf))
   (Zd (Ye (Zt (Zgo hr.units) (pv 0) (Yn Ze) (Zy _)) (Zh (Zm (i:=2) scLMixed.nd rfl (.inl rfl) (Zn ZY (Zn ZY (Zn ZI (ZR ZG (pv 0) (Zn ZI (pv 1) (Zk Zq rfl B.len ZV (Za (pv 0) Ze))) (fun _ _=>rfl)) Zf) (Zn Xe (Zn YW (pv 1) (Zk Zq rfl B.len ZV (Za (pv 0) Ze))) Zf)) Zf))) ZA)
   (Zd (Zm (i:=2) scLMixed.nd rfl (.inl rfl) (Zn ZI (Zn ZY (Zn ZY (Zn Xe (pv 2) Zf) (Zn Xe (Zn Xe (pv 1) (pv 1)) Zf)) Zf) Zf))
   (Zh (Zr (Zn ZI (Zn ZY (Zn ZY (Zn Xe (pv 2) (pv 2)) (Zn Xe (Zn Xe (Zn Xe (pv 1) (pv 1)) (pv 1)) Zf)) Zf) Zf)))))),?_⟩
  refine ⟨_,rfl,_,_,rfl,rfl,.inl ⟨by decide,by decide⟩,_,_,rfl,rfl,?_⟩
  dsimp only
  refine Ym (fun σ H2=>Same H H2∧∃ c:Int,σ=[some (.ref r),some (.int k),some (.int c)]) (fun R hR=>?_) ?_
  ·refine ⟨_,rfl,Zl (show 0≤1000 by decide),fun p0 hp0=>?_⟩
   have s0:=Zb (o:=.lst []) hp0
   have hr1:=s0 _ _ hr0
   refine ⟨.list (ns.map PyData.int),.list (([]:List Int).map PyData.int),Yw hr1,Yw (ns:=[]) Zc,Z4 ns,Z4 [],_,rfl,?_⟩
   rw [Zbn]
   cases ns with
   | nil=>exact Jg rfl (hR _ _ ⟨s0,_,rfl⟩)
   | cons x xs =>
    refine ZaC rfl ?_
    have hms:(x :: xs).length≠0:=by simp
    generalize x :: xs=ms at *
    generalize upd H p0 (.lst [])=H1 at s0 hr1
    have hlp:(0:Int) < ((ms.map V.int).length:Int):=by rw [List.length_map]; omega
    have mb:=ZM k hlp
    have hat:=Zda (ns:=ms) (i:=k % ((ms.map V.int).length:Int)) mb.1 (by have:=mb.2; rw [List.length_map] at this ⊢; exact this)
    refine ⟨_,rfl,_,rfl,_,rfl,.ref r,_,rfl,.inl ⟨_,SqL.of hr1,rfl⟩,_,_,rfl,rfl,hlp,r,_,_,_,rfl,rfl,SqL.of hr1,hat,_,_,rfl,rfl,(by show (0:Int) < 2147483629; decide),_,rfl,_,rfl,.ref r,_,rfl,.inl ⟨_,SqL.of hr1,rfl⟩,_,_,rfl,rfl,⟨hlp,by rw [List.length_map]; omega⟩,_,_,rfl,rfl,.inr ⟨by decide,by decide⟩,_,_,rfl,rfl,_,_,rfl,rfl,?_⟩
    exact hR _ _ ⟨s0,_,rfl⟩
  rintro σ H2 ⟨s2,c,rfl⟩
  refine ⟨_,rfl,_,_,rfl,rfl,.inr ⟨by decide,by decide⟩,_,rfl,_,rfl,_,_,rfl,rfl,.inl ⟨by omega,by omega⟩,_,_,rfl,rfl,.inr ⟨by decide,by decide⟩,_,_,rfl,rfl,_,_,rfl,rfl,_,_,rfl,rfl,(by show (0:Int) < 2147483647; decide),?_⟩
  have m1:=ZM (c * 48271 + k * k * 16807 + 3) (show (0:Int) < 2147483647 by decide)
  dsimp only
  generalize (c * 48271 + k * k * 16807 + 3) % 2147483647=c2 at m1
  have m2:=ZM (c2 * c2 + k * k * k * 69621 + 5) (show (0:Int) < 2147483629 by decide)
  refine ⟨_,rfl,_,rfl,_,_,rfl,rfl,.inl ⟨by omega,by omega⟩,_,rfl,_,rfl,_,_,rfl,rfl,.inl ⟨by omega,by omega⟩,_,rfl,_,_,rfl,rfl,.inr ⟨by omega,by omega⟩,_,_,rfl,rfl,.inr ⟨by decide,by decide⟩,_,_,rfl,rfl,_,_,rfl,rfl,_,_,rfl,rfl,(by show (0:Int) < 2147483629; decide),?_⟩
  exact kk _ _ m2.1 m2.2 s2
abbrev JP:Stmt:=top 31
abbrev ZgD:List Str:=["_law_deck_here","_law_few_here","_law_some","_law_number","_law_found","_law_k","_law_at"]
theorem scLLetters:Zo ZgD ["_law_deck_here","_law_few_here"] (Zg JP):=⟨rfl,rfl,rfl,by decide +kernel,rfl,by decide +kernel,by decide +kernel⟩
def ZfE:Sp:=fun vs H Q _=>∃ (D:Addr) (few n:Nat),vs=[.ref D,.int few]∧2≤few∧few≤26∧DK H D (n + 1)∧∀ (z:List Nat) H',SB D H H'→DK H' D n→z.length=few→Cd z→Q (.str (tx z)) H'
theorem ZmN:("abcdefghijklmnopqrstuvwxyz" : Str)=tx ((List.range 26).map (· + 97)):=by decide +kernel
theorem ZbW (D:HasDef K mg "_law_letters" JP ["_law_deck_here","_law_few_here"]) (B:Blt mg):FOk P w K mg base 1 "_law_letters" ["_law_deck_here","_law_few_here"] ZfE:=by
 refine D.ok scLLetters (fun vs H Q E h=>?_) (fun f cdv A outer s H vs Q E hr h=>?_)
 ·obtain ⟨D,few,n,rfl,_⟩:=h
  rfl
 ·obtain ⟨Dk,few,n,rfl,f2,f26,hD,k⟩:=h
  refine ⟨_,(Zd (Zm (i:=2) scLLetters.nd rfl (.inl rfl) Zgf)
   (Zd (Zm (i:=3) scLLetters.nd rfl (.inl rfl) (YV F.plainAttrs_list F.slot_list_pop F.type_list_pop Yo (pv 0)))
   (Zd (Zm (i:=4) scLLetters.nd rfl (.inl rfl) Zgf)
   (Zd (Z3 PassesOwn.never rfl (Yx rfl B.range (Za (Zk (Zcr rfl) rfl B.min ZmF (Za (pv 1) (Za Zf Ze))) Ze)) (Zz (i:=5) scLLetters.nd rfl (.inl rfl))
    (Zd (Zm (i:=6) scLLetters.nd rfl (.inl rfl) (Zn ZI (pv 3) (Zk Zq rfl B.len ZV (Za (pv 2) Ze))))
   (Zd (Zm (i:=4) scLLetters.nd rfl (.inl rfl) (Zn Yy (pv 4) (ZR ZjN (pv 2) (pv 6) (fun _ _=>rfl))))
   (Zd (Zm (i:=3) scLLetters.nd rfl (.inl rfl) (Zn YW (pv 3) (Zk Zq rfl B.len ZV (Za (pv 2) Ze))))
   (Zh (Zm (i:=2) scLLetters.nd rfl (.inl rfl) (Zn Yy (Zv Z2 (pv 2) ZB (Zx (pv 6))) (Zv Z2 (pv 2) (Zx (Zn ZY (pv 6) Zf)) ZB))))))))
   (Zh (Zr (Zn Yy (pv 4) (Zv Z2 (pv 2) ZB (Zx (Zn Jc (pv 1) (Zk Zq rfl B.len ZV (Za (pv 4) Ze)))))))))))),?_⟩
  obtain ⟨ns,c,hDn,c0,c1,hD2⟩:=hD.pop
  refine ⟨_,rfl,.inl ⟨rfl,_,SqL.of hDn⟩,Dk,_,.int c,rfl,rfl,hDn,Yf ns c,?_⟩
  rw [Yg]
  have sb:SB Dk H (upd H Dk (.lst (ns.map V.int))):=SB.upd
  generalize upd H Dk (.lst (ns.map V.int))=H1 at sb hD2
  rw [ZmN]
  have hmn:(if (6:Int) < (few:Int) then (6:Int) else (few:Int)).toNat=min few 6:=by split <;> omega
  refine ⟨_,rfl,_,6,rfl,_,rfl,by split <;> omega,by split <;> omega,?_⟩
  rw [hmn]
  refine Y0 (n:=min few 6) (fun i σ H2=>H2=H1∧∃ (y x:List Nat) (nb:Int) (z5 z6:Option V),σ=[some (.ref Dk),some (.int few),some (.str (tx y)),some (.int nb),some (.str (tx x)),z5,z6]∧y.length=26 - i∧x.length=i∧Cd y∧Cd x)
   ⟨rfl,(List.range 26).map (· + 97),[],c,none,none,rfl,by simp,rfl,fun c hc=>by obtain ⟨j,hj,rfl⟩:=List.mem_map.mp hc; have:=List.mem_range.mp hj; omega,fun c hc=>by cases hc⟩ ?_ ?_
  ·rintro i σ H2 hi ⟨rfl,y,x,nb,z5,z6,rfl,hy,hx,yc,xc⟩
   have hlp:(0:Int) < ((tx y).length:Int):=by rw [ZH]; omega
   have hlen:∀ H',ZmR K (.str (tx y)) H' (tx y).length:=fun H'=>⟨Z9 (by omega),rfl⟩
   have mb:=ZM nb hlp
   refine ⟨_,rfl,_,rfl,.str (tx y),_,rfl,hlen _,_,_,rfl,rfl,hlp,?_⟩
   dsimp only
   generalize nb % ((tx y).length:Int)=a_ at mb
   rw [ZH] at mb
   refine ⟨_,rfl,_,rfl,_,rfl,tx y,_,_,rfl,rfl,Z9 (by omega),ZhA mb.1 (by omega),_,_,rfl,rfl,?_,?_⟩
   ·rw [ZH]
    exact Zl (by show x.length + 1≤1000; omega)
   rw [show ({ cps:=#[y.getD a_.toNat 0] }:Str)=tx [y.getD a_.toNat 0] from rfl,ZbE]
   refine ⟨_,rfl,_,rfl,.str (tx y),_,rfl,hlen _,_,_,rfl,rfl,⟨hlp,by rw [ZH]; omega⟩,?_⟩
   refine ⟨_,rfl,_,rfl,_,rfl,_,rfl,Z9 (by omega),_,rfl,_,rfl,_,_,rfl,rfl,_,rfl,_,rfl,Z9 (by omega),?_⟩
   rw [XV mb.1,ZeB (by omega) (by omega)]
   refine ⟨_,_,rfl,rfl,?_,?_⟩
   ·rw [ZH,ZH,List.length_take,List.length_drop]
    exact Zl (by omega)
   rw [ZbE]
   refine ⟨rfl,_,_,_,_,_,rfl,?_,by rw [List.length_append,hx]; rfl,fun c hc=>?_,fun c hc=>?_⟩
   ·rw [List.length_append,List.length_take,List.length_drop]
    omega
   ·rcases List.mem_append.mp hc with q | q
    ·exact yc c (List.mem_of_mem_take q)
    ·exact yc c (List.mem_of_mem_drop q)
   ·rcases List.mem_append.mp hc with q | q
    ·exact xc c q
    ·rw [List.mem_singleton.mp q]
     refine yc _ ?_
     rw [List.getD_eq_getElem?_getD,List.getElem?_eq_getElem (by omega)]
     exact List.getElem_mem _
  ·rintro σ H2 ⟨rfl,y,x,nb,z5,z6,rfl,hy,hx,yc,xc⟩
   refine ⟨_,rfl,_,rfl,_,rfl,_,rfl,.str (tx x),_,rfl,⟨Z9 (by omega),rfl⟩,_,_,rfl,rfl,_,rfl,_,rfl,Z9 (by omega),?_⟩
   rw [XV (by rw [ZH]; omega)]
   refine ⟨_,_,rfl,rfl,?_,?_⟩
   ·rw [ZH,ZH,List.length_take]
    exact Zl (by omega)
   rw [ZbE]
   refine k _ _ sb hD2 ?_ fun c hc=>?_
   ·rw [List.length_append,List.length_take,ZH]
    omega
   ·rcases List.mem_append.mp hc with q | q
    ·exact xc c q
    ·exact yc c (List.mem_of_mem_take q)
abbrev ZcP:Stmt:=top 32
abbrev ZkJ:List Str:=["_law_deck_here","_law_some","_law_long","_law_made","_law_number","_law_k"]
theorem scLSigns:Zo ZkJ ["_law_deck_here","_law_some","_law_long"] (Zg ZcP):=⟨rfl,rfl,rfl,by decide +kernel,rfl,by decide +kernel,by decide +kernel⟩
def ZcJ:Sp:=fun vs H Q _=>∃ (D:Addr) (y:List Nat) (L n:Nat),vs=[.ref D,.str (tx y),.int L]∧1≤y.length∧y.length≤100∧Cd y∧L≤300∧DK H D (n + (L + 11) / 12)∧∀ (z:List Nat) H',SB D H H'→DK H' D n→z.length=L→Cd z→Q (.str (tx z)) H'
theorem ZeK (D:HasDef K mg "_law_signs" ZcP ["_law_deck_here","_law_some","_law_long"]) (B:Blt mg):FOk P w K mg base 1 "_law_signs" ["_law_deck_here","_law_some","_law_long"] ZcJ:=by
 refine D.ok scLSigns (fun vs H Q E h=>?_) (fun f cdv A outer s H vs Q E hr h=>?_)
 ·obtain ⟨D,y,L,n,rfl,_⟩:=h
  rfl
 ·obtain ⟨Dk,y,L,n,rfl,y1,y2,yc,hL,hD,k⟩:=h
  refine ⟨_,(Zd (Zm (i:=3) scLSigns.nd rfl (.inl rfl) Zgf)
   (Zd (Jy PassesOwn.never (Zt ZlX (Zk Zq rfl B.len ZV (Za (pv 3) Ze)) (pv 2) (Zy _))
    (Zd (Zm (i:=4) scLSigns.nd rfl (.inl rfl) (YV F.plainAttrs_list F.slot_list_pop F.type_list_pop Yo (pv 0)))
   (Zh (Z3 PassesOwn.never rfl (Yx rfl B.range (Za (Zk (Zcr rfl) rfl B.min ZmF (Za Zf (Za (Zn Jc (pv 2) (Zk Zq rfl B.len ZV (Za (pv 3) Ze))) Ze))) Ze)) (Zz (i:=5) scLSigns.nd rfl (.inl rfl))
    (Zd (Zm (i:=3) scLSigns.nd rfl (.inl rfl) (Zn Yy (pv 3) (ZR ZjN (pv 1) (Zn ZI (pv 4) (Zk Zq rfl B.len ZV (Za (pv 1) Ze))) (fun _ _=>rfl))))
   (Zh (Zm (i:=4) scLSigns.nd rfl (.inl rfl) (Zn YW (pv 4) (Zk Zq rfl B.len ZV (Za (pv 1) Ze))))))))))
   (Zh (Zr (pv 3))))),?_⟩
  have hlp:(0:Int) < ((tx y).length:Int):=by rw [ZH]; omega
  have hleny:∀ H',ZmR K (.str (tx y)) H' (tx y).length:=fun H'=>⟨Z9 (by omega),rfl⟩
  dsimp only [Zak]
  rw [show ("" : Str)=tx [] from rfl]
  show Zlu (ZdE _ _) _ _ _ _
  refine Ym (fun σ H4=>∃ (z:List Nat) (z4 z5:Option V),σ=[some (.ref Dk),some (.str (tx y)),some (.int L),some (.str (tx z)),z4,z5]∧SB Dk H H4∧DK H4 Dk n∧z.length=L∧Cd z) (fun R hR=>?_) ?_
  ·refine ⟨fun m σ H4=>∃ (z:List Nat) (z4 z5:Option V),σ=[some (.ref Dk),some (.str (tx y)),some (.int L),some (.str (tx z)),z4,z5]∧SB Dk H H4∧DK H4 Dk (n + (L - z.length + 11) / 12)∧z.length≤L∧Cd z∧m=L - z.length,
    ⟨_,[],none,none,rfl,SB.refl _ _,hD,Nat.zero_le _,(fun c hc=>by cases hc),rfl⟩,?_⟩
   rintro m σ H4 ⟨z,z4,z5,rfl,sb4,hD4,hz,zc,hm⟩
   have hlenz:∀ H',ZmR K (.str (tx z)) H' (tx z).length:=fun H'=>⟨Z9 (by omega),rfl⟩
   refine ⟨_,rfl,.str (tx z),_,rfl,hlenz _,_,rfl,_,_,rfl,rfl,_,rfl,?_⟩
   rw [ZH]
   by_cases c:z.length < L
   rotate_left
   ·have e:z.length=L:=by omega
    refine Jg (decide_eq_false (by omega)) (hR _ _ ⟨z,z4,z5,rfl,sb4,hD4.less (by omega),e,zc⟩)
   refine ZaC (decide_eq_true (by omega)) ?_
   refine ⟨fun σ' H'=>∃ m',m' < m∧∃ (z:List Nat) (z4 z5:Option V),σ'=[some (.ref Dk),some (.str (tx y)),some (.int L),some (.str (tx z)),z4,z5]∧SB Dk H H'∧DK H' Dk (n + (L - z.length + 11) / 12)∧z.length≤L∧Cd z∧m'=L - z.length,fun _ _ z=>z,?_⟩
   have hD5:DK H4 Dk (n + (L - z.length + 11) / 12 - 1 + 1):=hD4.less (by omega)
   obtain ⟨ns,cc,hDn,c0,c1,hD6⟩:=hD5.pop
   refine ⟨_,rfl,.inl ⟨rfl,_,SqL.of hDn⟩,Dk,_,.int cc,rfl,rfl,hDn,Yf ns cc,?_⟩
   rw [Yg]
   have sb6:SB Dk H (upd H4 Dk (.lst (ns.map V.int))):=sb4.trans SB.upd
   generalize upd H4 Dk (.lst (ns.map V.int))=H6 at sb6 hD6
   have hmn:(if (L:Int) - ((tx z).length:Int) < 12 then (L:Int) - ((tx z).length:Int) else 12).toNat=min (L - z.length) 12:=by rw [ZH]; split <;> omega
   refine ⟨_,rfl,_,rfl,.str (tx z),_,rfl,hlenz _,_,_,rfl,rfl,12,_,rfl,_,rfl,by rw [ZH]; split <;> omega,by rw [ZH]; split <;> omega,?_⟩
   rw [hmn]
   refine Y0 (n:=min (L - z.length) 12) (fun i σ H7=>H7=H6∧∃ (u:List Nat) (nb:Int) (z5:Option V),σ=[some (.ref Dk),some (.str (tx y)),some (.int L),some (.str (tx u)),some (.int nb),z5]∧u.length=z.length + i∧Cd u)
    ⟨rfl,z,cc,z5,rfl,rfl,zc⟩ ?_ ?_
   ·rintro i σ H7 hi ⟨rfl,u,nb,z5',rfl,hul,uc⟩
    have mb:=ZM nb hlp
    have hmy:(nb % ((tx y).length:Int)).toNat < y.length:=by rw [ZH] at mb ⊢; omega
    have hat:=ZhA (z:=y) (i:=nb % ((tx y).length:Int)) mb.1 (by rw [ZH] at mb ⊢; exact mb.2)
    refine ⟨_,rfl,_,rfl,_,rfl,_,rfl,.str (tx y),_,rfl,hleny _,_,_,rfl,rfl,hlp,tx y,_,_,rfl,rfl,Z9 (by omega),hat,_,_,rfl,rfl,?_,?_⟩
    ·rw [ZH]
     exact Zl (by show u.length + 1≤1000; omega)
    generalize nb % ((tx y).length:Int)=ix at hmy
    rw [show ({ cps:=#[y.getD ix.toNat 0] }:Str)=tx [y.getD ix.toNat 0] from rfl,ZbE]
    refine ⟨_,rfl,_,rfl,.str (tx y),_,rfl,hleny _,_,_,rfl,rfl,⟨hlp,by rw [ZH]; omega⟩,?_⟩
    refine ⟨rfl,_,_,_,rfl,by rw [List.length_append,hul]; rfl,fun c hc=>?_⟩
    rcases List.mem_append.mp hc with q | q
    ·exact uc c q
    ·rw [List.mem_singleton.mp q]
     refine yc _ ?_
     rw [List.getD_eq_getElem?_getD,List.getElem?_eq_getElem hmy]
     exact List.getElem_mem _
   ·rintro σ H7 ⟨rfl,u,nb,z5',rfl,hul,uc⟩
    refine ⟨_,?_,u,_,_,rfl,sb6,hD6.less (by omega),by omega,uc,rfl⟩
    omega
  ·rintro σ H4 ⟨z,z4,z5,rfl,sb4,hD4,hz,zc⟩
   exact ⟨_,rfl,k z H4 sb4 hD4 hz zc⟩
abbrev ZfY:Stmt:=top 30
abbrev Zl6:List Str:=["_law_script","_law_many","_law_row_here","_law_left","_law_found","_law_k","_law_number"]
theorem scLDeck:Zo Zl6 ["_law_script","_law_many"] (Zg ZfY):=⟨rfl,rfl,rfl,by decide +kernel,rfl,by decide +kernel,by decide +kernel⟩
def Zjo (K:PySem.W.Frag):Sp:=fun vs H Q _=>∃ (a:Addr) (ns:List Int) (m:Nat),vs=[.ref a,.int m]∧SqL K H a (ns.map V.int)∧ns.length≤63∧m≤600∧∀ D H',Same H H'→DK H' D m→Q (.ref D) H'
theorem Zgu (D:HasDef K mg "_law_deck" ZfY ["_law_script","_law_many"]) (B:Blt mg) (g6_:FOk P w K mg base 1 "_law_mixed" ["_law_row_here","_law_k"] ZfC):FOk P w K mg base 2 "_law_deck" ["_law_script","_law_many"] (Zjo K):=by
 refine D.ok scLDeck (fun vs H Q E h=>?_) (fun f cdv A outer s H vs Q E hr h=>?_)
 ·obtain ⟨a,ns,m,rfl,_⟩:=h
  rfl
 ·obtain ⟨a,ns,m,rfl,ha,hn,hm,k⟩:=h
  refine ⟨_,(Zd (Zm (i:=2) scLDeck.nd rfl (.inl rfl) (ZE Y4 rfl B.list Zcy (Za (Zv Xi (pv 0) ZB (Zx Zf)) Ze)))
   (Zd (Zm (i:=3) scLDeck.nd rfl (.inl rfl) (Yn Ze))
   (Zd (Ye (PW.pt (Zf7 (Zt (Zgo hr.units) (pv 2) (Yn Ze) (Zy _)) (ZcS (Zt XE (Zn ZI (ZR ZG (pv 2) Zf (fun _ _=>rfl)) Zf) Zf (Zy _))))) (Zh (Zm (i:=3) scLDeck.nd rfl (.inl rfl) (Zn ZbT (Yn (Za (Zn YW (ZR ZG (pv 2) Zf (fun _ _=>rfl)) Zf) Ze)) (Zv Xi (pv 2) (Zx Zf) ZB)))) ZA)
   (Zd (Zm (i:=4) scLDeck.nd rfl (.inl rfl) (Yn Ze))
   (Zd (Z3 PassesOwn.never rfl (Yx rfl B.range (Za (pv 1) Ze)) (Zz (i:=5) scLDeck.nd rfl (.inl rfl))
    (Zd (Zm (i:=6) scLDeck.nd rfl (.inl rfl) (Zu g6_ hr (Za (pv 2) (Za (pv 5) Ze))))
   (Zd (Ye (PW.pt (Zf7 (Zt (Zgo hr.units) (pv 3) (Yn Ze) (Zy _)) (ZcS (Zt Jd (ZR ZG (pv 3) (Zn ZI (pv 5) (Zk Zq rfl B.len ZV (Za (pv 3) Ze))) (fun _ _=>rfl)) (Zav (Za Zf (Za (Jh YH Zf) Ze))) rfl)))) (Zd (Zm (i:=6) scLDeck.nd rfl (.inl rfl) (Zn ZI (ZR ZG (pv 3) (Zn ZI (pv 5) (Zk Zq rfl B.len ZV (Za (pv 3) Ze))) (fun _ _=>rfl)) (Zn ZjA Zf Zf)))
   (Zh (ZlL (Zn Za4 (ZR ZG (pv 3) (Zn ZI (pv 5) (Zk Zq rfl B.len ZV (Za (pv 3) Ze))) (fun _ _=>rfl)) (Zn ZjA Zf Zf)) (ZlP (pv 3) (Zn ZI (pv 5) (Zk Zq rfl B.len ZV (Za (pv 3) Ze))) ZaP)))) ZA)
   (Zh (YU (ZcU F.plainAttrs_list F.slot_list_append F.type_list_append Xa (pv 4) (Za (pv 6) Ze)))))))
   (Zh (Zr (ZcT rfl rfl B.list rfl B.rev (pv 4))))))))),?_⟩
  refine ⟨_,rfl,_,rfl,a,_,rfl,ha,fun p1 hp1=>?_⟩
  rw [Znq (ns.map V.int) (by rw [List.length_map]; exact hn)]
  refine ⟨p1,_,rfl,.inl (SqL.of Zc),fun r hr1=>?_⟩
  have s1:=(Zb (o:=.lst (ns.map V.int)) hp1).trans (Zb (o:=.lst (ns.map V.int)) hr1)
  have hrow:(upd (upd H p1 (.lst (ns.map V.int))) r (.lst (ns.map V.int))) r=some (.lst (ns.map V.int)):=Zc
  generalize upd (upd H p1 (.lst (ns.map V.int))) r (.lst (ns.map V.int))=H1 at s1 hrow
  refine ⟨Zl (show 0≤1000 by decide),fun lf hlf=>?_⟩
  have s2:=Zb (o:=.lst []) hlf
  have hlr:lf≠r:=fun e=>by rw [e,hrow] at hlf; cases hlf
  have hlfn:H lf=none:=s1.free hlf
  have hrow2:=s2 _ _ hrow
  have hlf2:(upd H1 lf (.lst [])) lf=some (.lst (([]:List Int).map V.int)):=Zc
  have s12:=s1.trans s2
  generalize upd H1 lf (.lst [])=H2 at s12 hrow2 hlf2
  clear s2 hlf s1 hrow hr1 hp1
  dsimp only
  refine Ym (fun σ H3=>∃ (lf:Addr) (ls:List Int),σ=[some (.ref a),some (.int m),some (.ref r),some (.ref lf),none,none,none]∧Same H H3∧H3 r=some (.lst (ns.map V.int))∧H3 lf=some (.lst (ls.map V.int))∧ls.length≤64∧H lf=none∧lf≠r) (fun R hR=>?_) ?_
  ·refine ⟨_,rfl,Zl (show 0≤1000 by decide),fun p0 hp0=>?_⟩
   have s3:=Zb (o:=.lst []) hp0
   have hrow3:=s3 _ _ hrow2
   have hlf3:=s3 _ _ hlf2
   refine ⟨.list (ns.map PyData.int),.list (([]:List Int).map PyData.int),Yw hrow3,Yw (ns:=[]) Zc,Z4 ns,Z4 [],_,rfl,?_⟩
   rw [Zbn]
   have s13:=s12.trans s3
   generalize upd H2 p0 (.lst [])=H3 at s13 hrow3 hlf3
   cases ns with
   | nil=>exact Jg rfl (Jg rfl (hR _ _ ⟨lf,[],rfl,s13,hrow3,hlf3,by decide,hlfn,hlr⟩))
   | cons x xs =>
    refine ZaC rfl ?_
    have h0:atI ((x :: xs).map V.int) 0=some (.int x):=YF (by decide) rfl
    refine ⟨_,rfl,r,_,0,.int x,rfl,rfl,SqL.of hrow3,h0,_,_,rfl,rfl,(by show (0:Int) < 2; decide),rfl,_,rfl,?_⟩
    by_cases c:x % 2=1
    rotate_left
    ·exact Jg (Zej c) (hR _ _ ⟨lf,[],rfl,s13,hrow3,hlf3,by decide,hlfn,hlr⟩)
    refine ZaC (Zmu c) ?_
    refine ⟨_,rfl,r,_,0,.int x,rfl,rfl,SqL.of hrow3,h0,_,_,rfl,rfl,⟨by decide,by decide⟩,Zl (show 1≤1000 by decide),fun q1 hq1=>?_⟩
    have t1:=Zb (o:=.lst [.int (x / 2)]) hq1
    refine ⟨_,rfl,_,rfl,r,_,rfl,SqL.of (t1 _ _ hrow3),fun q2 hq2=>?_⟩
    rw [show Jk ((x :: xs).map V.int) (some 1) none=xs.map V.int from cut_from (i:=1) (by simp)]
    have t2:=Zb (o:=.lst (xs.map V.int)) hq2
    refine ⟨q1,q2,_,_,rfl,rfl,t2 _ _ Zc,Zc,Zl (by rw [List.length_map,List.length_singleton]; rw [List.length_cons] at hn; omega),fun q3 hq3=>?_⟩
    have t3:=Zb (o:=.lst ([.int (x / 2)] ++ xs.map V.int)) hq3
    have hrow6:=t3 _ _ (t2 _ _ (t1 _ _ hrow3))
    refine hR _ _ ⟨q3,x / 2 :: xs,rfl,s13.trans ((t1.trans t2).trans t3),hrow6,Zc,by rw [List.length_cons] at hn ⊢; omega,s13.free ((t1.trans t2).free hq3),fun e=>?_⟩
    rw [e,(t1.trans t2) _ _ hrow3] at hq3
    cases hq3
  clear hlf2 hrow2 s12 hlr hlfn
  clear lf H2
  rintro σ H3 ⟨lf,ls,rfl,s3,hrow,hlf,hls,hlfn,hlr⟩
  refine ⟨Zl (show 0≤1000 by decide),fun fd hfd=>?_⟩
  have t4:=Zb (o:=.lst []) hfd
  have hfr:fd≠r:=fun e=>by rw [e,hrow] at hfd; cases hfd
  have hfl:fd≠lf:=fun e=>by rw [e,hlf] at hfd; cases hfd
  have hfn:H fd=none:=s3.free hfd
  refine ⟨_,rfl,_,rfl,by omega,by omega,?_⟩
  rw [Int.toNat_natCast]
  refine Y0 (n:=m) (fun i σ H5=>∃ (ls fs:List Int) (z5 z6:Option V),σ=[some (.ref a),some (.int m),some (.ref r),some (.ref lf),some (.ref fd),z5,z6]∧Same H H5∧H5 r=some (.lst (ns.map V.int))∧H5 lf=some (.lst (ls.map V.int))∧ls.length≤64∧H5 fd=some (.lst (fs.map V.int))∧fs.length=i∧∀ x∈fs,0≤x∧x < 10 ^ 18)
   ⟨ls,[],none,none,rfl,s3.trans t4,t4 _ _ hrow,t4 _ _ hlf,hls,Zc,rfl,fun x hx=>by cases hx⟩ ?_ ?_
  ·clear t4 hfd hlf hrow s3 hls
   clear ls H3
   rintro i σ H5 hi ⟨ls,fs,z5,z6,rfl,s5,hrow,hlf,hls,hfd,hfs,hfb⟩
   refine ⟨_,rfl,_,rfl,r,ns,0 + (i:Int),rfl,hrow,hn,by omega,by omega,fun n0 H6 b0 b1 s6=>?_⟩
   have s56:=s5.trans s6
   have hrow6:=s6 _ _ hrow
   have hlf6:=s6 _ _ hlf
   have hfd6:=s6 _ _ hfd
   dsimp only
   refine Ym (fun σ H7=>∃ (ls:List Int) (n:Int),σ=[some (.ref a),some (.int m),some (.ref r),some (.ref lf),some (.ref fd),some (.int (0 + (i:Int))),some (.int n)]∧Same H H7∧H7 r=some (.lst (ns.map V.int))∧H7 lf=some (.lst (ls.map V.int))∧ls.length≤64∧H7 fd=some (.lst (fs.map V.int))∧0≤n∧n < 10 ^ 18) (fun R hR=>?_) ?_
   ·refine ⟨_,rfl,Zl (show 0≤1000 by decide),fun p0 hp0=>?_⟩
    have t7:=Zb (o:=.lst []) hp0
    have hlf7:=t7 _ _ hlf6
    have hrow7:=t7 _ _ hrow6
    have hfd7:=t7 _ _ hfd6
    refine ⟨.list (ls.map PyData.int),.list (([]:List Int).map PyData.int),Yw hlf7,Yw (ns:=[]) Zc,Z4 ls,Z4 [],_,rfl,?_⟩
    rw [Zbn]
    have s57:=s56.trans t7
    generalize upd H6 p0 (.lst [])=H7 at s57 hlf7 hrow7 hfd7
    by_cases hne:ls.length=0
    ·rw [List.length_eq_zero_iff.mp hne] at hlf7 ⊢
     exact Jg rfl (Jg rfl (hR _ _ ⟨[],n0,rfl,s57,hrow7,hlf7,by decide,hfd7,b0,by omega⟩))
    refine ZaC (by cases ls with | nil=>exact absurd rfl hne | cons _ _=>rfl) ?_
    have hlp:(0:Int) < ((ls.map V.int).length:Int):=by rw [List.length_map]; omega
    have mb:=ZM (0 + (i:Int)) hlp
    have hat:=Zda (ns:=ls) (i:=(0 + (i:Int)) % ((ls.map V.int).length:Int)) mb.1 (by have:=mb.2; rw [List.length_map] at this ⊢; exact this)
    refine ⟨_,rfl,_,rfl,_,rfl,.ref lf,_,rfl,.inl ⟨_,SqL.of hlf7,rfl⟩,_,_,rfl,rfl,hlp,lf,_,_,_,rfl,rfl,SqL.of hlf7,hat,_,rfl,Zl (show 2≤1000 by decide),fun t ht=>?_⟩
    have t8:=Zb (o:=.tup [.int 0,.int (-1)]) ht
    have hlf8:=t8 _ _ hlf7
    have hrow8:=t8 _ _ hrow7
    have hfd8:=t8 _ _ hfd7
    have s58:=s57.trans t8
    refine ⟨t,_,rfl,.inr (SqT.of Zc),rfl,rfl,_,rfl,?_⟩
    generalize upd H7 t (.tup [.int 0,.int (-1)])=H8 at s58 hlf8 hrow8 hfd8
    refine Zde (fun _=>?_) (fun _=>hR _ _ ⟨ls,n0,rfl,s58,hrow8,hlf8,hls,hfd8,b0,by omega⟩)
    refine ⟨_,rfl,_,rfl,_,rfl,.ref lf,_,rfl,.inl ⟨_,SqL.of hlf8,rfl⟩,_,_,rfl,rfl,hlp,lf,_,_,_,rfl,rfl,SqL.of hlf8,hat,_,_,rfl,rfl,⟨by decide,by decide,by decide⟩,_,_,rfl,rfl,(by show (0:Int) < 10 ^ 18; decide),?_⟩
    have md:=ZM (ls.getD ((0 + (i:Int)) % ((ls.map V.int).length:Int)).toNat 0) (show (0:Int) < 10 ^ 18 by decide)
    refine ⟨_,rfl,_,rfl,_,rfl,.ref lf,_,rfl,.inl ⟨_,SqL.of hlf8,rfl⟩,_,_,rfl,rfl,hlp,lf,_,_,_,rfl,rfl,SqL.of hlf8,hat,_,_,rfl,rfl,⟨by decide,by decide,by decide⟩,_,_,rfl,rfl,⟨by decide,by decide +kernel⟩,?_⟩
    refine ⟨_,rfl,_,rfl,_,rfl,.ref lf,_,rfl,.inl ⟨_,SqL.of hlf8,rfl⟩,_,_,rfl,rfl,hlp,lf,_,_,((0 + (i:Int)) % ((ls.map V.int).length:Int)).toNat,rfl,rfl,hlf8,?_,?_⟩
    ·unfold ixN
     rw [if_pos mb.1,if_pos mb.2]
    refine hR _ _ ⟨ls.set ((0 + (i:Int)) % ((ls.map V.int).length:Int)).toNat ((ls.getD ((0 + (i:Int)) % ((ls.map V.int).length:Int)).toNat 0).fdiv (10 ^ 18)),_,rfl,fun b u hb=>?_,?_,?_,?_,?_,md.1,md.2⟩
    ·rw [Zi (Zj hb hlfn)]
     exact s58 b u hb
    ·rw [Zi (Ne.symm hlr)]
     exact hrow8
    ·rw [Zc,List.map_set]
     rfl
    ·rw [List.length_set]
     exact hls
    ·rw [Zi hfl]
     exact hfd8
   clear hlf6 hrow6 hfd6 s56 s6 hlf hls hfd s5 hrow b0 b1
   clear ls H6 n0
   rintro σ H7 ⟨ls,n,rfl,s7,hrow,hlf,hls,hfd,n0,n1⟩
   refine ⟨_,rfl,.inl ⟨rfl,_,SqL.of hfd⟩,_,rfl,fd,_,.int n,rfl,rfl,hfd,by rw [List.length_map]; exact ZQ (by omega),?_⟩
   refine ⟨ls,fs ++ [n],_,_,rfl,fun b u hb=>?_,?_,?_,hls,?_,by rw [List.length_append,hfs]; rfl,fun x hx=>?_⟩
   ·rw [Zi (Zj hb hfn)]
    exact s7 b u hb
   ·rw [Zi (Ne.symm hfr)]
    exact hrow
   ·rw [Zi (Ne.symm hfl)]
    exact hlf
   ·rw [Zc,List.map_append]
    rfl
   ·rcases List.mem_append.mp hx with z | z
    ·exact hfb x z
    ·rw [List.mem_singleton.mp z]
     exact ⟨n0,n1⟩
  ·rintro σ H5 ⟨ls,fs,z5,z6,rfl,s5,hrow,hlf,hls,hfd,hfs,hfb⟩
   refine ⟨_,rfl,fd,_,rfl,SqL.of hfd,fun Dk hDk=>?_⟩
   exact k Dk _ (s5.trans (Zb hDk)) ⟨fs.reverse,by rw [Zc,List.map_reverse],by rw [List.length_reverse]; omega,fun x hx=>hfb x (List.mem_reverse.mp hx)⟩
end
theorem ZiN {ns:List Int} {j:Nat} (h:j < ns.length):ns.getD j 0∈ns:=by
 rw [List.getD_eq_getElem?_getD,List.getElem?_eq_getElem h]
 exact List.getElem_mem h
theorem ZkO {ns:List Int} {i:Int} {lo hi:Int} (h0:0≤i) (h1:i < ns.length) (hb:∀ x∈ns,lo≤x∧x≤hi) (hl:0≤lo):∃ v:Nat,atI (ns.map V.int) i=some (.int (v:Int))∧lo≤v∧(v:Int)≤hi:=by
 have hm:=ZiN (ns:=ns) (j:=i.toNat) (by omega)
 have:=hb _ hm
 refine ⟨(ns.getD i.toNat 0).toNat,?_,by omega,by omega⟩
 rw [Zda h0 h1,Int.toNat_of_nonneg (by omega)]
section
variable {P:Program} {w:World} {K:PySem.W.Frag} {mg:Str→Option Value} {base:Heap}
end
theorem cut_to {ns:List Int} {m:Nat}:Jk (ns.map V.int) none (some (m:Int))=(ns.take m).map V.int:=by
 unfold Jk
 rw [HT.sIx_none,HT.sIx_nat,List.drop_zero,Nat.sub_zero,List.map_take,List.length_map]
 apply List.ext_getElem?
 intro i
 rw [List.getElem?_take,List.getElem?_take]
 by_cases h:i < m
 ·rw [if_pos h]
  by_cases h2:i < ns.length
  ·rw [if_pos (by omega)]
  ·rw [if_neg (by omega),List.getElem?_eq_none (by rw [List.length_map]; omega)]
 ·rw [if_neg h,if_neg (by omega)]
def Jl (z:List Nat) (L:Nat):List Str:=(List.range (z.length - L + 1)).map fun i=>tx ((z.drop i).take L)
theorem ZkS {mp:List Nat} {σ:L2.St} {H1:Hp} {Q:VK} {z:List Nat} {L:Nat} (o:1≤L) (l:L≤z.length) (hz:z.length≤100) (hS:lcS 1 mp σ=[none,some (.int L),some (.str (tx z))]) (done:∀ D H',Same H1 H'→H1 D=none→H' D=some (.lst ((Jl z L).map V.str))→Q (.ref D) H') :
  XI 1 mp σ (Zak 0) Zj8 (tSl ZnB (ZhF 2) (Zj9 (ZhF 0)) (Zj9 (tOp (rI0 fun i j=>V.int (i + j)) (ZhF 0) (ZhF 1)))) (Itr 0 (z.length - L + 1)) H1 Q:=by
 refine YL (z.length - L + 1) (fun i=>.int (0 + i)) (fun i v _=>v = .str (tx ((z.drop i).take L))) (Zl (by omega)) (fun _ _ _ _ _ r=>r) Zeh ?_ ?_
 ·intro i H3 Qe hi hs kq
  rw [hS]
  refine ⟨_,rfl,_,rfl,_,rfl,_,rfl,_,rfl,_,_,rfl,rfl,_,rfl,_,rfl,Z9 (by omega),kq _ _ (Same.refl _) ?_⟩
  refine congrArg V.str (ZZ ?_)
  rw [JK (by omega) (by omega) (by rw [ZH]; omega),ZO,ZO]
  congr 1
  ·omega
  ·congr 1
   omega
 intro D1 vs1 H3 hlv1 hr1 hs3 hD1 hDl1
 have e1:=Zdw (f:=fun i=>V.str (tx ((z.drop i).take L))) hlv1 hr1
 refine done D1 H3 hs3 hD1 ?_
 rw [hDl1,e1]
 unfold Jl
 rw [List.map_map]
 rfl
section
variable {P:Program} {w:World} {K:PySem.W.Frag} {mg:Str→Option Value} {base:Heap}
end
theorem ZiJ {H:Hp} {v:V} {hp:List Pr} (h:HpAt H v hp):HeapV H v hp:=by
 obtain ⟨a,xs,e,ha,hl,r⟩:=h
 refine ⟨a,xs,e,ha,hl,fun i p q=>?_⟩
 obtain ⟨b,eb,hb⟩:=r i p q
 have hi:i < xs.length:=by rw [hl]; exact (List.getElem?_eq_some_iff.mp q).1
 rw [List.getD_eq_getElem?_getD,List.getElem?_eq_getElem hi] at eb
 exact ⟨b,by rw [List.getElem?_eq_getElem hi]; exact congrArg some eb,hb⟩
theorem ZiI {ps:List Str} {hp:List Pr} (h:ZS ps hp):hp.length≤ps.length:=by
 have nd:(hp.map (·.1)).Nodup:=by
  rw [List.nodup_iff_pairwise_ne,List.pairwise_map]
  refine List.Pairwise.imp ?_ (List.pairwise_map.mp h.srt)
  intro x y hxy e
  rw [e] at hxy
  exact List.lt_irrefl _ hxy
 have:=Y9 nd fun x hx=>(h.mem x).mp hx
 rw [List.length_map] at this
 exact this
def pnt (z:List Nat) (L i:Nat):Str:=tx ((z.drop i).take (L - 1))
theorem ZhG {z:List Nat} {L:Nat} {x:Str} (l:L≤z.length) (h:x∈Jl z L):x.length=L:=by
 unfold Jl at h
 obtain ⟨i,hi,rfl⟩:=List.mem_map.mp h
 have:=List.mem_range.mp hi
 rw [ZH,List.length_take,List.length_drop]
 omega
theorem Zlp {z:List Nat} {L:Nat} {x:Str} (o:1≤L) (l:L≤z.length) (h:x∈Jl z L):bg x∈(List.range (z.length - L + 2)).map (pnt z L)∧en x∈(List.range (z.length - L + 2)).map (pnt z L):=by
 unfold Jl at h
 obtain ⟨i,hi,rfl⟩:=List.mem_map.mp h
 have:=List.mem_range.mp hi
 constructor
 ·refine List.mem_map.mpr ⟨i,List.mem_range.mpr (by omega),?_⟩
  unfold bg pnt
  rw [ZO,List.dropLast_eq_take,List.length_take,List.length_drop,List.take_take]
  congr 2
  omega
 ·refine List.mem_map.mpr ⟨i + 1,List.mem_range.mpr (by omega),?_⟩
  unfold en pnt
  rw [ZO,List.drop_take,List.drop_drop]
end Sh
namespace Sh
open PySem L2 PyProof.Rows
def fc:Nat→Nat
 | 0=>1
 | n + 1=>(n + 1) * fc n
theorem ZjS:∀ n,0 < fc n
 | 0=>Nat.one_pos
 | n + 1=>Nat.mul_pos (Nat.succ_pos n) (ZjS n)
theorem Zch:∀ s a b,a + b=s→fc a * fc b ∣ fc (a + b)
 | 0,a,b,h=>by
  have:a=0∧b=0:=by omega
  obtain ⟨rfl,rfl⟩:=this
  exact ⟨1,rfl⟩
 | s + 1,0,b,h=>by rw [Nat.zero_add]; exact ⟨1,by show fc b=1 * fc b * 1; omega⟩
 | s + 1,a + 1,0,h=>⟨1,by show fc (a + 1)=fc (a + 1) * 1 * 1; omega⟩
 | s + 1,a + 1,b + 1,h=>by
  have h1:=Zch s a (b + 1) (by omega)
  have h2:=Zch s (a + 1) b (by omega)
  have e:fc (a + 1 + (b + 1))=(a + 1) * fc (a + (b + 1)) + (b + 1) * fc (a + 1 + b):=by
   have e1:a + 1 + (b + 1)=(a + b + 1) + 1:=by omega
   have e2:a + (b + 1)=a + b + 1:=by omega
   have e3:a + 1 + b=a + b + 1:=by omega
   rw [e1,e2,e3]
   show (a + b + 1 + 1) * fc (a + b + 1)=_
   rw [← Nat.add_mul]
   congr 1
   omega
  rw [e]
  refine Nat.dvd_add ?_ ?_
  ·show (a + 1) * fc a * fc (b + 1) ∣ _
   rw [Nat.mul_assoc]
   exact Nat.mul_dvd_mul_left _ h1
  ·show fc (a + 1) * ((b + 1) * fc b) ∣ _
   rw [Nat.mul_left_comm]
   exact Nat.mul_dvd_mul_left _ h2
def Zf9 (ms:List Nat):Nat:=ms.foldr (fun m p=>fc m * p) 1
theorem X2 (m:Nat) (ms:List Nat):Zf9 (m :: ms)=fc m * Zf9 ms:=rfl
theorem ZaX:∀ ms:List Nat,Zf9 ms ∣ fc ms.sum
 | []=>⟨1,rfl⟩
 | m :: ms=>by
  rw [X2,List.sum_cons]
  exact Nat.dvd_trans (Nat.mul_dvd_mul_left _ (ZaX ms)) (Zch _ _ _ rfl)
theorem ZgM:∀ (ms:List Nat) (m:Nat),m∈ms→m≤ms.sum
 | [],m,h=>by cases h
 | n :: ms,m,h=>by
  rw [List.sum_cons]
  rcases List.mem_cons.mp h with e | e
  ·omega
  ·have:=ZgM ms m e
   omega
theorem ZbO:∀ (ms:List Nat) (m:Nat),m∈ms→Zf9 ms ∣ m * fc (ms.sum - 1)
 | [],m,h=>by cases h
 | n :: ms,m,h=>by
  rw [X2,List.sum_cons]
  cases m with
  | zero=>rw [Nat.zero_mul]; exact Nat.dvd_zero _
  | succ k =>
  rcases List.mem_cons.mp h with e | e
  ·subst e
   show (k + 1) * fc k * _ ∣ _
   rw [Nat.mul_assoc,show k + 1 + ms.sum - 1=k + ms.sum by omega]
   exact Nat.mul_dvd_mul_left _ (Nat.dvd_trans (Nat.mul_dvd_mul_left _ (ZaX ms)) (Zch _ _ _ rfl))
  ·have h1:=ZbO ms (k + 1) e
   have hs:k + 1≤ms.sum:=ZgM ms _ e
   rw [show n + ms.sum - 1=n + (ms.sum - 1) by omega]
   refine Nat.dvd_trans (Nat.mul_dvd_mul_left _ h1) ?_
   rw [Nat.mul_left_comm]
   exact Nat.mul_dvd_mul_left _ (Zch _ _ _ rfl)
def fI (x:Int):Int:=(fc x.toNat:Int)
theorem Zaa (x:Int):1≤fI x:=by
 have:=ZjS x.toNat
 unfold fI
 omega
def prI (l:List Int):Int:=l.foldr (fun a b=>a * b) 1
theorem ZaZ:prI []=1:=rfl
theorem Zs (a:Int) (l:List Int):prI (a :: l)=a * prI l:=rfl
theorem Za0:∀ a b:List Int,prI (a ++ b)=prI a * prI b
 | [],b=>by rw [List.nil_append,ZaZ,Int.one_mul]
 | x :: a,b=>by rw [List.cons_append,Zs,Zs,Za0 a b,Int.mul_assoc]
theorem Zgb:∀ l:List Int,(Zf9 (l.map Int.toNat):Int)=prI (l.map fI)
 | []=>rfl
 | x :: l=>by
  rw [List.map_cons,List.map_cons,X2,Zs,← Zgb l,Int.natCast_mul]
  rfl
theorem Yi:∀ l:List Int,(∀ x∈l,0≤x)→(l.map Int.toNat).sum=l.sum.toNat∧0≤l.sum
 | [],_=>⟨rfl,Int.le_refl _⟩
 | x :: l,h=>by
  obtain ⟨e,p⟩:=Yi l fun y hy=>h y (List.mem_cons_of_mem _ hy)
  have hx:=h x List.mem_cons_self
  rw [List.map_cons,List.sum_cons,List.sum_cons,e]
  omega
theorem Zld {l:List Int} (h:∀ x∈l,0≤x):prI (l.map fI) ∣ fI l.sum:=by
 have:=ZaX (l.map Int.toNat)
 rw [(Yi l h).1] at this
 rw [← Zgb]
 exact Int.natCast_dvd_natCast.mpr this
theorem Zlc {l:List Int} (h:∀ x∈l,0≤x) {m:Int} (hm:m∈l):prI (l.map fI) ∣ m * fI (l.sum - 1):=by
 have:=ZbO (l.map Int.toNat) m.toNat (List.mem_map.mpr ⟨m,hm,rfl⟩)
 rw [(Yi l h).1] at this
 rw [← Zgb]
 have h2:=Int.natCast_dvd_natCast.mpr this
 rw [Int.natCast_mul,Int.toNat_of_nonneg (h m hm)] at h2
 have e:fI (l.sum - 1)=(fc (l.sum.toNat - 1):Int):=by
  unfold fI
  congr 2
  omega
 rw [e]
 exact h2
theorem Zfs {d:Int}:∀ l:List Int,(∀ x∈l,d ∣ x)→d ∣ l.sum
 | [],_=>Int.dvd_zero _
 | x :: l,h=>by
  rw [List.sum_cons]
  exact Int.dvd_add (h x List.mem_cons_self) (Zfs l fun y hy=>h y (List.mem_cons_of_mem _ hy))
theorem Jr (c:Int):∀ l:List Int,l.sum * c=(l.map fun x=>x * c).sum
 | []=>by simp
 | x :: l=>by rw [List.sum_cons,List.map_cons,List.sum_cons,Int.add_mul,Jr c l]
theorem ZbF {n:Nat} {T:Nat→List Tie} (G A:Nat→Int) (h:∀ i,i < n→∀ t∈T i,G i ∣ t.2 * A i):∀ (k:Nat) (ch:List Nat),ch.length + k=n→prI ((List.range' ch.length k).map G) ∣ ZD n T k ch * prI ((List.range' ch.length k).map A)
 | 0,ch,_=>⟨ZD n T 0 ch,by show _ * 1=1 * _; rw [Int.mul_one,Int.one_mul]⟩
 | k + 1,ch,hl=>by
  unfold ZD
  rw [show List.range' ch.length (k + 1)=ch.length :: List.range' (ch.length + 1) k from rfl,List.map_cons,List.map_cons,Zs,Zs,Jr,List.map_map]
  refine Zfs _ fun x hx=>?_
  obtain ⟨t,ht,rfl⟩:=List.mem_map.mp hx
  have ih:=ZbF G A h k (ch ++ [t.1]) (by rw [List.length_append,List.length_singleton]; omega)
  rw [List.length_append,List.length_singleton] at ih
  have h1:=h ch.length (by omega) t ht
  have:=Int.mul_dvd_mul h1 ih
  show _ ∣ t.2 * ZD n T k (ch ++ [t.1]) * (A ch.length * prI _)
  have e:t.2 * ZD n T k (ch ++ [t.1]) * (A ch.length * prI ((List.range' (ch.length + 1) k).map A))=t.2 * A ch.length * (ZD n T k (ch ++ [t.1]) * prI ((List.range' (ch.length + 1) k).map A)):=by
   rw [Int.mul_assoc,Int.mul_assoc,Int.mul_left_comm (ZD n T k (ch ++ [t.1]))]
  rw [e]
  exact this
theorem YQ {n:Nat} {T:Nat→List Tie} (h:∀ i,∀ t∈T i,0≤t.2):∀ (k:Nat) (ch:List Nat),0≤ZD n T k ch
 | 0,ch=>by
  unfold ZD
  split <;> decide
 | k + 1,ch=>by
  unfold ZD
  have:∀ l:List Int,(∀ x∈l,0≤x)→0≤l.sum:=fun l hl=>(Yi l hl).2
  refine this _ fun x hx=>?_
  obtain ⟨t,ht,rfl⟩:=List.mem_map.mp hx
  exact Int.mul_nonneg (h _ t ht) (YQ h k _)
def gS (es:Es) (x:Str):Int:=prI ((es.filter fun e=>decide (bg e.1=x)).map fun e=>fI e.2)
theorem ZaY {g:Str→Int}:∀ l:List Str,(∀ x∈l,g x=1)→prI (l.map g)=1
 | [],_=>rfl
 | x :: l,h=>by
  rw [List.map_cons,Zs,h x List.mem_cons_self,ZaY l fun y hy=>h y (List.mem_cons_of_mem _ hy)]
  rfl
theorem Yr {g f:Str→Int} {y:Str} {c:Int}:∀ l:List Str,l.Nodup→y∈l→f y=c * g y→(∀ x∈l,x≠y→f x=g x)→prI (l.map f)=c * prI (l.map g)
 | [],_,h,_,_=>by cases h
 | x :: l,nd,h,hy,ho=>by
  obtain ⟨n1,n2⟩:=List.nodup_cons.mp nd
  rw [List.map_cons,List.map_cons,Zs,Zs]
  by_cases e:x=y
  ·subst e
   have:l.map f=l.map g:=List.map_congr_left fun z hz=>ho z (List.mem_cons_of_mem _ hz) fun q=>n1 (q ▸ hz)
   rw [hy,this,Int.mul_assoc]
  ·have hm:y∈l:=(List.mem_cons.mp h).resolve_left fun q=>e q.symm
   rw [ho x List.mem_cons_self e,Yr l n2 hm hy fun z hz=>ho z (List.mem_cons_of_mem _ hz),Int.mul_left_comm]
theorem ZbS {rs:List Str} (nd:rs.Nodup):∀ es:Es,(∀ e∈es,bg e.1∈rs)→prI (es.map fun e=>fI e.2)=prI (rs.map (gS es))
 | [],_=>(ZaY rs fun x _=>rfl).symm
 | e :: es,h=>by
  rw [List.map_cons,Zs,ZbS nd es fun z hz=>h z (List.mem_cons_of_mem _ hz)]
  refine (Yr (y:=bg e.1) rs nd (h e List.mem_cons_self) ?_ fun x _ hx=>?_).symm
  ·unfold gS
   rw [List.filter_cons_of_pos (by simp),List.map_cons,Zs]
  ·unfold gS
   rw [List.filter_cons_of_neg (by simp; exact fun q=>hx q.symm)]
theorem ZcW {es:Es} (hF:X9 es) (y:Str):∀ x∈(es.filter fun e=>decide (bg e.1=y)).map fun e=>e.2,0≤x:=fun x hx=>by
 obtain ⟨e,he,rfl⟩:=List.mem_map.mp hx
 exact (hF.many e (List.mem_filter.mp he).1).1
theorem ZjO (es:Es) (y:Str):gS es y=prI (((es.filter fun e=>decide (bg e.1=y)).map fun e=>e.2).map fI):=by
 unfold gS
 rw [List.map_map]
 rfl
noncomputable def ZkD (ss:List Str) (es:Es) (r:Str):Int:=YI (othL ss r) es * fI (Zaw es r) * prI ((othL ss r).map fun x=>fI (Zaw es x - 1))
theorem ZkC {es:Es} {ss:List Str} {r:Str} (hF:X9 es) (hS:SPts es ss):prI (es.map fun e=>fI e.2) ∣ ZkD ss es r:=by
 have nd0:(othL ss r).Nodup:=by unfold othL; exact hS.pts.nd.filter _
 have nr:r∉othL ss r:=by
  unfold othL
  intro q
  have:=(List.mem_filter.mp q).2
  simp at this
 have hb:∀ e∈es,bg e.1∈r :: othL ss r:=fun e he=>by
  have:=(hS.pts.mem (bg e.1)).mpr ⟨e,he,.inl rfl⟩
  by_cases c:bg e.1=r
  ·rw [c]; exact List.mem_cons_self
  ·refine List.mem_cons_of_mem _ ?_
   unfold othL
   exact List.mem_filter.mpr ⟨this,by simp [c]⟩
 rw [ZbS (rs:=r :: othL ss r) (List.nodup_cons.mpr ⟨nr,nd0⟩) es hb,List.map_cons,Zs]
 unfold ZkD
 have h1:gS es r ∣ fI (Zaw es r):=by
  rw [ZjO]
  exact Zld (ZcW hF r)
 generalize othL ss r=os at *
 have h2:=ZbF (n:=os.length) (T:=ZT os es) (fun i=>gS es (os.getD i "")) (fun i=>fI (Zaw es (os.getD i "") - 1)) (fun i hi t ht=>by
  unfold ZT at ht
  obtain ⟨e,he,rfl⟩:=List.mem_map.mp ht
  obtain ⟨he1,he2⟩:=List.mem_filter.mp he
  have he3:os.idxOf (bg e.1)=i:=of_decide_eq_true he2
  have hin:bg e.1∈os:=List.idxOf_lt_length_iff.mp (by omega)
  have hat:os.getD i "" = bg e.1:=by
   rw [List.getD_eq_getElem?_getD,List.getElem?_eq_getElem hi]
   subst he3
   show os[os.idxOf (bg e.1)]=_
   exact List.getElem_idxOf hi
  dsimp only
  rw [hat,ZjO]
  exact Zlc (ZcW hF _) (List.mem_map.mpr ⟨e,List.mem_filter.mpr ⟨he1,by simp⟩,rfl⟩)) os.length [] (by simp)
 have e1:∀ g:Str→Int,(List.range' ([]:List Nat).length os.length).map (fun i=>g (os.getD i ""))=os.map g:=fun g=>by
  show (List.range' 0 os.length).map _=_
  rw [← List.range_eq_range']
  conv=>rhs; rw [← range_getD os ""]
  rw [List.map_map]
  rfl
 rw [e1 (gS es),e1 fun x=>fI (Zaw es x - 1)] at h2
 have h3:=Int.mul_dvd_mul h1 h2
 have e2:YI os es * fI (Zaw es r) * prI (os.map fun x=>fI (Zaw es x - 1))=fI (Zaw es r) * (ZD os.length (ZT os es) os.length [] * prI (os.map fun x=>fI (Zaw es x - 1))):=by
  unfold YI
  rw [Int.mul_comm (ZD os.length (ZT os es) os.length []),Int.mul_assoc]
 rw [e2]
 exact h3
theorem JS:∀ l:List Int,(∀ x∈l,1≤x)→1≤prI l
 | [],_=>Int.le_refl _
 | x :: l,h=>by
  rw [Zs]
  have h1:=JS l fun y hy=>h y (List.mem_cons_of_mem _ hy)
  have h2:=h x List.mem_cons_self
  have:=Int.mul_le_mul h2 h1 (by decide) (by omega)
  rwa [Int.one_mul] at this
theorem ZhJ {es:Es} (hF:X9 es) (os:List Str):0≤YI os es:=YQ (fun i t ht=>by
 unfold ZT at ht
 obtain ⟨e,he,rfl⟩:=List.mem_map.mp ht
 exact (hF.many e (List.mem_filter.mp he).1).1) _ _
theorem ZlU {es:Es} (hF:X9 es) (ss:List Str) (r:Str):0≤ZkD ss es r:=by
 unfold ZkD
 refine Int.mul_nonneg (Int.mul_nonneg (ZhJ hF _) (by have:=Zaa (Zaw es r); omega)) ?_
 have:=JS ((othL ss r).map fun x=>fI (Zaw es x - 1)) fun y hy=>by
  obtain ⟨x,_,rfl⟩:=List.mem_map.mp hy
  exact Zaa _
 omega
end Sh
namespace Sh
open PySem L2 PyProof.Rows
seal L2.PE L2.PS L2.PSs L2.PT L2.PW L2.PA L2.PI L2.PG L2.PGs L2.PO L2.PC L2.PCs L2.OpR L2.UnR L2.CallR L2.MtR L2.IxR L2.SlR
theorem Zmc {K:PySem.W.Frag} {mp:List Nat} {σ:L2.St} {H1:Hp} {Q:VK} {q:Addr} {vs:List V} {es:Es} (hS:lcS 2 mp σ=[none,none]) (hq:H1 q=some (.tup vs)) (hpa:PA H1 vs es) (hl:es.length≤1000)
  (done:∀ D H',Same H1 H'→H' D=some (.lst ((es.map fun e=>e.2).map V.int))→Q (.ref D) H'):XI 2 mp σ (Znn K 2 (Zk9 (Zak 0) (Zk9 (Zak 1) ZnI))) Zj8 (ZhF 1) (Itt K q) H1 Q:=by
 refine YL vs.length (fun i=>vs.getD i .non) (fun i v _=>v = .int (es.getD i ("",0)).2) (Zl (by rw [hpa.1]; exact hl)) (fun _ _ _ _ _ r=>r) (ZaA (SqT.of hq)) ?_ ?_
 ·intro i H Qe hi hs kq
  have hie:i < es.length:=by rw [← hpa.1]; exact hi
  obtain ⟨b,e1,e2⟩:=hpa.2 i es[i] (List.getElem?_eq_getElem hie)
  have ev:vs.getD i .non = .ref b:=by rw [List.getD_eq_getElem?_getD,e1]; rfl
  have ee:es.getD i ("",0)=es[i]:=by rw [List.getD_eq_getElem?_getD,List.getElem?_eq_getElem hie]; rfl
  rw [ev,hS]
  refine ⟨b,_,rfl,SqT.of (hs _ _ e2),rfl,_,_,rfl,_,_,rfl,rfl,_,rfl,kq _ _ (Same.refl _) ?_⟩
  rw [ee]
 ·intro D us H' hul hR hs hD hDl
  refine done D H' hs ?_
  rw [hDl]
  congr 2
  apply List.ext_getElem?
  intro i
  by_cases hi:i < us.length
  ·have hie:i < es.length:=by rw [← hpa.1,← hul]; exact hi
   rw [List.getElem?_eq_getElem hi,hR i _ (List.getElem?_eq_getElem hi),List.getElem?_map,List.getElem?_map,List.getElem?_eq_getElem hie,List.getD_eq_getElem?_getD,List.getElem?_eq_getElem hie]
   rfl
  ·rw [List.getElem?_eq_none (by omega),List.getElem?_eq_none (by rw [List.length_map,List.length_map]; have:=hpa.1; omega)]
theorem Zft:∀ {l:List Int} {b:Nat},(∀ x∈l,0≤x∧x≤b)→0≤l.sum∧l.sum≤b * l.length
 | [],b,_=>by simp
 | x :: l,b,h=>by
  have ih:=Zft (l:=l) (b:=b) fun y hy=>h y (List.mem_cons_of_mem _ hy)
  have hx:=h x (List.mem_cons_self ..)
  rw [List.sum_cons,List.length_cons]
  push_cast
  rw [Int.mul_add,Int.mul_one]
  omega
theorem ZkP {l:List Int} (h:∀ x∈l,0≤x∧x≤(64000:Nat)) (hl:l.length≤128):(∀ x∈l,InLong x)∧∀ k,InLong (l.take k).sum:=by
 constructor
 ·intro x hx
  have:=h x hx
  unfold InLong
  omega
 ·intro k
  have h1:=Zft (l:=l.take k) (b:=64000) fun x hx=>h x (List.mem_of_mem_take hx)
  have h2:(l.take k).length≤128:=by rw [List.length_take]; omega
  unfold InLong
  omega
theorem Zj2 (f:Str→Int) (ss:List Str):(ups f ss).length≤ss.length:=by
 unfold ups
 rw [List.length_map]
 exact List.length_filter_le _ _
theorem ZhI {es:Es} (hF:X9 es) {f:Str→Int} (hf:∀ x,(f x).natAbs=(mo es x).natAbs) {ss:List Str} (hp:SPts es ss):(∀ x∈(ups f ss).map fun e=>e.2,InLong x)∧(∀ k,InLong (((ups f ss).map fun e=>e.2).take k).sum)∧(ups f ss).length≤1000:=by
 have hb:∀ x,(f x).natAbs≤64000:=fun x=>by
  rw [hf]
  have:=Zmb (es:=es) (b:=1000) x hF.many
  have:=hF.few
  omega
 have hl:(ups f ss).length≤128:=by
  have:=Zj2 f ss
  have:=hp.pts.len
  have:=hF.few
  omega
 obtain ⟨a1,a2⟩:=ZkP (l:=(ups f ss).map fun e=>e.2) (fun x hx=>by
  obtain ⟨e,he,rfl⟩:=List.mem_map.mp hx
  have:=Zlq hb ss e he
  omega) (by rw [List.length_map]; exact hl)
 exact ⟨a1,a2,by omega⟩
theorem ZbG {n:Nat} {T:Nat→List Tie} {b:Nat} (hT:∀ r,((T r).map fun t=>t.2.natAbs).sum≤b) (hb:1≤b):∀ (k:Nat) (ch:List Nat),(ZD n T k ch).natAbs≤b ^ k
 | 0,ch=>by
  unfold ZD
  split <;> simp
 | k + 1,ch=>by
  unfold ZD
  have key:∀ ts:List Tie,((ts.map fun t=>t.2 * ZD n T k (ch ++ [t.1])).sum).natAbs≤((ts.map fun t=>t.2.natAbs).sum) * b ^ k:=fun ts=>by
   induction ts with
   | nil=>simp
   | cons t ts ih =>
    rw [List.map_cons,List.sum_cons,List.map_cons,List.sum_cons,Nat.add_mul]
    refine Nat.le_trans (Int.natAbs_add_le _ _) (Nat.add_le_add ?_ ih)
    rw [Int.natAbs_mul]
    exact Nat.mul_le_mul_left _ (ZbG hT hb k _)
  refine Nat.le_trans (key _) ?_
  rw [Nat.pow_succ,Nat.mul_comm (b ^ k)]
  exact Nat.mul_le_mul_right _ (hT _)
theorem Zj5 {es:Es} (hF:X9 es) (os:List Str) (r:Nat):((ZT os es r).map fun t=>t.2.natAbs).sum≤64000:=by
 have key:∀ l:List Tie,(∀ t∈l,t.2.natAbs≤1000)→(l.map fun t=>t.2.natAbs).sum≤1000 * l.length:=fun l=>by
  induction l with
  | nil=>intro _; simp
  | cons t l ih =>
   intro h
   have:=ih fun u hu=>h u (List.mem_cons_of_mem _ hu)
   have:=h t List.mem_cons_self
   rw [List.map_cons,List.sum_cons,List.length_cons]
   omega
 have h1:=key (ZT os es r) fun t ht=>by
  unfold ZT at ht
  obtain ⟨e,he,rfl⟩:=List.mem_map.mp ht
  have:=hF.many e (List.mem_filter.mp he).1
  dsimp only
  omega
 have h2:(ZT os es r).length≤es.length:=by
  unfold ZT
  rw [List.length_map]
  exact List.length_filter_le _ _
 have:=hF.few
 omega
theorem Zhe:∀ {a b:Nat},a≤b→fc a≤fc b
 | a,0,h=>by rw [Nat.le_zero.mp h]; exact Nat.le_refl _
 | a,b + 1,h=>by
  by_cases e:a=b + 1
  ·rw [e]; exact Nat.le_refl _
  ·refine Nat.le_trans (Zhe (b:=b) (by omega)) ?_
   show fc b≤(b + 1) * fc b
   exact Nat.le_mul_of_pos_left _ (Nat.succ_pos b)
theorem Zmw {n:Nat} (h:n≤25):fc n < 2 ^ 84:=Nat.lt_of_le_of_lt (Zhe h) (by decide)
theorem Zhf {x:Int} (h:x≤25):Sm 84 (fI x):=by
 show (fI x).natAbs < 2 ^ 84
 unfold fI
 rw [Int.natAbs_natCast]
 exact Zmw (by omega)
theorem Zdz {es:Es} (hF:X9 es) {os:List Str} (h:os.length≤31):Sm 500 (YI os es):=by
 show (YI os es).natAbs < 2 ^ 500
 unfold YI
 refine Nat.lt_of_le_of_lt (ZbG (b:=64000) (Zj5 hF os) (by decide) os.length []) ?_
 exact Nat.lt_of_le_of_lt (Nat.pow_le_pow_right (by decide) h) (by decide +kernel)
theorem Zjv {g:Str→Int} (hg:∀ x,Sm 84 (g x)):∀ l:List Str,Sm (84 * l.length + 1) (prI (l.map g))
 | []=>by show (1:Int).natAbs < 2 ^ 1; decide
 | x :: l=>by
  have:=(hg x).mul (Zjv hg l)
  rw [List.map_cons,Zs,List.length_cons,show 84 * (l.length + 1) + 1=84 + (84 * l.length + 1) by omega]
  exact this
theorem Zh5 (l:List Int) (x:Int):prI (l ++ [x])=prI l * x:=by
 rw [Za0,Zs,ZaZ,Int.mul_one]
section
variable {P:Program} {w:World} {K:PySem.W.Frag} {mg:Str→Option Value} {base:Heap}
abbrev XZ:Stmt:=top 23
abbrev ZeO:List Str:=["number","product","factor"]
theorem scFactorial:Zo ZeO ["number"] (Zg XZ):=⟨rfl,rfl,rfl,by decide +kernel,rfl,by decide +kernel,by decide +kernel⟩
def Zke:Sp:=fun vs H Q _=>∃ n:Int,vs=[.int n]∧-1000≤n∧n≤25∧Q (.int (fI n)) H
theorem Zb0 (D:HasDef K mg "factorial" XZ ["number"]) (B:Blt mg):FOk P w K mg base 1 "factorial" ["number"] Zke:=by
 refine D.ok scFactorial (fun vs H Q E h=>?_) (fun f cdv A outer s H vs Q E hr h=>?_)
 ·obtain ⟨n,rfl,_⟩:=h
  rfl
 ·obtain ⟨n,rfl,n1,n2,k⟩:=h
  refine ⟨_,(Zd (Zm (i:=1) scFactorial.nd rfl (.inl rfl) Zf)
   (Zd (Z3 PassesOwn.never rfl (ZbR rfl B.range (Za Zf (Za (Zn ZY (pv 0) Zf) Ze))) (Zz (i:=2) scFactorial.nd rfl (.inl rfl))
    (Zh (Zm (i:=1) scFactorial.nd rfl (.inl rfl) (Zn JU (pv 1) (pv 2)))))
   (Zh (Zr (pv 1))))),?_⟩
  refine ⟨_,rfl,_,_,rfl,rfl,2,n + 1,rfl,⟨by decide,by decide,by omega,by omega⟩,?_⟩
  refine Y0 (n:=(n + 1 - 2).toNat) (fun i σ H3=>∃ z2:Option V,σ=[some (.int n),some (.int (fc (i + 1):Int)),z2]∧H3=H) ⟨none,rfl,rfl⟩ ?_ ?_
  ·rintro i σ H3 hi ⟨z2,rfl,rfl⟩
   have hb:fc (i + 1) < 2 ^ 84:=Zmw (by omega)
   refine ⟨_,rfl,_,rfl,_,_,rfl,rfl,⟨Sm.big (k:=84) (by show (fc (i + 1):Int).natAbs < 2 ^ 84; rw [Int.natAbs_natCast]; exact hb) (by decide),Sm.big (k:=5) (by show (2 + (i:Int)).natAbs < 2 ^ 5; omega) (by decide)⟩,some (.int (2 + (i:Int))),?_,rfl⟩
   have e:((fc (i + 1):Nat):Int) * (2 + (i:Int))=((fc (i + 1 + 1):Nat):Int):=by
    show _=(((i + 1 + 1) * fc (i + 1):Nat):Int)
    rw [Int.natCast_mul,Int.mul_comm]
    congr 1
    omega
   dsimp only
   rw [e]
   rfl
  ·rintro σ H3 ⟨z2,rfl,rfl⟩
   refine ⟨_,rfl,?_⟩
   have e:((fc ((n + 1 - 2).toNat + 1):Nat):Int)=fI n:=by
    unfold fI
    by_cases c:1≤n
    ·congr 2
     omega
    ·have e1:(n + 1 - 2).toNat=0:=by omega
     have e2:n.toNat=0:=by omega
     rw [e1,e2]
     rfl
   rw [e]
   exact k
abbrev Z6:Stmt:=top 17
abbrev Xf:List Str:=["H"]
theorem JM:Zo Xf ["H"] (Zg Z6):=⟨rfl,rfl,rfl,by decide +kernel,rfl,by decide +kernel,by decide +kernel⟩
end
structure Few (es:Es):Prop where
 out:∀ x,Zaw es x≤25
 one:∀ e∈es,e.2≤25
theorem Zjx {es:Es} (hF:X9 es) (x:Str):0≤Zaw es x:=(Yi _ (ZcW hF x)).2
theorem ZlT {es:Es} (hF:X9 es) (hW:Few es) {os:List Str} {r:Str} (h:os.length≤31) (ys:List Str) (hy:ys.length≤32):Sm 3900 (YI os es * fI (Zaw es r) * prI (ys.map fun x=>fI (Zaw es x - 1))):=by
 have h1:=((Zdz hF h).mul (Zhf (hW.out r))).mul (Zjv (g:=fun x=>fI (Zaw es x - 1)) (fun x=>Zhf (by have:=hW.out x; omega)) ys)
 exact h1.up (by omega)
def Zlm (wsh:Str) (us:Es):Str:=match us with | []=>wsh | u :: _=>u.1
theorem Zjy (ss:List Str) (r:Str):(othL ss r).length≤ss.length:=List.length_filter_le _ _
theorem Zh9 {ss:List Str} {x r:Str}:othL (ss ++ [x]) r=if x=r then othL ss r else othL ss r ++ [x]:=by
 unfold othL
 rw [List.filter_append]
 by_cases c:x=r <;> simp [c]
section
variable {P:Program} {w:World} {K:PySem.W.Frag} {mg:Str→Option Value} {base:Heap}
abbrev JO:Stmt:=top 24
abbrev ZgC:List Str:=["H","end","orders","point"]
theorem scOrdersTo:Zo ZgC ["H","end"] (Zg JO):=⟨rfl,rfl,rfl,by decide +kernel,rfl,by decide +kernel,by decide +kernel⟩
def ZlB:Sp:=fun vs H Q _=>∃ (v:V) (es:Es) (r:Str),vs=[v,.str r]∧HeapV H v es∧X9 es∧Few es∧(∀ ss,SPts es ss→ss.length≤31)∧∀ H' ss,Same H H'→SPts es ss→Q (.int (ZkD ss es r)) H'
theorem ZbV (D:HasDef K mg "orders_to" JO ["H","end"]) (B:Blt mg) (g32_:FOk P w K mg base 5 "trees_of" ["H","root"] Zfz) (g24_:FOk P w K mg base 5 "outs_of" ["H","P"] Zjh) (g17_:FOk P w K mg base 5 "factorial" ["number"] Zke) (g27_:FOk P w K mg base 5 "points_of" ["H"] Xu):FOk P w K mg base 6 "orders_to" ["H","end"] ZlB:=by
 refine D.ok scOrdersTo (fun vs H Q E h=>?_) (fun f cdv A outer s H vs Q E hr h=>?_)
 ·obtain ⟨v,es,r,rfl,_⟩:=h
  rfl
 ·obtain ⟨v,es,r,rfl,hV,hF,hW,hn,k⟩:=h
  refine ⟨_,(Zd (Zm (i:=2) scOrdersTo.nd rfl (.inl rfl) (Zn JU (Zu g32_ hr (Za (pv 0) (Za (pv 1) Ze))) (Zu g17_ hr (Za (Zu g24_ hr (Za (pv 0) (Za (pv 1) Ze))) Ze))))
   (Zd (Z3 PassesOwn.never rfl (YK (Zu g27_ hr (Za (pv 0) Ze))) (Zz (i:=3) scOrdersTo.nd rfl (.inl rfl))
    (Zh (Ye (Zt Zgp (pv 3) (pv 1) (Zy _)) (Zh (Zm (i:=2) scOrdersTo.nd rfl (.inl rfl) (Zn JU (pv 2) (Zu g17_ hr (Za (Zn Jc (Zu g24_ hr (Za (pv 0) (Za (pv 3) Ze))) Zf) Ze))))) ZA)))
   (Zh (Zr (pv 2))))),?_⟩
  have ho:∀ ss,SPts es ss→(othL ss r).length≤31:=fun ss hS=>Nat.le_trans (Zjy ss r) (hn ss hS)
  refine ⟨_,rfl,_,rfl,v,es,r,rfl,hV,hF,ho,fun H1 ss s1 hS=>?_⟩
  refine ⟨_,rfl,_,rfl,v,es,r,rfl,hV.same s1,hF,fun H2 s2=>?_⟩
  have o1:=Zjx hF r
  have o2:=hW.out r
  have s12:=s1.trans s2
  refine ⟨_,rfl,by omega,o2,_,_,rfl,rfl,⟨(Zdz hF (ho ss hS)).big (by decide),(Zhf o2).big (by decide)⟩,?_⟩
  refine ⟨_,rfl,v,es,rfl,hV.same s12,hF,fun v' H3 ss' s3 hT hS'=>?_⟩
  have ess:=SPts.one hS' hS
  subst ess
  obtain ⟨q,rfl,hq⟩:=hT
  have s13:=s12.trans s3
  have hno:=ho _ hS
  refine ⟨q,rfl,⟨_,SqT.of hq⟩,X8 (K:=K) (a:=q) (xs:=ss'.map V.str) (fun i σ H4=>(∃ z3:Option V,σ=[some v,some (.str r),some (.int (YI (othL ss' r) es * fI (Zaw es r) * prI ((othL (ss'.take i) r).map fun x=>fI (Zaw es x - 1)))),z3])∧Same H3 H4)
   ⟨⟨none,?_⟩,Same.refl _⟩ (fun i σ H4 _ ⟨_,s4⟩=>SqT.of (s4 _ _ hq)) ?_ ?_⟩
  ·rw [show othL (ss'.take 0) r=[] from rfl,List.map_nil,ZaZ,Int.mul_one]
   rfl
  ·rintro i x σ H4 hi ⟨⟨z3,rfl⟩,s4⟩
   obtain ⟨hi',rfl⟩:=Yj hi
   have etk:ss'.take (i + 1)=ss'.take i ++ [ss'[i]]:=List.take_succ_eq_append_getElem hi'
   rw [etk,Zh9]
   have hlt:(othL (ss'.take i) r).length≤31:=by
    have h1:=Zjy (ss'.take i) r
    have h2:=hn _ hS
    rw [List.length_take] at h1
    omega
   generalize ss'[i]=x at *
   refine ⟨_,rfl,_,rfl,rfl,_,rfl,?_⟩
   by_cases c:x=r
   ·rw [if_pos c]
    exact Jg (by rw [c]; simp) ⟨⟨_,rfl⟩,s4⟩
   ·rw [if_neg c]
    refine ZaC (by simp [c]) ?_
    refine ⟨_,rfl,_,rfl,_,rfl,v,es,x,rfl,hV.same (s13.trans s4),hF,fun H5 s5=>?_⟩
    have p1:=Zjx hF x
    have p2:=hW.out x
    refine ⟨_,_,rfl,rfl,_,rfl,by omega,by omega,_,_,rfl,rfl,⟨(ZlT hF hW hno _ (by omega)).big (by decide),(Zhf (by omega)).big (by decide)⟩,⟨some (.str x),?_⟩,s4.trans s5⟩
    rw [List.map_append,List.map_cons,List.map_nil,Zh5,← Int.mul_assoc]
    rfl
  ·rintro σ H4 ⟨⟨z3,rfl⟩,s4⟩
   rw [List.length_map,List.take_of_length_le (Nat.le_refl _)]
   exact ⟨_,rfl,k H4 ss' (s13.trans s4) hS⟩
end
theorem ZcF {α:Type} (f g:α→Int):∀ l:List α,(l.map fun x=>f x + g x).sum=(l.map f).sum + (l.map g).sum
 | []=>rfl
 | x :: l=>by
  rw [List.map_cons,List.map_cons,List.map_cons,List.sum_cons,List.sum_cons,List.sum_cons,ZcF f g l]
  omega
theorem Zfr (y:Str):∀ l:List Str,l.Nodup→(l.map fun x=>if x=y then (1:Int) else 0).sum=if y∈l then 1 else 0
 | [],_=>rfl
 | x :: l,nd=>by
  obtain ⟨n1,n2⟩:=List.nodup_cons.mp nd
  rw [List.map_cons,List.sum_cons,Zfr y l n2]
  by_cases e:x=y
  ·subst e
   rw [if_pos rfl,if_neg n1,if_pos List.mem_cons_self]
   rfl
  ·rw [if_neg e,Int.zero_add]
   by_cases h:y∈l
   ·rw [if_pos h,if_pos (List.mem_cons_of_mem _ h)]
   ·rw [if_neg h,if_neg fun q=>(List.mem_cons.mp q).elim (fun z=>e z.symm) h]
theorem Zhs {ks:List Str} (nd:ks.Nodup) (p:Str→Bool):∀ ps:List Str,(∀ x∈ps,x∈ks)→((ks.filter p).map fun x=>(ps.count x:Int)).sum=((ps.filter p).length:Int)
 | [],_=>by
  have:∀ l:List Str,(l.map fun x=>((([]:List Str).count x:Nat):Int)).sum=0:=fun l=>by
   induction l with
   | nil=>rfl
   | cons x l ih=>rw [List.map_cons,List.sum_cons,ih]; rfl
  rw [this]
  rfl
 | y :: ps,h=>by
  have ih:=Zhs nd p ps fun x hx=>h x (List.mem_cons_of_mem _ hx)
  have e:∀ x:Str,(((y :: ps).count x:Nat):Int)=(ps.count x:Int) + if x=y then 1 else 0:=fun x=>by
   rw [List.count_cons]
   by_cases c:x=y
   ·subst c; simp
   ·rw [if_neg (by simpa using fun q:y=x=>c q.symm),if_neg c]; rfl
  have e2:((ks.filter p).map fun x=>(((y :: ps).count x:Nat):Int))=(ks.filter p).map fun x=>(ps.count x:Int) + if x=y then 1 else 0:=List.map_congr_left fun x _=>e x
  rw [e2,ZcF,ih,Zfr y _ (nd.filter _)]
  by_cases c:p y=true
  ·rw [if_pos (List.mem_filter.mpr ⟨h y List.mem_cons_self,c⟩),List.filter_cons_of_pos c,List.length_cons]
   omega
  ·rw [if_neg fun q=>c (List.mem_filter.mp q).2,List.filter_cons_of_neg c]
   omega
theorem Zdf {ps:List Str} {hp:Es} (h:ZS ps hp):(hp.map (·.1)).Nodup:=by
 rw [List.nodup_iff_pairwise_ne,List.pairwise_map]
 refine List.Pairwise.imp ?_ (List.pairwise_map.mp h.srt)
 intro x y hxy e
 rw [e] at hxy
 exact List.lt_irrefl _ hxy
theorem Zbj {ps:List Str} {hp:Es} (h:ZS ps hp) (p:Str→Bool):((hp.filter fun e=>p e.1).map fun e=>e.2).sum=((ps.filter p).length:Int):=by
 rw [← Zhs (Zdf h) p ps fun x hx=>(h.mem x).mpr hx]
 congr 1
 rw [List.filter_map,List.map_map]
 refine List.map_congr_left fun e he=>?_
 exact h.cnt e (List.mem_filter.mp he).1
def oR (ps:List Str) (y:Str):Nat:=(ps.filter fun x=>decide (bg x=y)).length
def iR (ps:List Str) (y:Str):Nat:=(ps.filter fun x=>decide (en x=y)).length
theorem Za3 {ps:List Str} {hp:Es} (h:ZS ps hp) (y:Str):Zaw hp y=(oR ps y:Int):=Zbj h fun x=>decide (bg x=y)
theorem ZjB {ps:List Str} {hp:Es} (h:ZS ps hp) (y:Str):mo hp y=(oR ps y:Int) - (iR ps y:Int):=by
 have key:∀ es:Es,mo es y=((es.filter fun e=>decide (bg e.1=y)).map fun e=>e.2).sum - ((es.filter fun e=>decide (en e.1=y)).map fun e=>e.2).sum:=fun es=>by
  induction es with
  | nil=>rfl
  | cons e es ih =>
   rw [Za9,ih]
   unfold mo1 ind
   by_cases a:bg e.1=y <;> by_cases b:en e.1=y <;> simp [a,b] <;> omega
 rw [key,Zbj h fun x=>decide (bg x=y),Zbj h fun x=>decide (en x=y)]
 rfl
theorem Zmv {ps:List Str} {hp:Es} (h:ZS ps hp) (hl:ps.length≤25):Few hp:=by
 refine ⟨fun x=>?_,fun e he=>?_⟩
 ·rw [Za3 h]
  have:oR ps x≤ps.length:=List.length_filter_le _ _
  omega
 ·have h1:=h.cnt e he
  have h2:=List.count_le_length (a:=e.1) (l:=ps)
  omega
def Xm (ps:List Str):Es:=ps.map fun x=>(x,1)
theorem Zic (ps:List Str):(Xm ps).map (·.1)=ps:=by
 unfold Xm
 rw [List.map_map]
 exact List.map_id' ps
theorem Zgr {ps:List Str} (h1:ps.length≤64) (h2:∀ x∈ps,1≤x.length∧x.length≤1000):X9 (Xm ps):=by
 unfold Xm
 refine ⟨by rw [List.length_map]; exact h1,fun e he=>?_,fun e he=>?_⟩
 ·obtain ⟨x,_,rfl⟩:=List.mem_map.mp he
  exact ⟨by show (0:Int)≤1; decide,by show (1:Int)≤1000; decide⟩
 ·obtain ⟨x,hx,rfl⟩:=List.mem_map.mp he
  exact h2 x hx
section
variable {P:Program} {w:World} {K:PySem.W.Frag} {mg:Str→Option Value} {base:Heap}
end
theorem ZkB {ss:List Str} {r:Str} (h:r∉ss):othL ss r=ss:=by
 unfold othL
 refine List.filter_eq_self.mpr fun x hx=>?_
 simp
 exact fun q=>h (q ▸ hx)
theorem Zh3 {h:Str→Int} {r:Str}:∀ ss:List Str,ss.Nodup→r∈ss→prI (ss.map h)=h r * prI ((othL ss r).map h)
 | [],_,q=>by cases q
 | x :: ss,nd,q=>by
  obtain ⟨n1,n2⟩:=List.nodup_cons.mp nd
  by_cases e:x=r
  ·subst e
   have:othL (x :: ss) x=othL ss x:=by unfold othL; simp
   rw [this,ZkB n1,List.map_cons,Zs]
  ·have hm:r∈ss:=(List.mem_cons.mp q).resolve_left fun z=>e z.symm
   have:othL (x :: ss) r=x :: othL ss r:=by unfold othL; simp [e]
   rw [this,List.map_cons,List.map_cons,Zs,Zs,Zh3 ss n2 hm,Int.mul_left_comm]
def hD (ps:List Str) (r x:Str):Int:=fI ((oR ps x:Int) - if x=r then 0 else 1)
section
variable {P:Program} {w:World} {K:PySem.W.Frag} {mg:Str→Option Value} {base:Heap}
end
end Sh
namespace Sh
open PySem L2 PyProof.Rows
theorem Zan (g:Nat→Int):∀ n:Nat,YN (n + 1) g=g 0 + YN n fun i=>g (i + 1)
 | 0=>by simp [YN]
 | n + 1=>by
  rw [YN,Zan g n,YN]
  omega
theorem Zep:∀ {q n:Nat} {f:ZW},q < n→(∀ r,r < n→f r q=0)→det n f=0
 | 0,0,f,h,_=>by omega
 | 0,n + 1,f,h,e=>Zer e
 | q + 1,0,f,h,_=>by omega
 | q + 1,n + 1,f,h,e=>by
  rw [det]
  refine Xt fun i hi=>?_
  rw [Zep (q:=q) (n:=n) (by omega) fun r hr=>e (rmv i r) (by unfold rmv; split <;> omega),Int.mul_zero]
theorem Zeq:∀ {q n:Nat} {f:ZW},q≤n→(∀ r,0 < r→r < n + 1→f r q=0)→det (n + 1) f=Jv q * f 0 q * det n fun r c=>f (r + 1) (rmv q c)
 | 0,n,f,h,e=>by
  rw [Zbr e]
  have e1:(fun r c=>f (r + 1) (rmv 0 c))=fun r c=>f (r + 1) (c + 1):=by
   funext r c
   unfold rmv
   rw [if_neg (by omega)]
  rw [e1]
  simp [Jv]
 | q + 1,0,f,h,_=>by omega
 | q + 1,m + 1,f,h,e=>by
  have rs:∀ j r,rmv (j + 1) (r + 1)=rmv j r + 1:=fun j r=>by
   unfold rmv
   by_cases c:r < j
   ·rw [if_pos (by omega),if_pos c]
   ·rw [if_neg (by omega),if_neg c]
  have r0:∀ j,rmv (j + 1) 0=0:=fun j=>by unfold rmv; rw [if_pos (by omega)]
  rw [det,Zan]
  have z0:det (m + 1) (fun r c=>f (rmv 0 r) (c + 1))=0:=Zep (q:=q) (by omega) fun r hr=>by
   have:rmv 0 r=r + 1:=by unfold rmv; rw [if_neg (by omega)]
   rw [this]
   exact e _ (by omega) (by omega)
  rw [z0,Int.mul_zero,Int.zero_add,det]
  have lin:∀ (a:Int) (n:Nat) (g:Nat→Int),a * YN n g=YN n fun i=>a * g i:=fun a n g=>by
   have:=Js a 0 g g n
   rw [Int.zero_mul,Int.add_zero] at this
   rw [← this]
   refine Yh fun i _=>?_
   rw [Int.zero_mul,Int.add_zero]
  rw [lin]
  refine Yh fun j hj=>?_
  have ih:=Zeq (q:=q) (n:=m) (f:=fun r c=>f (rmv (j + 1) r) (c + 1)) (by omega) fun r h1 h2=>by
   obtain ⟨r',rfl⟩:∃ r',r=r' + 1:=⟨r - 1,by omega⟩
   rw [rs]
   refine e _ (by omega) ?_
   unfold rmv
   split <;> omega
  rw [ih,r0,r0]
  have ed:(fun r c=>f (rmv (j + 1) (r + 1)) (rmv q c + 1))=fun r c=>f (rmv j r + 1) (rmv (q + 1) (c + 1)):=by
   funext r c
   rw [rs,rs]
  rw [ed,Ju,Ju]
  simp only [Int.neg_mul,Int.mul_neg]
  congr 1
  simp only [Int.mul_assoc,Int.mul_left_comm,Int.mul_comm]
theorem Zjp (q:Nat):Jv q * Jv q=1:=by
 unfold Jv
 split <;> rfl
theorem ZiW {q n:Nat} {f:ZW} (h:q < n + 1) (e:∀ r,r < n + 1→r≠q→f r q=0):det (n + 1) f=f q q * det n fun r c=>f (rmv q r) (rmv q c):=by
 have h1:=Zdl (n:=n + 1) (p:=q) (f:=f) h
 have h2:=Zeq (q:=q) (n:=n) (f:=ZcD f q) (by omega) fun r r1 r2=>by
  unfold ZcD
  rw [if_neg (by omega)]
  refine e _ ?_ (Zaq q _)
  unfold rmv
  split <;> omega
 have e1:(fun r c=>ZcD f q (r + 1) (rmv q c))=fun r c=>f (rmv q r) (rmv q c):=by
  funext r c
  unfold ZcD
  rw [if_neg (by omega)]
  rfl
 have e2:ZcD f q 0 q=f q q:=by unfold ZcD; rw [if_pos rfl]
 rw [e1,e2,h1] at h2
 have h3:=congrArg (fun x=>Jv q * x) h2
 rw [← Int.mul_assoc,Zjp,Int.one_mul,← Int.mul_assoc,← Int.mul_assoc,Zjp,Int.one_mul] at h3
 exact h3
def Zam (os:List Str) (x:Str) (r c:Nat):Int:=if os.idxOf (bg x)=r then (if c=r then 1 else 0) - (if c=os.idxOf (en x) then 1 else 0) else 0
theorem ZcE (os:List Str) (r c:Nat):∀ es:Es,Ja os es r c=(es.map fun e=>e.2 * Zam os e.1 r c).sum
 | []=>rfl
 | e :: es=>by
  rw [List.map_cons,List.sum_cons,← ZcE os r c es]
  unfold Ja Zkm ZT Zam
  by_cases h:os.idxOf (bg e.1)=r
  ·rw [if_pos h,List.filter_cons_of_pos (by simpa using h),List.map_cons,List.map_cons,List.sum_cons]
  ·rw [if_neg h,List.filter_cons_of_neg (by simpa using h),Int.mul_zero,Int.zero_add]
theorem ZdF (φ:Str→Int) (y:Str):∀ l:List Str,l.Nodup→y∈l→(l.map fun x=>(if x=y then (1:Int) else 0) * φ x).sum=φ y
 | [],_,h=>by cases h
 | x :: l,nd,h=>by
  obtain ⟨n1,n2⟩:=List.nodup_cons.mp nd
  rw [List.map_cons,List.sum_cons]
  by_cases e:x=y
  ·subst e
   have:∀ m:List Str,x∉m→(m.map fun z=>(if z=x then (1:Int) else 0) * φ z).sum=0:=fun m hm=>by
    induction m with
    | nil=>rfl
    | cons z m ih =>
     rw [List.map_cons,List.sum_cons,ih fun q=>hm (List.mem_cons_of_mem _ q),if_neg fun q=>hm (by rw [q]; exact List.mem_cons_self),Int.zero_mul]
     rfl
   rw [this l n1,if_pos rfl,Int.one_mul,Int.add_zero]
  ·rw [if_neg e,Int.zero_mul,Int.zero_add]
   exact ZdF φ y l n2 ((List.mem_cons.mp h).resolve_left fun q=>e q.symm)
theorem Zbt {ks:List Str} (nd:ks.Nodup) (φ:Str→Int):∀ ps:List Str,(∀ x∈ps,x∈ks)→(ks.map fun x=>(ps.count x:Int) * φ x).sum=(ps.map φ).sum
 | [],_=>by
  have:∀ l:List Str,(l.map fun x=>((([]:List Str).count x:Nat):Int) * φ x).sum=0:=fun l=>by
   induction l with
   | nil=>rfl
   | cons x l ih =>
    rw [List.map_cons,List.sum_cons,ih]
    simp
  rw [this]
  rfl
 | y :: ps,h=>by
  have ih:=Zbt nd φ ps fun x hx=>h x (List.mem_cons_of_mem _ hx)
  have e:∀ x:Str,(((y :: ps).count x:Nat):Int) * φ x=(ps.count x:Int) * φ x + (if x=y then 1 else 0) * φ x:=fun x=>by
   rw [List.count_cons,← Int.add_mul]
   congr 1
   by_cases c:x=y
   ·subst c; simp
   ·rw [if_neg (by simpa using fun q:y=x=>c q.symm),if_neg c]; rfl
  have e2:(ks.map fun x=>(((y :: ps).count x:Nat):Int) * φ x)=ks.map fun x=>(ps.count x:Int) * φ x + (if x=y then 1 else 0) * φ x:=List.map_congr_left fun x _=>e x
  rw [e2,ZcF,ih,ZdF φ y _ nd (h y List.mem_cons_self),List.map_cons,List.sum_cons]
  omega
theorem Zg2 {ps:List Str} {hp:Es} (h:ZS ps hp) (φ:Str→Int):(hp.map fun e=>e.2 * φ e.1).sum=(ps.map φ).sum:=by
 rw [← Zbt (Zdf h) φ ps fun x hx=>(h.mem x).mpr hx,List.map_map]
 congr 1
 refine List.map_congr_left fun e he=>?_
 show e.2 * φ e.1=(ps.count e.1:Int) * φ e.1
 rw [h.cnt e he]
def Jf (os ps:List Str):ZW:=fun r c=>(ps.map fun x=>Zam os x r c).sum
theorem ZhK {ps:List Str} {hp:Es} (h:ZS ps hp) (os:List Str):Ja os hp=Jf os ps:=by
 funext r c
 rw [ZcE]
 exact Zg2 h fun x=>Zam os x r c
theorem ZdV {l m:List Int} (h:l.Perm m):l.sum=m.sum:=by
 induction h with
 | nil=>rfl
 | cons x _ ih=>rw [List.sum_cons,List.sum_cons,ih]
 | swap x y l=>rw [List.sum_cons,List.sum_cons,List.sum_cons,List.sum_cons]; omega
 | trans _ _ a b=>rw [a,b]
theorem Zed {os ps qs:List Str} (h:ps.Perm qs):Jf os ps=Jf os qs:=by
 funext r c
 exact ZdV (h.map fun x=>Zam os x r c)
theorem XJ (os:List Str) (x:Str) (ps:List Str) (r c:Nat):Jf os (x :: ps) r c=Zam os x r c + Jf os ps r c:=by
 unfold Jf
 rw [List.map_cons,List.sum_cons]
def trR (os ps:List Str):Int:=det os.length (Jf os ps)
theorem Zfk {ps:List Str} {hp:Es} (h:ZS ps hp) (os:List Str):YI os hp=trR os ps:=by
 unfold YI trR
 rw [← ZhK h,YR (T:=ZT os hp) (fun r t ht=>?_) os.length [] (by simp) (fun x hx=>by cases hx)]
 ·rfl
 ·unfold ZT at ht
  obtain ⟨e,_,rfl⟩:=List.mem_map.mp ht
  exact List.idxOf_le_length
theorem ZkV {os ps:List Str} (nd:os.Nodup) {q:Nat} (hq:q < os.length) (c:Nat):Jf os ps q c=((ps.filter fun x=>decide (bg x=os[q])).map fun x=>(if c=q then (1:Int) else 0) - (if c=os.idxOf (en x) then 1 else 0)).sum:=by
 induction ps with
 | nil=>rfl
 | cons x ps ih =>
  rw [XJ,ih]
  unfold Zam
  by_cases h:bg x=os[q]
  ·rw [if_pos (by rw [h]; exact nd.idxOf_getElem q hq),List.filter_cons_of_pos (by simpa using h),List.map_cons,List.sum_cons]
  ·rw [if_neg,List.filter_cons_of_neg (by simpa using h),Int.zero_add]
   intro e
   subst e
   exact h (List.getElem_idxOf hq).symm
theorem Zfq {α:Type} (a:Int) (g:α→Int):∀ l:List α,(l.map fun x=>a - g x).sum=l.length * a - (l.map g).sum
 | []=>by simp
 | x :: l=>by
  rw [List.map_cons,List.map_cons,List.sum_cons,List.sum_cons,Zfq a g l,List.length_cons]
  have:((l.length + 1:Nat):Int) * a=(l.length:Int) * a + a:=by
   rw [Int.natCast_add,Int.add_mul]
   omega
  rw [this]
  omega
theorem Zee {os ps:List Str} {x:Str} (h:x∈ps) (r c:Nat):Jf os (ps.erase x) r c=Jf os ps r c - Zam os x r c:=by
 rw [Zed (List.perm_cons_erase h),XJ]
 omega
theorem Ziw {os ps:List Str} (nd:os.Nodup) {q:Nat} (hq:q < os.length):((ps.filter fun x=>decide (bg x=os[q])).map fun x=>trR os (ps.erase x)).sum=((oR ps os[q]:Int) - 1) * trR os ps:=by
 have e1:((ps.filter fun x=>decide (bg x=os[q])).map fun x=>trR os (ps.erase x))=(ps.filter fun x=>decide (bg x=os[q])).map fun x=>trR os ps - det os.length (Z1 (Jf os ps) q fun c=>(if c=q then (1:Int) else 0) - (if c=os.idxOf (en x) then 1 else 0)):=by
  refine List.map_congr_left fun x hx=>?_
  obtain ⟨hx1,hx2⟩:=List.mem_filter.mp hx
  have hb:bg x=os[q]:=of_decide_eq_true hx2
  have hi:os.idxOf (bg x)=q:=by rw [hb]; exact nd.idxOf_getElem q hq
  have e:Jf os (ps.erase x)=Z1 (Jf os ps) q fun c=>1 * Jf os ps q c + (-1) * ((if c=q then (1:Int) else 0) - (if c=os.idxOf (en x) then 1 else 0)):=by
   funext r c
   rw [Zee hx1]
   unfold Zam Z1
   rw [hi]
   by_cases z:r=q
   ·subst z
    rw [if_pos rfl,if_pos rfl]
    omega
   ·rw [if_neg (Ne.symm z),if_neg z,Int.sub_zero]
  unfold trR
  rw [e,Y1 (Jf os ps) 1 (-1) (Jf os ps q) _ hq,Yk]
  omega
 have e2:=Zbp (Jf os ps) hq (fun v c=>(if c=q then (1:Int) else 0) - (if c=v then 1 else 0)) ((ps.filter fun x=>decide (bg x=os[q])).map fun x=>(os.idxOf (en x),1))
 rw [List.map_map] at e2
 have e3:(fun c=>(((ps.filter fun x=>decide (bg x=os[q])).map fun x=>((os.idxOf (en x),1):Tie)).map fun t=>t.2 * ((if c=q then (1:Int) else 0) - (if c=t.1 then 1 else 0))).sum)=Jf os ps q:=by
  funext c
  rw [ZkV nd hq,List.map_map]
  congr 1
  refine List.map_congr_left fun x _=>?_
  exact Int.one_mul _
 rw [e3,Yk] at e2
 rw [e1,Zfq]
 have e4:((ps.filter fun x=>decide (bg x=os[q])).map fun x=>det os.length (Z1 (Jf os ps) q fun c=>(if c=q then (1:Int) else 0) - (if c=os.idxOf (en x) then 1 else 0))).sum=trR os ps:=by
  unfold trR
  rw [e2]
  congr 1
  refine List.map_congr_left fun x _=>?_
  exact (Int.one_mul _).symm
 rw [e4,Int.sub_mul,Int.one_mul]
 rfl
theorem ZgL {os ps:List Str} {x:Str} (h:x∈ps) (hb:bg x∉os):trR os (ps.erase x)=trR os ps:=by
 unfold trR
 refine Z8 fun r hr c _=>?_
 rw [Zee h]
 unfold Zam
 rw [if_neg (by rw [List.idxOf_eq_length hb]; omega),Int.sub_zero]
theorem J7 {A B:List Str} {p y:Str} (hp:p∉A ++ B) (hy:y≠p):(A ++ p :: B).idxOf y=rmv A.length ((A ++ B).idxOf y):=by
 unfold rmv
 rw [List.idxOf_append,List.idxOf_append]
 by_cases h:y∈A
 ·have:=List.idxOf_lt_length_iff.mpr h
  rw [if_pos h,if_pos h,if_pos this]
 ·rw [if_neg h,if_neg h,if_neg (by omega),List.idxOf_cons,show (p == y)=false from by simpa using fun q:p=y=>hy q.symm]
  show _ + 1 + _=_
  omega
theorem Zko {q a b:Nat}:rmv q a=rmv q b↔a=b:=by
 unfold rmv
 constructor
 ·intro h
  split at h <;> split at h <;> omega
 ·rintro rfl
  rfl
theorem Zj6 {A B:List Str} {p x:Str} (hp:p∉A ++ B) (h1:bg x≠p) (h2:en x≠p) (r c:Nat):Zam (A ++ p :: B) x (rmv A.length r) (rmv A.length c)=Zam (A ++ B) x r c:=by
 unfold Zam
 rw [J7 hp h1,J7 hp h2]
 simp only [Zko]
theorem ZeV {A B ps:List Str} {p x:Str} (hp:p∉A ++ B) (hb:bg x=p) (he:en x≠p) (hn:∀ y∈ps,bg y≠p∧en y≠p):trR (A ++ p :: B) (x :: ps)=trR (A ++ B) ps:=by
 have hpA:p∉A:=fun q=>hp (List.mem_append.mpr (.inl q))
 have hix:(A ++ p :: B).idxOf p=A.length:=by
  rw [List.idxOf_append,if_neg hpA,List.idxOf_cons_self]
  omega
 have hl:(A ++ p :: B).length=(A ++ B).length + 1:=by simp; omega
 have hlt:A.length < (A ++ B).length + 1:=by simp; omega
 have col:∀ (y:Str) (r:Nat),en y≠p→r≠A.length→Zam (A ++ p :: B) y r A.length=0:=fun y r h1 h2=>by
  unfold Zam
  split
  ·rw [if_neg (Ne.symm h2),if_neg]
   ·rfl
   ·rw [J7 hp h1]
    exact fun q=>Zaq _ _ q.symm
  ·rfl
 have sum0:∀ (l:List Str) (g:Str→Int),(∀ y∈l,g y=0)→(l.map g).sum=0:=fun l g h=>by
  induction l with
  | nil=>rfl
  | cons y l ih =>
   rw [List.map_cons,List.sum_cons,h y List.mem_cons_self,ih fun z hz=>h z (List.mem_cons_of_mem _ hz)]
   rfl
 unfold trR
 rw [hl,ZiW (q:=A.length) hlt fun r _ h2=>by
  rw [XJ,col x r he h2]
  unfold Jf
  rw [sum0 _ _ fun y hy=>col y r (hn y hy).2 h2]
  rfl]
 have e1:Jf (A ++ p :: B) (x :: ps) A.length A.length=1:=by
  rw [XJ]
  have e2:Zam (A ++ p :: B) x A.length A.length=1:=by
   unfold Zam
   rw [hb,hix,if_pos rfl,if_pos rfl,if_neg]
   ·rfl
   ·rw [J7 hp he]
    exact fun q=>Zaq _ _ q.symm
  have e3:Jf (A ++ p :: B) ps A.length A.length=0:=by
   unfold Jf
   refine sum0 _ _ fun y hy=>?_
   unfold Zam
   rw [if_neg]
   rw [J7 hp (hn y hy).1]
   exact Zaq _ _
  rw [e2,e3]
  rfl
 rw [e1,Int.one_mul]
 refine Z8 fun r _ c _=>?_
 rw [XJ]
 have e4:Zam (A ++ p :: B) x (rmv A.length r) (rmv A.length c)=0:=by
  unfold Zam
  rw [hb,hix,if_neg fun q=>Zaq _ _ q.symm]
 rw [e4,Int.zero_add]
 unfold Jf
 congr 1
 exact List.map_congr_left fun y hy=>Zj6 hp (hn y hy).1 (hn y hy).2 r c
theorem Xh {n:Nat} {T:Nat→List Tie} {S:Nat→Prop} {i0:Nat} (h0:i0 < n) (s0:S i0) (hc:∀ i,i < n→S i→∀ t∈T i,t.1 < n∧S t.1):∀ (k:Nat) (ch:List Nat),ch.length + k=n→(∀ i,i < ch.length→S i→ch.getD i n < n∧S (ch.getD i n))→ZD n T k ch=0
 | 0,ch,hl,h=>by
  unfold ZD
  rw [if_neg]
  intro q
  have key:∀ m,itr (gof n fun i=>ch.getD i n) m i0 < n∧S (itr (gof n fun i=>ch.getD i n) m i0):=fun m=>by
   induction m with
   | zero=>exact ⟨h0,s0⟩
   | succ m ih =>
    show gof n _ (itr _ m i0) < n∧S (gof n _ (itr _ m i0))
    rw [Zcb ih.1]
    exact h _ (by omega) ih.2
  exact q i0 h0 (key n).1
 | k + 1,ch,hl,h=>by
  unfold ZD
  by_cases c:S ch.length
  ·have:∀ l:List Tie,(∀ t∈l,t∈T ch.length)→(l.map fun t=>t.2 * ZD n T k (ch ++ [t.1])).sum=0:=fun l hl2=>by
    induction l with
    | nil=>rfl
    | cons t l ih =>
     have ht:=hl2 t List.mem_cons_self
     rw [List.map_cons,List.sum_cons,ih fun u hu=>hl2 u (List.mem_cons_of_mem _ hu),Xh h0 s0 hc k (ch ++ [t.1]) (by simp; omega) (fun i hi si=>?_),Int.mul_zero]
     ·rfl
     ·rw [List.length_append,List.length_singleton] at hi
      rw [List.getD_eq_getElem?_getD]
      by_cases z:i < ch.length
      ·rw [List.getElem?_append_left z,← List.getD_eq_getElem?_getD]
       exact h i z si
      ·have:i=ch.length:=by omega
       subst this
       rw [List.getElem?_append_right (Nat.le_refl _),Nat.sub_self]
       exact hc _ (by omega) c t ht
   exact this _ fun t ht=>ht
  ·have:∀ l:List Tie,(l.map fun t=>t.2 * ZD n T k (ch ++ [t.1])).sum=0:=fun l=>by
    induction l with
    | nil=>rfl
    | cons t l ih =>
     rw [List.map_cons,List.sum_cons,ih,Xh h0 s0 hc k (ch ++ [t.1]) (by simp; omega) (fun i hi si=>?_),Int.mul_zero]
     ·rfl
     ·rw [List.length_append,List.length_singleton] at hi
      rw [List.getD_eq_getElem?_getD]
      by_cases z:i < ch.length
      ·rw [List.getElem?_append_left z,← List.getD_eq_getElem?_getD]
       exact h i z si
      ·have:i=ch.length:=by omega
       subst this
       exact absurd si c
   exact this _
def inP (ps:List Str) (y:Str):Bool:=ps.any fun x=>decide (bg x=y) || decide (en x=y)
def osL (ss ps:List Str) (e:Str):List Str:=ss.filter fun y=>decide (y≠e) && inP ps y
def prO (ps os:List Str):Int:=prI (os.map fun y=>fI ((oR ps y:Int) - 1))
def BR (ss ps:List Str) (e:Str):Int:=trR (osL ss ps e) ps * fI (oR ps e) * prO ps (osL ss ps e)
def Bal (ps:List Str) (P e:Str):Prop:=∀ y,(oR ps y:Int) - (iR ps y:Int)=(if y=P then 1 else 0) - (if y=e then 1 else 0)
theorem Xn {ps qs:List Str} (h:ps.Perm qs) (y:Str):oR ps y=oR qs y:=(h.filter _).length_eq
theorem X6 {ps qs:List Str} (h:ps.Perm qs) (y:Str):iR ps y=iR qs y:=(h.filter _).length_eq
theorem YX (x:Str) (qs:List Str) (y:Str):oR (x :: qs) y=(if bg x=y then 1 else 0) + oR qs y:=by
 unfold oR
 rw [List.filter_cons]
 by_cases c:bg x=y
 ·rw [if_pos c,if_pos (by simpa using c),List.length_cons]
  omega
 ·rw [if_neg c,if_neg (by simpa using c)]
  omega
theorem Xq (x:Str) (qs:List Str) (y:Str):iR (x :: qs) y=(if en x=y then 1 else 0) + iR qs y:=by
 unfold iR
 rw [List.filter_cons]
 by_cases c:en x=y
 ·rw [if_pos c,if_pos (by simpa using c),List.length_cons]
  omega
 ·rw [if_neg c,if_neg (by simpa using c)]
  omega
theorem inP_iff {ps:List Str} {y:Str}:inP ps y=true↔∃ x∈ps,bg x=y∨en x=y:=by
 unfold inP
 rw [List.any_eq_true]
 constructor
 ·rintro ⟨x,hx,h⟩
  exact ⟨x,hx,by simpa using h⟩
 ·rintro ⟨x,hx,h⟩
  exact ⟨x,hx,by simpa using h⟩
theorem Zl2 {ps:List Str} {y:Str} (h:1≤oR ps y):inP ps y=true:=by
 obtain ⟨x,hx⟩:=List.exists_mem_of_length_pos (l:=ps.filter fun x=>decide (bg x=y)) h
 obtain ⟨h1,h2⟩:=List.mem_filter.mp hx
 exact inP_iff.mpr ⟨x,h1,.inl (of_decide_eq_true h2)⟩
theorem Znj {ps:List Str} {y:Str} (h:1≤iR ps y):inP ps y=true:=by
 obtain ⟨x,hx⟩:=List.exists_mem_of_length_pos (l:=ps.filter fun x=>decide (en x=y)) h
 obtain ⟨h1,h2⟩:=List.mem_filter.mp hx
 exact inP_iff.mpr ⟨x,h1,.inr (of_decide_eq_true h2)⟩
theorem Zi3 {ps qs:List Str} {P e x:Str} (hB:Bal ps P e) (hp:ps.Perm (x :: qs)) (hb:bg x=P):Bal qs (en x) e:=fun y=>by
 have h1:=hB y
 rw [Xn hp,X6 hp,YX,Xq,hb] at h1
 by_cases c:y=P
 ·subst c
  rw [if_pos rfl,if_pos rfl] at h1
  by_cases d:en x=y
  ·rw [if_pos d] at h1
   rw [if_pos d.symm]
   omega
  ·rw [if_neg d] at h1
   rw [if_neg (Ne.symm d)]
   omega
 ·rw [if_neg (Ne.symm c),if_neg c] at h1
  by_cases d:en x=y
  ·rw [if_pos d] at h1
   rw [if_pos d.symm]
   omega
  ·rw [if_neg d] at h1
   rw [if_neg (Ne.symm d)]
   omega
theorem ZdS {ps qs:List Str} {P e x y:Str} (hB:Bal ps P e) (hp:ps.Perm (x :: qs)) (hb:bg x=P) (hy:y≠e) (hyP:y=P→2≤oR ps P):inP ps y=inP qs y:=by
 have hq:∀ z∈qs,z∈ps:=fun z hz=>hp.mem_iff.mpr (List.mem_cons_of_mem _ hz)
 rw [Bool.eq_iff_iff]
 constructor
 ·intro h
  obtain ⟨z,hz,hz2⟩:=inP_iff.mp h
  rcases List.mem_cons.mp (hp.mem_iff.mp hz) with e1 | e1
  ·subst e1
   refine Zl2 ?_
   have ho:=Xn hp y
   rw [YX,hb] at ho
   by_cases c:y=P
   ·have:=hyP c
    rw [if_pos c.symm] at ho
    rw [← c] at this
    omega
   ·rw [if_neg (Ne.symm c)] at ho
    have h1:=hB y
    rw [if_neg c,if_neg hy] at h1
    rcases hz2 with q | q
    ·exact absurd (hb.symm.trans q).symm c
    ·have hi:=X6 hp y
     rw [Xq,if_pos q] at hi
     omega
  ·exact inP_iff.mpr ⟨z,e1,hz2⟩
 ·intro h
  obtain ⟨z,hz,hz2⟩:=inP_iff.mp h
  exact inP_iff.mpr ⟨z,hq z hz,hz2⟩
theorem Zd0 {ss ps qs:List Str} {P e x:Str} (hB:Bal ps P e) (hp:ps.Perm (x :: qs)) (hb:bg x=P) (hyP:P=e∨2≤oR ps P):osL ss qs e=osL ss ps e:=by
 unfold osL
 refine List.filter_congr fun y _=>?_
 by_cases c:y=e
 ·simp [c]
 ·rw [ZdS (y:=y) hB hp hb c fun q=>hyP.resolve_left fun z=>c (q.trans z)]
theorem Zdh {n:Int} (h:1≤n):fI n=n * fI (n - 1):=by
 unfold fI
 obtain ⟨m,rfl⟩:∃ m:Nat,n=(m:Int) + 1:=⟨(n - 1).toNat,by omega⟩
 rw [show ((m:Int) + 1).toNat=m + 1 by omega,show ((m:Int) + 1 - 1).toNat=m by omega]
 show (((m + 1) * fc m:Nat):Int)=_
 rw [Int.natCast_mul]
 congr 1
theorem X3 {ps:List Str} {x:Str} (h:x∈ps) (y:Str):(oR (ps.erase x) y:Int)=(oR ps y:Int) - if bg x=y then 1 else 0:=by
 have:=Xn (List.perm_cons_erase h) y
 rw [YX] at this
 by_cases c:bg x=y
 ·rw [if_pos c] at this ⊢
  omega
 ·rw [if_neg c] at this ⊢
  omega
theorem Zcx {ss ps:List Str} {P e:Str} (nd:ss.Nodup) (hss:∀ y,inP ps y=true→y∈ss) (hB:Bal ps P e) (hP:inP ps P=true) :
  BR ss ps e=((ps.filter fun x=>decide (bg x=P)).map fun x=>BR ss (ps.erase x) e).sum:=by
 have ndo:(osL ss ps e).Nodup:=nd.filter _
 have hfil:∀ x∈ps.filter (fun x=>decide (bg x=P)),x∈ps∧bg x=P:=fun x hx=>⟨(List.mem_filter.mp hx).1,of_decide_eq_true (List.mem_filter.mp hx).2⟩
 have hBP:=hB P
 rw [if_pos rfl] at hBP
 by_cases hPe:P=e
 ·subst hPe
  have ho1:1≤oR ps P:=by
   rw [if_pos rfl] at hBP
   obtain ⟨x,hx,q⟩:=inP_iff.mp hP
   rcases q with q | q
   ·have:=Xn (List.perm_cons_erase hx) P
    rw [YX,if_pos q] at this
    omega
   ·have:=X6 (List.perm_cons_erase hx) P
    rw [Xq,if_pos q] at this
    omega
  have key:((ps.filter fun x=>decide (bg x=P)).map fun x=>BR ss (ps.erase x) P)=(ps.filter fun x=>decide (bg x=P)).map fun _=>trR (osL ss ps P) ps * fI ((oR ps P:Int) - 1) * prO ps (osL ss ps P):=by
   refine List.map_congr_left fun x hx=>?_
   obtain ⟨h1,h2⟩:=hfil x hx
   have hp:=List.perm_cons_erase h1
   have hno:P∉osL ss ps P:=fun q=>by
    have:=(List.mem_filter.mp q).2
    simp at this
   unfold BR
   rw [Zd0 hB hp h2 (.inl rfl),ZgL h1 (by rw [h2]; exact hno),X3 h1,if_pos h2]
   congr 1
   unfold prO
   congr 1
   refine List.map_congr_left fun y hy=>?_
   rw [X3 h1,if_neg fun q=>hno (by have z:P=y:=h2.symm.trans q; exact z.symm ▸ hy),Int.sub_zero]
  rw [key]
  have rep:∀ (l:List Str) (a:Int),(l.map fun _=>a).sum=(l.length:Int) * a:=fun l a=>by
   induction l with
   | nil=>simp
   | cons x l ih =>
    rw [List.map_cons,List.sum_cons,ih,List.length_cons,Int.natCast_add,Int.add_mul]
    omega
  rw [rep]
  unfold BR
  rw [Zdh (n:=(oR ps P:Int)) (by omega)]
  show _=(oR ps P:Int) * _
  simp only [Int.mul_assoc,Int.mul_left_comm]
 ·rw [if_neg hPe] at hBP
  have hmem:P∈osL ss ps e:=List.mem_filter.mpr ⟨hss P hP,by simp [hPe,hP]⟩
  by_cases h2:2≤oR ps P
  ·obtain ⟨q,hq,eq⟩:∃ q,∃ h:q < (osL ss ps e).length,(osL ss ps e)[q]=P:=List.mem_iff_getElem.mp hmem
   have hls:=Ziw (ps:=ps) ndo hq
   rw [eq] at hls
   have hG:prO ps (osL ss ps e)=((oR ps P:Int) - 1) * prI ((osL ss ps e).map fun y=>fI ((oR ps y:Int) - 1 - if P=y then 1 else 0)):=by
    unfold prO
    refine Yr (y:=P) _ ndo hmem ?_ fun y _ hy=>?_
    ·rw [if_pos rfl]
     exact Zdh (by omega)
    ·rw [if_neg (Ne.symm hy),Int.sub_zero]
   have key:((ps.filter fun x=>decide (bg x=P)).map fun x=>BR ss (ps.erase x) e)=(ps.filter fun x=>decide (bg x=P)).map fun x=>trR (osL ss ps e) (ps.erase x) * (fI (oR ps e) * prI ((osL ss ps e).map fun y=>fI ((oR ps y:Int) - 1 - if P=y then 1 else 0))):=by
    refine List.map_congr_left fun x hx=>?_
    obtain ⟨h3,h4⟩:=hfil x hx
    have hp:=List.perm_cons_erase h3
    unfold BR
    rw [Zd0 hB hp h4 (.inr h2),X3 h3,if_neg (by rw [h4]; exact hPe),Int.sub_zero,Int.mul_assoc]
    congr 2
    unfold prO
    congr 1
    refine List.map_congr_left fun y hy=>?_
    rw [X3 h3,h4]
    congr 1
    omega
   have e5:=Jr (fI (oR ps e) * prI ((osL ss ps e).map fun y=>fI ((oR ps y:Int) - 1 - if P=y then 1 else 0))) ((ps.filter fun x=>decide (bg x=P)).map fun x=>trR (osL ss ps e) (ps.erase x))
   rw [List.map_map] at e5
   rw [key]
   show _=(List.map ((fun x=>x * (fI (oR ps e) * prI ((osL ss ps e).map fun y=>fI ((oR ps y:Int) - 1 - if P=y then 1 else 0)))) ∘ fun x=>trR (osL ss ps e) (ps.erase x)) _).sum
   rw [← e5,hls]
   unfold BR
   rw [hG]
   simp only [Int.mul_assoc,Int.mul_left_comm]
  ·have ho:oR ps P=1:=by omega
   have hi:iR ps P=0:=by omega
   obtain ⟨x,hx⟩:∃ x,ps.filter (fun x=>decide (bg x=P))=[x]:=List.length_eq_one_iff.mp ho
   obtain ⟨h3,h4⟩:=hfil x (by rw [hx]; exact List.mem_singleton.mpr rfl)
   have hp:=List.perm_cons_erase h3
   rw [hx,List.map_cons,List.map_nil,List.sum_cons,List.sum_nil,Int.add_zero]
   have ho':=Xn hp P
   rw [YX,if_pos h4] at ho'
   have hi':=X6 hp P
   rw [Xq] at hi'
   have hen:en x≠P:=fun z=>by rw [if_pos z] at hi'; omega
   have hout:inP (ps.erase x) P=false:=by
    rw [Bool.eq_false_iff]
    intro z
    obtain ⟨w,hw,q⟩:=inP_iff.mp z
    rcases q with q | q
    ·have:=Xn (List.perm_cons_erase hw) P
     rw [YX,if_pos q] at this
     omega
    ·have:=X6 (List.perm_cons_erase hw) P
     rw [Xq,if_pos q] at this
     omega
   obtain ⟨A,B,hAB⟩:=List.append_of_mem (hss P hP)
   have ndAB:=nd
   rw [hAB] at ndAB
   have hPA:P∉A:=fun z=>(List.nodup_append.mp ndAB).2.2 P z P List.mem_cons_self rfl
   have hPB:P∉B:=(List.nodup_cons.mp (List.nodup_append.mp ndAB).2.1).1
   have same:∀ l:List Str,P∉l→l.filter (fun y=>decide (y≠e) && inP (ps.erase x) y)=l.filter (fun y=>decide (y≠e) && inP ps y):=fun l hl=>List.filter_congr fun y hy=>by
    by_cases c:y=e
    ·simp [c]
    ·rw [ZdS (y:=y) hB hp h4 c fun z=>absurd hy (z ▸ hl)]
   have o1:osL ss ps e=A.filter (fun y=>decide (y≠e) && inP ps y) ++ P :: B.filter (fun y=>decide (y≠e) && inP ps y):=by
    unfold osL
    rw [hAB,List.filter_append,List.filter_cons_of_pos (by simp [hPe,hP])]
   have o2:osL ss (ps.erase x) e=A.filter (fun y=>decide (y≠e) && inP ps y) ++ B.filter (fun y=>decide (y≠e) && inP ps y):=by
    unfold osL
    rw [hAB,List.filter_append,List.filter_cons_of_neg (by simp [hout]),same A hPA,same B hPB]
   have hnot:P∉A.filter (fun y=>decide (y≠e) && inP ps y) ++ B.filter (fun y=>decide (y≠e) && inP ps y):=fun z=>by
    rcases List.mem_append.mp z with z | z
    ·exact hPA (List.mem_filter.mp z).1
    ·exact hPB (List.mem_filter.mp z).1
   have ht:trR (osL ss ps e) ps=trR (osL ss (ps.erase x) e) (ps.erase x):=by
    have hg:=ZeV (ps:=ps.erase x) hnot h4 hen fun y hy=>by
     constructor
     ·intro z
      exact Bool.eq_false_iff.mp hout (inP_iff.mpr ⟨y,hy,.inl z⟩)
     ·intro z
      exact Bool.eq_false_iff.mp hout (inP_iff.mpr ⟨y,hy,.inr z⟩)
    rw [o1,o2,← hg]
    unfold trR
    rw [Zed hp]
   unfold BR
   rw [ht,X3 h3,if_neg (by rw [h4]; exact hPe),Int.sub_zero]
   congr 1
   unfold prO
   have hf:∀ y,y≠P→fI ((oR (ps.erase x) y:Int) - 1)=fI ((oR ps y:Int) - 1):=fun y hy=>by
    rw [X3 h3,if_neg (by rw [h4]; exact Ne.symm hy),Int.sub_zero]
   have m1:∀ l:List Str,P∉l→l.map (fun y=>fI ((oR (ps.erase x) y:Int) - 1))=l.map fun y=>fI ((oR ps y:Int) - 1):=fun l hl=>List.map_congr_left fun y hy=>hf y fun z=>hl (z ▸ hy)
   rw [o1,o2,m1 _ hnot,List.map_append,List.map_append,List.map_cons,Za0,Za0,Zs,ho]
   have:fI (((1:Nat):Int) - 1)=1:=rfl
   rw [this,Int.one_mul]
theorem Zfm (os ps:List Str):Ja os (Xm ps)=Jf os ps:=by
 funext r c
 rw [ZcE]
 unfold Xm Jf
 rw [List.map_map]
 congr 1
 exact List.map_congr_left fun x _=>Int.one_mul _
theorem Zfw {os qs:List Str} {e y0:Str} (ho:∀ y∈qs,en y≠e→en y∈os) (hy:y0∈os) (hn:¬ Rch (Xm qs) e y0):trR os qs=0:=by
 have h1:trR os qs=ZD os.length (ZT os (Xm qs)) os.length []:=by
  unfold trR
  rw [← Zfm,YR (T:=ZT os (Xm qs)) (fun r t ht=>?_) os.length [] (by simp) (fun x hx=>by cases hx)]
  ·rfl
  ·unfold ZT at ht
   obtain ⟨e,_,rfl⟩:=List.mem_map.mp ht
   exact List.idxOf_le_length
 rw [h1]
 have hlt:=List.idxOf_lt_length_iff.mpr hy
 refine Xh (S:=fun i=>∃ h:i < os.length,¬ Rch (Xm qs) e os[i]) (i0:=os.idxOf y0) hlt ⟨hlt,by rw [List.getElem_idxOf hlt]; exact hn⟩ (fun i hi si t ht=>?_) os.length [] (by simp) (fun i hi=>by simp at hi)
 obtain ⟨_,si⟩:=si
 unfold ZT at ht
 obtain ⟨g,hg,rfl⟩:=List.mem_map.mp ht
 obtain ⟨hg1,hg2⟩:=List.mem_filter.mp hg
 have hg3:os.idxOf (bg g.1)=i:=of_decide_eq_true hg2
 subst hg3
 rw [List.getElem_idxOf hi] at si
 have hgq:g.1∈qs:=by
  unfold Xm at hg1
  obtain ⟨x,hx,rfl⟩:=List.mem_map.mp hg1
  exact hx
 have hne:en g.1≠e:=fun z=>si (.step .here ⟨g,hg1,.inr ⟨z,rfl⟩⟩)
 have hmo:=ho g.1 hgq hne
 have hlt2:=List.idxOf_lt_length_iff.mpr hmo
 refine ⟨hlt2,hlt2,?_⟩
 rw [List.getElem_idxOf hlt2]
 exact fun z=>si (.step z ⟨g,hg1,.inr ⟨rfl,rfl⟩⟩)
def ZmT (ps:List Str):Prop:=∀ a∈ps,∀ b∈ps,Rch (Xm ps) (bg a) (bg b)
theorem Rch.trans {es:Es} {a b c:Str} (h:Rch es a b) (k:Rch es b c):Rch es a c:=by
 induction k with
 | here=>exact h
 | step _ q ih=>exact .step ih q
theorem Zi5 {es:Es} {a b:Str} (h:Adj es a b):Adj es b a:=by
 obtain ⟨e,he,q⟩:=h
 exact ⟨e,he,q.elim (fun z=>.inr ⟨z.2,z.1⟩) (fun z=>.inl ⟨z.2,z.1⟩)⟩
theorem Rch.symm {es:Es} {a b:Str} (h:Rch es a b):Rch es b a:=by
 induction h with
 | here=>exact .here
 | step _ q ih=>exact (Rch.step .here (Zi5 q)).trans ih
theorem Zi7 {es fs:Es} (h:∀ e∈es,∃ f∈fs,f.1=e.1) {a b:Str} (k:Adj es a b):Adj fs a b:=by
 obtain ⟨e,he,q⟩:=k
 obtain ⟨f,hf,hf1⟩:=h e he
 exact ⟨f,hf,by rw [hf1]; exact q⟩
theorem Rch.mono {es fs:Es} (h:∀ e∈es,∃ f∈fs,f.1=e.1) {a b:Str} (k:Rch es a b):Rch fs a b:=by
 induction k with
 | here=>exact .here
 | step _ q ih=>exact .step ih (Zi7 h q)
theorem JA {ps:List Str} {x:Str} (h:x∈ps):(x,(1:Int))∈Xm ps:=List.mem_map.mpr ⟨x,h,rfl⟩
theorem Zib {ps qs:List Str} (h:∀ x∈ps,x∈qs):∀ e∈Xm ps,∃ f∈Xm qs,f.1=e.1:=fun e he=>by
 unfold Xm at he
 obtain ⟨x,hx,rfl⟩:=List.mem_map.mp he
 exact ⟨_,JA (h x hx),rfl⟩
theorem Zfl {ps:List Str} {x:Str} (h:x∈ps):Rch (Xm ps) (bg x) (en x):=.step .here ⟨_,JA h,.inl ⟨rfl,rfl⟩⟩
def Zdv (ps:List Str) (P:Str):Prop:=ZmT ps∧inP ps P=true∧∃ e,Bal ps P e
theorem Zdq (x:Str):Bal [x] (bg x) (en x):=fun y=>by
 rw [YX,Xq,show oR [] y=0 from rfl,show iR [] y=0 from rfl]
 by_cases a:bg x=y
 ·rw [if_pos a,if_pos a.symm]
  by_cases b:en x=y
  ·rw [if_pos b,if_pos b.symm]
   omega
  ·rw [if_neg b,if_neg (Ne.symm b)]
   omega
 ·rw [if_neg a,if_neg (Ne.symm a)]
  by_cases b:en x=y
  ·rw [if_pos b,if_pos b.symm]
   omega
  ·rw [if_neg b,if_neg (Ne.symm b)]
   omega
theorem Zjd (x:Str):Zdv [x] (bg x):=⟨fun a ha b hb=>by
 rw [List.mem_singleton.mp ha,List.mem_singleton.mp hb]
 exact .here,inP_iff.mpr ⟨x,List.mem_singleton.mpr rfl,.inl rfl⟩,_,Zdq x⟩
theorem Zeu {ps qs:List Str} {e x:Str} (hB:Bal qs (en x) e) (hp:ps.Perm (x :: qs)):Bal ps (bg x) e:=fun y=>by
 have h1:=hB y
 rw [Xn hp,X6 hp,YX,Xq]
 by_cases c:bg x=y
 ·rw [if_pos c,if_pos c.symm]
  by_cases d:en x=y
  ·rw [if_pos d]
   rw [if_pos d.symm] at h1
   omega
  ·rw [if_neg d]
   rw [if_neg (Ne.symm d)] at h1
   omega
 ·rw [if_neg c,if_neg (Ne.symm c)]
  by_cases d:en x=y
  ·rw [if_pos d]
   rw [if_pos d.symm] at h1
   omega
  ·rw [if_neg d]
   rw [if_neg (Ne.symm d)] at h1
   omega
theorem ZcG {ps qs:List Str} {x:Str} (hp:ps.Perm (x :: qs)) (h:qs=[]∨Zdv qs (en x)):Zdv ps (bg x):=by
 have hxm:x∈ps:=hp.mem_iff.mpr List.mem_cons_self
 have hsub:∀ y∈qs,y∈ps:=fun y hy=>hp.mem_iff.mpr (List.mem_cons_of_mem _ hy)
 rcases h with h | ⟨hC,hI,e,hB⟩
 ·subst h
  have:ps=[x]:=List.perm_singleton.mp hp
  rw [this]
  exact Zjd x
 ·refine ⟨?_,inP_iff.mpr ⟨x,hxm,.inl rfl⟩,e,Zeu hB hp⟩
  obtain ⟨y,hy,hy2⟩:=inP_iff.mp hI
  have key:∀ a∈ps,Rch (Xm ps) (bg y) (bg a):=fun a ha=>by
   rcases List.mem_cons.mp (hp.mem_iff.mp ha) with z | z
   ·subst z
    have h1:Rch (Xm ps) (bg y) (en a):=by
     rcases hy2 with q | q
     ·rw [q]; exact .here
     ·rw [← q]; exact Zfl (hsub y hy)
    exact h1.trans (Zfl hxm).symm
   ·exact (hC y hy a z).mono (Zib hsub)
  exact fun a ha b hb=>(key a ha).symm.trans (key b hb)
theorem Zig {ss qs:List Str} {Q e:Str} (hss:∀ y,inP qs y=true→y∈ss) (hne:qs≠[]) (hB:Bal qs Q e) (h:¬ Zdv qs Q):BR ss qs e=0:=by
 have hos:∀ y,y≠e→inP qs y=true→y∈osL ss qs e:=fun y h1 h2=>List.mem_filter.mpr ⟨hss y h2,by simp [h1,h2]⟩
 have key:∀ y0∈qs,¬ Rch (Xm qs) e (bg y0)→BR ss qs e=0:=fun y0 hy0 hn=>by
  have hye:bg y0≠e:=fun z=>hn (by rw [z]; exact .here)
  unfold BR
  rw [Zfw (e:=e) (y0:=bg y0) (fun y hy h1=>hos _ h1 (inP_iff.mpr ⟨y,hy,.inr rfl⟩)) (hos _ hye (inP_iff.mpr ⟨y0,hy0,.inl rfl⟩)) hn,Int.zero_mul,Int.zero_mul]
 by_cases c:∀ y∈qs,Rch (Xm qs) e (bg y)
 ·have hC:ZmT qs:=fun a ha b hb=>(c a ha).symm.trans (c b hb)
  by_cases d:inP qs Q=true
  ·exact absurd ⟨hC,d,e,hB⟩ h
  ·exfalso
   have ho:oR qs Q=0:=by
    false_or_by_contra
    exact d (Zl2 (by omega))
   have hi:iR qs Q=0:=by
    false_or_by_contra
    exact d (Znj (by omega))
   have hb:=hB Q
   rw [if_pos rfl,ho,hi] at hb
   have hQe:Q=e:=by
    false_or_by_contra
    rename_i z
    rw [if_neg z] at hb
    omega
   subst hQe
   have only:∀ y,Rch (Xm qs) Q y→y=Q:=fun y hy=>Rch.closed (F:=fun y=>y=Q) rfl (fun P hP y hA=>by
    subst hP
    obtain ⟨g,hg,q⟩:=hA
    unfold Xm at hg
    obtain ⟨x,hx,rfl⟩:=List.mem_map.mp hg
    refine absurd (inP_iff.mpr ⟨x,hx,?_⟩) d
    exact q.elim (fun z=>.inl z.1) (fun z=>.inr z.1)) hy
   obtain ⟨y,hy⟩:=List.exists_mem_of_ne_nil qs hne
   exact d (inP_iff.mpr ⟨y,hy,.inl (only _ (c y hy))⟩)
 ·false_or_by_contra
  rename_i z
  refine c fun y hy=>?_
  false_or_by_contra
  rename_i w
  exact z (key y hy w)
def prK (ks ps:List Str):Int:=prI (ks.map fun k=>fI (ps.count k:Int))
theorem Zga (ks ps:List Str):1≤prK ks ps:=JS _ fun y hy=>by
 obtain ⟨x,_,rfl⟩:=List.mem_map.mp hy
 exact Zaa _
theorem Zh4 {ks ps:List Str} {x:Str} (nd:ks.Nodup) (hk:x∈ks) (h:x∈ps):prK ks ps=(ps.count x:Int) * prK ks (ps.erase x):=by
 have hc:1≤ps.count x:=List.one_le_count_iff.mpr h
 unfold prK
 refine Yr (y:=x) ks nd hk ?_ fun y _ hy=>?_
 ·rw [List.count_erase_self,Zdh (by omega)]
  congr 2
  omega
 ·rw [List.count_erase_of_ne hy]
def IsC (ss ks ps:List Str) (P:Str) (n:Int):Prop:=(ps=[]→n=1)∧(ps≠[]→¬ Zdv ps P→n=0)∧(ps≠[]→Zdv ps P→∀ e,Bal ps P e→n * prK ks ps=BR ss ps e)
theorem ZjZ (ss:List Str) (e:Str):BR ss [] e=1:=by
 have:osL ss [] e=[]:=by
  unfold osL
  refine List.filter_eq_nil_iff.mpr fun y _=>?_
  simp [inP]
 unfold BR
 rw [this]
 rfl
theorem Zkt (ks:List Str):prK ks []=1:=ZaY ks fun x _=>by
 rw [List.count_nil]
 rfl
theorem Ze0 {ss ks ps:List Str} {P:Str} {n:Int} {m:Str→Int} (nds:ss.Nodup) (ndk:ks.Nodup) (hss:∀ y,inP ps y=true→y∈ss) (hks:∀ x,x∈ks↔x∈ps) (hne:ps≠[])
  (hn:IsC ss ks ps P n) (hm:∀ x∈ps,bg x=P→IsC ss ks (ps.erase x) (en x) (m x)):n=((ks.filter fun x=>decide (bg x=P)).map m).sum:=by
 have hsub:∀ x,∀ y,inP (ps.erase x) y=true→y∈ss:=fun x y h=>by
  obtain ⟨z,hz,q⟩:=inP_iff.mp h
  exact hss y (inP_iff.mpr ⟨z,List.mem_of_mem_erase hz,q⟩)
 have sum0:∀ (l:List Str) (g:Str→Int),(∀ y∈l,g y=0)→(l.map g).sum=0:=fun l g h=>by
  induction l with
  | nil=>rfl
  | cons y l ih =>
   rw [List.map_cons,List.sum_cons,h y List.mem_cons_self,ih fun z hz=>h z (List.mem_cons_of_mem _ hz)]
   rfl
 have hfk:∀ x∈ks.filter (fun x=>decide (bg x=P)),x∈ps∧bg x=P:=fun x hx=>⟨(hks x).mp (List.mem_filter.mp hx).1,of_decide_eq_true (List.mem_filter.mp hx).2⟩
 by_cases hS:Zdv ps P
 ·obtain ⟨hC,hI,e,hB⟩:=hS
  have h1:=hn.2.2 hne ⟨hC,hI,e,hB⟩ e hB
  rw [Zcx nds hss hB hI] at h1
  have h2:∀ x∈ks.filter (fun x=>decide (bg x=P)),m x * prK ks ps=(ps.count x:Int) * BR ss (ps.erase x) e:=fun x hx=>by
   obtain ⟨hx1,hx2⟩:=hfk x hx
   have hI2:=hm x hx1 hx2
   have hB2:=Zi3 hB (List.perm_cons_erase hx1) hx2
   have h3:m x * prK ks (ps.erase x)=BR ss (ps.erase x) e:=by
    by_cases c:ps.erase x=[]
    ·rw [hI2.1 c,c,ZjZ,Zkt]
     rfl
    ·by_cases d:Zdv (ps.erase x) (en x)
     ·exact hI2.2.2 c d e hB2
     ·rw [hI2.2.1 c d,Zig (hsub x) c hB2 d,Int.zero_mul]
   rw [Zh4 ndk ((hks x).mpr hx1) hx1,Int.mul_left_comm,h3]
  have h4:((ps.filter fun x=>decide (bg x=P)).map fun x=>BR ss (ps.erase x) e).sum=((ks.filter fun x=>decide (bg x=P)).map fun x=>(ps.count x:Int) * BR ss (ps.erase x) e).sum:=by
   have f1:∀ (l:List Str) (g:Str→Int),((l.filter fun x=>decide (bg x=P)).map g).sum=(l.map fun x=>if bg x=P then g x else 0).sum:=fun l g=>by
    induction l with
    | nil=>rfl
    | cons y l ih =>
     rw [List.map_cons,List.sum_cons,← ih]
     by_cases c:bg y=P
     ·rw [if_pos c,List.filter_cons_of_pos (by simpa using c),List.map_cons,List.sum_cons]
     ·rw [if_neg c,List.filter_cons_of_neg (by simpa using c),Int.zero_add]
   rw [f1,f1,← Zbt ndk _ ps fun x hx=>(hks x).mpr hx]
   congr 1
   refine List.map_congr_left fun x _=>?_
   by_cases c:bg x=P
   ·rw [if_pos c,if_pos c]
   ·rw [if_neg c,if_neg c,Int.mul_zero]
  rw [h4] at h1
  have h5:((ks.filter fun x=>decide (bg x=P)).map m).sum * prK ks ps=n * prK ks ps:=by
   rw [h1,Jr,List.map_map]
   congr 1
   exact List.map_congr_left fun x hx=>h2 x hx
  have hp:=Zga ks ps
  exact (Int.eq_of_mul_eq_mul_right (by omega) h5).symm
 ·rw [hn.2.1 hne hS,sum0]
  intro x hx
  obtain ⟨hx1,hx2⟩:=hfk x hx
  have hI2:=hm x hx1 hx2
  by_cases c:ps.erase x=[]
  ·exact absurd (hx2 ▸ ZcG (List.perm_cons_erase hx1) (.inl c)) hS
  ·refine hI2.2.1 c fun d=>hS ?_
   exact hx2 ▸ ZcG (List.perm_cons_erase hx1) (.inr d)
end Sh
namespace Sh
open PySem L2 PyProof.Rows
seal L2.PE L2.PS L2.PSs L2.PT L2.PW L2.PA L2.PI L2.PG L2.PGs L2.PO L2.PC L2.PCs L2.OpR L2.UnR L2.CallR L2.MtR L2.IxR L2.SlR
theorem Zhd {P:Str}:∀ ss:List Str,ss.Nodup→P∈ss→(ss.filter fun y=>decide (y=P))=[P]
 | [],_,h=>by cases h
 | x :: ss,nd,h=>by
  obtain ⟨n1,n2⟩:=List.nodup_cons.mp nd
  by_cases e:x=P
  ·subst e
   rw [List.filter_cons_of_pos (by simp)]
   congr 1
   exact List.filter_eq_nil_iff.mpr fun y hy=>by simp; exact fun z=>n1 (z ▸ hy)
  ·rw [List.filter_cons_of_neg (by simpa using e)]
   exact Zhd ss n2 ((List.mem_cons.mp h).resolve_left fun z=>e z.symm)
theorem Zfb {g:Str→Int} {ss:List Str} (h:∀ y∈ss,g y≤0):ups g ss=[]:=by
 unfold ups
 rw [List.filter_eq_nil_iff.mpr fun y hy=>by have:=h y hy; simp; omega]
 rfl
theorem Zdx {g:Str→Int} {ss:List Str} {P:Str} (nd:ss.Nodup) (hP:P∈ss) (h1:g P=1) (h:∀ y∈ss,y≠P→g y≤0):ups g ss=[(P,1)]:=by
 unfold ups
 have:(ss.filter fun x=>decide (0 < g x))=ss.filter fun y=>decide (y=P):=List.filter_congr fun y hy=>decide_eq_decide.mpr ⟨fun z=>by
  false_or_by_contra
  rename_i w
  have:=h y hy w
  omega,fun z=>by rw [z,h1]; decide⟩
 rw [this,Zhd ss nd hP,List.map_cons,List.map_nil,h1]
theorem sm_one {g:Str→Int} {ss:List Str} (h:sm (ups g ss)≤1):(ups g ss=[]∧∀ y∈ss,g y≤0)∨∃ u∈ss,ups g ss=[(u,1)]∧g u=1∧∀ y∈ss,y≠u→g y≤0:=by
 have hm:∀ y,y∈(ss.filter fun x=>decide (0 < g x))↔y∈ss∧0 < g y:=fun y=>by
  rw [List.mem_filter]
  simp
 unfold ups at h ⊢
 generalize (ss.filter fun x=>decide (0 < g x))=fl at *
 cases fl with
 | nil =>
  refine .inl ⟨rfl,fun y hy=>?_⟩
  false_or_by_contra
  rename_i w
  have:=(hm y).mpr ⟨hy,by omega⟩
  cases this
 | cons u fl =>
  have hu:=(hm u).mp List.mem_cons_self
  cases fl with
  | nil =>
   unfold sm at h
   rw [List.map_cons,List.map_nil,List.map_cons,List.map_nil,List.sum_cons,List.sum_nil] at h
   have e1:g u=1:=by
    have h:g u + 0≤1:=h
    omega
   refine .inr ⟨u,hu.1,by rw [List.map_cons,List.map_nil,e1],e1,fun y hy hn=>?_⟩
   false_or_by_contra
   rename_i w
   exact hn (List.mem_singleton.mp ((hm y).mpr ⟨hy,by omega⟩))
  | cons v fl =>
   exfalso
   have hv:=(hm v).mp (List.mem_cons_of_mem _ List.mem_cons_self)
   unfold sm at h
   rw [List.map_map,List.map_cons,List.map_cons,List.sum_cons,List.sum_cons] at h
   have hr:0≤(fl.map ((fun e:Str × Int=>e.2) ∘ fun x=>(x,g x))).sum:=(Yi _ fun y hy=>by
    obtain ⟨z,hz,rfl⟩:=List.mem_map.mp hy
    have:=(hm z).mp (List.mem_cons_of_mem _ (List.mem_cons_of_mem _ hz))
    show 0≤g z
    omega).2
   have h:g u + (g v + (fl.map ((fun e:Str × Int=>e.2) ∘ fun x=>(x,g x))).sum)≤1:=h
   omega
theorem ZgI {hp:Es} {ss:List Str} (hS:SPts hp ss) {y:Str} (h:y∉ss):mo hp y=0:=Zc7 fun e he=>⟨fun z=>h ((hS.pts.mem y).mpr ⟨e,he,.inl z⟩),fun z=>h ((hS.pts.mem y).mpr ⟨e,he,.inr z⟩)⟩
theorem YZ {ps:List Str} {hp:Es} (hO:ZS ps hp) {ss:List Str} (hS:SPts hp ss) {y:Str}:inP ps y=true↔y∈ss:=by
 rw [inP_iff,hS.pts.mem]
 constructor
 ·rintro ⟨x,hx,q⟩
  obtain ⟨e,he,rfl⟩:=List.mem_map.mp ((hO.mem x).mpr hx)
  exact ⟨e,he,q⟩
 ·rintro ⟨e,he,q⟩
  exact ⟨e.1,(hO.mem _).mp (List.mem_map.mpr ⟨e,he,rfl⟩),q⟩
theorem Zbx {ps:List Str} {hp:Es} (hO:ZS ps hp) {P e:Str}:Bal ps P e↔∀ y,mo hp y=(if y=P then 1 else 0) - (if y=e then 1 else 0):=by
 unfold Bal
 constructor
 ·intro h y
  rw [ZjB hO]
  exact h y
 ·intro h y
  rw [← ZjB hO]
  exact h y
theorem Zj3 {ps:List Str} {hp:Es} (hO:ZS ps hp) {ss:List Str} (hS:SPts hp ss) {P e:Str} (hB:Bal ps P e):Zlm P (ups (fun y=>-mo hp y) ss)=e:=by
 have hb:=(Zbx hO).mp hB
 by_cases c:P=e
 ·subst c
  rw [Zfb fun y _=>by rw [hb y]; split <;> omega]
  rfl
 ·have he:mo hp e = -1:=by
   rw [hb e,if_neg (Ne.symm c),if_pos rfl]
   omega
  have hes:e∈ss:=by
   false_or_by_contra
   rename_i z
   rw [ZgI hS z] at he
   omega
  rw [Zdx (P:=e) hS.pts.nd hes (by rw [he]; rfl) fun y _ hy=>by
   rw [hb y,if_neg hy]
   split <;> omega]
  rfl
theorem ups_begin {ps:List Str} {hp:Es} (hO:ZS ps hp) {ss:List Str} (hS:SPts hp ss) {P e:Str} (hB:Bal ps P e) (hP:P∈ss):(P=e∧ups (mo hp) ss=[])∨(P≠e∧ups (mo hp) ss=[(P,1)]):=by
 have hb:=(Zbx hO).mp hB
 by_cases c:P=e
 ·subst c
  refine .inl ⟨rfl,Zfb fun y _=>by rw [hb y]; split <;> omega⟩
 ·refine .inr ⟨c,Zdx hS.pts.nd hP (by rw [hb P,if_pos rfl,if_neg c]; rfl) fun y _ hy=>by
   rw [hb y,if_neg hy]
   split <;> omega⟩
theorem ZmE {ps:List Str} {hp:Es} (hO:ZS ps hp) {ss:List Str} (hS:SPts hp ss) (h:¬ 1 < sm (ups (mo hp) ss)):(ups (mo hp) ss=[]∧∀ P,Bal ps P P)∨∃ u∈ss,ups (mo hp) ss=[(u,1)]∧∃ e,Bal ps u e:=by
 have ht:tot (mo hp) ss=0:=Zjb hS.pts.nd fun e he=>⟨(hS.pts.mem _).mpr ⟨e,he,.inl rfl⟩,(hS.pts.mem _).mpr ⟨e,he,.inr rfl⟩⟩
 have hbal:=Zfc (mo hp) ss
 rw [ht] at hbal
 rcases sm_one (g:=mo hp) (ss:=ss) (by omega) with ⟨a1,a2⟩ | ⟨u,hu,a1,a2,a3⟩
 ·refine .inl ⟨a1,fun P=>(Zbx hO).mpr fun y=>?_⟩
  rw [a1] at hbal
  have h0:sm ([]:Es)=0:=rfl
  have:∀ z∈ss,-mo hp z≤0:=by
   rcases sm_one (g:=fun x=>-mo hp x) (ss:=ss) (by omega) with ⟨b1,b2⟩ | ⟨v,hv,b1,b2,b3⟩
   ·exact b2
   ·exfalso
    rw [b1] at hbal
    have h1:sm [(v,(1:Int))]=1:=rfl
    omega
  have e0:mo hp y=0:=by
   by_cases c:y∈ss
   ·have x1:=a2 y c
    have x2:=this y c
    omega
   ·exact ZgI hS c
  rw [e0]
  omega
 ·refine .inr ⟨u,hu,a1,?_⟩
  rw [a1] at hbal
  have h1:sm [(u,(1:Int))]=1:=rfl
  rcases sm_one (g:=fun x=>-mo hp x) (ss:=ss) (by omega) with ⟨b1,b2⟩ | ⟨v,hv,b1,b2,b3⟩
  ·exfalso
   rw [b1] at hbal
   have h0:sm ([]:Es)=0:=rfl
   omega
  ·refine ⟨v,(Zbx hO).mpr fun y=>?_⟩
   by_cases c:y∈ss
   ·by_cases d1:y=u
    ·subst d1
     have:y≠v:=fun z=>by
      rw [← z] at b2
      have b2 : -mo hp y=1:=b2
      omega
     rw [if_pos rfl,if_neg this,a2]
     rfl
    ·rw [if_neg d1]
     by_cases d2:y=v
     ·subst d2
      have b2 : -mo hp y=1:=b2
      rw [if_pos rfl]
      omega
     ·rw [if_neg d2]
      have x1:=a3 y c d1
      have x2 : -mo hp y≤0:=b3 y c d2
      omega
   ·have n1:y≠u:=fun z=>c (z ▸ hu)
    have n2:y≠v:=fun z=>c (z ▸ hv)
    rw [ZgI hS c,if_neg n1,if_neg n2]
    rfl
theorem ZiZ {ps:List Str} {e:Str × Int} {es:Es} (hO:ZS ps (e :: es)):ZmT ps↔∀ e'∈e :: es,Rch (e :: es) (bg e.1) (bg e'.1):=by
 have sub1:∀ f∈Xm ps,∃ g∈e :: es,g.1=f.1:=fun f hf=>by
  unfold Xm at hf
  obtain ⟨x,hx,rfl⟩:=List.mem_map.mp hf
  obtain ⟨g,hg,q⟩:=List.mem_map.mp ((hO.mem x).mpr hx)
  exact ⟨g,hg,q⟩
 have sub2:∀ f∈e :: es,∃ g∈Xm ps,g.1=f.1:=fun f hf=>⟨_,JA ((hO.mem f.1).mp (List.mem_map.mpr ⟨f,hf,rfl⟩)),rfl⟩
 constructor
 ·intro h e' he'
  exact (h e.1 ((hO.mem _).mp (List.mem_map.mpr ⟨e,List.mem_cons_self,rfl⟩)) e'.1 ((hO.mem _).mp (List.mem_map.mpr ⟨e',he',rfl⟩))).mono sub1
 ·intro h a ha b hb
  obtain ⟨f,hf,rfl⟩:=List.mem_map.mp ((hO.mem a).mpr ha)
  obtain ⟨g,hg,rfl⟩:=List.mem_map.mp ((hO.mem b).mpr hb)
  exact ((h f hf).symm.trans (h g hg)).mono sub2
theorem ZiH {ps ks:List Str} {hp:Es} (hO:ZS ps hp) (ndk:ks.Nodup) (hks:∀ x∈ps,x∈ks):prI (hp.map fun e=>fI e.2)=prK ks ps:=by
 have e1:(hp.map fun e=>fI e.2)=(hp.map (·.1)).map fun k=>fI (ps.count k:Int):=by
  rw [List.map_map]
  refine List.map_congr_left fun e he=>?_
  show fI e.2=fI (ps.count e.1:Int)
  rw [hO.cnt e he]
 have nd1:=Zdf hO
 have hm:∀ x,x∈hp.map (·.1)↔x∈ps:=hO.mem
 rw [e1]
 generalize hp.map (·.1)=ls at *
 have perm_pr:∀ {l m:List Int},l.Perm m→prI l=prI m:=fun {l m} h=>by
  induction h with
  | nil=>rfl
  | cons x _ ih=>rw [Zs,Zs,ih]
  | swap x y l=>rw [Zs,Zs,Zs,Zs,Int.mul_left_comm]
  | trans _ _ a b=>rw [a,b]
 have e2:ls.Perm (ks.filter fun x=>decide (x∈ps)):=(List.perm_ext_iff_of_nodup nd1 (ndk.filter _)).mpr fun x=>by
  rw [hm,List.mem_filter]
  simp
  exact hks x
 rw [perm_pr (e2.map fun k=>fI (ps.count k:Int))]
 unfold prK
 clear e2 ndk hks
 induction ks with
 | nil=>rfl
 | cons k ks ih =>
  rw [List.map_cons,Zs,← ih]
  by_cases c:k∈ps
  ·rw [List.filter_cons_of_pos (by simpa using c),List.map_cons,Zs]
  ·rw [List.filter_cons_of_neg (by simpa using c),List.count_eq_zero_of_not_mem c]
   exact (Int.one_mul _).symm
theorem ZlV {ps:List Str} {hp:Es} (hO:ZS ps hp) {ss ss0:List Str} (hS:SPts hp ss) (hs0:(ss0.map fun x=>x.cps.toList).Pairwise (· < ·)) (hc:∀ y,inP ps y=true→y∈ss0) (e:Str):ZkD ss hp e=BR ss0 ps e:=by
 have eo:othL ss e=osL ss0 ps e:=by
  refine Zfx ?_ ?_ fun x=>?_
  ·unfold othL
   exact hS.srt.sublist (List.Sublist.map _ List.filter_sublist)
  ·unfold osL
   exact hs0.sublist (List.Sublist.map _ List.filter_sublist)
  ·unfold othL osL
   rw [List.mem_filter,List.mem_filter]
   constructor
   ·rintro ⟨h1,h2⟩
    have:=(YZ hO hS).mpr h1
    exact ⟨hc x this,by simp at h2; simp [h2,this]⟩
   ·rintro ⟨h1,h2⟩
    simp at h2
    exact ⟨(YZ hO hS).mp h2.2,by simp [h2.1]⟩
 unfold ZkD BR prO
 rw [Zfk hO,eo,Za3 hO]
 congr 2
 refine List.map_congr_left fun y _=>?_
 rw [Za3 hO]
structure Rw (H:Hp) (v:V) (ps:List Str) (e:Str × Int) (es:Es):Prop where
 hV:HeapV H v (e :: es)
 hO:ZS ps (e :: es)
 hF:X9 (e :: es)
 hW:Few (e :: es)
 hn:∀ ss,SPts (e :: es) ss→ss.length≤31
theorem Rw.same {H H':Hp} {v:V} {ps:List Str} {e:Str × Int} {es:Es} (h:Rw H v ps e es) (s:Same H H'):Rw H' v ps e es:=⟨h.hV.same s,h.hO,h.hF,h.hW,h.hn⟩
def IsN (ps:List Str) (P:Str) (n:Int):Prop:=0≤n∧∀ ss0 ks:List Str,(ss0.map fun x=>x.cps.toList).Pairwise (· < ·)→(∀ y,inP ps y=true→y∈ss0)→ks.Nodup→(∀ x∈ps,x∈ks)→IsC ss0 ks ps P n
section
variable {P:Program} {w:World} {K:PySem.W.Frag} {mg:Str→Option Value} {base:Heap}
def ZfD:Sp:=fun vs H Q _=>∃ (v:V) (es:Es),vs=[v]∧HeapV H v es∧X9 es∧∀ H' ss,Same H H'→SPts es ss→Q (.bl (decide (1 < sm (ups (mo es) ss)))) H'
theorem ZbZ (D:HasDef K mg "has_many_begins" Z6 ["H"]) (B:Blt mg) (g12_:FOk P w K mg base 3 "begins_of" ["H"] ZaM):FOk P w K mg base 4 "has_many_begins" ["H"] ZfD:=by
 refine D.ok JM (fun vs H Q E h=>?_) (fun f cdv A outer s H vs Q E hr h=>?_)
 ·obtain ⟨v,es,rfl,_⟩:=h
  rfl
 ·obtain ⟨v,es,rfl,hV,hF,k⟩:=h
  refine ⟨_,(Zh (Zr (Za2 ZcX (Zk (Zcp rfl) rfl B.sum Zli (Za (ZL (Zg Z6) Xf ["point","more"] [] rfl (YK (Zu g12_ hr (Za (pv 0) Ze))) (fun _ _ _ _ _=>Yb 2 K rfl (Zw (Yc 0) (Zw (Yc 1) Ya))) (fun _ _ _ _ _=>ZP) (fun _ _ _ _ _=>(pv 1))) Ze)) Zf (Zy _)))),?_⟩
  refine ⟨_,rfl,v,es,rfl,hV,hF,fun v' H1 ss s1 hv' hss=>?_⟩
  obtain ⟨b1,b2,b3⟩:=ZhI hF (f:=mo es) (fun _=>rfl) hss
  obtain ⟨q,us,rfl,hq,hpa⟩:=hv'
  refine ⟨q,rfl,⟨_,SqT.of hq⟩,Zmc rfl hq hpa b3 fun D1 H2 s2 hD=>?_⟩
  exact ⟨D1,_,rfl,SqL.of hD,b1,b2,_,_,rfl,rfl,k H2 ss (s1.trans s2) hss⟩
abbrev ZaU:Stmt:=top 18
abbrev Zim:List Str:=["H"]
theorem ZfU:Zo Zim ["H"] (Zg ZaU):=⟨rfl,rfl,rfl,by decide +kernel,rfl,by decide +kernel,by decide +kernel⟩
def ZfG:Sp:=fun vs H Q _=>∃ (v:V) (ps:List Str) (e:Str × Int) (es:Es),vs=[v]∧Rw H v ps e es∧∀ H' (b:Bool),Same H H'→(b=true→ZmT ps∧∀ ss,SPts (e :: es) ss→¬ 1 < sm (ups (mo (e :: es)) ss))→(b=false→∀ p,¬ Zdv ps p)→Q (.bl b) H'
theorem ZbY (D:HasDef K mg "has_text" ZaU ["H"]) (B:Blt mg) (g18_:FOk P w K mg base 4 "hangs" ["H"] ZfH) (g19_:FOk P w K mg base 4 "has_many_begins" ["H"] ZfD):FOk P w K mg base 5 "has_text" ["H"] ZfG:=by
 refine D.ok ZfU (fun vs H Q E h=>?_) (fun f cdv A outer s H vs Q E hr h=>?_)
 ·obtain ⟨v,ps,e,es,rfl,_⟩:=h
  rfl
 ·obtain ⟨v,ps,e,es,rfl,hR,k⟩:=h
  refine ⟨_,(Zh (Zr (Zgk (Zu g18_ hr (Za (pv 0) Ze)) (Zgg (Zjw (Zu g19_ hr (Za (pv 0) Ze))))))),?_⟩
  refine ⟨_,rfl,v,e,es,rfl,hR.hV,hR.hF,fun H1 b s1 hb=>⟨b,rfl,?_⟩⟩
  rw [← ZiZ hR.hO] at hb
  refine Zde (fun c=>?_) (fun c=>k _ _ s1 (fun z=>by cases z) fun _ p z=>absurd (hb.mpr z.1) c)
  refine ⟨_,rfl,v,e :: es,rfl,(hR.same s1).hV,hR.hF,fun H2 ss s2 hS=>⟨_,rfl,k _ _ (s1.trans s2) (fun z=>⟨hb.mp c,fun ss' hS'=>?_⟩) fun z p hp=>?_⟩⟩
  ·rw [SPts.one hS' hS]
   simpa using z
  ·have z':1 < sm (ups (mo (e :: es)) ss):=by simpa using z
   obtain ⟨_,z2,e',z3⟩:=hp
   rcases ups_begin hR.hO hS z3 ((YZ hR.hO hS).mp z2) with q | q
   ·rw [q.2] at z'
    exact absurd z' (by show ¬ (1:Int) < 0; decide)
   ·rw [q.2] at z'
    exact absurd z' (by show ¬ (1:Int) < 1; decide)
abbrev JN:Stmt:=top 25
abbrev ZgA:List Str:=["H","begins"]
theorem scStartsOf:Zo ZgA ["H"] (Zg JN):=⟨rfl,rfl,rfl,by decide +kernel,rfl,by decide +kernel,by decide +kernel⟩
def JH:Sp:=fun vs H Q _=>∃ (v:V) (ps:List Str) (e:Str × Int) (es:Es),vs=[v]∧Rw H v ps e es∧∀ H' v' rs,Same H H'→TupS H' v' rs→(∀ p,p∈rs↔Zdv ps p)→rs.Nodup→rs.length≤31→Q v' H'
theorem Za6 (D:HasDef K mg "starts_of" JN ["H"]) (B:Blt mg) (g20_:FOk P w K mg base 5 "has_text" ["H"] ZfG) (g12_:FOk P w K mg base 5 "begins_of" ["H"] ZaM) (g27_:FOk P w K mg base 5 "points_of" ["H"] Xu):FOk P w K mg base 6 "starts_of" ["H"] JH:=by
 refine D.ok scStartsOf (fun vs H Q E h=>?_) (fun f cdv A outer s H vs Q E hr h=>?_)
 ·obtain ⟨v,ps,e,es,rfl,_⟩:=h
  rfl
 ·obtain ⟨v,ps,e,es,rfl,hR,k⟩:=h
  refine ⟨_,(Zd (Ye (ZdU (ZdT (Zu g20_ hr (Za (pv 0) Ze)))) (Zh (Zr (Zav Ze))) ZA)
   (Zd (Zm (i:=1) scStartsOf.nd rfl (.inl rfl) (Zu g12_ hr (Za (pv 0) Ze)))
   (Zd (Ye (Zt XE (Zk Zq rfl B.len ZV (Za (pv 1) Ze)) Zf (Zy _)) (Zh (Zr (Zu g27_ hr (Za (pv 0) Ze)))) ZA)
   (Zh (Zr (Zav (Za (ZR ZaB (ZR ZaB (pv 1) Zf (fun _ _=>rfl)) Zf (fun _ _=>rfl)) Ze))))))),?_⟩
  have hO:=hR.hO
  refine ⟨_,rfl,v,ps,e,es,rfl,hR,fun H1 b s1 hb hb0=>⟨_,rfl,?_⟩⟩
  cases b with
  | false =>
   exact ZaC rfl ⟨Zl (Nat.zero_le _),fun q hq=>k _ (.ref q) [] (s1.trans (Zb hq)) ⟨q,rfl,Zc⟩ (fun p=>Iff.intro (fun z=>(List.not_mem_nil z).elim) (fun z=>absurd z (hb0 rfl p))) List.nodup_nil (Nat.zero_le _)⟩
  | true =>
  refine Jg rfl ?_
  refine ⟨_,rfl,v,e :: es,rfl,(hR.same s1).hV,hR.hF,fun v' H2 ss s2 hv' hss=>?_⟩
  have s12:=s1.trans s2
  obtain ⟨q,us,rfl,hq,hpa⟩:=hv'
  obtain ⟨hc,hm⟩:=hb rfl
  have hm:=hm ss hss
  have hbal:=ZmE hO hss hm
  refine ⟨_,rfl,.ref q,_,rfl,.inr ⟨_,SqT.of hq,rfl⟩,rfl,_,rfl,?_⟩
  rw [hpa.1]
  have hbg:∀ p,Zdv ps p→(ups (mo (e :: es)) ss=[])∨ups (mo (e :: es)) ss=[(p,1)]:=fun p hp=>by
   obtain ⟨z1,z2,e',z3⟩:=hp
   rcases ups_begin hO hss z3 ((YZ hO hss).mp z2) with q | q
   ·exact .inl q.2
   ·exact .inr q.2
  rcases hbal with ⟨a1,a2⟩ | ⟨u,hu,a1,e',a2⟩
  ·rw [a1]
   refine ZaC (by decide) ⟨_,rfl,v,e :: es,rfl,(hR.same s12).hV,hR.hF,fun v3 H3 rs s3 ht hS3=>k _ _ rs (s12.trans s3) ht (fun p=>⟨fun z=>⟨hc,(YZ hO hS3).mpr z,p,a2 p⟩,fun z=>(YZ hO hS3).mp z.2.1⟩) hS3.pts.nd (hR.hn _ hS3)⟩
  ·rw [a1] at hpa ⊢
   refine Jg (Zej (by show ((1:Nat):Int)≠0; decide)) ?_
   obtain ⟨b,e1,e2⟩:=hpa.2 0 (u,1) rfl
   refine ⟨_,rfl,q,us,0,.ref b,rfl,rfl,SqT.of hq,YF (by decide) e1,b,_,0,.str u,rfl,rfl,SqT.of e2,rfl,Zl (show 1≤1000 by decide),fun r hr=>?_⟩
   refine k _ (.ref r) [u] (s12.trans (Zb hr)) ⟨r,rfl,Zc⟩ (fun p=>⟨fun z=>?_,fun z=>?_⟩) (List.nodup_cons.mpr ⟨by simp,List.nodup_nil⟩) (by simp)
   ·rw [List.mem_singleton.mp z]
    exact ⟨hc,(YZ hO hss).mpr hu,e',a2⟩
   ·rcases hbg p z with q | q
    ·rw [a1] at q
     cases q
    ·rw [a1] at q
     injection q with q1 q2
     injection q1 with q3 q4
     rw [q3]
     exact List.mem_singleton.mpr rfl
end
theorem Zek {p:Str}:∀ rs:List Str,inV (.str p) (rs.map V.str)=decide (p∈rs)
 | []=>rfl
 | r :: rs=>by
  have ih:=Zek (p:=p) rs
  unfold inV at ih ⊢
  rw [List.map_cons,List.any_cons,ih]
  have e:eqV (.str r) (.str p)=decide (r=p):=by
   unfold eqV
   by_cases c:r=p <;> simp [c]
  rw [e,Bool.eq_iff_iff,Bool.or_eq_true,decide_eq_true_iff,decide_eq_true_iff,decide_eq_true_iff,List.mem_cons]
  exact ⟨fun h=>h.elim (fun z=>.inl z.symm) .inr,fun h=>h.elim (fun z=>.inl z.symm) .inr⟩
theorem Zg3 {ps:List Str} {e:Str × Int} {es:Es} (hO:ZS ps (e :: es)):ps≠[]:=fun z=>by
 have:=(hO.mem e.1).mp (List.mem_map.mpr ⟨e,List.mem_cons_self,rfl⟩)
 rw [z] at this
 cases this
section
variable {P:Program} {w:World} {K:PySem.W.Frag} {mg:Str→Option Value} {base:Heap}
abbrev X0:Stmt:=top 26
abbrev ZeP:List Str:=["H","P","ends","end","orders","piece","many"]
theorem scCountFrom:Zo ZeP ["H","P"] (Zg X0):=⟨rfl,rfl,rfl,by decide +kernel,rfl,by decide +kernel,by decide +kernel⟩
def Jt:Sp:=fun vs H Q _=>∃ (v:V) (ps:List Str) (e:Str × Int) (es:Es) (p:Str),vs=[v,.str p]∧Rw H v ps e es∧∀ H' (n:Int),Same H H'→IsN ps p n→Q (.int n) H'
theorem Zaj (D:HasDef K mg "count_from" X0 ["H","P"]) (B:Blt mg) (g29_:FOk P w K mg base 6 "starts_of" ["H"] JH) (g16_:FOk P w K mg base 6 "ends_of" ["H"] Zjn) (g23_:FOk P w K mg base 6 "orders_to" ["H","end"] ZlB) (g17_:FOk P w K mg base 6 "factorial" ["number"] Zke):FOk P w K mg base 7 "count_from" ["H","P"] Jt:=by
 refine D.ok scCountFrom (fun vs H Q E h=>?_) (fun f cdv A outer s H vs Q E hr h=>?_)
 ·obtain ⟨v,ps,e,es,p,rfl,_⟩:=h
  rfl
 ·obtain ⟨v,ps,e,es,p,rfl,hR,k⟩:=h
  have hO:=hR.hO
  have hV:=hR.hV
  have hF:=hR.hF
  have hW:=hR.hW
  have hn:=hR.hn
  refine ⟨_,(Zd (Ye (Zt Jd (pv 1) (Zu g29_ hr (Za (pv 0) Ze)) rfl) (Zh (Zr Zf)) ZA)
   (Zd (Zm (i:=2) scCountFrom.nd rfl (.inl rfl) (Zu g16_ hr (Za (pv 0) Ze)))
   (Zd (Zm (i:=3) scCountFrom.nd rfl (.inl rfl) (ZdY (Zt XE (Zk Zq rfl B.len ZV (Za (pv 2) Ze)) Zf (Zy _)) (pv 1) (ZR ZaB (ZR ZaB (pv 2) Zf (fun _ _=>rfl)) Zf (fun _ _=>rfl))))
   (Zd (Zm (i:=4) scCountFrom.nd rfl (.inl rfl) (Zu g23_ hr (Za (pv 0) (Za (pv 3) Ze))))
   (Zd (Z3 PassesOwn.never rfl (YK (pv 0)) (Yb 2 K rfl (Zw (Zz (i:=5) scCountFrom.nd rfl (.inl rfl)) (Zw (Zz (i:=6) scCountFrom.nd rfl (.inl rfl)) Ya)))
    (Zh (Zm (i:=4) scCountFrom.nd rfl (.inl rfl) (Zn Za4 (pv 4) (Zu g17_ hr (Za (pv 6) Ze))))))
   (Zh (Zr (pv 4)))))))),?_⟩
  refine ⟨_,rfl,_,rfl,v,ps,e,es,rfl,hR,fun H1 v1 rs s1 hT hrs _ _=>?_⟩
  obtain ⟨q1,rfl,hq1⟩:=hT
  refine ⟨q1,_,rfl,.inr (SqT.of hq1),rfl,by simp [Zbl],_,rfl,?_⟩
  rw [Zek]
  by_cases hst:p∈rs
  rotate_left
  ·refine ZaC (by simp [hst]) ?_
   refine k _ 0 s1 ⟨Int.le_refl _,fun ss0 ks _ _ _ _=>⟨fun z=>absurd z (Zg3 hO),fun _ _=>rfl,fun _ z=>absurd ((hrs p).mpr z) hst⟩⟩
  refine Jg (by simp [hst]) ?_
  have hSt:=(hrs p).mp hst
  refine ⟨_,rfl,v,e :: es,rfl,hV.same s1,hF,fun v' H2 ss s2 hv' hss=>?_⟩
  have s12:=s1.trans s2
  obtain ⟨q2,us,rfl,hq2,hpa2⟩:=hv'
  obtain ⟨ue,hue⟩:∃ ue,ups (fun y=>-mo (e :: es) y) ss=ue:=⟨_,rfl⟩
  dsimp only
  refine Ym (fun σ H'=>H'=H2∧σ=[some v,some (.str p),some (.ref q2),some (.str (Zlm p ue)),none,none,none]) (fun R hR=>?_) ?_
  ·refine ⟨_,rfl,.ref q2,_,rfl,.inr ⟨_,SqT.of hq2,rfl⟩,rfl,_,rfl,?_⟩
   rw [hpa2.1,hue]
   rw [hue] at hpa2
   cases ue with
   | nil=>exact ZaC (by decide) ⟨_,rfl,hR _ _ ⟨rfl,rfl⟩⟩
   | cons u ue =>
    refine Jg (Zej (by rw [List.length_cons]; omega)) ?_
    obtain ⟨b,e1,e2⟩:=hpa2.2 0 u rfl
    exact ⟨_,rfl,q2,us,0,.ref b,rfl,rfl,SqT.of hq2,YF (by decide) e1,b,_,0,.str u.1,rfl,rfl,SqT.of e2,rfl,hR _ _ ⟨rfl,rfl⟩⟩
  rintro σ H2' ⟨rfl,rfl⟩
  refine ⟨_,rfl,_,rfl,v,e :: es,_,rfl,hV.same s12,hF,hW,hn,fun H3 ss' s3 hS'=>?_⟩
  have ess:=SPts.one hS' hss
  subst ess
  have s13:=s12.trans s3
  obtain ⟨n,hdv⟩:=ZkC (r:=Zlm p ue) hF hS'
  have hnn:=ZlU hF ss' (Zlm p ue)
  have kk:∀ H',Same H H'→Q (.int n) H':=fun H' s'=>by
   refine k H' n s' ⟨?_,fun ss0 ks h1 h2 h3 h4=>⟨fun z=>absurd z (Zg3 hO),fun _ z=>absurd hSt z,fun _ _ e' hB=>?_⟩⟩
   ·rw [hdv] at hnn
    have hp:=JS ((e :: es).map fun e=>fI e.2) fun y hy=>by
     obtain ⟨x,_,rfl⟩:=List.mem_map.mp hy
     exact Zaa _
    false_or_by_contra
    rename_i c
    have:=Int.mul_neg_of_pos_of_neg (show 0 < prI ((e :: es).map fun e=>fI e.2) by omega) (show n < 0 by omega)
    omega
   ·have he:Zlm p ue=e':=by rw [← hue]; exact Zj3 hO hS' hB
    rw [he] at hdv
    rw [← ZiH hO h3 h4,← ZlV hO hS' h1 h2 e',hdv,Int.mul_comm]
  rw [hdv]
  clear hdv hnn hue hpa2 hq2 hrs hSt hO
  have hW1:=hW.one
  have hF1:=hF.many
  obtain ⟨q,vs,rfl,hq,hpa⟩:=hV.same s13
  clear k hW hF hn hV hR
  generalize e :: es=fs at *
  refine ⟨_,rfl,q,rfl,⟨_,SqT.of hq⟩,X8 (K:=K) (a:=q) (xs:=vs) (fun i σ H4=>(∃ z5 z6:Option V,σ=[some (.ref q),some (.str p),some (.ref q2),some (.str (Zlm p ue)),some (.int (prI ((fs.drop i).map fun e=>fI e.2) * n)),z5,z6])∧Same H3 H4)
   ⟨⟨none,none,rfl⟩,Same.refl _⟩ (fun i σ H4 _ ⟨_,s4⟩=>SqT.of (s4 _ _ hq)) ?_ ?_⟩
  ·rintro i x σ H4 hi ⟨⟨z5,z6,rfl⟩,s4⟩
   have hiv:i < vs.length:=(List.getElem?_eq_some_iff.mp hi).1
   have hie:i < fs.length:=by rw [← hpa.1]; exact hiv
   obtain ⟨b,e1,e2⟩:=hpa.2 i fs[i] (List.getElem?_eq_getElem hie)
   rw [hi] at e1
   cases e1
   have m1:=hW1 _ (List.getElem_mem hie)
   have m2:=(hF1 _ (List.getElem_mem hie)).1
   rw [List.drop_eq_getElem_cons hie]
   generalize fs[i]=g at *
   have hp:=Zaa g.2
   refine ⟨b,_,rfl,SqT.of (s4 _ _ e2),rfl,_,_,rfl,_,_,rfl,rfl,_,rfl,_,rfl,_,rfl,by omega,m1,_,_,rfl,rfl,⟨by omega,(Zhf m1).big (by decide)⟩,⟨some (.str g.1),some (.int g.2),?_⟩,s4⟩
   rw [List.map_cons,Zs,Int.mul_assoc]
   dsimp only
   rw [Int.mul_fdiv_cancel_left _ (by omega)]
   rfl
  ·rintro σ H4 ⟨⟨z5,z6,rfl⟩,s4⟩
   rw [hpa.1,List.drop_length]
   refine ⟨_,rfl,?_⟩
   rw [List.map_nil,ZaZ,Int.one_mul]
   exact kk _ (s13.trans s4)
end
end Sh
namespace L2
open PySem PySem.Spec PyProof.Rows
theorem Zhu {X:Cx} (hc:X.calm=true):CallR X (.builtin "sum") (fun xs H Q=>∃ (a:Addr) (ns:List Int),xs=[.ref a]∧SqL X.K H a (ns.map V.int)∧Q (.int ns.sum) H):=by
 intro pins s σ H xs us Q I r h
 obtain ⟨a,ns,rfl,hq,q⟩:=h
 obtain ⟨u,rfl,ru⟩:=Xg r
 cases ru
 obtain ⟨its,rv,pl,hz⟩:=I.list hq
 have hl:=rv.length
 rw [List.length_map] at hl
 have hlt:a < s.heap.objs.size:=by
  obtain ⟨o,n,e,_⟩:=pl
  exact Heap.lt_size e
 refine call_sum_walkG (wpAny_pyIter_list pl.isList ⟨s.heap.objs.size,[s.heap.objs.size,a],[s.heap.objs.size],its.toArray.size,_,_,fun i=>ns.getD i 0,rfl,Walks.list (A:=X.A.in1) (I.ok.hd hc) _ _ (Nat.ne_of_lt hlt) its.toArray,
  ⟨⟨_,Heap.get?_push_size _ rfl,rfl,rfl⟩,pl.isList.push _⟩,?_,?_,?_⟩)
 ·intro b hb
  show b < (s.heap.push _).objs.size
  rw [Heap.size_push]
  have:b=s.heap.objs.size∨b=a:=by simpa using hb
  rcases this with z | z
  ·rw [z]; exact Nat.lt_succ_self _
  ·rw [z]; exact Nat.lt_succ_of_lt hlt
 ·intro i v hv
  have e1:its[i]?=some v:=by simpa using hv
  have hi:i < its.length:=(List.getElem?_eq_some_iff.mp e1).1
  have hb:(ns.map V.int)[i]?=some (.int (ns.getD i 0)):=by
   rw [List.getElem?_map,List.getD_eq_getElem?_getD]
   cases e:ns[i]? with
   | none=>exact absurd (List.getElem?_eq_none_iff.mp e) (by omega)
   | some b=>rfl
  obtain ⟨u',hu,ru⟩:=rv.get hb
  rw [e1] at hu
  cases hu
  exact ru
 ·intro h' tk t' kk
  refine ⟨.int ns.sum,H,I.kept fun b o e=>kk b o (by simpa using Nat.ne_of_lt (Heap.lt_size e)) (Heap.get?_push_of_some _ e),⟨t',?_⟩,q⟩
  rw [YB,List.take_of_length_le (by rw [List.size_toArray]; omega)]
end L2
namespace Sh
open PySem L2 PyProof.Rows
seal L2.PE L2.PS L2.PSs L2.PT L2.PW L2.PA L2.PI L2.PG L2.PGs L2.PO L2.PC L2.PCs L2.OpR L2.UnR L2.CallR L2.MtR L2.IxR L2.SlR
theorem Zk3 {Pr:Nat→Int→Prop}:∀ (vs:List V),(∀ (i:Nat) (v:V),vs[i]?=some v→∃ n:Int,v = .int n∧Pr i n)→∃ ns:List Int,vs=ns.map V.int∧∀ (i:Nat) (n:Int),ns[i]?=some n→Pr i n:=by
 intro vs
 induction vs generalizing Pr with
 | nil=>exact fun _=>⟨[],rfl,fun i n h=>by simp at h⟩
 | cons v vs ih =>
  intro h
  obtain ⟨n,e,hn⟩:=h 0 v rfl
  obtain ⟨ns,e2,h2⟩:=ih (Pr:=fun i=>Pr (i + 1)) fun i u hu=>h (i + 1) u hu
  refine ⟨n :: ns,by rw [e,e2]; rfl,fun i m hm=>?_⟩
  cases i with
  | zero=>cases hm; exact hn
  | succ i=>exact h2 i m hm
section
variable {P:Program} {w:World} {K:PySem.W.Frag} {mg:Str→Option Value} {base:Heap}
abbrev Jw:Stmt:=top 27
abbrev Zd6:List Str:=["H"]
theorem ZfV:Zo Zd6 ["H"] (Zg Jw):=⟨rfl,rfl,rfl,by decide +kernel,rfl,by decide +kernel,by decide +kernel⟩
def ZbK:Sp:=fun vs H Q _=>∃ (v:V) (ps:List Str) (e:Str × Int) (es:Es),vs=[v]∧Rw H v ps e es∧∀ H' (rs:List Str) (ns:List Int),Same H H'→(∀ p,p∈rs↔Zdv ps p)→rs.Nodup→ns.length=rs.length→(∀ (i:Nat) (n:Int),ns[i]?=some n→IsN ps (rs.getD i "") n)→Q (.int ns.sum) H'
theorem Zc3 (D:HasDef K mg "count_of" Jw ["H"]) (B:Blt mg) (g29_:FOk P w K mg base 7 "starts_of" ["H"] JH) (g13_:FOk P w K mg base 7 "count_from" ["H","P"] Jt):FOk P w K mg base 8 "count_of" ["H"] ZbK:=by
 refine D.ok ZfV (fun vs H Q E h=>?_) (fun f cdv A outer s H vs Q E hr h=>?_)
 ·obtain ⟨v,ps,e,es,rfl,_⟩:=h
  rfl
 ·obtain ⟨v,ps,e,es,rfl,hR,k⟩:=h
  refine ⟨_,(Zh (Zr (Zk (Zhu rfl) rfl B.sum Zli (Za (ZL (Zg Jw) Zd6 ["point"] [0] rfl (YK (Zu g29_ hr (Za (pv 0) Ze))) (fun _ _ _ _ _=>Yc 0) (fun _ _ _ _ _=>ZP) (fun _ _ _ _ _=>(Zu g13_ hr (Za (pv 1) (Za (pv 0) Ze))))) Ze)))),?_⟩
  refine ⟨_,rfl,v,ps,e,es,rfl,hR,fun H1 v1 rs s1 hT hrs hnd hrl=>?_⟩
  obtain ⟨q,rfl,hq⟩:=hT
  refine ⟨q,rfl,⟨_,SqT.of hq⟩,YL (rs.map V.str).length (fun i=>(rs.map V.str).getD i .non) (fun i v _=>∃ n:Int,v = .int n∧IsN ps (rs.getD i "") n) (Zl (by rw [List.length_map]; omega)) (fun _ _ _ _ _ r=>r) (ZaA (SqT.of hq)) ?_ ?_⟩
  ·intro i H3 Qe hi hs kq
   have hi':i < rs.length:=by rw [List.length_map] at hi; exact hi
   rw [YA hi']
   refine ⟨_,rfl,_,rfl,v,ps,e,es,rs[i],rfl,hR.same (s1.trans hs),fun H4 n s4 hn=>kq _ _ s4 ⟨n,rfl,?_⟩⟩
   rw [List.getD_eq_getElem?_getD,List.getElem?_eq_getElem hi']
   exact hn
  intro D1 vs1 H3 hl1 hr1 hs3 hD1 hDl1
  obtain ⟨ns,e1,hns⟩:=Zk3 (Pr:=fun i n=>IsN ps (rs.getD i "") n) vs1 hr1
  subst e1
  rw [List.length_map,List.length_map] at hl1
  exact ⟨D1,ns,rfl,SqL.of hDl1,k _ rs ns (s1.trans hs3) hrs hnd hl1 hns⟩
end
end Sh
set_option maxRecDepth 4000
namespace L2
open PySem PySem.Spec PyProof.Rows
def eqS (y:Str):Value→Bool
 | .str z _=>z == y
 | _=>false
theorem Zf3 {prog:Program} {w:World} {A:Around} {E:Value→Shared→Prop} {s:Shared} {Q:Value→Shared→Prop} {l:Addr} {its:List Value} {n:Nat} {y:Str} {t:Tok} {j:Nat} (e:s.heap.get? l=some { cls:=.type "list",dict:=none,data:=.seq its.toArray n,slots:=#[] })
  (he:∀ u∈its.toArray,MeetsSeq.EqGives u (.str y t) (eqS y u)) (hj:j < its.toArray.size) (h1:eqS y its.toArray[j]=true) (h2:∀ (m:Nat) (hm:m < its.toArray.size),m < j→eqS y its.toArray[m]=false) (hsz:its.toArray.size≤sizeLine)
  (h:Q .none { s with heap:=s.heap.update l (Obj.mapSeq fun xs=>xs.eraseIdxIfInBounds j),toks:=s.toks }) :
  wpAny (model prog w) A (call (.builtin "list.remove") [.ref l,.str y t]) Q E s :=
 call_meets F.slot_list_remove ⟨_,e,rfl⟩ F.entry_list_remove (F.args_list_remove_2 _ _) (MeetsSeq.list_remove l its.toArray n (.str y t) (eqS y) he j hj h1 h2 hsz) ⟨e,h⟩
def Zkq:V→List V→Hp→VK→Prop:=fun x vs H Q=>∃ (l:Addr) (xs:List Str) (y:Str) (j:Nat),x = .ref l∧vs=[.str y]∧H l=some (.lst (xs.map V.str))∧xs[j]?=some y∧(∀ i,i < j→xs[i]?≠some y)∧Q .non (upd H l (.lst ((xs.eraseIdx j).map V.str)))
theorem ZgF {X:Cx}:MtR X "list.remove" Zkq:=by
 intro pins s σ H x vs v us Q I rx rv h
 obtain ⟨l,xs,y,j,rfl,rfl,hH,hj,hno,q⟩:=h
 cases rx
 obtain ⟨u0,rfl,ru⟩:=Xg rv
 obtain ⟨t,rfl⟩:=ru
 obtain ⟨z,its,n,r,hl,e⟩:=I.lstM hH
 have hlen:=r.length
 rw [List.length_map] at hlen hl z
 have at1:∀ (m:Nat) (hm:m < its.length),∃ t',its[m] = .str (xs.getD m "") t':=fun m hm=>by
  have hx:m < xs.length:=by omega
  have e1:(xs.map V.str)[m]?=some (V.str xs[m]):=by rw [List.getElem?_map,List.getElem?_eq_getElem hx]; rfl
  obtain ⟨t',et⟩:=Zj1 r e1 (List.getElem?_eq_getElem hm)
  exact ⟨t',by rw [et,List.getD_eq_getElem?_getD,List.getElem?_eq_getElem hx]; rfl⟩
 have hjl:j < xs.length:=(List.getElem?_eq_some_iff.mp hj).1
 have hjt:j < its.toArray.size:=by rw [List.size_toArray]; omega
 have J:=I.lset (its':=its.eraseIdx j) (f:=fun xs:Array Value=>xs.eraseIdxIfInBounds j) (t':=s.toks) (ys:=(xs.eraseIdx j).map V.str) hH e (by
  show its.toArray.eraseIdxIfInBounds j=(its.eraseIdx j).toArray
  rw [List.eraseIdxIfInBounds_toArray]) (by
  have:=r.eraseIdx j
  rw [List.eraseIdx_eq_take_drop_succ] at this
  rw [List.eraseIdx_eq_take_drop_succ xs,List.map_append,List.map_take,List.map_drop]
  exact this) (by
  rw [List.length_map]
  have:=JY xs j
  omega)
 have fin:EP X pins σ Q .none { s with heap:=s.heap.update l (Obj.mapSeq fun xs:Array Value=>xs.eraseIdxIfInBounds j),toks:=s.toks }:=⟨.non,_,J,rfl,q⟩
 refine Zf3 (y:=y) (t:=t) (j:=j) e ?_ hjt ?_ ?_ (by rw [List.size_toArray]; omega) fin
 ·intro u hu
  obtain ⟨m,hm,em⟩:=List.mem_iff_getElem.mp (by simpa using hu:u∈its)
  obtain ⟨t',et⟩:=at1 m hm
  rw [← em,et]
  exact eqGives_str _ _ _ _
 ·show eqS y its[j]=true
  obtain ⟨t',et⟩:=at1 j (by omega)
  rw [et]
  show (xs.getD j "" == y)=true
  rw [List.getD_eq_getElem?_getD,hj]
  simp
 ·intro m hm hmj
  have hm':m < its.length:=by simpa using hm
  show eqS y its[m]=false
  obtain ⟨t',et⟩:=at1 m hm'
  rw [et]
  show (xs.getD m "" == y)=false
  have:=hno m hmj
  rw [List.getElem?_eq_getElem (show m < xs.length by omega)] at this
  rw [List.getD_eq_getElem?_getD,List.getElem?_eq_getElem (show m < xs.length by omega),Bool.eq_false_iff]
  intro c
  exact this (congrArg some (eq_of_beq c))
end L2
namespace Sh
open PySem L2 PyProof.Rows
seal L2.PE L2.PS L2.PSs L2.PT L2.PW L2.PA L2.PI L2.PG L2.PGs L2.PO L2.PC L2.PCs L2.OpR L2.UnR L2.CallR L2.MtR L2.IxR L2.SlR
theorem ZdN {H:Hp}:∀ ps:List Str,RepA H (ps.map PyData.str) (ps.map V.str)
 | []=>by rw [List.map_nil,RepA]; rfl
 | p :: ps=>by
  rw [List.map_cons,RepA]
  exact ⟨.str p,ps.map V.str,rfl,by rw [RepD],ZdN ps⟩
theorem Zf2 {H:Hp} {a:Addr} {ps:List Str} (h:H a=some (.lst (ps.map V.str))):RepD H (.list (ps.map PyData.str)) (.ref a):=by
 rw [RepD]
 exact ⟨a,_,rfl,h,ZdN ps⟩
theorem Zeb:∀ ps:List Str,(∀ p∈ps,PyData.strOk p=true)→PyData.canLayAll0 (ps.map PyData.str)=true
 | [],_=>by simp [PyData.canLayAll0]
 | p :: ps,h=>by
  rw [List.map_cons,PyData.canLayAll0,Zeb ps fun q hq=>h q (List.mem_cons_of_mem _ hq)]
  simp [PyData.canLay0,h p List.mem_cons_self]
theorem ZaE:∀ ps:List Str,PyData.depthAll (ps.map PyData.str)=0
 | []=>by simp [PyData.depthAll]
 | p :: ps=>by
  rw [List.map_cons,PyData.depthAll,ZaE ps]
  simp [PyData.depth]
theorem ZcM {ps:List Str} (h:∀ p∈ps,PyData.strOk p=true):SeqAt.shaped (.list (ps.map PyData.str))=true:=by
 unfold SeqAt.shaped
 rw [Bool.and_eq_true]
 constructor
 ·rw [PyData.canLay0]
  exact Zeb ps h
 ·refine decide_eq_true ?_
  rw [PyData.depth,ZaE ps]
  decide
theorem ZiU (ps:List Str):PyData.eqv (.list (ps.map PyData.str)) (.list ([].map PyData.str))=ps.isEmpty:=by
 cases ps with
 | nil=>simp [PyData.eqv,PyData.eqvAll]
 | cons n r=>simp [PyData.eqv,PyData.eqvAll]
theorem ZdI (x:Str):∀ ss:List Str,(ss.map fun x=>x.cps.toList).Pairwise (· < ·)→∃ tt:List Str,(tt.map fun x=>x.cps.toList).Pairwise (· < ·)∧∀ y,y∈tt↔y=x∨y∈ss
 | [],_=>⟨[x],by simp,fun y=>by simp⟩
 | z :: ss,h=>by
  rw [List.map_cons,List.pairwise_cons] at h
  obtain ⟨h1,h2⟩:=h
  have hz:∀ y∈ss,z.cps.toList < y.cps.toList:=fun y hy=>h1 _ (List.mem_map.mpr ⟨y,hy,rfl⟩)
  by_cases a:x.cps.toList < z.cps.toList
  ·refine ⟨x :: z :: ss,?_,fun y=>by simp⟩
   rw [List.map_cons,List.pairwise_cons,List.map_cons,List.pairwise_cons]
   refine ⟨fun c hc=>?_,h1,h2⟩
   rcases List.mem_cons.mp hc with q | q
   ·rw [q]; exact a
   ·exact List.lt_trans a (h1 c q)
  ·by_cases b:z.cps.toList < x.cps.toList
   ·obtain ⟨tt,t1,t2⟩:=ZdI x ss h2
    refine ⟨z :: tt,?_,fun y=>?_⟩
    ·rw [List.map_cons,List.pairwise_cons]
     refine ⟨fun c hc=>?_,t1⟩
     obtain ⟨y,hy,rfl⟩:=List.mem_map.mp hc
     rcases (t2 y).mp hy with q | q
     ·rw [q]; exact b
     ·exact hz y q
    ·rw [List.mem_cons,t2,List.mem_cons]
     exact ⟨fun q=>q.elim (fun q=>.inr (.inl q)) (fun q=>q.elim .inl (fun q=>.inr (.inr q))),fun q=>q.elim (fun q=>.inr (.inl q)) (fun q=>q.elim .inl (fun q=>.inr (.inr q)))⟩
   ·have e:x=z:=ZZ (List.le_antisymm (List.not_lt.mp b) (List.not_lt.mp a))
    refine ⟨z :: ss,?_,fun y=>?_⟩
    ·rw [List.map_cons,List.pairwise_cons]
     exact ⟨h1,h2⟩
    ·rw [List.mem_cons,e]
     exact ⟨.inr,fun q=>q.elim .inl id⟩
theorem ZaN:∀ l:List Str,∃ tt:List Str,(tt.map fun x=>x.cps.toList).Pairwise (· < ·)∧∀ y,y∈tt↔y∈l
 | []=>⟨[],by simp,fun y=>by simp⟩
 | x :: l=>by
  obtain ⟨ss,h1,h2⟩:=ZaN l
  obtain ⟨tt,t1,t2⟩:=ZdI x ss h1
  exact ⟨tt,t1,fun y=>by rw [t2,h2,List.mem_cons]⟩
theorem Zfy {tt:List Str} (h:(tt.map fun x=>x.cps.toList).Pairwise (· < ·)):tt.Nodup:=by
 rw [List.nodup_iff_pairwise_ne]
 refine List.Pairwise.imp ?_ (List.pairwise_map.mp h)
 intro x y hxy e
 rw [e] at hxy
 exact List.lt_irrefl _ hxy
structure RowOk (ps:List Str):Prop where
 len:ps.length≤25
 one:∀ x∈ps,(1≤x.length∧x.length≤1000)∧PyData.strOk x=true
 pts:∀ l:List Str,l.Nodup→(∀ y∈l,inP ps y=true)→l.length≤31
theorem Zbi {ps qs:List Str} (h:∀ x∈qs,x∈ps) {y:Str} (k:inP qs y=true):inP ps y=true:=by
 obtain ⟨x,hx,q⟩:=inP_iff.mp k
 exact inP_iff.mpr ⟨x,h x hx,q⟩
theorem RowOk.sub {ps qs:List Str} (h:RowOk ps) (hs:∀ x∈qs,x∈ps) (hl:qs.length≤ps.length):RowOk qs:=⟨Nat.le_trans hl h.len,fun x hx=>h.one x (hs x hx),fun l nd hi=>h.pts l nd fun y hy=>Zbi hs (hi y hy)⟩
theorem ZlD {H:Hp} {v:V} {ps:List Str} {hp:Es} (hR:RowOk ps) (hne:ps≠[]) (hA:HpAt H v hp) (hO:ZS ps hp):∃ e es,hp=e :: es∧Rw H v ps e es:=by
 have hlen:=ZiI hO
 have hl:=hR.len
 cases hp with
 | nil =>
  cases ps with
  | nil=>exact absurd rfl hne
  | cons x ps=>exact absurd ((hO.mem x).mpr List.mem_cons_self) (by simp)
 | cons e es =>
  refine ⟨e,es,rfl,ZiJ hA,hO,⟨by omega,fun g hg=>?_,fun g hg=>?_⟩,Zmv hO hl,fun ss hS=>hR.pts ss hS.pts.nd fun y hy=>(YZ hO hS).mpr hy⟩
  ·have h1:=hO.cnt g hg
   have h2:=List.count_le_length (a:=g.1) (l:=ps)
   omega
  ·exact (hR.one _ ((hO.mem g.1).mp (List.mem_map.mpr ⟨g,hg,rfl⟩))).1
section
variable {P:Program} {w:World} {K:PySem.W.Frag} {mg:Str→Option Value} {base:Heap}
abbrev ZfX:Stmt:=top 38
abbrev Zl5:List Str:=["_law_row_here","_law_point"]
theorem Zkj:Zo Zl5 ["_law_row_here","_law_point"] (Zg ZfX):=⟨rfl,rfl,rfl,by decide +kernel,rfl,by decide +kernel,by decide +kernel⟩
def Zjm:Sp:=fun vs H Q _=>∃ (a:Addr) (ps:List Str) (p:Str),vs=[.ref a,.str p]∧H a=some (.lst (ps.map V.str))∧RowOk ps∧∀ H' (n:Int),Same H H'→IsN ps p n→Q (.int n) H'
theorem Zgt (D:HasDef K mg "_law_from" ZfX ["_law_row_here","_law_point"]) (B:Blt mg) (g4_:FOk P w K mg base 7 "_law_heap" ["_law_pieces"] (ZfF K)) (g13_:FOk P w K mg base 7 "count_from" ["H","P"] Jt):FOk P w K mg base 8 "_law_from" ["_law_row_here","_law_point"] Zjm:=by
 refine D.ok Zkj (fun vs H Q E h=>?_) (fun f cdv A outer s H vs Q E hr h=>?_)
 ·obtain ⟨a,ps,p,rfl,_⟩:=h
  rfl
 ·obtain ⟨a,ps,p,rfl,ha,hR,k⟩:=h
  have hu:=ZeT hr
  refine ⟨_,(Zd (Ye (Zt (ZlZ hr.units) (pv 0) (Yn Ze) (Zy _)) (Zh (Zr Zf)) ZA)
   (Zh (Zr (Zu g13_ hr (Za (Zu g4_ hr (Za (pv 0) Ze)) (Za (pv 1) Ze)))))),?_⟩
  refine ⟨_,rfl,Nat.zero_le _,fun p0 hp0=>?_⟩
  have s0:=Zb (o:=.lst []) hp0
  refine ⟨.list (ps.map PyData.str),.list ([].map PyData.str),Zf2 (s0 _ _ ha),?_,ZcM fun x hx=>(hR.one x hx).2,by decide +kernel,_,rfl,?_⟩
  ·rw [RepD]
   exact ⟨p0,[],rfl,Zc,by rw [List.map_nil,RepA]⟩
  rw [ZiU]
  refine Zde (fun c=>?_) (fun c=>?_)
  ·have e0:ps=[]:=List.isEmpty_iff.mp c
   exact k _ 1 s0 ⟨by decide,fun ss0 ks _ _ _ _=>⟨fun _=>rfl,fun z=>absurd e0 z,fun z=>absurd e0 z⟩⟩
  ·have hne:ps≠[]:=fun z=>c (by rw [z]; rfl)
   have hl:=hR.len
   refine ⟨_,rfl,a,ps,ps,rfl,SqL.of (s0 _ _ ha),by omega,by omega,fun x hx=>hx,fun v H1 hp s1 hA hO=>?_⟩
   obtain ⟨e,es,rfl,hRw⟩:=ZlD hR hne hA hO
   exact ⟨_,rfl,v,ps,e,es,p,rfl,hRw,fun H2 n s2 hn=>k _ n ((s0.trans s1).trans s2) hn⟩
end
theorem Zem {x:Str}:∀ ps:List Str,x∈ps→∃ j,ps[j]?=some x∧(∀ i,i < j→ps[i]?≠some x)∧ps.eraseIdx j=ps.erase x
 | [],h=>by cases h
 | y :: ps,h=>by
  by_cases e:y=x
  ·subst e
   exact ⟨0,rfl,fun i hi=>absurd hi (Nat.not_lt_zero _),by rw [List.erase_cons_head]; rfl⟩
  ·obtain ⟨j,h1,h2,h3⟩:=Zem ps ((List.mem_cons.mp h).resolve_left fun z=>e z.symm)
   refine ⟨j + 1,h1,fun i hi=>?_,?_⟩
   ·cases i with
    | zero=>exact fun z=>e (Option.some.inj z)
    | succ i=>exact h2 i (by omega)
   ·rw [List.erase_cons_tail (by simpa using e),← h3]
    rfl
theorem Zff {H1:Hp} {p2 q2:Addr} {o1:HO} (o2:HO) (h1:H1 p2=none) (h2:(upd H1 p2 o1) q2=none):∃ H3,upd (upd H1 p2 o1) q2 o2=H3∧Same H1 H3∧H3 q2=some o2:=⟨_,rfl,(Zb h1).trans (Zb h2),Zc⟩
section
variable {P:Program} {w:World} {K:PySem.W.Frag} {mg:Str→Option Value} {base:Heap}
abbrev ZaT:Stmt:=top 39
abbrev Zik:List Str:=["_law_row_here","_law_point","_law_found","_law_total","_law_piece","_law_left"]
theorem scLGoesOn:Zo Zik ["_law_row_here","_law_point"] (Zg ZaT):=⟨rfl,rfl,rfl,by decide +kernel,rfl,by decide +kernel,by decide +kernel⟩
def Zjl:Sp:=fun vs H Q _=>∃ (a:Addr) (ps:List Str) (p:Str),vs=[.ref a,.str p]∧H a=some (.lst (ps.map V.str))∧RowOk ps∧ps≠[]∧∀ H',Same H H'→Q (.bl true) H'
theorem ZbX (D:HasDef K mg "_law_goes_on" ZaT ["_law_row_here","_law_point"]) (B:Blt mg) (g2_:FOk P w K mg base 8 "_law_from" ["_law_row_here","_law_point"] Zjm) (g10_:FOk P w K mg base 8 "_law_whole" ["_law_found"] ZcI):FOk P w K mg base 9 "_law_goes_on" ["_law_row_here","_law_point"] Zjl:=by
 refine D.ok scLGoesOn (fun vs H Q E h=>?_) (fun f cdv A outer s H vs Q E hr h=>?_)
 ·obtain ⟨a,ps,p,rfl,_⟩:=h
  rfl
 ·obtain ⟨a,ps,p,rfl,ha,hR,hne,k⟩:=h
  refine ⟨_,(Zd (Zm (i:=2) scLGoesOn.nd rfl (.inl rfl) (Zu g2_ hr (Za (pv 0) (Za (pv 1) Ze))))
   (Zd (Zm (i:=3) scLGoesOn.nd rfl (.inl rfl) Zf)
   (Zd (Z3 PassesOwn.never rfl (ZX (Zk (Yu rfl) rfl B.sorted YG (Za (ZE (XQ rfl) rfl B.set Zi4 (Za (pv 0) Ze)) Ze))) (Zz (i:=4) scLGoesOn.nd rfl (.inl rfl))
    (Zh (Ye (Zt XE (Zv Z2 (pv 4) ZB (Zx (Jh YH Zf))) (pv 1) (Zy _)) (Zd (Zm (i:=5) scLGoesOn.nd rfl (.inl rfl) (ZE Y4 rfl B.list Zcy (Za (pv 0) Ze)))
   (Zd (YU (ZcU F.plainAttrs_list F.slot_list_remove F.type_list_remove ZgF (pv 5) (Za (pv 4) Ze)))
   (Zh (Zm (i:=3) scLGoesOn.nd rfl (.inl rfl) (Zn ZY (pv 3) (Zu g2_ hr (Za (pv 5) (Za (Zv Z2 (pv 4) (Zx Zf) ZB) Ze)))))))) ZA)))
   (Zh (Zr (Zgk (Zu g10_ hr (Za (pv 2) Ze)) (Zgg (Za2 XE (pv 2) (pv 3) (Zy _))))))))),?_⟩
  have hl:=hR.len
  refine ⟨_,rfl,_,rfl,a,ps,p,rfl,ha,hR,fun H1 n s1 hN=>?_⟩
  have ha1:=s1 _ _ ha
  refine ⟨_,rfl,a,ps,rfl,SqL.of ha1,by omega,fun p2 ks hp2 hnd hmem hkl=>?_⟩
  refine ⟨p2,ks,rfl,Zc,by omega,fun q2 kk hq2 hpm hsrt=>?_⟩
  obtain ⟨H3,eH3,s3,hq3⟩:=Zff (.lst (kk.map V.str)) hp2 hq2
  rw [eH3]
  have hkk:∀ x,x∈kk↔x∈ps:=fun x=>by rw [hpm.mem_iff,hmem]
  have ndk:kk.Nodup:=hpm.nodup_iff.mpr hnd
  have s13:=s1.trans s3
  refine ⟨q2,rfl,⟨_,SqL.of hq3⟩,XM (K:=K) (a:=q2) (xs:=kk.map V.str) (fun i σ H4=>Same H3 H4∧∃ (m:Str→Int) (z4 z5:Option V),σ=[some (.ref a),some (.str p),some (.int n),some (.int (((kk.take i).filter fun x=>decide (bg x=p)).map m).sum),z4,z5]∧∀ x∈kk.take i,bg x=p→IsN (ps.erase x) (en x) (m x))
   ⟨Same.refl _,fun _=>0,none,none,rfl,fun x hx=>by simp at hx⟩ (fun i σ H4 _ ⟨s4,_⟩=>SqL.of (s4 _ _ hq3)) ?_ ?_⟩
  ·rintro i x σ H4 hi ⟨s4,m,z4,z5,rfl,hm⟩
   obtain ⟨hi',rfl⟩:=Yj hi
   have etk:kk.take (i + 1)=kk.take i ++ [kk[i]]:=List.take_succ_eq_append_getElem hi'
   have hxin:kk[i]∈ps:=(hkk _).mp (List.getElem_mem hi')
   have hnx:kk[i]∉kk.take i:=fun q=>by
    have h2:(kk.take (i + 1)).Nodup:=ndk.sublist (List.take_sublist _ _)
    rw [etk,List.nodup_append] at h2
    exact h2.2.2 _ q _ (List.mem_singleton.mpr rfl) rfl
   rw [etk]
   obtain ⟨⟨l1,l2⟩,l3⟩:=hR.one _ hxin
   generalize kk[i]=x at *
   generalize kk.take i=tk at *
   refine ⟨_,rfl,_,rfl,_,rfl,_,rfl,ZN l2,?_⟩
   rw [Yq l1]
   refine ⟨_,rfl,rfl,_,rfl,?_⟩
   by_cases c:bg x=p
   rotate_left
   ·refine Jg (by simp [c]) ⟨s4,m,some (.str x),z5,?_,fun y hy hb=>?_⟩
    ·rw [List.filter_append,List.filter_cons_of_neg (by simpa using c),List.filter_nil,List.append_nil]
     rfl
    ·rcases List.mem_append.mp hy with q | q
     ·exact hm y q hb
     ·rw [List.mem_singleton.mp q] at hb
      exact absurd hb c
   refine ZaC (by rw [c]; simp) ?_
   have ha4:=s4 _ _ (s3 _ _ ha1)
   refine ⟨_,rfl,a,_,rfl,.inl (SqL.of ha4),fun l5 hl5=>?_⟩
   have s5:=Zb (o:=.lst (ps.map V.str)) hl5
   obtain ⟨j,hj1,hj2,ej⟩:=Zem ps hxin
   refine ⟨_,rfl,.inl ⟨rfl,_,SqL.of Zc⟩,_,rfl,l5,ps,x,j,rfl,rfl,Zc,hj1,hj2,?_⟩
   rw [ZaI,ej]
   have s6:=Zb (o:=.lst ((ps.erase x).map V.str)) hl5
   refine ⟨_,rfl,_,rfl,_,rfl,_,rfl,_,rfl,ZN l2,?_⟩
   rw [Xv l1]
   refine ⟨l5,ps.erase x,en x,rfl,Zc,hR.sub (fun y hy=>List.mem_of_mem_erase hy) (List.length_erase_le),fun H7 n7 s7 hN7=>?_⟩
   refine ⟨_,_,rfl,rfl,s4.trans (s6.trans s7),fun y=>if y=x then n7 else m y,some (.str x),some (.ref l5),?_,fun y hy hb=>?_⟩
   ·have e1:((tk ++ [x]).filter fun x=>decide (bg x=p))=(tk.filter fun x=>decide (bg x=p)) ++ [x]:=by
     rw [List.filter_append,List.filter_cons_of_pos (by simpa using c),List.filter_nil]
    have e2:((tk.filter fun x=>decide (bg x=p)).map fun y=>if y=x then n7 else m y)=(tk.filter fun x=>decide (bg x=p)).map m:=List.map_congr_left fun y hy=>if_neg fun z:y=x=>hnx (z ▸ (List.mem_filter.mp hy).1)
    rw [e1,List.map_append,List.sum_append,e2,List.map_cons,List.map_nil,List.sum_cons,List.sum_nil,if_pos rfl,Int.add_zero]
    rfl
   ·rcases List.mem_append.mp hy with q | q
    ·dsimp only
     rw [if_neg fun z:y=x=>hnx (z ▸ q)]
     exact hm y q hb
    ·rw [List.mem_singleton.mp q]
     dsimp only
     rw [if_pos rfl]
     exact hN7
  ·rintro σ H4 ⟨s4,m,z4,z5,rfl,hm⟩
   rw [List.length_map,List.take_of_length_le (Nat.le_refl _)] at hm ⊢
   obtain ⟨ss0,t1,t2⟩:=ZaN (ps.map bg ++ ps.map en)
   have hss:∀ y,inP ps y=true→y∈ss0:=fun y hy=>by
    obtain ⟨x,hx,q⟩:=inP_iff.mp hy
    rw [t2,List.mem_append,List.mem_map,List.mem_map]
    exact q.elim (fun q=>.inl ⟨x,hx,q⟩) (fun q=>.inr ⟨x,hx,q⟩)
   have heq:=Ze0 (Zfy t1) ndk hss hkk hne (hN.2 ss0 kk t1 hss ndk fun x hx=>(hkk x).mpr hx) (m:=m) fun x hx hb=>(hm x ((hkk x).mpr hx) hb).2 ss0 kk t1 (fun y hy=>hss y (Zbi (fun z hz=>List.mem_of_mem_erase hz) hy)) ndk fun z hz=>(hkk z).mpr (List.mem_of_mem_erase hz)
   refine ⟨_,rfl,.int n,"int",rfl,.int _,_,rfl,ZaC rfl ?_⟩
   refine ⟨_,rfl,_,rfl,rfl,?_⟩
   rw [← heq]
   have e9:decide (V.int n=V.int n)=true:=by simp
   rw [e9]
   exact k _ (s13.trans s4)
end
end Sh
namespace L2
open PySem PySem.Spec PyProof.Rows
theorem ZkT {k:Nat} {mp:List Nat} {σ:St} {g:TG} {te:TE} {H1:Hp} {Q:VK} {lo:Int} (n:Nat) (Dk:Addr) (R:Nat→V→Prop) (I:Nat→Hp→Prop) (hn:n≤sizeLine) (hd:H1 Dk≠none) (h0:I 0 H1) (hu:∀ i H D o,D≠Dk→I i H→I i (upd H D o))
  (step:∀ i H (Qe:VK),i < n→(∀ b u,b≠Dk→H1 b=some u→H b=some u)→I i H→(∀ v H6,(∀ b u,b≠Dk→H b=some u→H6 b=some u)→I (i + 1) H6→R i v→Qe v H6)→g (.int (lo + i)) (lcS k mp σ) H fun σ4 H4=>te σ4 H4 Qe)
  (done:∀ D vs H',vs.length=n→(∀ (i:Nat) (v:V),vs[i]?=some v→R i v)→(∀ b u,b≠Dk→H1 b=some u→H' b=some u)→I n H'→H1 D=none→H' D=some (.lst vs)→Q (.ref D) H'):XI k mp σ g Zj8 te (Itr lo n) H1 Q:=by
 intro D hD
 have hne:D≠Dk:=fun z=>hd (z ▸ hD)
 refine ⟨fun i m acc H=>m=n - i∧i≤n∧acc.length=i∧(∀ b u,b≠Dk→H1 b=some u→H b=some u)∧I i H∧H D=some (.lst acc)∧∀ (j:Nat) (v:V),acc[j]?=some v→R j v,⟨n,by simp,Nat.zero_le _,rfl,fun b u _ e=>by rw [Zi (Zj e hD)]; exact e,hu _ _ _ _ hne h0,Zc,fun j v e=>by simp at e⟩,?_⟩
 rintro i m acc H ⟨rfl,hi,hl,hs,hI,hDa,hr⟩
 by_cases hlt:i < n
 ·refine .inr ⟨hlt,fun x H3 y=>?_⟩
  obtain ⟨e1,e2⟩:=y
  subst e1 e2
  refine step i H3 _ hlt hs hI fun v H6 s6 i6 r6=>⟨s6 _ _ hne hDa,by omega,n - (i + 1),by omega,rfl,hlt,by rw [List.length_append,hl]; rfl,fun b u hb e=>?_,hu _ _ _ _ hne i6,Zc,fun j u e=>?_⟩
  ·rw [Zi (Zj e hD)]
   exact s6 _ _ hb (hs b u hb e)
  ·rcases Nat.lt_trichotomy j acc.length with h | h | h
   ·rw [List.getElem?_append_left h] at e
    exact hr j u e
   ·subst h
    rw [List.getElem?_append_right (Nat.le_refl _),Nat.sub_self] at e
    cases e
    rw [hl]
    exact r6
   ·rw [List.getElem?_eq_none (by rw [List.length_append,List.length_singleton]; omega)] at e
    cases e
 ·have:i=n:=by omega
  subst this
  exact .inl ⟨Nat.le_refl _,done D acc H hl hr hs hI hD hDa⟩
theorem Ze2 {X:Cx}:CallR X (.builtin "len") (fun xs H Q=>∃ (p:Addr) (ks:List Str),xs=[.ref p]∧H p=some (stO X p ks)∧ks.length≤1000∧Q (.int ks.length) H):=by
 intro pins s σ H xs us Q I r h
 obtain ⟨p,ks,rfl,hp,h1k,q⟩:=h
 obtain ⟨u,rfl,ru⟩:=Xg r
 cases ru
 obtain ⟨⟨o,es,ep,t,T⟩,_,_⟩:=(show SetT X.prog X.w s.heap p ks∧_ from I.hok p _ hp)
 have hl:=T.len
 refine call_len_set T.ob T.ex T.dt T.fits (by omega) ⟨.int ks.length,H,I.tok _,⟨s.toks + 1,?_⟩,q⟩
 rw [hl]
end L2
namespace Sh
open PySem L2 PyProof.Rows
seal L2.PE L2.PS L2.PSs L2.PT L2.PW L2.PA L2.PI L2.PG L2.PGs L2.PO L2.PC L2.PCs L2.OpR L2.UnR L2.CallR L2.MtR L2.IxR L2.SlR
theorem ZhY {D:Addr} {H H':Hp} (s:Same H H'):SB D H H':=fun b u _ e=>s b u e
theorem Zkd {L:Nat}:∀ vs:List V,(∀ (i:Nat) (v:V),vs[i]?=some v→∃ z:List Nat,v = .str (tx z)∧z.length=L∧Cd z)→∃ ps:List Str,vs=ps.map V.str∧∀ x∈ps,x.length=L∧PyData.strOk x=true:=by
 intro vs
 induction vs with
 | nil=>exact fun _=>⟨[],rfl,fun x hx=>by cases hx⟩
 | cons v vs ih =>
  intro h
  obtain ⟨z,e,hl,hc⟩:=h 0 v rfl
  obtain ⟨ps,e2,h2⟩:=ih fun i u hu=>h (i + 1) u hu
  refine ⟨tx z :: ps,by rw [e,e2]; rfl,fun x hx=>?_⟩
  rcases List.mem_cons.mp hx with q | q
  ·rw [q]
   refine ⟨by rw [ZH,hl],?_⟩
   unfold PyData.strOk
   rw [← Array.all_toList,List.all_eq_true]
   intro c hcc
   have:c∈z:=by rw [← ZO z]; exact hcc
   have:=hc c this
   exact decide_eq_true (by omega)
  ·exact h2 x q
section
variable {P:Program} {w:World} {K:PySem.W.Frag} {mg:Str→Option Value} {base:Heap}
abbrev ZeG:Stmt:=top 33
abbrev Zil:List Str:=["_law_deck_here","_law_most","_law_cell","_law_some","_law_long","_law_row_here"]
theorem scLFew:Zo Zil ["_law_deck_here","_law_most"] (Zg ZeG):=⟨rfl,rfl,rfl,by decide +kernel,rfl,by decide +kernel,by decide +kernel⟩
def ZlC:Sp:=fun vs H Q _=>∃ (D:Addr) (n:Nat),vs=[.ref D,.int 24]∧DK H D (n + 27)∧∀ p H' ps,SB D H H'→DK H' D n→H' p=some (.lst (ps.map V.str))→RowOk ps→ps≠[]→p≠D→Q (.ref p) H'
theorem Zid (D:HasDef K mg "_law_few" ZeG ["_law_deck_here","_law_most"]) (B:Blt mg) (g5_:FOk P w K mg base 1 "_law_letters" ["_law_deck_here","_law_few_here"] ZfE) (g9_:FOk P w K mg base 1 "_law_signs" ["_law_deck_here","_law_some","_law_long"] ZcJ):FOk P w K mg base 2 "_law_few" ["_law_deck_here","_law_most"] ZlC:=by
 refine D.ok scLFew (fun vs H Q E h=>?_) (fun f cdv A outer s H vs Q E hr h=>?_)
 ·obtain ⟨D,n,rfl,_⟩:=h
  rfl
 ·obtain ⟨Dk,n,rfl,hD,k⟩:=h
  refine ⟨_,(Zd (Zm (i:=2) scLFew.nd rfl (.inl rfl) (YV F.plainAttrs_list F.slot_list_pop F.type_list_pop Yo (pv 0)))
   (Zd (Zm (i:=3) scLFew.nd rfl (.inr rfl) (Zu g5_ hr (Za (pv 0) (Za (ZR ZG (Yn (Za Zf (Za Zf (Za Zf (Za Zf Ze))))) (Zn ZI (pv 2) Zf) (fun _ _=>rfl)) Ze))))
   (Zd (Zm (i:=4) scLFew.nd rfl (.inr rfl) (Zn ZY Zf (Zn ZI (Zn YW (pv 2) Zf) Zf)))
   (Zd (XD (i:=5) (Zg ZeG) Zil ["_law_k"] [0,3,4] scLFew.nd rfl (.inl rfl) rfl (Yx rfl B.range (Za (Zn ZY Zf (Zn ZI (YV F.plainAttrs_list F.slot_list_pop F.type_list_pop Yo (pv 0)) (pv 1))) Ze)) (fun _ _ _ _ _=>Yc 0) (fun _ _ _ _ _=>ZP) (fun _ _ _ _ _=>(Zu g9_ hr (Za (pv 1) (Za (pv 2) (Za (pv 3) Ze))))))
   (Zd (Jy PassesOwn.never (Zt ZcX (Zk Ze2 rfl B.len ZV (Za (ZE (XQ rfl) rfl B.set Zi4 (Za (Zn ZbT (ZL (Zg ZeG) Zil ["_law_piece"] [] rfl (ZX (pv 5)) (fun _ _ _ _ _=>Yc 0) (fun _ _ _ _ _=>ZP) (fun _ _ _ _ _=>(Zv Z2 (pv 0) ZB (Zx (Jh YH Zf)))))
   (ZL (Zg ZeG) Zil ["_law_piece"] [] rfl (ZX (pv 5)) (fun _ _ _ _ _=>Yc 0) (fun _ _ _ _ _=>ZP) (fun _ _ _ _ _=>(Zv Z2 (pv 0) (Zx Zf) ZB)))) Ze)) Ze)) Zf (Zy _))
    (Zh (YU (YV F.plainAttrs_list F.slot_list_pop F.type_list_pop Yo (pv 5)))))
   (Zh (Zr (pv 5)))))))),?_⟩
  obtain ⟨ns,c,hDn,c0,c1,hD2⟩:=hD.pop
  refine ⟨_,rfl,.inl ⟨rfl,_,SqL.of hDn⟩,Dk,_,.int c,rfl,rfl,hDn,Yf ns c,?_⟩
  rw [Yg]
  have sb:SB Dk H (upd H Dk (.lst (ns.map V.int))):=SB.upd
  generalize upd H Dk (.lst (ns.map V.int))=H1 at sb hD2
  have m4:=ZM c (show (0:Int) < 4 by decide)
  obtain ⟨few,hfat,few1,few5⟩:=ZkO (ns:=[2,3,5,26]) (lo:=2) (hi:=26) m4.1 m4.2 (by decide) (by decide)
  refine ⟨_,rfl,Zl (show 4≤1000 by decide),fun p1 hp1=>?_⟩
  have s1:=Zb (o:=.lst (([2,3,5,26]:List Int).map V.int)) hp1
  refine ⟨_,rfl,_,_,rfl,rfl,(by show (0:Int) < 4; decide),p1,_,_,_,rfl,rfl,SqL.of Zc,hfat,?_⟩
  generalize hH2:upd H1 p1 (.lst (([2,3,5,26]:List Int).map V.int))=H2 at s1
  have hH2':upd H1 p1 (.lst [V.int 2,V.int 3,V.int 5,V.int 26])=H2:=hH2
  rw [hH2']
  refine ⟨Dk,few,n + 25,rfl,by omega,by omega,hD2.same s1,fun y H3 sb3 hD3 yl yc=>?_⟩
  have sbb:=(sb.trans (ZhY s1)).trans sb3
  refine ⟨_,rfl,_,_,rfl,rfl,⟨by decide,by decide⟩,_,_,rfl,rfl,(by show (0:Int) < 12; decide),_,_,rfl,rfl,?_⟩
  dsimp only
  have m12:=ZM (c / 4) (show (0:Int) < 12 by decide)
  obtain ⟨L,eL⟩:∃ L:Nat,(1 + c / 4 % 12:Int)=(L:Int):=⟨(1 + c / 4 % 12).toNat,by omega⟩
  rw [eL]
  have L1:1≤L:=by omega
  have L12:L≤12:=by omega
  obtain ⟨ns4,c4,hDn4,c40,c41,hD4⟩:=hD3.pop
  refine ⟨_,rfl,.inl ⟨rfl,_,SqL.of hDn4⟩,Dk,_,.int c4,rfl,rfl,hDn4,Yf ns4 c4,?_⟩
  rw [Yg]
  have sb4:SB Dk H3 (upd H3 Dk (.lst (ns4.map V.int))):=SB.upd
  generalize upd H3 Dk (.lst (ns4.map V.int))=H4 at sb4 hD4
  have sb04:=sbb.trans sb4
  have m24:=ZM c4 (show (0:Int) < 24 by decide)
  refine ⟨_,rfl,_,_,rfl,rfl,(by show (0:Int) < 24; decide),_,_,rfl,rfl,_,rfl,by omega,by omega,?_⟩
  obtain ⟨N,eN⟩:∃ N:Nat,(1 + c4 % 24:Int).toNat=N:=⟨_,rfl⟩
  rw [eN]
  have N1:1≤N:=by omega
  have N24:N≤24:=by omega
  have hdk:H4 Dk≠none:=by
   obtain ⟨xs,hx,_⟩:=hD4
   rw [hx]
   simp
  refine ZkT N Dk (fun _ v=>∃ z:List Nat,v = .str (tx z)∧z.length=L∧Cd z) (fun i H=>DK H Dk (n + (24 - i))) (Zl (by omega)) hdk hD4 (fun i H D o hne hI=>?_) (fun i H5 Qe hi sb5 hI kq=>?_) (fun D5 vs5 H5 hl5 hR5 sb5 hI5 hn5 hD5=>?_)
  ·obtain ⟨xs,hx,h2⟩:=hI
   exact ⟨xs,by rw [Zi (Ne.symm hne)]; exact hx,h2⟩
  ·refine ⟨_,rfl,_,rfl,_,rfl,Dk,y,L,n + (24 - (i + 1)),rfl,by omega,by omega,yc,by omega,hI.less (by omega),fun z H6 sb6 hD6 zl zc=>kq _ _ sb6 hD6 ⟨z,rfl,zl,zc⟩⟩
  obtain ⟨ps,eps,hps⟩:=Zkd (L:=L) vs5 hR5
  subst eps
  rw [List.length_map] at hl5
  have hDD:D5≠Dk:=fun z=>hdk (z ▸ hn5)
  have hDn5:DK H5 Dk n:=hI5.less (by omega)
  have sb05:SB Dk H H5:=sb04.trans sb5
  refine ⟨fun m σ H6=>m≤N∧1≤m∧(σ=[some (.ref Dk),some (.int 24),some (.int c),some (.str (tx y)),some (.int L),some (.ref D5)])∧SB Dk H H6∧DK H6 Dk n∧H6 D5=some (.lst ((ps.take m).map V.str)),⟨N,Nat.le_refl _,N1,rfl,sb05,hDn5,by rw [List.take_of_length_le (by omega)]; exact hD5⟩,?_⟩
  rintro m σ H6 ⟨mN,m1,rfl,sb6,hD6,hr6⟩
  have hsub:∀ x∈ps.take m,x∈ps:=fun x hx=>List.mem_of_mem_take hx
  have hlm:(ps.take m).length=m:=by rw [List.length_take]; omega
  generalize hqs:ps.take m=qs at *
  have hq:∀ x∈qs,x.length=L:=fun x hx=>(hps x (hsub x hx)).1
  have hlen:(qs.map V.str).length=qs.length:=by rw [List.length_map]
  refine ⟨_,rfl,D5,rfl,⟨_,SqL.of hr6⟩,YL (qs.map V.str).length (fun i=>(qs.map V.str).getD i .non) (fun i v _=>v = .str (bg (qs.getD i ""))) (Zl (by omega)) (fun _ _ _ _ _ r=>r) (YE (SqL.of hr6)) ?_ ?_⟩
  ·intro i H7 Qe hi hs kq
   have hi':i < qs.length:=by omega
   rw [YA hi']
   have hx:=hq _ (List.getElem_mem hi')
   refine ⟨_,rfl,_,rfl,_,rfl,_,rfl,ZN (by omega),?_⟩
   rw [Yq (by omega)]
   refine kq _ _ (Same.refl _) ?_
   rw [List.getD_eq_getElem?_getD,List.getElem?_eq_getElem hi']
   rfl
  intro D7 vs7 H7 hl7 hr7 hs7 _ hDl7
  refine ⟨_,rfl,D5,rfl,⟨_,SqL.of (hs7 _ _ hr6)⟩,YL (qs.map V.str).length (fun i=>(qs.map V.str).getD i .non) (fun i v _=>v = .str (en (qs.getD i ""))) (Zl (by omega)) (fun _ _ _ _ _ r=>r) (YE (SqL.of (hs7 _ _ hr6))) ?_ ?_⟩
  ·intro i H8 Qe hi hs kq
   have hi':i < qs.length:=by omega
   rw [YA hi']
   have hx:=hq _ (List.getElem_mem hi')
   refine ⟨_,rfl,_,rfl,_,rfl,ZN (by omega),?_⟩
   rw [Xv (by omega)]
   refine kq _ _ (Same.refl _) ?_
   rw [List.getD_eq_getElem?_getD,List.getElem?_eq_getElem hi']
   rfl
  intro D8 vs8 H8 hl8 hr8 hs8 _ hDl8
  have e7:vs7=(qs.map bg).map V.str:=by
   apply List.ext_getElem?
   intro i
   by_cases h:i < qs.length
   ·rw [List.getElem?_eq_getElem (show i < vs7.length by omega),hr7 i _ (List.getElem?_eq_getElem (show i < vs7.length by omega)),List.getElem?_map,List.getElem?_map,List.getElem?_eq_getElem h,List.getD_eq_getElem?_getD,List.getElem?_eq_getElem h]
    rfl
   ·rw [List.getElem?_eq_none (by omega),List.getElem?_eq_none (by rw [List.length_map,List.length_map]; omega)]
  have e8:vs8=(qs.map en).map V.str:=by
   apply List.ext_getElem?
   intro i
   by_cases h:i < qs.length
   ·rw [List.getElem?_eq_getElem (show i < vs8.length by omega),hr8 i _ (List.getElem?_eq_getElem (show i < vs8.length by omega)),List.getElem?_map,List.getElem?_map,List.getElem?_eq_getElem h,List.getD_eq_getElem?_getD,List.getElem?_eq_getElem h]
    rfl
   ·rw [List.getElem?_eq_none (by omega),List.getElem?_eq_none (by rw [List.length_map,List.length_map]; omega)]
  subst e7 e8
  refine ⟨D7,D8,_,_,rfl,rfl,hs8 _ _ hDl7,hDl8,Zl (by simp only [List.length_map]; omega),fun p9 hp9=>?_⟩
  have s9:=Zb (o:=.lst ((qs.map bg).map V.str ++ (qs.map en).map V.str)) hp9
  refine ⟨p9,qs.map bg ++ qs.map en,rfl,SqL.of (by rw [Zc,List.map_append]),by simp only [List.length_append,List.length_map]; omega,fun p10 ks hp10 hnd hmem hkl=>?_⟩
  have hkl2:ks.length≤2 * m:=by simp only [List.length_append,List.length_map] at hkl; omega
  refine ⟨p10,ks,rfl,Zc,by omega,_,_,rfl,rfl,_,rfl,?_⟩
  obtain ⟨H11,eH,s11,_⟩:=Zff (o1:=.lst ((qs.map bg).map V.str ++ (qs.map en).map V.str)) (stO _ p10 ks) hp9 hp10
  rw [eH]
  have s611:=(hs7.trans hs8).trans s11
  have hr11:=s611 _ _ hr6
  have sb11:SB Dk H H11:=sb6.trans (ZhY s611)
  refine Zde (fun cc=>?_) (fun cc=>?_)
  ·have cc':=of_decide_eq_true cc
   have m2:2≤m:=by omega
   have hdl:(qs.map V.str).dropLast=(ps.take (m - 1)).map V.str:=by
    rw [List.dropLast_eq_take,hlen,hlm,← List.map_take,← hqs,List.take_take,Nat.min_eq_left (by omega)]
   refine ⟨fun σ' H'=>m - 1≤N∧1≤m - 1∧(σ'=[some (.ref Dk),some (.int 24),some (.int c),some (.str (tx y)),some (.int L),some (.ref D5)])∧SB Dk H H'∧DK H' Dk n∧H' D5=some (.lst ((ps.take (m - 1)).map V.str)),fun σ' H' h=>⟨m - 1,by omega,h⟩,?_⟩
   refine ⟨_,rfl,.inl ⟨rfl,_,SqL.of hr11⟩,D5,_,.str (qs.getD (m - 1) ""),rfl,rfl,hr11,?_,?_⟩
   ·rw [hlen,hlm,List.getElem?_map,List.getD_eq_getElem?_getD,List.getElem?_eq_getElem (show m - 1 < qs.length by omega)]
    rfl
   rw [hdl]
   refine ⟨by omega,by omega,rfl,fun b u hb e=>?_,?_,Zc⟩
   ·rw [Zi (fun z=>?_)]
    ·exact sb11 b u hb e
    ·have:=sb04 b u hb e
     rw [z,hn5] at this
     cases this
   ·obtain ⟨xs,hx,h2⟩:=hD6.same s611
    exact ⟨xs,by rw [Zi (Ne.symm hDD)]; exact hx,h2⟩
  ·have cc':=of_decide_eq_false (Bool.eq_false_iff.mpr cc)
   refine ⟨_,rfl,k D5 H11 qs sb11 (hD6.same s611) hr11 ⟨by omega,fun x hx=>⟨by rw [hq x hx]; omega,(hps x (hsub x hx)).2⟩,fun l nd hi=>?_⟩ (fun z=>by rw [z] at hlm; simp at hlm; omega) hDD⟩
   have:=Y9 (B:=ks) nd fun y hy=>by
    obtain ⟨x,hx,q⟩:=inP_iff.mp (hi y hy)
    rw [hmem,List.mem_append,List.mem_map,List.mem_map]
    exact q.elim (fun q=>.inl ⟨x,hx,q⟩) (fun q=>.inr ⟨x,hx,q⟩)
   omega
end
theorem Zh1 {z:List Nat} {L:Nat} {ps:List Str} (o:1≤L) (L4:L≤4) (l:L≤z.length) (hz:z.length≤24 + L - 1) (zc:Cd z) (hl:ps.length≤25) (hs:∀ x∈ps,x∈Jl z L):RowOk ps:=by
 refine ⟨hl,fun x hx=>⟨by rw [ZhG l (hs x hx)]; omega,?_⟩,fun m nd hi=>?_⟩
 ·have hw:=hs x hx
  unfold Jl at hw
  obtain ⟨i,_,rfl⟩:=List.mem_map.mp hw
  unfold PyData.strOk
  rw [← Array.all_toList,List.all_eq_true]
  intro c hcc
  have:c∈(z.drop i).take L:=by rw [← ZO ((z.drop i).take L)]; exact hcc
  have:=zc c (List.mem_of_mem_drop (List.mem_of_mem_take this))
  exact decide_eq_true (by omega)
 ·have:=Y9 (B:=(List.range (z.length - L + 2)).map (pnt z L)) nd fun y hy=>by
   obtain ⟨x,hx,q⟩:=inP_iff.mp (hi y hy)
   have hw:=Zlp o l (hs x hx)
   rcases q with q | q
   ·rw [← q]; exact hw.1
   ·rw [← q]; exact hw.2
  rw [List.length_map,List.length_range] at this
  omega
section
variable {P:Program} {w:World} {K:PySem.W.Frag} {mg:Str→Option Value} {base:Heap}
abbrev Zh0:Stmt:=top 34
abbrev Zl4:List Str:=["_law_deck_here","_law_most","_law_cell","_law_few_here","_law_long","_law_some","_law_made","_law_way","_law_row_here"]
theorem scLRow:Zo Zl4 ["_law_deck_here","_law_most"] (Zg Zh0):=⟨rfl,rfl,rfl,by decide +kernel,rfl,by decide +kernel,by decide +kernel⟩
def ZfB:Sp:=fun vs H Q _=>∃ (D:Addr) (n:Nat),vs=[.ref D,.int 24]∧DK H D (n + 29)∧∀ p H' ps,SB D H H'→DK H' D n→H' p=some (.lst (ps.map V.str))→RowOk ps→ps≠[]→p≠D→Q (.ref p) H'
theorem ZeL (D:HasDef K mg "_law_row" Zh0 ["_law_deck_here","_law_most"]) (B:Blt mg) (g5_:FOk P w K mg base 2 "_law_letters" ["_law_deck_here","_law_few_here"] ZfE) (g9_:FOk P w K mg base 2 "_law_signs" ["_law_deck_here","_law_some","_law_long"] ZcJ) (g1_:FOk P w K mg base 2 "_law_few" ["_law_deck_here","_law_most"] ZlC):FOk P w K mg base 3 "_law_row" ["_law_deck_here","_law_most"] ZfB:=by
 refine D.ok scLRow (fun vs H Q E h=>?_) (fun f cdv A outer s H vs Q E hr h=>?_)
 ·obtain ⟨D,n,rfl,_⟩:=h
  rfl
 ·obtain ⟨Dk,n,rfl,hD,k⟩:=h
  refine ⟨_,(Zd (Zm (i:=2) scLRow.nd rfl (.inl rfl) (YV F.plainAttrs_list F.slot_list_pop F.type_list_pop Yo (pv 0)))
   (Zd (Zm (i:=3) scLRow.nd rfl (.inl rfl) (ZR ZG (Yn (Za Zf (Za Zf (Za Zf (Za Zf (Za Zf (Za Zf (Za Zf (Za Zf (Za Zf (Za Zf Ze))))))))))) (Zn ZI (pv 2) Zf) (fun _ _=>rfl)))
   (Zd (Zm (i:=4) scLRow.nd rfl (.inr rfl) (ZR ZG (Yn (Za Zf (Za Zf (Za Zf (Za Zf (Za Zf (Za Zf (Za Zf (Za Zf (Za Zf (Za Zf Ze))))))))))) (Zn ZI (pv 2) Zf) (fun _ _=>rfl)))
   (Zd (Zm (i:=5) scLRow.nd rfl (.inl rfl) (Zu g5_ hr (Za (pv 0) (Za (pv 3) Ze))))
   (Zd (Ye (Zt XE (Zn ZI (Zn YW (pv 2) Zf) Zf) Zf (Zy _)) (Zh (Zr (Zu g1_ hr (Za (pv 0) (Za (pv 1) Ze))))) ZA)
   (Zd (Zm (i:=6) scLRow.nd rfl (.inr rfl) (Zu g9_ hr (Za (pv 0) (Za (pv 5) (Za (Zk (Zhw rfl) rfl B.max Znt (Za (pv 4) (Za (Zn ZI (YV F.plainAttrs_list F.slot_list_pop F.type_list_pop Yo (pv 0)) (Zn ZY (pv 1) Zf)) Ze))) Ze)))))
   (Zd (Zm (i:=7) scLRow.nd rfl (.inl rfl) (Zn ZI (Zn YW (pv 2) Zf) Zf))
   (Zd (Ye (Zt XE (pv 7) Zf (Zy _)) (Zh (Zm (i:=6) scLRow.nd rfl (.inr rfl) (Zn Yy (pv 6) (Zv Z2 (pv 6) ZB (Zx (Zn Jc (pv 4) Zf)))))) ZA)
   (Zd (XD (i:=8) (Zg Zh0) Zl4 ["_law_at"] [4,6] scLRow.nd rfl (.inl rfl) rfl (Yx rfl B.range (Za (Zn ZY (Zn Jc (Zk Zq rfl B.len ZV (Za (pv 6) Ze)) (pv 4)) Zf) Ze)) (fun _ _ _ _ _=>Yc 0) (fun _ _ _ _ _=>ZP) (fun _ _ _ _ _=>(Zv Z2 (pv 2) (Zx (pv 0)) (Zx (Zn ZY (pv 0) (pv 1))))))
   (Zd (Zm (i:=2) scLRow.nd rfl (.inl rfl) (YV F.plainAttrs_list F.slot_list_pop F.type_list_pop Yo (pv 0)))
   (Zd (Ye (PW.pt (Zf7 (Zt XE (pv 7) Zf (Zy _)) (ZcS (Zt ZcX (Zk Zq rfl B.len ZV (Za (pv 8) Ze)) Zf (Zy _))))) (Zh (YU (ZcU F.plainAttrs_list F.slot_list_pop F.type_list_pop ZgG (pv 8) (Za (Zn ZI (pv 2) (Zk Zq rfl B.len ZV (Za (pv 8) Ze))) Ze)))) ZA)
   (Zd (Ye (Zt XE (pv 7) Zf (Zy _)) (Zh (YU (ZcU F.plainAttrs_list F.slot_list_insert F.type_list_insert ZgH (pv 8) (Za (Zn ZI (pv 2) (Zn ZY (Zk Zq rfl B.len ZV (Za (pv 8) Ze)) Zf)) (Za (ZR ZG (pv 8) (Zn ZI (Zn YW (pv 2) Zf) (Zk Zq rfl B.len ZV (Za (pv 8) Ze))) (fun _ _=>rfl)) Ze))))) ZA)
   (Zh (Zr (pv 8))))))))))))))),?_⟩
  obtain ⟨ns,c,hDn,c0,c1,hD2⟩:=hD.pop
  refine ⟨_,rfl,.inl ⟨rfl,_,SqL.of hDn⟩,Dk,_,.int c,rfl,rfl,hDn,Yf ns c,?_⟩
  rw [Yg]
  have sb:SB Dk H (upd H Dk (.lst (ns.map V.int))):=SB.upd
  generalize upd H Dk (.lst (ns.map V.int))=H0 at sb hD2
  have m10:=ZM c (show (0:Int) < 10 by decide)
  obtain ⟨few,hfat,few1,few5⟩:=ZkO (ns:=[2,2,2,2,3,3,3,4,5,4]) (lo:=2) (hi:=5) m10.1 m10.2 (by decide) (by decide)
  obtain ⟨L,hLat,L1,L4⟩:=ZkO (ns:=[2,3,4,1,2,3,2,2,2,1]) (lo:=1) (hi:=4) m10.1 m10.2 (by decide) (by decide)
  refine ⟨Zl (show 10≤1000 by decide),fun p1 hp1=>?_⟩
  have s1:=Zb (o:=.lst (([2,2,2,2,3,3,3,4,5,4]:List Int).map V.int)) hp1
  refine ⟨_,rfl,_,_,rfl,rfl,(by show (0:Int) < 10; decide),p1,_,_,_,rfl,rfl,SqL.of Zc,hfat,?_⟩
  generalize hH1:upd H0 p1 (.lst (([2,2,2,2,3,3,3,4,5,4]:List Int).map V.int))=H1 at s1
  have hH1':upd H0 p1 (.lst [V.int 2,V.int 2,V.int 2,V.int 2,V.int 3,V.int 3,V.int 3,V.int 4,V.int 5,V.int 4])=H1:=hH1
  rw [hH1']
  refine ⟨Zl (show 10≤1000 by decide),fun p2 hp2=>?_⟩
  have s2:=s1.trans (Zb (o:=.lst (([2,3,4,1,2,3,2,2,2,1]:List Int).map V.int)) hp2)
  refine ⟨_,rfl,_,_,rfl,rfl,(by show (0:Int) < 10; decide),p2,_,_,_,rfl,rfl,SqL.of Zc,hLat,?_⟩
  generalize hH2:upd H1 p2 (.lst (([2,3,4,1,2,3,2,2,2,1]:List Int).map V.int))=H2 at s2
  have hH2':upd H1 p2 (.lst [V.int 2,V.int 3,V.int 4,V.int 1,V.int 2,V.int 3,V.int 2,V.int 2,V.int 2,V.int 1])=H2:=hH2
  rw [hH2']
  clear hH1 hH1' hH2 hH2' hfat hLat
  refine ⟨_,rfl,_,rfl,Dk,few,n + 27,rfl,by omega,by omega,hD2.same s2,fun y H3 sb3 hD3 yl yc=>?_⟩
  have sb03:SB Dk H H3:=(sb.trans (ZhY s2)).trans sb3
  refine ⟨_,rfl,_,_,rfl,rfl,⟨by decide,by decide⟩,_,_,rfl,rfl,(by show (0:Int) < 4; decide),rfl,_,rfl,Zde (fun cc=>?_) (fun cc=>?_)⟩
  ·exact ⟨_,rfl,_,rfl,Dk,n,rfl,hD3,fun p H4 ps sb4 hD4 hp4 hR hne hpd=>k p H4 ps (sb03.trans sb4) hD4 hp4 hR hne hpd⟩
  obtain ⟨ns4,c4,hDn4,c40,c41,hD4⟩:=(hD3.less (show n + 3 + 1≤n + 27 by omega)).pop
  refine ⟨_,rfl,_,rfl,_,rfl,_,rfl,.inl ⟨rfl,_,SqL.of hDn4⟩,Dk,_,.int c4,rfl,rfl,hDn4,Yf ns4 c4,?_⟩
  rw [Yg]
  have sb4:SB Dk H3 (upd H3 Dk (.lst (ns4.map V.int))):=SB.upd
  generalize upd H3 Dk (.lst (ns4.map V.int))=H4 at sb4 hD4
  have sb04:=sb03.trans sb4
  have m25:=ZM c4 (show (0:Int) < 24 + 1 by decide)
  refine ⟨_,rfl,_,_,rfl,rfl,_,_,rfl,rfl,(by show (0:Int) < 24 + 1; decide),_,_,rfl,?_⟩
  obtain ⟨LL,eLL⟩:∃ LL:Nat,(if c4 % (24 + 1) > (L:Int) then c4 % (24 + 1) else (L:Int))=(LL:Int):=⟨(if c4 % (24 + 1) > (L:Int) then c4 % (24 + 1) else (L:Int)).toNat,by split <;> omega⟩
  dsimp only
  rw [eLL]
  have LL1:L≤LL∧LL≤24:=by
   split at eLL <;> omega
  refine ⟨Dk,y,LL,n + 1,rfl,by omega,by omega,yc,by omega,hD4.less (by omega),fun z0 H5 sb5 hD5 zl0 zc0=>?_⟩
  have sb05:=sb04.trans sb5
  refine ⟨_,rfl,_,_,rfl,rfl,⟨by decide,by decide⟩,_,_,rfl,rfl,(by show (0:Int) < 4; decide),?_⟩
  dsimp only [Zak]
  generalize c / 40 % 4=wy
  refine Ym (fun σ H'=>∃ z:List Nat,H'=H5∧σ=[some (.ref Dk),some (.int 24),some (.int c),some (.int few),some (.int L),some (.str (tx y)),some (.str (tx z)),some (.int wy),none]∧L≤z.length∧z.length≤24 + L - 1∧Cd z) (fun R hR=>?_) ?_
  ·refine ⟨_,rfl,rfl,_,rfl,Zde (fun e=>?_) (fun e=>hR _ _ ⟨z0,rfl,rfl,by omega,by omega,zc0⟩)⟩
   refine ⟨_,rfl,_,rfl,_,rfl,_,_,rfl,rfl,_,rfl,_,rfl,Z9 (by omega),?_⟩
   dsimp only
   rw [XV (by omega)]
   have htl:(z0.take ((L:Int) - 1).toNat).length≤L - 1:=by rw [List.length_take]; omega
   refine ⟨_,_,rfl,rfl,?_,?_⟩
   ·rw [ZH,ZH]; exact Zl (by omega)
   rw [ZbE]
   exact hR _ _ ⟨z0 ++ z0.take ((L:Int) - 1).toNat,rfl,rfl,by rw [List.length_append]; omega,by rw [List.length_append]; omega,fun c q=>(List.mem_append.mp q).elim (zc0 c) fun q=>zc0 c (List.mem_of_mem_take q)⟩
  rintro σ H5' ⟨z,rfl,rfl,z1,z2,zc⟩
  have en:((z.length:Int) - (L:Int) + 1).toNat=z.length - L + 1:=by omega
  refine ⟨_,rfl,.str (tx z),z.length,rfl,⟨Z9 (by omega),(ZH z).symm⟩,_,rfl,_,_,rfl,rfl,_,_,rfl,rfl,_,rfl,by omega,by omega,?_⟩
  rw [en]
  refine ZkS (z:=z) (L:=L) (by omega) z1 (by omega) rfl fun p7 H6 s6 n7 hp7=>?_
  have hpd:p7≠Dk:=fun e=>by
   obtain ⟨xs,hx,_⟩:=hD5
   rw [← e,n7] at hx
   cases hx
  obtain ⟨ns7,c7,hDn7,c70,c71,hD7⟩:=(hD5.same s6).pop
  refine ⟨_,rfl,.inl ⟨rfl,_,SqL.of hDn7⟩,Dk,_,.int c7,rfl,rfl,hDn7,Yf ns7 c7,?_⟩
  rw [Yg]
  have sb7:SB Dk H6 (upd H6 Dk (.lst (ns7.map V.int))):=SB.upd
  have hp77:(upd H6 Dk (.lst (ns7.map V.int))) p7=some (.lst ((Jl z L).map V.str)):=by rw [Zi hpd]; exact hp7
  generalize upd H6 Dk (.lst (ns7.map V.int))=H7 at sb7 hD7 hp77
  have sb07:SB Dk H H7:=(sb05.trans (ZhY s6)).trans sb7
  have N7:∀ b u,b≠Dk→H b=some u→b≠p7:=fun b u hb e q=>by
   have:=sb05 b u hb e
   rw [q,n7] at this
   cases this
  have hwl:(Jl z L).length=z.length - L + 1:=by unfold Jl; simp
  have updOk:∀ (H':Hp) (o:HO),SB Dk H H'→DK H' Dk n→SB Dk H (upd H' p7 o)∧DK (upd H' p7 o) Dk n:=fun H' o a b=>by
   refine ⟨fun c u hc e=>by rw [Zi (N7 c u hc e)]; exact a c u hc e,?_⟩
   obtain ⟨xs,hx,h2⟩:=b
   exact ⟨xs,by rw [Zi (Ne.symm hpd)]; exact hx,h2⟩
  dsimp only
  refine Ym (fun σ H'=>∃ ps:List Str,σ=[some (.ref Dk),some (.int 24),some (.int c7),some (.int few),some (.int L),some (.str (tx y)),some (.str (tx z)),some (.int wy),some (.ref p7)]∧SB Dk H H'∧DK H' Dk n∧H' p7=some (.lst (ps.map V.str))∧1≤ps.length∧ps.length≤24∧∀ x∈ps,x∈Jl z L) (fun R hR=>?_) ?_
  ·refine ⟨_,rfl,rfl,_,rfl,Zde (fun e=>?_) (fun e=>Zne (hR _ _ ⟨Jl z L,rfl,sb07,hD7,hp77,by omega,by omega,fun x hx=>hx⟩))⟩
   refine ⟨_,rfl,.ref p7,_,rfl,.inl ⟨_,SqL.of hp77,rfl⟩,_,_,rfl,rfl,_,rfl,Zde (fun e2=>?_) (fun e2=>hR _ _ ⟨Jl z L,rfl,sb07,hD7,hp77,by omega,by omega,fun x hx=>hx⟩)⟩
   have e2':=of_decide_eq_true e2
   rw [List.length_map] at e2'
   have wpos:(0:Int) < ((Jl z L).length:Int):=by omega
   have mw:=ZM c7 wpos
   obtain ⟨j,ej⟩:∃ j:Nat,c7 % ((Jl z L).length:Int)=(j:Int):=⟨(c7 % ((Jl z L).length:Int)).toNat,by omega⟩
   have hj:j < (Jl z L).length:=by omega
   refine ⟨_,rfl,.inl ⟨rfl,_,SqL.of hp77⟩,_,rfl,_,rfl,.ref p7,_,rfl,.inl ⟨_,SqL.of hp77,rfl⟩,_,_,rfl,rfl,by rw [List.length_map]; exact wpos,?_⟩
   dsimp only
   rw [List.length_map,ej]
   refine ⟨p7,_,_,j,V.str (Jl z L)[j],rfl,rfl,hp77,by omega,by omega,?_,?_,?_⟩
   ·rw [List.length_map]
    exact (Zdd (Zb9 hj)).1
   ·rw [List.getElem?_map,List.getElem?_eq_getElem hj]
    rfl
   have hel:((Jl z L).eraseIdx j).length=(Jl z L).length - 1:=by rw [List.length_eraseIdx,if_pos hj]
   obtain ⟨u1,u2⟩:=updOk H7 (.lst (((Jl z L).map V.str).eraseIdx j)) sb07 hD7
   refine hR _ _ ⟨(Jl z L).eraseIdx j,rfl,u1,u2,?_,by omega,by omega,fun x hx=>List.mem_of_mem_eraseIdx hx⟩
   rw [Zc,List.eraseIdx_eq_take_drop_succ,List.eraseIdx_eq_take_drop_succ,List.map_append,List.map_take,List.map_drop]
  rintro σ H8 ⟨ps,rfl,sb8,hD8,hp8,l1,l2,hsub⟩
  refine Ym (fun σ H'=>∃ ps:List Str,σ=[some (.ref Dk),some (.int 24),some (.int c7),some (.int few),some (.int L),some (.str (tx y)),some (.str (tx z)),some (.int wy),some (.ref p7)]∧SB Dk H H'∧DK H' Dk n∧H' p7=some (.lst (ps.map V.str))∧1≤ps.length∧ps.length≤25∧∀ x∈ps,x∈Jl z L) (fun R hR=>?_) ?_
  ·refine ⟨_,rfl,rfl,_,rfl,Zde (fun e=>?_) (fun e=>hR _ _ ⟨ps,rfl,sb8,hD8,hp8,l1,by omega,hsub⟩)⟩
   have wpos:(0:Int) < (ps.length:Int):=by omega
   have wpos1:(0:Int) < (ps.length:Int) + 1:=by omega
   have m1:=ZM c7 wpos1
   have m2:=ZM (c7 / 1000) wpos
   obtain ⟨i,ei⟩:∃ j:Nat,c7 % ((ps.length:Int) + 1)=(j:Int):=⟨(c7 % ((ps.length:Int) + 1)).toNat,by omega⟩
   obtain ⟨j,ej⟩:∃ j:Nat,c7 / 1000 % (ps.length:Int)=(j:Int):=⟨(c7 / 1000 % (ps.length:Int)).toNat,by omega⟩
   have hi:i≤ps.length:=by omega
   have hj:j < ps.length:=by omega
   refine ⟨_,rfl,.inl ⟨rfl,_,SqL.of hp8⟩,_,rfl,_,rfl,.ref p7,_,rfl,.inl ⟨_,SqL.of hp8,rfl⟩,_,_,rfl,rfl,_,_,rfl,rfl,by rw [List.length_map]; exact wpos1,?_⟩
   dsimp only
   rw [List.length_map,ei]
   refine ⟨_,rfl,_,rfl,_,_,rfl,rfl,⟨by decide,by decide⟩,_,rfl,.ref p7,_,rfl,.inl ⟨_,SqL.of hp8,rfl⟩,_,_,rfl,rfl,by rw [List.length_map]; exact wpos,p7,_,_,_,rfl,rfl,SqL.of hp8,by rw [List.length_map,ej]; exact Zev hj,?_⟩
   refine ⟨p7,_,i,_,rfl,rfl,hp8,by rw [List.length_map]; exact hi,?_,?_⟩
   ·rw [List.length_map]
    exact Nat.lt_of_lt_of_le (show ps.length < 1002 by omega) (ZK (by decide))
   obtain ⟨u1,u2⟩:=updOk H8 (.lst ((ps.map V.str).take i ++ [V.str ps[j]] ++ (ps.map V.str).drop i)) sb8 hD8
   refine hR _ _ ⟨ps.take i ++ [ps[j]] ++ ps.drop i,rfl,u1,u2,?_,by simp; omega,by simp; omega,fun x hx=>?_⟩
   ·rw [Zc,List.map_append,List.map_append,List.map_take,List.map_drop]
    rfl
   ·rcases List.mem_append.mp hx with hx | hx
    ·rcases List.mem_append.mp hx with hx | hx
     ·exact hsub x (List.mem_of_mem_take hx)
     ·rw [List.mem_singleton.mp hx]
      exact hsub _ (List.getElem_mem hj)
    ·exact hsub x (List.mem_of_mem_drop hx)
  rintro σ H9 ⟨ps,rfl,sb9,hD9,hp9,l1,l2,hsub⟩
  exact ⟨_,rfl,k p7 H9 ps sb9 hD9 hp9 (Zh1 (by omega) (by omega) z1 z2 zc l2 hsub) (fun q=>by rw [q] at l1; simp at l1) hpd⟩
end
end Sh
namespace L2
open PySem PySem.Spec PyProof.Rows
def ZmP (a b:Addr):It :=
 ⟨fun i H=>∃ xs x ys y,H a=some (.lst xs)∧xs[i]?=some x∧H b=some (.lst ys)∧ys[i]?=some y,fun i H v H'=>∃ t x y,H t=none∧v = .ref t∧H'=upd H t (.tup [x,y])∧(∀ xs,H a=some (.lst xs)→xs[i]?=some x)∧∀ ys,H b=some (.lst ys)→ys[i]?=some y,
  fun i H=>∃ xs ys,H a=some (.lst xs)∧H b=some (.lst ys)∧xs.length≤i⟩
def ZnL (a b:Addr) (n:Nat) (i:Nat) (h:Heap):Prop:=IsZip h (n + 4) (n + 2) (n + 3) .none∧IsPair h (n + 2) (.ref n) (.ref (n + 1))∧(∃ u v,IsPair h (n + 3) u v)∧h.IsListIter n a i∧h.IsListIter (n + 1) b i
theorem Zfg {P:Program} {w:World} {K:PySem.W.Frag} {elts:List Expr} {k:Nat} {pos:Pos} (a b:Addr) (n:Nat):ZjY P w K (.Tuple elts k pos) (ZmP a b) [n + 4,n + 2,n + 3,n,n + 1] (n + 4) (ZnL a b n) where
 mem:=by simp
 obj:=fun i h ⟨s1,s2,⟨u,v,s3⟩,⟨o4,e4,c4,d4⟩,⟨o5,e5,c5,d5⟩⟩ c hc=>by
  have hc:c=n + 4∨c=n + 2∨c=n + 3∨c=n∨c=n + 1:=by simpa using hc
  rcases hc with z | z | z | z | z
  ·subst z; exact ⟨_,s1,fun v z=>by have z':Data.fields _=Data.cell v:=z; cases z'⟩
  ·subst z; exact ⟨_,s2,fun v z=>by have z':Data.seq _ _=Data.cell v:=z; cases z'⟩
  ·subst z; exact ⟨_,s3,fun v z=>by have z':Data.seq _ _=Data.cell v:=z; cases z'⟩
  ·subst z; exact ⟨o4,e4,fun v z=>by rw [d4] at z; cases z⟩
  ·subst z; exact ⟨o5,e5,fun v z=>by rw [d5] at z; cases z⟩
 keep:=fun i h h' ⟨s1,s2,⟨u,v,s3⟩,s4,s5⟩ kk=>⟨kk _ (by simp) _ s1,kk _ (by simp) _ s2,⟨u,v,kk _ (by simp) _ s3⟩,s4.at fun o e=>kk n (by simp) o e,s5.at fun o e=>kk (n + 1) (by simp) o e⟩
 item:=by
  intro X hP hw hK hc i pins s σ H E I hf ⟨s1,s2,⟨u,v,s3⟩,s4,s5⟩ hg
  subst hP hw hK
  obtain ⟨xs,x,ys,y,ha,hx,hb,hy⟩:=hg
  obtain ⟨its,rv,p1,_⟩:=I.list (SqL.of ha)
  obtain ⟨jts,rw',p2,_⟩:=I.list (SqL.of hb)
  obtain ⟨x',hx',rx⟩:=rv.get hx
  obtain ⟨y',hy',ry⟩:=rw'.get hy
  have nin:∀ c o,H c=some o→c∉[n + 4,n + 2,n + 3,n,n + 1]:=fun c o e z=>by rw [(hf c z).1] at e; cases e
  have sub:∀ c,c∉[n + 4,n + 2,n + 3,n,n + 1]→c∉[n + 4,n + 3,n,n + 1]:=fun c h z=>h (by simp at z ⊢; rcases z with z | z | z | z <;> simp [z])
  refine wpAny_pyNext_zip_item (apart (sub a (nin a _ ha)) (sub b (nin b _ hb))) s1 s2 s3 s4 s5 p1.isList p2.isList (x:=x') (y:=y') (by simpa using hx') (by simpa using hy') fun g z1 o1 j1 j2 t1 _ kk=>?_
  refine ⟨_,rfl,wpAny_letOwnedTupleGo_zip z1 fun g2 z2 sb=>?_⟩
  have k2:∀ c o,c≠n + 4→g.get? c=some o→g2.get? c=some o:=fun c o hc e=>(sb.2 c hc).trans e
  have nz:s.heap.objs.size≠n + 4:=Nat.ne_of_gt (Heap.lt_size s1)
  have t2:=k2 _ _ nz t1
  have lt3:n + 3 < s.heap.objs.size:=Heap.lt_size s3
  have d1:n + 3≠n + 4:=by omega
  have d2:n≠n + 4:=by omega
  have d3:n + 1≠n + 4:=by omega
  have e1:n + 2≠n + 4:=by omega
  have e2:n + 2≠n + 3:=by omega
  have e3:n + 2≠n:=by omega
  have e4:n + 2≠n + 1:=by omega
  refine ⟨.ref s.heap.objs.size,_,Inv.laidM (s:=s) (a:=s.heap.objs.size) (t':=s.toks) (o:=.tup [x,y]) (ch:=[n + 4,n + 2,n + 3,n,n + 1]) I (fun c o hc e=>?_) (fun c hc=>hf c hc) (Nat.le_refl _) ?_,rfl,⟨_,x,y,I.hok.fresh (Nat.le_refl _),rfl,rfl,fun xs' h'=>?_,fun ys' h'=>?_⟩,⟨z2,k2 _ _ e1 (kk _ _ e1 e2 e3 e4 s2),⟨x',y',k2 _ _ d1 o1⟩,j1.at fun o e=>k2 _ o d2 e,j2.at fun o e=>k2 _ o d3 e⟩,fun c hc=>?_⟩
  ·simp only [List.mem_cons,List.not_mem_nil,or_false,not_or] at hc
   exact k2 c o hc.1 (kk c o hc.1 hc.2.2.1 hc.2.2.2.1 hc.2.2.2.2 e)
  ·exact ⟨(show 2≤sizeLine by rw [sizeLine_eq]; decide),[x',y'],.cons rx (.cons ry .nil),⟨_,t2,rfl,_,rfl⟩,fun o q=>by rw [t2] at q; cases q; rfl⟩
  ·rw [ha] at h'; cases h'; exact hx
  ·rw [hb] at h'; cases h'; exact hy
  ·rw [Zi]
   ·exact (hf c hc).1
   ·have hc':c=n + 4∨c=n + 2∨c=n + 3∨c=n∨c=n + 1:=by simpa using hc
    have lt4:n + 4 < s.heap.objs.size:=Heap.lt_size s1
    exact Nat.ne_of_lt (show (c:Nat) < s.heap.objs.size by rcases hc' with z | z | z | z | z <;> (rw [z]; first | omega | exact Nat.lt_of_le_of_lt (by omega) lt4))
 done:=by
  intro X hP hw hK hc i pins s σ H E I hf ⟨s1,s2,⟨u,v,s3⟩,s4,s5⟩ hg
  subst hP hw hK
  obtain ⟨xs,ys,ha,hb,hx⟩:=hg
  obtain ⟨its,rv,p1,_⟩:=I.list (SqL.of ha)
  obtain ⟨jts,rw',p2,_⟩:=I.list (SqL.of hb)
  have nin:∀ c o,H c=some o→c∉[n + 4,n + 2,n + 3,n,n + 1]:=fun c o e z=>by rw [(hf c z).1] at e; cases e
  have sub:∀ c,c∉[n + 4,n + 2,n + 3,n,n + 1]→c∉[n + 4,n + 3,n,n + 1]:=fun c h z=>h (by simp at z ⊢; rcases z with z | z | z | z <;> simp [z])
  have hl:=rv.length
  exact wpAny_pyNext_zip_end (I.ok.hd hc) (apart (sub a (nin a _ ha)) (sub b (nin b _ hb))) s1 s2 s3 s4 s5 p1.isList p2.isList (.inl (by simp; omega)) fun g kk=>⟨rfl,Inv.turnedM (t':=s.toks) (ch:=[n + 4,n + 2,n + 3,n,n + 1]) I (fun c o hc e=>kk c o (fun z=>hc (by simp [z])) (fun z=>hc (by simp [z])) (fun z=>hc (by simp [z])) (fun z=>hc (by simp [z])) e) hf⟩
 self:=fun _ _ _ _ _ ⟨s1,_⟩ h=>wpAny_pyIter_zip s1 h
def Zng (ta:TA):TI:=fun σ H R=>ta σ H fun vs H1=>∃ a b xs ys,vs=[.ref a,.ref b]∧H1 a=some (.lst xs)∧H1 b=some (.lst ys)∧R (ZmP a b) H1
theorem Zkv {X:Cx} {elts:List Expr} {kt:Nat} {tpos:Pos} {l:Expr} {rs:List Expr} {ta:TA} {p pos:Pos} (hg:Gl X "zip") (hm:X.mg "zip" = none) (ha:PA X (l :: rs) ta) (hs:starEach (l :: rs) X.env=(false,eval l X.env) :: starEach rs X.env:=by rfl) (hpl:(backTo pos (starEach rs X.env)).any (·.1)=false:=by rfl) :
  PI X (.Tuple elts kt tpos) (.Call (.Name "zip" p) (l :: rs) [] pos) (Zng ta):=by
 intro pins s σ H R I h
 refine Call_ (XH I hg hm Zns (PyProof.Rows.callWith_type1 (thn (ha pos pins s σ H _ I h) fun us s1 ⟨vs,H1,I1,r1,q1⟩=>?_) hs hpl))
 obtain ⟨a,b,xs,ys,e,h1,h2,q⟩:=q1
 subst e
 obtain ⟨u,u',rfl,ru,ru'⟩:=Zfa r1
 cases ru
 cases ru'
 obtain ⟨its,rv,p1,_⟩:=I1.list (SqL.of h1)
 obtain ⟨jts,rw',p2,_⟩:=I1.list (SqL.of h2)
 refine call_zip_2 p1.isList p2.isList fun g q1 q2 q3 q4 q5 _ kk=>?_
 refine wpAny_pyIter_zip q1 ?_
 refine ⟨s1.heap.objs.size + 4,[s1.heap.objs.size + 4,s1.heap.objs.size + 2,s1.heap.objs.size + 3,s1.heap.objs.size,s1.heap.objs.size + 1],_,_,H1,rfl,I1.kept (t':=s1.toks) fun c o e=>kk c o e,Zfg a b s1.heap.objs.size,⟨q1,q2,⟨_,_,q3⟩,q4,q5⟩,fun c hc=>?_,q⟩
 have hc':c=s1.heap.objs.size + 4∨c=s1.heap.objs.size + 2∨c=s1.heap.objs.size + 3∨c=s1.heap.objs.size∨c=s1.heap.objs.size + 1:=by simpa using hc
 have hle:s1.heap.objs.size≤c:=by rcases hc' with z | z | z | z | z <;> (rw [z]; first | exact Nat.le_refl _ | exact Nat.le_add_right _ _)
 exact I1.fpOk hle (I1.hok.fresh hle)
theorem ZiQ {a b:Addr} {xs ys:List V} {g:TG} {tb:TS} {D:Ze6} {σ:St} {H:Hp} (Pv:Nat→St→Hp→Prop) (hxy:ys.length=xs.length) (h0:Pv 0 σ H) (hl:∀ i σ H,i≤xs.length→Pv i σ H→H a=some (.lst xs)∧H b=some (.lst ys))
  (hs:∀ i x y σ H t,xs[i]?=some x→ys[i]?=some y→H t=none→Pv i σ H→g (.ref t) σ (upd H t (.tup [x,y])) fun σ2 H2=>tb { D with nx:=Pv (i + 1),ct:=Pv (i + 1),bk:=D.nx } σ2 H2) (hd:∀ σ H,Pv xs.length σ H→D.nx σ H) :
  ∃ W:Nat→Nat→St→Hp→Prop,(∃ m,W 0 m σ H)∧∀ i m σ H,W i m σ H →
   ((ZmP a b).stop i H∧D.nx σ H)∨((ZmP a b).go i H∧∃ N:St→Hp→Prop,(∀ σ' H',N σ' H'→∃ m',m' < m∧W (i + 1) m' σ' H')∧∀ x H',(ZmP a b).yld i H x H'→g x σ H' fun σ2 H2=>tb { D with nx:=N,ct:=N,bk:=D.nx } σ2 H2):=by
 refine ⟨fun i m σ H=>m=xs.length - i∧i≤xs.length∧Pv i σ H,⟨xs.length,by simp,Nat.zero_le _,h0⟩,?_⟩
 rintro i m σ H ⟨rfl,hi,p⟩
 obtain ⟨qa,qb⟩:=hl i σ H hi p
 by_cases hlt:i < xs.length
 ·refine .inr ⟨⟨xs,xs[i],ys,ys[i],qa,by simp [hlt],qb,by simp [hxy,hlt]⟩,Pv (i + 1),fun σ' H' p'=>⟨xs.length - (i + 1),by omega,rfl,hlt,p'⟩,fun x H' y=>?_⟩
  obtain ⟨t,x,y,ht,rfl,rfl,hx,hy⟩:=y
  exact hs i x y σ H t (hx xs qa) (hy ys qb) ht p
 ·have e:i=xs.length:=by omega
  subst e
  exact .inl ⟨⟨xs,ys,qa,qb,Nat.le_refl _⟩,hd σ H p⟩
end L2
namespace Sh
open PySem L2 PyProof.Rows
seal L2.PE L2.PS L2.PSs L2.PT L2.PW L2.PA L2.PI L2.PG L2.PGs L2.PO L2.PC L2.PCs L2.OpR L2.UnR L2.CallR L2.MtR L2.IxR L2.SlR
theorem Zlr (os qs:List Str):0≤trR os qs:=by
 have h1:trR os qs=ZD os.length (ZT os (Xm qs)) os.length []:=by
  unfold trR
  rw [← Zfm,YR (T:=ZT os (Xm qs)) (fun r t ht=>?_) os.length [] (by simp) (fun x hx=>by cases hx)]
  ·rfl
  ·unfold ZT at ht
   obtain ⟨e,_,rfl⟩:=List.mem_map.mp ht
   exact List.idxOf_le_length
 rw [h1]
 refine YQ (fun i t ht=>?_) _ _
 unfold ZT at ht
 obtain ⟨e,he,rfl⟩:=List.mem_map.mp ht
 have he1:=(List.mem_filter.mp he).1
 unfold Xm at he1
 obtain ⟨x,_,rfl⟩:=List.mem_map.mp he1
 exact (by decide:(0:Int)≤1)
theorem Zny (ss ps:List Str) (e:Str):0≤BR ss ps e:=by
 unfold BR
 have h1:=Zlr (osL ss ps e) ps
 have h2:=Zaa (oR ps e)
 have h3:1≤prO ps (osL ss ps e):=by
  unfold prO
  refine JS _ fun y hy=>?_
  obtain ⟨x,_,rfl⟩:=List.mem_map.mp hy
  exact Zaa _
 exact Int.mul_nonneg (Int.mul_nonneg h1 (by omega)) (by omega)
theorem ZgN:∀ (l:List Int) (y:Int),(∀ x∈l,0≤x)→y∈l→y≤l.sum
 | [],_,_,h=>by cases h
 | x :: l,y,h0,h=>by
  rw [List.sum_cons]
  have h1:=h0 x List.mem_cons_self
  have h2:=(Yi l fun z hz=>h0 z (List.mem_cons_of_mem _ hz)).2
  rcases List.mem_cons.mp h with z | z
  ·rw [z]; omega
  ·have:=ZgN l y (fun z hz=>h0 z (List.mem_cons_of_mem _ hz)) z
   omega
theorem ZhE {ss ps:List Str} {P e x:Str} (nd:ss.Nodup) (hss:∀ y,inP ps y=true→y∈ss) (hB:Bal ps P e) (hx:x∈ps) (hb:bg x=P):BR ss (ps.erase x) e≤BR ss ps e:=by
 rw [Zcx nd hss hB (inP_iff.mpr ⟨x,hx,.inl hb⟩)]
 refine ZgN _ _ (fun z hz=>?_) (List.mem_map.mpr ⟨x,List.mem_filter.mpr ⟨hx,decide_eq_true hb⟩,rfl⟩)
 obtain ⟨y,_,rfl⟩:=List.mem_map.mp hz
 exact Zny _ _ _
def Chn (ps:List Str):Prop:=∀ (j:Nat) (x y:Str),ps[j]?=some x→ps[j + 1]?=some y→en x=bg y
theorem Zes {ss:List Str} (nd:ss.Nodup):∀ (rest:List Str) (x:Str),Chn (x :: rest)→(∀ y,inP (x :: rest) y=true→y∈ss)→Zdv (x :: rest) (bg x)∧∃ e,Bal (x :: rest) (bg x) e∧1≤BR ss (x :: rest) e
 | [],x,_,hss=>by
  refine ⟨Zjd x,en x,Zdq x,?_⟩
  have h:=ZhE nd hss (Zdq x) (List.mem_cons_self) rfl
  rw [List.erase_cons_head,ZjZ] at h
  exact h
 | r :: rest,x,hC,hss=>by
  obtain ⟨h1,e,h2,h3⟩:=Zes nd rest r (fun j a b ha hb=>hC (j + 1) a b ha hb) fun y hy=>hss y (Zbi (fun z hz=>List.mem_cons_of_mem _ hz) hy)
  have hx:=hC 0 x r rfl rfl
  rw [← hx] at h1 h2
  have hB:=Zeu h2 (List.Perm.refl (x :: r :: rest))
  refine ⟨ZcG (List.Perm.refl _) (.inr h1),e,hB,?_⟩
  have h:=ZhE nd hss hB (List.mem_cons_self) rfl
  rw [List.erase_cons_head] at h
  omega
theorem ZcH (ps:List Str):∃ ss0 ks:List Str,(ss0.map fun x=>x.cps.toList).Pairwise (· < ·)∧(∀ y,inP ps y=true→y∈ss0)∧ks.Nodup∧∀ x∈ps,x∈ks:=by
 obtain ⟨ss0,t1,t2⟩:=ZaN (ps.map bg ++ ps.map en)
 obtain ⟨ks,u1,u2⟩:=ZaN ps
 refine ⟨ss0,ks,t1,fun y hy=>?_,Zfy u1,fun x hx=>(u2 x).mpr hx⟩
 obtain ⟨x,hx,q⟩:=inP_iff.mp hy
 rw [t2,List.mem_append,List.mem_map,List.mem_map]
 exact q.elim (fun q=>.inl ⟨x,hx,q⟩) (fun q=>.inr ⟨x,hx,q⟩)
theorem Zk2 {ps:List Str} {P:Str} {n m:Int} (h:IsN ps P n) (k:IsN ps P m):n=m:=by
 obtain ⟨ss0,ks,t1,t2,t3,t4⟩:=ZcH ps
 obtain ⟨a1,a2,a3⟩:=h.2 ss0 ks t1 t2 t3 t4
 obtain ⟨b1,b2,b3⟩:=k.2 ss0 ks t1 t2 t3 t4
 by_cases c:ps=[]
 ·rw [a1 c,b1 c]
 by_cases d:Zdv ps P
 ·obtain ⟨_,_,e,hB⟩:=id d
  have hp:=Zga ks ps
  exact Int.eq_of_mul_eq_mul_right (by omega) ((a3 c d e hB).trans (b3 c d e hB).symm)
 ·rw [a2 c d,b2 c d]
theorem ZgY {x:Str} {rest:List Str} {n:Int} (hC:Chn (x :: rest)) (h:IsN (x :: rest) (bg x) n):0 < n:=by
 obtain ⟨ss0,ks,t1,t2,t3,t4⟩:=ZcH (x :: rest)
 obtain ⟨a1,a2,a3⟩:=h.2 ss0 ks t1 t2 t3 t4
 obtain ⟨c1,e,c2,c3⟩:=Zes (Zfy t1) rest x hC t2
 have h1:=a3 (List.cons_ne_nil _ _) c1 e c2
 have h2:=h.1
 false_or_by_contra
 rename_i c
 have:n=0:=by omega
 rw [this,Int.zero_mul] at h1
 omega
theorem ZeA {ps rs ss:List Str} {ns:List Int} {m:Str→Int} (hne:ps≠[]) (hrs:∀ p,p∈rs↔Zdv ps p) (ndr:rs.Nodup) (hl:ns.length=rs.length) (hns:∀ (i:Nat) (n:Int),ns[i]?=some n→IsN ps (rs.getD i "") n) (nds:ss.Nodup) (hss:∀ y,inP ps y=true→y∈ss)
  (hm:∀ y∈ss,IsN ps y (m y)):ns.sum=(ss.map m).sum:=by
 have hsub:∀ p∈rs,p∈ss:=fun p hp=>hss p ((hrs p).mp hp).2.1
 have e1:ns=rs.map m:=by
  refine List.ext_getElem (by rw [List.length_map]; exact hl) fun i h1 h2=>?_
  have hi:i < rs.length:=by omega
  have:=hns i ns[i] (List.getElem?_eq_getElem h1)
  rw [List.getD_eq_getElem?_getD,List.getElem?_eq_getElem hi] at this
  rw [List.getElem_map]
  exact Zk2 this (hm _ (hsub _ (List.getElem_mem hi)))
 have e2:∀ l:List Str,(∀ y∈l,y∈ss)→(l.map m).sum=((l.filter fun y=>decide (y∈rs)).map m).sum:=fun l=>by
  induction l with
  | nil=>exact fun _=>rfl
  | cons y l ih =>
   intro h
   have ih:=ih fun z hz=>h z (List.mem_cons_of_mem _ hz)
   by_cases c:y∈rs
   ·rw [List.filter_cons_of_pos (by simpa using c),List.map_cons,List.map_cons,List.sum_cons,List.sum_cons,ih]
   ·rw [List.filter_cons_of_neg (by simpa using c),List.map_cons,List.sum_cons,ih]
    obtain ⟨ss0,ks,t1,t2,t3,t4⟩:=ZcH ps
    rw [((hm y (h y List.mem_cons_self)).2 ss0 ks t1 t2 t3 t4).2.1 hne fun z=>c ((hrs y).mpr z),Int.zero_add]
 have e3:(ss.filter fun y=>decide (y∈rs)).Perm rs:=by
  rw [List.perm_ext_iff_of_nodup (nds.filter _) ndr]
  intro y
  rw [List.mem_filter]
  exact ⟨fun h=>of_decide_eq_true h.2,fun h=>⟨hsub y h,decide_eq_true h⟩⟩
 rw [e1,e2 ss fun _ h=>h]
 exact (ZdV (e3.map m)).symm
theorem cut_from {ps:List Str} {j:Nat} (h:j≤ps.length):Jk (ps.map V.str) (some (j:Int)) none=(ps.drop j).map V.str:=by
 unfold Jk
 have h1:HT.sIx (ps.map V.str).length 0 (some (j:Int))=j:=by
  rw [HT.sIx_nat,List.length_map]
  exact Nat.min_eq_left h
 have h2:HT.sIx (ps.map V.str).length (ps.map V.str).length none=(ps.map V.str).length:=rfl
 rw [h1,h2,List.take_of_length_le (by rw [List.length_drop]; exact Nat.le_refl _),List.map_drop]
theorem ZiY {ps:List Str} (h:1≤ps.length):Jk (ps.map V.str) none (some (-1))=(ps.take (ps.length - 1)).map V.str:=by
 unfold Jk
 have h1:HT.sIx (ps.map V.str).length 0 none=0:=rfl
 have h2:HT.sIx (ps.map V.str).length (ps.map V.str).length (some (-1))=ps.length - 1:=by
  show (if (-1:Int) < 0 then ((-1:Int) + ((ps.map V.str).length:Int)).toNat else min (-1:Int).toNat (ps.map V.str).length)=_
  rw [if_pos (by decide),List.length_map]
  omega
 rw [h1,h2,List.drop_zero,Nat.sub_zero,List.map_take]
theorem ZkE {ps ss:List Str} (h:SPts (Xm ps) ss) (y:Str) (hy:inP ps y=true):y∈ss:=by
 obtain ⟨x,hx,q⟩:=inP_iff.mp hy
 exact (h.pts.mem y).mpr ⟨_,JA hx,q⟩
theorem Zg7 {α:Type} {l:List α} (h:l≠[]):1≤l.length:=List.length_pos_iff.mpr h
section
variable {P:Program} {w:World} {K:PySem.W.Frag} {mg:Str→Option Value} {base:Heap}
abbrev ZhZ:Stmt:=top 40
abbrev Zn1:List Str:=["_law_script","_law_deck_here","_law_row_here","_law_k","_law_left","_law_other","_law_point","_law_heap_here","_law_found","_law_one"]
theorem scLaw:Zo Zn1 ["_law_script"] (Zg ZhZ):=⟨rfl,rfl,rfl,by decide +kernel,rfl,by decide +kernel,by decide +kernel⟩
def ZhN (K:PySem.W.Frag):Sp:=fun vs H Q _=>∃ (a:Addr) (ns:List Int),vs=[.ref a]∧SqL K H a (ns.map V.int)∧ns.length≤63∧∀ H',Q (.bl true) H'
theorem Zl0 {fa:Addr} {fd:FuncData} (Fl:Fun K "law" "law" ZhZ fa fd) (B:Blt mg) (g0_:FOk P w K mg base 9 "_law_deck" ["_law_script","_law_many"] (Zjo K)) (g8_:FOk P w K mg base 9 "_law_row" ["_law_deck_here","_law_most"] ZfB) (g3_:FOk P w K mg base 9 "_law_goes_on" ["_law_row_here","_law_point"] Zjl)
  (g4_:FOk P w K mg base 9 "_law_heap" ["_law_pieces"] (ZfF K)) (g14_:FOk P w K mg base 9 "count_of" ["H"] ZbK) (g7_:FOk P w K mg base 9 "_law_points" ["_law_row_here"] (Zjj K)) (g13_:FOk P w K mg base 9 "count_from" ["H","P"] Jt) (g10_:FOk P w K mg base 9 "_law_whole" ["_law_found"] ZcI) :
  FnOk P w K mg base CX0 10 fa fd ["_law_script"] (ZhN K):=by
 refine Fl.ok scLaw (fun vs H Q E h=>?_) (fun cdv A outer s H vs Q E hr h=>?_)
 ·obtain ⟨a,ns,rfl,_⟩:=h
  rfl
 ·obtain ⟨a,ns,rfl,ha,hl,k⟩:=h
  refine ⟨_,(Zd (Zm (i:=1) scLaw.nd rfl (.inl rfl) (Zu g0_ hr (Za (pv 0) (Za Zf Ze))))
   (Zd (Zm (i:=2) scLaw.nd rfl (.inl rfl) (Zu g8_ hr (Za (pv 1) (Za Zf Ze))))
   (Zd (Z3 PassesOwn.never rfl (Yx rfl B.range (Za Zf Ze)) (Zz (i:=3) scLaw.nd rfl (.inl rfl))
    (Zd (Zm (i:=4) scLaw.nd rfl (.inl rfl) (Zv Xi (pv 2) (Zx (Zn ZI (YV F.plainAttrs_list F.slot_list_pop F.type_list_pop Yo (pv 1)) (Zk Zq rfl B.len ZV (Za (pv 2) Ze)))) ZB))
   (Zd (Ye (Zt XE (pv 3) Zf (Zy _)) (Zh (Zm (i:=4) scLaw.nd rfl (.inl rfl) (pv 2))) ZA)
   (Zd (Zm (i:=5) scLaw.nd rfl (.inl rfl) (ZR ZG (pv 4) (Zn ZI (YV F.plainAttrs_list F.slot_list_pop F.type_list_pop Yo (pv 1)) (Zk Zq rfl B.len ZV (Za (pv 4) Ze))) (fun _ _=>rfl)))
   (Zh (Z3 PassesOwn.never rfl (ZX (Yn (Za (Zv Z2 (ZR ZG (pv 4) Zf (fun _ _=>rfl)) ZB (Zx (Jh YH Zf))) (Za (Zv Z2 (pv 5) ZB (Zx (Jh YH Zf))) Ze)))) (Zz (i:=6) scLaw.nd rfl (.inl rfl))
    (Zh (Ye (ZdU (ZdT (Zu g3_ hr (Za (pv 4) (Za (pv 6) Ze))))) (Zh (Zr Zgj)) ZA))))))))
   (Zd (Zm (i:=7) scLaw.nd rfl (.inl rfl) (Zu g4_ hr (Za (pv 2) Ze)))
   (Zd (Zm (i:=8) scLaw.nd rfl (.inl rfl) (Zu g14_ hr (Za (pv 7) Ze)))
   (Zd (Z3 PassesOwn.never rfl (ZX (Zu g7_ hr (Za (pv 2) Ze))) (Zz (i:=6) scLaw.nd rfl (.inl rfl))
    (Zh (Zm (i:=8) scLaw.nd rfl (.inl rfl) (Zn Jc (pv 8) (Zu g13_ hr (Za (pv 7) (Za (pv 6) Ze)))))))
   (Zd (Ye (PW.pt (ZlI (ZdU (ZdT (Zu g10_ hr (Za (pv 8) Ze)))) (ZlI (Zt Zgp (pv 8) Zf (Zy _)) (ZlH (ZdU (ZdT (Zu g10_ hr (Za (Zu g14_ hr (Za (pv 7) Ze)) Ze)))))))) (Zh (Zr Zgj)) ZA)
   (Zd (Z3 PassesOwn.never rfl (Zkv rfl B.zip (Za (Zv Xi (pv 2) ZB (Zx (Jh YH Zf))) (Za (Zv Xi (pv 2) (Zx Zf) ZB) Ze))) (Yb 2 K rfl (Zw (Zz (i:=9) scLaw.nd rfl (.inl rfl)) (Zw (Zz (i:=5) scLaw.nd rfl (.inl rfl)) Ya)))
    (Zh (Ye (Zt Zgp (Zv Z2 (pv 9) (Zx Zf) ZB) (Zv Z2 (pv 5) ZB (Zx (Jh YH Zf))) (Zy _)) (Zh (Zr Zgj)) ZA)))
   (Zh (Zr (Za2 ZcX (Zu g13_ hr (Za (pv 7) (Za (Zv Z2 (ZR ZG (pv 2) Zf (fun _ _=>rfl)) ZB (Zx (Jh YH Zf))) Ze))) Zf (Zy _)))))))))))),?_⟩
  refine ⟨_,rfl,a,ns,60,rfl,ha,hl,by decide,fun Dk H1 s1 hD1=>?_⟩
  refine ⟨_,rfl,Dk,31,rfl,hD1,fun p2 H2 ps sb2 hD2 hp2 hR hne hpd=>?_⟩
  clear sb2 hD1 s1
  have hlen:=hR.len
  have hlp:=Zg7 hne
  refine ⟨3,rfl,by decide,by decide,?_⟩
  refine Y0 (n:=3) (fun i σ H3=>∃ z3 z4 z5 z6:Option V,σ=[some (.ref a),some (.ref Dk),some (.ref p2),z3,z4,z5,z6,none,none,none]∧DK H3 Dk (31 - 2 * i)∧H3 p2=some (.lst (ps.map V.str)))
   ⟨none,none,none,none,rfl,hD2,hp2⟩ ?_ ?_
  ·rintro i σ H3 hi ⟨z3,z4,z5,z6,rfl,hD3,hp3⟩
   have hD3':DK H3 Dk (31 - 2 * (i + 1) + 1 + 1):=hD3.less (by omega)
   obtain ⟨ns1,c1,hDn1,c10,c11,hD4⟩:=hD3'.pop
   refine ⟨_,rfl,_,rfl,.inl ⟨rfl,_,SqL.of hDn1⟩,Dk,_,.int c1,rfl,rfl,hDn1,Yf ns1 c1,?_⟩
   rw [Yg]
   have hp4:(upd H3 Dk (.lst (ns1.map V.int))) p2=some (.lst (ps.map V.str)):=by rw [Zi hpd]; exact hp3
   generalize upd H3 Dk (.lst (ns1.map V.int))=H4 at hD4 hp4
   clear hD3 hD3' hDn1 hp3
   have wpos:(0:Int) < (ps.length:Int):=by omega
   have m1:=ZM c1 wpos
   obtain ⟨j,ej⟩:∃ j:Nat,c1 % (ps.length:Int)=(j:Int):=⟨(c1 % (ps.length:Int)).toNat,by omega⟩
   have hj:j < ps.length:=by omega
   refine ⟨_,rfl,.ref p2,_,rfl,.inl ⟨_,SqL.of hp4,rfl⟩,_,_,rfl,rfl,by rw [List.length_map]; exact wpos,?_⟩
   dsimp only
   rw [List.length_map,ej]
   refine ⟨_,rfl,p2,_,rfl,SqL.of hp4,fun q hq=>?_⟩
   rw [cut_from (by omega)]
   have s5:=Zb (o:=.lst ((ps.drop j).map V.str)) hq
   have hq5:(upd H4 q (.lst ((ps.drop j).map V.str))) q=some (.lst ((ps.drop j).map V.str)):=Zc
   have hqD:q≠Dk:=fun e=>by
    obtain ⟨xs,hx,_⟩:=hD4
    rw [← e,hq] at hx
    cases hx
   have hD5:=hD4.same s5
   have hp5:=s5 _ _ hp4
   generalize upd H4 q (.lst ((ps.drop j).map V.str))=H5 at s5 hq5 hD5 hp5
   dsimp only
   refine Ym (fun σ H'=>∃ (l:Addr) (qs:List Str) (z3:Option V),H'=H5∧σ=[some (.ref a),some (.ref Dk),some (.ref p2),z3,some (.ref l),z5,z6,none,none,none]∧H5 l=some (.lst (qs.map V.str))∧qs≠[]∧RowOk qs∧l≠Dk) (fun R hR2=>?_) ?_
   ·refine ⟨_,rfl,rfl,_,rfl,Zde (fun e=>?_) (fun e=>?_)⟩
    ·exact ⟨_,rfl,hR2 _ _ ⟨p2,ps,_,rfl,rfl,hp5,hne,hR,hpd⟩⟩
    ·refine hR2 _ _ ⟨q,ps.drop j,_,rfl,rfl,hq5,fun z=>?_,hR.sub (fun x hx=>List.mem_of_mem_drop hx) (by rw [List.length_drop]; omega),hqD⟩
     have:=congrArg List.length z
     rw [List.length_drop,List.length_nil] at this
     omega
   rintro σ H5' ⟨l,qs,z3,rfl,rfl,hl5,hqne,hqR,hlD⟩
   clear hq5
   obtain ⟨ns2,c2,hDn2,c20,c21,hD6⟩:=hD5.pop
   refine ⟨_,rfl,_,rfl,.inl ⟨rfl,_,SqL.of hDn2⟩,Dk,_,.int c2,rfl,rfl,hDn2,Yf ns2 c2,?_⟩
   rw [Yg]
   have hp6:(upd H5' Dk (.lst (ns2.map V.int))) p2=some (.lst (ps.map V.str)):=by rw [Zi hpd]; exact hp5
   have hl6:(upd H5' Dk (.lst (ns2.map V.int))) l=some (.lst (qs.map V.str)):=by rw [Zi hlD]; exact hl5
   generalize upd H5' Dk (.lst (ns2.map V.int))=H6 at hD6 hp6 hl6
   clear hD5 hDn2 hp5 hl5
   have hqlen:=Zg7 hqne
   have wpos2:(0:Int) < (qs.length:Int):=by omega
   have m2:=ZM c2 wpos2
   obtain ⟨j2,ej2⟩:∃ j:Nat,c2 % (qs.length:Int)=(j:Int):=⟨(c2 % (qs.length:Int)).toNat,by omega⟩
   have hj2:j2 < qs.length:=by omega
   refine ⟨_,rfl,.ref l,_,rfl,.inl ⟨_,SqL.of hl6,rfl⟩,_,_,rfl,rfl,by rw [List.length_map]; exact wpos2,l,_,_,_,rfl,rfl,SqL.of hl6,by rw [List.length_map,ej2]; exact Zev hj2,?_⟩
   have o1:=(hqR.one _ (List.getElem_mem hj2)).1
   have h0:0 < qs.length:=by omega
   have o0:=(hqR.one _ (List.getElem_mem h0)).1
   refine ⟨_,rfl,l,_,0,_,rfl,rfl,SqL.of hl6,Zev h0,_,rfl,_,rfl,_,rfl,ZN o0.2,?_⟩
   refine ⟨_,rfl,_,rfl,_,rfl,_,rfl,ZN o1.2,?_⟩
   rw [Yq o0.1,Yq o1.1]
   refine ⟨Zl (show 2≤1000 by decide),fun po npo=>?_⟩
   obtain ⟨bs,eb⟩:∃ bs:List Str,upd H6 po (.lst [V.str (bg qs[0]),V.str (bg qs[j2])])=upd H6 po (.lst (bs.map V.str)):=⟨[bg qs[0],bg qs[j2]],rfl⟩
   rw [eb]
   have s7:=Zb (o:=.lst (bs.map V.str)) npo
   have hpo:(upd H6 po (.lst (bs.map V.str))) po=some (.lst (bs.map V.str)):=Zc
   refine ⟨po,rfl,⟨_,SqL.of hpo⟩,XM (K:=K) (a:=po) (xs:=bs.map V.str) (fun t σ H8=>Same (upd H6 po (.lst (bs.map V.str))) H8∧∃ z6:Option V,σ=[some (.ref a),some (.ref Dk),some (.ref p2),z3,some (.ref l),some (.str qs[j2]),z6,none,none,none])
    ⟨Same.refl _,z6,rfl⟩ (fun t σ H8 _ ⟨s8,_⟩=>SqL.of (s8 _ _ hpo)) ?_ ?_⟩
   ·rintro t x σ H8 ht ⟨s8,z6,rfl⟩
    obtain ⟨ht',rfl⟩:=Yj ht
    exact ⟨_,rfl,_,rfl,l,qs,_,rfl,s8 _ _ (s7 _ _ hl6),hqR,hqne,fun H9 s9=>⟨_,rfl,Jg rfl ⟨s8.trans s9,_,rfl⟩⟩⟩
   ·rintro σ H8 ⟨s8,z6,rfl⟩
    exact ⟨_,_,_,_,rfl,(hD6.same (s7.trans s8)),s8 _ _ (s7 _ _ hp6)⟩
  ·rintro σ H3 ⟨z3,z4,z5,z6,rfl,_,hp3⟩
   clear hD2 hp2
   refine ⟨_,rfl,p2,ps,ps,rfl,SqL.of hp3,by omega,by omega,fun x hx=>hx,fun v4 H4 hp s4 hA hO=>?_⟩
   obtain ⟨e,es,rfl,hRw⟩:=ZlD hR hne hA hO
   have hp4:=s4 _ _ hp3
   refine ⟨_,rfl,v4,ps,e,es,rfl,hRw,fun H5 rs ns5 s5 hrs ndr hln hns=>?_⟩
   have hp5:=s5 _ _ hp4
   have hRw5:=hRw.same s5
   have hpx:∀ x∈ps,1≤x.length∧x.length≤1000:=fun x hx=>(hR.one x hx).1
   refine ⟨_,rfl,p2,Xm ps,rfl,SqL.of (by rw [Zic]; exact hp5),Zgr (by omega) hpx,fun pp H6 ss s6 hS hpp=>?_⟩
   have hp6:=s6 _ _ hp5
   have hRw6:=hRw5.same s6
   refine ⟨pp,rfl,⟨_,SqL.of hpp⟩,XM (K:=K) (a:=pp) (xs:=ss.map V.str) (fun i σ H7=>Same H6 H7∧∃ (m:Str→Int) (z6:Option V),σ=[some (.ref a),some (.ref Dk),some (.ref p2),z3,z4,z5,z6,some v4,some (.int (ns5.sum - ((ss.take i).map m).sum)),none]∧∀ y∈ss.take i,IsN ps y (m y))
    ⟨Same.refl _,fun _=>0,z6,?_,fun y hy=>by simp at hy⟩ (fun i σ H7 _ ⟨s7,_⟩=>SqL.of (s7 _ _ hpp)) ?_ ?_⟩
   ·rw [List.take_zero,List.map_nil,List.sum_nil,Int.sub_zero]
    rfl
   ·rintro i x σ H7 hi ⟨s7,m,z6,rfl,hm⟩
    obtain ⟨hi',rfl⟩:=Yj hi
    have etk:ss.take (i + 1)=ss.take i ++ [ss[i]]:=List.take_succ_eq_append_getElem hi'
    have hnx:ss[i]∉ss.take i:=fun q=>by
     have h2:(ss.take (i + 1)).Nodup:=hS.pts.nd.sublist (List.take_sublist _ _)
     rw [etk,List.nodup_append] at h2
     exact h2.2.2 _ q _ (List.mem_singleton.mpr rfl) rfl
    rw [etk]
    generalize ss[i]=x at *
    generalize ss.take i=tk at *
    refine ⟨_,rfl,_,rfl,_,rfl,v4,ps,e,es,x,rfl,hRw6.same s7,fun H8 n s8 hN=>?_⟩
    refine ⟨_,_,rfl,rfl,s7.trans s8,fun y=>if y=x then n else m y,some (.str x),?_,fun y hy=>?_⟩
    ·have e2:(tk.map fun y=>if y=x then n else m y)=tk.map m:=List.map_congr_left fun y hy=>if_neg fun z:y=x=>hnx (z ▸ hy)
     rw [List.map_append,List.sum_append,e2,List.map_cons,List.map_nil,List.sum_cons,List.sum_nil,if_pos rfl,Int.add_zero]
     have e3:ns5.sum - ((tk.map m).sum + n)=ns5.sum - (tk.map m).sum - n:=by omega
     rw [e3]
     rfl
    ·dsimp only
     rcases List.mem_append.mp hy with q | q
     ·rw [if_neg fun z:y=x=>hnx (z ▸ q)]
      exact hm y q
     ·rw [List.mem_singleton.mp q,if_pos rfl]
      exact hN
   ·rintro σ H7 ⟨s7,m,z6,rfl,hm⟩
    rw [List.length_map,List.take_of_length_le (Nat.le_refl _)] at hm ⊢
    have h0:ns5.sum - (ss.map m).sum=0:=by
     rw [ZeA hne hrs ndr hln hns hS.pts.nd (ZkE hS) hm]
     omega
    rw [h0]
    clear h0 hm hns hln ndr hrs
    have hp7:=s7 _ _ hp6
    have hRw7:=hRw6.same s7
    refine ⟨_,rfl,.int 0,"int",rfl,.int _,_,rfl,Jg rfl ?_⟩
    refine ⟨_,rfl,rfl,_,rfl,Jg rfl ?_⟩
    refine ⟨_,rfl,v4,ps,e,es,rfl,hRw7,fun H8 rs' ns' s8 _ _ _ _=>?_⟩
    refine ⟨.int _,"int",rfl,.int _,_,rfl,Jg rfl ?_⟩
    have hp8:=s8 _ _ hp7
    have hRw8:=hRw7.same s8
    refine ⟨_,rfl,_,rfl,_,rfl,p2,_,rfl,SqL.of hp8,fun q1 hq1=>?_⟩
    have s9:=Zb (o:=.lst (Jk (ps.map V.str) none (some (-1)))) hq1
    refine ⟨_,rfl,_,rfl,p2,_,rfl,SqL.of (s9 _ _ hp8),fun q2 hq2=>?_⟩
    have s10:=Zb (o:=.lst (Jk (ps.map V.str) (some 1) none)) hq2
    have hq1':=s10 _ _ (Zc (H:=H8) (a:=q1) (o:=.lst (Jk (ps.map V.str) none (some (-1)))))
    have hq2':(upd (upd H8 q1 (.lst (Jk (ps.map V.str) none (some (-1))))) q2 (.lst (Jk (ps.map V.str) (some 1) none))) q2=some (.lst (Jk (ps.map V.str) (some 1) none)):=Zc
    have s810:=s9.trans s10
    generalize upd (upd H8 q1 (.lst (Jk (ps.map V.str) none (some (-1))))) q2 (.lst (Jk (ps.map V.str) (some 1) none))=H10 at hq1' hq2' s810
    rw [ZiY hlp] at hq1'
    rw [show (some 1:Option Int)=some ((1:Nat):Int) from rfl,cut_from hlp] at hq2'
    have hp10:=s810 _ _ hp8
    have hRw10:=hRw8.same s810
    refine ⟨q1,q2,_,_,rfl,hq1',hq2',ZiQ (a:=q1) (b:=q2) (xs:=(ps.take (ps.length - 1)).map V.str) (ys:=(ps.drop 1).map V.str) (fun i σ H11=>Same H10 H11∧(∃ z5 z9:Option V,σ=[some (.ref a),some (.ref Dk),some (.ref p2),z3,z4,z5,z6,some v4,some (.int 0),z9])∧∀ (j:Nat) (x y:Str),j < i→ps[j]?=some x→ps[j + 1]?=some y→en x=bg y)
     (by rw [List.length_map,List.length_map,List.length_drop,List.length_take]; omega) ⟨Same.refl _,⟨_,_,rfl⟩,fun j x y hj=>absurd hj (Nat.not_lt_zero _)⟩ (fun i σ H11 _ ⟨s11,_⟩=>⟨s11 _ _ hq1',s11 _ _ hq2'⟩) ?_ ?_⟩
    ·rintro i x y σ H11 t hx hy ht ⟨s11,⟨z5,z9,rfl⟩,hch⟩
     obtain ⟨hi1,rfl⟩:=Yj hx
     obtain ⟨hi2,rfl⟩:=Yj hy
     have hi3:i < ps.length - 1:=by rw [List.length_take] at hi1; omega
     rw [List.getElem_take,List.getElem_drop]
     have hi4:1 + i < ps.length:=by omega
     have ox:=(hR.one _ (List.getElem_mem (show i < ps.length by omega))).1
     have oy:=(hR.one _ (List.getElem_mem hi4)).1
     have hx1:ps[i]?=some (ps[i]'(by omega)):=List.getElem?_eq_getElem (by omega)
     have hy1:ps[i + 1]?=some ps[1 + i]:=by rw [Nat.add_comm]; exact List.getElem?_eq_getElem hi4
     generalize ps[1 + i]=y at *
     generalize ps[i]'(by omega)=x at *
     have s12:=s11.trans (Zb (o:=.tup [.str x,.str y]) ht)
     refine ⟨t,_,rfl,SqT.of Zc,rfl,_,_,rfl,_,_,rfl,rfl,?_⟩
     refine ⟨_,rfl,_,rfl,_,rfl,ZN ox.2,?_⟩
     refine ⟨_,rfl,_,rfl,_,rfl,_,rfl,ZN oy.2,?_⟩
     rw [Xv ox.1,Yq oy.1]
     refine ⟨rfl,_,rfl,Zde (fun c=>k _) (fun c=>⟨s12,⟨_,_,rfl⟩,fun j x' y' hj hx' hy'=>?_⟩)⟩
     by_cases cj:j < i
     ·exact hch j x' y' cj hx' hy'
     ·have:j=i:=by omega
      subst this
      rw [hx1] at hx'
      rw [hy1] at hy'
      cases hx'
      cases hy'
      false_or_by_contra
      rename_i z
      exact c (by simp [z])
    ·rintro σ H11 ⟨s11,⟨z5,z9,rfl⟩,hch⟩
     have hl0:0 < ps.length:=by omega
     have o0:=(hR.one _ (List.getElem_mem hl0)).1
     refine ⟨_,rfl,_,rfl,p2,_,0,_,rfl,rfl,SqL.of (s11 _ _ hp10),Zev hl0,_,rfl,_,rfl,_,rfl,ZN o0.2,?_⟩
     rw [Yq o0.1]
     refine ⟨v4,ps,e,es,_,rfl,hRw10.same s11,fun H12 n s12 hN=>?_⟩
     have hC:Chn ps:=fun j x y hx hy=>hch j x y (by
      have h1:=(List.getElem?_eq_some_iff.mp hy).1
      rw [List.length_map,List.length_take]
      omega) hx hy
     have hpos:0 < n:=by
      cases ps with
      | nil=>exact absurd rfl hne
      | cons x rest=>exact ZgY hC hN
     refine ⟨_,_,rfl,rfl,?_⟩
     show Q (.bl (decide (0 < n))) H12
     rw [decide_eq_true hpos]
     exact k _
end
end Sh
namespace Sh
open PySem L2
theorem blt_mk {K:PySem.W.Frag} {h:Heap} {mg:Str→Option Value} (X:K.In h) (G:h.Ns mainGlobals mg) (z0:PySem.W.nsIn K mainGlobals "isinstance" = some none) (z1:PySem.W.nsIn K mainGlobals "int" = some none) (z2:PySem.W.nsIn K mainGlobals "bool" = some none) (z3:PySem.W.nsIn K mainGlobals "len" = some none) (z4:PySem.W.nsIn K mainGlobals "range" = some none) (z5:PySem.W.nsIn K mainGlobals "list" = some none) (z6:PySem.W.nsIn K mainGlobals "tuple" = some none) (z7:PySem.W.nsIn K mainGlobals "enumerate" = some none) (z8:PySem.W.nsIn K mainGlobals "sum" = some none) (z9:PySem.W.nsIn K mainGlobals "sorted" = some none) (z10:PySem.W.nsIn K mainGlobals "set" = some none) (z11:PySem.W.nsIn K mainGlobals "max" = some none) (z12:PySem.W.nsIn K mainGlobals "min" = some none) (z13:PySem.W.nsIn K mainGlobals "reversed" = some none) (z14:PySem.W.nsIn K mainGlobals "zip" = some none):Blt mg :=
 ⟨PySem.W.mg_none_of X G z0,PySem.W.mg_none_of X G z1,PySem.W.mg_none_of X G z2,PySem.W.mg_none_of X G z3,PySem.W.mg_none_of X G z4,PySem.W.mg_none_of X G z5,PySem.W.mg_none_of X G z6,PySem.W.mg_none_of X G z7,PySem.W.mg_none_of X G z8,PySem.W.mg_none_of X G z9,PySem.W.mg_none_of X G z10,PySem.W.mg_none_of X G z11,PySem.W.mg_none_of X G z12,PySem.W.mg_none_of X G z13,PySem.W.mg_none_of X G z14⟩
theorem all_mk {l:PySem.W.OpenLaw} {w:World} {K:PySem.W.Frag} {h:Heap} {mg:Str→Option Value} {fa f0:Addr} (X:K.In h) (G:h.Ns mainGlobals mg) (hfa:mg "law" = some (.ref fa)) {oc kV dc pm cd ct:Value} {od an:Option Addr} {sl:Array (Option Value)}
  (B:Blt mg)
  (D0:HasDef K mg "begin_of" ZaW ["piece"])
  (D1:HasDef K mg "end_of" Zf0 ["piece"])
  (D2:HasDef K mg "points_of" YS ["H"])
  (D3:HasDef K mg "outs_of" ZaR ["H","P"])
  (D4:HasDef K mg "more_out" ZaS ["H"])
  (D5:HasDef K mg "begins_of" XB ["H"])
  (D6:HasDef K mg "ends_of" ZaV ["H"])
  (D7:HasDef K mg "place_of_head" YT ["rows"])
  (D8:HasDef K mg "lessened" Xz ["row","head","divisor"])
  (D9:HasDef K mg "worth_of" Xy ["table"])
  (D10:HasDef K mg "tied_points" Xj ["H"])
  (D11:HasDef K mg "part_of" ZcN ["H"])
  (D12:HasDef K mg "hangs" ZfZ ["H"])
  (D13:HasDef K mg "has_many_begins" Z6 ["H"])
  (D14:HasDef K mg "has_text" ZaU ["H"])
  (D15:HasDef K mg "row_numbers" Xk ["H","root"])
  (D16:HasDef K mg "tree_table" Yv ["H","root"])
  (D17:HasDef K mg "trees_of" ZaQ ["H","root"])
  (D18:HasDef K mg "factorial" XZ ["number"])
  (D19:HasDef K mg "orders_to" JO ["H","end"])
  (D20:HasDef K mg "starts_of" JN ["H"])
  (D21:HasDef K mg "count_from" X0 ["H","P"])
  (D22:HasDef K mg "count_of" Jw ["H"])
  (D23:HasDef K mg "_law_mixed" ZcQ ["_law_row_here","_law_k"])
  (D24:HasDef K mg "_law_deck" ZfY ["_law_script","_law_many"])
  (D25:HasDef K mg "_law_letters" JP ["_law_deck_here","_law_few_here"])
  (D26:HasDef K mg "_law_signs" ZcP ["_law_deck_here","_law_some","_law_long"])
  (D27:HasDef K mg "_law_few" ZeG ["_law_deck_here","_law_most"])
  (D28:HasDef K mg "_law_row" Zh0 ["_law_deck_here","_law_most"])
  (D29:HasDef K mg "_law_whole" ZcO ["_law_found"])
  (D30:HasDef K mg "_law_heap" ZdK ["_law_pieces"])
  (D31:HasDef K mg "_law_points" XA ["_law_row_here"])
  (D32:HasDef K mg "_law_from" ZfX ["_law_row_here","_law_point"])
  (D33:HasDef K mg "_law_goes_on" ZaT ["_law_row_here","_law_point"])
  (a0:PySem.W.nsIn K mainGlobals "law" = some (some (.ref f0))) (l0:K.lookup f0=some ⟨oc,od,.func (PySem.W.fnOf "law" "law" (Y2 ZhZ) (Yt ZhZ) (Zg ZhZ) .none kV dc pm an cd ct),sl⟩) (c0:PySem.W.codeIn K cd "law" = true) (k0:PySem.W.keepIn K (.ref f0)=true) :
  ∃ fd:FuncData,(∀ (s:Shared) (v:Value),BindsTo s fd ⟨[v],[]⟩ [("_law_script",v)])∧∀ base:Heap,K.In base→base.Ns mainGlobals mg→FnOk l.prog w K mg base CX0 10 fa fd ["_law_script"] (ZhN K):=by
 have e:=hfa.symm.trans (PySem.W.mg_of X G a0)
 cases e
 refine ⟨PySem.W.fnOf "law" "law" (Y2 ZhZ) (Yt ZhZ) (Zg ZhZ) .none kV dc pm an cd ct,fun s v=>.of_eq rfl,fun base _ _=>?_⟩
 have W0:=Zc4 (P:=l.prog) (w:=w) (base:=base) D0
 have W1:=Zgv (P:=l.prog) (w:=w) (base:=base) D1
 have W2:=ZbU (P:=l.prog) (w:=w) (base:=base) D2 B W0 W1
 have W3:=ZeI (P:=l.prog) (w:=w) (base:=base) D3 B W0
 have W4:=Zc0 (P:=l.prog) (w:=w) (base:=base) D4 W0 W1
 have W5:=Zb1 (P:=l.prog) (w:=w) (base:=base) D5 B W4
 have W6:=ZeN (P:=l.prog) (w:=w) (base:=base) D6 B W4
 have W7:=Ji (P:=l.prog) (w:=w) (base:=base) D7 B
 have W8:=Zc1 (P:=l.prog) (w:=w) (base:=base) D8 B
 have W9:=ZcY (P:=l.prog) (w:=w) (base:=base) D9 B W7 W8
 have W10:=Zah (P:=l.prog) (w:=w) (base:=base) D10 W0 W1
 have W11:=ZeH (P:=l.prog) (w:=w) (base:=base) D11 B (W0.mono (by decide)) W10
 have W12:=Zie (P:=l.prog) (w:=w) (base:=base) D12 B W11 (W2.mono (by decide))
 have W13:=ZbZ (P:=l.prog) (w:=w) (base:=base) D13 B W5
 have W14:=ZbY (P:=l.prog) (w:=w) (base:=base) D14 B W12 W13
 have W15:=Zai (P:=l.prog) (w:=w) (base:=base) D15 B W2
 have W16:=Za5 (P:=l.prog) (w:=w) (base:=base) D16 B W15 (W0.mono (by decide)) (W1.mono (by decide))
 have W17:=ZcZ (P:=l.prog) (w:=w) (base:=base) D17 B W16 (W9.mono (by decide))
 have W18:=Zb0 (P:=l.prog) (w:=w) (base:=base) D18 B
 have W19:=ZbV (P:=l.prog) (w:=w) (base:=base) D19 B W17 (W3.mono (by decide)) (W18.mono (by decide)) (W2.mono (by decide))
 have W20:=Za6 (P:=l.prog) (w:=w) (base:=base) D20 B W14 (W5.mono (by decide)) (W2.mono (by decide))
 have W21:=Zaj (P:=l.prog) (w:=w) (base:=base) D21 B W20 (W6.mono (by decide)) W19 (W18.mono (by decide))
 have W22:=Zc3 (P:=l.prog) (w:=w) (base:=base) D22 B (W20.mono (by decide)) W21
 have W23:=ZeM (P:=l.prog) (w:=w) (base:=base) D23 B
 have W24:=Zgu (P:=l.prog) (w:=w) (base:=base) D24 B W23
 have W25:=ZbW (P:=l.prog) (w:=w) (base:=base) D25 B
 have W26:=ZeK (P:=l.prog) (w:=w) (base:=base) D26 B
 have W27:=Zid (P:=l.prog) (w:=w) (base:=base) D27 B W25 W26
 have W28:=ZeL (P:=l.prog) (w:=w) (base:=base) D28 B (W25.mono (by decide)) (W26.mono (by decide)) W27
 have W29:=ZeJ (P:=l.prog) (w:=w) (base:=base) D29 B
 have W30:=Zgs (P:=l.prog) (w:=w) (base:=base) D30 B
 have W31:=Zc2 (P:=l.prog) (w:=w) (base:=base) D31 B
 have W32:=Zgt (P:=l.prog) (w:=w) (base:=base) D32 B (W30.mono (by decide)) W21
 have W33:=ZbX (P:=l.prog) (w:=w) (base:=base) D33 B W32 (W29.mono (by decide))
 exact Zl0 (Zhb (st:=ZhZ) l0 c0 k0) B (W24.mono (by decide)) (W28.mono (by decide)) W33 (W30.mono (by decide)) (W22.mono (by decide)) (W31.mono (by decide)) (W21.mono (by decide)) (W29.mono (by decide))
theorem walk {l:PySem.W.OpenLaw} {q:Program} {loose:List Str} {XP:(Str→Option Value)→Heap→Prop} {YP:World→Heap→Prop} {d:DefRec} {K:Params→PySem.W.Frag} (hn:l.most=some 63) (hdf:d.params.defaults=[])
  (hY:∀ (w:World) (h:Heap),YP w h→(K w.params).In h)
  (F:∀ (w:World) (mg:Str→Option Value) (fa:Addr) (h:Heap),(K w.params).In h→h.Ns mainGlobals mg→mg d.name=some (.ref fa) →
   ∃ fd:FuncData,(∀ (s:Shared) (u:Value),BindsTo s fd ⟨[u],[]⟩ [("_law_script",u)])∧∀ base:Heap,(K w.params).In base→base.Ns mainGlobals mg→FnOk l.prog w (K w.params) mg base CX0 10 fa fd ["_law_script"] (ZhN (K w.params))) :
  PySem.W.WalkO q loose XP YP l.row.toRowW d [] (fun f vs=>PySem.call f vs) :=
 L2.walk_of (n:=63) (k:=10) (x:="_law_script") (CX:=fun _=>CX0) (sp:=fun w=>ZhN (K w.params)) hn (by decide) hdf ⟨rfl,by decide,by decide⟩ hY F (fun _ _ a ns hl _ hS=>⟨a,ns,rfl,hS,hl,fun _=>rfl⟩) fun _ _ _ _ _ z=>z
end Sh
def PySem.W.Fast.tw3293141732745934231:Unit:=()
def PySem.W.Fast.tw6204725561495421875:Unit:=()
def PySem.W.Fast.tw14212770258293684174:Unit:=()
def PySem.W.Fast.tw5182717868029734299:Unit:=()
def PySem.W.Fast.tw13252007455803552078:Unit:=()
def PySem.W.Fast.tw15039475498695453320:Unit:=()
def PySem.W.Fast.tw7997426876299085188:Unit:=()
def PySem.W.Fast.tw14315488421757127667:Unit:=()
def PySem.W.Fast.tw1956354615739555018:Unit:=()
def PySem.W.Fast.tw18273699838221508672:Unit:=()
def PySem.W.Fast.tw378047171053555046:Unit:=()
def PySem.W.Fast.tw7301072127509138238:Unit:=()
def PySem.W.Fast.tw16644080756288284772:Unit:=()
def PySem.W.Fast.tw11341136158890903335:Unit:=()
def PySem.W.Fast.tw6093437425798095763:Unit:=()
def PySem.W.Fast.tw4087300064461056260:Unit:=()
def PySem.W.Fast.tw2984015837094670895:Unit:=()
def PySem.W.Fast.tw2220879893260607925:Unit:=()
def PySem.W.Fast.tw11990278146977088902:Unit:=()
def PySem.W.Fast.tw16679876005241072867:Unit:=()
def PySem.W.Fast.tw16284830563135480620:Unit:=()
def PySem.W.Fast.tw677398615465445167:Unit:=()
def PySem.W.Fast.tw6418233451463518206:Unit:=()
def PySem.W.Fast.tw4638382735571285558:Unit:=()
def PySem.W.Fast.tw5147786800314971925:Unit:=()
def PySem.W.Fast.tw14650125516944771203:Unit:=()
def PySem.W.Fast.tw8722914530893965710:Unit:=()
def PySem.W.Fast.tw10490198198938105631:Unit:=()
def PySem.W.Fast.tw6229418093647291847:Unit:=()
def PySem.W.Fast.tw3847749538993502493:Unit:=()
def PySem.W.Fast.tw16865875980538235465:Unit:=()
def PySem.W.Fast.tw16121350875682217065:Unit:=()
def PySem.W.Fast.tw3620647147377393396:Unit:=()
def PySem.W.Fast.tw11876270969699111193:Unit:=()
def PySem.W.Fast.tw3660650553066711969:Unit:=()
def PySem.W.Fast.tw1980504265951035751:Unit:=()
def PySem.W.Fast.tw1633089862927948761:Unit:=()
def PySem.W.Fast.tw3785664413696435821:Unit:=()
def PySem.W.Fast.tw12963294148885462911:Unit:=()
def PySem.W.Fast.tw13157248573863297565:Unit:=()
def PySem.W.Fast.tw17092147581104760154:Unit:=()
def PySem.W.Fast.tw10775533631819579619:Unit:=()
def PySem.W.Fast.tw3997751454584207620:Unit:=()
def PySem.W.Fast.tw13403906724394355864:Unit:=()
def PySem.W.Fast.tw5241927397454719895:Unit:=()
def PySem.W.Fast.tw7595190505377040223:Unit:=()
def PySem.W.Fast.tw16647205751239694279:Unit:=()
def PySem.W.Fast.tw5507561440342862338:Unit:=()
def PySem.W.Fast.tw8520442299731501168:Unit:=()
def PySem.W.Fast.tw12040429210835144630:Unit:=()
def PySem.W.Fast.tw8531389941887622448:Unit:=()
def PySem.W.Fast.tw2192124899902184731:Unit:=()
def PySem.W.Fast.tw11244220908844491452:Unit:=()
def PySem.W.Fast.tw12794600175831561352:Unit:=()
def PySem.W.Fast.tw3267022789076619198:Unit:=()
def PySem.W.Fast.tw2784403987975367972:Unit:=()
def PySem.W.Fast.tw17675344716671494429:Unit:=()
def PySem.W.Fast.tw4664757308455280318:Unit:=()
def PySem.W.Fast.tw1032475902352827514:Unit:=()
def PySem.W.Fast.tw3455695408579314410:Unit:=()
def PySem.W.Fast.tw8382938935031769133:Unit:=()
def PySem.W.Fast.tw4986640563615413830:Unit:=()
def PySem.W.Fast.tw18327246622897552874:Unit:=()
def PySem.W.Fast.tw9855494158476425559:Unit:=()
def PySem.W.Fast.tw307230263454781941:Unit:=()
def PySem.W.Fast.tw12186126900563827341:Unit:=()
def PySem.W.Fast.tw9263455163371507937:Unit:=()
def PySem.W.Fast.tw11653799625901213719:Unit:=()
def PySem.W.Fast.tw18416299850183782555:Unit:=()
def PySem.W.Fast.tw14353966231025699665:Unit:=()
def PySem.W.Fast.tw7880499280719558828:Unit:=()
def PySem.W.Fast.tw14698832525422767360:Unit:=()
def PySem.W.Fast.tw18091869614989809407:Unit:=()
def PySem.W.Fast.tw14314534618487003500:Unit:=()
def PySem.W.Fast.tw13573607870835350075:Unit:=()
def PySem.W.Fast.tw15477392578459714822:Unit:=()
def PySem.W.Fast.tw4206973091505683498:Unit:=()
def PySem.W.Fast.tw6862608297898081672:Unit:=()
def PySem.W.Fast.tw11672972751672966898:Unit:=()
def PySem.W.Fast.tw8184182185301239140:Unit:=()
def PySem.W.Fast.tw9434304980483102025:Unit:=()
def PySem.W.Fast.tw14070766828899722197:Unit:=()
def PySem.W.Fast.tw4608923271950435648:Unit:=()
def PySem.W.Fast.tw14720873752500962326:Unit:=()
def PySem.W.Fast.tw8484325371651942212:Unit:=()
def PySem.W.Fast.tw14409369543324324301:Unit:=()
open PySem PySem.W PyProof.Rows
set_option maxRecDepth 100000 in
theorem PySem.Challenge.cw_shredjoin_k34_whole_counts_go_on_holds : PySem.Challenge.rw_shredjoin_k34_whole_counts_go_on.Holds := by
 w_on; o_law; k_head; (case hw => w_witness2)
 k_fill
 refine Sh.walk (l := PySem.Challenge.rw_shredjoin_k34_whole_counts_go_on) rfl rfl (fun w h Y => PySem.W.kIn_of Y) ?F
 case F =>
  intro w mg fa h KX G hmg
  refine' Sh.all_mk KX G hmg ?B ?D0 ?D1 ?D2 ?D3 ?D4 ?D5 ?D6 ?D7 ?D8 ?D9 ?D10 ?D11 ?D12 ?D13 ?D14 ?D15 ?D16 ?D17 ?D18 ?D19 ?D20 ?D21 ?D22 ?D23 ?D24 ?D25 ?D26 ?D27 ?D28 ?D29 ?D30 ?D31 ?D32 ?D33 ?a0 ?l0 ?c0 ?k0
  case B =>
   refine' Sh.blt_mk KX G ?z0 ?z1 ?z2 ?z3 ?z4 ?z5 ?z6 ?z7 ?z8 ?z9 ?z10 ?z11 ?z12 ?z13 ?z14
   (case z0 => k_is); (case z1 => k_is); (case z2 => k_is); (case z3 => k_is); (case z4 => k_is); (case z5 => k_is); (case z6 => k_is); (case z7 => k_is); (case z8 => k_is); (case z9 => k_is); (case z10 => k_is); (case z11 => k_is); (case z12 => k_is); (case z13 => k_is); (case z14 => k_is)
  case D0 =>
   refine' L2.hasDef_mk KX G ?a ?l ?c ?k ?b
   (case a => k_is); (case l => k_is); (case c => k_is); (case k => k_is)
   case b => exact fun _ _ _ _ _ _ us hl => match us, hl with | [_], _ => rfl
  case D1 =>
   refine' L2.hasDef_mk KX G ?a ?l ?c ?k ?b
   (case a => k_is); (case l => k_is); (case c => k_is); (case k => k_is)
   case b => exact fun _ _ _ _ _ _ us hl => match us, hl with | [_], _ => rfl
  case D2 =>
   refine' L2.hasDef_mk KX G ?a ?l ?c ?k ?b
   (case a => k_is); (case l => k_is); (case c => k_is); (case k => k_is)
   case b => exact fun _ _ _ _ _ _ us hl => match us, hl with | [_], _ => rfl
  case D3 =>
   refine' L2.hasDef_mk KX G ?a ?l ?c ?k ?b
   (case a => k_is); (case l => k_is); (case c => k_is); (case k => k_is)
   case b => exact fun _ _ _ _ _ _ us hl => match us, hl with | [_, _], _ => rfl
  case D4 =>
   refine' L2.hasDef_mk KX G ?a ?l ?c ?k ?b
   (case a => k_is); (case l => k_is); (case c => k_is); (case k => k_is)
   case b => exact fun _ _ _ _ _ _ us hl => match us, hl with | [_], _ => rfl
  case D5 =>
   refine' L2.hasDef_mk KX G ?a ?l ?c ?k ?b
   (case a => k_is); (case l => k_is); (case c => k_is); (case k => k_is)
   case b => exact fun _ _ _ _ _ _ us hl => match us, hl with | [_], _ => rfl
  case D6 =>
   refine' L2.hasDef_mk KX G ?a ?l ?c ?k ?b
   (case a => k_is); (case l => k_is); (case c => k_is); (case k => k_is)
   case b => exact fun _ _ _ _ _ _ us hl => match us, hl with | [_], _ => rfl
  case D7 =>
   refine' L2.hasDef_mk KX G ?a ?l ?c ?k ?b
   (case a => k_is); (case l => k_is); (case c => k_is); (case k => k_is)
   case b => exact fun _ _ _ _ _ _ us hl => match us, hl with | [_], _ => rfl
  case D8 =>
   refine' L2.hasDef_mk KX G ?a ?l ?c ?k ?b
   (case a => k_is); (case l => k_is); (case c => k_is); (case k => k_is)
   case b => exact fun _ _ _ _ _ _ us hl => match us, hl with | [_, _, _], _ => rfl
  case D9 =>
   refine' L2.hasDef_mk KX G ?a ?l ?c ?k ?b
   (case a => k_is); (case l => k_is); (case c => k_is); (case k => k_is)
   case b => exact fun _ _ _ _ _ _ us hl => match us, hl with | [_], _ => rfl
  case D10 =>
   refine' L2.hasDef_mk KX G ?a ?l ?c ?k ?b
   (case a => k_is); (case l => k_is); (case c => k_is); (case k => k_is)
   case b => exact fun _ _ _ _ _ _ us hl => match us, hl with | [_], _ => rfl
  case D11 =>
   refine' L2.hasDef_mk KX G ?a ?l ?c ?k ?b
   (case a => k_is); (case l => k_is); (case c => k_is); (case k => k_is)
   case b => exact fun _ _ _ _ _ _ us hl => match us, hl with | [_], _ => rfl
  case D12 =>
   refine' L2.hasDef_mk KX G ?a ?l ?c ?k ?b
   (case a => k_is); (case l => k_is); (case c => k_is); (case k => k_is)
   case b => exact fun _ _ _ _ _ _ us hl => match us, hl with | [_], _ => rfl
  case D13 =>
   refine' L2.hasDef_mk KX G ?a ?l ?c ?k ?b
   (case a => k_is); (case l => k_is); (case c => k_is); (case k => k_is)
   case b => exact fun _ _ _ _ _ _ us hl => match us, hl with | [_], _ => rfl
  case D14 =>
   refine' L2.hasDef_mk KX G ?a ?l ?c ?k ?b
   (case a => k_is); (case l => k_is); (case c => k_is); (case k => k_is)
   case b => exact fun _ _ _ _ _ _ us hl => match us, hl with | [_], _ => rfl
  case D15 =>
   refine' L2.hasDef_mk KX G ?a ?l ?c ?k ?b
   (case a => k_is); (case l => k_is); (case c => k_is); (case k => k_is)
   case b => exact fun _ _ _ _ _ _ us hl => match us, hl with | [_, _], _ => rfl
  case D16 =>
   refine' L2.hasDef_mk KX G ?a ?l ?c ?k ?b
   (case a => k_is); (case l => k_is); (case c => k_is); (case k => k_is)
   case b => exact fun _ _ _ _ _ _ us hl => match us, hl with | [_, _], _ => rfl
  case D17 =>
   refine' L2.hasDef_mk KX G ?a ?l ?c ?k ?b
   (case a => k_is); (case l => k_is); (case c => k_is); (case k => k_is)
   case b => exact fun _ _ _ _ _ _ us hl => match us, hl with | [_, _], _ => rfl
  case D18 =>
   refine' L2.hasDef_mk KX G ?a ?l ?c ?k ?b
   (case a => k_is); (case l => k_is); (case c => k_is); (case k => k_is)
   case b => exact fun _ _ _ _ _ _ us hl => match us, hl with | [_], _ => rfl
  case D19 =>
   refine' L2.hasDef_mk KX G ?a ?l ?c ?k ?b
   (case a => k_is); (case l => k_is); (case c => k_is); (case k => k_is)
   case b => exact fun _ _ _ _ _ _ us hl => match us, hl with | [_, _], _ => rfl
  case D20 =>
   refine' L2.hasDef_mk KX G ?a ?l ?c ?k ?b
   (case a => k_is); (case l => k_is); (case c => k_is); (case k => k_is)
   case b => exact fun _ _ _ _ _ _ us hl => match us, hl with | [_], _ => rfl
  case D21 =>
   refine' L2.hasDef_mk KX G ?a ?l ?c ?k ?b
   (case a => k_is); (case l => k_is); (case c => k_is); (case k => k_is)
   case b => exact fun _ _ _ _ _ _ us hl => match us, hl with | [_, _], _ => rfl
  case D22 =>
   refine' L2.hasDef_mk KX G ?a ?l ?c ?k ?b
   (case a => k_is); (case l => k_is); (case c => k_is); (case k => k_is)
   case b => exact fun _ _ _ _ _ _ us hl => match us, hl with | [_], _ => rfl
  case D23 =>
   refine' L2.hasDef_mk KX G ?a ?l ?c ?k ?b
   (case a => k_is); (case l => k_is); (case c => k_is); (case k => k_is)
   case b => exact fun _ _ _ _ _ _ us hl => match us, hl with | [_, _], _ => rfl
  case D24 =>
   refine' L2.hasDef_mk KX G ?a ?l ?c ?k ?b
   (case a => k_is); (case l => k_is); (case c => k_is); (case k => k_is)
   case b => exact fun _ _ _ _ _ _ us hl => match us, hl with | [_, _], _ => rfl
  case D25 =>
   refine' L2.hasDef_mk KX G ?a ?l ?c ?k ?b
   (case a => k_is); (case l => k_is); (case c => k_is); (case k => k_is)
   case b => exact fun _ _ _ _ _ _ us hl => match us, hl with | [_, _], _ => rfl
  case D26 =>
   refine' L2.hasDef_mk KX G ?a ?l ?c ?k ?b
   (case a => k_is); (case l => k_is); (case c => k_is); (case k => k_is)
   case b => exact fun _ _ _ _ _ _ us hl => match us, hl with | [_, _, _], _ => rfl
  case D27 =>
   refine' L2.hasDef_mk KX G ?a ?l ?c ?k ?b
   (case a => k_is); (case l => k_is); (case c => k_is); (case k => k_is)
   case b => exact fun _ _ _ _ _ _ us hl => match us, hl with | [_, _], _ => rfl
  case D28 =>
   refine' L2.hasDef_mk KX G ?a ?l ?c ?k ?b
   (case a => k_is); (case l => k_is); (case c => k_is); (case k => k_is)
   case b => exact fun _ _ _ _ _ _ us hl => match us, hl with | [_, _], _ => rfl
  case D29 =>
   refine' L2.hasDef_mk KX G ?a ?l ?c ?k ?b
   (case a => k_is); (case l => k_is); (case c => k_is); (case k => k_is)
   case b => exact fun _ _ _ _ _ _ us hl => match us, hl with | [_], _ => rfl
  case D30 =>
   refine' L2.hasDef_mk KX G ?a ?l ?c ?k ?b
   (case a => k_is); (case l => k_is); (case c => k_is); (case k => k_is)
   case b => exact fun _ _ _ _ _ _ us hl => match us, hl with | [_], _ => rfl
  case D31 =>
   refine' L2.hasDef_mk KX G ?a ?l ?c ?k ?b
   (case a => k_is); (case l => k_is); (case c => k_is); (case k => k_is)
   case b => exact fun _ _ _ _ _ _ us hl => match us, hl with | [_], _ => rfl
  case D32 =>
   refine' L2.hasDef_mk KX G ?a ?l ?c ?k ?b
   (case a => k_is); (case l => k_is); (case c => k_is); (case k => k_is)
   case b => exact fun _ _ _ _ _ _ us hl => match us, hl with | [_, _], _ => rfl
  case D33 =>
   refine' L2.hasDef_mk KX G ?a ?l ?c ?k ?b
   (case a => k_is); (case l => k_is); (case c => k_is); (case k => k_is)
   case b => exact fun _ _ _ _ _ _ us hl => match us, hl with | [_, _], _ => rfl
  (case a0 => k_is); (case l0 => k_is); (case c0 => k_is); (case k0 => k_is)
#print axioms PySem.Challenge.cw_shredjoin_k34_whole_counts_go_on_holds
