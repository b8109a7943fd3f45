import PyProof.Rows.All
import Wide.All
import OpenK.AllK
import Wide.FinOn
import Lean
import PyProof.EqAt
import PyProof.EqKinds
import PyProof.TupleCall
import KE.KSortTup
import KE.KItemsList
import KE.KUnpack
import PyProof.EnumMake
import PyProof.EnumFor
import PyProof.EnumStmt
import KE.IntBitsLaws
import KE.KDictSum
import PyProof.SetRoads
import PyProof.Rows.SetFrom
import PyProof.FactsAll.set_1
import PyProof.FactsAll.set_2
import KE.KMinBuiltin
import PyProof.WalkInts
import PyProof.Rows.CallKwBuiltin
import PyProof.DictItemsLoops
import KE.KDictLaws
import KE.KPairComp
import PyProof.Rows.DictUnroll
import PyProof.ZipIter
import KE.KRevIter
import PyProof.ListStr
import PyProof.AttrMissHeap
import KE.KDictOf
import PySem.Challenge.RW_shredjoin_k54_only_counted
set_option maxHeartbeats 0
set_option Elab.async false
set_option linter.all false
set_option maxRecDepth 100000
namespace L2
open PySem PySem.Spec PyProof.Rows
abbrev Key:=Sum Int Str
def J8:Key→Value→Bool
 | .inl k,v=>Value.isInt k v
 | .inr x,v=>Value.isStrOf x v
def ZoK (w:World):Key→Int
 | .inl k=>hashInt k
 | .inr x=>hashStr w x
theorem keyIs_shape:∀ {k:Key} {v:Value},J8 k v=true→(∃ i t,k=Sum.inl i∧v=Value.int i t)∨(∃ x t,k=Sum.inr x∧v=Value.str x t)
 | .inl i,v,h=>by
  obtain ⟨t,e⟩:=Value.isInt_shape (k:=i) (v:=v) h
  exact .inl ⟨i,t,rfl,e⟩
 | .inr x,v,h=>by
  obtain ⟨t,e⟩:=Value.isStrOf_shape (x:=x) (v:=v) h
  exact .inr ⟨x,t,rfl,e⟩
theorem Zhz (i:Int) (t:Tok):J8 (.inl i) (.int i t)=true:=by simp [J8,Value.isInt]
theorem Zhy (x:Str) (t:Tok):J8 (.inr x) (.str x t)=true:=by simp [J8,Value.isStrOf]
theorem ZmY (a b:Int):decide ((Sum.inl a:Key)=Sum.inl b)=(a == b):=by
 by_cases e:a=b
 ·subst e; simp
 ·have h:¬ (Sum.inl a:Key)=Sum.inl b:=fun q=>e (Sum.inl.inj q)
  rw [decide_eq_false h]
  exact (beq_eq_false_iff_ne.mpr e).symm
theorem ZmV (a b:Str):decide ((Sum.inr a:Key)=Sum.inr b)=decide (a=b):=by
 by_cases e:a=b
 ·subst e; simp
 ·have h:¬ (Sum.inr a:Key)=Sum.inr b:=fun q=>e (Sum.inr.inj q)
  rw [decide_eq_false h,decide_eq_false e]
theorem ZmX (a:Int) (b:Str):decide ((Sum.inl a:Key)=Sum.inr b)=false:=decide_eq_false (fun q=>nomatch q)
theorem ZmW (a:Str) (b:Int):decide ((Sum.inr a:Key)=Sum.inl b)=false:=decide_eq_false (fun q=>nomatch q)
def Zn (prog:Program) (w:World):PySem.KeyKind prog w Key where
 is:=J8
 hash:=ZoK w
 inj:=fun v a b ha hb=>by
  rcases keyIs_shape ha with ⟨i,t,rfl,rfl⟩ | ⟨x,t,rfl,rfl⟩
  ·rcases keyIs_shape hb with ⟨j,u,rfl,e⟩ | ⟨y,u,rfl,e⟩
   ·injection e with e1 _; rw [e1]
   ·exact nomatch e
  ·rcases keyIs_shape hb with ⟨j,u,rfl,e⟩ | ⟨y,u,rfl,e⟩
   ·exact nomatch e
   ·injection e with e1 _; rw [e1]
 byValue:=fun k v h=>by
  rcases keyIs_shape h with ⟨i,t,rfl,rfl⟩ | ⟨x,t,rfl,rfl⟩ <;> rfl
 pyHash:=fun hv h=>by
  rcases keyIs_shape hv with ⟨i,t,rfl,rfl⟩ | ⟨x,t,rfl,rfl⟩
  ·exact wpAny_pyHash_int h
  ·exact wpAny_pyHash_str h
 eqBool:=fun hu hv h=>by
  rcases keyIs_shape hu with ⟨i,t,rfl,rfl⟩ | ⟨x,t,rfl,rfl⟩
  ·rcases keyIs_shape hv with ⟨j,u,rfl,rfl⟩ | ⟨y,u,rfl,rfl⟩
   ·rw [ZmY] at h; exact wpAny_eqBool_int h
   ·rw [ZmX] at h; exact SeqAt.EqAt.int_str i t y u _ _ _ _ h
  ·rcases keyIs_shape hv with ⟨j,u,rfl,rfl⟩ | ⟨y,u,rfl,rfl⟩
   ·rw [ZmW] at h; exact SeqAt.EqAt.str_int x t j u _ _ _ _ h
   ·rw [ZmV] at h; exact wpAny_eqBool_str h
 «strs»:=fun k x t v h=>by
  rcases keyIs_shape h with ⟨i,u,rfl,e⟩ | ⟨y,u,rfl,e⟩
  ·exact nomatch e
  ·injection e with e1 _
   subst e1
   cases v <;> rfl
theorem Zdu (prog:Program) (w:World) (i:Int) (t:Tok):(Zn prog w).is (.inl i) (.int i t)=true:=Zhz i t
theorem Xm (prog:Program) (w:World) (x:Str) (t:Tok):(Zn prog w).is (.inr x) (.str x t)=true:=Zhy x t
inductive V where
 | non | bl (b:Bool) | int (i:Int) | str (x:Str) | byt (b:Array UInt8) | flt (b:UInt64) | ref (a:Addr) | ty (n:String)
 deriving DecidableEq
def RelV:V→Value→Prop
 | .non,u=>u=Value.none
 | .bl b,u=>u=Value.bool b
 | .int i,u=>∃ t,u=Value.int i t
 | .str x,u=>∃ t,u=Value.str x t
 | .byt b,u=>∃ t,u=Value.bytes b t
 | .flt b,u=>∃ t,u=Value.float b t
 | .ref a,u=>u=Value.ref a
 | .ty n,u=>u=Value.type n
abbrev Vals:List V→List Value→Prop:=Paired RelV
theorem Vals.length {xs:List V} {us:List Value} (r:Vals xs us):xs.length=us.length:=Paired.length r
theorem Vals.get:∀ {xs:List V} {us:List Value} {i:Nat} {x:V},Vals xs us→xs[i]?=some x→∃ u,us[i]?=some u∧RelV x u
 | _,_,_,_,.nil,e=>by simp at e
 | _,_,0,_,.cons r _,e=>by simp at e; subst e; exact ⟨_,rfl,r⟩
 | _,_,i + 1,x,.cons _ t,e=>by
  obtain ⟨u,h1,h2⟩:=Vals.get (i:=i) (x:=x) t (by simpa using e)
  exact ⟨u,by simpa using h1,h2⟩
theorem Vals.set {x:V} {u:Value} (r:RelV x u):∀ {xs:List V} {us:List Value} (i:Nat),Vals xs us→Vals (xs.set i x) (us.set i u)
 | _,_,_,.nil=>.nil
 | _,_,0,.cons _ t=>.cons r t
 | _,_,i + 1,.cons q t=>.cons q (Vals.set r i t)
theorem Vals.append:∀ {xs ys:List V} {us ws:List Value},Vals xs us→Vals ys ws→Vals (xs ++ ys) (us ++ ws)
 | _,_,_,_,.nil,s=>s
 | _,_,_,_,.cons r t,s=>.cons r (Vals.append t s)
theorem Vals.take:∀ {xs:List V} {us:List Value} (n:Nat),Vals xs us→Vals (xs.take n) (us.take n)
 | _,_,0,_=>.nil
 | _,_,_ + 1,.nil=>.nil
 | _,_,n + 1,.cons r t=>.cons r (Vals.take n t)
theorem Vals.drop:∀ {xs:List V} {us:List Value} (n:Nat),Vals xs us→Vals (xs.drop n) (us.drop n)
 | _,_,0,r=>r
 | _,_,_ + 1,.nil=>.nil
 | _,_,n + 1,.cons _ t=>Vals.drop n t
def RelO:Option V→Option Value→Prop
 | some v,some u=>RelV v u
 | none,none=>True
 | _,_=>False
def KV {κ:Type}:List (κ × V)→List (κ × Value)→Prop:=Paired fun (p:κ × V) (q:κ × Value)=>p.1=q.1∧RelV p.2 q.2
def kV:Key→V
 | .inl i=>.int i
 | .inr x=>.str x
inductive HO where
  | lst (xs:List V)
  | tup (xs:List V)
  | dK (kvs:List (Key × V)) | dT (kvs:List (List Key × V))
  | set (S:Int→Bool) (n:Nat)
  | ins (C dx:Addr) (fs:List (Str × V))
  | own (x:Addr)
  | xd (fs:List (Str × V))
  | met (f x:Addr)
  | rng (lo hi:Int)
  | frz (o:Obj) (u:HO)
  | tbl (ps:Array Value)
  | ext (φ:Heap→Prop)
abbrev Hp:=Addr→Option HO
def upd (H:Hp) (a:Addr) (o:HO):Hp:=fun b=>if b=a then some o else H b
theorem Zc {H:Hp} {a:Addr} {o:HO}:upd H a o a=some o:=by unfold upd; rw [if_pos rfl]
theorem Zi {H:Hp} {a b:Addr} {o:HO} (h:b≠a):upd H a o b=H b:=by unfold upd; rw [if_neg h]
theorem JI {H:Hp} {a:Addr} {o u:HO}:upd (upd H a o) a u=upd H a u:=by
 funext b; unfold upd; split <;> rfl
theorem ZnR {H:Hp} {a b:Addr} {o u:HO} (h:H a=some o) (h':H b=some u) (d:o≠u):a≠b:=by
 intro e; subst e; rw [h] at h'; exact d (Option.some.inj h')
theorem Zj {H:Hp} {a b:Addr} {o:HO} (h:H a=some o) (h':H b=none):a≠b:=by
 intro e; subst e; rw [h] at h'; cases h'
section
variable (P:Program) (w:World)
def NoD (h:Heap) (a:Addr):Prop:=∀ o,h.get? a=some o→o.dict=none
theorem Zex {h:Heap} {o:Obj} (hd:o.dict=none) (hf:o.isFreed=false):NoD (h.push o) h.objs.size:=fun o2 e=>by
 rw [Heap.get?_push_size h hf] at e
 cases e
 exact hd
def ObjOk (H:Hp) (h:Heap) (a:Addr):HO→Prop
 | .lst xs=>xs.length≤sizeLine∧∃ (its:List Value) (n:Nat),Vals xs its∧h.get? a=some { cls:=.type "list",data:=.seq its.toArray n }
 | .tup xs=>xs.length≤sizeLine∧∃ its:List Value,Vals xs its∧IsTup h a its.toArray∧NoD h a
 | .dK kvs=>kvs.length≤sizeLine∧(a == sysModules)=false∧∃ vs,KV kvs vs∧h.DictOf (Zn P w) a vs
 | .dT kvs=>kvs.length≤sizeLine∧(a == sysModules)=false∧∃ xs:List (List Key × Addr × Value),
   Paired (fun (p:List Key × V) (q:List Key × Addr × Value)=>p.1=q.1∧H q.2.1=some (.tup (p.1.map kV))∧RelV p.2 q.2.2) kvs xs ∧
   ∃ o es ep,h.get? a=some o∧o.ExactDict∧o.data = .dict es ep∧es.toList=xs.map (entryOfKey (tupleKind (Zn P w)))∧(xs.map (·.1)).Nodup
 | .set S n=>h.SetOf (intKind P w) a S n
 | .ins C dx fs=>H dx=some (.own a)∧fs.length≤1000∧dx≠a∧h.get? a=some (PySem.W.instObj C dx) ∧
   ∃ mA,h.Ns1 dx mA∧(∀ f,RelO (fs.lookup f) (mA f))∧PySem.Within mA (fs.map (·.1))
 | .own _=>∃ o,h.get? a=some o
 | .xd fs=>∃ mA,h.Ns1 a mA∧∀ f,RelO (fs.lookup f) (mA f)
 | .rng lo hi=>∃ t u v,h.get? a=some { cls:=.type "range",data:=.fields #[.int lo t,.int hi u,.int 1 v] }
 | .frz o u=>h.get? a=some o∧ObjOk H h a u
 | .tbl ps=>h.get? a=some { cls:=.none,data:=.fields ps }
 | .met f x=>h.get? a=some (PySem.W.methodObj (.ref f) (.ref x))
 | .ext φ=>φ h∧(∃ o,h.get? a=some o)∧∀ h1 h2:Heap,φ h1→(∀ o,h1.get? a=some o→h2.get? a=some o)→φ h2
def HOk (H:Hp) (h:Heap):Prop:=∀ a o,H a=some o→ObjOk P w H h a o
end
section
variable {P:Program} {w:World} {H H':Hp} {h h':Heap} {a:Addr} {o:HO}
theorem ObjOk.lt (x:ObjOk P w H h a o):a < h.objs.size:=by
 cases o with
 | lst xs=>obtain ⟨_,_,_,_,e⟩:=x; exact Heap.lt_size e
 | tup xs=>obtain ⟨_,_,_,p,_⟩:=x; exact p.lt
 | dK kvs=>obtain ⟨_,_,_,_,o,_,_,e,_⟩:=x; exact Heap.lt_size e
 | dT kvs=>obtain ⟨_,_,_,_,o,_,_,e,_⟩:=x; exact Heap.lt_size e
 | set S n=>obtain ⟨o,_,_,_,e,_⟩:=x; exact Heap.lt_size e
 | ins C dx fs=>obtain ⟨_,_,_,e,_⟩:=x; exact Heap.lt_size e
 | own y=>obtain ⟨_,e⟩:=x; exact Heap.lt_size e
 | xd fs=>obtain ⟨_,⟨_,_,_,e,_⟩,_⟩:=x; exact Heap.lt_size e
 | rng lo hi=>obtain ⟨_,_,_,e⟩:=x; exact Heap.lt_size e
 | frz ob u=>obtain ⟨e,_⟩:=x; exact Heap.lt_size e
 | tbl ps=>exact Heap.lt_size (show h.get? a=some _ from x)
 | met f y=>exact Heap.lt_size (show h.get? a=some _ from x)
 | ext φ=>obtain ⟨_,⟨_,e⟩,_⟩:=x; exact Heap.lt_size e
theorem Paired.mapP {α β:Type} {F G:α→β→Prop}:∀ {l₁:List α} {l₂:List β},Paired F l₁ l₂→(∀ a b,F a b→G a b)→Paired G l₁ l₂
 | _,_,.nil,_=>.nil
 | _,_,.cons r t,f=>.cons (f _ _ r) (Paired.mapP t f)
theorem ObjOk.stay (x:ObjOk P w H h a o) (k:∀ b u,(b=a∨H b=some (.own a))→h.get? b=some u→h'.get? b=some u)
  (ho:∀ b,H b=some (.own a)→H' b=some (.own a)) (ht:∀ b xs,H b=some (.tup xs)→H' b=some (.tup xs)):ObjOk P w H' h' a o:=by
 induction o with
 | lst xs=>obtain ⟨z,its,n,r,e⟩:=x; exact ⟨z,its,n,r,k _ _ (.inl rfl) e⟩
 | tup xs =>
  obtain ⟨z,its,r,⟨ob,e,c⟩,nd⟩:=x
  exact ⟨z,its,r,⟨ob,k _ _ (.inl rfl) e,c⟩,fun o2 e2=>by
   rw [k _ _ (.inl rfl) e] at e2
   cases e2
   exact nd _ e⟩
 | dK kvs=>obtain ⟨z,y,vs,r,ob,es,ep,e,c⟩:=x; exact ⟨z,y,vs,r,ob,es,ep,k _ _ (.inl rfl) e,c⟩
 | dT kvs =>
  obtain ⟨z,y,xs,r,ob,es,ep,e,c⟩:=x
  exact ⟨z,y,xs,Paired.mapP r fun p q z=>⟨z.1,ht _ _ z.2.1,z.2.2⟩,ob,es,ep,k _ _ (.inl rfl) e,c⟩
 | set S n=>obtain ⟨ob,es,ep,t,e,c⟩:=x; exact ⟨ob,es,ep,t,k _ _ (.inl rfl) e,c⟩
 | ins C dx fs =>
  obtain ⟨d,z,ne,e,mA,⟨od,es,ep,e2,c⟩,r⟩:=x
  exact ⟨ho _ d,z,ne,k _ _ (.inl rfl) e,mA,⟨od,es,ep,k _ _ (.inr d) e2,c⟩,r⟩
 | own y=>obtain ⟨ob,e⟩:=x; exact ⟨ob,k _ _ (.inl rfl) e⟩
 | xd fs=>obtain ⟨mA,⟨od,es,ep,e,c⟩,r⟩:=x; exact ⟨mA,⟨od,es,ep,k _ _ (.inl rfl) e,c⟩,r⟩
 | rng lo hi=>obtain ⟨t,u,v,e⟩:=x; exact ⟨t,u,v,k _ _ (.inl rfl) e⟩
 | frz ob u ih=>obtain ⟨e,q⟩:=x; exact ⟨k _ _ (.inl rfl) e,ih q⟩
 | tbl ps =>
  have e:h.get? a=some { cls:=.none,data:=.fields ps }:=x
  show h'.get? a=some { cls:=.none,data:=.fields ps }
  exact k a _ (.inl rfl) e
 | met f y =>
  have e:h.get? a=some (PySem.W.methodObj (.ref f) (.ref y)):=x
  show h'.get? a=some (PySem.W.methodObj (.ref f) (.ref y))
  exact k a _ (.inl rfl) e
 | ext φ=>obtain ⟨p,⟨o,e⟩,st⟩:=x; exact ⟨st _ _ p fun o q=>k _ _ (.inl rfl) q,⟨o,k _ _ (.inl rfl) e⟩,st⟩
theorem HOk.lt (x:HOk P w H h) (e:H a=some o):a < h.objs.size:=(x a o e).lt
theorem HOk.fresh (x:HOk P w H h) (e:h.objs.size≤a):H a=none:=by
 cases q:H a with
 | none=>rfl
 | some u=>exact absurd (Nat.lt_of_lt_of_le (x.lt q) e) (Nat.lt_irrefl _)
theorem HOk.kept (x:HOk P w H h) (k:∀ b u,h.get? b=some u→h'.get? b=some u):HOk P w H h':=fun a o e =>
 (x a o e).stay (fun b u _ q=>k b u q) (fun _ q=>q) fun _ _ q=>q
theorem HOk.laid (x:HOk P w H h) (k:∀ b u,h.get? b=some u→h'.get? b=some u) (hp:h.objs.size≤a) (new:ObjOk P w (upd H a o) h' a o):HOk P w (upd H a o) h':=fun b u e=>by
 have hn:=x.fresh hp
 by_cases hb:b=a
 ·subst hb; rw [Zc] at e; cases e; exact new
 ·rw [Zi hb] at e
  exact (x b u e).stay (fun c v _ q=>k c v q) (fun c q=>by rw [Zi (Zj q hn)]; exact q) fun c xs q=>by rw [Zi (Zj q hn)]; exact q
end
def Rd (H:Hp) (a:Addr) (u:HO):Prop:=H a=some u∨∃ o,H a=some (.frz o u)
theorem Rd.of {H:Hp} {a:Addr} {u:HO} (h:H a=some u):Rd H a u:=.inl h
theorem Rd.ok {P:Program} {w:World} {H:Hp} {h:Heap} {a:Addr} {u:HO} (r:Rd H a u) (x:HOk P w H h):ObjOk P w H h a u:=by
 rcases r with r | ⟨o,r⟩
 ·exact x a u r
 ·obtain ⟨_,q⟩:=x a _ r
  exact q
def Mut:Option HO→Prop
 | some (.lst _)=>True
 | some (.dK _)=>True
 | some (.dT _)=>True
 | some (.set _ _)=>True
 | some (.ins _ _ _)=>True
 | some (.ext _)=>True
 | _=>False
section
variable {P:Program} {w:World} {H:Hp} {h h':Heap} {x e:Addr} {o':HO}
theorem HOk.write (ok:HOk P w H h) (mu:Mut (H x)) (he:e=x∨H e=some (.own x)) (k:∀ b u,b≠e→h.get? b=some u→h'.get? b=some u) (heo:∃ u,h'.get? e=some u)
  (new:ObjOk P w (upd H x o') h' x o'):HOk P w (upd H x o') h':=fun b u q=>by
 have nown:∀ c y,H c=some (.own y)→c≠x:=fun c y r z=>by subst z; rw [r] at mu; exact mu
 have ntup:∀ c xs,H c=some (.tup xs)→c≠x:=fun c xs r z=>by subst z; rw [r] at mu; exact mu
 by_cases hb:b=x
 ·subst hb; rw [Zc] at q; cases q; exact new
 ·rw [Zi hb] at q
  by_cases hbe:b=e
  ·have q':H b=some (.own x):=by
    rcases he with z | z
    ·exact absurd (hbe.trans z) hb
    ·rw [hbe]; exact z
   rw [q] at q'; cases q'
   obtain ⟨v,hv⟩:=heo
   exact ⟨v,by rw [hbe]; exact hv⟩
  ·refine (ok b u q).stay (fun c v hc r=>k c v ?_ r) (fun c r=>by rw [Zi (nown c b r)]; exact r) fun c xs r=>by rw [Zi (ntup c xs r)]; exact r
   rcases hc with rfl | hc
   ·exact hbe
   ·rintro rfl
    rcases he with z | z
    ·exact nown c b hc z
    ·rw [hc] at z; cases z; exact hb rfl
end
structure Un (fs ex:List Addr) (H H':Hp) (h h':Heap):Prop where
 keep:∀ b o,h.get? b=some o→H b=none→b∉fs→b∉ex→h'.get? b=some o
 slot:∀ b o,h.get? b=some o→H b=none→b∈fs→b∉ex→∃ sl,h'.get? b=some { o with slots:=sl }
 free:∀ b o,h.get? b=some o→H b=none→b∉ex→H' b=none
 there:∀ b o,h.get? b=some o→b∉ex→∃ o',h'.get? b=some o'
 tups:∀ b xs,H b=some (.tup xs)→H' b=some (.tup xs)
 frzs:∀ b o u,H b=some (.frz o u)→H' b=some (.frz o u)
 tbls:∀ b ps,H b=some (.tbl ps)→∃ more,H' b=some (.tbl (ps ++ more))
section
variable {fs fs' ex ex':List Addr} {H H1 H2:Hp} {h h1 h2 h':Heap} {a x e:Addr} {o:HO}
theorem Un.any (u:Un fs ex H H1 h h1) {b:Addr} {ob:Obj} (q:h.get? b=some ob) (n:H b=none) (hx:b∉ex):∃ sl,h1.get? b=some { ob with slots:=sl }:=by
 by_cases hb:b∈fs
 ·exact u.slot b ob q n hb hx
 ·exact ⟨ob.slots,u.keep b ob q n hb hx⟩
theorem Un.trans (a:Un fs ex H H1 h h1) (b:Un fs ex H1 H2 h1 h2):Un fs ex H H2 h h2 where
 keep:=fun c ob q n hc hx=>b.keep c ob (a.keep c ob q n hc hx) (a.free c ob q n hx) hc hx
 slot:=fun c ob q n hc hx=>by
  obtain ⟨sl,e1⟩:=a.slot c ob q n hc hx
  obtain ⟨sl',e2⟩:=b.slot c _ e1 (a.free c ob q n hx) hc hx
  exact ⟨sl',e2⟩
 free:=fun c ob q n hx=>by
  obtain ⟨o',e1⟩:=a.there c ob q hx
  exact b.free c o' e1 (a.free c ob q n hx) hx
 there:=fun c ob q hx=>by
  obtain ⟨o',e1⟩:=a.there c ob q hx
  exact b.there c o' e1 hx
 tups:=fun c xs q=>b.tups c xs (a.tups c xs q)
 frzs:=fun c ob xs q=>b.frzs c ob xs (a.frzs c ob xs q)
 tbls:=fun c ps q=>by
  obtain ⟨m1,e1⟩:=a.tbls c ps q
  obtain ⟨m2,e2⟩:=b.tbls c _ e1
  exact ⟨m1 ++ m2,by rw [e2,Array.append_assoc]⟩
theorem Un.kept (k:∀ b u,h.get? b=some u→h'.get? b=some u):Un fs ex H H h h' :=
 ⟨fun b ob q _ _ _=>k b ob q,fun b ob q _ _ _=>⟨ob.slots,k b ob q⟩,fun _ _ _ n _=>n,fun b ob q _=>⟨ob,k b ob q⟩,fun _ _ q=>q,fun _ _ _ q=>q,fun _ ps q=>⟨#[],by rw [q]; simp⟩⟩
theorem Un.refl:Un fs ex H H h h:=Un.kept fun _ _ q=>q
theorem Un.laid (k:∀ b u,h.get? b=some u→h'.get? b=some u) (hp:h.objs.size≤a) (hn:H a=none):Un fs ex H (upd H a o) h h' where
 keep:=fun b u q _ _ _=>k b u q
 slot:=fun b u q _ _ _=>⟨u.slots,k b u q⟩
 free:=fun b u q n _=>by rw [Zi (Nat.ne_of_lt (Nat.lt_of_lt_of_le (Heap.lt_size q) hp))]; exact n
 there:=fun b u q _=>⟨u,k b u q⟩
 tups:=fun b xs q=>by rw [Zi (Zj q hn)]; exact q
 frzs:=fun b u xs q=>by rw [Zi (Zj q hn)]; exact q
 tbls:=fun b ps q=>⟨#[],by rw [Zi (Zj q hn),q]; simp⟩
theorem Un.write (mu:Mut (H x)) (he:e=x∨H e=some (.own x)) (k:∀ b u,b≠e→h.get? b=some u→h'.get? b=some u) (heo:∃ u,h'.get? e=some u):Un fs ex H (upd H x o) h h':=by
 have hx:∀ b,H b=none→b≠x:=fun b n z=>by subst z; rw [n] at mu; exact mu
 have hb:∀ b,H b=none→b≠e:=fun b n z=>by
  subst z
  rcases he with r | r
  ·exact hx b n r
  ·rw [n] at r; cases r
 have hm:∀ b u,H b=some u→¬ Mut (some u)→b≠x:=fun b u q nm z=>by subst z; rw [q] at mu; exact nm mu
 refine ⟨fun b u q n _ _=>k b u (hb b n) q,fun b u q n _ _=>⟨u.slots,k b u (hb b n) q⟩,fun b u q n _=>by rw [Zi (hx b n)]; exact n,fun b u q _=>?_,
  fun b xs q=>by rw [Zi (hm b _ q fun z=>z)]; exact q,fun b u xs q=>by rw [Zi (hm b _ q fun z=>z)]; exact q,fun b ps q=>⟨#[],by rw [Zi (hm b _ q fun z=>z),q]; simp⟩⟩
 by_cases hbe:b=e
 ·subst hbe; exact heo
 ·exact ⟨u,k b u hbe q⟩
theorem Un.mono (u:Un fs ex H H1 h h1) (hs:∀ b∈fs,b∈fs') (hx:∀ b∈ex,b∈ex'):Un fs' ex' H H1 h h1 :=
 ⟨fun b ob q n hb he=>u.keep b ob q n (fun z=>hb (hs b z)) fun z=>he (hx b z),fun _ _ q n _ he=>u.any q n fun z=>he (hx _ z),fun b ob q n he=>u.free b ob q n fun z=>he (hx b z),fun b ob q he=>u.there b ob q fun z=>he (hx b z),u.tups,u.frzs,u.tbls⟩
end
def trk (h:Heap) (H:Hp):List Addr:=(List.range h.objs.size).filter fun a=>(H a).isSome
def Zjl (h:Heap) (H:Hp):Heap:=PySem.W.hideAll h (trk h H)
theorem ZhF (h:Heap) (H:Hp):(Zjl h H).objs.size=h.objs.size:=PySem.W.hideAll_size _ _
theorem Zjk {h:Heap} {H:Hp} {b:Addr} {o:Obj} (e:h.get? b=some o) (n:H b=none):(Zjl h H).get? b=some o :=
 PySem.W.hideAll_get _ e fun hm=>by
  have q:(H b).isSome=true:=(List.mem_filter.mp hm).2
  rw [n] at q; simp at q
theorem Zln {h:Heap} {H:Hp} {b:Addr} {o:Obj} (e:(Zjl h H).get? b=some o):h.get? b=some o∧H b=none:=by
 have e':h.get? b=some o:=PySem.W.of_hideAll (trk h H) e
 refine ⟨e',?_⟩
 cases q:H b with
 | none=>rfl
 | some x =>
  have hm:b∈trk h H:=List.mem_filter.mpr ⟨List.mem_range.mpr (Heap.lt_size e'),by simp [q]⟩
  have z:(Zjl h H).get? b=none:=PySem.W.hideAll_none (trk h H) hm
  rw [z] at e; cases e
def ZlW (g h:Heap) (L:Addr):List (Addr × Obj):=(List.range h.objs.size).filterMap fun a=>if a=L∨(g.get? a).isSome=true then none else (h.get? a).map fun o=>(a,o)
def rest (g h:Heap) (L d:Addr):List (Addr × Obj):=(ZlW g h L).filter fun p=>decide (p.1≠d)
structure Mod (K:PySem.W.Frag) (mg:Str→Option Value) (base:Heap):Prop where
 kin:K.In base
 glob:base.Ns mainGlobals mg
 blt:∃ mb,base.Ns builtinsNs mb∧∀ x:Str,x≠"__name__"→mb x=bootBuiltins x
 nolimit:base.NoLimit
structure Cx where
 prog:Program
 w:World
 K:PySem.W.Frag
 mg:Str→Option Value
 base:Heap
 A:Around
 N:List Str
 s₀:Shared
 H₀:Hp
 env:Env
 outer:List Env
 stack:List Env
 ex:List Addr
 fn:Str→Bool
 calm:Bool
 pn:List (Addr × Obj)
 xe:Value→Shared→Prop
def frs (l:List Env):List Addr:=l.filterMap (·.frame)
abbrev Cx.fs (X:Cx):List Addr:=frs X.outer
def Vis (sc:Scope) (x:Str):Prop:=sc.names.lookup x=some .local∨sc.names.lookup x=some .cell∨sc.names.lookup x=some .free
def Loc (sc:Scope) (x:Str):Prop:=sc.names.lookup x=some .local∨sc.names.lookup x=some .cell
def ZoT (env:Env) (h:Heap) (m:Str→Option Value) (x:Str) (u:Value):Prop :=
 (env.kindOf x=some .local∧m x=some u)∨((env.kindOf x=some .cell∨env.kindOf x=some .free)∧∃ c,env.cells.lookup x=some c∧h.IsCell c (some u))
structure Cx.Ok (X:Cx):Prop where
 mod:Mod X.K X.mg X.base
 kind:X.env.scope.kind = .function
 glob:X.env.globals=mainGlobals
 blt:X.env.builtins=builtinsNs
 above:X.s₀.heap.objs.size≤X.env.locals
 inj:∀ x y c,X.env.cells.lookup x=some c→X.env.cells.lookup y=some c→x=y
 has:∀ x,(X.env.kindOf x=some .cell∨X.env.kindOf x=some .free)→∃ c,X.env.cells.lookup x=some c
 cab:∀ x c,X.fn x=true→X.env.cells.lookup x=some c→X.s₀.heap.objs.size≤c
 hd:X.calm=true→X.A.handled=none
 frames:X.A.frames=some X.stack
 stk:X.stack=X.outer∨(X.stack=X.env :: X.outer∧X.env.frame=some X.env.locals)
 exf:∀ b∈X.ex,b≠X.env.locals∧∀ x c,X.env.cells.lookup x=some c→c≠b
 bs:∀ b o,X.base.get? b=some o→X.s₀.heap.get? b=some o∧X.H₀ b=none
 bsz:X.base.objs.size≤X.s₀.heap.objs.size
 noex:∀ b o,X.base.get? b=some o→b∉X.ex
 exfs:∀ b∈X.ex,b∉X.fs
 funs:X.s₀.heap.FunFrames X.base X.outer
 frf:∀ b∈X.fs,X.H₀ b=none
structure Inv (X:Cx) (pins:List (Addr × Obj)) (σ:List (Option V)) (H:Hp) (s:Shared):Prop where
 ok:X.Ok
 os:s.os=X.s₀.os
 bare:AllBare s.gens
 base:Un X.fs X.ex X.H₀ H X.s₀.heap s.heap
 loc:∃ m,s.heap.Ns X.env.locals m∧∀ (i:Nat) (x:Str) (v:V),X.N[i]?=some x→σ[i]?=some (some v)→Vis X.env.scope x→∃ u,RelV v u∧ZoT X.env s.heap m x u
 cell:∀ x c,X.env.cells.lookup x=some c→∃ v,s.heap.IsCell c v
 free:H X.env.locals=none
 freeC:∀ x c,X.env.cells.lookup x=some c→H c=none
 pin:∀ p∈X.pn ++ pins,s.heap.get? p.1=some p.2∧H p.1=none∧p.1≠X.env.locals∧p.1∉X.fs∧∀ v,p.2.data≠.cell v
 hok:HOk X.prog X.w H s.heap
 len:σ.length=X.N.length
section
variable {X:Cx} {pins:List (Addr × Obj)} {σ:List (Option V)} {H H':Hp} {s:Shared} {h':Heap}
theorem Cx.Ok.nofr (ok:X.Ok) {b:Addr} {o:Obj} (e:X.base.get? b=some o):b∉X.fs:=fun hb=>by
 have:=(ok.funs.mem hb).1
 rw [e] at this; cases this
theorem Inv.bs (I:Inv X pins σ H s):∀ b o,X.base.get? b=some o→s.heap.get? b=some o∧H b=none:=fun b o e =>
 ⟨I.base.keep b o (I.ok.bs b o e).1 (I.ok.bs b o e).2 (I.ok.nofr e) (I.ok.noex b o e),I.base.free b o (I.ok.bs b o e).1 (I.ok.bs b o e).2 (I.ok.noex b o e)⟩
theorem Inv.bk (I:Inv X pins σ H s):∀ b o,X.base.get? b=some o→s.heap.get? b=some o:=fun b o e=>(I.bs b o e).1
theorem Inv.mod (I:Inv X pins σ H s):Mod X.K X.mg X.base:=I.ok.mod
theorem Inv.kIn (I:Inv X pins σ H s):X.K.In s.heap:=I.ok.mod.kin.keeps I.bk
theorem Inv.nolimit (I:Inv X pins σ H s):s.heap.NoLimit:=I.ok.mod.nolimit.keeps I.bk
theorem Inv.lt (I:Inv X pins σ H s):X.env.locals < s.heap.objs.size:=let ⟨_,hn,_⟩:=I.loc; hn.lt
theorem Inv.sz (I:Inv X pins σ H s):X.s₀.heap.objs.size≤s.heap.objs.size:=Nat.le_trans I.ok.above (Nat.le_of_lt I.lt)
theorem Inv.nofs (I:Inv X pins σ H s) {a:Addr} (h:s.heap.objs.size≤a):a∉X.fs:=fun hb=>by
 obtain ⟨_,o,ho,_⟩:=I.ok.funs.mem hb
 exact absurd (Nat.lt_of_lt_of_le (Heap.lt_size ho) (Nat.le_trans I.sz h)) (Nat.lt_irrefl _)
theorem Inv.cne (I:Inv X pins σ H s):∀ x c,X.env.cells.lookup x=some c→c≠X.env.locals:=fun x c e z=>by
 obtain ⟨v,o,ho,hd⟩:=I.cell x c e
 obtain ⟨m,⟨o',es,ep,ho',hd',_⟩,_⟩:=I.loc
 rw [z,ho'] at ho; cases ho; rw [hd'] at hd; cases hd
theorem Inv.funs (I:Inv X pins σ H s):s.heap.FunFrames X.base X.outer:=by
 have all:∀ (l:List Env),(∀ b∈frs l,b∈X.fs)→X.s₀.heap.FunFrames X.base l→s.heap.FunFrames X.base l:=by
  intro l
  induction l with
  | nil=>intro _ _; trivial
  | cons env r ih =>
   intro hs hl
   obtain ⟨hk,⟨L,o,hf,hn,ho,hd⟩,hr⟩:=hl
   have hL:L∈X.fs:=hs L (by unfold frs; rw [List.filterMap_cons,hf]; exact List.mem_cons_self)
   obtain ⟨sl,e⟩:=I.base.slot L o ho (I.ok.frf L hL) hL fun z=>I.ok.exfs L z hL
   exact ⟨hk,⟨L,_,hf,hn,e,hd⟩,ih (fun b hb=>hs b (by unfold frs; rw [List.filterMap_cons,hf]; exact List.mem_cons_of_mem _ hb)) hr⟩
 exact all X.outer (fun _ hb=>hb) I.ok.funs
theorem Inv.stack (I:Inv X pins σ H s):s.heap.FunFrames X.base X.stack:=by
 rcases I.ok.stk with e | ⟨e,hf⟩
 ·rw [e]; exact I.funs
 ·rw [e]
  obtain ⟨m,hn,_⟩:=I.loc
  refine .cons (by rw [I.ok.kind]; decide) hf hn ?_ I.funs
  exact Heap.get?_none_of_le (Nat.le_trans I.ok.bsz I.ok.above)
theorem Inv.stkSub (I:Inv X pins σ H s):∀ b∈frs X.stack,b∈X.env.locals :: X.fs:=fun b hb=>by
 rcases I.ok.stk with e | ⟨e,hf⟩
 ·rw [e] at hb; exact List.mem_cons_of_mem _ hb
 ·rw [e] at hb
  unfold frs at hb
  rw [List.filterMap_cons,hf] at hb
  exact hb
theorem Inv.stkFree (I:Inv X pins σ H s):∀ b∈frs X.stack,H b=none:=fun b hb=>by
 rcases List.mem_cons.mp (I.stkSub b hb) with e | hb
 ·rw [e]; exact I.free
 ·obtain ⟨_,o,ho,_⟩:=I.ok.funs.mem hb
  exact I.base.free b o ho (I.ok.frf b hb) fun z=>I.ok.exfs b z hb
theorem Inv.step {g':Array GenState} {t':Nat} {d':Drawn} {ch:List Addr} (I:Inv X pins σ H s)
  (hch:∀ b∈ch,(b∈X.ex∨X.s₀.heap.objs.size≤b)∧b≠X.env.locals∧(∀ x c,X.env.cells.lookup x=some c→c≠b)∧∀ p∈X.pn ++ pins,p.1≠b)
  (keep:∀ b o,b≠X.env.locals→b∉X.fs→b∉ch→s.heap.get? b=some o→H b=none→h'.get? b=some o)
  (slot:∀ b o,b≠X.env.locals→b∈X.fs→b∉ch→s.heap.get? b=some o→H b=none→∃ sl,h'.get? b=some { o with slots:=sl }) (free:∀ b o,b∉ch→s.heap.get? b=some o→H b=none→H' b=none)
  (there:∀ b o,b∉ch→s.heap.get? b=some o→∃ o',h'.get? b=some o')
  (tups:∀ b xs,H b=some (.tup xs)→H' b=some (.tup xs)) (frzs:∀ b o u,H b=some (.frz o u)→H' b=some (.frz o u)) (tbls:∀ b ps,H b=some (.tbl ps)→∃ more,H' b=some (.tbl (ps ++ more)))
  (ns:∀ m,s.heap.Ns X.env.locals m→h'.Ns X.env.locals m) (hok:HOk X.prog X.w H' h') (hg:AllBare g') :
  Inv X pins σ H' { s with heap:=h',gens:=g',drawn:=d',toks:=t' }:=by
 have neL:∀ b o,X.s₀.heap.get? b=some o→b≠X.env.locals:=fun b o e=>Nat.ne_of_lt (Nat.lt_of_lt_of_le (Heap.lt_size e) I.ok.above)
 have neC:∀ b o,X.s₀.heap.get? b=some o→b∉X.ex→b∉ch:=fun b o e hx hb=>by
  rcases (hch b hb).1 with z | z
  ·exact hx z
  ·exact absurd (Nat.lt_of_lt_of_le (Heap.lt_size e) z) (Nat.lt_irrefl _)
 have cellK:∀ x c,X.env.cells.lookup x=some c→∀ v,s.heap.IsCell c v→h'.IsCell c v:=fun x c e v ⟨o,ho,hd⟩=>by
  have nch:c∉ch:=fun z=>(hch c z).2.2.1 x c e rfl
  by_cases hc:c∈X.fs
  ·obtain ⟨sl,q⟩:=slot c o (I.cne x c e) hc nch ho (I.freeC x c e)
   exact ⟨_,q,hd⟩
  ·exact ⟨o,keep c o (I.cne x c e) hc nch ho (I.freeC x c e),hd⟩
 refine ⟨I.ok,I.os,hg,⟨fun b o e n hb hx=>?_,fun b o e n hb hx=>?_,fun b o e n hx=>?_,fun b o e hx=>?_,fun b xs e=>tups b xs (I.base.tups b xs e),fun b o xs e=>frzs b o xs (I.base.frzs b o xs e),fun b ps e=>?_⟩,?_,fun x c e=>?_,?_,fun x c e=>?_,fun p hp=>?_,hok,I.len⟩
 ·exact keep b o (neL b o e) hb (neC b o e hx) (I.base.keep b o e n hb hx) (I.base.free b o e n hx)
 ·obtain ⟨sl,e1⟩:=I.base.slot b o e n hb hx
  obtain ⟨sl',e2⟩:=slot b _ (neL b o e) hb (neC b o e hx) e1 (I.base.free b o e n hx)
  exact ⟨sl',e2⟩
 ·obtain ⟨o',e1⟩:=I.base.there b o e hx
  exact free b o' (neC b o e hx) e1 (I.base.free b o e n hx)
 ·obtain ⟨o',e1⟩:=I.base.there b o e hx
  exact there b o' (neC b o e hx) e1
 ·obtain ⟨m1,e1⟩:=I.base.tbls b ps e
  obtain ⟨m2,e2⟩:=tbls b _ e1
  exact ⟨m1 ++ m2,by rw [e2,Array.append_assoc]⟩
 ·obtain ⟨m,hn,hl⟩:=I.loc
  refine ⟨m,ns m hn,fun i x v e1 e2 e3=>?_⟩
  obtain ⟨u,r,l⟩:=hl i x v e1 e2 e3
  refine ⟨u,r,?_⟩
  rcases l with l | ⟨k,c,e,z⟩
  ·exact .inl l
  ·exact .inr ⟨k,c,e,cellK x c e _ z⟩
 ·obtain ⟨v,z⟩:=I.cell x c e
  exact ⟨v,cellK x c e v z⟩
 ·obtain ⟨m,⟨o,_,_,ho,_⟩,_⟩:=I.loc
  exact free _ o (fun z=>(hch _ z).2.1 rfl) ho I.free
 ·obtain ⟨v,o,ho,hd⟩:=I.cell x c e
  exact free c o (fun z=>(hch c z).2.2.1 x c e rfl) ho (I.freeC x c e)
 ·obtain ⟨e,n,ne,nf,d⟩:=I.pin p hp
  have nch:p.1∉ch:=fun z=>(hch p.1 z).2.2.2 p hp rfl
  exact ⟨keep p.1 p.2 ne nf nch e n,free p.1 p.2 nch e n,ne,nf,d⟩
theorem Inv.un {t':Nat} (I:Inv X pins σ H s) (u:Un X.fs [] H H' s.heap h') (hok:HOk X.prog X.w H' h'):Inv X pins σ H' { s with heap:=h',toks:=t' }:=by
 obtain ⟨m,⟨o,es,ep,ho,r⟩,_⟩:=id I.loc
 obtain ⟨sl,hL⟩:=u.any ho I.free (by simp)
 exact I.step (g':=s.gens) (d':=s.drawn) (ch:=[]) (fun _ z=>nomatch z) (fun b o _ hb _ e n=>u.keep b o e n hb (by simp)) (fun b o _ hb _ e n=>u.slot b o e n hb (by simp)) (fun b o _ e n=>u.free b o e n (by simp)) (fun b o _ e=>u.there b o e (by simp)) u.tups u.frzs u.tbls (fun m' hm=>by
  obtain ⟨o',es',ep',ho',r'⟩:=hm
  rw [ho] at ho'; cases ho'
  exact ⟨_,es',ep',hL,r'⟩) hok I.bare
theorem Inv.call {g':Array GenState} {t':Nat} {d':Drawn} {ch:List Addr} (I:Inv X pins σ H s) (u:Un (frs X.stack) ch H H' s.heap h') (hok:HOk X.prog X.w H' h') (hg:AllBare g')
  (hch:∀ b∈ch,(b∈X.ex∨X.s₀.heap.objs.size≤b)∧b≠X.env.locals∧(∀ x c,X.env.cells.lookup x=some c→c≠b)∧∀ p∈X.pn ++ pins,p.1≠b) :
  Inv X pins σ H' { s with heap:=h',gens:=g',drawn:=d',toks:=t' }:=by
 obtain ⟨m,⟨o,es,ep,ho,r⟩,_⟩:=id I.loc
 obtain ⟨sl,hL⟩:=u.any ho I.free fun z=>(hch _ z).2.1 rfl
 exact I.step (ch:=ch) hch (fun b o hL hb hc e n=>u.keep b o e n (fun z=>(List.mem_cons.mp (I.stkSub b z)).elim hL hb) hc) (fun b o _ _ hc e n=>u.any e n hc) (fun b o hc e n=>u.free b o e n hc) (fun b o hc e=>u.there b o e hc) u.tups u.frzs u.tbls (fun m' hm=>by
  obtain ⟨o',es',ep',ho',r'⟩:=hm
  rw [ho] at ho'; cases ho'
  exact ⟨_,es',ep',hL,r'⟩) hok hg
theorem Inv.turned {t':Nat} {it:Addr} (I:Inv X pins σ H s) (k:∀ b o,b≠it→s.heap.get? b=some o→h'.get? b=some o) (hn:H it=none) (hL:it≠X.env.locals)
  (h1:it∈X.ex∨X.s₀.heap.objs.size≤it) (h2:∀ x c,X.env.cells.lookup x=some c→c≠it) (h3:∀ p∈X.pn ++ pins,p.1≠it):Inv X pins σ H { s with heap:=h',toks:=t' }:=by
 have nit:∀ b u,H b=some u→b≠it:=fun b u e z=>by rw [z,hn] at e; cases e
 refine I.step (g':=s.gens) (d':=s.drawn) (ch:=[it]) (fun b hb=>?_) (fun b o _ _ hc e _=>k b o (fun z=>hc (by simp [z])) e) (fun b o _ _ hc e _=>⟨o.slots,k b o (fun z=>hc (by simp [z])) e⟩) (fun _ _ _ _ n=>n)
  (fun b o hc e=>⟨o,k b o (fun z=>hc (by simp [z])) e⟩) (fun _ _ e=>e) (fun _ _ _ e=>e) (fun b ps e=>⟨#[],by rw [e]; simp⟩) (fun m hm=>?_) (fun b u e=>?_) I.bare
 ·have e:b=it:=by simpa using hb
  subst e
  exact ⟨h1,hL,h2,h3⟩
 ·obtain ⟨o,es,ep,ho,r⟩:=hm
  exact ⟨o,es,ep,k _ o (Ne.symm hL) ho,r⟩
 ·refine (I.hok b u e).stay (fun c v hc q=>k c v ?_ q) (fun _ q=>q) fun _ _ q=>q
  rcases hc with z | z
  ·rw [z]; exact nit b u e
  ·exact nit c _ z
theorem Inv.tok (I:Inv X pins σ H s) (t:Nat):Inv X pins σ H { s with toks:=t }:=I.un (h':=s.heap) (t':=t) Un.refl I.hok
theorem Inv.kept {t':Nat} (I:Inv X pins σ H s) (k:∀ b u,s.heap.get? b=some u→h'.get? b=some u):Inv X pins σ H { s with heap:=h',toks:=t' }:=I.un (Un.kept k) (I.hok.kept k)
theorem Inv.laid {a:Addr} {o:HO} {t':Nat} (I:Inv X pins σ H s) (k:∀ b u,s.heap.get? b=some u→h'.get? b=some u) (hp:s.heap.objs.size≤a) (new:ObjOk X.prog X.w (upd H a o) h' a o) :
  Inv X pins σ (upd H a o) { s with heap:=h',toks:=t' }:=I.un (Un.laid k hp (I.hok.fresh hp)) (I.hok.laid k hp new)
theorem Inv.write {x e:Addr} {o:HO} {t':Nat} (I:Inv X pins σ H s) (mu:Mut (H x)) (he:e=x∨H e=some (.own x)) (k:∀ b u,b≠e→s.heap.get? b=some u→h'.get? b=some u) (heo:∃ u,h'.get? e=some u)
  (new:ObjOk X.prog X.w (upd H x o) h' x o):Inv X pins σ (upd H x o) { s with heap:=h',toks:=t' }:=I.un (Un.write mu he k heo) (I.hok.write mu he k heo new)
theorem Inv.pins_of {pins':List (Addr × Obj)} (I:Inv X pins σ H s) (h:∀ p∈pins',s.heap.get? p.1=some p.2∧H p.1=none∧p.1≠X.env.locals∧p.1∉X.fs∧∀ v,p.2.data≠.cell v):Inv X pins' σ H s :=
 ⟨I.ok,I.os,I.bare,I.base,I.loc,I.cell,I.free,I.freeC,fun p hp=>(List.mem_append.mp hp).elim (fun z=>I.pin p (List.mem_append_left _ z)) (h p),I.hok,I.len⟩
theorem Zev {N:List Str} (hN:N.Nodup) {i j:Nat} {x:Str} (a:N[i]?=some x) (b:N[j]?=some x):i=j:=by
 obtain ⟨h1,e1⟩:=List.getElem?_eq_some_iff.mp a
 obtain ⟨h2,e2⟩:=List.getElem?_eq_some_iff.mp b
 exact (List.getElem_inj hN).mp (e1.trans e2.symm)
theorem ZbZ {M:Model} {A:Around} {E:Value→Shared→Prop} {i:Nat} {x:Str} {v:V} {u:Value} {Q:Unit→Shared→Prop} (I:Inv X pins σ H s) (hN:X.N.Nodup) (hi:X.N[i]?=some x) (hx:Loc X.env.scope x) (r:RelV v u)
  (h:∀ s',Inv X pins (σ.set i (some v)) H s'→(∃ a,Heap.SameBut a s.heap s'.heap∧(a=X.env.locals∨X.env.cells.lookup x=some a))→Q () s') (hf:X.fn x=true∨X.env.scope.names.lookup x=some .local:=by first | exact .inl rfl | exact .inr rfl | assumption):wpAny M A (storeName X.env x u) Q E s:=by
 obtain ⟨m,hn,hl⟩:=id I.loc
 have hcls:(X.env.scope.kind == .class || (X.env.scope.kind == .module && X.env.locals != X.env.globals))=false:=by rw [I.ok.kind]; rfl
 have hiσ:i < σ.length:=by rw [I.len]; exact (List.getElem?_eq_some_iff.mp hi).1
 have cne:=I.cne
 have tracked:∀ {a:Addr} {h':Heap},(∃ o,s.heap.get? a=some o∧H a=none)→Heap.SameBut a s.heap h'→HOk X.prog X.w H h':=fun {a h'} ha hs b ob e=>by
  obtain ⟨_,_,hfree⟩:=ha
  refine (I.hok b ob e).stay (fun c w' hc q=>(hs.2 c ?_).trans q) (fun _ q=>q) fun _ _ q=>q
  rintro rfl
  rcases hc with rfl | hc
  ·rw [hfree] at e; cases e
  ·rw [hfree] at hc; cases hc
 rcases hx with hk | hk
 ·refine wpAny_storeName_local hk hn (fun h' hn' hs=>?_) hcls
  obtain ⟨oL,_,_,hoL,_⟩:=id hn
  refine h _ ⟨I.ok,I.os,I.bare,⟨fun b o e n hb hx=>?_,fun b o e n hb hx=>?_,I.base.free,fun b o e hx=>?_,I.base.tups,I.base.frzs,I.base.tbls⟩,⟨_,hn',fun j y v' e1 e2 e3=>?_⟩,fun y c e=>?_,I.free,I.freeC,fun p hp=>?_,tracked ⟨oL,hoL,I.free⟩ hs,by simpa using I.len⟩ ⟨_,hs,.inl rfl⟩
  ·exact (hs.2 b (Nat.ne_of_lt (Nat.lt_of_lt_of_le (Heap.lt_size e) I.ok.above))).trans (I.base.keep b o e n hb hx)
  ·obtain ⟨sl,e1⟩:=I.base.slot b o e n hb hx
   exact ⟨sl,(hs.2 b (Nat.ne_of_lt (Nat.lt_of_lt_of_le (Heap.lt_size e) I.ok.above))).trans e1⟩
  ·obtain ⟨o',e1⟩:=I.base.there b o e hx
   exact ⟨o',(hs.2 b (Nat.ne_of_lt (Nat.lt_of_lt_of_le (Heap.lt_size e) I.ok.above))).trans e1⟩
  ·by_cases hj:j=i
   ·subst hj
    rw [hi] at e1; cases e1
    rw [List.getElem?_set_self hiσ] at e2
    cases e2
    exact ⟨u,r,.inl ⟨hk,by simp⟩⟩
   ·rw [List.getElem?_set_ne (Ne.symm hj)] at e2
    obtain ⟨u',r',q⟩:=hl j y v' e1 e2 e3
    refine ⟨u',r',?_⟩
    rcases q with ⟨k,e⟩ | ⟨k,c,e,z⟩
    ·refine .inl ⟨k,?_⟩
     have:y≠x:=fun e=>hj (Zev hN e1 (e ▸ hi))
     simp [this,e]
    ·exact .inr ⟨k,c,e,z.sameBut hs (cne y c e)⟩
  ·obtain ⟨w',z⟩:=I.cell y c e
   exact ⟨w',z.sameBut hs (cne y c e)⟩
  ·obtain ⟨e,n,ne,nf,d⟩:=I.pin p hp
   exact ⟨(hs.2 p.1 ne).trans e,n,ne,nf,d⟩
 ·have hfn:X.fn x=true:=by
   rcases hf with z | z
   ·exact z
   ·rw [z] at hk; cases hk
  obtain ⟨c,hc⟩:=I.ok.has x (.inl hk)
  obtain ⟨w',z⟩:=I.cell x c hc
  refine wpAny_storeName_cell I.ok.kind hk hc z (fun h' hc' hs=>?_)
  obtain ⟨oc,hoc,hocd⟩:=id z
  refine h { s with heap:=h' } ⟨I.ok,I.os,I.bare,⟨fun b o e n hb hx=>?_,fun b o e n hb hx=>?_,I.base.free,fun b o e hx=>?_,I.base.tups,I.base.frzs,I.base.tbls⟩,⟨m,hn.sameBut hs (Ne.symm (cne x c hc)),fun j y v' e1 e2 e3=>?_⟩,fun y c' e=>?_,I.free,I.freeC,fun p hp=>?_,tracked ⟨oc,hoc,I.freeC x c hc⟩ hs,by simpa using I.len⟩ ⟨c,hs,.inr hc⟩
  ·exact (hs.2 b (Nat.ne_of_lt (Nat.lt_of_lt_of_le (Heap.lt_size e) (I.ok.cab x c hfn hc)))).trans (I.base.keep b o e n hb hx)
  ·obtain ⟨sl,e1⟩:=I.base.slot b o e n hb hx
   exact ⟨sl,(hs.2 b (Nat.ne_of_lt (Nat.lt_of_lt_of_le (Heap.lt_size e) (I.ok.cab x c hfn hc)))).trans e1⟩
  ·obtain ⟨o',e1⟩:=I.base.there b o e hx
   exact ⟨o',(hs.2 b (Nat.ne_of_lt (Nat.lt_of_lt_of_le (Heap.lt_size e) (I.ok.cab x c hfn hc)))).trans e1⟩
  ·by_cases hj:j=i
   ·subst hj
    rw [hi] at e1; cases e1
    rw [List.getElem?_set_self hiσ] at e2
    cases e2
    exact ⟨u,r,.inr ⟨.inl hk,c,hc,hc'⟩⟩
   ·rw [List.getElem?_set_ne (Ne.symm hj)] at e2
    obtain ⟨u',r',q⟩:=hl j y v' e1 e2 e3
    refine ⟨u',r',?_⟩
    rcases q with q | ⟨k,c',e,z'⟩
    ·exact .inl q
    ·refine .inr ⟨k,c',e,z'.sameBut hs ?_⟩
     rintro rfl
     exact hj (Zev hN e1 (I.ok.inj _ _ _ e hc ▸ hi))
  ·by_cases hcc:c'=c
   ·subst hcc; exact ⟨_,hc'⟩
   ·obtain ⟨w2,z2⟩:=I.cell y c' e
    exact ⟨w2,z2.sameBut hs hcc⟩
  ·obtain ⟨e,n,ne,nf,d⟩:=I.pin p hp
   refine ⟨(hs.2 p.1 ?_).trans e,n,ne,nf,d⟩
   intro q
   rw [q,hoc] at e
   have q':oc=p.2:=Option.some.inj e
   exact d w' (by rw [← q']; exact hocd)
theorem Zd1 {M:Model} {A:Around} {E:Value→Shared→Prop} {i:Nat} {x:Str} {v:V} {u:Value} {Q:Unit→Shared→Prop} (I:Inv X pins σ H s) (hN:X.N.Nodup) (hi:X.N[i]?=some x) (hx:Loc X.env.scope x) (r:RelV v u)
  (h:∀ s',Inv X pins (σ.set i (some v)) H s'→Q () s') (hf:X.fn x=true∨X.env.scope.names.lookup x=some .local:=by first | exact .inl rfl | exact .inr rfl | assumption):wpAny M A (storeName X.env x u) Q E s :=
 ZbZ I hN hi hx r (fun s' I' _=>h s' I') hf
theorem Inv.call' {s':Shared} {ch:List Addr} (I:Inv X pins σ H s) (ho:s'.os=s.os) (u:Un (frs X.stack) ch H H' s.heap s'.heap) (hok:HOk X.prog X.w H' s'.heap) (hg:AllBare s'.gens)
  (hch:∀ b∈ch,(b∈X.ex∨X.s₀.heap.objs.size≤b)∧b≠X.env.locals∧(∀ x c,X.env.cells.lookup x=some c→c≠b)∧∀ p∈X.pn ++ pins,p.1≠b):Inv X pins σ H' s':=by
 obtain ⟨h',g',d',t',o'⟩:=s'
 have e:o'=s.os:=ho
 subst e
 exact I.call (g':=g') (t':=t') (d':=d') u hok hg hch
end
abbrev XK:=Value→Option Addr→Hp→Prop
abbrev St:=List (Option V)
abbrev VK:=V→Hp→Prop
abbrev TE:=St→Hp→VK→Prop
abbrev TT:=St→Hp→(Bool→Hp→Prop)→Prop
abbrev TA:=St→Hp→(List V→Hp→Prop)→Prop
structure ZfJ where
 nx:St→Hp→Prop
 rt:VK
 bk:St→Hp→Prop:=fun _ _=>False
 ct:St→Hp→Prop:=fun _ _=>False
abbrev TS:=ZfJ→St→Hp→Prop
def EP (X:Cx) (pins:List (Addr × Obj)) (σ:St) (Q:VK) (u:Value) (s':Shared):Prop:=∃ v H',Inv X pins σ H' s'∧RelV v u∧Q v H'
def TP (X:Cx) (pins:List (Addr × Obj)) (σ:St) (Q:Bool→Hp→Prop) (b:Bool) (s':Shared):Prop:=∃ H',Inv X pins σ H' s'∧Q b H'
def AP (X:Cx) (pins:List (Addr × Obj)) (σ:St) (Q:List V→Hp→Prop) (us:List Value) (s':Shared):Prop:=∃ vs H',Inv X pins σ H' s'∧Vals vs us∧Q vs H'
def SP (X:Cx) (pins:List (Addr × Obj)) (D:ZfJ) (f:Flow) (s':Shared):Prop :=
 match f with
 | .next=>∃ σ' H',Inv X pins σ' H' s'∧D.nx σ' H'
 | .brk=>∃ σ' H',Inv X pins σ' H' s'∧D.bk σ' H'
 | .cont=>∃ σ' H',Inv X pins σ' H' s'∧D.ct σ' H'
 | .ret u=>∃ v σ' H',Inv X pins σ' H' s'∧RelV v u∧D.rt v H'
def PE (X:Cx) (e:Expr) (t:TE):Prop :=
 ∀ (pins:List (Addr × Obj)) (s:Shared) (σ:St) (H:Hp) (Q:VK),Inv X pins σ H s→t σ H Q→wpAny (model X.prog X.w) X.A (eval e X.env) (EP X pins σ Q) X.xe s
def PT (X:Cx) (e:Expr) (t:TT):Prop :=
 ∀ (pins:List (Addr × Obj)) (s:Shared) (σ:St) (H:Hp) (Q:Bool→Hp→Prop),Inv X pins σ H s→t σ H Q→wpAny (model X.prog X.w) X.A (isTrue e X.env (eval e X.env)) (TP X pins σ Q) X.xe s
def PW (X:Cx) (e:Expr) (t:TT):Prop :=
 ∀ (whole:Sem Value) (pins:List (Addr × Obj)) (s:Shared) (σ:St) (H:Hp) (Q:Bool→Hp→Prop),Inv X pins σ H s→t σ H Q→wpAny (model X.prog X.w) X.A (isTrue e X.env whole) (TP X pins σ Q) X.xe s
theorem PW.pt {X:Cx} {e:Expr} {t:TT} (h:PW X e t):PT X e t:=h _
def PA (X:Cx) (es:List Expr) (t:TA):Prop :=
 ∀ (pos:Pos) (pins:List (Addr × Obj)) (s:Shared) (σ:St) (H:Hp) (Q:List V→Hp→Prop),Inv X pins σ H s→t σ H Q→wpAny (model X.prog X.w) X.A (spliced (backTo pos (starEach es X.env))) (AP X pins σ Q) X.xe s
def PS (X:Cx) (st:Stmt) (t:TS):Prop :=
 ∀ (pins:List (Addr × Obj)) (s:Shared) (σ:St) (H:Hp) (D:ZfJ),Inv X pins σ H s→t D σ H→wpAny (model X.prog X.w) X.A (exec st X.env) (SP X pins D) X.xe s
def PSs (X:Cx) (st:List Stmt) (t:TS):Prop :=
 ∀ (pins:List (Addr × Obj)) (s:Shared) (σ:St) (H:Hp) (D:ZfJ),Inv X pins σ H s→t D σ H→wpAny (model X.prog X.w) X.A (execs st X.env) (SP X pins D) X.xe s
theorem thn {α:Type} {t:Sem α} {Q Q':α→Shared→Prop} {M:Model} {A:Around} {E:Value→Shared→Prop} {s:Shared} (h:wpAny M A t Q E s) (hQ:∀ a s,Q a s→Q' a s):wpAny M A t Q' E s:=wpAny_mono h hQ fun _ _ x=>x
section
variable {X:Cx}
theorem bin {a b:Expr} {ta tb:TE} (ha:PE X a ta) (hb:PE X b tb) {pins:List (Addr × Obj)} {s:Shared} {σ:St} {H:Hp} {R:V→V→Hp→Prop} (I:Inv X pins σ H s) (h:ta σ H fun x H1=>tb σ H1 fun y H2=>R x y H2)
  {α:Type} {Q:α→Shared→Prop} {f:Value→Value→Sem α}
  (hf:∀ v u s2 x y H2,Inv X pins σ H2 s2→RelV x v→RelV y u→R x y H2→wpAny (model X.prog X.w) X.A (f v u) Q X.xe s2) :
  wpAny (model X.prog X.w) X.A (eval a X.env) (fun v s₁=>wpAny (model X.prog X.w) X.A (eval b X.env) (fun u s₂=>wpAny (model X.prog X.w) X.A (f v u) Q X.xe s₂) X.xe s₁) X.xe s:=by
 refine thn (ha pins s σ H _ I h) fun v s1 ⟨x,H1,I1,r1,q1⟩=>?_
 refine thn (hb pins s1 σ H1 _ I1 q1) fun u s2 ⟨y,H2,I2,r2,q2⟩=>?_
 exact hf v u s2 x y H2 I2 r1 r2 q2
def Zl0 (i:Nat):TE:=fun σ H Q=>∃ v,σ[i]?=some (some v)∧Q v H
def tC (v:V):TE:=fun _ H Q=>Q v H
theorem Zmx {i:Nat} {x:Str} {pos:Pos} (hN:X.N[i]?=some x) (hv:Vis X.env.scope x) (hd:(x == ("__debug__" : Str))=false:=by decide) (hcd:(x == ("__classdict__" : Str))=false:=by decide):PE X (.Name x pos) (Zl0 i):=by
 intro pins s σ H Q I h
 obtain ⟨v,e,h⟩:=h
 obtain ⟨m,hn,hl⟩:=I.loc
 obtain ⟨u,r,l⟩:=hl i x v hN e hv
 have fin:EP X pins σ Q u s:=⟨v,H,I,r,h⟩
 rcases l with ⟨hk,hm⟩ | ⟨hk,c,hc,hcell⟩
 ·exact wpAny_Name (wpAny_loadName_local I.ok.kind hk hn hm fin) hd
 ·rcases hk with hk | hk
  ·exact wpAny_Name (wpAny_loadName_cell I.ok.kind hk hc hcell fin) hd
  ·exact wpAny_Name (wpAny_loadName_free I.ok.kind hk hc hcell fin hcd) hd
theorem Zg {i j pos}:PE X (.Constant (.int i) j pos) (tC (.int i)):=fun _ _ _ H _ I h=>wpAny_Constant_int ⟨.int i,H,I.tok _,⟨_,rfl⟩,h⟩
theorem Zfg {b j pos}:PE X (.Constant (.bool b) j pos) (tC (.bl b)):=fun _ _ _ H _ I h=>Constant_bool ⟨.bl b,H,I,rfl,h⟩
theorem ZaE {j pos}:PE X (.Constant .none j pos) (tC .non):=fun _ _ _ H _ I h=>Constant_none ⟨.non,H,I,rfl,h⟩
theorem JY {x j pos}:PE X (.Constant (.str x) j pos) (tC (.str x)):=fun _ _ _ H _ I h=>Calls.Constant_str ⟨.str x,H,I.tok _,⟨_,rfl⟩,h⟩
def Gl (X:Cx) (x:Str):Prop:=X.env.kindOf x=some .globalImplicit
theorem Zlw {E:Value→Shared→Prop} {pins:List (Addr × Obj)} {s:Shared} {σ:St} {H:Hp} {x:Str} {u:Value} {pos:Pos} {Q:Value→Shared→Prop} (I:Inv X pins σ H s) (hg:Gl X x) (hm:X.mg x=some u) (h:Q u s)
  (hd:(x == ("__debug__" : Str))=false:=by decide):wpAny (model X.prog X.w) X.A (eval (.Name x pos) X.env) Q E s :=
 Calls.Name_function_global I.ok.kind hg (Calls.loadGlobal_global (by rw [I.ok.glob]; exact I.mod.glob.keeps I.bk) hm h) hd
theorem XM {E:Value→Shared→Prop} {pins:List (Addr × Obj)} {s:Shared} {σ:St} {H:Hp} {x:Str} {u:Value} {pos:Pos} {Q:Value→Shared→Prop} (I:Inv X pins σ H s) (hg:Gl X x) (hm:X.mg x=none) (hv:bootBuiltins x=some u) (h:Q u s)
  (hn:x≠"__name__":=by decide) (hd:(x == ("__debug__" : Str))=false:=by decide):wpAny (model X.prog X.w) X.A (eval (.Name x pos) X.env) Q E s:=by
 obtain ⟨mb,h1,h2⟩:=I.mod.blt
 exact Calls.Name_function_global I.ok.kind hg (Calls.loadGlobal_builtin (by rw [I.ok.glob]; exact I.mod.glob.keeps I.bk) hm (by rw [I.ok.blt]; exact h1.keeps I.bk) ((h2 x hn).trans hv) h) hd
theorem Zlg {x:Str} {v:V} {u:Value} {pos:Pos} (hg:Gl X x) (hm:X.mg x=none) (hv:bootBuiltins x=some u) (r:RelV v u) (hn:x≠"__name__":=by decide) (hd:(x == ("__debug__" : Str))=false:=by decide):PE X (.Name x pos) (tC v) :=
 fun _ _ _ H _ I h=>XM I hg hm hv ⟨v,H,I,r,h⟩ hn hd
variable {a b:Expr} {ta tb:TE} {pos:Pos}
def PC (X:Cx) (op:CmpOp) (a b:Expr) (t:TE):Prop :=
 ∀ (pins:List (Addr × Obj)) (s:Shared) (σ:St) (H:Hp) (Q:VK),Inv X pins σ H s→t σ H Q →
  wpAny (model X.prog X.w) X.A (eval a X.env) (fun v s₁=>wpAny (model X.prog X.w) X.A (eval b X.env) (fun u s₂=>wpAny (model X.prog X.w) X.A (compareOp op v u) (EP X pins σ Q) X.xe s₂) X.xe s₁) X.xe s
theorem Zi1 (b:Expr) {op:CmpOp} (h:op≠.In) (h2:op≠.NotIn):behindInMarks op b=false:=by
 have e1:(op == CmpOp.In)=false:=by cases op <;> first | rfl | exact absurd rfl h
 have e2:(op == CmpOp.NotIn)=false:=by cases op <;> first | rfl | exact absurd rfl h2
 cases b <;> simp [behindInMarks,e1,e2]
def tB (t:TE):TT:=fun σ H Q=>t σ H fun x H1=>∃ c,x = .bl c∧Q c H1
theorem Zms {op:CmpOp} {t:TE} (h:PC X op a b t) (h1:behindInMarks op b=false:=by first | exact Zi1 _ (by decide) (by decide) | rfl):PT X (.Compare a [op] [b] pos) (tB t):=by
 intro pins s σ H Q I hw
 refine wpAny_isTrue_Compare1 (thn (h pins s σ H _ I hw) fun v s1 h1=>thn h1 fun u s2 h2=>thn h2 fun c s3 ⟨x,H1,I1,r1,q1⟩=>?_) h1
 obtain ⟨d,rfl,q⟩:=q1
 cases r1
 exact wpAny_truthy_bool ⟨H1,I1,q⟩
theorem Zel {e:Expr} {t:TE} (h:PE X e t) (he:∀ whole,isTrue e X.env whole=(do let v ← whole; standAt e.pos; holding [v] (truthy v)):=by intro _; rfl):PT X e (tB t):=by
 intro pins s σ H Q I hw
 refine isTrue_plain (thn (h pins s σ H _ I hw) fun v s1 ⟨x,H1,I1,r1,q1⟩=>?_) (he _)
 obtain ⟨d,rfl,q⟩:=q1
 cases r1
 exact wpAny_truthy_bool ⟨H1,I1,q⟩
variable {tA tB':TT} {rest:List Expr}
def ZoC (t u:TT):TT:=fun σ H Q=>t σ H fun c H1=>if c=true then u σ H1 Q else Q false H1
def tOr (t u:TT):TT:=fun σ H Q=>t σ H fun c H1=>if c=true then Q true H1 else u σ H1 Q
def Zox (t:TT):TT:=fun σ H Q=>t σ H fun c H1=>Q (!c) H1
theorem Zde (ha:PT X a tA):PW X (.BoolOp .And [a] pos) tA:=by
 intro wh pins s σ H Q I h
 refine isTrue_and (thn (ha pins s σ H Q I h) fun c s1 e=>?_)
 cases c with
 | true=>exact isTrue_and_nil e
 | false=>exact e
theorem Zmr (ha:PT X a tA):PW X (.BoolOp .Or [a] pos) tA:=by
 intro wh pins s σ H Q I h
 refine isTrue_or (thn (ha pins s σ H Q I h) fun c s1 e=>?_)
 cases c with
 | false=>exact isTrue_or_nil e
 | true=>exact e
theorem ZgO (ha:PT X a tA) (hb:PW X (.BoolOp .And (b :: rest) pos) tB'):PW X (.BoolOp .And (a :: b :: rest) pos) (ZoC tA tB'):=by
 intro wh pins s σ H Q I h
 refine isTrue_and (thn (ha pins s σ H _ I h) fun c s1 ⟨H1,I1,q1⟩=>?_)
 cases c with
 | true=>exact hb wh pins s1 σ H1 Q I1 q1
 | false=>exact ⟨H1,I1,q1⟩
theorem ZnM (ha:PT X a tA) (hb:PW X (.BoolOp .Or (b :: rest) pos) tB'):PW X (.BoolOp .Or (a :: b :: rest) pos) (tOr tA tB'):=by
 intro wh pins s σ H Q I h
 refine isTrue_or (thn (ha pins s σ H _ I h) fun c s1 ⟨H1,I1,q1⟩=>?_)
 cases c with
 | true=>exact ⟨H1,I1,q1⟩
 | false=>exact hb wh pins s1 σ H1 Q I1 q1
theorem Zj5 (ha:PT X a tA):PT X (.UnaryOp .Not a pos) (Zox tA):=by
 intro pins s σ H Q I h
 exact isTrue_not (ha pins s σ H (fun c H1=>Q (!c) H1) I h)
def ZnG (ta tb:TE):TE:=fun σ H Q=>ta σ H fun x H1=>∃ c,x = .bl c∧if c=true then tb σ H1 Q else Q (.bl false) H1
def Znw (ta:TE):TE:=fun σ H Q=>ta σ H fun x H1=>∃ c,x = .bl c∧Q (.bl (!c)) H1
theorem Zj7 {op} {t:TE} (h:PE X a t):PE X (.BoolOp op [a] pos) t:=fun pins s σ H Q I hw=>BoolOp_one (h pins s σ H Q I hw)
theorem Zj9 (ha:PE X a ta) (hb:PE X (.BoolOp .And (b :: rest) pos) tb):PE X (.BoolOp .And (a :: b :: rest) pos) (ZnG ta tb):=by
 intro pins s σ H Q I h
 refine BoolOp_and (thn (ha pins s σ H _ I h) fun v s1 ⟨x,H1,I1,r1,q1⟩=>?_)
 obtain ⟨c,rfl,q1⟩:=q1
 cases r1
 refine wpAny_truthy_bool ?_
 cases c with
 | true=>exact hb pins s1 σ H1 Q I1 q1
 | false=>exact ⟨.bl false,H1,I1,rfl,q1⟩
theorem Zmy (ha:PE X a ta):PE X (.UnaryOp .Not a pos) (Znw ta):=by
 intro pins s σ H Q I h
 refine UnaryOp_ (thn (ha pins s σ H _ I h) fun v s1 ⟨x,H1,I1,r1,q1⟩=>?_)
 obtain ⟨c,rfl,q1⟩:=q1
 cases r1
 exact not_of (wpAny_truthy_bool ⟨.bl (!c),H1,I1,rfl,q1⟩)
def tIf (t:TT) (ta tb:TE):TE:=fun σ H Q=>t σ H fun c H1=>if c=true then ta σ H1 Q else tb σ H1 Q
theorem Zep {c:Expr} (hc:PT X c tA) (ha:PE X a ta) (hb:PE X b tb):PE X (.IfExp c a b pos) (tIf tA ta tb):=by
 intro pins s σ H Q I h
 refine wpAny_IfExp (thn (hc pins s σ H _ I h) fun d s1 ⟨H1,I1,q1⟩=>?_)
 cases d with
 | true=>exact ha pins s1 σ H1 Q I1 q1
 | false=>exact hb pins s1 σ H1 Q I1 q1
end
def SqL (K:PySem.W.Frag) (H:Hp) (a:Addr) (xs:List V):Prop :=
 Rd H a (.lst xs) ∨
  ∃ (o:Obj) (its:Array Value) (n:Nat),K.lookup a=some o∧o.cls = .type "list"∧o.dict=none∧o.data = .seq its n∧its.size≤sizeLine∧Vals xs its.toList
def SqT (K:PySem.W.Frag) (H:Hp) (a:Addr) (xs:List V):Prop :=
 Rd H a (.tup xs) ∨
  ∃ (o:Obj) (its:Array Value) (n:Nat),K.lookup a=some o∧o.cls = .type "tuple"∧o.data = .seq its n∧its.size≤sizeLine∧Vals xs its.toList
def ZoQ:Value→Option V
 | .none=>some .non
 | .bool b=>some (.bl b)
 | .int i _=>some (.int i)
 | .str x _=>some (.str x)
 | .bytes b _=>some (.byt b)
 | .float b _=>some (.flt b)
 | .ref a=>some (.ref a)
 | .type n=>some (.ty n)
 | _=>none
theorem RelV.abs {x:V} {u:Value} (r:RelV x u):ZoQ u=some x:=by
 cases x with
 | non=>cases r; rfl
 | bl _=>cases r; rfl
 | int _=>obtain ⟨t,rfl⟩:=r; rfl
 | str _=>obtain ⟨t,rfl⟩:=r; rfl
 | byt _=>obtain ⟨t,rfl⟩:=r; rfl
 | flt _=>obtain ⟨t,rfl⟩:=r; rfl
 | ref _=>cases r; rfl
 | ty _=>cases r; rfl
theorem RelV.inj {x y:V} {u:Value} (r:RelV x u) (q:RelV y u):x=y:=Option.some.inj (r.abs.symm.trans q.abs)
theorem Vals.inj:∀ {xs ys:List V} {us:List Value},Vals xs us→Vals ys us→xs=ys
 | _,_,_,.nil,.nil=>rfl
 | _,_,_,.cons r t,.cons r' t'=>by rw [r.inj r',Vals.inj t t']
section
variable {X:Cx} {pins:List (Addr × Obj)} {σ:St} {H:Hp} {s:Shared} {a:Addr} {xs ys:List V}
theorem SqL.of {K:PySem.W.Frag} (h:H a=some (.lst xs)):SqL K H a xs:=.inl (.inl h)
theorem SqT.of {K:PySem.W.Frag} (h:H a=some (.tup xs)):SqT K H a xs:=.inl (.inl h)
theorem Inv.list (I:Inv X pins σ H s) (h:SqL X.K H a xs):∃ its:List Value,Vals xs its∧PlainL s.heap a its.toArray∧xs.length≤sizeLine:=by
 rcases h with h | ⟨o,its,n,hk,hc,hd,hs,hz,r⟩
 ·obtain ⟨z,its,n,r,e⟩:=h.ok I.hok
  exact ⟨its,r,⟨_,n,e,rfl,rfl,rfl⟩,z⟩
 ·refine ⟨its.toList,r,⟨o,n,I.kIn a o hk,hc,hd,by simpa using hs⟩,?_⟩
  have e:=r.length
  simp only [Array.length_toList] at e
  omega
theorem Inv.tuple (I:Inv X pins σ H s) (h:SqT X.K H a xs):∃ its:List Value,Vals xs its∧IsTup s.heap a its.toArray∧xs.length≤sizeLine:=by
 rcases h with h | ⟨o,its,n,hk,hc,hs,hz,r⟩
 ·obtain ⟨z,its,r,p,_⟩:=h.ok I.hok
  exact ⟨its,r,p,z⟩
 ·refine ⟨its.toList,r,⟨o,I.kIn a o hk,hc,n,by simpa using hs⟩,?_⟩
  have e:=r.length
  simp only [Array.length_toList] at e
  omega
theorem Inv.list_inj (I:Inv X pins σ H s) (h:SqL X.K H a xs) (h':SqL X.K H a ys):xs=ys:=by
 obtain ⟨its,r,⟨o,n,e,_,_,d⟩,_⟩:=I.list h
 obtain ⟨its',r',⟨o',n',e',_,_,d'⟩,_⟩:=I.list h'
 rw [e] at e'; cases e'
 rw [d] at d'
 injection d' with d1 _
 have:its=its':=by simpa using congrArg Array.toList d1
 subst this
 exact r.inj r'
theorem Inv.tuple_inj (I:Inv X pins σ H s) (h:SqT X.K H a xs) (h':SqT X.K H a ys):xs=ys:=by
 obtain ⟨its,r,⟨o,e,_,n,d⟩,_⟩:=I.tuple h
 obtain ⟨its',r',⟨o',e',_,n',d'⟩,_⟩:=I.tuple h'
 rw [e] at e'; cases e'
 rw [d] at d'
 injection d' with d1 _
 have:its=its':=by simpa using congrArg Array.toList d1
 subst this
 exact r.inj r'
end
abbrev Cx.wish (X:Cx) (E:Value→Shared→Prop):Cx:={ X with xe:=E }
abbrev Cx.nox (X:Cx):Cx:=X.wish fun _ _=>False
theorem Cx.Ok.wish {X:Cx} (ok:X.Ok) (E:Value→Shared→Prop):(X.wish E).Ok :=
 ⟨ok.mod,ok.kind,ok.glob,ok.blt,ok.above,ok.inj,ok.has,ok.cab,ok.hd,ok.frames,ok.stk,ok.exf,ok.bs,ok.bsz,ok.noex,ok.exfs,ok.funs,ok.frf⟩
theorem Cx.Ok.unwish {X:Cx} {E:Value→Shared→Prop} (ok:(X.wish E).Ok):X.Ok :=
 ⟨ok.mod,ok.kind,ok.glob,ok.blt,ok.above,ok.inj,ok.has,ok.cab,ok.hd,ok.frames,ok.stk,ok.exf,ok.bs,ok.bsz,ok.noex,ok.exfs,ok.funs,ok.frf⟩
section
variable {X:Cx} {pins:List (Addr × Obj)} {σ:St} {H:Hp} {s:Shared} {E:Value→Shared→Prop}
theorem Inv.wish (I:Inv X pins σ H s) (E:Value→Shared→Prop):Inv (X.wish E) pins σ H s:=⟨I.ok.wish E,I.os,I.bare,I.base,I.loc,I.cell,I.free,I.freeC,I.pin,I.hok,I.len⟩
theorem Inv.unwish (I:Inv (X.wish E) pins σ H s):Inv X pins σ H s:=⟨I.ok.unwish,I.os,I.bare,I.base,I.loc,I.cell,I.free,I.freeC,I.pin,I.hok,I.len⟩
theorem SP.unwish {D:ZfJ} {f:Flow} {s':Shared} (h:SP (X.wish E) pins D f s'):SP X pins D f s':=by
 cases f with
 | next=>obtain ⟨σ',H',I,q⟩:=h; exact ⟨σ',H',I.unwish,q⟩
 | brk=>obtain ⟨σ',H',I,q⟩:=h; exact ⟨σ',H',I.unwish,q⟩
 | cont=>obtain ⟨σ',H',I,q⟩:=h; exact ⟨σ',H',I.unwish,q⟩
 | ret u=>obtain ⟨v,σ',H',I,r,q⟩:=h; exact ⟨v,σ',H',I.unwish,r,q⟩
theorem PE.nox {e:Expr} {t:TE} (h:PE X.nox e t):PE X e t:=fun pins s σ H Q I hw =>
 wpAny_mono (h pins s σ H Q (I.wish _) hw) (fun _ _ ⟨v,H',I',r,q⟩=>⟨v,H',I'.unwish,r,q⟩) fun _ _ z=>False.elim z
theorem PT.nox {e:Expr} {t:TT} (h:PT X.nox e t):PT X e t:=fun pins s σ H Q I hw =>
 wpAny_mono (h pins s σ H Q (I.wish _) hw) (fun _ _ ⟨H',I',q⟩=>⟨H',I'.unwish,q⟩) fun _ _ z=>False.elim z
theorem PSs.nox {st:List Stmt} {t:TS} (h:PSs X.nox st t):PSs X st t:=fun pins s σ H D I hw =>
 wpAny_mono (h pins s σ H D (I.wish _) hw) (fun _ _ q=>q.unwish) fun _ _ z=>False.elim z
end
section
variable {X:Cx} {st:Stmt} {rest:List Stmt} {t u:TS} {e:Expr} {te:TE} {pos:Pos}
def Znx:TS:=fun D σ H=>D.nx σ H
def ZdY (t u:TS):TS:=fun D σ H=>t { D with nx:=u D } σ H
theorem ZC:PSs X [] Znx:=fun _ _ σ H _ I h=>wpAny_execs_nil ⟨σ,H,I,h⟩
theorem Zd (h1:PS X st t) (h2:PSs X rest u):PSs X (st :: rest) (ZdY t u):=by
 intro pins s σ H D I h
 refine wpAny_execs_cons (thn (h1 pins s σ H { D with nx:=u D } I h) fun f s1 q=>?_)
 cases f with
 | next =>
  obtain ⟨σ',H',I',q⟩:=q
  exact h2 pins s1 σ' H' D I' q
 | ret v=>exact q
 | brk=>exact q
 | cont=>exact q
theorem Zh (h1:PS X st t):PSs X [st] t:=by
 intro pins s σ H D I h
 refine wpAny_execs_cons (thn (h1 pins s σ H D I h) fun f s1 q=>?_)
 cases f with
 | next=>exact wpAny_execs_nil q
 | ret v=>exact q
 | brk=>exact q
 | cont=>exact q
theorem Inv.quiet {pins:List (Addr × Obj)} {σ:St} {H:Hp} {s:Shared} (I:Inv X pins σ H s):interactive X.env=false:=by simp [interactive,I.ok.kind]
def ZnA (te:TE):TS:=fun D σ H=>te σ H fun _ H1=>D.nx σ H1
theorem X6 (he:PE X e te) (hs:swapsWith e none pos.line X.env=pure false:=by rfl):PS X (.Expr e pos) (ZnA te):=by
 intro pins s σ H D I h
 exact wpAny_Expr_any (thn (he pins s σ H _ I h) fun v s1 ⟨x,H1,I1,r1,q1⟩=>⟨σ,H1,I1,q1⟩) I.quiet hs
def Zow (te:TE):TS:=fun D σ H=>te σ H D.rt
theorem Zm (he:PE X e te):PS X (.Return (some e) pos) (Zow te):=by
 intro pins s σ H D I h
 exact wpAny_Return_some (thn (he pins s σ H _ I h) fun v s1 ⟨x,H1,I1,r1,q1⟩=>⟨x,σ,H1,I1,r1,q1⟩)
def Ziq (c:TT) (t u:TS):TS:=fun D σ H=>c σ H fun b H1=>if b=true then t D σ H1 else u D σ H1
theorem Ym {c:Expr} {a b:List Stmt} {tc:TT} (hc:PT X c tc) (ha:PSs X a t) (hb:PSs X b u):PS X (.If c a b pos) (Ziq tc t u):=by
 intro pins s σ H D I h
 refine wpAny_If (thn (hc pins s σ H _ I h) fun d s1 ⟨H1,I1,q1⟩=>?_)
 cases d with
 | true=>exact ha pins s1 σ H1 D I1 q1
 | false=>exact hb pins s1 σ H1 D I1 q1
end
abbrev TG:=V→St→Hp→(St→Hp→Prop)→Prop
abbrev TGs:=List V→St→Hp→(St→Hp→Prop)→Prop
def PG (X:Cx) (target:Expr) (t:TG):Prop :=
 ∀ (pins:List (Addr × Obj)) (s:Shared) (σ:St) (H:Hp) (v:V) (u:Value) (Q:St→Hp→Prop),Inv X pins σ H s→RelV v u→t v σ H Q →
  wpAny (model X.prog X.w) X.A (assign target X.env u) (fun _ s'=>∃ σ' H',Inv X pins σ' H' s'∧Q σ' H') X.xe s
def PGs (X:Cx) (ts:List Expr) (t:TGs):Prop :=
 ∀ (pins:List (Addr × Obj)) (s:Shared) (σ:St) (H:Hp) (vs:List V) (us:List Value) (Q:St→Hp→Prop),Inv X pins σ H s→Vals vs us→t vs σ H Q →
  wpAny (model X.prog X.w) X.A (assignInOrder ((assignEach ts X.env).map (·.2)) us) (fun _ s'=>∃ σ' H',Inv X pins σ' H' s'∧Q σ' H') X.xe s
abbrev Zoa:=V→V→V→Hp→(Hp→Prop)→Prop
def Zor (X:Cx) (t:Zoa):Prop :=
 ∀ (pins:List (Addr × Obj)) (s:Shared) (σ:St) (H:Hp) (o i v:V) (ov iv u:Value) (Q:Hp→Prop),Inv X pins σ H s→RelV o ov→RelV i iv→RelV v u→t o i v H Q →
  wpAny (model X.prog X.w) X.A (setItem ov iv u) (fun _ s'=>∃ H',Inv X pins σ H' s'∧Q H') X.xe s
abbrev TIp:=V→V→Hp→VK→Prop
def PIp (X:Cx) (op:Operator) (t:TIp):Prop :=
 ∀ (pins:List (Addr × Obj)) (s:Shared) (σ:St) (H:Hp) (x y:V) (v u:Value) (Q:VK),Inv X pins σ H s→RelV x v→RelV y u→t x y H Q →
  wpAny (model X.prog X.w) X.A (inplaceOp op v u) (EP X pins σ Q) X.xe s
section
variable {X:Cx} {pos:Pos}
def Zap (i:Nat):TG:=fun v σ H Q=>Q (σ.set i (some v)) H
theorem Zy {i:Nat} {x:Str} (hN:X.N.Nodup) (hi:X.N[i]?=some x) (hx:Loc X.env.scope x) (hf:X.fn x=true∨X.env.scope.names.lookup x=some .local:=by first | exact .inl rfl | exact .inr rfl | assumption):PG X (.Name x pos) (Zap i):=by
 intro pins s σ H v u Q I r h
 exact wpAny_assign_Name (Zd1 I hN hi hx r (fun s' I'=>⟨_,H,I',h⟩) hf)
def Zop:TGs:=fun vs σ H Q=>vs=[]∧Q σ H
def ZlJ (t:TG) (u:TGs):TGs:=fun vs σ H Q=>∃ v r,vs=v :: r∧t v σ H fun σ' H'=>u r σ' H' Q
theorem ZR:PGs X [] Zop:=by
 intro pins s σ H vs us Q I r h
 obtain ⟨e,h⟩:=h
 subst e
 cases r
 exact assignInOrder_nil ⟨σ,H,I,h⟩
theorem Zo {e:Expr} {es:List Expr} {t:TG} {u:TGs} (h1:PG X e t) (h2:PGs X es u)
  (hs:(assignEach (e :: es) X.env).map (·.2)=assign e X.env :: (assignEach es X.env).map (·.2):=by rfl):PGs X (e :: es) (ZlJ t u):=by
 intro pins s σ H vs us Q I r h
 obtain ⟨v,vr,e1,h⟩:=h
 subst e1
 cases r with
 | cons r rr =>
  rw [hs]
  refine assignInOrder_cons (thn (h1 pins s σ H _ _ _ I r h) fun _ s1 ⟨σ1,H1,I1,q1⟩=>?_)
  exact h2 pins s1 σ1 H1 _ _ Q I1 rr q1
def Zn0 (K:PySem.W.Frag) (n:Nat) (t:TGs):TG:=fun v σ H Q=>∃ a xs,v = .ref a∧SqT K H a xs∧xs.length=n∧t xs σ H Q
theorem Zmw {es:List Expr} {k:Nat} {t:TGs} {n:Nat} (hc:X.calm=true) (h:PGs X es t)
  (hn:(assignEach es X.env).length=n:=by rfl) (hst:(assignEach es X.env).findIdx? (·.1)=none:=by rfl):PG X (.Tuple es k pos) (Zn0 X.K n t):=by
 intro pins s σ H v u Q I r hw
 obtain ⟨a,xs,e1,hq,hl,hw⟩:=hw
 subst e1
 cases r
 obtain ⟨its,rv,ht,hz⟩:=I.tuple hq
 refine assign_Tuple_tuple (I.ok.hd hc) ht (by simp [hn,← hl,rv.length]) hst fun h' hx=>?_
 have I1:Inv X pins σ H { s with heap:=h' }:=I.kept (t':=s.toks) fun b o e=>hx b o (Nat.ne_of_lt (Heap.lt_size e)) e
 exact h pins _ σ H xs _ Q I1 (by simpa using rv) hw
def ZnF (te:TE) (g:TG):TS:=fun D σ H=>te σ H fun x H1=>g x σ H1 D.nx
theorem Zl {i:Nat} {x:Str} {e:Expr} {te:TE} {pos':Pos} (hN:X.N.Nodup) (hi:X.N[i]?=some x) (hx:Loc X.env.scope x) (he:PE X e te) (hs:swapsWith e (some (.Name x pos')) pos.line X.env=pure false:=by rfl) (hf:X.fn x=true∨X.env.scope.names.lookup x=some .local:=by first | exact .inl rfl | exact .inr rfl | assumption) :
  PS X (.Assign [.Name x pos'] e pos) (ZnF te (Zap i)):=by
 intro pins s σ H D I h
 refine wpAny_Assign_Name (thn (he pins s σ H _ I h) fun v s1 ⟨y,H1,I1,r1,q1⟩=>?_) hs
 exact Zd1 I1 hN hi hx r1 (fun s2 I2=>⟨_,H1,I2,q1⟩) hf
def ZnE (to ti te:TE) (tget:V→V→Hp→VK→Prop) (tip:TIp) (tset:Zoa):TS:=fun D σ H=>to σ H fun o H1=>ti σ H1 fun i H2=>tget o i H2 fun x H3=>te σ H3 fun y H4=>tip x y H4 fun z H5=>tset o i z H5 fun H6=>D.nx σ H6
def Zos (X:Cx) (t:V→V→Hp→VK→Prop):Prop :=
 ∀ (pins:List (Addr × Obj)) (s:Shared) (σ:St) (H:Hp) (o i:V) (ov iv:Value) (Q:VK),Inv X pins σ H s→RelV o ov→RelV i iv→t o i H Q →
  wpAny (model X.prog X.w) X.A (getItem ov iv) (EP X pins σ Q) X.xe s
theorem ZgQ {o i e:Expr} {to ti te:TE} {tget:V→V→Hp→VK→Prop} {tip:TIp} {tset:Zoa} {op:Operator} {tpos:Pos} (ho:PE X o to) (hi:PE X i ti) (hg:Zos X tget) (he:PE X e te) (hp:PIp X op tip) (hs:Zor X tset)
  (ha:∀ ov iv new,augStore i ov iv new=(do holding [new,ov,iv] (setItem ov iv new); release [new,ov,iv] []; pure .next):=by intros; rfl):PS X (.AugAssign (.Subscript o i tpos) op e pos) (ZnE to ti te tget tip tset):=by
 intro pins s σ H D I h
 refine wpAny_AugAssign_SubscriptAny (thn (ho pins s σ H _ I h) fun ov s1 ⟨x1,H1,I1,r1,q1⟩=>?_) ha
 refine thn (hi pins s1 σ H1 _ I1 q1) fun iv s2 ⟨x2,H2,I2,r2,q2⟩=>?_
 refine thn (hg pins s2 σ H2 x1 x2 ov iv _ I2 r1 r2 q2) fun old s3 ⟨x3,H3,I3,r3,q3⟩=>?_
 refine thn (he pins s3 σ H3 _ I3 q3) fun v s4 ⟨x4,H4,I4,r4,q4⟩=>?_
 refine thn (hp pins s4 σ H4 x3 x4 old v _ I4 r3 r4 q4) fun new s5 ⟨x5,H5,I5,r5,q5⟩=>?_
 exact thn (hs pins s5 σ H5 x1 x2 x5 ov iv new _ I5 r1 r2 r5 q5) fun _ s6 ⟨H6,I6,q6⟩=>⟨σ,H6,I6,q6⟩
def ipI (f:Int→Int→Int):TIp:=fun x y H Q=>∃ i j,x = .int i∧y = .int j∧Q (.int (f i j)) H
theorem Zm3:PIp X .Add (ipI fun i j=>i + j):=by
 intro pins s σ H x y v u Q I r1 r2 h
 obtain ⟨i,j,e1,e2,q⟩:=h
 subst e1; subst e2
 obtain ⟨t,rfl⟩:=r1
 obtain ⟨t',rfl⟩:=r2
 exact iadd_int ⟨.int _,H,I.tok _,⟨_,rfl⟩,q⟩
theorem Zm2:PIp X .Sub (ipI fun i j=>i - j):=by
 intro pins s σ H x y v u Q I r1 r2 h
 obtain ⟨i,j,e1,e2,q⟩:=h
 subst e1; subst e2
 obtain ⟨t,rfl⟩:=r1
 obtain ⟨t',rfl⟩:=r2
 exact isub_int ⟨.int _,H,I.tok _,⟨_,rfl⟩,q⟩
def ZdX (c:TT) (tb:TS):TS:=fun D σ H=>∃ W:Nat→St→Hp→Prop,(∃ m,W m σ H)∧∀ m σ H,W m σ H →
 c σ H fun b H1=>if b=true then ∃ N:St→Hp→Prop,(∀ σ' H',N σ' H'→∃ m',m' < m∧W m' σ' H')∧tb { D with nx:=N,ct:=N,bk:=D.nx } σ H1 else D.nx σ H1
theorem Za7 {c:Expr} {body:List Stmt} {tc:TT} {tb:TS} (hp:PassesOwn (model X.prog X.w) X.A X.env X.xe) (hc:PT X c tc) (hb:PSs X body tb):PS X (.While c body [] pos) (ZdX tc tb):=by
 intro pins s σ H D I h
 obtain ⟨W,⟨m0,w0⟩,turn⟩:=h
 refine wpAny_While (codeAny_whileLoop (fun n s'=>∃ σ' H',Inv X pins σ' H' s'∧W n σ' H') ?_ m0 ⟨σ,H,I,w0⟩)
 rintro n s1 ⟨σ1,H1,I1,w1⟩
 refine wpAny_passesOwn hp (thn (hc pins s1 σ1 H1 _ I1 (turn n σ1 H1 w1)) fun b s2 ⟨H2,I2,q2⟩=>?_)
 cases b with
 | true =>
  obtain ⟨N,hN,q2⟩:=q2
  rw [if_pos rfl]
  refine wpAny_passesOwn hp (thn (hb pins s2 σ1 H2 _ I2 q2) fun f s3 q3=>?_)
  cases f with
  | next =>
   obtain ⟨σ3,H3,I3,n3⟩:=q3
   obtain ⟨m',hm,w3⟩:=hN σ3 H3 n3
   exact ⟨m',hm,σ3,H3,I3,w3⟩
  | cont =>
   obtain ⟨σ3,H3,I3,n3⟩:=q3
   obtain ⟨m',hm,w3⟩:=hN σ3 H3 n3
   exact ⟨m',hm,σ3,H3,I3,w3⟩
  | brk=>exact q3
  | ret v=>exact q3
 | false =>
  rw [if_neg Bool.false_ne_true]
  exact wpAny_execs_nil ⟨σ1,H2,I2,q2⟩
end
structure It where
 go:Nat→Hp→Prop
 yld:Nat→Hp→V→Hp→Prop
 stop:Nat→Hp→Prop
def ZdM (X:Cx) (pins:List (Addr × Obj)) (H:Hp) (b:Addr):Prop :=
 H b=none∧b≠X.env.locals∧b∉X.fs∧(b∈X.ex∨X.s₀.heap.objs.size≤b)∧(∀ x c,X.env.cells.lookup x=some c→c≠b)∧∀ p∈X.pn ++ pins,p.1≠b
theorem Inv.fpOk {X:Cx} {pins:List (Addr × Obj)} {σ:St} {H H':Hp} {s:Shared} {b:Addr} (I:Inv X pins σ H s) (hb:s.heap.objs.size≤b) (hn:H' b=none):ZdM X pins H' b:=by
 refine ⟨hn,Nat.ne_of_gt (Nat.lt_of_lt_of_le I.lt hb),I.nofs hb,.inr (Nat.le_trans I.sz hb),fun x c e z=>?_,fun p hp z=>?_⟩
 ·obtain ⟨v,q⟩:=I.cell x c e
  exact absurd (Nat.lt_of_lt_of_le q.lt (by rw [z]; exact hb)) (Nat.lt_irrefl _)
 ·exact absurd (Nat.lt_of_lt_of_le (Heap.lt_size (I.pin p hp).1) (by rw [z]; exact hb)) (Nat.lt_irrefl _)
structure ZkB (P:Program) (w:World) (K:PySem.W.Frag) (tg:Expr) (J:It) (fp:List Addr) (it:Addr) (tn:Nat→Heap→Prop):Prop where
 mem:it∈fp
 obj:∀ i h,tn i h→∀ b∈fp,∃ o,h.get? b=some o∧∀ v,o.data≠.cell v
 keep:∀ i h h',tn i h→(∀ b∈fp,∀ o,h.get? b=some o→h'.get? b=some o)→tn i h'
 item:∀ (X:Cx),X.prog=P→X.w=w→X.K=K→X.calm=true→∀ (i:Nat) (pins:List (Addr × Obj)) (s:Shared) (σ:St) (H:Hp) (E:Value→Shared→Prop),Inv X pins σ H s→(∀ b∈fp,ZdM X pins H b)→tn i s.heap→J.go i H →
  wpAny (model P w) X.A (pyNext (.ref it)) (fun r s1=>∃ u,r=some u ∧
   wpAny (model P w) X.A (letOwnedTupleGo tg (.ref it) u) (fun _ s2=>∃ x H',Inv X pins σ H' s2∧RelV x u∧J.yld i H x H'∧tn (i + 1) s2.heap∧∀ b∈fp,H' b=none) E s1) E s
 done:∀ (X:Cx),X.prog=P→X.w=w→X.K=K→X.calm=true→∀ (i:Nat) (pins:List (Addr × Obj)) (s:Shared) (σ:St) (H:Hp) (E:Value→Shared→Prop),Inv X pins σ H s→(∀ b∈fp,ZdM X pins H b)→tn i s.heap→J.stop i H →
  wpAny (model P w) X.A (pyNext (.ref it)) (fun r s1=>r=none∧Inv X pins σ H s1) E s
 self:∀ (A:Around) (i:Nat) (s:Shared) (Q:Value→Shared→Prop) (E:Value→Shared→Prop),tn i s.heap→Q (.ref it) s→wpAny (model P w) A (pyIter (.ref it)) Q E s
abbrev TI:=St→Hp→(It→Hp→Prop)→Prop
def PIE (X:Cx) (pins:List (Addr × Obj)) (σ:St) (tg:Expr) (R:It→Hp→Prop) (itv:Value) (s2:Shared):Prop :=
 ∃ (it:Addr) (fp:List Addr) (tn:Nat→Heap→Prop) (J:It) (H':Hp),itv = .ref it∧Inv X pins σ H' s2∧ZkB X.prog X.w X.K tg J fp it tn∧tn 0 s2.heap∧(∀ b∈fp,ZdM X pins H' b)∧R J H'
def PI (X:Cx) (tg iter:Expr) (wi:TI):Prop :=
 ∀ (pins:List (Addr × Obj)) (s:Shared) (σ:St) (H:Hp) (R:It→Hp→Prop),Inv X pins σ H s→wi σ H R →
  wpAny (model X.prog X.w) X.A (eval iter X.env) (fun v s1=>wpAny (model X.prog X.w) X.A (pyIter v) (PIE X pins σ tg R) X.xe s1) X.xe s
theorem ZlH {M:Model} {A:Around} {E:Value→Shared→Prop} {s:Shared} {tg:Expr} {it:Addr} {u:Value} {o:Obj} {n:String} {vs:Array Value} {Q:Unit→Shared→Prop} (ho:s.heap.get? it=some o) (hc:o.cls = .type n) (hd:o.data = .fields vs)
  (hn:["enumerate","zip","dict_itemiterator","dict_reverseitemiterator","odict_iterator","itertools.zip_longest","itertools.pairwise"].contains n=false) (hQ:Q () s):wpAny M A (letOwnedTupleGo tg (.ref it) u) Q E s:=by
 unfold letOwnedTupleGo
 cases tg <;> first
  | exact wpAny_pure hQ
  | (cases u <;> first
    | exact wpAny_pure hQ
    | (refine wpAny_bind (wpAny_load ho ?_)
       rw [hc,hd]
       show wpAny M A (if (["enumerate","zip","dict_itemiterator","dict_reverseitemiterator","odict_iterator","itertools.zip_longest","itertools.pairwise"].contains n && vs[0]? == some (rawInt _))=true then _ else _) Q E s
       rw [if_neg (by intro h; rw [hn,Bool.false_and] at h; cases h)]
       exact wpAny_pure hQ))
def Itl (K:PySem.W.Frag) (a:Addr):It :=
 ⟨fun i H=>∃ xs x,SqL K H a xs∧xs[i]?=some x,fun i H x H'=>H'=H∧∀ xs,SqL K H a xs→xs[i]?=some x,fun i H=>∃ xs,SqL K H a xs∧xs.length≤i⟩
def Itt (K:PySem.W.Frag) (a:Addr):It :=
 ⟨fun i H=>∃ xs x,SqT K H a xs∧xs[i]?=some x,fun i H x H'=>H'=H∧∀ xs,SqT K H a xs→xs[i]?=some x,fun i H=>∃ xs,SqT K H a xs∧xs.length≤i⟩
def Itr (lo:Int) (n:Nat):It:=⟨fun i _=>i < n,fun i H x H'=>H'=H∧x = .int (lo + i),fun i _=>n≤i⟩
theorem ZfT {P:Program} {w:World} {K:PySem.W.Frag} {tg:Expr} (a it:Addr):ZkB P w K tg (Itl K a) [it] it (fun i h=>h.IsListIter it a i) where
 mem:=by simp
 obj:=fun i h st b hb=>by
  have e:b=it:=by simpa using hb
  subst e
  obtain ⟨o,e,c,d⟩:=st
  exact ⟨o,e,fun v z=>by rw [d] at z; cases z⟩
 keep:=fun i h h' st k=>st.at fun o e=>k it (by simp) o e
 item:=by
  intro X hP hw hK hc i pins s σ H E I hf st hg
  subst hP hw hK
  obtain ⟨xs,x,hq,hx⟩:=hg
  obtain ⟨its,rv,p,hz⟩:=I.list hq
  obtain ⟨u,hu,ru⟩:=rv.get hx
  obtain ⟨f0,f1,f2,f3,f4,f5⟩:=hf it (by simp)
  refine wpAny_pyNext_list_item st p.isList (x:=u) (by simpa using hu) fun h' st' sb=>?_
  have I1:Inv X pins σ H { s with heap:=h' }:=I.turned (t':=s.toks) (fun b o hb e=>(sb.2 b hb).trans e) f0 f1 f3 f4 f5
  obtain ⟨o,e,c,d⟩:=id st'
  exact ⟨u,rfl,ZlH (s:={ s with heap:=h' }) e c d (by decide) ⟨x,H,I1,ru,⟨rfl,fun ys hy=>by rw [I.list_inj hy hq]; exact hx⟩,st',fun b hb=>(hf b hb).1⟩⟩
 done:=by
  intro X hP hw hK hc i pins s σ H E I hf st hg
  subst hP hw hK
  obtain ⟨xs,hq,hx⟩:=hg
  obtain ⟨its,rv,p,hz⟩:=I.list hq
  obtain ⟨f0,f1,f2,f3,f4,f5⟩:=hf it (by simp)
  have hl:=rv.length
  exact wpAny_pyNext_list_end (I.ok.hd hc) st p.isList (by simp; omega) fun h' eb=>⟨rfl,I.turned (t':=s.toks) (fun b o hb e=>eb b o hb e) f0 f1 f3 f4 f5⟩
 self:=fun _ _ _ _ _ st h=>wpAny_pyIter_listiter st h
theorem Ze4 {P:Program} {w:World} {K:PySem.W.Frag} {tg:Expr} (a it:Addr):ZkB P w K tg (Itt K a) [it] it (fun i h=>h.IsTupleIter it a i) where
 mem:=by simp
 obj:=fun i h st b hb=>by
  have e:b=it:=by simpa using hb
  subst e
  obtain ⟨o,e,c,d⟩:=st
  exact ⟨o,e,fun v z=>by rw [d] at z; cases z⟩
 keep:=fun i h h' st k=>st.at fun o e=>k it (by simp) o e
 item:=by
  intro X hP hw hK hc i pins s σ H E I hf st hg
  subst hP hw hK
  obtain ⟨xs,x,hq,hx⟩:=hg
  obtain ⟨its,rv,p,hz⟩:=I.tuple hq
  obtain ⟨u,hu,ru⟩:=rv.get hx
  obtain ⟨f0,f1,f2,f3,f4,f5⟩:=hf it (by simp)
  refine wpAny_pyNext_tuple_item st (show s.heap.IsTuple a its.toArray from p) (x:=u) (by simpa using hu) fun h' st' sb=>?_
  have I1:Inv X pins σ H { s with heap:=h' }:=I.turned (t':=s.toks) (fun b o hb e=>(sb.2 b hb).trans e) f0 f1 f3 f4 f5
  obtain ⟨o,e,c,d⟩:=id st'
  exact ⟨u,rfl,ZlH (s:={ s with heap:=h' }) e c d (by decide) ⟨x,H,I1,ru,⟨rfl,fun ys hy=>by rw [I.tuple_inj hy hq]; exact hx⟩,st',fun b hb=>(hf b hb).1⟩⟩
 done:=by
  intro X hP hw hK hc i pins s σ H E I hf st hg
  subst hP hw hK
  obtain ⟨xs,hq,hx⟩:=hg
  obtain ⟨its,rv,p,hz⟩:=I.tuple hq
  obtain ⟨f0,f1,f2,f3,f4,f5⟩:=hf it (by simp)
  have hl:=rv.length
  exact wpAny_pyNext_tuple_end (I.ok.hd hc) st (show s.heap.IsTuple a its.toArray from p) (by simp; omega) fun h' eb=>⟨rfl,I.turned (t':=s.toks) (fun b o hb e=>eb b o hb e) f0 f1 f3 f4 f5⟩
 self:=fun _ _ _ _ _ st h=>wpAny_pyIter_tupleiter st h
theorem Ze5 {P:Program} {w:World} {K:PySem.W.Frag} {tg:Expr} (it:Addr) (lo:Int) (n:Nat):ZkB P w K tg (Itr lo n) [it] it (fun i h=>IsRangeIter h it (lo + (i:Nat) * 1) ((n:Int) - (i:Nat)) 1) where
 mem:=by simp
 obj:=fun i h st b hb=>by
  have e:b=it:=by simpa using hb
  subst e
  exact ⟨_,st,fun v z=>by
   have z':Data.fields _=Data.cell v:=z
   cases z'⟩
 keep:=fun i h h' st k=>k it (by simp) _ st
 item:=by
  intro X hP hw hK hc i pins s σ H E I hf st hg
  subst hP hw hK
  obtain ⟨f0,f1,f2,f3,f4,f5⟩:=hf it (by simp)
  have W:=Walks.range (prog:=X.prog) (w:=X.w) (I.ok.hd hc) it lo 1 n
  refine W.item i s _ _ hg st fun v h' tk hv st' kk=>?_
  obtain ⟨t,rfl⟩:=hv
  have I1:Inv X pins σ H { s with heap:=h',toks:=tk }:=I.turned (fun b o hb e=>kk b o (by simpa using hb) e) f0 f1 f3 f4 f5
  refine ⟨_,rfl,ZlH (s:={ s with heap:=h',toks:=tk }) (n:="range_iterator") st' rfl rfl (by decide) ⟨.int (lo + i),H,I1,⟨t,?_⟩,⟨rfl,rfl⟩,st',fun b hb=>(hf b hb).1⟩⟩
  rw [Int.mul_one]
 done:=by
  intro X hP hw hK hc i pins s σ H E I hf st hg
  subst hP hw hK
  obtain ⟨f0,f1,f2,f3,f4,f5⟩:=hf it (by simp)
  exact wpAny_pyNext_range_end (I.ok.hd hc) st (by have:n≤i:=hg; omega) fun h' eb=>⟨rfl,I.turned (t':=s.toks) (fun b o hb e=>eb b o hb e) f0 f1 f3 f4 f5⟩
 self:=fun _ _ _ _ _ st h=>wpAny_pyIter_rangeiter st h
section
variable {X:Cx} {tg:Expr}
def ZnX (K:PySem.W.Frag) (tl:TE):TI:=fun σ H R=>tl σ H fun x H1=>∃ a,x = .ref a∧(∃ xs,SqL K H1 a xs)∧R (Itl K a) H1
def ZoL (K:PySem.W.Frag) (tl:TE):TI:=fun σ H R=>tl σ H fun x H1=>∃ a,x = .ref a∧(∃ xs,SqT K H1 a xs)∧R (Itt K a) H1
theorem YK {l:Expr} {tl:TE} (hl:PE X l tl):PI X tg l (ZnX X.K tl):=by
 intro pins s σ H R I h
 refine thn (hl pins s σ H _ I h) fun v s1 ⟨x,H1,I1,r1,q1⟩=>?_
 obtain ⟨a,e,⟨xs,hq⟩,q⟩:=q1
 subst e
 cases r1
 obtain ⟨its,rv,p,hz⟩:=I1.list hq
 refine wpAny_pyIter_list p.isList ?_
 refine ⟨s1.heap.objs.size,[s1.heap.objs.size],_,_,H1,rfl,I1.kept (t':=s1.toks) fun b o e=>Heap.get?_push_of_some _ e,ZfT a _,⟨_,Heap.get?_push_size _ rfl,rfl,rfl⟩,fun b hb=>?_,q⟩
 have e:b=s1.heap.objs.size:=by simpa using hb
 subst e
 exact I1.fpOk (Nat.le_refl _) (I1.hok.fresh (Nat.le_refl _))
theorem Yj {l:Expr} {tl:TE} (hl:PE X l tl):PI X tg l (ZoL X.K tl):=by
 intro pins s σ H R I h
 refine thn (hl pins s σ H _ I h) fun v s1 ⟨x,H1,I1,r1,q1⟩=>?_
 obtain ⟨a,e,⟨xs,hq⟩,q⟩:=q1
 subst e
 cases r1
 obtain ⟨its,rv,p,hz⟩:=I1.tuple hq
 refine wpAny_pyIter_tuple (show s1.heap.IsTuple a its.toArray from p) ?_
 refine ⟨s1.heap.objs.size,[s1.heap.objs.size],_,_,H1,rfl,I1.kept (t':=s1.toks) fun b o e=>Heap.get?_push_of_some _ e,Ze4 a _,⟨_,Heap.get?_push_size _ rfl,rfl,rfl⟩,fun b hb=>?_,q⟩
 have e:b=s1.heap.objs.size:=by simpa using hb
 subst e
 exact I1.fpOk (Nat.le_refl _) (I1.hok.fresh (Nat.le_refl _))
theorem Zei {pins:List (Addr × Obj)} {σ:St} {H:Hp} {s:Shared} {R:It→Hp→Prop} {E:Value→Shared→Prop} {lo hi:Int} {t u v:Tok} {tk:Nat} (I:Inv X pins σ H s) (h1 : -(2 ^ 62)≤lo) (h2:lo < 2 ^ 62) (h3 : -(2 ^ 62)≤hi) (h4:hi < 2 ^ 62)
  (q:R (Itr lo (hi - lo).toNat) H):wpAny (model X.prog X.w) X.A (pyIter (.ref s.heap.objs.size)) (PIE X pins σ tg R) E { s with heap:=s.heap.push { cls:=.type "range",data:=.fields #[.int lo t,.int hi u,.int 1 v] },toks:=tk }:=by
 refine wpAny_pyIter_range (IsRange.new ..) (small_one h1 h2 h3 h4) ?_
 have I1:Inv X pins σ H { s with heap:=s.heap.push { cls:=.type "range",data:=.fields #[.int lo t,.int hi u,.int 1 v] },toks:=tk }:=I.kept fun b o e=>Heap.get?_push_of_some _ e
 refine ⟨(s.heap.push { cls:=.type "range",data:=.fields #[.int lo t,.int hi u,.int 1 v] }).objs.size,[(s.heap.push { cls:=.type "range",data:=.fields #[.int lo t,.int hi u,.int 1 v] }).objs.size],_,_,H,rfl,
  I1.kept (t':=tk) fun b o e=>Heap.get?_push_of_some _ e,Ze5 _ lo (hi - lo).toNat,?_,fun b hb=>?_,q⟩
 ·have e1:lo + ((0:Nat):Int) * 1=lo:=by simp
  have e2:(((hi - lo).toNat:Nat):Int) - ((0:Nat):Int)=Builtin.Range.rangeSize lo hi 1:=by rw [rangeSize_one]; split <;> omega
  show IsRangeIter _ _ (lo + ((0:Nat):Int) * 1) ((((hi - lo).toNat:Nat):Int) - ((0:Nat):Int)) 1
  rw [e1,e2]
  exact Heap.get?_push_size _ rfl
 ·have e:b=(s.heap.push { cls:=.type "range",data:=.fields #[.int lo t,.int hi u,.int 1 v] }).objs.size:=by simpa using hb
  subst e
  exact I1.fpOk (Nat.le_refl _) (I1.hok.fresh (Nat.le_refl _))
def ZnV (ta:TA):TI:=fun σ H R=>ta σ H fun vs H1=>∃ j:Int,vs=[.int j]∧-(2 ^ 62)≤j∧j < 2 ^ 62∧R (Itr 0 j.toNat) H1
def ZnU (ta:TA):TI:=fun σ H R=>ta σ H fun vs H1=>∃ i j:Int,vs=[.int i,.int j]∧(-(2 ^ 62)≤i∧i < 2 ^ 62∧-(2 ^ 62)≤j∧j < 2 ^ 62)∧R (Itr i (j - i).toNat) H1
theorem XF {a:Expr} {ta:TA} {p pos:Pos} (hg:Gl X "range") (hm:X.mg "range" = none) (ha:PA X [a] ta) (hs:starEach [a] X.env=[(false,eval a X.env)]:=by rfl):PI X tg (.Call (.Name "range" p) [a] [] pos) (ZnV ta):=by
 intro pins s σ H R I h
 refine Call_ (XM I hg hm boot_range (PyProof.Rows.callWith_type1 (thn (ha pos pins s σ H _ I h) fun us s1 ⟨vs,H1,I1,r1,q1⟩=>?_) hs rfl))
 obtain ⟨j,e,q1,q2,q⟩:=q1
 subst e
 cases r1 with
 | cons r rr =>
  cases rr
  obtain ⟨t,rfl⟩:=r
  exact call_range_1 (Zei I1 (by omega) (by omega) q1 q2 (by simpa using q))
theorem JX {a b:Expr} {ta:TA} {p pos:Pos} (hg:Gl X "range") (hm:X.mg "range" = none) (ha:PA X [a,b] ta) (hs:starEach [a,b] X.env=[(false,eval a X.env),(false,eval b X.env)]:=by rfl) (hs2:starEach [b] X.env=[(false,eval b X.env)]:=by rfl) :
  PI X tg (.Call (.Name "range" p) [a,b] [] pos) (ZnU ta):=by
 intro pins s σ H R I h
 refine Call_ (XM I hg hm boot_range (PyProof.Rows.callWith_type1 (thn (ha pos pins s σ H _ I h) fun us s1 ⟨vs,H1,I1,r1,q1⟩=>?_) (by rw [hs,hs2]) (by rw [hs2]; rfl)))
 obtain ⟨i,j,e,⟨q1,q2,q3,q4⟩,q⟩:=q1
 subst e
 cases r1 with
 | cons r rr =>
  cases rr with
  | cons r' rr =>
   cases rr
   obtain ⟨t,rfl⟩:=r
   obtain ⟨t',rfl⟩:=r'
   exact call_range_2 (Zei I1 q1 q2 q3 q4 q)
def ZoA (wi:TI) (g:TG) (tb:TS):TS:=fun D σ H=>wi σ H fun J H1=>∃ W:Nat→Nat→St→Hp→Prop,(∃ m,W 0 m σ H1)∧∀ i m σ H,W i m σ H →
 (J.stop i H∧D.nx σ H)∨(J.go i H∧∃ N:St→Hp→Prop,(∀ σ' H',N σ' H'→∃ m',m' < m∧W (i + 1) m' σ' H')∧∀ x H',J.yld i H x H'→g x σ H' fun σ2 H2=>tb { D with nx:=N,ct:=N,bk:=D.nx } σ2 H2)
def Zb8 (fp:List Addr) (h:Heap):List (Addr × Obj):=fp.filterMap fun b=>(h.get? b).map fun o=>(b,o)
theorem Y2 {fp:List Addr} {h:Heap} {b:Addr} {o:Obj} (hb:b∈fp) (e:h.get? b=some o):(b,o)∈Zb8 fp h:=List.mem_filterMap.mpr ⟨b,hb,by rw [e]; rfl⟩
theorem Zha {fp:List Addr} {h:Heap} {p:Addr × Obj} (hp:p∈Zb8 fp h):p.1∈fp∧h.get? p.1=some p.2:=by
 obtain ⟨b,hb,e⟩:=List.mem_filterMap.mp hp
 cases q:h.get? b with
 | none=>rw [q] at e; cases e
 | some o =>
  rw [q] at e
  have e':(b,o)=p:=Option.some.inj e
  subst e'
  exact ⟨hb,q⟩
theorem Inv.pinned {pins:List (Addr × Obj)} {σ:St} {H:Hp} {s:Shared} {fp:List Addr} (I:Inv X pins σ H s) (hf:∀ b∈fp,ZdM X pins H b) (ho:∀ b∈fp,∃ o,s.heap.get? b=some o∧∀ v,o.data≠.cell v):Inv X (pins ++ Zb8 fp s.heap) σ H s :=
 I.pins_of fun p hp=>(List.mem_append.mp hp).elim (fun z=>I.pin p (List.mem_append_right _ z)) fun z=>by
  obtain ⟨hb,e⟩:=Zha z
  obtain ⟨f0,f1,f2,_⟩:=hf p.1 hb
  obtain ⟨o,e',d⟩:=ho p.1 hb
  rw [e] at e'; cases e'
  exact ⟨e,f0,f1,f2,d⟩
theorem Inv.unpinned {pins pl:List (Addr × Obj)} {σ:St} {H:Hp} {s:Shared} (I:Inv X (pins ++ pl) σ H s):Inv X pins σ H s:=I.pins_of fun p hp=>I.pin p (List.mem_append_right _ (List.mem_append_left _ hp))
theorem Yf {iter:Expr} {body:List Stmt} {wi:TI} {g:TG} {tb:TS} {pos:Pos} (hp:PassesOwn (model X.prog X.w) X.A X.env X.xe) (hc:X.calm=true) (hi:PI X tg iter wi) (hg:PG X tg g) (hb:PSs X body tb)
  (hs:∀ x,foldedSetIterable iter X.env x=pure x:=by intro _; rfl):PS X (.For tg iter body [] pos) (ZoA wi g tb):=by
 intro pins s σ H D I h
 refine wpAny_For (thn (hi pins s σ H _ I h) fun v s1 h1=>thn h1 fun itv s2 h2=>?_) hs
 obtain ⟨it,fp,tn,J,H2,e,I2,T,st2,f2,W,⟨m0,w0⟩,turn⟩:=h2
 subst e
 -- what stays true of the iterator's objects through the loop
 have stat:∀ {H':Hp},(∀ b∈fp,H' b=none)→∀ b∈fp,ZdM X pins H' b:=fun hn b hb=>⟨hn b hb,(f2 b hb).2⟩
 refine codeAny_forLoop_any (fun n s'=>∃ i σ' H',Inv X pins σ' H' s'∧tn i s'.heap∧(∀ b∈fp,H' b=none)∧W i n σ' H') ?_ m0 ⟨0,σ,H2,I2,st2,fun b hb=>(f2 b hb).1,w0⟩
 rintro n s3 ⟨i,σ3,H3,I3,st3,fr3,w3⟩
 rcases turn i n σ3 H3 w3 with ⟨stop,qn⟩ | ⟨go,N,hN,step⟩
 ·refine wpAny_passesOwn hp (thn (T.done X rfl rfl rfl hc i pins s3 σ3 H3 X.xe I3 (stat fr3) st3 stop) fun r s4 ⟨hr,I4⟩=>?_)
  subst hr
  exact wpAny_execs_nil ⟨σ3,H3,I4,qn⟩
 ·refine wpAny_passesOwn hp (thn (T.item X rfl rfl rfl hc i pins s3 σ3 H3 X.xe I3 (stat fr3) st3 go) fun r s4 ⟨u,hr,h4⟩=>?_)
  subst hr
  refine wpAny_passesOwn hp (thn h4 fun _ s5 ⟨x,H5,I5,r5,y5,st5,fr5⟩=>?_)
  have I5':=I5.pinned (stat fr5) (T.obj _ _ st5)
  refine wpAny_passesOwn hp (thn (hg _ s5 σ3 H5 x u _ I5' r5 (step x H5 y5)) fun _ s6 ⟨σ6,H6,I6,q6⟩=>?_)
  refine wpAny_passesOwn hp (thn (hb _ s6 σ6 H6 _ I6 q6) fun f s7 q7=>?_)
  have again:∀ {σ7:St} {H7:Hp},Inv X (pins ++ Zb8 fp s5.heap) σ7 H7 s7→N σ7 H7→∃ m,m < n∧∃ i σ' H',Inv X pins σ' H' s7∧tn i s7.heap∧(∀ b∈fp,H' b=none)∧W i m σ' H':=fun {σ7 H7} I7 n7=>by
   obtain ⟨m',hm,w7⟩:=hN σ7 H7 n7
   refine ⟨m',hm,i + 1,σ7,H7,I7.unpinned,T.keep _ _ _ st5 fun b hb o e=>(I7.pin (b,o) (List.mem_append_right _ (List.mem_append_right _ (Y2 hb e)))).1,fun b hb=>?_,w7⟩
   obtain ⟨o,e,d⟩:=T.obj _ _ st5 b hb
   exact (I7.pin (b,o) (List.mem_append_right _ (List.mem_append_right _ (Y2 hb e)))).2.1
  cases f with
  | next=>obtain ⟨σ7,H7,I7,n7⟩:=q7; exact again I7 n7
  | cont=>obtain ⟨σ7,H7,I7,n7⟩:=q7; exact again I7 n7
  | brk=>obtain ⟨σ7,H7,I7,q7⟩:=q7; exact ⟨σ7,H7,I7.unpinned,q7⟩
  | ret v=>obtain ⟨x7,σ7,H7,I7,r7,q7⟩:=q7; exact ⟨x7,σ7,H7,I7.unpinned,r7,q7⟩
end
theorem ZeP {K:PySem.W.Frag} {a:Addr} {xs:List V} {g:TG} {tb:TS} {D:ZfJ} {σ:St} {H:Hp} (Pv:Nat→St→Hp→Prop) (h0:Pv 0 σ H) (hl:∀ i σ H,i≤xs.length→Pv i σ H→SqL K H a xs)
  (hs:∀ i x σ H,xs[i]?=some x→Pv i σ H→g x σ H fun σ2 H2=>tb { D with nx:=Pv (i + 1),ct:=Pv (i + 1),bk:=D.nx } σ2 H2) (hd:∀ σ H,Pv xs.length σ H→D.nx σ H) :
  ∃ W:Nat→Nat→St→Hp→Prop,(∃ m,W 0 m σ H)∧∀ i m σ H,W i m σ H →
   ((Itl K a).stop i H∧D.nx σ H)∨((Itl K a).go i H∧∃ N:St→Hp→Prop,(∀ σ' H',N σ' H'→∃ m',m' < m∧W (i + 1) m' σ' H')∧∀ x H',(Itl K a).yld i H x H'→g x σ H' fun σ2 H2=>tb { D with nx:=N,ct:=N,bk:=D.nx } σ2 H2):=by
 refine ⟨fun i m σ H=>m=xs.length - i∧i≤xs.length∧Pv i σ H,⟨xs.length,by simp,Nat.zero_le _,h0⟩,?_⟩
 rintro i m σ H ⟨rfl,hi,p⟩
 have q:=hl i σ H hi p
 by_cases hlt:i < xs.length
 ·refine .inr ⟨⟨xs,xs[i],q,by simp [hlt]⟩,Pv (i + 1),fun σ' H' p'=>⟨xs.length - (i + 1),by omega,rfl,hlt,p'⟩,fun x H' y=>?_⟩
  obtain ⟨e,y⟩:=y
  subst e
  exact hs i x σ _ (y xs q) p
 ·have e:i=xs.length:=by omega
  subst e
  exact .inl ⟨⟨xs,q,Nat.le_refl _⟩,hd σ H p⟩
theorem Xq {K:PySem.W.Frag} {a:Addr} {xs:List V} {g:TG} {tb:TS} {D:ZfJ} {σ:St} {H:Hp} (Pv:Nat→St→Hp→Prop) (h0:Pv 0 σ H) (hl:∀ i σ H,i≤xs.length→Pv i σ H→SqT K H a xs)
  (hs:∀ i x σ H,xs[i]?=some x→Pv i σ H→g x σ H fun σ2 H2=>tb { D with nx:=Pv (i + 1),ct:=Pv (i + 1),bk:=D.nx } σ2 H2) (hd:∀ σ H,Pv xs.length σ H→D.nx σ H) :
  ∃ W:Nat→Nat→St→Hp→Prop,(∃ m,W 0 m σ H)∧∀ i m σ H,W i m σ H →
   ((Itt K a).stop i H∧D.nx σ H)∨((Itt K a).go i H∧∃ N:St→Hp→Prop,(∀ σ' H',N σ' H'→∃ m',m' < m∧W (i + 1) m' σ' H')∧∀ x H',(Itt K a).yld i H x H'→g x σ H' fun σ2 H2=>tb { D with nx:=N,ct:=N,bk:=D.nx } σ2 H2):=by
 refine ⟨fun i m σ H=>m=xs.length - i∧i≤xs.length∧Pv i σ H,⟨xs.length,by simp,Nat.zero_le _,h0⟩,?_⟩
 rintro i m σ H ⟨rfl,hi,p⟩
 have q:=hl i σ H hi p
 by_cases hlt:i < xs.length
 ·refine .inr ⟨⟨xs,xs[i],q,by simp [hlt]⟩,Pv (i + 1),fun σ' H' p'=>⟨xs.length - (i + 1),by omega,rfl,hlt,p'⟩,fun x H' y=>?_⟩
  obtain ⟨e,y⟩:=y
  subst e
  exact hs i x σ _ (y xs q) p
 ·have e:i=xs.length:=by omega
  subst e
  exact .inl ⟨⟨xs,q,Nat.le_refl _⟩,hd σ H p⟩
theorem XQ {lo:Int} {n:Nat} {g:TG} {tb:TS} {D:ZfJ} {σ:St} {H:Hp} (Pv:Nat→St→Hp→Prop) (h0:Pv 0 σ H)
  (hs:∀ i σ H,i < n→Pv i σ H→g (.int (lo + i)) σ H fun σ2 H2=>tb { D with nx:=Pv (i + 1),ct:=Pv (i + 1),bk:=D.nx } σ2 H2) (hd:∀ σ H,Pv n σ H→D.nx σ H) :
  ∃ W:Nat→Nat→St→Hp→Prop,(∃ m,W 0 m σ H)∧∀ i m σ H,W i m σ H →
   ((Itr lo n).stop i H∧D.nx σ H)∨((Itr lo n).go i H∧∃ N:St→Hp→Prop,(∀ σ' H',N σ' H'→∃ m',m' < m∧W (i + 1) m' σ' H')∧∀ x H',(Itr lo n).yld i H x H'→g x σ H' fun σ2 H2=>tb { D with nx:=N,ct:=N,bk:=D.nx } σ2 H2):=by
 refine ⟨fun i m σ H=>m=n - i∧i≤n∧Pv i σ H,⟨n,by simp,Nat.zero_le _,h0⟩,?_⟩
 rintro i m σ H ⟨rfl,hi,p⟩
 by_cases hlt:i < n
 ·refine .inr ⟨hlt,Pv (i + 1),fun σ' H' p'=>⟨n - (i + 1),by omega,rfl,hlt,p'⟩,fun x H' y=>?_⟩
  obtain ⟨e,y⟩:=y
  subst e y
  exact hs i σ _ hlt p
 ·have e:i=n:=by omega
  subst e
  exact .inl ⟨Nat.le_refl _,hd σ H p⟩
theorem Zit {c:TT} {tb:TS} {D:ZfJ} {σ:St} {H:Hp} (Pv:St→Hp→Prop) (μ:St→Hp→Nat) (h0:Pv σ H)
  (hs:∀ σ H,Pv σ H→c σ H fun b H1=>if b=true then tb { D with nx:=fun σ' H'=>Pv σ' H'∧μ σ' H' < μ σ H,ct:=fun σ' H'=>Pv σ' H'∧μ σ' H' < μ σ H,bk:=D.nx } σ H1 else D.nx σ H1)
  (mono:∀ σ H Q Q',(∀ b H1,Q b H1→Q' b H1)→c σ H Q→c σ H Q'):ZdX c tb D σ H:=by
 refine ⟨fun m σ H=>m=μ σ H∧Pv σ H,⟨_,rfl,h0⟩,?_⟩
 rintro m σ H ⟨rfl,p⟩
 refine mono σ H _ _ (fun b H1 q=>?_) (hs σ H p)
 cases b with
 | true=>exact ⟨_,fun σ' H' ⟨p',l⟩=>⟨_,l,rfl,p'⟩,q⟩
 | false=>exact q
abbrev R2:=V→V→Hp→VK→Prop
def OpR (X:Cx) (f:Value→Value→Sem Value) (r:R2):Prop :=
 ∀ (pins:List (Addr × Obj)) (s:Shared) (σ:St) (H:Hp) (x y:V) (v u:Value) (Q:VK),Inv X pins σ H s→RelV x v→RelV y u→r x y H Q →
  wpAny (model X.prog X.w) X.A (f v u) (EP X pins σ Q) X.xe s
def UnR (X:Cx) (f:Value→Sem Value) (r:V→Hp→VK→Prop):Prop :=
 ∀ (pins:List (Addr × Obj)) (s:Shared) (σ:St) (H:Hp) (x:V) (v:Value) (Q:VK),Inv X pins σ H s→RelV x v→r x H Q →
  wpAny (model X.prog X.w) X.A (f v) (EP X pins σ Q) X.xe s
def CallR (X:Cx) (f:Value) (r:List V→Hp→VK→Prop):Prop :=
 ∀ (pins:List (Addr × Obj)) (s:Shared) (σ:St) (H:Hp) (xs:List V) (us:List Value) (Q:VK),Inv X pins σ H s→Vals xs us→r xs H Q →
  wpAny (model X.prog X.w) X.A (call f us) (EP X pins σ Q) X.xe s
def ZoS (X:Cx) (r:V→Hp→(Bool→Hp→Prop)→Prop):Prop :=
 ∀ (pins:List (Addr × Obj)) (s:Shared) (σ:St) (H:Hp) (x:V) (v:Value) (Q:Bool→Hp→Prop),Inv X pins σ H s→RelV x v→r x H Q →
  wpAny (model X.prog X.w) X.A (truthy v) (TP X pins σ Q) X.xe s
def tOp (r:R2) (ta tb:TE):TE:=fun σ H Q=>ta σ H fun x H1=>tb σ H1 fun y H2=>r x y H2 Q
def tUn (r:V→Hp→VK→Prop) (ta:TE):TE:=fun σ H Q=>ta σ H fun x H1=>r x H1 Q
def rI (C:Int→Int→Prop) (g:Int→Int→V):R2:=fun x y H Q=>∃ i j,x = .int i∧y = .int j∧C i j∧Q (g i j) H
def rI0 (g:Int→Int→V):R2:=fun x y H Q=>∃ i j,x = .int i∧y = .int j∧Q (g i j) H
def rU (g:Int→V):V→Hp→VK→Prop:=fun x H Q=>∃ i,x = .int i∧Q (g i) H
section
variable {X:Cx} {a b c:Expr} {ta tb tc:TE} {pos:Pos}
theorem Zn5 (ha:PE X a ta) (hb:PE X b tb) {pins:List (Addr × Obj)} {s:Shared} {σ:St} {H:Hp} {R:V→V→Hp→Prop} (I:Inv X pins σ H s)
  (h:ta σ H fun x H1=>tb σ H1 fun y H2=>R x y H2) {Q:Value→Shared→Prop} {f:Value→Value→Sem Value}
  (hf:∀ v u s2 x y H2,Inv X pins σ H2 s2→RelV x v→RelV y u→R x y H2→wpAny (model X.prog X.w) X.A (f v u) Q X.xe s2) :
  wpAny (model X.prog X.w) X.A (eval a X.env) (fun v s₁=>wpAny (model X.prog X.w) X.A (eval b X.env) (fun u s₂=>wpAny (model X.prog X.w) X.A (f v u) Q X.xe s₂) X.xe s₁) X.xe s:=by
 refine thn (ha pins s σ H _ I h) fun v s1 ⟨x,H1,I1,r1,q1⟩=>?_
 refine thn (hb pins s1 σ H1 _ I1 q1) fun u s2 ⟨y,H2,I2,r2,q2⟩=>?_
 exact hf v u s2 x y H2 I2 r1 r2 q2
theorem Zq {op:Operator} {r:R2} (ho:OpR X (binaryOp op) r) (ha:PE X a ta) (hb:PE X b tb):PE X (.BinOp a op b pos) (tOp r ta tb):=by
 intro pins s σ H Q I h
 exact wpAny_BinOp (Zn5 ha hb I h fun v u s2 x y H2 I2 rx ry q=>ho pins s2 σ H2 x y v u Q I2 rx ry q)
theorem Zb9 {op:UnaryOp} {r:V→Hp→VK→Prop} (ho:UnR X (unaryOp op) r) (ha:PE X a ta):PE X (.UnaryOp op a pos) (tUn r ta):=by
 intro pins s σ H Q I h
 exact UnaryOp_ (thn (ha pins s σ H _ I h) fun v s1 ⟨x,H1,I1,r1,q1⟩=>ho pins s1 σ H1 x v Q I1 r1 q1)
theorem opI {f:Value→Value→Sem Value} {C:Int→Int→Prop} {g:Int→Int→Int}
  (rule:∀ (i j:Int) (t u:Tok) (s:Shared) (Q:Value→Shared→Prop) (E:Value→Shared→Prop),C i j→Q (.int (g i j) s.toks) { s with toks:=s.toks + 1 }→wpAny (model X.prog X.w) X.A (f (.int i t) (.int j u)) Q E s) :
  OpR X f (rI C fun i j=>.int (g i j)):=by
 intro pins s σ H x y v u Q I rx ry h
 obtain ⟨i,j,rfl,rfl,hc,q⟩:=h
 obtain ⟨t,rfl⟩:=rx
 obtain ⟨t',rfl⟩:=ry
 exact rule i j t t' s _ _ hc ⟨.int (g i j),H,I.tok _,⟨_,rfl⟩,q⟩
theorem Zok {f:Value→Value→Sem Value} {g:Int→Int→Int}
  (rule:∀ (i j:Int) (t u:Tok) (s:Shared) (Q:Value→Shared→Prop) (E:Value→Shared→Prop),Q (.int (g i j) s.toks) { s with toks:=s.toks + 1 }→wpAny (model X.prog X.w) X.A (f (.int i t) (.int j u)) Q E s) :
  OpR X f (rI0 fun i j=>.int (g i j)):=by
 intro pins s σ H x y v u Q I rx ry h
 obtain ⟨i,j,rfl,rfl,q⟩:=h
 obtain ⟨t,rfl⟩:=rx
 obtain ⟨t',rfl⟩:=ry
 exact rule i j t t' s _ _ ⟨.int (g i j),H,I.tok _,⟨_,rfl⟩,q⟩
theorem ZnQ {f:Value→Value→Sem Value} {g:Int→Int→Bool}
  (rule:∀ (i j:Int) (t u:Tok) (s:Shared) (Q:Value→Shared→Prop) (E:Value→Shared→Prop),Q (.bool (g i j)) s→wpAny (model X.prog X.w) X.A (f (.int i t) (.int j u)) Q E s) :
  OpR X f (rI0 fun i j=>.bl (g i j)):=by
 intro pins s σ H x y v u Q I rx ry h
 obtain ⟨i,j,rfl,rfl,q⟩:=h
 obtain ⟨t,rfl⟩:=rx
 obtain ⟨t',rfl⟩:=ry
 exact rule i j t t' s _ _ ⟨.bl (g i j),H,I,rfl,q⟩
def ZoV (i j:Int):Prop:=0 < j∧j < 1073741824
def ZoU (i j:Int):Prop:=0≤j∧j≤1000000∧i.natAbs < 2 ^ 64
def CMul (i j:Int):Prop:=(-(2 ^ 64) < i∧i < 2 ^ 64)∨(-(2 ^ 64) < j∧j < 2 ^ 64)
theorem CMul.ok {i j:Int} (h:CMul i j):IntMulOk i j:=by
 rcases h with ⟨h1,h2⟩ | ⟨h1,h2⟩
 ·exact .of_left (intBits_le_64 h1 h2)
 ·exact .of_right (intBits_le_64 h1 h2)
theorem ZO:OpR X (binaryOp .Add) (rI0 fun i j=>.int (i + j)):=Zok fun _ _ _ _ _ _ _ q=>add_int q
theorem Y7:OpR X (binaryOp .Sub) (rI0 fun i j=>.int (i - j)):=Zok fun _ _ _ _ _ _ _ q=>sub_int q
theorem Zg3:OpR X (binaryOp .Mult) (rI CMul fun i j=>.int (i * j)):=opI fun _ _ _ _ _ _ _ hc q=>mul_int q hc.ok
theorem Yz:OpR X (binaryOp .FloorDiv) (rI ZoV fun i j=>.int (i / j)):=opI fun i j _ _ _ _ _ hc q=>by
 have h1:(0:Int) < j:=hc.1
 have h2:j < 1073741824:=hc.2
 exact floordiv_int (by omega) (by rw [Int.fdiv_eq_ediv_of_nonneg i (by omega)]; exact q) (.inl (PyProof.noPylong_small (by omega)))
theorem Yl:OpR X (binaryOp .Mod) (rI (fun _ j=>0 < j) fun i j=>.int (i % j)):=opI fun i j _ _ _ _ _ hc q=>by
 have h1:(0:Int) < j:=hc
 exact mod_int' (by omega) (by rw [Int.fmod_eq_emod_of_nonneg i (by omega)]; exact q)
theorem ZmF:OpR X (binaryOp .Pow) (rI ZoU fun i j=>.int (i ^ j.toNat)):=opI fun _ _ _ _ _ _ _ hc q=>pow_int_small hc.1 hc.2.1 hc.2.2 q
theorem unI {f:Value→Sem Value} {g:Int→Int}
  (rule:∀ (i:Int) (t:Tok) (s:Shared) (Q:Value→Shared→Prop) (E:Value→Shared→Prop),Q (.int (g i) s.toks) { s with toks:=s.toks + 1 }→wpAny (model X.prog X.w) X.A (f (.int i t)) Q E s) :
  UnR X f (rU fun i=>.int (g i)):=by
 intro pins s σ H x v Q I rx h
 obtain ⟨i,rfl,q⟩:=h
 obtain ⟨t,rfl⟩:=rx
 exact rule i t s _ _ ⟨.int (g i),H,I.tok _,⟨_,rfl⟩,q⟩
theorem Je:UnR X (unaryOp .USub) (rU fun i=>.int (-i)):=unI fun _ _ _ _ _ q=>neg_int q
end
def Zoh:V→V→Bool
 | .non,.non=>true | .non,.int _=>true | .int _,.non=>true | .non,.bl _=>true | .bl _,.non=>true | .non,.str _=>true | .str _,.non=>true
 | .int _,.int _=>true | .bl _,.bl _=>true | .str _,.str _=>true | .byt _,.byt _=>true
 | .int _,.str _=>true | .str _,.int _=>true | .bl _,.str _=>true | .str _,.bl _=>true
 | _,_=>false
def rEq:R2:=fun x y H Q=>Zoh x y=true∧Q (.bl (decide (x=y))) H
def rNe:R2:=fun x y H Q=>Zoh x y=true∧Q (.bl (!decide (x=y))) H
theorem ZdE {i j:Int}:decide (V.int i=V.int j)=(i == j):=by
 rw [Bool.eq_iff_iff]
 simp
theorem Zkw {i j:Bool}:decide (V.bl i=V.bl j)=(i == j):=by
 rw [Bool.eq_iff_iff]
 simp
theorem dec_str {i j:Str}:decide (V.str i=V.str j)=(i == j):=by
 rw [Bool.eq_iff_iff]
 simp
theorem Zh2 {i j:Array UInt8}:decide (V.byt i=V.byt j)=(i.toList == j.toList):=by
 rw [Bool.eq_iff_iff]
 cases i
 cases j
 simp
section
variable {X:Cx} {a b c:Expr} {ta tb tc:TE} {pos:Pos}
theorem Zx {pins:List (Addr × Obj)} {σ:St} {H:Hp} {s:Shared} {Q:VK} {k k':Bool} (I:Inv X pins σ H s) (q:Q (.bl k) H) (e:k=k'):EP X pins σ Q (.bool k') s:=by
 subst e
 exact ⟨.bl k,H,I,rfl,q⟩
theorem XH:OpR X (compareOp .Eq) rEq:=by
 intro pins s σ H x y v u Q I rx ry h
 obtain ⟨hs,q⟩:=h
 cases x with
 | non =>
  cases rx
  cases y with
  | non=>cases ry; exact PySem.EqNone.eq_none_none (Zx I q (by simp))
  | bl j=>cases ry; exact PySem.EqNone.eq_none_bool (Zx I q (by simp))
  | int j=>obtain ⟨t',rfl⟩:=ry; exact PySem.EqNone.eq_none_int (Zx I q (by simp))
  | str j=>obtain ⟨t',rfl⟩:=ry; exact PySem.EqNone.eq_none_str (Zx I q (by simp))
  | _=>exact absurd (show false=true from hs) Bool.false_ne_true
 | bl i =>
  cases rx
  cases y with
  | non=>cases ry; exact PySem.EqNone.eq_bool_none (Zx I q (by simp))
  | bl j=>cases ry; exact eq_bool (Zx I q Zkw)
  | str j=>obtain ⟨t',rfl⟩:=ry; exact PySem.EqMixed.eq_bool_str (Zx I q (by simp))
  | _=>exact absurd (show false=true from hs) Bool.false_ne_true
 | int i =>
  obtain ⟨t,rfl⟩:=rx
  cases y with
  | non=>cases ry; exact PySem.EqNone.eq_int_none (Zx I q (by simp))
  | int j=>obtain ⟨t',rfl⟩:=ry; exact eq_int (Zx I q ZdE)
  | str j=>obtain ⟨t',rfl⟩:=ry; exact PySem.EqMixed.eq_int_str (Zx I q (by simp))
  | _=>exact absurd (show false=true from hs) Bool.false_ne_true
 | str i =>
  obtain ⟨t,rfl⟩:=rx
  cases y with
  | non=>cases ry; exact PySem.EqNone.eq_str_none (Zx I q (by simp))
  | bl j=>cases ry; exact PySem.EqMixed.eq_str_bool (Zx I q (by simp))
  | int j=>obtain ⟨t',rfl⟩:=ry; exact PySem.EqMixed.eq_str_int (Zx I q (by simp))
  | str j=>obtain ⟨t',rfl⟩:=ry; exact eq_str (Zx I q dec_str)
  | _=>exact absurd (show false=true from hs) Bool.false_ne_true
 | byt i =>
  obtain ⟨t,rfl⟩:=rx
  cases y with
  | byt j=>obtain ⟨t',rfl⟩:=ry; exact PySem.W.eq_bytes (Zx I q Zh2)
  | _=>exact absurd (show false=true from hs) Bool.false_ne_true
 | _=>cases y <;> exact absurd (show false=true from hs) Bool.false_ne_true
theorem Zfh:OpR X (compareOp .NotEq) rNe:=by
 intro pins s σ H x y v u Q I rx ry h
 obtain ⟨hs,q⟩:=h
 cases x with
 | non =>
  cases rx
  cases y with
  | non=>cases ry; exact PySem.EqNone.ne_none_none (Zx I q (by simp))
  | bl j=>cases ry; exact PySem.EqNone.ne_none_bool (Zx I q (by simp))
  | int j=>obtain ⟨t',rfl⟩:=ry; exact PySem.EqNone.ne_none_int (Zx I q (by simp))
  | str j=>obtain ⟨t',rfl⟩:=ry; exact PySem.EqNone.ne_none_str (Zx I q (by simp))
  | _=>exact absurd (show false=true from hs) Bool.false_ne_true
 | bl i =>
  cases rx
  cases y with
  | non=>cases ry; exact PySem.EqNone.ne_bool_none (Zx I q (by simp))
  | bl j=>cases ry; exact ne_bool (Zx I q (congrArg not Zkw))
  | str j=>obtain ⟨t',rfl⟩:=ry; exact PySem.EqMixed.ne_bool_str (Zx I q (by simp))
  | _=>exact absurd (show false=true from hs) Bool.false_ne_true
 | int i =>
  obtain ⟨t,rfl⟩:=rx
  cases y with
  | non=>cases ry; exact PySem.EqNone.ne_int_none (Zx I q (by simp))
  | int j=>obtain ⟨t',rfl⟩:=ry; exact ne_int (Zx I q (congrArg not ZdE))
  | str j=>obtain ⟨t',rfl⟩:=ry; exact PySem.EqMixed.ne_int_str (Zx I q (by simp))
  | _=>exact absurd (show false=true from hs) Bool.false_ne_true
 | str i =>
  obtain ⟨t,rfl⟩:=rx
  cases y with
  | non=>cases ry; exact PySem.EqNone.ne_str_none (Zx I q (by simp))
  | bl j=>cases ry; exact PySem.EqMixed.ne_str_bool (Zx I q (by simp))
  | int j=>obtain ⟨t',rfl⟩:=ry; exact PySem.EqMixed.ne_str_int (Zx I q (by simp))
  | str j=>obtain ⟨t',rfl⟩:=ry; exact ne_str (Zx I q (congrArg not dec_str))
  | _=>exact absurd (show false=true from hs) Bool.false_ne_true
 | byt i =>
  obtain ⟨t,rfl⟩:=rx
  cases y with
  | byt j=>obtain ⟨t',rfl⟩:=ry; exact PySem.W.ne_bytes (Zx I q (congrArg not Zh2))
  | _=>exact absurd (show false=true from hs) Bool.false_ne_true
 | _=>cases y <;> exact absurd (show false=true from hs) Bool.false_ne_true
theorem ZmG:OpR X (compareOp .Lt) (rI0 fun i j=>.bl (decide (i < j))):=ZnQ fun _ _ _ _ _ _ _ q=>lt_int q
theorem Zll:OpR X (compareOp .LtE) (rI0 fun i j=>.bl (decide (i≤j))):=ZnQ fun _ _ _ _ _ _ _ q=>le_int q
theorem Zfi:OpR X (compareOp .Gt) (rI0 fun i j=>.bl (decide (j < i))):=ZnQ fun _ _ _ _ _ _ _ q=>gt_int q
theorem Zkd:OpR X (compareOp .Is) (fun x y H Q=>y = .non∧Q (.bl (decide (x = .non))) H):=by
 intro pins s σ H x y v u Q I rx ry h
 obtain ⟨rfl,q⟩:=h
 cases ry
 refine is_none_gen (Zx I q ?_)
 cases x <;> first
  | (cases rx; rfl)
  | (obtain ⟨t,rfl⟩:=rx; rfl)
theorem Zg2:OpR X (compareOp .IsNot) (fun x y H Q=>y = .non∧Q (.bl (!decide (x = .non))) H):=by
 intro pins s σ H x y v u Q I rx ry h
 obtain ⟨rfl,q⟩:=h
 cases ry
 refine isnot_none_gen (Zx I q ?_)
 cases x <;> first
  | (cases rx; rfl)
  | (obtain ⟨t,rfl⟩:=rx; rfl)
theorem Zw (b:Expr) {op:CmpOp} (h:op≠.In:=by decide) (h2:op≠.NotIn:=by decide):behindInMarks op b=false:=by
 have e1:(op == CmpOp.In)=false:=by cases op <;> first | rfl | exact absurd rfl h
 have e2:(op == CmpOp.NotIn)=false:=by cases op <;> first | rfl | exact absurd rfl h2
 cases b <;> simp [behindInMarks,e1,e2]
theorem Xk {op:CmpOp} {r:R2} (ho:OpR X (compareOp op) r) (ha:PE X a ta) (hb:PE X b tb) (hm:behindInMarks op b=false):PE X (.Compare a [op] [b] pos) (tOp r ta tb):=by
 intro pins s σ H Q I h
 exact wpAny_Compare1 (Zn5 ha hb I h fun v u s2 x y H2 I2 rx ry q=>ho pins s2 σ H2 x y v u Q I2 rx ry q) hm
def Zl9 (t:TE):TT:=fun σ H Q=>t σ H fun x H'=>∃ k,x = .bl k∧Q k H'
theorem Zv {op:CmpOp} {r:R2} (ho:OpR X (compareOp op) r) (ha:PE X a ta) (hb:PE X b tb) (hm:behindInMarks op b=false):PT X (.Compare a [op] [b] pos) (Zl9 (tOp r ta tb)):=by
 intro pins s σ H Q I h
 refine wpAny_isTrue_Compare1 (thn (ha pins s σ H _ I h) fun v s1 ⟨x,H1,I1,r1,q1⟩=>thn (hb pins s1 σ H1 _ I1 q1) fun u s2 ⟨y,H2,I2,r2,q2⟩ =>
  thn (ho pins s2 σ H2 x y v u _ I2 r1 r2 q2) fun c s3 ⟨z,H3,I3,r3,k,e,q3⟩=>?_) hm
 subst e
 cases r3
 exact wpAny_truthy_bool ⟨H3,I3,q3⟩
def ZoR (K:PySem.W.Frag) (x:V) (H:Hp) (k:Bool):Prop :=
 match x with
 | .non=>k=false
 | .bl b=>k=b
 | .int i=>k=(i != 0)
 | .str y=>y.length≤sizeLine∧k=((y.length:Int) != 0)
 | .byt y=>y.size≤sizeLine∧k=((y.size:Int) != 0)
 | .ref p=>(∃ xs,SqL K H p xs∧k = !xs.isEmpty)∨(∃ xs,SqT K H p xs∧k = !xs.isEmpty)∨∃ kvs,H p=some (.dK kvs)∧k = !kvs.isEmpty
 | _=>False
theorem Zfw {κ:Type} {kvs:List (κ × V)} {vs:List (κ × Value)} (r:KV kvs vs):(!vs.isEmpty) = !kvs.isEmpty:=by
 cases r <;> rfl
theorem ZaM {xs:List V} {its:List Value} (r:Vals xs its):(!its.toArray.isEmpty) = !xs.isEmpty:=by
 cases r <;> simp
theorem J7:(sizeLine:Nat) < 2 ^ 63:=by rw [sizeLine_eq]; decide
theorem Zof:ZoS X (fun x H Q=>∃ k,ZoR X.K x H k∧Q k H):=by
 intro pins s σ H x v Q I rx h
 obtain ⟨k,e,q⟩:=h
 have hl:=J7
 have hs:sizeLine=16777216:=sizeLine_eq
 cases x with
 | non =>
  cases rx
  have e':k=false:=e
  subst e'
  exact truthy_none ⟨H,I,q⟩
 | bl b =>
  cases rx
  have e':k=b:=e
  subst e'
  exact wpAny_truthy_bool ⟨H,I,q⟩
 | int i =>
  obtain ⟨t,rfl⟩:=rx
  have e':k=(i != 0):=e
  subst e'
  exact PySem.P.truthy_int ⟨H,I,q⟩
 | str y =>
  obtain ⟨t,rfl⟩:=rx
  obtain ⟨hy,e'⟩:y.length≤sizeLine∧k=((y.length:Int) != 0):=e
  subst e'
  exact PySem.P.truthy_str (by omega) ⟨H,I.tok _,q⟩
 | byt y =>
  obtain ⟨t,rfl⟩:=rx
  obtain ⟨hy,e'⟩:y.size≤sizeLine∧k=((y.size:Int) != 0):=e
  subst e'
  exact PySem.W.truthy_bytes (by omega) ⟨H,I.tok _,q⟩
 | ref p =>
  cases rx
  have e':(∃ xs,SqL X.K H p xs∧k = !xs.isEmpty)∨(∃ xs,SqT X.K H p xs∧k = !xs.isEmpty)∨∃ kvs,H p=some (.dK kvs)∧k = !kvs.isEmpty:=e
  rcases e' with ⟨xs,hx,e'⟩ | ⟨xs,hx,e'⟩ | ⟨kvs,hx,e'⟩
  ·subst e'
   obtain ⟨its,r,pl,hz⟩:=I.list hx
   have hlen:=r.length
   exact wpAny_truthy_list pl.isList (by simp only [List.size_toArray]; omega) ⟨H,I.tok _,by rw [ZaM r]; exact q⟩
  ·subst e'
   obtain ⟨its,r,pl,hz⟩:=I.tuple hx
   have hlen:=r.length
   exact truthy_tuple pl (by simp only [List.size_toArray]; omega) ⟨H,I.tok _,by rw [ZaM r]; exact q⟩
  ·subst e'
   obtain ⟨hz,hS,vs,r,m⟩:kvs.length≤sizeLine∧(p == sysModules)=false∧∃ vs,KV kvs vs∧s.heap.DictOf (Zn X.prog X.w) p vs:=I.hok p _ hx
   have hlen:kvs.length=vs.length:=Paired.length r
   exact wpAny_truthy_dict hS m (by omega) ⟨H,I.tok _,by rw [Zfw r]; exact q⟩
 | _=>exact (show False from e).elim
theorem Y0:OpR X (binaryOp .Add) (fun x y H Q=>∃ i j,x = .str i∧y = .str j∧i.length + j.length≤sizeLine∧Q (.str (i ++ j)) H):=by
 intro pins s σ H x y v u Q I rx ry h
 obtain ⟨i,j,rfl,rfl,hz,q⟩:=h
 obtain ⟨t,rfl⟩:=rx
 obtain ⟨t',rfl⟩:=ry
 exact add_str (fun t' tk=>⟨.str (i ++ j),H,I.tok _,⟨_,rfl⟩,q⟩) hz
theorem Xu {x:V} {us:List Value} (r:Vals [x] us):∃ u,us=[u]∧RelV x u:=by
 cases r with
 | cons r1 r2=>cases r2; exact ⟨_,rfl,r1⟩
theorem Znr {x y:V} {us:List Value} (r:Vals [x,y] us):∃ u w',us=[u,w']∧RelV x u∧RelV y w':=by
 cases r with
 | cons r1 r2 =>
  cases r2 with
  | cons r3 r4=>cases r4; exact ⟨_,_,rfl,r1,r3⟩
def Zod (K:PySem.W.Frag) (x:V) (H:Hp) (n:Nat):Prop :=
 match x with
 | .str y=>y.length≤sizeLine∧n=y.length
 | .byt y=>y.size≤sizeLine∧n=y.size
 | .ref p=>(∃ xs,SqL K H p xs∧n=xs.length)∨∃ xs,SqT K H p xs∧n=xs.length
 | _=>False
theorem ZB:CallR X (.builtin "len") (fun xs H Q=>∃ x n,xs=[x]∧Zod X.K x H n∧Q (.int n) H):=by
 intro pins s σ H xs us Q I r h
 obtain ⟨x,n,rfl,e,q⟩:=h
 obtain ⟨u,rfl,rx⟩:=Xu r
 have hl:=J7
 have hs:sizeLine=16777216:=sizeLine_eq
 cases x with
 | str y =>
  obtain ⟨t,rfl⟩:=rx
  obtain ⟨hy,e'⟩:y.length≤sizeLine∧n=y.length:=e
  subst e'
  exact len_str (by omega) ⟨.int _,H,I.tok _,⟨_,rfl⟩,q⟩
 | byt y =>
  obtain ⟨t,rfl⟩:=rx
  obtain ⟨hy,e'⟩:y.size≤sizeLine∧n=y.size:=e
  subst e'
  exact PySem.W.len_bytes (by omega) ⟨.int _,H,I.tok _,⟨_,rfl⟩,q⟩
 | ref p =>
  cases rx
  have e':(∃ xs,SqL X.K H p xs∧n=xs.length)∨∃ xs,SqT X.K H p xs∧n=xs.length:=e
  rcases e' with ⟨xs,hx,e'⟩ | ⟨xs,hx,e'⟩
  ·subst e'
   obtain ⟨its,r',pl,hz⟩:=I.list hx
   have hlen:=r'.length
   exact Calls.call_len_list pl.isList (by simp only [List.size_toArray]; omega) ⟨.int xs.length,H,I.tok _,⟨_,by simp only [List.size_toArray]; rw [hlen]⟩,q⟩
  ·subst e'
   obtain ⟨its,r',pl,hz⟩:=I.tuple hx
   have hlen:=r'.length
   exact len_tuple pl (by simp only [List.size_toArray]; omega) ⟨.int xs.length,H,I.tok _,⟨_,by simp only [List.size_toArray]; rw [hlen]⟩,q⟩
 | _=>exact (show False from e).elim
end
structure ObjM (h:Heap) (x dx C:Addr) (mA:Str→Option Value):Prop where
 obj:h.get? x=some (PySem.W.instObj C dx)
 ns:h.Ns1 dx mA
 ne:dx≠x
theorem Zhr {h:Heap} {dx:Addr} {mA:Str→Option Value} (n:h.Ns1 dx mA):∃ od,h.get? dx=some od∧∀ name,PySem.W.lookIn name od=some (mA name):=by
 obtain ⟨o,es,ep,ho,hd,hk,_,hm⟩:=n
 refine ⟨o,ho,fun name=>?_⟩
 have e:=hm name
 unfold nsFind findBy at e
 rw [← Array.find?_toList] at e
 unfold PySem.W.lookIn
 rw [hd]
 dsimp only
 split
 ·rename_i y q
  rw [q] at e
  exact congrArg some e
 ·rename_i q
  rw [q] at e
  have a:es.toList.any (·.refKey)=false:=by
   rw [List.any_eq_false]
   intro y hy
   obtain ⟨z,t,hkey⟩:=hk y (Array.mem_toList_iff.mp hy)
   simp [DictEntry.refKey,hkey]
  have a':¬ es.toList.any (·.refKey)=true:=by rw [a]; exact Bool.false_ne_true
  rw [if_neg a']
  exact congrArg some e
theorem ObjM.look {h:Heap} {x dx C:Addr} {mA:Str→Option Value} (I:ObjM h x dx C mA):∃ od,PySem.W.InstAt h x (PySem.W.instObj C dx) C (some od)∧∀ name,PySem.W.lookIn name od=some (mA name) :=
 let ⟨od,ho,hl⟩:=Zhr I.ns
 ⟨od,⟨I.obj,rfl,rfl,ho⟩,hl⟩
section
variable {prog:Program} {w:World} {A:Around} {E:Value→Shared→Prop} {s:Shared} {K:PySem.W.Frag} {x dx C f:Addr} {mA:Str→Option Value} {name:Str} {v:Value}
end
theorem RelO.some_of {v:V} {o:Option Value} (r:RelO (some v) o):∃ u,o=some u∧RelV v u:=by
 cases o with
 | none=>exact (show False from r).elim
 | some u=>exact ⟨u,rfl,r⟩
section
variable {P:Program} {w:World} {H H':Hp} {h h':Heap} {a C dx:Addr} {fs fs':List (Str × V)}
theorem ZlE (hok:HOk P w H h) (e:H a=some (.ins C dx fs)):∃ mA,ObjM h a dx C mA∧(∀ f,RelO (fs.lookup f) (mA f))∧PySem.Within mA (fs.map (·.1))∧fs.length≤1000∧H dx=some (.own a):=by
 obtain ⟨d,z,ne,ob,mA,n,r,q⟩:=(show ObjOk P w H h a (.ins C dx fs) from hok a _ e)
 exact ⟨mA,⟨ob,n,ne⟩,r,q,z,d⟩
end
structure Cls (K:PySem.W.Frag) (C:Addr):Prop where
 pg:PySem.W.plainGet K C Str.empty=true
 hd:PySem.W.hasDictIn K C=true
 po:PySem.W.plainOver K C=true
 sa:PySem.W.findIn K (.ref C) "__setattr__" = some (some (.builtin "object.__setattr__"))
theorem Cls.get {K:PySem.W.Frag} {C:Addr} (c:Cls K C) (f:Str):PySem.W.plainGet K C f=true:=c.pg
section
variable {X:Cx} {pins:List (Addr × Obj)} {σ:St} {H:Hp} {s:Shared} {a C dx:Addr} {fs:List (Str × V)} {f:Str} {v:V} {A:Around} {E:Value→Shared→Prop}
end
section
variable {X:Cx} {o e value:Expr} {f:Str} {pos pos' tpos:Pos} {ta tv:TE}
end
section
variable {X:Cx} {pins:List (Addr × Obj)} {σ:St} {H:Hp} {s:Shared} {A:Around} {E:Value→Shared→Prop} {Q:Value→Shared→Prop} {c:Value} {b:Bool}
inductive Ze1 (K:PySem.W.Frag) (H:Hp):V→Value→Prop where
 | non:Ze1 K H .non (.type "NoneType")
 | bl (x:Bool):Ze1 K H (.bl x) (.type "bool")
 | int (i:Int):Ze1 K H (.int i) (.type "int")
 | str (x:Str):Ze1 K H (.str x) (.type "str")
 | flt (x:UInt64):Ze1 K H (.flt x) (.type "float")
 | lst {a:Addr} {xs:List V} (e:H a=some (.lst xs)):Ze1 K H (.ref a) (.type "list")
 | frz {a:Addr} {o:Obj} {xs:List V} (e:H a=some (.frz o (.lst xs))):Ze1 K H (.ref a) (.type "list")
 | tup {a:Addr} {xs:List V} (e:H a=some (.tup xs)):Ze1 K H (.ref a) (.type "tuple")
 | dK {a:Addr} {kvs:List (Key × V)} (e:H a=some (.dK kvs)):Ze1 K H (.ref a) (.type "dict")
 | dT {a:Addr} {kvs:List (List Key × V)} (e:H a=some (.dT kvs)):Ze1 K H (.ref a) (.type "dict")
 | ins {a C dx:Addr} {fs:List (Str × V)} (e:H a=some (.ins C dx fs)) (cl:Cls K C) (ha:PySem.W.findIn K (.ref C) "__class__" = some (some (.builtin "object.__class__")))
   (hn:PySem.W.specialIn K (.builtin "object.__class__") "__get__" = some (some (.builtin "getset_descriptor.__get__"))) (htk:PySem.W.takesIn K (.builtin "object.__class__")=some true)
   (hm:PySem.W.mroIn K C (.type "object")=some true):Ze1 K H (.ref a) (.ref C)
theorem ZhC {x:V} {u t:Value} (I:Inv X pins σ H s) (rx:RelV x u) (ty:Ze1 X.K H x t) (e:PySem.W.kitOne X.K t c=some b) (h:∀ tk,Q (.bool b) { s with toks:=tk }) :
  wpAny (model X.prog X.w) A (call (.builtin "isinstance") [u,c]) Q E s:=by
 cases ty with
 | non=>cases (show u=Value.none from rx); exact PySem.W.kia_one PySem.W.kitx_none I.kIn True.intro e (fun z=>nomatch z) h
 | bl y=>cases (show u=Value.bool y from rx); exact PySem.W.kia_one PySem.W.kitx_bool I.kIn True.intro e (fun z=>nomatch z) h
 | int i=>obtain ⟨t,q⟩:=(show ∃ t,u=Value.int i t from rx); cases q; exact PySem.W.kia_one PySem.W.kitx_int I.kIn True.intro e (fun z=>nomatch z) h
 | str y=>obtain ⟨t,q⟩:=(show ∃ t,u=Value.str y t from rx); cases q; exact PySem.W.kia_one PySem.W.kitx_str I.kIn True.intro e (fun z=>nomatch z) h
 | flt y=>obtain ⟨t,q⟩:=(show ∃ t,u=Value.float y t from rx); cases q; exact PySem.W.kia_one PySem.W.kitx_float I.kIn True.intro e (fun z=>nomatch z) h
 | @lst a xs ea =>
  cases (show u=Value.ref a from rx)
  obtain ⟨_,_,n,_,h1⟩:=(show ObjOk X.prog X.w H s.heap a (.lst xs) from I.hok a _ ea)
  exact PySem.W.kia_one PySem.W.kitx_list I.kIn ⟨_,h1,rfl⟩ e (fun z=>nomatch z) h
 | @frz a ob xs ea =>
  cases (show u=Value.ref a from rx)
  obtain ⟨_,_,_,n,_,h1⟩:=(show ObjOk X.prog X.w H s.heap a (.frz ob (.lst xs)) from I.hok a _ ea)
  exact PySem.W.kia_one PySem.W.kitx_list I.kIn ⟨_,h1,rfl⟩ e (fun z=>nomatch z) h
 | @tup a xs ea =>
  cases (show u=Value.ref a from rx)
  obtain ⟨_,_,_,p,_⟩:=(show ObjOk X.prog X.w H s.heap a (.tup xs) from I.hok a _ ea)
  obtain ⟨o,h1,h2,_⟩:=p
  exact PySem.W.kia_one PySem.W.kitx_tuple I.kIn ⟨o,h1,h2⟩ e (fun z=>nomatch z) h
 | @dK a kvs ea =>
  cases (show u=Value.ref a from rx)
  obtain ⟨_,_,vs,_,p⟩:=(show ObjOk X.prog X.w H s.heap a (.dK kvs) from I.hok a _ ea)
  obtain ⟨o,es,ep,h1,h2,_⟩:=p
  exact PySem.W.kia_one PySem.W.kitx_dict I.kIn ⟨o,h1,h2.1⟩ e (fun z=>nomatch z) h
 | @dT a kvs ea =>
  cases (show u=Value.ref a from rx)
  obtain ⟨_,_,xs,_,o,es,ep,h1,h2,_⟩:=(show ObjOk X.prog X.w H s.heap a (.dT kvs) from I.hok a _ ea)
  exact PySem.W.kia_one PySem.W.kitx_dict I.kIn ⟨o,h1,h2.1⟩ e (fun z=>nomatch z) h
 | @ins a C dx fs ea cl ha hn htk hm =>
  cases (show u=Value.ref a from rx)
  obtain ⟨mA,O,_⟩:=ZlE I.hok ea
  obtain ⟨od,J,_⟩:=O.look
  exact PySem.W.kia_one (PySem.W.kitx_own (cl.get _) cl.hd ha hn htk hm) I.kIn J e (fun z=>nomatch z) h
end
structure Room (k:Nat) (A:Around):Prop where
 hd:A.handled=none
 dp:A.depth + 3 * k + 5 < recursionLimit
 un:A.units + 16 * k + 200 < cLine
theorem Room.mono {j k:Nat} {A:Around} (r:Room k A) (h:j≤k):Room j A:=⟨r.hd,by have:=r.dp; omega,by have:=r.un; omega⟩
theorem Room.deeper {k:Nat} {A:Around} (r:Room (k + 1) A) (env:Env):Room k (A.deeper env) :=
 ⟨r.hd,by have:=r.dp; show A.depth + 1 + 3 * k + 5 < _; omega,by have:=r.un; show A.units + 3 + 16 * k + 200 < _; omega⟩
theorem Room.depth {k:Nat} {A:Around} (r:Room k A):A.depth < recursionLimit:=by have:=r.dp; omega
theorem Room.units {k:Nat} {A:Around} (r:Room k A):A.units + 64 < cLine:=by have:=r.un; omega
def Zog:TA:=fun _ H Q=>Q [] H
def Zme (ta:TE) (tr:TA):TA:=fun σ H Q=>ta σ H fun x H1=>tr σ H1 fun xs H2=>Q (x :: xs) H2
section
variable {X:Cx} {e:Expr} {es:List Expr} {te:TE} {t:TA} {pos:Pos}
theorem Ze:PA X [] Zog:=fun _ _ _ _ H Q I h=>Calls.spliced_nil ⟨[],H,I,.nil,h⟩
theorem Za (ha:PE X e te) (hr:PA X es t) (hs:starEach (e :: es) X.env=(false,eval e X.env) :: starEach es X.env:=by rfl):PA X (e :: es) (Zme te t):=by
 intro pos pins s σ H Q I h
 rw [hs]
 show wpAny _ _ (spliced ((false,eval e X.env) :: backTo pos (starEach es X.env))) _ _ s
 refine Calls.spliced_cons (thn (ha pins s σ H _ I h) fun u s1 ⟨x,H1,I1,r1,q1⟩=>?_)
 exact thn (hr pos pins s1 σ H1 _ I1 q1) fun us s2 ⟨xs,H2,I2,r2,q2⟩=>⟨x :: xs,H2,I2,.cons r1 r2,q2⟩
def Zov (t:TA):TE:=fun σ H Q=>t σ H fun xs H1=>xs.length≤sizeLine∧∀ p,H1 p=none→Q (.ref p) (upd H1 p (.tup xs))
def Zoy (t:TA):TE:=fun σ H Q=>t σ H fun xs H1=>xs.length≤sizeLine∧∀ p,H1 p=none→Q (.ref p) (upd H1 p (.lst xs))
theorem ZaD {x1} (h:PA X es t):PE X (.Tuple es x1 pos) (Zov t):=by
 intro pins s σ H Q I hq
 refine wpAny_Tuple_spliced (thn (h pos pins s σ H _ I hq) fun us s1 ⟨xs,H1,I1,r,z,q⟩=>⟨by rw [← r.length]; exact z,?_⟩)
 have hf:H1 s1.heap.objs.size=none:=I1.hok.fresh (Nat.le_refl _)
 refine ⟨.ref s1.heap.objs.size,upd H1 s1.heap.objs.size (.tup xs),I1.laid (t':=s1.toks) (fun b u e=>Heap.get?_push_of_some _ e) (Nat.le_refl _) ?_,rfl,q _ hf⟩
 exact ⟨z,us,r,⟨_,Heap.get?_push_size _ rfl,rfl,_,rfl⟩,Zex rfl rfl⟩
theorem ZaF (h:PA X es t):PE X (.List es pos) (Zoy t):=by
 intro pins s σ H Q I hq
 refine wpAny_List_spliced (thn (h pos pins s σ H _ I hq) fun us s1 ⟨xs,H1,I1,r,z,q⟩=>⟨by rw [← r.length]; exact z,?_⟩)
 have hf:H1 s1.heap.objs.size=none:=I1.hok.fresh (Nat.le_refl _)
 refine ⟨.ref s1.heap.objs.size,upd H1 s1.heap.objs.size (.lst xs),I1.laid (t':=s1.toks) (fun b u e=>Heap.get?_push_of_some _ e) (Nat.le_refl _) ?_,rfl,q _ hf⟩
 exact ⟨z,us,0,r,Heap.get?_push_size _ rfl⟩
end
abbrev Sp:=List V→Hp→VK→XK→Prop
abbrev CXT:=List Env→Hp→Shared→XK→Value→Shared→Prop
structure Znm (P:Program) (w:World) (K:PySem.W.Frag) (mg:Str→Option Value) (base:Heap) (A:Around) (outer:List Env) (s:Shared) (H:Hp):Prop where
 frames:A.frames=some outer
 mod:Mod K mg base
 bs:∀ b o,base.get? b=some o→s.heap.get? b=some o∧H b=none
 bsz:base.objs.size≤s.heap.objs.size
 funs:s.heap.FunFrames base outer
 frf:∀ b∈frs outer,H b=none
 hok:HOk P w H s.heap
 bare:AllBare s.gens
def CE (outer:List Env) (P:Program) (w:World) (H:Hp) (s:Shared) (Q:VK) (u:Value) (s':Shared):Prop :=
 ∃ v H',s'.os=s.os∧AllBare s'.gens∧Un (frs outer) [] H H' s.heap s'.heap∧HOk P w H' s'.heap∧RelV v u∧Q v H'
def CR (CX:CXT) (outer:List Env) (P:Program) (w:World) (H:Hp) (s:Shared) (Q:VK) (E:XK) (r:Result) (s':Shared):Prop :=
 match r with
 | .ok (.ret u)=>CE outer P w H s Q u s'
 | .ok _=>False
 | .error e=>CX outer H s E e s'
structure FnOk (P:Program) (w:World) (K:PySem.W.Frag) (mg:Str→Option Value) (base:Heap) (CX:CXT) (k:Nat) (f:Addr) (fd:FuncData) (ps:List Str) (sp:Sp):Prop where
 len:∀ vs H Q E,sp vs H Q E→vs.length=ps.length
 run:∀ (A:Around) (outer:List Env) (s:Shared) (H:Hp) (args:Args) (us:List Value) (vs:List V) (Q:VK) (E:XK),Room k A→Znm P w K mg base A outer s H→BindsTo s fd args (ps.zip us)→Vals vs us→sp vs H Q E →
  codeAny (model P w) A (.call (.ref f) args) (CR CX outer P w H s Q E) s
theorem FnOk.mono {P:Program} {w:World} {K:PySem.W.Frag} {mg:Str→Option Value} {base:Heap} {CX:CXT} {j k:Nat} {f:Addr} {fd:FuncData} {ps:List Str} {sp:Sp} (F:FnOk P w K mg base CX j f fd ps sp) (h:j≤k) :
  FnOk P w K mg base CX k f fd ps sp:=⟨F.len,fun A outer s H args us vs Q E hr=>F.run A outer s H args us vs Q E (hr.mono h)⟩
section
variable {X:Cx} {pins:List (Addr × Obj)} {σ:St} {H:Hp} {s s':Shared}
theorem Inv.env0 (I:Inv X pins σ H s):Znm X.prog X.w X.K X.mg X.base X.A X.stack s H :=
 ⟨I.ok.frames,I.ok.mod,I.bs,Nat.le_trans I.ok.bsz I.sz,I.stack,I.stkFree,I.hok,I.bare⟩
theorem Inv.after {Q:VK} {u:Value} (I:Inv X pins σ H s) (h:CE X.stack X.prog X.w H s Q u s'):EP X pins σ Q u s':=by
 obtain ⟨v,H',os,bare,un,hok,r,q⟩:=h
 obtain ⟨hh,g,d,t,os'⟩:=s'
 obtain rfl:os'=s.os:=os
 exact ⟨v,H',I.call (h':=hh) (g':=g) (d':=d) (t':=t) (ch:=[]) un hok bare (fun b z=>absurd z (by simp)),r,q⟩
end
def Zmf (sp:Sp) (dvs:List V) (E:XK) (t:TA):TE:=fun σ H Q=>t σ H fun vs H1=>sp (vs ++ dvs) H1 Q E
def Binds (K:PySem.W.Frag) (fd:FuncData) (ps:List Str) (ds:List Value):Prop :=
 ∀ (s:Shared) (us:List Value),K.In s.heap→(us ++ ds).length=ps.length→BindsTo s fd ⟨us,[]⟩ (ps.zip (us ++ ds))
theorem Binds.all {K:PySem.W.Frag} {fd:FuncData} {ps:List Str} (h:∀ us:List Value,us.length=ps.length→bindArgs fd ⟨us,[]⟩=pure (ps.zip us)):Binds K fd ps []:=fun s us _ hl=>by
 rw [List.append_nil] at hl ⊢
 exact .of_eq (h us hl)
def Zip (CX:CXT) (X:Cx) (E:XK):Prop:=∀ (pins:List (Addr × Obj)) (σ:St) (H:Hp) (s:Shared) (e:Value) (s':Shared),Inv X pins σ H s→CX X.stack H s E e s'→X.xe e s'
section
variable {X:Cx} {CX:CXT} {k:Nat} {f C:Addr} {fd:FuncData} {ps:List Str} {sp:Sp} {dvs:List V} {ds:List Value} {E:XK} {x m:Str} {p pos apos:Pos} {e o:Expr} {es:List Expr} {ta:TE} {t:TA}
theorem Zmo {pins:List (Addr × Obj)} {σ:St} {H:Hp} {s:Shared} {Q:VK} {us:List Value} {vs:List V} (F:FnOk X.prog X.w X.K X.mg X.base CX k f fd ps sp) (hr:Room k X.A) (hb:Binds X.K fd ps ds) (hd:Vals dvs ds) (hx:Zip CX X E)
  (I:Inv X pins σ H s) (r:Vals vs us) (h:sp (vs ++ dvs) H Q E):wpAny (model X.prog X.w) X.A (call (.ref f) us) (EP X pins σ Q) X.xe s:=by
 have r2:Vals (vs ++ dvs) (us ++ ds):=r.append hd
 have hl:(us ++ ds).length=ps.length:=by rw [← r2.length]; exact F.len _ _ _ _ h
 refine wpAny_call (codeAny_mono (F.run X.A X.stack s H ⟨us,[]⟩ (us ++ ds) (vs ++ dvs) Q E hr I.env0 (hb s us I.kIn hl) r2 h) fun r s' hq=>?_)
 cases r with
 | error e=>exact hx pins σ H s e s' I hq
 | ok fl =>
  cases fl with
  | ret u=>exact I.after hq
  | next=>exact False.elim hq
  | brk=>exact False.elim hq
  | cont=>exact False.elim hq
theorem Zlf (F:FnOk X.prog X.w X.K X.mg X.base CX k f fd ps sp) (hr:Room k X.A) (hg:Gl X x) (hm:X.mg x=some (.ref f)) (hk:PySem.W.keepIn X.K (.ref f)=true) (hb:Binds X.K fd ps ds) (hd:Vals dvs ds) (hx:Zip CX X E)
  (ha:PA X (e :: es) t) (hdb:(x == ("__debug__" : Str))=false:=by decide) (he:starEach (e :: es) X.env=(false,eval e X.env) :: starEach es X.env:=by rfl) (hpl:(backTo pos (starEach es X.env)).any (·.1)=false:=by rfl) :
  PE X (.Call (.Name x p) (e :: es) [] pos) (Zmf sp dvs E t):=by
 intro pins s σ H Q I h
 refine wpAny_Call_Name_kw (Zlw I hg hm ?_ hdb)
 refine PySem.W.callWith_K (h₀:=X.base) I.ok.mod.kin hk (thn (ha pos pins s σ H _ I h) fun us s1 ⟨vs,H1,I1,r,q⟩=>⟨I1.kIn,?_⟩) he hpl
 exact Zmo F hr hb hd hx I1 r q
end
def PK (X:Cx) (kws:List Keyword) (t:TA):Prop :=
 ∀ (pos:Pos) (pins:List (Addr × Obj)) (s:Shared) (σ:St) (H:Hp) (Q:List V→Hp→Prop),Inv X pins σ H s→t σ H Q→wpAny (model X.prog X.w) X.A (evalAll ((backToKw pos (keywordEach kws X.env)).map (·.2))) (AP X pins σ Q) X.xe s
section
variable {X:Cx} {CX:CXT} {k:Nat} {f C:Addr} {fd:FuncData} {ps ks:List Str} {sp:Sp} {E:XK} {x m:Str} {p pos apos kpos:Pos} {e o:Expr} {es:List Expr} {kws:List Keyword} {te ta:TE} {t tk:TA} {nm:Option Str}
theorem Zmu:PK X [] Zog:=fun _ _ _ _ H Q I h=>wpAny_evalAll_nil ⟨[],H,I,.nil,h⟩
theorem Zlb (ha:PE X e te) (hr:PK X kws t):PK X (⟨nm,e,kpos⟩ :: kws) (Zme te t):=by
 intro pos pins s σ H Q I h
 show wpAny _ _ (evalAll ((do let v ← eval e X.env; standAt pos; pure v) :: (backToKw pos (keywordEach kws X.env)).map (·.2))) _ _ s
 refine wpAny_evalAll_cons (wpAny_bind (thn (ha pins s σ H _ I h) fun u s1 ⟨x,H1,I1,r1,q1⟩=>wpAny_bind (wpAny_standAt (wpAny_pure ?_))))
 exact thn (hr pos pins s1 σ H1 _ I1 q1) fun us s2 ⟨xs,H2,I2,r2,q2⟩=>⟨x :: xs,H2,I2,.cons r1 r2,q2⟩
variable {g:List Value→List Value→List Value} {gV:List V→List V→List V}
end
structure Zk (N P:List Str) (sc:Scope):Prop where
 kind:sc.kind = .function
 co:sc.isCoroutine=false
 gen:sc.isGenerator=false
 nd:N.Nodup
 pre:N.take P.length=P
 par:∀ x∈P,sc.names.lookup x=some .local∨sc.names.lookup x=some .cell
 nofree:∀ y∈sc.names,y.2≠.free
theorem ZcR {kindOf:Str→Option NameKind} {x:Str}:∀ {binds:List (Str × Value)} {m:Str→Option Value},(∀ v,(x,v)∉binds)→bindL kindOf binds m x=m x
 | [],_,_=>rfl
 | (n,v) :: r,m,h=>by
  unfold bindL
  rw [ZcR fun w hw=>h w (List.mem_cons_of_mem _ hw)]
  split
  ·have:x≠n:=by rintro rfl; exact h v List.mem_cons_self
   simp [this]
  ·rfl
theorem ZcT {kindOf:Str→Option NameKind} {x:Str}:∀ {binds:List (Str × Value)} {m:Str→Option Value},(∀ v,(x,v)∉binds)→bindC kindOf binds m x=m x
 | [],_,_=>rfl
 | (n,v) :: r,m,h=>by
  unfold bindC
  rw [ZcT fun w hw=>h w (List.mem_cons_of_mem _ hw)]
  split
  ·rfl
  ·have:x≠n:=by rintro rfl; exact h v List.mem_cons_self
   simp [this]
theorem ZcS {kindOf:Str→Option NameKind} {x:Str} {v:Value}:∀ {P:List Str} {vs:List Value} {i:Nat} {m:Str→Option Value},P.Nodup→P[i]?=some x→vs[i]?=some v→kindOf x=some .local →
  bindL kindOf (P.zip vs) m x=some v
 | [],_,_,_,_,h,_,_=>by simp at h
 | _ :: _,[],_,_,_,_,h,_=>by simp at h
 | p :: P,w :: vs,0,m,nd,h1,h2,hk=>by
  simp at h1 h2; subst h1; subst h2
  show bindL kindOf ((p,w) :: P.zip vs) m p=_
  unfold bindL
  rw [ZcR fun v hv=>(List.nodup_cons.mp nd).1 (List.of_mem_zip hv).1,if_pos hk]
  simp
 | p :: P,w :: vs,i + 1,m,nd,h1,h2,hk=>by
  show bindL kindOf ((p,w) :: P.zip vs) m x=_
  unfold bindL
  exact ZcS (i:=i) (List.nodup_cons.mp nd).2 (by simpa using h1) (by simpa using h2) hk
theorem ZcU {kindOf:Str→Option NameKind} {x:Str} {v:Value}:∀ {P:List Str} {vs:List Value} {i:Nat} {m:Str→Option Value},P.Nodup→P[i]?=some x→vs[i]?=some v→kindOf x≠some .local →
  bindC kindOf (P.zip vs) m x=some v
 | [],_,_,_,_,h,_,_=>by simp at h
 | _ :: _,[],_,_,_,_,h,_=>by simp at h
 | p :: P,w :: vs,0,m,nd,h1,h2,hk=>by
  simp at h1 h2; subst h1; subst h2
  show bindC kindOf ((p,w) :: P.zip vs) m p=_
  unfold bindC
  rw [ZcT fun v hv=>(List.nodup_cons.mp nd).1 (List.of_mem_zip hv).1,if_neg hk]
  simp
 | p :: P,w :: vs,i + 1,m,nd,h1,h2,hk=>by
  show bindC kindOf ((p,w) :: P.zip vs) m x=_
  unfold bindC
  exact ZcU (i:=i) (List.nodup_cons.mp nd).2 (by simpa using h1) (by simpa using h2) hk
def ZaR (N:List Str) (vs:List V):St:=vs.map some ++ List.replicate (N.length - vs.length) none
def ZlS (CX:CXT) (P:Program) (w:World) (K:PySem.W.Frag) (mg:Str→Option Value) (base:Heap) (N:List Str) (qual:Str) (scope:Scope) (f:Addr) (cd:Value) (A:Around) (outer:List Env) (s:Shared) (H:Hp) (E:XK):Cx where
 prog:=P
 w:=w
 K:=K
 mg:=mg
 base:=base
 A:=A.deeper (envOfC qual scope s.heap.objs.size f cd)
 N:=N
 s₀:=s
 H₀:=H
 env:=envOfC qual scope s.heap.objs.size f cd
 outer:=outer
 stack:=envOfC qual scope s.heap.objs.size f cd :: outer
 ex:=[]
 calm:=true
 fn:=fun _=>true
 pn:=[]
 xe:=fun e s'=>wpAny (model P w) (A.deeper (envOfC qual scope s.heap.objs.size f cd)) (leaving (envOfC qual scope s.heap.objs.size f cd) e) (fun _ s''=>CX outer H s E e s'') (fun e' s''=>CX outer H s E e' s'') s'
theorem ZeX {sc:Scope} {n:Nat} {x:Str} (h:sc.names.lookup x=some .cell):∃ c,(cellsFrom n sc.names []).lookup x=some c:=by
 have q:=PySem.W.cellsFrom_some sc.names n [] (.inl h)
 exact Option.isSome_iff_exists.mp q
theorem ZhD {CX:CXT} {P:Program} {w:World} {K:PySem.W.Frag} {mg:Str→Option Value} {base:Heap} {N ps:List Str} {qual:Str} {scope:Scope} {f:Addr} {cd:Value} {A:Around} {outer:List Env} {s s1:Shared} {H:Hp} {E:XK} {us:List Value} {vs:List V}
  (S:Zk N ps scope) (hd:A.handled=none) (e0:Znm P w K mg base A outer s H) (hl:vs.length=ps.length) (r:Vals vs us)
  (x:InCallC s s.heap.objs.size (bindL (envOfC qual scope s.heap.objs.size f cd).kindOf (ps.zip us) fun _=>none) (cellsFrom (s.heap.objs.size + 1) scope.names []) (bindC (envOfC qual scope s.heap.objs.size f cd).kindOf (ps.zip us) fun _=>none) s1) :
  Inv (ZlS CX P w K mg base N qual scope f cd A outer s H E) [] (ZaR N vs) H s1:=by
 have hpl:ps.length≤N.length:=by have:=congrArg List.length S.pre; rw [List.length_take] at this; omega
 obtain ⟨h1,tk,rfl,hk⟩:=x.done
 have noA:∀ b:Addr,b∉(ZlS CX P w K mg base N qual scope f cd A outer s H E).ex:=fun b z=>absurd (show b∈([]:List Addr) from z) (by simp)
 refine ⟨⟨e0.mod,S.kind,rfl,rfl,Nat.le_refl _,fun y z c h1 h2=>?_,fun y hy=>?_,fun y c _ h=>?_,fun _=>hd,Around.frames_deeper e0.frames,.inr ⟨rfl,rfl⟩,fun b z=>absurd z (noA b),e0.bs,e0.bsz,fun b _ _=>noA b,fun b z=>absurd z (noA b),e0.funs,e0.frf⟩,
  rfl,e0.bare,Un.kept hk,⟨_,x.toInCall.ns,fun i y v h1 h2 h3=>?_⟩,fun y c h=>⟨_,x.cell y c h⟩,e0.hok.fresh (Nat.le_refl _),fun y c h=>?_,fun p hp=>absurd (show p∈([]:List (Addr × Obj)) from hp) (by simp),e0.hok.kept hk,?_⟩
 ·exact name_of_addr x.apart (PySem.mem_of_lookup h1) (PySem.mem_of_lookup h2)
 ·have hy:scope.names.lookup y=some .cell∨scope.names.lookup y=some .free:=hy
  rcases hy with hy | hy
  ·exact ZeX hy
  ·exact absurd rfl (S.nofree _ (PySem.mem_of_lookup hy))
 ·exact Nat.le_of_lt (x.above y c (PySem.mem_of_lookup h))
 ·have hi:i < vs.length:=by
   unfold ZaR at h2
   by_cases hi:i < vs.length
   ·exact hi
   ·rw [List.getElem?_append_right (by simpa using hi)] at h2
    rw [List.getElem?_replicate] at h2
    split at h2 <;> cases h2
  have ha:vs[i]?=some v:=by
   unfold ZaR at h2
   rw [List.getElem?_append_left (by simpa using hi),List.getElem?_map] at h2
   cases e:vs[i]? with
   | none=>rw [e] at h2; cases h2
   | some a=>rw [e] at h2; cases h2; rfl
  obtain ⟨u,hu,rv⟩:=r.get ha
  have hp:ps[i]?=some y:=by
   rw [← S.pre,List.getElem?_take_of_lt (by omega)]; exact h1
  have ndP:ps.Nodup:=by rw [← S.pre]; exact S.nd.sublist (List.take_sublist _ _)
  refine ⟨u,rv,?_⟩
  rcases S.par y (List.mem_of_getElem? hp) with k | k
  ·exact .inl ⟨k,ZcS ndP hp hu k⟩
  ·obtain ⟨c,e⟩:=ZeX (n:=s.heap.objs.size + 1) k
   refine .inr ⟨.inl k,c,e,?_⟩
   have q:=x.cell y c e
   rw [ZcU ndP hp hu (by show scope.names.lookup y≠_; rw [k]; decide)] at q
   exact q
 ·exact e0.hok.fresh (Nat.le_of_lt (x.above y c (PySem.mem_of_lookup h)))
 ·unfold ZaR
  show _=N.length
  rw [List.length_append,List.length_map,List.length_replicate]
  omega
theorem Zn1 {CX:CXT} {P:Program} {w:World} {K:PySem.W.Frag} {mg:Str→Option Value} {base:Heap} {k:Nat} {f:Addr} {name qual:Str} {params:Arguments} {body:List Stmt} {scope:Scope} {dV kV doc pm cdv ct oc:Value} {an od:Option Addr}
  {osl:Array (Option Value)} {N ps:List Str} {sp:Sp} (lk:K.lookup f=some ⟨oc,od,.func (PySem.W.fnOf name qual params body scope dV kV doc pm an cdv ct),osl⟩) (hcd:PySem.W.codeIn K cdv qual=true) (S:Zk N ps scope)
  (len:∀ vs H Q E,sp vs H Q E→vs.length=ps.length)
  (hbody:∀ (A:Around) (outer:List Env) (s:Shared) (H:Hp) (vs:List V) (Q:VK) (E:XK),Room k (A.deeper (envOfC qual scope s.heap.objs.size f cdv))→sp vs H Q E →
   ∃ t,PSs (ZlS CX P w K mg base N qual scope f cdv A outer s H E) body t∧t { nx:=fun _ H'=>Q .non H',rt:=Q } (ZaR N vs) H) :
  FnOk P w K mg base CX (k + 1) f (PySem.W.fnOf name qual params body scope dV kV doc pm an cdv ct) ps sp:=by
 refine ⟨len,fun A outer s H args us vs Q E hr e0 hb r hsp=>?_⟩
 have hl:=len _ _ _ _ hsp
 have KX:K.In s.heap:=e0.mod.kin.keeps fun b o e=>(e0.bs b o e).1
 have lim:s.heap.NoLimit:=e0.mod.nolimit.keeps fun b o e=>(e0.bs b o e).1
 have hkind:∀ y∈ps.zip us,scope.names.lookup y.1=some .local∨(scope.names.lookup y.1=some .cell∧((cellsFrom (s.heap.objs.size + 1) scope.names []).lookup y.1).isSome=true):=fun ⟨n,v⟩ hy=>by
  rcases S.par n (List.of_mem_zip hy).1 with q | q
  ·exact .inl q
  ·exact .inr ⟨q,PySem.W.cellsFrom_some _ _ _ (.inl q)⟩
 refine codeAny_call_function hr.depth (KX _ _ lk) rfl S.co S.gen rfl (PySem.W.codeRec_of KX hcd) (hb _ _ _ _ ?_)
 refine wpAny_newFunctionEnv_cells S.kind hkind fun env he s1 x=>?_
 subst he
 refine ⟨lim.keeps x.toInCall.keep,codeAny_func ?_⟩
 obtain ⟨t,ht,hq⟩:=hbody A outer s H vs Q E (hr.deeper _) hsp
 have I:Inv (ZlS CX P w K mg base N qual scope f cdv A outer s H E) [] (ZaR N vs) H s1:=ZhD S hr.hd e0 hl r x
 refine wpAny_mono (ht [] s1 (ZaR N vs) H _ I hq) (fun fl s' hs=>?_) fun e s' hs=>hs
 have fin:∀ {σ':St} {H':Hp} {v:V} {u:Value},Inv (ZlS CX P w K mg base N qual scope f cdv A outer s H E) [] σ' H' s'→RelV v u→Q v H'→CE outer P w H s Q u s' :=
  fun {σ' H' v u} J rv q=>⟨v,H',J.os,J.bare,J.base,J.hok,rv,q⟩
 cases fl with
 | ret u =>
  obtain ⟨v,σ',H',J,rv,q⟩:=hs
  exact fin J rv q
 | next =>
  obtain ⟨σ',H',J,q⟩:=hs
  exact fin (v:=V.non) (u:=Value.none) J rfl q
 | brk =>
  obtain ⟨_,_,_,q⟩:=hs
  exact False.elim q
 | cont =>
  obtain ⟨_,_,_,q⟩:=hs
  exact False.elim q
section
variable {X:Cx} {x:Str} {p pos:Pos} {e:Expr} {es:List Expr} {t:TA} {id T:String} {r:List V→Hp→VK→Prop}
def tCB (r:List V→Hp→VK→Prop) (t:TA):TE:=fun σ H Q=>t σ H fun vs H1=>r vs H1 Q
theorem Zp (hc:CallR X (.builtin id) r) (hg:Gl X x) (hm:X.mg x=none) (hv:bootBuiltins x=some (.builtin id)) (ha:PA X (e :: es) t) (hn:x≠"__name__":=by decide) (hdb:(x == ("__debug__" : Str))=false:=by decide)
  (he:starEach (e :: es) X.env=(false,eval e X.env) :: starEach es X.env:=by rfl) (hpl:(backTo pos (starEach es X.env)).any (·.1)=false:=by rfl):PE X (.Call (.Name x p) (e :: es) [] pos) (tCB r t):=by
 intro pins s σ H Q I h
 refine wpAny_Call_Name_kw (XM I hg hm hv ?_ hn hdb)
 exact PyProof.Rows.callWith_builtin1 (thn (ha pos pins s σ H _ I h) fun us s1 ⟨vs,H1,I1,r1,q1⟩=>hc pins s1 σ H1 vs us Q I1 r1 q1) he hpl
theorem ZW (hc:CallR X (.type T) r) (hg:Gl X x) (hm:X.mg x=none) (hv:bootBuiltins x=some (.type T)) (ha:PA X (e :: es) t) (hn:x≠"__name__":=by decide) (hdb:(x == ("__debug__" : Str))=false:=by decide)
  (he:starEach (e :: es) X.env=(false,eval e X.env) :: starEach es X.env:=by rfl) (hpl:(backTo pos (starEach es X.env)).any (·.1)=false:=by rfl):PE X (.Call (.Name x p) (e :: es) [] pos) (tCB r t):=by
 intro pins s σ H Q I h
 refine wpAny_Call_Name_kw (XM I hg hm hv ?_ hn hdb)
 exact PyProof.Rows.callWith_type1 (thn (ha pos pins s σ H _ I h) fun us s1 ⟨vs,H1,I1,r1,q1⟩=>hc pins s1 σ H1 vs us Q I1 r1 q1) he hpl
end
section
variable {κ:Type} [DecidableEq κ]
def valV (kvs:List (κ × V)) (k:κ):Option V:=(kvs.find? fun kv=>decide (kv.1=k)).map (·.2)
def YI (kvs:List (κ × V)) (k:κ) (v:V):List (κ × V) :=
 if (kvs.any fun kv=>decide (kv.1=k))=true then kvs.map (fun kv=>if kv.1=k then (kv.1,v) else kv) else kvs ++ [(k,v)]
def Zm8 (kvs:List (κ × V)) (k:κ):List (κ × V):=kvs.filter fun kv=>decide (kv.1≠k)
theorem ZL {p:κ × V} {r:List (κ × V)} {k:κ} (e:p.1=k):valV (p :: r) k=some p.2:=by simp [valV,List.find?_cons,e]
theorem ZM {p:κ × V} {r:List (κ × V)} {k:κ} (e:¬ p.1=k):valV (p :: r) k=valV r k:=by simp [valV,List.find?_cons,e]
theorem YV (k:κ):∀ kvs:List (κ × V),(kvs.any fun kv=>decide (kv.1=k))=(valV kvs k).isSome
 | []=>rfl
 | p :: r=>by
  rw [List.any_cons]
  by_cases e:p.1=k
  ·simp only [ZL e,decide_eq_true e,Bool.true_or,Option.isSome_some]
  ·rw [ZM e,decide_eq_false e,Bool.false_or]; exact YV k r
theorem ZdQ (k j:κ) (y:V):∀ kvs:List (κ × V),valV (kvs.map fun kv=>if kv.1=k then (kv.1,y) else kv) j=(valV kvs j).map fun x=>if j=k then y else x
 | []=>rfl
 | p :: r=>by
  have ih:=ZdQ k j y r
  rw [List.map_cons]
  by_cases h:p.1=k
  ·rw [if_pos h]
   by_cases e:p.1=j
   ·rw [ZL (p:=(p.1,y)) e,ZL e,Option.map_some,if_pos (e.symm.trans h)]
   ·rw [ZM (p:=(p.1,y)) e,ZM e,ih]
  ·rw [if_neg h]
   by_cases e:p.1=j
   ·rw [ZL (p:=p) e,ZL e,Option.map_some,if_neg (fun z=>h (e.trans z))]
   ·rw [ZM (p:=p) e,ZM e,ih]
theorem ZbT (k j:κ) (y:V):∀ kvs:List (κ × V),valV kvs k=none→valV (kvs ++ [(k,y)]) j=if j=k then some y else valV kvs j
 | [],_=>by
  by_cases e:k=j
  ·rw [if_pos e.symm]; exact ZL (p:=(k,y)) e
  ·rw [if_neg (fun z=>e z.symm)]; exact ZM (p:=(k,y)) e
 | p :: r,hn=>by
  rw [List.cons_append]
  have hk:¬ p.1=k:=fun z=>by rw [ZL z] at hn; cases hn
  rw [ZM hk] at hn
  have ih:=ZbT k j y r hn
  by_cases e:p.1=j
  ·rw [ZL e,ZL e,if_neg (fun z=>hk (e.trans z))]
  ·rw [ZM e,ZM e,ih]
theorem Ju (kvs:List (κ × V)) (k j:κ) (y:V):valV (YI kvs k y) j=if j=k then some y else valV kvs j:=by
 unfold YI
 by_cases a:(kvs.any fun kv=>decide (kv.1=k))=true
 ·rw [if_pos a,ZdQ]
  rw [YV] at a
  by_cases e:j=k
  ·obtain ⟨x,hx⟩:=Option.isSome_iff_exists.mp a
   rw [if_pos e,e,hx,Option.map_some,if_pos rfl]
  ·rw [if_neg e]
   cases valV kvs j with
   | none=>rfl
   | some x=>rw [Option.map_some,if_neg e]
 ·rw [if_neg a]
  refine ZbT k j y kvs ?_
  rw [YV] at a
  cases q:valV kvs k with
  | none=>rfl
  | some x=>rw [q] at a; exact (a rfl).elim
theorem Z3 (kvs:List (κ × V)) (k:κ) (v:V):(YI kvs k v).length≤kvs.length + 1:=by
 unfold YI
 split
 ·rw [List.length_map]; omega
 ·rw [List.length_append,List.length_cons,List.length_nil]; omega
theorem XE {kvs:List (κ × V)} {k:κ} (v:V) (h:valV kvs k=none):YI kvs k v=kvs ++ [(k,v)]:=by
 unfold YI
 rw [YV,h]
 exact if_neg (by decide)
theorem RelO.isSome_eq {o:Option V} {u:Option Value} (r:RelO o u):o.isSome=u.isSome:=by
 cases o with
 | none=>cases u with
  | none=>rfl
  | some _=>exact (show False from r).elim
 | some _=>cases u with
  | none=>exact (show False from r).elim
  | some _=>rfl
theorem RelO.getD {o:Option V} {u:Option Value} {d:V} {d':Value} (r:RelO o u) (rd:RelV d d'):RelV (o.getD d) (u.getD d'):=by
 cases o with
 | none=>cases u with
  | none=>exact rd
  | some _=>exact (show False from r).elim
 | some _=>cases u with
  | none=>exact (show False from r).elim
  | some _=>exact r
theorem KV.val {kvs:List (κ × V)} {vs:List (κ × Value)} (r:KV kvs vs) (k:κ):RelO (valV kvs k) (valueAt vs k):=by
 unfold KV at r
 induction r with
 | nil=>exact True.intro
 | @cons p q ps qs h t ih =>
  obtain ⟨h1,h2⟩:=h
  by_cases e:p.1=k
  ·have e':q.1=k:=h1.symm.trans e
   have b:valueAt (q :: qs) k=some q.2:=by simp [valueAt,List.find?_cons,e']
   rw [ZL e,b]; exact h2
  ·have e':¬ q.1=k:=fun z=>e (h1.trans z)
   have b:valueAt (q :: qs) k=valueAt qs k:=by simp [valueAt,List.find?_cons,e']
   rw [ZM e,b]; exact ih
theorem KV.any {kvs:List (κ × V)} {vs:List (κ × Value)} (r:KV kvs vs) (k:κ):(kvs.any fun kv=>decide (kv.1=k))=vs.any fun kv=>decide (kv.1=k):=by
 unfold KV at r
 induction r with
 | nil=>rfl
 | cons h t ih=>rw [List.any_cons,List.any_cons,ih,h.1]
theorem KV.repl {kvs:List (κ × V)} {vs:List (κ × Value)} (r:KV kvs vs) (k:κ) {y:V} {u:Value} (ry:RelV y u) :
  KV (kvs.map fun kv=>if kv.1=k then (kv.1,y) else kv) (vs.map fun kv=>if kv.1=k then (kv.1,u) else kv):=by
 unfold KV at r ⊢
 induction r with
 | nil=>exact .nil
 | @cons p q ps qs h t ih =>
  rw [List.map_cons,List.map_cons]
  refine .cons ?_ ih
  obtain ⟨h1,h2⟩:=h
  by_cases e:p.1=k
  ·rw [if_pos e,if_pos (h1.symm.trans e)]; exact ⟨h1,ry⟩
  ·rw [if_neg e,if_neg (fun z=>e (h1.trans z))]; exact ⟨h1,h2⟩
theorem KV.put {kvs:List (κ × V)} {vs:List (κ × Value)} (r:KV kvs vs) (k:κ) {y:V} {u:Value} (ry:RelV y u):KV (YI kvs k y) (stored vs k u):=by
 unfold YI stored
 rw [r.any k]
 by_cases e:(vs.any fun kv=>decide (kv.1=k))=true
 ·rw [if_pos e,if_pos e]; exact r.repl k ry
 ·rw [if_neg e,if_neg e]; exact Paired.snoc r ⟨rfl,ry⟩
theorem KV.drop {kvs:List (κ × V)} {vs:List (κ × Value)} (r:KV kvs vs) (k:κ):KV (Zm8 kvs k) (without vs k):=by
 unfold KV at r ⊢
 unfold Zm8 without
 induction r with
 | nil=>exact .nil
 | @cons p q ps qs h t ih =>
  obtain ⟨h1,h2⟩:=h
  rw [List.filter_cons,List.filter_cons]
  by_cases e:p.1=k
  ·have a:¬ decide (p.1≠k)=true:=by simp [e]
   have b:¬ decide (q.1≠k)=true:=by simp [h1.symm.trans e]
   rw [if_neg a,if_neg b]; exact ih
  ·have e':¬ q.1=k:=fun z=>e (h1.trans z)
   have a:decide (p.1≠k)=true:=by simp [e]
   have b:decide (q.1≠k)=true:=by simp [e']
   rw [if_pos a,if_pos b]; exact .cons ⟨h1,h2⟩ ih
theorem KV.keys {kvs:List (κ × V)} {vs:List (κ × Value)} (r:KV kvs vs):kvs.map (·.1)=vs.map (·.1):=by
 unfold KV at r
 induction r with
 | nil=>rfl
 | cons h t ih=>rw [List.map_cons,List.map_cons,ih,h.1]
theorem KV.length {kvs:List (κ × V)} {vs:List (κ × Value)} (r:KV kvs vs):kvs.length=vs.length:=Paired.length r
end
theorem Zcv {P:Program} {w:World} {k:Key} {u:Value} (r:RelV (kV k) u):(Zn P w).is k u=true:=by
 cases k with
 | inl i=>obtain ⟨t,e⟩:=(show ∃ t,u=Value.int i t from r); subst e; exact Zdu P w i t
 | inr x=>obtain ⟨t,e⟩:=(show ∃ t,u=Value.str x t from r); subst e; exact Xm P w x t
theorem Zcw {P:Program} {w:World}:∀ {ks:List Key} {us:List Value},Vals (ks.map kV) us→ItemsAre (Zn P w) ks us
 | [],_,r=>by rw [List.map_nil] at r; cases r; exact .nil
 | k :: ks,_,r=>by
  rw [List.map_cons] at r
  cases r with
  | cons h t=>exact .cons (Zcv h) (Zcw t)
abbrev KT (H:Hp):List (List Key × V)→List (List Key × Addr × Value)→Prop:=Paired fun p q=>p.1=q.1∧H q.2.1=some (.tup (p.1.map kV))∧RelV p.2 q.2.2
theorem KT.val {H:Hp} {kvs:List (List Key × V)} {xs:List (List Key × Addr × Value)} (r:KT H kvs xs) (k:List Key):RelO (valV kvs k) ((atKey xs k).map (·.2)):=by
 induction r with
 | nil=>exact True.intro
 | @cons p q ps qs h t ih =>
  obtain ⟨h1,_,h2⟩:=h
  by_cases e:p.1=k
  ·have e':q.1=k:=h1.symm.trans e
   have b:atKey (q :: qs) k=some q.2:=by simp [atKey,List.find?_cons,e']
   rw [ZL e,b]; exact h2
  ·have e':¬ q.1=k:=fun z=>e (h1.trans z)
   have b:atKey (q :: qs) k=atKey qs k:=by simp [atKey,List.find?_cons,e']
   rw [ZM e,b]; exact ih
theorem KT.repl {H:Hp} {kvs:List (List Key × V)} {xs:List (List Key × Addr × Value)} (r:KT H kvs xs) (k:List Key) {y:V} {u:Value} (ry:RelV y u) :
  KT H (kvs.map fun kv=>if kv.1=k then (kv.1,y) else kv) (xs.map (putAt k u)):=by
 induction r with
 | nil=>exact .nil
 | @cons p q ps qs h t ih =>
  rw [List.map_cons,List.map_cons]
  refine .cons ?_ ih
  obtain ⟨h1,h2,h3⟩:=h
  unfold putAt
  by_cases e:p.1=k
  ·rw [if_pos e,if_pos (h1.symm.trans e)]; exact ⟨h1,h2,ry⟩
  ·rw [if_neg e,if_neg (fun z=>e (h1.trans z))]; exact ⟨h1,h2,h3⟩
theorem KT.put {H:Hp} {kvs:List (List Key × V)} {xs:List (List Key × Addr × Value)} (r:KT H kvs xs) (k:List Key) {b:Addr} {y:V} {u:Value} (hb:H b=some (.tup (k.map kV))) (ry:RelV y u) :
  KT H (YI kvs k y) (storedH xs k b u):=by
 have e:(kvs.any fun kv=>decide (kv.1=k))=(atKey xs k).isSome:=by
  rw [YV,(r.val k).isSome_eq,Option.isSome_map]
 unfold YI storedH
 rw [e]
 by_cases q:(atKey xs k).isSome=true
 ·rw [if_pos q,if_pos q]; exact r.repl k ry
 ·rw [if_neg q,if_neg q]; exact Paired.snoc r ⟨rfl,hb,ry⟩
theorem KT.keeps {H H':Hp} {kvs:List (List Key × V)} {xs:List (List Key × Addr × Value)} (r:KT H kvs xs) (ht:∀ b ys,H b=some (.tup ys)→H' b=some (.tup ys)):KT H' kvs xs :=
 Paired.mapP r fun _ _ z=>⟨z.1,ht _ _ z.2.1,z.2.2⟩
section
variable {P:Program} {w:World} {H:Hp} {h:Heap} {a:Addr}
theorem Zmp {u:HO} (ok:HOk P w H h) (e:Rd H a u):ObjOk P w H h a u:=e.ok ok
theorem ZcI {kvs:List (Key × V)} (ok:HOk P w H h) (e:Rd H a (.dK kvs)):kvs.length≤sizeLine∧(a == sysModules)=false∧∃ vs,KV kvs vs∧h.DictOf (Zn P w) a vs :=
 show ObjOk P w H h a (.dK kvs) from Zmp ok e
theorem ZfD {kvs:List (Key × V)} (ok:HOk P w H h) (e:H a=some (.dK kvs)):kvs.length≤sizeLine∧(a == sysModules)=false∧∃ vs,KV kvs vs∧h.DictOf (Zn P w) a vs:=ZcI ok (.inl e)
theorem ZaI {ks:List Key} (ok:HOk P w H h) (e:H a=some (.tup (ks.map kV))):(tupleKind (Zn P w)).is h ks a:=by
 obtain ⟨_,its,r,⟨o,h1,h2,n,h3⟩,_⟩:=(show ObjOk P w H h a (.tup (ks.map kV)) from ok a _ e)
 exact ⟨o,its.toArray,n,h1,h2,h3,by simpa using Zcw r⟩
theorem ZdB {kvs:List (List Key × V)} (ok:HOk P w H h) (e:Rd H a (.dT kvs)):kvs.length≤sizeLine∧(a == sysModules)=false ∧
  ∃ xs,KT H kvs xs∧h.DictOfH (tupleKind (Zn P w)) a xs:=by
 obtain ⟨z,y,xs,r,o,es,ep,h1,h2,h3,h4,h5⟩:=(show ObjOk P w H h a (.dT kvs) from Zmp ok e)
 refine ⟨z,y,xs,r,o,es,ep,h1,h2,h3,h4,fun x hx=>?_,h5⟩
 have all:∀ {l:List (List Key × V)} {m:List (List Key × Addr × Value)},KT H l m→∀ x∈m,(tupleKind (Zn P w)).is h x.1 x.2.1:=by
  intro l m q
  induction q with
  | nil=>intro x hx; exact nomatch hx
  | @cons p q ps qs hq t ih =>
   intro x hx
   rcases List.mem_cons.mp hx with e | hx
   ·subst e
    exact ZaI ok (by rw [← hq.1]; exact hq.2.1)
   ·exact ih x hx
 exact all r x hx
theorem Zn2 {kvs:List (List Key × V)} (ok:HOk P w H h) (e:H a=some (.dT kvs)):kvs.length≤sizeLine∧(a == sysModules)=false ∧
  ∃ xs,KT H kvs xs∧h.DictOfH (tupleKind (Zn P w)) a xs:=ZdB ok (.inl e)
end
def DGet (H:Hp) (a:Addr) (y:V) (r:Option V):Prop :=
 (∃ kvs k,Rd H a (.dK kvs)∧y=kV k∧r=valV kvs k)∨∃ kvs k b,Rd H a (.dT kvs)∧y = .ref b∧H b=some (.tup (k.map kV))∧r=valV kvs k
def DPut (H:Hp) (a:Addr) (y v:V) (H':Hp):Prop :=
 (∃ kvs k,H a=some (.dK kvs)∧y=kV k∧kvs.length < sizeLine∧H'=upd H a (.dK (YI kvs k v))) ∨
 ∃ kvs k b,H a=some (.dT kvs)∧y = .ref b∧H b=some (.tup (k.map kV))∧kvs.length < sizeLine∧H'=upd H a (.dT (YI kvs k v))
theorem DGet.k {H:Hp} {a:Addr} {kvs:List (Key × V)} {k:Key} (e:H a=some (.dK kvs)):DGet H a (kV k) (valV kvs k):=.inl ⟨kvs,k,.inl e,rfl,rfl⟩
theorem DPut.k {H:Hp} {a:Addr} {kvs:List (Key × V)} {k:Key} {v:V} (e:H a=some (.dK kvs)) (hl:kvs.length < sizeLine):DPut H a (kV k) v (upd H a (.dK (YI kvs k v))):=.inl ⟨kvs,k,e,rfl,hl,rfl⟩
section
variable {X:Cx} {pins:List (Addr × Obj)} {σ:St} {H:Hp} {s:Shared} {a:Addr} {y v:V} {u r:Value} {o:Option V} {A:Around} {E:Value→Shared→Prop}
theorem Inv.big (I:Inv X pins σ H s):sysModules < s.heap.objs.size:=by
 have h:mainGlobals < s.heap.objs.size:=(I.mod.glob.keeps I.bk).lt
 exact Nat.lt_trans (by decide) h
theorem Zh4 {Q:Value→Shared→Prop} (hu:A.units + 1 < cLine) (I:Inv X pins σ H s) (g:DGet H a y (some v)) (ry:RelV y u) (h:∀ w' s',Inv X pins σ H s'→RelV v w'→Q w' s') :
  wpAny (model X.prog X.w) A (getItem (.ref a) u) Q E s:=by
 rcases g with ⟨kvs,k,e,ey,l⟩ | ⟨kvs,k,b,e,ey,eb,l⟩
 ·subst ey
  obtain ⟨z,hd,vs,rel,dd⟩:=ZcI I.hok e
  obtain ⟨w',hw,rw'⟩:=RelO.some_of (v:=v) (o:=valueAt vs k) (by rw [l]; exact rel.val k)
  exact wpAny_getItem_of (Zcv ry) dd.mapOf hw (h w' _ (I.tok _) rw')
 ·subst ey
  cases (show u=Value.ref b from ry)
  obtain ⟨z,hd,xs,rel,dd⟩:=ZdB I.hok e
  obtain ⟨w',hw,rw'⟩:=RelO.some_of (v:=v) (o:=(atKey xs k).map (·.2)) (by rw [l]; exact rel.val k)
  obtain ⟨p,hp,hp2⟩:=Option.map_eq_some_iff.mp hw
  refine wpAny_getItem_heap (tupleKind_room_in1 hu) (ZaI I.hok eb) dd hp ?_
  rw [hp2]
  exact h w' _ (I.tok _) rw'
theorem ZlR {Q:Value→Shared→Prop} (hu:A.units + 1 < cLine) (I:Inv X pins σ H s) (g:DGet H a y o) (ry:RelV y u) (h:∀ s',Inv X pins σ H s'→Q (.bool (!o.isSome)) s') :
  wpAny (model X.prog X.w) A (compareOp .NotIn u (.ref a)) Q E s:=by
 rcases g with ⟨kvs,k,e,ey,l⟩ | ⟨kvs,k,b,e,ey,eb,l⟩
 ·subst ey
  obtain ⟨z,hd,vs,rel,dd⟩:=ZcI I.hok e
  refine wpAny_notIn_of (Zcv ry) hd dd.mapOf ?_
  rw [← (rel.val k).isSome_eq,← l]
  exact h _ (I.tok _)
 ·subst ey
  cases (show u=Value.ref b from ry)
  obtain ⟨z,hd,xs,rel,dd⟩:=ZdB I.hok e
  refine wpAny_notIn_heap (tupleKind_room_in1 hu) (ZaI I.hok eb) hd dd ?_
  have q:=(rel.val k).isSome_eq
  rw [Option.isSome_map] at q
  rw [← q,← l]
  exact h _ (I.tok _)
theorem ZbF {h':Heap} {t':Nat} {ob:HO} (I:Inv X pins σ H s) (mu:Mut (H a)) (hs:Heap.SameBut a s.heap h') (he:∃ q,h'.get? a=some q) (new:ObjOk X.prog X.w (upd H a ob) h' a ob) :
  Inv X pins σ (upd H a ob) { s with heap:=h',toks:=t' } :=
 I.write (x:=a) (e:=a) mu (.inl rfl) (fun b q hb z=>(hs.2 b hb).trans z) he new
theorem ZhV {P:Program} {w:World} {H':Hp} {h':Heap} {kvs:List (Key × V)} {vs:List (Key × Value)} (z:kvs.length≤sizeLine) (hd:(a == sysModules)=false) (rel:KV kvs vs) (dd:h'.DictOf (Zn P w) a vs) :
  ObjOk P w H' h' a (.dK kvs):=⟨z,hd,vs,rel,dd⟩
theorem Zh3 {H':Hp} {Q:Unit→Shared→Prop} (hu:A.units + 1 < cLine) (I:Inv X pins σ H s) (g:DPut H a y v H') (ry:RelV y u) (rv:RelV v r) (h:∀ s',Inv X pins σ H' s'→Q () s') :
  wpAny (model X.prog X.w) A (setItem (.ref a) u r) Q E s:=by
 rcases g with ⟨kvs,k,e,ey,l,eH⟩ | ⟨kvs,k,b,e,ey,eb,l,eH⟩
 ·subst ey eH
  obtain ⟨z,hd,vs,rel,dd⟩:=ZfD I.hok e
  have hz:vs.length≤sizeLine:=by rw [← rel.length]; exact z
  have hl:(YI kvs k v).length≤sizeLine:=by have:=Z3 kvs k v; omega
  refine wpAny_setItem_pairs (hsz:=hz) (Zcv ry) dd fun h' dd' hs=>h _ ?_
  have he:∃ q,h'.get? a=some q:=let ⟨q,_,_,hq,_⟩:=dd'; ⟨q,hq⟩
  exact ZbF I (by rw [e]; exact True.intro) hs he (ZhV hl hd (rel.put k rv) dd')
 ·subst ey eH
  cases (show u=Value.ref b from ry)
  obtain ⟨z,hd,xs,rel,dd⟩:=Zn2 I.hok e
  have hz:xs.length≤sizeLine:=by rw [← Paired.length rel]; exact z
  have hl:(YI kvs k v).length≤sizeLine:=by have:=Z3 kvs k v; omega
  refine wpAny_setItem_heap (hsz:=hz) (tupleKind_room_in1 hu) (ZaI I.hok eb) dd fun h' dd' hs=>h _ ?_
  obtain ⟨q,es,ep,hq,h2,h3,h4,_,h5⟩:=dd'
  refine ZbF I (by rw [e]; exact True.intro) hs ⟨q,hq⟩ ⟨hl,hd,_,(rel.put k eb rv).keeps fun c ys ec=>?_,q,es,ep,hq,h2,h3,h4,h5⟩
  rw [Zi (ZnR ec e (fun z=>nomatch z))]
  exact ec
end
section
variable {X:Cx} {pins:List (Addr × Obj)} {σ:St} {H:Hp} {s:Shared} {a:Addr} {kvs:List (Key × V)} {k:Key} {u:Value} {A:Around} {E:Value→Shared→Prop}
theorem Zna {Q:Value→Shared→Prop} (I:Inv X pins σ H s) (e:Rd H a (.dK kvs)) (h:∀ t s',Inv X pins σ H s'→Q (.int kvs.length t) s'):wpAny (model X.prog X.w) A (call (.builtin "len") [.ref a]) Q E s:=by
 obtain ⟨z,hd,vs,rel,dd⟩:=ZcI I.hok e
 refine call_len_dict hd dd (by rw [← rel.length]; rw [sizeLine_eq] at z; omega) ?_
 rw [← rel.length]
 exact h _ _ (I.tok _)
end
def Zot (i:Expr):Prop:=∀ ov iv,subscripted i false ov iv=operate [ov,iv] (getItem ov iv)
theorem ZkT {prog:Program} {w:World} {A:Around} {E:Value→Shared→Prop} {s:Shared} {env:Env} {value slice:Expr} {pos:Pos} {T id:String} {Q:Value→Shared→Prop}
  (hl:typeLookup (.type T) "__getitem__" = pure (some (.builtin id))) (hs:Zot slice)
  (h:wpAny (model prog w) A (eval value env) (fun o s₁=>wpAny (model prog w) A (eval slice env) (fun i s₂=>s₂.TypeIs o T∧wpAny (model prog w) A (getItem o i) Q E s₂) E s₁) E s) :
  wpAny (model prog w) A (eval (.Subscript value slice pos) env) Q E s:=by
 refine Subscript_ (wpAny_mono h (fun o s₁ h₁=>wpAny_mono h₁ (fun i s₂ h₂=>?_) fun _ _ x=>x) fun _ _ x=>x)
 obtain ⟨hT,h₂⟩:=h₂
 unfold subscriptTail
 refine wpAny_bind ?_
 rw [getitemInPython_of_ne hT.not_modules]
 refine wpAny_bind (wpAny_specialOf hT hl ?_)
 have fin:wpAny (model prog w) A (subscripted slice false o i) (fun r s₃=>wpAny (model prog w) A (letTemporaryGo value o r >>= fun _=>pure r) Q E s₃) E s₂:=by
  rw [hs o i]
  exact wpAny_operating (wpAny_mono h₂ (fun r s₃ h₃=>wpAny_bind (wpAny_letTemporaryGo (wpAny_pure h₃))) fun _ _ x=>x)
 first
  | exact wpAny_pure (wpAny_bind fin)
  | exact wpAny_bind (wpAny_pure (wpAny_bind fin))
  | exact wpAny_bind fin
theorem ZdC {X:Cx} {pins:List (Addr × Obj)} {σ:St} {H:Hp} {s:Shared} {a:Addr} {y:V} {o:Option V} (I:Inv X pins σ H s) (g:DGet H a y o):s.TypeIs (.ref a) "dict":=by
 rcases g with ⟨kvs,k,e,_,_⟩ | ⟨kvs,k,b,e,_,_,_⟩
 ·obtain ⟨_,_,vs,_,dd⟩:=ZcI I.hok e
  exact dd.typeIs
 ·obtain ⟨_,_,xs,_,dd⟩:=ZdB I.hok e
  exact dd.typeIs
def ZnD (td ty:TE):TE:=fun σ H Q=>td σ H fun x H1=>ty σ H1 fun y H2=>∃ a v,x = .ref a∧DGet H2 a y (some v)∧Q v H2
def ZkR (ty td:TE):TE:=fun σ H Q=>ty σ H fun y H1=>td σ H1 fun x H2=>∃ a o,x = .ref a∧DGet H2 a y o∧Q (.bl (!o.isSome)) H2
def ZnH (td ty tv:TE):TS:=fun D σ H=>tv σ H fun v H1=>td σ H1 fun x H2=>ty σ H2 fun y H3=>∃ a H4,x = .ref a∧DPut H3 a y v H4∧D.nx σ H4
section
variable {X:Cx} {o i e value:Expr} {pos pos' tpos:Pos} {td ty tv:TE}
theorem Zdf (hu:X.A.units + 1 < cLine) (ho:PE X o td) (hi:PE X i ty) (hs:Zot i):PE X (.Subscript o i pos) (ZnD td ty):=by
 intro pins s σ H Q I h
 refine ZkT PySem.F.slot_dict_getitem.lookup hs (thn (ho pins s σ H _ I h) fun u s1 ⟨x,H1,I1,rx,q1⟩=>thn (hi pins s1 σ H1 _ I1 q1) fun iv s2 ⟨y,H2,I2,ry,a,v,ex,g,q2⟩=>?_)
 subst ex
 obtain rfl:u=Value.ref a:=rx
 exact ⟨ZdC I2 g,Zh4 hu I2 g ry fun w' s3 I3 rw'=>⟨v,H2,I3,rw',q2⟩⟩
theorem ZgZ (hu:X.A.units + 1 < cLine) (hi:PE X i ty) (ho:PE X o td):PC X .NotIn i o (ZkR ty td):=by
 intro pins s σ H Q I h
 refine thn (hi pins s σ H _ I h) fun iv s1 ⟨y,H1,I1,ry,q1⟩=>thn (ho pins s1 σ H1 _ I1 q1) fun u s2 ⟨x,H2,I2,rx,a,ov,ex,g,q2⟩=>?_
 subst ex
 obtain rfl:u=Value.ref a:=rx
 exact ZlR hu I2 g ry fun s3 I3=>⟨.bl (!ov.isSome),H2,I3,rfl,q2⟩
theorem YJ (hu:X.A.units + 1 < cLine) (ho:PE X o td) (hi:PE X i ty) (hv:PE X value tv) (hs:swapsWith value (some (.Subscript o i pos')) pos.line X.env=pure false) :
  PS X (.Assign [.Subscript o i pos'] value pos) (ZnH td ty tv):=by
 intro pins s σ H D I h
 refine wpAny_Assign_Subscript (thn (hv pins s σ H _ I h) fun r s1 ⟨v,H1,I1,rv,q1⟩=>thn (ho pins s1 σ H1 _ I1 q1) fun u s2 ⟨x,H2,I2,rx,q2⟩=>thn (hi pins s2 σ H2 _ I2 q2) fun iv s3 ⟨y,H3,I3,ry,a,H4,ex,g,q3⟩=>?_) hs
 subst ex
 obtain rfl:u=Value.ref a:=rx
 exact Zh3 hu I3 g ry rv fun s4 I4=>⟨σ,H4,I4,q3⟩
end
theorem ZeS {P:Program} {w:World} {H:Hp} (h:Heap) (hb:sysModules < h.objs.size):ObjOk P w H (h.push { cls:=.type "dict",data:=.dict #[] }) h.objs.size (.dK []) :=
 ⟨Nat.zero_le _,beq_eq_false_iff_ne.mpr (Ne.symm (Nat.ne_of_lt hb)),[],.nil,Heap.DictOf.new h⟩
def Zmb:TE:=fun _ H Q=>∀ p,H p=none→Q (.ref p) (upd H p (.dK []))
section
variable {X:Cx} {pos:Pos}
theorem Yk:PE X (.Dict [] [] pos) Zmb:=fun pins s σ H Q I h =>
 wpAny_Dict_empty ⟨.ref s.heap.objs.size,_,I.laid (a:=s.heap.objs.size) (o:=.dK []) (t':=s.toks) (fun _ _ q=>Heap.get?_push_of_some _ q) (Nat.le_refl _) (ZeS s.heap I.big),rfl,h _ (I.hok.fresh (Nat.le_refl _))⟩
end
def Zf0:List (TE × TE)→St→Hp→(List (V × V)→Hp→Prop)→Prop
 | [],_,H,Q=>Q [] H
 | (tk,tv) :: r,σ,H,Q=>tk σ H fun x H1=>tv σ H1 fun y H2=>Zf0 r σ H2 fun ps H3=>Q ((x,y) :: ps) H3
abbrev VV:List (V × V)→List (Value × Value)→Prop:=Paired fun p q=>RelV p.1 q.1∧RelV p.2 q.2
def PPs (X:Cx) (pos:Pos) (keys:List (Option Expr)) (values:List Expr) (trs:List (TE × TE)):Prop :=
 ∀ (pins:List (Addr × Obj)) (s:Shared) (σ:St) (H:Hp) (Q:List (V × V)→Hp→Prop),Inv X pins σ H s→Zf0 trs σ H Q →
  wpAny (model X.prog X.w) X.A (evalPairs (pairTrees keys values X.env pos)) (fun vs s'=>∃ ps H',Inv X pins σ H' s'∧VV ps vs∧Q ps H') X.xe s
theorem Zla {X:Cx} {pos:Pos}:PPs X pos [] [] []:=fun pins s σ H Q I h=>pairTrees_nil_walk ⟨[],H,I,.nil,h⟩
theorem ZiQ {X:Cx} {pos:Pos} {k v:Expr} {ks:List (Option Expr)} {vs:List Expr} {tk tv:TE} {trs:List (TE × TE)} (hk:PE X k tk) (hv:PE X v tv) (hr:PPs X pos ks vs trs) :
  PPs X pos (some k :: ks) (v :: vs) ((tk,tv) :: trs):=fun pins s σ H Q I h =>
 pairTrees_cons_walk (thn (hk pins s σ H _ I h) fun u s1 ⟨x,H1,I1,rx,q1⟩=>thn (hv pins s1 σ H1 _ I1 q1) fun w2 s2 ⟨y,H2,I2,ry,q2⟩ =>
  thn (hr pins s2 σ H2 _ I2 q2) fun ws s3 ⟨ps,H3,I3,rel,q3⟩=>⟨(x,y) :: ps,H3,I3,.cons ⟨rx,ry⟩ rel,q3⟩)
def Jk (kvs more:List (Key × V)):List (Key × V):=more.foldl (fun acc kv=>YI acc kv.1 kv.2) kvs
theorem KV.merge:∀ {more:List (Key × V)} {rs:List (Key × Value)} {kvs:List (Key × V)} {vs:List (Key × Value)},KV more rs→KV kvs vs→KV (Jk kvs more) (merged vs rs):=by
 intro more rs kvs vs r
 unfold KV at r
 induction r generalizing kvs vs with
 | nil=>intro q; exact q
 | @cons p q ps qs h t ih =>
  intro r0
  have e:KV (YI kvs p.1 p.2) (stored vs q.1 q.2):=by
   have:=r0.put p.1 h.2
   rw [← h.1]; exact this
  exact ih e
theorem XL:∀ (more kvs:List (Key × V)),(Jk kvs more).length≤kvs.length + more.length
 | [],kvs=>by show kvs.length≤kvs.length + 0; omega
 | p :: r,kvs=>by
  have h1:=XL r (YI kvs p.1 p.2)
  have h2:=Z3 kvs p.1 p.2
  show (Jk (YI kvs p.1 p.2) r).length≤_
  rw [List.length_cons]; omega
theorem ZaO {P:Program} {w:World}:∀ {kvs:List (Key × V)} {ws:List (Value × Value)},VV (kvs.map fun kv=>(kV kv.1,kv.2)) ws→∃ rs,Carries (Zn P w) ws rs∧KV kvs rs
 | [],_,r=>by rw [List.map_nil] at r; cases r; exact ⟨[],True.intro,.nil⟩
 | p :: kvs,_,r=>by
  rw [List.map_cons] at r
  cases r with
  | @cons a b as bs h t =>
   obtain ⟨rs,c,q⟩:=ZaO (P:=P) (w:=w) t
   obtain ⟨b1,b2⟩:=b
   exact ⟨(p.1,b2) :: rs,⟨Zcv h.1,rfl,c⟩,.cons ⟨rfl,h.2⟩ q⟩
def ZnB (trs:List (TE × TE)):TE:=fun σ H Q=>∀ p,H p=none→Zf0 trs σ (upd H p (.dK [])) fun ps H2=>H2 p=some (.dK [])∧∃ kvs:List (Key × V),ps=kvs.map (fun kv=>(kV kv.1,kv.2))∧kvs.length≤15∧Q (.ref p) (upd H2 p (.dK (Jk [] kvs)))
theorem Zle {X:Cx} {pos:Pos} {keys:List (Option Expr)} {values:List Expr} {trs:List (TE × TE)} (h:PPs X pos keys values trs) (hall:keys.all (·.isSome)=true) (hl:keys.length=values.length) (h0:keys≠[])
  (h15:keys.length≤15):PE X (.Dict keys values pos) (ZnB trs):=by
 intro pins s σ H Q I q
 have hn:=I.hok.fresh (Nat.le_refl s.heap.objs.size)
 have I1:=I.laid (a:=s.heap.objs.size) (o:=.dK []) (h':=s.heap.push { cls:=.type "dict",data:=.dict #[] }) (t':=s.toks) (fun _ _ q=>Heap.get?_push_of_some _ q) (Nat.le_refl _) (ZeS s.heap I.big)
 refine wpAny_Dict_walk (knd:=Zn X.prog X.w) hall hl h0 h15 (thn (h pins _ σ _ _ I1 (q _ hn)) fun ws s2 ⟨ps,H2,I2,rel,e,kvs,ep,lk,q2⟩=>?_)
 subst ep
 obtain ⟨rs,c,rk⟩:=ZaO (P:=X.prog) (w:=X.w) rel
 obtain ⟨z,hd,vs0,r0,dd⟩:=ZfD I2.hok e
 cases r0
 refine ⟨rs,c,dd,fun h' dd' hs=>⟨.ref s.heap.objs.size,_,?_,rfl,q2⟩⟩
 have hz:(Jk [] kvs).length≤sizeLine:=by
  have h1:=XL kvs []
  rw [List.length_nil] at h1
  rw [sizeLine_eq]; omega
 have he:∃ q,h'.get? s.heap.objs.size=some q:=let ⟨q,_,_,hq,_⟩:=dd'; ⟨q,hq⟩
 exact ZbF I2 (by rw [e]; exact True.intro) hs he (ZhV hz hd (rk.merge .nil) dd')
structure M1 (X:Cx) (o:Expr) (m:Str) (apos:Pos) (e:Expr) (cpos:Pos):Prop where
 base:attributeBase o m X.env (eval o X.env)=eval o X.env
 few:((backTo cpos (starEach [e] X.env)).all (fun x=>!x.1) && (backToKw cpos (keywordEach [] X.env)).all (fun x=>x.1.isSome)
  && decide (([e]:List Expr).length + ([]:List Keyword).length + (if ([]:List Keyword).isEmpty then 0 else 1) < 30))=true
 line:(apos.endLine == cpos.line)=true
 trees:backTo cpos (starEach [e] X.env)=[(false,eval e X.env)]
structure M2 (X:Cx) (o:Expr) (m:Str) (apos:Pos) (e f:Expr) (cpos:Pos):Prop where
 base:attributeBase o m X.env (eval o X.env)=eval o X.env
 few:((backTo cpos (starEach [e,f] X.env)).all (fun x=>!x.1) && (backToKw cpos (keywordEach [] X.env)).all (fun x=>x.1.isSome)
  && decide (([e,f]:List Expr).length + ([]:List Keyword).length + (if ([]:List Keyword).isEmpty then 0 else 1) < 30))=true
 line:(apos.endLine == cpos.line)=true
 trees:backTo cpos (starEach [e,f] X.env)=[(false,eval e X.env),(false,eval f X.env)]
def IsD (H:Hp) (a:Addr):Prop:=(∃ kvs,Rd H a (.dK kvs))∨∃ kvs,Rd H a (.dT kvs)
theorem Zcx {X:Cx} {pins:List (Addr × Obj)} {σ:St} {H:Hp} {s:Shared} {a:Addr} (I:Inv X pins σ H s) (d:IsD H a) :
  s.TypeIs (.ref a) "dict"∧(∀ b,Value.ref a = .ref b→∃ ob,s.heap.get? b=some ob∧ob.dict=none)∧(a == sysModules)=false:=by
 rcases d with ⟨kvs,e⟩ | ⟨kvs,e⟩
 ·obtain ⟨_,hd,vs,_,dd⟩:=ZcI I.hok e
  refine ⟨dd.typeIs,fun b q=>?_,hd⟩
  cases q
  obtain ⟨ob,_,_,h1,h2,_⟩:=dd
  exact ⟨ob,h1,h2.2.1⟩
 ·obtain ⟨_,hd,xs,_,dd⟩:=ZdB I.hok e
  refine ⟨dd.typeIs,fun b q=>?_,hd⟩
  cases q
  obtain ⟨ob,_,_,h1,h2,_⟩:=dd
  exact ⟨ob,h1,h2.2.1⟩
section
variable {X:Cx} {pins:List (Addr × Obj)} {σ:St} {H:Hp} {s:Shared} {a:Addr} {y d:V} {u r:Value} {o:Option V} {A:Around} {E:Value→Shared→Prop}
theorem Znc {Q:Value→Shared→Prop} (hu:A.units + 1 < cLine) (I:Inv X pins σ H s) (g:DGet H a y o) (ry:RelV y u) (h:∀ w' s',Inv X pins σ H s'→RelV (o.getD .non) w'→Q w' s') :
  wpAny (model X.prog X.w) A (call (.builtin "dict.get") [.ref a,u]) Q E s:=by
 rcases g with ⟨kvs,k,e,ey,l⟩ | ⟨kvs,k,b,e,ey,eb,l⟩
 ·subst ey
  obtain ⟨z,hd,vs,rel,dd⟩:=ZcI I.hok e
  refine call_meetsIn PySem.F.slot_dict_get dd.typeIs PySem.F.entry_dict_get (PySem.F.args_dict_get_2 _ _) (meets_dict_get (Zn X.prog X.w) a (Zcv ry) hd) ⟨_,dd.mapOf,h _ _ (I.tok _) ?_⟩
  rw [l]
  exact (rel.val k).getD rfl
 ·subst ey
  cases (show u=Value.ref b from ry)
  obtain ⟨z,hd,xs,rel,dd⟩:=ZdB I.hok e
  refine call_meetsIn PySem.F.slot_dict_get dd.typeIs PySem.F.entry_dict_get (PySem.F.args_dict_get_2 _ _) (meetsH_dict_get (tupleKind (Zn X.prog X.w)) a b hd) ⟨tupleKind_room_in1 hu,k,xs,ZaI I.hok eb,dd,h _ _ (I.tok _) ?_⟩
  rw [l]
  exact (rel.val k).getD rfl
theorem Znb {Q:Value→Shared→Prop} (hu:A.units + 1 < cLine) (I:Inv X pins σ H s) (g:DGet H a y o) (ry:RelV y u) (rd:RelV d r) (h:∀ w' s',Inv X pins σ H s'→RelV (o.getD d) w'→Q w' s') :
  wpAny (model X.prog X.w) A (call (.builtin "dict.get") [.ref a,u,r]) Q E s:=by
 rcases g with ⟨kvs,k,e,ey,l⟩ | ⟨kvs,k,b,e,ey,eb,l⟩
 ·subst ey
  obtain ⟨z,hd,vs,rel,dd⟩:=ZcI I.hok e
  refine call_meetsIn PySem.F.slot_dict_get dd.typeIs PySem.F.entry_dict_get (PySem.F.args_dict_get_3 _ _ _) (meets_dict_get_default (Zn X.prog X.w) a (Zcv ry) hd r) ⟨_,dd.mapOf,h _ _ (I.tok _) ?_⟩
  rw [l]
  exact (rel.val k).getD rd
 ·subst ey
  cases (show u=Value.ref b from ry)
  obtain ⟨z,hd,xs,rel,dd⟩:=ZdB I.hok e
  refine call_meetsIn PySem.F.slot_dict_get dd.typeIs PySem.F.entry_dict_get (PySem.F.args_dict_get_3 _ _ _) (meetsH_dict_get_default (tupleKind (Zn X.prog X.w)) a b hd r) ⟨tupleKind_room_in1 hu,k,xs,ZaI I.hok eb,dd,h _ _ (I.tok _) ?_⟩
  rw [l]
  exact (rel.val k).getD rd
end
def Zmd (td ty:TE):TE:=fun σ H Q=>td σ H fun x H1=>∃ a,x = .ref a∧IsD H1 a∧ty σ H1 fun y H2=>∃ o,DGet H2 a y o∧Q (o.getD .non) H2
def Zmc (td ty tx:TE):TE:=fun σ H Q=>td σ H fun x H1=>∃ a,x = .ref a∧IsD H1 a∧ty σ H1 fun y H2=>tx σ H2 fun z H3=>∃ o,DGet H3 a y o∧Q (o.getD z) H3
section
variable {X:Cx} {o e f:Expr} {apos cpos:Pos} {td ty tx:TE}
theorem Zeq (hu:X.A.units + 1 < cLine) (ho:PE X o td) (he:PE X e ty) (m:M1 X o "get" apos e cpos):PE X (.Call (.Attribute o "get" apos) [e] [] cpos) (Zmd td ty):=by
 intro pins s σ H Q I h
 refine wpAny_Call_method m.base m.few m.line PySem.F.plainAttrs_dict PySem.F.slot_dict_get PySem.F.type_dict_get (thn (ho pins s σ H _ I h) fun u s1 ⟨x,H1,I1,rx,a,ex,d,q1⟩=>?_)
 subst ex
 obtain rfl:u=Value.ref a:=rx
 obtain ⟨t1,t2,_⟩:=Zcx I1 d
 refine ⟨t1,t2,?_⟩
 rw [m.trees]
 refine Calls.callWith_builtin rfl (Calls.evalArgs_plain (Calls.spliced_cons (thn (he pins s1 σ H1 _ I1 q1) fun iv s2 ⟨y,H2,I2,ry,ov,g,q2⟩=>Calls.spliced_nil ?_)))
 exact Znc hu I2 g ry fun w' s3 I3 rw'=>⟨_,H2,I3,rw',q2⟩
theorem Zbf (hu:X.A.units + 1 < cLine) (ho:PE X o td) (he:PE X e ty) (hf:PE X f tx) (m:M2 X o "get" apos e f cpos):PE X (.Call (.Attribute o "get" apos) [e,f] [] cpos) (Zmc td ty tx):=by
 intro pins s σ H Q I h
 refine wpAny_Call_method m.base m.few m.line PySem.F.plainAttrs_dict PySem.F.slot_dict_get PySem.F.type_dict_get (thn (ho pins s σ H _ I h) fun u s1 ⟨x,H1,I1,rx,a,ex,d,q1⟩=>?_)
 subst ex
 obtain rfl:u=Value.ref a:=rx
 obtain ⟨t1,t2,_⟩:=Zcx I1 d
 refine ⟨t1,t2,?_⟩
 rw [m.trees]
 refine Calls.callWith_builtin rfl (Calls.evalArgs_plain (Calls.spliced_cons (thn (he pins s1 σ H1 _ I1 q1) fun iv s2 ⟨y,H2,I2,ry,q2⟩ =>
  Calls.spliced_cons (thn (hf pins s2 σ H2 _ I2 q2) fun fv s3 ⟨z,H3,I3,rz,ov,g,q3⟩=>Calls.spliced_nil ?_))))
 exact Znb hu I3 g ry rz fun w' s4 I4 rw'=>⟨_,H3,I4,rw',q3⟩
end
section
variable {X:Cx} {pins:List (Addr × Obj)} {σ:St} {H:Hp} {s:Shared} {a:Addr} {kvs:List (Key × V)} {A:Around} {E:Value→Shared→Prop}
end
section
variable {X:Cx} {pins:List (Addr × Obj)} {σ:St} {H:Hp} {s:Shared} {a:Addr} {y:V} {u:Value} {A:Around} {E:Value→Shared→Prop}
end
end L2
namespace HT
open PySem PyProof.Rows
section
open PySem.SeqAt
open PySem.AutoSeq1 (wpAny_loadPart')
open PySem.MeetsSeq PySem.MeetsSeq2 PySem.MeetsSeq3
end
section
variable {prog:Program} {w:World} {A:Around} {E:Value→Shared→Prop} {s:Shared}
def sIx (n d:Nat):Option Int→Nat
 | none=>d
 | some v=>if v < 0 then (v + (n:Int)).toNat else min v.toNat n
theorem sIx_none (n d:Nat):sIx n d none=d:=rfl
theorem sIx_nat (n d k:Nat):sIx n d (some (k:Int))=min k n:=by
 show (if (k:Int) < 0 then ((k:Int) + (n:Int)).toNat else min (k:Int).toNat n)=min k n
 rw [if_neg (by omega),Int.toNat_natCast]
end
end HT
namespace L2
open PySem PySem.Spec PyProof.Rows
abbrev TO:=St→Hp→(Option Int→Hp→Prop)→Prop
def PO (X:Cx) (e:Option Expr) (t:TO):Prop :=
 ∀ (pins:List (Addr × Obj)) (s:Shared) (σ:St) (H:Hp) (Q:Option Int→Hp→Prop),Inv X pins σ H s→t σ H Q →
  wpAny (model X.prog X.w) X.A (evalPart e X.env) (fun u s'=>∃ o H',Inv X pins σ H' s'∧IsPart u o∧Q o H') X.xe s
def ZkQ:TO:=fun _ H Q=>Q none H
def Znv (t:TE):TO:=fun σ H Q=>t σ H fun x H1=>∃ i,x = .int i∧Q (some i) H1
section
variable {X:Cx} {e:Expr} {te:TE} {lo hi:Option Expr} {tl th:TO} {pos p2:Pos}
theorem ZQ:PO X none ZkQ:=by
 intro pins s σ H Q I h
 rw [evalPart_none]
 exact wpAny_pure ⟨none,H,I,.none,h⟩
theorem ZD (h:PE X e te):PO X (some e) (Znv te):=by
 intro pins s σ H Q I hw
 rw [evalPart_some]
 refine thn (h pins s σ H _ I hw) fun u s1 ⟨x,H1,I1,r1,q1⟩=>?_
 obtain ⟨i,rfl,q⟩:=q1
 obtain ⟨t,rfl⟩:=r1
 exact ⟨some i,H1,I1,.int i t,q⟩
def SlR (X:Cx) (r:V→Option Int→Option Int→Hp→VK→Prop):Prop :=
 ∀ (pins:List (Addr × Obj)) (s:Shared) (σ:St) (H:Hp) (x:V) (v vl vu:Value) (lo hi:Option Int) (sl:Addr) (Q:VK),Inv X pins σ H s→RelV x v→s.heap.IsSliceOf sl vl vu .none→IsPart vl lo→IsPart vu hi→r x lo hi H Q →
  ∃ T id,typeLookup (.type T) "__getitem__" = pure (some (.builtin id))∧s.TypeIs v T∧wpAny (model X.prog X.w) X.A (getItem v (.ref sl)) (EP X pins σ Q) X.xe s
def tSl (r:V→Option Int→Option Int→Hp→VK→Prop) (te:TE) (tl th:TO):TE:=fun σ H Q=>te σ H fun x H1=>tl σ H1 fun l H2=>th σ H2 fun u H3=>r x l u H3 Q
theorem Zz {r:V→Option Int→Option Int→Hp→VK→Prop} (hr:SlR X r) (he:PE X e te) (hl:PO X lo tl) (hu:PO X hi th):PE X (.Subscript e (.Slice lo hi none p2) pos) (tSl r te tl th):=by
 intro pins s σ H Q I h
 refine Subscript_ (thn (he pins s σ H _ I h) fun v s1 ⟨x,H1,I1,r1,q1⟩=>?_)
 refine wpAny_Slice (thn (hl pins s1 σ H1 _ I1 q1) fun vl s2 ⟨l,H2,I2,pl,q2⟩=>thn (hu pins s2 σ H2 _ I2 q2) fun vu s3 ⟨u,H3,I3,pu,q3⟩=>?_)
 rw [evalPart_none]
 refine wpAny_pure ?_
 have I4:Inv X pins σ H3 { s3 with heap:=s3.heap.push { cls:=.type "slice",data:=.fields #[vl,vu,.none] } }:=I3.kept (t':=s3.toks) fun b ob q=>Heap.get?_push_of_some _ q
 obtain ⟨T,id,hT,ht,hg⟩:=hr pins { s3 with heap:=s3.heap.push { cls:=.type "slice",data:=.fields #[vl,vu,.none] } } σ H3 x v vl vu l u s3.heap.objs.size Q I4 r1 (Heap.IsSliceOf.new ..) pl pu q3
 show wpAny (model X.prog X.w) X.A (subscriptTail e (.Slice lo hi none p2) v (.ref s3.heap.objs.size)) (EP X pins σ Q) X.xe { s3 with heap:=s3.heap.push { cls:=.type "slice",data:=.fields #[vl,vu,.none] } }
 exact tail_any (ops:=[.ref s3.heap.objs.size,v]) ht hT hg (by with_unfolding_all rfl)
def ZeW (xs:List V) (lo hi:Option Int):List V:=(xs.drop (HT.sIx xs.length 0 lo)).take (HT.sIx xs.length xs.length hi - HT.sIx xs.length 0 lo)
theorem ZdF (xs:List V) (lo hi:Option Int):(ZeW xs lo hi).length≤xs.length:=by
 unfold ZeW
 rw [List.length_take,List.length_drop]
 omega
end
def ixN (n:Nat) (i:Int):Option Nat:=if 0≤i then (if i < n then some i.toNat else none) else if -(n:Int)≤i then some (i + n).toNat else none
def atI {α:Type} (xs:List α) (i:Int):Option α:=(ixN xs.length i).bind fun j=>xs[j]?
theorem ixN_seq {n:Nat} {i:Int} {j:Nat} (h:ixN n i=some j):seqIndex? i n=some j∧j < n∧-(n:Int)≤i∧i < n:=by
 unfold ixN at h
 by_cases h0:0≤i
 ·rw [if_pos h0] at h
  by_cases h1:i < n
  ·rw [if_pos h1] at h
   have e:i.toNat=j:=Option.some.inj h
   exact ⟨by rw [seqIndex_of h0 h1,e],by omega,by omega,h1⟩
  ·rw [if_neg h1] at h; cases h
 ·rw [if_neg h0] at h
  by_cases h1 : -(n:Int)≤i
  ·rw [if_pos h1] at h
   have e:(i + n).toNat=j:=Option.some.inj h
   exact ⟨by rw [seqIndex_neg (by omega) h1,e],by omega,h1,by omega⟩
  ·rw [if_neg h1] at h; cases h
theorem ZdJ {α:Type} {xs:List α} {i:Int} {v:α} (h:atI xs i=some v):∃ j,seqIndex? i xs.length=some j∧xs[j]?=some v∧j < xs.length∧-(xs.length:Int)≤i∧i < xs.length:=by
 unfold atI at h
 cases e:ixN xs.length i with
 | none=>rw [e] at h; cases h
 | some j =>
  rw [e] at h
  obtain ⟨h1,h2,h3,h4⟩:=ixN_seq e
  exact ⟨j,h1,h,h2,h3,h4⟩
theorem ZbL {α:Type} {xs:List α} {j:Nat} {v:α} (h:xs[j]?=some v):atI xs (j:Int)=some v:=by
 have hj:j < xs.length:=(List.getElem?_eq_some_iff.mp h).1
 have e:ixN xs.length (j:Int)=some j:=by
  unfold ixN
  rw [if_pos (by omega),if_pos (by omega)]; simp
 unfold atI; rw [e]; exact h
theorem ZjB {α:Type} (xs:List α) (v:α):atI (xs ++ [v]) (-1)=some v:=by
 have hl:(xs ++ [v]).length=xs.length + 1:=by simp
 have e:ixN (xs ++ [v]).length (-1)=some xs.length:=by
  unfold ixN
  rw [hl,if_neg (by decide),if_pos (by omega)]
  congr 1
  omega
 unfold atI
 rw [e]
 show (xs ++ [v])[xs.length]?=some v
 simp
def ZlZ (b:Expr):Prop:=∀ o i,subscripted b false o i=operate [o,i] (getItem o i)
def IxR (X:Cx) (r:R2):Prop :=
 ∀ (value slice:Expr) (pins:List (Addr × Obj)) (s:Shared) (σ:St) (H:Hp) (x y:V) (v u:Value) (Q:VK),Inv X pins σ H s→RelV x v→RelV y u→r x y H Q →
  subscripted slice false v u=operate [v,u] (getItem v u)→wpAny (model X.prog X.w) X.A (subscriptTail value slice v u) (EP X pins σ Q) X.xe s
def MtR (X:Cx) (id:String) (r:V→List V→Hp→VK→Prop):Prop :=
 ∀ (pins:List (Addr × Obj)) (s:Shared) (σ:St) (H:Hp) (x:V) (xs:List V) (v:Value) (us:List Value) (Q:VK),Inv X pins σ H s→RelV x v→Vals xs us→r x xs H Q →
  wpAny (model X.prog X.w) X.A (call (.builtin id) (v :: us)) (EP X pins σ Q) X.xe s
section
variable {X:Cx} {a b:Expr} {ta tb:TE} {pos:Pos}
theorem ZV {r:R2} (hr:IxR X r) (ha:PE X a ta) (hb:PE X b tb) (hs:ZlZ b):PE X (.Subscript a b pos) (tOp r ta tb):=by
 intro pins s σ H Q I h
 exact Subscript_ (Zn5 ha hb I h fun v u s2 x y H2 I2 rx ry q=>hr a b pins s2 σ H2 x y v u Q I2 rx ry q (hs _ _))
def Zoj (K:PySem.W.Frag):R2:=fun x y H Q=>∃ p xs i v,x = .ref p∧y = .int i∧SqL K H p xs∧atI xs i=some v∧Q v H
def ZoG (K:PySem.W.Frag):R2:=fun x y H Q=>∃ p xs i v,x = .ref p∧y = .int i∧SqT K H p xs∧atI xs i=some v∧Q v H
def ZoH:R2:=fun x y H Q=>∃ z i c,x = .str z∧y = .int i∧z.length≤sizeLine∧atI z.cps.toList i=some c∧Q (.str ⟨#[c]⟩) H
theorem ZN:IxR X (Zoj X.K):=by
 intro value slice pins s σ H x y v u Q I rx ry h hs
 obtain ⟨p,xs,i,z,rfl,rfl,hq,he,q⟩:=h
 cases rx
 obtain ⟨t,rfl⟩:=ry
 obtain ⟨its,r,pl,hz⟩:=I.list hq
 obtain ⟨j,h1,h2,h3,h4,h5⟩:=ZdJ he
 obtain ⟨w,ew,rw'⟩:=r.get h2
 have hl:=r.length
 have hn:=J7
 have fin:EP X pins σ Q w s:=⟨z,H,I,rw',q⟩
 by_cases h0:0≤i
 ·have hj:i.toNat=j:=by
   rw [seqIndex_of h0 h5] at h1
   exact Option.some.inj h1
  exact item_listR pl.isList h0 (by omega) (by rw [hj]; simpa using ew) fin hs
 ·have hj:(i + (its.toArray.size:Int)).toNat=j:=by
   rw [seqIndex_neg (by omega) h4] at h1
   rw [List.size_toArray,← hl]
   exact Option.some.inj h1
  exact subscriptTail_builtinR (x:=w) pl.isList.typeIs slot_list_getitem.lookup
   (wpAny_getItem_list_neg (Q:=fun r s'=>r=w∧EP X pins σ Q r s') pl.isList (by omega) (by rw [List.size_toArray] <;> omega) (by omega) (by rw [hj]; simpa using ew) ⟨rfl,fin⟩) hs
theorem ZaL:IxR X (ZoG X.K):=by
 intro value slice pins s σ H x y v u Q I rx ry h hs
 obtain ⟨p,xs,i,z,rfl,rfl,hq,he,q⟩:=h
 cases rx
 obtain ⟨t,rfl⟩:=ry
 obtain ⟨its,r,pl,hz⟩:=I.tuple hq
 obtain ⟨j,h1,h2,h3,h4,h5⟩:=ZdJ he
 obtain ⟨w,ew,rw'⟩:=r.get h2
 have hl:=r.length
 have hn:=J7
 have fin:EP X pins σ Q w s:=⟨z,H,I,rw',q⟩
 exact subscriptTail_builtinR (x:=w) pl.typeIs slot_tuple_getitem.lookup
  (getItem_tuple (j:=j) (Q:=fun r s'=>r=w∧EP X pins σ Q r s') pl (by omega) (by omega) (by rw [List.size_toArray,← hl]; exact h1) (by simpa using ew) ⟨rfl,fin⟩) hs
theorem ZeI:IxR X ZoH:=by
 intro value slice pins s σ H x y v u Q I rx ry h hs
 obtain ⟨z,i,c,rfl,rfl,hz,he,q⟩:=h
 obtain ⟨t,rfl⟩:=rx
 obtain ⟨t',rfl⟩:=ry
 obtain ⟨j,h1,h2,h3,h4,h5⟩:=ZdJ he
 have hl:z.cps.toList.length=z.length:=by simp [Str.length]
 rw [hl] at h1 h4 h5
 have hn:=J7
 exact tail_any (typeIs_str s z t) slot_str_getitem.lookup (getItem_str (c:=c) (by
  have e1:decide (i < -(2 ^ 63:Int))=false:=decide_eq_false (by omega)
  have e2:decide (i ≥ 2 ^ 63)=false:=decide_eq_false (by omega)
  rw [e1,e2,Bool.or_false]) (by rw [h1]; simpa using h2) ⟨.str ⟨#[c]⟩,H,I.tok _,⟨_,rfl⟩,q⟩) hs
theorem Zfs (its:List Value) (n j:Nat) (u:Value):Obj.mapSeq (·.setIfInBounds j u) { cls:=.type "list",data:=.seq its.toArray n }={ cls:=.type "list",data:=.seq (its.set j u).toArray n }:=by
 simp [Obj.mapSeq]
theorem Inv.lst {pins:List (Addr × Obj)} {σ:St} {H:Hp} {s:Shared} {p:Addr} {xs:List V} (I:Inv X pins σ H s) (h:H p=some (.lst xs)) :
  ∃ (its:List Value) (n:Nat),Vals xs its∧s.heap.get? p=some { cls:=.type "list",data:=.seq its.toArray n }∧xs.length≤sizeLine:=by
 obtain ⟨z,its,n,r,e⟩:=I.hok p _ h
 exact ⟨its,n,r,e,z⟩
theorem Inv.lstUpd {pins:List (Addr × Obj)} {σ:St} {H:Hp} {s:Shared} {p:Addr} {xs ys:List V} {its its':List Value} {n n':Nat} {f:Obj→Obj} (I:Inv X pins σ H s) (h:H p=some (.lst xs))
  (ho:s.heap.get? p=some { cls:=.type "list",data:=.seq its.toArray n }) (hf:f { cls:=.type "list",data:=.seq its.toArray n }={ cls:=.type "list",data:=.seq its'.toArray n' }) (r:Vals ys its') (hz:ys.length≤sizeLine) (t:Nat) :
  Inv X pins σ (upd H p (.lst ys)) { s with heap:=s.heap.update p f,toks:=t }:=by
 have e:(s.heap.update p f).get? p=some { cls:=.type "list",data:=.seq its'.toArray n' }:=by
  rw [Heap.get?_update_self f ho (by rw [hf] <;> rfl),hf]
 refine I.write (x:=p) (e:=p) (by rw [h]; trivial) (.inl rfl) (fun b u hb q=>(Heap.get?_update_other _ _ (Ne.symm hb)).trans q) ⟨_,e⟩ ?_
 exact ⟨hz,its',n',r,e⟩
def ZnK:V→V→V→Hp→(Hp→Prop)→Prop:=fun o i v H Q=>∃ p xs k j,o = .ref p∧i = .int k∧H p=some (.lst xs)∧ixN xs.length k=some j∧Q (upd H p (.lst (xs.set j v)))
theorem Zee:Zor X ZnK:=by
 intro pins s σ H o i v ov iv u Q I ro ri rv h
 obtain ⟨p,xs,k,j,rfl,rfl,hp,hj,q⟩:=h
 cases ro
 obtain ⟨t,rfl⟩:=ri
 obtain ⟨its,n,r,ho,hz⟩:=I.lst hp
 obtain ⟨h1,h2,h3,h4⟩:=ixN_seq hj
 have hl:=r.length
 have hn:=J7
 have I':Inv X pins σ (upd H p (.lst (xs.set j v))) { s with heap:=s.heap.update p (Obj.mapSeq (·.setIfInBounds j u)) } :=
  I.lstUpd hp ho (Zfs its n j u) (r.set rv j) (by rw [List.length_set]; exact hz) s.toks
 by_cases h0:0≤k
 ·have hk:k.toNat=j:=by
   rw [seqIndex_of h0 h4] at h1
   exact Option.some.inj h1
  exact PySem.W.ki_setAt ho h0 (by omega) (by rw [List.size_toArray,← hl]; exact h4) (by rw [hk]; exact ⟨_,I',q⟩)
 ·have hk:(k + (its.toArray.size:Int)).toNat=j:=by
   rw [seqIndex_neg (by omega) h3] at h1
   rw [List.size_toArray,← hl]
   exact Option.some.inj h1
  exact PySem.W.ki_setBack ho (by omega) (by rw [List.size_toArray,← hl]; exact h3) (by omega) (by rw [hk]; exact ⟨_,I',q⟩)
theorem Zb4 (lo hi:Option Int) (n:Nat):(sliceBounds lo hi none n).1=((HT.sIx n 0 lo:Nat):Int)∧(sliceBounds lo hi none n).2.1=((HT.sIx n n hi:Nat):Int)∧(sliceBounds lo hi none n).2.2=1:=by
 refine ⟨?_,?_,rfl⟩
 ·cases lo with
  | none=>simp [sliceBounds,HT.sIx]
  | some i =>
   simp only [sliceBounds,HT.sIx,Option.getD_none,show (1:Int) > 0 by decide,if_true]
   by_cases h:i < 0
   ·simp only [h,if_true] <;> omega
   ·simp only [h,if_false] <;> omega
 ·cases hi with
  | none=>simp [sliceBounds,HT.sIx]
  | some i =>
   simp only [sliceBounds,HT.sIx,Option.getD_none,show (1:Int) > 0 by decide,if_true]
   by_cases h:i < 0
   ·simp only [h,if_true] <;> omega
   ·simp only [h,if_false] <;> omega
theorem ZaW (its:List Value) (lo hi:Option Int):slicePick its.toArray lo hi none=((its.drop (HT.sIx its.length 0 lo)).take (HT.sIx its.length its.length hi - HT.sIx its.length 0 lo)).toArray:=by
 obtain ⟨h1,h2,h3⟩:=Zb4 lo hi its.toArray.size
 unfold slicePick
 rw [h1,h2,h3]
 simp only [sliceRange_one,pick_run,List.size_toArray] <;> rfl
def ZoE (K:PySem.W.Frag):V→Option Int→Option Int→Hp→VK→Prop:=fun x lo hi H Q=>∃ a xs,x = .ref a∧SqL K H a xs∧∀ p,H p=none→Q (.ref p) (upd H p (.lst (ZeW xs lo hi)))
theorem Zc6:SlR X (ZoE X.K):=by
 intro pins s σ H x v vl vu lo hi sl Q I rx hs pl pu h
 obtain ⟨a,xs,rfl,hx,q⟩:=h
 cases rx
 obtain ⟨its,r,ht,hz⟩:=I.list hx
 have hlen:=r.length
 refine ⟨"list",_,slot_list_getitem.lookup,ht.isList.typeIs,?_⟩
 refine wpAny_getItem_list_slice ht.isList hs pl pu .none (by simp) ?_ (by rw [List.size_toArray] <;> omega)
 rw [ZaW,← hlen]
 refine ⟨.ref s.heap.objs.size,_,I.laid (t':=s.toks) (o:=.lst (ZeW xs lo hi)) (fun b ob q=>Heap.get?_push_of_some _ q) (Nat.le_refl _) ?_,rfl,q _ (I.hok.fresh (Nat.le_refl _))⟩
 exact ⟨Nat.le_trans (ZdF xs lo hi) hz,_,0,(r.drop (HT.sIx xs.length 0 lo)).take (HT.sIx xs.length xs.length hi - HT.sIx xs.length 0 lo),Heap.get?_push_size _ rfl⟩
def ZbA:V→Bool
 | .non=>true
 | .bl _=>true
 | .int _=>true
 | .str _=>true
 | _=>false
def eqV:V→V→Bool
 | .non,.non=>true
 | .bl a,.bl b=>a == b
 | .bl a,.int b=>(if a then 1 else 0) == b
 | .int a,.bl b=>a == (if b then 1 else 0)
 | .int a,.int b=>a == b
 | .str a,.str b=>a == b
 | _,_=>false
theorem Zm7 {A:Around} {s:Shared} {y x:V} {u v:Value} (ry:RelV y u) (rx:RelV x v) (fy:ZbA y=true) (fx:ZbA x=true):SeqAt.EqAt A s u v (eqV y x):=by
 cases y with
 | non =>
  cases ry
  cases x with
  | non=>cases rx; exact SeqAt.EqAt.same _
  | bl b=>cases rx; exact SeqAt.EqAt.none_bool b
  | int b=>obtain ⟨t,rfl⟩:=rx; exact SeqAt.EqAt.none_int b t
  | str b=>obtain ⟨t,rfl⟩:=rx; exact SeqAt.EqAt.none_str b t
  | _=>exact absurd (show false=true from fx) Bool.false_ne_true
 | bl a =>
  cases ry
  cases x with
  | non=>cases rx; exact SeqAt.EqAt.bool_none a
  | bl b=>cases rx; exact SeqAt.EqAt.bool_bool a b
  | int b=>obtain ⟨t,rfl⟩:=rx; exact SeqAt.EqAt.bool_int a b t
  | str b=>obtain ⟨t,rfl⟩:=rx; exact SeqAt.EqAt.bool_str a b t
  | _=>exact absurd (show false=true from fx) Bool.false_ne_true
 | int a =>
  obtain ⟨t',rfl⟩:=ry
  cases x with
  | non=>cases rx; exact SeqAt.EqAt.int_none a t'
  | bl b=>cases rx; exact SeqAt.EqAt.int_bool a t' b
  | int b=>obtain ⟨t,rfl⟩:=rx; exact SeqAt.EqAt.int_int a t' b t
  | str b=>obtain ⟨t,rfl⟩:=rx; exact SeqAt.EqAt.int_str a t' b t
  | _=>exact absurd (show false=true from fx) Bool.false_ne_true
 | str a =>
  obtain ⟨t',rfl⟩:=ry
  cases x with
  | non=>cases rx; exact SeqAt.EqAt.str_none a t'
  | bl b=>cases rx; exact SeqAt.EqAt.str_bool a t' b
  | int b=>obtain ⟨t,rfl⟩:=rx; exact SeqAt.EqAt.str_int a t' b t
  | str b=>obtain ⟨t,rfl⟩:=rx; exact SeqAt.EqAt.str_str a t' b t
  | _=>exact absurd (show false=true from fx) Bool.false_ne_true
 | _=>exact absurd (show false=true from fy) Bool.false_ne_true
def eqU (x:V) (u:Value):Bool:=match u with
 | .none=>eqV .non x
 | .bool b=>eqV (.bl b) x
 | .int i _=>eqV (.int i) x
 | .str z _=>eqV (.str z) x
 | _=>false
theorem Zks {x y:V} {u:Value} (r:RelV y u) (f:ZbA y=true):eqU x u=eqV y x:=by
 cases y with
 | non=>cases r; rfl
 | bl b=>cases r; rfl
 | int i=>obtain ⟨t,rfl⟩:=r; rfl
 | str z=>obtain ⟨t,rfl⟩:=r; rfl
 | _=>exact absurd (show false=true from f) Bool.false_ne_true
theorem ZdK {x:V}:∀ {xs:List V} {us:List Value},Vals xs us→xs.all ZbA=true→us.any (eqU x)=xs.any fun y=>eqV y x
 | _,_,.nil,_=>rfl
 | y :: xs,u :: us,.cons r t,f=>by
  rw [List.all_cons,Bool.and_eq_true] at f
  rw [List.any_cons,List.any_cons,Zks r f.1,ZdK t f.2]
theorem Zbs {A:Around} {s:Shared} {x:V} {v:Value} (rx:RelV x v) (fx:ZbA x=true):∀ {xs:List V} {us:List Value},Vals xs us→xs.all ZbA=true→∀ u∈us,SeqAt.EqAt A s u v (eqU x u)
 | _,_,.nil,_=>fun u hu=>by cases hu
 | y :: xs,u :: us,.cons r t,f=>fun u' hu=>by
  rw [List.all_cons,Bool.and_eq_true] at f
  rcases List.mem_cons.mp hu with rfl | hu
  ·rw [Zks r f.1]; exact Zm7 r rx f.1 fx
  ·exact Zbs rx fx t f.2 u' hu
def inV (x:V) (xs:List V):Bool:=xs.any fun y=>eqV y x
def rIn (K:PySem.W.Frag) (neg:Bool):R2:=fun x y H Q=>∃ p xs,y = .ref p∧(SqL K H p xs∨SqT K H p xs)∧ZbA x=true∧xs.all ZbA=true∧Q (.bl (if neg then !inV x xs else inV x xs)) H
theorem Zcc:OpR X (compareOp .NotIn) (rIn X.K true):=by
 intro pins s σ H x y v u Q I rx ry h
 obtain ⟨p,xs,rfl,hq,fx,fs,q⟩:=h
 cases ry
 rcases hq with hq | hq
 ·obtain ⟨its,r,pl,hz⟩:=I.list hq
  refine SeqAt.notIn_listAt (eqU x) pl.isList (fun w hw=>Zbs rx fx r fs w (by simpa using hw)) ⟨.bl _,H,I,rfl,?_⟩
  rw [show its.toArray.any (eqU x)=its.any (eqU x) by simp,ZdK r fs]
  exact q
 ·obtain ⟨its,r,pl,hz⟩:=I.tuple hq
  refine SeqAt.notIn_tupleAt (eqU x) pl (fun w hw=>Zbs rx fx r fs w (by simpa using hw)) ⟨.bl _,H,I,rfl,?_⟩
  rw [show its.toArray.any (eqU x)=its.any (eqU x) by simp,ZdK r fs]
  exact q
theorem ZcP:CallR X (.type "list") (fun xs H Q=>∃ p ys,xs=[.ref p]∧(SqL X.K H p ys∨SqT X.K H p ys)∧∀ l,H l=none→Q (.ref l) (upd H l (.lst ys))):=by
 intro pins s σ H xs us Q I r h
 obtain ⟨p,ys,rfl,hq,q⟩:=h
 obtain ⟨u,rfl,rx⟩:=Xu r
 cases rx
 have fin:∀ (its:List Value),Vals ys its→ys.length≤sizeLine→∀ (h':Heap) (c':Nat),(∀ b o',s.heap.get? b=some o'→h'.get? b=some o') →
   h'.get? s.heap.objs.size=some { cls:=.type "list",dict:=none,data:=.seq its.toArray c',slots:=#[] }→EP X pins σ Q (.ref s.heap.objs.size) { s with heap:=h' }:=fun its r' hz h' c' kp e =>
  ⟨.ref s.heap.objs.size,_,I.laid (t':=s.toks) kp (Nat.le_refl _) (show ObjOk X.prog X.w _ h' _ (.lst ys) from ⟨hz,its,c',r',e⟩),rfl,q _ (I.hok.fresh (Nat.le_refl _))⟩
 rcases hq with hq | hq
 ·obtain ⟨its,r',pl,hz⟩:=I.list hq
  have hlen:=r'.length
  obtain ⟨o,ho,hc,n,hd⟩:=pl.isList
  exact call_list_seq p (.inl rfl) ho hc hd (fun h' c' kp e=>fin its r' hz h' c' kp e) (by simp only [List.size_toArray] <;> omega)
 ·obtain ⟨its,r',pl,hz⟩:=I.tuple hq
  have hlen:=r'.length
  obtain ⟨o,ho,hc,n,hd⟩:=pl
  exact call_list_seq p (.inr rfl) ho hc hd (fun h' c' kp e=>fin its r' hz h' c' kp e) (by simp only [List.size_toArray] <;> omega)
theorem ZF:CallR X (.type "tuple") (fun xs H Q=>∃ p ys,xs=[.ref p]∧((SqL X.K H p ys∧∀ l,H l=none→Q (.ref l) (upd H l (.tup ys)))∨(SqT X.K H p ys∧Q (.ref p) H))):=by
 intro pins s σ H xs us Q I r h
 obtain ⟨p,ys,rfl,h⟩:=h
 obtain ⟨u,rfl,rx⟩:=Xu r
 cases rx
 rcases h with ⟨hq,q⟩ | ⟨hq,q⟩
 ·obtain ⟨its,r',pl,hz⟩:=I.list hq
  have hlen:=r'.length
  refine call_tuple_list pl.isList (fun h' kp=>?_) (by simp only [List.size_toArray] <;> omega)
  have I1:Inv X pins σ H { s with heap:=h' }:=I.kept (t':=s.toks) kp
  have I2:Inv X pins σ (upd H h'.objs.size (.tup ys)) { s with heap:=h'.push { cls:=.type "tuple",data:=.seq its.toArray } } :=
   I1.laid (t':=s.toks) (fun b o e=>Heap.get?_push_of_some _ e) (Nat.le_refl _) (show ObjOk X.prog X.w _ _ _ (.tup ys) from ⟨hz,its,r',IsTup.new _ _,Zex rfl rfl⟩)
  exact ⟨.ref h'.objs.size,_,I2,rfl,q _ (I1.hok.fresh (Nat.le_refl _))⟩
 ·obtain ⟨its,r',pl,hz⟩:=I.tuple hq
  exact call_tuple_same pl ⟨.ref p,H,I,rfl,q⟩
def tyV (K:PySem.W.Frag) (T:String) (x:V) (H:Hp):Prop:=match x with
 | .str _=>T = "str"
 | .int _=>T = "int"
 | .ref p=>(T = "list"∧∃ xs,SqL K H p xs)∨(T = "tuple"∧∃ o,K.lookup p=some o∧o.cls = .type "tuple"∧o.dict=none) ∨
   (T = "dict"∧((∃ kvs,H p=some (.dK kvs))∨∃ kvs,H p=some (.dT kvs)))∨(T = "set"∧∃ S n,H p=some (.set S n))
 | _=>False
theorem ZjI {pins:List (Addr × Obj)} {σ:St} {H:Hp} {s:Shared} {T:String} {x:V} {v:Value} (I:Inv X pins σ H s) (r:RelV x v) (ty:tyV X.K T x H) :
  s.TypeIs v T∧∀ a,v = .ref a→∃ ob,s.heap.get? a=some ob∧ob.dict=none:=by
 cases x with
 | str z =>
  obtain ⟨t,rfl⟩:=r
  cases (show T = "str" from ty)
  exact ⟨typeIs_str s z t,fun _ e=>nomatch e⟩
 | int i =>
  obtain ⟨t,rfl⟩:=r
  cases (show T = "int" from ty)
  exact ⟨typeIs_int s i t,fun _ e=>nomatch e⟩
 | ref p =>
  cases r
  rcases ty with ⟨rfl,xs,hq⟩ | ⟨rfl,o,hk,hc,hd⟩ | ⟨rfl,hk⟩ | ⟨rfl,S,n,hk⟩
  ·obtain ⟨its,_,pl,_⟩:=I.list hq
   refine ⟨pl.isList.typeIs,fun a e=>?_⟩
   cases e
   obtain ⟨o,n,e,c,hd,_⟩:=pl
   exact ⟨o,e,hd⟩
  ·refine ⟨⟨o,I.kIn p o hk,hc⟩,fun a e=>?_⟩
   cases e
   exact ⟨o,I.kIn _ o hk,hd⟩
  ·have z:∃ o,s.heap.get? p=some o∧o.ExactDict:=by
    rcases hk with ⟨kvs,hk⟩ | ⟨kvs,hk⟩
    ·obtain ⟨_,_,_,_,o,_,_,e,ex,_⟩:=I.hok p _ hk
     exact ⟨o,e,ex⟩
    ·obtain ⟨_,_,_,_,o,_,_,e,ex,_⟩:=I.hok p _ hk
     exact ⟨o,e,ex⟩
   obtain ⟨o,e,ex⟩:=z
   refine ⟨⟨o,e,ex.1⟩,fun a e2=>?_⟩
   cases e2
   exact ⟨o,e,ex.2.1⟩
  ·obtain ⟨o,_,_,_,e,ex,_⟩:=I.hok p _ hk
   refine ⟨⟨o,e,ex.1⟩,fun a e2=>?_⟩
   cases e2
   exact ⟨o,e,ex.2.1⟩
 | _=>exact False.elim ty
def ZoB (K:PySem.W.Frag) (T:String) (r:V→List V→Hp→VK→Prop) (to:TE):TE:=fun σ H Q=>to σ H fun x H1=>tyV K T x H1∧r x [] H1 Q
def tBM (K:PySem.W.Frag) (T:String) (r:V→List V→Hp→VK→Prop) (to:TE) (t:TA):TE:=fun σ H Q=>to σ H fun x H1=>tyV K T x H1∧t σ H1 fun xs H2=>r x xs H2 Q
variable {o e:Expr} {es:List Expr} {to:TE} {t:TA} {name:Str} {apos cpos:Pos} {T id:String} {r:V→List V→Hp→VK→Prop}
theorem Zj8 (pa:PlainAttrs T) (slot:Slot T name id) (hty:typeOf (.builtin id)=pure (.type "method_descriptor")) (hm:MtR X id r) (ho:PE X o to)
  (hbase:attributeBase o name X.env (eval o X.env)=eval o X.env:=by rfl) (hline:(apos.endLine == cpos.line)=true:=by rfl):PE X (.Call (.Attribute o name apos) [] [] cpos) (ZoB X.K T r to):=by
 intro pins s σ H Q I h
 refine wpAny_Call_method0_late hbase hline (thn (ho pins s σ H _ I h) fun v s1 ⟨x,H1,I1,r1,ty,q1⟩=>?_)
 obtain ⟨h1,h2⟩:=ZjI I1 r1 ty
 exact ⟨T,id,pa,slot,hty,h1,h2,Calls.callWith_builtin rfl (PySem.evalArgs_none (hm pins s1 σ H1 x [] v [] Q I1 r1 .nil q1))⟩
theorem Zdg (pa:PlainAttrs T) (slot:Slot T name id) (hty:typeOf (.builtin id)=pure (.type "method_descriptor")) (hm:MtR X id r) (ho:PE X o to) (ha:PA X (e :: es) t)
  (hbase:attributeBase o name X.env (eval o X.env)=eval o X.env:=by rfl)
  (hfew:((backTo cpos (starEach (e :: es) X.env)).all (fun x=>!x.1) && (backToKw cpos (keywordEach [] X.env)).all (fun x=>x.1.isSome)
   && decide ((e :: es).length + ([]:List Keyword).length + (if ([]:List Keyword).isEmpty then 0 else 1) < 30))=true:=by rfl)
  (hline:(apos.endLine == cpos.line)=true:=by rfl) (hs:starEach (e :: es) X.env=(false,eval e X.env) :: starEach es X.env:=by rfl) (hplain:(backTo cpos (starEach es X.env)).any (·.1)=false:=by rfl) :
  PE X (.Call (.Attribute o name apos) (e :: es) [] cpos) (tBM X.K T r to t):=by
 intro pins s σ H Q I h
 refine wpAny_Call_method_late hbase hfew hline rfl (thn (ho pins s σ H _ I h) fun v s1 ⟨x,H1,I1,r1,ty,q1⟩=>?_)
 obtain ⟨h1,h2⟩:=ZjI I1 r1 ty
 refine ⟨T,id,pa,slot,hty,h1,h2,?_⟩
 have hA:=ha cpos pins s1 σ H1 _ I1 q1
 rw [hs] at hA ⊢
 refine Calls.callWith_builtin (by show (false || (backTo cpos (starEach es X.env)).any (·.1))=false; rw [hplain] <;> rfl) (Calls.evalArgs_plain ?_)
 exact thn hA fun us s2 ⟨vs,H2,I2,r2,q2⟩=>hm pins s2 σ H2 x vs v us Q I2 r1 r2 q2
end
def MtM (X:Cx) (id:String) (r:V→List V→Hp→VK→Prop):Prop :=
 ∀ (pins:List (Addr × Obj)) (s:Shared) (σ:St) (H:Hp) (x:V) (xs:List V) (v:Value) (us:List Value) (Q:VK),Inv X pins σ H s→RelV x v→Vals xs us→r x xs H Q →
  wpAny (model X.prog X.w) X.A (call (.builtin id) (v :: us)) (EP X pins σ Q) X.xe s
theorem Vals.one:∀ {x:V} {us:List Value},Vals [x] us→∃ u,us=[u]∧RelV x u
 | _,_,.cons r .nil=>⟨_,rfl,r⟩
theorem Vals.zero:∀ {us:List Value},Vals [] us→us=[]
 | _,.nil=>rfl
theorem Vals.dropLast {xs:List V} {us:List Value} (h:Vals xs us):Vals xs.dropLast us.dropLast:=by
 induction h with
 | nil=>exact .nil
 | cons r t ih =>
  cases t with
  | nil=>exact .nil
  | cons q t'=>exact .cons r ih
theorem Vals.eraseIdx:∀ {xs:List V} {us:List Value} (i:Nat),Vals xs us→Vals (xs.eraseIdx i) (us.eraseIdx i)
 | _,_,_,.nil=>.nil
 | _,_,0,.cons _ t=>t
 | _,_,i + 1,.cons r t=>.cons r (Vals.eraseIdx i t)
theorem Vals.rep {xs:List V} {us:List Value} (h:Vals xs us):∀ k:Nat,Vals (List.replicate k xs).flatten (List.replicate k us).flatten
 | 0=>.nil
 | k + 1=>by
  rw [List.replicate_succ,List.replicate_succ,List.flatten_cons,List.flatten_cons]
  exact Vals.append h (Vals.rep h k)
theorem ZfC {α:Type} (l:List α):l.eraseIdx (l.length - 1)=l.dropLast:=by
 induction l with
 | nil=>rfl
 | cons a r ih =>
  cases r with
  | nil=>rfl
  | cons b r =>
   have e:(a :: b :: r).length - 1=((b :: r).length - 1) + 1:=by
    have h1:(a :: b :: r).length=r.length + 2:=rfl
    have h2:(b :: r).length=r.length + 1:=rfl
    omega
   rw [e,List.eraseIdx_cons_succ,ih]
   all_goals rfl
theorem ZcC (its:List Value):∀ (k:Nat) (acc:List Value),
  List.foldl (fun x1 x2=>x1 ++ x2) acc.toArray (List.replicate k its.toArray)=(acc ++ (List.replicate k its).flatten).toArray
 | 0,acc=>by simp
 | k + 1,acc=>by
  have e:acc.toArray ++ its.toArray=(acc ++ its).toArray:=by simp
  have e2:(acc ++ its) ++ (List.replicate k its).flatten=acc ++ (List.replicate (k + 1) its).flatten:=by
   rw [List.replicate_succ,List.flatten_cons,List.append_assoc]
  rw [← e2,← ZcC its k (acc ++ its),← e,List.replicate_succ,List.foldl_cons]
section
variable {X:Cx} {pins:List (Addr × Obj)} {σ:St} {H:Hp} {s:Shared} {l b:Addr} {xs ys zs:List V}
theorem Inv.lset {its its':List Value} {n:Nat} {f:Array Value→Array Value} {t':Nat} (I:Inv X pins σ H s) (hH:H l=some (.lst xs))
  (e:s.heap.get? l=some { cls:=.type "list",data:=.seq its.toArray n }) (hf:f its.toArray=its'.toArray) (hv:Vals ys its') (hz:ys.length≤sizeLine) :
  Inv X pins σ (upd H l (.lst ys)) { s with heap:=s.heap.update l (Obj.mapSeq f),toks:=t' }:=by
 have q:=PySem.IsL.update e f
 rw [hf] at q
 refine I.write (x:=l) (e:=l) (by rw [hH]; exact trivial) (.inl rfl) (fun b' u hb hu=>(Heap.get?_update_other s.heap (Obj.mapSeq f) (Ne.symm hb)).trans hu) ⟨_,q⟩ ?_
 exact ⟨hz,its',_,hv,q⟩
theorem Inv.lnew {its:List Value} {t':Nat} (I:Inv X pins σ H s) (hv:Vals ys its) (hz:ys.length≤sizeLine) :
  Inv X pins σ (upd H s.heap.objs.size (.lst ys)) { s with heap:=s.heap.push { cls:=.type "list",data:=.seq its.toArray },toks:=t' } :=
 I.laid (fun _ _ q=>Heap.get?_push_of_some _ q) (Nat.le_refl _) ⟨hz,its,0,hv,Heap.get?_push_size _ rfl⟩
theorem Inv.fresh (I:Inv X pins σ H s):H s.heap.objs.size=none:=I.hok.fresh (Nat.le_refl _)
theorem Inv.lstM (I:Inv X pins σ H s) (hH:H l=some (.lst xs)):xs.length≤sizeLine∧∃ (its:List Value) (n:Nat),Vals xs its∧xs.length=its.length∧s.heap.get? l=some { cls:=.type "list",data:=.seq its.toArray n }:=by
 obtain ⟨z,its,n,r,e⟩:=I.hok l _ hH
 exact ⟨z,its,n,r,r.length,e⟩
theorem Zeu {n:Nat} (h:n≤sizeLine):Builtin.List.listTooLong n=false:=by
 unfold Builtin.List.listTooLong
 exact decide_eq_false (by omega)
end
section
variable {X:Cx}
def ZgN:V→List V→Hp→VK→Prop:=fun x vs H Q=>∃ l xs y,x = .ref l∧vs=[y]∧H l=some (.lst xs)∧xs.length < sizeLine∧Q .non (upd H l (.lst (xs ++ [y])))
theorem Zcq:MtM X "list.append" ZgN:=by
 intro pins s σ H x vs v us Q I rx rv h
 obtain ⟨l,xs,y,rfl,rfl,hH,hz,q⟩:=h
 cases rx
 obtain ⟨u,rfl,ru⟩:=rv.one
 obtain ⟨z,its,n,r,hl,e⟩:=I.lstM hH
 refine call_meets F.slot_list_append ⟨_,e,rfl⟩ F.entry_list_append (F.args_list_append_2 _ _) (PySem.list_append l its.toArray n u (by rw [List.size_toArray]; omega)) ⟨e,?_⟩
 refine ⟨.non,_,I.lset (its':=its ++ [u]) hH e (by simp) (r.append (.cons ru .nil)) ?_,rfl,q⟩
 rw [List.length_append,List.length_singleton]
 omega
def Zk9:V→List V→Hp→VK→Prop:=fun x vs H Q=>∃ l b xs zs,x = .ref l∧vs=[.ref b]∧H l=some (.lst xs)∧H b=some (.lst zs)∧xs.length + zs.length≤sizeLine∧Q .non (upd H l (.lst (xs ++ zs)))
theorem ZmR:MtM X "list.extend" Zk9:=by
 intro pins s σ H x vs v us Q I rx rv h
 obtain ⟨l,b,xs,zs,rfl,rfl,hH,hB,hz,q⟩:=h
 cases rx
 obtain ⟨u,rfl,ru⟩:=rv.one
 cases ru
 obtain ⟨z,its,n,r,hl,e⟩:=I.lstM hH
 obtain ⟨z2,its2,n2,r2,hl2,e2⟩:=I.lstM hB
 have hsz:its.toArray.size + its2.toArray.size≤sizeLine:=by rw [List.size_toArray,List.size_toArray]; omega
 have hlong:¬ (!its.toArray.isEmpty && Builtin.List.listTooLong (its.toArray.size + its2.toArray.size))=true:=by
  rw [Zeu hsz,Bool.and_false]
  exact Bool.false_ne_true
 refine call_meets F.slot_list_extend ⟨_,e,rfl⟩ F.entry_list_extend (F.args_list_extend_2 _ _)
  (AutoSeq1.list_extend_list_list_0 l its.toArray n b its2.toArray n2 hlong (by rw [List.size_toArray]; omega) (by omega)) ⟨e,e2,?_⟩
 refine ⟨.non,_,I.lset (its':=its ++ its2) hH e (by simp) (r.append r2) ?_,rfl,q⟩
 rw [List.length_append]
 omega
def Zoi:V→List V→Hp→VK→Prop:=fun x vs H Q=>∃ l xs y,x = .ref l∧vs=[]∧H l=some (.lst xs)∧xs[xs.length - 1]?=some y∧Q y (upd H l (.lst xs.dropLast))
theorem ZmQ:MtM X "list.pop" Zoi:=by
 intro pins s σ H x vs v us Q I rx rv h
 obtain ⟨l,xs,y,rfl,rfl,hH,hy,q⟩:=h
 cases rx
 have hus:=rv.zero
 subst hus
 obtain ⟨z,its,n,r,hl,e⟩:=I.lstM hH
 obtain ⟨u,hu,ru⟩:=r.get hy
 have hy':its.toArray[its.toArray.size - 1]?=some u:=by
  show its.toArray[its.length - 1]?=some u
  rw [← Array.getElem?_toList,← hl]
  exact hu
 refine call_meets F.slot_list_pop ⟨_,e,rfl⟩ F.entry_list_pop (F.args_list_pop_1 _) (MeetsSeq.list_pop_last l its.toArray n u hy' (by rw [List.size_toArray]; omega)) ⟨e,?_⟩
 refine ⟨y,_,I.lset (its':=its.dropLast) hH e ?_ r.dropLast ?_,ru,q⟩
 ·show its.toArray.eraseIdxIfInBounds (its.toArray.size - 1)=its.dropLast.toArray
  rw [List.size_toArray,List.eraseIdxIfInBounds_toArray,ZfC]
 ·rw [List.length_dropLast]
  omega
def ZoI:R2:=fun x y H Q=>∃ l b xs zs,x = .ref l∧y = .ref b∧H l=some (.lst xs)∧H b=some (.lst zs)∧xs.length + zs.length≤sizeLine∧∀ p,H p=none→Q (.ref p) (upd H p (.lst (xs ++ zs)))
theorem Zke:OpR X (binaryOp .Add) ZoI:=by
 intro pins s σ H x y v u Q I rx ry h
 obtain ⟨l,b,xs,zs,rfl,rfl,hH,hB,hz,q⟩:=h
 cases rx
 cases ry
 obtain ⟨z,its,n,r,hl,e⟩:=I.lstM hH
 obtain ⟨z2,its2,n2,r2,hl2,e2⟩:=I.lstM hB
 refine PySem.P.add_list e e2 ?_ (by rw [List.size_toArray,List.size_toArray]; omega)
 have ea:its.toArray ++ its2.toArray=(its ++ its2).toArray:=by simp
 rw [ea]
 exact ⟨.ref _,_,I.lnew (t':=s.toks) (r.append r2) (by rw [List.length_append]; omega),rfl,q _ I.fresh⟩
def ZoF:R2:=fun x y H Q=>∃ l k xs,x = .ref l∧y = .int k∧H l=some (.lst xs)∧-(2 ^ 63)≤k∧k < 2 ^ 63∧xs.length * k.toNat≤sizeLine ∧
 ∀ p,H p=none→Q (.ref p) (upd H p (.lst (List.replicate k.toNat xs).flatten))
theorem Zlv {α:Type} (xs:List α) (k:Nat):(List.replicate k xs).flatten.length=k * xs.length:=by
 induction k with
 | zero=>simp
 | succ k ih=>rw [List.replicate_succ,List.flatten_cons,List.length_append,ih,Nat.succ_mul,Nat.add_comm]
theorem ZmE:OpR X (binaryOp .Mult) ZoF:=by
 intro pins s σ H x y v u Q I rx ry h
 obtain ⟨l,k,xs,rfl,rfl,hH,h1,h2,hz,q⟩:=h
 cases rx
 obtain ⟨t,rfl⟩:=ry
 obtain ⟨z,its,n,r,hl,e⟩:=I.lstM hH
 have hlen:its.toArray.size * k.toNat≤sizeLine:=by rw [List.size_toArray,← hl]; exact hz
 have hcap:¬ its.toArray.size * k.toNat > (2 ^ 63 - 1) / 8:=by
  have:(sizeLine:Nat)≤(2 ^ 63 - 1) / 8:=by decide
  omega
 have hfit:¬ (!Builtin.List.listFitsIndex k)=true:=by
  rw [fitsIndex_both h1 h2]
  exact Bool.false_ne_true
 have hlong:¬ Builtin.List.listTooLong (its.toArray.size * k.toNat)=true:=by
  rw [Zeu hlen]
  exact Bool.false_ne_true
 have hnew:List.foldl (fun x1 x2=>x1 ++ x2) #[] (List.replicate (if its.toArray.isEmpty=true then 0 else k.toNat) its.toArray)=(List.replicate k.toNat its).flatten.toArray:=by
  have f0:∀ m:Nat,List.foldl (fun x1 x2=>x1 ++ x2) #[] (List.replicate m its.toArray)=(List.replicate m its).flatten.toArray:=fun m=>by
   have:=ZcC its m []
   rw [List.nil_append] at this
   exact this
  rw [f0]
  cases its with
  | nil=>simp
  | cons a r'=>rw [if_neg (by simp)]
 refine wpAny_binaryOp_repeat_ref (T:="list") (U:="int") (by decide) ⟨_,e,rfl⟩ (fun s'=>typeIs_int s' k t) noFill_list_mul F.fills_int_mul F.slot_int_rmul repeat_list F.slot_int_index.lookup
  (call_meets F.slot_int_rmul (typeIs_int s k t) F.entry_int_rmul (F.args_int_rmul_2 _ _) (int___rmul___int_list k t l its.toArray n)
   ⟨e,rfl,⟨_,e,rfl⟩,call_meets F.slot_list_mul ⟨_,e,rfl⟩ F.entry_list_mul (F.args_list_mul_2 _ _) (AutoListH.list___mul___list_int_3 l its.toArray n k t hfit hcap hlong) ⟨e,?_⟩⟩)
 rw [hnew]
 exact ⟨.ref _,_,I.lnew (t':=s.toks) (r.rep k.toNat) (by rw [Zlv,Nat.mul_comm]; exact hz),rfl,q _ I.fresh⟩
end
section
variable {prog:Program} {w:World} {A:Around} {E:Value→Shared→Prop} {s:Shared}
end
section
variable {X:Cx}
end
end L2
namespace Att
open PySem PySem.W PySem.Calls PyProof.Rows
theorem Zaa {P:Params} {h:Heap}:∀ (ns:List Int) (vs:List Value),WellAll P h vs (ns.map WData.int)→IntsAre vs ns:=by
 intro ns
 induction ns with
 | nil =>
  intro vs w
  rw [List.map_nil] at w
  cases w
  exact .nil
 | cons n ns ih =>
  intro vs w
  rw [List.map_cons] at w
  cases w with
  | cons a b =>
   cases a
   exact .cons _ _ (ih _ b)
theorem Zgy {l:OpenLaw} {n:Nat} (hn:l.most=some n) {P:Params} {h:Heap} {args:List WData} {vals:List Value}
  (hpre:l.row.toRowW.claim.pre args=true) (hwl:WellAll P h vals args) :
  ∃ a vs ns,vals=[Value.ref a]∧args=[WData.list (ns.map WData.int)]∧h.get? a=some { cls:=.type "list",data:=.seq vs.toArray }∧IntsAre vs ns∧ns.length≤n:=by
 have hsh:WShape.hasAll [] args [.list .int]=true:=(pre_splitW hpre).1
 have hc:l.pre.holds [] { args:=args }=true:=(pre_splitW hpre).2
 obtain ⟨d,r,rfl,h1,h2⟩:=hasAllW_cons hsh
 obtain rfl:=hasAllW_nil h2
 obtain ⟨xs,rfl,h3⟩:=hasW_list h1
 obtain ⟨ns,rfl⟩:=items_int h3
 have hlen:ns.length≤n:=by
  unfold OpenLaw.pre at hc
  have h4:(WTm.not (.lt (.lit (.int (n:Int))) (.len (.arg 0)))).holds [] { args:=[.list (ns.map .int)] }=true:=by
   have h4:=(holds_andW hc).1
   rw [hn] at h4
   exact h4
  have h5:=condW_of h4 (w_not (w_lt w_lit (w_len_list (w_arg rfl))))
  rw [List.length_map] at h5
  refine Nat.le_of_not_lt fun q=>?_
  have q':(n:Int) < ((ns.length:Nat):Int):=by omega
  first
   | (rw [decide_eq_true q'] at h5; exact absurd h5 (by decide))
   | (simp at h5; omega)
 cases hwl with
 | cons w1 w2 =>
  cases w2
  cases w1 with
  | list ho hall=>exact ⟨_,_,ns,rfl,rfl,ho,Zaa ns _ hall,hlen⟩
theorem ZgV (l:OpenLaw) (args:List WData):l.row.toRowW.claim.post args (.bool true) args=true :=
 postW_of (r:=l.row.toRowW) (X:=(true == true))
  (show WShape.has [] (.bool true) .bool=true by first | rfl | decide | simp [WShape.has,WShape.arms,WShape.armsAll])
  (show (WTm.eq .res (.lit (.bool true))).value [] { args:=args,res:=some (.bool true),after:=args }=some (.bool (true == true)) from w_eq_bool (w_res rfl) w_lit) rfl
theorem attach_call {l:OpenLaw} {n:Nat} {q:Program} {loose:List Str} {XP:(Str→Option Value)→Heap→Prop} {YP:World→Heap→Prop} {d:DefRec}
  (hn:l.most=some n) (hdf:d.params.defaults=[])
  (call:∀ (w:World) (s₀ s₁:Shared) (mg mb:Str→Option Value) (fa:Addr) (o:Obj) (pm cd doc:Value) (a:Addr) (vs:List Value) (ns:List Int),
   Ground q loose [] XP w s₀ mg mb s₁.heap→YP w s₁.heap →
   s₁.heap.get? fa=some o→o.data = .func (docDef d.name d.params d.body d.scope pm cd doc)→s₁.heap.CodeRec cd d.name→mg d.name=some (.ref fa) →
   s₁.heap.get? a=some { cls:=.type "list",data:=.seq vs.toArray }→IntsAre vs ns→ns.length≤n→s₁.gens = #[] →
   codeAny (model l.prog w) callerA (.call (.ref fa) ⟨[.ref a],[]⟩) (fun r s'=>r = .ok (.ret (.bool true))∧OldK s₁.heap s'.heap∧s'.os=s₁.os∧AllBare s'.gens) s₁) :
  WalkO q loose XP YP l.row.toRowW d [] (fun f vs=>PySem.call f vs):=by
 intro w s₀ s₁ mg mb G Y fa o pm cd doc dV kV ho hd hcd hD hmg hg args vals as hpre hlay hrd hwl hlo
 obtain rfl:dV = .none:=Dflts.none hD hdf
 obtain rfl:kV = .none:=Dflts.noKw hD
 obtain ⟨a,vs,ns,rfl,rfl,hobj,hints,hlen⟩:=Zgy hn hpre hwl
 refine enter_call (codeAny_mono (call w s₀ s₁ mg mb fa o pm cd doc a vs ns G Y ho (fd_plain hd) hcd hmg hobj hints hlen hg) fun r s' hq=>?_)
 obtain ⟨rfl,h2,h3,h4⟩:=hq
 exact ⟨.inl ⟨.bool true,.bool true,[],rfl,fun _=>rfl,.bool true,ZgV l _,fun _=>⟨List.Pairwise.nil,fun _ hm=>(nomatch hm)⟩⟩,h2,h3,h4⟩
section
variable {prog:Program} {w:World} {A:Around} {E:Value→Shared→Prop} {s:Shared} {K:Frag}
def Zom (h:Heap) (L d:Addr):List (Addr × Obj):=(List.range h.objs.size).filterMap fun a=>if a=L∨a=d then none else (h.get? a).map fun o=>(a,o)
end
end Att
namespace L2
open PySem PySem.Spec PyProof.Rows
theorem ZbS:∀ {vs:List Value} {ns:List Int},IntsAre vs ns→Vals (ns.map V.int) vs
 | _,_,.nil=>.nil
 | _,_,.cons n t h=>.cons ⟨t,rfl⟩ (ZbS h)
def Zoc (H:Hp):Prop:=∀ b,H b=none∨∃ o xs,H b=some (.frz o (.lst xs))
theorem Zje {P:Program} {w:World} {K:PySem.W.Frag} {mg mb:Str→Option Value} {CX:CXT} {k:Nat} {fa a:Addr} {fd:FuncData} {x:Str} {sp:Sp} {s₁:Shared} {vs:List Value} {ns:List Int}
  (KX:K.In s₁.heap) (hns:s₁.heap.Ns mainGlobals mg) (hb:s₁.heap.Ns builtinsNs mb) (hbb:∀ x:Str,x≠"__name__"→mb x=bootBuiltins x) (hlim:s₁.heap.NoLimit) (hg:s₁.gens = #[])
  (ha:s₁.heap.get? a=some { cls:=.type "list",data:=.seq vs.toArray }) (hi:IntsAre vs ns) (hl:ns.length≤sizeLine) (hr:Room k callerA)
  (F:∀ base:Heap,K.In base→base.Ns mainGlobals mg→FnOk P w K mg base CX k fa fd [x] sp) (hbind:∀ (s:Shared) (u:Value),BindsTo s fd ⟨[u],[]⟩ [(x,u)])
  (hsp:∀ H:Hp,Zoc H→SqL K H a (ns.map V.int)→sp [.ref a] H (fun v _=>v = .bl true) fun _ _ _=>False)
  (hCX:∀ H e s',CX [] H s₁ (fun _ _ _=>False) e s'→False) :
  codeAny (model P w) callerA (.call (.ref fa) ⟨[.ref a],[]⟩) (fun r s'=>r = .ok (.ret (.bool true))∧OldK s₁.heap s'.heap∧s'.os=s₁.os∧AllBare s'.gens) s₁:=by
 have rv:=ZbS hi
 have lenV:=hi.length
 -- from an abstract heap in which nothing but the script may be tracked
 have core:∀ H:Hp,Zoc H→SqL K H a (ns.map V.int)→HOk P w H s₁.heap→(∀ b,H b≠none→b=a)→(H a≠none→K.lookup a=none) →
   codeAny (model P w) callerA (.call (.ref fa) ⟨[.ref a],[]⟩) (fun r s'=>r = .ok (.ret (.bool true))∧OldK s₁.heap s'.heap∧s'.os=s₁.os∧AllBare s'.gens) s₁:=by
  intro H hO hS hok hA hK
  have base_of:∀ {b:Addr} {o:Obj},s₁.heap.get? b=some o→H b=none→(Zjl s₁.heap H).get? b=some o:=fun e n=>Zjk e n
  have noA:∀ {b:Addr} {o:Obj} {es:Array DictEntry} {ep:Nat},s₁.heap.get? b=some o→o.data = .dict es ep→H b=none:=fun {b o es ep} e d=>by
   cases q:H b with
   | none=>rfl
   | some u =>
    have e':b=a:=hA b (by rw [q]; simp)
    subst e'
    rw [ha] at e; cases e
    have d':Data.seq vs.toArray _=Data.dict es ep:=d
    cases d'
  have nsK:∀ {b:Addr} {m:Str→Option Value},s₁.heap.Ns b m→(Zjl s₁.heap H).Ns b m:=fun {b m} ⟨o,es,ep,e,d,r⟩=>⟨o,es,ep,base_of e (noA e d),d,r⟩
  have hKb:K.In (Zjl s₁.heap H):=fun b o e=>base_of (KX b o e) (by
   cases q:H b with
   | none=>rfl
   | some u =>
    have e':b=a:=hA b (by rw [q]; simp)
    subst e'
    rw [hK (by rw [q]; simp)] at e; cases e)
  have hM:Mod K mg (Zjl s₁.heap H):=⟨hKb,nsK hns,⟨mb,nsK hb,hbb⟩,let ⟨mc,h1,h2⟩:=hlim; ⟨mc,nsK h1,h2⟩⟩
  have e0:Znm P w K mg (Zjl s₁.heap H) callerA [] s₁ H:=⟨rfl,hM,fun b o e=>Zln e,Nat.le_of_eq (ZhF _ _),trivial,fun b hb=>absurd (show b∈([]:List Addr) from hb) (by simp),hok,.of_eq hg⟩
  refine codeAny_mono ((F _ hKb (nsK hns)).run callerA [] s₁ H ⟨[.ref a],[]⟩ [.ref a] [.ref a] _ _ hr e0 (hbind s₁ (.ref a)) (.cons rfl .nil) (hsp H hO hS)) fun r s' h=>?_
  cases r with
  | error e=>exact (hCX H e s' h).elim
  | ok fl =>
   cases fl with
   | next=>exact False.elim h
   | brk=>exact False.elim h
   | cont=>exact False.elim h
   | ret u =>
    obtain ⟨v,H',os,bare,un,hok',r',q⟩:=h
    have q':v = .bl true:=q
    subst q'
    obtain rfl:u=Value.bool true:=r'
    refine ⟨rfl,OldK.of_keep fun b o e=>?_,os,bare⟩
    cases q:H b with
    | none=>exact un.keep b o e q (by intro z; exact absurd (show b∈([]:List Addr) from z) (by simp)) (by simp)
    | some u =>
     rcases hO b with z | ⟨ob,xs,z⟩
     ·rw [q] at z; cases z
     ·have z2:=un.frzs b ob _ z
      obtain ⟨e1,_⟩:=hok b _ z
      obtain ⟨e2,_⟩:=hok' b _ z2
      rw [e] at e1; cases e1
      exact e2
 cases hk:K.lookup a with
 | some o =>
  -- the script is one of the module's own objects
  have e:=KX a o hk
  rw [ha] at e
  cases e
  refine core (fun _=>none) (fun _=>.inl rfl) (.inr ⟨_,vs.toArray,_,hk,rfl,rfl,rfl,by rw [List.size_toArray,lenV]; exact hl,by simpa using rv⟩) (fun b u z=>by have z':(none:Option HO)=some u:=z; cases z') (fun b z=>absurd rfl z) fun z=>absurd rfl z
 | none =>
  refine core (fun b=>if b=a then some (.frz { cls:=.type "list",data:=.seq vs.toArray } (.lst (ns.map V.int))) else none) (fun b=>?_) (.inl (.inr ⟨{ cls:=.type "list",data:=.seq vs.toArray },if_pos rfl⟩)) (fun b u z=>?_) (fun b z=>?_) fun _=>hk
  ·by_cases hb:b=a
   ·exact .inr ⟨_,_,if_pos hb⟩
   ·exact .inl (if_neg hb)
  ·by_cases hb:b=a
   ·have z':=(if_pos hb).symm.trans z
    cases z'
    subst hb
    exact ⟨ha,by rw [List.length_map]; exact hl,vs,_,rv,ha⟩
   ·have z':=(if_neg hb).symm.trans z
    cases z'
  ·by_cases hb:b=a
   ·exact hb
   ·exact absurd (if_neg hb) z
theorem walk_of {l:PySem.W.OpenLaw} {n k:Nat} {q:Program} {loose:List Str} {XP:(Str→Option Value)→Heap→Prop} {YP:World→Heap→Prop} {d:DefRec} {K:Params→PySem.W.Frag} {CX:World→CXT} {sp:World→Sp} {x:Str}
  (hn:l.most=some n) (hn2:n≤sizeLine) (hdf:d.params.defaults=[]) (hr:Room k callerA)
  (hY:∀ (w:World) (h:Heap),YP w h→(K w.params).In h)
  (F:∀ (w:World) (mg:Str→Option Value) (fa:Addr) (h:Heap),(K w.params).In h→h.Ns mainGlobals mg→mg d.name=some (.ref fa) →
   ∃ fd:FuncData,(∀ (s:Shared) (u:Value),BindsTo s fd ⟨[u],[]⟩ [(x,u)]) ∧
    ∀ base:Heap,(K w.params).In base→base.Ns mainGlobals mg→FnOk l.prog w (K w.params) mg base (CX w) k fa fd [x] (sp w))
  (hsp:∀ (w:World) (H:Hp) (a:Addr) (ns:List Int),ns.length≤n→Zoc H→SqL (K w.params) H a (ns.map V.int)→sp w [.ref a] H (fun v _=>v = .bl true) fun _ _ _=>False)
  (hCX:∀ (w:World) (H:Hp) (s:Shared) (e:Value) (s':Shared),CX w [] H s (fun _ _ _=>False) e s'→False) :
  PySem.W.WalkO q loose XP YP l.row.toRowW d [] (fun f vs=>PySem.call f vs):=by
 refine Att.attach_call hn hdf fun w s₀ s₁ mg mb fa o pm cd doc a vs ns G Y ho hd hcd hmg hobj hints hlen hg=>?_
 have KX:=hY w _ Y
 obtain ⟨fd,hb,hF⟩:=F w mg fa _ KX G.T.g hmg
 exact Zje KX G.T.g G.T.b G.T.builtins G.T.nolimit hg hobj hints (Nat.le_trans hlen hn2) hr hF hb (fun H hO hS=>hsp w H a ns hlen hO hS) fun H e s'=>hCX w H s₁ e s'
def YR (s:Stmt):Arguments:=match s with
 | .FunctionDef _ a _ _ _ _ _ _ _ _=>a
 | _=>{ posonlyargs:=[],args:=[],vararg:=none,kwonlyargs:=[],kw_defaults:=[],kwarg:=none,defaults:=[] }
def Yo (s:Stmt):List Stmt:=match s with
 | .FunctionDef _ _ b _ _ _ _ _ _ _=>b
 | _=>[]
def Zf (s:Stmt):Scope:=match s with
 | .FunctionDef _ _ _ _ _ _ sc _ _ _=>sc
 | _=>{ kind:=.function,names:=[],isGenerator:=false,isCoroutine:=false }
abbrev CX0:CXT:=fun _ _ _ _ _ _=>False
abbrev E0:XK:=fun _ _ _=>False
theorem ZnP {X:Cx}:Zip CX0 X E0:=fun _ _ _ _ _ _ _ h=>h.elim
structure Fun (K:PySem.W.Frag) (x qual:Str) (st:Stmt) (f:Addr) (fd:FuncData):Prop where
 ex:∃ (oc:Value) (od:Option Addr) (kV doc pm:Value) (an:Option Addr) (cdv ct:Value) (osl:Array (Option Value)),
  fd=PySem.W.fnOf x qual (YR st) (Yo st) (Zf st) .none kV doc pm an cdv ct∧K.lookup f=some ⟨oc,od,.func fd,osl⟩∧PySem.W.codeIn K cdv qual=true
 kp:PySem.W.keepIn K (.ref f)=true
section
variable {P:Program} {w:World} {K:PySem.W.Frag} {mg:Str→Option Value} {base:Heap}
theorem Fun.ok {x qual:Str} {st:Stmt} {f:Addr} {fd:FuncData} {N ps:List Str} {k:Nat} {sp:Sp} (F:Fun K x qual st f fd) (S:Zk N ps (Zf st)) (len:∀ vs H Q E,sp vs H Q E→vs.length=ps.length)
  (hbody:∀ (cdv:Value) (A:Around) (outer:List Env) (s:Shared) (H:Hp) (vs:List V) (Q:VK) (E:XK),Room k (A.deeper (envOfC qual (Zf st) s.heap.objs.size f cdv))→sp vs H Q E →
   ∃ t,PSs (ZlS CX0 P w K mg base N qual (Zf st) f cdv A outer s H E).nox (Yo st) t∧t { nx:=fun _ H'=>Q .non H',rt:=Q } (ZaR N vs) H):FnOk P w K mg base CX0 (k + 1) f fd ps sp:=by
 obtain ⟨oc,od,kV,doc,pm,an,cdv,ct,osl,rfl,lk,hcd⟩:=F.ex
 refine Zn1 lk hcd S len fun A outer s H vs Q E hr hsp=>?_
 obtain ⟨t,h,q⟩:=hbody cdv A outer s H vs Q E hr hsp
 exact ⟨t,h.nox,q⟩
theorem Fun.binds {x qual:Str} {st:Stmt} {f:Addr} {fd:FuncData} {ps:List Str} (F:Fun K x qual st f fd)
  (h:∀ (kV doc pm:Value) (an:Option Addr) (cdv ct:Value) (us:List Value),us.length=ps.length→bindArgs (PySem.W.fnOf x qual (YR st) (Yo st) (Zf st) .none kV doc pm an cdv ct) ⟨us,[]⟩=pure (ps.zip us)):Binds K fd ps []:=by
 obtain ⟨oc,od,kV,doc,pm,an,cdv,ct,osl,rfl,lk,hcd⟩:=F.ex
 exact .all (h kV doc pm an cdv ct)
theorem ZhP {x qual:Str} {st:Stmt} {f:Addr} {oc:Value} {od an:Option Addr} {osl:Array (Option Value)} {kV doc pm cdv ct:Value} (l:K.lookup f=some ⟨oc,od,.func (PySem.W.fnOf x qual (YR st) (Yo st) (Zf st) .none kV doc pm an cdv ct),osl⟩)
  (c:PySem.W.codeIn K cdv qual=true) (k:PySem.W.keepIn K (.ref f)=true):Fun K x qual st f (PySem.W.fnOf x qual (YR st) (Yo st) (Zf st) .none kV doc pm an cdv ct):=⟨⟨oc,od,kV,doc,pm,an,cdv,ct,osl,rfl,l,c⟩,k⟩
end
theorem Zcy {A:Around} {k:Nat} (hr:Room k A):A.units + 1 < cLine:=Nat.lt_of_le_of_lt (Nat.add_le_add_left (by decide:1≤64) _) hr.units
theorem ZK {n:Nat} (h:n≤1000):n < sizeLine:=Nat.lt_of_le_of_lt h (by decide)
section
variable {X:Cx}
theorem pv (i:Nat) {x:Str} {pos:Pos} (hN:X.N[i]?=some x:=by rfl) (hv:Vis X.env.scope x:=by first | exact Or.inl rfl | exact Or.inr (.inl rfl) | exact Or.inr (.inr rfl)) (hd:(x == ("__debug__" : Str))=false:=by decide)
  (hcd:(x == ("__classdict__" : Str))=false:=by decide):PE X (.Name x pos) (Zl0 i):=Zmx hN hv hd hcd
theorem ZcQ:CallR X (.builtin "len") (fun xs H Q=>∃ a kvs,xs=[V.ref a]∧H a=some (.dK kvs)∧Q (.int kvs.length) H):=by
 intro pins s σ H xs us Q I r h
 obtain ⟨a,kvs,rfl,ha,q⟩:=h
 obtain ⟨u,rfl,ru⟩:=Xu r
 cases ru
 exact Zna I (.inl ha) fun t s' I'=>⟨.int kvs.length,H,I',⟨t,rfl⟩,q⟩
end
theorem ZmZ {A B:Prop} (h:B):if false=true then A else B:=by
 rw [if_neg Bool.false_ne_true]
 exact h
theorem Zon {A B:Prop} (h:A):if true=true then A else B:=by
 rw [if_pos rfl]
 exact h
theorem Zfv {c A B:Prop} [Decidable c] (h1:c→A) (h2:¬ c→B):if c then A else B:=by
 by_cases h:c
 ·rw [if_pos h]
  exact h1 h
 ·rw [if_neg h]
  exact h2 h
def Same (H H':Hp):Prop:=∀ b o,H b=some o→H' b=some o
theorem Same.refl (H:Hp):Same H H:=fun _ _ h=>h
theorem Same.trans {H H1 H2:Hp} (a:Same H H1) (b:Same H1 H2):Same H H2:=fun c o h=>b c o (a c o h)
theorem Same.free {H H':Hp} (e:Same H H') {l:Addr} (h:H' l=Option.none):H l=Option.none:=by
 cases q:H l with
 | none=>rfl
 | some o =>
  rw [e l o q] at h
  cases h
theorem Same.seq {K:PySem.W.Frag} {H H':Hp} {a:Addr} {xs:List V} (e:Same H H') (h:SqL K H a xs):SqL K H' a xs:=by
 rcases h with (h | ⟨o,h⟩) | h
 ·exact .inl (.inl (e _ _ h))
 ·exact .inl (.inr ⟨o,e _ _ h⟩)
 ·exact .inr h
section
variable {κ:Type} [DecidableEq κ]
theorem Zhc:∀ {l:List κ} {k:κ},l.Nodup→¬ k∈l→(l ++ [k]).Nodup
 | [],k,_,_=>by simp
 | a :: r,k,h,hk=>by
  obtain ⟨h1,h2⟩:=List.nodup_cons.mp h
  show (a :: (r ++ [k])).Nodup
  refine List.nodup_cons.mpr ⟨fun m=>?_,Zhc h2 fun m=>hk (List.mem_cons.mpr (Or.inr m))⟩
  rcases List.mem_append.mp m with q | q
  ·exact h1 q
  ·exact hk (List.mem_cons.mpr (Or.inl (List.mem_singleton.mp q).symm))
end
def YS (env:Env):List (Str × NameKind)→List (Str × Addr)→List (Str × Addr)
 | [],cs=>cs
 | y :: r,cs=>YS env r (if y.2 == NameKind.free then (y.1,(env.cells.lookup y.1).getD 0) :: cs else cs)
theorem Zac {env:Env} (f:Str × NameKind→List (Str × Addr)→Sem (ForInStep (List (Str × Addr)))) :
  ∀ (ns:List (Str × NameKind)) (cs:List (Str × Addr)),(∀ y∈ns,∀ c,f y c=pure (.yield (if y.2 == NameKind.free then (y.1,(env.cells.lookup y.1).getD 0) :: c else c))) →
   forIn ns cs f=pure (YS env ns cs)
 | [],cs,_=>rfl
 | y :: r,cs,h=>by
  rw [List.forIn_cons,h y List.mem_cons_self,pure_bind]
  exact Zac f r _ fun z hz=>h z (List.mem_cons_of_mem _ hz)
theorem XR {env:Env} {scope:Scope} (h:∀ y∈scope.names,y.2 = .free→∃ c,env.cells.lookup y.1=some c) :
  closureFor scope env=pure (YS env scope.names []):=by
 simp only [closureFor]
 rw [Zac (env:=env) _ _ _ (fun y hy c=>?_)]
 ·rfl
 ·obtain ⟨n,k⟩:=y
  cases hk:(k == NameKind.free) with
  | true =>
   obtain ⟨a,ha⟩:=h (n,k) hy (by simpa using hk)
   have ha':env.cells.lookup n=some a:=ha
   simp only [if_true,cellOf,ha',Option.getD_some,pure_bind]
  | false=>simp only [Bool.false_eq_true,if_false]
theorem ZcN {env:Env}:∀ (ns:List (Str × NameKind)) (cs:List (Str × Addr)),(∀ y∈ns,y.2 = .free→∃ c,env.cells.lookup y.1=some c) →
  (∀ n c,cs.lookup n=some c→env.cells.lookup n=some c)→∀ n c,(YS env ns cs).lookup n=some c→env.cells.lookup n=some c
 | [],cs,_,h,n,c,e=>h n c e
 | y :: r,cs,hf,h,n,c,e=>by
  refine ZcN r _ (fun z hz=>hf z (List.mem_cons_of_mem _ hz)) (fun n c e=>?_) n c e
  split at e
  ·rename_i hk
   obtain ⟨a,ha⟩:=hf y List.mem_cons_self (by simpa using hk)
   rw [ha,Option.getD_some] at e
   cases hn:n == y.1 with
   | true =>
    simp only [List.lookup_cons,hn] at e
    cases e
    rw [eq_of_beq hn]
    exact ha
   | false =>
    simp only [List.lookup_cons,hn] at e
    exact h n c e
  ·exact h n c e
theorem Zad {env:Env}:∀ (ns:List (Str × NameKind)) (cs:List (Str × Addr)) (n:Str),((n,NameKind.free)∈ns∨(cs.lookup n).isSome=true) →
  ((YS env ns cs).lookup n).isSome=true
 | [],cs,n,h=>by
  rcases h with h | h
  ·cases h
  ·exact h
 | y :: r,cs,n,h=>by
  refine Zad r _ n ?_
  rcases h with h | h
  ·rcases List.mem_cons.mp h with h | h
   ·right
    subst h
    simp
   ·exact .inl h
  ·right
   split
   ·cases hn:n == y.1 with
    | true=>simp only [List.lookup_cons,hn]; rfl
    | false=>simp only [List.lookup_cons,hn]; exact h
   ·exact h
def Zl2 (env:Env) (n:Str) (k:NameKind):NameKind:=if (k == NameKind.free && env.scope.kind == .function && env.kindOf n == some .cell)=true then .cell else k
theorem Zaz (env:Env) (x:Str):∀ names:List (Str × NameKind),
  (names.map fun (n,k)=>if (k == NameKind.free && env.scope.kind == .function && env.kindOf n == some .cell) then (n,NameKind.cell) else (n,k)).lookup x=(names.lookup x).map (Zl2 env x)
 | []=>rfl
 | (n,k) :: r=>by
  have ih:=Zaz env x r
  have e1:(if (k == NameKind.free && env.scope.kind == .function && env.kindOf n == some .cell)=true then (n,NameKind.cell) else (n,k))=(n,Zl2 env n k):=by
   unfold Zl2
   split <;> rfl
  rw [List.map_cons]
  show List.lookup x ((if (k == NameKind.free && env.scope.kind == .function && env.kindOf n == some .cell)=true then (n,NameKind.cell) else (n,k)) :: _)=_
  rw [e1]
  cases hx:x == n with
  | true =>
   simp only [List.lookup_cons,hx]
   rw [eq_of_beq hx]
   rfl
  | false =>
   simp only [List.lookup_cons,hx]
   exact ih
theorem Ji (scope:Scope) (env:Env) (x:Str):(relabel scope env).names.lookup x=(scope.names.lookup x).map (Zl2 env x):=Zaz env x scope.names
def lcN (N xs:List Str) (mp:List Nat):List Str:=xs ++ mp.map fun j=>N.getD j ""
def lcS (k:Nat) (mp:List Nat) (σ:St):St:=List.replicate k none ++ mp.map fun j=>(σ[j]?).getD none
structure Zl3 (sc scope:Scope) (N xs:List Str) (mp:List Nat):Prop where
 kind:scope.kind = .function
 nocell:∀ y∈scope.names,y.2≠.cell
 names:∀ y∈scope.names,y.2 = .local→scope.names.lookup y.1=some .local
 tg:∀ x∈xs,scope.names.lookup x=some .local
 fr:∀ y∈scope.names,y.2 = .free→sc.names.lookup y.1=some .cell∨sc.names.lookup y.1=some .free
 out:∀ j∈mp,scope.names.lookup (N.getD j "")=some .free
 nd:(lcN N xs mp).Nodup
def Zjd (sc scope:Scope) (N xs:List Str) (mp:List Nat):Bool :=
 decide (scope.kind = .function) && scope.names.all (fun y=>decide (y.2≠.cell)) && scope.names.all (fun y=>decide (y.2 = .local→scope.names.lookup y.1=some .local)) &&
  xs.all (fun x=>decide (scope.names.lookup x=some .local)) && scope.names.all (fun y=>decide (y.2 = .free→sc.names.lookup y.1=some .cell∨sc.names.lookup y.1=some .free)) &&
  mp.all (fun j=>decide (scope.names.lookup (N.getD j "")=some .free)) && decide (lcN N xs mp).Nodup
theorem ZeF {sc scope:Scope} {N xs:List Str} {mp:List Nat} (h:Zjd sc scope N xs mp=true):Zl3 sc scope N xs mp:=by
 simp only [Zjd,Bool.and_eq_true,List.all_eq_true,decide_eq_true_eq] at h
 obtain ⟨⟨⟨⟨⟨⟨h1,h2⟩,h3⟩,h4⟩,h5⟩,h6⟩,h7⟩:=h
 exact ⟨h1,h2,h3,h4,h5,h6,h7⟩
abbrev lcx (X:Cx) (M:List Str) (scope:Scope) (cl:List (Str × Addr)) (C:Addr) (s₀:Shared) (H₀:Hp) (fp:List Addr):Cx where
 prog:=X.prog
 w:=X.w
 K:=X.K
 mg:=X.mg
 base:=X.base
 A:=X.A
 N:=M
 s₀:=s₀
 H₀:=H₀
 env:=compEnvC scope cl C X.env
 outer:=X.stack
 stack:=X.stack
 ex:=fp
 fn:=fun _=>false
 calm:=X.calm
 pn:=[]
 xe:=fun _ _=>False
section
variable {X:Cx} {pins:List (Addr × Obj)} {σ:St} {H₀:Hp} {s₀:Shared} {scope sc:Scope} {N xs:List Str} {mp:List Nat} {fp:List Addr}
theorem Zbv (I:Inv X pins σ H₀ s₀) (hsc:X.env.scope=sc) (S:Zl3 sc scope N xs mp):∀ y∈scope.names,y.2 = .free→∃ c,X.env.cells.lookup y.1=some c:=fun y hy e=>by
 refine I.ok.has y.1 ?_
 have q:=S.fr y hy e
 rw [← hsc] at q
 exact q
theorem Zkk (I:Inv X pins σ H₀ s₀) (hsc:X.env.scope=sc) (S:Zl3 sc scope N xs mp) {n:Str} {c:Addr} (e:(YS X.env scope.names []).lookup n=some c):X.env.cells.lookup n=some c :=
 ZcN scope.names [] (Zbv I hsc S) (fun _ _ z=>nomatch z) n c e
theorem ZmT {h₁:Heap} {o:Obj} {m:Str→Option Value} {tk:Nat} (I:Inv X pins σ H₀ s₀) (hsc:X.env.scope=sc) (S:Zl3 sc scope N xs mp) (hf:∀ b∈fp,ZdM X pins H₀ b)
  (hx:∀ b∈fp,∃ ob,s₀.heap.get? b=some ob) (hns:h₁.Ns s₀.heap.objs.size m) (hsb:Heap.SameBut s₀.heap.objs.size (s₀.heap.push o) h₁) :
  Inv (lcx X (lcN N xs mp) scope (YS X.env scope.names []) s₀.heap.objs.size s₀ H₀ fp) [] (List.replicate (xs.length + mp.length) none) H₀ { s₀ with heap:=h₁,toks:=tk }:=by
 have kp:∀ b u,s₀.heap.get? b=some u→h₁.get? b=some u:=fun b u e=>hsb.extBut b u (Nat.ne_of_lt (Heap.lt_size e)) (Heap.get?_push_of_some _ e)
 have sub:=@Zkk X pins σ H₀ s₀ scope sc N xs mp I hsc S
 refine ⟨⟨I.ok.mod,S.kind,I.ok.glob,I.ok.blt,Nat.le_refl _,fun x y c e1 e2=>I.ok.inj x y c (sub e1) (sub e2),fun x hk=>?_,fun x c h _=>(Bool.false_ne_true h).elim,I.ok.hd,I.ok.frames,.inl rfl,
  fun b hb=>⟨?_,fun x c e=>(hf b hb).2.2.2.2.1 x c (sub e)⟩,fun b o e=>I.bs b o e,Nat.le_trans I.ok.bsz I.sz,fun b o e hb=>?_,fun b hb z=>?_,I.stack,I.stkFree⟩,
  rfl,I.bare,Un.kept kp,⟨m,hns,fun i x v _ e2 _=>?_⟩,fun x c e=>?_,I.hok.fresh (Nat.le_refl _),fun x c e=>I.freeC x c (sub e),fun p hp=>absurd (show p∈([]:List (Addr × Obj)) from hp) (by simp),I.hok.kept kp,?_⟩
 ·have hk':(relabel scope X.env).names.lookup x=some .cell∨(relabel scope X.env).names.lookup x=some .free:=hk
  rw [Ji] at hk'
  cases e:scope.names.lookup x with
  | none=>rw [e] at hk'; rcases hk' with z | z <;> cases z
  | some k =>
   have mem:(x,k)∈scope.names:=PySem.mem_of_lookup e
   have hkf:k = .free:=by
    rw [e] at hk'
    have n1:=S.nocell _ mem
    simp only [Option.map_some,Option.some.injEq] at hk'
    unfold Zl2 at hk'
    split at hk'
    ·rename_i hc
     simp only [Bool.and_eq_true] at hc
     simpa using hc.1.1
    ·rcases hk' with z | z
     ·exact absurd z n1
     ·exact z
   subst hkf
   exact Option.isSome_iff_exists.mp (Zad scope.names [] x (.inl mem))
 ·obtain ⟨ob,e⟩:=hx b hb
  exact Nat.ne_of_lt (Heap.lt_size e)
 ·rcases (hf b hb).2.2.2.1 with z | z
  ·exact I.ok.noex b o e z
  ·exact absurd (Nat.lt_of_lt_of_le (Heap.lt_size (I.ok.bs b o e).1) z) (Nat.lt_irrefl _)
 ·rcases List.mem_cons.mp (I.stkSub b z) with e | e
  ·exact (hf b hb).2.1 e
  ·exact (hf b hb).2.2.1 e
 ·rw [List.getElem?_replicate] at e2
  split at e2 <;> cases e2
 ·obtain ⟨v,ob,ho,hd⟩:=I.cell x c (sub e)
  exact ⟨v,ob,kp c ob ho,hd⟩
 ·show (List.replicate (xs.length + mp.length) none:St).length=(lcN N xs mp).length
  simp [lcN]
theorem ZeD {pY:List (Addr × Obj)} {σ':St} {H:Hp} {s':Shared} {C:Addr} (I:Inv X pins σ H₀ s₀) (hsc:X.env.scope=sc) (hN:X.N=N) (S:Zl3 sc scope N xs mp) (hf:∀ b∈fp,ZdM X pins H₀ b)
  (J:Inv (lcx X (lcN N xs mp) scope (YS X.env scope.names []) C s₀ H₀ fp) pY σ' H s'):Inv (lcx X (lcN N xs mp) scope (YS X.env scope.names []) C s₀ H₀ fp) pY (lcS xs.length mp σ) H s':=by
 obtain ⟨m,hn,_⟩:=J.loc
 refine ⟨J.ok,J.os,J.bare,J.base,⟨m,hn,fun i x v e1 e2 e3=>?_⟩,J.cell,J.free,J.freeC,J.pin,J.hok,?_⟩
 ·have e1':(lcN N xs mp)[i]?=some x:=e1
  unfold lcN at e1'
  unfold lcS at e2
  by_cases hi:i < xs.length
  ·rw [List.getElem?_append_left (by simpa using hi),List.getElem?_replicate,if_pos hi] at e2
   cases e2
  ·rw [List.getElem?_append_right (by simpa using hi),List.length_replicate,List.getElem?_map] at e2
   rw [List.getElem?_append_right (by simpa using hi),List.getElem?_map] at e1'
   cases ej:mp[i - xs.length]? with
   | none=>rw [ej] at e2; cases e2
   | some j =>
    rw [ej] at e1' e2
    have e1'':N.getD j "" = x:=Option.some.inj e1'
    have e2':(σ[j]?).getD none=some v:=Option.some.inj e2
    have e2'':σ[j]?=some (some v):=by
     cases q:σ[j]? with
     | none=>rw [q] at e2'; cases e2'
     | some z=>rw [q] at e2'; exact congrArg some e2'
    have hj:j < N.length:=by
     have h1:=(List.getElem?_eq_some_iff.mp e2'').1
     rw [I.len,hN] at h1
     exact h1
    have eN:N[j]?=some x:=by
     rw [← e1'',List.getD_eq_getElem?_getD]
     cases q:N[j]? with
     | none=>exact absurd (List.getElem?_eq_none_iff.mp q) (by omega)
     | some z=>rfl
    have fr:scope.names.lookup x=some .free:=by rw [← e1'']; exact S.out j (List.mem_of_getElem? ej)
    have mem:(x,NameKind.free)∈scope.names:=PySem.mem_of_lookup fr
    have kX:X.env.scope.names.lookup x=some .cell∨X.env.scope.names.lookup x=some .free:=by
     rw [hsc]
     exact S.fr _ mem rfl
    obtain ⟨mX,hnX,hl⟩:=I.loc
    obtain ⟨u,r,lk⟩:=hl j x v (by rw [hN]; exact eN) e2'' (.inr kX)
    rcases lk with ⟨k,_⟩ | ⟨k,c,hc,hcell⟩
    ·have k':X.env.scope.names.lookup x=some .local:=k
     rw [k'] at kX
     rcases kX with z | z <;> cases z
    ·refine ⟨u,r,.inr ⟨?_,c,?_,?_⟩⟩
     ·show (relabel scope X.env).names.lookup x=some .cell∨(relabel scope X.env).names.lookup x=some .free
      rw [Ji,fr]
      simp only [Option.map_some]
      unfold Zl2
      split
      ·exact .inl rfl
      ·exact .inr rfl
     ·obtain ⟨c',e'⟩:=Option.isSome_iff_exists.mp (Zad (env:=X.env) scope.names [] x (.inl mem))
      have e'':=Zkk I hsc S e'
      rw [hc] at e''
      cases e''
      exact e'
     ·obtain ⟨ob,ho,hd⟩:=hcell
      obtain ⟨sl,q⟩:=J.base.any ho (I.freeC x c hc) fun z=>(hf c z).2.2.2.2.1 x c hc rfl
      exact ⟨_,q,hd⟩
 ·show (lcS xs.length mp σ).length=(lcN N xs mp).length
  simp [lcS,lcN]
theorem Zlx {pY:List (Addr × Obj)} {σ':St} {H:Hp} {s':Shared} {C:Addr} {M:List Str} {cl:List (Str × Addr)} (I:Inv X pins σ H₀ s₀) (hf:∀ b∈fp,ZdM X pins H₀ b)
  (J:Inv (lcx X M scope cl C s₀ H₀ fp) pY σ' H s'):Inv X pins σ H s' :=
 I.call' (ch:=fp) J.os J.base J.hok J.bare fun b hb=>⟨(hf b hb).2.2.2.1,(hf b hb).2.1,(hf b hb).2.2.2.2.1,(hf b hb).2.2.2.2.2⟩
end
theorem ZdH {prog:Program} {w:World} {A:Around} {R:Result→Shared→Prop} {s:Shared} {elt target iter:Expr} {ifs:List Expr} {scope:Scope} {pos:Pos} {it acc:Value} {env:Env} (I:Nat→Shared→Prop)
  (turn:∀ n s,I n s→wpAny (model prog w) A (pyNext it) (fun r s1=>match r with
   | none=>R (.ok .next) s1
   | some v=>wpAny (model prog w) A (letOwnedTupleGo target it v) (fun _ s1'=>wpAny (model prog w) A (assign target env v) (fun _ s2 =>
     wpAny (model prog w) A (forIn ifs true fun c r=>if r=true then do let ok ← isTrue c env (eval c env); pure (ForInStep.yield ok) else pure (ForInStep.yield r)) (fun ok s3 =>
      if ok=true then wpAny (model prog w) A (eval elt env) (fun x s4=>wpAny (model prog w) A (call (.builtin "list.append") [acc,x]) (fun _ s5=>∃ m,m < n∧I m s5) (fun _ _=>False) s4) (fun _ _=>False) s3
      else ∃ m,m < n∧I m s3) (fun _ _=>False) s2) (fun _ _=>False) s1') (fun _ _=>False) s1) (fun _ _=>False) s)
  (n:Nat) (h:I n s):codeAny (model prog w) A (.compLoop (.ListComp elt [⟨target,iter,ifs,0⟩] scope pos) 0 it acc env) R s:=by
 refine codeAny_loop rfl I (fun n s hI=>?_) n h
 show wpAny (model prog w) A ((compTurn (.ListComp elt [⟨target,iter,ifs,0⟩] scope pos) 0 it acc env).onRaise (fun x=>do noteFrame x env; theTreesLotGoes x)) _ _ s
 refine wpAny_noted ?_
 rw [compTurn_list]
 refine wpAny_bind (wpAny_standAt (wpAny_bind (wpAny_mono (turn n s hI) (fun r s1 h1=>?_) fun _ _ z=>z.elim)))
 cases r with
 | none=>exact wpAny_pure h1
 | some v =>
  refine wpAny_bind (wpAny_mono h1 (fun _ s1' h1'=>?_) fun _ _ z=>z.elim)
  refine wpAny_bind (wpAny_mono h1' (fun _ s2 h2=>wpAny_bind (wpAny_mono h2 (fun ok s3 h3=>?_) fun _ _ z=>z.elim)) fun _ _ z=>z.elim)
  cases ok with
  | false=>exact wpAny_pure ⟨rfl,h3⟩
  | true=>exact wpAny_bind (wpAny_bind (wpAny_mono h3 (fun x s4 h4=>wpAny_bind (wpAny_mono h4 (fun _ s5 h5=>wpAny_pure (wpAny_pure ⟨rfl,h5⟩)) fun _ _ z=>z.elim)) fun _ _ z=>z.elim))
def PCs (X:Cx) (ifs:List Expr) (t:TT):Prop :=
 ∀ (pins:List (Addr × Obj)) (s:Shared) (σ:St) (H:Hp) (Q:Bool→Hp→Prop),Inv X pins σ H s→t σ H Q →
  wpAny (model X.prog X.w) X.A (forIn ifs true fun c r=>if r=true then do let ok ← isTrue c X.env (eval c X.env); pure (ForInStep.yield ok) else pure (ForInStep.yield r)) (TP X pins σ Q) X.xe s
def Zl8:TT:=fun _ H Q=>Q true H
theorem ZX {X:Cx}:PCs X [] Zl8:=fun _ _ _ H _ I h=>wpAny_tests_nil ⟨H,I,h⟩
theorem Zbg {X:Cx} {c:Expr} {t:TT} (h:PT X c t):PCs X [c] t:=fun pins s σ H Q I hw=>wpAny_tests_one (h pins s σ H Q I hw)
def Jl (k:Nat) (mp:List Nat) (σ:St) (g:TG) (tc:TT) (te:TE) (J:It) (H1:Hp) (Q:VK):Prop :=
 ∀ D,H1 D=none→∃ W:Nat→Nat→List V→Hp→Prop,(∃ m,W 0 m [] (upd H1 D (.lst [])))∧∀ i m acc H2,W i m acc H2 →
  (J.stop i H2∧Q (.ref D) H2)∨(J.go i H2∧∀ x H3,J.yld i H2 x H3→g x (lcS k mp σ) H3 fun σ4 H4=>tc σ4 H4 fun b H5 =>
   if b=true then te σ4 H5 fun v H6=>H6 D=some (.lst acc)∧acc.length < sizeLine∧∃ m',m' < m∧W (i + 1) m' (acc ++ [v]) (upd H6 D (.lst (acc ++ [v])))
   else ∃ m',m' < m∧W (i + 1) m' acc H5)
def tLc (k:Nat) (mp:List Nat) (wi:TI) (g:TG) (tc:TT) (te:TE):TE:=fun σ H Q=>wi σ H fun J H1=>Jl k mp σ g tc te J H1 Q
section
variable {X:Cx} {pins:List (Addr × Obj)} {σ:St} {elt tgt iter:Expr} {ifs:List Expr} {scope sc:Scope} {pos:Pos} {N xs:List Str} {mp:List Nat} {wi:TI} {g:TG} {tc:TT} {te:TE}
theorem Zkm {H2:Hp} {s2:Shared} {it:Addr} {fp:List Addr} {tn:Nat→Heap→Prop} {J:It} {Qv:VK} {E:Value→Shared→Prop} {RR:Value→Addr→Result→Shared→Prop}
  (hsc:X.env.scope=sc) (hN:X.N=N) (S:Zl3 sc scope N xs mp) (hcalm:X.calm=true)
  (hg:∀ cl C s₀ H₀ fp,PG (lcx X (lcN N xs mp) scope cl C s₀ H₀ fp) tgt g) (hc:∀ cl C s₀ H₀ fp,PCs (lcx X (lcN N xs mp) scope cl C s₀ H₀ fp) ifs tc) (he:∀ cl C s₀ H₀ fp,PE (lcx X (lcN N xs mp) scope cl C s₀ H₀ fp) elt te)
  (I2:Inv X pins σ H2 s2) (T:ZkB X.prog X.w X.K tgt J fp it tn) (st2:tn 0 s2.heap) (f2:∀ b∈fp,ZdM X pins H2 b) (h:Jl xs.length mp σ g tc te J H2 Qv)
  (hRR:∀ (D C:Addr) (s':Shared) (H':Hp) (m:Str→Option Value),s'.heap.Ns C m→Inv X pins σ H' s'→ZdM X pins H' C→Qv (.ref D) H'→RR (.ref D) C (.ok .next) s') :
  wpAny (model X.prog X.w) X.A (newList []) (fun acc s3=>wpAny (model X.prog X.w) X.A (newFunctionEnv scope X.env.globals (YS X.env scope.names []) [] X.env.qual none .none (some X.env)) (fun cenv s4 =>
   codeAny (model X.prog X.w) X.A (.compStart (.ListComp elt [⟨tgt,iter,ifs,0⟩] scope pos) 0 (.ref it) acc { cenv with scope:=relabel scope X.env }) (RR acc cenv.locals) s4) E s3) E s2:=by
 have hD:H2 s2.heap.objs.size=none:=I2.hok.fresh (Nat.le_refl _)
 obtain ⟨W,⟨m0,w0⟩,turn⟩:=h s2.heap.objs.size hD
 refine wpAny_newObj_type (wpAny_newFunctionEnv S.nocell (by intro y hy; simp at hy) (fun h1 hns1 hsb1=>?_) S.kind)
 dsimp only at hns1 hsb1 ⊢
 have fpD:∀ b∈fp,b≠s2.heap.objs.size:=fun b hb=>by
  obtain ⟨o,e,_⟩:=T.obj _ _ st2 b hb
  exact Nat.ne_of_lt (Heap.lt_size e)
 have I3:Inv X pins σ (upd H2 s2.heap.objs.size (.lst [])) { s2 with heap:=s2.heap.push { cls:=.type "list",dict:=none,data:=.seq ([]:List Value).toArray } } :=
  I2.laid (t':=s2.toks) (fun b u e=>Heap.get?_push_of_some _ e) (Nat.le_refl _) ⟨Nat.zero_le _,[],0,.nil,Heap.get?_push_size _ rfl⟩
 have f3:∀ b∈fp,ZdM X pins (upd H2 s2.heap.objs.size (.lst [])) b:=fun b hb=>⟨by rw [Zi (fpD b hb)]; exact (f2 b hb).1,(f2 b hb).2⟩
 generalize hs3:({ s2 with heap:=s2.heap.push { cls:=.type "list",dict:=none,data:=.seq ([]:List Value).toArray } }:Shared)=s3 at I3
 have hh3:s2.heap.push { cls:=.type "list",dict:=none,data:=.seq ([]:List Value).toArray }=s3.heap:=by rw [← hs3]
 have kp3:∀ b o,s2.heap.get? b=some o→s3.heap.get? b=some o:=fun b o e=>by rw [← hh3]; exact Heap.get?_push_of_some _ e
 rw [hh3] at hns1 hsb1 ⊢
 have st3:tn 0 s3.heap:=T.keep _ _ _ st2 fun b _ o e=>kp3 b o e
 have x3:∀ b∈fp,∃ o,s3.heap.get? b=some o:=fun b hb=>by
  obtain ⟨o,e,_⟩:=T.obj _ _ st3 b hb
  exact ⟨o,e⟩
 have st4:tn 0 h1:=T.keep _ _ _ st3 fun b _ o e=>hsb1.extBut b o (Nat.ne_of_lt (Heap.lt_size e)) (Heap.get?_push_of_some _ e)
 have I4:=fun tk=>ZeD I3 hsc hN S f3 (ZmT (tk:=tk) I3 hsc S f3 x3 hns1 hsb1)
 have key:∀ s4:Shared,s4={ s3 with heap:=h1,toks:=s4.toks }→codeAny (model X.prog X.w) X.A (.compLoop (.ListComp elt [⟨tgt,iter,ifs,0⟩] scope pos) 0 (.ref it) (.ref s2.heap.objs.size) (compEnvC scope (YS X.env scope.names []) s3.heap.objs.size X.env))
   (RR (.ref s2.heap.objs.size) s3.heap.objs.size) s4:=by
  intro s4 hs4
  have stat:∀ {H':Hp},(∀ b∈fp,H' b=none)→∀ b∈fp,ZdM (lcx X (lcN N xs mp) scope (YS X.env scope.names []) s3.heap.objs.size s3 (upd H2 s2.heap.objs.size (.lst [])) fp) [] H' b:=fun hn b hb =>
   ⟨hn b hb,((I4 0).ok.exf b hb).1,(I4 0).ok.exfs b hb,.inl hb,((I4 0).ok.exf b hb).2,fun p hp=>absurd (show p∈([]:List (Addr × Obj)) from hp) (by simp)⟩
  refine ZdH (fun n s'=>∃ i acc H',Inv (lcx X (lcN N xs mp) scope (YS X.env scope.names []) s3.heap.objs.size s3 (upd H2 s2.heap.objs.size (.lst [])) fp) [] (lcS xs.length mp σ) H' s'∧tn i s'.heap∧(∀ b∈fp,H' b=none)∧W i n acc H') ?_ m0
   ⟨0,[],_,(by rw [hs4]; exact I4 _),(by rw [hs4]; exact st4),fun b hb=>(f3 b hb).1,w0⟩
  rintro n s6 ⟨i,acc,H6,I6,st6,fr6,w6⟩
  rcases turn i n acc H6 w6 with ⟨stop,q⟩ | ⟨go,step⟩
  ·refine thn (T.done (lcx X (lcN N xs mp) scope (YS X.env scope.names []) s3.heap.objs.size s3 (upd H2 s2.heap.objs.size (.lst [])) fp) rfl rfl rfl hcalm i [] s6 _ H6 _ I6 (stat fr6) st6 stop) fun r s7 ⟨hr,I7⟩=>?_
   subst hr
   obtain ⟨m7,hn7,_⟩:=I7.loc
   exact hRR _ _ s7 H6 m7 hn7 (Zlx I3 f3 I7) (I3.fpOk (Nat.le_refl _) I7.free) q
  ·refine thn (T.item (lcx X (lcN N xs mp) scope (YS X.env scope.names []) s3.heap.objs.size s3 (upd H2 s2.heap.objs.size (.lst [])) fp) rfl rfl rfl hcalm i [] s6 _ H6 _ I6 (stat fr6) st6 go) fun r s7 ⟨u,hr,h7⟩=>?_
   subst hr
   refine thn h7 fun _ s8 ⟨x,H8,I8,r8,y8,st8,fr8⟩=>?_
   have I8':=I8.pinned (stat fr8) (T.obj _ _ st8)
   have again:∀ {σ':St} {H':Hp} {s':Shared},Inv (lcx X (lcN N xs mp) scope (YS X.env scope.names []) s3.heap.objs.size s3 (upd H2 s2.heap.objs.size (.lst [])) fp) ([] ++ Zb8 fp s8.heap) σ' H' s'→(∃ m acc',m < n∧W (i + 1) m acc' H') →
     ∃ m,m < n∧∃ i acc H',Inv (lcx X (lcN N xs mp) scope (YS X.env scope.names []) s3.heap.objs.size s3 (upd H2 s2.heap.objs.size (.lst [])) fp) [] (lcS xs.length mp σ) H' s'∧tn i s'.heap∧(∀ b∈fp,H' b=none)∧W i m acc H':=by
    intro σ' H' s' J ⟨m,acc',hm,w'⟩
    refine ⟨m,hm,i + 1,acc',H',ZeD I3 hsc hN S f3 J.unpinned,T.keep _ _ _ st8 fun b hb o e=>(J.pin (b,o) (List.mem_append_right _ (List.mem_append_right _ (Y2 hb e)))).1,fun b hb=>?_,w'⟩
    obtain ⟨o,e,_⟩:=T.obj _ _ st8 b hb
    exact (J.pin (b,o) (List.mem_append_right _ (List.mem_append_right _ (Y2 hb e)))).2.1
   refine thn (hg _ _ _ _ _ _ s8 _ H8 x u _ I8' r8 (step x H8 y8)) fun _ s9 ⟨σ9,H9,I9,q9⟩=>?_
   refine thn (hc _ _ _ _ _ _ s9 σ9 H9 _ I9 q9) fun b s10 ⟨H10,I10,q10⟩=>?_
   cases b with
   | false =>
    obtain ⟨m',hm,w'⟩:=q10
    exact again I10 ⟨m',acc,hm,w'⟩
   | true =>
    refine thn (he _ _ _ _ _ _ s10 σ9 H10 _ I10 q10) fun yv s11 ⟨v,H11,I11,r11,hDa,hz,m',hm,w'⟩=>?_
    refine thn (Zcq _ s11 σ9 H11 (.ref s2.heap.objs.size) [v] (.ref s2.heap.objs.size) [yv] (fun _ H12=>H12=upd H11 s2.heap.objs.size (.lst (acc ++ [v]))) I11 rfl (.cons r11 .nil) ⟨_,acc,v,rfl,rfl,hDa,hz,rfl⟩) fun _ s12 ⟨_,H12,I12,_,e12⟩=>?_
    subst e12
    exact again I12 ⟨m',_,hm,w'⟩
 subst hs3
 exact codeAny_compStart_list (key _ rfl) (T.self X.A 0 _ _ _ st4 (key _ rfl))
theorem ZI (sc:Scope) (N xs:List Str) (mp:List Nat) (hcalm:X.calm=true) (hi:PI X tgt iter wi) (hg:∀ cl C s₀ H₀ fp,PG (lcx X (lcN N xs mp) scope cl C s₀ H₀ fp) tgt g)
  (hc:∀ cl C s₀ H₀ fp,PCs (lcx X (lcN N xs mp) scope cl C s₀ H₀ fp) ifs tc) (he:∀ cl C s₀ H₀ fp,PE (lcx X (lcN N xs mp) scope cl C s₀ H₀ fp) elt te)
  (S:Zjd sc scope N xs mp=true:=by decide +kernel) (hsc:X.env.scope=sc:=by rfl) (hN:X.N=N:=by rfl) (hs:∀ x,foldedSetIterable iter X.env x=pure x:=by intro _; rfl) :
  PE X (.ListComp elt [⟨tgt,iter,ifs,0⟩] scope pos) (tLc xs.length mp wi g tc te):=by
 intro pins s σ H Q I h
 have S':=ZeF S
 rw [eval_ListComp]
 refine wpAny_comprehension_free (use:=none) rfl hs (XR (Zbv I hsc S')) S'.kind S'.names (thn (hi pins s σ H _ I h) fun v s1 h1=>thn h1 fun itv s2 h2=>?_)
 obtain ⟨it,fp,tn,J,H2,e,I2,T,st2,f2,h3⟩:=h2
 subst e
 refine Zkm (RR:=fun acc C=>compPost (model X.prog X.w) X.A X.xe none (EP X pins σ Q) acc C) hsc hN S' hcalm hg hc he I2 T st2 f2 h3 ?_
 intro D C s' H' m hn I' fC q
 exact ⟨m,hn,fun h' hs'=>⟨.ref D,H',I'.turned (t':=s'.toks) (fun b o hb e=>hs'.extBut b o hb e) fC.1 fC.2.1 fC.2.2.2.1 fC.2.2.2.2.1 fC.2.2.2.2.2,rfl,q⟩⟩
theorem JB {i:Nat} {x:Str} {pos' spos:Pos} (sc:Scope) (N xs:List Str) (mp:List Nat) (hNd:X.N.Nodup) (hix:X.N[i]?=some x) (hx:Loc X.env.scope x) (hcalm:X.calm=true) (hi:PI X tgt iter wi) (hg:∀ cl C s₀ H₀ fp,PG (lcx X (lcN N xs mp) scope cl C s₀ H₀ fp) tgt g)
  (hc:∀ cl C s₀ H₀ fp,PCs (lcx X (lcN N xs mp) scope cl C s₀ H₀ fp) ifs tc) (he:∀ cl C s₀ H₀ fp,PE (lcx X (lcN N xs mp) scope cl C s₀ H₀ fp) elt te)
  (S:Zjd sc scope N xs mp=true:=by decide +kernel) (hsw:swapsWith (.ListComp elt [⟨tgt,iter,ifs,0⟩] scope pos) (some (.Name x pos')) spos.line X.env=pure true:=by rfl)
  (hsc:X.env.scope=sc:=by rfl) (hN:X.N=N:=by rfl) (hs:∀ x,foldedSetIterable iter X.env x=pure x:=by intro _; rfl) (hf:X.fn x=true∨X.env.scope.names.lookup x=some .local:=by first | exact .inl rfl | exact .inr rfl | assumption) :
  PS X (.Assign [.Name x pos'] (.ListComp elt [⟨tgt,iter,ifs,0⟩] scope pos) spos) (ZnF (tLc xs.length mp wi g tc te) (Zap i)):=by
 intro pins s σ H D I h
 have S':=ZeF S
 rw [exec_Assign_Name_used _ _ _ _ hsw]
 refine wpAny_bind (wpAny_standAt (wpAny_bind ?_))
 show wpAny (model X.prog X.w) X.A (do let _ ← comprehension (.ListComp elt [⟨tgt,iter,ifs,0⟩] scope pos) scope X.env _ (newList []) false (eval iter X.env) (some (assign (.Name x pos') X.env))) _ _ s
 refine wpAny_bind (wpAny_mono (wpAny_comprehension_free (use:=some (assign (.Name x pos') X.env)) (Q:=fun _ s'=>SP X pins D .next s') rfl hs (XR (Zbv I hsc S')) S'.kind S'.names
  (thn (hi pins s σ H _ I h) fun v s1 h1=>thn h1 fun itv s2 h2=>?_)) (fun _ s' hq=>wpAny_pure (wpAny_pure hq)) fun _ _ e=>e)
 obtain ⟨it,fp,tn,J,H2,e,I2,T,st2,f2,h3⟩:=h2
 subst e
 refine Zkm (RR:=fun acc C=>compPost (model X.prog X.w) X.A X.xe (some (assign (.Name x pos') X.env)) (fun _ s'=>SP X pins D .next s') acc C) hsc hN S' hcalm hg hc he I2 T st2 f2 h3 ?_
 intro D' C s' H' m hn I' fC q
 show wpAny (model X.prog X.w) X.A (assign (.Name x pos') X.env (.ref D')) _ _ s'
 refine wpAny_assign_Name (ZbZ I' hNd hix hx (v:=.ref D') rfl (fun s'' I'' ⟨a,sb,ha⟩=>?_) hf)
 have nC:C≠a:=by
  rcases ha with z | z
  ·rw [z]; exact fC.2.1
  ·exact fun e=>fC.2.2.2.2.1 x a z e.symm
 refine ⟨m,hn.sameBut sb nC,fun h' hs'=>⟨_,H',I''.turned (t':=s''.toks) (fun b o hb e=>hs'.extBut b o hb e) fC.1 fC.2.1 fC.2.2.2.1 fC.2.2.2.2.1 fC.2.2.2.2.2,q⟩⟩
end
def TSame (H H':Hp):Prop:=∀ b xs,H b=some (.tup xs)→H' b=some (.tup xs)
theorem Same.tup {H H':Hp} (h:Same H H'):TSame H H':=fun b xs e=>h b _ e
theorem TSame.trans {H H1 H2:Hp} (a:TSame H H1) (b:TSame H1 H2):TSame H H2:=fun c xs e=>b c xs (a c xs e)
theorem Xv {H:Hp} {D:Addr} {xs ys:List V} (h:H D=some (.lst xs)):TSame H (upd H D (.lst ys)):=fun b zs e=>by
 rw [Zi (fun z=>by rw [z,h] at e; cases e)]
 exact e
theorem Zb {H:Hp} {D:Addr} {o:HO} (h:H D=none):Same H (upd H D o):=fun b u e=>by
 rw [Zi (Zj e h)]
 exact e
theorem Xa {k:Nat} {mp:List Nat} {σ:St} {g:TG} {te:TE} {J:It} {H1:Hp} {Q:VK} (n:Nat) (xs:Nat→V) (R:Nat→V→Hp→Prop) (hn:n≤sizeLine)
  (hR:∀ i v H H',TSame H H'→R i v H→R i v H')
  (hJ:∀ H,Same H1 H→(∀ i,i < n→J.go i H∧∀ x H',J.yld i H x H'→H'=H∧x=xs i)∧J.stop n H)
  (step:∀ i H (Qe:VK),i < n→Same H1 H→(∀ v H6,Same H H6→R i v H6→Qe v H6)→g (xs i) (lcS k mp σ) H fun σ4 H4=>te σ4 H4 Qe)
  (done:∀ D vs H',vs.length=n→(∀ i v,vs[i]?=some v→R i v H')→Same H1 H'→H1 D=none→H' D=some (.lst vs)→Q (.ref D) H'):Jl k mp σ g Zl8 te J H1 Q:=by
 intro D hD
 refine ⟨fun i m acc H=>m=n - i∧i≤n∧acc.length=i∧Same H1 H∧H D=some (.lst acc)∧∀ j v,acc[j]?=some v→R j v H,⟨n,by simp,Nat.zero_le _,rfl,Zb hD,Zc,fun j v e=>by simp at e⟩,?_⟩
 rintro i m acc H ⟨rfl,hi,hl,hs,hDa,hr⟩
 obtain ⟨j1,j2⟩:=hJ H hs
 by_cases hlt:i < n
 ·refine .inr ⟨(j1 i hlt).1,fun x H3 y=>?_⟩
  obtain ⟨e1,e2⟩:=(j1 i hlt).2 x H3 y
  subst e1 e2
  refine step i H3 _ hlt hs fun v H6 s6 r6=>⟨s6 _ _ hDa,by omega,n - (i + 1),by omega,rfl,hlt,by rw [List.length_append,hl]; rfl,fun b o e=>?_,Zc,fun j u e=>?_⟩
  ·rw [Zi (Zj e hD)]
   exact s6 _ _ (hs b o e)
  ·have ts:TSame H6 (upd H6 D (.lst (acc ++ [v]))):=Xv (s6 _ _ hDa)
   rcases Nat.lt_trichotomy j acc.length with h | h | h
   ·rw [List.getElem?_append_left h] at e
    exact hR _ _ _ _ (s6.tup.trans ts) (hr j u e)
   ·subst h
    rw [List.getElem?_append_right (Nat.le_refl _),Nat.sub_self] at e
    cases e
    rw [hl]
    exact hR _ _ _ _ ts r6
   ·rw [List.getElem?_eq_none (by rw [List.length_append,List.length_singleton]; omega)] at e
    cases e
 ·have e:i=n:=by omega
  subst e
  exact .inl ⟨j2,done D acc H hl hr hs hD hDa⟩
theorem Ja {K:PySem.W.Frag} {a:Addr} {ys:List V} {H1:Hp} (h:SqL K H1 a ys):∀ H,Same H1 H→(∀ i,i < ys.length→(Itl K a).go i H∧∀ x H',(Itl K a).yld i H x H'→H'=H∧x=ys.getD i .non)∧(Itl K a).stop ys.length H:=fun H s=>by
 have q:=s.seq h
 refine ⟨fun i hi=>⟨⟨ys,ys[i],q,by simp [hi]⟩,fun x H' y=>⟨y.1,?_⟩⟩,⟨ys,q,Nat.le_refl _⟩⟩
 have e:=y.2 ys q
 rw [List.getD_eq_getElem?_getD,e]
 rfl
theorem Same.tupS {K:PySem.W.Frag} {H H':Hp} {a:Addr} {xs:List V} (e:Same H H') (h:SqT K H a xs):SqT K H' a xs:=by
 rcases h with (h | ⟨o,h⟩) | h
 ·exact .inl (.inl (e _ _ h))
 ·exact .inl (.inr ⟨o,e _ _ h⟩)
 ·exact .inr h
theorem ZaK {K:PySem.W.Frag} {a:Addr} {ys:List V} {H1:Hp} (h:SqT K H1 a ys):∀ H,Same H1 H→(∀ i,i < ys.length→(Itt K a).go i H∧∀ x H',(Itt K a).yld i H x H'→H'=H∧x=ys.getD i .non)∧(Itt K a).stop ys.length H:=fun H s=>by
 have q:=s.tupS h
 refine ⟨fun i hi=>⟨⟨ys,ys[i],q,by simp [hi]⟩,fun x H' y=>⟨y.1,?_⟩⟩,⟨ys,q,Nat.le_refl _⟩⟩
 have e:=y.2 ys q
 rw [List.getD_eq_getElem?_getD,e]
 rfl
theorem Zbw {lo:Int} {n:Nat} {H1:Hp}:∀ H,Same H1 H→(∀ i,i < n→(Itr lo n).go i H∧∀ x H',(Itr lo n).yld i H x H'→H'=H∧x = .int (lo + i))∧(Itr lo n).stop n H:=fun H _ =>
 ⟨fun i hi=>⟨hi,fun x H' y=>y⟩,Nat.le_refl _⟩
section
variable {X:Cx}
def ZoD:V→Option Int→Option Int→Hp→VK→Prop:=fun x lo hi H Q=>∃ z:Str,x = .str z∧z.length≤sizeLine∧Q (.str (Txt.slice z lo hi)) H
theorem Yb:SlR X ZoD:=by
 intro pins s σ H x v vl vu lo hi sl Q I rx hs pl pu h
 obtain ⟨z,rfl,hz,q⟩:=h
 obtain ⟨t,rfl⟩:=rx
 have fin:∀ t' k,EP X pins σ Q (.str (Txt.slice z lo hi) t') { s with toks:=k }:=fun t' k=>⟨.str _,H,I.tok _,⟨_,rfl⟩,q⟩
 have hle:(Txt.slice z lo hi).length≤sizeLine:=Nat.le_trans (Txt.slice_le z _ _) hz
 cases pl with
 | none =>
  cases pu with
  | none=>exact ⟨"str",_,F.slot_str_getitem.lookup,typeIs_str _ _ _,wpAny_getItem_str_slice (l:=none) (u:=none) (st:=none) hs rfl (post_val_or_str ⟨hle,fin⟩)⟩
  | int j u=>exact ⟨"str",_,F.slot_str_getitem.lookup,typeIs_str _ _ _,wpAny_getItem_str_slice (l:=none) (u:=some (j,u)) (st:=none) hs rfl (post_val_or_str ⟨hle,fin⟩)⟩
 | int i u' =>
  cases pu with
  | none=>exact ⟨"str",_,F.slot_str_getitem.lookup,typeIs_str _ _ _,wpAny_getItem_str_slice (l:=some (i,u')) (u:=none) (st:=none) hs rfl (post_val_or_str ⟨hle,fin⟩)⟩
  | int j u=>exact ⟨"str",_,F.slot_str_getitem.lookup,typeIs_str _ _ _,wpAny_getItem_str_slice (l:=some (i,u')) (u:=some (j,u)) (st:=none) hs rfl (post_val_or_str ⟨hle,fin⟩)⟩
theorem Zlk:OpR X (binaryOp .Mult) (fun x y H Q=>∃ (z:Str) (n:Int),x = .str z∧y = .int n∧MulOk z n∧Q (.str (Txt.mul z n)) H):=by
 intro pins s σ H x y v u Q I rx ry h
 obtain ⟨z,n,rfl,rfl,hok,q⟩:=h
 obtain ⟨t,rfl⟩:=rx
 obtain ⟨t',rfl⟩:=ry
 exact SB.mul hok fun t' k=>⟨.str _,H,I.tok _,⟨_,rfl⟩,q⟩
theorem XX:∀ {ss:List Str} {us:List Value},Vals (ss.map V.str) us→StrsAre us ss
 | [],_,r=>by
  cases r
  exact .nil
 | x :: ss,_,r=>by
  cases r with
  | cons r1 r2 =>
   obtain ⟨t,e⟩:=r1
   subst e
   exact .cons x t (XX r2)
def ZnL (K:PySem.W.Frag):V→List V→Hp→VK→Prop:=fun x vs H Q=>∃ (z:Str) (a:Addr) (ys:List Str),x = .str z∧vs=[.ref a]∧SqL K H a (ys.map V.str)∧(ys.map (·.length)).sum + ys.length * z.length≤16777216∧Q (.str (Txt.join z ys)) H
theorem Zds:MtR X "str.join" (ZnL X.K):=by
 intro pins s σ H x vs v us Q I rx rv h
 obtain ⟨z,a,ys,rfl,rfl,hq,hz,q⟩:=h
 obtain ⟨t,rfl⟩:=rx
 obtain ⟨u,rfl,ru⟩:=Xu rv
 cases ru
 obtain ⟨its,r,pl,_⟩:=I.list hq
 exact join_list pl.isList (XX (by simpa using r)) hz fun t' k=>⟨.str _,H,I.tok _,⟨_,rfl⟩,q⟩
theorem Yy:∀ (ns:List Int) (k:Nat),preSum (fun i=>ns.getD i 0) k=(ns.take k).sum
 | ns,0=>by simp [preSum]
 | ns,k + 1=>by
  rw [preSum,Yy ns k]
  by_cases h:k < ns.length
  ·rw [List.take_add_one,List.getElem?_eq_getElem h,List.getD_eq_getElem?_getD,List.getElem?_eq_getElem h]
   simp only [List.sum_append,Option.toList_some,List.sum_cons,List.sum_nil,Option.getD_some]
   omega
  ·have h':ns.length≤k:=Nat.le_of_not_lt h
   rw [List.take_of_length_le h',List.take_of_length_le (Nat.le_succ_of_le h'),List.getD_eq_getElem?_getD,List.getElem?_eq_none h']
   simp
theorem Zae (hc:X.calm=true):CallR X (.builtin "sum") (fun xs H Q=>∃ (a:Addr) (ns:List Int),xs=[.ref a]∧SqL X.K H a (ns.map V.int)∧(∀ n∈ns,InLong n)∧(∀ k,InLong (ns.take k).sum)∧Q (.int ns.sum) H):=by
 intro pins s σ H xs us Q I r h
 obtain ⟨a,ns,rfl,hq,h1,h2,q⟩:=h
 obtain ⟨u,rfl,ru⟩:=Xu r
 cases ru
 obtain ⟨its,rv,pl,hz⟩:=I.list hq
 have hl:=rv.length
 rw [List.length_map] at hl
 have hlt:a < s.heap.objs.size:=by
  obtain ⟨o,n,e,_⟩:=pl
  exact Heap.lt_size e
 refine call_sum_walk (wpAny_pyIter_list pl.isList ⟨s.heap.objs.size,[s.heap.objs.size,a],[s.heap.objs.size],its.toArray.size,_,_,fun i=>ns.getD i 0,rfl,Walks.list (A:=X.A.in1) (I.ok.hd hc) _ _ (Nat.ne_of_lt hlt) its.toArray,
  ⟨⟨_,Heap.get?_push_size _ rfl,rfl,rfl⟩,pl.isList.push _⟩,?_,?_,?_,?_⟩)
 ·intro b hb
  show b < (s.heap.push _).objs.size
  rw [Heap.size_push]
  have:b=s.heap.objs.size∨b=a:=by simpa using hb
  rcases this with z | z
  ·rw [z]; exact Nat.lt_succ_self _
  ·rw [z]; exact Nat.lt_succ_of_lt hlt
 ·intro i v hv
  have e1:its[i]?=some v:=by simpa using hv
  have hi:i < its.length:=(List.getElem?_eq_some_iff.mp e1).1
  have hb:(ns.map V.int)[i]?=some (.int (ns.getD i 0)):=by
   rw [List.getElem?_map,List.getD_eq_getElem?_getD]
   cases e:ns[i]? with
   | none=>exact absurd (List.getElem?_eq_none_iff.mp e) (by omega)
   | some b=>rfl
  obtain ⟨u',hu,ru⟩:=rv.get hb
  rw [e1] at hu
  cases hu
  exact ru
 ·intro j hj
  have hj':j < ns.length:=by rw [hl]; simpa using hj
  refine ⟨?_,?_⟩
  ·show InLong (ns.getD j 0)
   rw [List.getD_eq_getElem?_getD,List.getElem?_eq_getElem hj']
   exact h1 _ (List.getElem_mem hj')
  ·rw [Yy]
   exact h2 _
 ·intro h' tk t' kk
  refine ⟨.int ns.sum,H,I.kept fun b o e=>kk b o (by simpa using Nat.ne_of_lt (Heap.lt_size e)) (Heap.get?_push_of_some _ e),⟨t',?_⟩,q⟩
  rw [Yy,List.take_of_length_le (by rw [List.size_toArray]; omega)]
def ZoO:V→Option Value
 | .ty n=>some (.type n)
 | .ref a=>some (.ref a)
 | _=>none
theorem Zjy:CallR X (.builtin "isinstance") (fun xs H Q=>∃ (x c:V) (t cv:Value) (b:Bool),xs=[x,c]∧Ze1 X.K H x t∧ZoO c=some cv∧PySem.W.kitOne X.K t cv=some b∧Q (.bl b) H):=by
 intro pins s σ H xs us Q I r h
 obtain ⟨x,c,t,cv,b,rfl,ty,rc,e,q⟩:=h
 obtain ⟨u,w',rfl,ru,rw'⟩:=Znr r
 have ec:w'=cv:=by
  cases c with
  | ty n=>exact (show w'=Value.type n from rw').trans (Option.some.inj rc)
  | ref n=>exact (show w'=Value.ref n from rw').trans (Option.some.inj rc)
  | _=>cases rc
 subst ec
 exact ZhC I ru ty e fun tk=>⟨.bl b,H,I.tok _,rfl,q⟩
end
mutual
def RepD (H:Hp):PyData→V→Prop
 | .none,v=>v = .non
 | .bool b,v=>v = .bl b
 | .int i,v=>v = .int i
 | .str x,v=>v = .str x
 | .tuple ds,v=>∃ a xs,v = .ref a∧H a=some (.tup xs)∧RepA H ds xs
 | .list ds,v=>∃ a xs,v = .ref a∧H a=some (.lst xs)∧RepA H ds xs
 | .dict _,_=>False
def RepA (H:Hp):List PyData→List V→Prop
 | [],xs=>xs=[]
 | d :: ds,xs=>∃ v vs,xs=v :: vs∧RepD H d v∧RepA H ds vs
end
mutual
theorem RepD.same {H H':Hp} (h:Same H H'):∀ (d:PyData) (v:V),RepD H d v→RepD H' d v
 | .none,_,r=>r
 | .bool _,_,r=>r
 | .int _,_,r=>r
 | .str _,_,r=>r
 | .tuple ds,v,r=>by
  rw [RepD] at r ⊢
  obtain ⟨a,xs,e,e2,q⟩:=r
  exact ⟨a,xs,e,h _ _ e2,RepA.same h ds xs q⟩
 | .list ds,v,r=>by
  rw [RepD] at r ⊢
  obtain ⟨a,xs,e,e2,q⟩:=r
  exact ⟨a,xs,e,h _ _ e2,RepA.same h ds xs q⟩
 | .dict _,v,r=>by
  rw [RepD] at r
  exact r.elim
theorem RepA.same {H H':Hp} (h:Same H H'):∀ (ds:List PyData) (vs:List V),RepA H ds vs→RepA H' ds vs
 | [],_,r=>r
 | d :: ds,vs,r=>by
  rw [RepA] at r ⊢
  obtain ⟨v,us,e,q1,q2⟩:=r
  exact ⟨v,us,e,RepD.same h d v q1,RepA.same h ds us q2⟩
end
section
variable {X:Cx} {pins:List (Addr × Obj)} {σ:St} {H:Hp} {s:Shared}
mutual
theorem RepD.reads (I:Inv X pins σ H s):∀ (d:PyData) (v:V) (u:Value),RepD H d v→RelV v u→∃ as,Reads s.heap u d as
 | .none,v,u,r,q=>by
  rw [RepD] at r
  subst r
  cases q
  exact ⟨_,.none⟩
 | .bool b,v,u,r,q=>by
  rw [RepD] at r
  subst r
  cases q
  exact ⟨_,.bool b⟩
 | .int i,v,u,r,q=>by
  rw [RepD] at r
  subst r
  obtain ⟨t,rfl⟩:=q
  exact ⟨_,.int i t⟩
 | .str x,v,u,r,q=>by
  rw [RepD] at r
  subst r
  obtain ⟨t,rfl⟩:=q
  exact ⟨_,.str x t⟩
 | .tuple ds,v,u,r,q=>by
  rw [RepD] at r
  obtain ⟨a,xs,e,e2,q2⟩:=r
  subst e
  cases q
  obtain ⟨its,rv,⟨o,h1,h2,n,h3⟩,_⟩:=I.tuple (SqT.of e2)
  obtain ⟨as,q3⟩:=RepA.reads I ds xs its q2 rv
  exact ⟨_,.tuple h1 h2 h3 (by simpa using q3)⟩
 | .list ds,v,u,r,q=>by
  rw [RepD] at r
  obtain ⟨a,xs,e,e2,q2⟩:=r
  subst e
  cases q
  obtain ⟨its,rv,⟨o,n,h1,h2,_,h3⟩,_⟩:=I.list (SqL.of e2)
  obtain ⟨as,q3⟩:=RepA.reads I ds xs its q2 rv
  exact ⟨_,.list h1 h2 h3 (by simpa using q3)⟩
 | .dict _,v,u,r,q=>by
  rw [RepD] at r
  exact r.elim
theorem RepA.reads (I:Inv X pins σ H s):∀ (ds:List PyData) (vs:List V) (us:List Value),RepA H ds vs→Vals vs us→∃ as,ReadsAll s.heap us ds as
 | [],vs,us,r,q=>by
  rw [RepA] at r
  subst r
  cases q
  exact ⟨_,.nil⟩
 | d :: ds,vs,us,r,q=>by
  rw [RepA] at r
  obtain ⟨v,vs',e,q1,q2⟩:=r
  subst e
  cases q with
  | cons p1 p2 =>
   obtain ⟨as,r1⟩:=RepD.reads I d v _ q1 p1
   obtain ⟨bs,r2⟩:=RepA.reads I ds vs' _ q2 p2
   exact ⟨_,.cons r1 r2⟩
end
end
section
variable {X:Cx}
end
structure HasDef (K:PySem.W.Frag) (mg:Str→Option Value) (name:Str) (st:Stmt) (ps:List Str):Prop where
 ex:∃ f fd,Fun K name name st f fd∧Binds K fd ps []∧mg name=some (.ref f)
structure FOk (P:Program) (w:World) (K:PySem.W.Frag) (mg:Str→Option Value) (base:Heap) (k:Nat) (name:Str) (ps:List Str) (sp:Sp):Prop where
 ex:∃ f fd,FnOk P w K mg base CX0 k f fd ps sp∧Binds K fd ps []∧mg name=some (.ref f)∧PySem.W.keepIn K (.ref f)=true
section
variable {P:Program} {w:World} {K:PySem.W.Frag} {mg:Str→Option Value} {base:Heap}
theorem HasDef.ok {name:Str} {st:Stmt} {N ps:List Str} {k:Nat} {sp:Sp} (D:HasDef K mg name st ps) (S:Zk N ps (Zf st)) (len:∀ vs H Q E,sp vs H Q E→vs.length=ps.length)
  (hbody:∀ (f:Addr) (cdv:Value) (A:Around) (outer:List Env) (s:Shared) (H:Hp) (vs:List V) (Q:VK) (E:XK),Room k (A.deeper (envOfC name (Zf st) s.heap.objs.size f cdv))→sp vs H Q E →
   ∃ t,PSs (ZlS CX0 P w K mg base N name (Zf st) f cdv A outer s H E).nox (Yo st) t∧t { nx:=fun _ H'=>Q .non H',rt:=Q } (ZaR N vs) H):FOk P w K mg base (k + 1) name ps sp:=by
 obtain ⟨f,fd,F,b,m⟩:=D.ex
 exact ⟨f,fd,F.ok S len fun cdv A outer s H vs Q E=>hbody f cdv A outer s H vs Q E,b,m,F.kp⟩
theorem FOk.mono {name:Str} {ps:List Str} {j k:Nat} {sp:Sp} (G:FOk P w K mg base j name ps sp) (h:j≤k):FOk P w K mg base k name ps sp:=by
 obtain ⟨f,fd,F,r⟩:=G.ex
 exact ⟨f,fd,F.mono h,r⟩
end
theorem Zr {X:Cx} {k:Nat} {name:Str} {ps:List Str} {sp:Sp} {p pos:Pos} {e:Expr} {es:List Expr} {t:TA} (G:FOk X.prog X.w X.K X.mg X.base k name ps sp) (hr:Room k X.A) (ha:PA X (e :: es) t) (hg:Gl X name:=by rfl)
  (hdb:(name == ("__debug__" : Str))=false:=by decide) (he:starEach (e :: es) X.env=(false,eval e X.env) :: starEach es X.env:=by rfl) (hpl:(backTo pos (starEach es X.env)).any (·.1)=false:=by rfl) :
  PE X (.Call (.Name name p) (e :: es) [] pos) (Zmf sp [] E0 t):=by
 obtain ⟨f,fd,F,b,m,kp⟩:=G.ex
 exact Zlf F hr hg m kp b .nil ZnP ha hdb he hpl
inductive TyB (H:Hp):V→String→Prop where
 | non:TyB H .non "NoneType"
 | bl (b:Bool):TyB H (.bl b) "bool"
 | int (i:Int):TyB H (.int i) "int"
 | str (x:Str):TyB H (.str x) "str"
 | lst {a:Addr} {xs:List V} (e:H a=some (.lst xs)):TyB H (.ref a) "list"
 | tup {a:Addr} {xs:List V} (e:H a=some (.tup xs)):TyB H (.ref a) "tuple"
 | dK {a:Addr} {kvs:List (Key × V)} (e:H a=some (.dK kvs)):TyB H (.ref a) "dict"
theorem TyB.of {K:PySem.W.Frag} {H:Hp} {x:V} {n:String} (h:TyB H x n):Ze1 K H x (.type n):=by
 cases h with
 | non=>exact .non
 | bl b=>exact .bl b
 | int i=>exact .int i
 | str x=>exact .str x
 | lst e=>exact .lst e
 | tup e=>exact .tup e
 | dK e=>exact .dK e
def ZcW:List String:=["NoneType","bool","int","str","list","tuple","dict"]
theorem TyB.mem {H:Hp} {x:V} {n:String} (h:TyB H x n):n∈ZcW:=by
 cases h <;> simp [ZcW]
def Zoo (n c:String):Bool:=n == c || (n == "bool" && c == "int")
def Zh6:List String:=["int","bool","str","tuple","list"]
def ZoJ (a b:String):Option Bool:=if (Value.type a == Value.type b)=true then some true else if PySem.W.kitMeta b=true then (fastBuiltinMro a).map (·.contains (Value.type b)) else none
theorem Zlz:∀ n∈ZcW,∀ c∈Zh6,ZoJ n c=some (Zoo n c):=by decide +kernel
theorem Zih {X:Cx}:CallR X (.builtin "isinstance") (fun xs H Q=>∃ (x:V) (c n:String),xs=[x,.ty c]∧c∈Zh6∧TyB H x n∧Q (.bl (Zoo n c)) H):=by
 intro pins s σ H xs us Q I r h
 obtain ⟨x,c,n,rfl,hc,ty,q⟩:=h
 exact Zjy pins s σ H _ us Q I r ⟨x,.ty c,_,_,_,rfl,ty.of,rfl,Zlz n ty.mem c hc,q⟩
theorem Zn9:bootBuiltins "isinstance" = some (.builtin "isinstance"):=by decide +kernel
theorem Yw:bootBuiltins "len" = some (.builtin "len"):=by decide +kernel
theorem ZjA:bootBuiltins "sum" = some (.builtin "sum"):=by decide +kernel
theorem Zn8:bootBuiltins "min" = some (.builtin "min"):=by decide +kernel
theorem XS:bootBuiltins "sorted" = some (.builtin "sorted"):=by decide +kernel
theorem Znh:bootBuiltins "bool" = some (.type "bool"):=by decide +kernel
theorem Xr:bootBuiltins "tuple" = some (.type "tuple"):=by decide +kernel
theorem Zky:bootBuiltins "list" = some (.type "list"):=by decide +kernel
theorem ZnO {X:Cx} {x:Str} {c:String} {pos:Pos} (hg:Gl X x) (hm:X.mg x=none) (hv:bootBuiltins x=some (.type c)) (hn:x≠"__name__":=by decide) (hd:(x == ("__debug__" : Str))=false:=by decide):PE X (.Name x pos) (tC (.ty c)) :=
 Zlg hg hm hv (show RelV (.ty c) (.type c) from rfl) hn hd
theorem Z6 {X:Cx} {N xs:List Str} {mp:List Nat} {scope:Scope} {cl:List (Str × Addr)} {C:Addr} {s₀:Shared} {H₀:Hp} {fp:List Addr} (i:Nat) {x:Str} {pos:Pos} (nd:(lcN N xs mp).Nodup:=by decide +kernel) (hi:(lcN N xs mp)[i]?=some x:=by rfl)
  (hx:(lcx X (lcN N xs mp) scope cl C s₀ H₀ fp).env.scope.names.lookup x=some .local:=by rfl):PG (lcx X (lcN N xs mp) scope cl C s₀ H₀ fp) (.Name x pos) (Zap i):=Zy nd hi (.inl hx) (.inr hx)
def tx (l:List Nat):Str:=⟨l.toArray⟩
theorem ZH (l:List Nat):(tx l).cps.toList=l:=by simp [tx]
theorem ZG (l:List Nat):(tx l).length=l.length:=by simp [tx,Str.length]
theorem tx_eta (x:Str):tx x.cps.toList=x:=by simp [tx]
theorem ZbU {a b:List Nat} (h:tx a=tx b):a=b:=by
 have:=congrArg (fun x:Str=>x.cps.toList) h
 simpa [tx] using this
theorem ZdP {vs:List V} {n:Nat} {f:Nat→V} (hl:vs.length=n) (hr:∀ i v,vs[i]?=some v→v=f i):vs=(List.range n).map f:=by
 apply List.ext_getElem?
 intro i
 rw [List.getElem?_map]
 by_cases h:i < n
 ·rw [List.getElem?_range h,Option.map_some,List.getElem?_eq_getElem (by omega)]
  exact congrArg some (hr i _ (List.getElem?_eq_getElem (by omega)))
 ·rw [List.getElem?_eq_none (by omega),List.getElem?_eq_none (by simpa using h)]
  rfl
theorem JE {X:Cx} (K:PySem.W.Frag) (h:X.K=K:=by rfl):IxR X (Zoj K):=by subst h; exact ZN
theorem Zig {X:Cx} (K:PySem.W.Frag) (h:X.K=K:=by rfl):CallR X (.builtin "len") (fun xs H Q=>∃ x n,xs=[x]∧Zod K x H n∧Q (.int n) H):=by subst h; exact ZB
theorem Zt {n:Nat} (h:n≤16777216):n≤sizeLine:=by rw [sizeLine_eq]; exact h
end L2
namespace L2
open PySem PySem.Spec PyProof.Rows PySem.Builtin.Str
section
variable {X:Cx}
theorem ZS {es:List Expr} {k:Nat} {t:TGs} {pos:Pos} (n:Nat) (K:PySem.W.Frag) (hc:X.calm=true) (h:PGs X es t) (hK:X.K=K:=by rfl)
  (hn:(assignEach es X.env).length=n:=by rfl) (hst:(assignEach es X.env).findIdx? (·.1)=none:=by rfl):PG X (.Tuple es k pos) (Zn0 K n t):=by
 subst hK
 exact Zmw hc h hn hst
end
theorem ZY (x:Str):x.cps.toList.length=x.length:=by simp [Str.length]
theorem Zai {x:Str} {n:Int} (h:0≤n):(Txt.slice x none (some n)).cps.toList=x.cps.toList.take n.toNat:=by
 by_cases c:n≤x.length
 ·have e:=eq_of_beq (slice_closes_toL (x:=x) h c)
  rw [e]
  simp
 ·have e1:=slice_to_beyond (x:=x) (j:=n) (by omega)
  have e2:=eq_of_beq (slice_closes_toL (x:=x) (j:=x.length) (by omega) (Int.le_refl _))
  rw [e1,e2,List.take_of_length_le (l:=x.cps.toList) (i:=n.toNat) (by rw [ZY]; omega)]
  simp [Str.length]
  exact List.take_of_length_le (by simp)
theorem JN {x:Str} {i j:Int} (h0:0≤i) (h1:i≤j) (h2:j≤x.length):(Txt.slice x (some i) (some j)).cps.toList=(x.cps.toList.drop i.toNat).take (j - i).toNat:=by
 have e:=eq_of_beq (slice_closesL (x:=x) h0 h1 h2)
 rw [e]
theorem ZcD:∀ (l:List (Array Nat)) (a:Array Nat),(l.foldl (· ++ ·) a).toList=a.toList ++ (l.map Array.toList).flatten
 | [],a=>by simp
 | b :: l,a=>by
  rw [List.foldl_cons,ZcD l]
  simp
theorem Zhk {x:Str} {n:Int} (h:1≤n) (hx:x.length≠0):(Txt.mul x n).cps.toList=(List.replicate n.toNat x.cps.toList).flatten:=by
 unfold Txt.mul
 rw [if_neg (by omega)]
 split
 ·rename_i c
  simp only [Bool.or_eq_true,beq_iff_eq] at c
  rcases c with c | c
  ·subst c
   simp
  ·exact absurd c hx
 ·rw [ZcD]
  simp
theorem mulOk_of {x:Str} {n:Int} (h1:1≤n) (h2:n≤1000) (h3:x.length≤1000):MulOk x n:=by
 refine ⟨?_,?_,?_⟩
 ·have a:¬ n < -(2 ^ 63):=by omega
  have b:¬ n ≥ 2 ^ 63:=by omega
  rw [decide_eq_false a,decide_eq_false b]
  rfl
 ·intro _ _ q
  have:(1000:Int)≤(2 ^ 63 - 1) / n:=by
   rw [Int.le_ediv_iff_mul_le (by omega)]
   omega
  omega
 ·intro _ _
  have:x.length * n.toNat≤1000 * 1000:=Nat.mul_le_mul h3 (by omega)
  unfold tooLong
  have hs:sizeLine=16777216:=sizeLine_eq
  exact decide_eq_false (by omega)
theorem Zlu {ns:List Int} {i:Int} (h0:0≤i) (h1:i < ns.length):atI (ns.map V.int) i=some (.int (ns.getD i.toNat 0)):=by
 obtain ⟨j,rfl⟩:=Int.eq_ofNat_of_zero_le h0
 refine ZbL ?_
 have hj:j < ns.length:=by omega
 rw [List.getElem?_map,List.getElem?_eq_getElem hj,Int.toNat_natCast,List.getD_eq_getElem?_getD,List.getElem?_eq_getElem hj]
 rfl
theorem Yn {α:Type} {l:List α} {i:Int} {c:α} (h0:0≤i) (h:l[i.toNat]?=some c):atI l i=some c:=by
 obtain ⟨j,rfl⟩:=Int.eq_ofNat_of_zero_le h0
 exact ZbL h
end L2
namespace L2
open PySem PySem.Spec PyProof.Rows
theorem Zj1 {n i d:Nat} (h:i≤n):HT.sIx n d (some (i:Int))=i:=by
 unfold HT.sIx
 simp only
 rw [if_neg (by omega)]
 simp
 omega
theorem cut_to {xs:List V} {i:Nat} (h:i≤xs.length):ZeW xs none (some (i:Int))=xs.take i:=by
 have e1:HT.sIx xs.length 0 none=0:=rfl
 unfold ZeW
 rw [e1,Zj1 h]
 simp
theorem cut_from {xs:List V} {i:Nat} (h:i≤xs.length):ZeW xs (some (i:Int)) none=xs.drop i:=by
 have e1:HT.sIx xs.length xs.length none=xs.length:=rfl
 unfold ZeW
 rw [e1,Zj1 h]
 exact List.take_of_length_le (by rw [List.length_drop]; omega)
end L2
namespace Srt
open PySem PySem.W PyProof.Rows
section
variable {n:Nat} {lt:Nat→Nat→Bool} {cmp:Nat→Nat→(Bool→Shared→Prop)→Shared→Prop} {G:Shared→Prop}
structure Ord (n:Nat) (lt:Nat→Nat→Bool):Prop where
 tr:∀ i j k,lt i j=true→lt j k=true→lt i k=true
 asy:∀ i j,lt i j=true→lt j i=false
 tot:∀ i j,i < n→j < n→i≠j→lt i j=true∨lt j i=true
structure Pm (n:Nat) (p:Array Nat):Prop where
 size:p.size=n
 perm:p.Perm (List.range n).toArray
theorem Pm.below (h:Pm n p) {a:Nat} (ha:a < n):p.getD a 0 < n:=by
 have hs:a < p.size:=by rw [h.size]; exact ha
 have hm:p[a]∈p:=Array.getElem_mem hs
 have:p[a]∈(List.range n).toArray:=h.perm.mem_iff.mp hm
 rw [Array.getD_eq_getD_getElem?,Array.getElem?_eq_getElem hs]
 simpa using this
theorem Pm.ne (h:Pm n p) {a b:Nat} (ha:a < n) (hb:b < n) (hab:a≠b):p.getD a 0≠p.getD b 0:=by
 have hs:a < p.size:=by rw [h.size]; exact ha
 have hs2:b < p.size:=by rw [h.size]; exact hb
 have nd:p.toList.Nodup:=by
  have:=(Array.perm_iff_toList_perm.mp h.perm)
  exact this.nodup_iff.mpr (by simpa using List.nodup_range)
 rw [Array.getD_eq_getD_getElem?,Array.getElem?_eq_getElem hs,Array.getD_eq_getD_getElem?,Array.getElem?_eq_getElem hs2]
 intro e
 have:=(List.getElem_inj (h₀:=by simpa using hs) (h₁:=by simpa using hs2) nd).mp (by simpa using e)
 exact hab this
def Up (lt:Nat→Nat→Bool) (p:Array Nat) (m:Nat):Prop:=∀ a b,a < b→b < m→lt (p.getD a 0) (p.getD b 0)=true
def Dn (lt:Nat→Nat→Bool) (p:Array Nat) (m:Nat):Prop:=∀ a b,a < b→b < m→lt (p.getD b 0) (p.getD a 0)=true
theorem Up.more (o:Ord n lt) {p:Array Nat} {m:Nat} (h:Up lt p m) (h1:1≤m) (hl:lt (p.getD (m - 1) 0) (p.getD m 0)=true):Up lt p (m + 1):=fun a b hab hb=>by
 by_cases e:b=m
 ·subst e
  by_cases e2:a=b - 1
  ·rw [e2]; exact hl
  ·exact o.tr _ _ _ (h a (b - 1) (by omega) (by omega)) hl
 ·exact h a b hab (by omega)
theorem Dn.more (o:Ord n lt) {p:Array Nat} {m:Nat} (h:Dn lt p m) (h1:1≤m) (hl:lt (p.getD m 0) (p.getD (m - 1) 0)=true):Dn lt p (m + 1):=fun a b hab hb=>by
 by_cases e:b=m
 ·subst e
  by_cases e2:a=b - 1
  ·rw [e2]; exact hl
  ·exact o.tr _ _ _ hl (h a (b - 1) (by omega) (by omega))
 ·exact h a b hab (by omega)
theorem other (o:Ord n lt) {p:Array Nat} (hp:Pm n p) {a b:Nat} (ha:a < n) (hb:b < n) (hab:a≠b) (h:¬ lt (p.getD a 0) (p.getD b 0)=true):lt (p.getD b 0) (p.getD a 0)=true:=by
 rcases o.tot _ _ (hp.below ha) (hp.below hb) (hp.ne ha hb hab) with z | z
 ·exact absurd z h
 ·exact z
variable (o:Ord n lt) (hc:∀ i j C s,i < n→j < n→i≠j→G s→(∀ s',G s'→C (lt i j) s')→cmp i j C s)
include o hc
theorem asc {p:Array Nat} (hp:Pm n p) {Q:Nat→Shared→Prop}:∀ (f m:Nat) (s:Shared),1≤m→m + f≤n→Up lt p m→G s →
  (∀ k s',m≤k→k≤m + f→Up lt p k→(k=m + f∨lt (p.getD k 0) (p.getD (k - 1) 0)=true)→G s'→Q k s')→(kas_asc p f m).kasWp cmp Q s
 | 0,m,s,h1,h2,hu,g,k=>k m s (Nat.le_refl _) (Nat.le_refl _) hu (.inl rfl) g
 | f + 1,m,s,h1,h2,hu,g,k=>by
  refine hc _ _ _ s (hp.below (by omega)) (hp.below (by omega)) (hp.ne (by omega) (by omega) (by omega)) g fun s' g'=>?_
  by_cases c:lt (p.getD m 0) (p.getD (m - 1) 0)=true
  ·dsimp only
   rw [if_pos c]
   exact k m s' (Nat.le_refl _) (by omega) hu (.inr c) g'
  ·dsimp only
   rw [if_neg c]
   have c':=other o hp (by omega) (by omega) (by omega) c
   exact asc hp f (m + 1) s' (by omega) (by omega) (hu.more o h1 c') g' fun j s'' a1 a2 a3 a4 a5=>k j s'' (by omega) (by omega) a3 (by rcases a4 with z | z; exact .inl (by omega); exact .inr z) a5
theorem Zoq {p:Array Nat} (hp:Pm n p) {Q:Array Nat × Nat × Nat→Shared→Prop}:∀ (f m:Nat) (s:Shared),1≤m→m + f≤n→Dn lt p m→G s →
  (∀ k s',m≤k→k≤m + f→Dn lt p k→G s'→Q (p,k,0) s')→(kas_desc f p m 0).kasWp cmp Q s
 | 0,m,s,h1,h2,hu,g,k=>k m s (Nat.le_refl _) (Nat.le_refl _) hu g
 | f + 1,m,s,h1,h2,hu,g,k=>by
  refine hc _ _ _ s (hp.below (by omega)) (hp.below (by omega)) (hp.ne (by omega) (by omega) (by omega)) g fun s' g'=>?_
  by_cases c:lt (p.getD m 0) (p.getD (m - 1) 0)=true
  ·dsimp only
   rw [if_pos c,if_neg (by omega)]
   exact Zoq hp f (m + 1) s' (by omega) (by omega) (hu.more o h1 c) g' fun j s'' a1 a2 a3 a4=>k j s'' (by omega) (by omega) a3 a4
  ·dsimp only
   rw [if_neg c]
   have c':=other o hp (by omega) (by omega) (by omega) c
   refine hc _ _ _ s' (hp.below (by omega)) (hp.below (by omega)) (hp.ne (by omega) (by omega) (by omega)) g' fun s'' g''=>?_
   dsimp only
   rw [if_pos c']
   exact k m s'' (Nat.le_refl _) (by omega) hu g''
omit o hc in
theorem Zj3 {p:Array Nat} {m k:Nat} (hm:m≤p.size) (hk:k < m):(kas_rev p 0 m).getD k 0=p.getD (m - 1 - k) 0:=by
 unfold kas_rev
 rw [Array.getD_eq_getD_getElem?,getElem?_mirror_all hm,if_pos (by omega),Array.getD_eq_getD_getElem?]
 congr 2
 omega
omit o hc in
theorem Zj2 {p:Array Nat} (hp:Pm n p) (m:Nat):Pm n (kas_rev p 0 m):=⟨by unfold kas_rev; rw [mirror_size,hp.size],(mirror_perm _ _ _ _).trans hp.perm⟩
theorem Znu {p:Array Nat} (hp:Pm n p) {Q:Nat × Array Nat→Shared→Prop} {m:Nat} {s:Shared} (h1:1≤m) (h2:m≤n) (hd:Dn lt p m) (g:G s)
  (k:∀ j p' s',1≤j→j≤n→Pm n p'→Up lt p' j→G s'→Q (j,p') s'):(kas_tail3 m n p).kasWp cmp Q s:=by
 unfold kas_tail3
 rw [KasT.kasWp_bind]
 have hu:Up lt (kas_rev p 0 m) m:=fun a b hab hb=>by
  rw [Zj3 (by rw [hp.size]; exact h2) (by omega),Zj3 (by rw [hp.size]; exact h2) hb]
  exact hd _ _ (by omega) (by omega)
 exact asc o hc (Zj2 hp m) _ m s h1 (by omega) hu g fun j s' a1 a2 a3 _ a5=>k j _ s' (by omega) (by omega) (Zj2 hp m) a3 a5
theorem count {p:Array Nat} (hp:Pm n p) {Q:Nat × Array Nat→Shared→Prop} {s:Shared} (h1:1≤n) (g:G s)
  (k:∀ j p' s',1≤j→j≤n→Pm n p'→Up lt p' j→G s'→Q (j,p') s'):(kas_count n p).kasWp cmp Q s:=by
 unfold kas_count
 rw [KasT.kasWp_bind]
 refine asc o hc hp (n - 1) 1 s (Nat.le_refl _) (by omega) (fun a b _ _=>by omega) g fun m s' a1 a2 a3 a4 a5=>?_
 by_cases e:m=n
 ·rw [if_pos (by simp [e])]
  exact k m p s' a1 (by omega) hp a3 a5
 ·rw [if_neg (by simp [e])]
  by_cases e1:m > 1
  ·rw [if_pos e1]
   refine hc _ _ _ s' (hp.below (by omega)) (hp.below (by omega)) (hp.ne (by omega) (by omega) (by omega)) a5 fun s'' g''=>?_
   dsimp only
   rw [if_pos (a3 0 (m - 1) (by omega) (by omega))]
   exact k m p s'' a1 (by omega) hp a3 g''
  ·rw [if_neg e1]
   have em:m=1:=by omega
   subst em
   have hl:lt (p.getD 1 0) (p.getD 0 0)=true:=by
    rcases a4 with z | z
    ·omega
    ·exact z
   unfold kas_descPart
   rw [KasT.kasWp_bind]
   refine Zoq o hc hp (n - 2) 2 s' (by omega) (by omega) (fun a b hab hb=>?_) a5 fun j s'' b1 b2 b3 b4=>?_
   ·have ea:a=0:=by omega
    have eb:b=1:=by omega
    rw [ea,eb]
    exact hl
   ·rw [if_neg (show ¬ ((p,j,0):Array Nat × Nat × Nat).2.2 > 0 from by simp)]
    exact Znu o hc hp (by show 1≤j; omega) (by show j≤n; omega) b3 b4 k
theorem place {p:Array Nat} (hp:Pm n p) {k:Nat} (hk:k < n) {Q:Nat→Shared→Prop}:∀ (f l r:Nat) (s:Shared),l≤r→r≤k→r - l≤f→G s →
  (∀ a,a < l→lt (p.getD a 0) (p.getD k 0)=true)→(∀ a,r≤a→a < k→lt (p.getD k 0) (p.getD a 0)=true)→Up lt p k →
  (∀ l s',l≤k→(∀ a,a < l→lt (p.getD a 0) (p.getD k 0)=true)→(∀ a,l≤a→a < k→lt (p.getD k 0) (p.getD a 0)=true)→G s'→Q l s')→(kas_place p k f l r).kasWp cmp Q s
 | 0,l,r,s,h1,h2,h3,g,b1,b2,hu,q=>q l s (by omega) b1 (fun a h=>b2 a (by omega)) g
 | f + 1,l,r,s,h1,h2,h3,g,b1,b2,hu,q=>by
  unfold kas_place
  by_cases e:l ≥ r
  ·rw [if_pos e]
   exact q l s (by omega) b1 (fun a h=>b2 a (by omega)) g
  ·rw [if_neg e]
   refine hc _ _ _ s (hp.below (by omega)) (hp.below (by omega)) (hp.ne (by omega) (by omega) (by omega)) g fun s' g'=>?_
   by_cases c:lt (p.getD k 0) (p.getD ((l + r) / 2) 0)=true
   ·dsimp only
    rw [if_pos c]
    refine place hp hk f l ((l + r) / 2) s' (by omega) (by omega) (by omega) g' b1 (fun a h1 h2=>?_) hu q
    by_cases ea:a=(l + r) / 2
    ·rw [ea]; exact c
    ·exact o.tr _ _ _ c (hu _ _ (by omega) h2)
   ·dsimp only
    rw [if_neg c]
    have c':=other o hp (by omega) (by omega) (by omega) c
    refine place hp hk f ((l + r) / 2 + 1) r s' (by omega) (by omega) (by omega) g' (fun a h1=>?_) b2 hu q
    by_cases ea:a=(l + r) / 2
    ·rw [ea]; exact c'
    ·exact o.tr _ _ _ (hu _ _ (by omega) (by omega)) c'
theorem bin {Q:Array Nat→Shared→Prop} (hQ:∀ p s',Pm n p→Up lt p n→G s'→Q p s'):∀ (f:Nat) (p:Array Nat) (k:Nat) (s:Shared),k + f=n→Pm n p→Up lt p k→G s→(kas_bin f p k).kasWp cmp Q s
 | 0,p,k,s,h,hp,hu,g=>hQ p s hp ((show k=n from h) ▸ hu) g
 | f + 1,p,k,s,h,hp,hu,g=>by
  unfold kas_bin
  rw [KasT.kasWp_bind]
  refine place o hc hp (by omega) k 0 k s (Nat.zero_le _) (Nat.le_refl _) (by omega) g (fun a h=>by omega) (fun a h1 h2=>by omega) hu fun l s' hl b1 b2 g'=>?_
  have hs:k < p.size:=by rw [hp.size]; omega
  have at':∀ j,(bubble p k (k - l)).getD j 0=if j=l then p.getD k 0 else if l < j∧j≤k then p.getD (j - 1) 0 else p.getD j 0:=fun j=>by
   simp only [Array.getD_eq_getD_getElem?]
   rw [getElem?_bubble hs (k - l) (by omega) j,show k - (k - l)=l by omega]
   by_cases q1:j=l
   ·rw [if_pos q1,if_pos q1]
   ·rw [if_neg q1,if_neg q1]
    by_cases q2:l < j∧j≤k
    ·rw [if_pos q2,if_pos q2]
    ·rw [if_neg q2,if_neg q2]
  refine bin hQ f _ (k + 1) s' (by omega) ⟨by rw [bubble_size,hp.size],(bubble_perm _ _ _).trans hp.perm⟩ (fun a b hab hb=>?_) g'
  rw [at',at']
  by_cases e1:a=l
  ·rw [if_pos e1,if_neg (by omega),if_pos (by omega)]
   exact b2 _ (by omega) (by omega)
  ·rw [if_neg e1]
   by_cases e2:l < a∧a≤k
   ·rw [if_pos e2,if_neg (by omega),if_pos (by omega)]
    exact hu _ _ (by omega) (by omega)
   ·rw [if_neg e2]
    by_cases e3:b=l
    ·rw [if_pos e3]
     exact b1 _ (by omega)
    ·rw [if_neg e3]
     by_cases e4:l < b∧b≤k
     ·rw [if_pos e4]
      by_cases e5:a=b - 1
      ·exact absurd e5 (by omega)
      ·exact hu _ _ (by omega) (by omega)
     ·rw [if_neg e4]
      exact hu _ _ hab (by omega)
theorem sort {Q:Array Nat→Shared→Prop} {s:Shared} (h1:1≤n) (g:G s) (hQ:∀ p s',Pm n p→Up lt p n→G s'→Q p s'):(kas_sort n).kasWp cmp Q s:=by
 unfold kas_sort
 rw [KasT.kasWp_bind]
 refine count o hc ⟨by simp,Array.Perm.refl _⟩ h1 g fun j p' s' a1 a2 a3 a4 a5=>?_
 by_cases e:j < n
 ·dsimp only
  rw [if_pos e,Nat.max_eq_left a1]
  exact bin o hc hQ _ p' j s' (by omega) a3 a4 a5
 ·dsimp only
  rw [if_neg e]
  exact hQ p' s' a3 ((show j=n by omega) ▸ a4) a5
end
end Srt
namespace L2
open PySem PySem.Spec PyProof.Rows PySem.W
def Zob (h:Heap) (v:Value) (x:Str):Prop:=∃ a t y,v = .ref a∧h.get? a=some { cls:=.type "tuple",data:=.seq #[.str x t,y] }
def ltX (xs:List Str) (i j:Nat):Bool:=decide ((xs.getD i "").cps.toList < (xs.getD j "").cps.toList)
theorem YA {xs:List Str} {i:Nat} (h:i < xs.length):xs.getD i "" = xs[i]:=by
 rw [List.getD_eq_getElem?_getD,List.getElem?_eq_getElem h]
 rfl
theorem Zdw {xs:List Str} (nd:xs.Nodup):Srt.Ord xs.length (ltX xs) where
 tr:=fun i j k h1 h2=>by
  unfold ltX at *
  rw [decide_eq_true_eq] at *
  exact List.lt_trans h1 h2
 asy:=fun i j h1=>by
  unfold ltX at *
  rw [decide_eq_true_eq] at h1
  exact decide_eq_false (List.lt_asymm h1)
 tot:=fun i j hi hj hij=>by
  unfold ltX
  rw [YA hi,YA hj,decide_eq_true_eq,decide_eq_true_eq]
  by_cases q:xs[i].cps.toList < xs[j].cps.toList
  ·exact .inl q
  ·by_cases q2:xs[j].cps.toList < xs[i].cps.toList
   ·exact .inr q2
   ·have e:=List.le_antisymm (List.not_lt.mp q2) (List.not_lt.mp q)
    have e2:xs[i]=xs[j]:=by rw [← tx_eta xs[i],← tx_eta xs[j],e]
    exact absurd ((List.getElem_inj nd).mp e2) hij
theorem ZaJ {h:Heap}:∀ {vs:List Value} {xs:List Str},xs.length=vs.length→(∀ (i:Nat) (v:Value) (x:Str),vs[i]?=some v→xs[i]?=some x→Zob h v x)→∃ fs,KatTups h vs fs∧fs.length=vs.length∧∀ f∈fs,∃ x t,f = .str x t
 | [],[],_,_=>⟨[],trivial,rfl,fun f hf=>nomatch hf⟩
 | [],_ :: _,h,_=>by cases h
 | _ :: _,[],h,_=>by cases h
 | v :: vs,x :: xs,hl,hv=>by
  obtain ⟨a,t,y,rfl,ha⟩:=hv 0 v x rfl rfl
  obtain ⟨fs,k,l,q⟩:=ZaJ (vs:=vs) (xs:=xs) (by simpa using hl) fun i v x e1 e2=>hv (i + 1) v x e1 e2
  refine ⟨.str x t :: fs,KatTups.cons ha rfl rfl rfl k,by simp [l],fun f hf=>?_⟩
  rcases List.mem_cons.mp hf with z | z
  ·exact ⟨x,t,z⟩
  ·exact q f z
section
variable {prog:Program} {w:World} {A:Around} {E:Value→Shared→Prop} {s:Shared}
theorem Zft {a:Addr} {vs:List Value} {xs:List Str} {n:Nat} {P:PySem.Fin→Shared→Prop} (ho:s.heap.get? a=some (seqObj "list" vs.toArray n)) (h64:vs.length < 64) (hl:xs.length=vs.length) (nd:xs.Nodup)
  (hv:∀ (i:Nat) (v:Value) (x:Str),vs[i]?=some v→xs[i]?=some x→Zob s.heap v x)
  (h:∀ (h1:Heap) (tk c:Nat) (p:Array Nat),Srt.Pm xs.length p→Srt.Up (ltX xs) p xs.length→(∀ b o,b≠a→s.heap.get? b=some o→h1.get? b=some o) →
   h1.get? a=some (seqObj "list" (p.toList.map fun i=>vs.getD i Value.none).toArray c)→P (.done (.ret .none)) { s with heap:=h1,toks:=tk }) :
  wpAny (model prog w) A (Builtin.«list.sort» ⟨[.ref a],[]⟩) P E s:=by
 have ha:a < s.heap.objs.size:=Heap.lt_size ho
 have hz:vs.length≤sizeLine:=by rw [sizeLine_eq]; omega
 rw [list_sort_plain]
 refine wpAny_bind (listItems_at ho rfl (wpAny_bind (listUpdate_at ho rfl ?_ (by rw [List.size_toArray]; exact hz) (Nat.zero_le _))))
 obtain ⟨e1,ho1⟩:∃ e1,(s.heap.update a (Obj.mapSeq fun _=>(#[]:Array Value))).get? a=some (seqObj "list" #[] e1):=⟨_,get?_update_seq ho fun _=>#[]⟩
 have k1:∀ b o,b≠a→s.heap.get? b=some o→(s.heap.update a (Obj.mapSeq fun _=>(#[]:Array Value))).get? b=some o:=fun b o hb q=>(Heap.get?_update_other _ _ (Ne.symm hb)).trans q
 refine wpAny_bind (seqEpoch_at ho1 rfl (wpAny_bind (wpAny_newTuple ?_ (by show vs.length≤_; exact hz))))
 refine wpAny_bind (wpAny_newList ?_ (Nat.zero_le _))
 refine wpAny_holding ?_
 generalize hg:((s.heap.update a (Obj.mapSeq fun _=>(#[]:Array Value))).push { cls:=.type "tuple",data:=.seq vs.toArray.toList.toArray }).push { cls:=.type "list",data:=.seq ([]:List Value).toArray }=h6
 have k6:∀ b o,b≠a→s.heap.get? b=some o→h6.get? b=some o:=fun b o hb q=>by
  rw [← hg]
  exact Heap.get?_push_of_some _ (Heap.get?_push_of_some _ (k1 b o hb q))
 have ho6:h6.get? a=some (seqObj "list" #[] e1):=by
  rw [← hg]
  exact Heap.get?_push_of_some _ (Heap.get?_push_of_some _ ho1)
 have hv6:∀ (i:Nat) (v:Value) (x:Str),vs[i]?=some v→xs[i]?=some x→Zob h6 v x:=fun i v x q1 q2=>by
  obtain ⟨b,t,y,rfl,hb⟩:=hv i v x q1 q2
  exact ⟨b,t,y,rfl,k6 b _ (fun z=>by rw [z,ho] at hb; injection hb with hb; exact absurd (congrArg Obj.cls hb) (by unfold seqObj; simp)) hb⟩
 show wpAny (model prog w) A _ P E { s with heap:=h6 }
 dsimp only
 -- the end: the items are put back
 have fin:∀ (tk:Nat) (p:Array Nat) (out:Array Value),Srt.Pm xs.length p→Srt.Up (ltX xs) p xs.length→out=(p.toList.map fun i=>vs.getD i Value.none).toArray →
   ∃ c,(h6.update a (Obj.mapSeq fun _=>out)).get? a=some (seqObj "list" out c)∧out.size≤sizeLine∧P (.done (.ret .none)) { s with heap:=h6.update a (Obj.mapSeq fun _=>out),toks:=tk }:=fun tk p out hp hu ho'=>by
  have hc:=get?_update_seq ho6 fun _=>out
  refine ⟨_,hc,?_,h _ tk _ p hp hu (fun b o hb q=>(Heap.get?_update_other _ _ (Ne.symm hb)).trans (k6 b o hb q)) (by rw [← ho']; exact hc)⟩
  rw [ho',List.size_toArray,List.length_map,Array.length_toList,hp.size,hl]
  exact hz
 by_cases h2:vs.toArray.size < 2
 ·rw [if_pos h2,if_pos h2]
  rw [List.size_toArray] at h2
  have hr:vs.toArray=((List.range xs.length).toArray.toList.map fun i=>vs.getD i Value.none).toArray:=by
   congr 1
   apply List.ext_getElem?
   intro i
   simp only [List.getElem?_map]
   by_cases hi:i < vs.length
   ·rw [List.getElem?_eq_getElem hi,List.getElem?_range (by omega),Option.map_some,List.getD_eq_getElem?_getD,List.getElem?_eq_getElem hi]
    rfl
   ·rw [List.getElem?_eq_none (by omega),List.getElem?_eq_none (by simp; omega)]
    rfl
  obtain ⟨c,f1,f2,f3⟩:=fin s.toks (List.range xs.length).toArray vs.toArray ⟨by simp,Array.Perm.refl _⟩ (fun a b hab hb=>by omega) hr
  refine wpAny_bind (wpAny_pure ?_)
  rw [StateT.run_pure]
  refine wpAny_bind (wpAny_pure ?_)
  have eo:(arrOf (SortSt.mk' general' (vs.toArray.zip vs.toArray) #[] 7 none)).map (·.2)=vs.toArray:=by
   show (vs.toArray.zip vs.toArray).map (·.2)=vs.toArray
   apply Array.toList_inj.mp
   simp
   exact List.map_snd_zip (Nat.le_refl _)
  dsimp only
  rw [eo]
  refine wpAny_bind (seqEpoch_at ho6 rfl (wpAny_bind (listUpdate_at ho6 rfl ?_ (Nat.zero_le _) (Nat.le_succ_of_le f2))))
  simp only [bne_self_eq_false,Bool.false_eq_true,if_false]
  exact wpAny_pure f3
 ·rw [if_neg h2,if_neg h2]
  rw [List.size_toArray] at h2
  obtain ⟨fs,kt,lf,hf⟩:=ZaJ hl hv6
  refine wpAny_bind (kat_kind (T:=.type "str") kt (by omega) (fun f m=>?_) (by decide) ?_)
  ·obtain ⟨x,t,rfl⟩:=hf f m
   exact Looks.of_pure rfl
  refine wpAny_bind (wpAny_mono (kat_run (κ:=tuples' ((Value.type "str") != Value.type "tuple")) (ks:=vs) (vs:=vs) (G:=fun p s'=>(∃ tk,s'={ s with heap:=h6,toks:=tk })∧Srt.Pm xs.length p∧Srt.Up (ltX xs) p xs.length)
   (Q:=fun st' s'=>∃ p:Array Nat,arrOf st'=p.map (kas_item (vs.toArray.zip vs.toArray))∧failedOf st'=none∧(∃ tk,s'={ s with heap:=h6,toks:=tk })∧Srt.Pm xs.length p∧Srt.Up (ltX xs) p xs.length)
   rfl (by omega) h64 (fun p st' s' _ a2 a3 a4=>⟨p,a2,a3,a4⟩) ?_) ?_ fun _ _ e=>e)
  ·rw [← hl]
   refine Srt.sort (G:=fun s'=>∃ tk,s'={ s with heap:=h6,toks:=tk }) (Zdw nd) (fun i j C s' hi hj hij g k=>?_) (by omega) ⟨s.toks,rfl⟩ fun p s' hp hu g=>⟨g,hp,hu⟩
   obtain ⟨tk,rfl⟩:=g
   have hi':i < vs.length:=by omega
   have hj':j < vs.length:=by omega
   obtain ⟨b1,t1,y1,e1,g1⟩:=hv6 i vs[i] xs[i] (List.getElem?_eq_getElem hi') (List.getElem?_eq_getElem hi)
   obtain ⟨b2,t2,y2,e2,g2⟩:=hv6 j vs[j] xs[j] (List.getElem?_eq_getElem hj') (List.getElem?_eq_getElem hj)
   have n1:vs.getD i Value.none = .ref b1:=by rw [List.getD_eq_getElem?_getD,List.getElem?_eq_getElem hi']; exact e1
   have n2:vs.getD j Value.none = .ref b2:=by rw [List.getD_eq_getElem?_getD,List.getElem?_eq_getElem hj']; exact e2
   have hne:¬ xs[i]=xs[j]:=fun z=>hij ((List.getElem_inj nd).mp z)
   show wpAny (model prog w) A (keyLt' _ (vs.getD i Value.none) (vs.getD j Value.none)) C (fun _ _=>False) { s with heap:=h6,toks:=tk }
   rw [n1,n2]
   refine kat_lt (s:={ s with heap:=h6,toks:=tk }) g1 rfl g2 rfl (kat_cons (wpAny_eqBool_str ?_))
   rw [decide_eq_false hne]
   refine kat_no ?_
   refine kas_lt_str ?_
   have el:decide (xs[i].cps.toList < xs[j].cps.toList)=ltX xs i j:=by
    unfold ltX
    rw [YA hi,YA hj]
   rw [el]
   exact k _ ⟨tk,rfl⟩
  ·rintro ⟨⟨⟩,st'⟩ s' ⟨p,har,hf',⟨tk,rfl⟩,hp,hu⟩
   obtain ⟨c,f1,f2,f3⟩:=fin tk p _ hp hu rfl
   dsimp only
   rw [kat_snds rfl har]
   refine wpAny_bind (seqEpoch_at (s:={ s with heap:=h6,toks:=tk }) ho6 rfl (wpAny_bind (listUpdate_at (s:={ s with heap:=h6,toks:=tk }) ho6 rfl ?_ (Nat.zero_le _) (Nat.le_succ_of_le f2))))
   rw [hf']
   simp only [bne_self_eq_false,Bool.false_eq_true,if_false]
   exact wpAny_pure f3
end
theorem ObjOk.there' {P:Program} {w:World} {H:Hp} {h:Heap} {a:Addr} {o:HO} (x:ObjOk P w H h a o):∃ u,h.get? a=some u:=by
 cases o with
 | lst xs=>obtain ⟨_,_,_,_,e⟩:=x; exact ⟨_,e⟩
 | tup xs=>obtain ⟨_,_,_,⟨_,e,_⟩,_⟩:=x; exact ⟨_,e⟩
 | dK kvs=>obtain ⟨_,_,_,_,o,_,_,e,_⟩:=x; exact ⟨_,e⟩
 | dT kvs=>obtain ⟨_,_,_,_,o,_,_,e,_⟩:=x; exact ⟨_,e⟩
 | set S n=>obtain ⟨o,_,_,_,e,_⟩:=x; exact ⟨_,e⟩
 | ins C dx fs=>obtain ⟨_,_,_,e,_⟩:=x; exact ⟨_,e⟩
 | own y=>exact x
 | xd fs=>obtain ⟨_,⟨_,_,_,e,_⟩,_⟩:=x; exact ⟨_,e⟩
 | rng lo hi=>obtain ⟨_,_,_,e⟩:=x; exact ⟨_,e⟩
 | frz ob u=>obtain ⟨e,_⟩:=x; exact ⟨_,e⟩
 | tbl ps=>exact ⟨_,show h.get? a=some _ from x⟩
 | met f y=>exact ⟨_,show h.get? a=some _ from x⟩
 | ext φ=>obtain ⟨_,e,_⟩:=x; exact e
section
variable {X:Cx} {pins:List (Addr × Obj)} {σ:St} {H:Hp} {s:Shared}
theorem Inv.laidN {N:Addr→Option HO} {h1:Heap} {tk:Nat} (I:Inv X pins σ H s) (k:∀ b u,s.heap.get? b=some u→h1.get? b=some u) (hN:∀ a o,N a=some o→s.heap.get? a=none∧∀ H2,ObjOk X.prog X.w H2 h1 a o) :
  Inv X pins σ (fun b=>(N b).or (H b)) { s with heap:=h1,toks:=tk }:=by
 have low:∀ b u,s.heap.get? b=some u→N b=none:=fun b u hb=>by
  cases q:N b with
  | none=>rfl
  | some o=>rw [(hN b o q).1] at hb; cases hb
 have old:∀ b u,H b=some u→(N b).or (H b)=some u:=fun b u q=>by
  obtain ⟨v,hv⟩:=(I.hok b u q).there'
  rw [low b v hv,Option.none_or]
  exact q
 refine I.un ⟨fun b o q _ _ _=>k b o q,fun b o q _ _ _=>⟨o.slots,k b o q⟩,fun b o q n _=>?_,fun b o q _=>⟨o,k b o q⟩,fun b xs q=>old b _ q,fun b o u q=>old b _ q,fun b ps q=>⟨#[],by rw [old b _ q]; simp⟩⟩ fun a o q=>?_
 ·show (N b).or (H b)=none
  rw [low b o q,Option.none_or]
  exact n
 ·cases e:N a with
  | some u =>
   rw [e,Option.some_or] at q
   cases q
   exact (hN a o e).2 _
  | none =>
   rw [e,Option.none_or] at q
   exact (I.hok a o q).stay (fun b u _ z=>k b u z) (fun b z=>old b _ z) fun b xs z=>old b _ z
end
def ivO (p d:Addr):HO:=.ext fun h=>h.IsItemsView p d
theorem Zi8 {X:Cx}:MtR X "dict.items" (fun x vs H Q=>∃ d kvs,x = .ref d∧vs=[]∧H d=some (.dK kvs)∧∀ p,H p=none→Q (.ref p) (upd H p (ivO p d))):=by
 intro pins s σ H x vs v us Q I rx rv h
 obtain ⟨d,kvs,rfl,rfl,hd,q⟩:=h
 cases rx
 cases rv
 obtain ⟨hz,lo,vs',kv,dd⟩:=ZfD I.hok hd
 refine call_meetsIn PySem.F.slot_dict_items dd.typeIs PySem.F.entry_dict_items (PySem.F.args_dict_items_1 _) (meets_dict_items (Zn X.prog X.w) d lo) ⟨⟨_,dd⟩,?_⟩
 refine ⟨.ref s.heap.objs.size,_,I.laid (t':=s.toks) (o:=ivO s.heap.objs.size d) (fun b u e=>Heap.get?_push_of_some _ e) (Nat.le_refl _) ?_,rfl,q _ (I.hok.fresh (Nat.le_refl _))⟩
 refine ⟨⟨_,Heap.get?_push_size _ rfl,rfl,rfl⟩,⟨_,Heap.get?_push_size _ rfl⟩,fun h1 h2 ⟨o,e,r⟩ k=>⟨o,k o e,r⟩⟩
theorem ZgY (ks:List Str) (p:Array Nat) (hp:Srt.Pm ks.length p):(p.toList.map fun i=>ks.getD i "").Perm ks:=by
 have h1:=(Array.perm_iff_toList_perm.mp hp.perm).map fun i=>ks.getD i ""
 have h2:((List.range ks.length).toArray.toList.map fun i=>ks.getD i "")=ks:=by
  apply List.ext_getElem?
  intro i
  simp only [List.getElem?_map]
  by_cases hi:i < ks.length
  ·rw [List.getElem?_range hi,List.getElem?_eq_getElem hi,Option.map_some,YA hi]
  ·rw [List.getElem?_eq_none (by simp; omega),List.getElem?_eq_none (by omega)]
   rfl
 rw [h2] at h1
 exact h1
theorem YT {X:Cx} (hc:X.calm=true):CallR X (.builtin "sorted") (fun xs H Q=>∃ (p d:Addr) (ks:List Str) (g:Str→V),xs=[.ref p]∧H p=some (ivO p d)∧H d=some (.dK (ks.map fun x=>((Sum.inr x:Key),g x)))∧ks.Nodup∧ks.length < 64 ∧
  ∀ (D:Addr) (H1:Hp) (vs:List V) (ss:List Str),Same H H1→ss.Perm ks→(ss.map fun x=>x.cps.toList).Pairwise (· < ·)→H1 D=some (.lst vs)→vs.length=ss.length →
   (∀ (i:Nat) (x:Str),ss[i]?=some x→∃ b,vs[i]?=some (.ref b)∧H1 b=some (.tup [.str x,g x]))→Q (.ref D) H1):=by
 intro pins s σ H xs us Q I r h
 obtain ⟨p,d,ks,g,rfl,hp,hd,nd,h64,q⟩:=h
 obtain ⟨u,rfl,ru⟩:=Xu r
 cases ru
 have hview:s.heap.IsItemsView p d:=(I.hok p _ hp).1
 obtain ⟨hz,lo,vs',kv,dd⟩:=ZfD I.hok hd
 obtain ⟨ep,hat⟩:=dd.dictAt
 have hlen:ks.length=vs'.length:=by have:=kv.length; simpa using this
 have hsz:vs'.length≤sizeLine:=by rw [sizeLine_eq]; omega
 refine Calls.call_function_entry kind_sorted plain_sorted entry_sorted (args_sorted1 _) ?_
 unfold Builtin.«sorted»
 refine wpAny_bind (m:=checkCount "sorted" 1 1 _) (wpAny_pure ?_)
 refine wpAny_bind (kdx_collect (A:=X.A.in1) (knd:=Zn X.prog X.w) (kvs:=vs') (ep:=ep) (I.ok.hd hc) hview hat hsz fun h1 tk as hk hl hG=>?_)
 refine wpAny_bind (wpAny_newList ?_ (by rw [List.length_map,hl]; exact hsz))
 have pr:∀ (i:Nat),i < ks.length→∃ a t y,as[i]?=some a∧RelV (g (ks.getD i "")) y∧h1.get? a=some { cls:=.type "tuple",data:=.seq #[.str (ks.getD i "") t,y] }:=fun i hi=>by
  have hi2:i < as.length:=by omega
  obtain ⟨key,k,x,e1,e2,e3⟩:=hG.pairs i as[i] (List.getElem?_eq_getElem hi2)
  have ek:=congrArg (fun l:List Key=>l[i]?) kv.keys
  simp only [List.getElem?_map] at ek
  rw [e1,List.getElem?_eq_getElem hi] at ek
  have ek':(Sum.inr ks[i]:Key)=k:=Option.some.inj ek
  have ev:RelV (g ks[i]) x:=by
   have key:∀ {l1:List (Key × V)} {l2:List (Key × Value)} (i:Nat) (p:Key × V) (q:Key × Value),Paired (fun (p:Key × V) (q:Key × Value)=>p.1=q.1∧RelV p.2 q.2) l1 l2→l1[i]?=some p→l2[i]?=some q→RelV p.2 q.2:=by
    intro l1 l2 i p q hP
    induction hP generalizing i with
    | nil=>intro e; simp at e
    | cons r t ih =>
     intro e1 e2
     cases i with
     | zero =>
      simp at e1 e2
      subst e1 e2
      exact r.2
     | succ i=>exact ih i (by simpa using e1) (by simpa using e2)
   exact key i (Sum.inr ks[i],g ks[i]) (k,x) kv (by rw [List.getElem?_map,List.getElem?_eq_getElem hi]; rfl) e1
  subst ek'
  rcases keyIs_shape (show J8 (Sum.inr ks[i]) key=true from e2) with ⟨j,t,e4,_⟩ | ⟨z,t,e4,e5⟩
  ·cases e4
  ·injection e4 with e4
   subst e4
   refine ⟨as[i],t,x,List.getElem?_eq_getElem hi2,by rw [YA hi]; exact ev,?_⟩
   rw [e3,e5,YA hi]
 have hB:(h1.push { cls:=.type "list",data:=.seq (as.map Value.ref).toArray }).get? h1.objs.size=some (seqObj "list" (as.map Value.ref).toArray 0):=Heap.get?_push_size _ rfl
 refine wpAny_bind (wpAny_holding (wpAny_call_entry slot_list_sort ⟨_,hB,rfl⟩ entry_list_sort ?body (args_list_sort _)))
 refine Zft (s:={ s with heap:=h1.push { cls:=.type "list",data:=.seq (as.map Value.ref).toArray },toks:=tk }) (xs:=ks) hB (by rw [List.length_map]; omega) (by rw [List.length_map]; omega) nd (fun i v x e1 e2=>?_) fun h3 tk3 c pm hpm hup hkeep hD=>⟨_,rfl,wpAny_pure ⟨_,rfl,?_⟩⟩
 ·have hi:i < ks.length:=(List.getElem?_eq_some_iff.mp e2).1
  obtain ⟨a,t,y,f1,_,f3⟩:=pr i hi
  rw [List.getElem?_map,f1] at e1
  cases e1
  have ex:ks.getD i "" = x:=by rw [List.getD_eq_getElem?_getD,e2]; rfl
  rw [ex] at f3
  exact ⟨a,t,y,rfl,Heap.get?_push_of_some _ f3⟩
 ·have hold:∀ b u,s.heap.get? b=some u→h3.get? b=some u:=fun b u e=>hkeep b u (Nat.ne_of_lt (Heap.lt_size (hk b u e))) (Heap.get?_push_of_some _ (hk b u e))
  have hDn:s.heap.get? h1.objs.size=none:=by
   cases z:s.heap.get? h1.objs.size with
   | none=>rfl
   | some u=>exact absurd (Heap.lt_size (hk _ u z)) (Nat.lt_irrefl _)
  have tup3:∀ (i:Nat),i < ks.length→∃ a t y,as[i]?=some a∧RelV (g (ks.getD i "")) y∧s.heap.get? a=none∧a≠h1.objs.size∧h3.get? a=some { cls:=.type "tuple",data:=.seq #[.str (ks.getD i "") t,y] }:=fun i hi=>by
   obtain ⟨a,t,y,f1,f2,f3⟩:=pr i hi
   have ne:a≠h1.objs.size:=Nat.ne_of_lt (Heap.lt_size f3)
   exact ⟨a,t,y,f1,f2,Heap.get?_none_of_le (Nat.le_of_lt (hG.above a (List.mem_of_getElem? f1))),ne,hkeep a _ ne (Heap.get?_push_of_some _ f3)⟩
  have asnd:as.Nodup:=hG.rise.imp fun {a b} z e=>by subst e; exact Nat.lt_irrefl _ z
  let N:Addr→Option HO:=fun b=>if b=h1.objs.size then some (.lst (pm.toList.map fun i=>V.ref (as.getD i 0))) else (as.idxOf? b).map fun i=>.tup [.str (ks.getD i ""),g (ks.getD i "")]
  have hND:N h1.objs.size=some (.lst (pm.toList.map fun i=>V.ref (as.getD i 0))):=if_pos rfl
  have hNt:∀ (i:Nat),i < ks.length→∃ a,as[i]?=some a∧N a=some (.tup [.str (ks.getD i ""),g (ks.getD i "")]):=fun i hi=>by
   obtain ⟨a,t,y,f1,f2,f3,f4,f5⟩:=tup3 i hi
   refine ⟨a,f1,?_⟩
   show (if a=h1.objs.size then _ else _)=_
   rw [if_neg f4]
   have hi2:i < as.length:=(List.getElem?_eq_some_iff.mp f1).1
   have e:as.idxOf? a=some i:=by
    rw [List.idxOf?_eq_some_iff]
    refine ⟨hi2,by rw [List.getElem?_eq_getElem hi2] at f1; simpa using Option.some.inj f1,fun j hj=>?_⟩
    intro z
    have e1:as[j]'(by omega)=as[i]:=by rw [List.getElem?_eq_getElem hi2] at f1; rw [Option.some.inj f1]; simpa using z
    exact absurd ((List.getElem_inj asnd).mp e1) (by omega)
   rw [e]
   rfl
  have hNall:∀ a o,N a=some o→s.heap.get? a=none∧∀ H2,ObjOk X.prog X.w H2 h3 a o:=fun a o e=>by
   by_cases ha:a=h1.objs.size
   ·subst ha
    rw [hND] at e
    cases e
    refine ⟨hDn,fun H2=>⟨?_,pm.toList.map (fun i=>Value.ref (as.getD i 0)),c,?_,?_⟩⟩
    ·rw [List.length_map,Array.length_toList,hpm.size,sizeLine_eq]
     omega
    ·have gen:∀ l:List Nat,Vals (l.map fun i=>V.ref (as.getD i 0)) (l.map fun i=>Value.ref (as.getD i 0)):=by
      intro l
      induction l with
      | nil=>exact .nil
      | cons i l ih=>exact .cons rfl ih
     exact gen _
    ·rw [hD]
     have el:(List.map (fun i=>(List.map Value.ref as).getD i Value.none) pm.toList)=pm.toList.map fun i=>Value.ref (as.getD i 0):=by
      refine List.map_congr_left fun i hi=>?_
      have hi':i < as.length:=by
       have:i∈pm:=by simpa using hi
       have:=hpm.perm.mem_iff.mp this
       have:i < ks.length:=by simpa using this
       omega
      rw [List.getD_eq_getElem?_getD,List.getElem?_map,List.getElem?_eq_getElem hi',List.getD_eq_getElem?_getD,List.getElem?_eq_getElem hi']
      rfl
     rw [el]
   ·have e':(as.idxOf? a).map (fun i=>HO.tup [.str (ks.getD i ""),g (ks.getD i "")])=some o:=by
     have:(if a=h1.objs.size then some (HO.lst (pm.toList.map fun i=>V.ref (as.getD i 0))) else (as.idxOf? a).map fun i=>HO.tup [.str (ks.getD i ""),g (ks.getD i "")])=some o:=e
     rw [if_neg ha] at this
     exact this
    cases hx:as.idxOf? a with
    | none=>rw [hx] at e'; cases e'
    | some i =>
     rw [hx] at e'
     cases e'
     obtain ⟨hi,hai,_⟩:=List.idxOf?_eq_some_iff.mp hx
     have hi':i < ks.length:=by omega
     obtain ⟨a',t,y,f1,f2,f3,f4,f5⟩:=tup3 i hi'
     rw [List.getElem?_eq_getElem hi] at f1
     have ea:a=a':=by rw [← Option.some.inj f1]; simpa using hai.symm
     subst ea
     refine ⟨f3,fun H2=>⟨by show 2≤sizeLine; rw [sizeLine_eq]; decide,[.str (ks.getD i "") t,y],.cons ⟨t,rfl⟩ (.cons f2 .nil),⟨⟨_,f5,rfl,_,rfl⟩,fun o e=>by rw [f5] at e; cases e; rfl⟩⟩⟩
  refine ⟨.ref h1.objs.size,_,I.laidN (N:=N) (tk:=tk3) hold hNall,rfl,?_⟩
  have hsame:Same H fun b=>(N b).or (H b):=fun b u e=>by
   obtain ⟨v,hv⟩:=(I.hok b u e).there'
   have:N b=none:=by
    cases z:N b with
    | none=>rfl
    | some o=>rw [(hNall b o z).1] at hv; cases hv
   show (N b).or (H b)=some u
   rw [this,Option.none_or]
   exact e
  refine q _ _ (pm.toList.map fun i=>V.ref (as.getD i 0)) (pm.toList.map fun i=>ks.getD i "") hsame (ZgY ks pm hpm) ?_ (by rw [hND]; rfl) (by rw [List.length_map,List.length_map]) fun i x e=>?_
  ·rw [List.map_map,List.pairwise_map,List.pairwise_iff_getElem]
   intro i j hi hj hij
   have hz2:pm.toList.length=ks.length:=by rw [Array.length_toList,hpm.size]
   have hu:=hup i j hij (by omega)
   unfold ltX at hu
   rw [decide_eq_true_eq] at hu
   have g1:pm.getD i 0=pm.toList[i]:=by rw [Array.getD_eq_getD_getElem?,Array.getElem?_eq_getElem (by simpa using hi)]; simp
   have g2:pm.getD j 0=pm.toList[j]:=by rw [Array.getD_eq_getD_getElem?,Array.getElem?_eq_getElem (by simpa using hj)]; simp
   rw [g1,g2] at hu
   exact hu
  ·rw [List.getElem?_map] at e
   cases ep:pm.toList[i]? with
   | none=>rw [ep] at e; cases e
   | some k =>
    rw [ep] at e
    have ex:ks.getD k "" = x:=Option.some.inj e
    have hkm:k∈pm:=by simpa using List.mem_of_getElem? ep
    have hkl:k < ks.length:=by simpa using hpm.perm.mem_iff.mp hkm
    obtain ⟨a,f1,f2⟩:=hNt k hkl
    refine ⟨a,?_,?_⟩
    ·rw [List.getElem?_map,ep,Option.map_some,List.getD_eq_getElem?_getD,f1]
     rfl
    ·show (N a).or (H a)=_
     rw [f2,Option.some_or,ex]
def Zma (td:TE):TE:=fun σ H Q=>td σ H fun x H1=>∃ d kvs,x = .ref d∧H1 d=some (.dK kvs)∧∀ p,H1 p=none→Q (.ref p) (upd H1 p (ivO p d))
theorem Zbd {X:Cx} {o:Expr} {apos cpos:Pos} {td:TE} (ho:PE X o td) (hbase:attributeBase o "items" X.env (eval o X.env)=eval o X.env:=by rfl) (hline:(apos.endLine == cpos.line)=true:=by rfl) :
  PE X (.Call (.Attribute o "items" apos) [] [] cpos) (Zma td):=by
 intro pins s σ H Q I h
 refine wpAny_Call_method0_late hbase hline (thn (ho pins s σ H _ I h) fun v s1 ⟨x,H1,I1,r1,d,kvs,ex,hd,q1⟩=>?_)
 subst ex
 obtain rfl:v=Value.ref d:=r1
 obtain ⟨t1,t2,_⟩:=Zcx I1 (.inl ⟨kvs,.inl hd⟩)
 exact ⟨"dict",_,PySem.F.plainAttrs_dict,PySem.F.slot_dict_items,PySem.F.type_dict_items,t1,t2,Calls.callWith_builtin rfl (PySem.evalArgs_none (Zi8 pins s1 σ H1 (.ref d) [] (.ref d) [] Q I1 rfl .nil ⟨d,kvs,rfl,rfl,hd,q1⟩))⟩
end L2
namespace L2
open PySem PySem.Spec PyProof.Rows
section
variable {X:Cx} {E:XK} {pins:List (Addr × Obj)} {σ:St} {H:Hp} {s:Shared}
end
section
variable {X:Cx} {pins:List (Addr × Obj)} {σ:St} {H:Hp} {s:Shared}
end
end L2
namespace L2
open PySem PySem.Spec PyProof.Rows PySem.W
section
variable {prog:Program} {w:World} {A:Around} {E:Value→Shared→Prop} {s:Shared} {K:Frag} {a C:Addr} {o:Obj}
end
end L2
namespace L2
open PySem PySem.Spec PyProof.Rows
theorem Y1 {X:Cx}:MtR X "list.append" ZgN:=Zcq
theorem hasDef_mk {K:PySem.W.Frag} {h:Heap} {mg:Str→Option Value} {name:Str} {st:Stmt} {ps:List Str} {f:Addr} {oc:Value} {od an:Option Addr} {sl:Array (Option Value)} {kV dc pm cd ct:Value} (X:K.In h) (G:h.Ns mainGlobals mg)
  (a:PySem.W.nsIn K mainGlobals name=some (some (.ref f))) (l:K.lookup f=some ⟨oc,od,.func (PySem.W.fnOf name name (YR st) (Yo st) (Zf st) .none kV dc pm an cd ct),sl⟩) (c:PySem.W.codeIn K cd name=true) (k:PySem.W.keepIn K (.ref f)=true)
  (hb:∀ (kV doc pm:Value) (an:Option Addr) (cdv ct:Value) (us:List Value),us.length=ps.length→bindArgs (PySem.W.fnOf name name (YR st) (Yo st) (Zf st) .none kV doc pm an cdv ct) ⟨us,[]⟩=pure (ps.zip us)):HasDef K mg name st ps :=
 ⟨_,_,ZhP (st:=st) l c k,(ZhP (st:=st) l c k).binds hb,PySem.W.mg_of X G a⟩
theorem ZbP {c:Bool} {A B:Prop} (h:c=true) (a:A):if c=true then A else B:=by rw [if_pos h]; exact a
theorem Zao {c:Bool} {A B:Prop} (h:c=false) (b:B):if c=true then A else B:=by rw [h]; exact ZmZ b
theorem ZhE {a b:Int} (h:¬ a=b):decide (V.int a=V.int b)=false:=decide_eq_false fun q=>h (by injection q)
end L2
namespace L2
open PySem PySem.Spec PyProof.Rows PySem.Builtin.Str
theorem Jo {x:Str} {i:Int} (h0:0≤i) (h1:i≤x.length):(Txt.slice x (some i) none).cps.toList=x.cps.toList.drop i.toNat:=by
 rw [eq_of_beq (slice_closes_fromL h0 h1 rfl)]
 simp [Str.length]
 exact List.take_of_length_le (by simp; omega)
end L2
namespace L2
open PySem PySem.Spec PyProof.Rows
theorem Inv.laid2 {X:Cx} {pins:List (Addr × Obj)} {σ:St} {H:Hp} {s:Shared} {h':Heap} {a x y:Addr} {o:HO} {t':Nat} (I:Inv X pins σ H s) (k:∀ b u,b≠x→b≠y→s.heap.get? b=some u→h'.get? b=some u) (hx:ZdM X pins H x) (hy:ZdM X pins H y)
  (hxt:∃ u,h'.get? x=some u) (hyt:∃ u,h'.get? y=some u) (hp:s.heap.objs.size≤a) (new:ObjOk X.prog X.w (upd H a o) h' a o):Inv X pins σ (upd H a o) { s with heap:=h',toks:=t' }:=by
 obtain ⟨f0,f1,f2,f3,f4,f5⟩:=hx
 obtain ⟨g0,g1,g2,g3,g4,g5⟩:=hy
 have hn:H a=none:=I.hok.fresh hp
 have nit:∀ b u,H b=some u→b≠x∧b≠y:=fun b u e=>⟨(fun z=>by rw [z,f0] at e; cases e),(fun z=>by rw [z,g0] at e; cases e)⟩
 have nc:∀ b:Addr,b∉[x,y]→b≠x∧b≠y:=fun b hb=>⟨fun z=>hb (by simp [z]),fun z=>hb (by simp [z])⟩
 refine I.step (g':=s.gens) (d':=s.drawn) (ch:=[x,y]) (fun b hb=>?_) (fun b u _ _ hc e _=>k b u (nc b hc).1 (nc b hc).2 e) (fun b u _ _ hc e _=>⟨u.slots,k b u (nc b hc).1 (nc b hc).2 e⟩) (fun b u _ e n=>?_)
  (fun b u hc e=>⟨u,k b u (nc b hc).1 (nc b hc).2 e⟩) (fun b xs e=>?_) (fun b u xs e=>?_) (fun b ps e=>⟨#[],?_⟩) (fun m hm=>?_) (fun b u e=>?_) I.bare
 ·rcases List.mem_cons.mp hb with z | z
  ·subst z
   exact ⟨f3,f1,f4,f5⟩
  ·have z:=List.mem_singleton.mp z
   subst z
   exact ⟨g3,g1,g4,g5⟩
 ·rw [Zi (Nat.ne_of_lt (Nat.lt_of_lt_of_le (Heap.lt_size e) hp))]
  exact n
 ·rw [Zi (Zj e hn)]; exact e
 ·rw [Zi (Zj e hn)]; exact e
 ·rw [Zi (Zj e hn),e]; simp
 ·obtain ⟨o,es,ep,ho,r⟩:=hm
  exact ⟨o,es,ep,k _ o (Ne.symm f1) (Ne.symm g1) ho,r⟩
 ·by_cases hb:b=a
  ·subst hb
   rw [Zc] at e
   cases e
   exact new
  ·rw [Zi hb] at e
   refine (I.hok b u e).stay (fun c v hc q=>k c v ?_ ?_ q) (fun c q=>by rw [Zi (Zj q hn)]; exact q) fun c xs q=>by rw [Zi (Zj q hn)]; exact q
   ·rcases hc with z | z
    ·rw [z]; exact (nit b u e).1
    ·exact (nit c _ z).1
   ·rcases hc with z | z
    ·rw [z]; exact (nit b u e).2
    ·exact (nit c _ z).2
def Ite (K:PySem.W.Frag) (a:Addr):It :=
 ⟨fun i H=>∃ xs x,SqL K H a xs∧xs[i]?=some x,fun i H x H'=>∃ t y,H t=none∧x = .ref t∧H'=upd H t (.tup [.int i,y])∧∀ xs,SqL K H a xs→xs[i]?=some y,fun i H=>∃ xs,SqL K H a xs∧xs.length≤i⟩
theorem ZfV {P:Program} {w:World} {K:PySem.W.Frag} {elts:List Expr} {k:Nat} {pos:Pos} (a e it:Addr) (hne:e≠it):ZkB P w K (.Tuple elts k pos) (Ite K a) [e,it] e (fun i h=>(∃ old,IsEnum h e it i old)∧h.IsListIter it a i) where
 mem:=by simp
 obj:=fun i h st b hb=>by
  obtain ⟨⟨old,he⟩,o,e1,c,d⟩:=st
  rcases List.mem_cons.mp hb with z | z
  ·subst z
   exact ⟨_,he,fun v z=>by
    have z':Data.fields _=Data.cell v:=z
    cases z'⟩
  ·have z:=List.mem_singleton.mp z
   subst z
   exact ⟨o,e1,fun v z=>by rw [d] at z; cases z⟩
 keep:=fun i h h' ⟨⟨old,he⟩,st⟩ kk=>⟨⟨old,kk e (by simp) _ he⟩,st.at fun o e1=>kk it (by simp) o e1⟩
 item:=by
  intro X hP hw hK hc i pins s σ H E I hf ⟨⟨old,he⟩,st⟩ hg
  subst hP hw hK
  obtain ⟨xs,x,hq,hx⟩:=hg
  obtain ⟨its,rv,p,hz⟩:=I.list hq
  obtain ⟨u,hu,ru⟩:=rv.get hx
  obtain ⟨f0,f1,f2,f3,f4,f5⟩:=hf e (by simp)
  obtain ⟨g0,g1,g2,g3,g4,g5⟩:=hf it (by simp)
  refine wpAny_pyNext_enum_item he st p.isList (x:=u) (by simpa using hu) hne fun h1 heo st1 ht1 hz1 kk=>?_
  refine ⟨_,rfl,wpAny_letOwnedTupleGo_enum heo fun h2 he2 sb=>?_⟩
  have hk2:∀ b o,b≠e→b≠it→s.heap.get? b=some o→h2.get? b=some o:=fun b o q1 q2 q=>(sb.2 b q1).trans (kk b o q1 q2 q)
  have hte:s.heap.objs.size≠e:=Nat.ne_of_gt (Heap.lt_size he)
  have ht2:h2.get? s.heap.objs.size=some { cls:=.type "tuple",data:=.seq #[.int i s.toks,u] }:=(sb.2 _ hte).trans ht1
  have st2:h2.IsListIter it a (i + 1):=st1.extBut sb.extBut (Ne.symm hne)
  refine ⟨.ref s.heap.objs.size,_,Inv.laid2 (s:=s) (a:=s.heap.objs.size) (t':=s.toks + 1) (o:=.tup [.int i,x]) I hk2 (hf e (by simp)) (hf it (by simp)) ⟨_,he2⟩ (let ⟨o,q,_⟩:=st2; ⟨o,q⟩) (Nat.le_refl _) ?_,rfl,⟨_,x,I.hok.fresh (Nat.le_refl _),rfl,rfl,fun ys hy=>by rw [I.list_inj hy hq]; exact hx⟩,⟨⟨u,?_⟩,st2⟩,fun b hb=>?_⟩
  ·refine ⟨(show 2≤sizeLine by rw [sizeLine_eq]; decide),[.int i s.toks,u],.cons ⟨_,rfl⟩ (.cons ru .nil),⟨_,ht2,rfl,_,rfl⟩,fun o q=>by rw [ht2] at q; cases q; rfl⟩
  ·have:((i + 1:Nat):Int)=(i:Int) + 1:=by push_cast; rfl
   rw [this]
   exact he2
  ·rw [Zi]
   ·exact (hf b hb).1
   ·rcases List.mem_cons.mp hb with z | z
    ·rw [z]; exact Ne.symm hte
    ·rw [List.mem_singleton.mp z]
     obtain ⟨o,q,_⟩:=st
     exact Nat.ne_of_lt (Heap.lt_size q)
 done:=by
  intro X hP hw hK hc i pins s σ H E I hf ⟨⟨old,he⟩,st⟩ hg
  subst hP hw hK
  obtain ⟨xs,hq,hx⟩:=hg
  obtain ⟨its,rv,p,hz⟩:=I.list hq
  obtain ⟨g0,g1,g2,g3,g4,g5⟩:=hf it (by simp)
  have hl:=rv.length
  exact wpAny_pyNext_enum_end (I.ok.hd hc) he st p.isList (by simp; omega) fun h' eb=>⟨rfl,I.turned (t':=s.toks) (fun b o hb e=>eb b o hb e) g0 g1 g3 g4 g5⟩
 self:=fun _ _ _ _ _ ⟨⟨old,he⟩,_⟩ h=>wpAny_pyIter_enum he h
theorem Zng:bootBuiltins "enumerate" = some (.type "enumerate"):=by decide +kernel
def ZnZ (K:PySem.W.Frag) (ta:TA):TI:=fun σ H R=>ta σ H fun vs H1=>∃ a,vs=[.ref a]∧(∃ xs,SqL K H1 a xs)∧R (Ite K a) H1
theorem ZgX {X:Cx} {elts:List Expr} {kt:Nat} {tpos:Pos} {l:Expr} {ta:TA} {p pos:Pos} (hg:Gl X "enumerate") (hm:X.mg "enumerate" = none) (ha:PA X [l] ta) (hs:starEach [l] X.env=[(false,eval l X.env)]:=by rfl):PI X (.Tuple elts kt tpos) (.Call (.Name "enumerate" p) [l] [] pos) (ZnZ X.K ta):=by
 intro pins s σ H R I h
 refine Call_ (XM I hg hm Zng (PyProof.Rows.callWith_type1 (thn (ha pos pins s σ H _ I h) fun us s1 ⟨vs,H1,I1,r1,q1⟩=>?_) hs rfl))
 obtain ⟨a,e,⟨xs,hq⟩,q⟩:=q1
 subst e
 cases r1 with
 | cons r rr =>
  cases rr
  cases r
  obtain ⟨its,rv,pl,hz⟩:=I1.list hq
  refine call_enumerate_list pl.isList fun h' he hit hsz kk=>?_
  refine wpAny_pyIter_enum he ?_
  refine ⟨s1.heap.objs.size + 1,[s1.heap.objs.size + 1,s1.heap.objs.size],_,_,H1,rfl,I1.kept (t':=s1.toks) fun b o e=>kk b o e,ZfV a _ _ (Nat.succ_ne_self _),⟨⟨.none,he⟩,hit⟩,fun b hb=>?_,q⟩
  have hle:s1.heap.objs.size≤b:=by
   rcases List.mem_cons.mp hb with z | z
   ·rw [z]; exact Nat.le_succ _
   ·rw [List.mem_singleton.mp z]; exact Nat.le_refl _
  exact I1.fpOk hle (I1.hok.fresh hle)
theorem ZeQ {K:PySem.W.Frag} {a:Addr} {xs:List V} {g:TG} {tb:TS} {D:ZfJ} {σ:St} {H:Hp} (Pv:Nat→St→Hp→Prop) (h0:Pv 0 σ H) (hl:∀ i σ H,i≤xs.length→Pv i σ H→SqL K H a xs)
  (hs:∀ i x σ H t,xs[i]?=some x→H t=none→Pv i σ H→g (.ref t) σ (upd H t (.tup [.int i,x])) fun σ2 H2=>tb { D with nx:=Pv (i + 1),ct:=Pv (i + 1),bk:=D.nx } σ2 H2) (hd:∀ σ H,Pv xs.length σ H→D.nx σ H) :
  ∃ W:Nat→Nat→St→Hp→Prop,(∃ m,W 0 m σ H)∧∀ i m σ H,W i m σ H →
   ((Ite K a).stop i H∧D.nx σ H)∨((Ite K a).go i H∧∃ N:St→Hp→Prop,(∀ σ' H',N σ' H'→∃ m',m' < m∧W (i + 1) m' σ' H')∧∀ x H',(Ite K a).yld i H x H'→g x σ H' fun σ2 H2=>tb { D with nx:=N,ct:=N,bk:=D.nx } σ2 H2):=by
 refine ⟨fun i m σ H=>m=xs.length - i∧i≤xs.length∧Pv i σ H,⟨xs.length,by simp,Nat.zero_le _,h0⟩,?_⟩
 rintro i m σ H ⟨rfl,hi,p⟩
 have q:=hl i σ H hi p
 by_cases hlt:i < xs.length
 ·refine .inr ⟨⟨xs,xs[i],q,by simp [hlt]⟩,Pv (i + 1),fun σ' H' p'=>⟨xs.length - (i + 1),by omega,rfl,hlt,p'⟩,fun x H' y=>?_⟩
  obtain ⟨t,y,ht,rfl,rfl,hy⟩:=y
  exact hs i y σ H t (hy xs q) ht p
 ·have e:i=xs.length:=by omega
  subst e
  exact .inl ⟨⟨xs,q,Nat.le_refl _⟩,hd σ H p⟩
end L2
namespace Sh
open PySem L2 PyProof.Rows
theorem YB (a:Int) {n:Int} (h:0 < n):0≤a % n∧a % n < n:=⟨Int.emod_nonneg _ (by omega),Int.emod_lt_of_pos _ h⟩
theorem Zag (a b:Str):(a ++ b).cps.toList=a.cps.toList ++ b.cps.toList:=by simp [Str.cps_append]
theorem ZP {a b:Str} (h:a.cps.toList=b.cps.toList):a=b:=by rw [← tx_eta a,← tx_eta b,h]
theorem ZbV (a b:List Nat):tx a ++ tx b=tx (a ++ b):=by
 apply ZP
 rw [Zag,ZH,ZH,ZH]
theorem ZhA:∀ l:List (List Nat),(Txt.join "" (l.map tx))=tx l.flatten:=by
 have key:∀ l:List (List Nat),(Str.join "" (l.map tx)).cps.toList=l.flatten:=by
  intro l
  induction l with
  | nil=>rfl
  | cons c r ih =>
   cases r with
   | nil=>simp [Str.join,tx]
   | cons d q =>
    have e:Str.join "" ((c :: d :: q).map tx)=tx c ++ "" ++ Str.join "" ((d :: q).map tx):=rfl
    have e2:("" : Str).cps.toList=[]:=rfl
    rw [e,Zag,Zag,ih,e2,ZH,List.append_nil]
    rfl
 intro l
 apply ZP
 have:Txt.join "" (l.map tx)=Str.join "" (l.map tx):=StrLaws.glued_eq_join _ _
 rw [this,key,ZH]
theorem ZcE:∀ l:List Nat,(l.map fun c=>[c]).flatten=l
 | []=>rfl
 | a :: l=>by rw [List.map_cons,List.flatten_cons,ZcE l]; rfl
theorem J9 (l:List Nat):Txt.join "" (l.map fun c=>tx [c])=tx l:=by
 have h:=ZhA (l.map fun c=>[c])
 rw [List.map_map,ZcE] at h
 exact h
theorem Zcr:(("abcdefghijklmnopqrstuvwxyz" : Str)).cps.toList=(List.range 26).map (· + 97):=by decide +kernel
theorem Zht {i:Int} (h0:0≤i) (h1:i < 26):atI (("abcdefghijklmnopqrstuvwxyz" : Str)).cps.toList i=some (i.toNat + 97):=by
 refine Yn h0 ?_
 rw [Zcr,List.getElem?_map,List.getElem?_range (by omega)]
 rfl
theorem Zn4 (xs:List V) (h:xs.length≤63):ZeW xs none (some 63)=xs:=by
 have e1:HT.sIx xs.length 0 none=0:=rfl
 have e2:HT.sIx xs.length xs.length (some 63)=xs.length:=by
  unfold HT.sIx
  simp
  omega
 unfold ZeW
 rw [e1,e2]
 simp
theorem XW:∀ (ys:List Str) (m:Nat),(∀ y∈ys,y.length≤m)→(ys.map (·.length)).sum≤ys.length * m
 | [],m,_=>by simp
 | y :: ys,m,h=>by
  have h1:=XW ys m fun z hz=>h z (List.mem_cons_of_mem _ hz)
  have h2:=h y List.mem_cons_self
  rw [List.map_cons,List.sum_cons,List.length_cons,Nat.succ_mul]
  omega
theorem Zk8 (n:Nat) (l:List Nat):((List.replicate n l).flatten).length=n * l.length:=by
 induction n with
 | zero=>simp
 | succ n ih=>rw [List.replicate_succ,List.flatten_cons,List.length_append,ih,Nat.succ_mul,Nat.add_comm]
theorem Zil {z:List Nat} {i:Int} (h0:0≤i) (h1:i < z.length):atI (tx z).cps.toList i=some (z.getD i.toNat 0):=by
 refine Yn h0 ?_
 rw [ZH,List.getD_eq_getElem?_getD,List.getElem?_eq_getElem (by omega)]
 rfl
theorem ZiW:(1:Nat)≤sizeLine:=by rw [sizeLine_eq]; decide
theorem Zs {n:Nat} (h:n≤1000):n≤sizeLine:=Zt (by omega)
theorem ZkE {α:Type} {vs:List V} {ns:List α} {f:α→V} (hl:vs.length=ns.length) (hr:∀ (i:Nat) (v:V),vs[i]?=some v→∀ c,ns[i]?=some c→v=f c):vs=ns.map f:=by
 apply List.ext_getElem?
 intro i
 by_cases hi:i < vs.length
 ·have hi':i < ns.length:=by omega
  rw [List.getElem?_eq_getElem hi,hr i _ (List.getElem?_eq_getElem hi) _ (List.getElem?_eq_getElem hi'),List.getElem?_map,List.getElem?_eq_getElem hi']
  rfl
 ·rw [List.getElem?_eq_none (by omega),List.getElem?_eq_none (by rw [List.length_map]; omega)]
theorem Yv {α:Type} {ns:List α} {f:α→V} {i:Nat} (hi:i < ns.length):(ns.map f).getD i .non=f ns[i]:=by
 rw [List.getD_eq_getElem?_getD,List.getElem?_map,List.getElem?_eq_getElem hi]
 rfl
theorem JJ {α:Type} {ns:List α} {f:α→V} {i:Nat} {x:V} (hi:(ns.map f)[i]?=some x):∃ h:i < ns.length,x=f ns[i]:=by
 have h:i < ns.length:=by
  have:=(List.getElem?_eq_some_iff.mp hi).1
  rw [List.length_map] at this
  exact this
 rw [List.getElem?_map,List.getElem?_eq_getElem h] at hi
 exact ⟨h,(Option.some.inj hi).symm⟩
end Sh
namespace L2
open PySem PySem.Spec PyProof.Rows
theorem Zii {a:Nat} {i:Int} (h:i.natAbs < 2 ^ a):Builtin.Int.intBits i≤a:=intBits_le_iff.mpr h
def ZoW (i j:Int):Prop:=i.natAbs < 2 ^ 4000∧j.natAbs < 2 ^ 4000
theorem J0 {X:Cx}:OpR X (binaryOp .Mult) (rI ZoW fun i j=>.int (i * j)):=opI fun _ _ _ _ _ _ _ hc q=>mul_int q (IntMulOk.of_le (m:=4000) (n:=4000) (Zii hc.1) (Zii hc.2) (by decide))
def Zoe (_ j:Int):Prop:=j≠0∧j.natAbs < 2 ^ 4000
theorem Zes {X:Cx}:OpR X (binaryOp .FloorDiv) (rI Zoe fun i j=>.int (i.fdiv j)):=opI fun _ j _ _ _ _ _ hc q=>floordiv_int hc.1 q (.inl (PyProof.noPylong_of_log2 (by
 have h0:j.natAbs≠0:=fun z=>hc.1 (by omega)
 have:=(Nat.log2_lt h0).mpr hc.2
 omega)))
theorem ZeE {k:Nat} {mp:List Nat} {σ:St} {g:TG} {te:TE} {J:It} {H1:Hp} {Q:VK} (n:Nat) (xs:Nat→V) (f:Nat→List V) (hn:n≤sizeLine)
  (hJ:∀ H,Same H1 H→(∀ i,i < n→J.go i H∧∀ x H',J.yld i H x H'→H'=H∧x=xs i)∧J.stop n H)
  (step:∀ i H (Qe:VK),i < n→Same H1 H→(∀ a H6,Same H H6→H a=none→H6 a=some (.lst (f i))→Qe (.ref a) H6)→g (xs i) (lcS k mp σ) H fun σ4 H4=>te σ4 H4 Qe)
  (done:∀ D (as:List Addr) H',as.length=n→(∀ i a,as[i]?=some a→a≠D∧H1 a=none∧H' a=some (.lst (f i)))→Same H1 H'→H1 D=none→H' D=some (.lst (as.map V.ref))→Q (.ref D) H'):Jl k mp σ g Zl8 te J H1 Q:=by
 intro D hD
 refine ⟨fun i m acc H=>m=n - i∧i≤n∧Same H1 H∧H D=some (.lst acc)∧∃ as:List Addr,acc=as.map V.ref∧as.length=i∧∀ j a,as[j]?=some a→a≠D∧H1 a=none∧H a=some (.lst (f j)),⟨n,by simp,Nat.zero_le _,Zb hD,Zc,[],rfl,rfl,fun j v e=>by simp at e⟩,?_⟩
 rintro i m acc H ⟨rfl,hi,hs,hDa,as,rfl,hl,hr⟩
 obtain ⟨j1,j2⟩:=hJ H hs
 by_cases hlt:i < n
 ·refine .inr ⟨(j1 i hlt).1,fun x H3 y=>?_⟩
  obtain ⟨e1,e2⟩:=(j1 i hlt).2 x H3 y
  subst e1 e2
  refine step i H3 _ hlt hs fun a H6 s6 ha r6=>⟨s6 _ _ hDa,by rw [List.length_map]; omega,n - (i + 1),by omega,rfl,hlt,fun b o e=>?_,Zc,as ++ [a],by rw [List.map_append]; rfl,by rw [List.length_append,hl]; rfl,fun j u e=>?_⟩
  ·rw [Zi (Zj e hD)]
   exact s6 _ _ (hs b o e)
  ·have naD:a≠D:=fun z=>by rw [z,hDa] at ha; cases ha
   rcases Nat.lt_trichotomy j as.length with h | h | h
   ·rw [List.getElem?_append_left h] at e
    obtain ⟨q1,q2,q3⟩:=hr j u e
    exact ⟨q1,q2,by rw [Zi q1]; exact s6 _ _ q3⟩
   ·subst h
    rw [List.getElem?_append_right (Nat.le_refl _),Nat.sub_self] at e
    cases e
    exact ⟨naD,hs.free ha,by rw [Zi naD,hl]; exact r6⟩
   ·rw [List.getElem?_eq_none (by rw [List.length_append,List.length_singleton]; omega)] at e
    cases e
 ·have e:i=n:=by omega
  subst e
  exact .inl ⟨j2,done D as H hl hr hs hD hDa⟩
section
variable {X:Cx} {pins:List (Addr × Obj)} {σ:St} {H₀:Hp} {s₀:Shared} {scope sc:Scope} {N xs:List Str} {mp:List Nat} {fp:List Addr} {z:Str}
end
section
variable {X:Cx} {pins:List (Addr × Obj)} {σ:St} {elt tgt iter:Expr} {ifs:List Expr} {scope sc:Scope} {pos:Pos} {N xs:List Str} {mp:List Nat} {wi:TI} {g:TG} {tc:TT} {te:TE} {z:Str}
end
end L2
namespace Sh
abbrev ZU:=Nat→Nat→Int
def YD:Nat→(Nat→Int)→Int
 | 0,_=>0
 | n + 1,g=>YD n g + g n
def Jz (i:Nat):Int:=if i % 2=0 then 1 else -1
def rmv (i r:Nat):Nat:=if r < i then r else r + 1
def det:Nat→ZU→Int
 | 0,_=>1
 | n + 1,f=>YD (n + 1) fun i=>Jz i * f i 0 * det n fun r c=>f (rmv i r) (c + 1)
theorem Ya {g h:Nat→Int}:∀ {n:Nat},(∀ i,i < n→g i=h i)→YD n g=YD n h
 | 0,_=>rfl
 | n + 1,e=>by
  rw [YD,YD,Ya (n:=n) fun i hi=>e i (by omega),e n (by omega)]
theorem Jx (a b:Int) (g h:Nat→Int):∀ n:Nat,YD n (fun i=>a * g i + b * h i)=a * YD n g + b * YD n h
 | 0=>by simp [YD]
 | n + 1=>by
  rw [YD,YD,YD,Jx a b g h n]
  rw [Int.mul_add,Int.mul_add]
  omega
theorem Xx {g:Nat→Int}:∀ {n:Nat},(∀ i,i < n→g i=0)→YD n g=0
 | 0,_=>rfl
 | n + 1,e=>by
  rw [YD,Xx (n:=n) fun i hi=>e i (by omega),e n (by omega)]
  rfl
theorem ZbY {g:Nat→Int} {p:Nat} (h2:g p + g (p + 1)=0):∀ {n:Nat},p + 1 < n→(∀ i,i < n→i≠p→i≠p + 1→g i=0)→YD n g=0
 | 0,h,_=>by omega
 | n + 1,h,e=>by
  by_cases c:n=p + 1
  ·subst c
   rw [YD,YD,Xx (n:=p) fun i hi=>e i (by omega) (by omega) (by omega)]
   omega
  ·rw [YD,ZbY h2 (n:=n) (by omega) fun i hi=>e i (by omega),e n (by omega) (by omega) c]
   rfl
theorem Zav {g:Nat→Int}:∀ {n:Nat},(∀ i,0 < i→i < n + 1→g i=0)→YD (n + 1) g=g 0
 | 0,_=>by simp [YD]
 | n + 1,e=>by
  rw [YD,Zav (n:=n) fun i h1 h2=>e i h1 (by omega),e (n + 1) (by omega) (by omega)]
  omega
theorem Z7:∀ {n:Nat} {f g:ZU},(∀ r,r < n→∀ c,c < n→f r c=g r c)→det n f=det n g
 | 0,_,_,_=>rfl
 | n + 1,f,g,e=>by
  rw [det,det]
  refine Ya fun i hi=>?_
  rw [e i hi 0 (by omega),Z7 (n:=n) fun r hr c hc=>e (rmv i r) (by unfold rmv; split <;> omega) (c + 1) (by omega)]
def Z0 (f:ZU) (p:Nat) (u:Nat→Int):ZU:=fun r=>if r=p then u else f r
theorem Z2 {f:ZU} {p:Nat} {u:Nat→Int}:Z0 f p u p=u:=by unfold Z0; rw [if_pos rfl]
theorem Yd {f:ZU} {p r:Nat} {u:Nat→Int} (h:r≠p):Z0 f p u r=f r:=by unfold Z0; rw [if_neg h]
theorem Yc (f:ZU) (p:Nat):Z0 f p (f p)=f:=by
 funext r
 unfold Z0
 split
 ·rename_i e; rw [e]
 ·rfl
theorem Zay (i r:Nat):rmv i r≠i:=by unfold rmv; split <;> omega
theorem Zbr (f:ZU) (p:Nat) (u:Nat→Int):(fun r c=>Z0 f p u (rmv p r) (c + 1))=fun r c=>f (rmv p r) (c + 1):=by
 funext r c
 rw [Yd (Zay p r)]
theorem Zbq (f:ZU) {p i:Nat} (u:Nat→Int) (h:i≠p):(fun r c=>Z0 f p u (rmv i r) (c + 1))=Z0 (fun r c=>f (rmv i r) (c + 1)) (if p < i then p else p - 1) (fun c=>u (c + 1)):=by
 funext r c
 have key:rmv i r=p↔r=(if p < i then p else p - 1):=by
  unfold rmv
  split <;> split <;> omega
 by_cases q:r=(if p < i then p else p - 1)
 ·show Z0 f p u (rmv i r) (c + 1)=Z0 _ _ _ r c
  rw [key.mpr q,Z2,q,Z2]
 ·show Z0 f p u (rmv i r) (c + 1)=Z0 _ _ _ r c
  rw [Yd (fun z=>q (key.mp z)),Yd q]
theorem YQ:∀ {n:Nat} (f:ZU) {p:Nat} (a b:Int) (u v:Nat→Int),p < n→det n (Z0 f p fun c=>a * u c + b * v c)=a * det n (Z0 f p u) + b * det n (Z0 f p v)
 | 0,_,_,_,_,_,_,h=>by omega
 | n + 1,f,p,a,b,u,v,h=>by
  rw [det,det,det,← Jx]
  refine Ya fun i hi=>?_
  by_cases c:i=p
  ·subst c
   rw [Zbr,Zbr,Zbr,Z2,Z2,Z2]
   simp only [Int.mul_add,Int.add_mul]
   congr 1 <;> simp only [Int.mul_assoc,Int.mul_left_comm,Int.mul_comm]
  ·rw [Zbq f _ c,Zbq f _ c,Zbq f _ c,Yd c,Yd c,Yd c]
   have ih:=YQ (n:=n) (fun r c=>f (rmv i r) (c + 1)) (p:=if p < i then p else p - 1) a b (fun c=>u (c + 1)) (fun c=>v (c + 1)) (by split <;> omega)
   rw [ih]
   simp only [Int.mul_add]
   congr 1 <;> simp only [Int.mul_assoc,Int.mul_left_comm,Int.mul_comm]
theorem Jy (i:Nat):Jz (i + 1) = - Jz i:=by
 unfold Jz
 by_cases c:i % 2=0
 ·rw [if_pos c,if_neg (by omega)]
 ·rw [if_neg c,if_pos (by omega)]
  rfl
theorem ZbB:∀ {n:Nat} {f:ZU} {p:Nat},p + 1 < n→f p=f (p + 1)→det n f=0
 | 0,_,_,h,_=>by omega
 | n + 1,f,p,h,e=>by
  rw [det]
  refine ZbY (p:=p) ?_ h fun i hi c1 c2=>?_
  ·have em:(fun r c=>f (rmv p r) (c + 1))=fun r c=>f (rmv (p + 1) r) (c + 1):=by
    funext r c
    unfold rmv
    by_cases c1:r < p
    ·rw [if_pos c1,if_pos (by omega)]
    ·rw [if_neg c1]
     by_cases c2:r=p
     ·subst c2
      rw [if_pos (by omega),e]
     ·rw [if_neg (by omega)]
   rw [em,Jy,← e]
   simp only [Int.neg_mul]
   omega
  ·have:det n (fun r c=>f (rmv i r) (c + 1))=0:=by
    by_cases c:p + 1 < i
    ·refine ZbB (p:=p) (by omega) ?_
     funext q
     unfold rmv
     rw [if_pos (by omega),if_pos c,e]
    ·refine ZbB (p:=p - 1) (by omega) ?_
     funext q
     unfold rmv
     rw [if_neg (by omega),if_neg (by omega),show p - 1 + 1=p by omega,e]
   rw [this,Int.mul_zero]
def Zf1 (f:ZU) (p q:Nat):ZU:=fun r=>if r=p then f q else if r=q then f p else f r
theorem ZiH (f:ZU) {p q:Nat} (h:p≠q):Zf1 f p q=Z0 (Z0 f p (f q)) q (f p):=by
 funext r
 unfold Zf1 Z0
 by_cases c1:r=p
 ·subst c1
  rw [if_pos rfl,if_neg h,if_pos rfl]
 ·rw [if_neg c1]
  split
  ·rfl
  ·rfl
theorem Xz (f:ZU) {p q:Nat} (u v:Nat→Int) (h:p≠q):Z0 (Z0 f p u) q v=Z0 (Z0 f q v) p u:=by
 funext r
 unfold Z0
 by_cases c1:r=p
 ·subst c1
  rw [if_neg h,if_pos rfl,if_pos rfl]
 ·rw [if_neg c1,if_neg c1]
theorem Zgx (f:ZU) (p:Nat) (u v:Nat→Int):Z0 (Z0 f p u) p v=Z0 f p v:=by
 funext r
 unfold Z0
 split <;> rfl
theorem Zju {n:Nat} {f:ZU} {p q:Nat} (h:p≠q) (hp:p < n) (hq:q < n) (z:∀ g:ZU,g p=g q→det n g=0):det n (Zf1 f p q) = - det n f:=by
 have key:∀ (u v:Nat→Int),det n (Z0 (Z0 f p u) q v) + det n (Z0 (Z0 f p v) q u)=0:=fun u v=>by
  have h0:=z (Z0 (Z0 f p fun c=>1 * u c + 1 * v c) q fun c=>1 * u c + 1 * v c) (by rw [Z2,Yd h,Z2])
  rw [YQ _ 1 1 u v hq,Xz _ _ _ h,Xz _ _ _ h,YQ _ 1 1 u v hp,YQ _ 1 1 u v hp] at h0
  have h1:=z (Z0 (Z0 f q u) p u) (by rw [Z2,Yd (Ne.symm h),Z2])
  have h2:=z (Z0 (Z0 f q v) p v) (by rw [Z2,Yd (Ne.symm h),Z2])
  rw [h1,h2] at h0
  rw [Xz _ _ _ h,Xz (f:=f) (p:=p) v u h]
  omega
 have h1:=key (f p) (f q)
 have h2:det n (Z0 (Z0 f p (f p)) q (f q))=det n f:=by rw [Yc,Yc]
 rw [h2] at h1
 rw [ZiH f h]
 omega
theorem ZcK {n:Nat} {f:ZU} {p:Nat} (h:p + 1 < n):det n (Zf1 f p (p + 1)) = - det n f:=Zju (by omega) (by omega) h fun g e=>ZbB h e
theorem ZbD {n:Nat}:∀ (k:Nat) {f:ZU} {p:Nat},p + 1 + k < n→f p=f (p + 1 + k)→det n f=0
 | 0,f,p,h,e=>ZbB (by omega) (by rw [Nat.add_zero] at e; exact e)
 | k + 1,f,p,h,e=>by
  have h1:=ZcK (f:=f) (n:=n) (p:=p + 1 + k) (by omega)
  have h2:=ZbD (n:=n) k (f:=Zf1 f (p + 1 + k) (p + 1 + k + 1)) (p:=p) (by omega) (by
   have e1:Zf1 f (p + 1 + k) (p + 1 + k + 1) p=f p:=by
    unfold Zf1
    rw [if_neg (by omega),if_neg (by omega)]
   have e2:Zf1 f (p + 1 + k) (p + 1 + k + 1) (p + 1 + k)=f (p + 1 + k + 1):=by
    unfold Zf1
    rw [if_pos rfl]
   rw [e1,e2,e]
   rfl)
  omega
theorem ZlQ {n:Nat} {f:ZU} {p q:Nat} (h:p≠q) (hp:p < n) (hq:q < n) (e:f p=f q):det n f=0:=by
 rcases Nat.lt_or_gt_of_ne h with c | c
 ·exact ZbD (q - p - 1) (p:=p) (by omega) (by rw [show p + 1 + (q - p - 1)=q by omega]; exact e)
 ·exact ZbD (p - q - 1) (p:=q) (by omega) (by rw [show q + 1 + (p - q - 1)=p by omega]; exact e.symm)
theorem Zh1 {n:Nat} {f:ZU} {p q:Nat} (a b:Int) (h:p≠q) (hp:p < n) (hq:q < n):det n (Z0 f p fun c=>a * f p c + b * f q c)=a * det n f:=by
 rw [YQ f a b (f p) (f q) hp,Yc,ZlQ (f:=Z0 f p (f q)) h hp hq (by rw [Z2,Yd (Ne.symm h)])]
 omega
theorem ZhX {n:Nat} {f:ZU} {p:Nat} (a:Int) (hp:p < n):det n (Z0 f p fun c=>a * f p c)=a * det n f:=by
 have h:=YQ f a 0 (f p) (f p) hp
 rw [Yc] at h
 have e:(fun c=>a * f p c + 0 * f p c)=fun c=>a * f p c:=by
  funext c
  omega
 rw [e] at h
 omega
def ZcZ (f:ZU) (p:Nat):ZU:=fun r=>if r=0 then f p else f (rmv p (r - 1))
theorem ZdD {n:Nat}:∀ {p:Nat} {f:ZU},p < n→det n (ZcZ f p)=Jz p * det n f
 | 0,f,h=>by
  have e:ZcZ f 0=f:=by
   funext r
   unfold ZcZ rmv
   split
   ·rename_i c; rw [c]
   ·rw [if_neg (by omega),show r - 1 + 1=r by omega]
  rw [e]
  simp [Jz]
 | p + 1,f,h=>by
  have e:ZcZ f (p + 1)=ZcZ (Zf1 f p (p + 1)) p:=by
   funext r
   unfold ZcZ rmv Zf1
   by_cases c:r=0
   ·rw [if_pos c,if_pos c,if_pos rfl]
   ·rw [if_neg c,if_neg c]
    by_cases c1:r - 1 < p
    ·rw [if_pos c1,if_pos (by omega),if_neg (by omega),if_neg (by omega)]
    ·rw [if_neg c1]
     by_cases c2:r - 1=p
     ·rw [if_pos (by omega),if_neg (by omega),if_pos (by omega),c2]
     ·rw [if_neg (by omega),if_neg (by omega),if_neg (by omega)]
  rw [e,ZdD (p:=p) (by omega),ZcK h,Jy]
  simp [Int.mul_neg,Int.neg_mul]
theorem ZcL (a:Int):∀ (n:Nat) (f:ZU),det n (fun i j=>a * f i j)=a ^ n * det n f
 | 0,_=>by simp [det]
 | n + 1,f=>by
  rw [det,det]
  have e:∀ g:Nat→Int,a ^ (n + 1) * YD (n + 1) g=YD (n + 1) fun i=>a ^ (n + 1) * g i + 0 * g i:=fun g=>by
   rw [Jx]
   omega
  rw [e]
  refine Ya fun i hi=>?_
  rw [ZcL a n fun r c=>f (rmv i r) (c + 1),Int.pow_succ]
  simp only [Int.zero_mul,Int.add_zero,Int.mul_assoc,Int.mul_left_comm,Int.mul_comm]
theorem ZbE {n:Nat} {f:ZU} (h:∀ i,0 < i→i < n + 1→f i 0=0):det (n + 1) f=f 0 0 * det n fun r c=>f (r + 1) (c + 1):=by
 rw [det,Zav fun i h1 h2=>by rw [h i h1 h2,Int.mul_zero,Int.zero_mul]]
 have e:(fun r c=>f (rmv 0 r) (c + 1))=fun r c=>f (r + 1) (c + 1):=by
  funext r c
  unfold rmv
  rw [if_neg (by omega)]
 rw [e]
 simp [Jz]
def clr (f:ZU) (m:Nat):ZU:=fun r=>if r=0 then f 0 else if r≤m then fun c=>f 0 0 * f r c + -(f r 0) * f 0 c else f r
theorem Zh0 {k:Nat} {f:ZU}:∀ m,m≤k + 1→det (k + 2) (clr f m)=f 0 0 ^ m * det (k + 2) f
 | 0,_=>by
  have e:clr f 0=f:=by
   funext r
   unfold clr
   split
   ·rename_i c; rw [c]
   ·rw [if_neg (by omega)]
  rw [e]
  simp
 | m + 1,h=>by
  have e:clr f (m + 1)=Z0 (clr f m) (m + 1) fun c=>f 0 0 * clr f m (m + 1) c + -(f (m + 1) 0) * clr f m 0 c:=by
   funext r
   unfold Z0 clr
   by_cases c:r=m + 1
   ·subst c
    rw [if_neg (by omega),if_pos (Nat.le_refl _),if_pos rfl,if_neg (by omega),if_neg (by omega),if_pos rfl]
   ·rw [if_neg c]
    by_cases c0:r=0
    ·rw [if_pos c0,if_pos c0]
    ·rw [if_neg c0,if_neg c0]
     by_cases c1:r≤m
     ·rw [if_pos (by omega),if_pos c1]
     ·rw [if_neg (by omega),if_neg c1]
  rw [e,Zh1 (f 0 0) (-(f (m + 1) 0)) (by omega) (by omega) (by omega),Zh0 m (by omega),Int.pow_succ]
  simp only [Int.mul_assoc,Int.mul_left_comm,Int.mul_comm]
def Zjx (f:ZU):ZU:=fun i j=>f 0 0 * f (i + 1) (j + 1) - f (i + 1) 0 * f 0 (j + 1)
theorem ZoP (k:Nat) (f:ZU):f 0 0 * det (k + 1) (Zjx f)=f 0 0 ^ (k + 1) * det (k + 2) f:=by
 rw [← Zh0 (k + 1) (Nat.le_refl _),ZbE (f:=clr f (k + 1)) fun i h1 h2=>by
  unfold clr
  rw [if_neg (by omega),if_pos (by omega)]
  show f 0 0 * f i 0 + -(f i 0) * f 0 0=0
  rw [Int.neg_mul,Int.mul_comm (f i 0)]
  omega]
 have e:clr f (k + 1) 0 0=f 0 0:=by
  unfold clr
  rw [if_pos rfl]
 rw [e]
 congr 1
 refine Z7 fun r hr c hc=>?_
 unfold clr Zjx
 rw [if_neg (by omega),if_pos (by omega)]
 show _=f 0 0 * f (r + 1) (c + 1) + -(f (r + 1) 0) * f 0 (c + 1)
 rw [Int.neg_mul]
 rfl
def ZjG (M:ZU) (t:Nat) (d:Int) (R:ZU):Prop:=∀ (k:Nat) (ρ γ:Nat→Nat),∃ ρ' γ':Nat→Nat,det (k + 1) (fun i j=>R (ρ i) (γ j))=d ^ k * det (k + 1 + t) fun i j=>M (ρ' i) (γ' j)
theorem Zfy (M:ZU):ZjG M 0 1 M:=fun k ρ γ=>⟨ρ,γ,by rw [Int.one_pow,Int.one_mul]⟩
theorem Zjs (f:ZU):det 2 f=f 0 0 * f 1 1 - f 1 0 * f 0 1:=by
 simp [det,YD,Jz,rmv]
 rw [Int.neg_mul]
 rfl
theorem Zjp {M R:ZU} {t:Nat} {d:Int} (h:ZjG M t d R) (p i j:Nat):d ∣ R p 0 * R i (j + 1) - R i 0 * R p (j + 1):=by
 obtain ⟨ρ',γ',e⟩:=h 1 (fun a=>if a=0 then p else i) (fun b=>if b=0 then 0 else j + 1)
 rw [Zjs,Int.pow_one] at e
 exact ⟨_,e⟩
def J2 (R:ZU) (d:Int) (p:Nat):ZU:=fun i j=>(R p 0 * R (rmv p i) (j + 1) - R (rmv p i) 0 * R p (j + 1)) / d
theorem Zey {M R:ZU} {t:Nat} {d:Int} (h:ZjG M t d R) (p i j:Nat):d * J2 R d p i j=R p 0 * R (rmv p i) (j + 1) - R (rmv p i) 0 * R p (j + 1):=Int.mul_ediv_cancel' (Zjp h p (rmv p i) j)
theorem Zez {M R:ZU} {t:Nat} {d:Int} (h:ZjG M t d R) (hd:d≠0) {p:Nat} (hp:R p 0≠0) (k:Nat) (ρ γ:Nat→Nat) {q:Int}
  (e:det (k + 2) (fun i j=>R (if i=0 then p else rmv p (ρ (i - 1))) (if j=0 then 0 else γ (j - 1) + 1))=d ^ (k + 1) * q):det (k + 1) (fun i j=>J2 R d p (ρ i) (γ j))=R p 0 ^ k * q:=by
 have c:=ZoP k fun i j=>R (if i=0 then p else rmv p (ρ (i - 1))) (if j=0 then 0 else γ (j - 1) + 1)
 rw [e] at c
 have e2:Zjx (fun i j=>R (if i=0 then p else rmv p (ρ (i - 1))) (if j=0 then 0 else γ (j - 1) + 1))=fun i j=>d * J2 R d p (ρ i) (γ j):=by
  funext i j
  rw [Zey h]
  unfold Zjx
  simp
 rw [e2,ZcL] at c
 have c':R p 0 * (d ^ (k + 1) * det (k + 1) fun i j=>J2 R d p (ρ i) (γ j))=R p 0 ^ (k + 1) * (d ^ (k + 1) * q):=c
 rw [Int.pow_succ (R p 0)] at c'
 have hne:R p 0 * d ^ (k + 1)≠0:=Int.mul_ne_zero hp (Int.pow_ne_zero hd)
 apply Int.eq_of_mul_eq_mul_left hne
 calc R p 0 * d ^ (k + 1) * (det (k + 1) fun i j=>J2 R d p (ρ i) (γ j))=R p 0 * (d ^ (k + 1) * det (k + 1) fun i j=>J2 R d p (ρ i) (γ j)):=by rw [Int.mul_assoc]
  _=R p 0 ^ k * R p 0 * (d ^ (k + 1) * q):=c'
  _=R p 0 * d ^ (k + 1) * (R p 0 ^ k * q):=by simp only [Int.mul_assoc,Int.mul_left_comm,Int.mul_comm]
theorem ZhL {M R:ZU} {t:Nat} {d:Int} (h:ZjG M t d R) (hd:d≠0) {p:Nat} (hp:R p 0≠0):ZjG M (t + 1) (R p 0) (J2 R d p):=fun k ρ γ=>by
 obtain ⟨ρ',γ',e⟩:=h (k + 1) (fun i=>if i=0 then p else rmv p (ρ (i - 1))) (fun j=>if j=0 then 0 else γ (j - 1) + 1)
 refine ⟨ρ',γ',?_⟩
 rw [Zez h hd hp k ρ γ e]
 congr 2
 omega
theorem Zhb {M R:ZU} {t:Nat} {d X:Int} (h:ZjG M t d R) (hd:d≠0) {p:Nat} (hp:R p 0≠0) {m:Nat} (hpm:p < m + 2) (e:det (m + 2) R=d ^ (m + 1) * X):det (m + 1) (J2 R d p)=R p 0 ^ m * (Jz p * X):=by
 refine Zez h hd hp m id id ?_
 have e1:det (m + 2) (ZcZ R p)=Jz p * det (m + 2) R:=ZdD hpm
 rw [e] at e1
 have e2:det (m + 2) (fun i j=>R (if i=0 then p else rmv p (id (i - 1))) (if j=0 then 0 else id (j - 1) + 1))=det (m + 2) (ZcZ R p):=by
  refine Z7 fun r _ c _=>?_
  unfold ZcZ
  have ec:(if c=0 then 0 else id (c - 1) + 1)=c:=by
   split
   ·rename_i q; exact q.symm
   ·show c - 1 + 1=c
    omega
  rw [ec]
  by_cases q:r=0
  ·rw [if_pos q,if_pos q]
  ·rw [if_neg q,if_neg q]
   rfl
 rw [e2,e1]
 simp only [Int.mul_assoc,Int.mul_left_comm,Int.mul_comm]
theorem ZeV {n:Nat} {f:ZU} (h:∀ i,i < n + 1→f i 0=0):det (n + 1) f=0:=by
 rw [det]
 exact Xx fun i hi=>by rw [h i hi,Int.mul_zero,Int.zero_mul]
end Sh
namespace Sh
open PySem L2 PyProof.Rows
def bg (x:Str):Str:=tx x.cps.toList.dropLast
def en (x:Str):Str:=tx (x.cps.toList.drop 1)
abbrev Es:=List (Str × Int)
def ind (p:Prop) [Decidable p]:Int:=if p then 1 else 0
def mo1 (e:Str × Int) (P:Str):Int:=e.2 * ind (bg e.1=P) - e.2 * ind (en e.1=P)
def mo (es:Es) (P:Str):Int:=(es.map fun e=>mo1 e P).sum
theorem Zlt (es:Es) (e:Str × Int) (P:Str):mo (es ++ [e]) P=mo es P + mo1 e P:=by
 unfold mo
 rw [List.map_append,List.sum_append]
 simp
theorem Zbp (e:Str × Int) (es:Es) (P:Str):mo (e :: es) P=mo1 e P + mo es P:=by
 unfold mo
 rw [List.map_cons,List.sum_cons]
theorem Zdt:∀ {es:Es} {P:Str},(∀ e∈es,bg e.1≠P∧en e.1≠P)→mo es P=0
 | [],_,_=>rfl
 | e :: es,P,h=>by
  rw [Zbp,Zdt fun x hx=>h x (List.mem_cons_of_mem _ hx)]
  obtain ⟨h1,h2⟩:=h e (List.mem_cons_self ..)
  unfold mo1 ind
  rw [if_neg h1,if_neg h2]
  simp
def tot (f:Str→Int) (ks:List Str):Int:=(ks.map f).sum
theorem YW (f:Str→Int) (x:Str) (ks:List Str):tot f (x :: ks)=f x + tot f ks:=by
 unfold tot
 rw [List.map_cons,List.sum_cons]
theorem ZcY (f g:Str→Int):∀ ks:List Str,tot (fun x=>f x + g x) ks=tot f ks + tot g ks
 | []=>rfl
 | x :: ks=>by
  rw [YW,YW,YW,ZcY f g ks]
  omega
theorem ZcX (c:Int) (y:Str):∀ ks:List Str,ks.Nodup→tot (fun P=>c * ind (y=P)) ks=if y∈ks then c else 0
 | [],_=>rfl
 | x :: ks,nd=>by
  have nd':=List.nodup_cons.mp nd
  rw [YW,ZcX c y ks nd'.2]
  unfold ind
  by_cases e:y=x
  ·subst e
   rw [if_pos rfl,if_neg nd'.1,if_pos (List.mem_cons_self ..)]
   omega
  ·rw [if_neg e]
   have:(y∈x :: ks)↔y∈ks:=by simp [e]
   simp only [this]
   omega
theorem ZdU:∀ ks:List Str,tot (fun _=>0) ks=0
 | []=>rfl
 | x :: ks=>by rw [YW,ZdU ks]; rfl
theorem ZjJ {ks:List Str} (nd:ks.Nodup):∀ {es:Es},(∀ e∈es,bg e.1∈ks∧en e.1∈ks)→tot (mo es) ks=0
 | [],_=>ZdU ks
 | e :: es,h=>by
  have e1:tot (mo (e :: es)) ks=tot (fun P=>mo1 e P + mo es P) ks:=by
   unfold tot
   exact congrArg List.sum (List.map_congr_left fun P _=>Zbp e es P)
  rw [e1,ZcY,ZjJ nd fun x hx=>h x (List.mem_cons_of_mem _ hx)]
  obtain ⟨h1,h2⟩:=h e (List.mem_cons_self ..)
  have e2:tot (mo1 e) ks=tot (fun P=>e.2 * ind (bg e.1=P) + -e.2 * ind (en e.1=P)) ks:=by
   unfold tot
   congr 1
   refine List.map_congr_left fun P _=>?_
   unfold mo1
   rw [Int.neg_mul]
   omega
  rw [e2,ZcY,ZcX _ _ _ nd,ZcX _ _ _ nd,if_pos h1,if_pos h2]
  omega
def ups (f:Str→Int) (ss:List Str):Es:=(ss.filter fun x=>decide (0 < f x)).map fun x=>(x,f x)
def sm (es:Es):Int:=(es.map fun e=>e.2).sum
theorem ZdS (f:Str→Int) (x:Str) (ss:List Str):sm (ups f (x :: ss))=(if 0 < f x then f x else 0) + sm (ups f ss):=by
 unfold sm ups
 rw [List.filter_cons]
 by_cases c:0 < f x
 ·rw [if_pos c,if_pos (by simpa using c)]
  simp
 ·rw [if_neg c,if_neg (by simpa using c)]
  simp
theorem ZfP (f:Str→Int):∀ ss:List Str,sm (ups f ss) - sm (ups (fun x=>-f x) ss)=tot f ss
 | []=>rfl
 | x :: ss=>by
  have ih:=ZfP f ss
  rw [ZdS,ZdS,YW]
  split <;> split <;> omega
theorem Zl4 {f:Str→Int} {b:Nat} (h:∀ x,(f x).natAbs≤b) (ss:List Str):∀ e∈ups f ss,0 < e.2∧e.2≤b:=fun e he=>by
 unfold ups at he
 obtain ⟨x,hx,rfl⟩:=List.mem_map.mp he
 have h1:=(List.mem_filter.mp hx).2
 have h2:=h x
 simp at h1
 constructor
 ·exact h1
 ·show f x≤b
  omega
theorem ZmS:∀ {es:Es} {b:Nat} (P:Str),(∀ e∈es,0≤e.2∧e.2≤b)→(mo es P).natAbs≤b * es.length
 | [],_,_,_=>by simp [mo]
 | e :: es,b,P,h=>by
  have ih:=ZmS (es:=es) P fun x hx=>h x (List.mem_cons_of_mem _ hx)
  obtain ⟨h1,h2⟩:=h e (List.mem_cons_self ..)
  rw [Zbp,List.length_cons,Nat.mul_add]
  have:(mo1 e P).natAbs≤b:=by
   unfold mo1 ind
   split <;> split <;> omega
  omega
def pcs (z:List Nat) (L:Nat):List Str:=(List.range (z.length - L + 1)).map fun i=>tx ((z.drop i).take L)
theorem Jf (z:List Nat):(tx z).cps.toList=z:=ZH z
def Adj (es:Es) (P y:Str):Prop:=∃ e∈es,(bg e.1=P∧en e.1=y)∨(en e.1=P∧bg e.1=y)
inductive Rch (es:Es) (a:Str):Str→Prop where
 | here:Rch es a a
 | step {P y:Str} (h:Rch es a P) (k:Adj es P y):Rch es a y
theorem Rch.closed {es:Es} {a:Str} {F:Str→Prop} (ha:F a) (hc:∀ P,F P→∀ y,Adj es P y→F y) {y:Str} (h:Rch es a y):F y:=by
 induction h with
 | here=>exact ha
 | step _ k ih=>exact hc _ ih _ k
theorem ZjD {es:Es} {e:Str × Int} {P y:Str}:Adj (es ++ [e]) P y↔Adj es P y∨(bg e.1=P∧en e.1=y)∨(en e.1=P∧bg e.1=y):=by
 unfold Adj
 constructor
 ·rintro ⟨x,hx,q⟩
  rcases List.mem_append.mp hx with z | z
  ·exact .inl ⟨x,z,q⟩
  ·rw [List.mem_singleton.mp z] at q
   exact .inr q
 ·rintro (⟨x,hx,q⟩ | q)
  ·exact ⟨x,List.mem_append_left _ hx,q⟩
  ·exact ⟨e,by simp,q⟩
end Sh
namespace Tim
open PySem PySem.W PyProof.Rows
section
variable {M:Model} {A:Around} {E:Value→Shared→Prop} {σ:Type}
end
section
variable {prog:Program} {w:World} {A:Around} {E:Value→Shared→Prop}
variable {κ:SortKind} {ϕ:Keyed→Nat} {U:Keyed→Prop} {G:Shared→Prop}
end
end Tim
namespace Tim
open PySem PySem.W PyProof.Rows
section
variable {ϕ:Keyed→Nat} {T o X Y x y:List Keyed}
end
section
variable {prog:Program} {w:World} {A:Around} {E:Value→Shared→Prop} {κ:SortKind} {ϕ:Keyed→Nat} {U:Keyed→Prop} {G:Shared→Prop}
end
end Tim
namespace Tim
open PySem PySem.W PyProof.Rows
section
variable {ϕ:Keyed→Nat} {T O X Y x y:List Keyed}
end
section
variable {prog:Program} {w:World} {A:Around} {E:Value→Shared→Prop} {κ:SortKind} {ϕ:Keyed→Nat} {U:Keyed→Prop} {G:Shared→Prop}
end
end Tim
namespace Tim
open PySem PySem.W PyProof.Rows
section
variable {prog:Program} {w:World} {A:Around} {E:Value→Shared→Prop} {κ:SortKind} {ϕ:Keyed→Nat} {U:Keyed→Prop} {G:Shared→Prop}
end
end Tim
namespace Tim
open PySem PySem.W PyProof.Rows
section
variable {ϕ:Keyed→Nat}
end
section
variable {prog:Program} {w:World} {A:Around} {E:Value→Shared→Prop} {κ:SortKind} {ϕ:Keyed→Nat} {U:Keyed→Prop} {G:Shared→Prop}
end
end Tim
namespace Tim
open PySem PySem.W PyProof.Rows
section
variable {prog:Program} {w:World} {A:Around} {E:Value→Shared→Prop} {κ:SortKind} {ϕ:Keyed→Nat} {U:Keyed→Prop} {G:Shared→Prop}
end
end Tim
namespace Tim
open PySem PySem.W PyProof.Rows
section
variable {prog:Program} {w:World} {A:Around} {E:Value→Shared→Prop} {s:Shared}
end
end Tim
namespace Tim
open PySem PySem.W PyProof.Rows
section
variable {prog:Program} {w:World} {A:Around} {E:Value→Shared→Prop} {s:Shared}
def ltS (xs:List Str) (i j:Nat):Bool:=decide ((xs.getD i "").cps.toList < (xs.getD j "").cps.toList)
theorem strs_at:∀ {vs:List Value} {xs:List Str},StrsAre vs xs→∀ (i:Nat) (v:Value),vs[i]?=some v→∃ t,v = .str (xs.getD i "") t∧xs[i]?=some (xs.getD i "")
 | _,_,.nil,i,v,h=>by simp at h
 | _,_,.cons y t r,0,v,h=>by
  simp at h
  exact ⟨t,by rw [← h]; rfl,rfl⟩
 | _,_,.cons y t r,i + 1,v,h=>by
  obtain ⟨t',e1,e2⟩:=strs_at r i v (by simpa using h)
  exact ⟨t',by rw [e1]; rfl,by simpa using e2⟩
theorem strs_len:∀ {vs:List Value} {xs:List Str},StrsAre vs xs→vs.length=xs.length
 | _,_,.nil=>rfl
 | _,_,.cons y t r=>by simp [strs_len r]
theorem lt_ne {x y:Str} (h:¬ x.cps.toList < y.cps.toList) (h2:¬ x=y):y.cps.toList < x.cps.toList:=by
 by_cases c:y.cps.toList < x.cps.toList
 ·exact c
 ·have e:=List.le_antisymm (List.not_lt.mp c) (List.not_lt.mp h)
  exact absurd (by rw [← L2.tx_eta x,← L2.tx_eta y,e]) h2
end
end Tim
namespace L2
open PySem PySem.Spec PyProof.Rows PySem.W
section
variable {prog:Program} {w:World} {A:Around} {E:Value→Shared→Prop} {s:Shared}
theorem Zaw {n:Nat} (h:n≤1000):n≤sizeLine:=by rw [sizeLine_eq]; omega
theorem ZnN {xs:List Str} {n:Nat} {p:Array Nat} (hl:xs.length=n) (nd:xs.Nodup) (hp:Srt.Pm n p) (h:∀ i j,i < j→j < n→Tim.ltS xs (p.getD j 0) (p.getD i 0)=false):Srt.Up (ltX xs) p n:=fun i j hij hj=>by
 have h1:=h i j hij hj
 have bi:=hp.below (show i < n by omega)
 have bj:=hp.below hj
 have ne:=hp.ne (show i < n by omega) hj (by omega)
 unfold Tim.ltS at h1
 unfold ltX
 rw [decide_eq_false_iff_not] at h1
 rw [decide_eq_true_eq]
 refine Tim.lt_ne h1 fun e=>ne ?_
 rw [YA (by omega),YA (by omega)] at e
 exact ((List.getElem_inj nd).mp e).symm
end
theorem Zg4 {X:Cx} {pins:List (Addr × Obj)} {σ:St} {H:Hp} {s:Shared} {h3:Heap} {tk:Nat} {D:Addr} {vs:List V} (I:Inv X pins σ H s) (k:∀ b u,s.heap.get? b=some u→h3.get? b=some u) (hD:s.heap.get? D=none) (hz:vs.length≤sizeLine)
  (ho:∃ (its:List Value) (n:Nat),Vals vs its∧h3.get? D=some { cls:=.type "list",data:=.seq its.toArray n }):H D=none∧Inv X pins σ (upd H D (.lst vs)) { s with heap:=h3,toks:=tk }:=by
 have hn:H D=none:=by
  cases e:H D with
  | none=>rfl
  | some u =>
   obtain ⟨v,hv⟩:=(I.hok D u e).there'
   rw [hD] at hv
   cases hv
 refine ⟨hn,?_⟩
 have:=I.laidN (N:=fun b=>if b=D then some (.lst vs) else none) (tk:=tk) k fun a o e=>by
  by_cases c:a=D
  ·subst c
   rw [if_pos rfl] at e
   cases e
   exact ⟨hD,fun H2=>⟨hz,ho⟩⟩
  ·rw [if_neg c] at e
   cases e
 have e:(fun b=>(if b=D then some (HO.lst vs) else none).or (H b))=upd H D (.lst vs):=by
  funext b
  by_cases c:b=D
  ·subst c
   rw [if_pos rfl,Option.some_or,Zc]
  ·rw [if_neg c,Option.none_or,Zi c]
 rw [e] at this
 exact this
theorem ZaC {α:Type} {d:α} (ks:List α) (p:Array Nat) (hp:Srt.Pm ks.length p):(p.toList.map fun i=>ks.getD i d).Perm ks:=by
 have h1:=(Array.perm_iff_toList_perm.mp hp.perm).map fun i=>ks.getD i d
 have h2:((List.range ks.length).toArray.toList.map fun i=>ks.getD i d)=ks:=by
  apply List.ext_getElem?
  intro i
  simp only [List.getElem?_map]
  by_cases hi:i < ks.length
  ·rw [List.getElem?_range hi,List.getElem?_eq_getElem hi,Option.map_some,List.getD_eq_getElem?_getD,List.getElem?_eq_getElem hi]
   rfl
  ·rw [List.getElem?_eq_none (by simp; omega),List.getElem?_eq_none (by omega)]
   rfl
 rw [h2] at h1
 exact h1
theorem ZiR {n:Nat} {p:Array Nat} (hp:Srt.Pm n p) {i:Nat} (hi:i < p.toList.length):p.getD i 0=p.toList[i]:=by
 rw [Array.getD_eq_getD_getElem?,Array.getElem?_eq_getElem (by simpa using hi)]
 simp
theorem Zmi {xs:List Str} {p:Array Nat} (hp:Srt.Pm xs.length p) (h:∀ i j,i < j→j < xs.length→Tim.ltS xs (p.getD j 0) (p.getD i 0)=false):((p.toList.map fun i=>xs.getD i "").map fun x=>x.cps.toList).Pairwise (·≤·):=by
 rw [List.map_map,List.pairwise_map,List.pairwise_iff_getElem]
 intro i j hi hj hij
 have hz:p.toList.length=xs.length:=by rw [Array.length_toList,hp.size]
 have hu:=h i j hij (by omega)
 unfold Tim.ltS at hu
 rw [decide_eq_false_iff_not,ZiR hp hi,ZiR hp hj] at hu
 exact List.not_lt.mp hu
theorem Zg0:∀ {ks:List Str} {g:Str→V} {vs:List (Key × Value)},KV (ks.map fun x=>((Sum.inr x:Key),g x)) vs→∀ (i:Nat) (k:Key) (x:Value),vs[i]?=some (k,x)→k=Sum.inr (ks.getD i "")∧i < ks.length:=by
 intro ks g vs kv i k x e
 have ek:=congrArg (fun l:List Key=>l[i]?) kv.keys
 simp only [List.getElem?_map] at ek
 rw [e] at ek
 cases z:ks[i]? with
 | none=>rw [z] at ek; cases ek
 | some y =>
  rw [z] at ek
  refine ⟨?_,(List.getElem?_eq_some_iff.mp z).1⟩
  rw [List.getD_eq_getElem?_getD,z]
  exact (Option.some.inj ek).symm
end L2
namespace L2
open PySem PySem.Spec PyProof.Rows
theorem ZgK {t t':SetTable} {hs:Array Int} {n:Nat} {od:Array Nat} (h:t.relaid hs n=some (t',od)):t'.led=t.led∧t'.plain=t.plain:=by
 unfold SetTable.relaid SetTable.laid at h
 cases e:SetTable.layClean (SetTable.sizeAbove n - 1) hs with
 | none=>rw [e] at h; cases h
 | some ow =>
  rw [e] at h
  obtain ⟨h1,_⟩:=Prod.mk.inj (Option.some.inj h)
  rw [← h1]
  exact ⟨rfl,rfl⟩
theorem ZiN (t:SetTable) (es:Array (Int × Value)) (n:Nat):(relayAll t es n).2.1.led=t.led∧(t.plain=false→(relayAll t es n).2.1.plain=false):=by
 unfold relayAll
 split
 ·rename_i t' od e
  obtain ⟨e1,e2⟩:=ZgK e
  dsimp only
  split
  ·exact ⟨e1,fun h=>by rw [e2]; exact h⟩
  ·exact ⟨rfl,fun _=>rfl⟩
 ·exact ⟨rfl,fun _=>rfl⟩
theorem ZmU (t:SetTable) (es:Array (Int × Value)) (hh:Int) (x:Value):(layNew t es hh x).2.1.led=t.led∧(t.plain=false→(layNew t es hh x).2.1.plain=false):=by
 unfold layNew
 split
 ·dsimp only
  unfold SetTable.orStandIn
  split
  ·exact ⟨rfl,fun h=>h⟩
  ·exact ⟨rfl,fun _=>rfl⟩
 ·exact ⟨rfl,fun _=>rfl⟩
def byT (w:World):Bool:=w.params.followText "set-order"
structure StT (prog:Program) (w:World) (h:Heap) (a:Addr) (ks:List Str) (o:Obj) (es:Array (Int × Value)) (ep:Nat) (t:SetTable):Prop where
 ob:h.get? a=some o
 ex:o.ExactSet
 dt:o.data = .set es ep t
 el:ElemsOf (Zn prog w) es.toList
 mem:∀ k:Key,(∃ x,k=Sum.inr x∧x∈ks)↔∃ e∈es.toList,(Zn prog w).is k e.2=true
 len:es.size=ks.length
 nd:ks.Nodup
 fits:t.fits es.size=true
 led:t.led = !byT w
 plain:ks≠[]→t.plain=false
def SetT (prog:Program) (w:World) (h:Heap) (a:Addr) (ks:List Str):Prop:=∃ o es ep t,StT prog w h a ks o es ep t
section
variable {prog:Program} {w:World} {A:Around} {E:Value→Shared→Prop} {s:Shared}
theorem SetT.keep {h h':Heap} {a:Addr} {ks:List Str} (x:SetT prog w h a ks) (k:∀ o,h.get? a=some o→h'.get? a=some o):SetT prog w h' a ks:=by
 obtain ⟨o,es,ep,t,q⟩:=x
 exact ⟨o,es,ep,t,{ q with ob:=k o q.ob }⟩
def ZfH (ks:List Str) (x:Str):List Str:=if x∈ks then ks else ks ++ [x]
theorem addS_mem {ks:List Str} {x y:Str}:y∈ZfH ks x↔y∈ks∨y=x:=by
 unfold ZfH
 split
 ·rename_i c
  exact ⟨.inl,fun h=>h.elim id fun e=>e ▸ c⟩
 ·simp
theorem ZlX {ks:List Str} {x:Str} (h:ks.Nodup):(ZfH ks x).Nodup:=by
 unfold ZfH
 split
 ·exact h
 ·rename_i c
  exact List.nodup_append.mpr ⟨h,by simp,fun a ha b hb e=>by rw [List.mem_singleton.mp hb] at e; subst e; exact c ha⟩
theorem ZjF (ks:List Str) (x:Str):(ZfH ks x).length≤ks.length + 1:=by
 unfold ZfH
 split <;> simp
theorem Zd2 {h:Heap} {a:Addr} {o:Obj} {es es':Array (Int × Value)} {ep:Nat} {t t':SetTable} (ho:h.get? a=some o) (hd:o.data = .set es ep t):(h.update a (Obj.putSet es' t')).get? a=some { o with data:=.set es' (ep + 1) t' }:=by
 have:=Heap.get?_update_self (Obj.putSet es' t') ho (by rw [putSet_of es' t' hd]; rfl)
 rw [putSet_of es' t' hd] at this
 exact this
theorem ZdV {gg:Bool→Sem Unit} (hgg:∀ (b:Bool) (s₁:Shared) (Q':Unit→Shared→Prop),Q' () s₁→wpAny (model prog w) A (gg b) Q' E s₁) {a:Addr} {o:Obj} {es es1:Array (Int × Value)} {ep:Nat} {t t2:SetTable} {ks:List Str} (ho:s.heap.get? a=some o) (hd:o.data = .set es ep t)
  (S:∀ (h:Heap) (ob:Obj) (ep1:Nat) (es2:Array (Int × Value)) (t3:SetTable),h.get? a=some ob→ob.ExactSet→ob.data = .set es2 ep1 t3→List.Perm es2.toList es1.toList→t3.fits es2.size=true→t3.led=t2.led→(t2.plain=false→t3.plain=false)→SetT prog w h a ks) (hx:o.ExactSet) (hb:es1.size < scanBound) (hf:t2.fits es1.size=true) {wd:Bool} {R:Option Bool→Shared→Prop}
  (q:∀ h1,Heap.SameBut a s.heap h1→SetT prog w h1 a ks→R (some true) { s with heap:=h1 }) :
  wpAny (model prog w) A (do
    storeSet a es1 t2
    if (!wd && t2.tooFull)=true then do
      gg (relayAll t2 es1 (SetTable.grown es1.size)).2.2
      storeSet a (relayAll t2 es1 (SetTable.grown es1.size)).1 (relayAll t2 es1 (SetTable.grown es1.size)).2.1
      pure (some true)
     else pure (some true)) R E s:=by
 refine wpAny_bind (wpAny_storeSet_of ho hd ?_ (fits_of_scanBound hb))
 have o1:=Zd2 (es':=es1) (t':=t2) ho hd
 have m1:=Heap.SameBut.update s.heap a (Obj.putSet es1 t2)
 split
 ·have p:=relayAll_perm t2 es1 (SetTable.grown es1.size)
  have f:=relayAll_fits t2 es1 (SetTable.grown es1.size)
  obtain ⟨l1,l2⟩:=ZiN t2 es1 (SetTable.grown es1.size)
  generalize relayAll t2 es1 (SetTable.grown es1.size)=rl at p f l1 l2 ⊢
  have sz:rl.1.size=es1.size:=by rw [← Array.length_toList,p.length_eq,Array.length_toList]
  refine wpAny_bind (hgg _ _ _ (wpAny_bind (wpAny_storeSet_of o1 rfl ?_ (fits_of_scanBound (by rw [sz]; exact hb)))))
  exact wpAny_pure (q _ (m1.trans (Heap.SameBut.update _ a _)) (S _ _ _ rl.1 rl.2.1 (Zd2 o1 rfl) hx rfl p f l1 l2))
 ·exact wpAny_pure (q _ m1 (S _ _ _ es1 t2 o1 hx rfl (List.Perm.refl _) hf rfl fun z=>z))
theorem Zk0 {a:Addr} {ks:List Str} {x:Str} {tk:Tok} {Q:Bool→Shared→Prop} (hS:SetT prog w s.heap a ks) (hroom:ks.length + 1 < scanBound)
  (q:∀ (r:Bool) (h1:Heap),Heap.SameBut a s.heap h1→SetT prog w h1 a (ZfH ks x)→Q r { s with heap:=h1 }):wpAny (model prog w) A (setAddHashed a (.str x tk) ((Zn prog w).hash (Sum.inr x))) Q E s:=by
 obtain ⟨o,es,ep,t,T⟩:=hS
 have hkey:(Zn prog w).is (Sum.inr x:Key) (.str x tk)=true:=Xm prog w x tk
 have hb:es.size < scanBound:=by rw [T.len]; omega
 unfold setAddHashed setAddHashedIn
 refine wpAny_holding (wpAny_bind (wpAny_setState_of T.ob T.dt T.fits ?_))
 dsimp only
 rw [byScan_of (knd:=Zn prog w) rfl hb T.el]
 simp only [↓reduceIte]
 unfold setAddByScan
 refine wpAny_bind (wpAny_bind (wpAny_rule (wpAny_bind (wpAny_setScan_of hkey T.ob T.dt T.fits T.el ?_))))
 cases hr:List.findIdx? (fun e=>(Zn prog w).is (Sum.inr x:Key) e.2) es.toList with
 | some j =>
  dsimp only
  obtain ⟨hj,hpj,_⟩:=List.findIdx?_eq_some_iff_getElem.mp hr
  obtain ⟨y,ey,hy⟩:=(T.mem (Sum.inr x)).mpr ⟨es.toList[j],List.getElem_mem hj,hpj⟩
  cases ey
  refine wpAny_pure (wpAny_pure ?_)
  have es0:s={ s with heap:=s.heap }:=by cases s; rfl
  rw [es0]
  refine q _ s.heap (Heap.SameBut.refl a s.heap) ?_
  unfold ZfH
  rw [if_pos hy]
  exact ⟨o,es,ep,t,T⟩
 | none =>
  dsimp only
  have hx:x∉ks:=fun hx=>by
   obtain ⟨e,he,hp⟩:=(T.mem (Sum.inr x)).mp ⟨x,rfl,hx⟩
   have:=List.findIdx?_eq_none_iff.mp hr e he
   rw [hp] at this
   cases this
  have perm:=layNew_perm t es ((Zn prog w).hash (Sum.inr x)) (.str x tk)
  have fit:=layNew_fits t es ((Zn prog w).hash (Sum.inr x)) (.str x tk)
  obtain ⟨l1,l2⟩:=ZmU t es ((Zn prog w).hash (Sum.inr x)) (.str x tk)
  generalize layNew t es ((Zn prog w).hash (Sum.inr x)) (.str x tk)=L at perm fit l1 l2 ⊢
  obtain ⟨es1,t1,wd,gave⟩:=L
  dsimp only at perm fit l1 l2 ⊢
  rw [Array.toList_push] at perm
  have sz1:es1.size=ks.length + 1:=by rw [← Array.length_toList,perm.length_eq,List.length_append,Array.length_toList,T.len]; rfl
  refine wpAny_bind ?_
  have hgw:∀ (b:Bool) (s₁:Shared) (Q':Unit→Shared→Prop),Q' () s₁→wpAny (model prog w) A (match b with | true=>rule "set.scan.the-table-gave-way" | false=>pure ()) Q' E s₁:=fun b s₁ Q' hq=>by cases b <;> first | exact wpAny_pure hq | exact wpAny_rule hq
  refine hgw gave _ _ ?_
  have mk:∀ (t2:SetTable),t2.led=t1.led→t2.plain=false→∀ (h:Heap) (ob:Obj) (ep1:Nat) (es2:Array (Int × Value)) (t3:SetTable),h.get? a=some ob→ob.ExactSet→ob.data = .set es2 ep1 t3→List.Perm es2.toList es1.toList→t3.fits es2.size=true→t3.led=t2.led→(t2.plain=false→t3.plain=false)→SetT prog w h a (ZfH ks x):=by
   intro t2 e1 e2 h ob ep1 es2 t3 c1 c2 c3 c4 c5 c6 c7
   have pp:=c4.trans perm
   refine ⟨ob,es2,ep1,t3,c1,c2,c3,(T.el.push hkey rfl).perm pp,fun k=>?_,?_,ZlX T.nd,c5,by rw [c6,e1,l1,T.led],fun _=>c7 e2⟩
   ·constructor
    ·rintro ⟨y,rfl,hy⟩
     rcases addS_mem.mp hy with z | z
     ·obtain ⟨e,he,hp⟩:=(T.mem (Sum.inr y)).mp ⟨y,rfl,z⟩
      exact ⟨e,pp.mem_iff.mpr (List.mem_append_left _ he),hp⟩
     ·subst z
      exact ⟨_,pp.mem_iff.mpr (List.mem_append_right _ (List.mem_singleton.mpr rfl)),hkey⟩
    ·rintro ⟨e,he,hp⟩
     rcases List.mem_append.mp (pp.mem_iff.mp he) with z | z
     ·obtain ⟨y,ey,hy⟩:=(T.mem k).mpr ⟨e,z,hp⟩
      exact ⟨y,ey,addS_mem.mpr (.inl hy)⟩
     ·rw [List.mem_singleton.mp z] at hp
      exact ⟨x,(Zn prog w).inj _ _ _ hp hkey,addS_mem.mpr (.inr rfl)⟩
   ·rw [← Array.length_toList,c4.length_eq,Array.length_toList,sz1]
    unfold ZfH
    rw [if_neg hx,List.length_append]
    rfl
  split
  ·refine wpAny_bind ?_
   rw [hashByValue_scannable 8 (x:=.str x tk) rfl]
   refine wpAny_pure ?_
   refine ZdV (t2:=if plainKind (.str x tk)=true then t1 else { t1 with plain:=false }) hgw T.ob T.dt (mk _ rfl rfl) T.ex (by rw [sz1]; exact hroom) (SetTable.fits_plain_off fit) fun h1 m hS'=>?_
   exact wpAny_pure (q _ h1 m hS')
  ·rename_i hpl
   refine wpAny_bind (wpAny_pure ?_)
   simp only [↓reduceIte]
   refine ZdV hgw T.ob T.dt (mk t1 rfl (by simpa using hpl)) T.ex (by rw [sz1]; exact hroom) fit fun h1 m hS'=>?_
   exact wpAny_pure (q _ h1 m hS')
end
def met (val:Nat→Str):Nat→List Str
 | 0=>[]
 | i + 1=>ZfH (met val i) (val i)
theorem Zdv (val:Nat→Str):∀ i,(met val i).length≤i
 | 0=>Nat.le_refl _
 | i + 1=>by
  have:=ZjF (met val i) (val i)
  have:=Zdv val i
  show (ZfH _ _).length≤_
  omega
theorem Zhp (val:Nat→Str):∀ i x,x∈met val i↔∃ j,j < i∧val j=x
 | 0,x=>by simp [met]
 | i + 1,x=>by
  show x∈ZfH _ _↔_
  rw [addS_mem,Zhp val i x]
  constructor
  ·rintro (⟨j,hj,e⟩ | e)
   ·exact ⟨j,by omega,e⟩
   ·exact ⟨i,by omega,e.symm⟩
  ·rintro ⟨j,hj,e⟩
   by_cases c:j=i
   ·subst c; exact .inr e.symm
   ·exact .inl ⟨j,by omega,e⟩
section
variable {prog:Program} {w:World} {A:Around} {R:Result→Shared→Prop} {J:Addr} {fp wr:List Addr} {G:Array GenState→Array GenState→Prop} {n:Nat} {P:Nat→Value→Prop} {St:Nat→Shared→Prop}
theorem ZfQ (W:WalksS prog w A.in1 J fp wr G n P St) (S:Addr) (hSf:S∉fp) (val:Nat→Str) (hval:∀ i v,P i v→∃ t,v = .str (val i) t) (hb:n + 1 < scanBound) :
  ∀ (k i:Nat) (s:Shared),n - i=k→i≤n→St i s→SetT prog w s.heap S (met val i)→(∀ s',Moved (S :: wr) G s s'→SetT prog w s'.heap S (met val n)→R (.ok (.ret .none)) s') →
   codeAny (model prog w) A (.builtin "set.update.loop" ⟨[.ref S,.ref J],[]⟩) R s:=by
 have hSw:S∉wr:=fun h=>hSf (W.sub _ h)
 have hsub:∀ b∈wr,b∈S :: wr:=fun b hb=>List.mem_cons_of_mem _ hb
 intro k
 induction k with
 | zero =>
  intro i s hk hi hst hS hR
  have hin:i=n:=by omega
  subst hin
  refine codeAny_builtin PyProof.Rows.F.entry_set_update_loop ?_
  rw [Around.under_plainId PyProof.Rows.F.plain_set_update_loop _]
  refine (show wpAny _ A.in1 (pyNext (.ref J) >>= _) _ _ s from wpAny_bind (W.done s _ _ hst fun s1 mv=>?_))
  exact (show wpAny _ A.in1 (ret Value.none) _ _ s1 from wpAny_pure (hR s1 (mv.mono hsub) (hS.keep fun o e=>mv.heap S o hSw e)))
 | succ k ih =>
  intro i s hk hi hst hS hR
  have hlt:i < n:=by omega
  refine codeAny_builtin PyProof.Rows.F.entry_set_update_loop ?_
  rw [Around.under_plainId PyProof.Rows.F.plain_set_update_loop _]
  refine (show wpAny _ A.in1 (pyNext (.ref J) >>= _) _ _ s from wpAny_bind (W.item i s _ _ hlt hst fun v s1 hP hst1 mv=>?_))
  obtain ⟨t,rfl⟩:=hval i v hP
  have hS1:SetT prog w s1.heap S (met val i):=hS.keep fun o e=>mv.heap S o hSw e
  refine (show wpAny _ A.in1 (holding [Value.str (val i) t] (setAdd S (.str (val i) t)) >>= _) _ _ s1 from wpAny_bind (wpAny_holding ?_))
  unfold setAdd
  refine wpAny_holding (wpAny_bind ((Zn prog w).pyHash (k:=(Sum.inr (val i):Key)) (Xm prog w (val i) t) ?_))
  refine Zk0 (s:={ s1 with toks:=s1.toks + 1 }) hS1 (by have:=Zdv val i; omega) fun r h1 sb hS2=>?_
  refine wpAny_pure ⟨plainId_quiet PyProof.Rows.F.plain_set_update_loop _,ih (i + 1) _ (by omega) hlt (W.frame _ s1 _ _ hst1 (Nat.le_succ _) fun b hb o e=>?_) hS2 fun s2 mv2 hS3=>?_⟩
  ·rw [sb.2 b (fun h:b=S=>hSf (by rw [← h]; exact hb))]; exact e
  ·refine hR s2 (Moved.trans W.gtrans ((mv.mono hsub).then_heap (Nat.le_succ _) fun b o hb e=>?_) mv2) hS3
   rw [sb.2 b (fun h:b=S=>hb (by rw [h]; exact List.mem_cons_self))]; exact e
end
section
variable {prog:Program} {w:World} {A:Around} {E:Value→Shared→Prop} {s:Shared}
theorem Zlo (a:Value) {Q1:Value→Shared→Prop}
  (q:Q1 (.ref s.heap.objs.size) { s with heap:=s.heap.push { cls:=.type "set",dict:=none,data:=.set #[] 0 (.fresh 0 0 (!byT w)) } }) :
  codeAny (model prog w) A (.call (.builtin "set.__new__") ⟨[.type "set",a],[]⟩) (wants Q1 E) s:=by
 refine codeAny_of_tree ?_
 refine (show wpAny _ A.in1 (do checkBuiltinCall "set.__new__" ⟨[.type "set",a],[]⟩; again (.builtin "set.__new__" ⟨[.type "set",a],[]⟩)) _ _ s from wpAny_bind (wpAny_of_eq (PySem.F.newCall_set_1 a) (wpAny_pure ⟨plainId_quiet PySem.F.plain_set_new _,codeAny_builtin PySem.F.entry_set_new ?_⟩)))
 rw [Around.under_plainId PySem.F.plain_set_new _]
 unfold Builtin.«set.__new__» Builtin.Frozenset.newClass
 have hsub:=sub_set_self
 obtain ⟨hp,gg,dd,tk,os⟩:=s
 dsimp only
 wp_walk
 refine wpAny_askSetting (wpAny_pure ?_)
 dsimp only
 simp only [newObj]
 exact wpAny_bind (wpAny_alloc (wpAny_pure (wpAny_pure q)))
theorem ZhQ {h:Heap} {a:Addr} (e:h.get? a=some { cls:=.type "set",dict:=none,data:=.set #[] 0 (.fresh 0 0 (!byT w)) }):SetT prog w h a [] :=
 ⟨_,#[],0,_,e,⟨rfl,rfl,rfl⟩,rfl,fun e he=>by simp at he,fun k=>by simp,rfl,List.nodup_nil,by rfl,rfl,fun z=>absurd rfl z⟩
theorem Zic {l:Addr} {items:Array Value} {ss:List Str} {Q:Value→Shared→Prop} (hh:A.handled=none) (hl:s.heap.IsList l items) (hi:StrsAre items.toList ss) (hb:items.size + 1 < scanBound)
  (q:∀ (h1:Heap) (tk:Nat),SetT prog w h1 s.heap.objs.size (met (fun i=>ss.getD i "") items.size)→(∀ b o,s.heap.get? b=some o→h1.get? b=some o)→Q (.ref s.heap.objs.size) { s with heap:=h1,toks:=tk }) :
  wpAny (model prog w) A (call (.type "set") [.ref l]) Q E s:=by
 obtain ⟨c,tl,hmro⟩:=PySem.F.called_set.mro
 have hmade:=PySem.F.called_set.made
 have hsub:=PySem.F.called_set.sub
 refine wpAny_call (codeAny_of_tree ?_)
 refine (show wpAny _ _ (callAny (.type "set") _) _ _ _ from wpAny_pure ⟨Code.quiet_builtin _ (by decide +kernel),codeAny_builtin PySem.F.entry_type_call ?_⟩)
 rw [Around.under_plain (weight_type_call_type "set" [.ref l] []) rfl]
 have h1:=PySem.F.called_set.notType
 have h2:=PySem.F.called_set.canCreate
 have hct:=PySem.F.typeCall_set_1 (.ref l)
 repeat (any_goals (first | assumption | wp_step))
 refine codeAny_mono (Zlo (.ref l) (E:=E) (Q1:=fun obj s1=>obj = .ref s.heap.objs.size∧s1={ s with heap:=s.heap.push { cls:=.type "set",dict:=none,data:=.set #[] 0 (.fresh 0 0 (!byT w)) } }) ⟨rfl,rfl⟩) fun r s1 hr=>?_
 cases r with
 | error e=>exact hr
 | ok fl =>
  cases fl with
  | ret obj =>
   obtain ⟨rfl,rfl⟩:=hr
   have gS:(s.heap.push { cls:=.type "set",dict:=none,data:=.set #[] 0 (.fresh 0 0 (!byT w)) }).get? s.heap.objs.size=some { cls:=.type "set",dict:=none,data:=.set #[] 0 (.fresh 0 0 (!byT w)) }:=Heap.get?_push_size _ rfl
   have hT:Shared.TypeIs { s with heap:=s.heap.push { cls:=.type "set",dict:=none,data:=.set #[] 0 (.fresh 0 0 (!byT w)) } } (.ref s.heap.objs.size) "set":=⟨_,gS,rfl⟩
   have hli:=PySem.F.called_set.init.lookup
   have hbi:=PySem.F.called_set.init.bind (.ref s.heap.objs.size)
   repeat (any_goals (first | assumption | wp_step))
   refine codeAny_mono (codeAny_call_builtin (R:=wants (fun r s2=>r = .none∧∃ g tk,s2={ s with heap:=g,toks:=tk }∧SetT prog w g s.heap.objs.size (met (fun i=>ss.getD i "") items.size)∧(∀ b o,s.heap.get? b=some o→g.get? b=some o)) E) PySem.F.called_set.init.plain PySem.F.entry_set_init (check_set_init_1 hT ?_)) fun r2 s2 hr2=>?_
   ·obtain ⟨ol,hol,hcl,nl,hdl⟩:=hl
    obtain ⟨ocls,odict,odata,oslots⟩:=ol
    simp only at hcl hdl
    subst hcl; subst hdl
    have hol':(s.heap.push { cls:=.type "set",dict:=none,data:=.set #[] 0 (.fresh 0 0 (!byT w)) }).get? l=some { cls:=.type "list",dict:=odict,data:=.seq items nl,slots:=oslots }:=Heap.get?_push_of_some _ hol
    have hsls:=PySem.F.sub_list_set
    have hslf:=PySem.F.sub_list_frozenset
    have hne:(Value.type "list" == Value.type "dict")=false:=by decide
    have hl1:(s.heap.push { cls:=.type "set",dict:=none,data:=.set #[] 0 (.fresh 0 0 (!byT w)) }).IsList l items:=⟨_,hol',rfl,nl,rfl⟩
    unfold Builtin.«set.__init__» noKeywords Builtin.Frozenset.updateFrom
    generalize hPI:pyIter=PI
    wp_walk
    subst hPI
    refine wpAny_pyIter_list hl1 (wpAny_bind (wpAny_runValue ?_))
    have hlS:l < s.heap.objs.size:=Heap.lt_size hol
    have hh3:A.in1.in1.in1.handled=none:=by simp [hh]
    have hneI:l≠(s.heap.push { cls:=.type "set",dict:=none,data:=.set #[] 0 (.fresh 0 0 (!byT w)) }).objs.size:=by
     rw [Heap.size_push]; exact Nat.ne_of_lt (Nat.lt_succ_of_lt hlS)
    have hSf:s.heap.objs.size∉[(s.heap.push { cls:=.type "set",dict:=none,data:=.set #[] 0 (.fresh 0 0 (!byT w)) }).objs.size,l]:=by
     rw [Heap.size_push]; simp only [List.mem_cons,List.not_mem_nil,or_false,not_or]
     exact ⟨Nat.ne_of_lt (Nat.lt_succ_self _),Nat.ne_of_gt hlS⟩
    have hval:∀ (i:Nat) (v:Value),items[i]?=some v→∃ t,v = .str ((fun i=>ss.getD i "") i) t:=fun i v hv=>by
     obtain ⟨t,e,_⟩:=Tim.strs_at hi i v (by rw [Array.getElem?_toList]; exact hv)
     exact ⟨t,e⟩
    refine ZfQ ((Walks.list hh3 _ l hneI items).toS) s.heap.objs.size hSf (fun i=>ss.getD i "") hval hb (items.size - 0) 0 _ (by omega) (Nat.zero_le _)
     ⟨⟨_,Heap.get?_push_size _ rfl,rfl,rfl⟩,(hl1.push _)⟩ (ZhQ (Heap.get?_push_of_some _ gS)) ?_
    intro s3 mv hS3
    obtain ⟨h3,g3,d3,t3,o3⟩:=s3
    have eg:g3=s.gens:=mv.gens
    have ed:d3=s.drawn:=mv.drawn
    have eo:o3=s.os:=mv.os
    subst eg; subst ed; subst eo
    refine wpAny_pure (show wpAny _ _ (ret Value.none) _ _ _ from wpAny_pure ⟨rfl,h3,t3,rfl,hS3,fun b o e=>?_⟩)
    have hb0:b < s.heap.objs.size:=Heap.lt_size e
    have hb2:b≠(s.heap.push { cls:=.type "set",dict:=none,data:=.set #[] 0 (.fresh 0 0 (!byT w)) }).objs.size:=by
     rw [Heap.size_push]; exact Nat.ne_of_lt (Nat.lt_succ_of_lt hb0)
    exact mv.heap b o (by simp only [List.mem_cons,List.not_mem_nil,or_false,not_or]; exact ⟨Nat.ne_of_lt hb0,hb2⟩) (Heap.get?_push_of_some _ (Heap.get?_push_of_some _ e))
   ·cases r2 with
    | error e=>exact hr2
    | ok fl2 =>
     cases fl2 with
     | ret r =>
      obtain ⟨rfl,g,tk,rfl,hS',hk'⟩:=hr2
      repeat (any_goals (first | assumption | wp_step))
      exact q _ _ hS' hk'
     | _=>exact hr2
  | _=>exact hr
end
theorem si_slot:Slot "set_iterator" "__next__" "set_iterator.__next__" :=
 .of (owner:="set_iterator") (n:="__next__") (by rw [typeLookup_type,builtinLookup_eq_fast]; kernel_rfl) (by decide +kernel) (by decide +kernel) (by decide +kernel) (by first | exact .inl (by decide +kernel) | exact .inr (by decide +kernel)) (by rw [isSubtype_type]; kernel_rfl)
theorem YX:entryFor table "set_iterator.__next__" = some Builtin.«set_iterator.__next__»:=entryFor_of_fast (by kernel_rfl)
theorem X0 (a:Value):argsOk "set_iterator.__next__" ⟨[a],[]⟩:=by unfold argsOk; kernel_rfl
theorem ZiA:entryFor table "set.__iter__" = some Builtin.«frozenset.__iter__» :=
 entryFor_alias (id':="frozenset.__iter__") (by kernel_rfl) (by first | rfl | decide +kernel | (unfold String.splitOn; simp +decide [String.splitOnAux])) (by decide +kernel) (by kernel_rfl)
theorem ZaN {α:Type} {l:List α} {i:Nat} (h:i < l.length):(l[i] :: l.eraseIdx i).Perm l:=by
 rw [List.eraseIdx_eq_take_drop_succ]
 have e:l=l.take i ++ l[i] :: l.drop (i + 1):=by rw [← List.drop_eq_getElem_cons h,List.take_append_drop]
 conv=>rhs; rw [e]
 exact List.perm_middle.symm
theorem ZgW {α:Type} (next:Nat→Nat):∀ (f k:Nat) (left:List α) (out:Array α),left.length≤f→(pickOrder.go next f k left out).toList.Perm (out.toList ++ left)
 | 0,k,left,out,h=>by
  have:left=[]:=List.length_eq_zero_iff.mp (by omega)
  subst this
  unfold pickOrder.go
  simp
 | f + 1,k,[],out,h=>by
  unfold pickOrder.go
  simp
 | f + 1,k,x :: left,out,h=>by
  unfold pickOrder.go
  have hi:next k % (x :: left).length < (x :: left).length:=Nat.mod_lt _ (by simp)
  rw [List.getElem?_eq_getElem hi]
  dsimp only
  refine (ZgW next f (k + 1) _ _ ?_).trans ?_
  ·rw [List.length_eraseIdx,if_pos hi]
   simp at h ⊢
   omega
  ·rw [Array.toList_push,List.append_assoc]
   exact List.Perm.append_left _ (ZaN hi)
theorem JW {α:Type} (next:Nat→Nat) (xs:Array α):(pickOrder next xs).toList.Perm xs.toList:=by
 unfold pickOrder
 have:=ZgW next xs.size 0 xs.toList #[] (by simp)
 simpa using this
abbrev ZbO (h:Heap) (J:Addr) (f:Value) (i:Nat) (a:Addr) (n ep:Nat):Prop:=h.get? J=some { cls:=.type "set_iterator",dict:=none,data:=.fields #[f,.int i 0,.ref a,.int n 0,.int ep 0],slots:=#[] }
section
variable {prog:Program} {w:World} {A:Around} {E:Value→Shared→Prop} {s:Shared}
theorem ZbR {src:Source} {n:Nat} {Q:Nat→Shared→Prop} (hn:n≠0) (h:∀ i d,i < n→Q i { s with drawn:=d }):wpAny (model prog w) A (choose src n) Q E s :=
 fun _ _ _=>⟨hn,h _ _ (Nat.mod_lt _ (Nat.pos_of_ne_zero hn))⟩
theorem ZcH {α:Type}:∀ (n:Nat) (xs:List α) (s:Shared) {Q:List α→Shared→Prop},xs.length≤n→(∀ ys d,ys.Perm xs→Q ys { s with drawn:=d })→wpAny (model prog w) A (drawOrder n xs) Q E s
 | 0,xs,s,Q,hl,h=>by
  have:xs=[]:=List.length_eq_zero_iff.mp (by omega)
  subst this
  unfold drawOrder
  exact wpAny_pure (h [] s.drawn (List.Perm.refl _))
 | n + 1,[],s,Q,hl,h=>by
  unfold drawOrder
  exact wpAny_pure (h [] s.drawn (List.Perm.refl _))
 | n + 1,x :: xs,s,Q,hl,h=>by
  unfold drawOrder
  refine wpAny_bind (ZbR (by simp) fun i d hi=>?_)
  rw [List.getElem?_eq_getElem hi]
  dsimp only
  refine wpAny_bind (ZcH n ((x :: xs).eraseIdx i) { s with drawn:=d } ?_ fun ys d2 hp=>wpAny_pure (h _ d2 ?_))
  ·rw [List.length_eraseIdx]
   split <;> simp at * <;> omega
  ·exact (hp.cons _).trans (ZaN hi)
structure SeesS (h:Heap) (a:Addr) (o:Obj) (es:Array (Int × Value)) (ep:Nat) (t:SetTable) (n:Nat):Prop where
 ob:h.get? a=some o
 dt:o.data = .set es ep t
 fits:t.fits es.size=true
 len:es.size=n
theorem Z9 {a:Addr} {o:Obj} {es:Array (Int × Value)} {ep n:Nat} {t:SetTable} {Q:(Array (Int × Value) × Nat × SetTable)→Shared→Prop} (V:SeesS s.heap a o es ep t n) (q:Q (es,ep,t) s):wpAny (model prog w) A (setState a) Q E s:=wpAny_setState_of V.ob V.dt V.fits q
theorem Yt {J a:Addr} {f:Value} {i n ep:Nat} {o:Obj} {es:Array (Int × Value)} {t:SetTable} {Q:PySem.Fin→Shared→Prop} (hJ:ZbO s.heap J f i a n ep) (V:SeesS s.heap a o es ep t n)
  (q:wpAny (model prog w) A (if let .int slot _:=f then (do
    match ← setNext a slot.toNat (i:Int).toNat (ep:Int).toNat with
    | some (x,next) =>
     setField (.ref J) 0 (rawInt next)
     setField (.ref J) 1 (rawInt ((i:Int) + 1))
     ret x
    | none=>setField (.ref J) 2 .none; raiseNew (← newExc (.type "StopIteration") []))
   else (do
    let some places ← seqItems? f | unsupported "internal:set_iterator"
    match places[(i:Int).toNat]? with
    | some (.int place _) =>
     let x ← setNextDrawn a place.toNat (ep:Int).toNat
     setField (.ref J) 1 (rawInt ((i:Int) + 1))
     ret x
    | some _=>unsupported "internal:set_iterator"
    | none=>setField (.ref J) 0 (rawInt 0); setField (.ref J) 2 .none; raiseNew (← newExc (.type "StopIteration") []))) Q E s) :
  wpAny (model prog w) A (Builtin.«set_iterator.__next__» ⟨[.ref J],[]⟩) Q E s:=by
 refine (show wpAny _ _ (fieldsOf (.ref J) >>= _) _ _ s from wpAny_bind (wpAny_fieldsOf hJ rfl ?_))
 dsimp only
 refine wpAny_bind (wpAny_setEntries_of V.ob V.dt V.fits ?_)
 rw [if_neg (by rw [V.len]; simp)]
 exact q
theorem XY {J:Addr} {Q:PySem.Fin→Shared→Prop} {g0:Heap} (hh:A.handled=none)
  (q:∀ g e,(∀ c o,g0.get? c=some o→g.get? c=some o)→(∃ o,g.get? e=some o∧o.cls = .type "StopIteration")→E (.ref e) { s with heap:=g }) :
  wpAny (model prog w) A (do raiseNew (← newExc (.type "StopIteration") [])) Q E { s with heap:=g0 }:=by
 refine wpAny_bind ?_
 simp only [newExc,newTuple]
 refine wpAny_bind (wpAny_newObj_type (wpAny_bind (m:=firstArgMember _ _) (wpAny_of_eq (a:=Value.none) (by first | rfl | (simp only [firstArgMember]; rfl)) (wpAny_newObj_type ?_ (by size_fits)))) (by size_fits))
 simp only [raiseNew]
 refine wpAny_bind (wpAny_handled ?_)
 first | rw [show A.in1.handled=none from hh] | rw [hh]
 exact wpAny_bind (wpAny_pure (wpAny_throw (q _ _ (fun c o e=>Heap.get?_push_of_some _ (Heap.get?_push_of_some _ e)) ⟨_,Heap.get?_push_size _ rfl,rfl⟩)))
theorem ZiG {J T a:Addr} {i n ep p m:Nat} {o oT:Obj} {es:Array (Int × Value)} {t:SetTable} {pl:Array Value} {hx:Int} {x:Value} {Q:Value→Shared→Prop} (hJ:ZbO s.heap J (.ref T) i a n ep) (V:SeesS s.heap a o es ep t n)
  (gT:s.heap.get? T=some oT) (dT:oT.data = .seq pl m) (hp:pl[i]?=some (.int p 0)) (hx:es[p]?=some (hx,x)) (q:∀ g,ZbO g J (.ref T) (i + 1) a n ep→Heap.SameBut J s.heap g→Q x { s with heap:=g }) :
  wpAny (model prog w) A (Builtin.«set_iterator.__next__» ⟨[.ref J],[]⟩) (fun fin s'=>∃ v,fin = .done (.ret v)∧Q v s') E s:=by
 refine Yt hJ V ?_
 dsimp only
 refine wpAny_bind (wpAny_seqItems gT dT ?_)
 simp only [Int.toNat_natCast,hp]
 unfold setNextDrawn
 refine wpAny_bind (wpAny_bind (Z9 V ?_))
 dsimp only
 rw [if_neg (by simp),hx]
 refine wpAny_pure (wpAny_bind (wpAny_setField_rec hJ (by simp) fun g hg sb=>wpAny_pure ⟨x,rfl,q g ?_ sb⟩))
 have e:((i + 1:Nat):Int)=(i:Int) + 1:=by push_cast; rfl
 unfold ZbO
 rw [e]
 exact hg
theorem ZkZ {J T a:Addr} {i n ep m:Nat} {o oT:Obj} {es:Array (Int × Value)} {t:SetTable} {pl:Array Value} {Q:PySem.Fin→Shared→Prop} (hh:A.handled=none) (hJ:ZbO s.heap J (.ref T) i a n ep) (V:SeesS s.heap a o es ep t n)
  (gT:s.heap.get? T=some oT) (dT:oT.data = .seq pl m) (hp:pl[i]?=none) (q:∀ g e,(∀ c o,c≠J→s.heap.get? c=some o→g.get? c=some o)→(∃ o,g.get? e=some o∧o.cls = .type "StopIteration")→E (.ref e) { s with heap:=g }) :
  wpAny (model prog w) A (Builtin.«set_iterator.__next__» ⟨[.ref J],[]⟩) Q E s:=by
 refine Yt hJ V ?_
 dsimp only
 refine wpAny_bind (wpAny_seqItems gT dT ?_)
 simp only [Int.toNat_natCast,hp]
 refine wpAny_bind (wpAny_setField_rec hJ (by simp) fun g1 hg1 sb1=>wpAny_bind (wpAny_setField_rec hg1 (by simp) fun g2 hg2 sb2=>?_))
 exact XY (J:=J) hh fun g e k he=>q g e (fun c o hc z=>k c o (sb2.extBut _ _ hc (sb1.extBut _ _ hc z))) he
theorem ZiE {J a:Addr} {i n ep:Nat} {o:Obj} {es:Array (Int × Value)} {t:SetTable} {hx:Int} {x:Value} {Q:Value→Shared→Prop} (hb:byT w=true) (hJ:ZbO s.heap J (.int 0 0) i a n ep) (V:SeesS s.heap a o es ep t n)
  (hp:(pickOrder (w.params.setOrder a ep) es)[i]?=some (hx,x)) (q:∀ g,ZbO g J (.int 0 0) (i + 1) a n ep→Heap.SameBut J s.heap g→Q x { s with heap:=g }) :
  wpAny (model prog w) A (Builtin.«set_iterator.__next__» ⟨[.ref J],[]⟩) (fun fin s'=>∃ v,fin = .done (.ret v)∧Q v s') E s:=by
 refine Yt hJ V ?_
 dsimp only
 refine wpAny_bind ?_
 unfold setNext setsByText
 refine wpAny_bind (Z9 V ?_)
 dsimp only
 refine wpAny_bind (wpAny_bind (wpAny_askSetting (wpAny_pure ?_)))
 dsimp only
 rw [if_pos (show (model prog w).w.params.followText "set-order" = true from hb),if_neg (by simp)]
 unfold setWalk setsByText
 refine wpAny_bind (wpAny_bind (Z9 V ?_))
 dsimp only
 refine wpAny_bind (wpAny_bind (wpAny_askSetting (wpAny_pure ?_)))
 dsimp only
 rw [if_pos (show (model prog w).w.params.followText "set-order" = true from hb)]
 refine wpAny_bind (wpAny_askSetting (wpAny_pure (wpAny_pure ?_)))
 have hp':(pickOrder ((model prog w).w.params.setOrder a ep) es)[i]?=some (hx,x):=hp
 simp only [Int.toNat_natCast,hp',Option.map_some]
 refine wpAny_bind (wpAny_setField_rec hJ (by simp) fun g1 hg1 sb1=>wpAny_bind (wpAny_setField_rec hg1 (by simp) fun g2 hg2 sb2=>wpAny_pure ⟨x,rfl,q g2 ?_ (sb1.trans sb2)⟩))
 have e:((i + 1:Nat):Int)=(i:Int) + 1:=by push_cast; rfl
 unfold ZbO
 rw [e]
 exact hg2
theorem ZkX {J a:Addr} {i n ep:Nat} {o:Obj} {es:Array (Int × Value)} {t:SetTable} {Q:PySem.Fin→Shared→Prop} (hh:A.handled=none) (hb:byT w=true) (hJ:ZbO s.heap J (.int 0 0) i a n ep) (V:SeesS s.heap a o es ep t n)
  (hp:(pickOrder (w.params.setOrder a ep) es)[i]?=none) (q:∀ g e,(∀ c o,c≠J→s.heap.get? c=some o→g.get? c=some o)→(∃ o,g.get? e=some o∧o.cls = .type "StopIteration")→E (.ref e) { s with heap:=g }) :
  wpAny (model prog w) A (Builtin.«set_iterator.__next__» ⟨[.ref J],[]⟩) Q E s:=by
 refine Yt hJ V ?_
 dsimp only
 refine wpAny_bind ?_
 unfold setNext setsByText
 refine wpAny_bind (Z9 V ?_)
 dsimp only
 refine wpAny_bind (wpAny_bind (wpAny_askSetting (wpAny_pure ?_)))
 dsimp only
 rw [if_pos (show (model prog w).w.params.followText "set-order" = true from hb),if_neg (by simp)]
 unfold setWalk setsByText
 refine wpAny_bind (wpAny_bind (Z9 V ?_))
 dsimp only
 refine wpAny_bind (wpAny_bind (wpAny_askSetting (wpAny_pure ?_)))
 dsimp only
 rw [if_pos (show (model prog w).w.params.followText "set-order" = true from hb)]
 refine wpAny_bind (wpAny_askSetting (wpAny_pure (wpAny_pure ?_)))
 have hp':(pickOrder ((model prog w).w.params.setOrder a ep) es)[i]?=none:=hp
 simp only [Int.toNat_natCast,hp',Option.map_none]
 refine wpAny_bind (wpAny_setField_rec hJ (by simp) fun g1 hg1 sb1=>?_)
 exact XY (J:=J) hh fun g e k he=>q g e (fun c o hc z=>k c o (sb1.extBut _ _ hc z)) he
theorem ZaB {a:Addr} {sl i n ep:Nat} {o:Obj} {es:Array (Int × Value)} {t:SetTable} {Q:Option (Value × Nat)→Shared→Prop} (hb:byT w=false) (V:SeesS s.heap a o es ep t n) (hn:n≤1) (led:t.led=true)
  (q:Q (match es[SetTable.below t.place sl]?,t.place[SetTable.below t.place sl]? with
   | some (_,x),some j=>some (x,j + 1)
   | _,_=>none) s):wpAny (model prog w) A (setNext a sl i ep) Q E s:=by
 unfold setNext setsByText
 refine wpAny_bind (Z9 V ?_)
 dsimp only
 refine wpAny_bind (wpAny_bind (wpAny_askSetting (wpAny_pure ?_)))
 dsimp only
 rw [if_neg (by rw [show (model prog w).w.params.followText "set-order" = false from hb]; decide)]
 refine (show wpAny (model prog w) A (if (!t.plain && decide (es.size > 1))=true then _ else _) Q E s from ?_)
 rw [if_neg (by rw [V.len]; simp; omega)]
 refine (show wpAny (model prog w) A ((if (!t.led && !es.isEmpty)=true then unsupported "set:maker-not-led" else pure ()) >>= fun _=>_) Q E s from ?_)
 rw [led]
 simp only [Bool.not_true,Bool.false_and,Bool.false_eq_true,if_false]
 exact wpAny_bind (wpAny_pure (wpAny_pure q))
theorem ZiF {J a:Addr} {ep j:Nat} {o:Obj} {es:Array (Int × Value)} {t:SetTable} {hx:Int} {x:Value} {Q:Value→Shared→Prop} (hb:byT w=false) (led:t.led=true) (hJ:ZbO s.heap J (.int 0 0) 0 a 1 ep) (V:SeesS s.heap a o es ep t 1)
  (hj:t.place = #[j]) (hp:es[0]?=some (hx,x)) (q:∀ g,ZbO g J (.int ((j + 1:Nat):Int) 0) 1 a 1 ep→Heap.SameBut J s.heap g→Q x { s with heap:=g }) :
  wpAny (model prog w) A (Builtin.«set_iterator.__next__» ⟨[.ref J],[]⟩) (fun fin s'=>∃ v,fin = .done (.ret v)∧Q v s') E s:=by
 refine Yt hJ V ?_
 dsimp only
 refine wpAny_bind (ZaB hb V (Nat.le_refl _) led ?_)
 have hbw:SetTable.below t.place (0:Int).toNat=0:=by rw [hj]; rfl
 rw [hbw,hp,hj]
 refine wpAny_bind (wpAny_setField_rec hJ (by simp) fun g1 hg1 sb1=>wpAny_bind (wpAny_setField_rec hg1 (by simp) fun g2 hg2 sb2=>wpAny_pure ⟨x,rfl,q g2 hg2 (sb1.trans sb2)⟩))
theorem ZkY {J a:Addr} {sl i n ep:Nat} {o:Obj} {es:Array (Int × Value)} {t:SetTable} {Q:PySem.Fin→Shared→Prop} (hh:A.handled=none) (hb:byT w=false) (led:t.led=true) (hJ:ZbO s.heap J (.int (sl:Int) 0) i a n ep) (V:SeesS s.heap a o es ep t n) (hn:n≤1)
  (hp:es[SetTable.below t.place sl]?=none) (q:∀ g e,(∀ c o,c≠J→s.heap.get? c=some o→g.get? c=some o)→(∃ o,g.get? e=some o∧o.cls = .type "StopIteration")→E (.ref e) { s with heap:=g }) :
  wpAny (model prog w) A (Builtin.«set_iterator.__next__» ⟨[.ref J],[]⟩) Q E s:=by
 refine Yt hJ V ?_
 dsimp only
 refine wpAny_bind (ZaB hb V hn led ?_)
 rw [Int.toNat_natCast,hp]
 refine wpAny_bind (wpAny_setField_rec hJ (by simp) fun g1 hg1 sb1=>?_)
 exact XY (J:=J) hh fun g e k he=>q g e (fun c o hc z=>k c o (sb1.extBut _ _ hc z)) he
end
theorem SeesS.keep {h h':Heap} {a:Addr} {o:Obj} {es:Array (Int × Value)} {ep n:Nat} {t:SetTable} (V:SeesS h a o es ep t n) (k:∀ o,h.get? a=some o→h'.get? a=some o):SeesS h' a o es ep t n:={ V with ob:=k o V.ob }
theorem Zgr:Slot "set_iterator" "__iter__" "set_iterator.__iter__" :=
 .of (owner:="set_iterator") (n:="__iter__") (by rw [typeLookup_type,builtinLookup_eq_fast]; kernel_rfl) (by decide +kernel) (by decide +kernel) (by decide +kernel) (by first | exact .inl (by decide +kernel) | exact .inr (by decide +kernel)) (by rw [isSubtype_type]; kernel_rfl)
theorem ZiC:entryFor table "set_iterator.__iter__" = some Builtin.«dict_keyiterator.__iter__» :=
 entryFor_alias (id':="dict_keyiterator.__iter__") (by kernel_rfl) (by first | rfl | decide +kernel | (unfold String.splitOn; simp +decide [String.splitOnAux])) (by decide +kernel) (by kernel_rfl)
theorem ZiD (a:Value):argsOk "set_iterator.__iter__" ⟨[a],[]⟩:=by unfold argsOk; kernel_rfl
theorem Zc7 {prog:Program} {w:World} {A:Around} {E:Value→Shared→Prop} {s:Shared} {J a:Addr} {f:Value} {i n ep:Nat} {Q:Value→Shared→Prop} (hJ:ZbO s.heap J f i a n ep) (h:Q (.ref J) s):wpAny (model prog w) A (pyIter (.ref J)) Q E s:=by
 refine wpAny_pyIter_slot ⟨_,hJ,rfl⟩ Zgr (wpAny_call_entry Zgr ⟨_,hJ,rfl⟩ ZiC ?_ (ZiD _))
 exact (show wpAny _ _ (ret (.ref J)) _ _ s from wpAny_pure ⟨_,rfl,"set_iterator",_,⟨_,hJ,rfl⟩,si_slot.lookup,h⟩)
section
variable {prog:Program} {w:World} {A:Around} {E:Value→Shared→Prop} {s:Shared}
abbrev Zkc (ord:Array (Int × Value)) (i:Nat) (v:Value):Prop:=∃ e,ord[i]?=some e∧v=e.2
theorem Znq (hh:A.handled=none) {J T a:Addr} {n ep:Nat} {o:Obj} {es:Array (Int × Value)} {t:SetTable} {ps:List Nat} (hJT:T≠J) (hJa:a≠J) (hps:ps.length=n) (hlt:∀ p∈ps,p < es.size) :
  Walks prog w A J [J,T,a] [J] n (Zkc (ps.map fun p=>es.getD p (0,.none)).toArray) (fun i h=>ZbO h J (.ref T) i a n ep∧(∃ oT m,h.get? T=some oT∧oT.data = .seq (ps.map fun p:Nat=>Value.int (p:Int) 0).toArray m)∧SeesS h a o es ep t n) where
 sub:=fun b hb=>by rw [List.mem_singleton.mp hb]; simp
 frame:=fun i h h' ⟨s1,⟨oT,m,g,d⟩,s3⟩ k=>⟨k J (by simp) _ s1,⟨oT,m,k T (by simp) _ g,d⟩,s3.keep fun o e=>k a (by simp) o e⟩
 item:=fun i s Q E hi ⟨s1,⟨oT,m,g,d⟩,s3⟩ q=>by
  have hi':i < ps.length:=by omega
  have hp:(ps.map fun p:Nat=>Value.int (p:Int) 0).toArray[i]?=some (.int (ps[i]:Nat) 0):=by simp [hi']
  have hpe:ps[i] < es.size:=hlt _ (List.getElem_mem hi')
  have hx:es[ps[i]]?=some (es[ps[i]].1,es[ps[i]].2):=by rw [Array.getElem?_eq_getElem hpe]
  unfold pyNext
  refine wpAny_bind (wpAny_attempt (wpAny_callSpecial?_slot (name:=Str.ofString "__next__") ⟨_,s1,rfl⟩ si_slot (wpAny_call_entry si_slot ⟨_,s1,rfl⟩ YX (ZiG s1 s3 g d hp hx fun g1 h1 sb=>wpAny_pure (q _ g1 s.toks ?_ ?_ ?_)) (X0 _))))
  ·refine ⟨es[ps[i]],?_,rfl⟩
   simp [hi',hpe]
  ·exact ⟨h1,⟨oT,m,sb.extBut _ _ hJT g,d⟩,s3.keep fun o e=>sb.extBut _ _ hJa e⟩
  ·exact fun b o hb e=>sb.extBut _ _ (fun z=>hb (by simp [z])) e
 done:=fun s Q E ⟨s1,⟨oT,m,g,d⟩,s3⟩ q=>by
  unfold pyNext
  refine wpAny_bind (wpAny_attempt (wpAny_callSpecial?_slot (name:=Str.ofString "__next__") ⟨_,s1,rfl⟩ si_slot (wpAny_call_entry si_slot ⟨_,s1,rfl⟩ YX (ZkZ hh s1 s3 g d (by simp [hps]) fun g1 e k ⟨oe,ge,ce⟩=>?_) (X0 _))))
  exact wpAny_bind (wpAny_isInstance (T:="StopIteration") (b:=true) ⟨oe,ge,ce⟩ isSubtype_stop (wpAny_pure (q g1 s.toks fun b o hb z=>k b o (fun y=>hb (by simp [y])) z)))
 self:=fun i s Q E ⟨s1,_⟩ q=>Zc7 s1 q
theorem Zno (hh:A.handled=none) (hb:byT w=true) {J a:Addr} {n ep:Nat} {o:Obj} {es:Array (Int × Value)} {t:SetTable} (hJa:a≠J) (hn:es.size=n) :
  Walks prog w A J [J,a] [J] n (Zkc (pickOrder (w.params.setOrder a ep) es)) (fun i h=>ZbO h J (.int 0 0) i a n ep∧SeesS h a o es ep t n) where
 sub:=fun b hb=>by rw [List.mem_singleton.mp hb]; simp
 frame:=fun i h h' ⟨s1,s3⟩ k=>⟨k J (by simp) _ s1,s3.keep fun o e=>k a (by simp) o e⟩
 item:=fun i s Q E hi ⟨s1,s3⟩ q=>by
  have hsz:(pickOrder (w.params.setOrder a ep) es).size=n:=by rw [← Array.length_toList,(JW _ es).length_eq,Array.length_toList,hn]
  have hx:(pickOrder (w.params.setOrder a ep) es)[i]?=some ((pickOrder (w.params.setOrder a ep) es)[i]'(by omega)):=Array.getElem?_eq_getElem (by omega)
  unfold pyNext
  refine wpAny_bind (wpAny_attempt (wpAny_callSpecial?_slot (name:=Str.ofString "__next__") ⟨_,s1,rfl⟩ si_slot (wpAny_call_entry si_slot ⟨_,s1,rfl⟩ YX (ZiE hb s1 s3 hx fun g1 h1 sb=>wpAny_pure (q _ g1 s.toks ⟨_,hx,rfl⟩ ⟨h1,s3.keep fun o e=>sb.extBut _ _ hJa e⟩ fun b o hb e=>sb.extBut _ _ (fun z=>hb (by simp [z])) e)) (X0 _))))
 done:=fun s Q E ⟨s1,s3⟩ q=>by
  have hsz:(pickOrder (w.params.setOrder a ep) es).size=n:=by rw [← Array.length_toList,(JW _ es).length_eq,Array.length_toList,hn]
  unfold pyNext
  refine wpAny_bind (wpAny_attempt (wpAny_callSpecial?_slot (name:=Str.ofString "__next__") ⟨_,s1,rfl⟩ si_slot (wpAny_call_entry si_slot ⟨_,s1,rfl⟩ YX (ZkX hh hb s1 s3 (Array.getElem?_eq_none (by omega)) fun g1 e k ⟨oe,ge,ce⟩=>?_) (X0 _))))
  exact wpAny_bind (wpAny_isInstance (T:="StopIteration") (b:=true) ⟨oe,ge,ce⟩ isSubtype_stop (wpAny_pure (q g1 s.toks fun b o hb z=>k b o (fun y=>hb (by simp [y])) z)))
 self:=fun i s Q E ⟨s1,_⟩ q=>Zc7 s1 q
theorem Znp (hh:A.handled=none) (hb:byT w=false) {J a:Addr} {n ep:Nat} {o:Obj} {es:Array (Int × Value)} {t:SetTable} (hJa:a≠J) (hn:es.size=n) (h1:n≤1) (led:t.led=true) (hf:t.fits es.size=true) :
  Walks prog w A J [J,a] [J] n (Zkc es) (fun i h=>(∃ sl:Nat,ZbO h J (.int (sl:Int) 0) i a n ep∧(i < n→sl=0)∧(i=n→es[SetTable.below t.place sl]?=none))∧SeesS h a o es ep t n) where
 sub:=fun b hb=>by rw [List.mem_singleton.mp hb]; simp
 frame:=fun i h h' ⟨⟨sl,s1,s2⟩,s3⟩ k=>⟨⟨sl,k J (by simp) _ s1,s2⟩,s3.keep fun o e=>k a (by simp) o e⟩
 item:=fun i s Q E hi ⟨⟨sl,s1,s2,_⟩,s3⟩ q=>by
  have hn1:n=1:=by omega
  have hi0:i=0:=by omega
  subst hi0
  have hsl:=s2 hi
  subst hsl
  subst hn1
  have hpz:t.place.size=1:=by
   simp only [SetTable.fits,Bool.and_eq_true,beq_iff_eq] at hf
   omega
  obtain ⟨j,hj⟩:∃ j,t.place = #[j]:=by
   generalize t.place=pl at hpz
   obtain ⟨l⟩:=pl
   match l,hpz with
   | [j],_=>exact ⟨j,rfl⟩
  have hx:es[0]?=some es[0]:=Array.getElem?_eq_getElem (by omega)
  unfold pyNext
  refine wpAny_bind (wpAny_attempt (wpAny_callSpecial?_slot (name:=Str.ofString "__next__") ⟨_,s1,rfl⟩ si_slot (wpAny_call_entry si_slot ⟨_,s1,rfl⟩ YX (ZiF hb led s1 s3 hj hx fun g1 hg1 sb=>wpAny_pure (q _ g1 s.toks ⟨_,hx,rfl⟩ ⟨⟨j + 1,hg1,fun z=>absurd z (by omega),fun _=>?_⟩,s3.keep fun o e=>sb.extBut _ _ hJa e⟩ fun b o hb e=>sb.extBut _ _ (fun z=>hb (by simp [z])) e)) (X0 _))))
  have hbw:SetTable.below t.place (j + 1)=1:=by
   rw [hj]
   unfold SetTable.below
   show SetTable.below.go #[j] (j + 1) 1 0 1=1
   unfold SetTable.below.go
   rw [if_pos (by omega)]
   dsimp only
   rw [if_pos (by simp)]
   rfl
  rw [hbw]
  exact Array.getElem?_eq_none (by omega)
 done:=fun s Q E ⟨⟨sl,s1,_,s2⟩,s3⟩ q=>by
  unfold pyNext
  refine wpAny_bind (wpAny_attempt (wpAny_callSpecial?_slot (name:=Str.ofString "__next__") ⟨_,s1,rfl⟩ si_slot (wpAny_call_entry si_slot ⟨_,s1,rfl⟩ YX (ZkY hh hb led s1 s3 h1 (s2 rfl) fun g1 e k ⟨oe,ge,ce⟩=>?_) (X0 _))))
  exact wpAny_bind (wpAny_isInstance (T:="StopIteration") (b:=true) ⟨oe,ge,ce⟩ isSubtype_stop (wpAny_pure (q g1 s.toks fun b o hb z=>k b o (fun y=>hb (by simp [y])) z)))
 self:=fun i s Q E ⟨⟨sl,s1,_⟩,_⟩ q=>Zc7 s1 q
end
end L2
namespace L2
open PySem PySem.Spec PyProof.Rows PySem.W
section
variable {prog:Program} {w:World} {A:Around} {E:Value→Shared→Prop} {s:Shared}
theorem range_getD {es:Array (Int × Value)} {ps:List Nat} (h:ps.Perm (List.range es.size)):(ps.map fun p=>es.getD p (0,.none)).Perm es.toList:=by
 have h1:=h.map fun p=>es.getD p (0,.none)
 have h2:((List.range es.size).map fun p=>es.getD p (0,.none))=es.toList:=by
  apply List.ext_getElem?
  intro i
  rw [List.getElem?_map]
  by_cases hi:i < es.size
  ·rw [List.getElem?_range hi,Array.getElem?_toList,Array.getElem?_eq_getElem hi]
   simp [hi]
  ·rw [List.getElem?_eq_none (by simp; omega),List.getElem?_eq_none (by simp; omega)]
   rfl
 rw [h2] at h1
 exact h1
theorem Zjh {A':Around} {a:Addr} {ks:List Str} {o:Obj} {es:Array (Int × Value)} {ep:Nat} {t:SetTable} {Q:Value→Shared→Prop} (hh:A'.handled=none) (S:StT prog w s.heap a ks o es ep t) (hz:ks.length≤1000)
  (q:∀ (J:Addr) (h1:Heap) (d:Drawn) (ord:Array (Int × Value)) (fp:List Addr) (St:Nat→Heap→Prop),ord.toList.Perm es.toList→Walks prog w A' J fp [J] ks.length (Zkc ord) St→St 0 h1→(∀ b∈fp,b=a∨s.heap.objs.size≤b)→s.heap.objs.size≤J →
   (∀ b u,s.heap.get? b=some u→h1.get? b=some u)→Q (.ref J) { s with heap:=h1,drawn:=d }):wpAny (model prog w) A (pyIter (.ref a)) Q E s:=by
 have hT:s.TypeIs (.ref a) "set":=⟨o,S.ob,S.ex.1⟩
 have V:SeesS s.heap a o es ep t ks.length:=⟨S.ob,S.dt,S.fits,S.len⟩
 have ha:a < s.heap.objs.size:=Heap.lt_size S.ob
 have es0:s={ s with heap:=s.heap,drawn:=s.drawn }:=by cases s; rfl
 refine wpAny_pyIter_slot hT PySem.F.slot_set_iter (wpAny_call_entry PySem.F.slot_set_iter hT ZiA ?_ (PySem.F.args_set_iter_1 _))
 unfold Builtin.«frozenset.__iter__»
 refine (show wpAny _ _ (Builtin.Frozenset.sizeOf a >>= _) _ _ s from wpAny_bind ?_)
 unfold Builtin.Frozenset.sizeOf
 refine wpAny_bind (wpAny_setEntries_of V.ob V.dt V.fits (wpAny_pure ?_))
 dsimp only
 unfold setDrawn setsByText
 refine wpAny_bind (wpAny_bind (Z9 V ?_))
 dsimp only
 refine wpAny_bind (wpAny_bind (wpAny_askSetting (wpAny_pure (wpAny_pure ?_))))
 have lift1:∀ (x:Bool) (h:x=(!byT w && (!t.plain && decide (es.size > 1)))),x=(!(model prog w).w.params.followText "set-order" && (!t.plain && decide (es.size > 1))):=fun x h=>h
 by_cases c:(!byT w && (!t.plain && decide (es.size > 1)))=true
 ·refine (show wpAny (model prog w) _ (if (!byT w && (!t.plain && decide (es.size > 1)))=true then _ else _) _ _ s from ?_)
  rw [if_pos c]
  refine wpAny_bind (ZcH es.size (List.range es.size) s (by simp) fun ps d hp=>?_)
  have hpl:ps.length=ks.length:=by rw [hp.length_eq,List.length_range,S.len]
  refine wpAny_bind (wpAny_newTuple ?_ (by rw [List.length_map]; exact Zaw (by omega)))
  have V1:SeesS (s.heap.push { cls:=.type "tuple",data:=.seq (ps.map fun i:Nat=>rawInt i).toArray }) a o es ep t ks.length:=V.keep fun o e=>Heap.get?_push_of_some _ e
  refine wpAny_bind ?_
  unfold setEpoch
  refine wpAny_bind (Z9 (s:={ s with heap:=s.heap.push { cls:=.type "tuple",data:=.seq (ps.map fun i:Nat=>rawInt i).toArray },drawn:=d }) V1 (wpAny_pure ?_))
  refine wpAny_bind (wpAny_newObj_type (wpAny_pure ⟨_,rfl,"set_iterator",_,⟨_,Heap.get?_push_size _ rfl,rfl⟩,si_slot.lookup,?_⟩))
  have hsz:(s.heap.push { cls:=.type "tuple",data:=.seq (ps.map fun i:Nat=>rawInt i).toArray }).objs.size=s.heap.objs.size + 1:=Heap.size_push ..
  refine q _ _ d (ps.map fun p=>es.getD p (0,.none)).toArray [_,s.heap.objs.size,a] _ (range_getD hp) (Znq hh (T:=s.heap.objs.size) (a:=a) (ep:=ep) (o:=o) (es:=es) (t:=t) (by rw [hsz]; exact Nat.ne_of_lt (Nat.lt_succ_self _)) (by rw [hsz]; exact Nat.ne_of_lt (Nat.lt_succ_of_lt ha)) hpl fun p hpm=>List.mem_range.mp (hp.mem_iff.mp hpm)) ⟨?_,⟨_,_,Heap.get?_push_of_some _ (Heap.get?_push_size _ rfl),rfl⟩,V1.keep fun o e=>Heap.get?_push_of_some _ e⟩ ?_ (by rw [hsz]; exact Nat.le_succ _) fun b u e=>Heap.get?_push_of_some _ (Heap.get?_push_of_some _ e)
  ·unfold ZbO
   rw [Heap.get?_push_size _ rfl,S.len]
   rfl
  ·intro b hb
   rcases List.mem_cons.mp hb with z | z
   ·rw [z,hsz]; exact .inr (Nat.le_succ _)
   ·rcases List.mem_cons.mp z with z | z
    ·rw [z]; exact .inr (Nat.le_refl _)
    ·exact .inl (List.mem_singleton.mp z)
 ·refine (show wpAny (model prog w) _ (if (!byT w && (!t.plain && decide (es.size > 1)))=true then _ else _) _ _ s from ?_)
  rw [if_neg c]
  refine wpAny_bind (wpAny_pure (wpAny_bind ?_))
  unfold setEpoch
  refine wpAny_bind (Z9 V (wpAny_pure ?_))
  refine wpAny_bind (wpAny_newObj_type (wpAny_pure ⟨_,rfl,"set_iterator",_,⟨_,Heap.get?_push_size _ rfl,rfl⟩,si_slot.lookup,?_⟩))
  have fpk:∀ b∈[s.heap.objs.size,a],b=a∨s.heap.objs.size≤b:=fun b hb=>by
   rcases List.mem_cons.mp hb with z | z
   ·rw [z]; exact .inr (Nat.le_refl _)
   ·exact .inl (List.mem_singleton.mp z)
  have gJ:ZbO (s.heap.push { cls:=.type "set_iterator",data:=.fields #[rawInt 0,rawInt 0,.ref a,rawInt es.size,rawInt ep] }) s.heap.objs.size (.int 0 0) 0 a ks.length ep:=by
   unfold ZbO
   rw [Heap.get?_push_size _ rfl,S.len]
   rfl
  by_cases hb:byT w=true
  ·exact q _ _ s.drawn _ [s.heap.objs.size,a] _ (JW _ es) (Zno hh hb (o:=o) (t:=t) (Nat.ne_of_lt ha) S.len) ⟨gJ,V.keep fun o e=>Heap.get?_push_of_some _ e⟩ fpk (Nat.le_refl _) fun b u e=>Heap.get?_push_of_some _ e
  ·have hb':byT w=false:=by simpa using hb
   have led:t.led=true:=by rw [S.led,hb']; rfl
   have h1:ks.length≤1:=by
    rcases Nat.lt_or_ge 1 ks.length with z | z
    ·have hpf:=S.plain (fun e=>by rw [e] at z; simp at z)
     exact absurd (by rw [hb',hpf,S.len]; simp; omega) c
    ·exact z
   refine q _ _ s.drawn es [s.heap.objs.size,a] _ (List.Perm.refl _) (Znp hh hb' (o:=o) (t:=t) (ep:=ep) (Nat.ne_of_lt ha) S.len h1 led S.fits) ⟨⟨0,gJ,fun _=>rfl,fun z=>?_⟩,V.keep fun o e=>Heap.get?_push_of_some _ e⟩ fpk (Nat.le_refl _) fun b u e=>Heap.get?_push_of_some _ e
   have:es.size=0:=by rw [S.len]; exact z.symm
   exact Array.getElem?_eq_none (by omega)
end
theorem Zhd:∀ {ks xs:List Str},ks.Nodup→(∀ x∈ks,x∈xs)→xs.length=ks.length→xs.Perm ks
 | [],xs,_,_,hl=>by rw [List.length_eq_zero_iff.mp hl]
 | k :: ks,xs,nd,hs,hl=>by
  have nd':=List.nodup_cons.mp nd
  have hk:=hs k (List.mem_cons_self ..)
  have p:=List.perm_cons_erase hk
  refine p.trans (List.Perm.cons k (Zhd nd'.2 (fun x hx=>?_) ?_))
  ·have hne:x≠k:=fun e=>nd'.1 (e ▸ hx)
   exact (List.mem_erase_of_ne hne).mpr (hs x (List.mem_cons_of_mem _ hx))
  ·rw [List.length_erase_of_mem hk,hl]
   rfl
section
variable {prog:Program} {w:World} {A:Around} {E:Value→Shared→Prop} {s:Shared}
theorem Zjj {r:Addr} {Q:Bool→Shared→Prop} (hT:s.TypeIs (.ref r) "set") (q:Q false s):wpAny (model prog w) A (Builtin.List.listLengthHint (.ref r)) Q E s:=by
 unfold Builtin.List.listLengthHint
 refine wpAny_bind (wpAny_specialOf hT PySem.F.slot_set_len.lookup ?_)
 generalize hid:("set.__len__" : String)=nm
 wp_delta
 rw [show splitId nm=some ("set","__len__") from by subst hid; decide +kernel]
 subst hid
 refine wpAny_bind (wpAny_isInstance (T:="set") (b:=true) hT (by rw [isSubtype_type]; kernel_rfl) ?_)
 refine wpAny_ite_split (fun z=>absurd z (by decide)) fun _=>wpAny_ite_split (fun _=>?_) fun z=>absurd (by decide +kernel) z
 exact wpAny_bind (wpAny_typeOf hT (wpAny_pure q))
theorem ZfA {R:Result→Shared→Prop} {a S:Addr} {ks:List Str} {o:Obj} {es:Array (Int × Value)} {ep:Nat} {t:SetTable} {c₀:Nat} {res:Value} (hh:A.handled=none) (T:StT prog w s.heap a ks o es ep t) (hz:ks.length≤1000) (hSa:S≠a) (hS:s.heap.get? S=some { cls:=.type "list",data:=.seq #[] c₀ })
  (q:∀ h1 tk d acc c (ord:Array (Int × Value)),ord.toList.Perm es.toList→(∀ b u,b≠S→s.heap.get? b=some u→h1.get? b=some u)→h1.get? S=some { cls:=.type "list",dict:=none,data:=.seq acc c,slots:=#[] }→ItemsOf (Zkc ord) acc ks.length→R (.ok (.ret res)) { s with heap:=h1,toks:=tk,drawn:=d }) :
  wpAny (model prog w) A.in1 (Builtin.List.listExtendWith (.ref S) (.ref a) res) (fun fin s'=>match fin with | .done f=>R (.ok f) s' | .again c'=>c'.quiet=true∧codeAny (model prog w) A c' R s') (fun e s'=>R (.error e) s') s:=by
 have hT:s.TypeIs (.ref a) "set":=⟨o,T.ob,T.ex.1⟩
 have hSl:S < s.heap.objs.size:=Heap.lt_size hS
 unfold Builtin.List.listExtendWith
 refine wpAny_bind (wpAny_typeOf (T:="set") hT ?_)
 have h1:Builtin.List.listSameRef (.ref S) (.ref a)=false:=by simp [Builtin.List.listSameRef,hSa]
 have n1:(Value.type "set" == Value.type "list")=false:=by decide
 have n2:(Value.type "set" == Value.type "tuple")=false:=by decide
 simp only [h1,n1,n2,Bool.or_false,Bool.false_eq_true,if_false]
 refine wpAny_bind (Zjh (A':=A.in1) hh T hz fun J g d ord fp St hp W st hfp hJ kk=>?_)
 have gS:=kk _ _ hS
 have nf:S∉fp:=fun z=>by
  rcases hfp S z with y | y
  ·exact hSa y
  ·exact absurd hSl (Nat.not_lt.mpr y)
 have key:∀ (h:Heap) (c₁ tk:Nat),St 0 h→(∀ b u,b≠S→s.heap.get? b=some u→h.get? b=some u)→h.get? S=some { cls:=.type "list",data:=.seq #[] c₁ }→codeAny (model prog w) A (.builtin "list.extend.loop" ⟨[.ref S,.ref J,res],[]⟩) R { s with heap:=h,toks:=tk,drawn:=d }:=by
  intro h c₁ tk hst hk hS₁
  refine codeAny_extend_loopS W.toS (Zaw hz) S nf res ks.length 0 _ #[] c₁ rfl (Nat.zero_le _) hst hS₁ (ItemsOf.nil _) fun s2 acc c mv hS2 hacc=>?_
  rw [Moved.eq_with mv]
  refine q s2.heap s2.toks d acc c ord hp (fun b u hb e=>mv.heap b u (fun z=>?_) (hk b u hb e)) hS2 hacc
  rcases List.mem_cons.mp z with y | y
  ·exact hb y
  ·exact absurd (Heap.lt_size e) (by rw [List.mem_singleton.mp y]; exact Nat.not_lt.mpr hJ)
 refine wpAny_bind (wpAny_holding (Zjj (s:={ s with heap:=g,drawn:=d }) ⟨o,kk _ _ T.ob,T.ex.1⟩ ?_))
 refine wpAny_ite_split (fun _=>?_) (fun _=>wpAny_pure ⟨plainId_quiet PySem.F.plain_extend_loop _,key _ c₀ _ st (fun b u _ e=>kk b u e) gS⟩)
 refine wpAny_bind (wpAny_rule (wpAny_bind ?_))
 refine (show wpAny _ _ (updateSeq S (·.push .none) >>= fun _=>updateSeq S (·.pop)) _ _ _ from wpAny_bind (wpAny_updateSeq gS rfl ?_))
 have g2:=Heap.get?_update_self (Obj.mapSeq (·.push Value.none)) gS rfl
 refine wpAny_updateSeq (hz:=by seq_fits) g2 rfl ?_
 have g3:=Heap.get?_update_self (Obj.mapSeq (·.pop)) g2 rfl
 refine wpAny_pure ⟨plainId_quiet PySem.F.plain_extend_loop _,key _ _ _ (W.frame 0 _ _ st fun b hb u e=>?_) (fun b u hb e=>?_) g3⟩
 ·have ne:b≠S:=fun z=>nf (z ▸ hb)
  exact (Heap.get?_update_other _ _ (Ne.symm ne)).trans ((Heap.get?_update_other _ _ (Ne.symm ne)).trans e)
 ·exact (Heap.get?_update_other _ _ (Ne.symm hb)).trans ((Heap.get?_update_other _ _ (Ne.symm hb)).trans (kk _ _ e))
theorem ZdI {R:List Value→Shared→Prop} {a:Addr} {ks:List Str} {o:Obj} {es:Array (Int × Value)} {ep:Nat} {t:SetTable} (hh:A.handled=none) (T:StT prog w s.heap a ks o es ep t) (hz:ks.length≤1000)
  (q:∀ h1 tk d (acc:Array Value) (ord:Array (Int × Value)),ord.toList.Perm es.toList→(∀ b u,s.heap.get? b=some u→h1.get? b=some u)→ItemsOf (Zkc ord) acc ks.length→R acc.toList { s with heap:=h1,toks:=tk,drawn:=d }) :
  wpAny (model prog w) A (collect (.ref a)) R E s:=by
 have ha:a < s.heap.objs.size:=Heap.lt_size T.ob
 unfold collect
 refine wpAny_bind (wpAny_runValue (codeAny_builtin entry_proto_collect' ?_))
 rw [Around.under_plainId PySem.F.plain_proto_collect _]
 refine (show wpAny _ A.in1 (newList [] >>= fun l=>again (.builtin "list.__iadd__" ⟨[l,.ref a],[]⟩)) _ _ s from wpAny_bind (wpAny_newObj_type (wpAny_pure ⟨plainId_quiet PySem.F.plain_list_iadd _,codeAny_builtin entry_list_iadd' ?_⟩)))
 rw [Around.under_plainId PySem.F.plain_list_iadd _]
 have gS:(s.heap.push { cls:=.type "list",data:=.seq ([]:List Value).toArray }).get? s.heap.objs.size=some { cls:=.type "list",data:=.seq #[] }:=Heap.get?_push_size _ rfl
 show wpAny _ A.in1 (Builtin.List.listExtendWith (.ref s.heap.objs.size) (.ref a) (.ref s.heap.objs.size)) _ _ _
 have T1:StT prog w (s.heap.push { cls:=.type "list",data:=.seq ([]:List Value).toArray }) a ks o es ep t:={ T with ob:=Heap.get?_push_of_some _ T.ob }
 have key:=ZfA (A:=A) (s:={ s with heap:=s.heap.push { cls:=.type "list",data:=.seq ([]:List Value).toArray } })
  (R:=fun (z:Result) (s':Shared)=>∃ (g:Heap) (tk:Nat) (d:Drawn) (acc:Array Value) (c:Nat) (ord:Array (Int × Value)),z = .ok (.ret (.ref s.heap.objs.size))∧s'={ s with heap:=g,toks:=tk,drawn:=d }∧ord.toList.Perm es.toList ∧
   (∀ b u,s.heap.get? b=some u→g.get? b=some u)∧g.get? s.heap.objs.size=some { cls:=.type "list",dict:=none,data:=.seq acc c,slots:=#[] }∧ItemsOf (Zkc ord) acc ks.length)
  (S:=s.heap.objs.size) (res:=.ref s.heap.objs.size) (c₀:=0) hh T1 hz (Nat.ne_of_gt ha) gS (fun g tk d acc c ord hp kk gS2 hacc=>⟨g,tk,d,acc,c,ord,rfl,rfl,hp,fun b u e=>kk b u (Nat.ne_of_lt (Heap.lt_size e)) (Heap.get?_push_of_some _ e),gS2,hacc⟩)
 refine wpAny_mono key (fun fin s' x=>?_) fun e s' x=>?_
 ·cases fin with
  | done f =>
   obtain ⟨g,tk,d,acc,c,ord,e,rfl,hp,kk,gS2,hacc⟩:=x
   cases e
   exact (show wpAny _ A (load s.heap.objs.size >>= _) _ _ _ from wpAny_bind (wpAny_load gS2 (wpAny_pure (q g tk d acc ord hp kk hacc))))
  | again c1 =>
   refine ⟨x.1,codeAny_mono x.2 fun z s2 y=>?_⟩
   obtain ⟨g,tk,d,acc,c,ord,rfl,rfl,hp,kk,gS2,hacc⟩:=y
   exact (show wpAny _ A (load s.heap.objs.size >>= _) _ _ _ from wpAny_bind (wpAny_load gS2 (wpAny_pure (q g tk d acc ord hp kk hacc))))
 ·obtain ⟨_,_,_,_,_,_,z,_⟩:=x
  cases z
theorem Zgw {h:Heap} {a:Addr} {ks:List Str} {o:Obj} {es:Array (Int × Value)} {ep:Nat} {t:SetTable} (T:StT prog w h a ks o es ep t) {ord:Array (Int × Value)} (hp:ord.toList.Perm es.toList) {acc:Array Value} (hacc:ItemsOf (Zkc ord) acc ks.length) :
  ∃ xs:List Str,xs.Perm ks∧StrsAre acc.toList xs:=by
 have hol:ord.toList.length=ks.length:=by rw [hp.length_eq,Array.length_toList,T.len]
 have el:∀ e∈ord.toList,∃ x tk,e.2 = .str x tk∧x∈ks:=fun e he=>by
  have hm:=hp.mem_iff.mp he
  obtain ⟨⟨k,hk,_⟩,_⟩:=T.el e hm
  obtain ⟨x,ek,hx⟩:=(T.mem k).mpr ⟨e,hm,hk⟩
  subst ek
  rcases keyIs_shape (show J8 (Sum.inr x) e.2=true from hk) with ⟨j,t,e4,_⟩ | ⟨z,t,e4,e5⟩
  ·cases e4
  ·injection e4 with e4
   exact ⟨x,t,by rw [e5,e4],hx⟩
 have key:∀ (l:List (Int × Value)),(∀ e∈l,∃ x tk,e.2 = .str x tk∧x∈ks)→∃ xs:List Str,StrsAre (l.map (·.2)) xs∧(∀ x∈xs,x∈ks)∧xs.length=l.length∧∀ x,(∃ e∈l,J8 (Sum.inr x) e.2=true)→x∈xs:=by
  intro l
  induction l with
  | nil=>exact fun _=>⟨[],.nil,(fun x hx=>by cases hx),rfl,(fun x ⟨e,he,_⟩=>by cases he)⟩
  | cons e l ih =>
   intro hl
   obtain ⟨xs,h1,h2,h3,h4⟩:=ih fun e he=>hl e (List.mem_cons_of_mem _ he)
   obtain ⟨x,tk,ex,hx⟩:=hl e (List.mem_cons_self ..)
   refine ⟨x :: xs,?_,fun y hy=>?_,by simp [h3],fun y ⟨e',he',hk⟩=>?_⟩
   ·rw [List.map_cons,ex]
    exact .cons x tk h1
   ·rcases List.mem_cons.mp hy with z | z
    ·rw [z]; exact hx
    ·exact h2 y z
   ·rcases List.mem_cons.mp he' with z | z
    ·subst z
     rw [ex] at hk
     rcases keyIs_shape hk with ⟨j,t,e4,_⟩ | ⟨z,t,e4,e5⟩
     ·cases e4
     ·injection e4 with e4
      injection e5 with e5 _
      rw [e4,← e5]
      exact List.mem_cons_self ..
    ·exact List.mem_cons_of_mem _ (h4 y ⟨e',z,hk⟩)
 obtain ⟨xs,h1,h2,h3,h4⟩:=key ord.toList el
 have hsub:∀ x∈ks,x∈xs:=fun x hx=>by
  obtain ⟨e,he,hk⟩:=(T.mem (Sum.inr x)).mp ⟨x,rfl,hx⟩
  exact h4 x ⟨e,hp.mem_iff.mpr he,hk⟩
 refine ⟨xs,?_,?_⟩
 ·exact Zhd T.nd hsub (by omega)
 ·have:acc.toList=ord.toList.map (·.2):=by
   apply List.ext_getElem?
   intro i
   by_cases hi:i < acc.toList.length
   ·obtain ⟨e,e1,e2⟩:=hacc.2 i acc.toList[i] (by rw [← Array.getElem?_toList]; exact List.getElem?_eq_getElem hi)
    rw [List.getElem?_eq_getElem hi,List.getElem?_map,Array.getElem?_toList,e1,e2]
    rfl
   ·have hl:=hacc.1
    rw [← Array.length_toList] at hl
    rw [List.getElem?_eq_none (by omega),List.getElem?_eq_none (by rw [List.length_map]; omega)]
  rw [this]
  exact h1
end
section
variable {X:Cx} {pins:List (Addr × Obj)} {σ:St} {H:Hp} {s:Shared}
theorem Inv.drw (I:Inv X pins σ H s) (d:Drawn):Inv X pins σ H { s with drawn:=d }:=by
 refine I.step (h':=s.heap) (t':=s.toks) (g':=s.gens) (d':=d) (ch:=[]) (fun b hb=>by cases hb) (fun b u _ _ _ e _=>e) (fun b u _ _ _ e _=>⟨u.slots,e⟩) (fun b u _ e n=>n) (fun b u _ e=>⟨u,e⟩) (fun b xs e=>e) (fun b u xs e=>e) (fun b ps e=>⟨#[],by rw [e]; simp⟩) (fun m hm=>hm) I.hok I.bare
end
def stO (X:Cx) (p:Addr) (ks:List Str):HO:=.ext fun h=>SetT X.prog X.w h p ks
theorem Zid {X:Cx} (hc:X.calm=true):CallR X (.type "set") (fun xs H Q=>∃ (a:Addr) (ss:List Str),xs=[.ref a]∧SqL X.K H a (ss.map V.str)∧ss.length≤1000 ∧
  ∀ (p:Addr) (ks:List Str),H p=none→ks.Nodup→(∀ x,x∈ks↔x∈ss)→ks.length≤ss.length→Q (.ref p) (upd H p (stO X p ks))):=by
 intro pins s σ H xs us Q I r h
 obtain ⟨a,ss,rfl,hq,h1k,q⟩:=h
 obtain ⟨u,rfl,ru⟩:=Xu r
 cases ru
 obtain ⟨its,rv,pl,hz⟩:=I.list hq
 have hl:=rv.length
 rw [List.length_map] at hl
 refine Zic (I.ok.hd hc) pl.isList (by simpa using XX rv) (by rw [List.size_toArray]; show its.length + 1 < 4096; omega) fun h1 tk hS kk=>?_
 have ez:its.toArray.size=ss.length:=by rw [List.size_toArray,hl]
 rw [ez] at hS
 have hn:H s.heap.objs.size=none:=I.hok.fresh (Nat.le_refl _)
 obtain ⟨o,es,ep,t,T⟩:=id hS
 refine ⟨.ref s.heap.objs.size,_,I.laid (t':=tk) (o:=stO X s.heap.objs.size _) kk (Nat.le_refl _) ⟨hS,⟨o,T.ob⟩,fun g1 g2 z k=>z.keep k⟩,rfl,q _ _ hn T.nd (fun x=>?_) (Zdv _ _)⟩
 rw [Zhp]
 constructor
 ·rintro ⟨j,hj,e⟩
  rw [← e,List.getD_eq_getElem?_getD,List.getElem?_eq_getElem hj]
  exact List.getElem_mem hj
 ·intro hx
  obtain ⟨j,hj,e⟩:=List.getElem_of_mem hx
  exact ⟨j,hj,by rw [List.getD_eq_getElem?_getD,List.getElem?_eq_getElem hj]; exact e⟩
end L2
namespace Sh
open PySem L2 PyProof.Rows
end Sh
namespace Sh
open PySem L2 PyProof.Rows
seal L2.PE L2.PS L2.PSs L2.PT L2.PW L2.PA L2.PI L2.PG L2.PGs L2.PO L2.PC L2.PCs L2.OpR L2.UnR L2.CallR L2.MtR L2.IxR L2.SlR
theorem Xd (g:Str→V) (y:Str):∀ ks:List Str,valV (ks.map fun x=>((Sum.inr x:Key),g x)) (Sum.inr y)=if y∈ks then some (g y) else none
 | []=>rfl
 | x :: ks=>by
  have ih:=Xd g y ks
  by_cases e:x=y
  ·subst e
   rw [List.map_cons,ZL rfl,if_pos List.mem_cons_self]
  ·rw [List.map_cons,ZM (fun q=>e (Sum.inr.inj q)),ih]
   have:(y∈x :: ks)↔y∈ks:=by
    rw [List.mem_cons]
    exact ⟨fun h=>h.elim (fun q=>absurd q.symm e) id,.inr⟩
   simp only [this]
theorem X5 (g:Str→V) (y:Str) (v:V) (ks:List Str) (h:y∈ks):YI (ks.map fun x=>((Sum.inr x:Key),g x)) (Sum.inr y) v=ks.map fun x=>((Sum.inr x:Key),if x=y then v else g x):=by
 unfold YI
 rw [YV,Xd,if_pos h]
 simp only [Option.isSome_some,if_true,List.map_map]
 apply List.map_congr_left
 intro x _
 by_cases e:x=y
 ·subst e
  simp
 ·have:¬ (Sum.inr x:Key)=Sum.inr y:=fun q=>e (Sum.inr.inj q)
  simp [this,e]
end Sh
namespace Sh
open PySem L2 PyProof.Rows
end Sh
namespace Sh
open PySem L2 PyProof.Rows
seal L2.PE L2.PS L2.PSs L2.PT L2.PW L2.PA L2.PI L2.PG L2.PGs L2.PO L2.PC L2.PCs L2.OpR L2.UnR L2.CallR L2.MtR L2.IxR L2.SlR
theorem XZ:∀ {l m:List (List Nat)},l.Pairwise (· < ·)→m.Pairwise (· < ·)→(∀ x,x∈l↔x∈m)→l=m
 | [],[],_,_,_=>rfl
 | [],y :: m,_,_,h=>absurd ((h y).mpr List.mem_cons_self) (by simp)
 | x :: l,[],_,_,h=>absurd ((h x).mp List.mem_cons_self) (by simp)
 | x :: l,y :: m,hl,hm,h=>by
  have h1:=List.pairwise_cons.mp hl
  have h2:=List.pairwise_cons.mp hm
  have e:x=y:=by
   rcases List.mem_cons.mp ((h x).mp List.mem_cons_self) with z | z
   ·exact z
   ·rcases List.mem_cons.mp ((h y).mpr List.mem_cons_self) with z2 | z2
    ·exact z2.symm
    ·exact absurd (List.lt_trans (h1.1 y z2) (h2.1 x z)) (List.lt_irrefl _)
  subst e
  have ih:=XZ h1.2 h2.2 fun z=>by
   constructor
   ·intro hz
    rcases List.mem_cons.mp ((h z).mp (List.mem_cons_of_mem _ hz)) with q | q
    ·subst q
     exact absurd (h1.1 z hz) (List.lt_irrefl _)
    ·exact q
   ·intro hz
    rcases List.mem_cons.mp ((h z).mpr (List.mem_cons_of_mem _ hz)) with q | q
    ·subst q
     exact absurd (h2.1 z hz) (List.lt_irrefl _)
    ·exact q
  rw [ih]
def gD (ks:List Str) (g:Str→Int):List (Key × V):=ks.map fun x=>((Sum.inr x:Key),V.int (g x))
theorem ZcB (ks:List Str) (g:Str→Int):(gD ks g).length=ks.length:=by unfold gD; rw [List.length_map]
theorem ZhN (ks:List Str) (g:Str→Int) (y:Str):valV (gD ks g) (Sum.inr y)=if y∈ks then some (.int (g y)) else none:=Xd (fun x=>V.int (g x)) y ks
theorem ZeN {ks:List Str} {g g':Str→Int} (h:∀ x∈ks,g x=g' x):gD ks g=gD ks g':=by
 unfold gD
 exact List.map_congr_left fun x m=>by rw [h x m]
theorem ZhO (ks:List Str) (g:Str→Int) (y:Str) (n:Int):YI (gD ks g) (Sum.inr y) (.int n)=gD (if y∈ks then ks else ks ++ [y]) fun x=>if x=y then n else g x:=by
 by_cases m:y∈ks
 ·rw [if_pos m]
  unfold gD
  rw [X5 _ _ _ _ m]
  apply List.map_congr_left
  intro x _
  dsimp only
  by_cases e:x=y
  ·rw [if_pos e,if_pos e]
  ·rw [if_neg e,if_neg e]
 ·rw [if_neg m,XE _ (by rw [ZhN,if_neg m])]
  unfold gD
  rw [List.map_append,List.map_singleton]
  dsimp only
  rw [if_pos rfl]
  congr 1
  apply List.map_congr_left
  intro x hx
  have ne:¬ x=y:=by
   intro e
   rw [e] at hx
   exact m hx
  rw [if_neg ne]
end Sh
namespace L2
open PySem PySem.Spec PyProof.Rows
def bv (f:Nat→Int):Nat→Int
 | 0=>f 0
 | j + 1=>if f (j + 1) < bv f j then f (j + 1) else bv f j
theorem Znd (f:Nat→Int):∀ (j i:Nat),i≤j→bv f j≤f i
 | 0,i,h=>by
  have:i=0:=by omega
  subst this
  exact Int.le_refl _
 | j + 1,i,h=>by
  unfold bv
  by_cases e:i=j + 1
  ·subst e
   split <;> omega
  ·have:=Znd f j i (by omega)
   split <;> omega
theorem Zne (f:Nat→Int):∀ j:Nat,∃ i,i≤j∧bv f j=f i
 | 0=>⟨0,Nat.le_refl _,rfl⟩
 | j + 1=>by
  unfold bv
  split
  ·exact ⟨j + 1,Nat.le_refl _,rfl⟩
  ·obtain ⟨i,hi,e⟩:=Zne f j
   exact ⟨i,by omega,e⟩
theorem ZeB:(toString "min" ++ toString ".loop" : String) = "min.loop":=by decide
theorem Zim (x dv:Value):argsOk "min" ⟨[x],[(("default" : Str),dv)]⟩:=by unfold argsOk; kernel_rfl
section
variable {prog:Program} {w:World} {A:Around} {R:Result→Shared→Prop} {it:Addr} {fp wr:List Addr} {n:Nat} {Pv:Nat→Value→Prop} {Sv:Nat→Heap→Prop}
theorem Zhn (W:Walks prog w A.in1 it fp wr n Pv Sv) (f:Nat→Int) (hf:∀ i v,Pv i v→∃ t,v = .int (f i) t) (B:Addr) (hB:B∉fp) (dv:Value):∀ (k j:Nat) (q:Shared) (tb:Tok) (c:Nat),j + 1 + k=n→Sv (j + 1) q.heap →
  q.heap.get? B=some { cls:=.type "list",dict:=none,data:=.seq #[.int (bv f j) tb,.int (bv f j) tb] c,slots:=#[] } →
  (∀ t h2 tk,(∀ b o,b∉wr→b≠B→q.heap.get? b=some o→h2.get? b=some o)→R (.ok (.ret (.int (bv f (n - 1)) t))) { q with heap:=h2,toks:=tk }) →
  codeAny (model prog w) A (.builtin "min.loop" ⟨[.ref it,.none,.ref B],[(("default" : Str),dv)]⟩) R q:=by
 have nB:B∉wr:=fun z=>hB (W.sub _ z)
 intro k
 induction k with
 | zero =>
  intro j q tb c hk st eB hR
  have hj:j + 1=n:=by omega
  refine codeAny_builtin F.entry_min_loop ?_
  rw [Around.under_plainId F.plain_min_loop _]
  show wpAny _ A.in1 (seqItems? (.ref B) >>= _) _ _ q
  refine wpAny_bind (wpAny_seqItems eB rfl ?_)
  show wpAny _ A.in1 (tryCatch (pyNext (.ref it)) _ >>= _) _ _ q
  refine wpAny_bind (wpAny_tryCatch (W.done q _ _ (hj ▸ st) fun h2 tk kp=>?_))
  have eB2:=kp B _ nB eB
  show wpAny _ A.in1 (updateSeq B (fun _=>#[]) >>= _) _ _ _
  refine wpAny_bind ?_
  refine wpAny_updateSeq eB2 rfl (wpAny_bind (wpAny_letGo (wpAny_pure ?_)))
  have hR':=hR tb
  rw [show n - 1=j by omega] at hR'
  exact hR' _ tk fun b o b1 b2 e=>(Heap.get?_update_other _ _ (Ne.symm b2)).trans (kp b o b1 e)
 | succ k ih =>
  intro j q tb c hk st eB hR
  have hj:j + 1 < n:=by omega
  refine codeAny_builtin F.entry_min_loop ?_
  rw [Around.under_plainId F.plain_min_loop _]
  show wpAny _ A.in1 (seqItems? (.ref B) >>= _) _ _ q
  refine wpAny_bind (wpAny_seqItems eB rfl ?_)
  show wpAny _ A.in1 (tryCatch (pyNext (.ref it)) _ >>= _) _ _ q
  refine wpAny_bind (wpAny_tryCatch (W.item (j + 1) q _ _ hj st fun v h2 tk pv st2 kp=>?_))
  obtain ⟨tv,rfl⟩:=hf _ _ pv
  have eB2:=kp B _ nB eB
  show wpAny _ A.in1 (tryCatch (holding [.int (f (j + 1)) tv,.int (f (j + 1)) tv] (richCompare .Lt (.int (f (j + 1)) tv) (.int (bv f j) tb) >>= _)) _ >>= _) _ _ _
  refine wpAny_bind (wpAny_tryCatch (wpAny_holding (wpAny_bind (CmpOf.ints_lt (prog:=prog) (w:=w) (A:=A.in1) (P:=fun i u=>∃ t,u = .int (if i=0 then f (j + 1) else bv f j) t) (fun i=>if i=0 then f (j + 1) else bv f j) (fun i u x=>x) 0 1 _ _ _ _ _ ⟨tv,rfl⟩ ⟨tb,rfl⟩ ?_))))
  refine wpAny_bind (wpAny_holding (wpAny_truthy_bool ?_))
  refine wpAny_bind (wpAny_letGo (wpAny_pure ?_))
  show wpAny _ A.in1 (if decide (f (j + 1) < bv f j)=true then _ else _) _ _ _
  by_cases hb:f (j + 1) < bv f j
  ·have e1:bv f (j + 1)=f (j + 1):=by rw [bv,if_pos hb]
   rw [if_pos (decide_eq_true hb)]
   refine wpAny_bind ?_
   refine wpAny_updateSeq eB2 rfl (wpAny_bind (wpAny_letGo ?_))
   rw [ZeB]
   refine wpAny_pure ⟨plainId_quiet F.plain_min_loop _,ih (j + 1) _ tv _ (by omega) (W.frame _ _ _ st2 fun b hb2 o e=>?_) (by rw [e1]; exact Heap.get?_update_self _ eB2 rfl) fun t h3 tk3 kp3=>?_⟩
   ·exact (Heap.get?_update_other _ _ (fun z:B=b=>hB (by rw [z]; exact hb2))).trans e
   ·exact hR t h3 tk3 fun b o b1 b2 e=>kp3 b o b1 b2 ((Heap.get?_update_other _ _ (Ne.symm b2)).trans (kp b o b1 e))
  ·have e1:bv f (j + 1)=bv f j:=by rw [bv,if_neg hb]
   rw [if_neg (by rw [decide_eq_false hb]; exact Bool.false_ne_true)]
   refine wpAny_bind (wpAny_letGo ?_)
   rw [ZeB]
   refine wpAny_pure ⟨plainId_quiet F.plain_min_loop _,ih (j + 1) _ tb c (by omega) st2 (by rw [e1]; exact eB2) fun t h3 tk3 kp3=>?_⟩
   exact hR t h3 tk3 fun b o b1 b2 e=>kp3 b o b1 b2 (kp b o b1 e)
theorem Zho (W:Walks prog w A.in1 it fp wr n Pv Sv) (f:Nat→Int) (hf:∀ i v,Pv i v→∃ t,v = .int (f i) t) (B:Addr) (hB:B∉fp) (dv:Value) {q:Shared} {c:Nat} (st:Sv 0 q.heap)
  (eB:q.heap.get? B=some { cls:=.type "list",dict:=none,data:=.seq #[] c,slots:=#[] })
  (h0:n=0→∀ h2 tk,(∀ b o,b∉wr→b≠B→q.heap.get? b=some o→h2.get? b=some o)→R (.ok (.ret dv)) { q with heap:=h2,toks:=tk })
  (hR:0 < n→∀ t h2 tk,(∀ b o,b∉wr→b≠B→q.heap.get? b=some o→h2.get? b=some o)→R (.ok (.ret (.int (bv f (n - 1)) t))) { q with heap:=h2,toks:=tk }) :
  codeAny (model prog w) A (.builtin "min.loop" ⟨[.ref it,.none,.ref B],[(("default" : Str),dv)]⟩) R q:=by
 have nB:B∉wr:=fun z=>hB (W.sub _ z)
 refine codeAny_builtin F.entry_min_loop ?_
 rw [Around.under_plainId F.plain_min_loop _]
 show wpAny _ A.in1 (seqItems? (.ref B) >>= _) _ _ q
 refine wpAny_bind (wpAny_seqItems eB rfl ?_)
 show wpAny _ A.in1 (tryCatch (pyNext (.ref it)) _ >>= _) _ _ q
 by_cases hn:n=0
 ·subst hn
  refine wpAny_bind (wpAny_tryCatch (W.done q _ _ st fun h2 tk kp=>?_))
  refine wpAny_bind (wpAny_rule (wpAny_pure ?_))
  exact h0 rfl h2 tk fun b o b1 _ e=>kp b o b1 e
 ·refine wpAny_bind (wpAny_tryCatch (W.item 0 q _ _ (by omega) st fun v h2 tk pv st2 kp=>?_))
  obtain ⟨tv,rfl⟩:=hf _ _ pv
  have eB2:=kp B _ nB eB
  show wpAny _ A.in1 (updateSeq B (fun _=>#[.int (f 0) tv,.int (f 0) tv]) >>= _) _ _ _
  refine wpAny_bind ?_
  refine wpAny_updateSeq eB2 rfl ?_
  rw [ZeB]
  refine wpAny_pure ⟨plainId_quiet F.plain_min_loop _,Zhn W f hf B hB dv (n - 1) 0 _ tv _ (by omega) (W.frame _ _ _ st2 fun b hb2 o e=>?_) (Heap.get?_update_self _ eB2 rfl) fun t h3 tk3 kp3=>?_⟩
  ·exact (Heap.get?_update_other _ _ (fun z:B=b=>hB (by rw [z]; exact hb2))).trans e
  ·exact hR (by omega) t h3 tk3 fun b o b1 b2 e=>kp3 b o b1 b2 ((Heap.get?_update_other _ _ (Ne.symm b2)).trans (kp b o b1 e))
theorem Zie {E:Value→Shared→Prop} {s:Shared} {x dv:Value} {Q:Value→Shared→Prop}
  (h:wpAny (model prog w) A.in1 (pyIter x) (fun iv s2=>∃ J fp wr n Pv Sv f,iv = .ref J∧Walks prog w A.in1 J fp wr n Pv Sv∧Sv 0 s2.heap∧(∀ b∈fp,b < s2.heap.objs.size)∧(∀ i v,Pv i v→∃ t,v = .int (f i) t) ∧
   (n=0→∀ h2 tk,(∀ b o,b∉wr→s2.heap.get? b=some o→h2.get? b=some o)→Q dv { s2 with heap:=h2,toks:=tk }) ∧
   (0 < n→∀ t h2 tk,(∀ b o,b∉wr→s2.heap.get? b=some o→h2.get? b=some o)→Q (.int (bv f (n - 1)) t) { s2 with heap:=h2,toks:=tk })) E s) :
  wpAny (model prog w) A (call (.builtin "min") [x] [(("default" : Str),dv)]) Q E s:=by
 refine kmb_tree F.kind_min F.plain_min F.entry_min (Zim _ _) ?_
 show wpAny _ A.in1 (Builtin.Builtins.bindParams "min" ["key","default"] 0 ⟨[],[(("default" : Str),dv)]⟩ >>= _) _ _ s
 refine wpAny_bind (wpAny_of_eq (show Builtin.Builtins.bindParams "min" ["key","default"] 0 ⟨[],[(("default" : Str),dv)]⟩=pure [none,some dv] from rfl) ?_)
 refine wpAny_bind (wpAny_pure ?_)
 refine wpAny_bind (wpAny_mono h (fun iv s2 h2=>?_) fun _ _ e=>e)
 obtain ⟨J,fp,wr,n,Pv,Sv,f,rfl,W,st,hfp,hf,q0,q1⟩:=h2
 refine wpAny_bind (wpAny_newObj_type ?_)
 have nB:s2.heap.objs.size∉fp:=fun hm=>Nat.lt_irrefl _ (hfp _ hm)
 rw [ZeB]
 refine wpAny_pure ⟨plainId_quiet F.plain_min_loop _,Zho W f hf s2.heap.objs.size nB dv (W.frame _ _ _ st fun b _ o e=>Heap.get?_push_of_some _ e) (Heap.get?_push_size _ rfl) (fun hn h3 tk kp=>?_) (fun hn t h3 tk kp=>?_)⟩
 ·exact q0 hn h3 tk fun b o b1 e=>kp b o b1 (Nat.ne_of_lt (Heap.lt_size e)) (Heap.get?_push_of_some _ e)
 ·exact q1 hn t h3 tk fun b o b1 e=>kp b o b1 (Nat.ne_of_lt (Heap.lt_size e)) (Heap.get?_push_of_some _ e)
end
def Zny (K:PySem.W.Frag) (ta tk:TA):TE:=fun σ H Q=>ta σ H fun vs H1=>tk σ H1 fun zs H2=>∃ (a:Addr) (ns:List Int) (d:V),vs=[.ref a]∧zs=[d]∧SqL K H2 a (ns.map V.int)∧(ns=[]→Q d H2)∧∀ m,m∈ns→(∀ x∈ns,m≤x)→Q (.int m) H2
theorem Zld {X:Cx} {e dx:Expr} {ta tk:TA} {p pos kp:Pos} (hc:X.calm=true) (hg:Gl X "min") (hm:X.mg "min" = none) (ha:PA X [e] ta) (hd:PK X [⟨some "default",dx,kp⟩] tk)
  (he:backTo pos (starEach [e] X.env)=(false,eval e X.env) :: backTo pos (starEach [] X.env):=by rfl) (hpl:(backTo pos (starEach [e] X.env)).any (·.1)=false:=by rfl) :
  PE X (.Call (.Name "min" p) [e] [⟨some "default",dx,kp⟩] pos) (Zny X.K ta tk):=by
 intro pins s σ H Q I h
 refine wpAny_Call_Name_kw (XM I hg hm Zn8 ?_)
 refine callWith_kw (thn (ha pos pins s σ H _ I h) fun us s1 ⟨vs,H1,I1,r1,q1⟩=>thn (hd pos pins s1 σ H1 _ I1 q1) fun ws s2 ⟨zs,H2,I2,r2,q2⟩=>?_) he hpl
 obtain ⟨a,ns,d,rfl,rfl,hq,k0,k1⟩:=q2
 obtain ⟨u,rfl,ru⟩:=Xu r1
 obtain ⟨dv,rfl,rd⟩:=Xu r2
 cases ru
 show wpAny _ _ (call (.builtin "min") [.ref a] [(("default" : Str),dv)]) _ _ s2
 obtain ⟨its,rv,pl,hz⟩:=I2.list hq
 have hl:=rv.length
 rw [List.length_map] at hl
 have hlt:a < s2.heap.objs.size:=by
  obtain ⟨o,n,e,_⟩:=pl
  exact Heap.lt_size e
 refine Zie (wpAny_pyIter_list pl.isList ⟨s2.heap.objs.size,[s2.heap.objs.size,a],[s2.heap.objs.size],its.toArray.size,_,_,fun i=>ns.getD i 0,rfl,Walks.list (A:=X.A.in1) (I2.ok.hd hc) _ _ (Nat.ne_of_lt hlt) its.toArray,
  ⟨⟨_,Heap.get?_push_size _ rfl,rfl,rfl⟩,pl.isList.push _⟩,?_,?_,?_,?_⟩)
 ·intro b hb
  show b < (s2.heap.push _).objs.size
  rw [Heap.size_push]
  have:b=s2.heap.objs.size∨b=a:=by simpa using hb
  rcases this with z | z
  ·rw [z]; exact Nat.lt_succ_self _
  ·rw [z]; exact Nat.lt_succ_of_lt hlt
 ·intro i v hv
  have e1:its[i]?=some v:=by simpa using hv
  have hi:i < its.length:=(List.getElem?_eq_some_iff.mp e1).1
  have hb:(ns.map V.int)[i]?=some (.int (ns.getD i 0)):=by
   rw [List.getElem?_map,List.getD_eq_getElem?_getD]
   cases e:ns[i]? with
   | none=>exact absurd (List.getElem?_eq_none_iff.mp e) (by omega)
   | some b=>rfl
  obtain ⟨u',hu,ru⟩:=rv.get hb
  rw [e1] at hu
  cases hu
  exact ru
 ·intro hn h2 tk kk
  have:ns=[]:=List.length_eq_zero_iff.mp (by rw [hl]; simpa using hn)
  exact ⟨d,H2,I2.kept fun b o e=>kk b o (by simpa using Nat.ne_of_lt (Heap.lt_size e)) (Heap.get?_push_of_some _ e),rd,k0 this⟩
 ·intro hn t h2 tk kk
  have hz2:its.toArray.size=ns.length:=by rw [hl]; simp
  rw [hz2] at hn ⊢
  obtain ⟨i,hi,ei⟩:=Zne (fun i=>ns.getD i 0) (ns.length - 1)
  refine ⟨.int (bv (fun i=>ns.getD i 0) (ns.length - 1)),H2,I2.kept fun b o e=>kk b o (by simpa using Nat.ne_of_lt (Heap.lt_size e)) (Heap.get?_push_of_some _ e),⟨t,rfl⟩,k1 _ ?_ fun x hx=>?_⟩
  ·have hi':i < ns.length:=by omega
   rw [ei]
   show ns.getD i 0∈ns
   rw [List.getD_eq_getElem?_getD,List.getElem?_eq_getElem hi']
   exact List.getElem_mem hi'
  ·obtain ⟨j,hj,e⟩:=List.getElem_of_mem hx
   have:=Znd (fun i=>ns.getD i 0) (ns.length - 1) j (by omega)
   have e2:ns.getD j 0=x:=by rw [List.getD_eq_getElem?_getD,List.getElem?_eq_getElem hj]; exact e
   show bv (fun i=>ns.getD i 0) (ns.length - 1)≤x
   rw [← e2]
   exact this
theorem ZgL {k:Key} {u:Value} (h:J8 k u=true):RelV (kV k) u:=by
 rcases keyIs_shape h with ⟨i,t,rfl,rfl⟩ | ⟨x,t,rfl,rfl⟩
 ·exact ⟨t,rfl⟩
 ·exact ⟨t,rfl⟩
theorem Zkn {kvs:List (Key × V)} {vs:List (Key × Value)} (r:KV kvs vs):∀ {i:Nat} {p:Key × V},kvs[i]?=some p→∃ q,vs[i]?=some q∧p.1=q.1∧RelV p.2 q.2:=by
 unfold KV at r
 induction r with
 | nil=>intro i p e; simp at e
 | @cons a b as bs h t ih =>
  intro i p e
  cases i with
  | zero =>
   simp at e
   subst e
   exact ⟨b,rfl,h⟩
  | succ i =>
   obtain ⟨q,e2,r⟩:=ih (i:=i) (p:=p) (by simpa using e)
   exact ⟨q,by simpa using e2,r⟩
section
variable {X:Cx} {pins:List (Addr × Obj)} {σ:St} {H H':Hp} {s s':Shared} {d:Addr} {o:Obj} {kvs kvs':List (Key × V)}
theorem Inv.frozen (I:Inv X pins σ H s) (hd:H d=some (.dK kvs)):∃ o,Inv X pins σ (upd H d (.frz o (.dK kvs))) s:=by
 have q:=I.hok d _ hd
 obtain ⟨z,lo,vs,kv,dd⟩:=id q
 obtain ⟨o,es,ep,ho,r⟩:=id dd
 refine ⟨o,I.write (h':=s.heap) (t':=s.toks) (x:=d) (e:=d) (by rw [hd]; exact True.intro) (.inl rfl) (fun _ _ _ z=>z) ⟨o,ho⟩ ⟨ho,z,lo,vs,kv,dd⟩⟩
theorem Inv.thaw (I:Inv X pins σ H s) (hd:H d=some (.dK kvs)) (J:Inv X pins σ H' s') (e:H' d=some (.frz o (.dK kvs'))):Inv X pins σ (upd H' d (.dK kvs')) s':=by
 have nn:∀ b,H' b=none→upd H' d (.dK kvs') b=none:=fun b z=>by
  rw [Zi]
  ·exact z
  ·intro w; rw [w,e] at z; cases z
 refine { J with base:=⟨J.base.keep,J.base.slot,fun b ob h1 h2 h3=>nn b (J.base.free b ob h1 h2 h3),J.base.there,fun b xs h1=>?_,fun b ob u h1=>?_,fun b ps h1=>?_⟩,free:=nn _ J.free,freeC:=fun x c h=>nn _ (J.freeC x c h),pin:=fun p hp=>?_,hok:=fun b u h1=>?_ }
 ·have h2:=J.base.tups b xs h1
  rw [Zi]
  ·exact h2
  ·intro w; rw [w,e] at h2; cases h2
 ·by_cases w:b=d
  ·have h2:=I.base.frzs b ob u h1
   rw [w,hd] at h2
   cases h2
  ·rw [Zi w]
   exact J.base.frzs b ob u h1
 ·obtain ⟨more,h2⟩:=J.base.tbls b ps h1
  refine ⟨more,?_⟩
  rw [Zi]
  ·exact h2
  ·intro w; rw [w,e] at h2; cases h2
 ·obtain ⟨p1,p2,p3⟩:=J.pin p hp
  exact ⟨p1,nn _ p2,p3⟩
 ·have ho:∀ (a:Addr) (b:Addr),H' b=some (.own a)→upd H' d (.dK kvs') b=some (.own a):=fun a b z=>by
   rw [Zi]
   ·exact z
   ·intro w; rw [w,e] at z; cases z
  have ht:∀ (b:Addr) xs,H' b=some (.tup xs)→upd H' d (.dK kvs') b=some (.tup xs):=fun b xs z=>by
   rw [Zi]
   ·exact z
   ·intro w; rw [w,e] at z; cases z
  by_cases w:b=d
  ·subst w
   rw [Zc] at h1
   cases h1
   obtain ⟨_,q⟩:=J.hok b _ e
   exact q.stay (fun _ _ _ z=>z) (ho b) ht
  ·rw [Zi w] at h1
   exact (J.hok b u h1).stay (fun _ _ _ z=>z) (ho b) ht
end
def Zoz (t:TE):TE:=fun σ H Q=>∃ d kvs,H d=some (.dK kvs)∧∀ o,t σ (upd H d (.frz o (.dK kvs))) fun v H'=>H' d=some (.frz o (.dK kvs))∧Q v (upd H' d (.dK kvs))
theorem Zmz {X:Cx} {e:Expr} {t:TE} (h:PE X e t):PE X e (Zoz t):=by
 intro pins s σ H Q I q
 obtain ⟨d,kvs,hd,q⟩:=q
 obtain ⟨o,I1⟩:=I.frozen hd
 exact thn (h pins s σ _ _ I1 (q o)) fun u s2 ⟨v,H2,I2,r,e2,q2⟩=>⟨v,_,I.thaw hd I2 e2,r,q2⟩
def Itd (d:Addr) (o:Obj) (kvs:List (Key × V)):It :=
 ⟨fun i H=>H d=some (.frz o (.dK kvs))∧i < kvs.length,fun i H x H'=>∃ t p,H t=none∧x = .ref t∧H'=upd H t (.tup [kV p.1,p.2])∧kvs[i]?=some p,fun i H=>H d=some (.frz o (.dK kvs))∧kvs.length≤i⟩
theorem ZeO {X:Cx} {pins:List (Addr × Obj)} {σ:St} {H:Hp} {s:Shared} {d:Addr} {o:Obj} {kvs:List (Key × V)} {es:Array DictEntry} {ep:Nat} (I:Inv X pins σ H s) (hd:H d=some (.frz o (.dK kvs))) (ho:o.data = .dict es ep) :
  ∃ vs,KV kvs vs∧s.heap.DictAt (Zn X.prog X.w) d vs ep∧(d == sysModules)=false:=by
 obtain ⟨h1,z,lo,vs,kv,o',es',ep',h2,h3,h4,h5⟩:=I.hok d _ hd
 rw [h1] at h2
 cases h2
 rw [ho] at h4
 cases h4
 exact ⟨vs,kv,⟨o,es,h1,h3,ho,h5⟩,lo⟩
theorem Ze6 {P:Program} {w:World} {K:PySem.W.Frag} {elts:List Expr} {k:Nat} {pos:Pos} (d it:Addr) (o:Obj) (kvs:List (Key × V)) {es:Array DictEntry} {ep:Nat} (hod:o.data = .dict es ep) :
  ZkB P w K (.Tuple elts k pos) (Itd d o kvs) [it] it (fun i h=>∃ a b,IsItemIter h it d i kvs.length ep a b) where
 mem:=by simp
 obj:=fun i h ⟨a,b,he⟩ c hc=>by
  have hc:=List.mem_singleton.mp hc
  subst hc
  exact ⟨_,he,fun v z=>by
   have z':Data.fields _=Data.cell v:=z
   cases z'⟩
 keep:=fun i h h' ⟨a,b,he⟩ kk=>⟨a,b,kk it (by simp) _ he⟩
 item:=by
  intro X hP hw hK hc i pins s σ H E I hf ⟨a,b,he⟩ hg
  subst hP hw hK
  obtain ⟨hd,hi⟩:=hg
  obtain ⟨vs,kv,da,lo⟩:=ZeO I hd hod
  obtain ⟨p,hp⟩:∃ p,kvs[i]?=some p:=⟨_,List.getElem?_eq_getElem hi⟩
  obtain ⟨q,hq,e1,e2⟩:=Zkn kv hp
  have hfi:=hf it (by simp)
  have he':IsItemIter s.heap it d i vs.length ep a b:=by rw [← kv.length]; exact he
  refine wpAny_pyNext_items_item (k:=q.1) (v:=q.2) he' da hq fun key h1 hkey heo ht1 hz1 kk=>?_
  refine ⟨_,rfl,wpAny_letOwnedTupleGo_items heo fun h2 he2 sb=>?_⟩
  have hk2:∀ b o,b≠it→b≠it→s.heap.get? b=some o→h2.get? b=some o:=fun b o q1 _ q=>(sb.2 b q1).trans (kk b o q1 q)
  have hte:s.heap.objs.size≠it:=Nat.ne_of_gt (Heap.lt_size he)
  have ht2:h2.get? s.heap.objs.size=some { cls:=.type "tuple",data:=.seq #[key,q.2] }:=(sb.2 _ hte).trans ht1
  refine ⟨.ref s.heap.objs.size,_,Inv.laid2 (s:=s) (a:=s.heap.objs.size) (t':=s.toks) (o:=.tup [kV p.1,p.2]) I hk2 hfi hfi ⟨_,he2⟩ ⟨_,he2⟩ (Nat.le_refl _) ?_,rfl,⟨_,p,I.hok.fresh (Nat.le_refl _),rfl,rfl,hp⟩,⟨key,q.2,?_⟩,fun b hb=>?_⟩
  ·refine ⟨(show 2≤sizeLine by rw [sizeLine_eq]; decide),[key,q.2],.cons (by rw [e1]; exact ZgL hkey) (.cons e2 .nil),⟨_,ht2,rfl,_,rfl⟩,fun o q=>by rw [ht2] at q; cases q; rfl⟩
  ·rw [kv.length]
   exact he2
  ·rw [Zi]
   ·exact (hf b hb).1
   ·rw [List.mem_singleton.mp hb]
    exact Ne.symm hte
 done:=by
  intro X hP hw hK hc i pins s σ H E I hf ⟨a,b,he⟩ hg
  subst hP hw hK
  obtain ⟨hd,hi⟩:=hg
  obtain ⟨vs,kv,da,lo⟩:=ZeO I hd hod
  obtain ⟨g0,g1,g2,g3,g4,g5⟩:=hf it (by simp)
  have he':IsItemIter s.heap it d i vs.length ep a b:=by rw [← kv.length]; exact he
  exact wpAny_pyNext_items_end (I.ok.hd hc) he' da (List.getElem?_eq_none (by rw [← kv.length]; exact hi)) fun h' eb=>⟨rfl,I.turned (t':=s.toks) (fun b o hb e=>eb b o hb e) g0 g1 g3 g4 g5⟩
 self:=fun A i s Q E ⟨a,b,he⟩ h=>PySem.W.kcp_self he h
def Zm4 (td:TE):TI:=fun σ H R=>td σ H fun x H1=>∃ d o kvs,x = .ref d∧H1 d=some (.frz o (.dK kvs))∧R (Itd d o kvs) H1
theorem ZiS {X:Cx} {elts:List Expr} {kt:Nat} {tpos:Pos} {ob:Expr} {apos cpos:Pos} {td:TE} (ho:PE X ob td) (hbase:attributeBase ob "items" X.env (eval ob X.env)=eval ob X.env:=by rfl) (hline:(apos.endLine == cpos.line)=true:=by rfl) :
  PI X (.Tuple elts kt tpos) (.Call (.Attribute ob "items" apos) [] [] cpos) (Zm4 td):=by
 intro pins s σ H R I h
 refine wpAny_Call_method0_late hbase hline (thn (ho pins s σ H _ I h) fun v s1 ⟨x,H1,I1,r1,d,o,kvs,ex,hd,q1⟩=>?_)
 subst ex
 obtain rfl:v=Value.ref d:=r1
 obtain ⟨g1,z,lo,vs,kv,dd⟩:=I1.hok d _ hd
 obtain ⟨t1,t2,_⟩:=Zcx I1 (.inl ⟨kvs,.inr ⟨o,hd⟩⟩)
 refine ⟨"dict",_,PySem.F.plainAttrs_dict,PySem.F.slot_dict_items,PySem.F.type_dict_items,t1,t2,Calls.callWith_builtin rfl (PySem.evalArgs_none ?_)⟩
 refine call_meetsIn PySem.F.slot_dict_items dd.typeIs PySem.F.entry_dict_items (PySem.F.args_dict_items_1 _) (meets_dict_items (Zn X.prog X.w) d lo) ⟨⟨_,dd⟩,?_⟩
 obtain ⟨ep,da⟩:=dd.dictAt
 refine wpAny_pyIter_items (knd:=Zn X.prog X.w) (kvs:=vs) (ep:=ep) ⟨_,Heap.get?_push_size _ rfl,rfl,rfl⟩ (da.push _) ?_
 obtain ⟨o',es,g2,_,g3,_⟩:=id da
 rw [g1] at g2
 cases g2
 have kp:∀ b u,s1.heap.get? b=some u→((s1.heap.push { cls:=.type "dict_items",data:=.fields #[.ref d] }).push { cls:=.type "dict_itemiterator",data:=.fields #[.none,.bool false,.ref d,.int 0 0,.int vs.length 0,.int ep 0,.none,.none] }).get? b=some u:=fun b u e=>Heap.get?_push_of_some _ (Heap.get?_push_of_some _ e)
 refine ⟨_,[_],_,Itd d o kvs,H1,rfl,I1.kept (t':=s1.toks) kp,Ze6 d _ o kvs g3,⟨.none,.none,?_⟩,fun b hb=>?_,q1⟩
 ·rw [kv.length]
  exact Heap.get?_push_size _ rfl
 ·have hle:s1.heap.objs.size≤b:=by
   rw [List.mem_singleton.mp hb]
   show s1.heap.objs.size≤(s1.heap.push _).objs.size
   rw [Heap.size_push]
   exact Nat.le_succ _
  exact I1.fpOk hle (I1.hok.fresh hle)
theorem Zjc {k:Nat} {mp:List Nat} {σ:L2.St} {g:TG} {tc:TT} {te:TE} {d:Addr} {o:Obj} {kvs:List (Key × V)} {H1:Hp} {Q:VK} (t:Nat→Bool) (xs:Nat→V) (hn:kvs.length≤sizeLine) (hd:H1 d=some (.frz o (.dK kvs)))
  (step:∀ i p H (T:Addr) (Qt:VK) (Qf:Hp→Prop),kvs[i]?=some p→H T=some (.tup [kV p.1,p.2])→Same H1 H→(t i=true→Qt (xs i) H)→(t i=false→Qf H)→g (.ref T) (lcS k mp σ) H fun σ4 H4=>tc σ4 H4 fun b H5=>if b=true then te σ4 H5 Qt else Qf H5)
  (done:∀ D H',Same H1 H'→H1 D=none→H' D=some (.lst (((List.range kvs.length).filter t).map xs))→Q (.ref D) H'):Jl k mp σ g tc te (Itd d o kvs) H1 Q:=by
 intro D hD
 refine ⟨fun i m acc H=>m=kvs.length - i∧i≤kvs.length∧acc=((List.range i).filter t).map xs∧Same H1 H∧H D=some (.lst acc),⟨kvs.length,by simp,Nat.zero_le _,rfl,Zb hD,Zc⟩,?_⟩
 rintro i m acc H ⟨rfl,hi,rfl,hs,hDa⟩
 by_cases hlt:i < kvs.length
 ·refine .inr ⟨⟨hs _ _ hd,hlt⟩,fun x H3 y=>?_⟩
  obtain ⟨T,p,hT,rfl,rfl,hp⟩:=y
  have s3:=Zb (o:=.tup [kV p.1,p.2]) hT
  refine step i p _ T _ _ hp Zc (hs.trans s3) (fun ht=>⟨s3 _ _ hDa,?_,kvs.length - (i + 1),by omega,rfl,hlt,?_,fun b u e=>?_,Zc⟩) (fun ht=>⟨kvs.length - (i + 1),by omega,rfl,hlt,?_,hs.trans s3,s3 _ _ hDa⟩)
  ·rw [List.length_map]
   have:=List.length_filter_le t (List.range i)
   rw [List.length_range] at this
   omega
  ·rw [List.range_succ,List.filter_append,List.map_append]
   simp [ht]
  ·rw [Zi (Zj e hD)]
   exact s3 _ _ (hs b u e)
  ·rw [List.range_succ,List.filter_append,List.map_append]
   simp [ht]
 ·have e:i=kvs.length:=by omega
  subst e
  exact .inl ⟨⟨hs _ _ hd,Nat.le_refl _⟩,done D H hs hD hDa⟩
theorem YF {t u:TS} {D:ZfJ} {σ:L2.St} {H:Hp} (I:L2.St→Hp→Prop) (h:∀ R:L2.St→Hp→Prop,(∀ σ' H',I σ' H'→R σ' H')→t { D with nx:=R } σ H) (hu:∀ σ' H',I σ' H'→u D σ' H'):ZdY t u D σ H:=h _ hu
theorem Zhl {X:Cx}:MtR X "list.pop" Zoi:=ZmQ
section
variable {X:Cx} {pins:List (Addr × Obj)} {σ:St} {H:Hp} {s:Shared} {a:Addr} {kvs:List (Key × V)} {k:Key} {u:Value} {A:Around} {E:Value→Shared→Prop}
theorem Zm9 {z:V} {r:Value} {Q:Value→Shared→Prop} (I:Inv X pins σ H s) (e:H a=some (.dK kvs)) (ry:RelV (kV k) u) (rz:RelV z r) (hl:kvs.length < sizeLine) (h1:∀ v w' s',valV kvs k=some v→RelV v w'→Inv X pins σ H s'→Q w' s')
  (h2:valV kvs k=none→∀ s',Inv X pins σ (upd H a (.dK (YI kvs k z))) s'→Q r s'):wpAny (model X.prog X.w) A (call (.builtin "dict.setdefault") [.ref a,u,r]) Q E s:=by
 obtain ⟨zz,hd,vs,rel,dd⟩:=ZfD I.hok e
 refine call_meetsIn PySem.F.slot_dict_setdefault dd.typeIs PySem.F.entry_dict_setdefault (PySem.F.args_dict_setdefault_3 _ _ _) (kt_meets_setdefault (Zn X.prog X.w) a (Zcv ry) hd r) ⟨vs,dd,by rw [← rel.length]; exact zz,fun v hv=>?_,fun hn h' dd' hs=>?_⟩
 ·have q:=rel.val k
  rw [hv] at q
  cases l:valV kvs k with
  | none=>rw [l] at q; exact (show False from q).elim
  | some v'=>rw [l] at q; exact h1 v' v _ l q (I.tok _)
 ·have q:=rel.val k
  rw [hn] at q
  have hlp:(YI kvs k z).length≤sizeLine:=by have:=Z3 kvs k z; omega
  have he:∃ q,h'.get? a=some q:=let ⟨q,_,_,hq,_⟩:=dd'; ⟨q,hq⟩
  cases l:valV kvs k with
  | none=>exact h2 l _ (ZbF I (by rw [e]; exact True.intro) hs he (ZhV hlp hd (rel.put k rz) dd'))
  | some v'=>rw [l] at q; exact (show False from q).elim
end
def ZnC (td ty tx:TE):TE:=fun σ H Q=>td σ H fun x H1=>∃ a,x = .ref a∧IsD H1 a∧ty σ H1 fun y H2=>tx σ H2 fun z H3=>∃ kvs k,H3 a=some (.dK kvs)∧y=kV k∧kvs.length < sizeLine ∧
 (∀ v,valV kvs k=some v→Q v H3)∧(valV kvs k=none→Q z (upd H3 a (.dK (YI kvs k z))))
theorem Zbe {X:Cx} {o e f:Expr} {apos cpos:Pos} {td ty tx:TE} (ho:PE X o td) (he:PE X e ty) (hf:PE X f tx) (m:M2 X o "setdefault" apos e f cpos):PE X (.Call (.Attribute o "setdefault" apos) [e,f] [] cpos) (ZnC td ty tx):=by
 intro pins s σ H Q I h
 refine wpAny_Call_method m.base m.few m.line PySem.F.plainAttrs_dict PySem.F.slot_dict_setdefault PySem.F.type_dict_setdefault (thn (ho pins s σ H _ I h) fun u s1 ⟨x,H1,I1,rx,a,ex,d,q1⟩=>?_)
 subst ex
 obtain rfl:u=Value.ref a:=rx
 obtain ⟨t1,t2,_⟩:=Zcx I1 d
 refine ⟨t1,t2,?_⟩
 rw [m.trees]
 refine Calls.callWith_builtin rfl (Calls.evalArgs_plain (Calls.spliced_cons (thn (he pins s1 σ H1 _ I1 q1) fun iv s2 ⟨y,H2,I2,ry,q2⟩ =>
  Calls.spliced_cons (thn (hf pins s2 σ H2 _ I2 q2) fun fv s3 ⟨z,H3,I3,rz,kvs,k,ea,ey,hl,q3,q4⟩=>Calls.spliced_nil ?_))))
 subst ey
 exact Zm9 I3 ea ry rz hl (fun v w' s4 l rw' I4=>⟨v,H3,I4,rw',q3 v l⟩) fun l s4 I4=>⟨z,_,I4,rz,q4 l⟩
end L2
namespace L2
open PySem PySem.Spec PyProof.Rows PySem.Builtin.Str
end L2
namespace Sh
open PySem L2 PyProof.Rows PySem.Builtin.Str
end Sh
namespace L2
open PySem PySem.Spec PyProof.Rows
def Itk (d:Addr) (o:Obj) (kvs:List (Key × V)):It :=
 ⟨fun i H=>H d=some (.frz o (.dK kvs))∧i < kvs.length,fun i H x H'=>H'=H∧∃ p,kvs[i]?=some p∧x=kV p.1,fun i H=>H d=some (.frz o (.dK kvs))∧kvs.length≤i⟩
theorem ZfU {P:Program} {w:World} {K:PySem.W.Frag} {tg:Expr} (d it:Addr) (o:Obj) (kvs:List (Key × V)) {es:Array DictEntry} {ep:Nat} (hod:o.data = .dict es ep) :
  ZkB P w K tg (Itk d o kvs) [it] it (fun i h=>h.IsKeyIter it d i kvs.length ep) where
 mem:=by simp
 obj:=fun i h he c hc=>by
  have hc:=List.mem_singleton.mp hc
  subst hc
  obtain ⟨ob,g1,g2,g3⟩:=he
  exact ⟨ob,g1,fun v z=>by rw [g3] at z; cases z⟩
 keep:=fun i h h' he kk=>he.at fun ob e=>kk it (by simp) ob e
 item:=by
  intro X hP hw hK hc i pins s σ H E I hf he hg
  subst hP hw hK
  obtain ⟨hd,hi⟩:=hg
  obtain ⟨vs,kv,da,lo⟩:=ZeO I hd hod
  obtain ⟨p,hp⟩:∃ p,kvs[i]?=some p:=⟨_,List.getElem?_eq_getElem hi⟩
  obtain ⟨q,hq,e1,e2⟩:=Zkn kv hp
  obtain ⟨f0,f1,f2,f3,f4,f5⟩:=hf it (by simp)
  have he':s.heap.IsKeyIter it d i vs.length ep:=by rw [← kv.length]; exact he
  refine wpAny_pyNext_dict_item (k:=q.1) he' da hq fun key h1 hkey hit1 sb=>?_
  have I1:Inv X pins σ H { s with heap:=h1 }:=I.turned (t':=s.toks) (fun b u hb e=>(sb.2 b hb).trans e) f0 f1 f3 f4 f5
  refine ⟨key,rfl,letGo_keyiter hit1 ⟨kV p.1,H,I1,by rw [e1]; exact ZgL hkey,⟨rfl,p,hp,rfl⟩,by rw [kv.length]; exact hit1,fun b hb=>(hf b hb).1⟩⟩
 done:=by
  intro X hP hw hK hc i pins s σ H E I hf he hg
  subst hP hw hK
  obtain ⟨hd,hi⟩:=hg
  obtain ⟨vs,kv,da,lo⟩:=ZeO I hd hod
  obtain ⟨f0,f1,f2,f3,f4,f5⟩:=hf it (by simp)
  have he':s.heap.IsKeyIter it d i vs.length ep:=by rw [← kv.length]; exact he
  exact wpAny_pyNext_dict_end (I.ok.hd hc) he' da (List.getElem?_eq_none (by rw [← kv.length]; exact hi)) fun h' eb=>⟨rfl,I.turned (t':=s.toks) (fun b u hb e=>eb b u hb e) f0 f1 f3 f4 f5⟩
 self:=fun A i s Q E he h=>wpAny_pyIter_keyiter he h
def ZnY (td:TE):TI:=fun σ H R=>td σ H fun x H1=>∃ d o kvs,x = .ref d∧H1 d=some (.frz o (.dK kvs))∧R (Itk d o kvs) H1
theorem Zlc {X:Cx} {tg ob:Expr} {td:TE} (ho:PE X ob td):PI X tg ob (ZnY td):=by
 intro pins s σ H R I h
 refine thn (ho pins s σ H _ I h) fun v s1 ⟨x,H1,I1,r1,d,o,kvs,ex,hd,q1⟩=>?_
 subst ex
 obtain rfl:v=Value.ref d:=r1
 obtain ⟨g1,z,lo,vs,kv,dd⟩:=I1.hok d _ hd
 obtain ⟨ep,da⟩:=dd.dictAt
 refine wpAny_pyIter_dict lo da ?_
 obtain ⟨o',es,g2,_,g3,_⟩:=id da
 rw [g1] at g2
 cases g2
 refine ⟨_,[_],_,Itk d o kvs,H1,rfl,I1.kept (t':=s1.toks) fun b u e=>Heap.get?_push_of_some _ e,ZfU d s1.heap.objs.size o kvs g3,?_,fun b hb=>?_,q1⟩
 ·rw [kv.length]
  exact ⟨_,Heap.get?_push_size _ rfl,rfl,rfl⟩
 ·rw [List.mem_singleton.mp hb]
  exact I1.fpOk (Nat.le_refl _) (I1.hok.fresh (Nat.le_refl _))
theorem ZlA {d:Addr} {o:Obj} {kvs:List (Key × V)} {H1:Hp} (hd:H1 d=some (.frz o (.dK kvs))):∀ H,Same H1 H→(∀ i,i < kvs.length→(Itk d o kvs).go i H∧∀ x H',(Itk d o kvs).yld i H x H'→H'=H∧x=(kvs.map fun p=>kV p.1).getD i .non)∧(Itk d o kvs).stop kvs.length H:=fun H s=>by
 refine ⟨fun i hi=>⟨⟨s _ _ hd,hi⟩,fun x H' y=>?_⟩,⟨s _ _ hd,Nat.le_refl _⟩⟩
 obtain ⟨e,p,hp,ex⟩:=y
 refine ⟨e,?_⟩
 rw [ex,List.getD_eq_getElem?_getD,List.getElem?_map,hp]
 rfl
theorem Zdx {k:Nat} {mp:List Nat} {σ:St} {g:TG} {tc:TT} {te:TE} {J:It} {H1:Hp} {Q:VK} (n:Nat) (xs:Nat→V) (t:Nat→Bool) (R:Nat→V→Hp→Prop) (hn:n≤sizeLine)
  (hR:∀ i v H H',TSame H H'→R i v H→R i v H')
  (hJ:∀ H,Same H1 H→(∀ i,i < n→J.go i H∧∀ x H',J.yld i H x H'→H'=H∧x=xs i)∧J.stop n H)
  (step:∀ i H (Qt:VK) (Qf:Hp→Prop),i < n→Same H1 H→(t i=true→∀ v H6,Same H H6→R i v H6→Qt v H6)→(t i=false→∀ H6,Same H H6→Qf H6)→g (xs i) (lcS k mp σ) H fun σ4 H4=>tc σ4 H4 fun b H5=>if b=true then te σ4 H5 Qt else Qf H5)
  (done:∀ D vs H',vs.length=((List.range n).filter t).length→(∀ (j i:Nat) (v:V),((List.range n).filter t)[j]?=some i→vs[j]?=some v→R i v H')→Same H1 H'→H1 D=none→H' D=some (.lst vs)→Q (.ref D) H'):Jl k mp σ g tc te J H1 Q:=by
 intro D hD
 refine ⟨fun i m acc H=>m=n - i∧i≤n∧acc.length=((List.range i).filter t).length∧Same H1 H∧H D=some (.lst acc)∧∀ (j q:Nat) (v:V),((List.range i).filter t)[j]?=some q→acc[j]?=some v→R q v H,
  ⟨n,by simp,Nat.zero_le _,rfl,Zb hD,Zc,fun j q v e _=>by simp at e⟩,?_⟩
 rintro i m acc H ⟨rfl,hi,hl,hs,hDa,hr⟩
 obtain ⟨j1,j2⟩:=hJ H hs
 by_cases hlt:i < n
 ·refine .inr ⟨(j1 i hlt).1,fun x H3 y=>?_⟩
  obtain ⟨e1,e2⟩:=(j1 i hlt).2 x H3 y
  subst e1 e2
  refine step i H3 _ _ hlt hs (fun ht v H6 s6 r6=>⟨s6 _ _ hDa,?_,n - (i + 1),by omega,rfl,hlt,?_,fun b o e=>?_,Zc,fun j q u e1 e2=>?_⟩) (fun ht H6 s6=>⟨n - (i + 1),by omega,rfl,hlt,?_,hs.trans s6,s6 _ _ hDa,fun j q u e1 e2=>?_⟩)
  ·have:=List.length_filter_le t (List.range i)
   rw [List.length_range] at this
   omega
  ·rw [List.range_succ,List.filter_append,List.length_append,List.length_append,hl]
   simp [ht]
  ·rw [Zi (Zj e hD)]
   exact s6 _ _ (hs b o e)
  ·have ts:TSame H6 (upd H6 D (.lst (acc ++ [v]))):=Xv (s6 _ _ hDa)
   rw [List.range_succ,List.filter_append] at e1
   rcases Nat.lt_trichotomy j acc.length with h | h | h
   ·rw [List.getElem?_append_left h] at e2
    rw [List.getElem?_append_left (by omega)] at e1
    exact hR _ _ _ _ (s6.tup.trans ts) (hr j q u e1 e2)
   ·subst h
    rw [List.getElem?_append_right (Nat.le_refl _),Nat.sub_self] at e2
    rw [List.getElem?_append_right (by omega),hl,Nat.sub_self] at e1
    simp [ht] at e1 e2
    subst e1 e2
    exact hR _ _ _ _ ts r6
   ·rw [List.getElem?_eq_none (by rw [List.length_append,List.length_singleton]; omega)] at e2
    cases e2
  ·rw [List.range_succ,List.filter_append,List.length_append,hl]
   simp [ht]
  ·rw [List.range_succ,List.filter_append] at e1
   have hj:j < acc.length:=(List.getElem?_eq_some_iff.mp e2).1
   rw [List.getElem?_append_left (by omega)] at e1
   exact hR _ _ _ _ s6.tup (hr j q u e1 e2)
 ·have e:i=n:=by omega
  subst e
  exact .inl ⟨j2,done D acc H hl hr hs hD hDa⟩
section
variable {prog:Program} {w:World} {A:Around} {E:Value→Shared→Prop} {s:Shared}
end
section
variable {X:Cx} {pins:List (Addr × Obj)} {σ:St} {H H':Hp} {s s':Shared} {d:Addr} {o:Obj} {kvs kvs':List (Key × V)}
theorem Inv.thaw2 {σ2:St} (I:Inv X pins σ H s) (hd:H d=some (.dK kvs)) (J:Inv X pins σ2 H' s') (e:H' d=some (.frz o (.dK kvs'))):Inv X pins σ2 (upd H' d (.dK kvs')) s':=by
 have nn:∀ b,H' b=none→upd H' d (.dK kvs') b=none:=fun b z=>by
  rw [Zi]
  ·exact z
  ·intro w; rw [w,e] at z; cases z
 refine { J with base:=⟨J.base.keep,J.base.slot,fun b ob h1 h2 h3=>nn b (J.base.free b ob h1 h2 h3),J.base.there,fun b xs h1=>?_,fun b ob u h1=>?_,fun b ps h1=>?_⟩,free:=nn _ J.free,freeC:=fun x c h=>nn _ (J.freeC x c h),pin:=fun p hp=>?_,hok:=fun b u h1=>?_ }
 ·have h2:=J.base.tups b xs h1
  rw [Zi]
  ·exact h2
  ·intro w; rw [w,e] at h2; cases h2
 ·by_cases w:b=d
  ·have h2:=I.base.frzs b ob u h1
   rw [w,hd] at h2
   cases h2
  ·rw [Zi w]
   exact J.base.frzs b ob u h1
 ·obtain ⟨more,h2⟩:=J.base.tbls b ps h1
  refine ⟨more,?_⟩
  rw [Zi]
  ·exact h2
  ·intro w; rw [w,e] at h2; cases h2
 ·obtain ⟨p1,p2,p3⟩:=J.pin p hp
  exact ⟨p1,nn _ p2,p3⟩
 ·have ho:∀ (a:Addr) (b:Addr),H' b=some (.own a)→upd H' d (.dK kvs') b=some (.own a):=fun a b z=>by
   rw [Zi]
   ·exact z
   ·intro w; rw [w,e] at z; cases z
  have ht:∀ (b:Addr) xs,H' b=some (.tup xs)→upd H' d (.dK kvs') b=some (.tup xs):=fun b xs z=>by
   rw [Zi]
   ·exact z
   ·intro w; rw [w,e] at z; cases z
  by_cases w:b=d
  ·subst w
   rw [Zc] at h1
   cases h1
   obtain ⟨_,q⟩:=J.hok b _ e
   exact q.stay (fun _ _ _ z=>z) (ho b) ht
  ·rw [Zi w] at h1
   exact (J.hok b u h1).stay (fun _ _ _ z=>z) (ho b) ht
end
def Znz (t:TS):TS:=fun D σ H=>∃ d kvs,H d=some (.dK kvs)∧∀ o,t ⟨fun σ' H'=>H' d=some (.frz o (.dK kvs))∧D.nx σ' (upd H' d (.dK kvs)),fun _ _=>False,fun _ _=>False,fun _ _=>False⟩ σ (upd H d (.frz o (.dK kvs)))
theorem Zmt {X:Cx} {st:Stmt} {t:TS} (h:PS X st t):PS X st (Znz t):=by
 intro pins s σ H D I q
 obtain ⟨d,kvs,hd,q⟩:=q
 obtain ⟨o,I1⟩:=I.frozen hd
 refine wpAny_mono (h pins s σ _ _ I1 (q o)) (fun f s2 z=>?_) fun _ _ e=>e
 cases f with
 | next =>
  obtain ⟨σ2,H2,I2,e2,q2⟩:=z
  exact ⟨σ2,_,I.thaw2 hd I2 e2,q2⟩
 | brk =>
  obtain ⟨_,_,_,z⟩:=z
  exact z.elim
 | cont =>
  obtain ⟨_,_,_,z⟩:=z
  exact z.elim
 | ret v =>
  obtain ⟨_,_,_,_,_,z⟩:=z
  exact z.elim
theorem Zhx {k:Nat} {mp:List Nat} {σ:St} {g:TG} {te:TE} {J:It} {H1:Hp} {Q:VK} (n:Nat) (xs:Nat→V) (f:Nat→List V) (hn:n≤sizeLine)
  (hJ:∀ H,Same H1 H→(∀ i,i < n→J.go i H∧∀ x H',J.yld i H x H'→H'=H∧x=xs i)∧J.stop n H)
  (step:∀ i H (Qe:VK),i < n→Same H1 H→(∀ a H6,Same H H6→H a=none→H6 a=some (.lst (f i))→Qe (.ref a) H6)→g (xs i) (lcS k mp σ) H fun σ4 H4=>te σ4 H4 Qe)
  (done:∀ D (as:List Addr) H',as.length=n→as.Nodup→(∀ i a,as[i]?=some a→a≠D∧H1 a=none∧H' a=some (.lst (f i)))→Same H1 H'→H1 D=none→H' D=some (.lst (as.map V.ref))→Q (.ref D) H'):Jl k mp σ g Zl8 te J H1 Q:=by
 intro D hD
 refine ⟨fun i m acc H=>m=n - i∧i≤n∧Same H1 H∧H D=some (.lst acc)∧∃ as:List Addr,acc=as.map V.ref∧as.length=i∧as.Nodup∧∀ j a,as[j]?=some a→a≠D∧H1 a=none∧H a=some (.lst (f j)),⟨n,by simp,Nat.zero_le _,Zb hD,Zc,[],rfl,rfl,List.nodup_nil,fun j v e=>by simp at e⟩,?_⟩
 rintro i m acc H ⟨rfl,hi,hs,hDa,as,rfl,hl,hnd,hr⟩
 obtain ⟨j1,j2⟩:=hJ H hs
 by_cases hlt:i < n
 ·refine .inr ⟨(j1 i hlt).1,fun x H3 y=>?_⟩
  obtain ⟨e1,e2⟩:=(j1 i hlt).2 x H3 y
  subst e1 e2
  refine step i H3 _ hlt hs fun a H6 s6 ha r6=>⟨s6 _ _ hDa,by rw [List.length_map]; omega,n - (i + 1),by omega,rfl,hlt,fun b o e=>?_,Zc,as ++ [a],by rw [List.map_append]; rfl,by rw [List.length_append,hl]; rfl,?_,fun j u e=>?_⟩
  ·rw [Zi (Zj e hD)]
   exact s6 _ _ (hs b o e)
  ·rw [List.nodup_append]
   refine ⟨hnd,by simp,fun x hx y hy e=>?_⟩
   rw [List.mem_singleton.mp hy] at e
   subst e
   obtain ⟨j,hj⟩:=List.mem_iff_getElem?.mp hx
   rw [(hr j x hj).2.2] at ha
   cases ha
  ·have naD:a≠D:=fun z=>by rw [z,hDa] at ha; cases ha
   rcases Nat.lt_trichotomy j as.length with h | h | h
   ·rw [List.getElem?_append_left h] at e
    obtain ⟨q1,q2,q3⟩:=hr j u e
    exact ⟨q1,q2,by rw [Zi q1]; exact s6 _ _ q3⟩
   ·subst h
    rw [List.getElem?_append_right (Nat.le_refl _),Nat.sub_self] at e
    cases e
    exact ⟨naD,hs.free ha,by rw [Zi naD,hl]; exact r6⟩
   ·rw [List.getElem?_eq_none (by rw [List.length_append,List.length_singleton]; omega)] at e
    cases e
 ·have e:i=n:=by omega
  subst e
  exact .inl ⟨j2,done D as H hl hnd hr hs hD hDa⟩
end L2
set_option maxRecDepth 4000
namespace L2
open PySem PySem.Spec PyProof.Rows
end L2
namespace PySem
namespace F
theorem JZ:Manifest.owners.lookup (String.ofList ['d','e','s','r','e','v','e','r'].reverse)=some Manifest.sig_reversed:=by kernel_rfl
theorem slot_rev_next:Slot "reversed" "__next__" "reversed.__next__" :=
 .of (owner:="reversed") (n:="__next__") (by rw [typeLookup_type,builtinLookup_eq_fast]; kernel_rfl) (by decide +kernel) (by decide +kernel) (by decide +kernel)
  (by first | exact .inl (by decide +kernel) | exact .inr (by decide +kernel)) (by rw [isSubtype_type]; kernel_rfl)
theorem entry_rev_next:entryFor table "reversed.__next__" = some Builtin.«reversed.__next__»:=entryFor_of_tree (by kernel_rfl)
theorem args_rev_next_1 (a:Value):argsOk "reversed.__next__" ⟨[a],[]⟩:=by
 unfold argsOk; rw [signature?_of (id:="reversed.__next__") (n:=['_','_','t','x','e','n','_','_']) (o:=['d','e','s','r','e','v','e','r']) (by kernel_rfl) JZ]; kernel_rfl
theorem slot_rev_iter:Slot "reversed" "__iter__" "reversed.__iter__" :=
 .of (owner:="reversed") (n:="__iter__") (by rw [typeLookup_type,builtinLookup_eq_fast]; kernel_rfl) (by decide +kernel) (by decide +kernel) (by decide +kernel)
  (by first | exact .inl (by decide +kernel) | exact .inr (by decide +kernel)) (by rw [isSubtype_type]; kernel_rfl)
theorem args_rev_iter_1 (a:Value):argsOk "reversed.__iter__" ⟨[a],[]⟩:=by
 unfold argsOk; rw [signature?_of (id:="reversed.__iter__") (n:=['_','_','r','e','t','i','_','_']) (o:=['d','e','s','r','e','v','e','r']) (by kernel_rfl) JZ]; kernel_rfl
theorem entry_rev_iter:entryFor table "reversed.__iter__" = some Builtin.«dict_keyiterator.__iter__» :=
 entryFor_alias (id':="dict_keyiterator.__iter__") (by kernel_rfl) (by first | rfl | decide +kernel | (unfold String.splitOn; simp +decide [String.splitOnAux])) (by decide +kernel) (by kernel_rfl)
theorem rev_no_len:typeLookup (.type "reversed") "__len__" = pure none:=by rw [typeLookup_type,builtinLookup_eq_fast]; kernel_rfl
theorem slot_rev_hint:Slot "reversed" "__length_hint__" "reversed.__length_hint__" :=
 .of (owner:="reversed") (n:="__length_hint__") (by rw [typeLookup_type,builtinLookup_eq_fast]; kernel_rfl) (by decide +kernel) (by decide +kernel) (by decide +kernel)
  (by first | exact .inl (by decide +kernel) | exact .inr (by decide +kernel)) (by rw [isSubtype_type]; kernel_rfl)
theorem entry_rev_hint:entryFor table "reversed.__length_hint__" = some Builtin.«reversed.__length_hint__»:=entryFor_of_tree (by kernel_rfl)
theorem args_rev_hint_1 (a:Value):argsOk "reversed.__length_hint__" ⟨[a],[]⟩:=by
 unfold argsOk; rw [signature?_of (id:="reversed.__length_hint__") (n:=['_','_','t','n','i','h','_','h','t','g','n','e','l','_','_']) (o:=['d','e','s','r','e','v','e','r']) (by kernel_rfl) JZ]; kernel_rfl
theorem str_no_reversed:typeLookup (.type "str") "__reversed__" = pure none:=by rw [typeLookup_type,builtinLookup_eq_fast]; kernel_rfl
theorem sub_rev_rev:isSubtype (.type "reversed") (.type "reversed")=pure true:=by rw [isSubtype_type]; kernel_rfl
theorem ZaV:Slot "reversed" "__init__" "object.__init__" :=
 .of (owner:="object") (n:="__init__") (by rw [typeLookup_type,builtinLookup_eq_fast]; kernel_rfl) (by decide +kernel) (by decide +kernel) (by decide +kernel)
  (by first | exact .inl (by decide +kernel) | exact .inr (by decide +kernel)) (by rw [isSubtype_type]; kernel_rfl)
theorem called_rev:TypeCalled "reversed" "reversed.__new__" "object.__init__" :=
 ⟨by decide +kernel,by decide +kernel,⟨_,_,mro_reversed⟩,madeBy_type mro_reversed lookup_reversed_new (by decide +kernel),by decide +kernel,by rw [isSubtype_type]; kernel_rfl,ZaV⟩
end F
end PySem
namespace PySem
def ZnJ (x:Str) (t:Tok) (i:Int):Obj:={ cls:=.type "reversed",data:=.fields #[.str x t,rawInt i] }
theorem Zbt (x:Str) (t:Tok) (hx:x.length≤sizeLine) :
  Meets (Builtin.«reversed.__new__» ⟨[.type "reversed",.str x t],[]⟩) (fun _ R s =>
   R (.ok (.ret (.ref s.heap.objs.size))) { s with toks:=s.toks + 1 + 1,heap:=s.heap.push (ZnJ x t ((x.length:Int) - 1)) }) :=
 .of_wp fun prog w A R s h=>by
  unfold Builtin.«reversed.__new__»
  refine wpAny_bind (wpAny_of_eq (newClass_reversed _) ?_)
  try dsimp only
  refine wpAny_bind (wpAny_of_eq (a:=()) (by first | rfl | kernel_rfl) ?_)
  refine wpAny_bind (wpAny_of_eq (a:=()) (by first | rfl | kernel_rfl) ?_)
  try dsimp only
  refine wpAny_bind (wpAny_specialOf (typeIs_str _ x t) F.str_no_reversed ?_)
  try dsimp only
  refine wpAny_bind ?_
  wp_delta
  refine wpAny_bind (wpAny_isInstance (T:="str") (v:=.str x t) (b:=false) rfl F.sub_str_dict ?_)
  try dsimp only
  refine wpAny_bind (wpAny_specialOf (typeIs_str _ x t) F.slot_str_getitem.lookup ?_)
  try dsimp only
  rw [if_pos (by decide)]
  refine wpAny_pure ?_
  rw [if_neg (by decide)]
  have hs:sizeLine=16777216:=sizeLine_eq
  refine wpAny_bind (P.len_str (by omega) ?_)
  refine wpAny_bind (wpAny_of_eq (a:=some (x.length:Int)) rfl ?_)
  try dsimp only
  unfold Builtin.SmallTypes.newRecord
  try dsimp only
  refine wpAny_bind (wpAny_newObj_type ?_)
  exact wpAny_pure ⟨_,rfl,h⟩
section
variable {prog:Program} {w:World} {A:Around} {E:Value→Shared→Prop} {s:Shared}
theorem Jd {x:Str} {t:Tok} {Q:Value→Shared→Prop} (hx:x.length≤sizeLine)
  (h:Q (.ref s.heap.objs.size) { s with toks:=s.toks + 1 + 1,heap:=s.heap.push (ZnJ x t ((x.length:Int) - 1)) }):wpAny (model prog w) A (call (.type "reversed") [.str x t]) Q E s :=
 callType_new F.called_rev (by decide) (F.typeCall_reversed_1 _) (F.newCall_reversed_1 _) (fun obj=>F.args_object_init_2 obj _) F.entry_reversed_new (Zbt x t hx) ⟨⟨_,Heap.get?_push_size _ rfl,rfl⟩,h⟩
def Heap.IsRevS (h:Heap) (a:Addr) (x:Str) (t:Tok) (i:Int):Prop:=∃ o,h.get? a=some o∧o.cls = .type "reversed"∧o.data = .fields #[.str x t,rawInt i]
theorem Heap.IsRevS.typeIs {a:Addr} {x:Str} {t:Tok} {i:Int} (y:s.heap.IsRevS a x t i):s.TypeIs (.ref a) "reversed":=let ⟨o,ho,hc,_⟩:=y; ⟨o,ho,hc⟩
theorem Heap.IsRevS.at {h h':Heap} {a:Addr} {x:Str} {t:Tok} {i:Int} (y:h.IsRevS a x t i) (e:∀ o,h.get? a=some o→h'.get? a=some o):h'.IsRevS a x t i:=let ⟨o,ho,r⟩:=y; ⟨o,e _ ho,r⟩
theorem XU {it:Addr} {x:Str} {t:Tok} {i c:Nat} {Q:Option Value→Shared→Prop} (hit:s.heap.IsRevS it x t (i:Int)) (hc:x.cps[i]?=some c) (hx:x.length≤sizeLine)
  (hQ:∀ h' u,h'.IsRevS it x t ((i:Int) - 1)→Heap.SameBut it s.heap h'→Q (some (.str ⟨#[c]⟩ u)) { s with heap:=h',toks:=s.toks + 1 + 1 }):wpAny (model prog w) A (pyNext (.ref it)) Q E s:=by
 obtain ⟨o,ho,hcl,hd⟩:=id hit
 have hs:sizeLine=16777216:=sizeLine_eq
 have hi:i < x.length:=by
  have:=(Array.getElem?_eq_some_iff.mp hc).1
  exact this
 unfold pyNext
 refine wpAny_bind (wpAny_attempt (wpAny_callSpecial?_slot (name:=Str.ofString "__next__") hit.typeIs F.slot_rev_next
  (wpAny_call_entry F.slot_rev_next hit.typeIs F.entry_rev_next ?_ (F.args_rev_next_1 _))))
 unfold Builtin.«reversed.__next__»
 refine wpAny_bind (wpAny_of_eq (a:=(Value.ref it,[])) rfl ?_)
 try dsimp only
 refine wpAny_bind (wpAny_field ho hd (x:=.str x t) rfl ?_)
 refine wpAny_bind (wpAny_field ho hd (x:=rawInt (i:Int)) rfl ?_)
 show wpAny _ _ (if (i:Int) < 0 then _ else _) _ _ s
 rw [if_neg (by omega)]
 refine wpAny_bind (wpAny_specialOf (typeIs_str _ x t) F.slot_str_getitem.lookup ?_)
 rw [if_neg (by decide)]
 refine wpAny_bind (wpAny_mkInt ?_)
 have e1:decide ((i:Int) < -(2 ^ 63:Int))=false:=decide_eq_false (by omega)
 have e2:decide ((i:Int) ≥ 2 ^ 63)=false:=decide_eq_false (by omega)
 have e3:seqIndex? (i:Int) x.length=some i:=(L2.ixN_seq (by unfold L2.ixN; rw [if_pos (by omega),if_pos (by omega)]; rfl)).1
 refine wpAny_bind (wpAny_attempt (P.getItem_str (c:=c) (by rw [e1,e2]; rfl) (by rw [e3]; exact hc) ?_))
 try dsimp only
 refine wpAny_bind (wpAny_field ho hd (x:=rawInt (i:Int)) rfl ?_)
 show wpAny _ _ (setField (Value.ref it) 1 (rawInt ((i:Int) - 1)) >>= _) _ _ _
 refine wpAny_bind (wpAny_setField ho hd (by simp) ?_)
 refine wpAny_pure ⟨_,rfl,wpAny_pure (hQ _ _ ?_ (Heap.SameBut.update ..))⟩
 exact ⟨_,Heap.get?_update_self _ ho (Obj.isFreed_of_fields (Obj.data_mapFields hd _)),(Obj.cls_mapFields ..).trans hcl,by
  rw [Obj.data_mapFields hd]; simp⟩
theorem YE {it:Addr} {x:Str} {t:Tok} {Q:Option Value→Shared→Prop} (hh:A.handled=none) (hit:s.heap.IsRevS it x t (-1))
  (hQ:∀ h',Heap.ExtBut it s.heap h'→Q none { s with heap:=h' }):wpAny (model prog w) A (pyNext (.ref it)) Q E s:=by
 obtain ⟨o,ho,hcl,hd⟩:=id hit
 unfold pyNext
 refine wpAny_bind (wpAny_attempt (wpAny_callSpecial?_slot (name:=Str.ofString "__next__") hit.typeIs F.slot_rev_next
  (wpAny_call_entry F.slot_rev_next hit.typeIs F.entry_rev_next ?_ (F.args_rev_next_1 _))))
 unfold Builtin.«reversed.__next__»
 refine wpAny_bind (wpAny_of_eq (a:=(Value.ref it,[])) rfl ?_)
 try dsimp only
 refine wpAny_bind (wpAny_field ho hd (x:=.str x t) rfl ?_)
 refine wpAny_bind (wpAny_field ho hd (x:=rawInt (-1)) rfl ?_)
 show wpAny _ _ (if (-1:Int) < 0 then _ else _) _ _ s
 rw [if_pos (by decide)]
 refine wpAny_bind (wpAny_rule ?_)
 refine wpAny_bind ?_
 wp_delta
 refine wpAny_bind (wpAny_setField ho hd (by simp) ?_)
 have h1:=Heap.get?_update_self (Obj.mapFields fun vs=>vs.set! 1 (rawInt (-1))) ho (Obj.isFreed_of_fields (Obj.data_mapFields hd _))
 have d1:(Obj.mapFields (fun vs=>vs.set! 1 (rawInt (-1))) o).data = .fields #[.str x t,rawInt (-1)]:=by rw [Obj.data_mapFields hd]; simp
 refine wpAny_setField h1 d1 (by simp) ?_
 refine wpAny_bind ?_
 unfold Builtin.SmallTypes.stopIteration
 refine wpAny_bind ?_
 simp only [newExc,newTuple]
 refine wpAny_bind (wpAny_newObj_type ?_ (by size_fits))
 refine wpAny_bind (m:=firstArgMember _ _) (wpAny_of_eq (a:=Value.none) (by first | rfl | (simp only [firstArgMember]; rfl)) ?_)
 refine wpAny_newObj_type ?_ (by size_fits)
 simp only [raiseNew]
 refine wpAny_bind (wpAny_handled ?_)
 first | rw [show A.in1.handled=none from hh] | rw [hh]
 refine wpAny_bind (wpAny_pure (wpAny_throw ?_))
 refine wpAny_bind (wpAny_isInstance (T:="StopIteration") (b:=true) ⟨_,Heap.get?_push_size _ rfl,rfl⟩ isSubtype_stop ?_)
 refine wpAny_pure (hQ _ ?_)
 intro b ob hb e
 refine Heap.get?_push_of_some _ (Heap.get?_push_of_some _ ?_)
 exact (Heap.get?_update_other _ _ (Ne.symm hb)).trans ((Heap.get?_update_other _ _ (Ne.symm hb)).trans e)
theorem Yp {it:Addr} {x:Str} {t:Tok} {i:Int} {Q:Value→Shared→Prop} (hit:s.heap.IsRevS it x t i) (h:Q (.ref it) s):wpAny (model prog w) A (pyIter (.ref it)) Q E s:=by
 refine wpAny_pyIter_slot hit.typeIs F.slot_rev_iter (wpAny_call_entry F.slot_rev_iter hit.typeIs F.entry_rev_iter ?_ (F.args_rev_iter_1 _))
 show wpAny _ _ (ret (.ref it)) _ _ s
 exact wpAny_pure ⟨_,rfl,"reversed",_,hit.typeIs,F.slot_rev_next.lookup,h⟩
end
theorem Ze3 {prog:Program} {w:World} {A:Around} (hh:A.handled=none) (I:Addr) (x:Str) (t:Tok) (hx:x.length≤sizeLine) :
  Walks prog w A I [I] [I] x.length (fun i v=>∃ c u,x.cps[x.length - 1 - i]?=some c∧v = .str ⟨#[c]⟩ u) (fun i h=>i≤x.length∧h.IsRevS I x t ((x.length:Int) - 1 - (i:Int))) where
 sub:=fun b hb=>by simp at hb; simp [hb]
 frame:=fun _ _ _ y hk=>⟨y.1,y.2.at fun o e=>hk I (by simp) o e⟩
 item:=fun i s Q E hi y hQ=>by
  have e:(x.length:Int) - 1 - (i:Int)=((x.length - 1 - i:Nat):Int):=by omega
  have hit:=y.2
  rw [e] at hit
  have hlt:x.length - 1 - i < x.cps.size:=by
   have:x.length=x.cps.size:=rfl
   omega
  have hc:x.cps[x.length - 1 - i]?=some (x.cps[x.length - 1 - i]'hlt):=Array.getElem?_eq_getElem hlt
  refine XU hit hc hx fun h' u hit' hs'=>?_
  have e2:((x.length - 1 - i:Nat):Int) - 1=(x.length:Int) - 1 - ((i + 1:Nat):Int):=by omega
  rw [e2] at hit'
  exact hQ _ h' _ ⟨_,u,hc,rfl⟩ ⟨hi,hit'⟩ fun b o hb eo=>hs'.extBut b o (fun h=>hb (by simp [h])) eo
 done:=fun s Q E y hQ=>by
  have e:(x.length:Int) - 1 - (x.length:Int) = -1:=by omega
  have hit:=y.2
  rw [e] at hit
  exact YE hh hit fun h' he'=>hQ h' s.toks fun b o hb eo=>he' b o (fun h=>hb (by simp [h])) eo
 self:=fun _ _ _ _ y hQ=>Yp y.2 hQ
end PySem
namespace PySem
section
variable {prog:Program} {w:World} {A:Around} {E:Value→Shared→Prop} {s:Shared}
theorem ZbH {it:Addr} {x:Str} {t:Tok} {Q:Value→Shared→Prop} (hit:s.heap.IsRevS it x t ((x.length:Int) - 1)) (hx:x.length≤sizeLine)
  (h:∀ u tk,Q (.int x.length u) { s with toks:=tk }):wpAny (model prog w) A (call (.builtin "reversed.__length_hint__") [.ref it]) Q E s:=by
 obtain ⟨o,ho,hcl,hd⟩:=id hit
 have hs:sizeLine=16777216:=sizeLine_eq
 refine wpAny_call_entry F.slot_rev_hint hit.typeIs F.entry_rev_hint ?_ (F.args_rev_hint_1 _)
 unfold Builtin.«reversed.__length_hint__»
 refine wpAny_bind (wpAny_of_eq (a:=Value.ref it) rfl ?_)
 refine wpAny_bind (wpAny_field ho hd (x:=.str x t) rfl ?_)
 rw [if_neg (show ¬ ((Value.str x t == Value.none)=true) from Bool.false_ne_true)]
 refine wpAny_bind (P.len_str (by omega) ?_)
 refine wpAny_bind (wpAny_of_eq (a:=some (x.length:Int)) rfl ?_)
 try dsimp only
 refine wpAny_bind (wpAny_field ho hd (x:=rawInt ((x.length:Int) - 1)) rfl ?_)
 show wpAny _ _ (if (x.length:Int) < (x.length:Int) - 1 + 1 then _ else _) _ _ _
 rw [if_neg (by omega)]
 unfold retInt
 refine wpAny_bind (wpAny_mkInt (wpAny_pure ⟨_,rfl,?_⟩))
 have e:(x.length:Int) - 1 + 1=x.length:=by omega
 rw [e]
 exact h _ _
theorem ZiM {it:Addr} {x:Str} {t:Tok} {Q:Bool→Shared→Prop} (hit:s.heap.IsRevS it x t ((x.length:Int) - 1)) (hx:x.length≤sizeLine)
  (h:∀ b tk,Q b { s with toks:=tk }):wpAny (model prog w) A (Builtin.List.listLengthHint (.ref it)) Q E s:=by
 have hs:sizeLine=16777216:=sizeLine_eq
 unfold Builtin.List.listLengthHint
 refine wpAny_bind (wpAny_specialOf hit.typeIs F.rev_no_len ?_)
 show wpAny _ _ (specialOf (Value.ref it) (Str.ofString "__length_hint__") >>= _) _ _ _
 refine wpAny_bind (wpAny_specialOf hit.typeIs F.slot_rev_hint.lookup ?_)
 have hsp:splitId "reversed.__length_hint__" = some ("reversed","__length_hint__"):=by decide +kernel
 try dsimp only
 rw [hsp]
 try dsimp only
 refine wpAny_bind (wpAny_isInstance hit.typeIs F.sub_rev_rev ?_)
 rw [if_neg (by decide)]
 rw [if_neg (by decide +kernel)]
 refine wpAny_bind (wpAny_rule ?_)
 refine wpAny_bind (wpAny_of_eq (F.slot_rev_hint.bind _) ?_)
 try dsimp only
 refine wpAny_bind (wpAny_attempt (ZbH hit hx fun u tk=>?_))
 have ea:asInt? (Value.int (x.length:Int) u)=pure (some (x.length:Int)):=by simp only [asInt?]
 generalize hn:(x.length:Int)=n at ea
 simp only [ea,pure_bind]
 subst hn
 try dsimp only
 have f1:Builtin.List.listFitsIndex (x.length:Int)=true:=by
  unfold Builtin.List.listFitsIndex
  have a1:decide (-(2 ^ 63:Int)≤(x.length:Int))=true:=decide_eq_true (by omega)
  have a2:decide ((x.length:Int) < 2 ^ 63)=true:=decide_eq_true (by omega)
  rw [a1,a2]
  rfl
 have f2:Builtin.List.listTooLong (x.length:Int).toNat=false:=by
  unfold Builtin.List.listTooLong
  rw [Int.toNat_natCast]
  exact decide_eq_false (Nat.not_lt.mpr hx)
 rw [f1,if_neg (by decide),if_neg (by omega),f2,if_neg (by decide)]
 exact wpAny_pure (h _ _)
section
variable {R:Result→Shared→Prop}
theorem ZfB (hh:A.handled=none) {I:Addr} {x:Str} {t:Tok} (hx:x.length≤sizeLine) (S:Addr) (c₀:Nat) (hit:s.heap.IsRevS I x t ((x.length:Int) - 1)) (hSI:S≠I)
  (hS:s.heap.get? S=some { cls:=.type "list",data:=.seq #[] c₀ })
  (hR:∀ h' tk acc' c',(∀ b o,b≠S→b≠I→s.heap.get? b=some o→h'.get? b=some o)→h'.get? S=some { cls:=.type "list",dict:=none,data:=.seq acc' c',slots:=#[] } →
   ItemsOf (fun i v=>∃ c u,x.cps[x.length - 1 - i]?=some c∧v = .str ⟨#[c]⟩ u) acc' x.length→R (.ok (.ret .none)) { s with heap:=h',toks:=tk }) :
  wpAny (model prog w) A.in1 (Builtin.List.listExtendWith (.ref S) (.ref I) .none)
   (fun fin s'=>match fin with | .done f=>R (.ok f) s' | .again c'=>c'.quiet=true∧codeAny (model prog w) A c' R s') (fun e s'=>R (.error e) s') s:=by
 have hSf:S∉[I]:=fun hm=>hSI (List.mem_singleton.mp hm)
 unfold Builtin.List.listExtendWith
 refine wpAny_bind (wpAny_typeOf hit.typeIs ?_)
 have h1:Builtin.List.listSameRef (.ref S) (.ref I)=false:=by simp [Builtin.List.listSameRef,hSI]
 have h2:(Value.type "reversed" == Value.type "list")=false:=by decide
 have h3:(Value.type "reversed" == Value.type "tuple")=false:=by decide
 simp only [h1,h2,h3,Bool.or_false,Bool.false_eq_true,if_false]
 refine wpAny_bind (Yp hit ?_)
 refine wpAny_bind (wpAny_holding (ZiM hit hx fun b tk=>?_))
 have W:=(Ze3 (prog:=prog) (w:=w) (A:=A.in1) hh I x t hx).toS
 have st0:∀ h':Heap,(∀ b o,b≠S→s.heap.get? b=some o→h'.get? b=some o)→(0≤x.length∧h'.IsRevS I x t ((x.length:Int) - 1 - ((0:Nat):Int))):=fun h' hk=>⟨Nat.zero_le _,by
  have:=hit.at (h':=h') fun o e=>hk I o (Ne.symm hSI) e
  have e:(x.length:Int) - 1 - ((0:Nat):Int)=(x.length:Int) - 1:=by omega
  rw [e]
  exact this⟩
 have fin:∀ (h₁:Heap) (c₁:Nat),(∀ b o,b≠S→s.heap.get? b=some o→h₁.get? b=some o)→h₁.get? S=some { cls:=.type "list",data:=.seq #[] c₁ } →
   codeAny (model prog w) A (.builtin "list.extend.loop" ⟨[.ref S,.ref I,.none],[]⟩) R { s with heap:=h₁,toks:=tk }:=fun h₁ c₁ hk hS₁=>by
  refine codeAny_extend_loopS W hx _ hSf _ x.length 0 _ _ _ rfl (Nat.zero_le _) (st0 h₁ hk) hS₁ (ItemsOf.nil _) fun s' acc' c' hm hS' hacc=>?_
  rw [Moved.eq_with hm]
  refine hR s'.heap s'.toks acc' c' (fun b ob hb hbI e=>hm.heap b ob (fun hmem=>?_) (hk b ob hb e)) hS' hacc
  rcases List.mem_cons.mp hmem with e' | hmem
  ·exact hb e'
  ·exact hbI (List.mem_singleton.mp hmem)
 split
 ·refine wpAny_bind (wpAny_rule ?_)
  refine wpAny_bind ?_
  show wpAny _ A.in1 (updateSeq S (·.push .none) >>= fun _=>updateSeq S (·.pop)) _ _ _
  refine wpAny_bind (wpAny_updateSeq hS rfl ?_)
  have hS₂:=Heap.get?_update_self (Obj.mapSeq (·.push Value.none)) hS rfl
  refine wpAny_updateSeq (hz:=by seq_fits) hS₂ rfl ?_
  have hS₃:=Heap.get?_update_self (Obj.mapSeq (·.pop)) hS₂ rfl
  exact wpAny_pure ⟨plainId_quiet F.plain_extend_loop _,fin _ _ (fun b o hb e=>(Heap.get?_update_other _ _ (Ne.symm hb)).trans ((Heap.get?_update_other _ _ (Ne.symm hb)).trans e)) hS₃⟩
 ·exact wpAny_pure ⟨plainId_quiet F.plain_extend_loop _,fin _ _ (fun b o hb e=>e) hS⟩
theorem Zbu (hh:A.handled=none) {I:Addr} {x:Str} {t:Tok} (hx:x.length≤sizeLine) (S:Addr) (hit:s.heap.IsRevS I x t ((x.length:Int) - 1)) (hSI:S≠I)
  (hS:s.heap.get? S=some { cls:=.type "list",data:=.seq #[] })
  (hR:∀ h' tk acc' c',(∀ b o,b≠S→b≠I→s.heap.get? b=some o→h'.get? b=some o)→h'.get? S=some { cls:=.type "list",dict:=none,data:=.seq acc' c',slots:=#[] } →
   ItemsOf (fun i v=>∃ c u,x.cps[x.length - 1 - i]?=some c∧v = .str ⟨#[c]⟩ u) acc' x.length→R (.ok (.ret .none)) { s with heap:=h',toks:=tk }) :
  wpAny (model prog w) A.in1 (Builtin.«list.__init__» ⟨[.ref S,.ref I],[]⟩)
   (fun fin s'=>match fin with | .done f=>R (.ok f) s' | .again c'=>c'.quiet=true∧codeAny (model prog w) A c' R s') (fun e s'=>R (.error e) s') s:=by
 show wpAny _ A.in1 (do let old ← Builtin.List.listItems (.ref S); Builtin.List.listUpdate (.ref S) (fun _=>#[]); letGo old.toList.reverse; Builtin.List.listExtendWith (.ref S) (.ref I) .none) _ _ s
 refine wpAny_bind ?_
 unfold Builtin.List.listItems
 refine wpAny_bind (wpAny_seqItems hS rfl (wpAny_pure ?_))
 show wpAny _ A.in1 (updateSeq S (fun _=>#[]) >>= fun _=>letGo (#[]:Array Value).toList.reverse >>= fun _=>Builtin.List.listExtendWith (.ref S) (.ref I) .none) _ _ s
 refine wpAny_bind (wpAny_updateSeq hS rfl ?_)
 have hS₂:=Heap.get?_update_self (Obj.mapSeq (fun _=>(#[]:Array Value))) hS rfl
 have oth:∀ b o,b≠S→s.heap.get? b=some o→(s.heap.update S (Obj.mapSeq (fun _=>(#[]:Array Value)))).get? b=some o :=
  fun b o hb e=>(Heap.get?_update_other _ _ (Ne.symm hb)).trans e
 refine wpAny_bind (wpAny_letGo ?_)
 refine ZfB hh hx S _ (hit.at fun o e=>oth I o (Ne.symm hSI) e) hSI hS₂ fun h' tk acc' c' hk hS' hacc=>?_
 exact hR h' tk acc' c' (fun b o hb hbI e=>hk b o hb hbI (oth b o hb e)) hS' hacc
end
theorem ZbI (hh:A.handled=none) {I:Addr} {x:Str} {t:Tok} {Q:Value→Shared→Prop} (hx:x.length≤sizeLine) (hit:s.heap.IsRevS I x t ((x.length:Int) - 1))
  (hQ:∀ h' tk acc' c',(∀ b o,b≠I→s.heap.get? b=some o→h'.get? b=some o)→h'.get? s.heap.objs.size=some { cls:=.type "list",dict:=none,data:=.seq acc' c',slots:=#[] } →
   ItemsOf (fun i v=>∃ c u,x.cps[x.length - 1 - i]?=some c∧v = .str ⟨#[c]⟩ u) acc' x.length→Q (.ref s.heap.objs.size) { s with heap:=h',toks:=tk }) :
  wpAny (model prog w) A (call (.type "list") [.ref I]) Q E s:=by
 have hSI:s.heap.objs.size≠I:=fun e=>by
  obtain ⟨o,ho,_⟩:=hit
  exact Nat.lt_irrefl _ (e ▸ Heap.lt_size ho)
 refine callType_codes (Q₁:=fun obj s₁=>obj = .ref s.heap.objs.size∧s₁={ s with heap:=s.heap.push { cls:=.type "list",data:=.seq #[] } }) F.called_list (F.typeCall_list_1 _) F.entry_list_init
  (code_list_new _ ⟨rfl,rfl⟩) fun obj s₁ h₁=>?_
 obtain ⟨rfl,rfl⟩:=h₁
 have hS:(s.heap.push { cls:=.type "list",data:=.seq #[] }).get? s.heap.objs.size=some { cls:=.type "list",data:=.seq #[] }:=Heap.get?_push_size _ rfl
 refine ⟨⟨_,hS,rfl⟩,F.args_list_init_2 _ _,Zbu (A:=A.in1) hh hx _ (hit.at fun o e=>Heap.get?_push_of_some _ e) hSI hS fun h' tk acc' c' hk hS' hacc=>?_⟩
 exact ⟨rfl,hQ h' tk acc' c' (fun b o hbI e=>hk b o (Nat.ne_of_lt (Heap.lt_size e)) hbI (Heap.get?_push_of_some _ e)) hS' hacc⟩
end
end PySem
namespace L2
open PySem PySem.Spec PyProof.Rows
theorem ZfG:bootBuiltins "reversed" = some (.type "reversed"):=by decide +kernel
theorem ZkF:∀ (ws:List V) (us:List Value),ws.length=us.length→(∀ (i:Nat) (w:V) (u:Value),ws[i]?=some w→us[i]?=some u→RelV w u)→Vals ws us:=by
 intro ws
 induction ws with
 | nil =>
  intro us hl _
  have:us=[]:=List.length_eq_zero_iff.mp hl.symm
  subst this
  exact .nil
 | cons w ws ih =>
  intro us hl h
  cases us with
  | nil=>cases hl
  | cons u us=>exact .cons (h 0 w u rfl rfl) (ih us (by simpa using hl) fun i w' u' e1 e2=>h (i + 1) w' u' e1 e2)
def tLR (te:TE):TE:=fun σ H Q=>te σ H fun x H1=>∃ z:Str,x = .str z∧z.length≤sizeLine∧∀ p,H1 p=none→Q (.ref p) (upd H1 p (.lst (z.cps.toList.reverse.map fun c=>V.str (tx [c]))))
theorem Zff {X:Cx} {e:Expr} {te:TE} {p1 p2 pos1 pos2:Pos} (hc:X.calm=true) (hgl:Gl X "list") (hml:X.mg "list" = none) (hgr:Gl X "reversed") (hmr:X.mg "reversed" = none) (he:PE X e te)
  (hs1:starEach [.Call (.Name "reversed" p2) [e] [] pos2] X.env=[(false,eval (.Call (.Name "reversed" p2) [e] [] pos2) X.env)]:=by rfl) (hs2:starEach [e] X.env=[(false,eval e X.env)]:=by rfl) :
  PE X (.Call (.Name "list" p1) [.Call (.Name "reversed" p2) [e] [] pos2] [] pos1) (tLR te):=by
 intro pins s σ H Q I h
 refine wpAny_Call_Name_kw (XM I hgl hml Zky ?_ (by decide) (by decide))
 refine PyProof.Rows.callWith_type1 ?_ hs1 rfl
 rw [hs1]
 refine Calls.spliced_cons ?_
 refine wpAny_Call_Name_kw (XM I hgr hmr ZfG ?_ (by decide) (by decide))
 refine PyProof.Rows.callWith_type1 ?_ hs2 rfl
 rw [hs2]
 refine Calls.spliced_cons (thn (he pins s σ H _ I h) fun u s1 ⟨x,H1,I1,r1,q1⟩=>Calls.spliced_nil ?_)
 obtain ⟨z,rfl,hz,q⟩:=q1
 obtain ⟨t,rfl⟩:=r1
 refine Jd hz ?_
 refine Calls.spliced_nil ?_
 refine ZbI (I.ok.hd hc) hz ⟨_,Heap.get?_push_size _ rfl,rfl,rfl⟩ fun h' tk acc c hk hS hacc=>?_
 have hsz:(s1.heap.push (ZnJ z t ((z.length:Int) - 1))).objs.size=s1.heap.objs.size + 1:=Heap.size_push ..
 dsimp only at hS hk ⊢
 rw [hsz] at hS ⊢
 have hf:H1 (s1.heap.objs.size + 1)=none:=I1.hok.fresh (Nat.le_succ _)
 refine ⟨.ref (s1.heap.objs.size + 1),_,I1.laid (h':=h') (t':=tk) (a:=s1.heap.objs.size + 1) (o:=.lst (z.cps.toList.reverse.map fun c=>V.str (tx [c]))) (fun b u e=>hk b u (Nat.ne_of_lt (Heap.lt_size e)) (Heap.get?_push_of_some _ e)) (Nat.le_succ _) ?_,rfl,q _ hf⟩
 refine ⟨by rw [List.length_map,List.length_reverse]; simpa [Str.length] using hz,acc.toList,c,?_,by rw [hS,Array.toArray_toList]⟩
 have hzl:z.cps.toList.length=z.length:=by simp [Str.length]
 refine ZkF _ _ (by rw [List.length_map,List.length_reverse,hzl,Array.length_toList,hacc.1]) fun i w u e1 e2=>?_
 have hi:i < z.length:=by
  have:=(List.getElem?_eq_some_iff.mp e1).1
  rw [List.length_map,List.length_reverse,hzl] at this
  exact this
 obtain ⟨c',t',hc',rfl⟩:=hacc.2 i u (by rw [← Array.getElem?_toList]; exact e2)
 rw [List.getElem?_map,List.getElem?_reverse (by rw [hzl]; exact hi),hzl] at e1
 rw [← Array.getElem?_toList] at hc'
 rw [hc'] at e1
 cases e1
 exact ⟨t',rfl⟩
end L2
namespace PySem
namespace F
end F
section
variable {prog:Program} {w:World} {A:Around} {E:Value→Shared→Prop} {s:Shared}
section
variable {R:Result→Shared→Prop}
end
end
end PySem
namespace L2
open PySem PySem.Spec PyProof.Rows
end L2
set_option maxRecDepth 4000
namespace L2
open PySem PySem.Spec PyProof.Rows
theorem Zib {X:Cx} (hc:X.calm=true):CallR X (.builtin "sum") (fun xs H Q=>∃ (a:Addr) (ns:List Int),xs=[.ref a]∧SqL X.K H a (ns.map V.int)∧Q (.int ns.sum) H):=by
 intro pins s σ H xs us Q I r h
 obtain ⟨a,ns,rfl,hq,q⟩:=h
 obtain ⟨u,rfl,ru⟩:=Xu r
 cases ru
 obtain ⟨its,rv,pl,hz⟩:=I.list hq
 have hl:=rv.length
 rw [List.length_map] at hl
 have hlt:a < s.heap.objs.size:=by
  obtain ⟨o,n,e,_⟩:=pl
  exact Heap.lt_size e
 refine call_sum_walkG (wpAny_pyIter_list pl.isList ⟨s.heap.objs.size,[s.heap.objs.size,a],[s.heap.objs.size],its.toArray.size,_,_,fun i=>ns.getD i 0,rfl,Walks.list (A:=X.A.in1) (I.ok.hd hc) _ _ (Nat.ne_of_lt hlt) its.toArray,
  ⟨⟨_,Heap.get?_push_size _ rfl,rfl,rfl⟩,pl.isList.push _⟩,?_,?_,?_⟩)
 ·intro b hb
  show b < (s.heap.push _).objs.size
  rw [Heap.size_push]
  have:b=s.heap.objs.size∨b=a:=by simpa using hb
  rcases this with z | z
  ·rw [z]; exact Nat.lt_succ_self _
  ·rw [z]; exact Nat.lt_succ_of_lt hlt
 ·intro i v hv
  have e1:its[i]?=some v:=by simpa using hv
  have hi:i < its.length:=(List.getElem?_eq_some_iff.mp e1).1
  have hb:(ns.map V.int)[i]?=some (.int (ns.getD i 0)):=by
   rw [List.getElem?_map,List.getD_eq_getElem?_getD]
   cases e:ns[i]? with
   | none=>exact absurd (List.getElem?_eq_none_iff.mp e) (by omega)
   | some b=>rfl
  obtain ⟨u',hu,ru⟩:=rv.get hb
  rw [e1] at hu
  cases hu
  exact ru
 ·intro h' tk t' kk
  refine ⟨.int ns.sum,H,I.kept fun b o e=>kk b o (by simpa using Nat.ne_of_lt (Heap.lt_size e)) (Heap.get?_push_of_some _ e),⟨t',?_⟩,q⟩
  rw [Yy,List.take_of_length_le (by rw [List.size_toArray]; omega)]
end L2
namespace Tim
open PySem PySem.W PyProof.Rows
structure SortA (prog:Program) (w:World) (h1:Heap) (vs:List Value) (lt:Nat→Nat→Bool) (κ:SortKind):Prop where
 kd:∀ (A:Around) (E:Value→Shared→Prop) (s:Shared) (Q:SortKind→Shared→Prop),(∀ b o,h1.get? b=some o→s.heap.get? b=some o)→2≤vs.length→Q κ s→wpAny (model prog w) A (keyKind' vs.toArray) Q E s
 ask:∀ (A:Around) (s:Shared) (i j:Nat) (x y:Value) (C:Bool→Shared→Prop),(∀ b o,h1.get? b=some o→s.heap.get? b=some o)→vs[i]?=some x→vs[j]?=some y→(∀ tk,C (lt i j) { s with toks:=tk })→wpAny (model prog w) A (keyLt' κ x y) C (fun _ _=>False) s
section
variable {prog:Program} {w:World} {A:Around} {E:Value→Shared→Prop} {s:Shared}
theorem list_sortS {a:Addr} {vs:List Value} {lt:Nat→Nat→Bool} {κ:SortKind} {n:Nat} {P:PySem.Fin→Shared→Prop} (ho:s.heap.get? a=some (seqObj "list" vs.toArray n)) (h64:vs.length < 64) (o:Srt.Ord vs.length lt)
  (kd:∀ (h6:Heap) (Q:SortKind→Shared→Prop),(∀ b o,b≠a→s.heap.get? b=some o→h6.get? b=some o)→2≤vs.length→Q κ { s with heap:=h6 }→wpAny (model prog w) A (keyKind' vs.toArray) Q E { s with heap:=h6 })
  (ask:∀ (h6:Heap) (tk i j:Nat) (x y:Value) (C:Bool→Shared→Prop),(∀ b o,b≠a→s.heap.get? b=some o→h6.get? b=some o)→vs[i]?=some x→vs[j]?=some y→(∀ tk,C (lt i j) { s with heap:=h6,toks:=tk })→wpAny (model prog w) A (keyLt' κ x y) C (fun _ _=>False) { s with heap:=h6,toks:=tk })
  (h:∀ (h1:Heap) (tk c:Nat) (p:Array Nat),Srt.Pm vs.length p→(∀ i j,i < j→j < vs.length→lt (p.getD j 0) (p.getD i 0)=false)→(∀ b o,b≠a→s.heap.get? b=some o→h1.get? b=some o) →
   h1.get? a=some (seqObj "list" (p.toList.map fun i=>vs.getD i Value.none).toArray c)→P (.done (.ret .none)) { s with heap:=h1,toks:=tk }) :
  wpAny (model prog w) A (Builtin.«list.sort» ⟨[.ref a],[]⟩) P E s:=by
 have ha:a < s.heap.objs.size:=Heap.lt_size ho
 have hz:vs.length≤sizeLine:=by rw [sizeLine_eq]; omega
 rw [list_sort_plain]
 refine wpAny_bind (listItems_at ho rfl (wpAny_bind (listUpdate_at ho rfl ?_ (by rw [List.size_toArray]; exact hz) (Nat.zero_le _))))
 obtain ⟨e1,ho1⟩:∃ e1,(s.heap.update a (Obj.mapSeq fun _=>(#[]:Array Value))).get? a=some (seqObj "list" #[] e1):=⟨_,get?_update_seq ho fun _=>#[]⟩
 have k1:∀ b o,b≠a→s.heap.get? b=some o→(s.heap.update a (Obj.mapSeq fun _=>(#[]:Array Value))).get? b=some o:=fun b o hb q=>(Heap.get?_update_other _ _ (Ne.symm hb)).trans q
 refine wpAny_bind (seqEpoch_at ho1 rfl (wpAny_bind (wpAny_newTuple ?_ (by show vs.length≤_; exact hz))))
 refine wpAny_bind (wpAny_newList ?_ (Nat.zero_le _))
 refine wpAny_holding ?_
 generalize hg:((s.heap.update a (Obj.mapSeq fun _=>(#[]:Array Value))).push { cls:=.type "tuple",data:=.seq vs.toArray.toList.toArray }).push { cls:=.type "list",data:=.seq ([]:List Value).toArray }=h6
 have k6:∀ b o,b≠a→s.heap.get? b=some o→h6.get? b=some o:=fun b o hb q=>by
  rw [← hg]
  exact Heap.get?_push_of_some _ (Heap.get?_push_of_some _ (k1 b o hb q))
 have ho6:h6.get? a=some (seqObj "list" #[] e1):=by
  rw [← hg]
  exact Heap.get?_push_of_some _ (Heap.get?_push_of_some _ ho1)
 show wpAny (model prog w) A _ P E { s with heap:=h6 }
 dsimp only
 have fin:∀ (tk:Nat) (p:Array Nat) (out:Array Value),Srt.Pm vs.length p→(∀ i j,i < j→j < vs.length→lt (p.getD j 0) (p.getD i 0)=false)→out=(p.toList.map fun i=>vs.getD i Value.none).toArray →
   ∃ c,(h6.update a (Obj.mapSeq fun _=>out)).get? a=some (seqObj "list" out c)∧out.size≤sizeLine∧P (.done (.ret .none)) { s with heap:=h6.update a (Obj.mapSeq fun _=>out),toks:=tk }:=fun tk p out hp hu ho'=>by
  have hc:=get?_update_seq ho6 fun _=>out
  refine ⟨_,hc,?_,h _ tk _ p hp hu (fun b o hb q=>(Heap.get?_update_other _ _ (Ne.symm hb)).trans (k6 b o hb q)) (by rw [← ho']; exact hc)⟩
  rw [ho',List.size_toArray,List.length_map,Array.length_toList,hp.size]
  exact hz
 have hr:vs=(List.range vs.length).map fun i=>vs.getD i Value.none:=by
  apply List.ext_getElem?
  intro i
  simp only [List.getElem?_map]
  by_cases hi:i < vs.length
  ·rw [List.getElem?_eq_getElem hi,List.getElem?_range hi,Option.map_some,List.getD_eq_getElem?_getD,List.getElem?_eq_getElem hi]
   rfl
  ·rw [List.getElem?_eq_none (by omega),List.getElem?_eq_none (by simp; omega)]
   rfl
 by_cases h2:vs.toArray.size < 2
 ·rw [if_pos h2,if_pos h2]
  rw [List.size_toArray] at h2
  obtain ⟨c,f1,f2,f3⟩:=fin s.toks (List.range vs.length).toArray vs.toArray ⟨by simp,Array.Perm.refl _⟩ (fun a b hab hb=>by omega) (congrArg List.toArray hr)
  refine wpAny_bind (wpAny_pure ?_)
  rw [StateT.run_pure]
  refine wpAny_bind (wpAny_pure ?_)
  have eo:(arrOf (SortSt.mk' general' (vs.toArray.zip vs.toArray) #[] 7 none)).map (·.2)=vs.toArray:=by
   show (vs.toArray.zip vs.toArray).map (·.2)=vs.toArray
   apply Array.toList_inj.mp
   simp
   exact List.map_snd_zip (Nat.le_refl _)
  dsimp only
  rw [eo]
  refine wpAny_bind (seqEpoch_at ho6 rfl (wpAny_bind (listUpdate_at ho6 rfl ?_ (Nat.zero_le _) (Nat.le_succ_of_le f2))))
  simp only [bne_self_eq_false,Bool.false_eq_true,if_false]
  exact wpAny_pure f3
 ·rw [if_neg h2,if_neg h2]
  rw [List.size_toArray] at h2
  refine wpAny_bind (kd h6 _ k6 (by omega) ?_)
  refine wpAny_bind (wpAny_mono (kat_run (κ:=κ) (ks:=vs) (vs:=vs) (G:=fun p s'=>(∃ tk,s'={ s with heap:=h6,toks:=tk })∧Srt.Pm vs.length p∧Srt.Up lt p vs.length)
   (Q:=fun st' s'=>∃ p:Array Nat,arrOf st'=p.map (kas_item (vs.toArray.zip vs.toArray))∧failedOf st'=none∧(∃ tk,s'={ s with heap:=h6,toks:=tk })∧Srt.Pm vs.length p∧Srt.Up lt p vs.length)
   rfl (by omega) h64 (fun p st' s' _ a2 a3 a4=>⟨p,a2,a3,a4⟩) ?_) ?_ fun _ _ e=>e)
  ·refine Srt.sort (G:=fun s'=>∃ tk,s'={ s with heap:=h6,toks:=tk }) o (fun i j C s' hi hj hij g k=>?_) (by omega) ⟨s.toks,rfl⟩ fun p s' hp hu g=>⟨g,hp,hu⟩
   obtain ⟨tk,rfl⟩:=g
   show wpAny (model prog w) A (keyLt' κ (vs.getD i Value.none) (vs.getD j Value.none)) C (fun _ _=>False) { s with heap:=h6,toks:=tk }
   refine ask h6 tk i j _ _ C k6 ?_ ?_ fun tk2=>k _ ⟨tk2,rfl⟩
   ·rw [List.getD_eq_getElem?_getD,List.getElem?_eq_getElem hi]
    rfl
   ·rw [List.getD_eq_getElem?_getD,List.getElem?_eq_getElem hj]
    rfl
  ·rintro ⟨⟨⟩,st'⟩ s' ⟨p,har,hf',⟨tk,rfl⟩,hp,hu⟩
   obtain ⟨c,f1,f2,f3⟩:=fin tk p _ hp (fun i j hij hj=>o.asy _ _ (hu i j hij hj)) rfl
   dsimp only
   rw [kat_snds rfl har]
   refine wpAny_bind (seqEpoch_at (s:={ s with heap:=h6,toks:=tk }) ho6 rfl (wpAny_bind (listUpdate_at (s:={ s with heap:=h6,toks:=tk }) ho6 rfl ?_ (Nat.zero_le _) (Nat.le_succ_of_le f2))))
   rw [hf']
   simp only [bne_self_eq_false,Bool.false_eq_true,if_false]
   exact wpAny_pure f3
theorem sorted_allS {r:Addr} {Q:Value→Shared→Prop} {Pc:Heap→List Value→Prop} {lt:Nat→Nat→Bool} {κ:SortKind}
  (col:∀ (R:List Value→Shared→Prop),(∀ h1 tk vs,(∀ b o,s.heap.get? b=some o→h1.get? b=some o)→Pc h1 vs→R vs { s with heap:=h1,toks:=tk })→wpAny (model prog w) A.in1 (collect (.ref r)) R E s)
  (ord:∀ h1 vs,(∀ b o,s.heap.get? b=some o→h1.get? b=some o)→Pc h1 vs→vs.length < 64∧Srt.Ord vs.length lt∧SortA prog w h1 vs lt κ)
  (fin:∀ h1 vs h3 tk c p,Pc h1 vs→(∀ b o,s.heap.get? b=some o→h3.get? b=some o)→(∀ b o,h1.get? b=some o→h3.get? b=some o)→(∀ b o,s.heap.get? b=some o→h1.get? b=some o)→Srt.Pm vs.length p→(∀ i j,i < j→j < vs.length→lt (p.getD j 0) (p.getD i 0)=false) →
   h3.get? h1.objs.size=some (seqObj "list" (p.toList.map fun i=>vs.getD i Value.none).toArray c)→s.heap.get? h1.objs.size=none→Q (.ref h1.objs.size) { s with heap:=h3,toks:=tk }) :
  wpAny (model prog w) A (call (.builtin "sorted") [.ref r]) Q E s:=by
 refine Calls.call_function_entry kind_sorted plain_sorted entry_sorted (args_sorted1 _) ?_
 unfold Builtin.«sorted»
 refine wpAny_bind (m:=checkCount "sorted" 1 1 _) (wpAny_pure ?_)
 refine wpAny_bind (col _ fun h1 tk vs hk hP=>?_)
 obtain ⟨h64,O,S⟩:=ord h1 vs hk hP
 have hz:vs.length≤sizeLine:=by rw [sizeLine_eq]; omega
 refine wpAny_bind (wpAny_newList ?_ hz)
 have hB:(h1.push { cls:=.type "list",data:=.seq vs.toArray }).get? h1.objs.size=some (seqObj "list" vs.toArray 0):=Heap.get?_push_size _ rfl
 refine wpAny_bind (wpAny_holding (wpAny_call_entry slot_list_sort ⟨_,hB,rfl⟩ entry_list_sort ?body (args_list_sort _)))
 have k1:∀ {h6:Heap},(∀ b o,b≠h1.objs.size→(h1.push { cls:=.type "list",data:=.seq vs.toArray }).get? b=some o→h6.get? b=some o)→∀ b o,h1.get? b=some o→h6.get? b=some o:=fun k b o e=>k b o (Nat.ne_of_lt (Heap.lt_size e)) (Heap.get?_push_of_some _ e)
 refine list_sortS (s:={ s with heap:=h1.push { cls:=.type "list",data:=.seq vs.toArray },toks:=tk }) hB h64 O (fun h6 Q k h2 q=>S.kd _ _ _ _ (k1 k) h2 q) (fun h6 tk' i j x y C k e1 e2 q=>S.ask _ _ i j x y C (k1 k) e1 e2 fun tk2=>q tk2)
  fun h3 tk3 c p hp hs hkeep hD=>⟨_,rfl,wpAny_pure ⟨_,rfl,?_⟩⟩
 refine fin h1 vs h3 tk3 c p hP (fun b o e=>k1 hkeep b o (hk b o e)) (k1 hkeep) hk hp hs hD ?_
 cases e:s.heap.get? h1.objs.size with
 | none=>rfl
 | some u=>exact absurd (Heap.lt_size (hk _ _ e)) (Nat.lt_irrefl _)
theorem sa_strsS {h1:Heap} {vs:List Value} {xs:List Str} (hS:StrsAre vs xs):SortA prog w h1 vs (ltS xs) oneType' where
 kd:=fun A E s Q _ h2 q=>by
  match vs,hS,h2 with
  | v1 :: v2 :: vs,hS,_ =>
   rw [keyKind_strs hS]
   exact wpAny_pure q
 ask:=fun A s i j x y C _ e1 e2 q=>by
  obtain ⟨t1,rfl,_⟩:=strs_at hS i _ e1
  obtain ⟨t2,rfl,_⟩:=strs_at hS j _ e2
  exact kas_lt_str (q s.toks)
end
end Tim
namespace L2
open PySem PySem.Spec PyProof.Rows PySem.W
theorem Zaf {X:Cx} (hc:X.calm=true):CallR X (.builtin "sorted") (fun xs H Q=>∃ (p:Addr) (ks:List Str),xs=[.ref p]∧H p=some (stO X p ks)∧ks.length < 64 ∧
  ∀ (q:Addr) (ss:List Str),H q=none→ss.Perm ks→(ss.map fun x=>x.cps.toList).Pairwise (· < ·)→Q (.ref q) (upd H q (.lst (ss.map V.str)))):=by
 intro pins s σ H xs us Q I r h
 obtain ⟨p,ks,rfl,hp,h64,q⟩:=h
 have h1k:ks.length≤1000:=by omega
 obtain ⟨u,rfl,ru⟩:=Xu r
 cases ru
 obtain ⟨⟨o,es,ep,t,T⟩,_,_⟩:=(show SetT X.prog X.w s.heap p ks∧_ from I.hok p _ hp)
 refine Calls.call_function_entry kind_sorted plain_sorted entry_sorted (args_sorted1 _) ?_
 unfold Builtin.«sorted»
 refine wpAny_bind (m:=checkCount "sorted" 1 1 _) (wpAny_pure (wpAny_bind (ZdI (A:=X.A.in1) (I.ok.hd hc) T h1k fun h1 tk d acc ord hpm kk hacc=>?_)))
 obtain ⟨ys,hys,hS⟩:=Zgw T hpm hacc
 have hl:=Tim.strs_len hS
 have hyl:=hys.length_eq
 generalize acc.toList=vs at hS hl
 have SA:Tim.SortA X.prog X.w h1 vs (Tim.ltS ys) oneType':=Tim.sa_strsS hS
 have O:Srt.Ord vs.length (Tim.ltS ys):=by rw [hl]; exact Zdw (hys.nodup_iff.mpr T.nd)
 refine wpAny_bind (wpAny_newList ?_ (Zaw (by omega)))
 have hB:(h1.push { cls:=.type "list",data:=.seq vs.toArray }).get? h1.objs.size=some (seqObj "list" vs.toArray 0):=Heap.get?_push_size _ rfl
 have k1:∀ {h6:Heap},(∀ b o,b≠h1.objs.size→(h1.push { cls:=.type "list",data:=.seq vs.toArray }).get? b=some o→h6.get? b=some o)→∀ b o,h1.get? b=some o→h6.get? b=some o:=fun k b o e=>k b o (Nat.ne_of_lt (Heap.lt_size e)) (Heap.get?_push_of_some _ e)
 refine wpAny_bind (wpAny_holding (wpAny_call_entry slot_list_sort ⟨_,hB,rfl⟩ entry_list_sort ?_ (args_list_sort _)))
 refine Tim.list_sortS (s:={ s with heap:=h1.push { cls:=.type "list",data:=.seq vs.toArray },toks:=tk,drawn:=d }) hB (by omega) O (fun h6 Q k h2 q=>SA.kd _ _ _ _ (k1 k) h2 q) (fun h6 tk' i j x y C k e1 e2 q=>SA.ask _ _ i j x y C (k1 k) e1 e2 fun tk2=>q tk2)
  fun h3 tk3 c pm hpm3 hs3 hkeep hD=>⟨_,rfl,wpAny_pure ⟨_,rfl,?_⟩⟩
 have hp':Srt.Pm ys.length pm:=by rw [← hl]; exact hpm3
 have hN:s.heap.get? h1.objs.size=none:=by
  cases e:s.heap.get? h1.objs.size with
  | none=>rfl
  | some u=>exact absurd (Heap.lt_size (kk _ _ e)) (Nat.lt_irrefl _)
 have hmem:∀ i∈pm.toList,i < ys.length:=fun i hi=>by
  have:i∈pm:=by simpa using hi
  have:=hp'.perm.mem_iff.mp this
  simpa using this
 have vv:∀ l:List Nat,(∀ i∈l,i < ys.length)→Vals ((l.map fun i=>ys.getD i "").map V.str) (l.map fun i=>vs.getD i Value.none):=by
  intro l
  induction l with
  | nil=>intro _; exact .nil
  | cons i l ih =>
   intro hh
   have hi:i < vs.length:=by have:=hh i (List.mem_cons_self ..); omega
   obtain ⟨t,e,_⟩:=Tim.strs_at hS i _ (List.getElem?_eq_getElem hi)
   refine .cons ?_ (ih fun j hj=>hh j (List.mem_cons_of_mem _ hj))
   show RelV (V.str (ys.getD i "")) (vs.getD i Value.none)
   rw [List.getD_eq_getElem?_getD (l:=vs),List.getElem?_eq_getElem hi]
   exact ⟨t,e⟩
 obtain ⟨hn,I2⟩:=Zg4 (tk:=tk3) (vs:=(pm.toList.map fun i=>ys.getD i "").map V.str) (I.drw d) (fun b u e=>k1 hkeep b u (kk b u e)) hN (by rw [List.length_map,List.length_map,Array.length_toList,hp'.size]; exact Zaw (by omega)) ⟨_,c,vv pm.toList hmem,hD⟩
 refine ⟨.ref h1.objs.size,_,I2,rfl,q _ _ hn ((ZaC ys pm hp').trans hys) ?_⟩
 have nd:ys.Nodup:=hys.nodup_iff.mpr T.nd
 have hup:=ZnN (n:=ys.length) rfl nd hp' (by rw [← hl]; exact hs3)
 rw [List.map_map,List.pairwise_map,List.pairwise_iff_getElem]
 intro i j hi hj hij
 have hz2:pm.toList.length=ys.length:=by rw [Array.length_toList,hp'.size]
 have hu:=hup i j hij (by omega)
 unfold ltX at hu
 rw [decide_eq_true_eq,ZiR hp' hi,ZiR hp' hj] at hu
 exact hu
theorem Zar {X:Cx} (hc:X.calm=true):CallR X (.builtin "sorted") (fun xs H Q=>∃ (d:Addr) (ks:List Str) (g:Str→V),xs=[.ref d]∧H d=some (.dK (ks.map fun x=>((Sum.inr x:Key),g x)))∧ks.Nodup∧ks.length < 64 ∧
  ∀ (p:Addr) (ss':List Str),H p=none→ss'.Perm ks→(ss'.map fun x=>x.cps.toList).Pairwise (·≤·)→Q (.ref p) (upd H p (.lst (ss'.map V.str)))):=by
 intro pins s σ H xs us Q I r h
 obtain ⟨d,ks,g,rfl,hd,nd,h64,q⟩:=h
 have h1k:ks.length≤1000:=by omega
 obtain ⟨u,rfl,ru⟩:=Xu r
 cases ru
 obtain ⟨hz,lo,vs',kv,dd⟩:=ZfD I.hok hd
 obtain ⟨ep,hat⟩:=dd.dictAt
 have hlen:ks.length=vs'.length:=by have:=kv.length; simpa using this
 have toS:∀ (n:Nat) (vs:List Value) (xs:List Str),vs.length=xs.length→(∀ (i:Nat) (v:Value),vs[i]?=some v→∃ t,v = .str (xs.getD i "") t)→StrsAre vs xs:=by
  intro n vs
  induction vs with
  | nil =>
   intro xs e _
   match xs,e with
   | [],_=>exact .nil
  | cons v vs ih =>
   intro xs e hh
   match xs,e with
   | x :: xs,e =>
    obtain ⟨t,rfl⟩:=hh 0 v rfl
    exact .cons x t (ih xs (by simpa using e) fun i u z=>by
     obtain ⟨t,e⟩:=hh (i + 1) u (by simpa using z)
     exact ⟨t,e⟩)
 refine Tim.sorted_allS (lt:=Tim.ltS ks) (κ:=oneType') (Pc:=fun h1 vs=>StrsAre vs ks) (fun R hR=>?_) (fun h1 vs hk hP=>?_) fun h1 vs h3 tk c p hP hk k1 hk1 hp hs hD hN=>?_
 ·refine kdu_collect (A:=X.A.in1) (kdl_dict lo) (I.ok.hd hc) hat (Zaw (by omega)) fun h' tk acc hk hacc=>hR h' tk acc.toList hk (toS 0 _ _ (by rw [Array.length_toList,hacc.1,hlen]) fun i v e=>?_)
  obtain ⟨k,x,e1,e2⟩:=hacc.2 i v (by rw [← Array.getElem?_toList]; exact e)
  obtain ⟨ek,hi⟩:=Zg0 kv i k x e1
  subst ek
  rcases keyIs_shape (show J8 (Sum.inr (ks.getD i "")) v=true from e2) with ⟨j,t,e4,_⟩ | ⟨z,t,e4,e5⟩
  ·cases e4
  ·injection e4 with e4
   exact ⟨t,by rw [e5,e4]⟩
 ·have:=Tim.strs_len hP
  exact ⟨by omega,by rw [this]; exact Zdw nd,Tim.sa_strsS hP⟩
 ·have hl:=Tim.strs_len hP
  have hp':Srt.Pm ks.length p:=by rw [← hl]; exact hp
  have vv:∀ l:List Nat,(∀ i∈l,i < ks.length)→Vals ((l.map fun i=>ks.getD i "").map V.str) (l.map fun i=>vs.getD i Value.none):=by
   intro l
   induction l with
   | nil=>intro _; exact .nil
   | cons i l ih =>
    intro hh
    have hi:i < vs.length:=by have:=hh i (List.mem_cons_self ..); omega
    obtain ⟨t,e,_⟩:=Tim.strs_at hP i _ (List.getElem?_eq_getElem hi)
    refine .cons ?_ (ih fun j hj=>hh j (List.mem_cons_of_mem _ hj))
    show RelV (V.str (ks.getD i "")) (vs.getD i Value.none)
    rw [List.getD_eq_getElem?_getD (l:=vs),List.getElem?_eq_getElem hi]
    exact ⟨t,e⟩
  have hmem:∀ i∈p.toList,i < ks.length:=fun i hi=>by
   have:i∈p:=by simpa using hi
   have:=hp'.perm.mem_iff.mp this
   simpa using this
  obtain ⟨hn,I2⟩:=Zg4 (tk:=tk) (vs:=(p.toList.map fun i=>ks.getD i "").map V.str) I hk hN (by rw [List.length_map,List.length_map,Array.length_toList,hp'.size]; exact Zaw h1k) ⟨_,c,vv p.toList hmem,hD⟩
  exact ⟨.ref h1.objs.size,_,I2,rfl,q _ _ hn (ZaC ks p hp') (Zmi hp' (by rw [← hl]; exact hs))⟩
end L2
namespace L2
open PySem PySem.Spec PyProof.Rows
section
variable {prog:Program} {w:World} {A:Around} {E:Value→Shared→Prop} {s:Shared} {a:Addr} {o:Obj} {xs:Array Value} {k:Nat}
end
section
variable {prog:Program} {w:World} {Ky:Type} [DecidableEq Ky] {knd:KeyKind prog w Ky} {A:Around} {R:Except Value Flow→Shared→Prop}
end
end L2
namespace Sh
abbrev Mat:=List (List Int)
def Sm (n:Nat) (x:Int):Prop:=x.natAbs < 2 ^ n
def Yg (M:Mat):Option Nat:=M.findIdx? fun r=>decide (r.headD 0≠0)
def Zcs (r h:List Int) (d:Int):List Int:=(List.range (r.length - 1)).map fun j=>(h.headD 0 * r.getD (j + 1) 0 - r.headD 0 * h.getD (j + 1) 0).fdiv d
def Js (M:Mat) (p:Nat) (d:Int):Mat:=(M.take p ++ M.drop (p + 1)).map fun r=>Zcs r (M.getD p []) d
def Sq (n:Nat) (M:Mat):Prop:=M.length=n∧∀ r∈M,r.length=n
def SmM (k:Nat) (M:Mat):Prop:=∀ r∈M,∀ x∈r,Sm k x
def FineM:Nat→Mat→Int→Int→Int→Prop
 | 0,M,_,_,W=>M=[]∧W=1
 | 1,M,s,_,W=>∃ x,M=[[x]]∧W=s * x∧(s=1∨s = -1)
 | n + 2,M,s,d,W=>Sq (n + 2) M∧SmM 3900 M∧Sm 3900 d∧d≠0∧(s=1∨s = -1)∧match Yg M with
  | none=>W=0
  | some p=>FineM (n + 1) (Js M p d) (if p % 2=0 then s else -s) ((M.getD p []).headD 0) W
theorem Sm.mul {a b:Nat} {x y:Int} (h:Sm a x) (k:Sm b y):Sm (a + b) (x * y):=by
 unfold Sm at *
 rw [Int.natAbs_mul,Nat.pow_add]
 exact Nat.mul_lt_mul'' h k
theorem Sm.up {a b:Nat} {x:Int} (h:Sm a x) (hab:a≤b):Sm b x:=Nat.lt_of_lt_of_le h (Nat.pow_le_pow_right (by decide) hab)
theorem Sm.one (a:Nat) (h:1≤a):Sm a 1:=by
 have:Sm 1 1:=by unfold Sm; decide
 exact this.up h
end Sh
namespace Sh
open PySem L2 PyProof.Rows
seal L2.PE L2.PS L2.PSs L2.PT L2.PW L2.PA L2.PI L2.PG L2.PGs L2.PO L2.PC L2.PCs L2.OpR L2.UnR L2.CallR L2.MtR L2.IxR L2.SlR
def top (i:Nat):Stmt:=PySem.Challenge.pw_shredjoin_k54_only_counted.main.body.getD i (.Pass ⟨0,0,0,0⟩)
structure Blt (mg:Str→Option Value):Prop where
 isi:mg "isinstance" = none
 int:mg "int" = none
 bool:mg "bool" = none
 len:mg "len" = none
 range:mg "range" = none
 list:mg "list" = none
 tuple:mg "tuple" = none
 enum:mg "enumerate" = none
 sum:mg "sum" = none
 sorted:mg "sorted" = none
 set:mg "set" = none
 max:mg "max" = none
 min:mg "min" = none
 rev:mg "reversed" = none
 zip:mg "zip" = none
 str:mg "str" = none
 dict:mg "dict" = none
section
variable {P:Program} {w:World} {K:PySem.W.Frag} {mg:Str→Option Value} {base:Heap}
structure RowsL (H:Hp) (as:List Addr) (M:Mat):Prop where
 len:as.length=M.length
 row:∀ i a,as[i]?=some a→H a=some (.lst ((M.getD i []).map V.int))
theorem RowsL.same {H H':Hp} {as:List Addr} {M:Mat} (s:Same H H') (h:RowsL H as M):RowsL H' as M:=⟨h.len,fun i a e=>s _ _ (h.row i a e)⟩
theorem Y3 (m:List Int) (h:m≠[]):atI (m.map V.int) 0=some (V.int (m.headD 0)):=by
 cases m with
 | nil=>exact absurd rfl h
 | cons a r=>exact Yn (by decide) rfl
theorem ZhJ {M:Mat} {i:Nat} (hi:i < M.length) (h:(M.getD i []).headD 0≠0) (hb:∀ j,j < i→(M.getD j []).headD 0=0):Yg M=some i:=by
 unfold Yg
 rw [List.findIdx?_eq_some_iff_getElem]
 refine ⟨hi,?_,fun j hj=>?_⟩
 ·have e:M.getD i []=M[i]:=by rw [List.getD_eq_getElem?_getD,List.getElem?_eq_getElem hi]; rfl
  rw [e] at h
  exact decide_eq_true h
 ·have hj':j < M.length:=by omega
  have e:M.getD j []=M[j]:=by rw [List.getD_eq_getElem?_getD,List.getElem?_eq_getElem hj']; rfl
  have:=hb j hj
  rw [e] at this
  rw [this]
  decide
theorem ZhK {M:Mat} (hb:∀ j,j < M.length→(M.getD j []).headD 0=0):Yg M=none:=by
 unfold Yg
 rw [List.findIdx?_eq_none_iff]
 intro r hr
 obtain ⟨j,hj,e⟩:=List.mem_iff_getElem.mp hr
 have:=hb j hj
 rw [List.getD_eq_getElem?_getD,List.getElem?_eq_getElem hj] at this
 have:r.headD 0=0:=by rw [← e]; exact this
 rw [this]
 decide
def Zjn (M:Mat):V:=match Yg M with
 | none=>.non
 | some p=>.int p
abbrev YH:Stmt:=top 21
abbrev Zcm:List Str:=["rows","place","row"]
theorem scPlaceOfHead:Zk Zcm ["rows"] (Zf YH):=⟨rfl,rfl,rfl,by decide +kernel,rfl,by decide +kernel,by decide +kernel⟩
def ZjY:Sp:=fun vs H Q _=>∃ (r:Addr) (as:List Addr) (M:Mat),vs=[.ref r]∧H r=some (.lst (as.map V.ref))∧RowsL H as M∧(∀ m∈M,m≠[])∧∀ H',Same H H'→Q (Zjn M) H'
theorem Jq (D:HasDef K mg "place_of_head" YH ["rows"]) (B:Blt mg):FOk P w K mg base 1 "place_of_head" ["rows"] ZjY:=by
 refine D.ok scPlaceOfHead (fun vs H Q E h=>?_) (fun f cdv A outer s H vs Q E hr h=>?_)
 ·obtain ⟨r,as,M,rfl,_⟩:=h
  rfl
 ·obtain ⟨r,as,M,rfl,hr1,hR,hM,k⟩:=h
  refine ⟨_,(Zd (Yf PassesOwn.never rfl (ZgX rfl B.enum (Za (pv 0) Ze)) (ZS 2 K rfl (Zo (Zy (i:=1) scPlaceOfHead.nd rfl (.inl rfl)) (Zo (Zy (i:=2) scPlaceOfHead.nd rfl (.inl rfl)) ZR)))
    (Zh (Ym (Zv Zfh (ZV ZN (pv 2) Zg (fun _ _=>rfl)) Zg (Zw _)) (Zh (Zm (pv 1))) ZC)))
   (Zh (Zm ZaE))),?_⟩
  refine ⟨_,rfl,r,rfl,⟨_,SqL.of hr1⟩,?_⟩
  refine ZeQ (K:=K) (a:=r) (xs:=as.map V.ref) (fun i σ H2=>Same H H2∧(∃ z1 z2:Option V,σ=[some (.ref r),z1,z2])∧∀ j,j < i→(M.getD j []).headD 0=0) ⟨Same.refl _,⟨none,none,rfl⟩,fun j hj=>absurd hj (Nat.not_lt_zero _)⟩ (fun i σ H2 _ ⟨s2,_,_⟩=>SqL.of (s2 _ _ hr1)) ?_ ?_
  ·rintro i x σ H2 t hx ht ⟨s2,⟨z1,z2,rfl⟩,hp⟩
   obtain ⟨hi,rfl⟩:=JJ hx
   have s3:Same H2 (upd H2 t (.tup [.int i,.ref as[i]])):=Zb ht
   have hi':i < M.length:=by rw [← hR.len]; exact hi
   have hrow:=hR.row i as[i] (List.getElem?_eq_getElem hi)
   have hne:M.getD i []≠[]:=by
    rw [List.getD_eq_getElem?_getD,List.getElem?_eq_getElem hi']
    exact hM _ (List.getElem_mem hi')
   refine ⟨t,[.int i,.ref as[i]],rfl,SqT.of Zc,rfl,?_⟩
   refine ⟨_,_,rfl,_,_,rfl,rfl,_,rfl,as[i],_,0,_,rfl,rfl,SqL.of (s3 _ _ (s2 _ _ hrow)),Y3 _ hne,rfl,_,rfl,Zfv (fun e=>?_) (fun e=>?_)⟩
   ·refine ⟨_,rfl,?_⟩
    have h0:(M.getD i []).headD 0≠0:=by
     intro z
     rw [z] at e
     simp at e
    have:=k _ (s2.trans s3)
    unfold Zjn at this
    rw [ZhJ hi' h0 hp] at this
    exact this
   ·refine ⟨s2.trans s3,⟨_,_,rfl⟩,fun j hj=>?_⟩
    by_cases c:j < i
    ·exact hp j c
    ·have:j=i:=by omega
     subst this
     apply Classical.byContradiction
     intro z
     apply e
     have ne:V.int ((M.getD j []).headD 0)≠V.int 0:=fun q=>z (by injection q)
     show (!decide (V.int ((M.getD j []).headD 0)=V.int 0))=true
     rw [decide_eq_false ne]
     rfl
  ·rintro σ H2 ⟨s2,⟨z1,z2,rfl⟩,hp⟩
   have:=k _ s2
   unfold Zjn at this
   rw [ZhK (fun j hj=>hp j (by rw [List.length_map,hR.len]; exact hj))] at this
   exact this
abbrev XB:Stmt:=top 22
abbrev Zcn:List Str:=["row","head","divisor"]
theorem Zfa:Zk Zcn ["row","head","divisor"] (Zf XB):=⟨rfl,rfl,rfl,by decide +kernel,rfl,by decide +kernel,by decide +kernel⟩
def ZjX (K:PySem.W.Frag):Sp:=fun vs H Q _=>∃ (a b:Addr) (m h:List Int) (d:Int),vs=[.ref a,.ref b,.int d]∧H a=some (.lst (m.map V.int))∧H b=some (.lst (h.map V.int))∧m.length=h.length∧1≤m.length∧m.length≤31 ∧
 (∀ x∈m,Sm 3900 x)∧(∀ x∈h,Sm 3900 x)∧Sm 3900 d∧d≠0∧∀ p H',Same H H'→H p=none→H' p=some (.lst ((Zcs m h d).map V.int))→Q (.ref p) H'
theorem Zgq {m:List Int} {k:Nat} (h:∀ x∈m,Sm k x) {j:Nat} (hj:j < m.length):Sm k (m.getD j 0):=by
 rw [List.getD_eq_getElem?_getD,List.getElem?_eq_getElem hj]
 exact h _ (List.getElem_mem hj)
theorem Zeb {m:List Int} {k:Nat} (h:∀ x∈m,Sm k x) (hj:1≤m.length):Sm k (m.headD 0):=by
 cases m with
 | nil=>simp at hj
 | cons a r=>exact h _ (by simp)
theorem ZkA {m:List Int} {j:Nat} {i:Int} (e:i=j) (hj:j < m.length):atI (m.map V.int) i=some (V.int (m.getD j 0)):=by
 subst e
 refine Yn (by omega) ?_
 rw [Int.toNat_natCast,List.getElem?_map,List.getElem?_eq_getElem hj,List.getD_eq_getElem?_getD,List.getElem?_eq_getElem hj]
 rfl
theorem Sm.big {k:Nat} {x:Int} (h:Sm k x) (hk:k≤4000):x.natAbs < 2 ^ 4000:=h.up hk
theorem Zdm (D:HasDef K mg "lessened" XB ["row","head","divisor"]) (B:Blt mg):FOk P w K mg base 1 "lessened" ["row","head","divisor"] (ZjX K):=by
 refine D.ok Zfa (fun vs H Q E h=>?_) (fun f cdv A outer s H vs Q E hr h=>?_)
 ·obtain ⟨a,b,m,h,d,rfl,_⟩:=h
  rfl
 ·obtain ⟨a,b,m,h,d,rfl,ha,hb,hl,h1,h4,hm,hh,hd,hd0,k⟩:=h
  refine ⟨_,(Zh (Zm (ZI (Zf XB) Zcn ["place"] [0,1,2] rfl (JX rfl B.range (Za Zg (Za (Zp ZB rfl B.len Yw (Za (pv 0) Ze)) Ze))) (fun _ _ _ _ _=>Z6 0) (fun _ _ _ _ _=>ZX) (fun _ _ _ _ _=>(Zq Zes (Zq Y7 (Zq J0 (ZV (JE K) (pv 2) Zg (fun _ _=>rfl)) (ZV (JE K) (pv 1) (pv 0) (fun _ _=>rfl))) (Zq J0 (ZV (JE K) (pv 1) Zg (fun _ _=>rfl)) (ZV (JE K) (pv 2) (pv 0) (fun _ _=>rfl)))) (pv 3)))))),?_⟩
  have hne:m≠[]:=fun z=>by rw [z] at h1; simp at h1
  have hne2:h≠[]:=fun z=>by rw [hl,z] at h1; simp at h1
  refine ⟨_,rfl,.ref a,_,rfl,.inl ⟨_,SqL.of ha,rfl⟩,1,_,rfl,?_,?_⟩
  ·rw [List.length_map]
   refine ⟨by decide,by decide,by omega,by omega⟩
  have en:(((m.map V.int).length:Nat) - (1:Int)).toNat=m.length - 1:=by rw [List.length_map]; omega
  rw [en]
  refine Xa (m.length - 1) (fun i=>.int (1 + (i:Int))) (fun i v _=>v = .int ((h.headD 0 * m.getD (i + 1) 0 - m.headD 0 * h.getD (i + 1) 0).fdiv d)) (Zt (by omega)) (fun _ _ _ _ _ r=>r) Zbw ?_ ?_
  ·intro i H1 Qe hi hs kq
   have e1:(1 + (i:Int))=((i + 1:Nat):Int):=by omega
   have a1:i + 1 < m.length:=by omega
   have a2:i + 1 < h.length:=by omega
   refine ⟨_,rfl,b,_,0,_,rfl,rfl,SqL.of (hs _ _ hb),Y3 _ hne2,_,rfl,_,rfl,a,_,_,_,rfl,rfl,SqL.of (hs _ _ ha),ZkA e1 a1,_,_,rfl,rfl,⟨(Zeb hh (by omega)).big (by decide),(Zgq hm a1).big (by decide)⟩,?_⟩
   refine ⟨_,rfl,a,_,0,_,rfl,rfl,SqL.of (hs _ _ ha),Y3 _ hne,_,rfl,_,rfl,b,_,_,_,rfl,rfl,SqL.of (hs _ _ hb),ZkA e1 a2,_,_,rfl,rfl,⟨(Zeb hm h1).big (by decide),(Zgq hh a2).big (by decide)⟩,?_⟩
   exact ⟨_,_,rfl,rfl,_,rfl,_,_,rfl,rfl,⟨hd0,hd.big (by decide)⟩,kq _ _ (Same.refl _) rfl⟩
  ·intro D1 vs1 H1 hlv hrv hs1 hD1 hDl
   refine k D1 H1 hs1 hD1 ?_
   rw [hDl,ZdP hlv hrv]
   unfold Zcs
   rw [List.map_map]
   rfl
theorem ZbJ {X:Cx} (K:PySem.W.Frag) (h:X.K=K:=by rfl):CallR X (.type "list") (fun xs H Q=>∃ p ys,xs=[.ref p]∧(SqL K H p ys∨SqT K H p ys)∧∀ l,H l=none→Q (.ref l) (upd H l (.lst ys))):=by subst h; exact ZcP
theorem Zjq {α:Type} (l:List α) (p i:Nat) (d:α):(l.take p ++ l.drop (p + 1)).getD i d=if i < p then l.getD i d else l.getD (i + 1) d:=by
 rw [List.getD_eq_getElem?_getD,List.getElem?_append]
 by_cases hi:i < p
 ·rw [if_pos hi]
  by_cases hl:i < l.length
  ·rw [if_pos (by rw [List.length_take]; omega),List.getElem?_take_of_lt hi,List.getD_eq_getElem?_getD]
  ·rw [if_neg (by rw [List.length_take]; omega),List.getElem?_drop,List.getElem?_eq_none (by rw [List.length_take]; omega),List.getD_eq_getElem?_getD,List.getElem?_eq_none (by omega)]
 ·rw [if_neg hi,List.getD_eq_getElem?_getD]
  by_cases hl:p≤l.length
  ·rw [if_neg (by rw [List.length_take]; omega),List.getElem?_drop,List.length_take,Nat.min_eq_left hl]
   congr 2
   omega
  ·rw [List.getElem?_eq_none (by omega:l.length≤i + 1)]
   by_cases c:i < (l.take p).length
   ·rw [List.length_take] at c
    omega
   ·rw [if_neg c,List.getElem?_drop,List.getElem?_eq_none (by omega)]
theorem ZlI {l:List Addr} {p i:Nat} {a:Addr} (h:(l.take p ++ l.drop (p + 1))[i]?=some a) (hp:p < l.length):l[if i < p then i else i + 1]?=some a:=by
 rw [List.getElem?_append] at h
 by_cases hi:i < p
 ·rw [if_pos hi]
  rw [if_pos (by rw [List.length_take]; omega),List.getElem?_take_of_lt hi] at h
  exact h
 ·rw [if_neg hi]
  rw [if_neg (by rw [List.length_take]; omega),List.getElem?_drop,List.length_take,Nat.min_eq_left (by omega)] at h
  have e:p + 1 + (i - p)=i + 1:=by omega
  rw [e] at h
  exact h
theorem RowsL.cut {H:Hp} {as:List Addr} {M:Mat} {p:Nat} (h:RowsL H as M) (hp:p < as.length):RowsL H (as.take p ++ as.drop (p + 1)) (M.take p ++ M.drop (p + 1)):=by
 refine ⟨?_,fun i a e=>?_⟩
 ·have:=h.len
  simp only [List.length_append,List.length_take,List.length_drop]
  omega
 ·rw [Zjq]
  have:=h.row _ _ (ZlI e hp)
  split at this
  ·rw [if_pos (by assumption)]; exact this
  ·rw [if_neg (by assumption)]; exact this
theorem FineM.len:∀ {n:Nat} {M:Mat} {s d W:Int},FineM n M s d W→M.length=n
 | 0,_,_,_,_,h=>by rw [h.1]; rfl
 | 1,_,_,_,_,⟨x,e,_⟩=>by rw [e]; rfl
 | _ + 2,_,_,_,_,h=>h.1.1
theorem ZlF {M:Mat} {p:Nat} (h:Yg M=some p):p < M.length:=by
 unfold Yg at h
 rw [List.findIdx?_eq_some_iff_getElem] at h
 exact h.1
theorem FineM.go {n p:Nat} {M:Mat} {s d W:Int} (h:FineM (n + 2) M s d W) (e:Yg M=some p):FineM (n + 1) (Js M p d) (if p % 2=0 then s else -s) ((M.getD p []).headD 0) W:=by
 have:=h.2.2.2.2.2
 rw [e] at this
 exact this
theorem FineM.stop {n:Nat} {M:Mat} {s d W:Int} (h:FineM (n + 2) M s d W) (e:Yg M=none):W=0:=by
 have:=h.2.2.2.2.2
 rw [e] at this
 exact this
abbrev XA:Stmt:=top 23
abbrev Zbm:List Str:=["table","rows","sign","divisor","place","head"]
theorem scWorthOf:Zk Zbm ["table"] (Zf XA):=⟨rfl,rfl,rfl,by decide +kernel,rfl,by decide +kernel,by decide +kernel⟩
structure RowsT (H:Hp) (as:List Addr) (M:Mat):Prop where
 len:as.length=M.length
 row:∀ i a,as[i]?=some a→H a=some (.tup ((M.getD i []).map V.int))
theorem RowsT.same {H H':Hp} {as:List Addr} {M:Mat} (s:Same H H') (h:RowsT H as M):RowsT H' as M:=⟨h.len,fun i a e=>s _ _ (h.row i a e)⟩
def Zb0:Sp:=fun vs H Q _=>∃ (t:Addr) (ts:List Addr) (M:Mat) (n:Nat) (W:Int),vs=[.ref t]∧H t=some (.tup (ts.map V.ref))∧RowsT H ts M∧FineM n M 1 1 W∧n≤31∧∀ H',Same H H'→Q (.int W) H'
def Zeg (σ:List (Option L2.V)) (H:Hp):Nat:=match σ.getD 1 none with
 | some (L2.V.ref r)=>match H r with
  | some (HO.lst xs)=>xs.length
  | _=>0
 | _=>0
theorem Zb5 {t0:Option L2.V} {r:Addr} {xs:List L2.V} {l:List (Option L2.V)} {H:Hp} (h:H r=some (.lst xs)):Zeg (t0 :: some (L2.V.ref r) :: l) H=xs.length:=by
 unfold Zeg
 simp [h]
theorem Zdi (D:HasDef K mg "worth_of" XA ["table"]) (B:Blt mg) (g28_:FOk P w K mg base 1 "place_of_head" ["rows"] ZjY) (g23_:FOk P w K mg base 1 "lessened" ["row","head","divisor"] (ZjX K)):FOk P w K mg base 2 "worth_of" ["table"] Zb0:=by
 refine D.ok scWorthOf (fun vs H Q E h=>?_) (fun f cdv A outer s H vs Q E hr h=>?_)
 ·obtain ⟨t,ts,M,n,W,rfl,_⟩:=h
  rfl
 ·obtain ⟨t,ts,M,n,W,rfl,ht,hT,hF,hn,k⟩:=h
  refine ⟨_,(Zd (JB (i:=1) (Zf XA) Zbm ["row"] [] scWorthOf.nd rfl (.inl rfl) rfl (Yj (pv 0)) (fun _ _ _ _ _=>Z6 0) (fun _ _ _ _ _=>ZX) (fun _ _ _ _ _=>(ZW (ZbJ K) rfl B.list Zky (Za (pv 0) Ze))))
   (Zd (Zl (i:=2) scWorthOf.nd rfl (.inl rfl) Zg)
   (Zd (Zl (i:=3) scWorthOf.nd rfl (.inr rfl) Zg)
   (Zd (Za7 PassesOwn.never (Zv Zfi (Zp ZB rfl B.len Yw (Za (pv 1) Ze)) Zg (Zw _))
    (Zd (Zl (i:=4) scWorthOf.nd rfl (.inl rfl) (Zr g28_ hr (Za (pv 1) Ze)))
   (Zd (Ym (Zv Zkd (pv 4) ZaE (Zw _)) (Zh (Zm Zg)) ZC)
   (Zd (Zl (i:=2) scWorthOf.nd rfl (.inl rfl) (Zep (Zv XH (Zq Yl (pv 4) Zg) Zg (Zw _)) (pv 2) (Zb9 Je (pv 2))))
   (Zd (Zl (i:=5) scWorthOf.nd rfl (.inr rfl) (ZV ZN (pv 1) (pv 4) (fun _ _=>rfl)))
   (Zd (JB (i:=1) (Zf XA) Zbm ["row"] [3,5] scWorthOf.nd rfl (.inl rfl) rfl (YK (Zq Zke (Zz Zc6 (pv 1) ZQ (ZD (pv 4))) (Zz Zc6 (pv 1) (ZD (Zq ZO (pv 4) Zg)) ZQ))) (fun _ _ _ _ _=>Z6 0) (fun _ _ _ _ _=>ZX) (fun _ _ _ _ _=>(Zr g23_ hr (Za (pv 0) (Za (pv 2) (Za (pv 1) Ze))))))
   (Zh (Zl (i:=3) scWorthOf.nd rfl (.inr rfl) (ZV ZN (pv 5) Zg (fun _ _=>rfl))))))))))
   (Zd (Ym (Zv XH (Zp ZB rfl B.len Yw (Za (pv 1) Ze)) Zg (Zw _)) (Zh (Zm Zg)) ZC)
   (Zh (Zm (Zq Zg3 (pv 2) (ZV ZN (ZV ZN (pv 1) Zg (fun _ _=>rfl)) Zg (fun _ _=>rfl)))))))))),?_⟩
  have hlM:=hF.len
  have hlt:=hT.len
  refine ⟨_,rfl,t,rfl,⟨_,SqT.of ht⟩,ZeE ts.length (fun i=>(ts.map V.ref).getD i .non) (fun i=>(M.getD i []).map V.int) (Zt (by omega)) (by have:=ZaK (K:=K) (SqT.of ht); rw [List.length_map] at this; exact this) ?_ ?_⟩
  ·intro i H1 Qe hi hs kq
   rw [Yv hi]
   refine ⟨_,rfl,ts[i],_,rfl,.inr (SqT.of (hs _ _ (hT.row i _ (List.getElem?_eq_getElem hi)))),fun l hl=>kq l _ (Zb hl) hl Zc⟩
  intro D1 as H1 hla hra hs1 hD1 hDl1
  refine Zit (fun σ H2=>∃ (n:Nat) (M:Mat) (s d:Int) (r:Addr) (as:List Addr) (z4 z5:Option V),σ=[some (.ref t),some (.ref r),some (.int s),some (.int d),z4,z5]∧Same H H2∧H2 r=some (.lst (as.map V.ref))∧RowsL H2 as M∧FineM n M s d W∧n≤31) Zeg
   ⟨n,M,1,1,D1,as,none,none,rfl,hs1,hDl1,⟨by omega,fun i a e=>(hra i a e).2.2⟩,hF,hn⟩ ?_ ?_
  ·rintro σ H2 ⟨n,M,sg,d,r,as,z4,z5,rfl,s2,hr2,hR,hF,hn⟩
   have hlM:=hF.len
   have hla:=hR.len
   refine ⟨_,rfl,.ref r,_,rfl,.inl ⟨_,SqL.of hr2,rfl⟩,_,_,rfl,rfl,_,rfl,?_⟩
   rw [List.length_map]
   refine Zfv (fun e=>?_) (fun e=>?_)
   ·have e':1 < as.length:=by
     have:=of_decide_eq_true e
     omega
    obtain ⟨m,rfl⟩:∃ m,n=m + 2:=⟨n - 2,by omega⟩
    obtain ⟨sq,sm,smd,d0,sgs,_⟩:=id hF
    refine ⟨_,rfl,r,as,M,rfl,hr2,hR,fun q mq z=>?_,fun H3 s3=>?_⟩
    ·have:=sq.2 q mq
     rw [z] at this
     simp at this
    have hr3:=s3 _ _ hr2
    have hR3:=hR.same s3
    have s13:=s2.trans s3
    unfold Zjn
    cases hh:Yg M with
    | none =>
     refine ⟨_,rfl,rfl,_,rfl,Zon ?_⟩
     have:=k _ s13
     rw [hF.stop hh] at this
     exact this
    | some p =>
     have hp:=ZlF hh
     have hp':p < as.length:=by omega
     have hF2:=hF.go hh
     refine ⟨_,rfl,rfl,_,rfl,ZmZ ?_⟩
     have hrow:=hR3.row p as[p] (List.getElem?_eq_getElem hp')
     have mrow:M.getD p []∈M:=by
      rw [List.getD_eq_getElem?_getD,List.getElem?_eq_getElem hp]
      exact List.getElem_mem hp
     have sgn2:∀ (Qq:VK),Qq (.int (if p % 2=0 then sg else -sg)) H3→(tIf (Zl9 (tOp rEq (tOp (rI (fun _ j=>0 < j) fun i j=>.int (i % j)) (Zl0 4) (tC (.int 2))) (tC (.int 0)))) (Zl0 2) (tUn (rU fun i=>.int (-i)) (Zl0 2))) [some (.ref t),some (.ref r),some (.int sg),some (.int d),some (.int p),z5] H3 Qq:=fun Qq q=>by
      refine ⟨_,rfl,_,_,rfl,rfl,(by show (0:Int) < 2; decide),rfl,_,rfl,Zfv (fun e=>?_) (fun e=>?_)⟩
      ·have:p % 2=0:=by
        have:=of_decide_eq_true e
        injection this with this
        omega
       rw [if_pos this] at q
       exact ⟨_,rfl,q⟩
      ·have:¬ p % 2=0:=fun z=>e (decide_eq_true (by show V.int ((p:Int) % 2)=V.int 0; rw [show ((p:Int) % 2)=0 by omega]))
       rw [if_neg this] at q
       exact ⟨_,rfl,_,rfl,q⟩
     refine sgn2 _ ?_
     refine ⟨_,rfl,_,rfl,r,_,_,_,rfl,rfl,SqL.of hr3,ZbL (by rw [List.getElem?_map,List.getElem?_eq_getElem hp']; rfl),?_⟩
     refine ⟨_,rfl,_,rfl,_,rfl,r,_,rfl,SqL.of hr3,fun p1 hp1=>?_⟩
     rw [cut_to (by rw [List.length_map]; omega)]
     have s4:=Zb (o:=.lst ((as.map V.ref).take p)) hp1
     refine ⟨_,rfl,_,rfl,_,_,rfl,rfl,_,rfl,r,_,rfl,SqL.of (s4 _ _ hr3),fun p2 hp2=>?_⟩
     have e5:((p:Int) + 1)=((p + 1:Nat):Int):=by omega
     rw [e5,cut_from (by rw [List.length_map]; omega)]
     have s5:=Zb (o:=.lst ((as.map V.ref).drop (p + 1))) hp2
     have ecut:(as.map V.ref).take p ++ (as.map V.ref).drop (p + 1)=(as.take p ++ as.drop (p + 1)).map V.ref:=by
      rw [List.map_append,List.map_take,List.map_drop]
     refine ⟨p1,p2,_,_,rfl,rfl,s5 _ _ Zc,Zc,?_,fun p3 hp3=>?_⟩
     ·simp only [List.length_take,List.length_drop,List.length_map]
      exact Zt (by omega)
     rw [ecut]
     have s6:=Zb (o:=.lst ((as.take p ++ as.drop (p + 1)).map V.ref)) hp3
     have s36:=(s4.trans s5).trans s6
     have hRc:=(hR3.same s36).cut hp'
     have hlc:(as.take p ++ as.drop (p + 1)).length=as.length - 1:=by
      simp only [List.length_append,List.length_take,List.length_drop]
      omega
     refine ⟨p3,rfl,⟨_,SqL.of Zc⟩,ZeE (as.take p ++ as.drop (p + 1)).length (fun i=>((as.take p ++ as.drop (p + 1)).map V.ref).getD i .non) (fun i=>(Zcs ((M.take p ++ M.drop (p + 1)).getD i []) (M.getD p []) d).map V.int) (Zt (by omega)) (by have:=Ja (K:=K) (SqL.of (Zc (H:=upd (upd H3 p1 (.lst ((as.map V.ref).take p))) p2 (.lst ((as.map V.ref).drop (p + 1)))) (a:=p3) (o:=.lst ((as.take p ++ as.drop (p + 1)).map V.ref)))); rw [List.length_map] at this; exact this) ?_ ?_⟩
     ·intro i H4 Qe hi hs kq
      rw [Yv hi]
      have hi':i < (M.take p ++ M.drop (p + 1)).length:=by rw [← hRc.len]; exact hi
      have mi:(M.take p ++ M.drop (p + 1)).getD i []∈M:=by
       rw [List.getD_eq_getElem?_getD,List.getElem?_eq_getElem hi']
       rcases List.mem_append.mp (List.getElem_mem hi') with q | q
       ·exact List.mem_of_mem_take q
       ·exact List.mem_of_mem_drop q
      have l1:=sq.2 _ mi
      have l2:=sq.2 _ mrow
      refine ⟨_,rfl,_,rfl,_,rfl,_,as[p],_,_,d,rfl,hs _ _ (hRc.row i _ (List.getElem?_eq_getElem hi)),hs _ _ (s36 _ _ hrow),?_,?_,?_,sm _ mi,sm _ mrow,smd,d0,fun q H5 s5 hq hl=>kq q H5 s5 hq hl⟩
      ·rw [l1,l2]
      ·rw [l1]; omega
      ·rw [l1]; omega
     intro D2 as2 H4 hla2 hra2 hs4 hD2 hDl2
     refine ⟨_,rfl,as[p],_,0,_,rfl,rfl,SqL.of (hs4 _ _ (s36 _ _ hrow)),Y3 _ (fun z=>?_),?_⟩
     ·have:=sq.2 _ mrow
      rw [z] at this
      simp at this
     refine ⟨⟨m + 1,Js M p d,_,_,D2,as2,_,_,rfl,(s13.trans s36).trans hs4,hDl2,⟨?_,fun i a e=>?_⟩,hF2,by omega⟩,?_⟩
     ·rw [hF2.len,hla2,hlc]
      omega
     ·have hi2:i < as2.length:=(List.getElem?_eq_some_iff.mp e).1
      rw [(hra2 i a e).2.2]
      have hi':i < (M.take p ++ M.drop (p + 1)).length:=by rw [← hRc.len]; omega
      have:(Js M p d).getD i []=Zcs ((M.take p ++ M.drop (p + 1)).getD i []) (M.getD p []) d:=by
       unfold Js
       rw [List.getD_eq_getElem?_getD,List.getElem?_map,List.getElem?_eq_getElem hi',List.getD_eq_getElem?_getD (l:=M.take p ++ M.drop (p + 1)),List.getElem?_eq_getElem hi']
       rfl
      rw [this]
     ·rw [Zb5 hr2]
      show Zeg (some (.ref t) :: some (.ref D2) :: _) H4 < _
      rw [Zb5 hDl2,List.length_map,List.length_map]
      omega
   ·have e':¬ 1 < as.length:=fun z=>e (decide_eq_true (by omega))
    refine ⟨_,rfl,.ref r,_,rfl,.inl ⟨_,SqL.of hr2,rfl⟩,rfl,_,rfl,?_⟩
    rw [List.length_map]
    have n2:n=0∨n=1:=by omega
    rcases n2 with rfl | rfl
    ·have:as.length=0:=by omega
     rw [this]
     refine Zon ?_
     have:=k _ s2
     rw [hF.2] at this
     exact this
    ·have l1:as.length=1:=by omega
     refine Zao (ZhE (by omega)) ?_
     obtain ⟨x,e1,e2,hs1⟩:=hF
     subst e1
     have h0:=hR.row 0 as[0] (List.getElem?_eq_getElem (by omega))
     refine ⟨_,rfl,_,rfl,r,_,0,.ref as[0],rfl,rfl,SqL.of hr2,Yn (by decide) (by rw [List.getElem?_map]; exact congrArg (Option.map V.ref) (List.getElem?_eq_getElem (by omega))),as[0],_,0,.int x,rfl,rfl,SqL.of h0,Yn (by decide) rfl,_,_,rfl,rfl,.inl (by omega),?_⟩
     show Q (.int (sg * x)) H2
     rw [← e2]
     exact k _ s2
  ·rintro σ H2 Q1 Q2 himp ⟨v,e,x,n,e2,hl,i,j,e3,e4,b,e5,q⟩
   exact ⟨v,e,x,n,e2,hl,i,j,e3,e4,b,e5,himp _ _ q⟩
end
end Sh
namespace Sh
theorem Zf8 {k:Nat} {g:Nat→Int}:∀ {n:Nat},(∀ i,i < n→Sm k (g i))→(YD n g).natAbs≤n * 2 ^ k
 | 0,_=>by simp [YD]
 | n + 1,h=>by
  have h1:=Zf8 (n:=n) fun i hi=>h i (by omega)
  have h2:=h n (by omega)
  unfold Sm at h2
  rw [YD,Nat.add_mul,Nat.one_mul]
  omega
theorem Zku {b:Nat}:∀ {n:Nat} {f:ZU},n≤31→(∀ i j,Sm b (f i j))→Sm (n * (b + 5) + 1) (det n f)
 | 0,f,_,h=>by
  show (1:Int).natAbs < 2 ^ (0 * (b + 5) + 1)
  rw [Nat.zero_mul]
  decide
 | n + 1,f,hn,h=>by
  rw [det]
  have h1:∀ i,i < n + 1→Sm (b + (n * (b + 5) + 1)) (Jz i * f i 0 * det n fun r c=>f (rmv i r) (c + 1)):=fun i _=>by
   have hs:Sm b (Jz i * f i 0):=by
    have:=h i 0
    unfold Sm Jz at *
    split
    ·rw [Int.one_mul]; exact this
    ·rw [Int.neg_mul,Int.one_mul,Int.natAbs_neg]; exact this
   exact hs.mul (Zku (n:=n) (by omega) fun r c=>h _ _)
  have h2:=Zf8 h1
  unfold Sm
  have e:(n + 1) * (b + 5) + 1=(b + (n * (b + 5) + 1)) + 5:=by
   rw [Nat.add_mul,Nat.one_mul]
   omega
  rw [e,Nat.pow_add]
  have hp:0 < 2 ^ (b + (n * (b + 5) + 1)):=Nat.pow_pos (by decide)
  have h3:(n + 1) * 2 ^ (b + (n * (b + 5) + 1)) < 2 ^ (b + (n * (b + 5) + 1)) * 2 ^ 5:=by
   rw [Nat.mul_comm]
   exact Nat.mul_lt_mul_of_pos_left (by omega) hp
  omega
structure Rel (n:Nat) (R:Mat) (F:ZU):Prop where
 sq:Sq n R
 at_:∀ i j,i < n→j < n→(R.getD i []).getD j 0=F i j
theorem Jc {m:List Int}:m.headD 0=m.getD 0 0:=by cases m <;> rfl
theorem ZhM (l:Mat) (p i:Nat):(l.take p ++ l.drop (p + 1)).getD i []=l.getD (rmv p i) []:=by
 unfold rmv
 rw [List.getD_eq_getElem?_getD,List.getElem?_append]
 by_cases hi:i < p
 ·rw [if_pos hi]
  by_cases hl:i < l.length
  ·rw [if_pos (by rw [List.length_take]; omega),List.getElem?_take_of_lt hi,List.getD_eq_getElem?_getD]
  ·rw [if_neg (by rw [List.length_take]; omega),List.getElem?_drop,List.getElem?_eq_none (by rw [List.length_take]; omega),List.getD_eq_getElem?_getD,List.getElem?_eq_none (by omega)]
 ·rw [if_neg hi,List.getD_eq_getElem?_getD]
  by_cases hl:p≤l.length
  ·rw [if_neg (by rw [List.length_take]; omega),List.getElem?_drop,List.length_take,Nat.min_eq_left hl]
   congr 2
   omega
  ·rw [List.getElem?_eq_none (by omega:l.length≤i + 1)]
   by_cases c:i < (l.take p).length
   ·rw [List.length_take] at c
    omega
   ·rw [if_neg c,List.getElem?_drop,List.getElem?_eq_none (by omega)]
theorem ZgI {n:Nat} {R:Mat} (h:Sq n R) {i:Nat} (hi:i < n):R.getD i []∈R:=by
 rw [List.getD_eq_getElem?_getD,List.getElem?_eq_getElem (by rw [h.1]; exact hi)]
 exact List.getElem_mem _
theorem Rel.next {M:ZU} {n t p:Nat} {R:Mat} {F:ZU} {d:Int} (h:Rel (n + 2) R F) (g:ZjG M t d F) (hd:d≠0) (hp:p < n + 2):Rel (n + 1) (Js R p d) (J2 F d p):=by
 have hl:(R.take p ++ R.drop (p + 1)).length=n + 1:=by
  rw [List.length_append,List.length_take,List.length_drop,h.sq.1]
  omega
 have hrow:∀ i,i < n + 1→(Js R p d).getD i []=Zcs (R.getD (rmv p i) []) (R.getD p []) d:=fun i hi=>by
  unfold Js
  rw [List.getD_eq_getElem?_getD,List.getElem?_map,List.getElem?_eq_getElem (by rw [hl]; exact hi)]
  have:(R.take p ++ R.drop (p + 1))[i]'(by rw [hl]; exact hi)=R.getD (rmv p i) []:=by
   rw [← ZhM,List.getD_eq_getElem?_getD,List.getElem?_eq_getElem (by rw [hl]; exact hi)]
   rfl
  rw [Option.map_some,this]
  rfl
 have hr:∀ i,i < n + 1→rmv p i < n + 2:=fun i hi=>by unfold rmv; split <;> omega
 have hlen:∀ i,i < n + 2→(R.getD i []).length=n + 2:=fun i hi=>h.sq.2 _ (ZgI h.sq hi)
 refine ⟨⟨by unfold Js; rw [List.length_map,hl],fun r hr'=>?_⟩,fun i j hi hj=>?_⟩
 ·unfold Js at hr'
  obtain ⟨q,hq,rfl⟩:=List.mem_map.mp hr'
  unfold Zcs
  rw [List.length_map,List.length_range]
  have:q∈R:=by
   rcases List.mem_append.mp hq with z | z
   ·exact List.mem_of_mem_take z
   ·exact List.mem_of_mem_drop z
  rw [h.sq.2 q this]
  rfl
 ·rw [hrow i hi]
  unfold Zcs
  rw [List.getD_eq_getElem?_getD,List.getElem?_map,List.getElem?_range (by rw [hlen _ (hr i hi)]; omega)]
  show ((R.getD p []).headD 0 * (R.getD (rmv p i) []).getD (j + 1) 0 - (R.getD (rmv p i) []).headD 0 * (R.getD p []).getD (j + 1) 0).fdiv d=J2 F d p i j
  rw [Jc,Jc,h.at_ p 0 hp (by omega),h.at_ _ (j + 1) (hr i hi) (by omega),h.at_ _ 0 (hr i hi) (by omega),h.at_ p (j + 1) hp (by omega),← Zey g,Int.mul_fdiv_cancel_left _ hd]
theorem ZeR {M:ZU} (hB:∀ (k:Nat) (ρ γ:Nat→Nat),k≤31→Sm 3900 (det k fun i j=>M (ρ i) (γ j))):∀ (m t:Nat) {R:Mat} {F:ZU} {d s X:Int},m + 1 + t≤31→Rel (m + 1) R F→ZjG M t d F→d≠0→Sm 3900 d→(s=1∨s = -1)→det (m + 1) F=d ^ m * X→FineM (m + 1) R s d (s * X)
 | 0,t,R,F,d,s,X,hm,hR,hG,hd,hds,hs,e=>by
  have l1:=hR.sq.1
  match R,l1,hR with
  | [r],_,hR =>
   have l2:=hR.sq.2 r (by simp)
   match r,l2,hR with
   | [x],_,hR =>
    have ex:x=F 0 0:=hR.at_ 0 0 (by omega) (by omega)
    have eX:X=F 0 0:=by
     have:det 1 F=F 0 0:=by simp [det,YD,Jz]
     rw [this] at e
     simpa using e.symm
    exact ⟨x,rfl,by rw [eX,ex],hs⟩
 | m + 1,t,R,F,d,s,X,hm,hR,hG,hd,hds,hs,e=>by
  have ent:∀ i j,Sm 3900 (F i j):=fun i j=>by
   obtain ⟨ρ',γ',e1⟩:=hG 0 (fun _=>i) (fun _=>j)
   have e2:det 1 (fun _ _=>F i j)=F i j:=by simp [det,YD,Jz]
   have e3:F i j=det (0 + 1 + t) fun a b=>M (ρ' a) (γ' b):=by
    rw [← e2]
    simpa using e1
   rw [e3]
   exact hB _ _ _ (by omega)
  have inR:∀ r∈R,∀ x∈r,Sm 3900 x:=fun r hr x hx=>by
   obtain ⟨i,hi,rfl⟩:=List.getElem_of_mem hr
   obtain ⟨j,hj,rfl⟩:=List.getElem_of_mem hx
   have hi':i < m + 2:=by rw [← hR.sq.1]; exact hi
   have hj':j < m + 2:=by rw [← hR.sq.2 _ hr]; exact hj
   have:=hR.at_ i j hi' hj'
   rw [List.getD_eq_getElem?_getD (l:=R),List.getElem?_eq_getElem hi] at this
   have e4:R[i].getD j 0=R[i][j]:=by rw [List.getD_eq_getElem?_getD,List.getElem?_eq_getElem hj]; rfl
   have e5:R[i][j]=F i j:=by rw [← e4]; exact this
   rw [e5]
   exact ent i j
  have hd0:∀ i,i < m + 2→(R.getD i []).headD 0=F i 0:=fun i hi=>by rw [Jc]; exact hR.at_ i 0 hi (by omega)
  refine ⟨hR.sq,inR,hds,hd,hs,?_⟩
  cases hh:Yg R with
  | none =>
   have z:∀ i,i < m + 2→F i 0=0:=fun i hi=>by
    rw [← hd0 i hi]
    unfold Yg at hh
    rw [List.findIdx?_eq_none_iff] at hh
    have:=hh _ (ZgI hR.sq hi)
    exact Classical.byContradiction fun q=>by rw [decide_eq_true q] at this; cases this
   have e0:det (m + 2) F=0:=ZeV z
   rw [e0] at e
   have:X=0:=by
    rcases Int.mul_eq_zero.mp e.symm with q | q
    ·exact (Int.pow_ne_zero hd q).elim
    ·exact q
   show s * X=0
   rw [this,Int.mul_zero]
  | some p =>
   have hp:p < m + 2:=by
    unfold Yg at hh
    rw [List.findIdx?_eq_some_iff_getElem] at hh
    rw [← hR.sq.1]
    exact hh.1
   have hne:F p 0≠0:=by
    rw [← hd0 p hp]
    unfold Yg at hh
    rw [List.findIdx?_eq_some_iff_getElem] at hh
    obtain ⟨h1,h2,_⟩:=hh
    have e1:R.getD p []=R[p]:=by rw [List.getD_eq_getElem?_getD,List.getElem?_eq_getElem h1]; rfl
    rw [e1]
    exact of_decide_eq_true h2
   have ih:=ZeR hB m (t + 1) (R:=Js R p d) (F:=J2 F d p) (d:=F p 0) (s:=if p % 2=0 then s else -s) (X:=Jz p * X) (by omega) (hR.next hG hd hp) (ZhL hG hd hne) hne (ent p 0) (by split <;> omega) (Zhb hG hd hne hp e)
   have ew:(if p % 2=0 then s else -s) * (Jz p * X)=s * X:=by
    unfold Jz
    split
    ·rw [Int.one_mul]
    ·rw [Int.neg_mul,Int.neg_mul,Int.one_mul,Int.mul_neg,Int.neg_neg]
   rw [ew] at ih
   show FineM (m + 1) (Js R p d) (if p % 2=0 then s else -s) ((R.getD p []).headD 0) (s * X)
   rw [hd0 p hp]
   exact ih
def Zkh (R:Mat):ZU:=fun i j=>(R.getD i []).getD j 0
theorem ZlK {n:Nat} {R:Mat} (hn:n≤31) (hq:Sq n R) (hb:SmM 120 R):FineM n R 1 1 (det n (Zkh R)):=by
 have ent:∀ i j,Sm 120 (Zkh R i j):=fun i j=>by
  unfold Zkh
  by_cases hi:i < R.length
  ·rw [List.getD_eq_getElem?_getD (l:=R),List.getElem?_eq_getElem hi]
   show Sm 120 (R[i].getD j 0)
   by_cases hj:j < R[i].length
   ·rw [List.getD_eq_getElem?_getD,List.getElem?_eq_getElem hj]
    exact hb _ (List.getElem_mem hi) _ (List.getElem_mem hj)
   ·rw [List.getD_eq_getElem?_getD,List.getElem?_eq_none (by omega)]
    show (0:Int).natAbs < 2 ^ 120
    decide
  ·rw [List.getD_eq_getElem?_getD (l:=R),List.getElem?_eq_none (by omega)]
   show (0:Int).natAbs < 2 ^ 120
   decide
 cases n with
 | zero =>
  refine ⟨List.length_eq_zero_iff.mp hq.1,rfl⟩
 | succ m =>
  have h:=ZeR (M:=Zkh R) (fun k ρ γ hk=>(Zku (b:=120) (by omega) fun i j=>ent _ _).up (by omega)) m 0 (R:=R) (F:=Zkh R) (d:=1) (s:=1) (X:=det (m + 1) (Zkh R)) (by omega) ⟨hq,fun i j _ _=>rfl⟩ (Zfy _) (by decide) (Sm.one _ (by decide)) (.inl rfl) (by rw [Int.one_pow,Int.one_mul])
  rw [Int.one_mul] at h
  exact h
def Xj:Nat→(Nat→Int)→Int
 | 0,_=>1
 | n + 1,g=>Xj n g * g n
theorem JV {g h:Nat→Int}:∀ {n:Nat},(∀ i,i < n→g i=h i)→Xj n g=Xj n h
 | 0,_=>rfl
 | n + 1,e=>by
  rw [Xj,Xj,JV (n:=n) fun i hi=>e i (by omega),e n (by omega)]
theorem ZaA (g:Nat→Int):∀ n:Nat,Xj (n + 1) g=g 0 * Xj n fun i=>g (i + 1)
 | 0=>by simp [Xj]
 | n + 1=>by
  rw [Xj,ZaA g n,Xj,Int.mul_assoc]
theorem Zb7:∀ n:Nat,Xj n (fun _=>1)=1
 | 0=>rfl
 | n + 1=>by rw [Xj,Zb7 n]; rfl
theorem ZcJ:∀ {n:Nat} {B:ZU},(∀ k j,j < k→B k j=0)→det n B=Xj n fun i=>B i i
 | 0,_,_=>rfl
 | n + 1,B,h=>by
  rw [ZbE fun i h1 _=>h i 0 h1,ZcJ (n:=n) (B:=fun r c=>B (r + 1) (c + 1)) fun k j hj=>h _ _ (by omega),ZaA]
end Sh
namespace Sh
open PySem L2 PyProof.Rows
seal L2.PE L2.PS L2.PSs L2.PT L2.PW L2.PA L2.PI L2.PG L2.PGs L2.PO L2.PC L2.PCs L2.OpR L2.UnR L2.CallR L2.MtR L2.IxR L2.SlR
section
variable {P:Program} {w:World} {K:PySem.W.Frag} {mg:Str→Option Value} {base:Heap}
theorem Zaq {X:Cx} (K:PySem.W.Frag) (h:X.K=K:=by rfl):CallR X (.type "tuple") (fun xs H Q=>∃ p ys,xs=[.ref p]∧((SqL K H p ys∧∀ l,H l=none→Q (.ref l) (upd H l (.tup ys)))∨(SqT K H p ys∧Q (.ref p) H))):=by subst h; exact ZF
theorem ZgM {H':Hp}:∀ (vs:List V) (f:Nat→List V),(∀ (i:Nat) v,vs[i]?=some v→∃ a,v=V.ref a∧H' a=some (.tup (f i)))→∃ ts:List Addr,vs=ts.map V.ref∧∀ (i:Nat) a,ts[i]?=some a→H' a=some (.tup (f i))
 | [],_,_=>⟨[],rfl,fun i a e=>by simp at e⟩
 | v :: vs,f,h=>by
  obtain ⟨ts,e,ht⟩:=ZgM vs (fun i=>f (i + 1)) fun i u hu=>h (i + 1) u (by simpa using hu)
  obtain ⟨a,ea,ha⟩:=h 0 v rfl
  refine ⟨a :: ts,by rw [e,ea]; rfl,fun i b eb=>?_⟩
  cases i with
  | zero=>simp at eb; subst eb; exact ha
  | succ i=>exact ht i b (by simpa using eb)
end
abbrev Pr:=Str × Int
def PairAt (H:Hp) (v:V) (p:Pr):Prop:=∃ b,v = .ref b∧H b=some (.tup [.str p.1,.int p.2])
def HpAt (H:Hp) (v:V) (hp:List Pr):Prop:=∃ a xs,v = .ref a∧H a=some (.tup xs)∧xs.length=hp.length∧∀ i p,hp[i]?=some p→PairAt H (xs.getD i .non) p
theorem PairAt.same {H H':Hp} (s:TSame H H') {v:V} {p:Pr} (h:PairAt H v p):PairAt H' v p:=by
 obtain ⟨b,e,q⟩:=h
 exact ⟨b,e,s _ _ q⟩
theorem HpAt.same {H H':Hp} (s:TSame H H') {v:V} {hp:List Pr} (h:HpAt H v hp):HpAt H' v hp:=by
 obtain ⟨a,xs,e,q,l,r⟩:=h
 exact ⟨a,xs,e,s _ _ q,l,fun i p z=>(r i p z).same s⟩
section
variable {P:Program} {w:World} {K:PySem.W.Frag} {mg:Str→Option Value} {base:Heap}
end
end Sh
namespace L2
open PySem PySem.Spec PyProof.Rows
end L2
namespace Sh
open PySem L2 PyProof.Rows
seal L2.PE L2.PS L2.PSs L2.PT L2.PW L2.PA L2.PI L2.PG L2.PGs L2.PO L2.PC L2.PCs L2.OpR L2.UnR L2.CallR L2.MtR L2.IxR L2.SlR
theorem XJ {α:Type} [DecidableEq α]:∀ {l B:List α},l.Nodup→(∀ x∈l,x∈B)→l.length≤B.length
 | [],B,_,_=>Nat.zero_le _
 | x :: l,B,nd,h=>by
  have h1:=List.nodup_cons.mp nd
  have h2:=XJ (l:=l) (B:=B.erase x) h1.2 fun y hy=>by
   have ne:y≠x:=fun q=>h1.1 (q ▸ hy)
   exact (List.mem_erase_of_ne ne).mpr (h y (List.mem_cons_of_mem _ hy))
  have h3:=List.length_erase_of_mem (h x List.mem_cons_self)
  have h4:0 < B.length:=List.length_pos_of_mem (h x List.mem_cons_self)
  rw [List.length_cons]
  omega
structure ZJ (ps:List Str) (hp:List Pr):Prop where
 srt:(hp.map fun p=>p.1.cps.toList).Pairwise (· < ·)
 mem:∀ x,x∈hp.map (·.1)↔x∈ps
 cnt:∀ p∈hp,p.2=ps.count p.1
section
variable {P:Program} {w:World} {K:PySem.W.Frag} {mg:Str→Option Value} {base:Heap}
end
section
variable {P:Program} {w:World} {K:PySem.W.Frag} {mg:Str→Option Value} {base:Heap} {S C A1 A2 A3 A4 A5 A6 A7 A8:Addr}
end
theorem Zed {x:Str} (h:1≤x.length):Txt.slice x none (some (-1))=bg x:=by
 apply ZP
 rw [eq_of_beq (slice_closes_to_neg (x:=x) (j:=-1) (k:=-1 + x.length) (by decide) (by omega) rfl)]
 unfold bg
 rw [ZH,List.dropLast_eq_take,ZY]
 simp
 congr 1
 omega
theorem Zec {x:Str} (h:1≤x.length):Txt.slice x (some 1) none=en x:=by
 apply ZP
 rw [Jo (by decide) (by omega)]
 unfold en
 rw [ZH]
 rfl
def PA (H:Hp) (vs:List V) (es:Es):Prop:=vs.length=es.length∧∀ (i:Nat) (e:Str × Int),es[i]?=some e→∃ b,vs[i]?=some (.ref b)∧H b=some (.tup [.str e.1,.int e.2])
theorem PA.same {H H':Hp} {vs:List V} {es:Es} (h:PA H vs es) (s:TSame H H'):PA H' vs es:=⟨h.1,fun i e q=>by
 obtain ⟨b,e1,e2⟩:=h.2 i e q
 exact ⟨b,e1,s _ _ e2⟩⟩
def HeapV (H:Hp) (v:V) (es:Es):Prop:=∃ q vs,v = .ref q∧H q=some (.tup vs)∧PA H vs es
theorem HeapV.same {H H':Hp} {v:V} {es:Es} (h:HeapV H v es) (s:Same H H'):HeapV H' v es:=by
 obtain ⟨q,vs,e,e1,e2⟩:=h
 exact ⟨q,vs,e,s _ _ e1,e2.same s.tup⟩
structure Jt (es:Es):Prop where
 few:es.length≤31
 many:∀ e∈es,0≤e.2∧e.2≤1000
 long:∀ e∈es,1≤e.1.length∧e.1.length≤1000
structure Pts (es:Es) (ks:List Str):Prop where
 nd:ks.Nodup
 mem:∀ P,P∈ks↔∃ e∈es,bg e.1=P∨en e.1=P
 len:ks.length≤2 * es.length
theorem Pts.nil:Pts [] []:=⟨List.nodup_nil,fun P=>by simp,Nat.le_refl _⟩
def Xc (ks:List Str) (x:Str):List Str:=if x∈ks then ks else ks ++ [x]
theorem Zio {ks:List Str} {x:Str} (h:ks.Nodup):(Xc ks x).Nodup:=by
 unfold Xc
 split
 ·exact h
 ·rename_i c
  exact List.nodup_append.mpr ⟨h,by simp,fun a ha b hb e=>by rw [List.mem_singleton.mp hb] at e; subst e; exact c ha⟩
theorem ZbN {ks:List Str} {x y:Str}:y∈Xc ks x↔y∈ks∨y=x:=by
 unfold Xc
 split
 ·rename_i c
  exact ⟨.inl,fun h=>h.elim id fun e=>e ▸ c⟩
 ·simp
theorem XT (ks:List Str) (x:Str):(Xc ks x).length≤ks.length + 1:=by
 unfold Xc
 split <;> simp
theorem Pts.step {es:Es} {ks:List Str} (h:Pts es ks) (e:Str × Int):Pts (es ++ [e]) (Xc (Xc ks (bg e.1)) (en e.1)) where
 nd:=Zio (Zio h.nd)
 mem:=fun P=>by
  rw [ZbN,ZbN,h.mem]
  constructor
  ·rintro ((⟨x,hx,q⟩ | q) | q)
   ·exact ⟨x,List.mem_append_left _ hx,q⟩
   ·exact ⟨e,by simp,.inl q.symm⟩
   ·exact ⟨e,by simp,.inr q.symm⟩
  ·rintro ⟨x,hx,q⟩
   rcases List.mem_append.mp hx with z | z
   ·exact .inl (.inl ⟨x,z,q⟩)
   ·rw [List.mem_singleton.mp z] at q
    rcases q with q | q
    ·exact .inl (.inr q.symm)
    ·exact .inr q.symm
 len:=by
  have h1:=XT (Xc ks (bg e.1)) (en e.1)
  have h2:=XT ks (bg e.1)
  have:=h.len
  rw [List.length_append,List.length_singleton]
  omega
theorem Pts.zero {es:Es} {ks:List Str} (h:Pts es ks) {P:Str} (hP:P∉ks):mo es P=0:=Zdt fun e he=>⟨fun q=>hP ((h.mem P).mpr ⟨e,he,.inl q⟩),fun q=>hP ((h.mem P).mpr ⟨e,he,.inr q⟩)⟩
theorem Zkq {ks:List Str} {g:Str→Int} {y:Str} (h0:y∉ks→g y=0):(valV (gD ks g) (Sum.inr y:Key)).getD (.int 0) = .int (g y):=by
 rw [ZhN]
 split
 ·rfl
 ·rename_i c
  rw [h0 c]
  rfl
theorem ZlL {ss:List Str} {p:Str→Bool}:ss.filter p=((List.range ss.length).filter fun i=>p (ss.getD i "")).map fun i=>ss.getD i "":=by
 have e:ss=(List.range ss.length).map fun i=>ss.getD i "":=by
  apply List.ext_getElem?
  intro i
  rw [List.getElem?_map]
  by_cases hi:i < ss.length
  ·rw [List.getElem?_range hi,Option.map_some,List.getD_eq_getElem?_getD,List.getElem?_eq_getElem hi]
   rfl
  ·rw [List.getElem?_eq_none (by omega),List.getElem?_eq_none (by simp; omega)]
   rfl
 conv=>lhs; rw [e]
 rw [List.filter_map]
 rfl
def Zk6 (x:Str) (n:Int) (v:V) (H:Hp):Prop:=∃ b,v = .ref b∧H b=some (.tup [.str x,.int n])
theorem ZmA {H:Hp} {vs:List V} {ss:List Str} {p:Str→Bool} {f:Str→Int} (hl:vs.length=((List.range ss.length).filter fun i=>p (ss.getD i "")).length)
  (hR:∀ (j i:Nat) (v:V),((List.range ss.length).filter fun i=>p (ss.getD i ""))[j]?=some i→vs[j]?=some v→Zk6 (ss.getD i "") (f (ss.getD i "")) v H):PA H vs ((ss.filter p).map fun x=>(x,f x)):=by
 rw [ZlL]
 refine ⟨by rw [List.length_map,List.length_map,hl],fun j e he=>?_⟩
 rw [List.getElem?_map,List.getElem?_map] at he
 cases hj:((List.range ss.length).filter fun i=>p (ss.getD i ""))[j]? with
 | none=>rw [hj] at he; cases he
 | some i =>
  rw [hj] at he
  cases he
  have hjv:j < vs.length:=by rw [hl]; exact (List.getElem?_eq_some_iff.mp hj).1
  obtain ⟨b,e1,e2⟩:=hR j i vs[j] hj (List.getElem?_eq_getElem hjv)
  exact ⟨b,by rw [List.getElem?_eq_getElem hjv,e1],e2⟩
structure SPts (es:Es) (ss:List Str):Prop where
 srt:(ss.map fun x=>x.cps.toList).Pairwise (· < ·)
 pts:Pts es ss
theorem SPts.of {es:Es} {ks ss:List Str} (h:Pts es ks) (p:ss.Perm ks) (s:(ss.map fun x=>x.cps.toList).Pairwise (· < ·)):SPts es ss :=
 ⟨s,p.nodup_iff.mpr h.nd,fun P=>by rw [p.mem_iff,h.mem],by rw [p.length_eq]; exact h.len⟩
section
variable {P:Program} {w:World} {K:PySem.W.Frag} {mg:Str→Option Value} {base:Heap}
theorem JD {x:Str} (h:x.length≤1000):x.length≤sizeLine:=Zt (by omega)
abbrev Za6:Stmt:=top 13
abbrev Zi7:List Str:=["piece"]
theorem ZgD:Zk Zi7 ["piece"] (Zf Za6):=⟨rfl,rfl,rfl,by decide +kernel,rfl,by decide +kernel,by decide +kernel⟩
def Zc5:Sp:=fun vs H Q _=>∃ x:Str,vs=[.str x]∧1≤x.length∧x.length≤1000∧Q (.str (bg x)) H
theorem Zdo (D:HasDef K mg "begin_of" Za6 ["piece"]):FOk P w K mg base 1 "begin_of" ["piece"] Zc5:=by
 refine D.ok ZgD (fun vs H Q E h=>?_) (fun f cdv A outer s H vs Q E hr h=>?_)
 ·obtain ⟨x,rfl,_⟩:=h
  rfl
 ·obtain ⟨x,rfl,h1,h2,k⟩:=h
  refine ⟨_,(Zh (Zm (Zz Yb (pv 0) ZQ (ZD (Zb9 Je Zg))))),?_⟩
  refine ⟨_,rfl,_,rfl,_,rfl,_,rfl,JD h2,?_⟩
  rw [← Zed h1] at k
  exact k
abbrev ZgH:Stmt:=top 14
abbrev ZmP:List Str:=["piece"]
theorem Zk3:Zk ZmP ["piece"] (Zf ZgH):=⟨rfl,rfl,rfl,by decide +kernel,rfl,by decide +kernel,by decide +kernel⟩
def Zgp:Sp:=fun vs H Q _=>∃ x:Str,vs=[.str x]∧1≤x.length∧x.length≤1000∧Q (.str (en x)) H
theorem Zg9 (D:HasDef K mg "end_of" ZgH ["piece"]):FOk P w K mg base 1 "end_of" ["piece"] Zgp:=by
 refine D.ok Zk3 (fun vs H Q E h=>?_) (fun f cdv A outer s H vs Q E hr h=>?_)
 ·obtain ⟨x,rfl,_⟩:=h
  rfl
 ·obtain ⟨x,rfl,h1,h2,k⟩:=h
  refine ⟨_,(Zh (Zm (Zz Yb (pv 0) (ZD Zg) ZQ))),?_⟩
  refine ⟨_,rfl,_,rfl,_,rfl,JD h2,?_⟩
  rw [← Zec h1] at k
  exact k
end
theorem Zgf {l m:List Str} (hl:(l.map fun x=>x.cps.toList).Pairwise (· < ·)) (hm:(m.map fun x=>x.cps.toList).Pairwise (· < ·)) (h:∀ x,x∈l↔x∈m):l=m:=by
 have e:=XZ hl hm fun c=>by
  rw [List.mem_map,List.mem_map]
  exact ⟨fun ⟨x,hx,q⟩=>⟨x,(h x).mp hx,q⟩,fun ⟨x,hx,q⟩=>⟨x,(h x).mpr hx,q⟩⟩
 have key:∀ (l m:List Str),(l.map fun x=>x.cps.toList)=(m.map fun x=>x.cps.toList)→l=m:=by
  intro l
  induction l with
  | nil =>
   intro m e
   cases m with
   | nil=>rfl
   | cons _ _=>cases e
  | cons x l ih =>
   intro m e
   cases m with
   | nil=>cases e
   | cons y m =>
    rw [List.map_cons,List.map_cons] at e
    injection e with e1 e2
    rw [ZP e1,ih m e2]
 exact key l m e
theorem SPts.one {es:Es} {l m:List Str} (h:SPts es l) (k:SPts es m):l=m:=Zgf h.srt k.srt fun x=>by rw [h.pts.mem,k.pts.mem]
section
variable {P:Program} {w:World} {K:PySem.W.Frag} {mg:Str→Option Value} {base:Heap}
abbrev Za3:Stmt:=top 17
abbrev Zi5:List Str:=["H","more","piece","many"]
theorem scMoreOut:Zk Zi5 ["H"] (Zf Za3):=⟨rfl,rfl,rfl,by decide +kernel,rfl,by decide +kernel,by decide +kernel⟩
def JL:Sp:=fun vs H Q _=>∃ (v:V) (es:Es),vs=[v]∧HeapV H v es∧Jt es∧∀ d H' ks,Same H H'→H' d=some (.dK (gD ks (mo es)))→Pts es ks→Q (.ref d) H'
theorem Zdl (D:HasDef K mg "more_out" Za3 ["H"]) (g6_:FOk P w K mg base 1 "begin_of" ["piece"] Zc5) (g12_:FOk P w K mg base 1 "end_of" ["piece"] Zgp):FOk P w K mg base 2 "more_out" ["H"] JL:=by
 refine D.ok scMoreOut (fun vs H Q E h=>?_) (fun f cdv A outer s H vs Q E hr h=>?_)
 ·obtain ⟨v,es,rfl,_⟩:=h
  rfl
 ·obtain ⟨v,es,rfl,⟨q,vs,rfl,hq,hpa⟩,hF,k⟩:=h
  have hu:=Zcy hr
  refine ⟨_,(Zd (Zl (i:=1) scMoreOut.nd rfl (.inl rfl) Yk)
   (Zd (Yf PassesOwn.never rfl (Yj (pv 0)) (ZS 2 K rfl (Zo (Zy (i:=2) scMoreOut.nd rfl (.inl rfl)) (Zo (Zy (i:=3) scMoreOut.nd rfl (.inl rfl)) ZR)))
    (Zd (YJ hu (pv 1) (Zr g6_ hr (Za (pv 2) Ze)) (Zq ZO (Zbf hu (pv 1) (Zr g6_ hr (Za (pv 2) Ze)) Zg ⟨rfl,rfl,rfl,rfl⟩) (pv 3)) rfl)
   (Zh (YJ hu (pv 1) (Zr g12_ hr (Za (pv 2) Ze)) (Zq Y7 (Zbf hu (pv 1) (Zr g12_ hr (Za (pv 2) Ze)) Zg ⟨rfl,rfl,rfl,rfl⟩) (pv 3)) rfl))))
   (Zh (Zm (pv 1))))),?_⟩
  intro d hd
  have s1:=Zb (o:=.dK []) hd
  refine ⟨_,rfl,q,rfl,⟨_,SqT.of (s1 _ _ hq)⟩,?_⟩
  refine Xq (K:=K) (a:=q) (xs:=vs) (fun i σ H2=>(∃ z2 z3:Option V,σ=[some (.ref q),some (.ref d),z2,z3])∧Same H H2∧∃ ks,Pts (es.take i) ks∧H2 d=some (.dK (gD ks (mo (es.take i)))))
   ⟨⟨none,none,rfl⟩,s1,[],Pts.nil,Zc⟩ (fun i σ H2 _ ⟨_,s2,_⟩=>SqT.of (s2 _ _ hq)) ?_ ?_
  ·rintro i x σ H2 hi ⟨⟨z2,z3,rfl⟩,s2,ks,hk,hdd⟩
   have hiv:i < vs.length:=(List.getElem?_eq_some_iff.mp hi).1
   have hie:i < es.length:=by rw [← hpa.1]; exact hiv
   obtain ⟨b,e1,e2⟩:=hpa.2 i es[i] (List.getElem?_eq_getElem hie)
   rw [hi] at e1
   cases e1
   obtain ⟨l1,l2⟩:=hF.long es[i] (List.getElem_mem hie)
   have hkl:=hk.len
   have hfew:=hF.few
   rw [List.length_take] at hkl
   refine ⟨b,_,rfl,SqT.of (s2 _ _ e2),rfl,_,_,rfl,_,_,rfl,rfl,?_⟩
   have het:es.take (i + 1)=es.take i ++ [es[i]]:=List.take_succ_eq_append_getElem hie
   generalize es[i]=e at *
   have h0:=fun (hP:bg e.1∉ks)=>hk.zero hP
   have hg:=Zkq (ks:=ks) (g:=mo (es.take i)) h0
   refine ⟨_,rfl,d,rfl,.inl ⟨_,.inl hdd⟩,_,rfl,e.1,rfl,l1,l2,_,DGet.k (k:=Sum.inr (bg e.1)) hdd,_,rfl,_,_,hg,rfl,_,rfl,_,rfl,e.1,rfl,l1,l2,d,_,rfl,DPut.k (k:=Sum.inr (bg e.1)) hdd (by rw [ZcB]; exact ZK (by omega)),?_⟩
   rw [ZhO]
   have hdd2:(upd H2 d (.dK (gD (Xc ks (bg e.1)) fun x=>if x=bg e.1 then mo (es.take i) (bg e.1) + e.2 else mo (es.take i) x))) d=some (.dK (gD (Xc ks (bg e.1)) fun x=>if x=bg e.1 then mo (es.take i) (bg e.1) + e.2 else mo (es.take i) x)):=Zc
   have hg2:=Zkq (ks:=Xc ks (bg e.1)) (g:=fun x=>if x=bg e.1 then mo (es.take i) (bg e.1) + e.2 else mo (es.take i) x) (y:=en e.1) fun hP=>by
    rw [ZbN,not_or] at hP
    rw [if_neg hP.2,hk.zero hP.1]
   have hal:=XT ks (bg e.1)
   refine ⟨_,rfl,d,rfl,.inl ⟨_,.inl hdd2⟩,_,rfl,e.1,rfl,l1,l2,_,DGet.k (k:=Sum.inr (en e.1)) hdd2,_,rfl,_,_,hg2,rfl,_,rfl,_,rfl,e.1,rfl,l1,l2,d,_,rfl,DPut.k (k:=Sum.inr (en e.1)) hdd2 (by rw [ZcB]; exact ZK (by omega)),?_⟩
   refine ⟨⟨_,_,rfl⟩,fun c u hc=>?_,Xc (Xc ks (bg e.1)) (en e.1),by rw [het]; exact hk.step e,?_⟩
   ·rw [JI,Zi (Zj hc hd)]
    exact s2 c u hc
   ·rw [Zc,ZhO,het]
    refine congrArg (fun l=>some (HO.dK l)) (ZeN fun x _=>?_)
    rw [Zlt]
    unfold mo1 ind
    by_cases c1:x=en e.1
    ·subst c1
     rw [if_pos rfl,if_pos rfl]
     by_cases c2:en e.1=bg e.1
     ·rw [if_pos c2,if_pos c2.symm,c2]
      omega
     ·rw [if_neg c2,if_neg (Ne.symm c2)]
      omega
    ·rw [if_neg c1,if_neg (Ne.symm c1)]
     by_cases c2:x=bg e.1
     ·subst c2
      rw [if_pos rfl,if_pos rfl]
      omega
     ·rw [if_neg c2,if_neg (Ne.symm c2)]
      omega
  ·rintro σ H2 ⟨⟨z2,z3,rfl⟩,s2,ks,hk,hdd⟩
   rw [hpa.1,List.take_length] at hk hdd
   exact ⟨_,rfl,k d H2 ks s2 hdd hk⟩
abbrev XD:Stmt:=top 18
abbrev Zcp:List Str:=["H"]
theorem Zfd:Zk Zcp ["H"] (Zf XD):=⟨rfl,rfl,rfl,by decide +kernel,rfl,by decide +kernel,by decide +kernel⟩
def ZaU:Sp:=fun vs H Q _=>∃ (v:V) (es:Es),vs=[v]∧HeapV H v es∧Jt es∧∀ v' H' ss,Same H H'→HeapV H' v' (ups (mo es) ss)→SPts es ss→Q v' H'
theorem Zcl (D:HasDef K mg "begins_of" XD ["H"]) (B:Blt mg) (g24_:FOk P w K mg base 2 "more_out" ["H"] JL):FOk P w K mg base 3 "begins_of" ["H"] ZaU:=by
 refine D.ok Zfd (fun vs H Q E h=>?_) (fun f cdv A outer s H vs Q E hr h=>?_)
 ·obtain ⟨v,es,rfl,_⟩:=h
  rfl
 ·obtain ⟨v,es,rfl,hV,hF,k⟩:=h
  refine ⟨_,(Zh (Zm (ZW ZF rfl B.tuple Xr (Za (ZI (Zf XD) Zcp ["point","more"] [] rfl (YK (Zp (YT rfl) rfl B.sorted XS (Za (Zbd (Zr g24_ hr (Za (pv 0) Ze))) Ze))) (fun _ _ _ _ _=>ZS 2 K rfl (Zo (Z6 0) (Zo (Z6 1) ZR))) (fun _ _ _ _ _=>Zbg (Zv Zfi (pv 1) Zg (Zw _))) (fun _ _ _ _ _=>(ZaD (Za (pv 0) (Za (pv 1) Ze))))) Ze)))),?_⟩
  refine ⟨_,rfl,v,es,rfl,hV,hF,fun d H1 ks s1 hd hP=>⟨d,_,rfl,hd,fun p hp=>?_⟩⟩
  have hkl:=hP.len
  have hfew:=hF.few
  refine ⟨p,d,ks,fun x=>.int (mo es x),rfl,Zc,Zb hp _ _ hd,hP.nd,by omega,fun D1 H2 vs ss s2 hpm hsrt hD1 hl hv=>?_⟩
  have hss:=hpm.length_eq
  refine ⟨D1,rfl,⟨_,SqL.of hD1⟩,Zdx ss.length (fun i=>vs.getD i .non) (fun i=>decide (0 < (mo es) (ss.getD i ""))) (fun i v H=>Zk6 (ss.getD i "") ((mo es) (ss.getD i "")) v H) (Zs (by omega)) (fun i v H H' hs ⟨b,e1,e2⟩=>⟨b,e1,hs _ _ e2⟩) (by have:=Ja (K:=K) (SqL.of hD1); rw [hl] at this; exact this) ?_ ?_⟩
  ·intro i H3 Qt Qf hi hs ht hf
   obtain ⟨b,e1,e2⟩:=hv i ss[i] (List.getElem?_eq_getElem hi)
   have ev:vs.getD i .non = .ref b:=by rw [List.getD_eq_getElem?_getD,e1]; rfl
   have es1:ss.getD i "" = ss[i]:=by rw [List.getD_eq_getElem?_getD,List.getElem?_eq_getElem hi]; rfl
   rw [es1] at ht hf
   rw [ev]
   refine ⟨b,_,rfl,SqT.of (hs _ _ e2),rfl,_,_,rfl,_,_,rfl,rfl,?_⟩
   refine ⟨_,rfl,_,_,rfl,rfl,_,rfl,?_⟩
   by_cases c:0 < (mo es) ss[i]
   ·refine ZbP (decide_eq_true (by omega)) (⟨_,rfl,_,rfl,Zs (show 2≤1000 by decide),fun r hr=>ht (decide_eq_true c) _ _ (Zb hr) ⟨r,rfl,Zc⟩⟩)
   ·exact Zao (decide_eq_false (by omega)) (hf (decide_eq_false c) _ (Same.refl _))
  ·intro D2 vs2 H3 hl2 hR hs3 hD2 hDl
   refine ⟨D2,vs2,rfl,.inl ⟨SqL.of hDl,fun q hq=>?_⟩⟩
   have sq:=Zb (o:=.tup vs2) hq
   refine k (.ref q) _ ss (((s1.trans (Zb hp)).trans s2).trans (hs3.trans sq)) ⟨q,vs2,rfl,Zc,?_⟩ (SPts.of hP hpm hsrt)
   exact (ZmA (p:=fun x=>decide (0 < (mo es) x)) (f:=fun x=>(mo es) x) hl2 hR).same sq.tup
abbrev Za5:Stmt:=top 19
abbrev Zhi:List Str:=["H"]
theorem ZiK:Zk Zhi ["H"] (Zf Za5):=⟨rfl,rfl,rfl,by decide +kernel,rfl,by decide +kernel,by decide +kernel⟩
def ZjZ:Sp:=fun vs H Q _=>∃ (v:V) (es:Es),vs=[v]∧HeapV H v es∧Jt es∧∀ v' H' ss,Same H H'→HeapV H' v' (ups (fun y=>-mo es y) ss)→SPts es ss→Q v' H'
theorem Zfo (D:HasDef K mg "ends_of" Za5 ["H"]) (B:Blt mg) (g24_:FOk P w K mg base 2 "more_out" ["H"] JL):FOk P w K mg base 3 "ends_of" ["H"] ZjZ:=by
 refine D.ok ZiK (fun vs H Q E h=>?_) (fun f cdv A outer s H vs Q E hr h=>?_)
 ·obtain ⟨v,es,rfl,_⟩:=h
  rfl
 ·obtain ⟨v,es,rfl,hV,hF,k⟩:=h
  refine ⟨_,(Zh (Zm (ZW ZF rfl B.tuple Xr (Za (ZI (Zf Za5) Zhi ["point","more"] [] rfl (YK (Zp (YT rfl) rfl B.sorted XS (Za (Zbd (Zr g24_ hr (Za (pv 0) Ze))) Ze))) (fun _ _ _ _ _=>ZS 2 K rfl (Zo (Z6 0) (Zo (Z6 1) ZR))) (fun _ _ _ _ _=>Zbg (Zv ZmG (pv 1) Zg (Zw _))) (fun _ _ _ _ _=>(ZaD (Za (pv 0) (Za (Zb9 Je (pv 1)) Ze))))) Ze)))),?_⟩
  refine ⟨_,rfl,v,es,rfl,hV,hF,fun d H1 ks s1 hd hP=>⟨d,_,rfl,hd,fun p hp=>?_⟩⟩
  have hkl:=hP.len
  have hfew:=hF.few
  refine ⟨p,d,ks,fun x=>.int (mo es x),rfl,Zc,Zb hp _ _ hd,hP.nd,by omega,fun D1 H2 vs ss s2 hpm hsrt hD1 hl hv=>?_⟩
  have hss:=hpm.length_eq
  refine ⟨D1,rfl,⟨_,SqL.of hD1⟩,Zdx ss.length (fun i=>vs.getD i .non) (fun i=>decide (0 < (fun y=>-mo es y) (ss.getD i ""))) (fun i v H=>Zk6 (ss.getD i "") ((fun y=>-mo es y) (ss.getD i "")) v H) (Zs (by omega)) (fun i v H H' hs ⟨b,e1,e2⟩=>⟨b,e1,hs _ _ e2⟩) (by have:=Ja (K:=K) (SqL.of hD1); rw [hl] at this; exact this) ?_ ?_⟩
  ·intro i H3 Qt Qf hi hs ht hf
   obtain ⟨b,e1,e2⟩:=hv i ss[i] (List.getElem?_eq_getElem hi)
   have ev:vs.getD i .non = .ref b:=by rw [List.getD_eq_getElem?_getD,e1]; rfl
   have es1:ss.getD i "" = ss[i]:=by rw [List.getD_eq_getElem?_getD,List.getElem?_eq_getElem hi]; rfl
   rw [es1] at ht hf
   rw [ev]
   refine ⟨b,_,rfl,SqT.of (hs _ _ e2),rfl,_,_,rfl,_,_,rfl,rfl,?_⟩
   refine ⟨_,rfl,_,_,rfl,rfl,_,rfl,?_⟩
   by_cases c:0 < (fun y=>-mo es y) ss[i]
   ·refine ZbP (decide_eq_true (by have c:=c; dsimp only at c; omega)) (⟨_,rfl,_,rfl,_,rfl,Zs (show 2≤1000 by decide),fun r hr=>ht (decide_eq_true c) _ _ (Zb hr) ⟨r,rfl,Zc⟩⟩)
   ·exact Zao (decide_eq_false (by have c:=c; dsimp only at c; omega)) (hf (decide_eq_false c) _ (Same.refl _))
  ·intro D2 vs2 H3 hl2 hR hs3 hD2 hDl
   refine ⟨D2,vs2,rfl,.inl ⟨SqL.of hDl,fun q hq=>?_⟩⟩
   have sq:=Zb (o:=.tup vs2) hq
   refine k (.ref q) _ ss (((s1.trans (Zb hp)).trans s2).trans (hs3.trans sq)) ⟨q,vs2,rfl,Zc,?_⟩ (SPts.of hP hpm hsrt)
   exact (ZmA (p:=fun x=>decide (0 < (fun y=>-mo es y) x)) (f:=fun x=>(fun y=>-mo es y) x) hl2 hR).same sq.tup
end
end Sh
namespace L2
open PySem PySem.Spec PyProof.Rows
theorem Zn7:bootBuiltins "set" = some (.type "set"):=by decide +kernel
end L2
namespace Sh
open PySem L2 PyProof.Rows
seal L2.PE L2.PS L2.PSs L2.PT L2.PW L2.PA L2.PI L2.PG L2.PGs L2.PO L2.PC L2.PCs L2.OpR L2.UnR L2.CallR L2.MtR L2.IxR L2.SlR
theorem Zgb {vs:List V} {es:Es} {f:Str→Str} (hl:vs.length=es.length) (hR:∀ (i:Nat) (v:V),vs[i]?=some v→v = .str (f (es.getD i ("",0)).1)):vs=(es.map fun e=>f e.1).map V.str:=by
 apply List.ext_getElem?
 intro i
 by_cases hi:i < vs.length
 ·have hie:i < es.length:=by omega
  rw [List.getElem?_eq_getElem hi,hR i _ (List.getElem?_eq_getElem hi),List.getElem?_map,List.getElem?_map,List.getElem?_eq_getElem hie,List.getD_eq_getElem?_getD,List.getElem?_eq_getElem hie]
  rfl
 ·rw [List.getElem?_eq_none (by omega),List.getElem?_eq_none (by rw [List.length_map,List.length_map]; omega)]
section
variable {P:Program} {w:World} {K:PySem.W.Frag} {mg:Str→Option Value} {base:Heap}
def TupS (H:Hp) (v:V) (ss:List Str):Prop:=∃ q,v = .ref q∧H q=some (.tup (ss.map V.str))
theorem TupS.same {H H':Hp} {v:V} {ss:List Str} (h:TupS H v ss) (s:Same H H'):TupS H' v ss:=by
 obtain ⟨q,e,e2⟩:=h
 exact ⟨q,e,s _ _ e2⟩
abbrev YG:Stmt:=top 15
abbrev J6:List Str:=["H"]
theorem Ze9:Zk J6 ["H"] (Zf YG):=⟨rfl,rfl,rfl,by decide +kernel,rfl,by decide +kernel,by decide +kernel⟩
def Xy:Sp:=fun vs H Q _=>∃ (v:V) (es:Es),vs=[v]∧HeapV H v es∧Jt es∧∀ v' H' ss,Same H H'→TupS H' v' ss→SPts es ss→Q v' H'
theorem Zcd (D:HasDef K mg "points_of" YG ["H"]) (B:Blt mg) (g6_:FOk P w K mg base 1 "begin_of" ["piece"] Zc5) (g12_:FOk P w K mg base 1 "end_of" ["piece"] Zgp):FOk P w K mg base 2 "points_of" ["H"] Xy:=by
 refine D.ok Ze9 (fun vs H Q E h=>?_) (fun f cdv A outer s H vs Q E hr h=>?_)
 ·obtain ⟨v,es,rfl,_⟩:=h
  rfl
 ·obtain ⟨v,es,rfl,⟨q,vs,rfl,hq,hpa⟩,hF,k⟩:=h
  refine ⟨_,(Zh (Zm (ZW ZF rfl B.tuple Xr (Za (Zp (Zaf rfl) rfl B.sorted XS (Za (ZW (Zid rfl) rfl B.set Zn7 (Za (Zq Zke (ZI (Zf YG) J6 ["piece","many"] [] rfl (Yj (pv 0)) (fun _ _ _ _ _=>ZS 2 K rfl (Zo (Z6 0) (Zo (Z6 1) ZR))) (fun _ _ _ _ _=>ZX) (fun _ _ _ _ _=>(Zr g6_ hr (Za (pv 0) Ze))))
   (ZI (Zf YG) J6 ["piece","many"] [] rfl (Yj (pv 0)) (fun _ _ _ _ _=>ZS 2 K rfl (Zo (Z6 0) (Zo (Z6 1) ZR))) (fun _ _ _ _ _=>ZX) (fun _ _ _ _ _=>(Zr g12_ hr (Za (pv 0) Ze))))) Ze)) Ze)) Ze)))),?_⟩
  have hfew:=hF.few
  have hvl:=hpa.1
  refine ⟨_,rfl,q,rfl,⟨_,SqT.of hq⟩,Xa vs.length (fun i=>vs.getD i .non) (fun i v _=>v = .str (bg (es.getD i ("",0)).1)) (Zs (by omega)) (fun _ _ _ _ _ r=>r) (ZaK (SqT.of hq)) ?_ ?_⟩
  ·intro i H3 Qe hi hs kq
   have hie:i < es.length:=by omega
   obtain ⟨b,e1,e2⟩:=hpa.2 i es[i] (List.getElem?_eq_getElem hie)
   have ev:vs.getD i .non = .ref b:=by rw [List.getD_eq_getElem?_getD,e1]; rfl
   have ee:es.getD i ("",0)=es[i]:=by rw [List.getD_eq_getElem?_getD,List.getElem?_eq_getElem hie]; rfl
   obtain ⟨l1,l2⟩:=hF.long es[i] (List.getElem_mem hie)
   rw [ev]
   refine ⟨b,_,rfl,SqT.of (hs _ _ e2),rfl,_,_,rfl,_,_,rfl,rfl,_,rfl,es[i].1,rfl,l1,l2,kq _ _ (Same.refl _) ?_⟩
   rw [ee]
  intro D1 vs1 H3 hl1 hr1 hs3 hD1 hDl1
  rw [Zgb (f:=bg) (by omega) hr1] at hDl1
  refine ⟨_,rfl,q,rfl,⟨_,SqT.of (hs3 _ _ hq)⟩,Xa vs.length (fun i=>vs.getD i .non) (fun i v _=>v = .str (en (es.getD i ("",0)).1)) (Zs (by omega)) (fun _ _ _ _ _ r=>r) (ZaK (SqT.of (hs3 _ _ hq))) ?_ ?_⟩
  ·intro i H4 Qe hi hs kq
   have hie:i < es.length:=by omega
   obtain ⟨b,e1,e2⟩:=hpa.2 i es[i] (List.getElem?_eq_getElem hie)
   have ev:vs.getD i .non = .ref b:=by rw [List.getD_eq_getElem?_getD,e1]; rfl
   have ee:es.getD i ("",0)=es[i]:=by rw [List.getD_eq_getElem?_getD,List.getElem?_eq_getElem hie]; rfl
   obtain ⟨l1,l2⟩:=hF.long es[i] (List.getElem_mem hie)
   rw [ev]
   refine ⟨b,_,rfl,SqT.of (hs _ _ (hs3 _ _ e2)),rfl,_,_,rfl,_,_,rfl,rfl,_,rfl,es[i].1,rfl,l1,l2,kq _ _ (Same.refl _) ?_⟩
   rw [ee]
  intro D2 vs2 H4 hl2 hr2 hs4 hD2 hDl2
  rw [Zgb (f:=en) (by omega) hr2] at hDl2
  refine ⟨D1,D2,_,_,rfl,rfl,hs4 _ _ hDl1,hDl2,Zs (by simp only [List.length_map]; omega),fun p hp=>?_⟩
  have s5:=Zb (o:=.lst ((es.map fun e=>bg e.1).map V.str ++ (es.map fun e=>en e.1).map V.str)) hp
  refine ⟨p,(es.map fun e=>bg e.1) ++ (es.map fun e=>en e.1),rfl,SqL.of (by rw [Zc,List.map_append]),by simp only [List.length_append,List.length_map]; omega,fun p2 ks hp2 hnd hmem hkl=>?_⟩
  have hkl':ks.length≤2 * es.length:=by simp only [List.length_append,List.length_map] at hkl; omega
  refine ⟨p2,ks,rfl,Zc,by omega,fun q2 ss hq2 hpm hsrt=>?_⟩
  refine ⟨q2,_,rfl,.inl ⟨SqL.of Zc,fun l hl=>?_⟩⟩
  refine k (.ref l) _ ss (((((hs3.trans hs4).trans s5).trans (Zb hp2)).trans (Zb hq2)).trans (Zb hl)) ⟨l,rfl,Zc⟩ (SPts.of (ks:=ks) ⟨hnd,fun x=>?_,hkl'⟩ hpm hsrt)
  rw [hmem,List.mem_append,List.mem_map,List.mem_map]
  constructor
  ·rintro (⟨e,he,z⟩ | ⟨e,he,z⟩)
   ·exact ⟨e,he,.inl z⟩
   ·exact ⟨e,he,.inr z⟩
  ·rintro ⟨e,he,z | z⟩
   ·exact .inl ⟨e,he,z⟩
   ·exact .inr ⟨e,he,z⟩
end
def rD (ks:List Str) (adr:Str→Addr):List (Key × V):=ks.map fun x=>((Sum.inr x:Key),V.ref (adr x))
theorem Zj4 (ks:List Str) (adr:Str→Addr):(rD ks adr).length=ks.length:=by unfold rD; rw [List.length_map]
theorem Zej (ks:List Str) (adr:Str→Addr) (y:Str):valV (rD ks adr) (Sum.inr y)=if y∈ks then some (.ref (adr y)) else none:=Xd (fun x=>V.ref (adr x)) y ks
theorem Zmq {ks:List Str} {adr:Str→Addr} {y:Str} {p:Addr} (h:y∉ks):YI (rD ks adr) (Sum.inr y) (.ref p)=rD (ks ++ [y]) fun x=>if x=y then p else adr x:=by
 rw [XE _ (by rw [Zej,if_neg h])]
 unfold rD
 rw [List.map_append,List.map_singleton]
 dsimp only
 rw [if_pos rfl]
 congr 1
 refine List.map_congr_left fun x hx=>?_
 rw [if_neg (fun e:x=y=>h (e ▸ hx))]
structure TJ (H H2:Hp) (d:Addr) (ks:List Str) (adr:Str→Addr) (r:Str→List Str):Prop where
 sm:Same H H2
 dn:H d=none
 dd:H2 d=some (.dK (rD ks adr))
 nd:ks.Nodup
 row:∀ P∈ks,H2 (adr P)=some (.lst ((r P).map V.str))
 fresh:∀ P∈ks,H (adr P)=none
 inj:∀ P∈ks,∀ P'∈ks,adr P=adr P'→P=P'
 out:∀ P,P∉ks→r P=[]
def ZdL (r:Str→List Str) (P y:Str):Str→List Str:=fun x=>if x=P then r P ++ [y] else r x
theorem Ze0 {r:Str→List Str} {P y x z:Str}:z∈ZdL r P y x↔z∈r x∨(x=P∧z=y):=by
 unfold ZdL
 by_cases c:x=P
 ·subst c
  rw [if_pos rfl]
  simp
 ·rw [if_neg c]
  simp [c]
theorem ZbM {r:Str→List Str} {P y:Str} {n:Nat} (h:∀ x,(r x).length≤n) (x:Str):(ZdL r P y x).length≤n + 1:=by
 unfold ZdL
 split
 ·have:=h P
  simp
  omega
 ·have:=h x
  omega
theorem TJ.ne {H H2:Hp} {d:Addr} {ks:List Str} {adr:Str→Addr} {r:Str→List Str} (J:TJ H H2 d ks adr r) {P:Str} (hP:P∈ks):adr P≠d:=fun e=>by
 have:=J.row P hP
 rw [e,J.dd] at this
 cases this
theorem TJ.old {H H2:Hp} {d p:Addr} {ks:List Str} {adr:Str→Addr} {r:Str→List Str} (J:TJ H H2 d ks adr r) {P y:Str} (hP:P∈ks) (hp:H2 p=none) :
  TJ H (upd (upd H2 p (.lst [])) (adr P) (.lst ((r P).map V.str ++ [.str y]))) d (Xc ks P) adr (ZdL r P y):=by
 have ek:Xc ks P=ks:=by unfold Xc; rw [if_pos hP]
 rw [ek]
 have s1:=Zb (o:=.lst []) hp
 refine ⟨fun b u hb=>?_,J.dn,?_,J.nd,fun Q hQ=>?_,J.fresh,J.inj,fun Q hQ=>?_⟩
 ·rw [Zi fun e=>by rw [e,J.fresh P hP] at hb; cases hb]
  exact s1 _ _ (J.sm b u hb)
 ·rw [Zi (Ne.symm (J.ne hP))]
  exact s1 _ _ J.dd
 ·unfold ZdL
  by_cases c:Q=P
  ·subst c
   rw [Zc,if_pos rfl,List.map_append]
   rfl
  ·rw [if_neg c,Zi fun e=>c (J.inj Q hQ P hP e)]
   exact s1 _ _ (J.row Q hQ)
 ·unfold ZdL
  rw [if_neg (fun e:Q=P=>hQ (e ▸ hP))]
  exact J.out Q hQ
theorem TJ.new {H H2:Hp} {d p:Addr} {ks:List Str} {adr:Str→Addr} {r:Str→List Str} (J:TJ H H2 d ks adr r) {P y:Str} (hP:P∉ks) (hp:H2 p=none) :
  TJ H (upd (upd (upd H2 p (.lst [])) d (.dK (rD (ks ++ [P]) fun x=>if x=P then p else adr x))) p (.lst ([] ++ [.str y]))) d (Xc ks P) (fun x=>if x=P then p else adr x) (ZdL r P y):=by
 have ek:Xc ks P=ks ++ [P]:=by unfold Xc; rw [if_neg hP]
 rw [ek]
 have hpd:d≠p:=fun e=>by rw [← e,J.dd] at hp; cases hp
 have hpa:∀ Q∈ks,adr Q≠p:=fun Q hQ e=>by have:=J.row Q hQ; rw [e,hp] at this; cases this
 have mm:∀ Q,Q∈ks ++ [P]→Q∈ks∨Q=P:=fun Q h=>by simpa using h
 refine ⟨fun b u hb=>?_,J.dn,?_,?_,fun Q hQ=>?_,fun Q hQ=>?_,fun Q hQ Q' hQ' e=>?_,fun Q hQ=>?_⟩
 ·have h2:=J.sm b u hb
  rw [Zi (Zj h2 hp),Zi (Zj hb J.dn),Zi (Zj h2 hp)]
  exact h2
 ·rw [Zi hpd,Zc]
 ·exact List.nodup_append.mpr ⟨J.nd,by simp,fun a ha b hb e=>by rw [List.mem_singleton.mp hb] at e; subst e; exact hP ha⟩
 ·unfold ZdL
  by_cases c:Q=P
  ·subst c
   rw [if_pos rfl,if_pos rfl,Zc,J.out Q hP]
   rfl
  ·rw [if_neg c,if_neg c]
   have hQ':Q∈ks:=(mm Q hQ).resolve_right c
   rw [Zi (hpa Q hQ'),Zi (J.ne hQ'),Zi (hpa Q hQ')]
   exact J.row Q hQ'
 ·skip
  by_cases c:Q=P
  ·rw [if_pos c]
   cases hh:H p with
   | none=>rfl
   | some u=>have:=J.sm p u hh; rw [hp] at this; cases this
  ·rw [if_neg c]
   exact J.fresh Q ((mm Q hQ).resolve_right c)
 ·skip
  by_cases c:Q=P
  ·by_cases c':Q'=P
   ·rw [c,c']
   ·rw [if_pos c,if_neg c'] at e
    exact absurd e.symm (hpa Q' ((mm Q' hQ').resolve_right c'))
  ·by_cases c':Q'=P
   ·rw [if_neg c,if_pos c'] at e
    exact absurd e (hpa Q ((mm Q hQ).resolve_right c))
   ·rw [if_neg c,if_neg c'] at e
    exact J.inj Q ((mm Q hQ).resolve_right c) Q' ((mm Q' hQ').resolve_right c') e
 ·have h1:Q∉ks:=fun z=>hQ (List.mem_append_left _ z)
  have h2:¬ Q=P:=fun z=>hQ (by simp [z])
  unfold ZdL
  rw [if_neg h2]
  exact J.out Q h1
def TiR (H:Hp) (q d:Addr) (es:Es) (i:Nat):L2.St→Hp→Prop:=fun σ H2=>(∃ z2 z3:Option V,σ=[some (.ref q),some (.ref d),z2,z3])∧∃ ks adr r,TJ H H2 d ks adr r∧Pts (es.take i) ks∧(∀ P y,y∈r P↔Adj (es.take i) P y)∧∀ P,(r P).length≤2 * i
section
variable {P:Program} {w:World} {K:PySem.W.Frag} {mg:Str→Option Value} {base:Heap}
abbrev Xg:Stmt:=top 25
abbrev Zdp:List Str:=["H","tied","piece","many"]
theorem scTiedPoints:Zk Zdp ["H"] (Zf Xg):=⟨rfl,rfl,rfl,by decide +kernel,rfl,by decide +kernel,by decide +kernel⟩
def ZjQ:Sp:=fun vs H Q _=>∃ (v:V) (es:Es),vs=[v]∧HeapV H v es∧Jt es∧∀ d H' ks adr r,TJ H H' d ks adr r→Pts es ks→(∀ P y,y∈r P↔Adj es P y)→(∀ P,(r P).length≤128)→Q (.ref d) H'
theorem Zak (D:HasDef K mg "tied_points" Xg ["H"]) (g6_:FOk P w K mg base 1 "begin_of" ["piece"] Zc5) (g12_:FOk P w K mg base 1 "end_of" ["piece"] Zgp):FOk P w K mg base 2 "tied_points" ["H"] ZjQ:=by
 refine D.ok scTiedPoints (fun vs H Q E h=>?_) (fun f cdv A outer s H vs Q E hr h=>?_)
 ·obtain ⟨v,es,rfl,_⟩:=h
  rfl
 ·obtain ⟨v,es,rfl,⟨q,vs,rfl,hq,hpa⟩,hF,k⟩:=h
  refine ⟨_,(Zd (Zl (i:=1) scTiedPoints.nd rfl (.inl rfl) Yk)
   (Zd (Yf PassesOwn.never rfl (Yj (pv 0)) (ZS 2 K rfl (Zo (Zy (i:=2) scTiedPoints.nd rfl (.inl rfl)) (Zo (Zy (i:=3) scTiedPoints.nd rfl (.inl rfl)) ZR)))
    (Zd (X6 (Zdg F.plainAttrs_list F.slot_list_append F.type_list_append Y1 (Zbe (pv 1) (Zr g6_ hr (Za (pv 2) Ze)) (ZaF Ze) ⟨rfl,rfl,rfl,rfl⟩) (Za (Zr g12_ hr (Za (pv 2) Ze)) Ze)))
   (Zh (X6 (Zdg F.plainAttrs_list F.slot_list_append F.type_list_append Y1 (Zbe (pv 1) (Zr g12_ hr (Za (pv 2) Ze)) (ZaF Ze) ⟨rfl,rfl,rfl,rfl⟩) (Za (Zr g6_ hr (Za (pv 2) Ze)) Ze))))))
   (Zh (Zm (pv 1))))),?_⟩
  intro d hd
  have s1:=Zb (o:=.dK []) hd
  refine ⟨_,rfl,q,rfl,⟨_,SqT.of (s1 _ _ hq)⟩,?_⟩
  refine Xq (K:=K) (a:=q) (xs:=vs) (fun i σ H2=>(∃ z2 z3:Option V,σ=[some (.ref q),some (.ref d),z2,z3])∧∃ ks adr r,TJ H H2 d ks adr r∧Pts (es.take i) ks∧(∀ P y,y∈r P↔Adj (es.take i) P y)∧∀ P,(r P).length≤2 * i)
   ⟨⟨none,none,rfl⟩,[],fun _=>d,fun _=>[],⟨s1,hd,Zc,List.nodup_nil,(fun P h=>by cases h),(fun P h=>by cases h),(fun P h=>by cases h),fun _ _=>rfl⟩,Pts.nil,(fun P y=>by simp [Adj]),fun P=>Nat.le_refl _⟩ (fun i σ H2 _ ⟨_,_,_,_,J,_⟩=>SqT.of (J.sm _ _ hq)) ?_ ?_
  ·rintro i x σ H2 hi ⟨⟨z2,z3,rfl⟩,ks,adr,r,J,hk,hadj,hlen⟩
   have hiv:i < vs.length:=(List.getElem?_eq_some_iff.mp hi).1
   have hie:i < es.length:=by rw [← hpa.1]; exact hiv
   obtain ⟨b,e1,e2⟩:=hpa.2 i es[i] (List.getElem?_eq_getElem hie)
   rw [hi] at e1
   cases e1
   obtain ⟨l1,l2⟩:=hF.long es[i] (List.getElem_mem hie)
   have hkl:=hk.len
   have hfew:=hF.few
   rw [List.length_take] at hkl
   refine ⟨b,_,rfl,SqT.of (J.sm _ _ e2),rfl,_,_,rfl,_,_,rfl,rfl,?_⟩
   have het:es.take (i + 1)=es.take i ++ [es[i]]:=List.take_succ_eq_append_getElem hie
   generalize es[i]=e at *
   have one:∀ (H3:Hp) (ks3:List Str) (adr3:Str→Addr) (r3:Str→List Str) (P y:Str) (R:L2.St→Hp→Prop) (σ3:L2.St),TJ H H3 d ks3 adr3 r3→ks3.length≤500→(∀ x,(r3 x).length≤500)→(∀ H4 adr4,TJ H H4 d (Xc ks3 P) adr4 (ZdL r3 P y)→R σ3 H4)→∀ p,H3 p=none →
     (∀ v,valV (rD ks3 adr3) (Sum.inr P:Key)=some v→∃ l xs,v = .ref l∧(upd H3 p (.lst [])) l=some (.lst xs)∧xs.length < sizeLine∧R σ3 (upd (upd H3 p (.lst [])) l (.lst (xs ++ [.str y])))) ∧
     (valV (rD ks3 adr3) (Sum.inr P:Key)=none→∃ xs,(upd (upd H3 p (.lst [])) d (.dK (YI (rD ks3 adr3) (Sum.inr P) (.ref p)))) p=some (.lst xs)∧xs.length < sizeLine∧R σ3 (upd (upd (upd H3 p (.lst [])) d (.dK (YI (rD ks3 adr3) (Sum.inr P) (.ref p)))) p (.lst (xs ++ [.str y])))):=by
    intro H3 ks3 adr3 r3 P y R σ3 J3 hks hr3 hR p hp
    constructor
    ·intro v hv
     rw [Zej] at hv
     by_cases c:P∈ks3
     ·rw [if_pos c] at hv
      cases hv
      refine ⟨adr3 P,(r3 P).map V.str,rfl,Zb hp _ _ (J3.row P c),?_,hR _ _ (J3.old c hp)⟩
      rw [List.length_map]
      have:=hr3 P
      exact ZK (by omega)
     ·rw [if_neg c] at hv
      cases hv
    ·intro hv
     rw [Zej] at hv
     by_cases c:P∈ks3
     ·rw [if_pos c] at hv
      cases hv
     ·have hpd:p≠d:=fun e=>by rw [e,J3.dd] at hp; cases hp
      refine ⟨[],by rw [Zi hpd,Zc],ZK (by decide),?_⟩
      rw [Zmq c]
      exact hR _ _ (J3.new c hp)
   have hkz:ks.length≤500:=by omega
   have hrz:∀ x,(r x).length≤500:=fun x=>by have:=hlen x; omega
   show ZdY _ _ _ _ _
   refine YF (fun σ H'=>σ=[some (.ref q),some (.ref d),some (.str e.1),some (.int e.2)]∧∃ adr',TJ H H' d (Xc ks (bg e.1)) adr' (ZdL r (bg e.1) (en e.1))) (fun R hR=>?_) ?_
   ·refine ⟨_,rfl,d,rfl,.inl ⟨_,.inl J.dd⟩,_,rfl,e.1,rfl,l1,l2,Zs (show 0≤1000 by decide),fun p hp=>?_⟩
    refine ⟨_,Sum.inr (bg e.1),Zb hp _ _ J.dd,rfl,by rw [Zj4]; exact ZK (by omega),fun v hv=>?_,fun hv=>?_⟩
    ·obtain ⟨l,xs,rfl,hl,hz,hr'⟩:=(one H2 ks adr r (bg e.1) (en e.1) R [some (.ref q),some (.ref d),some (.str e.1),some (.int e.2)] J hkz hrz (fun H4 adr4 J4=>hR _ _ ⟨rfl,adr4,J4⟩) p hp).1 v hv
     exact ⟨.inl ⟨rfl,_,SqL.of hl⟩,_,rfl,e.1,rfl,l1,l2,l,xs,.str (en e.1),rfl,rfl,hl,hz,hr'⟩
    ·obtain ⟨xs,hl,hz,hr'⟩:=(one H2 ks adr r (bg e.1) (en e.1) R [some (.ref q),some (.ref d),some (.str e.1),some (.int e.2)] J hkz hrz (fun H4 adr4 J4=>hR _ _ ⟨rfl,adr4,J4⟩) p hp).2 hv
     exact ⟨.inl ⟨rfl,_,SqL.of hl⟩,_,rfl,e.1,rfl,l1,l2,p,xs,.str (en e.1),rfl,rfl,hl,hz,hr'⟩
   rintro σ H3 ⟨rfl,adr3,J3⟩
   have hal:=XT ks (bg e.1)
   have hrz3:∀ x,(ZdL r (bg e.1) (en e.1) x).length≤500:=fun x=>by have:=ZbM (P:=bg e.1) (y:=en e.1) hlen x; omega
   have fin:∀ H4 adr4,TJ H H4 d (Xc (Xc ks (bg e.1)) (en e.1)) adr4 (ZdL (ZdL r (bg e.1) (en e.1)) (en e.1) (bg e.1))→TiR H q d es (i + 1) [some (.ref q),some (.ref d),some (.str e.1),some (.int e.2)] H4:=fun H4 adr4 J4=>by
    refine ⟨⟨_,_,rfl⟩,_,adr4,_,J4,by rw [het]; exact hk.step e,fun P y=>?_,fun P=>?_⟩
    ·rw [Ze0,Ze0,hadj,het,ZjD]
     constructor
     ·rintro ((z | ⟨z1,z2⟩) | ⟨z1,z2⟩)
      ·exact .inl z
      ·exact .inr (.inl ⟨z1.symm,z2.symm⟩)
      ·exact .inr (.inr ⟨z1.symm,z2.symm⟩)
     ·rintro (z | ⟨z1,z2⟩ | ⟨z1,z2⟩)
      ·exact .inl (.inl z)
      ·exact .inl (.inr ⟨z1.symm,z2.symm⟩)
      ·exact .inr ⟨z1.symm,z2.symm⟩
    ·have:=ZbM (P:=en e.1) (y:=bg e.1) (fun x=>ZbM (P:=bg e.1) (y:=en e.1) hlen x) P
     omega
   refine ⟨_,rfl,d,rfl,.inl ⟨_,.inl J3.dd⟩,_,rfl,e.1,rfl,l1,l2,Zs (show 0≤1000 by decide),fun p hp=>?_⟩
   refine ⟨_,Sum.inr (en e.1),Zb hp _ _ J3.dd,rfl,by rw [Zj4]; exact ZK (by omega),fun v hv=>?_,fun hv=>?_⟩
   ·obtain ⟨l,xs,rfl,hl,hz,hr'⟩:=(one H3 _ adr3 _ (en e.1) (bg e.1) (TiR H q d es (i + 1)) [some (.ref q),some (.ref d),some (.str e.1),some (.int e.2)] J3 (by omega) hrz3 fin p hp).1 v hv
    exact ⟨.inl ⟨rfl,_,SqL.of hl⟩,_,rfl,e.1,rfl,l1,l2,l,xs,.str (bg e.1),rfl,rfl,hl,hz,hr'⟩
   ·obtain ⟨xs,hl,hz,hr'⟩:=(one H3 _ adr3 _ (en e.1) (bg e.1) (TiR H q d es (i + 1)) [some (.ref q),some (.ref d),some (.str e.1),some (.int e.2)] J3 (by omega) hrz3 fin p hp).2 hv
    exact ⟨.inl ⟨rfl,_,SqL.of hl⟩,_,rfl,e.1,rfl,l1,l2,p,xs,.str (bg e.1),rfl,rfl,hl,hz,hr'⟩
  ·rintro σ H2 ⟨⟨z2,z3,rfl⟩,ks,adr,r,J,hk,hadj,hlen⟩
   rw [hpa.1,List.take_length] at hk hadj
   have:=hF.few
   exact ⟨_,rfl,k d H2 ks adr r J hk hadj fun P=>by have:=hlen P; rw [hpa.1] at this; omega⟩
end
def bD (ks:List Str):List (Key × V):=ks.map fun x=>((Sum.inr x:Key),V.bl true)
theorem ZeZ (ks:List Str):(bD ks).length=ks.length:=by unfold bD; rw [List.length_map]
theorem Zkz (ks:List Str) (y:Str):valV (bD ks) (Sum.inr y)=if y∈ks then some (.bl true) else none:=Xd (fun _=>V.bl true) y ks
theorem Zik (ks:List Str) (y:Str):YI (bD ks) (Sum.inr y) (.bl true)=bD (Xc ks y):=by
 unfold Xc
 by_cases m:y∈ks
 ·rw [if_pos m]
  unfold bD
  rw [X5 _ _ _ _ m]
  refine List.map_congr_left fun x _=>?_
  simp
 ·rw [if_neg m,XE _ (by rw [Zkz,if_neg m])]
  unfold bD
  rw [List.map_append,List.map_singleton]
theorem Zi9 {ss:List Str} (nd:ss.Nodup) (h:(ss.map fun x=>x.cps.toList).Pairwise (·≤·)):(ss.map fun x=>x.cps.toList).Pairwise (· < ·):=by
 rw [List.pairwise_map] at h ⊢
 have:=List.Pairwise.and nd h
 refine this.imp fun {a b} q=>?_
 refine Tim.lt_ne (fun z=>?_) (Ne.symm q.1)
 exact absurd z (List.not_lt.mpr q.2)
structure Wk (es:Es) (a:Str) (ks F W:List Str):Prop where
 nd:F.Nodup
 fst:a∈F
 rch:∀ x∈F,Rch es a x
 sub:∀ x∈W,x∈F
 inn:∀ x∈F,x∈ks
theorem Wk.le {es:Es} {a:Str} {ks F W:List Str} (h:Wk es a ks F W):F.length≤ks.length:=by
 have h1:=h.nd
 have h2:=h.inn
 clear h
 induction F generalizing ks with
 | nil=>exact Nat.zero_le _
 | cons x F ih =>
  have nd':=List.nodup_cons.mp h1
  have hx:=h2 x (List.mem_cons_self ..)
  have p:=List.perm_cons_erase hx
  have:=ih (ks:=ks.erase x) nd'.2 fun y hy=>(List.mem_erase_of_ne (fun (q:y=x)=>nd'.1 (q ▸ hy))).mpr (h2 y (List.mem_cons_of_mem _ hy))
  rw [List.length_erase_of_mem hx] at this
  have hpos:0 < ks.length:=List.length_pos_of_mem hx
  rw [List.length_cons]
  omega
section
variable {P:Program} {w:World} {K:PySem.W.Frag} {mg:Str→Option Value} {base:Heap}
abbrev Zdb:Stmt:=top 26
abbrev Zlr:List Str:=["H","tied","first","found","waiting","here","point"]
theorem scPartOf:Zk Zlr ["H"] (Zf Zdb):=⟨rfl,rfl,rfl,by decide +kernel,rfl,by decide +kernel,by decide +kernel⟩
def ZjU:Sp:=fun vs H Q _=>∃ (v:V) (e:Str × Int) (es:Es),vs=[v]∧HeapV H v (e :: es)∧Jt (e :: es)∧∀ v' H' ss,Same H H'→TupS H' v' ss→(ss.map fun x=>x.cps.toList).Pairwise (· < ·)→ss.length≤128→(∀ x,x∈ss↔Rch (e :: es) (bg e.1) x)→Q v' H'
theorem Zfk (D:HasDef K mg "part_of" Zdb ["H"]) (B:Blt mg) (g6_:FOk P w K mg base 2 "begin_of" ["piece"] Zc5) (g35_:FOk P w K mg base 2 "tied_points" ["H"] ZjQ):FOk P w K mg base 3 "part_of" ["H"] ZjU:=by
 refine D.ok scPartOf (fun vs H Q E h=>?_) (fun f cdv A outer s H vs Q E hr h=>?_)
 ·obtain ⟨v,e,es,rfl,_⟩:=h
  rfl
 ·obtain ⟨v,e,es0,rfl,hV,hF,k⟩:=h
  have hu:=Zcy hr
  obtain ⟨q,vs,rfl,hq,hpa⟩:=id hV
  refine ⟨_,(Zd (Zl (i:=1) scPartOf.nd rfl (.inl rfl) (Zr g35_ hr (Za (pv 0) Ze)))
   (Zd (Zl (i:=2) scPartOf.nd rfl (.inl rfl) (Zr g6_ hr (Za (ZV ZaL (ZV ZaL (pv 0) Zg (fun _ _=>rfl)) Zg (fun _ _=>rfl)) Ze)))
   (Zd (Zl (i:=3) scPartOf.nd rfl (.inl rfl) (Zle (ZiQ (pv 2) Zfg Zla) rfl rfl (List.cons_ne_nil _ _) (by decide)))
   (Zd (Zl (i:=4) scPartOf.nd rfl (.inl rfl) (ZaF (Za (pv 2) Ze)))
   (Zd (Za7 PassesOwn.never (Zv Zfi (Zp ZB rfl B.len Yw (Za (pv 4) Ze)) Zg (Zw _))
    (Zd (Zl (i:=5) scPartOf.nd rfl (.inl rfl) (Zj8 F.plainAttrs_list F.slot_list_pop F.type_list_pop Zhl (pv 4)))
   (Zh (Yf PassesOwn.never rfl (YK (Zdf hu (pv 1) (pv 5) (fun _ _=>rfl))) (Zy (i:=6) scPartOf.nd rfl (.inl rfl))
    (Zh (Ym (Zms (ZgZ hu (pv 6) (pv 3))) (Zd (YJ hu (pv 3) (pv 6) Zfg rfl)
   (Zh (X6 (Zdg F.plainAttrs_list F.slot_list_append F.type_list_append Y1 (pv 4) (Za (pv 6) Ze))))) ZC))))))
   (Zh (Zm (ZW ZF rfl B.tuple Xr (Za (Zp (Zar rfl) rfl B.sorted XS (Za (pv 3) Ze)) Ze))))))))),?_⟩
  obtain ⟨b0,eb0,hb0⟩:=hpa.2 0 e rfl
  obtain ⟨l1,l2⟩:=hF.long e (List.mem_cons_self ..)
  refine ⟨_,rfl,.ref q,e :: es0,rfl,hV,hF,fun d H1 ks adr r J hk hadj hlen=>?_⟩
  have hf1:=hk.len
  have hf2:=hF.few
  have haK:bg e.1∈ks:=(hk.mem _).mpr ⟨e,List.mem_cons_self ..,.inl rfl⟩
  generalize hes:e :: es0=es at *
  refine ⟨_,rfl,q,vs,0,.ref b0,rfl,rfl,SqT.of (J.sm _ _ hq),Yn (by decide) eb0,b0,_,0,.str e.1,rfl,rfl,SqT.of (J.sm _ _ hb0),rfl,e.1,rfl,l1,l2,fun fd hfd=>?_⟩
  refine ⟨_,rfl,Zc,[((Sum.inr (bg e.1):Key),V.bl true)],rfl,by simp,?_⟩
  rw [JI]
  have s2:Same H1 (upd H1 fd (.dK (Jk [] [((Sum.inr (bg e.1):Key),V.bl true)]))):=Zb hfd
  have hfd2:(upd H1 fd (.dK (Jk [] [((Sum.inr (bg e.1):Key),V.bl true)]))) fd=some (.dK (bD [bg e.1])):=Zc
  generalize upd H1 fd (.dK (Jk [] [((Sum.inr (bg e.1):Key),V.bl true)]))=H2 at s2 hfd2
  refine ⟨_,rfl,Zs (show 1≤1000 by decide),fun wl hwl=>?_⟩
  have hwl1:H1 wl=none:=s2.free hwl
  have hne:wl≠fd:=fun z=>by rw [z,hfd2] at hwl; cases hwl
  have s3:=s2.trans (Zb (o:=.lst [.str (bg e.1)]) hwl)
  have hfd3:=Zb (o:=.lst [.str (bg e.1)]) hwl _ _ hfd2
  have hwl3:(upd H2 wl (.lst [.str (bg e.1)])) wl=some (.lst ([bg e.1].map V.str)):=Zc
  generalize upd H2 wl (.lst [.str (bg e.1)])=H3 at s3 hfd3 hwl3
  have shift:∀ {H4:Hp} (F W:List Str),Same H1 H4→Same H1 (upd (upd H4 fd (.dK (bD F))) wl (.lst (W.map V.str))):=fun F W s b u hb=>by
   rw [Zi (Zj hb hwl1),Zi (Zj hb hfd)]
   exact s b u hb
  have shW:∀ {H4:Hp} (o:HO),Same H1 H4→Same H1 (upd H4 wl o):=fun o s b u hb=>by
   rw [Zi (Zj hb hwl1)]
   exact s b u hb
  have shF:∀ {H4:Hp} (o:HO),Same H1 H4→Same H1 (upd H4 fd o):=fun o s b u hb=>by
   rw [Zi (Zj hb hfd)]
   exact s b u hb
  try dsimp only [Zap]
  show ZdY (ZdX _ _) _ _ _ _
  refine YF (fun σ H4=>∃ (F:List Str) (z5 z6:Option V),σ=[some (.ref q),some (.ref d),some (.str (bg e.1)),some (.ref fd),some (.ref wl),z5,z6]∧Same H1 H4∧H4 fd=some (.dK (bD F))∧Wk es (bg e.1) ks F []∧∀ x∈F,∀ y,Adj es x y→y∈F) (fun R hR=>?_) ?_
  ·refine ⟨fun m σ H4=>∃ (F W:List Str) (z5 z6:Option V),σ=[some (.ref q),some (.ref d),some (.str (bg e.1)),some (.ref fd),some (.ref wl),z5,z6]∧Same H1 H4∧H4 fd=some (.dK (bD F))∧H4 wl=some (.lst (W.map V.str))∧Wk es (bg e.1) ks F W∧(∀ x∈F,x∉W→∀ y,Adj es x y→y∈F)∧m=2 * (ks.length - F.length) + W.length∧m≤2 * ks.length,
    ⟨_,[bg e.1],[bg e.1],none,none,rfl,s3,hfd3,hwl3,⟨by simp,by simp,(fun x hx=>by rw [List.mem_singleton.mp hx]; exact .here),fun x hx=>hx,fun x hx=>by rw [List.mem_singleton.mp hx]; exact haK⟩,(fun x hx hw=>absurd hx hw),rfl,by have:=List.length_pos_of_mem haK; simp only [List.length_singleton]; omega⟩,?_⟩
   rintro m σ H4 ⟨F,W,z5,z6,rfl,s4,hfd4,hwl4,hW,hcl,hm,hw5⟩
   refine ⟨_,rfl,.ref wl,_,rfl,.inl ⟨_,SqL.of hwl4,rfl⟩,_,_,rfl,rfl,_,rfl,?_⟩
   rcases List.eq_nil_or_concat W with rfl | ⟨r0,here,rfl⟩
   ·exact Zao (by decide) (hR _ _ ⟨F,z5,z6,rfl,s4,hfd4,hW,fun x hx=>hcl x hx (fun z=>by cases z)⟩)
   rw [List.concat_eq_append] at *
   refine ZbP (decide_eq_true (by rw [List.map_append,List.length_append,List.map_singleton,List.length_singleton]; omega)) ?_
   have hhF:here∈F:=hW.sub here (by simp)
   have hhK:=hW.inn here hhF
   rw [List.length_append,List.length_singleton] at hm
   refine ⟨fun σ' H'=>∃ m',m' < m∧∃ (F W:List Str) (z5 z6:Option V),σ'=[some (.ref q),some (.ref d),some (.str (bg e.1)),some (.ref fd),some (.ref wl),z5,z6]∧Same H1 H'∧H' fd=some (.dK (bD F))∧H' wl=some (.lst (W.map V.str))∧Wk es (bg e.1) ks F W∧(∀ x∈F,x∉W→∀ y,Adj es x y→y∈F)∧m'=2 * (ks.length - F.length) + W.length∧m'≤2 * ks.length,fun _ _ z=>z,?_⟩
   refine ⟨_,rfl,.inl ⟨rfl,_,SqL.of hwl4⟩,wl,_,V.str here,rfl,rfl,hwl4,by rw [List.map_append,List.map_singleton]; simp,?_⟩
   rw [show ((r0 ++ [here]).map V.str).dropLast=r0.map V.str by rw [List.map_append,List.map_singleton,List.dropLast_concat]]
   have s5:Same H1 (upd H4 wl (.lst (r0.map V.str))):=shW _ s4
   have hwl5:(upd H4 wl (.lst (r0.map V.str))) wl=some (.lst (r0.map V.str)):=Zc
   have hfd5:(upd H4 wl (.lst (r0.map V.str))) fd=some (.dK (bD F)):=by rw [Zi (Ne.symm hne)]; exact hfd4
   generalize upd H4 wl (.lst (r0.map V.str))=H5 at s5 hwl5 hfd5
   refine ⟨_,rfl,_,rfl,d,.ref (adr here),rfl,.inl ⟨_,Sum.inr here,.inl (s5 _ _ J.dd),rfl,by rw [Zej,if_pos hhK]⟩,adr here,rfl,⟨_,SqL.of (s5 _ _ (J.row here hhK))⟩,?_⟩
   refine ZeP (K:=K) (a:=adr here) (xs:=(r here).map V.str) (fun j σ' H'=>∃ (F W:List Str) (z6:Option V),σ'=[some (.ref q),some (.ref d),some (.str (bg e.1)),some (.ref fd),some (.ref wl),some (.str here),z6]∧Same H1 H'∧H' fd=some (.dK (bD F))∧H' wl=some (.lst (W.map V.str))∧Wk es (bg e.1) ks F W∧(∀ x∈F,x∉W→x≠here→∀ y,Adj es x y→y∈F)∧(∀ y∈(r here).take j,y∈F)∧2 * (ks.length - F.length) + W.length + 1≤m)
    ⟨F,r0,z6,rfl,s5,hfd5,hwl5,⟨hW.nd,hW.fst,hW.rch,fun x hx=>hW.sub x (List.mem_append_left _ hx),hW.inn⟩,fun x hx h1 h2=>hcl x hx (fun z=>by rcases List.mem_append.mp z with z | z; exact h1 z; exact h2 (List.mem_singleton.mp z)),(fun y hy=>by rw [List.take_zero] at hy; cases hy),by omega⟩
    (fun i σ' H' _ ⟨_,_,_,_,s6,_⟩=>SqL.of (s6 _ _ (J.row here hhK))) ?_ ?_
   ·rintro j x σ' H6 hj ⟨F6,W6,z6',rfl,s6,hfd6,hwl6,hW6,hcl6,hin6,hm6⟩
    rw [List.getElem?_map] at hj
    obtain ⟨y,hy,rfl⟩:=Option.map_eq_some_iff.mp hj
    have hya:Adj es here y:=(hadj here y).mp (List.mem_of_getElem? hy)
    have hyK:y∈ks:=by
     obtain ⟨e',he',q'⟩:=hya
     rcases q' with ⟨_,q'⟩ | ⟨_,q'⟩
     ·exact (hk.mem y).mpr ⟨e',he',.inr q'⟩
     ·exact (hk.mem y).mpr ⟨e',he',.inl q'⟩
    have htk:(r here).take (j + 1)=(r here).take j ++ [y]:=by
     rw [List.take_add_one,hy]
     rfl
    have hle6:=hW6.le
    refine ⟨_,rfl,_,rfl,fd,valV (bD F6) (Sum.inr y),rfl,.inl ⟨_,Sum.inr y,.inl hfd6,rfl,rfl⟩,?_⟩
    rw [Zkz]
    by_cases c:y∈F6
    ·rw [if_pos c]
     refine ⟨_,rfl,Zao rfl ⟨F6,W6,_,rfl,s6,hfd6,hwl6,hW6,hcl6,fun y' hy'=>?_,hm6⟩⟩
     rw [htk] at hy'
     rcases List.mem_append.mp hy' with z | z
     ·exact hin6 y' z
     ·rw [List.mem_singleton.mp z]
      exact c
    ·rw [if_neg c]
     have hW7:Wk es (bg e.1) ks (F6 ++ [y]) (W6 ++ [y]):=⟨List.nodup_append.mpr ⟨hW6.nd,by simp,fun a ha b hb e=>by rw [List.mem_singleton.mp hb] at e; subst e; exact c ha⟩,List.mem_append_left _ hW6.fst,(fun x hx=>by
       rcases List.mem_append.mp hx with z | z
       ·exact hW6.rch x z
       ·rw [List.mem_singleton.mp z]; exact .step (hW.rch here hhF) hya),(fun x hx=>by
       rcases List.mem_append.mp hx with z | z
       ·exact List.mem_append_left _ (hW6.sub x z)
       ·rw [List.mem_singleton.mp z]; simp),fun x hx=>by
       rcases List.mem_append.mp hx with z | z
       ·exact hW6.inn x z
       ·rw [List.mem_singleton.mp z]; exact hyK⟩
     have hlt:F6.length + 1≤ks.length:=by
      have:=hW7.le
      rw [List.length_append,List.length_singleton] at this
      exact this
     refine ⟨_,rfl,ZbP rfl ⟨_,rfl,_,rfl,fd,_,rfl,DPut.k (k:=Sum.inr y) hfd6 (by rw [ZeZ]; exact ZK (by omega)),?_⟩⟩
     rw [Zik,show Xc F6 y=F6 ++ [y] by unfold Xc; rw [if_neg c]]
     have s7:Same H1 (upd H6 fd (.dK (bD (F6 ++ [y])))):=shF _ s6
     have hfd7:(upd H6 fd (.dK (bD (F6 ++ [y])))) fd=some (.dK (bD (F6 ++ [y]))):=Zc
     have hwl7:(upd H6 fd (.dK (bD (F6 ++ [y])))) wl=some (.lst (W6.map V.str)):=by rw [Zi hne]; exact hwl6
     generalize upd H6 fd (.dK (bD (F6 ++ [y])))=H7 at s7 hfd7 hwl7
     refine ⟨_,rfl,.inl ⟨rfl,_,SqL.of hwl7⟩,_,rfl,wl,_,.str y,rfl,rfl,hwl7,by rw [List.length_map]; exact ZK (by omega),?_⟩
     refine ⟨F6 ++ [y],W6 ++ [y],_,rfl,shW _ s7,by rw [Zi (Ne.symm hne)]; exact hfd7,by rw [Zc,List.map_append,List.map_singleton],hW7,fun x hx hxw hxh y' hy'=>?_,fun y' hy'=>?_,by rw [List.length_append,List.length_append,List.length_singleton]; omega⟩
     ·rcases List.mem_append.mp hx with z | z
      ·exact List.mem_append_left _ (hcl6 x z (fun q=>hxw (List.mem_append_left _ q)) hxh y' hy')
      ·exact absurd (List.mem_append_right _ z) hxw
     ·rw [htk] at hy'
      rcases List.mem_append.mp hy' with z | z
      ·exact List.mem_append_left _ (hin6 y' z)
      ·exact List.mem_append_right _ z
   ·rintro σ' H6 ⟨F6,W6,z6',rfl,s6,hfd6,hwl6,hW6,hcl6,hin6,hm6⟩
    rw [List.length_map,List.take_length] at hin6
    refine ⟨_,?_,F6,W6,_,_,rfl,s6,hfd6,hwl6,hW6,fun x hx hxw y hxy=>?_,rfl,?_⟩
    ·omega
    ·by_cases c:x=here
     ·subst c
      exact hin6 y ((hadj x y).mpr hxy)
     ·exact hcl6 x hx hxw c y hxy
    ·omega
  ·rintro σ H4 ⟨F,z5,z6,rfl,s4,hfd4,hW,hcl⟩
   have hle:=hW.le
   refine ⟨_,rfl,fd,F,fun _=>.bl true,rfl,hfd4,hW.nd,by omega,fun p ss hp hpm hsrt=>?_⟩
   refine ⟨p,_,rfl,.inl ⟨SqL.of Zc,fun l hl=>?_⟩⟩
   refine k (.ref l) _ ss (((J.sm.trans s4).trans (Zb hp)).trans (Zb hl)) ⟨l,rfl,Zc⟩ (Zi9 (hpm.nodup_iff.mpr hW.nd) hsrt) (by rw [hpm.length_eq]; omega) fun x=>?_
   rw [hpm.mem_iff]
   exact ⟨hW.rch x,fun z=>Rch.closed hW.fst hcl z⟩
end
theorem Zlp {F:List Str}:∀ {ks:List Str},F.Nodup→(∀ x∈F,x∈ks)→F.length≤ks.length:=by
 induction F with
 | nil=>exact fun _ _=>Nat.zero_le _
 | cons x F ih =>
  intro ks h1 h2
  have nd':=List.nodup_cons.mp h1
  have hx:=h2 x (List.mem_cons_self ..)
  have:=ih (ks:=ks.erase x) nd'.2 fun y hy=>(List.mem_erase_of_ne (fun (q:y=x)=>nd'.1 (q ▸ hy))).mpr (h2 y (List.mem_cons_of_mem _ hy))
  rw [List.length_erase_of_mem hx] at this
  have hpos:0 < ks.length:=List.length_pos_of_mem hx
  rw [List.length_cons]
  omega
theorem ZmK {F ks:List Str} (h1:F.Nodup) (h2:∀ x∈F,x∈ks) (he:F.length=ks.length):∀ x∈ks,x∈F:=by
 intro x hx
 apply Classical.byContradiction
 intro hn
 have:=Zlp (ks:=ks.erase x) h1 fun y hy=>(List.mem_erase_of_ne (fun (q:y=x)=>hn (q ▸ hy))).mpr (h2 y hy)
 rw [List.length_erase_of_mem hx] at this
 have hpos:0 < ks.length:=List.length_pos_of_mem hx
 omega
theorem Zi2 {ss:List Str} (h:(ss.map fun x=>x.cps.toList).Pairwise (· < ·)):ss.Nodup:=by
 rw [List.pairwise_map] at h
 refine h.imp fun {a b} q e=>?_
 subst e
 exact List.lt_irrefl _ q
theorem Rch.pt {e:Str × Int} {es:Es} {x:Str} (h:Rch (e :: es) (bg e.1) x):∃ e'∈e :: es,bg e'.1=x∨en e'.1=x:=by
 cases h with
 | here=>exact ⟨e,by simp,.inl rfl⟩
 | step _ k =>
  obtain ⟨e',he,⟨_,q⟩ | ⟨_,q⟩⟩:=k
  ·exact ⟨e',he,.inr q⟩
  ·exact ⟨e',he,.inl q⟩
theorem Zjo {e:Str × Int} {es:Es} {ss pp:List Str} (n1:ss.Nodup) (h1:∀ x,x∈ss↔Rch (e :: es) (bg e.1) x) (n2:pp.Nodup) (h2:∀ x,x∈pp↔∃ e'∈e :: es,bg e'.1=x∨en e'.1=x) :
  ss.length=pp.length↔∀ e'∈e :: es,Rch (e :: es) (bg e.1) (bg e'.1):=by
 have sub:∀ x∈ss,x∈pp:=fun x hx=>(h2 x).mpr ((h1 x).mp hx).pt
 constructor
 ·intro he e' he'
  exact (h1 _).mp (ZmK n1 sub he _ ((h2 _).mpr ⟨e',he',.inl rfl⟩))
 ·intro h
  have:∀ x∈pp,x∈ss:=fun x hx=>by
   obtain ⟨e',he',q | q⟩:=(h2 x).mp hx
   ·rw [← q]
    exact (h1 _).mpr (h e' he')
   ·exact (h1 _).mpr (.step (h e' he') ⟨e',he',.inl ⟨rfl,q⟩⟩)
  have a:=Zlp n1 sub
  have b:=Zlp n2 this
  omega
section
variable {P:Program} {w:World} {K:PySem.W.Frag} {mg:Str→Option Value} {base:Heap}
abbrev ZgG:Stmt:=top 27
abbrev ZmO:List Str:=["H"]
theorem Zk2:Zk ZmO ["H"] (Zf ZgG):=⟨rfl,rfl,rfl,by decide +kernel,rfl,by decide +kernel,by decide +kernel⟩
def Zgm:Sp:=fun vs H Q _=>∃ (v:V) (e:Str × Int) (es:Es),vs=[v]∧HeapV H v (e :: es)∧Jt (e :: es)∧∀ H' (b:Bool),Same H H'→(b=true↔∀ e'∈e :: es,Rch (e :: es) (bg e.1) (bg e'.1))→Q (.bl b) H'
theorem Zi0 (D:HasDef K mg "hangs" ZgG ["H"]) (B:Blt mg) (g27_:FOk P w K mg base 3 "part_of" ["H"] ZjU) (g31_:FOk P w K mg base 3 "points_of" ["H"] Xy):FOk P w K mg base 4 "hangs" ["H"] Zgm:=by
 refine D.ok Zk2 (fun vs H Q E h=>?_) (fun f cdv A outer s H vs Q E hr h=>?_)
 ·obtain ⟨v,e,es,rfl,_⟩:=h
  rfl
 ·obtain ⟨v,e,es,rfl,hV,hF,k⟩:=h
  refine ⟨_,(Zh (Zm (Xk XH (Zp ZB rfl B.len Yw (Za (Zr g27_ hr (Za (pv 0) Ze)) Ze)) (Zp ZB rfl B.len Yw (Za (Zr g31_ hr (Za (pv 0) Ze)) Ze)) (Zw _)))),?_⟩
  refine ⟨_,rfl,v,e,es,rfl,hV,hF,fun v1 H1 ss s1 ht1 hs1 hl1 hm1=>?_⟩
  obtain ⟨q1,rfl,hq1⟩:=id ht1
  refine ⟨.ref q1,ss.length,rfl,.inr ⟨_,SqT.of hq1,by rw [List.length_map]⟩,_,rfl,v,e :: es,rfl,hV.same s1,hF,fun v2 H2 pp s2 ht2 hp2=>?_⟩
  obtain ⟨q2,rfl,hq2⟩:=id ht2
  refine ⟨.ref q2,pp.length,rfl,.inr ⟨_,SqT.of hq2,by rw [List.length_map]⟩,?_⟩
  refine ⟨rfl,k _ _ (s1.trans s2) ?_⟩
  rw [ZdE,← Zjo (Zi2 hs1) hm1 hp2.pts.nd hp2.pts.mem,beq_iff_eq]
  exact ⟨fun z=>by omega,fun z=>by rw [z]⟩
end
theorem ZoM {es:Es} {p:Str × Int→Bool}:es.filter p=((List.range es.length).filter fun i=>p (es.getD i ("",0))).map fun i=>es.getD i ("",0):=by
 have e:es=(List.range es.length).map fun i=>es.getD i ("",0):=by
  apply List.ext_getElem?
  intro i
  rw [List.getElem?_map]
  by_cases hi:i < es.length
  ·rw [List.getElem?_range hi,Option.map_some,List.getD_eq_getElem?_getD,List.getElem?_eq_getElem hi]
   rfl
  ·rw [List.getElem?_eq_none (by omega),List.getElem?_eq_none (by simp; omega)]
   rfl
 conv=>lhs; rw [e]
 rw [List.filter_map]
 rfl
theorem Zji {vs:List V} {es:Es} {p:Str × Int→Bool} {n:Nat} (hn:n=es.length) (hl:vs.length=((List.range n).filter fun i=>p (es.getD i ("",0))).length)
  (hR:∀ (j i:Nat) (v:V),((List.range n).filter fun i=>p (es.getD i ("",0)))[j]?=some i→vs[j]?=some v→v = .int (es.getD i ("",0)).2):vs=((es.filter p).map fun e=>e.2).map V.int:=by
 subst hn
 rw [ZoM]
 apply List.ext_getElem?
 intro j
 rw [List.getElem?_map,List.getElem?_map,List.getElem?_map]
 cases hj:((List.range es.length).filter fun i=>p (es.getD i ("",0)))[j]? with
 | none =>
  rw [List.getElem?_eq_none (by rw [hl]; exact List.getElem?_eq_none_iff.mp hj)]
  rfl
 | some i =>
  have hjv:j < vs.length:=by rw [hl]; exact (List.getElem?_eq_some_iff.mp hj).1
  rw [List.getElem?_eq_getElem hjv,hR j i vs[j] hj (List.getElem?_eq_getElem hjv)]
  rfl
theorem Zf7:∀ l:List Int,(∀ x∈l,0≤x∧x≤1000)→0≤l.sum∧l.sum≤1000 * l.length
 | [],_=>⟨Int.le_refl _,Int.le_refl _⟩
 | x :: l,h=>by
  have h1:=Zf7 l fun y hy=>h y (List.mem_cons_of_mem _ hy)
  have h2:=h x (List.mem_cons_self ..)
  rw [List.sum_cons,List.length_cons]
  omega
theorem Zja {es:Es} (hF:Jt es) (p:Str × Int→Bool):(∀ x∈(es.filter p).map fun e=>e.2,InLong x)∧∀ k,InLong (((es.filter p).map fun e=>e.2).take k).sum:=by
 have hb:∀ x∈(es.filter p).map fun e=>e.2,0≤x∧x≤1000:=fun x hx=>by
  obtain ⟨e,he,rfl⟩:=List.mem_map.mp hx
  exact hF.many e (List.mem_filter.mp he).1
 refine ⟨fun x hx=>?_,fun k=>?_⟩
 ·have:=hb x hx
  unfold InLong
  omega
 ·have h1:=Zf7 _ fun x hx=>hb x (List.mem_of_mem_take hx (i:=k))
  have h2:(((es.filter p).map fun e=>e.2).take k).length≤64:=by
   rw [List.length_take,List.length_map]
   have:=List.length_filter_le p es
   have:=hF.few
   omega
  unfold InLong
  omega
def ZaG (es:Es) (y:Str):Int:=((es.filter fun e=>decide (bg e.1=y)).map fun e=>e.2).sum
theorem dec_str {x y:Str}:decide (V.str x=V.str y)=decide (x=y):=by
 rw [Bool.eq_iff_iff]
 simp
section
variable {P:Program} {w:World} {K:PySem.W.Frag} {mg:Str→Option Value} {base:Heap}
abbrev Za2:Stmt:=top 16
abbrev Zhf:List Str:=["H","P"]
theorem ZiI:Zk Zhf ["H","P"] (Zf Za2):=⟨rfl,rfl,rfl,by decide +kernel,rfl,by decide +kernel,by decide +kernel⟩
def ZjV:Sp:=fun vs H Q _=>∃ (v:V) (es:Es) (y:Str),vs=[v,.str y]∧HeapV H v es∧Jt es∧∀ H',Same H H'→Q (.int (ZaG es y)) H'
theorem Zfl (D:HasDef K mg "outs_of" Za2 ["H","P"]) (B:Blt mg) (g6_:FOk P w K mg base 1 "begin_of" ["piece"] Zc5):FOk P w K mg base 2 "outs_of" ["H","P"] ZjV:=by
 refine D.ok ZiI (fun vs H Q E h=>?_) (fun f cdv A outer s H vs Q E hr h=>?_)
 ·obtain ⟨v,es,y,rfl,_⟩:=h
  rfl
 ·obtain ⟨v,es,y,rfl,⟨q,vs,rfl,hq,hpa⟩,hF,k⟩:=h
  refine ⟨_,(Zh (Zm (Zp (Zae rfl) rfl B.sum ZjA (Za (ZI (Zf Za2) Zhf ["piece","many"] [1] rfl (Yj (pv 0)) (fun _ _ _ _ _=>ZS 2 K rfl (Zo (Z6 0) (Zo (Z6 1) ZR))) (fun _ _ _ _ _=>Zbg (Zv XH (Zr g6_ hr (Za (pv 0) Ze)) (pv 2) (Zw _))) (fun _ _ _ _ _=>(pv 1))) Ze)))),?_⟩
  have hfew:=hF.few
  have hvl:=hpa.1
  refine ⟨_,rfl,q,rfl,⟨_,SqT.of hq⟩,Zdx vs.length (fun i=>vs.getD i .non) (fun i=>(fun e:Str × Int=>decide (bg e.1=y)) (es.getD i ("",0))) (fun i v _=>v = .int (es.getD i ("",0)).2) (Zs (by omega)) (fun _ _ _ _ _ r=>r) (ZaK (SqT.of hq)) ?_ ?_⟩
  ·intro i H3 Qt Qf hi hs ht hf
   have hie:i < es.length:=by omega
   obtain ⟨b,e1,e2⟩:=hpa.2 i es[i] (List.getElem?_eq_getElem hie)
   have ev:vs.getD i .non = .ref b:=by rw [List.getD_eq_getElem?_getD,e1]; rfl
   have ee:es.getD i ("",0)=es[i]:=by rw [List.getD_eq_getElem?_getD,List.getElem?_eq_getElem hie]; rfl
   obtain ⟨l1,l2⟩:=hF.long es[i] (List.getElem_mem hie)
   rw [ee] at ht hf
   rw [ev]
   refine ⟨b,_,rfl,SqT.of (hs _ _ e2),rfl,_,_,rfl,_,_,rfl,rfl,_,rfl,es[i].1,rfl,l1,l2,_,rfl,rfl,_,rfl,?_⟩
   rw [dec_str]
   by_cases c:bg es[i].1=y
   ·exact ZbP (decide_eq_true c) ⟨_,rfl,ht (decide_eq_true c) _ _ (Same.refl _) rfl⟩
   ·exact Zao (decide_eq_false c) (hf (decide_eq_false c) _ (Same.refl _))
  intro D2 vs2 H16 hl2 hR2 s16 hD2 hDl2
  rw [Zji (p:=fun e=>decide (bg e.1=y)) hvl hl2 hR2] at hDl2
  obtain ⟨o1,o2⟩:=Zja hF fun e=>decide (bg e.1=y)
  exact ⟨D2,_,rfl,SqL.of hDl2,o1,o2,k _ s16⟩
end
end Sh
namespace Sh
def ZZ (f:Nat→Nat):ZU:=fun r c=>(if c=r then 1 else 0) - (if c=f r then 1 else 0)
def ZcV (f:Nat→Nat) (p v:Nat):Nat→Nat:=fun r=>if r=p then v else f r
theorem JO (f:Nat→Nat) (p v:Nat):ZcV f p v p=v:=by unfold ZcV; rw [if_pos rfl]
theorem Zgv {f:Nat→Nat} {p v r:Nat} (h:r≠p):ZcV f p v r=f r:=by unfold ZcV; rw [if_neg h]
theorem Zgt (f:Nat→Nat) (p v u:Nat):ZcV (ZcV f p v) p u=ZcV f p u:=by
 funext r
 unfold ZcV
 split <;> rfl
theorem Zgu (f:Nat→Nat) (p:Nat):ZcV f p (f p)=f:=by
 funext r
 unfold ZcV
 split
 ·rename_i h; rw [h]
 ·rfl
theorem Zgs {n p:Nat} {f:Nat→Nat} (hp:p < n) (hq:f p < n) (hne:f p≠p):det n (ZZ (ZcV f p (f (f p))))=det n (ZZ f):=by
 have h:=Zh1 (n:=n) (f:=ZZ f) (p:=p) (q:=f p) 1 1 (fun e=>hne e.symm) hp hq
 rw [Int.one_mul] at h
 rw [← h]
 congr 1
 funext r c
 unfold Z0
 by_cases e:r=p
 ·subst e
  rw [if_pos rfl]
  unfold ZZ
  rw [JO]
  omega
 ·rw [if_neg e]
  unfold ZZ
  rw [Zgv e]
def itr (f:Nat→Nat):Nat→Nat→Nat
 | 0,x=>x
 | k + 1,x=>f (itr f k x)
theorem YN (f:Nat→Nat) (a:Nat):∀ (b x:Nat),itr f (a + b) x=itr f b (itr f a x)
 | 0,x=>rfl
 | b + 1,x=>by
  show f (itr f (a + b) x)=f (itr f b (itr f a x))
  rw [YN f a b x]
theorem X1 {n p:Nat} {f:Nat→Nat} (hp:p < n):∀ k:Nat,(∀ j,1≤j→j≤k→itr f j p < n∧itr f j p≠p)→det n (ZZ (ZcV f p (itr f (k + 1) p)))=det n (ZZ f)
 | 0,_=>by
  show det n (ZZ (ZcV f p (f p)))=_
  rw [Zgu]
 | k + 1,h=>by
  have ih:=X1 hp k fun j h1 h2=>h j h1 (by omega)
  obtain ⟨h1,h2⟩:=h (k + 1) (by omega) (Nat.le_refl _)
  rw [← ih]
  have:=Zgs (n:=n) (p:=p) (f:=ZcV f p (itr f (k + 1) p)) hp (by rw [JO]; exact h1) (by rw [JO]; exact h2)
  rw [JO,Zgv h2,Zgt] at this
  exact this
theorem ZfR {n p:Nat} {f:Nat→Nat} (hp:p < n) (e:f p=p):det n (ZZ f)=0:=by
 have h:=ZhX (n:=n) (f:=ZZ f) (p:=p) 0 hp
 rw [Int.zero_mul] at h
 rw [← h]
 congr 1
 funext r c
 unfold Z0
 by_cases q:r=p
 ·subst q
  rw [if_pos rfl]
  unfold ZZ
  rw [e]
  omega
 ·rw [if_neg q]
def gof (n:Nat) (f:Nat→Nat) (x:Nat):Nat:=if x < n then f x else x
theorem Zcz {n x:Nat} {f:Nat→Nat} (h:x < n):gof n f x=f x:=if_pos h
theorem ZlG {n x:Nat} {f:Nat→Nat} (h:¬ x < n):gof n f x=x:=if_neg h
theorem Zbx {n x:Nat} {f:Nat→Nat} (h:¬ x < n):∀ k,itr (gof n f) k x=x
 | 0=>rfl
 | k + 1=>by
  show gof n f (itr (gof n f) k x)=x
  rw [Zbx h k,ZlG h]
theorem Zjg {n x:Nat} {f:Nat→Nat} {a b:Nat} (hab:a≤b) (h:itr (gof n f) b x < n):itr (gof n f) a x < n:=by
 false_or_by_contra
 rename_i q
 obtain ⟨c,rfl⟩:∃ c,b=a + c:=⟨b - a,by omega⟩
 rw [YN,Zbx q] at h
 exact q h
theorem Zby {n x:Nat} {f:Nat→Nat}:∀ {k:Nat},(∀ j,j < k→itr (gof n f) j x < n)→itr (gof n f) k x=itr f k x
 | 0,_=>rfl
 | k + 1,h=>by
  have ih:=Zby (k:=k) fun j hj=>h j (by omega)
  show gof n f (itr (gof n f) k x)=f (itr f k x)
  rw [Zcz (h k (by omega)),ih]
def ZeC (n:Nat) (f:Nat→Nat):Prop:=∀ i,i < n→¬ itr (gof n f) n i < n
theorem Zkj {P:Nat→Prop}:∀ n,P n→∃ m,m≤n∧P m∧∀ k,k < m→¬ P k:=by
 intro n
 induction n using Nat.strongRecOn with
 | ind n ih =>
  intro p
  by_cases c:∃ k,k < n∧P k
  ·obtain ⟨k,k2,k3⟩:=c
   obtain ⟨m,m2,m3,m4⟩:=ih k k2 k3
   exact ⟨m,by omega,m3,m4⟩
  ·exact ⟨n,Nat.le_refl n,p,fun k k2 k3=>c ⟨k,k2,k3⟩⟩
theorem ZhZ {n j t:Nat} {f:Nat→Nat} (ht:1≤t) (hin:∀ k,k < t→itr f k j < n) (e:itr f t j=j):det n (ZZ f)=0:=by
 obtain ⟨m,m1,⟨m0,m2⟩,m3⟩:=Zkj (P:=fun k=>1≤k∧itr f k j=j) t ⟨ht,e⟩
 have hj:j < n:=hin 0 (by omega)
 obtain ⟨k,rfl⟩:∃ k,m=k + 1:=⟨m - 1,by omega⟩
 have h:=X1 (n:=n) (p:=j) (f:=f) hj k fun i h1 h2=>⟨hin i (by omega),fun q=>m3 i (by omega) ⟨h1,q⟩⟩
 rw [← h]
 exact ZfR hj (by rw [JO,m2])
theorem Zmv {n:Nat} (g:Nat→Nat) (h:∀ i,i≤n→g i < n):∃ a b,a < b∧b≤n∧g a=g b:=by
 false_or_by_contra
 rename_i no
 have nd:((List.range (n + 1)).map g).Nodup:=by
  rw [List.nodup_iff_pairwise_ne,List.pairwise_map]
  refine List.Pairwise.imp_of_mem ?_ List.pairwise_lt_range
  intro a b ha hb hab e
  have:=List.mem_range.mp hb
  exact no ⟨a,b,hab,by omega,e⟩
 have le:=XJ (B:=List.range n) nd fun x hx=>by
  obtain ⟨i,hi,rfl⟩:=List.mem_map.mp hx
  exact List.mem_range.mpr (h i (by have:=List.mem_range.mp hi; omega))
 rw [List.length_map,List.length_range,List.length_range] at le
 omega
theorem ZfE {n:Nat} {f:Nat→Nat} (h:¬ ZeC n f):det n (ZZ f)=0:=by
 obtain ⟨i,hi,hn⟩:∃ i,i < n∧itr (gof n f) n i < n:=by
  false_or_by_contra
  rename_i no
  exact h fun i hi q=>no ⟨i,hi,q⟩
 have hall:∀ k,k≤n→itr (gof n f) k i < n:=fun k hk=>Zjg hk hn
 obtain ⟨a,b,hab,hb,e⟩:=Zmv (fun k=>itr (gof n f) k i) hall
 have sm:∀ k,k≤n→itr (gof n f) k i=itr f k i:=fun k hk=>Zby fun j hj=>hall j (by omega)
 rw [sm a (by omega),sm b hb] at e
 refine ZhZ (n:=n) (f:=f) (j:=itr f a i) (t:=b - a) (by omega) (fun k hk=>?_) ?_
 ·rw [← YN,← sm (a + k) (by omega)]
  exact hall _ (by omega)
 ·rw [← YN,show a + (b - a)=b by omega,e]
def ZfI (n p:Nat) (f:Nat→Nat):Nat→Nat:=fun i=>if i < p then n else f i
theorem ZcM {n p:Nat} {f:Nat→Nat}:∀ (m x:Nat),¬ itr (gof n f) m x < n→∃ m',¬ itr (gof n (ZfI n p f)) m' x < n
 | 0,x,h=>⟨0,h⟩
 | m + 1,x,h=>by
  by_cases c:x < n
  ·by_cases q:x < p
   ·refine ⟨1,?_⟩
    show ¬ gof n (ZfI n p f) x < n
    rw [Zcz c]
    unfold ZfI
    rw [if_pos q]
    exact Nat.lt_irrefl n
   ·rw [show m + 1=1 + m by omega,YN] at h
    obtain ⟨m',hm⟩:=ZcM m _ h
    refine ⟨1 + m',?_⟩
    rw [YN]
    have e:itr (gof n (ZfI n p f)) 1 x=itr (gof n f) 1 x:=by
     show gof n (ZfI n p f) x=gof n f x
     rw [Zcz c,Zcz c]
     unfold ZfI
     rw [if_neg q]
    rw [e]
    exact hm
  ·exact ⟨0,c⟩
theorem ZhW {n p:Nat} {f:Nat→Nat} (hp:p < n) {m:Nat} (hm:¬ itr (gof n f) m p < n) (hr:∀ i,i < n→f i≤n):det n (ZZ (ZcV f p n))=det n (ZZ f):=by
 obtain ⟨t,_,t2,t3⟩:=Zkj (P:=fun k=>¬ itr (gof n f) k p < n) m hm
 have t0:t≠0:=fun q=>t2 (by rw [q]; exact hp)
 obtain ⟨k,rfl⟩:∃ k,t=k + 1:=⟨t - 1,by omega⟩
 have hin:∀ j,j < k + 1→itr (gof n f) j p < n:=fun j hj=>by
  false_or_by_contra
  rename_i q
  exact t3 j hj q
 have sm:∀ j,j≤k + 1→itr (gof n f) j p=itr f j p:=fun j hj=>Zby fun i hi=>hin i (by omega)
 have h:=X1 (n:=n) (p:=p) (f:=f) hp k fun j h1 h2=>⟨by rw [← sm j (by omega)]; exact hin j (by omega),fun q=>?_⟩
 ·have hout:itr f (k + 1) p=n:=by
   have h1:¬ itr f (k + 1) p < n:=by rw [← sm (k + 1) (Nat.le_refl _)]; exact t2
   have h2:itr f (k + 1) p≤n:=hr _ (by rw [← sm k (by omega)]; exact hin k (by omega))
   omega
  rw [hout] at h
  exact h
 ·have q':itr (gof n f) j p=p:=by rw [sm j (by omega)]; exact q
  have:∀ c,itr (gof n f) (c * j) p=p:=fun c=>by
   induction c with
   | zero=>rw [Nat.zero_mul]; rfl
   | succ c ih=>rw [Nat.succ_mul,YN,ih,q']
  have h3:=this (k + 1)
  have h4:itr (gof n f) ((k + 1) * j) p=itr (gof n f) (k + 1) p:=by
   have hle:k + 1≤(k + 1) * j:=Nat.le_mul_of_pos_right _ (by omega)
   rw [show (k + 1) * j=(k + 1) + ((k + 1) * j - (k + 1)) by omega,YN,Zbx t2]
  rw [h3] at h4
  exact t2 (by rw [← h4]; exact hp)
theorem ZhY {n:Nat} {f:Nat→Nat} (hr:∀ i,i < n→f i≤n) (h:ZeC n f):det n (ZZ f)=1:=by
 have key:∀ p,p≤n→det n (ZZ (ZfI n p f))=det n (ZZ f):=by
  intro p
  induction p with
  | zero =>
   intro _
   congr 2
  | succ p ih =>
   intro hp
   rw [← ih (by omega)]
   obtain ⟨m,hm⟩:=ZcM (p:=p) n p (h p (by omega))
   have:=ZhW (n:=n) (p:=p) (f:=ZfI n p f) (by omega) hm fun i hi=>by
    unfold ZfI
    split
    ·exact Nat.le_refl _
    ·exact hr i hi
   rw [← this]
   congr 2
   funext i
   unfold ZfI ZcV
   by_cases e:i=p
   ·subst e
    rw [if_pos (by omega),if_pos rfl]
   ·rw [if_neg e]
    by_cases q:i < p
    ·rw [if_pos (by omega)]
     exact (if_pos q).symm
    ·rw [if_neg (by omega)]
     exact (if_neg q).symm
 rw [← key n (Nat.le_refl n)]
 have e1:det n (ZZ (ZfI n n f))=det n fun r c=>if c=r then 1 else 0:=Z7 fun r hr c hc=>by
  unfold ZZ ZfI
  rw [if_pos hr,if_neg (Nat.ne_of_lt hc)]
  omega
 rw [e1,ZcJ fun k j hj=>by rw [if_neg (by omega)]]
 have:(Xj n fun i=>if i=i then (1:Int) else 0)=Xj n fun _=>1:=JV fun i _=>if_pos rfl
 rw [this,Zb7]
abbrev Tie:=Nat × Int
def Zk5 (n r:Nat) (ts:List Tie):Nat→Int:=fun c=>(ts.map fun t=>t.2 * ((if c=r then 1 else 0) - (if c=t.1 then 1 else 0))).sum
def Y6 (n:Nat) (T:Nat→List Tie) (ch:List Nat):ZU:=fun r=>if r < ch.length then ZZ (fun i=>ch.getD i n) r else Zk5 n r (T r)
noncomputable def ZA (n:Nat) (T:Nat→List Tie):Nat→List Nat→Int
 | 0,ch=>by
  classical
  exact if ZeC n (fun i=>ch.getD i n) then 1 else 0
 | k + 1,ch=>((T ch.length).map fun t=>t.2 * ZA n T k (ch ++ [t.1])).sum
theorem ZbC {n:Nat} (F:ZU) {p:Nat} (hp:p < n) (u:Nat→Nat→Int):∀ ts:List Tie,det n (Z0 F p fun c=>(ts.map fun t=>t.2 * u t.1 c).sum)=(ts.map fun t=>t.2 * det n (Z0 F p (u t.1))).sum
 | []=>by
  rw [List.map_nil,List.sum_nil]
  have h:=ZhX (n:=n) (f:=Z0 F p fun _=>0) (p:=p) 0 hp
  rw [Int.zero_mul] at h
  rw [← h,Zgx]
  congr 1
  congr 1
  funext c
  rw [Int.zero_mul]
  rfl
 | t :: ts=>by
  rw [List.map_cons,List.sum_cons,← ZbC F hp u ts]
  have h:=YQ F (p:=p) t.2 1 (u t.1) (fun c=>(ts.map fun t=>t.2 * u t.1 c).sum) hp
  rw [Int.one_mul] at h
  rw [← h]
  congr 2
  funext c
  rw [List.map_cons,List.sum_cons,Int.one_mul]
theorem Xw {n:Nat} {T:Nat→List Tie} (hT:∀ r t,t∈T r→t.1≤n):∀ (k:Nat) (ch:List Nat),ch.length + k=n→(∀ x∈ch,x≤n)→ZA n T k ch=det n (Y6 n T ch)
 | 0,ch,hl,hc=>by
  have e:det n (Y6 n T ch)=det n (ZZ fun i=>ch.getD i n):=Z7 fun r hr c _=>by
   unfold Y6
   rw [if_pos (by omega)]
  rw [e]
  have hle:∀ i,i < n→ch.getD i n≤n:=fun i hi=>by
   rw [List.getD_eq_getElem?_getD,List.getElem?_eq_getElem (by omega)]
   exact hc _ (List.getElem_mem _)
  unfold ZA
  by_cases q:ZeC n fun i=>ch.getD i n
  ·rw [if_pos q,ZhY hle q]
  ·rw [if_neg q,ZfE q]
 | k + 1,ch,hl,hc=>by
  have hp:ch.length < n:=by omega
  unfold ZA
  have ih:∀ t∈T ch.length,ZA n T k (ch ++ [t.1])=det n (Y6 n T (ch ++ [t.1])):=fun t ht=>Xw hT k _ (by rw [List.length_append,List.length_singleton]; omega) fun x hx=>by
   rcases List.mem_append.mp hx with q | q
   ·exact hc x q
   ·rw [List.mem_singleton.mp q]
    exact hT _ _ ht
  have e1:((T ch.length).map fun t=>t.2 * ZA n T k (ch ++ [t.1])).sum=((T ch.length).map fun t=>t.2 * det n (Z0 (Y6 n T ch) ch.length fun c=>(if c=ch.length then 1 else 0) - (if c=t.1 then 1 else 0))).sum:=by
   congr 1
   refine List.map_congr_left fun t ht=>?_
   rw [ih t ht]
   congr 2
   funext r c
   have hlen:(ch ++ [t.1]).length=ch.length + 1:=by rw [List.length_append,List.length_singleton]
   have hlast:(ch ++ [t.1]).getD ch.length n=t.1:=by
    rw [List.getD_eq_getElem?_getD,List.getElem?_append_right (Nat.le_refl _),Nat.sub_self]
    rfl
   have unit_cg:∀ {f g:Nat→Nat} {r:Nat},f r=g r→ZZ f r c=ZZ g r c:=fun {f g r} e=>by
    unfold ZZ
    rw [e]
   by_cases e:r=ch.length
   ·subst e
    have h1:Y6 n T (ch ++ [t.1]) ch.length=ZZ (fun i=>(ch ++ [t.1]).getD i n) ch.length:=if_pos (by rw [hlen]; omega)
    have h2:Z0 (Y6 n T ch) ch.length (fun c=>(if c=ch.length then 1 else 0) - (if c=t.1 then 1 else 0)) ch.length=fun c=>(if c=ch.length then 1 else 0) - (if c=t.1 then 1 else 0):=Z2
    rw [h1,h2]
    exact unit_cg (g:=fun _=>t.1) hlast
   ·have h2:Z0 (Y6 n T ch) ch.length (fun c=>(if c=ch.length then 1 else 0) - (if c=t.1 then 1 else 0)) r=Y6 n T ch r:=Yd e
    rw [h2]
    by_cases q:r < ch.length
    ·have h1:Y6 n T (ch ++ [t.1]) r=ZZ (fun i=>(ch ++ [t.1]).getD i n) r:=if_pos (by rw [hlen]; omega)
     have h3:Y6 n T ch r=ZZ (fun i=>ch.getD i n) r:=if_pos q
     rw [h1,h3]
     refine unit_cg ?_
     show (ch ++ [t.1]).getD r n=ch.getD r n
     rw [List.getD_eq_getElem?_getD,List.getD_eq_getElem?_getD,List.getElem?_append_left q]
    ·have h1:Y6 n T (ch ++ [t.1]) r=Zk5 n r (T r):=if_neg (by rw [hlen]; omega)
     have h3:Y6 n T ch r=Zk5 n r (T r):=if_neg q
     rw [h1,h3]
  rw [e1,← ZbC (Y6 n T ch) hp (fun v c=>(if c=ch.length then 1 else 0) - (if c=v then 1 else 0))]
  congr 1
  have:(fun c=>((T ch.length).map fun t=>t.2 * ((if c=ch.length then (1:Int) else 0) - (if c=t.1 then 1 else 0))).sum)=Y6 n T ch ch.length:=by
   unfold Y6
   rw [if_neg (Nat.lt_irrefl _)]
   rfl
  rw [this,Yc]
end Sh
namespace L2
open PySem PySem.Spec PyProof.Rows
theorem ZcA {X:Cx}:Zos X (fun o i H Q=>∃ p xs,∃ k:Nat,∃ z,o = .ref p∧i = .int k∧H p=some (.lst xs)∧xs[k]?=some z∧Q z H):=by
 intro pins s σ H o i ov iv Q I ro ri h
 obtain ⟨p,xs,k,z,rfl,rfl,hp,hz,q⟩:=h
 cases ro
 obtain ⟨t,rfl⟩:=ri
 obtain ⟨its,n,r,ho,hl⟩:=I.lst hp
 obtain ⟨w,ew,rw'⟩:=r.get hz
 have hlen:=r.length
 have hn:=J7
 have hk:=(List.getElem?_eq_some_iff.mp hz).1
 exact wpAny_getItem_list ⟨_,ho,rfl,n,rfl⟩ (by omega) (by omega) (by simpa using ew) ⟨z,H,I,rw',q⟩
end L2
namespace Sh
open PySem L2 PyProof.Rows
seal L2.PE L2.PS L2.PSs L2.PT L2.PW L2.PA L2.PI L2.PG L2.PGs L2.PO L2.PC L2.PCs L2.OpR L2.UnR L2.CallR L2.MtR L2.IxR L2.SlR
def othL (ss:List Str) (r:Str):List Str:=ss.filter fun x=>decide (x≠r)
def ixD (os:List Str):List (Key × V):=gD os fun x=>(os.idxOf x:Int)
theorem ZlB {os:List Str} {x:Str} (h:x∉os):YI (ixD os) (Sum.inr x) (.int (os.length:Int))=ixD (os ++ [x]):=by
 unfold ixD
 rw [ZhO,if_neg h]
 refine ZeN fun y hy=>?_
 by_cases e:y=x
 ·rw [if_pos e,e,List.idxOf_append,if_neg h]
  simp
 ·rw [if_neg e]
  rcases List.mem_append.mp hy with q | q
  ·rw [List.idxOf_append,if_pos q]
  ·exact absurd (List.mem_singleton.mp q) e
theorem Zko (os:List Str) (x:Str):valV (ixD os) (Sum.inr x)=if x∈os then some (.int (os.idxOf x:Int)) else none:=ZhN _ _ _
def Z1 (os:List Str) (es:Es) (r:Nat):List Tie:=(es.filter fun e=>decide (os.idxOf (bg e.1)=r)).map fun e=>(os.idxOf (en e.1),e.2)
def Jh (os:List Str) (es:Es):ZU:=fun r=>Zk5 os.length r (Z1 os es r)
def Zaj (n:Nat) (f:Nat→Int):List Int:=(List.range n).map f
theorem YY (n:Nat) (f:Nat→Int):(Zaj n f).length=n:=by unfold Zaj; simp
theorem YZ {n:Nat} {f:Nat→Int} {j:Nat} (h:j < n):((Zaj n f).map V.int)[j]?=some (V.int (f j)):=by
 unfold Zaj
 rw [List.getElem?_map,List.getElem?_map,List.getElem?_range h]
 rfl
theorem Zeh {n:Nat} {f:Nat→Int} {j:Nat} (m:Int):((Zaj n f).map V.int).set j (V.int (f j + m))=(Zaj n fun c=>f c + if c=j then m else 0).map V.int:=by
 apply List.ext_getElem?
 intro i
 rw [List.getElem?_set]
 by_cases h:i < n
 ·by_cases e:j=i
  ·subst e
   rw [if_pos rfl,if_pos (by rw [List.length_map,YY]; exact h),YZ h,if_pos rfl]
  ·rw [if_neg e,YZ h,YZ h,if_neg (Ne.symm e),Int.add_zero]
 ·have h1:∀ g:Nat→Int,((Zaj n g).map V.int)[i]?=none:=fun g=>List.getElem?_eq_none (by rw [List.length_map,YY]; omega)
  rw [h1,h1]
  split
  ·rw [if_neg (by rw [List.length_map,YY]; omega)]
  ·rfl
theorem Jv (os:List Str) (es:Es) (e:Str × Int) (r c:Nat):Jh os (es ++ [e]) r c=Jh os es r c + if r=os.idxOf (bg e.1) then e.2 * ((if c=r then 1 else 0) - (if c=os.idxOf (en e.1) then 1 else 0)) else 0:=by
 unfold Jh Zk5 Z1
 rw [List.filter_append,List.map_append,List.map_append,List.sum_append]
 congr 1
 by_cases h:os.idxOf (bg e.1)=r
 ·rw [if_pos h.symm]
  simp [h]
 ·rw [if_neg (Ne.symm h)]
  simp [h]
section
variable {P:Program} {w:World} {K:PySem.W.Frag} {mg:Str→Option Value} {base:Heap}
abbrev Xh:Stmt:=top 32
abbrev Zdq:List Str:=["H","root","numbers","point"]
theorem scRowNumbers:Zk Zdq ["H","root"] (Zf Xh):=⟨rfl,rfl,rfl,by decide +kernel,rfl,by decide +kernel,by decide +kernel⟩
def ZjT:Sp:=fun vs H Q _=>∃ (v:V) (es:Es) (r:Str),vs=[v,.str r]∧HeapV H v es∧Jt es∧∀ d H' ss,Same H H'→SPts es ss→H' d=some (.dK (ixD (othL ss r)))→Q (.ref d) H'
theorem Zal (D:HasDef K mg "row_numbers" Xh ["H","root"]) (B:Blt mg) (g31_:FOk P w K mg base 2 "points_of" ["H"] Xy):FOk P w K mg base 3 "row_numbers" ["H","root"] ZjT:=by
 refine D.ok scRowNumbers (fun vs H Q E h=>?_) (fun f cdv A outer s H vs Q E hr h=>?_)
 ·obtain ⟨v,es,r,rfl,_⟩:=h
  rfl
 ·obtain ⟨v,es,r,rfl,hV,hF,k⟩:=h
  have hu:=Zcy hr
  refine ⟨_,(Zd (Zl (i:=2) scRowNumbers.nd rfl (.inl rfl) Yk)
   (Zd (Yf PassesOwn.never rfl (Yj (Zr g31_ hr (Za (pv 0) Ze))) (Zy (i:=3) scRowNumbers.nd rfl (.inl rfl))
    (Zh (Ym (Zv Zfh (pv 3) (pv 1) (Zw _)) (Zh (YJ hu (pv 2) (pv 3) (Zp ZcQ rfl B.len Yw (Za (pv 2) Ze)) rfl)) ZC)))
   (Zh (Zm (pv 2))))),?_⟩
  intro d hd
  have s0:=Zb (o:=.dK []) hd
  have hd0:(upd H d (.dK [])) d=some (.dK []):=Zc
  generalize upd H d (.dK [])=H0 at s0 hd0
  refine ⟨_,rfl,v,es,rfl,hV.same s0,hF,fun v' H1 ss s1 hT hS=>?_⟩
  obtain ⟨q,rfl,hq⟩:=hT
  have hd1:=s1 _ _ hd0
  have hnd:=hS.pts.nd
  have hsl:=hS.pts.len
  have hfew:=hF.few
  refine ⟨q,rfl,⟨_,SqT.of hq⟩,Xq (K:=K) (a:=q) (xs:=ss.map V.str) (fun i σ H2=>(∃ z3:Option V,σ=[some v,some (.str r),some (.ref d),z3])∧Same H H2∧H2 q=some (.tup (ss.map V.str))∧H2 d=some (.dK (ixD (othL (ss.take i) r))))
   ⟨⟨none,rfl⟩,s0.trans s1,hq,hd1⟩ (fun i σ H2 _ ⟨_,_,hq2,_⟩=>SqT.of hq2) ?_ ?_⟩
  ·rintro i x σ H2 hi ⟨⟨z3,rfl⟩,s2,hq2,hd2⟩
   have hi':i < ss.length:=by
    have:=(List.getElem?_eq_some_iff.mp hi).1
    rw [List.length_map] at this
    exact this
   have ex:x=V.str ss[i]:=by
    rw [List.getElem?_map,List.getElem?_eq_getElem hi'] at hi
    exact (Option.some.inj hi).symm
   subst ex
   have etk:ss.take (i + 1)=ss.take i ++ [ss[i]]:=List.take_succ_eq_append_getElem hi'
   refine ⟨_,rfl,_,rfl,rfl,_,rfl,?_⟩
   by_cases c:ss[i]=r
   ·refine Zao (by rw [c]; simp) ⟨⟨_,rfl⟩,s2,hq2,?_⟩
    rw [hd2,etk]
    unfold othL
    rw [List.filter_append]
    simp [c]
   ·refine ZbP (by simp [c]) ?_
    have hnin:ss[i]∉othL (ss.take i) r:=fun q=>by
     unfold othL at q
     have h1:=(List.mem_filter.mp q).1
     have h2:(ss.take (i + 1)).Nodup:=hnd.sublist (List.take_sublist _ _)
     rw [etk,List.nodup_append] at h2
     exact h2.2.2 _ h1 _ (List.mem_singleton.mpr rfl) rfl
    refine ⟨_,rfl,d,_,rfl,hd2,_,rfl,_,rfl,d,_,rfl,DPut.k (k:=Sum.inr ss[i]) hd2 ?_,?_⟩
    ·unfold ixD
     rw [ZcB]
     have:(othL (ss.take i) r).length≤(ss.take i).length:=List.length_filter_le _ _
     rw [List.length_take] at this
     exact Nat.lt_of_lt_of_le (show (othL (ss.take i) r).length < 1002 by omega) (Zt (by decide))
    refine ⟨⟨_,rfl⟩,fun b o e=>?_,?_,?_⟩
    ·rw [Zi (Zj e hd)]
     exact s2 b o e
    ·rw [Zi fun z=>by rw [z,hd2] at hq2; cases hq2]
     exact hq2
    ·rw [Zc]
     unfold ixD
     rw [ZcB]
     have:=ZlB hnin
     unfold ixD at this
     rw [this,etk]
     unfold othL
     rw [List.filter_append]
     simp [c]
  ·rintro σ H2 ⟨⟨z3,rfl⟩,s2,hq2,hd2⟩
   rw [List.length_map,List.take_of_length_le (Nat.le_refl _)] at hd2
   exact ⟨_,rfl,k d H2 ss s2 hS hd2⟩
end
end Sh
namespace L2
open PySem PySem.Spec PyProof.Rows
theorem Zif {X:Cx}:CallR X (.builtin "len") (fun xs H Q=>∃ a kvs,xs=[V.ref a]∧Rd H a (.dK kvs)∧Q (.int kvs.length) H):=by
 intro pins s σ H xs us Q I r h
 obtain ⟨a,kvs,rfl,ha,q⟩:=h
 obtain ⟨u,rfl,ru⟩:=Xu r
 cases ru
 exact Zna I ha fun t s' I'=>⟨.int kvs.length,H,I',⟨t,rfl⟩,q⟩
end L2
namespace Sh
open PySem L2 PyProof.Rows
seal L2.PE L2.PS L2.PSs L2.PT L2.PW L2.PA L2.PI L2.PG L2.PGs L2.PO L2.PC L2.PCs L2.OpR L2.UnR L2.CallR L2.MtR L2.IxR L2.SlR
def ZfZ (os:List Str) (es:Es):Mat:=(List.range os.length).map fun r=>Zaj os.length (Jh os es r)
theorem ZdW {os:List Str} {es:Es} {r:Nat} (h:r < os.length):(ZfZ os es).getD r []=Zaj os.length (Jh os es r):=by
 unfold ZfZ
 rw [List.getD_eq_getElem?_getD,List.getElem?_map,List.getElem?_range h]
 rfl
structure RowsI (H:Hp) (pr:Addr) (as:List Addr) (os:List Str) (es:Es):Prop where
 tab:H pr=some (.lst (as.map V.ref))
 len:as.length=os.length
 nd:as.Nodup
 row:∀ r a,as[r]?=some a→a≠pr∧H a=some (.lst ((Zaj os.length (Jh os es r)).map V.int))
theorem Zjr (n:Nat) (x:V):(List.replicate n [x]).flatten=List.replicate n x:=by
 induction n with
 | zero=>rfl
 | succ n ih=>rw [List.replicate_succ,List.flatten_cons,ih,List.replicate_succ]; rfl
theorem ZfK (os:List Str) (r:Nat):List.replicate os.length (V.int 0)=(Zaj os.length (Jh os [] r)).map V.int:=by
 apply List.ext_getElem?
 intro i
 rw [List.getElem?_replicate]
 by_cases h:i < os.length
 ·rw [if_pos h,YZ h]
  rfl
 ·rw [if_neg h,List.getElem?_eq_none (by rw [List.length_map,YY]; omega)]
theorem Zni (x m:Int) (p q:Prop) [Decidable p] [Decidable q]:x + (if p then m else 0) + (if q then -m else 0)=x + m * ((if p then 1 else 0) - (if q then 1 else 0)):=by
 by_cases hp:p <;> by_cases hq:q <;> simp [hp,hq] <;> omega
theorem ZhB {n j:Nat} (h:j < n):ixN n (j:Int)=some j:=by
 unfold ixN
 rw [if_pos (by omega),if_pos (by omega)]
 rfl
theorem Zdd {n:Nat} {f g:Nat→Int} (h:∀ c,c < n→f c=g c):Zaj n f=Zaj n g:=List.map_congr_left fun c hc=>h c (List.mem_range.mp hc)
theorem RowsI.upd {H:Hp} {pr a:Addr} {as:List Addr} {os:List Str} {es es':Es} {r0:Nat} {f:Nat→Int} (h:RowsI H pr as os es) (ha:as[r0]?=some a) (hf:∀ c,c < os.length→f c=Jh os es' r0 c) (ho:∀ r,r < os.length→r≠r0→∀ c,c < os.length→Jh os es r c=Jh os es' r c) :
  RowsI (upd H a (.lst ((Zaj os.length f).map V.int))) pr as os es':=by
 have hr0:=(List.getElem?_eq_some_iff.mp ha).1
 refine ⟨?_,h.len,h.nd,fun r b e=>?_⟩
 ·rw [Zi (Ne.symm (h.row r0 a ha).1)]
  exact h.tab
 ·obtain ⟨e1,e2⟩:=h.row r b e
  refine ⟨e1,?_⟩
  have hr:=(List.getElem?_eq_some_iff.mp e).1
  by_cases c:r=r0
  ·subst c
   rw [e] at ha
   cases ha
   rw [Zc,Zdd hf]
  ·have hne:b≠a:=fun q=>by
    subst q
    have x1:=(List.getElem?_eq_some_iff.mp e).2
    have x2:=(List.getElem?_eq_some_iff.mp ha).2
    exact c ((List.getElem_inj h.nd).mp (x1.trans x2.symm))
   rw [Zi hne,e2,Zdd (ho r (by rw [← h.len]; exact hr) c)]
theorem RowsI.on {H H':Hp} {pr:Addr} {as:List Addr} {os:List Str} {es es':Es} (h:RowsI H pr as os es) (s:Same H H') (ho:∀ r,r < os.length→∀ c,c < os.length→Jh os es r c=Jh os es' r c):RowsI H' pr as os es' :=
 ⟨s _ _ h.tab,h.len,h.nd,fun r a e=>by
  obtain ⟨e1,e2⟩:=h.row r a e
  have hr:=(List.getElem?_eq_some_iff.mp e).1
  refine ⟨e1,s _ _ ?_⟩
  rw [e2,Zdd (ho r (by rw [← h.len]; exact hr))]⟩
section
variable {P:Program} {w:World} {K:PySem.W.Frag} {mg:Str→Option Value} {base:Heap}
abbrev Yr:Stmt:=top 33
abbrev X9:List Str:=["H","root","numbers","rows","piece","many","here","there"]
theorem scTreeTable:Zk X9 ["H","root"] (Zf Yr):=⟨rfl,rfl,rfl,by decide +kernel,rfl,by decide +kernel,by decide +kernel⟩
def Zgi:Sp:=fun vs H Q _=>∃ (v:V) (es:Es) (r:Str),vs=[v,.str r]∧HeapV H v es∧Jt es∧∀ t H' ts ss,Same H H'→SPts es ss→H' t=some (.tup (ts.map V.ref))→RowsT H' ts (ZfZ (othL ss r) es)→Q (.ref t) H'
theorem Zbj (D:HasDef K mg "tree_table" Yr ["H","root"]) (B:Blt mg) (g32_:FOk P w K mg base 3 "row_numbers" ["H","root"] ZjT) (g6_:FOk P w K mg base 3 "begin_of" ["piece"] Zc5) (g12_:FOk P w K mg base 3 "end_of" ["piece"] Zgp):FOk P w K mg base 4 "tree_table" ["H","root"] Zgi:=by
 refine D.ok scTreeTable (fun vs H Q E h=>?_) (fun f cdv A outer s H vs Q E hr h=>?_)
 ·obtain ⟨v,es,r,rfl,_⟩:=h
  rfl
 ·obtain ⟨v,es,r,rfl,hV,hF,k⟩:=h
  have hu:=Zcy hr
  refine ⟨_,(Zd (Zl (i:=2) scTreeTable.nd rfl (.inr rfl) (Zr g32_ hr (Za (pv 0) (Za (pv 1) Ze))))
   (Zd (Zmt (JB (i:=3) (Zf Yr) X9 ["point"] [2] scTreeTable.nd rfl (.inl rfl) rfl (Zlc (pv 2)) (fun _ _ _ _ _=>Z6 0) (fun _ _ _ _ _=>ZX) (fun _ _ _ _ _=>(Zq ZmE (ZaF (Za Zg Ze)) (Zp Zif rfl B.len Yw (Za (pv 1) Ze))))))
   (Zd (Yf PassesOwn.never rfl (Yj (pv 0)) (ZS 2 K rfl (Zo (Zy (i:=4) scTreeTable.nd rfl (.inl rfl)) (Zo (Zy (i:=5) scTreeTable.nd rfl (.inl rfl)) ZR)))
    (Zd (Zl (i:=6) scTreeTable.nd rfl (.inl rfl) (Zeq hu (pv 2) (Zr g6_ hr (Za (pv 4) Ze)) ⟨rfl,rfl,rfl,rfl⟩))
   (Zd (Zl (i:=7) scTreeTable.nd rfl (.inl rfl) (Zeq hu (pv 2) (Zr g12_ hr (Za (pv 4) Ze)) ⟨rfl,rfl,rfl,rfl⟩))
   (Zh (Ym (Zv Zg2 (pv 6) ZaE (Zw _)) (Zd (ZgQ (ZV ZN (pv 3) (pv 6) (fun _ _=>rfl)) (pv 6) ZcA (pv 5) Zm3 Zee)
   (Zh (Ym (Zv Zg2 (pv 7) ZaE (Zw _)) (Zh (ZgQ (ZV ZN (pv 3) (pv 6) (fun _ _=>rfl)) (pv 7) ZcA (pv 5) Zm2 Zee)) ZC))) ZC)))))
   (Zh (Zm (ZW ZF rfl B.tuple Xr (Za (ZI (Zf Yr) X9 ["row"] [] rfl (YK (pv 3)) (fun _ _ _ _ _=>Z6 0) (fun _ _ _ _ _=>ZX) (fun _ _ _ _ _=>(ZW (Zaq K) rfl B.tuple Xr (Za (pv 0) Ze)))) Ze))))))),?_⟩
  obtain ⟨q,vs,rfl,hq,hpa⟩:=hV
  have hvl:=hpa.1
  have hfew:=hF.few
  refine ⟨_,rfl,_,rfl,.ref q,es,r,rfl,⟨q,vs,rfl,hq,hpa⟩,hF,fun d H1 ss s1 hS hd1=>?_⟩
  have hol:(othL ss r).length≤128:=by
   have h1:(othL ss r).length≤ss.length:=List.length_filter_le _ _
   have h2:=hS.pts.len
   omega
  generalize hos:othL ss r=os at *
  have hkl:(ixD os).length=os.length:=ZcB _ _
  refine ⟨d,_,hd1,fun o=>⟨_,rfl,d,o,_,rfl,Zc,Zhx (ixD os).length (fun i=>((ixD os).map fun p=>kV p.1).getD i .non) (fun _=>List.replicate os.length (V.int 0)) (Zs (by omega)) (ZlA Zc) ?_ ?_⟩⟩
  ·intro i H3 Qe hi hs kq
   refine ⟨ZiW,fun p1 hp1=>?_⟩
   have s2:=Zb (o:=.lst [V.int 0]) hp1
   refine ⟨_,rfl,d,ixD os,rfl,.inr ⟨o,s2 _ _ (hs _ _ Zc)⟩,p1,_,_,rfl,rfl,Zc,by omega,by omega,?_,fun p2 hp2=>?_⟩
   ·rw [hkl]
    exact Zs (by simp; omega)
   refine kq p2 _ (s2.trans (Zb hp2)) (s2.free hp2) ?_
   rw [Zc,hkl,show ((os.length:Int)).toNat=os.length from rfl,Zjr]
  intro pr as H2 hal hnd hrow hs2 hpr hprl
  rw [hkl] at hal
  have hdf:H2 d=some (.frz o (.dK (ixD os))):=hs2 _ _ Zc
  refine ⟨hdf,?_⟩
  have npd:pr≠d:=fun z=>by rw [z,Zc] at hpr; cases hpr
  have nad:∀ (r:Nat) (a:Addr),as[r]?=some a→a≠d:=fun r a e z=>by
   have:=(hrow r a e).2.1
   rw [z,Zc] at this
   cases this
  have n1:∀ b,(upd H1 d (.frz o (.dK (ixD os)))) b=none→H1 b=none:=fun b z=>by
   by_cases e:b=d
   ·rw [e,Zc] at z
    cases z
   ·rw [Zi e] at z
    exact z
  have s3:Same H (upd H2 d (.dK (ixD os))):=fun b u e=>by
   by_cases z:b=d
   ·rw [z] at e ⊢
    rw [Zc,← hd1]
    exact s1 _ _ e
   ·rw [Zi z]
    refine hs2 _ _ ?_
    rw [Zi z]
    exact s1 _ _ e
  have hd3:(upd H2 d (.dK (ixD os))) d=some (.dK (ixD os)):=Zc
  have hR3:RowsI (upd H2 d (.dK (ixD os))) pr as os []:=by
   refine ⟨by rw [Zi npd]; exact hprl,hal,hnd,fun r a e=>⟨(hrow r a e).1,?_⟩⟩
   rw [Zi (nad r a e),(hrow r a e).2.2,ZfK os r]
  have Npr:H pr=none:=s1.free (n1 _ hpr)
  have Nas:∀ (r:Nat) (a:Addr),as[r]?=some a→H a=none:=fun r a e=>s1.free (n1 _ (hrow r a e).2.1)
  generalize upd H2 d (.dK (ixD os))=H3 at s3 hd3 hR3
  clear hdf hrow hprl hpr hs2 n1
  refine ⟨_,rfl,q,rfl,⟨_,SqT.of (s3 _ _ hq)⟩,Xq (K:=K) (a:=q) (xs:=vs) (fun i σ H4=>(∃ z4 z5 z6 z7:Option V,σ=[some (.ref q),some (.str r),some (.ref d),some (.ref pr),z4,z5,z6,z7])∧Same H H4∧H4 d=some (.dK (ixD os))∧RowsI H4 pr as os (es.take i))
   ⟨⟨none,none,none,none,rfl⟩,s3,hd3,hR3⟩ (fun i σ H4 _ ⟨_,s4,_⟩=>SqT.of (s4 _ _ hq)) ?_ ?_⟩
  ·rintro i x σ H4 hi ⟨⟨z4,z5,z6,z7,rfl⟩,s4,hd4,hR4⟩
   have hiv:i < vs.length:=(List.getElem?_eq_some_iff.mp hi).1
   have hie:i < es.length:=by rw [← hpa.1]; exact hiv
   obtain ⟨b,e1,e2⟩:=hpa.2 i es[i] (List.getElem?_eq_getElem hie)
   rw [hi] at e1
   cases e1
   obtain ⟨l1,l2⟩:=hF.long es[i] (List.getElem_mem hie)
   have het:es.take (i + 1)=es.take i ++ [es[i]]:=List.take_succ_eq_append_getElem hie
   have e2':=s4 _ _ e2
   rw [het]
   generalize es[i]=e at *
   generalize es.take i=et at *
   refine ⟨b,_,rfl,SqT.of e2',rfl,_,_,rfl,_,_,rfl,rfl,?_⟩
   refine ⟨_,rfl,d,rfl,.inl ⟨_,.inl hd4⟩,_,rfl,e.1,rfl,l1,l2,_,DGet.k (k:=Sum.inr (bg e.1)) hd4,?_⟩
   refine ⟨_,rfl,d,rfl,.inl ⟨_,.inl hd4⟩,_,rfl,e.1,rfl,l1,l2,_,DGet.k (k:=Sum.inr (en e.1)) hd4,?_⟩
   rw [Zko,Zko]
   refine ⟨_,rfl,rfl,_,rfl,?_⟩
   by_cases hb:bg e.1∈os
   rotate_left
   ·rw [if_neg hb]
    refine Zao (by simp) ⟨⟨_,_,_,_,rfl⟩,s4,hd4,hR4.on (Same.refl _) fun r hr c hc=>?_⟩
    rw [Jv,if_neg (by rw [List.idxOf_eq_length hb]; omega),Int.add_zero]
   rw [if_pos hb]
   refine ZbP (by simp) ?_
   have hb0:os.idxOf (bg e.1) < os.length:=List.idxOf_lt_length_iff.mpr hb
   obtain ⟨hb1,hidx⟩:∃ n,os.idxOf (bg e.1)=n:=⟨_,rfl⟩
   rw [hidx] at hb0 ⊢
   have hba:hb1 < as.length:=by rw [hal]; exact hb0
   have ha:=List.getElem?_eq_getElem hba
   generalize as[hb1]=a at ha
   obtain ⟨nap,hrow4⟩:=hR4.row hb1 a ha
   have hatr:atI (as.map V.ref) (hb1:Int)=some (.ref a):=by
    unfold atI
    rw [List.length_map,ZhB hba]
    show (as.map V.ref)[hb1]?=_
    rw [List.getElem?_map,ha]
    rfl
   have hlenr:∀ f:Nat→Int,((Zaj os.length f).map V.int).length=os.length:=fun f=>by rw [List.length_map,YY]
   refine ⟨_,rfl,_,rfl,pr,_,_,_,rfl,rfl,SqL.of hR4.tab,hatr,_,rfl,a,_,hb1,_,rfl,rfl,hrow4,YZ hb0,_,rfl,_,_,rfl,rfl,a,_,_,hb1,rfl,rfl,hrow4,by rw [hlenr]; exact ZhB hb0,?_⟩
   rw [Zeh]
   have s5:Same H (upd H4 a (.lst ((Zaj os.length fun c=>Jh os et hb1 c + if c=hb1 then e.2 else 0).map V.int))):=fun c u q=>by
    rw [Zi (Zj q (Nas hb1 a ha))]
    exact s4 _ _ q
   have nda:d≠a:=fun z=>by rw [z,hrow4] at hd4; cases hd4
   have hd5:(upd H4 a (.lst ((Zaj os.length fun c=>Jh os et hb1 c + if c=hb1 then e.2 else 0).map V.int))) d=some (.dK (ixD os)):=by rw [Zi nda]; exact hd4
   have hpr5:(upd H4 a (.lst ((Zaj os.length fun c=>Jh os et hb1 c + if c=hb1 then e.2 else 0).map V.int))) pr=some (.lst (as.map V.ref)):=by rw [Zi (Ne.symm nap)]; exact hR4.tab
   have hoth:∀ r,r < os.length→r≠hb1→∀ c,c < os.length→Jh os et r c=Jh os (et ++ [e]) r c:=fun r _ hr c _=>by
    rw [Jv,if_neg (by rw [hidx]; exact hr),Int.add_zero]
   refine ⟨_,rfl,rfl,_,rfl,?_⟩
   by_cases ht:en e.1∈os
   rotate_left
   ·rw [if_neg ht]
    refine Zao (by simp) ⟨⟨_,_,_,_,rfl⟩,s5,hd5,hR4.upd ha (fun c hc=>?_) hoth⟩
    rw [Jv,hidx,if_pos (rfl:hb1=hb1),List.idxOf_eq_length ht,if_neg (show ¬ c=os.length by omega)]
    by_cases z:c=hb1 <;> simp [z]
   rw [if_pos ht]
   refine ZbP (by simp) ?_
   have ht0:os.idxOf (en e.1) < os.length:=List.idxOf_lt_length_iff.mpr ht
   obtain ⟨ht1,hidt⟩:∃ n,os.idxOf (en e.1)=n:=⟨_,rfl⟩
   rw [hidt] at ht0 ⊢
   have hrow5:(upd H4 a (.lst ((Zaj os.length fun c=>Jh os et hb1 c + if c=hb1 then e.2 else 0).map V.int))) a=_:=Zc
   refine ⟨_,rfl,_,rfl,pr,_,_,_,rfl,rfl,SqL.of hpr5,hatr,_,rfl,a,_,ht1,_,rfl,rfl,hrow5,YZ ht0,_,rfl,_,_,rfl,rfl,a,_,_,ht1,rfl,rfl,hrow5,by rw [hlenr]; exact ZhB ht0,?_⟩
   dsimp only
   rw [Int.sub_eq_add_neg,Zeh,JI]
   refine ⟨⟨_,_,_,_,rfl⟩,fun c u q=>?_,?_,hR4.upd ha (fun c hc=>?_) hoth⟩
   ·rw [Zi (Zj q (Nas hb1 a ha))]
    exact s4 _ _ q
   ·rw [Zi nda]
    exact hd4
   ·rw [Jv,hidx,if_pos (rfl:hb1=hb1),hidt]
    exact Zni _ _ _ _
  ·rintro σ H4 ⟨⟨z4,z5,z6,z7,rfl⟩,s4,hd4,hR4⟩
   rw [hpa.1,List.take_of_length_le (Nat.le_refl _)] at hR4
   refine ⟨_,rfl,pr,rfl,⟨_,SqL.of hR4.tab⟩,Xa as.length (fun i=>(as.map V.ref).getD i .non) (fun i v H=>∃ a,v=V.ref a∧H a=some (.tup (((ZfZ os es).getD i []).map V.int))) (Zs (by omega)) (fun i v H H' ts ⟨b,e,q⟩=>⟨b,e,ts _ _ q⟩) (by have:=Ja (K:=K) (SqL.of hR4.tab); rw [List.length_map] at this; exact this) ?_ ?_⟩
   ·intro i H5 Qe hi hs kq
    rw [Yv hi]
    have hrw:=(hR4.row i _ (List.getElem?_eq_getElem hi)).2
    rw [← ZdW (by rw [← hal]; exact hi)] at hrw
    exact ⟨_,rfl,_,_,rfl,.inl ⟨SqL.of (hs _ _ hrw),fun l hl=>kq _ _ (Zb hl) ⟨l,rfl,Zc⟩⟩⟩
   intro D1 vs1 H5 hl1 hr3 hs3 hD1 hDl1
   obtain ⟨ts,ets,hts⟩:=ZgM vs1 _ hr3
   refine ⟨D1,vs1,rfl,.inl ⟨SqL.of hDl1,fun t ht=>?_⟩⟩
   have s6:=Zb (o:=.tup vs1) ht
   have htt:(upd H5 t (.tup vs1)) t=some (.tup (ts.map V.ref)):=by rw [Zc,ets]
   subst hos
   refine k t _ ts ss ((s4.trans hs3).trans s6) hS htt ⟨?_,fun i b e=>s6 _ _ (hts i b e)⟩
   have h1:ts.length=vs1.length:=by rw [ets,List.length_map]
   rw [h1,hl1,hal]
   unfold ZfZ
   simp
end
theorem ZjO {g:Tie→Int}:∀ ts:List Tie,(∀ t∈ts,(g t).natAbs≤2000)→((ts.map g).sum).natAbs≤2000 * ts.length
 | [],_=>by simp
 | t :: ts,h=>by
  have ih:=ZjO ts fun u hu=>h u (List.mem_cons_of_mem _ hu)
  have h1:=h t List.mem_cons_self
  rw [List.map_cons,List.sum_cons,List.length_cons]
  have:=Int.natAbs_add_le (g t) ((ts.map g).sum)
  omega
theorem Zl7 {os:List Str} {es:Es} (hF:Jt es) (r c:Nat):Sm 120 (Jh os es r c):=by
 have h:(Jh os es r c).natAbs≤2000 * (Z1 os es r).length:=by
  unfold Jh Zk5
  refine ZjO _ fun t ht=>?_
  unfold Z1 at ht
  obtain ⟨e,he,rfl⟩:=List.mem_map.mp ht
  have hm:=hF.many e (List.mem_filter.mp he).1
  dsimp only
  split <;> split <;> simp <;> omega
 have hl:(Z1 os es r).length≤es.length:=by
  unfold Z1
  rw [List.length_map]
  exact List.length_filter_le _ _
 have hf:=hF.few
 have:(Jh os es r c).natAbs≤128000:=by omega
 exact Nat.lt_of_le_of_lt this (by decide)
theorem ZkP (os:List Str) (es:Es):det os.length (Zkh (ZfZ os es))=ZA os.length (Z1 os es) os.length []:=by
 rw [Xw (T:=Z1 os es) (fun r t ht=>?_) os.length [] (by simp) (fun x hx=>by cases hx)]
 ·refine Z7 fun r hr c hc=>?_
  unfold Zkh
  rw [ZdW hr]
  unfold Zaj
  rw [List.getD_eq_getElem?_getD,List.getElem?_map,List.getElem?_range hc]
  rfl
 ·unfold Z1 at ht
  obtain ⟨e,_,rfl⟩:=List.mem_map.mp ht
  exact List.idxOf_le_length
section
variable {P:Program} {w:World} {K:PySem.W.Frag} {mg:Str→Option Value} {base:Heap}
abbrev Za0:Stmt:=top 34
abbrev Zi3:List Str:=["H","root"]
theorem Zgz:Zk Zi3 ["H","root"] (Zf Za0):=⟨rfl,rfl,rfl,by decide +kernel,rfl,by decide +kernel,by decide +kernel⟩
noncomputable def YC (os:List Str) (es:Es):Int:=ZA os.length (Z1 os es) os.length []
def Zgh:Sp:=fun vs H Q _=>∃ (v:V) (es:Es) (r:Str),vs=[v,.str r]∧HeapV H v es∧Jt es∧(∀ ss,SPts es ss→(othL ss r).length≤31)∧∀ H' ss,Same H H'→SPts es ss→Q (.int (YC (othL ss r) es)) H'
theorem Zdj (D:HasDef K mg "trees_of" Za0 ["H","root"]) (B:Blt mg) (g36_:FOk P w K mg base 4 "tree_table" ["H","root"] Zgi) (g39_:FOk P w K mg base 4 "worth_of" ["table"] Zb0):FOk P w K mg base 5 "trees_of" ["H","root"] Zgh:=by
 refine D.ok Zgz (fun vs H Q E h=>?_) (fun f cdv A outer s H vs Q E hr h=>?_)
 ·obtain ⟨v,es,r,rfl,_⟩:=h
  rfl
 ·obtain ⟨v,es,r,rfl,hV,hF,hn,k⟩:=h
  refine ⟨_,(Zh (Zm (Zr g39_ hr (Za (Zr g36_ hr (Za (pv 0) (Za (pv 1) Ze))) Ze)))),?_⟩
  refine ⟨_,rfl,_,rfl,v,es,r,rfl,hV,hF,fun t H1 ts ss s1 hS ht hR=>?_⟩
  have hq:Sq (othL ss r).length (ZfZ (othL ss r) es):=by
   refine ⟨by unfold ZfZ; simp,fun row hrow=>?_⟩
   unfold ZfZ at hrow
   obtain ⟨i,_,rfl⟩:=List.mem_map.mp hrow
   exact YY _ _
  have hm:SmM 120 (ZfZ (othL ss r) es):=fun row hrow x hx=>by
   unfold ZfZ at hrow
   obtain ⟨i,_,rfl⟩:=List.mem_map.mp hrow
   unfold Zaj at hx
   obtain ⟨c,_,rfl⟩:=List.mem_map.mp hx
   exact Zl7 hF i c
  refine ⟨t,ts,_,_,_,rfl,ht,hR,ZlK (hn ss hS) hq hm,hn ss hS,fun H2 s2=>?_⟩
  rw [ZkP]
  exact k H2 ss (s1.trans s2) hS
end
theorem range_getD {α:Type} (l:List α) (d:α):(List.range l.length).map (fun i=>l.getD i d)=l:=by
 apply List.ext_getElem?
 intro i
 rw [List.getElem?_map]
 by_cases h:i < l.length
 ·rw [List.getElem?_range h,List.getElem?_eq_getElem h]
  show some (l.getD i d)=_
  rw [List.getD_eq_getElem?_getD,List.getElem?_eq_getElem h]
  rfl
 ·rw [List.getElem?_eq_none (by rw [List.length_range]; omega),List.getElem?_eq_none (by omega)]
  rfl
section
variable {P:Program} {w:World} {K:PySem.W.Frag} {mg:Str→Option Value} {base:Heap}
end
section
variable {P:Program} {w:World} {K:PySem.W.Frag} {mg:Str→Option Value} {base:Heap} {S C A1 A2 A3 A4 A5 A6 A7 A8:Addr}
end
section
variable {P:Program} {w:World} {K:PySem.W.Frag} {mg:Str→Option Value} {base:Heap}
end
def SB (D:Addr) (H H':Hp):Prop:=∀ b u,b≠D→H b=some u→H' b=some u
theorem SB.refl (D:Addr) (H:Hp):SB D H H:=fun _ _ _ e=>e
theorem SB.trans {D:Addr} {H H1 H2:Hp} (a:SB D H H1) (b:SB D H1 H2):SB D H H2:=fun c u hc e=>b c u hc (a c u hc e)
theorem SB.upd {D:Addr} {H:Hp} {o:HO}:SB D H (upd H D o):=fun b u hb e=>by rw [Zi hb]; exact e
def DK (H:Hp) (D:Addr) (n:Nat):Prop:=∃ ns:List Int,H D=some (.lst (ns.map V.int))∧n≤ns.length∧∀ x∈ns,0≤x∧x < 10 ^ 18
theorem DK.same {H H':Hp} {D:Addr} {n:Nat} (h:DK H D n) (s:Same H H'):DK H' D n:=by
 obtain ⟨ns,e,r⟩:=h
 exact ⟨ns,s _ _ e,r⟩
section
variable {P:Program} {w:World} {K:PySem.W.Frag} {mg:Str→Option Value} {base:Heap}
end
theorem cut_to {ns:List Int} {m:Nat}:ZeW (ns.map V.int) none (some (m:Int))=(ns.take m).map V.int:=by
 unfold ZeW
 rw [HT.sIx_none,HT.sIx_nat,List.drop_zero,Nat.sub_zero,List.map_take,List.length_map]
 apply List.ext_getElem?
 intro i
 rw [List.getElem?_take,List.getElem?_take]
 by_cases h:i < m
 ·rw [if_pos h]
  by_cases h2:i < ns.length
  ·rw [if_pos (by omega)]
  ·rw [if_neg (by omega),List.getElem?_eq_none (by rw [List.length_map]; omega)]
 ·rw [if_neg h,if_neg (by omega)]
section
variable {P:Program} {w:World} {K:PySem.W.Frag} {mg:Str→Option Value} {base:Heap}
end
theorem ZeM {H:Hp} {v:V} {hp:List Pr} (h:HpAt H v hp):HeapV H v hp:=by
 obtain ⟨a,xs,e,ha,hl,r⟩:=h
 refine ⟨a,xs,e,ha,hl,fun i p q=>?_⟩
 obtain ⟨b,eb,hb⟩:=r i p q
 have hi:i < xs.length:=by rw [hl]; exact (List.getElem?_eq_some_iff.mp q).1
 rw [List.getD_eq_getElem?_getD,List.getElem?_eq_getElem hi] at eb
 exact ⟨b,by rw [List.getElem?_eq_getElem hi]; exact congrArg some eb,hb⟩
theorem ZeL {ps:List Str} {hp:List Pr} (h:ZJ ps hp):hp.length≤ps.length:=by
 have nd:(hp.map (·.1)).Nodup:=by
  rw [List.nodup_iff_pairwise_ne,List.pairwise_map]
  refine List.Pairwise.imp ?_ (List.pairwise_map.mp h.srt)
  intro x y hxy e
  rw [e] at hxy
  exact List.lt_irrefl _ hxy
 have:=XJ nd fun x hx=>(h.mem x).mp hx
 rw [List.length_map] at this
 exact this
end Sh
namespace Sh
open PySem L2 PyProof.Rows
def fc:Nat→Nat
 | 0=>1
 | n + 1=>(n + 1) * fc n
theorem Zkr:∀ n,0 < fc n
 | 0=>Nat.one_pos
 | n + 1=>Nat.mul_pos (Nat.succ_pos n) (Zkr n)
theorem ZcF:∀ s a b,a + b=s→fc a * fc b ∣ fc (a + b)
 | 0,a,b,h=>by
  have:a=0∧b=0:=by omega
  obtain ⟨rfl,rfl⟩:=this
  exact ⟨1,rfl⟩
 | s + 1,0,b,h=>by rw [Nat.zero_add]; exact ⟨1,by show fc b=1 * fc b * 1; omega⟩
 | s + 1,a + 1,0,h=>⟨1,by show fc (a + 1)=fc (a + 1) * 1 * 1; omega⟩
 | s + 1,a + 1,b + 1,h=>by
  have h1:=ZcF s a (b + 1) (by omega)
  have h2:=ZcF s (a + 1) b (by omega)
  have e:fc (a + 1 + (b + 1))=(a + 1) * fc (a + (b + 1)) + (b + 1) * fc (a + 1 + b):=by
   have e1:a + 1 + (b + 1)=(a + b + 1) + 1:=by omega
   have e2:a + (b + 1)=a + b + 1:=by omega
   have e3:a + 1 + b=a + b + 1:=by omega
   rw [e1,e2,e3]
   show (a + b + 1 + 1) * fc (a + b + 1)=_
   rw [← Nat.add_mul]
   congr 1
   omega
  rw [e]
  refine Nat.dvd_add ?_ ?_
  ·show (a + 1) * fc a * fc (b + 1) ∣ _
   rw [Nat.mul_assoc]
   exact Nat.mul_dvd_mul_left _ h1
  ·show fc (a + 1) * ((b + 1) * fc b) ∣ _
   rw [Nat.mul_left_comm]
   exact Nat.mul_dvd_mul_left _ h2
def ZgR (ms:List Nat):Nat:=ms.foldr (fun m p=>fc m * p) 1
theorem X7 (m:Nat) (ms:List Nat):ZgR (m :: ms)=fc m * ZgR ms:=rfl
theorem Za8:∀ ms:List Nat,ZgR ms ∣ fc ms.sum
 | []=>⟨1,rfl⟩
 | m :: ms=>by
  rw [X7,List.sum_cons]
  exact Nat.dvd_trans (Nat.mul_dvd_mul_left _ (Za8 ms)) (ZcF _ _ _ rfl)
theorem Zhw:∀ (ms:List Nat) (m:Nat),m∈ms→m≤ms.sum
 | [],m,h=>by cases h
 | n :: ms,m,h=>by
  rw [List.sum_cons]
  rcases List.mem_cons.mp h with e | e
  ·omega
  ·have:=Zhw ms m e
   omega
theorem Zb6:∀ (ms:List Nat) (m:Nat),m∈ms→ZgR ms ∣ m * fc (ms.sum - 1)
 | [],m,h=>by cases h
 | n :: ms,m,h=>by
  rw [X7,List.sum_cons]
  cases m with
  | zero=>rw [Nat.zero_mul]; exact Nat.dvd_zero _
  | succ k =>
  rcases List.mem_cons.mp h with e | e
  ·subst e
   show (k + 1) * fc k * _ ∣ _
   rw [Nat.mul_assoc,show k + 1 + ms.sum - 1=k + ms.sum by omega]
   exact Nat.mul_dvd_mul_left _ (Nat.dvd_trans (Nat.mul_dvd_mul_left _ (Za8 ms)) (ZcF _ _ _ rfl))
  ·have h1:=Zb6 ms (k + 1) e
   have hs:k + 1≤ms.sum:=Zhw ms _ e
   rw [show n + ms.sum - 1=n + (ms.sum - 1) by omega]
   refine Nat.dvd_trans (Nat.mul_dvd_mul_left _ h1) ?_
   rw [Nat.mul_left_comm]
   exact Nat.mul_dvd_mul_left _ (ZcF _ _ _ rfl)
def fI (x:Int):Int:=(fc x.toNat:Int)
theorem ZcG (x:Int):1≤fI x:=by
 have:=Zkr x.toNat
 unfold fI
 omega
def prI (l:List Int):Int:=l.foldr (fun a b=>a * b) 1
theorem Zbb:prI []=1:=rfl
theorem Zu (a:Int) (l:List Int):prI (a :: l)=a * prI l:=rfl
theorem Zbc:∀ a b:List Int,prI (a ++ b)=prI a * prI b
 | [],b=>by rw [List.nil_append,Zbb,Int.one_mul]
 | x :: a,b=>by rw [List.cons_append,Zu,Zu,Zbc a b,Int.mul_assoc]
theorem ZgU:∀ l:List Int,(ZgR (l.map Int.toNat):Int)=prI (l.map fI)
 | []=>rfl
 | x :: l=>by
  rw [List.map_cons,List.map_cons,X7,Zu,← ZgU l,Int.natCast_mul]
  rfl
theorem Yq:∀ l:List Int,(∀ x∈l,0≤x)→(l.map Int.toNat).sum=l.sum.toNat∧0≤l.sum
 | [],_=>⟨rfl,Int.le_refl _⟩
 | x :: l,h=>by
  obtain ⟨e,p⟩:=Yq l fun y hy=>h y (List.mem_cons_of_mem _ hy)
  have hx:=h x List.mem_cons_self
  rw [List.map_cons,List.sum_cons,List.sum_cons,e]
  omega
theorem ZlP {l:List Int} (h:∀ x∈l,0≤x):prI (l.map fI) ∣ fI l.sum:=by
 have:=Za8 (l.map Int.toNat)
 rw [(Yq l h).1] at this
 rw [← ZgU]
 exact Int.natCast_dvd_natCast.mpr this
theorem ZlO {l:List Int} (h:∀ x∈l,0≤x) {m:Int} (hm:m∈l):prI (l.map fI) ∣ m * fI (l.sum - 1):=by
 have:=Zb6 (l.map Int.toNat) m.toNat (List.mem_map.mpr ⟨m,hm,rfl⟩)
 rw [(Yq l h).1] at this
 rw [← ZgU]
 have h2:=Int.natCast_dvd_natCast.mpr this
 rw [Int.natCast_mul,Int.toNat_of_nonneg (h m hm)] at h2
 have e:fI (l.sum - 1)=(fc (l.sum.toNat - 1):Int):=by
  unfold fI
  congr 2
  omega
 rw [e]
 exact h2
theorem Zc2 {d:Int}:∀ l:List Int,(∀ x∈l,d ∣ x)→d ∣ l.sum
 | [],_=>Int.dvd_zero _
 | x :: l,h=>by
  rw [List.sum_cons]
  exact Int.dvd_add (h x List.mem_cons_self) (Zc2 l fun y hy=>h y (List.mem_cons_of_mem _ hy))
theorem Jw (c:Int):∀ l:List Int,l.sum * c=(l.map fun x=>x * c).sum
 | []=>by simp
 | x :: l=>by rw [List.sum_cons,List.map_cons,List.sum_cons,Int.add_mul,Jw c l]
theorem ZbW {n:Nat} {T:Nat→List Tie} (G A:Nat→Int) (h:∀ i,i < n→∀ t∈T i,G i ∣ t.2 * A i):∀ (k:Nat) (ch:List Nat),ch.length + k=n→prI ((List.range' ch.length k).map G) ∣ ZA n T k ch * prI ((List.range' ch.length k).map A)
 | 0,ch,_=>⟨ZA n T 0 ch,by show _ * 1=1 * _; rw [Int.mul_one,Int.one_mul]⟩
 | k + 1,ch,hl=>by
  unfold ZA
  rw [show List.range' ch.length (k + 1)=ch.length :: List.range' (ch.length + 1) k from rfl,List.map_cons,List.map_cons,Zu,Zu,Jw,List.map_map]
  refine Zc2 _ fun x hx=>?_
  obtain ⟨t,ht,rfl⟩:=List.mem_map.mp hx
  have ih:=ZbW G A h k (ch ++ [t.1]) (by rw [List.length_append,List.length_singleton]; omega)
  rw [List.length_append,List.length_singleton] at ih
  have h1:=h ch.length (by omega) t ht
  have:=Int.mul_dvd_mul h1 ih
  show _ ∣ t.2 * ZA n T k (ch ++ [t.1]) * (A ch.length * prI _)
  have e:t.2 * ZA n T k (ch ++ [t.1]) * (A ch.length * prI ((List.range' (ch.length + 1) k).map A))=t.2 * A ch.length * (ZA n T k (ch ++ [t.1]) * prI ((List.range' (ch.length + 1) k).map A)):=by
   rw [Int.mul_assoc,Int.mul_assoc,Int.mul_left_comm (ZA n T k (ch ++ [t.1]))]
  rw [e]
  exact this
theorem Jg {n:Nat} {T:Nat→List Tie} (h:∀ i,∀ t∈T i,0≤t.2):∀ (k:Nat) (ch:List Nat),0≤ZA n T k ch
 | 0,ch=>by
  unfold ZA
  split <;> decide
 | k + 1,ch=>by
  unfold ZA
  have:∀ l:List Int,(∀ x∈l,0≤x)→0≤l.sum:=fun l hl=>(Yq l hl).2
  refine this _ fun x hx=>?_
  obtain ⟨t,ht,rfl⟩:=List.mem_map.mp hx
  exact Int.mul_nonneg (h _ t ht) (Jg h k _)
def gS (es:Es) (x:Str):Int:=prI ((es.filter fun e=>decide (bg e.1=x)).map fun e=>fI e.2)
theorem Zba {g:Str→Int}:∀ l:List Str,(∀ x∈l,g x=1)→prI (l.map g)=1
 | [],_=>rfl
 | x :: l,h=>by
  rw [List.map_cons,Zu,h x List.mem_cons_self,Zba l fun y hy=>h y (List.mem_cons_of_mem _ hy)]
  rfl
theorem Yi {g f:Str→Int} {y:Str} {c:Int}:∀ l:List Str,l.Nodup→y∈l→f y=c * g y→(∀ x∈l,x≠y→f x=g x)→prI (l.map f)=c * prI (l.map g)
 | [],_,h,_,_=>by cases h
 | x :: l,nd,h,hy,ho=>by
  obtain ⟨n1,n2⟩:=List.nodup_cons.mp nd
  rw [List.map_cons,List.map_cons,Zu,Zu]
  by_cases e:x=y
  ·subst e
   have:l.map f=l.map g:=List.map_congr_left fun z hz=>ho z (List.mem_cons_of_mem _ hz) fun q=>n1 (q ▸ hz)
   rw [hy,this,Int.mul_assoc]
  ·have hm:y∈l:=(List.mem_cons.mp h).resolve_left fun q=>e q.symm
   rw [ho x List.mem_cons_self e,Yi l n2 hm hy fun z hz=>ho z (List.mem_cons_of_mem _ hz),Int.mul_left_comm]
theorem Zcb {rs:List Str} (nd:rs.Nodup):∀ es:Es,(∀ e∈es,bg e.1∈rs)→prI (es.map fun e=>fI e.2)=prI (rs.map (gS es))
 | [],_=>(Zba rs fun x _=>rfl).symm
 | e :: es,h=>by
  rw [List.map_cons,Zu,Zcb nd es fun z hz=>h z (List.mem_cons_of_mem _ hz)]
  refine (Yi (y:=bg e.1) rs nd (h e List.mem_cons_self) ?_ fun x _ hx=>?_).symm
  ·unfold gS
   rw [List.filter_cons_of_pos (by simp),List.map_cons,Zu]
  ·unfold gS
   rw [List.filter_cons_of_neg (by simp; exact fun q=>hx q.symm)]
theorem Zdh {es:Es} (hF:Jt es) (y:Str):∀ x∈(es.filter fun e=>decide (bg e.1=y)).map fun e=>e.2,0≤x:=fun x hx=>by
 obtain ⟨e,he,rfl⟩:=List.mem_map.mp hx
 exact (hF.many e (List.mem_filter.mp he).1).1
theorem Zkp (es:Es) (y:Str):gS es y=prI (((es.filter fun e=>decide (bg e.1=y)).map fun e=>e.2).map fI):=by
 unfold gS
 rw [List.map_map]
 rfl
noncomputable def Zlj (ss:List Str) (es:Es) (r:Str):Int:=YC (othL ss r) es * fI (ZaG es r) * prI ((othL ss r).map fun x=>fI (ZaG es x - 1))
theorem Zli {es:Es} {ss:List Str} {r:Str} (hF:Jt es) (hS:SPts es ss):prI (es.map fun e=>fI e.2) ∣ Zlj ss es r:=by
 have nd0:(othL ss r).Nodup:=by unfold othL; exact hS.pts.nd.filter _
 have nr:r∉othL ss r:=by
  unfold othL
  intro q
  have:=(List.mem_filter.mp q).2
  simp at this
 have hb:∀ e∈es,bg e.1∈r :: othL ss r:=fun e he=>by
  have:=(hS.pts.mem (bg e.1)).mpr ⟨e,he,.inl rfl⟩
  by_cases c:bg e.1=r
  ·rw [c]; exact List.mem_cons_self
  ·refine List.mem_cons_of_mem _ ?_
   unfold othL
   exact List.mem_filter.mpr ⟨this,by simp [c]⟩
 rw [Zcb (rs:=r :: othL ss r) (List.nodup_cons.mpr ⟨nr,nd0⟩) es hb,List.map_cons,Zu]
 unfold Zlj
 have h1:gS es r ∣ fI (ZaG es r):=by
  rw [Zkp]
  exact ZlP (Zdh hF r)
 generalize othL ss r=os at *
 have h2:=ZbW (n:=os.length) (T:=Z1 os es) (fun i=>gS es (os.getD i "")) (fun i=>fI (ZaG es (os.getD i "") - 1)) (fun i hi t ht=>by
  unfold Z1 at ht
  obtain ⟨e,he,rfl⟩:=List.mem_map.mp ht
  obtain ⟨he1,he2⟩:=List.mem_filter.mp he
  have he3:os.idxOf (bg e.1)=i:=of_decide_eq_true he2
  have hin:bg e.1∈os:=List.idxOf_lt_length_iff.mp (by omega)
  have hat:os.getD i "" = bg e.1:=by
   rw [List.getD_eq_getElem?_getD,List.getElem?_eq_getElem hi]
   subst he3
   show os[os.idxOf (bg e.1)]=_
   exact List.getElem_idxOf hi
  dsimp only
  rw [hat,Zkp]
  exact ZlO (Zdh hF _) (List.mem_map.mpr ⟨e,List.mem_filter.mpr ⟨he1,by simp⟩,rfl⟩)) os.length [] (by simp)
 have e1:∀ g:Str→Int,(List.range' ([]:List Nat).length os.length).map (fun i=>g (os.getD i ""))=os.map g:=fun g=>by
  show (List.range' 0 os.length).map _=_
  rw [← List.range_eq_range']
  conv=>rhs; rw [← range_getD os ""]
  rw [List.map_map]
  rfl
 rw [e1 (gS es),e1 fun x=>fI (ZaG es x - 1)] at h2
 have h3:=Int.mul_dvd_mul h1 h2
 have e2:YC os es * fI (ZaG es r) * prI (os.map fun x=>fI (ZaG es x - 1))=fI (ZaG es r) * (ZA os.length (Z1 os es) os.length [] * prI (os.map fun x=>fI (ZaG es x - 1))):=by
  unfold YC
  rw [Int.mul_comm (ZA os.length (Z1 os es) os.length []),Int.mul_assoc]
 rw [e2]
 exact h3
theorem Za9:∀ l:List Int,(∀ x∈l,1≤x)→1≤prI l
 | [],_=>Int.le_refl _
 | x :: l,h=>by
  rw [Zu]
  have h1:=Za9 l fun y hy=>h y (List.mem_cons_of_mem _ hy)
  have h2:=h x List.mem_cons_self
  have:=Int.mul_le_mul h2 h1 (by decide) (by omega)
  rwa [Int.one_mul] at this
theorem Ziy {es:Es} (hF:Jt es) (os:List Str):0≤YC os es:=Jg (fun i t ht=>by
 unfold Z1 at ht
 obtain ⟨e,he,rfl⟩:=List.mem_map.mp ht
 exact (hF.many e (List.mem_filter.mp he).1).1) _ _
theorem ZmC {es:Es} (hF:Jt es) (ss:List Str) (r:Str):0≤Zlj ss es r:=by
 unfold Zlj
 refine Int.mul_nonneg (Int.mul_nonneg (Ziy hF _) (by have:=ZcG (ZaG es r); omega)) ?_
 have:=Za9 ((othL ss r).map fun x=>fI (ZaG es x - 1)) fun y hy=>by
  obtain ⟨x,_,rfl⟩:=List.mem_map.mp hy
  exact ZcG _
 omega
end Sh
namespace Sh
open PySem L2 PyProof.Rows
seal L2.PE L2.PS L2.PSs L2.PT L2.PW L2.PA L2.PI L2.PG L2.PGs L2.PO L2.PC L2.PCs L2.OpR L2.UnR L2.CallR L2.MtR L2.IxR L2.SlR
theorem Zkl {K:PySem.W.Frag} {mp:List Nat} {σ:L2.St} {H1:Hp} {Q:VK} {q:Addr} {vs:List V} {es:Es} (hS:lcS 2 mp σ=[none,none]) (hq:H1 q=some (.tup vs)) (hpa:PA H1 vs es) (hl:es.length≤1000)
  (done:∀ D H',Same H1 H'→H' D=some (.lst ((es.map fun e=>e.2).map V.int))→Q (.ref D) H'):Jl 2 mp σ (Zn0 K 2 (ZlJ (Zap 0) (ZlJ (Zap 1) Zop))) Zl8 (Zl0 1) (Itt K q) H1 Q:=by
 refine Xa vs.length (fun i=>vs.getD i .non) (fun i v _=>v = .int (es.getD i ("",0)).2) (Zs (by rw [hpa.1]; exact hl)) (fun _ _ _ _ _ r=>r) (ZaK (SqT.of hq)) ?_ ?_
 ·intro i H Qe hi hs kq
  have hie:i < es.length:=by rw [← hpa.1]; exact hi
  obtain ⟨b,e1,e2⟩:=hpa.2 i es[i] (List.getElem?_eq_getElem hie)
  have ev:vs.getD i .non = .ref b:=by rw [List.getD_eq_getElem?_getD,e1]; rfl
  have ee:es.getD i ("",0)=es[i]:=by rw [List.getD_eq_getElem?_getD,List.getElem?_eq_getElem hie]; rfl
  rw [ev,hS]
  refine ⟨b,_,rfl,SqT.of (hs _ _ e2),rfl,_,_,rfl,_,_,rfl,rfl,_,rfl,kq _ _ (Same.refl _) ?_⟩
  rw [ee]
 ·intro D us H' hul hR hs hD hDl
  refine done D H' hs ?_
  rw [hDl]
  congr 2
  apply List.ext_getElem?
  intro i
  by_cases hi:i < us.length
  ·have hie:i < es.length:=by rw [← hpa.1,← hul]; exact hi
   rw [List.getElem?_eq_getElem hi,hR i _ (List.getElem?_eq_getElem hi),List.getElem?_map,List.getElem?_map,List.getElem?_eq_getElem hie,List.getD_eq_getElem?_getD,List.getElem?_eq_getElem hie]
   rfl
  ·rw [List.getElem?_eq_none (by omega),List.getElem?_eq_none (by rw [List.length_map,List.length_map]; have:=hpa.1; omega)]
theorem Zf6:∀ {l:List Int} {b:Nat},(∀ x∈l,0≤x∧x≤b)→0≤l.sum∧l.sum≤b * l.length
 | [],b,_=>by simp
 | x :: l,b,h=>by
  have ih:=Zf6 (l:=l) (b:=b) fun y hy=>h y (List.mem_cons_of_mem _ hy)
  have hx:=h x (List.mem_cons_self ..)
  rw [List.sum_cons,List.length_cons]
  push_cast
  rw [Int.mul_add,Int.mul_one]
  omega
theorem Zhs {l:List Int} (h:∀ x∈l,0≤x∧x≤(64000:Nat)) (hl:l.length≤128):(∀ x∈l,InLong x)∧∀ k,InLong (l.take k).sum:=by
 constructor
 ·intro x hx
  have:=h x hx
  unfold InLong
  omega
 ·intro k
  have h1:=Zf6 (l:=l.take k) (b:=64000) fun x hx=>h x (List.mem_of_mem_take hx)
  have h2:(l.take k).length≤128:=by rw [List.length_take]; omega
  unfold InLong
  omega
theorem ZkG (f:Str→Int) (ss:List Str):(ups f ss).length≤ss.length:=by
 unfold ups
 rw [List.length_map]
 exact List.length_filter_le _ _
theorem Ziu {es:Es} (hF:Jt es) {f:Str→Int} (hf:∀ x,(f x).natAbs=(mo es x).natAbs) {ss:List Str} (hp:SPts es ss):(∀ x∈(ups f ss).map fun e=>e.2,InLong x)∧(∀ k,InLong (((ups f ss).map fun e=>e.2).take k).sum)∧(ups f ss).length≤1000:=by
 have hb:∀ x,(f x).natAbs≤64000:=fun x=>by
  rw [hf]
  have:=ZmS (es:=es) (b:=1000) x hF.many
  have:=hF.few
  omega
 have hl:(ups f ss).length≤128:=by
  have:=ZkG f ss
  have:=hp.pts.len
  have:=hF.few
  omega
 obtain ⟨a1,a2⟩:=Zhs (l:=(ups f ss).map fun e=>e.2) (fun x hx=>by
  obtain ⟨e,he,rfl⟩:=List.mem_map.mp hx
  have:=Zl4 hb ss e he
  omega) (by rw [List.length_map]; exact hl)
 exact ⟨a1,a2,by omega⟩
theorem ZbX {n:Nat} {T:Nat→List Tie} {b:Nat} (hT:∀ r,((T r).map fun t=>t.2.natAbs).sum≤b) (hb:1≤b):∀ (k:Nat) (ch:List Nat),(ZA n T k ch).natAbs≤b ^ k
 | 0,ch=>by
  unfold ZA
  split <;> simp
 | k + 1,ch=>by
  unfold ZA
  have key:∀ ts:List Tie,((ts.map fun t=>t.2 * ZA n T k (ch ++ [t.1])).sum).natAbs≤((ts.map fun t=>t.2.natAbs).sum) * b ^ k:=fun ts=>by
   induction ts with
   | nil=>simp
   | cons t ts ih =>
    rw [List.map_cons,List.sum_cons,List.map_cons,List.sum_cons,Nat.add_mul]
    refine Nat.le_trans (Int.natAbs_add_le _ _) (Nat.add_le_add ?_ ih)
    rw [Int.natAbs_mul]
    exact Nat.mul_le_mul_left _ (ZbX hT hb k _)
  refine Nat.le_trans (key _) ?_
  rw [Nat.pow_succ,Nat.mul_comm (b ^ k)]
  exact Nat.mul_le_mul_right _ (hT _)
theorem ZkM {es:Es} (hF:Jt es) (os:List Str) (r:Nat):((Z1 os es r).map fun t=>t.2.natAbs).sum≤64000:=by
 have key:∀ l:List Tie,(∀ t∈l,t.2.natAbs≤1000)→(l.map fun t=>t.2.natAbs).sum≤1000 * l.length:=fun l=>by
  induction l with
  | nil=>intro _; simp
  | cons t l ih =>
   intro h
   have:=ih fun u hu=>h u (List.mem_cons_of_mem _ hu)
   have:=h t List.mem_cons_self
   rw [List.map_cons,List.sum_cons,List.length_cons]
   omega
 have h1:=key (Z1 os es r) fun t ht=>by
  unfold Z1 at ht
  obtain ⟨e,he,rfl⟩:=List.mem_map.mp ht
  have:=hF.many e (List.mem_filter.mp he).1
  dsimp only
  omega
 have h2:(Z1 os es r).length≤es.length:=by
  unfold Z1
  rw [List.length_map]
  exact List.length_filter_le _ _
 have:=hF.few
 omega
theorem ZhT:∀ {a b:Nat},a≤b→fc a≤fc b
 | a,0,h=>by rw [Nat.le_zero.mp h]; exact Nat.le_refl _
 | a,b + 1,h=>by
  by_cases e:a=b + 1
  ·rw [e]; exact Nat.le_refl _
  ·refine Nat.le_trans (ZhT (b:=b) (by omega)) ?_
   show fc b≤(b + 1) * fc b
   exact Nat.le_mul_of_pos_left _ (Nat.succ_pos b)
theorem Zm6 {n:Nat} (h:n≤30):fc n < 2 ^ 108:=Nat.lt_of_le_of_lt (ZhT h) (by decide)
theorem ZhU {x:Int} (h:x≤30):Sm 108 (fI x):=by
 show (fI x).natAbs < 2 ^ 108
 unfold fI
 rw [Int.natAbs_natCast]
 exact Zm6 (by omega)
theorem ZdT {es:Es} (hF:Jt es) {os:List Str} (h:os.length≤31):Sm 500 (YC os es):=by
 show (YC os es).natAbs < 2 ^ 500
 unfold YC
 refine Nat.lt_of_le_of_lt (ZbX (b:=64000) (ZkM hF os) (by decide) os.length []) ?_
 exact Nat.lt_of_le_of_lt (Nat.pow_le_pow_right (by decide) h) (by decide +kernel)
theorem Zj6 {g:Str→Int} (hg:∀ x,Sm 108 (g x)):∀ l:List Str,Sm (108 * l.length + 1) (prI (l.map g))
 | []=>by show (1:Int).natAbs < 2 ^ 1; decide
 | x :: l=>by
  have:=(hg x).mul (Zj6 hg l)
  rw [List.map_cons,Zu,List.length_cons,show 108 * (l.length + 1) + 1=108 + (108 * l.length + 1) by omega]
  exact this
theorem ZiP (l:List Int) (x:Int):prI (l ++ [x])=prI l * x:=by
 rw [Zbc,Zu,Zbb,Int.mul_one]
section
variable {P:Program} {w:World} {K:PySem.W.Frag} {mg:Str→Option Value} {base:Heap}
abbrev X3:Stmt:=top 35
abbrev Zfq:List Str:=["number","product","factor"]
theorem scFactorial:Zk Zfq ["number"] (Zf X3):=⟨rfl,rfl,rfl,by decide +kernel,rfl,by decide +kernel,by decide +kernel⟩
def ZkV:Sp:=fun vs H Q _=>∃ n:Int,vs=[.int n]∧-1000≤n∧n≤30∧Q (.int (fI n)) H
theorem Zcj (D:HasDef K mg "factorial" X3 ["number"]) (B:Blt mg):FOk P w K mg base 1 "factorial" ["number"] ZkV:=by
 refine D.ok scFactorial (fun vs H Q E h=>?_) (fun f cdv A outer s H vs Q E hr h=>?_)
 ·obtain ⟨n,rfl,_⟩:=h
  rfl
 ·obtain ⟨n,rfl,n1,n2,k⟩:=h
  refine ⟨_,(Zd (Zl (i:=1) scFactorial.nd rfl (.inl rfl) Zg)
   (Zd (Yf PassesOwn.never rfl (JX rfl B.range (Za Zg (Za (Zq ZO (pv 0) Zg) Ze))) (Zy (i:=2) scFactorial.nd rfl (.inl rfl))
    (Zh (Zl (i:=1) scFactorial.nd rfl (.inl rfl) (Zq J0 (pv 1) (pv 2)))))
   (Zh (Zm (pv 1))))),?_⟩
  refine ⟨_,rfl,_,_,rfl,rfl,2,n + 1,rfl,⟨by decide,by decide,by omega,by omega⟩,?_⟩
  refine XQ (n:=(n + 1 - 2).toNat) (fun i σ H3=>∃ z2:Option V,σ=[some (.int n),some (.int (fc (i + 1):Int)),z2]∧H3=H) ⟨none,rfl,rfl⟩ ?_ ?_
  ·rintro i σ H3 hi ⟨z2,rfl,rfl⟩
   have hb:fc (i + 1) < 2 ^ 108:=Zm6 (by omega)
   refine ⟨_,rfl,_,rfl,_,_,rfl,rfl,⟨Sm.big (k:=108) (by show (fc (i + 1):Int).natAbs < 2 ^ 108; rw [Int.natAbs_natCast]; exact hb) (by decide),Sm.big (k:=5) (by show (2 + (i:Int)).natAbs < 2 ^ 5; omega) (by decide)⟩,some (.int (2 + (i:Int))),?_,rfl⟩
   have e:((fc (i + 1):Nat):Int) * (2 + (i:Int))=((fc (i + 1 + 1):Nat):Int):=by
    show _=(((i + 1 + 1) * fc (i + 1):Nat):Int)
    rw [Int.natCast_mul,Int.mul_comm]
    congr 1
    omega
   dsimp only
   rw [e]
   rfl
  ·rintro σ H3 ⟨z2,rfl,rfl⟩
   refine ⟨_,rfl,?_⟩
   have e:((fc ((n + 1 - 2).toNat + 1):Nat):Int)=fI n:=by
    unfold fI
    by_cases c:1≤n
    ·congr 2
     omega
    ·have e1:(n + 1 - 2).toNat=0:=by omega
     have e2:n.toNat=0:=by omega
     rw [e1,e2]
     rfl
   rw [e]
   exact k
abbrev Z4:Stmt:=top 29
abbrev Y8:List Str:=["H"]
theorem JP:Zk Y8 ["H"] (Zf Z4):=⟨rfl,rfl,rfl,by decide +kernel,rfl,by decide +kernel,by decide +kernel⟩
end
structure Few (es:Es):Prop where
 out:∀ x,ZaG es x≤30
 one:∀ e∈es,e.2≤30
theorem Zka {es:Es} (hF:Jt es) (x:Str):0≤ZaG es x:=(Yq _ (Zdh hF x)).2
theorem ZmB {es:Es} (hF:Jt es) (hW:Few es) {os:List Str} {r:Str} (h:os.length≤31) (ys:List Str) (hy:ys.length≤30):Sm 3900 (YC os es * fI (ZaG es r) * prI (ys.map fun x=>fI (ZaG es x - 1))):=by
 have h1:=((ZdT hF h).mul (ZhU (hW.out r))).mul (Zj6 (g:=fun x=>fI (ZaG es x - 1)) (fun x=>ZhU (by have:=hW.out x; omega)) ys)
 exact h1.up (by omega)
def Zl1 (wsh:Str) (us:Es):Str:=match us with | []=>wsh | u :: _=>u.1
theorem Zkb (ss:List Str) (r:Str):(othL ss r).length≤ss.length:=List.length_filter_le _ _
theorem ZiU {ss:List Str} {x r:Str}:othL (ss ++ [x]) r=if x=r then othL ss r else othL ss r ++ [x]:=by
 unfold othL
 rw [List.filter_append]
 by_cases c:x=r <;> simp [c]
section
variable {P:Program} {w:World} {K:PySem.W.Frag} {mg:Str→Option Value} {base:Heap}
abbrev JS:Stmt:=top 36
abbrev Zhg:List Str:=["H","end","orders","point"]
theorem scOrdersTo:Zk Zhg ["H","end"] (Zf JS):=⟨rfl,rfl,rfl,by decide +kernel,rfl,by decide +kernel,by decide +kernel⟩
def Zmk:Sp:=fun vs H Q _=>∃ (v:V) (es:Es) (r:Str),vs=[v,.str r]∧HeapV H v es∧Jt es∧Few es∧(∀ ss,SPts es ss→ss.length≤29)∧∀ H' ss,Same H H'→SPts es ss→Q (.int (Zlj ss es r)) H'
theorem Zce (D:HasDef K mg "orders_to" JS ["H","end"]) (B:Blt mg) (g37_:FOk P w K mg base 5 "trees_of" ["H","root"] Zgh) (g26_:FOk P w K mg base 5 "outs_of" ["H","P"] ZjV) (g14_:FOk P w K mg base 5 "factorial" ["number"] ZkV) (g31_:FOk P w K mg base 5 "points_of" ["H"] Xy):FOk P w K mg base 6 "orders_to" ["H","end"] Zmk:=by
 refine D.ok scOrdersTo (fun vs H Q E h=>?_) (fun f cdv A outer s H vs Q E hr h=>?_)
 ·obtain ⟨v,es,r,rfl,_⟩:=h
  rfl
 ·obtain ⟨v,es,r,rfl,hV,hF,hW,hn,k⟩:=h
  refine ⟨_,(Zd (Zl (i:=2) scOrdersTo.nd rfl (.inl rfl) (Zq J0 (Zr g37_ hr (Za (pv 0) (Za (pv 1) Ze))) (Zr g14_ hr (Za (Zr g26_ hr (Za (pv 0) (Za (pv 1) Ze))) Ze))))
   (Zd (Yf PassesOwn.never rfl (Yj (Zr g31_ hr (Za (pv 0) Ze))) (Zy (i:=3) scOrdersTo.nd rfl (.inl rfl))
    (Zh (Ym (Zv Zfh (pv 3) (pv 1) (Zw _)) (Zh (Zl (i:=2) scOrdersTo.nd rfl (.inl rfl) (Zq J0 (pv 2) (Zr g14_ hr (Za (Zq Y7 (Zr g26_ hr (Za (pv 0) (Za (pv 3) Ze))) Zg) Ze))))) ZC)))
   (Zh (Zm (pv 2))))),?_⟩
  have ho:∀ ss,SPts es ss→(othL ss r).length≤31:=fun ss hS=>Nat.le_trans (Nat.le_trans (Zkb ss r) (hn ss hS)) (by decide)
  refine ⟨_,rfl,_,rfl,v,es,r,rfl,hV,hF,ho,fun H1 ss s1 hS=>?_⟩
  refine ⟨_,rfl,_,rfl,v,es,r,rfl,hV.same s1,hF,fun H2 s2=>?_⟩
  have o1:=Zka hF r
  have o2:=hW.out r
  have s12:=s1.trans s2
  refine ⟨_,rfl,by omega,o2,_,_,rfl,rfl,⟨(ZdT hF (ho ss hS)).big (by decide),(ZhU o2).big (by decide)⟩,?_⟩
  refine ⟨_,rfl,v,es,rfl,hV.same s12,hF,fun v' H3 ss' s3 hT hS'=>?_⟩
  have ess:=SPts.one hS' hS
  subst ess
  obtain ⟨q,rfl,hq⟩:=hT
  have s13:=s12.trans s3
  have hno:=ho _ hS
  refine ⟨q,rfl,⟨_,SqT.of hq⟩,Xq (K:=K) (a:=q) (xs:=ss'.map V.str) (fun i σ H4=>(∃ z3:Option V,σ=[some v,some (.str r),some (.int (YC (othL ss' r) es * fI (ZaG es r) * prI ((othL (ss'.take i) r).map fun x=>fI (ZaG es x - 1)))),z3])∧Same H3 H4)
   ⟨⟨none,?_⟩,Same.refl _⟩ (fun i σ H4 _ ⟨_,s4⟩=>SqT.of (s4 _ _ hq)) ?_ ?_⟩
  ·rw [show othL (ss'.take 0) r=[] from rfl,List.map_nil,Zbb,Int.mul_one]
   rfl
  ·rintro i x σ H4 hi ⟨⟨z3,rfl⟩,s4⟩
   obtain ⟨hi',rfl⟩:=JJ hi
   have etk:ss'.take (i + 1)=ss'.take i ++ [ss'[i]]:=List.take_succ_eq_append_getElem hi'
   rw [etk,ZiU]
   have hlt:(othL (ss'.take i) r).length≤29:=by
    have h1:=Zkb (ss'.take i) r
    have h2:=hn _ hS
    rw [List.length_take] at h1
    omega
   generalize ss'[i]=x at *
   refine ⟨_,rfl,_,rfl,rfl,_,rfl,?_⟩
   by_cases c:x=r
   ·rw [if_pos c]
    exact Zao (by rw [c]; simp) ⟨⟨_,rfl⟩,s4⟩
   ·rw [if_neg c]
    refine ZbP (by simp [c]) ?_
    refine ⟨_,rfl,_,rfl,_,rfl,v,es,x,rfl,hV.same (s13.trans s4),hF,fun H5 s5=>?_⟩
    have p1:=Zka hF x
    have p2:=hW.out x
    refine ⟨_,_,rfl,rfl,_,rfl,by omega,by omega,_,_,rfl,rfl,⟨(ZmB hF hW hno _ (by omega)).big (by decide),(ZhU (by omega)).big (by decide)⟩,⟨some (.str x),?_⟩,s4.trans s5⟩
    rw [List.map_append,List.map_cons,List.map_nil,ZiP,← Int.mul_assoc]
    rfl
  ·rintro σ H4 ⟨⟨z3,rfl⟩,s4⟩
   rw [List.length_map,List.take_of_length_le (Nat.le_refl _)]
   exact ⟨_,rfl,k H4 ss' (s13.trans s4) hS⟩
end
theorem Zc1 {α:Type} (f g:α→Int):∀ l:List α,(l.map fun x=>f x + g x).sum=(l.map f).sum + (l.map g).sum
 | []=>rfl
 | x :: l=>by
  rw [List.map_cons,List.map_cons,List.map_cons,List.sum_cons,List.sum_cons,List.sum_cons,Zc1 f g l]
  omega
theorem Zf5 (y:Str):∀ l:List Str,l.Nodup→(l.map fun x=>if x=y then (1:Int) else 0).sum=if y∈l then 1 else 0
 | [],_=>rfl
 | x :: l,nd=>by
  obtain ⟨n1,n2⟩:=List.nodup_cons.mp nd
  rw [List.map_cons,List.sum_cons,Zf5 y l n2]
  by_cases e:x=y
  ·subst e
   rw [if_pos rfl,if_neg n1,if_pos List.mem_cons_self]
   rfl
  ·rw [if_neg e,Int.zero_add]
   by_cases h:y∈l
   ·rw [if_pos h,if_pos (List.mem_cons_of_mem _ h)]
   ·rw [if_neg h,if_neg fun q=>(List.mem_cons.mp q).elim (fun z=>e z.symm) h]
theorem Zh5 {ks:List Str} (nd:ks.Nodup) (p:Str→Bool):∀ ps:List Str,(∀ x∈ps,x∈ks)→((ks.filter p).map fun x=>(ps.count x:Int)).sum=((ps.filter p).length:Int)
 | [],_=>by
  have:∀ l:List Str,(l.map fun x=>((([]:List Str).count x:Nat):Int)).sum=0:=fun l=>by
   induction l with
   | nil=>rfl
   | cons x l ih=>rw [List.map_cons,List.sum_cons,ih]; rfl
  rw [this]
  rfl
 | y :: ps,h=>by
  have ih:=Zh5 nd p ps fun x hx=>h x (List.mem_cons_of_mem _ hx)
  have e:∀ x:Str,(((y :: ps).count x:Nat):Int)=(ps.count x:Int) + if x=y then 1 else 0:=fun x=>by
   rw [List.count_cons]
   by_cases c:x=y
   ·subst c; simp
   ·rw [if_neg (by simpa using fun q:y=x=>c q.symm),if_neg c]; rfl
  have e2:((ks.filter p).map fun x=>(((y :: ps).count x:Nat):Int))=(ks.filter p).map fun x=>(ps.count x:Int) + if x=y then 1 else 0:=List.map_congr_left fun x _=>e x
  rw [e2,Zc1,ih,Zf5 y _ (nd.filter _)]
  by_cases c:p y=true
  ·rw [if_pos (List.mem_filter.mpr ⟨h y List.mem_cons_self,c⟩),List.filter_cons_of_pos c,List.length_cons]
   omega
  ·rw [if_neg fun q=>c (List.mem_filter.mp q).2,List.filter_cons_of_neg c]
   omega
theorem Zdz {ps:List Str} {hp:Es} (h:ZJ ps hp):(hp.map (·.1)).Nodup:=by
 rw [List.nodup_iff_pairwise_ne,List.pairwise_map]
 refine List.Pairwise.imp ?_ (List.pairwise_map.mp h.srt)
 intro x y hxy e
 rw [e] at hxy
 exact List.lt_irrefl _ hxy
theorem JF {ps:List Str} {hp:Es} (h:ZJ ps hp) (p:Str→Bool):((hp.filter fun e=>p e.1).map fun e=>e.2).sum=((ps.filter p).length:Int):=by
 rw [← Zh5 (Zdz h) p ps fun x hx=>(h.mem x).mpr hx]
 congr 1
 rw [List.filter_map,List.map_map]
 refine List.map_congr_left fun e he=>?_
 exact h.cnt e (List.mem_filter.mp he).1
def oR (ps:List Str) (y:Str):Nat:=(ps.filter fun x=>decide (bg x=y)).length
def iR (ps:List Str) (y:Str):Nat:=(ps.filter fun x=>decide (en x=y)).length
theorem Zbh {ps:List Str} {hp:Es} (h:ZJ ps hp) (y:Str):ZaG hp y=(oR ps y:Int):=JF h fun x=>decide (bg x=y)
theorem Zkg {ps:List Str} {hp:Es} (h:ZJ ps hp) (y:Str):mo hp y=(oR ps y:Int) - (iR ps y:Int):=by
 have key:∀ es:Es,mo es y=((es.filter fun e=>decide (bg e.1=y)).map fun e=>e.2).sum - ((es.filter fun e=>decide (en e.1=y)).map fun e=>e.2).sum:=fun es=>by
  induction es with
  | nil=>rfl
  | cons e es ih =>
   rw [Zbp,ih]
   unfold mo1 ind
   by_cases a:bg e.1=y <;> by_cases b:en e.1=y <;> simp [a,b] <;> omega
 rw [key,JF h fun x=>decide (bg x=y),JF h fun x=>decide (en x=y)]
 rfl
theorem Zm5 {ps:List Str} {hp:Es} (h:ZJ ps hp) (hl:ps.length≤30):Few hp:=by
 refine ⟨fun x=>?_,fun e he=>?_⟩
 ·rw [Zbh h]
  have:oR ps x≤ps.length:=List.length_filter_le _ _
  omega
 ·have h1:=h.cnt e he
  have h2:=List.count_le_length (a:=e.1) (l:=ps)
  omega
def Zah (ps:List Str):Es:=ps.map fun x=>(x,1)
section
variable {P:Program} {w:World} {K:PySem.W.Frag} {mg:Str→Option Value} {base:Heap}
end
def hD (ps:List Str) (r x:Str):Int:=fI ((oR ps x:Int) - if x=r then 0 else 1)
section
variable {P:Program} {w:World} {K:PySem.W.Frag} {mg:Str→Option Value} {base:Heap}
end
end Sh
namespace Sh
open PySem L2 PyProof.Rows
theorem Zau (g:Nat→Int):∀ n:Nat,YD (n + 1) g=g 0 + YD n fun i=>g (i + 1)
 | 0=>by simp [YD]
 | n + 1=>by
  rw [YD,Zau g n,YD]
  omega
theorem ZeT:∀ {q n:Nat} {f:ZU},q < n→(∀ r,r < n→f r q=0)→det n f=0
 | 0,0,f,h,_=>by omega
 | 0,n + 1,f,h,e=>ZeV e
 | q + 1,0,f,h,_=>by omega
 | q + 1,n + 1,f,h,e=>by
  rw [det]
  refine Xx fun i hi=>?_
  rw [ZeT (q:=q) (n:=n) (by omega) fun r hr=>e (rmv i r) (by unfold rmv; split <;> omega),Int.mul_zero]
theorem ZeU:∀ {q n:Nat} {f:ZU},q≤n→(∀ r,0 < r→r < n + 1→f r q=0)→det (n + 1) f=Jz q * f 0 q * det n fun r c=>f (r + 1) (rmv q c)
 | 0,n,f,h,e=>by
  rw [ZbE e]
  have e1:(fun r c=>f (r + 1) (rmv 0 c))=fun r c=>f (r + 1) (c + 1):=by
   funext r c
   unfold rmv
   rw [if_neg (by omega)]
  rw [e1]
  simp [Jz]
 | q + 1,0,f,h,_=>by omega
 | q + 1,m + 1,f,h,e=>by
  have rs:∀ j r,rmv (j + 1) (r + 1)=rmv j r + 1:=fun j r=>by
   unfold rmv
   by_cases c:r < j
   ·rw [if_pos (by omega),if_pos c]
   ·rw [if_neg (by omega),if_neg c]
  have r0:∀ j,rmv (j + 1) 0=0:=fun j=>by unfold rmv; rw [if_pos (by omega)]
  rw [det,Zau]
  have z0:det (m + 1) (fun r c=>f (rmv 0 r) (c + 1))=0:=ZeT (q:=q) (by omega) fun r hr=>by
   have:rmv 0 r=r + 1:=by unfold rmv; rw [if_neg (by omega)]
   rw [this]
   exact e _ (by omega) (by omega)
  rw [z0,Int.mul_zero,Int.zero_add,det]
  have lin:∀ (a:Int) (n:Nat) (g:Nat→Int),a * YD n g=YD n fun i=>a * g i:=fun a n g=>by
   have:=Jx a 0 g g n
   rw [Int.zero_mul,Int.add_zero] at this
   rw [← this]
   refine Ya fun i _=>?_
   rw [Int.zero_mul,Int.add_zero]
  rw [lin]
  refine Ya fun j hj=>?_
  have ih:=ZeU (q:=q) (n:=m) (f:=fun r c=>f (rmv (j + 1) r) (c + 1)) (by omega) fun r h1 h2=>by
   obtain ⟨r',rfl⟩:∃ r',r=r' + 1:=⟨r - 1,by omega⟩
   rw [rs]
   refine e _ (by omega) ?_
   unfold rmv
   split <;> omega
  rw [ih,r0,r0]
  have ed:(fun r c=>f (rmv (j + 1) (r + 1)) (rmv q c + 1))=fun r c=>f (rmv j r + 1) (rmv (q + 1) (c + 1)):=by
   funext r c
   rw [rs,rs]
  rw [ed,Jy,Jy]
  simp only [Int.neg_mul,Int.mul_neg]
  congr 1
  simp only [Int.mul_assoc,Int.mul_left_comm,Int.mul_comm]
theorem Zj0 (q:Nat):Jz q * Jz q=1:=by
 unfold Jz
 split <;> rfl
theorem Zjt {q n:Nat} {f:ZU} (h:q < n + 1) (e:∀ r,r < n + 1→r≠q→f r q=0):det (n + 1) f=f q q * det n fun r c=>f (rmv q r) (rmv q c):=by
 have h1:=ZdD (n:=n + 1) (p:=q) (f:=f) h
 have h2:=ZeU (q:=q) (n:=n) (f:=ZcZ f q) (by omega) fun r r1 r2=>by
  unfold ZcZ
  rw [if_neg (by omega)]
  refine e _ ?_ (Zay q _)
  unfold rmv
  split <;> omega
 have e1:(fun r c=>ZcZ f q (r + 1) (rmv q c))=fun r c=>f (rmv q r) (rmv q c):=by
  funext r c
  unfold ZcZ
  rw [if_neg (by omega)]
  rfl
 have e2:ZcZ f q 0 q=f q q:=by unfold ZcZ; rw [if_pos rfl]
 rw [e1,e2,h1] at h2
 have h3:=congrArg (fun x=>Jz q * x) h2
 rw [← Int.mul_assoc,Zj0,Int.one_mul,← Int.mul_assoc,← Int.mul_assoc,Zj0,Int.one_mul] at h3
 exact h3
def Zat (os:List Str) (x:Str) (r c:Nat):Int:=if os.idxOf (bg x)=r then (if c=r then 1 else 0) - (if c=os.idxOf (en x) then 1 else 0) else 0
theorem Zc0 (os:List Str) (r c:Nat):∀ es:Es,Jh os es r c=(es.map fun e=>e.2 * Zat os e.1 r c).sum
 | []=>rfl
 | e :: es=>by
  rw [List.map_cons,List.sum_cons,← Zc0 os r c es]
  unfold Jh Zk5 Z1 Zat
  by_cases h:os.idxOf (bg e.1)=r
  ·rw [if_pos h,List.filter_cons_of_pos (by simpa using h),List.map_cons,List.map_cons,List.sum_cons]
  ·rw [if_neg h,List.filter_cons_of_neg (by simpa using h),Int.mul_zero,Int.zero_add]
theorem ZdZ (φ:Str→Int) (y:Str):∀ l:List Str,l.Nodup→y∈l→(l.map fun x=>(if x=y then (1:Int) else 0) * φ x).sum=φ y
 | [],_,h=>by cases h
 | x :: l,nd,h=>by
  obtain ⟨n1,n2⟩:=List.nodup_cons.mp nd
  rw [List.map_cons,List.sum_cons]
  by_cases e:x=y
  ·subst e
   have:∀ m:List Str,x∉m→(m.map fun z=>(if z=x then (1:Int) else 0) * φ z).sum=0:=fun m hm=>by
    induction m with
    | nil=>rfl
    | cons z m ih =>
     rw [List.map_cons,List.sum_cons,ih fun q=>hm (List.mem_cons_of_mem _ q),if_neg fun q=>hm (by rw [q]; exact List.mem_cons_self),Int.zero_mul]
     rfl
   rw [this l n1,if_pos rfl,Int.one_mul,Int.add_zero]
  ·rw [if_neg e,Int.zero_mul,Int.zero_add]
   exact ZdZ φ y l n2 ((List.mem_cons.mp h).resolve_left fun q=>e q.symm)
theorem ZbG {ks:List Str} (nd:ks.Nodup) (φ:Str→Int):∀ ps:List Str,(∀ x∈ps,x∈ks)→(ks.map fun x=>(ps.count x:Int) * φ x).sum=(ps.map φ).sum
 | [],_=>by
  have:∀ l:List Str,(l.map fun x=>((([]:List Str).count x:Nat):Int) * φ x).sum=0:=fun l=>by
   induction l with
   | nil=>rfl
   | cons x l ih =>
    rw [List.map_cons,List.sum_cons,ih]
    simp
  rw [this]
  rfl
 | y :: ps,h=>by
  have ih:=ZbG nd φ ps fun x hx=>h x (List.mem_cons_of_mem _ hx)
  have e:∀ x:Str,(((y :: ps).count x:Nat):Int) * φ x=(ps.count x:Int) * φ x + (if x=y then 1 else 0) * φ x:=fun x=>by
   rw [List.count_cons,← Int.add_mul]
   congr 1
   by_cases c:x=y
   ·subst c; simp
   ·rw [if_neg (by simpa using fun q:y=x=>c q.symm),if_neg c]; rfl
  have e2:(ks.map fun x=>(((y :: ps).count x:Nat):Int) * φ x)=ks.map fun x=>(ps.count x:Int) * φ x + (if x=y then 1 else 0) * φ x:=List.map_congr_left fun x _=>e x
  rw [e2,Zc1,ih,ZdZ φ y _ nd (h y List.mem_cons_self),List.map_cons,List.sum_cons]
  omega
theorem ZhH {ps:List Str} {hp:Es} (h:ZJ ps hp) (φ:Str→Int):(hp.map fun e=>e.2 * φ e.1).sum=(ps.map φ).sum:=by
 rw [← ZbG (Zdz h) φ ps fun x hx=>(h.mem x).mpr hx,List.map_map]
 congr 1
 refine List.map_congr_left fun e he=>?_
 show e.2 * φ e.1=(ps.count e.1:Int) * φ e.1
 rw [h.cnt e he]
def Jn (os ps:List Str):ZU:=fun r c=>(ps.map fun x=>Zat os x r c).sum
theorem Ziz {ps:List Str} {hp:Es} (h:ZJ ps hp) (os:List Str):Jh os hp=Jn os ps:=by
 funext r c
 rw [Zc0]
 exact ZhH h fun x=>Zat os x r c
theorem Zeo {l m:List Int} (h:l.Perm m):l.sum=m.sum:=by
 induction h with
 | nil=>rfl
 | cons x _ ih=>rw [List.sum_cons,List.sum_cons,ih]
 | swap x y l=>rw [List.sum_cons,List.sum_cons,List.sum_cons,List.sum_cons]; omega
 | trans _ _ a b=>rw [a,b]
theorem ZeG {os ps qs:List Str} (h:ps.Perm qs):Jn os ps=Jn os qs:=by
 funext r c
 exact Zeo (h.map fun x=>Zat os x r c)
theorem XN (os:List Str) (x:Str) (ps:List Str) (r c:Nat):Jn os (x :: ps) r c=Zat os x r c + Jn os ps r c:=by
 unfold Jn
 rw [List.map_cons,List.sum_cons]
def trR (os ps:List Str):Int:=det os.length (Jn os ps)
theorem ZfW {ps:List Str} {hp:Es} (h:ZJ ps hp) (os:List Str):YC os hp=trR os ps:=by
 unfold YC trR
 rw [← Ziz h,Xw (T:=Z1 os hp) (fun r t ht=>?_) os.length [] (by simp) (fun x hx=>by cases hx)]
 ·rfl
 ·unfold Z1 at ht
  obtain ⟨e,_,rfl⟩:=List.mem_map.mp ht
  exact List.idxOf_le_length
theorem Zly {os ps:List Str} (nd:os.Nodup) {q:Nat} (hq:q < os.length) (c:Nat):Jn os ps q c=((ps.filter fun x=>decide (bg x=os[q])).map fun x=>(if c=q then (1:Int) else 0) - (if c=os.idxOf (en x) then 1 else 0)).sum:=by
 induction ps with
 | nil=>rfl
 | cons x ps ih =>
  rw [XN,ih]
  unfold Zat
  by_cases h:bg x=os[q]
  ·rw [if_pos (by rw [h]; exact nd.idxOf_getElem q hq),List.filter_cons_of_pos (by simpa using h),List.map_cons,List.sum_cons]
  ·rw [if_neg,List.filter_cons_of_neg (by simpa using h),Int.zero_add]
   intro e
   subst e
   exact h (List.getElem_idxOf hq).symm
theorem Zf4 {α:Type} (a:Int) (g:α→Int):∀ l:List α,(l.map fun x=>a - g x).sum=l.length * a - (l.map g).sum
 | []=>by simp
 | x :: l=>by
  rw [List.map_cons,List.map_cons,List.sum_cons,List.sum_cons,Zf4 a g l,List.length_cons]
  have:((l.length + 1:Nat):Int) * a=(l.length:Int) * a + a:=by
   rw [Int.natCast_add,Int.add_mul]
   omega
  rw [this]
  omega
theorem ZeH {os ps:List Str} {x:Str} (h:x∈ps) (r c:Nat):Jn os (ps.erase x) r c=Jn os ps r c - Zat os x r c:=by
 rw [ZeG (List.perm_cons_erase h),XN]
 omega
theorem Zjb {os ps:List Str} (nd:os.Nodup) {q:Nat} (hq:q < os.length):((ps.filter fun x=>decide (bg x=os[q])).map fun x=>trR os (ps.erase x)).sum=((oR ps os[q]:Int) - 1) * trR os ps:=by
 have e1:((ps.filter fun x=>decide (bg x=os[q])).map fun x=>trR os (ps.erase x))=(ps.filter fun x=>decide (bg x=os[q])).map fun x=>trR os ps - det os.length (Z0 (Jn os ps) q fun c=>(if c=q then (1:Int) else 0) - (if c=os.idxOf (en x) then 1 else 0)):=by
  refine List.map_congr_left fun x hx=>?_
  obtain ⟨hx1,hx2⟩:=List.mem_filter.mp hx
  have hb:bg x=os[q]:=of_decide_eq_true hx2
  have hi:os.idxOf (bg x)=q:=by rw [hb]; exact nd.idxOf_getElem q hq
  have e:Jn os (ps.erase x)=Z0 (Jn os ps) q fun c=>1 * Jn os ps q c + (-1) * ((if c=q then (1:Int) else 0) - (if c=os.idxOf (en x) then 1 else 0)):=by
   funext r c
   rw [ZeH hx1]
   unfold Zat Z0
   rw [hi]
   by_cases z:r=q
   ·subst z
    rw [if_pos rfl,if_pos rfl]
    omega
   ·rw [if_neg (Ne.symm z),if_neg z,Int.sub_zero]
  unfold trR
  rw [e,YQ (Jn os ps) 1 (-1) (Jn os ps q) _ hq,Yc]
  omega
 have e2:=ZbC (Jn os ps) hq (fun v c=>(if c=q then (1:Int) else 0) - (if c=v then 1 else 0)) ((ps.filter fun x=>decide (bg x=os[q])).map fun x=>(os.idxOf (en x),1))
 rw [List.map_map] at e2
 have e3:(fun c=>(((ps.filter fun x=>decide (bg x=os[q])).map fun x=>((os.idxOf (en x),1):Tie)).map fun t=>t.2 * ((if c=q then (1:Int) else 0) - (if c=t.1 then 1 else 0))).sum)=Jn os ps q:=by
  funext c
  rw [Zly nd hq,List.map_map]
  congr 1
  refine List.map_congr_left fun x _=>?_
  exact Int.one_mul _
 rw [e3,Yc] at e2
 rw [e1,Zf4]
 have e4:((ps.filter fun x=>decide (bg x=os[q])).map fun x=>det os.length (Z0 (Jn os ps) q fun c=>(if c=q then (1:Int) else 0) - (if c=os.idxOf (en x) then 1 else 0))).sum=trR os ps:=by
  unfold trR
  rw [e2]
  congr 1
  refine List.map_congr_left fun x _=>?_
  exact (Int.one_mul _).symm
 rw [e4,Int.sub_mul,Int.one_mul]
 rfl
theorem Zhu {os ps:List Str} {x:Str} (h:x∈ps) (hb:bg x∉os):trR os (ps.erase x)=trR os ps:=by
 unfold trR
 refine Z7 fun r hr c _=>?_
 rw [ZeH h]
 unfold Zat
 rw [if_neg (by rw [List.idxOf_eq_length hb]; omega),Int.sub_zero]
theorem Zab {A B:List Str} {p y:Str} (hp:p∉A ++ B) (hy:y≠p):(A ++ p :: B).idxOf y=rmv A.length ((A ++ B).idxOf y):=by
 unfold rmv
 rw [List.idxOf_append,List.idxOf_append]
 by_cases h:y∈A
 ·have:=List.idxOf_lt_length_iff.mpr h
  rw [if_pos h,if_pos h,if_pos this]
 ·rw [if_neg h,if_neg h,if_neg (by omega),List.idxOf_cons,show (p == y)=false from by simpa using fun q:p=y=>hy q.symm]
  show _ + 1 + _=_
  omega
theorem Zk7 {q a b:Nat}:rmv q a=rmv q b↔a=b:=by
 unfold rmv
 constructor
 ·intro h
  split at h <;> split at h <;> omega
 ·rintro rfl
  rfl
theorem ZkN {A B:List Str} {p x:Str} (hp:p∉A ++ B) (h1:bg x≠p) (h2:en x≠p) (r c:Nat):Zat (A ++ p :: B) x (rmv A.length r) (rmv A.length c)=Zat (A ++ B) x r c:=by
 unfold Zat
 rw [Zab hp h1,Zab hp h2]
 simp only [Zk7]
theorem Zfz {A B ps:List Str} {p x:Str} (hp:p∉A ++ B) (hb:bg x=p) (he:en x≠p) (hn:∀ y∈ps,bg y≠p∧en y≠p):trR (A ++ p :: B) (x :: ps)=trR (A ++ B) ps:=by
 have hpA:p∉A:=fun q=>hp (List.mem_append.mpr (.inl q))
 have hix:(A ++ p :: B).idxOf p=A.length:=by
  rw [List.idxOf_append,if_neg hpA,List.idxOf_cons_self]
  omega
 have hl:(A ++ p :: B).length=(A ++ B).length + 1:=by simp; omega
 have hlt:A.length < (A ++ B).length + 1:=by simp; omega
 have col:∀ (y:Str) (r:Nat),en y≠p→r≠A.length→Zat (A ++ p :: B) y r A.length=0:=fun y r h1 h2=>by
  unfold Zat
  split
  ·rw [if_neg (Ne.symm h2),if_neg]
   ·rfl
   ·rw [Zab hp h1]
    exact fun q=>Zay _ _ q.symm
  ·rfl
 have sum0:∀ (l:List Str) (g:Str→Int),(∀ y∈l,g y=0)→(l.map g).sum=0:=fun l g h=>by
  induction l with
  | nil=>rfl
  | cons y l ih =>
   rw [List.map_cons,List.sum_cons,h y List.mem_cons_self,ih fun z hz=>h z (List.mem_cons_of_mem _ hz)]
   rfl
 unfold trR
 rw [hl,Zjt (q:=A.length) hlt fun r _ h2=>by
  rw [XN,col x r he h2]
  unfold Jn
  rw [sum0 _ _ fun y hy=>col y r (hn y hy).2 h2]
  rfl]
 have e1:Jn (A ++ p :: B) (x :: ps) A.length A.length=1:=by
  rw [XN]
  have e2:Zat (A ++ p :: B) x A.length A.length=1:=by
   unfold Zat
   rw [hb,hix,if_pos rfl,if_pos rfl,if_neg]
   ·rfl
   ·rw [Zab hp he]
    exact fun q=>Zay _ _ q.symm
  have e3:Jn (A ++ p :: B) ps A.length A.length=0:=by
   unfold Jn
   refine sum0 _ _ fun y hy=>?_
   unfold Zat
   rw [if_neg]
   rw [Zab hp (hn y hy).1]
   exact Zay _ _
  rw [e2,e3]
  rfl
 rw [e1,Int.one_mul]
 refine Z7 fun r _ c _=>?_
 rw [XN]
 have e4:Zat (A ++ p :: B) x (rmv A.length r) (rmv A.length c)=0:=by
  unfold Zat
  rw [hb,hix,if_neg fun q=>Zay _ _ q.symm]
 rw [e4,Int.zero_add]
 unfold Jn
 congr 1
 exact List.map_congr_left fun y hy=>ZkN hp (hn y hy).1 (hn y hy).2 r c
theorem Xe {n:Nat} {T:Nat→List Tie} {S:Nat→Prop} {i0:Nat} (h0:i0 < n) (s0:S i0) (hc:∀ i,i < n→S i→∀ t∈T i,t.1 < n∧S t.1):∀ (k:Nat) (ch:List Nat),ch.length + k=n→(∀ i,i < ch.length→S i→ch.getD i n < n∧S (ch.getD i n))→ZA n T k ch=0
 | 0,ch,hl,h=>by
  unfold ZA
  rw [if_neg]
  intro q
  have key:∀ m,itr (gof n fun i=>ch.getD i n) m i0 < n∧S (itr (gof n fun i=>ch.getD i n) m i0):=fun m=>by
   induction m with
   | zero=>exact ⟨h0,s0⟩
   | succ m ih =>
    show gof n _ (itr _ m i0) < n∧S (gof n _ (itr _ m i0))
    rw [Zcz ih.1]
    exact h _ (by omega) ih.2
  exact q i0 h0 (key n).1
 | k + 1,ch,hl,h=>by
  unfold ZA
  by_cases c:S ch.length
  ·have:∀ l:List Tie,(∀ t∈l,t∈T ch.length)→(l.map fun t=>t.2 * ZA n T k (ch ++ [t.1])).sum=0:=fun l hl2=>by
    induction l with
    | nil=>rfl
    | cons t l ih =>
     have ht:=hl2 t List.mem_cons_self
     rw [List.map_cons,List.sum_cons,ih fun u hu=>hl2 u (List.mem_cons_of_mem _ hu),Xe h0 s0 hc k (ch ++ [t.1]) (by simp; omega) (fun i hi si=>?_),Int.mul_zero]
     ·rfl
     ·rw [List.length_append,List.length_singleton] at hi
      rw [List.getD_eq_getElem?_getD]
      by_cases z:i < ch.length
      ·rw [List.getElem?_append_left z,← List.getD_eq_getElem?_getD]
       exact h i z si
      ·have:i=ch.length:=by omega
       subst this
       rw [List.getElem?_append_right (Nat.le_refl _),Nat.sub_self]
       exact hc _ (by omega) c t ht
   exact this _ fun t ht=>ht
  ·have:∀ l:List Tie,(l.map fun t=>t.2 * ZA n T k (ch ++ [t.1])).sum=0:=fun l=>by
    induction l with
    | nil=>rfl
    | cons t l ih =>
     rw [List.map_cons,List.sum_cons,ih,Xe h0 s0 hc k (ch ++ [t.1]) (by simp; omega) (fun i hi si=>?_),Int.mul_zero]
     ·rfl
     ·rw [List.length_append,List.length_singleton] at hi
      rw [List.getD_eq_getElem?_getD]
      by_cases z:i < ch.length
      ·rw [List.getElem?_append_left z,← List.getD_eq_getElem?_getD]
       exact h i z si
      ·have:i=ch.length:=by omega
       subst this
       exact absurd si c
   exact this _
def inP (ps:List Str) (y:Str):Bool:=ps.any fun x=>decide (bg x=y) || decide (en x=y)
def osL (ss ps:List Str) (e:Str):List Str:=ss.filter fun y=>decide (y≠e) && inP ps y
def prO (ps os:List Str):Int:=prI (os.map fun y=>fI ((oR ps y:Int) - 1))
def BR (ss ps:List Str) (e:Str):Int:=trR (osL ss ps e) ps * fI (oR ps e) * prO ps (osL ss ps e)
def Bal (ps:List Str) (P e:Str):Prop:=∀ y,(oR ps y:Int) - (iR ps y:Int)=(if y=P then 1 else 0) - (if y=e then 1 else 0)
theorem Xl {ps qs:List Str} (h:ps.Perm qs) (y:Str):oR ps y=oR qs y:=(h.filter _).length_eq
theorem Jb {ps qs:List Str} (h:ps.Perm qs) (y:Str):iR ps y=iR qs y:=(h.filter _).length_eq
theorem YM (x:Str) (qs:List Str) (y:Str):oR (x :: qs) y=(if bg x=y then 1 else 0) + oR qs y:=by
 unfold oR
 rw [List.filter_cons]
 by_cases c:bg x=y
 ·rw [if_pos c,if_pos (by simpa using c),List.length_cons]
  omega
 ·rw [if_neg c,if_neg (by simpa using c)]
  omega
theorem Xp (x:Str) (qs:List Str) (y:Str):iR (x :: qs) y=(if en x=y then 1 else 0) + iR qs y:=by
 unfold iR
 rw [List.filter_cons]
 by_cases c:en x=y
 ·rw [if_pos c,if_pos (by simpa using c),List.length_cons]
  omega
 ·rw [if_neg c,if_neg (by simpa using c)]
  omega
theorem inP_iff {ps:List Str} {y:Str}:inP ps y=true↔∃ x∈ps,bg x=y∨en x=y:=by
 unfold inP
 rw [List.any_eq_true]
 constructor
 ·rintro ⟨x,hx,h⟩
  exact ⟨x,hx,by simpa using h⟩
 ·rintro ⟨x,hx,h⟩
  exact ⟨x,hx,by simpa using h⟩
theorem ZmI {ps:List Str} {y:Str} (h:1≤oR ps y):inP ps y=true:=by
 obtain ⟨x,hx⟩:=List.exists_mem_of_length_pos (l:=ps.filter fun x=>decide (bg x=y)) h
 obtain ⟨h1,h2⟩:=List.mem_filter.mp hx
 exact inP_iff.mpr ⟨x,h1,.inl (of_decide_eq_true h2)⟩
theorem ZnW {ps:List Str} {y:Str} (h:1≤iR ps y):inP ps y=true:=by
 obtain ⟨x,hx⟩:=List.exists_mem_of_length_pos (l:=ps.filter fun x=>decide (en x=y)) h
 obtain ⟨h1,h2⟩:=List.mem_filter.mp hx
 exact inP_iff.mpr ⟨x,h1,.inr (of_decide_eq_true h2)⟩
theorem ZeY {ps qs:List Str} {P e x:Str} (hB:Bal ps P e) (hp:ps.Perm (x :: qs)) (hb:bg x=P):Bal qs (en x) e:=fun y=>by
 have h1:=hB y
 rw [Xl hp,Jb hp,YM,Xp,hb] at h1
 by_cases c:y=P
 ·subst c
  rw [if_pos rfl,if_pos rfl] at h1
  by_cases d:en x=y
  ·rw [if_pos d] at h1
   rw [if_pos d.symm]
   omega
  ·rw [if_neg d] at h1
   rw [if_neg (Ne.symm d)]
   omega
 ·rw [if_neg (Ne.symm c),if_neg c] at h1
  by_cases d:en x=y
  ·rw [if_pos d] at h1
   rw [if_pos d.symm]
   omega
  ·rw [if_neg d] at h1
   rw [if_neg (Ne.symm d)]
   omega
theorem Zek {ps qs:List Str} {P e x y:Str} (hB:Bal ps P e) (hp:ps.Perm (x :: qs)) (hb:bg x=P) (hy:y≠e) (hyP:y=P→2≤oR ps P):inP ps y=inP qs y:=by
 have hq:∀ z∈qs,z∈ps:=fun z hz=>hp.mem_iff.mpr (List.mem_cons_of_mem _ hz)
 rw [Bool.eq_iff_iff]
 constructor
 ·intro h
  obtain ⟨z,hz,hz2⟩:=inP_iff.mp h
  rcases List.mem_cons.mp (hp.mem_iff.mp hz) with e1 | e1
  ·subst e1
   refine ZmI ?_
   have ho:=Xl hp y
   rw [YM,hb] at ho
   by_cases c:y=P
   ·have:=hyP c
    rw [if_pos c.symm] at ho
    rw [← c] at this
    omega
   ·rw [if_neg (Ne.symm c)] at ho
    have h1:=hB y
    rw [if_neg c,if_neg hy] at h1
    rcases hz2 with q | q
    ·exact absurd (hb.symm.trans q).symm c
    ·have hi:=Jb hp y
     rw [Xp,if_pos q] at hi
     omega
  ·exact inP_iff.mpr ⟨z,e1,hz2⟩
 ·intro h
  obtain ⟨z,hz,hz2⟩:=inP_iff.mp h
  exact inP_iff.mpr ⟨z,hq z hz,hz2⟩
theorem Zer {ss ps qs:List Str} {P e x:Str} (hB:Bal ps P e) (hp:ps.Perm (x :: qs)) (hb:bg x=P) (hyP:P=e∨2≤oR ps P):osL ss qs e=osL ss ps e:=by
 unfold osL
 refine List.filter_congr fun y _=>?_
 by_cases c:y=e
 ·simp [c]
 ·rw [Zek (y:=y) hB hp hb c fun q=>hyP.resolve_left fun z=>c (q.trans z)]
theorem ZdA {n:Int} (h:1≤n):fI n=n * fI (n - 1):=by
 unfold fI
 obtain ⟨m,rfl⟩:∃ m:Nat,n=(m:Int) + 1:=⟨(n - 1).toNat,by omega⟩
 rw [show ((m:Int) + 1).toNat=m + 1 by omega,show ((m:Int) + 1 - 1).toNat=m by omega]
 show (((m + 1) * fc m:Nat):Int)=_
 rw [Int.natCast_mul]
 congr 1
theorem X8 {ps:List Str} {x:Str} (h:x∈ps) (y:Str):(oR (ps.erase x) y:Int)=(oR ps y:Int) - if bg x=y then 1 else 0:=by
 have:=Xl (List.perm_cons_erase h) y
 rw [YM] at this
 by_cases c:bg x=y
 ·rw [if_pos c] at this ⊢
  omega
 ·rw [if_neg c] at this ⊢
  omega
theorem Zij {ss ps:List Str} {P e:Str} (nd:ss.Nodup) (hss:∀ y,inP ps y=true→y∈ss) (hB:Bal ps P e) (hP:inP ps P=true) :
  BR ss ps e=((ps.filter fun x=>decide (bg x=P)).map fun x=>BR ss (ps.erase x) e).sum:=by
 have ndo:(osL ss ps e).Nodup:=nd.filter _
 have hfil:∀ x∈ps.filter (fun x=>decide (bg x=P)),x∈ps∧bg x=P:=fun x hx=>⟨(List.mem_filter.mp hx).1,of_decide_eq_true (List.mem_filter.mp hx).2⟩
 have hBP:=hB P
 rw [if_pos rfl] at hBP
 by_cases hPe:P=e
 ·subst hPe
  have ho1:1≤oR ps P:=by
   rw [if_pos rfl] at hBP
   obtain ⟨x,hx,q⟩:=inP_iff.mp hP
   rcases q with q | q
   ·have:=Xl (List.perm_cons_erase hx) P
    rw [YM,if_pos q] at this
    omega
   ·have:=Jb (List.perm_cons_erase hx) P
    rw [Xp,if_pos q] at this
    omega
  have key:((ps.filter fun x=>decide (bg x=P)).map fun x=>BR ss (ps.erase x) P)=(ps.filter fun x=>decide (bg x=P)).map fun _=>trR (osL ss ps P) ps * fI ((oR ps P:Int) - 1) * prO ps (osL ss ps P):=by
   refine List.map_congr_left fun x hx=>?_
   obtain ⟨h1,h2⟩:=hfil x hx
   have hp:=List.perm_cons_erase h1
   have hno:P∉osL ss ps P:=fun q=>by
    have:=(List.mem_filter.mp q).2
    simp at this
   unfold BR
   rw [Zer hB hp h2 (.inl rfl),Zhu h1 (by rw [h2]; exact hno),X8 h1,if_pos h2]
   congr 1
   unfold prO
   congr 1
   refine List.map_congr_left fun y hy=>?_
   rw [X8 h1,if_neg fun q=>hno (by have z:P=y:=h2.symm.trans q; exact z.symm ▸ hy),Int.sub_zero]
  rw [key]
  have rep:∀ (l:List Str) (a:Int),(l.map fun _=>a).sum=(l.length:Int) * a:=fun l a=>by
   induction l with
   | nil=>simp
   | cons x l ih =>
    rw [List.map_cons,List.sum_cons,ih,List.length_cons,Int.natCast_add,Int.add_mul]
    omega
  rw [rep]
  unfold BR
  rw [ZdA (n:=(oR ps P:Int)) (by omega)]
  show _=(oR ps P:Int) * _
  simp only [Int.mul_assoc,Int.mul_left_comm]
 ·rw [if_neg hPe] at hBP
  have hmem:P∈osL ss ps e:=List.mem_filter.mpr ⟨hss P hP,by simp [hPe,hP]⟩
  by_cases h2:2≤oR ps P
  ·obtain ⟨q,hq,eq⟩:∃ q,∃ h:q < (osL ss ps e).length,(osL ss ps e)[q]=P:=List.mem_iff_getElem.mp hmem
   have hls:=Zjb (ps:=ps) ndo hq
   rw [eq] at hls
   have hG:prO ps (osL ss ps e)=((oR ps P:Int) - 1) * prI ((osL ss ps e).map fun y=>fI ((oR ps y:Int) - 1 - if P=y then 1 else 0)):=by
    unfold prO
    refine Yi (y:=P) _ ndo hmem ?_ fun y _ hy=>?_
    ·rw [if_pos rfl]
     exact ZdA (by omega)
    ·rw [if_neg (Ne.symm hy),Int.sub_zero]
   have key:((ps.filter fun x=>decide (bg x=P)).map fun x=>BR ss (ps.erase x) e)=(ps.filter fun x=>decide (bg x=P)).map fun x=>trR (osL ss ps e) (ps.erase x) * (fI (oR ps e) * prI ((osL ss ps e).map fun y=>fI ((oR ps y:Int) - 1 - if P=y then 1 else 0))):=by
    refine List.map_congr_left fun x hx=>?_
    obtain ⟨h3,h4⟩:=hfil x hx
    have hp:=List.perm_cons_erase h3
    unfold BR
    rw [Zer hB hp h4 (.inr h2),X8 h3,if_neg (by rw [h4]; exact hPe),Int.sub_zero,Int.mul_assoc]
    congr 2
    unfold prO
    congr 1
    refine List.map_congr_left fun y hy=>?_
    rw [X8 h3,h4]
    congr 1
    omega
   have e5:=Jw (fI (oR ps e) * prI ((osL ss ps e).map fun y=>fI ((oR ps y:Int) - 1 - if P=y then 1 else 0))) ((ps.filter fun x=>decide (bg x=P)).map fun x=>trR (osL ss ps e) (ps.erase x))
   rw [List.map_map] at e5
   rw [key]
   show _=(List.map ((fun x=>x * (fI (oR ps e) * prI ((osL ss ps e).map fun y=>fI ((oR ps y:Int) - 1 - if P=y then 1 else 0)))) ∘ fun x=>trR (osL ss ps e) (ps.erase x)) _).sum
   rw [← e5,hls]
   unfold BR
   rw [hG]
   simp only [Int.mul_assoc,Int.mul_left_comm]
  ·have ho:oR ps P=1:=by omega
   have hi:iR ps P=0:=by omega
   obtain ⟨x,hx⟩:∃ x,ps.filter (fun x=>decide (bg x=P))=[x]:=List.length_eq_one_iff.mp ho
   obtain ⟨h3,h4⟩:=hfil x (by rw [hx]; exact List.mem_singleton.mpr rfl)
   have hp:=List.perm_cons_erase h3
   rw [hx,List.map_cons,List.map_nil,List.sum_cons,List.sum_nil,Int.add_zero]
   have ho':=Xl hp P
   rw [YM,if_pos h4] at ho'
   have hi':=Jb hp P
   rw [Xp] at hi'
   have hen:en x≠P:=fun z=>by rw [if_pos z] at hi'; omega
   have hout:inP (ps.erase x) P=false:=by
    rw [Bool.eq_false_iff]
    intro z
    obtain ⟨w,hw,q⟩:=inP_iff.mp z
    rcases q with q | q
    ·have:=Xl (List.perm_cons_erase hw) P
     rw [YM,if_pos q] at this
     omega
    ·have:=Jb (List.perm_cons_erase hw) P
     rw [Xp,if_pos q] at this
     omega
   obtain ⟨A,B,hAB⟩:=List.append_of_mem (hss P hP)
   have ndAB:=nd
   rw [hAB] at ndAB
   have hPA:P∉A:=fun z=>(List.nodup_append.mp ndAB).2.2 P z P List.mem_cons_self rfl
   have hPB:P∉B:=(List.nodup_cons.mp (List.nodup_append.mp ndAB).2.1).1
   have same:∀ l:List Str,P∉l→l.filter (fun y=>decide (y≠e) && inP (ps.erase x) y)=l.filter (fun y=>decide (y≠e) && inP ps y):=fun l hl=>List.filter_congr fun y hy=>by
    by_cases c:y=e
    ·simp [c]
    ·rw [Zek (y:=y) hB hp h4 c fun z=>absurd hy (z ▸ hl)]
   have o1:osL ss ps e=A.filter (fun y=>decide (y≠e) && inP ps y) ++ P :: B.filter (fun y=>decide (y≠e) && inP ps y):=by
    unfold osL
    rw [hAB,List.filter_append,List.filter_cons_of_pos (by simp [hPe,hP])]
   have o2:osL ss (ps.erase x) e=A.filter (fun y=>decide (y≠e) && inP ps y) ++ B.filter (fun y=>decide (y≠e) && inP ps y):=by
    unfold osL
    rw [hAB,List.filter_append,List.filter_cons_of_neg (by simp [hout]),same A hPA,same B hPB]
   have hnot:P∉A.filter (fun y=>decide (y≠e) && inP ps y) ++ B.filter (fun y=>decide (y≠e) && inP ps y):=fun z=>by
    rcases List.mem_append.mp z with z | z
    ·exact hPA (List.mem_filter.mp z).1
    ·exact hPB (List.mem_filter.mp z).1
   have ht:trR (osL ss ps e) ps=trR (osL ss (ps.erase x) e) (ps.erase x):=by
    have hg:=Zfz (ps:=ps.erase x) hnot h4 hen fun y hy=>by
     constructor
     ·intro z
      exact Bool.eq_false_iff.mp hout (inP_iff.mpr ⟨y,hy,.inl z⟩)
     ·intro z
      exact Bool.eq_false_iff.mp hout (inP_iff.mpr ⟨y,hy,.inr z⟩)
    rw [o1,o2,← hg]
    unfold trR
    rw [ZeG hp]
   unfold BR
   rw [ht,X8 h3,if_neg (by rw [h4]; exact hPe),Int.sub_zero]
   congr 1
   unfold prO
   have hf:∀ y,y≠P→fI ((oR (ps.erase x) y:Int) - 1)=fI ((oR ps y:Int) - 1):=fun y hy=>by
    rw [X8 h3,if_neg (by rw [h4]; exact Ne.symm hy),Int.sub_zero]
   have m1:∀ l:List Str,P∉l→l.map (fun y=>fI ((oR (ps.erase x) y:Int) - 1))=l.map fun y=>fI ((oR ps y:Int) - 1):=fun l hl=>List.map_congr_left fun y hy=>hf y fun z=>hl (z ▸ hy)
   rw [o1,o2,m1 _ hnot,List.map_append,List.map_append,List.map_cons,Zbc,Zbc,Zu,ho]
   have:fI (((1:Nat):Int) - 1)=1:=rfl
   rw [this,Int.one_mul]
theorem ZkO (os ps:List Str):Jh os (Zah ps)=Jn os ps:=by
 funext r c
 rw [Zc0]
 unfold Zah Jn
 rw [List.map_map]
 congr 1
 exact List.map_congr_left fun x _=>Int.one_mul _
theorem Zgc {os qs:List Str} {e y0:Str} (ho:∀ y∈qs,en y≠e→en y∈os) (hy:y0∈os) (hn:¬ Rch (Zah qs) e y0):trR os qs=0:=by
 have h1:trR os qs=ZA os.length (Z1 os (Zah qs)) os.length []:=by
  unfold trR
  rw [← ZkO,Xw (T:=Z1 os (Zah qs)) (fun r t ht=>?_) os.length [] (by simp) (fun x hx=>by cases hx)]
  ·rfl
  ·unfold Z1 at ht
   obtain ⟨e,_,rfl⟩:=List.mem_map.mp ht
   exact List.idxOf_le_length
 rw [h1]
 have hlt:=List.idxOf_lt_length_iff.mpr hy
 refine Xe (S:=fun i=>∃ h:i < os.length,¬ Rch (Zah qs) e os[i]) (i0:=os.idxOf y0) hlt ⟨hlt,by rw [List.getElem_idxOf hlt]; exact hn⟩ (fun i hi si t ht=>?_) os.length [] (by simp) (fun i hi=>by simp at hi)
 obtain ⟨_,si⟩:=si
 unfold Z1 at ht
 obtain ⟨g,hg,rfl⟩:=List.mem_map.mp ht
 obtain ⟨hg1,hg2⟩:=List.mem_filter.mp hg
 have hg3:os.idxOf (bg g.1)=i:=of_decide_eq_true hg2
 subst hg3
 rw [List.getElem_idxOf hi] at si
 have hgq:g.1∈qs:=by
  unfold Zah at hg1
  obtain ⟨x,hx,rfl⟩:=List.mem_map.mp hg1
  exact hx
 have hne:en g.1≠e:=fun z=>si (.step .here ⟨g,hg1,.inr ⟨z,rfl⟩⟩)
 have hmo:=ho g.1 hgq hne
 have hlt2:=List.idxOf_lt_length_iff.mpr hmo
 refine ⟨hlt2,hlt2,?_⟩
 rw [List.getElem_idxOf hlt2]
 exact fun z=>si (.step z ⟨g,hg1,.inr ⟨rfl,rfl⟩⟩)
def Znn (ps:List Str):Prop:=∀ a∈ps,∀ b∈ps,Rch (Zah ps) (bg a) (bg b)
theorem Rch.trans {es:Es} {a b c:Str} (h:Rch es a b) (k:Rch es b c):Rch es a c:=by
 induction k with
 | here=>exact h
 | step _ q ih=>exact .step ih q
theorem ZjC {es:Es} {a b:Str} (h:Adj es a b):Adj es b a:=by
 obtain ⟨e,he,q⟩:=h
 exact ⟨e,he,q.elim (fun z=>.inr ⟨z.2,z.1⟩) (fun z=>.inl ⟨z.2,z.1⟩)⟩
theorem Rch.symm {es:Es} {a b:Str} (h:Rch es a b):Rch es b a:=by
 induction h with
 | here=>exact .here
 | step _ q ih=>exact (Rch.step .here (ZjC q)).trans ih
theorem ZjE {es fs:Es} (h:∀ e∈es,∃ f∈fs,f.1=e.1) {a b:Str} (k:Adj es a b):Adj fs a b:=by
 obtain ⟨e,he,q⟩:=k
 obtain ⟨f,hf,hf1⟩:=h e he
 exact ⟨f,hf,by rw [hf1]; exact q⟩
theorem Rch.mono {es fs:Es} (h:∀ e∈es,∃ f∈fs,f.1=e.1) {a b:Str} (k:Rch es a b):Rch fs a b:=by
 induction k with
 | here=>exact .here
 | step _ q ih=>exact .step ih (ZjE h q)
theorem Zbi {ps:List Str} {x:Str} (h:x∈ps):(x,(1:Int))∈Zah ps:=List.mem_map.mpr ⟨x,h,rfl⟩
theorem ZiY {ps qs:List Str} (h:∀ x∈ps,x∈qs):∀ e∈Zah ps,∃ f∈Zah qs,f.1=e.1:=fun e he=>by
 unfold Zah at he
 obtain ⟨x,hx,rfl⟩:=List.mem_map.mp he
 exact ⟨_,Zbi (h x hx),rfl⟩
theorem ZfY {ps:List Str} {x:Str} (h:x∈ps):Rch (Zah ps) (bg x) (en x):=.step .here ⟨_,Zbi h,.inl ⟨rfl,rfl⟩⟩
def ZbQ (ps:List Str) (P:Str):Prop:=Znn ps∧inP ps P=true∧∃ e,Bal ps P e
theorem ZlU (x:Str):Bal [x] (bg x) (en x):=fun y=>by
 rw [YM,Xp,show oR [] y=0 from rfl,show iR [] y=0 from rfl]
 by_cases a:bg x=y
 ·rw [if_pos a,if_pos a.symm]
  by_cases b:en x=y
  ·rw [if_pos b,if_pos b.symm]
   omega
  ·rw [if_neg b,if_neg (Ne.symm b)]
   omega
 ·rw [if_neg a,if_neg (Ne.symm a)]
  by_cases b:en x=y
  ·rw [if_pos b,if_pos b.symm]
   omega
  ·rw [if_neg b,if_neg (Ne.symm b)]
   omega
theorem Zmh (x:Str):ZbQ [x] (bg x):=⟨fun a ha b hb=>by
 rw [List.mem_singleton.mp ha,List.mem_singleton.mp hb]
 exact .here,inP_iff.mpr ⟨x,List.mem_singleton.mpr rfl,.inl rfl⟩,_,ZlU x⟩
theorem Zjz {ps qs:List Str} {e x:Str} (hB:Bal qs (en x) e) (hp:ps.Perm (x :: qs)):Bal ps (bg x) e:=fun y=>by
 have h1:=hB y
 rw [Xl hp,Jb hp,YM,Xp]
 by_cases c:bg x=y
 ·rw [if_pos c,if_pos c.symm]
  by_cases d:en x=y
  ·rw [if_pos d]
   rw [if_pos d.symm] at h1
   omega
  ·rw [if_neg d]
   rw [if_neg (Ne.symm d)] at h1
   omega
 ·rw [if_neg c,if_neg (Ne.symm c)]
  by_cases d:en x=y
  ·rw [if_pos d]
   rw [if_pos d.symm] at h1
   omega
  ·rw [if_neg d]
   rw [if_neg (Ne.symm d)] at h1
   omega
theorem Zgd {ps qs:List Str} {x:Str} (hp:ps.Perm (x :: qs)) (h:qs=[]∨ZbQ qs (en x)):ZbQ ps (bg x):=by
 have hxm:x∈ps:=hp.mem_iff.mpr List.mem_cons_self
 have hsub:∀ y∈qs,y∈ps:=fun y hy=>hp.mem_iff.mpr (List.mem_cons_of_mem _ hy)
 rcases h with h | ⟨hC,hI,e,hB⟩
 ·subst h
  have:ps=[x]:=List.perm_singleton.mp hp
  rw [this]
  exact Zmh x
 ·refine ⟨?_,inP_iff.mpr ⟨x,hxm,.inl rfl⟩,e,Zjz hB hp⟩
  obtain ⟨y,hy,hy2⟩:=inP_iff.mp hI
  have key:∀ a∈ps,Rch (Zah ps) (bg y) (bg a):=fun a ha=>by
   rcases List.mem_cons.mp (hp.mem_iff.mp ha) with z | z
   ·subst z
    have h1:Rch (Zah ps) (bg y) (en a):=by
     rcases hy2 with q | q
     ·rw [q]; exact .here
     ·rw [← q]; exact ZfY (hsub y hy)
    exact h1.trans (ZfY hxm).symm
   ·exact (hC y hy a z).mono (ZiY hsub)
  exact fun a ha b hb=>(key a ha).symm.trans (key b hb)
theorem Zew {ss qs:List Str} {Q e:Str} (hss:∀ y,inP qs y=true→y∈ss) (hne:qs≠[]) (hB:Bal qs Q e) (h:¬ ZbQ qs Q):BR ss qs e=0:=by
 have hos:∀ y,y≠e→inP qs y=true→y∈osL ss qs e:=fun y h1 h2=>List.mem_filter.mpr ⟨hss y h2,by simp [h1,h2]⟩
 have key:∀ y0∈qs,¬ Rch (Zah qs) e (bg y0)→BR ss qs e=0:=fun y0 hy0 hn=>by
  have hye:bg y0≠e:=fun z=>hn (by rw [z]; exact .here)
  unfold BR
  rw [Zgc (e:=e) (y0:=bg y0) (fun y hy h1=>hos _ h1 (inP_iff.mpr ⟨y,hy,.inr rfl⟩)) (hos _ hye (inP_iff.mpr ⟨y0,hy0,.inl rfl⟩)) hn,Int.zero_mul,Int.zero_mul]
 by_cases c:∀ y∈qs,Rch (Zah qs) e (bg y)
 ·have hC:Znn qs:=fun a ha b hb=>(c a ha).symm.trans (c b hb)
  by_cases d:inP qs Q=true
  ·exact absurd ⟨hC,d,e,hB⟩ h
  ·exfalso
   have ho:oR qs Q=0:=by
    false_or_by_contra
    exact d (ZmI (by omega))
   have hi:iR qs Q=0:=by
    false_or_by_contra
    exact d (ZnW (by omega))
   have hb:=hB Q
   rw [if_pos rfl,ho,hi] at hb
   have hQe:Q=e:=by
    false_or_by_contra
    rename_i z
    rw [if_neg z] at hb
    omega
   subst hQe
   have only:∀ y,Rch (Zah qs) Q y→y=Q:=fun y hy=>Rch.closed (F:=fun y=>y=Q) rfl (fun P hP y hA=>by
    subst hP
    obtain ⟨g,hg,q⟩:=hA
    unfold Zah at hg
    obtain ⟨x,hx,rfl⟩:=List.mem_map.mp hg
    refine absurd (inP_iff.mpr ⟨x,hx,?_⟩) d
    exact q.elim (fun z=>.inl z.1) (fun z=>.inr z.1)) hy
   obtain ⟨y,hy⟩:=List.exists_mem_of_ne_nil qs hne
   exact d (inP_iff.mpr ⟨y,hy,.inl (only _ (c y hy))⟩)
 ·false_or_by_contra
  rename_i z
  refine c fun y hy=>?_
  false_or_by_contra
  rename_i w
  exact z (key y hy w)
def prK (ks ps:List Str):Int:=prI (ks.map fun k=>fI (ps.count k:Int))
theorem ZgS (ks ps:List Str):1≤prK ks ps:=Za9 _ fun y hy=>by
 obtain ⟨x,_,rfl⟩:=List.mem_map.mp hy
 exact ZcG _
theorem Zen {ks ps:List Str} {x:Str} (nd:ks.Nodup) (hk:x∈ks) (h:x∈ps):prK ks ps=(ps.count x:Int) * prK ks (ps.erase x):=by
 have hc:1≤ps.count x:=List.one_le_count_iff.mpr h
 unfold prK
 refine Yi (y:=x) ks nd hk ?_ fun y _ hy=>?_
 ·rw [List.count_erase_self,ZdA (by omega)]
  congr 2
  omega
 ·rw [List.count_erase_of_ne hy]
def IsC (ss ks ps:List Str) (P:Str) (n:Int):Prop:=(ps=[]→n=1)∧(ps≠[]→¬ ZbQ ps P→n=0)∧(ps≠[]→ZbQ ps P→∀ e,Bal ps P e→n * prK ks ps=BR ss ps e)
theorem Znl (ss:List Str) (e:Str):BR ss [] e=1:=by
 have:osL ss [] e=[]:=by
  unfold osL
  refine List.filter_eq_nil_iff.mpr fun y _=>?_
  simp [inP]
 unfold BR
 rw [this]
 rfl
theorem ZgT (ks:List Str):prK ks []=1:=Zba ks fun x _=>by
 rw [List.count_nil]
 rfl
end Sh
namespace Sh
open PySem L2 PyProof.Rows
seal L2.PE L2.PS L2.PSs L2.PT L2.PW L2.PA L2.PI L2.PG L2.PGs L2.PO L2.PC L2.PCs L2.OpR L2.UnR L2.CallR L2.MtR L2.IxR L2.SlR
theorem ZhS {P:Str}:∀ ss:List Str,ss.Nodup→P∈ss→(ss.filter fun y=>decide (y=P))=[P]
 | [],_,h=>by cases h
 | x :: ss,nd,h=>by
  obtain ⟨n1,n2⟩:=List.nodup_cons.mp nd
  by_cases e:x=P
  ·subst e
   rw [List.filter_cons_of_pos (by simp)]
   congr 1
   exact List.filter_eq_nil_iff.mpr fun y hy=>by simp; exact fun z=>n1 (z ▸ hy)
  ·rw [List.filter_cons_of_neg (by simpa using e)]
   exact ZhS ss n2 ((List.mem_cons.mp h).resolve_left fun z=>e z.symm)
theorem ZfO {g:Str→Int} {ss:List Str} (h:∀ y∈ss,g y≤0):ups g ss=[]:=by
 unfold ups
 rw [List.filter_eq_nil_iff.mpr fun y hy=>by have:=h y hy; simp; omega]
 rfl
theorem ZdR {g:Str→Int} {ss:List Str} {P:Str} (nd:ss.Nodup) (hP:P∈ss) (h1:g P=1) (h:∀ y∈ss,y≠P→g y≤0):ups g ss=[(P,1)]:=by
 unfold ups
 have:(ss.filter fun x=>decide (0 < g x))=ss.filter fun y=>decide (y=P):=List.filter_congr fun y hy=>decide_eq_decide.mpr ⟨fun z=>by
  false_or_by_contra
  rename_i w
  have:=h y hy w
  omega,fun z=>by rw [z,h1]; decide⟩
 rw [this,ZhS ss nd hP,List.map_cons,List.map_nil,h1]
theorem sm_one {g:Str→Int} {ss:List Str} (h:sm (ups g ss)≤1):(ups g ss=[]∧∀ y∈ss,g y≤0)∨∃ u∈ss,ups g ss=[(u,1)]∧g u=1∧∀ y∈ss,y≠u→g y≤0:=by
 have hm:∀ y,y∈(ss.filter fun x=>decide (0 < g x))↔y∈ss∧0 < g y:=fun y=>by
  rw [List.mem_filter]
  simp
 unfold ups at h ⊢
 generalize (ss.filter fun x=>decide (0 < g x))=fl at *
 cases fl with
 | nil =>
  refine .inl ⟨rfl,fun y hy=>?_⟩
  false_or_by_contra
  rename_i w
  have:=(hm y).mpr ⟨hy,by omega⟩
  cases this
 | cons u fl =>
  have hu:=(hm u).mp List.mem_cons_self
  cases fl with
  | nil =>
   unfold sm at h
   rw [List.map_cons,List.map_nil,List.map_cons,List.map_nil,List.sum_cons,List.sum_nil] at h
   have e1:g u=1:=by
    have h:g u + 0≤1:=h
    omega
   refine .inr ⟨u,hu.1,by rw [List.map_cons,List.map_nil,e1],e1,fun y hy hn=>?_⟩
   false_or_by_contra
   rename_i w
   exact hn (List.mem_singleton.mp ((hm y).mpr ⟨hy,by omega⟩))
  | cons v fl =>
   exfalso
   have hv:=(hm v).mp (List.mem_cons_of_mem _ List.mem_cons_self)
   unfold sm at h
   rw [List.map_map,List.map_cons,List.map_cons,List.sum_cons,List.sum_cons] at h
   have hr:0≤(fl.map ((fun e:Str × Int=>e.2) ∘ fun x=>(x,g x))).sum:=(Yq _ fun y hy=>by
    obtain ⟨z,hz,rfl⟩:=List.mem_map.mp hy
    have:=(hm z).mp (List.mem_cons_of_mem _ (List.mem_cons_of_mem _ hz))
    show 0≤g z
    omega).2
   have h:g u + (g v + (fl.map ((fun e:Str × Int=>e.2) ∘ fun x=>(x,g x))).sum)≤1:=h
   omega
theorem Zhm {hp:Es} {ss:List Str} (hS:SPts hp ss) {y:Str} (h:y∉ss):mo hp y=0:=Zdt fun e he=>⟨fun z=>h ((hS.pts.mem y).mpr ⟨e,he,.inl z⟩),fun z=>h ((hS.pts.mem y).mpr ⟨e,he,.inr z⟩)⟩
theorem YO {ps:List Str} {hp:Es} (hO:ZJ ps hp) {ss:List Str} (hS:SPts hp ss) {y:Str}:inP ps y=true↔y∈ss:=by
 rw [inP_iff,hS.pts.mem]
 constructor
 ·rintro ⟨x,hx,q⟩
  obtain ⟨e,he,rfl⟩:=List.mem_map.mp ((hO.mem x).mpr hx)
  exact ⟨e,he,q⟩
 ·rintro ⟨e,he,q⟩
  exact ⟨e.1,(hO.mem _).mp (List.mem_map.mpr ⟨e,he,rfl⟩),q⟩
theorem ZbK {ps:List Str} {hp:Es} (hO:ZJ ps hp) {P e:Str}:Bal ps P e↔∀ y,mo hp y=(if y=P then 1 else 0) - (if y=e then 1 else 0):=by
 unfold Bal
 constructor
 ·intro h y
  rw [Zkg hO]
  exact h y
 ·intro h y
  rw [← Zkg hO]
  exact h y
theorem ZkH {ps:List Str} {hp:Es} (hO:ZJ ps hp) {ss:List Str} (hS:SPts hp ss) {P e:Str} (hB:Bal ps P e):Zl1 P (ups (fun y=>-mo hp y) ss)=e:=by
 have hb:=(ZbK hO).mp hB
 by_cases c:P=e
 ·subst c
  rw [ZfO fun y _=>by rw [hb y]; split <;> omega]
  rfl
 ·have he:mo hp e = -1:=by
   rw [hb e,if_neg (Ne.symm c),if_pos rfl]
   omega
  have hes:e∈ss:=by
   false_or_by_contra
   rename_i z
   rw [Zhm hS z] at he
   omega
  rw [ZdR (P:=e) hS.pts.nd hes (by rw [he]; rfl) fun y _ hy=>by
   rw [hb y,if_neg hy]
   split <;> omega]
  rfl
theorem ups_begin {ps:List Str} {hp:Es} (hO:ZJ ps hp) {ss:List Str} (hS:SPts hp ss) {P e:Str} (hB:Bal ps P e) (hP:P∈ss):(P=e∧ups (mo hp) ss=[])∨(P≠e∧ups (mo hp) ss=[(P,1)]):=by
 have hb:=(ZbK hO).mp hB
 by_cases c:P=e
 ·subst c
  refine .inl ⟨rfl,ZfO fun y _=>by rw [hb y]; split <;> omega⟩
 ·refine .inr ⟨c,ZdR hS.pts.nd hP (by rw [hb P,if_pos rfl,if_neg c]; rfl) fun y _ hy=>by
   rw [hb y,if_neg hy]
   split <;> omega⟩
theorem Znf {ps:List Str} {hp:Es} (hO:ZJ ps hp) {ss:List Str} (hS:SPts hp ss) (h:¬ 1 < sm (ups (mo hp) ss)):(ups (mo hp) ss=[]∧∀ P,Bal ps P P)∨∃ u∈ss,ups (mo hp) ss=[(u,1)]∧∃ e,Bal ps u e:=by
 have ht:tot (mo hp) ss=0:=ZjJ hS.pts.nd fun e he=>⟨(hS.pts.mem _).mpr ⟨e,he,.inl rfl⟩,(hS.pts.mem _).mpr ⟨e,he,.inr rfl⟩⟩
 have hbal:=ZfP (mo hp) ss
 rw [ht] at hbal
 rcases sm_one (g:=mo hp) (ss:=ss) (by omega) with ⟨a1,a2⟩ | ⟨u,hu,a1,a2,a3⟩
 ·refine .inl ⟨a1,fun P=>(ZbK hO).mpr fun y=>?_⟩
  rw [a1] at hbal
  have h0:sm ([]:Es)=0:=rfl
  have:∀ z∈ss,-mo hp z≤0:=by
   rcases sm_one (g:=fun x=>-mo hp x) (ss:=ss) (by omega) with ⟨b1,b2⟩ | ⟨v,hv,b1,b2,b3⟩
   ·exact b2
   ·exfalso
    rw [b1] at hbal
    have h1:sm [(v,(1:Int))]=1:=rfl
    omega
  have e0:mo hp y=0:=by
   by_cases c:y∈ss
   ·have x1:=a2 y c
    have x2:=this y c
    omega
   ·exact Zhm hS c
  rw [e0]
  omega
 ·refine .inr ⟨u,hu,a1,?_⟩
  rw [a1] at hbal
  have h1:sm [(u,(1:Int))]=1:=rfl
  rcases sm_one (g:=fun x=>-mo hp x) (ss:=ss) (by omega) with ⟨b1,b2⟩ | ⟨v,hv,b1,b2,b3⟩
  ·exfalso
   rw [b1] at hbal
   have h0:sm ([]:Es)=0:=rfl
   omega
  ·refine ⟨v,(ZbK hO).mpr fun y=>?_⟩
   by_cases c:y∈ss
   ·by_cases d1:y=u
    ·subst d1
     have:y≠v:=fun z=>by
      rw [← z] at b2
      have b2 : -mo hp y=1:=b2
      omega
     rw [if_pos rfl,if_neg this,a2]
     rfl
    ·rw [if_neg d1]
     by_cases d2:y=v
     ·subst d2
      have b2 : -mo hp y=1:=b2
      rw [if_pos rfl]
      omega
     ·rw [if_neg d2]
      have x1:=a3 y c d1
      have x2 : -mo hp y≤0:=b3 y c d2
      omega
   ·have n1:y≠u:=fun z=>c (z ▸ hu)
    have n2:y≠v:=fun z=>c (z ▸ hv)
    rw [Zhm hS c,if_neg n1,if_neg n2]
    rfl
theorem Zjv {ps:List Str} {e:Str × Int} {es:Es} (hO:ZJ ps (e :: es)):Znn ps↔∀ e'∈e :: es,Rch (e :: es) (bg e.1) (bg e'.1):=by
 have sub1:∀ f∈Zah ps,∃ g∈e :: es,g.1=f.1:=fun f hf=>by
  unfold Zah at hf
  obtain ⟨x,hx,rfl⟩:=List.mem_map.mp hf
  obtain ⟨g,hg,q⟩:=List.mem_map.mp ((hO.mem x).mpr hx)
  exact ⟨g,hg,q⟩
 have sub2:∀ f∈e :: es,∃ g∈Zah ps,g.1=f.1:=fun f hf=>⟨_,Zbi ((hO.mem f.1).mp (List.mem_map.mpr ⟨f,hf,rfl⟩)),rfl⟩
 constructor
 ·intro h e' he'
  exact (h e.1 ((hO.mem _).mp (List.mem_map.mpr ⟨e,List.mem_cons_self,rfl⟩)) e'.1 ((hO.mem _).mp (List.mem_map.mpr ⟨e',he',rfl⟩))).mono sub1
 ·intro h a ha b hb
  obtain ⟨f,hf,rfl⟩:=List.mem_map.mp ((hO.mem a).mpr ha)
  obtain ⟨g,hg,rfl⟩:=List.mem_map.mp ((hO.mem b).mpr hb)
  exact ((h f hf).symm.trans (h g hg)).mono sub2
theorem Zjm {ps ks:List Str} {hp:Es} (hO:ZJ ps hp) (ndk:ks.Nodup) (hks:∀ x∈ps,x∈ks):prI (hp.map fun e=>fI e.2)=prK ks ps:=by
 have e1:(hp.map fun e=>fI e.2)=(hp.map (·.1)).map fun k=>fI (ps.count k:Int):=by
  rw [List.map_map]
  refine List.map_congr_left fun e he=>?_
  show fI e.2=fI (ps.count e.1:Int)
  rw [hO.cnt e he]
 have nd1:=Zdz hO
 have hm:∀ x,x∈hp.map (·.1)↔x∈ps:=hO.mem
 rw [e1]
 generalize hp.map (·.1)=ls at *
 have perm_pr:∀ {l m:List Int},l.Perm m→prI l=prI m:=fun {l m} h=>by
  induction h with
  | nil=>rfl
  | cons x _ ih=>rw [Zu,Zu,ih]
  | swap x y l=>rw [Zu,Zu,Zu,Zu,Int.mul_left_comm]
  | trans _ _ a b=>rw [a,b]
 have e2:ls.Perm (ks.filter fun x=>decide (x∈ps)):=(List.perm_ext_iff_of_nodup nd1 (ndk.filter _)).mpr fun x=>by
  rw [hm,List.mem_filter]
  simp
  exact hks x
 rw [perm_pr (e2.map fun k=>fI (ps.count k:Int))]
 unfold prK
 clear e2 ndk hks
 induction ks with
 | nil=>rfl
 | cons k ks ih =>
  rw [List.map_cons,Zu,← ih]
  by_cases c:k∈ps
  ·rw [List.filter_cons_of_pos (by simpa using c),List.map_cons,Zu]
  ·rw [List.filter_cons_of_neg (by simpa using c),List.count_eq_zero_of_not_mem c]
   exact (Int.one_mul _).symm
theorem ZmD {ps:List Str} {hp:Es} (hO:ZJ ps hp) {ss ss0:List Str} (hS:SPts hp ss) (hs0:(ss0.map fun x=>x.cps.toList).Pairwise (· < ·)) (hc:∀ y,inP ps y=true→y∈ss0) (e:Str):Zlj ss hp e=BR ss0 ps e:=by
 have eo:othL ss e=osL ss0 ps e:=by
  refine Zgf ?_ ?_ fun x=>?_
  ·unfold othL
   exact hS.srt.sublist (List.Sublist.map _ List.filter_sublist)
  ·unfold osL
   exact hs0.sublist (List.Sublist.map _ List.filter_sublist)
  ·unfold othL osL
   rw [List.mem_filter,List.mem_filter]
   constructor
   ·rintro ⟨h1,h2⟩
    have:=(YO hO hS).mpr h1
    exact ⟨hc x this,by simp at h2; simp [h2,this]⟩
   ·rintro ⟨h1,h2⟩
    simp at h2
    exact ⟨(YO hO hS).mp h2.2,by simp [h2.1]⟩
 unfold Zlj BR prO
 rw [ZfW hO,eo,Zbh hO]
 congr 2
 refine List.map_congr_left fun y _=>?_
 rw [Zbh hO]
structure Rw (H:Hp) (v:V) (ps:List Str) (e:Str × Int) (es:Es):Prop where
 hV:HeapV H v (e :: es)
 hO:ZJ ps (e :: es)
 hF:Jt (e :: es)
 hW:Few (e :: es)
 hn:∀ ss,SPts (e :: es) ss→ss.length≤29
theorem Rw.same {H H':Hp} {v:V} {ps:List Str} {e:Str × Int} {es:Es} (h:Rw H v ps e es) (s:Same H H'):Rw H' v ps e es:=⟨h.hV.same s,h.hO,h.hF,h.hW,h.hn⟩
def IsN (ps:List Str) (P:Str) (n:Int):Prop:=0≤n∧∀ ss0 ks:List Str,(ss0.map fun x=>x.cps.toList).Pairwise (· < ·)→(∀ y,inP ps y=true→y∈ss0)→ks.Nodup→(∀ x∈ps,x∈ks)→IsC ss0 ks ps P n
section
variable {P:Program} {w:World} {K:PySem.W.Frag} {mg:Str→Option Value} {base:Heap}
def Zgj:Sp:=fun vs H Q _=>∃ (v:V) (es:Es),vs=[v]∧HeapV H v es∧Jt es∧∀ H' ss,Same H H'→SPts es ss→Q (.bl (decide (1 < sm (ups (mo es) ss)))) H'
theorem Zci (D:HasDef K mg "has_many_begins" Z4 ["H"]) (B:Blt mg) (g7_:FOk P w K mg base 3 "begins_of" ["H"] ZaU):FOk P w K mg base 4 "has_many_begins" ["H"] Zgj:=by
 refine D.ok JP (fun vs H Q E h=>?_) (fun f cdv A outer s H vs Q E hr h=>?_)
 ·obtain ⟨v,es,rfl,_⟩:=h
  rfl
 ·obtain ⟨v,es,rfl,hV,hF,k⟩:=h
  refine ⟨_,(Zh (Zm (Xk Zfi (Zp (Zae rfl) rfl B.sum ZjA (Za (ZI (Zf Z4) Y8 ["point","more"] [] rfl (Yj (Zr g7_ hr (Za (pv 0) Ze))) (fun _ _ _ _ _=>ZS 2 K rfl (Zo (Z6 0) (Zo (Z6 1) ZR))) (fun _ _ _ _ _=>ZX) (fun _ _ _ _ _=>(pv 1))) Ze)) Zg (Zw _)))),?_⟩
  refine ⟨_,rfl,v,es,rfl,hV,hF,fun v' H1 ss s1 hv' hss=>?_⟩
  obtain ⟨b1,b2,b3⟩:=Ziu hF (f:=mo es) (fun _=>rfl) hss
  obtain ⟨q,us,rfl,hq,hpa⟩:=hv'
  refine ⟨q,rfl,⟨_,SqT.of hq⟩,Zkl rfl hq hpa b3 fun D1 H2 s2 hD=>?_⟩
  exact ⟨D1,_,rfl,SqL.of hD,b1,b2,_,_,rfl,rfl,k H2 ss (s1.trans s2) hss⟩
abbrev Za4:Stmt:=top 30
abbrev Zi6:List Str:=["H"]
theorem ZgB:Zk Zi6 ["H"] (Zf Za4):=⟨rfl,rfl,rfl,by decide +kernel,rfl,by decide +kernel,by decide +kernel⟩
def Zgl:Sp:=fun vs H Q _=>∃ (v:V) (ps:List Str) (e:Str × Int) (es:Es),vs=[v]∧Rw H v ps e es∧∀ H' (b:Bool),Same H H'→(b=true→Znn ps∧∀ ss,SPts (e :: es) ss→¬ 1 < sm (ups (mo (e :: es)) ss))→(b=false→∀ p,¬ ZbQ ps p)→Q (.bl b) H'
theorem Zch (D:HasDef K mg "has_text" Za4 ["H"]) (B:Blt mg) (g16_:FOk P w K mg base 4 "hangs" ["H"] Zgm) (g17_:FOk P w K mg base 4 "has_many_begins" ["H"] Zgj):FOk P w K mg base 5 "has_text" ["H"] Zgl:=by
 refine D.ok ZgB (fun vs H Q E h=>?_) (fun f cdv A outer s H vs Q E hr h=>?_)
 ·obtain ⟨v,ps,e,es,rfl,_⟩:=h
  rfl
 ·obtain ⟨v,ps,e,es,rfl,hR,k⟩:=h
  refine ⟨_,(Zh (Zm (Zj9 (Zr g16_ hr (Za (pv 0) Ze)) (Zj7 (Zmy (Zr g17_ hr (Za (pv 0) Ze))))))),?_⟩
  refine ⟨_,rfl,v,e,es,rfl,hR.hV,hR.hF,fun H1 b s1 hb=>⟨b,rfl,?_⟩⟩
  rw [← Zjv hR.hO] at hb
  refine Zfv (fun c=>?_) (fun c=>k _ _ s1 (fun z=>by cases z) fun _ p z=>absurd (hb.mpr z.1) c)
  refine ⟨_,rfl,v,e :: es,rfl,(hR.same s1).hV,hR.hF,fun H2 ss s2 hS=>⟨_,rfl,k _ _ (s1.trans s2) (fun z=>⟨hb.mp c,fun ss' hS'=>?_⟩) fun z p hp=>?_⟩⟩
  ·rw [SPts.one hS' hS]
   simpa using z
  ·have z':1 < sm (ups (mo (e :: es)) ss):=by simpa using z
   obtain ⟨_,z2,e',z3⟩:=hp
   rcases ups_begin hR.hO hS z3 ((YO hR.hO hS).mp z2) with q | q
   ·rw [q.2] at z'
    exact absurd z' (by show ¬ (1:Int) < 0; decide)
   ·rw [q.2] at z'
    exact absurd z' (by show ¬ (1:Int) < 1; decide)
abbrev JR:Stmt:=top 37
abbrev Zhe:List Str:=["H","begins"]
theorem scStartsOf:Zk Zhe ["H"] (Zf JR):=⟨rfl,rfl,rfl,by decide +kernel,rfl,by decide +kernel,by decide +kernel⟩
def JK:Sp:=fun vs H Q _=>∃ (v:V) (ps:List Str) (e:Str × Int) (es:Es),vs=[v]∧Rw H v ps e es∧∀ H' v' rs,Same H H'→TupS H' v' rs→(∀ p,p∈rs↔ZbQ ps p)→rs.Nodup→rs.length≤29→Q v' H'
theorem Zbk (D:HasDef K mg "starts_of" JR ["H"]) (B:Blt mg) (g18_:FOk P w K mg base 5 "has_text" ["H"] Zgl) (g7_:FOk P w K mg base 5 "begins_of" ["H"] ZaU) (g31_:FOk P w K mg base 5 "points_of" ["H"] Xy):FOk P w K mg base 6 "starts_of" ["H"] JK:=by
 refine D.ok scStartsOf (fun vs H Q E h=>?_) (fun f cdv A outer s H vs Q E hr h=>?_)
 ·obtain ⟨v,ps,e,es,rfl,_⟩:=h
  rfl
 ·obtain ⟨v,ps,e,es,rfl,hR,k⟩:=h
  refine ⟨_,(Zd (Ym (Zj5 (Zel (Zr g18_ hr (Za (pv 0) Ze)))) (Zh (Zm (ZaD Ze))) ZC)
   (Zd (Zl (i:=1) scStartsOf.nd rfl (.inl rfl) (Zr g7_ hr (Za (pv 0) Ze)))
   (Zd (Ym (Zv XH (Zp ZB rfl B.len Yw (Za (pv 1) Ze)) Zg (Zw _)) (Zh (Zm (Zr g31_ hr (Za (pv 0) Ze)))) ZC)
   (Zh (Zm (ZaD (Za (ZV ZaL (ZV ZaL (pv 1) Zg (fun _ _=>rfl)) Zg (fun _ _=>rfl)) Ze))))))),?_⟩
  have hO:=hR.hO
  refine ⟨_,rfl,v,ps,e,es,rfl,hR,fun H1 b s1 hb hb0=>⟨_,rfl,?_⟩⟩
  cases b with
  | false =>
   exact ZbP rfl ⟨Zs (Nat.zero_le _),fun q hq=>k _ (.ref q) [] (s1.trans (Zb hq)) ⟨q,rfl,Zc⟩ (fun p=>Iff.intro (fun z=>(List.not_mem_nil z).elim) (fun z=>absurd z (hb0 rfl p))) List.nodup_nil (Nat.zero_le _)⟩
  | true =>
  refine Zao rfl ?_
  refine ⟨_,rfl,v,e :: es,rfl,(hR.same s1).hV,hR.hF,fun v' H2 ss s2 hv' hss=>?_⟩
  have s12:=s1.trans s2
  obtain ⟨q,us,rfl,hq,hpa⟩:=hv'
  obtain ⟨hc,hm⟩:=hb rfl
  have hm:=hm ss hss
  have hbal:=Znf hO hss hm
  refine ⟨_,rfl,.ref q,_,rfl,.inr ⟨_,SqT.of hq,rfl⟩,rfl,_,rfl,?_⟩
  rw [hpa.1]
  have hbg:∀ p,ZbQ ps p→(ups (mo (e :: es)) ss=[])∨ups (mo (e :: es)) ss=[(p,1)]:=fun p hp=>by
   obtain ⟨z1,z2,e',z3⟩:=hp
   rcases ups_begin hO hss z3 ((YO hO hss).mp z2) with q | q
   ·exact .inl q.2
   ·exact .inr q.2
  rcases hbal with ⟨a1,a2⟩ | ⟨u,hu,a1,e',a2⟩
  ·rw [a1]
   refine ZbP (by decide) ⟨_,rfl,v,e :: es,rfl,(hR.same s12).hV,hR.hF,fun v3 H3 rs s3 ht hS3=>k _ _ rs (s12.trans s3) ht (fun p=>⟨fun z=>⟨hc,(YO hO hS3).mpr z,p,a2 p⟩,fun z=>(YO hO hS3).mp z.2.1⟩) hS3.pts.nd (hR.hn _ hS3)⟩
  ·rw [a1] at hpa ⊢
   refine Zao (ZhE (by show ((1:Nat):Int)≠0; decide)) ?_
   obtain ⟨b,e1,e2⟩:=hpa.2 0 (u,1) rfl
   refine ⟨_,rfl,q,us,0,.ref b,rfl,rfl,SqT.of hq,Yn (by decide) e1,b,_,0,.str u,rfl,rfl,SqT.of e2,rfl,Zs (show 1≤1000 by decide),fun r hr=>?_⟩
   refine k _ (.ref r) [u] (s12.trans (Zb hr)) ⟨r,rfl,Zc⟩ (fun p=>⟨fun z=>?_,fun z=>?_⟩) (List.nodup_cons.mpr ⟨by simp,List.nodup_nil⟩) (by simp)
   ·rw [List.mem_singleton.mp z]
    exact ⟨hc,(YO hO hss).mpr hu,e',a2⟩
   ·rcases hbg p z with q | q
    ·rw [a1] at q
     cases q
    ·rw [a1] at q
     injection q with q1 q2
     injection q1 with q3 q4
     rw [q3]
     exact List.mem_singleton.mpr rfl
end
theorem ZeJ {p:Str}:∀ rs:List Str,inV (.str p) (rs.map V.str)=decide (p∈rs)
 | []=>rfl
 | r :: rs=>by
  have ih:=ZeJ (p:=p) rs
  unfold inV at ih ⊢
  rw [List.map_cons,List.any_cons,ih]
  have e:eqV (.str r) (.str p)=decide (r=p):=by
   unfold eqV
   by_cases c:r=p <;> simp [c]
  rw [e,Bool.eq_iff_iff,Bool.or_eq_true,decide_eq_true_iff,decide_eq_true_iff,decide_eq_true_iff,List.mem_cons]
  exact ⟨fun h=>h.elim (fun z=>.inl z.symm) .inr,fun h=>h.elim (fun z=>.inl z.symm) .inr⟩
theorem ZhI {ps:List Str} {e:Str × Int} {es:Es} (hO:ZJ ps (e :: es)):ps≠[]:=fun z=>by
 have:=(hO.mem e.1).mp (List.mem_map.mpr ⟨e,List.mem_cons_self,rfl⟩)
 rw [z] at this
 cases this
section
variable {P:Program} {w:World} {K:PySem.W.Frag} {mg:Str→Option Value} {base:Heap}
abbrev X4:Stmt:=top 38
abbrev Zfr:List Str:=["H","P","ends","end","orders","piece","many"]
theorem scCountFrom:Zk Zfr ["H","P"] (Zf X4):=⟨rfl,rfl,rfl,by decide +kernel,rfl,by decide +kernel,by decide +kernel⟩
def Zd7:Sp:=fun vs H Q _=>∃ (v:V) (ps:List Str) (e:Str × Int) (es:Es) (p:Str),vs=[v,.str p]∧Rw H v ps e es∧∀ H' (n:Int),Same H H'→IsN ps p n→Q (.int n) H'
theorem Zan (D:HasDef K mg "count_from" X4 ["H","P"]) (B:Blt mg) (g33_:FOk P w K mg base 6 "starts_of" ["H"] JK) (g13_:FOk P w K mg base 6 "ends_of" ["H"] ZjZ) (g25_:FOk P w K mg base 6 "orders_to" ["H","end"] Zmk) (g14_:FOk P w K mg base 6 "factorial" ["number"] ZkV):FOk P w K mg base 7 "count_from" ["H","P"] Zd7:=by
 refine D.ok scCountFrom (fun vs H Q E h=>?_) (fun f cdv A outer s H vs Q E hr h=>?_)
 ·obtain ⟨v,ps,e,es,p,rfl,_⟩:=h
  rfl
 ·obtain ⟨v,ps,e,es,p,rfl,hR,k⟩:=h
  have hO:=hR.hO
  have hV:=hR.hV
  have hF:=hR.hF
  have hW:=hR.hW
  have hn:=hR.hn
  refine ⟨_,(Zd (Ym (Zv Zcc (pv 1) (Zr g33_ hr (Za (pv 0) Ze)) rfl) (Zh (Zm Zg)) ZC)
   (Zd (Zl (i:=2) scCountFrom.nd rfl (.inl rfl) (Zr g13_ hr (Za (pv 0) Ze)))
   (Zd (Zl (i:=3) scCountFrom.nd rfl (.inl rfl) (Zep (Zv XH (Zp ZB rfl B.len Yw (Za (pv 2) Ze)) Zg (Zw _)) (pv 1) (ZV ZaL (ZV ZaL (pv 2) Zg (fun _ _=>rfl)) Zg (fun _ _=>rfl))))
   (Zd (Zl (i:=4) scCountFrom.nd rfl (.inl rfl) (Zr g25_ hr (Za (pv 0) (Za (pv 3) Ze))))
   (Zd (Yf PassesOwn.never rfl (Yj (pv 0)) (ZS 2 K rfl (Zo (Zy (i:=5) scCountFrom.nd rfl (.inl rfl)) (Zo (Zy (i:=6) scCountFrom.nd rfl (.inl rfl)) ZR)))
    (Zh (Zl (i:=4) scCountFrom.nd rfl (.inl rfl) (Zq Zes (pv 4) (Zr g14_ hr (Za (pv 6) Ze))))))
   (Zh (Zm (pv 4)))))))),?_⟩
  refine ⟨_,rfl,_,rfl,v,ps,e,es,rfl,hR,fun H1 v1 rs s1 hT hrs _ _=>?_⟩
  obtain ⟨q1,rfl,hq1⟩:=hT
  refine ⟨q1,_,rfl,.inr (SqT.of hq1),rfl,by simp [ZbA],_,rfl,?_⟩
  rw [ZeJ]
  by_cases hst:p∈rs
  rotate_left
  ·refine ZbP (by simp [hst]) ?_
   refine k _ 0 s1 ⟨Int.le_refl _,fun ss0 ks _ _ _ _=>⟨fun z=>absurd z (ZhI hO),fun _ _=>rfl,fun _ z=>absurd ((hrs p).mpr z) hst⟩⟩
  refine Zao (by simp [hst]) ?_
  have hSt:=(hrs p).mp hst
  refine ⟨_,rfl,v,e :: es,rfl,hV.same s1,hF,fun v' H2 ss s2 hv' hss=>?_⟩
  have s12:=s1.trans s2
  obtain ⟨q2,us,rfl,hq2,hpa2⟩:=hv'
  obtain ⟨ue,hue⟩:∃ ue,ups (fun y=>-mo (e :: es) y) ss=ue:=⟨_,rfl⟩
  dsimp only
  refine YF (fun σ H'=>H'=H2∧σ=[some v,some (.str p),some (.ref q2),some (.str (Zl1 p ue)),none,none,none]) (fun R hR=>?_) ?_
  ·refine ⟨_,rfl,.ref q2,_,rfl,.inr ⟨_,SqT.of hq2,rfl⟩,rfl,_,rfl,?_⟩
   rw [hpa2.1,hue]
   rw [hue] at hpa2
   cases ue with
   | nil=>exact ZbP (by decide) ⟨_,rfl,hR _ _ ⟨rfl,rfl⟩⟩
   | cons u ue =>
    refine Zao (ZhE (by rw [List.length_cons]; omega)) ?_
    obtain ⟨b,e1,e2⟩:=hpa2.2 0 u rfl
    exact ⟨_,rfl,q2,us,0,.ref b,rfl,rfl,SqT.of hq2,Yn (by decide) e1,b,_,0,.str u.1,rfl,rfl,SqT.of e2,rfl,hR _ _ ⟨rfl,rfl⟩⟩
  rintro σ H2' ⟨rfl,rfl⟩
  refine ⟨_,rfl,_,rfl,v,e :: es,_,rfl,hV.same s12,hF,hW,hn,fun H3 ss' s3 hS'=>?_⟩
  have ess:=SPts.one hS' hss
  subst ess
  have s13:=s12.trans s3
  obtain ⟨n,hdv⟩:=Zli (r:=Zl1 p ue) hF hS'
  have hnn:=ZmC hF ss' (Zl1 p ue)
  have kk:∀ H',Same H H'→Q (.int n) H':=fun H' s'=>by
   refine k H' n s' ⟨?_,fun ss0 ks h1 h2 h3 h4=>⟨fun z=>absurd z (ZhI hO),fun _ z=>absurd hSt z,fun _ _ e' hB=>?_⟩⟩
   ·rw [hdv] at hnn
    have hp:=Za9 ((e :: es).map fun e=>fI e.2) fun y hy=>by
     obtain ⟨x,_,rfl⟩:=List.mem_map.mp hy
     exact ZcG _
    false_or_by_contra
    rename_i c
    have:=Int.mul_neg_of_pos_of_neg (show 0 < prI ((e :: es).map fun e=>fI e.2) by omega) (show n < 0 by omega)
    omega
   ·have he:Zl1 p ue=e':=by rw [← hue]; exact ZkH hO hS' hB
    rw [he] at hdv
    rw [← Zjm hO h3 h4,← ZmD hO hS' h1 h2 e',hdv,Int.mul_comm]
  rw [hdv]
  clear hdv hnn hue hpa2 hq2 hrs hSt hO
  have hW1:=hW.one
  have hF1:=hF.many
  obtain ⟨q,vs,rfl,hq,hpa⟩:=hV.same s13
  clear k hW hF hn hV hR
  generalize e :: es=fs at *
  refine ⟨_,rfl,q,rfl,⟨_,SqT.of hq⟩,Xq (K:=K) (a:=q) (xs:=vs) (fun i σ H4=>(∃ z5 z6:Option V,σ=[some (.ref q),some (.str p),some (.ref q2),some (.str (Zl1 p ue)),some (.int (prI ((fs.drop i).map fun e=>fI e.2) * n)),z5,z6])∧Same H3 H4)
   ⟨⟨none,none,rfl⟩,Same.refl _⟩ (fun i σ H4 _ ⟨_,s4⟩=>SqT.of (s4 _ _ hq)) ?_ ?_⟩
  ·rintro i x σ H4 hi ⟨⟨z5,z6,rfl⟩,s4⟩
   have hiv:i < vs.length:=(List.getElem?_eq_some_iff.mp hi).1
   have hie:i < fs.length:=by rw [← hpa.1]; exact hiv
   obtain ⟨b,e1,e2⟩:=hpa.2 i fs[i] (List.getElem?_eq_getElem hie)
   rw [hi] at e1
   cases e1
   have m1:=hW1 _ (List.getElem_mem hie)
   have m2:=(hF1 _ (List.getElem_mem hie)).1
   rw [List.drop_eq_getElem_cons hie]
   generalize fs[i]=g at *
   have hp:=ZcG g.2
   refine ⟨b,_,rfl,SqT.of (s4 _ _ e2),rfl,_,_,rfl,_,_,rfl,rfl,_,rfl,_,rfl,_,rfl,by omega,m1,_,_,rfl,rfl,⟨by omega,(ZhU m1).big (by decide)⟩,⟨some (.str g.1),some (.int g.2),?_⟩,s4⟩
   rw [List.map_cons,Zu,Int.mul_assoc]
   dsimp only
   rw [Int.mul_fdiv_cancel_left _ (by omega)]
   rfl
  ·rintro σ H4 ⟨⟨z5,z6,rfl⟩,s4⟩
   rw [hpa.1,List.drop_length]
   refine ⟨_,rfl,?_⟩
   rw [List.map_nil,Zbb,Int.one_mul]
   exact kk _ (s13.trans s4)
end
theorem ZlD {Pr:Nat→Int→Prop}:∀ (vs:List V),(∀ (i:Nat) (v:V),vs[i]?=some v→∃ n:Int,v = .int n∧Pr i n)→∃ ns:List Int,vs=ns.map V.int∧∀ (i:Nat) (n:Int),ns[i]?=some n→Pr i n:=by
 intro vs
 induction vs generalizing Pr with
 | nil=>exact fun _=>⟨[],rfl,fun i n h=>by simp at h⟩
 | cons v vs ih =>
  intro h
  obtain ⟨n,e,hn⟩:=h 0 v rfl
  obtain ⟨ns,e2,h2⟩:=ih (Pr:=fun i=>Pr (i + 1)) fun i u hu=>h (i + 1) u hu
  refine ⟨n :: ns,by rw [e,e2]; rfl,fun i m hm=>?_⟩
  cases i with
  | zero=>cases hm; exact hn
  | succ i=>exact h2 i m hm
section
variable {P:Program} {w:World} {K:PySem.W.Frag} {mg:Str→Option Value} {base:Heap}
abbrev JA:Stmt:=top 39
abbrev ZeA:List Str:=["H"]
theorem ZgC:Zk ZeA ["H"] (Zf JA):=⟨rfl,rfl,rfl,by decide +kernel,rfl,by decide +kernel,by decide +kernel⟩
def Zb3:Sp:=fun vs H Q _=>∃ (v:V) (ps:List Str) (e:Str × Int) (es:Es),vs=[v]∧Rw H v ps e es∧∀ H' (rs:List Str) (ns:List Int),Same H H'→(∀ p,p∈rs↔ZbQ ps p)→rs.Nodup→ns.length=rs.length→(∀ (i:Nat) (n:Int),ns[i]?=some n→IsN ps (rs.getD i "") n)→Q (.int ns.sum) H'
theorem Zdn (D:HasDef K mg "count_of" JA ["H"]) (B:Blt mg) (g33_:FOk P w K mg base 7 "starts_of" ["H"] JK) (g10_:FOk P w K mg base 7 "count_from" ["H","P"] Zd7):FOk P w K mg base 8 "count_of" ["H"] Zb3:=by
 refine D.ok ZgC (fun vs H Q E h=>?_) (fun f cdv A outer s H vs Q E hr h=>?_)
 ·obtain ⟨v,ps,e,es,rfl,_⟩:=h
  rfl
 ·obtain ⟨v,ps,e,es,rfl,hR,k⟩:=h
  refine ⟨_,(Zh (Zm (Zp (Zib rfl) rfl B.sum ZjA (Za (ZI (Zf JA) ZeA ["point"] [0] rfl (Yj (Zr g33_ hr (Za (pv 0) Ze))) (fun _ _ _ _ _=>Z6 0) (fun _ _ _ _ _=>ZX) (fun _ _ _ _ _=>(Zr g10_ hr (Za (pv 1) (Za (pv 0) Ze))))) Ze)))),?_⟩
  refine ⟨_,rfl,v,ps,e,es,rfl,hR,fun H1 v1 rs s1 hT hrs hnd hrl=>?_⟩
  obtain ⟨q,rfl,hq⟩:=hT
  refine ⟨q,rfl,⟨_,SqT.of hq⟩,Xa (rs.map V.str).length (fun i=>(rs.map V.str).getD i .non) (fun i v _=>∃ n:Int,v = .int n∧IsN ps (rs.getD i "") n) (Zs (by rw [List.length_map]; omega)) (fun _ _ _ _ _ r=>r) (ZaK (SqT.of hq)) ?_ ?_⟩
  ·intro i H3 Qe hi hs kq
   have hi':i < rs.length:=by rw [List.length_map] at hi; exact hi
   rw [Yv hi']
   refine ⟨_,rfl,_,rfl,v,ps,e,es,rs[i],rfl,hR.same (s1.trans hs),fun H4 n s4 hn=>kq _ _ s4 ⟨n,rfl,?_⟩⟩
   rw [List.getD_eq_getElem?_getD,List.getElem?_eq_getElem hi']
   exact hn
  intro D1 vs1 H3 hl1 hr1 hs3 hD1 hDl1
  obtain ⟨ns,e1,hns⟩:=ZlD (Pr:=fun i n=>IsN ps (rs.getD i "") n) vs1 hr1
  subst e1
  rw [List.length_map,List.length_map] at hl1
  exact ⟨D1,ns,rfl,SqL.of hDl1,k _ rs ns (s1.trans hs3) hrs hnd hl1 hns⟩
end
theorem Zea (x:Str):∀ ss:List Str,(ss.map fun x=>x.cps.toList).Pairwise (· < ·)→∃ tt:List Str,(tt.map fun x=>x.cps.toList).Pairwise (· < ·)∧∀ y,y∈tt↔y=x∨y∈ss
 | [],_=>⟨[x],by simp,fun y=>by simp⟩
 | z :: ss,h=>by
  rw [List.map_cons,List.pairwise_cons] at h
  obtain ⟨h1,h2⟩:=h
  have hz:∀ y∈ss,z.cps.toList < y.cps.toList:=fun y hy=>h1 _ (List.mem_map.mpr ⟨y,hy,rfl⟩)
  by_cases a:x.cps.toList < z.cps.toList
  ·refine ⟨x :: z :: ss,?_,fun y=>by simp⟩
   rw [List.map_cons,List.pairwise_cons,List.map_cons,List.pairwise_cons]
   refine ⟨fun c hc=>?_,h1,h2⟩
   rcases List.mem_cons.mp hc with q | q
   ·rw [q]; exact a
   ·exact List.lt_trans a (h1 c q)
  ·by_cases b:z.cps.toList < x.cps.toList
   ·obtain ⟨tt,t1,t2⟩:=Zea x ss h2
    refine ⟨z :: tt,?_,fun y=>?_⟩
    ·rw [List.map_cons,List.pairwise_cons]
     refine ⟨fun c hc=>?_,t1⟩
     obtain ⟨y,hy,rfl⟩:=List.mem_map.mp hc
     rcases (t2 y).mp hy with q | q
     ·rw [q]; exact b
     ·exact hz y q
    ·rw [List.mem_cons,t2,List.mem_cons]
     exact ⟨fun q=>q.elim (fun q=>.inr (.inl q)) (fun q=>q.elim .inl (fun q=>.inr (.inr q))),fun q=>q.elim (fun q=>.inr (.inl q)) (fun q=>q.elim .inl (fun q=>.inr (.inr q)))⟩
   ·have e:x=z:=ZP (List.le_antisymm (List.not_lt.mp b) (List.not_lt.mp a))
    refine ⟨z :: ss,?_,fun y=>?_⟩
    ·rw [List.map_cons,List.pairwise_cons]
     exact ⟨h1,h2⟩
    ·rw [List.mem_cons,e]
     exact ⟨.inr,fun q=>q.elim .inl id⟩
theorem Xf:∀ l:List Str,∃ tt:List Str,(tt.map fun x=>x.cps.toList).Pairwise (· < ·)∧∀ y,y∈tt↔y∈l
 | []=>⟨[],by simp,fun y=>by simp⟩
 | x :: l=>by
  obtain ⟨ss,h1,h2⟩:=Xf l
  obtain ⟨tt,t1,t2⟩:=Zea x ss h1
  exact ⟨tt,t1,fun y=>by rw [t2,h2,List.mem_cons]⟩
theorem Zd3 {tt:List Str} (h:(tt.map fun x=>x.cps.toList).Pairwise (· < ·)):tt.Nodup:=by
 rw [List.nodup_iff_pairwise_ne]
 refine List.Pairwise.imp ?_ (List.pairwise_map.mp h)
 intro x y hxy e
 rw [e] at hxy
 exact List.lt_irrefl _ hxy
structure RowOk (ps:List Str):Prop where
 len:ps.length≤30
 one:∀ x∈ps,(1≤x.length∧x.length≤1000)∧PyData.strOk x=true
 pts:∀ l:List Str,l.Nodup→(∀ y∈l,inP ps y=true)→l.length≤29
 same:∃ L:Nat,1≤L∧L≤63∧∀ x∈ps,x.length=L
theorem ZeK {ps qs:List Str} (h:∀ x∈qs,x∈ps) {y:Str} (k:inP qs y=true):inP ps y=true:=by
 obtain ⟨x,hx,q⟩:=inP_iff.mp k
 exact inP_iff.mpr ⟨x,h x hx,q⟩
theorem RowOk.sub {ps qs:List Str} (h:RowOk ps) (hs:∀ x∈qs,x∈ps) (hl:qs.length≤ps.length):RowOk qs:=⟨Nat.le_trans hl h.len,fun x hx=>h.one x (hs x hx),fun l nd hi=>h.pts l nd fun y hy=>ZeK hs (hi y hy),h.same.imp fun L q=>⟨q.1,q.2.1,fun x hx=>q.2.2 x (hs x hx)⟩⟩
theorem ZnI {H:Hp} {v:V} {ps:List Str} {hp:Es} (hR:RowOk ps) (hne:ps≠[]) (hA:HpAt H v hp) (hO:ZJ ps hp):∃ e es,hp=e :: es∧Rw H v ps e es:=by
 have hlen:=ZeL hO
 have hl:=hR.len
 cases hp with
 | nil =>
  cases ps with
  | nil=>exact absurd rfl hne
  | cons x ps=>exact absurd ((hO.mem x).mpr List.mem_cons_self) (by simp)
 | cons e es =>
  refine ⟨e,es,rfl,ZeM hA,hO,⟨by omega,fun g hg=>?_,fun g hg=>?_⟩,Zm5 hO hl,fun ss hS=>hR.pts ss hS.pts.nd fun y hy=>(YO hO hS).mpr hy⟩
  ·have h1:=hO.cnt g hg
   have h2:=List.count_le_length (a:=g.1) (l:=ps)
   omega
  ·exact (hR.one _ ((hO.mem g.1).mp (List.mem_map.mpr ⟨g,hg,rfl⟩))).1
section
variable {P:Program} {w:World} {K:PySem.W.Frag} {mg:Str→Option Value} {base:Heap}
end
theorem Zge (ps:List Str):∃ ss0 ks:List Str,(ss0.map fun x=>x.cps.toList).Pairwise (· < ·)∧(∀ y,inP ps y=true→y∈ss0)∧ks.Nodup∧∀ x∈ps,x∈ks:=by
 obtain ⟨ss0,t1,t2⟩:=Xf (ps.map bg ++ ps.map en)
 obtain ⟨ks,u1,u2⟩:=Xf ps
 refine ⟨ss0,ks,t1,fun y hy=>?_,Zd3 u1,fun x hx=>(u2 x).mpr hx⟩
 obtain ⟨x,hx,q⟩:=inP_iff.mp hy
 rw [t2,List.mem_append,List.mem_map,List.mem_map]
 exact q.elim (fun q=>.inl ⟨x,hx,q⟩) (fun q=>.inr ⟨x,hx,q⟩)
theorem ZlC {ps:List Str} {P:Str} {n m:Int} (h:IsN ps P n) (k:IsN ps P m):n=m:=by
 obtain ⟨ss0,ks,t1,t2,t3,t4⟩:=Zge ps
 obtain ⟨a1,a2,a3⟩:=h.2 ss0 ks t1 t2 t3 t4
 obtain ⟨b1,b2,b3⟩:=k.2 ss0 ks t1 t2 t3 t4
 by_cases c:ps=[]
 ·rw [a1 c,b1 c]
 by_cases d:ZbQ ps P
 ·obtain ⟨_,_,e,hB⟩:=id d
  have hp:=ZgS ks ps
  exact Int.eq_of_mul_eq_mul_right (by omega) ((a3 c d e hB).trans (b3 c d e hB).symm)
 ·rw [a2 c d,b2 c d]
theorem Ze8 {ps rs ss:List Str} {ns:List Int} {m:Str→Int} (hne:ps≠[]) (hrs:∀ p,p∈rs↔ZbQ ps p) (ndr:rs.Nodup) (hl:ns.length=rs.length) (hns:∀ (i:Nat) (n:Int),ns[i]?=some n→IsN ps (rs.getD i "") n) (nds:ss.Nodup) (hss:∀ y,inP ps y=true→y∈ss)
  (hm:∀ y∈ss,IsN ps y (m y)):ns.sum=(ss.map m).sum:=by
 have hsub:∀ p∈rs,p∈ss:=fun p hp=>hss p ((hrs p).mp hp).2.1
 have e1:ns=rs.map m:=by
  refine List.ext_getElem (by rw [List.length_map]; exact hl) fun i h1 h2=>?_
  have hi:i < rs.length:=by omega
  have:=hns i ns[i] (List.getElem?_eq_getElem h1)
  rw [List.getD_eq_getElem?_getD,List.getElem?_eq_getElem hi] at this
  rw [List.getElem_map]
  exact ZlC this (hm _ (hsub _ (List.getElem_mem hi)))
 have e2:∀ l:List Str,(∀ y∈l,y∈ss)→(l.map m).sum=((l.filter fun y=>decide (y∈rs)).map m).sum:=fun l=>by
  induction l with
  | nil=>exact fun _=>rfl
  | cons y l ih =>
   intro h
   have ih:=ih fun z hz=>h z (List.mem_cons_of_mem _ hz)
   by_cases c:y∈rs
   ·rw [List.filter_cons_of_pos (by simpa using c),List.map_cons,List.map_cons,List.sum_cons,List.sum_cons,ih]
   ·rw [List.filter_cons_of_neg (by simpa using c),List.map_cons,List.sum_cons,ih]
    obtain ⟨ss0,ks,t1,t2,t3,t4⟩:=Zge ps
    rw [((hm y (h y List.mem_cons_self)).2 ss0 ks t1 t2 t3 t4).2.1 hne fun z=>c ((hrs y).mpr z),Int.zero_add]
 have e3:(ss.filter fun y=>decide (y∈rs)).Perm rs:=by
  rw [List.perm_ext_iff_of_nodup (nds.filter _) ndr]
  intro y
  rw [List.mem_filter]
  exact ⟨fun h=>of_decide_eq_true h.2,fun h=>⟨hsub y h,decide_eq_true h⟩⟩
 rw [e1,e2 ss fun _ h=>h]
 exact (Zeo (e3.map m)).symm
theorem cut_from {ps:List Str} {j:Nat} (h:j≤ps.length):ZeW (ps.map V.str) (some (j:Int)) none=(ps.drop j).map V.str:=by
 unfold ZeW
 have h1:HT.sIx (ps.map V.str).length 0 (some (j:Int))=j:=by
  rw [HT.sIx_nat,List.length_map]
  exact Nat.min_eq_left h
 have h2:HT.sIx (ps.map V.str).length (ps.map V.str).length none=(ps.map V.str).length:=rfl
 rw [h1,h2,List.take_of_length_le (by rw [List.length_drop]; exact Nat.le_refl _),List.map_drop]
section
variable {P:Program} {w:World} {K:PySem.W.Frag} {mg:Str→Option Value} {base:Heap}
end
theorem ZaP {ss kk ps:List Str} {P e:Str} (nds:ss.Nodup) (ndk:kk.Nodup) (hss:∀ y,inP ps y=true→y∈ss) (hkk:∀ x∈ps,x∈kk) (hB:Bal ps P e) (hI:inP ps P=true) :
  BR ss ps e=((kk.filter fun x=>decide (bg x=P)).map fun x=>(ps.count x:Int) * BR ss (ps.erase x) e).sum:=by
 rw [Zij nds hss hB hI]
 have f1:∀ (l:List Str) (g:Str→Int),((l.filter fun x=>decide (bg x=P)).map g).sum=(l.map fun x=>if bg x=P then g x else 0).sum:=fun l g=>by
  induction l with
  | nil=>rfl
  | cons y l ih =>
   rw [List.map_cons,List.sum_cons,← ih]
   by_cases c:bg y=P
   ·rw [if_pos c,List.filter_cons_of_pos (by simpa using c),List.map_cons,List.sum_cons]
   ·rw [if_neg c,List.filter_cons_of_neg (by simpa using c),Int.zero_add]
 rw [f1,f1,← ZbG ndk _ ps hkk]
 congr 1
 refine List.map_congr_left fun x _=>?_
 by_cases c:bg x=P
 ·rw [if_pos c,if_pos c]
 ·rw [if_neg c,if_neg c,Int.mul_zero]
theorem Zc3 {ss ps:List Str} (hss:∀ y,inP ps y=true→y∈ss) (x y:Str) (h:inP (ps.erase x) y=true):y∈ss:=hss y (ZeK (fun z hz=>List.mem_of_mem_erase hz) h)
theorem ZkC {ss ks:List Str} (nds:ss.Nodup) (ndk:ks.Nodup):∀ (n:Nat) (ps:List Str) (P e:Str),ps.length=n→(∀ y,inP ps y=true→y∈ss)→(∀ x∈ps,x∈ks)→Bal ps P e→prK ks ps ∣ BR ss ps e
 | 0,ps,P,e,hl,_,_,_=>by
  rw [List.length_eq_zero_iff.mp hl,ZgT]
  exact Int.one_dvd _
 | n + 1,ps,P,e,hl,hss,hks,hB=>by
  have hne:ps≠[]:=fun z=>by rw [z] at hl; cases hl
  by_cases hS:ZbQ ps P
  ·rw [ZaP nds ndk hss hks hB hS.2.1]
   refine Zc2 _ fun z hz=>?_
   obtain ⟨x,hx,rfl⟩:=List.mem_map.mp hz
   obtain ⟨hx1,hx2⟩:=List.mem_filter.mp hx
   have hb:bg x=P:=of_decide_eq_true hx2
   by_cases c:x∈ps
   ·rw [Zen ndk hx1 c]
    refine Int.mul_dvd_mul (Int.dvd_refl _) (ZkC nds ndk n (ps.erase x) (en x) e ?_ (Zc3 hss x) (fun y hy=>hks y (List.mem_of_mem_erase hy)) (ZeY hB (List.perm_cons_erase c) hb))
    rw [List.length_erase_of_mem c]
    omega
   ·rw [List.count_eq_zero_of_not_mem c]
    rw [Int.natCast_zero,Int.zero_mul]
    exact Int.dvd_zero _
  ·rw [Zew hss hne hB hS]
   exact Int.dvd_zero _
theorem ZlV {ps:List Str} {P e e':Str} (h:Bal ps P e) (k:Bal ps P e'):e=e':=by
 have h1:=h e
 have h2:=k e
 rw [if_pos (rfl:e=e)] at h1
 false_or_by_contra
 rename_i c
 rw [if_neg c] at h2
 omega
theorem Zm1 {ss ks:List Str} (nds:ss.Nodup) (ndk:ks.Nodup) (ps:List Str) (P:Str) (hss:∀ y,inP ps y=true→y∈ss) (hks:∀ x∈ps,x∈ks):∃ n,IsC ss ks ps P n:=by
 by_cases c:ps=[]
 ·exact ⟨1,fun _=>rfl,fun z=>absurd c z,fun z=>absurd c z⟩
 by_cases d:ZbQ ps P
 ·obtain ⟨_,_,e,hB⟩:=id d
  obtain ⟨n,hn⟩:=ZkC nds ndk _ ps P e rfl hss hks hB
  refine ⟨n,fun z=>absurd z c,fun _ z=>absurd d z,fun _ _ e' hB'=>?_⟩
  rw [ZlV hB' hB,hn,Int.mul_comm]
 ·exact ⟨0,fun z=>absurd z c,fun _ _=>rfl,fun _ z=>absurd z d⟩
theorem ZdG {ss ks kk ps:List Str} {P:Str} {m:Str→Int} (nds:ss.Nodup) (ndk:ks.Nodup) (ndkk:kk.Nodup) (hss:∀ y,inP ps y=true→y∈ss) (hks:∀ x∈ps,x∈ks) (hkk:∀ x,x∈kk↔x∈ps) (hne:ps≠[])
  (hm:∀ x∈ps,bg x=P→IsC ss ks (ps.erase x) (en x) (m x)):IsC ss ks ps P ((kk.filter fun x=>decide (bg x=P)).map m).sum:=by
 obtain ⟨n,hn⟩:=Zm1 nds ndk ps P hss hks
 have hfk:∀ x∈kk.filter (fun x=>decide (bg x=P)),x∈ps∧bg x=P:=fun x hx=>⟨(hkk x).mp (List.mem_filter.mp hx).1,of_decide_eq_true (List.mem_filter.mp hx).2⟩
 have key:n=((kk.filter fun x=>decide (bg x=P)).map m).sum:=by
  by_cases hS:ZbQ ps P
  ·obtain ⟨hC,hI,e,hB⟩:=id hS
   have h1:=hn.2.2 hne hS e hB
   rw [ZaP nds ndkk hss (fun x hx=>(hkk x).mpr hx) hB hI] at h1
   have h2:∀ x∈kk.filter (fun x=>decide (bg x=P)),m x * prK ks ps=(ps.count x:Int) * BR ss (ps.erase x) e:=fun x hx=>by
    obtain ⟨hx1,hx2⟩:=hfk x hx
    have hI2:=hm x hx1 hx2
    have hB2:=ZeY hB (List.perm_cons_erase hx1) hx2
    have h3:m x * prK ks (ps.erase x)=BR ss (ps.erase x) e:=by
     by_cases c:ps.erase x=[]
     ·rw [hI2.1 c,c,Znl,ZgT]
      rfl
     ·by_cases d:ZbQ (ps.erase x) (en x)
      ·exact hI2.2.2 c d e hB2
      ·rw [hI2.2.1 c d,Zew (Zc3 hss x) c hB2 d,Int.zero_mul]
    rw [Zen ndk (hks x hx1) hx1,Int.mul_left_comm,h3]
   have h5:((kk.filter fun x=>decide (bg x=P)).map m).sum * prK ks ps=n * prK ks ps:=by
    rw [h1,Jw,List.map_map]
    congr 1
    exact List.map_congr_left fun x hx=>h2 x hx
   have hp:=ZgS ks ps
   exact (Int.eq_of_mul_eq_mul_right (by omega) h5).symm
  ·have sum0:∀ (l:List Str) (g:Str→Int),(∀ y∈l,g y=0)→(l.map g).sum=0:=fun l g h=>by
    induction l with
    | nil=>rfl
    | cons y l ih =>
     rw [List.map_cons,List.sum_cons,h y List.mem_cons_self,ih fun z hz=>h z (List.mem_cons_of_mem _ hz)]
     rfl
   rw [hn.2.1 hne hS,sum0]
   intro x hx
   obtain ⟨hx1,hx2⟩:=hfk x hx
   have hI2:=hm x hx1 hx2
   by_cases c:ps.erase x=[]
   ·exact absurd (hx2 ▸ Zgd (List.perm_cons_erase hx1) (.inl c)) hS
   ·refine hI2.2.1 c fun d=>hS ?_
    exact hx2 ▸ Zgd (List.perm_cons_erase hx1) (.inr d)
 exact key ▸ hn
end Sh
namespace Sh
open PySem L2 PyProof.Rows
noncomputable def Zcu (ps:List Str):List Str:=Classical.choose (Xf ps)
theorem XO (ps:List Str):((Zcu ps).map fun x=>x.cps.toList).Pairwise (· < ·):=(Classical.choose_spec (Xf ps)).1
theorem Yu (ps:List Str) (x:Str):x∈Zcu ps↔x∈ps:=(Classical.choose_spec (Xf ps)).2 x
theorem Zjf (ps:List Str):(Zcu ps).Nodup:=Zd3 (XO ps)
def ls (x:Str):Nat:=x.cps.toList.getD (x.length - 1) 0
noncomputable def Zg1 (ps:List Str) (p:Str):List Str:=(Zcu ps).filter fun k=>decide (bg k=p)
noncomputable def tls:Nat→List Str→Str→List (List Nat)
 | 0,_,_=>[[]]
 | n + 1,ps,p=>(Zg1 ps p).flatMap fun k=>(tls n (ps.erase k) (en k)).map fun t=>ls k :: t
noncomputable def tl (ps:List Str) (p:Str):List (List Nat):=tls ps.length ps p
theorem ZjL (p:Str):tl [] p=[[]]:=rfl
theorem outK_mem {ps:List Str} {p k:Str}:k∈Zg1 ps p↔k∈ps∧bg k=p:=by
 unfold Zg1
 rw [List.mem_filter,Yu,decide_eq_true_iff]
theorem Y4 {α β:Type} {f g:α→List β}:∀ l:List α,(∀ x∈l,f x=g x)→l.flatMap f=l.flatMap g
 | [],_=>rfl
 | x :: l,h=>by rw [List.flatMap_cons,List.flatMap_cons,h x List.mem_cons_self,Y4 l fun y hy=>h y (List.mem_cons_of_mem _ hy)]
theorem XV {ps:List Str} (hne:ps≠[]) (p:Str):tl ps p=(Zg1 ps p).flatMap fun k=>(tl (ps.erase k) (en k)).map fun t=>ls k :: t:=by
 unfold tl
 obtain ⟨n,hn⟩:∃ n,ps.length=n + 1:=⟨ps.length - 1,by have:=List.length_pos_iff.mpr hne; omega⟩
 rw [hn]
 refine Y4 _ fun k hk=>?_
 rw [List.length_erase_of_mem (outK_mem.mp hk).1,hn]
 rfl
theorem Zbz {α β:Type} (f:α→List β):∀ l:List α,((l.flatMap f).length:Int)=(l.map fun x=>((f x).length:Int)).sum
 | []=>rfl
 | x :: l=>by rw [List.flatMap_cons,List.length_append,List.map_cons,List.sum_cons,← Zbz f l]; push_cast; rfl
theorem ZjN {ss ks:List Str} (nds:ss.Nodup) (ndk:ks.Nodup):∀ (n:Nat) (ps:List Str) (p:Str),ps.length=n→(∀ y,inP ps y=true→y∈ss)→(∀ x∈ps,x∈ks)→IsC ss ks ps p (tl ps p).length
 | 0,ps,p,hl,_,_=>by
  have e:=List.length_eq_zero_iff.mp hl
  subst e
  exact ⟨fun _=>rfl,fun z=>absurd rfl z,fun z=>absurd rfl z⟩
 | n + 1,ps,p,hl,hss,hks=>by
  have hne:ps≠[]:=fun z=>by rw [z] at hl; cases hl
  rw [XV hne,Zbz]
  have e:((Zg1 ps p).map fun x=>(((tl (ps.erase x) (en x)).map fun t=>ls x :: t).length:Int))=(Zg1 ps p).map fun x=>((tl (ps.erase x) (en x)).length:Int):=List.map_congr_left fun x _=>by rw [List.length_map]
  rw [e]
  refine ZdG nds ndk (Zjf ps) hss hks (Yu ps) hne fun x hx hb=>?_
  refine ZjN nds ndk n (ps.erase x) (en x) ?_ (Zc3 hss x) fun y hy=>hks y (List.mem_of_mem_erase hy)
  rw [List.length_erase_of_mem hx,hl]
  rfl
def Srt (l:List (List Nat)):Prop:=l.Pairwise (· < ·)
theorem ZkU {l m:List (List Nat)} (h1:Srt l) (h2:Srt m) (h:∀ a∈l,∀ b∈m,a < b):Srt (l ++ m):=List.pairwise_append.mpr ⟨h1,h2,h⟩
theorem ZaS {α:Type} {f:α→List (List Nat)}:∀ l:List α,(∀ x∈l,Srt (f x))→l.Pairwise (fun x y=>∀ a∈f x,∀ b∈f y,a < b)→Srt (l.flatMap f)
 | [],_,_=>List.Pairwise.nil
 | x :: l,h1,h2=>by
  obtain ⟨h3,h4⟩:=List.pairwise_cons.mp h2
  rw [List.flatMap_cons]
  refine ZkU (h1 x List.mem_cons_self) (ZaS l (fun y hy=>h1 y (List.mem_cons_of_mem _ hy)) h4) fun a ha b hb=>?_
  obtain ⟨y,hy,hb⟩:=List.mem_flatMap.mp hb
  exact h3 y hy a ha b hb
theorem Zgg {g:List Nat→List Nat} (hg:∀ a b,a < b→g a < g b) {l:List (List Nat)} (h:Srt l):Srt (l.map g):=List.pairwise_map.mpr (List.Pairwise.imp (hg _ _) h)
theorem JC {x:Str} (h:1≤x.length):x.cps.toList=(bg x).cps.toList ++ [ls x]:=by
 have hl:x.cps.toList.length=x.length:=ZY x
 unfold bg ls
 rw [Jf]
 have hne:x.cps.toList≠[]:=fun z=>by rw [z] at hl; simp at hl; omega
 conv=>lhs; rw [← List.dropLast_concat_getLast hne]
 congr 1
 rw [List.getLast_eq_getElem,List.getD_eq_getElem?_getD,List.getElem?_eq_getElem (show x.length - 1 < x.cps.toList.length by omega)]
 simp [hl]
theorem ZnT {x y:Str} (hx:1≤x.length) (hy:1≤y.length) (hb:bg x=bg y):x.cps.toList < y.cps.toList↔ls x < ls y:=by
 rw [JC hx,JC hy,hb]
 generalize (bg y).cps.toList=z
 induction z with
 | nil =>
  rw [List.nil_append,List.nil_append,List.cons_lt_cons_iff]
  constructor
  ·rintro (h | ⟨_,h⟩)
   ·exact h
   ·exact absurd h (List.lt_irrefl _)
  ·exact .inl
 | cons c z ih =>
  rw [List.cons_append,List.cons_append,List.cons_lt_cons_iff]
  constructor
  ·rintro (h | ⟨_,h⟩)
   ·omega
   ·exact ih.mp h
  ·exact fun h=>.inr ⟨rfl,ih.mpr h⟩
def Lng (ps:List Str):Prop:=∀ x∈ps,1≤x.length
theorem Lng.erase {ps:List Str} (h:Lng ps) (x:Str):Lng (ps.erase x):=fun y hy=>h y (List.mem_of_mem_erase hy)
theorem ZiT (ps:List Str) (p:Str):((Zg1 ps p).map fun x=>x.cps.toList).Pairwise (· < ·):=by
 have h:=XO ps
 rw [List.pairwise_map] at h ⊢
 exact h.sublist (List.filter_sublist)
theorem Zlh {ps:List Str} (hL:Lng ps) (p:Str):((Zg1 ps p).map ls).Pairwise (· < ·):=by
 have h:=ZiT ps p
 rw [List.pairwise_map] at h ⊢
 refine List.Pairwise.imp_of_mem (fun {x y} hx hy hxy=>?_) h
 obtain ⟨x1,x2⟩:=outK_mem.mp hx
 obtain ⟨y1,y2⟩:=outK_mem.mp hy
 exact (ZnT (hL x x1) (hL y y1) (x2.trans y2.symm)).mp hxy
theorem ZjK:∀ (n:Nat) (ps:List Str) (p:Str),ps.length=n→Lng ps→Srt (tl ps p)
 | 0,ps,p,hl,_=>by
  rw [List.length_eq_zero_iff.mp hl]
  exact List.pairwise_singleton _ _
 | n + 1,ps,p,hl,hL=>by
  have hne:ps≠[]:=fun z=>by rw [z] at hl; cases hl
  rw [XV hne]
  refine ZaS _ (fun k hk=>Zgg (fun a b hab=>List.cons_lt_cons_iff.mpr (.inr ⟨rfl,hab⟩)) (ZjK n _ _ ?_ (hL.erase k))) ?_
  ·rw [List.length_erase_of_mem (outK_mem.mp hk).1,hl]
   rfl
  ·have h:=Zlh hL p
   rw [List.pairwise_map] at h
   refine List.Pairwise.imp (fun {x y} hxy a ha b hb=>?_) h
   obtain ⟨t,_,rfl⟩:=List.mem_map.mp ha
   obtain ⟨u,_,rfl⟩:=List.mem_map.mp hb
   exact List.cons_lt_cons_iff.mpr (.inl hxy)
noncomputable def txs (ss ps:List Str):List (List Nat):=ss.flatMap fun p=>(tl ps p).map fun t=>p.cps.toList ++ t
theorem Znj {a:List Nat} {t u:List Nat} (h:t < u):a ++ t < a ++ u:=by
 induction a with
 | nil=>exact h
 | cons c a ih=>exact List.cons_lt_cons_iff.mpr (.inr ⟨rfl,ih⟩)
theorem Zki:∀ {a b t u:List Nat},a.length=b.length→a < b→a ++ t < b ++ u
 | [],[],_,_,_,h=>absurd h (List.lt_irrefl _)
 | c :: a,d :: b,t,u,hl,h=>by
  rw [List.cons_append,List.cons_append]
  rw [List.cons_lt_cons_iff] at h ⊢
  rcases h with h | ⟨h1,h2⟩
  ·exact .inl h
  ·exact .inr ⟨h1,Zki (by simpa using hl) h2⟩
theorem ZkI {ss ps:List Str} (hs:(ss.map fun x=>x.cps.toList).Pairwise (· < ·)) {L:Nat} (hL:∀ p∈ss,p.length=L) (hP:Lng ps):Srt (txs ss ps):=by
 unfold txs
 refine ZaS _ (fun p _=>Zgg (fun a b hab=>Znj hab) (ZjK _ ps p rfl hP)) ?_
 rw [List.pairwise_map] at hs
 refine List.Pairwise.imp_of_mem (fun {x y} hx hy hxy a ha b hb=>?_) hs
 obtain ⟨t,_,rfl⟩:=List.mem_map.mp ha
 obtain ⟨u,_,rfl⟩:=List.mem_map.mp hb
 refine Zki ?_ hxy
 rw [ZY,ZY,hL x hx,hL y hy]
theorem ZkL (ss ps:List Str):((txs ss ps).length:Int)=(ss.map fun p=>((tl ps p).length:Int)).sum:=by
 unfold txs
 rw [Zbz]
 congr 1
 exact List.map_congr_left fun x _=>by rw [List.length_map]
def Znk:Str→List Str→Prop
 | _,[]=>True
 | p,w :: ws=>bg w=p∧Znk (en w) ws
theorem ZjM:∀ (n:Nat) (ps:List Str) (p:Str) (t:List Nat),ps.length=n→t∈tl ps p→∃ ws:List Str,ws.Perm ps∧Znk p ws∧t=ws.map ls
 | 0,ps,p,t,hl,h=>by
  have e:=List.length_eq_zero_iff.mp hl
  subst e
  rw [ZjL,List.mem_singleton] at h
  exact ⟨[],List.Perm.refl _,trivial,h⟩
 | n + 1,ps,p,t,hl,h=>by
  have hne:ps≠[]:=fun z=>by rw [z] at hl; cases hl
  rw [XV hne] at h
  obtain ⟨k,hk,h⟩:=List.mem_flatMap.mp h
  obtain ⟨t',ht',rfl⟩:=List.mem_map.mp h
  obtain ⟨hk1,hk2⟩:=outK_mem.mp hk
  obtain ⟨ws,h1,h2,h3⟩:=ZjM n (ps.erase k) (en k) t' (by rw [List.length_erase_of_mem hk1,hl]; rfl) ht'
  refine ⟨k :: ws,?_,⟨hk2,h2⟩,by rw [h3]; rfl⟩
  exact (h1.cons k).trans (List.perm_cons_erase hk1).symm
theorem Zfu {ps qs:List Str} (h:ps.Perm qs):Zcu ps=Zcu qs:=by
 have e:=XZ (XO ps) (XO qs) fun z=>by
  constructor
  ·intro q
   obtain ⟨x,hx,e⟩:=List.mem_map.mp q
   exact List.mem_map.mpr ⟨x,(Yu qs x).mpr (h.mem_iff.mp ((Yu ps x).mp hx)),e⟩
  ·intro q
   obtain ⟨x,hx,e⟩:=List.mem_map.mp q
   exact List.mem_map.mpr ⟨x,(Yu ps x).mpr (h.mem_iff.mpr ((Yu qs x).mp hx)),e⟩
 refine List.ext_getElem ?_ fun i h1 h2=>?_
 ·have:=congrArg List.length e
  simp only [List.length_map] at this
  exact this
 ·have:((Zcu ps).map fun x=>x.cps.toList)[i]?=((Zcu qs).map fun x=>x.cps.toList)[i]?:=by rw [e]
  rw [List.getElem?_map,List.getElem?_map,List.getElem?_eq_getElem h1,List.getElem?_eq_getElem h2] at this
  exact ZP (Option.some.inj this)
theorem ZfX:∀ (n:Nat) (ps qs:List Str) (p:Str),ps.length=n→ps.Perm qs→tl ps p=tl qs p
 | 0,ps,qs,p,hl,h=>by
  have e:=List.length_eq_zero_iff.mp hl
  subst e
  rw [List.Perm.eq_nil h.symm]
 | n + 1,ps,qs,p,hl,h=>by
  have hne:ps≠[]:=fun z=>by rw [z] at hl; cases hl
  have hne2:qs≠[]:=fun z=>by rw [z] at h; exact hne (List.Perm.eq_nil h)
  rw [XV hne,XV hne2]
  have eo:Zg1 ps p=Zg1 qs p:=by unfold Zg1; rw [Zfu h]
  rw [eo]
  refine Y4 _ fun k hk=>?_
  have hk1:=h.mem_iff.mpr (outK_mem.mp hk).1
  rw [ZfX n (ps.erase k) (qs.erase k) (en k) (by rw [List.length_erase_of_mem hk1,hl]; rfl) (h.erase k)]
theorem Ziv {ss ps qs:List Str} (h:ps.Perm qs):txs ss ps=txs ss qs:=by
 unfold txs
 exact Y4 _ fun p _=>by rw [ZfX _ ps qs p rfl h]
theorem Zca {L:Nat} (hL:1≤L):∀ (ws:List Str) (p:Str),ws≠[]→Znk p ws→(∀ w∈ws,w.length=L)→p.length=L - 1→(p.cps.toList ++ ws.map ls).length=L - 1 + ws.length∧pcs (p.cps.toList ++ ws.map ls) L=ws
 | [],_,h,_,_,_=>absurd rfl h
 | w :: ws,p,_,hc,hw,hp=>by
  obtain ⟨h1,h2⟩:=hc
  have hwl:=hw w List.mem_cons_self
  have hpl:p.cps.toList.length=L - 1:=by rw [ZY,hp]
  have hlen:(p.cps.toList ++ (w :: ws).map ls).length=L - 1 + (w :: ws).length:=by rw [List.length_append,List.length_map,hpl]
  refine ⟨hlen,?_⟩
  have hwc:w.cps.toList=p.cps.toList ++ [ls w]:=by rw [JC (by omega),h1]
  have hen:(en w).cps.toList ++ ws.map ls=(p.cps.toList ++ (w :: ws).map ls).drop 1:=by
   unfold en
   rw [Jf,hwc,List.map_cons]
   have e:p.cps.toList ++ ls w :: ws.map ls=(p.cps.toList ++ [ls w]) ++ ws.map ls:=by simp
   rw [e]
   have hq:1≤(p.cps.toList ++ [ls w]).length:=by simp
   generalize p.cps.toList ++ [ls w]=q at hq ⊢
   rw [List.drop_append_of_le_length hq]
  have htk:(p.cps.toList ++ (w :: ws).map ls).take L=w.cps.toList:=by
   rw [hwc,List.map_cons]
   have e:p.cps.toList ++ ls w :: ws.map ls=(p.cps.toList ++ [ls w]) ++ ws.map ls:=by simp
   rw [e,List.take_append_of_le_length (by rw [List.length_append,hpl]; simp; omega),List.take_of_length_le (by rw [List.length_append,hpl]; simp; omega)]
  unfold pcs
  rw [hlen]
  have en1:L - 1 + (w :: ws).length - L + 1=ws.length + 1:=by rw [List.length_cons]; omega
  rw [en1,List.range_succ_eq_map,List.map_cons,List.drop_zero,htk,tx_eta,List.map_map]
  congr 1
  cases ws with
  | nil=>rfl
  | cons w2 ws2 =>
   have henl:(en w).length=L - 1:=by
    unfold en
    rw [ZG,List.length_drop,ZY,hwl]
   obtain ⟨i1,i2⟩:=Zca hL (w2 :: ws2) (en w) (List.cons_ne_nil _ _) h2 (fun x hx=>hw x (List.mem_cons_of_mem _ hx)) henl
   rw [hen] at i1 i2
   conv=>rhs; rw [← i2]
   unfold pcs
   have e2:(((p.cps.toList ++ (w :: w2 :: ws2).map ls).drop 1).length - L + 1)=(w2 :: ws2).length:=by rw [i1]; rw [List.length_cons]; omega
   rw [e2]
   refine List.map_congr_left fun i _=>?_
   show tx (((p.cps.toList ++ (w :: w2 :: ws2).map ls).drop (i + 1)).take L)=_
   rw [List.drop_drop,Nat.add_comm 1 i]
theorem ZcO {L:Nat} (hL:1≤L):∀ (n:Nat) (z:List Nat),z.length=L + n→Znk (tx (z.take (L - 1))) (pcs z L)∧z=z.take (L - 1) ++ (pcs z L).map ls∧(pcs z L).length=n + 1
 | n,z,hz=>by
  have hw0:pcs z L=tx (z.take L) :: pcs (z.drop 1) L∨n=0:=by
   by_cases c:n=0
   ·exact .inr c
   ·left
    unfold pcs
    rw [hz,show L + n - L + 1=(n - 1 + 1) + 1 by omega,List.range_succ_eq_map,List.map_cons,List.drop_zero,List.map_map,List.length_drop,hz,show L + n - 1 - L + 1=n - 1 + 1 by omega]
    congr 1
    refine List.map_congr_left fun i _=>?_
    show tx ((z.drop (i + 1)).take L)=tx (((z.drop 1).drop i).take L)
    rw [List.drop_drop,Nat.add_comm 1 i]
  have hbg:bg (tx (z.take L))=tx (z.take (L - 1)):=by
   unfold bg
   rw [Jf,List.dropLast_eq_take,List.length_take,List.take_take]
   congr 2
   omega
  have hls:z.take L=z.take (L - 1) ++ [ls (tx (z.take L))]:=by
   have h1:1≤(tx (z.take L)).length:=by rw [ZG,List.length_take]; omega
   have:=JC h1
   rw [Jf,hbg,Jf] at this
   exact this
  rcases hw0 with e | e
  ·cases n with
   | zero =>
    exfalso
    have h1:=congrArg List.length e
    unfold pcs at h1
    simp only [List.length_map,List.length_range,List.length_cons] at h1
    rw [List.length_drop] at h1
    omega
   | succ n =>
    obtain ⟨i1,i2,i3⟩:=ZcO hL n (z.drop 1) (by rw [List.length_drop]; omega)
    have hen:en (tx (z.take L))=tx ((z.drop 1).take (L - 1)):=by
     unfold en
     rw [Jf,List.drop_take]
    rw [e]
    refine ⟨⟨hbg,by rw [hen]; exact i1⟩,?_,by rw [List.length_cons,i3]⟩
    rw [List.map_cons]
    have e2:z.take (L - 1) ++ ls (tx (z.take L)) :: (pcs (z.drop 1) L).map ls=z.take L ++ (pcs (z.drop 1) L).map ls:=by
     conv=>rhs; rw [hls]
     simp
    rw [e2]
    have e3:(pcs (z.drop 1) L).map ls=z.drop L:=by
     have h2:z.drop 1=(z.drop 1).take (L - 1) ++ (z.drop 1).drop (L - 1):=(List.take_append_drop _ _).symm
     have h3:=i2.symm.trans h2
     have h4:=List.append_cancel_left h3
     rw [h4,List.drop_drop]
     congr 1
     omega
    rw [e3,List.take_append_drop]
  ·subst e
   have e1:pcs z L=[tx (z.take L)]:=by
    unfold pcs
    rw [hz,show L + 0 - L + 1=1 by omega]
    rfl
   rw [e1]
   refine ⟨⟨hbg,trivial⟩,?_,rfl⟩
   have:z.take L=z:=List.take_of_length_le (by omega)
   rw [List.map_cons,List.map_nil,← hls,this]
end Sh
namespace Sh
open PySem L2 PyProof.Rows
seal L2.PE L2.PS L2.PSs L2.PT L2.PW L2.PA L2.PI L2.PG L2.PGs L2.PO L2.PC L2.PCs L2.OpR L2.UnR L2.CallR L2.MtR L2.IxR L2.SlR
theorem Znt (ps:List Str) (p:Str):IsN ps p ((tl ps p).length:Int):=⟨by omega,fun ss0 ks h1 h2 h3 h4=>ZjN (Zd3 h1) h3 _ ps p rfl h2 h4⟩
theorem ZkS {ps rs ss:List Str} {ns:List Int} (hne:ps≠[]) (hrs:∀ p,p∈rs↔ZbQ ps p) (ndr:rs.Nodup) (hl:ns.length=rs.length) (hns:∀ (i:Nat) (n:Int),ns[i]?=some n→IsN ps (rs.getD i "") n) (nds:ss.Nodup) (hss:∀ y,inP ps y=true→y∈ss):ns.sum=((txs ss ps).length:Int):=by
 rw [ZkL]
 exact Ze8 (m:=fun p=>((tl ps p).length:Int)) hne hrs ndr hl hns nds hss fun y _=>Znt ps y
section
variable {P:Program} {w:World} {K:PySem.W.Frag} {mg:Str→Option Value} {base:Heap}
end
end Sh
namespace Sh
def seg (z:List Nat) (a b:Nat):List Nat:=(z.drop a).take (b - a)
def pt (z:List Nat) (L p:Nat):List Nat:=seg z p (p + L - 1)
def stt (z:List Nat) (L a b:Nat):List Nat:=seg z (a + L - 1) (b + L - 1)
def win (L:Nat) (z:List Nat):List (List Nat):=(List.range (z.length + 1 - L)).map fun i=>(z.drop i).take L
theorem Zmm {z:List Nat} {a b:Nat} (h:a≤b) (hb:b≤z.length):(seg z a b).length=b - a:=by
 unfold seg
 rw [List.length_take,List.length_drop]
 omega
theorem ZaY {z:List Nat} {a b c:Nat} (h1:a≤b) (h2:b≤c):seg z a b ++ seg z b c=seg z a c:=by
 unfold seg
 have e:z.drop b=(z.drop a).drop (b - a):=by rw [List.drop_drop]; congr 1; omega
 have e2:c - a=(b - a) + (c - b):=by omega
 rw [e,e2,List.take_add]
theorem Zc8 (z:List Nat):seg z 0 z.length=z:=by
 unfold seg
 simp
theorem YU {L:Nat} {a:Nat} {y:List Nat} (h1:1≤L) (h:L≤y.length + 1):win L (a :: y)=(a :: y).take L :: win L y:=by
 unfold win
 have e:(a :: y).length + 1 - L=(y.length + 1 - L) + 1:=by rw [List.length_cons]; omega
 rw [e,List.range_succ_eq_map,List.map_cons,List.map_map]
 rfl
theorem Xt {L:Nat} {z:List Nat} (h:z.length < L):win L z=[]:=by
 unfold win
 have:z.length + 1 - L=0:=by omega
 rw [this]
 rfl
theorem ZdO {L:Nat} (h1:1≤L) {q:List Nat} (hq:q.length=L - 1) (y:List Nat):∀ x:List Nat,win L (x ++ q ++ y)=win L (x ++ q) ++ win L (q ++ y)
 | []=>by rw [List.nil_append,Xt (z:=q) (by omega),List.nil_append]
 | a :: x=>by
  rw [List.cons_append,List.cons_append,YU h1 (by simp; omega),YU h1 (by simp; omega),ZdO h1 hq y x,List.cons_append]
  congr 1
  rw [← List.cons_append,List.take_append_of_le_length (by simp; omega)]
theorem Zas {L:Nat} (h1:1≤L) {u x q:List Nat} (y:List Nat) (hu:u=x ++ q) (hq:q.length=L - 1):win L (u ++ y)=win L u ++ win L (q ++ y):=by
 subst hu
 exact ZdO h1 hq y x
structure Fit (z:List Nat) (L:Nat):Prop where
 one:1≤L
 le:L≤z.length
section
variable {z:List Nat} {L:Nat}
theorem Zem (h:Fit z L) {p:Nat} (hp:p≤z.length - L + 1):(pt z L p).length=L - 1:=by
 have:=h.one
 have:=h.le
 unfold pt
 rw [Zmm (by omega) (by omega)]
 omega
theorem Z8 (h:Fit z L) {a b:Nat} (hab:a≤b):pt z L a ++ stt z L a b=seg z a (b + L - 1):=by
 have:=h.one
 exact ZaY (by omega) (by omega)
theorem Zax (h:Fit z L) {a b:Nat} (hab:a≤b):seg z a b ++ pt z L b=seg z a (b + L - 1):=by
 have:=h.one
 exact ZaY hab (by omega)
def Zf3 (z:List Nat) (L p0 p1 p2 p3:Nat):List Nat:=pt z L 0 ++ (stt z L 0 p0 ++ (stt z L p2 p3 ++ (stt z L p1 p2 ++ (stt z L p0 p1 ++ stt z L p3 (z.length - L + 1)))))
def Y5 (z:List Nat) (L p:Nat):List Nat:=pt z L p ++ stt z L p (z.length - L + 1) ++ stt z L 0 p
theorem JH (h:Fit z L) {p:Nat} (hp:p≤z.length - L + 1) {a:Nat} (ha:a≤p) {b:Nat} (hb:p≤b):win L (seg z a (b + L - 1))=win L (seg z a (p + L - 1)) ++ win L (seg z p (b + L - 1)):=by
 have:=h.one
 have e:seg z a (p + L - 1) ++ stt z L p b=seg z a (b + L - 1):=ZaY (by omega) (by omega)
 rw [← e,Zas h.one (stt z L p b) (x:=seg z a p) (q:=pt z L p) (Zax h ha).symm (Zem h hp),Z8 h hb]
theorem Zf2 (h:Fit z L) {p0 p1 p2 p3:Nat} (h01:p0≤p1) (h12:p1≤p2) (h23:p2≤p3) (h3:p3≤z.length - L + 1) (e02:pt z L p0=pt z L p2) (e13:pt z L p1=pt z L p3):(win L (Zf3 z L p0 p1 p2 p3)).Perm (win L z):=by
 have o:=h.one
 have l:=h.le
 have hN:z.length - L + 1 + L - 1=z.length:=by omega
 -- the old text
 have w1:win L z=win L (seg z 0 (p0 + L - 1)) ++ (win L (seg z p0 (p1 + L - 1)) ++ (win L (seg z p1 (p2 + L - 1)) ++ (win L (seg z p2 (p3 + L - 1)) ++ win L (seg z p3 (z.length - L + 1 + L - 1))))):=by
  rw [← JH h (p:=p3) (by omega) h23 (by omega),← JH h (p:=p2) (by omega) h12 (by omega),← JH h (p:=p1) (by omega) h01 (by omega),← JH h (p:=p0) (by omega) (by omega) (by omega),hN,Zc8]
 -- the new one
 have u0:pt z L 0 ++ stt z L 0 p0=seg z 0 p0 ++ pt z L p0:=by rw [Z8 h (by omega),Zax h (by omega)]
 have u1:pt z L p2 ++ stt z L p2 p3=seg z p2 p3 ++ pt z L p3:=by rw [Z8 h h23,Zax h h23]
 have u2:pt z L p1 ++ stt z L p1 p2=seg z p1 p2 ++ pt z L p2:=by rw [Z8 h h12,Zax h h12]
 have u3:pt z L p0 ++ stt z L p0 p1=seg z p0 p1 ++ pt z L p1:=by rw [Z8 h h01,Zax h h01]
 have w2:win L (Zf3 z L p0 p1 p2 p3)=win L (seg z 0 (p0 + L - 1)) ++ (win L (seg z p2 (p3 + L - 1)) ++ (win L (seg z p1 (p2 + L - 1)) ++ (win L (seg z p0 (p1 + L - 1)) ++ win L (seg z p3 (z.length - L + 1 + L - 1))))):=by
  unfold Zf3
  have hp:=fun {p:Nat} (q:p≤z.length - L + 1)=>Zem h q
  rw [← List.append_assoc,Zas o _ u0 (hp (by omega)),e02,← List.append_assoc (pt z L p2),Zas o _ u1 (hp (by omega)),← e13,← List.append_assoc (pt z L p1),Zas o _ u2 (hp (by omega)),← e02,← List.append_assoc (pt z L p0),Zas o _ u3 (hp (by omega)),e13]
  have a0:=Z8 h (a:=0) (b:=p0) (by omega)
  have a1:pt z L p0 ++ stt z L p2 p3=seg z p2 (p3 + L - 1):=by rw [e02,Z8 h h23]
  have a2:pt z L p3 ++ stt z L p1 p2=seg z p1 (p2 + L - 1):=by rw [← e13,Z8 h h12]
  have a3:=Z8 h h01
  have a4:=Z8 h h3
  rw [a0,a1,a2,a3,a4]
 rw [w1,w2]
 refine List.Perm.append_left _ ?_
 rw [← List.append_assoc,← List.append_assoc,← List.append_assoc,← List.append_assoc]
 refine List.Perm.append_right _ ?_
 refine (List.perm_append_comm).trans ?_
 rw [List.append_assoc]
 refine List.Perm.append_left _ ?_
 exact List.perm_append_comm
theorem ZfS (h:Fit z L) {p:Nat} (hp:p≤z.length - L + 1) (e:pt z L 0=pt z L (z.length - L + 1)):(win L (Y5 z L p)).Perm (win L z):=by
 have o:=h.one
 have l:=h.le
 have hN:z.length - L + 1 + L - 1=z.length:=by omega
 have w1:win L z=win L (seg z 0 (p + L - 1)) ++ win L (seg z p (z.length - L + 1 + L - 1)):=by
  rw [← JH h (p:=p) hp (by omega) hp,hN,Zc8]
 have w2:win L (Y5 z L p)=win L (seg z p (z.length - L + 1 + L - 1)) ++ win L (seg z 0 (p + L - 1)):=by
  unfold Y5
  rw [Zas o _ (x:=seg z p (z.length - L + 1)) (q:=pt z L (z.length - L + 1)) (by rw [Z8 h hp,Zax h hp]) (Zem h (by omega)),← e,Z8 h hp,Z8 h (Nat.zero_le p)]
 rw [w1,w2]
 exact List.perm_append_comm
theorem Zf9 (h:Fit z L) {a b:Nat} (hab:a≤b) (hb:b≤z.length - L + 1):(stt z L a b).length=b - a:=by
 have:=h.one
 have:=h.le
 unfold stt
 rw [Zmm (by omega) (by omega)]
 omega
theorem Zix (h:Fit z L) {p:Nat} (hp:p≤z.length - L + 1):(Y5 z L p).length=z.length:=by
 have:=h.one
 have:=h.le
 unfold Y5
 simp only [List.length_append]
 rw [Zem h hp,Zf9 h hp (by omega),Zf9 h (by omega) hp]
 omega
end
def sg (z:List Nat) (L i:Nat):Nat:=z.getD (i + L - 1) 0
structure Xs (z:List Nat) (L a b c d:Nat):Prop where
 ab:a < b
 bc:b≤c
 cd:c < d
 dn:d≤z.length - L + 1
 pac:pt z L a=pt z L c
 sac:sg z L a≠sg z L c
 pbd:pt z L b=pt z L d
section
variable {z:List Nat} {L:Nat}
theorem Zk1 {i:Nat} (h:i < z.length):seg z i (i + 1)=[z.getD i 0]:=by
 unfold seg
 rw [show i + 1 - i=1 by omega,List.take_one,List.head?_drop,List.getD_eq_getElem?_getD,List.getElem?_eq_getElem h]
 rfl
theorem Zc4 (h:Fit z L) {i:Nat} (hi:i < z.length - L + 1):stt z L i (i + 1)=[sg z L i]:=by
 have:=h.one
 have:=h.le
 unfold stt sg
 rw [show i + 1 + L - 1=i + L - 1 + 1 by omega]
 exact Zk1 (by omega)
theorem Zga {i j k:Nat} (h1:i≤j) (h2:j≤k):stt z L i j ++ stt z L j k=stt z L i k:=ZaY (by omega) (by omega)
theorem Zis (h:Fit z L):pt z L 0 ++ stt z L 0 (z.length - L + 1)=z:=by
 have:=h.one
 have:=h.le
 rw [Z8 h (Nat.zero_le _),show z.length - L + 1 + L - 1=z.length by omega,Zc8]
theorem Zd0 (h:Fit z L) {i j:Nat} (hij:i < j) (hj:j≤z.length - L + 1):(stt z L i j).head?=some (sg z L i):=by
 rw [← Zga (i:=i) (j:=i + 1) (k:=j) (by omega) (by omega),Zc4 h (by omega)]
 rfl
theorem Ze7 (h:Fit z L) {a b c d:Nat} (x:Xs z L a b c d):Zf3 z L a b c d≠z:=fun e=>by
 have h1:=x.ab
 have h2:=x.bc
 have h3:=x.cd
 have h4:=x.dn
 have w:pt z L 0 ++ (stt z L 0 a ++ stt z L a (z.length - L + 1))=z:=by rw [Zga (by omega) (by omega),Zis h]
 have e':=e.trans w.symm
 unfold Zf3 at e'
 have e1:=List.append_cancel_left (List.append_cancel_left e')
 have g1:(stt z L c d ++ (stt z L b c ++ (stt z L a b ++ stt z L d (z.length - L + 1)))).head?=some (sg z L c):=by rw [List.head?_append,Zd0 h h3 h4]; rfl
 rw [e1,Zd0 h (by omega) (by omega)] at g1
 exact x.sac (Option.some.inj g1)
def Zou (z:List Nat) (L:Nat):Option (Nat × Nat × Nat × Nat)→Prop
 | none=>∀ a b c d,¬ Xs z L a b c d
 | some (a,b,c,d)=>Xs z L a b c d∧(∀ a' b' c' d',Xs z L a' b' c' d'→c≤c')∧(∀ a' b' d',Xs z L a' b' c d'→a≤a'∧b'≤b)∧∀ d',d'≤z.length - L + 1→pt z L d'=pt z L b→d'≤d
end
end Sh
namespace Sh
open PySem L2 PyProof.Rows
seal L2.PE L2.PS L2.PSs L2.PT L2.PW L2.PA L2.PI L2.PG L2.PGs L2.PO L2.PC L2.PCs L2.OpR L2.UnR L2.CallR L2.MtR L2.IxR L2.SlR
section
variable {P:Program} {w:World} {K:PySem.W.Frag} {mg:Str→Option Value} {base:Heap}
def Zm0:V→Bool
 | .int _=>true
 | _=>false
theorem ZE {z:List Nat} (h:z.length≤1000):(tx z).length≤sizeLine:=by rw [ZG]; exact Zt (by omega)
abbrev X2:Stmt:=top 1
abbrev Zfp:List Str:=["T","long"]
theorem Zc9:Zk Zfp ["T","long"] (Zf X2):=⟨rfl,rfl,rfl,by decide +kernel,rfl,by decide +kernel,by decide +kernel⟩
def Zd6:Sp:=fun vs H Q _=>∃ (z:List Nat) (L:Nat),vs=[.str (tx z),.int L]∧Fit z L∧z.length≤1000∧Q (.int ((z.length - L + 1:Nat):Int)) H
theorem Zbl (D:HasDef K mg "last_place" X2 ["T","long"]) (B:Blt mg):FOk P w K mg base 1 "last_place" ["T","long"] Zd6:=by
 refine D.ok Zc9 (fun vs H Q E h=>?_) (fun f cdv A outer s H vs Q E hr h=>?_)
 ·obtain ⟨z,L,rfl,_⟩:=h
  rfl
 ·obtain ⟨z,L,rfl,hF,hz,k⟩:=h
  refine ⟨_,(Zh (Zm (Zq ZO (Zq Y7 (Zp ZB rfl B.len Yw (Za (pv 0) Ze)) (pv 1)) Zg))),?_⟩
  refine ⟨_,rfl,.str (tx z),z.length,rfl,⟨ZE hz,(ZG z).symm⟩,_,rfl,_,_,rfl,rfl,_,_,rfl,rfl,?_⟩
  have:=hF.le
  have e:((z.length - L + 1:Nat):Int)=(z.length:Int) - (L:Int) + 1:=by omega
  rw [e] at k
  exact k
abbrev Za1:Stmt:=top 2
abbrev Zi4:List Str:=["T","long","place"]
theorem ZgA:Zk Zi4 ["T","long","place"] (Zf Za1):=⟨rfl,rfl,rfl,by decide +kernel,rfl,by decide +kernel,by decide +kernel⟩
def ZaT:Sp:=fun vs H Q _=>∃ (z:List Nat) (L p:Nat),vs=[.str (tx z),.int L,.int p]∧Fit z L∧z.length≤1000∧p≤z.length - L + 1∧Q (.str (tx (pt z L p))) H
theorem JM {z:List Nat} {a b:Nat} {i j:Int} (ei:i=a) (ej:j=b) (hab:a≤b) (hb:b≤z.length):Txt.slice (tx z) (some i) (some j)=tx (seg z a b):=by
 subst ei ej
 apply ZP
 rw [JN (by omega) (by omega) (by rw [ZG]; omega),ZH,ZH]
 unfold seg
 congr 1
 omega
theorem Zdk (D:HasDef K mg "point_at" Za1 ["T","long","place"]) (B:Blt mg):FOk P w K mg base 1 "point_at" ["T","long","place"] ZaT:=by
 refine D.ok ZgA (fun vs H Q E h=>?_) (fun f cdv A outer s H vs Q E hr h=>?_)
 ·obtain ⟨z,L,p,rfl,_⟩:=h
  rfl
 ·obtain ⟨z,L,p,rfl,hF,hz,hp,k⟩:=h
  refine ⟨_,(Zh (Zm (Zz Yb (pv 0) (ZD (pv 2)) (ZD (Zq Y7 (Zq ZO (pv 2) (pv 1)) Zg))))),?_⟩
  refine ⟨_,rfl,_,rfl,_,rfl,_,rfl,_,rfl,_,_,rfl,rfl,_,_,rfl,rfl,_,rfl,_,rfl,ZE hz,?_⟩
  have:=hF.one
  have:=hF.le
  rw [JM (z:=z) (a:=p) (b:=p + L - 1) rfl (by omega) (by omega) (by omega)]
  exact k
abbrev Ye:Stmt:=top 4
abbrev J5:List Str:=["T","long","here","there"]
theorem Jp:Zk J5 ["T","long","here","there"] (Zf Ye):=⟨rfl,rfl,rfl,by decide +kernel,rfl,by decide +kernel,by decide +kernel⟩
def Zb1:Sp:=fun vs H Q _=>∃ (z:List Nat) (L a b:Nat),vs=[.str (tx z),.int L,.int a,.int b]∧Fit z L∧z.length≤1000∧a≤b∧b≤z.length - L + 1∧Q (.str (tx (stt z L a b))) H
theorem Zfj (D:HasDef K mg "stretch_between" Ye ["T","long","here","there"]) (B:Blt mg):FOk P w K mg base 1 "stretch_between" ["T","long","here","there"] Zb1:=by
 refine D.ok Jp (fun vs H Q E h=>?_) (fun f cdv A outer s H vs Q E hr h=>?_)
 ·obtain ⟨z,L,a,b,rfl,_⟩:=h
  rfl
 ·obtain ⟨z,L,a,b,rfl,hF,hz,hab,hb,k⟩:=h
  refine ⟨_,(Zh (Zm (Zz Yb (pv 0) (ZD (Zq Y7 (Zq ZO (pv 2) (pv 1)) Zg)) (ZD (Zq Y7 (Zq ZO (pv 3) (pv 1)) Zg))))),?_⟩
  refine ⟨_,rfl,_,rfl,_,rfl,_,_,rfl,rfl,_,_,rfl,rfl,_,rfl,_,rfl,_,rfl,_,_,rfl,rfl,_,_,rfl,rfl,_,rfl,_,rfl,ZE hz,?_⟩
  have:=hF.one
  have:=hF.le
  rw [JM (z:=z) (a:=a + L - 1) (b:=b + L - 1) (by omega) (by omega) (by omega) (by omega)]
  exact k
def Zn3 (word:Str) (many:Nat) (xs:List V):Bool:=decide (xs.length=many + 1) && decide (xs.headD .non = .str word) && (xs.drop 1).all Zm0
def ZoN (word:Str) (many:Nat):Option (List V)→Bool
 | none=>false
 | some xs=>Zn3 word many xs
abbrev JT:Stmt:=top 5
abbrev Zhh:List Str:=["T","long"]
theorem Zfb:Zk Zhh ["T","long"] (Zf JT):=⟨rfl,rfl,rfl,by decide +kernel,rfl,by decide +kernel,by decide +kernel⟩
def Zd8:Sp:=fun vs H Q _=>∃ (z:List Nat) (L:Nat),vs=[.str (tx z),.int L]∧Fit z L∧z.length≤1000∧Q (.bl (decide (pt z L 0=pt z L (z.length - L + 1)))) H
theorem Zkv {a b:List Nat}:decide (V.str (tx a)=V.str (tx b))=decide (a=b):=by
 rw [Bool.eq_iff_iff,decide_eq_true_eq,decide_eq_true_eq]
 exact ⟨fun e=>ZbU (by injection e),fun e=>by rw [e]⟩
theorem Zcg (D:HasDef K mg "is_closed" JT ["T","long"]) (B:Blt mg) (g21_:FOk P w K mg base 1 "last_place" ["T","long"] Zd6) (g29_:FOk P w K mg base 1 "point_at" ["T","long","place"] ZaT):FOk P w K mg base 2 "is_closed" ["T","long"] Zd8:=by
 refine D.ok Zfb (fun vs H Q E h=>?_) (fun f cdv A outer s H vs Q E hr h=>?_)
 ·obtain ⟨z,L,rfl,_⟩:=h
  rfl
 ·obtain ⟨z,L,rfl,hF,hz,k⟩:=h
  refine ⟨_,(Zh (Zm (Xk XH (Zr g29_ hr (Za (pv 0) (Za (pv 1) (Za Zg Ze)))) (Zr g29_ hr (Za (pv 0) (Za (pv 1) (Za (Zr g21_ hr (Za (pv 0) (Za (pv 1) Ze))) Ze)))) (Zw _)))),?_⟩
  refine ⟨_,rfl,_,rfl,z,L,0,rfl,hF,hz,by omega,_,rfl,_,rfl,_,rfl,_,rfl,z,L,rfl,hF,hz,z,L,z.length - L + 1,rfl,hF,hz,by omega,rfl,?_⟩
  rw [Zkv]
  exact k
theorem ZhR:(4:Nat)≤sizeLine:=by rw [sizeLine_eq]; decide
abbrev Zda:Stmt:=top 6
abbrev Zlq:List Str:=["T","long","place","behind"]
theorem scTurned:Zk Zlq ["T","long","place"] (Zf Zda):=⟨rfl,rfl,rfl,by decide +kernel,rfl,by decide +kernel,by decide +kernel⟩
def Zd4:Sp:=fun vs H Q _=>∃ (z:List Nat) (L p:Nat),vs=[.str (tx z),.int L,.int p]∧Fit z L∧z.length≤1000∧p≤z.length - L + 1∧Q (.str (tx (Y5 z L p))) H
theorem Zg5 (D:HasDef K mg "turned" Zda ["T","long","place"]) (B:Blt mg) (g21_:FOk P w K mg base 1 "last_place" ["T","long"] Zd6) (g29_:FOk P w K mg base 1 "point_at" ["T","long","place"] ZaT) (g34_:FOk P w K mg base 1 "stretch_between" ["T","long","here","there"] Zb1):FOk P w K mg base 2 "turned" ["T","long","place"] Zd4:=by
 refine D.ok scTurned (fun vs H Q E h=>?_) (fun f cdv A outer s H vs Q E hr h=>?_)
 ·obtain ⟨z,L,p,rfl,_⟩:=h
  rfl
 ·obtain ⟨z,L,p,rfl,hF,hz,hp,k⟩:=h
  refine ⟨_,(Zd (Zl (i:=3) scTurned.nd rfl (.inl rfl) (Zr g34_ hr (Za (pv 0) (Za (pv 1) (Za (pv 2) (Za (Zr g21_ hr (Za (pv 0) (Za (pv 1) Ze))) Ze))))))
   (Zh (Zm (Zq Y0 (Zq Y0 (Zr g29_ hr (Za (pv 0) (Za (pv 1) (Za (pv 2) Ze)))) (pv 3)) (Zr g34_ hr (Za (pv 0) (Za (pv 1) (Za Zg (Za (pv 2) Ze))))))))),?_⟩
  have hl:=Zix hF hp
  unfold Y5 at hl k
  rw [List.length_append,List.length_append] at hl
  refine ⟨_,rfl,_,rfl,_,rfl,_,rfl,_,rfl,z,L,rfl,hF,hz,z,L,p,z.length - L + 1,rfl,hF,hz,hp,by omega,?_⟩
  refine ⟨_,rfl,_,rfl,_,rfl,z,L,p,rfl,hF,hz,hp,_,rfl,_,_,rfl,rfl,?_,_,rfl,_,rfl,_,rfl,z,L,0,p,rfl,hF,hz,by omega,hp,_,_,rfl,rfl,?_,?_⟩
  ·rw [ZG,ZG]; exact Zs (by omega)
  ·rw [ZbV,ZG,ZG,List.length_append]; exact Zs (by omega)
  ·rw [ZbV,ZbV]
   exact k
end
end Sh
namespace L2
theorem ZaX {c:TT} {t1 t2 u:TS} {D:ZfJ} {σ:L2.St} {H:Hp} (I:L2.St→Hp→Prop) (h:∀ R:L2.St→Hp→Prop,(∀ σ' H',I σ' H'→R σ' H')→Ziq c t1 t2 { D with nx:=R } σ H) (hu:∀ σ' H',I σ' H'→u D σ' H'):ZdY (Ziq c t1 t2) u D σ H:=h _ hu
end L2
namespace Sh
open PySem L2 PyProof.Rows
seal L2.PE L2.PS L2.PSs L2.PT L2.PW L2.PA L2.PI L2.PG L2.PGs L2.PO L2.PC L2.PCs L2.OpR L2.UnR L2.CallR L2.MtR L2.IxR L2.SlR
section
variable {P:Program} {w:World} {K:PySem.W.Frag} {mg:Str→Option Value} {base:Heap}
end
section
variable {P:Program} {w:World} {K:PySem.W.Frag} {mg:Str→Option Value} {base:Heap} {S C A1 A2 A3 A4 A5 A6 A7 A8:Addr}
abbrev ZgF:Stmt:=top 41
abbrev ZmM:List Str:=["_law_cells","_law_seed_here","_law_cell"]
theorem scLSeed:Zk ZmM ["_law_cells"] (Zf ZgF):=⟨rfl,rfl,rfl,by decide +kernel,rfl,by decide +kernel,by decide +kernel⟩
def ZjS (K:PySem.W.Frag):Sp:=fun vs H Q _=>∃ (a:Addr) (ns:List Int),vs=[.ref a]∧SqL K H a (ns.map V.int)∧ns.length≤63∧∀ sd:Int,0≤sd→sd < 999999937→Q (.int sd) H
theorem Zg8 (D:HasDef K mg "_law_seed" ZgF ["_law_cells"]) (B:Blt mg):FOk P w K mg base 1 "_law_seed" ["_law_cells"] (ZjS K):=by
 refine D.ok scLSeed (fun vs H Q E h=>?_) (fun f cdv A outer s H vs Q E hr h=>?_)
 ·obtain ⟨a,ns,rfl,_⟩:=h
  rfl
 ·obtain ⟨a,ns,rfl,ha,hl,k⟩:=h
  refine ⟨_,(Zd (Zl (i:=1) scLSeed.nd rfl (.inl rfl) (Zq ZO Zg (Zp ZB rfl B.len Yw (Za (pv 0) Ze))))
   (Zd (Yf PassesOwn.never rfl (YK (pv 0)) (Zy (i:=2) scLSeed.nd rfl (.inl rfl))
    (Zh (Zl (i:=1) scLSeed.nd rfl (.inl rfl) (Zq Yl (Zq ZO (Zq Zg3 (pv 1) Zg) (pv 2)) Zg))))
   (Zh (Zm (pv 1))))),?_⟩
  refine ⟨_,rfl,.ref a,ns.length,rfl,(.inl ⟨_,ha,by rw [List.length_map]⟩),_,_,rfl,rfl,?_⟩
  refine ⟨_,rfl,a,rfl,⟨_,ha⟩,ZeP (K:=K) (a:=a) (xs:=ns.map V.int) (fun i σ H2=>(∃ (z:Option V) (sd:Int),σ=[some (.ref a),some (.int sd),z]∧0≤sd∧sd < 999999937)∧H2=H)
   ⟨⟨none,_,rfl,by omega,by omega⟩,rfl⟩ (fun i σ H2 _ ⟨_,e⟩=>by rw [e]; exact ha) ?_ ?_⟩
  ·rintro i x σ H2 hi ⟨⟨z,sd,rfl,b1,b2⟩,rfl⟩
   obtain ⟨hi',rfl⟩:=JJ hi
   have bd:=YB (sd * 613 + ns[i]) (show (0:Int) < 999999937 by decide)
   refine ⟨_,rfl,_,_,rfl,rfl,.inr ⟨by decide,by decide⟩,_,rfl,_,_,rfl,rfl,_,_,rfl,rfl,(by show (0:Int) < 999999937; decide),?_⟩
   exact ⟨⟨some (.int ns[i]),_,rfl,bd.1,bd.2⟩,rfl⟩
  rintro σ H2 ⟨⟨z,sd,rfl,b1,b2⟩,rfl⟩
  exact ⟨_,rfl,k sd b1 b2⟩
abbrev XC:Stmt:=top 42
abbrev Zco:List Str:=["_law_cell","_law_some","_law_step"]
theorem scLLetters:Zk Zco ["_law_cell"] (Zf XC):=⟨rfl,rfl,rfl,by decide +kernel,rfl,by decide +kernel,by decide +kernel⟩
def Cd (z:List Nat):Prop:=∀ c∈z,c < 1000
def Zb2:Sp:=fun vs H Q _=>∃ cell:Int,vs=[.int cell]∧0≤cell∧cell < 2147483647∧∀ (l:List Nat) H',Same H H'→2≤l.length→l.length≤4→Cd l→Q (.str (tx l)) H'
theorem Zcf (D:HasDef K mg "_law_letters" XC ["_law_cell"]) (B:Blt mg):FOk P w K mg base 1 "_law_letters" ["_law_cell"] Zb2:=by
 refine D.ok scLLetters (fun vs H Q E h=>?_) (fun f cdv A outer s H vs Q E hr h=>?_)
 ·obtain ⟨cell,rfl,_⟩:=h
  rfl
 ·obtain ⟨cell,rfl,c0,c1,k⟩:=h
  refine ⟨_,(Zd (Zl (i:=1) scLLetters.nd rfl (.inr rfl) JY)
   (Zd (Zl (i:=2) scLLetters.nd rfl (.inr rfl) (Zq ZO Zg (Zq Yl (Zq Yz (pv 0) Zg) Zg)))
   (Zh (Zm (Zdg F.plainAttrs_str F.slot_str_join F.type_str_join Zds JY (Za (ZI (Zf XC) Zco ["_law_k"] [0,1,2] rfl (XF rfl B.range (Za (ZV ZN (ZaF (Za Zg (Za Zg (Za Zg (Za Zg Ze))))) (Zq Yl (pv 0) Zg) (fun _ _=>rfl)) Ze)) (fun _ _ _ _ _=>Z6 0) (fun _ _ _ _ _=>ZX) (fun _ _ _ _ _=>(ZV ZeI (pv 2) (Zq Yl (Zq ZO (Zq Yz (pv 1) Zg) (Zq Zg3 (pv 0) (pv 3))) Zg) (fun _ _=>rfl)))) Ze)))))),?_⟩
  have m4:=YB cell (show (0:Int) < 4 by decide)
  have m8:=YB (cell / 104) (show (0:Int) < 8 by decide)
  have hm:∀ j:Nat,j < 4→2≤([2,2,3,4]:List Int).getD j 0∧([2,2,3,4]:List Int).getD j 0≤4:=by decide
  have hm4:=hm (cell % 4).toNat (by omega)
  refine ⟨_,rfl,_,_,rfl,rfl,⟨by decide,by decide⟩,_,_,rfl,rfl,(by show (0:Int) < 8; decide),_,_,rfl,rfl,?_⟩
  refine ⟨rfl,ZhR,fun p hp=>⟨_,rfl,_,_,rfl,rfl,(by show (0:Int) < 4; decide),p,_,_,_,rfl,rfl,SqL.of Zc,Zlu (ns:=[2,2,3,4]) m4.1 m4.2,_,rfl,by omega,by omega,?_⟩⟩
  have s0:=Zb (o:=.lst [.int 2,.int 2,.int 3,.int 4]) hp
  generalize hN:(([2,2,3,4]:List Int).getD (cell % 4).toNat 0)=N at hm4
  refine Xa N.toNat (fun i=>.int (0 + (i:Int))) (fun i v _=>∃ c:Nat,v = .str (tx [c])∧c < 1000) (Zs (by omega)) (fun _ _ _ _ _ r=>r) Zbw ?_ ?_
  ·intro i H3 Qe hi hs kq
   have mb:=YB (cell / 4 + (0 + (i:Int)) * (1 + cell / 104 % 8)) (show (0:Int) < 26 by decide)
   refine ⟨_,rfl,_,rfl,_,_,rfl,rfl,⟨by decide,by decide⟩,_,rfl,_,rfl,_,_,rfl,rfl,.inl ⟨by omega,by omega⟩,_,_,rfl,rfl,_,_,rfl,rfl,(by show (0:Int) < 26; decide),_,_,_,rfl,rfl,Zt (by decide),Zht mb.1 mb.2,kq _ _ (Same.refl _) ⟨_,rfl,by omega⟩⟩
  ·intro D1 vs1 H3 hl1 hr1 hs3 hD1 hDl1
   have hcs:∃ cs:List Nat,vs1=(cs.map fun c=>tx [c]).map V.str∧cs.length=vs1.length∧Cd cs:=by
    have:∀ vs:List V,(∀ v∈vs,∃ c:Nat,v=V.str (tx [c])∧c < 1000)→∃ cs:List Nat,vs=(cs.map fun c=>tx [c]).map V.str∧cs.length=vs.length∧Cd cs:=by
     intro vs
     induction vs with
     | nil=>exact fun _=>⟨[],rfl,rfl,fun c hc=>by cases hc⟩
     | cons v vs ih =>
      intro h
      obtain ⟨cs,e,el,ed⟩:=ih fun u hu=>h u (by simp [hu])
      obtain ⟨c,ec,hc⟩:=h v (by simp)
      exact ⟨c :: cs,by rw [ec,e]; rfl,by simp [el],fun x hx=>(List.mem_cons.mp hx).elim (fun q=>q ▸ hc) (ed x)⟩
    exact this vs1 fun v hv=>by
     obtain ⟨i,hi,e⟩:=List.mem_iff_getElem.mp hv
     exact hr1 i v (by rw [← e]; exact List.getElem?_eq_getElem hi)
   obtain ⟨cs,ecs,elc,ecd⟩:=hcs
   rw [ecs] at hDl1
   refine ⟨"",D1,cs.map fun c=>tx [c],rfl,rfl,SqL.of hDl1,?_,?_⟩
   ·have e0:("" : Str).length=0:=rfl
    have es:((cs.map fun c=>tx [c]).map fun x=>x.length).sum≤(cs.map fun c=>tx [c]).length * 1:=XW _ 1 fun y hy=>by
     obtain ⟨c,_,rfl⟩:=List.mem_map.mp hy
     rw [ZG]
     exact Nat.le_refl _
    rw [e0,Nat.mul_zero]
    rw [List.length_map] at es
    omega
   ·rw [J9]
    exact k cs _ (s0.trans hs3) (by omega) (by omega) ecd
end
theorem ZT {z:List Nat} {n:Int} (h:0≤n):Txt.slice (tx z) none (some n)=tx (z.take n.toNat):=by
 apply ZP
 rw [Zai h,ZH,ZH]
section
variable {P:Program} {w:World} {K:PySem.W.Frag} {mg:Str→Option Value} {base:Heap}
abbrev Zk4:Stmt:=top 44
abbrev ZnS:List Str:=["_law_signs","_law_seed_here"]
theorem Zmn:Zk ZnS ["_law_signs","_law_seed_here"] (Zf Zk4):=⟨rfl,rfl,rfl,by decide +kernel,rfl,by decide +kernel,by decide +kernel⟩
def Zml:Sp:=fun vs H Q _=>∃ (z:List Nat) (sd:Int),vs=[.str (tx z),.int sd]∧1≤z.length∧z.length≤63∧0≤sd∧Cd z∧∀ z':List Nat,1≤z'.length→z'.length≤63→Cd z'→Q (.str (tx z')) H
theorem ZiZ (D:HasDef K mg "_law_cut" Zk4 ["_law_signs","_law_seed_here"]) (B:Blt mg):FOk P w K mg base 1 "_law_cut" ["_law_signs","_law_seed_here"] Zml:=by
 refine D.ok Zmn (fun vs H Q E h=>?_) (fun f cdv A outer s H vs Q E hr h=>?_)
 ·obtain ⟨z,sd,rfl,_⟩:=h
  rfl
 ·obtain ⟨z,sd,rfl,h1,h63,h0,hcd,k⟩:=h
  refine ⟨_,(Zd (Ym (Zv XH (Zq Yl (Zq Yz (pv 1) Zg) Zg) Zg (Zw _)) (Zh (Zm (pv 0))) ZC)
   (Zh (Zm (Zz Yb (pv 0) ZQ (ZD (Zq ZO Zg (Zq Yl (Zq Yz (pv 1) Zg) (Zp ZB rfl B.len Yw (Za (pv 0) Ze))))))))),?_⟩
  refine ⟨_,rfl,_,_,rfl,rfl,⟨by decide,by decide⟩,_,_,rfl,rfl,(by show (0:Int) < 2; decide),rfl,_,rfl,Zfv (fun e=>?_) (fun e=>?_)⟩
  ·exact ⟨_,rfl,k z h1 h63 hcd⟩
  have ml:=YB (sd / 29) (show (0:Int) < (z.length:Int) by omega)
  refine ⟨_,rfl,_,rfl,_,_,rfl,rfl,⟨by decide,by decide⟩,_,rfl,.str (tx z),z.length,rfl,⟨ZE (by omega),(ZG z).symm⟩,_,_,rfl,rfl,(by show (0:Int) < (z.length:Int); omega),_,_,rfl,rfl,_,rfl,_,rfl,ZE (by omega),?_⟩
  dsimp only
  rw [ZT (by omega)]
  refine k _ ?_ ?_ fun c hc=>hcd c (List.mem_of_mem_take hc)
  ·rw [List.length_take]; omega
  ·rw [List.length_take]; omega
def ZiO (z:List Nat) (L:Nat):List V:=(List.range (z.length - L + 2)).map fun i=>V.str (tx (pt z L i))
def Zmj:Sp:=fun vs H Q _=>∃ (z:List Nat) (L:Nat),vs=[.str (tx z),.int L]∧Fit z L∧z.length≤1000∧∀ p H',Same H H'→H' p=some (.lst (ZiO z L))→Q (.ref p) H'
abbrev Zef:Stmt:=top 43
abbrev Zkf:List Str:=["_law_cells","_law_seed_here","_law_letters_here","_law_signs","_law_way"]
theorem scLText:Zk Zkf ["_law_cells","_law_seed_here"] (Zf Zef):=⟨rfl,rfl,rfl,by decide +kernel,rfl,by decide +kernel,by decide +kernel⟩
def ZjR (K:PySem.W.Frag):Sp:=fun vs H Q _=>∃ (a:Addr) (ns:List Int) (sd:Int),vs=[.ref a,.int sd]∧SqL K H a (ns.map V.int)∧ns.length≤63∧0≤sd∧sd < 999999937∧∀ (z:List Nat) H',Same H H'→1≤z.length→z.length≤63→Cd z→Q (.str (tx z)) H'
theorem Zlm:∀ vs:List V,(∀ v∈vs,∃ c:Nat,v=V.str (tx [c])∧c < 1000)→∃ cs:List Nat,vs=(cs.map fun c=>tx [c]).map V.str∧cs.length=vs.length∧Cd cs:=by
 intro vs
 induction vs with
 | nil=>exact fun _=>⟨[],rfl,rfl,fun c hc=>by cases hc⟩
 | cons v vs ih =>
  intro h
  obtain ⟨cs,e,el,ed⟩:=ih fun u hu=>h u (by simp [hu])
  obtain ⟨c,ec,hc⟩:=h v (by simp)
  exact ⟨c :: cs,by rw [ec,e]; rfl,by simp [el],fun x hx=>(List.mem_cons.mp hx).elim (fun q=>q ▸ hc) (ed x)⟩
theorem Zia {l:List Nat} (h:Cd l) (i:Nat):l.getD i 0 < 1000:=by
 rw [List.getD_eq_getElem?_getD]
 by_cases hi:i < l.length
 ·rw [List.getElem?_eq_getElem hi]
  exact h _ (List.getElem_mem hi)
 ·rw [List.getElem?_eq_none (by omega)]
  decide
theorem Zet (cs:List Nat) (h:cs.length≤1000):(((cs.map fun c=>tx [c]).map fun x=>x.length).sum) + (cs.map fun c=>tx [c]).length * ("" : Str).length≤16777216:=by
 have e0:("" : Str).length=0:=rfl
 have es:((cs.map fun c=>tx [c]).map fun x=>x.length).sum≤(cs.map fun c=>tx [c]).length * 1:=XW _ 1 fun y hy=>by
  obtain ⟨c,_,rfl⟩:=List.mem_map.mp hy
  rw [ZG]
  exact Nat.le_refl _
 rw [e0,Nat.mul_zero]
 rw [List.length_map] at es
 omega
theorem Zg7 (D:HasDef K mg "_law_text" Zef ["_law_cells","_law_seed_here"]) (B:Blt mg) (g2_:FOk P w K mg base 1 "_law_letters" ["_law_cell"] Zb2):FOk P w K mg base 2 "_law_text" ["_law_cells","_law_seed_here"] (ZjR K):=by
 refine D.ok scLText (fun vs H Q E h=>?_) (fun f cdv A outer s H vs Q E hr h=>?_)
 ·obtain ⟨a,ns,sd,rfl,_⟩:=h
  rfl
 ·obtain ⟨a,ns,sd,rfl,ha,hl,h0,h1,k⟩:=h
  refine ⟨_,(Zd (Zl (i:=2) scLText.nd rfl (.inr rfl) (Zr g2_ hr (Za (pv 1) Ze)))
   (Zd (Zl (i:=3) scLText.nd rfl (.inl rfl) (Zdg F.plainAttrs_str F.slot_str_join F.type_str_join Zds JY (Za (ZI (Zf Zef) Zkf ["_law_cell"] [2] rfl (YK (pv 0)) (fun _ _ _ _ _=>Z6 0) (fun _ _ _ _ _=>ZX) (fun _ _ _ _ _=>(ZV ZeI (pv 1) (Zq Yl (pv 0) (Zp (Zig K) rfl B.len Yw (Za (pv 1) Ze))) (fun _ _=>rfl)))) Ze)))
   (Zd (Zl (i:=4) scLText.nd rfl (.inl rfl) (Zq Yl (Zq Yz (pv 1) Zg) Zg))
   (Zd (Ym (Zv XH (pv 3) JY (Zw _)) (Zh (Zl (i:=3) scLText.nd rfl (.inl rfl) (ZV ZeI (pv 2) Zg (fun _ _=>rfl)))) ZC)
   (Zd (Ym (Zv XH (pv 4) Zg (Zw _)) (Zh (Zl (i:=3) scLText.nd rfl (.inl rfl) (Zz Yb (Zq Zlk (Zz Yb (pv 3) ZQ (ZD (Zq ZO Zg (Zq Yl (Zq Yz (pv 1) Zg) Zg)))) Zg) ZQ (ZD (Zq ZO Zg (Zq Yl (Zq Yz (pv 1) Zg) Zg)))))) ZC)
   (Zd (Ym (Zv XH (pv 4) Zg (Zw _)) (Zh (Zl (i:=3) scLText.nd rfl (.inl rfl) (Zq Y0 (Zz Yb (pv 3) ZQ (ZD Zg)) (Zdg F.plainAttrs_str F.slot_str_join F.type_str_join Zds JY (Za (Zff rfl rfl B.list rfl B.rev (Zz Yb (pv 3) ZQ (ZD Zg))) Ze))))) ZC)
   (Zd (Ym (Zv XH (pv 4) Zg (Zw _)) (Zh (Zl (i:=3) scLText.nd rfl (.inl rfl) (Zq Y0 (Zz Yb (pv 3) ZQ (ZD Zg)) (Zz Yb (pv 3) ZQ (ZD (Zq ZO Zg (Zq Yl (Zq Yz (pv 1) Zg) Zg))))))) ZC)
   (Zh (Zm (pv 3)))))))))),?_⟩
  refine ⟨_,rfl,sd,rfl,h0,by omega,fun l H1 s1 l2 l4 lcd=>?_⟩
  have ha1:=s1.seq ha
  refine ⟨rfl,_,rfl,a,rfl,⟨_,ha1⟩,?_⟩
  refine Xa (ns.map V.int).length (fun i=>(ns.map V.int).getD i .non) (fun i v _=>∃ c:Nat,v = .str (tx [c])∧c < 1000) (by rw [List.length_map]; exact Zs (by omega)) (fun _ _ _ _ _ r=>r) (Ja ha1) ?_ ?_
  ·intro i H4 Qe hi hs kq
   have hi':i < ns.length:=by rw [List.length_map] at hi; exact hi
   rw [Yv hi']
   have mb:=YB ns[i] (show (0:Int) < (l.length:Int) by omega)
   exact ⟨_,rfl,_,rfl,_,rfl,.str (tx l),l.length,rfl,⟨ZE (by omega),(ZG l).symm⟩,_,_,rfl,rfl,(by show (0:Int) < (l.length:Int); omega),_,_,_,rfl,rfl,ZE (by omega),Zil mb.1 mb.2,kq _ _ (Same.refl _) ⟨_,rfl,Zia lcd _⟩⟩
  intro D1 vs1 H3 hl1 hr1 hs3 hD1 hDl1
  obtain ⟨cs,ecs,elc,ccd⟩:=Zlm vs1 fun v hv=>by
   obtain ⟨i,hi,e⟩:=List.mem_iff_getElem.mp hv
   exact hr1 i v (by rw [← e]; exact List.getElem?_eq_getElem hi)
  rw [ecs] at hDl1
  rw [List.length_map] at hl1
  refine ⟨"",D1,cs.map fun c=>tx [c],rfl,rfl,SqL.of hDl1,Zet cs (by omega),?_⟩
  rw [J9]
  refine ⟨_,rfl,_,_,rfl,rfl,⟨by decide,by decide⟩,_,_,rfl,rfl,(by show (0:Int) < 6; decide),?_⟩
  have s13:=s1.trans hs3
  dsimp only [Zap]
  show ZdY (Ziq _ _ _) _ _ _ _
  refine ZaX (fun σ H'=>∃ z:List Nat,σ=[some (.ref a),some (.int sd),some (.str (tx l)),some (.str (tx z)),some (.int (sd / 1009 % 6))]∧Same H H'∧1≤z.length∧z.length≤63∧Cd z) (fun R hR=>?_) ?_
  ·refine ⟨_,rfl,rfl,_,rfl,Zfv (fun e=>?_) (fun e=>?_)⟩
   ·refine ⟨_,rfl,_,_,_,rfl,rfl,ZE (by omega),Zil (z:=l) (by decide) (by omega),?_⟩
    exact hR _ _ ⟨[l.getD 0 0],rfl,s13,by simp,by simp,fun c hc=>by rw [List.mem_singleton.mp hc]; exact Zia lcd 0⟩
   ·refine hR _ _ ⟨cs,rfl,s13,?_,by omega,ccd⟩
    cases cs with
    | nil=>exact absurd (decide_eq_true rfl) e
    | cons c r=>simp
  rintro σ H4 ⟨z,rfl,s4,z1,z63,zcd⟩
  show ZdY (Ziq _ _ _) _ _ _ _
  refine ZaX (fun σ H'=>∃ z:List Nat,σ=[some (.ref a),some (.int sd),some (.str (tx l)),some (.str (tx z)),some (.int (sd / 1009 % 6))]∧Same H H'∧1≤z.length∧z.length≤63∧Cd z) (fun R hR=>?_) ?_
  ·refine ⟨_,rfl,rfl,_,rfl,Zfv (fun e=>?_) (fun e=>hR _ _ ⟨z,rfl,s4,z1,z63,zcd⟩)⟩
   have m7:=YB (sd / 7) (show (0:Int) < 7 by decide)
   have m60:=YB (sd / 49) (show (0:Int) < 60 by decide)
   refine ⟨_,rfl,_,rfl,_,_,rfl,rfl,⟨by decide,by decide⟩,_,_,rfl,rfl,(by show (0:Int) < 7; decide),_,_,rfl,rfl,_,rfl,_,rfl,ZE (by omega),?_⟩
   dsimp only
   rw [ZT (by omega)]
   have hz':(z.take (1 + sd / 7 % 7).toNat).length≤7∧1≤(z.take (1 + sd / 7 % 7).toNat).length:=by
    rw [List.length_take]
    omega
   have hyc:Cd (z.take (1 + sd / 7 % 7).toNat):=fun c hc=>zcd c (List.mem_of_mem_take hc)
   generalize z.take (1 + sd / 7 % 7).toNat=y at hz' hyc
   have em:Txt.mul (tx y) 50=tx ((List.replicate 50 y).flatten):=by
    apply ZP
    rw [Zhk (by decide) (by rw [ZG]; omega),ZH,ZH]
    rfl
   refine ⟨_,_,rfl,rfl,L2.mulOk_of (by decide) (by decide) (by rw [ZG]; omega),?_⟩
   rw [em]
   have hrl:=Zk8 50 y
   refine ⟨_,rfl,_,_,rfl,rfl,⟨by decide,by decide⟩,_,_,rfl,rfl,(by show (0:Int) < 60; decide),_,_,rfl,rfl,_,rfl,_,rfl,ZE (by omega),?_⟩
   dsimp only
   rw [ZT (by omega)]
   refine hR _ _ ⟨_,rfl,s4,?_,?_,fun c hc=>?_⟩
   ·rw [List.length_take]; omega
   ·rw [List.length_take]; omega
   ·obtain ⟨q,hq,hcq⟩:=List.mem_flatten.mp (List.mem_of_mem_take hc)
    rw [(List.mem_replicate.mp hq).2] at hcq
    exact hyc c hcq
  rintro σ H5 ⟨z,rfl,s5,z1,z63,zcd⟩
  show ZdY (Ziq _ _ _) _ _ _ _
  refine ZaX (fun σ H'=>∃ z:List Nat,σ=[some (.ref a),some (.int sd),some (.str (tx l)),some (.str (tx z)),some (.int (sd / 1009 % 6))]∧Same H H'∧1≤z.length∧z.length≤63∧Cd z) (fun R hR=>?_) ?_
  ·refine ⟨_,rfl,rfl,_,rfl,Zfv (fun e=>?_) (fun e=>hR _ _ ⟨z,rfl,s5,z1,z63,zcd⟩)⟩
   refine ⟨_,rfl,_,rfl,_,rfl,ZE (by omega),rfl,_,rfl,_,rfl,_,rfl,ZE (by omega),_,rfl,?_,fun p hp=>?_⟩
   ·rw [ZT (by decide)]
    exact ZE (by rw [List.length_take]; omega)
   rw [ZT (by decide),ZH]
   have hz':(z.take (30:Int).toNat).length≤30∧1≤(z.take (30:Int).toNat).length:=by
    rw [List.length_take]
    have:(30:Int).toNat=30:=rfl
    omega
   have hyc:Cd (z.take (30:Int).toNat):=fun c hc=>zcd c (List.mem_of_mem_take hc)
   generalize z.take (30:Int).toNat=y at hz' hyc
   have s6:=Zb (o:=.lst (y.reverse.map fun c=>V.str (tx [c]))) hp
   have em:(y.reverse.map fun c=>V.str (tx [c]))=(y.reverse.map fun c=>tx [c]).map V.str:=by rw [List.map_map]; rfl
   refine ⟨"",p,y.reverse.map fun c=>tx [c],rfl,rfl,SqL.of (by rw [Zc,em]),Zet y.reverse (by rw [List.length_reverse]; omega),?_⟩
   rw [J9]
   refine ⟨_,_,rfl,rfl,?_,?_⟩
   ·rw [ZG,ZG,List.length_reverse]; exact Zs (by omega)
   rw [ZbV]
   refine hR _ _ ⟨_,rfl,s5.trans s6,?_,?_,fun c hc=>?_⟩
   ·rw [List.length_append]; omega
   ·rw [List.length_append,List.length_reverse]; omega
   ·rcases List.mem_append.mp hc with q | q
    ·exact hyc c q
    ·exact hyc c (List.mem_reverse.mp q)
  rintro σ H6 ⟨z,rfl,s6,z1,z63,zcd⟩
  show ZdY (Ziq _ _ _) _ _ _ _
  refine ZaX (fun σ H'=>∃ z:List Nat,σ=[some (.ref a),some (.int sd),some (.str (tx l)),some (.str (tx z)),some (.int (sd / 1009 % 6))]∧Same H H'∧1≤z.length∧z.length≤63∧Cd z) (fun R hR=>?_) ?_
  ·refine ⟨_,rfl,rfl,_,rfl,Zfv (fun e=>?_) (fun e=>hR _ _ ⟨z,rfl,s6,z1,z63,zcd⟩)⟩
   have m6:=YB (sd / 11) (show (0:Int) < 6 by decide)
   refine ⟨_,rfl,_,rfl,_,rfl,ZE (by omega),_,rfl,_,rfl,_,_,rfl,rfl,⟨by decide,by decide⟩,_,_,rfl,rfl,(by show (0:Int) < 6; decide),_,_,rfl,rfl,_,rfl,_,rfl,ZE (by omega),?_⟩
   dsimp only
   rw [ZT (by decide),ZT (by omega)]
   have b1:(z.take (40:Int).toNat).length≤40∧1≤(z.take (40:Int).toNat).length:=by
    rw [List.length_take]
    have:(40:Int).toNat=40:=rfl
    omega
   have b2:(z.take (1 + sd / 11 % 6).toNat).length≤6:=by
    rw [List.length_take]; omega
   refine ⟨_,_,rfl,rfl,?_,?_⟩
   ·rw [ZG,ZG]; exact Zs (by omega)
   rw [ZbV]
   refine hR _ _ ⟨_,rfl,s6,?_,?_,fun c hc=>?_⟩
   ·rw [List.length_append]; omega
   ·rw [List.length_append]; omega
   ·rcases List.mem_append.mp hc with q | q
    ·exact zcd c (List.mem_of_mem_take q)
    ·exact zcd c (List.mem_of_mem_take q)
  rintro σ H7 ⟨z,rfl,s7,z1,z63,zcd⟩
  exact ⟨_,rfl,k z H7 s7 z1 z63 zcd⟩
end
theorem ZgP {z:List Nat} {L p:Nat} (h:p≤z.length - L + 1):atI (ZiO z L) (p:Int)=some (.str (tx (pt z L p))):=by
 refine ZbL ?_
 unfold ZiO
 rw [List.getElem?_map,List.getElem?_range (by omega)]
 rfl
section
variable {P:Program} {w:World} {K:PySem.W.Frag} {mg:Str→Option Value} {base:Heap}
end
section
variable {P:Program} {w:World} {K:PySem.W.Frag} {mg:Str→Option Value} {base:Heap} {C:Addr}
end
end Sh
namespace L2
open PySem PySem.Spec PyProof.Rows
end L2
namespace Sh
open PySem L2 PyProof.Rows
seal L2.PE L2.PS L2.PSs L2.PT L2.PW L2.PA L2.PI L2.PG L2.PGs L2.PO L2.PC L2.PCs L2.OpR L2.UnR L2.CallR L2.MtR L2.IxR L2.SlR
section
variable {P:Program} {w:World} {K:PySem.W.Frag} {mg:Str→Option Value} {base:Heap}
end
end Sh
namespace L2
open PySem PySem.Spec PyProof.Rows
end L2
namespace Sh
open PySem L2 PyProof.Rows
seal L2.PE L2.PS L2.PSs L2.PT L2.PW L2.PA L2.PI L2.PG L2.PGs L2.PO L2.PC L2.PCs L2.OpR L2.UnR L2.CallR L2.MtR L2.IxR L2.SlR
section
variable {P:Program} {w:World} {K:PySem.W.Frag} {mg:Str→Option Value} {base:Heap}
end
def Xb (f:Nat→Str):Nat→Str→Option Nat
 | 0,_=>none
 | i + 1,s=>if f i=s then some i else Xb f i s
theorem Zdy (f:Nat→Str) (i:Nat) (s:Str):Xb f (i + 1) s=if f i=s then some i else Xb f i s:=rfl
theorem Xn {f:Nat→Str}:∀ {n:Nat} {s:Str} {j:Nat},Xb f n s=some j→j < n∧f j=s∧∀ k,k < n→f k=s→k≤j
 | 0,_,_,h=>by cases h
 | n + 1,s,j,h=>by
  unfold Xb at h
  split at h
  ·rename_i e
   cases h
   exact ⟨by omega,e,fun k hk _=>by omega⟩
  ·rename_i e
   obtain ⟨h1,h2,h3⟩:=Xn h
   refine ⟨by omega,h2,fun k hk ek=>?_⟩
   by_cases c:k=n
   ·subst c
    exact (e ek).elim
   ·exact h3 k (by omega) ek
theorem Zct {f:Nat→Str} {s:Str}:∀ {n i:Nat},i < n→f i=s→∃ j,Xb f n s=some j
 | 0,i,h,_=>by omega
 | n + 1,i,h,e=>by
  unfold Xb
  by_cases c:f n=s
  ·exact ⟨n,if_pos c⟩
  ·rw [if_neg c]
   refine Zct (i:=i) ?_ e
   by_cases d:i=n
   ·subst d
    exact (c e).elim
   ·omega
section
variable {P:Program} {w:World} {K:PySem.W.Frag} {mg:Str→Option Value} {base:Heap}
abbrev Yh:Stmt:=top 3
abbrev Jj:List Str:=["T","long"]
theorem ZaZ:Zk Jj ["T","long"] (Zf Yh):=⟨rfl,rfl,rfl,by decide +kernel,rfl,by decide +kernel,by decide +kernel⟩
theorem J1 (D:HasDef K mg "points_along" Yh ["T","long"]) (B:Blt mg) (g21_:FOk P w K mg base 1 "last_place" ["T","long"] Zd6) (g29_:FOk P w K mg base 1 "point_at" ["T","long","place"] ZaT):FOk P w K mg base 2 "points_along" ["T","long"] Zmj:=by
 refine D.ok ZaZ (fun vs H Q E h=>?_) (fun f cdv A outer s H vs Q E hr h=>?_)
 ·obtain ⟨z,L,rfl,_⟩:=h
  rfl
 ·obtain ⟨z,L,rfl,hF,hz,k⟩:=h
  refine ⟨_,(Zh (Zm (ZI (Zf Yh) Jj ["place"] [0,1] rfl (XF rfl B.range (Za (Zq ZO (Zr g21_ hr (Za (pv 0) (Za (pv 1) Ze))) Zg) Ze)) (fun _ _ _ _ _=>Z6 0) (fun _ _ _ _ _=>ZX) (fun _ _ _ _ _=>(Zr g29_ hr (Za (pv 1) (Za (pv 2) (Za (pv 0) Ze)))))))),?_⟩
  have o:=hF.one
  have l:=hF.le
  refine ⟨_,rfl,_,rfl,z,L,rfl,hF,hz,_,_,rfl,rfl,_,rfl,by omega,by omega,?_⟩
  have en:(((z.length - L + 1:Nat):Int) + 1).toNat=z.length - L + 2:=by omega
  rw [en]
  refine Xa (z.length - L + 2) (fun i=>.int (0 + (i:Int))) (fun i v _=>v = .str (tx (pt z L i))) (Zt (by omega)) (fun _ _ _ _ _ r=>r) Zbw ?_ ?_
  ·intro i H3 Qe hi hs kq
   refine ⟨_,rfl,_,rfl,_,rfl,z,L,i,?_,hF,hz,by omega,kq _ _ (Same.refl _) rfl⟩
   rw [Int.zero_add]
   rfl
  ·intro D1 vs1 H3 hl1 hr1 hs3 hD1 hDl1
   refine k D1 H3 hs3 ?_
   rw [hDl1,ZdP hl1 hr1]
   rfl
abbrev Xi:Stmt:=top 7
abbrev Zdr:List Str:=["points","places","place","point"]
theorem scLastPlaces:Zk Zdr ["points"] (Zf Xi):=⟨rfl,rfl,rfl,by decide +kernel,rfl,by decide +kernel,by decide +kernel⟩
def Zgk:Sp:=fun vs H Q _=>∃ (a:Addr) (n:Nat) (f:Nat→Str),vs=[.ref a]∧H a=some (.lst ((List.range n).map fun i=>V.str (f i)))∧n≤1001∧∀ p H' kvs,Same H H'→H p=none→H' p=some (.dK kvs)→(∀ s,valV kvs (.inr s)=(Xb f n s).map fun j:Nat=>V.int (j:Int))→Q (.ref p) H'
theorem Zam (D:HasDef K mg "last_places" Xi ["points"]) (B:Blt mg):FOk P w K mg base 1 "last_places" ["points"] Zgk:=by
 refine D.ok scLastPlaces (fun vs H Q E h=>?_) (fun f cdv A outer s H vs Q E hr h=>?_)
 ·obtain ⟨a,n,f,rfl,_⟩:=h
  rfl
 ·obtain ⟨a,n,f,rfl,ha,hn,k⟩:=h
  have hu:=Zcy hr
  refine ⟨_,(Zd (Zl (i:=1) scLastPlaces.nd rfl (.inl rfl) Yk)
   (Zd (Yf PassesOwn.never rfl (ZgX rfl B.enum (Za (pv 0) Ze)) (ZS 2 K rfl (Zo (Zy (i:=2) scLastPlaces.nd rfl (.inl rfl)) (Zo (Zy (i:=3) scLastPlaces.nd rfl (.inl rfl)) ZR)))
    (Zh (YJ hu (pv 1) (pv 3) (pv 2) rfl)))
   (Zh (Zm (pv 1))))),?_⟩
  refine fun d hd=>⟨_,rfl,a,rfl,⟨_,SqL.of (Zb hd _ _ ha)⟩,?_⟩
  refine ZeQ (K:=K) (a:=a) (xs:=(List.range n).map fun i=>V.str (f i)) (fun i σ H2=>∃ kvs,Same H H2∧H2 d=some (.dK kvs)∧kvs.length≤i∧(∃ z2 z3:Option V,σ=[some (.ref a),some (.ref d),z2,z3])∧∀ s,valV kvs (.inr s)=(Xb f i s).map fun j:Nat=>V.int (j:Int))
   ⟨[],Zb hd,Zc,Nat.le_refl _,⟨none,none,rfl⟩,fun s=>rfl⟩ (fun i σ H2 _ ⟨kvs,s2,_⟩=>SqL.of (s2 _ _ ha)) ?_ ?_
  ·rintro i x σ H2 t hx ht ⟨kvs,s2,h2,hl,⟨z2,z3,rfl⟩,hv⟩
   have hi:i < n:=by
    have:=(List.getElem?_eq_some_iff.mp hx).1
    rw [List.length_map,List.length_range] at this
    exact this
   have ex:x=V.str (f i):=by
    rw [List.getElem?_map,List.getElem?_range hi] at hx
    exact (Option.some.inj hx).symm
   subst ex
   have s3:=Zb (o:=.tup [.int i,.str (f i)]) ht
   refine ⟨t,_,rfl,SqT.of Zc,rfl,_,_,rfl,_,_,rfl,rfl,?_⟩
   refine ⟨_,rfl,_,rfl,_,rfl,d,_,rfl,DPut.k (k:=.inr (f i)) (s3 _ _ h2) (Nat.lt_of_le_of_lt hl (Nat.lt_of_lt_of_le (show i < 1001 + 1 by omega) (Zt (by decide)))),?_⟩
   refine ⟨YI kvs (.inr (f i)) (.int i),fun b o e=>?_,Zc,?_,⟨_,_,rfl⟩,fun s=>?_⟩
   ·rw [Zi (Zj e hd)]
    exact s3 _ _ (s2 _ _ e)
   ·have:=Z3 kvs (.inr (f i):Key) (.int i)
    omega
   ·rw [Ju,hv,Zdy]
    by_cases c:f i=s
    ·rw [if_pos (by rw [c]),if_pos c]
     rfl
    ·rw [if_neg (fun e=>c (Sum.inr.inj e).symm),if_neg c]
  ·rintro σ H2 ⟨kvs,s2,h2,hl,⟨z2,z3,rfl⟩,hv⟩
   rw [List.length_map,List.length_range] at hv
   exact ⟨_,rfl,k d H2 kvs s2 hd h2 hv⟩
abbrev Z5:Stmt:=top 8
abbrev Y9:List Str:=["places","sign","otherwise"]
theorem JQ:Zk Y9 ["places","sign","otherwise"] (Zf Z5):=⟨rfl,rfl,rfl,by decide +kernel,rfl,by decide +kernel,by decide +kernel⟩
def esK (es:List (Str × Nat)):List (Key × V):=es.map fun e=>((Sum.inr e.1:Key),V.int e.2)
def Zgn:Sp:=fun vs H Q _=>∃ (d:Addr) (x:Str) (c:Int) (es:List (Str × Nat)),vs=[.ref d,.str x,.int c]∧H d=some (.dK (esK es))∧es.length≤1001 ∧
 ∀ r:Int,(((∀ e∈es,e.1=x)∧r=c)∨∃ e∈es,e.1≠x∧r=e.2∧∀ e'∈es,e'.1≠x→e.2≤e'.2)→∀ H',Same H H'→Q (.int r) H'
theorem XI (D:HasDef K mg "first_of_others" Z5 ["places","sign","otherwise"]) (B:Blt mg):FOk P w K mg base 1 "first_of_others" ["places","sign","otherwise"] Zgn:=by
 refine D.ok JQ (fun vs H Q E h=>?_) (fun f cdv A outer s H vs Q E hr h=>?_)
 ·obtain ⟨d,x,c,es,rfl,_⟩:=h
  rfl
 ·obtain ⟨d,x,c,es,rfl,hd,hn,k⟩:=h
  refine ⟨_,(Zh (Zm (Zmz (Zld rfl rfl B.min (Za (ZI (Zf Z5) Y9 ["other","place"] [1] rfl (ZiS (pv 0)) (fun _ _ _ _ _=>ZS 2 K rfl (Zo (Z6 0) (Zo (Z6 1) ZR))) (fun _ _ _ _ _=>Zbg (Zv Zfh (pv 0) (pv 2) (Zw _))) (fun _ _ _ _ _=>(pv 1))) Ze) (Zlb (pv 2) Zmu))))),?_⟩
  have hlen:(esK es).length=es.length:=by unfold esK; rw [List.length_map]
  have back:∀ o H3,Same (upd H d (.frz o (.dK (esK es)))) H3→Same H (upd H3 d (.dK (esK es))):=fun o H3 s3 b u e=>by
   by_cases c:b=d
   ·subst c
    rw [hd] at e
    cases e
    exact Zc
   ·rw [Zi c]
    exact s3 _ _ (by rw [Zi c]; exact e)
  refine ⟨d,_,hd,fun o=>⟨_,rfl,d,o,_,rfl,Zc,Zjc (fun i=>!decide ((es.getD i ("",0)).1=x)) (fun i=>V.int ((es.getD i ("",0)).2:Int)) (by rw [hlen]; exact Zt (by omega)) Zc ?_ ?_⟩⟩
  ·intro i p H3 T Qt Qf hp hT hs ht hf
   have hi:i < es.length:=by
    have:=(List.getElem?_eq_some_iff.mp hp).1
    rw [hlen] at this
    exact this
   have ep:p=((Sum.inr (es.getD i ("",0)).1:Key),V.int ((es.getD i ("",0)).2:Int)):=by
    unfold esK at hp
    rw [List.getElem?_map,List.getElem?_eq_getElem hi] at hp
    rw [List.getD_eq_getElem?_getD,List.getElem?_eq_getElem hi]
    exact (Option.some.inj hp).symm
   subst ep
   refine ⟨T,_,rfl,SqT.of hT,rfl,_,_,rfl,_,_,rfl,rfl,?_⟩
   refine ⟨_,rfl,_,rfl,rfl,_,rfl,?_⟩
   by_cases c:(es.getD i ("",0)).1=x
   ·have e1:decide (V.str (es.getD i ("",0)).1=V.str x)=true:=by rw [c]; exact decide_eq_true rfl
    refine Zao (by show (!decide (V.str (es.getD i ("",0)).1=V.str x))=false; rw [e1]; rfl) (hf (by rw [decide_eq_true c]; rfl))
   ·have e1:decide (V.str (es.getD i ("",0)).1=V.str x)=false:=decide_eq_false fun z=>c (V.str.inj z)
    refine ZbP (by show (!decide (V.str (es.getD i ("",0)).1=V.str x))=true; rw [e1]; rfl) ⟨_,rfl,ht (by rw [decide_eq_false c]; rfl)⟩
  ·intro D1 H3 hs3 hD1 hDl
   have em:((List.range (esK es).length).filter fun i=>!decide ((es.getD i ("",0)).1=x)).map (fun i=>V.int ((es.getD i ("",0)).2:Int))=(((List.range es.length).filter fun i=>!decide ((es.getD i ("",0)).1=x)).map fun i=>((es.getD i ("",0)).2:Int)).map V.int:=by
    rw [List.map_map,hlen]
    rfl
   rw [em] at hDl
   have mem:∀ e∈es,e.1≠x→(e.2:Int)∈(((List.range es.length).filter fun i=>!decide ((es.getD i ("",0)).1=x)).map fun i=>((es.getD i ("",0)).2:Int)):=fun e he hx=>by
    obtain ⟨i,hi,ei⟩:=List.getElem_of_mem he
    have e2:es.getD i ("",0)=e:=by rw [List.getD_eq_getElem?_getD,List.getElem?_eq_getElem hi]; exact ei
    refine List.mem_map.mpr ⟨i,List.mem_filter.mpr ⟨List.mem_range.mpr hi,?_⟩,by rw [e2]⟩
    rw [e2,decide_eq_false hx]
    rfl
   have of_mem:∀ m,m∈(((List.range es.length).filter fun i=>!decide ((es.getD i ("",0)).1=x)).map fun i=>((es.getD i ("",0)).2:Int))→∃ e∈es,e.1≠x∧m=e.2:=fun m hm=>by
    obtain ⟨i,hi,rfl⟩:=List.mem_map.mp hm
    obtain ⟨h1,h2⟩:=List.mem_filter.mp hi
    have hi':=List.mem_range.mp h1
    refine ⟨es.getD i ("",0),?_,fun z=>?_,rfl⟩
    ·rw [List.getD_eq_getElem?_getD,List.getElem?_eq_getElem hi']
     exact List.getElem_mem hi'
    ·rw [decide_eq_true z] at h2
     cases h2
   refine ⟨_,rfl,D1,_,_,rfl,rfl,SqL.of hDl,fun h0=>⟨hs3 _ _ Zc,k c (.inl ⟨fun e he=>?_,rfl⟩) _ (back o H3 hs3)⟩,fun m hm hle=>⟨hs3 _ _ Zc,?_⟩⟩
   ·apply Classical.byContradiction
    intro hx
    have:=mem e he hx
    rw [h0] at this
    exact nomatch this
   ·obtain ⟨e,he,hx,rfl⟩:=of_mem m hm
    refine k _ (.inr ⟨e,he,hx,rfl,fun e' he' hx'=>?_⟩) _ (back o H3 hs3)
    have:=hle _ (mem e' he' hx')
    omega
end
def EsOk (z:List Nat) (L i:Nat) (s:Str) (es:List (Str × Nat)):Prop :=
 (∀ e∈es,∃ j,j < i∧tx (pt z L j)=s∧e=(tx [sg z L j],j))∧(∀ j,j < i→tx (pt z L j)=s→∃ e∈es,e.1=tx [sg z L j]∧e.2≤j)∧es.length≤i
theorem EsOk.skip {z:List Nat} {L i:Nat} {s:Str} {es:List (Str × Nat)} (h:EsOk z L i s es) (hn:tx (pt z L i)≠s):EsOk z L (i + 1) s es:=by
 obtain ⟨h1,h2,h3⟩:=h
 refine ⟨fun e he=>?_,fun j hj ej=>?_,by omega⟩
 ·obtain ⟨j,a,b⟩:=h1 e he
  exact ⟨j,by omega,b⟩
 ·by_cases c:j=i
  ·subst c
   exact (hn ej).elim
  ·exact h2 j (by omega) ej
theorem ZlM {es:List (Str × Nat)} {x:Str}:∀ {v:V},valV (esK es) (.inr x)=some v→∃ e∈es,e.1=x∧v = .int e.2:=by
 induction es with
 | nil=>intro v h; cases h
 | cons e r ih =>
  intro v h
  have h':valV (((Sum.inr e.1:Key),V.int e.2) :: esK r) (.inr x)=some v:=h
  by_cases c:e.1=x
  ·rw [ZL (by rw [c])] at h'
   cases h'
   exact ⟨e,List.mem_cons_self,c,rfl⟩
  ·rw [ZM (fun q=>c (Sum.inr.inj q))] at h'
   obtain ⟨e',he,a,b⟩:=ih h'
   exact ⟨e',List.mem_cons_of_mem _ he,a,b⟩
theorem ZlN {es:List (Str × Nat)} {x:Str} {c:Nat} (h:valV (esK es) (.inr x)=none):YI (esK es) (.inr x) (.int c)=esK (es ++ [(x,c)]):=by
 rw [XE _ h]
 unfold esK
 rw [List.map_append]
 rfl
theorem EsOk.here {z:List Nat} {L i:Nat} {es:List (Str × Nat)} {v:V} (h:EsOk z L i (tx (pt z L i)) es) (hv:valV (esK es) (.inr (tx [sg z L i]))=some v):EsOk z L (i + 1) (tx (pt z L i)) es:=by
 obtain ⟨h1,h2,h3⟩:=h
 refine ⟨fun e he=>?_,fun j hj ej=>?_,by omega⟩
 ·obtain ⟨j,a,b⟩:=h1 e he
  exact ⟨j,by omega,b⟩
 ·by_cases c:j=i
  ·subst c
   obtain ⟨e,he,a,_⟩:=ZlM hv
   obtain ⟨j',b1,b2,b3⟩:=h1 e he
   refine ⟨e,he,a,?_⟩
   rw [b3]
   exact Nat.le_of_lt b1
  ·exact h2 j (by omega) ej
theorem EsOk.new {z:List Nat} {L i:Nat} {es:List (Str × Nat)} (h:EsOk z L i (tx (pt z L i)) es):EsOk z L (i + 1) (tx (pt z L i)) (es ++ [(tx [sg z L i],i)]):=by
 obtain ⟨h1,h2,h3⟩:=h
 refine ⟨fun e he=>?_,fun j hj ej=>?_,by rw [List.length_append,List.length_singleton]; omega⟩
 ·rcases List.mem_append.mp he with q | q
  ·obtain ⟨j,a,b⟩:=h1 e q
   exact ⟨j,by omega,b⟩
  ·exact ⟨i,by omega,rfl,List.mem_singleton.mp q⟩
 ·by_cases c:j=i
  ·subst c
   exact ⟨_,List.mem_append_right _ (List.mem_singleton.mpr rfl),rfl,Nat.le_refl _⟩
  ·obtain ⟨e,he,a⟩:=h2 j (by omega) ej
   exact ⟨e,List.mem_append_left _ he,a⟩
structure Firsts (H H2:Hp) (z:List Nat) (L i:Nat) (pl pf:Addr) (kf:List (Key × V)):Prop where
 any:∀ s,(valV kf (.inr s)=none∧∀ j,j < i→tx (pt z L j)≠s)∨∃ q es,valV kf (.inr s)=some (.ref q)∧H2 q=some (.dK (esK es))∧EsOk z L i s es∧q≠pl∧q≠pf∧H q=none
 inj:∀ s s' q,valV kf (.inr s)=some (.ref q)→valV kf (.inr s')=some (.ref q)→s=s'
theorem Firsts.stay {H H2 H3:Hp} {z:List Nat} {L i:Nat} {pl pf:Addr} {kf:List (Key × V)} (h:Firsts H H2 z L i pl pf kf) (k:∀ q es,H2 q=some (.dK es)→q≠pf→H3 q=some (.dK es)):Firsts H H3 z L i pl pf kf:=by
 refine ⟨fun s=>?_,h.inj⟩
 rcases h.any s with q | ⟨q,es,a,b,c,d,e,g⟩
 ·exact .inl q
 ·exact .inr ⟨q,es,a,k _ _ b e,c,d,e,g⟩
theorem Firsts.more {H H2:Hp} {z:List Nat} {L i:Nat} {pl pf q:Addr} {kf:List (Key × V)} {s:Str} (h:Firsts H H2 z L i pl pf kf) (hn:valV kf (.inr s)=none) (hno:∀ j,j < i→tx (pt z L j)≠s) (hq:H2 q=none) (hpl:q≠pl) (hpf:q≠pf) (hH:H q=none) {H3:Hp}
  (e3:H3 q=some (.dK [])) (k:∀ r es,H2 r=some (.dK es)→r≠pf→H3 r=some (.dK es)):Firsts H H3 z L i pl pf (YI kf (.inr s) (.ref q)):=by
 have old:∀ s' r,valV kf (.inr s')=some (.ref r)→r≠q:=fun s' r e z=>by
  rcases h.any s' with ⟨a,_⟩ | ⟨q',es,a,b,_⟩
  ·rw [a] at e; cases e
  ·rw [a] at e
   cases e
   rw [z,hq] at b
   cases b
 refine ⟨fun s'=>?_,fun s1 s2 r e1 e2=>?_⟩
 ·rw [Ju]
  by_cases c:s'=s
  ·subst c
   rw [if_pos rfl]
   exact .inr ⟨q,[],rfl,e3,⟨fun e he=>(nomatch he),fun j hj ej=>(hno j hj ej).elim,Nat.zero_le _⟩,hpl,hpf,hH⟩
  ·rw [if_neg (fun z=>c (Sum.inr.inj z))]
   rcases h.any s' with a | ⟨q',es,a,b,c',d,e,g⟩
   ·exact .inl a
   ·exact .inr ⟨q',es,a,k _ _ b e,c',d,e,g⟩
 ·rw [Ju] at e1 e2
  by_cases c1:(Sum.inr s1:Key)=Sum.inr s
  ·by_cases c2:(Sum.inr s2:Key)=Sum.inr s
   ·exact Sum.inr.inj (c1.trans c2.symm)
   ·rw [if_pos c1] at e1
    rw [if_neg c2] at e2
    cases e1
    exact (old _ _ e2 rfl).elim
  ·by_cases c2:(Sum.inr s2:Key)=Sum.inr s
   ·rw [if_neg c1] at e1
    rw [if_pos c2] at e2
    cases e2
    exact (old _ _ e1 rfl).elim
   ·rw [if_neg c1] at e1
    rw [if_neg c2] at e2
    exact h.inj _ _ _ e1 e2
theorem Firsts.turn {H H2 H3:Hp} {z:List Nat} {L i:Nat} {pl pf q:Addr} {kf:List (Key × V)} {es':List (Str × Nat)} (h:Firsts H H2 z L i pl pf kf) (hq:valV kf (.inr (tx (pt z L i)))=some (.ref q)) (he:EsOk z L (i + 1) (tx (pt z L i)) es') (e3:H3 q=some (.dK (esK es')))
  (k:∀ r es,H2 r=some (.dK es)→r≠q→H3 r=some (.dK es)):Firsts H H3 z L (i + 1) pl pf kf:=by
 refine ⟨fun s=>?_,h.inj⟩
 by_cases c:tx (pt z L i)=s
 ·subst c
  rcases h.any (tx (pt z L i)) with ⟨a,_⟩ | ⟨q',es2,a,b,c',d,e,g⟩
  ·rw [hq] at a; cases a
  ·rw [hq] at a
   cases a
   exact .inr ⟨q,es',hq,e3,he,d,e,g⟩
 ·rcases h.any s with ⟨a,b⟩ | ⟨q',es2,a,b,c',d,e,g⟩
  ·refine .inl ⟨a,fun j hj ej=>?_⟩
   by_cases cj:j=i
   ·subst cj
    exact c ej
   ·exact b j (by omega) ej
  ·refine .inr ⟨q',es2,a,k _ _ b (fun z=>?_),c'.skip c,d,e,g⟩
   subst z
   exact c (h.inj _ _ _ hq a)
structure Mid (z:List Nat) (L i:Nat) (ms:List Nat):Prop where
 up:ms.Pairwise (· < ·)
 le:∀ m∈ms,m≤i
 all:∀ m d,m≤i→i < d→d≤z.length - L + 1→pt z L m=pt z L d→m∈ms
theorem Mid.push {z:List Nat} {L i:Nat} {ms:List Nat} (h1:ms.Pairwise (· < ·)) (h2:∀ m∈ms,m < i) (h3:∀ m d,m < i→i≤d→d≤z.length - L + 1→pt z L m=pt z L d→m∈ms):Mid z L i (ms ++ [i]):=by
 refine ⟨List.pairwise_append.mpr ⟨h1,List.pairwise_singleton _ _,fun a ha b hb=>?_⟩,fun m hm=>?_,fun m d hm hd hn e=>?_⟩
 ·rw [List.mem_singleton.mp hb]
  exact h2 a ha
 ·rcases List.mem_append.mp hm with q | q
  ·exact Nat.le_of_lt (h2 m q)
  ·exact Nat.le_of_eq (List.mem_singleton.mp q)
 ·by_cases c:m=i
  ·exact List.mem_append_right _ (List.mem_singleton.mpr c)
  ·exact List.mem_append_left _ (h3 m d (by omega) (by omega) hn e)
theorem Mid.pop {z:List Nat} {L i m:Nat} {r:List Nat} (h:Mid z L i (r ++ [m])) (hl:∀ d,i < d→d≤z.length - L + 1→pt z L m≠pt z L d):Mid z L i r:=by
 refine ⟨(List.pairwise_append.mp h.up).1,fun x hx=>h.le x (List.mem_append_left _ hx),fun x d h1 h2 h3 h4=>?_⟩
 rcases List.mem_append.mp (h.all x d h1 h2 h3 h4) with q | q
 ·exact q
 ·rw [List.mem_singleton.mp q] at h4
  exact (hl d h2 h3 h4).elim
theorem Mid.top {z:List Nat} {L i m:Nat} {r:List Nat} (h:Mid z L i (r ++ [m])) {x:Nat} (hx:x∈r ++ [m]):x≤m:=by
 rcases List.mem_append.mp hx with q | q
 ·exact Nat.le_of_lt ((List.pairwise_append.mp h.up).2.2 x q m (List.mem_singleton.mpr rfl))
 ·exact Nat.le_of_eq (List.mem_singleton.mp q)
theorem ZkW {z:List Nat} {L i:Nat} (hF:Fit z L) (hi:i < z.length - L + 1):atI (tx z).cps.toList ((i:Int) + (L:Int) - 1)=some (sg z L i):=by
 have:=hF.one
 have:=hF.le
 rw [ZH]
 refine Yn (by omega) ?_
 have e:((i:Int) + (L:Int) - 1).toNat=i + L - 1:=by omega
 unfold sg
 rw [e,List.getD_eq_getElem?_getD,List.getElem?_eq_getElem (show i + L - 1 < z.length by omega)]
 rfl
theorem pts_len {z:List Nat} {L:Nat}:(ZiO z L).length=z.length - L + 2:=by
 unfold ZiO
 rw [List.length_map,List.length_range]
theorem Zbo (r:List Nat) (m:Nat):atI ((r ++ [m]).map fun x:Nat=>V.int (x:Int)) (-1)=some (V.int (m:Int)):=by
 rw [List.map_append]
 exact ZjB _ _
def ChV (H:Hp) (x:V):Option (Nat × Nat × Nat × Nat)→Prop
 | none=>x = .non
 | some (a,b,c,d)=>∃ p,x = .ref p∧H p=some (.tup (.str "swap" :: [(a:Int),b,c,d].map V.int))
def Zd5:Sp:=fun vs H Q _=>∃ (z:List Nat) (L:Nat),vs=[.str (tx z),.int L]∧Fit z L∧z.length≤1000∧∀ r,Zou z L r→∀ x H',Same H H'→ChV H' x r→Q x H'
section
variable {P:Program} {w:World} {K:PySem.W.Frag} {mg:Str→Option Value} {base:Heap}
abbrev Yx:Stmt:=top 9
abbrev Zbn:List Str:=["T","long","points","lasts","firsts","middles","c","sign","places","a"]
theorem scChangingSwap:Zk Zbn ["T","long"] (Zf Yx):=⟨rfl,rfl,rfl,by decide +kernel,rfl,by decide +kernel,by decide +kernel⟩
theorem Jr (D:HasDef K mg "changing_swap" Yx ["T","long"]) (B:Blt mg) (g30_:FOk P w K mg base 2 "points_along" ["T","long"] Zmj) (g22_:FOk P w K mg base 2 "last_places" ["points"] Zgk) (g15_:FOk P w K mg base 2 "first_of_others" ["places","sign","otherwise"] Zgn) :
  FOk P w K mg base 3 "changing_swap" ["T","long"] Zd5:=by
 refine D.ok scChangingSwap (fun vs H Q E h=>?_) (fun f cdv A outer s H vs Q E hr h=>?_)
 ·obtain ⟨z,L,rfl,_⟩:=h
  rfl
 ·obtain ⟨z,L,rfl,hF,hz,k⟩:=h
  have hu:=Zcy hr
  refine ⟨_,(Zd (Zl (i:=2) scChangingSwap.nd rfl (.inl rfl) (Zr g30_ hr (Za (pv 0) (Za (pv 1) Ze))))
   (Zd (Zl (i:=3) scChangingSwap.nd rfl (.inl rfl) (Zr g22_ hr (Za (pv 2) Ze)))
   (Zd (Zl (i:=4) scChangingSwap.nd rfl (.inl rfl) Yk)
   (Zd (Zl (i:=5) scChangingSwap.nd rfl (.inl rfl) (ZaF Ze))
   (Zd (Yf PassesOwn.never rfl (XF rfl B.range (Za (Zq Y7 (Zp ZB rfl B.len Yw (Za (pv 2) Ze)) Zg) Ze)) (Zy (i:=6) scChangingSwap.nd rfl (.inl rfl))
    (Zd (Zl (i:=7) scChangingSwap.nd rfl (.inl rfl) (ZV ZeI (pv 0) (Zq Y7 (Zq ZO (pv 6) (pv 1)) Zg) (fun _ _=>rfl)))
   (Zd (X6 (Zdg F.plainAttrs_list F.slot_list_append F.type_list_append Y1 (pv 5) (Za (pv 6) Ze)))
   (Zd (Za7 PassesOwn.never (PW.pt (ZgO (Zv Zfi (Zp ZB rfl B.len Yw (Za (pv 5) Ze)) Zg (Zw _)) (Zde (Zv Zll (Zdf hu (pv 3) (ZV ZN (pv 2) (ZV ZN (pv 5) (Zb9 Je Zg) (fun _ _=>rfl)) (fun _ _=>rfl)) (fun _ _=>rfl)) (pv 6) (Zw _)))))
    (Zh (X6 (Zj8 F.plainAttrs_list F.slot_list_pop F.type_list_pop Zhl (pv 5)))))
   (Zd (Zl (i:=8) scChangingSwap.nd rfl (.inl rfl) (Zbe (pv 4) (ZV ZN (pv 2) (pv 6) (fun _ _=>rfl)) Yk ⟨rfl,rfl,rfl,rfl⟩))
   (Zd (Zl (i:=9) scChangingSwap.nd rfl (.inl rfl) (Zr g15_ hr (Za (pv 8) (Za (pv 7) (Za (pv 6) Ze)))))
   (Zd (Ym (PW.pt (ZgO (Zv Zfi (Zp ZB rfl B.len Yw (Za (pv 5) Ze)) Zg (Zw _)) (Zde (Zv ZmG (pv 9) (ZV ZN (pv 5) (Zb9 Je Zg) (fun _ _=>rfl)) (Zw _))))) (Zh (Zm (ZaD (Za JY (Za (pv 9) (Za (ZV ZN (pv 5) (Zb9 Je Zg) (fun _ _=>rfl)) (Za (pv 6) (Za (Zdf hu (pv 3) (ZV ZN (pv 2) (ZV ZN (pv 5) (Zb9 Je Zg) (fun _ _=>rfl)) (fun _ _=>rfl)) (fun _ _=>rfl)) Ze)))))))) ZC)
   (Zh (X6 (Zbe (pv 8) (pv 7) (pv 6) ⟨rfl,rfl,rfl,rfl⟩))))))))))
   (Zh (Zm ZaE))))))),?_⟩
  have o:=hF.one
  have l:=hF.le
  refine ⟨_,rfl,_,rfl,z,L,rfl,hF,hz,fun pp H1 s1 hpp=>?_⟩
  refine ⟨_,rfl,pp,z.length - L + 2,fun i=>tx (pt z L i),rfl,hpp,by omega,fun pl H2 kl s2 npl hpl hkl=>?_⟩
  refine fun pf npf=>?_
  refine ⟨Zt (by decide),fun pm npm=>?_⟩
  have hpp2:=s2 _ _ hpp
  have e_pf:pf≠pl:=fun e=>by rw [e,hpl] at npf; cases npf
  have hpf0:(upd H2 pf (.dK [])) pf=some (.dK []):=Zc
  have hpm0:(upd (upd H2 pf (.dK [])) pm (.lst [])) pm=some (.lst []):=Zc
  have e_pm:pm≠pf:=fun e=>by rw [e,Zc] at npm; cases npm
  have npm2:H2 pm=none:=by rw [Zi e_pm] at npm; exact npm
  have e_pmp:pm≠pp:=fun e=>by rw [e,hpp2] at npm2; cases npm2
  have e_pml:pm≠pl:=fun e=>by rw [e,hpl] at npm2; cases npm2
  have s02:Same H H2:=s1.trans s2
  have Npf:H pf=none:=s02.free npf
  have Npm:H pm=none:=s02.free npm2
  have sA:Same H2 (upd (upd H2 pf (.dK [])) pm (.lst [])):=(Zb npf).trans (Zb npm)
  refine ⟨_,rfl,.ref pp,z.length - L + 2,rfl,.inl ⟨_,SqL.of (sA _ _ hpp2),pts_len.symm⟩,_,_,rfl,rfl,_,rfl,by omega,by omega,?_⟩
  have en:(((z.length - L + 2:Nat):Int) - 1).toNat=z.length - L + 1:=by omega
  rw [en]
  refine XQ (n:=z.length - L + 1) (fun i σ H3=>∃ (z6 z7 z8 z9:Option V) (kf:List (Key × V)) (ms:List Nat),σ=[some (.str (tx z)),some (.int L),some (.ref pp),some (.ref pl),some (.ref pf),some (.ref pm),z6,z7,z8,z9]∧Same H H3∧H3 pp=some (.lst (ZiO z L))∧H3 pl=some (.dK kl) ∧
    H3 pf=some (.dK kf)∧H3 pm=some (.lst (ms.map fun m:Nat=>V.int (m:Int)))∧Firsts H H3 z L i pl pf kf∧kf.length≤i∧ms.Pairwise (· < ·)∧(∀ m∈ms,m < i)∧(∀ m d,m < i→i≤d→d≤z.length - L + 1→pt z L m=pt z L d→m∈ms)∧(∀ a b c d,Xs z L a b c d→i≤c)∧i≤z.length - L + 1)
   ⟨none,none,none,none,[],[],rfl,s02.trans sA,sA _ _ hpp2,sA _ _ hpl,by rw [Zi (Ne.symm e_pm)]; exact Zc,Zc,⟨fun s=>.inl ⟨rfl,fun j hj=>absurd hj (Nat.not_lt_zero _)⟩,fun s s' q e=>by cases e⟩,Nat.le_refl _,List.Pairwise.nil,fun m hm=>(nomatch hm),fun m d hm=>absurd hm (Nat.not_lt_zero _),fun a b c d _=>Nat.zero_le _,Nat.zero_le _⟩ ?_ ?_
  ·rintro i σ H3 hi ⟨z6,z7,z8,z9,kf,ms,rfl,s3,hpp3,hpl3,hpf3,hpm3,hFi,hkf,m1,m2,m3,hno,_⟩
   rw [Int.zero_add]
   -- the sign,and c among the middles
   refine ⟨_,rfl,_,rfl,_,rfl,_,_,rfl,rfl,_,_,rfl,rfl,tx z,_,sg z L i,rfl,rfl,ZE hz,ZkW hF hi,?_⟩
   have hms:ms.length≤i:=by
    have hnd:ms.Nodup:=m1.imp fun {x y} h=>Nat.ne_of_lt h
    have h2:=XJ hnd fun m hm=>List.mem_range.mpr (m2 m hm)
    rw [List.length_range] at h2
    exact h2
   refine ⟨_,rfl,.inl ⟨rfl,_,SqL.of hpm3⟩,_,rfl,pm,_,_,rfl,rfl,hpm3,?_,?_⟩
   ·rw [List.length_map]
    exact Nat.lt_of_lt_of_le (show ms.length < 1002 by omega) (Zt (by decide))
   have em:(ms.map fun m:Nat=>V.int (m:Int)) ++ [V.int (i:Int)]=(ms ++ [i]).map fun m:Nat=>V.int (m:Int):=by rw [List.map_append]; rfl
   rw [em]
   have mid0:Mid z L i (ms ++ [i]):=Mid.push m1 m2 m3
   -- what is no longer crossed goes
   show ZdY (ZdX _ _) _ _ _ _
   refine YF (fun σ' H'=>σ'=[some (.str (tx z)),some (.int L),some (.ref pp),some (.ref pl),some (.ref pf),some (.ref pm),some (.int (i:Int)),some (.str (tx [sg z L i])),z8,z9]∧∃ ms',H'=upd H3 pm (.lst (ms'.map fun m:Nat=>V.int (m:Int)))∧Mid z L i ms'∧(ms'=[]∨∃ r m dd,ms'=r ++ [m]∧Xb (fun i=>tx (pt z L i)) (z.length - L + 2) (tx (pt z L m))=some dd∧i < dd)) (fun R hR=>?_) ?_
   ·refine ⟨fun n σ' H'=>σ'=[some (.str (tx z)),some (.int L),some (.ref pp),some (.ref pl),some (.ref pf),some (.ref pm),some (.int (i:Int)),some (.str (tx [sg z L i])),z8,z9]∧∃ ms',n=ms'.length∧H'=upd H3 pm (.lst (ms'.map fun m:Nat=>V.int (m:Int)))∧Mid z L i ms',⟨_,rfl,_,rfl,rfl,mid0⟩,?_⟩
    rintro n σ' H' ⟨rfl,ms',rfl,rfl,mid⟩
    have hpm4:(upd H3 pm (.lst (ms'.map fun m:Nat=>V.int (m:Int)))) pm=_:=Zc
    refine ⟨_,rfl,.ref pm,ms'.length,rfl,.inl ⟨_,SqL.of hpm4,by rw [List.length_map]⟩,_,_,rfl,rfl,_,rfl,?_⟩
    rcases List.eq_nil_or_concat ms' with rfl | ⟨r,m,rfl⟩
    ·exact Zao (by decide) (ZmZ (hR _ _ ⟨rfl,[],rfl,mid,.inl rfl⟩))
    ·rw [List.concat_eq_append] at *
     have hm:=mid.le m (List.mem_append_right _ (List.mem_singleton.mpr rfl))
     obtain ⟨dd,hdd⟩:=Zct (f:=fun i=>tx (pt z L i)) (s:=tx (pt z L m)) (n:=z.length - L + 2) (i:=m) (by omega) rfl
     have hv:valV kl (.inr (tx (pt z L m)))=some (.int (dd:Int)):=by rw [hkl,hdd]; rfl
     obtain ⟨l1,l2,l3⟩:=Xn hdd
     refine ZbP (decide_eq_true (by rw [List.length_append,List.length_singleton]; omega)) ?_
     refine ⟨_,rfl,_,rfl,_,rfl,_,rfl,pm,_,-1,_,rfl,rfl,SqL.of hpm4,Zbo r m,pp,_,(m:Int),_,rfl,rfl,SqL.of (by rw [Zi (Ne.symm e_pmp)]; exact hpp3),ZgP (by omega),pl,.int (dd:Int),rfl,?_,_,rfl,_,_,rfl,rfl,_,rfl,?_⟩
     ·exact .inl ⟨kl,.inr (tx (pt z L m)),.inl (by rw [Zi (Ne.symm e_pml)]; exact hpl3),rfl,hv.symm⟩
     refine Zfv (fun e=>?_) (fun e=>?_)
     ·have hle:dd≤i:=by have:=of_decide_eq_true e; omega
      refine ⟨fun σ' H'=>σ'=[some (.str (tx z)),some (.int L),some (.ref pp),some (.ref pl),some (.ref pf),some (.ref pm),some (.int (i:Int)),some (.str (tx [sg z L i])),z8,z9]∧∃ ms',r.length=ms'.length∧H'=upd H3 pm (.lst (ms'.map fun m:Nat=>V.int (m:Int)))∧Mid z L i ms',fun σ' H' hN=>⟨r.length,by rw [List.length_append,List.length_singleton]; omega,hN⟩,?_⟩
      refine ⟨_,rfl,.inl ⟨rfl,_,SqL.of hpm4⟩,pm,_,V.int (m:Int),rfl,rfl,hpm4,?_,rfl,r,rfl,?_,mid.pop fun d h1 h2 h3=>?_⟩
      ·rw [List.map_append,List.length_append]
       simp
      ·rw [JI,List.map_append]
       simp
      ·have:=l3 d (by omega) (by rw [h3])
       omega
     ·have hle:i < dd:=by
       have h1:¬ ((dd:Int)≤(i:Int)):=fun q=>e (decide_eq_true q)
       omega
      exact hR _ _ ⟨rfl,_,rfl,mid,.inr ⟨r,m,dd,rfl,hdd,hle⟩⟩
   rintro σ' H' ⟨rfl,ms',rfl,mid,htop⟩
   have hpm4:(upd H3 pm (.lst (ms'.map fun m:Nat=>V.int (m:Int)))) pm=_:=Zc
   have s4:Same H (upd H3 pm (.lst (ms'.map fun m:Nat=>V.int (m:Int)))):=fun b u e=>by
    rw [Zi (Zj e Npm)]
    exact s3 _ _ e
   have hpp4:(upd H3 pm (.lst (ms'.map fun m:Nat=>V.int (m:Int)))) pp=some (.lst (ZiO z L)):=by rw [Zi (Ne.symm e_pmp)]; exact hpp3
   have hpl4:(upd H3 pm (.lst (ms'.map fun m:Nat=>V.int (m:Int)))) pl=some (.dK kl):=by rw [Zi (Ne.symm e_pml)]; exact hpl3
   have hpf4:(upd H3 pm (.lst (ms'.map fun m:Nat=>V.int (m:Int)))) pf=some (.dK kf):=by rw [Zi (Ne.symm e_pm)]; exact hpf3
   have hF4:Firsts H (upd H3 pm (.lst (ms'.map fun m:Nat=>V.int (m:Int)))) z L i pl pf kf:=hFi.stay fun q es e _=>by
    rw [Zi (fun z=>by rw [z,hpm3] at e; cases e)]
    exact e
   generalize upd H3 pm (.lst (ms'.map fun m:Nat=>V.int (m:Int)))=H4 at hpm4 s4 hpp4 hpl4 hpf4 hF4
   clear hpp3 hpl3 hpf3 hpm3 hFi s3
   -- the dict of the point
   show ZdY (ZnF _ _) _ _ _ _
   refine YF (fun σ' H'=>∃ (q:Addr) (kf':List (Key × V)),σ'=[some (.str (tx z)),some (.int L),some (.ref pp),some (.ref pl),some (.ref pf),some (.ref pm),some (.int (i:Int)),some (.str (tx [sg z L i])),some (.ref q),z9]∧Same H H'∧H' pp=some (.lst (ZiO z L))∧H' pl=some (.dK kl) ∧
     H' pf=some (.dK kf')∧H' pm=some (.lst (ms'.map fun m:Nat=>V.int (m:Int)))∧Firsts H H' z L i pl pf kf'∧kf'.length≤i + 1∧valV kf' (.inr (tx (pt z L i)))=some (.ref q)) (fun R hR=>?_) ?_
   ·refine ⟨_,rfl,pf,rfl,.inl ⟨kf,.inl hpf4⟩,_,rfl,_,rfl,pp,_,(i:Int),_,rfl,rfl,SqL.of hpp4,ZgP (by omega),fun q nq=>?_⟩
    have sq:=Zb (o:=.dK []) nq
    have nqH:H q=none:=s4.free nq
    have e_q:q≠pf:=fun e=>by rw [e,hpf4] at nq; cases nq
    have e_ql:q≠pl:=fun e=>by rw [e,hpl4] at nq; cases nq
    refine ⟨kf,.inr (tx (pt z L i)),sq _ _ hpf4,rfl,Nat.lt_of_lt_of_le (show kf.length < 1002 by omega) (Zt (by decide)),fun v hv=>?_,fun hv=>?_⟩
    ·rcases hF4.any (tx (pt z L i)) with ⟨a,_⟩ | ⟨q0,es,a,b,c,d,e,g⟩
     ·rw [a] at hv; cases hv
     ·rw [a] at hv
      cases hv
      exact hR _ _ ⟨q0,kf,rfl,s4.trans sq,sq _ _ hpp4,sq _ _ hpl4,sq _ _ hpf4,sq _ _ hpm4,hF4.stay fun r es e _=>sq _ _ e,by omega,a⟩
    ·rcases hF4.any (tx (pt z L i)) with ⟨a,hnone⟩ | ⟨q0,es,a,b,c,d,e,g⟩
     ·have nu:∀ b u,b≠pf→H4 b=some u→(upd (upd H4 q (.dK [])) pf (.dK (YI kf (.inr (tx (pt z L i))) (.ref q)))) b=some u:=fun b u hb e=>by
       rw [Zi hb]
       exact sq _ _ e
      refine hR _ _ ⟨q,_,rfl,fun b u e=>?_,nu _ _ (fun e=>by rw [e,hpf4] at hpp4; cases hpp4) hpp4,nu _ _ (Ne.symm e_pf) hpl4,Zc,nu _ _ e_pm hpm4,hF4.more a hnone nq e_ql e_q nqH ?_ fun r es e hr=>nu _ _ hr e,?_,?_⟩
      ·exact nu _ _ (Zj e Npf) (s4 _ _ e)
      ·rw [Zi e_q]
       exact Zc
      ·have:=Z3 kf (.inr (tx (pt z L i)):Key) (.ref q)
       omega
      ·rw [Ju,if_pos rfl]
     ·rw [a] at hv; cases hv
   rintro σ' H5 ⟨q,kf',rfl,s5,hpp5,hpl5,hpf5,hpm5,hF5,hkf5,hq5⟩
   obtain ⟨es,hqH,hes,e_ql,e_qf,nqH⟩:∃ es,H5 q=some (.dK (esK es))∧EsOk z L i (tx (pt z L i)) es∧q≠pl∧q≠pf∧H q=none:=by
    rcases hF5.any (tx (pt z L i)) with ⟨a,_⟩ | ⟨q0,es,a,b,c,d,e,g⟩
    ·rw [a] at hq5; cases hq5
    ·rw [a] at hq5
     cases hq5
     exact ⟨es,b,c,d,e,g⟩
   have hesl:es.length < 1002:=by have:=hes.2.2; omega
   -- the least place with another sign
   refine ⟨_,rfl,_,rfl,_,rfl,q,tx [sg z L i],(i:Int),es,rfl,hqH,by have:=hes.2.2; omega,fun a ha H6 s6=>?_⟩
   obtain ⟨av,rfl,A1,A2⟩:∃ av:Nat,a=(av:Int)∧(∀ j,j < i→pt z L j=pt z L i→sg z L j≠sg z L i→av≤j)∧(av=i∨av < i∧pt z L av=pt z L i∧sg z L av≠sg z L i):=by
    rcases ha with ⟨h1,h2⟩ | ⟨e,he,h1,h2,h3⟩
    ·refine ⟨i,h2,fun j hj ej hs=>?_,.inl rfl⟩
     obtain ⟨e,he,e1,e2⟩:=hes.2.1 j hj (by rw [ej])
     have:=(e1.symm.trans (h1 e he))
     exact (hs (by have:=ZbU this; simpa using this)).elim
    ·obtain ⟨j,j1,j2,j3⟩:=hes.1 e he
     refine ⟨e.2,h2,fun j' hj ej hs=>?_,.inr ?_⟩
     ·obtain ⟨e',he',e1,e2⟩:=hes.2.1 j' hj (by rw [ej])
      have:=h3 e' he' (fun z=>hs (by have:=ZbU (e1.symm.trans z); simpa using this))
      omega
     ·rw [j3] at h1 ⊢
      exact ⟨j1,ZbU j2,fun q=>h1 (congrArg (fun n=>tx [n]) q)⟩
   have hpm6:=s6 _ _ hpm5
   have hpl6:=s6 _ _ hpl5
   have hpp6:=s6 _ _ hpp5
   dsimp only [Zap]
   show ZdY (Ziq _ _ _) _ _ _ _
   refine YF (fun σ' H'=>σ'=[some (.str (tx z)),some (.int L),some (.ref pp),some (.ref pl),some (.ref pf),some (.ref pm),some (.int (i:Int)),some (.str (tx [sg z L i])),some (.ref q),some (.int (av:Int))]∧H'=H6∧∀ a b d,¬ Xs z L a b i d) (fun R hR=>?_) ?_
   ·refine ⟨_,rfl,.ref pm,ms'.length,rfl,.inl ⟨_,SqL.of hpm6,by rw [List.length_map]⟩,_,_,rfl,rfl,_,rfl,?_⟩
    have inms:∀ a b d,Xs z L a b i d→b∈ms':=fun a b d x=>mid.all b d x.bc x.cd x.dn x.pbd
    rcases htop with rfl | ⟨r,m,dd,rfl,hdd,hlt⟩
    ·exact Zao (by decide) (ZmZ (hR _ _ ⟨rfl,rfl,fun a b d x=>nomatch inms a b d x⟩))
    ·have hm:=mid.le m (List.mem_append_right _ (List.mem_singleton.mpr rfl))
     obtain ⟨l1,l2,l3⟩:=Xn hdd
     have hv:valV kl (.inr (tx (pt z L m)))=some (.int (dd:Int)):=by rw [hkl,hdd]; rfl
     refine ZbP (decide_eq_true (by rw [List.length_append,List.length_singleton]; omega)) ?_
     refine ⟨_,rfl,_,rfl,_,rfl,pm,_,-1,_,rfl,rfl,SqL.of hpm6,Zbo r m,_,_,rfl,rfl,_,rfl,Zfv (fun e=>?_) (fun e=>?_)⟩
     ·have ham:av < m:=by have:=of_decide_eq_true e; omega
      have hcr:Xs z L av m i dd:=by
       rcases A2 with q | ⟨q1,q2,q3⟩
       ·omega
       ·exact ⟨ham,hm,hlt,by omega,q2,q3,(ZbU l2).symm⟩
      refine ⟨_,rfl,_,rfl,_,rfl,pm,_,-1,_,rfl,rfl,SqL.of hpm6,Zbo r m,_,rfl,_,rfl,_,rfl,_,rfl,_,rfl,pm,_,-1,_,rfl,rfl,SqL.of hpm6,Zbo r m,pp,_,(m:Int),_,rfl,rfl,SqL.of hpp6,ZgP (by omega),pl,.int (dd:Int),rfl,.inl ⟨kl,.inr (tx (pt z L m)),.inl hpl6,rfl,hv.symm⟩,Zs (show 5≤1000 by decide),fun p hp=>?_⟩
      refine k (some (av,m,i,dd)) ⟨hcr,hno,fun a' b' d' x=>⟨A1 a' (by have:=x.ab; have:=x.bc; omega) x.pac x.sac,mid.top (inms _ _ _ x)⟩,fun d' h1 h2=>l3 d' (by omega) (by rw [h2])⟩ _ _ ((s5.trans s6).trans (Zb hp)) ⟨p,rfl,Zc⟩
     ·have ham:¬ av < m:=fun q=>e (decide_eq_true (by omega))
      refine hR _ _ ⟨rfl,rfl,fun a b d x=>ham ?_⟩
      have h1:=A1 a (by have:=x.ab; have:=x.bc; omega) x.pac x.sac
      have h2:=mid.top (inms _ _ _ x)
      have:=x.ab
      omega
   rintro σ' H6 ⟨rfl,rfl,hnoi⟩
   -- the sign into the dict of the point
   have hq6:=s6 _ _ hqH
   have hF6:=hF5.stay (H3:=H6) fun r es e _=>s6 _ _ e
   have fin:∀ H7 es',Same H H7→(∀ b u,b≠q→H6 b=some u→H7 b=some u)→H7 q=some (.dK (esK es'))→EsOk z L (i + 1) (tx (pt z L i)) es'→∃ (z6 z7 z8 z9:Option V) (kf:List (Key × V)) (ms:List Nat),[some (.str (tx z)),some (.int (L:Int)),some (.ref pp),some (.ref pl),some (.ref pf),some (.ref pm),some (.int (i:Int)),some (.str (tx [sg z L i])),some (.ref q),some (.int (av:Int))]=[some (V.str (tx z)),some (.int L),some (.ref pp),some (.ref pl),some (.ref pf),some (.ref pm),z6,z7,z8,z9]∧Same H H7∧H7 pp=some (.lst (ZiO z L))∧H7 pl=some (.dK kl) ∧
     H7 pf=some (.dK kf)∧H7 pm=some (.lst (ms.map fun m:Nat=>V.int (m:Int)))∧Firsts H H7 z L (i + 1) pl pf kf∧kf.length≤i + 1∧ms.Pairwise (· < ·)∧(∀ m∈ms,m < i + 1)∧(∀ m d,m < i + 1→i + 1≤d→d≤z.length - L + 1→pt z L m=pt z L d→m∈ms)∧(∀ a b c d,Xs z L a b c d→i + 1≤c)∧i + 1≤z.length - L + 1:=fun H7 es' s7 k7 e7 he=>by
    refine ⟨_,_,_,_,kf',ms',rfl,s7,k7 _ _ (fun e=>by rw [e,hq6] at hpp6; cases hpp6) hpp6,k7 _ _ (Ne.symm e_ql) hpl6,k7 _ _ (Ne.symm e_qf) (s6 _ _ hpf5),k7 _ _ (fun e=>by rw [e,hq6] at hpm6; cases hpm6) hpm6,hF6.turn hq5 he e7 fun r es e hr=>k7 _ _ hr e,hkf5,mid.up,fun m hm=>by have:=mid.le m hm; omega,fun m d h1 h2 h3 h4=>mid.all m d (by omega) (by omega) h3 h4,fun a b c d x=>?_,by omega⟩
    have h1:=hno a b c d x
    by_cases c':c=i
    ·subst c'
     exact (hnoi a b d x).elim
    ·omega
   refine ⟨_,rfl,q,rfl,.inl ⟨_,.inl hq6⟩,_,rfl,_,rfl,esK es,.inr (tx [sg z L i]),hq6,rfl,?_,fun v hv=>?_,fun hv=>?_⟩
   ·unfold esK
    rw [List.length_map]
    exact Nat.lt_of_lt_of_le hesl (Zt (by decide))
   ·exact fin H6 es (s5.trans s6) (fun b u _ e=>e) hq6 (hes.here hv)
   ·rw [ZlN hv]
    refine fin _ (es ++ [(tx [sg z L i],i)]) (fun b u e=>?_) (fun b u hb e=>by rw [Zi hb]; exact e) Zc hes.new
    rw [Zi (Zj e nqH)]
    exact s6 _ _ (s5 _ _ e)
  ·rintro σ H3 ⟨z6,z7,z8,z9,kf,ms,rfl,s3,_,_,_,_,_,_,_,_,_,hno,_⟩
   exact k none (fun a b c d x=>by have:=hno a b c d x; have:=x.cd; have:=x.dn; omega) .non H3 s3 rfl
end
def ZlY (z:List Nat) (L:Nat):Prop:=pt z L 0=pt z L (z.length - L + 1)∧Y5 z L 1≠z
def Zmg (t:Nat × Nat × Nat × Nat):List V:=.str "swap" :: [(t.1:Int),t.2.1,t.2.2.1,t.2.2.2].map V.int
def Chg (z:List Nat) (L:Nat) (r:Option (List V)):Prop:=(ZlY z L∧r=some (.str "turn" :: [(1:Int)].map V.int))∨(¬ ZlY z L∧∃ t,Zou z L t∧r=t.map Zmg)
def TV (H:Hp) (x:V):Option (List V)→Prop
 | none=>x = .non
 | some xs=>∃ p,x = .ref p∧H p=some (.tup xs)
theorem Zl5 {H:Hp} {x:V} {r:Option (List V)} (h:TV H x r):decide (x=V.non)=r.isNone:=by
 cases r with
 | none=>rw [show x=V.non from h]; rfl
 | some xs =>
  obtain ⟨p,a,_⟩:=h
  rw [a]
  rfl
section
variable {P:Program} {w:World} {K:PySem.W.Frag} {mg:Str→Option Value} {base:Heap}
abbrev JU:Stmt:=top 10
abbrev Zhj:List Str:=["T","long"]
theorem Zfc:Zk Zhj ["T","long"] (Zf JU):=⟨rfl,rfl,rfl,by decide +kernel,rfl,by decide +kernel,by decide +kernel⟩
def Zd9:Sp:=fun vs H Q _=>∃ (z:List Nat) (L:Nat),vs=[.str (tx z),.int L]∧Fit z L∧z.length≤1000∧∀ r,Chg z L r→∀ x H',Same H H'→TV H' x r→Q x H'
theorem Zck (D:HasDef K mg "change_of" JU ["T","long"]) (B:Blt mg) (g19_:FOk P w K mg base 3 "is_closed" ["T","long"] Zd8) (g38_:FOk P w K mg base 3 "turned" ["T","long","place"] Zd4) (g9_:FOk P w K mg base 3 "changing_swap" ["T","long"] Zd5):FOk P w K mg base 4 "change_of" ["T","long"] Zd9:=by
 refine D.ok Zfc (fun vs H Q E h=>?_) (fun f cdv A outer s H vs Q E hr h=>?_)
 ·obtain ⟨z,L,rfl,_⟩:=h
  rfl
 ·obtain ⟨z,L,rfl,hF,hz,k⟩:=h
  refine ⟨_,(Zd (Ym (PW.pt (ZgO (Zel (Zr g19_ hr (Za (pv 0) (Za (pv 1) Ze)))) (Zde (Zv Zfh (Zr g38_ hr (Za (pv 0) (Za (pv 1) (Za Zg Ze)))) (pv 0) (Zw _))))) (Zh (Zm (ZaD (Za JY (Za Zg Ze))))) ZC)
   (Zh (Zm (Zr g9_ hr (Za (pv 0) (Za (pv 1) Ze)))))),?_⟩
  show ZdY (Ziq _ _ _) _ _ _ _
  refine YF (fun σ' H'=>σ'=[some (.str (tx z)),some (.int L)]∧H'=H∧¬ ZlY z L) (fun R hR=>?_) ?_
  ·refine ⟨_,rfl,_,rfl,z,L,rfl,hF,hz,_,rfl,?_⟩
   by_cases c:pt z L 0=pt z L (z.length - L + 1)
   ·refine ZbP (decide_eq_true c) ?_
    refine ⟨_,rfl,_,rfl,z,L,1,rfl,hF,hz,by omega,_,rfl,rfl,_,rfl,?_⟩
    rw [Zkv]
    by_cases c2:Y5 z L 1=z
    ·exact Zao (by rw [decide_eq_true c2]; rfl) (hR _ _ ⟨rfl,rfl,fun q=>q.2 c2⟩)
    ·refine ZbP (by rw [decide_eq_false c2]; rfl) ⟨Zt (by decide),fun p hp=>k _ (.inl ⟨⟨c,c2⟩,rfl⟩) _ _ (Zb hp) ⟨p,rfl,Zc⟩⟩
   ·exact Zao (decide_eq_false c) (ZmZ (hR _ _ ⟨rfl,rfl,fun q=>c q.1⟩))
  rintro σ' H' ⟨rfl,rfl,hno⟩
  refine ⟨_,rfl,_,rfl,z,L,rfl,hF,hz,fun r hr x H2 s2 hx=>k (r.map Zmg) (.inr ⟨hno,r,hr,rfl⟩) x H2 s2 ?_⟩
  cases r with
  | none=>exact hx
  | some t=>exact hx
abbrev Zdc:Stmt:=top 11
abbrev Zls:List Str:=["T","long"]
theorem ZiJ:Zk Zls ["T","long"] (Zf Zdc):=⟨rfl,rfl,rfl,by decide +kernel,rfl,by decide +kernel,by decide +kernel⟩
def ZjW:Sp:=fun vs H Q _=>∃ (z:List Nat) (L:Nat),vs=[.str (tx z),.int L]∧Fit z L∧z.length≤1000∧∀ r,Chg z L r→∀ H',Same H H'→Q (.bl r.isNone) H'
theorem Zfn (D:HasDef K mg "is_only" Zdc ["T","long"]) (B:Blt mg) (g8_:FOk P w K mg base 4 "change_of" ["T","long"] Zd9):FOk P w K mg base 5 "is_only" ["T","long"] ZjW:=by
 refine D.ok ZiJ (fun vs H Q E h=>?_) (fun f cdv A outer s H vs Q E hr h=>?_)
 ·obtain ⟨z,L,rfl,_⟩:=h
  rfl
 ·obtain ⟨z,L,rfl,hF,hz,k⟩:=h
  refine ⟨_,(Zh (Zm (Xk Zkd (Zr g8_ hr (Za (pv 0) (Za (pv 1) Ze))) ZaE (Zw _)))),?_⟩
  refine ⟨_,rfl,_,rfl,z,L,rfl,hF,hz,fun r hr x H2 s2 hx=>⟨rfl,?_⟩⟩
  rw [Zl5 hx]
  exact k r hr H2 s2
end
end Sh
namespace Sh
section
variable {E P:Type} (b e:E→P)
def Ze2:P→List E→Prop
 | _,[]=>True
 | p,x :: l=>b x=p∧Ze2 (e x) l
def NoX (l:List E):Prop:=∀ u x A y B,l=u ++ x :: (A ++ y :: B)→b x=b y→x≠y→∀ q∈x :: A,∀ z∈y :: B,e q≠e z
variable {b e}
theorem NoX.tail {x:E} {l:List E} (h:NoX b e (x :: l)):NoX b e l:=fun u y A z B hl=>h (x :: u) y A z B (by rw [hl]; rfl)
theorem ch_bg:∀ {l:List E} {p:P} {z:E},Ze2 b e p l→z∈l→b z=p∨∃ q∈l,e q=b z
 | [],_,_,_,h=>by cases h
 | x :: l,p,z,⟨h1,h2⟩,h=>by
  rcases List.mem_cons.mp h with rfl | h
  ·exact .inl h1
  ·rcases ch_bg h2 h with h3 | ⟨q,hq,h3⟩
   ·exact .inr ⟨x,List.mem_cons_self,h3.symm⟩
   ·exact .inr ⟨q,List.mem_cons_of_mem _ hq,h3⟩
theorem Zkx:∀ {l:List E} {p:P} {y x:E} {B:List E},Ze2 b e p (x :: l ++ y :: B)→∃ q∈x :: l,e q=b y
 | [],_,_,x,_,⟨_,h,_⟩=>⟨x,List.mem_cons_self,h.symm⟩
 | z :: l,_,_,x,_,⟨_,h⟩=>by
  obtain ⟨q,hq,h3⟩:=Zkx h
  exact ⟨q,List.mem_cons_of_mem _ hq,h3⟩
theorem Zh8:∀ {l m:List E} {p:P},Ze2 b e p (l ++ m)→Ze2 b e p l
 | [],_,_,_=>trivial
 | _ :: _,_,_,⟨h1,h2⟩=>⟨h1,Zh8 h2⟩
theorem Zh7 {W:P→Prop} {l:List E} (hW:∀ z∈l,W (b z)→W (e z)):∀ {m:List E} {p:P},Ze2 b e p m→(∀ z∈m,z∈l)→W p→∀ z∈m,W (b z)
 | [],_,_,_,_,_,h=>by cases h
 | x :: m,p,⟨h1,h2⟩,hm,hp,z,hz=>by
  rcases List.mem_cons.mp hz with rfl | hz
  ·rw [h1]; exact hp
  ·exact Zh7 hW h2 (fun w hw=>hm w (List.mem_cons_of_mem _ hw)) (hW x (hm x List.mem_cons_self) (by rw [h1]; exact hp)) z hz
theorem ZaH:∀ {l m:List E} {p:P},NoX b e l→Ze2 b e p l→Ze2 b e p m→l.Perm m→l=m
 | [],m,_,_,_,_,h=>(List.nil_perm.mp h).symm
 | x :: l,[],_,_,_,_,h=>by cases List.perm_nil.mp h
 | x :: l,y :: m,p,no,⟨h1,h2⟩,⟨h3,h4⟩,h=>by
  by_cases hxy:x=y
  ·subst hxy
   rw [ZaH no.tail h2 h4 (List.perm_cons _ |>.mp h)]
  ·exfalso
   have hy:y∈l:=by
    rcases List.mem_cons.mp (h.mem_iff.mpr (List.mem_cons_self (a:=y) (l:=m))) with z | z
    ·exact absurd z.symm hxy
    ·exact z
   have hx:x∈m:=by
    rcases List.mem_cons.mp (h.mem_iff.mp (List.mem_cons_self (a:=x) (l:=l))) with z | z
    ·exact absurd z hxy
    ·exact z
   obtain ⟨A,B,rfl⟩:=List.append_of_mem hy
   have nx:=no [] x A y B rfl (h1.trans h3.symm) hxy
   have hc:Ze2 b e p (x :: A ++ y :: B):=⟨h1,h2⟩
   obtain ⟨r,hr,er⟩:=Zkx hc
   have hl:Ze2 b e p (x :: A):=Zh8 hc
   have bgA:∀ z∈x :: A,∃ q∈x :: A,e q=b z:=fun z hz=>by
    rcases ch_bg hl hz with h5 | h5
    ·exact ⟨r,hr,er.trans (h3.trans h5.symm)⟩
    ·exact h5
   have st:=Zh7 (b:=b) (e:=e) (W:=fun q=>∃ z∈y :: B,e z=q) (l:=x :: A ++ y :: B) (fun z hz ⟨w,hw,ew⟩=>by
    rcases List.mem_append.mp hz with hz | hz
    ·obtain ⟨q,hq,eq⟩:=bgA z hz
     exact (nx q hq w hw (eq.trans ew.symm)).elim
    ·exact ⟨z,hz,rfl⟩) h4 (fun z hz=>h.mem_iff.mpr (List.mem_cons_of_mem _ hz)) ⟨y,List.mem_cons_self,rfl⟩ x hx
   obtain ⟨w,hw,ew⟩:=st
   obtain ⟨q,hq,eq⟩:=bgA x List.mem_cons_self
   exact nx q hq w hw (eq.trans ew.symm)
def Jm (e:E→P):P→List E→P
 | p,[]=>p
 | _,x :: l=>Jm e (e x) l
theorem Zh9 (v:P→Bool):∀ {l:List E} {p:P},Ze2 b e p l→l.countP (fun x=>v (b x)) + (if v (Jm e p l) then 1 else 0)=l.countP (fun x=>v (e x)) + (if v p then 1 else 0)
 | [],p,_=>rfl
 | x :: l,p,⟨h1,h2⟩=>by
  have ih:=Zh9 v h2
  rw [List.countP_cons,List.countP_cons,h1]
  show _ + (if v (Jm e (e x) l) then 1 else 0)=_
  omega
theorem Zfe {l m:List E} {p q:P} (hl:Ze2 b e p l) (hm:Ze2 b e q m) (h:l.Perm m) (o:Jm e p l≠p):q=p:=by
 classical
 have d1:=Zh9 (fun v=>decide (v=p)) hl
 have d2:=Zh9 (fun v=>decide (v=p)) hm
 rw [h.countP_eq,h.countP_eq] at d1
 rw [if_neg (by simpa using o),if_pos (by simp)] at d1
 by_cases e1:q=p
 ·exact e1
 ·rw [if_neg (c:=decide (q=p)=true) (by simpa using e1)] at d2
  omega
end
section
variable {L:Nat}
abbrev Zn6 (L:Nat) (x:List Nat):List Nat:=x.take (L - 1)
abbrev Zkt (x:List Nat):List Nat:=x.drop 1
theorem ZfN (h1:1≤L):∀ z:List Nat,Ze2 (Zn6 L) Zkt (z.take (L - 1)) (win L z)
 | []=>by rw [Xt (z:=[]) h1]; trivial
 | a :: y=>by
  by_cases c:L≤y.length + 1
  ·rw [YU h1 c]
   refine ⟨?_,?_⟩
   ·show ((a :: y).take L).take (L - 1)=_
    rw [List.take_take,Nat.min_eq_left (by omega)]
   ·have e:Zkt ((a :: y).take L)=y.take (L - 1):=by
     show ((a :: y).take L).drop 1=_
     rw [List.drop_take]
     rfl
    rw [e]
    exact ZfN h1 y
  ·rw [Xt (by rw [List.length_cons]; omega)]
   trivial
theorem ZdN (h1:1≤L):∀ z:List Nat,L≤z.length + 1→Jm Zkt (z.take (L - 1)) (win L z)=z.drop (z.length - (L - 1))
 | [],h=>by
  have:L=1:=by simp at h; omega
  subst this
  rfl
 | a :: y,h=>by
  by_cases c:L≤y.length + 1
  ·rw [YU h1 c]
   show Jm Zkt (((a :: y).take L).drop 1) (win L y)=_
   rw [List.drop_take]
   show Jm Zkt (y.take (L - 1)) (win L y)=_
   rw [ZdN h1 y c,List.length_cons,show y.length + 1 - (L - 1)=(y.length - (L - 1)) + 1 by omega,List.drop_succ_cons]
  ·rw [List.length_cons] at h
   have e:y.length + 1=L - 1:=by omega
   rw [Xt (by rw [List.length_cons]; omega),List.length_cons,e,Nat.sub_self,List.drop_zero]
   show (a :: y).take (L - 1)=_
   rw [← e,← List.length_cons (a:=a),List.take_length]
theorem ZfL (h1:1≤L):∀ z t:List Nat,L≤z.length→z.length=t.length→win L z=win L t→z=t
 | [],t,h,hl,_=>by simp at h; omega
 | a :: y,[],h,hl,_=>by cases hl
 | a :: y,b :: t,h,hl,e=>by
  rw [List.length_cons] at h
  have hl':y.length=t.length:=by simpa using hl
  rw [YU h1 h,YU h1 (by omega)] at e
  obtain ⟨e1,e2⟩:=List.cons.inj e
  by_cases c:L≤y.length
  ·have:=ZfL h1 y t c hl' e2
   subst this
   obtain ⟨k,rfl⟩:∃ k,L=k + 1:=⟨L - 1,by omega⟩
   rw [List.take_succ_cons,List.take_succ_cons] at e1
   rw [(List.cons.inj e1).1]
  ·rw [List.take_of_length_le (by rw [List.length_cons]; omega),List.take_of_length_le (by rw [List.length_cons]; omega)] at e1
   exact e1
theorem JG {z:List Nat} {i:Nat} {x:List Nat} (h:(win L z)[i]?=some x):i < z.length + 1 - L∧x=(z.drop i).take L:=by
 unfold win at h
 obtain ⟨h1,h2⟩:=List.getElem?_eq_some_iff.mp h
 rw [List.length_map,List.length_range] at h1
 rw [List.getElem_map,List.getElem_range] at h2
 exact ⟨h1,h2.symm⟩
variable {z:List Nat}
theorem ZaQ (h:Fit z L) {i:Nat}:Zn6 L ((z.drop i).take L)=pt z L i:=by
 have:=h.one
 show ((z.drop i).take L).take (L - 1)=_
 unfold pt seg
 rw [List.take_take,Nat.min_eq_left (by omega),show i + L - 1 - i=L - 1 by omega]
theorem ZfM (h:Fit z L) {i:Nat}:Zkt ((z.drop i).take L)=pt z L (i + 1):=by
 have:=h.one
 show ((z.drop i).take L).drop 1=_
 unfold pt seg
 rw [List.drop_take,List.drop_drop,show i + 1 + L - 1 - (i + 1)=L - 1 by omega]
theorem ZjH (h:Fit z L) {i:Nat} (hi:i < z.length - L + 1):(z.drop i).take L=pt z L i ++ [sg z L i]:=by
 have:=h.one
 rw [← Zc4 h hi,Z8 h (Nat.le_succ i)]
 unfold seg
 rw [show i + 1 + L - 1 - i=L by omega]
theorem ZmJ (h:Fit z L) (no:∀ a b c d,¬ Xs z L a b c d):NoX (Zn6 L) Zkt (win L z):=fun u x A y B hl hb hne q hq w hw he=>by
 have ho:=h.one
 have hle:=h.le
 obtain ⟨i,hi,rfl⟩:=List.mem_iff_getElem.mp hq
 obtain ⟨j,hj,rfl⟩:=List.mem_iff_getElem.mp hw
 have gx:(win L z)[u.length]?=some x:=by rw [hl,List.getElem?_append_right (Nat.le_refl _),Nat.sub_self]; rfl
 have gy:(win L z)[u.length + (x :: A).length]?=some y:=by
  rw [hl,List.getElem?_append_right (by omega),show u.length + (x :: A).length - u.length=(x :: A).length by omega,← List.cons_append,List.getElem?_append_right (Nat.le_refl _),Nat.sub_self]
  rfl
 have gq:(win L z)[u.length + i]?=some ((x :: A)[i]):=by
  rw [hl,List.getElem?_append_right (by omega),show u.length + i - u.length=i by omega,← List.cons_append,List.getElem?_append_left hi,List.getElem?_eq_getElem hi]
 have gw:(win L z)[u.length + (x :: A).length + j]?=some ((y :: B)[j]):=by
  rw [hl,List.getElem?_append_right (by omega),show u.length + (x :: A).length + j - u.length=(x :: A).length + j by omega,← List.cons_append,List.getElem?_append_right (by omega),show (x :: A).length + j - (x :: A).length=j by omega,List.getElem?_eq_getElem hj]
 obtain ⟨bx,ex⟩:=JG gx
 obtain ⟨by',ey⟩:=JG gy
 obtain ⟨bq,eq⟩:=JG gq
 obtain ⟨bw,ew⟩:=JG gw
 rw [eq,ew,ZfM h,ZfM h] at he
 refine no u.length (u.length + i + 1) (u.length + (x :: A).length) (u.length + (x :: A).length + j + 1) ⟨by omega,by omega,by omega,by omega,?_,?_,he⟩
 ·rw [ex,ey,ZaQ h,ZaQ h] at hb
  exact hb
 ·intro hs
  refine hne ?_
  rw [ex,ey,ZaQ h,ZaQ h] at hb
  rw [ex,ey,ZjH h (by omega),ZjH h (by omega),hb,hs]
theorem Zin {s:Nat}:∀ (y:List Nat) (a:Nat),a :: y=y ++ [s]→∀ x∈a :: y,x=s
 | [],a,h,x,hx=>by
  cases h
  exact List.mem_singleton.mp hx
 | c :: y,a,h,x,hx=>by
  rw [List.cons_append] at h
  obtain ⟨h1,h2⟩:=List.cons.inj h
  have ih:=Zin y c h2
  rcases List.mem_cons.mp hx with rfl | hx
  ·rw [h1]; exact ih c List.mem_cons_self
  ·exact ih x hx
theorem Ziw (h:Fit z L) (e:Y5 z L 1=z):∃ s,z=List.replicate z.length s:=by
 have ho:=h.one
 have hle:=h.le
 cases z with
 | nil=>simp at hle; omega
 | cons a y =>
  refine ⟨sg (a :: y) L 0,?_⟩
  have e1:Y5 (a :: y) L 1=y ++ [sg (a :: y) L 0]:=by
   unfold Y5
   rw [Z8 h (by omega),Zc4 h (i:=0) (by omega)]
   congr 1
   unfold seg
   rw [show (a :: y).length - L + 1 + L - 1 - 1=y.length by rw [List.length_cons] at hle ⊢; omega,List.drop_one,List.tail_cons,List.take_length]
  rw [e1] at e
  exact List.eq_replicate_iff.mpr ⟨rfl,Zin y a e.symm⟩
theorem Zhv {z t:List Nat} (h:Fit z L) (hp:(win L t).Perm (win L z)):t.length=z.length:=by
 have:=hp.length_eq
 unfold win at this
 simp only [List.length_map,List.length_range] at this
 have:=h.le
 have:=h.one
 omega
theorem ZiV (h:Fit z L) (no:∀ a b c d,¬ Xs z L a b c d) (tn:pt z L 0=pt z L (z.length - L + 1)→Y5 z L 1=z) {t:List Nat} (hp:(win L t).Perm (win L z)):t=z:=by
 have ho:=h.one
 have hle:=h.le
 have hl:=Zhv h hp
 refine (ZfL ho z t hle hl.symm ?_).symm
 by_cases c:pt z L 0=pt z L (z.length - L + 1)
 ·obtain ⟨s,hs⟩:=Ziw h (tn c)
  have hr:∀ x∈win L z,x=List.replicate L s:=fun x hx=>by
   obtain ⟨i,hi⟩:=List.getElem?_of_mem hx
   obtain ⟨b1,b2⟩:=JG hi
   rw [b2,hs,List.drop_replicate,List.take_replicate]
   congr 1
   omega
  rw [(List.eq_replicate_iff.mpr ⟨rfl,hr⟩:win L z=_),(List.eq_replicate_iff.mpr ⟨rfl,fun x hx=>hr x (hp.mem_iff.mp hx)⟩:win L t=_),hp.length_eq]
 ·have cz:=ZfN ho z
  have ct:=ZfN ho t
  have o:Jm Zkt (z.take (L - 1)) (win L z)≠z.take (L - 1):=by
   rw [ZdN ho z (by omega)]
   intro e
   refine c ?_
   unfold pt seg
   rw [List.drop_zero,show 0 + L - 1 - 0=L - 1 by omega,show z.length - L + 1 + L - 1 - (z.length - L + 1)=L - 1 by omega,← e,show z.length - (L - 1)=z.length - L + 1 by omega,List.take_of_length_le (by rw [List.length_drop]; omega)]
  have es:=Zfe cz ct hp.symm o
  rw [es] at ct
  exact ZaH (ZmJ h no) cz ct hp.symm
theorem ZiX (h:Fit z L) (u:∀ t,(win L t).Perm (win L z)→t=z):(∀ a b c d,¬ Xs z L a b c d)∧(pt z L 0=pt z L (z.length - L + 1)→Y5 z L 1=z) :=
 ⟨fun a b c d x=>Ze7 h x (u _ (Zf2 h (Nat.le_of_lt x.ab) x.bc (Nat.le_of_lt x.cd) x.dn x.pac x.pbd)),fun e=>u _ (ZfS h (by omega) e)⟩
end
end Sh
namespace Sh
open PySem L2 PyProof.Rows
theorem YL {z:List Nat} {L:Nat} (h:Fit z L):pcs z L=(win L z).map tx:=by
 have:=h.le
 unfold pcs win
 rw [List.map_map,show z.length + 1 - L=z.length - L + 1 by omega]
 rfl
theorem ZkD {z t:List Nat} {L:Nat} (h:Fit z L) (g:Fit t L) (hp:(pcs t L).Perm (pcs z L)):(win L t).Perm (win L z):=by
 rw [YL h,YL g] at hp
 have:=hp.map fun x:Str=>x.cps.toList
 rw [List.map_map,List.map_map] at this
 have e:∀ l:List (List Nat),l.map ((fun x:Str=>x.cps.toList) ∘ tx)=l:=fun l=>by
  conv=>rhs; rw [← List.map_id l]
  exact List.map_congr_left fun x _=>Jf x
 rw [e,e] at this
 exact this
theorem Zl6:∀ (ws:List Str) (p:Str),Znk p ws→ws.map ls∈tl ws p
 | [],p,_=>by rw [ZjL]; exact List.mem_singleton.mpr rfl
 | w :: ws,p,⟨h1,h2⟩=>by
  rw [XV (List.cons_ne_nil _ _)]
  refine List.mem_flatMap.mpr ⟨w,outK_mem.mpr ⟨List.mem_cons_self,h1⟩,List.mem_map.mpr ⟨ws.map ls,?_,rfl⟩⟩
  rw [List.erase_cons_head]
  exact Zl6 ws (en w) h2
theorem Zhq {z t:List Nat} {L:Nat} {ss:List Str} (h:Fit z L) (hss:∀ y,inP (pcs z L) y=true→y∈ss) (hp:(win L t).Perm (win L z)):t∈txs ss (pcs z L):=by
 have hl:=Zhv h hp
 have ho:=h.one
 have hle:=h.le
 have g:Fit t L:=⟨ho,by omega⟩
 have hp2:(pcs t L).Perm (pcs z L):=by
  rw [YL h,YL g]
  exact hp.map tx
 obtain ⟨c1,c2,c3⟩:=ZcO ho (t.length - L) t (by omega)
 have e2:=Zl6 (pcs t L) _ c1
 rw [← Ziv hp2]
 unfold txs
 refine List.mem_flatMap.mpr ⟨tx (t.take (L - 1)),?_,List.mem_map.mpr ⟨_,e2,?_⟩⟩
 ·refine hss _ ?_
  cases hw:pcs t L with
  | nil=>rw [hw] at c3; cases c3
  | cons w ws =>
   rw [hw] at c1
   exact inP_iff.mpr ⟨w,hp2.mem_iff.mp (by rw [hw]; exact List.mem_cons_self),.inl c1.1⟩
 ·rw [Jf]
  exact c2.symm
theorem ZkK {z t:List Nat} {L:Nat} {ss:List Str} (h:Fit z L) (hsl:∀ p∈ss,p.length=L - 1) (ht:t∈txs ss (pcs z L)):(win L t).Perm (win L z):=by
 have ho:=h.one
 have hle:=h.le
 unfold txs at ht
 obtain ⟨p,hp,ht⟩:=List.mem_flatMap.mp ht
 obtain ⟨t',ht',rfl⟩:=List.mem_map.mp ht
 obtain ⟨ws,h1,h2,rfl⟩:=ZjM _ _ p t' rfl ht'
 have hwl:∀ w∈ws,w.length=L:=fun w hw=>by
  have hx:=h1.mem_iff.mp hw
  rw [YL h] at hx
  obtain ⟨y,hy,rfl⟩:=List.mem_map.mp hx
  obtain ⟨i,hi⟩:=List.getElem?_of_mem hy
  obtain ⟨b1,b2⟩:=JG hi
  rw [ZG,b2,List.length_take,List.length_drop]
  omega
 have hne:ws≠[]:=fun e=>by
  have:=h1.length_eq
  rw [e,YL h,List.length_map] at this
  unfold win at this
  rw [List.length_map,List.length_range] at this
  simp at this
  omega
 obtain ⟨l1,l2⟩:=Zca ho ws p hne h2 hwl (hsl p hp)
 refine ZkD h ⟨ho,?_⟩ (by rw [l2]; exact h1)
 have:=List.length_pos_iff.mpr hne
 omega
theorem ZkJ {z:List Nat} {L:Nat} {ss:List Str} (h:Fit z L) (hss:∀ y,inP (pcs z L) y=true→y∈ss) (hsl:∀ p∈ss,p.length=L - 1) (hS:Srt (txs ss (pcs z L))) :
  (txs ss (pcs z L)).length=1↔(∀ a b c d,¬ Xs z L a b c d)∧(pt z L 0=pt z L (z.length - L + 1)→Y5 z L 1=z):=by
 have hz:z∈txs ss (pcs z L):=Zhq h hss (List.Perm.refl _)
 constructor
 ·intro e
  refine ZiX h fun t ht=>?_
  have hm:=Zhq h hss ht
  obtain ⟨a,ha⟩:=List.length_eq_one_iff.mp e
  rw [ha,List.mem_singleton] at hz hm
  rw [hz,hm]
 ·rintro ⟨no,tn⟩
  have all:∀ t∈txs ss (pcs z L),t=z:=fun t ht=>ZiV h no tn (ZkK h hsl ht)
  match hx:txs ss (pcs z L),hz,all,hS with
  | [],hz,_,_=>cases hz
  | [_],_,_,_=>rfl
  | a :: b :: l,_,all,hS =>
   have e1:=all a List.mem_cons_self
   have e2:=all b (List.mem_cons_of_mem _ List.mem_cons_self)
   have:=(List.pairwise_cons.mp hS).1 b List.mem_cons_self
   rw [e1,e2] at this
   exact absurd this (List.lt_irrefl _)
end Sh
namespace Sh
open PySem L2 PyProof.Rows
seal L2.PE L2.PS L2.PSs L2.PT L2.PW L2.PA L2.PI L2.PG L2.PGs L2.PO L2.PC L2.PCs L2.OpR L2.UnR L2.CallR L2.MtR L2.IxR L2.SlR
def cD (ks ps:List Str):List (Key × V):=ks.map fun x=>((Sum.inr x:Key),V.int (ps.count x))
structure Cnt (ks ps:List Str):Prop where
 nd:ks.Nodup
 mem:∀ x,x∈ks↔x∈ps
theorem Zjw {ks ps:List Str} (h:Cnt ks ps) (y:Str):∃ ks',Cnt ks' (ps ++ [y])∧YI (cD ks ps) (Sum.inr y) (.int ((ps.count y:Int) + 1))=cD ks' (ps ++ [y])∧ks'.length≤ks.length + 1:=by
 have hc:∀ x,(ps ++ [y]).count x=ps.count x + if y=x then 1 else 0:=fun x=>by
  rw [List.count_append,List.count_singleton]
  simp [beq_iff_eq]
 by_cases m:y∈ks
 ·refine ⟨ks,⟨h.nd,fun x=>?_⟩,?_,Nat.le_succ _⟩
  ·rw [h.mem x,List.mem_append,List.mem_singleton]
   exact ⟨.inl,fun q=>q.elim id fun e=>by rw [e]; exact (h.mem y).mp m⟩
  ·unfold cD
   rw [X5 _ _ _ _ m]
   apply List.map_congr_left
   intro x _
   rw [hc x]
   by_cases e:x=y
   ·subst e
    simp
   ·have e':¬ y=x:=fun q=>e q.symm
    simp [e,e']
 ·have hn:y∉ps:=fun q=>m ((h.mem y).mpr q)
  refine ⟨ks ++ [y],⟨Zhc h.nd m,fun x=>?_⟩,?_,by rw [List.length_append]; exact Nat.le_refl _⟩
  ·rw [List.mem_append,List.mem_append,h.mem x]
  ·unfold cD
   rw [XE _ (by rw [Xd,if_neg m]),List.map_append]
   congr 1
   ·apply List.map_congr_left
    intro x hx
    rw [hc x]
    have e':¬ y=x:=fun q=>m (q ▸ hx)
    simp [e']
   ·rw [List.map_singleton,hc y]
    simp
theorem ZhG {ps ss:List Str} (hs:(ss.map fun x=>x.cps.toList).Pairwise (· < ·)) (hm:∀ x,x∈ss↔x∈ps):ZJ ps (ss.map fun x=>(x,(ps.count x:Int))):=by
 refine ⟨?_,fun x=>?_,fun p hp=>?_⟩
 ·rw [List.map_map]
  exact hs
 ·rw [List.map_map]
  have e:ss.map ((·.1) ∘ fun x=>(x,(ps.count x:Int)))=ss:=by
   conv=>rhs; rw [← List.map_id ss]
   exact List.map_congr_left fun _ _=>rfl
  rw [e,hm]
 ·obtain ⟨x,_,rfl⟩:=List.mem_map.mp hp
  rfl
section
variable {P:Program} {w:World} {K:PySem.W.Frag} {mg:Str→Option Value} {base:Heap}
abbrev ZgE:Stmt:=top 45
abbrev ZmL:List Str:=["_law_signs","_law_long","_law_found","_law_at","_law_piece"]
theorem scLTorn:Zk ZmL ["_law_signs","_law_long"] (Zf ZgE):=⟨rfl,rfl,rfl,by decide +kernel,rfl,by decide +kernel,by decide +kernel⟩
def ZjP:Sp:=fun vs H Q _=>∃ (z:List Nat) (L:Nat),vs=[.str (tx z),.int L]∧Fit z L∧z.length≤63∧∀ v H' (hp:Es),Same H H'→ZJ (pcs z L) hp→HpAt H' v hp→Q v H'
theorem Zg6 (D:HasDef K mg "_law_torn" ZgE ["_law_signs","_law_long"]) (B:Blt mg):FOk P w K mg base 1 "_law_torn" ["_law_signs","_law_long"] ZjP:=by
 refine D.ok scLTorn (fun vs H Q E h=>?_) (fun f cdv A outer s H vs Q E hr h=>?_)
 ·obtain ⟨z,L,rfl,_⟩:=h
  rfl
 ·obtain ⟨z,L,rfl,hF,hz,k⟩:=h
  have hu:=Zcy hr
  refine ⟨_,(Zd (Zl (i:=2) scLTorn.nd rfl (.inl rfl) Yk)
   (Zd (Yf PassesOwn.never rfl (XF rfl B.range (Za (Zq ZO (Zq Y7 (Zp ZB rfl B.len Yw (Za (pv 0) Ze)) (pv 1)) Zg) Ze)) (Zy (i:=3) scLTorn.nd rfl (.inl rfl))
    (Zd (Zl (i:=4) scLTorn.nd rfl (.inl rfl) (Zz Yb (pv 0) (ZD (pv 3)) (ZD (Zq ZO (pv 3) (pv 1)))))
   (Zh (YJ hu (pv 2) (pv 4) (Zq ZO (Zbf hu (pv 2) (pv 4) Zg ⟨rfl,rfl,rfl,rfl⟩) Zg) rfl))))
   (Zh (Zm (ZW ZF rfl B.tuple Xr (Za (Zp (YT rfl) rfl B.sorted XS (Za (Zbd (pv 2)) Ze)) Ze)))))),?_⟩
  have o:=hF.one
  have l:=hF.le
  refine fun d hd=>⟨_,rfl,.str (tx z),z.length,rfl,⟨ZE (by omega),(ZG z).symm⟩,_,rfl,_,_,rfl,rfl,_,_,rfl,rfl,_,rfl,by omega,by omega,?_⟩
  have en:((z.length:Int) - (L:Int) + 1).toNat=z.length + 1 - L:=by omega
  rw [en]
  obtain ⟨ps,hps⟩:∃ ps,ps=(win L z).map tx:=⟨_,rfl⟩
  have hpl:ps.length=z.length + 1 - L:=by rw [hps]; unfold win; rw [List.length_map,List.length_map,List.length_range]
  have hpi:∀ (i:Nat) (h:i < ps.length),ps[i]=tx ((z.drop i).take L):=fun i h=>by
   have e1:ps[i]?=some (tx ((z.drop i).take L)):=by
    rw [hps]
    unfold win
    rw [List.getElem?_map,List.getElem?_map,List.getElem?_range (by omega)]
    rfl
   rw [List.getElem?_eq_getElem h] at e1
   exact Option.some.inj e1
  rw [YL hF,← hps] at k
  refine XQ (n:=z.length + 1 - L) (fun i σ H2=>(∃ z3 z4:Option V,σ=[some (.str (tx z)),some (.int L),some (.ref d),z3,z4])∧Same H H2∧∃ ks,Cnt ks (ps.take i)∧ks.length≤i∧H2 d=some (.dK (cD ks (ps.take i))))
   ⟨⟨none,none,rfl⟩,Zb hd,[],⟨List.nodup_nil,fun x=>Iff.rfl⟩,Nat.le_refl _,Zc⟩ ?_ ?_
  ·rintro i σ H2 hi ⟨⟨z3,z4,rfl⟩,s2,ks,hk,hkl,hdd⟩
   rw [Int.zero_add]
   have hi':i < ps.length:=by omega
   refine ⟨_,rfl,_,rfl,_,rfl,_,rfl,_,rfl,_,_,rfl,rfl,_,rfl,_,rfl,ZE (by omega),?_⟩
   rw [JM (z:=z) (a:=i) (b:=i + L) (by omega) (by omega) (by omega) (by omega)]
   have ep:tx (seg z i (i + L))=ps[i]:=by
    rw [hpi i hi']
    unfold seg
    rw [show i + L - i=L by omega]
   rw [ep]
   have hg:(valV (cD ks (ps.take i)) (Sum.inr ps[i]:Key)).getD (.int 0) = .int ((ps.take i).count ps[i]):=by
    unfold cD
    rw [Xd]
    split
    ·rfl
    ·rename_i m
     have:ps[i]∉ps.take i:=fun q=>m ((hk.mem _).mpr q)
     rw [List.count_eq_zero_of_not_mem this]
     rfl
   obtain ⟨ks',hk',ep2,hl'⟩:=Zjw hk ps[i]
   rw [← List.take_succ_eq_append_getElem hi'] at hk' ep2
   refine ⟨_,rfl,d,rfl,.inl ⟨_,.inl hdd⟩,_,rfl,_,DGet.k (k:=Sum.inr ps[i]) hdd,_,_,hg,rfl,_,rfl,_,rfl,d,_,rfl,DPut.k (k:=Sum.inr ps[i]) hdd ?_,?_⟩
   ·unfold cD
    rw [List.length_map]
    exact ZK (by omega)
   ·refine ⟨⟨_,_,rfl⟩,fun b u e=>?_,ks',hk',by omega,?_⟩
    ·rw [Zi (Zj e hd)]
     exact s2 b u e
    ·rw [Zc]
     exact congrArg (fun l=>some (HO.dK l)) ep2
  ·rintro σ H2 ⟨⟨z3,z4,rfl⟩,s2,ks,hk,hkl,hdd⟩
   rw [List.take_of_length_le (by omega)] at hk hdd
   refine ⟨_,rfl,d,_,rfl,hdd,fun p hp=>⟨p,d,ks,fun x=>.int (ps.count x),rfl,Zc,Zb hp _ _ hdd,hk.nd,by omega,fun D1 H3 vs ss hs3 hperm hsrt hD1 hl hv=>?_⟩⟩
   refine ⟨D1,vs,rfl,.inl ⟨SqL.of hD1,fun q hq=>?_⟩⟩
   refine k _ _ _ (((s2.trans (Zb hp)).trans hs3).trans (Zb hq)) (ZhG hsrt fun x=>by rw [hperm.mem_iff,hk.mem]) ?_
   refine ⟨q,vs,rfl,Zc,by rw [List.length_map]; exact hl,fun i p hi=>?_⟩
   rw [List.getElem?_map] at hi
   obtain ⟨x,hx,rfl⟩:=Option.map_eq_some_iff.mp hi
   obtain ⟨b,e1,e2⟩:=hv i x hx
   refine ⟨b,?_,Zb hq _ _ e2⟩
   rw [List.getD_eq_getElem?_getD,e1]
   rfl
abbrev ZiL:Stmt:=top 46
abbrev ZmN:List Str:=["_law_heap","_law_found","_law_piece","_law_many"]
theorem scLFew:Zk ZmN ["_law_heap"] (Zf ZiL):=⟨rfl,rfl,rfl,by decide +kernel,rfl,by decide +kernel,by decide +kernel⟩
def Zgo:Sp:=fun vs H Q _=>∃ (v:V) (es:Es),vs=[v]∧HeapV H v es∧es.length≤63∧(∀ e∈es,1≤e.1.length∧e.1.length≤1000)∧(∀ x∈es.map fun e=>e.2,InLong x)∧(∀ k,InLong ((es.map fun e=>e.2).take k).sum) ∧
 ∀ H' ks,Same H H'→Pts es ks→Q (.bl (decide ((ks.length:Int)≤9) && decide ((es.map fun e=>e.2).sum≤30))) H'
theorem Zfm (D:HasDef K mg "_law_few" ZiL ["_law_heap"]) (B:Blt mg):FOk P w K mg base 1 "_law_few" ["_law_heap"] Zgo:=by
 refine D.ok scLFew (fun vs H Q E h=>?_) (fun f cdv A outer s H vs Q E hr h=>?_)
 ·obtain ⟨v,es,rfl,_⟩:=h
  rfl
 ·obtain ⟨v,es,rfl,⟨q,vs,rfl,hq,hpa⟩,hfew,hlong,b1,b2,k⟩:=h
  have hu:=Zcy hr
  refine ⟨_,(Zd (Zl (i:=1) scLFew.nd rfl (.inl rfl) Yk)
   (Zd (Yf PassesOwn.never rfl (Yj (pv 0)) (ZS 2 K rfl (Zo (Zy (i:=2) scLFew.nd rfl (.inl rfl)) (Zo (Zy (i:=3) scLFew.nd rfl (.inl rfl)) ZR)))
    (Zd (YJ hu (pv 1) (Zz Yb (pv 2) ZQ (ZD (Zb9 Je Zg))) Zfg rfl)
   (Zh (YJ hu (pv 1) (Zz Yb (pv 2) (ZD Zg) ZQ) Zfg rfl))))
   (Zh (Zm (Zj9 (Xk Zll (Zp ZcQ rfl B.len Yw (Za (pv 1) Ze)) Zg (Zw _)) (Zj7 (Xk Zll (Zp (Zae rfl) rfl B.sum ZjA (Za (ZI (Zf ZiL) ZmN ["_law_piece","_law_many"] [] rfl (Yj (pv 0)) (fun _ _ _ _ _=>ZS 2 K rfl (Zo (Z6 0) (Zo (Z6 1) ZR))) (fun _ _ _ _ _=>ZX) (fun _ _ _ _ _=>(pv 1))) Ze)) Zg (Zw _)))))))),?_⟩
  intro d hd
  have s1:=Zb (o:=.dK []) hd
  refine ⟨_,rfl,q,rfl,⟨_,SqT.of (s1 _ _ hq)⟩,?_⟩
  refine Xq (K:=K) (a:=q) (xs:=vs) (fun i σ H2=>(∃ z2 z3:Option V,σ=[some (.ref q),some (.ref d),z2,z3])∧Same H H2∧∃ ks,Pts (es.take i) ks∧H2 d=some (.dK (bD ks)))
   ⟨⟨none,none,rfl⟩,s1,[],Pts.nil,Zc⟩ (fun i σ H2 _ ⟨_,s2,_⟩=>SqT.of (s2 _ _ hq)) ?_ ?_
  ·rintro i x σ H2 hi ⟨⟨z2,z3,rfl⟩,s2,ks,hk,hdd⟩
   have hiv:i < vs.length:=(List.getElem?_eq_some_iff.mp hi).1
   have hie:i < es.length:=by rw [← hpa.1]; exact hiv
   obtain ⟨b,e1,e2⟩:=hpa.2 i es[i] (List.getElem?_eq_getElem hie)
   rw [hi] at e1
   cases e1
   obtain ⟨l1,l2⟩:=hlong es[i] (List.getElem_mem hie)
   have hkl:=hk.len
   rw [List.length_take] at hkl
   refine ⟨b,_,rfl,SqT.of (s2 _ _ e2),rfl,_,_,rfl,_,_,rfl,rfl,?_⟩
   have het:es.take (i + 1)=es.take i ++ [es[i]]:=List.take_succ_eq_append_getElem hie
   generalize es[i]=e at *
   have hal:=XT ks (bg e.1)
   refine ⟨_,rfl,_,rfl,_,rfl,_,rfl,_,rfl,JD l2,?_⟩
   rw [Zed l1]
   refine ⟨d,_,rfl,DPut.k (k:=Sum.inr (bg e.1)) hdd (by rw [ZeZ]; exact ZK (by omega)),?_⟩
   rw [Zik]
   have hdd2:(upd H2 d (.dK (bD (Xc ks (bg e.1))))) d=some (.dK (bD (Xc ks (bg e.1)))):=Zc
   refine ⟨_,rfl,_,rfl,_,rfl,_,rfl,JD l2,?_⟩
   rw [Zec l1]
   refine ⟨d,_,rfl,DPut.k (k:=Sum.inr (en e.1)) hdd2 (by rw [ZeZ]; exact ZK (by omega)),?_⟩
   refine ⟨⟨_,_,rfl⟩,fun c u hc=>?_,Xc (Xc ks (bg e.1)) (en e.1),by rw [het]; exact hk.step e,?_⟩
   ·rw [JI,Zi (Zj hc hd)]
    exact s2 c u hc
   ·rw [Zc,Zik]
  ·rintro σ H2 ⟨⟨z2,z3,rfl⟩,s2,ks,hk,hdd⟩
   rw [List.take_of_length_le (by rw [hpa.1]; exact Nat.le_refl _)] at hk
   refine ⟨_,rfl,_,_,rfl,hdd,?_⟩
   rw [ZeZ]
   refine ⟨_,_,rfl,rfl,_,rfl,?_⟩
   by_cases c:(ks.length:Int)≤9
   ·rw [if_pos (by simpa using c)]
    have hpa2:PA H2 vs es:=hpa.same s2.tup
    refine ⟨_,rfl,q,rfl,⟨_,SqT.of (s2 _ _ hq)⟩,Zkl rfl (s2 _ _ hq) hpa2 (by omega) fun D1 H3 s3 hD=>?_⟩
    refine ⟨D1,_,rfl,SqL.of hD,b1,b2,_,_,rfl,rfl,?_⟩
    have:=k H3 ks (s2.trans s3) hk
    rw [decide_eq_true c,Bool.true_and] at this
    exact this
   ·rw [if_neg (by simpa using c)]
    have:=k H2 ks s2 hk
    rw [decide_eq_false c,Bool.false_and] at this
    exact this
end
end Sh
namespace Sh
open PySem L2 PyProof.Rows
theorem ZlT {z:List Nat} {L:Nat} {r:Option (List V)} (h:Chg z L r):r.isNone=true↔(∀ a b c d,¬ Xs z L a b c d)∧(pt z L 0=pt z L (z.length - L + 1)→Y5 z L 1=z):=by
 rcases h with ⟨⟨h1,h2⟩,rfl⟩ | ⟨h1,t,h2,rfl⟩
 ·constructor
  ·intro q; cases q
  ·intro q; exact absurd (q.2 h1) h2
 ·match t,h2 with
  | none,h2 =>
   refine ⟨fun _=>⟨h2,fun e=>?_⟩,fun _=>rfl⟩
   false_or_by_contra
   rename_i q
   exact h1 ⟨e,q⟩
  | some (a,b,c,d),h2 =>
   constructor
   ·intro q; cases q
   ·intro q; exact absurd h2.1 (q.1 _ _ _ _)
theorem XG {z:List Nat} {L:Nat} (h:Fit z L):(pcs z L).length=z.length - L + 1:=by
 unfold pcs
 rw [List.length_map,List.length_range]
theorem Ys {z:List Nat} {L:Nat} (h:Fit z L) {x:Str} (hx:x∈pcs z L):x.length=L∧∃ y,x=tx y∧∀ c∈y,c∈z:=by
 have:=h.one
 have:=h.le
 rw [YL h] at hx
 obtain ⟨y,hy,rfl⟩:=List.mem_map.mp hx
 obtain ⟨i,hi⟩:=List.getElem?_of_mem hy
 obtain ⟨b1,b2⟩:=JG hi
 refine ⟨by rw [ZG,b2,List.length_take,List.length_drop]; omega,y,rfl,fun c hc=>?_⟩
 rw [b2] at hc
 exact List.mem_of_mem_drop (List.mem_of_mem_take hc)
theorem Zns {z:List Nat} (h:Cd z):PyData.strOk (tx z)=true:=by
 unfold PyData.strOk
 rw [← Array.all_toList,List.all_eq_true]
 intro c hc
 rw [ZH] at hc
 have:=h c hc
 exact decide_eq_true (by omega)
theorem ZfF {z:List Nat} {L:Nat} (h:Fit z L) {rs:List Str} {ns:List Int} (hrs:∀ p,p∈rs↔ZbQ (pcs z L) p) (ndr:rs.Nodup) (hl:ns.length=rs.length) (hns:∀ (i:Nat) (n:Int),ns[i]?=some n→IsN (pcs z L) (rs.getD i "") n) {r:Option (List V)} (hc:Chg z L r):decide (ns.sum=1)=r.isNone:=by
 have hne:pcs z L≠[]:=fun e=>by
  have:=XG h
  rw [e] at this
  simp at this
 obtain ⟨ss,h1,h2⟩:=Xf ((pcs z L).map bg ++ (pcs z L).map en)
 have hss:∀ y,inP (pcs z L) y=true→y∈ss:=fun y hy=>by
  obtain ⟨x,hx,e⟩:=inP_iff.mp hy
  rw [h2,List.mem_append]
  rcases e with e | e
  ·exact .inl (List.mem_map.mpr ⟨x,hx,e⟩)
  ·exact .inr (List.mem_map.mpr ⟨x,hx,e⟩)
 have hsl:∀ p∈ss,p.length=L - 1:=fun p hp=>by
  rw [h2,List.mem_append] at hp
  rcases hp with hp | hp
  ·obtain ⟨x,hx,rfl⟩:=List.mem_map.mp hp
   have:=(Ys h hx).1
   unfold bg
   rw [ZG,List.length_dropLast,ZY,this]
  ·obtain ⟨x,hx,rfl⟩:=List.mem_map.mp hp
   have:=(Ys h hx).1
   unfold en
   rw [ZG,List.length_drop,ZY,this]
 have hLn:Lng (pcs z L):=fun x hx=>by rw [(Ys h hx).1]; exact h.one
 have e:=ZkS hne hrs ndr hl hns (Zd3 h1) hss
 have hi:=ZkJ h hss hsl (ZkI h1 hsl hLn)
 rw [← ZlT hc] at hi
 rw [e]
 by_cases c:(txs ss (pcs z L)).length=1
 ·rw [hi.mp c,c]
  rfl
 ·have:r.isNone=false:=by
   cases hq:r.isNone with
   | false=>rfl
   | true=>exact absurd (hi.mpr hq) c
  rw [this]
  exact decide_eq_false fun q=>c (by omega)
theorem Zfx {ps:List Str} {hp:Es} (h:ZJ ps hp):(hp.map fun e=>e.2).sum=(ps.length:Int):=by
 have:=JF h fun _=>true
 rw [List.filter_eq_self.mpr (fun _ _=>rfl),List.filter_eq_self.mpr (fun _ _=>rfl)] at this
 exact this
theorem ZgJ {z:List Nat} {L:Nat} (h:Fit z L) (hz:z.length≤63) (zc:Cd z) {hp:Es} (hO:ZJ (pcs z L) hp) {ks:List Str} (hP:Pts hp ks) (h1:(ks.length:Int)≤9) (h2:(hp.map fun e=>e.2).sum≤30):RowOk (pcs z L):=by
 rw [Zfx hO] at h2
 refine ⟨by omega,fun x hx=>?_,fun l nd hl=>?_,L,h.one,by have:=h.le; omega,fun x hx=>(Ys h hx).1⟩
 ·obtain ⟨e1,y,rfl,hy⟩:=Ys h hx
  have:=h.one
  have:=h.le
  exact ⟨by omega,Zns fun c hc=>zc c (hy c hc)⟩
 ·have:=XJ nd (B:=ks) fun y hy=>by
   obtain ⟨x,hx,e⟩:=inP_iff.mp (hl y hy)
   obtain ⟨g,hg,rfl⟩:=List.mem_map.mp ((hO.mem x).mpr hx)
   exact (hP.mem y).mpr ⟨g,hg,e⟩
  omega
end Sh
namespace Sh
open PySem L2 PyProof.Rows
seal L2.PE L2.PS L2.PSs L2.PT L2.PW L2.PA L2.PI L2.PG L2.PGs L2.PO L2.PC L2.PCs L2.OpR L2.UnR L2.CallR L2.MtR L2.IxR L2.SlR
section
variable {P:Program} {w:World} {K:PySem.W.Frag} {mg:Str→Option Value} {base:Heap}
abbrev Zir:Stmt:=top 47
abbrev Zol:List Str:=["_law_script","_law_cells","_law_seed_here","_law_signs","_law_long","_law_heap","_law_only"]
theorem scLaw:Zk Zol ["_law_script"] (Zf Zir):=⟨rfl,rfl,rfl,by decide +kernel,rfl,by decide +kernel,by decide +kernel⟩
def ZiB (K:PySem.W.Frag):Sp:=fun vs H Q _=>∃ (a:Addr) (ns:List Int),vs=[.ref a]∧SqL K H a (ns.map V.int)∧ns.length≤63∧∀ H',Q (.bl true) H'
theorem ZmH {fa:Addr} {fd:FuncData} (Fl:Fun K "law" "law" Zir fa fd) (B:Blt mg) (g3_:FOk P w K mg base 9 "_law_seed" ["_law_cells"] (ZjS K)) (g4_:FOk P w K mg base 9 "_law_text" ["_law_cells","_law_seed_here"] (ZjR K)) (g0_:FOk P w K mg base 9 "_law_cut" ["_law_signs","_law_seed_here"] Zml)
  (g20_:FOk P w K mg base 9 "is_only" ["T","long"] ZjW) (g5_:FOk P w K mg base 9 "_law_torn" ["_law_signs","_law_long"] ZjP) (g1_:FOk P w K mg base 9 "_law_few" ["_law_heap"] Zgo) (g11_:FOk P w K mg base 9 "count_of" ["H"] Zb3) :
  FnOk P w K mg base CX0 10 fa fd ["_law_script"] (ZiB K):=by
 refine Fl.ok scLaw (fun vs H Q E h=>?_) (fun cdv A outer s H vs Q E hr h=>?_)
 ·obtain ⟨a,ns,rfl,_⟩:=h
  rfl
 ·obtain ⟨a,ns,rfl,ha,hl,k⟩:=h
  refine ⟨_,(Zd (JB (i:=1) (Zf Zir) Zol ["_law_cell"] [] scLaw.nd rfl (.inl rfl) rfl (YK (Zz Zc6 (pv 0) ZQ (ZD Zg))) (fun _ _ _ _ _=>Z6 0) (fun _ _ _ _ _=>ZX) (fun _ _ _ _ _=>(Zq Yl (pv 0) (Zq ZmF Zg Zg))))
   (Zd (Zl (i:=2) scLaw.nd rfl (.inl rfl) (Zr g3_ hr (Za (pv 1) Ze)))
   (Zd (Zl (i:=3) scLaw.nd rfl (.inl rfl) (Zr g0_ hr (Za (Zr g4_ hr (Za (pv 1) (Za (pv 2) Ze))) (Za (pv 2) Ze))))
   (Zd (Ym (Zv XH (Zq Yl (Zq Yz (pv 2) Zg) Zg) Zg (Zw _)) (Zh (Zl (i:=3) scLaw.nd rfl (.inl rfl) (Zz Yb (pv 3) ZQ (ZD Zg)))) ZC)
   (Zd (Yf PassesOwn.never rfl (JX rfl B.range (Za Zg (Za (Zq ZO (Zp ZB rfl B.len Yw (Za (pv 3) Ze)) Zg) Ze))) (Zy (i:=4) scLaw.nd rfl (.inl rfl))
    (Zd (Zl (i:=5) scLaw.nd rfl (.inl rfl) (Zr g5_ hr (Za (pv 3) (Za (pv 4) Ze))))
   (Zh (Ym (Zel (Zr g1_ hr (Za (pv 5) Ze))) (Zd (Zl (i:=6) scLaw.nd rfl (.inl rfl) (Zr g20_ hr (Za (pv 3) (Za (pv 4) Ze))))
   (Zh (Ym (PW.pt (ZnM (Zj5 (Zel (Zp Zih rfl B.isi Zn9 (Za (pv 6) (Za (ZnO rfl B.bool Znh) Ze))))) (Zmr (Zv Zfh (pv 6) (Xk XH (Zr g11_ hr (Za (pv 5) Ze)) Zg (Zw _)) (Zw _))))) (Zh (Zm Zfg)) ZC))) ZC))))
   (Zh (Zm Zfg))))))),?_⟩
  refine ⟨_,rfl,_,rfl,a,_,rfl,ha,fun p1 hp1=>?_⟩
  rw [Zn4 (ns.map V.int) (by rw [List.length_map]; exact hl)]
  have s1:=Zb (o:=.lst (ns.map V.int)) hp1
  refine ⟨p1,rfl,⟨_,SqL.of Zc⟩,Xa (ns.map V.int).length (fun i=>(ns.map V.int).getD i .non) (fun i v _=>∀ c,ns[i]?=some c→v = .int (c % 10 ^ 18)) (by rw [List.length_map]; exact Zs (by omega)) (fun _ _ _ _ _ r=>r) (Ja (K:=K) (SqL.of Zc)) ?_ ?_⟩
  ·intro i H4 Qe hi hs kq
   have hi':i < ns.length:=by rw [List.length_map] at hi; exact hi
   rw [Yv hi']
   refine ⟨_,rfl,_,_,rfl,rfl,⟨by decide,by decide,by decide⟩,_,_,rfl,rfl,(by show (0:Int) < 10 ^ 18; decide),kq _ _ (Same.refl _) fun c hc=>?_⟩
   rw [List.getElem?_eq_getElem hi'] at hc
   cases hc
   rfl
  intro pc vs1 H3 hl1 hr1 hs3 hD1 hDl1
  rw [List.length_map] at hl1
  have evs:=ZkE (f:=fun c=>V.int (c % 10 ^ 18)) hl1 hr1
  have evs2:vs1=(ns.map fun c=>c % 10 ^ 18).map V.int:=by rw [evs,List.map_map]; rfl
  rw [evs2] at hDl1
  have hcl:(ns.map fun c=>c % 10 ^ 18).length≤63:=by rw [List.length_map]; exact hl
  generalize ns.map (fun c=>c % 10 ^ 18)=cs at hDl1 hcl
  refine ⟨_,rfl,pc,cs,rfl,SqL.of hDl1,hcl,fun sd sd0 sd1=>?_⟩
  refine ⟨_,rfl,_,rfl,pc,cs,sd,rfl,SqL.of hDl1,hcl,sd0,sd1,fun z0 H5 s5 z01 z063 z0c=>?_⟩
  refine ⟨_,rfl,z0,sd,rfl,z01,z063,sd0,z0c,fun y y1 y63 yc=>?_⟩
  try dsimp only [Zap]
  show ZdY (Ziq _ _ _) _ _ _ _
  refine YF (fun σ H'=>∃ z:List Nat,σ=[some (.ref a),some (.ref pc),some (.int sd),some (.str (tx z)),none,none,none]∧1≤z.length∧z.length≤63∧Cd z) (fun R hR=>?_) ?_
  ·refine ⟨_,rfl,_,_,rfl,rfl,⟨by decide,by decide⟩,_,_,rfl,rfl,(by show (0:Int) < 2; decide),rfl,_,rfl,Zfv (fun e=>?_) (fun e=>hR _ _ ⟨y,rfl,y1,y63,yc⟩)⟩
   refine ⟨_,rfl,_,rfl,_,rfl,ZE (by omega),?_⟩
   dsimp only
   rw [ZT (by decide)]
   refine hR _ _ ⟨y.take ((14:Int).toNat),rfl,?_,?_,fun c hc=>yc c (List.mem_of_mem_take hc)⟩
   ·rw [List.length_take]; show 1≤min 14 _; omega
   ·rw [List.length_take]; omega
  rintro σ H6 ⟨z,rfl,z1,z63,zc⟩
  have hlen:∀ H',Zod K (.str (tx z)) H' z.length:=fun H'=>⟨ZE (by omega),(ZG z).symm⟩
  refine ⟨_,rfl,.str (tx z),z.length,rfl,hlen _,_,_,rfl,rfl,_,_,rfl,⟨by omega,by omega,by omega,by omega⟩,?_⟩
  have en:((z.length:Int) + 1 - 1).toNat=z.length:=by omega
  rw [en]
  refine XQ (n:=z.length) (fun i σ H7=>∃ z4 z5 z6:Option V,σ=[some (.ref a),some (.ref pc),some (.int sd),some (.str (tx z)),z4,z5,z6]) ⟨none,none,none,rfl⟩ ?_ ?_
  ·rintro i σ H7 hi ⟨z4,z5,z6,rfl⟩
   have ei:((1:Int) + (i:Int))=((1 + i:Nat):Int):=by push_cast; rfl
   rw [ei]
   have hF:Fit z (1 + i):=⟨by omega,by omega⟩
   generalize 1 + i=L at hF
   have hLz:=hF.le
   refine ⟨_,rfl,_,rfl,z,L,rfl,hF,z63,fun v H8 hp s8 hO hA=>?_⟩
   have hpl:=ZeL hO
   rw [XG hF] at hpl
   have hLo:=hF.one
   have hb:∀ x∈hp.map fun e=>e.2,0≤x∧x≤63:=fun x hx=>by
    obtain ⟨e,he,rfl⟩:=List.mem_map.mp hx
    have h1:=hO.cnt e he
    have h2:=List.count_le_length (a:=e.1) (l:=pcs z L)
    rw [XG hF] at h2
    omega
   obtain ⟨a1,a2⟩:=Zhs (l:=hp.map fun e=>e.2) (fun x hx=>by have:=hb x hx; omega) (by rw [List.length_map]; omega)
   refine ⟨_,rfl,v,hp,rfl,ZeM hA,by omega,fun e he=>?_,a1,a2,fun H9 ks s9 hP=>?_⟩
   ·rw [(Ys hF ((hO.mem e.1).mp (List.mem_map.mpr ⟨e,he,rfl⟩))).1]
    omega
   refine ⟨_,rfl,Zfv (fun e=>?_) (fun e=>⟨_,_,_,rfl⟩)⟩
   rw [Bool.and_eq_true,decide_eq_true_iff,decide_eq_true_iff] at e
   have hR:=ZgJ hF z63 zc hO hP e.1 e.2
   have hne:pcs z L≠[]:=fun q=>by
    have:=XG hF
    rw [q] at this
    simp at this
   obtain ⟨e0,es,rfl,hRw⟩:=ZnI hR hne (hA.same s9.tup) hO
   refine ⟨_,rfl,_,rfl,z,L,rfl,hF,by omega,fun r hr1 H10 s10=>?_⟩
   refine ⟨_,rfl,.bl r.isNone,"bool","bool",rfl,by decide,.bl _,_,rfl,Zao (by decide) ?_⟩
   refine ⟨_,rfl,_,rfl,v,pcs z L,e0,es,rfl,hRw.same s10,fun H11 rs ns2 s11 hrs ndr hln hns=>?_⟩
   refine ⟨rfl,rfl,_,rfl,Zao ?_ ⟨_,_,_,rfl⟩⟩
   have hq:=ZfF hF hrs ndr hln hns hr1
   rw [← hq]
   simp
  ·rintro σ H7 ⟨z4,z5,z6,rfl⟩
   exact k _
end
end Sh
namespace Sh
open PySem L2
theorem blt_mk {K:PySem.W.Frag} {h:Heap} {mg:Str→Option Value} (X:K.In h) (G:h.Ns mainGlobals mg) (z0:PySem.W.nsIn K mainGlobals "isinstance" = some none) (z1:PySem.W.nsIn K mainGlobals "int" = some none) (z2:PySem.W.nsIn K mainGlobals "bool" = some none) (z3:PySem.W.nsIn K mainGlobals "len" = some none) (z4:PySem.W.nsIn K mainGlobals "range" = some none) (z5:PySem.W.nsIn K mainGlobals "list" = some none) (z6:PySem.W.nsIn K mainGlobals "tuple" = some none) (z7:PySem.W.nsIn K mainGlobals "enumerate" = some none) (z8:PySem.W.nsIn K mainGlobals "sum" = some none) (z9:PySem.W.nsIn K mainGlobals "sorted" = some none) (z10:PySem.W.nsIn K mainGlobals "set" = some none) (z11:PySem.W.nsIn K mainGlobals "max" = some none) (z12:PySem.W.nsIn K mainGlobals "min" = some none) (z13:PySem.W.nsIn K mainGlobals "reversed" = some none) (z14:PySem.W.nsIn K mainGlobals "zip" = some none) (z15:PySem.W.nsIn K mainGlobals "str" = some none) (z16:PySem.W.nsIn K mainGlobals "dict" = some none):Blt mg :=
 ⟨PySem.W.mg_none_of X G z0,PySem.W.mg_none_of X G z1,PySem.W.mg_none_of X G z2,PySem.W.mg_none_of X G z3,PySem.W.mg_none_of X G z4,PySem.W.mg_none_of X G z5,PySem.W.mg_none_of X G z6,PySem.W.mg_none_of X G z7,PySem.W.mg_none_of X G z8,PySem.W.mg_none_of X G z9,PySem.W.mg_none_of X G z10,PySem.W.mg_none_of X G z11,PySem.W.mg_none_of X G z12,PySem.W.mg_none_of X G z13,PySem.W.mg_none_of X G z14,PySem.W.mg_none_of X G z15,PySem.W.mg_none_of X G z16⟩
theorem all_mk {l:PySem.W.OpenLaw} {w:World} {K:PySem.W.Frag} {h:Heap} {mg:Str→Option Value} {fa f0:Addr} (X:K.In h) (G:h.Ns mainGlobals mg) (hfa:mg "law" = some (.ref fa)) {oc kV dc pm cd ct:Value} {od an:Option Addr} {sl:Array (Option Value)}
  (B:Blt mg)
  (D0:HasDef K mg "begin_of" Za6 ["piece"])
  (D1:HasDef K mg "end_of" ZgH ["piece"])
  (D2:HasDef K mg "points_of" YG ["H"])
  (D3:HasDef K mg "outs_of" Za2 ["H","P"])
  (D4:HasDef K mg "more_out" Za3 ["H"])
  (D5:HasDef K mg "begins_of" XD ["H"])
  (D6:HasDef K mg "ends_of" Za5 ["H"])
  (D7:HasDef K mg "place_of_head" YH ["rows"])
  (D8:HasDef K mg "lessened" XB ["row","head","divisor"])
  (D9:HasDef K mg "worth_of" XA ["table"])
  (D10:HasDef K mg "tied_points" Xg ["H"])
  (D11:HasDef K mg "part_of" Zdb ["H"])
  (D12:HasDef K mg "hangs" ZgG ["H"])
  (D13:HasDef K mg "has_many_begins" Z4 ["H"])
  (D14:HasDef K mg "has_text" Za4 ["H"])
  (D15:HasDef K mg "row_numbers" Xh ["H","root"])
  (D16:HasDef K mg "tree_table" Yr ["H","root"])
  (D17:HasDef K mg "trees_of" Za0 ["H","root"])
  (D18:HasDef K mg "factorial" X3 ["number"])
  (D19:HasDef K mg "orders_to" JS ["H","end"])
  (D20:HasDef K mg "starts_of" JR ["H"])
  (D21:HasDef K mg "count_from" X4 ["H","P"])
  (D22:HasDef K mg "count_of" JA ["H"])
  (D23:HasDef K mg "last_place" X2 ["T","long"])
  (D24:HasDef K mg "point_at" Za1 ["T","long","place"])
  (D25:HasDef K mg "points_along" Yh ["T","long"])
  (D26:HasDef K mg "stretch_between" Ye ["T","long","here","there"])
  (D27:HasDef K mg "is_closed" JT ["T","long"])
  (D28:HasDef K mg "turned" Zda ["T","long","place"])
  (D29:HasDef K mg "last_places" Xi ["points"])
  (D30:HasDef K mg "first_of_others" Z5 ["places","sign","otherwise"])
  (D31:HasDef K mg "changing_swap" Yx ["T","long"])
  (D32:HasDef K mg "change_of" JU ["T","long"])
  (D33:HasDef K mg "is_only" Zdc ["T","long"])
  (D34:HasDef K mg "_law_seed" ZgF ["_law_cells"])
  (D35:HasDef K mg "_law_letters" XC ["_law_cell"])
  (D36:HasDef K mg "_law_text" Zef ["_law_cells","_law_seed_here"])
  (D37:HasDef K mg "_law_cut" Zk4 ["_law_signs","_law_seed_here"])
  (D38:HasDef K mg "_law_torn" ZgE ["_law_signs","_law_long"])
  (D39:HasDef K mg "_law_few" ZiL ["_law_heap"])
  (a0:PySem.W.nsIn K mainGlobals "law" = some (some (.ref f0))) (l0:K.lookup f0=some ⟨oc,od,.func (PySem.W.fnOf "law" "law" (YR Zir) (Yo Zir) (Zf Zir) .none kV dc pm an cd ct),sl⟩) (c0:PySem.W.codeIn K cd "law" = true) (k0:PySem.W.keepIn K (.ref f0)=true) :
  ∃ fd:FuncData,(∀ (s:Shared) (v:Value),BindsTo s fd ⟨[v],[]⟩ [("_law_script",v)])∧∀ base:Heap,K.In base→base.Ns mainGlobals mg→FnOk l.prog w K mg base CX0 10 fa fd ["_law_script"] (ZiB K):=by
 have e:=hfa.symm.trans (PySem.W.mg_of X G a0)
 cases e
 refine ⟨PySem.W.fnOf "law" "law" (YR Zir) (Yo Zir) (Zf Zir) .none kV dc pm an cd ct,fun s v=>.of_eq rfl,fun base _ _=>?_⟩
 have W0:=Zdo (P:=l.prog) (w:=w) (base:=base) D0
 have W1:=Zg9 (P:=l.prog) (w:=w) (base:=base) D1
 have W2:=Zcd (P:=l.prog) (w:=w) (base:=base) D2 B W0 W1
 have W3:=Zfl (P:=l.prog) (w:=w) (base:=base) D3 B W0
 have W4:=Zdl (P:=l.prog) (w:=w) (base:=base) D4 W0 W1
 have W5:=Zcl (P:=l.prog) (w:=w) (base:=base) D5 B W4
 have W6:=Zfo (P:=l.prog) (w:=w) (base:=base) D6 B W4
 have W7:=Jq (P:=l.prog) (w:=w) (base:=base) D7 B
 have W8:=Zdm (P:=l.prog) (w:=w) (base:=base) D8 B
 have W9:=Zdi (P:=l.prog) (w:=w) (base:=base) D9 B W7 W8
 have W10:=Zak (P:=l.prog) (w:=w) (base:=base) D10 W0 W1
 have W11:=Zfk (P:=l.prog) (w:=w) (base:=base) D11 B (W0.mono (by decide)) W10
 have W12:=Zi0 (P:=l.prog) (w:=w) (base:=base) D12 B W11 (W2.mono (by decide))
 have W13:=Zci (P:=l.prog) (w:=w) (base:=base) D13 B W5
 have W14:=Zch (P:=l.prog) (w:=w) (base:=base) D14 B W12 W13
 have W15:=Zal (P:=l.prog) (w:=w) (base:=base) D15 B W2
 have W16:=Zbj (P:=l.prog) (w:=w) (base:=base) D16 B W15 (W0.mono (by decide)) (W1.mono (by decide))
 have W17:=Zdj (P:=l.prog) (w:=w) (base:=base) D17 B W16 (W9.mono (by decide))
 have W18:=Zcj (P:=l.prog) (w:=w) (base:=base) D18 B
 have W19:=Zce (P:=l.prog) (w:=w) (base:=base) D19 B W17 (W3.mono (by decide)) (W18.mono (by decide)) (W2.mono (by decide))
 have W20:=Zbk (P:=l.prog) (w:=w) (base:=base) D20 B W14 (W5.mono (by decide)) (W2.mono (by decide))
 have W21:=Zan (P:=l.prog) (w:=w) (base:=base) D21 B W20 (W6.mono (by decide)) W19 (W18.mono (by decide))
 have W22:=Zdn (P:=l.prog) (w:=w) (base:=base) D22 B (W20.mono (by decide)) W21
 have W23:=Zbl (P:=l.prog) (w:=w) (base:=base) D23 B
 have W24:=Zdk (P:=l.prog) (w:=w) (base:=base) D24 B
 have W25:=J1 (P:=l.prog) (w:=w) (base:=base) D25 B W23 W24
 have W26:=Zfj (P:=l.prog) (w:=w) (base:=base) D26 B
 have W27:=Zcg (P:=l.prog) (w:=w) (base:=base) D27 B W23 W24
 have W28:=Zg5 (P:=l.prog) (w:=w) (base:=base) D28 B W23 W24 W26
 have W29:=Zam (P:=l.prog) (w:=w) (base:=base) D29 B
 have W30:=XI (P:=l.prog) (w:=w) (base:=base) D30 B
 have W31:=Jr (P:=l.prog) (w:=w) (base:=base) D31 B W25 (W29.mono (by decide)) (W30.mono (by decide))
 have W32:=Zck (P:=l.prog) (w:=w) (base:=base) D32 B (W27.mono (by decide)) (W28.mono (by decide)) W31
 have W33:=Zfn (P:=l.prog) (w:=w) (base:=base) D33 B W32
 have W34:=Zg8 (P:=l.prog) (w:=w) (base:=base) D34 B
 have W35:=Zcf (P:=l.prog) (w:=w) (base:=base) D35 B
 have W36:=Zg7 (P:=l.prog) (w:=w) (base:=base) D36 B W35
 have W37:=ZiZ (P:=l.prog) (w:=w) (base:=base) D37 B
 have W38:=Zg6 (P:=l.prog) (w:=w) (base:=base) D38 B
 have W39:=Zfm (P:=l.prog) (w:=w) (base:=base) D39 B
 exact ZmH (ZhP (st:=Zir) l0 c0 k0) B (W34.mono (by decide)) (W36.mono (by decide)) (W37.mono (by decide)) (W33.mono (by decide)) (W38.mono (by decide)) (W39.mono (by decide)) (W22.mono (by decide))
theorem walk {l:PySem.W.OpenLaw} {q:Program} {loose:List Str} {XP:(Str→Option Value)→Heap→Prop} {YP:World→Heap→Prop} {d:DefRec} {K:Params→PySem.W.Frag} (hn:l.most=some 63) (hdf:d.params.defaults=[])
  (hY:∀ (w:World) (h:Heap),YP w h→(K w.params).In h)
  (F:∀ (w:World) (mg:Str→Option Value) (fa:Addr) (h:Heap),(K w.params).In h→h.Ns mainGlobals mg→mg d.name=some (.ref fa) →
   ∃ fd:FuncData,(∀ (s:Shared) (u:Value),BindsTo s fd ⟨[u],[]⟩ [("_law_script",u)])∧∀ base:Heap,(K w.params).In base→base.Ns mainGlobals mg→FnOk l.prog w (K w.params) mg base CX0 10 fa fd ["_law_script"] (ZiB (K w.params))) :
  PySem.W.WalkO q loose XP YP l.row.toRowW d [] (fun f vs=>PySem.call f vs) :=
 L2.walk_of (n:=63) (k:=10) (x:="_law_script") (CX:=fun _=>CX0) (sp:=fun w=>ZiB (K w.params)) hn (by decide) hdf ⟨rfl,by decide,by decide⟩ hY F (fun _ _ a ns hl _ hS=>⟨a,ns,rfl,hS,hl,fun _=>rfl⟩) fun _ _ _ _ _ z=>z
end Sh
def PySem.W.Fast.tw2898488481833939362:Unit:=()
def PySem.W.Fast.tw1211575681680464927:Unit:=()
def PySem.W.Fast.tw964677364710247945:Unit:=()
def PySem.W.Fast.tw9506435095715913917:Unit:=()
def PySem.W.Fast.tw7184978465740831144:Unit:=()
def PySem.W.Fast.tw5348321134040474170:Unit:=()
def PySem.W.Fast.tw12815887356288242972:Unit:=()
def PySem.W.Fast.tw13692288122616517488:Unit:=()
def PySem.W.Fast.tw17242209929364866671:Unit:=()
def PySem.W.Fast.tw10232660810335907806:Unit:=()
def PySem.W.Fast.tw587956048224109871:Unit:=()
def PySem.W.Fast.tw5193500700849366643:Unit:=()
def PySem.W.Fast.tw1891755968689681234:Unit:=()
def PySem.W.Fast.tw12121921859503493517:Unit:=()
def PySem.W.Fast.tw17172412993390162216:Unit:=()
def PySem.W.Fast.tw1663335496744092460:Unit:=()
def PySem.W.Fast.tw14077035336734494296:Unit:=()
def PySem.W.Fast.tw297391080402232651:Unit:=()
def PySem.W.Fast.tw11288514974694302832:Unit:=()
def PySem.W.Fast.tw5053939660819136591:Unit:=()
def PySem.W.Fast.tw3003552642410630936:Unit:=()
def PySem.W.Fast.tw4860895438349161111:Unit:=()
def PySem.W.Fast.tw12099454904766942933:Unit:=()
def PySem.W.Fast.tw12852985537315354590:Unit:=()
def PySem.W.Fast.tw16925902711244371342:Unit:=()
def PySem.W.Fast.tw9121420735210111268:Unit:=()
def PySem.W.Fast.tw3129631849205427611:Unit:=()
def PySem.W.Fast.tw13729704069299511363:Unit:=()
def PySem.W.Fast.tw5924379586023467441:Unit:=()
def PySem.W.Fast.tw15909106583711565456:Unit:=()
def PySem.W.Fast.tw3996459627476791306:Unit:=()
def PySem.W.Fast.tw5622216758927076560:Unit:=()
def PySem.W.Fast.tw3331571858934780830:Unit:=()
def PySem.W.Fast.tw7418482107059421048:Unit:=()
def PySem.W.Fast.tw9606194528056360391:Unit:=()
def PySem.W.Fast.tw851878664643897886:Unit:=()
def PySem.W.Fast.tw13630673061739893243:Unit:=()
def PySem.W.Fast.tw4482161702551545675:Unit:=()
def PySem.W.Fast.tw13374234489194149618:Unit:=()
def PySem.W.Fast.tw3749334935177121090:Unit:=()
def PySem.W.Fast.tw16720656645969733472:Unit:=()
def PySem.W.Fast.tw12455455776592304622:Unit:=()
def PySem.W.Fast.tw6358010417575915898:Unit:=()
def PySem.W.Fast.tw9870489706386369478:Unit:=()
def PySem.W.Fast.tw17903347117942550398:Unit:=()
def PySem.W.Fast.tw2804934117232857061:Unit:=()
def PySem.W.Fast.tw8228010607841552279:Unit:=()
def PySem.W.Fast.tw5342749718392988812:Unit:=()
def PySem.W.Fast.tw4340512490523644539:Unit:=()
def PySem.W.Fast.tw16288277647521734114:Unit:=()
def PySem.W.Fast.tw3270227613367473755:Unit:=()
def PySem.W.Fast.tw7786303298267652763:Unit:=()
def PySem.W.Fast.tw17105335839996174081:Unit:=()
def PySem.W.Fast.tw10554721233695935831:Unit:=()
def PySem.W.Fast.tw12449869707109184074:Unit:=()
def PySem.W.Fast.tw3204904747217488221:Unit:=()
def PySem.W.Fast.tw1134485528584338722:Unit:=()
def PySem.W.Fast.tw14706711250461531895:Unit:=()
def PySem.W.Fast.tw4469403808593984275:Unit:=()
def PySem.W.Fast.tw521541448902888259:Unit:=()
def PySem.W.Fast.tw3357993626371598163:Unit:=()
def PySem.W.Fast.tw16268109346693841349:Unit:=()
def PySem.W.Fast.tw14708473494720892707:Unit:=()
def PySem.W.Fast.tw358051647718412357:Unit:=()
def PySem.W.Fast.tw4984488236062259157:Unit:=()
def PySem.W.Fast.tw14166589490147886072:Unit:=()
def PySem.W.Fast.tw368628117920734505:Unit:=()
def PySem.W.Fast.tw6461019203089282186:Unit:=()
def PySem.W.Fast.tw14916223035614155428:Unit:=()
open PySem PySem.W PyProof.Rows
set_option maxRecDepth 100000 in
theorem PySem.Challenge.cw_shredjoin_k54_only_counted_holds : PySem.Challenge.rw_shredjoin_k54_only_counted.Holds := by
 w_on; o_law; k_head; (case hw => w_witness2)
 k_fill
 refine Sh.walk (l := PySem.Challenge.rw_shredjoin_k54_only_counted) rfl rfl (fun w h Y => PySem.W.kIn_of Y) ?F
 case F =>
  intro w mg fa h KX G hmg
  refine' Sh.all_mk KX G hmg ?B ?D0 ?D1 ?D2 ?D3 ?D4 ?D5 ?D6 ?D7 ?D8 ?D9 ?D10 ?D11 ?D12 ?D13 ?D14 ?D15 ?D16 ?D17 ?D18 ?D19 ?D20 ?D21 ?D22 ?D23 ?D24 ?D25 ?D26 ?D27 ?D28 ?D29 ?D30 ?D31 ?D32 ?D33 ?D34 ?D35 ?D36 ?D37 ?D38 ?D39 ?a0 ?l0 ?c0 ?k0
  case B =>
   refine' Sh.blt_mk KX G ?z0 ?z1 ?z2 ?z3 ?z4 ?z5 ?z6 ?z7 ?z8 ?z9 ?z10 ?z11 ?z12 ?z13 ?z14 ?z15 ?z16
   (case z0 => k_is); (case z1 => k_is); (case z2 => k_is); (case z3 => k_is); (case z4 => k_is); (case z5 => k_is); (case z6 => k_is); (case z7 => k_is); (case z8 => k_is); (case z9 => k_is); (case z10 => k_is); (case z11 => k_is); (case z12 => k_is); (case z13 => k_is); (case z14 => k_is); (case z15 => k_is); (case z16 => k_is)
  case D0 =>
   refine' L2.hasDef_mk KX G ?a ?l ?c ?k ?b
   (case a => k_is); (case l => k_is); (case c => k_is); (case k => k_is)
   case b => exact fun _ _ _ _ _ _ us hl => match us, hl with | [_], _ => rfl
  case D1 =>
   refine' L2.hasDef_mk KX G ?a ?l ?c ?k ?b
   (case a => k_is); (case l => k_is); (case c => k_is); (case k => k_is)
   case b => exact fun _ _ _ _ _ _ us hl => match us, hl with | [_], _ => rfl
  case D2 =>
   refine' L2.hasDef_mk KX G ?a ?l ?c ?k ?b
   (case a => k_is); (case l => k_is); (case c => k_is); (case k => k_is)
   case b => exact fun _ _ _ _ _ _ us hl => match us, hl with | [_], _ => rfl
  case D3 =>
   refine' L2.hasDef_mk KX G ?a ?l ?c ?k ?b
   (case a => k_is); (case l => k_is); (case c => k_is); (case k => k_is)
   case b => exact fun _ _ _ _ _ _ us hl => match us, hl with | [_, _], _ => rfl
  case D4 =>
   refine' L2.hasDef_mk KX G ?a ?l ?c ?k ?b
   (case a => k_is); (case l => k_is); (case c => k_is); (case k => k_is)
   case b => exact fun _ _ _ _ _ _ us hl => match us, hl with | [_], _ => rfl
  case D5 =>
   refine' L2.hasDef_mk KX G ?a ?l ?c ?k ?b
   (case a => k_is); (case l => k_is); (case c => k_is); (case k => k_is)
   case b => exact fun _ _ _ _ _ _ us hl => match us, hl with | [_], _ => rfl
  case D6 =>
   refine' L2.hasDef_mk KX G ?a ?l ?c ?k ?b
   (case a => k_is); (case l => k_is); (case c => k_is); (case k => k_is)
   case b => exact fun _ _ _ _ _ _ us hl => match us, hl with | [_], _ => rfl
  case D7 =>
   refine' L2.hasDef_mk KX G ?a ?l ?c ?k ?b
   (case a => k_is); (case l => k_is); (case c => k_is); (case k => k_is)
   case b => exact fun _ _ _ _ _ _ us hl => match us, hl with | [_], _ => rfl
  case D8 =>
   refine' L2.hasDef_mk KX G ?a ?l ?c ?k ?b
   (case a => k_is); (case l => k_is); (case c => k_is); (case k => k_is)
   case b => exact fun _ _ _ _ _ _ us hl => match us, hl with | [_, _, _], _ => rfl
  case D9 =>
   refine' L2.hasDef_mk KX G ?a ?l ?c ?k ?b
   (case a => k_is); (case l => k_is); (case c => k_is); (case k => k_is)
   case b => exact fun _ _ _ _ _ _ us hl => match us, hl with | [_], _ => rfl
  case D10 =>
   refine' L2.hasDef_mk KX G ?a ?l ?c ?k ?b
   (case a => k_is); (case l => k_is); (case c => k_is); (case k => k_is)
   case b => exact fun _ _ _ _ _ _ us hl => match us, hl with | [_], _ => rfl
  case D11 =>
   refine' L2.hasDef_mk KX G ?a ?l ?c ?k ?b
   (case a => k_is); (case l => k_is); (case c => k_is); (case k => k_is)
   case b => exact fun _ _ _ _ _ _ us hl => match us, hl with | [_], _ => rfl
  case D12 =>
   refine' L2.hasDef_mk KX G ?a ?l ?c ?k ?b
   (case a => k_is); (case l => k_is); (case c => k_is); (case k => k_is)
   case b => exact fun _ _ _ _ _ _ us hl => match us, hl with | [_], _ => rfl
  case D13 =>
   refine' L2.hasDef_mk KX G ?a ?l ?c ?k ?b
   (case a => k_is); (case l => k_is); (case c => k_is); (case k => k_is)
   case b => exact fun _ _ _ _ _ _ us hl => match us, hl with | [_], _ => rfl
  case D14 =>
   refine' L2.hasDef_mk KX G ?a ?l ?c ?k ?b
   (case a => k_is); (case l => k_is); (case c => k_is); (case k => k_is)
   case b => exact fun _ _ _ _ _ _ us hl => match us, hl with | [_], _ => rfl
  case D15 =>
   refine' L2.hasDef_mk KX G ?a ?l ?c ?k ?b
   (case a => k_is); (case l => k_is); (case c => k_is); (case k => k_is)
   case b => exact fun _ _ _ _ _ _ us hl => match us, hl with | [_, _], _ => rfl
  case D16 =>
   refine' L2.hasDef_mk KX G ?a ?l ?c ?k ?b
   (case a => k_is); (case l => k_is); (case c => k_is); (case k => k_is)
   case b => exact fun _ _ _ _ _ _ us hl => match us, hl with | [_, _], _ => rfl
  case D17 =>
   refine' L2.hasDef_mk KX G ?a ?l ?c ?k ?b
   (case a => k_is); (case l => k_is); (case c => k_is); (case k => k_is)
   case b => exact fun _ _ _ _ _ _ us hl => match us, hl with | [_, _], _ => rfl
  case D18 =>
   refine' L2.hasDef_mk KX G ?a ?l ?c ?k ?b
   (case a => k_is); (case l => k_is); (case c => k_is); (case k => k_is)
   case b => exact fun _ _ _ _ _ _ us hl => match us, hl with | [_], _ => rfl
  case D19 =>
   refine' L2.hasDef_mk KX G ?a ?l ?c ?k ?b
   (case a => k_is); (case l => k_is); (case c => k_is); (case k => k_is)
   case b => exact fun _ _ _ _ _ _ us hl => match us, hl with | [_, _], _ => rfl
  case D20 =>
   refine' L2.hasDef_mk KX G ?a ?l ?c ?k ?b
   (case a => k_is); (case l => k_is); (case c => k_is); (case k => k_is)
   case b => exact fun _ _ _ _ _ _ us hl => match us, hl with | [_], _ => rfl
  case D21 =>
   refine' L2.hasDef_mk KX G ?a ?l ?c ?k ?b
   (case a => k_is); (case l => k_is); (case c => k_is); (case k => k_is)
   case b => exact fun _ _ _ _ _ _ us hl => match us, hl with | [_, _], _ => rfl
  case D22 =>
   refine' L2.hasDef_mk KX G ?a ?l ?c ?k ?b
   (case a => k_is); (case l => k_is); (case c => k_is); (case k => k_is)
   case b => exact fun _ _ _ _ _ _ us hl => match us, hl with | [_], _ => rfl
  case D23 =>
   refine' L2.hasDef_mk KX G ?a ?l ?c ?k ?b
   (case a => k_is); (case l => k_is); (case c => k_is); (case k => k_is)
   case b => exact fun _ _ _ _ _ _ us hl => match us, hl with | [_, _], _ => rfl
  case D24 =>
   refine' L2.hasDef_mk KX G ?a ?l ?c ?k ?b
   (case a => k_is); (case l => k_is); (case c => k_is); (case k => k_is)
   case b => exact fun _ _ _ _ _ _ us hl => match us, hl with | [_, _, _], _ => rfl
  case D25 =>
   refine' L2.hasDef_mk KX G ?a ?l ?c ?k ?b
   (case a => k_is); (case l => k_is); (case c => k_is); (case k => k_is)
   case b => exact fun _ _ _ _ _ _ us hl => match us, hl with | [_, _], _ => rfl
  case D26 =>
   refine' L2.hasDef_mk KX G ?a ?l ?c ?k ?b
   (case a => k_is); (case l => k_is); (case c => k_is); (case k => k_is)
   case b => exact fun _ _ _ _ _ _ us hl => match us, hl with | [_, _, _, _], _ => rfl
  case D27 =>
   refine' L2.hasDef_mk KX G ?a ?l ?c ?k ?b
   (case a => k_is); (case l => k_is); (case c => k_is); (case k => k_is)
   case b => exact fun _ _ _ _ _ _ us hl => match us, hl with | [_, _], _ => rfl
  case D28 =>
   refine' L2.hasDef_mk KX G ?a ?l ?c ?k ?b
   (case a => k_is); (case l => k_is); (case c => k_is); (case k => k_is)
   case b => exact fun _ _ _ _ _ _ us hl => match us, hl with | [_, _, _], _ => rfl
  case D29 =>
   refine' L2.hasDef_mk KX G ?a ?l ?c ?k ?b
   (case a => k_is); (case l => k_is); (case c => k_is); (case k => k_is)
   case b => exact fun _ _ _ _ _ _ us hl => match us, hl with | [_], _ => rfl
  case D30 =>
   refine' L2.hasDef_mk KX G ?a ?l ?c ?k ?b
   (case a => k_is); (case l => k_is); (case c => k_is); (case k => k_is)
   case b => exact fun _ _ _ _ _ _ us hl => match us, hl with | [_, _, _], _ => rfl
  case D31 =>
   refine' L2.hasDef_mk KX G ?a ?l ?c ?k ?b
   (case a => k_is); (case l => k_is); (case c => k_is); (case k => k_is)
   case b => exact fun _ _ _ _ _ _ us hl => match us, hl with | [_, _], _ => rfl
  case D32 =>
   refine' L2.hasDef_mk KX G ?a ?l ?c ?k ?b
   (case a => k_is); (case l => k_is); (case c => k_is); (case k => k_is)
   case b => exact fun _ _ _ _ _ _ us hl => match us, hl with | [_, _], _ => rfl
  case D33 =>
   refine' L2.hasDef_mk KX G ?a ?l ?c ?k ?b
   (case a => k_is); (case l => k_is); (case c => k_is); (case k => k_is)
   case b => exact fun _ _ _ _ _ _ us hl => match us, hl with | [_, _], _ => rfl
  case D34 =>
   refine' L2.hasDef_mk KX G ?a ?l ?c ?k ?b
   (case a => k_is); (case l => k_is); (case c => k_is); (case k => k_is)
   case b => exact fun _ _ _ _ _ _ us hl => match us, hl with | [_], _ => rfl
  case D35 =>
   refine' L2.hasDef_mk KX G ?a ?l ?c ?k ?b
   (case a => k_is); (case l => k_is); (case c => k_is); (case k => k_is)
   case b => exact fun _ _ _ _ _ _ us hl => match us, hl with | [_], _ => rfl
  case D36 =>
   refine' L2.hasDef_mk KX G ?a ?l ?c ?k ?b
   (case a => k_is); (case l => k_is); (case c => k_is); (case k => k_is)
   case b => exact fun _ _ _ _ _ _ us hl => match us, hl with | [_, _], _ => rfl
  case D37 =>
   refine' L2.hasDef_mk KX G ?a ?l ?c ?k ?b
   (case a => k_is); (case l => k_is); (case c => k_is); (case k => k_is)
   case b => exact fun _ _ _ _ _ _ us hl => match us, hl with | [_, _], _ => rfl
  case D38 =>
   refine' L2.hasDef_mk KX G ?a ?l ?c ?k ?b
   (case a => k_is); (case l => k_is); (case c => k_is); (case k => k_is)
   case b => exact fun _ _ _ _ _ _ us hl => match us, hl with | [_, _], _ => rfl
  case D39 =>
   refine' L2.hasDef_mk KX G ?a ?l ?c ?k ?b
   (case a => k_is); (case l => k_is); (case c => k_is); (case k => k_is)
   case b => exact fun _ _ _ _ _ _ us hl => match us, hl with | [_], _ => rfl
  (case a0 => k_is); (case l0 => k_is); (case c0 => k_is); (case k0 => k_is)
#print axioms PySem.Challenge.cw_shredjoin_k54_only_counted_holds
