import PyProof.Rows.All
import Wide.All
import OpenK.AllK
import Wide.FinOn
import Lean
import PyProof.EqAt
import PyProof.EqKinds
import PyProof.TupleCall
import KE.KSortTup
import KE.KItemsList
import KE.KUnpack
import PyProof.EnumMake
import PyProof.EnumFor
import PyProof.EnumStmt
import KE.IntBitsLaws
import KE.KDictSum
import PyProof.SetRoads
import PyProof.Rows.SetFrom
import PyProof.FactsAll.set_1
import PyProof.FactsAll.set_2
import KE.KMinBuiltin
import PyProof.WalkInts
import PyProof.Rows.CallKwBuiltin
import PyProof.DictItemsLoops
import KE.KDictLaws
import KE.KPairComp
import PyProof.Rows.DictUnroll
import PyProof.ZipIter
import PyProof.AttrMissHeap
import KE.KDictOf
import KE.KRevIter
import PyProof.ListStr
import KE.KStateDown
import KE.KRevSl
import PyProof.ListRange
import PyProof.Rows.Range3
import PyProof.SeqI3
import PyProof.TupleOfSeq
import PySem.Challenge.RW_shredjoin_k63_whole_sure_behind_all
set_option maxHeartbeats 0
set_option Elab.async false
set_option linter.all false
set_option maxRecDepth 100000
namespace L2
open PySem PySem.Spec PyProof.Rows
abbrev Key:=Sum Int Str
def Js:Key→Value→Bool
 | .inl k,v=>Value.isInt k v
 | .inr x,v=>Value.isStrOf x v
def ZlO (w:World):Key→Int
 | .inl k=>hashInt k
 | .inr x=>hashStr w x
theorem keyIs_shape:∀ {k:Key} {v:Value},Js k v=true→(∃ i t,k=Sum.inl i∧v=Value.int i t)∨(∃ x t,k=Sum.inr x∧v=Value.str x t)
 | .inl i,v,h=>by
  obtain ⟨t,e⟩:=Value.isInt_shape (k:=i) (v:=v) h
  exact .inl ⟨i,t,rfl,e⟩
 | .inr x,v,h=>by
  obtain ⟨t,e⟩:=Value.isStrOf_shape (x:=x) (v:=v) h
  exact .inr ⟨x,t,rfl,e⟩
theorem Zfq (i:Int) (t:Tok):Js (.inl i) (.int i t)=true:=by simp [Js,Value.isInt]
theorem Zfp (x:Str) (t:Tok):Js (.inr x) (.str x t)=true:=by simp [Js,Value.isStrOf]
theorem Zj2 (a b:Int):decide ((Sum.inl a:Key)=Sum.inl b)=(a == b):=by
 by_cases e:a=b
 ·subst e; simp
 ·have h:¬ (Sum.inl a:Key)=Sum.inl b:=fun q=>e (Sum.inl.inj q)
  rw [decide_eq_false h]
  exact (beq_eq_false_iff_ne.mpr e).symm
theorem ZjZ (a b:Str):decide ((Sum.inr a:Key)=Sum.inr b)=decide (a=b):=by
 by_cases e:a=b
 ·subst e; simp
 ·have h:¬ (Sum.inr a:Key)=Sum.inr b:=fun q=>e (Sum.inr.inj q)
  rw [decide_eq_false h,decide_eq_false e]
theorem Zj1 (a:Int) (b:Str):decide ((Sum.inl a:Key)=Sum.inr b)=false:=decide_eq_false (fun q=>nomatch q)
theorem Zj0 (a:Str) (b:Int):decide ((Sum.inr a:Key)=Sum.inl b)=false:=decide_eq_false (fun q=>nomatch q)
def Zp (prog:Program) (w:World):PySem.KeyKind prog w Key where
 is:=Js
 hash:=ZlO w
 inj:=fun v a b ha hb=>by
  rcases keyIs_shape ha with ⟨i,t,rfl,rfl⟩ | ⟨x,t,rfl,rfl⟩
  ·rcases keyIs_shape hb with ⟨j,u,rfl,e⟩ | ⟨y,u,rfl,e⟩
   ·injection e with e1 _; rw [e1]
   ·exact nomatch e
  ·rcases keyIs_shape hb with ⟨j,u,rfl,e⟩ | ⟨y,u,rfl,e⟩
   ·exact nomatch e
   ·injection e with e1 _; rw [e1]
 byValue:=fun k v h=>by
  rcases keyIs_shape h with ⟨i,t,rfl,rfl⟩ | ⟨x,t,rfl,rfl⟩ <;> rfl
 pyHash:=fun hv h=>by
  rcases keyIs_shape hv with ⟨i,t,rfl,rfl⟩ | ⟨x,t,rfl,rfl⟩
  ·exact wpAny_pyHash_int h
  ·exact wpAny_pyHash_str h
 eqBool:=fun hu hv h=>by
  rcases keyIs_shape hu with ⟨i,t,rfl,rfl⟩ | ⟨x,t,rfl,rfl⟩
  ·rcases keyIs_shape hv with ⟨j,u,rfl,rfl⟩ | ⟨y,u,rfl,rfl⟩
   ·rw [Zj2] at h; exact wpAny_eqBool_int h
   ·rw [Zj1] at h; exact SeqAt.EqAt.int_str i t y u _ _ _ _ h
  ·rcases keyIs_shape hv with ⟨j,u,rfl,rfl⟩ | ⟨y,u,rfl,rfl⟩
   ·rw [Zj0] at h; exact SeqAt.EqAt.str_int x t j u _ _ _ _ h
   ·rw [ZjZ] at h; exact wpAny_eqBool_str h
 «strs»:=fun k x t v h=>by
  rcases keyIs_shape h with ⟨i,u,rfl,e⟩ | ⟨y,u,rfl,e⟩
  ·exact nomatch e
  ·injection e with e1 _
   subst e1
   cases v <;> rfl
theorem Zcm (prog:Program) (w:World) (i:Int) (t:Tok):(Zp prog w).is (.inl i) (.int i t)=true:=Zfq i t
theorem Xe (prog:Program) (w:World) (x:Str) (t:Tok):(Zp prog w).is (.inr x) (.str x t)=true:=Zfp x t
inductive V where
 | non | bl (b:Bool) | int (i:Int) | str (x:Str) | byt (b:Array UInt8) | flt (b:UInt64) | ref (a:Addr) | ty (n:String)
 deriving DecidableEq
def RelV:V→Value→Prop
 | .non,u=>u=Value.none
 | .bl b,u=>u=Value.bool b
 | .int i,u=>∃ t,u=Value.int i t
 | .str x,u=>∃ t,u=Value.str x t
 | .byt b,u=>∃ t,u=Value.bytes b t
 | .flt b,u=>∃ t,u=Value.float b t
 | .ref a,u=>u=Value.ref a
 | .ty n,u=>u=Value.type n
abbrev Vals:List V→List Value→Prop:=Paired RelV
theorem Vals.length {xs:List V} {us:List Value} (r:Vals xs us):xs.length=us.length:=Paired.length r
theorem Vals.get:∀ {xs:List V} {us:List Value} {i:Nat} {x:V},Vals xs us→xs[i]?=some x→∃ u,us[i]?=some u∧RelV x u
 | _,_,_,_,.nil,e=>by simp at e
 | _,_,0,_,.cons r _,e=>by simp at e; subst e; exact ⟨_,rfl,r⟩
 | _,_,i + 1,x,.cons _ t,e=>by
  obtain ⟨u,h1,h2⟩:=Vals.get (i:=i) (x:=x) t (by simpa using e)
  exact ⟨u,by simpa using h1,h2⟩
theorem Vals.set {x:V} {u:Value} (r:RelV x u):∀ {xs:List V} {us:List Value} (i:Nat),Vals xs us→Vals (xs.set i x) (us.set i u)
 | _,_,_,.nil=>.nil
 | _,_,0,.cons _ t=>.cons r t
 | _,_,i + 1,.cons q t=>.cons q (Vals.set r i t)
theorem Vals.append:∀ {xs ys:List V} {us ws:List Value},Vals xs us→Vals ys ws→Vals (xs ++ ys) (us ++ ws)
 | _,_,_,_,.nil,s=>s
 | _,_,_,_,.cons r t,s=>.cons r (Vals.append t s)
theorem Vals.take:∀ {xs:List V} {us:List Value} (n:Nat),Vals xs us→Vals (xs.take n) (us.take n)
 | _,_,0,_=>.nil
 | _,_,_ + 1,.nil=>.nil
 | _,_,n + 1,.cons r t=>.cons r (Vals.take n t)
theorem Vals.drop:∀ {xs:List V} {us:List Value} (n:Nat),Vals xs us→Vals (xs.drop n) (us.drop n)
 | _,_,0,r=>r
 | _,_,_ + 1,.nil=>.nil
 | _,_,n + 1,.cons _ t=>Vals.drop n t
def RelO:Option V→Option Value→Prop
 | some v,some u=>RelV v u
 | none,none=>True
 | _,_=>False
def KV {κ:Type}:List (κ × V)→List (κ × Value)→Prop:=Paired fun (p:κ × V) (q:κ × Value)=>p.1=q.1∧RelV p.2 q.2
def kV:Key→V
 | .inl i=>.int i
 | .inr x=>.str x
inductive HO where
  | lst (xs:List V)
  | tup (xs:List V)
  | dK (kvs:List (Key × V)) | dT (kvs:List (List Key × V))
  | set (S:Int→Bool) (n:Nat)
  | ins (C dx:Addr) (fs:List (Str × V))
  | own (x:Addr)
  | xd (fs:List (Str × V))
  | met (f x:Addr)
  | rng (lo hi:Int)
  | frz (o:Obj) (u:HO)
  | tbl (ps:Array Value)
  | ext (φ:Heap→Prop)
abbrev Hp:=Addr→Option HO
def upd (H:Hp) (a:Addr) (o:HO):Hp:=fun b=>if b=a then some o else H b
theorem Zc {H:Hp} {a:Addr} {o:HO}:upd H a o a=some o:=by unfold upd; rw [if_pos rfl]
theorem Zj {H:Hp} {a b:Addr} {o:HO} (h:b≠a):upd H a o b=H b:=by unfold upd; rw [if_neg h]
theorem ZbI {H:Hp} {a:Addr} {o u:HO}:upd (upd H a o) a u=upd H a u:=by
 funext b; unfold upd; split <;> rfl
theorem ZgF {H:Hp} {a b:Addr} {o u:HO} (h:H a=some o) (h':H b=some u) (d:o≠u):a≠b:=by
 intro e; subst e; rw [h] at h'; exact d (Option.some.inj h')
theorem Zl {H:Hp} {a b:Addr} {o:HO} (h:H a=some o) (h':H b=none):a≠b:=by
 intro e; subst e; rw [h] at h'; cases h'
section
variable (P:Program) (w:World)
def NoD (h:Heap) (a:Addr):Prop:=∀ o,h.get? a=some o→o.dict=none
theorem ZcY {h:Heap} {o:Obj} (hd:o.dict=none) (hf:o.isFreed=false):NoD (h.push o) h.objs.size:=fun o2 e=>by
 rw [Heap.get?_push_size h hf] at e
 cases e
 exact hd
def ObjOk (H:Hp) (h:Heap) (a:Addr):HO→Prop
 | .lst xs=>xs.length≤sizeLine∧∃ (its:List Value) (n:Nat),Vals xs its∧h.get? a=some { cls:=.type "list",data:=.seq its.toArray n }
 | .tup xs=>xs.length≤sizeLine∧∃ its:List Value,Vals xs its∧IsTup h a its.toArray∧NoD h a
 | .dK kvs=>kvs.length≤sizeLine∧(a == sysModules)=false∧∃ vs,KV kvs vs∧h.DictOf (Zp P w) a vs
 | .dT kvs=>kvs.length≤sizeLine∧(a == sysModules)=false∧∃ xs:List (List Key × Addr × Value),
   Paired (fun (p:List Key × V) (q:List Key × Addr × Value)=>p.1=q.1∧H q.2.1=some (.tup (p.1.map kV))∧RelV p.2 q.2.2) kvs xs ∧
   ∃ o es ep,h.get? a=some o∧o.ExactDict∧o.data = .dict es ep∧es.toList=xs.map (entryOfKey (tupleKind (Zp P w)))∧(xs.map (·.1)).Nodup
 | .set S n=>h.SetOf (intKind P w) a S n
 | .ins C dx fs=>H dx=some (.own a)∧fs.length≤1000∧dx≠a∧h.get? a=some (PySem.W.instObj C dx) ∧
   ∃ mA,h.Ns1 dx mA∧(∀ f,RelO (fs.lookup f) (mA f))∧PySem.Within mA (fs.map (·.1))
 | .own _=>∃ o,h.get? a=some o
 | .xd fs=>∃ mA,h.Ns1 a mA∧∀ f,RelO (fs.lookup f) (mA f)
 | .rng lo hi=>∃ t u v,h.get? a=some { cls:=.type "range",data:=.fields #[.int lo t,.int hi u,.int 1 v] }
 | .frz o u=>h.get? a=some o∧ObjOk H h a u
 | .tbl ps=>h.get? a=some { cls:=.none,data:=.fields ps }
 | .met f x=>h.get? a=some (PySem.W.methodObj (.ref f) (.ref x))
 | .ext φ=>φ h∧(∃ o,h.get? a=some o)∧∀ h1 h2:Heap,φ h1→(∀ o,h1.get? a=some o→h2.get? a=some o)→φ h2
def HOk (H:Hp) (h:Heap):Prop:=∀ a o,H a=some o→ObjOk P w H h a o
end
section
variable {P:Program} {w:World} {H H':Hp} {h h':Heap} {a:Addr} {o:HO}
theorem ObjOk.lt (x:ObjOk P w H h a o):a < h.objs.size:=by
 cases o with
 | lst xs=>obtain ⟨_,_,_,_,e⟩:=x; exact Heap.lt_size e
 | tup xs=>obtain ⟨_,_,_,p,_⟩:=x; exact p.lt
 | dK kvs=>obtain ⟨_,_,_,_,o,_,_,e,_⟩:=x; exact Heap.lt_size e
 | dT kvs=>obtain ⟨_,_,_,_,o,_,_,e,_⟩:=x; exact Heap.lt_size e
 | set S n=>obtain ⟨o,_,_,_,e,_⟩:=x; exact Heap.lt_size e
 | ins C dx fs=>obtain ⟨_,_,_,e,_⟩:=x; exact Heap.lt_size e
 | own y=>obtain ⟨_,e⟩:=x; exact Heap.lt_size e
 | xd fs=>obtain ⟨_,⟨_,_,_,e,_⟩,_⟩:=x; exact Heap.lt_size e
 | rng lo hi=>obtain ⟨_,_,_,e⟩:=x; exact Heap.lt_size e
 | frz ob u=>obtain ⟨e,_⟩:=x; exact Heap.lt_size e
 | tbl ps=>exact Heap.lt_size (show h.get? a=some _ from x)
 | met f y=>exact Heap.lt_size (show h.get? a=some _ from x)
 | ext φ=>obtain ⟨_,⟨_,e⟩,_⟩:=x; exact Heap.lt_size e
theorem Paired.mapP {α β:Type} {F G:α→β→Prop}:∀ {l₁:List α} {l₂:List β},Paired F l₁ l₂→(∀ a b,F a b→G a b)→Paired G l₁ l₂
 | _,_,.nil,_=>.nil
 | _,_,.cons r t,f=>.cons (f _ _ r) (Paired.mapP t f)
theorem ObjOk.stay (x:ObjOk P w H h a o) (k:∀ b u,(b=a∨H b=some (.own a))→h.get? b=some u→h'.get? b=some u)
  (ho:∀ b,H b=some (.own a)→H' b=some (.own a)) (ht:∀ b xs,H b=some (.tup xs)→H' b=some (.tup xs)):ObjOk P w H' h' a o:=by
 induction o with
 | lst xs=>obtain ⟨z,its,n,r,e⟩:=x; exact ⟨z,its,n,r,k _ _ (.inl rfl) e⟩
 | tup xs =>
  obtain ⟨z,its,r,⟨ob,e,c⟩,nd⟩:=x
  exact ⟨z,its,r,⟨ob,k _ _ (.inl rfl) e,c⟩,fun o2 e2=>by
   rw [k _ _ (.inl rfl) e] at e2
   cases e2
   exact nd _ e⟩
 | dK kvs=>obtain ⟨z,y,vs,r,ob,es,ep,e,c⟩:=x; exact ⟨z,y,vs,r,ob,es,ep,k _ _ (.inl rfl) e,c⟩
 | dT kvs =>
  obtain ⟨z,y,xs,r,ob,es,ep,e,c⟩:=x
  exact ⟨z,y,xs,Paired.mapP r fun p q z=>⟨z.1,ht _ _ z.2.1,z.2.2⟩,ob,es,ep,k _ _ (.inl rfl) e,c⟩
 | set S n=>obtain ⟨ob,es,ep,t,e,c⟩:=x; exact ⟨ob,es,ep,t,k _ _ (.inl rfl) e,c⟩
 | ins C dx fs =>
  obtain ⟨d,z,ne,e,mA,⟨od,es,ep,e2,c⟩,r⟩:=x
  exact ⟨ho _ d,z,ne,k _ _ (.inl rfl) e,mA,⟨od,es,ep,k _ _ (.inr d) e2,c⟩,r⟩
 | own y=>obtain ⟨ob,e⟩:=x; exact ⟨ob,k _ _ (.inl rfl) e⟩
 | xd fs=>obtain ⟨mA,⟨od,es,ep,e,c⟩,r⟩:=x; exact ⟨mA,⟨od,es,ep,k _ _ (.inl rfl) e,c⟩,r⟩
 | rng lo hi=>obtain ⟨t,u,v,e⟩:=x; exact ⟨t,u,v,k _ _ (.inl rfl) e⟩
 | frz ob u ih=>obtain ⟨e,q⟩:=x; exact ⟨k _ _ (.inl rfl) e,ih q⟩
 | tbl ps =>
  have e:h.get? a=some { cls:=.none,data:=.fields ps }:=x
  show h'.get? a=some { cls:=.none,data:=.fields ps }
  exact k a _ (.inl rfl) e
 | met f y =>
  have e:h.get? a=some (PySem.W.methodObj (.ref f) (.ref y)):=x
  show h'.get? a=some (PySem.W.methodObj (.ref f) (.ref y))
  exact k a _ (.inl rfl) e
 | ext φ=>obtain ⟨p,⟨o,e⟩,st⟩:=x; exact ⟨st _ _ p fun o q=>k _ _ (.inl rfl) q,⟨o,k _ _ (.inl rfl) e⟩,st⟩
theorem HOk.lt (x:HOk P w H h) (e:H a=some o):a < h.objs.size:=(x a o e).lt
theorem HOk.fresh (x:HOk P w H h) (e:h.objs.size≤a):H a=none:=by
 cases q:H a with
 | none=>rfl
 | some u=>exact absurd (Nat.lt_of_lt_of_le (x.lt q) e) (Nat.lt_irrefl _)
theorem HOk.kept (x:HOk P w H h) (k:∀ b u,h.get? b=some u→h'.get? b=some u):HOk P w H h':=fun a o e =>
 (x a o e).stay (fun b u _ q=>k b u q) (fun _ q=>q) fun _ _ q=>q
theorem HOk.laid (x:HOk P w H h) (k:∀ b u,h.get? b=some u→h'.get? b=some u) (hp:h.objs.size≤a) (new:ObjOk P w (upd H a o) h' a o):HOk P w (upd H a o) h':=fun b u e=>by
 have hn:=x.fresh hp
 by_cases hb:b=a
 ·subst hb; rw [Zc] at e; cases e; exact new
 ·rw [Zj hb] at e
  exact (x b u e).stay (fun c v _ q=>k c v q) (fun c q=>by rw [Zj (Zl q hn)]; exact q) fun c xs q=>by rw [Zj (Zl q hn)]; exact q
end
def Rd (H:Hp) (a:Addr) (u:HO):Prop:=H a=some u∨∃ o,H a=some (.frz o u)
theorem Rd.of {H:Hp} {a:Addr} {u:HO} (h:H a=some u):Rd H a u:=.inl h
theorem Rd.ok {P:Program} {w:World} {H:Hp} {h:Heap} {a:Addr} {u:HO} (r:Rd H a u) (x:HOk P w H h):ObjOk P w H h a u:=by
 rcases r with r | ⟨o,r⟩
 ·exact x a u r
 ·obtain ⟨_,q⟩:=x a _ r
  exact q
def Mut:Option HO→Prop
 | some (.lst _)=>True
 | some (.dK _)=>True
 | some (.dT _)=>True
 | some (.set _ _)=>True
 | some (.ins _ _ _)=>True
 | some (.ext _)=>True
 | _=>False
section
variable {P:Program} {w:World} {H:Hp} {h h':Heap} {x e:Addr} {o':HO}
theorem HOk.write (ok:HOk P w H h) (mu:Mut (H x)) (he:e=x∨H e=some (.own x)) (k:∀ b u,b≠e→h.get? b=some u→h'.get? b=some u) (heo:∃ u,h'.get? e=some u)
  (new:ObjOk P w (upd H x o') h' x o'):HOk P w (upd H x o') h':=fun b u q=>by
 have nown:∀ c y,H c=some (.own y)→c≠x:=fun c y r z=>by subst z; rw [r] at mu; exact mu
 have ntup:∀ c xs,H c=some (.tup xs)→c≠x:=fun c xs r z=>by subst z; rw [r] at mu; exact mu
 by_cases hb:b=x
 ·subst hb; rw [Zc] at q; cases q; exact new
 ·rw [Zj hb] at q
  by_cases hbe:b=e
  ·have q':H b=some (.own x):=by
    rcases he with z | z
    ·exact absurd (hbe.trans z) hb
    ·rw [hbe]; exact z
   rw [q] at q'; cases q'
   obtain ⟨v,hv⟩:=heo
   exact ⟨v,by rw [hbe]; exact hv⟩
  ·refine (ok b u q).stay (fun c v hc r=>k c v ?_ r) (fun c r=>by rw [Zj (nown c b r)]; exact r) fun c xs r=>by rw [Zj (ntup c xs r)]; exact r
   rcases hc with rfl | hc
   ·exact hbe
   ·rintro rfl
    rcases he with z | z
    ·exact nown c b hc z
    ·rw [hc] at z; cases z; exact hb rfl
end
structure Un (fs ex:List Addr) (H H':Hp) (h h':Heap):Prop where
 keep:∀ b o,h.get? b=some o→H b=none→b∉fs→b∉ex→h'.get? b=some o
 slot:∀ b o,h.get? b=some o→H b=none→b∈fs→b∉ex→∃ sl,h'.get? b=some { o with slots:=sl }
 free:∀ b o,h.get? b=some o→H b=none→b∉ex→H' b=none
 there:∀ b o,h.get? b=some o→b∉ex→∃ o',h'.get? b=some o'
 tups:∀ b xs,H b=some (.tup xs)→H' b=some (.tup xs)
 frzs:∀ b o u,H b=some (.frz o u)→H' b=some (.frz o u)
 tbls:∀ b ps,H b=some (.tbl ps)→∃ more,H' b=some (.tbl (ps ++ more))
section
variable {fs fs' ex ex':List Addr} {H H1 H2:Hp} {h h1 h2 h':Heap} {a x e:Addr} {o:HO}
theorem Un.any (u:Un fs ex H H1 h h1) {b:Addr} {ob:Obj} (q:h.get? b=some ob) (n:H b=none) (hx:b∉ex):∃ sl,h1.get? b=some { ob with slots:=sl }:=by
 by_cases hb:b∈fs
 ·exact u.slot b ob q n hb hx
 ·exact ⟨ob.slots,u.keep b ob q n hb hx⟩
theorem Un.trans (a:Un fs ex H H1 h h1) (b:Un fs ex H1 H2 h1 h2):Un fs ex H H2 h h2 where
 keep:=fun c ob q n hc hx=>b.keep c ob (a.keep c ob q n hc hx) (a.free c ob q n hx) hc hx
 slot:=fun c ob q n hc hx=>by
  obtain ⟨sl,e1⟩:=a.slot c ob q n hc hx
  obtain ⟨sl',e2⟩:=b.slot c _ e1 (a.free c ob q n hx) hc hx
  exact ⟨sl',e2⟩
 free:=fun c ob q n hx=>by
  obtain ⟨o',e1⟩:=a.there c ob q hx
  exact b.free c o' e1 (a.free c ob q n hx) hx
 there:=fun c ob q hx=>by
  obtain ⟨o',e1⟩:=a.there c ob q hx
  exact b.there c o' e1 hx
 tups:=fun c xs q=>b.tups c xs (a.tups c xs q)
 frzs:=fun c ob xs q=>b.frzs c ob xs (a.frzs c ob xs q)
 tbls:=fun c ps q=>by
  obtain ⟨m1,e1⟩:=a.tbls c ps q
  obtain ⟨m2,e2⟩:=b.tbls c _ e1
  exact ⟨m1 ++ m2,by rw [e2,Array.append_assoc]⟩
theorem Un.kept (k:∀ b u,h.get? b=some u→h'.get? b=some u):Un fs ex H H h h' :=
 ⟨fun b ob q _ _ _=>k b ob q,fun b ob q _ _ _=>⟨ob.slots,k b ob q⟩,fun _ _ _ n _=>n,fun b ob q _=>⟨ob,k b ob q⟩,fun _ _ q=>q,fun _ _ _ q=>q,fun _ ps q=>⟨#[],by rw [q]; simp⟩⟩
theorem Un.refl:Un fs ex H H h h:=Un.kept fun _ _ q=>q
theorem Un.laid (k:∀ b u,h.get? b=some u→h'.get? b=some u) (hp:h.objs.size≤a) (hn:H a=none):Un fs ex H (upd H a o) h h' where
 keep:=fun b u q _ _ _=>k b u q
 slot:=fun b u q _ _ _=>⟨u.slots,k b u q⟩
 free:=fun b u q n _=>by rw [Zj (Nat.ne_of_lt (Nat.lt_of_lt_of_le (Heap.lt_size q) hp))]; exact n
 there:=fun b u q _=>⟨u,k b u q⟩
 tups:=fun b xs q=>by rw [Zj (Zl q hn)]; exact q
 frzs:=fun b u xs q=>by rw [Zj (Zl q hn)]; exact q
 tbls:=fun b ps q=>⟨#[],by rw [Zj (Zl q hn),q]; simp⟩
theorem Un.write (mu:Mut (H x)) (he:e=x∨H e=some (.own x)) (k:∀ b u,b≠e→h.get? b=some u→h'.get? b=some u) (heo:∃ u,h'.get? e=some u):Un fs ex H (upd H x o) h h':=by
 have hx:∀ b,H b=none→b≠x:=fun b n z=>by subst z; rw [n] at mu; exact mu
 have hb:∀ b,H b=none→b≠e:=fun b n z=>by
  subst z
  rcases he with r | r
  ·exact hx b n r
  ·rw [n] at r; cases r
 have hm:∀ b u,H b=some u→¬ Mut (some u)→b≠x:=fun b u q nm z=>by subst z; rw [q] at mu; exact nm mu
 refine ⟨fun b u q n _ _=>k b u (hb b n) q,fun b u q n _ _=>⟨u.slots,k b u (hb b n) q⟩,fun b u q n _=>by rw [Zj (hx b n)]; exact n,fun b u q _=>?_,
  fun b xs q=>by rw [Zj (hm b _ q fun z=>z)]; exact q,fun b u xs q=>by rw [Zj (hm b _ q fun z=>z)]; exact q,fun b ps q=>⟨#[],by rw [Zj (hm b _ q fun z=>z),q]; simp⟩⟩
 by_cases hbe:b=e
 ·subst hbe; exact heo
 ·exact ⟨u,k b u hbe q⟩
theorem Un.mono (u:Un fs ex H H1 h h1) (hs:∀ b∈fs,b∈fs') (hx:∀ b∈ex,b∈ex'):Un fs' ex' H H1 h h1 :=
 ⟨fun b ob q n hb he=>u.keep b ob q n (fun z=>hb (hs b z)) fun z=>he (hx b z),fun _ _ q n _ he=>u.any q n fun z=>he (hx _ z),fun b ob q n he=>u.free b ob q n fun z=>he (hx b z),fun b ob q he=>u.there b ob q fun z=>he (hx b z),u.tups,u.frzs,u.tbls⟩
end
def trk (h:Heap) (H:Hp):List Addr:=(List.range h.objs.size).filter fun a=>(H a).isSome
def ZgY (h:Heap) (H:Hp):Heap:=PySem.W.hideAll h (trk h H)
theorem Zfv (h:Heap) (H:Hp):(ZgY h H).objs.size=h.objs.size:=PySem.W.hideAll_size _ _
theorem ZgX {h:Heap} {H:Hp} {b:Addr} {o:Obj} (e:h.get? b=some o) (n:H b=none):(ZgY h H).get? b=some o :=
 PySem.W.hideAll_get _ e fun hm=>by
  have q:(H b).isSome=true:=(List.mem_filter.mp hm).2
  rw [n] at q; simp at q
theorem Zil {h:Heap} {H:Hp} {b:Addr} {o:Obj} (e:(ZgY h H).get? b=some o):h.get? b=some o∧H b=none:=by
 have e':h.get? b=some o:=PySem.W.of_hideAll (trk h H) e
 refine ⟨e',?_⟩
 cases q:H b with
 | none=>rfl
 | some x =>
  have hm:b∈trk h H:=List.mem_filter.mpr ⟨List.mem_range.mpr (Heap.lt_size e'),by simp [q]⟩
  have z:(ZgY h H).get? b=none:=PySem.W.hideAll_none (trk h H) hm
  rw [z] at e; cases e
def ZiT (g h:Heap) (L:Addr):List (Addr × Obj):=(List.range h.objs.size).filterMap fun a=>if a=L∨(g.get? a).isSome=true then none else (h.get? a).map fun o=>(a,o)
def rest (g h:Heap) (L d:Addr):List (Addr × Obj):=(ZiT g h L).filter fun p=>decide (p.1≠d)
structure Mod (K:PySem.W.Frag) (mg:Str→Option Value) (base:Heap):Prop where
 kin:K.In base
 glob:base.Ns mainGlobals mg
 blt:∃ mb,base.Ns builtinsNs mb∧∀ x:Str,x≠"__name__"→mb x=bootBuiltins x
 nolimit:base.NoLimit
structure Cx where
 prog:Program
 w:World
 K:PySem.W.Frag
 mg:Str→Option Value
 base:Heap
 A:Around
 N:List Str
 s₀:Shared
 H₀:Hp
 env:Env
 outer:List Env
 stack:List Env
 ex:List Addr
 fn:Str→Bool
 calm:Bool
 pn:List (Addr × Obj)
 xe:Value→Shared→Prop
def frs (l:List Env):List Addr:=l.filterMap (·.frame)
abbrev Cx.fs (X:Cx):List Addr:=frs X.outer
def Vis (sc:Scope) (x:Str):Prop:=sc.names.lookup x=some .local∨sc.names.lookup x=some .cell∨sc.names.lookup x=some .free
def Loc (sc:Scope) (x:Str):Prop:=sc.names.lookup x=some .local∨sc.names.lookup x=some .cell
def ZlX (env:Env) (h:Heap) (m:Str→Option Value) (x:Str) (u:Value):Prop :=
 (env.kindOf x=some .local∧m x=some u)∨((env.kindOf x=some .cell∨env.kindOf x=some .free)∧∃ c,env.cells.lookup x=some c∧h.IsCell c (some u))
structure Cx.Ok (X:Cx):Prop where
 mod:Mod X.K X.mg X.base
 kind:X.env.scope.kind = .function
 glob:X.env.globals=mainGlobals
 blt:X.env.builtins=builtinsNs
 above:X.s₀.heap.objs.size≤X.env.locals
 inj:∀ x y c,X.env.cells.lookup x=some c→X.env.cells.lookup y=some c→x=y
 has:∀ x,(X.env.kindOf x=some .cell∨X.env.kindOf x=some .free)→∃ c,X.env.cells.lookup x=some c
 cab:∀ x c,X.fn x=true→X.env.cells.lookup x=some c→X.s₀.heap.objs.size≤c
 hd:X.calm=true→X.A.handled=none
 frames:X.A.frames=some X.stack
 stk:X.stack=X.outer∨(X.stack=X.env :: X.outer∧X.env.frame=some X.env.locals)
 exf:∀ b∈X.ex,b≠X.env.locals∧∀ x c,X.env.cells.lookup x=some c→c≠b
 bs:∀ b o,X.base.get? b=some o→X.s₀.heap.get? b=some o∧X.H₀ b=none
 bsz:X.base.objs.size≤X.s₀.heap.objs.size
 noex:∀ b o,X.base.get? b=some o→b∉X.ex
 exfs:∀ b∈X.ex,b∉X.fs
 funs:X.s₀.heap.FunFrames X.base X.outer
 frf:∀ b∈X.fs,X.H₀ b=none
structure Inv (X:Cx) (pins:List (Addr × Obj)) (σ:List (Option V)) (H:Hp) (s:Shared):Prop where
 ok:X.Ok
 os:s.os=X.s₀.os
 bare:AllBare s.gens
 base:Un X.fs X.ex X.H₀ H X.s₀.heap s.heap
 loc:∃ m,s.heap.Ns X.env.locals m∧∀ (i:Nat) (x:Str) (v:V),X.N[i]?=some x→σ[i]?=some (some v)→Vis X.env.scope x→∃ u,RelV v u∧ZlX X.env s.heap m x u
 cell:∀ x c,X.env.cells.lookup x=some c→∃ v,s.heap.IsCell c v
 free:H X.env.locals=none
 freeC:∀ x c,X.env.cells.lookup x=some c→H c=none
 pin:∀ p∈X.pn ++ pins,s.heap.get? p.1=some p.2∧H p.1=none∧p.1≠X.env.locals∧p.1∉X.fs∧∀ v,p.2.data≠.cell v
 hok:HOk X.prog X.w H s.heap
 len:σ.length=X.N.length
section
variable {X:Cx} {pins:List (Addr × Obj)} {σ:List (Option V)} {H H':Hp} {s:Shared} {h':Heap}
theorem Cx.Ok.nofr (ok:X.Ok) {b:Addr} {o:Obj} (e:X.base.get? b=some o):b∉X.fs:=fun hb=>by
 have:=(ok.funs.mem hb).1
 rw [e] at this; cases this
theorem Inv.bs (I:Inv X pins σ H s):∀ b o,X.base.get? b=some o→s.heap.get? b=some o∧H b=none:=fun b o e =>
 ⟨I.base.keep b o (I.ok.bs b o e).1 (I.ok.bs b o e).2 (I.ok.nofr e) (I.ok.noex b o e),I.base.free b o (I.ok.bs b o e).1 (I.ok.bs b o e).2 (I.ok.noex b o e)⟩
theorem Inv.bk (I:Inv X pins σ H s):∀ b o,X.base.get? b=some o→s.heap.get? b=some o:=fun b o e=>(I.bs b o e).1
theorem Inv.mod (I:Inv X pins σ H s):Mod X.K X.mg X.base:=I.ok.mod
theorem Inv.kIn (I:Inv X pins σ H s):X.K.In s.heap:=I.ok.mod.kin.keeps I.bk
theorem Inv.nolimit (I:Inv X pins σ H s):s.heap.NoLimit:=I.ok.mod.nolimit.keeps I.bk
theorem Inv.lt (I:Inv X pins σ H s):X.env.locals < s.heap.objs.size:=let ⟨_,hn,_⟩:=I.loc; hn.lt
theorem Inv.sz (I:Inv X pins σ H s):X.s₀.heap.objs.size≤s.heap.objs.size:=Nat.le_trans I.ok.above (Nat.le_of_lt I.lt)
theorem Inv.nofs (I:Inv X pins σ H s) {a:Addr} (h:s.heap.objs.size≤a):a∉X.fs:=fun hb=>by
 obtain ⟨_,o,ho,_⟩:=I.ok.funs.mem hb
 exact absurd (Nat.lt_of_lt_of_le (Heap.lt_size ho) (Nat.le_trans I.sz h)) (Nat.lt_irrefl _)
theorem Inv.cne (I:Inv X pins σ H s):∀ x c,X.env.cells.lookup x=some c→c≠X.env.locals:=fun x c e z=>by
 obtain ⟨v,o,ho,hd⟩:=I.cell x c e
 obtain ⟨m,⟨o',es,ep,ho',hd',_⟩,_⟩:=I.loc
 rw [z,ho'] at ho; cases ho; rw [hd'] at hd; cases hd
theorem Inv.funs (I:Inv X pins σ H s):s.heap.FunFrames X.base X.outer:=by
 have all:∀ (l:List Env),(∀ b∈frs l,b∈X.fs)→X.s₀.heap.FunFrames X.base l→s.heap.FunFrames X.base l:=by
  intro l
  induction l with
  | nil=>intro _ _; trivial
  | cons env r ih =>
   intro hs hl
   obtain ⟨hk,⟨L,o,hf,hn,ho,hd⟩,hr⟩:=hl
   have hL:L∈X.fs:=hs L (by unfold frs; rw [List.filterMap_cons,hf]; exact List.mem_cons_self)
   obtain ⟨sl,e⟩:=I.base.slot L o ho (I.ok.frf L hL) hL fun z=>I.ok.exfs L z hL
   exact ⟨hk,⟨L,_,hf,hn,e,hd⟩,ih (fun b hb=>hs b (by unfold frs; rw [List.filterMap_cons,hf]; exact List.mem_cons_of_mem _ hb)) hr⟩
 exact all X.outer (fun _ hb=>hb) I.ok.funs
theorem Inv.stack (I:Inv X pins σ H s):s.heap.FunFrames X.base X.stack:=by
 rcases I.ok.stk with e | ⟨e,hf⟩
 ·rw [e]; exact I.funs
 ·rw [e]
  obtain ⟨m,hn,_⟩:=I.loc
  refine .cons (by rw [I.ok.kind]; decide) hf hn ?_ I.funs
  exact Heap.get?_none_of_le (Nat.le_trans I.ok.bsz I.ok.above)
theorem Inv.stkSub (I:Inv X pins σ H s):∀ b∈frs X.stack,b∈X.env.locals :: X.fs:=fun b hb=>by
 rcases I.ok.stk with e | ⟨e,hf⟩
 ·rw [e] at hb; exact List.mem_cons_of_mem _ hb
 ·rw [e] at hb
  unfold frs at hb
  rw [List.filterMap_cons,hf] at hb
  exact hb
theorem Inv.stkFree (I:Inv X pins σ H s):∀ b∈frs X.stack,H b=none:=fun b hb=>by
 rcases List.mem_cons.mp (I.stkSub b hb) with e | hb
 ·rw [e]; exact I.free
 ·obtain ⟨_,o,ho,_⟩:=I.ok.funs.mem hb
  exact I.base.free b o ho (I.ok.frf b hb) fun z=>I.ok.exfs b z hb
theorem Inv.step {g':Array GenState} {t':Nat} {d':Drawn} {ch:List Addr} (I:Inv X pins σ H s)
  (hch:∀ b∈ch,(b∈X.ex∨X.s₀.heap.objs.size≤b)∧b≠X.env.locals∧(∀ x c,X.env.cells.lookup x=some c→c≠b)∧∀ p∈X.pn ++ pins,p.1≠b)
  (keep:∀ b o,b≠X.env.locals→b∉X.fs→b∉ch→s.heap.get? b=some o→H b=none→h'.get? b=some o)
  (slot:∀ b o,b≠X.env.locals→b∈X.fs→b∉ch→s.heap.get? b=some o→H b=none→∃ sl,h'.get? b=some { o with slots:=sl }) (free:∀ b o,b∉ch→s.heap.get? b=some o→H b=none→H' b=none)
  (there:∀ b o,b∉ch→s.heap.get? b=some o→∃ o',h'.get? b=some o')
  (tups:∀ b xs,H b=some (.tup xs)→H' b=some (.tup xs)) (frzs:∀ b o u,H b=some (.frz o u)→H' b=some (.frz o u)) (tbls:∀ b ps,H b=some (.tbl ps)→∃ more,H' b=some (.tbl (ps ++ more)))
  (ns:∀ m,s.heap.Ns X.env.locals m→h'.Ns X.env.locals m) (hok:HOk X.prog X.w H' h') (hg:AllBare g') :
  Inv X pins σ H' { s with heap:=h',gens:=g',drawn:=d',toks:=t' }:=by
 have neL:∀ b o,X.s₀.heap.get? b=some o→b≠X.env.locals:=fun b o e=>Nat.ne_of_lt (Nat.lt_of_lt_of_le (Heap.lt_size e) I.ok.above)
 have neC:∀ b o,X.s₀.heap.get? b=some o→b∉X.ex→b∉ch:=fun b o e hx hb=>by
  rcases (hch b hb).1 with z | z
  ·exact hx z
  ·exact absurd (Nat.lt_of_lt_of_le (Heap.lt_size e) z) (Nat.lt_irrefl _)
 have cellK:∀ x c,X.env.cells.lookup x=some c→∀ v,s.heap.IsCell c v→h'.IsCell c v:=fun x c e v ⟨o,ho,hd⟩=>by
  have nch:c∉ch:=fun z=>(hch c z).2.2.1 x c e rfl
  by_cases hc:c∈X.fs
  ·obtain ⟨sl,q⟩:=slot c o (I.cne x c e) hc nch ho (I.freeC x c e)
   exact ⟨_,q,hd⟩
  ·exact ⟨o,keep c o (I.cne x c e) hc nch ho (I.freeC x c e),hd⟩
 refine ⟨I.ok,I.os,hg,⟨fun b o e n hb hx=>?_,fun b o e n hb hx=>?_,fun b o e n hx=>?_,fun b o e hx=>?_,fun b xs e=>tups b xs (I.base.tups b xs e),fun b o xs e=>frzs b o xs (I.base.frzs b o xs e),fun b ps e=>?_⟩,?_,fun x c e=>?_,?_,fun x c e=>?_,fun p hp=>?_,hok,I.len⟩
 ·exact keep b o (neL b o e) hb (neC b o e hx) (I.base.keep b o e n hb hx) (I.base.free b o e n hx)
 ·obtain ⟨sl,e1⟩:=I.base.slot b o e n hb hx
  obtain ⟨sl',e2⟩:=slot b _ (neL b o e) hb (neC b o e hx) e1 (I.base.free b o e n hx)
  exact ⟨sl',e2⟩
 ·obtain ⟨o',e1⟩:=I.base.there b o e hx
  exact free b o' (neC b o e hx) e1 (I.base.free b o e n hx)
 ·obtain ⟨o',e1⟩:=I.base.there b o e hx
  exact there b o' (neC b o e hx) e1
 ·obtain ⟨m1,e1⟩:=I.base.tbls b ps e
  obtain ⟨m2,e2⟩:=tbls b _ e1
  exact ⟨m1 ++ m2,by rw [e2,Array.append_assoc]⟩
 ·obtain ⟨m,hn,hl⟩:=I.loc
  refine ⟨m,ns m hn,fun i x v e1 e2 e3=>?_⟩
  obtain ⟨u,r,l⟩:=hl i x v e1 e2 e3
  refine ⟨u,r,?_⟩
  rcases l with l | ⟨k,c,e,z⟩
  ·exact .inl l
  ·exact .inr ⟨k,c,e,cellK x c e _ z⟩
 ·obtain ⟨v,z⟩:=I.cell x c e
  exact ⟨v,cellK x c e v z⟩
 ·obtain ⟨m,⟨o,_,_,ho,_⟩,_⟩:=I.loc
  exact free _ o (fun z=>(hch _ z).2.1 rfl) ho I.free
 ·obtain ⟨v,o,ho,hd⟩:=I.cell x c e
  exact free c o (fun z=>(hch c z).2.2.1 x c e rfl) ho (I.freeC x c e)
 ·obtain ⟨e,n,ne,nf,d⟩:=I.pin p hp
  have nch:p.1∉ch:=fun z=>(hch p.1 z).2.2.2 p hp rfl
  exact ⟨keep p.1 p.2 ne nf nch e n,free p.1 p.2 nch e n,ne,nf,d⟩
theorem Inv.un {t':Nat} (I:Inv X pins σ H s) (u:Un X.fs [] H H' s.heap h') (hok:HOk X.prog X.w H' h'):Inv X pins σ H' { s with heap:=h',toks:=t' }:=by
 obtain ⟨m,⟨o,es,ep,ho,r⟩,_⟩:=id I.loc
 obtain ⟨sl,hL⟩:=u.any ho I.free (by simp)
 exact I.step (g':=s.gens) (d':=s.drawn) (ch:=[]) (fun _ z=>nomatch z) (fun b o _ hb _ e n=>u.keep b o e n hb (by simp)) (fun b o _ hb _ e n=>u.slot b o e n hb (by simp)) (fun b o _ e n=>u.free b o e n (by simp)) (fun b o _ e=>u.there b o e (by simp)) u.tups u.frzs u.tbls (fun m' hm=>by
  obtain ⟨o',es',ep',ho',r'⟩:=hm
  rw [ho] at ho'; cases ho'
  exact ⟨_,es',ep',hL,r'⟩) hok I.bare
theorem Inv.call {g':Array GenState} {t':Nat} {d':Drawn} {ch:List Addr} (I:Inv X pins σ H s) (u:Un (frs X.stack) ch H H' s.heap h') (hok:HOk X.prog X.w H' h') (hg:AllBare g')
  (hch:∀ b∈ch,(b∈X.ex∨X.s₀.heap.objs.size≤b)∧b≠X.env.locals∧(∀ x c,X.env.cells.lookup x=some c→c≠b)∧∀ p∈X.pn ++ pins,p.1≠b) :
  Inv X pins σ H' { s with heap:=h',gens:=g',drawn:=d',toks:=t' }:=by
 obtain ⟨m,⟨o,es,ep,ho,r⟩,_⟩:=id I.loc
 obtain ⟨sl,hL⟩:=u.any ho I.free fun z=>(hch _ z).2.1 rfl
 exact I.step (ch:=ch) hch (fun b o hL hb hc e n=>u.keep b o e n (fun z=>(List.mem_cons.mp (I.stkSub b z)).elim hL hb) hc) (fun b o _ _ hc e n=>u.any e n hc) (fun b o hc e n=>u.free b o e n hc) (fun b o hc e=>u.there b o e hc) u.tups u.frzs u.tbls (fun m' hm=>by
  obtain ⟨o',es',ep',ho',r'⟩:=hm
  rw [ho] at ho'; cases ho'
  exact ⟨_,es',ep',hL,r'⟩) hok hg
theorem Inv.turned {t':Nat} {it:Addr} (I:Inv X pins σ H s) (k:∀ b o,b≠it→s.heap.get? b=some o→h'.get? b=some o) (hn:H it=none) (hL:it≠X.env.locals)
  (h1:it∈X.ex∨X.s₀.heap.objs.size≤it) (h2:∀ x c,X.env.cells.lookup x=some c→c≠it) (h3:∀ p∈X.pn ++ pins,p.1≠it):Inv X pins σ H { s with heap:=h',toks:=t' }:=by
 have nit:∀ b u,H b=some u→b≠it:=fun b u e z=>by rw [z,hn] at e; cases e
 refine I.step (g':=s.gens) (d':=s.drawn) (ch:=[it]) (fun b hb=>?_) (fun b o _ _ hc e _=>k b o (fun z=>hc (by simp [z])) e) (fun b o _ _ hc e _=>⟨o.slots,k b o (fun z=>hc (by simp [z])) e⟩) (fun _ _ _ _ n=>n)
  (fun b o hc e=>⟨o,k b o (fun z=>hc (by simp [z])) e⟩) (fun _ _ e=>e) (fun _ _ _ e=>e) (fun b ps e=>⟨#[],by rw [e]; simp⟩) (fun m hm=>?_) (fun b u e=>?_) I.bare
 ·have e:b=it:=by simpa using hb
  subst e
  exact ⟨h1,hL,h2,h3⟩
 ·obtain ⟨o,es,ep,ho,r⟩:=hm
  exact ⟨o,es,ep,k _ o (Ne.symm hL) ho,r⟩
 ·refine (I.hok b u e).stay (fun c v hc q=>k c v ?_ q) (fun _ q=>q) fun _ _ q=>q
  rcases hc with z | z
  ·rw [z]; exact nit b u e
  ·exact nit c _ z
theorem Inv.tok (I:Inv X pins σ H s) (t:Nat):Inv X pins σ H { s with toks:=t }:=I.un (h':=s.heap) (t':=t) Un.refl I.hok
theorem Inv.kept {t':Nat} (I:Inv X pins σ H s) (k:∀ b u,s.heap.get? b=some u→h'.get? b=some u):Inv X pins σ H { s with heap:=h',toks:=t' }:=I.un (Un.kept k) (I.hok.kept k)
theorem Inv.laid {a:Addr} {o:HO} {t':Nat} (I:Inv X pins σ H s) (k:∀ b u,s.heap.get? b=some u→h'.get? b=some u) (hp:s.heap.objs.size≤a) (new:ObjOk X.prog X.w (upd H a o) h' a o) :
  Inv X pins σ (upd H a o) { s with heap:=h',toks:=t' }:=I.un (Un.laid k hp (I.hok.fresh hp)) (I.hok.laid k hp new)
theorem Inv.write {x e:Addr} {o:HO} {t':Nat} (I:Inv X pins σ H s) (mu:Mut (H x)) (he:e=x∨H e=some (.own x)) (k:∀ b u,b≠e→s.heap.get? b=some u→h'.get? b=some u) (heo:∃ u,h'.get? e=some u)
  (new:ObjOk X.prog X.w (upd H x o) h' x o):Inv X pins σ (upd H x o) { s with heap:=h',toks:=t' }:=I.un (Un.write mu he k heo) (I.hok.write mu he k heo new)
theorem Inv.pins_of {pins':List (Addr × Obj)} (I:Inv X pins σ H s) (h:∀ p∈pins',s.heap.get? p.1=some p.2∧H p.1=none∧p.1≠X.env.locals∧p.1∉X.fs∧∀ v,p.2.data≠.cell v):Inv X pins' σ H s :=
 ⟨I.ok,I.os,I.bare,I.base,I.loc,I.cell,I.free,I.freeC,fun p hp=>(List.mem_append.mp hp).elim (fun z=>I.pin p (List.mem_append_left _ z)) (h p),I.hok,I.len⟩
theorem ZcX {N:List Str} (hN:N.Nodup) {i j:Nat} {x:Str} (a:N[i]?=some x) (b:N[j]?=some x):i=j:=by
 obtain ⟨h1,e1⟩:=List.getElem?_eq_some_iff.mp a
 obtain ⟨h2,e2⟩:=List.getElem?_eq_some_iff.mp b
 exact (List.getElem_inj hN).mp (e1.trans e2.symm)
theorem ZaU {M:Model} {A:Around} {E:Value→Shared→Prop} {i:Nat} {x:Str} {v:V} {u:Value} {Q:Unit→Shared→Prop} (I:Inv X pins σ H s) (hN:X.N.Nodup) (hi:X.N[i]?=some x) (hx:Loc X.env.scope x) (r:RelV v u)
  (h:∀ s',Inv X pins (σ.set i (some v)) H s'→(∃ a,Heap.SameBut a s.heap s'.heap∧(a=X.env.locals∨X.env.cells.lookup x=some a))→Q () s') (hf:X.fn x=true∨X.env.scope.names.lookup x=some .local:=by first | exact .inl rfl | exact .inr rfl | assumption):wpAny M A (storeName X.env x u) Q E s:=by
 obtain ⟨m,hn,hl⟩:=id I.loc
 have hcls:(X.env.scope.kind == .class || (X.env.scope.kind == .module && X.env.locals != X.env.globals))=false:=by rw [I.ok.kind]; rfl
 have hiσ:i < σ.length:=by rw [I.len]; exact (List.getElem?_eq_some_iff.mp hi).1
 have cne:=I.cne
 have tracked:∀ {a:Addr} {h':Heap},(∃ o,s.heap.get? a=some o∧H a=none)→Heap.SameBut a s.heap h'→HOk X.prog X.w H h':=fun {a h'} ha hs b ob e=>by
  obtain ⟨_,_,hfree⟩:=ha
  refine (I.hok b ob e).stay (fun c w' hc q=>(hs.2 c ?_).trans q) (fun _ q=>q) fun _ _ q=>q
  rintro rfl
  rcases hc with rfl | hc
  ·rw [hfree] at e; cases e
  ·rw [hfree] at hc; cases hc
 rcases hx with hk | hk
 ·refine wpAny_storeName_local hk hn (fun h' hn' hs=>?_) hcls
  obtain ⟨oL,_,_,hoL,_⟩:=id hn
  refine h _ ⟨I.ok,I.os,I.bare,⟨fun b o e n hb hx=>?_,fun b o e n hb hx=>?_,I.base.free,fun b o e hx=>?_,I.base.tups,I.base.frzs,I.base.tbls⟩,⟨_,hn',fun j y v' e1 e2 e3=>?_⟩,fun y c e=>?_,I.free,I.freeC,fun p hp=>?_,tracked ⟨oL,hoL,I.free⟩ hs,by simpa using I.len⟩ ⟨_,hs,.inl rfl⟩
  ·exact (hs.2 b (Nat.ne_of_lt (Nat.lt_of_lt_of_le (Heap.lt_size e) I.ok.above))).trans (I.base.keep b o e n hb hx)
  ·obtain ⟨sl,e1⟩:=I.base.slot b o e n hb hx
   exact ⟨sl,(hs.2 b (Nat.ne_of_lt (Nat.lt_of_lt_of_le (Heap.lt_size e) I.ok.above))).trans e1⟩
  ·obtain ⟨o',e1⟩:=I.base.there b o e hx
   exact ⟨o',(hs.2 b (Nat.ne_of_lt (Nat.lt_of_lt_of_le (Heap.lt_size e) I.ok.above))).trans e1⟩
  ·by_cases hj:j=i
   ·subst hj
    rw [hi] at e1; cases e1
    rw [List.getElem?_set_self hiσ] at e2
    cases e2
    exact ⟨u,r,.inl ⟨hk,by simp⟩⟩
   ·rw [List.getElem?_set_ne (Ne.symm hj)] at e2
    obtain ⟨u',r',q⟩:=hl j y v' e1 e2 e3
    refine ⟨u',r',?_⟩
    rcases q with ⟨k,e⟩ | ⟨k,c,e,z⟩
    ·refine .inl ⟨k,?_⟩
     have:y≠x:=fun e=>hj (ZcX hN e1 (e ▸ hi))
     simp [this,e]
    ·exact .inr ⟨k,c,e,z.sameBut hs (cne y c e)⟩
  ·obtain ⟨w',z⟩:=I.cell y c e
   exact ⟨w',z.sameBut hs (cne y c e)⟩
  ·obtain ⟨e,n,ne,nf,d⟩:=I.pin p hp
   exact ⟨(hs.2 p.1 ne).trans e,n,ne,nf,d⟩
 ·have hfn:X.fn x=true:=by
   rcases hf with z | z
   ·exact z
   ·rw [z] at hk; cases hk
  obtain ⟨c,hc⟩:=I.ok.has x (.inl hk)
  obtain ⟨w',z⟩:=I.cell x c hc
  refine wpAny_storeName_cell I.ok.kind hk hc z (fun h' hc' hs=>?_)
  obtain ⟨oc,hoc,hocd⟩:=id z
  refine h { s with heap:=h' } ⟨I.ok,I.os,I.bare,⟨fun b o e n hb hx=>?_,fun b o e n hb hx=>?_,I.base.free,fun b o e hx=>?_,I.base.tups,I.base.frzs,I.base.tbls⟩,⟨m,hn.sameBut hs (Ne.symm (cne x c hc)),fun j y v' e1 e2 e3=>?_⟩,fun y c' e=>?_,I.free,I.freeC,fun p hp=>?_,tracked ⟨oc,hoc,I.freeC x c hc⟩ hs,by simpa using I.len⟩ ⟨c,hs,.inr hc⟩
  ·exact (hs.2 b (Nat.ne_of_lt (Nat.lt_of_lt_of_le (Heap.lt_size e) (I.ok.cab x c hfn hc)))).trans (I.base.keep b o e n hb hx)
  ·obtain ⟨sl,e1⟩:=I.base.slot b o e n hb hx
   exact ⟨sl,(hs.2 b (Nat.ne_of_lt (Nat.lt_of_lt_of_le (Heap.lt_size e) (I.ok.cab x c hfn hc)))).trans e1⟩
  ·obtain ⟨o',e1⟩:=I.base.there b o e hx
   exact ⟨o',(hs.2 b (Nat.ne_of_lt (Nat.lt_of_lt_of_le (Heap.lt_size e) (I.ok.cab x c hfn hc)))).trans e1⟩
  ·by_cases hj:j=i
   ·subst hj
    rw [hi] at e1; cases e1
    rw [List.getElem?_set_self hiσ] at e2
    cases e2
    exact ⟨u,r,.inr ⟨.inl hk,c,hc,hc'⟩⟩
   ·rw [List.getElem?_set_ne (Ne.symm hj)] at e2
    obtain ⟨u',r',q⟩:=hl j y v' e1 e2 e3
    refine ⟨u',r',?_⟩
    rcases q with q | ⟨k,c',e,z'⟩
    ·exact .inl q
    ·refine .inr ⟨k,c',e,z'.sameBut hs ?_⟩
     rintro rfl
     exact hj (ZcX hN e1 (I.ok.inj _ _ _ e hc ▸ hi))
  ·by_cases hcc:c'=c
   ·subst hcc; exact ⟨_,hc'⟩
   ·obtain ⟨w2,z2⟩:=I.cell y c' e
    exact ⟨w2,z2.sameBut hs hcc⟩
  ·obtain ⟨e,n,ne,nf,d⟩:=I.pin p hp
   refine ⟨(hs.2 p.1 ?_).trans e,n,ne,nf,d⟩
   intro q
   rw [q,hoc] at e
   have q':oc=p.2:=Option.some.inj e
   exact d w' (by rw [← q']; exact hocd)
theorem ZcK {M:Model} {A:Around} {E:Value→Shared→Prop} {i:Nat} {x:Str} {v:V} {u:Value} {Q:Unit→Shared→Prop} (I:Inv X pins σ H s) (hN:X.N.Nodup) (hi:X.N[i]?=some x) (hx:Loc X.env.scope x) (r:RelV v u)
  (h:∀ s',Inv X pins (σ.set i (some v)) H s'→Q () s') (hf:X.fn x=true∨X.env.scope.names.lookup x=some .local:=by first | exact .inl rfl | exact .inr rfl | assumption):wpAny M A (storeName X.env x u) Q E s :=
 ZaU I hN hi hx r (fun s' I' _=>h s' I') hf
theorem Inv.call' {s':Shared} {ch:List Addr} (I:Inv X pins σ H s) (ho:s'.os=s.os) (u:Un (frs X.stack) ch H H' s.heap s'.heap) (hok:HOk X.prog X.w H' s'.heap) (hg:AllBare s'.gens)
  (hch:∀ b∈ch,(b∈X.ex∨X.s₀.heap.objs.size≤b)∧b≠X.env.locals∧(∀ x c,X.env.cells.lookup x=some c→c≠b)∧∀ p∈X.pn ++ pins,p.1≠b):Inv X pins σ H' s':=by
 obtain ⟨h',g',d',t',o'⟩:=s'
 have e:o'=s.os:=ho
 subst e
 exact I.call (g':=g') (t':=t') (d':=d') u hok hg hch
end
abbrev XK:=Value→Option Addr→Hp→Prop
abbrev St:=List (Option V)
abbrev VK:=V→Hp→Prop
abbrev TE:=St→Hp→VK→Prop
abbrev TT:=St→Hp→(Bool→Hp→Prop)→Prop
abbrev TA:=St→Hp→(List V→Hp→Prop)→Prop
structure ZfX where
 nx:St→Hp→Prop
 rt:VK
 bk:St→Hp→Prop:=fun _ _=>False
 ct:St→Hp→Prop:=fun _ _=>False
abbrev TS:=ZfX→St→Hp→Prop
def EP (X:Cx) (pins:List (Addr × Obj)) (σ:St) (Q:VK) (u:Value) (s':Shared):Prop:=∃ v H',Inv X pins σ H' s'∧RelV v u∧Q v H'
def TP (X:Cx) (pins:List (Addr × Obj)) (σ:St) (Q:Bool→Hp→Prop) (b:Bool) (s':Shared):Prop:=∃ H',Inv X pins σ H' s'∧Q b H'
def AP (X:Cx) (pins:List (Addr × Obj)) (σ:St) (Q:List V→Hp→Prop) (us:List Value) (s':Shared):Prop:=∃ vs H',Inv X pins σ H' s'∧Vals vs us∧Q vs H'
def SP (X:Cx) (pins:List (Addr × Obj)) (D:ZfX) (f:Flow) (s':Shared):Prop :=
 match f with
 | .next=>∃ σ' H',Inv X pins σ' H' s'∧D.nx σ' H'
 | .brk=>∃ σ' H',Inv X pins σ' H' s'∧D.bk σ' H'
 | .cont=>∃ σ' H',Inv X pins σ' H' s'∧D.ct σ' H'
 | .ret u=>∃ v σ' H',Inv X pins σ' H' s'∧RelV v u∧D.rt v H'
def PE (X:Cx) (e:Expr) (t:TE):Prop :=
 ∀ (pins:List (Addr × Obj)) (s:Shared) (σ:St) (H:Hp) (Q:VK),Inv X pins σ H s→t σ H Q→wpAny (model X.prog X.w) X.A (eval e X.env) (EP X pins σ Q) X.xe s
def PT (X:Cx) (e:Expr) (t:TT):Prop :=
 ∀ (pins:List (Addr × Obj)) (s:Shared) (σ:St) (H:Hp) (Q:Bool→Hp→Prop),Inv X pins σ H s→t σ H Q→wpAny (model X.prog X.w) X.A (isTrue e X.env (eval e X.env)) (TP X pins σ Q) X.xe s
def PW (X:Cx) (e:Expr) (t:TT):Prop :=
 ∀ (whole:Sem Value) (pins:List (Addr × Obj)) (s:Shared) (σ:St) (H:Hp) (Q:Bool→Hp→Prop),Inv X pins σ H s→t σ H Q→wpAny (model X.prog X.w) X.A (isTrue e X.env whole) (TP X pins σ Q) X.xe s
theorem PW.pt {X:Cx} {e:Expr} {t:TT} (h:PW X e t):PT X e t:=h _
def PA (X:Cx) (es:List Expr) (t:TA):Prop :=
 ∀ (pos:Pos) (pins:List (Addr × Obj)) (s:Shared) (σ:St) (H:Hp) (Q:List V→Hp→Prop),Inv X pins σ H s→t σ H Q→wpAny (model X.prog X.w) X.A (spliced (backTo pos (starEach es X.env))) (AP X pins σ Q) X.xe s
def PS (X:Cx) (st:Stmt) (t:TS):Prop :=
 ∀ (pins:List (Addr × Obj)) (s:Shared) (σ:St) (H:Hp) (D:ZfX),Inv X pins σ H s→t D σ H→wpAny (model X.prog X.w) X.A (exec st X.env) (SP X pins D) X.xe s
def PSs (X:Cx) (st:List Stmt) (t:TS):Prop :=
 ∀ (pins:List (Addr × Obj)) (s:Shared) (σ:St) (H:Hp) (D:ZfX),Inv X pins σ H s→t D σ H→wpAny (model X.prog X.w) X.A (execs st X.env) (SP X pins D) X.xe s
theorem thn {α:Type} {t:Sem α} {Q Q':α→Shared→Prop} {M:Model} {A:Around} {E:Value→Shared→Prop} {s:Shared} (h:wpAny M A t Q E s) (hQ:∀ a s,Q a s→Q' a s):wpAny M A t Q' E s:=wpAny_mono h hQ fun _ _ x=>x
section
variable {X:Cx}
theorem bin {a b:Expr} {ta tb:TE} (ha:PE X a ta) (hb:PE X b tb) {pins:List (Addr × Obj)} {s:Shared} {σ:St} {H:Hp} {R:V→V→Hp→Prop} (I:Inv X pins σ H s) (h:ta σ H fun x H1=>tb σ H1 fun y H2=>R x y H2)
  {α:Type} {Q:α→Shared→Prop} {f:Value→Value→Sem α}
  (hf:∀ v u s2 x y H2,Inv X pins σ H2 s2→RelV x v→RelV y u→R x y H2→wpAny (model X.prog X.w) X.A (f v u) Q X.xe s2) :
  wpAny (model X.prog X.w) X.A (eval a X.env) (fun v s₁=>wpAny (model X.prog X.w) X.A (eval b X.env) (fun u s₂=>wpAny (model X.prog X.w) X.A (f v u) Q X.xe s₂) X.xe s₁) X.xe s:=by
 refine thn (ha pins s σ H _ I h) fun v s1 ⟨x,H1,I1,r1,q1⟩=>?_
 refine thn (hb pins s1 σ H1 _ I1 q1) fun u s2 ⟨y,H2,I2,r2,q2⟩=>?_
 exact hf v u s2 x y H2 I2 r1 r2 q2
def Zks (i:Nat):TE:=fun σ H Q=>∃ v,σ[i]?=some (some v)∧Q v H
def tC (v:V):TE:=fun _ H Q=>Q v H
theorem Zju {i:Nat} {x:Str} {pos:Pos} (hN:X.N[i]?=some x) (hv:Vis X.env.scope x) (hd:(x == ("__debug__" : Str))=false:=by decide) (hcd:(x == ("__classdict__" : Str))=false:=by decide):PE X (.Name x pos) (Zks i):=by
 intro pins s σ H Q I h
 obtain ⟨v,e,h⟩:=h
 obtain ⟨m,hn,hl⟩:=I.loc
 obtain ⟨u,r,l⟩:=hl i x v hN e hv
 have fin:EP X pins σ Q u s:=⟨v,H,I,r,h⟩
 rcases l with ⟨hk,hm⟩ | ⟨hk,c,hc,hcell⟩
 ·exact wpAny_Name (wpAny_loadName_local I.ok.kind hk hn hm fin) hd
 ·rcases hk with hk | hk
  ·exact wpAny_Name (wpAny_loadName_cell I.ok.kind hk hc hcell fin) hd
  ·exact wpAny_Name (wpAny_loadName_free I.ok.kind hk hc hcell fin hcd) hd
theorem Zi {i j pos}:PE X (.Constant (.int i) j pos) (tC (.int i)):=fun _ _ _ H _ I h=>wpAny_Constant_int ⟨.int i,H,I.tok _,⟨_,rfl⟩,h⟩
theorem Za5 {b j pos}:PE X (.Constant (.bool b) j pos) (tC (.bl b)):=fun _ _ _ H _ I h=>Constant_bool ⟨.bl b,H,I,rfl,h⟩
theorem Za4 {j pos}:PE X (.Constant .none j pos) (tC .non):=fun _ _ _ H _ I h=>Constant_none ⟨.non,H,I,rfl,h⟩
theorem Xk {x j pos}:PE X (.Constant (.str x) j pos) (tC (.str x)):=fun _ _ _ H _ I h=>Calls.Constant_str ⟨.str x,H,I.tok _,⟨_,rfl⟩,h⟩
def Gl (X:Cx) (x:Str):Prop:=X.env.kindOf x=some .globalImplicit
theorem Zfl {E:Value→Shared→Prop} {pins:List (Addr × Obj)} {s:Shared} {σ:St} {H:Hp} {x:Str} {u:Value} {pos:Pos} {Q:Value→Shared→Prop} (I:Inv X pins σ H s) (hg:Gl X x) (hm:X.mg x=some u) (h:Q u s)
  (hd:(x == ("__debug__" : Str))=false:=by decide):wpAny (model X.prog X.w) X.A (eval (.Name x pos) X.env) Q E s :=
 Calls.Name_function_global I.ok.kind hg (Calls.loadGlobal_global (by rw [I.ok.glob]; exact I.mod.glob.keeps I.bk) hm h) hd
theorem Xp {E:Value→Shared→Prop} {pins:List (Addr × Obj)} {s:Shared} {σ:St} {H:Hp} {x:Str} {u:Value} {pos:Pos} {Q:Value→Shared→Prop} (I:Inv X pins σ H s) (hg:Gl X x) (hm:X.mg x=none) (hv:bootBuiltins x=some u) (h:Q u s)
  (hn:x≠"__name__":=by decide) (hd:(x == ("__debug__" : Str))=false:=by decide):wpAny (model X.prog X.w) X.A (eval (.Name x pos) X.env) Q E s:=by
 obtain ⟨mb,h1,h2⟩:=I.mod.blt
 exact Calls.Name_function_global I.ok.kind hg (Calls.loadGlobal_builtin (by rw [I.ok.glob]; exact I.mod.glob.keeps I.bk) hm (by rw [I.ok.blt]; exact h1.keeps I.bk) ((h2 x hn).trans hv) h) hd
theorem Zii {x:Str} {v:V} {u:Value} {pos:Pos} (hg:Gl X x) (hm:X.mg x=none) (hv:bootBuiltins x=some u) (r:RelV v u) (hn:x≠"__name__":=by decide) (hd:(x == ("__debug__" : Str))=false:=by decide):PE X (.Name x pos) (tC v) :=
 fun _ _ _ H _ I h=>Xp I hg hm hv ⟨v,H,I,r,h⟩ hn hd
variable {a b:Expr} {ta tb:TE} {pos:Pos}
def PC (X:Cx) (op:CmpOp) (a b:Expr) (t:TE):Prop :=
 ∀ (pins:List (Addr × Obj)) (s:Shared) (σ:St) (H:Hp) (Q:VK),Inv X pins σ H s→t σ H Q →
  wpAny (model X.prog X.w) X.A (eval a X.env) (fun v s₁=>wpAny (model X.prog X.w) X.A (eval b X.env) (fun u s₂=>wpAny (model X.prog X.w) X.A (compareOp op v u) (EP X pins σ Q) X.xe s₂) X.xe s₁) X.xe s
theorem ZgE (b:Expr) {op:CmpOp} (h:op≠.In) (h2:op≠.NotIn):behindInMarks op b=false:=by
 have e1:(op == CmpOp.In)=false:=by cases op <;> first | rfl | exact absurd rfl h
 have e2:(op == CmpOp.NotIn)=false:=by cases op <;> first | rfl | exact absurd rfl h2
 cases b <;> simp [behindInMarks,e1,e2]
def tB (t:TE):TT:=fun σ H Q=>t σ H fun x H1=>∃ c,x = .bl c∧Q c H1
theorem ZeQ {op:CmpOp} {t:TE} (h:PC X op a b t) (h1:behindInMarks op b=false:=by first | exact ZgE _ (by decide) (by decide) | rfl):PT X (.Compare a [op] [b] pos) (tB t):=by
 intro pins s σ H Q I hw
 refine wpAny_isTrue_Compare1 (thn (h pins s σ H _ I hw) fun v s1 h1=>thn h1 fun u s2 h2=>thn h2 fun c s3 ⟨x,H1,I1,r1,q1⟩=>?_) h1
 obtain ⟨d,rfl,q⟩:=q1
 cases r1
 exact wpAny_truthy_bool ⟨H1,I1,q⟩
theorem ZeP {e:Expr} {t:TE} (h:PE X e t) (he:∀ whole,isTrue e X.env whole=(do let v ← whole; standAt e.pos; holding [v] (truthy v)):=by intro _; rfl):PT X e (tB t):=by
 intro pins s σ H Q I hw
 refine isTrue_plain (thn (h pins s σ H _ I hw) fun v s1 ⟨x,H1,I1,r1,q1⟩=>?_) (he _)
 obtain ⟨d,rfl,q⟩:=q1
 cases r1
 exact wpAny_truthy_bool ⟨H1,I1,q⟩
variable {tA tB':TT} {rest:List Expr}
def ZlH (t u:TT):TT:=fun σ H Q=>t σ H fun c H1=>if c=true then u σ H1 Q else Q false H1
def tOr (t u:TT):TT:=fun σ H Q=>t σ H fun c H1=>if c=true then Q true H1 else u σ H1 Q
def Zlz (t:TT):TT:=fun σ H Q=>t σ H fun c H1=>Q (!c) H1
theorem Zb3 (ha:PT X a tA):PW X (.BoolOp .And [a] pos) tA:=by
 intro wh pins s σ H Q I h
 refine isTrue_and (thn (ha pins s σ H Q I h) fun c s1 e=>?_)
 cases c with
 | true=>exact isTrue_and_nil e
 | false=>exact e
theorem Zjp (ha:PT X a tA):PW X (.BoolOp .Or [a] pos) tA:=by
 intro wh pins s σ H Q I h
 refine isTrue_or (thn (ha pins s σ H Q I h) fun c s1 e=>?_)
 cases c with
 | false=>exact isTrue_or_nil e
 | true=>exact e
theorem ZeO (ha:PT X a tA) (hb:PW X (.BoolOp .And (b :: rest) pos) tB'):PW X (.BoolOp .And (a :: b :: rest) pos) (ZlH tA tB'):=by
 intro wh pins s σ H Q I h
 refine isTrue_and (thn (ha pins s σ H _ I h) fun c s1 ⟨H1,I1,q1⟩=>?_)
 cases c with
 | true=>exact hb wh pins s1 σ H1 Q I1 q1
 | false=>exact ⟨H1,I1,q1⟩
theorem ZkO (ha:PT X a tA) (hb:PW X (.BoolOp .Or (b :: rest) pos) tB'):PW X (.BoolOp .Or (a :: b :: rest) pos) (tOr tA tB'):=by
 intro wh pins s σ H Q I h
 refine isTrue_or (thn (ha pins s σ H _ I h) fun c s1 ⟨H1,I1,q1⟩=>?_)
 cases c with
 | true=>exact ⟨H1,I1,q1⟩
 | false=>exact hb wh pins s1 σ H1 Q I1 q1
theorem ZhB (ha:PT X a tA):PT X (.UnaryOp .Not a pos) (Zlz tA):=by
 intro pins s σ H Q I h
 exact isTrue_not (ha pins s σ H (fun c H1=>Q (!c) H1) I h)
def ZkF (ta tb:TE):TE:=fun σ H Q=>ta σ H fun x H1=>∃ c,x = .bl c∧if c=true then tb σ H1 Q else Q (.bl false) H1
def Zkw (ta:TE):TE:=fun σ H Q=>ta σ H fun x H1=>∃ c,x = .bl c∧Q (.bl (!c)) H1
theorem Zjw {op} {t:TE} (h:PE X a t):PE X (.BoolOp op [a] pos) t:=fun pins s σ H Q I hw=>BoolOp_one (h pins s σ H Q I hw)
theorem Zjz (ha:PE X a ta) (hb:PE X (.BoolOp .And (b :: rest) pos) tb):PE X (.BoolOp .And (a :: b :: rest) pos) (ZkF ta tb):=by
 intro pins s σ H Q I h
 refine BoolOp_and (thn (ha pins s σ H _ I h) fun v s1 ⟨x,H1,I1,r1,q1⟩=>?_)
 obtain ⟨c,rfl,q1⟩:=q1
 cases r1
 refine wpAny_truthy_bool ?_
 cases c with
 | true=>exact hb pins s1 σ H1 Q I1 q1
 | false=>exact ⟨.bl false,H1,I1,rfl,q1⟩
theorem Zjx (ha:PE X a ta):PE X (.UnaryOp .Not a pos) (Zkw ta):=by
 intro pins s σ H Q I h
 refine UnaryOp_ (thn (ha pins s σ H _ I h) fun v s1 ⟨x,H1,I1,r1,q1⟩=>?_)
 obtain ⟨c,rfl,q1⟩:=q1
 cases r1
 exact not_of (wpAny_truthy_bool ⟨.bl (!c),H1,I1,rfl,q1⟩)
end
def SqL (K:PySem.W.Frag) (H:Hp) (a:Addr) (xs:List V):Prop :=
 Rd H a (.lst xs) ∨
  ∃ (o:Obj) (its:Array Value) (n:Nat),K.lookup a=some o∧o.cls = .type "list"∧o.dict=none∧o.data = .seq its n∧its.size≤sizeLine∧Vals xs its.toList
def SqT (K:PySem.W.Frag) (H:Hp) (a:Addr) (xs:List V):Prop :=
 Rd H a (.tup xs) ∨
  ∃ (o:Obj) (its:Array Value) (n:Nat),K.lookup a=some o∧o.cls = .type "tuple"∧o.data = .seq its n∧its.size≤sizeLine∧Vals xs its.toList
def ZlT:Value→Option V
 | .none=>some .non
 | .bool b=>some (.bl b)
 | .int i _=>some (.int i)
 | .str x _=>some (.str x)
 | .bytes b _=>some (.byt b)
 | .float b _=>some (.flt b)
 | .ref a=>some (.ref a)
 | .type n=>some (.ty n)
 | _=>none
theorem RelV.abs {x:V} {u:Value} (r:RelV x u):ZlT u=some x:=by
 cases x with
 | non=>cases r; rfl
 | bl _=>cases r; rfl
 | int _=>obtain ⟨t,rfl⟩:=r; rfl
 | str _=>obtain ⟨t,rfl⟩:=r; rfl
 | byt _=>obtain ⟨t,rfl⟩:=r; rfl
 | flt _=>obtain ⟨t,rfl⟩:=r; rfl
 | ref _=>cases r; rfl
 | ty _=>cases r; rfl
theorem RelV.inj {x y:V} {u:Value} (r:RelV x u) (q:RelV y u):x=y:=Option.some.inj (r.abs.symm.trans q.abs)
theorem Vals.inj:∀ {xs ys:List V} {us:List Value},Vals xs us→Vals ys us→xs=ys
 | _,_,_,.nil,.nil=>rfl
 | _,_,_,.cons r t,.cons r' t'=>by rw [r.inj r',Vals.inj t t']
section
variable {X:Cx} {pins:List (Addr × Obj)} {σ:St} {H:Hp} {s:Shared} {a:Addr} {xs ys:List V}
theorem SqL.of {K:PySem.W.Frag} (h:H a=some (.lst xs)):SqL K H a xs:=.inl (.inl h)
theorem SqT.of {K:PySem.W.Frag} (h:H a=some (.tup xs)):SqT K H a xs:=.inl (.inl h)
theorem Inv.list (I:Inv X pins σ H s) (h:SqL X.K H a xs):∃ its:List Value,Vals xs its∧PlainL s.heap a its.toArray∧xs.length≤sizeLine:=by
 rcases h with h | ⟨o,its,n,hk,hc,hd,hs,hz,r⟩
 ·obtain ⟨z,its,n,r,e⟩:=h.ok I.hok
  exact ⟨its,r,⟨_,n,e,rfl,rfl,rfl⟩,z⟩
 ·refine ⟨its.toList,r,⟨o,n,I.kIn a o hk,hc,hd,by simpa using hs⟩,?_⟩
  have e:=r.length
  simp only [Array.length_toList] at e
  omega
theorem Inv.tuple (I:Inv X pins σ H s) (h:SqT X.K H a xs):∃ its:List Value,Vals xs its∧IsTup s.heap a its.toArray∧xs.length≤sizeLine:=by
 rcases h with h | ⟨o,its,n,hk,hc,hs,hz,r⟩
 ·obtain ⟨z,its,r,p,_⟩:=h.ok I.hok
  exact ⟨its,r,p,z⟩
 ·refine ⟨its.toList,r,⟨o,I.kIn a o hk,hc,n,by simpa using hs⟩,?_⟩
  have e:=r.length
  simp only [Array.length_toList] at e
  omega
theorem Inv.list_inj (I:Inv X pins σ H s) (h:SqL X.K H a xs) (h':SqL X.K H a ys):xs=ys:=by
 obtain ⟨its,r,⟨o,n,e,_,_,d⟩,_⟩:=I.list h
 obtain ⟨its',r',⟨o',n',e',_,_,d'⟩,_⟩:=I.list h'
 rw [e] at e'; cases e'
 rw [d] at d'
 injection d' with d1 _
 have:its=its':=by simpa using congrArg Array.toList d1
 subst this
 exact r.inj r'
theorem Inv.tuple_inj (I:Inv X pins σ H s) (h:SqT X.K H a xs) (h':SqT X.K H a ys):xs=ys:=by
 obtain ⟨its,r,⟨o,e,_,n,d⟩,_⟩:=I.tuple h
 obtain ⟨its',r',⟨o',e',_,n',d'⟩,_⟩:=I.tuple h'
 rw [e] at e'; cases e'
 rw [d] at d'
 injection d' with d1 _
 have:its=its':=by simpa using congrArg Array.toList d1
 subst this
 exact r.inj r'
end
abbrev Cx.wish (X:Cx) (E:Value→Shared→Prop):Cx:={ X with xe:=E }
abbrev Cx.nox (X:Cx):Cx:=X.wish fun _ _=>False
theorem Cx.Ok.wish {X:Cx} (ok:X.Ok) (E:Value→Shared→Prop):(X.wish E).Ok :=
 ⟨ok.mod,ok.kind,ok.glob,ok.blt,ok.above,ok.inj,ok.has,ok.cab,ok.hd,ok.frames,ok.stk,ok.exf,ok.bs,ok.bsz,ok.noex,ok.exfs,ok.funs,ok.frf⟩
theorem Cx.Ok.unwish {X:Cx} {E:Value→Shared→Prop} (ok:(X.wish E).Ok):X.Ok :=
 ⟨ok.mod,ok.kind,ok.glob,ok.blt,ok.above,ok.inj,ok.has,ok.cab,ok.hd,ok.frames,ok.stk,ok.exf,ok.bs,ok.bsz,ok.noex,ok.exfs,ok.funs,ok.frf⟩
section
variable {X:Cx} {pins:List (Addr × Obj)} {σ:St} {H:Hp} {s:Shared} {E:Value→Shared→Prop}
theorem Inv.wish (I:Inv X pins σ H s) (E:Value→Shared→Prop):Inv (X.wish E) pins σ H s:=⟨I.ok.wish E,I.os,I.bare,I.base,I.loc,I.cell,I.free,I.freeC,I.pin,I.hok,I.len⟩
theorem Inv.unwish (I:Inv (X.wish E) pins σ H s):Inv X pins σ H s:=⟨I.ok.unwish,I.os,I.bare,I.base,I.loc,I.cell,I.free,I.freeC,I.pin,I.hok,I.len⟩
theorem SP.unwish {D:ZfX} {f:Flow} {s':Shared} (h:SP (X.wish E) pins D f s'):SP X pins D f s':=by
 cases f with
 | next=>obtain ⟨σ',H',I,q⟩:=h; exact ⟨σ',H',I.unwish,q⟩
 | brk=>obtain ⟨σ',H',I,q⟩:=h; exact ⟨σ',H',I.unwish,q⟩
 | cont=>obtain ⟨σ',H',I,q⟩:=h; exact ⟨σ',H',I.unwish,q⟩
 | ret u=>obtain ⟨v,σ',H',I,r,q⟩:=h; exact ⟨v,σ',H',I.unwish,r,q⟩
theorem PE.nox {e:Expr} {t:TE} (h:PE X.nox e t):PE X e t:=fun pins s σ H Q I hw =>
 wpAny_mono (h pins s σ H Q (I.wish _) hw) (fun _ _ ⟨v,H',I',r,q⟩=>⟨v,H',I'.unwish,r,q⟩) fun _ _ z=>False.elim z
theorem PT.nox {e:Expr} {t:TT} (h:PT X.nox e t):PT X e t:=fun pins s σ H Q I hw =>
 wpAny_mono (h pins s σ H Q (I.wish _) hw) (fun _ _ ⟨H',I',q⟩=>⟨H',I'.unwish,q⟩) fun _ _ z=>False.elim z
theorem PSs.nox {st:List Stmt} {t:TS} (h:PSs X.nox st t):PSs X st t:=fun pins s σ H D I hw =>
 wpAny_mono (h pins s σ H D (I.wish _) hw) (fun _ _ q=>q.unwish) fun _ _ z=>False.elim z
end
section
variable {X:Cx} {st:Stmt} {rest:List Stmt} {t u:TS} {e:Expr} {te:TE} {pos:Pos}
def Zkx:TS:=fun D σ H=>D.nx σ H
def ZfY (t u:TS):TS:=fun D σ H=>t { D with nx:=u D } σ H
theorem ZK:PSs X [] Zkx:=fun _ _ σ H _ I h=>wpAny_execs_nil ⟨σ,H,I,h⟩
theorem Ze (h1:PS X st t) (h2:PSs X rest u):PSs X (st :: rest) (ZfY t u):=by
 intro pins s σ H D I h
 refine wpAny_execs_cons (thn (h1 pins s σ H { D with nx:=u D } I h) fun f s1 q=>?_)
 cases f with
 | next =>
  obtain ⟨σ',H',I',q⟩:=q
  exact h2 pins s1 σ' H' D I' q
 | ret v=>exact q
 | brk=>exact q
 | cont=>exact q
theorem Zh (h1:PS X st t):PSs X [st] t:=by
 intro pins s σ H D I h
 refine wpAny_execs_cons (thn (h1 pins s σ H D I h) fun f s1 q=>?_)
 cases f with
 | next=>exact wpAny_execs_nil q
 | ret v=>exact q
 | brk=>exact q
 | cont=>exact q
theorem Inv.quiet {pins:List (Addr × Obj)} {σ:St} {H:Hp} {s:Shared} (I:Inv X pins σ H s):interactive X.env=false:=by simp [interactive,I.ok.kind]
def Zkz (te:TE):TS:=fun D σ H=>te σ H fun _ H1=>D.nx σ H1
theorem ZS (he:PE X e te) (hs:swapsWith e none pos.line X.env=pure false:=by rfl):PS X (.Expr e pos) (Zkz te):=by
 intro pins s σ H D I h
 exact wpAny_Expr_any (thn (he pins s σ H _ I h) fun v s1 ⟨x,H1,I1,r1,q1⟩=>⟨σ,H1,I1,q1⟩) I.quiet hs
def Zly (te:TE):TS:=fun D σ H=>te σ H D.rt
theorem Zu (he:PE X e te):PS X (.Return (some e) pos) (Zly te):=by
 intro pins s σ H D I h
 exact wpAny_Return_some (thn (he pins s σ H _ I h) fun v s1 ⟨x,H1,I1,r1,q1⟩=>⟨x,σ,H1,I1,r1,q1⟩)
def Zky (c:TT) (t u:TS):TS:=fun D σ H=>c σ H fun b H1=>if b=true then t D σ H1 else u D σ H1
theorem Yn {c:Expr} {a b:List Stmt} {tc:TT} (hc:PT X c tc) (ha:PSs X a t) (hb:PSs X b u):PS X (.If c a b pos) (Zky tc t u):=by
 intro pins s σ H D I h
 refine wpAny_If (thn (hc pins s σ H _ I h) fun d s1 ⟨H1,I1,q1⟩=>?_)
 cases d with
 | true=>exact ha pins s1 σ H1 D I1 q1
 | false=>exact hb pins s1 σ H1 D I1 q1
end
abbrev TG:=V→St→Hp→(St→Hp→Prop)→Prop
abbrev TGs:=List V→St→Hp→(St→Hp→Prop)→Prop
def PG (X:Cx) (target:Expr) (t:TG):Prop :=
 ∀ (pins:List (Addr × Obj)) (s:Shared) (σ:St) (H:Hp) (v:V) (u:Value) (Q:St→Hp→Prop),Inv X pins σ H s→RelV v u→t v σ H Q →
  wpAny (model X.prog X.w) X.A (assign target X.env u) (fun _ s'=>∃ σ' H',Inv X pins σ' H' s'∧Q σ' H') X.xe s
def PGs (X:Cx) (ts:List Expr) (t:TGs):Prop :=
 ∀ (pins:List (Addr × Obj)) (s:Shared) (σ:St) (H:Hp) (vs:List V) (us:List Value) (Q:St→Hp→Prop),Inv X pins σ H s→Vals vs us→t vs σ H Q →
  wpAny (model X.prog X.w) X.A (assignInOrder ((assignEach ts X.env).map (·.2)) us) (fun _ s'=>∃ σ' H',Inv X pins σ' H' s'∧Q σ' H') X.xe s
abbrev Zld:=V→V→V→Hp→(Hp→Prop)→Prop
def Zlt (X:Cx) (t:Zld):Prop :=
 ∀ (pins:List (Addr × Obj)) (s:Shared) (σ:St) (H:Hp) (o i v:V) (ov iv u:Value) (Q:Hp→Prop),Inv X pins σ H s→RelV o ov→RelV i iv→RelV v u→t o i v H Q →
  wpAny (model X.prog X.w) X.A (setItem ov iv u) (fun _ s'=>∃ H',Inv X pins σ H' s'∧Q H') X.xe s
section
variable {X:Cx} {pos:Pos}
def XY (i:Nat):TG:=fun v σ H Q=>Q (σ.set i (some v)) H
theorem ZG {i:Nat} {x:Str} (hN:X.N.Nodup) (hi:X.N[i]?=some x) (hx:Loc X.env.scope x) (hf:X.fn x=true∨X.env.scope.names.lookup x=some .local:=by first | exact .inl rfl | exact .inr rfl | assumption):PG X (.Name x pos) (XY i):=by
 intro pins s σ H v u Q I r h
 exact wpAny_assign_Name (ZcK I hN hi hx r (fun s' I'=>⟨_,H,I',h⟩) hf)
def Zlr:TGs:=fun vs σ H Q=>vs=[]∧Q σ H
def ZiK (t:TG) (u:TGs):TGs:=fun vs σ H Q=>∃ v r,vs=v :: r∧t v σ H fun σ' H'=>u r σ' H' Q
theorem Z2:PGs X [] Zlr:=by
 intro pins s σ H vs us Q I r h
 obtain ⟨e,h⟩:=h
 subst e
 cases r
 exact assignInOrder_nil ⟨σ,H,I,h⟩
theorem Zt {e:Expr} {es:List Expr} {t:TG} {u:TGs} (h1:PG X e t) (h2:PGs X es u)
  (hs:(assignEach (e :: es) X.env).map (·.2)=assign e X.env :: (assignEach es X.env).map (·.2):=by rfl):PGs X (e :: es) (ZiK t u):=by
 intro pins s σ H vs us Q I r h
 obtain ⟨v,vr,e1,h⟩:=h
 subst e1
 cases r with
 | cons r rr =>
  rw [hs]
  refine assignInOrder_cons (thn (h1 pins s σ H _ _ _ I r h) fun _ s1 ⟨σ1,H1,I1,q1⟩=>?_)
  exact h2 pins s1 σ1 H1 _ _ Q I1 rr q1
def Zk5 (K:PySem.W.Frag) (n:Nat) (t:TGs):TG:=fun v σ H Q=>∃ a xs,v = .ref a∧SqT K H a xs∧xs.length=n∧t xs σ H Q
theorem Zjs {es:List Expr} {k:Nat} {t:TGs} {n:Nat} (hc:X.calm=true) (h:PGs X es t)
  (hn:(assignEach es X.env).length=n:=by rfl) (hst:(assignEach es X.env).findIdx? (·.1)=none:=by rfl):PG X (.Tuple es k pos) (Zk5 X.K n t):=by
 intro pins s σ H v u Q I r hw
 obtain ⟨a,xs,e1,hq,hl,hw⟩:=hw
 subst e1
 cases r
 obtain ⟨its,rv,ht,hz⟩:=I.tuple hq
 refine assign_Tuple_tuple (I.ok.hd hc) ht (by simp [hn,← hl,rv.length]) hst fun h' hx=>?_
 have I1:Inv X pins σ H { s with heap:=h' }:=I.kept (t':=s.toks) fun b o e=>hx b o (Nat.ne_of_lt (Heap.lt_size e)) e
 exact h pins _ σ H xs _ Q I1 (by simpa using rv) hw
def ZlQ (to ti:TE) (t:Zld):TG:=fun v σ H Q=>to σ H fun o H1=>ti σ H1 fun i H2=>t o i v H2 fun H3=>Q σ H3
theorem Zjt {o i:Expr} {to ti:TE} {t:Zld} (ho:PE X o to) (hi:PE X i ti) (hs:Zlt X t)
  (ha:∀ v,assign (.Subscript o i pos) X.env v=(do
   let ov ← holding [v] (eval o X.env)
   let iv ← holding [v,ov] (eval i X.env)
   standAt pos
   holding [v,ov,iv] (setItem ov iv v)
   release [v,ov,iv] []):=by intro _; rfl):PG X (.Subscript o i pos) (ZlQ to ti t):=by
 intro pins s σ H v u Q I r h
 rw [ha]
 refine wpAny_bind (wpAny_holding (thn (ho pins s σ H _ I h) fun ov s1 ⟨x,H1,I1,r1,q1⟩=>?_))
 refine wpAny_bind (wpAny_holding (thn (hi pins s1 σ H1 _ I1 q1) fun iv s2 ⟨y,H2,I2,r2,q2⟩=>?_))
 refine wpAny_bind (wpAny_standAt (wpAny_bind (wpAny_holding (thn (hs pins s2 σ H2 x y v ov iv u _ I2 r1 r2 r q2) fun _ s3 ⟨H3,I3,q3⟩=>?_))))
 exact wpAny_release ⟨σ,H3,I3,q3⟩
def ZkE (te:TE) (g:TG):TS:=fun D σ H=>te σ H fun x H1=>g x σ H1 D.nx
theorem ZhC {tg e:Expr} {te:TE} {g:TG} (he:PE X e te) (hg:PG X tg g) (hs:swapsWithSole [tg] e pos.line X.env=pure false:=by rfl) (hw:swappedStores [tg] e X.env=pure none:=by rfl)
  (h1:(assignEach [tg] X.env).map (·.2)=[assign tg X.env]:=by rfl):PS X (.Assign [tg] e pos) (ZkE te g):=by
 intro pins s σ H D I h
 refine wpAny_Assign_stores (thn (he pins s σ H _ I h) fun v s1 ⟨x,H1,I1,r1,q1⟩=>?_) hs hw
 rw [h1]
 exact thn (hg pins s1 σ H1 x v _ I1 r1 q1) fun _ s2 q=>q
theorem Zm {i:Nat} {x:Str} {e:Expr} {te:TE} {pos':Pos} (hN:X.N.Nodup) (hi:X.N[i]?=some x) (hx:Loc X.env.scope x) (he:PE X e te) (hs:swapsWith e (some (.Name x pos')) pos.line X.env=pure false:=by rfl) (hf:X.fn x=true∨X.env.scope.names.lookup x=some .local:=by first | exact .inl rfl | exact .inr rfl | assumption) :
  PS X (.Assign [.Name x pos'] e pos) (ZkE te (XY i)):=by
 intro pins s σ H D I h
 refine wpAny_Assign_Name (thn (he pins s σ H _ I h) fun v s1 ⟨y,H1,I1,r1,q1⟩=>?_) hs
 exact ZcK I1 hN hi hx r1 (fun s2 I2=>⟨_,H1,I2,q1⟩) hf
def ZaT (c:TT) (tb:TS):TS:=fun D σ H=>∃ W:Nat→St→Hp→Prop,(∃ m,W m σ H)∧∀ m σ H,W m σ H →
 c σ H fun b H1=>if b=true then ∃ N:St→Hp→Prop,(∀ σ' H',N σ' H'→∃ m',m' < m∧W m' σ' H')∧tb { D with nx:=N,ct:=N,bk:=D.nx } σ H1 else D.nx σ H1
theorem X7 {c:Expr} {body:List Stmt} {tc:TT} {tb:TS} (hp:PassesOwn (model X.prog X.w) X.A X.env X.xe) (hc:PT X c tc) (hb:PSs X body tb):PS X (.While c body [] pos) (ZaT tc tb):=by
 intro pins s σ H D I h
 obtain ⟨W,⟨m0,w0⟩,turn⟩:=h
 refine wpAny_While (codeAny_whileLoop (fun n s'=>∃ σ' H',Inv X pins σ' H' s'∧W n σ' H') ?_ m0 ⟨σ,H,I,w0⟩)
 rintro n s1 ⟨σ1,H1,I1,w1⟩
 refine wpAny_passesOwn hp (thn (hc pins s1 σ1 H1 _ I1 (turn n σ1 H1 w1)) fun b s2 ⟨H2,I2,q2⟩=>?_)
 cases b with
 | true =>
  obtain ⟨N,hN,q2⟩:=q2
  rw [if_pos rfl]
  refine wpAny_passesOwn hp (thn (hb pins s2 σ1 H2 _ I2 q2) fun f s3 q3=>?_)
  cases f with
  | next =>
   obtain ⟨σ3,H3,I3,n3⟩:=q3
   obtain ⟨m',hm,w3⟩:=hN σ3 H3 n3
   exact ⟨m',hm,σ3,H3,I3,w3⟩
  | cont =>
   obtain ⟨σ3,H3,I3,n3⟩:=q3
   obtain ⟨m',hm,w3⟩:=hN σ3 H3 n3
   exact ⟨m',hm,σ3,H3,I3,w3⟩
  | brk=>exact q3
  | ret v=>exact q3
 | false =>
  rw [if_neg Bool.false_ne_true]
  exact wpAny_execs_nil ⟨σ1,H2,I2,q2⟩
end
structure It where
 go:Nat→Hp→Prop
 yld:Nat→Hp→V→Hp→Prop
 stop:Nat→Hp→Prop
def ZdX (X:Cx) (pins:List (Addr × Obj)) (H:Hp) (b:Addr):Prop :=
 H b=none∧b≠X.env.locals∧b∉X.fs∧(b∈X.ex∨X.s₀.heap.objs.size≤b)∧(∀ x c,X.env.cells.lookup x=some c→c≠b)∧∀ p∈X.pn ++ pins,p.1≠b
theorem Inv.fpOk {X:Cx} {pins:List (Addr × Obj)} {σ:St} {H H':Hp} {s:Shared} {b:Addr} (I:Inv X pins σ H s) (hb:s.heap.objs.size≤b) (hn:H' b=none):ZdX X pins H' b:=by
 refine ⟨hn,Nat.ne_of_gt (Nat.lt_of_lt_of_le I.lt hb),I.nofs hb,.inr (Nat.le_trans I.sz hb),fun x c e z=>?_,fun p hp z=>?_⟩
 ·obtain ⟨v,q⟩:=I.cell x c e
  exact absurd (Nat.lt_of_lt_of_le q.lt (by rw [z]; exact hb)) (Nat.lt_irrefl _)
 ·exact absurd (Nat.lt_of_lt_of_le (Heap.lt_size (I.pin p hp).1) (by rw [z]; exact hb)) (Nat.lt_irrefl _)
structure ZiV (P:Program) (w:World) (K:PySem.W.Frag) (tg:Expr) (J:It) (fp:List Addr) (it:Addr) (tn:Nat→Heap→Prop):Prop where
 mem:it∈fp
 obj:∀ i h,tn i h→∀ b∈fp,∃ o,h.get? b=some o∧∀ v,o.data≠.cell v
 keep:∀ i h h',tn i h→(∀ b∈fp,∀ o,h.get? b=some o→h'.get? b=some o)→tn i h'
 item:∀ (X:Cx),X.prog=P→X.w=w→X.K=K→X.calm=true→∀ (i:Nat) (pins:List (Addr × Obj)) (s:Shared) (σ:St) (H:Hp) (E:Value→Shared→Prop),Inv X pins σ H s→(∀ b∈fp,ZdX X pins H b)→tn i s.heap→J.go i H →
  wpAny (model P w) X.A (pyNext (.ref it)) (fun r s1=>∃ u,r=some u ∧
   wpAny (model P w) X.A (letOwnedTupleGo tg (.ref it) u) (fun _ s2=>∃ x H',Inv X pins σ H' s2∧RelV x u∧J.yld i H x H'∧tn (i + 1) s2.heap∧∀ b∈fp,H' b=none) E s1) E s
 done:∀ (X:Cx),X.prog=P→X.w=w→X.K=K→X.calm=true→∀ (i:Nat) (pins:List (Addr × Obj)) (s:Shared) (σ:St) (H:Hp) (E:Value→Shared→Prop),Inv X pins σ H s→(∀ b∈fp,ZdX X pins H b)→tn i s.heap→J.stop i H →
  wpAny (model P w) X.A (pyNext (.ref it)) (fun r s1=>r=none∧Inv X pins σ H s1) E s
 self:∀ (A:Around) (i:Nat) (s:Shared) (Q:Value→Shared→Prop) (E:Value→Shared→Prop),tn i s.heap→Q (.ref it) s→wpAny (model P w) A (pyIter (.ref it)) Q E s
abbrev TI:=St→Hp→(It→Hp→Prop)→Prop
def PIE (X:Cx) (pins:List (Addr × Obj)) (σ:St) (tg:Expr) (R:It→Hp→Prop) (itv:Value) (s2:Shared):Prop :=
 ∃ (it:Addr) (fp:List Addr) (tn:Nat→Heap→Prop) (J:It) (H':Hp),itv = .ref it∧Inv X pins σ H' s2∧ZiV X.prog X.w X.K tg J fp it tn∧tn 0 s2.heap∧(∀ b∈fp,ZdX X pins H' b)∧R J H'
def PI (X:Cx) (tg iter:Expr) (wi:TI):Prop :=
 ∀ (pins:List (Addr × Obj)) (s:Shared) (σ:St) (H:Hp) (R:It→Hp→Prop),Inv X pins σ H s→wi σ H R →
  wpAny (model X.prog X.w) X.A (eval iter X.env) (fun v s1=>wpAny (model X.prog X.w) X.A (pyIter v) (PIE X pins σ tg R) X.xe s1) X.xe s
theorem Zg2 {M:Model} {A:Around} {E:Value→Shared→Prop} {s:Shared} {tg:Expr} {it:Addr} {u:Value} {o:Obj} {n:String} {vs:Array Value} {Q:Unit→Shared→Prop} (ho:s.heap.get? it=some o) (hc:o.cls = .type n) (hd:o.data = .fields vs)
  (hn:["enumerate","zip","dict_itemiterator","dict_reverseitemiterator","odict_iterator","itertools.zip_longest","itertools.pairwise"].contains n=false) (hQ:Q () s):wpAny M A (letOwnedTupleGo tg (.ref it) u) Q E s:=by
 unfold letOwnedTupleGo
 cases tg <;> first
  | exact wpAny_pure hQ
  | (cases u <;> first
    | exact wpAny_pure hQ
    | (refine wpAny_bind (wpAny_load ho ?_)
       rw [hc,hd]
       show wpAny M A (if (["enumerate","zip","dict_itemiterator","dict_reverseitemiterator","odict_iterator","itertools.zip_longest","itertools.pairwise"].contains n && vs[0]? == some (rawInt _))=true then _ else _) Q E s
       rw [if_neg (by intro h; rw [hn,Bool.false_and] at h; cases h)]
       exact wpAny_pure hQ))
def Itl (K:PySem.W.Frag) (a:Addr):It :=
 ⟨fun i H=>∃ xs x,SqL K H a xs∧xs[i]?=some x,fun i H x H'=>H'=H∧∀ xs,SqL K H a xs→xs[i]?=some x,fun i H=>∃ xs,SqL K H a xs∧xs.length≤i⟩
def Itt (K:PySem.W.Frag) (a:Addr):It :=
 ⟨fun i H=>∃ xs x,SqT K H a xs∧xs[i]?=some x,fun i H x H'=>H'=H∧∀ xs,SqT K H a xs→xs[i]?=some x,fun i H=>∃ xs,SqT K H a xs∧xs.length≤i⟩
def Itr (lo:Int) (n:Nat):It:=⟨fun i _=>i < n,fun i H x H'=>H'=H∧x = .int (lo + i),fun i _=>n≤i⟩
theorem Zd4 {P:Program} {w:World} {K:PySem.W.Frag} {tg:Expr} (a it:Addr):ZiV P w K tg (Itl K a) [it] it (fun i h=>h.IsListIter it a i) where
 mem:=by simp
 obj:=fun i h st b hb=>by
  have e:b=it:=by simpa using hb
  subst e
  obtain ⟨o,e,c,d⟩:=st
  exact ⟨o,e,fun v z=>by rw [d] at z; cases z⟩
 keep:=fun i h h' st k=>st.at fun o e=>k it (by simp) o e
 item:=by
  intro X hP hw hK hc i pins s σ H E I hf st hg
  subst hP hw hK
  obtain ⟨xs,x,hq,hx⟩:=hg
  obtain ⟨its,rv,p,hz⟩:=I.list hq
  obtain ⟨u,hu,ru⟩:=rv.get hx
  obtain ⟨f0,f1,f2,f3,f4,f5⟩:=hf it (by simp)
  refine wpAny_pyNext_list_item st p.isList (x:=u) (by simpa using hu) fun h' st' sb=>?_
  have I1:Inv X pins σ H { s with heap:=h' }:=I.turned (t':=s.toks) (fun b o hb e=>(sb.2 b hb).trans e) f0 f1 f3 f4 f5
  obtain ⟨o,e,c,d⟩:=id st'
  exact ⟨u,rfl,Zg2 (s:={ s with heap:=h' }) e c d (by decide) ⟨x,H,I1,ru,⟨rfl,fun ys hy=>by rw [I.list_inj hy hq]; exact hx⟩,st',fun b hb=>(hf b hb).1⟩⟩
 done:=by
  intro X hP hw hK hc i pins s σ H E I hf st hg
  subst hP hw hK
  obtain ⟨xs,hq,hx⟩:=hg
  obtain ⟨its,rv,p,hz⟩:=I.list hq
  obtain ⟨f0,f1,f2,f3,f4,f5⟩:=hf it (by simp)
  have hl:=rv.length
  exact wpAny_pyNext_list_end (I.ok.hd hc) st p.isList (by simp; omega) fun h' eb=>⟨rfl,I.turned (t':=s.toks) (fun b o hb e=>eb b o hb e) f0 f1 f3 f4 f5⟩
 self:=fun _ _ _ _ _ st h=>wpAny_pyIter_listiter st h
theorem Zdt {P:Program} {w:World} {K:PySem.W.Frag} {tg:Expr} (a it:Addr):ZiV P w K tg (Itt K a) [it] it (fun i h=>h.IsTupleIter it a i) where
 mem:=by simp
 obj:=fun i h st b hb=>by
  have e:b=it:=by simpa using hb
  subst e
  obtain ⟨o,e,c,d⟩:=st
  exact ⟨o,e,fun v z=>by rw [d] at z; cases z⟩
 keep:=fun i h h' st k=>st.at fun o e=>k it (by simp) o e
 item:=by
  intro X hP hw hK hc i pins s σ H E I hf st hg
  subst hP hw hK
  obtain ⟨xs,x,hq,hx⟩:=hg
  obtain ⟨its,rv,p,hz⟩:=I.tuple hq
  obtain ⟨u,hu,ru⟩:=rv.get hx
  obtain ⟨f0,f1,f2,f3,f4,f5⟩:=hf it (by simp)
  refine wpAny_pyNext_tuple_item st (show s.heap.IsTuple a its.toArray from p) (x:=u) (by simpa using hu) fun h' st' sb=>?_
  have I1:Inv X pins σ H { s with heap:=h' }:=I.turned (t':=s.toks) (fun b o hb e=>(sb.2 b hb).trans e) f0 f1 f3 f4 f5
  obtain ⟨o,e,c,d⟩:=id st'
  exact ⟨u,rfl,Zg2 (s:={ s with heap:=h' }) e c d (by decide) ⟨x,H,I1,ru,⟨rfl,fun ys hy=>by rw [I.tuple_inj hy hq]; exact hx⟩,st',fun b hb=>(hf b hb).1⟩⟩
 done:=by
  intro X hP hw hK hc i pins s σ H E I hf st hg
  subst hP hw hK
  obtain ⟨xs,hq,hx⟩:=hg
  obtain ⟨its,rv,p,hz⟩:=I.tuple hq
  obtain ⟨f0,f1,f2,f3,f4,f5⟩:=hf it (by simp)
  have hl:=rv.length
  exact wpAny_pyNext_tuple_end (I.ok.hd hc) st (show s.heap.IsTuple a its.toArray from p) (by simp; omega) fun h' eb=>⟨rfl,I.turned (t':=s.toks) (fun b o hb e=>eb b o hb e) f0 f1 f3 f4 f5⟩
 self:=fun _ _ _ _ _ st h=>wpAny_pyIter_tupleiter st h
theorem Zdu {P:Program} {w:World} {K:PySem.W.Frag} {tg:Expr} (it:Addr) (lo:Int) (n:Nat):ZiV P w K tg (Itr lo n) [it] it (fun i h=>IsRangeIter h it (lo + (i:Nat) * 1) ((n:Int) - (i:Nat)) 1) where
 mem:=by simp
 obj:=fun i h st b hb=>by
  have e:b=it:=by simpa using hb
  subst e
  exact ⟨_,st,fun v z=>by
   have z':Data.fields _=Data.cell v:=z
   cases z'⟩
 keep:=fun i h h' st k=>k it (by simp) _ st
 item:=by
  intro X hP hw hK hc i pins s σ H E I hf st hg
  subst hP hw hK
  obtain ⟨f0,f1,f2,f3,f4,f5⟩:=hf it (by simp)
  have W:=Walks.range (prog:=X.prog) (w:=X.w) (I.ok.hd hc) it lo 1 n
  refine W.item i s _ _ hg st fun v h' tk hv st' kk=>?_
  obtain ⟨t,rfl⟩:=hv
  have I1:Inv X pins σ H { s with heap:=h',toks:=tk }:=I.turned (fun b o hb e=>kk b o (by simpa using hb) e) f0 f1 f3 f4 f5
  refine ⟨_,rfl,Zg2 (s:={ s with heap:=h',toks:=tk }) (n:="range_iterator") st' rfl rfl (by decide) ⟨.int (lo + i),H,I1,⟨t,?_⟩,⟨rfl,rfl⟩,st',fun b hb=>(hf b hb).1⟩⟩
  rw [Int.mul_one]
 done:=by
  intro X hP hw hK hc i pins s σ H E I hf st hg
  subst hP hw hK
  obtain ⟨f0,f1,f2,f3,f4,f5⟩:=hf it (by simp)
  exact wpAny_pyNext_range_end (I.ok.hd hc) st (by have:n≤i:=hg; omega) fun h' eb=>⟨rfl,I.turned (t':=s.toks) (fun b o hb e=>eb b o hb e) f0 f1 f3 f4 f5⟩
 self:=fun _ _ _ _ _ st h=>wpAny_pyIter_rangeiter st h
section
variable {X:Cx} {tg:Expr}
def Zk3 (K:PySem.W.Frag) (tl:TE):TI:=fun σ H R=>tl σ H fun x H1=>∃ a,x = .ref a∧(∃ xs,SqL K H1 a xs)∧R (Itl K a) H1
def ZlP (K:PySem.W.Frag) (tl:TE):TI:=fun σ H R=>tl σ H fun x H1=>∃ a,x = .ref a∧(∃ xs,SqT K H1 a xs)∧R (Itt K a) H1
theorem Ji {l:Expr} {tl:TE} (hl:PE X l tl):PI X tg l (Zk3 X.K tl):=by
 intro pins s σ H R I h
 refine thn (hl pins s σ H _ I h) fun v s1 ⟨x,H1,I1,r1,q1⟩=>?_
 obtain ⟨a,e,⟨xs,hq⟩,q⟩:=q1
 subst e
 cases r1
 obtain ⟨its,rv,p,hz⟩:=I1.list hq
 refine wpAny_pyIter_list p.isList ?_
 refine ⟨s1.heap.objs.size,[s1.heap.objs.size],_,_,H1,rfl,I1.kept (t':=s1.toks) fun b o e=>Heap.get?_push_of_some _ e,Zd4 a _,⟨_,Heap.get?_push_size _ rfl,rfl,rfl⟩,fun b hb=>?_,q⟩
 have e:b=s1.heap.objs.size:=by simpa using hb
 subst e
 exact I1.fpOk (Nat.le_refl _) (I1.hok.fresh (Nat.le_refl _))
theorem Yi {l:Expr} {tl:TE} (hl:PE X l tl):PI X tg l (ZlP X.K tl):=by
 intro pins s σ H R I h
 refine thn (hl pins s σ H _ I h) fun v s1 ⟨x,H1,I1,r1,q1⟩=>?_
 obtain ⟨a,e,⟨xs,hq⟩,q⟩:=q1
 subst e
 cases r1
 obtain ⟨its,rv,p,hz⟩:=I1.tuple hq
 refine wpAny_pyIter_tuple (show s1.heap.IsTuple a its.toArray from p) ?_
 refine ⟨s1.heap.objs.size,[s1.heap.objs.size],_,_,H1,rfl,I1.kept (t':=s1.toks) fun b o e=>Heap.get?_push_of_some _ e,Zdt a _,⟨_,Heap.get?_push_size _ rfl,rfl,rfl⟩,fun b hb=>?_,q⟩
 have e:b=s1.heap.objs.size:=by simpa using hb
 subst e
 exact I1.fpOk (Nat.le_refl _) (I1.hok.fresh (Nat.le_refl _))
theorem Zgr {pins:List (Addr × Obj)} {σ:St} {H:Hp} {s:Shared} {R:It→Hp→Prop} {E:Value→Shared→Prop} {lo hi:Int} {t u v:Tok} {tk:Nat} (I:Inv X pins σ H s) (h1 : -(2 ^ 62)≤lo) (h2:lo < 2 ^ 62) (h3 : -(2 ^ 62)≤hi) (h4:hi < 2 ^ 62)
  (q:R (Itr lo (hi - lo).toNat) H):wpAny (model X.prog X.w) X.A (pyIter (.ref s.heap.objs.size)) (PIE X pins σ tg R) E { s with heap:=s.heap.push { cls:=.type "range",data:=.fields #[.int lo t,.int hi u,.int 1 v] },toks:=tk }:=by
 refine wpAny_pyIter_range (IsRange.new ..) (small_one h1 h2 h3 h4) ?_
 have I1:Inv X pins σ H { s with heap:=s.heap.push { cls:=.type "range",data:=.fields #[.int lo t,.int hi u,.int 1 v] },toks:=tk }:=I.kept fun b o e=>Heap.get?_push_of_some _ e
 refine ⟨(s.heap.push { cls:=.type "range",data:=.fields #[.int lo t,.int hi u,.int 1 v] }).objs.size,[(s.heap.push { cls:=.type "range",data:=.fields #[.int lo t,.int hi u,.int 1 v] }).objs.size],_,_,H,rfl,
  I1.kept (t':=tk) fun b o e=>Heap.get?_push_of_some _ e,Zdu _ lo (hi - lo).toNat,?_,fun b hb=>?_,q⟩
 ·have e1:lo + ((0:Nat):Int) * 1=lo:=by simp
  have e2:(((hi - lo).toNat:Nat):Int) - ((0:Nat):Int)=Builtin.Range.rangeSize lo hi 1:=by rw [rangeSize_one]; split <;> omega
  show IsRangeIter _ _ (lo + ((0:Nat):Int) * 1) ((((hi - lo).toNat:Nat):Int) - ((0:Nat):Int)) 1
  rw [e1,e2]
  exact Heap.get?_push_size _ rfl
 ·have e:b=(s.heap.push { cls:=.type "range",data:=.fields #[.int lo t,.int hi u,.int 1 v] }).objs.size:=by simpa using hb
  subst e
  exact I1.fpOk (Nat.le_refl _) (I1.hok.fresh (Nat.le_refl _))
def Zk2 (ta:TA):TI:=fun σ H R=>ta σ H fun vs H1=>∃ j:Int,vs=[.int j]∧-(2 ^ 62)≤j∧j < 2 ^ 62∧R (Itr 0 j.toNat) H1
theorem YK {a:Expr} {ta:TA} {p pos:Pos} (hg:Gl X "range") (hm:X.mg "range" = none) (ha:PA X [a] ta) (hs:starEach [a] X.env=[(false,eval a X.env)]:=by rfl):PI X tg (.Call (.Name "range" p) [a] [] pos) (Zk2 ta):=by
 intro pins s σ H R I h
 refine Call_ (Xp I hg hm boot_range (PyProof.Rows.callWith_type1 (thn (ha pos pins s σ H _ I h) fun us s1 ⟨vs,H1,I1,r1,q1⟩=>?_) hs rfl))
 obtain ⟨j,e,q1,q2,q⟩:=q1
 subst e
 cases r1 with
 | cons r rr =>
  cases rr
  obtain ⟨t,rfl⟩:=r
  exact call_range_1 (Zgr I1 (by omega) (by omega) q1 q2 (by simpa using q))
def ZlE (wi:TI) (g:TG) (tb:TS):TS:=fun D σ H=>wi σ H fun J H1=>∃ W:Nat→Nat→St→Hp→Prop,(∃ m,W 0 m σ H1)∧∀ i m σ H,W i m σ H →
 (J.stop i H∧D.nx σ H)∨(J.go i H∧∃ N:St→Hp→Prop,(∀ σ' H',N σ' H'→∃ m',m' < m∧W (i + 1) m' σ' H')∧∀ x H',J.yld i H x H'→g x σ H' fun σ2 H2=>tb { D with nx:=N,ct:=N,bk:=D.nx } σ2 H2)
def Za3 (fp:List Addr) (h:Heap):List (Addr × Obj):=fp.filterMap fun b=>(h.get? b).map fun o=>(b,o)
theorem Y2 {fp:List Addr} {h:Heap} {b:Addr} {o:Obj} (hb:b∈fp) (e:h.get? b=some o):(b,o)∈Za3 fp h:=List.mem_filterMap.mpr ⟨b,hb,by rw [e]; rfl⟩
theorem Ze7 {fp:List Addr} {h:Heap} {p:Addr × Obj} (hp:p∈Za3 fp h):p.1∈fp∧h.get? p.1=some p.2:=by
 obtain ⟨b,hb,e⟩:=List.mem_filterMap.mp hp
 cases q:h.get? b with
 | none=>rw [q] at e; cases e
 | some o =>
  rw [q] at e
  have e':(b,o)=p:=Option.some.inj e
  subst e'
  exact ⟨hb,q⟩
theorem Inv.pinned {pins:List (Addr × Obj)} {σ:St} {H:Hp} {s:Shared} {fp:List Addr} (I:Inv X pins σ H s) (hf:∀ b∈fp,ZdX X pins H b) (ho:∀ b∈fp,∃ o,s.heap.get? b=some o∧∀ v,o.data≠.cell v):Inv X (pins ++ Za3 fp s.heap) σ H s :=
 I.pins_of fun p hp=>(List.mem_append.mp hp).elim (fun z=>I.pin p (List.mem_append_right _ z)) fun z=>by
  obtain ⟨hb,e⟩:=Ze7 z
  obtain ⟨f0,f1,f2,_⟩:=hf p.1 hb
  obtain ⟨o,e',d⟩:=ho p.1 hb
  rw [e] at e'; cases e'
  exact ⟨e,f0,f1,f2,d⟩
theorem Inv.unpinned {pins pl:List (Addr × Obj)} {σ:St} {H:Hp} {s:Shared} (I:Inv X (pins ++ pl) σ H s):Inv X pins σ H s:=I.pins_of fun p hp=>I.pin p (List.mem_append_right _ (List.mem_append_left _ hp))
theorem Yh {iter:Expr} {body:List Stmt} {wi:TI} {g:TG} {tb:TS} {pos:Pos} (hp:PassesOwn (model X.prog X.w) X.A X.env X.xe) (hc:X.calm=true) (hi:PI X tg iter wi) (hg:PG X tg g) (hb:PSs X body tb)
  (hs:∀ x,foldedSetIterable iter X.env x=pure x:=by intro _; rfl):PS X (.For tg iter body [] pos) (ZlE wi g tb):=by
 intro pins s σ H D I h
 refine wpAny_For (thn (hi pins s σ H _ I h) fun v s1 h1=>thn h1 fun itv s2 h2=>?_) hs
 obtain ⟨it,fp,tn,J,H2,e,I2,T,st2,f2,W,⟨m0,w0⟩,turn⟩:=h2
 subst e
 -- what stays true of the iterator's objects through the loop
 have stat:∀ {H':Hp},(∀ b∈fp,H' b=none)→∀ b∈fp,ZdX X pins H' b:=fun hn b hb=>⟨hn b hb,(f2 b hb).2⟩
 refine codeAny_forLoop_any (fun n s'=>∃ i σ' H',Inv X pins σ' H' s'∧tn i s'.heap∧(∀ b∈fp,H' b=none)∧W i n σ' H') ?_ m0 ⟨0,σ,H2,I2,st2,fun b hb=>(f2 b hb).1,w0⟩
 rintro n s3 ⟨i,σ3,H3,I3,st3,fr3,w3⟩
 rcases turn i n σ3 H3 w3 with ⟨stop,qn⟩ | ⟨go,N,hN,step⟩
 ·refine wpAny_passesOwn hp (thn (T.done X rfl rfl rfl hc i pins s3 σ3 H3 X.xe I3 (stat fr3) st3 stop) fun r s4 ⟨hr,I4⟩=>?_)
  subst hr
  exact wpAny_execs_nil ⟨σ3,H3,I4,qn⟩
 ·refine wpAny_passesOwn hp (thn (T.item X rfl rfl rfl hc i pins s3 σ3 H3 X.xe I3 (stat fr3) st3 go) fun r s4 ⟨u,hr,h4⟩=>?_)
  subst hr
  refine wpAny_passesOwn hp (thn h4 fun _ s5 ⟨x,H5,I5,r5,y5,st5,fr5⟩=>?_)
  have I5':=I5.pinned (stat fr5) (T.obj _ _ st5)
  refine wpAny_passesOwn hp (thn (hg _ s5 σ3 H5 x u _ I5' r5 (step x H5 y5)) fun _ s6 ⟨σ6,H6,I6,q6⟩=>?_)
  refine wpAny_passesOwn hp (thn (hb _ s6 σ6 H6 _ I6 q6) fun f s7 q7=>?_)
  have again:∀ {σ7:St} {H7:Hp},Inv X (pins ++ Za3 fp s5.heap) σ7 H7 s7→N σ7 H7→∃ m,m < n∧∃ i σ' H',Inv X pins σ' H' s7∧tn i s7.heap∧(∀ b∈fp,H' b=none)∧W i m σ' H':=fun {σ7 H7} I7 n7=>by
   obtain ⟨m',hm,w7⟩:=hN σ7 H7 n7
   refine ⟨m',hm,i + 1,σ7,H7,I7.unpinned,T.keep _ _ _ st5 fun b hb o e=>(I7.pin (b,o) (List.mem_append_right _ (List.mem_append_right _ (Y2 hb e)))).1,fun b hb=>?_,w7⟩
   obtain ⟨o,e,d⟩:=T.obj _ _ st5 b hb
   exact (I7.pin (b,o) (List.mem_append_right _ (List.mem_append_right _ (Y2 hb e)))).2.1
  cases f with
  | next=>obtain ⟨σ7,H7,I7,n7⟩:=q7; exact again I7 n7
  | cont=>obtain ⟨σ7,H7,I7,n7⟩:=q7; exact again I7 n7
  | brk=>obtain ⟨σ7,H7,I7,q7⟩:=q7; exact ⟨σ7,H7,I7.unpinned,q7⟩
  | ret v=>obtain ⟨x7,σ7,H7,I7,r7,q7⟩:=q7; exact ⟨x7,σ7,H7,I7.unpinned,r7,q7⟩
end
theorem ZaE {K:PySem.W.Frag} {a:Addr} {xs:List V} {g:TG} {tb:TS} {D:ZfX} {σ:St} {H:Hp} (Pv:Nat→St→Hp→Prop) (h0:Pv 0 σ H) (hl:∀ i σ H,i≤xs.length→Pv i σ H→SqL K H a xs)
  (hs:∀ i x σ H,xs[i]?=some x→Pv i σ H→g x σ H fun σ2 H2=>tb { D with nx:=Pv (i + 1),ct:=Pv (i + 1),bk:=D.nx } σ2 H2) (hd:∀ σ H,Pv xs.length σ H→D.nx σ H) :
  ∃ W:Nat→Nat→St→Hp→Prop,(∃ m,W 0 m σ H)∧∀ i m σ H,W i m σ H →
   ((Itl K a).stop i H∧D.nx σ H)∨((Itl K a).go i H∧∃ N:St→Hp→Prop,(∀ σ' H',N σ' H'→∃ m',m' < m∧W (i + 1) m' σ' H')∧∀ x H',(Itl K a).yld i H x H'→g x σ H' fun σ2 H2=>tb { D with nx:=N,ct:=N,bk:=D.nx } σ2 H2):=by
 refine ⟨fun i m σ H=>m=xs.length - i∧i≤xs.length∧Pv i σ H,⟨xs.length,by simp,Nat.zero_le _,h0⟩,?_⟩
 rintro i m σ H ⟨rfl,hi,p⟩
 have q:=hl i σ H hi p
 by_cases hlt:i < xs.length
 ·refine .inr ⟨⟨xs,xs[i],q,by simp [hlt]⟩,Pv (i + 1),fun σ' H' p'=>⟨xs.length - (i + 1),by omega,rfl,hlt,p'⟩,fun x H' y=>?_⟩
  obtain ⟨e,y⟩:=y
  subst e
  exact hs i x σ _ (y xs q) p
 ·have e:i=xs.length:=by omega
  subst e
  exact .inl ⟨⟨xs,q,Nat.le_refl _⟩,hd σ H p⟩
theorem XL {K:PySem.W.Frag} {a:Addr} {xs:List V} {g:TG} {tb:TS} {D:ZfX} {σ:St} {H:Hp} (Pv:Nat→St→Hp→Prop) (h0:Pv 0 σ H) (hl:∀ i σ H,i≤xs.length→Pv i σ H→SqT K H a xs)
  (hs:∀ i x σ H,xs[i]?=some x→Pv i σ H→g x σ H fun σ2 H2=>tb { D with nx:=Pv (i + 1),ct:=Pv (i + 1),bk:=D.nx } σ2 H2) (hd:∀ σ H,Pv xs.length σ H→D.nx σ H) :
  ∃ W:Nat→Nat→St→Hp→Prop,(∃ m,W 0 m σ H)∧∀ i m σ H,W i m σ H →
   ((Itt K a).stop i H∧D.nx σ H)∨((Itt K a).go i H∧∃ N:St→Hp→Prop,(∀ σ' H',N σ' H'→∃ m',m' < m∧W (i + 1) m' σ' H')∧∀ x H',(Itt K a).yld i H x H'→g x σ H' fun σ2 H2=>tb { D with nx:=N,ct:=N,bk:=D.nx } σ2 H2):=by
 refine ⟨fun i m σ H=>m=xs.length - i∧i≤xs.length∧Pv i σ H,⟨xs.length,by simp,Nat.zero_le _,h0⟩,?_⟩
 rintro i m σ H ⟨rfl,hi,p⟩
 have q:=hl i σ H hi p
 by_cases hlt:i < xs.length
 ·refine .inr ⟨⟨xs,xs[i],q,by simp [hlt]⟩,Pv (i + 1),fun σ' H' p'=>⟨xs.length - (i + 1),by omega,rfl,hlt,p'⟩,fun x H' y=>?_⟩
  obtain ⟨e,y⟩:=y
  subst e
  exact hs i x σ _ (y xs q) p
 ·have e:i=xs.length:=by omega
  subst e
  exact .inl ⟨⟨xs,q,Nat.le_refl _⟩,hd σ H p⟩
theorem YO {lo:Int} {n:Nat} {g:TG} {tb:TS} {D:ZfX} {σ:St} {H:Hp} (Pv:Nat→St→Hp→Prop) (h0:Pv 0 σ H)
  (hs:∀ i σ H,i < n→Pv i σ H→g (.int (lo + i)) σ H fun σ2 H2=>tb { D with nx:=Pv (i + 1),ct:=Pv (i + 1),bk:=D.nx } σ2 H2) (hd:∀ σ H,Pv n σ H→D.nx σ H) :
  ∃ W:Nat→Nat→St→Hp→Prop,(∃ m,W 0 m σ H)∧∀ i m σ H,W i m σ H →
   ((Itr lo n).stop i H∧D.nx σ H)∨((Itr lo n).go i H∧∃ N:St→Hp→Prop,(∀ σ' H',N σ' H'→∃ m',m' < m∧W (i + 1) m' σ' H')∧∀ x H',(Itr lo n).yld i H x H'→g x σ H' fun σ2 H2=>tb { D with nx:=N,ct:=N,bk:=D.nx } σ2 H2):=by
 refine ⟨fun i m σ H=>m=n - i∧i≤n∧Pv i σ H,⟨n,by simp,Nat.zero_le _,h0⟩,?_⟩
 rintro i m σ H ⟨rfl,hi,p⟩
 by_cases hlt:i < n
 ·refine .inr ⟨hlt,Pv (i + 1),fun σ' H' p'=>⟨n - (i + 1),by omega,rfl,hlt,p'⟩,fun x H' y=>?_⟩
  obtain ⟨e,y⟩:=y
  subst e y
  exact hs i σ _ hlt p
 ·have e:i=n:=by omega
  subst e
  exact .inl ⟨Nat.le_refl _,hd σ H p⟩
abbrev R2:=V→V→Hp→VK→Prop
def OpR (X:Cx) (f:Value→Value→Sem Value) (r:R2):Prop :=
 ∀ (pins:List (Addr × Obj)) (s:Shared) (σ:St) (H:Hp) (x y:V) (v u:Value) (Q:VK),Inv X pins σ H s→RelV x v→RelV y u→r x y H Q →
  wpAny (model X.prog X.w) X.A (f v u) (EP X pins σ Q) X.xe s
def UnR (X:Cx) (f:Value→Sem Value) (r:V→Hp→VK→Prop):Prop :=
 ∀ (pins:List (Addr × Obj)) (s:Shared) (σ:St) (H:Hp) (x:V) (v:Value) (Q:VK),Inv X pins σ H s→RelV x v→r x H Q →
  wpAny (model X.prog X.w) X.A (f v) (EP X pins σ Q) X.xe s
def CallR (X:Cx) (f:Value) (r:List V→Hp→VK→Prop):Prop :=
 ∀ (pins:List (Addr × Obj)) (s:Shared) (σ:St) (H:Hp) (xs:List V) (us:List Value) (Q:VK),Inv X pins σ H s→Vals xs us→r xs H Q →
  wpAny (model X.prog X.w) X.A (call f us) (EP X pins σ Q) X.xe s
def ZlW (X:Cx) (r:V→Hp→(Bool→Hp→Prop)→Prop):Prop :=
 ∀ (pins:List (Addr × Obj)) (s:Shared) (σ:St) (H:Hp) (x:V) (v:Value) (Q:Bool→Hp→Prop),Inv X pins σ H s→RelV x v→r x H Q →
  wpAny (model X.prog X.w) X.A (truthy v) (TP X pins σ Q) X.xe s
def tOp (r:R2) (ta tb:TE):TE:=fun σ H Q=>ta σ H fun x H1=>tb σ H1 fun y H2=>r x y H2 Q
def tUn (r:V→Hp→VK→Prop) (ta:TE):TE:=fun σ H Q=>ta σ H fun x H1=>r x H1 Q
def rI (C:Int→Int→Prop) (g:Int→Int→V):R2:=fun x y H Q=>∃ i j,x = .int i∧y = .int j∧C i j∧Q (g i j) H
def rI0 (g:Int→Int→V):R2:=fun x y H Q=>∃ i j,x = .int i∧y = .int j∧Q (g i j) H
def rU (g:Int→V):V→Hp→VK→Prop:=fun x H Q=>∃ i,x = .int i∧Q (g i) H
section
variable {X:Cx} {a b c:Expr} {ta tb tc:TE} {pos:Pos}
theorem Zk9 (ha:PE X a ta) (hb:PE X b tb) {pins:List (Addr × Obj)} {s:Shared} {σ:St} {H:Hp} {R:V→V→Hp→Prop} (I:Inv X pins σ H s)
  (h:ta σ H fun x H1=>tb σ H1 fun y H2=>R x y H2) {Q:Value→Shared→Prop} {f:Value→Value→Sem Value}
  (hf:∀ v u s2 x y H2,Inv X pins σ H2 s2→RelV x v→RelV y u→R x y H2→wpAny (model X.prog X.w) X.A (f v u) Q X.xe s2) :
  wpAny (model X.prog X.w) X.A (eval a X.env) (fun v s₁=>wpAny (model X.prog X.w) X.A (eval b X.env) (fun u s₂=>wpAny (model X.prog X.w) X.A (f v u) Q X.xe s₂) X.xe s₁) X.xe s:=by
 refine thn (ha pins s σ H _ I h) fun v s1 ⟨x,H1,I1,r1,q1⟩=>?_
 refine thn (hb pins s1 σ H1 _ I1 q1) fun u s2 ⟨y,H2,I2,r2,q2⟩=>?_
 exact hf v u s2 x y H2 I2 r1 r2 q2
theorem Zo {op:Operator} {r:R2} (ho:OpR X (binaryOp op) r) (ha:PE X a ta) (hb:PE X b tb):PE X (.BinOp a op b pos) (tOp r ta tb):=by
 intro pins s σ H Q I h
 exact wpAny_BinOp (Zk9 ha hb I h fun v u s2 x y H2 I2 rx ry q=>ho pins s2 σ H2 x y v u Q I2 rx ry q)
theorem Xb {op:UnaryOp} {r:V→Hp→VK→Prop} (ho:UnR X (unaryOp op) r) (ha:PE X a ta):PE X (.UnaryOp op a pos) (tUn r ta):=by
 intro pins s σ H Q I h
 exact UnaryOp_ (thn (ha pins s σ H _ I h) fun v s1 ⟨x,H1,I1,r1,q1⟩=>ho pins s1 σ H1 x v Q I1 r1 q1)
theorem opI {f:Value→Value→Sem Value} {C:Int→Int→Prop} {g:Int→Int→Int}
  (rule:∀ (i j:Int) (t u:Tok) (s:Shared) (Q:Value→Shared→Prop) (E:Value→Shared→Prop),C i j→Q (.int (g i j) s.toks) { s with toks:=s.toks + 1 }→wpAny (model X.prog X.w) X.A (f (.int i t) (.int j u)) Q E s) :
  OpR X f (rI C fun i j=>.int (g i j)):=by
 intro pins s σ H x y v u Q I rx ry h
 obtain ⟨i,j,rfl,rfl,hc,q⟩:=h
 obtain ⟨t,rfl⟩:=rx
 obtain ⟨t',rfl⟩:=ry
 exact rule i j t t' s _ _ hc ⟨.int (g i j),H,I.tok _,⟨_,rfl⟩,q⟩
theorem Zln {f:Value→Value→Sem Value} {g:Int→Int→Int}
  (rule:∀ (i j:Int) (t u:Tok) (s:Shared) (Q:Value→Shared→Prop) (E:Value→Shared→Prop),Q (.int (g i j) s.toks) { s with toks:=s.toks + 1 }→wpAny (model X.prog X.w) X.A (f (.int i t) (.int j u)) Q E s) :
  OpR X f (rI0 fun i j=>.int (g i j)):=by
 intro pins s σ H x y v u Q I rx ry h
 obtain ⟨i,j,rfl,rfl,q⟩:=h
 obtain ⟨t,rfl⟩:=rx
 obtain ⟨t',rfl⟩:=ry
 exact rule i j t t' s _ _ ⟨.int (g i j),H,I.tok _,⟨_,rfl⟩,q⟩
theorem Zlo {f:Value→Value→Sem Value} {g:Int→Int→Bool}
  (rule:∀ (i j:Int) (t u:Tok) (s:Shared) (Q:Value→Shared→Prop) (E:Value→Shared→Prop),Q (.bool (g i j)) s→wpAny (model X.prog X.w) X.A (f (.int i t) (.int j u)) Q E s) :
  OpR X f (rI0 fun i j=>.bl (g i j)):=by
 intro pins s σ H x y v u Q I rx ry h
 obtain ⟨i,j,rfl,rfl,q⟩:=h
 obtain ⟨t,rfl⟩:=rx
 obtain ⟨t',rfl⟩:=ry
 exact rule i j t t' s _ _ ⟨.bl (g i j),H,I,rfl,q⟩
def ZlZ (i j:Int):Prop:=0 < j∧j < 1073741824
def ZlY (i j:Int):Prop:=0≤j∧j≤1000000∧i.natAbs < 2 ^ 64
def CMul (i j:Int):Prop:=(-(2 ^ 64) < i∧i < 2 ^ 64)∨(-(2 ^ 64) < j∧j < 2 ^ 64)
theorem CMul.ok {i j:Int} (h:CMul i j):IntMulOk i j:=by
 rcases h with ⟨h1,h2⟩ | ⟨h1,h2⟩
 ·exact .of_left (intBits_le_64 h1 h2)
 ·exact .of_right (intBits_le_64 h1 h2)
theorem ZU:OpR X (binaryOp .Add) (rI0 fun i j=>.int (i + j)):=Zln fun _ _ _ _ _ _ _ q=>add_int q
theorem YM:OpR X (binaryOp .Sub) (rI0 fun i j=>.int (i - j)):=Zln fun _ _ _ _ _ _ _ q=>sub_int q
theorem Xm:OpR X (binaryOp .Mult) (rI CMul fun i j=>.int (i * j)):=opI fun _ _ _ _ _ _ _ hc q=>mul_int q hc.ok
theorem Xc:OpR X (binaryOp .FloorDiv) (rI ZlZ fun i j=>.int (i / j)):=opI fun i j _ _ _ _ _ hc q=>by
 have h1:(0:Int) < j:=hc.1
 have h2:j < 1073741824:=hc.2
 exact floordiv_int (by omega) (by rw [Int.fdiv_eq_ediv_of_nonneg i (by omega)]; exact q) (.inl (PyProof.noPylong_small (by omega)))
theorem Ya:OpR X (binaryOp .Mod) (rI (fun _ j=>0 < j) fun i j=>.int (i % j)):=opI fun i j _ _ _ _ _ hc q=>by
 have h1:(0:Int) < j:=hc
 exact mod_int' (by omega) (by rw [Int.fmod_eq_emod_of_nonneg i (by omega)]; exact q)
theorem ZhE:OpR X (binaryOp .Pow) (rI ZlY fun i j=>.int (i ^ j.toNat)):=opI fun _ _ _ _ _ _ _ hc q=>pow_int_small hc.1 hc.2.1 hc.2.2 q
theorem unI {f:Value→Sem Value} {g:Int→Int}
  (rule:∀ (i:Int) (t:Tok) (s:Shared) (Q:Value→Shared→Prop) (E:Value→Shared→Prop),Q (.int (g i) s.toks) { s with toks:=s.toks + 1 }→wpAny (model X.prog X.w) X.A (f (.int i t)) Q E s) :
  UnR X f (rU fun i=>.int (g i)):=by
 intro pins s σ H x v Q I rx h
 obtain ⟨i,rfl,q⟩:=h
 obtain ⟨t,rfl⟩:=rx
 exact rule i t s _ _ ⟨.int (g i),H,I.tok _,⟨_,rfl⟩,q⟩
theorem Ye:UnR X (unaryOp .USub) (rU fun i=>.int (-i)):=unI fun _ _ _ _ _ q=>neg_int q
end
def Zlk:V→V→Bool
 | .non,.non=>true | .non,.int _=>true | .int _,.non=>true | .non,.bl _=>true | .bl _,.non=>true | .non,.str _=>true | .str _,.non=>true
 | .int _,.int _=>true | .bl _,.bl _=>true | .str _,.str _=>true | .byt _,.byt _=>true
 | .int _,.str _=>true | .str _,.int _=>true | .bl _,.str _=>true | .str _,.bl _=>true
 | _,_=>false
def rEq:R2:=fun x y H Q=>Zlk x y=true∧Q (.bl (decide (x=y))) H
def rNe:R2:=fun x y H Q=>Zlk x y=true∧Q (.bl (!decide (x=y))) H
theorem Zcw {i j:Int}:decide (V.int i=V.int j)=(i == j):=by
 rw [Bool.eq_iff_iff]
 simp
theorem ZhO {i j:Bool}:decide (V.bl i=V.bl j)=(i == j):=by
 rw [Bool.eq_iff_iff]
 simp
theorem dec_str {i j:Str}:decide (V.str i=V.str j)=(i == j):=by
 rw [Bool.eq_iff_iff]
 simp
theorem ZfF {i j:Array UInt8}:decide (V.byt i=V.byt j)=(i.toList == j.toList):=by
 rw [Bool.eq_iff_iff]
 cases i
 cases j
 simp
section
variable {X:Cx} {a b c:Expr} {ta tb tc:TE} {pos:Pos}
theorem ZF {pins:List (Addr × Obj)} {σ:St} {H:Hp} {s:Shared} {Q:VK} {k k':Bool} (I:Inv X pins σ H s) (q:Q (.bl k) H) (e:k=k'):EP X pins σ Q (.bool k') s:=by
 subst e
 exact ⟨.bl k,H,I,rfl,q⟩
theorem Zap:OpR X (compareOp .Eq) rEq:=by
 intro pins s σ H x y v u Q I rx ry h
 obtain ⟨hs,q⟩:=h
 cases x with
 | non =>
  cases rx
  cases y with
  | non=>cases ry; exact PySem.EqNone.eq_none_none (ZF I q (by simp))
  | bl j=>cases ry; exact PySem.EqNone.eq_none_bool (ZF I q (by simp))
  | int j=>obtain ⟨t',rfl⟩:=ry; exact PySem.EqNone.eq_none_int (ZF I q (by simp))
  | str j=>obtain ⟨t',rfl⟩:=ry; exact PySem.EqNone.eq_none_str (ZF I q (by simp))
  | _=>exact absurd (show false=true from hs) Bool.false_ne_true
 | bl i =>
  cases rx
  cases y with
  | non=>cases ry; exact PySem.EqNone.eq_bool_none (ZF I q (by simp))
  | bl j=>cases ry; exact eq_bool (ZF I q ZhO)
  | str j=>obtain ⟨t',rfl⟩:=ry; exact PySem.EqMixed.eq_bool_str (ZF I q (by simp))
  | _=>exact absurd (show false=true from hs) Bool.false_ne_true
 | int i =>
  obtain ⟨t,rfl⟩:=rx
  cases y with
  | non=>cases ry; exact PySem.EqNone.eq_int_none (ZF I q (by simp))
  | int j=>obtain ⟨t',rfl⟩:=ry; exact eq_int (ZF I q Zcw)
  | str j=>obtain ⟨t',rfl⟩:=ry; exact PySem.EqMixed.eq_int_str (ZF I q (by simp))
  | _=>exact absurd (show false=true from hs) Bool.false_ne_true
 | str i =>
  obtain ⟨t,rfl⟩:=rx
  cases y with
  | non=>cases ry; exact PySem.EqNone.eq_str_none (ZF I q (by simp))
  | bl j=>cases ry; exact PySem.EqMixed.eq_str_bool (ZF I q (by simp))
  | int j=>obtain ⟨t',rfl⟩:=ry; exact PySem.EqMixed.eq_str_int (ZF I q (by simp))
  | str j=>obtain ⟨t',rfl⟩:=ry; exact eq_str (ZF I q dec_str)
  | _=>exact absurd (show false=true from hs) Bool.false_ne_true
 | byt i =>
  obtain ⟨t,rfl⟩:=rx
  cases y with
  | byt j=>obtain ⟨t',rfl⟩:=ry; exact PySem.W.eq_bytes (ZF I q ZfF)
  | _=>exact absurd (show false=true from hs) Bool.false_ne_true
 | _=>cases y <;> exact absurd (show false=true from hs) Bool.false_ne_true
theorem ZjD:OpR X (compareOp .NotEq) rNe:=by
 intro pins s σ H x y v u Q I rx ry h
 obtain ⟨hs,q⟩:=h
 cases x with
 | non =>
  cases rx
  cases y with
  | non=>cases ry; exact PySem.EqNone.ne_none_none (ZF I q (by simp))
  | bl j=>cases ry; exact PySem.EqNone.ne_none_bool (ZF I q (by simp))
  | int j=>obtain ⟨t',rfl⟩:=ry; exact PySem.EqNone.ne_none_int (ZF I q (by simp))
  | str j=>obtain ⟨t',rfl⟩:=ry; exact PySem.EqNone.ne_none_str (ZF I q (by simp))
  | _=>exact absurd (show false=true from hs) Bool.false_ne_true
 | bl i =>
  cases rx
  cases y with
  | non=>cases ry; exact PySem.EqNone.ne_bool_none (ZF I q (by simp))
  | bl j=>cases ry; exact ne_bool (ZF I q (congrArg not ZhO))
  | str j=>obtain ⟨t',rfl⟩:=ry; exact PySem.EqMixed.ne_bool_str (ZF I q (by simp))
  | _=>exact absurd (show false=true from hs) Bool.false_ne_true
 | int i =>
  obtain ⟨t,rfl⟩:=rx
  cases y with
  | non=>cases ry; exact PySem.EqNone.ne_int_none (ZF I q (by simp))
  | int j=>obtain ⟨t',rfl⟩:=ry; exact ne_int (ZF I q (congrArg not Zcw))
  | str j=>obtain ⟨t',rfl⟩:=ry; exact PySem.EqMixed.ne_int_str (ZF I q (by simp))
  | _=>exact absurd (show false=true from hs) Bool.false_ne_true
 | str i =>
  obtain ⟨t,rfl⟩:=rx
  cases y with
  | non=>cases ry; exact PySem.EqNone.ne_str_none (ZF I q (by simp))
  | bl j=>cases ry; exact PySem.EqMixed.ne_str_bool (ZF I q (by simp))
  | int j=>obtain ⟨t',rfl⟩:=ry; exact PySem.EqMixed.ne_str_int (ZF I q (by simp))
  | str j=>obtain ⟨t',rfl⟩:=ry; exact ne_str (ZF I q (congrArg not dec_str))
  | _=>exact absurd (show false=true from hs) Bool.false_ne_true
 | byt i =>
  obtain ⟨t,rfl⟩:=rx
  cases y with
  | byt j=>obtain ⟨t',rfl⟩:=ry; exact PySem.W.ne_bytes (ZF I q (congrArg not ZfF))
  | _=>exact absurd (show false=true from hs) Bool.false_ne_true
 | _=>cases y <;> exact absurd (show false=true from hs) Bool.false_ne_true
theorem ZkU:OpR X (compareOp .Lt) (rI0 fun i j=>.bl (decide (i < j))):=Zlo fun _ _ _ _ _ _ _ q=>lt_int q
theorem Za9:OpR X (compareOp .Gt) (rI0 fun i j=>.bl (decide (j < i))):=Zlo fun _ _ _ _ _ _ _ q=>gt_int q
theorem ZjE:OpR X (compareOp .Is) (fun x y H Q=>y = .non∧Q (.bl (decide (x = .non))) H):=by
 intro pins s σ H x y v u Q I rx ry h
 obtain ⟨rfl,q⟩:=h
 cases ry
 refine is_none_gen (ZF I q ?_)
 cases x <;> first
  | (cases rx; rfl)
  | (obtain ⟨t,rfl⟩:=rx; rfl)
theorem Zik:OpR X (compareOp .IsNot) (fun x y H Q=>y = .non∧Q (.bl (!decide (x = .non))) H):=by
 intro pins s σ H x y v u Q I rx ry h
 obtain ⟨rfl,q⟩:=h
 cases ry
 refine isnot_none_gen (ZF I q ?_)
 cases x <;> first
  | (cases rx; rfl)
  | (obtain ⟨t,rfl⟩:=rx; rfl)
theorem OpR.or {f:Value→Value→Sem Value} {r r':R2} (h:OpR X f r) (h':OpR X f r'):OpR X f (fun x y H Q=>r x y H Q∨r' x y H Q):=by
 intro pins s σ H x y v u Q I rx ry q
 rcases q with q | q
 ·exact h pins s σ H x y v u Q I rx ry q
 ·exact h' pins s σ H x y v u Q I rx ry q
theorem ZJ (b:Expr) {op:CmpOp} (h:op≠.In:=by decide) (h2:op≠.NotIn:=by decide):behindInMarks op b=false:=by
 have e1:(op == CmpOp.In)=false:=by cases op <;> first | rfl | exact absurd rfl h
 have e2:(op == CmpOp.NotIn)=false:=by cases op <;> first | rfl | exact absurd rfl h2
 cases b <;> simp [behindInMarks,e1,e2]
theorem ZeW {op:CmpOp} {r:R2} (ho:OpR X (compareOp op) r) (ha:PE X a ta) (hb:PE X b tb) (hm:behindInMarks op b=false):PE X (.Compare a [op] [b] pos) (tOp r ta tb):=by
 intro pins s σ H Q I h
 exact wpAny_Compare1 (Zk9 ha hb I h fun v u s2 x y H2 I2 rx ry q=>ho pins s2 σ H2 x y v u Q I2 rx ry q) hm
def Zkt (t:TE):TT:=fun σ H Q=>t σ H fun x H'=>∃ k,x = .bl k∧Q k H'
theorem ZA {op:CmpOp} {r:R2} (ho:OpR X (compareOp op) r) (ha:PE X a ta) (hb:PE X b tb) (hm:behindInMarks op b=false):PT X (.Compare a [op] [b] pos) (Zkt (tOp r ta tb)):=by
 intro pins s σ H Q I h
 refine wpAny_isTrue_Compare1 (thn (ha pins s σ H _ I h) fun v s1 ⟨x,H1,I1,r1,q1⟩=>thn (hb pins s1 σ H1 _ I1 q1) fun u s2 ⟨y,H2,I2,r2,q2⟩ =>
  thn (ho pins s2 σ H2 x y v u _ I2 r1 r2 q2) fun c s3 ⟨z,H3,I3,r3,k,e,q3⟩=>?_) hm
 subst e
 cases r3
 exact wpAny_truthy_bool ⟨H3,I3,q3⟩
def ZlV (K:PySem.W.Frag) (x:V) (H:Hp) (k:Bool):Prop :=
 match x with
 | .non=>k=false
 | .bl b=>k=b
 | .int i=>k=(i != 0)
 | .str y=>y.length≤sizeLine∧k=((y.length:Int) != 0)
 | .byt y=>y.size≤sizeLine∧k=((y.size:Int) != 0)
 | .ref p=>(∃ xs,SqL K H p xs∧k = !xs.isEmpty)∨(∃ xs,SqT K H p xs∧k = !xs.isEmpty)∨∃ kvs,H p=some (.dK kvs)∧k = !kvs.isEmpty
 | _=>False
theorem ZdK {κ:Type} {kvs:List (κ × V)} {vs:List (κ × Value)} (r:KV kvs vs):(!vs.isEmpty) = !kvs.isEmpty:=by
 cases r <;> rfl
theorem JS {xs:List V} {its:List Value} (r:Vals xs its):(!its.toArray.isEmpty) = !xs.isEmpty:=by
 cases r <;> simp
theorem JP:(sizeLine:Nat) < 2 ^ 63:=by rw [sizeLine_eq]; decide
theorem Zlj:ZlW X (fun x H Q=>∃ k,ZlV X.K x H k∧Q k H):=by
 intro pins s σ H x v Q I rx h
 obtain ⟨k,e,q⟩:=h
 have hl:=JP
 have hs:sizeLine=16777216:=sizeLine_eq
 cases x with
 | non =>
  cases rx
  have e':k=false:=e
  subst e'
  exact truthy_none ⟨H,I,q⟩
 | bl b =>
  cases rx
  have e':k=b:=e
  subst e'
  exact wpAny_truthy_bool ⟨H,I,q⟩
 | int i =>
  obtain ⟨t,rfl⟩:=rx
  have e':k=(i != 0):=e
  subst e'
  exact PySem.P.truthy_int ⟨H,I,q⟩
 | str y =>
  obtain ⟨t,rfl⟩:=rx
  obtain ⟨hy,e'⟩:y.length≤sizeLine∧k=((y.length:Int) != 0):=e
  subst e'
  exact PySem.P.truthy_str (by omega) ⟨H,I.tok _,q⟩
 | byt y =>
  obtain ⟨t,rfl⟩:=rx
  obtain ⟨hy,e'⟩:y.size≤sizeLine∧k=((y.size:Int) != 0):=e
  subst e'
  exact PySem.W.truthy_bytes (by omega) ⟨H,I.tok _,q⟩
 | ref p =>
  cases rx
  have e':(∃ xs,SqL X.K H p xs∧k = !xs.isEmpty)∨(∃ xs,SqT X.K H p xs∧k = !xs.isEmpty)∨∃ kvs,H p=some (.dK kvs)∧k = !kvs.isEmpty:=e
  rcases e' with ⟨xs,hx,e'⟩ | ⟨xs,hx,e'⟩ | ⟨kvs,hx,e'⟩
  ·subst e'
   obtain ⟨its,r,pl,hz⟩:=I.list hx
   have hlen:=r.length
   exact wpAny_truthy_list pl.isList (by simp only [List.size_toArray]; omega) ⟨H,I.tok _,by rw [JS r]; exact q⟩
  ·subst e'
   obtain ⟨its,r,pl,hz⟩:=I.tuple hx
   have hlen:=r.length
   exact truthy_tuple pl (by simp only [List.size_toArray]; omega) ⟨H,I.tok _,by rw [JS r]; exact q⟩
  ·subst e'
   obtain ⟨hz,hS,vs,r,m⟩:kvs.length≤sizeLine∧(p == sysModules)=false∧∃ vs,KV kvs vs∧s.heap.DictOf (Zp X.prog X.w) p vs:=I.hok p _ hx
   have hlen:kvs.length=vs.length:=Paired.length r
   exact wpAny_truthy_dict hS m (by omega) ⟨H,I.tok _,by rw [ZdK r]; exact q⟩
 | _=>exact (show False from e).elim
theorem ZQ:OpR X (binaryOp .Add) (fun x y H Q=>∃ i j,x = .str i∧y = .str j∧i.length + j.length≤sizeLine∧Q (.str (i ++ j)) H):=by
 intro pins s σ H x y v u Q I rx ry h
 obtain ⟨i,j,rfl,rfl,hz,q⟩:=h
 obtain ⟨t,rfl⟩:=rx
 obtain ⟨t',rfl⟩:=ry
 exact add_str (fun t' tk=>⟨.str (i ++ j),H,I.tok _,⟨_,rfl⟩,q⟩) hz
theorem Y5 {x:V} {us:List Value} (r:Vals [x] us):∃ u,us=[u]∧RelV x u:=by
 cases r with
 | cons r1 r2=>cases r2; exact ⟨_,rfl,r1⟩
theorem Zf4 {x y:V} {us:List Value} (r:Vals [x,y] us):∃ u w',us=[u,w']∧RelV x u∧RelV y w':=by
 cases r with
 | cons r1 r2 =>
  cases r2 with
  | cons r3 r4=>cases r4; exact ⟨_,_,rfl,r1,r3⟩
theorem ZbA (hc:X.calm=true):CallR X (.builtin "min") (fun xs H Q=>∃ i j,xs=[.int i,.int j]∧Q (.int (if j < i then j else i)) H):=by
 intro pins s σ H xs us Q I r h
 obtain ⟨i,j,rfl,q⟩:=h
 obtain ⟨u,w',rfl,⟨t,rfl⟩,⟨t',rfl⟩⟩:=Zf4 r
 refine min_two_ints (I.ok.hd hc) fun h' tk k=>⟨_,H,I.kept k,?_,q⟩
 by_cases hj:j < i
 ·rw [if_pos hj,if_pos hj]; exact ⟨_,rfl⟩
 ·rw [if_neg hj,if_neg hj]; exact ⟨_,rfl⟩
def ZiX (K:PySem.W.Frag) (x:V) (H:Hp) (n:Nat):Prop :=
 match x with
 | .str y=>y.length≤sizeLine∧n=y.length
 | .byt y=>y.size≤sizeLine∧n=y.size
 | .ref p=>(∃ xs,SqL K H p xs∧n=xs.length)∨∃ xs,SqT K H p xs∧n=xs.length
 | _=>False
theorem Zq:CallR X (.builtin "len") (fun xs H Q=>∃ x n,xs=[x]∧ZiX X.K x H n∧Q (.int n) H):=by
 intro pins s σ H xs us Q I r h
 obtain ⟨x,n,rfl,e,q⟩:=h
 obtain ⟨u,rfl,rx⟩:=Y5 r
 have hl:=JP
 have hs:sizeLine=16777216:=sizeLine_eq
 cases x with
 | str y =>
  obtain ⟨t,rfl⟩:=rx
  obtain ⟨hy,e'⟩:y.length≤sizeLine∧n=y.length:=e
  subst e'
  exact len_str (by omega) ⟨.int _,H,I.tok _,⟨_,rfl⟩,q⟩
 | byt y =>
  obtain ⟨t,rfl⟩:=rx
  obtain ⟨hy,e'⟩:y.size≤sizeLine∧n=y.size:=e
  subst e'
  exact PySem.W.len_bytes (by omega) ⟨.int _,H,I.tok _,⟨_,rfl⟩,q⟩
 | ref p =>
  cases rx
  have e':(∃ xs,SqL X.K H p xs∧n=xs.length)∨∃ xs,SqT X.K H p xs∧n=xs.length:=e
  rcases e' with ⟨xs,hx,e'⟩ | ⟨xs,hx,e'⟩
  ·subst e'
   obtain ⟨its,r',pl,hz⟩:=I.list hx
   have hlen:=r'.length
   exact Calls.call_len_list pl.isList (by simp only [List.size_toArray]; omega) ⟨.int xs.length,H,I.tok _,⟨_,by simp only [List.size_toArray]; rw [hlen]⟩,q⟩
  ·subst e'
   obtain ⟨its,r',pl,hz⟩:=I.tuple hx
   have hlen:=r'.length
   exact len_tuple pl (by simp only [List.size_toArray]; omega) ⟨.int xs.length,H,I.tok _,⟨_,by simp only [List.size_toArray]; rw [hlen]⟩,q⟩
 | _=>exact (show False from e).elim
end
structure ObjM (h:Heap) (x dx C:Addr) (mA:Str→Option Value):Prop where
 obj:h.get? x=some (PySem.W.instObj C dx)
 ns:h.Ns1 dx mA
 ne:dx≠x
theorem Zfj {h:Heap} {dx:Addr} {mA:Str→Option Value} (n:h.Ns1 dx mA):∃ od,h.get? dx=some od∧∀ name,PySem.W.lookIn name od=some (mA name):=by
 obtain ⟨o,es,ep,ho,hd,hk,_,hm⟩:=n
 refine ⟨o,ho,fun name=>?_⟩
 have e:=hm name
 unfold nsFind findBy at e
 rw [← Array.find?_toList] at e
 unfold PySem.W.lookIn
 rw [hd]
 dsimp only
 split
 ·rename_i y q
  rw [q] at e
  exact congrArg some e
 ·rename_i q
  rw [q] at e
  have a:es.toList.any (·.refKey)=false:=by
   rw [List.any_eq_false]
   intro y hy
   obtain ⟨z,t,hkey⟩:=hk y (Array.mem_toList_iff.mp hy)
   simp [DictEntry.refKey,hkey]
  have a':¬ es.toList.any (·.refKey)=true:=by rw [a]; exact Bool.false_ne_true
  rw [if_neg a']
  exact congrArg some e
theorem ObjM.look {h:Heap} {x dx C:Addr} {mA:Str→Option Value} (I:ObjM h x dx C mA):∃ od,PySem.W.InstAt h x (PySem.W.instObj C dx) C (some od)∧∀ name,PySem.W.lookIn name od=some (mA name) :=
 let ⟨od,ho,hl⟩:=Zfj I.ns
 ⟨od,⟨I.obj,rfl,rfl,ho⟩,hl⟩
section
variable {prog:Program} {w:World} {A:Around} {E:Value→Shared→Prop} {s:Shared} {K:PySem.W.Frag} {x dx C f:Addr} {mA:Str→Option Value} {name:Str} {v:Value}
end
theorem RelO.some_of {v:V} {o:Option Value} (r:RelO (some v) o):∃ u,o=some u∧RelV v u:=by
 cases o with
 | none=>exact (show False from r).elim
 | some u=>exact ⟨u,rfl,r⟩
section
variable {P:Program} {w:World} {H H':Hp} {h h':Heap} {a C dx:Addr} {fs fs':List (Str × V)}
theorem ZiH (hok:HOk P w H h) (e:H a=some (.ins C dx fs)):∃ mA,ObjM h a dx C mA∧(∀ f,RelO (fs.lookup f) (mA f))∧PySem.Within mA (fs.map (·.1))∧fs.length≤1000∧H dx=some (.own a):=by
 obtain ⟨d,z,ne,ob,mA,n,r,q⟩:=(show ObjOk P w H h a (.ins C dx fs) from hok a _ e)
 exact ⟨mA,⟨ob,n,ne⟩,r,q,z,d⟩
end
structure Cls (K:PySem.W.Frag) (C:Addr):Prop where
 pg:PySem.W.plainGet K C Str.empty=true
 hd:PySem.W.hasDictIn K C=true
 po:PySem.W.plainOver K C=true
 sa:PySem.W.findIn K (.ref C) "__setattr__" = some (some (.builtin "object.__setattr__"))
theorem Cls.get {K:PySem.W.Frag} {C:Addr} (c:Cls K C) (f:Str):PySem.W.plainGet K C f=true:=c.pg
section
variable {X:Cx} {pins:List (Addr × Obj)} {σ:St} {H:Hp} {s:Shared} {a C dx:Addr} {fs:List (Str × V)} {f:Str} {v:V} {A:Around} {E:Value→Shared→Prop}
end
section
variable {X:Cx} {o e value:Expr} {f:Str} {pos pos' tpos:Pos} {ta tv:TE}
end
section
variable {X:Cx} {pins:List (Addr × Obj)} {σ:St} {H:Hp} {s:Shared} {A:Around} {E:Value→Shared→Prop} {Q:Value→Shared→Prop} {c:Value} {b:Bool}
inductive Zdq (K:PySem.W.Frag) (H:Hp):V→Value→Prop where
 | non:Zdq K H .non (.type "NoneType")
 | bl (x:Bool):Zdq K H (.bl x) (.type "bool")
 | int (i:Int):Zdq K H (.int i) (.type "int")
 | str (x:Str):Zdq K H (.str x) (.type "str")
 | flt (x:UInt64):Zdq K H (.flt x) (.type "float")
 | lst {a:Addr} {xs:List V} (e:H a=some (.lst xs)):Zdq K H (.ref a) (.type "list")
 | frz {a:Addr} {o:Obj} {xs:List V} (e:H a=some (.frz o (.lst xs))):Zdq K H (.ref a) (.type "list")
 | tup {a:Addr} {xs:List V} (e:H a=some (.tup xs)):Zdq K H (.ref a) (.type "tuple")
 | dK {a:Addr} {kvs:List (Key × V)} (e:H a=some (.dK kvs)):Zdq K H (.ref a) (.type "dict")
 | dT {a:Addr} {kvs:List (List Key × V)} (e:H a=some (.dT kvs)):Zdq K H (.ref a) (.type "dict")
 | ins {a C dx:Addr} {fs:List (Str × V)} (e:H a=some (.ins C dx fs)) (cl:Cls K C) (ha:PySem.W.findIn K (.ref C) "__class__" = some (some (.builtin "object.__class__")))
   (hn:PySem.W.specialIn K (.builtin "object.__class__") "__get__" = some (some (.builtin "getset_descriptor.__get__"))) (htk:PySem.W.takesIn K (.builtin "object.__class__")=some true)
   (hm:PySem.W.mroIn K C (.type "object")=some true):Zdq K H (.ref a) (.ref C)
theorem Zft {x:V} {u t:Value} (I:Inv X pins σ H s) (rx:RelV x u) (ty:Zdq X.K H x t) (e:PySem.W.kitOne X.K t c=some b) (h:∀ tk,Q (.bool b) { s with toks:=tk }) :
  wpAny (model X.prog X.w) A (call (.builtin "isinstance") [u,c]) Q E s:=by
 cases ty with
 | non=>cases (show u=Value.none from rx); exact PySem.W.kia_one PySem.W.kitx_none I.kIn True.intro e (fun z=>nomatch z) h
 | bl y=>cases (show u=Value.bool y from rx); exact PySem.W.kia_one PySem.W.kitx_bool I.kIn True.intro e (fun z=>nomatch z) h
 | int i=>obtain ⟨t,q⟩:=(show ∃ t,u=Value.int i t from rx); cases q; exact PySem.W.kia_one PySem.W.kitx_int I.kIn True.intro e (fun z=>nomatch z) h
 | str y=>obtain ⟨t,q⟩:=(show ∃ t,u=Value.str y t from rx); cases q; exact PySem.W.kia_one PySem.W.kitx_str I.kIn True.intro e (fun z=>nomatch z) h
 | flt y=>obtain ⟨t,q⟩:=(show ∃ t,u=Value.float y t from rx); cases q; exact PySem.W.kia_one PySem.W.kitx_float I.kIn True.intro e (fun z=>nomatch z) h
 | @lst a xs ea =>
  cases (show u=Value.ref a from rx)
  obtain ⟨_,_,n,_,h1⟩:=(show ObjOk X.prog X.w H s.heap a (.lst xs) from I.hok a _ ea)
  exact PySem.W.kia_one PySem.W.kitx_list I.kIn ⟨_,h1,rfl⟩ e (fun z=>nomatch z) h
 | @frz a ob xs ea =>
  cases (show u=Value.ref a from rx)
  obtain ⟨_,_,_,n,_,h1⟩:=(show ObjOk X.prog X.w H s.heap a (.frz ob (.lst xs)) from I.hok a _ ea)
  exact PySem.W.kia_one PySem.W.kitx_list I.kIn ⟨_,h1,rfl⟩ e (fun z=>nomatch z) h
 | @tup a xs ea =>
  cases (show u=Value.ref a from rx)
  obtain ⟨_,_,_,p,_⟩:=(show ObjOk X.prog X.w H s.heap a (.tup xs) from I.hok a _ ea)
  obtain ⟨o,h1,h2,_⟩:=p
  exact PySem.W.kia_one PySem.W.kitx_tuple I.kIn ⟨o,h1,h2⟩ e (fun z=>nomatch z) h
 | @dK a kvs ea =>
  cases (show u=Value.ref a from rx)
  obtain ⟨_,_,vs,_,p⟩:=(show ObjOk X.prog X.w H s.heap a (.dK kvs) from I.hok a _ ea)
  obtain ⟨o,es,ep,h1,h2,_⟩:=p
  exact PySem.W.kia_one PySem.W.kitx_dict I.kIn ⟨o,h1,h2.1⟩ e (fun z=>nomatch z) h
 | @dT a kvs ea =>
  cases (show u=Value.ref a from rx)
  obtain ⟨_,_,xs,_,o,es,ep,h1,h2,_⟩:=(show ObjOk X.prog X.w H s.heap a (.dT kvs) from I.hok a _ ea)
  exact PySem.W.kia_one PySem.W.kitx_dict I.kIn ⟨o,h1,h2.1⟩ e (fun z=>nomatch z) h
 | @ins a C dx fs ea cl ha hn htk hm =>
  cases (show u=Value.ref a from rx)
  obtain ⟨mA,O,_⟩:=ZiH I.hok ea
  obtain ⟨od,J,_⟩:=O.look
  exact PySem.W.kia_one (PySem.W.kitx_own (cl.get _) cl.hd ha hn htk hm) I.kIn J e (fun z=>nomatch z) h
end
structure Room (k:Nat) (A:Around):Prop where
 hd:A.handled=none
 dp:A.depth + 3 * k + 5 < recursionLimit
 un:A.units + 16 * k + 200 < cLine
theorem Room.mono {j k:Nat} {A:Around} (r:Room k A) (h:j≤k):Room j A:=⟨r.hd,by have:=r.dp; omega,by have:=r.un; omega⟩
theorem Room.deeper {k:Nat} {A:Around} (r:Room (k + 1) A) (env:Env):Room k (A.deeper env) :=
 ⟨r.hd,by have:=r.dp; show A.depth + 1 + 3 * k + 5 < _; omega,by have:=r.un; show A.units + 3 + 16 * k + 200 < _; omega⟩
theorem Room.depth {k:Nat} {A:Around} (r:Room k A):A.depth < recursionLimit:=by have:=r.dp; omega
theorem Room.units {k:Nat} {A:Around} (r:Room k A):A.units + 64 < cLine:=by have:=r.un; omega
def ZlA:TA:=fun _ H Q=>Q [] H
def ZkD (ta:TE) (tr:TA):TA:=fun σ H Q=>ta σ H fun x H1=>tr σ H1 fun xs H2=>Q (x :: xs) H2
section
variable {X:Cx} {e:Expr} {es:List Expr} {te:TE} {t:TA} {pos:Pos}
theorem Zd:PA X [] ZlA:=fun _ _ _ _ H Q I h=>Calls.spliced_nil ⟨[],H,I,.nil,h⟩
theorem Zb (ha:PE X e te) (hr:PA X es t) (hs:starEach (e :: es) X.env=(false,eval e X.env) :: starEach es X.env:=by rfl):PA X (e :: es) (ZkD te t):=by
 intro pos pins s σ H Q I h
 rw [hs]
 show wpAny _ _ (spliced ((false,eval e X.env) :: backTo pos (starEach es X.env))) _ _ s
 refine Calls.spliced_cons (thn (ha pins s σ H _ I h) fun u s1 ⟨x,H1,I1,r1,q1⟩=>?_)
 exact thn (hr pos pins s1 σ H1 _ I1 q1) fun us s2 ⟨xs,H2,I2,r2,q2⟩=>⟨x :: xs,H2,I2,.cons r1 r2,q2⟩
def Zlw (t:TA):TE:=fun σ H Q=>t σ H fun xs H1=>xs.length≤sizeLine∧∀ p,H1 p=none→Q (.ref p) (upd H1 p (.tup xs))
def ZlB (t:TA):TE:=fun σ H Q=>t σ H fun xs H1=>xs.length≤sizeLine∧∀ p,H1 p=none→Q (.ref p) (upd H1 p (.lst xs))
theorem YF {x1} (h:PA X es t):PE X (.Tuple es x1 pos) (Zlw t):=by
 intro pins s σ H Q I hq
 refine wpAny_Tuple_spliced (thn (h pos pins s σ H _ I hq) fun us s1 ⟨xs,H1,I1,r,z,q⟩=>⟨by rw [← r.length]; exact z,?_⟩)
 have hf:H1 s1.heap.objs.size=none:=I1.hok.fresh (Nat.le_refl _)
 refine ⟨.ref s1.heap.objs.size,upd H1 s1.heap.objs.size (.tup xs),I1.laid (t':=s1.toks) (fun b u e=>Heap.get?_push_of_some _ e) (Nat.le_refl _) ?_,rfl,q _ hf⟩
 exact ⟨z,us,r,⟨_,Heap.get?_push_size _ rfl,rfl,_,rfl⟩,ZcY rfl rfl⟩
theorem ZN (h:PA X es t):PE X (.List es pos) (ZlB t):=by
 intro pins s σ H Q I hq
 refine wpAny_List_spliced (thn (h pos pins s σ H _ I hq) fun us s1 ⟨xs,H1,I1,r,z,q⟩=>⟨by rw [← r.length]; exact z,?_⟩)
 have hf:H1 s1.heap.objs.size=none:=I1.hok.fresh (Nat.le_refl _)
 refine ⟨.ref s1.heap.objs.size,upd H1 s1.heap.objs.size (.lst xs),I1.laid (t':=s1.toks) (fun b u e=>Heap.get?_push_of_some _ e) (Nat.le_refl _) ?_,rfl,q _ hf⟩
 exact ⟨z,us,0,r,Heap.get?_push_size _ rfl⟩
end
abbrev Sp:=List V→Hp→VK→XK→Prop
abbrev CXT:=List Env→Hp→Shared→XK→Value→Shared→Prop
structure Zkn (P:Program) (w:World) (K:PySem.W.Frag) (mg:Str→Option Value) (base:Heap) (A:Around) (outer:List Env) (s:Shared) (H:Hp):Prop where
 frames:A.frames=some outer
 mod:Mod K mg base
 bs:∀ b o,base.get? b=some o→s.heap.get? b=some o∧H b=none
 bsz:base.objs.size≤s.heap.objs.size
 funs:s.heap.FunFrames base outer
 frf:∀ b∈frs outer,H b=none
 hok:HOk P w H s.heap
 bare:AllBare s.gens
def CE (outer:List Env) (P:Program) (w:World) (H:Hp) (s:Shared) (Q:VK) (u:Value) (s':Shared):Prop :=
 ∃ v H',s'.os=s.os∧AllBare s'.gens∧Un (frs outer) [] H H' s.heap s'.heap∧HOk P w H' s'.heap∧RelV v u∧Q v H'
def CR (CX:CXT) (outer:List Env) (P:Program) (w:World) (H:Hp) (s:Shared) (Q:VK) (E:XK) (r:Result) (s':Shared):Prop :=
 match r with
 | .ok (.ret u)=>CE outer P w H s Q u s'
 | .ok _=>False
 | .error e=>CX outer H s E e s'
structure FnOk (P:Program) (w:World) (K:PySem.W.Frag) (mg:Str→Option Value) (base:Heap) (CX:CXT) (k:Nat) (f:Addr) (fd:FuncData) (ps:List Str) (sp:Sp):Prop where
 len:∀ vs H Q E,sp vs H Q E→vs.length=ps.length
 run:∀ (A:Around) (outer:List Env) (s:Shared) (H:Hp) (args:Args) (us:List Value) (vs:List V) (Q:VK) (E:XK),Room k A→Zkn P w K mg base A outer s H→BindsTo s fd args (ps.zip us)→Vals vs us→sp vs H Q E →
  codeAny (model P w) A (.call (.ref f) args) (CR CX outer P w H s Q E) s
theorem FnOk.mono {P:Program} {w:World} {K:PySem.W.Frag} {mg:Str→Option Value} {base:Heap} {CX:CXT} {j k:Nat} {f:Addr} {fd:FuncData} {ps:List Str} {sp:Sp} (F:FnOk P w K mg base CX j f fd ps sp) (h:j≤k) :
  FnOk P w K mg base CX k f fd ps sp:=⟨F.len,fun A outer s H args us vs Q E hr=>F.run A outer s H args us vs Q E (hr.mono h)⟩
section
variable {X:Cx} {pins:List (Addr × Obj)} {σ:St} {H:Hp} {s s':Shared}
theorem Inv.env0 (I:Inv X pins σ H s):Zkn X.prog X.w X.K X.mg X.base X.A X.stack s H :=
 ⟨I.ok.frames,I.ok.mod,I.bs,Nat.le_trans I.ok.bsz I.sz,I.stack,I.stkFree,I.hok,I.bare⟩
theorem Inv.after {Q:VK} {u:Value} (I:Inv X pins σ H s) (h:CE X.stack X.prog X.w H s Q u s'):EP X pins σ Q u s':=by
 obtain ⟨v,H',os,bare,un,hok,r,q⟩:=h
 obtain ⟨hh,g,d,t,os'⟩:=s'
 obtain rfl:os'=s.os:=os
 exact ⟨v,H',I.call (h':=hh) (g':=g) (d':=d) (t':=t) (ch:=[]) un hok bare (fun b z=>absurd z (by simp)),r,q⟩
end
def ZhZ (sp:Sp) (dvs:List V) (E:XK) (t:TA):TE:=fun σ H Q=>t σ H fun vs H1=>sp (vs ++ dvs) H1 Q E
def Binds (K:PySem.W.Frag) (fd:FuncData) (ps:List Str) (ds:List Value):Prop :=
 ∀ (s:Shared) (us:List Value),K.In s.heap→(us ++ ds).length=ps.length→BindsTo s fd ⟨us,[]⟩ (ps.zip (us ++ ds))
theorem Binds.all {K:PySem.W.Frag} {fd:FuncData} {ps:List Str} (h:∀ us:List Value,us.length=ps.length→bindArgs fd ⟨us,[]⟩=pure (ps.zip us)):Binds K fd ps []:=fun s us _ hl=>by
 rw [List.append_nil] at hl ⊢
 exact .of_eq (h us hl)
def Zdr (CX:CXT) (X:Cx) (E:XK):Prop:=∀ (pins:List (Addr × Obj)) (σ:St) (H:Hp) (s:Shared) (e:Value) (s':Shared),Inv X pins σ H s→CX X.stack H s E e s'→X.xe e s'
section
variable {X:Cx} {CX:CXT} {k:Nat} {f C:Addr} {fd:FuncData} {ps:List Str} {sp:Sp} {dvs:List V} {ds:List Value} {E:XK} {x m:Str} {p pos apos:Pos} {e o:Expr} {es:List Expr} {ta:TE} {t:TA}
theorem Zjm {pins:List (Addr × Obj)} {σ:St} {H:Hp} {s:Shared} {Q:VK} {us:List Value} {vs:List V} (F:FnOk X.prog X.w X.K X.mg X.base CX k f fd ps sp) (hr:Room k X.A) (hb:Binds X.K fd ps ds) (hd:Vals dvs ds) (hx:Zdr CX X E)
  (I:Inv X pins σ H s) (r:Vals vs us) (h:sp (vs ++ dvs) H Q E):wpAny (model X.prog X.w) X.A (call (.ref f) us) (EP X pins σ Q) X.xe s:=by
 have r2:Vals (vs ++ dvs) (us ++ ds):=r.append hd
 have hl:(us ++ ds).length=ps.length:=by rw [← r2.length]; exact F.len _ _ _ _ h
 refine wpAny_call (codeAny_mono (F.run X.A X.stack s H ⟨us,[]⟩ (us ++ ds) (vs ++ dvs) Q E hr I.env0 (hb s us I.kIn hl) r2 h) fun r s' hq=>?_)
 cases r with
 | error e=>exact hx pins σ H s e s' I hq
 | ok fl =>
  cases fl with
  | ret u=>exact I.after hq
  | next=>exact False.elim hq
  | brk=>exact False.elim hq
  | cont=>exact False.elim hq
theorem ZeX (F:FnOk X.prog X.w X.K X.mg X.base CX k f fd ps sp) (hr:Room k X.A) (hg:Gl X x) (hm:X.mg x=some (.ref f)) (hk:PySem.W.keepIn X.K (.ref f)=true) (hb:Binds X.K fd ps ds) (hd:Vals dvs ds) (hx:Zdr CX X E)
  (ha:PA X (e :: es) t) (hdb:(x == ("__debug__" : Str))=false:=by decide) (he:starEach (e :: es) X.env=(false,eval e X.env) :: starEach es X.env:=by rfl) (hpl:(backTo pos (starEach es X.env)).any (·.1)=false:=by rfl) :
  PE X (.Call (.Name x p) (e :: es) [] pos) (ZhZ sp dvs E t):=by
 intro pins s σ H Q I h
 refine wpAny_Call_Name_kw (Zfl I hg hm ?_ hdb)
 refine PySem.W.callWith_K (h₀:=X.base) I.ok.mod.kin hk (thn (ha pos pins s σ H _ I h) fun us s1 ⟨vs,H1,I1,r,q⟩=>⟨I1.kIn,?_⟩) he hpl
 exact Zjm F hr hb hd hx I1 r q
end
section
variable {X:Cx} {CX:CXT} {k:Nat} {f C:Addr} {fd:FuncData} {ps ks:List Str} {sp:Sp} {E:XK} {x m:Str} {p pos apos kpos:Pos} {e o:Expr} {es:List Expr} {kws:List Keyword} {te ta:TE} {t tk:TA} {nm:Option Str}
variable {g:List Value→List Value→List Value} {gV:List V→List V→List V}
end
structure Zn (N P:List Str) (sc:Scope):Prop where
 kind:sc.kind = .function
 co:sc.isCoroutine=false
 gen:sc.isGenerator=false
 nd:N.Nodup
 pre:N.take P.length=P
 par:∀ x∈P,sc.names.lookup x=some .local∨sc.names.lookup x=some .cell
 nofree:∀ y∈sc.names,y.2≠.free
theorem ZbB {kindOf:Str→Option NameKind} {x:Str}:∀ {binds:List (Str × Value)} {m:Str→Option Value},(∀ v,(x,v)∉binds)→bindL kindOf binds m x=m x
 | [],_,_=>rfl
 | (n,v) :: r,m,h=>by
  unfold bindL
  rw [ZbB fun w hw=>h w (List.mem_cons_of_mem _ hw)]
  split
  ·have:x≠n:=by rintro rfl; exact h v List.mem_cons_self
   simp [this]
  ·rfl
theorem ZbD {kindOf:Str→Option NameKind} {x:Str}:∀ {binds:List (Str × Value)} {m:Str→Option Value},(∀ v,(x,v)∉binds)→bindC kindOf binds m x=m x
 | [],_,_=>rfl
 | (n,v) :: r,m,h=>by
  unfold bindC
  rw [ZbD fun w hw=>h w (List.mem_cons_of_mem _ hw)]
  split
  ·rfl
  ·have:x≠n:=by rintro rfl; exact h v List.mem_cons_self
   simp [this]
theorem ZbC {kindOf:Str→Option NameKind} {x:Str} {v:Value}:∀ {P:List Str} {vs:List Value} {i:Nat} {m:Str→Option Value},P.Nodup→P[i]?=some x→vs[i]?=some v→kindOf x=some .local →
  bindL kindOf (P.zip vs) m x=some v
 | [],_,_,_,_,h,_,_=>by simp at h
 | _ :: _,[],_,_,_,_,h,_=>by simp at h
 | p :: P,w :: vs,0,m,nd,h1,h2,hk=>by
  simp at h1 h2; subst h1; subst h2
  show bindL kindOf ((p,w) :: P.zip vs) m p=_
  unfold bindL
  rw [ZbB fun v hv=>(List.nodup_cons.mp nd).1 (List.of_mem_zip hv).1,if_pos hk]
  simp
 | p :: P,w :: vs,i + 1,m,nd,h1,h2,hk=>by
  show bindL kindOf ((p,w) :: P.zip vs) m x=_
  unfold bindL
  exact ZbC (i:=i) (List.nodup_cons.mp nd).2 (by simpa using h1) (by simpa using h2) hk
theorem ZbE {kindOf:Str→Option NameKind} {x:Str} {v:Value}:∀ {P:List Str} {vs:List Value} {i:Nat} {m:Str→Option Value},P.Nodup→P[i]?=some x→vs[i]?=some v→kindOf x≠some .local →
  bindC kindOf (P.zip vs) m x=some v
 | [],_,_,_,_,h,_,_=>by simp at h
 | _ :: _,[],_,_,_,_,h,_=>by simp at h
 | p :: P,w :: vs,0,m,nd,h1,h2,hk=>by
  simp at h1 h2; subst h1; subst h2
  show bindC kindOf ((p,w) :: P.zip vs) m p=_
  unfold bindC
  rw [ZbD fun v hv=>(List.nodup_cons.mp nd).1 (List.of_mem_zip hv).1,if_neg hk]
  simp
 | p :: P,w :: vs,i + 1,m,nd,h1,h2,hk=>by
  show bindC kindOf ((p,w) :: P.zip vs) m x=_
  unfold bindC
  exact ZbE (i:=i) (List.nodup_cons.mp nd).2 (by simpa using h1) (by simpa using h2) hk
def start (N:List Str) (vs:List V):St:=vs.map some ++ List.replicate (N.length - vs.length) none
def ZfI (CX:CXT) (P:Program) (w:World) (K:PySem.W.Frag) (mg:Str→Option Value) (base:Heap) (N:List Str) (qual:Str) (scope:Scope) (f:Addr) (cd:Value) (A:Around) (outer:List Env) (s:Shared) (H:Hp) (E:XK):Cx where
 prog:=P
 w:=w
 K:=K
 mg:=mg
 base:=base
 A:=A.deeper (envOfC qual scope s.heap.objs.size f cd)
 N:=N
 s₀:=s
 H₀:=H
 env:=envOfC qual scope s.heap.objs.size f cd
 outer:=outer
 stack:=envOfC qual scope s.heap.objs.size f cd :: outer
 ex:=[]
 calm:=true
 fn:=fun _=>true
 pn:=[]
 xe:=fun e s'=>wpAny (model P w) (A.deeper (envOfC qual scope s.heap.objs.size f cd)) (leaving (envOfC qual scope s.heap.objs.size f cd) e) (fun _ s''=>CX outer H s E e s'') (fun e' s''=>CX outer H s E e' s'') s'
theorem Zdl {sc:Scope} {n:Nat} {x:Str} (h:sc.names.lookup x=some .cell):∃ c,(cellsFrom n sc.names []).lookup x=some c:=by
 have q:=PySem.W.cellsFrom_some sc.names n [] (.inl h)
 exact Option.isSome_iff_exists.mp q
theorem Zfu {CX:CXT} {P:Program} {w:World} {K:PySem.W.Frag} {mg:Str→Option Value} {base:Heap} {N ps:List Str} {qual:Str} {scope:Scope} {f:Addr} {cd:Value} {A:Around} {outer:List Env} {s s1:Shared} {H:Hp} {E:XK} {us:List Value} {vs:List V}
  (S:Zn N ps scope) (hd:A.handled=none) (e0:Zkn P w K mg base A outer s H) (hl:vs.length=ps.length) (r:Vals vs us)
  (x:InCallC s s.heap.objs.size (bindL (envOfC qual scope s.heap.objs.size f cd).kindOf (ps.zip us) fun _=>none) (cellsFrom (s.heap.objs.size + 1) scope.names []) (bindC (envOfC qual scope s.heap.objs.size f cd).kindOf (ps.zip us) fun _=>none) s1) :
  Inv (ZfI CX P w K mg base N qual scope f cd A outer s H E) [] (start N vs) H s1:=by
 have hpl:ps.length≤N.length:=by have:=congrArg List.length S.pre; rw [List.length_take] at this; omega
 obtain ⟨h1,tk,rfl,hk⟩:=x.done
 have noA:∀ b:Addr,b∉(ZfI CX P w K mg base N qual scope f cd A outer s H E).ex:=fun b z=>absurd (show b∈([]:List Addr) from z) (by simp)
 refine ⟨⟨e0.mod,S.kind,rfl,rfl,Nat.le_refl _,fun y z c h1 h2=>?_,fun y hy=>?_,fun y c _ h=>?_,fun _=>hd,Around.frames_deeper e0.frames,.inr ⟨rfl,rfl⟩,fun b z=>absurd z (noA b),e0.bs,e0.bsz,fun b _ _=>noA b,fun b z=>absurd z (noA b),e0.funs,e0.frf⟩,
  rfl,e0.bare,Un.kept hk,⟨_,x.toInCall.ns,fun i y v h1 h2 h3=>?_⟩,fun y c h=>⟨_,x.cell y c h⟩,e0.hok.fresh (Nat.le_refl _),fun y c h=>?_,fun p hp=>absurd (show p∈([]:List (Addr × Obj)) from hp) (by simp),e0.hok.kept hk,?_⟩
 ·exact name_of_addr x.apart (PySem.mem_of_lookup h1) (PySem.mem_of_lookup h2)
 ·have hy:scope.names.lookup y=some .cell∨scope.names.lookup y=some .free:=hy
  rcases hy with hy | hy
  ·exact Zdl hy
  ·exact absurd rfl (S.nofree _ (PySem.mem_of_lookup hy))
 ·exact Nat.le_of_lt (x.above y c (PySem.mem_of_lookup h))
 ·have hi:i < vs.length:=by
   unfold start at h2
   by_cases hi:i < vs.length
   ·exact hi
   ·rw [List.getElem?_append_right (by simpa using hi)] at h2
    rw [List.getElem?_replicate] at h2
    split at h2 <;> cases h2
  have ha:vs[i]?=some v:=by
   unfold start at h2
   rw [List.getElem?_append_left (by simpa using hi),List.getElem?_map] at h2
   cases e:vs[i]? with
   | none=>rw [e] at h2; cases h2
   | some a=>rw [e] at h2; cases h2; rfl
  obtain ⟨u,hu,rv⟩:=r.get ha
  have hp:ps[i]?=some y:=by
   rw [← S.pre,List.getElem?_take_of_lt (by omega)]; exact h1
  have ndP:ps.Nodup:=by rw [← S.pre]; exact S.nd.sublist (List.take_sublist _ _)
  refine ⟨u,rv,?_⟩
  rcases S.par y (List.mem_of_getElem? hp) with k | k
  ·exact .inl ⟨k,ZbC ndP hp hu k⟩
  ·obtain ⟨c,e⟩:=Zdl (n:=s.heap.objs.size + 1) k
   refine .inr ⟨.inl k,c,e,?_⟩
   have q:=x.cell y c e
   rw [ZbE ndP hp hu (by show scope.names.lookup y≠_; rw [k]; decide)] at q
   exact q
 ·exact e0.hok.fresh (Nat.le_of_lt (x.above y c (PySem.mem_of_lookup h)))
 ·unfold start
  show _=N.length
  rw [List.length_append,List.length_map,List.length_replicate]
  omega
theorem Zj5 {CX:CXT} {P:Program} {w:World} {K:PySem.W.Frag} {mg:Str→Option Value} {base:Heap} {k:Nat} {f:Addr} {name qual:Str} {params:Arguments} {body:List Stmt} {scope:Scope} {dV kV doc pm cdv ct oc:Value} {an od:Option Addr}
  {osl:Array (Option Value)} {N ps:List Str} {sp:Sp} (lk:K.lookup f=some ⟨oc,od,.func (PySem.W.fnOf name qual params body scope dV kV doc pm an cdv ct),osl⟩) (hcd:PySem.W.codeIn K cdv qual=true) (S:Zn N ps scope)
  (len:∀ vs H Q E,sp vs H Q E→vs.length=ps.length)
  (hbody:∀ (A:Around) (outer:List Env) (s:Shared) (H:Hp) (vs:List V) (Q:VK) (E:XK),Room k (A.deeper (envOfC qual scope s.heap.objs.size f cdv))→sp vs H Q E →
   ∃ t,PSs (ZfI CX P w K mg base N qual scope f cdv A outer s H E) body t∧t { nx:=fun _ H'=>Q .non H',rt:=Q } (start N vs) H) :
  FnOk P w K mg base CX (k + 1) f (PySem.W.fnOf name qual params body scope dV kV doc pm an cdv ct) ps sp:=by
 refine ⟨len,fun A outer s H args us vs Q E hr e0 hb r hsp=>?_⟩
 have hl:=len _ _ _ _ hsp
 have KX:K.In s.heap:=e0.mod.kin.keeps fun b o e=>(e0.bs b o e).1
 have lim:s.heap.NoLimit:=e0.mod.nolimit.keeps fun b o e=>(e0.bs b o e).1
 have hkind:∀ y∈ps.zip us,scope.names.lookup y.1=some .local∨(scope.names.lookup y.1=some .cell∧((cellsFrom (s.heap.objs.size + 1) scope.names []).lookup y.1).isSome=true):=fun ⟨n,v⟩ hy=>by
  rcases S.par n (List.of_mem_zip hy).1 with q | q
  ·exact .inl q
  ·exact .inr ⟨q,PySem.W.cellsFrom_some _ _ _ (.inl q)⟩
 refine codeAny_call_function hr.depth (KX _ _ lk) rfl S.co S.gen rfl (PySem.W.codeRec_of KX hcd) (hb _ _ _ _ ?_)
 refine wpAny_newFunctionEnv_cells S.kind hkind fun env he s1 x=>?_
 subst he
 refine ⟨lim.keeps x.toInCall.keep,codeAny_func ?_⟩
 obtain ⟨t,ht,hq⟩:=hbody A outer s H vs Q E (hr.deeper _) hsp
 have I:Inv (ZfI CX P w K mg base N qual scope f cdv A outer s H E) [] (start N vs) H s1:=Zfu S hr.hd e0 hl r x
 refine wpAny_mono (ht [] s1 (start N vs) H _ I hq) (fun fl s' hs=>?_) fun e s' hs=>hs
 have fin:∀ {σ':St} {H':Hp} {v:V} {u:Value},Inv (ZfI CX P w K mg base N qual scope f cdv A outer s H E) [] σ' H' s'→RelV v u→Q v H'→CE outer P w H s Q u s' :=
  fun {σ' H' v u} J rv q=>⟨v,H',J.os,J.bare,J.base,J.hok,rv,q⟩
 cases fl with
 | ret u =>
  obtain ⟨v,σ',H',J,rv,q⟩:=hs
  exact fin J rv q
 | next =>
  obtain ⟨σ',H',J,q⟩:=hs
  exact fin (v:=V.non) (u:=Value.none) J rfl q
 | brk =>
  obtain ⟨_,_,_,q⟩:=hs
  exact False.elim q
 | cont =>
  obtain ⟨_,_,_,q⟩:=hs
  exact False.elim q
section
variable {X:Cx} {x:Str} {p pos:Pos} {e:Expr} {es:List Expr} {t:TA} {id T:String} {r:List V→Hp→VK→Prop}
def tCB (r:List V→Hp→VK→Prop) (t:TA):TE:=fun σ H Q=>t σ H fun vs H1=>r vs H1 Q
theorem Zk (hc:CallR X (.builtin id) r) (hg:Gl X x) (hm:X.mg x=none) (hv:bootBuiltins x=some (.builtin id)) (ha:PA X (e :: es) t) (hn:x≠"__name__":=by decide) (hdb:(x == ("__debug__" : Str))=false:=by decide)
  (he:starEach (e :: es) X.env=(false,eval e X.env) :: starEach es X.env:=by rfl) (hpl:(backTo pos (starEach es X.env)).any (·.1)=false:=by rfl):PE X (.Call (.Name x p) (e :: es) [] pos) (tCB r t):=by
 intro pins s σ H Q I h
 refine wpAny_Call_Name_kw (Xp I hg hm hv ?_ hn hdb)
 exact PyProof.Rows.callWith_builtin1 (thn (ha pos pins s σ H _ I h) fun us s1 ⟨vs,H1,I1,r1,q1⟩=>hc pins s1 σ H1 vs us Q I1 r1 q1) he hpl
theorem Zv (hc:CallR X (.type T) r) (hg:Gl X x) (hm:X.mg x=none) (hv:bootBuiltins x=some (.type T)) (ha:PA X (e :: es) t) (hn:x≠"__name__":=by decide) (hdb:(x == ("__debug__" : Str))=false:=by decide)
  (he:starEach (e :: es) X.env=(false,eval e X.env) :: starEach es X.env:=by rfl) (hpl:(backTo pos (starEach es X.env)).any (·.1)=false:=by rfl):PE X (.Call (.Name x p) (e :: es) [] pos) (tCB r t):=by
 intro pins s σ H Q I h
 refine wpAny_Call_Name_kw (Xp I hg hm hv ?_ hn hdb)
 exact PyProof.Rows.callWith_type1 (thn (ha pos pins s σ H _ I h) fun us s1 ⟨vs,H1,I1,r1,q1⟩=>hc pins s1 σ H1 vs us Q I1 r1 q1) he hpl
end
section
variable {κ:Type} [DecidableEq κ]
def Y4 (kvs:List (κ × V)) (k:κ):Option V:=(kvs.find? fun kv=>decide (kv.1=k)).map (·.2)
def Xw (kvs:List (κ × V)) (k:κ) (v:V):List (κ × V) :=
 if (kvs.any fun kv=>decide (kv.1=k))=true then kvs.map (fun kv=>if kv.1=k then (kv.1,v) else kv) else kvs ++ [(k,v)]
def Zbu (kvs:List (κ × V)) (k:κ):List (κ × V):=kvs.filter fun kv=>decide (kv.1≠k)
theorem X0 {p:κ × V} {r:List (κ × V)} {k:κ} (e:p.1=k):Y4 (p :: r) k=some p.2:=by simp [Y4,List.find?_cons,e]
theorem X1 {p:κ × V} {r:List (κ × V)} {k:κ} (e:¬ p.1=k):Y4 (p :: r) k=Y4 r k:=by simp [Y4,List.find?_cons,e]
theorem X2 (k:κ):∀ kvs:List (κ × V),(kvs.any fun kv=>decide (kv.1=k))=(Y4 kvs k).isSome
 | []=>rfl
 | p :: r=>by
  rw [List.any_cons]
  by_cases e:p.1=k
  ·simp only [X0 e,decide_eq_true e,Bool.true_or,Option.isSome_some]
  ·rw [X1 e,decide_eq_false e,Bool.false_or]; exact X2 k r
theorem Yz (kvs:List (κ × V)) (k:κ) (v:V):(Xw kvs k v).length≤kvs.length + 1:=by
 unfold Xw
 split
 ·rw [List.length_map]; omega
 ·rw [List.length_append,List.length_cons,List.length_nil]; omega
theorem X6 {kvs:List (κ × V)} {k:κ} (v:V) (h:Y4 kvs k=none):Xw kvs k v=kvs ++ [(k,v)]:=by
 unfold Xw
 rw [X2,h]
 exact if_neg (by decide)
theorem RelO.isSome_eq {o:Option V} {u:Option Value} (r:RelO o u):o.isSome=u.isSome:=by
 cases o with
 | none=>cases u with
  | none=>rfl
  | some _=>exact (show False from r).elim
 | some _=>cases u with
  | none=>exact (show False from r).elim
  | some _=>rfl
theorem RelO.getD {o:Option V} {u:Option Value} {d:V} {d':Value} (r:RelO o u) (rd:RelV d d'):RelV (o.getD d) (u.getD d'):=by
 cases o with
 | none=>cases u with
  | none=>exact rd
  | some _=>exact (show False from r).elim
 | some _=>cases u with
  | none=>exact (show False from r).elim
  | some _=>exact r
theorem KV.val {kvs:List (κ × V)} {vs:List (κ × Value)} (r:KV kvs vs) (k:κ):RelO (Y4 kvs k) (valueAt vs k):=by
 unfold KV at r
 induction r with
 | nil=>exact True.intro
 | @cons p q ps qs h t ih =>
  obtain ⟨h1,h2⟩:=h
  by_cases e:p.1=k
  ·have e':q.1=k:=h1.symm.trans e
   have b:valueAt (q :: qs) k=some q.2:=by simp [valueAt,List.find?_cons,e']
   rw [X0 e,b]; exact h2
  ·have e':¬ q.1=k:=fun z=>e (h1.trans z)
   have b:valueAt (q :: qs) k=valueAt qs k:=by simp [valueAt,List.find?_cons,e']
   rw [X1 e,b]; exact ih
theorem KV.any {kvs:List (κ × V)} {vs:List (κ × Value)} (r:KV kvs vs) (k:κ):(kvs.any fun kv=>decide (kv.1=k))=vs.any fun kv=>decide (kv.1=k):=by
 unfold KV at r
 induction r with
 | nil=>rfl
 | cons h t ih=>rw [List.any_cons,List.any_cons,ih,h.1]
theorem KV.repl {kvs:List (κ × V)} {vs:List (κ × Value)} (r:KV kvs vs) (k:κ) {y:V} {u:Value} (ry:RelV y u) :
  KV (kvs.map fun kv=>if kv.1=k then (kv.1,y) else kv) (vs.map fun kv=>if kv.1=k then (kv.1,u) else kv):=by
 unfold KV at r ⊢
 induction r with
 | nil=>exact .nil
 | @cons p q ps qs h t ih =>
  rw [List.map_cons,List.map_cons]
  refine .cons ?_ ih
  obtain ⟨h1,h2⟩:=h
  by_cases e:p.1=k
  ·rw [if_pos e,if_pos (h1.symm.trans e)]; exact ⟨h1,ry⟩
  ·rw [if_neg e,if_neg (fun z=>e (h1.trans z))]; exact ⟨h1,h2⟩
theorem KV.put {kvs:List (κ × V)} {vs:List (κ × Value)} (r:KV kvs vs) (k:κ) {y:V} {u:Value} (ry:RelV y u):KV (Xw kvs k y) (stored vs k u):=by
 unfold Xw stored
 rw [r.any k]
 by_cases e:(vs.any fun kv=>decide (kv.1=k))=true
 ·rw [if_pos e,if_pos e]; exact r.repl k ry
 ·rw [if_neg e,if_neg e]; exact Paired.snoc r ⟨rfl,ry⟩
theorem KV.drop {kvs:List (κ × V)} {vs:List (κ × Value)} (r:KV kvs vs) (k:κ):KV (Zbu kvs k) (without vs k):=by
 unfold KV at r ⊢
 unfold Zbu without
 induction r with
 | nil=>exact .nil
 | @cons p q ps qs h t ih =>
  obtain ⟨h1,h2⟩:=h
  rw [List.filter_cons,List.filter_cons]
  by_cases e:p.1=k
  ·have a:¬ decide (p.1≠k)=true:=by simp [e]
   have b:¬ decide (q.1≠k)=true:=by simp [h1.symm.trans e]
   rw [if_neg a,if_neg b]; exact ih
  ·have e':¬ q.1=k:=fun z=>e (h1.trans z)
   have a:decide (p.1≠k)=true:=by simp [e]
   have b:decide (q.1≠k)=true:=by simp [e']
   rw [if_pos a,if_pos b]; exact .cons ⟨h1,h2⟩ ih
theorem KV.keys {kvs:List (κ × V)} {vs:List (κ × Value)} (r:KV kvs vs):kvs.map (·.1)=vs.map (·.1):=by
 unfold KV at r
 induction r with
 | nil=>rfl
 | cons h t ih=>rw [List.map_cons,List.map_cons,ih,h.1]
theorem KV.length {kvs:List (κ × V)} {vs:List (κ × Value)} (r:KV kvs vs):kvs.length=vs.length:=Paired.length r
theorem Zdi (kvs:List (κ × V)) (k:κ):(Zbu kvs k).length≤kvs.length:=List.length_filter_le _ _
end
theorem Jt {P:Program} {w:World} {k:Key} {u:Value} (r:RelV (kV k) u):(Zp P w).is k u=true:=by
 cases k with
 | inl i=>obtain ⟨t,e⟩:=(show ∃ t,u=Value.int i t from r); subst e; exact Zcm P w i t
 | inr x=>obtain ⟨t,e⟩:=(show ∃ t,u=Value.str x t from r); subst e; exact Xe P w x t
theorem Zbo {P:Program} {w:World}:∀ {ks:List Key} {us:List Value},Vals (ks.map kV) us→ItemsAre (Zp P w) ks us
 | [],_,r=>by rw [List.map_nil] at r; cases r; exact .nil
 | k :: ks,_,r=>by
  rw [List.map_cons] at r
  cases r with
  | cons h t=>exact .cons (Jt h) (Zbo t)
abbrev KT (H:Hp):List (List Key × V)→List (List Key × Addr × Value)→Prop:=Paired fun p q=>p.1=q.1∧H q.2.1=some (.tup (p.1.map kV))∧RelV p.2 q.2.2
theorem KT.val {H:Hp} {kvs:List (List Key × V)} {xs:List (List Key × Addr × Value)} (r:KT H kvs xs) (k:List Key):RelO (Y4 kvs k) ((atKey xs k).map (·.2)):=by
 induction r with
 | nil=>exact True.intro
 | @cons p q ps qs h t ih =>
  obtain ⟨h1,_,h2⟩:=h
  by_cases e:p.1=k
  ·have e':q.1=k:=h1.symm.trans e
   have b:atKey (q :: qs) k=some q.2:=by simp [atKey,List.find?_cons,e']
   rw [X0 e,b]; exact h2
  ·have e':¬ q.1=k:=fun z=>e (h1.trans z)
   have b:atKey (q :: qs) k=atKey qs k:=by simp [atKey,List.find?_cons,e']
   rw [X1 e,b]; exact ih
theorem KT.repl {H:Hp} {kvs:List (List Key × V)} {xs:List (List Key × Addr × Value)} (r:KT H kvs xs) (k:List Key) {y:V} {u:Value} (ry:RelV y u) :
  KT H (kvs.map fun kv=>if kv.1=k then (kv.1,y) else kv) (xs.map (putAt k u)):=by
 induction r with
 | nil=>exact .nil
 | @cons p q ps qs h t ih =>
  rw [List.map_cons,List.map_cons]
  refine .cons ?_ ih
  obtain ⟨h1,h2,h3⟩:=h
  unfold putAt
  by_cases e:p.1=k
  ·rw [if_pos e,if_pos (h1.symm.trans e)]; exact ⟨h1,h2,ry⟩
  ·rw [if_neg e,if_neg (fun z=>e (h1.trans z))]; exact ⟨h1,h2,h3⟩
theorem KT.put {H:Hp} {kvs:List (List Key × V)} {xs:List (List Key × Addr × Value)} (r:KT H kvs xs) (k:List Key) {b:Addr} {y:V} {u:Value} (hb:H b=some (.tup (k.map kV))) (ry:RelV y u) :
  KT H (Xw kvs k y) (storedH xs k b u):=by
 have e:(kvs.any fun kv=>decide (kv.1=k))=(atKey xs k).isSome:=by
  rw [X2,(r.val k).isSome_eq,Option.isSome_map]
 unfold Xw storedH
 rw [e]
 by_cases q:(atKey xs k).isSome=true
 ·rw [if_pos q,if_pos q]; exact r.repl k ry
 ·rw [if_neg q,if_neg q]; exact Paired.snoc r ⟨rfl,hb,ry⟩
theorem KT.keeps {H H':Hp} {kvs:List (List Key × V)} {xs:List (List Key × Addr × Value)} (r:KT H kvs xs) (ht:∀ b ys,H b=some (.tup ys)→H' b=some (.tup ys)):KT H' kvs xs :=
 Paired.mapP r fun _ _ z=>⟨z.1,ht _ _ z.2.1,z.2.2⟩
section
variable {P:Program} {w:World} {H:Hp} {h:Heap} {a:Addr}
theorem Zjn {u:HO} (ok:HOk P w H h) (e:Rd H a u):ObjOk P w H h a u:=e.ok ok
theorem ZdT {kvs:List (Key × V)} (ok:HOk P w H h) (e:Rd H a (.dK kvs)):kvs.length≤sizeLine∧(a == sysModules)=false∧∃ vs,KV kvs vs∧h.DictOf (Zp P w) a vs :=
 show ObjOk P w H h a (.dK kvs) from Zjn ok e
theorem Jz {kvs:List (Key × V)} (ok:HOk P w H h) (e:H a=some (.dK kvs)):kvs.length≤sizeLine∧(a == sysModules)=false∧∃ vs,KV kvs vs∧h.DictOf (Zp P w) a vs:=ZdT ok (.inl e)
theorem Zbn {ks:List Key} (ok:HOk P w H h) (e:H a=some (.tup (ks.map kV))):(tupleKind (Zp P w)).is h ks a:=by
 obtain ⟨_,its,r,⟨o,h1,h2,n,h3⟩,_⟩:=(show ObjOk P w H h a (.tup (ks.map kV)) from ok a _ e)
 exact ⟨o,its.toArray,n,h1,h2,h3,by simpa using Zbo r⟩
theorem ZdS {kvs:List (List Key × V)} (ok:HOk P w H h) (e:Rd H a (.dT kvs)):kvs.length≤sizeLine∧(a == sysModules)=false ∧
  ∃ xs,KT H kvs xs∧h.DictOfH (tupleKind (Zp P w)) a xs:=by
 obtain ⟨z,y,xs,r,o,es,ep,h1,h2,h3,h4,h5⟩:=(show ObjOk P w H h a (.dT kvs) from Zjn ok e)
 refine ⟨z,y,xs,r,o,es,ep,h1,h2,h3,h4,fun x hx=>?_,h5⟩
 have all:∀ {l:List (List Key × V)} {m:List (List Key × Addr × Value)},KT H l m→∀ x∈m,(tupleKind (Zp P w)).is h x.1 x.2.1:=by
  intro l m q
  induction q with
  | nil=>intro x hx; exact nomatch hx
  | @cons p q ps qs hq t ih =>
   intro x hx
   rcases List.mem_cons.mp hx with e | hx
   ·subst e
    exact Zbn ok (by rw [← hq.1]; exact hq.2.1)
   ·exact ih x hx
 exact all r x hx
theorem Zk6 {kvs:List (List Key × V)} (ok:HOk P w H h) (e:H a=some (.dT kvs)):kvs.length≤sizeLine∧(a == sysModules)=false ∧
  ∃ xs,KT H kvs xs∧h.DictOfH (tupleKind (Zp P w)) a xs:=ZdS ok (.inl e)
end
def DGet (H:Hp) (a:Addr) (y:V) (r:Option V):Prop :=
 (∃ kvs k,Rd H a (.dK kvs)∧y=kV k∧r=Y4 kvs k)∨∃ kvs k b,Rd H a (.dT kvs)∧y = .ref b∧H b=some (.tup (k.map kV))∧r=Y4 kvs k
def DPut (H:Hp) (a:Addr) (y v:V) (H':Hp):Prop :=
 (∃ kvs k,H a=some (.dK kvs)∧y=kV k∧kvs.length < sizeLine∧H'=upd H a (.dK (Xw kvs k v))) ∨
 ∃ kvs k b,H a=some (.dT kvs)∧y = .ref b∧H b=some (.tup (k.map kV))∧kvs.length < sizeLine∧H'=upd H a (.dT (Xw kvs k v))
theorem DGet.k {H:Hp} {a:Addr} {kvs:List (Key × V)} {k:Key} (e:H a=some (.dK kvs)):DGet H a (kV k) (Y4 kvs k):=.inl ⟨kvs,k,.inl e,rfl,rfl⟩
theorem DPut.k {H:Hp} {a:Addr} {kvs:List (Key × V)} {k:Key} {v:V} (e:H a=some (.dK kvs)) (hl:kvs.length < sizeLine):DPut H a (kV k) v (upd H a (.dK (Xw kvs k v))):=.inl ⟨kvs,k,e,rfl,hl,rfl⟩
section
variable {X:Cx} {pins:List (Addr × Obj)} {σ:St} {H:Hp} {s:Shared} {a:Addr} {y v:V} {u r:Value} {o:Option V} {A:Around} {E:Value→Shared→Prop}
theorem Inv.big (I:Inv X pins σ H s):sysModules < s.heap.objs.size:=by
 have h:mainGlobals < s.heap.objs.size:=(I.mod.glob.keeps I.bk).lt
 exact Nat.lt_trans (by decide) h
theorem ZfH {Q:Value→Shared→Prop} (hu:A.units + 1 < cLine) (I:Inv X pins σ H s) (g:DGet H a y (some v)) (ry:RelV y u) (h:∀ w' s',Inv X pins σ H s'→RelV v w'→Q w' s') :
  wpAny (model X.prog X.w) A (getItem (.ref a) u) Q E s:=by
 rcases g with ⟨kvs,k,e,ey,l⟩ | ⟨kvs,k,b,e,ey,eb,l⟩
 ·subst ey
  obtain ⟨z,hd,vs,rel,dd⟩:=ZdT I.hok e
  obtain ⟨w',hw,rw'⟩:=RelO.some_of (v:=v) (o:=valueAt vs k) (by rw [l]; exact rel.val k)
  exact wpAny_getItem_of (Jt ry) dd.mapOf hw (h w' _ (I.tok _) rw')
 ·subst ey
  cases (show u=Value.ref b from ry)
  obtain ⟨z,hd,xs,rel,dd⟩:=ZdS I.hok e
  obtain ⟨w',hw,rw'⟩:=RelO.some_of (v:=v) (o:=(atKey xs k).map (·.2)) (by rw [l]; exact rel.val k)
  obtain ⟨p,hp,hp2⟩:=Option.map_eq_some_iff.mp hw
  refine wpAny_getItem_heap (tupleKind_room_in1 hu) (Zbn I.hok eb) dd hp ?_
  rw [hp2]
  exact h w' _ (I.tok _) rw'
theorem ZiP {Q:Value→Shared→Prop} (hu:A.units + 1 < cLine) (I:Inv X pins σ H s) (g:DGet H a y o) (ry:RelV y u) (h:∀ s',Inv X pins σ H s'→Q (.bool (!o.isSome)) s') :
  wpAny (model X.prog X.w) A (compareOp .NotIn u (.ref a)) Q E s:=by
 rcases g with ⟨kvs,k,e,ey,l⟩ | ⟨kvs,k,b,e,ey,eb,l⟩
 ·subst ey
  obtain ⟨z,hd,vs,rel,dd⟩:=ZdT I.hok e
  refine wpAny_notIn_of (Jt ry) hd dd.mapOf ?_
  rw [← (rel.val k).isSome_eq,← l]
  exact h _ (I.tok _)
 ·subst ey
  cases (show u=Value.ref b from ry)
  obtain ⟨z,hd,xs,rel,dd⟩:=ZdS I.hok e
  refine wpAny_notIn_heap (tupleKind_room_in1 hu) (Zbn I.hok eb) hd dd ?_
  have q:=(rel.val k).isSome_eq
  rw [Option.isSome_map] at q
  rw [← q,← l]
  exact h _ (I.tok _)
theorem XM {h':Heap} {t':Nat} {ob:HO} (I:Inv X pins σ H s) (mu:Mut (H a)) (hs:Heap.SameBut a s.heap h') (he:∃ q,h'.get? a=some q) (new:ObjOk X.prog X.w (upd H a ob) h' a ob) :
  Inv X pins σ (upd H a ob) { s with heap:=h',toks:=t' } :=
 I.write (x:=a) (e:=a) mu (.inl rfl) (fun b q hb z=>(hs.2 b hb).trans z) he new
theorem Zbw {P:Program} {w:World} {H':Hp} {h':Heap} {kvs:List (Key × V)} {vs:List (Key × Value)} (z:kvs.length≤sizeLine) (hd:(a == sysModules)=false) (rel:KV kvs vs) (dd:h'.DictOf (Zp P w) a vs) :
  ObjOk P w H' h' a (.dK kvs):=⟨z,hd,vs,rel,dd⟩
theorem ZfG {H':Hp} {Q:Unit→Shared→Prop} (hu:A.units + 1 < cLine) (I:Inv X pins σ H s) (g:DPut H a y v H') (ry:RelV y u) (rv:RelV v r) (h:∀ s',Inv X pins σ H' s'→Q () s') :
  wpAny (model X.prog X.w) A (setItem (.ref a) u r) Q E s:=by
 rcases g with ⟨kvs,k,e,ey,l,eH⟩ | ⟨kvs,k,b,e,ey,eb,l,eH⟩
 ·subst ey eH
  obtain ⟨z,hd,vs,rel,dd⟩:=Jz I.hok e
  have hz:vs.length≤sizeLine:=by rw [← rel.length]; exact z
  have hl:(Xw kvs k v).length≤sizeLine:=by have:=Yz kvs k v; omega
  refine wpAny_setItem_pairs (hsz:=hz) (Jt ry) dd fun h' dd' hs=>h _ ?_
  have he:∃ q,h'.get? a=some q:=let ⟨q,_,_,hq,_⟩:=dd'; ⟨q,hq⟩
  exact XM I (by rw [e]; exact True.intro) hs he (Zbw hl hd (rel.put k rv) dd')
 ·subst ey eH
  cases (show u=Value.ref b from ry)
  obtain ⟨z,hd,xs,rel,dd⟩:=Zk6 I.hok e
  have hz:xs.length≤sizeLine:=by rw [← Paired.length rel]; exact z
  have hl:(Xw kvs k v).length≤sizeLine:=by have:=Yz kvs k v; omega
  refine wpAny_setItem_heap (hsz:=hz) (tupleKind_room_in1 hu) (Zbn I.hok eb) dd fun h' dd' hs=>h _ ?_
  obtain ⟨q,es,ep,hq,h2,h3,h4,_,h5⟩:=dd'
  refine XM I (by rw [e]; exact True.intro) hs ⟨q,hq⟩ ⟨hl,hd,_,(rel.put k eb rv).keeps fun c ys ec=>?_,q,es,ep,hq,h2,h3,h4,h5⟩
  rw [Zj (ZgF ec e (fun z=>nomatch z))]
  exact ec
end
section
variable {X:Cx} {pins:List (Addr × Obj)} {σ:St} {H:Hp} {s:Shared} {a:Addr} {kvs:List (Key × V)} {k:Key} {u:Value} {A:Around} {E:Value→Shared→Prop}
theorem Zkb {Q:Unit→Shared→Prop} (I:Inv X pins σ H s) (e:H a=some (.dK kvs)) (ry:RelV (kV k) u) (l:(Y4 kvs k).isSome=true) (h:∀ s',Inv X pins σ (upd H a (.dK (Zbu kvs k))) s'→Q () s') :
  wpAny (model X.prog X.w) A (delItem (.ref a) u) Q E s:=by
 obtain ⟨z,hd,vs,rel,dd⟩:=Jz I.hok e
 refine wpAny_delItem_slot dd.typeIs (by decide) PySem.F.slot_dict_delitem
  (call_meetsIn PySem.F.slot_dict_delitem dd.typeIs PySem.F.entry_dict_delitem (PySem.F.args_dict_delitem_2 _ _) (meets_dict_delitem_pairs (Zp X.prog X.w) a (Jt ry)) ⟨vs,dd,by rw [← rel.length]; exact z,by rw [← (rel.val k).isSome_eq]; exact l,fun h' dd' hs=>h _ ?_⟩)
 have he:∃ q,h'.get? a=some q:=let ⟨q,_,_,hq,_⟩:=dd'; ⟨q,hq⟩
 exact XM I (by rw [e]; exact True.intro) hs he (Zbw (Nat.le_trans (Zdi kvs k) z) hd (rel.drop k) dd')
theorem Zk7 {v:V} {more:List Value} {Q:Value→Shared→Prop} (I:Inv X pins σ H s) (e:H a=some (.dK kvs)) (ry:RelV (kV k) u) (l:Y4 kvs k=some v) (hm:more=[]∨∃ x,more=[x])
  (h:∀ w' s',Inv X pins σ (upd H a (.dK (Zbu kvs k))) s'→RelV v w'→Q w' s'):wpAny (model X.prog X.w) A (call (.builtin "dict.pop") (.ref a :: u :: more)) Q E s:=by
 obtain ⟨z,hd,vs,rel,dd⟩:=Jz I.hok e
 obtain ⟨w',hw,rw'⟩:=RelO.some_of (v:=v) (o:=valueAt vs k) (by rw [← l]; exact rel.val k)
 have hp:(keyPart u).isSome=true:=by
  cases k with
  | inl i=>obtain ⟨t,q⟩:=(show ∃ t,u=Value.int i t from ry); subst q; rfl
  | inr x=>obtain ⟨t,q⟩:=(show ∃ t,u=Value.str x t from ry); subst q; rfl
 have ha:argsOk "dict.pop" ⟨.ref a :: u :: more,[]⟩:=by
  rcases hm with q | ⟨x,q⟩
  ·subst q; exact PySem.F.args_dict_pop_2 _ _
  ·subst q; exact PySem.F.args_dict_pop_3 _ _ _
 refine call_meetsIn PySem.F.slot_dict_pop dd.typeIs PySem.F.entry_dict_pop ha (meets_dict_pop_there (Zp X.prog X.w) a (Jt ry) more hm hp)
  ⟨vs,w',dd,by rw [← rel.length]; exact z,hw,fun h' dd' hs=>h w' _ ?_ rw'⟩
 have he:∃ q,h'.get? a=some q:=let ⟨q,_,_,hq,_⟩:=dd'; ⟨q,hq⟩
 exact XM I (by rw [e]; exact True.intro) hs he (Zbw (Nat.le_trans (Zdi kvs k) z) hd (rel.drop k) dd')
end
def Zlu (i:Expr):Prop:=∀ ov iv,subscripted i false ov iv=operate [ov,iv] (getItem ov iv)
theorem Zh2 {prog:Program} {w:World} {A:Around} {E:Value→Shared→Prop} {s:Shared} {env:Env} {value slice:Expr} {pos:Pos} {T id:String} {Q:Value→Shared→Prop}
  (hl:typeLookup (.type T) "__getitem__" = pure (some (.builtin id))) (hs:Zlu slice)
  (h:wpAny (model prog w) A (eval value env) (fun o s₁=>wpAny (model prog w) A (eval slice env) (fun i s₂=>s₂.TypeIs o T∧wpAny (model prog w) A (getItem o i) Q E s₂) E s₁) E s) :
  wpAny (model prog w) A (eval (.Subscript value slice pos) env) Q E s:=by
 refine Subscript_ (wpAny_mono h (fun o s₁ h₁=>wpAny_mono h₁ (fun i s₂ h₂=>?_) fun _ _ x=>x) fun _ _ x=>x)
 obtain ⟨hT,h₂⟩:=h₂
 unfold subscriptTail
 refine wpAny_bind ?_
 rw [getitemInPython_of_ne hT.not_modules]
 refine wpAny_bind (wpAny_specialOf hT hl ?_)
 have fin:wpAny (model prog w) A (subscripted slice false o i) (fun r s₃=>wpAny (model prog w) A (letTemporaryGo value o r >>= fun _=>pure r) Q E s₃) E s₂:=by
  rw [hs o i]
  exact wpAny_operating (wpAny_mono h₂ (fun r s₃ h₃=>wpAny_bind (wpAny_letTemporaryGo (wpAny_pure h₃))) fun _ _ x=>x)
 first
  | exact wpAny_pure (wpAny_bind fin)
  | exact wpAny_bind (wpAny_pure (wpAny_bind fin))
  | exact wpAny_bind fin
theorem Zcv {X:Cx} {pins:List (Addr × Obj)} {σ:St} {H:Hp} {s:Shared} {a:Addr} {y:V} {o:Option V} (I:Inv X pins σ H s) (g:DGet H a y o):s.TypeIs (.ref a) "dict":=by
 rcases g with ⟨kvs,k,e,_,_⟩ | ⟨kvs,k,b,e,_,_,_⟩
 ·obtain ⟨_,_,vs,_,dd⟩:=ZdT I.hok e
  exact dd.typeIs
 ·obtain ⟨_,_,xs,_,dd⟩:=ZdS I.hok e
  exact dd.typeIs
def ZkC (td ty:TE):TE:=fun σ H Q=>td σ H fun x H1=>ty σ H1 fun y H2=>∃ a v,x = .ref a∧DGet H2 a y (some v)∧Q v H2
def ZhY (ty td:TE):TE:=fun σ H Q=>ty σ H fun y H1=>td σ H1 fun x H2=>∃ a o,x = .ref a∧DGet H2 a y o∧Q (.bl (!o.isSome)) H2
def ZkI (td ty tv:TE):TS:=fun D σ H=>tv σ H fun v H1=>td σ H1 fun x H2=>ty σ H2 fun y H3=>∃ a H4,x = .ref a∧DPut H3 a y v H4∧D.nx σ H4
section
variable {X:Cx} {o i e value:Expr} {pos pos' tpos:Pos} {td ty tv:TE}
theorem XG (hu:X.A.units + 1 < cLine) (ho:PE X o td) (hi:PE X i ty) (hs:Zlu i):PE X (.Subscript o i pos) (ZkC td ty):=by
 intro pins s σ H Q I h
 refine Zh2 PySem.F.slot_dict_getitem.lookup hs (thn (ho pins s σ H _ I h) fun u s1 ⟨x,H1,I1,rx,q1⟩=>thn (hi pins s1 σ H1 _ I1 q1) fun iv s2 ⟨y,H2,I2,ry,a,v,ex,g,q2⟩=>?_)
 subst ex
 obtain rfl:u=Value.ref a:=rx
 exact ⟨Zcv I2 g,ZfH hu I2 g ry fun w' s3 I3 rw'=>⟨v,H2,I3,rw',q2⟩⟩
theorem Jk (hu:X.A.units + 1 < cLine) (hi:PE X i ty) (ho:PE X o td):PC X .NotIn i o (ZhY ty td):=by
 intro pins s σ H Q I h
 refine thn (hi pins s σ H _ I h) fun iv s1 ⟨y,H1,I1,ry,q1⟩=>thn (ho pins s1 σ H1 _ I1 q1) fun u s2 ⟨x,H2,I2,rx,a,ov,ex,g,q2⟩=>?_
 subst ex
 obtain rfl:u=Value.ref a:=rx
 exact ZiP hu I2 g ry fun s3 I3=>⟨.bl (!ov.isSome),H2,I3,rfl,q2⟩
theorem XE (hu:X.A.units + 1 < cLine) (ho:PE X o td) (hi:PE X i ty) (hv:PE X value tv) (hs:swapsWith value (some (.Subscript o i pos')) pos.line X.env=pure false) :
  PS X (.Assign [.Subscript o i pos'] value pos) (ZkI td ty tv):=by
 intro pins s σ H D I h
 refine wpAny_Assign_Subscript (thn (hv pins s σ H _ I h) fun r s1 ⟨v,H1,I1,rv,q1⟩=>thn (ho pins s1 σ H1 _ I1 q1) fun u s2 ⟨x,H2,I2,rx,q2⟩=>thn (hi pins s2 σ H2 _ I2 q2) fun iv s3 ⟨y,H3,I3,ry,a,H4,ex,g,q3⟩=>?_) hs
 subst ex
 obtain rfl:u=Value.ref a:=rx
 exact ZfG hu I3 g ry rv fun s4 I4=>⟨σ,H4,I4,q3⟩
end
theorem Zdj {P:Program} {w:World} {H:Hp} (h:Heap) (hb:sysModules < h.objs.size):ObjOk P w H (h.push { cls:=.type "dict",data:=.dict #[] }) h.objs.size (.dK []) :=
 ⟨Nat.zero_le _,beq_eq_false_iff_ne.mpr (Ne.symm (Nat.ne_of_lt hb)),[],.nil,Heap.DictOf.new h⟩
def Zi9:TE:=fun _ H Q=>∀ p,H p=none→Q (.ref p) (upd H p (.dK []))
section
variable {X:Cx} {pos:Pos}
theorem X8:PE X (.Dict [] [] pos) Zi9:=fun pins s σ H Q I h =>
 wpAny_Dict_empty ⟨.ref s.heap.objs.size,_,I.laid (a:=s.heap.objs.size) (o:=.dK []) (t':=s.toks) (fun _ _ q=>Heap.get?_push_of_some _ q) (Nat.le_refl _) (Zdj s.heap I.big),rfl,h _ (I.hok.fresh (Nat.le_refl _))⟩
end
def Zd7:List (TE × TE)→St→Hp→(List (V × V)→Hp→Prop)→Prop
 | [],_,H,Q=>Q [] H
 | (tk,tv) :: r,σ,H,Q=>tk σ H fun x H1=>tv σ H1 fun y H2=>Zd7 r σ H2 fun ps H3=>Q ((x,y) :: ps) H3
abbrev VV:List (V × V)→List (Value × Value)→Prop:=Paired fun p q=>RelV p.1 q.1∧RelV p.2 q.2
def PPs (X:Cx) (pos:Pos) (keys:List (Option Expr)) (values:List Expr) (trs:List (TE × TE)):Prop :=
 ∀ (pins:List (Addr × Obj)) (s:Shared) (σ:St) (H:Hp) (Q:List (V × V)→Hp→Prop),Inv X pins σ H s→Zd7 trs σ H Q →
  wpAny (model X.prog X.w) X.A (evalPairs (pairTrees keys values X.env pos)) (fun vs s'=>∃ ps H',Inv X pins σ H' s'∧VV ps vs∧Q ps H') X.xe s
theorem Zif {X:Cx} {pos:Pos}:PPs X pos [] [] []:=fun pins s σ H Q I h=>pairTrees_nil_walk ⟨[],H,I,.nil,h⟩
theorem Zgu {X:Cx} {pos:Pos} {k v:Expr} {ks:List (Option Expr)} {vs:List Expr} {tk tv:TE} {trs:List (TE × TE)} (hk:PE X k tk) (hv:PE X v tv) (hr:PPs X pos ks vs trs) :
  PPs X pos (some k :: ks) (v :: vs) ((tk,tv) :: trs):=fun pins s σ H Q I h =>
 pairTrees_cons_walk (thn (hk pins s σ H _ I h) fun u s1 ⟨x,H1,I1,rx,q1⟩=>thn (hv pins s1 σ H1 _ I1 q1) fun w2 s2 ⟨y,H2,I2,ry,q2⟩ =>
  thn (hr pins s2 σ H2 _ I2 q2) fun ws s3 ⟨ps,H3,I3,rel,q3⟩=>⟨(x,y) :: ps,H3,I3,.cons ⟨rx,ry⟩ rel,q3⟩)
def XU (kvs more:List (Key × V)):List (Key × V):=more.foldl (fun acc kv=>Xw acc kv.1 kv.2) kvs
theorem KV.merge:∀ {more:List (Key × V)} {rs:List (Key × Value)} {kvs:List (Key × V)} {vs:List (Key × Value)},KV more rs→KV kvs vs→KV (XU kvs more) (merged vs rs):=by
 intro more rs kvs vs r
 unfold KV at r
 induction r generalizing kvs vs with
 | nil=>intro q; exact q
 | @cons p q ps qs h t ih =>
  intro r0
  have e:KV (Xw kvs p.1 p.2) (stored vs q.1 q.2):=by
   have:=r0.put p.1 h.2
   rw [← h.1]; exact this
  exact ih e
theorem Xn:∀ (more kvs:List (Key × V)),(XU kvs more).length≤kvs.length + more.length
 | [],kvs=>by show kvs.length≤kvs.length + 0; omega
 | p :: r,kvs=>by
  have h1:=Xn r (Xw kvs p.1 p.2)
  have h2:=Yz kvs p.1 p.2
  show (XU (Xw kvs p.1 p.2) r).length≤_
  rw [List.length_cons]; omega
theorem JZ {P:Program} {w:World}:∀ {kvs:List (Key × V)} {ws:List (Value × Value)},VV (kvs.map fun kv=>(kV kv.1,kv.2)) ws→∃ rs,Carries (Zp P w) ws rs∧KV kvs rs
 | [],_,r=>by rw [List.map_nil] at r; cases r; exact ⟨[],True.intro,.nil⟩
 | p :: kvs,_,r=>by
  rw [List.map_cons] at r
  cases r with
  | @cons a b as bs h t =>
   obtain ⟨rs,c,q⟩:=JZ (P:=P) (w:=w) t
   obtain ⟨b1,b2⟩:=b
   exact ⟨(p.1,b2) :: rs,⟨Jt h.1,rfl,c⟩,.cons ⟨rfl,h.2⟩ q⟩
def ZkA (trs:List (TE × TE)):TE:=fun σ H Q=>∀ p,H p=none→Zd7 trs σ (upd H p (.dK [])) fun ps H2=>H2 p=some (.dK [])∧∃ kvs:List (Key × V),ps=kvs.map (fun kv=>(kV kv.1,kv.2))∧kvs.length≤15∧Q (.ref p) (upd H2 p (.dK (XU [] kvs)))
theorem Zih {X:Cx} {pos:Pos} {keys:List (Option Expr)} {values:List Expr} {trs:List (TE × TE)} (h:PPs X pos keys values trs) (hall:keys.all (·.isSome)=true) (hl:keys.length=values.length) (h0:keys≠[])
  (h15:keys.length≤15):PE X (.Dict keys values pos) (ZkA trs):=by
 intro pins s σ H Q I q
 have hn:=I.hok.fresh (Nat.le_refl s.heap.objs.size)
 have I1:=I.laid (a:=s.heap.objs.size) (o:=.dK []) (h':=s.heap.push { cls:=.type "dict",data:=.dict #[] }) (t':=s.toks) (fun _ _ q=>Heap.get?_push_of_some _ q) (Nat.le_refl _) (Zdj s.heap I.big)
 refine wpAny_Dict_walk (knd:=Zp X.prog X.w) hall hl h0 h15 (thn (h pins _ σ _ _ I1 (q _ hn)) fun ws s2 ⟨ps,H2,I2,rel,e,kvs,ep,lk,q2⟩=>?_)
 subst ep
 obtain ⟨rs,c,rk⟩:=JZ (P:=X.prog) (w:=X.w) rel
 obtain ⟨z,hd,vs0,r0,dd⟩:=Jz I2.hok e
 cases r0
 refine ⟨rs,c,dd,fun h' dd' hs=>⟨.ref s.heap.objs.size,_,?_,rfl,q2⟩⟩
 have hz:(XU [] kvs).length≤sizeLine:=by
  have h1:=Xn kvs []
  rw [List.length_nil] at h1
  rw [sizeLine_eq]; omega
 have he:∃ q,h'.get? s.heap.objs.size=some q:=let ⟨q,_,_,hq,_⟩:=dd'; ⟨q,hq⟩
 exact XM I2 (by rw [e]; exact True.intro) hs he (Zbw hz hd (rk.merge .nil) dd')
structure M1 (X:Cx) (o:Expr) (m:Str) (apos:Pos) (e:Expr) (cpos:Pos):Prop where
 base:attributeBase o m X.env (eval o X.env)=eval o X.env
 few:((backTo cpos (starEach [e] X.env)).all (fun x=>!x.1) && (backToKw cpos (keywordEach [] X.env)).all (fun x=>x.1.isSome)
  && decide (([e]:List Expr).length + ([]:List Keyword).length + (if ([]:List Keyword).isEmpty then 0 else 1) < 30))=true
 line:(apos.endLine == cpos.line)=true
 trees:backTo cpos (starEach [e] X.env)=[(false,eval e X.env)]
structure M2 (X:Cx) (o:Expr) (m:Str) (apos:Pos) (e f:Expr) (cpos:Pos):Prop where
 base:attributeBase o m X.env (eval o X.env)=eval o X.env
 few:((backTo cpos (starEach [e,f] X.env)).all (fun x=>!x.1) && (backToKw cpos (keywordEach [] X.env)).all (fun x=>x.1.isSome)
  && decide (([e,f]:List Expr).length + ([]:List Keyword).length + (if ([]:List Keyword).isEmpty then 0 else 1) < 30))=true
 line:(apos.endLine == cpos.line)=true
 trees:backTo cpos (starEach [e,f] X.env)=[(false,eval e X.env),(false,eval f X.env)]
def IsD (H:Hp) (a:Addr):Prop:=(∃ kvs,Rd H a (.dK kvs))∨∃ kvs,Rd H a (.dT kvs)
theorem Zbp {X:Cx} {pins:List (Addr × Obj)} {σ:St} {H:Hp} {s:Shared} {a:Addr} (I:Inv X pins σ H s) (d:IsD H a) :
  s.TypeIs (.ref a) "dict"∧(∀ b,Value.ref a = .ref b→∃ ob,s.heap.get? b=some ob∧ob.dict=none)∧(a == sysModules)=false:=by
 rcases d with ⟨kvs,e⟩ | ⟨kvs,e⟩
 ·obtain ⟨_,hd,vs,_,dd⟩:=ZdT I.hok e
  refine ⟨dd.typeIs,fun b q=>?_,hd⟩
  cases q
  obtain ⟨ob,_,_,h1,h2,_⟩:=dd
  exact ⟨ob,h1,h2.2.1⟩
 ·obtain ⟨_,hd,xs,_,dd⟩:=ZdS I.hok e
  refine ⟨dd.typeIs,fun b q=>?_,hd⟩
  cases q
  obtain ⟨ob,_,_,h1,h2,_⟩:=dd
  exact ⟨ob,h1,h2.2.1⟩
section
variable {X:Cx} {pins:List (Addr × Obj)} {σ:St} {H:Hp} {s:Shared} {a:Addr} {y d:V} {u r:Value} {o:Option V} {A:Around} {E:Value→Shared→Prop}
theorem Zka {Q:Value→Shared→Prop} (hu:A.units + 1 < cLine) (I:Inv X pins σ H s) (g:DGet H a y o) (ry:RelV y u) (rd:RelV d r) (h:∀ w' s',Inv X pins σ H s'→RelV (o.getD d) w'→Q w' s') :
  wpAny (model X.prog X.w) A (call (.builtin "dict.get") [.ref a,u,r]) Q E s:=by
 rcases g with ⟨kvs,k,e,ey,l⟩ | ⟨kvs,k,b,e,ey,eb,l⟩
 ·subst ey
  obtain ⟨z,hd,vs,rel,dd⟩:=ZdT I.hok e
  refine call_meetsIn PySem.F.slot_dict_get dd.typeIs PySem.F.entry_dict_get (PySem.F.args_dict_get_3 _ _ _) (meets_dict_get_default (Zp X.prog X.w) a (Jt ry) hd r) ⟨_,dd.mapOf,h _ _ (I.tok _) ?_⟩
  rw [l]
  exact (rel.val k).getD rd
 ·subst ey
  cases (show u=Value.ref b from ry)
  obtain ⟨z,hd,xs,rel,dd⟩:=ZdS I.hok e
  refine call_meetsIn PySem.F.slot_dict_get dd.typeIs PySem.F.entry_dict_get (PySem.F.args_dict_get_3 _ _ _) (meetsH_dict_get_default (tupleKind (Zp X.prog X.w)) a b hd r) ⟨tupleKind_room_in1 hu,k,xs,Zbn I.hok eb,dd,h _ _ (I.tok _) ?_⟩
  rw [l]
  exact (rel.val k).getD rd
end
def Zja (td ty tx:TE):TE:=fun σ H Q=>td σ H fun x H1=>∃ a,x = .ref a∧IsD H1 a∧ty σ H1 fun y H2=>tx σ H2 fun z H3=>∃ o,DGet H3 a y o∧Q (o.getD z) H3
def Zi8 (td ty:TE):TE:=fun σ H Q=>td σ H fun x H1=>∃ a,x = .ref a∧IsD H1 a∧ty σ H1 fun y H2=>∃ kvs k v,H2 a=some (.dK kvs)∧y=kV k∧Y4 kvs k=some v∧Q v (upd H2 a (.dK (Zbu kvs k)))
section
variable {X:Cx} {o e f:Expr} {apos cpos:Pos} {td ty tx:TE}
theorem YZ (hu:X.A.units + 1 < cLine) (ho:PE X o td) (he:PE X e ty) (hf:PE X f tx) (m:M2 X o "get" apos e f cpos):PE X (.Call (.Attribute o "get" apos) [e,f] [] cpos) (Zja td ty tx):=by
 intro pins s σ H Q I h
 refine wpAny_Call_method m.base m.few m.line PySem.F.plainAttrs_dict PySem.F.slot_dict_get PySem.F.type_dict_get (thn (ho pins s σ H _ I h) fun u s1 ⟨x,H1,I1,rx,a,ex,d,q1⟩=>?_)
 subst ex
 obtain rfl:u=Value.ref a:=rx
 obtain ⟨t1,t2,_⟩:=Zbp I1 d
 refine ⟨t1,t2,?_⟩
 rw [m.trees]
 refine Calls.callWith_builtin rfl (Calls.evalArgs_plain (Calls.spliced_cons (thn (he pins s1 σ H1 _ I1 q1) fun iv s2 ⟨y,H2,I2,ry,q2⟩ =>
  Calls.spliced_cons (thn (hf pins s2 σ H2 _ I2 q2) fun fv s3 ⟨z,H3,I3,rz,ov,g,q3⟩=>Calls.spliced_nil ?_))))
 exact Zka hu I3 g ry rz fun w' s4 I4 rw'=>⟨_,H3,I4,rw',q3⟩
theorem Zgv (ho:PE X o td) (he:PE X e ty) (m:M1 X o "pop" apos e cpos):PE X (.Call (.Attribute o "pop" apos) [e] [] cpos) (Zi8 td ty):=by
 intro pins s σ H Q I h
 refine wpAny_Call_method m.base m.few m.line PySem.F.plainAttrs_dict PySem.F.slot_dict_pop PySem.F.type_dict_pop (thn (ho pins s σ H _ I h) fun u s1 ⟨x,H1,I1,rx,a,ex,d,q1⟩=>?_)
 subst ex
 obtain rfl:u=Value.ref a:=rx
 obtain ⟨t1,t2,_⟩:=Zbp I1 d
 refine ⟨t1,t2,?_⟩
 rw [m.trees]
 refine Calls.callWith_builtin rfl (Calls.evalArgs_plain (Calls.spliced_cons (thn (he pins s1 σ H1 _ I1 q1) fun iv s2 ⟨y,H2,I2,ry,kvs,k,v,ea,ey,l,q2⟩=>Calls.spliced_nil ?_)))
 subst ey
 exact Zk7 I2 ea ry l (.inl rfl) fun w' s3 I3 rw'=>⟨v,_,I3,rw',q2⟩
end
section
variable {X:Cx} {pins:List (Addr × Obj)} {σ:St} {H:Hp} {s:Shared} {a:Addr} {kvs:List (Key × V)} {A:Around} {E:Value→Shared→Prop}
end
section
variable {X:Cx} {pins:List (Addr × Obj)} {σ:St} {H:Hp} {s:Shared} {a:Addr} {y:V} {u:Value} {A:Around} {E:Value→Shared→Prop}
end
end L2
namespace HT
open PySem PyProof.Rows
section
open PySem.SeqAt
open PySem.AutoSeq1 (wpAny_loadPart')
open PySem.MeetsSeq PySem.MeetsSeq2 PySem.MeetsSeq3
end
section
variable {prog:Program} {w:World} {A:Around} {E:Value→Shared→Prop} {s:Shared}
def sIx (n d:Nat):Option Int→Nat
 | none=>d
 | some v=>if v < 0 then (v + (n:Int)).toNat else min v.toNat n
end
end HT
namespace L2
open PySem PySem.Spec PyProof.Rows
abbrev TO:=St→Hp→(Option Int→Hp→Prop)→Prop
def PO (X:Cx) (e:Option Expr) (t:TO):Prop :=
 ∀ (pins:List (Addr × Obj)) (s:Shared) (σ:St) (H:Hp) (Q:Option Int→Hp→Prop),Inv X pins σ H s→t σ H Q →
  wpAny (model X.prog X.w) X.A (evalPart e X.env) (fun u s'=>∃ o H',Inv X pins σ H' s'∧IsPart u o∧Q o H') X.xe s
def ZhX:TO:=fun _ H Q=>Q none H
def Zkv (t:TE):TO:=fun σ H Q=>t σ H fun x H1=>∃ i,x = .int i∧Q (some i) H1
section
variable {X:Cx} {e:Expr} {te:TE} {lo hi:Option Expr} {tl th:TO} {pos p2:Pos}
theorem Z8:PO X none ZhX:=by
 intro pins s σ H Q I h
 rw [evalPart_none]
 exact wpAny_pure ⟨none,H,I,.none,h⟩
theorem ZO (h:PE X e te):PO X (some e) (Zkv te):=by
 intro pins s σ H Q I hw
 rw [evalPart_some]
 refine thn (h pins s σ H _ I hw) fun u s1 ⟨x,H1,I1,r1,q1⟩=>?_
 obtain ⟨i,rfl,q⟩:=q1
 obtain ⟨t,rfl⟩:=r1
 exact ⟨some i,H1,I1,.int i t,q⟩
def SlR (X:Cx) (r:V→Option Int→Option Int→Hp→VK→Prop):Prop :=
 ∀ (pins:List (Addr × Obj)) (s:Shared) (σ:St) (H:Hp) (x:V) (v vl vu:Value) (lo hi:Option Int) (sl:Addr) (Q:VK),Inv X pins σ H s→RelV x v→s.heap.IsSliceOf sl vl vu .none→IsPart vl lo→IsPart vu hi→r x lo hi H Q →
  ∃ T id,typeLookup (.type T) "__getitem__" = pure (some (.builtin id))∧s.TypeIs v T∧wpAny (model X.prog X.w) X.A (getItem v (.ref sl)) (EP X pins σ Q) X.xe s
theorem SlR.or {r r':V→Option Int→Option Int→Hp→VK→Prop} (h:SlR X r) (h':SlR X r'):SlR X (fun x lo hi H Q=>r x lo hi H Q∨r' x lo hi H Q):=by
 intro pins s σ H x v vl vu lo hi sl Q I rx hs pl pu q
 rcases q with q | q
 ·exact h pins s σ H x v vl vu lo hi sl Q I rx hs pl pu q
 ·exact h' pins s σ H x v vl vu lo hi sl Q I rx hs pl pu q
def tSl (r:V→Option Int→Option Int→Hp→VK→Prop) (te:TE) (tl th:TO):TE:=fun σ H Q=>te σ H fun x H1=>tl σ H1 fun l H2=>th σ H2 fun u H3=>r x l u H3 Q
theorem ZM {r:V→Option Int→Option Int→Hp→VK→Prop} (hr:SlR X r) (he:PE X e te) (hl:PO X lo tl) (hu:PO X hi th):PE X (.Subscript e (.Slice lo hi none p2) pos) (tSl r te tl th):=by
 intro pins s σ H Q I h
 refine Subscript_ (thn (he pins s σ H _ I h) fun v s1 ⟨x,H1,I1,r1,q1⟩=>?_)
 refine wpAny_Slice (thn (hl pins s1 σ H1 _ I1 q1) fun vl s2 ⟨l,H2,I2,pl,q2⟩=>thn (hu pins s2 σ H2 _ I2 q2) fun vu s3 ⟨u,H3,I3,pu,q3⟩=>?_)
 rw [evalPart_none]
 refine wpAny_pure ?_
 have I4:Inv X pins σ H3 { s3 with heap:=s3.heap.push { cls:=.type "slice",data:=.fields #[vl,vu,.none] } }:=I3.kept (t':=s3.toks) fun b ob q=>Heap.get?_push_of_some _ q
 obtain ⟨T,id,hT,ht,hg⟩:=hr pins { s3 with heap:=s3.heap.push { cls:=.type "slice",data:=.fields #[vl,vu,.none] } } σ H3 x v vl vu l u s3.heap.objs.size Q I4 r1 (Heap.IsSliceOf.new ..) pl pu q3
 show wpAny (model X.prog X.w) X.A (subscriptTail e (.Slice lo hi none p2) v (.ref s3.heap.objs.size)) (EP X pins σ Q) X.xe { s3 with heap:=s3.heap.push { cls:=.type "slice",data:=.fields #[vl,vu,.none] } }
 exact tail_any (ops:=[.ref s3.heap.objs.size,v]) ht hT hg (by with_unfolding_all rfl)
def Zha (xs:List V) (lo hi:Option Int):List V:=(xs.drop (HT.sIx xs.length 0 lo)).take (HT.sIx xs.length xs.length hi - HT.sIx xs.length 0 lo)
theorem Zcx (xs:List V) (lo hi:Option Int):(Zha xs lo hi).length≤xs.length:=by
 unfold Zha
 rw [List.length_take,List.length_drop]
 omega
end
def ixN (n:Nat) (i:Int):Option Nat:=if 0≤i then (if i < n then some i.toNat else none) else if -(n:Int)≤i then some (i + n).toNat else none
def atI {α:Type} (xs:List α) (i:Int):Option α:=(ixN xs.length i).bind fun j=>xs[j]?
theorem ixN_seq {n:Nat} {i:Int} {j:Nat} (h:ixN n i=some j):seqIndex? i n=some j∧j < n∧-(n:Int)≤i∧i < n:=by
 unfold ixN at h
 by_cases h0:0≤i
 ·rw [if_pos h0] at h
  by_cases h1:i < n
  ·rw [if_pos h1] at h
   have e:i.toNat=j:=Option.some.inj h
   exact ⟨by rw [seqIndex_of h0 h1,e],by omega,by omega,h1⟩
  ·rw [if_neg h1] at h; cases h
 ·rw [if_neg h0] at h
  by_cases h1 : -(n:Int)≤i
  ·rw [if_pos h1] at h
   have e:(i + n).toNat=j:=Option.some.inj h
   exact ⟨by rw [seqIndex_neg (by omega) h1,e],by omega,h1,by omega⟩
  ·rw [if_neg h1] at h; cases h
theorem ZcC {α:Type} {xs:List α} {i:Int} {v:α} (h:atI xs i=some v):∃ j,seqIndex? i xs.length=some j∧xs[j]?=some v∧j < xs.length∧-(xs.length:Int)≤i∧i < xs.length:=by
 unfold atI at h
 cases e:ixN xs.length i with
 | none=>rw [e] at h; cases h
 | some j =>
  rw [e] at h
  obtain ⟨h1,h2,h3,h4⟩:=ixN_seq e
  exact ⟨j,h1,h,h2,h3,h4⟩
theorem ZcB {α:Type} {xs:List α} {j:Nat} {v:α} (h:xs[j]?=some v):atI xs (j:Int)=some v:=by
 have hj:j < xs.length:=(List.getElem?_eq_some_iff.mp h).1
 have e:ixN xs.length (j:Int)=some j:=by
  unfold ixN
  rw [if_pos (by omega),if_pos (by omega)]; simp
 unfold atI; rw [e]; exact h
def ZiW (b:Expr):Prop:=∀ o i,subscripted b false o i=operate [o,i] (getItem o i)
def IxR (X:Cx) (r:R2):Prop :=
 ∀ (value slice:Expr) (pins:List (Addr × Obj)) (s:Shared) (σ:St) (H:Hp) (x y:V) (v u:Value) (Q:VK),Inv X pins σ H s→RelV x v→RelV y u→r x y H Q →
  subscripted slice false v u=operate [v,u] (getItem v u)→wpAny (model X.prog X.w) X.A (subscriptTail value slice v u) (EP X pins σ Q) X.xe s
def MtR (X:Cx) (id:String) (r:V→List V→Hp→VK→Prop):Prop :=
 ∀ (pins:List (Addr × Obj)) (s:Shared) (σ:St) (H:Hp) (x:V) (xs:List V) (v:Value) (us:List Value) (Q:VK),Inv X pins σ H s→RelV x v→Vals xs us→r x xs H Q →
  wpAny (model X.prog X.w) X.A (call (.builtin id) (v :: us)) (EP X pins σ Q) X.xe s
section
variable {X:Cx} {a b:Expr} {ta tb:TE} {pos:Pos}
theorem IxR.or {r r':R2} (h:IxR X r) (h':IxR X r'):IxR X (fun x y H Q=>r x y H Q∨r' x y H Q):=by
 intro value slice pins s σ H x y v u Q I rx ry q hs
 rcases q with q | q
 ·exact h value slice pins s σ H x y v u Q I rx ry q hs
 ·exact h' value slice pins s σ H x y v u Q I rx ry q hs
theorem MtR.or {id:String} {r r':V→List V→Hp→VK→Prop} (h:MtR X id r) (h':MtR X id r'):MtR X id (fun x xs H Q=>r x xs H Q∨r' x xs H Q):=by
 intro pins s σ H x xs v us Q I rx rs q
 rcases q with q | q
 ·exact h pins s σ H x xs v us Q I rx rs q
 ·exact h' pins s σ H x xs v us Q I rx rs q
theorem ZP {r:R2} (hr:IxR X r) (ha:PE X a ta) (hb:PE X b tb) (hs:ZiW b):PE X (.Subscript a b pos) (tOp r ta tb):=by
 intro pins s σ H Q I h
 exact Subscript_ (Zk9 ha hb I h fun v u s2 x y H2 I2 rx ry q=>hr a b pins s2 σ H2 x y v u Q I2 rx ry q (hs _ _))
def ZkN (K:PySem.W.Frag):R2:=fun x y H Q=>∃ p xs i v,x = .ref p∧y = .int i∧SqL K H p xs∧atI xs i=some v∧Q v H
def ZkM (K:PySem.W.Frag):R2:=fun x y H Q=>∃ p xs i v,x = .ref p∧y = .int i∧SqT K H p xs∧atI xs i=some v∧Q v H
def Zlm:R2:=fun x y H Q=>∃ z i c,x = .str z∧y = .int i∧z.length≤sizeLine∧atI z.cps.toList i=some c∧Q (.str ⟨#[c]⟩) H
theorem ix_list:IxR X (ZkN X.K):=by
 intro value slice pins s σ H x y v u Q I rx ry h hs
 obtain ⟨p,xs,i,z,rfl,rfl,hq,he,q⟩:=h
 cases rx
 obtain ⟨t,rfl⟩:=ry
 obtain ⟨its,r,pl,hz⟩:=I.list hq
 obtain ⟨j,h1,h2,h3,h4,h5⟩:=ZcC he
 obtain ⟨w,ew,rw'⟩:=r.get h2
 have hl:=r.length
 have hn:=JP
 have fin:EP X pins σ Q w s:=⟨z,H,I,rw',q⟩
 by_cases h0:0≤i
 ·have hj:i.toNat=j:=by
   rw [seqIndex_of h0 h5] at h1
   exact Option.some.inj h1
  exact item_listR pl.isList h0 (by omega) (by rw [hj]; simpa using ew) fin hs
 ·have hj:(i + (its.toArray.size:Int)).toNat=j:=by
   rw [seqIndex_neg (by omega) h4] at h1
   rw [List.size_toArray,← hl]
   exact Option.some.inj h1
  exact subscriptTail_builtinR (x:=w) pl.isList.typeIs slot_list_getitem.lookup
   (wpAny_getItem_list_neg (Q:=fun r s'=>r=w∧EP X pins σ Q r s') pl.isList (by omega) (by rw [List.size_toArray] <;> omega) (by omega) (by rw [hj]; simpa using ew) ⟨rfl,fin⟩) hs
theorem ix_tup:IxR X (ZkM X.K):=by
 intro value slice pins s σ H x y v u Q I rx ry h hs
 obtain ⟨p,xs,i,z,rfl,rfl,hq,he,q⟩:=h
 cases rx
 obtain ⟨t,rfl⟩:=ry
 obtain ⟨its,r,pl,hz⟩:=I.tuple hq
 obtain ⟨j,h1,h2,h3,h4,h5⟩:=ZcC he
 obtain ⟨w,ew,rw'⟩:=r.get h2
 have hl:=r.length
 have hn:=JP
 have fin:EP X pins σ Q w s:=⟨z,H,I,rw',q⟩
 exact subscriptTail_builtinR (x:=w) pl.typeIs slot_tuple_getitem.lookup
  (getItem_tuple (j:=j) (Q:=fun r s'=>r=w∧EP X pins σ Q r s') pl (by omega) (by omega) (by rw [List.size_toArray,← hl]; exact h1) (by simpa using ew) ⟨rfl,fin⟩) hs
theorem XV:IxR X Zlm:=by
 intro value slice pins s σ H x y v u Q I rx ry h hs
 obtain ⟨z,i,c,rfl,rfl,hz,he,q⟩:=h
 obtain ⟨t,rfl⟩:=rx
 obtain ⟨t',rfl⟩:=ry
 obtain ⟨j,h1,h2,h3,h4,h5⟩:=ZcC he
 have hl:z.cps.toList.length=z.length:=by simp [Str.length]
 rw [hl] at h1 h4 h5
 have hn:=JP
 exact tail_any (typeIs_str s z t) slot_str_getitem.lookup (getItem_str (c:=c) (by
  have e1:decide (i < -(2 ^ 63:Int))=false:=decide_eq_false (by omega)
  have e2:decide (i ≥ 2 ^ 63)=false:=decide_eq_false (by omega)
  rw [e1,e2,Bool.or_false]) (by rw [h1]; simpa using h2) ⟨.str ⟨#[c]⟩,H,I.tok _,⟨_,rfl⟩,q⟩) hs
def rIx (K:PySem.W.Frag):R2:=fun x y H Q=>ZkN K x y H Q∨ZkM K x y H Q∨Zlm x y H Q
theorem Zj3:IxR X (rIx X.K):=ix_list.or (ix_tup.or XV)
theorem ZdH (its:List Value) (n j:Nat) (u:Value):Obj.mapSeq (·.setIfInBounds j u) { cls:=.type "list",data:=.seq its.toArray n }={ cls:=.type "list",data:=.seq (its.set j u).toArray n }:=by
 simp [Obj.mapSeq]
theorem Inv.lst {pins:List (Addr × Obj)} {σ:St} {H:Hp} {s:Shared} {p:Addr} {xs:List V} (I:Inv X pins σ H s) (h:H p=some (.lst xs)) :
  ∃ (its:List Value) (n:Nat),Vals xs its∧s.heap.get? p=some { cls:=.type "list",data:=.seq its.toArray n }∧xs.length≤sizeLine:=by
 obtain ⟨z,its,n,r,e⟩:=I.hok p _ h
 exact ⟨its,n,r,e,z⟩
theorem Inv.lstUpd {pins:List (Addr × Obj)} {σ:St} {H:Hp} {s:Shared} {p:Addr} {xs ys:List V} {its its':List Value} {n n':Nat} {f:Obj→Obj} (I:Inv X pins σ H s) (h:H p=some (.lst xs))
  (ho:s.heap.get? p=some { cls:=.type "list",data:=.seq its.toArray n }) (hf:f { cls:=.type "list",data:=.seq its.toArray n }={ cls:=.type "list",data:=.seq its'.toArray n' }) (r:Vals ys its') (hz:ys.length≤sizeLine) (t:Nat) :
  Inv X pins σ (upd H p (.lst ys)) { s with heap:=s.heap.update p f,toks:=t }:=by
 have e:(s.heap.update p f).get? p=some { cls:=.type "list",data:=.seq its'.toArray n' }:=by
  rw [Heap.get?_update_self f ho (by rw [hf] <;> rfl),hf]
 refine I.write (x:=p) (e:=p) (by rw [h]; trivial) (.inl rfl) (fun b u hb q=>(Heap.get?_update_other _ _ (Ne.symm hb)).trans q) ⟨_,e⟩ ?_
 exact ⟨hz,its',n',r,e⟩
def ZkK:V→V→V→Hp→(Hp→Prop)→Prop:=fun o i v H Q=>∃ p xs k j,o = .ref p∧i = .int k∧H p=some (.lst xs)∧ixN xs.length k=some j∧Q (upd H p (.lst (xs.set j v)))
theorem Zgl:Zlt X ZkK:=by
 intro pins s σ H o i v ov iv u Q I ro ri rv h
 obtain ⟨p,xs,k,j,rfl,rfl,hp,hj,q⟩:=h
 cases ro
 obtain ⟨t,rfl⟩:=ri
 obtain ⟨its,n,r,ho,hz⟩:=I.lst hp
 obtain ⟨h1,h2,h3,h4⟩:=ixN_seq hj
 have hl:=r.length
 have hn:=JP
 have I':Inv X pins σ (upd H p (.lst (xs.set j v))) { s with heap:=s.heap.update p (Obj.mapSeq (·.setIfInBounds j u)) } :=
  I.lstUpd hp ho (ZdH its n j u) (r.set rv j) (by rw [List.length_set]; exact hz) s.toks
 by_cases h0:0≤k
 ·have hk:k.toNat=j:=by
   rw [seqIndex_of h0 h4] at h1
   exact Option.some.inj h1
  exact PySem.W.ki_setAt ho h0 (by omega) (by rw [List.size_toArray,← hl]; exact h4) (by rw [hk]; exact ⟨_,I',q⟩)
 ·have hk:(k + (its.toArray.size:Int)).toNat=j:=by
   rw [seqIndex_neg (by omega) h3] at h1
   rw [List.size_toArray,← hl]
   exact Option.some.inj h1
  exact PySem.W.ki_setBack ho (by omega) (by rw [List.size_toArray,← hl]; exact h3) (by omega) (by rw [hk]; exact ⟨_,I',q⟩)
theorem ZaY (lo hi:Option Int) (n:Nat):(sliceBounds lo hi none n).1=((HT.sIx n 0 lo:Nat):Int)∧(sliceBounds lo hi none n).2.1=((HT.sIx n n hi:Nat):Int)∧(sliceBounds lo hi none n).2.2=1:=by
 refine ⟨?_,?_,rfl⟩
 ·cases lo with
  | none=>simp [sliceBounds,HT.sIx]
  | some i =>
   simp only [sliceBounds,HT.sIx,Option.getD_none,show (1:Int) > 0 by decide,if_true]
   by_cases h:i < 0
   ·simp only [h,if_true] <;> omega
   ·simp only [h,if_false] <;> omega
 ·cases hi with
  | none=>simp [sliceBounds,HT.sIx]
  | some i =>
   simp only [sliceBounds,HT.sIx,Option.getD_none,show (1:Int) > 0 by decide,if_true]
   by_cases h:i < 0
   ·simp only [h,if_true] <;> omega
   ·simp only [h,if_false] <;> omega
theorem Zaf (its:List Value) (lo hi:Option Int):slicePick its.toArray lo hi none=((its.drop (HT.sIx its.length 0 lo)).take (HT.sIx its.length its.length hi - HT.sIx its.length 0 lo)).toArray:=by
 obtain ⟨h1,h2,h3⟩:=ZaY lo hi its.toArray.size
 unfold slicePick
 rw [h1,h2,h3]
 simp only [sliceRange_one,pick_run,List.size_toArray] <;> rfl
def ZlJ (K:PySem.W.Frag):V→Option Int→Option Int→Hp→VK→Prop:=fun x lo hi H Q=>∃ a xs,x = .ref a∧SqL K H a xs∧∀ p,H p=none→Q (.ref p) (upd H p (.lst (Zha xs lo hi)))
theorem Zep:SlR X (ZlJ X.K):=by
 intro pins s σ H x v vl vu lo hi sl Q I rx hs pl pu h
 obtain ⟨a,xs,rfl,hx,q⟩:=h
 cases rx
 obtain ⟨its,r,ht,hz⟩:=I.list hx
 have hlen:=r.length
 refine ⟨"list",_,slot_list_getitem.lookup,ht.isList.typeIs,?_⟩
 refine wpAny_getItem_list_slice ht.isList hs pl pu .none (by simp) ?_ (by rw [List.size_toArray] <;> omega)
 rw [Zaf,← hlen]
 refine ⟨.ref s.heap.objs.size,_,I.laid (t':=s.toks) (o:=.lst (Zha xs lo hi)) (fun b ob q=>Heap.get?_push_of_some _ q) (Nat.le_refl _) ?_,rfl,q _ (I.hok.fresh (Nat.le_refl _))⟩
 exact ⟨Nat.le_trans (Zcx xs lo hi) hz,_,0,(r.drop (HT.sIx xs.length 0 lo)).take (HT.sIx xs.length xs.length hi - HT.sIx xs.length 0 lo),Heap.get?_push_size _ rfl⟩
def Zbt:V→Bool
 | .non=>true
 | .bl _=>true
 | .int _=>true
 | .str _=>true
 | _=>false
def eqV:V→V→Bool
 | .non,.non=>true
 | .bl a,.bl b=>a == b
 | .bl a,.int b=>(if a then 1 else 0) == b
 | .int a,.bl b=>a == (if b then 1 else 0)
 | .int a,.int b=>a == b
 | .str a,.str b=>a == b
 | _,_=>false
theorem Zj7 {A:Around} {s:Shared} {y x:V} {u v:Value} (ry:RelV y u) (rx:RelV x v) (fy:Zbt y=true) (fx:Zbt x=true):SeqAt.EqAt A s u v (eqV y x):=by
 cases y with
 | non =>
  cases ry
  cases x with
  | non=>cases rx; exact SeqAt.EqAt.same _
  | bl b=>cases rx; exact SeqAt.EqAt.none_bool b
  | int b=>obtain ⟨t,rfl⟩:=rx; exact SeqAt.EqAt.none_int b t
  | str b=>obtain ⟨t,rfl⟩:=rx; exact SeqAt.EqAt.none_str b t
  | _=>exact absurd (show false=true from fx) Bool.false_ne_true
 | bl a =>
  cases ry
  cases x with
  | non=>cases rx; exact SeqAt.EqAt.bool_none a
  | bl b=>cases rx; exact SeqAt.EqAt.bool_bool a b
  | int b=>obtain ⟨t,rfl⟩:=rx; exact SeqAt.EqAt.bool_int a b t
  | str b=>obtain ⟨t,rfl⟩:=rx; exact SeqAt.EqAt.bool_str a b t
  | _=>exact absurd (show false=true from fx) Bool.false_ne_true
 | int a =>
  obtain ⟨t',rfl⟩:=ry
  cases x with
  | non=>cases rx; exact SeqAt.EqAt.int_none a t'
  | bl b=>cases rx; exact SeqAt.EqAt.int_bool a t' b
  | int b=>obtain ⟨t,rfl⟩:=rx; exact SeqAt.EqAt.int_int a t' b t
  | str b=>obtain ⟨t,rfl⟩:=rx; exact SeqAt.EqAt.int_str a t' b t
  | _=>exact absurd (show false=true from fx) Bool.false_ne_true
 | str a =>
  obtain ⟨t',rfl⟩:=ry
  cases x with
  | non=>cases rx; exact SeqAt.EqAt.str_none a t'
  | bl b=>cases rx; exact SeqAt.EqAt.str_bool a t' b
  | int b=>obtain ⟨t,rfl⟩:=rx; exact SeqAt.EqAt.str_int a t' b t
  | str b=>obtain ⟨t,rfl⟩:=rx; exact SeqAt.EqAt.str_str a t' b t
  | _=>exact absurd (show false=true from fx) Bool.false_ne_true
 | _=>exact absurd (show false=true from fy) Bool.false_ne_true
def eqU (x:V) (u:Value):Bool:=match u with
 | .none=>eqV .non x
 | .bool b=>eqV (.bl b) x
 | .int i _=>eqV (.int i) x
 | .str z _=>eqV (.str z) x
 | _=>false
theorem ZhM {x y:V} {u:Value} (r:RelV y u) (f:Zbt y=true):eqU x u=eqV y x:=by
 cases y with
 | non=>cases r; rfl
 | bl b=>cases r; rfl
 | int i=>obtain ⟨t,rfl⟩:=r; rfl
 | str z=>obtain ⟨t,rfl⟩:=r; rfl
 | _=>exact absurd (show false=true from f) Bool.false_ne_true
theorem ZcD {x:V}:∀ {xs:List V} {us:List Value},Vals xs us→xs.all Zbt=true→us.any (eqU x)=xs.any fun y=>eqV y x
 | _,_,.nil,_=>rfl
 | y :: xs,u :: us,.cons r t,f=>by
  rw [List.all_cons,Bool.and_eq_true] at f
  rw [List.any_cons,List.any_cons,ZhM r f.1,ZcD t f.2]
theorem Zat {A:Around} {s:Shared} {x:V} {v:Value} (rx:RelV x v) (fx:Zbt x=true):∀ {xs:List V} {us:List Value},Vals xs us→xs.all Zbt=true→∀ u∈us,SeqAt.EqAt A s u v (eqU x u)
 | _,_,.nil,_=>fun u hu=>by cases hu
 | y :: xs,u :: us,.cons r t,f=>fun u' hu=>by
  rw [List.all_cons,Bool.and_eq_true] at f
  rcases List.mem_cons.mp hu with rfl | hu
  ·rw [ZhM r f.1]; exact Zj7 r rx f.1 fx
  ·exact Zat rx fx t f.2 u' hu
def inV (x:V) (xs:List V):Bool:=xs.any fun y=>eqV y x
def rIn (K:PySem.W.Frag) (neg:Bool):R2:=fun x y H Q=>∃ p xs,y = .ref p∧(SqL K H p xs∨SqT K H p xs)∧Zbt x=true∧xs.all Zbt=true∧Q (.bl (if neg then !inV x xs else inV x xs)) H
theorem Za7:OpR X (compareOp .NotIn) (rIn X.K true):=by
 intro pins s σ H x y v u Q I rx ry h
 obtain ⟨p,xs,rfl,hq,fx,fs,q⟩:=h
 cases ry
 rcases hq with hq | hq
 ·obtain ⟨its,r,pl,hz⟩:=I.list hq
  refine SeqAt.notIn_listAt (eqU x) pl.isList (fun w hw=>Zat rx fx r fs w (by simpa using hw)) ⟨.bl _,H,I,rfl,?_⟩
  rw [show its.toArray.any (eqU x)=its.any (eqU x) by simp,ZcD r fs]
  exact q
 ·obtain ⟨its,r,pl,hz⟩:=I.tuple hq
  refine SeqAt.notIn_tupleAt (eqU x) pl (fun w hw=>Zat rx fx r fs w (by simpa using hw)) ⟨.bl _,H,I,rfl,?_⟩
  rw [show its.toArray.any (eqU x)=its.any (eqU x) by simp,ZcD r fs]
  exact q
theorem CallR.or {f:Value} {r r':List V→Hp→VK→Prop} (h:CallR X f r) (h':CallR X f r'):CallR X f (fun xs H Q=>r xs H Q∨r' xs H Q):=by
 intro pins s σ H xs us Q I rs q
 rcases q with q | q
 ·exact h pins s σ H xs us Q I rs q
 ·exact h' pins s σ H xs us Q I rs q
theorem XX:CallR X (.type "list") (fun xs H Q=>∃ p ys,xs=[.ref p]∧(SqL X.K H p ys∨SqT X.K H p ys)∧∀ l,H l=none→Q (.ref l) (upd H l (.lst ys))):=by
 intro pins s σ H xs us Q I r h
 obtain ⟨p,ys,rfl,hq,q⟩:=h
 obtain ⟨u,rfl,rx⟩:=Y5 r
 cases rx
 have fin:∀ (its:List Value),Vals ys its→ys.length≤sizeLine→∀ (h':Heap) (c':Nat),(∀ b o',s.heap.get? b=some o'→h'.get? b=some o') →
   h'.get? s.heap.objs.size=some { cls:=.type "list",dict:=none,data:=.seq its.toArray c',slots:=#[] }→EP X pins σ Q (.ref s.heap.objs.size) { s with heap:=h' }:=fun its r' hz h' c' kp e =>
  ⟨.ref s.heap.objs.size,_,I.laid (t':=s.toks) kp (Nat.le_refl _) (show ObjOk X.prog X.w _ h' _ (.lst ys) from ⟨hz,its,c',r',e⟩),rfl,q _ (I.hok.fresh (Nat.le_refl _))⟩
 rcases hq with hq | hq
 ·obtain ⟨its,r',pl,hz⟩:=I.list hq
  have hlen:=r'.length
  obtain ⟨o,ho,hc,n,hd⟩:=pl.isList
  exact call_list_seq p (.inl rfl) ho hc hd (fun h' c' kp e=>fin its r' hz h' c' kp e) (by simp only [List.size_toArray] <;> omega)
 ·obtain ⟨its,r',pl,hz⟩:=I.tuple hq
  have hlen:=r'.length
  obtain ⟨o,ho,hc,n,hd⟩:=pl
  exact call_list_seq p (.inr rfl) ho hc hd (fun h' c' kp e=>fin its r' hz h' c' kp e) (by simp only [List.size_toArray] <;> omega)
theorem ZB:CallR X (.type "tuple") (fun xs H Q=>∃ p ys,xs=[.ref p]∧((SqL X.K H p ys∧∀ l,H l=none→Q (.ref l) (upd H l (.tup ys)))∨(SqT X.K H p ys∧Q (.ref p) H))):=by
 intro pins s σ H xs us Q I r h
 obtain ⟨p,ys,rfl,h⟩:=h
 obtain ⟨u,rfl,rx⟩:=Y5 r
 cases rx
 rcases h with ⟨hq,q⟩ | ⟨hq,q⟩
 ·obtain ⟨its,r',pl,hz⟩:=I.list hq
  have hlen:=r'.length
  refine call_tuple_list pl.isList (fun h' kp=>?_) (by simp only [List.size_toArray] <;> omega)
  have I1:Inv X pins σ H { s with heap:=h' }:=I.kept (t':=s.toks) kp
  have I2:Inv X pins σ (upd H h'.objs.size (.tup ys)) { s with heap:=h'.push { cls:=.type "tuple",data:=.seq its.toArray } } :=
   I1.laid (t':=s.toks) (fun b o e=>Heap.get?_push_of_some _ e) (Nat.le_refl _) (show ObjOk X.prog X.w _ _ _ (.tup ys) from ⟨hz,its,r',IsTup.new _ _,ZcY rfl rfl⟩)
  exact ⟨.ref h'.objs.size,_,I2,rfl,q _ (I1.hok.fresh (Nat.le_refl _))⟩
 ·obtain ⟨its,r',pl,hz⟩:=I.tuple hq
  exact call_tuple_same pl ⟨.ref p,H,I,rfl,q⟩
def tyV (K:PySem.W.Frag) (T:String) (x:V) (H:Hp):Prop:=match x with
 | .str _=>T = "str"
 | .int _=>T = "int"
 | .ref p=>(T = "list"∧∃ xs,SqL K H p xs)∨(T = "tuple"∧∃ o,K.lookup p=some o∧o.cls = .type "tuple"∧o.dict=none) ∨
   (T = "dict"∧((∃ kvs,H p=some (.dK kvs))∨∃ kvs,H p=some (.dT kvs)))∨(T = "set"∧∃ S n,H p=some (.set S n))
 | _=>False
theorem Zhg {pins:List (Addr × Obj)} {σ:St} {H:Hp} {s:Shared} {T:String} {x:V} {v:Value} (I:Inv X pins σ H s) (r:RelV x v) (ty:tyV X.K T x H) :
  s.TypeIs v T∧∀ a,v = .ref a→∃ ob,s.heap.get? a=some ob∧ob.dict=none:=by
 cases x with
 | str z =>
  obtain ⟨t,rfl⟩:=r
  cases (show T = "str" from ty)
  exact ⟨typeIs_str s z t,fun _ e=>nomatch e⟩
 | int i =>
  obtain ⟨t,rfl⟩:=r
  cases (show T = "int" from ty)
  exact ⟨typeIs_int s i t,fun _ e=>nomatch e⟩
 | ref p =>
  cases r
  rcases ty with ⟨rfl,xs,hq⟩ | ⟨rfl,o,hk,hc,hd⟩ | ⟨rfl,hk⟩ | ⟨rfl,S,n,hk⟩
  ·obtain ⟨its,_,pl,_⟩:=I.list hq
   refine ⟨pl.isList.typeIs,fun a e=>?_⟩
   cases e
   obtain ⟨o,n,e,c,hd,_⟩:=pl
   exact ⟨o,e,hd⟩
  ·refine ⟨⟨o,I.kIn p o hk,hc⟩,fun a e=>?_⟩
   cases e
   exact ⟨o,I.kIn _ o hk,hd⟩
  ·have z:∃ o,s.heap.get? p=some o∧o.ExactDict:=by
    rcases hk with ⟨kvs,hk⟩ | ⟨kvs,hk⟩
    ·obtain ⟨_,_,_,_,o,_,_,e,ex,_⟩:=I.hok p _ hk
     exact ⟨o,e,ex⟩
    ·obtain ⟨_,_,_,_,o,_,_,e,ex,_⟩:=I.hok p _ hk
     exact ⟨o,e,ex⟩
   obtain ⟨o,e,ex⟩:=z
   refine ⟨⟨o,e,ex.1⟩,fun a e2=>?_⟩
   cases e2
   exact ⟨o,e,ex.2.1⟩
  ·obtain ⟨o,_,_,_,e,ex,_⟩:=I.hok p _ hk
   refine ⟨⟨o,e,ex.1⟩,fun a e2=>?_⟩
   cases e2
   exact ⟨o,e,ex.2.1⟩
 | _=>exact False.elim ty
def ZlG (K:PySem.W.Frag) (T:String) (r:V→List V→Hp→VK→Prop) (to:TE):TE:=fun σ H Q=>to σ H fun x H1=>tyV K T x H1∧r x [] H1 Q
def tBM (K:PySem.W.Frag) (T:String) (r:V→List V→Hp→VK→Prop) (to:TE) (t:TA):TE:=fun σ H Q=>to σ H fun x H1=>tyV K T x H1∧t σ H1 fun xs H2=>r x xs H2 Q
variable {o e:Expr} {es:List Expr} {to:TE} {t:TA} {name:Str} {apos cpos:Pos} {T id:String} {r:V→List V→Hp→VK→Prop}
theorem Jj (pa:PlainAttrs T) (slot:Slot T name id) (hty:typeOf (.builtin id)=pure (.type "method_descriptor")) (hm:MtR X id r) (ho:PE X o to)
  (hbase:attributeBase o name X.env (eval o X.env)=eval o X.env:=by rfl) (hline:(apos.endLine == cpos.line)=true:=by rfl):PE X (.Call (.Attribute o name apos) [] [] cpos) (ZlG X.K T r to):=by
 intro pins s σ H Q I h
 refine wpAny_Call_method0_late hbase hline (thn (ho pins s σ H _ I h) fun v s1 ⟨x,H1,I1,r1,ty,q1⟩=>?_)
 obtain ⟨h1,h2⟩:=Zhg I1 r1 ty
 exact ⟨T,id,pa,slot,hty,h1,h2,Calls.callWith_builtin rfl (PySem.evalArgs_none (hm pins s1 σ H1 x [] v [] Q I1 r1 .nil q1))⟩
theorem Xl (pa:PlainAttrs T) (slot:Slot T name id) (hty:typeOf (.builtin id)=pure (.type "method_descriptor")) (hm:MtR X id r) (ho:PE X o to) (ha:PA X (e :: es) t)
  (hbase:attributeBase o name X.env (eval o X.env)=eval o X.env:=by rfl)
  (hfew:((backTo cpos (starEach (e :: es) X.env)).all (fun x=>!x.1) && (backToKw cpos (keywordEach [] X.env)).all (fun x=>x.1.isSome)
   && decide ((e :: es).length + ([]:List Keyword).length + (if ([]:List Keyword).isEmpty then 0 else 1) < 30))=true:=by rfl)
  (hline:(apos.endLine == cpos.line)=true:=by rfl) (hs:starEach (e :: es) X.env=(false,eval e X.env) :: starEach es X.env:=by rfl) (hplain:(backTo cpos (starEach es X.env)).any (·.1)=false:=by rfl) :
  PE X (.Call (.Attribute o name apos) (e :: es) [] cpos) (tBM X.K T r to t):=by
 intro pins s σ H Q I h
 refine wpAny_Call_method_late hbase hfew hline rfl (thn (ho pins s σ H _ I h) fun v s1 ⟨x,H1,I1,r1,ty,q1⟩=>?_)
 obtain ⟨h1,h2⟩:=Zhg I1 r1 ty
 refine ⟨T,id,pa,slot,hty,h1,h2,?_⟩
 have hA:=ha cpos pins s1 σ H1 _ I1 q1
 rw [hs] at hA ⊢
 refine Calls.callWith_builtin (by show (false || (backTo cpos (starEach es X.env)).any (·.1))=false; rw [hplain] <;> rfl) (Calls.evalArgs_plain ?_)
 exact thn hA fun us s2 ⟨vs,H2,I2,r2,q2⟩=>hm pins s2 σ H2 x vs v us Q I2 r1 r2 q2
end
def MtM (X:Cx) (id:String) (r:V→List V→Hp→VK→Prop):Prop :=
 ∀ (pins:List (Addr × Obj)) (s:Shared) (σ:St) (H:Hp) (x:V) (xs:List V) (v:Value) (us:List Value) (Q:VK),Inv X pins σ H s→RelV x v→Vals xs us→r x xs H Q →
  wpAny (model X.prog X.w) X.A (call (.builtin id) (v :: us)) (EP X pins σ Q) X.xe s
theorem Vals.one:∀ {x:V} {us:List Value},Vals [x] us→∃ u,us=[u]∧RelV x u
 | _,_,.cons r .nil=>⟨_,rfl,r⟩
theorem Vals.zero:∀ {us:List Value},Vals [] us→us=[]
 | _,.nil=>rfl
theorem Vals.dropLast {xs:List V} {us:List Value} (h:Vals xs us):Vals xs.dropLast us.dropLast:=by
 induction h with
 | nil=>exact .nil
 | cons r t ih =>
  cases t with
  | nil=>exact .nil
  | cons q t'=>exact .cons r ih
theorem Vals.eraseIdx:∀ {xs:List V} {us:List Value} (i:Nat),Vals xs us→Vals (xs.eraseIdx i) (us.eraseIdx i)
 | _,_,_,.nil=>.nil
 | _,_,0,.cons _ t=>t
 | _,_,i + 1,.cons r t=>.cons r (Vals.eraseIdx i t)
theorem Vals.rep {xs:List V} {us:List Value} (h:Vals xs us):∀ k:Nat,Vals (List.replicate k xs).flatten (List.replicate k us).flatten
 | 0=>.nil
 | k + 1=>by
  rw [List.replicate_succ,List.replicate_succ,List.flatten_cons,List.flatten_cons]
  exact Vals.append h (Vals.rep h k)
theorem ZdR {α:Type} (l:List α):l.eraseIdx (l.length - 1)=l.dropLast:=by
 induction l with
 | nil=>rfl
 | cons a r ih =>
  cases r with
  | nil=>rfl
  | cons b r =>
   have e:(a :: b :: r).length - 1=((b :: r).length - 1) + 1:=by
    have h1:(a :: b :: r).length=r.length + 2:=rfl
    have h2:(b :: r).length=r.length + 1:=rfl
    omega
   rw [e,List.eraseIdx_cons_succ,ih]
   all_goals rfl
theorem Zbs (its:List Value):∀ (k:Nat) (acc:List Value),
  List.foldl (fun x1 x2=>x1 ++ x2) acc.toArray (List.replicate k its.toArray)=(acc ++ (List.replicate k its).flatten).toArray
 | 0,acc=>by simp
 | k + 1,acc=>by
  have e:acc.toArray ++ its.toArray=(acc ++ its).toArray:=by simp
  have e2:(acc ++ its) ++ (List.replicate k its).flatten=acc ++ (List.replicate (k + 1) its).flatten:=by
   rw [List.replicate_succ,List.flatten_cons,List.append_assoc]
  rw [← e2,← Zbs its k (acc ++ its),← e,List.replicate_succ,List.foldl_cons]
section
variable {X:Cx} {pins:List (Addr × Obj)} {σ:St} {H:Hp} {s:Shared} {l b:Addr} {xs ys zs:List V}
theorem Inv.lset {its its':List Value} {n:Nat} {f:Array Value→Array Value} {t':Nat} (I:Inv X pins σ H s) (hH:H l=some (.lst xs))
  (e:s.heap.get? l=some { cls:=.type "list",data:=.seq its.toArray n }) (hf:f its.toArray=its'.toArray) (hv:Vals ys its') (hz:ys.length≤sizeLine) :
  Inv X pins σ (upd H l (.lst ys)) { s with heap:=s.heap.update l (Obj.mapSeq f),toks:=t' }:=by
 have q:=PySem.IsL.update e f
 rw [hf] at q
 refine I.write (x:=l) (e:=l) (by rw [hH]; exact trivial) (.inl rfl) (fun b' u hb hu=>(Heap.get?_update_other s.heap (Obj.mapSeq f) (Ne.symm hb)).trans hu) ⟨_,q⟩ ?_
 exact ⟨hz,its',_,hv,q⟩
theorem Inv.lnew {its:List Value} {t':Nat} (I:Inv X pins σ H s) (hv:Vals ys its) (hz:ys.length≤sizeLine) :
  Inv X pins σ (upd H s.heap.objs.size (.lst ys)) { s with heap:=s.heap.push { cls:=.type "list",data:=.seq its.toArray },toks:=t' } :=
 I.laid (fun _ _ q=>Heap.get?_push_of_some _ q) (Nat.le_refl _) ⟨hz,its,0,hv,Heap.get?_push_size _ rfl⟩
theorem Inv.fresh (I:Inv X pins σ H s):H s.heap.objs.size=none:=I.hok.fresh (Nat.le_refl _)
theorem Inv.lstM (I:Inv X pins σ H s) (hH:H l=some (.lst xs)):xs.length≤sizeLine∧∃ (its:List Value) (n:Nat),Vals xs its∧xs.length=its.length∧s.heap.get? l=some { cls:=.type "list",data:=.seq its.toArray n }:=by
 obtain ⟨z,its,n,r,e⟩:=I.hok l _ hH
 exact ⟨z,its,n,r,r.length,e⟩
theorem ZcW {n:Nat} (h:n≤sizeLine):Builtin.List.listTooLong n=false:=by
 unfold Builtin.List.listTooLong
 exact decide_eq_false (by omega)
end
section
variable {X:Cx}
def ZeN:V→List V→Hp→VK→Prop:=fun x vs H Q=>∃ l xs y,x = .ref l∧vs=[y]∧H l=some (.lst xs)∧xs.length < sizeLine∧Q .non (upd H l (.lst (xs ++ [y])))
theorem Zbl:MtM X "list.append" ZeN:=by
 intro pins s σ H x vs v us Q I rx rv h
 obtain ⟨l,xs,y,rfl,rfl,hH,hz,q⟩:=h
 cases rx
 obtain ⟨u,rfl,ru⟩:=rv.one
 obtain ⟨z,its,n,r,hl,e⟩:=I.lstM hH
 refine call_meets F.slot_list_append ⟨_,e,rfl⟩ F.entry_list_append (F.args_list_append_2 _ _) (PySem.list_append l its.toArray n u (by rw [List.size_toArray]; omega)) ⟨e,?_⟩
 refine ⟨.non,_,I.lset (its':=its ++ [u]) hH e (by simp) (r.append (.cons ru .nil)) ?_,rfl,q⟩
 rw [List.length_append,List.length_singleton]
 omega
def ZeL:V→List V→Hp→VK→Prop:=fun x vs H Q=>∃ l b xs zs,x = .ref l∧vs=[.ref b]∧H l=some (.lst xs)∧H b=some (.lst zs)∧xs.length + zs.length≤sizeLine∧Q .non (upd H l (.lst (xs ++ zs)))
theorem Zfh:MtM X "list.extend" ZeL:=by
 intro pins s σ H x vs v us Q I rx rv h
 obtain ⟨l,b,xs,zs,rfl,rfl,hH,hB,hz,q⟩:=h
 cases rx
 obtain ⟨u,rfl,ru⟩:=rv.one
 cases ru
 obtain ⟨z,its,n,r,hl,e⟩:=I.lstM hH
 obtain ⟨z2,its2,n2,r2,hl2,e2⟩:=I.lstM hB
 have hsz:its.toArray.size + its2.toArray.size≤sizeLine:=by rw [List.size_toArray,List.size_toArray]; omega
 have hlong:¬ (!its.toArray.isEmpty && Builtin.List.listTooLong (its.toArray.size + its2.toArray.size))=true:=by
  rw [ZcW hsz,Bool.and_false]
  exact Bool.false_ne_true
 refine call_meets F.slot_list_extend ⟨_,e,rfl⟩ F.entry_list_extend (F.args_list_extend_2 _ _)
  (AutoSeq1.list_extend_list_list_0 l its.toArray n b its2.toArray n2 hlong (by rw [List.size_toArray]; omega) (by omega)) ⟨e,e2,?_⟩
 refine ⟨.non,_,I.lset (its':=its ++ its2) hH e (by simp) (r.append r2) ?_,rfl,q⟩
 rw [List.length_append]
 omega
def Zll:V→List V→Hp→VK→Prop:=fun x vs H Q=>∃ l xs y,x = .ref l∧vs=[]∧H l=some (.lst xs)∧xs[xs.length - 1]?=some y∧Q y (upd H l (.lst xs.dropLast))
theorem ZjR:MtM X "list.pop" Zll:=by
 intro pins s σ H x vs v us Q I rx rv h
 obtain ⟨l,xs,y,rfl,rfl,hH,hy,q⟩:=h
 cases rx
 have hus:=rv.zero
 subst hus
 obtain ⟨z,its,n,r,hl,e⟩:=I.lstM hH
 obtain ⟨u,hu,ru⟩:=r.get hy
 have hy':its.toArray[its.toArray.size - 1]?=some u:=by
  show its.toArray[its.length - 1]?=some u
  rw [← Array.getElem?_toList,← hl]
  exact hu
 refine call_meets F.slot_list_pop ⟨_,e,rfl⟩ F.entry_list_pop (F.args_list_pop_1 _) (MeetsSeq.list_pop_last l its.toArray n u hy' (by rw [List.size_toArray]; omega)) ⟨e,?_⟩
 refine ⟨y,_,I.lset (its':=its.dropLast) hH e ?_ r.dropLast ?_,ru,q⟩
 ·show its.toArray.eraseIdxIfInBounds (its.toArray.size - 1)=its.dropLast.toArray
  rw [List.size_toArray,List.eraseIdxIfInBounds_toArray,ZdR]
 ·rw [List.length_dropLast]
  omega
def ZlL:R2:=fun x y H Q=>∃ l b xs zs,x = .ref l∧y = .ref b∧H l=some (.lst xs)∧H b=some (.lst zs)∧xs.length + zs.length≤sizeLine∧∀ p,H p=none→Q (.ref p) (upd H p (.lst (xs ++ zs)))
theorem JN:OpR X (binaryOp .Add) ZlL:=by
 intro pins s σ H x y v u Q I rx ry h
 obtain ⟨l,b,xs,zs,rfl,rfl,hH,hB,hz,q⟩:=h
 cases rx
 cases ry
 obtain ⟨z,its,n,r,hl,e⟩:=I.lstM hH
 obtain ⟨z2,its2,n2,r2,hl2,e2⟩:=I.lstM hB
 refine PySem.P.add_list e e2 ?_ (by rw [List.size_toArray,List.size_toArray]; omega)
 have ea:its.toArray ++ its2.toArray=(its ++ its2).toArray:=by simp
 rw [ea]
 exact ⟨.ref _,_,I.lnew (t':=s.toks) (r.append r2) (by rw [List.length_append]; omega),rfl,q _ I.fresh⟩
def ZlK:R2:=fun x y H Q=>∃ l k xs,x = .ref l∧y = .int k∧H l=some (.lst xs)∧-(2 ^ 63)≤k∧k < 2 ^ 63∧xs.length * k.toNat≤sizeLine ∧
 ∀ p,H p=none→Q (.ref p) (upd H p (.lst (List.replicate k.toNat xs).flatten))
theorem Ziz {α:Type} (xs:List α) (k:Nat):(List.replicate k xs).flatten.length=k * xs.length:=by
 induction k with
 | zero=>simp
 | succ k ih=>rw [List.replicate_succ,List.flatten_cons,List.length_append,ih,Nat.succ_mul,Nat.add_comm]
theorem ZjC:OpR X (binaryOp .Mult) ZlK:=by
 intro pins s σ H x y v u Q I rx ry h
 obtain ⟨l,k,xs,rfl,rfl,hH,h1,h2,hz,q⟩:=h
 cases rx
 obtain ⟨t,rfl⟩:=ry
 obtain ⟨z,its,n,r,hl,e⟩:=I.lstM hH
 have hlen:its.toArray.size * k.toNat≤sizeLine:=by rw [List.size_toArray,← hl]; exact hz
 have hcap:¬ its.toArray.size * k.toNat > (2 ^ 63 - 1) / 8:=by
  have:(sizeLine:Nat)≤(2 ^ 63 - 1) / 8:=by decide
  omega
 have hfit:¬ (!Builtin.List.listFitsIndex k)=true:=by
  rw [fitsIndex_both h1 h2]
  exact Bool.false_ne_true
 have hlong:¬ Builtin.List.listTooLong (its.toArray.size * k.toNat)=true:=by
  rw [ZcW hlen]
  exact Bool.false_ne_true
 have hnew:List.foldl (fun x1 x2=>x1 ++ x2) #[] (List.replicate (if its.toArray.isEmpty=true then 0 else k.toNat) its.toArray)=(List.replicate k.toNat its).flatten.toArray:=by
  have f0:∀ m:Nat,List.foldl (fun x1 x2=>x1 ++ x2) #[] (List.replicate m its.toArray)=(List.replicate m its).flatten.toArray:=fun m=>by
   have:=Zbs its m []
   rw [List.nil_append] at this
   exact this
  rw [f0]
  cases its with
  | nil=>simp
  | cons a r'=>rw [if_neg (by simp)]
 refine wpAny_binaryOp_repeat_ref (T:="list") (U:="int") (by decide) ⟨_,e,rfl⟩ (fun s'=>typeIs_int s' k t) noFill_list_mul F.fills_int_mul F.slot_int_rmul repeat_list F.slot_int_index.lookup
  (call_meets F.slot_int_rmul (typeIs_int s k t) F.entry_int_rmul (F.args_int_rmul_2 _ _) (int___rmul___int_list k t l its.toArray n)
   ⟨e,rfl,⟨_,e,rfl⟩,call_meets F.slot_list_mul ⟨_,e,rfl⟩ F.entry_list_mul (F.args_list_mul_2 _ _) (AutoListH.list___mul___list_int_3 l its.toArray n k t hfit hcap hlong) ⟨e,?_⟩⟩)
 rw [hnew]
 exact ⟨.ref _,_,I.lnew (t':=s.toks) (r.rep k.toNat) (by rw [Ziz,Nat.mul_comm]; exact hz),rfl,q _ I.fresh⟩
end
section
variable {prog:Program} {w:World} {A:Around} {E:Value→Shared→Prop} {s:Shared}
end
section
variable {X:Cx}
end
end L2
namespace Att
open PySem PySem.W PySem.Calls PyProof.Rows
theorem Jv {P:Params} {h:Heap}:∀ (ns:List Int) (vs:List Value),WellAll P h vs (ns.map WData.int)→IntsAre vs ns:=by
 intro ns
 induction ns with
 | nil =>
  intro vs w
  rw [List.map_nil] at w
  cases w
  exact .nil
 | cons n ns ih =>
  intro vs w
  rw [List.map_cons] at w
  cases w with
  | cons a b =>
   cases a
   exact .cons _ _ (ih _ b)
theorem Zet {l:OpenLaw} {n:Nat} (hn:l.most=some n) {P:Params} {h:Heap} {args:List WData} {vals:List Value}
  (hpre:l.row.toRowW.claim.pre args=true) (hwl:WellAll P h vals args) :
  ∃ a vs ns,vals=[Value.ref a]∧args=[WData.list (ns.map WData.int)]∧h.get? a=some { cls:=.type "list",data:=.seq vs.toArray }∧IntsAre vs ns∧ns.length≤n:=by
 have hsh:WShape.hasAll [] args [.list .int]=true:=(pre_splitW hpre).1
 have hc:l.pre.holds [] { args:=args }=true:=(pre_splitW hpre).2
 obtain ⟨d,r,rfl,h1,h2⟩:=hasAllW_cons hsh
 obtain rfl:=hasAllW_nil h2
 obtain ⟨xs,rfl,h3⟩:=hasW_list h1
 obtain ⟨ns,rfl⟩:=items_int h3
 have hlen:ns.length≤n:=by
  unfold OpenLaw.pre at hc
  have h4:(WTm.not (.lt (.lit (.int (n:Int))) (.len (.arg 0)))).holds [] { args:=[.list (ns.map .int)] }=true:=by
   have h4:=(holds_andW hc).1
   rw [hn] at h4
   exact h4
  have h5:=condW_of h4 (w_not (w_lt w_lit (w_len_list (w_arg rfl))))
  rw [List.length_map] at h5
  refine Nat.le_of_not_lt fun q=>?_
  have q':(n:Int) < ((ns.length:Nat):Int):=by omega
  first
   | (rw [decide_eq_true q'] at h5; exact absurd h5 (by decide))
   | (simp at h5; omega)
 cases hwl with
 | cons w1 w2 =>
  cases w2
  cases w1 with
  | list ho hall=>exact ⟨_,_,ns,rfl,rfl,ho,Jv ns _ hall,hlen⟩
theorem ZeR (l:OpenLaw) (args:List WData):l.row.toRowW.claim.post args (.bool true) args=true :=
 postW_of (r:=l.row.toRowW) (X:=(true == true))
  (show WShape.has [] (.bool true) .bool=true by first | rfl | decide | simp [WShape.has,WShape.arms,WShape.armsAll])
  (show (WTm.eq .res (.lit (.bool true))).value [] { args:=args,res:=some (.bool true),after:=args }=some (.bool (true == true)) from w_eq_bool (w_res rfl) w_lit) rfl
theorem attach_call {l:OpenLaw} {n:Nat} {q:Program} {loose:List Str} {XP:(Str→Option Value)→Heap→Prop} {YP:World→Heap→Prop} {d:DefRec}
  (hn:l.most=some n) (hdf:d.params.defaults=[])
  (call:∀ (w:World) (s₀ s₁:Shared) (mg mb:Str→Option Value) (fa:Addr) (o:Obj) (pm cd doc:Value) (a:Addr) (vs:List Value) (ns:List Int),
   Ground q loose [] XP w s₀ mg mb s₁.heap→YP w s₁.heap →
   s₁.heap.get? fa=some o→o.data = .func (docDef d.name d.params d.body d.scope pm cd doc)→s₁.heap.CodeRec cd d.name→mg d.name=some (.ref fa) →
   s₁.heap.get? a=some { cls:=.type "list",data:=.seq vs.toArray }→IntsAre vs ns→ns.length≤n→s₁.gens = #[] →
   codeAny (model l.prog w) callerA (.call (.ref fa) ⟨[.ref a],[]⟩) (fun r s'=>r = .ok (.ret (.bool true))∧OldK s₁.heap s'.heap∧s'.os=s₁.os∧AllBare s'.gens) s₁) :
  WalkO q loose XP YP l.row.toRowW d [] (fun f vs=>PySem.call f vs):=by
 intro w s₀ s₁ mg mb G Y fa o pm cd doc dV kV ho hd hcd hD hmg hg args vals as hpre hlay hrd hwl hlo
 obtain rfl:dV = .none:=Dflts.none hD hdf
 obtain rfl:kV = .none:=Dflts.noKw hD
 obtain ⟨a,vs,ns,rfl,rfl,hobj,hints,hlen⟩:=Zet hn hpre hwl
 refine enter_call (codeAny_mono (call w s₀ s₁ mg mb fa o pm cd doc a vs ns G Y ho (fd_plain hd) hcd hmg hobj hints hlen hg) fun r s' hq=>?_)
 obtain ⟨rfl,h2,h3,h4⟩:=hq
 exact ⟨.inl ⟨.bool true,.bool true,[],rfl,fun _=>rfl,.bool true,ZeR l _,fun _=>⟨List.Pairwise.nil,fun _ hm=>(nomatch hm)⟩⟩,h2,h3,h4⟩
section
variable {prog:Program} {w:World} {A:Around} {E:Value→Shared→Prop} {s:Shared} {K:Frag}
def Zlp (h:Heap) (L d:Addr):List (Addr × Obj):=(List.range h.objs.size).filterMap fun a=>if a=L∨a=d then none else (h.get? a).map fun o=>(a,o)
end
end Att
namespace L2
open PySem PySem.Spec PyProof.Rows
theorem ZaR:∀ {vs:List Value} {ns:List Int},IntsAre vs ns→Vals (ns.map V.int) vs
 | _,_,.nil=>.nil
 | _,_,.cons n t h=>.cons ⟨t,rfl⟩ (ZaR h)
def Zlf (H:Hp):Prop:=∀ b,H b=none∨∃ o xs,H b=some (.frz o (.lst xs))
theorem ZgR {P:Program} {w:World} {K:PySem.W.Frag} {mg mb:Str→Option Value} {CX:CXT} {k:Nat} {fa a:Addr} {fd:FuncData} {x:Str} {sp:Sp} {s₁:Shared} {vs:List Value} {ns:List Int}
  (KX:K.In s₁.heap) (hns:s₁.heap.Ns mainGlobals mg) (hb:s₁.heap.Ns builtinsNs mb) (hbb:∀ x:Str,x≠"__name__"→mb x=bootBuiltins x) (hlim:s₁.heap.NoLimit) (hg:s₁.gens = #[])
  (ha:s₁.heap.get? a=some { cls:=.type "list",data:=.seq vs.toArray }) (hi:IntsAre vs ns) (hl:ns.length≤sizeLine) (hr:Room k callerA)
  (F:∀ base:Heap,K.In base→base.Ns mainGlobals mg→FnOk P w K mg base CX k fa fd [x] sp) (hbind:∀ (s:Shared) (u:Value),BindsTo s fd ⟨[u],[]⟩ [(x,u)])
  (hsp:∀ H:Hp,Zlf H→SqL K H a (ns.map V.int)→sp [.ref a] H (fun v _=>v = .bl true) fun _ _ _=>False)
  (hCX:∀ H e s',CX [] H s₁ (fun _ _ _=>False) e s'→False) :
  codeAny (model P w) callerA (.call (.ref fa) ⟨[.ref a],[]⟩) (fun r s'=>r = .ok (.ret (.bool true))∧OldK s₁.heap s'.heap∧s'.os=s₁.os∧AllBare s'.gens) s₁:=by
 have rv:=ZaR hi
 have lenV:=hi.length
 -- from an abstract heap in which nothing but the script may be tracked
 have core:∀ H:Hp,Zlf H→SqL K H a (ns.map V.int)→HOk P w H s₁.heap→(∀ b,H b≠none→b=a)→(H a≠none→K.lookup a=none) →
   codeAny (model P w) callerA (.call (.ref fa) ⟨[.ref a],[]⟩) (fun r s'=>r = .ok (.ret (.bool true))∧OldK s₁.heap s'.heap∧s'.os=s₁.os∧AllBare s'.gens) s₁:=by
  intro H hO hS hok hA hK
  have base_of:∀ {b:Addr} {o:Obj},s₁.heap.get? b=some o→H b=none→(ZgY s₁.heap H).get? b=some o:=fun e n=>ZgX e n
  have noA:∀ {b:Addr} {o:Obj} {es:Array DictEntry} {ep:Nat},s₁.heap.get? b=some o→o.data = .dict es ep→H b=none:=fun {b o es ep} e d=>by
   cases q:H b with
   | none=>rfl
   | some u =>
    have e':b=a:=hA b (by rw [q]; simp)
    subst e'
    rw [ha] at e; cases e
    have d':Data.seq vs.toArray _=Data.dict es ep:=d
    cases d'
  have nsK:∀ {b:Addr} {m:Str→Option Value},s₁.heap.Ns b m→(ZgY s₁.heap H).Ns b m:=fun {b m} ⟨o,es,ep,e,d,r⟩=>⟨o,es,ep,base_of e (noA e d),d,r⟩
  have hKb:K.In (ZgY s₁.heap H):=fun b o e=>base_of (KX b o e) (by
   cases q:H b with
   | none=>rfl
   | some u =>
    have e':b=a:=hA b (by rw [q]; simp)
    subst e'
    rw [hK (by rw [q]; simp)] at e; cases e)
  have hM:Mod K mg (ZgY s₁.heap H):=⟨hKb,nsK hns,⟨mb,nsK hb,hbb⟩,let ⟨mc,h1,h2⟩:=hlim; ⟨mc,nsK h1,h2⟩⟩
  have e0:Zkn P w K mg (ZgY s₁.heap H) callerA [] s₁ H:=⟨rfl,hM,fun b o e=>Zil e,Nat.le_of_eq (Zfv _ _),trivial,fun b hb=>absurd (show b∈([]:List Addr) from hb) (by simp),hok,.of_eq hg⟩
  refine codeAny_mono ((F _ hKb (nsK hns)).run callerA [] s₁ H ⟨[.ref a],[]⟩ [.ref a] [.ref a] _ _ hr e0 (hbind s₁ (.ref a)) (.cons rfl .nil) (hsp H hO hS)) fun r s' h=>?_
  cases r with
  | error e=>exact (hCX H e s' h).elim
  | ok fl =>
   cases fl with
   | next=>exact False.elim h
   | brk=>exact False.elim h
   | cont=>exact False.elim h
   | ret u =>
    obtain ⟨v,H',os,bare,un,hok',r',q⟩:=h
    have q':v = .bl true:=q
    subst q'
    obtain rfl:u=Value.bool true:=r'
    refine ⟨rfl,OldK.of_keep fun b o e=>?_,os,bare⟩
    cases q:H b with
    | none=>exact un.keep b o e q (by intro z; exact absurd (show b∈([]:List Addr) from z) (by simp)) (by simp)
    | some u =>
     rcases hO b with z | ⟨ob,xs,z⟩
     ·rw [q] at z; cases z
     ·have z2:=un.frzs b ob _ z
      obtain ⟨e1,_⟩:=hok b _ z
      obtain ⟨e2,_⟩:=hok' b _ z2
      rw [e] at e1; cases e1
      exact e2
 cases hk:K.lookup a with
 | some o =>
  -- the script is one of the module's own objects
  have e:=KX a o hk
  rw [ha] at e
  cases e
  refine core (fun _=>none) (fun _=>.inl rfl) (.inr ⟨_,vs.toArray,_,hk,rfl,rfl,rfl,by rw [List.size_toArray,lenV]; exact hl,by simpa using rv⟩) (fun b u z=>by have z':(none:Option HO)=some u:=z; cases z') (fun b z=>absurd rfl z) fun z=>absurd rfl z
 | none =>
  refine core (fun b=>if b=a then some (.frz { cls:=.type "list",data:=.seq vs.toArray } (.lst (ns.map V.int))) else none) (fun b=>?_) (.inl (.inr ⟨{ cls:=.type "list",data:=.seq vs.toArray },if_pos rfl⟩)) (fun b u z=>?_) (fun b z=>?_) fun _=>hk
  ·by_cases hb:b=a
   ·exact .inr ⟨_,_,if_pos hb⟩
   ·exact .inl (if_neg hb)
  ·by_cases hb:b=a
   ·have z':=(if_pos hb).symm.trans z
    cases z'
    subst hb
    exact ⟨ha,by rw [List.length_map]; exact hl,vs,_,rv,ha⟩
   ·have z':=(if_neg hb).symm.trans z
    cases z'
  ·by_cases hb:b=a
   ·exact hb
   ·exact absurd (if_neg hb) z
theorem walk_of {l:PySem.W.OpenLaw} {n k:Nat} {q:Program} {loose:List Str} {XP:(Str→Option Value)→Heap→Prop} {YP:World→Heap→Prop} {d:DefRec} {K:Params→PySem.W.Frag} {CX:World→CXT} {sp:World→Sp} {x:Str}
  (hn:l.most=some n) (hn2:n≤sizeLine) (hdf:d.params.defaults=[]) (hr:Room k callerA)
  (hY:∀ (w:World) (h:Heap),YP w h→(K w.params).In h)
  (F:∀ (w:World) (mg:Str→Option Value) (fa:Addr) (h:Heap),(K w.params).In h→h.Ns mainGlobals mg→mg d.name=some (.ref fa) →
   ∃ fd:FuncData,(∀ (s:Shared) (u:Value),BindsTo s fd ⟨[u],[]⟩ [(x,u)]) ∧
    ∀ base:Heap,(K w.params).In base→base.Ns mainGlobals mg→FnOk l.prog w (K w.params) mg base (CX w) k fa fd [x] (sp w))
  (hsp:∀ (w:World) (H:Hp) (a:Addr) (ns:List Int),ns.length≤n→Zlf H→SqL (K w.params) H a (ns.map V.int)→sp w [.ref a] H (fun v _=>v = .bl true) fun _ _ _=>False)
  (hCX:∀ (w:World) (H:Hp) (s:Shared) (e:Value) (s':Shared),CX w [] H s (fun _ _ _=>False) e s'→False) :
  PySem.W.WalkO q loose XP YP l.row.toRowW d [] (fun f vs=>PySem.call f vs):=by
 refine Att.attach_call hn hdf fun w s₀ s₁ mg mb fa o pm cd doc a vs ns G Y ho hd hcd hmg hobj hints hlen hg=>?_
 have KX:=hY w _ Y
 obtain ⟨fd,hb,hF⟩:=F w mg fa _ KX G.T.g hmg
 exact ZgR KX G.T.g G.T.b G.T.builtins G.T.nolimit hg hobj hints (Nat.le_trans hlen hn2) hr hF hb (fun H hO hS=>hsp w H a ns hlen hO hS) fun H e s'=>hCX w H s₁ e s'
def YQ (s:Stmt):Arguments:=match s with
 | .FunctionDef _ a _ _ _ _ _ _ _ _=>a
 | _=>{ posonlyargs:=[],args:=[],vararg:=none,kwonlyargs:=[],kw_defaults:=[],kwarg:=none,defaults:=[] }
def Z9 (s:Stmt):List Stmt:=match s with
 | .FunctionDef _ _ b _ _ _ _ _ _ _=>b
 | _=>[]
def Zf (s:Stmt):Scope:=match s with
 | .FunctionDef _ _ _ _ _ _ sc _ _ _=>sc
 | _=>{ kind:=.function,names:=[],isGenerator:=false,isCoroutine:=false }
abbrev CX0:CXT:=fun _ _ _ _ _ _=>False
abbrev E0:XK:=fun _ _ _=>False
theorem ZkS {X:Cx}:Zdr CX0 X E0:=fun _ _ _ _ _ _ _ h=>h.elim
structure Fun (K:PySem.W.Frag) (x qual:Str) (st:Stmt) (f:Addr) (fd:FuncData):Prop where
 ex:∃ (oc:Value) (od:Option Addr) (kV doc pm:Value) (an:Option Addr) (cdv ct:Value) (osl:Array (Option Value)),
  fd=PySem.W.fnOf x qual (YQ st) (Z9 st) (Zf st) .none kV doc pm an cdv ct∧K.lookup f=some ⟨oc,od,.func fd,osl⟩∧PySem.W.codeIn K cdv qual=true
 kp:PySem.W.keepIn K (.ref f)=true
section
variable {P:Program} {w:World} {K:PySem.W.Frag} {mg:Str→Option Value} {base:Heap}
theorem Fun.ok {x qual:Str} {st:Stmt} {f:Addr} {fd:FuncData} {N ps:List Str} {k:Nat} {sp:Sp} (F:Fun K x qual st f fd) (S:Zn N ps (Zf st)) (len:∀ vs H Q E,sp vs H Q E→vs.length=ps.length)
  (hbody:∀ (cdv:Value) (A:Around) (outer:List Env) (s:Shared) (H:Hp) (vs:List V) (Q:VK) (E:XK),Room k (A.deeper (envOfC qual (Zf st) s.heap.objs.size f cdv))→sp vs H Q E →
   ∃ t,PSs (ZfI CX0 P w K mg base N qual (Zf st) f cdv A outer s H E).nox (Z9 st) t∧t { nx:=fun _ H'=>Q .non H',rt:=Q } (start N vs) H):FnOk P w K mg base CX0 (k + 1) f fd ps sp:=by
 obtain ⟨oc,od,kV,doc,pm,an,cdv,ct,osl,rfl,lk,hcd⟩:=F.ex
 refine Zj5 lk hcd S len fun A outer s H vs Q E hr hsp=>?_
 obtain ⟨t,h,q⟩:=hbody cdv A outer s H vs Q E hr hsp
 exact ⟨t,h.nox,q⟩
theorem Fun.binds {x qual:Str} {st:Stmt} {f:Addr} {fd:FuncData} {ps:List Str} (F:Fun K x qual st f fd)
  (h:∀ (kV doc pm:Value) (an:Option Addr) (cdv ct:Value) (us:List Value),us.length=ps.length→bindArgs (PySem.W.fnOf x qual (YQ st) (Z9 st) (Zf st) .none kV doc pm an cdv ct) ⟨us,[]⟩=pure (ps.zip us)):Binds K fd ps []:=by
 obtain ⟨oc,od,kV,doc,pm,an,cdv,ct,osl,rfl,lk,hcd⟩:=F.ex
 exact .all (h kV doc pm an cdv ct)
theorem Zfz {x qual:Str} {st:Stmt} {f:Addr} {oc:Value} {od an:Option Addr} {osl:Array (Option Value)} {kV doc pm cdv ct:Value} (l:K.lookup f=some ⟨oc,od,.func (PySem.W.fnOf x qual (YQ st) (Z9 st) (Zf st) .none kV doc pm an cdv ct),osl⟩)
  (c:PySem.W.codeIn K cdv qual=true) (k:PySem.W.keepIn K (.ref f)=true):Fun K x qual st f (PySem.W.fnOf x qual (YQ st) (Z9 st) (Zf st) .none kV doc pm an cdv ct):=⟨⟨oc,od,kV,doc,pm,an,cdv,ct,osl,rfl,l,c⟩,k⟩
end
theorem Zct {A:Around} {k:Nat} (hr:Room k A):A.units + 1 < cLine:=Nat.lt_of_le_of_lt (Nat.add_le_add_left (by decide:1≤64) _) hr.units
theorem ZC {n:Nat} (h:n≤1000):n < sizeLine:=Nat.lt_of_le_of_lt h (by decide)
section
variable {X:Cx}
theorem pv (i:Nat) {x:Str} {pos:Pos} (hN:X.N[i]?=some x:=by rfl) (hv:Vis X.env.scope x:=by first | exact Or.inl rfl | exact Or.inr (.inl rfl) | exact Or.inr (.inr rfl)) (hd:(x == ("__debug__" : Str))=false:=by decide)
  (hcd:(x == ("__classdict__" : Str))=false:=by decide):PE X (.Name x pos) (Zks i):=Zju hN hv hd hcd
end
theorem Zi0 {A B:Prop} (h:B):if false=true then A else B:=by
 rw [if_neg Bool.false_ne_true]
 exact h
theorem ZkZ {A B:Prop} (h:A):if true=true then A else B:=by
 rw [if_pos rfl]
 exact h
theorem Zk0 {c A B:Prop} [Decidable c] (h1:c→A) (h2:¬ c→B):if c then A else B:=by
 by_cases h:c
 ·rw [if_pos h]
  exact h1 h
 ·rw [if_neg h]
  exact h2 h
def Same (H H':Hp):Prop:=∀ b o,H b=some o→H' b=some o
theorem Same.refl (H:Hp):Same H H:=fun _ _ h=>h
theorem Same.trans {H H1 H2:Hp} (a:Same H H1) (b:Same H1 H2):Same H H2:=fun c o h=>b c o (a c o h)
theorem Same.free {H H':Hp} (e:Same H H') {l:Addr} (h:H' l=Option.none):H l=Option.none:=by
 cases q:H l with
 | none=>rfl
 | some o =>
  rw [e l o q] at h
  cases h
theorem Same.seq {K:PySem.W.Frag} {H H':Hp} {a:Addr} {xs:List V} (e:Same H H') (h:SqL K H a xs):SqL K H' a xs:=by
 rcases h with (h | ⟨o,h⟩) | h
 ·exact .inl (.inl (e _ _ h))
 ·exact .inl (.inr ⟨o,e _ _ h⟩)
 ·exact .inr h
section
variable {κ:Type} [DecidableEq κ]
theorem Ze8:∀ {l:List κ} {k:κ},l.Nodup→¬ k∈l→(l ++ [k]).Nodup
 | [],k,_,_=>by simp
 | a :: r,k,h,hk=>by
  obtain ⟨h1,h2⟩:=List.nodup_cons.mp h
  show (a :: (r ++ [k])).Nodup
  refine List.nodup_cons.mpr ⟨fun m=>?_,Ze8 h2 fun m=>hk (List.mem_cons.mpr (Or.inr m))⟩
  rcases List.mem_append.mp m with q | q
  ·exact h1 q
  ·exact hk (List.mem_cons.mpr (Or.inl (List.mem_singleton.mp q).symm))
end
def YR (env:Env):List (Str × NameKind)→List (Str × Addr)→List (Str × Addr)
 | [],cs=>cs
 | y :: r,cs=>YR env r (if y.2 == NameKind.free then (y.1,(env.cells.lookup y.1).getD 0) :: cs else cs)
theorem Jx {env:Env} (f:Str × NameKind→List (Str × Addr)→Sem (ForInStep (List (Str × Addr)))) :
  ∀ (ns:List (Str × NameKind)) (cs:List (Str × Addr)),(∀ y∈ns,∀ c,f y c=pure (.yield (if y.2 == NameKind.free then (y.1,(env.cells.lookup y.1).getD 0) :: c else c))) →
   forIn ns cs f=pure (YR env ns cs)
 | [],cs,_=>rfl
 | y :: r,cs,h=>by
  rw [List.forIn_cons,h y List.mem_cons_self,pure_bind]
  exact Jx f r _ fun z hz=>h z (List.mem_cons_of_mem _ hz)
theorem Xt {env:Env} {scope:Scope} (h:∀ y∈scope.names,y.2 = .free→∃ c,env.cells.lookup y.1=some c) :
  closureFor scope env=pure (YR env scope.names []):=by
 simp only [closureFor]
 rw [Jx (env:=env) _ _ _ (fun y hy c=>?_)]
 ·rfl
 ·obtain ⟨n,k⟩:=y
  cases hk:(k == NameKind.free) with
  | true =>
   obtain ⟨a,ha⟩:=h (n,k) hy (by simpa using hk)
   have ha':env.cells.lookup n=some a:=ha
   simp only [if_true,cellOf,ha',Option.getD_some,pure_bind]
  | false=>simp only [Bool.false_eq_true,if_false]
theorem Zbx {env:Env}:∀ (ns:List (Str × NameKind)) (cs:List (Str × Addr)),(∀ y∈ns,y.2 = .free→∃ c,env.cells.lookup y.1=some c) →
  (∀ n c,cs.lookup n=some c→env.cells.lookup n=some c)→∀ n c,(YR env ns cs).lookup n=some c→env.cells.lookup n=some c
 | [],cs,_,h,n,c,e=>h n c e
 | y :: r,cs,hf,h,n,c,e=>by
  refine Zbx r _ (fun z hz=>hf z (List.mem_cons_of_mem _ hz)) (fun n c e=>?_) n c e
  split at e
  ·rename_i hk
   obtain ⟨a,ha⟩:=hf y List.mem_cons_self (by simpa using hk)
   rw [ha,Option.getD_some] at e
   cases hn:n == y.1 with
   | true =>
    simp only [List.lookup_cons,hn] at e
    cases e
    rw [eq_of_beq hn]
    exact ha
   | false =>
    simp only [List.lookup_cons,hn] at e
    exact h n c e
  ·exact h n c e
theorem JA {env:Env}:∀ (ns:List (Str × NameKind)) (cs:List (Str × Addr)) (n:Str),((n,NameKind.free)∈ns∨(cs.lookup n).isSome=true) →
  ((YR env ns cs).lookup n).isSome=true
 | [],cs,n,h=>by
  rcases h with h | h
  ·cases h
  ·exact h
 | y :: r,cs,n,h=>by
  refine JA r _ n ?_
  rcases h with h | h
  ·rcases List.mem_cons.mp h with h | h
   ·right
    subst h
    simp
   ·exact .inl h
  ·right
   split
   ·cases hn:n == y.1 with
    | true=>simp only [List.lookup_cons,hn]; rfl
    | false=>simp only [List.lookup_cons,hn]; exact h
   ·exact h
def ZiZ (env:Env) (n:Str) (k:NameKind):NameKind:=if (k == NameKind.free && env.scope.kind == .function && env.kindOf n == some .cell)=true then .cell else k
theorem JJ (env:Env) (x:Str):∀ names:List (Str × NameKind),
  (names.map fun (n,k)=>if (k == NameKind.free && env.scope.kind == .function && env.kindOf n == some .cell) then (n,NameKind.cell) else (n,k)).lookup x=(names.lookup x).map (ZiZ env x)
 | []=>rfl
 | (n,k) :: r=>by
  have ih:=JJ env x r
  have e1:(if (k == NameKind.free && env.scope.kind == .function && env.kindOf n == some .cell)=true then (n,NameKind.cell) else (n,k))=(n,ZiZ env n k):=by
   unfold ZiZ
   split <;> rfl
  rw [List.map_cons]
  show List.lookup x ((if (k == NameKind.free && env.scope.kind == .function && env.kindOf n == some .cell)=true then (n,NameKind.cell) else (n,k)) :: _)=_
  rw [e1]
  cases hx:x == n with
  | true =>
   simp only [List.lookup_cons,hx]
   rw [eq_of_beq hx]
   rfl
  | false =>
   simp only [List.lookup_cons,hx]
   exact ih
theorem XR (scope:Scope) (env:Env) (x:Str):(relabel scope env).names.lookup x=(scope.names.lookup x).map (ZiZ env x):=JJ env x scope.names
def lcN (N xs:List Str) (mp:List Nat):List Str:=xs ++ mp.map fun j=>N.getD j ""
def lcS (k:Nat) (mp:List Nat) (σ:St):St:=List.replicate k none ++ mp.map fun j=>(σ[j]?).getD none
structure Zi1 (sc scope:Scope) (N xs:List Str) (mp:List Nat):Prop where
 kind:scope.kind = .function
 nocell:∀ y∈scope.names,y.2≠.cell
 names:∀ y∈scope.names,y.2 = .local→scope.names.lookup y.1=some .local
 tg:∀ x∈xs,scope.names.lookup x=some .local
 fr:∀ y∈scope.names,y.2 = .free→sc.names.lookup y.1=some .cell∨sc.names.lookup y.1=some .free
 out:∀ j∈mp,scope.names.lookup (N.getD j "")=some .free
 nd:(lcN N xs mp).Nodup
def ZgQ (sc scope:Scope) (N xs:List Str) (mp:List Nat):Bool :=
 decide (scope.kind = .function) && scope.names.all (fun y=>decide (y.2≠.cell)) && scope.names.all (fun y=>decide (y.2 = .local→scope.names.lookup y.1=some .local)) &&
  xs.all (fun x=>decide (scope.names.lookup x=some .local)) && scope.names.all (fun y=>decide (y.2 = .free→sc.names.lookup y.1=some .cell∨sc.names.lookup y.1=some .free)) &&
  mp.all (fun j=>decide (scope.names.lookup (N.getD j "")=some .free)) && decide (lcN N xs mp).Nodup
theorem Zc8 {sc scope:Scope} {N xs:List Str} {mp:List Nat} (h:ZgQ sc scope N xs mp=true):Zi1 sc scope N xs mp:=by
 simp only [ZgQ,Bool.and_eq_true,List.all_eq_true,decide_eq_true_eq] at h
 obtain ⟨⟨⟨⟨⟨⟨h1,h2⟩,h3⟩,h4⟩,h5⟩,h6⟩,h7⟩:=h
 exact ⟨h1,h2,h3,h4,h5,h6,h7⟩
abbrev lcx (X:Cx) (M:List Str) (scope:Scope) (cl:List (Str × Addr)) (C:Addr) (s₀:Shared) (H₀:Hp) (fp:List Addr):Cx where
 prog:=X.prog
 w:=X.w
 K:=X.K
 mg:=X.mg
 base:=X.base
 A:=X.A
 N:=M
 s₀:=s₀
 H₀:=H₀
 env:=compEnvC scope cl C X.env
 outer:=X.stack
 stack:=X.stack
 ex:=fp
 fn:=fun _=>false
 calm:=X.calm
 pn:=[]
 xe:=fun _ _=>False
section
variable {X:Cx} {pins:List (Addr × Obj)} {σ:St} {H₀:Hp} {s₀:Shared} {scope sc:Scope} {N xs:List Str} {mp:List Nat} {fp:List Addr}
theorem Zaz (I:Inv X pins σ H₀ s₀) (hsc:X.env.scope=sc) (S:Zi1 sc scope N xs mp):∀ y∈scope.names,y.2 = .free→∃ c,X.env.cells.lookup y.1=some c:=fun y hy e=>by
 refine I.ok.has y.1 ?_
 have q:=S.fr y hy e
 rw [← hsc] at q
 exact q
theorem ZhG (I:Inv X pins σ H₀ s₀) (hsc:X.env.scope=sc) (S:Zi1 sc scope N xs mp) {n:Str} {c:Addr} (e:(YR X.env scope.names []).lookup n=some c):X.env.cells.lookup n=some c :=
 Zbx scope.names [] (Zaz I hsc S) (fun _ _ z=>nomatch z) n c e
theorem ZjW {h₁:Heap} {o:Obj} {m:Str→Option Value} {tk:Nat} (I:Inv X pins σ H₀ s₀) (hsc:X.env.scope=sc) (S:Zi1 sc scope N xs mp) (hf:∀ b∈fp,ZdX X pins H₀ b)
  (hx:∀ b∈fp,∃ ob,s₀.heap.get? b=some ob) (hns:h₁.Ns s₀.heap.objs.size m) (hsb:Heap.SameBut s₀.heap.objs.size (s₀.heap.push o) h₁) :
  Inv (lcx X (lcN N xs mp) scope (YR X.env scope.names []) s₀.heap.objs.size s₀ H₀ fp) [] (List.replicate (xs.length + mp.length) none) H₀ { s₀ with heap:=h₁,toks:=tk }:=by
 have kp:∀ b u,s₀.heap.get? b=some u→h₁.get? b=some u:=fun b u e=>hsb.extBut b u (Nat.ne_of_lt (Heap.lt_size e)) (Heap.get?_push_of_some _ e)
 have sub:=@ZhG X pins σ H₀ s₀ scope sc N xs mp I hsc S
 refine ⟨⟨I.ok.mod,S.kind,I.ok.glob,I.ok.blt,Nat.le_refl _,fun x y c e1 e2=>I.ok.inj x y c (sub e1) (sub e2),fun x hk=>?_,fun x c h _=>(Bool.false_ne_true h).elim,I.ok.hd,I.ok.frames,.inl rfl,
  fun b hb=>⟨?_,fun x c e=>(hf b hb).2.2.2.2.1 x c (sub e)⟩,fun b o e=>I.bs b o e,Nat.le_trans I.ok.bsz I.sz,fun b o e hb=>?_,fun b hb z=>?_,I.stack,I.stkFree⟩,
  rfl,I.bare,Un.kept kp,⟨m,hns,fun i x v _ e2 _=>?_⟩,fun x c e=>?_,I.hok.fresh (Nat.le_refl _),fun x c e=>I.freeC x c (sub e),fun p hp=>absurd (show p∈([]:List (Addr × Obj)) from hp) (by simp),I.hok.kept kp,?_⟩
 ·have hk':(relabel scope X.env).names.lookup x=some .cell∨(relabel scope X.env).names.lookup x=some .free:=hk
  rw [XR] at hk'
  cases e:scope.names.lookup x with
  | none=>rw [e] at hk'; rcases hk' with z | z <;> cases z
  | some k =>
   have mem:(x,k)∈scope.names:=PySem.mem_of_lookup e
   have hkf:k = .free:=by
    rw [e] at hk'
    have n1:=S.nocell _ mem
    simp only [Option.map_some,Option.some.injEq] at hk'
    unfold ZiZ at hk'
    split at hk'
    ·rename_i hc
     simp only [Bool.and_eq_true] at hc
     simpa using hc.1.1
    ·rcases hk' with z | z
     ·exact absurd z n1
     ·exact z
   subst hkf
   exact Option.isSome_iff_exists.mp (JA scope.names [] x (.inl mem))
 ·obtain ⟨ob,e⟩:=hx b hb
  exact Nat.ne_of_lt (Heap.lt_size e)
 ·rcases (hf b hb).2.2.2.1 with z | z
  ·exact I.ok.noex b o e z
  ·exact absurd (Nat.lt_of_lt_of_le (Heap.lt_size (I.ok.bs b o e).1) z) (Nat.lt_irrefl _)
 ·rcases List.mem_cons.mp (I.stkSub b z) with e | e
  ·exact (hf b hb).2.1 e
  ·exact (hf b hb).2.2.1 e
 ·rw [List.getElem?_replicate] at e2
  split at e2 <;> cases e2
 ·obtain ⟨v,ob,ho,hd⟩:=I.cell x c (sub e)
  exact ⟨v,ob,kp c ob ho,hd⟩
 ·show (List.replicate (xs.length + mp.length) none:St).length=(lcN N xs mp).length
  simp [lcN]
theorem Zc7 {pY:List (Addr × Obj)} {σ':St} {H:Hp} {s':Shared} {C:Addr} (I:Inv X pins σ H₀ s₀) (hsc:X.env.scope=sc) (hN:X.N=N) (S:Zi1 sc scope N xs mp) (hf:∀ b∈fp,ZdX X pins H₀ b)
  (J:Inv (lcx X (lcN N xs mp) scope (YR X.env scope.names []) C s₀ H₀ fp) pY σ' H s'):Inv (lcx X (lcN N xs mp) scope (YR X.env scope.names []) C s₀ H₀ fp) pY (lcS xs.length mp σ) H s':=by
 obtain ⟨m,hn,_⟩:=J.loc
 refine ⟨J.ok,J.os,J.bare,J.base,⟨m,hn,fun i x v e1 e2 e3=>?_⟩,J.cell,J.free,J.freeC,J.pin,J.hok,?_⟩
 ·have e1':(lcN N xs mp)[i]?=some x:=e1
  unfold lcN at e1'
  unfold lcS at e2
  by_cases hi:i < xs.length
  ·rw [List.getElem?_append_left (by simpa using hi),List.getElem?_replicate,if_pos hi] at e2
   cases e2
  ·rw [List.getElem?_append_right (by simpa using hi),List.length_replicate,List.getElem?_map] at e2
   rw [List.getElem?_append_right (by simpa using hi),List.getElem?_map] at e1'
   cases ej:mp[i - xs.length]? with
   | none=>rw [ej] at e2; cases e2
   | some j =>
    rw [ej] at e1' e2
    have e1'':N.getD j "" = x:=Option.some.inj e1'
    have e2':(σ[j]?).getD none=some v:=Option.some.inj e2
    have e2'':σ[j]?=some (some v):=by
     cases q:σ[j]? with
     | none=>rw [q] at e2'; cases e2'
     | some z=>rw [q] at e2'; exact congrArg some e2'
    have hj:j < N.length:=by
     have h1:=(List.getElem?_eq_some_iff.mp e2'').1
     rw [I.len,hN] at h1
     exact h1
    have eN:N[j]?=some x:=by
     rw [← e1'',List.getD_eq_getElem?_getD]
     cases q:N[j]? with
     | none=>exact absurd (List.getElem?_eq_none_iff.mp q) (by omega)
     | some z=>rfl
    have fr:scope.names.lookup x=some .free:=by rw [← e1'']; exact S.out j (List.mem_of_getElem? ej)
    have mem:(x,NameKind.free)∈scope.names:=PySem.mem_of_lookup fr
    have kX:X.env.scope.names.lookup x=some .cell∨X.env.scope.names.lookup x=some .free:=by
     rw [hsc]
     exact S.fr _ mem rfl
    obtain ⟨mX,hnX,hl⟩:=I.loc
    obtain ⟨u,r,lk⟩:=hl j x v (by rw [hN]; exact eN) e2'' (.inr kX)
    rcases lk with ⟨k,_⟩ | ⟨k,c,hc,hcell⟩
    ·have k':X.env.scope.names.lookup x=some .local:=k
     rw [k'] at kX
     rcases kX with z | z <;> cases z
    ·refine ⟨u,r,.inr ⟨?_,c,?_,?_⟩⟩
     ·show (relabel scope X.env).names.lookup x=some .cell∨(relabel scope X.env).names.lookup x=some .free
      rw [XR,fr]
      simp only [Option.map_some]
      unfold ZiZ
      split
      ·exact .inl rfl
      ·exact .inr rfl
     ·obtain ⟨c',e'⟩:=Option.isSome_iff_exists.mp (JA (env:=X.env) scope.names [] x (.inl mem))
      have e'':=ZhG I hsc S e'
      rw [hc] at e''
      cases e''
      exact e'
     ·obtain ⟨ob,ho,hd⟩:=hcell
      obtain ⟨sl,q⟩:=J.base.any ho (I.freeC x c hc) fun z=>(hf c z).2.2.2.2.1 x c hc rfl
      exact ⟨_,q,hd⟩
 ·show (lcS xs.length mp σ).length=(lcN N xs mp).length
  simp [lcS,lcN]
theorem ZiC {pY:List (Addr × Obj)} {σ':St} {H:Hp} {s':Shared} {C:Addr} {M:List Str} {cl:List (Str × Addr)} (I:Inv X pins σ H₀ s₀) (hf:∀ b∈fp,ZdX X pins H₀ b)
  (J:Inv (lcx X M scope cl C s₀ H₀ fp) pY σ' H s'):Inv X pins σ H s' :=
 I.call' (ch:=fp) J.os J.base J.hok J.bare fun b hb=>⟨(hf b hb).2.2.2.1,(hf b hb).2.1,(hf b hb).2.2.2.2.1,(hf b hb).2.2.2.2.2⟩
end
theorem Zcy {prog:Program} {w:World} {A:Around} {R:Result→Shared→Prop} {s:Shared} {elt target iter:Expr} {ifs:List Expr} {scope:Scope} {pos:Pos} {it acc:Value} {env:Env} (I:Nat→Shared→Prop)
  (turn:∀ n s,I n s→wpAny (model prog w) A (pyNext it) (fun r s1=>match r with
   | none=>R (.ok .next) s1
   | some v=>wpAny (model prog w) A (letOwnedTupleGo target it v) (fun _ s1'=>wpAny (model prog w) A (assign target env v) (fun _ s2 =>
     wpAny (model prog w) A (forIn ifs true fun c r=>if r=true then do let ok ← isTrue c env (eval c env); pure (ForInStep.yield ok) else pure (ForInStep.yield r)) (fun ok s3 =>
      if ok=true then wpAny (model prog w) A (eval elt env) (fun x s4=>wpAny (model prog w) A (call (.builtin "list.append") [acc,x]) (fun _ s5=>∃ m,m < n∧I m s5) (fun _ _=>False) s4) (fun _ _=>False) s3
      else ∃ m,m < n∧I m s3) (fun _ _=>False) s2) (fun _ _=>False) s1') (fun _ _=>False) s1) (fun _ _=>False) s)
  (n:Nat) (h:I n s):codeAny (model prog w) A (.compLoop (.ListComp elt [⟨target,iter,ifs,0⟩] scope pos) 0 it acc env) R s:=by
 refine codeAny_loop rfl I (fun n s hI=>?_) n h
 show wpAny (model prog w) A ((compTurn (.ListComp elt [⟨target,iter,ifs,0⟩] scope pos) 0 it acc env).onRaise (fun x=>do noteFrame x env; theTreesLotGoes x)) _ _ s
 refine wpAny_noted ?_
 rw [compTurn_list]
 refine wpAny_bind (wpAny_standAt (wpAny_bind (wpAny_mono (turn n s hI) (fun r s1 h1=>?_) fun _ _ z=>z.elim)))
 cases r with
 | none=>exact wpAny_pure h1
 | some v =>
  refine wpAny_bind (wpAny_mono h1 (fun _ s1' h1'=>?_) fun _ _ z=>z.elim)
  refine wpAny_bind (wpAny_mono h1' (fun _ s2 h2=>wpAny_bind (wpAny_mono h2 (fun ok s3 h3=>?_) fun _ _ z=>z.elim)) fun _ _ z=>z.elim)
  cases ok with
  | false=>exact wpAny_pure ⟨rfl,h3⟩
  | true=>exact wpAny_bind (wpAny_bind (wpAny_mono h3 (fun x s4 h4=>wpAny_bind (wpAny_mono h4 (fun _ s5 h5=>wpAny_pure (wpAny_pure ⟨rfl,h5⟩)) fun _ _ z=>z.elim)) fun _ _ z=>z.elim))
def PCs (X:Cx) (ifs:List Expr) (t:TT):Prop :=
 ∀ (pins:List (Addr × Obj)) (s:Shared) (σ:St) (H:Hp) (Q:Bool→Hp→Prop),Inv X pins σ H s→t σ H Q →
  wpAny (model X.prog X.w) X.A (forIn ifs true fun c r=>if r=true then do let ok ← isTrue c X.env (eval c X.env); pure (ForInStep.yield ok) else pure (ForInStep.yield r)) (TP X pins σ Q) X.xe s
def Zkm:TT:=fun _ H Q=>Q true H
theorem YL {X:Cx}:PCs X [] Zkm:=fun _ _ _ H _ I h=>wpAny_tests_nil ⟨H,I,h⟩
theorem Zao {X:Cx} {c:Expr} {t:TT} (h:PT X c t):PCs X [c] t:=fun pins s σ H Q I hw=>wpAny_tests_one (h pins s σ H Q I hw)
def Jr (k:Nat) (mp:List Nat) (σ:St) (g:TG) (tc:TT) (te:TE) (J:It) (H1:Hp) (Q:VK):Prop :=
 ∀ D,H1 D=none→∃ W:Nat→Nat→List V→Hp→Prop,(∃ m,W 0 m [] (upd H1 D (.lst [])))∧∀ i m acc H2,W i m acc H2 →
  (J.stop i H2∧Q (.ref D) H2)∨(J.go i H2∧∀ x H3,J.yld i H2 x H3→g x (lcS k mp σ) H3 fun σ4 H4=>tc σ4 H4 fun b H5 =>
   if b=true then te σ4 H5 fun v H6=>H6 D=some (.lst acc)∧acc.length < sizeLine∧∃ m',m' < m∧W (i + 1) m' (acc ++ [v]) (upd H6 D (.lst (acc ++ [v])))
   else ∃ m',m' < m∧W (i + 1) m' acc H5)
def tLc (k:Nat) (mp:List Nat) (wi:TI) (g:TG) (tc:TT) (te:TE):TE:=fun σ H Q=>wi σ H fun J H1=>Jr k mp σ g tc te J H1 Q
section
variable {X:Cx} {pins:List (Addr × Obj)} {σ:St} {elt tgt iter:Expr} {ifs:List Expr} {scope sc:Scope} {pos:Pos} {N xs:List Str} {mp:List Nat} {wi:TI} {g:TG} {tc:TT} {te:TE}
theorem ZhH {H2:Hp} {s2:Shared} {it:Addr} {fp:List Addr} {tn:Nat→Heap→Prop} {J:It} {Qv:VK} {E:Value→Shared→Prop} {RR:Value→Addr→Result→Shared→Prop}
  (hsc:X.env.scope=sc) (hN:X.N=N) (S:Zi1 sc scope N xs mp) (hcalm:X.calm=true)
  (hg:∀ cl C s₀ H₀ fp,PG (lcx X (lcN N xs mp) scope cl C s₀ H₀ fp) tgt g) (hc:∀ cl C s₀ H₀ fp,PCs (lcx X (lcN N xs mp) scope cl C s₀ H₀ fp) ifs tc) (he:∀ cl C s₀ H₀ fp,PE (lcx X (lcN N xs mp) scope cl C s₀ H₀ fp) elt te)
  (I2:Inv X pins σ H2 s2) (T:ZiV X.prog X.w X.K tgt J fp it tn) (st2:tn 0 s2.heap) (f2:∀ b∈fp,ZdX X pins H2 b) (h:Jr xs.length mp σ g tc te J H2 Qv)
  (hRR:∀ (D C:Addr) (s':Shared) (H':Hp) (m:Str→Option Value),s'.heap.Ns C m→Inv X pins σ H' s'→ZdX X pins H' C→Qv (.ref D) H'→RR (.ref D) C (.ok .next) s') :
  wpAny (model X.prog X.w) X.A (newList []) (fun acc s3=>wpAny (model X.prog X.w) X.A (newFunctionEnv scope X.env.globals (YR X.env scope.names []) [] X.env.qual none .none (some X.env)) (fun cenv s4 =>
   codeAny (model X.prog X.w) X.A (.compStart (.ListComp elt [⟨tgt,iter,ifs,0⟩] scope pos) 0 (.ref it) acc { cenv with scope:=relabel scope X.env }) (RR acc cenv.locals) s4) E s3) E s2:=by
 have hD:H2 s2.heap.objs.size=none:=I2.hok.fresh (Nat.le_refl _)
 obtain ⟨W,⟨m0,w0⟩,turn⟩:=h s2.heap.objs.size hD
 refine wpAny_newObj_type (wpAny_newFunctionEnv S.nocell (by intro y hy; simp at hy) (fun h1 hns1 hsb1=>?_) S.kind)
 dsimp only at hns1 hsb1 ⊢
 have fpD:∀ b∈fp,b≠s2.heap.objs.size:=fun b hb=>by
  obtain ⟨o,e,_⟩:=T.obj _ _ st2 b hb
  exact Nat.ne_of_lt (Heap.lt_size e)
 have I3:Inv X pins σ (upd H2 s2.heap.objs.size (.lst [])) { s2 with heap:=s2.heap.push { cls:=.type "list",dict:=none,data:=.seq ([]:List Value).toArray } } :=
  I2.laid (t':=s2.toks) (fun b u e=>Heap.get?_push_of_some _ e) (Nat.le_refl _) ⟨Nat.zero_le _,[],0,.nil,Heap.get?_push_size _ rfl⟩
 have f3:∀ b∈fp,ZdX X pins (upd H2 s2.heap.objs.size (.lst [])) b:=fun b hb=>⟨by rw [Zj (fpD b hb)]; exact (f2 b hb).1,(f2 b hb).2⟩
 generalize hs3:({ s2 with heap:=s2.heap.push { cls:=.type "list",dict:=none,data:=.seq ([]:List Value).toArray } }:Shared)=s3 at I3
 have hh3:s2.heap.push { cls:=.type "list",dict:=none,data:=.seq ([]:List Value).toArray }=s3.heap:=by rw [← hs3]
 have kp3:∀ b o,s2.heap.get? b=some o→s3.heap.get? b=some o:=fun b o e=>by rw [← hh3]; exact Heap.get?_push_of_some _ e
 rw [hh3] at hns1 hsb1 ⊢
 have st3:tn 0 s3.heap:=T.keep _ _ _ st2 fun b _ o e=>kp3 b o e
 have x3:∀ b∈fp,∃ o,s3.heap.get? b=some o:=fun b hb=>by
  obtain ⟨o,e,_⟩:=T.obj _ _ st3 b hb
  exact ⟨o,e⟩
 have st4:tn 0 h1:=T.keep _ _ _ st3 fun b _ o e=>hsb1.extBut b o (Nat.ne_of_lt (Heap.lt_size e)) (Heap.get?_push_of_some _ e)
 have I4:=fun tk=>Zc7 I3 hsc hN S f3 (ZjW (tk:=tk) I3 hsc S f3 x3 hns1 hsb1)
 have key:∀ s4:Shared,s4={ s3 with heap:=h1,toks:=s4.toks }→codeAny (model X.prog X.w) X.A (.compLoop (.ListComp elt [⟨tgt,iter,ifs,0⟩] scope pos) 0 (.ref it) (.ref s2.heap.objs.size) (compEnvC scope (YR X.env scope.names []) s3.heap.objs.size X.env))
   (RR (.ref s2.heap.objs.size) s3.heap.objs.size) s4:=by
  intro s4 hs4
  have stat:∀ {H':Hp},(∀ b∈fp,H' b=none)→∀ b∈fp,ZdX (lcx X (lcN N xs mp) scope (YR X.env scope.names []) s3.heap.objs.size s3 (upd H2 s2.heap.objs.size (.lst [])) fp) [] H' b:=fun hn b hb =>
   ⟨hn b hb,((I4 0).ok.exf b hb).1,(I4 0).ok.exfs b hb,.inl hb,((I4 0).ok.exf b hb).2,fun p hp=>absurd (show p∈([]:List (Addr × Obj)) from hp) (by simp)⟩
  refine Zcy (fun n s'=>∃ i acc H',Inv (lcx X (lcN N xs mp) scope (YR X.env scope.names []) s3.heap.objs.size s3 (upd H2 s2.heap.objs.size (.lst [])) fp) [] (lcS xs.length mp σ) H' s'∧tn i s'.heap∧(∀ b∈fp,H' b=none)∧W i n acc H') ?_ m0
   ⟨0,[],_,(by rw [hs4]; exact I4 _),(by rw [hs4]; exact st4),fun b hb=>(f3 b hb).1,w0⟩
  rintro n s6 ⟨i,acc,H6,I6,st6,fr6,w6⟩
  rcases turn i n acc H6 w6 with ⟨stop,q⟩ | ⟨go,step⟩
  ·refine thn (T.done (lcx X (lcN N xs mp) scope (YR X.env scope.names []) s3.heap.objs.size s3 (upd H2 s2.heap.objs.size (.lst [])) fp) rfl rfl rfl hcalm i [] s6 _ H6 _ I6 (stat fr6) st6 stop) fun r s7 ⟨hr,I7⟩=>?_
   subst hr
   obtain ⟨m7,hn7,_⟩:=I7.loc
   exact hRR _ _ s7 H6 m7 hn7 (ZiC I3 f3 I7) (I3.fpOk (Nat.le_refl _) I7.free) q
  ·refine thn (T.item (lcx X (lcN N xs mp) scope (YR X.env scope.names []) s3.heap.objs.size s3 (upd H2 s2.heap.objs.size (.lst [])) fp) rfl rfl rfl hcalm i [] s6 _ H6 _ I6 (stat fr6) st6 go) fun r s7 ⟨u,hr,h7⟩=>?_
   subst hr
   refine thn h7 fun _ s8 ⟨x,H8,I8,r8,y8,st8,fr8⟩=>?_
   have I8':=I8.pinned (stat fr8) (T.obj _ _ st8)
   have again:∀ {σ':St} {H':Hp} {s':Shared},Inv (lcx X (lcN N xs mp) scope (YR X.env scope.names []) s3.heap.objs.size s3 (upd H2 s2.heap.objs.size (.lst [])) fp) ([] ++ Za3 fp s8.heap) σ' H' s'→(∃ m acc',m < n∧W (i + 1) m acc' H') →
     ∃ m,m < n∧∃ i acc H',Inv (lcx X (lcN N xs mp) scope (YR X.env scope.names []) s3.heap.objs.size s3 (upd H2 s2.heap.objs.size (.lst [])) fp) [] (lcS xs.length mp σ) H' s'∧tn i s'.heap∧(∀ b∈fp,H' b=none)∧W i m acc H':=by
    intro σ' H' s' J ⟨m,acc',hm,w'⟩
    refine ⟨m,hm,i + 1,acc',H',Zc7 I3 hsc hN S f3 J.unpinned,T.keep _ _ _ st8 fun b hb o e=>(J.pin (b,o) (List.mem_append_right _ (List.mem_append_right _ (Y2 hb e)))).1,fun b hb=>?_,w'⟩
    obtain ⟨o,e,_⟩:=T.obj _ _ st8 b hb
    exact (J.pin (b,o) (List.mem_append_right _ (List.mem_append_right _ (Y2 hb e)))).2.1
   refine thn (hg _ _ _ _ _ _ s8 _ H8 x u _ I8' r8 (step x H8 y8)) fun _ s9 ⟨σ9,H9,I9,q9⟩=>?_
   refine thn (hc _ _ _ _ _ _ s9 σ9 H9 _ I9 q9) fun b s10 ⟨H10,I10,q10⟩=>?_
   cases b with
   | false =>
    obtain ⟨m',hm,w'⟩:=q10
    exact again I10 ⟨m',acc,hm,w'⟩
   | true =>
    refine thn (he _ _ _ _ _ _ s10 σ9 H10 _ I10 q10) fun yv s11 ⟨v,H11,I11,r11,hDa,hz,m',hm,w'⟩=>?_
    refine thn (Zbl _ s11 σ9 H11 (.ref s2.heap.objs.size) [v] (.ref s2.heap.objs.size) [yv] (fun _ H12=>H12=upd H11 s2.heap.objs.size (.lst (acc ++ [v]))) I11 rfl (.cons r11 .nil) ⟨_,acc,v,rfl,rfl,hDa,hz,rfl⟩) fun _ s12 ⟨_,H12,I12,_,e12⟩=>?_
    subst e12
    exact again I12 ⟨m',_,hm,w'⟩
 subst hs3
 exact codeAny_compStart_list (key _ rfl) (T.self X.A 0 _ _ _ st4 (key _ rfl))
theorem ZX (sc:Scope) (N xs:List Str) (mp:List Nat) (hcalm:X.calm=true) (hi:PI X tgt iter wi) (hg:∀ cl C s₀ H₀ fp,PG (lcx X (lcN N xs mp) scope cl C s₀ H₀ fp) tgt g)
  (hc:∀ cl C s₀ H₀ fp,PCs (lcx X (lcN N xs mp) scope cl C s₀ H₀ fp) ifs tc) (he:∀ cl C s₀ H₀ fp,PE (lcx X (lcN N xs mp) scope cl C s₀ H₀ fp) elt te)
  (S:ZgQ sc scope N xs mp=true:=by decide +kernel) (hsc:X.env.scope=sc:=by rfl) (hN:X.N=N:=by rfl) (hs:∀ x,foldedSetIterable iter X.env x=pure x:=by intro _; rfl) :
  PE X (.ListComp elt [⟨tgt,iter,ifs,0⟩] scope pos) (tLc xs.length mp wi g tc te):=by
 intro pins s σ H Q I h
 have S':=Zc8 S
 rw [eval_ListComp]
 refine wpAny_comprehension_free (use:=none) rfl hs (Xt (Zaz I hsc S')) S'.kind S'.names (thn (hi pins s σ H _ I h) fun v s1 h1=>thn h1 fun itv s2 h2=>?_)
 obtain ⟨it,fp,tn,J,H2,e,I2,T,st2,f2,h3⟩:=h2
 subst e
 refine ZhH (RR:=fun acc C=>compPost (model X.prog X.w) X.A X.xe none (EP X pins σ Q) acc C) hsc hN S' hcalm hg hc he I2 T st2 f2 h3 ?_
 intro D C s' H' m hn I' fC q
 exact ⟨m,hn,fun h' hs'=>⟨.ref D,H',I'.turned (t':=s'.toks) (fun b o hb e=>hs'.extBut b o hb e) fC.1 fC.2.1 fC.2.2.2.1 fC.2.2.2.2.1 fC.2.2.2.2.2,rfl,q⟩⟩
theorem Zgs {i:Nat} {x:Str} {pos' spos:Pos} (sc:Scope) (N xs:List Str) (mp:List Nat) (hNd:X.N.Nodup) (hix:X.N[i]?=some x) (hx:Loc X.env.scope x) (hcalm:X.calm=true) (hi:PI X tgt iter wi) (hg:∀ cl C s₀ H₀ fp,PG (lcx X (lcN N xs mp) scope cl C s₀ H₀ fp) tgt g)
  (hc:∀ cl C s₀ H₀ fp,PCs (lcx X (lcN N xs mp) scope cl C s₀ H₀ fp) ifs tc) (he:∀ cl C s₀ H₀ fp,PE (lcx X (lcN N xs mp) scope cl C s₀ H₀ fp) elt te)
  (S:ZgQ sc scope N xs mp=true:=by decide +kernel) (hsw:swapsWith (.ListComp elt [⟨tgt,iter,ifs,0⟩] scope pos) (some (.Name x pos')) spos.line X.env=pure true:=by rfl)
  (hsc:X.env.scope=sc:=by rfl) (hN:X.N=N:=by rfl) (hs:∀ x,foldedSetIterable iter X.env x=pure x:=by intro _; rfl) (hf:X.fn x=true∨X.env.scope.names.lookup x=some .local:=by first | exact .inl rfl | exact .inr rfl | assumption) :
  PS X (.Assign [.Name x pos'] (.ListComp elt [⟨tgt,iter,ifs,0⟩] scope pos) spos) (ZkE (tLc xs.length mp wi g tc te) (XY i)):=by
 intro pins s σ H D I h
 have S':=Zc8 S
 rw [exec_Assign_Name_used _ _ _ _ hsw]
 refine wpAny_bind (wpAny_standAt (wpAny_bind ?_))
 show wpAny (model X.prog X.w) X.A (do let _ ← comprehension (.ListComp elt [⟨tgt,iter,ifs,0⟩] scope pos) scope X.env _ (newList []) false (eval iter X.env) (some (assign (.Name x pos') X.env))) _ _ s
 refine wpAny_bind (wpAny_mono (wpAny_comprehension_free (use:=some (assign (.Name x pos') X.env)) (Q:=fun _ s'=>SP X pins D .next s') rfl hs (Xt (Zaz I hsc S')) S'.kind S'.names
  (thn (hi pins s σ H _ I h) fun v s1 h1=>thn h1 fun itv s2 h2=>?_)) (fun _ s' hq=>wpAny_pure (wpAny_pure hq)) fun _ _ e=>e)
 obtain ⟨it,fp,tn,J,H2,e,I2,T,st2,f2,h3⟩:=h2
 subst e
 refine ZhH (RR:=fun acc C=>compPost (model X.prog X.w) X.A X.xe (some (assign (.Name x pos') X.env)) (fun _ s'=>SP X pins D .next s') acc C) hsc hN S' hcalm hg hc he I2 T st2 f2 h3 ?_
 intro D' C s' H' m hn I' fC q
 show wpAny (model X.prog X.w) X.A (assign (.Name x pos') X.env (.ref D')) _ _ s'
 refine wpAny_assign_Name (ZaU I' hNd hix hx (v:=.ref D') rfl (fun s'' I'' ⟨a,sb,ha⟩=>?_) hf)
 have nC:C≠a:=by
  rcases ha with z | z
  ·rw [z]; exact fC.2.1
  ·exact fun e=>fC.2.2.2.2.1 x a z e.symm
 refine ⟨m,hn.sameBut sb nC,fun h' hs'=>⟨_,H',I''.turned (t':=s''.toks) (fun b o hb e=>hs'.extBut b o hb e) fC.1 fC.2.1 fC.2.2.2.1 fC.2.2.2.2.1 fC.2.2.2.2.2,q⟩⟩
end
def TSame (H H':Hp):Prop:=∀ b xs,H b=some (.tup xs)→H' b=some (.tup xs)
theorem Same.tup {H H':Hp} (h:Same H H'):TSame H H':=fun b xs e=>h b _ e
theorem TSame.trans {H H1 H2:Hp} (a:TSame H H1) (b:TSame H1 H2):TSame H H2:=fun c xs e=>b c xs (a c xs e)
theorem Yb {H:Hp} {D:Addr} {xs ys:List V} (h:H D=some (.lst xs)):TSame H (upd H D (.lst ys)):=fun b zs e=>by
 rw [Zj (fun z=>by rw [z,h] at e; cases e)]
 exact e
theorem Za {H:Hp} {D:Addr} {o:HO} (h:H D=none):Same H (upd H D o):=fun b u e=>by
 rw [Zj (Zl e h)]
 exact e
theorem Jq {k:Nat} {mp:List Nat} {σ:St} {g:TG} {te:TE} {J:It} {H1:Hp} {Q:VK} (n:Nat) (xs:Nat→V) (R:Nat→V→Hp→Prop) (hn:n≤sizeLine)
  (hR:∀ i v H H',TSame H H'→R i v H→R i v H')
  (hJ:∀ H,Same H1 H→(∀ i,i < n→J.go i H∧∀ x H',J.yld i H x H'→H'=H∧x=xs i)∧J.stop n H)
  (step:∀ i H (Qe:VK),i < n→Same H1 H→(∀ v H6,Same H H6→R i v H6→Qe v H6)→g (xs i) (lcS k mp σ) H fun σ4 H4=>te σ4 H4 Qe)
  (done:∀ D vs H',vs.length=n→(∀ i v,vs[i]?=some v→R i v H')→Same H1 H'→H1 D=none→H' D=some (.lst vs)→Q (.ref D) H'):Jr k mp σ g Zkm te J H1 Q:=by
 intro D hD
 refine ⟨fun i m acc H=>m=n - i∧i≤n∧acc.length=i∧Same H1 H∧H D=some (.lst acc)∧∀ j v,acc[j]?=some v→R j v H,⟨n,by simp,Nat.zero_le _,rfl,Za hD,Zc,fun j v e=>by simp at e⟩,?_⟩
 rintro i m acc H ⟨rfl,hi,hl,hs,hDa,hr⟩
 obtain ⟨j1,j2⟩:=hJ H hs
 by_cases hlt:i < n
 ·refine .inr ⟨(j1 i hlt).1,fun x H3 y=>?_⟩
  obtain ⟨e1,e2⟩:=(j1 i hlt).2 x H3 y
  subst e1 e2
  refine step i H3 _ hlt hs fun v H6 s6 r6=>⟨s6 _ _ hDa,by omega,n - (i + 1),by omega,rfl,hlt,by rw [List.length_append,hl]; rfl,fun b o e=>?_,Zc,fun j u e=>?_⟩
  ·rw [Zj (Zl e hD)]
   exact s6 _ _ (hs b o e)
  ·have ts:TSame H6 (upd H6 D (.lst (acc ++ [v]))):=Yb (s6 _ _ hDa)
   rcases Nat.lt_trichotomy j acc.length with h | h | h
   ·rw [List.getElem?_append_left h] at e
    exact hR _ _ _ _ (s6.tup.trans ts) (hr j u e)
   ·subst h
    rw [List.getElem?_append_right (Nat.le_refl _),Nat.sub_self] at e
    cases e
    rw [hl]
    exact hR _ _ _ _ ts r6
   ·rw [List.getElem?_eq_none (by rw [List.length_append,List.length_singleton]; omega)] at e
    cases e
 ·have e:i=n:=by omega
  subst e
  exact .inl ⟨j2,done D acc H hl hr hs hD hDa⟩
theorem Zfs {K:PySem.W.Frag} {a:Addr} {ys:List V} {H1:Hp} (h:SqL K H1 a ys):∀ H,Same H1 H→(∀ i,i < ys.length→(Itl K a).go i H∧∀ x H',(Itl K a).yld i H x H'→H'=H∧x=ys.getD i .non)∧(Itl K a).stop ys.length H:=fun H s=>by
 have q:=s.seq h
 refine ⟨fun i hi=>⟨⟨ys,ys[i],q,by simp [hi]⟩,fun x H' y=>⟨y.1,?_⟩⟩,⟨ys,q,Nat.le_refl _⟩⟩
 have e:=y.2 ys q
 rw [List.getD_eq_getElem?_getD,e]
 rfl
theorem Same.tupS {K:PySem.W.Frag} {H H':Hp} {a:Addr} {xs:List V} (e:Same H H') (h:SqT K H a xs):SqT K H' a xs:=by
 rcases h with (h | ⟨o,h⟩) | h
 ·exact .inl (.inl (e _ _ h))
 ·exact .inl (.inr ⟨o,e _ _ h⟩)
 ·exact .inr h
theorem Xq {K:PySem.W.Frag} {a:Addr} {ys:List V} {H1:Hp} (h:SqT K H1 a ys):∀ H,Same H1 H→(∀ i,i < ys.length→(Itt K a).go i H∧∀ x H',(Itt K a).yld i H x H'→H'=H∧x=ys.getD i .non)∧(Itt K a).stop ys.length H:=fun H s=>by
 have q:=s.tupS h
 refine ⟨fun i hi=>⟨⟨ys,ys[i],q,by simp [hi]⟩,fun x H' y=>⟨y.1,?_⟩⟩,⟨ys,q,Nat.le_refl _⟩⟩
 have e:=y.2 ys q
 rw [List.getD_eq_getElem?_getD,e]
 rfl
section
variable {X:Cx}
def ZlI:V→Option Int→Option Int→Hp→VK→Prop:=fun x lo hi H Q=>∃ z:Str,x = .str z∧z.length≤sizeLine∧Q (.str (Txt.slice z lo hi)) H
theorem Yr:SlR X ZlI:=by
 intro pins s σ H x v vl vu lo hi sl Q I rx hs pl pu h
 obtain ⟨z,rfl,hz,q⟩:=h
 obtain ⟨t,rfl⟩:=rx
 have fin:∀ t' k,EP X pins σ Q (.str (Txt.slice z lo hi) t') { s with toks:=k }:=fun t' k=>⟨.str _,H,I.tok _,⟨_,rfl⟩,q⟩
 have hle:(Txt.slice z lo hi).length≤sizeLine:=Nat.le_trans (Txt.slice_le z _ _) hz
 cases pl with
 | none =>
  cases pu with
  | none=>exact ⟨"str",_,F.slot_str_getitem.lookup,typeIs_str _ _ _,wpAny_getItem_str_slice (l:=none) (u:=none) (st:=none) hs rfl (post_val_or_str ⟨hle,fin⟩)⟩
  | int j u=>exact ⟨"str",_,F.slot_str_getitem.lookup,typeIs_str _ _ _,wpAny_getItem_str_slice (l:=none) (u:=some (j,u)) (st:=none) hs rfl (post_val_or_str ⟨hle,fin⟩)⟩
 | int i u' =>
  cases pu with
  | none=>exact ⟨"str",_,F.slot_str_getitem.lookup,typeIs_str _ _ _,wpAny_getItem_str_slice (l:=some (i,u')) (u:=none) (st:=none) hs rfl (post_val_or_str ⟨hle,fin⟩)⟩
  | int j u=>exact ⟨"str",_,F.slot_str_getitem.lookup,typeIs_str _ _ _,wpAny_getItem_str_slice (l:=some (i,u')) (u:=some (j,u)) (st:=none) hs rfl (post_val_or_str ⟨hle,fin⟩)⟩
theorem YU:∀ {ss:List Str} {us:List Value},Vals (ss.map V.str) us→StrsAre us ss
 | [],_,r=>by
  cases r
  exact .nil
 | x :: ss,_,r=>by
  cases r with
  | cons r1 r2 =>
   obtain ⟨t,e⟩:=r1
   subst e
   exact .cons x t (YU r2)
def ZkL (K:PySem.W.Frag):V→List V→Hp→VK→Prop:=fun x vs H Q=>∃ (z:Str) (a:Addr) (ys:List Str),x = .str z∧vs=[.ref a]∧SqL K H a (ys.map V.str)∧(ys.map (·.length)).sum + ys.length * z.length≤16777216∧Q (.str (Txt.join z ys)) H
theorem Zfg:MtR X "str.join" (ZkL X.K):=by
 intro pins s σ H x vs v us Q I rx rv h
 obtain ⟨z,a,ys,rfl,rfl,hq,hz,q⟩:=h
 obtain ⟨t,rfl⟩:=rx
 obtain ⟨u,rfl,ru⟩:=Y5 rv
 cases ru
 obtain ⟨its,r,pl,_⟩:=I.list hq
 exact join_list pl.isList (YU (by simpa using r)) hz fun t' k=>⟨.str _,H,I.tok _,⟨_,rfl⟩,q⟩
theorem Yx:∀ (ns:List Int) (k:Nat),preSum (fun i=>ns.getD i 0) k=(ns.take k).sum
 | ns,0=>by simp [preSum]
 | ns,k + 1=>by
  rw [preSum,Yx ns k]
  by_cases h:k < ns.length
  ·rw [List.take_add_one,List.getElem?_eq_getElem h,List.getD_eq_getElem?_getD,List.getElem?_eq_getElem h]
   simp only [List.sum_append,Option.toList_some,List.sum_cons,List.sum_nil,Option.getD_some]
   omega
  ·have h':ns.length≤k:=Nat.le_of_not_lt h
   rw [List.take_of_length_le h',List.take_of_length_le (Nat.le_succ_of_le h'),List.getD_eq_getElem?_getD,List.getElem?_eq_none h']
   simp
theorem ZfN (hc:X.calm=true):CallR X (.builtin "sum") (fun xs H Q=>∃ (a:Addr) (ns:List Int),xs=[.ref a]∧SqL X.K H a (ns.map V.int)∧(∀ n∈ns,InLong n)∧(∀ k,InLong (ns.take k).sum)∧Q (.int ns.sum) H):=by
 intro pins s σ H xs us Q I r h
 obtain ⟨a,ns,rfl,hq,h1,h2,q⟩:=h
 obtain ⟨u,rfl,ru⟩:=Y5 r
 cases ru
 obtain ⟨its,rv,pl,hz⟩:=I.list hq
 have hl:=rv.length
 rw [List.length_map] at hl
 have hlt:a < s.heap.objs.size:=by
  obtain ⟨o,n,e,_⟩:=pl
  exact Heap.lt_size e
 refine call_sum_walk (wpAny_pyIter_list pl.isList ⟨s.heap.objs.size,[s.heap.objs.size,a],[s.heap.objs.size],its.toArray.size,_,_,fun i=>ns.getD i 0,rfl,Walks.list (A:=X.A.in1) (I.ok.hd hc) _ _ (Nat.ne_of_lt hlt) its.toArray,
  ⟨⟨_,Heap.get?_push_size _ rfl,rfl,rfl⟩,pl.isList.push _⟩,?_,?_,?_,?_⟩)
 ·intro b hb
  show b < (s.heap.push _).objs.size
  rw [Heap.size_push]
  have:b=s.heap.objs.size∨b=a:=by simpa using hb
  rcases this with z | z
  ·rw [z]; exact Nat.lt_succ_self _
  ·rw [z]; exact Nat.lt_succ_of_lt hlt
 ·intro i v hv
  have e1:its[i]?=some v:=by simpa using hv
  have hi:i < its.length:=(List.getElem?_eq_some_iff.mp e1).1
  have hb:(ns.map V.int)[i]?=some (.int (ns.getD i 0)):=by
   rw [List.getElem?_map,List.getD_eq_getElem?_getD]
   cases e:ns[i]? with
   | none=>exact absurd (List.getElem?_eq_none_iff.mp e) (by omega)
   | some b=>rfl
  obtain ⟨u',hu,ru⟩:=rv.get hb
  rw [e1] at hu
  cases hu
  exact ru
 ·intro j hj
  have hj':j < ns.length:=by rw [hl]; simpa using hj
  refine ⟨?_,?_⟩
  ·show InLong (ns.getD j 0)
   rw [List.getD_eq_getElem?_getD,List.getElem?_eq_getElem hj']
   exact h1 _ (List.getElem_mem hj')
  ·rw [Yx]
   exact h2 _
 ·intro h' tk t' kk
  refine ⟨.int ns.sum,H,I.kept fun b o e=>kk b o (by simpa using Nat.ne_of_lt (Heap.lt_size e)) (Heap.get?_push_of_some _ e),⟨t',?_⟩,q⟩
  rw [Yx,List.take_of_length_le (by rw [List.size_toArray]; omega)]
def ZlS:V→Option Value
 | .ty n=>some (.type n)
 | .ref a=>some (.ref a)
 | _=>none
theorem Zhb:CallR X (.builtin "isinstance") (fun xs H Q=>∃ (x c:V) (t cv:Value) (b:Bool),xs=[x,c]∧Zdq X.K H x t∧ZlS c=some cv∧PySem.W.kitOne X.K t cv=some b∧Q (.bl b) H):=by
 intro pins s σ H xs us Q I r h
 obtain ⟨x,c,t,cv,b,rfl,ty,rc,e,q⟩:=h
 obtain ⟨u,w',rfl,ru,rw'⟩:=Zf4 r
 have ec:w'=cv:=by
  cases c with
  | ty n=>exact (show w'=Value.type n from rw').trans (Option.some.inj rc)
  | ref n=>exact (show w'=Value.ref n from rw').trans (Option.some.inj rc)
  | _=>cases rc
 subst ec
 exact Zft I ru ty e fun tk=>⟨.bl b,H,I.tok _,rfl,q⟩
end
mutual
def RepD (H:Hp):PyData→V→Prop
 | .none,v=>v = .non
 | .bool b,v=>v = .bl b
 | .int i,v=>v = .int i
 | .str x,v=>v = .str x
 | .tuple ds,v=>∃ a xs,v = .ref a∧H a=some (.tup xs)∧RepA H ds xs
 | .list ds,v=>∃ a xs,v = .ref a∧H a=some (.lst xs)∧RepA H ds xs
 | .dict _,_=>False
def RepA (H:Hp):List PyData→List V→Prop
 | [],xs=>xs=[]
 | d :: ds,xs=>∃ v vs,xs=v :: vs∧RepD H d v∧RepA H ds vs
end
mutual
theorem RepD.same {H H':Hp} (h:Same H H'):∀ (d:PyData) (v:V),RepD H d v→RepD H' d v
 | .none,_,r=>r
 | .bool _,_,r=>r
 | .int _,_,r=>r
 | .str _,_,r=>r
 | .tuple ds,v,r=>by
  rw [RepD] at r ⊢
  obtain ⟨a,xs,e,e2,q⟩:=r
  exact ⟨a,xs,e,h _ _ e2,RepA.same h ds xs q⟩
 | .list ds,v,r=>by
  rw [RepD] at r ⊢
  obtain ⟨a,xs,e,e2,q⟩:=r
  exact ⟨a,xs,e,h _ _ e2,RepA.same h ds xs q⟩
 | .dict _,v,r=>by
  rw [RepD] at r
  exact r.elim
theorem RepA.same {H H':Hp} (h:Same H H'):∀ (ds:List PyData) (vs:List V),RepA H ds vs→RepA H' ds vs
 | [],_,r=>r
 | d :: ds,vs,r=>by
  rw [RepA] at r ⊢
  obtain ⟨v,us,e,q1,q2⟩:=r
  exact ⟨v,us,e,RepD.same h d v q1,RepA.same h ds us q2⟩
end
section
variable {X:Cx} {pins:List (Addr × Obj)} {σ:St} {H:Hp} {s:Shared}
mutual
theorem RepD.reads (I:Inv X pins σ H s):∀ (d:PyData) (v:V) (u:Value),RepD H d v→RelV v u→∃ as,Reads s.heap u d as
 | .none,v,u,r,q=>by
  rw [RepD] at r
  subst r
  cases q
  exact ⟨_,.none⟩
 | .bool b,v,u,r,q=>by
  rw [RepD] at r
  subst r
  cases q
  exact ⟨_,.bool b⟩
 | .int i,v,u,r,q=>by
  rw [RepD] at r
  subst r
  obtain ⟨t,rfl⟩:=q
  exact ⟨_,.int i t⟩
 | .str x,v,u,r,q=>by
  rw [RepD] at r
  subst r
  obtain ⟨t,rfl⟩:=q
  exact ⟨_,.str x t⟩
 | .tuple ds,v,u,r,q=>by
  rw [RepD] at r
  obtain ⟨a,xs,e,e2,q2⟩:=r
  subst e
  cases q
  obtain ⟨its,rv,⟨o,h1,h2,n,h3⟩,_⟩:=I.tuple (SqT.of e2)
  obtain ⟨as,q3⟩:=RepA.reads I ds xs its q2 rv
  exact ⟨_,.tuple h1 h2 h3 (by simpa using q3)⟩
 | .list ds,v,u,r,q=>by
  rw [RepD] at r
  obtain ⟨a,xs,e,e2,q2⟩:=r
  subst e
  cases q
  obtain ⟨its,rv,⟨o,n,h1,h2,_,h3⟩,_⟩:=I.list (SqL.of e2)
  obtain ⟨as,q3⟩:=RepA.reads I ds xs its q2 rv
  exact ⟨_,.list h1 h2 h3 (by simpa using q3)⟩
 | .dict _,v,u,r,q=>by
  rw [RepD] at r
  exact r.elim
theorem RepA.reads (I:Inv X pins σ H s):∀ (ds:List PyData) (vs:List V) (us:List Value),RepA H ds vs→Vals vs us→∃ as,ReadsAll s.heap us ds as
 | [],vs,us,r,q=>by
  rw [RepA] at r
  subst r
  cases q
  exact ⟨_,.nil⟩
 | d :: ds,vs,us,r,q=>by
  rw [RepA] at r
  obtain ⟨v,vs',e,q1,q2⟩:=r
  subst e
  cases q with
  | cons p1 p2 =>
   obtain ⟨as,r1⟩:=RepD.reads I d v _ q1 p1
   obtain ⟨bs,r2⟩:=RepA.reads I ds vs' _ q2 p2
   exact ⟨_,.cons r1 r2⟩
end
end
section
variable {X:Cx}
end
structure HasDef (K:PySem.W.Frag) (mg:Str→Option Value) (name:Str) (st:Stmt) (ps:List Str):Prop where
 ex:∃ f fd,Fun K name name st f fd∧Binds K fd ps []∧mg name=some (.ref f)
structure FOk (P:Program) (w:World) (K:PySem.W.Frag) (mg:Str→Option Value) (base:Heap) (k:Nat) (name:Str) (ps:List Str) (sp:Sp):Prop where
 ex:∃ f fd,FnOk P w K mg base CX0 k f fd ps sp∧Binds K fd ps []∧mg name=some (.ref f)∧PySem.W.keepIn K (.ref f)=true
section
variable {P:Program} {w:World} {K:PySem.W.Frag} {mg:Str→Option Value} {base:Heap}
theorem HasDef.ok {name:Str} {st:Stmt} {N ps:List Str} {k:Nat} {sp:Sp} (D:HasDef K mg name st ps) (S:Zn N ps (Zf st)) (len:∀ vs H Q E,sp vs H Q E→vs.length=ps.length)
  (hbody:∀ (f:Addr) (cdv:Value) (A:Around) (outer:List Env) (s:Shared) (H:Hp) (vs:List V) (Q:VK) (E:XK),Room k (A.deeper (envOfC name (Zf st) s.heap.objs.size f cdv))→sp vs H Q E →
   ∃ t,PSs (ZfI CX0 P w K mg base N name (Zf st) f cdv A outer s H E).nox (Z9 st) t∧t { nx:=fun _ H'=>Q .non H',rt:=Q } (start N vs) H):FOk P w K mg base (k + 1) name ps sp:=by
 obtain ⟨f,fd,F,b,m⟩:=D.ex
 exact ⟨f,fd,F.ok S len fun cdv A outer s H vs Q E=>hbody f cdv A outer s H vs Q E,b,m,F.kp⟩
theorem FOk.mono {name:Str} {ps:List Str} {j k:Nat} {sp:Sp} (G:FOk P w K mg base j name ps sp) (h:j≤k):FOk P w K mg base k name ps sp:=by
 obtain ⟨f,fd,F,r⟩:=G.ex
 exact ⟨f,fd,F.mono h,r⟩
end
theorem Zx {X:Cx} {k:Nat} {name:Str} {ps:List Str} {sp:Sp} {p pos:Pos} {e:Expr} {es:List Expr} {t:TA} (G:FOk X.prog X.w X.K X.mg X.base k name ps sp) (hr:Room k X.A) (ha:PA X (e :: es) t) (hg:Gl X name:=by rfl)
  (hdb:(name == ("__debug__" : Str))=false:=by decide) (he:starEach (e :: es) X.env=(false,eval e X.env) :: starEach es X.env:=by rfl) (hpl:(backTo pos (starEach es X.env)).any (·.1)=false:=by rfl) :
  PE X (.Call (.Name name p) (e :: es) [] pos) (ZhZ sp [] E0 t):=by
 obtain ⟨f,fd,F,b,m,kp⟩:=G.ex
 exact ZeX F hr hg m kp b .nil ZkS ha hdb he hpl
inductive TyB (H:Hp):V→String→Prop where
 | non:TyB H .non "NoneType"
 | bl (b:Bool):TyB H (.bl b) "bool"
 | int (i:Int):TyB H (.int i) "int"
 | str (x:Str):TyB H (.str x) "str"
 | lst {a:Addr} {xs:List V} (e:H a=some (.lst xs)):TyB H (.ref a) "list"
 | tup {a:Addr} {xs:List V} (e:H a=some (.tup xs)):TyB H (.ref a) "tuple"
 | dK {a:Addr} {kvs:List (Key × V)} (e:H a=some (.dK kvs)):TyB H (.ref a) "dict"
theorem TyB.of {K:PySem.W.Frag} {H:Hp} {x:V} {n:String} (h:TyB H x n):Zdq K H x (.type n):=by
 cases h with
 | non=>exact .non
 | bl b=>exact .bl b
 | int i=>exact .int i
 | str x=>exact .str x
 | lst e=>exact .lst e
 | tup e=>exact .tup e
 | dK e=>exact .dK e
def ZbJ:List String:=["NoneType","bool","int","str","list","tuple","dict"]
theorem TyB.mem {H:Hp} {x:V} {n:String} (h:TyB H x n):n∈ZbJ:=by
 cases h <;> simp [ZbJ]
def Zlq (n c:String):Bool:=n == c || (n == "bool" && c == "int")
def ZfM:List String:=["int","bool","str","tuple","list"]
def ZlN (a b:String):Option Bool:=if (Value.type a == Value.type b)=true then some true else if PySem.W.kitMeta b=true then (fastBuiltinMro a).map (·.contains (Value.type b)) else none
theorem ZiF:∀ n∈ZbJ,∀ c∈ZfM,ZlN n c=some (Zlq n c):=by decide +kernel
theorem ZfP {X:Cx}:CallR X (.builtin "isinstance") (fun xs H Q=>∃ (x:V) (c n:String),xs=[x,.ty c]∧c∈ZfM∧TyB H x n∧Q (.bl (Zlq n c)) H):=by
 intro pins s σ H xs us Q I r h
 obtain ⟨x,c,n,rfl,hc,ty,q⟩:=h
 exact Zhb pins s σ H _ us Q I r ⟨x,.ty c,_,_,_,rfl,ty.of,rfl,ZiF n ty.mem c hc,q⟩
theorem Zla:bootBuiltins "isinstance" = some (.builtin "isinstance"):=by decide +kernel
theorem ZW:bootBuiltins "len" = some (.builtin "len"):=by decide +kernel
theorem Zke:bootBuiltins "sum" = some (.builtin "sum"):=by decide +kernel
theorem Zkf:bootBuiltins "min" = some (.builtin "min"):=by decide +kernel
theorem Yd:bootBuiltins "sorted" = some (.builtin "sorted"):=by decide +kernel
theorem Yl:bootBuiltins "tuple" = some (.type "tuple"):=by decide +kernel
theorem ZbH:bootBuiltins "list" = some (.type "list"):=by decide +kernel
theorem Zdn:bootBuiltins "dict" = some (.type "dict"):=by decide +kernel
theorem ZkQ {X:Cx} {x:Str} {c:String} {pos:Pos} (hg:Gl X x) (hm:X.mg x=none) (hv:bootBuiltins x=some (.type c)) (hn:x≠"__name__":=by decide) (hd:(x == ("__debug__" : Str))=false:=by decide):PE X (.Name x pos) (tC (.ty c)) :=
 Zii hg hm hv (show RelV (.ty c) (.type c) from rfl) hn hd
theorem Yy {X:Cx} {N xs:List Str} {mp:List Nat} {scope:Scope} {cl:List (Str × Addr)} {C:Addr} {s₀:Shared} {H₀:Hp} {fp:List Addr} (i:Nat) {x:Str} {pos:Pos} (nd:(lcN N xs mp).Nodup:=by decide +kernel) (hi:(lcN N xs mp)[i]?=some x:=by rfl)
  (hx:(lcx X (lcN N xs mp) scope cl C s₀ H₀ fp).env.scope.names.lookup x=some .local:=by rfl):PG (lcx X (lcN N xs mp) scope cl C s₀ H₀ fp) (.Name x pos) (XY i):=ZG nd hi (.inl hx) (.inr hx)
def tx (l:List Nat):Str:=⟨l.toArray⟩
theorem Zr (l:List Nat):(tx l).cps.toList=l:=by simp [tx]
theorem Zs (l:List Nat):(tx l).length=l.length:=by simp [tx,Str.length]
theorem tx_eta (x:Str):tx x.cps.toList=x:=by simp [tx]
theorem ZcH {a b:List Nat} (h:tx a=tx b):a=b:=by
 have:=congrArg (fun x:Str=>x.cps.toList) h
 simpa [tx] using this
theorem ZaC {X:Cx} (K:PySem.W.Frag) (h:X.K=K:=by rfl):IxR X (ZkM K):=by subst h; exact ix_tup
theorem ZgT {X:Cx} (K:PySem.W.Frag) (h:X.K=K:=by rfl):IxR X (ZkN K):=by subst h; exact ix_list
theorem YV {n:Nat} (h:n≤16777216):n≤sizeLine:=by rw [sizeLine_eq]; exact h
end L2
namespace L2
open PySem PySem.Spec PyProof.Rows PySem.Builtin.Str
section
variable {X:Cx}
theorem Z3 {es:List Expr} {k:Nat} {t:TGs} {pos:Pos} (n:Nat) (K:PySem.W.Frag) (hc:X.calm=true) (h:PGs X es t) (hK:X.K=K:=by rfl)
  (hn:(assignEach es X.env).length=n:=by rfl) (hst:(assignEach es X.env).findIdx? (·.1)=none:=by rfl):PG X (.Tuple es k pos) (Zk5 K n t):=by
 subst hK
 exact Zjs hc h hn hst
end
theorem Zy (x:Str):x.cps.toList.length=x.length:=by simp [Str.length]
theorem JD {x:Str} {n:Int} (h:0≤n):(Txt.slice x none (some n)).cps.toList=x.cps.toList.take n.toNat:=by
 by_cases c:n≤x.length
 ·have e:=eq_of_beq (slice_closes_toL (x:=x) h c)
  rw [e]
  simp
 ·have e1:=slice_to_beyond (x:=x) (j:=n) (by omega)
  have e2:=eq_of_beq (slice_closes_toL (x:=x) (j:=x.length) (by omega) (Int.le_refl _))
  rw [e1,e2,List.take_of_length_le (l:=x.cps.toList) (i:=n.toNat) (by rw [Zy]; omega)]
  simp [Str.length]
  exact List.take_of_length_le (by simp)
theorem Jc {x:Str} {i j:Int} (h0:0≤i) (h1:i≤j) (h2:j≤x.length):(Txt.slice x (some i) (some j)).cps.toList=(x.cps.toList.drop i.toNat).take (j - i).toNat:=by
 have e:=eq_of_beq (slice_closesL (x:=x) h0 h1 h2)
 rw [e]
theorem Zcp {ns:List Int} {i:Int} (h0:0≤i) (h1:i < ns.length):atI (ns.map V.int) i=some (.int (ns.getD i.toNat 0)):=by
 obtain ⟨j,rfl⟩:=Int.eq_ofNat_of_zero_le h0
 refine ZcB ?_
 have hj:j < ns.length:=by omega
 rw [List.getElem?_map,List.getElem?_eq_getElem hj,Int.toNat_natCast,List.getD_eq_getElem?_getD,List.getElem?_eq_getElem hj]
 rfl
theorem ZaD {α:Type} {l:List α} {i:Int} {c:α} (h0:0≤i) (h:l[i.toNat]?=some c):atI l i=some c:=by
 obtain ⟨j,rfl⟩:=Int.eq_ofNat_of_zero_le h0
 exact ZcB h
end L2
namespace L2
open PySem PySem.Spec PyProof.Rows
def ZlF (t u:TS):TS:=fun D σ H=>∃ W:St→Hp→Prop,t { D with nx:=W } σ H∧∀ σ' H',W σ' H'→u D σ' H'
theorem Zie {X:Cx} {st:Stmt} {rest:List Stmt} {t u:TS} (h1:PS X st t) (h2:PSs X rest u):PSs X (st :: rest) (ZlF t u):=by
 intro pins s σ H D I h
 obtain ⟨W,hW,k⟩:=h
 refine wpAny_execs_cons (thn (h1 pins s σ H { D with nx:=W } I hW) fun f s1 q=>?_)
 cases f with
 | next =>
  obtain ⟨σ',H',I',q⟩:=q
  exact h2 pins s1 σ' H' D I' (k σ' H' q)
 | ret v=>exact q
 | brk=>exact q
 | cont=>exact q
theorem Zjl {n i d:Nat} (h:i≤n):HT.sIx n d (some (i:Int))=i:=by
 unfold HT.sIx
 simp only
 rw [if_neg (by omega)]
 simp
 omega
theorem Zg9 {xs:List V} {i:Nat} (h:i≤xs.length):Zha xs (some (i:Int)) none=xs.drop i:=by
 have e1:HT.sIx xs.length xs.length none=xs.length:=rfl
 unfold Zha
 rw [e1,Zjl h]
 exact List.take_of_length_le (by rw [List.length_drop]; omega)
end L2
namespace Srt
open PySem PySem.W PyProof.Rows
section
variable {n:Nat} {lt:Nat→Nat→Bool} {cmp:Nat→Nat→(Bool→Shared→Prop)→Shared→Prop} {G:Shared→Prop}
structure Ord (n:Nat) (lt:Nat→Nat→Bool):Prop where
 tr:∀ i j k,lt i j=true→lt j k=true→lt i k=true
 asy:∀ i j,lt i j=true→lt j i=false
 tot:∀ i j,i < n→j < n→i≠j→lt i j=true∨lt j i=true
structure Pm (n:Nat) (p:Array Nat):Prop where
 size:p.size=n
 perm:p.Perm (List.range n).toArray
theorem Pm.below (h:Pm n p) {a:Nat} (ha:a < n):p.getD a 0 < n:=by
 have hs:a < p.size:=by rw [h.size]; exact ha
 have hm:p[a]∈p:=Array.getElem_mem hs
 have:p[a]∈(List.range n).toArray:=h.perm.mem_iff.mp hm
 rw [Array.getD_eq_getD_getElem?,Array.getElem?_eq_getElem hs]
 simpa using this
theorem Pm.ne (h:Pm n p) {a b:Nat} (ha:a < n) (hb:b < n) (hab:a≠b):p.getD a 0≠p.getD b 0:=by
 have hs:a < p.size:=by rw [h.size]; exact ha
 have hs2:b < p.size:=by rw [h.size]; exact hb
 have nd:p.toList.Nodup:=by
  have:=(Array.perm_iff_toList_perm.mp h.perm)
  exact this.nodup_iff.mpr (by simpa using List.nodup_range)
 rw [Array.getD_eq_getD_getElem?,Array.getElem?_eq_getElem hs,Array.getD_eq_getD_getElem?,Array.getElem?_eq_getElem hs2]
 intro e
 have:=(List.getElem_inj (h₀:=by simpa using hs) (h₁:=by simpa using hs2) nd).mp (by simpa using e)
 exact hab this
def Up (lt:Nat→Nat→Bool) (p:Array Nat) (m:Nat):Prop:=∀ a b,a < b→b < m→lt (p.getD a 0) (p.getD b 0)=true
def Dn (lt:Nat→Nat→Bool) (p:Array Nat) (m:Nat):Prop:=∀ a b,a < b→b < m→lt (p.getD b 0) (p.getD a 0)=true
theorem Up.more (o:Ord n lt) {p:Array Nat} {m:Nat} (h:Up lt p m) (h1:1≤m) (hl:lt (p.getD (m - 1) 0) (p.getD m 0)=true):Up lt p (m + 1):=fun a b hab hb=>by
 by_cases e:b=m
 ·subst e
  by_cases e2:a=b - 1
  ·rw [e2]; exact hl
  ·exact o.tr _ _ _ (h a (b - 1) (by omega) (by omega)) hl
 ·exact h a b hab (by omega)
theorem Dn.more (o:Ord n lt) {p:Array Nat} {m:Nat} (h:Dn lt p m) (h1:1≤m) (hl:lt (p.getD m 0) (p.getD (m - 1) 0)=true):Dn lt p (m + 1):=fun a b hab hb=>by
 by_cases e:b=m
 ·subst e
  by_cases e2:a=b - 1
  ·rw [e2]; exact hl
  ·exact o.tr _ _ _ hl (h a (b - 1) (by omega) (by omega))
 ·exact h a b hab (by omega)
theorem other (o:Ord n lt) {p:Array Nat} (hp:Pm n p) {a b:Nat} (ha:a < n) (hb:b < n) (hab:a≠b) (h:¬ lt (p.getD a 0) (p.getD b 0)=true):lt (p.getD b 0) (p.getD a 0)=true:=by
 rcases o.tot _ _ (hp.below ha) (hp.below hb) (hp.ne ha hb hab) with z | z
 ·exact absurd z h
 ·exact z
variable (o:Ord n lt) (hc:∀ i j C s,i < n→j < n→i≠j→G s→(∀ s',G s'→C (lt i j) s')→cmp i j C s)
include o hc
theorem asc {p:Array Nat} (hp:Pm n p) {Q:Nat→Shared→Prop}:∀ (f m:Nat) (s:Shared),1≤m→m + f≤n→Up lt p m→G s →
  (∀ k s',m≤k→k≤m + f→Up lt p k→(k=m + f∨lt (p.getD k 0) (p.getD (k - 1) 0)=true)→G s'→Q k s')→(kas_asc p f m).kasWp cmp Q s
 | 0,m,s,h1,h2,hu,g,k=>k m s (Nat.le_refl _) (Nat.le_refl _) hu (.inl rfl) g
 | f + 1,m,s,h1,h2,hu,g,k=>by
  refine hc _ _ _ s (hp.below (by omega)) (hp.below (by omega)) (hp.ne (by omega) (by omega) (by omega)) g fun s' g'=>?_
  by_cases c:lt (p.getD m 0) (p.getD (m - 1) 0)=true
  ·dsimp only
   rw [if_pos c]
   exact k m s' (Nat.le_refl _) (by omega) hu (.inr c) g'
  ·dsimp only
   rw [if_neg c]
   have c':=other o hp (by omega) (by omega) (by omega) c
   exact asc hp f (m + 1) s' (by omega) (by omega) (hu.more o h1 c') g' fun j s'' a1 a2 a3 a4 a5=>k j s'' (by omega) (by omega) a3 (by rcases a4 with z | z; exact .inl (by omega); exact .inr z) a5
theorem Zls {p:Array Nat} (hp:Pm n p) {Q:Array Nat × Nat × Nat→Shared→Prop}:∀ (f m:Nat) (s:Shared),1≤m→m + f≤n→Dn lt p m→G s →
  (∀ k s',m≤k→k≤m + f→Dn lt p k→G s'→Q (p,k,0) s')→(kas_desc f p m 0).kasWp cmp Q s
 | 0,m,s,h1,h2,hu,g,k=>k m s (Nat.le_refl _) (Nat.le_refl _) hu g
 | f + 1,m,s,h1,h2,hu,g,k=>by
  refine hc _ _ _ s (hp.below (by omega)) (hp.below (by omega)) (hp.ne (by omega) (by omega) (by omega)) g fun s' g'=>?_
  by_cases c:lt (p.getD m 0) (p.getD (m - 1) 0)=true
  ·dsimp only
   rw [if_pos c,if_neg (by omega)]
   exact Zls hp f (m + 1) s' (by omega) (by omega) (hu.more o h1 c) g' fun j s'' a1 a2 a3 a4=>k j s'' (by omega) (by omega) a3 a4
  ·dsimp only
   rw [if_neg c]
   have c':=other o hp (by omega) (by omega) (by omega) c
   refine hc _ _ _ s' (hp.below (by omega)) (hp.below (by omega)) (hp.ne (by omega) (by omega) (by omega)) g' fun s'' g''=>?_
   dsimp only
   rw [if_pos c']
   exact k m s'' (Nat.le_refl _) (by omega) hu g''
omit o hc in
theorem Zhz {p:Array Nat} {m k:Nat} (hm:m≤p.size) (hk:k < m):(kas_rev p 0 m).getD k 0=p.getD (m - 1 - k) 0:=by
 unfold kas_rev
 rw [Array.getD_eq_getD_getElem?,getElem?_mirror_all hm,if_pos (by omega),Array.getD_eq_getD_getElem?]
 congr 2
 omega
omit o hc in
theorem Zhy {p:Array Nat} (hp:Pm n p) (m:Nat):Pm n (kas_rev p 0 m):=⟨by unfold kas_rev; rw [mirror_size,hp.size],(mirror_perm _ _ _ _).trans hp.perm⟩
theorem Zkr {p:Array Nat} (hp:Pm n p) {Q:Nat × Array Nat→Shared→Prop} {m:Nat} {s:Shared} (h1:1≤m) (h2:m≤n) (hd:Dn lt p m) (g:G s)
  (k:∀ j p' s',1≤j→j≤n→Pm n p'→Up lt p' j→G s'→Q (j,p') s'):(kas_tail3 m n p).kasWp cmp Q s:=by
 unfold kas_tail3
 rw [KasT.kasWp_bind]
 have hu:Up lt (kas_rev p 0 m) m:=fun a b hab hb=>by
  rw [Zhz (by rw [hp.size]; exact h2) (by omega),Zhz (by rw [hp.size]; exact h2) hb]
  exact hd _ _ (by omega) (by omega)
 exact asc o hc (Zhy hp m) _ m s h1 (by omega) hu g fun j s' a1 a2 a3 _ a5=>k j _ s' (by omega) (by omega) (Zhy hp m) a3 a5
theorem count {p:Array Nat} (hp:Pm n p) {Q:Nat × Array Nat→Shared→Prop} {s:Shared} (h1:1≤n) (g:G s)
  (k:∀ j p' s',1≤j→j≤n→Pm n p'→Up lt p' j→G s'→Q (j,p') s'):(kas_count n p).kasWp cmp Q s:=by
 unfold kas_count
 rw [KasT.kasWp_bind]
 refine asc o hc hp (n - 1) 1 s (Nat.le_refl _) (by omega) (fun a b _ _=>by omega) g fun m s' a1 a2 a3 a4 a5=>?_
 by_cases e:m=n
 ·rw [if_pos (by simp [e])]
  exact k m p s' a1 (by omega) hp a3 a5
 ·rw [if_neg (by simp [e])]
  by_cases e1:m > 1
  ·rw [if_pos e1]
   refine hc _ _ _ s' (hp.below (by omega)) (hp.below (by omega)) (hp.ne (by omega) (by omega) (by omega)) a5 fun s'' g''=>?_
   dsimp only
   rw [if_pos (a3 0 (m - 1) (by omega) (by omega))]
   exact k m p s'' a1 (by omega) hp a3 g''
  ·rw [if_neg e1]
   have em:m=1:=by omega
   subst em
   have hl:lt (p.getD 1 0) (p.getD 0 0)=true:=by
    rcases a4 with z | z
    ·omega
    ·exact z
   unfold kas_descPart
   rw [KasT.kasWp_bind]
   refine Zls o hc hp (n - 2) 2 s' (by omega) (by omega) (fun a b hab hb=>?_) a5 fun j s'' b1 b2 b3 b4=>?_
   ·have ea:a=0:=by omega
    have eb:b=1:=by omega
    rw [ea,eb]
    exact hl
   ·rw [if_neg (show ¬ ((p,j,0):Array Nat × Nat × Nat).2.2 > 0 from by simp)]
    exact Zkr o hc hp (by show 1≤j; omega) (by show j≤n; omega) b3 b4 k
theorem place {p:Array Nat} (hp:Pm n p) {k:Nat} (hk:k < n) {Q:Nat→Shared→Prop}:∀ (f l r:Nat) (s:Shared),l≤r→r≤k→r - l≤f→G s →
  (∀ a,a < l→lt (p.getD a 0) (p.getD k 0)=true)→(∀ a,r≤a→a < k→lt (p.getD k 0) (p.getD a 0)=true)→Up lt p k →
  (∀ l s',l≤k→(∀ a,a < l→lt (p.getD a 0) (p.getD k 0)=true)→(∀ a,l≤a→a < k→lt (p.getD k 0) (p.getD a 0)=true)→G s'→Q l s')→(kas_place p k f l r).kasWp cmp Q s
 | 0,l,r,s,h1,h2,h3,g,b1,b2,hu,q=>q l s (by omega) b1 (fun a h=>b2 a (by omega)) g
 | f + 1,l,r,s,h1,h2,h3,g,b1,b2,hu,q=>by
  unfold kas_place
  by_cases e:l ≥ r
  ·rw [if_pos e]
   exact q l s (by omega) b1 (fun a h=>b2 a (by omega)) g
  ·rw [if_neg e]
   refine hc _ _ _ s (hp.below (by omega)) (hp.below (by omega)) (hp.ne (by omega) (by omega) (by omega)) g fun s' g'=>?_
   by_cases c:lt (p.getD k 0) (p.getD ((l + r) / 2) 0)=true
   ·dsimp only
    rw [if_pos c]
    refine place hp hk f l ((l + r) / 2) s' (by omega) (by omega) (by omega) g' b1 (fun a h1 h2=>?_) hu q
    by_cases ea:a=(l + r) / 2
    ·rw [ea]; exact c
    ·exact o.tr _ _ _ c (hu _ _ (by omega) h2)
   ·dsimp only
    rw [if_neg c]
    have c':=other o hp (by omega) (by omega) (by omega) c
    refine place hp hk f ((l + r) / 2 + 1) r s' (by omega) (by omega) (by omega) g' (fun a h1=>?_) b2 hu q
    by_cases ea:a=(l + r) / 2
    ·rw [ea]; exact c'
    ·exact o.tr _ _ _ (hu _ _ (by omega) (by omega)) c'
theorem bin {Q:Array Nat→Shared→Prop} (hQ:∀ p s',Pm n p→Up lt p n→G s'→Q p s'):∀ (f:Nat) (p:Array Nat) (k:Nat) (s:Shared),k + f=n→Pm n p→Up lt p k→G s→(kas_bin f p k).kasWp cmp Q s
 | 0,p,k,s,h,hp,hu,g=>hQ p s hp ((show k=n from h) ▸ hu) g
 | f + 1,p,k,s,h,hp,hu,g=>by
  unfold kas_bin
  rw [KasT.kasWp_bind]
  refine place o hc hp (by omega) k 0 k s (Nat.zero_le _) (Nat.le_refl _) (by omega) g (fun a h=>by omega) (fun a h1 h2=>by omega) hu fun l s' hl b1 b2 g'=>?_
  have hs:k < p.size:=by rw [hp.size]; omega
  have at':∀ j,(bubble p k (k - l)).getD j 0=if j=l then p.getD k 0 else if l < j∧j≤k then p.getD (j - 1) 0 else p.getD j 0:=fun j=>by
   simp only [Array.getD_eq_getD_getElem?]
   rw [getElem?_bubble hs (k - l) (by omega) j,show k - (k - l)=l by omega]
   by_cases q1:j=l
   ·rw [if_pos q1,if_pos q1]
   ·rw [if_neg q1,if_neg q1]
    by_cases q2:l < j∧j≤k
    ·rw [if_pos q2,if_pos q2]
    ·rw [if_neg q2,if_neg q2]
  refine bin hQ f _ (k + 1) s' (by omega) ⟨by rw [bubble_size,hp.size],(bubble_perm _ _ _).trans hp.perm⟩ (fun a b hab hb=>?_) g'
  rw [at',at']
  by_cases e1:a=l
  ·rw [if_pos e1,if_neg (by omega),if_pos (by omega)]
   exact b2 _ (by omega) (by omega)
  ·rw [if_neg e1]
   by_cases e2:l < a∧a≤k
   ·rw [if_pos e2,if_neg (by omega),if_pos (by omega)]
    exact hu _ _ (by omega) (by omega)
   ·rw [if_neg e2]
    by_cases e3:b=l
    ·rw [if_pos e3]
     exact b1 _ (by omega)
    ·rw [if_neg e3]
     by_cases e4:l < b∧b≤k
     ·rw [if_pos e4]
      by_cases e5:a=b - 1
      ·exact absurd e5 (by omega)
      ·exact hu _ _ (by omega) (by omega)
     ·rw [if_neg e4]
      exact hu _ _ hab (by omega)
theorem sort {Q:Array Nat→Shared→Prop} {s:Shared} (h1:1≤n) (g:G s) (hQ:∀ p s',Pm n p→Up lt p n→G s'→Q p s'):(kas_sort n).kasWp cmp Q s:=by
 unfold kas_sort
 rw [KasT.kasWp_bind]
 refine count o hc ⟨by simp,Array.Perm.refl _⟩ h1 g fun j p' s' a1 a2 a3 a4 a5=>?_
 by_cases e:j < n
 ·dsimp only
  rw [if_pos e,Nat.max_eq_left a1]
  exact bin o hc hQ _ p' j s' (by omega) a3 a4 a5
 ·dsimp only
  rw [if_neg e]
  exact hQ p' s' a3 ((show j=n by omega) ▸ a4) a5
end
end Srt
namespace L2
open PySem PySem.Spec PyProof.Rows PySem.W
def Zle (h:Heap) (v:Value) (x:Str):Prop:=∃ a t y,v = .ref a∧h.get? a=some { cls:=.type "tuple",data:=.seq #[.str x t,y] }
def ltX (xs:List Str) (i j:Nat):Bool:=decide ((xs.getD i "").cps.toList < (xs.getD j "").cps.toList)
theorem YB {xs:List Str} {i:Nat} (h:i < xs.length):xs.getD i "" = xs[i]:=by
 rw [List.getD_eq_getElem?_getD,List.getElem?_eq_getElem h]
 rfl
theorem Zaw {xs:List Str} (nd:xs.Nodup):Srt.Ord xs.length (ltX xs) where
 tr:=fun i j k h1 h2=>by
  unfold ltX at *
  rw [decide_eq_true_eq] at *
  exact List.lt_trans h1 h2
 asy:=fun i j h1=>by
  unfold ltX at *
  rw [decide_eq_true_eq] at h1
  exact decide_eq_false (List.lt_asymm h1)
 tot:=fun i j hi hj hij=>by
  unfold ltX
  rw [YB hi,YB hj,decide_eq_true_eq,decide_eq_true_eq]
  by_cases q:xs[i].cps.toList < xs[j].cps.toList
  ·exact .inl q
  ·by_cases q2:xs[j].cps.toList < xs[i].cps.toList
   ·exact .inr q2
   ·have e:=List.le_antisymm (List.not_lt.mp q2) (List.not_lt.mp q)
    have e2:xs[i]=xs[j]:=by rw [← tx_eta xs[i],← tx_eta xs[j],e]
    exact absurd ((List.getElem_inj nd).mp e2) hij
theorem JQ {h:Heap}:∀ {vs:List Value} {xs:List Str},xs.length=vs.length→(∀ (i:Nat) (v:Value) (x:Str),vs[i]?=some v→xs[i]?=some x→Zle h v x)→∃ fs,KatTups h vs fs∧fs.length=vs.length∧∀ f∈fs,∃ x t,f = .str x t
 | [],[],_,_=>⟨[],trivial,rfl,fun f hf=>nomatch hf⟩
 | [],_ :: _,h,_=>by cases h
 | _ :: _,[],h,_=>by cases h
 | v :: vs,x :: xs,hl,hv=>by
  obtain ⟨a,t,y,rfl,ha⟩:=hv 0 v x rfl rfl
  obtain ⟨fs,k,l,q⟩:=JQ (vs:=vs) (xs:=xs) (by simpa using hl) fun i v x e1 e2=>hv (i + 1) v x e1 e2
  refine ⟨.str x t :: fs,KatTups.cons ha rfl rfl rfl k,by simp [l],fun f hf=>?_⟩
  rcases List.mem_cons.mp hf with z | z
  ·exact ⟨x,t,z⟩
  ·exact q f z
section
variable {prog:Program} {w:World} {A:Around} {E:Value→Shared→Prop} {s:Shared}
theorem ZdI {a:Addr} {vs:List Value} {xs:List Str} {n:Nat} {P:PySem.Fin→Shared→Prop} (ho:s.heap.get? a=some (seqObj "list" vs.toArray n)) (h64:vs.length < 64) (hl:xs.length=vs.length) (nd:xs.Nodup)
  (hv:∀ (i:Nat) (v:Value) (x:Str),vs[i]?=some v→xs[i]?=some x→Zle s.heap v x)
  (h:∀ (h1:Heap) (tk c:Nat) (p:Array Nat),Srt.Pm xs.length p→Srt.Up (ltX xs) p xs.length→(∀ b o,b≠a→s.heap.get? b=some o→h1.get? b=some o) →
   h1.get? a=some (seqObj "list" (p.toList.map fun i=>vs.getD i Value.none).toArray c)→P (.done (.ret .none)) { s with heap:=h1,toks:=tk }) :
  wpAny (model prog w) A (Builtin.«list.sort» ⟨[.ref a],[]⟩) P E s:=by
 have ha:a < s.heap.objs.size:=Heap.lt_size ho
 have hz:vs.length≤sizeLine:=by rw [sizeLine_eq]; omega
 rw [list_sort_plain]
 refine wpAny_bind (listItems_at ho rfl (wpAny_bind (listUpdate_at ho rfl ?_ (by rw [List.size_toArray]; exact hz) (Nat.zero_le _))))
 obtain ⟨e1,ho1⟩:∃ e1,(s.heap.update a (Obj.mapSeq fun _=>(#[]:Array Value))).get? a=some (seqObj "list" #[] e1):=⟨_,get?_update_seq ho fun _=>#[]⟩
 have k1:∀ b o,b≠a→s.heap.get? b=some o→(s.heap.update a (Obj.mapSeq fun _=>(#[]:Array Value))).get? b=some o:=fun b o hb q=>(Heap.get?_update_other _ _ (Ne.symm hb)).trans q
 refine wpAny_bind (seqEpoch_at ho1 rfl (wpAny_bind (wpAny_newTuple ?_ (by show vs.length≤_; exact hz))))
 refine wpAny_bind (wpAny_newList ?_ (Nat.zero_le _))
 refine wpAny_holding ?_
 generalize hg:((s.heap.update a (Obj.mapSeq fun _=>(#[]:Array Value))).push { cls:=.type "tuple",data:=.seq vs.toArray.toList.toArray }).push { cls:=.type "list",data:=.seq ([]:List Value).toArray }=h6
 have k6:∀ b o,b≠a→s.heap.get? b=some o→h6.get? b=some o:=fun b o hb q=>by
  rw [← hg]
  exact Heap.get?_push_of_some _ (Heap.get?_push_of_some _ (k1 b o hb q))
 have ho6:h6.get? a=some (seqObj "list" #[] e1):=by
  rw [← hg]
  exact Heap.get?_push_of_some _ (Heap.get?_push_of_some _ ho1)
 have hv6:∀ (i:Nat) (v:Value) (x:Str),vs[i]?=some v→xs[i]?=some x→Zle h6 v x:=fun i v x q1 q2=>by
  obtain ⟨b,t,y,rfl,hb⟩:=hv i v x q1 q2
  exact ⟨b,t,y,rfl,k6 b _ (fun z=>by rw [z,ho] at hb; injection hb with hb; exact absurd (congrArg Obj.cls hb) (by unfold seqObj; simp)) hb⟩
 show wpAny (model prog w) A _ P E { s with heap:=h6 }
 dsimp only
 -- the end: the items are put back
 have fin:∀ (tk:Nat) (p:Array Nat) (out:Array Value),Srt.Pm xs.length p→Srt.Up (ltX xs) p xs.length→out=(p.toList.map fun i=>vs.getD i Value.none).toArray →
   ∃ c,(h6.update a (Obj.mapSeq fun _=>out)).get? a=some (seqObj "list" out c)∧out.size≤sizeLine∧P (.done (.ret .none)) { s with heap:=h6.update a (Obj.mapSeq fun _=>out),toks:=tk }:=fun tk p out hp hu ho'=>by
  have hc:=get?_update_seq ho6 fun _=>out
  refine ⟨_,hc,?_,h _ tk _ p hp hu (fun b o hb q=>(Heap.get?_update_other _ _ (Ne.symm hb)).trans (k6 b o hb q)) (by rw [← ho']; exact hc)⟩
  rw [ho',List.size_toArray,List.length_map,Array.length_toList,hp.size,hl]
  exact hz
 by_cases h2:vs.toArray.size < 2
 ·rw [if_pos h2,if_pos h2]
  rw [List.size_toArray] at h2
  have hr:vs.toArray=((List.range xs.length).toArray.toList.map fun i=>vs.getD i Value.none).toArray:=by
   congr 1
   apply List.ext_getElem?
   intro i
   simp only [List.getElem?_map]
   by_cases hi:i < vs.length
   ·rw [List.getElem?_eq_getElem hi,List.getElem?_range (by omega),Option.map_some,List.getD_eq_getElem?_getD,List.getElem?_eq_getElem hi]
    rfl
   ·rw [List.getElem?_eq_none (by omega),List.getElem?_eq_none (by simp; omega)]
    rfl
  obtain ⟨c,f1,f2,f3⟩:=fin s.toks (List.range xs.length).toArray vs.toArray ⟨by simp,Array.Perm.refl _⟩ (fun a b hab hb=>by omega) hr
  refine wpAny_bind (wpAny_pure ?_)
  rw [StateT.run_pure]
  refine wpAny_bind (wpAny_pure ?_)
  have eo:(arrOf (SortSt.mk' general' (vs.toArray.zip vs.toArray) #[] 7 none)).map (·.2)=vs.toArray:=by
   show (vs.toArray.zip vs.toArray).map (·.2)=vs.toArray
   apply Array.toList_inj.mp
   simp
   exact List.map_snd_zip (Nat.le_refl _)
  dsimp only
  rw [eo]
  refine wpAny_bind (seqEpoch_at ho6 rfl (wpAny_bind (listUpdate_at ho6 rfl ?_ (Nat.zero_le _) (Nat.le_succ_of_le f2))))
  simp only [bne_self_eq_false,Bool.false_eq_true,if_false]
  exact wpAny_pure f3
 ·rw [if_neg h2,if_neg h2]
  rw [List.size_toArray] at h2
  obtain ⟨fs,kt,lf,hf⟩:=JQ hl hv6
  refine wpAny_bind (kat_kind (T:=.type "str") kt (by omega) (fun f m=>?_) (by decide) ?_)
  ·obtain ⟨x,t,rfl⟩:=hf f m
   exact Looks.of_pure rfl
  refine wpAny_bind (wpAny_mono (kat_run (κ:=tuples' ((Value.type "str") != Value.type "tuple")) (ks:=vs) (vs:=vs) (G:=fun p s'=>(∃ tk,s'={ s with heap:=h6,toks:=tk })∧Srt.Pm xs.length p∧Srt.Up (ltX xs) p xs.length)
   (Q:=fun st' s'=>∃ p:Array Nat,arrOf st'=p.map (kas_item (vs.toArray.zip vs.toArray))∧failedOf st'=none∧(∃ tk,s'={ s with heap:=h6,toks:=tk })∧Srt.Pm xs.length p∧Srt.Up (ltX xs) p xs.length)
   rfl (by omega) h64 (fun p st' s' _ a2 a3 a4=>⟨p,a2,a3,a4⟩) ?_) ?_ fun _ _ e=>e)
  ·rw [← hl]
   refine Srt.sort (G:=fun s'=>∃ tk,s'={ s with heap:=h6,toks:=tk }) (Zaw nd) (fun i j C s' hi hj hij g k=>?_) (by omega) ⟨s.toks,rfl⟩ fun p s' hp hu g=>⟨g,hp,hu⟩
   obtain ⟨tk,rfl⟩:=g
   have hi':i < vs.length:=by omega
   have hj':j < vs.length:=by omega
   obtain ⟨b1,t1,y1,e1,g1⟩:=hv6 i vs[i] xs[i] (List.getElem?_eq_getElem hi') (List.getElem?_eq_getElem hi)
   obtain ⟨b2,t2,y2,e2,g2⟩:=hv6 j vs[j] xs[j] (List.getElem?_eq_getElem hj') (List.getElem?_eq_getElem hj)
   have n1:vs.getD i Value.none = .ref b1:=by rw [List.getD_eq_getElem?_getD,List.getElem?_eq_getElem hi']; exact e1
   have n2:vs.getD j Value.none = .ref b2:=by rw [List.getD_eq_getElem?_getD,List.getElem?_eq_getElem hj']; exact e2
   have hne:¬ xs[i]=xs[j]:=fun z=>hij ((List.getElem_inj nd).mp z)
   show wpAny (model prog w) A (keyLt' _ (vs.getD i Value.none) (vs.getD j Value.none)) C (fun _ _=>False) { s with heap:=h6,toks:=tk }
   rw [n1,n2]
   refine kat_lt (s:={ s with heap:=h6,toks:=tk }) g1 rfl g2 rfl (kat_cons (wpAny_eqBool_str ?_))
   rw [decide_eq_false hne]
   refine kat_no ?_
   refine kas_lt_str ?_
   have el:decide (xs[i].cps.toList < xs[j].cps.toList)=ltX xs i j:=by
    unfold ltX
    rw [YB hi,YB hj]
   rw [el]
   exact k _ ⟨tk,rfl⟩
  ·rintro ⟨⟨⟩,st'⟩ s' ⟨p,har,hf',⟨tk,rfl⟩,hp,hu⟩
   obtain ⟨c,f1,f2,f3⟩:=fin tk p _ hp hu rfl
   dsimp only
   rw [kat_snds rfl har]
   refine wpAny_bind (seqEpoch_at (s:={ s with heap:=h6,toks:=tk }) ho6 rfl (wpAny_bind (listUpdate_at (s:={ s with heap:=h6,toks:=tk }) ho6 rfl ?_ (Nat.zero_le _) (Nat.le_succ_of_le f2))))
   rw [hf']
   simp only [bne_self_eq_false,Bool.false_eq_true,if_false]
   exact wpAny_pure f3
end
theorem ObjOk.there' {P:Program} {w:World} {H:Hp} {h:Heap} {a:Addr} {o:HO} (x:ObjOk P w H h a o):∃ u,h.get? a=some u:=by
 cases o with
 | lst xs=>obtain ⟨_,_,_,_,e⟩:=x; exact ⟨_,e⟩
 | tup xs=>obtain ⟨_,_,_,⟨_,e,_⟩,_⟩:=x; exact ⟨_,e⟩
 | dK kvs=>obtain ⟨_,_,_,_,o,_,_,e,_⟩:=x; exact ⟨_,e⟩
 | dT kvs=>obtain ⟨_,_,_,_,o,_,_,e,_⟩:=x; exact ⟨_,e⟩
 | set S n=>obtain ⟨o,_,_,_,e,_⟩:=x; exact ⟨_,e⟩
 | ins C dx fs=>obtain ⟨_,_,_,e,_⟩:=x; exact ⟨_,e⟩
 | own y=>exact x
 | xd fs=>obtain ⟨_,⟨_,_,_,e,_⟩,_⟩:=x; exact ⟨_,e⟩
 | rng lo hi=>obtain ⟨_,_,_,e⟩:=x; exact ⟨_,e⟩
 | frz ob u=>obtain ⟨e,_⟩:=x; exact ⟨_,e⟩
 | tbl ps=>exact ⟨_,show h.get? a=some _ from x⟩
 | met f y=>exact ⟨_,show h.get? a=some _ from x⟩
 | ext φ=>obtain ⟨_,e,_⟩:=x; exact e
section
variable {X:Cx} {pins:List (Addr × Obj)} {σ:St} {H:Hp} {s:Shared}
theorem Inv.laidN {N:Addr→Option HO} {h1:Heap} {tk:Nat} (I:Inv X pins σ H s) (k:∀ b u,s.heap.get? b=some u→h1.get? b=some u) (hN:∀ a o,N a=some o→s.heap.get? a=none∧∀ H2,ObjOk X.prog X.w H2 h1 a o) :
  Inv X pins σ (fun b=>(N b).or (H b)) { s with heap:=h1,toks:=tk }:=by
 have low:∀ b u,s.heap.get? b=some u→N b=none:=fun b u hb=>by
  cases q:N b with
  | none=>rfl
  | some o=>rw [(hN b o q).1] at hb; cases hb
 have old:∀ b u,H b=some u→(N b).or (H b)=some u:=fun b u q=>by
  obtain ⟨v,hv⟩:=(I.hok b u q).there'
  rw [low b v hv,Option.none_or]
  exact q
 refine I.un ⟨fun b o q _ _ _=>k b o q,fun b o q _ _ _=>⟨o.slots,k b o q⟩,fun b o q n _=>?_,fun b o q _=>⟨o,k b o q⟩,fun b xs q=>old b _ q,fun b o u q=>old b _ q,fun b ps q=>⟨#[],by rw [old b _ q]; simp⟩⟩ fun a o q=>?_
 ·show (N b).or (H b)=none
  rw [low b o q,Option.none_or]
  exact n
 ·cases e:N a with
  | some u =>
   rw [e,Option.some_or] at q
   cases q
   exact (hN a o e).2 _
  | none =>
   rw [e,Option.none_or] at q
   exact (I.hok a o q).stay (fun b u _ z=>k b u z) (fun b z=>old b _ z) fun b xs z=>old b _ z
end
def ivO (p d:Addr):HO:=.ext fun h=>h.IsItemsView p d
theorem ZgN {X:Cx}:MtR X "dict.items" (fun x vs H Q=>∃ d kvs,x = .ref d∧vs=[]∧H d=some (.dK kvs)∧∀ p,H p=none→Q (.ref p) (upd H p (ivO p d))):=by
 intro pins s σ H x vs v us Q I rx rv h
 obtain ⟨d,kvs,rfl,rfl,hd,q⟩:=h
 cases rx
 cases rv
 obtain ⟨hz,lo,vs',kv,dd⟩:=Jz I.hok hd
 refine call_meetsIn PySem.F.slot_dict_items dd.typeIs PySem.F.entry_dict_items (PySem.F.args_dict_items_1 _) (meets_dict_items (Zp X.prog X.w) d lo) ⟨⟨_,dd⟩,?_⟩
 refine ⟨.ref s.heap.objs.size,_,I.laid (t':=s.toks) (o:=ivO s.heap.objs.size d) (fun b u e=>Heap.get?_push_of_some _ e) (Nat.le_refl _) ?_,rfl,q _ (I.hok.fresh (Nat.le_refl _))⟩
 refine ⟨⟨_,Heap.get?_push_size _ rfl,rfl,rfl⟩,⟨_,Heap.get?_push_size _ rfl⟩,fun h1 h2 ⟨o,e,r⟩ k=>⟨o,k o e,r⟩⟩
theorem ZeU (ks:List Str) (p:Array Nat) (hp:Srt.Pm ks.length p):(p.toList.map fun i=>ks.getD i "").Perm ks:=by
 have h1:=(Array.perm_iff_toList_perm.mp hp.perm).map fun i=>ks.getD i ""
 have h2:((List.range ks.length).toArray.toList.map fun i=>ks.getD i "")=ks:=by
  apply List.ext_getElem?
  intro i
  simp only [List.getElem?_map]
  by_cases hi:i < ks.length
  ·rw [List.getElem?_range hi,List.getElem?_eq_getElem hi,Option.map_some,YB hi]
  ·rw [List.getElem?_eq_none (by simp; omega),List.getElem?_eq_none (by omega)]
   rfl
 rw [h2] at h1
 exact h1
theorem YS {X:Cx} (hc:X.calm=true):CallR X (.builtin "sorted") (fun xs H Q=>∃ (p d:Addr) (ks:List Str) (g:Str→V),xs=[.ref p]∧H p=some (ivO p d)∧H d=some (.dK (ks.map fun x=>((Sum.inr x:Key),g x)))∧ks.Nodup∧ks.length < 64 ∧
  ∀ (D:Addr) (H1:Hp) (vs:List V) (ss:List Str),Same H H1→ss.Perm ks→(ss.map fun x=>x.cps.toList).Pairwise (· < ·)→H1 D=some (.lst vs)→vs.length=ss.length →
   (∀ (i:Nat) (x:Str),ss[i]?=some x→∃ b,vs[i]?=some (.ref b)∧H1 b=some (.tup [.str x,g x]))→Q (.ref D) H1):=by
 intro pins s σ H xs us Q I r h
 obtain ⟨p,d,ks,g,rfl,hp,hd,nd,h64,q⟩:=h
 obtain ⟨u,rfl,ru⟩:=Y5 r
 cases ru
 have hview:s.heap.IsItemsView p d:=(I.hok p _ hp).1
 obtain ⟨hz,lo,vs',kv,dd⟩:=Jz I.hok hd
 obtain ⟨ep,hat⟩:=dd.dictAt
 have hlen:ks.length=vs'.length:=by have:=kv.length; simpa using this
 have hsz:vs'.length≤sizeLine:=by rw [sizeLine_eq]; omega
 refine Calls.call_function_entry kind_sorted plain_sorted entry_sorted (args_sorted1 _) ?_
 unfold Builtin.«sorted»
 refine wpAny_bind (m:=checkCount "sorted" 1 1 _) (wpAny_pure ?_)
 refine wpAny_bind (kdx_collect (A:=X.A.in1) (knd:=Zp X.prog X.w) (kvs:=vs') (ep:=ep) (I.ok.hd hc) hview hat hsz fun h1 tk as hk hl hG=>?_)
 refine wpAny_bind (wpAny_newList ?_ (by rw [List.length_map,hl]; exact hsz))
 have pr:∀ (i:Nat),i < ks.length→∃ a t y,as[i]?=some a∧RelV (g (ks.getD i "")) y∧h1.get? a=some { cls:=.type "tuple",data:=.seq #[.str (ks.getD i "") t,y] }:=fun i hi=>by
  have hi2:i < as.length:=by omega
  obtain ⟨key,k,x,e1,e2,e3⟩:=hG.pairs i as[i] (List.getElem?_eq_getElem hi2)
  have ek:=congrArg (fun l:List Key=>l[i]?) kv.keys
  simp only [List.getElem?_map] at ek
  rw [e1,List.getElem?_eq_getElem hi] at ek
  have ek':(Sum.inr ks[i]:Key)=k:=Option.some.inj ek
  have ev:RelV (g ks[i]) x:=by
   have key:∀ {l1:List (Key × V)} {l2:List (Key × Value)} (i:Nat) (p:Key × V) (q:Key × Value),Paired (fun (p:Key × V) (q:Key × Value)=>p.1=q.1∧RelV p.2 q.2) l1 l2→l1[i]?=some p→l2[i]?=some q→RelV p.2 q.2:=by
    intro l1 l2 i p q hP
    induction hP generalizing i with
    | nil=>intro e; simp at e
    | cons r t ih =>
     intro e1 e2
     cases i with
     | zero =>
      simp at e1 e2
      subst e1 e2
      exact r.2
     | succ i=>exact ih i (by simpa using e1) (by simpa using e2)
   exact key i (Sum.inr ks[i],g ks[i]) (k,x) kv (by rw [List.getElem?_map,List.getElem?_eq_getElem hi]; rfl) e1
  subst ek'
  rcases keyIs_shape (show Js (Sum.inr ks[i]) key=true from e2) with ⟨j,t,e4,_⟩ | ⟨z,t,e4,e5⟩
  ·cases e4
  ·injection e4 with e4
   subst e4
   refine ⟨as[i],t,x,List.getElem?_eq_getElem hi2,by rw [YB hi]; exact ev,?_⟩
   rw [e3,e5,YB hi]
 have hB:(h1.push { cls:=.type "list",data:=.seq (as.map Value.ref).toArray }).get? h1.objs.size=some (seqObj "list" (as.map Value.ref).toArray 0):=Heap.get?_push_size _ rfl
 refine wpAny_bind (wpAny_holding (wpAny_call_entry slot_list_sort ⟨_,hB,rfl⟩ entry_list_sort ?body (args_list_sort _)))
 refine ZdI (s:={ s with heap:=h1.push { cls:=.type "list",data:=.seq (as.map Value.ref).toArray },toks:=tk }) (xs:=ks) hB (by rw [List.length_map]; omega) (by rw [List.length_map]; omega) nd (fun i v x e1 e2=>?_) fun h3 tk3 c pm hpm hup hkeep hD=>⟨_,rfl,wpAny_pure ⟨_,rfl,?_⟩⟩
 ·have hi:i < ks.length:=(List.getElem?_eq_some_iff.mp e2).1
  obtain ⟨a,t,y,f1,_,f3⟩:=pr i hi
  rw [List.getElem?_map,f1] at e1
  cases e1
  have ex:ks.getD i "" = x:=by rw [List.getD_eq_getElem?_getD,e2]; rfl
  rw [ex] at f3
  exact ⟨a,t,y,rfl,Heap.get?_push_of_some _ f3⟩
 ·have hold:∀ b u,s.heap.get? b=some u→h3.get? b=some u:=fun b u e=>hkeep b u (Nat.ne_of_lt (Heap.lt_size (hk b u e))) (Heap.get?_push_of_some _ (hk b u e))
  have hDn:s.heap.get? h1.objs.size=none:=by
   cases z:s.heap.get? h1.objs.size with
   | none=>rfl
   | some u=>exact absurd (Heap.lt_size (hk _ u z)) (Nat.lt_irrefl _)
  have tup3:∀ (i:Nat),i < ks.length→∃ a t y,as[i]?=some a∧RelV (g (ks.getD i "")) y∧s.heap.get? a=none∧a≠h1.objs.size∧h3.get? a=some { cls:=.type "tuple",data:=.seq #[.str (ks.getD i "") t,y] }:=fun i hi=>by
   obtain ⟨a,t,y,f1,f2,f3⟩:=pr i hi
   have ne:a≠h1.objs.size:=Nat.ne_of_lt (Heap.lt_size f3)
   exact ⟨a,t,y,f1,f2,Heap.get?_none_of_le (Nat.le_of_lt (hG.above a (List.mem_of_getElem? f1))),ne,hkeep a _ ne (Heap.get?_push_of_some _ f3)⟩
  have asnd:as.Nodup:=hG.rise.imp fun {a b} z e=>by subst e; exact Nat.lt_irrefl _ z
  let N:Addr→Option HO:=fun b=>if b=h1.objs.size then some (.lst (pm.toList.map fun i=>V.ref (as.getD i 0))) else (as.idxOf? b).map fun i=>.tup [.str (ks.getD i ""),g (ks.getD i "")]
  have hND:N h1.objs.size=some (.lst (pm.toList.map fun i=>V.ref (as.getD i 0))):=if_pos rfl
  have hNt:∀ (i:Nat),i < ks.length→∃ a,as[i]?=some a∧N a=some (.tup [.str (ks.getD i ""),g (ks.getD i "")]):=fun i hi=>by
   obtain ⟨a,t,y,f1,f2,f3,f4,f5⟩:=tup3 i hi
   refine ⟨a,f1,?_⟩
   show (if a=h1.objs.size then _ else _)=_
   rw [if_neg f4]
   have hi2:i < as.length:=(List.getElem?_eq_some_iff.mp f1).1
   have e:as.idxOf? a=some i:=by
    rw [List.idxOf?_eq_some_iff]
    refine ⟨hi2,by rw [List.getElem?_eq_getElem hi2] at f1; simpa using Option.some.inj f1,fun j hj=>?_⟩
    intro z
    have e1:as[j]'(by omega)=as[i]:=by rw [List.getElem?_eq_getElem hi2] at f1; rw [Option.some.inj f1]; simpa using z
    exact absurd ((List.getElem_inj asnd).mp e1) (by omega)
   rw [e]
   rfl
  have hNall:∀ a o,N a=some o→s.heap.get? a=none∧∀ H2,ObjOk X.prog X.w H2 h3 a o:=fun a o e=>by
   by_cases ha:a=h1.objs.size
   ·subst ha
    rw [hND] at e
    cases e
    refine ⟨hDn,fun H2=>⟨?_,pm.toList.map (fun i=>Value.ref (as.getD i 0)),c,?_,?_⟩⟩
    ·rw [List.length_map,Array.length_toList,hpm.size,sizeLine_eq]
     omega
    ·have gen:∀ l:List Nat,Vals (l.map fun i=>V.ref (as.getD i 0)) (l.map fun i=>Value.ref (as.getD i 0)):=by
      intro l
      induction l with
      | nil=>exact .nil
      | cons i l ih=>exact .cons rfl ih
     exact gen _
    ·rw [hD]
     have el:(List.map (fun i=>(List.map Value.ref as).getD i Value.none) pm.toList)=pm.toList.map fun i=>Value.ref (as.getD i 0):=by
      refine List.map_congr_left fun i hi=>?_
      have hi':i < as.length:=by
       have:i∈pm:=by simpa using hi
       have:=hpm.perm.mem_iff.mp this
       have:i < ks.length:=by simpa using this
       omega
      rw [List.getD_eq_getElem?_getD,List.getElem?_map,List.getElem?_eq_getElem hi',List.getD_eq_getElem?_getD,List.getElem?_eq_getElem hi']
      rfl
     rw [el]
   ·have e':(as.idxOf? a).map (fun i=>HO.tup [.str (ks.getD i ""),g (ks.getD i "")])=some o:=by
     have:(if a=h1.objs.size then some (HO.lst (pm.toList.map fun i=>V.ref (as.getD i 0))) else (as.idxOf? a).map fun i=>HO.tup [.str (ks.getD i ""),g (ks.getD i "")])=some o:=e
     rw [if_neg ha] at this
     exact this
    cases hx:as.idxOf? a with
    | none=>rw [hx] at e'; cases e'
    | some i =>
     rw [hx] at e'
     cases e'
     obtain ⟨hi,hai,_⟩:=List.idxOf?_eq_some_iff.mp hx
     have hi':i < ks.length:=by omega
     obtain ⟨a',t,y,f1,f2,f3,f4,f5⟩:=tup3 i hi'
     rw [List.getElem?_eq_getElem hi] at f1
     have ea:a=a':=by rw [← Option.some.inj f1]; simpa using hai.symm
     subst ea
     refine ⟨f3,fun H2=>⟨by show 2≤sizeLine; rw [sizeLine_eq]; decide,[.str (ks.getD i "") t,y],.cons ⟨t,rfl⟩ (.cons f2 .nil),⟨⟨_,f5,rfl,_,rfl⟩,fun o e=>by rw [f5] at e; cases e; rfl⟩⟩⟩
  refine ⟨.ref h1.objs.size,_,I.laidN (N:=N) (tk:=tk3) hold hNall,rfl,?_⟩
  have hsame:Same H fun b=>(N b).or (H b):=fun b u e=>by
   obtain ⟨v,hv⟩:=(I.hok b u e).there'
   have:N b=none:=by
    cases z:N b with
    | none=>rfl
    | some o=>rw [(hNall b o z).1] at hv; cases hv
   show (N b).or (H b)=some u
   rw [this,Option.none_or]
   exact e
  refine q _ _ (pm.toList.map fun i=>V.ref (as.getD i 0)) (pm.toList.map fun i=>ks.getD i "") hsame (ZeU ks pm hpm) ?_ (by rw [hND]; rfl) (by rw [List.length_map,List.length_map]) fun i x e=>?_
  ·rw [List.map_map,List.pairwise_map,List.pairwise_iff_getElem]
   intro i j hi hj hij
   have hz2:pm.toList.length=ks.length:=by rw [Array.length_toList,hpm.size]
   have hu:=hup i j hij (by omega)
   unfold ltX at hu
   rw [decide_eq_true_eq] at hu
   have g1:pm.getD i 0=pm.toList[i]:=by rw [Array.getD_eq_getD_getElem?,Array.getElem?_eq_getElem (by simpa using hi)]; simp
   have g2:pm.getD j 0=pm.toList[j]:=by rw [Array.getD_eq_getD_getElem?,Array.getElem?_eq_getElem (by simpa using hj)]; simp
   rw [g1,g2] at hu
   exact hu
  ·rw [List.getElem?_map] at e
   cases ep:pm.toList[i]? with
   | none=>rw [ep] at e; cases e
   | some k =>
    rw [ep] at e
    have ex:ks.getD k "" = x:=Option.some.inj e
    have hkm:k∈pm:=by simpa using List.mem_of_getElem? ep
    have hkl:k < ks.length:=by simpa using hpm.perm.mem_iff.mp hkm
    obtain ⟨a,f1,f2⟩:=hNt k hkl
    refine ⟨a,?_,?_⟩
    ·rw [List.getElem?_map,ep,Option.map_some,List.getD_eq_getElem?_getD,f1]
     rfl
    ·show (N a).or (H a)=_
     rw [f2,Option.some_or,ex]
def Zi7 (td:TE):TE:=fun σ H Q=>td σ H fun x H1=>∃ d kvs,x = .ref d∧H1 d=some (.dK kvs)∧∀ p,H1 p=none→Q (.ref p) (upd H1 p (ivO p d))
theorem Zan {X:Cx} {o:Expr} {apos cpos:Pos} {td:TE} (ho:PE X o td) (hbase:attributeBase o "items" X.env (eval o X.env)=eval o X.env:=by rfl) (hline:(apos.endLine == cpos.line)=true:=by rfl) :
  PE X (.Call (.Attribute o "items" apos) [] [] cpos) (Zi7 td):=by
 intro pins s σ H Q I h
 refine wpAny_Call_method0_late hbase hline (thn (ho pins s σ H _ I h) fun v s1 ⟨x,H1,I1,r1,d,kvs,ex,hd,q1⟩=>?_)
 subst ex
 obtain rfl:v=Value.ref d:=r1
 obtain ⟨t1,t2,_⟩:=Zbp I1 (.inl ⟨kvs,.inl hd⟩)
 exact ⟨"dict",_,PySem.F.plainAttrs_dict,PySem.F.slot_dict_items,PySem.F.type_dict_items,t1,t2,Calls.callWith_builtin rfl (PySem.evalArgs_none (ZgN pins s1 σ H1 (.ref d) [] (.ref d) [] Q I1 rfl .nil ⟨d,kvs,rfl,rfl,hd,q1⟩))⟩
end L2
namespace L2
open PySem PySem.Spec PyProof.Rows
structure XCls (K:PySem.W.Frag) (mg:Str→Option Value) (x:Str) (C:Addr) (bm:List Value):Prop where
 bound:mg x=some (.ref C)
 look:∃ nm q N bs hdct sn sub ab col dd k0 k1 k2 k3 k5,K.lookup C=some (excClassObj nm q C N bs bm hdct sn sub ab col dd k0 k1 k2 k3 k5 "ValueError.__new__") ∧
  PySem.W.nsOkIn K N=true∧PySem.W.nsIn K N "__init__" = some none
 tail:PySem.W.tailIn K [.type "ValueError",.type "Exception",.type "BaseException",.type "object"] bm=true
def ZjS (K:PySem.W.Frag) (C:Addr):List Value:=match K.lookup C with
 | some ⟨_,_,.cls cd,_⟩=>cd.mro.tail
 | _=>[]
theorem ZdY {K:PySem.W.Frag} {mg:Str→Option Value} {x:Str} {C:Addr} (hb:mg x=some (.ref C)) (hq:PySem.W.excIn K C [.type "ValueError",.type "Exception",.type "BaseException",.type "object"] "ValueError.__new__" = true):XCls K mg x C (ZjS K C):=by
 unfold PySem.W.excIn at hq
 cases hl:K.lookup C with
 | none=>rw [hl] at hq; cases hq
 | some o =>
  rw [hl] at hq
  split at hq
  ·rename_i dd cd sl e0
   injection e0 with e1
   subst e1
   split at hq
   ·rename_i C1 bm k0 k1 k2 k3 n k5 e2 e3
    rw [Bool.and_eq_true,Bool.and_eq_true,Bool.and_eq_true,Bool.and_eq_true,Bool.and_eq_true] at hq
    obtain ⟨⟨⟨⟨⟨q1,q2⟩,q3⟩,q4⟩,q5⟩,q6⟩:=hq
    have r1:=beq_iff_eq.mp q1
    have r2:=beq_iff_eq.mp q2
    have r6:=beq_iff_eq.mp q6
    subst r1
    subst r2
    obtain ⟨f1,f2,f3,f4,f5,f6,f7,f8,f9,f10,f11⟩:=cd
    have em:ZjS K C1=bm:=by
     unfold ZjS
     rw [hl]
     show List.tail f3=bm
     have e2':f3=Value.ref C1 :: bm:=e2
     rw [e2']
     rfl
    rw [em]
    have e2':f3=Value.ref C1 :: bm:=e2
    have q3':f11=false:=by simpa using q3
    subst e2'
    subst q3'
    obtain ⟨l⟩:=sl
    have e3':l=[k0,k1,k2,k3,some (.builtin "ValueError.__new__"),k5]:=e3
    subst e3'
    exact ⟨hb,⟨f1,f5,f4,f2,f6,f7,f8,f9,f10,dd,k0,k1,k2,k3,k5,hl,q5,r6⟩,q4⟩
   ·cases hq
  ·cases hq
theorem XCls.at {K:PySem.W.Frag} {mg:Str→Option Value} {x:Str} {C:Addr} {bm:List Value} {h:Heap} (c:XCls K mg x C bm) (X:K.In h):∃ N nm q bs hdct sn sub ab col dd k0 k1 k2 k3 k5 mN,
  h.get? C=some (excClassObj nm q C N bs bm hdct sn sub ab col dd k0 k1 k2 k3 k5 "ValueError.__new__")∧h.Ns N mN∧mN "__init__" = none∧OwnTail h [.type "ValueError",.type "Exception",.type "BaseException",.type "object"] bm:=by
 obtain ⟨nm,q,N,bs,hdct,sn,sub,ab,col,dd,k0,k1,k2,k3,k5,hl,h1,h2⟩:=c.look
 exact ⟨N,nm,q,bs,hdct,sn,sub,ab,col,dd,k0,k1,k2,k3,k5,_,X _ _ hl,.of_isNs (PySem.W.isNs_of_in X h1),PySem.W.nsMap_none_of_in X h1 h2,PySem.W.tail_of_in X c.tail⟩
def CXx (P:Program) (w:World):CXT:=fun outer H s E e s'=>∃ (ea:Addr) (cls a0:Value) (H':Hp) (B:Heap),e = .ref ea∧s'.os=s.os∧AllBare s'.gens∧Un (frs outer) [] H H' s.heap s'.heap∧HOk P w H' s'.heap ∧
 Heap.FlyingW B outer ea cls a0 s'.heap∧(∀ b u,H' b=some u→∃ o,B.get? b=some o)∧(∀ b o,s.heap.get? b=some o→H b=none→b∉frs outer→B.get? b=some o) ∧
 (∀ b o,s.heap.get? b=some o→b∉frs outer→∃ o',B.get? b=some o')∧E cls none H'
theorem HOk.stays {P:Program} {w:World} {H:Hp} {h h' B:Heap} (x:HOk P w H h) (hB:∀ b u,H b=some u→∃ o,B.get? b=some o) (h1:B.StaysIn h) (h2:B.StaysIn h'):HOk P w H h':=fun a o e=>by
 have key:∀ b u,H b=some u→∀ v,h.get? b=some v→h'.get? b=some v:=fun b u q v hv=>by
  obtain ⟨o',ho⟩:=hB b u q
  have e1:=h1 b o' ho
  rw [hv] at e1
  cases e1
  exact h2 b v ho
 refine (x a o e).stay (fun b v hb q=>?_) (fun _ q=>q) fun _ _ q=>q
 rcases hb with z | z
 ·subst z
  exact key b o e v q
 ·exact key b _ z v q
theorem Zg5 {env:Env} {L:Addr} {l:List Env} (h:env.frame=some L):frs (env :: l)=L :: frs l:=by
 unfold frs
 rw [List.filterMap_cons,h]
theorem ObjOk.there {P:Program} {w:World} {H:Hp} {h:Heap} {a:Addr} {o:HO} (x:ObjOk P w H h a o):∃ u,h.get? a=some u:=by
 cases o with
 | lst xs=>obtain ⟨_,_,_,_,e⟩:=x; exact ⟨_,e⟩
 | tup xs=>obtain ⟨_,_,_,⟨_,e,_⟩,_⟩:=x; exact ⟨_,e⟩
 | dK kvs=>obtain ⟨_,_,_,_,o,_,_,e,_⟩:=x; exact ⟨_,e⟩
 | dT kvs=>obtain ⟨_,_,_,_,o,_,_,e,_⟩:=x; exact ⟨_,e⟩
 | set S n=>obtain ⟨o,_,_,_,e,_⟩:=x; exact ⟨_,e⟩
 | ins C dx fs=>obtain ⟨_,_,_,e,_⟩:=x; exact ⟨_,e⟩
 | own y=>exact x
 | xd fs=>obtain ⟨_,⟨_,_,_,e,_⟩,_⟩:=x; exact ⟨_,e⟩
 | rng lo hi=>obtain ⟨_,_,_,e⟩:=x; exact ⟨_,e⟩
 | frz ob u=>obtain ⟨e,_⟩:=x; exact ⟨_,e⟩
 | tbl ps=>exact ⟨_,show h.get? a=some _ from x⟩
 | met f y=>exact ⟨_,show h.get? a=some _ from x⟩
 | ext φ=>obtain ⟨_,e,_⟩:=x; exact e
structure Lv (X:Cx) (E:XK):Prop where
 ex:X.ex=[]
 stk:X.stack=X.env :: X.outer
 fr:X.env.frame=some X.env.locals
 xe:∀ e s',wpAny (model X.prog X.w) X.A (leaving X.env e) (fun _ s''=>CXx X.prog X.w X.outer X.H₀ X.s₀ E e s'') (fun e' s''=>CXx X.prog X.w X.outer X.H₀ X.s₀ E e' s'') s'→X.xe e s'
section
variable {X:Cx} {E:XK} {pins:List (Addr × Obj)} {σ:St} {H:Hp} {s:Shared}
theorem Lv.frs (L:Lv X E):frs X.stack=X.env.locals :: X.fs:=by rw [L.stk]; exact Zg5 L.fr
theorem Lv.old (L:Lv X E) (I:Inv X pins σ H s) {b:Addr} {o:Obj} (q:X.s₀.heap.get? b=some o) (hb:b∉X.fs):b∉L2.frs X.stack:=by
 rw [L.frs,List.mem_cons]
 rintro (z | z)
 ·exact absurd (Nat.lt_of_lt_of_le (Heap.lt_size q) (z ▸ I.ok.above)) (Nat.lt_irrefl _)
 ·exact hb z
theorem Lv.noex (L:Lv X E) (b:Addr):b∉X.ex:=by rw [L.ex]; simp
theorem Lv.raised (L:Lv X E) (I:Inv X pins σ H s) {h1:Heap} {e C:Addr} {args:List Value} (hx:Heap.MadeExcOf s.heap h1 e (.ref C) args) (hE:E (.ref C) none H):X.xe (.ref e) { s with heap:=h1 }:=by
 have hin:∀ env∈X.stack,∀ b,env.frame=some b→b∈L2.frs X.stack:=fun env he b hb=>List.mem_filterMap.mpr ⟨env,he,hb⟩
 have fB:s.heap.FunFrames (PySem.W.hideAll s.heap (L2.frs X.stack)) X.stack:=PySem.W.funFrames_hide I.stack hin
 have kB:∀ b o,s.heap.get? b=some o→b∉L2.frs X.stack→(PySem.W.hideAll s.heap (L2.frs X.stack)).get? b=some o:=fun b o q n=>PySem.W.hideAll_get _ q n
 rw [L.stk] at fB
 refine L.xe _ _ (wpAny_leaves_madeW (base:=PySem.W.hideAll s.heap (L2.frs X.stack)) (h:=s.heap) (by rw [← L.stk]; exact I.ok.frames) L.fr (fun b o q=>PySem.W.of_hideAll _ q) (by rw [L.stk]; exact fB) hx fun h2 t fl tup bt up=>?_)
 have c1:∀ b u,H b=some u→∃ o,(PySem.W.hideAll s.heap (L2.frs X.stack)).get? b=some o:=fun b u q=>by
  obtain ⟨o,ho⟩:=(I.hok b u q).there
  exact ⟨o,kB b o ho fun z=>by rw [I.stkFree b z] at q; cases q⟩
 have c2:∀ b o,X.s₀.heap.get? b=some o→X.H₀ b=none→b∉L2.frs X.outer→(PySem.W.hideAll s.heap (L2.frs X.stack)).get? b=some o:=fun b o q n hb=>kB b o (I.base.keep b o q n hb (L.noex b)) (L.old I q hb)
 have c3:∀ b o,X.s₀.heap.get? b=some o→b∉L2.frs X.outer→∃ o',(PySem.W.hideAll s.heap (L2.frs X.stack)).get? b=some o':=fun b o q hb=>by
  obtain ⟨o',q1⟩:=I.base.there b o q (L.noex b)
  exact ⟨o',kB b o' q1 (L.old I q hb)⟩
 have fr:∀ b∈L2.frs X.outer,∀ o,s.heap.get? b=some o→∃ sl,h2.get? b=some { o with slots:=sl }:=fun b hb o q=>by
  obtain ⟨_,o',ho,hd⟩:=I.stack.mem (b:=b) (by show b∈L2.frs X.stack; rw [L.frs]; exact List.mem_cons_of_mem _ hb)
  rw [q] at ho
  cases ho
  exact up b o (hx.keeps b o q) hd
 refine ⟨e,.ref C,.ref t,H,_,rfl,I.os,I.bare,⟨fun b o q n hb _=>fl.1 b o (c2 b o q n hb),fun b o q n hb _=>?_,fun b o q n _=>I.base.free b o q n (L.noex b),fun b o q _=>?_,I.base.tups,I.base.frzs,I.base.tbls⟩,
  I.hok.stays c1 (fun b o q=>PySem.W.of_hideAll _ q) fl.1,fl,c1,c2,c3,hE⟩
 ·obtain ⟨sl,q1⟩:=I.base.slot b o q n hb (L.noex b)
  obtain ⟨sl',q2⟩:=fr b hb _ q1
  exact ⟨sl',q2⟩
 ·by_cases hb:b∈L2.frs X.outer
  ·obtain ⟨o',q1⟩:=I.base.there b o q (L.noex b)
   obtain ⟨sl',q2⟩:=fr b hb _ q1
   exact ⟨_,q2⟩
  ·obtain ⟨o',q1⟩:=c3 b o q hb
   exact ⟨o',fl.1 b o' q1⟩
def Zi6 (E:XK) (C:Addr) (t:TA):TS:=fun D σ H=>t σ H fun vs H1=>vs.length≤sizeLine∧E (.ref C) none H1
theorem Zam {x:Str} {C:Addr} {bm:List Value} {e₀:Expr} {es:List Expr} {t:TA} {np cpos pos:Pos} (L:Lv X E) (c:XCls X.K X.mg x C bm) (hcalm:X.calm=true) (ha:PA X (e₀ :: es) t) (hg:Gl X x:=by rfl) (hd:(x == ("__debug__" : Str))=false:=by decide)
  (he:starEach (e₀ :: es) X.env=(false,eval e₀ X.env) :: starEach es X.env:=by rfl) (hpl:(backTo cpos (starEach es X.env)).any (·.1)=false:=by rfl) :
  PS X (.Raise (some (.Call (.Name x np) (e₀ :: es) [] cpos)) none pos) (Zi6 E C t):=by
 intro pins s σ H D I h
 obtain ⟨N,nm,q,bs,hdct,sn,sub,ab,col,dd,k0,k1,k2,k3,k5,mN,hC,hN,hni,T⟩:=c.at I.mod.kin
 have hpl':(backTo cpos (starEach (e₀ :: es) X.env)).any (·.1)=false:=by
  rw [he]
  exact hpl
 refine wpAny_Raise_call_subU (C:=C) (nm:=nm) (q:=q) (N:=N) (bs:=bs) (bm:=bm) (hdct:=hdct) (sn:=sn) (sub:=sub) (ab:=ab) (col:=col) (dd:=dd) (k0:=k0) (k1:=k1) (k2:=k2) (k3:=k3) (k5:=k5)
  PySem.F.excBase_ValueError (by decide) PySem.F.excBase_ValueError (mN:=mN) (T.hasType PySem.F.excBase_ValueError.hasBase) (I.ok.hd hcalm) hpl' hni (Zfl I hg c.bound ⟨rfl,?_⟩ hd)
 have hs:=ha cpos pins s σ H _ I h
 rw [he] at hs ⊢
 refine Calls.evalArgs_plain (wpAny_mono hs (fun us s2 ⟨vs,H2,I2,r,hl,hE⟩=>⟨rfl,?_,?_⟩) fun _ _ y=>y)
 ·rw [← r.length]
  exact hl
 ·obtain ⟨N',nm',q',bs',hdct',sn',sub',ab',col',dd',k0',k1',k2',k3',k5',mN',hC',_⟩:=c.at I2.kIn
  exact ⟨I2.bk _ _ hC,hN.keeps I2.bk,T.keeps I2.bk,fun h1 e hm=>L.raised I2 hm hE⟩
end
theorem Fun.okX {P:Program} {w:World} {K:PySem.W.Frag} {mg:Str→Option Value} {base:Heap} {x qual:Str} {st:Stmt} {f:Addr} {fd:FuncData} {N ps:List Str} {k:Nat} {sp:Sp} (F:Fun K x qual st f fd) (S:Zn N ps (Zf st)) (len:∀ vs H Q E,sp vs H Q E→vs.length=ps.length)
  (hbody:∀ (X:Cx) (vs:List V) (H:Hp) (Q:VK) (E:XK) (cdv:Value) (A:Around) (outer:List Env) (s:Shared),X=ZfI (CXx P w) P w K mg base N qual (Zf st) f cdv A outer s H E→Lv X E→Room k X.A→sp vs H Q E →
   ∃ t,PSs (ZfI (CXx P w) P w K mg base N qual (Zf st) f cdv A outer s H E) (Z9 st) t∧t { nx:=fun _ H'=>Q .non H',rt:=Q } (start N vs) H):FnOk P w K mg base (CXx P w) (k + 1) f fd ps sp:=by
 obtain ⟨oc,od,kV,doc,pm,an,cdv,ct,osl,rfl,lk,hcd⟩:=F.ex
 refine Zj5 lk hcd S len fun A outer s H vs Q E hr hsp=>?_
 exact hbody _ vs H Q E cdv A outer s rfl ⟨rfl,rfl,rfl,fun _ _ h=>h⟩ hr hsp
structure FOkX (P:Program) (w:World) (K:PySem.W.Frag) (mg:Str→Option Value) (base:Heap) (k:Nat) (name:Str) (ps:List Str) (sp:Sp):Prop where
 ex:∃ f fd,FnOk P w K mg base (CXx P w) k f fd ps sp∧Binds K fd ps []∧mg name=some (.ref f)∧PySem.W.keepIn K (.ref f)=true
theorem FOkX.mono {P:Program} {w:World} {K:PySem.W.Frag} {mg:Str→Option Value} {base:Heap} {name:Str} {ps:List Str} {j k:Nat} {sp:Sp} (G:FOkX P w K mg base j name ps sp) (h:j≤k):FOkX P w K mg base k name ps sp:=by
 obtain ⟨f,fd,F,r⟩:=G.ex
 exact ⟨f,fd,F.mono h,r⟩
theorem HasDef.okX {P:Program} {w:World} {K:PySem.W.Frag} {mg:Str→Option Value} {base:Heap} {name:Str} {st:Stmt} {N ps:List Str} {k:Nat} {sp:Sp} (D:HasDef K mg name st ps) (S:Zn N ps (Zf st)) (len:∀ vs H Q E,sp vs H Q E→vs.length=ps.length)
  (hbody:∀ (f:Addr) (cdv:Value) (A:Around) (outer:List Env) (s:Shared) (vs:List V) (H:Hp) (Q:VK) (E:XK),Lv (ZfI (CXx P w) P w K mg base N name (Zf st) f cdv A outer s H E) E→Room k (A.deeper (envOfC name (Zf st) s.heap.objs.size f cdv))→sp vs H Q E →
   ∃ t,PSs (ZfI (CXx P w) P w K mg base N name (Zf st) f cdv A outer s H E) (Z9 st) t∧t { nx:=fun _ H'=>Q .non H',rt:=Q } (start N vs) H):FOkX P w K mg base (k + 1) name ps sp:=by
 obtain ⟨f,fd,F,b,m⟩:=D.ex
 refine ⟨f,fd,F.okX S len fun X vs H Q E cdv A outer s e l r h=>?_,b,m,F.kp⟩
 subst e
 exact hbody f cdv A outer s vs H Q E l r h
section
variable {X:Cx} {pins:List (Addr × Obj)} {σ:St} {H:Hp} {s:Shared}
end
end L2
namespace L2
open PySem PySem.Spec PyProof.Rows PySem.W
section
variable {prog:Program} {w:World} {A:Around} {E:Value→Shared→Prop} {s:Shared} {K:Frag} {a C:Addr} {o:Obj}
end
end L2
namespace L2
open PySem PySem.Spec PyProof.Rows
theorem ZkR {X:Cx}:Zdr (CXx X.prog X.w) X E0:=fun _ _ _ _ _ _ _ h=>by
 obtain ⟨_,_,_,_,_,_,_,_,_,_,_,_,_,_,z⟩:=h
 exact z.elim
theorem JL {X:Cx} {k:Nat} {name:Str} {ps:List Str} {sp:Sp} {p pos:Pos} {e:Expr} {es:List Expr} {t:TA} (G:FOkX X.prog X.w X.K X.mg X.base k name ps sp) (hr:Room k X.A) (ha:PA X (e :: es) t) (hg:Gl X name:=by rfl)
  (hdb:(name == ("__debug__" : Str))=false:=by decide) (he:starEach (e :: es) X.env=(false,eval e X.env) :: starEach es X.env:=by rfl) (hpl:(backTo pos (starEach es X.env)).any (·.1)=false:=by rfl) :
  PE X (.Call (.Name name p) (e :: es) [] pos) (ZhZ sp [] E0 t):=by
 obtain ⟨f,fd,F,b,m,kp⟩:=G.ex
 exact ZeX F hr hg m kp b .nil ZkR ha hdb he hpl
theorem ZL {X:Cx}:MtR X "list.append" ZeN:=Zbl
theorem hasDef_mk {K:PySem.W.Frag} {h:Heap} {mg:Str→Option Value} {name:Str} {st:Stmt} {ps:List Str} {f:Addr} {oc:Value} {od an:Option Addr} {sl:Array (Option Value)} {kV dc pm cd ct:Value} (X:K.In h) (G:h.Ns mainGlobals mg)
  (a:PySem.W.nsIn K mainGlobals name=some (some (.ref f))) (l:K.lookup f=some ⟨oc,od,.func (PySem.W.fnOf name name (YQ st) (Z9 st) (Zf st) .none kV dc pm an cd ct),sl⟩) (c:PySem.W.codeIn K cd name=true) (k:PySem.W.keepIn K (.ref f)=true)
  (hb:∀ (kV doc pm:Value) (an:Option Addr) (cdv ct:Value) (us:List Value),us.length=ps.length→bindArgs (PySem.W.fnOf name name (YQ st) (Z9 st) (Zf st) .none kV doc pm an cdv ct) ⟨us,[]⟩=pure (ps.zip us)):HasDef K mg name st ps :=
 ⟨_,_,Zfz (st:=st) l c k,(Zfz (st:=st) l c k).binds hb,PySem.W.mg_of X G a⟩
abbrev Zli:List Value:=[.type "ValueError",.type "Exception",.type "BaseException",.type "object"]
theorem X9 {c:Bool} {A B:Prop} (h:c=true) (a:A):if c=true then A else B:=by rw [if_pos h]; exact a
theorem Xx {c:Bool} {A B:Prop} (h:c=false) (b:B):if c=true then A else B:=by rw [h]; exact Zi0 b
theorem Zbq {a b:Int} (h:¬ a=b):decide (V.int a=V.int b)=false:=decide_eq_false fun q=>h (by injection q)
theorem Zdb {a b:Int} (h:a=b):decide (V.int a=V.int b)=true:=decide_eq_true (congrArg V.int h)
theorem ZT {H H1:Hp} {p:Addr} {o:HO} (s:Same H H1) (hp:H p=none):Same H (upd H1 p o):=fun b o' e=>by
 rw [Zj (Zl e hp)]
 exact s b o' e
end L2
namespace L2
open PySem PySem.Spec PyProof.Rows PySem.Builtin.Str
theorem YE {x:Str} {i:Int} (h0:0≤i) (h1:i≤x.length):(Txt.slice x (some i) none).cps.toList=x.cps.toList.drop i.toNat:=by
 rw [eq_of_beq (slice_closes_fromL h0 h1 rfl)]
 simp [Str.length]
 exact List.take_of_length_le (by simp; omega)
end L2
namespace L2
open PySem PySem.Spec PyProof.Rows
end L2
namespace Sh
open PySem L2 PyProof.Rows
theorem Yo (a:Int) {n:Int} (h:0 < n):0≤a % n∧a % n < n:=⟨Int.emod_nonneg _ (by omega),Int.emod_lt_of_pos _ h⟩
theorem ZfT (a b:Str):(a ++ b).cps.toList=a.cps.toList ++ b.cps.toList:=by simp [Str.cps_append]
theorem ZR {a b:Str} (h:a.cps.toList=b.cps.toList):a=b:=by rw [← tx_eta a,← tx_eta b,h]
theorem YD (a b:List Nat):tx a ++ tx b=tx (a ++ b):=by
 apply ZR
 rw [ZfT,Zr,Zr,Zr]
theorem Zk8 (xs:List V) (h:xs.length≤63):Zha xs none (some 63)=xs:=by
 have e1:HT.sIx xs.length 0 none=0:=rfl
 have e2:HT.sIx xs.length xs.length (some 63)=xs.length:=by
  unfold HT.sIx
  simp
  omega
 unfold Zha
 rw [e1,e2]
 simp
theorem Zdo {xs:List V} {i:Nat} {v:V} (h:xs[i]?=some v):atI xs (i:Int)=some v:=ZcB h
theorem ZfS {z:List Nat} {i:Int} (h0:0≤i) (h1:i < z.length):atI (tx z).cps.toList i=some (z.getD i.toNat 0):=by
 refine ZaD h0 ?_
 rw [Zr,List.getD_eq_getElem?_getD,List.getElem?_eq_getElem (by omega)]
 rfl
theorem Zg {n:Nat} (h:n≤1000):n≤sizeLine:=YV (by omega)
theorem ZhU {α:Type} {vs:List V} {ns:List α} {f:α→V} (hl:vs.length=ns.length) (hr:∀ (i:Nat) (v:V),vs[i]?=some v→∀ c,ns[i]?=some c→v=f c):vs=ns.map f:=by
 apply List.ext_getElem?
 intro i
 by_cases hi:i < vs.length
 ·have hi':i < ns.length:=by omega
  rw [List.getElem?_eq_getElem hi,hr i _ (List.getElem?_eq_getElem hi) _ (List.getElem?_eq_getElem hi'),List.getElem?_map,List.getElem?_eq_getElem hi']
  rfl
 ·rw [List.getElem?_eq_none (by omega),List.getElem?_eq_none (by rw [List.length_map]; omega)]
theorem Zfy {α:Type} {ns:List α} {f:α→V} {i:Nat} (hi:i < ns.length):(ns.map f).getD i .non=f ns[i]:=by
 rw [List.getD_eq_getElem?_getD,List.getElem?_map,List.getElem?_eq_getElem hi]
 rfl
theorem Zec {α:Type} {ns:List α} {f:α→V} {i:Nat} {x:V} (hi:(ns.map f)[i]?=some x):∃ h:i < ns.length,x=f ns[i]:=by
 have h:i < ns.length:=by
  have:=(List.getElem?_eq_some_iff.mp hi).1
  rw [List.length_map] at this
  exact this
 rw [List.getElem?_map,List.getElem?_eq_getElem h] at hi
 exact ⟨h,(Option.some.inj hi).symm⟩
end Sh
namespace L2
open PySem PySem.Spec PyProof.Rows
def Zlh (_ j:Int):Prop:=j≠0∧j.natAbs < 2 ^ 4000
theorem ZgA {X:Cx}:OpR X (binaryOp .FloorDiv) (rI Zlh fun i j=>.int (i.fdiv j)):=opI fun _ j _ _ _ _ _ hc q=>floordiv_int hc.1 q (.inl (PyProof.noPylong_of_log2 (by
 have h0:j.natAbs≠0:=fun z=>hc.1 (by omega)
 have:=(Nat.log2_lt h0).mpr hc.2
 omega)))
end L2
namespace Sh
open PySem L2 PyProof.Rows
def bg (x:Str):Str:=tx x.cps.toList.dropLast
def en (x:Str):Str:=tx (x.cps.toList.drop 1)
abbrev Es:=List (Str × Int)
def ind (p:Prop) [Decidable p]:Int:=if p then 1 else 0
def mo1 (e:Str × Int) (P:Str):Int:=e.2 * ind (bg e.1=P) - e.2 * ind (en e.1=P)
def mo (es:Es) (P:Str):Int:=(es.map fun e=>mo1 e P).sum
theorem Zix (es:Es) (e:Str × Int) (P:Str):mo (es ++ [e]) P=mo es P + mo1 e P:=by
 unfold mo
 rw [List.map_append,List.sum_append]
 simp
theorem Zcl (e:Str × Int) (es:Es) (P:Str):mo (e :: es) P=mo1 e P + mo es P:=by
 unfold mo
 rw [List.map_cons,List.sum_cons]
theorem Zfi:∀ {es:Es} {P:Str},(∀ e∈es,bg e.1≠P∧en e.1≠P)→mo es P=0
 | [],_,_=>rfl
 | e :: es,P,h=>by
  rw [Zcl,Zfi fun x hx=>h x (List.mem_cons_of_mem _ hx)]
  obtain ⟨h1,h2⟩:=h e (List.mem_cons_self ..)
  unfold mo1 ind
  rw [if_neg h1,if_neg h2]
  simp
def ups (f:Str→Int) (ss:List Str):Es:=(ss.filter fun x=>decide (0 < f x)).map fun x=>(x,f x)
def sm (es:Es):Int:=(es.map fun e=>e.2).sum
theorem Zf6 (f:Str→Int) (x:Str) (ss:List Str):sm (ups f (x :: ss))=(if 0 < f x then f x else 0) + sm (ups f ss):=by
 unfold sm ups
 rw [List.filter_cons]
 by_cases c:0 < f x
 ·rw [if_pos c,if_pos (by simpa using c)]
  simp
 ·rw [if_neg c,if_neg (by simpa using c)]
  simp
theorem Zi3 {f:Str→Int} {b:Nat} (h:∀ x,(f x).natAbs≤b) (ss:List Str):∀ e∈ups f ss,0 < e.2∧e.2≤b:=fun e he=>by
 unfold ups at he
 obtain ⟨x,hx,rfl⟩:=List.mem_map.mp he
 have h1:=(List.mem_filter.mp hx).2
 have h2:=h x
 simp at h1
 constructor
 ·exact h1
 ·show f x≤b
  omega
theorem ZjT:∀ {es:Es} {b:Nat} (P:Str),(∀ e∈es,0≤e.2∧e.2≤b)→(mo es P).natAbs≤b * es.length
 | [],_,_,_=>by simp [mo]
 | e :: es,b,P,h=>by
  have ih:=ZjT (es:=es) P fun x hx=>h x (List.mem_cons_of_mem _ hx)
  obtain ⟨h1,h2⟩:=h e (List.mem_cons_self ..)
  rw [Zcl,List.length_cons,Nat.mul_add]
  have:(mo1 e P).natAbs≤b:=by
   unfold mo1 ind
   split <;> split <;> omega
  omega
def pcs (z:List Nat) (L:Nat):List Str:=(List.range (z.length - L + 1)).map fun i=>tx ((z.drop i).take L)
def Adj (es:Es) (P y:Str):Prop:=∃ e∈es,(bg e.1=P∧en e.1=y)∨(en e.1=P∧bg e.1=y)
inductive Rch (es:Es) (a:Str):Str→Prop where
 | here:Rch es a a
 | step {P y:Str} (h:Rch es a P) (k:Adj es P y):Rch es a y
theorem Rch.closed {es:Es} {a:Str} {F:Str→Prop} (ha:F a) (hc:∀ P,F P→∀ y,Adj es P y→F y) {y:Str} (h:Rch es a y):F y:=by
 induction h with
 | here=>exact ha
 | step _ k ih=>exact hc _ ih _ k
theorem Zhe {es:Es} {e:Str × Int} {P y:Str}:Adj (es ++ [e]) P y↔Adj es P y∨(bg e.1=P∧en e.1=y)∨(en e.1=P∧bg e.1=y):=by
 unfold Adj
 constructor
 ·rintro ⟨x,hx,q⟩
  rcases List.mem_append.mp hx with z | z
  ·exact .inl ⟨x,z,q⟩
  ·rw [List.mem_singleton.mp z] at q
   exact .inr q
 ·rintro (⟨x,hx,q⟩ | q)
  ·exact ⟨x,List.mem_append_left _ hx,q⟩
  ·exact ⟨e,by simp,q⟩
end Sh
namespace Tim
open PySem PySem.W PyProof.Rows
section
variable {M:Model} {A:Around} {E:Value→Shared→Prop} {σ:Type}
end
section
variable {prog:Program} {w:World} {A:Around} {E:Value→Shared→Prop}
variable {κ:SortKind} {ϕ:Keyed→Nat} {U:Keyed→Prop} {G:Shared→Prop}
end
end Tim
namespace Tim
open PySem PySem.W PyProof.Rows
section
variable {ϕ:Keyed→Nat} {T o X Y x y:List Keyed}
end
section
variable {prog:Program} {w:World} {A:Around} {E:Value→Shared→Prop} {κ:SortKind} {ϕ:Keyed→Nat} {U:Keyed→Prop} {G:Shared→Prop}
end
end Tim
namespace Tim
open PySem PySem.W PyProof.Rows
section
variable {ϕ:Keyed→Nat} {T O X Y x y:List Keyed}
end
section
variable {prog:Program} {w:World} {A:Around} {E:Value→Shared→Prop} {κ:SortKind} {ϕ:Keyed→Nat} {U:Keyed→Prop} {G:Shared→Prop}
end
end Tim
namespace Tim
open PySem PySem.W PyProof.Rows
section
variable {prog:Program} {w:World} {A:Around} {E:Value→Shared→Prop} {κ:SortKind} {ϕ:Keyed→Nat} {U:Keyed→Prop} {G:Shared→Prop}
end
end Tim
namespace Tim
open PySem PySem.W PyProof.Rows
section
variable {ϕ:Keyed→Nat}
end
section
variable {prog:Program} {w:World} {A:Around} {E:Value→Shared→Prop} {κ:SortKind} {ϕ:Keyed→Nat} {U:Keyed→Prop} {G:Shared→Prop}
end
end Tim
namespace Tim
open PySem PySem.W PyProof.Rows
section
variable {prog:Program} {w:World} {A:Around} {E:Value→Shared→Prop} {κ:SortKind} {ϕ:Keyed→Nat} {U:Keyed→Prop} {G:Shared→Prop}
end
end Tim
namespace Tim
open PySem PySem.W PyProof.Rows
structure WO (n:Nat) (lt:Nat→Nat→Bool):Prop where
 irr:∀ i,i < n→lt i i=false
 tr:∀ i j k,i < n→j < n→k < n→lt i j=true→lt j k=true→lt i k=true
 ntr:∀ i j k,i < n→j < n→k < n→lt k j=true→lt k i=true∨lt i j=true
section
variable {prog:Program} {w:World} {A:Around} {E:Value→Shared→Prop} {s:Shared}
end
end Tim
namespace Tim
open PySem PySem.W PyProof.Rows
structure Zkl (prog:Program) (w:World) (h1:Heap) (vs:List Value) (lt:Nat→Nat→Bool) (κ:SortKind):Prop where
 wo:WO vs.length lt
 same:∀ i j,i < vs.length→vs[i]?=vs[j]?→∀ k,lt k i=lt k j
 kd:∀ (A:Around) (E:Value→Shared→Prop) (s:Shared) (Q:SortKind→Shared→Prop),(∀ b o,h1.get? b=some o→s.heap.get? b=some o)→2≤vs.length→Q κ s→wpAny (model prog w) A (keyKind' vs.toArray) Q E s
 ask:∀ (A:Around) (s:Shared) (i j:Nat) (x y:Value) (C:Bool→Shared→Prop),(∀ b o,h1.get? b=some o→s.heap.get? b=some o)→vs[i]?=some x→vs[j]?=some y→(∀ tk,C (lt i j) { s with toks:=tk })→wpAny (model prog w) A (keyLt' κ x y) C (fun _ _=>False) s
section
variable {prog:Program} {w:World} {A:Around} {E:Value→Shared→Prop} {s:Shared}
def ltS (xs:List Str) (i j:Nat):Bool:=decide ((xs.getD i "").cps.toList < (xs.getD j "").cps.toList)
theorem ZjU (xs:List Str) (n:Nat):WO n (ltS xs) where
 irr:=fun i _=>by
  unfold ltS
  exact decide_eq_false (List.lt_irrefl _)
 tr:=fun i j k _ _ _ h1 h2=>by
  unfold ltS at *
  rw [decide_eq_true_eq] at *
  exact List.lt_trans h1 h2
 ntr:=fun i j k _ _ _ h=>by
  unfold ltS at *
  rw [decide_eq_true_eq] at h
  rw [decide_eq_true_eq,decide_eq_true_eq]
  by_cases c:(xs.getD k "").cps.toList < (xs.getD i "").cps.toList
  ·exact .inl c
  ·exact .inr (List.lt_of_le_of_lt (List.not_lt.mp c) h)
theorem strs_at:∀ {vs:List Value} {xs:List Str},StrsAre vs xs→∀ (i:Nat) (v:Value),vs[i]?=some v→∃ t,v = .str (xs.getD i "") t∧xs[i]?=some (xs.getD i "")
 | _,_,.nil,i,v,h=>by simp at h
 | _,_,.cons y t r,0,v,h=>by
  simp at h
  exact ⟨t,by rw [← h]; rfl,rfl⟩
 | _,_,.cons y t r,i + 1,v,h=>by
  obtain ⟨t',e1,e2⟩:=strs_at r i v (by simpa using h)
  exact ⟨t',by rw [e1]; rfl,by simpa using e2⟩
theorem strs_len:∀ {vs:List Value} {xs:List Str},StrsAre vs xs→vs.length=xs.length
 | _,_,.nil=>rfl
 | _,_,.cons y t r=>by simp [strs_len r]
def PrI (h:Heap) (v:Value) (x:Str):Prop:=∃ a o n t y,v = .ref a∧h.get? a=some o∧o.cls = .type "tuple"∧o.data = .seq #[.str x t,y] n
theorem PrI.keep {h h':Heap} {v:Value} {x:Str} (p:PrI h v x) (k:∀ b o,h.get? b=some o→h'.get? b=some o):PrI h' v x:=by
 obtain ⟨a,o,n,t,y,e,e1,e2⟩:=p
 exact ⟨a,o,n,t,y,e,k a o e1,e2⟩
theorem Zfr {h:Heap}:∀ {vs:List Value} {xs:List Str},xs.length=vs.length→(∀ (i:Nat) (v:Value) (x:Str),vs[i]?=some v→xs[i]?=some x→PrI h v x)→∃ fs,KatTups h vs fs∧fs.length=vs.length∧∀ f∈fs,∃ x t,f = .str x t
 | [],[],_,_=>⟨[],trivial,rfl,fun f hf=>nomatch hf⟩
 | [],_ :: _,h,_=>by cases h
 | _ :: _,[],h,_=>by cases h
 | v :: vs,x :: xs,hl,hv=>by
  obtain ⟨a,o,n,t,y,rfl,ha,hc,hd⟩:=hv 0 v x rfl rfl
  obtain ⟨fs,k,l,q⟩:=Zfr (vs:=vs) (xs:=xs) (by simpa using hl) fun i v x e1 e2=>hv (i + 1) v x e1 e2
  refine ⟨.str x t :: fs,KatTups.cons ha hc hd rfl k,by simp [l],fun f hf=>?_⟩
  rcases List.mem_cons.mp hf with z | z
  ·exact ⟨x,t,z⟩
  ·exact q f z
theorem lt_ne {x y:Str} (h:¬ x.cps.toList < y.cps.toList) (h2:¬ x=y):y.cps.toList < x.cps.toList:=by
 by_cases c:y.cps.toList < x.cps.toList
 ·exact c
 ·have e:=List.le_antisymm (List.not_lt.mp c) (List.not_lt.mp h)
  exact absurd (by rw [← L2.tx_eta x,← L2.tx_eta y,e]) h2
theorem ZfC {v:Value} {Q:Bool→Shared→Prop} (h:Q true s):wpAny (model prog w) A (eqBool v v) Q E s:=by
 unfold eqBool
 refine wpAny_holding ?_
 rw [if_pos (by simp)]
 exact wpAny_bind (wpAny_rule (wpAny_pure h))
theorem sa_tups {h1:Heap} {vs:List Value} {xs:List Str} (hl:xs.length=vs.length) (nd:xs.Nodup) (hv:∀ (i:Nat) (v:Value) (x:Str),vs[i]?=some v→xs[i]?=some x→PrI h1 v x):Zkl prog w h1 vs (ltS xs) (tuples' ((Value.type "str") != Value.type "tuple")) where
 wo:=ZjU xs _
 same:=fun i j hi e k=>by
  have hj:vs[j]?=some vs[i]:=by rw [← e]; exact List.getElem?_eq_getElem hi
  have hj2:j < vs.length:=(List.getElem?_eq_some_iff.mp hj).1
  obtain ⟨a,o,n,t,y,e1,e2,e3,e4⟩:=hv i vs[i] xs[i] (List.getElem?_eq_getElem hi) (List.getElem?_eq_getElem (by omega))
  obtain ⟨a',o',n',t',y',e1',e2',e3',e4'⟩:=hv j vs[i] xs[j] hj (List.getElem?_eq_getElem (by omega))
  rw [e1] at e1'
  cases e1'
  rw [e2] at e2'
  cases e2'
  rw [e4] at e4'
  have ex:xs[i]=xs[j]:=by
   injection e4' with z1 _
   have:=congrArg (fun a:Array Value=>a[0]?) z1
   simp at this
   exact this.1
  unfold ltS
  rw [List.getD_eq_getElem?_getD,List.getD_eq_getElem?_getD,List.getD_eq_getElem?_getD,List.getElem?_eq_getElem (show i < xs.length by omega),List.getElem?_eq_getElem (show j < xs.length by omega),ex]
 kd:=fun A E s Q k h2 q=>by
  obtain ⟨fs,kt,lf,hf⟩:=Zfr (h:=s.heap) hl fun i v x e1 e2=>(hv i v x e1 e2).keep k
  refine kat_kind (T:=.type "str") kt (by omega) (fun f m=>?_) (by decide) q
  obtain ⟨x,t,rfl⟩:=hf f m
  exact Looks.of_pure rfl
 ask:=fun A s i j x y C k e1 e2 q=>by
  have hi:i < vs.length:=(List.getElem?_eq_some_iff.mp e1).1
  have hj:j < vs.length:=(List.getElem?_eq_some_iff.mp e2).1
  obtain ⟨a1,o1,n1,t1,y1,rfl,g1,c1,d1⟩:=(hv i x xs[i] e1 (List.getElem?_eq_getElem (by omega))).keep k
  obtain ⟨a2,o2,n2,t2,y2,rfl,g2,c2,d2⟩:=(hv j y xs[j] e2 (List.getElem?_eq_getElem (by omega))).keep k
  have el:ltS xs i j=decide (xs[i].cps.toList < xs[j].cps.toList):=by
   unfold ltS
   rw [List.getD_eq_getElem?_getD,List.getD_eq_getElem?_getD,List.getElem?_eq_getElem (show i < xs.length by omega),List.getElem?_eq_getElem (show j < xs.length by omega)]
   rfl
  by_cases hij:i=j
  ·subst hij
   rw [e1] at e2
   cases e2
   rw [g1] at g2
   cases g2
   rw [el] at q
   rw [decide_eq_false (List.lt_irrefl _)] at q
   refine kat_lt g1 d1 g1 d1 ?_
   refine kat_cons (ZfC (kat_yes (kat_cons (ZfC (kat_yes (kat_nil ?_))))))
   exact q s.toks
  have hne:¬ xs[i]=xs[j]:=fun z=>hij ((List.getElem_inj nd).mp z)
  refine kat_lt g1 d1 g2 d2 (kat_cons (wpAny_eqBool_str ?_))
  rw [decide_eq_false hne]
  refine kat_no (kas_lt_str ?_)
  rw [← el]
  exact q s.toks
end
end Tim
namespace L2
open PySem PySem.Spec PyProof.Rows PySem.W
section
variable {prog:Program} {w:World} {A:Around} {E:Value→Shared→Prop} {s:Shared}
theorem XQ {n:Nat} (h:n≤1000):n≤sizeLine:=by rw [sizeLine_eq]; omega
theorem Zjr {xs:List Str} {n:Nat} {p:Array Nat} (hl:xs.length=n) (nd:xs.Nodup) (hp:Srt.Pm n p) (h:∀ i j,i < j→j < n→Tim.ltS xs (p.getD j 0) (p.getD i 0)=false):Srt.Up (ltX xs) p n:=fun i j hij hj=>by
 have h1:=h i j hij hj
 have bi:=hp.below (show i < n by omega)
 have bj:=hp.below hj
 have ne:=hp.ne (show i < n by omega) hj (by omega)
 unfold Tim.ltS at h1
 unfold ltX
 rw [decide_eq_false_iff_not] at h1
 rw [decide_eq_true_eq]
 refine Tim.lt_ne h1 fun e=>ne ?_
 rw [YB (by omega),YB (by omega)] at e
 exact ((List.getElem_inj nd).mp e).symm
end
theorem Zb9 {X:Cx} {pins:List (Addr × Obj)} {σ:St} {H:Hp} {s:Shared} {h3:Heap} {tk:Nat} {D:Addr} {vs:List V} (I:Inv X pins σ H s) (k:∀ b u,s.heap.get? b=some u→h3.get? b=some u) (hD:s.heap.get? D=none) (hz:vs.length≤sizeLine)
  (ho:∃ (its:List Value) (n:Nat),Vals vs its∧h3.get? D=some { cls:=.type "list",data:=.seq its.toArray n }):H D=none∧Inv X pins σ (upd H D (.lst vs)) { s with heap:=h3,toks:=tk }:=by
 have hn:H D=none:=by
  cases e:H D with
  | none=>rfl
  | some u =>
   obtain ⟨v,hv⟩:=(I.hok D u e).there'
   rw [hD] at hv
   cases hv
 refine ⟨hn,?_⟩
 have:=I.laidN (N:=fun b=>if b=D then some (.lst vs) else none) (tk:=tk) k fun a o e=>by
  by_cases c:a=D
  ·subst c
   rw [if_pos rfl] at e
   cases e
   exact ⟨hD,fun H2=>⟨hz,ho⟩⟩
  ·rw [if_neg c] at e
   cases e
 have e:(fun b=>(if b=D then some (HO.lst vs) else none).or (H b))=upd H D (.lst vs):=by
  funext b
  by_cases c:b=D
  ·subst c
   rw [if_pos rfl,Option.some_or,Zc]
  ·rw [if_neg c,Option.none_or,Zj c]
 rw [e] at this
 exact this
theorem XF {α:Type} {d:α} (ks:List α) (p:Array Nat) (hp:Srt.Pm ks.length p):(p.toList.map fun i=>ks.getD i d).Perm ks:=by
 have h1:=(Array.perm_iff_toList_perm.mp hp.perm).map fun i=>ks.getD i d
 have h2:((List.range ks.length).toArray.toList.map fun i=>ks.getD i d)=ks:=by
  apply List.ext_getElem?
  intro i
  simp only [List.getElem?_map]
  by_cases hi:i < ks.length
  ·rw [List.getElem?_range hi,List.getElem?_eq_getElem hi,Option.map_some,List.getD_eq_getElem?_getD,List.getElem?_eq_getElem hi]
   rfl
  ·rw [List.getElem?_eq_none (by simp; omega),List.getElem?_eq_none (by omega)]
   rfl
 rw [h2] at h1
 exact h1
theorem ZdB {n:Nat} {p:Array Nat} (hp:Srt.Pm n p) {i:Nat} (hi:i < p.toList.length):p.getD i 0=p.toList[i]:=by
 rw [Array.getD_eq_getD_getElem?,Array.getElem?_eq_getElem (by simpa using hi)]
 simp
theorem Zje {xs:List Str} {p:Array Nat} (hp:Srt.Pm xs.length p) (h:∀ i j,i < j→j < xs.length→Tim.ltS xs (p.getD j 0) (p.getD i 0)=false):((p.toList.map fun i=>xs.getD i "").map fun x=>x.cps.toList).Pairwise (·≤·):=by
 rw [List.map_map,List.pairwise_map,List.pairwise_iff_getElem]
 intro i j hi hj hij
 have hz:p.toList.length=xs.length:=by rw [Array.length_toList,hp.size]
 have hu:=h i j hij (by omega)
 unfold Tim.ltS at hu
 rw [decide_eq_false_iff_not,ZdB hp hi,ZdB hp hj] at hu
 exact List.not_lt.mp hu
theorem ZeZ:∀ {ks:List Str} {g:Str→V} {vs:List (Key × Value)},KV (ks.map fun x=>((Sum.inr x:Key),g x)) vs→∀ (i:Nat) (k:Key) (x:Value),vs[i]?=some (k,x)→k=Sum.inr (ks.getD i "")∧i < ks.length:=by
 intro ks g vs kv i k x e
 have ek:=congrArg (fun l:List Key=>l[i]?) kv.keys
 simp only [List.getElem?_map] at ek
 rw [e] at ek
 cases z:ks[i]? with
 | none=>rw [z] at ek; cases ek
 | some y =>
  rw [z] at ek
  refine ⟨?_,(List.getElem?_eq_some_iff.mp z).1⟩
  rw [List.getD_eq_getElem?_getD,z]
  exact (Option.some.inj ek).symm
end L2
namespace L2
open PySem PySem.Spec PyProof.Rows
theorem ZeJ {t t':SetTable} {hs:Array Int} {n:Nat} {od:Array Nat} (h:t.relaid hs n=some (t',od)):t'.led=t.led∧t'.plain=t.plain:=by
 unfold SetTable.relaid SetTable.laid at h
 cases e:SetTable.layClean (SetTable.sizeAbove n - 1) hs with
 | none=>rw [e] at h; cases h
 | some ow =>
  rw [e] at h
  obtain ⟨h1,_⟩:=Prod.mk.inj (Option.some.inj h)
  rw [← h1]
  exact ⟨rfl,rfl⟩
theorem Zgq (t:SetTable) (es:Array (Int × Value)) (n:Nat):(relayAll t es n).2.1.led=t.led∧(t.plain=false→(relayAll t es n).2.1.plain=false):=by
 unfold relayAll
 split
 ·rename_i t' od e
  obtain ⟨e1,e2⟩:=ZeJ e
  dsimp only
  split
  ·exact ⟨e1,fun h=>by rw [e2]; exact h⟩
  ·exact ⟨rfl,fun _=>rfl⟩
 ·exact ⟨rfl,fun _=>rfl⟩
theorem ZjX (t:SetTable) (es:Array (Int × Value)) (hh:Int) (x:Value):(layNew t es hh x).2.1.led=t.led∧(t.plain=false→(layNew t es hh x).2.1.plain=false):=by
 unfold layNew
 split
 ·dsimp only
  unfold SetTable.orStandIn
  split
  ·exact ⟨rfl,fun h=>h⟩
  ·exact ⟨rfl,fun _=>rfl⟩
 ·exact ⟨rfl,fun _=>rfl⟩
def byT (w:World):Bool:=w.params.followText "set-order"
structure StT (prog:Program) (w:World) (h:Heap) (a:Addr) (ks:List Str) (o:Obj) (es:Array (Int × Value)) (ep:Nat) (t:SetTable):Prop where
 ob:h.get? a=some o
 ex:o.ExactSet
 dt:o.data = .set es ep t
 el:ElemsOf (Zp prog w) es.toList
 mem:∀ k:Key,(∃ x,k=Sum.inr x∧x∈ks)↔∃ e∈es.toList,(Zp prog w).is k e.2=true
 len:es.size=ks.length
 nd:ks.Nodup
 fits:t.fits es.size=true
 led:t.led = !byT w
 plain:ks≠[]→t.plain=false
def SetT (prog:Program) (w:World) (h:Heap) (a:Addr) (ks:List Str):Prop:=∃ o es ep t,StT prog w h a ks o es ep t
section
variable {prog:Program} {w:World} {A:Around} {E:Value→Shared→Prop} {s:Shared}
theorem SetT.keep {h h':Heap} {a:Addr} {ks:List Str} (x:SetT prog w h a ks) (k:∀ o,h.get? a=some o→h'.get? a=some o):SetT prog w h' a ks:=by
 obtain ⟨o,es,ep,t,q⟩:=x
 exact ⟨o,es,ep,t,{ q with ob:=k o q.ob }⟩
def ZdW (ks:List Str) (x:Str):List Str:=if x∈ks then ks else ks ++ [x]
theorem addS_mem {ks:List Str} {x y:Str}:y∈ZdW ks x↔y∈ks∨y=x:=by
 unfold ZdW
 split
 ·rename_i c
  exact ⟨.inl,fun h=>h.elim id fun e=>e ▸ c⟩
 ·simp
theorem ZiU {ks:List Str} {x:Str} (h:ks.Nodup):(ZdW ks x).Nodup:=by
 unfold ZdW
 split
 ·exact h
 ·rename_i c
  exact List.nodup_append.mpr ⟨h,by simp,fun a ha b hb e=>by rw [List.mem_singleton.mp hb] at e; subst e; exact c ha⟩
theorem Zhf (ks:List Str) (x:Str):(ZdW ks x).length≤ks.length + 1:=by
 unfold ZdW
 split <;> simp
theorem ZcL {h:Heap} {a:Addr} {o:Obj} {es es':Array (Int × Value)} {ep:Nat} {t t':SetTable} (ho:h.get? a=some o) (hd:o.data = .set es ep t):(h.update a (Obj.putSet es' t')).get? a=some { o with data:=.set es' (ep + 1) t' }:=by
 have:=Heap.get?_update_self (Obj.putSet es' t') ho (by rw [putSet_of es' t' hd]; rfl)
 rw [putSet_of es' t' hd] at this
 exact this
theorem ZcJ {gg:Bool→Sem Unit} (hgg:∀ (b:Bool) (s₁:Shared) (Q':Unit→Shared→Prop),Q' () s₁→wpAny (model prog w) A (gg b) Q' E s₁) {a:Addr} {o:Obj} {es es1:Array (Int × Value)} {ep:Nat} {t t2:SetTable} {ks:List Str} (ho:s.heap.get? a=some o) (hd:o.data = .set es ep t)
  (S:∀ (h:Heap) (ob:Obj) (ep1:Nat) (es2:Array (Int × Value)) (t3:SetTable),h.get? a=some ob→ob.ExactSet→ob.data = .set es2 ep1 t3→List.Perm es2.toList es1.toList→t3.fits es2.size=true→t3.led=t2.led→(t2.plain=false→t3.plain=false)→SetT prog w h a ks) (hx:o.ExactSet) (hb:es1.size < scanBound) (hf:t2.fits es1.size=true) {wd:Bool} {R:Option Bool→Shared→Prop}
  (q:∀ h1,Heap.SameBut a s.heap h1→SetT prog w h1 a ks→R (some true) { s with heap:=h1 }) :
  wpAny (model prog w) A (do
    storeSet a es1 t2
    if (!wd && t2.tooFull)=true then do
      gg (relayAll t2 es1 (SetTable.grown es1.size)).2.2
      storeSet a (relayAll t2 es1 (SetTable.grown es1.size)).1 (relayAll t2 es1 (SetTable.grown es1.size)).2.1
      pure (some true)
     else pure (some true)) R E s:=by
 refine wpAny_bind (wpAny_storeSet_of ho hd ?_ (fits_of_scanBound hb))
 have o1:=ZcL (es':=es1) (t':=t2) ho hd
 have m1:=Heap.SameBut.update s.heap a (Obj.putSet es1 t2)
 split
 ·have p:=relayAll_perm t2 es1 (SetTable.grown es1.size)
  have f:=relayAll_fits t2 es1 (SetTable.grown es1.size)
  obtain ⟨l1,l2⟩:=Zgq t2 es1 (SetTable.grown es1.size)
  generalize relayAll t2 es1 (SetTable.grown es1.size)=rl at p f l1 l2 ⊢
  have sz:rl.1.size=es1.size:=by rw [← Array.length_toList,p.length_eq,Array.length_toList]
  refine wpAny_bind (hgg _ _ _ (wpAny_bind (wpAny_storeSet_of o1 rfl ?_ (fits_of_scanBound (by rw [sz]; exact hb)))))
  exact wpAny_pure (q _ (m1.trans (Heap.SameBut.update _ a _)) (S _ _ _ rl.1 rl.2.1 (ZcL o1 rfl) hx rfl p f l1 l2))
 ·exact wpAny_pure (q _ m1 (S _ _ _ es1 t2 o1 hx rfl (List.Perm.refl _) hf rfl fun z=>z))
theorem Zh7 {a:Addr} {ks:List Str} {x:Str} {tk:Tok} {Q:Bool→Shared→Prop} (hS:SetT prog w s.heap a ks) (hroom:ks.length + 1 < scanBound)
  (q:∀ (r:Bool) (h1:Heap),Heap.SameBut a s.heap h1→SetT prog w h1 a (ZdW ks x)→Q r { s with heap:=h1 }):wpAny (model prog w) A (setAddHashed a (.str x tk) ((Zp prog w).hash (Sum.inr x))) Q E s:=by
 obtain ⟨o,es,ep,t,T⟩:=hS
 have hkey:(Zp prog w).is (Sum.inr x:Key) (.str x tk)=true:=Xe prog w x tk
 have hb:es.size < scanBound:=by rw [T.len]; omega
 unfold setAddHashed setAddHashedIn
 refine wpAny_holding (wpAny_bind (wpAny_setState_of T.ob T.dt T.fits ?_))
 dsimp only
 rw [byScan_of (knd:=Zp prog w) rfl hb T.el]
 simp only [↓reduceIte]
 unfold setAddByScan
 refine wpAny_bind (wpAny_bind (wpAny_rule (wpAny_bind (wpAny_setScan_of hkey T.ob T.dt T.fits T.el ?_))))
 cases hr:List.findIdx? (fun e=>(Zp prog w).is (Sum.inr x:Key) e.2) es.toList with
 | some j =>
  dsimp only
  obtain ⟨hj,hpj,_⟩:=List.findIdx?_eq_some_iff_getElem.mp hr
  obtain ⟨y,ey,hy⟩:=(T.mem (Sum.inr x)).mpr ⟨es.toList[j],List.getElem_mem hj,hpj⟩
  cases ey
  refine wpAny_pure (wpAny_pure ?_)
  have es0:s={ s with heap:=s.heap }:=by cases s; rfl
  rw [es0]
  refine q _ s.heap (Heap.SameBut.refl a s.heap) ?_
  unfold ZdW
  rw [if_pos hy]
  exact ⟨o,es,ep,t,T⟩
 | none =>
  dsimp only
  have hx:x∉ks:=fun hx=>by
   obtain ⟨e,he,hp⟩:=(T.mem (Sum.inr x)).mp ⟨x,rfl,hx⟩
   have:=List.findIdx?_eq_none_iff.mp hr e he
   rw [hp] at this
   cases this
  have perm:=layNew_perm t es ((Zp prog w).hash (Sum.inr x)) (.str x tk)
  have fit:=layNew_fits t es ((Zp prog w).hash (Sum.inr x)) (.str x tk)
  obtain ⟨l1,l2⟩:=ZjX t es ((Zp prog w).hash (Sum.inr x)) (.str x tk)
  generalize layNew t es ((Zp prog w).hash (Sum.inr x)) (.str x tk)=L at perm fit l1 l2 ⊢
  obtain ⟨es1,t1,wd,gave⟩:=L
  dsimp only at perm fit l1 l2 ⊢
  rw [Array.toList_push] at perm
  have sz1:es1.size=ks.length + 1:=by rw [← Array.length_toList,perm.length_eq,List.length_append,Array.length_toList,T.len]; rfl
  refine wpAny_bind ?_
  have hgw:∀ (b:Bool) (s₁:Shared) (Q':Unit→Shared→Prop),Q' () s₁→wpAny (model prog w) A (match b with | true=>rule "set.scan.the-table-gave-way" | false=>pure ()) Q' E s₁:=fun b s₁ Q' hq=>by cases b <;> first | exact wpAny_pure hq | exact wpAny_rule hq
  refine hgw gave _ _ ?_
  have mk:∀ (t2:SetTable),t2.led=t1.led→t2.plain=false→∀ (h:Heap) (ob:Obj) (ep1:Nat) (es2:Array (Int × Value)) (t3:SetTable),h.get? a=some ob→ob.ExactSet→ob.data = .set es2 ep1 t3→List.Perm es2.toList es1.toList→t3.fits es2.size=true→t3.led=t2.led→(t2.plain=false→t3.plain=false)→SetT prog w h a (ZdW ks x):=by
   intro t2 e1 e2 h ob ep1 es2 t3 c1 c2 c3 c4 c5 c6 c7
   have pp:=c4.trans perm
   refine ⟨ob,es2,ep1,t3,c1,c2,c3,(T.el.push hkey rfl).perm pp,fun k=>?_,?_,ZiU T.nd,c5,by rw [c6,e1,l1,T.led],fun _=>c7 e2⟩
   ·constructor
    ·rintro ⟨y,rfl,hy⟩
     rcases addS_mem.mp hy with z | z
     ·obtain ⟨e,he,hp⟩:=(T.mem (Sum.inr y)).mp ⟨y,rfl,z⟩
      exact ⟨e,pp.mem_iff.mpr (List.mem_append_left _ he),hp⟩
     ·subst z
      exact ⟨_,pp.mem_iff.mpr (List.mem_append_right _ (List.mem_singleton.mpr rfl)),hkey⟩
    ·rintro ⟨e,he,hp⟩
     rcases List.mem_append.mp (pp.mem_iff.mp he) with z | z
     ·obtain ⟨y,ey,hy⟩:=(T.mem k).mpr ⟨e,z,hp⟩
      exact ⟨y,ey,addS_mem.mpr (.inl hy)⟩
     ·rw [List.mem_singleton.mp z] at hp
      exact ⟨x,(Zp prog w).inj _ _ _ hp hkey,addS_mem.mpr (.inr rfl)⟩
   ·rw [← Array.length_toList,c4.length_eq,Array.length_toList,sz1]
    unfold ZdW
    rw [if_neg hx,List.length_append]
    rfl
  split
  ·refine wpAny_bind ?_
   rw [hashByValue_scannable 8 (x:=.str x tk) rfl]
   refine wpAny_pure ?_
   refine ZcJ (t2:=if plainKind (.str x tk)=true then t1 else { t1 with plain:=false }) hgw T.ob T.dt (mk _ rfl rfl) T.ex (by rw [sz1]; exact hroom) (SetTable.fits_plain_off fit) fun h1 m hS'=>?_
   exact wpAny_pure (q _ h1 m hS')
  ·rename_i hpl
   refine wpAny_bind (wpAny_pure ?_)
   simp only [↓reduceIte]
   refine ZcJ hgw T.ob T.dt (mk t1 rfl (by simpa using hpl)) T.ex (by rw [sz1]; exact hroom) fit fun h1 m hS'=>?_
   exact wpAny_pure (q _ h1 m hS')
end
def met (val:Nat→Str):Nat→List Str
 | 0=>[]
 | i + 1=>ZdW (met val i) (val i)
theorem Zco (val:Nat→Str):∀ i,(met val i).length≤i
 | 0=>Nat.le_refl _
 | i + 1=>by
  have:=Zhf (met val i) (val i)
  have:=Zco val i
  show (ZdW _ _).length≤_
  omega
theorem Zcn (val:Nat→Str):∀ i x,x∈met val i↔∃ j,j < i∧val j=x
 | 0,x=>by simp [met]
 | i + 1,x=>by
  show x∈ZdW _ _↔_
  rw [addS_mem,Zcn val i x]
  constructor
  ·rintro (⟨j,hj,e⟩ | e)
   ·exact ⟨j,by omega,e⟩
   ·exact ⟨i,by omega,e.symm⟩
  ·rintro ⟨j,hj,e⟩
   by_cases c:j=i
   ·subst c; exact .inr e.symm
   ·exact .inl ⟨j,by omega,e⟩
section
variable {prog:Program} {w:World} {A:Around} {R:Result→Shared→Prop} {J:Addr} {fp wr:List Addr} {G:Array GenState→Array GenState→Prop} {n:Nat} {P:Nat→Value→Prop} {St:Nat→Shared→Prop}
theorem Zd2 (W:WalksS prog w A.in1 J fp wr G n P St) (S:Addr) (hSf:S∉fp) (val:Nat→Str) (hval:∀ i v,P i v→∃ t,v = .str (val i) t) (hb:n + 1 < scanBound) :
  ∀ (k i:Nat) (s:Shared),n - i=k→i≤n→St i s→SetT prog w s.heap S (met val i)→(∀ s',Moved (S :: wr) G s s'→SetT prog w s'.heap S (met val n)→R (.ok (.ret .none)) s') →
   codeAny (model prog w) A (.builtin "set.update.loop" ⟨[.ref S,.ref J],[]⟩) R s:=by
 have hSw:S∉wr:=fun h=>hSf (W.sub _ h)
 have hsub:∀ b∈wr,b∈S :: wr:=fun b hb=>List.mem_cons_of_mem _ hb
 intro k
 induction k with
 | zero =>
  intro i s hk hi hst hS hR
  have hin:i=n:=by omega
  subst hin
  refine codeAny_builtin PyProof.Rows.F.entry_set_update_loop ?_
  rw [Around.under_plainId PyProof.Rows.F.plain_set_update_loop _]
  refine (show wpAny _ A.in1 (pyNext (.ref J) >>= _) _ _ s from wpAny_bind (W.done s _ _ hst fun s1 mv=>?_))
  exact (show wpAny _ A.in1 (ret Value.none) _ _ s1 from wpAny_pure (hR s1 (mv.mono hsub) (hS.keep fun o e=>mv.heap S o hSw e)))
 | succ k ih =>
  intro i s hk hi hst hS hR
  have hlt:i < n:=by omega
  refine codeAny_builtin PyProof.Rows.F.entry_set_update_loop ?_
  rw [Around.under_plainId PyProof.Rows.F.plain_set_update_loop _]
  refine (show wpAny _ A.in1 (pyNext (.ref J) >>= _) _ _ s from wpAny_bind (W.item i s _ _ hlt hst fun v s1 hP hst1 mv=>?_))
  obtain ⟨t,rfl⟩:=hval i v hP
  have hS1:SetT prog w s1.heap S (met val i):=hS.keep fun o e=>mv.heap S o hSw e
  refine (show wpAny _ A.in1 (holding [Value.str (val i) t] (setAdd S (.str (val i) t)) >>= _) _ _ s1 from wpAny_bind (wpAny_holding ?_))
  unfold setAdd
  refine wpAny_holding (wpAny_bind ((Zp prog w).pyHash (k:=(Sum.inr (val i):Key)) (Xe prog w (val i) t) ?_))
  refine Zh7 (s:={ s1 with toks:=s1.toks + 1 }) hS1 (by have:=Zco val i; omega) fun r h1 sb hS2=>?_
  refine wpAny_pure ⟨plainId_quiet PyProof.Rows.F.plain_set_update_loop _,ih (i + 1) _ (by omega) hlt (W.frame _ s1 _ _ hst1 (Nat.le_succ _) fun b hb o e=>?_) hS2 fun s2 mv2 hS3=>?_⟩
  ·rw [sb.2 b (fun h:b=S=>hSf (by rw [← h]; exact hb))]; exact e
  ·refine hR s2 (Moved.trans W.gtrans ((mv.mono hsub).then_heap (Nat.le_succ _) fun b o hb e=>?_) mv2) hS3
   rw [sb.2 b (fun h:b=S=>hb (by rw [h]; exact List.mem_cons_self))]; exact e
end
section
variable {prog:Program} {w:World} {A:Around} {E:Value→Shared→Prop} {s:Shared}
theorem Zin (a:Value) {Q1:Value→Shared→Prop}
  (q:Q1 (.ref s.heap.objs.size) { s with heap:=s.heap.push { cls:=.type "set",dict:=none,data:=.set #[] 0 (.fresh 0 0 (!byT w)) } }) :
  codeAny (model prog w) A (.call (.builtin "set.__new__") ⟨[.type "set",a],[]⟩) (wants Q1 E) s:=by
 refine codeAny_of_tree ?_
 refine (show wpAny _ A.in1 (do checkBuiltinCall "set.__new__" ⟨[.type "set",a],[]⟩; again (.builtin "set.__new__" ⟨[.type "set",a],[]⟩)) _ _ s from wpAny_bind (wpAny_of_eq (PySem.F.newCall_set_1 a) (wpAny_pure ⟨plainId_quiet PySem.F.plain_set_new _,codeAny_builtin PySem.F.entry_set_new ?_⟩)))
 rw [Around.under_plainId PySem.F.plain_set_new _]
 unfold Builtin.«set.__new__» Builtin.Frozenset.newClass
 have hsub:=sub_set_self
 obtain ⟨hp,gg,dd,tk,os⟩:=s
 dsimp only
 wp_walk
 refine wpAny_askSetting (wpAny_pure ?_)
 dsimp only
 simp only [newObj]
 exact wpAny_bind (wpAny_alloc (wpAny_pure (wpAny_pure q)))
theorem ZfA {h:Heap} {a:Addr} (e:h.get? a=some { cls:=.type "set",dict:=none,data:=.set #[] 0 (.fresh 0 0 (!byT w)) }):SetT prog w h a [] :=
 ⟨_,#[],0,_,e,⟨rfl,rfl,rfl⟩,rfl,fun e he=>by simp at he,fun k=>by simp,rfl,List.nodup_nil,by rfl,rfl,fun z=>absurd rfl z⟩
theorem Zby {l:Addr} {items:Array Value} {ss:List Str} {Q:Value→Shared→Prop} (hh:A.handled=none) (hl:s.heap.IsList l items) (hi:StrsAre items.toList ss) (hb:items.size + 1 < scanBound)
  (q:∀ (h1:Heap) (tk:Nat),SetT prog w h1 s.heap.objs.size (met (fun i=>ss.getD i "") items.size)→(∀ b o,s.heap.get? b=some o→h1.get? b=some o)→Q (.ref s.heap.objs.size) { s with heap:=h1,toks:=tk }) :
  wpAny (model prog w) A (call (.type "set") [.ref l]) Q E s:=by
 obtain ⟨c,tl,hmro⟩:=PySem.F.called_set.mro
 have hmade:=PySem.F.called_set.made
 have hsub:=PySem.F.called_set.sub
 refine wpAny_call (codeAny_of_tree ?_)
 refine (show wpAny _ _ (callAny (.type "set") _) _ _ _ from wpAny_pure ⟨Code.quiet_builtin _ (by decide +kernel),codeAny_builtin PySem.F.entry_type_call ?_⟩)
 rw [Around.under_plain (weight_type_call_type "set" [.ref l] []) rfl]
 have h1:=PySem.F.called_set.notType
 have h2:=PySem.F.called_set.canCreate
 have hct:=PySem.F.typeCall_set_1 (.ref l)
 repeat (any_goals (first | assumption | wp_step))
 refine codeAny_mono (Zin (.ref l) (E:=E) (Q1:=fun obj s1=>obj = .ref s.heap.objs.size∧s1={ s with heap:=s.heap.push { cls:=.type "set",dict:=none,data:=.set #[] 0 (.fresh 0 0 (!byT w)) } }) ⟨rfl,rfl⟩) fun r s1 hr=>?_
 cases r with
 | error e=>exact hr
 | ok fl =>
  cases fl with
  | ret obj =>
   obtain ⟨rfl,rfl⟩:=hr
   have gS:(s.heap.push { cls:=.type "set",dict:=none,data:=.set #[] 0 (.fresh 0 0 (!byT w)) }).get? s.heap.objs.size=some { cls:=.type "set",dict:=none,data:=.set #[] 0 (.fresh 0 0 (!byT w)) }:=Heap.get?_push_size _ rfl
   have hT:Shared.TypeIs { s with heap:=s.heap.push { cls:=.type "set",dict:=none,data:=.set #[] 0 (.fresh 0 0 (!byT w)) } } (.ref s.heap.objs.size) "set":=⟨_,gS,rfl⟩
   have hli:=PySem.F.called_set.init.lookup
   have hbi:=PySem.F.called_set.init.bind (.ref s.heap.objs.size)
   repeat (any_goals (first | assumption | wp_step))
   refine codeAny_mono (codeAny_call_builtin (R:=wants (fun r s2=>r = .none∧∃ g tk,s2={ s with heap:=g,toks:=tk }∧SetT prog w g s.heap.objs.size (met (fun i=>ss.getD i "") items.size)∧(∀ b o,s.heap.get? b=some o→g.get? b=some o)) E) PySem.F.called_set.init.plain PySem.F.entry_set_init (check_set_init_1 hT ?_)) fun r2 s2 hr2=>?_
   ·obtain ⟨ol,hol,hcl,nl,hdl⟩:=hl
    obtain ⟨ocls,odict,odata,oslots⟩:=ol
    simp only at hcl hdl
    subst hcl; subst hdl
    have hol':(s.heap.push { cls:=.type "set",dict:=none,data:=.set #[] 0 (.fresh 0 0 (!byT w)) }).get? l=some { cls:=.type "list",dict:=odict,data:=.seq items nl,slots:=oslots }:=Heap.get?_push_of_some _ hol
    have hsls:=PySem.F.sub_list_set
    have hslf:=PySem.F.sub_list_frozenset
    have hne:(Value.type "list" == Value.type "dict")=false:=by decide
    have hl1:(s.heap.push { cls:=.type "set",dict:=none,data:=.set #[] 0 (.fresh 0 0 (!byT w)) }).IsList l items:=⟨_,hol',rfl,nl,rfl⟩
    unfold Builtin.«set.__init__» noKeywords Builtin.Frozenset.updateFrom
    generalize hPI:pyIter=PI
    wp_walk
    subst hPI
    refine wpAny_pyIter_list hl1 (wpAny_bind (wpAny_runValue ?_))
    have hlS:l < s.heap.objs.size:=Heap.lt_size hol
    have hh3:A.in1.in1.in1.handled=none:=by simp [hh]
    have hneI:l≠(s.heap.push { cls:=.type "set",dict:=none,data:=.set #[] 0 (.fresh 0 0 (!byT w)) }).objs.size:=by
     rw [Heap.size_push]; exact Nat.ne_of_lt (Nat.lt_succ_of_lt hlS)
    have hSf:s.heap.objs.size∉[(s.heap.push { cls:=.type "set",dict:=none,data:=.set #[] 0 (.fresh 0 0 (!byT w)) }).objs.size,l]:=by
     rw [Heap.size_push]; simp only [List.mem_cons,List.not_mem_nil,or_false,not_or]
     exact ⟨Nat.ne_of_lt (Nat.lt_succ_self _),Nat.ne_of_gt hlS⟩
    have hval:∀ (i:Nat) (v:Value),items[i]?=some v→∃ t,v = .str ((fun i=>ss.getD i "") i) t:=fun i v hv=>by
     obtain ⟨t,e,_⟩:=Tim.strs_at hi i v (by rw [Array.getElem?_toList]; exact hv)
     exact ⟨t,e⟩
    refine Zd2 ((Walks.list hh3 _ l hneI items).toS) s.heap.objs.size hSf (fun i=>ss.getD i "") hval hb (items.size - 0) 0 _ (by omega) (Nat.zero_le _)
     ⟨⟨_,Heap.get?_push_size _ rfl,rfl,rfl⟩,(hl1.push _)⟩ (ZfA (Heap.get?_push_of_some _ gS)) ?_
    intro s3 mv hS3
    obtain ⟨h3,g3,d3,t3,o3⟩:=s3
    have eg:g3=s.gens:=mv.gens
    have ed:d3=s.drawn:=mv.drawn
    have eo:o3=s.os:=mv.os
    subst eg; subst ed; subst eo
    refine wpAny_pure (show wpAny _ _ (ret Value.none) _ _ _ from wpAny_pure ⟨rfl,h3,t3,rfl,hS3,fun b o e=>?_⟩)
    have hb0:b < s.heap.objs.size:=Heap.lt_size e
    have hb2:b≠(s.heap.push { cls:=.type "set",dict:=none,data:=.set #[] 0 (.fresh 0 0 (!byT w)) }).objs.size:=by
     rw [Heap.size_push]; exact Nat.ne_of_lt (Nat.lt_succ_of_lt hb0)
    exact mv.heap b o (by simp only [List.mem_cons,List.not_mem_nil,or_false,not_or]; exact ⟨Nat.ne_of_lt hb0,hb2⟩) (Heap.get?_push_of_some _ (Heap.get?_push_of_some _ e))
   ·cases r2 with
    | error e=>exact hr2
    | ok fl2 =>
     cases fl2 with
     | ret r =>
      obtain ⟨rfl,g,tk,rfl,hS',hk'⟩:=hr2
      repeat (any_goals (first | assumption | wp_step))
      exact q _ _ hS' hk'
     | _=>exact hr2
  | _=>exact hr
end
theorem si_slot:Slot "set_iterator" "__next__" "set_iterator.__next__" :=
 .of (owner:="set_iterator") (n:="__next__") (by rw [typeLookup_type,builtinLookup_eq_fast]; kernel_rfl) (by decide +kernel) (by decide +kernel) (by decide +kernel) (by first | exact .inl (by decide +kernel) | exact .inr (by decide +kernel)) (by rw [isSubtype_type]; kernel_rfl)
theorem YW:entryFor table "set_iterator.__next__" = some Builtin.«set_iterator.__next__»:=entryFor_of_fast (by kernel_rfl)
theorem XC (a:Value):argsOk "set_iterator.__next__" ⟨[a],[]⟩:=by unfold argsOk; kernel_rfl
theorem Zga:entryFor table "set.__iter__" = some Builtin.«frozenset.__iter__» :=
 entryFor_alias (id':="frozenset.__iter__") (by kernel_rfl) (by first | rfl | decide +kernel | (unfold String.splitOn; simp +decide [String.splitOnAux])) (by decide +kernel) (by kernel_rfl)
theorem JX {α:Type} {l:List α} {i:Nat} (h:i < l.length):(l[i] :: l.eraseIdx i).Perm l:=by
 rw [List.eraseIdx_eq_take_drop_succ]
 have e:l=l.take i ++ l[i] :: l.drop (i + 1):=by rw [← List.drop_eq_getElem_cons h,List.take_append_drop]
 conv=>rhs; rw [e]
 exact List.perm_middle.symm
theorem ZeS {α:Type} (next:Nat→Nat):∀ (f k:Nat) (left:List α) (out:Array α),left.length≤f→(pickOrder.go next f k left out).toList.Perm (out.toList ++ left)
 | 0,k,left,out,h=>by
  have:left=[]:=List.length_eq_zero_iff.mp (by omega)
  subst this
  unfold pickOrder.go
  simp
 | f + 1,k,[],out,h=>by
  unfold pickOrder.go
  simp
 | f + 1,k,x :: left,out,h=>by
  unfold pickOrder.go
  have hi:next k % (x :: left).length < (x :: left).length:=Nat.mod_lt _ (by simp)
  rw [List.getElem?_eq_getElem hi]
  dsimp only
  refine (ZeS next f (k + 1) _ _ ?_).trans ?_
  ·rw [List.length_eraseIdx,if_pos hi]
   simp at h ⊢
   omega
  ·rw [Array.toList_push,List.append_assoc]
   exact List.Perm.append_left _ (JX hi)
theorem Jh {α:Type} (next:Nat→Nat) (xs:Array α):(pickOrder next xs).toList.Perm xs.toList:=by
 unfold pickOrder
 have:=ZeS next xs.size 0 xs.toList #[] (by simp)
 simpa using this
abbrev ZaO (h:Heap) (J:Addr) (f:Value) (i:Nat) (a:Addr) (n ep:Nat):Prop:=h.get? J=some { cls:=.type "set_iterator",dict:=none,data:=.fields #[f,.int i 0,.ref a,.int n 0,.int ep 0],slots:=#[] }
section
variable {prog:Program} {w:World} {A:Around} {E:Value→Shared→Prop} {s:Shared}
theorem ZaP {src:Source} {n:Nat} {Q:Nat→Shared→Prop} (hn:n≠0) (h:∀ i d,i < n→Q i { s with drawn:=d }):wpAny (model prog w) A (choose src n) Q E s :=
 fun _ _ _=>⟨hn,h _ _ (Nat.mod_lt _ (Nat.pos_of_ne_zero hn))⟩
theorem Zbv {α:Type}:∀ (n:Nat) (xs:List α) (s:Shared) {Q:List α→Shared→Prop},xs.length≤n→(∀ ys d,ys.Perm xs→Q ys { s with drawn:=d })→wpAny (model prog w) A (drawOrder n xs) Q E s
 | 0,xs,s,Q,hl,h=>by
  have:xs=[]:=List.length_eq_zero_iff.mp (by omega)
  subst this
  unfold drawOrder
  exact wpAny_pure (h [] s.drawn (List.Perm.refl _))
 | n + 1,[],s,Q,hl,h=>by
  unfold drawOrder
  exact wpAny_pure (h [] s.drawn (List.Perm.refl _))
 | n + 1,x :: xs,s,Q,hl,h=>by
  unfold drawOrder
  refine wpAny_bind (ZaP (by simp) fun i d hi=>?_)
  rw [List.getElem?_eq_getElem hi]
  dsimp only
  refine wpAny_bind (Zbv n ((x :: xs).eraseIdx i) { s with drawn:=d } ?_ fun ys d2 hp=>wpAny_pure (h _ d2 ?_))
  ·rw [List.length_eraseIdx]
   split <;> simp at * <;> omega
  ·exact (hp.cons _).trans (JX hi)
structure SeesS (h:Heap) (a:Addr) (o:Obj) (es:Array (Int × Value)) (ep:Nat) (t:SetTable) (n:Nat):Prop where
 ob:h.get? a=some o
 dt:o.data = .set es ep t
 fits:t.fits es.size=true
 len:es.size=n
theorem Yc {a:Addr} {o:Obj} {es:Array (Int × Value)} {ep n:Nat} {t:SetTable} {Q:(Array (Int × Value) × Nat × SetTable)→Shared→Prop} (V:SeesS s.heap a o es ep t n) (q:Q (es,ep,t) s):wpAny (model prog w) A (setState a) Q E s:=wpAny_setState_of V.ob V.dt V.fits q
theorem Yt {J a:Addr} {f:Value} {i n ep:Nat} {o:Obj} {es:Array (Int × Value)} {t:SetTable} {Q:PySem.Fin→Shared→Prop} (hJ:ZaO s.heap J f i a n ep) (V:SeesS s.heap a o es ep t n)
  (q:wpAny (model prog w) A (if let .int slot _:=f then (do
    match ← setNext a slot.toNat (i:Int).toNat (ep:Int).toNat with
    | some (x,next) =>
     setField (.ref J) 0 (rawInt next)
     setField (.ref J) 1 (rawInt ((i:Int) + 1))
     ret x
    | none=>setField (.ref J) 2 .none; raiseNew (← newExc (.type "StopIteration") []))
   else (do
    let some places ← seqItems? f | unsupported "internal:set_iterator"
    match places[(i:Int).toNat]? with
    | some (.int place _) =>
     let x ← setNextDrawn a place.toNat (ep:Int).toNat
     setField (.ref J) 1 (rawInt ((i:Int) + 1))
     ret x
    | some _=>unsupported "internal:set_iterator"
    | none=>setField (.ref J) 0 (rawInt 0); setField (.ref J) 2 .none; raiseNew (← newExc (.type "StopIteration") []))) Q E s) :
  wpAny (model prog w) A (Builtin.«set_iterator.__next__» ⟨[.ref J],[]⟩) Q E s:=by
 refine (show wpAny _ _ (fieldsOf (.ref J) >>= _) _ _ s from wpAny_bind (wpAny_fieldsOf hJ rfl ?_))
 dsimp only
 refine wpAny_bind (wpAny_setEntries_of V.ob V.dt V.fits ?_)
 rw [if_neg (by rw [V.len]; simp)]
 exact q
theorem Xz {J:Addr} {Q:PySem.Fin→Shared→Prop} {g0:Heap} (hh:A.handled=none)
  (q:∀ g e,(∀ c o,g0.get? c=some o→g.get? c=some o)→(∃ o,g.get? e=some o∧o.cls = .type "StopIteration")→E (.ref e) { s with heap:=g }) :
  wpAny (model prog w) A (do raiseNew (← newExc (.type "StopIteration") [])) Q E { s with heap:=g0 }:=by
 refine wpAny_bind ?_
 simp only [newExc,newTuple]
 refine wpAny_bind (wpAny_newObj_type (wpAny_bind (m:=firstArgMember _ _) (wpAny_of_eq (a:=Value.none) (by first | rfl | (simp only [firstArgMember]; rfl)) (wpAny_newObj_type ?_ (by size_fits)))) (by size_fits))
 simp only [raiseNew]
 refine wpAny_bind (wpAny_handled ?_)
 first | rw [show A.in1.handled=none from hh] | rw [hh]
 exact wpAny_bind (wpAny_pure (wpAny_throw (q _ _ (fun c o e=>Heap.get?_push_of_some _ (Heap.get?_push_of_some _ e)) ⟨_,Heap.get?_push_size _ rfl,rfl⟩)))
theorem Zgk {J T a:Addr} {i n ep p m:Nat} {o oT:Obj} {es:Array (Int × Value)} {t:SetTable} {pl:Array Value} {hx:Int} {x:Value} {Q:Value→Shared→Prop} (hJ:ZaO s.heap J (.ref T) i a n ep) (V:SeesS s.heap a o es ep t n)
  (gT:s.heap.get? T=some oT) (dT:oT.data = .seq pl m) (hp:pl[i]?=some (.int p 0)) (hx:es[p]?=some (hx,x)) (q:∀ g,ZaO g J (.ref T) (i + 1) a n ep→Heap.SameBut J s.heap g→Q x { s with heap:=g }) :
  wpAny (model prog w) A (Builtin.«set_iterator.__next__» ⟨[.ref J],[]⟩) (fun fin s'=>∃ v,fin = .done (.ret v)∧Q v s') E s:=by
 refine Yt hJ V ?_
 dsimp only
 refine wpAny_bind (wpAny_seqItems gT dT ?_)
 simp only [Int.toNat_natCast,hp]
 unfold setNextDrawn
 refine wpAny_bind (wpAny_bind (Yc V ?_))
 dsimp only
 rw [if_neg (by simp),hx]
 refine wpAny_pure (wpAny_bind (wpAny_setField_rec hJ (by simp) fun g hg sb=>wpAny_pure ⟨x,rfl,q g ?_ sb⟩))
 have e:((i + 1:Nat):Int)=(i:Int) + 1:=by push_cast; rfl
 unfold ZaO
 rw [e]
 exact hg
theorem Zh6 {J T a:Addr} {i n ep m:Nat} {o oT:Obj} {es:Array (Int × Value)} {t:SetTable} {pl:Array Value} {Q:PySem.Fin→Shared→Prop} (hh:A.handled=none) (hJ:ZaO s.heap J (.ref T) i a n ep) (V:SeesS s.heap a o es ep t n)
  (gT:s.heap.get? T=some oT) (dT:oT.data = .seq pl m) (hp:pl[i]?=none) (q:∀ g e,(∀ c o,c≠J→s.heap.get? c=some o→g.get? c=some o)→(∃ o,g.get? e=some o∧o.cls = .type "StopIteration")→E (.ref e) { s with heap:=g }) :
  wpAny (model prog w) A (Builtin.«set_iterator.__next__» ⟨[.ref J],[]⟩) Q E s:=by
 refine Yt hJ V ?_
 dsimp only
 refine wpAny_bind (wpAny_seqItems gT dT ?_)
 simp only [Int.toNat_natCast,hp]
 refine wpAny_bind (wpAny_setField_rec hJ (by simp) fun g1 hg1 sb1=>wpAny_bind (wpAny_setField_rec hg1 (by simp) fun g2 hg2 sb2=>?_))
 exact Xz (J:=J) hh fun g e k he=>q g e (fun c o hc z=>k c o (sb2.extBut _ _ hc (sb1.extBut _ _ hc z))) he
theorem Zgi {J a:Addr} {i n ep:Nat} {o:Obj} {es:Array (Int × Value)} {t:SetTable} {hx:Int} {x:Value} {Q:Value→Shared→Prop} (hb:byT w=true) (hJ:ZaO s.heap J (.int 0 0) i a n ep) (V:SeesS s.heap a o es ep t n)
  (hp:(pickOrder (w.params.setOrder a ep) es)[i]?=some (hx,x)) (q:∀ g,ZaO g J (.int 0 0) (i + 1) a n ep→Heap.SameBut J s.heap g→Q x { s with heap:=g }) :
  wpAny (model prog w) A (Builtin.«set_iterator.__next__» ⟨[.ref J],[]⟩) (fun fin s'=>∃ v,fin = .done (.ret v)∧Q v s') E s:=by
 refine Yt hJ V ?_
 dsimp only
 refine wpAny_bind ?_
 unfold setNext setsByText
 refine wpAny_bind (Yc V ?_)
 dsimp only
 refine wpAny_bind (wpAny_bind (wpAny_askSetting (wpAny_pure ?_)))
 dsimp only
 rw [if_pos (show (model prog w).w.params.followText "set-order" = true from hb),if_neg (by simp)]
 unfold setWalk setsByText
 refine wpAny_bind (wpAny_bind (Yc V ?_))
 dsimp only
 refine wpAny_bind (wpAny_bind (wpAny_askSetting (wpAny_pure ?_)))
 dsimp only
 rw [if_pos (show (model prog w).w.params.followText "set-order" = true from hb)]
 refine wpAny_bind (wpAny_askSetting (wpAny_pure (wpAny_pure ?_)))
 have hp':(pickOrder ((model prog w).w.params.setOrder a ep) es)[i]?=some (hx,x):=hp
 simp only [Int.toNat_natCast,hp',Option.map_some]
 refine wpAny_bind (wpAny_setField_rec hJ (by simp) fun g1 hg1 sb1=>wpAny_bind (wpAny_setField_rec hg1 (by simp) fun g2 hg2 sb2=>wpAny_pure ⟨x,rfl,q g2 ?_ (sb1.trans sb2)⟩))
 have e:((i + 1:Nat):Int)=(i:Int) + 1:=by push_cast; rfl
 unfold ZaO
 rw [e]
 exact hg2
theorem Zh4 {J a:Addr} {i n ep:Nat} {o:Obj} {es:Array (Int × Value)} {t:SetTable} {Q:PySem.Fin→Shared→Prop} (hh:A.handled=none) (hb:byT w=true) (hJ:ZaO s.heap J (.int 0 0) i a n ep) (V:SeesS s.heap a o es ep t n)
  (hp:(pickOrder (w.params.setOrder a ep) es)[i]?=none) (q:∀ g e,(∀ c o,c≠J→s.heap.get? c=some o→g.get? c=some o)→(∃ o,g.get? e=some o∧o.cls = .type "StopIteration")→E (.ref e) { s with heap:=g }) :
  wpAny (model prog w) A (Builtin.«set_iterator.__next__» ⟨[.ref J],[]⟩) Q E s:=by
 refine Yt hJ V ?_
 dsimp only
 refine wpAny_bind ?_
 unfold setNext setsByText
 refine wpAny_bind (Yc V ?_)
 dsimp only
 refine wpAny_bind (wpAny_bind (wpAny_askSetting (wpAny_pure ?_)))
 dsimp only
 rw [if_pos (show (model prog w).w.params.followText "set-order" = true from hb),if_neg (by simp)]
 unfold setWalk setsByText
 refine wpAny_bind (wpAny_bind (Yc V ?_))
 dsimp only
 refine wpAny_bind (wpAny_bind (wpAny_askSetting (wpAny_pure ?_)))
 dsimp only
 rw [if_pos (show (model prog w).w.params.followText "set-order" = true from hb)]
 refine wpAny_bind (wpAny_askSetting (wpAny_pure (wpAny_pure ?_)))
 have hp':(pickOrder ((model prog w).w.params.setOrder a ep) es)[i]?=none:=hp
 simp only [Int.toNat_natCast,hp',Option.map_none]
 refine wpAny_bind (wpAny_setField_rec hJ (by simp) fun g1 hg1 sb1=>?_)
 exact Xz (J:=J) hh fun g e k he=>q g e (fun c o hc z=>k c o (sb1.extBut _ _ hc z)) he
theorem JK {a:Addr} {sl i n ep:Nat} {o:Obj} {es:Array (Int × Value)} {t:SetTable} {Q:Option (Value × Nat)→Shared→Prop} (hb:byT w=false) (V:SeesS s.heap a o es ep t n) (hn:n≤1) (led:t.led=true)
  (q:Q (match es[SetTable.below t.place sl]?,t.place[SetTable.below t.place sl]? with
   | some (_,x),some j=>some (x,j + 1)
   | _,_=>none) s):wpAny (model prog w) A (setNext a sl i ep) Q E s:=by
 unfold setNext setsByText
 refine wpAny_bind (Yc V ?_)
 dsimp only
 refine wpAny_bind (wpAny_bind (wpAny_askSetting (wpAny_pure ?_)))
 dsimp only
 rw [if_neg (by rw [show (model prog w).w.params.followText "set-order" = false from hb]; decide)]
 refine (show wpAny (model prog w) A (if (!t.plain && decide (es.size > 1))=true then _ else _) Q E s from ?_)
 rw [if_neg (by rw [V.len]; simp; omega)]
 refine (show wpAny (model prog w) A ((if (!t.led && !es.isEmpty)=true then unsupported "set:maker-not-led" else pure ()) >>= fun _=>_) Q E s from ?_)
 rw [led]
 simp only [Bool.not_true,Bool.false_and,Bool.false_eq_true,if_false]
 exact wpAny_bind (wpAny_pure (wpAny_pure q))
theorem Zgj {J a:Addr} {ep j:Nat} {o:Obj} {es:Array (Int × Value)} {t:SetTable} {hx:Int} {x:Value} {Q:Value→Shared→Prop} (hb:byT w=false) (led:t.led=true) (hJ:ZaO s.heap J (.int 0 0) 0 a 1 ep) (V:SeesS s.heap a o es ep t 1)
  (hj:t.place = #[j]) (hp:es[0]?=some (hx,x)) (q:∀ g,ZaO g J (.int ((j + 1:Nat):Int) 0) 1 a 1 ep→Heap.SameBut J s.heap g→Q x { s with heap:=g }) :
  wpAny (model prog w) A (Builtin.«set_iterator.__next__» ⟨[.ref J],[]⟩) (fun fin s'=>∃ v,fin = .done (.ret v)∧Q v s') E s:=by
 refine Yt hJ V ?_
 dsimp only
 refine wpAny_bind (JK hb V (Nat.le_refl _) led ?_)
 have hbw:SetTable.below t.place (0:Int).toNat=0:=by rw [hj]; rfl
 rw [hbw,hp,hj]
 refine wpAny_bind (wpAny_setField_rec hJ (by simp) fun g1 hg1 sb1=>wpAny_bind (wpAny_setField_rec hg1 (by simp) fun g2 hg2 sb2=>wpAny_pure ⟨x,rfl,q g2 hg2 (sb1.trans sb2)⟩))
theorem Zh5 {J a:Addr} {sl i n ep:Nat} {o:Obj} {es:Array (Int × Value)} {t:SetTable} {Q:PySem.Fin→Shared→Prop} (hh:A.handled=none) (hb:byT w=false) (led:t.led=true) (hJ:ZaO s.heap J (.int (sl:Int) 0) i a n ep) (V:SeesS s.heap a o es ep t n) (hn:n≤1)
  (hp:es[SetTable.below t.place sl]?=none) (q:∀ g e,(∀ c o,c≠J→s.heap.get? c=some o→g.get? c=some o)→(∃ o,g.get? e=some o∧o.cls = .type "StopIteration")→E (.ref e) { s with heap:=g }) :
  wpAny (model prog w) A (Builtin.«set_iterator.__next__» ⟨[.ref J],[]⟩) Q E s:=by
 refine Yt hJ V ?_
 dsimp only
 refine wpAny_bind (JK hb V hn led ?_)
 rw [Int.toNat_natCast,hp]
 refine wpAny_bind (wpAny_setField_rec hJ (by simp) fun g1 hg1 sb1=>?_)
 exact Xz (J:=J) hh fun g e k he=>q g e (fun c o hc z=>k c o (sb1.extBut _ _ hc z)) he
end
theorem SeesS.keep {h h':Heap} {a:Addr} {o:Obj} {es:Array (Int × Value)} {ep n:Nat} {t:SetTable} (V:SeesS h a o es ep t n) (k:∀ o,h.get? a=some o→h'.get? a=some o):SeesS h' a o es ep t n:={ V with ob:=k o V.ob }
theorem Zer:Slot "set_iterator" "__iter__" "set_iterator.__iter__" :=
 .of (owner:="set_iterator") (n:="__iter__") (by rw [typeLookup_type,builtinLookup_eq_fast]; kernel_rfl) (by decide +kernel) (by decide +kernel) (by decide +kernel) (by first | exact .inl (by decide +kernel) | exact .inr (by decide +kernel)) (by rw [isSubtype_type]; kernel_rfl)
theorem Zgg:entryFor table "set_iterator.__iter__" = some Builtin.«dict_keyiterator.__iter__» :=
 entryFor_alias (id':="dict_keyiterator.__iter__") (by kernel_rfl) (by first | rfl | decide +kernel | (unfold String.splitOn; simp +decide [String.splitOnAux])) (by decide +kernel) (by kernel_rfl)
theorem Zgh (a:Value):argsOk "set_iterator.__iter__" ⟨[a],[]⟩:=by unfold argsOk; kernel_rfl
theorem ZbV {prog:Program} {w:World} {A:Around} {E:Value→Shared→Prop} {s:Shared} {J a:Addr} {f:Value} {i n ep:Nat} {Q:Value→Shared→Prop} (hJ:ZaO s.heap J f i a n ep) (h:Q (.ref J) s):wpAny (model prog w) A (pyIter (.ref J)) Q E s:=by
 refine wpAny_pyIter_slot ⟨_,hJ,rfl⟩ Zer (wpAny_call_entry Zer ⟨_,hJ,rfl⟩ Zgg ?_ (Zgh _))
 exact (show wpAny _ _ (ret (.ref J)) _ _ s from wpAny_pure ⟨_,rfl,"set_iterator",_,⟨_,hJ,rfl⟩,si_slot.lookup,h⟩)
section
variable {prog:Program} {w:World} {A:Around} {E:Value→Shared→Prop} {s:Shared}
abbrev ZhD (ord:Array (Int × Value)) (i:Nat) (v:Value):Prop:=∃ e,ord[i]?=some e∧v=e.2
theorem Zkq (hh:A.handled=none) {J T a:Addr} {n ep:Nat} {o:Obj} {es:Array (Int × Value)} {t:SetTable} {ps:List Nat} (hJT:T≠J) (hJa:a≠J) (hps:ps.length=n) (hlt:∀ p∈ps,p < es.size) :
  Walks prog w A J [J,T,a] [J] n (ZhD (ps.map fun p=>es.getD p (0,.none)).toArray) (fun i h=>ZaO h J (.ref T) i a n ep∧(∃ oT m,h.get? T=some oT∧oT.data = .seq (ps.map fun p:Nat=>Value.int (p:Int) 0).toArray m)∧SeesS h a o es ep t n) where
 sub:=fun b hb=>by rw [List.mem_singleton.mp hb]; simp
 frame:=fun i h h' ⟨s1,⟨oT,m,g,d⟩,s3⟩ k=>⟨k J (by simp) _ s1,⟨oT,m,k T (by simp) _ g,d⟩,s3.keep fun o e=>k a (by simp) o e⟩
 item:=fun i s Q E hi ⟨s1,⟨oT,m,g,d⟩,s3⟩ q=>by
  have hi':i < ps.length:=by omega
  have hp:(ps.map fun p:Nat=>Value.int (p:Int) 0).toArray[i]?=some (.int (ps[i]:Nat) 0):=by simp [hi']
  have hpe:ps[i] < es.size:=hlt _ (List.getElem_mem hi')
  have hx:es[ps[i]]?=some (es[ps[i]].1,es[ps[i]].2):=by rw [Array.getElem?_eq_getElem hpe]
  unfold pyNext
  refine wpAny_bind (wpAny_attempt (wpAny_callSpecial?_slot (name:=Str.ofString "__next__") ⟨_,s1,rfl⟩ si_slot (wpAny_call_entry si_slot ⟨_,s1,rfl⟩ YW (Zgk s1 s3 g d hp hx fun g1 h1 sb=>wpAny_pure (q _ g1 s.toks ?_ ?_ ?_)) (XC _))))
  ·refine ⟨es[ps[i]],?_,rfl⟩
   simp [hi',hpe]
  ·exact ⟨h1,⟨oT,m,sb.extBut _ _ hJT g,d⟩,s3.keep fun o e=>sb.extBut _ _ hJa e⟩
  ·exact fun b o hb e=>sb.extBut _ _ (fun z=>hb (by simp [z])) e
 done:=fun s Q E ⟨s1,⟨oT,m,g,d⟩,s3⟩ q=>by
  unfold pyNext
  refine wpAny_bind (wpAny_attempt (wpAny_callSpecial?_slot (name:=Str.ofString "__next__") ⟨_,s1,rfl⟩ si_slot (wpAny_call_entry si_slot ⟨_,s1,rfl⟩ YW (Zh6 hh s1 s3 g d (by simp [hps]) fun g1 e k ⟨oe,ge,ce⟩=>?_) (XC _))))
  exact wpAny_bind (wpAny_isInstance (T:="StopIteration") (b:=true) ⟨oe,ge,ce⟩ isSubtype_stop (wpAny_pure (q g1 s.toks fun b o hb z=>k b o (fun y=>hb (by simp [y])) z)))
 self:=fun i s Q E ⟨s1,_⟩ q=>ZbV s1 q
theorem Zko (hh:A.handled=none) (hb:byT w=true) {J a:Addr} {n ep:Nat} {o:Obj} {es:Array (Int × Value)} {t:SetTable} (hJa:a≠J) (hn:es.size=n) :
  Walks prog w A J [J,a] [J] n (ZhD (pickOrder (w.params.setOrder a ep) es)) (fun i h=>ZaO h J (.int 0 0) i a n ep∧SeesS h a o es ep t n) where
 sub:=fun b hb=>by rw [List.mem_singleton.mp hb]; simp
 frame:=fun i h h' ⟨s1,s3⟩ k=>⟨k J (by simp) _ s1,s3.keep fun o e=>k a (by simp) o e⟩
 item:=fun i s Q E hi ⟨s1,s3⟩ q=>by
  have hsz:(pickOrder (w.params.setOrder a ep) es).size=n:=by rw [← Array.length_toList,(Jh _ es).length_eq,Array.length_toList,hn]
  have hx:(pickOrder (w.params.setOrder a ep) es)[i]?=some ((pickOrder (w.params.setOrder a ep) es)[i]'(by omega)):=Array.getElem?_eq_getElem (by omega)
  unfold pyNext
  refine wpAny_bind (wpAny_attempt (wpAny_callSpecial?_slot (name:=Str.ofString "__next__") ⟨_,s1,rfl⟩ si_slot (wpAny_call_entry si_slot ⟨_,s1,rfl⟩ YW (Zgi hb s1 s3 hx fun g1 h1 sb=>wpAny_pure (q _ g1 s.toks ⟨_,hx,rfl⟩ ⟨h1,s3.keep fun o e=>sb.extBut _ _ hJa e⟩ fun b o hb e=>sb.extBut _ _ (fun z=>hb (by simp [z])) e)) (XC _))))
 done:=fun s Q E ⟨s1,s3⟩ q=>by
  have hsz:(pickOrder (w.params.setOrder a ep) es).size=n:=by rw [← Array.length_toList,(Jh _ es).length_eq,Array.length_toList,hn]
  unfold pyNext
  refine wpAny_bind (wpAny_attempt (wpAny_callSpecial?_slot (name:=Str.ofString "__next__") ⟨_,s1,rfl⟩ si_slot (wpAny_call_entry si_slot ⟨_,s1,rfl⟩ YW (Zh4 hh hb s1 s3 (Array.getElem?_eq_none (by omega)) fun g1 e k ⟨oe,ge,ce⟩=>?_) (XC _))))
  exact wpAny_bind (wpAny_isInstance (T:="StopIteration") (b:=true) ⟨oe,ge,ce⟩ isSubtype_stop (wpAny_pure (q g1 s.toks fun b o hb z=>k b o (fun y=>hb (by simp [y])) z)))
 self:=fun i s Q E ⟨s1,_⟩ q=>ZbV s1 q
theorem Zkp (hh:A.handled=none) (hb:byT w=false) {J a:Addr} {n ep:Nat} {o:Obj} {es:Array (Int × Value)} {t:SetTable} (hJa:a≠J) (hn:es.size=n) (h1:n≤1) (led:t.led=true) (hf:t.fits es.size=true) :
  Walks prog w A J [J,a] [J] n (ZhD es) (fun i h=>(∃ sl:Nat,ZaO h J (.int (sl:Int) 0) i a n ep∧(i < n→sl=0)∧(i=n→es[SetTable.below t.place sl]?=none))∧SeesS h a o es ep t n) where
 sub:=fun b hb=>by rw [List.mem_singleton.mp hb]; simp
 frame:=fun i h h' ⟨⟨sl,s1,s2⟩,s3⟩ k=>⟨⟨sl,k J (by simp) _ s1,s2⟩,s3.keep fun o e=>k a (by simp) o e⟩
 item:=fun i s Q E hi ⟨⟨sl,s1,s2,_⟩,s3⟩ q=>by
  have hn1:n=1:=by omega
  have hi0:i=0:=by omega
  subst hi0
  have hsl:=s2 hi
  subst hsl
  subst hn1
  have hpz:t.place.size=1:=by
   simp only [SetTable.fits,Bool.and_eq_true,beq_iff_eq] at hf
   omega
  obtain ⟨j,hj⟩:∃ j,t.place = #[j]:=by
   generalize t.place=pl at hpz
   obtain ⟨l⟩:=pl
   match l,hpz with
   | [j],_=>exact ⟨j,rfl⟩
  have hx:es[0]?=some es[0]:=Array.getElem?_eq_getElem (by omega)
  unfold pyNext
  refine wpAny_bind (wpAny_attempt (wpAny_callSpecial?_slot (name:=Str.ofString "__next__") ⟨_,s1,rfl⟩ si_slot (wpAny_call_entry si_slot ⟨_,s1,rfl⟩ YW (Zgj hb led s1 s3 hj hx fun g1 hg1 sb=>wpAny_pure (q _ g1 s.toks ⟨_,hx,rfl⟩ ⟨⟨j + 1,hg1,fun z=>absurd z (by omega),fun _=>?_⟩,s3.keep fun o e=>sb.extBut _ _ hJa e⟩ fun b o hb e=>sb.extBut _ _ (fun z=>hb (by simp [z])) e)) (XC _))))
  have hbw:SetTable.below t.place (j + 1)=1:=by
   rw [hj]
   unfold SetTable.below
   show SetTable.below.go #[j] (j + 1) 1 0 1=1
   unfold SetTable.below.go
   rw [if_pos (by omega)]
   dsimp only
   rw [if_pos (by simp)]
   rfl
  rw [hbw]
  exact Array.getElem?_eq_none (by omega)
 done:=fun s Q E ⟨⟨sl,s1,_,s2⟩,s3⟩ q=>by
  unfold pyNext
  refine wpAny_bind (wpAny_attempt (wpAny_callSpecial?_slot (name:=Str.ofString "__next__") ⟨_,s1,rfl⟩ si_slot (wpAny_call_entry si_slot ⟨_,s1,rfl⟩ YW (Zh5 hh hb led s1 s3 h1 (s2 rfl) fun g1 e k ⟨oe,ge,ce⟩=>?_) (XC _))))
  exact wpAny_bind (wpAny_isInstance (T:="StopIteration") (b:=true) ⟨oe,ge,ce⟩ isSubtype_stop (wpAny_pure (q g1 s.toks fun b o hb z=>k b o (fun y=>hb (by simp [y])) z)))
 self:=fun i s Q E ⟨⟨sl,s1,_⟩,_⟩ q=>ZbV s1 q
end
end L2
namespace L2
open PySem PySem.Spec PyProof.Rows PySem.W
section
variable {prog:Program} {w:World} {A:Around} {E:Value→Shared→Prop} {s:Shared}
theorem range_getD {es:Array (Int × Value)} {ps:List Nat} (h:ps.Perm (List.range es.size)):(ps.map fun p=>es.getD p (0,.none)).Perm es.toList:=by
 have h1:=h.map fun p=>es.getD p (0,.none)
 have h2:((List.range es.size).map fun p=>es.getD p (0,.none))=es.toList:=by
  apply List.ext_getElem?
  intro i
  rw [List.getElem?_map]
  by_cases hi:i < es.size
  ·rw [List.getElem?_range hi,Array.getElem?_toList,Array.getElem?_eq_getElem hi]
   simp [hi]
  ·rw [List.getElem?_eq_none (by simp; omega),List.getElem?_eq_none (by simp; omega)]
   rfl
 rw [h2] at h1
 exact h1
theorem ZgU {A':Around} {a:Addr} {ks:List Str} {o:Obj} {es:Array (Int × Value)} {ep:Nat} {t:SetTable} {Q:Value→Shared→Prop} (hh:A'.handled=none) (S:StT prog w s.heap a ks o es ep t) (hz:ks.length≤1000)
  (q:∀ (J:Addr) (h1:Heap) (d:Drawn) (ord:Array (Int × Value)) (fp:List Addr) (St:Nat→Heap→Prop),ord.toList.Perm es.toList→Walks prog w A' J fp [J] ks.length (ZhD ord) St→St 0 h1→(∀ b∈fp,b=a∨s.heap.objs.size≤b)→s.heap.objs.size≤J →
   (∀ b u,s.heap.get? b=some u→h1.get? b=some u)→Q (.ref J) { s with heap:=h1,drawn:=d }):wpAny (model prog w) A (pyIter (.ref a)) Q E s:=by
 have hT:s.TypeIs (.ref a) "set":=⟨o,S.ob,S.ex.1⟩
 have V:SeesS s.heap a o es ep t ks.length:=⟨S.ob,S.dt,S.fits,S.len⟩
 have ha:a < s.heap.objs.size:=Heap.lt_size S.ob
 have es0:s={ s with heap:=s.heap,drawn:=s.drawn }:=by cases s; rfl
 refine wpAny_pyIter_slot hT PySem.F.slot_set_iter (wpAny_call_entry PySem.F.slot_set_iter hT Zga ?_ (PySem.F.args_set_iter_1 _))
 unfold Builtin.«frozenset.__iter__»
 refine (show wpAny _ _ (Builtin.Frozenset.sizeOf a >>= _) _ _ s from wpAny_bind ?_)
 unfold Builtin.Frozenset.sizeOf
 refine wpAny_bind (wpAny_setEntries_of V.ob V.dt V.fits (wpAny_pure ?_))
 dsimp only
 unfold setDrawn setsByText
 refine wpAny_bind (wpAny_bind (Yc V ?_))
 dsimp only
 refine wpAny_bind (wpAny_bind (wpAny_askSetting (wpAny_pure (wpAny_pure ?_))))
 have lift1:∀ (x:Bool) (h:x=(!byT w && (!t.plain && decide (es.size > 1)))),x=(!(model prog w).w.params.followText "set-order" && (!t.plain && decide (es.size > 1))):=fun x h=>h
 by_cases c:(!byT w && (!t.plain && decide (es.size > 1)))=true
 ·refine (show wpAny (model prog w) _ (if (!byT w && (!t.plain && decide (es.size > 1)))=true then _ else _) _ _ s from ?_)
  rw [if_pos c]
  refine wpAny_bind (Zbv es.size (List.range es.size) s (by simp) fun ps d hp=>?_)
  have hpl:ps.length=ks.length:=by rw [hp.length_eq,List.length_range,S.len]
  refine wpAny_bind (wpAny_newTuple ?_ (by rw [List.length_map]; exact XQ (by omega)))
  have V1:SeesS (s.heap.push { cls:=.type "tuple",data:=.seq (ps.map fun i:Nat=>rawInt i).toArray }) a o es ep t ks.length:=V.keep fun o e=>Heap.get?_push_of_some _ e
  refine wpAny_bind ?_
  unfold setEpoch
  refine wpAny_bind (Yc (s:={ s with heap:=s.heap.push { cls:=.type "tuple",data:=.seq (ps.map fun i:Nat=>rawInt i).toArray },drawn:=d }) V1 (wpAny_pure ?_))
  refine wpAny_bind (wpAny_newObj_type (wpAny_pure ⟨_,rfl,"set_iterator",_,⟨_,Heap.get?_push_size _ rfl,rfl⟩,si_slot.lookup,?_⟩))
  have hsz:(s.heap.push { cls:=.type "tuple",data:=.seq (ps.map fun i:Nat=>rawInt i).toArray }).objs.size=s.heap.objs.size + 1:=Heap.size_push ..
  refine q _ _ d (ps.map fun p=>es.getD p (0,.none)).toArray [_,s.heap.objs.size,a] _ (range_getD hp) (Zkq hh (T:=s.heap.objs.size) (a:=a) (ep:=ep) (o:=o) (es:=es) (t:=t) (by rw [hsz]; exact Nat.ne_of_lt (Nat.lt_succ_self _)) (by rw [hsz]; exact Nat.ne_of_lt (Nat.lt_succ_of_lt ha)) hpl fun p hpm=>List.mem_range.mp (hp.mem_iff.mp hpm)) ⟨?_,⟨_,_,Heap.get?_push_of_some _ (Heap.get?_push_size _ rfl),rfl⟩,V1.keep fun o e=>Heap.get?_push_of_some _ e⟩ ?_ (by rw [hsz]; exact Nat.le_succ _) fun b u e=>Heap.get?_push_of_some _ (Heap.get?_push_of_some _ e)
  ·unfold ZaO
   rw [Heap.get?_push_size _ rfl,S.len]
   rfl
  ·intro b hb
   rcases List.mem_cons.mp hb with z | z
   ·rw [z,hsz]; exact .inr (Nat.le_succ _)
   ·rcases List.mem_cons.mp z with z | z
    ·rw [z]; exact .inr (Nat.le_refl _)
    ·exact .inl (List.mem_singleton.mp z)
 ·refine (show wpAny (model prog w) _ (if (!byT w && (!t.plain && decide (es.size > 1)))=true then _ else _) _ _ s from ?_)
  rw [if_neg c]
  refine wpAny_bind (wpAny_pure (wpAny_bind ?_))
  unfold setEpoch
  refine wpAny_bind (Yc V (wpAny_pure ?_))
  refine wpAny_bind (wpAny_newObj_type (wpAny_pure ⟨_,rfl,"set_iterator",_,⟨_,Heap.get?_push_size _ rfl,rfl⟩,si_slot.lookup,?_⟩))
  have fpk:∀ b∈[s.heap.objs.size,a],b=a∨s.heap.objs.size≤b:=fun b hb=>by
   rcases List.mem_cons.mp hb with z | z
   ·rw [z]; exact .inr (Nat.le_refl _)
   ·exact .inl (List.mem_singleton.mp z)
  have gJ:ZaO (s.heap.push { cls:=.type "set_iterator",data:=.fields #[rawInt 0,rawInt 0,.ref a,rawInt es.size,rawInt ep] }) s.heap.objs.size (.int 0 0) 0 a ks.length ep:=by
   unfold ZaO
   rw [Heap.get?_push_size _ rfl,S.len]
   rfl
  by_cases hb:byT w=true
  ·exact q _ _ s.drawn _ [s.heap.objs.size,a] _ (Jh _ es) (Zko hh hb (o:=o) (t:=t) (Nat.ne_of_lt ha) S.len) ⟨gJ,V.keep fun o e=>Heap.get?_push_of_some _ e⟩ fpk (Nat.le_refl _) fun b u e=>Heap.get?_push_of_some _ e
  ·have hb':byT w=false:=by simpa using hb
   have led:t.led=true:=by rw [S.led,hb']; rfl
   have h1:ks.length≤1:=by
    rcases Nat.lt_or_ge 1 ks.length with z | z
    ·have hpf:=S.plain (fun e=>by rw [e] at z; simp at z)
     exact absurd (by rw [hb',hpf,S.len]; simp; omega) c
    ·exact z
   refine q _ _ s.drawn es [s.heap.objs.size,a] _ (List.Perm.refl _) (Zkp hh hb' (o:=o) (t:=t) (ep:=ep) (Nat.ne_of_lt ha) S.len h1 led S.fits) ⟨⟨0,gJ,fun _=>rfl,fun z=>?_⟩,V.keep fun o e=>Heap.get?_push_of_some _ e⟩ fpk (Nat.le_refl _) fun b u e=>Heap.get?_push_of_some _ e
   have:es.size=0:=by rw [S.len]; exact z.symm
   exact Array.getElem?_eq_none (by omega)
end
theorem Ze9:∀ {ks xs:List Str},ks.Nodup→(∀ x∈ks,x∈xs)→xs.length=ks.length→xs.Perm ks
 | [],xs,_,_,hl=>by rw [List.length_eq_zero_iff.mp hl]
 | k :: ks,xs,nd,hs,hl=>by
  have nd':=List.nodup_cons.mp nd
  have hk:=hs k (List.mem_cons_self ..)
  have p:=List.perm_cons_erase hk
  refine p.trans (List.Perm.cons k (Ze9 nd'.2 (fun x hx=>?_) ?_))
  ·have hne:x≠k:=fun e=>nd'.1 (e ▸ hx)
   exact (List.mem_erase_of_ne hne).mpr (hs x (List.mem_cons_of_mem _ hx))
  ·rw [List.length_erase_of_mem hk,hl]
   rfl
section
variable {prog:Program} {w:World} {A:Around} {E:Value→Shared→Prop} {s:Shared}
theorem ZgW {r:Addr} {Q:Bool→Shared→Prop} (hT:s.TypeIs (.ref r) "set") (q:Q false s):wpAny (model prog w) A (Builtin.List.listLengthHint (.ref r)) Q E s:=by
 unfold Builtin.List.listLengthHint
 refine wpAny_bind (wpAny_specialOf hT PySem.F.slot_set_len.lookup ?_)
 generalize hid:("set.__len__" : String)=nm
 wp_delta
 rw [show splitId nm=some ("set","__len__") from by subst hid; decide +kernel]
 subst hid
 refine wpAny_bind (wpAny_isInstance (T:="set") (b:=true) hT (by rw [isSubtype_type]; kernel_rfl) ?_)
 refine wpAny_ite_split (fun z=>absurd z (by decide)) fun _=>wpAny_ite_split (fun _=>?_) fun z=>absurd (by decide +kernel) z
 exact wpAny_bind (wpAny_typeOf hT (wpAny_pure q))
theorem ZdO {R:Result→Shared→Prop} {a S:Addr} {ks:List Str} {o:Obj} {es:Array (Int × Value)} {ep:Nat} {t:SetTable} {c₀:Nat} {res:Value} (hh:A.handled=none) (T:StT prog w s.heap a ks o es ep t) (hz:ks.length≤1000) (hSa:S≠a) (hS:s.heap.get? S=some { cls:=.type "list",data:=.seq #[] c₀ })
  (q:∀ h1 tk d acc c (ord:Array (Int × Value)),ord.toList.Perm es.toList→(∀ b u,b≠S→s.heap.get? b=some u→h1.get? b=some u)→h1.get? S=some { cls:=.type "list",dict:=none,data:=.seq acc c,slots:=#[] }→ItemsOf (ZhD ord) acc ks.length→R (.ok (.ret res)) { s with heap:=h1,toks:=tk,drawn:=d }) :
  wpAny (model prog w) A.in1 (Builtin.List.listExtendWith (.ref S) (.ref a) res) (fun fin s'=>match fin with | .done f=>R (.ok f) s' | .again c'=>c'.quiet=true∧codeAny (model prog w) A c' R s') (fun e s'=>R (.error e) s') s:=by
 have hT:s.TypeIs (.ref a) "set":=⟨o,T.ob,T.ex.1⟩
 have hSl:S < s.heap.objs.size:=Heap.lt_size hS
 unfold Builtin.List.listExtendWith
 refine wpAny_bind (wpAny_typeOf (T:="set") hT ?_)
 have h1:Builtin.List.listSameRef (.ref S) (.ref a)=false:=by simp [Builtin.List.listSameRef,hSa]
 have n1:(Value.type "set" == Value.type "list")=false:=by decide
 have n2:(Value.type "set" == Value.type "tuple")=false:=by decide
 simp only [h1,n1,n2,Bool.or_false,Bool.false_eq_true,if_false]
 refine wpAny_bind (ZgU (A':=A.in1) hh T hz fun J g d ord fp St hp W st hfp hJ kk=>?_)
 have gS:=kk _ _ hS
 have nf:S∉fp:=fun z=>by
  rcases hfp S z with y | y
  ·exact hSa y
  ·exact absurd hSl (Nat.not_lt.mpr y)
 have key:∀ (h:Heap) (c₁ tk:Nat),St 0 h→(∀ b u,b≠S→s.heap.get? b=some u→h.get? b=some u)→h.get? S=some { cls:=.type "list",data:=.seq #[] c₁ }→codeAny (model prog w) A (.builtin "list.extend.loop" ⟨[.ref S,.ref J,res],[]⟩) R { s with heap:=h,toks:=tk,drawn:=d }:=by
  intro h c₁ tk hst hk hS₁
  refine codeAny_extend_loopS W.toS (XQ hz) S nf res ks.length 0 _ #[] c₁ rfl (Nat.zero_le _) hst hS₁ (ItemsOf.nil _) fun s2 acc c mv hS2 hacc=>?_
  rw [Moved.eq_with mv]
  refine q s2.heap s2.toks d acc c ord hp (fun b u hb e=>mv.heap b u (fun z=>?_) (hk b u hb e)) hS2 hacc
  rcases List.mem_cons.mp z with y | y
  ·exact hb y
  ·exact absurd (Heap.lt_size e) (by rw [List.mem_singleton.mp y]; exact Nat.not_lt.mpr hJ)
 refine wpAny_bind (wpAny_holding (ZgW (s:={ s with heap:=g,drawn:=d }) ⟨o,kk _ _ T.ob,T.ex.1⟩ ?_))
 refine wpAny_ite_split (fun _=>?_) (fun _=>wpAny_pure ⟨plainId_quiet PySem.F.plain_extend_loop _,key _ c₀ _ st (fun b u _ e=>kk b u e) gS⟩)
 refine wpAny_bind (wpAny_rule (wpAny_bind ?_))
 refine (show wpAny _ _ (updateSeq S (·.push .none) >>= fun _=>updateSeq S (·.pop)) _ _ _ from wpAny_bind (wpAny_updateSeq gS rfl ?_))
 have g2:=Heap.get?_update_self (Obj.mapSeq (·.push Value.none)) gS rfl
 refine wpAny_updateSeq (hz:=by seq_fits) g2 rfl ?_
 have g3:=Heap.get?_update_self (Obj.mapSeq (·.pop)) g2 rfl
 refine wpAny_pure ⟨plainId_quiet PySem.F.plain_extend_loop _,key _ _ _ (W.frame 0 _ _ st fun b hb u e=>?_) (fun b u hb e=>?_) g3⟩
 ·have ne:b≠S:=fun z=>nf (z ▸ hb)
  exact (Heap.get?_update_other _ _ (Ne.symm ne)).trans ((Heap.get?_update_other _ _ (Ne.symm ne)).trans e)
 ·exact (Heap.get?_update_other _ _ (Ne.symm hb)).trans ((Heap.get?_update_other _ _ (Ne.symm hb)).trans (kk _ _ e))
theorem Zcz {R:List Value→Shared→Prop} {a:Addr} {ks:List Str} {o:Obj} {es:Array (Int × Value)} {ep:Nat} {t:SetTable} (hh:A.handled=none) (T:StT prog w s.heap a ks o es ep t) (hz:ks.length≤1000)
  (q:∀ h1 tk d (acc:Array Value) (ord:Array (Int × Value)),ord.toList.Perm es.toList→(∀ b u,s.heap.get? b=some u→h1.get? b=some u)→ItemsOf (ZhD ord) acc ks.length→R acc.toList { s with heap:=h1,toks:=tk,drawn:=d }) :
  wpAny (model prog w) A (collect (.ref a)) R E s:=by
 have ha:a < s.heap.objs.size:=Heap.lt_size T.ob
 unfold collect
 refine wpAny_bind (wpAny_runValue (codeAny_builtin entry_proto_collect' ?_))
 rw [Around.under_plainId PySem.F.plain_proto_collect _]
 refine (show wpAny _ A.in1 (newList [] >>= fun l=>again (.builtin "list.__iadd__" ⟨[l,.ref a],[]⟩)) _ _ s from wpAny_bind (wpAny_newObj_type (wpAny_pure ⟨plainId_quiet PySem.F.plain_list_iadd _,codeAny_builtin entry_list_iadd' ?_⟩)))
 rw [Around.under_plainId PySem.F.plain_list_iadd _]
 have gS:(s.heap.push { cls:=.type "list",data:=.seq ([]:List Value).toArray }).get? s.heap.objs.size=some { cls:=.type "list",data:=.seq #[] }:=Heap.get?_push_size _ rfl
 show wpAny _ A.in1 (Builtin.List.listExtendWith (.ref s.heap.objs.size) (.ref a) (.ref s.heap.objs.size)) _ _ _
 have T1:StT prog w (s.heap.push { cls:=.type "list",data:=.seq ([]:List Value).toArray }) a ks o es ep t:={ T with ob:=Heap.get?_push_of_some _ T.ob }
 have key:=ZdO (A:=A) (s:={ s with heap:=s.heap.push { cls:=.type "list",data:=.seq ([]:List Value).toArray } })
  (R:=fun (z:Result) (s':Shared)=>∃ (g:Heap) (tk:Nat) (d:Drawn) (acc:Array Value) (c:Nat) (ord:Array (Int × Value)),z = .ok (.ret (.ref s.heap.objs.size))∧s'={ s with heap:=g,toks:=tk,drawn:=d }∧ord.toList.Perm es.toList ∧
   (∀ b u,s.heap.get? b=some u→g.get? b=some u)∧g.get? s.heap.objs.size=some { cls:=.type "list",dict:=none,data:=.seq acc c,slots:=#[] }∧ItemsOf (ZhD ord) acc ks.length)
  (S:=s.heap.objs.size) (res:=.ref s.heap.objs.size) (c₀:=0) hh T1 hz (Nat.ne_of_gt ha) gS (fun g tk d acc c ord hp kk gS2 hacc=>⟨g,tk,d,acc,c,ord,rfl,rfl,hp,fun b u e=>kk b u (Nat.ne_of_lt (Heap.lt_size e)) (Heap.get?_push_of_some _ e),gS2,hacc⟩)
 refine wpAny_mono key (fun fin s' x=>?_) fun e s' x=>?_
 ·cases fin with
  | done f =>
   obtain ⟨g,tk,d,acc,c,ord,e,rfl,hp,kk,gS2,hacc⟩:=x
   cases e
   exact (show wpAny _ A (load s.heap.objs.size >>= _) _ _ _ from wpAny_bind (wpAny_load gS2 (wpAny_pure (q g tk d acc ord hp kk hacc))))
  | again c1 =>
   refine ⟨x.1,codeAny_mono x.2 fun z s2 y=>?_⟩
   obtain ⟨g,tk,d,acc,c,ord,rfl,rfl,hp,kk,gS2,hacc⟩:=y
   exact (show wpAny _ A (load s.heap.objs.size >>= _) _ _ _ from wpAny_bind (wpAny_load gS2 (wpAny_pure (q g tk d acc ord hp kk hacc))))
 ·obtain ⟨_,_,_,_,_,_,z,_⟩:=x
  cases z
theorem Zes {h:Heap} {a:Addr} {ks:List Str} {o:Obj} {es:Array (Int × Value)} {ep:Nat} {t:SetTable} (T:StT prog w h a ks o es ep t) {ord:Array (Int × Value)} (hp:ord.toList.Perm es.toList) {acc:Array Value} (hacc:ItemsOf (ZhD ord) acc ks.length) :
  ∃ xs:List Str,xs.Perm ks∧StrsAre acc.toList xs:=by
 have hol:ord.toList.length=ks.length:=by rw [hp.length_eq,Array.length_toList,T.len]
 have el:∀ e∈ord.toList,∃ x tk,e.2 = .str x tk∧x∈ks:=fun e he=>by
  have hm:=hp.mem_iff.mp he
  obtain ⟨⟨k,hk,_⟩,_⟩:=T.el e hm
  obtain ⟨x,ek,hx⟩:=(T.mem k).mpr ⟨e,hm,hk⟩
  subst ek
  rcases keyIs_shape (show Js (Sum.inr x) e.2=true from hk) with ⟨j,t,e4,_⟩ | ⟨z,t,e4,e5⟩
  ·cases e4
  ·injection e4 with e4
   exact ⟨x,t,by rw [e5,e4],hx⟩
 have key:∀ (l:List (Int × Value)),(∀ e∈l,∃ x tk,e.2 = .str x tk∧x∈ks)→∃ xs:List Str,StrsAre (l.map (·.2)) xs∧(∀ x∈xs,x∈ks)∧xs.length=l.length∧∀ x,(∃ e∈l,Js (Sum.inr x) e.2=true)→x∈xs:=by
  intro l
  induction l with
  | nil=>exact fun _=>⟨[],.nil,(fun x hx=>by cases hx),rfl,(fun x ⟨e,he,_⟩=>by cases he)⟩
  | cons e l ih =>
   intro hl
   obtain ⟨xs,h1,h2,h3,h4⟩:=ih fun e he=>hl e (List.mem_cons_of_mem _ he)
   obtain ⟨x,tk,ex,hx⟩:=hl e (List.mem_cons_self ..)
   refine ⟨x :: xs,?_,fun y hy=>?_,by simp [h3],fun y ⟨e',he',hk⟩=>?_⟩
   ·rw [List.map_cons,ex]
    exact .cons x tk h1
   ·rcases List.mem_cons.mp hy with z | z
    ·rw [z]; exact hx
    ·exact h2 y z
   ·rcases List.mem_cons.mp he' with z | z
    ·subst z
     rw [ex] at hk
     rcases keyIs_shape hk with ⟨j,t,e4,_⟩ | ⟨z,t,e4,e5⟩
     ·cases e4
     ·injection e4 with e4
      injection e5 with e5 _
      rw [e4,← e5]
      exact List.mem_cons_self ..
    ·exact List.mem_cons_of_mem _ (h4 y ⟨e',z,hk⟩)
 obtain ⟨xs,h1,h2,h3,h4⟩:=key ord.toList el
 have hsub:∀ x∈ks,x∈xs:=fun x hx=>by
  obtain ⟨e,he,hk⟩:=(T.mem (Sum.inr x)).mp ⟨x,rfl,hx⟩
  exact h4 x ⟨e,hp.mem_iff.mpr he,hk⟩
 refine ⟨xs,?_,?_⟩
 ·exact Ze9 T.nd hsub (by omega)
 ·have:acc.toList=ord.toList.map (·.2):=by
   apply List.ext_getElem?
   intro i
   by_cases hi:i < acc.toList.length
   ·obtain ⟨e,e1,e2⟩:=hacc.2 i acc.toList[i] (by rw [← Array.getElem?_toList]; exact List.getElem?_eq_getElem hi)
    rw [List.getElem?_eq_getElem hi,List.getElem?_map,Array.getElem?_toList,e1,e2]
    rfl
   ·have hl:=hacc.1
    rw [← Array.length_toList] at hl
    rw [List.getElem?_eq_none (by omega),List.getElem?_eq_none (by rw [List.length_map]; omega)]
  rw [this]
  exact h1
end
section
variable {X:Cx} {pins:List (Addr × Obj)} {σ:St} {H:Hp} {s:Shared}
theorem Inv.drw (I:Inv X pins σ H s) (d:Drawn):Inv X pins σ H { s with drawn:=d }:=by
 refine I.step (h':=s.heap) (t':=s.toks) (g':=s.gens) (d':=d) (ch:=[]) (fun b hb=>by cases hb) (fun b u _ _ _ e _=>e) (fun b u _ _ _ e _=>⟨u.slots,e⟩) (fun b u _ e n=>n) (fun b u _ e=>⟨u,e⟩) (fun b xs e=>e) (fun b u xs e=>e) (fun b ps e=>⟨#[],by rw [e]; simp⟩) (fun m hm=>hm) I.hok I.bare
end
def stO (X:Cx) (p:Addr) (ks:List Str):HO:=.ext fun h=>SetT X.prog X.w h p ks
theorem Zbz {X:Cx} (hc:X.calm=true):CallR X (.type "set") (fun xs H Q=>∃ (a:Addr) (ss:List Str),xs=[.ref a]∧SqL X.K H a (ss.map V.str)∧ss.length≤1000 ∧
  ∀ (p:Addr) (ks:List Str),H p=none→ks.Nodup→(∀ x,x∈ks↔x∈ss)→ks.length≤ss.length→Q (.ref p) (upd H p (stO X p ks))):=by
 intro pins s σ H xs us Q I r h
 obtain ⟨a,ss,rfl,hq,h1k,q⟩:=h
 obtain ⟨u,rfl,ru⟩:=Y5 r
 cases ru
 obtain ⟨its,rv,pl,hz⟩:=I.list hq
 have hl:=rv.length
 rw [List.length_map] at hl
 refine Zby (I.ok.hd hc) pl.isList (by simpa using YU rv) (by rw [List.size_toArray]; show its.length + 1 < 4096; omega) fun h1 tk hS kk=>?_
 have ez:its.toArray.size=ss.length:=by rw [List.size_toArray,hl]
 rw [ez] at hS
 have hn:H s.heap.objs.size=none:=I.hok.fresh (Nat.le_refl _)
 obtain ⟨o,es,ep,t,T⟩:=id hS
 refine ⟨.ref s.heap.objs.size,_,I.laid (t':=tk) (o:=stO X s.heap.objs.size _) kk (Nat.le_refl _) ⟨hS,⟨o,T.ob⟩,fun g1 g2 z k=>z.keep k⟩,rfl,q _ _ hn T.nd (fun x=>?_) (Zco _ _)⟩
 rw [Zcn]
 constructor
 ·rintro ⟨j,hj,e⟩
  rw [← e,List.getD_eq_getElem?_getD,List.getElem?_eq_getElem hj]
  exact List.getElem_mem hj
 ·intro hx
  obtain ⟨j,hj,e⟩:=List.getElem_of_mem hx
  exact ⟨j,hj,by rw [List.getD_eq_getElem?_getD,List.getElem?_eq_getElem hj]; exact e⟩
end L2
namespace Sh
open PySem L2 PyProof.Rows
end Sh
namespace Sh
open PySem L2 PyProof.Rows
seal L2.PE L2.PS L2.PSs L2.PT L2.PW L2.PA L2.PI L2.PG L2.PGs L2.PO L2.PC L2.PCs L2.OpR L2.UnR L2.CallR L2.MtR L2.IxR L2.SlR
theorem Y6 (g:Str→V) (y:Str):∀ ks:List Str,Y4 (ks.map fun x=>((Sum.inr x:Key),g x)) (Sum.inr y)=if y∈ks then some (g y) else none
 | []=>rfl
 | x :: ks=>by
  have ih:=Y6 g y ks
  by_cases e:x=y
  ·subst e
   rw [List.map_cons,X0 rfl,if_pos List.mem_cons_self]
  ·rw [List.map_cons,X1 (fun q=>e (Sum.inr.inj q)),ih]
   have:(y∈x :: ks)↔y∈ks:=by
    rw [List.mem_cons]
    exact ⟨fun h=>h.elim (fun q=>absurd q.symm e) id,.inr⟩
   simp only [this]
theorem XD (g:Str→V) (y:Str) (v:V) (ks:List Str) (h:y∈ks):Xw (ks.map fun x=>((Sum.inr x:Key),g x)) (Sum.inr y) v=ks.map fun x=>((Sum.inr x:Key),if x=y then v else g x):=by
 unfold Xw
 rw [X2,Y6,if_pos h]
 simp only [Option.isSome_some,if_true,List.map_map]
 apply List.map_congr_left
 intro x _
 by_cases e:x=y
 ·subst e
  simp
 ·have:¬ (Sum.inr x:Key)=Sum.inr y:=fun q=>e (Sum.inr.inj q)
  simp [this,e]
end Sh
namespace Sh
open PySem L2 PyProof.Rows
end Sh
namespace Sh
open PySem L2 PyProof.Rows
seal L2.PE L2.PS L2.PSs L2.PT L2.PW L2.PA L2.PI L2.PG L2.PGs L2.PO L2.PC L2.PCs L2.OpR L2.UnR L2.CallR L2.MtR L2.IxR L2.SlR
theorem XA:∀ {l m:List (List Nat)},l.Pairwise (· < ·)→m.Pairwise (· < ·)→(∀ x,x∈l↔x∈m)→l=m
 | [],[],_,_,_=>rfl
 | [],y :: m,_,_,h=>absurd ((h y).mpr List.mem_cons_self) (by simp)
 | x :: l,[],_,_,h=>absurd ((h x).mp List.mem_cons_self) (by simp)
 | x :: l,y :: m,hl,hm,h=>by
  have h1:=List.pairwise_cons.mp hl
  have h2:=List.pairwise_cons.mp hm
  have e:x=y:=by
   rcases List.mem_cons.mp ((h x).mp List.mem_cons_self) with z | z
   ·exact z
   ·rcases List.mem_cons.mp ((h y).mpr List.mem_cons_self) with z2 | z2
    ·exact z2.symm
    ·exact absurd (List.lt_trans (h1.1 y z2) (h2.1 x z)) (List.lt_irrefl _)
  subst e
  have ih:=XA h1.2 h2.2 fun z=>by
   constructor
   ·intro hz
    rcases List.mem_cons.mp ((h z).mp (List.mem_cons_of_mem _ hz)) with q | q
    ·subst q
     exact absurd (h1.1 z hz) (List.lt_irrefl _)
    ·exact q
   ·intro hz
    rcases List.mem_cons.mp ((h z).mpr (List.mem_cons_of_mem _ hz)) with q | q
    ·subst q
     exact absurd (h2.1 z hz) (List.lt_irrefl _)
    ·exact q
  rw [ih]
def gD (ks:List Str) (g:Str→Int):List (Key × V):=ks.map fun x=>((Sum.inr x:Key),V.int (g x))
theorem Jw (ks:List Str) (g:Str→Int):(gD ks g).length=ks.length:=by unfold gD; rw [List.length_map]
theorem Xr (ks:List Str) (g:Str→Int) (y:Str):Y4 (gD ks g) (Sum.inr y)=if y∈ks then some (.int (g y)) else none:=Y6 (fun x=>V.int (g x)) y ks
theorem Zde {ks:List Str} {g g':Str→Int} (h:∀ x∈ks,g x=g' x):gD ks g=gD ks g':=by
 unfold gD
 exact List.map_congr_left fun x m=>by rw [h x m]
theorem Zdd (ks:List Str) (g:Str→Int) (y:Str) (n:Int):Xw (gD ks g) (Sum.inr y) (.int n)=gD (if y∈ks then ks else ks ++ [y]) fun x=>if x=y then n else g x:=by
 by_cases m:y∈ks
 ·rw [if_pos m]
  unfold gD
  rw [XD _ _ _ _ m]
  apply List.map_congr_left
  intro x _
  dsimp only
  by_cases e:x=y
  ·rw [if_pos e,if_pos e]
  ·rw [if_neg e,if_neg e]
 ·rw [if_neg m,X6 _ (by rw [Xr,if_neg m])]
  unfold gD
  rw [List.map_append,List.map_singleton]
  dsimp only
  rw [if_pos rfl]
  congr 1
  apply List.map_congr_left
  intro x hx
  have ne:¬ x=y:=by
   intro e
   rw [e] at hx
   exact m hx
  rw [if_neg ne]
theorem ZiJ (ks:List Str) (g:Str→Int) (y:Str):Zbu (gD ks g) (Sum.inr y)=gD (ks.filter fun x=>decide (x≠y)) g:=by
 unfold Zbu gD
 induction ks with
 | nil=>rfl
 | cons x ks ih =>
  rw [List.map_cons,List.filter_cons,List.filter_cons,ih]
  by_cases e:x=y
  ·subst e
   simp
  ·have h1:decide ((Sum.inr x:Key)≠Sum.inr y)=true:=decide_eq_true fun q=>e (by injection q)
   have h2:decide (x≠y)=true:=decide_eq_true e
   rw [if_pos h1,if_pos h2,List.map_cons]
end Sh
namespace L2
open PySem PySem.Spec PyProof.Rows
section
variable {prog:Program} {w:World} {A:Around} {R:Result→Shared→Prop} {it:Addr} {fp wr:List Addr} {n:Nat} {Pv:Nat→Value→Prop} {Sv:Nat→Heap→Prop}
end
theorem Zic {k:Key} {u:Value} (h:Js k u=true):RelV (kV k) u:=by
 rcases keyIs_shape h with ⟨i,t,rfl,rfl⟩ | ⟨x,t,rfl,rfl⟩
 ·exact ⟨t,rfl⟩
 ·exact ⟨t,rfl⟩
theorem ZjY {kvs:List (Key × V)} {vs:List (Key × Value)} (r:KV kvs vs):∀ {i:Nat} {p:Key × V},kvs[i]?=some p→∃ q,vs[i]?=some q∧p.1=q.1∧RelV p.2 q.2:=by
 unfold KV at r
 induction r with
 | nil=>intro i p e; simp at e
 | @cons a b as bs h t ih =>
  intro i p e
  cases i with
  | zero =>
   simp at e
   subst e
   exact ⟨b,rfl,h⟩
  | succ i =>
   obtain ⟨q,e2,r⟩:=ih (i:=i) (p:=p) (by simpa using e)
   exact ⟨q,by simpa using e2,r⟩
section
variable {X:Cx} {pins:List (Addr × Obj)} {σ:St} {H H':Hp} {s s':Shared} {d:Addr} {o:Obj} {kvs kvs':List (Key × V)}
theorem Inv.frozen (I:Inv X pins σ H s) (hd:H d=some (.dK kvs)):∃ o,Inv X pins σ (upd H d (.frz o (.dK kvs))) s:=by
 have q:=I.hok d _ hd
 obtain ⟨z,lo,vs,kv,dd⟩:=id q
 obtain ⟨o,es,ep,ho,r⟩:=id dd
 refine ⟨o,I.write (h':=s.heap) (t':=s.toks) (x:=d) (e:=d) (by rw [hd]; exact True.intro) (.inl rfl) (fun _ _ _ z=>z) ⟨o,ho⟩ ⟨ho,z,lo,vs,kv,dd⟩⟩
theorem Inv.thaw (I:Inv X pins σ H s) (hd:H d=some (.dK kvs)) (J:Inv X pins σ H' s') (e:H' d=some (.frz o (.dK kvs'))):Inv X pins σ (upd H' d (.dK kvs')) s':=by
 have nn:∀ b,H' b=none→upd H' d (.dK kvs') b=none:=fun b z=>by
  rw [Zj]
  ·exact z
  ·intro w; rw [w,e] at z; cases z
 refine { J with base:=⟨J.base.keep,J.base.slot,fun b ob h1 h2 h3=>nn b (J.base.free b ob h1 h2 h3),J.base.there,fun b xs h1=>?_,fun b ob u h1=>?_,fun b ps h1=>?_⟩,free:=nn _ J.free,freeC:=fun x c h=>nn _ (J.freeC x c h),pin:=fun p hp=>?_,hok:=fun b u h1=>?_ }
 ·have h2:=J.base.tups b xs h1
  rw [Zj]
  ·exact h2
  ·intro w; rw [w,e] at h2; cases h2
 ·by_cases w:b=d
  ·have h2:=I.base.frzs b ob u h1
   rw [w,hd] at h2
   cases h2
  ·rw [Zj w]
   exact J.base.frzs b ob u h1
 ·obtain ⟨more,h2⟩:=J.base.tbls b ps h1
  refine ⟨more,?_⟩
  rw [Zj]
  ·exact h2
  ·intro w; rw [w,e] at h2; cases h2
 ·obtain ⟨p1,p2,p3⟩:=J.pin p hp
  exact ⟨p1,nn _ p2,p3⟩
 ·have ho:∀ (a:Addr) (b:Addr),H' b=some (.own a)→upd H' d (.dK kvs') b=some (.own a):=fun a b z=>by
   rw [Zj]
   ·exact z
   ·intro w; rw [w,e] at z; cases z
  have ht:∀ (b:Addr) xs,H' b=some (.tup xs)→upd H' d (.dK kvs') b=some (.tup xs):=fun b xs z=>by
   rw [Zj]
   ·exact z
   ·intro w; rw [w,e] at z; cases z
  by_cases w:b=d
  ·subst w
   rw [Zc] at h1
   cases h1
   obtain ⟨_,q⟩:=J.hok b _ e
   exact q.stay (fun _ _ _ z=>z) (ho b) ht
  ·rw [Zj w] at h1
   exact (J.hok b u h1).stay (fun _ _ _ z=>z) (ho b) ht
end
def ZlD (t:TE):TE:=fun σ H Q=>∃ d kvs,H d=some (.dK kvs)∧∀ o,t σ (upd H d (.frz o (.dK kvs))) fun v H'=>H' d=some (.frz o (.dK kvs))∧Q v (upd H' d (.dK kvs))
theorem Zjy {X:Cx} {e:Expr} {t:TE} (h:PE X e t):PE X e (ZlD t):=by
 intro pins s σ H Q I q
 obtain ⟨d,kvs,hd,q⟩:=q
 obtain ⟨o,I1⟩:=I.frozen hd
 exact thn (h pins s σ _ _ I1 (q o)) fun u s2 ⟨v,H2,I2,r,e2,q2⟩=>⟨v,_,I.thaw hd I2 e2,r,q2⟩
theorem ZhK {X:Cx} {pins:List (Addr × Obj)} {σ:St} {H:Hp} {s:Shared} {d:Addr} {o:Obj} {kvs:List (Key × V)} {es:Array DictEntry} {ep:Nat} (I:Inv X pins σ H s) (hd:H d=some (.frz o (.dK kvs))) (ho:o.data = .dict es ep) :
  ∃ vs,KV kvs vs∧s.heap.DictAt (Zp X.prog X.w) d vs ep∧(d == sysModules)=false:=by
 obtain ⟨h1,z,lo,vs,kv,o',es',ep',h2,h3,h4,h5⟩:=I.hok d _ hd
 rw [h1] at h2
 cases h2
 rw [ho] at h4
 cases h4
 exact ⟨vs,kv,⟨o,es,h1,h3,ho,h5⟩,lo⟩
theorem Za8 {X:Cx} (hu:X.A.units + 64 < cLine):OpR X (compareOp .NotEq) (fun x y H Q=>∃ da db,RepD H da x∧RepD H db y∧SeqAt.shaped da=true∧SeqAt.shaped db=true∧Q (.bl (!PyData.eqv da db)) H):=by
 intro pins s σ H x y v u Q I rx ry h
 obtain ⟨da,db,r1,r2,s1,s2,q⟩:=h
 obtain ⟨as,q1⟩:=RepD.reads I da x v r1 rx
 obtain ⟨bs,q2⟩:=RepD.reads I db y u r2 ry
 exact ne_dataH q1 q2 s1 s2 hu ⟨.bl _,H,I,rfl,q⟩
theorem Y7 {t u:TS} {D:ZfX} {σ:L2.St} {H:Hp} (I:L2.St→Hp→Prop) (h:∀ R:L2.St→Hp→Prop,(∀ σ' H',I σ' H'→R σ' H')→t { D with nx:=R } σ H) (hu:∀ σ' H',I σ' H'→u D σ' H'):ZfY t u D σ H:=h _ hu
theorem Xd {X:Cx}:MtR X "list.pop" Zll:=ZjR
section
variable {X:Cx} {pins:List (Addr × Obj)} {σ:St} {H:Hp} {s:Shared} {a:Addr} {kvs:List (Key × V)} {k:Key} {u:Value} {A:Around} {E:Value→Shared→Prop}
theorem Zj9 {z:V} {r:Value} {Q:Value→Shared→Prop} (I:Inv X pins σ H s) (e:H a=some (.dK kvs)) (ry:RelV (kV k) u) (rz:RelV z r) (hl:kvs.length < sizeLine) (h1:∀ v w' s',Y4 kvs k=some v→RelV v w'→Inv X pins σ H s'→Q w' s')
  (h2:Y4 kvs k=none→∀ s',Inv X pins σ (upd H a (.dK (Xw kvs k z))) s'→Q r s'):wpAny (model X.prog X.w) A (call (.builtin "dict.setdefault") [.ref a,u,r]) Q E s:=by
 obtain ⟨zz,hd,vs,rel,dd⟩:=Jz I.hok e
 refine call_meetsIn PySem.F.slot_dict_setdefault dd.typeIs PySem.F.entry_dict_setdefault (PySem.F.args_dict_setdefault_3 _ _ _) (kt_meets_setdefault (Zp X.prog X.w) a (Jt ry) hd r) ⟨vs,dd,by rw [← rel.length]; exact zz,fun v hv=>?_,fun hn h' dd' hs=>?_⟩
 ·have q:=rel.val k
  rw [hv] at q
  cases l:Y4 kvs k with
  | none=>rw [l] at q; exact (show False from q).elim
  | some v'=>rw [l] at q; exact h1 v' v _ l q (I.tok _)
 ·have q:=rel.val k
  rw [hn] at q
  have hlp:(Xw kvs k z).length≤sizeLine:=by have:=Yz kvs k z; omega
  have he:∃ q,h'.get? a=some q:=let ⟨q,_,_,hq,_⟩:=dd'; ⟨q,hq⟩
  cases l:Y4 kvs k with
  | none=>exact h2 l _ (XM I (by rw [e]; exact True.intro) hs he (Zbw hlp hd (rel.put k rz) dd'))
  | some v'=>rw [l] at q; exact (show False from q).elim
end
def ZkB (td ty tx:TE):TE:=fun σ H Q=>td σ H fun x H1=>∃ a,x = .ref a∧IsD H1 a∧ty σ H1 fun y H2=>tx σ H2 fun z H3=>∃ kvs k,H3 a=some (.dK kvs)∧y=kV k∧kvs.length < sizeLine ∧
 (∀ v,Y4 kvs k=some v→Q v H3)∧(Y4 kvs k=none→Q z (upd H3 a (.dK (Xw kvs k z))))
theorem Zb7 {X:Cx} {o e f:Expr} {apos cpos:Pos} {td ty tx:TE} (ho:PE X o td) (he:PE X e ty) (hf:PE X f tx) (m:M2 X o "setdefault" apos e f cpos):PE X (.Call (.Attribute o "setdefault" apos) [e,f] [] cpos) (ZkB td ty tx):=by
 intro pins s σ H Q I h
 refine wpAny_Call_method m.base m.few m.line PySem.F.plainAttrs_dict PySem.F.slot_dict_setdefault PySem.F.type_dict_setdefault (thn (ho pins s σ H _ I h) fun u s1 ⟨x,H1,I1,rx,a,ex,d,q1⟩=>?_)
 subst ex
 obtain rfl:u=Value.ref a:=rx
 obtain ⟨t1,t2,_⟩:=Zbp I1 d
 refine ⟨t1,t2,?_⟩
 rw [m.trees]
 refine Calls.callWith_builtin rfl (Calls.evalArgs_plain (Calls.spliced_cons (thn (he pins s1 σ H1 _ I1 q1) fun iv s2 ⟨y,H2,I2,ry,q2⟩ =>
  Calls.spliced_cons (thn (hf pins s2 σ H2 _ I2 q2) fun fv s3 ⟨z,H3,I3,rz,kvs,k,ea,ey,hl,q3,q4⟩=>Calls.spliced_nil ?_))))
 subst ey
 exact Zj9 I3 ea ry rz hl (fun v w' s4 l rw' I4=>⟨v,H3,I4,rw',q3 v l⟩) fun l s4 I4=>⟨z,_,I4,rz,q4 l⟩
end L2
namespace L2
open PySem PySem.Spec PyProof.Rows PySem.Builtin.Str
end L2
namespace Sh
open PySem L2 PyProof.Rows PySem.Builtin.Str
end Sh
namespace L2
open PySem PySem.Spec PyProof.Rows
def Itk (d:Addr) (o:Obj) (kvs:List (Key × V)):It :=
 ⟨fun i H=>H d=some (.frz o (.dK kvs))∧i < kvs.length,fun i H x H'=>H'=H∧∃ p,kvs[i]?=some p∧x=kV p.1,fun i H=>H d=some (.frz o (.dK kvs))∧kvs.length≤i⟩
theorem Zd5 {P:Program} {w:World} {K:PySem.W.Frag} {tg:Expr} (d it:Addr) (o:Obj) (kvs:List (Key × V)) {es:Array DictEntry} {ep:Nat} (hod:o.data = .dict es ep) :
  ZiV P w K tg (Itk d o kvs) [it] it (fun i h=>h.IsKeyIter it d i kvs.length ep) where
 mem:=by simp
 obj:=fun i h he c hc=>by
  have hc:=List.mem_singleton.mp hc
  subst hc
  obtain ⟨ob,g1,g2,g3⟩:=he
  exact ⟨ob,g1,fun v z=>by rw [g3] at z; cases z⟩
 keep:=fun i h h' he kk=>he.at fun ob e=>kk it (by simp) ob e
 item:=by
  intro X hP hw hK hc i pins s σ H E I hf he hg
  subst hP hw hK
  obtain ⟨hd,hi⟩:=hg
  obtain ⟨vs,kv,da,lo⟩:=ZhK I hd hod
  obtain ⟨p,hp⟩:∃ p,kvs[i]?=some p:=⟨_,List.getElem?_eq_getElem hi⟩
  obtain ⟨q,hq,e1,e2⟩:=ZjY kv hp
  obtain ⟨f0,f1,f2,f3,f4,f5⟩:=hf it (by simp)
  have he':s.heap.IsKeyIter it d i vs.length ep:=by rw [← kv.length]; exact he
  refine wpAny_pyNext_dict_item (k:=q.1) he' da hq fun key h1 hkey hit1 sb=>?_
  have I1:Inv X pins σ H { s with heap:=h1 }:=I.turned (t':=s.toks) (fun b u hb e=>(sb.2 b hb).trans e) f0 f1 f3 f4 f5
  refine ⟨key,rfl,letGo_keyiter hit1 ⟨kV p.1,H,I1,by rw [e1]; exact Zic hkey,⟨rfl,p,hp,rfl⟩,by rw [kv.length]; exact hit1,fun b hb=>(hf b hb).1⟩⟩
 done:=by
  intro X hP hw hK hc i pins s σ H E I hf he hg
  subst hP hw hK
  obtain ⟨hd,hi⟩:=hg
  obtain ⟨vs,kv,da,lo⟩:=ZhK I hd hod
  obtain ⟨f0,f1,f2,f3,f4,f5⟩:=hf it (by simp)
  have he':s.heap.IsKeyIter it d i vs.length ep:=by rw [← kv.length]; exact he
  exact wpAny_pyNext_dict_end (I.ok.hd hc) he' da (List.getElem?_eq_none (by rw [← kv.length]; exact hi)) fun h' eb=>⟨rfl,I.turned (t':=s.toks) (fun b u hb e=>eb b u hb e) f0 f1 f3 f4 f5⟩
 self:=fun A i s Q E he h=>wpAny_pyIter_keyiter he h
def Zk4 (td:TE):TI:=fun σ H R=>td σ H fun x H1=>∃ d o kvs,x = .ref d∧H1 d=some (.frz o (.dK kvs))∧R (Itk d o kvs) H1
theorem Zig {X:Cx} {tg ob:Expr} {td:TE} (ho:PE X ob td):PI X tg ob (Zk4 td):=by
 intro pins s σ H R I h
 refine thn (ho pins s σ H _ I h) fun v s1 ⟨x,H1,I1,r1,d,o,kvs,ex,hd,q1⟩=>?_
 subst ex
 obtain rfl:v=Value.ref d:=r1
 obtain ⟨g1,z,lo,vs,kv,dd⟩:=I1.hok d _ hd
 obtain ⟨ep,da⟩:=dd.dictAt
 refine wpAny_pyIter_dict lo da ?_
 obtain ⟨o',es,g2,_,g3,_⟩:=id da
 rw [g1] at g2
 cases g2
 refine ⟨_,[_],_,Itk d o kvs,H1,rfl,I1.kept (t':=s1.toks) fun b u e=>Heap.get?_push_of_some _ e,Zd5 d s1.heap.objs.size o kvs g3,?_,fun b hb=>?_,q1⟩
 ·rw [kv.length]
  exact ⟨_,Heap.get?_push_size _ rfl,rfl,rfl⟩
 ·rw [List.mem_singleton.mp hb]
  exact I1.fpOk (Nat.le_refl _) (I1.hok.fresh (Nat.le_refl _))
theorem ZiG {d:Addr} {o:Obj} {kvs:List (Key × V)} {H1:Hp} (hd:H1 d=some (.frz o (.dK kvs))):∀ H,Same H1 H→(∀ i,i < kvs.length→(Itk d o kvs).go i H∧∀ x H',(Itk d o kvs).yld i H x H'→H'=H∧x=(kvs.map fun p=>kV p.1).getD i .non)∧(Itk d o kvs).stop kvs.length H:=fun H s=>by
 refine ⟨fun i hi=>⟨⟨s _ _ hd,hi⟩,fun x H' y=>?_⟩,⟨s _ _ hd,Nat.le_refl _⟩⟩
 obtain ⟨e,p,hp,ex⟩:=y
 refine ⟨e,?_⟩
 rw [ex,List.getD_eq_getElem?_getD,List.getElem?_map,hp]
 rfl
theorem Zcq {k:Nat} {mp:List Nat} {σ:St} {g:TG} {tc:TT} {te:TE} {J:It} {H1:Hp} {Q:VK} (n:Nat) (xs:Nat→V) (t:Nat→Bool) (R:Nat→V→Hp→Prop) (hn:n≤sizeLine)
  (hR:∀ i v H H',TSame H H'→R i v H→R i v H')
  (hJ:∀ H,Same H1 H→(∀ i,i < n→J.go i H∧∀ x H',J.yld i H x H'→H'=H∧x=xs i)∧J.stop n H)
  (step:∀ i H (Qt:VK) (Qf:Hp→Prop),i < n→Same H1 H→(t i=true→∀ v H6,Same H H6→R i v H6→Qt v H6)→(t i=false→∀ H6,Same H H6→Qf H6)→g (xs i) (lcS k mp σ) H fun σ4 H4=>tc σ4 H4 fun b H5=>if b=true then te σ4 H5 Qt else Qf H5)
  (done:∀ D vs H',vs.length=((List.range n).filter t).length→(∀ (j i:Nat) (v:V),((List.range n).filter t)[j]?=some i→vs[j]?=some v→R i v H')→Same H1 H'→H1 D=none→H' D=some (.lst vs)→Q (.ref D) H'):Jr k mp σ g tc te J H1 Q:=by
 intro D hD
 refine ⟨fun i m acc H=>m=n - i∧i≤n∧acc.length=((List.range i).filter t).length∧Same H1 H∧H D=some (.lst acc)∧∀ (j q:Nat) (v:V),((List.range i).filter t)[j]?=some q→acc[j]?=some v→R q v H,
  ⟨n,by simp,Nat.zero_le _,rfl,Za hD,Zc,fun j q v e _=>by simp at e⟩,?_⟩
 rintro i m acc H ⟨rfl,hi,hl,hs,hDa,hr⟩
 obtain ⟨j1,j2⟩:=hJ H hs
 by_cases hlt:i < n
 ·refine .inr ⟨(j1 i hlt).1,fun x H3 y=>?_⟩
  obtain ⟨e1,e2⟩:=(j1 i hlt).2 x H3 y
  subst e1 e2
  refine step i H3 _ _ hlt hs (fun ht v H6 s6 r6=>⟨s6 _ _ hDa,?_,n - (i + 1),by omega,rfl,hlt,?_,fun b o e=>?_,Zc,fun j q u e1 e2=>?_⟩) (fun ht H6 s6=>⟨n - (i + 1),by omega,rfl,hlt,?_,hs.trans s6,s6 _ _ hDa,fun j q u e1 e2=>?_⟩)
  ·have:=List.length_filter_le t (List.range i)
   rw [List.length_range] at this
   omega
  ·rw [List.range_succ,List.filter_append,List.length_append,List.length_append,hl]
   simp [ht]
  ·rw [Zj (Zl e hD)]
   exact s6 _ _ (hs b o e)
  ·have ts:TSame H6 (upd H6 D (.lst (acc ++ [v]))):=Yb (s6 _ _ hDa)
   rw [List.range_succ,List.filter_append] at e1
   rcases Nat.lt_trichotomy j acc.length with h | h | h
   ·rw [List.getElem?_append_left h] at e2
    rw [List.getElem?_append_left (by omega)] at e1
    exact hR _ _ _ _ (s6.tup.trans ts) (hr j q u e1 e2)
   ·subst h
    rw [List.getElem?_append_right (Nat.le_refl _),Nat.sub_self] at e2
    rw [List.getElem?_append_right (by omega),hl,Nat.sub_self] at e1
    simp [ht] at e1 e2
    subst e1 e2
    exact hR _ _ _ _ ts r6
   ·rw [List.getElem?_eq_none (by rw [List.length_append,List.length_singleton]; omega)] at e2
    cases e2
  ·rw [List.range_succ,List.filter_append,List.length_append,hl]
   simp [ht]
  ·rw [List.range_succ,List.filter_append] at e1
   have hj:j < acc.length:=(List.getElem?_eq_some_iff.mp e2).1
   rw [List.getElem?_append_left (by omega)] at e1
   exact hR _ _ _ _ s6.tup (hr j q u e1 e2)
 ·have e:i=n:=by omega
  subst e
  exact .inl ⟨j2,done D acc H hl hr hs hD hDa⟩
section
variable {prog:Program} {w:World} {A:Around} {E:Value→Shared→Prop} {s:Shared}
end
end L2
namespace Tim
open PySem PySem.W PyProof.Rows
structure SortA (prog:Program) (w:World) (h1:Heap) (vs:List Value) (lt:Nat→Nat→Bool) (κ:SortKind):Prop where
 kd:∀ (A:Around) (E:Value→Shared→Prop) (s:Shared) (Q:SortKind→Shared→Prop),(∀ b o,h1.get? b=some o→s.heap.get? b=some o)→2≤vs.length→Q κ s→wpAny (model prog w) A (keyKind' vs.toArray) Q E s
 ask:∀ (A:Around) (s:Shared) (i j:Nat) (x y:Value) (C:Bool→Shared→Prop),(∀ b o,h1.get? b=some o→s.heap.get? b=some o)→vs[i]?=some x→vs[j]?=some y→(∀ tk,C (lt i j) { s with toks:=tk })→wpAny (model prog w) A (keyLt' κ x y) C (fun _ _=>False) s
section
variable {prog:Program} {w:World} {A:Around} {E:Value→Shared→Prop} {s:Shared}
theorem list_sortS {a:Addr} {vs:List Value} {lt:Nat→Nat→Bool} {κ:SortKind} {n:Nat} {P:PySem.Fin→Shared→Prop} (ho:s.heap.get? a=some (seqObj "list" vs.toArray n)) (h64:vs.length < 64) (o:Srt.Ord vs.length lt)
  (kd:∀ (h6:Heap) (Q:SortKind→Shared→Prop),(∀ b o,b≠a→s.heap.get? b=some o→h6.get? b=some o)→2≤vs.length→Q κ { s with heap:=h6 }→wpAny (model prog w) A (keyKind' vs.toArray) Q E { s with heap:=h6 })
  (ask:∀ (h6:Heap) (tk i j:Nat) (x y:Value) (C:Bool→Shared→Prop),(∀ b o,b≠a→s.heap.get? b=some o→h6.get? b=some o)→vs[i]?=some x→vs[j]?=some y→(∀ tk,C (lt i j) { s with heap:=h6,toks:=tk })→wpAny (model prog w) A (keyLt' κ x y) C (fun _ _=>False) { s with heap:=h6,toks:=tk })
  (h:∀ (h1:Heap) (tk c:Nat) (p:Array Nat),Srt.Pm vs.length p→(∀ i j,i < j→j < vs.length→lt (p.getD j 0) (p.getD i 0)=false)→(∀ b o,b≠a→s.heap.get? b=some o→h1.get? b=some o) →
   h1.get? a=some (seqObj "list" (p.toList.map fun i=>vs.getD i Value.none).toArray c)→P (.done (.ret .none)) { s with heap:=h1,toks:=tk }) :
  wpAny (model prog w) A (Builtin.«list.sort» ⟨[.ref a],[]⟩) P E s:=by
 have ha:a < s.heap.objs.size:=Heap.lt_size ho
 have hz:vs.length≤sizeLine:=by rw [sizeLine_eq]; omega
 rw [list_sort_plain]
 refine wpAny_bind (listItems_at ho rfl (wpAny_bind (listUpdate_at ho rfl ?_ (by rw [List.size_toArray]; exact hz) (Nat.zero_le _))))
 obtain ⟨e1,ho1⟩:∃ e1,(s.heap.update a (Obj.mapSeq fun _=>(#[]:Array Value))).get? a=some (seqObj "list" #[] e1):=⟨_,get?_update_seq ho fun _=>#[]⟩
 have k1:∀ b o,b≠a→s.heap.get? b=some o→(s.heap.update a (Obj.mapSeq fun _=>(#[]:Array Value))).get? b=some o:=fun b o hb q=>(Heap.get?_update_other _ _ (Ne.symm hb)).trans q
 refine wpAny_bind (seqEpoch_at ho1 rfl (wpAny_bind (wpAny_newTuple ?_ (by show vs.length≤_; exact hz))))
 refine wpAny_bind (wpAny_newList ?_ (Nat.zero_le _))
 refine wpAny_holding ?_
 generalize hg:((s.heap.update a (Obj.mapSeq fun _=>(#[]:Array Value))).push { cls:=.type "tuple",data:=.seq vs.toArray.toList.toArray }).push { cls:=.type "list",data:=.seq ([]:List Value).toArray }=h6
 have k6:∀ b o,b≠a→s.heap.get? b=some o→h6.get? b=some o:=fun b o hb q=>by
  rw [← hg]
  exact Heap.get?_push_of_some _ (Heap.get?_push_of_some _ (k1 b o hb q))
 have ho6:h6.get? a=some (seqObj "list" #[] e1):=by
  rw [← hg]
  exact Heap.get?_push_of_some _ (Heap.get?_push_of_some _ ho1)
 show wpAny (model prog w) A _ P E { s with heap:=h6 }
 dsimp only
 have fin:∀ (tk:Nat) (p:Array Nat) (out:Array Value),Srt.Pm vs.length p→(∀ i j,i < j→j < vs.length→lt (p.getD j 0) (p.getD i 0)=false)→out=(p.toList.map fun i=>vs.getD i Value.none).toArray →
   ∃ c,(h6.update a (Obj.mapSeq fun _=>out)).get? a=some (seqObj "list" out c)∧out.size≤sizeLine∧P (.done (.ret .none)) { s with heap:=h6.update a (Obj.mapSeq fun _=>out),toks:=tk }:=fun tk p out hp hu ho'=>by
  have hc:=get?_update_seq ho6 fun _=>out
  refine ⟨_,hc,?_,h _ tk _ p hp hu (fun b o hb q=>(Heap.get?_update_other _ _ (Ne.symm hb)).trans (k6 b o hb q)) (by rw [← ho']; exact hc)⟩
  rw [ho',List.size_toArray,List.length_map,Array.length_toList,hp.size]
  exact hz
 have hr:vs=(List.range vs.length).map fun i=>vs.getD i Value.none:=by
  apply List.ext_getElem?
  intro i
  simp only [List.getElem?_map]
  by_cases hi:i < vs.length
  ·rw [List.getElem?_eq_getElem hi,List.getElem?_range hi,Option.map_some,List.getD_eq_getElem?_getD,List.getElem?_eq_getElem hi]
   rfl
  ·rw [List.getElem?_eq_none (by omega),List.getElem?_eq_none (by simp; omega)]
   rfl
 by_cases h2:vs.toArray.size < 2
 ·rw [if_pos h2,if_pos h2]
  rw [List.size_toArray] at h2
  obtain ⟨c,f1,f2,f3⟩:=fin s.toks (List.range vs.length).toArray vs.toArray ⟨by simp,Array.Perm.refl _⟩ (fun a b hab hb=>by omega) (congrArg List.toArray hr)
  refine wpAny_bind (wpAny_pure ?_)
  rw [StateT.run_pure]
  refine wpAny_bind (wpAny_pure ?_)
  have eo:(arrOf (SortSt.mk' general' (vs.toArray.zip vs.toArray) #[] 7 none)).map (·.2)=vs.toArray:=by
   show (vs.toArray.zip vs.toArray).map (·.2)=vs.toArray
   apply Array.toList_inj.mp
   simp
   exact List.map_snd_zip (Nat.le_refl _)
  dsimp only
  rw [eo]
  refine wpAny_bind (seqEpoch_at ho6 rfl (wpAny_bind (listUpdate_at ho6 rfl ?_ (Nat.zero_le _) (Nat.le_succ_of_le f2))))
  simp only [bne_self_eq_false,Bool.false_eq_true,if_false]
  exact wpAny_pure f3
 ·rw [if_neg h2,if_neg h2]
  rw [List.size_toArray] at h2
  refine wpAny_bind (kd h6 _ k6 (by omega) ?_)
  refine wpAny_bind (wpAny_mono (kat_run (κ:=κ) (ks:=vs) (vs:=vs) (G:=fun p s'=>(∃ tk,s'={ s with heap:=h6,toks:=tk })∧Srt.Pm vs.length p∧Srt.Up lt p vs.length)
   (Q:=fun st' s'=>∃ p:Array Nat,arrOf st'=p.map (kas_item (vs.toArray.zip vs.toArray))∧failedOf st'=none∧(∃ tk,s'={ s with heap:=h6,toks:=tk })∧Srt.Pm vs.length p∧Srt.Up lt p vs.length)
   rfl (by omega) h64 (fun p st' s' _ a2 a3 a4=>⟨p,a2,a3,a4⟩) ?_) ?_ fun _ _ e=>e)
  ·refine Srt.sort (G:=fun s'=>∃ tk,s'={ s with heap:=h6,toks:=tk }) o (fun i j C s' hi hj hij g k=>?_) (by omega) ⟨s.toks,rfl⟩ fun p s' hp hu g=>⟨g,hp,hu⟩
   obtain ⟨tk,rfl⟩:=g
   show wpAny (model prog w) A (keyLt' κ (vs.getD i Value.none) (vs.getD j Value.none)) C (fun _ _=>False) { s with heap:=h6,toks:=tk }
   refine ask h6 tk i j _ _ C k6 ?_ ?_ fun tk2=>k _ ⟨tk2,rfl⟩
   ·rw [List.getD_eq_getElem?_getD,List.getElem?_eq_getElem hi]
    rfl
   ·rw [List.getD_eq_getElem?_getD,List.getElem?_eq_getElem hj]
    rfl
  ·rintro ⟨⟨⟩,st'⟩ s' ⟨p,har,hf',⟨tk,rfl⟩,hp,hu⟩
   obtain ⟨c,f1,f2,f3⟩:=fin tk p _ hp (fun i j hij hj=>o.asy _ _ (hu i j hij hj)) rfl
   dsimp only
   rw [kat_snds rfl har]
   refine wpAny_bind (seqEpoch_at (s:={ s with heap:=h6,toks:=tk }) ho6 rfl (wpAny_bind (listUpdate_at (s:={ s with heap:=h6,toks:=tk }) ho6 rfl ?_ (Nat.zero_le _) (Nat.le_succ_of_le f2))))
   rw [hf']
   simp only [bne_self_eq_false,Bool.false_eq_true,if_false]
   exact wpAny_pure f3
theorem sorted_allS {r:Addr} {Q:Value→Shared→Prop} {Pc:Heap→List Value→Prop} {lt:Nat→Nat→Bool} {κ:SortKind}
  (col:∀ (R:List Value→Shared→Prop),(∀ h1 tk vs,(∀ b o,s.heap.get? b=some o→h1.get? b=some o)→Pc h1 vs→R vs { s with heap:=h1,toks:=tk })→wpAny (model prog w) A.in1 (collect (.ref r)) R E s)
  (ord:∀ h1 vs,(∀ b o,s.heap.get? b=some o→h1.get? b=some o)→Pc h1 vs→vs.length < 64∧Srt.Ord vs.length lt∧SortA prog w h1 vs lt κ)
  (fin:∀ h1 vs h3 tk c p,Pc h1 vs→(∀ b o,s.heap.get? b=some o→h3.get? b=some o)→(∀ b o,h1.get? b=some o→h3.get? b=some o)→(∀ b o,s.heap.get? b=some o→h1.get? b=some o)→Srt.Pm vs.length p→(∀ i j,i < j→j < vs.length→lt (p.getD j 0) (p.getD i 0)=false) →
   h3.get? h1.objs.size=some (seqObj "list" (p.toList.map fun i=>vs.getD i Value.none).toArray c)→s.heap.get? h1.objs.size=none→Q (.ref h1.objs.size) { s with heap:=h3,toks:=tk }) :
  wpAny (model prog w) A (call (.builtin "sorted") [.ref r]) Q E s:=by
 refine Calls.call_function_entry kind_sorted plain_sorted entry_sorted (args_sorted1 _) ?_
 unfold Builtin.«sorted»
 refine wpAny_bind (m:=checkCount "sorted" 1 1 _) (wpAny_pure ?_)
 refine wpAny_bind (col _ fun h1 tk vs hk hP=>?_)
 obtain ⟨h64,O,S⟩:=ord h1 vs hk hP
 have hz:vs.length≤sizeLine:=by rw [sizeLine_eq]; omega
 refine wpAny_bind (wpAny_newList ?_ hz)
 have hB:(h1.push { cls:=.type "list",data:=.seq vs.toArray }).get? h1.objs.size=some (seqObj "list" vs.toArray 0):=Heap.get?_push_size _ rfl
 refine wpAny_bind (wpAny_holding (wpAny_call_entry slot_list_sort ⟨_,hB,rfl⟩ entry_list_sort ?body (args_list_sort _)))
 have k1:∀ {h6:Heap},(∀ b o,b≠h1.objs.size→(h1.push { cls:=.type "list",data:=.seq vs.toArray }).get? b=some o→h6.get? b=some o)→∀ b o,h1.get? b=some o→h6.get? b=some o:=fun k b o e=>k b o (Nat.ne_of_lt (Heap.lt_size e)) (Heap.get?_push_of_some _ e)
 refine list_sortS (s:={ s with heap:=h1.push { cls:=.type "list",data:=.seq vs.toArray },toks:=tk }) hB h64 O (fun h6 Q k h2 q=>S.kd _ _ _ _ (k1 k) h2 q) (fun h6 tk' i j x y C k e1 e2 q=>S.ask _ _ i j x y C (k1 k) e1 e2 fun tk2=>q tk2)
  fun h3 tk3 c p hp hs hkeep hD=>⟨_,rfl,wpAny_pure ⟨_,rfl,?_⟩⟩
 refine fin h1 vs h3 tk3 c p hP (fun b o e=>k1 hkeep b o (hk b o e)) (k1 hkeep) hk hp hs hD ?_
 cases e:s.heap.get? h1.objs.size with
 | none=>rfl
 | some u=>exact absurd (Heap.lt_size (hk _ _ e)) (Nat.lt_irrefl _)
theorem sa_strsS {h1:Heap} {vs:List Value} {xs:List Str} (hS:StrsAre vs xs):SortA prog w h1 vs (ltS xs) oneType' where
 kd:=fun A E s Q _ h2 q=>by
  match vs,hS,h2 with
  | v1 :: v2 :: vs,hS,_ =>
   rw [keyKind_strs hS]
   exact wpAny_pure q
 ask:=fun A s i j x y C _ e1 e2 q=>by
  obtain ⟨t1,rfl,_⟩:=strs_at hS i _ e1
  obtain ⟨t2,rfl,_⟩:=strs_at hS j _ e2
  exact kas_lt_str (q s.toks)
end
end Tim
namespace L2
open PySem PySem.Spec PyProof.Rows PySem.W
theorem Z0 {X:Cx} (hc:X.calm=true):CallR X (.builtin "sorted") (fun xs H Q=>∃ (p:Addr) (ks:List Str),xs=[.ref p]∧H p=some (stO X p ks)∧ks.length < 64 ∧
  ∀ (q:Addr) (ss:List Str),H q=none→ss.Perm ks→(ss.map fun x=>x.cps.toList).Pairwise (· < ·)→Q (.ref q) (upd H q (.lst (ss.map V.str)))):=by
 intro pins s σ H xs us Q I r h
 obtain ⟨p,ks,rfl,hp,h64,q⟩:=h
 have h1k:ks.length≤1000:=by omega
 obtain ⟨u,rfl,ru⟩:=Y5 r
 cases ru
 obtain ⟨⟨o,es,ep,t,T⟩,_,_⟩:=(show SetT X.prog X.w s.heap p ks∧_ from I.hok p _ hp)
 refine Calls.call_function_entry kind_sorted plain_sorted entry_sorted (args_sorted1 _) ?_
 unfold Builtin.«sorted»
 refine wpAny_bind (m:=checkCount "sorted" 1 1 _) (wpAny_pure (wpAny_bind (Zcz (A:=X.A.in1) (I.ok.hd hc) T h1k fun h1 tk d acc ord hpm kk hacc=>?_)))
 obtain ⟨ys,hys,hS⟩:=Zes T hpm hacc
 have hl:=Tim.strs_len hS
 have hyl:=hys.length_eq
 generalize acc.toList=vs at hS hl
 have SA:Tim.SortA X.prog X.w h1 vs (Tim.ltS ys) oneType':=Tim.sa_strsS hS
 have O:Srt.Ord vs.length (Tim.ltS ys):=by rw [hl]; exact Zaw (hys.nodup_iff.mpr T.nd)
 refine wpAny_bind (wpAny_newList ?_ (XQ (by omega)))
 have hB:(h1.push { cls:=.type "list",data:=.seq vs.toArray }).get? h1.objs.size=some (seqObj "list" vs.toArray 0):=Heap.get?_push_size _ rfl
 have k1:∀ {h6:Heap},(∀ b o,b≠h1.objs.size→(h1.push { cls:=.type "list",data:=.seq vs.toArray }).get? b=some o→h6.get? b=some o)→∀ b o,h1.get? b=some o→h6.get? b=some o:=fun k b o e=>k b o (Nat.ne_of_lt (Heap.lt_size e)) (Heap.get?_push_of_some _ e)
 refine wpAny_bind (wpAny_holding (wpAny_call_entry slot_list_sort ⟨_,hB,rfl⟩ entry_list_sort ?_ (args_list_sort _)))
 refine Tim.list_sortS (s:={ s with heap:=h1.push { cls:=.type "list",data:=.seq vs.toArray },toks:=tk,drawn:=d }) hB (by omega) O (fun h6 Q k h2 q=>SA.kd _ _ _ _ (k1 k) h2 q) (fun h6 tk' i j x y C k e1 e2 q=>SA.ask _ _ i j x y C (k1 k) e1 e2 fun tk2=>q tk2)
  fun h3 tk3 c pm hpm3 hs3 hkeep hD=>⟨_,rfl,wpAny_pure ⟨_,rfl,?_⟩⟩
 have hp':Srt.Pm ys.length pm:=by rw [← hl]; exact hpm3
 have hN:s.heap.get? h1.objs.size=none:=by
  cases e:s.heap.get? h1.objs.size with
  | none=>rfl
  | some u=>exact absurd (Heap.lt_size (kk _ _ e)) (Nat.lt_irrefl _)
 have hmem:∀ i∈pm.toList,i < ys.length:=fun i hi=>by
  have:i∈pm:=by simpa using hi
  have:=hp'.perm.mem_iff.mp this
  simpa using this
 have vv:∀ l:List Nat,(∀ i∈l,i < ys.length)→Vals ((l.map fun i=>ys.getD i "").map V.str) (l.map fun i=>vs.getD i Value.none):=by
  intro l
  induction l with
  | nil=>intro _; exact .nil
  | cons i l ih =>
   intro hh
   have hi:i < vs.length:=by have:=hh i (List.mem_cons_self ..); omega
   obtain ⟨t,e,_⟩:=Tim.strs_at hS i _ (List.getElem?_eq_getElem hi)
   refine .cons ?_ (ih fun j hj=>hh j (List.mem_cons_of_mem _ hj))
   show RelV (V.str (ys.getD i "")) (vs.getD i Value.none)
   rw [List.getD_eq_getElem?_getD (l:=vs),List.getElem?_eq_getElem hi]
   exact ⟨t,e⟩
 obtain ⟨hn,I2⟩:=Zb9 (tk:=tk3) (vs:=(pm.toList.map fun i=>ys.getD i "").map V.str) (I.drw d) (fun b u e=>k1 hkeep b u (kk b u e)) hN (by rw [List.length_map,List.length_map,Array.length_toList,hp'.size]; exact XQ (by omega)) ⟨_,c,vv pm.toList hmem,hD⟩
 refine ⟨.ref h1.objs.size,_,I2,rfl,q _ _ hn ((XF ys pm hp').trans hys) ?_⟩
 have nd:ys.Nodup:=hys.nodup_iff.mpr T.nd
 have hup:=Zjr (n:=ys.length) rfl nd hp' (by rw [← hl]; exact hs3)
 rw [List.map_map,List.pairwise_map,List.pairwise_iff_getElem]
 intro i j hi hj hij
 have hz2:pm.toList.length=ys.length:=by rw [Array.length_toList,hp'.size]
 have hu:=hup i j hij (by omega)
 unfold ltX at hu
 rw [decide_eq_true_eq,ZdB hp' hi,ZdB hp' hj] at hu
 exact hu
theorem JI {X:Cx} (hc:X.calm=true):CallR X (.builtin "sorted") (fun xs H Q=>∃ (d:Addr) (ks:List Str) (g:Str→V),xs=[.ref d]∧H d=some (.dK (ks.map fun x=>((Sum.inr x:Key),g x)))∧ks.Nodup∧ks.length < 64 ∧
  ∀ (p:Addr) (ss':List Str),H p=none→ss'.Perm ks→(ss'.map fun x=>x.cps.toList).Pairwise (·≤·)→Q (.ref p) (upd H p (.lst (ss'.map V.str)))):=by
 intro pins s σ H xs us Q I r h
 obtain ⟨d,ks,g,rfl,hd,nd,h64,q⟩:=h
 have h1k:ks.length≤1000:=by omega
 obtain ⟨u,rfl,ru⟩:=Y5 r
 cases ru
 obtain ⟨hz,lo,vs',kv,dd⟩:=Jz I.hok hd
 obtain ⟨ep,hat⟩:=dd.dictAt
 have hlen:ks.length=vs'.length:=by have:=kv.length; simpa using this
 have toS:∀ (n:Nat) (vs:List Value) (xs:List Str),vs.length=xs.length→(∀ (i:Nat) (v:Value),vs[i]?=some v→∃ t,v = .str (xs.getD i "") t)→StrsAre vs xs:=by
  intro n vs
  induction vs with
  | nil =>
   intro xs e _
   match xs,e with
   | [],_=>exact .nil
  | cons v vs ih =>
   intro xs e hh
   match xs,e with
   | x :: xs,e =>
    obtain ⟨t,rfl⟩:=hh 0 v rfl
    exact .cons x t (ih xs (by simpa using e) fun i u z=>by
     obtain ⟨t,e⟩:=hh (i + 1) u (by simpa using z)
     exact ⟨t,e⟩)
 refine Tim.sorted_allS (lt:=Tim.ltS ks) (κ:=oneType') (Pc:=fun h1 vs=>StrsAre vs ks) (fun R hR=>?_) (fun h1 vs hk hP=>?_) fun h1 vs h3 tk c p hP hk k1 hk1 hp hs hD hN=>?_
 ·refine kdu_collect (A:=X.A.in1) (kdl_dict lo) (I.ok.hd hc) hat (XQ (by omega)) fun h' tk acc hk hacc=>hR h' tk acc.toList hk (toS 0 _ _ (by rw [Array.length_toList,hacc.1,hlen]) fun i v e=>?_)
  obtain ⟨k,x,e1,e2⟩:=hacc.2 i v (by rw [← Array.getElem?_toList]; exact e)
  obtain ⟨ek,hi⟩:=ZeZ kv i k x e1
  subst ek
  rcases keyIs_shape (show Js (Sum.inr (ks.getD i "")) v=true from e2) with ⟨j,t,e4,_⟩ | ⟨z,t,e4,e5⟩
  ·cases e4
  ·injection e4 with e4
   exact ⟨t,by rw [e5,e4]⟩
 ·have:=Tim.strs_len hP
  exact ⟨by omega,by rw [this]; exact Zaw nd,Tim.sa_strsS hP⟩
 ·have hl:=Tim.strs_len hP
  have hp':Srt.Pm ks.length p:=by rw [← hl]; exact hp
  have vv:∀ l:List Nat,(∀ i∈l,i < ks.length)→Vals ((l.map fun i=>ks.getD i "").map V.str) (l.map fun i=>vs.getD i Value.none):=by
   intro l
   induction l with
   | nil=>intro _; exact .nil
   | cons i l ih =>
    intro hh
    have hi:i < vs.length:=by have:=hh i (List.mem_cons_self ..); omega
    obtain ⟨t,e,_⟩:=Tim.strs_at hP i _ (List.getElem?_eq_getElem hi)
    refine .cons ?_ (ih fun j hj=>hh j (List.mem_cons_of_mem _ hj))
    show RelV (V.str (ks.getD i "")) (vs.getD i Value.none)
    rw [List.getD_eq_getElem?_getD (l:=vs),List.getElem?_eq_getElem hi]
    exact ⟨t,e⟩
  have hmem:∀ i∈p.toList,i < ks.length:=fun i hi=>by
   have:i∈p:=by simpa using hi
   have:=hp'.perm.mem_iff.mp this
   simpa using this
  obtain ⟨hn,I2⟩:=Zb9 (tk:=tk) (vs:=(p.toList.map fun i=>ks.getD i "").map V.str) I hk hN (by rw [List.length_map,List.length_map,Array.length_toList,hp'.size]; exact XQ h1k) ⟨_,c,vv p.toList hmem,hD⟩
  exact ⟨.ref h1.objs.size,_,I2,rfl,q _ _ hn (XF ks p hp') (Zje hp' (by rw [← hl]; exact hs))⟩
end L2
namespace L2
open PySem PySem.Spec PyProof.Rows
theorem Zbi:typeLookup (.type "list") "keys" = pure none:=am_miss_of_fast (by kernel_rfl)
theorem Zar:typeLookup (.type "tuple") "keys" = pure none:=am_miss_of_fast (by kernel_rfl)
section
variable {prog:Program} {w:World} {A:Around} {E:Value→Shared→Prop} {s:Shared} {a:Addr} {o:Obj} {xs:Array Value} {k:Nat}
theorem Zfo {Q:Option Value→Shared→Prop} (hx:s.heap.get? a=some o) (hc:o.cls = .type "list") (hdat:o.data = .seq xs k) (hd:o.dict=none) (hA:A.handled=none)
  (h:∀ h' tk,(∀ b ob,s.heap.get? b=some ob→h'.get? b=some ob)→Q none { s with heap:=h',toks:=tk }) :
  wpAny (model prog w) A (getAttr? (.ref a) "keys") Q E s:=by
 obtain ⟨c,dct,dat,sl⟩:=o
 simp only at hc hdat hd
 subst hc hdat hd
 obtain ⟨hp,g,d,tk,os⟩:=s
 have hT:∀ tk',(⟨hp,g,d,tk',os⟩:Shared).TypeIs (.ref a) "list":=fun _=>⟨_,hx,rfl⟩
 have f1:=sub_AttributeError
 have f3:=F.slot_list_getattribute.lookup
 have f4:=F.slot_list_getattribute.bind (.ref a)
 have f5:=am_list_getattr_none
 have hname:(["__module__","__name__","__qualname__","__doc__","__annotations__"]:List Str).contains "keys" = false:=by decide
 unfold getAttr? getAttrBy? getAttrBy
 repeat (any_goals (first | assumption | exact hT _ | ((with_reducible show wpAny _ _ (call (Value.builtin "list.__getattribute__") _ _) _ _ _); refine call_meets F.slot_list_getattribute (hT _) am_entry_list_getattribute (F.args_list_getattribute_2 _ _) (meets_getattribute_miss_list a xs k sl "keys" _ Zbi hname) ⟨hx,hA,fun h' tk' e hx'=>?_⟩) | wp_step))
 obtain ⟨t',u',he⟩:=hx'.there
 show wpAny _ _ (getattributeRaised _ _ _ _ _ _ _) _ _ _
 unfold getattributeRaised
 repeat (any_goals (first | assumption | wp_step))
 exact h _ _ hx'.of.keeps
theorem ZdJ {Q:Option Value→Shared→Prop} (hx:s.heap.get? a=some o) (hc:o.cls = .type "tuple") (hdat:o.data = .seq xs k) (hd:o.dict=none) (hA:A.handled=none)
  (h:∀ h' tk,(∀ b ob,s.heap.get? b=some ob→h'.get? b=some ob)→Q none { s with heap:=h',toks:=tk }) :
  wpAny (model prog w) A (getAttr? (.ref a) "keys") Q E s:=by
 obtain ⟨c,dct,dat,sl⟩:=o
 simp only at hc hdat hd
 subst hc hdat hd
 obtain ⟨hp,g,d,tk,os⟩:=s
 have hT:∀ tk',(⟨hp,g,d,tk',os⟩:Shared).TypeIs (.ref a) "tuple":=fun _=>⟨_,hx,rfl⟩
 have f1:=sub_AttributeError
 have f3:=F.slot_tuple_getattribute.lookup
 have f4:=F.slot_tuple_getattribute.bind (.ref a)
 have f5:=am_tuple_getattr_none
 have hname:(["__module__","__name__","__qualname__","__doc__","__annotations__"]:List Str).contains "keys" = false:=by decide
 unfold getAttr? getAttrBy? getAttrBy
 repeat (any_goals (first | assumption | exact hT _ | ((with_reducible show wpAny _ _ (call (Value.builtin "tuple.__getattribute__") _ _) _ _ _); refine call_meets F.slot_tuple_getattribute (hT _) am_entry_tuple_getattribute (F.args_tuple_getattribute_2 _ _) (meets_getattribute_miss_tuple a xs k sl "keys" _ Zar hname) ⟨hx,hA,fun h' tk' e hx'=>?_⟩) | wp_step))
 obtain ⟨t',u',he⟩:=hx'.there
 show wpAny _ _ (getattributeRaised _ _ _ _ _ _ _) _ _ _
 unfold getattributeRaised
 repeat (any_goals (first | assumption | wp_step))
 exact h _ _ hx'.of.keeps
end
theorem ZE:plainId "dict.update.loop" = true:=by decide +kernel
theorem Z6:entryFor table "dict.update.loop" = some Builtin.«dict.update.loop»:=entryFor_of_fast (by kernel_rfl)
theorem Z5 {h h':Heap} {a:Addr} {its:Array Value} (x:IsTup h a its) (e:∀ o,h.get? a=some o→h'.get? a=some o):IsTup h' a its:=by
 obtain ⟨o,ho,r⟩:=x
 exact ⟨o,e o ho,r⟩
theorem Zcs {h h':Heap} {a:Addr} {its:Array Value} (x:h.IsList a its) (e:∀ o,h.get? a=some o→h'.get? a=some o):h'.IsList a its:=by
 obtain ⟨o,ho,r⟩:=x
 exact ⟨o,e o ho,r⟩
section
variable {prog:Program} {w:World} {Ky:Type} [DecidableEq Ky] {knd:KeyKind prog w Ky} {A:Around} {R:Except Value Flow→Shared→Prop}
theorem Zf7 {l I d:Addr} {xs:Array Value} {n:Nat} (tb:Nat→Addr) (ks:Nat→Ky) (kv vv:Nat→Value) (hh:A.handled=none) (hxs:xs.size=n) (hx:∀ j,j < n→xs[j]?=some (.ref (tb j))) (hk:∀ j,j < n→knd.is (ks j) (kv j)=true)
  (hnd:((List.range n).map ks).Nodup) (hn:n≤sizeLine) (ld:l≠d) (lI:l≠I) (dI:d≠I) (td:∀ j,j < n→tb j≠d) (tI:∀ j,j < n→tb j≠I) :
  ∀ (m i:Nat) (s:Shared),n - i=m→i≤n→s.heap.IsListIter I l i→s.heap.IsList l xs→(∀ j,j < n→IsTup s.heap (tb j) #[kv j,vv j])→s.heap.DictOf knd d ((List.range i).map fun j=>(ks j,vv j)) →
  (∀ h' t',(∀ b o,b≠d→b≠I→s.heap.get? b=some o→h'.get? b=some o)→h'.DictOf knd d ((List.range n).map fun j=>(ks j,vv j))→R (.ok (.ret .none)) { s with heap:=h',toks:=t' }) →
  codeAny (model prog w) A (.builtin "dict.update.loop" ⟨[.ref d,.ref I,.int i 0,.none],[]⟩) R s:=by
 intro m
 induction m with
 | zero =>
  intro i s hm hi hit hl ht hd hR
  have:i=n:=by omega
  subst this
  refine codeAny_builtin Z6 ?_
  rw [Around.under_plainId ZE _]
  show wpAny _ A.in1 (pyNext (.ref I) >>= _) _ _ s
  refine wpAny_bind (wpAny_pyNext_list_end hh hit hl (by simp [hxs]) fun h2 he2=>?_)
  refine wpAny_bind (wpAny_pure (wpAny_pure ?_))
  exact hR h2 s.toks (fun b o hb1 hb2 e=>he2 b o hb2 e) (hd.extBut he2 dI)
 | succ m ih =>
  intro i s hm hi hit hl ht hd hR
  have hlt:i < n:=by omega
  refine codeAny_builtin Z6 ?_
  rw [Around.under_plainId ZE _]
  show wpAny _ A.in1 (pyNext (.ref I) >>= _) _ _ s
  refine wpAny_bind (wpAny_pyNext_list_item hit hl (hx i hlt) fun h1 hit1 hs1=>?_)
  have e1:=hs1.extBut
  have ht1:∀ j,j < n→IsTup h1 (tb j) #[kv j,vv j]:=fun j hj=>Z5 (ht j hj) fun o e=>e1 _ o (tI j hj) e
  obtain ⟨ot,hot,hct,nt,hdt⟩:=ht1 i hlt
  refine wpAny_bind (wpAny_holding (wpAny_bind (wpAny_tryCatch ?_)))
  unfold Builtin.Dict.pairItems
  refine wpAny_bind (wpAny_typeOf (T:="tuple") ⟨ot,hot,hct⟩ ?_)
  rw [if_pos (by decide)]
  refine wpAny_bind (wpAny_seqItems hot hdt (wpAny_pure ?_))
  have hd1:h1.DictOf knd d ((List.range i).map fun j=>(ks j,vv j)):=hd.extBut e1 dI
  show wpAny _ _ (holding [kv i,vv i] (dictSet d (kv i) (vv i))) _ _ _
  refine wpAny_holding (wpAny_dictSet_pairs (s:={ s with heap:=h1 }) (hk i hlt) hd1 (fun h2 hd2 hs2=>?_) (by rw [List.length_map,List.length_range]; omega))
  have hfresh:stored ((List.range i).map fun j=>(ks j,vv j)) (ks i) (vv i)=(List.range (i + 1)).map fun j=>(ks j,vv j):=by
   unfold stored
   rw [if_neg ?_,List.range_succ,List.map_append]
   ·rfl
   ·intro q
    obtain ⟨p,hp,e⟩:=List.any_eq_true.mp q
    obtain ⟨j,hj,rfl⟩:=List.mem_map.mp hp
    have hj':=List.mem_range.mp hj
    have e':ks j=ks i:=by simpa using e
    have h1:((List.range n).map ks)[j]?=some (ks j):=by rw [List.getElem?_map,List.getElem?_range (by omega)]; rfl
    have h2:((List.range n).map ks)[i]?=some (ks i):=by rw [List.getElem?_map,List.getElem?_range hlt]; rfl
    have:=(List.getElem?_inj (by rw [List.length_map,List.length_range]; omega) hnd).mp (h1.trans ((congrArg some e').trans h2.symm))
    omega
  rw [hfresh] at hd2
  have e2:=hs2.extBut
  have kp:∀ b o,b≠d→b≠I→s.heap.get? b=some o→h2.get? b=some o:=fun b o q1 q2 e=>e2 b o q1 (e1 b o q2 e)
  refine wpAny_pure ⟨plainId_quiet ZE _,?_⟩
  have:=ih (i + 1) { s with heap:=h2,toks:=s.toks + 1 } (by omega) hlt (hit1.extBut e2 (Ne.symm dI)) (Zcs hl fun o e=>kp l o ld lI e) (fun j hj=>Z5 (ht j hj) fun o e=>kp _ o (td j hj) (tI j hj) e) hd2
   fun h' t' k1 k2=>hR h' t' (fun b o q1 q2 e=>k1 b o q1 q2 (kp b o q1 q2 e)) k2
  exact this
theorem JB {l:Addr} {o:Obj} {xs:Array Value} {c n:Nat} {E:Value→Shared→Prop} {s:Shared} {Q:Value→Shared→Prop} (tb:Nat→Addr) (ks:Nat→Ky) (kv vv:Nat→Value) (hh:A.handled=none)
  (ho:s.heap.get? l=some o) (hc:o.cls = .type "list") (hdt:o.data = .seq xs c) (hdi:o.dict=none) (hxs:xs.size=n) (hx:∀ j,j < n→xs[j]?=some (.ref (tb j))) (hk:∀ j,j < n→knd.is (ks j) (kv j)=true)
  (ht:∀ j,j < n→IsTup s.heap (tb j) #[kv j,vv j]) (hnd:((List.range n).map ks).Nodup) (hn:n≤sizeLine)
  (h:∀ h' t',(∀ b o,s.heap.get? b=some o→h'.get? b=some o)→h'.DictOf knd s.heap.objs.size ((List.range n).map fun j=>(ks j,vv j))→Q (.ref s.heap.objs.size) { s with heap:=h',toks:=t' }) :
  wpAny (model prog w) A (call (.type "dict") [.ref l]) Q E s:=by
 refine callType_codes (Q₁:=fun obj s₁=>obj = .ref s.heap.objs.size∧s₁={ s with heap:=s.heap.push { cls:=.type "dict",data:=.dict #[] } }) F.kt_called_dict (F.kt_typeCall_dict_1 _) F.entry_dict_init (kt_code_dict_new _ ⟨rfl,rfl⟩) ?_
 rintro obj s₁ ⟨rfl,rfl⟩
 have hnew:(s.heap.push { cls:=.type "dict",data:=.dict #[] }).DictOf knd s.heap.objs.size []:=Heap.DictOf.new s.heap
 have ll:=Heap.lt_size ho
 have lt:∀ j,j < n→tb j < s.heap.objs.size:=fun j hj=>by
  obtain ⟨q,hq,_⟩:=ht j hj
  exact Heap.lt_size hq
 refine ⟨hnew.typeIs,F.args_dict_init_2 _ _,?_⟩
 unfold Builtin.«dict.__init__»
 refine wpAny_bind ?_
 unfold Builtin.Dict.selfAndRest
 refine wpAny_bind (wpAny_notOrdered_dict hnew.typeIs ?_)
 show wpAny _ _ (pure (s.heap.objs.size,[Value.ref l])) _ _ _
 refine wpAny_pure ?_
 show wpAny _ _ (Builtin.Dict.updateFrom "dict.__init__" s.heap.objs.size (.ref l) [] .none) _ _ _
 unfold Builtin.Dict.updateFrom
 have ho1:(s.heap.push { cls:=.type "dict",data:=.dict #[] }).get? l=some o:=Heap.get?_push_of_some _ ho
 refine wpAny_bind (wpAny_typeOf (T:="list") ⟨o,ho1,hc⟩ ?_)
 rw [if_pos (by decide)]
 refine wpAny_bind (Zfo (A:=A.in1.in1) ho1 hc hdt hdi hh fun h1 tk k1=>?_)
 rw [if_pos (show (none:Option Value).isNone=true from rfl)]
 refine wpAny_bind (wpAny_rule ?_)
 have hl1:h1.IsList l xs:=⟨o,k1 _ _ ho1,hc,c,hdt⟩
 refine wpAny_bind (wpAny_pyIter_list (s:={ s with heap:=h1,toks:=tk }) hl1 ?_)
 have hI:s.heap.objs.size < h1.objs.size:=Heap.lt_size (k1 _ _ (Heap.get?_push_size s.heap (o:={ cls:=.type "dict",data:=.dict #[] }) rfl))
 have kp:∀ b o,s.heap.get? b=some o→(h1.push { cls:=.type "list_iterator",data:=.fields #[.ref l,.int 0 0] }).get? b=some o:=fun b o e=>Heap.get?_push_of_some _ (k1 _ _ (Heap.get?_push_of_some _ e))
 refine wpAny_pure ⟨plainId_quiet ZE _,?_⟩
 have hnew1:h1.DictOf knd s.heap.objs.size []:=by
  obtain ⟨q,es,ep,hq,r⟩:=hnew
  exact ⟨q,es,ep,k1 _ _ hq,r⟩
 refine Zf7 (A:=A.in1) (l:=l) (I:=h1.objs.size) (d:=s.heap.objs.size) (xs:=xs) (n:=n) tb ks kv vv hh hxs hx hk hnd hn (Nat.ne_of_lt ll) (Nat.ne_of_lt (Nat.lt_trans ll hI)) (Nat.ne_of_lt hI) (fun j hj=>Nat.ne_of_lt (lt j hj)) (fun j hj=>Nat.ne_of_lt (Nat.lt_trans (lt j hj) hI)) n 0 _ (by omega) (by omega)
  ⟨_,Heap.get?_push_size _ rfl,rfl,rfl⟩ (hl1.push _) (fun j hj=>Z5 (ht j hj) fun o e=>kp _ o e) (hnew1.push _) fun h2 t2 k2 hd2=>?_
 refine ⟨rfl,h h2 t2 (fun b o e=>k2 b o ?_ ?_ (kp b o e)) hd2⟩
 ·exact Nat.ne_of_lt (Heap.lt_size e)
 ·exact Nat.ne_of_lt (Nat.lt_trans (Heap.lt_size e) hI)
theorem Zd3 {l I d:Addr} {xs:Array Value} {n:Nat} (tb:Nat→Addr) (ks:Nat→Ky) (kv vv:Nat→Value) (hh:A.handled=none) (hxs:xs.size=n) (hx:∀ j,j < n→xs[j]?=some (.ref (tb j))) (hk:∀ j,j < n→knd.is (ks j) (kv j)=true)
  (hnd:((List.range n).map ks).Nodup) (hn:n≤sizeLine) (ld:l≠d) (lI:l≠I) (dI:d≠I) (td:∀ j,j < n→tb j≠d) (tI:∀ j,j < n→tb j≠I) :
  ∀ (m i:Nat) (s:Shared),n - i=m→i≤n→IsTupIter s.heap I l i→IsTup s.heap l xs→(∀ j,j < n→IsTup s.heap (tb j) #[kv j,vv j])→s.heap.DictOf knd d ((List.range i).map fun j=>(ks j,vv j)) →
  (∀ h' t',(∀ b o,b≠d→b≠I→s.heap.get? b=some o→h'.get? b=some o)→h'.DictOf knd d ((List.range n).map fun j=>(ks j,vv j))→R (.ok (.ret .none)) { s with heap:=h',toks:=t' }) →
  codeAny (model prog w) A (.builtin "dict.update.loop" ⟨[.ref d,.ref I,.int i 0,.none],[]⟩) R s:=by
 intro m
 induction m with
 | zero =>
  intro i s hm hi hit hl ht hd hR
  have:i=n:=by omega
  subst this
  refine codeAny_builtin Z6 ?_
  rw [Around.under_plainId ZE _]
  show wpAny _ A.in1 (pyNext (.ref I) >>= _) _ _ s
  refine wpAny_bind (next_tuple_end hh hit hl (by simp [hxs]) fun h2 he2=>?_)
  refine wpAny_bind (wpAny_pure (wpAny_pure ?_))
  exact hR h2 s.toks (fun b o hb1 hb2 e=>he2 b o hb2 e) (hd.extBut he2 dI)
 | succ m ih =>
  intro i s hm hi hit hl ht hd hR
  have hlt:i < n:=by omega
  refine codeAny_builtin Z6 ?_
  rw [Around.under_plainId ZE _]
  show wpAny _ A.in1 (pyNext (.ref I) >>= _) _ _ s
  refine wpAny_bind (next_tuple_item hit hl (hx i hlt) fun h1 hit1 hs1=>?_)
  have e1:=hs1.extBut
  have ht1:∀ j,j < n→IsTup h1 (tb j) #[kv j,vv j]:=fun j hj=>Z5 (ht j hj) fun o e=>e1 _ o (tI j hj) e
  obtain ⟨ot,hot,hct,nt,hdt⟩:=ht1 i hlt
  refine wpAny_bind (wpAny_holding (wpAny_bind (wpAny_tryCatch ?_)))
  unfold Builtin.Dict.pairItems
  refine wpAny_bind (wpAny_typeOf (T:="tuple") ⟨ot,hot,hct⟩ ?_)
  rw [if_pos (by decide)]
  refine wpAny_bind (wpAny_seqItems hot hdt (wpAny_pure ?_))
  have hd1:h1.DictOf knd d ((List.range i).map fun j=>(ks j,vv j)):=hd.extBut e1 dI
  show wpAny _ _ (holding [kv i,vv i] (dictSet d (kv i) (vv i))) _ _ _
  refine wpAny_holding (wpAny_dictSet_pairs (s:={ s with heap:=h1 }) (hk i hlt) hd1 (fun h2 hd2 hs2=>?_) (by rw [List.length_map,List.length_range]; omega))
  have hfresh:stored ((List.range i).map fun j=>(ks j,vv j)) (ks i) (vv i)=(List.range (i + 1)).map fun j=>(ks j,vv j):=by
   unfold stored
   rw [if_neg ?_,List.range_succ,List.map_append]
   ·rfl
   ·intro q
    obtain ⟨p,hp,e⟩:=List.any_eq_true.mp q
    obtain ⟨j,hj,rfl⟩:=List.mem_map.mp hp
    have hj':=List.mem_range.mp hj
    have e':ks j=ks i:=by simpa using e
    have h1:((List.range n).map ks)[j]?=some (ks j):=by rw [List.getElem?_map,List.getElem?_range (by omega)]; rfl
    have h2:((List.range n).map ks)[i]?=some (ks i):=by rw [List.getElem?_map,List.getElem?_range hlt]; rfl
    have:=(List.getElem?_inj (by rw [List.length_map,List.length_range]; omega) hnd).mp (h1.trans ((congrArg some e').trans h2.symm))
    omega
  rw [hfresh] at hd2
  have e2:=hs2.extBut
  have kp:∀ b o,b≠d→b≠I→s.heap.get? b=some o→h2.get? b=some o:=fun b o q1 q2 e=>e2 b o q1 (e1 b o q2 e)
  refine wpAny_pure ⟨plainId_quiet ZE _,?_⟩
  have:=ih (i + 1) { s with heap:=h2,toks:=s.toks + 1 } (by omega) hlt (hit1.extBut e2 (Ne.symm dI)) (Z5 hl fun o e=>kp l o ld lI e) (fun j hj=>Z5 (ht j hj) fun o e=>kp _ o (td j hj) (tI j hj) e) hd2
   fun h' t' k1 k2=>hR h' t' (fun b o q1 q2 e=>k1 b o q1 q2 (kp b o q1 q2 e)) k2
  exact this
theorem XZ {l:Addr} {o:Obj} {xs:Array Value} {c n:Nat} {E:Value→Shared→Prop} {s:Shared} {Q:Value→Shared→Prop} (tb:Nat→Addr) (ks:Nat→Ky) (kv vv:Nat→Value) (hh:A.handled=none)
  (ho:s.heap.get? l=some o) (hc:o.cls = .type "tuple") (hdt:o.data = .seq xs c) (hdi:o.dict=none) (hxs:xs.size=n) (hx:∀ j,j < n→xs[j]?=some (.ref (tb j))) (hk:∀ j,j < n→knd.is (ks j) (kv j)=true)
  (ht:∀ j,j < n→IsTup s.heap (tb j) #[kv j,vv j]) (hnd:((List.range n).map ks).Nodup) (hn:n≤sizeLine)
  (h:∀ h' t',(∀ b o,s.heap.get? b=some o→h'.get? b=some o)→h'.DictOf knd s.heap.objs.size ((List.range n).map fun j=>(ks j,vv j))→Q (.ref s.heap.objs.size) { s with heap:=h',toks:=t' }) :
  wpAny (model prog w) A (call (.type "dict") [.ref l]) Q E s:=by
 refine callType_codes (Q₁:=fun obj s₁=>obj = .ref s.heap.objs.size∧s₁={ s with heap:=s.heap.push { cls:=.type "dict",data:=.dict #[] } }) F.kt_called_dict (F.kt_typeCall_dict_1 _) F.entry_dict_init (kt_code_dict_new _ ⟨rfl,rfl⟩) ?_
 rintro obj s₁ ⟨rfl,rfl⟩
 have hnew:(s.heap.push { cls:=.type "dict",data:=.dict #[] }).DictOf knd s.heap.objs.size []:=Heap.DictOf.new s.heap
 have ll:=Heap.lt_size ho
 have lt:∀ j,j < n→tb j < s.heap.objs.size:=fun j hj=>by
  obtain ⟨q,hq,_⟩:=ht j hj
  exact Heap.lt_size hq
 refine ⟨hnew.typeIs,F.args_dict_init_2 _ _,?_⟩
 unfold Builtin.«dict.__init__»
 refine wpAny_bind ?_
 unfold Builtin.Dict.selfAndRest
 refine wpAny_bind (wpAny_notOrdered_dict hnew.typeIs ?_)
 show wpAny _ _ (pure (s.heap.objs.size,[Value.ref l])) _ _ _
 refine wpAny_pure ?_
 show wpAny _ _ (Builtin.Dict.updateFrom "dict.__init__" s.heap.objs.size (.ref l) [] .none) _ _ _
 unfold Builtin.Dict.updateFrom
 have ho1:(s.heap.push { cls:=.type "dict",data:=.dict #[] }).get? l=some o:=Heap.get?_push_of_some _ ho
 refine wpAny_bind (wpAny_typeOf (T:="tuple") ⟨o,ho1,hc⟩ ?_)
 rw [if_pos (by decide)]
 refine wpAny_bind (ZdJ (A:=A.in1.in1) ho1 hc hdt hdi hh fun h1 tk k1=>?_)
 rw [if_pos (show (none:Option Value).isNone=true from rfl)]
 refine wpAny_bind (wpAny_rule ?_)
 have hl1:IsTup h1 l xs:=⟨o,k1 _ _ ho1,hc,c,hdt⟩
 refine wpAny_bind (iter_tuple (s:={ s with heap:=h1,toks:=tk }) hl1 ?_)
 have hI:s.heap.objs.size < h1.objs.size:=Heap.lt_size (k1 _ _ (Heap.get?_push_size s.heap (o:={ cls:=.type "dict",data:=.dict #[] }) rfl))
 have kp:∀ b o,s.heap.get? b=some o→(h1.push { cls:=.type "tuple_iterator",data:=.fields #[.ref l,.int 0 0] }).get? b=some o:=fun b o e=>Heap.get?_push_of_some _ (k1 _ _ (Heap.get?_push_of_some _ e))
 refine wpAny_pure ⟨plainId_quiet ZE _,?_⟩
 have hnew1:h1.DictOf knd s.heap.objs.size []:=by
  obtain ⟨q,es,ep,hq,r⟩:=hnew
  exact ⟨q,es,ep,k1 _ _ hq,r⟩
 refine Zd3 (A:=A.in1) (l:=l) (I:=h1.objs.size) (d:=s.heap.objs.size) (xs:=xs) (n:=n) tb ks kv vv hh hxs hx hk hnd hn (Nat.ne_of_lt ll) (Nat.ne_of_lt (Nat.lt_trans ll hI)) (Nat.ne_of_lt hI) (fun j hj=>Nat.ne_of_lt (lt j hj)) (fun j hj=>Nat.ne_of_lt (Nat.lt_trans (lt j hj) hI)) n 0 _ (by omega) (by omega)
  ⟨_,Heap.get?_push_size _ rfl,rfl,rfl⟩ (hl1.push _) (fun j hj=>Z5 (ht j hj) fun o e=>kp _ o e) (hnew1.push _) fun h2 t2 k2 hd2=>?_
 refine ⟨rfl,h h2 t2 (fun b o e=>k2 b o ?_ ?_ (kp b o e)) hd2⟩
 ·exact Nat.ne_of_lt (Heap.lt_size e)
 ·exact Nat.ne_of_lt (Nat.lt_trans (Heap.lt_size e) hI)
end
def Zid:List V→Hp→VK→Prop:=fun xs H Q=>∃ (p:Addr) (ys:List V) (kvs:List (Key × V)),xs=[.ref p]∧(H p=some (.lst ys)∨H p=some (.tup ys))∧ys.length=kvs.length∧(∀ (i:Nat) q,kvs[i]?=some q→∃ b,ys[i]?=some (.ref b)∧H b=some (.tup [kV q.1,q.2])) ∧
 (kvs.map (·.1)).Nodup∧∀ l,H l=none→Q (.ref l) (upd H l (.dK kvs))
theorem Za6 {kvs:List (Key × V)} (vv:Nat→Value) (h:∀ (i:Nat) q,kvs[i]?=some q→RelV q.2 (vv i)) (d:Key):KV kvs ((List.range kvs.length).map fun j=>((kvs.map (·.1)).getD j d,vv j)):=by
 induction kvs generalizing vv with
 | nil=>exact .nil
 | cons q kvs ih =>
  rw [List.length_cons,List.range_succ_eq_map,List.map_cons,List.map_map]
  exact .cons ⟨rfl,h 0 q rfl⟩ (ih (fun j=>vv (j + 1)) fun i q' e=>h (i + 1) q' e)
theorem ZdA (l:List Key) (d:Key):(List.range l.length).map (fun j=>l.getD j d)=l:=by
 apply List.ext_getElem?
 intro i
 rw [List.getElem?_map]
 by_cases h:i < l.length
 ·rw [List.getElem?_range h,Option.map_some,List.getD_eq_getElem?_getD,List.getElem?_eq_getElem h]
  rfl
 ·rw [List.getElem?_eq_none (by simpa using h),List.getElem?_eq_none (by simpa using h)]
  rfl
theorem ZcG:∀ {ys:List V} {its:List Value} {j:Nat} {a:Addr},Vals ys its→ys[j]?=some (.ref a)→its.toArray[j]?=some (.ref a):=fun {ys its j a} r e=>by
 rw [List.getElem?_toArray]
 induction r generalizing j with
 | nil=>cases e
 | cons r1 r2 ih =>
  cases j with
  | zero=>cases e; cases r1; rfl
  | succ j=>exact ih e
theorem Xf {X:Cx} (hc:X.calm=true):CallR X (.type "dict") Zid:=by
 intro pins s σ H xs us Q I r h
 obtain ⟨p,ys,kvs,rfl,hp,hl,hk,hnd,q⟩:=h
 obtain ⟨u,rfl,rx⟩:=Y5 r
 cases rx
 have hf:H s.heap.objs.size=none:=I.hok.fresh (Nat.le_refl _)
 have pr:∀ i:Nat,∃ t:Addr × Value × Value,∀ q,kvs[i]?=some q→ys[i]?=some (.ref t.1)∧IsTup s.heap t.1 #[t.2.1,t.2.2]∧RelV (kV q.1) t.2.1∧RelV q.2 t.2.2:=fun i=>by
  cases e:kvs[i]? with
  | none=>exact ⟨(0,.none,.none),fun q z=>nomatch z⟩
  | some q =>
   obtain ⟨b,e1,e2⟩:=hk i q e
   obtain ⟨its,rv,ht,_⟩:=I.tuple (SqT.of e2)
   obtain ⟨u,v,rfl,r1,r2⟩:=Zf4 rv
   refine ⟨(b,u,v),fun q' e'=>?_⟩
   cases e'
   exact ⟨e1,ht,r1,r2⟩
 obtain ⟨t,ht⟩:=Classical.axiomOfChoice pr
 have at_:∀ j,j < kvs.length→ys[j]?=some (.ref (t j).1)∧IsTup s.heap (t j).1 #[(t j).2.1,(t j).2.2]∧RelV (kV ((kvs.map (·.1)).getD j (Sum.inl 0))) (t j).2.1:=fun j hj=>by
  obtain ⟨h1,h2,h3,h4⟩:=ht j _ (List.getElem?_eq_getElem hj)
  refine ⟨h1,h2,?_⟩
  rw [List.getD_eq_getElem?_getD,List.getElem?_map,List.getElem?_eq_getElem hj]
  exact h3
 have hnd':((List.range kvs.length).map fun j=>(kvs.map (·.1)).getD j (Sum.inl 0)).Nodup:=by
  have e:=ZdA (kvs.map (·.1)) (Sum.inl 0)
  rw [List.length_map] at e
  rw [e]
  exact hnd
 have fin:kvs.length≤sizeLine→∀ h' t',(∀ b o,s.heap.get? b=some o→h'.get? b=some o)→h'.DictOf (Zp X.prog X.w) s.heap.objs.size ((List.range kvs.length).map fun j=>((kvs.map (·.1)).getD j (Sum.inl 0),(t j).2.2)) →
   EP X pins σ Q (.ref s.heap.objs.size) { s with heap:=h',toks:=t' }:=fun hz h' t' kp hd =>
  ⟨.ref s.heap.objs.size,_,I.laid (t':=t') (o:=.dK kvs) kp (Nat.le_refl _) ⟨hz,beq_eq_false_iff_ne.mpr (Ne.symm (Nat.ne_of_lt I.big)),_,Za6 (fun j=>(t j).2.2) (fun i q e=>(ht i q e).2.2.2) (Sum.inl 0),hd⟩,rfl,q _ hf⟩
 rcases hp with hp | hp
 ·obtain ⟨z,its,n,r',e⟩:=I.hok p _ hp
  have hlen:its.toArray.size=kvs.length:=by rw [List.size_toArray,← r'.length]; exact hl
  have hz:kvs.length≤sizeLine:=by rw [← hl]; exact z
  refine JB (fun j=>(t j).1) (fun j=>(kvs.map (·.1)).getD j (Sum.inl 0)) (fun j=>(t j).2.1) (fun j=>(t j).2.2) (I.ok.hd hc) e rfl rfl rfl hlen (fun j hj=>?_) (fun j hj=>Jt (at_ j hj).2.2) (fun j hj=>(at_ j hj).2.1) hnd' hz (fin hz)
  exact ZcG r' (at_ j hj).1
 ·obtain ⟨z,its,r',⟨o,e,c1,n,d1⟩,nd⟩:=(show ObjOk X.prog X.w H s.heap p (.tup ys) from I.hok p _ hp)
  have hlen:its.toArray.size=kvs.length:=by rw [List.size_toArray,← r'.length]; exact hl
  have hz:kvs.length≤sizeLine:=by rw [← hl]; exact z
  refine XZ (fun j=>(t j).1) (fun j=>(kvs.map (·.1)).getD j (Sum.inl 0)) (fun j=>(t j).2.1) (fun j=>(t j).2.2) (I.ok.hd hc) e c1 d1 (nd _ e) hlen (fun j hj=>?_) (fun j hj=>Jt (at_ j hj).2.2) (fun j hj=>(at_ j hj).2.1) hnd' hz (fin hz)
  exact ZcG r' (at_ j hj).1
end L2
namespace PySem
namespace F
theorem Jl:Manifest.owners.lookup (String.ofList ['d','e','s','r','e','v','e','r'].reverse)=some Manifest.sig_reversed:=by kernel_rfl
theorem slot_rev_next:Slot "reversed" "__next__" "reversed.__next__" :=
 .of (owner:="reversed") (n:="__next__") (by rw [typeLookup_type,builtinLookup_eq_fast]; kernel_rfl) (by decide +kernel) (by decide +kernel) (by decide +kernel)
  (by first | exact .inl (by decide +kernel) | exact .inr (by decide +kernel)) (by rw [isSubtype_type]; kernel_rfl)
theorem entry_rev_next:entryFor table "reversed.__next__" = some Builtin.«reversed.__next__»:=entryFor_of_tree (by kernel_rfl)
theorem args_rev_next_1 (a:Value):argsOk "reversed.__next__" ⟨[a],[]⟩:=by
 unfold argsOk; rw [signature?_of (id:="reversed.__next__") (n:=['_','_','t','x','e','n','_','_']) (o:=['d','e','s','r','e','v','e','r']) (by kernel_rfl) Jl]; kernel_rfl
theorem slot_rev_iter:Slot "reversed" "__iter__" "reversed.__iter__" :=
 .of (owner:="reversed") (n:="__iter__") (by rw [typeLookup_type,builtinLookup_eq_fast]; kernel_rfl) (by decide +kernel) (by decide +kernel) (by decide +kernel)
  (by first | exact .inl (by decide +kernel) | exact .inr (by decide +kernel)) (by rw [isSubtype_type]; kernel_rfl)
theorem args_rev_iter_1 (a:Value):argsOk "reversed.__iter__" ⟨[a],[]⟩:=by
 unfold argsOk; rw [signature?_of (id:="reversed.__iter__") (n:=['_','_','r','e','t','i','_','_']) (o:=['d','e','s','r','e','v','e','r']) (by kernel_rfl) Jl]; kernel_rfl
theorem entry_rev_iter:entryFor table "reversed.__iter__" = some Builtin.«dict_keyiterator.__iter__» :=
 entryFor_alias (id':="dict_keyiterator.__iter__") (by kernel_rfl) (by first | rfl | decide +kernel | (unfold String.splitOn; simp +decide [String.splitOnAux])) (by decide +kernel) (by kernel_rfl)
theorem rev_no_len:typeLookup (.type "reversed") "__len__" = pure none:=by rw [typeLookup_type,builtinLookup_eq_fast]; kernel_rfl
theorem slot_rev_hint:Slot "reversed" "__length_hint__" "reversed.__length_hint__" :=
 .of (owner:="reversed") (n:="__length_hint__") (by rw [typeLookup_type,builtinLookup_eq_fast]; kernel_rfl) (by decide +kernel) (by decide +kernel) (by decide +kernel)
  (by first | exact .inl (by decide +kernel) | exact .inr (by decide +kernel)) (by rw [isSubtype_type]; kernel_rfl)
theorem entry_rev_hint:entryFor table "reversed.__length_hint__" = some Builtin.«reversed.__length_hint__»:=entryFor_of_tree (by kernel_rfl)
theorem args_rev_hint_1 (a:Value):argsOk "reversed.__length_hint__" ⟨[a],[]⟩:=by
 unfold argsOk; rw [signature?_of (id:="reversed.__length_hint__") (n:=['_','_','t','n','i','h','_','h','t','g','n','e','l','_','_']) (o:=['d','e','s','r','e','v','e','r']) (by kernel_rfl) Jl]; kernel_rfl
theorem str_no_reversed:typeLookup (.type "str") "__reversed__" = pure none:=by rw [typeLookup_type,builtinLookup_eq_fast]; kernel_rfl
theorem sub_rev_rev:isSubtype (.type "reversed") (.type "reversed")=pure true:=by rw [isSubtype_type]; kernel_rfl
theorem Zae:Slot "reversed" "__init__" "object.__init__" :=
 .of (owner:="object") (n:="__init__") (by rw [typeLookup_type,builtinLookup_eq_fast]; kernel_rfl) (by decide +kernel) (by decide +kernel) (by decide +kernel)
  (by first | exact .inl (by decide +kernel) | exact .inr (by decide +kernel)) (by rw [isSubtype_type]; kernel_rfl)
theorem called_rev:TypeCalled "reversed" "reversed.__new__" "object.__init__" :=
 ⟨by decide +kernel,by decide +kernel,⟨_,_,mro_reversed⟩,madeBy_type mro_reversed lookup_reversed_new (by decide +kernel),by decide +kernel,by rw [isSubtype_type]; kernel_rfl,Zae⟩
end F
end PySem
namespace PySem
def ZkJ (x:Str) (t:Tok) (i:Int):Obj:={ cls:=.type "reversed",data:=.fields #[.str x t,rawInt i] }
theorem Zau (x:Str) (t:Tok) (hx:x.length≤sizeLine) :
  Meets (Builtin.«reversed.__new__» ⟨[.type "reversed",.str x t],[]⟩) (fun _ R s =>
   R (.ok (.ret (.ref s.heap.objs.size))) { s with toks:=s.toks + 1 + 1,heap:=s.heap.push (ZkJ x t ((x.length:Int) - 1)) }) :=
 .of_wp fun prog w A R s h=>by
  unfold Builtin.«reversed.__new__»
  refine wpAny_bind (wpAny_of_eq (newClass_reversed _) ?_)
  try dsimp only
  refine wpAny_bind (wpAny_of_eq (a:=()) (by first | rfl | kernel_rfl) ?_)
  refine wpAny_bind (wpAny_of_eq (a:=()) (by first | rfl | kernel_rfl) ?_)
  try dsimp only
  refine wpAny_bind (wpAny_specialOf (typeIs_str _ x t) F.str_no_reversed ?_)
  try dsimp only
  refine wpAny_bind ?_
  wp_delta
  refine wpAny_bind (wpAny_isInstance (T:="str") (v:=.str x t) (b:=false) rfl F.sub_str_dict ?_)
  try dsimp only
  refine wpAny_bind (wpAny_specialOf (typeIs_str _ x t) F.slot_str_getitem.lookup ?_)
  try dsimp only
  rw [if_pos (by decide)]
  refine wpAny_pure ?_
  rw [if_neg (by decide)]
  have hs:sizeLine=16777216:=sizeLine_eq
  refine wpAny_bind (P.len_str (by omega) ?_)
  refine wpAny_bind (wpAny_of_eq (a:=some (x.length:Int)) rfl ?_)
  try dsimp only
  unfold Builtin.SmallTypes.newRecord
  try dsimp only
  refine wpAny_bind (wpAny_newObj_type ?_)
  exact wpAny_pure ⟨_,rfl,h⟩
section
variable {prog:Program} {w:World} {A:Around} {E:Value→Shared→Prop} {s:Shared}
theorem XO {x:Str} {t:Tok} {Q:Value→Shared→Prop} (hx:x.length≤sizeLine)
  (h:Q (.ref s.heap.objs.size) { s with toks:=s.toks + 1 + 1,heap:=s.heap.push (ZkJ x t ((x.length:Int) - 1)) }):wpAny (model prog w) A (call (.type "reversed") [.str x t]) Q E s :=
 callType_new F.called_rev (by decide) (F.typeCall_reversed_1 _) (F.newCall_reversed_1 _) (fun obj=>F.args_object_init_2 obj _) F.entry_reversed_new (Zau x t hx) ⟨⟨_,Heap.get?_push_size _ rfl,rfl⟩,h⟩
def Heap.IsRevS (h:Heap) (a:Addr) (x:Str) (t:Tok) (i:Int):Prop:=∃ o,h.get? a=some o∧o.cls = .type "reversed"∧o.data = .fields #[.str x t,rawInt i]
theorem Heap.IsRevS.typeIs {a:Addr} {x:Str} {t:Tok} {i:Int} (y:s.heap.IsRevS a x t i):s.TypeIs (.ref a) "reversed":=let ⟨o,ho,hc,_⟩:=y; ⟨o,ho,hc⟩
theorem Heap.IsRevS.at {h h':Heap} {a:Addr} {x:Str} {t:Tok} {i:Int} (y:h.IsRevS a x t i) (e:∀ o,h.get? a=some o→h'.get? a=some o):h'.IsRevS a x t i:=let ⟨o,ho,r⟩:=y; ⟨o,e _ ho,r⟩
theorem Xy {it:Addr} {x:Str} {t:Tok} {i c:Nat} {Q:Option Value→Shared→Prop} (hit:s.heap.IsRevS it x t (i:Int)) (hc:x.cps[i]?=some c) (hx:x.length≤sizeLine)
  (hQ:∀ h' u,h'.IsRevS it x t ((i:Int) - 1)→Heap.SameBut it s.heap h'→Q (some (.str ⟨#[c]⟩ u)) { s with heap:=h',toks:=s.toks + 1 + 1 }):wpAny (model prog w) A (pyNext (.ref it)) Q E s:=by
 obtain ⟨o,ho,hcl,hd⟩:=id hit
 have hs:sizeLine=16777216:=sizeLine_eq
 have hi:i < x.length:=by
  have:=(Array.getElem?_eq_some_iff.mp hc).1
  exact this
 unfold pyNext
 refine wpAny_bind (wpAny_attempt (wpAny_callSpecial?_slot (name:=Str.ofString "__next__") hit.typeIs F.slot_rev_next
  (wpAny_call_entry F.slot_rev_next hit.typeIs F.entry_rev_next ?_ (F.args_rev_next_1 _))))
 unfold Builtin.«reversed.__next__»
 refine wpAny_bind (wpAny_of_eq (a:=(Value.ref it,[])) rfl ?_)
 try dsimp only
 refine wpAny_bind (wpAny_field ho hd (x:=.str x t) rfl ?_)
 refine wpAny_bind (wpAny_field ho hd (x:=rawInt (i:Int)) rfl ?_)
 show wpAny _ _ (if (i:Int) < 0 then _ else _) _ _ s
 rw [if_neg (by omega)]
 refine wpAny_bind (wpAny_specialOf (typeIs_str _ x t) F.slot_str_getitem.lookup ?_)
 rw [if_neg (by decide)]
 refine wpAny_bind (wpAny_mkInt ?_)
 have e1:decide ((i:Int) < -(2 ^ 63:Int))=false:=decide_eq_false (by omega)
 have e2:decide ((i:Int) ≥ 2 ^ 63)=false:=decide_eq_false (by omega)
 have e3:seqIndex? (i:Int) x.length=some i:=(L2.ixN_seq (by unfold L2.ixN; rw [if_pos (by omega),if_pos (by omega)]; rfl)).1
 refine wpAny_bind (wpAny_attempt (P.getItem_str (c:=c) (by rw [e1,e2]; rfl) (by rw [e3]; exact hc) ?_))
 try dsimp only
 refine wpAny_bind (wpAny_field ho hd (x:=rawInt (i:Int)) rfl ?_)
 show wpAny _ _ (setField (Value.ref it) 1 (rawInt ((i:Int) - 1)) >>= _) _ _ _
 refine wpAny_bind (wpAny_setField ho hd (by simp) ?_)
 refine wpAny_pure ⟨_,rfl,wpAny_pure (hQ _ _ ?_ (Heap.SameBut.update ..))⟩
 exact ⟨_,Heap.get?_update_self _ ho (Obj.isFreed_of_fields (Obj.data_mapFields hd _)),(Obj.cls_mapFields ..).trans hcl,by
  rw [Obj.data_mapFields hd]; simp⟩
theorem YG {it:Addr} {x:Str} {t:Tok} {Q:Option Value→Shared→Prop} (hh:A.handled=none) (hit:s.heap.IsRevS it x t (-1))
  (hQ:∀ h',Heap.ExtBut it s.heap h'→Q none { s with heap:=h' }):wpAny (model prog w) A (pyNext (.ref it)) Q E s:=by
 obtain ⟨o,ho,hcl,hd⟩:=id hit
 unfold pyNext
 refine wpAny_bind (wpAny_attempt (wpAny_callSpecial?_slot (name:=Str.ofString "__next__") hit.typeIs F.slot_rev_next
  (wpAny_call_entry F.slot_rev_next hit.typeIs F.entry_rev_next ?_ (F.args_rev_next_1 _))))
 unfold Builtin.«reversed.__next__»
 refine wpAny_bind (wpAny_of_eq (a:=(Value.ref it,[])) rfl ?_)
 try dsimp only
 refine wpAny_bind (wpAny_field ho hd (x:=.str x t) rfl ?_)
 refine wpAny_bind (wpAny_field ho hd (x:=rawInt (-1)) rfl ?_)
 show wpAny _ _ (if (-1:Int) < 0 then _ else _) _ _ s
 rw [if_pos (by decide)]
 refine wpAny_bind (wpAny_rule ?_)
 refine wpAny_bind ?_
 wp_delta
 refine wpAny_bind (wpAny_setField ho hd (by simp) ?_)
 have h1:=Heap.get?_update_self (Obj.mapFields fun vs=>vs.set! 1 (rawInt (-1))) ho (Obj.isFreed_of_fields (Obj.data_mapFields hd _))
 have d1:(Obj.mapFields (fun vs=>vs.set! 1 (rawInt (-1))) o).data = .fields #[.str x t,rawInt (-1)]:=by rw [Obj.data_mapFields hd]; simp
 refine wpAny_setField h1 d1 (by simp) ?_
 refine wpAny_bind ?_
 unfold Builtin.SmallTypes.stopIteration
 refine wpAny_bind ?_
 simp only [newExc,newTuple]
 refine wpAny_bind (wpAny_newObj_type ?_ (by size_fits))
 refine wpAny_bind (m:=firstArgMember _ _) (wpAny_of_eq (a:=Value.none) (by first | rfl | (simp only [firstArgMember]; rfl)) ?_)
 refine wpAny_newObj_type ?_ (by size_fits)
 simp only [raiseNew]
 refine wpAny_bind (wpAny_handled ?_)
 first | rw [show A.in1.handled=none from hh] | rw [hh]
 refine wpAny_bind (wpAny_pure (wpAny_throw ?_))
 refine wpAny_bind (wpAny_isInstance (T:="StopIteration") (b:=true) ⟨_,Heap.get?_push_size _ rfl,rfl⟩ isSubtype_stop ?_)
 refine wpAny_pure (hQ _ ?_)
 intro b ob hb e
 refine Heap.get?_push_of_some _ (Heap.get?_push_of_some _ ?_)
 exact (Heap.get?_update_other _ _ (Ne.symm hb)).trans ((Heap.get?_update_other _ _ (Ne.symm hb)).trans e)
theorem Yp {it:Addr} {x:Str} {t:Tok} {i:Int} {Q:Value→Shared→Prop} (hit:s.heap.IsRevS it x t i) (h:Q (.ref it) s):wpAny (model prog w) A (pyIter (.ref it)) Q E s:=by
 refine wpAny_pyIter_slot hit.typeIs F.slot_rev_iter (wpAny_call_entry F.slot_rev_iter hit.typeIs F.entry_rev_iter ?_ (F.args_rev_iter_1 _))
 show wpAny _ _ (ret (.ref it)) _ _ s
 exact wpAny_pure ⟨_,rfl,"reversed",_,hit.typeIs,F.slot_rev_next.lookup,h⟩
end
theorem Zds {prog:Program} {w:World} {A:Around} (hh:A.handled=none) (I:Addr) (x:Str) (t:Tok) (hx:x.length≤sizeLine) :
  Walks prog w A I [I] [I] x.length (fun i v=>∃ c u,x.cps[x.length - 1 - i]?=some c∧v = .str ⟨#[c]⟩ u) (fun i h=>i≤x.length∧h.IsRevS I x t ((x.length:Int) - 1 - (i:Int))) where
 sub:=fun b hb=>by simp at hb; simp [hb]
 frame:=fun _ _ _ y hk=>⟨y.1,y.2.at fun o e=>hk I (by simp) o e⟩
 item:=fun i s Q E hi y hQ=>by
  have e:(x.length:Int) - 1 - (i:Int)=((x.length - 1 - i:Nat):Int):=by omega
  have hit:=y.2
  rw [e] at hit
  have hlt:x.length - 1 - i < x.cps.size:=by
   have:x.length=x.cps.size:=rfl
   omega
  have hc:x.cps[x.length - 1 - i]?=some (x.cps[x.length - 1 - i]'hlt):=Array.getElem?_eq_getElem hlt
  refine Xy hit hc hx fun h' u hit' hs'=>?_
  have e2:((x.length - 1 - i:Nat):Int) - 1=(x.length:Int) - 1 - ((i + 1:Nat):Int):=by omega
  rw [e2] at hit'
  exact hQ _ h' _ ⟨_,u,hc,rfl⟩ ⟨hi,hit'⟩ fun b o hb eo=>hs'.extBut b o (fun h=>hb (by simp [h])) eo
 done:=fun s Q E y hQ=>by
  have e:(x.length:Int) - 1 - (x.length:Int) = -1:=by omega
  have hit:=y.2
  rw [e] at hit
  exact YG hh hit fun h' he'=>hQ h' s.toks fun b o hb eo=>he' b o (fun h=>hb (by simp [h])) eo
 self:=fun _ _ _ _ y hQ=>Yp y.2 hQ
end PySem
namespace PySem
section
variable {prog:Program} {w:World} {A:Around} {E:Value→Shared→Prop} {s:Shared}
theorem ZaI {it:Addr} {x:Str} {t:Tok} {Q:Value→Shared→Prop} (hit:s.heap.IsRevS it x t ((x.length:Int) - 1)) (hx:x.length≤sizeLine)
  (h:∀ u tk,Q (.int x.length u) { s with toks:=tk }):wpAny (model prog w) A (call (.builtin "reversed.__length_hint__") [.ref it]) Q E s:=by
 obtain ⟨o,ho,hcl,hd⟩:=id hit
 have hs:sizeLine=16777216:=sizeLine_eq
 refine wpAny_call_entry F.slot_rev_hint hit.typeIs F.entry_rev_hint ?_ (F.args_rev_hint_1 _)
 unfold Builtin.«reversed.__length_hint__»
 refine wpAny_bind (wpAny_of_eq (a:=Value.ref it) rfl ?_)
 refine wpAny_bind (wpAny_field ho hd (x:=.str x t) rfl ?_)
 rw [if_neg (show ¬ ((Value.str x t == Value.none)=true) from Bool.false_ne_true)]
 refine wpAny_bind (P.len_str (by omega) ?_)
 refine wpAny_bind (wpAny_of_eq (a:=some (x.length:Int)) rfl ?_)
 try dsimp only
 refine wpAny_bind (wpAny_field ho hd (x:=rawInt ((x.length:Int) - 1)) rfl ?_)
 show wpAny _ _ (if (x.length:Int) < (x.length:Int) - 1 + 1 then _ else _) _ _ _
 rw [if_neg (by omega)]
 unfold retInt
 refine wpAny_bind (wpAny_mkInt (wpAny_pure ⟨_,rfl,?_⟩))
 have e:(x.length:Int) - 1 + 1=x.length:=by omega
 rw [e]
 exact h _ _
theorem Zgp {it:Addr} {x:Str} {t:Tok} {Q:Bool→Shared→Prop} (hit:s.heap.IsRevS it x t ((x.length:Int) - 1)) (hx:x.length≤sizeLine)
  (h:∀ b tk,Q b { s with toks:=tk }):wpAny (model prog w) A (Builtin.List.listLengthHint (.ref it)) Q E s:=by
 have hs:sizeLine=16777216:=sizeLine_eq
 unfold Builtin.List.listLengthHint
 refine wpAny_bind (wpAny_specialOf hit.typeIs F.rev_no_len ?_)
 show wpAny _ _ (specialOf (Value.ref it) (Str.ofString "__length_hint__") >>= _) _ _ _
 refine wpAny_bind (wpAny_specialOf hit.typeIs F.slot_rev_hint.lookup ?_)
 have hsp:splitId "reversed.__length_hint__" = some ("reversed","__length_hint__"):=by decide +kernel
 try dsimp only
 rw [hsp]
 try dsimp only
 refine wpAny_bind (wpAny_isInstance hit.typeIs F.sub_rev_rev ?_)
 rw [if_neg (by decide)]
 rw [if_neg (by decide +kernel)]
 refine wpAny_bind (wpAny_rule ?_)
 refine wpAny_bind (wpAny_of_eq (F.slot_rev_hint.bind _) ?_)
 try dsimp only
 refine wpAny_bind (wpAny_attempt (ZaI hit hx fun u tk=>?_))
 have ea:asInt? (Value.int (x.length:Int) u)=pure (some (x.length:Int)):=by simp only [asInt?]
 generalize hn:(x.length:Int)=n at ea
 simp only [ea,pure_bind]
 subst hn
 try dsimp only
 have f1:Builtin.List.listFitsIndex (x.length:Int)=true:=by
  unfold Builtin.List.listFitsIndex
  have a1:decide (-(2 ^ 63:Int)≤(x.length:Int))=true:=decide_eq_true (by omega)
  have a2:decide ((x.length:Int) < 2 ^ 63)=true:=decide_eq_true (by omega)
  rw [a1,a2]
  rfl
 have f2:Builtin.List.listTooLong (x.length:Int).toNat=false:=by
  unfold Builtin.List.listTooLong
  rw [Int.toNat_natCast]
  exact decide_eq_false (Nat.not_lt.mpr hx)
 rw [f1,if_neg (by decide),if_neg (by omega),f2,if_neg (by decide)]
 exact wpAny_pure (h _ _)
section
variable {R:Result→Shared→Prop}
theorem ZdP (hh:A.handled=none) {I:Addr} {x:Str} {t:Tok} (hx:x.length≤sizeLine) (S:Addr) (c₀:Nat) (hit:s.heap.IsRevS I x t ((x.length:Int) - 1)) (hSI:S≠I)
  (hS:s.heap.get? S=some { cls:=.type "list",data:=.seq #[] c₀ })
  (hR:∀ h' tk acc' c',(∀ b o,b≠S→b≠I→s.heap.get? b=some o→h'.get? b=some o)→h'.get? S=some { cls:=.type "list",dict:=none,data:=.seq acc' c',slots:=#[] } →
   ItemsOf (fun i v=>∃ c u,x.cps[x.length - 1 - i]?=some c∧v = .str ⟨#[c]⟩ u) acc' x.length→R (.ok (.ret .none)) { s with heap:=h',toks:=tk }) :
  wpAny (model prog w) A.in1 (Builtin.List.listExtendWith (.ref S) (.ref I) .none)
   (fun fin s'=>match fin with | .done f=>R (.ok f) s' | .again c'=>c'.quiet=true∧codeAny (model prog w) A c' R s') (fun e s'=>R (.error e) s') s:=by
 have hSf:S∉[I]:=fun hm=>hSI (List.mem_singleton.mp hm)
 unfold Builtin.List.listExtendWith
 refine wpAny_bind (wpAny_typeOf hit.typeIs ?_)
 have h1:Builtin.List.listSameRef (.ref S) (.ref I)=false:=by simp [Builtin.List.listSameRef,hSI]
 have h2:(Value.type "reversed" == Value.type "list")=false:=by decide
 have h3:(Value.type "reversed" == Value.type "tuple")=false:=by decide
 simp only [h1,h2,h3,Bool.or_false,Bool.false_eq_true,if_false]
 refine wpAny_bind (Yp hit ?_)
 refine wpAny_bind (wpAny_holding (Zgp hit hx fun b tk=>?_))
 have W:=(Zds (prog:=prog) (w:=w) (A:=A.in1) hh I x t hx).toS
 have st0:∀ h':Heap,(∀ b o,b≠S→s.heap.get? b=some o→h'.get? b=some o)→(0≤x.length∧h'.IsRevS I x t ((x.length:Int) - 1 - ((0:Nat):Int))):=fun h' hk=>⟨Nat.zero_le _,by
  have:=hit.at (h':=h') fun o e=>hk I o (Ne.symm hSI) e
  have e:(x.length:Int) - 1 - ((0:Nat):Int)=(x.length:Int) - 1:=by omega
  rw [e]
  exact this⟩
 have fin:∀ (h₁:Heap) (c₁:Nat),(∀ b o,b≠S→s.heap.get? b=some o→h₁.get? b=some o)→h₁.get? S=some { cls:=.type "list",data:=.seq #[] c₁ } →
   codeAny (model prog w) A (.builtin "list.extend.loop" ⟨[.ref S,.ref I,.none],[]⟩) R { s with heap:=h₁,toks:=tk }:=fun h₁ c₁ hk hS₁=>by
  refine codeAny_extend_loopS W hx _ hSf _ x.length 0 _ _ _ rfl (Nat.zero_le _) (st0 h₁ hk) hS₁ (ItemsOf.nil _) fun s' acc' c' hm hS' hacc=>?_
  rw [Moved.eq_with hm]
  refine hR s'.heap s'.toks acc' c' (fun b ob hb hbI e=>hm.heap b ob (fun hmem=>?_) (hk b ob hb e)) hS' hacc
  rcases List.mem_cons.mp hmem with e' | hmem
  ·exact hb e'
  ·exact hbI (List.mem_singleton.mp hmem)
 split
 ·refine wpAny_bind (wpAny_rule ?_)
  refine wpAny_bind ?_
  show wpAny _ A.in1 (updateSeq S (·.push .none) >>= fun _=>updateSeq S (·.pop)) _ _ _
  refine wpAny_bind (wpAny_updateSeq hS rfl ?_)
  have hS₂:=Heap.get?_update_self (Obj.mapSeq (·.push Value.none)) hS rfl
  refine wpAny_updateSeq (hz:=by seq_fits) hS₂ rfl ?_
  have hS₃:=Heap.get?_update_self (Obj.mapSeq (·.pop)) hS₂ rfl
  exact wpAny_pure ⟨plainId_quiet F.plain_extend_loop _,fin _ _ (fun b o hb e=>(Heap.get?_update_other _ _ (Ne.symm hb)).trans ((Heap.get?_update_other _ _ (Ne.symm hb)).trans e)) hS₃⟩
 ·exact wpAny_pure ⟨plainId_quiet F.plain_extend_loop _,fin _ _ (fun b o hb e=>e) hS⟩
theorem Zax (hh:A.handled=none) {I:Addr} {x:Str} {t:Tok} (hx:x.length≤sizeLine) (S:Addr) (hit:s.heap.IsRevS I x t ((x.length:Int) - 1)) (hSI:S≠I)
  (hS:s.heap.get? S=some { cls:=.type "list",data:=.seq #[] })
  (hR:∀ h' tk acc' c',(∀ b o,b≠S→b≠I→s.heap.get? b=some o→h'.get? b=some o)→h'.get? S=some { cls:=.type "list",dict:=none,data:=.seq acc' c',slots:=#[] } →
   ItemsOf (fun i v=>∃ c u,x.cps[x.length - 1 - i]?=some c∧v = .str ⟨#[c]⟩ u) acc' x.length→R (.ok (.ret .none)) { s with heap:=h',toks:=tk }) :
  wpAny (model prog w) A.in1 (Builtin.«list.__init__» ⟨[.ref S,.ref I],[]⟩)
   (fun fin s'=>match fin with | .done f=>R (.ok f) s' | .again c'=>c'.quiet=true∧codeAny (model prog w) A c' R s') (fun e s'=>R (.error e) s') s:=by
 show wpAny _ A.in1 (do let old ← Builtin.List.listItems (.ref S); Builtin.List.listUpdate (.ref S) (fun _=>#[]); letGo old.toList.reverse; Builtin.List.listExtendWith (.ref S) (.ref I) .none) _ _ s
 refine wpAny_bind ?_
 unfold Builtin.List.listItems
 refine wpAny_bind (wpAny_seqItems hS rfl (wpAny_pure ?_))
 show wpAny _ A.in1 (updateSeq S (fun _=>#[]) >>= fun _=>letGo (#[]:Array Value).toList.reverse >>= fun _=>Builtin.List.listExtendWith (.ref S) (.ref I) .none) _ _ s
 refine wpAny_bind (wpAny_updateSeq hS rfl ?_)
 have hS₂:=Heap.get?_update_self (Obj.mapSeq (fun _=>(#[]:Array Value))) hS rfl
 have oth:∀ b o,b≠S→s.heap.get? b=some o→(s.heap.update S (Obj.mapSeq (fun _=>(#[]:Array Value)))).get? b=some o :=
  fun b o hb e=>(Heap.get?_update_other _ _ (Ne.symm hb)).trans e
 refine wpAny_bind (wpAny_letGo ?_)
 refine ZdP hh hx S _ (hit.at fun o e=>oth I o (Ne.symm hSI) e) hSI hS₂ fun h' tk acc' c' hk hS' hacc=>?_
 exact hR h' tk acc' c' (fun b o hb hbI e=>hk b o hb hbI (oth b o hb e)) hS' hacc
end
theorem ZaJ (hh:A.handled=none) {I:Addr} {x:Str} {t:Tok} {Q:Value→Shared→Prop} (hx:x.length≤sizeLine) (hit:s.heap.IsRevS I x t ((x.length:Int) - 1))
  (hQ:∀ h' tk acc' c',(∀ b o,b≠I→s.heap.get? b=some o→h'.get? b=some o)→h'.get? s.heap.objs.size=some { cls:=.type "list",dict:=none,data:=.seq acc' c',slots:=#[] } →
   ItemsOf (fun i v=>∃ c u,x.cps[x.length - 1 - i]?=some c∧v = .str ⟨#[c]⟩ u) acc' x.length→Q (.ref s.heap.objs.size) { s with heap:=h',toks:=tk }) :
  wpAny (model prog w) A (call (.type "list") [.ref I]) Q E s:=by
 have hSI:s.heap.objs.size≠I:=fun e=>by
  obtain ⟨o,ho,_⟩:=hit
  exact Nat.lt_irrefl _ (e ▸ Heap.lt_size ho)
 refine callType_codes (Q₁:=fun obj s₁=>obj = .ref s.heap.objs.size∧s₁={ s with heap:=s.heap.push { cls:=.type "list",data:=.seq #[] } }) F.called_list (F.typeCall_list_1 _) F.entry_list_init
  (code_list_new _ ⟨rfl,rfl⟩) fun obj s₁ h₁=>?_
 obtain ⟨rfl,rfl⟩:=h₁
 have hS:(s.heap.push { cls:=.type "list",data:=.seq #[] }).get? s.heap.objs.size=some { cls:=.type "list",data:=.seq #[] }:=Heap.get?_push_size _ rfl
 refine ⟨⟨_,hS,rfl⟩,F.args_list_init_2 _ _,Zax (A:=A.in1) hh hx _ (hit.at fun o e=>Heap.get?_push_of_some _ e) hSI hS fun h' tk acc' c' hk hS' hacc=>?_⟩
 exact ⟨rfl,hQ h' tk acc' c' (fun b o hbI e=>hk b o (Nat.ne_of_lt (Heap.lt_size e)) hbI (Heap.get?_push_of_some _ e)) hS' hacc⟩
end
end PySem
namespace L2
open PySem PySem.Spec PyProof.Rows
theorem J1:bootBuiltins "reversed" = some (.type "reversed"):=by decide +kernel
theorem Zd1:∀ (ws:List V) (us:List Value),ws.length=us.length→(∀ (i:Nat) (w:V) (u:Value),ws[i]?=some w→us[i]?=some u→RelV w u)→Vals ws us:=by
 intro ws
 induction ws with
 | nil =>
  intro us hl _
  have:us=[]:=List.length_eq_zero_iff.mp hl.symm
  subst this
  exact .nil
 | cons w ws ih =>
  intro us hl h
  cases us with
  | nil=>cases hl
  | cons u us=>exact .cons (h 0 w u rfl rfl) (ih us (by simpa using hl) fun i w' u' e1 e2=>h (i + 1) w' u' e1 e2)
def tLR (te:TE):TE:=fun σ H Q=>te σ H fun x H1=>∃ z:Str,x = .str z∧z.length≤sizeLine∧∀ p,H1 p=none→Q (.ref p) (upd H1 p (.lst (z.cps.toList.reverse.map fun c=>V.str (tx [c]))))
theorem ZdC {X:Cx} {e:Expr} {te:TE} {p1 p2 pos1 pos2:Pos} (hc:X.calm=true) (hgl:Gl X "list") (hml:X.mg "list" = none) (hgr:Gl X "reversed") (hmr:X.mg "reversed" = none) (he:PE X e te)
  (hs1:starEach [.Call (.Name "reversed" p2) [e] [] pos2] X.env=[(false,eval (.Call (.Name "reversed" p2) [e] [] pos2) X.env)]:=by rfl) (hs2:starEach [e] X.env=[(false,eval e X.env)]:=by rfl) :
  PE X (.Call (.Name "list" p1) [.Call (.Name "reversed" p2) [e] [] pos2] [] pos1) (tLR te):=by
 intro pins s σ H Q I h
 refine wpAny_Call_Name_kw (Xp I hgl hml ZbH ?_ (by decide) (by decide))
 refine PyProof.Rows.callWith_type1 ?_ hs1 rfl
 rw [hs1]
 refine Calls.spliced_cons ?_
 refine wpAny_Call_Name_kw (Xp I hgr hmr J1 ?_ (by decide) (by decide))
 refine PyProof.Rows.callWith_type1 ?_ hs2 rfl
 rw [hs2]
 refine Calls.spliced_cons (thn (he pins s σ H _ I h) fun u s1 ⟨x,H1,I1,r1,q1⟩=>Calls.spliced_nil ?_)
 obtain ⟨z,rfl,hz,q⟩:=q1
 obtain ⟨t,rfl⟩:=r1
 refine XO hz ?_
 refine Calls.spliced_nil ?_
 refine ZaJ (I.ok.hd hc) hz ⟨_,Heap.get?_push_size _ rfl,rfl,rfl⟩ fun h' tk acc c hk hS hacc=>?_
 have hsz:(s1.heap.push (ZkJ z t ((z.length:Int) - 1))).objs.size=s1.heap.objs.size + 1:=Heap.size_push ..
 dsimp only at hS hk ⊢
 rw [hsz] at hS ⊢
 have hf:H1 (s1.heap.objs.size + 1)=none:=I1.hok.fresh (Nat.le_succ _)
 refine ⟨.ref (s1.heap.objs.size + 1),_,I1.laid (h':=h') (t':=tk) (a:=s1.heap.objs.size + 1) (o:=.lst (z.cps.toList.reverse.map fun c=>V.str (tx [c]))) (fun b u e=>hk b u (Nat.ne_of_lt (Heap.lt_size e)) (Heap.get?_push_of_some _ e)) (Nat.le_succ _) ?_,rfl,q _ hf⟩
 refine ⟨by rw [List.length_map,List.length_reverse]; simpa [Str.length] using hz,acc.toList,c,?_,by rw [hS,Array.toArray_toList]⟩
 have hzl:z.cps.toList.length=z.length:=by simp [Str.length]
 refine Zd1 _ _ (by rw [List.length_map,List.length_reverse,hzl,Array.length_toList,hacc.1]) fun i w u e1 e2=>?_
 have hi:i < z.length:=by
  have:=(List.getElem?_eq_some_iff.mp e1).1
  rw [List.length_map,List.length_reverse,hzl] at this
  exact this
 obtain ⟨c',t',hc',rfl⟩:=hacc.2 i u (by rw [← Array.getElem?_toList]; exact e2)
 rw [List.getElem?_map,List.getElem?_reverse (by rw [hzl]; exact hi),hzl] at e1
 rw [← Array.getElem?_toList] at hc'
 rw [hc'] at e1
 cases e1
 exact ⟨t',rfl⟩
end L2
namespace Sh
open PySem L2 PyProof.Rows
abbrev Ts:=List (Str × Str)
def dl (a b:Str):Int:=if a=b then 1 else 0
theorem ZfE (a:Str):dl a a=1:=if_pos rfl
theorem Zg8 (a b:Str):0≤dl a b:=by unfold dl; split <;> omega
def frm (ts:Ts) (i:Nat):Str:=(ts.getD i ("","")).1
def tow (ts:Ts) (i:Nat):Str:=(ts.getD i ("","")).2
def bal (ts:Ts) (X:List Nat) (p:Str):Int:=(X.map fun i=>dl (frm ts i) p - dl (tow ts i) p).sum
theorem JC (ts:Ts) (p:Str):bal ts [] p=0:=rfl
theorem Z7 (ts:Ts) (i:Nat) (X:List Nat) (p:Str):bal ts (i :: X) p=dl (frm ts i) p - dl (tow ts i) p + bal ts X p:=by
 unfold bal
 rw [List.map_cons,List.sum_cons]
theorem Y3 (ts:Ts) (X Y:List Nat) (p:Str):bal ts (X ++ Y) p=bal ts X p + bal ts Y p:=by
 unfold bal
 rw [List.map_append,List.sum_append]
theorem YC {ts:Ts} {X Y:List Nat} (h:X.Perm Y) (p:Str):bal ts X p=bal ts Y p:=by
 induction h with
 | nil=>rfl
 | cons x _ ih=>rw [Z7,Z7,ih]
 | swap x y l=>rw [Z7,Z7,Z7,Z7]; omega
 | trans _ _ a b=>exact a.trans b
inductive Ch (ts:Ts):Str→List Nat→Str→Prop where
 | nil (u:Str):Ch ts u [] u
 | cons {i:Nat} {X:List Nat} {u v:Str} (e:frm ts i=u) (h:Ch ts (tow ts i) X v):Ch ts u (i :: X) v
theorem Ch.bal {ts:Ts} {u v:Str} {X:List Nat} (h:Ch ts u X v) (p:Str):bal ts X p=dl u p - dl v p:=by
 induction h with
 | nil u=>rw [JC]; omega
 | cons e h ih=>rw [Z7,ih,e]; omega
theorem Ch.snoc {ts:Ts} {u v:Str} {X:List Nat} {i:Nat} (h:Ch ts u X v) (e:frm ts i=v):Ch ts u (X ++ [i]) (tow ts i):=by
 induction h with
 | nil u=>exact .cons e (.nil _)
 | cons e' h ih=>exact .cons e' (ih e)
theorem Ch.pop {ts:Ts} {u v:Str} {i:Nat}:∀ {X:List Nat},Ch ts u (X ++ [i]) v→Ch ts u X (frm ts i)∧v=tow ts i
 | [],h=>by
  cases h with
  | cons e h =>
   cases h
   exact ⟨e ▸ .nil _,rfl⟩
 | j :: X,h=>by
  cases h with
  | cons e h =>
   obtain ⟨a,b⟩:=Ch.pop (X:=X) h
   exact ⟨.cons e a,b⟩
theorem Ch.start {ts:Ts} {u w v:Str} {X:List Nat} (h:Ch ts u X v) (h':Ch ts w X v):u=w:=by
 cases h with
 | nil u=>cases h'; rfl
 | cons e _=>cases h' with | cons e' _=>exact e.symm.trans e'
def ZiY (ts:Ts) (P y:Str):Prop:=∃ i,i < ts.length∧((frm ts i=P∧tow ts i=y)∨(tow ts i=P∧frm ts i=y))
inductive RchT (ts:Ts) (a:Str):Str→Prop where
 | here:RchT ts a a
 | step {P y:Str} (h:RchT ts a P) (k:ZiY ts P y):RchT ts a y
theorem RchT.closed {ts:Ts} {a:Str} {F:Str→Prop} (ha:F a) (hc:∀ P,F P→∀ y,ZiY ts P y→F y) {y:Str} (h:RchT ts a y):F y:=by
 induction h with
 | here=>exact ha
 | step _ k ih=>exact hc _ ih _ k
def Deg (ts:Ts) (b f:Str):Prop:=∀ p,bal ts (List.range ts.length) p=dl b p - dl f p
def ZcF (ts:Ts) (b:Str):Prop:=(∃ f,Deg ts b f)∧∀ i,i < ts.length→RchT ts b (frm ts i)
def Eul (ts:Ts) (b:Str) (X:List Nat):Prop:=X.Perm (List.range ts.length)∧∃ v,Ch ts b X v
theorem Zkd {ts:Ts} {a u v:Str} {X:List Nat} (h:Ch ts u X v):RchT ts a u→(∀ i∈X,i < ts.length)→∀ i∈X,RchT ts a (frm ts i):=by
 induction h with
 | nil u=>intro _ _ i hi; cases hi
 | @cons j X u v e h ih =>
  intro ha hX i hi
  rcases List.mem_cons.mp hi with z | z
  ·rw [z,e]; exact ha
  ·exact ih (.step ha ⟨j,hX j (List.mem_cons_self ..),.inl ⟨e,rfl⟩⟩) (fun k hk=>hX k (List.mem_cons_of_mem _ hk)) i z
theorem Eul.good {ts:Ts} {b:Str} {X:List Nat} (h:Eul ts b X):ZcF ts b:=by
 obtain ⟨p,v,c⟩:=h
 refine ⟨⟨v,fun q=>by rw [← YC p]; exact c.bal q⟩,fun i hi=>?_⟩
 exact Zkd c .here (fun j hj=>List.mem_range.mp (p.mem_iff.mp hj)) i (p.mem_iff.mpr (List.mem_range.mpr hi))
theorem Y0 {X Y:List Nat} (h1:X.Nodup) (h2:Y.Nodup) (h:∀ x,x∈X↔x∈Y):X.Perm Y:=by
 rw [List.perm_iff_count]
 intro a
 rw [h1.count,h2.count]
 by_cases c:a∈X
 ·rw [if_pos c,if_pos ((h a).mp c)]
 ·rw [if_neg c,if_neg (fun z=>c ((h a).mpr z))]
theorem Zfa {F:List Nat}:∀ {ks:List Nat},F.Nodup→(∀ x∈F,x∈ks)→F.length≤ks.length:=by
 induction F with
 | nil=>exact fun _ _=>Nat.zero_le _
 | cons x F ih =>
  intro ks h1 h2
  have nd':=List.nodup_cons.mp h1
  have hx:=h2 x (List.mem_cons_self ..)
  have:=ih (ks:=ks.erase x) nd'.2 fun y hy=>(List.mem_erase_of_ne (fun (q:y=x)=>nd'.1 (q ▸ hy))).mpr (h2 y (List.mem_cons_of_mem _ hy))
  rw [List.length_erase_of_mem hx] at this
  have hpos:0 < ks.length:=List.length_pos_of_mem hx
  rw [List.length_cons]
  omega
theorem Zip {F ks:List Nat} (h1:F.Nodup) (h2:∀ x∈F,x∈ks) (he:F.length=ks.length):∀ x∈ks,x∈F:=by
 intro x hx
 apply Classical.byContradiction
 intro hn
 have:=Zfa (ks:=ks.erase x) h1 fun y hy=>(List.mem_erase_of_ne (fun (q:y=x)=>hn (q ▸ hy))).mpr (h2 y hy)
 rw [List.length_erase_of_mem hx] at this
 have hpos:0 < ks.length:=List.length_pos_of_mem hx
 omega
structure WI (ts:Ts) (b pt:Str) (r:Str→List Nat) (G B:List Nat):Prop where
 nd:(G ++ B).Nodup
 lt:∀ i∈G ++ B,i < ts.length
 rnd:∀ p,(r p).Nodup
 row:∀ p i,i∈r p↔i < ts.length∧frm ts i=p∧i∉G ++ B
 chG:Ch ts b G pt
 chB:∀ f,Deg ts b f→∃ w,Ch ts w B.reverse f
 stk:∀ i∈B,r (tow ts i)=[]
theorem WI.start {ts:Ts} {b:Str} {r:Str→List Nat} (h1:∀ p,(r p).Nodup) (h2:∀ p i,i∈r p↔i < ts.length∧frm ts i=p):WI ts b b r [] [] where
 nd:=List.nodup_nil
 lt:=fun i hi=>by cases hi
 rnd:=h1
 row:=fun p i=>by rw [h2]; simp
 chG:=.nil _
 chB:=fun f _=>⟨f,.nil _⟩
 stk:=fun i hi=>by cases hi
def ZfZ (r:Str→List Nat) (p:Str) (X:List Nat):Str→List Nat:=fun q=>if q=p then X else r q
theorem WI.push {ts:Ts} {b pt:Str} {r:Str→List Nat} {G B X:List Nat} {i:Nat} (h:WI ts b pt r G B) (e:r pt=X ++ [i]):WI ts b (tow ts i) (ZfZ r pt X) (G ++ [i]) B:=by
 have hi:=(h.row pt i).mp (by rw [e]; simp)
 have hrn:=h.rnd pt
 rw [e] at hrn
 have hiX:i∉X:=fun z=>(List.nodup_append.mp hrn).2.2 i z i (by simp) rfl
 have mm:∀ j,j∈(G ++ [i]) ++ B↔j∈G ++ B∨j=i:=fun j=>by
  simp only [List.mem_append,List.mem_singleton]
  constructor
  ·rintro ((z | z) | z)
   ·exact .inl (.inl z)
   ·exact .inr z
   ·exact .inl (.inr z)
  ·rintro ((z | z) | z)
   ·exact .inl (.inl z)
   ·exact .inr z
   ·exact .inl (.inr z)
 refine ⟨?_,fun j hj=>?_,fun p=>?_,fun p j=>?_,h.chG.snoc hi.2.1,h.chB,fun j hj=>?_⟩
 ·have pp:((G ++ [i]) ++ B).Perm (i :: (G ++ B)):=by
   rw [List.append_assoc,List.singleton_append]
   exact List.perm_middle
  exact pp.nodup_iff.mpr (List.nodup_cons.mpr ⟨hi.2.2,h.nd⟩)
 ·rcases (mm j).mp hj with z | z
  ·exact h.lt j z
  ·rw [z]; exact hi.1
 ·unfold ZfZ
  split
  ·exact (List.nodup_append.mp hrn).1
  ·exact h.rnd p
 ·rw [mm]
  unfold ZfZ
  by_cases c:p=pt
  ·rw [if_pos c]
   have hr:=h.row pt j
   rw [e,List.mem_append,List.mem_singleton] at hr
   subst c
   constructor
   ·intro z
    obtain ⟨a1,a2,a3⟩:=hr.mp (.inl z)
    exact ⟨a1,a2,fun q=>q.elim a3 fun w=>hiX (w ▸ z)⟩
   ·rintro ⟨a1,a2,a3⟩
    rcases hr.mpr ⟨a1,a2,fun q=>a3 (.inl q)⟩ with z | z
    ·exact z
    ·exact absurd (.inr z) a3
  ·rw [if_neg c,h.row]
   constructor
   ·rintro ⟨a1,a2,a3⟩
    refine ⟨a1,a2,fun q=>q.elim a3 fun w=>c ?_⟩
    rw [← a2,w,hi.2.1]
   ·rintro ⟨a1,a2,a3⟩
    exact ⟨a1,a2,fun q=>a3 (.inl q)⟩
 ·unfold ZfZ
  have hs:=h.stk j hj
  rw [if_neg (fun c=>by rw [c,e] at hs; simp at hs)]
  exact hs
theorem WI.stuck {ts:Ts} {b pt w f:Str} {r:Str→List Nat} {G B:List Nat} (h:WI ts b pt r G B) (e:r pt=[]) (d:Deg ts b f) (c:Ch ts w B.reverse f):pt=w:=by
 have hp:(List.range ts.length).Perm ((G ++ B) ++ (List.range ts.length).filter fun i=>decide (i∉G ++ B)):=by
  refine Y0 List.nodup_range (List.nodup_append.mpr ⟨h.nd,List.nodup_range.filter _,fun a ha b' hb z=>?_⟩) fun x=>?_
  ·subst z
   have:=(List.mem_filter.mp hb).2
   simp only [decide_eq_true_eq] at this
   exact this ha
  ·rw [List.mem_append,List.mem_filter,List.mem_range]
   constructor
   ·intro hx
    by_cases cc:x∈G ++ B
    ·exact .inl cc
    ·exact .inr ⟨hx,decide_eq_true cc⟩
   ·rintro (z | z)
    ·exact h.lt x z
    ·exact z.1
 have h1:=d pt
 rw [YC hp,Y3,Y3,h.chG.bal,← YC (List.reverse_perm B),c.bal] at h1
 have h2:∀ L:List Nat,(∀ i∈L,frm ts i≠pt)→bal ts L pt≤0:=by
  intro L
  induction L with
  | nil=>intro _; rw [JC]; omega
  | cons i L ih =>
   intro hL
   have a:=ih fun j hj=>hL j (List.mem_cons_of_mem _ hj)
   have b':dl (frm ts i) pt=0:=if_neg (hL i (List.mem_cons_self ..))
   have c':=Zg8 (tow ts i) pt
   rw [Z7]
   omega
 have h3:=h2 ((List.range ts.length).filter fun i=>decide (i∉G ++ B)) fun i hi z=>by
  obtain ⟨a1,a2⟩:=List.mem_filter.mp hi
  have:=(h.row pt i).mpr ⟨List.mem_range.mp a1,z,by simpa using a2⟩
  rw [e] at this
  cases this
 rw [ZfE] at h1
 apply Classical.byContradiction
 intro hn
 have h4:dl w pt=0:=if_neg (fun z=>hn z.symm)
 omega
theorem WI.pop {ts:Ts} {b pt:Str} {r:Str→List Nat} {X B:List Nat} {i:Nat} (h:WI ts b pt r (X ++ [i]) B) (e:r pt=[]):WI ts b (frm ts i) r X (B ++ [i]):=by
 obtain ⟨c1,c2⟩:=h.chG.pop
 have pp:(X ++ (B ++ [i])).Perm ((X ++ [i]) ++ B):=by
  rw [List.append_assoc]
  exact List.perm_append_comm.append_left _ |>.trans (List.Perm.refl _)
 refine ⟨pp.nodup_iff.mpr h.nd,fun j hj=>h.lt j (pp.mem_iff.mp hj),h.rnd,fun p j=>by rw [h.row,pp.mem_iff],c1,fun f d=>?_,fun j hj=>?_⟩
 ·obtain ⟨w,c⟩:=h.chB f d
  have:=h.stuck e d c
  rw [List.reverse_append,List.reverse_singleton,List.singleton_append]
  refine ⟨frm ts i,.cons rfl ?_⟩
  rw [← c2,this]
  exact c
 ·rcases List.mem_append.mp hj with z | z
  ·exact h.stk j z
  ·rw [List.mem_singleton.mp z,← c2]
   exact e
theorem WI.done {ts:Ts} {b pt:Str} {r:Str→List Nat} {B:List Nat} (h:WI ts b pt r [] B) (e:r pt=[]) (g:ZcF ts b):Eul ts b B.reverse:=by
 obtain ⟨⟨f,d⟩,hr⟩:=g
 have hpt:b=pt:=by cases h.chG; rfl
 subst hpt
 obtain ⟨w,c⟩:=h.chB f d
 have ew:=h.stuck e d c
 subst ew
 have hnd:=h.nd
 have hlt:=h.lt
 rw [List.nil_append] at hnd hlt
 refine ⟨?_,f,c⟩
 -- whoever is met has nothing left
 let M:Str→Prop:=fun p=>p=b∨∃ i∈B,tow ts i=p
 have hM:∀ p,M p→r p=[]:=fun p hp=>by
  rcases hp with z | ⟨i,hi,z⟩
  ·rw [z]; exact e
  ·rw [← z]; exact h.stk i hi
 have hp:(List.range ts.length).Perm (B ++ (List.range ts.length).filter fun i=>decide (i∉B)):=by
  refine Y0 List.nodup_range (List.nodup_append.mpr ⟨hnd,List.nodup_range.filter _,fun a ha b' hb z=>?_⟩) fun x=>?_
  ·subst z
   have:=(List.mem_filter.mp hb).2
   simp only [decide_eq_true_eq] at this
   exact this ha
  ·rw [List.mem_append,List.mem_filter,List.mem_range]
   constructor
   ·intro hx
    by_cases cc:x∈B
    ·exact .inl cc
    ·exact .inr ⟨hx,decide_eq_true cc⟩
   ·rintro (z | z)
    ·exact hlt x z
    ·exact z.1
 have hz:∀ p,bal ts ((List.range ts.length).filter fun i=>decide (i∉B)) p=0:=fun p=>by
  have h1:=d p
  rw [YC hp,Y3,← YC (List.reverse_perm B),c.bal] at h1
  omega
 have key:∀ p,M p→∀ i,i < ts.length→(frm ts i=p∨tow ts i=p)→i∈B:=fun p hp i hi ht=>by
  apply Classical.byContradiction
  intro hn
  have hne:∀ j,j < ts.length→j∉B→frm ts j≠p:=fun j hj hjn z=>by
   have:=(h.row p j).mpr ⟨hj,z,by simpa using hjn⟩
   rw [hM p hp] at this
   cases this
  rcases ht with z | z
  ·exact hne i hi hn z
  ·have h2:∀ L:List Nat,(∀ j∈L,frm ts j≠p)→bal ts L p≤0∧(i∈L→bal ts L p < 0):=by
    intro L
    induction L with
    | nil=>intro _; exact ⟨by rw [JC]; omega,fun q=>by cases q⟩
    | cons j L ih =>
     intro hL
     obtain ⟨a1,a2⟩:=ih fun k hk=>hL k (List.mem_cons_of_mem _ hk)
     have b':dl (frm ts j) p=0:=if_neg (hL j (List.mem_cons_self ..))
     have c':=Zg8 (tow ts j) p
     rw [Z7]
     refine ⟨by omega,fun q=>?_⟩
     rcases List.mem_cons.mp q with q | q
     ·subst q
      have:dl (tow ts i) p=1:=if_pos z
      omega
     ·have:=a2 q
      omega
   have h3:=(h2 ((List.range ts.length).filter fun i=>decide (i∉B)) fun j hj=>by
    obtain ⟨a1,a2⟩:=List.mem_filter.mp hj
    exact hne j (List.mem_range.mp a1) (by simpa using a2)).2 (List.mem_filter.mpr ⟨List.mem_range.mpr hi,decide_eq_true hn⟩)
   rw [hz] at h3
   omega
 have hfr:∀ u X v,Ch ts u X v→M u→(∀ j∈X,j∈B)→∀ j∈X,M (frm ts j):=by
  intro u X v hc
  induction hc with
  | nil u=>intro _ _ j hj; cases hj
  | @cons k X u v e' _ ih =>
   intro hu hX j hj
   rcases List.mem_cons.mp hj with z | z
   ·rw [z,e']; exact hu
   ·exact ih (.inr ⟨k,hX k (List.mem_cons_self ..),rfl⟩) (fun l hl=>hX l (List.mem_cons_of_mem _ hl)) j z
 have hcl:∀ P,M P→∀ y,ZiY ts P y→M y:=fun P hP y ⟨i,hi,q⟩=>by
  rcases q with ⟨q1,q2⟩ | ⟨q1,q2⟩
  ·exact .inr ⟨i,key P hP i hi (.inl q1),q2⟩
  ·have:=key P hP i hi (.inr q1)
   rw [← q2]
   exact hfr _ _ _ c (.inl rfl) (fun j hj=>List.mem_reverse.mp hj) i (List.mem_reverse.mpr this)
 refine Y0 ((List.reverse_perm B).nodup_iff.mpr hnd) List.nodup_range fun x=>?_
 rw [List.mem_reverse,List.mem_range]
 refine ⟨hlt x,fun hx=>?_⟩
 exact key _ (RchT.closed (F:=M) (.inl rfl) hcl (hr x hx)) x hx (.inl rfl)
theorem WI.eul {ts:Ts} {b pt v:Str} {r:Str→List Nat} {B:List Nat} (h:WI ts b pt r [] B) (hl:B.length=ts.length) (c:Ch ts b B.reverse v):Eul ts b B.reverse:=by
 have hnd:=h.nd
 have hlt:=h.lt
 rw [List.nil_append] at hnd hlt
 refine ⟨?_,v,c⟩
 have hsub:∀ x∈B,x∈List.range ts.length:=fun x hx=>List.mem_range.mpr (hlt x hx)
 refine (List.reverse_perm B).trans (Y0 hnd List.nodup_range fun x=>⟨hsub x,Zip hnd hsub (by rw [List.length_range,hl]) x⟩)
def rows (ts:Ts) (p:Str):List Nat:=((List.range ts.length).filter fun i=>decide (frm ts i=p)).reverse
theorem ZeI (ts:Ts) (p:Str):(rows ts p).Nodup:=(List.reverse_perm _).nodup_iff.mpr (List.nodup_range.filter _)
theorem ZcT (ts:Ts) (p:Str) (i:Nat):i∈rows ts p↔i < ts.length∧frm ts i=p:=by
 unfold rows
 rw [List.mem_reverse,List.mem_filter,List.mem_range,decide_eq_true_eq]
def wlk (ts:Ts):Nat→(Str→List Nat)→Str→List Nat→List Nat→List Nat
 | 0,_,_,_,B=>B
 | n + 1,r,pt,G,B=>match (r pt).getLast? with
  | some i=>wlk ts n (ZfZ r pt (r pt).dropLast) (tow ts i) (G ++ [i]) B
  | none=>match G.getLast? with
   | some i=>wlk ts n r (frm ts i) G.dropLast (B ++ [i])
   | none=>B
theorem Zd0 {ts:Ts} {n:Nat} {r:Str→List Nat} {pt:Str} {G B X:List Nat} {i:Nat} (e:r pt=X ++ [i]):wlk ts (n + 1) r pt G B=wlk ts n (ZfZ r pt X) (tow ts i) (G ++ [i]) B:=by
 rw [wlk,e]
 simp
theorem Zf2 {ts:Ts} {n:Nat} {r:Str→List Nat} {pt:Str} {X B:List Nat} {i:Nat} (e:r pt=[]):wlk ts (n + 1) r pt (X ++ [i]) B=wlk ts n r (frm ts i) X (B ++ [i]):=by
 rw [wlk,e]
 simp
theorem Zf3 {ts:Ts} {n:Nat} {r:Str→List Nat} {pt:Str} {B:List Nat} (e:r pt=[]):wlk ts n r pt [] B=B:=by
 cases n with
 | zero=>rfl
 | succ n=>rw [wlk,e]; rfl
def wayX (ts:Ts) (b:Str):List Nat:=(wlk ts (2 * ts.length) (rows ts) b [] []).reverse
theorem WI.len {ts:Ts} {b pt:Str} {r:Str→List Nat} {G B:List Nat} (h:WI ts b pt r G B):G.length + B.length≤ts.length:=by
 have:=Zfa (ks:=List.range ts.length) h.nd fun x hx=>List.mem_range.mpr (h.lt x hx)
 rw [List.length_append,List.length_range] at this
 exact this
theorem WI.in_len {ts:Ts} {b pt:Str} {r:Str→List Nat} {G B:List Nat} (h:WI ts b pt r G B) (p:Str):(r p).length≤ts.length:=by
 have:=Zfa (ks:=List.range ts.length) (h.rnd p) fun x hx=>List.mem_range.mpr ((h.row p x).mp hx).1
 rw [List.length_range] at this
 exact this
def Zea (ks:List Str) (f:Str→Int):Int:=(ks.map f).sum
theorem YI (k:Str) (ks:List Str) (f:Str→Int):Zea (k :: ks) f=f k + Zea ks f:=by
 unfold Zea
 rw [List.map_cons,List.sum_cons]
theorem ZbP {ks:List Str} {f g:Str→Int} (h:∀ p∈ks,f p≤g p):Zea ks f≤Zea ks g:=by
 induction ks with
 | nil=>exact Int.le_refl _
 | cons k ks ih =>
  rw [YI,YI]
  have h1:=h k (List.mem_cons_self ..)
  have h2:=ih fun p hp=>h p (List.mem_cons_of_mem _ hp)
  omega
theorem Zd9 (ks:List Str):Zea ks (fun _=>0)=0:=by
 induction ks with
 | nil=>rfl
 | cons k ks ih=>rw [YI,ih]; omega
theorem ZhN {a p:Str} (h:p≠a):dl a p=0:=if_neg fun e=>h e.symm
theorem Zh1 {ks:List Str} (nd:ks.Nodup) {a:Str} (h:a∈ks):Zea ks (dl a)=1:=by
 induction ks with
 | nil=>cases h
 | cons k ks ih =>
  have nd':=List.nodup_cons.mp nd
  rw [YI]
  rcases List.mem_cons.mp h with z | z
  ·subst z
   have:Zea ks (dl a)=0:=by
    have e:∀ p∈ks,dl a p=0:=fun p hp=>ZhN fun e=>nd'.1 (e ▸ hp)
    have h1:=ZbP (f:=dl a) (g:=fun _=>0) fun p hp=>by rw [e p hp]; exact Int.le_refl _
    have h2:=ZbP (f:=fun _=>0) (g:=dl a) fun p hp=>by rw [e p hp]; exact Int.le_refl _
    rw [Zd9] at h1 h2
    omega
   rw [this,ZfE]
   omega
  ·rw [ih nd'.2 z,ZhN (fun e:k=a=>nd'.1 (e ▸ z))]
   omega
abbrev moT (ts:Ts) (p:Str):Int:=bal ts (List.range ts.length) p
def ZkP (x:Int):Int:=if x > 0 then x else 0
def ZI (es:Es):List Str:=es.flatMap fun e=>List.replicate e.2.toNat e.1
def tsE (es:Es):Ts:=(ZI es).map fun x=>(bg x,en x)
theorem JU (e:Str × Int) (es:Es):ZI (e :: es)=List.replicate e.2.toNat e.1 ++ ZI es:=by
 unfold ZI
 rw [List.flatMap_cons]
theorem ZdN (es:Es) (e:Str × Int):ZI (es ++ [e])=ZI es ++ List.replicate e.2.toNat e.1:=by
 unfold ZI
 rw [List.flatMap_append]
 simp
theorem Jy {es:Es} (hp:∀ e∈es,1≤e.2) (x:Str):x∈ZI es↔∃ e∈es,e.1=x:=by
 unfold ZI
 rw [List.mem_flatMap]
 constructor
 ·rintro ⟨e,he,h⟩
  exact ⟨e,he,(List.mem_replicate.mp h).2.symm⟩
 ·rintro ⟨e,he,h⟩
  have:=hp e he
  exact ⟨e,he,List.mem_replicate.mpr ⟨by omega,h.symm⟩⟩
theorem ZbL (es:Es):(tsE es).length=(ZI es).length:=by unfold tsE; rw [List.length_map]
theorem ZiL {es:Es} {i:Nat} (h:i < (ZI es).length):frm (tsE es) i=bg ((ZI es).getD i ""):=by
 unfold frm tsE
 rw [List.getD_eq_getElem?_getD,List.getElem?_map,List.getElem?_eq_getElem h,List.getD_eq_getElem?_getD,List.getElem?_eq_getElem h]
 rfl
theorem Zi4 {es:Es} {i:Nat} (h:i < (ZI es).length):tow (tsE es) i=en ((ZI es).getD i ""):=by
 unfold tow tsE
 rw [List.getD_eq_getElem?_getD,List.getElem?_map,List.getElem?_eq_getElem h,List.getD_eq_getElem?_getD,List.getElem?_eq_getElem h]
 rfl
theorem Zg3 {l:List Str} {i:Nat} (h:i < l.length):l.getD i ""∈l:=by
 rw [List.getD_eq_getElem?_getD,List.getElem?_eq_getElem h]
 exact List.getElem_mem h
theorem Zc5 {l:List Str} {x:Str} (h:x∈l):∃ i,i < l.length∧l.getD i "" = x:=by
 obtain ⟨i,hi,e⟩:=List.getElem_of_mem h
 refine ⟨i,hi,?_⟩
 rw [List.getD_eq_getElem?_getD,List.getElem?_eq_getElem hi]
 exact e
theorem Zdm (ts:Ts) (p:Str):∀ n,n≤ts.length→bal ts (List.range n) p=((ts.take n).map fun t=>dl t.1 p - dl t.2 p).sum
 | 0,_=>by simp [JC]
 | n + 1,h=>by
  rw [List.range_succ,Y3,Zdm ts p n (by omega),Z7,JC,List.take_succ_eq_append_getElem (by omega),List.map_append,List.sum_append]
  unfold frm tow
  rw [List.getD_eq_getElem?_getD,List.getElem?_eq_getElem (by omega)]
  simp
theorem Zh0 (n:Nat) (c:Int):(List.replicate n c).sum=n * c:=by
 induction n with
 | zero=>simp
 | succ n ih =>
  rw [List.replicate_succ,List.sum_cons,ih,Int.natCast_add,Int.add_mul]
  omega
theorem ZkV {es:Es} (h0:∀ e∈es,0≤e.2) (p:Str):moT (tsE es) p=mo es p:=by
 unfold moT
 rw [Zdm _ _ _ (Nat.le_refl _),List.take_length]
 induction es with
 | nil=>rfl
 | cons e es ih =>
  have h1:=h0 e (List.mem_cons_self ..)
  unfold tsE
  rw [JU,List.map_append,List.map_append,List.sum_append,List.map_replicate,List.map_replicate,Zh0,Zcl]
  have:=ih fun e he=>h0 e (List.mem_cons_of_mem _ he)
  unfold tsE at this
  rw [this]
  unfold mo1 dl ind
  rw [Int.toNat_of_nonneg h1,Int.mul_sub]
theorem Zlb {es:Es} (hp:∀ e∈es,1≤e.2) (P y:Str):ZiY (tsE es) P y↔Adj es P y:=by
 unfold ZiY Adj
 constructor
 ·rintro ⟨i,hi,q⟩
  rw [ZbL] at hi
  rw [ZiL hi,Zi4 hi] at q
  obtain ⟨e,he,h⟩:=(Jy hp _).mp (Zg3 hi)
  rw [← h] at q
  exact ⟨e,he,q⟩
 ·rintro ⟨e,he,q⟩
  obtain ⟨i,hi,h⟩:=Zc5 ((Jy hp e.1).mpr ⟨e,he,rfl⟩)
  refine ⟨i,by rw [ZbL]; exact hi,?_⟩
  rw [ZiL hi,Zi4 hi,h]
  exact q
theorem Adj.symm {es:Es} {P y:Str} (h:Adj es P y):Adj es y P:=by
 obtain ⟨e,he,q⟩:=h
 exact ⟨e,he,q.symm.imp (fun z=>⟨z.2,z.1⟩) fun z=>⟨z.2,z.1⟩⟩
theorem Rch.trans {es:Es} {a b c:Str} (h:Rch es a b) (k:Rch es b c):Rch es a c:=by
 induction k with
 | here=>exact h
 | step _ j ih=>exact .step ih j
theorem Rch.symm {es:Es} {a b:Str} (h:Rch es a b):Rch es b a:=by
 induction h with
 | here=>exact .here
 | step _ k ih=>exact Rch.trans (.step .here k.symm) ih
theorem Zht (f:Str→Int):∀ ss:List Str,sm (ups f ss)=Zea ss fun p=>ZkP (f p)
 | []=>rfl
 | x :: ss=>by
  rw [Zf6,YI,Zht f ss]
  rfl
def lst (x:Str):Nat:=x.cps.toList.getLastD 0
theorem ZbF {x:Str} (h:1≤x.length):x.cps.toList=(bg x).cps.toList ++ [lst x]:=by
 unfold bg lst
 rw [Zr]
 rcases List.eq_nil_or_concat x.cps.toList with e | ⟨l,c,e⟩
 ·rw [← Zy,e] at h
  simp at h
 ·rw [List.concat_eq_append] at e
  rw [e]
  simp
theorem ZfK:∀ {es:Es},(es.map (·.1)).Nodup→(∀ e∈es,0≤e.2)→∀ e∈es,((ZI es).count e.1:Int)=e.2
 | [],_,_,e,he=>by cases he
 | d :: es,nd,h0,e,he=>by
  rw [List.map_cons] at nd
  have nd':=List.nodup_cons.mp nd
  have hd:=h0 d (List.mem_cons_self ..)
  rw [JU,List.count_append,List.count_replicate]
  rcases List.mem_cons.mp he with z | z
  ·subst z
   have:(ZI es).count e.1=0:=by
    rw [List.count_eq_zero]
    intro q
    unfold ZI at q
    obtain ⟨e',he',h⟩:=List.mem_flatMap.mp q
    exact nd'.1 (List.mem_map.mpr ⟨e',he',(List.mem_replicate.mp h).2.symm⟩)
   rw [this,if_pos (by simp)]
   omega
  ·have ne:¬ (d.1 == e.1)=true:=fun q=>nd'.1 (List.mem_map.mpr ⟨e,z,(by simpa using q:d.1=e.1).symm⟩)
   rw [if_neg ne]
   have:=ZfK nd'.2 (fun e he=>h0 e (List.mem_cons_of_mem _ he)) e z
   omega
end Sh
namespace L2
open PySem PySem.Spec PyProof.Rows PySem.W
def Zi2 (hi:Int) (n:Nat):It:=⟨fun i _=>i < n,fun i H x H'=>H'=H∧x = .int (hi - i),fun i _=>n≤i⟩
theorem ZbK {P:Program} {w:World} {K:PySem.W.Frag} {tg:Expr} (it:Addr) (hi:Int) (n:Nat):ZiV P w K tg (Zi2 hi n) [it] it (fun i h=>IsRangeIter h it (hi + (i:Nat) * (-1)) ((n:Int) - (i:Nat)) (-1)) where
 mem:=by simp
 obj:=fun i h st b hb=>by
  have e:b=it:=by simpa using hb
  subst e
  exact ⟨_,st,fun v z=>by
   have z':Data.fields _=Data.cell v:=z
   cases z'⟩
 keep:=fun i h h' st k=>k it (by simp) _ st
 item:=by
  intro X hP hw hK hc i pins s σ H E I hf st hg
  subst hP hw hK
  obtain ⟨f0,f1,f2,f3,f4,f5⟩:=hf it (by simp)
  have W:=Walks.range (prog:=X.prog) (w:=X.w) (I.ok.hd hc) it hi (-1) n
  refine W.item i s _ _ hg st fun v h' tk hv st' kk=>?_
  obtain ⟨t,rfl⟩:=hv
  have I1:Inv X pins σ H { s with heap:=h',toks:=tk }:=I.turned (fun b o hb e=>kk b o (by simpa using hb) e) f0 f1 f3 f4 f5
  refine ⟨_,rfl,Zg2 (s:={ s with heap:=h',toks:=tk }) (n:="range_iterator") st' rfl rfl (by decide) ⟨.int (hi - i),H,I1,⟨t,?_⟩,⟨rfl,rfl⟩,st',fun b hb=>(hf b hb).1⟩⟩
  rw [show hi + (i:Int) * (-1)=hi - i by omega]
 done:=by
  intro X hP hw hK hc i pins s σ H E I hf st hg
  subst hP hw hK
  obtain ⟨f0,f1,f2,f3,f4,f5⟩:=hf it (by simp)
  exact wpAny_pyNext_range_end (I.ok.hd hc) st (by have:n≤i:=hg; omega) fun h' eb=>⟨rfl,I.turned (t':=s.toks) (fun b o hb e=>eb b o hb e) f0 f1 f3 f4 f5⟩
 self:=fun _ _ _ _ _ st h=>wpAny_pyIter_rangeiter st h
section
variable {X:Cx} {tg:Expr}
theorem ZeK {pins:List (Addr × Obj)} {σ:St} {H:Hp} {s:Shared} {R:It→Hp→Prop} {E:Value→Shared→Prop} {lo hi:Int} {t u v:Tok} {tk:Nat} (I:Inv X pins σ H s) (h1 : -(2 ^ 62)≤lo) (h2:lo < 2 ^ 62) (h3 : -(2 ^ 62)≤hi) (h4:hi < 2 ^ 62)
  (q:R (Zi2 lo (lo - hi).toNat) H):wpAny (model X.prog X.w) X.A (pyIter (.ref s.heap.objs.size)) (PIE X pins σ tg R) E { s with heap:=s.heap.push { cls:=.type "range",data:=.fields #[.int lo t,.int hi u,.int (-1) v] },toks:=tk }:=by
 refine wpAny_pyIter_range (IsRange.new ..) (small_down h1 h2 h3 h4) ?_
 have I1:Inv X pins σ H { s with heap:=s.heap.push { cls:=.type "range",data:=.fields #[.int lo t,.int hi u,.int (-1) v] },toks:=tk }:=I.kept fun b o e=>Heap.get?_push_of_some _ e
 refine ⟨(s.heap.push { cls:=.type "range",data:=.fields #[.int lo t,.int hi u,.int (-1) v] }).objs.size,[(s.heap.push { cls:=.type "range",data:=.fields #[.int lo t,.int hi u,.int (-1) v] }).objs.size],_,_,H,rfl,
  I1.kept (t':=tk) fun b o e=>Heap.get?_push_of_some _ e,ZbK _ lo (lo - hi).toNat,?_,fun b hb=>?_,q⟩
 ·have e1:lo + ((0:Nat):Int) * (-1)=lo:=by simp
  have e2:(((lo - hi).toNat:Nat):Int) - ((0:Nat):Int)=Builtin.Range.rangeSize lo hi (-1):=by rw [rangeSize_downNat]; omega
  show IsRangeIter _ _ (lo + ((0:Nat):Int) * (-1)) ((((lo - hi).toNat:Nat):Int) - ((0:Nat):Int)) (-1)
  rw [e1,e2]
  exact Heap.get?_push_size _ rfl
 ·have e:b=(s.heap.push { cls:=.type "range",data:=.fields #[.int lo t,.int hi u,.int (-1) v] }).objs.size:=by simpa using hb
  subst e
  exact I1.fpOk (Nat.le_refl _) (I1.hok.fresh (Nat.le_refl _))
def Zk1 (ta:TA):TI:=fun σ H R=>ta σ H fun vs H1=>∃ i j:Int,vs=[.int i,.int j,.int (-1)]∧(-(2 ^ 62)≤i∧i < 2 ^ 62∧-(2 ^ 62)≤j∧j < 2 ^ 62)∧R (Zi2 i (i - j).toNat) H1
theorem ZeT {a:Expr} {rs:List Expr} {ta:TA} {p pos:Pos} (hg:Gl X "range") (hm:X.mg "range" = none) (ha:PA X (a :: rs) ta) (hs:starEach (a :: rs) X.env=(false,eval a X.env) :: starEach rs X.env:=by rfl) (hpl:(backTo pos (starEach rs X.env)).any (·.1)=false:=by rfl):PI X tg (.Call (.Name "range" p) (a :: rs) [] pos) (Zk1 ta):=by
 intro pins s σ H R I h
 refine Call_ (Xp I hg hm boot_range (PyProof.Rows.callWith_type1 (thn (ha pos pins s σ H _ I h) fun us s1 ⟨vs,H1,I1,r1,q1⟩=>?_) hs hpl))
 obtain ⟨i,j,e,⟨q1,q2,q3,q4⟩,q⟩:=q1
 subst e
 cases r1 with
 | cons r rr =>
  cases rr with
  | cons r' rr =>
   cases rr with
   | cons r'' rr =>
    cases rr
    obtain ⟨t,rfl⟩:=r
    obtain ⟨t',rfl⟩:=r'
    obtain ⟨t'',rfl⟩:=r''
    exact call_range_3 (by decide) (ZeK I1 q1 q2 q3 q4 q) (.inl (PyProof.noPylong_of_log2 (by decide +kernel)))
theorem ZdL {lo:Int} {n:Nat} {g:TG} {tb:TS} {D:ZfX} {σ:St} {H:Hp} (Pv:Nat→St→Hp→Prop) (h0:Pv 0 σ H)
  (hs:∀ i σ H,i < n→Pv i σ H→g (.int (lo - i)) σ H fun σ2 H2=>tb { D with nx:=Pv (i + 1),ct:=Pv (i + 1),bk:=D.nx } σ2 H2) (hd:∀ σ H,Pv n σ H→D.nx σ H) :
  ∃ W:Nat→Nat→St→Hp→Prop,(∃ m,W 0 m σ H)∧∀ i m σ H,W i m σ H →
   ((Zi2 lo n).stop i H∧D.nx σ H)∨((Zi2 lo n).go i H∧∃ N:St→Hp→Prop,(∀ σ' H',N σ' H'→∃ m',m' < m∧W (i + 1) m' σ' H')∧∀ x H',(Zi2 lo n).yld i H x H'→g x σ H' fun σ2 H2=>tb { D with nx:=N,ct:=N,bk:=D.nx } σ2 H2):=by
 refine ⟨fun i m σ H=>m=n - i∧i≤n∧Pv i σ H,⟨n,by simp,Nat.zero_le _,h0⟩,?_⟩
 rintro i m σ H ⟨rfl,hi,p⟩
 by_cases hlt:i < n
 ·refine .inr ⟨hlt,Pv (i + 1),fun σ' H' p'=>⟨n - (i + 1),by omega,rfl,hlt,p'⟩,fun x H' y=>?_⟩
  obtain ⟨e,y⟩:=y
  subst e y
  exact hs i σ _ hlt p
 ·have e:i=n:=by omega
  subst e
  exact .inl ⟨Nat.le_refl _,hd σ H p⟩
theorem Vals.rev {xs:List V} {us:List Value} (r:Vals xs us):Vals xs.reverse us.reverse:=by
 induction r with
 | nil=>exact .nil
 | cons h t ih =>
  rw [List.reverse_cons,List.reverse_cons]
  exact Vals.append ih (.cons h .nil)
def Zlx (K:PySem.W.Frag) (te ts:TE):TE:=fun σ H Q=>te σ H fun x H1=>ts σ H1 fun y H2=>∃ a xs,x = .ref a∧SqL K H2 a xs∧y = .int (-1)∧∀ p,H2 p=none→Q (.ref p) (upd H2 p (.lst xs.reverse))
theorem Zjv {e st:Expr} {te ts:TE} {p2 pos:Pos} (he:PE X e te) (hs:PE X st ts):PE X (.Subscript e (.Slice none none (some st) p2) pos) (Zlx X.K te ts):=by
 intro pins s σ H Q I h
 refine Subscript_ (thn (he pins s σ H _ I h) fun v s1 ⟨x,H1,I1,r1,q1⟩=>?_)
 refine wpAny_Slice ?_
 rw [evalPart_none]
 refine wpAny_pure (wpAny_pure ?_)
 rw [evalPart_some]
 refine thn (hs pins s1 σ H1 _ I1 q1) fun vs s3 ⟨y,H3,I3,ry,q3⟩=>?_
 obtain ⟨a,xs,rfl,hx,rfl,q⟩:=q3
 obtain ⟨t,rfl⟩:=ry
 cases r1
 have I4:Inv X pins σ H3 { s3 with heap:=s3.heap.push { cls:=.type "slice",data:=.fields #[.none,.none,.int (-1) t] } }:=I3.kept (t':=s3.toks) fun b ob q=>Heap.get?_push_of_some _ q
 obtain ⟨its,r,ht,hz⟩:=I4.list hx
 have hlen:=r.length
 refine tail_any (ops:=[.ref a,.ref s3.heap.objs.size]) ht.isList.typeIs slot_list_getitem.lookup ?_ (by with_unfolding_all rfl)
 refine wpAny_getItem_list_slice ht.isList (Heap.IsSliceOf.new ..) .none .none (.int (-1) t) (by decide) ?_ (by rw [List.size_toArray] <;> omega)
 rw [krv_pick]
 have hv:=r.rev
 refine ⟨.ref _,_,I4.laid (t':=s3.toks) (o:=.lst xs.reverse) (fun b ob q=>Heap.get?_push_of_some _ q) (Nat.le_refl _) ?_,rfl,q _ (I4.hok.fresh (Nat.le_refl _))⟩
 exact ⟨by rw [List.length_reverse]; omega,_,0,hv,Heap.get?_push_size _ rfl⟩
end
end L2
namespace Tim
open PySem PySem.W PyProof.Rows
section
variable {prog:Program} {w:World} {A:Around} {E:Value→Shared→Prop} {s:Shared}
end
end Tim
namespace L2
open PySem PySem.Spec PyProof.Rows PySem.W
end L2
namespace L2
open PySem PySem.Spec PyProof.Rows
def SeqAt' (H:Hp) (a:Addr) (ys:List V):Prop:=H a=some (.lst ys)∨H a=some (.tup ys)
theorem SeqAt'.same {H H':Hp} {a:Addr} {ys:List V} (s:Same H H') (h:SeqAt' H a ys):SeqAt' H' a ys:=h.imp (s _ _) (s _ _)
theorem Zfk {K:PySem.W.Frag} {H:Hp} {a:Addr} {ys:List V} (h:SeqAt' H a ys):ZiX K (.ref a) H ys.length:=h.elim (fun h=>.inl ⟨_,SqL.of h,rfl⟩) fun h=>.inr ⟨_,SqT.of h,rfl⟩
theorem Ju {X:Cx} (K:PySem.W.Frag) (h:X.K=K:=by rfl):IxR X (rIx K):=by subst h; exact Zj3
theorem ZaZ {K:PySem.W.Frag} {H:Hp} {a:Addr} {ys:List V} {i:Int} {v:V} {Q:VK} (h:SeqAt' H a ys) (e:atI ys i=some v) (q:Q v H):rIx K (.ref a) (.int i) H Q :=
 h.elim (fun h=>.inl ⟨a,ys,i,v,rfl,rfl,SqL.of h,e,q⟩) fun h=>.inr (.inl ⟨a,ys,i,v,rfl,rfl,SqT.of h,e,q⟩)
theorem ZdV {X:Cx}:CallR X (.type "dict") (fun xs H Q=>∃ (d:Addr) (kvs:List (Key × V)),xs=[.ref d]∧H d=some (.dK kvs)∧∀ p,H p=none→Q (.ref p) (upd H p (.dK kvs))):=by
 intro pins s σ H xs us Q I r h
 obtain ⟨d,kvs,rfl,hd,q⟩:=h
 obtain ⟨u,rfl,ru⟩:=Y5 r
 cases ru
 obtain ⟨hz,lo,vs',kv,dd⟩:=Jz I.hok hd
 refine kt_call_dict lo dd (by rw [← kv.length]; exact hz) fun h' hn hs=>?_
 have kp:∀ b o,s.heap.get? b=some o→h'.get? b=some o:=fun b o e=>hs.extBut b o (Nat.ne_of_lt (Heap.lt_size e)) (Heap.get?_push_of_some _ e)
 exact ⟨.ref s.heap.objs.size,_,I.laid (t':=s.toks) (o:=.dK kvs) kp (Nat.le_refl _) ⟨hz,beq_eq_false_iff_ne.mpr (Ne.symm (Nat.ne_of_lt I.big)),vs',kv,hn⟩,rfl,q _ (I.hok.fresh (Nat.le_refl _))⟩
end L2
namespace Sh
def seg (z:List Nat) (a b:Nat):List Nat:=(z.drop a).take (b - a)
def win (L:Nat) (z:List Nat):List (List Nat):=(List.range (z.length + 1 - L)).map fun i=>(z.drop i).take L
theorem Zf0 {L:Nat} {a:Nat} {y:List Nat} (h1:1≤L) (h:L≤y.length + 1):win L (a :: y)=(a :: y).take L :: win L y:=by
 unfold win
 have e:(a :: y).length + 1 - L=(y.length + 1 - L) + 1:=by rw [List.length_cons]; omega
 rw [e,List.range_succ_eq_map,List.map_cons,List.map_map]
 rfl
structure Fit (z:List Nat) (L:Nat):Prop where
 one:1≤L
 le:L≤z.length
section
variable {z:List Nat} {L:Nat}
end
end Sh
namespace L2
open PySem PySem.Spec PyProof.Rows PySem.W
section
variable {X:Cx}
theorem ZgS (x:Str) (t:Tok):List.filterMap (fun i=>x.cps[i]?) (slicePicked x none none (some (-1,t)))=x.cps.toList.reverse:=by
 have e:slicePicked x none none (some (-1,t))=sliceRange ((x.length:Int) - 1) (-1) (-1):=rfl
 rw [e,krv_sliceRange,krv_range,List.filterMap_reverse]
 congr 1
 exact krv_all x.cps
def Zku (te ts:TE):TE:=fun σ H Q=>te σ H fun x H1=>ts σ H1 fun y H2=>∃ z:Str,x = .str z∧z.length≤sizeLine∧y = .int (-1)∧Q (.str (tx z.cps.toList.reverse)) H2
theorem Zb5 {e st:Expr} {te ts:TE} {p2 pos:Pos} (he:PE X e te) (hs:PE X st ts):PE X (.Subscript e (.Slice none none (some st) p2) pos) (Zku te ts):=by
 intro pins s σ H Q I h
 refine Subscript_ (thn (he pins s σ H _ I h) fun v s1 ⟨x,H1,I1,r1,q1⟩=>?_)
 refine wpAny_Slice ?_
 rw [evalPart_none]
 refine wpAny_pure (wpAny_pure ?_)
 rw [evalPart_some]
 refine thn (hs pins s1 σ H1 _ I1 q1) fun vs s3 ⟨y,H3,I3,ry,q3⟩=>?_
 obtain ⟨z,rfl,hz,rfl,q⟩:=q3
 obtain ⟨t,rfl⟩:=ry
 obtain ⟨t0,rfl⟩:=r1
 have I4:Inv X pins σ H3 { s3 with heap:=s3.heap.push { cls:=.type "slice",data:=.fields #[.none,.none,.int (-1) t] } }:=I3.kept (t':=s3.toks) fun b ob q=>Heap.get?_push_of_some _ q
 refine tail_any (ops:=[.ref s3.heap.objs.size,.str z t0]) (typeIs_str _ _ _) F.slot_str_getitem.lookup ?_ (by with_unfolding_all rfl)
 refine wpAny_getItem_str_slice (l:=none) (u:=none) (st:=some (-1,t)) (Heap.IsSliceOf.new ..) rfl ?_
 unfold sliceMade
 refine post_val_or_str ?_
 rw [if_neg (by simp)]
 rw [ZgS]
 have e:({ cps:=z.cps.toList.reverse.toArray }:Str)=tx z.cps.toList.reverse:=rfl
 rw [e]
 refine ⟨by rw [Zs,List.length_reverse]; exact hz,fun t' k=>⟨.str _,H3,I4.tok _,⟨_,rfl⟩,q⟩⟩
end
theorem JH {X:Cx}:CallR X (.builtin "sorted") (fun xs H Q=>∃ (a:Addr) (rs:List (Addr × Str)),xs=[.ref a]∧SqL X.K H a (rs.map fun r=>V.ref r.1)∧(∀ r∈rs,∃ y,H r.1=some (.tup [.str r.2,y]))∧(rs.map (·.2)).Nodup∧rs.length < 64 ∧
  ∀ (p:Addr) (rs':List (Addr × Str)),H p=none→rs'.Perm rs→(rs'.map fun r=>r.2.cps.toList).Pairwise (· < ·)→Q (.ref p) (upd H p (.lst (rs'.map fun r=>V.ref r.1)))):=by
 intro pins s σ H xs us Q I r h
 obtain ⟨a,rs,rfl,hq,ht,nd,h64,q⟩:=h
 have h1k:rs.length≤1000:=by omega
 obtain ⟨u,rfl,ru⟩:=Y5 r
 cases ru
 obtain ⟨its,rv,pl,hz⟩:=I.list hq
 have hl:=rv.length
 rw [List.length_map] at hl
 have iat:∀ (i:Nat) (hi:i < rs.length),its[i]?=some (.ref rs[i].1):=fun i hi=>by
  obtain ⟨u',hu,ru⟩:=rv.get (show (rs.map fun r=>V.ref r.1)[i]?=some (V.ref rs[i].1) by rw [List.getElem?_map,List.getElem?_eq_getElem hi]; rfl)
  rw [hu]
  exact congrArg some ru
 have pr:∀ (i:Nat) (v:Value) (x:Str),its[i]?=some v→(rs.map (·.2))[i]?=some x→Tim.PrI s.heap v x:=fun i v x e1 e2=>by
  have hi:i < rs.length:=by have:=(List.getElem?_eq_some_iff.mp e1).1; omega
  rw [iat i hi] at e1
  cases e1
  rw [List.getElem?_map,List.getElem?_eq_getElem hi] at e2
  cases e2
  obtain ⟨y,hy⟩:=ht rs[i] (List.getElem_mem hi)
  obtain ⟨_,jts,rj,⟨o,g1,g2,n,g3⟩,_⟩:=(show ObjOk X.prog X.w H s.heap rs[i].1 (.tup [.str rs[i].2,y]) from I.hok _ _ hy)
  obtain ⟨u1,u2,ej,r1,r2⟩:=Zf4 rj
  obtain ⟨t,rfl⟩:=r1
  exact ⟨rs[i].1,o,n,t,u2,rfl,g1,g2,by rw [g3,ej]⟩
 have hS:∀ {h1:Heap},(∀ b o,s.heap.get? b=some o→h1.get? b=some o)→Tim.SortA X.prog X.w h1 its (Tim.ltS (rs.map (·.2))) (tuples' ((Value.type "str") != Value.type "tuple")):=fun {h1} hk=>⟨(Tim.sa_tups (prog:=X.prog) (w:=X.w) (h1:=h1) (by rw [List.length_map]; omega) nd fun i v x e1 e2=>(pr i v x e1 e2).keep hk).kd,(Tim.sa_tups (prog:=X.prog) (w:=X.w) (h1:=h1) (by rw [List.length_map]; omega) nd fun i v x e1 e2=>(pr i v x e1 e2).keep hk).ask⟩
 refine Tim.sorted_allS (lt:=Tim.ltS (rs.map (·.2))) (κ:=tuples' ((Value.type "str") != Value.type "tuple")) (Pc:=fun h1 vs=>its=vs) (fun R hR=>?_) (fun h1 vs hk hP=>?_) fun h1 vs h3 tk c p hP hk k1 hk1 hp hs hD hN=>?_
 ·exact collect_list pl.isList (hR _ s.toks its (fun b o e=>(Heap.get?_update_other _ _ (Nat.ne_of_gt (Heap.lt_size e))).trans (Heap.get?_push_of_some _ e)) rfl) (XQ (by omega))
 ·subst hP
  exact ⟨by omega,by have:=Zaw nd; rw [List.length_map,hl] at this; exact this,hS hk⟩
 ·subst hP
  have hp':Srt.Pm rs.length p:=by rw [hl]; exact hp
  have vv:∀ l:List Nat,(∀ i∈l,i < rs.length)→Vals ((l.map fun i=>rs.getD i (0,"")).map fun r=>V.ref r.1) (l.map fun i=>its.getD i Value.none):=by
   intro l
   induction l with
   | nil=>intro _; exact .nil
   | cons i l ih =>
    intro hh
    have hi:i < rs.length:=hh i (List.mem_cons_self ..)
    refine .cons ?_ (ih fun j hj=>hh j (List.mem_cons_of_mem _ hj))
    show its.getD i Value.none=Value.ref (rs.getD i (0,"")).1
    rw [List.getD_eq_getElem?_getD (l:=its),iat i hi,List.getD_eq_getElem?_getD,List.getElem?_eq_getElem hi]
    rfl
  have hmem:∀ i∈p.toList,i < rs.length:=fun i hi=>by
   have:i∈p:=by simpa using hi
   have:=hp'.perm.mem_iff.mp this
   simpa using this
  obtain ⟨hn,I2⟩:=Zb9 (tk:=tk) (vs:=(p.toList.map fun i=>rs.getD i (0,"")).map fun r=>V.ref r.1) I hk hN (by rw [List.length_map,List.length_map,Array.length_toList,hp'.size]; exact XQ h1k) ⟨_,c,vv p.toList hmem,hD⟩
  refine ⟨.ref h1.objs.size,_,I2,rfl,q _ _ hn (XF rs p hp') ?_⟩
  have hup:=Zjr (n:=rs.length) (by rw [List.length_map]) nd hp' (by rw [hl]; exact hs)
  rw [List.map_map,List.pairwise_map,List.pairwise_iff_getElem]
  intro i j hi hj hij
  have hz2:p.toList.length=rs.length:=by rw [Array.length_toList,hp'.size]
  have hu:=hup i j hij (by omega)
  unfold ltX at hu
  rw [decide_eq_true_eq,ZdB hp' hi,ZdB hp' hj] at hu
  have ge:∀ k,k < rs.length→(rs.map fun r=>r.2).getD k ("" : Str)=(rs.getD k (0,"")).2:=fun k hk=>by
   rw [List.getD_eq_getElem?_getD,List.getElem?_map,List.getElem?_eq_getElem hk,List.getD_eq_getElem?_getD,List.getElem?_eq_getElem hk]
   rfl
  rw [ge _ (hmem _ (List.getElem_mem hi)),ge _ (hmem _ (List.getElem_mem hj))] at hu
  exact hu
theorem Zgz {X:Cx} (hu:X.A.units + 64 < cLine):OpR X (compareOp .NotEq) (fun x y H Q=>∃ a b xs,x = .ref a∧y = .ref b∧H a=some (.lst xs)∧H b=some (.lst [])∧Q (.bl (!xs.isEmpty)) H):=by
 intro pins s σ H x y v u Q I rx ry h
 obtain ⟨a,b,xs,rfl,rfl,ha,hb,q⟩:=h
 cases rx
 cases ry
 obtain ⟨_,its,n,r,g⟩:=(show ObjOk X.prog X.w H s.heap a (.lst xs) from I.hok a _ ha)
 obtain ⟨_,its2,n2,r2,g2⟩:=(show ObjOk X.prog X.w H s.heap b (.lst []) from I.hok b _ hb)
 cases r2
 have hl:=r.length
 cases xs with
 | nil =>
  cases r
  exact SeqAt.RcNeAt.lists (e:=fun _=>true) (items:=#[]) (items2:=#[]) ⟨_,g,rfl,n,rfl⟩ ⟨_,g2,rfl,n2,rfl⟩ rfl (Nat.lt_of_le_of_lt (Nat.le_add_right _ _) hu) (fun j h1 _=>absurd h1 (Nat.not_lt_zero _)) X.prog X.w X.xe (EP X pins σ Q) ⟨V.bl _,H,I,rfl,q⟩
 | cons x xs =>
  refine SeqAt.RcNeAt.lists_lengths (items:=its.toArray) (items2:=#[]) ⟨_,g,rfl,n,rfl⟩ ⟨_,g2,rfl,n2,rfl⟩ ?_ (Nat.lt_of_le_of_lt (Nat.le_add_right _ _) hu) X.prog X.w X.xe (EP X pins σ Q) ⟨V.bl _,H,I,rfl,q⟩
  rw [bne_iff_ne]
  intro e
  rw [List.size_toArray,← hl] at e
  cases e
def vvO (p d:Addr):HO:=.ext fun h=>h.IsValuesView p d
theorem Zff {X:Cx}:MtR X "dict.values" (fun x vs H Q=>∃ d kvs,x = .ref d∧vs=[]∧H d=some (.dK kvs)∧∀ p,H p=none→Q (.ref p) (upd H p (vvO p d))):=by
 intro pins s σ H x vs v us Q I rx rv h
 obtain ⟨d,kvs,rfl,rfl,hd,q⟩:=h
 cases rx
 cases rv
 obtain ⟨hz,lo,vs',kv,dd⟩:=Jz I.hok hd
 refine call_meetsIn PySem.F.slot_dict_values dd.typeIs PySem.F.entry_dict_values (PySem.F.args_dict_values_1 _) (meets_dict_values (Zp X.prog X.w) d lo) ⟨⟨_,dd⟩,?_⟩
 refine ⟨.ref s.heap.objs.size,_,I.laid (t':=s.toks) (o:=vvO s.heap.objs.size d) (fun b u e=>Heap.get?_push_of_some _ e) (Nat.le_refl _) ?_,rfl,q _ (I.hok.fresh (Nat.le_refl _))⟩
 refine ⟨⟨_,Heap.get?_push_size _ rfl,rfl,rfl⟩,⟨_,Heap.get?_push_size _ rfl⟩,fun h1 h2 ⟨o,e,r⟩ k=>⟨o,k o e,r⟩⟩
def ZhW (td:TE):TE:=fun σ H Q=>td σ H fun x H1=>∃ d kvs,x = .ref d∧H1 d=some (.dK kvs)∧∀ p,H1 p=none→Q (.ref p) (upd H1 p (vvO p d))
theorem ZeV {X:Cx} {o:Expr} {apos cpos:Pos} {td:TE} (ho:PE X o td) (hbase:attributeBase o "values" X.env (eval o X.env)=eval o X.env:=by rfl) (hline:(apos.endLine == cpos.line)=true:=by rfl) :
  PE X (.Call (.Attribute o "values" apos) [] [] cpos) (ZhW td):=by
 intro pins s σ H Q I h
 refine wpAny_Call_method0_late hbase hline (thn (ho pins s σ H _ I h) fun v s1 ⟨x,H1,I1,r1,d,kvs,ex,hd,q1⟩=>?_)
 subst ex
 obtain rfl:v=Value.ref d:=r1
 obtain ⟨t1,t2,_⟩:=Zbp I1 (.inl ⟨kvs,.inl hd⟩)
 exact ⟨"dict",_,PySem.F.plainAttrs_dict,PySem.F.slot_dict_values,PySem.F.type_dict_values,t1,t2,Calls.callWith_builtin rfl (PySem.evalArgs_none (Zff pins s1 σ H1 (.ref d) [] (.ref d) [] Q I1 rfl .nil ⟨d,kvs,rfl,rfl,hd,q1⟩))⟩
theorem ZiE:∀ {kvs:List (Key × V)} {vs':List (Key × Value)},KV kvs vs'→Vals (kvs.map (·.2)) (vs'.map (·.2)):=by
 intro kvs vs' h
 induction h with
 | nil=>exact .nil
 | cons p _ ih=>exact .cons p.2 ih
theorem ZdU {X:Cx} (hc:X.calm=true):CallR X (.type "list") (fun xs H Q=>∃ (p d:Addr) (kvs:List (Key × V)),xs=[.ref p]∧H p=some (vvO p d)∧H d=some (.dK kvs)∧∀ l,H l=none→Q (.ref l) (upd H l (.lst (kvs.map (·.2))))):=by
 intro pins s σ H xs us Q I r h
 obtain ⟨p,d,kvs,rfl,hp,hd,q⟩:=h
 obtain ⟨u,rfl,ru⟩:=Y5 r
 cases ru
 obtain ⟨hz,lo,vs',kv,dd⟩:=Jz I.hok hd
 obtain ⟨ep,hat⟩:=dd.dictAt
 have hv:s.heap.IsValuesView p d:=(show _∧_ from I.hok p _ hp).1
 have hl:=kv.length
 refine kdl_call kdl_values (I.ok.hd hc) ⟨hv,hat⟩ (by rw [← hl]; exact hz) fun h' tk acc c hk hD hacc=>?_
 have ea:acc.toList=vs'.map (·.2):=by
  apply List.ext_getElem?
  intro i
  rw [List.getElem?_map]
  cases e:acc.toList[i]? with
  | none =>
   have:vs'.length≤i:=by
    have:=List.getElem?_eq_none_iff.mp e
    rw [Array.length_toList,hacc.1] at this
    exact this
   rw [List.getElem?_eq_none this]
   rfl
  | some v =>
   obtain ⟨k,hk2⟩:=hacc.2 i v (by rw [← Array.getElem?_toList]; exact e)
   rw [hk2]
   rfl
 refine ⟨.ref s.heap.objs.size,_,I.laid (t':=tk) (o:=.lst (kvs.map (·.2))) hk (Nat.le_refl _) ⟨by rw [List.length_map]; exact hz,vs'.map (·.2),c,ZiE kv,?_⟩,rfl,q _ (I.hok.fresh (Nat.le_refl _))⟩
 rw [hD,← ea]
end L2
namespace PySem
namespace F
theorem lri_no_len:typeLookup (.type "list_reverseiterator") "__len__" = pure none:=by rw [typeLookup_type,builtinLookup_eq_fast]; kernel_rfl
theorem slot_lri_hint:Slot "list_reverseiterator" "__length_hint__" "list_reverseiterator.__length_hint__" :=
 .of (owner:="list_reverseiterator") (n:="__length_hint__") (by rw [typeLookup_type,builtinLookup_eq_fast]; kernel_rfl) (by decide +kernel) (by decide +kernel) (by decide +kernel)
  (by first | exact .inl (by decide +kernel) | exact .inr (by decide +kernel)) (by rw [isSubtype_type]; kernel_rfl)
theorem sub_lri_lri:isSubtype (.type "list_reverseiterator") (.type "list_reverseiterator")=pure true:=by rw [isSubtype_type]; kernel_rfl
end F
section
variable {prog:Program} {w:World} {A:Around} {E:Value→Shared→Prop} {s:Shared}
theorem ZgP {it l:Addr} {items:Array Value} {Q:Bool→Shared→Prop} (hit:s.heap.IsRevIter it l ((items.size:Int) - 1)) (hl:s.heap.IsList l items) (hx:items.size≤sizeLine)
  (h:∀ b tk,Q b { s with toks:=tk }):wpAny (model prog w) A (Builtin.List.listLengthHint (.ref it)) Q E s:=by
 have hs:sizeLine=16777216:=sizeLine_eq
 unfold Builtin.List.listLengthHint
 refine wpAny_bind (wpAny_specialOf hit.typeIs F.lri_no_len ?_)
 show wpAny _ _ (specialOf (Value.ref it) (Str.ofString "__length_hint__") >>= _) _ _ _
 refine wpAny_bind (wpAny_specialOf hit.typeIs F.slot_lri_hint.lookup ?_)
 have hsp:splitId "list_reverseiterator.__length_hint__" = some ("list_reverseiterator","__length_hint__"):=by decide +kernel
 try dsimp only
 rw [hsp]
 try dsimp only
 refine wpAny_bind (wpAny_isInstance hit.typeIs F.sub_lri_lri ?_)
 rw [if_neg (by decide)]
 rw [if_pos (by decide +kernel)]
 rw [if_neg (show ¬ ((Value.builtin "list_reverseiterator.__length_hint__" == Value.builtin "range_iterator.__length_hint__")=true) by decide +kernel)]
 exact wpAny_pure (h _ s.toks)
section
variable {R:Result→Shared→Prop}
theorem ZdQ (hh:A.handled=none) {I l:Addr} {items:Array Value} (hx:items.size≤sizeLine) (S:Addr) (c₀:Nat) (hit:s.heap.IsRevIter I l ((items.size:Int) - 1)) (hl:s.heap.IsList l items) (hlI:l≠I) (hSI:S≠I) (hSl:S≠l)
  (hS:s.heap.get? S=some { cls:=.type "list",data:=.seq #[] c₀ })
  (hR:∀ h' tk acc' c',(∀ b o,b≠S→b≠I→s.heap.get? b=some o→h'.get? b=some o)→h'.get? S=some { cls:=.type "list",dict:=none,data:=.seq acc' c',slots:=#[] } →
   ItemsOf (fun i v=>items[items.size - 1 - i]?=some v) acc' items.size→R (.ok (.ret .none)) { s with heap:=h',toks:=tk }) :
  wpAny (model prog w) A.in1 (Builtin.List.listExtendWith (.ref S) (.ref I) .none)
   (fun fin s'=>match fin with | .done f=>R (.ok f) s' | .again c'=>c'.quiet=true∧codeAny (model prog w) A c' R s') (fun e s'=>R (.error e) s') s:=by
 have hSf:S∉[I,l]:=fun hm=>by
  rcases List.mem_cons.mp hm with e | hm
  ·exact hSI e
  ·exact hSl (List.mem_singleton.mp hm)
 unfold Builtin.List.listExtendWith
 refine wpAny_bind (wpAny_typeOf hit.typeIs ?_)
 have h1:Builtin.List.listSameRef (.ref S) (.ref I)=false:=by simp [Builtin.List.listSameRef,hSI]
 have h2:(Value.type "list_reverseiterator" == Value.type "list")=false:=by decide
 have h3:(Value.type "list_reverseiterator" == Value.type "tuple")=false:=by decide
 simp only [h1,h2,h3,Bool.or_false,Bool.false_eq_true,if_false]
 refine wpAny_bind (wpAny_pyIter_revIter hit ?_)
 refine wpAny_bind (wpAny_holding (ZgP hit hl hx fun b tk=>?_))
 have W:=(Walks.listRev (prog:=prog) (w:=w) (A:=A.in1) hh I l hlI items).toS
 have st0:∀ h':Heap,(∀ b o,b≠S→s.heap.get? b=some o→h'.get? b=some o)→(0≤items.size∧h'.IsRevIter I l ((items.size:Int) - 1 - ((0:Nat):Int))∧h'.IsList l items):=fun h' hk=>⟨Nat.zero_le _,by
  have:=hit.at (h':=h') fun o e=>hk I o (Ne.symm hSI) e
  have e:(items.size:Int) - 1 - ((0:Nat):Int)=(items.size:Int) - 1:=by omega
  rw [e]
  exact this,hl.at fun o e=>hk l o (Ne.symm hSl) e⟩
 have fin:∀ (h₁:Heap) (c₁:Nat),(∀ b o,b≠S→s.heap.get? b=some o→h₁.get? b=some o)→h₁.get? S=some { cls:=.type "list",data:=.seq #[] c₁ } →
   codeAny (model prog w) A (.builtin "list.extend.loop" ⟨[.ref S,.ref I,.none],[]⟩) R { s with heap:=h₁,toks:=tk }:=fun h₁ c₁ hk hS₁=>by
  refine codeAny_extend_loopS W hx _ hSf _ items.size 0 _ _ _ rfl (Nat.zero_le _) (st0 h₁ hk) hS₁ (ItemsOf.nil _) fun s' acc' c' hm hS' hacc=>?_
  rw [Moved.eq_with hm]
  refine hR s'.heap s'.toks acc' c' (fun b ob hb hbI e=>hm.heap b ob (fun hmem=>?_) (hk b ob hb e)) hS' hacc
  rcases List.mem_cons.mp hmem with e' | hmem
  ·exact hb e'
  ·exact hbI (List.mem_singleton.mp hmem)
 split
 ·refine wpAny_bind (wpAny_rule ?_)
  refine wpAny_bind ?_
  show wpAny _ A.in1 (updateSeq S (·.push .none) >>= fun _=>updateSeq S (·.pop)) _ _ _
  refine wpAny_bind (wpAny_updateSeq hS rfl ?_)
  have hS₂:=Heap.get?_update_self (Obj.mapSeq (·.push Value.none)) hS rfl
  refine wpAny_updateSeq (hz:=by seq_fits) hS₂ rfl ?_
  have hS₃:=Heap.get?_update_self (Obj.mapSeq (·.pop)) hS₂ rfl
  exact wpAny_pure ⟨plainId_quiet F.plain_extend_loop _,fin _ _ (fun b o hb e=>(Heap.get?_update_other _ _ (Ne.symm hb)).trans ((Heap.get?_update_other _ _ (Ne.symm hb)).trans e)) hS₃⟩
 ·exact wpAny_pure ⟨plainId_quiet F.plain_extend_loop _,fin _ _ (fun b o hb e=>e) hS⟩
theorem Zay (hh:A.handled=none) {I l:Addr} {items:Array Value} (hx:items.size≤sizeLine) (S:Addr) (hit:s.heap.IsRevIter I l ((items.size:Int) - 1)) (hl:s.heap.IsList l items) (hlI:l≠I) (hSI:S≠I) (hSl:S≠l)
  (hS:s.heap.get? S=some { cls:=.type "list",data:=.seq #[] })
  (hR:∀ h' tk acc' c',(∀ b o,b≠S→b≠I→s.heap.get? b=some o→h'.get? b=some o)→h'.get? S=some { cls:=.type "list",dict:=none,data:=.seq acc' c',slots:=#[] } →
   ItemsOf (fun i v=>items[items.size - 1 - i]?=some v) acc' items.size→R (.ok (.ret .none)) { s with heap:=h',toks:=tk }) :
  wpAny (model prog w) A.in1 (Builtin.«list.__init__» ⟨[.ref S,.ref I],[]⟩)
   (fun fin s'=>match fin with | .done f=>R (.ok f) s' | .again c'=>c'.quiet=true∧codeAny (model prog w) A c' R s') (fun e s'=>R (.error e) s') s:=by
 show wpAny _ A.in1 (do let old ← Builtin.List.listItems (.ref S); Builtin.List.listUpdate (.ref S) (fun _=>#[]); letGo old.toList.reverse; Builtin.List.listExtendWith (.ref S) (.ref I) .none) _ _ s
 refine wpAny_bind ?_
 unfold Builtin.List.listItems
 refine wpAny_bind (wpAny_seqItems hS rfl (wpAny_pure ?_))
 show wpAny _ A.in1 (updateSeq S (fun _=>#[]) >>= fun _=>letGo (#[]:Array Value).toList.reverse >>= fun _=>Builtin.List.listExtendWith (.ref S) (.ref I) .none) _ _ s
 refine wpAny_bind (wpAny_updateSeq hS rfl ?_)
 have hS₂:=Heap.get?_update_self (Obj.mapSeq (fun _=>(#[]:Array Value))) hS rfl
 have oth:∀ b o,b≠S→s.heap.get? b=some o→(s.heap.update S (Obj.mapSeq (fun _=>(#[]:Array Value)))).get? b=some o :=
  fun b o hb e=>(Heap.get?_update_other _ _ (Ne.symm hb)).trans e
 refine wpAny_bind (wpAny_letGo ?_)
 refine ZdQ hh hx S _ (hit.at fun o e=>oth I o (Ne.symm hSI) e) (hl.at fun o e=>oth l o (Ne.symm hSl) e) hlI hSI hSl hS₂ fun h' tk acc' c' hk hS' hacc=>?_
 exact hR h' tk acc' c' (fun b o hb hbI e=>hk b o hb hbI (oth b o hb e)) hS' hacc
end
theorem ZaL (hh:A.handled=none) {I l:Addr} {items:Array Value} {Q:Value→Shared→Prop} (hx:items.size≤sizeLine) (hit:s.heap.IsRevIter I l ((items.size:Int) - 1)) (hl:s.heap.IsList l items) (hlI:l≠I)
  (hQ:∀ h' tk acc' c',(∀ b o,b≠I→s.heap.get? b=some o→h'.get? b=some o)→h'.get? s.heap.objs.size=some { cls:=.type "list",dict:=none,data:=.seq acc' c',slots:=#[] } →
   ItemsOf (fun i v=>items[items.size - 1 - i]?=some v) acc' items.size→Q (.ref s.heap.objs.size) { s with heap:=h',toks:=tk }) :
  wpAny (model prog w) A (call (.type "list") [.ref I]) Q E s:=by
 have hSI:s.heap.objs.size≠I:=fun e=>by
  obtain ⟨o,ho,_⟩:=hit
  exact Nat.lt_irrefl _ (e ▸ Heap.lt_size ho)
 have hSl:s.heap.objs.size≠l:=fun e=>by
  obtain ⟨o,ho,_⟩:=hl
  exact Nat.lt_irrefl _ (e ▸ Heap.lt_size ho)
 refine callType_codes (Q₁:=fun obj s₁=>obj = .ref s.heap.objs.size∧s₁={ s with heap:=s.heap.push { cls:=.type "list",data:=.seq #[] } }) F.called_list (F.typeCall_list_1 _) F.entry_list_init
  (code_list_new _ ⟨rfl,rfl⟩) fun obj s₁ h₁=>?_
 obtain ⟨rfl,rfl⟩:=h₁
 have hS:(s.heap.push { cls:=.type "list",data:=.seq #[] }).get? s.heap.objs.size=some { cls:=.type "list",data:=.seq #[] }:=Heap.get?_push_size _ rfl
 refine ⟨⟨_,hS,rfl⟩,F.args_list_init_2 _ _,Zay (A:=A.in1) hh hx _ (hit.at fun o e=>Heap.get?_push_of_some _ e) (hl.at fun o e=>Heap.get?_push_of_some _ e) hlI hSI hSl hS fun h' tk acc' c' hk hS' hacc=>?_⟩
 exact ⟨rfl,hQ h' tk acc' c' (fun b o hbI e=>hk b o (Nat.ne_of_lt (Heap.lt_size e)) hbI (Heap.get?_push_of_some _ e)) hS' hacc⟩
end
end PySem
namespace L2
open PySem PySem.Spec PyProof.Rows
def ZlC (K:PySem.W.Frag) (te:TE):TE:=fun σ H Q=>te σ H fun x H1=>∃ a xs,x = .ref a∧SqL K H1 a xs∧∀ p,H1 p=none→Q (.ref p) (upd H1 p (.lst xs.reverse))
theorem Zb6 {X:Cx} {e:Expr} {te:TE} {p1 p2 pos1 pos2:Pos} (hc:X.calm=true) (hgl:Gl X "list") (hml:X.mg "list" = none) (hgr:Gl X "reversed") (hmr:X.mg "reversed" = none) (he:PE X e te)
  (hs1:starEach [.Call (.Name "reversed" p2) [e] [] pos2] X.env=[(false,eval (.Call (.Name "reversed" p2) [e] [] pos2) X.env)]:=by rfl) (hs2:starEach [e] X.env=[(false,eval e X.env)]:=by rfl) :
  PE X (.Call (.Name "list" p1) [.Call (.Name "reversed" p2) [e] [] pos2] [] pos1) (ZlC X.K te):=by
 intro pins s σ H Q I h
 refine wpAny_Call_Name_kw (Xp I hgl hml ZbH ?_ (by decide) (by decide))
 refine PyProof.Rows.callWith_type1 ?_ hs1 rfl
 rw [hs1]
 refine Calls.spliced_cons ?_
 refine wpAny_Call_Name_kw (Xp I hgr hmr J1 ?_ (by decide) (by decide))
 refine PyProof.Rows.callWith_type1 ?_ hs2 rfl
 rw [hs2]
 refine Calls.spliced_cons (thn (he pins s σ H _ I h) fun u s1 ⟨x,H1,I1,r1,q1⟩=>Calls.spliced_nil ?_)
 obtain ⟨a,xs,rfl,hx,q⟩:=q1
 cases r1
 obtain ⟨its,rv,pl,hz⟩:=I1.list hx
 have hl:=rv.length
 have hlt:a < s1.heap.objs.size:=by
  obtain ⟨o,n,e,_⟩:=pl
  exact Heap.lt_size e
 refine call_reversed_list pl.isList ?_
 refine Calls.spliced_nil ?_
 refine ZaL (items:=its.toArray) (l:=a) (I:=s1.heap.objs.size) (I.ok.hd hc) (by rw [List.size_toArray]; omega) ⟨_,Heap.get?_push_size _ rfl,rfl,rfl⟩ (pl.isList.push _) (Nat.ne_of_lt hlt) fun h' tk acc c hk hS hacc=>?_
 have hsz:(s1.heap.push (revObj a ((its.toArray.size:Int) - 1))).objs.size=s1.heap.objs.size + 1:=Heap.size_push ..
 dsimp only at hS hk ⊢
 rw [hsz] at hS ⊢
 have hf:H1 (s1.heap.objs.size + 1)=none:=I1.hok.fresh (Nat.le_succ _)
 refine ⟨.ref (s1.heap.objs.size + 1),_,I1.laid (h':=h') (t':=tk) (a:=s1.heap.objs.size + 1) (o:=.lst xs.reverse) (fun b u e=>hk b u (Nat.ne_of_lt (Heap.lt_size e)) (Heap.get?_push_of_some _ e)) (Nat.le_succ _) ?_,rfl,q _ hf⟩
 refine ⟨by rw [List.length_reverse]; exact hz,acc.toList,c,?_,by rw [hS,Array.toArray_toList]⟩
 have es:its.toArray.size=its.length:=List.size_toArray ..
 have hal:acc.toList.length=xs.length:=by rw [Array.length_toList]; exact hacc.1.trans (es.trans hl.symm)
 refine Zd1 _ _ (by rw [List.length_reverse,hal]) fun i w u e1 e2=>?_
 have hi:i < xs.length:=by
  have:=(List.getElem?_eq_some_iff.mp e1).1
  rw [List.length_reverse] at this
  exact this
 have h3:=hacc.2 i u (by rw [← Array.getElem?_toList]; exact e2)
 rw [List.getElem?_reverse hi] at e1
 obtain ⟨u',hu,ru⟩:=rv.get e1
 rw [es,← hl] at h3
 have h4:its[xs.length - 1 - i]?=some u:=by simpa using h3
 rw [hu] at h4
 cases h4
 exact ru
end L2
namespace Sh
open PySem L2 PyProof.Rows
def top (i:Nat):Stmt:=PySem.Challenge.pw_shredjoin_k63_whole_sure_behind_all.main.body.getD i (.Pass ⟨0,0,0,0⟩)
structure Blt (mg:Str→Option Value):Prop where
 isi:mg "isinstance" = none
 int:mg "int" = none
 bool:mg "bool" = none
 len:mg "len" = none
 range:mg "range" = none
 list:mg "list" = none
 tuple:mg "tuple" = none
 enum:mg "enumerate" = none
 sum:mg "sum" = none
 sorted:mg "sorted" = none
 set:mg "set" = none
 max:mg "max" = none
 min:mg "min" = none
 rev:mg "reversed" = none
 zip:mg "zip" = none
 str:mg "str" = none
 dict:mg "dict" = none
end Sh
namespace Sh
open PySem L2 PyProof.Rows
seal L2.PE L2.PS L2.PSs L2.PT L2.PW L2.PA L2.PI L2.PG L2.PGs L2.PO L2.PC L2.PCs L2.OpR L2.UnR L2.CallR L2.MtR L2.IxR L2.SlR
section
variable {P:Program} {w:World} {K:PySem.W.Frag} {mg:Str→Option Value} {base:Heap}
theorem ZH {z:List Nat} (h:z.length≤1000):(tx z).length≤sizeLine:=by rw [Zs]; exact YV (by omega)
theorem Xg {z:List Nat} {a b:Nat} {i j:Int} (ei:i=a) (ej:j=b) (hab:a≤b) (hb:b≤z.length):Txt.slice (tx z) (some i) (some j)=tx (seg z a b):=by
 subst ei ej
 apply ZR
 rw [Jc (by omega) (by omega) (by rw [Zs]; omega),Zr,Zr]
 unfold seg
 congr 1
 omega
end
end Sh
namespace L2
end L2
namespace Sh
open PySem L2 PyProof.Rows
seal L2.PE L2.PS L2.PSs L2.PT L2.PW L2.PA L2.PI L2.PG L2.PGs L2.PO L2.PC L2.PCs L2.OpR L2.UnR L2.CallR L2.MtR L2.IxR L2.SlR
section
variable {P:Program} {w:World} {K:PySem.W.Frag} {mg:Str→Option Value} {base:Heap}
end
section
variable {P:Program} {w:World} {K:PySem.W.Frag} {mg:Str→Option Value} {base:Heap} {S C A1 A2 A3 A4 A5 A6 A7 A8:Addr}
def Cd (z:List Nat):Prop:=∀ c∈z,c < 1000
end
theorem Yq {z:List Nat} {n:Int} (h:0≤n):Txt.slice (tx z) none (some n)=tx (z.take n.toNat):=by
 apply ZR
 rw [JD h,Zr,Zr]
section
variable {P:Program} {w:World} {K:PySem.W.Frag} {mg:Str→Option Value} {base:Heap}
end
end Sh
namespace Sh
open PySem L2 PyProof.Rows
end Sh
namespace L2
open PySem PySem.Spec PyProof.Rows
theorem ZiB {k:Nat} {mp:List Nat} {σ:L2.St} {g:TG} {tc:TT} {te:TE} {J:It} {H1:Hp} {Q:VK} (n:Nat) (xs:Nat→V) (t:Nat→Bool) (hn:n≤sizeLine)
  (hJ:∀ H,Same H1 H→(∀ i,i < n→J.go i H∧∀ x H',J.yld i H x H'→H'=H∧x=xs i)∧J.stop n H)
  (step:∀ i H (Qt:VK) (Qf:Hp→Prop),i < n→Same H1 H→(t i=true→Qt (xs i) H)→(t i=false→Qf H)→g (xs i) (lcS k mp σ) H fun σ4 H4=>tc σ4 H4 fun b H5=>if b=true then te σ4 H5 Qt else Qf H5)
  (done:∀ D H',Same H1 H'→H1 D=none→H' D=some (.lst (((List.range n).filter t).map xs))→Q (.ref D) H'):Jr k mp σ g tc te J H1 Q:=by
 intro D hD
 refine ⟨fun i m acc H=>m=n - i∧i≤n∧acc=((List.range i).filter t).map xs∧Same H1 H∧H D=some (.lst acc),⟨n,by simp,Nat.zero_le _,rfl,Za hD,Zc⟩,?_⟩
 rintro i m acc H ⟨rfl,hi,rfl,hs,hDa⟩
 obtain ⟨j1,j2⟩:=hJ H hs
 by_cases hlt:i < n
 ·refine .inr ⟨(j1 i hlt).1,fun x H3 y=>?_⟩
  obtain ⟨e1,e2⟩:=(j1 i hlt).2 x H3 y
  subst e1 e2
  refine step i H3 _ _ hlt hs (fun ht=>⟨hDa,?_,n - (i + 1),by omega,rfl,hlt,?_,fun b o e=>?_,Zc⟩) (fun ht=>⟨n - (i + 1),by omega,rfl,hlt,?_,hs,hDa⟩)
  ·rw [List.length_map]
   have:=List.length_filter_le t (List.range i)
   rw [List.length_range] at this
   omega
  ·rw [List.range_succ,List.filter_append,List.map_append]
   simp [ht]
  ·rw [Zj (Zl e hD)]
   exact hs b o e
  ·rw [List.range_succ,List.filter_append,List.map_append]
   simp [ht]
 ·have e:i=n:=by omega
  subst e
  exact .inl ⟨j2,done D H hs hD hDa⟩
theorem ZcV {H:Hp}:∀ ns:List Int,RepA H (ns.map PyData.int) (ns.map V.int)
 | []=>by rw [List.map_nil,RepA]; rfl
 | p :: ps=>by
  rw [List.map_cons,RepA]
  exact ⟨.int p,ps.map V.int,rfl,by rw [RepD],ZcV ps⟩
theorem Zda:∀ ns:List Int,PyData.canLayAll0 (ns.map PyData.int)=true
 | []=>by simp [PyData.canLayAll0]
 | p :: ps=>by
  rw [List.map_cons,PyData.canLayAll0,Zda ps]
  simp [PyData.canLay0]
theorem JW:∀ ns:List Int,PyData.depthAll (ns.map PyData.int)=0
 | []=>by simp [PyData.depthAll]
 | p :: ps=>by
  rw [List.map_cons,PyData.depthAll,JW ps]
  simp [PyData.depth]
theorem Z1 (ns:List Int):SeqAt.shaped (.list (ns.map PyData.int))=true:=by
 unfold SeqAt.shaped
 rw [Bool.and_eq_true]
 constructor
 ·rw [PyData.canLay0]
  exact Zda ns
 ·refine decide_eq_true ?_
  rw [PyData.depth,JW ns]
  decide
theorem Ys {H:Hp} {a:Addr} {ns:List Int} (h:H a=some (.lst (ns.map V.int))):RepD H (.list (ns.map PyData.int)) (.ref a):=by
 rw [RepD]
 exact ⟨a,_,rfl,h,ZcV ns⟩
end L2
namespace Sh
open PySem L2 PyProof.Rows
seal L2.PE L2.PS L2.PSs L2.PT L2.PW L2.PA L2.PI L2.PG L2.PGs L2.PO L2.PC L2.PCs L2.OpR L2.UnR L2.CallR L2.MtR L2.IxR L2.SlR
section
variable {P:Program} {w:World} {K:PySem.W.Frag} {mg:Str→Option Value} {base:Heap}
end
end Sh
namespace Sh
open PySem L2 PyProof.Rows
theorem ZhL {d:PyData} (h:SeqAt.shaped d=true):PyData.eqv d d=true:=SeqAt.eqv_refl d (SeqAt.canLay_of_shaped h)
theorem Zb8 {z:List Nat} {L:Nat} (h:Fit z L):pcs z L=(win L z).map tx:=by
 have:=h.le
 unfold pcs win
 rw [List.map_map,show z.length + 1 - L=z.length - L + 1 by omega]
 rfl
end Sh
namespace Sh
abbrev Mat:=List (List Int)
def Sm (n:Nat) (x:Int):Prop:=x.natAbs < 2 ^ n
def Zfx (M:Mat):Option Nat:=M.findIdx? fun r=>decide (r.headD 0≠0)
def ZkX (r h:List Int) (d:Int):List Int:=(List.range (r.length - 1)).map fun j=>(h.headD 0 * r.getD (j + 1) 0 - r.headD 0 * h.getD (j + 1) 0).fdiv d
def ZjH (M:Mat) (p:Nat) (d:Int):Mat:=(M.take p ++ M.drop (p + 1)).map fun r=>ZkX r (M.getD p []) d
def Sq (n:Nat) (M:Mat):Prop:=M.length=n∧∀ r∈M,r.length=n
def SmM (k:Nat) (M:Mat):Prop:=∀ r∈M,∀ x∈r,Sm k x
def FineM:Nat→Mat→Int→Int→Int→Prop
 | 0,M,_,_,W=>M=[]∧W=1
 | 1,M,s,_,W=>∃ x,M=[[x]]∧W=s * x∧(s=1∨s = -1)
 | n + 2,M,s,d,W=>Sq (n + 2) M∧SmM 3900 M∧Sm 3900 d∧d≠0∧(s=1∨s = -1)∧match Zfx M with
  | none=>W=0
  | some p=>FineM (n + 1) (ZjH M p d) (if p % 2=0 then s else -s) ((M.getD p []).headD 0) W
theorem Sm.up {a b:Nat} {x:Int} (h:Sm a x) (hab:a≤b):Sm b x:=Nat.lt_of_lt_of_le h (Nat.pow_le_pow_right (by decide) hab)
theorem Sm.one (a:Nat) (h:1≤a):Sm a 1:=by
 have:Sm 1 1:=by unfold Sm; decide
 exact this.up h
end Sh
namespace Sh
open PySem L2 PyProof.Rows
seal L2.PE L2.PS L2.PSs L2.PT L2.PW L2.PA L2.PI L2.PG L2.PGs L2.PO L2.PC L2.PCs L2.OpR L2.UnR L2.CallR L2.MtR L2.IxR L2.SlR
section
variable {P:Program} {w:World} {K:PySem.W.Frag} {mg:Str→Option Value} {base:Heap}
structure RowsL (H:Hp) (as:List Addr) (M:Mat):Prop where
 len:as.length=M.length
 row:∀ i a,as[i]?=some a→H a=some (.lst ((M.getD i []).map V.int))
theorem RowsL.same {H H':Hp} {as:List Addr} {M:Mat} (s:Same H H') (h:RowsL H as M):RowsL H' as M:=⟨h.len,fun i a e=>s _ _ (h.row i a e)⟩
theorem FineM.len:∀ {n:Nat} {M:Mat} {s d W:Int},FineM n M s d W→M.length=n
 | 0,_,_,_,_,h=>by rw [h.1]; rfl
 | 1,_,_,_,_,⟨x,e,_⟩=>by rw [e]; rfl
 | _ + 2,_,_,_,_,h=>h.1.1
theorem FineM.go {n p:Nat} {M:Mat} {s d W:Int} (h:FineM (n + 2) M s d W) (e:Zfx M=some p):FineM (n + 1) (ZjH M p d) (if p % 2=0 then s else -s) ((M.getD p []).headD 0) W:=by
 have:=h.2.2.2.2.2
 rw [e] at this
 exact this
theorem FineM.stop {n:Nat} {M:Mat} {s d W:Int} (h:FineM (n + 2) M s d W) (e:Zfx M=none):W=0:=by
 have:=h.2.2.2.2.2
 rw [e] at this
 exact this
structure RowsT (H:Hp) (as:List Addr) (M:Mat):Prop where
 len:as.length=M.length
 row:∀ i a,as[i]?=some a→H a=some (.tup ((M.getD i []).map V.int))
theorem RowsT.same {H H':Hp} {as:List Addr} {M:Mat} (s:Same H H') (h:RowsT H as M):RowsT H' as M:=⟨h.len,fun i a e=>s _ _ (h.row i a e)⟩
end
end Sh
namespace Sh
end Sh
namespace Sh
open PySem L2 PyProof.Rows
seal L2.PE L2.PS L2.PSs L2.PT L2.PW L2.PA L2.PI L2.PG L2.PGs L2.PO L2.PC L2.PCs L2.OpR L2.UnR L2.CallR L2.MtR L2.IxR L2.SlR
section
variable {P:Program} {w:World} {K:PySem.W.Frag} {mg:Str→Option Value} {base:Heap}
end
abbrev Pr:=Str × Int
def PairAt (H:Hp) (v:V) (p:Pr):Prop:=∃ b,v = .ref b∧H b=some (.tup [.str p.1,.int p.2])
def HpAt (H:Hp) (v:V) (hp:List Pr):Prop:=∃ a xs,v = .ref a∧H a=some (.tup xs)∧xs.length=hp.length∧∀ i p,hp[i]?=some p→PairAt H (xs.getD i .non) p
theorem PairAt.same {H H':Hp} (s:TSame H H') {v:V} {p:Pr} (h:PairAt H v p):PairAt H' v p:=by
 obtain ⟨b,e,q⟩:=h
 exact ⟨b,e,s _ _ q⟩
theorem HpAt.same {H H':Hp} (s:TSame H H') {v:V} {hp:List Pr} (h:HpAt H v hp):HpAt H' v hp:=by
 obtain ⟨a,xs,e,q,l,r⟩:=h
 exact ⟨a,xs,e,s _ _ q,l,fun i p z=>(r i p z).same s⟩
section
variable {P:Program} {w:World} {K:PySem.W.Frag} {mg:Str→Option Value} {base:Heap}
end
end Sh
namespace L2
open PySem PySem.Spec PyProof.Rows
end L2
namespace Sh
open PySem L2 PyProof.Rows
seal L2.PE L2.PS L2.PSs L2.PT L2.PW L2.PA L2.PI L2.PG L2.PGs L2.PO L2.PC L2.PCs L2.OpR L2.UnR L2.CallR L2.MtR L2.IxR L2.SlR
theorem Y1 {α:Type} [DecidableEq α]:∀ {l B:List α},l.Nodup→(∀ x∈l,x∈B)→l.length≤B.length
 | [],B,_,_=>Nat.zero_le _
 | x :: l,B,nd,h=>by
  have h1:=List.nodup_cons.mp nd
  have h2:=Y1 (l:=l) (B:=B.erase x) h1.2 fun y hy=>by
   have ne:y≠x:=fun q=>h1.1 (q ▸ hy)
   exact (List.mem_erase_of_ne ne).mpr (h y (List.mem_cons_of_mem _ hy))
  have h3:=List.length_erase_of_mem (h x List.mem_cons_self)
  have h4:0 < B.length:=List.length_pos_of_mem (h x List.mem_cons_self)
  rw [List.length_cons]
  omega
structure Zz (ps:List Str) (hp:List Pr):Prop where
 srt:(hp.map fun p=>p.1.cps.toList).Pairwise (· < ·)
 mem:∀ x,x∈hp.map (·.1)↔x∈ps
 cnt:∀ p∈hp,p.2=ps.count p.1
section
variable {P:Program} {w:World} {K:PySem.W.Frag} {mg:Str→Option Value} {base:Heap}
end
section
variable {P:Program} {w:World} {K:PySem.W.Frag} {mg:Str→Option Value} {base:Heap} {S C A1 A2 A3 A4 A5 A6 A7 A8:Addr}
end
theorem Zgf {x:Str} (h:1≤x.length):Txt.slice x none (some (-1))=bg x:=by
 apply ZR
 rw [eq_of_beq (slice_closes_to_neg (x:=x) (j:=-1) (k:=-1 + x.length) (by decide) (by omega) rfl)]
 unfold bg
 rw [Zr,List.dropLast_eq_take,Zy]
 simp
 congr 1
 omega
theorem Zge {x:Str} (h:1≤x.length):Txt.slice x (some 1) none=en x:=by
 apply ZR
 rw [YE (by decide) (by omega)]
 unfold en
 rw [Zr]
 rfl
def PA (H:Hp) (vs:List V) (es:Es):Prop:=vs.length=es.length∧∀ (i:Nat) (e:Str × Int),es[i]?=some e→∃ b,vs[i]?=some (.ref b)∧H b=some (.tup [.str e.1,.int e.2])
theorem PA.same {H H':Hp} {vs:List V} {es:Es} (h:PA H vs es) (s:TSame H H'):PA H' vs es:=⟨h.1,fun i e q=>by
 obtain ⟨b,e1,e2⟩:=h.2 i e q
 exact ⟨b,e1,s _ _ e2⟩⟩
def HeapV (H:Hp) (v:V) (es:Es):Prop:=∃ q vs,v = .ref q∧H q=some (.tup vs)∧PA H vs es
theorem HeapV.same {H H':Hp} {v:V} {es:Es} (h:HeapV H v es) (s:Same H H'):HeapV H' v es:=by
 obtain ⟨q,vs,e,e1,e2⟩:=h
 exact ⟨q,vs,e,s _ _ e1,e2.same s.tup⟩
structure ZfW (es:Es):Prop where
 few:es.length≤31
 many:∀ e∈es,0≤e.2∧e.2≤1000
 long:∀ e∈es,1≤e.1.length∧e.1.length≤1000
structure Pts (es:Es) (ks:List Str):Prop where
 nd:ks.Nodup
 mem:∀ P,P∈ks↔∃ e∈es,bg e.1=P∨en e.1=P
 len:ks.length≤2 * es.length
theorem Pts.nil:Pts [] []:=⟨List.nodup_nil,fun P=>by simp,Nat.le_refl _⟩
def YT (ks:List Str) (x:Str):List Str:=if x∈ks then ks else ks ++ [x]
theorem ZfV {ks:List Str} {x:Str} (h:ks.Nodup):(YT ks x).Nodup:=by
 unfold YT
 split
 ·exact h
 ·rename_i c
  exact List.nodup_append.mpr ⟨h,by simp,fun a ha b hb e=>by rw [List.mem_singleton.mp hb] at e; subst e; exact c ha⟩
theorem ZaN {ks:List Str} {x y:Str}:y∈YT ks x↔y∈ks∨y=x:=by
 unfold YT
 split
 ·rename_i c
  exact ⟨.inl,fun h=>h.elim id fun e=>e ▸ c⟩
 ·simp
theorem Xv (ks:List Str) (x:Str):(YT ks x).length≤ks.length + 1:=by
 unfold YT
 split <;> simp
theorem Pts.step {es:Es} {ks:List Str} (h:Pts es ks) (e:Str × Int):Pts (es ++ [e]) (YT (YT ks (bg e.1)) (en e.1)) where
 nd:=ZfV (ZfV h.nd)
 mem:=fun P=>by
  rw [ZaN,ZaN,h.mem]
  constructor
  ·rintro ((⟨x,hx,q⟩ | q) | q)
   ·exact ⟨x,List.mem_append_left _ hx,q⟩
   ·exact ⟨e,by simp,.inl q.symm⟩
   ·exact ⟨e,by simp,.inr q.symm⟩
  ·rintro ⟨x,hx,q⟩
   rcases List.mem_append.mp hx with z | z
   ·exact .inl (.inl ⟨x,z,q⟩)
   ·rw [List.mem_singleton.mp z] at q
    rcases q with q | q
    ·exact .inl (.inr q.symm)
    ·exact .inr q.symm
 len:=by
  have h1:=Xv (YT ks (bg e.1)) (en e.1)
  have h2:=Xv ks (bg e.1)
  have:=h.len
  rw [List.length_append,List.length_singleton]
  omega
theorem Pts.zero {es:Es} {ks:List Str} (h:Pts es ks) {P:Str} (hP:P∉ks):mo es P=0:=Zfi fun e he=>⟨fun q=>hP ((h.mem P).mpr ⟨e,he,.inl q⟩),fun q=>hP ((h.mem P).mpr ⟨e,he,.inr q⟩)⟩
theorem ZhJ {ks:List Str} {g:Str→Int} {y:Str} (h0:y∉ks→g y=0):(Y4 (gD ks g) (Sum.inr y:Key)).getD (.int 0) = .int (g y):=by
 rw [Xr]
 split
 ·rfl
 ·rename_i c
  rw [h0 c]
  rfl
theorem ZiM {ss:List Str} {p:Str→Bool}:ss.filter p=((List.range ss.length).filter fun i=>p (ss.getD i "")).map fun i=>ss.getD i "":=by
 have e:ss=(List.range ss.length).map fun i=>ss.getD i "":=by
  apply List.ext_getElem?
  intro i
  rw [List.getElem?_map]
  by_cases hi:i < ss.length
  ·rw [List.getElem?_range hi,Option.map_some,List.getD_eq_getElem?_getD,List.getElem?_eq_getElem hi]
   rfl
  ·rw [List.getElem?_eq_none (by omega),List.getElem?_eq_none (by simp; omega)]
   rfl
 conv=>lhs; rw [e]
 rw [List.filter_map]
 rfl
def Zgo (x:Str) (n:Int) (v:V) (H:Hp):Prop:=∃ b,v = .ref b∧H b=some (.tup [.str x,.int n])
theorem ZkT {H:Hp} {vs:List V} {ss:List Str} {p:Str→Bool} {f:Str→Int} (hl:vs.length=((List.range ss.length).filter fun i=>p (ss.getD i "")).length)
  (hR:∀ (j i:Nat) (v:V),((List.range ss.length).filter fun i=>p (ss.getD i ""))[j]?=some i→vs[j]?=some v→Zgo (ss.getD i "") (f (ss.getD i "")) v H):PA H vs ((ss.filter p).map fun x=>(x,f x)):=by
 rw [ZiM]
 refine ⟨by rw [List.length_map,List.length_map,hl],fun j e he=>?_⟩
 rw [List.getElem?_map,List.getElem?_map] at he
 cases hj:((List.range ss.length).filter fun i=>p (ss.getD i ""))[j]? with
 | none=>rw [hj] at he; cases he
 | some i =>
  rw [hj] at he
  cases he
  have hjv:j < vs.length:=by rw [hl]; exact (List.getElem?_eq_some_iff.mp hj).1
  obtain ⟨b,e1,e2⟩:=hR j i vs[j] hj (List.getElem?_eq_getElem hjv)
  exact ⟨b,by rw [List.getElem?_eq_getElem hjv,e1],e2⟩
structure SPts (es:Es) (ss:List Str):Prop where
 srt:(ss.map fun x=>x.cps.toList).Pairwise (· < ·)
 pts:Pts es ss
theorem SPts.of {es:Es} {ks ss:List Str} (h:Pts es ks) (p:ss.Perm ks) (s:(ss.map fun x=>x.cps.toList).Pairwise (· < ·)):SPts es ss :=
 ⟨s,p.nodup_iff.mpr h.nd,fun P=>by rw [p.mem_iff,h.mem],by rw [p.length_eq]; exact h.len⟩
section
variable {P:Program} {w:World} {K:PySem.W.Frag} {mg:Str→Option Value} {base:Heap}
theorem ZY {x:Str} (h:x.length≤1000):x.length≤sizeLine:=YV (by omega)
abbrev Zal:Stmt:=top 8
abbrev ZgM:List Str:=["piece"]
theorem Zex:Zn ZgM ["piece"] (Zf Zal):=⟨rfl,rfl,rfl,by decide +kernel,rfl,by decide +kernel,by decide +kernel⟩
def Zad:Sp:=fun vs H Q _=>∃ x:Str,vs=[.str x]∧1≤x.length∧x.length≤1000∧Q (.str (bg x)) H
theorem Zcg (D:HasDef K mg "begin_of" Zal ["piece"]):FOk P w K mg base 1 "begin_of" ["piece"] Zad:=by
 refine D.ok Zex (fun vs H Q E h=>?_) (fun f cdv A outer s H vs Q E hr h=>?_)
 ·obtain ⟨x,rfl,_⟩:=h
  rfl
 ·obtain ⟨x,rfl,h1,h2,k⟩:=h
  refine ⟨_,(Zh (Zu (ZM Yr (pv 0) Z8 (ZO (Xb Ye Zi))))),?_⟩
  refine ⟨_,rfl,_,rfl,_,rfl,_,rfl,ZY h2,?_⟩
  rw [← Zgf h1] at k
  exact k
abbrev ZeH:Stmt:=top 9
abbrev ZjQ:List Str:=["piece"]
theorem Zia:Zn ZjQ ["piece"] (Zf ZeH):=⟨rfl,rfl,rfl,by decide +kernel,rfl,by decide +kernel,by decide +kernel⟩
def ZaX:Sp:=fun vs H Q _=>∃ x:Str,vs=[.str x]∧1≤x.length∧x.length≤1000∧Q (.str (en x)) H
theorem Ze6 (D:HasDef K mg "end_of" ZeH ["piece"]):FOk P w K mg base 1 "end_of" ["piece"] ZaX:=by
 refine D.ok Zia (fun vs H Q E h=>?_) (fun f cdv A outer s H vs Q E hr h=>?_)
 ·obtain ⟨x,rfl,_⟩:=h
  rfl
 ·obtain ⟨x,rfl,h1,h2,k⟩:=h
  refine ⟨_,(Zh (Zu (ZM Yr (pv 0) (ZO Zi) Z8))),?_⟩
  refine ⟨_,rfl,_,rfl,_,rfl,ZY h2,?_⟩
  rw [← Zge h1] at k
  exact k
end
theorem Zed {l m:List Str} (hl:(l.map fun x=>x.cps.toList).Pairwise (· < ·)) (hm:(m.map fun x=>x.cps.toList).Pairwise (· < ·)) (h:∀ x,x∈l↔x∈m):l=m:=by
 have e:=XA hl hm fun c=>by
  rw [List.mem_map,List.mem_map]
  exact ⟨fun ⟨x,hx,q⟩=>⟨x,(h x).mp hx,q⟩,fun ⟨x,hx,q⟩=>⟨x,(h x).mpr hx,q⟩⟩
 have key:∀ (l m:List Str),(l.map fun x=>x.cps.toList)=(m.map fun x=>x.cps.toList)→l=m:=by
  intro l
  induction l with
  | nil =>
   intro m e
   cases m with
   | nil=>rfl
   | cons _ _=>cases e
  | cons x l ih =>
   intro m e
   cases m with
   | nil=>cases e
   | cons y m =>
    rw [List.map_cons,List.map_cons] at e
    injection e with e1 e2
    rw [ZR e1,ih m e2]
 exact key l m e
theorem SPts.one {es:Es} {l m:List Str} (h:SPts es l) (k:SPts es m):l=m:=Zed h.srt k.srt fun x=>by rw [h.pts.mem,k.pts.mem]
section
variable {P:Program} {w:World} {K:PySem.W.Frag} {mg:Str→Option Value} {base:Heap}
abbrev Zah:Stmt:=top 13
abbrev ZgI:List Str:=["H","more","piece","many"]
theorem scMoreOut:Zn ZgI ["H"] (Zf Zah):=⟨rfl,rfl,rfl,by decide +kernel,rfl,by decide +kernel,by decide +kernel⟩
def ZaV:Sp:=fun vs H Q _=>∃ (v:V) (es:Es),vs=[v]∧HeapV H v es∧ZfW es∧∀ d H' ks,Same H H'→H' d=some (.dK (gD ks (mo es)))→Pts es ks→Q (.ref d) H'
theorem Zcc (D:HasDef K mg "more_out" Zah ["H"]) (g11_:FOk P w K mg base 1 "begin_of" ["piece"] Zad) (g15_:FOk P w K mg base 1 "end_of" ["piece"] ZaX):FOk P w K mg base 2 "more_out" ["H"] ZaV:=by
 refine D.ok scMoreOut (fun vs H Q E h=>?_) (fun f cdv A outer s H vs Q E hr h=>?_)
 ·obtain ⟨v,es,rfl,_⟩:=h
  rfl
 ·obtain ⟨v,es,rfl,⟨q,vs,rfl,hq,hpa⟩,hF,k⟩:=h
  have hu:=Zct hr
  refine ⟨_,(Ze (Zm (i:=1) scMoreOut.nd rfl (.inl rfl) X8)
   (Ze (Yh PassesOwn.never rfl (Yi (pv 0)) (Z3 2 K rfl (Zt (ZG (i:=2) scMoreOut.nd rfl (.inl rfl)) (Zt (ZG (i:=3) scMoreOut.nd rfl (.inl rfl)) Z2)))
    (Ze (XE hu (pv 1) (Zx g11_ hr (Zb (pv 2) Zd)) (Zo ZU (YZ hu (pv 1) (Zx g11_ hr (Zb (pv 2) Zd)) Zi ⟨rfl,rfl,rfl,rfl⟩) (pv 3)) rfl)
   (Zh (XE hu (pv 1) (Zx g15_ hr (Zb (pv 2) Zd)) (Zo YM (YZ hu (pv 1) (Zx g15_ hr (Zb (pv 2) Zd)) Zi ⟨rfl,rfl,rfl,rfl⟩) (pv 3)) rfl))))
   (Zh (Zu (pv 1))))),?_⟩
  intro d hd
  have s1:=Za (o:=.dK []) hd
  refine ⟨_,rfl,q,rfl,⟨_,SqT.of (s1 _ _ hq)⟩,?_⟩
  refine XL (K:=K) (a:=q) (xs:=vs) (fun i σ H2=>(∃ z2 z3:Option V,σ=[some (.ref q),some (.ref d),z2,z3])∧Same H H2∧∃ ks,Pts (es.take i) ks∧H2 d=some (.dK (gD ks (mo (es.take i)))))
   ⟨⟨none,none,rfl⟩,s1,[],Pts.nil,Zc⟩ (fun i σ H2 _ ⟨_,s2,_⟩=>SqT.of (s2 _ _ hq)) ?_ ?_
  ·rintro i x σ H2 hi ⟨⟨z2,z3,rfl⟩,s2,ks,hk,hdd⟩
   have hiv:i < vs.length:=(List.getElem?_eq_some_iff.mp hi).1
   have hie:i < es.length:=by rw [← hpa.1]; exact hiv
   obtain ⟨b,e1,e2⟩:=hpa.2 i es[i] (List.getElem?_eq_getElem hie)
   rw [hi] at e1
   cases e1
   obtain ⟨l1,l2⟩:=hF.long es[i] (List.getElem_mem hie)
   have hkl:=hk.len
   have hfew:=hF.few
   rw [List.length_take] at hkl
   refine ⟨b,_,rfl,SqT.of (s2 _ _ e2),rfl,_,_,rfl,_,_,rfl,rfl,?_⟩
   have het:es.take (i + 1)=es.take i ++ [es[i]]:=List.take_succ_eq_append_getElem hie
   generalize es[i]=e at *
   have h0:=fun (hP:bg e.1∉ks)=>hk.zero hP
   have hg:=ZhJ (ks:=ks) (g:=mo (es.take i)) h0
   refine ⟨_,rfl,d,rfl,.inl ⟨_,.inl hdd⟩,_,rfl,e.1,rfl,l1,l2,_,DGet.k (k:=Sum.inr (bg e.1)) hdd,_,rfl,_,_,hg,rfl,_,rfl,_,rfl,e.1,rfl,l1,l2,d,_,rfl,DPut.k (k:=Sum.inr (bg e.1)) hdd (by rw [Jw]; exact ZC (by omega)),?_⟩
   rw [Zdd]
   have hdd2:(upd H2 d (.dK (gD (YT ks (bg e.1)) fun x=>if x=bg e.1 then mo (es.take i) (bg e.1) + e.2 else mo (es.take i) x))) d=some (.dK (gD (YT ks (bg e.1)) fun x=>if x=bg e.1 then mo (es.take i) (bg e.1) + e.2 else mo (es.take i) x)):=Zc
   have hg2:=ZhJ (ks:=YT ks (bg e.1)) (g:=fun x=>if x=bg e.1 then mo (es.take i) (bg e.1) + e.2 else mo (es.take i) x) (y:=en e.1) fun hP=>by
    rw [ZaN,not_or] at hP
    rw [if_neg hP.2,hk.zero hP.1]
   have hal:=Xv ks (bg e.1)
   refine ⟨_,rfl,d,rfl,.inl ⟨_,.inl hdd2⟩,_,rfl,e.1,rfl,l1,l2,_,DGet.k (k:=Sum.inr (en e.1)) hdd2,_,rfl,_,_,hg2,rfl,_,rfl,_,rfl,e.1,rfl,l1,l2,d,_,rfl,DPut.k (k:=Sum.inr (en e.1)) hdd2 (by rw [Jw]; exact ZC (by omega)),?_⟩
   refine ⟨⟨_,_,rfl⟩,fun c u hc=>?_,YT (YT ks (bg e.1)) (en e.1),by rw [het]; exact hk.step e,?_⟩
   ·rw [ZbI,Zj (Zl hc hd)]
    exact s2 c u hc
   ·rw [Zc,Zdd,het]
    refine congrArg (fun l=>some (HO.dK l)) (Zde fun x _=>?_)
    rw [Zix]
    unfold mo1 ind
    by_cases c1:x=en e.1
    ·subst c1
     rw [if_pos rfl,if_pos rfl]
     by_cases c2:en e.1=bg e.1
     ·rw [if_pos c2,if_pos c2.symm,c2]
      omega
     ·rw [if_neg c2,if_neg (Ne.symm c2)]
      omega
    ·rw [if_neg c1,if_neg (Ne.symm c1)]
     by_cases c2:x=bg e.1
     ·subst c2
      rw [if_pos rfl,if_pos rfl]
      omega
     ·rw [if_neg c2,if_neg (Ne.symm c2)]
      omega
  ·rintro σ H2 ⟨⟨z2,z3,rfl⟩,s2,ks,hk,hdd⟩
   rw [hpa.1,List.take_length] at hk hdd
   exact ⟨_,rfl,k d H2 ks s2 hdd hk⟩
abbrev Xi:Stmt:=top 14
abbrev Zbk:List Str:=["H"]
theorem Zdz:Zn Zbk ["H"] (Zf Xi):=⟨rfl,rfl,rfl,by decide +kernel,rfl,by decide +kernel,by decide +kernel⟩
def Zac:Sp:=fun vs H Q _=>∃ (v:V) (es:Es),vs=[v]∧HeapV H v es∧ZfW es∧∀ v' H' ss,Same H H'→HeapV H' v' (ups (mo es) ss)→SPts es ss→Q v' H'
theorem Zbg (D:HasDef K mg "begins_of" Xi ["H"]) (B:Blt mg) (g22_:FOk P w K mg base 2 "more_out" ["H"] ZaV):FOk P w K mg base 3 "begins_of" ["H"] Zac:=by
 refine D.ok Zdz (fun vs H Q E h=>?_) (fun f cdv A outer s H vs Q E hr h=>?_)
 ·obtain ⟨v,es,rfl,_⟩:=h
  rfl
 ·obtain ⟨v,es,rfl,hV,hF,k⟩:=h
  refine ⟨_,(Zh (Zu (Zv ZB rfl B.tuple Yl (Zb (ZX (Zf Xi) Zbk ["point","more"] [] rfl (Ji (Zk (YS rfl) rfl B.sorted Yd (Zb (Zan (Zx g22_ hr (Zb (pv 0) Zd))) Zd))) (fun _ _ _ _ _=>Z3 2 K rfl (Zt (Yy 0) (Zt (Yy 1) Z2))) (fun _ _ _ _ _=>Zao (ZA Za9 (pv 1) Zi (ZJ _))) (fun _ _ _ _ _=>(YF (Zb (pv 0) (Zb (pv 1) Zd))))) Zd)))),?_⟩
  refine ⟨_,rfl,v,es,rfl,hV,hF,fun d H1 ks s1 hd hP=>⟨d,_,rfl,hd,fun p hp=>?_⟩⟩
  have hkl:=hP.len
  have hfew:=hF.few
  refine ⟨p,d,ks,fun x=>.int (mo es x),rfl,Zc,Za hp _ _ hd,hP.nd,by omega,fun D1 H2 vs ss s2 hpm hsrt hD1 hl hv=>?_⟩
  have hss:=hpm.length_eq
  refine ⟨D1,rfl,⟨_,SqL.of hD1⟩,Zcq ss.length (fun i=>vs.getD i .non) (fun i=>decide (0 < (mo es) (ss.getD i ""))) (fun i v H=>Zgo (ss.getD i "") ((mo es) (ss.getD i "")) v H) (Zg (by omega)) (fun i v H H' hs ⟨b,e1,e2⟩=>⟨b,e1,hs _ _ e2⟩) (by have:=Zfs (K:=K) (SqL.of hD1); rw [hl] at this; exact this) ?_ ?_⟩
  ·intro i H3 Qt Qf hi hs ht hf
   obtain ⟨b,e1,e2⟩:=hv i ss[i] (List.getElem?_eq_getElem hi)
   have ev:vs.getD i .non = .ref b:=by rw [List.getD_eq_getElem?_getD,e1]; rfl
   have es1:ss.getD i "" = ss[i]:=by rw [List.getD_eq_getElem?_getD,List.getElem?_eq_getElem hi]; rfl
   rw [es1] at ht hf
   rw [ev]
   refine ⟨b,_,rfl,SqT.of (hs _ _ e2),rfl,_,_,rfl,_,_,rfl,rfl,?_⟩
   refine ⟨_,rfl,_,_,rfl,rfl,_,rfl,?_⟩
   by_cases c:0 < (mo es) ss[i]
   ·refine X9 (decide_eq_true (by omega)) (⟨_,rfl,_,rfl,Zg (show 2≤1000 by decide),fun r hr=>ht (decide_eq_true c) _ _ (Za hr) ⟨r,rfl,Zc⟩⟩)
   ·exact Xx (decide_eq_false (by omega)) (hf (decide_eq_false c) _ (Same.refl _))
  ·intro D2 vs2 H3 hl2 hR hs3 hD2 hDl
   refine ⟨D2,vs2,rfl,.inl ⟨SqL.of hDl,fun q hq=>?_⟩⟩
   have sq:=Za (o:=.tup vs2) hq
   refine k (.ref q) _ ss (((s1.trans (Za hp)).trans s2).trans (hs3.trans sq)) ⟨q,vs2,rfl,Zc,?_⟩ (SPts.of hP hpm hsrt)
   exact (ZkT (p:=fun x=>decide (0 < (mo es) x)) (f:=fun x=>(mo es) x) hl2 hR).same sq.tup
end
end Sh
namespace L2
open PySem PySem.Spec PyProof.Rows
theorem Zhc:bootBuiltins "set" = some (.type "set"):=by decide +kernel
end L2
namespace Sh
open PySem L2 PyProof.Rows
seal L2.PE L2.PS L2.PSs L2.PT L2.PW L2.PA L2.PI L2.PG L2.PGs L2.PO L2.PC L2.PCs L2.OpR L2.UnR L2.CallR L2.MtR L2.IxR L2.SlR
theorem Zeb {vs:List V} {es:Es} {f:Str→Str} (hl:vs.length=es.length) (hR:∀ (i:Nat) (v:V),vs[i]?=some v→v = .str (f (es.getD i ("",0)).1)):vs=(es.map fun e=>f e.1).map V.str:=by
 apply List.ext_getElem?
 intro i
 by_cases hi:i < vs.length
 ·have hie:i < es.length:=by omega
  rw [List.getElem?_eq_getElem hi,hR i _ (List.getElem?_eq_getElem hi),List.getElem?_map,List.getElem?_map,List.getElem?_eq_getElem hie,List.getD_eq_getElem?_getD,List.getElem?_eq_getElem hie]
  rfl
 ·rw [List.getElem?_eq_none (by omega),List.getElem?_eq_none (by rw [List.length_map,List.length_map]; omega)]
section
variable {P:Program} {w:World} {K:PySem.W.Frag} {mg:Str→Option Value} {base:Heap}
def TupS (H:Hp) (v:V) (ss:List Str):Prop:=∃ q,v = .ref q∧H q=some (.tup (ss.map V.str))
theorem TupS.same {H H':Hp} {v:V} {ss:List Str} (h:TupS H v ss) (s:Same H H'):TupS H' v ss:=by
 obtain ⟨q,e,e2⟩:=h
 exact ⟨q,e,s _ _ e2⟩
abbrev YJ:Stmt:=top 11
abbrev Jo:List Str:=["H"]
theorem Zdx:Zn Jo ["H"] (Zf YJ):=⟨rfl,rfl,rfl,by decide +kernel,rfl,by decide +kernel,by decide +kernel⟩
def ZcP:Sp:=fun vs H Q _=>∃ (v:V) (es:Es),vs=[v]∧HeapV H v es∧ZfW es∧∀ v' H' ss,Same H H'→TupS H' v' ss→SPts es ss→Q v' H'
theorem Zbc (D:HasDef K mg "points_of" YJ ["H"]) (B:Blt mg) (g11_:FOk P w K mg base 1 "begin_of" ["piece"] Zad) (g15_:FOk P w K mg base 1 "end_of" ["piece"] ZaX):FOk P w K mg base 2 "points_of" ["H"] ZcP:=by
 refine D.ok Zdx (fun vs H Q E h=>?_) (fun f cdv A outer s H vs Q E hr h=>?_)
 ·obtain ⟨v,es,rfl,_⟩:=h
  rfl
 ·obtain ⟨v,es,rfl,⟨q,vs,rfl,hq,hpa⟩,hF,k⟩:=h
  refine ⟨_,(Zh (Zu (Zv ZB rfl B.tuple Yl (Zb (Zk (Z0 rfl) rfl B.sorted Yd (Zb (Zv (Zbz rfl) rfl B.set Zhc (Zb (Zo JN (ZX (Zf YJ) Jo ["piece","many"] [] rfl (Yi (pv 0)) (fun _ _ _ _ _=>Z3 2 K rfl (Zt (Yy 0) (Zt (Yy 1) Z2))) (fun _ _ _ _ _=>YL) (fun _ _ _ _ _=>(Zx g11_ hr (Zb (pv 0) Zd))))
   (ZX (Zf YJ) Jo ["piece","many"] [] rfl (Yi (pv 0)) (fun _ _ _ _ _=>Z3 2 K rfl (Zt (Yy 0) (Zt (Yy 1) Z2))) (fun _ _ _ _ _=>YL) (fun _ _ _ _ _=>(Zx g15_ hr (Zb (pv 0) Zd))))) Zd)) Zd)) Zd)))),?_⟩
  have hfew:=hF.few
  have hvl:=hpa.1
  refine ⟨_,rfl,q,rfl,⟨_,SqT.of hq⟩,Jq vs.length (fun i=>vs.getD i .non) (fun i v _=>v = .str (bg (es.getD i ("",0)).1)) (Zg (by omega)) (fun _ _ _ _ _ r=>r) (Xq (SqT.of hq)) ?_ ?_⟩
  ·intro i H3 Qe hi hs kq
   have hie:i < es.length:=by omega
   obtain ⟨b,e1,e2⟩:=hpa.2 i es[i] (List.getElem?_eq_getElem hie)
   have ev:vs.getD i .non = .ref b:=by rw [List.getD_eq_getElem?_getD,e1]; rfl
   have ee:es.getD i ("",0)=es[i]:=by rw [List.getD_eq_getElem?_getD,List.getElem?_eq_getElem hie]; rfl
   obtain ⟨l1,l2⟩:=hF.long es[i] (List.getElem_mem hie)
   rw [ev]
   refine ⟨b,_,rfl,SqT.of (hs _ _ e2),rfl,_,_,rfl,_,_,rfl,rfl,_,rfl,es[i].1,rfl,l1,l2,kq _ _ (Same.refl _) ?_⟩
   rw [ee]
  intro D1 vs1 H3 hl1 hr1 hs3 hD1 hDl1
  rw [Zeb (f:=bg) (by omega) hr1] at hDl1
  refine ⟨_,rfl,q,rfl,⟨_,SqT.of (hs3 _ _ hq)⟩,Jq vs.length (fun i=>vs.getD i .non) (fun i v _=>v = .str (en (es.getD i ("",0)).1)) (Zg (by omega)) (fun _ _ _ _ _ r=>r) (Xq (SqT.of (hs3 _ _ hq))) ?_ ?_⟩
  ·intro i H4 Qe hi hs kq
   have hie:i < es.length:=by omega
   obtain ⟨b,e1,e2⟩:=hpa.2 i es[i] (List.getElem?_eq_getElem hie)
   have ev:vs.getD i .non = .ref b:=by rw [List.getD_eq_getElem?_getD,e1]; rfl
   have ee:es.getD i ("",0)=es[i]:=by rw [List.getD_eq_getElem?_getD,List.getElem?_eq_getElem hie]; rfl
   obtain ⟨l1,l2⟩:=hF.long es[i] (List.getElem_mem hie)
   rw [ev]
   refine ⟨b,_,rfl,SqT.of (hs _ _ (hs3 _ _ e2)),rfl,_,_,rfl,_,_,rfl,rfl,_,rfl,es[i].1,rfl,l1,l2,kq _ _ (Same.refl _) ?_⟩
   rw [ee]
  intro D2 vs2 H4 hl2 hr2 hs4 hD2 hDl2
  rw [Zeb (f:=en) (by omega) hr2] at hDl2
  refine ⟨D1,D2,_,_,rfl,rfl,hs4 _ _ hDl1,hDl2,Zg (by simp only [List.length_map]; omega),fun p hp=>?_⟩
  have s5:=Za (o:=.lst ((es.map fun e=>bg e.1).map V.str ++ (es.map fun e=>en e.1).map V.str)) hp
  refine ⟨p,(es.map fun e=>bg e.1) ++ (es.map fun e=>en e.1),rfl,SqL.of (by rw [Zc,List.map_append]),by simp only [List.length_append,List.length_map]; omega,fun p2 ks hp2 hnd hmem hkl=>?_⟩
  have hkl':ks.length≤2 * es.length:=by simp only [List.length_append,List.length_map] at hkl; omega
  refine ⟨p2,ks,rfl,Zc,by omega,fun q2 ss hq2 hpm hsrt=>?_⟩
  refine ⟨q2,_,rfl,.inl ⟨SqL.of Zc,fun l hl=>?_⟩⟩
  refine k (.ref l) _ ss (((((hs3.trans hs4).trans s5).trans (Za hp2)).trans (Za hq2)).trans (Za hl)) ⟨l,rfl,Zc⟩ (SPts.of (ks:=ks) ⟨hnd,fun x=>?_,hkl'⟩ hpm hsrt)
  rw [hmem,List.mem_append,List.mem_map,List.mem_map]
  constructor
  ·rintro (⟨e,he,z⟩ | ⟨e,he,z⟩)
   ·exact ⟨e,he,.inl z⟩
   ·exact ⟨e,he,.inr z⟩
  ·rintro ⟨e,he,z | z⟩
   ·exact .inl ⟨e,he,z⟩
   ·exact .inr ⟨e,he,z⟩
end
def rD (ks:List Str) (adr:Str→Addr):List (Key × V):=ks.map fun x=>((Sum.inr x:Key),V.ref (adr x))
theorem ZeM (ks:List Str) (adr:Str→Addr):(rD ks adr).length=ks.length:=by unfold rD; rw [List.length_map]
theorem XS (ks:List Str) (adr:Str→Addr) (y:Str):Y4 (rD ks adr) (Sum.inr y)=if y∈ks then some (.ref (adr y)) else none:=Y6 (fun x=>V.ref (adr x)) y ks
theorem ZhA {ks:List Str} {adr:Str→Addr} {y:Str} {p:Addr} (h:y∉ks):Xw (rD ks adr) (Sum.inr y) (.ref p)=rD (ks ++ [y]) fun x=>if x=y then p else adr x:=by
 rw [X6 _ (by rw [XS,if_neg h])]
 unfold rD
 rw [List.map_append,List.map_singleton]
 dsimp only
 rw [if_pos rfl]
 congr 1
 refine List.map_congr_left fun x hx=>?_
 rw [if_neg (fun e:x=y=>h (e ▸ hx))]
structure TJ (H H2:Hp) (d:Addr) (ks:List Str) (adr:Str→Addr) (r:Str→List Str):Prop where
 sm:Same H H2
 dn:H d=none
 dd:H2 d=some (.dK (rD ks adr))
 nd:ks.Nodup
 row:∀ P∈ks,H2 (adr P)=some (.lst ((r P).map V.str))
 fresh:∀ P∈ks,H (adr P)=none
 inj:∀ P∈ks,∀ P'∈ks,adr P=adr P'→P=P'
 out:∀ P,P∉ks→r P=[]
def ZcE (r:Str→List Str) (P y:Str):Str→List Str:=fun x=>if x=P then r P ++ [y] else r x
theorem Zdp {r:Str→List Str} {P y x z:Str}:z∈ZcE r P y x↔z∈r x∨(x=P∧z=y):=by
 unfold ZcE
 by_cases c:x=P
 ·subst c
  rw [if_pos rfl]
  simp
 ·rw [if_neg c]
  simp [c]
theorem ZaM {r:Str→List Str} {P y:Str} {n:Nat} (h:∀ x,(r x).length≤n) (x:Str):(ZcE r P y x).length≤n + 1:=by
 unfold ZcE
 split
 ·have:=h P
  simp
  omega
 ·have:=h x
  omega
theorem TJ.ne {H H2:Hp} {d:Addr} {ks:List Str} {adr:Str→Addr} {r:Str→List Str} (J:TJ H H2 d ks adr r) {P:Str} (hP:P∈ks):adr P≠d:=fun e=>by
 have:=J.row P hP
 rw [e,J.dd] at this
 cases this
theorem TJ.old {H H2:Hp} {d p:Addr} {ks:List Str} {adr:Str→Addr} {r:Str→List Str} (J:TJ H H2 d ks adr r) {P y:Str} (hP:P∈ks) (hp:H2 p=none) :
  TJ H (upd (upd H2 p (.lst [])) (adr P) (.lst ((r P).map V.str ++ [.str y]))) d (YT ks P) adr (ZcE r P y):=by
 have ek:YT ks P=ks:=by unfold YT; rw [if_pos hP]
 rw [ek]
 have s1:=Za (o:=.lst []) hp
 refine ⟨fun b u hb=>?_,J.dn,?_,J.nd,fun Q hQ=>?_,J.fresh,J.inj,fun Q hQ=>?_⟩
 ·rw [Zj fun e=>by rw [e,J.fresh P hP] at hb; cases hb]
  exact s1 _ _ (J.sm b u hb)
 ·rw [Zj (Ne.symm (J.ne hP))]
  exact s1 _ _ J.dd
 ·unfold ZcE
  by_cases c:Q=P
  ·subst c
   rw [Zc,if_pos rfl,List.map_append]
   rfl
  ·rw [if_neg c,Zj fun e=>c (J.inj Q hQ P hP e)]
   exact s1 _ _ (J.row Q hQ)
 ·unfold ZcE
  rw [if_neg (fun e:Q=P=>hQ (e ▸ hP))]
  exact J.out Q hQ
theorem TJ.new {H H2:Hp} {d p:Addr} {ks:List Str} {adr:Str→Addr} {r:Str→List Str} (J:TJ H H2 d ks adr r) {P y:Str} (hP:P∉ks) (hp:H2 p=none) :
  TJ H (upd (upd (upd H2 p (.lst [])) d (.dK (rD (ks ++ [P]) fun x=>if x=P then p else adr x))) p (.lst ([] ++ [.str y]))) d (YT ks P) (fun x=>if x=P then p else adr x) (ZcE r P y):=by
 have ek:YT ks P=ks ++ [P]:=by unfold YT; rw [if_neg hP]
 rw [ek]
 have hpd:d≠p:=fun e=>by rw [← e,J.dd] at hp; cases hp
 have hpa:∀ Q∈ks,adr Q≠p:=fun Q hQ e=>by have:=J.row Q hQ; rw [e,hp] at this; cases this
 have mm:∀ Q,Q∈ks ++ [P]→Q∈ks∨Q=P:=fun Q h=>by simpa using h
 refine ⟨fun b u hb=>?_,J.dn,?_,?_,fun Q hQ=>?_,fun Q hQ=>?_,fun Q hQ Q' hQ' e=>?_,fun Q hQ=>?_⟩
 ·have h2:=J.sm b u hb
  rw [Zj (Zl h2 hp),Zj (Zl hb J.dn),Zj (Zl h2 hp)]
  exact h2
 ·rw [Zj hpd,Zc]
 ·exact List.nodup_append.mpr ⟨J.nd,by simp,fun a ha b hb e=>by rw [List.mem_singleton.mp hb] at e; subst e; exact hP ha⟩
 ·unfold ZcE
  by_cases c:Q=P
  ·subst c
   rw [if_pos rfl,if_pos rfl,Zc,J.out Q hP]
   rfl
  ·rw [if_neg c,if_neg c]
   have hQ':Q∈ks:=(mm Q hQ).resolve_right c
   rw [Zj (hpa Q hQ'),Zj (J.ne hQ'),Zj (hpa Q hQ')]
   exact J.row Q hQ'
 ·skip
  by_cases c:Q=P
  ·rw [if_pos c]
   cases hh:H p with
   | none=>rfl
   | some u=>have:=J.sm p u hh; rw [hp] at this; cases this
  ·rw [if_neg c]
   exact J.fresh Q ((mm Q hQ).resolve_right c)
 ·skip
  by_cases c:Q=P
  ·by_cases c':Q'=P
   ·rw [c,c']
   ·rw [if_pos c,if_neg c'] at e
    exact absurd e.symm (hpa Q' ((mm Q' hQ').resolve_right c'))
  ·by_cases c':Q'=P
   ·rw [if_neg c,if_pos c'] at e
    exact absurd e (hpa Q ((mm Q hQ).resolve_right c))
   ·rw [if_neg c,if_neg c'] at e
    exact J.inj Q ((mm Q hQ).resolve_right c) Q' ((mm Q' hQ').resolve_right c') e
 ·have h1:Q∉ks:=fun z=>hQ (List.mem_append_left _ z)
  have h2:¬ Q=P:=fun z=>hQ (by simp [z])
  unfold ZcE
  rw [if_neg h2]
  exact J.out Q h1
def TiR (H:Hp) (q d:Addr) (es:Es) (i:Nat):L2.St→Hp→Prop:=fun σ H2=>(∃ z2 z3:Option V,σ=[some (.ref q),some (.ref d),z2,z3])∧∃ ks adr r,TJ H H2 d ks adr r∧Pts (es.take i) ks∧(∀ P y,y∈r P↔Adj (es.take i) P y)∧∀ P,(r P).length≤2 * i
section
variable {P:Program} {w:World} {K:PySem.W.Frag} {mg:Str→Option Value} {base:Heap}
abbrev Y8:Stmt:=top 17
abbrev Zci:List Str:=["H","tied","piece","many"]
theorem scTiedPoints:Zn Zci ["H"] (Zf Y8):=⟨rfl,rfl,rfl,by decide +kernel,rfl,by decide +kernel,by decide +kernel⟩
def Zhl:Sp:=fun vs H Q _=>∃ (v:V) (es:Es),vs=[v]∧HeapV H v es∧ZfW es∧∀ d H' ks adr r,TJ H H' d ks adr r→Pts es ks→(∀ P y,y∈r P↔Adj es P y)→(∀ P,(r P).length≤128)→Q (.ref d) H'
theorem JE (D:HasDef K mg "tied_points" Y8 ["H"]) (g11_:FOk P w K mg base 1 "begin_of" ["piece"] Zad) (g15_:FOk P w K mg base 1 "end_of" ["piece"] ZaX):FOk P w K mg base 2 "tied_points" ["H"] Zhl:=by
 refine D.ok scTiedPoints (fun vs H Q E h=>?_) (fun f cdv A outer s H vs Q E hr h=>?_)
 ·obtain ⟨v,es,rfl,_⟩:=h
  rfl
 ·obtain ⟨v,es,rfl,⟨q,vs,rfl,hq,hpa⟩,hF,k⟩:=h
  refine ⟨_,(Ze (Zm (i:=1) scTiedPoints.nd rfl (.inl rfl) X8)
   (Ze (Yh PassesOwn.never rfl (Yi (pv 0)) (Z3 2 K rfl (Zt (ZG (i:=2) scTiedPoints.nd rfl (.inl rfl)) (Zt (ZG (i:=3) scTiedPoints.nd rfl (.inl rfl)) Z2)))
    (Ze (ZS (Xl F.plainAttrs_list F.slot_list_append F.type_list_append ZL (Zb7 (pv 1) (Zx g11_ hr (Zb (pv 2) Zd)) (ZN Zd) ⟨rfl,rfl,rfl,rfl⟩) (Zb (Zx g15_ hr (Zb (pv 2) Zd)) Zd)))
   (Zh (ZS (Xl F.plainAttrs_list F.slot_list_append F.type_list_append ZL (Zb7 (pv 1) (Zx g15_ hr (Zb (pv 2) Zd)) (ZN Zd) ⟨rfl,rfl,rfl,rfl⟩) (Zb (Zx g11_ hr (Zb (pv 2) Zd)) Zd))))))
   (Zh (Zu (pv 1))))),?_⟩
  intro d hd
  have s1:=Za (o:=.dK []) hd
  refine ⟨_,rfl,q,rfl,⟨_,SqT.of (s1 _ _ hq)⟩,?_⟩
  refine XL (K:=K) (a:=q) (xs:=vs) (fun i σ H2=>(∃ z2 z3:Option V,σ=[some (.ref q),some (.ref d),z2,z3])∧∃ ks adr r,TJ H H2 d ks adr r∧Pts (es.take i) ks∧(∀ P y,y∈r P↔Adj (es.take i) P y)∧∀ P,(r P).length≤2 * i)
   ⟨⟨none,none,rfl⟩,[],fun _=>d,fun _=>[],⟨s1,hd,Zc,List.nodup_nil,(fun P h=>by cases h),(fun P h=>by cases h),(fun P h=>by cases h),fun _ _=>rfl⟩,Pts.nil,(fun P y=>by simp [Adj]),fun P=>Nat.le_refl _⟩ (fun i σ H2 _ ⟨_,_,_,_,J,_⟩=>SqT.of (J.sm _ _ hq)) ?_ ?_
  ·rintro i x σ H2 hi ⟨⟨z2,z3,rfl⟩,ks,adr,r,J,hk,hadj,hlen⟩
   have hiv:i < vs.length:=(List.getElem?_eq_some_iff.mp hi).1
   have hie:i < es.length:=by rw [← hpa.1]; exact hiv
   obtain ⟨b,e1,e2⟩:=hpa.2 i es[i] (List.getElem?_eq_getElem hie)
   rw [hi] at e1
   cases e1
   obtain ⟨l1,l2⟩:=hF.long es[i] (List.getElem_mem hie)
   have hkl:=hk.len
   have hfew:=hF.few
   rw [List.length_take] at hkl
   refine ⟨b,_,rfl,SqT.of (J.sm _ _ e2),rfl,_,_,rfl,_,_,rfl,rfl,?_⟩
   have het:es.take (i + 1)=es.take i ++ [es[i]]:=List.take_succ_eq_append_getElem hie
   generalize es[i]=e at *
   have one:∀ (H3:Hp) (ks3:List Str) (adr3:Str→Addr) (r3:Str→List Str) (P y:Str) (R:L2.St→Hp→Prop) (σ3:L2.St),TJ H H3 d ks3 adr3 r3→ks3.length≤500→(∀ x,(r3 x).length≤500)→(∀ H4 adr4,TJ H H4 d (YT ks3 P) adr4 (ZcE r3 P y)→R σ3 H4)→∀ p,H3 p=none →
     (∀ v,Y4 (rD ks3 adr3) (Sum.inr P:Key)=some v→∃ l xs,v = .ref l∧(upd H3 p (.lst [])) l=some (.lst xs)∧xs.length < sizeLine∧R σ3 (upd (upd H3 p (.lst [])) l (.lst (xs ++ [.str y])))) ∧
     (Y4 (rD ks3 adr3) (Sum.inr P:Key)=none→∃ xs,(upd (upd H3 p (.lst [])) d (.dK (Xw (rD ks3 adr3) (Sum.inr P) (.ref p)))) p=some (.lst xs)∧xs.length < sizeLine∧R σ3 (upd (upd (upd H3 p (.lst [])) d (.dK (Xw (rD ks3 adr3) (Sum.inr P) (.ref p)))) p (.lst (xs ++ [.str y])))):=by
    intro H3 ks3 adr3 r3 P y R σ3 J3 hks hr3 hR p hp
    constructor
    ·intro v hv
     rw [XS] at hv
     by_cases c:P∈ks3
     ·rw [if_pos c] at hv
      cases hv
      refine ⟨adr3 P,(r3 P).map V.str,rfl,Za hp _ _ (J3.row P c),?_,hR _ _ (J3.old c hp)⟩
      rw [List.length_map]
      have:=hr3 P
      exact ZC (by omega)
     ·rw [if_neg c] at hv
      cases hv
    ·intro hv
     rw [XS] at hv
     by_cases c:P∈ks3
     ·rw [if_pos c] at hv
      cases hv
     ·have hpd:p≠d:=fun e=>by rw [e,J3.dd] at hp; cases hp
      refine ⟨[],by rw [Zj hpd,Zc],ZC (by decide),?_⟩
      rw [ZhA c]
      exact hR _ _ (J3.new c hp)
   have hkz:ks.length≤500:=by omega
   have hrz:∀ x,(r x).length≤500:=fun x=>by have:=hlen x; omega
   show ZfY _ _ _ _ _
   refine Y7 (fun σ H'=>σ=[some (.ref q),some (.ref d),some (.str e.1),some (.int e.2)]∧∃ adr',TJ H H' d (YT ks (bg e.1)) adr' (ZcE r (bg e.1) (en e.1))) (fun R hR=>?_) ?_
   ·refine ⟨_,rfl,d,rfl,.inl ⟨_,.inl J.dd⟩,_,rfl,e.1,rfl,l1,l2,Zg (show 0≤1000 by decide),fun p hp=>?_⟩
    refine ⟨_,Sum.inr (bg e.1),Za hp _ _ J.dd,rfl,by rw [ZeM]; exact ZC (by omega),fun v hv=>?_,fun hv=>?_⟩
    ·obtain ⟨l,xs,rfl,hl,hz,hr'⟩:=(one H2 ks adr r (bg e.1) (en e.1) R [some (.ref q),some (.ref d),some (.str e.1),some (.int e.2)] J hkz hrz (fun H4 adr4 J4=>hR _ _ ⟨rfl,adr4,J4⟩) p hp).1 v hv
     exact ⟨.inl ⟨rfl,_,SqL.of hl⟩,_,rfl,e.1,rfl,l1,l2,l,xs,.str (en e.1),rfl,rfl,hl,hz,hr'⟩
    ·obtain ⟨xs,hl,hz,hr'⟩:=(one H2 ks adr r (bg e.1) (en e.1) R [some (.ref q),some (.ref d),some (.str e.1),some (.int e.2)] J hkz hrz (fun H4 adr4 J4=>hR _ _ ⟨rfl,adr4,J4⟩) p hp).2 hv
     exact ⟨.inl ⟨rfl,_,SqL.of hl⟩,_,rfl,e.1,rfl,l1,l2,p,xs,.str (en e.1),rfl,rfl,hl,hz,hr'⟩
   rintro σ H3 ⟨rfl,adr3,J3⟩
   have hal:=Xv ks (bg e.1)
   have hrz3:∀ x,(ZcE r (bg e.1) (en e.1) x).length≤500:=fun x=>by have:=ZaM (P:=bg e.1) (y:=en e.1) hlen x; omega
   have fin:∀ H4 adr4,TJ H H4 d (YT (YT ks (bg e.1)) (en e.1)) adr4 (ZcE (ZcE r (bg e.1) (en e.1)) (en e.1) (bg e.1))→TiR H q d es (i + 1) [some (.ref q),some (.ref d),some (.str e.1),some (.int e.2)] H4:=fun H4 adr4 J4=>by
    refine ⟨⟨_,_,rfl⟩,_,adr4,_,J4,by rw [het]; exact hk.step e,fun P y=>?_,fun P=>?_⟩
    ·rw [Zdp,Zdp,hadj,het,Zhe]
     constructor
     ·rintro ((z | ⟨z1,z2⟩) | ⟨z1,z2⟩)
      ·exact .inl z
      ·exact .inr (.inl ⟨z1.symm,z2.symm⟩)
      ·exact .inr (.inr ⟨z1.symm,z2.symm⟩)
     ·rintro (z | ⟨z1,z2⟩ | ⟨z1,z2⟩)
      ·exact .inl (.inl z)
      ·exact .inl (.inr ⟨z1.symm,z2.symm⟩)
      ·exact .inr ⟨z1.symm,z2.symm⟩
    ·have:=ZaM (P:=en e.1) (y:=bg e.1) (fun x=>ZaM (P:=bg e.1) (y:=en e.1) hlen x) P
     omega
   refine ⟨_,rfl,d,rfl,.inl ⟨_,.inl J3.dd⟩,_,rfl,e.1,rfl,l1,l2,Zg (show 0≤1000 by decide),fun p hp=>?_⟩
   refine ⟨_,Sum.inr (en e.1),Za hp _ _ J3.dd,rfl,by rw [ZeM]; exact ZC (by omega),fun v hv=>?_,fun hv=>?_⟩
   ·obtain ⟨l,xs,rfl,hl,hz,hr'⟩:=(one H3 _ adr3 _ (en e.1) (bg e.1) (TiR H q d es (i + 1)) [some (.ref q),some (.ref d),some (.str e.1),some (.int e.2)] J3 (by omega) hrz3 fin p hp).1 v hv
    exact ⟨.inl ⟨rfl,_,SqL.of hl⟩,_,rfl,e.1,rfl,l1,l2,l,xs,.str (bg e.1),rfl,rfl,hl,hz,hr'⟩
   ·obtain ⟨xs,hl,hz,hr'⟩:=(one H3 _ adr3 _ (en e.1) (bg e.1) (TiR H q d es (i + 1)) [some (.ref q),some (.ref d),some (.str e.1),some (.int e.2)] J3 (by omega) hrz3 fin p hp).2 hv
    exact ⟨.inl ⟨rfl,_,SqL.of hl⟩,_,rfl,e.1,rfl,l1,l2,p,xs,.str (bg e.1),rfl,rfl,hl,hz,hr'⟩
  ·rintro σ H2 ⟨⟨z2,z3,rfl⟩,ks,adr,r,J,hk,hadj,hlen⟩
   rw [hpa.1,List.take_length] at hk hadj
   have:=hF.few
   exact ⟨_,rfl,k d H2 ks adr r J hk hadj fun P=>by have:=hlen P; rw [hpa.1] at this; omega⟩
end
def bD (ks:List Str):List (Key × V):=ks.map fun x=>((Sum.inr x:Key),V.bl true)
theorem Zkh (ks:List Str):(bD ks).length=ks.length:=by unfold bD; rw [List.length_map]
theorem ZhR (ks:List Str) (y:Str):Y4 (bD ks) (Sum.inr y)=if y∈ks then some (.bl true) else none:=Y6 (fun _=>V.bl true) y ks
theorem Zkg (ks:List Str) (y:Str):Xw (bD ks) (Sum.inr y) (.bl true)=bD (YT ks y):=by
 unfold YT
 by_cases m:y∈ks
 ·rw [if_pos m]
  unfold bD
  rw [XD _ _ _ _ m]
  refine List.map_congr_left fun x _=>?_
  simp
 ·rw [if_neg m,X6 _ (by rw [ZhR,if_neg m])]
  unfold bD
  rw [List.map_append,List.map_singleton]
theorem ZgO {ss:List Str} (nd:ss.Nodup) (h:(ss.map fun x=>x.cps.toList).Pairwise (·≤·)):(ss.map fun x=>x.cps.toList).Pairwise (· < ·):=by
 rw [List.pairwise_map] at h ⊢
 have:=List.Pairwise.and nd h
 refine this.imp fun {a b} q=>?_
 refine Tim.lt_ne (fun z=>?_) (Ne.symm q.1)
 exact absurd z (List.not_lt.mpr q.2)
structure Wk (es:Es) (a:Str) (ks F W:List Str):Prop where
 nd:F.Nodup
 fst:a∈F
 rch:∀ x∈F,Rch es a x
 sub:∀ x∈W,x∈F
 inn:∀ x∈F,x∈ks
theorem Wk.le {es:Es} {a:Str} {ks F W:List Str} (h:Wk es a ks F W):F.length≤ks.length:=by
 have h1:=h.nd
 have h2:=h.inn
 clear h
 induction F generalizing ks with
 | nil=>exact Nat.zero_le _
 | cons x F ih =>
  have nd':=List.nodup_cons.mp h1
  have hx:=h2 x (List.mem_cons_self ..)
  have p:=List.perm_cons_erase hx
  have:=ih (ks:=ks.erase x) nd'.2 fun y hy=>(List.mem_erase_of_ne (fun (q:y=x)=>nd'.1 (q ▸ hy))).mpr (h2 y (List.mem_cons_of_mem _ hy))
  rw [List.length_erase_of_mem hx] at this
  have hpos:0 < ks.length:=List.length_pos_of_mem hx
  rw [List.length_cons]
  omega
section
variable {P:Program} {w:World} {K:PySem.W.Frag} {mg:Str→Option Value} {base:Heap}
abbrev ZbY:Stmt:=top 18
abbrev Ziq:List Str:=["H","tied","first","found","waiting","here","point"]
theorem scPartOf:Zn Ziq ["H"] (Zf ZbY):=⟨rfl,rfl,rfl,by decide +kernel,rfl,by decide +kernel,by decide +kernel⟩
def Zhn:Sp:=fun vs H Q _=>∃ (v:V) (e:Str × Int) (es:Es),vs=[v]∧HeapV H v (e :: es)∧ZfW (e :: es)∧∀ v' H' ss,Same H H'→TupS H' v' ss→(ss.map fun x=>x.cps.toList).Pairwise (· < ·)→ss.length≤128→(∀ x,x∈ss↔Rch (e :: es) (bg e.1) x)→Q v' H'
theorem ZdD (D:HasDef K mg "part_of" ZbY ["H"]) (B:Blt mg) (g11_:FOk P w K mg base 2 "begin_of" ["piece"] Zad) (g32_:FOk P w K mg base 2 "tied_points" ["H"] Zhl):FOk P w K mg base 3 "part_of" ["H"] Zhn:=by
 refine D.ok scPartOf (fun vs H Q E h=>?_) (fun f cdv A outer s H vs Q E hr h=>?_)
 ·obtain ⟨v,e,es,rfl,_⟩:=h
  rfl
 ·obtain ⟨v,e,es0,rfl,hV,hF,k⟩:=h
  have hu:=Zct hr
  obtain ⟨q,vs,rfl,hq,hpa⟩:=id hV
  refine ⟨_,(Ze (Zm (i:=1) scPartOf.nd rfl (.inl rfl) (Zx g32_ hr (Zb (pv 0) Zd)))
   (Ze (Zm (i:=2) scPartOf.nd rfl (.inl rfl) (Zx g11_ hr (Zb (ZP ix_tup (ZP ix_tup (pv 0) Zi (fun _ _=>rfl)) Zi (fun _ _=>rfl)) Zd)))
   (Ze (Zm (i:=3) scPartOf.nd rfl (.inl rfl) (Zih (Zgu (pv 2) Za5 Zif) rfl rfl (List.cons_ne_nil _ _) (by decide)))
   (Ze (Zm (i:=4) scPartOf.nd rfl (.inl rfl) (ZN (Zb (pv 2) Zd)))
   (Ze (X7 PassesOwn.never (ZA Za9 (Zk Zq rfl B.len ZW (Zb (pv 4) Zd)) Zi (ZJ _))
    (Ze (Zm (i:=5) scPartOf.nd rfl (.inl rfl) (Jj F.plainAttrs_list F.slot_list_pop F.type_list_pop Xd (pv 4)))
   (Zh (Yh PassesOwn.never rfl (Ji (XG hu (pv 1) (pv 5) (fun _ _=>rfl))) (ZG (i:=6) scPartOf.nd rfl (.inl rfl))
    (Zh (Yn (ZeQ (Jk hu (pv 6) (pv 3))) (Ze (XE hu (pv 3) (pv 6) Za5 rfl)
   (Zh (ZS (Xl F.plainAttrs_list F.slot_list_append F.type_list_append ZL (pv 4) (Zb (pv 6) Zd))))) ZK))))))
   (Zh (Zu (Zv ZB rfl B.tuple Yl (Zb (Zk (JI rfl) rfl B.sorted Yd (Zb (pv 3) Zd)) Zd))))))))),?_⟩
  obtain ⟨b0,eb0,hb0⟩:=hpa.2 0 e rfl
  obtain ⟨l1,l2⟩:=hF.long e (List.mem_cons_self ..)
  refine ⟨_,rfl,.ref q,e :: es0,rfl,hV,hF,fun d H1 ks adr r J hk hadj hlen=>?_⟩
  have hf1:=hk.len
  have hf2:=hF.few
  have haK:bg e.1∈ks:=(hk.mem _).mpr ⟨e,List.mem_cons_self ..,.inl rfl⟩
  generalize hes:e :: es0=es at *
  refine ⟨_,rfl,q,vs,0,.ref b0,rfl,rfl,SqT.of (J.sm _ _ hq),ZaD (by decide) eb0,b0,_,0,.str e.1,rfl,rfl,SqT.of (J.sm _ _ hb0),rfl,e.1,rfl,l1,l2,fun fd hfd=>?_⟩
  refine ⟨_,rfl,Zc,[((Sum.inr (bg e.1):Key),V.bl true)],rfl,by simp,?_⟩
  rw [ZbI]
  have s2:Same H1 (upd H1 fd (.dK (XU [] [((Sum.inr (bg e.1):Key),V.bl true)]))):=Za hfd
  have hfd2:(upd H1 fd (.dK (XU [] [((Sum.inr (bg e.1):Key),V.bl true)]))) fd=some (.dK (bD [bg e.1])):=Zc
  generalize upd H1 fd (.dK (XU [] [((Sum.inr (bg e.1):Key),V.bl true)]))=H2 at s2 hfd2
  refine ⟨_,rfl,Zg (show 1≤1000 by decide),fun wl hwl=>?_⟩
  have hwl1:H1 wl=none:=s2.free hwl
  have hne:wl≠fd:=fun z=>by rw [z,hfd2] at hwl; cases hwl
  have s3:=s2.trans (Za (o:=.lst [.str (bg e.1)]) hwl)
  have hfd3:=Za (o:=.lst [.str (bg e.1)]) hwl _ _ hfd2
  have hwl3:(upd H2 wl (.lst [.str (bg e.1)])) wl=some (.lst ([bg e.1].map V.str)):=Zc
  generalize upd H2 wl (.lst [.str (bg e.1)])=H3 at s3 hfd3 hwl3
  have shift:∀ {H4:Hp} (F W:List Str),Same H1 H4→Same H1 (upd (upd H4 fd (.dK (bD F))) wl (.lst (W.map V.str))):=fun F W s b u hb=>by
   rw [Zj (Zl hb hwl1),Zj (Zl hb hfd)]
   exact s b u hb
  have shW:∀ {H4:Hp} (o:HO),Same H1 H4→Same H1 (upd H4 wl o):=fun o s b u hb=>by
   rw [Zj (Zl hb hwl1)]
   exact s b u hb
  have shF:∀ {H4:Hp} (o:HO),Same H1 H4→Same H1 (upd H4 fd o):=fun o s b u hb=>by
   rw [Zj (Zl hb hfd)]
   exact s b u hb
  try dsimp only [XY]
  show ZfY (ZaT _ _) _ _ _ _
  refine Y7 (fun σ H4=>∃ (F:List Str) (z5 z6:Option V),σ=[some (.ref q),some (.ref d),some (.str (bg e.1)),some (.ref fd),some (.ref wl),z5,z6]∧Same H1 H4∧H4 fd=some (.dK (bD F))∧Wk es (bg e.1) ks F []∧∀ x∈F,∀ y,Adj es x y→y∈F) (fun R hR=>?_) ?_
  ·refine ⟨fun m σ H4=>∃ (F W:List Str) (z5 z6:Option V),σ=[some (.ref q),some (.ref d),some (.str (bg e.1)),some (.ref fd),some (.ref wl),z5,z6]∧Same H1 H4∧H4 fd=some (.dK (bD F))∧H4 wl=some (.lst (W.map V.str))∧Wk es (bg e.1) ks F W∧(∀ x∈F,x∉W→∀ y,Adj es x y→y∈F)∧m=2 * (ks.length - F.length) + W.length∧m≤2 * ks.length,
    ⟨_,[bg e.1],[bg e.1],none,none,rfl,s3,hfd3,hwl3,⟨by simp,by simp,(fun x hx=>by rw [List.mem_singleton.mp hx]; exact .here),fun x hx=>hx,fun x hx=>by rw [List.mem_singleton.mp hx]; exact haK⟩,(fun x hx hw=>absurd hx hw),rfl,by have:=List.length_pos_of_mem haK; simp only [List.length_singleton]; omega⟩,?_⟩
   rintro m σ H4 ⟨F,W,z5,z6,rfl,s4,hfd4,hwl4,hW,hcl,hm,hw5⟩
   refine ⟨_,rfl,.ref wl,_,rfl,.inl ⟨_,SqL.of hwl4,rfl⟩,_,_,rfl,rfl,_,rfl,?_⟩
   rcases List.eq_nil_or_concat W with rfl | ⟨r0,here,rfl⟩
   ·exact Xx (by decide) (hR _ _ ⟨F,z5,z6,rfl,s4,hfd4,hW,fun x hx=>hcl x hx (fun z=>by cases z)⟩)
   rw [List.concat_eq_append] at *
   refine X9 (decide_eq_true (by rw [List.map_append,List.length_append,List.map_singleton,List.length_singleton]; omega)) ?_
   have hhF:here∈F:=hW.sub here (by simp)
   have hhK:=hW.inn here hhF
   rw [List.length_append,List.length_singleton] at hm
   refine ⟨fun σ' H'=>∃ m',m' < m∧∃ (F W:List Str) (z5 z6:Option V),σ'=[some (.ref q),some (.ref d),some (.str (bg e.1)),some (.ref fd),some (.ref wl),z5,z6]∧Same H1 H'∧H' fd=some (.dK (bD F))∧H' wl=some (.lst (W.map V.str))∧Wk es (bg e.1) ks F W∧(∀ x∈F,x∉W→∀ y,Adj es x y→y∈F)∧m'=2 * (ks.length - F.length) + W.length∧m'≤2 * ks.length,fun _ _ z=>z,?_⟩
   refine ⟨_,rfl,.inl ⟨rfl,_,SqL.of hwl4⟩,wl,_,V.str here,rfl,rfl,hwl4,by rw [List.map_append,List.map_singleton]; simp,?_⟩
   rw [show ((r0 ++ [here]).map V.str).dropLast=r0.map V.str by rw [List.map_append,List.map_singleton,List.dropLast_concat]]
   have s5:Same H1 (upd H4 wl (.lst (r0.map V.str))):=shW _ s4
   have hwl5:(upd H4 wl (.lst (r0.map V.str))) wl=some (.lst (r0.map V.str)):=Zc
   have hfd5:(upd H4 wl (.lst (r0.map V.str))) fd=some (.dK (bD F)):=by rw [Zj (Ne.symm hne)]; exact hfd4
   generalize upd H4 wl (.lst (r0.map V.str))=H5 at s5 hwl5 hfd5
   refine ⟨_,rfl,_,rfl,d,.ref (adr here),rfl,.inl ⟨_,Sum.inr here,.inl (s5 _ _ J.dd),rfl,by rw [XS,if_pos hhK]⟩,adr here,rfl,⟨_,SqL.of (s5 _ _ (J.row here hhK))⟩,?_⟩
   refine ZaE (K:=K) (a:=adr here) (xs:=(r here).map V.str) (fun j σ' H'=>∃ (F W:List Str) (z6:Option V),σ'=[some (.ref q),some (.ref d),some (.str (bg e.1)),some (.ref fd),some (.ref wl),some (.str here),z6]∧Same H1 H'∧H' fd=some (.dK (bD F))∧H' wl=some (.lst (W.map V.str))∧Wk es (bg e.1) ks F W∧(∀ x∈F,x∉W→x≠here→∀ y,Adj es x y→y∈F)∧(∀ y∈(r here).take j,y∈F)∧2 * (ks.length - F.length) + W.length + 1≤m)
    ⟨F,r0,z6,rfl,s5,hfd5,hwl5,⟨hW.nd,hW.fst,hW.rch,fun x hx=>hW.sub x (List.mem_append_left _ hx),hW.inn⟩,fun x hx h1 h2=>hcl x hx (fun z=>by rcases List.mem_append.mp z with z | z; exact h1 z; exact h2 (List.mem_singleton.mp z)),(fun y hy=>by rw [List.take_zero] at hy; cases hy),by omega⟩
    (fun i σ' H' _ ⟨_,_,_,_,s6,_⟩=>SqL.of (s6 _ _ (J.row here hhK))) ?_ ?_
   ·rintro j x σ' H6 hj ⟨F6,W6,z6',rfl,s6,hfd6,hwl6,hW6,hcl6,hin6,hm6⟩
    rw [List.getElem?_map] at hj
    obtain ⟨y,hy,rfl⟩:=Option.map_eq_some_iff.mp hj
    have hya:Adj es here y:=(hadj here y).mp (List.mem_of_getElem? hy)
    have hyK:y∈ks:=by
     obtain ⟨e',he',q'⟩:=hya
     rcases q' with ⟨_,q'⟩ | ⟨_,q'⟩
     ·exact (hk.mem y).mpr ⟨e',he',.inr q'⟩
     ·exact (hk.mem y).mpr ⟨e',he',.inl q'⟩
    have htk:(r here).take (j + 1)=(r here).take j ++ [y]:=by
     rw [List.take_add_one,hy]
     rfl
    have hle6:=hW6.le
    refine ⟨_,rfl,_,rfl,fd,Y4 (bD F6) (Sum.inr y),rfl,.inl ⟨_,Sum.inr y,.inl hfd6,rfl,rfl⟩,?_⟩
    rw [ZhR]
    by_cases c:y∈F6
    ·rw [if_pos c]
     refine ⟨_,rfl,Xx rfl ⟨F6,W6,_,rfl,s6,hfd6,hwl6,hW6,hcl6,fun y' hy'=>?_,hm6⟩⟩
     rw [htk] at hy'
     rcases List.mem_append.mp hy' with z | z
     ·exact hin6 y' z
     ·rw [List.mem_singleton.mp z]
      exact c
    ·rw [if_neg c]
     have hW7:Wk es (bg e.1) ks (F6 ++ [y]) (W6 ++ [y]):=⟨List.nodup_append.mpr ⟨hW6.nd,by simp,fun a ha b hb e=>by rw [List.mem_singleton.mp hb] at e; subst e; exact c ha⟩,List.mem_append_left _ hW6.fst,(fun x hx=>by
       rcases List.mem_append.mp hx with z | z
       ·exact hW6.rch x z
       ·rw [List.mem_singleton.mp z]; exact .step (hW.rch here hhF) hya),(fun x hx=>by
       rcases List.mem_append.mp hx with z | z
       ·exact List.mem_append_left _ (hW6.sub x z)
       ·rw [List.mem_singleton.mp z]; simp),fun x hx=>by
       rcases List.mem_append.mp hx with z | z
       ·exact hW6.inn x z
       ·rw [List.mem_singleton.mp z]; exact hyK⟩
     have hlt:F6.length + 1≤ks.length:=by
      have:=hW7.le
      rw [List.length_append,List.length_singleton] at this
      exact this
     refine ⟨_,rfl,X9 rfl ⟨_,rfl,_,rfl,fd,_,rfl,DPut.k (k:=Sum.inr y) hfd6 (by rw [Zkh]; exact ZC (by omega)),?_⟩⟩
     rw [Zkg,show YT F6 y=F6 ++ [y] by unfold YT; rw [if_neg c]]
     have s7:Same H1 (upd H6 fd (.dK (bD (F6 ++ [y])))):=shF _ s6
     have hfd7:(upd H6 fd (.dK (bD (F6 ++ [y])))) fd=some (.dK (bD (F6 ++ [y]))):=Zc
     have hwl7:(upd H6 fd (.dK (bD (F6 ++ [y])))) wl=some (.lst (W6.map V.str)):=by rw [Zj hne]; exact hwl6
     generalize upd H6 fd (.dK (bD (F6 ++ [y])))=H7 at s7 hfd7 hwl7
     refine ⟨_,rfl,.inl ⟨rfl,_,SqL.of hwl7⟩,_,rfl,wl,_,.str y,rfl,rfl,hwl7,by rw [List.length_map]; exact ZC (by omega),?_⟩
     refine ⟨F6 ++ [y],W6 ++ [y],_,rfl,shW _ s7,by rw [Zj (Ne.symm hne)]; exact hfd7,by rw [Zc,List.map_append,List.map_singleton],hW7,fun x hx hxw hxh y' hy'=>?_,fun y' hy'=>?_,by rw [List.length_append,List.length_append,List.length_singleton]; omega⟩
     ·rcases List.mem_append.mp hx with z | z
      ·exact List.mem_append_left _ (hcl6 x z (fun q=>hxw (List.mem_append_left _ q)) hxh y' hy')
      ·exact absurd (List.mem_append_right _ z) hxw
     ·rw [htk] at hy'
      rcases List.mem_append.mp hy' with z | z
      ·exact List.mem_append_left _ (hin6 y' z)
      ·exact List.mem_append_right _ z
   ·rintro σ' H6 ⟨F6,W6,z6',rfl,s6,hfd6,hwl6,hW6,hcl6,hin6,hm6⟩
    rw [List.length_map,List.take_length] at hin6
    refine ⟨_,?_,F6,W6,_,_,rfl,s6,hfd6,hwl6,hW6,fun x hx hxw y hxy=>?_,rfl,?_⟩
    ·omega
    ·by_cases c:x=here
     ·subst c
      exact hin6 y ((hadj x y).mpr hxy)
     ·exact hcl6 x hx hxw c y hxy
    ·omega
  ·rintro σ H4 ⟨F,z5,z6,rfl,s4,hfd4,hW,hcl⟩
   have hle:=hW.le
   refine ⟨_,rfl,fd,F,fun _=>.bl true,rfl,hfd4,hW.nd,by omega,fun p ss hp hpm hsrt=>?_⟩
   refine ⟨p,_,rfl,.inl ⟨SqL.of Zc,fun l hl=>?_⟩⟩
   refine k (.ref l) _ ss (((J.sm.trans s4).trans (Za hp)).trans (Za hl)) ⟨l,rfl,Zc⟩ (ZgO (hpm.nodup_iff.mpr hW.nd) hsrt) (by rw [hpm.length_eq]; omega) fun x=>?_
   rw [hpm.mem_iff]
   exact ⟨hW.rch x,fun z=>Rch.closed hW.fst hcl z⟩
end
theorem Zio {F:List Str}:∀ {ks:List Str},F.Nodup→(∀ x∈F,x∈ks)→F.length≤ks.length:=by
 induction F with
 | nil=>exact fun _ _=>Nat.zero_le _
 | cons x F ih =>
  intro ks h1 h2
  have nd':=List.nodup_cons.mp h1
  have hx:=h2 x (List.mem_cons_self ..)
  have:=ih (ks:=ks.erase x) nd'.2 fun y hy=>(List.mem_erase_of_ne (fun (q:y=x)=>nd'.1 (q ▸ hy))).mpr (h2 y (List.mem_cons_of_mem _ hy))
  rw [List.length_erase_of_mem hx] at this
  have hpos:0 < ks.length:=List.length_pos_of_mem hx
  rw [List.length_cons]
  omega
theorem ZjI {F ks:List Str} (h1:F.Nodup) (h2:∀ x∈F,x∈ks) (he:F.length=ks.length):∀ x∈ks,x∈F:=by
 intro x hx
 apply Classical.byContradiction
 intro hn
 have:=Zio (ks:=ks.erase x) h1 fun y hy=>(List.mem_erase_of_ne (fun (q:y=x)=>hn (q ▸ hy))).mpr (h2 y hy)
 rw [List.length_erase_of_mem hx] at this
 have hpos:0 < ks.length:=List.length_pos_of_mem hx
 omega
theorem ZgG {ss:List Str} (h:(ss.map fun x=>x.cps.toList).Pairwise (· < ·)):ss.Nodup:=by
 rw [List.pairwise_map] at h
 refine h.imp fun {a b} q e=>?_
 subst e
 exact List.lt_irrefl _ q
theorem Rch.pt {e:Str × Int} {es:Es} {x:Str} (h:Rch (e :: es) (bg e.1) x):∃ e'∈e :: es,bg e'.1=x∨en e'.1=x:=by
 cases h with
 | here=>exact ⟨e,by simp,.inl rfl⟩
 | step _ k =>
  obtain ⟨e',he,⟨_,q⟩ | ⟨_,q⟩⟩:=k
  ·exact ⟨e',he,.inr q⟩
  ·exact ⟨e',he,.inl q⟩
theorem Zg0 {e:Str × Int} {es:Es} {ss pp:List Str} (n1:ss.Nodup) (h1:∀ x,x∈ss↔Rch (e :: es) (bg e.1) x) (n2:pp.Nodup) (h2:∀ x,x∈pp↔∃ e'∈e :: es,bg e'.1=x∨en e'.1=x) :
  ss.length=pp.length↔∀ e'∈e :: es,Rch (e :: es) (bg e.1) (bg e'.1):=by
 have sub:∀ x∈ss,x∈pp:=fun x hx=>(h2 x).mpr ((h1 x).mp hx).pt
 constructor
 ·intro he e' he'
  exact (h1 _).mp (ZjI n1 sub he _ ((h2 _).mpr ⟨e',he',.inl rfl⟩))
 ·intro h
  have:∀ x∈pp,x∈ss:=fun x hx=>by
   obtain ⟨e',he',q | q⟩:=(h2 x).mp hx
   ·rw [← q]
    exact (h1 _).mpr (h e' he')
   ·exact (h1 _).mpr (.step (h e' he') ⟨e',he',.inl ⟨rfl,q⟩⟩)
  have a:=Zio n1 sub
  have b:=Zio n2 this
  omega
section
variable {P:Program} {w:World} {K:PySem.W.Frag} {mg:Str→Option Value} {base:Heap}
abbrev ZeG:Stmt:=top 19
abbrev ZjP:List Str:=["H"]
theorem Zh9:Zn ZjP ["H"] (Zf ZeG):=⟨rfl,rfl,rfl,by decide +kernel,rfl,by decide +kernel,by decide +kernel⟩
def Zen:Sp:=fun vs H Q _=>∃ (v:V) (e:Str × Int) (es:Es),vs=[v]∧HeapV H v (e :: es)∧ZfW (e :: es)∧∀ H' (b:Bool),Same H H'→(b=true↔∀ e'∈e :: es,Rch (e :: es) (bg e.1) (bg e'.1))→Q (.bl b) H'
theorem ZgD (D:HasDef K mg "hangs" ZeG ["H"]) (B:Blt mg) (g25_:FOk P w K mg base 3 "part_of" ["H"] Zhn) (g26_:FOk P w K mg base 3 "points_of" ["H"] ZcP):FOk P w K mg base 4 "hangs" ["H"] Zen:=by
 refine D.ok Zh9 (fun vs H Q E h=>?_) (fun f cdv A outer s H vs Q E hr h=>?_)
 ·obtain ⟨v,e,es,rfl,_⟩:=h
  rfl
 ·obtain ⟨v,e,es,rfl,hV,hF,k⟩:=h
  refine ⟨_,(Zh (Zu (ZeW Zap (Zk Zq rfl B.len ZW (Zb (Zx g25_ hr (Zb (pv 0) Zd)) Zd)) (Zk Zq rfl B.len ZW (Zb (Zx g26_ hr (Zb (pv 0) Zd)) Zd)) (ZJ _)))),?_⟩
  refine ⟨_,rfl,v,e,es,rfl,hV,hF,fun v1 H1 ss s1 ht1 hs1 hl1 hm1=>?_⟩
  obtain ⟨q1,rfl,hq1⟩:=id ht1
  refine ⟨.ref q1,ss.length,rfl,.inr ⟨_,SqT.of hq1,by rw [List.length_map]⟩,_,rfl,v,e :: es,rfl,hV.same s1,hF,fun v2 H2 pp s2 ht2 hp2=>?_⟩
  obtain ⟨q2,rfl,hq2⟩:=id ht2
  refine ⟨.ref q2,pp.length,rfl,.inr ⟨_,SqT.of hq2,by rw [List.length_map]⟩,?_⟩
  refine ⟨rfl,k _ _ (s1.trans s2) ?_⟩
  rw [Zcw,← Zg0 (ZgG hs1) hm1 hp2.pts.nd hp2.pts.mem,beq_iff_eq]
  exact ⟨fun z=>by omega,fun z=>by rw [z]⟩
end
theorem ZlR {es:Es} {p:Str × Int→Bool}:es.filter p=((List.range es.length).filter fun i=>p (es.getD i ("",0))).map fun i=>es.getD i ("",0):=by
 have e:es=(List.range es.length).map fun i=>es.getD i ("",0):=by
  apply List.ext_getElem?
  intro i
  rw [List.getElem?_map]
  by_cases hi:i < es.length
  ·rw [List.getElem?_range hi,Option.map_some,List.getD_eq_getElem?_getD,List.getElem?_eq_getElem hi]
   rfl
  ·rw [List.getElem?_eq_none (by omega),List.getElem?_eq_none (by simp; omega)]
   rfl
 conv=>lhs; rw [e]
 rw [List.filter_map]
 rfl
theorem dec_str {x y:Str}:decide (V.str x=V.str y)=decide (x=y):=by
 rw [Bool.eq_iff_iff]
 simp
section
variable {P:Program} {w:World} {K:PySem.W.Frag} {mg:Str→Option Value} {base:Heap}
end
end Sh
namespace Sh
end Sh
namespace L2
open PySem PySem.Spec PyProof.Rows
end L2
namespace Sh
open PySem L2 PyProof.Rows
seal L2.PE L2.PS L2.PSs L2.PT L2.PW L2.PA L2.PI L2.PG L2.PGs L2.PO L2.PC L2.PCs L2.OpR L2.UnR L2.CallR L2.MtR L2.IxR L2.SlR
section
variable {P:Program} {w:World} {K:PySem.W.Frag} {mg:Str→Option Value} {base:Heap}
end
end Sh
namespace L2
open PySem PySem.Spec PyProof.Rows
end L2
namespace Sh
open PySem L2 PyProof.Rows
seal L2.PE L2.PS L2.PSs L2.PT L2.PW L2.PA L2.PI L2.PG L2.PGs L2.PO L2.PC L2.PCs L2.OpR L2.UnR L2.CallR L2.MtR L2.IxR L2.SlR
theorem Zg6 (n:Nat) (x:V):(List.replicate n [x]).flatten=List.replicate n x:=by
 induction n with
 | zero=>rfl
 | succ n ih=>rw [List.replicate_succ,List.flatten_cons,ih,List.replicate_succ]; rfl
section
variable {P:Program} {w:World} {K:PySem.W.Frag} {mg:Str→Option Value} {base:Heap}
end
section
variable {P:Program} {w:World} {K:PySem.W.Frag} {mg:Str→Option Value} {base:Heap} {S C A1 A2 A3 A4 A5 A6 A7 A8:Addr}
end
section
variable {P:Program} {w:World} {K:PySem.W.Frag} {mg:Str→Option Value} {base:Heap}
end
def SB (D:Addr) (H H':Hp):Prop:=∀ b u,b≠D→H b=some u→H' b=some u
theorem SB.refl (D:Addr) (H:Hp):SB D H H:=fun _ _ _ e=>e
theorem SB.trans {D:Addr} {H H1 H2:Hp} (a:SB D H H1) (b:SB D H1 H2):SB D H H2:=fun c u hc e=>b c u hc (a c u hc e)
theorem SB.upd {D:Addr} {H:Hp} {o:HO}:SB D H (upd H D o):=fun b u hb e=>by rw [Zj hb]; exact e
def DK (H:Hp) (D:Addr) (n:Nat):Prop:=∃ ns:List Int,H D=some (.lst (ns.map V.int))∧n≤ns.length∧∀ x∈ns,0≤x∧x < 10 ^ 18
theorem DK.same {H H':Hp} {D:Addr} {n:Nat} (h:DK H D n) (s:Same H H'):DK H' D n:=by
 obtain ⟨ns,e,r⟩:=h
 exact ⟨ns,s _ _ e,r⟩
theorem DK.pop {H:Hp} {D:Addr} {n:Nat} (h:DK H D (n + 1)):∃ (ns:List Int) (c:Int),H D=some (.lst ((ns ++ [c]).map V.int))∧0≤c∧c < 10 ^ 18∧DK (upd H D (.lst (ns.map V.int))) D n:=by
 obtain ⟨ns,e,l,b⟩:=h
 rcases List.eq_nil_or_concat ns with z | ⟨r,c,z⟩
 ·rw [z] at l
  simp at l
 ·rw [List.concat_eq_append] at z
  subst z
  have hc:=b c (by simp)
  rw [List.length_append,List.length_singleton] at l
  exact ⟨r,c,e,hc.1,hc.2,r,Zc,by omega,fun x hx=>b x (List.mem_append_left _ hx)⟩
theorem ZaA (ns:List Int) (c:Int):((ns ++ [c]).map V.int)[((ns ++ [c]).map V.int).length - 1]?=some (V.int c):=by
 rw [List.map_append,List.map_singleton]
 simp
theorem ZaH (ns:List Int) (c:Int):((ns ++ [c]).map V.int).dropLast=ns.map V.int:=by
 rw [List.map_append,List.map_singleton,List.dropLast_concat]
theorem XB {z:List Nat} {i:Int} (h0:0≤i) (h1:i≤z.length):Txt.slice (tx z) (some i) none=tx (z.drop i.toNat):=by
 apply ZR
 rw [YE h0 (by rw [Zs]; exact h1),Zr,Zr]
section
variable {P:Program} {w:World} {K:PySem.W.Frag} {mg:Str→Option Value} {base:Heap}
def Zho:Sp:=fun vs H Q _=>∃ (D:Addr) (few n:Nat),vs=[.ref D,.int few]∧2≤few∧few≤26∧DK H D (n + 1)∧∀ (z:List Nat) H',SB D H H'→DK H' D n→z.length=few→Cd z→Q (.str (tx z)) H'
theorem Zkj:("abcdefghijklmnopqrstuvwxyz" : Str)=tx ((List.range 26).map (· + 97)):=by decide +kernel
end
theorem ZZ {ps:List Str} {hp:List Pr} (h:Zz ps hp):hp.length≤ps.length:=by
 have nd:(hp.map (·.1)).Nodup:=by
  rw [List.nodup_iff_pairwise_ne,List.pairwise_map]
  refine List.Pairwise.imp ?_ (List.pairwise_map.mp h.srt)
  intro x y hxy e
  rw [e] at hxy
  exact List.lt_irrefl _ hxy
 have:=Y1 nd fun x hx=>(h.mem x).mp hx
 rw [List.length_map] at this
 exact this
end Sh
namespace Sh
open PySem L2 PyProof.Rows
def fc:Nat→Nat
 | 0=>1
 | n + 1=>(n + 1) * fc n
def fI (x:Int):Int:=(fc x.toNat:Int)
end Sh
namespace Sh
open PySem L2 PyProof.Rows
seal L2.PE L2.PS L2.PSs L2.PT L2.PW L2.PA L2.PI L2.PG L2.PGs L2.PO L2.PC L2.PCs L2.OpR L2.UnR L2.CallR L2.MtR L2.IxR L2.SlR
theorem ZjV {K:PySem.W.Frag} {mp:List Nat} {σ:L2.St} {H1:Hp} {Q:VK} {q:Addr} {vs:List V} {es:Es} (hS:lcS 2 mp σ=[none,none]) (hq:H1 q=some (.tup vs)) (hpa:PA H1 vs es) (hl:es.length≤1000)
  (done:∀ D H',Same H1 H'→H' D=some (.lst ((es.map fun e=>e.2).map V.int))→Q (.ref D) H'):Jr 2 mp σ (Zk5 K 2 (ZiK (XY 0) (ZiK (XY 1) Zlr))) Zkm (Zks 1) (Itt K q) H1 Q:=by
 refine Jq vs.length (fun i=>vs.getD i .non) (fun i v _=>v = .int (es.getD i ("",0)).2) (Zg (by rw [hpa.1]; exact hl)) (fun _ _ _ _ _ r=>r) (Xq (SqT.of hq)) ?_ ?_
 ·intro i H Qe hi hs kq
  have hie:i < es.length:=by rw [← hpa.1]; exact hi
  obtain ⟨b,e1,e2⟩:=hpa.2 i es[i] (List.getElem?_eq_getElem hie)
  have ev:vs.getD i .non = .ref b:=by rw [List.getD_eq_getElem?_getD,e1]; rfl
  have ee:es.getD i ("",0)=es[i]:=by rw [List.getD_eq_getElem?_getD,List.getElem?_eq_getElem hie]; rfl
  rw [ev,hS]
  refine ⟨b,_,rfl,SqT.of (hs _ _ e2),rfl,_,_,rfl,_,_,rfl,rfl,_,rfl,kq _ _ (Same.refl _) ?_⟩
  rw [ee]
 ·intro D us H' hul hR hs hD hDl
  refine done D H' hs ?_
  rw [hDl]
  congr 2
  apply List.ext_getElem?
  intro i
  by_cases hi:i < us.length
  ·have hie:i < es.length:=by rw [← hpa.1,← hul]; exact hi
   rw [List.getElem?_eq_getElem hi,hR i _ (List.getElem?_eq_getElem hi),List.getElem?_map,List.getElem?_map,List.getElem?_eq_getElem hie,List.getD_eq_getElem?_getD,List.getElem?_eq_getElem hie]
   rfl
  ·rw [List.getElem?_eq_none (by omega),List.getElem?_eq_none (by rw [List.length_map,List.length_map]; have:=hpa.1; omega)]
theorem Zd8:∀ {l:List Int} {b:Nat},(∀ x∈l,0≤x∧x≤b)→0≤l.sum∧l.sum≤b * l.length
 | [],b,_=>by simp
 | x :: l,b,h=>by
  have ih:=Zd8 (l:=l) (b:=b) fun y hy=>h y (List.mem_cons_of_mem _ hy)
  have hx:=h x (List.mem_cons_self ..)
  rw [List.sum_cons,List.length_cons]
  push_cast
  rw [Int.mul_add,Int.mul_one]
  omega
theorem Ziy {l:List Int} (h:∀ x∈l,0≤x∧x≤(64000:Nat)) (hl:l.length≤128):(∀ x∈l,InLong x)∧∀ k,InLong (l.take k).sum:=by
 constructor
 ·intro x hx
  have:=h x hx
  unfold InLong
  omega
 ·intro k
  have h1:=Zd8 (l:=l.take k) (b:=64000) fun x hx=>h x (List.mem_of_mem_take hx)
  have h2:(l.take k).length≤128:=by rw [List.length_take]; omega
  unfold InLong
  omega
theorem ZhV (f:Str→Int) (ss:List Str):(ups f ss).length≤ss.length:=by
 unfold ups
 rw [List.length_map]
 exact List.length_filter_le _ _
theorem Zf5 {es:Es} (hF:ZfW es) {f:Str→Int} (hf:∀ x,(f x).natAbs=(mo es x).natAbs) {ss:List Str} (hp:SPts es ss):(∀ x∈(ups f ss).map fun e=>e.2,InLong x)∧(∀ k,InLong (((ups f ss).map fun e=>e.2).take k).sum)∧(ups f ss).length≤1000:=by
 have hb:∀ x,(f x).natAbs≤64000:=fun x=>by
  rw [hf]
  have:=ZjT (es:=es) (b:=1000) x hF.many
  have:=hF.few
  omega
 have hl:(ups f ss).length≤128:=by
  have:=ZhV f ss
  have:=hp.pts.len
  have:=hF.few
  omega
 obtain ⟨a1,a2⟩:=Ziy (l:=(ups f ss).map fun e=>e.2) (fun x hx=>by
  obtain ⟨e,he,rfl⟩:=List.mem_map.mp hx
  have:=Zi3 hb ss e he
  omega) (by rw [List.length_map]; exact hl)
 exact ⟨a1,a2,by omega⟩
section
variable {P:Program} {w:World} {K:PySem.W.Frag} {mg:Str→Option Value} {base:Heap}
end
def Zjc (wsh:Str) (us:Es):Str:=match us with | []=>wsh | u :: _=>u.1
section
variable {P:Program} {w:World} {K:PySem.W.Frag} {mg:Str→Option Value} {base:Heap}
end
theorem YN {ps:List Str} {hp:Es} (h:Zz ps hp):(hp.map (·.1)).Nodup:=by
 rw [List.nodup_iff_pairwise_ne,List.pairwise_map]
 refine List.Pairwise.imp ?_ (List.pairwise_map.mp h.srt)
 intro x y hxy e
 rw [e] at hxy
 exact List.lt_irrefl _ hxy
def oR (ps:List Str) (y:Str):Nat:=(ps.filter fun x=>decide (bg x=y)).length
section
variable {P:Program} {w:World} {K:PySem.W.Frag} {mg:Str→Option Value} {base:Heap}
end
def hD (ps:List Str) (r x:Str):Int:=fI ((oR ps x:Int) - if x=r then 0 else 1)
section
variable {P:Program} {w:World} {K:PySem.W.Frag} {mg:Str→Option Value} {base:Heap}
end
end Sh
namespace Sh
open PySem L2 PyProof.Rows
def inP (ps:List Str) (y:Str):Bool:=ps.any fun x=>decide (bg x=y) || decide (en x=y)
theorem inP_iff {ps:List Str} {y:Str}:inP ps y=true↔∃ x∈ps,bg x=y∨en x=y:=by
 unfold inP
 rw [List.any_eq_true]
 constructor
 ·rintro ⟨x,hx,h⟩
  exact ⟨x,hx,by simpa using h⟩
 ·rintro ⟨x,hx,h⟩
  exact ⟨x,hx,by simpa using h⟩
end Sh
namespace Sh
open PySem L2 PyProof.Rows
seal L2.PE L2.PS L2.PSs L2.PT L2.PW L2.PA L2.PI L2.PG L2.PGs L2.PO L2.PC L2.PCs L2.OpR L2.UnR L2.CallR L2.MtR L2.IxR L2.SlR
theorem ZcR (x:Str):∀ ss:List Str,(ss.map fun x=>x.cps.toList).Pairwise (· < ·)→∃ tt:List Str,(tt.map fun x=>x.cps.toList).Pairwise (· < ·)∧∀ y,y∈tt↔y=x∨y∈ss
 | [],_=>⟨[x],by simp,fun y=>by simp⟩
 | z :: ss,h=>by
  rw [List.map_cons,List.pairwise_cons] at h
  obtain ⟨h1,h2⟩:=h
  have hz:∀ y∈ss,z.cps.toList < y.cps.toList:=fun y hy=>h1 _ (List.mem_map.mpr ⟨y,hy,rfl⟩)
  by_cases a:x.cps.toList < z.cps.toList
  ·refine ⟨x :: z :: ss,?_,fun y=>by simp⟩
   rw [List.map_cons,List.pairwise_cons,List.map_cons,List.pairwise_cons]
   refine ⟨fun c hc=>?_,h1,h2⟩
   rcases List.mem_cons.mp hc with q | q
   ·rw [q]; exact a
   ·exact List.lt_trans a (h1 c q)
  ·by_cases b:z.cps.toList < x.cps.toList
   ·obtain ⟨tt,t1,t2⟩:=ZcR x ss h2
    refine ⟨z :: tt,?_,fun y=>?_⟩
    ·rw [List.map_cons,List.pairwise_cons]
     refine ⟨fun c hc=>?_,t1⟩
     obtain ⟨y,hy,rfl⟩:=List.mem_map.mp hc
     rcases (t2 y).mp hy with q | q
     ·rw [q]; exact b
     ·exact hz y q
    ·rw [List.mem_cons,t2,List.mem_cons]
     exact ⟨fun q=>q.elim (fun q=>.inr (.inl q)) (fun q=>q.elim .inl (fun q=>.inr (.inr q))),fun q=>q.elim (fun q=>.inr (.inl q)) (fun q=>q.elim .inl (fun q=>.inr (.inr q)))⟩
   ·have e:x=z:=ZR (List.le_antisymm (List.not_lt.mp b) (List.not_lt.mp a))
    refine ⟨z :: ss,?_,fun y=>?_⟩
    ·rw [List.map_cons,List.pairwise_cons]
     exact ⟨h1,h2⟩
    ·rw [List.mem_cons,e]
     exact ⟨.inr,fun q=>q.elim .inl id⟩
theorem ZbT:∀ l:List Str,∃ tt:List Str,(tt.map fun x=>x.cps.toList).Pairwise (· < ·)∧∀ y,y∈tt↔y∈l
 | []=>⟨[],by simp,fun y=>by simp⟩
 | x :: l=>by
  obtain ⟨ss,h1,h2⟩:=ZbT l
  obtain ⟨tt,t1,t2⟩:=ZcR x ss h1
  exact ⟨tt,t1,fun y=>by rw [t2,h2,List.mem_cons]⟩
structure RowOk (ps:List Str):Prop where
 len:ps.length≤27
 one:∀ x∈ps,(1≤x.length∧x.length≤1000)∧PyData.strOk x=true
 pts:∀ l:List Str,l.Nodup→(∀ y∈l,inP ps y=true)→l.length≤31
 same:∃ L:Nat,1≤L∧L≤12∧∀ x∈ps,x.length=L
theorem ZgV {ps qs:List Str} (h:∀ x∈qs,x∈ps) {y:Str} (k:inP qs y=true):inP ps y=true:=by
 obtain ⟨x,hx,q⟩:=inP_iff.mp k
 exact inP_iff.mpr ⟨x,h x hx,q⟩
theorem RowOk.sub {ps qs:List Str} (h:RowOk ps) (hs:∀ x∈qs,x∈ps) (hl:qs.length≤ps.length):RowOk qs:=⟨Nat.le_trans hl h.len,fun x hx=>h.one x (hs x hx),fun l nd hi=>h.pts l nd fun y hy=>ZgV hs (hi y hy),h.same.imp fun L q=>⟨q.1,q.2.1,fun x hx=>q.2.2 x (hs x hx)⟩⟩
section
variable {P:Program} {w:World} {K:PySem.W.Frag} {mg:Str→Option Value} {base:Heap}
end
end Sh
namespace L2
open PySem PySem.Spec PyProof.Rows
end L2
namespace Sh
open PySem L2 PyProof.Rows
seal L2.PE L2.PS L2.PSs L2.PT L2.PW L2.PA L2.PI L2.PG L2.PGs L2.PO L2.PC L2.PCs L2.OpR L2.UnR L2.CallR L2.MtR L2.IxR L2.SlR
section
variable {P:Program} {w:World} {K:PySem.W.Frag} {mg:Str→Option Value} {base:Heap}
end
section
variable {P:Program} {w:World} {K:PySem.W.Frag} {mg:Str→Option Value} {base:Heap} {S C A1 A2 A3 A4 A5 A6 A7 A8:Addr}
end
section
variable {P:Program} {w:World} {K:PySem.W.Frag} {mg:Str→Option Value} {base:Heap}
end
end Sh
namespace L2
open PySem PySem.Spec PyProof.Rows
end L2
namespace Sh
open PySem L2 PyProof.Rows
seal L2.PE L2.PS L2.PSs L2.PT L2.PW L2.PA L2.PI L2.PG L2.PGs L2.PO L2.PC L2.PCs L2.OpR L2.UnR L2.CallR L2.MtR L2.IxR L2.SlR
section
variable {P:Program} {w:World} {K:PySem.W.Frag} {mg:Str→Option Value} {base:Heap}
def ZjG (c:Nat):Bool:=decide (97≤c) && decide (c≤122)
end
end Sh
namespace Sh
open PySem L2 PyProof.Rows
end Sh
namespace Sh
open PySem L2 PyProof.Rows
seal L2.PE L2.PS L2.PSs L2.PT L2.PW L2.PA L2.PI L2.PG L2.PGs L2.PO L2.PC L2.PCs L2.OpR L2.UnR L2.CallR L2.MtR L2.IxR L2.SlR
theorem XI:∀ hp:List Pr,(∀ p∈hp,1≤p.2)→(hp.length:Int)≤(hp.map (·.2)).sum
 | [],_=>by simp
 | p :: r,h=>by
  have h1:=XI r fun q hq=>h q (List.mem_cons_of_mem _ hq)
  have h2:=h p List.mem_cons_self
  rw [List.map_cons,List.sum_cons,List.length_cons]
  omega
theorem ZhF:∀ hp:List Pr,(∀ p∈hp,1≤p.2)→∀ p∈hp,p.2≤(hp.map (·.2)).sum
 | [],_,p,hp=>by cases hp
 | q :: r,h,p,hp=>by
  have h2:=h q List.mem_cons_self
  have h4:=XI r fun z hz=>h z (List.mem_cons_of_mem _ hz)
  rw [List.map_cons,List.sum_cons]
  rcases List.mem_cons.mp hp with e | e
  ·subst e
   omega
  ·have h3:=ZhF r (fun z hz=>h z (List.mem_cons_of_mem _ hz)) p e
   omega
section
variable {hp:List Pr} {L:Nat}
end
section
variable {P:Program} {w:World} {K:PySem.W.Frag} {mg:Str→Option Value} {base:Heap}
end
end Sh
namespace L2
open PySem PySem.Spec PyProof.Rows
end L2
namespace Sh
open PySem L2 PyProof.Rows
seal L2.PE L2.PS L2.PSs L2.PT L2.PW L2.PA L2.PI L2.PG L2.PGs L2.PO L2.PC L2.PCs L2.OpR L2.UnR L2.CallR L2.MtR L2.IxR L2.SlR
section
variable {P:Program} {w:World} {K:PySem.W.Frag} {mg:Str→Option Value} {base:Heap}
end
end Sh
namespace L2
open PySem PySem.Spec PyProof.Rows
end L2
namespace Sh
open PySem L2 PyProof.Rows
end Sh
namespace Sh
open PySem L2 PyProof.Rows
seal L2.PE L2.PS L2.PSs L2.PT L2.PW L2.PA L2.PI L2.PG L2.PGs L2.PO L2.PC L2.PCs L2.OpR L2.UnR L2.CallR L2.MtR L2.IxR L2.SlR
section
variable {P:Program} {w:World} {K:PySem.W.Frag} {mg:Str→Option Value} {base:Heap}
end
end Sh
namespace L2
open PySem PySem.Spec PyProof.Rows
end L2
namespace Sh
open PySem L2 PyProof.Rows
seal L2.PE L2.PS L2.PSs L2.PT L2.PW L2.PA L2.PI L2.PG L2.PGs L2.PO L2.PC L2.PCs L2.OpR L2.UnR L2.CallR L2.MtR L2.IxR L2.SlR
abbrev Zb1:Stmt:=top 5
section
variable {P:Program} {w:World} {K:PySem.W.Frag} {mg:Str→Option Value} {base:Heap}
abbrev Ziu:List Str:=["manys"]
theorem Zgm:Zn Ziu ["manys"] (Zf Zb1):=⟨rfl,rfl,rfl,by decide +kernel,rfl,by decide +kernel,by decide +kernel⟩
def Zhm:Sp:=fun vs H Q _=>∃ (d:Addr) (ks:List Str) (g:Str→Int),vs=[.ref d]∧H d=some (.dK (ks.map fun x=>((Sum.inr x:Key),V.int (g x))))∧ks.Nodup∧ks.length < 64 ∧
 ∀ v H' (ss:List Str),Same H H'→ss.Perm ks→(ss.map fun x=>x.cps.toList).Pairwise (· < ·)→HpAt H' v (ss.map fun x=>(x,g x))→Q v H'
theorem ZdG (D:HasDef K mg "in_rows" Zb1 ["manys"]) (B:Blt mg):FOk P w K mg base 1 "in_rows" ["manys"] Zhm:=by
 refine D.ok Zgm (fun vs H Q E h=>?_) (fun f cdv A outer s H vs Q E hr h=>?_)
 ·obtain ⟨d,ks,g,rfl,_⟩:=h
  rfl
 ·obtain ⟨d,ks,g,rfl,hd,nd,h64,k⟩:=h
  refine ⟨_,(Zh (Zu (Zv ZB rfl B.tuple Yl (Zb (Zk (YS rfl) rfl B.sorted Yd (Zb (Zan (pv 0)) Zd)) Zd)))),?_⟩
  refine ⟨_,rfl,d,_,rfl,hd,fun p hp=>⟨p,d,ks,fun x=>.int (g x),rfl,Zc,Za hp _ _ hd,nd,h64,fun D1 H1 vs ss hs1 hperm hsrt hD1 hl hv=>?_⟩⟩
  refine ⟨D1,vs,rfl,.inl ⟨SqL.of hD1,fun l hl0=>?_⟩⟩
  refine k _ _ ss (((Za hp).trans hs1).trans (Za hl0)) hperm hsrt ⟨l,vs,rfl,Zc,by rw [List.length_map]; exact hl,fun i q e=>?_⟩
  rw [List.getElem?_map] at e
  cases ex:ss[i]? with
  | none=>rw [ex] at e; cases e
  | some x =>
   rw [ex] at e
   cases e
   obtain ⟨b,e1,e2⟩:=hv i x ex
   rw [List.getD_eq_getElem?_getD,e1]
   exact ⟨b,rfl,Za hl0 _ _ e2⟩
end
theorem ZgZ {ps:List Str} {h1 h2:List Pr} (a:Zz ps h1) (b:Zz ps h2):h1=h2:=by
 have mem:∀ (h:List Pr),Zz ps h→∀ x,x∈(h.map fun p=>p.1.cps.toList)↔∃ z∈ps,z.cps.toList=x:=fun h hh x=>by
  constructor
  ·intro q
   obtain ⟨p,hp,e⟩:=List.mem_map.mp q
   exact ⟨p.1,(hh.mem p.1).mp (List.mem_map.mpr ⟨p,hp,rfl⟩),e⟩
  ·rintro ⟨z,hz,e⟩
   obtain ⟨p,hp,e2⟩:=List.mem_map.mp ((hh.mem z).mpr hz)
   exact List.mem_map.mpr ⟨p,hp,by rw [e2,e]⟩
 have e:=XA a.srt b.srt fun x=>(mem h1 a x).trans (mem h2 b x).symm
 have hl:h1.length=h2.length:=by have:=congrArg List.length e; simpa using this
 apply List.ext_getElem hl
 intro i hi1 hi2
 have e1:h1[i].1.cps.toList=h2[i].1.cps.toList:=by
  have:=congrArg (fun l:List (List Nat)=>l[i]?) e
  simpa [hi1,hi2] using this
 have e2:h1[i].1=h2[i].1:=ZR e1
 have e3:h1[i].2=h2[i].2:=by rw [a.cnt _ (List.getElem_mem hi1),b.cnt _ (List.getElem_mem hi2),e2]
 exact Prod.ext e2 e3
section
variable {P:Program} {w:World} {K:PySem.W.Frag} {mg:Str→Option Value} {base:Heap}
end
end Sh
namespace L2
end L2
namespace Sh
open PySem L2 PyProof.Rows
seal L2.PE L2.PS L2.PSs L2.PT L2.PW L2.PA L2.PI L2.PG L2.PGs L2.PO L2.PC L2.PCs L2.OpR L2.UnR L2.CallR L2.MtR L2.IxR L2.SlR
section
variable {P:Program} {w:World} {K:PySem.W.Frag} {mg:Str→Option Value} {base:Heap}
end
end Sh
namespace Sh
open PySem L2 PyProof.Rows
end Sh
namespace Sh
open PySem L2 PyProof.Rows
seal L2.PE L2.PS L2.PSs L2.PT L2.PW L2.PA L2.PI L2.PG L2.PGs L2.PO L2.PC L2.PCs L2.OpR L2.UnR L2.CallR L2.MtR L2.IxR L2.SlR
section
variable {hp:List Pr} {L:Nat}
end
section
variable {P:Program} {w:World} {K:PySem.W.Frag} {mg:Str→Option Value} {base:Heap}
end
end Sh
namespace Sh
open PySem L2 PyProof.Rows
end Sh
namespace Sh
open PySem L2 PyProof.Rows
seal L2.PE L2.PS L2.PSs L2.PT L2.PW L2.PA L2.PI L2.PG L2.PGs L2.PO L2.PC L2.PCs L2.OpR L2.UnR L2.CallR L2.MtR L2.IxR L2.SlR
section
variable {P:Program} {w:World} {K:PySem.W.Frag} {mg:Str→Option Value} {base:Heap}
end
theorem ZjB {H:Hp} {vs:List V} {es:Es} {p:Str × Int→Bool} {f:Str→Str} {n:Nat} (hn:n=es.length) (hl:vs.length=((List.range n).filter fun i=>p (es.getD i ("",0))).length)
  (hR:∀ (j i:Nat) (v:V),((List.range n).filter fun i=>p (es.getD i ("",0)))[j]?=some i→vs[j]?=some v→Zgo (f (es.getD i ("",0)).1) (es.getD i ("",0)).2 v H):PA H vs ((es.filter p).map fun e=>(f e.1,e.2)):=by
 subst hn
 rw [ZlR]
 refine ⟨by rw [List.length_map,List.length_map,hl],fun j e he=>?_⟩
 rw [List.getElem?_map,List.getElem?_map] at he
 cases hj:((List.range es.length).filter fun i=>p (es.getD i ("",0)))[j]? with
 | none=>rw [hj] at he; cases he
 | some i =>
  rw [hj] at he
  cases he
  have hjv:j < vs.length:=by rw [hl]; exact (List.getElem?_eq_some_iff.mp hj).1
  obtain ⟨b,e1,e2⟩:=hR j i vs[j] hj (List.getElem?_eq_getElem hjv)
  exact ⟨b,by rw [List.getElem?_eq_getElem hjv,e1],e2⟩
def lc (x:Str):Str:=⟨#[x.cps.toList.getD (x.length - 1) 0]⟩
def nxt (es:Es) (y:Str):Es:=(es.filter fun e=>decide (bg e.1=y)).map fun e=>(lc e.1,e.2)
section
variable {P:Program} {w:World} {K:PySem.W.Frag} {mg:Str→Option Value} {base:Heap}
def Zei:Sp:=fun vs H Q _=>∃ (v:V) (es:Es) (y:Str),vs=[v,.str y]∧HeapV H v es∧ZfW es∧∀ v' H',Same H H'→HeapV H' v' (nxt es y)→Q v' H'
abbrev X3:Stmt:=top 12
abbrev Zc0:List Str:=["H","P"]
theorem Zeu:Zn Zc0 ["H","P"] (Zf X3):=⟨rfl,rfl,rfl,by decide +kernel,rfl,by decide +kernel,by decide +kernel⟩
theorem ZkY {x:Str} (h:1≤x.length):atI x.cps.toList (-1)=some (x.cps.toList.getD (x.length - 1) 0):=by
 have hl:x.cps.toList.length=x.length:=Zy x
 unfold atI ixN
 rw [if_neg (by decide),if_pos (by omega),Option.bind_some,hl]
 have e:((-1:Int) + (x.length:Int)).toNat=x.length - 1:=by omega
 rw [e,List.getD_eq_getElem?_getD,List.getElem?_eq_getElem (by omega)]
 rfl
theorem Zcb (D:HasDef K mg "nexts_of" X3 ["H","P"]) (B:Blt mg) (g11_:FOk P w K mg base 1 "begin_of" ["piece"] Zad):FOk P w K mg base 2 "nexts_of" ["H","P"] Zei:=by
 refine D.ok Zeu (fun vs H Q E h=>?_) (fun f cdv A outer s H vs Q E hr h=>?_)
 ·obtain ⟨v,es,y,rfl,_⟩:=h
  rfl
 ·obtain ⟨v,es,y,rfl,⟨q,vs,rfl,hq,hpa⟩,hF,k⟩:=h
  refine ⟨_,(Zh (Zu (Zv ZB rfl B.tuple Yl (Zb (ZX (Zf X3) Zc0 ["piece","many"] [1] rfl (Yi (pv 0)) (fun _ _ _ _ _=>Z3 2 K rfl (Zt (Yy 0) (Zt (Yy 1) Z2))) (fun _ _ _ _ _=>Zao (ZA Zap (Zx g11_ hr (Zb (pv 0) Zd)) (pv 2) (ZJ _))) (fun _ _ _ _ _=>(YF (Zb (ZP XV (pv 0) (Xb Ye Zi) (fun _ _=>rfl)) (Zb (pv 1) Zd))))) Zd)))),?_⟩
  have hfew:=hF.few
  have hvl:=hpa.1
  refine ⟨_,rfl,q,rfl,⟨_,SqT.of hq⟩,Zcq vs.length (fun i=>vs.getD i .non) (fun i=>(fun e:Str × Int=>decide (bg e.1=y)) (es.getD i ("",0))) (fun i v H=>Zgo (lc (es.getD i ("",0)).1) (es.getD i ("",0)).2 v H) (Zg (by omega)) (fun i v H H' hs ⟨b,e1,e2⟩=>⟨b,e1,hs _ _ e2⟩) (Xq (SqT.of hq)) ?_ ?_⟩
  ·intro i H3 Qt Qf hi hs ht hf
   have hie:i < es.length:=by omega
   obtain ⟨b,e1,e2⟩:=hpa.2 i es[i] (List.getElem?_eq_getElem hie)
   have ev:vs.getD i .non = .ref b:=by rw [List.getD_eq_getElem?_getD,e1]; rfl
   have ee:es.getD i ("",0)=es[i]:=by rw [List.getD_eq_getElem?_getD,List.getElem?_eq_getElem hie]; rfl
   obtain ⟨l1,l2⟩:=hF.long es[i] (List.getElem_mem hie)
   rw [ee] at ht hf
   rw [ev]
   refine ⟨b,_,rfl,SqT.of (hs _ _ e2),rfl,_,_,rfl,_,_,rfl,rfl,_,rfl,es[i].1,rfl,l1,l2,_,rfl,rfl,_,rfl,?_⟩
   rw [dec_str]
   by_cases c:bg es[i].1=y
   ·refine X9 (decide_eq_true c) ⟨_,rfl,_,rfl,es[i].1,_,_,rfl,rfl,ZY l2,ZkY l1,_,rfl,Zg (show 2≤1000 by decide),fun p hp=>ht (decide_eq_true c) _ _ (Za hp) ⟨p,rfl,Zc⟩⟩
   ·exact Xx (decide_eq_false c) (hf (decide_eq_false c) _ (Same.refl _))
  intro D2 vs2 H16 hl2 hR2 s16 hD2 hDl2
  have hp2:=ZjB (p:=fun e=>decide (bg e.1=y)) (f:=lc) hvl hl2 hR2
  refine ⟨D2,vs2,rfl,.inl ⟨SqL.of hDl2,fun l hl=>?_⟩⟩
  have sq:=Za (o:=.tup vs2) hl
  exact k _ _ (s16.trans sq) ⟨l,vs2,rfl,Zc,hp2.same sq.tup⟩
end
end Sh
namespace Sh
open PySem L2 PyProof.Rows
def Lng (ps:List Str):Prop:=∀ x∈ps,1≤x.length
theorem Lng.erase {ps:List Str} (h:Lng ps) (x:Str):Lng (ps.erase x):=fun y hy=>h y (List.mem_of_mem_erase hy)
end Sh
namespace Sh
open PySem L2 PyProof.Rows
seal L2.PE L2.PS L2.PSs L2.PT L2.PW L2.PA L2.PI L2.PG L2.PGs L2.PO L2.PC L2.PCs L2.OpR L2.UnR L2.CallR L2.MtR L2.IxR L2.SlR
section
variable {P:Program} {w:World} {K:PySem.W.Frag} {mg:Str→Option Value} {base:Heap}
abbrev Zai:Stmt:=top 6
theorem XJ {ps:List Str} {hp:List Pr} (h:Zz ps hp):(hp.map fun p=>((Sum.inr p.1:Key),V.int p.2))=gD (hp.map (·.1)) fun x=>(ps.count x:Int):=by
 unfold gD
 rw [List.map_map]
 exact List.map_congr_left fun p m=>by rw [h.cnt p m]; rfl
theorem ZaB {ks:List Str} {g:Str→Int} (h:ks.Nodup):((gD ks g).map (·.1)).Nodup:=by
 unfold gD
 rw [List.map_map]
 exact List.pairwise_map.mpr (h.imp fun {a b} q e=>q (by
  have e':(Sum.inr a:Key)=Sum.inr b:=e
  injection e'))
theorem XW {ss ks ps:List Str} {g:Str→Int} (hperm:ss.Perm ks) (hsrt:(ss.map fun x=>x.cps.toList).Pairwise (· < ·)) (hm:∀ x,x∈ks↔x∈ps) (hg:∀ x∈ks,g x=ps.count x):Zz ps (ss.map fun x=>(x,g x)):=by
 refine ⟨?_,fun x=>?_,fun p m=>?_⟩
 ·rw [List.map_map]
  exact hsrt
 ·rw [List.map_map]
  have:ss.map ((·.1) ∘ fun x=>(x,g x))=ss:=by
   conv=>rhs; rw [← List.map_id ss]
   exact List.map_congr_left fun _ _=>rfl
  rw [this,hperm.mem_iff,hm]
 ·obtain ⟨x,mx,rfl⟩:=List.mem_map.mp m
  exact hg x (hperm.mem_iff.mp mx)
theorem Ja {H:Hp} {v:V} {hp:List Pr} (h:HpAt H v hp):∃ a xs,v = .ref a∧H a=some (.tup xs)∧xs.length=hp.length∧∀ (i:Nat) p,hp[i]?=some p→∃ b,xs[i]?=some (.ref b)∧H b=some (.tup [.str p.1,.int p.2]):=by
 obtain ⟨a,xs,rfl,ha,hl,hr⟩:=h
 refine ⟨a,xs,rfl,ha,hl,fun i p e=>?_⟩
 obtain ⟨b,e1,e2⟩:=hr i p e
 have hi:i < xs.length:=by rw [hl]; exact (List.getElem?_eq_some_iff.mp e).1
 rw [List.getD_eq_getElem?_getD,List.getElem?_eq_getElem hi] at e1
 exact ⟨b,by rw [List.getElem?_eq_getElem hi]; exact congrArg some e1,e2⟩
abbrev ZgJ:List Str:=["H","piece","manys"]
theorem scLessOne:Zn ZgJ ["H","piece"] (Zf Zai):=⟨rfl,rfl,rfl,by decide +kernel,rfl,by decide +kernel,by decide +kernel⟩
def Zab (C:Addr):Sp:=fun vs H Q E=>∃ (v:V) (hp:List Pr) (ps:List Str) (x:Str),vs=[v,.str x]∧HpAt H v hp∧Zz ps hp∧hp.length≤63 ∧
 ((x∉ps∧∀ H',Same H H'→E (.ref C) none H')∨(x∈ps∧∀ v' H' hp',Same H H'→HpAt H' v' hp'→Zz (ps.erase x) hp'→Q v' H'))
theorem Zcd {C:Addr} {bm:List Value} (D:HasDef K mg "less_one" Zai ["H","piece"]) (B:Blt mg) (Bd:mg "dict" = none) (c:XCls K mg "NoPiece" C bm) (g19_:FOk P w K mg base 4 "in_rows" ["manys"] Zhm):FOkX P w K mg base 5 "less_one" ["H","piece"] (Zab C):=by
 refine D.okX scLessOne (fun vs H Q E h=>?_) (fun f cdv A outer s vs H Q E L hr h=>?_)
 ·obtain ⟨v,hp,ps,x,rfl,_⟩:=h
  rfl
 ·obtain ⟨v,hp,ps,x,rfl,hA,hO,hl,h⟩:=h
  have hu:=Zct hr
  refine ⟨_,(Ze (Zm (i:=2) scLessOne.nd rfl (.inl rfl) (Zv (Xf rfl) rfl Bd Zdn (Zb (pv 0) Zd)))
   (Ze (Yn (ZeQ (Jk hu (pv 1) (pv 2))) (Zh (Zam L c rfl (Zb Xk Zd))) ZK)
   (Ze (XE hu (pv 2) (pv 1) (Zo YM (XG hu (pv 2) (pv 1) (fun _ _=>rfl)) Zi) rfl)
   (Zie (Yn (ZA Zap (XG hu (pv 2) (pv 1) (fun _ _=>rfl)) Zi (ZJ _)) (Zh (ZS (Zgv (pv 2) (pv 1) ⟨rfl,rfl,rfl,rfl⟩))) ZK)
   (Zh (Zu (Zx g19_ hr (Zb (pv 2) Zd)))))))),?_⟩
  have one:(1:Nat)≤sizeLine:=by rw [sizeLine_eq]; decide
  obtain ⟨a,xs,rfl,ha,hlx,hq⟩:=Ja hA
  refine ⟨_,rfl,a,xs,hp.map fun p=>((Sum.inr p.1:Key),V.int p.2),rfl,.inr ha,by rw [List.length_map]; exact hlx,fun i q e=>?_,?_,fun d hd=>?_⟩
  ·rw [List.getElem?_map] at e
   cases ep:hp[i]? with
   | none=>rw [ep] at e; cases e
   | some p=>rw [ep] at e; cases e; exact hq i p ep
  ·rw [XJ hO]
   exact ZaB (YN hO)
  rw [XJ hO]
  have sd:=Za (o:=.dK (gD (hp.map (·.1)) fun x=>(ps.count x:Int))) hd
  have nd:=YN hO
  have hm:=hO.mem
  generalize hks:hp.map (·.1)=ks at sd nd hm
  have hkl:ks.length≤63:=by rw [← hks,List.length_map]; exact hl
  have hdd:(upd H d (.dK (gD ks fun x=>(ps.count x:Int)))) d=some (.dK (gD ks fun x=>(ps.count x:Int))):=Zc
  refine ⟨_,rfl,_,rfl,d,_,rfl,DGet.k (k:=Sum.inr x) hdd,_,rfl,?_⟩
  rw [Xr]
  rcases h with ⟨hx,kE⟩ | ⟨hx,k⟩
  ·rw [if_neg fun q=>hx ((hm x).mp q)]
   exact ZkZ ⟨one,kE _ sd⟩
  ·have hxk:=(hm x).mpr hx
   rw [if_pos hxk]
   refine Zi0 ?_
   have dg:DGet (upd H d (.dK (gD ks fun x=>(ps.count x:Int)))) d (.str x) (some (.int (ps.count x))):=by
    have:=DGet.k (k:=Sum.inr x) hdd
    rw [Xr,if_pos hxk] at this
    exact this
   refine ⟨_,rfl,_,rfl,d,_,rfl,dg,_,_,rfl,rfl,_,rfl,_,rfl,d,_,rfl,DPut.k (k:=Sum.inr x) hdd ?_,?_⟩
   ·rw [Jw]
    exact ZC (by omega)
   dsimp only
   rw [Zdd,if_pos hxk]
   have cpos:1≤ps.count x:=List.count_pos_iff.mpr hx
   have s2:Same H (upd (upd H d (.dK (gD ks fun x=>(ps.count x:Int)))) d (.dK (gD ks fun y=>if y=x then (ps.count x:Int) - 1 else (ps.count y:Int)))):=ZT sd hd
   generalize hH2:upd (upd H d (.dK (gD ks fun x=>(ps.count x:Int)))) d (.dK (gD ks fun y=>if y=x then (ps.count x:Int) - 1 else (ps.count y:Int)))=H2 at s2
   have hdd2:H2 d=some (.dK (gD ks fun y=>if y=x then (ps.count x:Int) - 1 else (ps.count y:Int))):=by rw [← hH2]; exact Zc
   have gv2:Y4 (gD ks fun y=>if y=x then (ps.count x:Int) - 1 else (ps.count y:Int)) (Sum.inr x)=some (.int ((ps.count x:Int) - 1)):=by
    rw [Xr,if_pos hxk,if_pos rfl]
   have cnt:∀ y,(ps.erase x).count y=if y=x then ps.count x - 1 else ps.count y:=fun y=>by
    by_cases e:y=x
    ·rw [if_pos e,e,List.count_erase_self]
    ·rw [if_neg e,List.count_erase_of_ne e]
   refine ⟨fun σ' H'=>∃ (ks':List Str) (g:Str→Int),σ'=[some (.ref a),some (.str x),some (.ref d)]∧Same H H'∧ks'.Nodup∧ks'.length≤63∧(∀ y,y∈ks'↔y∈ps.erase x)∧(∀ y∈ks',g y=(ps.erase x).count y)∧H' d=some (.dK (gD ks' g)),?_,?_⟩
   ·have dg2:DGet H2 d (.str x) (some (.int ((ps.count x:Int) - 1))):=by
     have:=DGet.k (k:=Sum.inr x) hdd2
     rw [gv2] at this
     exact this
    refine ⟨_,rfl,_,rfl,d,_,rfl,dg2,rfl,_,rfl,?_⟩
    by_cases c1:ps.count x=1
    ·refine X9 (Zdb (by omega)) ?_
     refine ⟨_,rfl,d,rfl,.inl ⟨_,.inl hdd2⟩,_,rfl,_,Sum.inr x,_,hdd2,rfl,gv2,?_⟩
     rw [ZiJ]
     have nx:x∉ps.erase x:=fun q=>by
      have:=List.count_pos_iff.mpr q
      rw [cnt x,if_pos rfl] at this
      omega
     refine ⟨_,_,rfl,ZT s2 hd,nd.filter _,Nat.le_trans (List.length_filter_le _ _) hkl,fun y=>?_,fun y my=>?_,Zc⟩
     ·rw [List.mem_filter,hm,decide_eq_true_eq]
      constructor
      ·rintro ⟨q1,q2⟩
       exact (List.mem_erase_of_ne q2).mpr q1
      ·intro q
       have ne:y≠x:=fun e=>nx (e ▸ q)
       exact ⟨(List.mem_erase_of_ne ne).mp q,ne⟩
     ·have ne:y≠x:=by
       rw [List.mem_filter,decide_eq_true_eq] at my
       exact my.2
      rw [if_neg ne,cnt y,if_neg ne]
    ·refine Xx (Zbq (by omega)) ?_
     refine ⟨ks,_,rfl,s2,nd,hkl,fun y=>?_,fun y my=>?_,hdd2⟩
     ·rw [hm,← List.count_pos_iff,← List.count_pos_iff,cnt y]
      by_cases e:y=x
      ·rw [if_pos e,e]
       constructor <;> intro _ <;> omega
      ·rw [if_neg e]
     ·rw [cnt y]
      by_cases e:y=x
      ·rw [if_pos e,if_pos e]
       omega
      ·rw [if_neg e,if_neg e]
   ·rintro σ' H3 ⟨ks',g,rfl,s3,nd',hl',hm',hg',hd3⟩
    refine ⟨_,rfl,d,ks',g,rfl,hd3,nd',by omega,fun v' H4 ss s4 hperm hsrt hA'=>?_⟩
    exact k v' H4 _ (s3.trans s4) hA' (XW hperm hsrt hm' hg')end
structure Hv (H:Hp) (v:V) (ps:List Str) (hp:Es):Prop where
 at_:HpAt H v hp
 of:Zz ps hp
theorem Hv.same {H H':Hp} {v:V} {ps:List Str} {hp:Es} (h:Hv H v ps hp) (s:Same H H'):Hv H' v ps hp:=⟨h.at_.same s.tup,h.of⟩
theorem Zj4 {ps:List Str} {hp:Es} (hO:Zz ps hp):hp=[]↔ps=[]:=by
 constructor
 ·rintro rfl
  cases ps with
  | nil=>rfl
  | cons x ps=>exact absurd ((hO.mem x).mpr List.mem_cons_self) (by simp)
 ·rintro rfl
  cases hp with
  | nil=>rfl
  | cons e es=>exact absurd ((hO.mem e.1).mp (List.mem_map.mpr ⟨e,List.mem_cons_self,rfl⟩)) (by simp)
section
variable {P:Program} {w:World} {K:PySem.W.Frag} {mg:Str→Option Value} {base:Heap}
def LsP (H:Hp) (a:Addr) (es:Es):Prop:=∃ vs,H a=some (.lst vs)∧PA H vs es
theorem LsP.same {H H':Hp} {a:Addr} {es:Es} (h:LsP H a es) (s:Same H H'):LsP H' a es:=by
 obtain ⟨vs,h1,h2⟩:=h
 exact ⟨vs,s _ _ h1,h2.same s.tup⟩
end
end Sh
namespace Sh
open PySem L2 PyProof.Rows
end Sh
namespace Sh
open PySem L2 PyProof.Rows
seal L2.PE L2.PS L2.PSs L2.PT L2.PW L2.PA L2.PI L2.PG L2.PGs L2.PO L2.PC L2.PCs L2.OpR L2.UnR L2.CallR L2.MtR L2.IxR L2.SlR
section
variable {P:Program} {w:World} {K:PySem.W.Frag} {mg:Str→Option Value} {base:Heap}
end
def cDT (ks ps:List Str):List (Key × V):=ks.map fun x=>((Sum.inr x:Key),V.int (ps.count x))
structure Zlg (ks ps:List Str):Prop where
 nd:ks.Nodup
 mem:∀ x,x∈ks↔x∈ps
theorem ZfL {ks ps:List Str} (h:Zlg ks ps) (y:Str):∃ ks',Zlg ks' (ps ++ [y])∧Xw (cDT ks ps) (Sum.inr y) (.int ((ps.count y:Int) + 1))=cDT ks' (ps ++ [y])∧ks'.length≤ks.length + 1:=by
 have hc:∀ x,(ps ++ [y]).count x=ps.count x + if y=x then 1 else 0:=fun x=>by
  rw [List.count_append,List.count_singleton]
  simp [beq_iff_eq]
 by_cases m:y∈ks
 ·refine ⟨ks,⟨h.nd,fun x=>?_⟩,?_,Nat.le_succ _⟩
  ·rw [h.mem x,List.mem_append,List.mem_singleton]
   exact ⟨.inl,fun q=>q.elim id fun e=>by rw [e]; exact (h.mem y).mp m⟩
  ·unfold cDT
   rw [XD _ _ _ _ m]
   apply List.map_congr_left
   intro x _
   rw [hc x]
   by_cases e:x=y
   ·subst e
    simp
   ·have e':¬ y=x:=fun q=>e q.symm
    simp [e,e']
 ·have hn:y∉ps:=fun q=>m ((h.mem y).mpr q)
  refine ⟨ks ++ [y],⟨Ze8 h.nd m,fun x=>?_⟩,?_,by rw [List.length_append]; exact Nat.le_refl _⟩
  ·rw [List.mem_append,List.mem_append,h.mem x]
  ·unfold cDT
   rw [X6 _ (by rw [Y6,if_neg m]),List.map_append]
   congr 1
   ·apply List.map_congr_left
    intro x hx
    rw [hc x]
    have e':¬ y=x:=fun q=>m (q ▸ hx)
    simp [e']
   ·rw [List.map_singleton,hc y]
    simp
theorem Zbr {ps ss:List Str} (hs:(ss.map fun x=>x.cps.toList).Pairwise (· < ·)) (hm:∀ x,x∈ss↔x∈ps):Zz ps (ss.map fun x=>(x,(ps.count x:Int))):=by
 refine ⟨?_,fun x=>?_,fun p hp=>?_⟩
 ·rw [List.map_map]
  exact hs
 ·rw [List.map_map]
  have e:ss.map ((·.1) ∘ fun x=>(x,(ps.count x:Int)))=ss:=by
   conv=>rhs; rw [← List.map_id ss]
   exact List.map_congr_left fun _ _=>rfl
  rw [e,hm]
 ·obtain ⟨x,_,rfl⟩:=List.mem_map.mp hp
  rfl
section
variable {P:Program} {w:World} {K:PySem.W.Frag} {mg:Str→Option Value} {base:Heap}
abbrev ZeB:Stmt:=top 41
abbrev ZjL:List Str:=["_law_signs_here","_law_long","_law_found","_law_at","_law_piece"]
theorem scLTorn:Zn ZjL ["_law_signs_here","_law_long"] (Zf ZeB):=⟨rfl,rfl,rfl,by decide +kernel,rfl,by decide +kernel,by decide +kernel⟩
def Zhk:Sp:=fun vs H Q _=>∃ (z:List Nat) (L:Nat),vs=[.str (tx z),.int L]∧Fit z L∧z.length≤63∧∀ v H' (hp:Es),Same H H'→Zz (pcs z L) hp→HpAt H' v hp→Q v H'
theorem Ze2 (D:HasDef K mg "_law_torn" ZeB ["_law_signs_here","_law_long"]) (B:Blt mg):FOk P w K mg base 1 "_law_torn" ["_law_signs_here","_law_long"] Zhk:=by
 refine D.ok scLTorn (fun vs H Q E h=>?_) (fun f cdv A outer s H vs Q E hr h=>?_)
 ·obtain ⟨z,L,rfl,_⟩:=h
  rfl
 ·obtain ⟨z,L,rfl,hF,hz,k⟩:=h
  have hu:=Zct hr
  refine ⟨_,(Ze (Zm (i:=2) scLTorn.nd rfl (.inl rfl) X8)
   (Ze (Yh PassesOwn.never rfl (YK rfl B.range (Zb (Zo ZU (Zo YM (Zk Zq rfl B.len ZW (Zb (pv 0) Zd)) (pv 1)) Zi) Zd)) (ZG (i:=3) scLTorn.nd rfl (.inl rfl))
    (Ze (Zm (i:=4) scLTorn.nd rfl (.inl rfl) (ZM Yr (pv 0) (ZO (pv 3)) (ZO (Zo ZU (pv 3) (pv 1)))))
   (Zh (XE hu (pv 2) (pv 4) (Zo ZU (YZ hu (pv 2) (pv 4) Zi ⟨rfl,rfl,rfl,rfl⟩) Zi) rfl))))
   (Zh (Zu (Zv ZB rfl B.tuple Yl (Zb (Zk (YS rfl) rfl B.sorted Yd (Zb (Zan (pv 2)) Zd)) Zd)))))),?_⟩
  have o:=hF.one
  have l:=hF.le
  refine fun d hd=>⟨_,rfl,.str (tx z),z.length,rfl,⟨ZH (by omega),(Zs z).symm⟩,_,rfl,_,_,rfl,rfl,_,_,rfl,rfl,_,rfl,by omega,by omega,?_⟩
  have en:((z.length:Int) - (L:Int) + 1).toNat=z.length + 1 - L:=by omega
  rw [en]
  obtain ⟨ps,hps⟩:∃ ps,ps=(win L z).map tx:=⟨_,rfl⟩
  have hpl:ps.length=z.length + 1 - L:=by rw [hps]; unfold win; rw [List.length_map,List.length_map,List.length_range]
  have hpi:∀ (i:Nat) (h:i < ps.length),ps[i]=tx ((z.drop i).take L):=fun i h=>by
   have e1:ps[i]?=some (tx ((z.drop i).take L)):=by
    rw [hps]
    unfold win
    rw [List.getElem?_map,List.getElem?_map,List.getElem?_range (by omega)]
    rfl
   rw [List.getElem?_eq_getElem h] at e1
   exact Option.some.inj e1
  rw [Zb8 hF,← hps] at k
  refine YO (n:=z.length + 1 - L) (fun i σ H2=>(∃ z3 z4:Option V,σ=[some (.str (tx z)),some (.int L),some (.ref d),z3,z4])∧Same H H2∧∃ ks,Zlg ks (ps.take i)∧ks.length≤i∧H2 d=some (.dK (cDT ks (ps.take i))))
   ⟨⟨none,none,rfl⟩,Za hd,[],⟨List.nodup_nil,fun x=>Iff.rfl⟩,Nat.le_refl _,Zc⟩ ?_ ?_
  ·rintro i σ H2 hi ⟨⟨z3,z4,rfl⟩,s2,ks,hk,hkl,hdd⟩
   rw [Int.zero_add]
   have hi':i < ps.length:=by omega
   refine ⟨_,rfl,_,rfl,_,rfl,_,rfl,_,rfl,_,_,rfl,rfl,_,rfl,_,rfl,ZH (by omega),?_⟩
   rw [Xg (z:=z) (a:=i) (b:=i + L) (by omega) (by omega) (by omega) (by omega)]
   have ep:tx (seg z i (i + L))=ps[i]:=by
    rw [hpi i hi']
    unfold seg
    rw [show i + L - i=L by omega]
   rw [ep]
   have hg:(Y4 (cDT ks (ps.take i)) (Sum.inr ps[i]:Key)).getD (.int 0) = .int ((ps.take i).count ps[i]):=by
    unfold cDT
    rw [Y6]
    split
    ·rfl
    ·rename_i m
     have:ps[i]∉ps.take i:=fun q=>m ((hk.mem _).mpr q)
     rw [List.count_eq_zero_of_not_mem this]
     rfl
   obtain ⟨ks',hk',ep2,hl'⟩:=ZfL hk ps[i]
   rw [← List.take_succ_eq_append_getElem hi'] at hk' ep2
   refine ⟨_,rfl,d,rfl,.inl ⟨_,.inl hdd⟩,_,rfl,_,DGet.k (k:=Sum.inr ps[i]) hdd,_,_,hg,rfl,_,rfl,_,rfl,d,_,rfl,DPut.k (k:=Sum.inr ps[i]) hdd ?_,?_⟩
   ·unfold cDT
    rw [List.length_map]
    exact ZC (by omega)
   ·refine ⟨⟨_,_,rfl⟩,fun b u e=>?_,ks',hk',by omega,?_⟩
    ·rw [Zj (Zl e hd)]
     exact s2 b u e
    ·rw [Zc]
     exact congrArg (fun l=>some (HO.dK l)) ep2
  ·rintro σ H2 ⟨⟨z3,z4,rfl⟩,s2,ks,hk,hkl,hdd⟩
   rw [List.take_of_length_le (by omega)] at hk hdd
   refine ⟨_,rfl,d,_,rfl,hdd,fun p hp=>⟨p,d,ks,fun x=>.int (ps.count x),rfl,Zc,Za hp _ _ hdd,hk.nd,by omega,fun D1 H3 vs ss hs3 hperm hsrt hD1 hl hv=>?_⟩⟩
   refine ⟨D1,vs,rfl,.inl ⟨SqL.of hD1,fun q hq=>?_⟩⟩
   refine k _ _ _ (((s2.trans (Za hp)).trans hs3).trans (Za hq)) (Zbr hsrt fun x=>by rw [hperm.mem_iff,hk.mem]) ?_
   refine ⟨q,vs,rfl,Zc,by rw [List.length_map]; exact hl,fun i p hi=>?_⟩
   rw [List.getElem?_map] at hi
   obtain ⟨x,hx,rfl⟩:=Option.map_eq_some_iff.mp hi
   obtain ⟨b,e1,e2⟩:=hv i x hx
   refine ⟨b,?_,Za hq _ _ e2⟩
   rw [List.getD_eq_getElem?_getD,e1]
   rfl
end
abbrev nV (i:Nat):V:=V.int (i:Int)
def Zlc (H:Hp) (b:Addr) (t:Str × Str):Prop:=∃ s:Str,H b=some (.tup [.str t.1,.str s,.str t.2])
def TyA (H:Hp) (vs:List V) (ts:Ts):Prop:=vs.length=ts.length∧∀ (i:Nat) (t:Str × Str),ts[i]?=some t→∃ b,vs[i]?=some (.ref b)∧Zlc H b t
def TiesV (H:Hp) (v:V) (ts:Ts):Prop:=∃ a vs,v = .ref a∧SeqAt' H a vs∧TyA H vs ts
theorem TyA.same {H H':Hp} {vs:List V} {ts:Ts} (h:TyA H vs ts) (s:Same H H'):TyA H' vs ts:=⟨h.1,fun i t e=>by
 obtain ⟨b,e1,m,e2⟩:=h.2 i t e
 exact ⟨b,e1,m,s _ _ e2⟩⟩
theorem TiesV.same {H H':Hp} {v:V} {ts:Ts} (h:TiesV H v ts) (s:Same H H'):TiesV H' v ts:=by
 obtain ⟨a,vs,e,h1,h2⟩:=h
 exact ⟨a,vs,e,h1.same s,h2.same s⟩
theorem TyA.at {H:Hp} {vs:List V} {ts:Ts} (h:TyA H vs ts) {i:Nat} (hi:i < ts.length):∃ b s,atI vs (i:Int)=some (.ref b)∧H b=some (.tup [.str (frm ts i),.str s,.str (tow ts i)]):=by
 obtain ⟨b,e1,s,e2⟩:=h.2 i ts[i] (List.getElem?_eq_getElem hi)
 refine ⟨b,s,Zdo e1,?_⟩
 unfold frm tow
 rw [List.getD_eq_getElem?_getD,List.getElem?_eq_getElem hi]
 exact e2
theorem ZfR {xs:List V} {v:V}:atI (xs ++ [v]) (-1)=some v:=by
 unfold atI ixN
 rw [if_neg (by decide),if_pos (by rw [List.length_append,List.length_singleton]; omega)]
 simp only [Option.bind_some,List.length_append,List.length_singleton]
 rw [show ((-1:Int) + ((xs.length + 1:Nat):Int)).toNat=xs.length by omega]
 simp
structure NJ (H H2:Hp) (d:Addr) (ks:List Str) (adr:Str→Addr) (r:Str→List Nat):Prop where
 sm:Same H H2
 dn:H d=none
 dd:H2 d=some (.dK (rD ks adr))
 nd:ks.Nodup
 row:∀ P∈ks,H2 (adr P)=some (.lst ((r P).map nV))
 fresh:∀ P∈ks,H (adr P)=none
 inj:∀ P∈ks,∀ P'∈ks,adr P=adr P'→P=P'
 out:∀ P,P∉ks→r P=[]
def ZhS (r:Str→List Nat) (P:Str) (y:Nat):Str→List Nat:=fun x=>if x=P then r P ++ [y] else r x
theorem NJ.ne {H H2:Hp} {d:Addr} {ks:List Str} {adr:Str→Addr} {r:Str→List Nat} (J:NJ H H2 d ks adr r) {P:Str} (hP:P∈ks):adr P≠d:=fun e=>by
 have:=J.row P hP
 rw [e,J.dd] at this
 cases this
theorem NJ.old {H H2:Hp} {d p:Addr} {ks:List Str} {adr:Str→Addr} {r:Str→List Nat} (J:NJ H H2 d ks adr r) {P:Str} {y:Nat} (hP:P∈ks) (hp:H2 p=none) :
  NJ H (upd (upd H2 p (.lst [])) (adr P) (.lst ((r P).map nV ++ [nV y]))) d (YT ks P) adr (ZhS r P y):=by
 have ek:YT ks P=ks:=by unfold YT; rw [if_pos hP]
 rw [ek]
 have s1:=Za (o:=.lst []) hp
 refine ⟨fun b u hb=>?_,J.dn,?_,J.nd,fun Q hQ=>?_,J.fresh,J.inj,fun Q hQ=>?_⟩
 ·rw [Zj fun e=>by rw [e,J.fresh P hP] at hb; cases hb]
  exact s1 _ _ (J.sm b u hb)
 ·rw [Zj (Ne.symm (J.ne hP))]
  exact s1 _ _ J.dd
 ·unfold ZhS
  by_cases c:Q=P
  ·subst c
   rw [Zc,if_pos rfl,List.map_append]
   rfl
  ·rw [if_neg c,Zj fun e=>c (J.inj Q hQ P hP e)]
   exact s1 _ _ (J.row Q hQ)
 ·unfold ZhS
  rw [if_neg (fun e:Q=P=>hQ (e ▸ hP))]
  exact J.out Q hQ
theorem NJ.new {H H2:Hp} {d p:Addr} {ks:List Str} {adr:Str→Addr} {r:Str→List Nat} (J:NJ H H2 d ks adr r) {P:Str} {y:Nat} (hP:P∉ks) (hp:H2 p=none) :
  NJ H (upd (upd (upd H2 p (.lst [])) d (.dK (rD (ks ++ [P]) fun x=>if x=P then p else adr x))) p (.lst ([] ++ [nV y]))) d (YT ks P) (fun x=>if x=P then p else adr x) (ZhS r P y):=by
 have ek:YT ks P=ks ++ [P]:=by unfold YT; rw [if_neg hP]
 rw [ek]
 have hpd:d≠p:=fun e=>by rw [← e,J.dd] at hp; cases hp
 have hpa:∀ Q∈ks,adr Q≠p:=fun Q hQ e=>by have:=J.row Q hQ; rw [e,hp] at this; cases this
 have mm:∀ Q,Q∈ks ++ [P]→Q∈ks∨Q=P:=fun Q h=>by simpa using h
 refine ⟨fun b u hb=>?_,J.dn,?_,?_,fun Q hQ=>?_,fun Q hQ=>?_,fun Q hQ Q' hQ' e=>?_,fun Q hQ=>?_⟩
 ·have h2:=J.sm b u hb
  rw [Zj (Zl h2 hp),Zj (Zl hb J.dn),Zj (Zl h2 hp)]
  exact h2
 ·rw [Zj hpd,Zc]
 ·exact List.nodup_append.mpr ⟨J.nd,by simp,fun a ha b hb e=>by rw [List.mem_singleton.mp hb] at e; subst e; exact hP ha⟩
 ·unfold ZhS
  by_cases c:Q=P
  ·subst c
   rw [if_pos rfl,if_pos rfl,Zc,J.out Q hP]
   rfl
  ·rw [if_neg c,if_neg c]
   have hQ':Q∈ks:=(mm Q hQ).resolve_right c
   rw [Zj (hpa Q hQ'),Zj (J.ne hQ'),Zj (hpa Q hQ')]
   exact J.row Q hQ'
 ·skip
  by_cases c:Q=P
  ·rw [if_pos c]
   cases hh:H p with
   | none=>rfl
   | some u=>have:=J.sm p u hh; rw [hp] at this; cases this
  ·rw [if_neg c]
   exact J.fresh Q ((mm Q hQ).resolve_right c)
 ·skip
  by_cases c:Q=P
  ·by_cases c':Q'=P
   ·rw [c,c']
   ·rw [if_pos c,if_neg c'] at e
    exact absurd e.symm (hpa Q' ((mm Q' hQ').resolve_right c'))
  ·by_cases c':Q'=P
   ·rw [if_neg c,if_pos c'] at e
    exact absurd e (hpa Q ((mm Q hQ).resolve_right c))
   ·rw [if_neg c,if_neg c'] at e
    exact J.inj Q ((mm Q hQ).resolve_right c) Q' ((mm Q' hQ').resolve_right c') e
 ·have h1:Q∉ks:=fun z=>hQ (List.mem_append_left _ z)
  have h2:¬ Q=P:=fun z=>hQ (by simp [z])
  unfold ZhS
  rw [if_neg h2]
  exact J.out Q h1
def NoR (H:Hp) (v:V) (d:Addr) (ts:Ts) (j:Nat):L2.St→Hp→Prop:=fun σ H2=>(∃ z2:Option V,σ=[some v,some (.ref d),z2])∧∃ ks adr r,NJ H H2 d ks adr r∧ks.length≤j∧∀ P,r P=((List.range' (ts.length - j) j).filter fun i=>decide (frm ts i=P)).reverse
section
variable {P:Program} {w:World} {K:PySem.W.Frag} {mg:Str→Option Value} {base:Heap}
abbrev Y9:Stmt:=top 21
abbrev Zcj:List Str:=["ties","numbers","number"]
theorem scNumbersOut:Zn Zcj ["ties"] (Zf Y9):=⟨rfl,rfl,rfl,by decide +kernel,rfl,by decide +kernel,by decide +kernel⟩
def Zjg:Sp:=fun vs H Q _=>∃ (v:V) (ts:Ts),vs=[v]∧TiesV H v ts∧ts.length≤400∧∀ d H' ks adr,NJ H H' d ks adr (rows ts)→Q (.ref d) H'
theorem JF (D:HasDef K mg "numbers_out" Y9 ["ties"]) (B:Blt mg):FOk P w K mg base 1 "numbers_out" ["ties"] Zjg:=by
 refine D.ok scNumbersOut (fun vs H Q E h=>?_) (fun f cdv A outer s H vs Q E hr h=>?_)
 ·obtain ⟨v,ts,rfl,_⟩:=h
  rfl
 ·obtain ⟨v,ts,rfl,hV,hlen,k⟩:=h
  obtain ⟨a,vs,rfl,hs,hty⟩:=id hV
  refine ⟨_,(Ze (Zm (i:=1) scNumbersOut.nd rfl (.inl rfl) X8)
   (Ze (Yh PassesOwn.never rfl (ZeT rfl B.range (Zb (Zo YM (Zk Zq rfl B.len ZW (Zb (pv 0) Zd)) Zi) (Zb (Xb Ye Zi) (Zb (Xb Ye Zi) Zd)))) (ZG (i:=2) scNumbersOut.nd rfl (.inl rfl))
    (Zh (ZS (Xl F.plainAttrs_list F.slot_list_append F.type_list_append ZL (Zb7 (pv 1) (ZP ix_tup (ZP (Ju K) (pv 0) (pv 2) (fun _ _=>rfl)) Zi (fun _ _=>rfl)) (ZN Zd) ⟨rfl,rfl,rfl,rfl⟩) (Zb (pv 2) Zd)))))
   (Zh (Zu (pv 1))))),?_⟩
  intro d hd
  have s1:=Za (o:=.dK []) hd
  have hvl:=hty.1
  refine ⟨_,rfl,.ref a,_,rfl,Zfk (hs.same s1),_,_,rfl,rfl,_,rfl,_,rfl,_,_,rfl,⟨by omega,by omega,by decide,by decide⟩,?_⟩
  rw [show ((vs.length:Int) - 1 - (-1)).toNat=ts.length by omega]
  refine ZdL (fun j σ H2=>NoR H (.ref a) d ts j σ H2) ⟨⟨none,rfl⟩,[],fun _=>d,fun _=>[],⟨s1,hd,Zc,List.nodup_nil,(fun P h=>by cases h),(fun P h=>by cases h),(fun P h=>by cases h),fun _ _=>rfl⟩,Nat.le_refl _,fun P=>by simp⟩ ?_ ?_
  ·rintro j σ H2 hj ⟨⟨z2,rfl⟩,ks,adr,r,J,hkl,hr2⟩
   have hi:ts.length - 1 - j < ts.length:=by omega
   obtain ⟨b,sg,e1,e2⟩:=hty.at hi
   have ej:((vs.length:Int) - 1 - (j:Int))=((ts.length - 1 - j:Nat):Int):=by omega
   have hrl:∀ P,(r P).length≤j:=fun P=>by
    rw [hr2,List.length_reverse]
    have:=List.length_filter_le (fun i=>decide (frm ts i=P)) (List.range' (ts.length - j) j)
    rw [List.length_range'] at this
    exact this
   have eR:List.range' (ts.length - (j + 1)) (j + 1)=(ts.length - 1 - j) :: List.range' (ts.length - j) j:=by
    rw [List.range'_succ,show ts.length - (j + 1)=ts.length - 1 - j by omega,show ts.length - 1 - j + 1=ts.length - j by omega]
   have fin:∀ H4 adr4,NJ H H4 d (YT ks (frm ts (ts.length - 1 - j))) adr4 (ZhS r (frm ts (ts.length - 1 - j)) (ts.length - 1 - j))→NoR H (.ref a) d ts (j + 1) [some (.ref a),some (.ref d),some (.int ((vs.length:Int) - 1 - (j:Int)))] H4:=fun H4 adr4 J4=>by
    refine ⟨⟨_,rfl⟩,_,adr4,_,J4,?_,fun P=>?_⟩
    ·have:=Xv ks (frm ts (ts.length - 1 - j))
     omega
    ·rw [eR,List.filter_cons]
     unfold ZhS
     by_cases c:P=frm ts (ts.length - 1 - j)
     ·rw [if_pos c,if_pos (decide_eq_true c.symm),List.reverse_cons,← c,hr2]
     ·rw [if_neg c,if_neg (fun z=>c (of_decide_eq_true z).symm),hr2]
   refine ⟨_,rfl,d,rfl,.inl ⟨_,.inl J.dd⟩,_,rfl,_,rfl,?_⟩
   rw [ej]
   refine ZaZ ((hs.same J.sm)) e1 ⟨b,_,0,.str (frm ts (ts.length - 1 - j)),rfl,rfl,SqT.of (J.sm _ _ e2),rfl,Zg (show 0≤1000 by decide),fun p hp=>?_⟩
   rw [← ej]
   refine ⟨_,Sum.inr (frm ts (ts.length - 1 - j)),Za hp _ _ J.dd,rfl,by rw [ZeM]; exact ZC (by omega),fun v hv=>?_,fun hv=>?_⟩
   ·rw [XS] at hv
    by_cases c:frm ts (ts.length - 1 - j)∈ks
    ·rw [if_pos c] at hv
     cases hv
     have hrow:=Za (o:=.lst []) hp _ _ (J.row _ c)
     refine ⟨.inl ⟨rfl,_,SqL.of hrow⟩,_,rfl,adr _,_,.int ((vs.length:Int) - 1 - (j:Int)),rfl,rfl,hrow,?_,?_⟩
     ·rw [List.length_map]
      have:=hrl (frm ts (ts.length - 1 - j))
      exact ZC (by omega)
     ·have:=fin _ _ (J.old (y:=ts.length - 1 - j) c hp)
      rw [ej] at this ⊢
      exact this
    ·rw [if_neg c] at hv
     cases hv
   ·rw [XS] at hv
    by_cases c:frm ts (ts.length - 1 - j)∈ks
    ·rw [if_pos c] at hv
     cases hv
    ·have hpd:p≠d:=fun e=>by rw [e,J.dd] at hp; cases hp
     rw [ZhA c]
     have hl:(upd (upd H2 p (.lst [])) d (.dK (rD (ks ++ [frm ts (ts.length - 1 - j)]) fun x=>if x=frm ts (ts.length - 1 - j) then p else adr x))) p=some (.lst []):=by rw [Zj hpd,Zc]
     refine ⟨.inl ⟨rfl,_,SqL.of hl⟩,_,rfl,p,[],.int ((vs.length:Int) - 1 - (j:Int)),rfl,rfl,hl,ZC (by decide),?_⟩
     have:=fin _ _ (J.new (y:=ts.length - 1 - j) c hp)
     rw [ej] at this ⊢
     exact this
  ·rintro σ H2 ⟨⟨z2,rfl⟩,ks,adr,r,J,hkl,hr2⟩
   have er:r=rows ts:=funext fun P=>by
    rw [hr2,Nat.sub_self]
    unfold rows
    rw [List.range_eq_range']
   rw [er] at J
   exact ⟨_,rfl,k d H2 ks adr J⟩
def Zkk (H:Hp) (v:V) (X:List Nat):Prop:=∃ q,v = .ref q∧H q=some (.tup (X.map nV))
theorem ZhQ {ts:Ts} {u:Str}:∀ {Y X:List Nat},(∃ v,Ch ts u (X ++ Y) v)→∃ v,Ch ts u X v
 | [],X,h=>by rw [List.append_nil] at h; exact h
 | y :: Y,X,h=>by
  rw [show X ++ y :: Y=(X ++ [y]) ++ Y by simp] at h
  obtain ⟨v,h⟩:=ZhQ (Y:=Y) h
  exact ⟨_,h.pop.1⟩
theorem Ch.det {ts:Ts} {u v w:Str} {X:List Nat} (h:Ch ts u X v) (h':Ch ts u X w):v=w:=by
 induction h with
 | nil u=>cases h'; rfl
 | cons e h ih=>cases h' with | cons e' h'=>exact ih h'
abbrev ZeF:Stmt:=top 22
abbrev ZjO:List Str:=["ties","begin","numbers","point","number"]
theorem scIsWay:Zn ZjO ["ties","begin","numbers"] (Zf ZeF):=⟨rfl,rfl,rfl,by decide +kernel,rfl,by decide +kernel,by decide +kernel⟩
def Zem:Sp:=fun vs H Q _=>∃ (v x:V) (b:Str) (ts:Ts) (X:List Nat),vs=[v,.str b,x]∧TiesV H v ts∧Zkk H x X∧(∀ i∈X,i < ts.length)∧∀ c:Bool,(c=true↔X.length=ts.length∧∃ f,Ch ts b X f)→Q (.bl c) H
theorem Ze5 (D:HasDef K mg "is_way" ZeF ["ties","begin","numbers"]) (B:Blt mg):FOk P w K mg base 1 "is_way" ["ties","begin","numbers"] Zem:=by
 refine D.ok scIsWay (fun vs H Q E h=>?_) (fun f cdv A outer s H vs Q E hr h=>?_)
 ·obtain ⟨v,x,b,ts,X,rfl,_⟩:=h
  rfl
 ·obtain ⟨v,x,b,ts,X,rfl,⟨a,vs,rfl,hs,hty⟩,⟨q,rfl,hq⟩,hX,k⟩:=h
  refine ⟨_,(Ze (Yn (ZA ZjD (Zk Zq rfl B.len ZW (Zb (pv 2) Zd)) (Zk Zq rfl B.len ZW (Zb (pv 0) Zd)) (ZJ _)) (Zh (Zu Za5)) ZK)
   (Ze (Zm (i:=3) scIsWay.nd rfl (.inl rfl) (pv 1))
   (Ze (Yh PassesOwn.never rfl (Yi (pv 2)) (ZG (i:=4) scIsWay.nd rfl (.inl rfl))
    (Ze (Yn (ZA ZjD (ZP ix_tup (ZP (Ju K) (pv 0) (pv 4) (fun _ _=>rfl)) Zi (fun _ _=>rfl)) (pv 3) (ZJ _)) (Zh (Zu Za5)) ZK)
   (Zh (Zm (i:=3) scIsWay.nd rfl (.inl rfl) (ZP ix_tup (ZP (Ju K) (pv 0) (pv 4) (fun _ _=>rfl)) Zi (fun _ _=>rfl))))))
   (Zh (Zu Za5))))),?_⟩
  refine ⟨_,rfl,.ref q,_,rfl,.inr ⟨_,SqT.of hq,rfl⟩,_,rfl,.ref a,_,rfl,Zfk hs,rfl,_,rfl,?_⟩
  rw [List.length_map,hty.1]
  by_cases cl:X.length=ts.length
  ·refine Xx (by rw [Zdb (by rw [cl])]; rfl) ?_
   refine ⟨_,rfl,_,rfl,q,rfl,⟨_,SqT.of hq⟩,XL (K:=K) (a:=q) (xs:=X.map nV) (fun i σ H2=>(∃ (pt:Str) (z:Option V),σ=[some (.ref a),some (.str b),some (.ref q),some (.str pt),z]∧Ch ts b (X.take i) pt)∧H2=H)
    ⟨⟨b,none,rfl,.nil _⟩,rfl⟩ (fun i σ H2 _ ⟨_,e⟩=>by rw [e]; exact SqT.of hq) ?_ ?_⟩
   ·rintro i x σ H2 hi ⟨⟨pt,z,rfl,hc⟩,rfl⟩
    obtain ⟨hi',rfl⟩:=Zec hi
    have hin:=hX X[i] (List.getElem_mem hi')
    obtain ⟨b0,sg,e1,e2⟩:=hty.at hin
    have etk:X.take (i + 1)=X.take i ++ [X[i]]:=List.take_succ_eq_append_getElem hi'
    refine ⟨_,rfl,_,rfl,ZaZ hs e1 ⟨b0,_,0,.str (frm ts X[i]),rfl,rfl,SqT.of e2,rfl,_,rfl,rfl,_,rfl,?_⟩⟩
    by_cases cf:frm ts X[i]=pt
    ·refine Xx (by rw [cf]; simp) ?_
     refine ⟨_,rfl,_,rfl,ZaZ hs e1 ⟨b0,_,2,.str (tow ts X[i]),rfl,rfl,SqT.of e2,rfl,?_⟩⟩
     exact ⟨⟨tow ts X[i],_,rfl,by rw [etk]; exact hc.snoc cf⟩,rfl⟩
    ·refine X9 (by simp [cf]) (k false ⟨fun z=>(by cases z),fun z=>?_⟩)
     obtain ⟨_,f,hf⟩:=z
     have:=ZhQ (ts:=ts) (u:=b) (X:=X.take (i + 1)) (Y:=X.drop (i + 1)) ⟨f,by rw [List.take_append_drop]; exact hf⟩
     obtain ⟨f',hf'⟩:=this
     rw [etk] at hf'
     exact absurd (hf'.pop.1.det hc) cf
   ·rintro σ H2 ⟨⟨pt,z,rfl,hc⟩,rfl⟩
    rw [List.length_map,List.take_length] at hc
    exact k true ⟨fun _=>⟨cl,pt,hc⟩,fun _=>rfl⟩
  ·refine X9 (by rw [Zbq (by omega)]; rfl) (k false ⟨fun z=>(by cases z),fun z=>absurd z.1 cl⟩)
end
structure WJ (H:Hp) (d g bk:Addr) (ks:List Str) (adr:Str→Addr) (H4:Hp) (r:Str→List Nat) (G B:List Nat):Prop where
 sm:Same H H4
 dd:H4 d=some (.dK (rD ks adr))
 row:∀ P∈ks,H4 (adr P)=some (.lst ((r P).map nV))
 gg:H4 g=some (.lst (G.map nV))
 bb:H4 bk=some (.lst (B.map nV))
 gn:H g=none
 bn:H bk=none
 fresh:∀ P∈ks,H (adr P)=none
 inj:∀ P∈ks,∀ P'∈ks,adr P=adr P'→P=P'
 ag:∀ P∈ks,adr P≠g
 ab:∀ P∈ks,adr P≠bk
 gb:g≠bk
 out:∀ P,P∉ks→r P=[]
theorem WJ.same {H H4 H5:Hp} {d g bk:Addr} {ks:List Str} {adr:Str→Addr} {r:Str→List Nat} {G B:List Nat} (J:WJ H d g bk ks adr H4 r G B) (s:Same H4 H5):WJ H d g bk ks adr H5 r G B where
 sm:=J.sm.trans s
 dd:=s _ _ J.dd
 row:=fun P hP=>s _ _ (J.row P hP)
 gg:=s _ _ J.gg
 bb:=s _ _ J.bb
 gn:=J.gn
 bn:=J.bn
 fresh:=J.fresh
 inj:=J.inj
 ag:=J.ag
 ab:=J.ab
 gb:=J.gb
 out:=J.out
theorem WJ.setRow {H H4:Hp} {d g bk:Addr} {ks:List Str} {adr:Str→Addr} {r:Str→List Nat} {G B X:List Nat} {pt:Str} (J:WJ H d g bk ks adr H4 r G B) (hp:pt∈ks):WJ H d g bk ks adr (upd H4 (adr pt) (.lst (X.map nV))) (ZfZ r pt X) G B where
 sm:=fun b u hb=>by
  rw [Zj (Zl hb (J.fresh pt hp))]
  exact J.sm b u hb
 dd:=by
  rw [Zj (ZgF J.dd (J.row pt hp) (by simp))]
  exact J.dd
 row:=fun P hP=>by
  unfold ZfZ
  by_cases c:P=pt
  ·subst c
   rw [if_pos rfl,Zc]
  ·rw [if_neg c,Zj (fun e=>c (J.inj P hP pt hp e))]
   exact J.row P hP
 gg:=by
  rw [Zj (Ne.symm (J.ag pt hp))]
  exact J.gg
 bb:=by
  rw [Zj (Ne.symm (J.ab pt hp))]
  exact J.bb
 gn:=J.gn
 bn:=J.bn
 fresh:=J.fresh
 inj:=J.inj
 ag:=J.ag
 ab:=J.ab
 gb:=J.gb
 out:=fun P hP=>by
  unfold ZfZ
  rw [if_neg (fun e:P=pt=>hP (e ▸ hp))]
  exact J.out P hP
theorem WJ.setG {H H4:Hp} {d g bk:Addr} {ks:List Str} {adr:Str→Addr} {r:Str→List Nat} {G B X:List Nat} (J:WJ H d g bk ks adr H4 r G B):WJ H d g bk ks adr (upd H4 g (.lst (X.map nV))) r X B where
 sm:=fun b u hb=>by
  rw [Zj (Zl hb J.gn)]
  exact J.sm b u hb
 dd:=by
  rw [Zj (ZgF J.dd J.gg (by simp))]
  exact J.dd
 row:=fun P hP=>by
  rw [Zj (J.ag P hP)]
  exact J.row P hP
 gg:=Zc
 bb:=by
  rw [Zj (Ne.symm J.gb)]
  exact J.bb
 gn:=J.gn
 bn:=J.bn
 fresh:=J.fresh
 inj:=J.inj
 ag:=J.ag
 ab:=J.ab
 gb:=J.gb
 out:=J.out
theorem WJ.setB {H H4:Hp} {d g bk:Addr} {ks:List Str} {adr:Str→Addr} {r:Str→List Nat} {G B X:List Nat} (J:WJ H d g bk ks adr H4 r G B):WJ H d g bk ks adr (upd H4 bk (.lst (X.map nV))) r G X where
 sm:=fun b u hb=>by
  rw [Zj (Zl hb J.bn)]
  exact J.sm b u hb
 dd:=by
  rw [Zj (ZgF J.dd J.bb (by simp))]
  exact J.dd
 row:=fun P hP=>by
  rw [Zj (J.ab P hP)]
  exact J.row P hP
 gg:=by
  rw [Zj J.gb]
  exact J.gg
 bb:=Zc
 gn:=J.gn
 bn:=J.bn
 fresh:=J.fresh
 inj:=J.inj
 ag:=J.ag
 ab:=J.ab
 gb:=J.gb
 out:=J.out
theorem WJ.got {H H4:Hp} {d g bk p:Addr} {ks:List Str} {adr:Str→Addr} {r:Str→List Nat} {G B:List Nat} (J:WJ H d g bk ks adr H4 r G B) (pt:Str) (hp:H4 p=none):∃ l,(Y4 (rD ks adr) (Sum.inr pt:Key)).getD (.ref p) = .ref l∧(upd H4 p (.lst [])) l=some (.lst ((r pt).map nV)):=by
 rw [XS]
 by_cases c:pt∈ks
 ·rw [if_pos c]
  exact ⟨_,rfl,Za hp _ _ (J.row pt c)⟩
 ·rw [if_neg c]
  exact ⟨p,rfl,by rw [Zc,J.out pt c]; rfl⟩
section
variable {P:Program} {w:World} {K:PySem.W.Frag} {mg:Str→Option Value} {base:Heap}
abbrev Zez:Stmt:=top 23
abbrev ZjJ:List Str:=["ties","begin","left","gone","backwards","point","numbers"]
theorem scWayOf:Zn ZjJ ["ties","begin"] (Zf Zez):=⟨rfl,rfl,rfl,by decide +kernel,rfl,by decide +kernel,by decide +kernel⟩
def Zjf:Sp:=fun vs H Q _=>∃ (v:V) (b:Str) (ts:Ts),vs=[v,.str b]∧TiesV H v ts∧ts.length≤400∧(Eul ts b (wayX ts b)→∀ x H',Same H H'→Zkk H' x (wayX ts b)→Q x H')∧(¬ ZcF ts b→∀ H',Same H H'→Q .non H')
theorem Ze1 (D:HasDef K mg "way_of" Zez ["ties","begin"]) (B:Blt mg) (g24_:FOk P w K mg base 1 "numbers_out" ["ties"] Zjg) (g20_:FOk P w K mg base 1 "is_way" ["ties","begin","numbers"] Zem):FOk P w K mg base 2 "way_of" ["ties","begin"] Zjf:=by
 refine D.ok scWayOf (fun vs H Q E h=>?_) (fun f cdv A outer s H vs Q E hr h=>?_)
 ·obtain ⟨v,b,ts,rfl,_⟩:=h
  rfl
 ·obtain ⟨v,b,ts,rfl,hV,hlen,k1,k2⟩:=h
  have hu:=Zct hr
  obtain ⟨a,vs,rfl,hs,hty⟩:=id hV
  refine ⟨_,(Ze (Zm (i:=2) scWayOf.nd rfl (.inl rfl) (Zx g24_ hr (Zb (pv 0) Zd)))
   (Ze (Zm (i:=3) scWayOf.nd rfl (.inl rfl) (ZN Zd))
   (Ze (Zm (i:=4) scWayOf.nd rfl (.inl rfl) (ZN Zd))
   (Ze (Zm (i:=5) scWayOf.nd rfl (.inl rfl) (pv 1))
   (Ze (X7 PassesOwn.never (PW.pt (ZkO (ZA Za9 (Zk Zq rfl B.len ZW (Zb (YZ hu (pv 2) (pv 5) (ZN Zd) ⟨rfl,rfl,rfl,rfl⟩) Zd)) Zi (ZJ _)) (Zjp (ZA Za9 (Zk Zq rfl B.len ZW (Zb (pv 3) Zd)) Zi (ZJ _)))))
    (Zh (Yn (ZA Za9 (Zk Zq rfl B.len ZW (Zb (YZ hu (pv 2) (pv 5) (ZN Zd) ⟨rfl,rfl,rfl,rfl⟩) Zd)) Zi (ZJ _)) (Ze (ZS (Xl F.plainAttrs_list F.slot_list_append F.type_list_append ZL (pv 3) (Zb (Jj F.plainAttrs_list F.slot_list_pop F.type_list_pop Xd (XG hu (pv 2) (pv 5) (fun _ _=>rfl))) Zd)))
   (Zh (Zm (i:=5) scWayOf.nd rfl (.inl rfl) (ZP ix_tup (ZP (Ju K) (pv 0) (ZP ix_list (pv 3) (Xb Ye Zi) (fun _ _=>rfl)) (fun _ _=>rfl)) Zi (fun _ _=>rfl))))) (Ze (ZS (Xl F.plainAttrs_list F.slot_list_append F.type_list_append ZL (pv 4) (Zb (Jj F.plainAttrs_list F.slot_list_pop F.type_list_pop Xd (pv 3)) Zd)))
   (Zh (Zm (i:=5) scWayOf.nd rfl (.inl rfl) (ZP ix_tup (ZP (Ju K) (pv 0) (ZP ix_list (pv 4) (Xb Ye Zi) (fun _ _=>rfl)) (fun _ _=>rfl)) Zi (fun _ _=>rfl))))))))
   (Ze (Zm (i:=6) scWayOf.nd rfl (.inl rfl) (Zv ZB rfl B.tuple Yl (Zb (Zjv (pv 4) (Xb Ye Zi)) Zd)))
   (Ze (Yn (ZeP (Zx g20_ hr (Zb (pv 0) (Zb (pv 1) (Zb (pv 6) Zd))))) (Zh (Zu (pv 6))) ZK)
   (Zh (Zu Za4))))))))),?_⟩
  refine ⟨_,rfl,.ref a,ts,rfl,hV,hlen,fun d H1 ks adr J=>?_⟩
  refine ⟨Zg (show 0≤1000 by decide),fun g hg=>?_⟩
  refine ⟨Zg (show 0≤1000 by decide),fun bk hbk=>?_⟩
  have hgb:g≠bk:=fun e=>by rw [← e,Zc] at hbk; cases hbk
  have hbk1:H1 bk=none:=by rw [Zj (Ne.symm hgb)] at hbk; exact hbk
  have W0:WJ H d g bk ks adr (upd (upd H1 g (.lst [])) bk (.lst [])) (rows ts) [] []:=by
   have ss:=(Za (o:=.lst []) hg).trans (Za (o:=.lst []) hbk)
   exact ⟨J.sm.trans ss,ss _ _ J.dd,fun P hP=>ss _ _ (J.row P hP),by rw [Zj hgb,Zc]; rfl,Zc,J.sm.free hg,J.sm.free hbk1,J.fresh,J.inj,(fun P hP e=>by have:=J.row P hP; rw [e,hg] at this; cases this),(fun P hP e=>by have:=J.row P hP; rw [e,hbk1] at this; cases this),hgb,J.out⟩
  generalize upd (upd H1 g (.lst [])) bk (.lst [])=H3 at W0
  refine ⟨_,rfl,?_⟩
  try dsimp only [XY]
  show ZfY (ZaT _ _) _ _ _ _
  refine Y7 (fun σ H4=>∃ (pt:Str) (r:Str→List Nat) (BB:List Nat),σ=[some (.ref a),some (.str b),some (.ref d),some (.ref g),some (.ref bk),some (.str pt),none]∧WJ H d g bk ks adr H4 r [] BB∧WI ts b pt r [] BB∧r pt=[]∧BB.reverse=wayX ts b) (fun R hR=>?_) ?_
  ·refine ⟨fun m σ H4=>∃ (pt:Str) (r:Str→List Nat) (G BB:List Nat),σ=[some (.ref a),some (.str b),some (.ref d),some (.ref g),some (.ref bk),some (.str pt),none]∧WJ H d g bk ks adr H4 r G BB∧WI ts b pt r G BB∧m=2 * (ts.length - (G.length + BB.length)) + G.length∧wlk ts m r pt G BB=wlk ts (2 * ts.length) (rows ts) b [] [],
    ⟨_,b,rows ts,[],[],rfl,W0,WI.start (ZeI ts) (ZcT ts),rfl,by simp⟩,?_⟩
   rintro m σ H4 ⟨pt,r,G,BB,rfl,J4,hW,hm,hw⟩
   have hl4:=hW.len
   have hrl:=hW.in_len pt
   refine ⟨_,rfl,d,rfl,.inl ⟨_,.inl J4.dd⟩,_,rfl,Zg (show 0≤1000 by decide),fun p hp=>?_⟩
   have s5:=Za (o:=.lst []) hp
   obtain ⟨l,el,hl⟩:=J4.got pt hp
   have J5:=J4.same s5
   refine ⟨_,.inl ⟨_,Sum.inr pt,.inl J5.dd,rfl,rfl⟩,?_⟩
   rw [el]
   generalize upd H4 p (.lst [])=H5 at J5 hl
   clear hp s5 el J4 H4
   refine ⟨.ref l,_,rfl,.inl ⟨_,SqL.of hl,rfl⟩,_,_,rfl,rfl,_,rfl,?_⟩
   rw [List.length_map]
   rcases List.eq_nil_or_concat (r pt) with e0 | ⟨X,i,e0⟩
   ·refine Xx (by rw [e0]; simp) ?_
    refine ⟨_,rfl,.ref g,_,rfl,.inl ⟨_,SqL.of J5.gg,rfl⟩,_,_,rfl,rfl,_,rfl,?_⟩
    rw [List.length_map]
    rcases List.eq_nil_or_concat G with rfl | ⟨X,i,rfl⟩
    ·refine Xx (by simp) (hR _ _ ⟨pt,r,BB,rfl,J5,hW,e0,?_⟩)
     rw [Zf3 e0] at hw
     unfold wayX
     rw [← hw]
    ·rw [List.concat_eq_append] at *
     refine X9 (by simp) ?_
     have hi:i < ts.length:=hW.lt i (by simp)
     obtain ⟨b0,sg,f1,f2⟩:=hty.at hi
     rw [List.length_append,List.length_singleton] at hm hl4
     refine ⟨fun σ' H'=>∃ m',m' < m∧∃ (pt:Str) (r:Str→List Nat) (G BB:List Nat),σ'=[some (.ref a),some (.str b),some (.ref d),some (.ref g),some (.ref bk),some (.str pt),none]∧WJ H d g bk ks adr H' r G BB∧WI ts b pt r G BB∧m'=2 * (ts.length - (G.length + BB.length)) + G.length∧wlk ts m' r pt G BB=wlk ts (2 * ts.length) (rows ts) b [] [],fun _ _ z=>z,?_⟩
     refine ⟨_,rfl,d,rfl,.inl ⟨_,.inl J5.dd⟩,_,rfl,Zg (show 0≤1000 by decide),fun p hp=>?_⟩
     have s5:=Za (o:=.lst []) hp
     obtain ⟨l',el,hl'⟩:=J5.got pt hp
     have J6:=J5.same s5
     refine ⟨_,.inl ⟨_,Sum.inr pt,.inl J6.dd,rfl,rfl⟩,?_⟩
     rw [el]
     generalize upd H5 p (.lst [])=H6 at J6 hl'
     refine ⟨.ref l',_,rfl,.inl ⟨_,SqL.of hl',rfl⟩,_,_,rfl,rfl,_,rfl,?_⟩
     rw [List.length_map]
     refine Xx (by rw [e0]; simp) ?_
     refine ⟨_,rfl,.inl ⟨rfl,_,SqL.of J6.bb⟩,_,rfl,.inl ⟨rfl,_,SqL.of J6.gg⟩,g,_,nV i,rfl,rfl,J6.gg,by simp,?_⟩
     rw [show ((X ++ [i]).map nV).dropLast=X.map nV by rw [List.map_append,List.map_singleton,List.dropLast_concat]]
     have J7:=J6.setG (X:=X)
     refine ⟨bk,_,nV i,rfl,rfl,J7.bb,by rw [List.length_map]; exact ZC (by omega),?_⟩
     rw [show BB.map nV ++ [nV i]=(BB ++ [i]).map nV by rw [List.map_append,List.map_singleton]]
     have J8:=J7.setB (X:=BB ++ [i])
     refine ⟨_,rfl,_,rfl,_,rfl,bk,_,-1,nV i,rfl,rfl,SqL.of J8.bb,by rw [List.map_append,List.map_singleton]; exact ZfR,?_⟩
     refine ZaZ (hs.same J8.sm) f1 ⟨b0,_,0,.str (frm ts i),rfl,rfl,SqT.of (J8.sm _ _ f2),rfl,?_⟩
     refine ⟨2 * (ts.length - (X.length + (BB ++ [i]).length)) + X.length,?_,frm ts i,r,X,BB ++ [i],rfl,J8,hW.pop e0,rfl,?_⟩
     ·rw [List.length_append,List.length_singleton]
      omega
     ·rw [← hw,show m=2 * (ts.length - (X.length + (BB ++ [i]).length)) + X.length + 1 by rw [List.length_append,List.length_singleton]; omega,Zf2 e0]
   ·rw [List.concat_eq_append] at e0
    refine X9 (by rw [e0]; simp) ?_
    refine X9 rfl ?_
    have hik:i∈r pt:=by rw [e0]; simp
    have hpk:pt∈ks:=Classical.byContradiction fun c=>by rw [J5.out pt c] at hik; cases hik
    have hi:i < ts.length:=((hW.row pt i).mp hik).1
    obtain ⟨b0,sg,f1,f2⟩:=hty.at hi
    have hW2:=hW.push e0
    have hl5:=hW2.len
    rw [List.length_append,List.length_singleton] at hl5
    refine ⟨fun σ' H'=>∃ m',m' < m∧∃ (pt:Str) (r:Str→List Nat) (G BB:List Nat),σ'=[some (.ref a),some (.str b),some (.ref d),some (.ref g),some (.ref bk),some (.str pt),none]∧WJ H d g bk ks adr H' r G BB∧WI ts b pt r G BB∧m'=2 * (ts.length - (G.length + BB.length)) + G.length∧wlk ts m' r pt G BB=wlk ts (2 * ts.length) (rows ts) b [] [],fun _ _ z=>z,?_⟩
    refine ⟨_,rfl,d,rfl,.inl ⟨_,.inl J5.dd⟩,_,rfl,Zg (show 0≤1000 by decide),fun p hp=>?_⟩
    have s5:=Za (o:=.lst []) hp
    obtain ⟨l',el,hl'⟩:=J5.got pt hp
    have J6:=J5.same s5
    refine ⟨_,.inl ⟨_,Sum.inr pt,.inl J6.dd,rfl,rfl⟩,?_⟩
    rw [el]
    generalize upd H5 p (.lst [])=H6 at J6 hl'
    refine ⟨.ref l',_,rfl,.inl ⟨_,SqL.of hl',rfl⟩,_,_,rfl,rfl,_,rfl,?_⟩
    rw [List.length_map]
    refine X9 (by rw [e0]; simp) ?_
    have hrow:=J6.row pt hpk
    rw [e0] at hrow
    refine ⟨_,rfl,.inl ⟨rfl,_,SqL.of J6.gg⟩,_,rfl,_,rfl,d,.ref (adr pt),rfl,.inl ⟨_,Sum.inr pt,.inl J6.dd,rfl,by rw [XS,if_pos hpk]⟩,.inl ⟨rfl,_,SqL.of hrow⟩,adr pt,_,nV i,rfl,rfl,hrow,by simp,?_⟩
    rw [show ((X ++ [i]).map nV).dropLast=X.map nV by rw [List.map_append,List.map_singleton,List.dropLast_concat]]
    have J7:=J6.setRow (X:=X) hpk
    refine ⟨g,_,nV i,rfl,rfl,J7.gg,by rw [List.length_map]; exact ZC (by omega),?_⟩
    rw [show G.map nV ++ [nV i]=(G ++ [i]).map nV by rw [List.map_append,List.map_singleton]]
    have J8:=J7.setG (X:=G ++ [i])
    refine ⟨_,rfl,_,rfl,_,rfl,g,_,-1,nV i,rfl,rfl,SqL.of J8.gg,by rw [List.map_append,List.map_singleton]; exact ZfR,?_⟩
    refine ZaZ (hs.same J8.sm) f1 ⟨b0,_,2,.str (tow ts i),rfl,rfl,SqT.of (J8.sm _ _ f2),rfl,?_⟩
    refine ⟨2 * (ts.length - ((G ++ [i]).length + BB.length)) + (G ++ [i]).length,?_,tow ts i,ZfZ r pt X,G ++ [i],BB,rfl,J8,hW2,rfl,?_⟩
    ·rw [List.length_append,List.length_singleton]
     omega
    ·rw [← hw,show m=2 * (ts.length - ((G ++ [i]).length + BB.length)) + (G ++ [i]).length + 1 by rw [List.length_append,List.length_singleton]; omega,Zd0 e0]
  ·rintro σ H4 ⟨pt,r,BB,rfl,J4,hW,e0,ew⟩
   refine ⟨_,rfl,_,rfl,bk,_,rfl,SqL.of J4.bb,rfl,fun p hp=>?_⟩
   refine ⟨p,_,rfl,.inl ⟨SqL.of Zc,fun l hl=>?_⟩⟩
   have s5:=(J4.sm.trans (Za (o:=.lst (BB.map nV).reverse) hp)).trans (Za (o:=.tup (BB.map nV).reverse) hl)
   have hT:Zkk (upd (upd H4 p (.lst (BB.map nV).reverse)) l (.tup (BB.map nV).reverse)) (.ref l) (wayX ts b):=⟨l,rfl,by rw [Zc,← ew,List.map_reverse]⟩
   refine ⟨_,rfl,_,rfl,_,rfl,.ref a,.ref l,b,ts,wayX ts b,rfl,hV.same s5,hT,fun i hi=>?_,fun c hc=>?_⟩
   ·rw [← ew,List.mem_reverse] at hi
    exact hW.lt i (by simpa using hi)
   ·refine ⟨_,rfl,?_⟩
    cases c with
    | true =>
     obtain ⟨h1,f,h2⟩:=hc.mp rfl
     rw [← ew] at h1 h2
     rw [List.length_reverse] at h1
     have hE:=hW.eul h1 h2
     rw [ew] at hE
     exact X9 rfl ⟨_,rfl,k1 hE _ _ s5 hT⟩
    | false =>
     refine Xx rfl (k2 (fun hg=>?_) _ s5)
     have hE:=hW.done e0 hg
     rw [ew] at hE
     have:=hc.mpr ⟨by rw [hE.1.length_eq,List.length_range],hE.2⟩
     cases this
end
end Sh
namespace L2
end L2
namespace Sh
open PySem L2 PyProof.Rows
seal L2.PE L2.PS L2.PSs L2.PT L2.PW L2.PA L2.PI L2.PG L2.PGs L2.PO L2.PC L2.PCs L2.OpR L2.UnR L2.CallR L2.MtR L2.IxR L2.SlR
def TyS (H:Hp) (us:List V) (T:List Str):Prop:=us.length=T.length∧∀ (i:Nat) (x:Str),T[i]?=some x→∃ b,us[i]?=some (.ref b)∧H b=some (.tup [.str (bg x),.str (tx [lst x]),.str (en x)])
theorem TyS.same {H H':Hp} {us:List V} {T:List Str} (h:TyS H us T) (s:TSame H H'):TyS H' us T:=⟨h.1,fun i x e=>by
 obtain ⟨b,e1,e2⟩:=h.2 i x e
 exact ⟨b,e1,s _ _ e2⟩⟩
theorem TyS.rep {H:Hp} {us:List V} {T:List Str} (h:TyS H us T) {b:Addr} {x:Str} (hb:H b=some (.tup [.str (bg x),.str (tx [lst x]),.str (en x)])) (n:Nat):TyS H (us ++ List.replicate n (.ref b)) (T ++ List.replicate n x):=by
 refine ⟨by simp [h.1],fun i y e=>?_⟩
 by_cases hi:i < T.length
 ·rw [List.getElem?_append_left hi] at e
  obtain ⟨c,e1,e2⟩:=h.2 i y e
  exact ⟨c,by rw [List.getElem?_append_left (by rw [h.1]; exact hi)]; exact e1,e2⟩
 ·rw [List.getElem?_append_right (by omega)] at e
  have hm:=List.mem_of_getElem? e
  have hl:=(List.getElem?_eq_some_iff.mp e).1
  rw [List.length_replicate] at hl
  rw [(List.mem_replicate.mp hm).2]
  refine ⟨b,?_,hb⟩
  rw [List.getElem?_append_right (by rw [h.1]; omega),h.1,List.getElem?_replicate,if_pos hl]
theorem Zhd {α:Type} {l:List α} {c:α}:atI (l ++ [c]) (-1)=some c:=by
 unfold atI ixN
 rw [if_neg (by decide),if_pos (by rw [List.length_append,List.length_singleton]; omega)]
 simp only [Option.bind_some,List.length_append,List.length_singleton]
 rw [show ((-1:Int) + ((l.length + 1:Nat):Int)).toNat=l.length by omega]
 simp
theorem Zc6 {x:Str} (h:1≤x.length):atI x.cps.toList (-1)=some (lst x):=by
 rw [ZbF h]
 exact Zhd
theorem ZdM {es:Es} {n:Nat}:(ZI (es.take n)).length≤(ZI es).length:=by
 have:ZI es=ZI (es.take n) ++ ZI (es.drop n):=by
  unfold ZI
  rw [← List.flatMap_append,List.take_append_drop]
 rw [this,List.length_append]
 omega
def ZlU (H:Hp) (x:V) (ts:Ts) (b:Str):Prop:=(Eul ts b (wayX ts b)∧Zkk H x (wayX ts b))∨(¬ ZcF ts b∧x = .non)
theorem Zf1 {ts:Ts} {b:Str} {H:Hp} {Q:V→Hp→Prop} (h:∀ x H',Same H H'→ZlU H' x ts b→Q x H'):(Eul ts b (wayX ts b)→∀ x H',Same H H'→Zkk H' x (wayX ts b)→Q x H')∧(¬ ZcF ts b→∀ H',Same H H'→Q .non H') :=
 ⟨fun e x H' s t=>h x H' s (.inl ⟨e,t⟩),fun g H' s=>h .non H' s (.inr ⟨g,rfl⟩)⟩
section
variable {P:Program} {w:World} {K:PySem.W.Frag} {mg:Str→Option Value} {base:Heap}
abbrev Zag:Stmt:=top 15
abbrev ZgH:List Str:=["H","wish","begins"]
theorem scStartOf:Zn ZgH ["H","wish"] (Zf Zag):=⟨rfl,rfl,rfl,by decide +kernel,rfl,by decide +kernel,by decide +kernel⟩
def ZbS:Sp:=fun vs H Q _=>∃ (v:V) (wsh:Str) (es:Es),vs=[v,.str wsh]∧HeapV H v es∧ZfW es∧∀ H' ss,Same H H'→SPts es ss→Q (.str (Zjc wsh (ups (mo es) ss))) H'
theorem Zca (D:HasDef K mg "start_of" Zag ["H","wish"]) (B:Blt mg) (g12_:FOk P w K mg base 3 "begins_of" ["H"] Zac):FOk P w K mg base 4 "start_of" ["H","wish"] ZbS:=by
 refine D.ok scStartOf (fun vs H Q E h=>?_) (fun f cdv A outer s H vs Q E hr h=>?_)
 ·obtain ⟨v,wsh,es,rfl,_⟩:=h
  rfl
 ·obtain ⟨v,wsh,es,rfl,hV,hF,k⟩:=h
  refine ⟨_,(Ze (Zm (i:=2) scStartOf.nd rfl (.inl rfl) (Zx g12_ hr (Zb (pv 0) Zd)))
   (Ze (Yn (ZA Zap (Zk Zq rfl B.len ZW (Zb (pv 2) Zd)) Zi (ZJ _)) (Zh (Zu (pv 1))) ZK)
   (Zh (Zu (ZP ix_tup (ZP ix_tup (pv 2) Zi (fun _ _=>rfl)) Zi (fun _ _=>rfl)))))),?_⟩
  refine ⟨_,rfl,v,es,rfl,hV,hF,fun v' H1 ss s1 hv' hss=>?_⟩
  have kk:=k H1 ss s1 hss
  obtain ⟨q,us,rfl,hq,hpa⟩:=hv'
  refine ⟨_,rfl,.ref q,_,rfl,.inr ⟨_,SqT.of hq,rfl⟩,rfl,_,rfl,?_⟩
  rw [hpa.1]
  generalize ups (mo es) ss=ue at *
  cases ue with
  | nil=>exact X9 (by decide) ⟨_,rfl,kk⟩
  | cons u ue =>
   refine Xx (Zbq (by rw [List.length_cons]; omega)) ?_
   obtain ⟨b,e1,e2⟩:=hpa.2 0 u rfl
   exact ⟨_,rfl,q,us,0,.ref b,rfl,rfl,SqT.of hq,ZaD (by decide) e1,b,_,0,.str u.1,rfl,rfl,SqT.of e2,rfl,kk⟩
end
end Sh
namespace Sh
open PySem L2 PyProof.Rows
def ChP:Str→List (Str × Str)→Str→Prop
 | u,[],v=>u=v
 | u,t :: W,v=>t.1=u∧ChP t.2 W v
theorem XN {W':List (Str × Str)} {v:Str}:∀ {W:List (Str × Str)} {u m:Str},ChP u W m→ChP m W' v→ChP u (W ++ W') v
 | [],u,m,h,k=>by rw [show u=m from h]; exact k
 | t :: W,u,m,⟨h1,h2⟩,k=>⟨h1,XN h2 k⟩
theorem Zav {α β:Type} {f:α→β} {W U:List β} (h:W.Perm U):∀ {l:List α},U=l.map f→∃ X:List α,X.Perm l∧W=X.map f:=by
 induction h with
 | nil =>
  intro l e
  exact ⟨[],by rw [List.map_eq_nil_iff.mp e.symm],rfl⟩
 | cons x _ ih =>
  intro l e
  cases l with
  | nil=>cases e
  | cons a l =>
   rw [List.map_cons] at e
   injection e with e1 e2
   obtain ⟨X,p,q⟩:=ih e2
   exact ⟨a :: X,p.cons a,by rw [List.map_cons,q,e1]⟩
 | swap x y l0 =>
  intro l e
  match l,e with
  | a :: b :: l,e =>
   simp only [List.map_cons,List.cons.injEq] at e
   exact ⟨b :: a :: l,List.Perm.swap _ _ _,by rw [List.map_cons,List.map_cons,e.1,e.2.1,e.2.2]⟩
 | trans _ _ ih1 ih2 =>
  intro l e
  obtain ⟨X,p,q⟩:=ih2 e
  obtain ⟨Y,p',q'⟩:=ih1 q
  exact ⟨Y,p'.trans p,q'⟩
theorem range_getD {α:Type} (l:List α) (d:α):l=(List.range l.length).map fun i=>l.getD i d:=by
 apply List.ext_getElem?
 intro i
 rw [List.getElem?_map]
 by_cases h:i < l.length
 ·rw [List.getElem?_eq_getElem h,List.getElem?_range h,Option.map_some,List.getD_eq_getElem?_getD,List.getElem?_eq_getElem h]
  rfl
 ·rw [List.getElem?_eq_none (by omega),List.getElem?_eq_none (by simp; omega)]
  rfl
theorem ZiS {ts:Ts}:∀ {X:List Nat} {u v:Str},ChP u (X.map fun i=>ts.getD i ("","")) v→Ch ts u X v
 | [],u,v,h=>by rw [show u=v from h]; exact .nil _
 | i :: X,u,v,⟨h1,h2⟩=>.cons h1 (ZiS h2)
theorem Zdf {ts W:Ts} {b v:Str} (hp:W.Perm ts) (hc:ChP b W v):∃ X,Eul ts b X∧Ch ts b X v:=by
 obtain ⟨X,p,e⟩:=Zav hp (range_getD ts ("",""))
 rw [e] at hc
 exact ⟨X,⟨p,v,ZiS hc⟩,ZiS hc⟩
theorem ZfU {ts:Ts} {P y:Str} (h:ZiY ts P y):ZiY ts y P:=by
 obtain ⟨i,hi,h⟩:=h
 exact ⟨i,hi,h.elim (fun q=>.inr ⟨q.2,q.1⟩) fun q=>.inl ⟨q.2,q.1⟩⟩
theorem RchT.trans' {ts:Ts} {a b c:Str} (h:RchT ts a b) (k:RchT ts b c):RchT ts a c:=by
 induction k with
 | here=>exact h
 | step _ q ih=>exact .step ih q
theorem RchT.symm' {ts:Ts} {a b:Str} (h:RchT ts a b):RchT ts b a:=by
 induction h with
 | here=>exact .here
 | step _ q ih=>exact RchT.trans' (.step .here (ZfU q)) ih
def ptS (z:List Nat) (L i:Nat):Str:=tx ((z.drop i).take (L - 1))
def be (x:Str):Str × Str:=(bg x,en x)
theorem bgw {z:List Nat} {L i:Nat} (h:i + L≤z.length) (h1:1≤L):bg (tx ((z.drop i).take L))=ptS z L i:=by
 unfold bg ptS
 rw [Zr]
 congr 1
 rw [List.dropLast_eq_take,List.take_take,List.length_take,List.length_drop]
 congr 1
 omega
theorem enw {z:List Nat} {L i:Nat}:en (tx ((z.drop i).take L))=ptS z L (i + 1):=by
 unfold en ptS
 rw [Zr,List.drop_take,List.drop_drop]
theorem Z4 {z:List Nat} {L i:Nat} (h:i < z.length - L + 1):(pcs z L)[i]?=some (tx ((z.drop i).take L)):=by
 unfold pcs
 rw [List.getElem?_map,List.getElem?_range h]
 rfl
theorem ZD (z:List Nat) (L:Nat):(pcs z L).length=z.length - L + 1:=by
 unfold pcs
 rw [List.length_map,List.length_range]
theorem JM {z:List Nat} {L:Nat} (hF:Fit z L):∀ (n i:Nat),i + n≤z.length - L + 1→ChP (ptS z L i) (((pcs z L).drop i).take n |>.map be) (ptS z L (i + n))
 | 0,i,_=>by
  rw [List.take_zero]
  exact rfl
 | n + 1,i,h=>by
  have hi:i < (pcs z L).length:=by rw [ZD]; omega
  have hl:=hF.le
  rw [List.drop_eq_getElem_cons hi,List.take_succ_cons,List.map_cons]
  have e:(pcs z L)[i]=tx ((z.drop i).take L):=by
   have:=Z4 (z:=z) (L:=L) (i:=i) (by omega)
   rw [List.getElem?_eq_getElem hi] at this
   exact Option.some.inj this
  refine ⟨?_,?_⟩
  ·show bg (pcs z L)[i]=_
   rw [e,bgw (by omega) hF.one]
  ·show ChP (en (pcs z L)[i]) _ _
   rw [e,enw,show i + (n + 1)=(i + 1) + n by omega]
   exact JM hF n (i + 1) (by omega)
theorem ZV {ps:List Str} {hp:Es} (h:Zz ps hp):(ZI hp).Perm ps:=by
 rw [List.perm_iff_count]
 intro x
 have nd:=YN h
 have nn:∀ e∈hp,0≤e.2:=fun e he=>by rw [h.cnt e he]; omega
 by_cases c:x∈ps
 ·obtain ⟨e,he,rfl⟩:=List.mem_map.mp ((h.mem x).mpr c)
  have:=ZfK nd nn e he
  rw [h.cnt e he] at this
  exact Int.ofNat.inj this
 ·rw [List.count_eq_zero_of_not_mem c,List.count_eq_zero_of_not_mem fun q=>c ?_]
  unfold ZI at q
  obtain ⟨e,he,hx⟩:=List.mem_flatMap.mp q
  rw [(List.mem_replicate.mp hx).2]
  exact (h.mem _).mp (List.mem_map.mpr ⟨e,he,rfl⟩)
structure Tx (ps:List Str) (L:Nat) (z:List Nat):Prop where
 fit:Fit z L
 pm:(pcs z L).Perm ps
 cd:Cd z
 few:z.length≤20
theorem Zc4 {ps:List Str} {hp:Es} {L:Nat} {z:List Nat} (h:Tx ps L z) (hO:Zz ps hp) (p:Str):mo hp p=dl (ptS z L 0) p - dl (ptS z L (z.length - L + 1)) p:=by
 have nn:∀ e∈hp,0≤e.2:=fun e he=>by rw [hO.cnt e he]; omega
 have hc:=JM h.fit (z.length - L + 1) 0 (by omega)
 rw [List.drop_zero,List.take_of_length_le (by rw [ZD]; omega),Nat.zero_add] at hc
 have hp':((pcs z L).map be).Perm (tsE hp):=(h.pm.trans (ZV hO).symm).map be
 obtain ⟨X,hE,hX⟩:=Zdf hp' hc
 rw [← ZkV nn p,← hX.bal p]
 exact (YC hE.1 p).symm
theorem Zdw {ps:List Str} {hp:Es} {L:Nat} {z:List Nat} {ss:List Str} (h:Tx ps L z) (hO:Zz ps hp) (hS:SPts hp ss) (wsh:Str) :
  Zjc wsh (ups (mo hp) ss)=if ptS z L 0=ptS z L (z.length - L + 1) then wsh else ptS z L 0:=by
 have hm:=Zc4 h hO
 generalize ptS z L (z.length - L + 1)=f at hm
 have h0:ptS z L 0∈ss:=by
  have hl:=h.fit.le
  have hi:0 < (pcs z L).length:=by rw [ZD]; omega
  refine (hS.pts.mem _).mpr ?_
  have e:=Z4 (z:=z) (L:=L) (i:=0) (by omega)
  have m:tx ((z.drop 0).take L)∈ps:=h.pm.mem_iff.mp (List.mem_of_getElem? e)
  obtain ⟨x,hx,e2⟩:=List.mem_map.mp ((hO.mem _).mpr m)
  exact ⟨x,hx,.inl (by rw [e2,bgw (by omega) h.fit.one])⟩
 generalize ptS z L 0=b at hm h0
 by_cases c:b=f
 ·subst c
  rw [if_pos rfl]
  have:ups (mo hp) ss=[]:=by
   unfold ups
   rw [List.map_eq_nil_iff,List.filter_eq_nil_iff]
   intro x _
   rw [hm x]
   simp
  rw [this]
  rfl
 ·rw [if_neg c]
  have ha:∀ u∈ups (mo hp) ss,u.1=b:=fun u hu=>by
   unfold ups at hu
   obtain ⟨x,hx,rfl⟩:=List.mem_map.mp hu
   have:=of_decide_eq_true (List.mem_filter.mp hx).2
   rw [hm x] at this
   unfold dl at this
   by_cases q:b=x
   ·exact q.symm
   ·rw [if_neg q] at this
    split at this <;> omega
  have hne:(b,mo hp b)∈ups (mo hp) ss:=by
   unfold ups
   refine List.mem_map.mpr ⟨b,List.mem_filter.mpr ⟨h0,decide_eq_true ?_⟩,rfl⟩
   rw [hm b]
   unfold dl
   rw [if_pos rfl,if_neg fun q=>c q.symm]
   decide
  generalize ups (mo hp) ss=us at *
  cases us with
  | nil=>cases hne
  | cons u us=>exact ha u List.mem_cons_self
abbrev T3:=List (Str × Str × Str)
def Zi5 (x:Str):Str × Str × Str:=(bg x,tx [lst x],en x)
def tsT (T:T3):Ts:=T.map fun t=>(t.1,t.2.2)
def ZiD (T:T3) (X:List Nat):List Nat:=X.flatMap fun i=>(T.getD i ("","","")).2.1.cps.toList
noncomputable def tf (T:T3) (b:Str):Option Str:=by
 classical
 exact if ZcF (tsT T) b then some (tx (b.cps.toList ++ ZiD T (wayX (tsT T) b))) else none
theorem Zaa {T:T3} {b:Str} (h:ZcF (tsT T) b):tf T b=some (tx (b.cps.toList ++ ZiD T (wayX (tsT T) b))):=by
 unfold tf
 exact if_pos h
theorem ZcI {T:T3} {b:Str} (h:¬ ZcF (tsT T) b):tf T b=none:=by
 unfold tf
 exact if_neg h
noncomputable def hpl (ps:List Str):Es:=by
 classical
 exact if h:∃ hp,Zz ps hp then h.choose else []
theorem Yj {ps:List Str} {hp:Es} (h:Zz ps hp):hpl ps=hp:=by
 have e:∃ hp,Zz ps hp:=⟨hp,h⟩
 unfold hpl
 rw [dif_pos e]
 exact ZgZ e.choose_spec h
theorem Zgb {es:Es} {l m:List Str} (h:SPts es l) (k:SPts es m):l=m:=by
 refine List.Perm.eq_of_pairwise (le:=fun a b:Str=>a.cps.toList < b.cps.toList) (fun x y _ _ h1 h2=>absurd (List.lt_trans h1 h2) (List.lt_irrefl _)) (List.pairwise_map.mp h.srt) (List.pairwise_map.mp k.srt) ?_
 refine (List.perm_ext_iff_of_nodup h.pts.nd k.pts.nd).mpr fun x=>?_
 rw [h.pts.mem,k.pts.mem]
noncomputable def stF (ps:List Str) (wsh:Str):Str:=by
 classical
 exact if h:∃ ss,SPts (hpl ps) ss then Zjc wsh (ups (mo (hpl ps)) h.choose) else wsh
theorem ZcN {ps ss:List Str} {hp:Es} (h:Zz ps hp) (k:SPts hp ss) (wsh:Str):stF ps wsh=Zjc wsh (ups (mo hp) ss):=by
 have e0:=Yj h
 have e:∃ ss,SPts (hpl ps) ss:=⟨ss,by rw [e0]; exact k⟩
 unfold stF
 rw [dif_pos e]
 have:e.choose=ss:=Zgb e.choose_spec (by rw [e0]; exact k)
 rw [this,e0]
noncomputable def ZfD (ps:List Str) (p:Str):T3:=(ZI (hpl (ps.erase p))).map Zi5 ++ [(bg p,tx [lst p],p)]
noncomputable def Jb (ps:List Str) (p s:Str):T3:=(ZI (hpl ((ps.erase p).erase (en p ++ s)))).map Zi5 ++ [(bg p,tx [lst p] ++ s,en (en p ++ s))]
noncomputable def ZiO (ps:List Str) (p:Str):Option Str:=tf (ZfD ps p) (stF ps (en p))
noncomputable def ZaQ (ps:List Str) (p s:Str):Option Str:=tf (Jb ps p s) (stF ps (bg p))
noncomputable def Yf (ps:List Str) (p:Str):List (Str × Option Str):=(("" : Str),ZiO ps p) :: (nxt (hpl (ps.erase p)) (en p)).map fun e=>(e.1,ZaQ ps p e.1)
def Zcr (r:Str × Option Str):Option (Str × Str):=r.2.map fun t=>(r.1,t)
noncomputable def sb (ps:List Str) (p:Str):List (Str × Str):=(Yf ps p).filterMap Zcr
def sg (z:List Nat) (L i:Nat):Str:=tx ((z.drop (i + L)).take 1)
theorem Yu {p:Str} {A ps:List Str} (h:(p :: A).Perm ps):A.Perm (ps.erase p):=by
 have:=h.erase p
 rw [List.erase_cons_head] at this
 exact this
theorem J2 (F:List Str) (t:Str × Str × Str):tsT (F.map Zi5 ++ [t])=F.map be ++ [(t.1,t.2.2)]:=by
 unfold tsT
 rw [List.map_append,List.map_map]
 rfl
theorem Zbm {x:Str} (h:1≤x.length):lc x=tx [lst x]:=by
 unfold lc lst
 rw [List.getLastD_eq_getLast?,List.getLast?_eq_getElem?,List.getD_eq_getElem?_getD,Zy]
 rfl
theorem Zdg {x y:Str} (h:1≤x.length) (e:bg x=y):y ++ lc x=x:=by
 rw [Zbm h,← e,← tx_eta (bg x),YD,← ZbF h,tx_eta]
theorem Zfm {z:List Nat} {L i:Nat} (h1:1≤L) (h:i + 1 + L≤z.length):lc (tx ((z.drop (i + 1)).take L))=sg z L i:=by
 unfold lc sg
 rw [Zr,Zs,List.length_take,List.length_drop,List.getD_eq_getElem?_getD,List.getElem?_take,if_pos (by omega),List.getElem?_drop]
 have e:(z.drop (i + L)).take 1=[z[i + L]]:=by
  rw [List.drop_eq_getElem_cons (by omega),List.take_succ_cons,List.take_zero]
 rw [e,show i + 1 + (min L (z.length - (i + 1)) - 1)=i + L by omega,List.getElem?_eq_getElem (by omega)]
 rfl
theorem Zjj {ps:List Str} {p s t:Str} {o:Option Str} (h:(s,o)∈Yf ps p) (e:o=some t):s∈(sb ps p).map Prod.fst :=
 List.mem_map.mpr ⟨(s,t),List.mem_filterMap.mpr ⟨(s,o),h,by rw [e]; rfl⟩,rfl⟩
theorem Yk (qs:List Str):∃ hp,Zz qs hp:=by
 obtain ⟨tt,h1,h2⟩:=ZbT qs
 exact ⟨_,Zbr h1 h2⟩
theorem Zjd {l:List Str} (h:(l.map fun x=>x.cps.toList).Pairwise (· < ·)):l.Nodup :=
 (List.pairwise_map.mp h).imp fun {a b} q e=>by rw [e] at q; exact absurd q (List.lt_irrefl _)
theorem Zee (hp:Es):∃ ss,SPts hp ss:=by
 obtain ⟨tt,h1,h2⟩:=ZbT (hp.flatMap fun e=>[bg e.1,en e.1])
 have nd:=Zjd h1
 refine ⟨tt,h1,nd,fun P=>?_,?_⟩
 ·rw [h2,List.mem_flatMap]
  constructor
  ·rintro ⟨e,he,m⟩
   rcases List.mem_cons.mp m with q | q
   ·exact ⟨e,he,.inl q.symm⟩
   ·exact ⟨e,he,.inr (List.mem_singleton.mp q).symm⟩
  ·rintro ⟨e,he,q | q⟩
   ·exact ⟨e,he,by rw [q]; exact List.mem_cons_self⟩
   ·exact ⟨e,he,by rw [q]; exact List.mem_cons_of_mem _ (List.mem_singleton.mpr rfl)⟩
 ·have hl:(hp.flatMap fun e=>[bg e.1,en e.1]).length=2 * hp.length:=by
   clear h2
   induction hp with
   | nil=>rfl
   | cons e hp ih=>rw [List.flatMap_cons,List.length_append,ih]; simp only [List.length_cons,List.length_nil]; omega
  rw [← hl]
  exact Y1 nd fun x hx=>(h2 x).mp hx
section
variable {ps:List Str} {L:Nat} {z:List Nat}
theorem ZcM (h:Tx ps L z) {hp:Es} {ss:List Str} (hO:Zz ps hp) (hS:SPts hp ss) (wsh:Str):stF ps wsh=if ptS z L 0=ptS z L (z.length - L + 1) then wsh else ptS z L 0:=by
 rw [ZcN hO hS,Zdw h hO hS]
theorem YY (h:Tx ps L z) {i:Nat} (hi:i < z.length - L + 1) {p:Str} (e:(pcs z L)[i]?=some p):p=tx ((z.drop i).take L)∧bg p=ptS z L i∧en p=ptS z L (i + 1)∧p.length=L∧p∈ps:=by
 have hl:=h.fit.le
 have m:=h.pm.mem_iff.mp (List.mem_of_getElem? e)
 rw [Z4 hi] at e
 cases e
 refine ⟨rfl,bgw (by omega) h.fit.one,enw,?_,m⟩
 rw [Zs,List.length_take,List.length_drop]
 omega
theorem Zg7 (h:Tx ps L z) {p:Str} (e:(pcs z L)[z.length - L]?=some p) {hp hp1:Es} {ss:List Str} (hO:Zz ps hp) (hS:SPts hp ss) (hO1:Zz (ps.erase p) hp1):ZcF (tsT (ZfD ps p)) (stF ps (en p)):=by
 obtain ⟨e0,e1,e2,e3,e4⟩:=YY h (by omega) e
 rw [ZcM h hO hS,e2]
 have hl:=h.fit.le
 have hs:(if ptS z L 0=ptS z L (z.length - L + 1) then ptS z L (z.length - L + 1) else ptS z L 0)=ptS z L 0:=by
  split
  ·rename_i q; exact q.symm
  ·rfl
 rw [hs]
 unfold ZfD
 rw [Yj hO1,J2]
 have hc:=JM h.fit (z.length - L) 0 (by omega)
 rw [List.drop_zero,Nat.zero_add] at hc
 have hc2:ChP (ptS z L 0) ((((pcs z L).take (z.length - L)).map be) ++ [(bg p,p)]) p:=XN hc ⟨e1,rfl⟩
 have hsp:pcs z L=(pcs z L).take (z.length - L) ++ [p]:=by
  have hi:z.length - L < (pcs z L).length:=by rw [ZD]; omega
  have:=List.take_succ_eq_append_getElem hi
  rw [List.getElem?_eq_getElem hi] at e
  rw [Option.some.inj e,List.take_of_length_le (by rw [ZD]; omega)] at this
  exact this
 have hpm:((pcs z L).take (z.length - L)).Perm (ZI hp1):=by
  refine (Yu (p:=p) ?_).trans (ZV hO1).symm
  refine List.Perm.trans ?_ h.pm
  conv=>rhs; rw [hsp]
  exact (List.perm_append_singleton _ _).symm
 obtain ⟨X,hE,_⟩:=Zdf ((hpm.map be).append_right [(bg p,p)]) hc2
 exact hE.good
theorem ZdZ (h:Tx ps L z) {i:Nat} (hi:i + 1 < z.length - L + 1) {p o:Str} (e:(pcs z L)[i]?=some p) (eo:(pcs z L)[i + 1]?=some o) {hp hp2:Es} {ss:List Str} (hO:Zz ps hp) (hS:SPts hp ss) (hO2:Zz ((ps.erase p).erase o) hp2) :
  ZcF (tsT (Jb ps p (lc o))) (stF ps (bg p)):=by
 obtain ⟨e0,e1,e2,e3,e4⟩:=YY h (by omega) e
 obtain ⟨f0,f1,f2,f3,f4⟩:=YY h hi eo
 have hl:=h.fit.le
 have ho:en p ++ lc o=o:=Zdg (by have:=h.fit.one; omega) (by rw [f1,e2])
 unfold Jb
 rw [ho,Yj hO2,J2]
 have ca:=JM h.fit i 0 (by omega)
 have cb:=JM h.fit (z.length - L + 1 - (i + 2)) (i + 2) (by omega)
 rw [List.drop_zero,Nat.zero_add] at ca
 rw [List.take_of_length_le (by rw [List.length_drop,ZD]; omega),show i + 2 + (z.length - L + 1 - (i + 2))=z.length - L + 1 by omega] at cb
 have hc:ChP (ptS z L 0) (((pcs z L).take i).map be ++ ([(bg p,en o)] ++ ((pcs z L).drop (i + 2)).map be)) (ptS z L (z.length - L + 1)) :=
  XN ca (XN (m:=ptS z L (i + 2)) ⟨e1,f2⟩ cb)
 have hsp:pcs z L=(pcs z L).take i ++ (p :: o :: (pcs z L).drop (i + 2)):=by
  have h1:i < (pcs z L).length:=by rw [ZD]; omega
  have h2:i + 1 < (pcs z L).length:=by rw [ZD]; omega
  rw [List.getElem?_eq_getElem h1] at e
  rw [List.getElem?_eq_getElem h2] at eo
  conv=>lhs; rw [← List.take_append_drop i (pcs z L),List.drop_eq_getElem_cons h1,List.drop_eq_getElem_cons h2,Option.some.inj e,Option.some.inj eo]
 have hpm:((pcs z L).take i ++ (pcs z L).drop (i + 2)).Perm (ZI hp2):=by
  refine (Yu (p:=o) (Yu (p:=p) ?_)).trans (ZV hO2).symm
  refine List.Perm.trans ?_ h.pm
  conv=>rhs; rw [hsp]
  exact ((List.perm_middle (l₁:=(pcs z L).take i)).trans (List.Perm.cons p List.perm_middle)).symm
 have hpw:(((pcs z L).take i).map be ++ ([(bg p,en o)] ++ ((pcs z L).drop (i + 2)).map be)).Perm ((ZI hp2).map be ++ [(bg p,en o)]):=by
  refine List.Perm.trans ?_ ((hpm.map be).append_right _)
  rw [List.map_append,List.append_assoc]
  exact List.Perm.append_left _ List.perm_append_comm
 obtain ⟨X,hE,hX⟩:=Zdf hpw hc
 have g:=hE.good
 rw [ZcM h hO hS]
 by_cases c:ptS z L 0=ptS z L (z.length - L + 1)
 ·rw [if_pos c]
  refine ⟨⟨bg p,fun q=>?_⟩,fun j hj=>?_⟩
  ·rw [← YC hE.1 q,hX.bal q,c,Int.sub_self,Int.sub_self]
  ·have hn:(ZI hp2).length < ((ZI hp2).map be ++ [(bg p,en o)]).length:=by simp
   have k:=g.2 (ZI hp2).length hn
   have ef:frm ((ZI hp2).map be ++ [(bg p,en o)]) (ZI hp2).length=bg p:=by
    unfold frm
    rw [List.getD_eq_getElem?_getD,List.getElem?_append_right (by simp)]
    simp
   rw [ef] at k
   exact k.symm'.trans' (g.2 j hj)
 ·rw [if_neg c]
  exact g
theorem Zf8 (h:Tx ps L z) {i:Nat} (hi:i < z.length - L + 1) {p:Str} (e:(pcs z L)[i]?=some p):sg z L i∈(sb ps p).map Prod.fst:=by
 obtain ⟨hp,hO⟩:=Yk ps
 obtain ⟨ss,hS⟩:=Zee hp
 obtain ⟨hp1,hO1⟩:=Yk (ps.erase p)
 have hl:=h.fit.le
 have ho:=h.fit.one
 by_cases c:i + 1=z.length - L + 1
 ·have ei:i=z.length - L:=by omega
  subst ei
  have g:=Zaa (Zg7 h e hO hS hO1)
  have es:sg z L (z.length - L) = "":=by
   unfold sg
   rw [List.drop_of_length_le (by omega)]
   rfl
  rw [es]
  exact Zjj List.mem_cons_self g
 ·have hi2:i + 1 < z.length - L + 1:=by omega
  have eo:=Z4 (z:=z) (L:=L) (i:=i + 1) hi2
  obtain ⟨e0,e1,e2,e3,e4⟩:=YY h hi e
  obtain ⟨f0,f1,f2,f3,f4⟩:=YY h hi2 eo
  rw [← Zfm ho (by omega)]
  obtain ⟨hp2,hO2⟩:=Yk ((ps.erase p).erase (tx ((z.drop (i + 1)).take L)))
  have g:=Zaa (ZdZ h hi2 e eo hO hS hO2)
  generalize ho':tx ((z.drop (i + 1)).take L)=o at *
  have hm:o∈ps.erase p:=by
   have h1:i < (pcs z L).length:=by rw [ZD]; omega
   have h2:i + 1 < (pcs z L).length:=by rw [ZD]; omega
   have e':=e
   have eo':=eo
   rw [List.getElem?_eq_getElem h1] at e'
   rw [List.getElem?_eq_getElem h2] at eo'
   have hsp:pcs z L=(pcs z L).take i ++ (p :: o :: (pcs z L).drop (i + 2)):=by
    conv=>lhs; rw [← List.take_append_drop i (pcs z L),List.drop_eq_getElem_cons h1,List.drop_eq_getElem_cons h2,Option.some.inj e',Option.some.inj eo']
   have:((pcs z L).take i ++ (o :: (pcs z L).drop (i + 2))).Perm (ps.erase p):=by
    refine Yu (p:=p) (List.Perm.trans ?_ h.pm)
    conv=>rhs; rw [hsp]
    exact (List.perm_middle (l₁:=(pcs z L).take i)).symm
   exact this.mem_iff.mp (List.mem_append_right _ List.mem_cons_self)
  obtain ⟨x,hx,ex⟩:=List.mem_map.mp ((hO1.mem o).mpr hm)
  refine Zjj (o:=ZaQ ps p (lc o)) (List.mem_cons_of_mem _ (List.mem_map.mpr ⟨(lc o,x.2),?_,rfl⟩)) g
  unfold nxt
  rw [Yj hO1]
  refine List.mem_map.mpr ⟨x,List.mem_filter.mpr ⟨hx,decide_eq_true ?_⟩,by rw [ex]⟩
  rw [ex,f1,e2]
end
end Sh
namespace L2
theorem Ziw {X:Cx}:MtR X "list.extend" ZeL:=Zfh
end L2
namespace Sh
open PySem L2 PyProof.Rows
seal L2.PE L2.PS L2.PSs L2.PT L2.PW L2.PA L2.PI L2.PG L2.PGs L2.PO L2.PC L2.PCs L2.OpR L2.UnR L2.CallR L2.MtR L2.IxR L2.SlR
def Ze0:Option Str→V
 | some s=>.str s
 | none=>.non
def TyL (H:Hp) (us:List V) (T:T3):Prop:=us.length=T.length∧∀ (i:Nat) (t:Str × Str × Str),T[i]?=some t→∃ b,us[i]?=some (.ref b)∧H b=some (.tup [.str t.1,.str t.2.1,.str t.2.2])
theorem TyL.same {H H':Hp} {us:List V} {T:T3} (h:TyL H us T) (s:TSame H H'):TyL H' us T:=⟨h.1,fun i x e=>by
 obtain ⟨b,e1,e2⟩:=h.2 i x e
 exact ⟨b,e1,s _ _ e2⟩⟩
theorem TyL.tyA {H:Hp} {us:List V} {T:T3} (h:TyL H us T):TyA H us (tsT T):=⟨by unfold tsT; rw [h.1,List.length_map],fun i t e=>by
 unfold tsT at e
 rw [List.getElem?_map] at e
 obtain ⟨x,hx,rfl⟩:=Option.map_eq_some_iff.mp e
 obtain ⟨b,e1,e2⟩:=h.2 i x hx
 exact ⟨b,e1,_,e2⟩⟩
theorem TyL.of {H:Hp} {us:List V} {F:List Str} (h:TyS H us F):TyL H us (F.map Zi5):=⟨by rw [h.1,List.length_map],fun i t e=>by
 rw [List.getElem?_map] at e
 obtain ⟨x,hx,rfl⟩:=Option.map_eq_some_iff.mp e
 exact h.2 i x hx⟩
theorem TyL.snoc {H:Hp} {us:List V} {T:T3} (h:TyL H us T) {b:Addr} {t:Str × Str × Str} (hb:H b=some (.tup [.str t.1,.str t.2.1,.str t.2.2])):TyL H (us ++ [.ref b]) (T ++ [t]):=by
 refine ⟨by simp [h.1],fun i y e=>?_⟩
 by_cases hi:i < T.length
 ·rw [List.getElem?_append_left hi] at e
  obtain ⟨c,e1,e2⟩:=h.2 i y e
  exact ⟨c,by rw [List.getElem?_append_left (by rw [h.1]; exact hi)]; exact e1,e2⟩
 ·have hl:=(List.getElem?_eq_some_iff.mp e).1
  rw [List.length_append,List.length_singleton] at hl
  have hi':i=T.length:=by omega
  subst hi'
  rw [List.getElem?_append_right (Nat.le_refl _),Nat.sub_self] at e
  cases e
  exact ⟨b,by rw [← h.1,List.getElem?_append_right (Nat.le_refl _),Nat.sub_self]; rfl,hb⟩
theorem JR:∀ l:List Str,(Txt.join "" l).cps.toList=l.flatMap fun x=>x.cps.toList:=by
 have key:∀ l:List Str,(Str.join "" l).cps.toList=l.flatMap fun x=>x.cps.toList:=by
  intro l
  induction l with
  | nil=>rfl
  | cons c r ih =>
   cases r with
   | nil=>simp [Str.join]
   | cons d q =>
    have e:Str.join "" (c :: d :: q)=c ++ "" ++ Str.join "" (d :: q):=rfl
    have e2:("" : Str).cps.toList=[]:=rfl
    have ac:∀ a b:Str,(a ++ b).cps.toList=a.cps.toList ++ b.cps.toList:=fun a b=>by
     have:=YD a.cps.toList b.cps.toList
     rw [tx_eta,tx_eta] at this
     rw [this,Zr]
    rw [e,ac,ac,ih,e2]
    simp
 intro l
 have:Txt.join "" l=Str.join "" l:=StrLaws.glued_eq_join _ _
 rw [this,key]
theorem ZhI {H:Hp} {v:V} {hp:Es} (h:HpAt H v hp):HeapV H v hp:=by
 obtain ⟨a,xs,rfl,ha,hl,hr⟩:=Ja h
 exact ⟨a,xs,rfl,ha,hl,fun i e q=>hr i e q⟩
structure RO (ps:List Str):Prop where
 len:ps.length≤20
 one:∀ x∈ps,1≤x.length∧x.length≤20∧Cd x.cps.toList
theorem RO.erase {ps:List Str} (h:RO ps) (x:Str):RO (ps.erase x):=⟨Nat.le_trans List.length_erase_le h.len,fun y hy=>h.one y (List.mem_of_mem_erase hy)⟩
theorem RO.fine {ps:List Str} {hp:Es} (h:RO ps) (hO:Zz ps hp):ZfW hp where
 few:=by have:=ZZ hO; have:=h.len; omega
 many:=fun e he=>by
  rw [hO.cnt e he]
  have:=List.count_le_length (a:=e.1) (l:=ps)
  have:=h.len
  omega
 long:=fun e he=>by
  have:=h.one e.1 ((hO.mem _).mp (List.mem_map.mpr ⟨e,he,rfl⟩))
  omega
theorem Xs {ps:List Str} {hp:Es} (hO:Zz ps hp):(ZI hp).length=ps.length:=(ZV hO).length_eq
section
variable {P:Program} {w:World} {K:PySem.W.Frag} {mg:Str→Option Value} {base:Heap}
abbrev ZeA:Stmt:=top 10
abbrev ZjK:List Str:=["H","ties","piece","many"]
theorem scTies2:Zn ZjK ["H"] (Zf ZeA):=⟨rfl,rfl,rfl,by decide +kernel,rfl,by decide +kernel,by decide +kernel⟩
def ZbR:Sp:=fun vs H Q _=>∃ (v:V) (ps:List Str) (es:Es),vs=[v]∧Hv H v ps es∧RO ps∧∀ q us H',Same H H'→H' q=some (.lst us)→TyS H' us (ZI es)→Q (.ref q) H'
theorem ZgB (D:HasDef K mg "ties_of" ZeA ["H"]) (g11_:FOk P w K mg base 1 "begin_of" ["piece"] Zad) (g15_:FOk P w K mg base 1 "end_of" ["piece"] ZaX):FOk P w K mg base 2 "ties_of" ["H"] ZbR:=by
 refine D.ok scTies2 (fun vs H Q E h=>?_) (fun f cdv A outer s H vs Q E hr h=>?_)
 ·obtain ⟨v,ps,es,rfl,_⟩:=h
  rfl
 ·obtain ⟨v,ps,es,rfl,hV,hR,k⟩:=h
  have hFf:=hR.fine hV.of
  have htt:=Xs hV.of
  have hpl:=hR.len
  obtain ⟨q,vs,rfl,hq,hpa⟩:=ZhI hV.at_
  refine ⟨_,(Ze (Zm (i:=1) scTies2.nd rfl (.inl rfl) (ZN Zd))
   (Ze (Yh PassesOwn.never rfl (Yi (pv 0)) (Z3 2 K rfl (Zt (ZG (i:=2) scTies2.nd rfl (.inl rfl)) (Zt (ZG (i:=3) scTies2.nd rfl (.inl rfl)) Z2)))
    (Zh (ZS (Xl F.plainAttrs_list F.slot_list_extend F.type_list_extend Ziw (pv 1) (Zb (Zo ZjC (ZN (Zb (YF (Zb (Zx g11_ hr (Zb (pv 2) Zd)) (Zb (ZP XV (pv 2) (Xb Ye Zi) (fun _ _=>rfl)) (Zb (Zx g15_ hr (Zb (pv 2) Zd)) Zd)))) Zd)) (pv 3)) Zd)))))
   (Zh (Zu (pv 1))))),?_⟩
  refine ⟨Zg (show 0≤1000 by decide),fun l hl=>?_⟩
  have s1:=Za (o:=.lst []) hl
  refine ⟨_,rfl,q,rfl,⟨_,SqT.of (s1 _ _ hq)⟩,?_⟩
  refine XL (K:=K) (a:=q) (xs:=vs) (fun i σ H2=>∃ (z2 z3:Option V) (us:List V),σ=[some (.ref q),some (.ref l),z2,z3]∧Same H H2∧H2 l=some (.lst us)∧TyS H2 us (ZI (es.take i)))
   ⟨none,none,[],rfl,s1,Zc,⟨rfl,fun i x e=>by rw [List.take_zero] at e; cases e⟩⟩ (fun i σ H2 _ ⟨_,_,_,_,s2,_⟩=>SqT.of (s2 _ _ hq)) ?_ ?_
  ·rintro i x σ H2 hi ⟨z2,z3,us,rfl,s2,hl2,hty⟩
   have hiv:i < vs.length:=(List.getElem?_eq_some_iff.mp hi).1
   have hie:i < es.length:=by rw [← hpa.1]; exact hiv
   obtain ⟨b,e1,e2⟩:=hpa.2 i es[i] (List.getElem?_eq_getElem hie)
   rw [hi] at e1
   cases e1
   obtain ⟨l1,l2⟩:=hFf.long es[i] (List.getElem_mem hie)
   have hm:=hFf.many es[i] (List.getElem_mem hie)
   have het:es.take (i + 1)=es.take i ++ [es[i]]:=List.take_succ_eq_append_getElem hie
   have ht1:=ZdM (es:=es) (n:=i)
   have hul:=hty.1
   refine ⟨b,_,rfl,SqT.of (s2 _ _ e2),rfl,_,_,rfl,_,_,rfl,rfl,?_⟩
   rw [het,ZdN]
   generalize es[i]=e at *
   refine ⟨_,rfl,.inl ⟨rfl,_,SqL.of hl2⟩,_,rfl,e.1,rfl,l1,l2,_,rfl,_,rfl,e.1,_,_,rfl,rfl,ZY l2,Zc6 l1,_,rfl,e.1,rfl,l1,l2,Zg (show 3≤1000 by decide),fun t ht=>?_⟩
   have t1:=Za (o:=.tup [.str (bg e.1),.str (tx [lst e.1]),.str (en e.1)]) ht
   refine ⟨Zg (show 1≤1000 by decide),fun p hp=>?_⟩
   have t2:=Za (o:=.lst [.ref t]) hp
   refine ⟨_,rfl,p,e.2,_,rfl,rfl,Zc,by omega,by omega,Zg (by simp only [List.length_singleton]; omega),fun p2 hp2=>?_⟩
   rw [Zg6]
   have t3:=Za (o:=.lst (List.replicate e.2.toNat (V.ref t))) hp2
   have hl5:=t3 _ _ (t2 _ _ (t1 _ _ hl2))
   refine ⟨l,p2,_,_,rfl,rfl,hl5,Zc,?_,?_⟩
   ·rw [List.length_replicate]
    refine YV ?_
    omega
   have ts:=Yb (ys:=us ++ List.replicate e.2.toNat (V.ref t)) hl5
   refine ⟨_,_,_,rfl,fun b u hb=>by rw [Zj (Zl hb hl)]; exact t3 _ _ (t2 _ _ (t1 _ _ (s2 b u hb))),Zc,?_⟩
   exact ((hty.same (((t1.trans t2).trans t3).tup.trans ts)).rep (ts _ _ (t3 _ _ (t2 _ _ Zc))) _)
  ·rintro σ H2 ⟨z2,z3,us,rfl,s2,hl2,hty⟩
   rw [hpa.1,List.take_length] at hty
   exact ⟨_,rfl,k l us H2 s2 hl2 hty⟩
abbrev Xh:Stmt:=top 24
abbrev Zbj:List Str:=["ties","begin","numbers"]
theorem scTextFrom:Zn Zbj ["ties","begin"] (Zf Xh):=⟨rfl,rfl,rfl,by decide +kernel,rfl,by decide +kernel,by decide +kernel⟩
def ZkG:Sp:=fun vs H Q _=>∃ (q:Addr) (b:Str) (us:List V) (T:T3),vs=[.ref q,.str b]∧H q=some (.lst us)∧TyL H us T∧T.length≤100∧(∀ t∈T,t.2.1.length≤2)∧b.length≤100∧∀ H',Same H H'→Q (Ze0 (tf T b)) H'
theorem Zcu {α:Type} {g:α→List Nat}:∀ {l:List α},(∀ x∈l,(g x).length≤2)→(l.flatMap g).length≤2 * l.length
 | [],_=>by simp
 | x :: l,h=>by
  rw [List.flatMap_cons,List.length_append,List.length_cons]
  have:=h x List.mem_cons_self
  have:=Zcu (l:=l) fun y hy=>h y (List.mem_cons_of_mem _ hy)
  omega
theorem ZbN:∀ {l:List Str},(∀ x∈l,x.length≤2)→(l.map (·.length)).sum≤2 * l.length
 | [],_=>by simp
 | x :: l,h=>by
  rw [List.map_cons,List.sum_cons,List.length_cons]
  have:=h x List.mem_cons_self
  have:=ZbN (l:=l) fun y hy=>h y (List.mem_cons_of_mem _ hy)
  omega
theorem Zbb (D:HasDef K mg "text_from" Xh ["ties","begin"]) (B:Blt mg) (g34_:FOk P w K mg base 2 "way_of" ["ties","begin"] Zjf):FOk P w K mg base 3 "text_from" ["ties","begin"] ZkG:=by
 refine D.ok scTextFrom (fun vs H Q E h=>?_) (fun f cdv A outer s H vs Q E hr h=>?_)
 ·obtain ⟨q,b,us,T,rfl,_⟩:=h
  rfl
 ·obtain ⟨q,b,us,T,rfl,hq,hty,hT,hL,hb,k⟩:=h
  refine ⟨_,(Ze (Zm (i:=2) scTextFrom.nd rfl (.inl rfl) (Zx g34_ hr (Zb (pv 0) (Zb (pv 1) Zd))))
   (Ze (Yn (ZA ZjE (pv 2) Za4 (ZJ _)) (Zh (Zu Za4)) ZK)
   (Zh (Zu (Zo ZQ (pv 1) (Xl F.plainAttrs_str F.slot_str_join F.type_str_join Zfg Xk (Zb (ZX (Zf Xh) Zbj ["number"] [0] rfl (Yi (pv 2)) (fun _ _ _ _ _=>Yy 0) (fun _ _ _ _ _=>YL) (fun _ _ _ _ _=>(ZP (ZaC K) (ZP (ZgT K) (pv 1) (pv 0) (fun _ _=>rfl)) Zi (fun _ _=>rfl)))) Zd))))))),?_⟩
  have htl:(tsT T).length=T.length:=by unfold tsT; rw [List.length_map]
  refine ⟨_,rfl,_,rfl,.ref q,b,tsT T,rfl,⟨q,us,rfl,.inl hq,hty.tyA⟩,by rw [htl]; omega,Zf1 fun x H1 s1 hx=>?_⟩
  rcases hx with ⟨hE,qn,rfl,hqn⟩ | ⟨hn,rfl⟩
  rotate_left
  ·rw [ZcI hn] at k
   exact ⟨_,rfl,rfl,_,rfl,X9 (by simp) (k H1 s1)⟩
  rw [Zaa hE.good] at k
  have hXl:(wayX (tsT T) b).length=T.length:=by rw [hE.1.length_eq,List.length_range,htl]
  have hX:∀ i∈wayX (tsT T) b,i < T.length:=fun i hi=>by
   have:=List.mem_range.mp (hE.1.mem_iff.mp hi)
   rw [htl] at this
   exact this
  generalize wayX (tsT T) b=X at *
  refine ⟨_,rfl,rfl,_,rfl,Xx (by simp) ?_⟩
  refine ⟨_,rfl,rfl,_,rfl,qn,rfl,⟨_,SqT.of hqn⟩,Jq X.length (fun i=>(X.map nV).getD i .non) (fun i v _=>v = .str (T.getD (X.getD i 0) ("","","")).2.1) (Zg (by omega)) (fun _ _ _ _ _ r=>r) (by have:=Xq (SqT.of (K:=K) hqn); rw [List.length_map] at this; exact this) ?_ ?_⟩
  ·intro i H3 Qe hi hs kq
   rw [Zfy hi]
   have hin:=hX X[i] (List.getElem_mem hi)
   obtain ⟨b0,e1,e2⟩:=hty.2 X[i] T[X[i]] (List.getElem?_eq_getElem hin)
   refine ⟨_,rfl,_,rfl,q,us,X[i],.ref b0,rfl,rfl,SqL.of (hs _ _ (s1 _ _ hq)),Zdo e1,b0,_,1,_,rfl,rfl,SqT.of (hs _ _ (s1 _ _ e2)),rfl,kq _ _ (Same.refl _) ?_⟩
   rw [List.getD_eq_getElem?_getD (l:=X),List.getElem?_eq_getElem hi,Option.getD_some,List.getD_eq_getElem?_getD,List.getElem?_eq_getElem hin]
   rfl
  intro D1 vs1 H3 hl1 hr1 hs3 hD1 hDl1
  have ev:vs1=(X.map fun i=>(T.getD i ("","","")).2.1).map V.str:=by
   rw [List.map_map]
   refine ZhU hl1 fun i v hv c hc=>?_
   rw [hr1 i v hv,List.getD_eq_getElem?_getD (l:=X),hc]
   rfl
  rw [ev] at hDl1
  have h2:∀ x∈X.map fun i=>(T.getD i ("","","")).2.1,x.length≤2:=fun x hx=>by
   obtain ⟨i,hi,rfl⟩:=List.mem_map.mp hx
   rw [List.getD_eq_getElem?_getD,List.getElem?_eq_getElem (hX i hi)]
   exact hL _ (List.getElem_mem _)
  have hsm:=ZbN h2
  rw [List.length_map] at hsm
  refine ⟨"",D1,_,rfl,rfl,SqL.of hDl1,?_,?_⟩
  ·have:("" : Str).length=0:=rfl
   rw [this,Nat.mul_zero]
   omega
  have ej:Txt.join "" (X.map fun i=>(T.getD i ("","","")).2.1)=tx (ZiD T X):=by
   rw [← tx_eta (Txt.join _ _),JR,List.flatMap_map]
   rfl
  rw [ej]
  have hll:(ZiD T X).length≤2 * X.length:=Zcu fun i hi=>by
   rw [Zy]
   exact h2 _ (List.mem_map.mpr ⟨i,hi,rfl⟩)
  refine ⟨_,_,rfl,rfl,?_,?_⟩
  ·rw [Zs]
   refine Zg ?_
   omega
  rw [show b ++ tx (ZiD T X)=tx (b.cps.toList ++ ZiD T X) by rw [← YD,tx_eta]]
  exact k H3 (s1.trans hs3)
end
theorem ZbG (x:Str):(bg x).length=x.length - 1:=by
 unfold bg
 rw [Zs,List.length_dropLast,Zy]
theorem Zdh (x:Str):(en x).length=x.length - 1:=by
 unfold en
 rw [Zs,List.length_drop,Zy]
theorem Zef {ps ss:List Str} {hp:Es} (hR:RO ps) (hO:Zz ps hp) (hS:SPts hp ss) {wsh:Str} (hw:wsh.length≤20):(Zjc wsh (ups (mo hp) ss)).length≤20:=by
 have ha:∀ u∈ups (mo hp) ss,u.1.length≤20:=fun u hu=>by
  unfold ups at hu
  obtain ⟨x,hx,rfl⟩:=List.mem_map.mp hu
  obtain ⟨e,he,q⟩:=(hS.pts.mem x).mp (List.mem_filter.mp hx).1
  have:=(hR.one e.1 ((hO.mem _).mp (List.mem_map.mpr ⟨e,he,rfl⟩))).2.1
  show x.length≤20
  rcases q with rfl | rfl
  ·rw [ZbG]; omega
  ·rw [Zdh]; omega
 generalize ups (mo hp) ss=us at *
 cases us with
 | nil=>exact hw
 | cons u us=>exact ha u List.mem_cons_self
theorem J9 {F:List Str} {t:Str × Str × Str} (ht:t.2.1.length≤2):∀ x∈F.map Zi5 ++ [t],x.2.1.length≤2:=fun x hx=>by
 rcases List.mem_append.mp hx with q | q
 ·obtain ⟨y,_,rfl⟩:=List.mem_map.mp q
  show (tx [lst y]).length≤2
  rw [Zs]
  exact Nat.le_succ _
 ·rw [List.mem_singleton.mp q]
  exact ht
section
variable {P:Program} {w:World} {K:PySem.W.Frag} {mg:Str→Option Value} {base:Heap} {C:Addr}
abbrev Yv:Stmt:=top 30
abbrev Zas:List Str:=["H","piece","rest","last"]
theorem scTextThatEnds:Zn Zas ["H","piece"] (Zf Yv):=⟨rfl,rfl,rfl,by decide +kernel,rfl,by decide +kernel,by decide +kernel⟩
def Zhq:Sp:=fun vs H Q _=>∃ (v:V) (ps:List Str) (hp:Es) (p:Str),vs=[v,.str p]∧Hv H v ps hp∧RO ps∧p∈ps∧∀ H',Same H H'→Q (Ze0 (ZiO ps p)) H'
theorem XH (D:HasDef K mg "text_that_ends" Yv ["H","piece"]) (g21_:FOkX P w K mg base 5 "less_one" ["H","piece"] (Zab C)) (g11_:FOk P w K mg base 5 "begin_of" ["piece"] Zad) (g15_:FOk P w K mg base 5 "end_of" ["piece"] ZaX)
  (g33_:FOk P w K mg base 5 "ties_of" ["H"] ZbR) (g28_:FOk P w K mg base 5 "start_of" ["H","wish"] ZbS) (g29_:FOk P w K mg base 5 "text_from" ["ties","begin"] ZkG):FOk P w K mg base 6 "text_that_ends" ["H","piece"] Zhq:=by
 refine D.ok scTextThatEnds (fun vs H Q E h=>?_) (fun f cdv A outer s H vs Q E hr h=>?_)
 ·obtain ⟨v,ps,hp,p,rfl,_⟩:=h
  rfl
 ·obtain ⟨v,ps,hp,p,rfl,hV,hR,hm,k⟩:=h
  obtain ⟨l1,l2,_⟩:=hR.one p hm
  refine ⟨_,(Ze (Zm (i:=2) scTextThatEnds.nd rfl (.inl rfl) (JL g21_ hr (Zb (pv 0) (Zb (pv 1) Zd))))
   (Ze (Zm (i:=3) scTextThatEnds.nd rfl (.inl rfl) (YF (Zb (Zx g11_ hr (Zb (pv 1) Zd)) (Zb (ZP XV (pv 1) (Xb Ye Zi) (fun _ _=>rfl)) (Zb (pv 1) Zd)))))
   (Zh (Zu (Zx g29_ hr (Zb (Zo JN (Zx g33_ hr (Zb (pv 2) Zd)) (ZN (Zb (pv 3) Zd))) (Zb (Zx g28_ hr (Zb (pv 0) (Zb (Zx g15_ hr (Zb (pv 1) Zd)) Zd))) Zd))))))),?_⟩
  have hlen:=ZZ hV.of
  have hpl:=hR.len
  refine ⟨_,rfl,_,rfl,v,hp,ps,p,rfl,hV.at_,hV.of,by omega,.inr ⟨hm,fun v1 H1 hp1 s1 hA1 hO1=>?_⟩⟩
  refine ⟨_,rfl,p,rfl,l1,by omega,_,rfl,_,rfl,p,_,_,rfl,rfl,ZY (by omega),Zc6 l1,_,rfl,Zg (show 3≤1000 by decide),fun t ht=>?_⟩
  have t1:=Za (o:=.tup [.str (bg p),.str (tx [lst p]),.str p]) ht
  have hV1:Hv (upd H1 t (.tup [.str (bg p),.str (tx [lst p]),.str p])) v1 (ps.erase p) hp1:=Hv.same ⟨hA1,hO1⟩ t1
  refine ⟨_,rfl,v1,_,hp1,rfl,hV1,hR.erase p,fun q us H2 s2 hq hty=>?_⟩
  refine ⟨_,rfl,Zg (show 1≤1000 by decide),fun c hc=>?_⟩
  have t2:=Za (o:=.lst [.ref t]) hc
  have hul:us.length≤20:=by rw [hty.1,Xs hO1]; have:=(hR.erase p).len; omega
  refine ⟨q,c,_,_,rfl,rfl,t2 _ _ hq,Zc,Zg (by simp only [List.length_singleton]; omega),fun d hd=>?_⟩
  have t3:=Za (o:=.lst (us ++ [.ref t])) hd
  have sA:=((s1.trans t1).trans s2).trans (t2.trans t3)
  refine ⟨_,rfl,_,rfl,p,rfl,l1,by omega,v,en p,hp,rfl,ZhI (hV.same sA).at_,hR.fine hV.of,fun H3 ss s3 hS=>?_⟩
  have hst:=ZcN hV.of hS (en p)
  have hsl:=Zef hR hV.of hS (wsh:=en p) (by rw [Zdh]; omega)
  rw [← hst] at hsl ⊢
  have hkt:TSame H2 H3:=((t2.trans t3).trans s3).tup
  have hT:TyL H3 (us ++ [.ref t]) (ZfD ps p):=by
   unfold ZfD
   rw [Yj hO1]
   exact TyL.snoc ((TyL.of hty).same hkt) (hkt _ _ (s2 _ _ Zc))
  refine ⟨d,_,_,ZfD ps p,rfl,s3 _ _ Zc,hT,?_,?_,by omega,fun H4 s4=>k H4 ((sA.trans s3).trans s4)⟩
  ·rw [← hT.1,List.length_append,List.length_singleton]
   omega
  ·unfold ZfD
   exact J9 (by show (tx [lst p]).length≤2; rw [Zs]; exact Nat.le_succ _)
abbrev Je:Stmt:=top 29
abbrev Zfb:List Str:=["H","piece","sign","other","rest","both"]
theorem scTextWith:Zn Zfb ["H","piece","sign"] (Zf Je):=⟨rfl,rfl,rfl,by decide +kernel,rfl,by decide +kernel,by decide +kernel⟩
def Zhj:Sp:=fun vs H Q _=>∃ (v:V) (ps:List Str) (hp:Es) (p sg:Str),vs=[v,.str p,.str sg]∧Hv H v ps hp∧RO ps∧p∈ps∧sg.length=1∧en p ++ sg∈ps.erase p∧∀ H',Same H H'→Q (Ze0 (ZaQ ps p sg)) H'
theorem Zba (D:HasDef K mg "text_with" Je ["H","piece","sign"]) (g21_:FOkX P w K mg base 5 "less_one" ["H","piece"] (Zab C)) (g11_:FOk P w K mg base 5 "begin_of" ["piece"] Zad) (g15_:FOk P w K mg base 5 "end_of" ["piece"] ZaX)
  (g33_:FOk P w K mg base 5 "ties_of" ["H"] ZbR) (g28_:FOk P w K mg base 5 "start_of" ["H","wish"] ZbS) (g29_:FOk P w K mg base 5 "text_from" ["ties","begin"] ZkG):FOk P w K mg base 6 "text_with" ["H","piece","sign"] Zhj:=by
 refine D.ok scTextWith (fun vs H Q E h=>?_) (fun f cdv A outer s H vs Q E hr h=>?_)
 ·obtain ⟨v,ps,hp,p,sg,rfl,_⟩:=h
  rfl
 ·obtain ⟨v,ps,hp,p,sg,rfl,hV,hR,hm,hsg,hmo,k⟩:=h
  obtain ⟨l1,l2,_⟩:=hR.one p hm
  obtain ⟨m1,m2,_⟩:=(hR.erase p).one _ hmo
  refine ⟨_,(Ze (Zm (i:=3) scTextWith.nd rfl (.inl rfl) (Zo ZQ (Zx g15_ hr (Zb (pv 1) Zd)) (pv 2)))
   (Ze (Zm (i:=4) scTextWith.nd rfl (.inl rfl) (JL g21_ hr (Zb (JL g21_ hr (Zb (pv 0) (Zb (pv 1) Zd))) (Zb (pv 3) Zd))))
   (Ze (Zm (i:=5) scTextWith.nd rfl (.inl rfl) (YF (Zb (Zx g11_ hr (Zb (pv 1) Zd)) (Zb (Zo ZQ (ZP XV (pv 1) (Xb Ye Zi) (fun _ _=>rfl)) (pv 2)) (Zb (Zx g15_ hr (Zb (pv 3) Zd)) Zd)))))
   (Zh (Zu (Zx g29_ hr (Zb (Zo JN (Zx g33_ hr (Zb (pv 4) Zd)) (ZN (Zb (pv 5) Zd))) (Zb (Zx g28_ hr (Zb (pv 0) (Zb (Zx g11_ hr (Zb (pv 1) Zd)) Zd))) Zd)))))))),?_⟩
  have hlen:=ZZ hV.of
  have hpl:=hR.len
  refine ⟨_,rfl,p,rfl,l1,by omega,_,rfl,_,_,rfl,rfl,Zg (by rw [Zdh]; omega),?_⟩
  refine ⟨_,rfl,_,rfl,v,hp,ps,p,rfl,hV.at_,hV.of,by omega,.inr ⟨hm,fun v1 H1 hp1 s1 hA1 hO1=>?_⟩⟩
  have hlen1:=ZZ hO1
  have hpl1:=(hR.erase p).len
  refine ⟨_,rfl,v1,hp1,ps.erase p,en p ++ sg,rfl,hA1,hO1,by omega,.inr ⟨hmo,fun v2 H2 hp2 s2 hA2 hO2=>?_⟩⟩
  have hR2:=(hR.erase p).erase (en p ++ sg)
  refine ⟨_,rfl,p,rfl,l1,by omega,_,rfl,_,rfl,p,_,_,rfl,rfl,ZY (by omega),Zc6 l1,_,rfl,_,_,rfl,rfl,Zg (by rw [hsg]; exact (show 1 + 1≤1000 by decide)),_,rfl,en p ++ sg,rfl,m1,by omega,Zg (show 3≤1000 by decide),fun t ht=>?_⟩
  have t1:=Za (o:=.tup [.str (bg p),.str (tx [lst p] ++ sg),.str (en (en p ++ sg))]) ht
  have hV2:Hv (upd H2 t (.tup [.str (bg p),.str (tx [lst p] ++ sg),.str (en (en p ++ sg))])) v2 ((ps.erase p).erase (en p ++ sg)) hp2:=Hv.same ⟨hA2,hO2⟩ t1
  refine ⟨_,rfl,v2,_,hp2,rfl,hV2,hR2,fun q us H3 s3 hq hty=>?_⟩
  refine ⟨_,rfl,Zg (show 1≤1000 by decide),fun c hc=>?_⟩
  have t2:=Za (o:=.lst [.ref t]) hc
  have hul:us.length≤20:=by rw [hty.1,Xs hO2]; have:=hR2.len; omega
  refine ⟨q,c,_,_,rfl,rfl,t2 _ _ hq,Zc,Zg (by simp only [List.length_singleton]; omega),fun d hd=>?_⟩
  have t3:=Za (o:=.lst (us ++ [.ref t])) hd
  have sA:=(((s1.trans s2).trans t1).trans s3).trans (t2.trans t3)
  refine ⟨_,rfl,_,rfl,p,rfl,l1,by omega,v,bg p,hp,rfl,ZhI (hV.same sA).at_,hR.fine hV.of,fun H4 ss s4 hS=>?_⟩
  have hst:=ZcN hV.of hS (bg p)
  have hsl:=Zef hR hV.of hS (wsh:=bg p) (by rw [ZbG]; omega)
  rw [← hst] at hsl ⊢
  have hkt:TSame H3 H4:=((t2.trans t3).trans s4).tup
  have hT:TyL H4 (us ++ [.ref t]) (Jb ps p sg):=by
   unfold Jb
   rw [Yj hO2]
   exact TyL.snoc ((TyL.of hty).same hkt) (hkt _ _ (s3 _ _ Zc))
  refine ⟨d,_,_,Jb ps p sg,rfl,s4 _ _ Zc,hT,?_,?_,by omega,fun H5 s5=>k H5 ((sA.trans s4).trans s5)⟩
  ·rw [← hT.1,List.length_append,List.length_singleton]
   omega
  ·unfold Jb
   refine J9 ?_
   show (tx [lst p] ++ sg).length≤2
   rw [← tx_eta sg,YD,Zs,List.length_append,Zy,hsg]
   exact Nat.le_refl _
end
def RwO (H:Hp) (us:List V) (rs:List (Str × Option Str)):Prop:=us.length=rs.length∧∀ (i:Nat) r,rs[i]?=some r→∃ b,us[i]?=some (.ref b)∧H b=some (.tup [.str r.1,Ze0 r.2])
def RwS (H:Hp) (us:List V) (rs:List (Str × Str)):Prop:=us.length=rs.length∧∀ (i:Nat) r,rs[i]?=some r→∃ b,us[i]?=some (.ref b)∧H b=some (.tup [.str r.1,.str r.2])
theorem RwO.same {H H':Hp} {us:List V} {rs:List (Str × Option Str)} (h:RwO H us rs) (s:TSame H H'):RwO H' us rs:=⟨h.1,fun i x e=>by
 obtain ⟨b,e1,e2⟩:=h.2 i x e
 exact ⟨b,e1,s _ _ e2⟩⟩
theorem RwS.same {H H':Hp} {us:List V} {rs:List (Str × Str)} (h:RwS H us rs) (s:TSame H H'):RwS H' us rs:=⟨h.1,fun i x e=>by
 obtain ⟨b,e1,e2⟩:=h.2 i x e
 exact ⟨b,e1,s _ _ e2⟩⟩
theorem Zb2 {α:Type} {us:List V} {rs:List α} {R:V→α→Prop} (h:us.length=rs.length∧∀ (i:Nat) r,rs[i]?=some r→∃ u,us[i]?=some u∧R u r) {u:V} {r:α} (hb:R u r):(us ++ [u]).length=(rs ++ [r]).length∧∀ (i:Nat) x,(rs ++ [r])[i]?=some x→∃ y,(us ++ [u])[i]?=some y∧R y x:=by
 refine ⟨by simp [h.1],fun i y e=>?_⟩
 by_cases hi:i < rs.length
 ·rw [List.getElem?_append_left hi] at e
  rw [List.getElem?_append_left (by rw [h.1]; exact hi)]
  exact h.2 i y e
 ·have hl:=(List.getElem?_eq_some_iff.mp e).1
  rw [List.length_append,List.length_singleton] at hl
  have hi':i=rs.length:=by omega
  subst hi'
  rw [List.getElem?_append_right (Nat.le_refl _),Nat.sub_self] at e
  cases e
  exact ⟨u,by rw [← h.1,List.getElem?_append_right (Nat.le_refl _),Nat.sub_self]; rfl,hb⟩
theorem RwO.snoc {H:Hp} {us:List V} {rs:List (Str × Option Str)} (h:RwO H us rs) {b:Addr} {r:Str × Option Str} (hb:H b=some (.tup [.str r.1,Ze0 r.2])):RwO H (us ++ [.ref b]) (rs ++ [r]):=by
 obtain ⟨h1,h2⟩:=Zb2 (R:=fun u r=>∃ b,u = .ref b∧H b=some (.tup [.str r.1,Ze0 r.2])) ⟨h.1,fun i r e=>by
  obtain ⟨b,e1,e2⟩:=h.2 i r e
  exact ⟨_,e1,b,rfl,e2⟩⟩ (u:=.ref b) (r:=r) ⟨b,rfl,hb⟩
 exact ⟨h1,fun i x e=>by
  obtain ⟨y,e1,b,rfl,e2⟩:=h2 i x e
  exact ⟨b,e1,e2⟩⟩
theorem RwS.snoc {H:Hp} {us:List V} {rs:List (Str × Str)} (h:RwS H us rs) {b:Addr} {r:Str × Str} (hb:H b=some (.tup [.str r.1,.str r.2])):RwS H (us ++ [.ref b]) (rs ++ [r]):=by
 obtain ⟨h1,h2⟩:=Zb2 (R:=fun u r=>∃ b,u = .ref b∧H b=some (.tup [.str r.1,.str r.2])) ⟨h.1,fun i r e=>by
  obtain ⟨b,e1,e2⟩:=h.2 i r e
  exact ⟨_,e1,b,rfl,e2⟩⟩ (u:=.ref b) (r:=r) ⟨b,rfl,hb⟩
 exact ⟨h1,fun i x e=>by
  obtain ⟨y,e1,b,rfl,e2⟩:=h2 i x e
  exact ⟨b,e1,e2⟩⟩
theorem Za2 {H:Hp} {us:List V} {rs:List (Str × Option Str)} (h:RwO H us rs):∀ n,n≤rs.length→RwS H (((List.range n).filter fun i=>(rs.getD i ("",none)).2.isSome).map fun i=>us.getD i .non) ((rs.take n).filterMap Zcr)
 | 0,_=>⟨rfl,fun i r e=>by rw [List.take_zero] at e; cases e⟩
 | n + 1,hn=>by
  have ih:=Za2 h n (by omega)
  have hi:n < rs.length:=by omega
  rw [List.range_succ,List.filter_append,List.map_append,List.take_succ_eq_append_getElem hi,List.filterMap_append]
  obtain ⟨b,e1,e2⟩:=h.2 n rs[n] (List.getElem?_eq_getElem hi)
  have eg:rs.getD n ("",none)=rs[n]:=by rw [List.getD_eq_getElem?_getD,List.getElem?_eq_getElem hi]; rfl
  have eu:us.getD n .non = .ref b:=by rw [List.getD_eq_getElem?_getD,e1]; rfl
  generalize rs[n]=r at *
  obtain ⟨s,o⟩:=r
  cases o with
  | none =>
   have:[n].filter (fun i=>(rs.getD i ("",none)).2.isSome)=[]:=by rw [List.filter_cons,eg]; rfl
   rw [this]
   simp only [List.map_nil,List.append_nil,List.filterMap_cons,List.filterMap_nil,Zcr,Option.map_none]
   exact ih
  | some t =>
   have:[n].filter (fun i=>(rs.getD i ("",none)).2.isSome)=[n]:=by rw [List.filter_cons,eg]; rfl
   rw [this]
   simp only [List.map_cons,List.map_nil,List.filterMap_cons,List.filterMap_nil,Zcr,Option.map_some]
   rw [eu]
   exact ih.snoc (r:=(s,t)) e2
def TupR (H:Hp) (v:V) (rs:List (Str × Str)):Prop:=∃ q us,v = .ref q∧H q=some (.tup us)∧RwS H us rs
theorem TupR.same {H H':Hp} {v:V} {rs:List (Str × Str)} (h:TupR H v rs) (s:Same H H'):TupR H' v rs:=by
 obtain ⟨q,us,e,hq,hr⟩:=h
 exact ⟨q,us,e,s _ _ hq,hr.same s.tup⟩
theorem Zaq {hp:Es} {y:Str} {e:Str × Int} (h:e∈nxt hp y):∃ x∈hp,bg x.1=y∧e.1=lc x.1:=by
 unfold nxt at h
 obtain ⟨x,hx,rfl⟩:=List.mem_map.mp h
 have:=List.mem_filter.mp hx
 exact ⟨x,this.1,of_decide_eq_true this.2,rfl⟩
theorem Zgy (o:Option Str):(!decide (Ze0 o = .non))=o.isSome:=by
 cases o with
 | none=>rfl
 | some s=>simp [Ze0]
section
variable {P:Program} {w:World} {K:PySem.W.Frag} {mg:Str→Option Value} {base:Heap} {C:Addr}
abbrev Ym:Stmt:=top 31
abbrev XT:List Str:=["H","piece","rows","sign","many"]
theorem scSignsBehind:Zn XT ["H","piece"] (Zf Ym):=⟨rfl,rfl,rfl,by decide +kernel,rfl,by decide +kernel,by decide +kernel⟩
def ZkH:Sp:=fun vs H Q _=>∃ (v:V) (ps:List Str) (hp:Es) (p:Str),vs=[v,.str p]∧Hv H v ps hp∧RO ps∧p∈ps∧∀ v' H',Same H H'→TupR H' v' (sb ps p)→Q v' H'
theorem Jm (D:HasDef K mg "signs_behind" Ym ["H","piece"]) (B:Blt mg) (g21_:FOkX P w K mg base 6 "less_one" ["H","piece"] (Zab C)) (g15_:FOk P w K mg base 6 "end_of" ["piece"] ZaX)
  (g23_:FOk P w K mg base 6 "nexts_of" ["H","P"] Zei) (g30_:FOk P w K mg base 6 "text_that_ends" ["H","piece"] Zhq) (g31_:FOk P w K mg base 6 "text_with" ["H","piece","sign"] Zhj):FOk P w K mg base 7 "signs_behind" ["H","piece"] ZkH:=by
 refine D.ok scSignsBehind (fun vs H Q E h=>?_) (fun f cdv A outer s H vs Q E hr h=>?_)
 ·obtain ⟨v,ps,hp,p,rfl,_⟩:=h
  rfl
 ·obtain ⟨v,ps,hp,p,rfl,hV,hR,hm,k⟩:=h
  obtain ⟨l1,l2,_⟩:=hR.one p hm
  refine ⟨_,(Ze (Zm (i:=2) scSignsBehind.nd rfl (.inl rfl) (ZN (Zb (YF (Zb Xk (Zb (Zx g30_ hr (Zb (pv 0) (Zb (pv 1) Zd))) Zd))) Zd)))
   (Ze (Yh PassesOwn.never rfl (Yi (Zx g23_ hr (Zb (JL g21_ hr (Zb (pv 0) (Zb (pv 1) Zd))) (Zb (Zx g15_ hr (Zb (pv 1) Zd)) Zd)))) (Z3 2 K rfl (Zt (ZG (i:=3) scSignsBehind.nd rfl (.inl rfl)) (Zt (ZG (i:=4) scSignsBehind.nd rfl (.inl rfl)) Z2)))
    (Zh (ZS (Xl F.plainAttrs_list F.slot_list_append F.type_list_append ZL (pv 2) (Zb (YF (Zb (pv 3) (Zb (Zx g31_ hr (Zb (pv 0) (Zb (pv 1) (Zb (pv 3) Zd)))) Zd))) Zd)))))
   (Zh (Zu (Zv ZB rfl B.tuple Yl (Zb (ZX (Zf Ym) XT ["row"] [] rfl (Ji (pv 2)) (fun _ _ _ _ _=>Yy 0) (fun _ _ _ _ _=>Zao (ZA Zik (ZP (ZaC K) (pv 0) Zi (fun _ _=>rfl)) Za4 (ZJ _))) (fun _ _ _ _ _=>(pv 0))) Zd)))))),?_⟩
  have hlen:=ZZ hV.of
  have hpl:=hR.len
  refine ⟨_,rfl,_,rfl,v,ps,hp,p,rfl,hV,hR,hm,fun H1 s1=>?_⟩
  refine ⟨Zg (show 2≤1000 by decide),fun t ht=>?_⟩
  have t1:=Za (o:=.tup [.str ("" : Str),Ze0 (ZiO ps p)]) ht
  refine ⟨Zg (show 1≤1000 by decide),fun l hl=>?_⟩
  have t2:=Za (o:=.lst [.ref t]) hl
  have sA:=(s1.trans t1).trans t2
  have hV2:=hV.same sA
  refine ⟨_,rfl,_,rfl,v,hp,ps,p,rfl,hV2.at_,hV2.of,by omega,.inr ⟨hm,fun v1 H3 hp1 s3 hA1 hO1=>?_⟩⟩
  have hR1:=hR.erase p
  refine ⟨_,rfl,p,rfl,l1,by omega,v1,hp1,en p,rfl,ZhI hA1,hR1.fine hO1,fun v2 H4 s4 hv2=>?_⟩
  obtain ⟨qn,us,rfl,hqn,hpa⟩:=hv2
  have s24:=s3.trans s4
  have sB:=sA.trans s24
  have hll:H4 l=some (.lst [.ref t]):=s24 _ _ Zc
  have htt:H4 t=some (.tup [.str ("" : Str),Ze0 (ZiO ps p)]):=s24 _ _ (t2 _ _ Zc)
  have hlH:H l=none:=by
   cases e:H l with
   | none=>rfl
   | some o=>rw [(s1.trans t1) _ _ e] at hl; cases hl
  refine ⟨qn,rfl,⟨_,SqT.of hqn⟩,?_⟩
  refine XL (K:=K) (a:=qn) (xs:=us) (fun i σ H2=>∃ (z3 z4:Option V) (ws:List V),σ=[some v,some (.str p),some (.ref l),z3,z4]∧Same H H2∧TSame H4 H2∧H2 l=some (.lst ws)∧RwO H2 ws ((("" : Str),ZiO ps p) :: ((nxt hp1 (en p)).take i).map fun e=>(e.1,ZaQ ps p e.1)))
   ⟨none,none,[.ref t],rfl,sB,(Same.refl _).tup,hll,rfl,fun i r e=>?_⟩ (fun i σ H2 _ ⟨_,_,_,_,_,ts,_⟩=>SqT.of (ts _ _ hqn)) ?_ ?_
  ·rw [List.take_zero,List.map_nil] at e
   cases i with
   | zero=>cases e; exact ⟨t,rfl,htt⟩
   | succ i=>cases e
  ·rintro i x σ H2 hi ⟨z3,z4,ws,rfl,sC,tC,hlw,hrw⟩
   have hiv:i < us.length:=(List.getElem?_eq_some_iff.mp hi).1
   have hie:i < (nxt hp1 (en p)).length:=by rw [← hpa.1]; exact hiv
   obtain ⟨b,e1,e2⟩:=hpa.2 i (nxt hp1 (en p))[i] (List.getElem?_eq_getElem hie)
   rw [hi] at e1
   cases e1
   obtain ⟨y,hy,by1,by2⟩:=Zaq (List.getElem_mem hie)
   have hyp:y.1∈ps.erase p:=(hO1.mem _).mp (List.mem_map.mpr ⟨y,hy,rfl⟩)
   obtain ⟨y1,y2,_⟩:=hR1.one _ hyp
   have het:(nxt hp1 (en p)).take (i + 1)=(nxt hp1 (en p)).take i ++ [(nxt hp1 (en p))[i]]:=List.take_succ_eq_append_getElem hie
   have hnl:(nxt hp1 (en p)).length≤20:=by
    unfold nxt
    rw [List.length_map]
    have:=List.length_filter_le (fun e:Str × Int=>decide (bg e.1=en p)) hp1
    have:=ZZ hO1
    have:=hR1.len
    omega
   rw [het,List.map_append]
   generalize (nxt hp1 (en p))[i]=e at *
   have hwl:=hrw.1
   rw [List.length_cons,List.length_map,List.length_take] at hwl
   refine ⟨b,_,rfl,SqT.of (tC _ _ e2),rfl,_,_,rfl,_,_,rfl,rfl,?_⟩
   refine ⟨_,rfl,.inl ⟨rfl,_,SqL.of hlw⟩,_,rfl,_,rfl,_,rfl,_,rfl,v,ps,hp,p,e.1,rfl,hV.same sC,hR,hm,by rw [by2]; rfl,by rw [by2,Zdg y1 by1]; exact hyp,fun H5 s5=>?_⟩
   refine ⟨Zg (show 2≤1000 by decide),fun c hc=>?_⟩
   have t5:=Za (o:=.tup [.str e.1,Ze0 (ZaQ ps p e.1)]) hc
   have hl5:=t5 _ _ (s5 _ _ hlw)
   refine ⟨l,ws,_,rfl,rfl,hl5,Zg (by omega),?_⟩
   have ts:=Yb (ys:=ws ++ [.ref c]) hl5
   refine ⟨_,_,_,rfl,fun b u hb=>by rw [Zj (Zl hb hlH)]; exact t5 _ _ (s5 _ _ (sC b u hb)),((tC.trans s5.tup).trans t5.tup).trans ts,Zc,?_⟩
   exact ((hrw.same ((s5.tup.trans t5.tup).trans ts)).snoc (r:=(e.1,ZaQ ps p e.1)) (ts _ _ Zc))
  ·rintro σ H2 ⟨z3,z4,ws,rfl,sC,tC,hlw,hrw⟩
   rw [hpa.1,List.take_length] at hrw
   have erw:(("" : Str),ZiO ps p) :: ((nxt hp1 (en p)).map fun e=>(e.1,ZaQ ps p e.1))=Yf ps p:=by
    unfold Yf
    rw [Yj hO1]
   rw [erw] at hrw
   have hnl:(nxt hp1 (en p)).length≤20:=by
    unfold nxt
    rw [List.length_map]
    have:=List.length_filter_le (fun e:Str × Int=>decide (bg e.1=en p)) hp1
    have:=ZZ hO1
    have:=hR1.len
    omega
   have hwl:=hrw.1
   have hrl:(Yf ps p).length≤21:=by rw [← erw,List.length_cons,List.length_map]; omega
   refine ⟨_,rfl,l,rfl,⟨_,SqL.of hlw⟩,ZiB ws.length (fun i=>ws.getD i .non) (fun i=>((Yf ps p).getD i ("",none)).2.isSome) (Zg (by omega)) (Zfs (SqL.of hlw)) ?_ ?_⟩
   ·intro i H5 Qt Qf hi hs ht hf
    have hie:i < (Yf ps p).length:=by rw [← hwl]; exact hi
    obtain ⟨b,e1,e2⟩:=hrw.2 i (Yf ps p)[i] (List.getElem?_eq_getElem hie)
    have eg:(Yf ps p).getD i ("",none)=(Yf ps p)[i]:=by rw [List.getD_eq_getElem?_getD,List.getElem?_eq_getElem hie]; rfl
    have eu:ws.getD i .non = .ref b:=by rw [List.getD_eq_getElem?_getD,e1]; rfl
    rw [eg] at ht hf
    rw [eu] at ht ⊢
    refine ⟨_,rfl,b,_,1,_,rfl,rfl,SqT.of (hs _ _ e2),rfl,rfl,_,rfl,?_⟩
    rw [Zgy]
    cases c:((Yf ps p)[i]).2.isSome with
    | true=>exact ZkZ ⟨_,rfl,ht c⟩
    | false=>exact Zi0 (hf c)
   ·intro D1 H5 hs hD1 hDl
    refine ⟨D1,_,rfl,.inl ⟨SqL.of hDl,fun q hq=>?_⟩⟩
    have t6:=Za (o:=.tup (((List.range ws.length).filter fun i=>((Yf ps p).getD i ("",none)).2.isSome).map fun i=>ws.getD i .non)) hq
    refine k _ _ ((sC.trans hs).trans t6) ⟨q,_,rfl,Zc,?_⟩
    have hk:=Za2 (hrw.same (hs.trans t6).tup) (Yf ps p).length (Nat.le_refl _)
    rw [List.take_length,← hwl] at hk
    exact hk
end
end Sh
namespace Sh
open PySem L2 PyProof.Rows
def rv (x:Str):Str:=tx x.cps.toList.reverse
theorem Zib (x:Str):rv (rv x)=x:=by
 unfold rv
 rw [Zr,List.reverse_reverse,tx_eta]
theorem Zhx {x y:Str} (h:rv x=rv y):x=y:=by rw [← Zib x,h,Zib]
theorem ZiR {z:List Nat} {i L:Nat} (h:i + L≤z.length):(z.reverse.drop i).take L=((z.drop (z.length - i - L)).take L).reverse:=by
 rw [List.drop_reverse,List.take_reverse,List.drop_take,List.length_take,show min (z.length - i) z.length - L=z.length - i - L by omega,show z.length - i - (z.length - i - L)=L by omega]
theorem Zij {z:List Nat} {L:Nat} (h:Fit z L):pcs z.reverse L=((pcs z L).map rv).reverse:=by
 have hl:=h.le
 apply List.ext_getElem?
 intro i
 by_cases hi:i < z.length - L + 1
 ·rw [Z4 (by rw [List.length_reverse]; exact hi),List.getElem?_reverse (by rw [List.length_map,ZD]; exact hi),List.getElem?_map,List.length_map,ZD,Z4 (by omega),Option.map_some,ZiR (by omega)]
  unfold rv
  rw [Zr,show z.length - L + 1 - 1 - i=z.length - i - L by omega]
 ·rw [List.getElem?_eq_none (by rw [ZD,List.length_reverse]; omega),List.getElem?_eq_none (by rw [List.length_reverse,List.length_map,ZD]; omega)]
theorem Tx.rev {ps:List Str} {L:Nat} {z:List Nat} (h:Tx ps L z):Tx (ps.map rv) L z.reverse where
 fit:=⟨h.fit.one,by rw [List.length_reverse]; exact h.fit.le⟩
 pm:=by
  rw [Zij h.fit]
  exact (List.reverse_perm _).trans (h.pm.map rv)
 cd:=fun c hc=>h.cd c (List.mem_reverse.mp hc)
 few:=by rw [List.length_reverse]; exact h.few
theorem Tx.ro {ps:List Str} {L:Nat} {z:List Nat} (h:Tx ps L z):RO ps where
 len:=by
  rw [← h.pm.length_eq,ZD]
  have:=h.few
  have:=h.fit.one
  have:=h.fit.le
  omega
 one:=fun x hx=>by
  have hm:=h.pm.mem_iff.mpr hx
  unfold pcs at hm
  obtain ⟨i,hi,rfl⟩:=List.mem_map.mp hm
  have:=List.mem_range.mp hi
  have hl:=h.fit.le
  have:=h.fit.one
  have:=h.few
  rw [Zs,Zr,List.length_take,List.length_drop]
  exact ⟨by omega,by omega,fun c hc=>h.cd c (List.mem_of_mem_drop (List.mem_of_mem_take hc))⟩
theorem Tx.at {ps:List Str} {L:Nat} {z:List Nat} (h:Tx ps L z) {p:Str} (hp:p∈ps):∃ i,i < z.length - L + 1∧(pcs z L)[i]?=some p:=by
 obtain ⟨i,hi⟩:=List.mem_iff_getElem?.mp (h.pm.mem_iff.mpr hp)
 have:=(List.getElem?_eq_some_iff.mp hi).1
 rw [ZD] at this
 exact ⟨i,this,hi⟩
theorem Tx.len {ps:List Str} {L:Nat} {z:List Nat} (h:Tx ps L z) {p:Str} (hp:p∈ps):p.length=L:=by
 obtain ⟨i,hi,e⟩:=h.at hp
 exact (YY h hi e).2.2.2.1
def Zw (L:Nat) (y:List Nat):List Nat:=y.drop (y.length - L)
end Sh
namespace Sh
open PySem L2 PyProof.Rows
seal L2.PE L2.PS L2.PSs L2.PT L2.PW L2.PA L2.PI L2.PG L2.PGs L2.PO L2.PC L2.PCs L2.OpR L2.UnR L2.CallR L2.MtR L2.IxR L2.SlR
theorem Zjo {es:Es} (hp:∀ e∈es,1≤e.2) {a y:Str} (h:RchT (tsE es) a y):Rch es a y:=by
 induction h with
 | here=>exact .here
 | step _ k ih=>exact .step ih ((Zlb hp _ _).mp k)
theorem Zdc {ps:List Str} {hp:Es} (hO:Zz ps hp):∀ e∈hp,1≤e.2:=fun e he=>by
 rw [hO.cnt e he]
 have:1≤ps.count e.1:=List.count_pos_iff.mpr ((hO.mem _).mp (List.mem_map.mpr ⟨e,he,rfl⟩))
 omega
theorem Zdv {ps:List Str} {hp:Es} {L:Nat} {z:List Nat} (h:Tx ps L z) (hO:Zz ps hp):∃ b,∀ e∈hp,RchT (tsE hp) b (bg e.1):=by
 have hc:=JM h.fit (z.length - L + 1) 0 (by omega)
 rw [List.drop_zero,List.take_of_length_le (by rw [ZD]; omega),Nat.zero_add] at hc
 obtain ⟨X,hE,_⟩:=Zdf ((h.pm.trans (ZV hO).symm).map be) hc
 refine ⟨ptS z L 0,fun e he=>?_⟩
 have hm:e.1∈ZI hp:=(Jy (Zdc hO) _).mpr ⟨e,he,rfl⟩
 obtain ⟨i,hi,ei⟩:=Zc5 hm
 have:=hE.good.2 i (by show i < (tsE hp).length; rw [ZbL]; exact hi)
 rw [← ei,← ZiL hi]
 exact this
theorem ZbM {ps ss:List Str} {hp:Es} {L:Nat} {z:List Nat} (h:Tx ps L z) (hO:Zz ps hp) (hS:SPts hp ss):¬ 1 < sm (ups (mo hp) ss):=by
 rw [Zht]
 have h1:Zea ss (fun p=>ZkP (mo hp p))≤Zea ss (dl (ptS z L 0)):=ZbP fun p _=>by
  rw [Zc4 h hO p]
  have:=Zg8 (ptS z L 0) p
  have:=Zg8 (ptS z L (z.length - L + 1)) p
  unfold ZkP
  split <;> omega
 have h0:ptS z L 0∈ss:=by
  have hl:=h.fit.le
  refine (hS.pts.mem _).mpr ?_
  have e:=Z4 (z:=z) (L:=L) (i:=0) (by omega)
  have m:tx ((z.drop 0).take L)∈ps:=h.pm.mem_iff.mp (List.mem_of_getElem? e)
  obtain ⟨x,hx,e2⟩:=List.mem_map.mp ((hO.mem _).mpr m)
  exact ⟨x,hx,.inl (by rw [e2,bgw (by omega) h.fit.one])⟩
 rw [Zh1 hS.pts.nd h0] at h1
 omega
theorem Zfw {ps:List Str} {hp:Es} (hO:Zz ps hp) (hne:ps≠[]):∃ e es,hp=e :: es:=by
 cases hp with
 | nil=>exact absurd ((Zj4 hO).mp rfl) hne
 | cons e es=>exact ⟨e,es,rfl⟩
theorem Tx.ne {ps:List Str} {L:Nat} {z:List Nat} (h:Tx ps L z):ps≠[]:=fun e=>by
 have:=h.pm.length_eq
 rw [e,ZD] at this
 cases this
section
variable {P:Program} {w:World} {K:PySem.W.Frag} {mg:Str→Option Value} {base:Heap} {C C2:Addr} {bm bm2:List Value}
abbrev X4:Stmt:=top 26
abbrev Zc1:List Str:=["H"]
theorem Zew:Zn Zc1 ["H"] (Zf X4):=⟨rfl,rfl,rfl,by decide +kernel,rfl,by decide +kernel,by decide +kernel⟩
def Zek:Sp:=fun vs H Q _=>∃ (v:V) (es:Es),vs=[v]∧HeapV H v es∧ZfW es∧∀ H' ss,Same H H'→SPts es ss→Q (.bl (decide (1 < sm (ups (mo es) ss)))) H'
theorem Zbe (D:HasDef K mg "has_many_begins" X4 ["H"]) (B:Blt mg) (g12_:FOk P w K mg base 3 "begins_of" ["H"] Zac):FOk P w K mg base 4 "has_many_begins" ["H"] Zek:=by
 refine D.ok Zew (fun vs H Q E h=>?_) (fun f cdv A outer s H vs Q E hr h=>?_)
 ·obtain ⟨v,es,rfl,_⟩:=h
  rfl
 ·obtain ⟨v,es,rfl,hV,hF,k⟩:=h
  refine ⟨_,(Zh (Zu (ZeW Za9 (Zk (ZfN rfl) rfl B.sum Zke (Zb (ZX (Zf X4) Zc1 ["point","more"] [] rfl (Yi (Zx g12_ hr (Zb (pv 0) Zd))) (fun _ _ _ _ _=>Z3 2 K rfl (Zt (Yy 0) (Zt (Yy 1) Z2))) (fun _ _ _ _ _=>YL) (fun _ _ _ _ _=>(pv 1))) Zd)) Zi (ZJ _)))),?_⟩
  refine ⟨_,rfl,v,es,rfl,hV,hF,fun v' H1 ss s1 hv' hss=>?_⟩
  obtain ⟨b1,b2,b3⟩:=Zf5 hF (f:=mo es) (fun _=>rfl) hss
  obtain ⟨q,us,rfl,hq,hpa⟩:=hv'
  refine ⟨q,rfl,⟨_,SqT.of hq⟩,ZjV rfl hq hpa b3 fun D1 H2 s2 hD=>?_⟩
  exact ⟨D1,_,rfl,SqL.of hD,b1,b2,_,_,rfl,rfl,k H2 ss (s1.trans s2) hss⟩
abbrev Zak:Stmt:=top 27
abbrev ZgL:List Str:=["H"]
theorem Zev:Zn ZgL ["H"] (Zf Zak):=⟨rfl,rfl,rfl,by decide +kernel,rfl,by decide +kernel,by decide +kernel⟩
def Zhp:Sp:=fun vs H Q _=>∃ (v:V) (ps:List Str) (hp:Es) (L:Nat) (z:List Nat),vs=[v]∧Hv H v ps hp∧Tx ps L z∧∀ H',Same H H'→Q (.bl true) H'
theorem Zcf (D:HasDef K mg "has_text" Zak ["H"]) (B:Blt mg) (g16_:FOk P w K mg base 4 "hangs" ["H"] Zen) (g17_:FOk P w K mg base 4 "has_many_begins" ["H"] Zek):FOk P w K mg base 5 "has_text" ["H"] Zhp:=by
 refine D.ok Zev (fun vs H Q E h=>?_) (fun f cdv A outer s H vs Q E hr h=>?_)
 ·obtain ⟨v,ps,hp,L,z,rfl,_⟩:=h
  rfl
 ·obtain ⟨v,ps,hp,L,z,rfl,hV,hT,k⟩:=h
  refine ⟨_,(Zh (Zu (Zjz (Zx g16_ hr (Zb (pv 0) Zd)) (Zjw (Zjx (Zx g17_ hr (Zb (pv 0) Zd))))))),?_⟩
  obtain ⟨e,es,rfl⟩:=Zfw hV.of hT.ne
  have hF:=hT.ro.fine hV.of
  refine ⟨_,rfl,v,e,es,rfl,ZhI hV.at_,hF,fun H1 b s1 hb=>⟨b,rfl,?_⟩⟩
  have hbt:b=true:=hb.mpr fun e' he'=>by
   obtain ⟨b0,hr0⟩:=Zdv hT hV.of
   exact Zjo (Zdc hV.of) ((hr0 e List.mem_cons_self).symm'.trans' (hr0 e' he'))
  subst hbt
  refine ZkZ ?_
  refine ⟨_,rfl,v,e :: es,rfl,ZhI (hV.same s1).at_,hF,fun H2 ss s2 hS=>⟨_,rfl,?_⟩⟩
  rw [decide_eq_false (ZbM hT hV.of hS)]
  exact k _ (s1.trans s2)
abbrev Xa:Stmt:=top 33
abbrev Zck:List Str:=["H","piece"]
theorem Za1:Zn Zck ["H","piece"] (Zf Xa):=⟨rfl,rfl,rfl,by decide +kernel,rfl,by decide +kernel,by decide +kernel⟩
def Zh3:Sp:=fun vs H Q _=>∃ (v:V) (ps:List Str) (hp:Es) (p:Str) (L:Nat) (z:List Nat),vs=[v,.str p]∧Hv H v ps hp∧Tx ps L z∧p∈ps∧∀ H',Same H H'→Q .non H'
theorem JG (D:HasDef K mg "check_piece" Xa ["H","piece"]) (B:Blt mg) (c1:XCls K mg "NoPiece" C bm) (c2:XCls K mg "NoTexts" C2 bm2) (g18_:FOk P w K mg base 5 "has_text" ["H"] Zhp):FOkX P w K mg base 6 "check_piece" ["H","piece"] Zh3:=by
 refine D.okX Za1 (fun vs H Q E h=>?_) (fun f cdv A outer s vs H Q E L hr h=>?_)
 ·obtain ⟨v,ps,hp,p,L,z,rfl,_⟩:=h
  rfl
 ·obtain ⟨v,ps,hp,p,Lg,z,rfl,hV,hT,hm,k⟩:=h
  have hu:=Zct hr
  refine ⟨_,(Ze (Yn (ZeQ (Jk hu (pv 1) (Zv (Xf rfl) rfl B.dict Zdn (Zb (pv 0) Zd)))) (Zh (Zam L c1 rfl (Zb Xk Zd))) ZK)
   (Zh (Yn (ZhB (ZeP (Zx g18_ hr (Zb (pv 0) Zd)))) (Zh (Zam L c2 rfl (Zb Xk Zd))) ZK))),?_⟩
  obtain ⟨a,xs,rfl,ha,hlx,hq⟩:=Ja hV.at_
  refine ⟨_,rfl,_,rfl,a,xs,hp.map fun p=>((Sum.inr p.1:Key),V.int p.2),rfl,.inr ha,by rw [List.length_map]; exact hlx,fun i q e=>?_,?_,fun d hd=>?_⟩
  ·rw [List.getElem?_map] at e
   cases ep:hp[i]? with
   | none=>rw [ep] at e; cases e
   | some p=>rw [ep] at e; cases e; exact hq i p ep
  ·rw [XJ hV.of]
   exact ZaB (YN hV.of)
  rw [XJ hV.of]
  have sd:=Za (o:=.dK (gD (hp.map (·.1)) fun x=>(ps.count x:Int))) hd
  refine ⟨d,_,rfl,DGet.k (k:=Sum.inr p) Zc,_,rfl,?_⟩
  rw [Xr,if_pos ((hV.of.mem p).mpr hm)]
  refine Zi0 ?_
  refine ⟨_,rfl,_,ps,hp,Lg,z,rfl,hV.same sd,hT,fun H2 s2=>⟨_,rfl,?_⟩⟩
  exact Zi0 (k _ (sd.trans s2))
abbrev Jg:Stmt:=top 34
abbrev Zfd:List Str:=["H","piece"]
theorem Zdy:Zn Zfd ["H","piece"] (Zf Jg):=⟨rfl,rfl,rfl,by decide +kernel,rfl,by decide +kernel,by decide +kernel⟩
def ZcQ:Sp:=fun vs H Q _=>∃ (v:V) (ps:List Str) (hp:Es) (p:Str) (L:Nat) (z:List Nat),vs=[v,.str p]∧Hv H v ps hp∧Tx ps L z∧p∈ps∧∀ v' H',Same H H'→TupR H' v' (sb ps p)→Q v' H'
theorem Zbf (D:HasDef K mg "behind_of" Jg ["H","piece"]) (g14_:FOkX P w K mg base 7 "check_piece" ["H","piece"] Zh3) (g27_:FOk P w K mg base 7 "signs_behind" ["H","piece"] ZkH):FOk P w K mg base 8 "behind_of" ["H","piece"] ZcQ:=by
 refine D.ok Zdy (fun vs H Q E h=>?_) (fun f cdv A outer s H vs Q E hr h=>?_)
 ·obtain ⟨v,ps,hp,p,L,z,rfl,_⟩:=h
  rfl
 ·obtain ⟨v,ps,hp,p,L,z,rfl,hV,hT,hm,k⟩:=h
  refine ⟨_,(Ze (ZS (JL g14_ hr (Zb (pv 0) (Zb (pv 1) Zd))))
   (Zh (Zu (Zx g27_ hr (Zb (pv 0) (Zb (pv 1) Zd)))))),?_⟩
  refine ⟨_,rfl,_,rfl,v,ps,hp,p,L,z,rfl,hV,hT,hm,fun H1 s1=>?_⟩
  exact ⟨_,rfl,_,rfl,v,ps,hp,p,rfl,hV.same s1,hT.ro,hm,fun v' H2 s2 hr2=>k v' H2 (s1.trans s2) hr2⟩
end
end Sh
namespace L2
theorem ZbW {t u:TS} {D:ZfX} {σ:L2.St} {H:Hp} (I:L2.St→Hp→Prop) (h:∀ R:L2.St→Hp→Prop,(∀ σ' H',I σ' H'→R σ' H')→t { D with nx:=R } σ H) (hu:∀ σ' H',I σ' H'→u D σ' H'):ZfY t u D σ H:=h _ hu
end L2
namespace Sh
open PySem L2 PyProof.Rows
seal L2.PE L2.PS L2.PSs L2.PT L2.PW L2.PA L2.PI L2.PG L2.PGs L2.PO L2.PC L2.PCs L2.OpR L2.UnR L2.CallR L2.MtR L2.IxR L2.SlR
theorem Zjb {x y:Str}:decide (V.str x=V.str y)=decide (x=y):=by
 rw [Bool.eq_iff_iff,decide_eq_true_eq,decide_eq_true_eq]
 exact ⟨fun e=>by injection e,fun e=>by rw [e]⟩
theorem Zgx {H:Hp} {vs:List V} {fs:List Str} {f:Str→Int} (h:PA H vs (fs.map fun x=>(x,f x))):∃ rs:List (Addr × Str),vs=rs.map (fun r=>V.ref r.1)∧rs.map Prod.snd=fs∧∀ r∈rs,H r.1=some (.tup [.str r.2,.int (f r.2)]):=by
 obtain ⟨hl,hh⟩:=h
 rw [List.length_map] at hl
 induction fs generalizing vs with
 | nil =>
  have:vs=[]:=List.length_eq_zero_iff.mp hl
  subst this
  exact ⟨[],rfl,rfl,fun r hr=>by cases hr⟩
 | cons x fs ih =>
  cases vs with
  | nil=>simp at hl
  | cons v vs =>
   obtain ⟨b,e1,e2⟩:=hh 0 (x,f x) rfl
   obtain ⟨rs,h1,h2,h3⟩:=ih (vs:=vs) (by simpa using hl) fun i e he=>by
    obtain ⟨b,q1,q2⟩:=hh (i + 1) e (by simpa using he)
    exact ⟨b,by simpa using q1,q2⟩
   have ev:v = .ref b:=by simpa using e1
   refine ⟨(b,x) :: rs,by rw [List.map_cons,← h1,ev],by rw [List.map_cons,h2],fun r hr=>?_⟩
   rcases List.mem_cons.mp hr with z | z
   ·rw [z]; exact e2
   ·exact h3 r z
theorem ZhP (ps:List Str) (x:Str):(ps.map rv).count (rv x)=ps.count x:=by
 induction ps with
 | nil=>rfl
 | cons y ps ih =>
  rw [List.map_cons,List.count_cons,List.count_cons,ih]
  congr 1
  by_cases c:y=x
  ·rw [c]; simp
  ·rw [if_neg (by simpa using fun e=>c (Zhx e)),if_neg (by simpa using c)]
section
variable {P:Program} {w:World} {K:PySem.W.Frag} {mg:Str→Option Value} {base:Heap}
abbrev YX:Stmt:=top 32
abbrev JO:List Str:=["H"]
theorem ZbX:Zn JO ["H"] (Zf YX):=⟨rfl,rfl,rfl,by decide +kernel,rfl,by decide +kernel,by decide +kernel⟩
def Zhs:Sp:=fun vs H Q _=>∃ (v:V) (ps:List Str) (hp:Es),vs=[v]∧Hv H v ps hp∧RO ps∧∀ v' H' hp',Same H H'→Hv H' v' (ps.map rv) hp'→Q v' H'
theorem Zbh (D:HasDef K mg "backwards" YX ["H"]) (B:Blt mg):FOk P w K mg base 1 "backwards" ["H"] Zhs:=by
 refine D.ok ZbX (fun vs H Q E h=>?_) (fun f cdv A outer s H vs Q E hr h=>?_)
 ·obtain ⟨v,ps,hp,rfl,_⟩:=h
  rfl
 ·obtain ⟨v,ps,hp,rfl,hV,hR,k⟩:=h
  refine ⟨_,(Zh (Zu (Zv ZB rfl B.tuple Yl (Zb (Zk JH rfl B.sorted Yd (Zb (ZX (Zf YX) JO ["piece","many"] [] rfl (Yi (pv 0)) (fun _ _ _ _ _=>Z3 2 K rfl (Zt (Yy 0) (Zt (Yy 1) Z2))) (fun _ _ _ _ _=>YL) (fun _ _ _ _ _=>(YF (Zb (Zb5 (pv 0) (Xb Ye Zi)) (Zb (pv 1) Zd))))) Zd)) Zd)))),?_⟩
  obtain ⟨q,us,rfl,hq,hpa⟩:=ZhI hV.at_
  have hlen:=ZZ hV.of
  have hpl:=hR.len
  refine ⟨_,rfl,q,rfl,⟨_,SqT.of hq⟩,Jq us.length (fun i=>us.getD i .non) (fun i v H'=>∃ b,v = .ref b∧H' b=some (.tup [.str (rv (hp.getD i ("",0)).1),.int (hp.getD i ("",0)).2])) (Zg (by rw [hpa.1]; omega)) (fun i v H' H'' s' ⟨b,e,r⟩=>⟨b,e,s' _ _ r⟩) (Xq (SqT.of hq)) ?_ ?_⟩
  ·intro i H1 Qe hi hs kq
   have hie:i < hp.length:=by rw [← hpa.1]; exact hi
   obtain ⟨b,e1,e2⟩:=hpa.2 i hp[i] (List.getElem?_eq_getElem hie)
   have eu:us.getD i .non = .ref b:=by rw [List.getD_eq_getElem?_getD,e1]; rfl
   have eh:hp.getD i ("",0)=hp[i]:=by rw [List.getD_eq_getElem?_getD,List.getElem?_eq_getElem hie]; rfl
   rw [eh] at kq
   rw [eu]
   have hm:=hR.one _ ((hV.of.mem _).mp (List.mem_map.mpr ⟨hp[i],List.getElem_mem hie,rfl⟩))
   refine ⟨b,_,rfl,SqT.of (hs _ _ e2),rfl,_,_,rfl,_,_,rfl,rfl,?_⟩
   refine ⟨_,rfl,_,rfl,hp[i].1,rfl,ZY (by omega),rfl,_,rfl,Zg (show 2≤1000 by decide),fun t ht=>?_⟩
   exact kq _ _ (Za ht) ⟨t,rfl,Zc⟩
  intro D1 vs1 H1 hl1 hr1 hs1 hD1 hDl1
  have hPA:PA H1 vs1 ((hp.map fun e=>rv e.1).map fun x=>(x,((ps.map rv).count x:Int))):=by
   refine ⟨by rw [hl1,hpa.1,List.length_map,List.length_map],fun i e he=>?_⟩
   rw [List.map_map,List.getElem?_map] at he
   obtain ⟨x,hx,rfl⟩:=Option.map_eq_some_iff.mp he
   have hie:i < hp.length:=(List.getElem?_eq_some_iff.mp hx).1
   have hiv:i < vs1.length:=by rw [hl1,hpa.1]; exact hie
   obtain ⟨b,e1,e2⟩:=hr1 i vs1[i] (List.getElem?_eq_getElem hiv)
   rw [List.getD_eq_getElem?_getD,hx,Option.getD_some] at e2
   refine ⟨b,by rw [List.getElem?_eq_getElem hiv,e1],?_⟩
   rw [e2,hV.of.cnt x (List.mem_of_getElem? hx)]
   show _=some (HO.tup [V.str (rv x.1),V.int ((ps.map rv).count (rv x.1):Int)])
   rw [ZhP]
  obtain ⟨rs,e1,e2,e3⟩:=Zgx hPA
  rw [e1] at hDl1
  have nd:(rs.map (·.2)).Nodup:=by
   show (rs.map Prod.snd).Nodup
   rw [e2]
   have:=YN hV.of
   rw [List.nodup_iff_pairwise_ne,List.pairwise_map] at this ⊢
   exact this.imp fun {a b} q e=>q (Zhx e)
  have hrl:rs.length < 64:=by
   have:=congrArg List.length e2
   rw [List.length_map,List.length_map] at this
   omega
  refine ⟨D1,rs,rfl,SqL.of hDl1,fun r hr=>⟨_,e3 r hr⟩,nd,hrl,fun p rs' hp' hperm hsrt=>?_⟩
  refine ⟨p,_,rfl,.inl ⟨SqL.of Zc,fun d hd=>?_⟩⟩
  have s2:=Za (o:=.lst (rs'.map fun r=>V.ref r.1)) hp'
  have s3:=Za (o:=.tup (rs'.map fun r=>V.ref r.1)) hd
  refine k _ _ (rs'.map fun r=>(r.2,((ps.map rv).count r.2:Int))) ((hs1.trans s2).trans s3) ⟨⟨d,_,rfl,Zc,by rw [List.length_map,List.length_map],fun i e he=>?_⟩,?_⟩
  ·rw [List.getElem?_map] at he
   obtain ⟨r,hr,rfl⟩:=Option.map_eq_some_iff.mp he
   refine ⟨r.1,?_,s3 _ _ (s2 _ _ (e3 r (hperm.mem_iff.mp (List.mem_of_getElem? hr))))⟩
   rw [List.getD_eq_getElem?_getD,List.getElem?_map,hr]
   rfl
  ·have:=XW (ss:=rs'.map (·.2)) (ks:=rs.map (·.2)) (ps:=ps.map rv) (g:=fun x=>((ps.map rv).count x:Int)) (hperm.map _) (by rw [List.map_map]; exact hsrt) (fun x=>?_) fun x _=>rfl
   ·rw [List.map_map] at this
    exact this
   ·show x∈rs.map Prod.snd↔_
    rw [e2,List.mem_map,List.mem_map]
    constructor
    ·rintro ⟨e,he,rfl⟩
     exact ⟨e.1,(hV.of.mem _).mp (List.mem_map.mpr ⟨e,he,rfl⟩),rfl⟩
    ·rintro ⟨y,hy,rfl⟩
     obtain ⟨e,he,rfl⟩:=List.mem_map.mp ((hV.of.mem y).mpr hy)
     exact ⟨e,he,rfl⟩
end
theorem Zhh {T:T3} {b t:Str} {n:Nat} (hL:∀ x∈T,x.2.1.length≤2) (hT:T.length≤100) (hb:b.length≤100) (h:tf T b=some t):t.length≤1000:=by
 by_cases g:ZcF (tsT T) b
 ·rw [Zaa g] at h
  cases h
  rw [Zs,List.length_append,Zy]
  have hw:(wayX (tsT T) b).length≤2 * (tsT T).length:=by
   unfold wayX
   rw [List.length_reverse]
   have key:∀ (m:Nat) (r:Str→List Nat) (pt:Str) (G B:List Nat),(wlk (tsT T) m r pt G B).length≤m + B.length:=by
    intro m
    induction m with
    | zero=>intro r pt G B; rw [wlk]; omega
    | succ m ih =>
     intro r pt G B
     rw [wlk]
     split
     ·refine Nat.le_trans (ih _ _ _ _) ?_
      omega
     ·split
      ·refine Nat.le_trans (ih _ _ _ _) ?_
       rw [List.length_append,List.length_singleton]
       omega
      ·omega
   have:=key (2 * (tsT T).length) (rows (tsT T)) b [] []
   simpa using this
  have htl:(tsT T).length=T.length:=by unfold tsT; rw [List.length_map]
  have hl:(ZiD T (wayX (tsT T) b)).length≤2 * (wayX (tsT T) b).length:=Zcu fun i _=>by
   rw [Zy,List.getD_eq_getElem?_getD]
   cases e:T[i]? with
   | none=>exact Nat.zero_le _
   | some x=>exact hL x (List.mem_of_getElem? e)
  omega
 ·rw [ZcI g] at h
  cases h
theorem Zjk {ps:List Str} (hR:RO ps) {p:Str} (hm:p∈ps):∀ r∈sb ps p,r.2.length≤1000:=fun r hr=>by
 obtain ⟨hp,hO⟩:=Yk ps
 obtain ⟨ss,hS⟩:=Zee hp
 obtain ⟨hp1,hO1⟩:=Yk (ps.erase p)
 have hst:∀ wsh:Str,wsh.length≤20→(stF ps wsh).length≤20:=fun wsh hw=>by
  rw [ZcN hO hS]
  exact Zef hR hO hS hw
 have l2:=(hR.one p hm).2.1
 unfold sb at hr
 obtain ⟨⟨s,o⟩,hro,hk⟩:=List.mem_filterMap.mp hr
 unfold Zcr at hk
 obtain ⟨t,ht,rfl⟩:=Option.map_eq_some_iff.mp hk
 have ht':o=some t:=ht
 subst ht'
 show t.length≤1000
 unfold Yf at hro
 rcases List.mem_cons.mp hro with q | q
 ·injection q with _ q2
  refine Zhh (n:=0) ?_ ?_ ?_ q2.symm
  ·unfold ZfD
   exact J9 (by show (tx [lst p]).length≤2; rw [Zs]; exact Nat.le_succ _)
  ·unfold ZfD
   rw [Yj hO1,List.length_append,List.length_map,Xs hO1,List.length_singleton]
   have:=(hR.erase p).len
   omega
  ·have:=hst (en p) (by rw [Zdh]; omega)
   omega
 ·obtain ⟨e,he,q⟩:=List.mem_map.mp q
  injection q with _ q2
  obtain ⟨hp2,hO2⟩:=Yk ((ps.erase p).erase (en p ++ e.1))
  obtain ⟨y,hy,_,ey⟩:=Zaq he
  refine Zhh (n:=0) ?_ ?_ ?_ q2
  ·unfold Jb
   refine J9 ?_
   show (tx [lst p] ++ e.1).length≤2
   rw [ey,show lc y.1=tx [y.1.cps.toList.getD (y.1.length - 1) 0] from rfl,YD,Zs]
   exact Nat.le_refl _
  ·unfold Jb
   rw [Yj hO2,List.length_append,List.length_map,Xs hO2,List.length_singleton]
   have:=((hR.erase p).erase (en p ++ e.1)).len
   omega
  ·have:=hst (bg p) (by rw [ZbG]; omega)
   omega
section
variable {P:Program} {w:World} {K:PySem.W.Frag} {mg:Str→Option Value} {base:Heap}
abbrev X5:Stmt:=top 35
abbrev Zc2:List Str:=["H","piece"]
theorem Zey:Zn Zc2 ["H","piece"] (Zf X5):=⟨rfl,rfl,rfl,by decide +kernel,rfl,by decide +kernel,by decide +kernel⟩
def Zeo:Sp:=fun vs H Q _=>∃ (v:V) (ps:List Str) (hp:Es) (p:Str) (L:Nat) (z:List Nat),vs=[v,.str p]∧Hv H v ps hp∧Tx ps L z∧p∈ps∧∀ v' H',Same H H'→TupR H' v' ((sb (ps.map rv) (rv p)).map fun r=>(r.1,rv r.2))→Q v' H'
theorem Zch (D:HasDef K mg "ahead_of" X5 ["H","piece"]) (B:Blt mg) (g14_:FOkX P w K mg base 7 "check_piece" ["H","piece"] Zh3) (g27_:FOk P w K mg base 7 "signs_behind" ["H","piece"] ZkH) (g10_:FOk P w K mg base 7 "backwards" ["H"] Zhs):FOk P w K mg base 8 "ahead_of" ["H","piece"] Zeo:=by
 refine D.ok Zey (fun vs H Q E h=>?_) (fun f cdv A outer s H vs Q E hr h=>?_)
 ·obtain ⟨v,ps,hp,p,L,z,rfl,_⟩:=h
  rfl
 ·obtain ⟨v,ps,hp,p,L,z,rfl,hV,hT,hm,k⟩:=h
  refine ⟨_,(Ze (ZS (JL g14_ hr (Zb (pv 0) (Zb (pv 1) Zd))))
   (Zh (Zu (Zv ZB rfl B.tuple Yl (Zb (ZX (Zf X5) Zc2 ["sign","text"] [] rfl (Yi (Zx g27_ hr (Zb (Zx g10_ hr (Zb (pv 0) Zd)) (Zb (Zb5 (pv 1) (Xb Ye Zi)) Zd)))) (fun _ _ _ _ _=>Z3 2 K rfl (Zt (Yy 0) (Zt (Yy 1) Z2))) (fun _ _ _ _ _=>YL) (fun _ _ _ _ _=>(YF (Zb (pv 0) (Zb (Zb5 (pv 1) (Xb Ye Zi)) Zd))))) Zd))))),?_⟩
  have hR:=hT.ro
  have l2:=(hR.one p hm).2.1
  refine ⟨_,rfl,_,rfl,v,ps,hp,p,L,z,rfl,hV,hT,hm,fun H1 s1=>?_⟩
  refine ⟨_,rfl,v,ps,hp,rfl,hV.same s1,hR,fun v2 H2 hp2 s2 hV2=>?_⟩
  have hm2:rv p∈ps.map rv:=List.mem_map.mpr ⟨p,hm,rfl⟩
  refine ⟨_,rfl,_,rfl,p,rfl,ZY (by omega),rfl,v2,ps.map rv,hp2,rv p,rfl,hV2,hT.rev.ro,hm2,fun v3 H3 s3 hrr=>?_⟩
  obtain ⟨q,us,rfl,hq,hrs⟩:=hrr
  have hbl:=Zjk hT.rev.ro hm2
  have hsl:(sb (ps.map rv) (rv p)).length≤1000:=by
   have h1:(sb (ps.map rv) (rv p)).length≤(Yf (ps.map rv) (rv p)).length:=List.length_filterMap_le _ _
   obtain ⟨hp1,hO1⟩:=Yk ((ps.map rv).erase (rv p))
   have h2:(Yf (ps.map rv) (rv p)).length≤hp1.length + 1:=by
    unfold Yf nxt
    rw [Yj hO1,List.length_cons,List.length_map,List.length_map]
    have:=List.length_filter_le (fun e:Str × Int=>decide (bg e.1=en (rv p))) hp1
    omega
   have:=ZZ hO1
   have:=(hT.rev.ro.erase (rv p)).len
   omega
  generalize sb (ps.map rv) (rv p)=rs at *
  refine ⟨q,rfl,⟨_,SqT.of hq⟩,Jq us.length (fun i=>us.getD i .non) (fun i v H'=>∃ b,v = .ref b∧H' b=some (.tup [.str (rs.getD i ("","")).1,.str (rv (rs.getD i ("","")).2)])) (Zg (by rw [hrs.1]; omega)) (fun i v H' H'' s' ⟨b,e,r⟩=>⟨b,e,s' _ _ r⟩) (Xq (SqT.of hq)) ?_ ?_⟩
  ·intro i H5 Qe hi hs kq
   have hie:i < rs.length:=by rw [← hrs.1]; exact hi
   obtain ⟨b,e1,e2⟩:=hrs.2 i rs[i] (List.getElem?_eq_getElem hie)
   have eu:us.getD i .non = .ref b:=by rw [List.getD_eq_getElem?_getD,e1]; rfl
   have eh:rs.getD i ("","")=rs[i]:=by rw [List.getD_eq_getElem?_getD,List.getElem?_eq_getElem hie]; rfl
   have hb:=hbl rs[i] (List.getElem_mem hie)
   rw [eh] at kq
   rw [eu]
   refine ⟨b,_,rfl,SqT.of (hs _ _ e2),rfl,_,_,rfl,_,_,rfl,rfl,?_⟩
   refine ⟨_,rfl,_,rfl,_,rfl,rs[i].2,rfl,ZY hb,rfl,Zg (show 2≤1000 by decide),fun t ht=>?_⟩
   exact kq _ _ (Za ht) ⟨t,rfl,Zc⟩
  intro D1 vs1 H5 hl1 hr1 hs1 hD1 hDl1
  refine ⟨D1,_,rfl,.inl ⟨SqL.of hDl1,fun d hd=>?_⟩⟩
  have s6:=Za (o:=.tup vs1) hd
  refine k _ _ ((((s1.trans s2).trans s3).trans hs1).trans s6) ⟨d,vs1,rfl,Zc,by rw [hl1,hrs.1,List.length_map],fun i r he=>?_⟩
  rw [List.getElem?_map] at he
  obtain ⟨x,hx,rfl⟩:=Option.map_eq_some_iff.mp he
  have hie:i < rs.length:=(List.getElem?_eq_some_iff.mp hx).1
  have hiv:i < vs1.length:=by rw [hl1,hrs.1]; exact hie
  obtain ⟨b,e1,e2⟩:=hr1 i vs1[i] (List.getElem?_eq_getElem hiv)
  rw [List.getD_eq_getElem?_getD,hx,Option.getD_some] at e2
  exact ⟨b,by rw [List.getElem?_eq_getElem hiv,e1],s6 _ _ e2⟩
end
section
variable {P:Program} {w:World} {K:PySem.W.Frag} {mg:Str→Option Value} {base:Heap} {S C A1 A2 A3 A4 A5 A6 A7 A8:Addr}
end
section
variable {P:Program} {w:World} {K:PySem.W.Frag} {mg:Str→Option Value} {base:Heap}
end
theorem DK.less {H:Hp} {D:Addr} {n m:Nat} (h:DK H D n) (hm:m≤n):DK H D m:=by
 obtain ⟨ns,e,r,t⟩:=h
 exact ⟨ns,e,by omega,t⟩
theorem ZaG (ns:List Int):PyData.eqv (.list (ns.map PyData.int)) (.list (([]:List Int).map PyData.int))=ns.isEmpty:=by
 cases ns with
 | nil=>simp [PyData.eqv,PyData.eqvAll]
 | cons n r=>simp [PyData.eqv,PyData.eqvAll]
section
variable {P:Program} {w:World} {K:PySem.W.Frag} {mg:Str→Option Value} {base:Heap}
abbrev Zb0:Stmt:=top 37
abbrev Zis:List Str:=["_law_row","_law_k","_law_cell"]
theorem scLMixed:Zn Zis ["_law_row","_law_k"] (Zf Zb0):=⟨rfl,rfl,rfl,by decide +kernel,rfl,by decide +kernel,by decide +kernel⟩
def Zej:Sp:=fun vs H Q _=>∃ (r:Addr) (ns:List Int) (k:Int),vs=[.ref r,.int k]∧H r=some (.lst (ns.map V.int))∧ns.length≤63∧0≤k∧k < 1000∧∀ n H',0≤n→n < 2147483629→Same H H'→Q (.int n) H'
theorem ZdF (D:HasDef K mg "_law_mixed" Zb0 ["_law_row","_law_k"]) (B:Blt mg):FOk P w K mg base 1 "_law_mixed" ["_law_row","_law_k"] Zej:=by
 refine D.ok scLMixed (fun vs H Q E h=>?_) (fun f cdv A outer s H vs Q E hr h=>?_)
 ·obtain ⟨r,ns,k,rfl,_⟩:=h
  rfl
 ·obtain ⟨r,ns,k,rfl,hr0,hn,k0,k1,kk⟩:=h
  refine ⟨_,(Ze (Zm (i:=2) scLMixed.nd rfl (.inl rfl) (Zo ZU (Zo Xm Zi (pv 1)) Zi))
   (Ze (Yn (ZA (Za8 hr.units) (pv 0) (ZN Zd) (ZJ _)) (Zh (Zm (i:=2) scLMixed.nd rfl (.inl rfl) (Zo ZU (Zo ZU (Zo Ya (ZP ix_list (pv 0) (Zo Ya (pv 1) (Zk Zq rfl B.len ZW (Zb (pv 0) Zd))) (fun _ _=>rfl)) Zi) (Zo Xm (Zo Xc (pv 1) (Zk Zq rfl B.len ZW (Zb (pv 0) Zd))) Zi)) Zi))) ZK)
   (Ze (Zm (i:=2) scLMixed.nd rfl (.inl rfl) (Zo Ya (Zo ZU (Zo ZU (Zo Xm (pv 2) Zi) (Zo Xm (Zo Xm (pv 1) (pv 1)) Zi)) Zi) Zi))
   (Zh (Zu (Zo Ya (Zo ZU (Zo ZU (Zo Xm (pv 2) (pv 2)) (Zo Xm (Zo Xm (Zo Xm (pv 1) (pv 1)) (pv 1)) Zi)) Zi) Zi)))))),?_⟩
  refine ⟨_,rfl,_,_,rfl,rfl,.inl ⟨by decide,by decide⟩,_,_,rfl,rfl,?_⟩
  dsimp only
  refine Y7 (fun σ H2=>Same H H2∧∃ c:Int,σ=[some (.ref r),some (.int k),some (.int c)]) (fun R hR=>?_) ?_
  ·refine ⟨_,rfl,Zg (show 0≤1000 by decide),fun p0 hp0=>?_⟩
   have s0:=Za (o:=.lst []) hp0
   have hr1:=s0 _ _ hr0
   refine ⟨.list (ns.map PyData.int),.list (([]:List Int).map PyData.int),Ys hr1,Ys (ns:=[]) Zc,Z1 ns,Z1 [],_,rfl,?_⟩
   rw [ZaG]
   cases ns with
   | nil=>exact Xx rfl (hR _ _ ⟨s0,_,rfl⟩)
   | cons x xs =>
    refine X9 rfl ?_
    have hms:(x :: xs).length≠0:=by simp
    generalize x :: xs=ms at *
    generalize upd H p0 (.lst [])=H1 at s0 hr1
    have hlp:(0:Int) < ((ms.map V.int).length:Int):=by rw [List.length_map]; omega
    have mb:=Yo k hlp
    have hat:=Zcp (ns:=ms) (i:=k % ((ms.map V.int).length:Int)) mb.1 (by have:=mb.2; rw [List.length_map] at this ⊢; exact this)
    refine ⟨_,rfl,_,rfl,_,rfl,.ref r,_,rfl,.inl ⟨_,SqL.of hr1,rfl⟩,_,_,rfl,rfl,hlp,r,_,_,_,rfl,rfl,SqL.of hr1,hat,_,_,rfl,rfl,(by show (0:Int) < 2147483629; decide),_,rfl,_,rfl,.ref r,_,rfl,.inl ⟨_,SqL.of hr1,rfl⟩,_,_,rfl,rfl,⟨hlp,by rw [List.length_map]; omega⟩,_,_,rfl,rfl,.inr ⟨by decide,by decide⟩,_,_,rfl,rfl,_,_,rfl,rfl,?_⟩
    exact hR _ _ ⟨s0,_,rfl⟩
  rintro σ H2 ⟨s2,c,rfl⟩
  refine ⟨_,rfl,_,_,rfl,rfl,.inr ⟨by decide,by decide⟩,_,rfl,_,rfl,_,_,rfl,rfl,.inl ⟨by omega,by omega⟩,_,_,rfl,rfl,.inr ⟨by decide,by decide⟩,_,_,rfl,rfl,_,_,rfl,rfl,_,_,rfl,rfl,(by show (0:Int) < 2147483647; decide),?_⟩
  have m1:=Yo (c * 48271 + k * k * 16807 + 3) (show (0:Int) < 2147483647 by decide)
  dsimp only
  generalize (c * 48271 + k * k * 16807 + 3) % 2147483647=c2 at m1
  have m2:=Yo (c2 * c2 + k * k * k * 69621 + 5) (show (0:Int) < 2147483629 by decide)
  refine ⟨_,rfl,_,rfl,_,_,rfl,rfl,.inl ⟨by omega,by omega⟩,_,rfl,_,rfl,_,_,rfl,rfl,.inl ⟨by omega,by omega⟩,_,rfl,_,_,rfl,rfl,.inr ⟨by omega,by omega⟩,_,_,rfl,rfl,.inr ⟨by decide,by decide⟩,_,_,rfl,rfl,_,_,rfl,rfl,_,_,rfl,rfl,(by show (0:Int) < 2147483629; decide),?_⟩
  exact kk _ _ m2.1 m2.2 s2
abbrev Jf:Stmt:=top 39
abbrev Zfc:List Str:=["_law_deck_here","_law_few","_law_some","_law_number","_law_found","_law_k","_law_at"]
theorem scLLetters:Zn Zfc ["_law_deck_here","_law_few"] (Zf Jf):=⟨rfl,rfl,rfl,by decide +kernel,rfl,by decide +kernel,by decide +kernel⟩
theorem Zbd (D:HasDef K mg "_law_letters" Jf ["_law_deck_here","_law_few"]) (B:Blt mg):FOk P w K mg base 1 "_law_letters" ["_law_deck_here","_law_few"] Zho:=by
 refine D.ok scLLetters (fun vs H Q E h=>?_) (fun f cdv A outer s H vs Q E hr h=>?_)
 ·obtain ⟨D,few,n,rfl,_⟩:=h
  rfl
 ·obtain ⟨Dk,few,n,rfl,f2,f26,hD,k⟩:=h
  refine ⟨_,(Ze (Zm (i:=2) scLLetters.nd rfl (.inl rfl) Xk)
   (Ze (Zm (i:=3) scLLetters.nd rfl (.inl rfl) (Jj F.plainAttrs_list F.slot_list_pop F.type_list_pop Xd (pv 0)))
   (Ze (Zm (i:=4) scLLetters.nd rfl (.inl rfl) Xk)
   (Ze (Yh PassesOwn.never rfl (YK rfl B.range (Zb (Zk (ZbA rfl) rfl B.min Zkf (Zb (pv 1) (Zb Zi Zd))) Zd)) (ZG (i:=5) scLLetters.nd rfl (.inl rfl))
    (Ze (Zm (i:=6) scLLetters.nd rfl (.inl rfl) (Zo Ya (pv 3) (Zk Zq rfl B.len ZW (Zb (pv 2) Zd))))
   (Ze (Zm (i:=4) scLLetters.nd rfl (.inl rfl) (Zo ZQ (pv 4) (ZP XV (pv 2) (pv 6) (fun _ _=>rfl))))
   (Ze (Zm (i:=3) scLLetters.nd rfl (.inl rfl) (Zo Xc (pv 3) (Zk Zq rfl B.len ZW (Zb (pv 2) Zd))))
   (Zh (Zm (i:=2) scLLetters.nd rfl (.inl rfl) (Zo ZQ (ZM Yr (pv 2) Z8 (ZO (pv 6))) (ZM Yr (pv 2) (ZO (Zo ZU (pv 6) Zi)) Z8))))))))
   (Zh (Zu (Zo ZQ (pv 4) (ZM Yr (pv 2) Z8 (ZO (Zo YM (pv 1) (Zk Zq rfl B.len ZW (Zb (pv 4) Zd)))))))))))),?_⟩
  obtain ⟨ns,c,hDn,c0,c1,hD2⟩:=hD.pop
  refine ⟨_,rfl,.inl ⟨rfl,_,SqL.of hDn⟩,Dk,_,.int c,rfl,rfl,hDn,ZaA ns c,?_⟩
  rw [ZaH]
  have sb:SB Dk H (upd H Dk (.lst (ns.map V.int))):=SB.upd
  generalize upd H Dk (.lst (ns.map V.int))=H1 at sb hD2
  rw [Zkj]
  have hmn:(if (6:Int) < (few:Int) then (6:Int) else (few:Int)).toNat=min few 6:=by split <;> omega
  refine ⟨_,rfl,_,6,rfl,_,rfl,by split <;> omega,by split <;> omega,?_⟩
  rw [hmn]
  refine YO (n:=min few 6) (fun i σ H2=>H2=H1∧∃ (y x:List Nat) (nb:Int) (z5 z6:Option V),σ=[some (.ref Dk),some (.int few),some (.str (tx y)),some (.int nb),some (.str (tx x)),z5,z6]∧y.length=26 - i∧x.length=i∧Cd y∧Cd x)
   ⟨rfl,(List.range 26).map (· + 97),[],c,none,none,rfl,by simp,rfl,fun c hc=>by obtain ⟨j,hj,rfl⟩:=List.mem_map.mp hc; have:=List.mem_range.mp hj; omega,fun c hc=>by cases hc⟩ ?_ ?_
  ·rintro i σ H2 hi ⟨rfl,y,x,nb,z5,z6,rfl,hy,hx,yc,xc⟩
   have hlp:(0:Int) < ((tx y).length:Int):=by rw [Zs]; omega
   have hlen:∀ H',ZiX K (.str (tx y)) H' (tx y).length:=fun H'=>⟨ZH (by omega),rfl⟩
   have mb:=Yo nb hlp
   refine ⟨_,rfl,_,rfl,.str (tx y),_,rfl,hlen _,_,_,rfl,rfl,hlp,?_⟩
   dsimp only
   generalize nb % ((tx y).length:Int)=a_ at mb
   rw [Zs] at mb
   refine ⟨_,rfl,_,rfl,_,rfl,tx y,_,_,rfl,rfl,ZH (by omega),ZfS mb.1 (by omega),_,_,rfl,rfl,?_,?_⟩
   ·rw [Zs]
    exact Zg (by show x.length + 1≤1000; omega)
   rw [show ({ cps:=#[y.getD a_.toNat 0] }:Str)=tx [y.getD a_.toNat 0] from rfl,YD]
   refine ⟨_,rfl,_,rfl,.str (tx y),_,rfl,hlen _,_,_,rfl,rfl,⟨hlp,by rw [Zs]; omega⟩,?_⟩
   refine ⟨_,rfl,_,rfl,_,rfl,_,rfl,ZH (by omega),_,rfl,_,rfl,_,_,rfl,rfl,_,rfl,_,rfl,ZH (by omega),?_⟩
   rw [Yq mb.1,XB (by omega) (by omega)]
   refine ⟨_,_,rfl,rfl,?_,?_⟩
   ·rw [Zs,Zs,List.length_take,List.length_drop]
    exact Zg (by omega)
   rw [YD]
   refine ⟨rfl,_,_,_,_,_,rfl,?_,by rw [List.length_append,hx]; rfl,fun c hc=>?_,fun c hc=>?_⟩
   ·rw [List.length_append,List.length_take,List.length_drop]
    omega
   ·rcases List.mem_append.mp hc with q | q
    ·exact yc c (List.mem_of_mem_take q)
    ·exact yc c (List.mem_of_mem_drop q)
   ·rcases List.mem_append.mp hc with q | q
    ·exact xc c q
    ·rw [List.mem_singleton.mp q]
     refine yc _ ?_
     rw [List.getD_eq_getElem?_getD,List.getElem?_eq_getElem (by omega)]
     exact List.getElem_mem _
  ·rintro σ H2 ⟨rfl,y,x,nb,z5,z6,rfl,hy,hx,yc,xc⟩
   refine ⟨_,rfl,_,rfl,_,rfl,_,rfl,.str (tx x),_,rfl,⟨ZH (by omega),rfl⟩,_,_,rfl,rfl,_,rfl,_,rfl,ZH (by omega),?_⟩
   rw [Yq (by rw [Zs]; omega)]
   refine ⟨_,_,rfl,rfl,?_,?_⟩
   ·rw [Zs,Zs,List.length_take]
    exact Zg (by omega)
   rw [YD]
   refine k _ _ sb hD2 ?_ fun c hc=>?_
   ·rw [List.length_append,List.length_take,Zs]
    omega
   ·rcases List.mem_append.mp hc with q | q
    ·exact xc c q
    ·exact yc c (List.mem_of_mem_take q)
abbrev ZbZ:Stmt:=top 40
abbrev Zir:List Str:=["_law_deck_here","_law_some","_law_long","_law_made","_law_number","_law_k"]
theorem scLSigns:Zn Zir ["_law_deck_here","_law_some","_law_long"] (Zf ZbZ):=⟨rfl,rfl,rfl,by decide +kernel,rfl,by decide +kernel,by decide +kernel⟩
def Zeh:Sp:=fun vs H Q _=>∃ (D:Addr) (y:List Nat) (L n:Nat),vs=[.ref D,.str (tx y),.int L]∧1≤y.length∧y.length≤100∧Cd y∧L≤300∧DK H D (n + (L + 11) / 12)∧∀ (z:List Nat) H',SB D H H'→DK H' D n→z.length=L→Cd z→Q (.str (tx z)) H'
theorem ZdE (D:HasDef K mg "_law_signs" ZbZ ["_law_deck_here","_law_some","_law_long"]) (B:Blt mg):FOk P w K mg base 1 "_law_signs" ["_law_deck_here","_law_some","_law_long"] Zeh:=by
 refine D.ok scLSigns (fun vs H Q E h=>?_) (fun f cdv A outer s H vs Q E hr h=>?_)
 ·obtain ⟨D,y,L,n,rfl,_⟩:=h
  rfl
 ·obtain ⟨Dk,y,L,n,rfl,y1,y2,yc,hL,hD,k⟩:=h
  refine ⟨_,(Ze (Zm (i:=3) scLSigns.nd rfl (.inl rfl) Xk)
   (Ze (X7 PassesOwn.never (ZA ZkU (Zk Zq rfl B.len ZW (Zb (pv 3) Zd)) (pv 2) (ZJ _))
    (Ze (Zm (i:=4) scLSigns.nd rfl (.inl rfl) (Jj F.plainAttrs_list F.slot_list_pop F.type_list_pop Xd (pv 0)))
   (Zh (Yh PassesOwn.never rfl (YK rfl B.range (Zb (Zk (ZbA rfl) rfl B.min Zkf (Zb Zi (Zb (Zo YM (pv 2) (Zk Zq rfl B.len ZW (Zb (pv 3) Zd))) Zd))) Zd)) (ZG (i:=5) scLSigns.nd rfl (.inl rfl))
    (Ze (Zm (i:=3) scLSigns.nd rfl (.inl rfl) (Zo ZQ (pv 3) (ZP XV (pv 1) (Zo Ya (pv 4) (Zk Zq rfl B.len ZW (Zb (pv 1) Zd))) (fun _ _=>rfl))))
   (Zh (Zm (i:=4) scLSigns.nd rfl (.inl rfl) (Zo Xc (pv 4) (Zk Zq rfl B.len ZW (Zb (pv 1) Zd))))))))))
   (Zh (Zu (pv 3))))),?_⟩
  have hlp:(0:Int) < ((tx y).length:Int):=by rw [Zs]; omega
  have hleny:∀ H',ZiX K (.str (tx y)) H' (tx y).length:=fun H'=>⟨ZH (by omega),rfl⟩
  dsimp only [XY]
  rw [show ("" : Str)=tx [] from rfl]
  show ZfY (ZaT _ _) _ _ _ _
  refine Y7 (fun σ H4=>∃ (z:List Nat) (z4 z5:Option V),σ=[some (.ref Dk),some (.str (tx y)),some (.int L),some (.str (tx z)),z4,z5]∧SB Dk H H4∧DK H4 Dk n∧z.length=L∧Cd z) (fun R hR=>?_) ?_
  ·refine ⟨fun m σ H4=>∃ (z:List Nat) (z4 z5:Option V),σ=[some (.ref Dk),some (.str (tx y)),some (.int L),some (.str (tx z)),z4,z5]∧SB Dk H H4∧DK H4 Dk (n + (L - z.length + 11) / 12)∧z.length≤L∧Cd z∧m=L - z.length,
    ⟨_,[],none,none,rfl,SB.refl _ _,hD,Nat.zero_le _,(fun c hc=>by cases hc),rfl⟩,?_⟩
   rintro m σ H4 ⟨z,z4,z5,rfl,sb4,hD4,hz,zc,hm⟩
   have hlenz:∀ H',ZiX K (.str (tx z)) H' (tx z).length:=fun H'=>⟨ZH (by omega),rfl⟩
   refine ⟨_,rfl,.str (tx z),_,rfl,hlenz _,_,rfl,_,_,rfl,rfl,_,rfl,?_⟩
   rw [Zs]
   by_cases c:z.length < L
   rotate_left
   ·have e:z.length=L:=by omega
    refine Xx (decide_eq_false (by omega)) (hR _ _ ⟨z,z4,z5,rfl,sb4,hD4.less (by omega),e,zc⟩)
   refine X9 (decide_eq_true (by omega)) ?_
   refine ⟨fun σ' H'=>∃ m',m' < m∧∃ (z:List Nat) (z4 z5:Option V),σ'=[some (.ref Dk),some (.str (tx y)),some (.int L),some (.str (tx z)),z4,z5]∧SB Dk H H'∧DK H' Dk (n + (L - z.length + 11) / 12)∧z.length≤L∧Cd z∧m'=L - z.length,fun _ _ z=>z,?_⟩
   have hD5:DK H4 Dk (n + (L - z.length + 11) / 12 - 1 + 1):=hD4.less (by omega)
   obtain ⟨ns,cc,hDn,c0,c1,hD6⟩:=hD5.pop
   refine ⟨_,rfl,.inl ⟨rfl,_,SqL.of hDn⟩,Dk,_,.int cc,rfl,rfl,hDn,ZaA ns cc,?_⟩
   rw [ZaH]
   have sb6:SB Dk H (upd H4 Dk (.lst (ns.map V.int))):=sb4.trans SB.upd
   generalize upd H4 Dk (.lst (ns.map V.int))=H6 at sb6 hD6
   have hmn:(if (L:Int) - ((tx z).length:Int) < 12 then (L:Int) - ((tx z).length:Int) else 12).toNat=min (L - z.length) 12:=by rw [Zs]; split <;> omega
   refine ⟨_,rfl,_,rfl,.str (tx z),_,rfl,hlenz _,_,_,rfl,rfl,12,_,rfl,_,rfl,by rw [Zs]; split <;> omega,by rw [Zs]; split <;> omega,?_⟩
   rw [hmn]
   refine YO (n:=min (L - z.length) 12) (fun i σ H7=>H7=H6∧∃ (u:List Nat) (nb:Int) (z5:Option V),σ=[some (.ref Dk),some (.str (tx y)),some (.int L),some (.str (tx u)),some (.int nb),z5]∧u.length=z.length + i∧Cd u)
    ⟨rfl,z,cc,z5,rfl,rfl,zc⟩ ?_ ?_
   ·rintro i σ H7 hi ⟨rfl,u,nb,z5',rfl,hul,uc⟩
    have mb:=Yo nb hlp
    have hmy:(nb % ((tx y).length:Int)).toNat < y.length:=by rw [Zs] at mb ⊢; omega
    have hat:=ZfS (z:=y) (i:=nb % ((tx y).length:Int)) mb.1 (by rw [Zs] at mb ⊢; exact mb.2)
    refine ⟨_,rfl,_,rfl,_,rfl,_,rfl,.str (tx y),_,rfl,hleny _,_,_,rfl,rfl,hlp,tx y,_,_,rfl,rfl,ZH (by omega),hat,_,_,rfl,rfl,?_,?_⟩
    ·rw [Zs]
     exact Zg (by show u.length + 1≤1000; omega)
    generalize nb % ((tx y).length:Int)=ix at hmy
    rw [show ({ cps:=#[y.getD ix.toNat 0] }:Str)=tx [y.getD ix.toNat 0] from rfl,YD]
    refine ⟨_,rfl,_,rfl,.str (tx y),_,rfl,hleny _,_,_,rfl,rfl,⟨hlp,by rw [Zs]; omega⟩,?_⟩
    refine ⟨rfl,_,_,_,rfl,by rw [List.length_append,hul]; rfl,fun c hc=>?_⟩
    rcases List.mem_append.mp hc with q | q
    ·exact uc c q
    ·rw [List.mem_singleton.mp q]
     refine yc _ ?_
     rw [List.getD_eq_getElem?_getD,List.getElem?_eq_getElem hmy]
     exact List.getElem_mem _
   ·rintro σ H7 ⟨rfl,u,nb,z5',rfl,hul,uc⟩
    refine ⟨_,?_,u,_,_,rfl,sb6,hD6.less (by omega),by omega,uc,rfl⟩
    omega
  ·rintro σ H4 ⟨z,z4,z5,rfl,sb4,hD4,hz,zc⟩
   exact ⟨_,rfl,k z H4 sb4 hD4 hz zc⟩
abbrev ZeC:Stmt:=top 38
abbrev ZjM:List Str:=["_law_script","_law_many","_law_row","_law_left","_law_found","_law_k","_law_number"]
theorem scLDeck:Zn ZjM ["_law_script","_law_many"] (Zf ZeC):=⟨rfl,rfl,rfl,by decide +kernel,rfl,by decide +kernel,by decide +kernel⟩
def Zhr (K:PySem.W.Frag):Sp:=fun vs H Q _=>∃ (a:Addr) (ns:List Int) (m:Nat),vs=[.ref a,.int m]∧SqL K H a (ns.map V.int)∧ns.length≤63∧m≤600∧∀ D H',Same H H'→DK H' D m→Q (.ref D) H'
theorem Ze3 (D:HasDef K mg "_law_deck" ZeC ["_law_script","_law_many"]) (B:Blt mg) (g5_:FOk P w K mg base 1 "_law_mixed" ["_law_row","_law_k"] Zej):FOk P w K mg base 2 "_law_deck" ["_law_script","_law_many"] (Zhr K):=by
 refine D.ok scLDeck (fun vs H Q E h=>?_) (fun f cdv A outer s H vs Q E hr h=>?_)
 ·obtain ⟨a,ns,m,rfl,_⟩:=h
  rfl
 ·obtain ⟨a,ns,m,rfl,ha,hn,hm,k⟩:=h
  refine ⟨_,(Ze (Zm (i:=2) scLDeck.nd rfl (.inl rfl) (Zv XX rfl B.list ZbH (Zb (ZM Zep (pv 0) Z8 (ZO Zi)) Zd)))
   (Ze (Zm (i:=3) scLDeck.nd rfl (.inl rfl) (ZN Zd))
   (Ze (Yn (PW.pt (ZeO (ZA (Za8 hr.units) (pv 2) (ZN Zd) (ZJ _)) (Zb3 (ZA Zap (Zo Ya (ZP ix_list (pv 2) Zi (fun _ _=>rfl)) Zi) Zi (ZJ _))))) (Zh (Zm (i:=3) scLDeck.nd rfl (.inl rfl) (Zo JN (ZN (Zb (Zo Xc (ZP ix_list (pv 2) Zi (fun _ _=>rfl)) Zi) Zd)) (ZM Zep (pv 2) (ZO Zi) Z8)))) ZK)
   (Ze (Zm (i:=4) scLDeck.nd rfl (.inl rfl) (ZN Zd))
   (Ze (Yh PassesOwn.never rfl (YK rfl B.range (Zb (pv 1) Zd)) (ZG (i:=5) scLDeck.nd rfl (.inl rfl))
    (Ze (Zm (i:=6) scLDeck.nd rfl (.inl rfl) (Zx g5_ hr (Zb (pv 2) (Zb (pv 5) Zd))))
   (Ze (Yn (PW.pt (ZeO (ZA (Za8 hr.units) (pv 3) (ZN Zd) (ZJ _)) (Zb3 (ZA Za7 (ZP ix_list (pv 3) (Zo Ya (pv 5) (Zk Zq rfl B.len ZW (Zb (pv 3) Zd))) (fun _ _=>rfl)) (YF (Zb Zi (Zb (Xb Ye Zi) Zd))) rfl)))) (Ze (Zm (i:=6) scLDeck.nd rfl (.inl rfl) (Zo Ya (ZP ix_list (pv 3) (Zo Ya (pv 5) (Zk Zq rfl B.len ZW (Zb (pv 3) Zd))) (fun _ _=>rfl)) (Zo ZhE Zi Zi)))
   (Zh (ZhC (Zo ZgA (ZP ix_list (pv 3) (Zo Ya (pv 5) (Zk Zq rfl B.len ZW (Zb (pv 3) Zd))) (fun _ _=>rfl)) (Zo ZhE Zi Zi)) (Zjt (pv 3) (Zo Ya (pv 5) (Zk Zq rfl B.len ZW (Zb (pv 3) Zd))) Zgl)))) ZK)
   (Zh (ZS (Xl F.plainAttrs_list F.slot_list_append F.type_list_append ZL (pv 4) (Zb (pv 6) Zd)))))))
   (Zh (Zu (Zb6 rfl rfl B.list rfl B.rev (pv 4))))))))),?_⟩
  refine ⟨_,rfl,_,rfl,a,_,rfl,ha,fun p1 hp1=>?_⟩
  rw [Zk8 (ns.map V.int) (by rw [List.length_map]; exact hn)]
  refine ⟨p1,_,rfl,.inl (SqL.of Zc),fun r hr1=>?_⟩
  have s1:=(Za (o:=.lst (ns.map V.int)) hp1).trans (Za (o:=.lst (ns.map V.int)) hr1)
  have hrow:(upd (upd H p1 (.lst (ns.map V.int))) r (.lst (ns.map V.int))) r=some (.lst (ns.map V.int)):=Zc
  generalize upd (upd H p1 (.lst (ns.map V.int))) r (.lst (ns.map V.int))=H1 at s1 hrow
  refine ⟨Zg (show 0≤1000 by decide),fun lf hlf=>?_⟩
  have s2:=Za (o:=.lst []) hlf
  have hlr:lf≠r:=fun e=>by rw [e,hrow] at hlf; cases hlf
  have hlfn:H lf=none:=s1.free hlf
  have hrow2:=s2 _ _ hrow
  have hlf2:(upd H1 lf (.lst [])) lf=some (.lst (([]:List Int).map V.int)):=Zc
  have s12:=s1.trans s2
  generalize upd H1 lf (.lst [])=H2 at s12 hrow2 hlf2
  clear s2 hlf s1 hrow hr1 hp1
  dsimp only
  refine Y7 (fun σ H3=>∃ (lf:Addr) (ls:List Int),σ=[some (.ref a),some (.int m),some (.ref r),some (.ref lf),none,none,none]∧Same H H3∧H3 r=some (.lst (ns.map V.int))∧H3 lf=some (.lst (ls.map V.int))∧ls.length≤64∧H lf=none∧lf≠r) (fun R hR=>?_) ?_
  ·refine ⟨_,rfl,Zg (show 0≤1000 by decide),fun p0 hp0=>?_⟩
   have s3:=Za (o:=.lst []) hp0
   have hrow3:=s3 _ _ hrow2
   have hlf3:=s3 _ _ hlf2
   refine ⟨.list (ns.map PyData.int),.list (([]:List Int).map PyData.int),Ys hrow3,Ys (ns:=[]) Zc,Z1 ns,Z1 [],_,rfl,?_⟩
   rw [ZaG]
   have s13:=s12.trans s3
   generalize upd H2 p0 (.lst [])=H3 at s13 hrow3 hlf3
   cases ns with
   | nil=>exact Xx rfl (Xx rfl (hR _ _ ⟨lf,[],rfl,s13,hrow3,hlf3,by decide,hlfn,hlr⟩))
   | cons x xs =>
    refine X9 rfl ?_
    have h0:atI ((x :: xs).map V.int) 0=some (.int x):=ZaD (by decide) rfl
    refine ⟨_,rfl,r,_,0,.int x,rfl,rfl,SqL.of hrow3,h0,_,_,rfl,rfl,(by show (0:Int) < 2; decide),rfl,_,rfl,?_⟩
    by_cases c:x % 2=1
    rotate_left
    ·exact Xx (Zbq c) (hR _ _ ⟨lf,[],rfl,s13,hrow3,hlf3,by decide,hlfn,hlr⟩)
    refine X9 (Zdb c) ?_
    refine ⟨_,rfl,r,_,0,.int x,rfl,rfl,SqL.of hrow3,h0,_,_,rfl,rfl,⟨by decide,by decide⟩,Zg (show 1≤1000 by decide),fun q1 hq1=>?_⟩
    have t1:=Za (o:=.lst [.int (x / 2)]) hq1
    refine ⟨_,rfl,_,rfl,r,_,rfl,SqL.of (t1 _ _ hrow3),fun q2 hq2=>?_⟩
    rw [show Zha ((x :: xs).map V.int) (some 1) none=xs.map V.int from Zg9 (i:=1) (by simp)]
    have t2:=Za (o:=.lst (xs.map V.int)) hq2
    refine ⟨q1,q2,_,_,rfl,rfl,t2 _ _ Zc,Zc,Zg (by rw [List.length_map,List.length_singleton]; rw [List.length_cons] at hn; omega),fun q3 hq3=>?_⟩
    have t3:=Za (o:=.lst ([.int (x / 2)] ++ xs.map V.int)) hq3
    have hrow6:=t3 _ _ (t2 _ _ (t1 _ _ hrow3))
    refine hR _ _ ⟨q3,x / 2 :: xs,rfl,s13.trans ((t1.trans t2).trans t3),hrow6,Zc,by rw [List.length_cons] at hn ⊢; omega,s13.free ((t1.trans t2).free hq3),fun e=>?_⟩
    rw [e,(t1.trans t2) _ _ hrow3] at hq3
    cases hq3
  clear hlf2 hrow2 s12 hlr hlfn
  clear lf H2
  rintro σ H3 ⟨lf,ls,rfl,s3,hrow,hlf,hls,hlfn,hlr⟩
  refine ⟨Zg (show 0≤1000 by decide),fun fd hfd=>?_⟩
  have t4:=Za (o:=.lst []) hfd
  have hfr:fd≠r:=fun e=>by rw [e,hrow] at hfd; cases hfd
  have hfl:fd≠lf:=fun e=>by rw [e,hlf] at hfd; cases hfd
  have hfn:H fd=none:=s3.free hfd
  refine ⟨_,rfl,_,rfl,by omega,by omega,?_⟩
  rw [Int.toNat_natCast]
  refine YO (n:=m) (fun i σ H5=>∃ (ls fs:List Int) (z5 z6:Option V),σ=[some (.ref a),some (.int m),some (.ref r),some (.ref lf),some (.ref fd),z5,z6]∧Same H H5∧H5 r=some (.lst (ns.map V.int))∧H5 lf=some (.lst (ls.map V.int))∧ls.length≤64∧H5 fd=some (.lst (fs.map V.int))∧fs.length=i∧∀ x∈fs,0≤x∧x < 10 ^ 18)
   ⟨ls,[],none,none,rfl,s3.trans t4,t4 _ _ hrow,t4 _ _ hlf,hls,Zc,rfl,fun x hx=>by cases hx⟩ ?_ ?_
  ·clear t4 hfd hlf hrow s3 hls
   clear ls H3
   rintro i σ H5 hi ⟨ls,fs,z5,z6,rfl,s5,hrow,hlf,hls,hfd,hfs,hfb⟩
   refine ⟨_,rfl,_,rfl,r,ns,0 + (i:Int),rfl,hrow,hn,by omega,by omega,fun n0 H6 b0 b1 s6=>?_⟩
   have s56:=s5.trans s6
   have hrow6:=s6 _ _ hrow
   have hlf6:=s6 _ _ hlf
   have hfd6:=s6 _ _ hfd
   dsimp only
   refine Y7 (fun σ H7=>∃ (ls:List Int) (n:Int),σ=[some (.ref a),some (.int m),some (.ref r),some (.ref lf),some (.ref fd),some (.int (0 + (i:Int))),some (.int n)]∧Same H H7∧H7 r=some (.lst (ns.map V.int))∧H7 lf=some (.lst (ls.map V.int))∧ls.length≤64∧H7 fd=some (.lst (fs.map V.int))∧0≤n∧n < 10 ^ 18) (fun R hR=>?_) ?_
   ·refine ⟨_,rfl,Zg (show 0≤1000 by decide),fun p0 hp0=>?_⟩
    have t7:=Za (o:=.lst []) hp0
    have hlf7:=t7 _ _ hlf6
    have hrow7:=t7 _ _ hrow6
    have hfd7:=t7 _ _ hfd6
    refine ⟨.list (ls.map PyData.int),.list (([]:List Int).map PyData.int),Ys hlf7,Ys (ns:=[]) Zc,Z1 ls,Z1 [],_,rfl,?_⟩
    rw [ZaG]
    have s57:=s56.trans t7
    generalize upd H6 p0 (.lst [])=H7 at s57 hlf7 hrow7 hfd7
    by_cases hne:ls.length=0
    ·rw [List.length_eq_zero_iff.mp hne] at hlf7 ⊢
     exact Xx rfl (Xx rfl (hR _ _ ⟨[],n0,rfl,s57,hrow7,hlf7,by decide,hfd7,b0,by omega⟩))
    refine X9 (by cases ls with | nil=>exact absurd rfl hne | cons _ _=>rfl) ?_
    have hlp:(0:Int) < ((ls.map V.int).length:Int):=by rw [List.length_map]; omega
    have mb:=Yo (0 + (i:Int)) hlp
    have hat:=Zcp (ns:=ls) (i:=(0 + (i:Int)) % ((ls.map V.int).length:Int)) mb.1 (by have:=mb.2; rw [List.length_map] at this ⊢; exact this)
    refine ⟨_,rfl,_,rfl,_,rfl,.ref lf,_,rfl,.inl ⟨_,SqL.of hlf7,rfl⟩,_,_,rfl,rfl,hlp,lf,_,_,_,rfl,rfl,SqL.of hlf7,hat,_,rfl,Zg (show 2≤1000 by decide),fun t ht=>?_⟩
    have t8:=Za (o:=.tup [.int 0,.int (-1)]) ht
    have hlf8:=t8 _ _ hlf7
    have hrow8:=t8 _ _ hrow7
    have hfd8:=t8 _ _ hfd7
    have s58:=s57.trans t8
    refine ⟨t,_,rfl,.inr (SqT.of Zc),rfl,rfl,_,rfl,?_⟩
    generalize upd H7 t (.tup [.int 0,.int (-1)])=H8 at s58 hlf8 hrow8 hfd8
    refine Zk0 (fun _=>?_) (fun _=>hR _ _ ⟨ls,n0,rfl,s58,hrow8,hlf8,hls,hfd8,b0,by omega⟩)
    refine ⟨_,rfl,_,rfl,_,rfl,.ref lf,_,rfl,.inl ⟨_,SqL.of hlf8,rfl⟩,_,_,rfl,rfl,hlp,lf,_,_,_,rfl,rfl,SqL.of hlf8,hat,_,_,rfl,rfl,⟨by decide,by decide,by decide⟩,_,_,rfl,rfl,(by show (0:Int) < 10 ^ 18; decide),?_⟩
    have md:=Yo (ls.getD ((0 + (i:Int)) % ((ls.map V.int).length:Int)).toNat 0) (show (0:Int) < 10 ^ 18 by decide)
    refine ⟨_,rfl,_,rfl,_,rfl,.ref lf,_,rfl,.inl ⟨_,SqL.of hlf8,rfl⟩,_,_,rfl,rfl,hlp,lf,_,_,_,rfl,rfl,SqL.of hlf8,hat,_,_,rfl,rfl,⟨by decide,by decide,by decide⟩,_,_,rfl,rfl,⟨by decide,by decide +kernel⟩,?_⟩
    refine ⟨_,rfl,_,rfl,_,rfl,.ref lf,_,rfl,.inl ⟨_,SqL.of hlf8,rfl⟩,_,_,rfl,rfl,hlp,lf,_,_,((0 + (i:Int)) % ((ls.map V.int).length:Int)).toNat,rfl,rfl,hlf8,?_,?_⟩
    ·unfold ixN
     rw [if_pos mb.1,if_pos mb.2]
    refine hR _ _ ⟨ls.set ((0 + (i:Int)) % ((ls.map V.int).length:Int)).toNat ((ls.getD ((0 + (i:Int)) % ((ls.map V.int).length:Int)).toNat 0).fdiv (10 ^ 18)),_,rfl,fun b u hb=>?_,?_,?_,?_,?_,md.1,md.2⟩
    ·rw [Zj (Zl hb hlfn)]
     exact s58 b u hb
    ·rw [Zj (Ne.symm hlr)]
     exact hrow8
    ·rw [Zc,List.map_set]
     rfl
    ·rw [List.length_set]
     exact hls
    ·rw [Zj hfl]
     exact hfd8
   clear hlf6 hrow6 hfd6 s56 s6 hlf hls hfd s5 hrow b0 b1
   clear ls H6 n0
   rintro σ H7 ⟨ls,n,rfl,s7,hrow,hlf,hls,hfd,n0,n1⟩
   refine ⟨_,rfl,.inl ⟨rfl,_,SqL.of hfd⟩,_,rfl,fd,_,.int n,rfl,rfl,hfd,by rw [List.length_map]; exact ZC (by omega),?_⟩
   refine ⟨ls,fs ++ [n],_,_,rfl,fun b u hb=>?_,?_,?_,hls,?_,by rw [List.length_append,hfs]; rfl,fun x hx=>?_⟩
   ·rw [Zj (Zl hb hfn)]
    exact s7 b u hb
   ·rw [Zj (Ne.symm hfr)]
    exact hrow
   ·rw [Zj (Ne.symm hfl)]
    exact hlf
   ·rw [Zc,List.map_append]
    rfl
   ·rcases List.mem_append.mp hx with z | z
    ·exact hfb x z
    ·rw [List.mem_singleton.mp z]
     exact ⟨n0,n1⟩
  ·rintro σ H5 ⟨ls,fs,z5,z6,rfl,s5,hrow,hlf,hls,hfd,hfs,hfb⟩
   refine ⟨_,rfl,fd,_,rfl,SqL.of hfd,fun Dk hDk=>?_⟩
   exact k Dk _ (s5.trans (Za hDk)) ⟨fs.reverse,by rw [Zc,List.map_reverse],by rw [List.length_reverse]; omega,fun x hx=>hfb x (List.mem_reverse.mp hx)⟩
end
theorem Zg4 {ns:List Int} {j:Nat} (h:j < ns.length):ns.getD j 0∈ns:=by
 rw [List.getD_eq_getElem?_getD,List.getElem?_eq_getElem h]
 exact List.getElem_mem h
theorem ZkW {ns:List Int} {i:Int} {lo hi:Int} (h0:0≤i) (h1:i < ns.length) (hb:∀ x∈ns,lo≤x∧x≤hi) (hl:0≤lo):∃ v:Nat,atI (ns.map V.int) i=some (.int (v:Int))∧lo≤v∧(v:Int)≤hi:=by
 have hm:=Zg4 (ns:=ns) (j:=i.toNat) (by omega)
 have:=hb _ hm
 refine ⟨(ns.getD i.toNat 0).toNat,?_,by omega,by omega⟩
 rw [Zcp h0 h1,Int.toNat_of_nonneg (by omega)]
section
variable {P:Program} {w:World} {K:PySem.W.Frag} {mg:Str→Option Value} {base:Heap}
end
end Sh
namespace Sh
open PySem L2 PyProof.Rows
theorem ZhT {ts:Ts} {b:Str}:∀ (m:Nat) (pt:Str) (r:Str→List Nat) (G B:List Nat),WI ts b pt r G B→2 * ts.length≤m + G.length + 2 * B.length→∃ pt' r' B',WI ts b pt' r' [] B'∧r' pt'=[]
 | m,pt,r,G,B,h,hm=>by
  have hl:=h.len
  rcases List.eq_nil_or_concat (r pt) with e | ⟨X,i,e⟩
  ·rcases List.eq_nil_or_concat G with eg | ⟨Y,j,eg⟩
   ·subst eg
    exact ⟨pt,r,B,h,e⟩
   ·rw [List.concat_eq_append] at eg
    subst eg
    have h2:=h.pop e
    cases m with
    | zero =>
     rw [List.length_append,List.length_singleton] at hl hm
     omega
    | succ m =>
     refine ZhT m _ _ _ _ h2 ?_
     rw [List.length_append,List.length_singleton] at hm ⊢
     omega
  ·rw [List.concat_eq_append] at e
   have h2:=h.push e
   have hl2:=h2.len
   rw [List.length_append,List.length_singleton] at hl2
   cases m with
   | zero=>omega
   | succ m =>
    refine ZhT m _ _ _ _ h2 ?_
    rw [List.length_append,List.length_singleton]
    omega
theorem Zg1 {ts:Ts} {b:Str} (g:ZcF ts b):∃ X,Eul ts b X:=by
 obtain ⟨pt,r,B,h,e⟩:=ZhT (2 * ts.length) b (rows ts) [] [] (WI.start (ZeI ts) (ZcT ts)) (by omega)
 exact ⟨_,h.done e g⟩
theorem Zkc {ts:Ts} {u v:Str} {X:List Nat} (h:Ch ts u X v):ChP u (X.map fun i=>ts.getD i ("","")) v:=by
 induction h with
 | nil=>exact rfl
 | cons e _ ih=>exact ⟨e,ih⟩
theorem JT {ts:Ts} {b:Str} (g:ZcF ts b):∃ W v,W.Perm ts∧ChP b W v:=by
 obtain ⟨X,hp,v,hc⟩:=Zg1 g
 refine ⟨_,v,?_,Zkc hc⟩
 conv=>rhs; rw [range_getD ts ("","")]
 exact hp.map _
theorem Xu {W':List (Str × Str)} {v:Str}:∀ {W:List (Str × Str)} {u:Str},ChP u (W ++ W') v→∃ m,ChP u W m∧ChP m W' v
 | [],u,h=>⟨u,rfl,h⟩
 | t :: W,u,⟨h1,h2⟩=>by
  obtain ⟨m,q1,q2⟩:=Xu h2
  exact ⟨m,⟨h1,q1⟩,q2⟩
theorem Zgw {L a:Nat} {y:List Nat} (h1:1≤L) (h:L≤y.length):pcs (a :: y) L=tx ((a :: y).take L) :: pcs y L:=by
 rw [Zb8 ⟨h1,by rw [List.length_cons]; omega⟩,Zb8 ⟨h1,h⟩,Zf0 h1 (by omega),List.map_cons]
theorem JY {L:Nat} (h1:1≤L):∀ (Y:List Str) (b v:Str),Y≠[]→ChP b (Y.map be) v→(∀ w∈Y,w.length=L)→∃ y:List Nat,pcs y L=Y∧y.length=L - 1 + Y.length∧y.take (L - 1)=b.cps.toList∧∀ c∈y,∃ w∈Y,c∈w.cps.toList
 | [],_,_,h,_,_=>absurd rfl h
 | [w],b,v,_,⟨hb,_⟩,hl=>by
  have hw:=hl w List.mem_cons_self
  have hb':bg w=b:=hb
  refine ⟨w.cps.toList,?_,by rw [Zy,hw,List.length_singleton]; omega,?_,fun c hc=>⟨w,List.mem_cons_self,hc⟩⟩
  ·unfold pcs
   rw [Zy,hw,Nat.sub_self]
   show [tx ((w.cps.toList.drop 0).take L)]=[w]
   rw [List.drop_zero,List.take_of_length_le (by rw [Zy]; omega),tx_eta]
  ·rw [← hb']
   unfold bg
   rw [Zr,List.dropLast_eq_take,Zy,hw]
 | w :: w2 :: Y,b,v,_,⟨hb,hc⟩,hl=>by
  have hw:=hl w List.mem_cons_self
  have hb':bg w=b:=hb
  obtain ⟨y,e1,e2,e3,e4⟩:=JY h1 (w2 :: Y) (en w) v (List.cons_ne_nil _ _) hc fun x hx=>hl x (List.mem_cons_of_mem _ hx)
  have hwl:w.cps.toList.length=L:=by rw [Zy,hw]
  obtain ⟨c0,cr,ec⟩:∃ c0 cr,w.cps.toList=c0 :: cr:=by
   cases q:w.cps.toList with
   | nil=>rw [q] at hwl; simp at hwl; omega
   | cons c0 cr=>exact ⟨c0,cr,rfl⟩
  have een:(en w).cps.toList=cr:=by
   unfold en
   rw [Zr,ec]
   rfl
  rw [een] at e3
  have hyl:L≤y.length:=by rw [e2,List.length_cons]; omega
  have etk:(c0 :: y).take L=c0 :: cr:=by
   rw [show L=(L - 1) + 1 by omega,List.take_succ_cons,e3]
  refine ⟨c0 :: y,?_,by rw [List.length_cons,e2]; simp only [List.length_cons]; omega,?_,fun c hc=>?_⟩
  ·rw [Zgw h1 hyl,etk,e1,← ec,tx_eta]
  ·rw [← hb']
   unfold bg
   rw [Zr,List.dropLast_eq_take,hwl,ec]
   cases L with
   | zero=>omega
   | succ n =>
    rw [Nat.add_sub_cancel]
    cases n with
    | zero=>rfl
    | succ k =>
     rw [List.take_succ_cons,List.take_succ_cons]
     have:cr=y.take (k + 1):=by rw [← e3]; rfl
     rw [this,List.take_take,Nat.min_eq_left (Nat.le_succ k)]
  ·rcases List.mem_cons.mp hc with q | q
   ·exact ⟨w,List.mem_cons_self,by rw [ec,q]; exact List.mem_cons_self⟩
   ·obtain ⟨x,hx,hcx⟩:=e4 c q
    exact ⟨x,List.mem_cons_of_mem _ hx,hcx⟩
section
variable {ps:List Str} {L:Nat} {z:List Nat}
theorem Zd6 (h:Tx ps L z) {Y:List Str} {b v:Str} (hp:Y.Perm ps) (hc:ChP b (Y.map be) v):∃ y,pcs y L=Y∧Tx ps L y∧y.length=z.length:=by
 have hne:Y≠[]:=fun e=>h.ne (List.nil_perm.mp (e ▸ hp))
 obtain ⟨y,e1,e2,_,e4⟩:=JY h.fit.one Y b v hne hc fun w hw=>h.len (hp.mem_iff.mp hw)
 have hl:=h.pm.length_eq
 rw [ZD] at hl
 have hyl:=hp.length_eq
 have:=h.fit.le
 have:=h.fit.one
 have:=h.few
 have eyl:y.length=z.length:=by omega
 refine ⟨y,e1,⟨⟨by omega,by omega⟩,by rw [e1]; exact hp,fun c hc=>?_,by omega⟩,eyl⟩
 obtain ⟨w,hw,hcw⟩:=e4 c hc
 exact (h.ro.one w (hp.mem_iff.mp hw)).2.2 c hcw
theorem YA {α:Type} (A B:List α) (x:α):(A ++ x :: B)[A.length]?=some x:=by
 rw [List.getElem?_append_right (Nat.le_refl _),Nat.sub_self]
 rfl
theorem ZaS (h:Tx ps L z) {p s:Str} (hm:p∈ps) (hs:s∈(sb ps p).map Prod.fst):∃ y i,Tx ps L y∧y.length=z.length∧i < y.length - L + 1∧(pcs y L)[i]?=some p∧sg y L i=s:=by
 obtain ⟨⟨s',t⟩,hr,rfl⟩:=List.mem_map.mp hs
 unfold sb at hr
 obtain ⟨⟨s2,o⟩,hro,hk⟩:=List.mem_filterMap.mp hr
 unfold Zcr at hk
 obtain ⟨t2,ht,e⟩:=Option.map_eq_some_iff.mp hk
 have ht':o=some t2:=ht
 subst ht'
 injection e with e1 e2
 have e1':s2=s':=e1
 subst e1'
 clear hk e2 hr hs
 show ∃ y i,Tx ps L y∧y.length=z.length∧i < y.length - L + 1∧(pcs y L)[i]?=some p∧sg y L i=s2
 obtain ⟨hp1,hO1⟩:=Yk (ps.erase p)
 have hpl:=h.len hm
 have one:=h.fit.one
 have hpe:(p :: ps.erase p).Perm ps:=(List.perm_cons_erase hm).symm
 unfold Yf at hro
 rcases List.mem_cons.mp hro with q | q
 ·injection q with q1 q2
  subst q1
  have g:ZcF (tsT (ZfD ps p)) (stF ps (en p)):=Classical.byContradiction fun n=>by
   unfold ZiO at q2
   rw [ZcI n] at q2
   cases q2
  unfold ZfD at g
  rw [Yj hO1,J2] at g
  obtain ⟨W,v,hW,hc⟩:=JT g
  have hF:∀ x∈ZI hp1,x.length=L:=fun x hx=>h.len (List.mem_of_mem_erase ((ZV hO1).mem_iff.mp hx))
  obtain ⟨W1,W2,eW⟩:=List.append_of_mem (hW.mem_iff.mpr (List.mem_append_right _ (List.mem_singleton.mpr rfl)))
  subst eW
  have hW2:W2=[]:=by
   cases W2 with
   | nil=>rfl
   | cons t W2 =>
    exfalso
    obtain ⟨m,_,_,hc3⟩:=Xu hc
    have ht:t.1=p:=hc3.1
    have hmt:t∈(ZI hp1).map be ++ [(bg p,p)]:=hW.mem_iff.mp (List.mem_append_right _ (List.mem_cons_of_mem _ List.mem_cons_self))
    have hlen:t.1.length=L - 1:=by
     rcases List.mem_append.mp hmt with q | q
     ·obtain ⟨x,hx,rfl⟩:=List.mem_map.mp q
      show (bg x).length=L - 1
      rw [ZbG,hF x hx]
     ·rw [List.mem_singleton.mp q]
      show (bg p).length=L - 1
      rw [ZbG,hpl]
    rw [ht,hpl] at hlen
    omega
  subst hW2
  obtain ⟨m,hc1,hc2⟩:=Xu hc
  have hm1:bg p=m:=hc2.1
  have hW1:W1.Perm ((ZI hp1).map be):=(List.perm_append_right_iff _).mp hW
  obtain ⟨Y,hY,eY⟩:=Zav hW1 rfl
  subst eY
  have hYc:ChP (stF ps (en p)) ((Y ++ [p]).map be) (en p):=by
   rw [List.map_append]
   exact XN hc1 ⟨hm1,rfl⟩
  obtain ⟨y,ey,hT,hyl⟩:=Zd6 h (((List.perm_append_singleton p Y).trans (List.Perm.cons p (hY.trans (ZV hO1)))).trans hpe) hYc
  have hnum:=ZD y L
  rw [ey,List.length_append,List.length_singleton] at hnum
  refine ⟨y,Y.length,hT,hyl,by omega,by rw [ey]; exact YA Y [] p,?_⟩
  unfold sg
  rw [List.drop_of_length_le (by have:=hT.fit.le; omega)]
  rfl
 ·obtain ⟨e,he,q⟩:=List.mem_map.mp q
  injection q with q1 q2
  have q1':e.1=s2:=q1
  rw [Yj hO1] at he
  obtain ⟨x,hx,xb,xl⟩:=Zaq he
  have hxm:x.1∈ps.erase p:=(hO1.mem _).mp (List.mem_map.mpr ⟨x,hx,rfl⟩)
  have hxl:=h.len (List.mem_of_mem_erase hxm)
  have exo:en p ++ e.1=x.1:=by rw [xl]; exact Zdg (by omega) xb
  rw [← q1']
  have g:ZcF (tsT (Jb ps p e.1)) (stF ps (bg p)):=Classical.byContradiction fun n=>by
   unfold ZaQ at q2
   rw [ZcI n] at q2
   cases q2
  obtain ⟨hp2,hO2⟩:=Yk ((ps.erase p).erase x.1)
  unfold Jb at g
  rw [exo,Yj hO2,J2] at g
  obtain ⟨W,v,hW,hc⟩:=JT g
  obtain ⟨W1,W2,eW⟩:=List.append_of_mem (hW.mem_iff.mpr (List.mem_append_right _ (List.mem_singleton.mpr rfl)))
  subst eW
  obtain ⟨m,hc1,hm1,hc2⟩:=Xu hc
  have hm1':bg p=m:=hm1
  have hW12:(W1 ++ W2).Perm ((ZI hp2).map be):=by
   have q3:=(List.perm_middle (l₁:=W1) (a:=(bg p,en x.1)) (l₂:=W2)).symm.trans hW
   exact (List.perm_cons _).mp (q3.trans (List.perm_append_singleton _ _))
  obtain ⟨Y,hY,eY⟩:=Zav hW12 rfl
  have eY1:W1=(Y.take W1.length).map be:=by
   rw [List.map_take,← eY,List.take_left]
  have eY2:W2=(Y.drop W1.length).map be:=by
   rw [List.map_drop,← eY,List.drop_left]
  rw [eY1] at hc1
  rw [eY2] at hc2
  have hYc:ChP (stF ps (bg p)) ((Y.take W1.length ++ p :: x.1 :: Y.drop W1.length).map be) v:=by
   rw [List.map_append]
   exact XN hc1 ⟨hm1',xb,hc2⟩
  have hYp:(Y.take W1.length ++ p :: x.1 :: Y.drop W1.length).Perm ps:=by
   refine (List.perm_middle.trans (List.Perm.cons p List.perm_middle)).trans ?_
   refine List.Perm.trans (List.Perm.cons p ?_) hpe
   refine List.Perm.trans (List.Perm.cons x.1 ?_) (List.perm_cons_erase hxm).symm
   rw [List.take_append_drop]
   exact hY.trans (ZV hO2)
  obtain ⟨y,ey,hT,hyl⟩:=Zd6 h hYp hYc
  have hnum:=ZD y L
  rw [ey,List.length_append,List.length_cons,List.length_cons] at hnum
  refine ⟨y,(Y.take W1.length).length,hT,hyl,by omega,by rw [ey]; exact YA _ _ _,?_⟩
  have hyf:=hT.fit.le
  have en2:(pcs y L)[(Y.take W1.length).length + 1]?=some x.1:=by
   rw [ey,List.getElem?_append_right (by omega),show (Y.take W1.length).length + 1 - (Y.take W1.length).length=1 by omega]
   rfl
  rw [Z4 (by omega)] at en2
  rw [← Zfm one (by omega),Option.some.inj en2,xl]
theorem ZbQ:∀ l:List (Str × Option Str),((l.filterMap Zcr).map Prod.fst).Sublist (l.map Prod.fst)
 | []=>List.Sublist.refl _
 | (s,none) :: l=>by
  rw [List.filterMap_cons]
  exact (ZbQ l).cons _
 | (s,some t) :: l=>by
  rw [List.filterMap_cons]
  exact (ZbQ l).cons₂ _
theorem Zki {a:List Nat} {c d:Nat} (h:a ++ [c] < a ++ [d]):c < d:=by
 induction a with
 | nil =>
  have h':[c] < [d]:=h
  rcases List.cons_lt_cons_iff.mp h' with q | q
  ·exact q
  ·exact absurd q.2 (List.lt_irrefl _)
 | cons x a ih =>
  rcases List.cons_lt_cons_iff.mp (show x :: (a ++ [c]) < x :: (a ++ [d]) from h) with q | q
  ·exact absurd q (Nat.lt_irrefl _)
  ·exact ih q.2
theorem Zim {qs:List Str} {hp:Es} {y:Str} (hO:Zz qs hp) (hl:∀ x∈qs,1≤x.length):(((nxt hp y).map Prod.fst).map fun x=>x.cps.toList).Pairwise (· < ·):=by
 unfold nxt
 rw [List.map_map,List.map_map,List.pairwise_map]
 have h:=(List.pairwise_map.mp hO.srt).filter fun e:Str × Int=>decide (bg e.1=y)
 refine List.Pairwise.imp_of_mem ?_ h
 intro a b ma mb hab
 obtain ⟨ma1,ma2⟩:=List.mem_filter.mp ma
 obtain ⟨mb1,mb2⟩:=List.mem_filter.mp mb
 have la:=hl a.1 ((hO.mem _).mp (List.mem_map.mpr ⟨a,ma1,rfl⟩))
 have lb:=hl b.1 ((hO.mem _).mp (List.mem_map.mpr ⟨b,mb1,rfl⟩))
 have ea:=of_decide_eq_true ma2
 have eb:=of_decide_eq_true mb2
 rw [ZbF la,ZbF lb,ea,eb] at hab
 show (lc a.1).cps.toList < (lc b.1).cps.toList
 rw [Zbm la,Zbm lb,Zr,Zr]
 exact List.cons_lt_cons_iff.mpr (.inl (Zki hab))
theorem Zhu (h:RO ps) {p:Str}:(((sb ps p).map Prod.fst).map fun x=>x.cps.toList).Pairwise (· < ·):=by
 obtain ⟨hp1,hO1⟩:=Yk (ps.erase p)
 have hs:=(ZbQ (Yf ps p)).map fun x:Str=>x.cps.toList
 refine List.Pairwise.sublist hs ?_
 unfold Yf
 rw [Yj hO1,List.map_cons,List.map_cons,List.pairwise_cons]
 have hn:=Zim (y:=en p) hO1 fun x hx=>((h.erase p).one x hx).1
 rw [List.map_map] at *
 constructor
 ·intro c hc
  obtain ⟨r,hr,rfl⟩:=List.mem_map.mp hc
  obtain ⟨e,he,rfl⟩:=List.mem_map.mp hr
  obtain ⟨x,hx,xb,xl⟩:=Zaq he
  show [] < (e.1).cps.toList
  rw [xl]
  exact List.nil_lt_cons _ _
 ·rw [List.map_map]
  exact hn
end
end Sh
namespace Sh
open PySem L2 PyProof.Rows
seal L2.PE L2.PS L2.PSs L2.PT L2.PW L2.PA L2.PI L2.PG L2.PGs L2.PO L2.PC L2.PCs L2.OpR L2.UnR L2.CallR L2.MtR L2.IxR L2.SlR
theorem Zj8 {a b:List Nat}:decide (V.str (tx a)=V.str (tx b))=decide (a=b):=by
 rw [Bool.eq_iff_iff,decide_eq_true_eq,decide_eq_true_eq]
 exact ⟨fun e=>ZcH (by injection e),fun e=>by rw [e]⟩
theorem Zgd {t:List Nat} {a:Nat} (h:a≤t.length) {i j:Int} (ei:i=a) (ej:j=a + 1):Txt.slice (tx t) (some i) (some j)=tx ((t.drop a).take 1):=by
 subst ei ej
 by_cases c:a < t.length
 ·rw [Xg (z:=t) (a:=a) (b:=a + 1) rfl (by omega) (by omega) (by omega)]
  unfold seg
  rw [Nat.add_sub_cancel_left]
 ·have ea:a=t.length:=by omega
  subst ea
  have e:Txt.slice (tx t) (some (t.length:Int)) (some ((t.length:Int) + 1))=Txt.slice (tx t) (some (t.length:Int)) (some (t.length:Int)):=by
   unfold Txt.slice Builtin.Str.strSliceIndices
   simp only [Zs]
   rw [if_neg (show ¬ ((t.length:Int) + 1) < 0 by omega),if_neg (show ¬ (t.length:Int) < 0 by omega),show min ((t.length:Int) + 1) (t.length:Int)=min (t.length:Int) (t.length:Int) by omega]
   simp only [if_pos (show (1:Int) > 0 by decide)]
  rw [e,Xg (z:=t) (a:=t.length) (b:=t.length) rfl rfl (Nat.le_refl _) (Nat.le_refl _)]
  unfold seg
  rw [Nat.sub_self,List.take_zero,List.drop_of_length_le (Nat.le_refl _)]
  rfl
def beh (t pd:List Nat) (n:Nat):List Str:=((List.range n).filter fun i=>decide ((t.drop i).take pd.length=pd)).map fun i=>sg t pd.length i
theorem ZcA (t pd:List Nat) (n:Nat):(beh t pd n).length≤n:=by
 unfold beh
 rw [List.length_map]
 have:=List.length_filter_le (fun i=>decide ((t.drop i).take pd.length=pd)) (List.range n)
 rw [List.length_range] at this
 exact this
theorem beh_mem {t pd:List Nat} {n:Nat} {s:Str}:s∈beh t pd n↔∃ i,i < n∧(t.drop i).take pd.length=pd∧sg t pd.length i=s:=by
 unfold beh
 rw [List.mem_map]
 constructor
 ·rintro ⟨i,hi,e⟩
  obtain ⟨h1,h2⟩:=List.mem_filter.mp hi
  exact ⟨i,List.mem_range.mp h1,of_decide_eq_true h2,e⟩
 ·rintro ⟨i,h1,h2,e⟩
  exact ⟨i,List.mem_filter.mpr ⟨List.mem_range.mpr h1,decide_eq_true h2⟩,e⟩
section
variable {P:Program} {w:World} {K:PySem.W.Frag} {mg:Str→Option Value} {base:Heap}
abbrev Zaj:Stmt:=top 42
abbrev ZgK:List Str:=["_law_signs_here","_law_piece","_law_found","_law_at"]
theorem scLBehind:Zn ZgK ["_law_signs_here","_law_piece"] (Zf Zaj):=⟨rfl,rfl,rfl,by decide +kernel,rfl,by decide +kernel,by decide +kernel⟩
def ZaW:Sp:=fun vs H Q _=>∃ t pd:List Nat,vs=[.str (tx t),.str (tx pd)]∧pd.length≤t.length∧t.length≤100∧∀ q H',Same H H'→H' q=some (.lst ((beh t pd (t.length - pd.length + 1)).map V.str))→Q (.ref q) H'
theorem Zce (D:HasDef K mg "_law_behind" Zaj ["_law_signs_here","_law_piece"]) (B:Blt mg):FOk P w K mg base 1 "_law_behind" ["_law_signs_here","_law_piece"] ZaW:=by
 refine D.ok scLBehind (fun vs H Q E h=>?_) (fun f cdv A outer s H vs Q E hr h=>?_)
 ·obtain ⟨t,pd,rfl,_⟩:=h
  rfl
 ·obtain ⟨t,pd,rfl,hl,ht,k⟩:=h
  refine ⟨_,(Ze (Zm (i:=2) scLBehind.nd rfl (.inl rfl) (ZN Zd))
   (Ze (Yh PassesOwn.never rfl (YK rfl B.range (Zb (Zo ZU (Zo YM (Zk Zq rfl B.len ZW (Zb (pv 0) Zd)) (Zk Zq rfl B.len ZW (Zb (pv 1) Zd))) Zi) Zd)) (ZG (i:=3) scLBehind.nd rfl (.inl rfl))
    (Zh (Yn (ZA Zap (ZM Yr (pv 0) (ZO (pv 3)) (ZO (Zo ZU (pv 3) (Zk Zq rfl B.len ZW (Zb (pv 1) Zd))))) (pv 1) (ZJ _)) (Zh (ZS (Xl F.plainAttrs_list F.slot_list_append F.type_list_append ZL (pv 2) (Zb (ZM Yr (pv 0) (ZO (Zo ZU (pv 3) (Zk Zq rfl B.len ZW (Zb (pv 1) Zd)))) (ZO (Zo ZU (Zo ZU (pv 3) (Zk Zq rfl B.len ZW (Zb (pv 1) Zd))) Zi))) Zd)))) ZK)))
   (Zh (Zu (pv 2))))),?_⟩
  have lt:∀ H',ZiX K (.str (tx t)) H' t.length:=fun H'=>⟨ZH (by omega),(Zs t).symm⟩
  have lp:∀ H',ZiX K (.str (tx pd)) H' pd.length:=fun H'=>⟨ZH (by omega),(Zs pd).symm⟩
  refine ⟨Zg (show 0≤1000 by decide),fun l hl0=>?_⟩
  have s1:=Za (o:=.lst []) hl0
  refine ⟨_,rfl,.str (tx t),t.length,rfl,lt _,_,rfl,.str (tx pd),pd.length,rfl,lp _,_,_,rfl,rfl,_,_,rfl,rfl,_,rfl,by omega,by omega,?_⟩
  rw [show ((t.length:Int) - (pd.length:Int) + 1).toNat=t.length - pd.length + 1 by omega]
  refine YO (n:=t.length - pd.length + 1) (fun i σ H2=>∃ z3:Option V,σ=[some (.str (tx t)),some (.str (tx pd)),some (.ref l),z3]∧Same H H2∧H2 l=some (.lst ((beh t pd i).map V.str)))
   ⟨none,rfl,s1,Zc⟩ ?_ ?_
  ·rintro i σ H2 hi ⟨z3,rfl,s2,hl2⟩
   rw [Int.zero_add]
   refine ⟨_,rfl,_,rfl,_,rfl,_,rfl,_,rfl,.str (tx pd),pd.length,rfl,lp _,_,_,rfl,rfl,_,rfl,tx t,rfl,ZH (by omega),?_⟩
   rw [Xg (z:=t) (a:=i) (b:=i + pd.length) rfl (by omega) (by omega) (by omega)]
   refine ⟨_,rfl,rfl,_,rfl,?_⟩
   rw [Zj8]
   have es:seg t i (i + pd.length)=(t.drop i).take pd.length:=by
    unfold seg
    rw [Nat.add_sub_cancel_left]
   rw [es]
   have eb:beh t pd (i + 1)=beh t pd i ++ (if (t.drop i).take pd.length=pd then [sg t pd.length i] else []):=by
    unfold beh
    rw [List.range_succ,List.filter_append,List.map_append]
    congr 1
    by_cases c:(t.drop i).take pd.length=pd
    ·simp [c]
    ·simp [c]
   rw [eb]
   refine Zk0 (fun c=>?_) (fun c=>?_)
   ·rw [if_pos (of_decide_eq_true c)]
    refine ⟨_,rfl,.inl ⟨rfl,_,SqL.of hl2⟩,_,rfl,_,rfl,_,rfl,.str (tx pd),pd.length,rfl,lp _,_,_,rfl,rfl,_,rfl,_,rfl,_,rfl,.str (tx pd),pd.length,rfl,lp _,_,_,rfl,rfl,_,_,rfl,rfl,_,rfl,tx t,rfl,ZH (by omega),?_⟩
    rw [Zgd (a:=i + pd.length) (by omega) (by omega) (by omega)]
    have hbl:=ZcA t pd i
    refine ⟨l,_,_,rfl,rfl,hl2,Zg (by rw [List.length_map]; omega),?_⟩
    refine ⟨_,rfl,ZT s2 hl0,?_⟩
    rw [Zc,List.map_append]
    rfl
   ·rw [if_neg (fun q=>c (decide_eq_true q)),List.append_nil]
    exact ⟨_,rfl,s2,hl2⟩
  ·rintro σ H2 ⟨z3,rfl,s2,hl2⟩
   exact ⟨_,rfl,k l H2 s2 hl2⟩
abbrev ZeD:Stmt:=top 43
abbrev ZjN:List Str:=["_law_signs_here"]
theorem Zh8:Zn ZjN ["_law_signs_here"] (Zf ZeD):=⟨rfl,rfl,rfl,by decide +kernel,rfl,by decide +kernel,by decide +kernel⟩
def Zel:Sp:=fun vs H Q _=>∃ t:List Nat,vs=[.str (tx t)]∧t.length≤100∧∀ H',Same H H'→Q (.str (tx t.reverse)) H'
theorem Ze4 (D:HasDef K mg "_law_back" ZeD ["_law_signs_here"]) (B:Blt mg):FOk P w K mg base 1 "_law_back" ["_law_signs_here"] Zel:=by
 refine D.ok Zh8 (fun vs H Q E h=>?_) (fun f cdv A outer s H vs Q E hr h=>?_)
 ·obtain ⟨t,rfl,_⟩:=h
  rfl
 ·obtain ⟨t,rfl,ht,k⟩:=h
  refine ⟨_,(Zh (Zu (Xl F.plainAttrs_str F.slot_str_join F.type_str_join Zfg Xk (Zb (ZdC rfl rfl B.list rfl B.rev (pv 0)) Zd)))),?_⟩
  refine ⟨rfl,_,rfl,tx t,rfl,ZH (by omega),fun p hp=>?_⟩
  rw [Zr]
  have s1:=Za (o:=.lst (t.reverse.map fun c=>V.str (tx [c]))) hp
  refine ⟨"",p,t.reverse.map fun c=>tx [c],rfl,rfl,SqL.of (by rw [Zc,List.map_map]; rfl),?_,?_⟩
  ·have h2:∀ x∈t.reverse.map fun c=>tx [c],x.length≤2:=fun x hx=>by
    obtain ⟨c,_,rfl⟩:=List.mem_map.mp hx
    rw [Zs]
    exact Nat.le_succ _
   have hs:=ZbN h2
   rw [List.length_map,List.length_reverse] at hs
   have:("" : Str).length=0:=rfl
   rw [this,Nat.mul_zero]
   omega
  have ej:Txt.join "" (t.reverse.map fun c=>tx [c])=tx t.reverse:=by
   rw [← tx_eta (Txt.join _ _),JR,List.flatMap_map]
   congr 1
   have:∀ l:List Nat,(l.flatMap fun c=>(tx [c]).cps.toList)=l:=fun l=>by
    induction l with
    | nil=>rfl
    | cons c l ih=>rw [List.flatMap_cons,ih,Zr]; rfl
   exact this _
  rw [ej]
  exact k _ s1
abbrev Yw:Stmt:=top 45
abbrev Jp:List Str:=["_law_pairs"]
theorem Za0:Zn Jp ["_law_pairs"] (Zf Yw):=⟨rfl,rfl,rfl,by decide +kernel,rfl,by decide +kernel,by decide +kernel⟩
def Zeg:Sp:=fun vs H Q _=>∃ (v:V) (rs:List (Str × Str)),vs=[v]∧TupR H v rs∧rs.length≤1000∧∀ q H',Same H H'→H' q=some (.lst ((rs.map Prod.fst).map V.str))→Q (.ref q) H'
theorem Jn (D:HasDef K mg "_law_told_signs" Yw ["_law_pairs"]) (B:Blt mg):FOk P w K mg base 1 "_law_told_signs" ["_law_pairs"] Zeg:=by
 refine D.ok Za0 (fun vs H Q E h=>?_) (fun f cdv A outer s H vs Q E hr h=>?_)
 ·obtain ⟨v,rs,rfl,_⟩:=h
  rfl
 ·obtain ⟨v,rs,rfl,⟨q,us,rfl,hq,hrs⟩,hl,k⟩:=h
  refine ⟨_,(Ze (Yn (ZhB (ZeP (Zk ZfP rfl B.isi Zla (Zb (pv 0) (Zb (ZkQ rfl B.tuple Yl) Zd))))) (Zh (Zu Za4)) ZK)
   (Zh (Zu (ZX (Zf Yw) Jp ["_law_pair"] [] rfl (Yi (pv 0)) (fun _ _ _ _ _=>Yy 0) (fun _ _ _ _ _=>YL) (fun _ _ _ _ _=>(ZP (ZaC K) (pv 0) Zi (fun _ _=>rfl))))))),?_⟩
  refine ⟨_,rfl,.ref q,"tuple","tuple",rfl,by decide,.tup hq,_,rfl,Xx (by decide) ?_⟩
  refine ⟨_,rfl,q,rfl,⟨_,SqT.of hq⟩,Jq us.length (fun i=>us.getD i .non) (fun i v _=>v = .str (rs.getD i ("","")).1) (Zg (by rw [hrs.1]; omega)) (fun _ _ _ _ _ r=>r) (Xq (SqT.of hq)) ?_ ?_⟩
  ·intro i H1 Qe hi hs kq
   have hie:i < rs.length:=by rw [← hrs.1]; exact hi
   obtain ⟨b,e1,e2⟩:=hrs.2 i rs[i] (List.getElem?_eq_getElem hie)
   have eu:us.getD i .non = .ref b:=by rw [List.getD_eq_getElem?_getD,e1]; rfl
   have eh:rs.getD i ("","")=rs[i]:=by rw [List.getD_eq_getElem?_getD,List.getElem?_eq_getElem hie]; rfl
   rw [eh] at kq
   rw [eu]
   exact ⟨_,rfl,b,_,0,_,rfl,rfl,SqT.of (hs _ _ e2),rfl,kq _ _ (Same.refl _) rfl⟩
  intro D1 vs1 H1 hl1 hr1 hs1 hD1 hDl1
  refine k D1 H1 hs1 ?_
  rw [hDl1]
  congr 2
  apply List.ext_getElem?
  intro i
  by_cases hi:i < rs.length
  ·have hiv:i < vs1.length:=by rw [hl1,hrs.1]; exact hi
   rw [List.getElem?_eq_getElem hiv,hr1 i vs1[i] (List.getElem?_eq_getElem hiv),List.getElem?_map,List.getElem?_map,List.getElem?_eq_getElem hi,List.getD_eq_getElem?_getD,List.getElem?_eq_getElem hi]
   rfl
  ·rw [List.getElem?_eq_none (by rw [hl1,hrs.1]; omega),List.getElem?_eq_none (by rw [List.length_map,List.length_map]; omega)]
end
end Sh
namespace L2
open PySem PySem.Spec PyProof.Rows
theorem ZfO {X:Cx} (hc:X.calm=true):CallR X (.builtin "sum") (fun xs H Q=>∃ (a:Addr) (ns:List Int),xs=[.ref a]∧SqL X.K H a (ns.map V.int)∧Q (.int ns.sum) H):=by
 intro pins s σ H xs us Q I r h
 obtain ⟨a,ns,rfl,hq,q⟩:=h
 obtain ⟨u,rfl,ru⟩:=Y5 r
 cases ru
 obtain ⟨its,rv,pl,hz⟩:=I.list hq
 have hl:=rv.length
 rw [List.length_map] at hl
 have hlt:a < s.heap.objs.size:=by
  obtain ⟨o,n,e,_⟩:=pl
  exact Heap.lt_size e
 refine call_sum_walkG (wpAny_pyIter_list pl.isList ⟨s.heap.objs.size,[s.heap.objs.size,a],[s.heap.objs.size],its.toArray.size,_,_,fun i=>ns.getD i 0,rfl,Walks.list (A:=X.A.in1) (I.ok.hd hc) _ _ (Nat.ne_of_lt hlt) its.toArray,
  ⟨⟨_,Heap.get?_push_size _ rfl,rfl,rfl⟩,pl.isList.push _⟩,?_,?_,?_⟩)
 ·intro b hb
  show b < (s.heap.push _).objs.size
  rw [Heap.size_push]
  have:b=s.heap.objs.size∨b=a:=by simpa using hb
  rcases this with z | z
  ·rw [z]; exact Nat.lt_succ_self _
  ·rw [z]; exact Nat.lt_succ_of_lt hlt
 ·intro i v hv
  have e1:its[i]?=some v:=by simpa using hv
  have hi:i < its.length:=(List.getElem?_eq_some_iff.mp e1).1
  have hb:(ns.map V.int)[i]?=some (.int (ns.getD i 0)):=by
   rw [List.getElem?_map,List.getD_eq_getElem?_getD]
   cases e:ns[i]? with
   | none=>exact absurd (List.getElem?_eq_none_iff.mp e) (by omega)
   | some b=>rfl
  obtain ⟨u',hu,ru⟩:=rv.get hb
  rw [e1] at hu
  cases hu
  exact ru
 ·intro h' tk t' kk
  refine ⟨.int ns.sum,H,I.kept fun b o e=>kk b o (by simpa using Nat.ne_of_lt (Heap.lt_size e)) (Heap.get?_push_of_some _ e),⟨t',?_⟩,q⟩
  rw [Yx,List.take_of_length_le (by rw [List.size_toArray]; omega)]
def NL (H H':Hp):Prop:=∀ b u,(∀ xs,u≠HO.lst xs)→H b=some u→H' b=some u
theorem NL.trans {H H1 H2:Hp} (a:NL H H1) (b:NL H1 H2):NL H H2:=fun c u n e=>b c u n (a c u n e)
theorem Same.nl {H H':Hp} (s:Same H H'):NL H H':=fun b u _ e=>s b u e
theorem ZcZ {H:Hp} {l:Addr} {xs ys:List V} (h:H l=some (.lst xs)):NL H (upd H l (.lst ys)):=fun b u n e=>by
 rw [Zj fun q=>n xs (by rw [q,h] at e; exact (Option.some.inj e).symm)]
 exact e
theorem ZiA {k:Nat} {mp:List Nat} {σ:St} {g:TG} {te:TE} {J:It} {H1:Hp} {Q:VK} (n:Nat) (xs:Nat→V) (R:Nat→V→Hp→Prop) (hn:n≤sizeLine)
  (hR:∀ i v H H',NL H H'→R i v H→R i v H')
  (hJ:∀ H,Same H1 H→(∀ i,i < n→J.go i H∧∀ x H',J.yld i H x H'→H'=H∧x=xs i)∧J.stop n H)
  (step:∀ i H (Qe:VK),i < n→Same H1 H→(∀ v H6,Same H H6→R i v H6→Qe v H6)→g (xs i) (lcS k mp σ) H fun σ4 H4=>te σ4 H4 Qe)
  (done:∀ D vs H',vs.length=n→(∀ i v,vs[i]?=some v→R i v H')→Same H1 H'→H1 D=none→H' D=some (.lst vs)→Q (.ref D) H'):Jr k mp σ g Zkm te J H1 Q:=by
 intro D hD
 refine ⟨fun i m acc H=>m=n - i∧i≤n∧acc.length=i∧Same H1 H∧H D=some (.lst acc)∧∀ j v,acc[j]?=some v→R j v H,⟨n,by simp,Nat.zero_le _,rfl,Za hD,Zc,fun j v e=>by simp at e⟩,?_⟩
 rintro i m acc H ⟨rfl,hi,hl,hs,hDa,hr⟩
 obtain ⟨j1,j2⟩:=hJ H hs
 by_cases hlt:i < n
 ·refine .inr ⟨(j1 i hlt).1,fun x H3 y=>?_⟩
  obtain ⟨e1,e2⟩:=(j1 i hlt).2 x H3 y
  subst e1 e2
  refine step i H3 _ hlt hs fun v H6 s6 r6=>⟨s6 _ _ hDa,by omega,n - (i + 1),by omega,rfl,hlt,by rw [List.length_append,hl]; rfl,fun b o e=>?_,Zc,fun j u e=>?_⟩
  ·rw [Zj (Zl e hD)]
   exact s6 _ _ (hs b o e)
  ·have ts:NL H6 (upd H6 D (.lst (acc ++ [v]))):=ZcZ (s6 _ _ hDa)
   rcases Nat.lt_trichotomy j acc.length with h | h | h
   ·rw [List.getElem?_append_left h] at e
    exact hR _ _ _ _ (s6.nl.trans ts) (hr j u e)
   ·subst h
    rw [List.getElem?_append_right (Nat.le_refl _),Nat.sub_self] at e
    cases e
    rw [hl]
    exact hR _ _ _ _ ts r6
   ·rw [List.getElem?_eq_none (by rw [List.length_append,List.length_singleton]; omega)] at e
    cases e
 ·have e:i=n:=by omega
  subst e
  exact .inl ⟨j2,done D acc H hl hr hs hD hDa⟩
end L2
namespace Sh
open PySem L2 PyProof.Rows
def fct:Nat→Nat
 | 0=>1
 | n + 1=>(n + 1) * fct n
theorem ZaF:∀ n,1≤fct n
 | 0=>Nat.le_refl _
 | n + 1=>Nat.mul_pos (Nat.succ_pos n) (ZaF n)
def pre (z:List Nat) (L:Nat):List Str:=(List.range (z.length - L)).map fun i=>tx ((z.drop i).take L)
theorem Zb4 (z:List Nat) (L:Nat):(pre z L).length=z.length - L:=by
 unfold pre
 rw [List.length_map,List.length_range]
theorem ZeY {z:List Nat} {L:Nat} (h:L≤z.length):pcs z L=pre z L ++ [tx (Zw L z)]:=by
 unfold pcs pre Zw
 rw [List.range_succ,List.map_append]
 congr 1
 show [tx ((z.drop (z.length - L)).take L)]=_
 rw [List.take_of_length_le (by rw [List.length_drop]; omega)]
theorem Zjq {z w:List Nat} {L n:Nat} (h:n + L≤z.length + 1):(List.range n).map (fun i=>tx (((z ++ w).drop i).take L))=(List.range n).map fun i=>tx ((z.drop i).take L):=by
 refine List.map_congr_left fun i hi=>?_
 have:=List.mem_range.mp hi
 rw [List.drop_append_of_le_length (by omega),List.take_append_of_le_length (by rw [List.length_drop]; omega)]
theorem Zgt {z:List Nat} {L c:Nat} (h:L≤z.length):pre (z ++ [c]) L=pcs z L:=by
 unfold pre pcs
 rw [List.length_append,List.length_singleton,show z.length + 1 - L=z.length - L + 1 by omega]
 by_cases c0:L=0
 ·subst c0
  refine List.map_congr_left fun i hi=>?_
  rw [List.take_zero,List.take_zero]
 ·refine List.map_congr_left fun i hi=>?_
  have:=List.mem_range.mp hi
  rw [List.drop_append_of_le_length (by omega),List.take_append_of_le_length (by rw [List.length_drop]; omega)]
abbrev Itm:=List Nat × List Str
structure IOk (ps:List Str) (L:Nat) (it:Itm):Prop where
 le:L≤it.1.length
 pm:(pre it.1 L ++ it.2).Perm ps
 cd:Cd it.1
section
variable {ps:List Str} {L:Nat} {it:Itm}
theorem IOk.num (h:IOk ps L it):it.1.length - L + it.2.length=ps.length:=by
 rw [← h.pm.length_eq,List.length_append,Zb4]
theorem IOk.full (h:IOk ps L it) (hm:tx (Zw L it.1)∈it.2):(pcs it.1 L ++ it.2.erase (tx (Zw L it.1))).Perm ps:=by
 rw [ZeY h.le,List.append_assoc]
 exact (List.Perm.append_left _ (List.perm_cons_erase hm).symm).trans h.pm
theorem IOk.next (h:IOk ps L it) (hm:tx (Zw L it.1)∈it.2) {c:Nat} (hc:c < 1000):IOk ps L (it.1 ++ [c],it.2.erase (tx (Zw L it.1))) where
 le:=by
  have:=h.le
  show L≤(it.1 ++ [c]).length
  rw [List.length_append]
  omega
 pm:=by
  show (pre (it.1 ++ [c]) L ++ _).Perm ps
  rw [Zgt h.le]
  exact h.full hm
 cd:=fun d hd=>by
  rcases List.mem_append.mp hd with q | q
  ·exact h.cd d q
  ·rw [List.mem_singleton.mp q]
   exact hc
theorem ZjA {t made w:List Nat} (e:t=made ++ w) (h1:1≤L) (h:L≤made.length):pcs t L=pre made L ++ tx (Zw L made) :: (pcs t L).drop (made.length - L + 1):=by
 conv=>lhs; rw [← List.take_append_drop (made.length - L + 1) (pcs t L)]
 have:(pcs t L).take (made.length - L + 1)=pcs made L:=by
  unfold pcs
  rw [← List.map_take,List.take_range,Nat.min_eq_left (by rw [e,List.length_append]; omega),e]
  exact Zjq (by omega)
 rw [this,ZeY h,List.append_assoc]
 rfl
theorem Zdk {t:List Nat} (hT:Tx ps L t) (h:IOk ps L it) (hp:it.1 <+: t):tx (Zw L it.1)∈it.2∧((it.1=t∧it.2.erase (tx (Zw L it.1))=[])∨∃ o∈it.2.erase (tx (Zw L it.1)),bg o=en (tx (Zw L it.1))∧(it.1 ++ [lst o]) <+: t):=by
 obtain ⟨w,ew⟩:=hp
 have one:=hT.fit.one
 have hle:=h.le
 have e:=ZjA ew.symm one hle
 have hp1:(pre it.1 L ++ tx (Zw L it.1) :: (pcs t L).drop (it.1.length - L + 1)).Perm (pre it.1 L ++ it.2):=by
  rw [← e]
  exact hT.pm.trans h.pm.symm
 have hp2:=(List.perm_append_left_iff _).mp hp1
 have hm:tx (Zw L it.1)∈it.2:=hp2.mem_iff.mp List.mem_cons_self
 have hD:=Yu hp2
 refine ⟨hm,?_⟩
 have hlen:t.length=it.1.length + w.length:=by rw [← ew,List.length_append]
 cases w with
 | nil =>
  refine .inl ⟨by rw [← ew,List.append_nil],?_⟩
  rw [List.drop_of_length_le (by rw [ZD,hlen]; simp)] at hD
  exact List.nil_perm.mp hD
 | cons c w =>
  rw [List.length_cons] at hlen
  have hk:it.1.length - L + 1 < t.length - L + 1:=by omega
  have hg:=Z4 (z:=t) (L:=L) hk
  have ho:tx ((t.drop (it.1.length - L + 1)).take L)∈it.2.erase (tx (Zw L it.1)):=by
   refine hD.mem_iff.mp (List.mem_of_getElem? (i:=0) ?_)
   rw [List.getElem?_drop]
   exact hg
  have hlast:tx (Zw L it.1)=tx ((t.drop (it.1.length - L)).take L):=by
   have:=Z4 (z:=t) (L:=L) (i:=it.1.length - L) (by omega)
   rw [e,List.getElem?_append_right (by rw [Zb4]; exact Nat.le_refl _),Zb4,Nat.sub_self] at this
   exact Option.some.inj this
  refine .inr ⟨_,ho,?_,?_⟩
  ·rw [hlast,bgw (by omega) one,enw]
  ·have el:lst (tx ((t.drop (it.1.length - L + 1)).take L))=c:=by
    have h1:=Zfm (z:=t) (L:=L) (i:=it.1.length - L) one (by omega)
    rw [Zbm (by rw [Zs,List.length_take,List.length_drop]; omega)] at h1
    unfold sg at h1
    have h2:=ZcH h1
    have h3:(t.drop it.1.length).take 1=[c]:=by
     rw [← ew,List.drop_left]
     rfl
    rw [show it.1.length - L + L=it.1.length by omega,h3] at h2
    injection h2
   rw [el]
   exact ⟨w,by rw [← ew]; simp⟩
theorem IOk.text {z:List Nat} (hz:Tx ps L z) (h:IOk ps L it) (hm:tx (Zw L it.1)∈it.2) (he:it.2.erase (tx (Zw L it.1))=[]):Tx ps L it.1:=by
 have hf:=h.full hm
 rw [he,List.append_nil] at hf
 have hl:=hf.length_eq
 have hlz:=hz.pm.length_eq
 rw [ZD] at hl hlz
 have:=hz.fit.le
 have:=h.le
 have:=hz.few
 exact ⟨⟨hz.fit.one,h.le⟩,hf,h.cd,by omega⟩
end
def mw (its:List Itm):Nat:=(its.map fun it=>fct (it.2.length + 1)).sum
def cw (its:List Itm):Nat:=(its.map fun it=>fct (it.2.length - 1)).sum
theorem Zc3 (a b:List Itm):mw (a ++ b)=mw a + mw b:=by
 unfold mw
 rw [List.map_append,List.sum_append]
theorem ZfJ (a b:List Itm):cw (a ++ b)=cw a + cw b:=by
 unfold cw
 rw [List.map_append,List.sum_append]
theorem Zfe:∀ its:List Itm,its.length≤mw its
 | []=>Nat.zero_le _
 | it :: its=>by
  have h1:=Zfe its
  have h2:=ZaF (it.2.length + 1)
  have:mw (it :: its)=fct (it.2.length + 1) + mw its:=by unfold mw; rw [List.map_cons,List.sum_cons]
  rw [List.length_cons,this]
  omega
theorem YH {α:Type} (f:α→Nat) (c:Nat):∀ l:List α,(∀ x∈l,f x=c)→(l.map f).sum=l.length * c
 | [],_=>by simp
 | x :: l,h=>by
  rw [List.map_cons,List.sum_cons,YH f c l fun y hy=>h y (List.mem_cons_of_mem _ hy),h x List.mem_cons_self,List.length_cons,Nat.succ_mul]
  omega
def Yg (made:List Nat) (fw:List Str) (ss:List Str):List Itm:=ss.map fun s=>(made ++ s.cps.toList,fw)
theorem Ziv (made:List Nat) (fw ss:List Str):mw (Yg made fw ss)=ss.length * fct (fw.length + 1):=by
 unfold mw Yg
 rw [List.map_map]
 exact YH _ _ ss fun s _=>rfl
theorem ZiQ (made:List Nat) (fw ss:List Str):cw (Yg made fw ss)=ss.length * fct (fw.length - 1):=by
 unfold cw Yg
 rw [List.map_map]
 exact YH _ _ ss fun s _=>rfl
theorem Zeq {fw ss:List Str} {y:Str} (nd:ss.Nodup) (h:∀ s∈ss,y ++ s∈fw):ss.length≤fw.length:=by
 have n2:(ss.map fun s=>y ++ s).Nodup:=by
  rw [List.nodup_iff_pairwise_ne,List.pairwise_map]
  refine (List.nodup_iff_pairwise_ne.mp nd).imp fun {a b} q e=>q ?_
  have e':=congrArg (fun x:Str=>x.cps.toList) e
  have ac:∀ a b:Str,(a ++ b).cps.toList=a.cps.toList ++ b.cps.toList:=fun a b=>by
   have:=YD a.cps.toList b.cps.toList
   rw [tx_eta,tx_eta] at this
   rw [this,Zr]
  simp only [ac] at e'
  exact ZR (List.append_cancel_left e')
 have:=Y1 n2 fun x hx=>by
  obtain ⟨s,hs,rfl⟩:=List.mem_map.mp hx
  exact h s hs
 rw [List.length_map] at this
 exact this
theorem ZbO {ks:List Str} (nd:ks.Nodup):∀ qs:List Str,(∀ x∈qs,x∈ks)→(ks.map fun x=>(qs.count x:Int)).sum=qs.length
 | [],_=>by
  have:∀ l:List Str,(l.map fun x=>(([]:List Str).count x:Int)).sum=0:=fun l=>by
   induction l with
   | nil=>rfl
   | cons x l ih=>rw [List.map_cons,List.sum_cons,ih]; rfl
  rw [this]
  rfl
 | y :: qs,h=>by
  have ih:=ZbO nd qs fun x hx=>h x (List.mem_cons_of_mem _ hx)
  have key:∀ l:List Str,l.Nodup→(l.map fun x=>((y :: qs).count x:Int)).sum=(l.map fun x=>(qs.count x:Int)).sum + if y∈l then 1 else 0:=fun l=>by
   induction l with
   | nil=>intro _; simp
   | cons x l ihl =>
    intro hn
    obtain ⟨h1,h2⟩:=List.nodup_cons.mp hn
    rw [List.map_cons,List.sum_cons,List.map_cons,List.sum_cons,ihl h2,List.count_cons]
    by_cases c:y=x
    ·subst c
     rw [if_neg h1]
     simp
     omega
    ·have c':¬ y=x:=c
     simp only [beq_iff_eq,c',if_false,List.mem_cons,false_or]
     omega
  rw [key ks nd,ih,if_pos (h y List.mem_cons_self),List.length_cons]
  rfl
end Sh
namespace Sh
open PySem L2 PyProof.Rows
seal L2.PE L2.PS L2.PSs L2.PT L2.PW L2.PA L2.PI L2.PG L2.PGs L2.PO L2.PC L2.PCs L2.OpR L2.UnR L2.CallR L2.MtR L2.IxR L2.SlR
abbrev tV (t:List Nat):V:=V.str (tx t)
structure Stk (H:Hp) (ks:List Str) (us:List V) (its:List Itm):Prop where
 len:us.length=its.length
 row:∀ (i:Nat) it,its[i]?=some it→∃ b d,us[i]?=some (.ref b)∧H b=some (.tup [tV it.1,.ref d])∧H d=some (.dK (gD ks fun x=>(it.2.count x:Int)))
theorem Stk.keep {H H':Hp} {ks:List Str} {us:List V} {its:List Itm} (h:Stk H ks us its) (s:NL H H'):Stk H' ks us its:=⟨h.len,fun i it e=>by
 obtain ⟨b,d,e1,e2,e3⟩:=h.row i it e
 exact ⟨b,d,e1,s _ _ (fun _ q=>by cases q) e2,s _ _ (fun _ q=>by cases q) e3⟩⟩
theorem Stk.snoc {H:Hp} {ks:List Str} {us:List V} {its:List Itm} (h:Stk H ks us its) {b d:Addr} {it:Itm} (hb:H b=some (.tup [tV it.1,.ref d])) (hd:H d=some (.dK (gD ks fun x=>(it.2.count x:Int)))):Stk H ks (us ++ [.ref b]) (its ++ [it]):=by
 obtain ⟨h1,h2⟩:=Zb2 (R:=fun u (r:Itm)=>∃ b d,u = .ref b∧H b=some (.tup [tV r.1,.ref d])∧H d=some (.dK (gD ks fun x=>(r.2.count x:Int)))) ⟨h.len,fun i r e=>by
  obtain ⟨b,d,e1,e2⟩:=h.row i r e
  exact ⟨_,e1,b,d,rfl,e2⟩⟩ (u:=.ref b) (r:=it) ⟨b,d,rfl,hb,hd⟩
 exact ⟨h1,fun i x e=>by
  obtain ⟨y,e1,b,d,rfl,e2⟩:=h2 i x e
  exact ⟨b,d,e1,e2⟩⟩
theorem Stk.pop {H:Hp} {ks:List Str} {us:List V} {its:List Itm} {it:Itm} (h:Stk H ks us (its ++ [it])):∃ us0 b d,us=us0 ++ [.ref b]∧Stk H ks us0 its∧H b=some (.tup [tV it.1,.ref d])∧H d=some (.dK (gD ks fun x=>(it.2.count x:Int))):=by
 obtain ⟨b,d,e1,e2,e3⟩:=h.row its.length it (YA its [] it)
 have hl:=h.len
 rw [List.length_append,List.length_singleton] at hl
 have hu:us=us.take its.length ++ [.ref b]:=by
  have hi:its.length < us.length:=by omega
  have:=List.take_succ_eq_append_getElem hi
  rw [List.take_of_length_le (by omega)] at this
  rw [List.getElem?_eq_getElem hi] at e1
  rw [Option.some.inj e1] at this
  exact this
 refine ⟨us.take its.length,b,d,hu,⟨by rw [List.length_take]; omega,fun i x e=>?_⟩,e2,e3⟩
 have hi:i < its.length:=(List.getElem?_eq_some_iff.mp e).1
 obtain ⟨b',d',q1,q2⟩:=h.row i x (by rw [List.getElem?_append_left hi]; exact e)
 exact ⟨b',d',by rw [List.getElem?_take,if_pos hi]; exact q1,q2⟩
theorem ZbU {n:Nat} (h:n≤60000):n < sizeLine:=Nat.lt_of_le_of_lt h (by rw [sizeLine_eq]; decide)
theorem Zj6 {n:Nat} (h:n≤6):fct (n + 1)≤5040:=by
 have:n=0∨n=1∨n=2∨n=3∨n=4∨n=5∨n=6:=by omega
 rcases this with rfl | rfl | rfl | rfl | rfl | rfl | rfl <;> decide
theorem ZfB {n:Nat} (h:n≤6):fct (n - 1)≤120:=by
 have:n=0∨n=1∨n=2∨n=3∨n=4∨n=5∨n=6:=by omega
 rcases this with rfl | rfl | rfl | rfl | rfl | rfl | rfl <;> decide
section
variable {P:Program} {w:World} {K:PySem.W.Frag} {mg:Str→Option Value} {base:Heap}
abbrev ZeE:Stmt:=top 44
abbrev Zit:List Str:=["_law_heap","_law_long","_law_left","_law_found","_law_made","_law_many","_law_piece","_law_fewer","_law_signs_here","_law_sign"]
theorem scLAll:Zn Zit ["_law_heap","_law_long"] (Zf ZeE):=⟨rfl,rfl,rfl,by decide +kernel,rfl,by decide +kernel,by decide +kernel⟩
def Zjh:Sp:=fun vs H Q _=>∃ (v:V) (ps:List Str) (hp:Es) (L:Nat) (z:List Nat),vs=[v,.int L]∧Hv H v ps hp∧Tx ps L z∧ps.length≤6∧∀ (f:Addr) (fs:List (List Nat)) (H':Hp),Same H H'→H' f=some (.lst (fs.map tV))→(∀ t∈fs,Tx ps L t)→(∀ t,Tx ps L t→t∈fs)→fs.length≤hp.length * fct (ps.length - 1)→Q (.ref f) H'
structure Go (ps:List Str) (L B:Nat) (its:List Itm) (fs:List (List Nat)):Prop where
 ok:∀ it∈its,IOk ps L it
 fnd:∀ t∈fs,Tx ps L t
 cov:∀ t,Tx ps L t→t∈fs∨∃ it∈its,it.1 <+: t
 num:fs.length + cw its≤B
theorem Go.skip {ps:List Str} {L B:Nat} {its:List Itm} {it:Itm} {fs:List (List Nat)} (h:Go ps L B (its ++ [it]) fs) (hm:tx (Zw L it.1)∉it.2):Go ps L B its fs where
 ok:=fun x hx=>h.ok x (List.mem_append_left _ hx)
 fnd:=h.fnd
 cov:=fun t ht=>by
  rcases h.cov t ht with q | ⟨x,hx,hp⟩
  ·exact .inl q
  ·rcases List.mem_append.mp hx with q | q
   ·exact .inr ⟨x,q,hp⟩
   ·rw [List.mem_singleton.mp q] at hp
    exact absurd (Zdk ht (h.ok it (List.mem_append_right _ (List.mem_singleton.mpr rfl))) hp).1 hm
 num:=by
  have:=h.num
  rw [ZfJ] at this
  omega
theorem Go.step {ps:List Str} {L B:Nat} {its:List Itm} {it:Itm} {fs:List (List Nat)} {z:List Nat} (hz:Tx ps L z) (h:Go ps L B (its ++ [it]) fs) (hm:tx (Zw L it.1)∈it.2) {ss:List Str} (nd:ss.Nodup)
  (hss:∀ s,s∈ss↔∃ o∈it.2.erase (tx (Zw L it.1)),bg o=en (tx (Zw L it.1))∧tx [lst o]=s) :
  Go ps L B (its ++ Yg it.1 (it.2.erase (tx (Zw L it.1))) ss) (if it.2.erase (tx (Zw L it.1))=[] then fs ++ [it.1] else fs)∧mw (its ++ Yg it.1 (it.2.erase (tx (Zw L it.1))) ss) < mw (its ++ [it]):=by
 have hI:=h.ok it (List.mem_append_right _ (List.mem_singleton.mpr rfl))
 have hro:=hz.ro
 have hsub:∀ o∈it.2.erase (tx (Zw L it.1)),o∈ps:=fun o ho=>hI.pm.mem_iff.mp (List.mem_append_right _ (List.mem_of_mem_erase ho))
 have hfl:=List.length_erase_of_mem hm
 have hpos:0 < it.2.length:=List.length_pos_of_mem hm
 have hsl:ss.length≤(it.2.erase (tx (Zw L it.1))).length:=Zeq (y:=en (tx (Zw L it.1))) nd fun s hs=>by
  obtain ⟨o,ho,e1,e2⟩:=(hss s).mp hs
  have:=Zdg ((hro.one o (hsub o ho)).1) e1
  rw [Zbm ((hro.one o (hsub o ho)).1),e2] at this
  rw [this]
  exact ho
 have hok:∀ x∈its ++ Yg it.1 (it.2.erase (tx (Zw L it.1))) ss,IOk ps L x:=fun x hx=>by
  rcases List.mem_append.mp hx with q | q
  ·exact h.ok x (List.mem_append_left _ q)
  ·unfold Yg at q
   obtain ⟨s,hs,rfl⟩:=List.mem_map.mp q
   obtain ⟨o,ho,e1,e2⟩:=(hss s).mp hs
   rw [← e2,Zr]
   refine hI.next hm ?_
   have:=(hro.one o (hsub o ho)).2.2 (lst o)
   refine this ?_
   rw [ZbF ((hro.one o (hsub o ho)).1)]
   exact List.mem_append_right _ (List.mem_singleton.mpr rfl)
 generalize hfw:it.2.erase (tx (Zw L it.1))=fw at *
 refine ⟨⟨hok,fun t ht=>?_,fun t ht=>?_,?_⟩,?_⟩
 ·by_cases c:fw=[]
  ·rw [if_pos c] at ht
   rcases List.mem_append.mp ht with q | q
   ·exact h.fnd t q
   ·rw [List.mem_singleton.mp q]
    exact hI.text hz hm (by rw [hfw]; exact c)
  ·rw [if_neg c] at ht
   exact h.fnd t ht
 ·have fsub:∀ x∈fs,x∈(if fw=[] then fs ++ [it.1] else fs):=fun x hx=>by
   split
   ·exact List.mem_append_left _ hx
   ·exact hx
  rcases h.cov t ht with q | ⟨x,hx,hp⟩
  ·exact .inl (fsub t q)
  ·rcases List.mem_append.mp hx with q | q
   ·exact .inr ⟨x,List.mem_append_left _ q,hp⟩
   ·rw [List.mem_singleton.mp q] at hp
    obtain ⟨_,hc⟩:=Zdk ht hI hp
    rw [hfw] at hc
    rcases hc with ⟨e1,e2⟩ | ⟨o,ho,e1,e2⟩
    ·rw [if_pos e2]
     exact .inl (List.mem_append_right _ (List.mem_singleton.mpr e1.symm))
    ·refine .inr ⟨(it.1 ++ (tx [lst o]).cps.toList,fw),List.mem_append_right _ (List.mem_map.mpr ⟨tx [lst o],(hss _).mpr ⟨o,ho,e1,rfl⟩,rfl⟩),?_⟩
     rw [Zr]
     exact e2
 ·have hn:=h.num
  rw [ZfJ] at hn
  rw [ZfJ,ZiQ]
  have ec:cw [it]=fct (it.2.length - 1):=by unfold cw; simp
  rw [ec] at hn
  by_cases c:fw=[]
  ·rw [if_pos c,List.length_append,List.length_singleton]
   have h0:ss.length=0:=by rw [c] at hsl; simpa using hsl
   rw [h0,Nat.zero_mul]
   have:=ZaF (it.2.length - 1)
   omega
  ·rw [if_neg c]
   have hq:0 < fw.length:=List.length_pos_iff.mpr c
   obtain ⟨q,eq⟩:∃ q,fw.length=q + 1:=⟨fw.length - 1,by omega⟩
   have e2:fct (it.2.length - 1)=(q + 1) * fct q:=by rw [show it.2.length - 1=q + 1 by omega]; rfl
   rw [e2] at hn
   rw [eq,Nat.add_sub_cancel]
   have:=Nat.mul_le_mul_right (fct q) (show ss.length≤q + 1 by omega)
   omega
 ·rw [Zc3,Zc3,Ziv]
  have em:mw [it]=fct (it.2.length + 1):=by unfold mw; simp
  rw [em,show it.2.length + 1=(fw.length + 1) + 1 by omega]
  have:fct (fw.length + 1 + 1)=(fw.length + 1 + 1) * fct (fw.length + 1):=rfl
  rw [this]
  have h1:=Nat.mul_le_mul_right (fct (fw.length + 1)) hsl
  have h2:=ZaF (fw.length + 1)
  have h3:(fw.length + 1 + 1) * fct (fw.length + 1)=fw.length * fct (fw.length + 1) + fct (fw.length + 1) + fct (fw.length + 1):=by
   rw [Nat.succ_mul,Nat.succ_mul]
  omega
end
end Sh
namespace L2
open PySem PySem.Spec PyProof.Rows
theorem ZaK {X:Cx} (K:PySem.W.Frag) (h:X.K=K:=by rfl):CallR X (.type "list") (fun xs H Q=>∃ p ys,xs=[.ref p]∧(SqL K H p ys∨SqT K H p ys)∧∀ l,H l=none→Q (.ref l) (upd H l (.lst ys))):=by
 subst h
 exact XX
end L2
namespace Sh
open PySem L2 PyProof.Rows
seal L2.PE L2.PS L2.PSs L2.PT L2.PW L2.PA L2.PI L2.PG L2.PGs L2.PO L2.PC L2.PCs L2.OpR L2.UnR L2.CallR L2.MtR L2.IxR L2.SlR
theorem ZiI {ps:List Str} {hp:Es} {L:Nat} {z:List Nat} (hz:Tx ps L z) (hO:Zz ps hp):Go ps L (hp.length * fct (ps.length - 1)) (hp.map fun e=>(e.1.cps.toList,ps)) []∧mw (hp.map fun e=>(e.1.cps.toList,ps))=hp.length * fct (ps.length + 1):=by
 have hmem:∀ e∈hp,e.1∈ps:=fun e he=>(hO.mem _).mp (List.mem_map.mpr ⟨e,he,rfl⟩)
 refine ⟨⟨fun it hit=>?_,fun t ht=>(by cases ht),fun t ht=>?_,?_⟩,?_⟩
 ·obtain ⟨e,he,rfl⟩:=List.mem_map.mp hit
  have hl:=hz.len (hmem e he)
  refine ⟨by rw [Zy,hl]; exact Nat.le_refl _,?_,(hz.ro.one _ (hmem e he)).2.2⟩
  have:pre e.1.cps.toList L=[]:=by
   unfold pre
   rw [Zy,hl,Nat.sub_self]
   rfl
  show (pre e.1.cps.toList L ++ ps).Perm ps
  rw [this]
  exact List.Perm.refl _
 ·have hle:=ht.fit.le
  have hg:=Z4 (z:=t) (L:=L) (i:=0) (by omega)
  have hm:=ht.pm.mem_iff.mp (List.mem_of_getElem? hg)
  obtain ⟨e,he,ee⟩:=List.mem_map.mp ((hO.mem _).mpr hm)
  refine .inr ⟨(e.1.cps.toList,ps),List.mem_map.mpr ⟨e,he,rfl⟩,?_⟩
  show e.1.cps.toList <+: t
  rw [ee,Zr,List.drop_zero]
  exact List.take_prefix _ _
 ·unfold cw
  rw [List.map_map,List.length_nil,Nat.zero_add]
  exact Nat.le_of_eq (YH _ _ hp fun _ _=>rfl)
 ·unfold mw
  rw [List.map_map]
  exact YH _ _ hp fun _ _=>rfl
section
variable {P:Program} {w:World} {K:PySem.W.Frag} {mg:Str→Option Value} {base:Heap}
theorem ZgC (D:HasDef K mg "_law_all" ZeE ["_law_heap","_law_long"]) (B:Blt mg):FOk P w K mg base 1 "_law_all" ["_law_heap","_law_long"] Zjh:=by
 refine D.ok scLAll (fun vs H Q E h=>?_) (fun f cdv A outer s H vs Q E hr h=>?_)
 ·obtain ⟨v,ps,hp,L,z,rfl,_⟩:=h
  rfl
 ·obtain ⟨v,ps,hp,L,z,rfl,hV,hT,hn6,k⟩:=h
  have hu:=Zct hr
  refine ⟨_,(Ze (Zgs (i:=2) (Zf ZeE) Zit ["_law_pair"] [0] scLAll.nd rfl (.inl rfl) rfl (Yi (pv 0)) (fun _ _ _ _ _=>Yy 0) (fun _ _ _ _ _=>YL) (fun _ _ _ _ _=>(YF (Zb (ZP (ZaC K) (pv 0) Zi (fun _ _=>rfl)) (Zb (Zv (Xf rfl) rfl B.dict Zdn (Zb (Zv (ZaK K) rfl B.list ZbH (Zb (pv 1) Zd)) Zd)) Zd)))))
   (Ze (Zm (i:=3) scLAll.nd rfl (.inl rfl) (ZN Zd))
   (Ze (X7 PassesOwn.never (ZA (Zgz hr.units) (pv 2) (ZN Zd) (ZJ _))
    (Ze (ZhC (Jj F.plainAttrs_list F.slot_list_pop F.type_list_pop Xd (pv 2)) (Z3 2 K rfl (Zt (ZG (i:=4) scLAll.nd rfl (.inl rfl)) (Zt (ZG (i:=5) scLAll.nd rfl (.inl rfl)) Z2))))
   (Ze (Zm (i:=6) scLAll.nd rfl (.inr rfl) (ZM Yr (pv 4) (ZO (Zo YM (Zk Zq rfl B.len ZW (Zb (pv 4) Zd)) (pv 1))) Z8))
   (Zh (Yn (ZA Za9 (YZ hu (pv 5) (pv 6) Zi ⟨rfl,rfl,rfl,rfl⟩) Zi (ZJ _)) (Ze (Zm (i:=7) scLAll.nd rfl (.inr rfl) (Zv ZdV rfl B.dict Zdn (Zb (pv 5) Zd)))
   (Ze (XE hu (pv 7) (pv 6) (Zo YM (XG hu (pv 7) (pv 6) (fun _ _=>rfl)) Zi) rfl)
   (Ze (Yn (ZA Zap (Zk (ZfO rfl) rfl B.sum Zke (Zb (Zv (ZdU rfl) rfl B.list ZbH (Zb (ZeV (pv 7)) Zd)) Zd)) Zi (ZJ _)) (Zh (ZS (Xl F.plainAttrs_list F.slot_list_append F.type_list_append ZL (pv 3) (Zb (pv 4) Zd)))) ZK)
   (Ze (Zm (i:=8) scLAll.nd rfl (.inl rfl) (Zk (Z0 rfl) rfl B.sorted Yd (Zb (Zv (Zbz rfl) rfl B.set Zhc (Zb (Zjy (ZX (Zf ZeE) Zit ["_law_one"] [1,6,7] rfl (Zig (pv 7)) (fun _ _ _ _ _=>Yy 0) (fun _ _ _ _ _=>Zao (PW.pt (ZeO (ZA Zap (ZM Yr (pv 0) Z8 (ZO (Zo YM (pv 1) Zi))) (ZM Yr (pv 2) (ZO Zi) Z8) (ZJ _)) (Zb3 (ZA Za9 (XG hu (pv 3) (pv 0) (fun _ _=>rfl)) Zi (ZJ _)))))) (fun _ _ _ _ _=>(ZP XV (pv 0) (Xb Ye Zi) (fun _ _=>rfl))))) Zd)) Zd)))
   (Zh (Yh PassesOwn.never rfl (Ji (pv 8)) (ZG (i:=9) scLAll.nd rfl (.inl rfl))
    (Zh (ZS (Xl F.plainAttrs_list F.slot_list_append F.type_list_append ZL (pv 2) (Zb (YF (Zb (Zo ZQ (pv 4) (pv 9)) (Zb (pv 7) Zd))) Zd)))))))))) ZK)))))
   (Zh (Zu (pv 3)))))),?_⟩
  obtain ⟨q,us0,rfl,hq,hpa⟩:=ZhI hV.at_
  have hO:=hV.of
  have hlen:=ZZ hO
  have hR:=hT.ro
  have one:=hT.fit.one
  have hzf:=hT.few
  obtain ⟨ks,hks⟩:∃ ks,ks=hp.map (·.1):=⟨_,rfl⟩
  have ndk:ks.Nodup:=by rw [hks]; exact YN hO
  have hkm:∀ x,x∈ks↔x∈ps:=fun x=>by rw [hks]; exact hO.mem x
  have hkl:ks.length≤20:=by rw [hks,List.length_map]; omega
  refine ⟨_,rfl,q,rfl,⟨_,SqT.of hq⟩,ZiA us0.length (fun i=>us0.getD i .non) (fun i v H'=>∃ b d,v = .ref b∧H' b=some (.tup [.str (hp.getD i ("",0)).1,.ref d])∧H' d=some (.dK (gD ks fun x=>(ps.count x:Int)))) (Zg (by rw [hpa.1]; omega)) (fun i v H' H'' s' ⟨b,d,e,r1,r2⟩=>⟨b,d,e,s' _ _ (fun _ q=>by cases q) r1,s' _ _ (fun _ q=>by cases q) r2⟩) (Xq (SqT.of hq)) ?_ ?_⟩
  ·intro i H1 Qe hi hs kq
   have hie:i < hp.length:=by rw [← hpa.1]; exact hi
   obtain ⟨b,e1,e2⟩:=hpa.2 i hp[i] (List.getElem?_eq_getElem hie)
   have eu:us0.getD i .non = .ref b:=by rw [List.getD_eq_getElem?_getD,e1]; rfl
   have eh:hp.getD i ("",0)=hp[i]:=by rw [List.getD_eq_getElem?_getD,List.getElem?_eq_getElem hie]; rfl
   rw [eh] at kq
   rw [eu]
   refine ⟨_,rfl,b,_,0,_,rfl,rfl,SqT.of (hs _ _ e2),rfl,_,rfl,q,us0,rfl,.inr (SqT.of (hs _ _ hq)),fun l hl=>?_⟩
   have s2:=Za (o:=.lst us0) hl
   refine ⟨l,us0,hp.map fun p=>((Sum.inr p.1:Key),V.int p.2),rfl,.inl Zc,by rw [List.length_map]; exact hpa.1,fun j r er=>?_,?_,fun d hd=>?_⟩
   ·rw [List.getElem?_map] at er
    obtain ⟨y,hy,rfl⟩:=Option.map_eq_some_iff.mp er
    obtain ⟨c,q1,q2⟩:=hpa.2 j y hy
    exact ⟨c,q1,s2 _ _ (hs _ _ q2)⟩
   ·rw [XJ hO]
    exact ZaB (YN hO)
   rw [XJ hO,← hks]
   have s3:=Za (o:=.dK (gD ks fun x=>(ps.count x:Int))) hd
   refine ⟨Zg (show 2≤1000 by decide),fun t ht=>?_⟩
   have s4:=Za (o:=.tup [.str hp[i].1,.ref d]) ht
   exact kq _ _ ((s2.trans s3).trans s4) ⟨t,d,rfl,Zc,s4 _ _ Zc⟩
  intro a vs1 H1 hl1 hr1 hs1 haN ha1
  have hS1:Stk H1 ks vs1 (hp.map fun e=>(e.1.cps.toList,ps)):=by
   refine ⟨by rw [hl1,hpa.1,List.length_map],fun i it e=>?_⟩
   rw [List.getElem?_map] at e
   obtain ⟨x,hx,rfl⟩:=Option.map_eq_some_iff.mp e
   have hie:i < hp.length:=(List.getElem?_eq_some_iff.mp hx).1
   have hiv:i < vs1.length:=by rw [hl1,hpa.1]; exact hie
   obtain ⟨b,d,e1,e2,e3⟩:=hr1 i vs1[i] (List.getElem?_eq_getElem hiv)
   rw [List.getD_eq_getElem?_getD,hx,Option.getD_some] at e2
   refine ⟨b,d,by rw [List.getElem?_eq_getElem hiv,e1],?_,e3⟩
   rw [e2]
   show _=some (HO.tup [V.str (tx x.1.cps.toList),V.ref d])
   rw [tx_eta]
  refine ⟨Zg (show 0≤1000 by decide),fun f hfN=>?_⟩
  have s2:=Za (o:=.lst []) hfN
  have haf:a≠f:=Zl ha1 hfN
  have hfH:H f=none:=by
   cases e:H f with
   | none=>rfl
   | some o=>rw [hs1 _ _ e] at hfN; cases hfN
  obtain ⟨hG0,hm0⟩:=ZiI hT hO
  have hmb:hp.length * fct (ps.length + 1)≤40000:=by
   have h1:=Zj6 hn6
   have h2:hp.length≤6:=by omega
   have:=Nat.mul_le_mul h2 h1
   omega
  have hBb:hp.length * fct (ps.length - 1)≤720:=by
   have h1:=ZfB hn6
   have h2:hp.length≤6:=by omega
   have:=Nat.mul_le_mul h2 h1
   omega
  generalize hp.length * fct (ps.length - 1)=Bd at *
  try dsimp only [XY]
  show ZfY (ZaT _ _) _ _ _ _
  refine ZbW (fun σ H4=>∃ (fs:List (List Nat)) (z2 z4 z5 z6 z7 z8 z9:Option V),σ=[some (.ref q),some (.int L),z2,some (.ref f),z4,z5,z6,z7,z8,z9]∧Same H H4∧H4 f=some (.lst (fs.map tV))∧Go ps L Bd [] fs) (fun R hRR=>?_) ?_
  ·refine ⟨fun m σ H4=>∃ (its:List Itm) (us:List V) (fs:List (List Nat)) (z4 z5 z6 z7 z8 z9:Option V),σ=[some (.ref q),some (.int L),some (.ref a),some (.ref f),z4,z5,z6,z7,z8,z9]∧Same H H4∧H4 a=some (.lst us)∧H4 f=some (.lst (fs.map tV))∧Stk H4 ks us its∧Go ps L Bd its fs∧mw its≤40000∧m=mw its,
    ⟨_,_,vs1,[],none,none,none,none,none,none,rfl,hs1.trans s2,s2 _ _ ha1,Zc,hS1.keep s2.nl,hG0,by rw [hm0]; exact hmb,rfl⟩,?_⟩
   rintro m σ H4' ⟨its,us,fs,z4,z5,z6,z7,z8,z9,rfl,s4',ha4',hf4',hS4',hG,hmw,hmm⟩
   refine ⟨_,rfl,Nat.zero_le _,fun p0 hp0=>?_⟩
   have s0:=Za (o:=.lst []) hp0
   have s4:=s4'.trans s0
   have ha4:=s0 _ _ ha4'
   have hf4:=s0 _ _ hf4'
   have hS4:=hS4'.keep s0.nl
   refine ⟨a,p0,us,rfl,rfl,ha4,Zc,_,rfl,?_⟩
   generalize upd H4' p0 (HO.lst [])=H4 at s4 ha4 hf4 hS4
   rcases List.eq_nil_or_concat its with rfl | ⟨its0,it,eits⟩
   ·have eu:us=[]:=List.length_eq_zero_iff.mp hS4.len
    subst eu
    exact Xx rfl (hRR _ _ ⟨fs,_,_,_,_,_,_,_,rfl,s4,hf4,hG⟩)
   rw [List.concat_eq_append] at eits
   subst eits
   obtain ⟨usr,b,d,rfl,hSr,hb,hd⟩:=hS4.pop
   refine X9 (by cases usr <;> rfl) ?_
   refine ⟨_,fun σ' H' q=>q,?_⟩
   have hIt:=hG.ok it (List.mem_append_right _ (List.mem_singleton.mpr rfl))
   have hnum:=hIt.num
   have hle:=hIt.le
   have hpn:=hT.pm.length_eq
   rw [ZD] at hpn
   have hzl:=hT.fit.le
   have hml:it.1.length≤1000:=by omega
   have hmlz:it.1.length + it.2.length≤21:=by omega
   refine ⟨_,rfl,.inl ⟨rfl,_,SqL.of ha4⟩,a,_,.ref b,rfl,rfl,ha4,by rw [List.length_append,List.length_singleton,Nat.add_sub_cancel]; exact YA usr [] _,?_⟩
   rw [List.dropLast_concat]
   have nA:=ZcZ (ys:=usr) ha4
   have ha5:(upd H4 a (.lst usr)) a=some (.lst usr):=Zc
   have hf5:(upd H4 a (.lst usr)) f=some (.lst (fs.map tV)):=by rw [Zj (Ne.symm haf)]; exact hf4
   have s5:Same H (upd H4 a (.lst usr)):=ZT s4 haN
   have hb5:=nA _ _ (fun _ q=>by cases q) hb
   have hd5:=nA _ _ (fun _ q=>by cases q) hd
   have hS5:=hSr.keep nA
   generalize upd H4 a (HO.lst usr)=H5 at ha5 hf5 s5 hb5 hd5 hS5
   refine ⟨b,_,rfl,SqT.of hb5,rfl,_,_,rfl,_,_,rfl,rfl,?_⟩
   refine ⟨_,rfl,_,rfl,.str (tx it.1),it.1.length,rfl,⟨ZH hml,(Zs _).symm⟩,_,rfl,_,_,rfl,rfl,_,rfl,tx it.1,rfl,ZH hml,?_⟩
   have esl:Txt.slice (tx it.1) (some ((it.1.length:Int) - (L:Int))) none=tx (Zw L it.1):=by
    rw [XB (by omega) (by omega)]
    unfold Zw
    congr 2
    omega
   rw [esl]
   have hqs:∀ x∈it.2,x∈ps:=fun x hx=>hIt.pm.mem_iff.mp (List.mem_append_right _ hx)
   have hg:(Y4 (gD ks fun x=>(it.2.count x:Int)) (Sum.inr (tx (Zw L it.1)))).getD (.int 0) = .int (it.2.count (tx (Zw L it.1))):=by
    rw [Xr]
    split
    ·rfl
    ·rename_i c
     rw [List.count_eq_zero_of_not_mem fun q=>c ((hkm _).mpr (hqs _ q))]
     rfl
   refine ⟨_,rfl,d,rfl,.inl ⟨_,.inl hd5⟩,_,rfl,_,DGet.k (k:=Sum.inr (tx (Zw L it.1))) hd5,_,_,hg,rfl,_,rfl,?_⟩
   by_cases hm:tx (Zw L it.1)∉it.2
   ·refine Xx (decide_eq_false (by rw [List.count_eq_zero_of_not_mem hm]; decide)) ?_
    have hG':=hG.skip hm
    refine ⟨mw its0,?_,its0,usr,fs,_,_,_,_,_,_,rfl,s5,ha5,hf5,hS5,hG',?_,rfl⟩
    ·rw [hmm,Zc3]
     have:1≤mw [it]:=Zfe [it]
     omega
    ·rw [Zc3] at hmw
     omega
   have hm:=Classical.not_not.mp hm
   have hcp:0 < it.2.count (tx (Zw L it.1)):=List.count_pos_iff.mpr hm
   refine X9 (decide_eq_true (by omega)) ?_
   have hpk:tx (Zw L it.1)∈ks:=(hkm _).mpr (hqs _ hm)
   refine ⟨_,rfl,d,_,rfl,hd5,fun d2 hd2=>?_⟩
   have s6:=Za (o:=.dK (gD ks fun x=>(it.2.count x:Int))) hd2
   have hdd:(upd H5 d2 (.dK (gD ks fun x=>(it.2.count x:Int)))) d2=some (.dK (gD ks fun x=>(it.2.count x:Int))):=Zc
   have dg:DGet (upd H5 d2 (.dK (gD ks fun x=>(it.2.count x:Int)))) d2 (.str (tx (Zw L it.1))) (some (.int (it.2.count (tx (Zw L it.1))))):=by
    have:=DGet.k (k:=Sum.inr (tx (Zw L it.1))) hdd
    rw [Xr,if_pos hpk] at this
    exact this
   refine ⟨_,rfl,_,rfl,d2,_,rfl,dg,_,_,rfl,rfl,_,rfl,_,rfl,d2,_,rfl,DPut.k (k:=Sum.inr (tx (Zw L it.1))) hdd (by rw [Jw]; exact ZC (by omega)),?_⟩
   dsimp only
   rw [Zdd,if_pos hpk,ZbI]
   have egd:(gD ks fun x=>if x=tx (Zw L it.1) then (it.2.count (tx (Zw L it.1)):Int) - 1 else (it.2.count x:Int))=gD ks fun x=>((it.2.erase (tx (Zw L it.1))).count x:Int):=Zde fun x _=>by
    by_cases e:x=tx (Zw L it.1)
    ·rw [if_pos e,e,List.count_erase_self]
     omega
    ·rw [if_neg e,List.count_erase_of_ne e]
   rw [egd]
   have hfl:=List.length_erase_of_mem hm
   have hfs:∀ x∈it.2.erase (tx (Zw L it.1)),x∈ps:=fun x hx=>hqs x (List.mem_of_mem_erase hx)
   have hstep:=fun {ss} (nd:ss.Nodup) hss=>hG.step hT hm (ss:=ss) nd hss
   generalize hfw:it.2.erase (tx (Zw L it.1))=fw at *
   have s7:=Za (o:=.dK (gD ks fun x=>(fw.count x:Int))) hd2
   have hS7:=hS5.keep s7.nl
   have ha7:=s7 _ _ ha5
   have hf7:=s7 _ _ hf5
   have hd7:(upd H5 d2 (.dK (gD ks fun x=>(fw.count x:Int)))) d2=some (.dK (gD ks fun x=>(fw.count x:Int))):=Zc
   have sH7:=s5.trans s7
   have hda:d2≠a:=fun e=>by rw [e,ha5] at hd2; cases hd2
   have hdf:d2≠f:=fun e=>by rw [e,hf5] at hd2; cases hd2
   generalize upd H5 d2 (HO.dK (gD ks fun x=>(fw.count x:Int)))=H7 at hS7 ha7 hf7 hd7 sH7
   obtain ⟨fs',efs⟩:∃ fs':List (List Nat),fs'=if fw=[] then fs ++ [it.1] else fs:=⟨_,rfl⟩
   try dsimp only [XY]
   show ZfY (Zky _ _ _) _ _ _ _
   refine ZbW (fun σ H'=>σ=[some (.ref q),some (.int L),some (.ref a),some (.ref f),some (tV it.1),some (.ref d),some (.str (tx (Zw L it.1))),some (.ref d2),z8,z9]∧Same H H'∧H' a=some (.lst usr)∧H' f=some (.lst (fs'.map tV))∧Stk H' ks usr its0∧H' d2=some (.dK (gD ks fun x=>(fw.count x:Int)))) (fun R2 hR2=>?_) ?_
   ·refine ⟨_,rfl,d2,_,rfl,hd7,fun p1 hp1=>?_⟩
    have t1:=Za (o:=vvO p1 d2) hp1
    refine ⟨p1,d2,_,rfl,Zc,t1 _ _ hd7,fun l1 hl1=>?_⟩
    have t2:=Za (o:=.lst ((gD ks fun x=>(fw.count x:Int)).map (·.2))) hl1
    refine ⟨l1,ks.map fun x=>(fw.count x:Int),rfl,SqL.of (by rw [Zc]; unfold gD; rw [List.map_map,List.map_map]; rfl),rfl,_,rfl,?_⟩
    rw [ZbO ndk fw fun x hx=>(hkm x).mpr (hfs x hx)]
    have t12:=t1.trans t2
    have hf8:=t12 _ _ hf7
    by_cases c:fw=[]
    ·refine X9 (Zdb (by rw [c]; rfl)) ?_
     have hfl2:=hG.num
     refine ⟨_,rfl,.inl ⟨rfl,_,SqL.of hf8⟩,_,rfl,f,_,_,rfl,rfl,hf8,ZbU (by rw [List.length_map]; omega),?_⟩
     have nF:=ZcZ (ys:=fs.map tV ++ [tV it.1]) hf8
     refine hR2 _ _ ⟨rfl,ZT (sH7.trans t12) hfH,?_,?_,hS7.keep (t12.nl.trans nF),nF _ _ (fun _ q=>by cases q) (t12 _ _ hd7)⟩
     ·rw [Zj haf]
      exact t12 _ _ ha7
     ·rw [Zc,efs,if_pos c,List.map_append]
      rfl
    ·refine Xx (Zbq fun e=>c (List.length_eq_zero_iff.mp (by omega))) ?_
     refine hR2 _ _ ⟨rfl,sH7.trans t12,t12 _ _ ha7,?_,hS7.keep t12.nl,t12 _ _ hd7⟩
     rw [efs,if_neg c]
     exact hf8
   rintro σ H8 ⟨rfl,s8,ha8,hf8,hS8,hd8⟩
   refine ⟨d2,_,hd8,fun o=>?_⟩
   have hfz:(upd H8 d2 (.frz o (.dK (gD ks fun x=>(fw.count x:Int))))) d2=some (.frz o (.dK (gD ks fun x=>(fw.count x:Int)))):=Zc
   have hpdl:(Zw L it.1).length=L:=by unfold Zw; rw [List.length_drop]; omega
   refine ⟨_,rfl,d2,o,_,rfl,hfz,Zcq (gD ks fun x=>(fw.count x:Int)).length (fun i=>((gD ks fun x=>(fw.count x:Int)).map fun p=>kV p.1).getD i .non) (fun i=>decide (bg (ks.getD i "")=en (tx (Zw L it.1))∧ks.getD i ""∈fw)) (fun i v _=>v = .str (tx [lst (ks.getD i "")])) (Zg (by rw [Jw]; omega)) (fun _ _ _ _ _ r=>r) (ZiG hfz) ?_ ?_⟩
   ·intro i H9 Qt Qf hi hs ht hf
    rw [Jw] at hi
    have es1:ks.getD i "" = ks[i]:=by rw [List.getD_eq_getElem?_getD,List.getElem?_eq_getElem hi]; rfl
    have ek:((gD ks fun x=>(fw.count x:Int)).map fun p=>kV p.1).getD i .non = .str ks[i]:=by
     unfold gD
     rw [List.map_map,List.getD_eq_getElem?_getD,List.getElem?_map,List.getElem?_eq_getElem hi]
     rfl
    rw [es1] at ht hf
    rw [ek]
    have hkp:=(hkm _).mp (List.getElem_mem hi)
    have hkL:=hT.len hkp
    have hgt:DGet H9 d2 (kV (Sum.inr ks[i])) (some (.int (fw.count ks[i]))):=.inl ⟨_,Sum.inr ks[i],.inr ⟨o,hs _ _ hfz⟩,rfl,by rw [Xr,if_pos (List.getElem_mem hi)]⟩
    generalize ks[i]=y at *
    have eb:Txt.slice y none (some ((L:Int) - 1))=bg y:=by
     rw [← tx_eta y,Yq (by omega),tx_eta]
     unfold bg
     rw [List.dropLast_eq_take,Zy,hkL]
     congr 2
     omega
    have ee:Txt.slice (tx (Zw L it.1)) (some 1) none=en (tx (Zw L it.1)):=by
     rw [XB (by decide) (by omega)]
     unfold en
     rw [Zr]
     rfl
    refine ⟨_,rfl,_,rfl,_,_,rfl,rfl,_,rfl,y,rfl,ZY (by omega),?_⟩
    rw [eb]
    refine ⟨_,rfl,_,rfl,tx (Zw L it.1),rfl,ZH (by omega),?_⟩
    rw [ee]
    refine ⟨rfl,_,rfl,?_⟩
    rw [Zjb]
    by_cases c1:bg y=en (tx (Zw L it.1))
    ·refine X9 (decide_eq_true c1) ?_
     refine ⟨_,rfl,_,rfl,d2,_,rfl,hgt,_,_,rfl,rfl,_,rfl,?_⟩
     by_cases c2:y∈fw
     ·have:=List.count_pos_iff.mpr c2
      refine X9 (decide_eq_true (by omega)) ?_
      refine ⟨_,rfl,_,rfl,y,_,_,rfl,rfl,ZY (by omega),Zc6 (by omega),?_⟩
      exact ht (decide_eq_true ⟨c1,c2⟩) _ _ (Same.refl _) rfl
     ·refine Xx (decide_eq_false (by rw [List.count_eq_zero_of_not_mem c2]; decide)) ?_
      exact hf (decide_eq_false fun q=>c2 q.2) _ (Same.refl _)
    ·refine Xx (decide_eq_false c1) (Zi0 ?_)
     exact hf (decide_eq_false fun q=>c1 q.1) _ (Same.refl _)
   intro D2 vs2 H9 hl2 hR9 hs9 hD2 hDl2
   refine ⟨hs9 _ _ hfz,?_⟩
   obtain ⟨sl,hsl⟩:∃ sl:List Str,sl=((List.range ks.length).filter fun i=>decide (bg (ks.getD i "")=en (tx (Zw L it.1))∧ks.getD i ""∈fw)).map fun i=>tx [lst (ks.getD i "")]:=⟨_,rfl⟩
   rw [Jw] at hl2 hR9
   have ev2:vs2=sl.map V.str:=by
    rw [hsl,List.map_map]
    apply List.ext_getElem?
    intro j
    rw [List.getElem?_map]
    by_cases hj:j < ((List.range ks.length).filter fun i=>decide (bg (ks.getD i "")=en (tx (Zw L it.1))∧ks.getD i ""∈fw)).length
    ·have hjv:j < vs2.length:=by rw [hl2]; exact hj
     rw [List.getElem?_eq_getElem hjv,List.getElem?_eq_getElem hj,hR9 j _ vs2[j] (List.getElem?_eq_getElem hj) (List.getElem?_eq_getElem hjv)]
     rfl
    ·rw [List.getElem?_eq_none (by rw [hl2]; omega),List.getElem?_eq_none (by omega)]
     rfl
   have hsll:sl.length≤20:=by
    rw [hsl,List.length_map]
    have:=List.length_filter_le (fun i=>decide (bg (ks.getD i "")=en (tx (Zw L it.1))∧ks.getD i ""∈fw)) (List.range ks.length)
    rw [List.length_range] at this
    omega
   have hslm:∀ x,x∈sl↔∃ y∈fw,bg y=en (tx (Zw L it.1))∧tx [lst y]=x:=fun x=>by
    rw [hsl,List.mem_map]
    constructor
    ·rintro ⟨i,hi,e⟩
     obtain ⟨_,h2⟩:=List.mem_filter.mp hi
     obtain ⟨h3,h4⟩:=of_decide_eq_true h2
     exact ⟨_,h4,h3,e⟩
    ·rintro ⟨y,hy,e1,e2⟩
     obtain ⟨i,hi,ei⟩:=List.getElem_of_mem ((hkm y).mpr (hfs y hy))
     have eg:ks.getD i "" = y:=by rw [List.getD_eq_getElem?_getD,List.getElem?_eq_getElem hi,ei]; rfl
     exact ⟨i,List.mem_filter.mpr ⟨List.mem_range.mpr hi,decide_eq_true (by rw [eg]; exact ⟨e1,hy⟩)⟩,by rw [eg]; exact e2⟩
   rw [ev2] at hDl2
   have sX:Same H8 (upd H9 d2 (.dK (gD ks fun x=>(fw.count x:Int)))):=fun c u hc=>by
    by_cases e:c=d2
    ·rw [e] at hc ⊢
     rw [Zc]
     exact hd8.symm.trans hc
    ·rw [Zj e]
     exact hs9 _ _ (by rw [Zj e]; exact hc)
   have hDd:D2≠d2:=fun e=>by rw [e,hfz] at hD2; cases hD2
   have hDX:(upd H9 d2 (.dK (gD ks fun x=>(fw.count x:Int)))) D2=some (.lst (sl.map V.str)):=by rw [Zj hDd]; exact hDl2
   generalize upd H9 d2 (HO.dK (gD ks fun x=>(fw.count x:Int)))=HX at sX hDX
   refine ⟨D2,sl,rfl,SqL.of hDX,by omega,fun p2 ks2 hp2 nd2 hm2 hl2'=>?_⟩
   refine ⟨p2,ks2,rfl,Zc,by omega,fun q2 ss hq2 hpm2 hsr2=>?_⟩
   generalize stO _ p2 ks2=so at hq2 ⊢
   have sY:Same HX (upd (upd HX p2 so) q2 (.lst (ss.map V.str))):=(Za hp2).trans (Za hq2)
   have hq2':(upd (upd HX p2 so) q2 (.lst (ss.map V.str))) q2=some (.lst (ss.map V.str)):=Zc
   have ndss:ss.Nodup:=hpm2.nodup_iff.mpr nd2
   have hssm:∀ x,x∈ss↔∃ y∈fw,bg y=en (tx (Zw L it.1))∧tx [lst y]=x:=fun x=>by rw [hpm2.mem_iff,hm2,hslm]
   obtain ⟨hG2,hlt2⟩:=hstep ndss hssm
   have sXY:=sX.trans sY
   have ha9:=sXY _ _ ha8
   have hf9:=sXY _ _ hf8
   have hS9:=hS8.keep sXY.nl
   have hd9:=sXY _ _ hd8
   have sH9:=s8.trans sXY
   generalize upd (upd HX p2 so) q2 (HO.lst (ss.map V.str))=HY at hq2' ha9 hf9 hS9 hd9 sH9
   have hqa:q2≠a:=fun e=>by
    have h1:=sX _ _ ha8
    have h2:=Za (o:=so) hp2 _ _ h1
    rw [e,h2] at hq2
    cases hq2
   have hssl:ss.length≤20:=by rw [hpm2.length_eq]; omega
   have hi0:=Zfe (its0 ++ [it])
   rw [List.length_append,List.length_singleton] at hi0
   refine ⟨_,rfl,q2,rfl,⟨_,SqL.of hq2'⟩,?_⟩
   refine ZaE (K:=K) (a:=q2) (xs:=ss.map V.str) (fun i σ H'=>∃ (z9:Option V) (us':List V),σ=[some (.ref q),some (.int L),some (.ref a),some (.ref f),some (tV it.1),some (.ref d),some (.str (tx (Zw L it.1))),some (.ref d2),some (.ref q2),z9]∧Same H H'∧H' a=some (.lst us')∧H' f=some (.lst (fs'.map tV))∧Stk H' ks us' (its0 ++ Yg it.1 fw (ss.take i))∧H' d2=some (.dK (gD ks fun x=>(fw.count x:Int)))∧H' q2=some (.lst (ss.map V.str)))
    ⟨z9,usr,rfl,sH9,ha9,hf9,by rw [List.take_zero]; unfold Yg; rw [List.map_nil,List.append_nil]; exact hS9,hd9,hq2'⟩ (fun i σ H' _ ⟨_,_,_,_,_,_,_,_,h7⟩=>SqL.of h7) ?_ ?_
   ·rintro i x σ H' hi ⟨z9,us',rfl,sI,haI,hfI,hSI,hdI,hqI⟩
    rw [List.getElem?_map] at hi
    obtain ⟨sg1,hsg,rfl⟩:=Option.map_eq_some_iff.mp hi
    have hil:i < ss.length:=(List.getElem?_eq_some_iff.mp hsg).1
    have hsl1:sg1.length=1:=by
     obtain ⟨y,_,_,e⟩:=(hssm sg1).mp (List.mem_of_getElem? hsg)
     rw [← e,Zs]
     rfl
    refine ⟨_,rfl,.inl ⟨rfl,_,SqL.of haI⟩,_,rfl,_,rfl,_,_,rfl,rfl,Zg (by rw [Zs,hsl1]; omega),_,rfl,Zg (show 2≤1000 by decide),fun c hc=>?_⟩
    have t5:=Za (o:=.tup [.str (tx it.1 ++ sg1),.ref d2]) hc
    have ha6:=t5 _ _ haI
    have hul:=hSI.len
    have hpl:(Yg it.1 fw (ss.take i)).length≤20:=by unfold Yg; rw [List.length_map,List.length_take]; omega
    rw [List.length_append] at hul
    refine ⟨a,us',_,rfl,rfl,ha6,ZbU (by omega),?_⟩
    have nA:=ZcZ (ys:=us' ++ [.ref c]) ha6
    have nB:=t5.nl.trans nA
    have eap:tx it.1 ++ sg1=tx (it.1 ++ sg1.cps.toList):=by rw [← YD,tx_eta]
    have hcc:(upd H' c (.tup [.str (tx it.1 ++ sg1),.ref d2])) c=some (.tup [tV (it.1 ++ sg1.cps.toList),.ref d2]):=by rw [Zc,eap]
    refine ⟨_,_,rfl,ZT (sI.trans t5) haN,Zc,?_,?_,nB _ _ (fun _ q=>by cases q) hdI,?_⟩
    ·rw [Zj (Ne.symm haf)]
     exact t5 _ _ hfI
    ·have et:Yg it.1 fw (ss.take (i + 1))=Yg it.1 fw (ss.take i) ++ [(it.1 ++ sg1.cps.toList,fw)]:=by
      unfold Yg
      rw [List.take_succ_eq_append_getElem hil,List.map_append]
      rw [List.getElem?_eq_getElem hil] at hsg
      rw [Option.some.inj hsg]
      rfl
     rw [et,← List.append_assoc]
     exact (hSI.keep nB).snoc (it:=(it.1 ++ sg1.cps.toList,fw)) (nA _ _ (fun _ q=>by cases q) hcc) (nB _ _ (fun _ q=>by cases q) hdI)
    ·rw [Zj hqa]
     exact t5 _ _ hqI
   ·rintro σ H' ⟨z9,us',rfl,sI,haI,hfI,hSI,hdI,hqI⟩
    rw [List.length_map,List.take_length] at hSI
    refine ⟨_,?_,_,us',fs',_,_,_,_,_,_,rfl,sI,haI,hfI,hSI,by rw [efs]; exact hG2,by omega,rfl⟩
    rw [hmm]
    exact hlt2
  ·rintro σ H4 ⟨fs,z2,z4,z5,z6,z7,z8,z9,rfl,s4,hf4,hG⟩
   refine ⟨_,rfl,k f fs H4 s4 hf4 hG.fnd (fun t ht=>?_) ?_⟩
   ·rcases hG.cov t ht with q | ⟨it,hit,_⟩
    ·exact q
    ·cases hit
   ·have:=hG.num
    omega
end
end Sh
namespace L2
open PySem PySem.Spec PyProof.Rows PySem.W
theorem J0 {X:Cx} (hc:X.calm=true):CallR X (.type "set") (fun xs H Q=>∃ (a:Addr) (ss:List Str),xs=[.ref a]∧SqL X.K H a (ss.map V.str)∧ss.length≤4000 ∧
  ∀ (p:Addr) (ks:List Str),H p=none→ks.Nodup→(∀ x,x∈ks↔x∈ss)→Q (.ref p) (upd H p (stO X p ks))):=by
 intro pins s σ H xs us Q I r h
 obtain ⟨a,ss,rfl,hq,h1k,q⟩:=h
 obtain ⟨u,rfl,ru⟩:=Y5 r
 cases ru
 obtain ⟨its,rv,pl,hz⟩:=I.list hq
 have hl:=rv.length
 rw [List.length_map] at hl
 refine Zby (I.ok.hd hc) pl.isList (by simpa using YU rv) (by rw [List.size_toArray]; show its.length + 1 < 4096; omega) fun h1 tk hS kk=>?_
 have ez:its.toArray.size=ss.length:=by rw [List.size_toArray,hl]
 rw [ez] at hS
 have hn:H s.heap.objs.size=none:=I.hok.fresh (Nat.le_refl _)
 obtain ⟨o,es,ep,t,T⟩:=id hS
 refine ⟨.ref s.heap.objs.size,_,I.laid (t':=tk) (o:=stO X s.heap.objs.size _) kk (Nat.le_refl _) ⟨hS,⟨o,T.ob⟩,fun g1 g2 z k=>z.keep k⟩,rfl,q _ _ hn T.nd (fun x=>?_)⟩
 rw [Zcn]
 constructor
 ·rintro ⟨j,hj,e⟩
  rw [← e,List.getD_eq_getElem?_getD,List.getElem?_eq_getElem hj]
  exact List.getElem_mem hj
 ·intro hx
  obtain ⟨j,hj,e⟩:=List.getElem_of_mem hx
  exact ⟨j,hj,by rw [List.getD_eq_getElem?_getD,List.getElem?_eq_getElem hj]; exact e⟩
end L2
namespace Sh
open PySem L2 PyProof.Rows
seal L2.PE L2.PS L2.PSs L2.PT L2.PW L2.PA L2.PI L2.PG L2.PGs L2.PO L2.PC L2.PCs L2.OpR L2.UnR L2.CallR L2.MtR L2.IxR L2.SlR
theorem ZcU {H:Hp}:∀ ps:List Str,RepA H (ps.map PyData.str) (ps.map V.str)
 | []=>by rw [List.map_nil,RepA]; rfl
 | p :: ps=>by
  rw [List.map_cons,RepA]
  exact ⟨.str p,ps.map V.str,rfl,by rw [RepD],ZcU ps⟩
theorem Xj {H:Hp} {a:Addr} {ps:List Str} (h:H a=some (.lst (ps.map V.str))):RepD H (.list (ps.map PyData.str)) (.ref a):=by
 rw [RepD]
 exact ⟨a,_,rfl,h,ZcU ps⟩
theorem Zf9 {z:Str} (h:Cd z.cps.toList):PyData.strOk z=true:=by
 unfold PyData.strOk
 rw [← Array.all_toList,List.all_eq_true]
 intro c hc
 have:=h c hc
 exact decide_eq_true (by omega)
theorem Zc9:∀ ps:List Str,(∀ p∈ps,PyData.strOk p=true)→PyData.canLayAll0 (ps.map PyData.str)=true
 | [],_=>by simp [PyData.canLayAll0]
 | p :: ps,h=>by
  rw [List.map_cons,PyData.canLayAll0,Zc9 ps fun q hq=>h q (List.mem_cons_of_mem _ hq)]
  simp [PyData.canLay0,h p List.mem_cons_self]
theorem JV:∀ ps:List Str,PyData.depthAll (ps.map PyData.str)=0
 | []=>by simp [PyData.depthAll]
 | p :: ps=>by
  rw [List.map_cons,PyData.depthAll,JV ps]
  simp [PyData.depth]
theorem Jd {ps:List Str} (h:∀ p∈ps,PyData.strOk p=true):SeqAt.shaped (.list (ps.map PyData.str))=true:=by
 unfold SeqAt.shaped
 rw [Bool.and_eq_true]
 constructor
 ·rw [PyData.canLay0]
  exact Zc9 ps h
 ·refine decide_eq_true ?_
  rw [PyData.depth,JV ps]
  decide
theorem Zhv {ps:List Str} {L:Nat} {z pd:List Nat} (h:Tx ps L z) (hm:tx pd∈ps) (s:Str):s∈(sb ps (tx pd)).map Prod.fst↔∃ t,Tx ps L t∧∃ i,i < t.length - L + 1∧(t.drop i).take L=pd∧sg t L i=s:=by
 constructor
 ·intro hs
  obtain ⟨y,i,hT,_,hi,hg,e⟩:=ZaS h hm hs
  rw [Z4 hi] at hg
  exact ⟨y,hT,i,hi,ZcH (Option.some.inj hg),e⟩
 ·rintro ⟨t,hT,i,hi,e1,e2⟩
  rw [← e2]
  exact Zf8 hT hi (by rw [Z4 hi,e1])
theorem ZfQ {ps:List Str} {L:Nat} {t pd:List Nat} (h:Tx ps L t) (hl:pd.length=L):(beh t pd (t.length - L + 1)).length=ps.count (tx pd):=by
 rw [← h.pm.count_eq]
 unfold beh pcs
 rw [List.length_map,hl,← List.countP_eq_length_filter,List.count,List.countP_map]
 congr 1
 funext i
 show decide ((t.drop i).take L=pd)=(tx ((t.drop i).take L) == tx pd)
 by_cases c:(t.drop i).take L=pd
 ·rw [decide_eq_true c,c]
  simp
 ·rw [decide_eq_false c]
  exact (beq_eq_false_iff_ne.mpr fun e=>c (ZcH e)).symm
theorem Zhi {g:Str→Int} {p:Str}:∀ {l:List Str},p∈l→(∀ x∈l,1≤g x)→g p + (l.length:Int)≤(l.map g).sum + 1
 | [],h,_=>by cases h
 | x :: l,h,k=>by
  rw [List.map_cons,List.sum_cons,List.length_cons]
  have hall:∀ l:List Str,(∀ x∈l,1≤g x)→(l.length:Int)≤(l.map g).sum:=fun l=>by
   induction l with
   | nil=>intro _; simp
   | cons y l ih =>
    intro q
    have h1:=q y List.mem_cons_self
    have h2:=ih fun z hz=>q z (List.mem_cons_of_mem _ hz)
    rw [List.map_cons,List.sum_cons,List.length_cons]
    push_cast
    omega
  rcases List.mem_cons.mp h with e | e
  ·have:=hall l fun z hz=>k z (List.mem_cons_of_mem _ hz)
   rw [e]
   push_cast
   omega
  ·have h1:=Zhi (g:=g) e fun z hz=>k z (List.mem_cons_of_mem _ hz)
   have h2:=k x List.mem_cons_self
   push_cast
   omega
theorem Zfn {ps:List Str} {hp:Es} {p:Str} (hO:Zz ps hp) (hm:p∈ps):hp.length + ps.count p≤ps.length + 1:=by
 have h1:=ZbO (YN hO) ps fun x hx=>(hO.mem x).mpr hx
 have h2:=Zhi (g:=fun x=>(ps.count x:Int)) ((hO.mem p).mpr hm) fun x hx=>by
  have:=List.count_pos_iff.mpr ((hO.mem x).mp hx)
  omega
 rw [h1,List.length_map] at h2
 omega
theorem ZiN {ps:List Str} {hp:Es} {p:Str} {n:Nat} (hO:Zz ps hp) (hm:p∈ps) (h6:ps.length≤6) (hn:n≤hp.length * fct (ps.length - 1)):n * ps.count p≤1440:=by
 have h1:=Zfn hO hm
 have h2:=ZfB h6
 have h3:hp.length * ps.count p≤12:=by
  have:hp.length≤7 - ps.count p:=by omega
  have hc:ps.count p≤6:=by have:=List.count_le_length (a:=p) (l:=ps); omega
  refine Nat.le_trans (Nat.mul_le_mul_right _ this) ?_
  generalize ps.count p=m at *
  have:m=0∨m=1∨m=2∨m=3∨m=4∨m=5∨m=6:=by omega
  rcases this with rfl | rfl | rfl | rfl | rfl | rfl | rfl <;> decide
 calc n * ps.count p≤hp.length * fct (ps.length - 1) * ps.count p:=Nat.mul_le_mul_right _ hn
  _=hp.length * ps.count p * fct (ps.length - 1):=by rw [Nat.mul_right_comm]
  _≤12 * 120:=Nat.mul_le_mul h3 h2
  _=1440:=rfl
theorem ZcO {l m:List Str} (hl:(l.map fun x=>x.cps.toList).Pairwise (· < ·)) (hm:(m.map fun x=>x.cps.toList).Pairwise (· < ·)) (h:∀ x,x∈l↔x∈m):l=m:=Zed hl hm h
structure Gat (ps:List Str) (L:Nat) (pd:List Nat) (fs:List (List Nat)) (i:Nat) (bs al:List Str):Prop where
 bm:∀ s,s∈bs↔∃ t∈fs.take i,s∈beh t pd (t.length - L + 1)
 am:∀ s,s∈al↔∃ t∈fs.take i,s∈beh t.reverse pd.reverse (t.length - L + 1)
 bl:bs.length=i * ps.count (tx pd)
 al_:al.length=i * ps.count (tx pd)
theorem Gat.step {ps:List Str} {L:Nat} {pd t:List Nat} {fs:List (List Nat)} {i:Nat} {bs al:List Str} (h:Gat ps L pd fs i bs al) (ht:Tx ps L t) (hl:pd.length=L) (e:fs[i]?=some t):Gat ps L pd fs (i + 1) (bs ++ beh t pd (t.length - L + 1)) (al ++ beh t.reverse pd.reverse (t.length - L + 1)):=by
 have hi:i < fs.length:=(List.getElem?_eq_some_iff.mp e).1
 have et:fs.take (i + 1)=fs.take i ++ [t]:=by
  rw [List.take_succ_eq_append_getElem hi]
  rw [List.getElem?_eq_getElem hi] at e
  rw [Option.some.inj e]
 have hsp:∀ (A:Str→List Nat→Prop) (s:Str),(∃ u∈fs.take (i + 1),A s u)↔(∃ u∈fs.take i,A s u)∨A s t:=fun A s=>by
  rw [et]
  constructor
  ·rintro ⟨u,hu,q⟩
   rcases List.mem_append.mp hu with r | r
   ·exact .inl ⟨u,r,q⟩
   ·rw [List.mem_singleton.mp r] at q
    exact .inr q
  ·rintro (⟨u,hu,q⟩ | q)
   ·exact ⟨u,List.mem_append_left _ hu,q⟩
   ·exact ⟨t,List.mem_append_right _ (List.mem_singleton.mpr rfl),q⟩
 refine ⟨fun s=>?_,fun s=>?_,?_,?_⟩
 ·rw [List.mem_append,h.bm,hsp fun s u=>s∈beh u pd (u.length - L + 1)]
 ·rw [List.mem_append,h.am,hsp fun s u=>s∈beh u.reverse pd.reverse (u.length - L + 1)]
 ·rw [List.length_append,h.bl,ZfQ ht hl,Nat.succ_mul]
 ·have h2:=ZfQ ht.rev (pd:=pd.reverse) (by rw [List.length_reverse]; exact hl)
  rw [List.length_reverse] at h2
  have e2:(ps.map rv).count (tx pd.reverse)=ps.count (tx pd):=by
   rw [← ZhP ps (tx pd)]
   unfold rv
   rw [Zr]
  rw [List.length_append,h.al_,h2,e2,Nat.succ_mul]
theorem Gat.all {ps:List Str} {L:Nat} {pd z:List Nat} {fs:List (List Nat)} {bs al:List Str} (h:Gat ps L pd fs fs.length bs al) (hz:Tx ps L z) (hl:pd.length=L) (hm:tx pd∈ps) (hf:∀ t∈fs,Tx ps L t) (hc:∀ t,Tx ps L t→t∈fs) :
  (∀ s,s∈bs↔s∈(sb ps (tx pd)).map Prod.fst)∧∀ s,s∈al↔s∈(sb (ps.map rv) (rv (tx pd))).map Prod.fst:=by
 have erv:rv (tx pd)=tx pd.reverse:=by unfold rv; rw [Zr]
 have hmr:tx pd.reverse∈ps.map rv:=by rw [← erv]; exact List.mem_map.mpr ⟨_,hm,rfl⟩
 have hb:=h.bm
 have ha:=h.am
 rw [List.take_length] at hb ha
 constructor
 ·intro s
  rw [hb,Zhv hz hm]
  constructor
  ·rintro ⟨t,ht,q⟩
   obtain ⟨i,hi,e1,e2⟩:=beh_mem.mp q
   rw [hl] at e1 e2
   exact ⟨t,hf t ht,i,hi,e1,e2⟩
  ·rintro ⟨t,ht,i,hi,e1,e2⟩
   exact ⟨t,hc t ht,beh_mem.mpr ⟨i,hi,by rw [hl]; exact e1,by rw [hl]; exact e2⟩⟩
 ·intro s
  rw [ha,erv,Zhv hz.rev hmr]
  constructor
  ·rintro ⟨t,ht,q⟩
   obtain ⟨i,hi,e1,e2⟩:=beh_mem.mp q
   rw [List.length_reverse,hl] at e1 e2
   exact ⟨t.reverse,(hf t ht).rev,i,by rw [List.length_reverse]; exact hi,e1,e2⟩
  ·rintro ⟨y,hy,i,hi,e1,e2⟩
   have hy2:=hy.rev
   have erp:(ps.map rv).map rv=ps:=by
    rw [List.map_map]
    conv=>rhs; rw [← List.map_id ps]
    exact List.map_congr_left fun x _=>Zib x
   rw [erp] at hy2
   refine ⟨y.reverse,hc _ hy2,beh_mem.mpr ⟨i,by rw [List.length_reverse]; exact hi,?_,?_⟩⟩
   ·rw [List.reverse_reverse,List.length_reverse,hl]; exact e1
   ·rw [List.reverse_reverse,List.length_reverse,hl]; exact e2
theorem Zhw {ps:List Str} {p:Str} (hR:RO ps):(sb ps p).length≤21:=by
 have h1:(sb ps p).length≤(Yf ps p).length:=List.length_filterMap_le _ _
 obtain ⟨hp1,hO1⟩:=Yk (ps.erase p)
 have h2:(Yf ps p).length≤hp1.length + 1:=by
  unfold Yf nxt
  rw [Yj hO1,List.length_cons,List.length_map,List.length_map]
  have:=List.length_filter_le (fun e:Str × Int=>decide (bg e.1=en p)) hp1
  omega
 have:=ZZ hO1
 have:=(hR.erase p).len
 omega
theorem Zji {ps:List Str} {L:Nat} {z:List Nat} {p:Str} (h:Tx ps L z) (hm:p∈ps):∀ s∈(sb ps p).map Prod.fst,PyData.strOk s=true:=fun s hs=>by
 obtain ⟨y,i,hT,_,_,_,e⟩:=ZaS h hm hs
 refine Zf9 fun c hc=>?_
 rw [← e] at hc
 unfold sg at hc
 rw [Zr] at hc
 exact hT.cd c (List.mem_of_mem_drop (List.mem_of_mem_take hc))
theorem ZcS {n:Nat} (h:n≤60000):n≤sizeLine:=Nat.le_of_lt (ZbU h)
section
variable {P:Program} {w:World} {K:PySem.W.Frag} {mg:Str→Option Value} {base:Heap}
abbrev Zgn:Stmt:=top 46
abbrev ZlM:List Str:=["_law_script","_law_deck_here","_law_cell","_law_long","_law_some","_law_signs_here","_law_heap","_law_texts","_law_piece","_law_many","_law_behind_here","_law_ahead","_law_made"]
theorem scLaw:Zn ZlM ["_law_script"] (Zf Zgn):=⟨rfl,rfl,rfl,by decide +kernel,rfl,by decide +kernel,by decide +kernel⟩
def Zgc (K:PySem.W.Frag):Sp:=fun vs H Q _=>∃ (a:Addr) (ns:List Int),vs=[.ref a]∧SqL K H a (ns.map V.int)∧ns.length≤63∧∀ H',Q (.bl true) H'
theorem ZjF {fa:Addr} {fd:FuncData} (Fl:Fun K "law" "law" Zgn fa fd) (B:Blt mg) (g3_:FOk P w K mg base 8 "_law_deck" ["_law_script","_law_many"] (Zhr K)) (g4_:FOk P w K mg base 8 "_law_letters" ["_law_deck_here","_law_few"] Zho) (g6_:FOk P w K mg base 8 "_law_signs" ["_law_deck_here","_law_some","_law_long"] Zeh)
  (g8_:FOk P w K mg base 8 "_law_torn" ["_law_signs_here","_law_long"] Zhk) (g0_:FOk P w K mg base 8 "_law_all" ["_law_heap","_law_long"] Zjh) (g2_:FOk P w K mg base 8 "_law_behind" ["_law_signs_here","_law_piece"] ZaW) (g1_:FOk P w K mg base 8 "_law_back" ["_law_signs_here"] Zel)
  (g13_:FOk P w K mg base 8 "behind_of" ["H","piece"] ZcQ) (g9_:FOk P w K mg base 8 "ahead_of" ["H","piece"] Zeo) (g7_:FOk P w K mg base 8 "_law_told_signs" ["_law_pairs"] Zeg) :
  FnOk P w K mg base CX0 9 fa fd ["_law_script"] (Zgc K):=by
 refine Fl.ok scLaw (fun vs H Q E h=>?_) (fun cdv A outer s H vs Q E hr h=>?_)
 ·obtain ⟨a,ns,rfl,_⟩:=h
  rfl
 ·obtain ⟨a,ns,rfl,ha,hl,k⟩:=h
  refine ⟨_,(Ze (Zm (i:=1) scLaw.nd rfl (.inl rfl) (Zx g3_ hr (Zb (pv 0) (Zb Zi Zd))))
   (Ze (Zm (i:=2) scLaw.nd rfl (.inl rfl) (Jj F.plainAttrs_list F.slot_list_pop F.type_list_pop Xd (pv 1)))
   (Ze (Zm (i:=3) scLaw.nd rfl (.inl rfl) (Zo ZU Zi (Zo Ya (pv 2) Zi)))
   (Ze (Zm (i:=4) scLaw.nd rfl (.inl rfl) (Zx g4_ hr (Zb (pv 1) (Zb (ZP ix_list (ZN (Zb Zi (Zb Zi (Zb Zi (Zb Zi (Zb Zi Zd)))))) (Zo Ya (Zo Xc (pv 2) Zi) Zi) (fun _ _=>rfl)) Zd))))
   (Ze (Zm (i:=5) scLaw.nd rfl (.inl rfl) (Zx g6_ hr (Zb (pv 1) (Zb (pv 4) (Zb (Zo ZU (pv 3) (Zo Ya (Zo Xc (pv 2) Zi) Zi)) Zd)))))
   (Ze (Yn (ZA Zap (Zo Ya (Zo Xc (pv 2) Zi) Zi) Zi (ZJ _)) (Zh (Zm (i:=5) scLaw.nd rfl (.inl rfl) (ZM Yr (Zo ZQ (pv 5) (ZM Yr (pv 5) Z8 (ZO (Zo YM (pv 3) Zi)))) Z8 (ZO (Zo ZU (pv 3) Zi))))) ZK)
   (Ze (Zm (i:=6) scLaw.nd rfl (.inl rfl) (Zx g8_ hr (Zb (pv 5) (Zb (pv 3) Zd))))
   (Ze (Zm (i:=7) scLaw.nd rfl (.inl rfl) (Zx g0_ hr (Zb (pv 6) (Zb (pv 3) Zd))))
   (Ze (Yh PassesOwn.never rfl (Yi (pv 6)) (Z3 2 K rfl (Zt (ZG (i:=8) scLaw.nd rfl (.inl rfl)) (Zt (ZG (i:=9) scLaw.nd rfl (.inl rfl)) Z2)))
    (Ze (Zm (i:=10) scLaw.nd rfl (.inl rfl) (ZN Zd))
   (Ze (Zm (i:=11) scLaw.nd rfl (.inl rfl) (ZN Zd))
   (Ze (Yh PassesOwn.never rfl (Ji (pv 7)) (ZG (i:=12) scLaw.nd rfl (.inl rfl))
    (Ze (Zm (i:=10) scLaw.nd rfl (.inl rfl) (Zo JN (pv 10) (Zx g2_ hr (Zb (pv 12) (Zb (pv 8) Zd)))))
   (Zh (Zm (i:=11) scLaw.nd rfl (.inl rfl) (Zo JN (pv 11) (Zx g2_ hr (Zb (Zx g1_ hr (Zb (pv 12) Zd)) (Zb (Zx g1_ hr (Zb (pv 8) Zd)) Zd))))))))
   (Ze (Yn (ZA (Za8 hr.units) (Zx g7_ hr (Zb (Zx g13_ hr (Zb (pv 6) (Zb (pv 8) Zd))) Zd)) (Zk (Z0 rfl) rfl B.sorted Yd (Zb (Zv (J0 rfl) rfl B.set Zhc (Zb (pv 10) Zd)) Zd)) (ZJ _)) (Zh (Zu Za5)) ZK)
   (Zh (Yn (ZA (Za8 hr.units) (Zx g7_ hr (Zb (Zx g9_ hr (Zb (pv 6) (Zb (pv 8) Zd))) Zd)) (Zk (Z0 rfl) rfl B.sorted Yd (Zb (Zv (J0 rfl) rfl B.set Zhc (Zb (pv 11) Zd)) Zd)) (ZJ _)) (Zh (Zu Za5)) ZK)))))))
   (Zh (Zu Za5))))))))))),?_⟩
  refine ⟨_,rfl,a,ns,8,rfl,ha,hl,by decide,fun Dk H1 s1 hD1=>?_⟩
  have hD1':DK H1 Dk (7 + 1):=hD1
  obtain ⟨ns1,c1,hDn1,c10,c11,hD3⟩:=hD1'.pop
  refine ⟨_,rfl,.inl ⟨rfl,_,SqL.of hDn1⟩,Dk,_,.int c1,rfl,rfl,hDn1,ZaA ns1 c1,?_⟩
  rw [ZaH]
  generalize upd H1 Dk (.lst (ns1.map V.int))=H3 at hD3
  clear hD1 hD1' hDn1
  refine ⟨_,rfl,_,_,rfl,rfl,(by show (0:Int) < 4; decide),_,_,rfl,rfl,?_⟩
  have m4:=Yo c1 (show (0:Int) < 4 by decide)
  obtain ⟨L,eL⟩:∃ L:Nat,1 + c1 % 4=(L:Int):=⟨(1 + c1 % 4).toNat,by omega⟩
  dsimp only
  rw [eL]
  have hL:1≤L∧L≤4:=by omega
  have m5:=Yo (c1 / 4) (show (0:Int) < 5 by decide)
  obtain ⟨few,hat,fl,fh⟩:=ZkW (ns:=[2,2,3,4,26]) (i:=c1 / 4 % 5) (lo:=2) (hi:=26) m5.1 m5.2 (by decide) (by decide)
  refine ⟨_,rfl,Zg (show 5≤1000 by decide),fun p1 hp1=>?_⟩
  have t1:=Za (o:=.lst ([2,2,3,4,26].map V.int)) hp1
  refine ⟨_,rfl,_,_,rfl,rfl,⟨by decide,by decide⟩,_,_,rfl,rfl,(by show (0:Int) < 5; decide),p1,_,_,_,rfl,rfl,SqL.of Zc,hat,?_⟩
  have hD4:DK (upd H3 p1 (.lst ([2,2,3,4,26].map V.int))) Dk (6 + 1):=(hD3.same t1).less (by decide)
  refine ⟨Dk,few,6,rfl,by omega,by omega,hD4,fun zl H5 sb5 hD5 zll zlc=>?_⟩
  have m6:=Yo (c1 / 20) (show (0:Int) < 6 by decide)
  obtain ⟨Ls,eLs⟩:∃ Ls:Nat,(L:Int) + c1 / 20 % 6=(Ls:Int):=⟨((L:Int) + c1 / 20 % 6).toNat,by omega⟩
  refine ⟨_,rfl,_,rfl,_,rfl,_,rfl,_,_,rfl,rfl,⟨by decide,by decide⟩,_,_,rfl,rfl,(by show (0:Int) < 6; decide),_,_,rfl,rfl,Dk,zl,Ls,5,congrArg (fun i:Int=>[V.ref Dk,V.str (tx zl),V.int i]) eLs,by omega,by omega,zlc,by omega,hD5.less (by omega),fun z0 H6 sb6 hD6 z0l z0c=>?_⟩
  try dsimp only [XY]
  show ZfY (Zky _ _ _) _ _ _ _
  refine ZbW (fun σ H'=>∃ z:List Nat,σ=[some (.ref a),some (.ref Dk),some (.int c1),some (.int L),some (.str (tx zl)),some (.str (tx z)),none,none,none,none,none,none,none]∧L≤z.length∧z.length≤L + 5∧Cd z) (fun R hR=>?_) ?_
  ·refine ⟨_,rfl,_,_,rfl,rfl,⟨by decide,by decide⟩,_,_,rfl,rfl,(by show (0:Int) < 3; decide),rfl,_,rfl,Zk0 (fun e=>?_) (fun e=>hR _ _ ⟨z0,rfl,by omega,by omega,z0c⟩)⟩
   refine ⟨_,rfl,_,rfl,_,rfl,_,_,rfl,rfl,_,rfl,tx z0,rfl,ZH (by omega),?_⟩
   rw [Yq (by omega)]
   refine ⟨_,_,rfl,rfl,Zg (by rw [Zs,Zs,List.length_take]; omega),?_⟩
   rw [YD]
   refine ⟨_,rfl,_,_,rfl,rfl,_,rfl,tx _,rfl,ZH (by rw [List.length_append,List.length_take]; omega),?_⟩
   rw [Yq (by omega)]
   refine hR _ _ ⟨_,rfl,?_,?_,fun c hc=>?_⟩
   ·rw [List.length_take,List.length_append]
    omega
   ·rw [List.length_take]
    omega
   ·rcases List.mem_append.mp (List.mem_of_mem_take hc) with q | q
    ·exact z0c c q
    ·exact z0c c (List.mem_of_mem_take q)
  rintro σ H7 ⟨z,rfl,hz1,hz2,zc⟩
  have hF:Fit z L:=⟨hL.1,hz1⟩
  refine ⟨_,rfl,_,rfl,z,L,rfl,hF,by omega,fun vh H8 hp s8 hO hA=>?_⟩
  have hT:Tx (pcs z L) L z:=⟨hF,List.Perm.refl _,zc,by omega⟩
  have h6:(pcs z L).length≤6:=by rw [ZD]; omega
  generalize pcs z L=ps at hO hT h6
  have hV8:Hv H8 vh ps hp:=⟨hA,hO⟩
  refine ⟨_,rfl,_,rfl,vh,ps,hp,L,z,rfl,hV8,hT,h6,fun f fs H9 s9 hf9 hfT hfC hfN=>?_⟩
  have hV9:=hV8.same s9
  obtain ⟨ah,xs,rfl,hah,hlx,hxs⟩:=Ja hV9.at_
  refine ⟨_,rfl,ah,rfl,⟨_,SqT.of hah⟩,?_⟩
  refine XL (K:=K) (a:=ah) (xs:=xs) (fun i σ H'=>∃ z8 z9 z10 z11 z12:Option V,σ=[some (.ref a),some (.ref Dk),some (.int c1),some (.int L),some (.str (tx zl)),some (.str (tx z)),some (.ref ah),some (.ref f),z8,z9,z10,z11,z12]∧Same H9 H')
   ⟨none,none,none,none,none,rfl,Same.refl _⟩ (fun i σ H' _ ⟨_,_,_,_,_,_,s'⟩=>SqT.of (s' _ _ hah)) ?_ ?_
  ·rintro i x σ HA hi ⟨z8,z9,z10,z11,z12,rfl,sA⟩
   have hiv:i < xs.length:=(List.getElem?_eq_some_iff.mp hi).1
   have hie:i < hp.length:=by rw [← hlx]; exact hiv
   obtain ⟨b,e1,e2⟩:=hxs i hp[i] (List.getElem?_eq_getElem hie)
   rw [hi] at e1
   cases e1
   have hm:hp[i].1∈ps:=(hO.mem _).mp (List.mem_map.mpr ⟨_,List.getElem_mem hie,rfl⟩)
   generalize hp[i]=e at e2 hm
   obtain ⟨pe,ne⟩:=e
   obtain ⟨pd,rfl⟩:∃ pd,pe=tx pd:=⟨_,(tx_eta pe).symm⟩
   have hpl:pd.length=L:=by have:=hT.len hm; rw [Zs] at this; exact this
   have hm:tx pd∈ps:=hm
   have hcnt:fs.length * ps.count (tx pd)≤1440:=ZiN hO hm h6 hfN
   refine ⟨b,_,rfl,SqT.of (sA _ _ e2),rfl,_,_,rfl,_,_,rfl,rfl,?_⟩
   refine ⟨Zg (show 0≤1000 by decide),fun b1 hb1=>?_⟩
   have u1:=Za (o:=.lst []) hb1
   refine ⟨Zg (show 0≤1000 by decide),fun b2 hb2=>?_⟩
   have u2:=Za (o:=.lst []) hb2
   have sB:=sA.trans (u1.trans u2)
   have hf10:=sB _ _ hf9
   refine ⟨_,rfl,f,rfl,⟨_,SqL.of hf10⟩,?_⟩
   refine ZaE (K:=K) (a:=f) (xs:=fs.map tV) (fun j σ H'=>∃ (z12:Option V) (bs al:List Str) (c1' c2':Addr),σ=[some (.ref a),some (.ref Dk),some (.int c1),some (.int L),some (.str (tx zl)),some (.str (tx z)),some (.ref ah),some (.ref f),some (.str (tx pd)),some (.int ne),some (.ref c1'),some (.ref c2'),z12]∧Same H9 H'∧H' c1'=some (.lst (bs.map V.str))∧H' c2'=some (.lst (al.map V.str))∧j≤fs.length∧Gat ps L pd fs j bs al)
    ⟨z12,[],[],b1,b2,rfl,sB,u2 _ _ Zc,Zc,Nat.zero_le _,⟨fun s=>by simp,fun s=>by simp,by simp,by simp⟩⟩ (fun j σ H' _ ⟨_,_,_,_,_,_,s',_⟩=>SqL.of (s' _ _ hf9)) ?_ ?_
   ·rintro j x σ HB hj ⟨z12,bs,al,c1',c2',rfl,sC,hc1,hc2,hjl,hg⟩
    rw [List.getElem?_map] at hj
    obtain ⟨t,ht,rfl⟩:=Option.map_eq_some_iff.mp hj
    have hjlt:j < fs.length:=(List.getElem?_eq_some_iff.mp ht).1
    have htT:=hfT t (List.mem_of_getElem? ht)
    have htl:=htT.fit.le
    have htf:=htT.few
    have hbl:=hg.bl
    have hal:=hg.al_
    have hjm:j * ps.count (tx pd)≤1440:=Nat.le_trans (Nat.mul_le_mul_right _ hjl) hcnt
    have bl1:=ZcA t pd (t.length - L + 1)
    have bl2:=ZcA t.reverse pd.reverse (t.length - L + 1)
    refine ⟨_,rfl,_,rfl,_,rfl,t,pd,rfl,by omega,by omega,fun q1 HC sD hq1=>?_⟩
    rw [hpl] at hq1
    refine ⟨c1',q1,_,_,rfl,rfl,sD _ _ hc1,hq1,ZcS (by rw [List.length_map,List.length_map]; omega),fun r1 hr1=>?_⟩
    have v1:=Za (o:=.lst (bs.map V.str ++ (beh t pd (t.length - L + 1)).map V.str)) hr1
    refine ⟨_,rfl,_,rfl,t,rfl,by omega,fun HD sE=>?_⟩
    refine ⟨_,rfl,pd,rfl,by omega,fun HE sF=>?_⟩
    refine ⟨t.reverse,pd.reverse,rfl,by rw [List.length_reverse,List.length_reverse]; omega,by rw [List.length_reverse]; omega,fun q2 HF sG hq2=>?_⟩
    rw [List.length_reverse,List.length_reverse,hpl] at hq2
    have sAll:=(((sD.trans v1).trans sE).trans sF).trans sG
    refine ⟨c2',q2,_,_,rfl,rfl,sAll _ _ hc2,hq2,ZcS (by rw [List.length_map,List.length_map]; omega),fun r2 hr2=>?_⟩
    have v2:=Za (o:=.lst (al.map V.str ++ (beh t.reverse pd.reverse (t.length - L + 1)).map V.str)) hr2
    refine ⟨_,bs ++ beh t pd (t.length - L + 1),al ++ beh t.reverse pd.reverse (t.length - L + 1),r1,r2,rfl,(sC.trans sAll).trans v2,?_,?_,by omega,hg.step htT hpl ht⟩
    ·rw [List.map_append]
     exact v2 _ _ (sG _ _ (sF _ _ (sE _ _ Zc)))
    ·rw [List.map_append]
     exact Zc
   ·rintro σ HB ⟨z12,bs,al,c1',c2',rfl,sC,hc1,hc2,_,hg⟩
    rw [List.length_map] at hg
    obtain ⟨hbm,ham⟩:=hg.all hT hpl hm hfT hfC
    have hbl:=hg.bl
    have hal:=hg.al_
    have hR:=hT.ro
    have hmr:rv (tx pd)∈ps.map rv:=List.mem_map.mpr ⟨_,hm,rfl⟩
    refine ⟨_,rfl,_,rfl,.ref ah,ps,hp,tx pd,L,z,rfl,hV9.same sC,hT,hm,fun v1 HC sD hr1=>?_⟩
    have hf1:=Zhw (p:=tx pd) hR
    refine ⟨v1,_,rfl,hr1,by omega,fun q1 HD sE hq1=>?_⟩
    have sDE:=sD.trans sE
    refine ⟨_,rfl,c1',bs,rfl,SqL.of (sDE _ _ hc1),by omega,fun p2 ks2 hp2 nd2 hm2=>?_⟩
    have hkl:ks2.length≤21:=by
     have:=Y1 nd2 (B:=(sb ps (tx pd)).map Prod.fst) fun x hx=>(hbm x).mp ((hm2 x).mp hx)
     rw [List.length_map] at this
     omega
    refine ⟨p2,ks2,rfl,Zc,by omega,fun q2 ss hq2 hpm2 hsr2=>?_⟩
    generalize stO _ p2 ks2=so at hq2 ⊢
    have w1:=(Za (o:=so) hp2).trans (Za (o:=.lst (ss.map V.str)) hq2)
    have ess:ss=(sb ps (tx pd)).map Prod.fst:=ZcO hsr2 (Zhu hR) fun x=>by rw [hpm2.mem_iff,hm2,hbm]
    have hsh:=Jd (Zji hT hm)
    refine ⟨_,_,Xj (w1 _ _ hq1),Xj Zc,hsh,by rw [ess]; exact hsh,_,rfl,?_⟩
    rw [ess,ZhL hsh]
    refine Xx rfl ?_
    have sW:=sDE.trans w1
    have hc2':=sW _ _ hc2
    have sC2:=sC.trans sW
    rw [ess] at sW hc2' sC2
    generalize upd (upd HD p2 so) q2 _=HX at sW hc2' sC2 ⊢
    refine ⟨_,rfl,_,rfl,.ref ah,ps,hp,tx pd,L,z,rfl,hV9.same sC2,hT,hm,fun v2 HY sF hr2=>?_⟩
    have hf2:=Zhw (p:=rv (tx pd)) hT.rev.ro
    refine ⟨v2,_,rfl,hr2,by rw [List.length_map]; omega,fun q3 HZ sG hq3=>?_⟩
    have efs2:(((sb (ps.map rv) (rv (tx pd))).map fun r=>((r.1,rv r.2):Str × Str)).map Prod.fst)=(sb (ps.map rv) (rv (tx pd))).map Prod.fst:=by
     rw [List.map_map]
     rfl
    rw [efs2] at hq3
    have sFG:=sF.trans sG
    refine ⟨_,rfl,c2',al,rfl,SqL.of (sFG _ _ hc2'),by omega,fun p4 ks4 hp4 nd4 hm4=>?_⟩
    have hkl4:ks4.length≤21:=by
     have:=Y1 nd4 (B:=(sb (ps.map rv) (rv (tx pd))).map Prod.fst) fun x hx=>(ham x).mp ((hm4 x).mp hx)
     rw [List.length_map] at this
     omega
    refine ⟨p4,ks4,rfl,Zc,by omega,fun q4 ss4 hq4 hpm4 hsr4=>?_⟩
    generalize stO _ p4 ks4=so4 at hq4 ⊢
    have w2:=(Za (o:=so4) hp4).trans (Za (o:=.lst (ss4.map V.str)) hq4)
    have ess4:ss4=(sb (ps.map rv) (rv (tx pd))).map Prod.fst:=ZcO hsr4 (Zhu hT.rev.ro) fun x=>by rw [hpm4.mem_iff,hm4,ham]
    have hsh4:=Jd (Zji hT.rev hmr)
    refine ⟨_,_,Xj (w2 _ _ hq3),Xj Zc,hsh4,by rw [ess4]; exact hsh4,_,rfl,?_⟩
    rw [ess4,ZhL hsh4]
    refine Xx rfl ?_
    refine ⟨_,_,_,_,_,rfl,?_⟩
    rw [ess4] at w2
    exact (sC2.trans sFG).trans w2
  ·rintro σ HA ⟨z8,z9,z10,z11,z12,rfl,sA⟩
   exact k _
end
end Sh
namespace Sh
open PySem L2
theorem blt_mk {K:PySem.W.Frag} {h:Heap} {mg:Str→Option Value} (X:K.In h) (G:h.Ns mainGlobals mg) (z0:PySem.W.nsIn K mainGlobals "isinstance" = some none) (z1:PySem.W.nsIn K mainGlobals "int" = some none) (z2:PySem.W.nsIn K mainGlobals "bool" = some none) (z3:PySem.W.nsIn K mainGlobals "len" = some none) (z4:PySem.W.nsIn K mainGlobals "range" = some none) (z5:PySem.W.nsIn K mainGlobals "list" = some none) (z6:PySem.W.nsIn K mainGlobals "tuple" = some none) (z7:PySem.W.nsIn K mainGlobals "enumerate" = some none) (z8:PySem.W.nsIn K mainGlobals "sum" = some none) (z9:PySem.W.nsIn K mainGlobals "sorted" = some none) (z10:PySem.W.nsIn K mainGlobals "set" = some none) (z11:PySem.W.nsIn K mainGlobals "max" = some none) (z12:PySem.W.nsIn K mainGlobals "min" = some none) (z13:PySem.W.nsIn K mainGlobals "reversed" = some none) (z14:PySem.W.nsIn K mainGlobals "zip" = some none) (z15:PySem.W.nsIn K mainGlobals "str" = some none) (z16:PySem.W.nsIn K mainGlobals "dict" = some none):Blt mg :=
 ⟨PySem.W.mg_none_of X G z0,PySem.W.mg_none_of X G z1,PySem.W.mg_none_of X G z2,PySem.W.mg_none_of X G z3,PySem.W.mg_none_of X G z4,PySem.W.mg_none_of X G z5,PySem.W.mg_none_of X G z6,PySem.W.mg_none_of X G z7,PySem.W.mg_none_of X G z8,PySem.W.mg_none_of X G z9,PySem.W.mg_none_of X G z10,PySem.W.mg_none_of X G z11,PySem.W.mg_none_of X G z12,PySem.W.mg_none_of X G z13,PySem.W.mg_none_of X G z14,PySem.W.mg_none_of X G z15,PySem.W.mg_none_of X G z16⟩
structure Zlv (K:PySem.W.Frag) (mg:Str→Option Value) (C C2:Addr):Prop where
 np:XCls K mg "NoPiece" C (ZjS K C)
 nt:XCls K mg "NoTexts" C2 (ZjS K C2)
theorem er_mk {K:PySem.W.Frag} {h:Heap} {mg:Str→Option Value} {C C2:Addr} (X:K.In h) (G:h.Ns mainGlobals mg) (g1:PySem.W.nsIn K mainGlobals "NoPiece" = some (some (.ref C))) (g2:PySem.W.nsIn K mainGlobals "NoTexts" = some (some (.ref C2))) (q1:PySem.W.excIn K C Zli "ValueError.__new__" = true) (q2:PySem.W.excIn K C2 Zli "ValueError.__new__" = true):Zlv K mg C C2 :=
 ⟨ZdY (PySem.W.mg_of X G g1) q1,ZdY (PySem.W.mg_of X G g2) q2⟩
theorem all_mk {l:PySem.W.OpenLaw} {w:World} {K:PySem.W.Frag} {h:Heap} {mg:Str→Option Value} {fa f0:Addr} (X:K.In h) (G:h.Ns mainGlobals mg) (hfa:mg "law" = some (.ref fa)) {oc kV dc pm cd ct:Value} {od an:Option Addr} {sl:Array (Option Value)}
  (B:Blt mg) {C C2:Addr} (Er:Zlv K mg C C2)
  (D0:HasDef K mg "in_rows" Zb1 ["manys"])
  (D1:HasDef K mg "less_one" Zai ["H","piece"])
  (D2:HasDef K mg "begin_of" Zal ["piece"])
  (D3:HasDef K mg "end_of" ZeH ["piece"])
  (D4:HasDef K mg "ties_of" ZeA ["H"])
  (D5:HasDef K mg "points_of" YJ ["H"])
  (D6:HasDef K mg "nexts_of" X3 ["H","P"])
  (D7:HasDef K mg "more_out" Zah ["H"])
  (D8:HasDef K mg "begins_of" Xi ["H"])
  (D9:HasDef K mg "start_of" Zag ["H","wish"])
  (D10:HasDef K mg "tied_points" Y8 ["H"])
  (D11:HasDef K mg "part_of" ZbY ["H"])
  (D12:HasDef K mg "hangs" ZeG ["H"])
  (D13:HasDef K mg "numbers_out" Y9 ["ties"])
  (D14:HasDef K mg "is_way" ZeF ["ties","begin","numbers"])
  (D15:HasDef K mg "way_of" Zez ["ties","begin"])
  (D16:HasDef K mg "text_from" Xh ["ties","begin"])
  (D17:HasDef K mg "has_many_begins" X4 ["H"])
  (D18:HasDef K mg "has_text" Zak ["H"])
  (D19:HasDef K mg "text_with" Je ["H","piece","sign"])
  (D20:HasDef K mg "text_that_ends" Yv ["H","piece"])
  (D21:HasDef K mg "signs_behind" Ym ["H","piece"])
  (D22:HasDef K mg "backwards" YX ["H"])
  (D23:HasDef K mg "check_piece" Xa ["H","piece"])
  (D24:HasDef K mg "behind_of" Jg ["H","piece"])
  (D25:HasDef K mg "ahead_of" X5 ["H","piece"])
  (D26:HasDef K mg "_law_mixed" Zb0 ["_law_row","_law_k"])
  (D27:HasDef K mg "_law_deck" ZeC ["_law_script","_law_many"])
  (D28:HasDef K mg "_law_letters" Jf ["_law_deck_here","_law_few"])
  (D29:HasDef K mg "_law_signs" ZbZ ["_law_deck_here","_law_some","_law_long"])
  (D30:HasDef K mg "_law_torn" ZeB ["_law_signs_here","_law_long"])
  (D31:HasDef K mg "_law_behind" Zaj ["_law_signs_here","_law_piece"])
  (D32:HasDef K mg "_law_back" ZeD ["_law_signs_here"])
  (D33:HasDef K mg "_law_all" ZeE ["_law_heap","_law_long"])
  (D34:HasDef K mg "_law_told_signs" Yw ["_law_pairs"])
  (a0:PySem.W.nsIn K mainGlobals "law" = some (some (.ref f0))) (l0:K.lookup f0=some ⟨oc,od,.func (PySem.W.fnOf "law" "law" (YQ Zgn) (Z9 Zgn) (Zf Zgn) .none kV dc pm an cd ct),sl⟩) (c0:PySem.W.codeIn K cd "law" = true) (k0:PySem.W.keepIn K (.ref f0)=true) :
  ∃ fd:FuncData,(∀ (s:Shared) (v:Value),BindsTo s fd ⟨[v],[]⟩ [("_law_script",v)])∧∀ base:Heap,K.In base→base.Ns mainGlobals mg→FnOk l.prog w K mg base CX0 9 fa fd ["_law_script"] (Zgc K):=by
 have e:=hfa.symm.trans (PySem.W.mg_of X G a0)
 cases e
 refine ⟨PySem.W.fnOf "law" "law" (YQ Zgn) (Z9 Zgn) (Zf Zgn) .none kV dc pm an cd ct,fun s v=>.of_eq rfl,fun base _ _=>?_⟩
 have W0:=ZdG (P:=l.prog) (w:=w) (base:=base) D0 B
 have W1:=Zcd (P:=l.prog) (w:=w) (base:=base) D1 B B.dict Er.np (W0.mono (by decide))
 have W2:=Zcg (P:=l.prog) (w:=w) (base:=base) D2
 have W3:=Ze6 (P:=l.prog) (w:=w) (base:=base) D3
 have W4:=ZgB (P:=l.prog) (w:=w) (base:=base) D4 W2 W3
 have W5:=Zbc (P:=l.prog) (w:=w) (base:=base) D5 B W2 W3
 have W6:=Zcb (P:=l.prog) (w:=w) (base:=base) D6 B W2
 have W7:=Zcc (P:=l.prog) (w:=w) (base:=base) D7 W2 W3
 have W8:=Zbg (P:=l.prog) (w:=w) (base:=base) D8 B W7
 have W9:=Zca (P:=l.prog) (w:=w) (base:=base) D9 B W8
 have W10:=JE (P:=l.prog) (w:=w) (base:=base) D10 W2 W3
 have W11:=ZdD (P:=l.prog) (w:=w) (base:=base) D11 B (W2.mono (by decide)) W10
 have W12:=ZgD (P:=l.prog) (w:=w) (base:=base) D12 B W11 (W5.mono (by decide))
 have W13:=JF (P:=l.prog) (w:=w) (base:=base) D13 B
 have W14:=Ze5 (P:=l.prog) (w:=w) (base:=base) D14 B
 have W15:=Ze1 (P:=l.prog) (w:=w) (base:=base) D15 B W13 W14
 have W16:=Zbb (P:=l.prog) (w:=w) (base:=base) D16 B W15
 have W17:=Zbe (P:=l.prog) (w:=w) (base:=base) D17 B W8
 have W18:=Zcf (P:=l.prog) (w:=w) (base:=base) D18 B W12 W17
 have W19:=Zba (P:=l.prog) (w:=w) (base:=base) D19 W1 (W2.mono (by decide)) (W3.mono (by decide)) (W4.mono (by decide)) (W9.mono (by decide)) (W16.mono (by decide))
 have W20:=XH (P:=l.prog) (w:=w) (base:=base) D20 W1 (W2.mono (by decide)) (W3.mono (by decide)) (W4.mono (by decide)) (W9.mono (by decide)) (W16.mono (by decide))
 have W21:=Jm (P:=l.prog) (w:=w) (base:=base) D21 B (W1.mono (by decide)) (W3.mono (by decide)) (W6.mono (by decide)) W20 W19
 have W22:=Zbh (P:=l.prog) (w:=w) (base:=base) D22 B
 have W23:=JG (P:=l.prog) (w:=w) (base:=base) D23 B Er.np Er.nt W18
 have W24:=Zbf (P:=l.prog) (w:=w) (base:=base) D24 (W23.mono (by decide)) W21
 have W25:=Zch (P:=l.prog) (w:=w) (base:=base) D25 B (W23.mono (by decide)) W21 (W22.mono (by decide))
 have W26:=ZdF (P:=l.prog) (w:=w) (base:=base) D26 B
 have W27:=Ze3 (P:=l.prog) (w:=w) (base:=base) D27 B W26
 have W28:=Zbd (P:=l.prog) (w:=w) (base:=base) D28 B
 have W29:=ZdE (P:=l.prog) (w:=w) (base:=base) D29 B
 have W30:=Ze2 (P:=l.prog) (w:=w) (base:=base) D30 B
 have W31:=Zce (P:=l.prog) (w:=w) (base:=base) D31 B
 have W32:=Ze4 (P:=l.prog) (w:=w) (base:=base) D32 B
 have W33:=ZgC (P:=l.prog) (w:=w) (base:=base) D33 B
 have W34:=Jn (P:=l.prog) (w:=w) (base:=base) D34 B
 exact ZjF (Zfz (st:=Zgn) l0 c0 k0) B (W27.mono (by decide)) (W28.mono (by decide)) (W29.mono (by decide)) (W30.mono (by decide)) (W33.mono (by decide)) (W31.mono (by decide)) (W32.mono (by decide)) W24 W25 (W34.mono (by decide))
theorem walk {l:PySem.W.OpenLaw} {q:Program} {loose:List Str} {XP:(Str→Option Value)→Heap→Prop} {YP:World→Heap→Prop} {d:DefRec} {K:Params→PySem.W.Frag} (hn:l.most=some 63) (hdf:d.params.defaults=[])
  (hY:∀ (w:World) (h:Heap),YP w h→(K w.params).In h)
  (F:∀ (w:World) (mg:Str→Option Value) (fa:Addr) (h:Heap),(K w.params).In h→h.Ns mainGlobals mg→mg d.name=some (.ref fa) →
   ∃ fd:FuncData,(∀ (s:Shared) (u:Value),BindsTo s fd ⟨[u],[]⟩ [("_law_script",u)])∧∀ base:Heap,(K w.params).In base→base.Ns mainGlobals mg→FnOk l.prog w (K w.params) mg base CX0 9 fa fd ["_law_script"] (Zgc (K w.params))) :
  PySem.W.WalkO q loose XP YP l.row.toRowW d [] (fun f vs=>PySem.call f vs) :=
 L2.walk_of (n:=63) (k:=9) (x:="_law_script") (CX:=fun _=>CX0) (sp:=fun w=>Zgc (K w.params)) hn (by decide) hdf ⟨rfl,by decide,by decide⟩ hY F (fun _ _ a ns hl _ hS=>⟨a,ns,rfl,hS,hl,fun _=>rfl⟩) fun _ _ _ _ _ z=>z
end Sh
def PySem.W.Fast.tw11876080271859739584:Unit:=()
def PySem.W.Fast.tw7538578799900006958:Unit:=()
def PySem.W.Fast.tw18440981194635309428:Unit:=()
def PySem.W.Fast.tw979017057555300563:Unit:=()
def PySem.W.Fast.tw2120700321820600972:Unit:=()
def PySem.W.Fast.tw12521598117225089791:Unit:=()
def PySem.W.Fast.tw1846672572202278025:Unit:=()
def PySem.W.Fast.tw5169740260810545762:Unit:=()
def PySem.W.Fast.tw10090576803647579607:Unit:=()
def PySem.W.Fast.tw11874199939352477696:Unit:=()
def PySem.W.Fast.tw5559033739364667028:Unit:=()
def PySem.W.Fast.tw4589149555735540501:Unit:=()
def PySem.W.Fast.tw13921260621926616720:Unit:=()
def PySem.W.Fast.tw3428494290363060527:Unit:=()
def PySem.W.Fast.tw1122400673962642322:Unit:=()
def PySem.W.Fast.tw4376348494747647112:Unit:=()
def PySem.W.Fast.tw18371233910768790126:Unit:=()
def PySem.W.Fast.tw7997557987362998512:Unit:=()
def PySem.W.Fast.tw3138977138501718559:Unit:=()
def PySem.W.Fast.tw8137415096690136877:Unit:=()
def PySem.W.Fast.tw10222566902358958875:Unit:=()
def PySem.W.Fast.tw7579577233884881891:Unit:=()
def PySem.W.Fast.tw12610707562079240182:Unit:=()
def PySem.W.Fast.tw6652493923474017839:Unit:=()
def PySem.W.Fast.tw9617418922476834339:Unit:=()
def PySem.W.Fast.tw3556829534363705954:Unit:=()
def PySem.W.Fast.tw16663753091353131421:Unit:=()
def PySem.W.Fast.tw12460521064183888837:Unit:=()
def PySem.W.Fast.tw4486266481610378314:Unit:=()
def PySem.W.Fast.tw12917697533202904201:Unit:=()
def PySem.W.Fast.tw8899034644571848723:Unit:=()
def PySem.W.Fast.tw7442022999757258415:Unit:=()
def PySem.W.Fast.tw7705124760429512164:Unit:=()
def PySem.W.Fast.tw409934688448579202:Unit:=()
def PySem.W.Fast.tw307101668052637636:Unit:=()
def PySem.W.Fast.tw14320433450560789941:Unit:=()
def PySem.W.Fast.tw11309385269031438932:Unit:=()
def PySem.W.Fast.tw4443968200543462663:Unit:=()
def PySem.W.Fast.tw17093784097389381950:Unit:=()
def PySem.W.Fast.tw7125349395285462034:Unit:=()
def PySem.W.Fast.tw4235922579081879160:Unit:=()
def PySem.W.Fast.tw9311560479785578072:Unit:=()
def PySem.W.Fast.tw8138029305403464932:Unit:=()
def PySem.W.Fast.tw1297661017183939850:Unit:=()
def PySem.W.Fast.tw11419147636703301283:Unit:=()
def PySem.W.Fast.tw1450220457574188696:Unit:=()
def PySem.W.Fast.tw4367721560459364038:Unit:=()
def PySem.W.Fast.tw14918911480213514912:Unit:=()
def PySem.W.Fast.tw3609952027299080126:Unit:=()
def PySem.W.Fast.tw1489642330481330790:Unit:=()
def PySem.W.Fast.tw6684529966810447959:Unit:=()
def PySem.W.Fast.tw9957549295064723573:Unit:=()
def PySem.W.Fast.tw11538635689985161699:Unit:=()
def PySem.W.Fast.tw7235185288838922251:Unit:=()
def PySem.W.Fast.tw10343561348373136402:Unit:=()
def PySem.W.Fast.tw15607180469821551937:Unit:=()
def PySem.W.Fast.tw16047583375088687820:Unit:=()
def PySem.W.Fast.tw13581470895376055994:Unit:=()
def PySem.W.Fast.tw14968833654972753781:Unit:=()
def PySem.W.Fast.tw5736994004267010620:Unit:=()
def PySem.W.Fast.tw13599724321884132882:Unit:=()
def PySem.W.Fast.tw8204696110838379823:Unit:=()
def PySem.W.Fast.tw3107920832046252249:Unit:=()
def PySem.W.Fast.tw15668990385763632181:Unit:=()
def PySem.W.Fast.tw1572159425345430670:Unit:=()
def PySem.W.Fast.tw2217364104889038773:Unit:=()
def PySem.W.Fast.tw7486562101102840737:Unit:=()
def PySem.W.Fast.tw15326587890751978324:Unit:=()
def PySem.W.Fast.tw4794093814412617362:Unit:=()
def PySem.W.Fast.tw18394520464487085244:Unit:=()
def PySem.W.Fast.tw81900994436622522:Unit:=()
def PySem.W.Fast.tw6234242488943787786:Unit:=()
def PySem.W.Fast.tw7020146323510920944:Unit:=()
def PySem.W.Fast.tw7783000677695655220:Unit:=()
def PySem.W.Fast.tw11779300362785794958:Unit:=()
def PySem.W.Fast.tw18361045001908566065:Unit:=()
def PySem.W.Fast.tw17981128646516781661:Unit:=()
open PySem PySem.W PyProof.Rows
set_option maxRecDepth 100000 in
theorem PySem.Challenge.cw_shredjoin_k63_whole_sure_behind_all_holds : PySem.Challenge.rw_shredjoin_k63_whole_sure_behind_all.Holds := by
 w_on; o_law; k_head; (case hw => w_witness2)
 k_fill
 refine Sh.walk (l := PySem.Challenge.rw_shredjoin_k63_whole_sure_behind_all) rfl rfl (fun w h Y => PySem.W.kIn_of Y) ?F
 case F =>
  intro w mg fa h KX G hmg
  refine' Sh.all_mk KX G hmg ?B ?Er ?D0 ?D1 ?D2 ?D3 ?D4 ?D5 ?D6 ?D7 ?D8 ?D9 ?D10 ?D11 ?D12 ?D13 ?D14 ?D15 ?D16 ?D17 ?D18 ?D19 ?D20 ?D21 ?D22 ?D23 ?D24 ?D25 ?D26 ?D27 ?D28 ?D29 ?D30 ?D31 ?D32 ?D33 ?D34 ?a0 ?l0 ?c0 ?k0
  case B =>
   refine' Sh.blt_mk KX G ?z0 ?z1 ?z2 ?z3 ?z4 ?z5 ?z6 ?z7 ?z8 ?z9 ?z10 ?z11 ?z12 ?z13 ?z14 ?z15 ?z16
   (case z0 => k_is); (case z1 => k_is); (case z2 => k_is); (case z3 => k_is); (case z4 => k_is); (case z5 => k_is); (case z6 => k_is); (case z7 => k_is); (case z8 => k_is); (case z9 => k_is); (case z10 => k_is); (case z11 => k_is); (case z12 => k_is); (case z13 => k_is); (case z14 => k_is); (case z15 => k_is); (case z16 => k_is)
  case Er =>
   refine' Sh.er_mk KX G ?g1 ?g2 ?q1 ?q2
   (case g1 => k_is); (case g2 => k_is); (case q1 => k_exc); (case q2 => k_exc)
  case D0 =>
   refine' L2.hasDef_mk KX G ?a ?l ?c ?k ?b
   (case a => k_is); (case l => k_is); (case c => k_is); (case k => k_is)
   case b => exact fun _ _ _ _ _ _ us hl => match us, hl with | [_], _ => rfl
  case D1 =>
   refine' L2.hasDef_mk KX G ?a ?l ?c ?k ?b
   (case a => k_is); (case l => k_is); (case c => k_is); (case k => k_is)
   case b => exact fun _ _ _ _ _ _ us hl => match us, hl with | [_, _], _ => rfl
  case D2 =>
   refine' L2.hasDef_mk KX G ?a ?l ?c ?k ?b
   (case a => k_is); (case l => k_is); (case c => k_is); (case k => k_is)
   case b => exact fun _ _ _ _ _ _ us hl => match us, hl with | [_], _ => rfl
  case D3 =>
   refine' L2.hasDef_mk KX G ?a ?l ?c ?k ?b
   (case a => k_is); (case l => k_is); (case c => k_is); (case k => k_is)
   case b => exact fun _ _ _ _ _ _ us hl => match us, hl with | [_], _ => rfl
  case D4 =>
   refine' L2.hasDef_mk KX G ?a ?l ?c ?k ?b
   (case a => k_is); (case l => k_is); (case c => k_is); (case k => k_is)
   case b => exact fun _ _ _ _ _ _ us hl => match us, hl with | [_], _ => rfl
  case D5 =>
   refine' L2.hasDef_mk KX G ?a ?l ?c ?k ?b
   (case a => k_is); (case l => k_is); (case c => k_is); (case k => k_is)
   case b => exact fun _ _ _ _ _ _ us hl => match us, hl with | [_], _ => rfl
  case D6 =>
   refine' L2.hasDef_mk KX G ?a ?l ?c ?k ?b
   (case a => k_is); (case l => k_is); (case c => k_is); (case k => k_is)
   case b => exact fun _ _ _ _ _ _ us hl => match us, hl with | [_, _], _ => rfl
  case D7 =>
   refine' L2.hasDef_mk KX G ?a ?l ?c ?k ?b
   (case a => k_is); (case l => k_is); (case c => k_is); (case k => k_is)
   case b => exact fun _ _ _ _ _ _ us hl => match us, hl with | [_], _ => rfl
  case D8 =>
   refine' L2.hasDef_mk KX G ?a ?l ?c ?k ?b
   (case a => k_is); (case l => k_is); (case c => k_is); (case k => k_is)
   case b => exact fun _ _ _ _ _ _ us hl => match us, hl with | [_], _ => rfl
  case D9 =>
   refine' L2.hasDef_mk KX G ?a ?l ?c ?k ?b
   (case a => k_is); (case l => k_is); (case c => k_is); (case k => k_is)
   case b => exact fun _ _ _ _ _ _ us hl => match us, hl with | [_, _], _ => rfl
  case D10 =>
   refine' L2.hasDef_mk KX G ?a ?l ?c ?k ?b
   (case a => k_is); (case l => k_is); (case c => k_is); (case k => k_is)
   case b => exact fun _ _ _ _ _ _ us hl => match us, hl with | [_], _ => rfl
  case D11 =>
   refine' L2.hasDef_mk KX G ?a ?l ?c ?k ?b
   (case a => k_is); (case l => k_is); (case c => k_is); (case k => k_is)
   case b => exact fun _ _ _ _ _ _ us hl => match us, hl with | [_], _ => rfl
  case D12 =>
   refine' L2.hasDef_mk KX G ?a ?l ?c ?k ?b
   (case a => k_is); (case l => k_is); (case c => k_is); (case k => k_is)
   case b => exact fun _ _ _ _ _ _ us hl => match us, hl with | [_], _ => rfl
  case D13 =>
   refine' L2.hasDef_mk KX G ?a ?l ?c ?k ?b
   (case a => k_is); (case l => k_is); (case c => k_is); (case k => k_is)
   case b => exact fun _ _ _ _ _ _ us hl => match us, hl with | [_], _ => rfl
  case D14 =>
   refine' L2.hasDef_mk KX G ?a ?l ?c ?k ?b
   (case a => k_is); (case l => k_is); (case c => k_is); (case k => k_is)
   case b => exact fun _ _ _ _ _ _ us hl => match us, hl with | [_, _, _], _ => rfl
  case D15 =>
   refine' L2.hasDef_mk KX G ?a ?l ?c ?k ?b
   (case a => k_is); (case l => k_is); (case c => k_is); (case k => k_is)
   case b => exact fun _ _ _ _ _ _ us hl => match us, hl with | [_, _], _ => rfl
  case D16 =>
   refine' L2.hasDef_mk KX G ?a ?l ?c ?k ?b
   (case a => k_is); (case l => k_is); (case c => k_is); (case k => k_is)
   case b => exact fun _ _ _ _ _ _ us hl => match us, hl with | [_, _], _ => rfl
  case D17 =>
   refine' L2.hasDef_mk KX G ?a ?l ?c ?k ?b
   (case a => k_is); (case l => k_is); (case c => k_is); (case k => k_is)
   case b => exact fun _ _ _ _ _ _ us hl => match us, hl with | [_], _ => rfl
  case D18 =>
   refine' L2.hasDef_mk KX G ?a ?l ?c ?k ?b
   (case a => k_is); (case l => k_is); (case c => k_is); (case k => k_is)
   case b => exact fun _ _ _ _ _ _ us hl => match us, hl with | [_], _ => rfl
  case D19 =>
   refine' L2.hasDef_mk KX G ?a ?l ?c ?k ?b
   (case a => k_is); (case l => k_is); (case c => k_is); (case k => k_is)
   case b => exact fun _ _ _ _ _ _ us hl => match us, hl with | [_, _, _], _ => rfl
  case D20 =>
   refine' L2.hasDef_mk KX G ?a ?l ?c ?k ?b
   (case a => k_is); (case l => k_is); (case c => k_is); (case k => k_is)
   case b => exact fun _ _ _ _ _ _ us hl => match us, hl with | [_, _], _ => rfl
  case D21 =>
   refine' L2.hasDef_mk KX G ?a ?l ?c ?k ?b
   (case a => k_is); (case l => k_is); (case c => k_is); (case k => k_is)
   case b => exact fun _ _ _ _ _ _ us hl => match us, hl with | [_, _], _ => rfl
  case D22 =>
   refine' L2.hasDef_mk KX G ?a ?l ?c ?k ?b
   (case a => k_is); (case l => k_is); (case c => k_is); (case k => k_is)
   case b => exact fun _ _ _ _ _ _ us hl => match us, hl with | [_], _ => rfl
  case D23 =>
   refine' L2.hasDef_mk KX G ?a ?l ?c ?k ?b
   (case a => k_is); (case l => k_is); (case c => k_is); (case k => k_is)
   case b => exact fun _ _ _ _ _ _ us hl => match us, hl with | [_, _], _ => rfl
  case D24 =>
   refine' L2.hasDef_mk KX G ?a ?l ?c ?k ?b
   (case a => k_is); (case l => k_is); (case c => k_is); (case k => k_is)
   case b => exact fun _ _ _ _ _ _ us hl => match us, hl with | [_, _], _ => rfl
  case D25 =>
   refine' L2.hasDef_mk KX G ?a ?l ?c ?k ?b
   (case a => k_is); (case l => k_is); (case c => k_is); (case k => k_is)
   case b => exact fun _ _ _ _ _ _ us hl => match us, hl with | [_, _], _ => rfl
  case D26 =>
   refine' L2.hasDef_mk KX G ?a ?l ?c ?k ?b
   (case a => k_is); (case l => k_is); (case c => k_is); (case k => k_is)
   case b => exact fun _ _ _ _ _ _ us hl => match us, hl with | [_, _], _ => rfl
  case D27 =>
   refine' L2.hasDef_mk KX G ?a ?l ?c ?k ?b
   (case a => k_is); (case l => k_is); (case c => k_is); (case k => k_is)
   case b => exact fun _ _ _ _ _ _ us hl => match us, hl with | [_, _], _ => rfl
  case D28 =>
   refine' L2.hasDef_mk KX G ?a ?l ?c ?k ?b
   (case a => k_is); (case l => k_is); (case c => k_is); (case k => k_is)
   case b => exact fun _ _ _ _ _ _ us hl => match us, hl with | [_, _], _ => rfl
  case D29 =>
   refine' L2.hasDef_mk KX G ?a ?l ?c ?k ?b
   (case a => k_is); (case l => k_is); (case c => k_is); (case k => k_is)
   case b => exact fun _ _ _ _ _ _ us hl => match us, hl with | [_, _, _], _ => rfl
  case D30 =>
   refine' L2.hasDef_mk KX G ?a ?l ?c ?k ?b
   (case a => k_is); (case l => k_is); (case c => k_is); (case k => k_is)
   case b => exact fun _ _ _ _ _ _ us hl => match us, hl with | [_, _], _ => rfl
  case D31 =>
   refine' L2.hasDef_mk KX G ?a ?l ?c ?k ?b
   (case a => k_is); (case l => k_is); (case c => k_is); (case k => k_is)
   case b => exact fun _ _ _ _ _ _ us hl => match us, hl with | [_, _], _ => rfl
  case D32 =>
   refine' L2.hasDef_mk KX G ?a ?l ?c ?k ?b
   (case a => k_is); (case l => k_is); (case c => k_is); (case k => k_is)
   case b => exact fun _ _ _ _ _ _ us hl => match us, hl with | [_], _ => rfl
  case D33 =>
   refine' L2.hasDef_mk KX G ?a ?l ?c ?k ?b
   (case a => k_is); (case l => k_is); (case c => k_is); (case k => k_is)
   case b => exact fun _ _ _ _ _ _ us hl => match us, hl with | [_, _], _ => rfl
  case D34 =>
   refine' L2.hasDef_mk KX G ?a ?l ?c ?k ?b
   (case a => k_is); (case l => k_is); (case c => k_is); (case k => k_is)
   case b => exact fun _ _ _ _ _ _ us hl => match us, hl with | [_], _ => rfl
  (case a0 => k_is); (case l0 => k_is); (case c0 => k_is); (case k0 => k_is)
#print axioms PySem.Challenge.cw_shredjoin_k63_whole_sure_behind_all_holds
