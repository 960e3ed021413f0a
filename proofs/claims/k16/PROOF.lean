import PyProof.Rows.All
import Wide.All
import OpenK.AllK
import Wide.FinOn
import Lean
import PyProof.EqAt
import PyProof.EqKinds
import PyProof.TupleCall
import PyProof.ExcBaseAll.ValueError
import PyProof.NsDelKeeps
import PyProof.NeKinds
import PyProof.Rows.SortShell
import PyProof.Rows.FStr
import PyProof.FString
import PyProof.ExcAttrAll.ValueError
import PyProof.ExcArgsOwn
import PyProof.Rows.SortRuns
import PyProof.TupleIter
import PyProof.Dict
import KE.KDictSum
import PyProof.TupleOfSeq
import PyProof.EnumMake
import PyProof.SliceList
import PyProof.MinMaxWalk
import PyProof.Rows.EnumRows
import PyProof.WalkInts
import PyProof.WalksMore
import PyProof.Rows.SeqCalls
import KE.KRevIter
import PyProof.CollectIter
import PyProof.TupleOfGen
import PyProof.Rows.FactsT2
import PyProof.ListRange
import PyProof.Rows.CallKwBuiltin
import PyProof.Rows.SetFrom
import PyProof.SetRoads
import PyProof.Rows.Range3
import PyProof.ZipIter
import PyProof.Rows.ZipGen
import PySem.Challenge.RW_guardround_k16_what_is_an_answer
set_option Elab.async false
set_option linter.all false
set_option maxRecDepth 100000
set_option maxHeartbeats 8000000
namespace L2
open PySem PySem.Spec PyProof.Rows
noncomputable abbrev Key:=Sum Int Str
noncomputable def keyIs:Key→Value→Bool
 | .inl k,v=>Value.isInt k v
 | .inr x,v=>Value.isStrOf x v
noncomputable def keyH (w:World):Key→Int
 | .inl k=>hashInt k
 | .inr x=>hashStr w x
theorem keyIs_shape:∀ {k:Key} {v:Value},keyIs k v=true→(∃i t,k=Sum.inl i∧v=Value.int i t)∨(∃x t,k=Sum.inr x∧v=Value.str x t)
 | .inl i,v,h=>by
  obtain ⟨t,e⟩:=Value.isInt_shape (k:=i) (v:=v) h;exact .inl ⟨i,t,rfl,e⟩
 | .inr x,v,h=>by
  obtain ⟨t,e⟩:=Value.isStrOf_shape (x:=x) (v:=v) h;exact .inr ⟨x,t,rfl,e⟩
theorem keyIs_int (i:Int) (t:Tok):keyIs (.inl i) (.int i t)=true:=by simp [keyIs,Value.isInt]
theorem keyIs_str (x:Str) (t:Tok):keyIs (.inr x) (.str x t)=true:=by simp [keyIs,Value.isStrOf]
theorem key_ll (a b:Int):decide ((Sum.inl a:Key)=Sum.inl b)=(a==b):=by
 by_cases e:a=b
 ·subst e;simp
 ·have h:¬(Sum.inl a:Key)=Sum.inl b:=fun q=>e (Sum.inl.inj q)
  rw [decide_eq_false h];exact (beq_eq_false_iff_ne.mpr e).symm
theorem key_rr (a b:Str):decide ((Sum.inr a:Key)=Sum.inr b)=decide (a=b):=by
 by_cases e:a=b
 ·subst e;simp
 ·have h:¬(Sum.inr a:Key)=Sum.inr b:=fun q=>e (Sum.inr.inj q)
  rw [decide_eq_false h,decide_eq_false e]
theorem key_lr (a:Int) (b:Str):decide ((Sum.inl a:Key)=Sum.inr b)=false:=decide_eq_false (fun q=>nomatch q)
theorem key_rl (a:Str) (b:Int):decide ((Sum.inr a:Key)=Sum.inl b)=false:=decide_eq_false (fun q=>nomatch q)
noncomputable def mixKind (prog:Program) (w:World):PySem.KeyKind prog w Key where
 is:=keyIs
 hash:=keyH w
 inj:=fun v a b ha hb=>by
  rcases keyIs_shape ha with ⟨i,t,rfl,rfl⟩ | ⟨x,t,rfl,rfl⟩
  ·rcases keyIs_shape hb with ⟨j,u,rfl,e⟩ | ⟨y,u,rfl,e⟩
   ·injection e with e1 _;rw [e1]
   ·exact nomatch e
  ·rcases keyIs_shape hb with ⟨j,u,rfl,e⟩ | ⟨y,u,rfl,e⟩
   ·exact nomatch e
   ·injection e with e1 _;rw [e1]
 byValue:=fun k v h=>by
  rcases keyIs_shape h with ⟨i,t,rfl,rfl⟩ | ⟨x,t,rfl,rfl⟩ <;> rfl
 pyHash:=fun hv h=>by
  rcases keyIs_shape hv with ⟨i,t,rfl,rfl⟩ | ⟨x,t,rfl,rfl⟩
  ·exact wpAny_pyHash_int h
  ·exact wpAny_pyHash_str h
 eqBool:=fun hu hv h=>by
  rcases keyIs_shape hu with ⟨i,t,rfl,rfl⟩ | ⟨x,t,rfl,rfl⟩
  ·rcases keyIs_shape hv with ⟨j,u,rfl,rfl⟩ | ⟨y,u,rfl,rfl⟩
   ·rw [key_ll] at h;exact wpAny_eqBool_int h
   ·rw [key_lr] at h;exact SeqAt.EqAt.int_str i t y u _ _ _ _ h
  ·rcases keyIs_shape hv with ⟨j,u,rfl,rfl⟩ | ⟨y,u,rfl,rfl⟩
   ·rw [key_rl] at h;exact SeqAt.EqAt.str_int x t j u _ _ _ _ h
   ·rw [key_rr] at h;exact wpAny_eqBool_str h
 «strs»:=fun k x t v h=>by
  rcases keyIs_shape h with ⟨i,u,rfl,e⟩ | ⟨y,u,rfl,e⟩
  ·exact nomatch e
  ·injection e with e1 _
   subst e1
   cases v <;> rfl
theorem mixKind_int (prog:Program) (w:World) (i:Int) (t:Tok):(mixKind prog w).is (.inl i) (.int i t)=true:=keyIs_int i t
theorem mixKind_str (prog:Program) (w:World) (x:Str) (t:Tok):(mixKind prog w).is (.inr x) (.str x t)=true:=keyIs_str x t
end L2
namespace L2
open PySem PySem.Spec PyProof.Rows
inductive V where
 | non | bl (b:Bool) | int (i:Int) | str (x:Str) | byt (b:Array UInt8) | flt (b:UInt64) | ref (a:Addr) | ty (n:String)
 deriving DecidableEq
noncomputable def RelV:V→Value→Prop
 | .non,u=>u=Value.none
 | .bl b,u=>u=Value.bool b
 | .int i,u=>∃t,u=Value.int i t
 | .str x,u=>∃t,u=Value.str x t
 | .byt b,u=>∃t,u=Value.bytes b t
 | .flt b,u=>∃t,u=Value.float b t
 | .ref a,u=>u=Value.ref a
 | .ty n,u=>u=Value.type n
noncomputable abbrev Vals:List V→List Value→Prop:=Paired RelV
theorem Vals.length {xs:List V} {us:List Value} (r:Vals xs us):xs.length=us.length:=Paired.length r
theorem Vals.get:∀ {xs:List V} {us:List Value} {i:Nat} {x:V},Vals xs us→xs[i]?=some x→∃u,us[i]?=some u∧RelV x u
 | _,_,_,_,.nil,e=>by simp at e
 | _,_,0,_,.cons r _,e=>by simp at e;subst e;exact ⟨_,rfl,r⟩
 | _,_,i+1,x,.cons _ t,e=>by
  obtain ⟨u,h1,h2⟩:=Vals.get (i:=i) (x:=x) t (by simpa using e);exact ⟨u,by simpa using h1,h2⟩
theorem Vals.append:∀ {xs ys:List V} {us ws:List Value},Vals xs us→Vals ys ws→Vals (xs++ys) (us++ws)
 | _,_,_,_,.nil,s=>s
 | _,_,_,_,.cons r t,s=>.cons r (Vals.append t s)
theorem Vals.take:∀ {xs:List V} {us:List Value} (n:Nat),Vals xs us→Vals (xs.take n) (us.take n)
 | _,_,0,_=>.nil
 | _,_,_+1,.nil=>.nil
 | _,_,n+1,.cons r t=>.cons r (Vals.take n t)
theorem Vals.drop:∀ {xs:List V} {us:List Value} (n:Nat),Vals xs us→Vals (xs.drop n) (us.drop n)
 | _,_,0,r=>r
 | _,_,_+1,.nil=>.nil
 | _,_,n+1,.cons _ t=>Vals.drop n t
noncomputable def RelO:Option V→Option Value→Prop
 | some v,some u=>RelV v u
 | none,none=>True
 | _,_=>False
noncomputable def KV {κ:Type}:List (κ×V)→List (κ×Value)→Prop:=Paired fun (p:κ×V) (q:κ×Value)=>p.1=q.1∧RelV p.2 q.2
noncomputable def kV:Key→V
 | .inl i=>.int i
 | .inr x=>.str x
inductive HO where
 /-- a list -/
 | lst (xs:List V)
 /-- a tuple (never changes) -/
 | tup (xs:List V)
 /-- a dict whose keys are ints and texts;one whose keys are tuples of ints and texts (the empty one is both) -/
 | dK (kvs:List (Key×V)) | dT (kvs:List (List Key×V))
 /-- a set of ints: its members,its size -/
 | set (S:Int→Bool) (n:Nat)
 /-- an instance of the class at C,its dict at dx,its attributes -/
 | ins (C dx:Addr) (fs:List (Str×V))
 /-- the dict of the instance at x -/
 | own (x:Addr)
 /-- the dict of an exception -/
 | xd (fs:List (Str×V))
 /-- a bound method,f of x -/
 | met (f x:Addr)
 /-- a range object lo,lo+1,.. below hi -/
 | rng (lo hi:Int)
 /-- a thing that is known to the object (the script;a dict while a loop walks it): read,never written while it is so -/
 | frz (o:Obj) (u:HO)
 /-- a code object's table -/
 | tbl (ps:Array Value)
 /-- any other thing,by what is true of its one object (a def of one's own: SetO a S n:=HO.ext fun h=>..) -/
 | ext (φ:Heap→Prop)
noncomputable abbrev Hp:=Addr→Option HO
noncomputable def upd (H:Hp) (a:Addr) (o:HO):Hp:=fun b=>if b=a then some o else H b
theorem upd_same {H:Hp} {a:Addr} {o:HO}:upd H a o a=some o:=by unfold upd;rw [if_pos rfl]
theorem upd_ne {H:Hp} {a b:Addr} {o:HO} (h:b≠a):upd H a o b=H b:=by unfold upd;rw [if_neg h]
theorem ne_of {H:Hp} {a b:Addr} {o u:HO} (h:H a=some o) (h':H b=some u) (d:o≠u):a≠b:=by
 intro e;subst e;rw [h] at h';exact d (Option.some.inj h')
theorem ne_of_none {H:Hp} {a b:Addr} {o:HO} (h:H a=some o) (h':H b=none):a≠b:=by
 intro e;subst e;rw [h] at h';cases h'
section
variable (P:Program) (w:World)
noncomputable def ObjOk (H:Hp) (h:Heap) (a:Addr):HO→Prop
 | .lst xs=>xs.length≤sizeLine∧∃(its:List Value) (n:Nat),Vals xs its∧h.get? a=some { cls:=.type "list",data:=.seq its.toArray n }
 | .tup xs=>xs.length≤sizeLine∧∃its:List Value,Vals xs its∧IsTup h a its.toArray
 | .dK kvs=>kvs.length≤sizeLine∧(a==sysModules)=false∧∃vs,KV kvs vs∧h.DictOf (mixKind P w) a vs
 | .dT kvs=>kvs.length≤sizeLine∧(a==sysModules)=false∧∃xs:List (List Key×Addr×Value),
   Paired (fun (p:List Key×V) (q:List Key×Addr×Value)=>p.1=q.1∧H q.2.1=some (.tup (p.1.map kV))∧RelV p.2 q.2.2) kvs xs ∧
   ∃o es ep,h.get? a=some o∧o.ExactDict∧o.data=.dict es ep∧es.toList=xs.map (entryOfKey (tupleKind (mixKind P w)))∧(xs.map (·.1)).Nodup
 | .set S n=>h.SetOf (intKind P w) a S n
 | .ins C dx fs=>H dx=some (.own a)∧fs.length≤1000∧dx≠a∧h.get? a=some (PySem.W.instObj C dx) ∧
   ∃mA,h.Ns1 dx mA∧(∀f,RelO (fs.lookup f) (mA f))∧PySem.Within mA (fs.map (·.1))
 | .own _=>∃o,h.get? a=some o
 | .xd fs=>∃mA,h.Ns1 a mA∧∀f,RelO (fs.lookup f) (mA f)
 | .rng lo hi=>∃t u v,h.get? a=some { cls:=.type "range",data:=.fields #[.int lo t,.int hi u,.int 1 v] }
 | .frz o u=>h.get? a=some o∧ObjOk H h a u
 | .tbl ps=>h.get? a=some { cls:=.none,data:=.fields ps }
 | .met f x=>h.get? a=some (PySem.W.methodObj (.ref f) (.ref x))
 | .ext φ=>φ h∧(∃o,h.get? a=some o)∧∀h1 h2:Heap,φ h1→(∀o,h1.get? a=some o→h2.get? a=some o)→φ h2
noncomputable def HOk (H:Hp) (h:Heap):Prop:=∀a o,H a=some o→ObjOk P w H h a o
end
section
variable {P:Program} {w:World} {H H':Hp} {h h':Heap} {a:Addr} {o:HO}
theorem ObjOk.lt (x:ObjOk P w H h a o):a < h.objs.size:=by
 cases o with
 | lst xs=>obtain ⟨_,_,_,_,e⟩:=x;exact Heap.lt_size e
 | tup xs=>obtain ⟨_,_,_,p⟩:=x;exact p.lt
 | dK kvs=>obtain ⟨_,_,_,_,o,_,_,e,_⟩:=x;exact Heap.lt_size e
 | dT kvs=>obtain ⟨_,_,_,_,o,_,_,e,_⟩:=x;exact Heap.lt_size e
 | set S n=>obtain ⟨o,_,_,_,e,_⟩:=x;exact Heap.lt_size e
 | ins C dx fs=>obtain ⟨_,_,_,e,_⟩:=x;exact Heap.lt_size e
 | own y=>obtain ⟨_,e⟩:=x;exact Heap.lt_size e
 | xd fs=>obtain ⟨_,⟨_,_,_,e,_⟩,_⟩:=x;exact Heap.lt_size e
 | rng lo hi=>obtain ⟨_,_,_,e⟩:=x;exact Heap.lt_size e
 | frz ob u=>obtain ⟨e,_⟩:=x;exact Heap.lt_size e
 | tbl ps=>exact Heap.lt_size (show h.get? a=some _ from x)
 | met f y=>exact Heap.lt_size (show h.get? a=some _ from x)
 | ext φ=>obtain ⟨_,⟨_,e⟩,_⟩:=x;exact Heap.lt_size e
theorem Paired.mapP {α β:Type} {F G:α→β→Prop}:∀ {l₁:List α} {l₂:List β},Paired F l₁ l₂→(∀a b,F a b→G a b)→Paired G l₁ l₂
 | _,_,.nil,_=>.nil
 | _,_,.cons r t,f=>.cons (f _ _ r) (Paired.mapP t f)
theorem ObjOk.stay (x:ObjOk P w H h a o) (k:∀b u,(b=a∨H b=some (.own a))→h.get? b=some u→h'.get? b=some u)
  (ho:∀b,H b=some (.own a)→H' b=some (.own a)) (ht:∀b xs,H b=some (.tup xs)→H' b=some (.tup xs)):ObjOk P w H' h' a o:=by
 induction o with
 | lst xs=>obtain ⟨z,its,n,r,e⟩:=x;exact ⟨z,its,n,r,k _ _ (.inl rfl) e⟩
 | tup xs=>obtain ⟨z,its,r,ob,e,c⟩:=x;exact ⟨z,its,r,ob,k _ _ (.inl rfl) e,c⟩
 | dK kvs=>obtain ⟨z,y,vs,r,ob,es,ep,e,c⟩:=x;exact ⟨z,y,vs,r,ob,es,ep,k _ _ (.inl rfl) e,c⟩
 | dT kvs=>
  obtain ⟨z,y,xs,r,ob,es,ep,e,c⟩:=x;exact ⟨z,y,xs,Paired.mapP r fun p q z=>⟨z.1,ht _ _ z.2.1,z.2.2⟩,ob,es,ep,k _ _ (.inl rfl) e,c⟩
 | set S n=>obtain ⟨ob,es,ep,t,e,c⟩:=x;exact ⟨ob,es,ep,t,k _ _ (.inl rfl) e,c⟩
 | ins C dx fs=>
  obtain ⟨d,z,ne,e,mA,⟨od,es,ep,e2,c⟩,r⟩:=x;exact ⟨ho _ d,z,ne,k _ _ (.inl rfl) e,mA,⟨od,es,ep,k _ _ (.inr d) e2,c⟩,r⟩
 | own y=>obtain ⟨ob,e⟩:=x;exact ⟨ob,k _ _ (.inl rfl) e⟩
 | xd fs=>obtain ⟨mA,⟨od,es,ep,e,c⟩,r⟩:=x;exact ⟨mA,⟨od,es,ep,k _ _ (.inl rfl) e,c⟩,r⟩
 | rng lo hi=>obtain ⟨t,u,v,e⟩:=x;exact ⟨t,u,v,k _ _ (.inl rfl) e⟩
 | frz ob u ih=>obtain ⟨e,q⟩:=x;exact ⟨k _ _ (.inl rfl) e,ih q⟩
 | tbl ps=>
  have e:h.get? a=some { cls:=.none,data:=.fields ps }:=x;show h'.get? a=some { cls:=.none,data:=.fields ps };exact k a _ (.inl rfl) e
 | met f y=>
  have e:h.get? a=some (PySem.W.methodObj (.ref f) (.ref y)):=x;show h'.get? a=some (PySem.W.methodObj (.ref f) (.ref y));exact k a _ (.inl rfl) e
 | ext φ=>obtain ⟨p,⟨o,e⟩,st⟩:=x;exact ⟨st _ _ p fun o q=>k _ _ (.inl rfl) q,⟨o,k _ _ (.inl rfl) e⟩,st⟩
theorem HOk.lt (x:HOk P w H h) (e:H a=some o):a < h.objs.size:=(x a o e).lt
theorem HOk.fresh (x:HOk P w H h) (e:h.objs.size≤a):H a=none:=by
 cases q:H a with
 | none=>rfl
 | some u=>exact absurd (Nat.lt_of_lt_of_le (x.lt q) e) (Nat.lt_irrefl _)
theorem HOk.kept (x:HOk P w H h) (k:∀b u,h.get? b=some u→h'.get? b=some u):HOk P w H h':=fun a o e=>
 (x a o e).stay (fun b u _ q=>k b u q) (fun _ q=>q) fun _ _ q=>q
theorem HOk.laid (x:HOk P w H h) (k:∀b u,h.get? b=some u→h'.get? b=some u) (hp:h.objs.size≤a) (new:ObjOk P w (upd H a o) h' a o):HOk P w (upd H a o) h':=fun b u e=>by
 have hn:=x.fresh hp
 by_cases hb:b=a
 ·subst hb;rw [upd_same] at e;cases e;exact new
 ·rw [upd_ne hb] at e
  exact (x b u e).stay (fun c v _ q=>k c v q) (fun c q=>by rw [upd_ne (ne_of_none q hn)];exact q) fun c xs q=>by rw [upd_ne (ne_of_none q hn)];exact q
end
noncomputable def Rd (H:Hp) (a:Addr) (u:HO):Prop:=H a=some u∨∃o,H a=some (.frz o u)
theorem Rd.ok {P:Program} {w:World} {H:Hp} {h:Heap} {a:Addr} {u:HO} (r:Rd H a u) (x:HOk P w H h):ObjOk P w H h a u:=by
 rcases r with r | ⟨o,r⟩
 ·exact x a u r
 ·obtain ⟨_,q⟩:=x a _ r
  exact q
noncomputable def Mut:Option HO→Prop
 | some (.lst _)=>True
 | some (.dK _)=>True
 | some (.dT _)=>True
 | some (.set _ _)=>True
 | some (.ins _ _ _)=>True
 | some (.ext _)=>True
 | _=>False
section
variable {P:Program} {w:World} {H:Hp} {h h':Heap} {x e:Addr} {o':HO}
theorem HOk.write (ok:HOk P w H h) (mu:Mut (H x)) (he:e=x∨H e=some (.own x)) (k:∀b u,b≠e→h.get? b=some u→h'.get? b=some u) (heo:∃u,h'.get? e=some u)
  (new:ObjOk P w (upd H x o') h' x o'):HOk P w (upd H x o') h':=fun b u q=>by
 have nown:∀c y,H c=some (.own y)→c≠x:=fun c y r z=>by subst z;rw [r] at mu;exact mu
 have ntup:∀c xs,H c=some (.tup xs)→c≠x:=fun c xs r z=>by subst z;rw [r] at mu;exact mu
 by_cases hb:b=x
 ·subst hb;rw [upd_same] at q;cases q;exact new
 ·rw [upd_ne hb] at q
  by_cases hbe:b=e
  ·have q':H b=some (.own x):=by
    rcases he with z | z
    ·exact absurd (hbe.trans z) hb
    ·rw [hbe];exact z
   rw [q] at q';cases q';obtain ⟨v,hv⟩:=heo;exact ⟨v,by rw [hbe];exact hv⟩
  ·refine (ok b u q).stay (fun c v hc r=>k c v ?_ r) (fun c r=>by rw [upd_ne (nown c b r)];exact r) fun c xs r=>by rw [upd_ne (ntup c xs r)];exact r
   rcases hc with rfl | hc
   ·exact hbe
   ·rintro rfl
    rcases he with z | z
    ·exact nown c b hc z
    ·rw [hc] at z;cases z;exact hb rfl
end
structure Un (fs ex:List Addr) (H H':Hp) (h h':Heap):Prop where
 keep:∀b o,h.get? b=some o→H b=none→b∉fs→b∉ex→h'.get? b=some o
 slot:∀b o,h.get? b=some o→H b=none→b∈fs→b∉ex→∃sl,h'.get? b=some { o with slots:=sl }
 free:∀b o,h.get? b=some o→H b=none→b∉ex→H' b=none
 there:∀b o,h.get? b=some o→b∉ex→∃o',h'.get? b=some o'
 tups:∀b xs,H b=some (.tup xs)→H' b=some (.tup xs)
 frzs:∀b o u,H b=some (.frz o u)→H' b=some (.frz o u)
 tbls:∀b ps,H b=some (.tbl ps)→∃more,H' b=some (.tbl (ps++more))
section
variable {fs fs' ex ex':List Addr} {H H1 H2:Hp} {h h1 h2 h':Heap} {a x e:Addr} {o:HO}
theorem Un.any (u:Un fs ex H H1 h h1) {b:Addr} {ob:Obj} (q:h.get? b=some ob) (n:H b=none) (hx:b∉ex):∃sl,h1.get? b=some { ob with slots:=sl }:=by
 by_cases hb:b∈fs
 ·exact u.slot b ob q n hb hx
 ·exact ⟨ob.slots,u.keep b ob q n hb hx⟩
theorem Un.kept (k:∀b u,h.get? b=some u→h'.get? b=some u):Un fs ex H H h h':=
 ⟨fun b ob q _ _ _=>k b ob q,fun b ob q _ _ _=>⟨ob.slots,k b ob q⟩,fun _ _ _ n _=>n,fun b ob q _=>⟨ob,k b ob q⟩,fun _ _ q=>q,fun _ _ _ q=>q,fun _ ps q=>⟨#[],by rw [q];simp⟩⟩
theorem Un.refl:Un fs ex H H h h:=Un.kept fun _ _ q=>q
theorem Un.laid (k:∀b u,h.get? b=some u→h'.get? b=some u) (hp:h.objs.size≤a) (hn:H a=none):Un fs ex H (upd H a o) h h' where
 keep:=fun b u q _ _ _=>k b u q
 slot:=fun b u q _ _ _=>⟨u.slots,k b u q⟩
 free:=fun b u q n _=>by rw [upd_ne (Nat.ne_of_lt (Nat.lt_of_lt_of_le (Heap.lt_size q) hp))];exact n
 there:=fun b u q _=>⟨u,k b u q⟩
 tups:=fun b xs q=>by rw [upd_ne (ne_of_none q hn)];exact q
 frzs:=fun b u xs q=>by rw [upd_ne (ne_of_none q hn)];exact q
 tbls:=fun b ps q=>⟨#[],by rw [upd_ne (ne_of_none q hn),q];simp⟩
theorem Un.write (mu:Mut (H x)) (he:e=x∨H e=some (.own x)) (k:∀b u,b≠e→h.get? b=some u→h'.get? b=some u) (heo:∃u,h'.get? e=some u):Un fs ex H (upd H x o) h h':=by
 have hx:∀b,H b=none→b≠x:=fun b n z=>by subst z;rw [n] at mu;exact mu
 have hb:∀b,H b=none→b≠e:=fun b n z=>by
  subst z
  rcases he with r | r
  ·exact hx b n r
  ·rw [n] at r;cases r
 have hm:∀b u,H b=some u→¬Mut (some u)→b≠x:=fun b u q nm z=>by subst z;rw [q] at mu;exact nm mu
 refine ⟨fun b u q n _ _=>k b u (hb b n) q,fun b u q n _ _=>⟨u.slots,k b u (hb b n) q⟩,fun b u q n _=>by rw [upd_ne (hx b n)];exact n,fun b u q _=>?_,
  fun b xs q=>by rw [upd_ne (hm b _ q fun z=>z)];exact q,fun b u xs q=>by rw [upd_ne (hm b _ q fun z=>z)];exact q,fun b ps q=>⟨#[],by rw [upd_ne (hm b _ q fun z=>z),q];simp⟩⟩
 by_cases hbe:b=e
 ·subst hbe;exact heo
 ·exact ⟨u,k b u hbe q⟩
end
noncomputable def trk (h:Heap) (H:Hp):List Addr:=(List.range h.objs.size).filter fun a=>(H a).isSome
noncomputable def hidT (h:Heap) (H:Hp):Heap:=PySem.W.hideAll h (trk h H)
theorem hidT_size (h:Heap) (H:Hp):(hidT h H).objs.size=h.objs.size:=PySem.W.hideAll_size _ _
theorem hidT_get {h:Heap} {H:Hp} {b:Addr} {o:Obj} (e:h.get? b=some o) (n:H b=none):(hidT h H).get? b=some o:=
 PySem.W.hideAll_get _ e fun hm=>by
  have q:(H b).isSome=true:=(List.mem_filter.mp hm).2;rw [n] at q;simp at q
theorem of_hidT {h:Heap} {H:Hp} {b:Addr} {o:Obj} (e:(hidT h H).get? b=some o):h.get? b=some o∧H b=none:=by
 have e':h.get? b=some o:=PySem.W.of_hideAll (trk h H) e;refine ⟨e',?_⟩
 cases q:H b with
 | none=>rfl
 | some x=>
  have hm:b∈trk h H:=List.mem_filter.mpr ⟨List.mem_range.mpr (Heap.lt_size e'),by simp [q]⟩;have z:(hidT h H).get? b=none:=PySem.W.hideAll_none (trk h H) hm;rw [z] at e;cases e
end L2
namespace L2
open PySem PySem.Spec PyProof.Rows
structure Mod (K:PySem.W.Frag) (mg:Str→Option Value) (base:Heap):Prop where
 kin:K.In base
 glob:base.Ns mainGlobals mg
 blt:∃mb,base.Ns builtinsNs mb∧∀x:Str,x≠"__name__"→mb x=bootBuiltins x
 nolimit:base.NoLimit
structure Cx where
 prog:Program
 w:World
 K:PySem.W.Frag
 mg:Str→Option Value
 base:Heap
 A:Around
 N:List Str
 s₀:Shared
 H₀:Hp
 env:Env
 outer:List Env
 stack:List Env
 ex:List Addr
 fn:Str→Bool
 calm:Bool
 pn:List (Addr×Obj)
 xe:Value→Shared→Prop
noncomputable def frs (l:List Env):List Addr:=l.filterMap (·.frame)
noncomputable abbrev Cx.fs (X:Cx):List Addr:=frs X.outer
noncomputable def Vis (sc:Scope) (x:Str):Prop:=sc.names.lookup x=some .local∨sc.names.lookup x=some .cell∨sc.names.lookup x=some .free
noncomputable def Loc (sc:Scope) (x:Str):Prop:=sc.names.lookup x=some .local∨sc.names.lookup x=some .cell
noncomputable def Look (env:Env) (h:Heap) (m:Str→Option Value) (x:Str) (u:Value):Prop:=
 (env.kindOf x=some .local∧m x=some u)∨((env.kindOf x=some .cell∨env.kindOf x=some .free)∧∃c,env.cells.lookup x=some c∧h.IsCell c (some u))
structure Cx.Ok (X:Cx):Prop where
 mod:Mod X.K X.mg X.base
 kind:X.env.scope.kind=.function
 glob:X.env.globals=mainGlobals
 blt:X.env.builtins=builtinsNs
 above:X.s₀.heap.objs.size≤X.env.locals
 inj:∀x y c,X.env.cells.lookup x=some c→X.env.cells.lookup y=some c→x=y
 has:∀x,(X.env.kindOf x=some .cell∨X.env.kindOf x=some .free)→∃c,X.env.cells.lookup x=some c
 cab:∀x c,X.fn x=true→X.env.cells.lookup x=some c→X.s₀.heap.objs.size≤c
 hd:X.calm=true→X.A.handled=none
 frames:X.A.frames=some X.stack
 stk:X.stack=X.outer∨(X.stack=X.env :: X.outer∧X.env.frame=some X.env.locals)
 exf:∀b∈X.ex,b≠X.env.locals∧∀x c,X.env.cells.lookup x=some c→c≠b
 bs:∀b o,X.base.get? b=some o→X.s₀.heap.get? b=some o∧X.H₀ b=none
 bsz:X.base.objs.size≤X.s₀.heap.objs.size
 noex:∀b o,X.base.get? b=some o→b∉X.ex
 exfs:∀b∈X.ex,b∉X.fs
 funs:X.s₀.heap.FunFrames X.base X.outer
 frf:∀b∈X.fs,X.H₀ b=none
structure Inv (X:Cx) (pins:List (Addr×Obj)) (σ:List (Option V)) (H:Hp) (s:Shared):Prop where
 ok:X.Ok
 os:s.os=X.s₀.os
 bare:AllBare s.gens
 base:Un X.fs X.ex X.H₀ H X.s₀.heap s.heap
 loc:∃m,s.heap.Ns X.env.locals m∧∀(i:Nat) (x:Str) (v:V),X.N[i]?=some x→σ[i]?=some (some v)→Vis X.env.scope x→∃u,RelV v u∧Look X.env s.heap m x u
 cell:∀x c,X.env.cells.lookup x=some c→∃v,s.heap.IsCell c v
 free:H X.env.locals=none
 freeC:∀x c,X.env.cells.lookup x=some c→H c=none
 pin:∀p∈X.pn++pins,s.heap.get? p.1=some p.2∧H p.1=none∧p.1≠X.env.locals∧p.1∉X.fs∧∀v,p.2.data≠.cell v
 hok:HOk X.prog X.w H s.heap
 len:σ.length=X.N.length
section
variable {X:Cx} {pins:List (Addr×Obj)} {σ:List (Option V)} {H H':Hp} {s:Shared} {h':Heap}
theorem Cx.Ok.nofr (ok:X.Ok) {b:Addr} {o:Obj} (e:X.base.get? b=some o):b∉X.fs:=fun hb=>by
 have:=(ok.funs.mem hb).1;rw [e] at this;cases this
theorem Inv.bs (I:Inv X pins σ H s):∀b o,X.base.get? b=some o→s.heap.get? b=some o∧H b=none:=fun b o e=>
 ⟨I.base.keep b o (I.ok.bs b o e).1 (I.ok.bs b o e).2 (I.ok.nofr e) (I.ok.noex b o e),I.base.free b o (I.ok.bs b o e).1 (I.ok.bs b o e).2 (I.ok.noex b o e)⟩
theorem Inv.bk (I:Inv X pins σ H s):∀b o,X.base.get? b=some o→s.heap.get? b=some o:=fun b o e=>(I.bs b o e).1
theorem Inv.mod (I:Inv X pins σ H s):Mod X.K X.mg X.base:=I.ok.mod
theorem Inv.kIn (I:Inv X pins σ H s):X.K.In s.heap:=I.ok.mod.kin.keeps I.bk
theorem Inv.lt (I:Inv X pins σ H s):X.env.locals < s.heap.objs.size:=let ⟨_,hn,_⟩:=I.loc;hn.lt
theorem Inv.sz (I:Inv X pins σ H s):X.s₀.heap.objs.size≤s.heap.objs.size:=Nat.le_trans I.ok.above (Nat.le_of_lt I.lt)
theorem Inv.nofs (I:Inv X pins σ H s) {a:Addr} (h:s.heap.objs.size≤a):a∉X.fs:=fun hb=>by
 obtain ⟨_,o,ho,_⟩:=I.ok.funs.mem hb;exact absurd (Nat.lt_of_lt_of_le (Heap.lt_size ho) (Nat.le_trans I.sz h)) (Nat.lt_irrefl _)
theorem Inv.cne (I:Inv X pins σ H s):∀x c,X.env.cells.lookup x=some c→c≠X.env.locals:=fun x c e z=>by
 obtain ⟨v,o,ho,hd⟩:=I.cell x c e;obtain ⟨m,⟨o',es,ep,ho',hd',_⟩,_⟩:=I.loc;rw [z,ho'] at ho;cases ho;rw [hd'] at hd;cases hd
theorem Inv.funs (I:Inv X pins σ H s):s.heap.FunFrames X.base X.outer:=by
 have all:∀(l:List Env),(∀b∈frs l,b∈X.fs)→X.s₀.heap.FunFrames X.base l→s.heap.FunFrames X.base l:=by
  intro l
  induction l with
  | nil=>intro _ _;trivial
  | cons env r ih=>
   intro hs hl;obtain ⟨hk,⟨L,o,hf,hn,ho,hd⟩,hr⟩:=hl;have hL:L∈X.fs:=hs L (by unfold frs;rw [List.filterMap_cons,hf];exact List.mem_cons_self)
   obtain ⟨sl,e⟩:=I.base.slot L o ho (I.ok.frf L hL) hL fun z=>I.ok.exfs L z hL
   exact ⟨hk,⟨L,_,hf,hn,e,hd⟩,ih (fun b hb=>hs b (by unfold frs;rw [List.filterMap_cons,hf];exact List.mem_cons_of_mem _ hb)) hr⟩
 exact all X.outer (fun _ hb=>hb) I.ok.funs
theorem Inv.stack (I:Inv X pins σ H s):s.heap.FunFrames X.base X.stack:=by
 rcases I.ok.stk with e | ⟨e,hf⟩
 ·rw [e];exact I.funs
 ·rw [e]
  obtain ⟨m,hn,_⟩:=I.loc;refine .cons (by rw [I.ok.kind];decide) hf hn ?_ I.funs;exact Heap.get?_none_of_le (Nat.le_trans I.ok.bsz I.ok.above)
theorem Inv.stkSub (I:Inv X pins σ H s):∀b∈frs X.stack,b∈X.env.locals :: X.fs:=fun b hb=>by
 rcases I.ok.stk with e | ⟨e,hf⟩
 ·rw [e] at hb;exact List.mem_cons_of_mem _ hb
 ·rw [e] at hb
  unfold frs at hb;rw [List.filterMap_cons,hf] at hb;exact hb
theorem Inv.stkFree (I:Inv X pins σ H s):∀b∈frs X.stack,H b=none:=fun b hb=>by
 rcases List.mem_cons.mp (I.stkSub b hb) with e | hb
 ·rw [e];exact I.free
 ·obtain ⟨_,o,ho,_⟩:=I.ok.funs.mem hb
  exact I.base.free b o ho (I.ok.frf b hb) fun z=>I.ok.exfs b z hb
theorem Inv.step {g':Array GenState} {t':Nat} {d':Drawn} {ch:List Addr} (I:Inv X pins σ H s)
  (hch:∀b∈ch,(b∈X.ex∨X.s₀.heap.objs.size≤b)∧b≠X.env.locals∧(∀x c,X.env.cells.lookup x=some c→c≠b)∧∀p∈X.pn++pins,p.1≠b)
  (keep:∀b o,b≠X.env.locals→b∉X.fs→b∉ch→s.heap.get? b=some o→H b=none→h'.get? b=some o)
  (slot:∀b o,b≠X.env.locals→b∈X.fs→b∉ch→s.heap.get? b=some o→H b=none→∃sl,h'.get? b=some { o with slots:=sl }) (free:∀b o,b∉ch→s.heap.get? b=some o→H b=none→H' b=none)
  (there:∀b o,b∉ch→s.heap.get? b=some o→∃o',h'.get? b=some o')
  (tups:∀b xs,H b=some (.tup xs)→H' b=some (.tup xs)) (frzs:∀b o u,H b=some (.frz o u)→H' b=some (.frz o u)) (tbls:∀b ps,H b=some (.tbl ps)→∃more,H' b=some (.tbl (ps++more)))
  (ns:∀m,s.heap.Ns X.env.locals m→h'.Ns X.env.locals m) (hok:HOk X.prog X.w H' h') (hg:AllBare g') :
  Inv X pins σ H' { s with heap:=h',gens:=g',drawn:=d',toks:=t' }:=by
 have neL:∀b o,X.s₀.heap.get? b=some o→b≠X.env.locals:=fun b o e=>Nat.ne_of_lt (Nat.lt_of_lt_of_le (Heap.lt_size e) I.ok.above)
 have neC:∀b o,X.s₀.heap.get? b=some o→b∉X.ex→b∉ch:=fun b o e hx hb=>by
  rcases (hch b hb).1 with z | z
  ·exact hx z
  ·exact absurd (Nat.lt_of_lt_of_le (Heap.lt_size e) z) (Nat.lt_irrefl _)
 have cellK:∀x c,X.env.cells.lookup x=some c→∀v,s.heap.IsCell c v→h'.IsCell c v:=fun x c e v ⟨o,ho,hd⟩=>by
  have nch:c∉ch:=fun z=>(hch c z).2.2.1 x c e rfl
  by_cases hc:c∈X.fs
  ·obtain ⟨sl,q⟩:=slot c o (I.cne x c e) hc nch ho (I.freeC x c e)
   exact ⟨_,q,hd⟩
  ·exact ⟨o,keep c o (I.cne x c e) hc nch ho (I.freeC x c e),hd⟩
 refine ⟨I.ok,I.os,hg,⟨fun b o e n hb hx=>?_,fun b o e n hb hx=>?_,fun b o e n hx=>?_,fun b o e hx=>?_,fun b xs e=>tups b xs (I.base.tups b xs e),fun b o xs e=>frzs b o xs (I.base.frzs b o xs e),fun b ps e=>?_⟩,?_,fun x c e=>?_,?_,fun x c e=>?_,fun p hp=>?_,hok,I.len⟩
 ·exact keep b o (neL b o e) hb (neC b o e hx) (I.base.keep b o e n hb hx) (I.base.free b o e n hx)
 ·obtain ⟨sl,e1⟩:=I.base.slot b o e n hb hx
  obtain ⟨sl',e2⟩:=slot b _ (neL b o e) hb (neC b o e hx) e1 (I.base.free b o e n hx);exact ⟨sl',e2⟩
 ·obtain ⟨o',e1⟩:=I.base.there b o e hx
  exact free b o' (neC b o e hx) e1 (I.base.free b o e n hx)
 ·obtain ⟨o',e1⟩:=I.base.there b o e hx
  exact there b o' (neC b o e hx) e1
 ·obtain ⟨m1,e1⟩:=I.base.tbls b ps e
  obtain ⟨m2,e2⟩:=tbls b _ e1;exact ⟨m1++m2,by rw [e2,Array.append_assoc]⟩
 ·obtain ⟨m,hn,hl⟩:=I.loc
  refine ⟨m,ns m hn,fun i x v e1 e2 e3=>?_⟩;obtain ⟨u,r,l⟩:=hl i x v e1 e2 e3;refine ⟨u,r,?_⟩
  rcases l with l | ⟨k,c,e,z⟩
  ·exact .inl l
  ·exact .inr ⟨k,c,e,cellK x c e _ z⟩
 ·obtain ⟨v,z⟩:=I.cell x c e
  exact ⟨v,cellK x c e v z⟩
 ·obtain ⟨m,⟨o,_,_,ho,_⟩,_⟩:=I.loc
  exact free _ o (fun z=>(hch _ z).2.1 rfl) ho I.free
 ·obtain ⟨v,o,ho,hd⟩:=I.cell x c e
  exact free c o (fun z=>(hch c z).2.2.1 x c e rfl) ho (I.freeC x c e)
 ·obtain ⟨e,n,ne,nf,d⟩:=I.pin p hp
  have nch:p.1∉ch:=fun z=>(hch p.1 z).2.2.2 p hp rfl
  exact ⟨keep p.1 p.2 ne nf nch e n,free p.1 p.2 nch e n,ne,nf,d⟩
theorem Inv.un {t':Nat} (I:Inv X pins σ H s) (u:Un X.fs [] H H' s.heap h') (hok:HOk X.prog X.w H' h'):Inv X pins σ H' { s with heap:=h',toks:=t' }:=by
 obtain ⟨m,⟨o,es,ep,ho,r⟩,_⟩:=id I.loc;obtain ⟨sl,hL⟩:=u.any ho I.free (by simp)
 exact I.step (g':=s.gens) (d':=s.drawn) (ch:=[]) (fun _ z=>nomatch z) (fun b o _ hb _ e n=>u.keep b o e n hb (by simp)) (fun b o _ hb _ e n=>u.slot b o e n hb (by simp)) (fun b o _ e n=>u.free b o e n (by simp)) (fun b o _ e=>u.there b o e (by simp)) u.tups u.frzs u.tbls (fun m' hm=>by
  obtain ⟨o',es',ep',ho',r'⟩:=hm;rw [ho] at ho';cases ho'
  exact ⟨_,es',ep',hL,r'⟩) hok I.bare
theorem Inv.call {g':Array GenState} {t':Nat} {d':Drawn} {ch:List Addr} (I:Inv X pins σ H s) (u:Un (frs X.stack) ch H H' s.heap h') (hok:HOk X.prog X.w H' h') (hg:AllBare g')
  (hch:∀b∈ch,(b∈X.ex∨X.s₀.heap.objs.size≤b)∧b≠X.env.locals∧(∀x c,X.env.cells.lookup x=some c→c≠b)∧∀p∈X.pn++pins,p.1≠b) :
  Inv X pins σ H' { s with heap:=h',gens:=g',drawn:=d',toks:=t' }:=by
 obtain ⟨m,⟨o,es,ep,ho,r⟩,_⟩:=id I.loc
 obtain ⟨sl,hL⟩:=u.any ho I.free fun z=>(hch _ z).2.1 rfl
 exact I.step (ch:=ch) hch (fun b o hL hb hc e n=>u.keep b o e n (fun z=>(List.mem_cons.mp (I.stkSub b z)).elim hL hb) hc) (fun b o _ _ hc e n=>u.any e n hc) (fun b o hc e n=>u.free b o e n hc) (fun b o hc e=>u.there b o e hc) u.tups u.frzs u.tbls (fun m' hm=>by
  obtain ⟨o',es',ep',ho',r'⟩:=hm;rw [ho] at ho';cases ho'
  exact ⟨_,es',ep',hL,r'⟩) hok hg
theorem Inv.turned {t':Nat} {it:Addr} (I:Inv X pins σ H s) (k:∀b o,b≠it→s.heap.get? b=some o→h'.get? b=some o) (hn:H it=none) (hL:it≠X.env.locals)
  (h1:it∈X.ex∨X.s₀.heap.objs.size≤it) (h2:∀x c,X.env.cells.lookup x=some c→c≠it) (h3:∀p∈X.pn++pins,p.1≠it):Inv X pins σ H { s with heap:=h',toks:=t' }:=by
 have nit:∀b u,H b=some u→b≠it:=fun b u e z=>by rw [z,hn] at e;cases e
 refine I.step (g':=s.gens) (d':=s.drawn) (ch:=[it]) (fun b hb=>?_) (fun b o _ _ hc e _=>k b o (fun z=>hc (by simp [z])) e) (fun b o _ _ hc e _=>⟨o.slots,k b o (fun z=>hc (by simp [z])) e⟩) (fun _ _ _ _ n=>n)
  (fun b o hc e=>⟨o,k b o (fun z=>hc (by simp [z])) e⟩) (fun _ _ e=>e) (fun _ _ _ e=>e) (fun b ps e=>⟨#[],by rw [e];simp⟩) (fun m hm=>?_) (fun b u e=>?_) I.bare
 ·have e:b=it:=by simpa using hb
  subst e;exact ⟨h1,hL,h2,h3⟩
 ·obtain ⟨o,es,ep,ho,r⟩:=hm
  exact ⟨o,es,ep,k _ o (Ne.symm hL) ho,r⟩
 ·refine (I.hok b u e).stay (fun c v hc q=>k c v ?_ q) (fun _ q=>q) fun _ _ q=>q
  rcases hc with z | z
  ·rw [z];exact nit b u e
  ·exact nit c _ z
theorem Inv.tok (I:Inv X pins σ H s) (t:Nat):Inv X pins σ H { s with toks:=t }:=I.un (h':=s.heap) (t':=t) Un.refl I.hok
theorem Inv.kept {t':Nat} (I:Inv X pins σ H s) (k:∀b u,s.heap.get? b=some u→h'.get? b=some u):Inv X pins σ H { s with heap:=h',toks:=t' }:=I.un (Un.kept k) (I.hok.kept k)
theorem Inv.laid {a:Addr} {o:HO} {t':Nat} (I:Inv X pins σ H s) (k:∀b u,s.heap.get? b=some u→h'.get? b=some u) (hp:s.heap.objs.size≤a) (new:ObjOk X.prog X.w (upd H a o) h' a o) :
  Inv X pins σ (upd H a o) { s with heap:=h',toks:=t' }:=I.un (Un.laid k hp (I.hok.fresh hp)) (I.hok.laid k hp new)
theorem Inv.write {x e:Addr} {o:HO} {t':Nat} (I:Inv X pins σ H s) (mu:Mut (H x)) (he:e=x∨H e=some (.own x)) (k:∀b u,b≠e→s.heap.get? b=some u→h'.get? b=some u) (heo:∃u,h'.get? e=some u)
  (new:ObjOk X.prog X.w (upd H x o) h' x o):Inv X pins σ (upd H x o) { s with heap:=h',toks:=t' }:=I.un (Un.write mu he k heo) (I.hok.write mu he k heo new)
theorem Inv.pins_of {pins':List (Addr×Obj)} (I:Inv X pins σ H s) (h:∀p∈pins',s.heap.get? p.1=some p.2∧H p.1=none∧p.1≠X.env.locals∧p.1∉X.fs∧∀v,p.2.data≠.cell v):Inv X pins' σ H s:=
 ⟨I.ok,I.os,I.bare,I.base,I.loc,I.cell,I.free,I.freeC,fun p hp=>(List.mem_append.mp hp).elim (fun z=>I.pin p (List.mem_append_left _ z)) (h p),I.hok,I.len⟩
theorem nodup_ix {N:List Str} (hN:N.Nodup) {i j:Nat} {x:Str} (a:N[i]?=some x) (b:N[j]?=some x):i=j:=by
 obtain ⟨h1,e1⟩:=List.getElem?_eq_some_iff.mp a;obtain ⟨h2,e2⟩:=List.getElem?_eq_some_iff.mp b;exact (List.getElem_inj hN).mp (e1.trans e2.symm)
theorem store_ok2 {M:Model} {A:Around} {E:Value→Shared→Prop} {i:Nat} {x:Str} {v:V} {u:Value} {Q:Unit→Shared→Prop} (I:Inv X pins σ H s) (hN:X.N.Nodup) (hi:X.N[i]?=some x) (hx:Loc X.env.scope x) (r:RelV v u)
  (h:∀s',Inv X pins (σ.set i (some v)) H s'→(∃a,Heap.SameBut a s.heap s'.heap∧(a=X.env.locals∨X.env.cells.lookup x=some a))→Q () s') (hf:X.fn x=true∨X.env.scope.names.lookup x=some .local:=by first | exact .inl rfl | exact .inr rfl | assumption):wpAny M A (storeName X.env x u) Q E s:=by
 obtain ⟨m,hn,hl⟩:=id I.loc
 have hcls:(X.env.scope.kind==.class||(X.env.scope.kind==.module&&X.env.locals != X.env.globals))=false:=by rw [I.ok.kind];rfl
 have hiσ:i < σ.length:=by rw [I.len];exact (List.getElem?_eq_some_iff.mp hi).1
 have cne:=I.cne
 have tracked:∀ {a:Addr} {h':Heap},(∃o,s.heap.get? a=some o∧H a=none)→Heap.SameBut a s.heap h'→HOk X.prog X.w H h':=fun {a h'} ha hs b ob e=>by
  obtain ⟨_,_,hfree⟩:=ha
  refine (I.hok b ob e).stay (fun c w' hc q=>(hs.2 c ?_).trans q) (fun _ q=>q) fun _ _ q=>q
  rintro rfl
  rcases hc with rfl | hc
  ·rw [hfree] at e;cases e
  ·rw [hfree] at hc;cases hc
 rcases hx with hk | hk
 ·refine wpAny_storeName_local hk hn (fun h' hn' hs=>?_) hcls
  obtain ⟨oL,_,_,hoL,_⟩:=id hn;refine h _ ⟨I.ok,I.os,I.bare,⟨fun b o e n hb hx=>?_,fun b o e n hb hx=>?_,I.base.free,fun b o e hx=>?_,I.base.tups,I.base.frzs,I.base.tbls⟩,⟨_,hn',fun j y v' e1 e2 e3=>?_⟩,fun y c e=>?_,I.free,I.freeC,fun p hp=>?_,tracked ⟨oL,hoL,I.free⟩ hs,by simpa using I.len⟩ ⟨_,hs,.inl rfl⟩
  ·exact (hs.2 b (Nat.ne_of_lt (Nat.lt_of_lt_of_le (Heap.lt_size e) I.ok.above))).trans (I.base.keep b o e n hb hx)
  ·obtain ⟨sl,e1⟩:=I.base.slot b o e n hb hx
   exact ⟨sl,(hs.2 b (Nat.ne_of_lt (Nat.lt_of_lt_of_le (Heap.lt_size e) I.ok.above))).trans e1⟩
  ·obtain ⟨o',e1⟩:=I.base.there b o e hx
   exact ⟨o',(hs.2 b (Nat.ne_of_lt (Nat.lt_of_lt_of_le (Heap.lt_size e) I.ok.above))).trans e1⟩
  ·by_cases hj:j=i
   ·subst hj
    rw [hi] at e1;cases e1;rw [List.getElem?_set_self hiσ] at e2;cases e2;exact ⟨u,r,.inl ⟨hk,by simp⟩⟩
   ·rw [List.getElem?_set_ne (Ne.symm hj)] at e2
    obtain ⟨u',r',q⟩:=hl j y v' e1 e2 e3;refine ⟨u',r',?_⟩
    rcases q with ⟨k,e⟩ | ⟨k,c,e,z⟩
    ·refine .inl ⟨k,?_⟩
     have:y≠x:=fun e=>hj (nodup_ix hN e1 (e▸hi))
     simp [this,e]
    ·exact .inr ⟨k,c,e,z.sameBut hs (cne y c e)⟩
  ·obtain ⟨w',z⟩:=I.cell y c e
   exact ⟨w',z.sameBut hs (cne y c e)⟩
  ·obtain ⟨e,n,ne,nf,d⟩:=I.pin p hp
   exact ⟨(hs.2 p.1 ne).trans e,n,ne,nf,d⟩
 ·have hfn:X.fn x=true:=by
   rcases hf with z | z
   ·exact z
   ·rw [z] at hk;cases hk
  obtain ⟨c,hc⟩:=I.ok.has x (.inl hk);obtain ⟨w',z⟩:=I.cell x c hc;refine wpAny_storeName_cell I.ok.kind hk hc z (fun h' hc' hs=>?_);obtain ⟨oc,hoc,hocd⟩:=id z;refine h { s with heap:=h' } ⟨I.ok,I.os,I.bare,⟨fun b o e n hb hx=>?_,fun b o e n hb hx=>?_,I.base.free,fun b o e hx=>?_,I.base.tups,I.base.frzs,I.base.tbls⟩,⟨m,hn.sameBut hs (Ne.symm (cne x c hc)),fun j y v' e1 e2 e3=>?_⟩,fun y c' e=>?_,I.free,I.freeC,fun p hp=>?_,tracked ⟨oc,hoc,I.freeC x c hc⟩ hs,by simpa using I.len⟩ ⟨c,hs,.inr hc⟩
  ·exact (hs.2 b (Nat.ne_of_lt (Nat.lt_of_lt_of_le (Heap.lt_size e) (I.ok.cab x c hfn hc)))).trans (I.base.keep b o e n hb hx)
  ·obtain ⟨sl,e1⟩:=I.base.slot b o e n hb hx
   exact ⟨sl,(hs.2 b (Nat.ne_of_lt (Nat.lt_of_lt_of_le (Heap.lt_size e) (I.ok.cab x c hfn hc)))).trans e1⟩
  ·obtain ⟨o',e1⟩:=I.base.there b o e hx
   exact ⟨o',(hs.2 b (Nat.ne_of_lt (Nat.lt_of_lt_of_le (Heap.lt_size e) (I.ok.cab x c hfn hc)))).trans e1⟩
  ·by_cases hj:j=i
   ·subst hj
    rw [hi] at e1;cases e1;rw [List.getElem?_set_self hiσ] at e2;cases e2;exact ⟨u,r,.inr ⟨.inl hk,c,hc,hc'⟩⟩
   ·rw [List.getElem?_set_ne (Ne.symm hj)] at e2
    obtain ⟨u',r',q⟩:=hl j y v' e1 e2 e3;refine ⟨u',r',?_⟩
    rcases q with q | ⟨k,c',e,z'⟩
    ·exact .inl q
    ·refine .inr ⟨k,c',e,z'.sameBut hs ?_⟩
     rintro rfl;exact hj (nodup_ix hN e1 (I.ok.inj _ _ _ e hc▸hi))
  ·by_cases hcc:c'=c
   ·subst hcc;exact ⟨_,hc'⟩
   ·obtain ⟨w2,z2⟩:=I.cell y c' e
    exact ⟨w2,z2.sameBut hs hcc⟩
  ·obtain ⟨e,n,ne,nf,d⟩:=I.pin p hp
   refine ⟨(hs.2 p.1 ?_).trans e,n,ne,nf,d⟩;intro q;rw [q,hoc] at e;have q':oc=p.2:=Option.some.inj e;exact d w' (by rw [←q'];exact hocd)
theorem store_ok {M:Model} {A:Around} {E:Value→Shared→Prop} {i:Nat} {x:Str} {v:V} {u:Value} {Q:Unit→Shared→Prop} (I:Inv X pins σ H s) (hN:X.N.Nodup) (hi:X.N[i]?=some x) (hx:Loc X.env.scope x) (r:RelV v u)
  (h:∀s',Inv X pins (σ.set i (some v)) H s'→Q () s') (hf:X.fn x=true∨X.env.scope.names.lookup x=some .local:=by first | exact .inl rfl | exact .inr rfl | assumption):wpAny M A (storeName X.env x u) Q E s:=
 store_ok2 I hN hi hx r (fun s' I' _=>h s' I') hf
theorem Inv.call' {s':Shared} {ch:List Addr} (I:Inv X pins σ H s) (ho:s'.os=s.os) (u:Un (frs X.stack) ch H H' s.heap s'.heap) (hok:HOk X.prog X.w H' s'.heap) (hg:AllBare s'.gens)
  (hch:∀b∈ch,(b∈X.ex∨X.s₀.heap.objs.size≤b)∧b≠X.env.locals∧(∀x c,X.env.cells.lookup x=some c→c≠b)∧∀p∈X.pn++pins,p.1≠b):Inv X pins σ H' s':=by
 obtain ⟨h',g',d',t',o'⟩:=s';have e:o'=s.os:=ho;subst e;exact I.call (g':=g') (t':=t') (d':=d') u hok hg hch
end
noncomputable abbrev XK:=Value→Option Addr→Hp→Prop
noncomputable abbrev St:=List (Option V)
noncomputable abbrev VK:=V→Hp→Prop
noncomputable abbrev TE:=St→Hp→VK→Prop
noncomputable abbrev TT:=St→Hp→(Bool→Hp→Prop)→Prop
noncomputable abbrev TA:=St→Hp→(List V→Hp→Prop)→Prop
structure Ends where
 nx:St→Hp→Prop
 rt:VK
 bk:St→Hp→Prop:=fun _ _=>False
 ct:St→Hp→Prop:=fun _ _=>False
noncomputable abbrev TS:=Ends→St→Hp→Prop
noncomputable def EP (X:Cx) (pins:List (Addr×Obj)) (σ:St) (Q:VK) (u:Value) (s':Shared):Prop:=∃v H',Inv X pins σ H' s'∧RelV v u∧Q v H'
noncomputable def TP (X:Cx) (pins:List (Addr×Obj)) (σ:St) (Q:Bool→Hp→Prop) (b:Bool) (s':Shared):Prop:=∃H',Inv X pins σ H' s'∧Q b H'
noncomputable def AP (X:Cx) (pins:List (Addr×Obj)) (σ:St) (Q:List V→Hp→Prop) (us:List Value) (s':Shared):Prop:=∃vs H',Inv X pins σ H' s'∧Vals vs us∧Q vs H'
noncomputable def SP (X:Cx) (pins:List (Addr×Obj)) (D:Ends) (f:Flow) (s':Shared):Prop:=
 match f with
 | .next=>∃σ' H',Inv X pins σ' H' s'∧D.nx σ' H'
 | .brk=>∃σ' H',Inv X pins σ' H' s'∧D.bk σ' H'
 | .cont=>∃σ' H',Inv X pins σ' H' s'∧D.ct σ' H'
 | .ret u=>∃v σ' H',Inv X pins σ' H' s'∧RelV v u∧D.rt v H'
noncomputable def PE (X:Cx) (e:Expr) (t:TE):Prop:=
 ∀(pins:List (Addr×Obj)) (s:Shared) (σ:St) (H:Hp) (Q:VK),Inv X pins σ H s→t σ H Q→wpAny (model X.prog X.w) X.A (eval e X.env) (EP X pins σ Q) X.xe s
noncomputable def PT (X:Cx) (e:Expr) (t:TT):Prop:=
 ∀(pins:List (Addr×Obj)) (s:Shared) (σ:St) (H:Hp) (Q:Bool→Hp→Prop),Inv X pins σ H s→t σ H Q→wpAny (model X.prog X.w) X.A (isTrue e X.env (eval e X.env)) (TP X pins σ Q) X.xe s
noncomputable def PW (X:Cx) (e:Expr) (t:TT):Prop:=
 ∀(whole:Sem Value) (pins:List (Addr×Obj)) (s:Shared) (σ:St) (H:Hp) (Q:Bool→Hp→Prop),Inv X pins σ H s→t σ H Q→wpAny (model X.prog X.w) X.A (isTrue e X.env whole) (TP X pins σ Q) X.xe s
theorem PW.pt {X:Cx} {e:Expr} {t:TT} (h:PW X e t):PT X e t:=h _
noncomputable def PA (X:Cx) (es:List Expr) (t:TA):Prop:=
 ∀(pos:Pos) (pins:List (Addr×Obj)) (s:Shared) (σ:St) (H:Hp) (Q:List V→Hp→Prop),Inv X pins σ H s→t σ H Q→wpAny (model X.prog X.w) X.A (spliced (backTo pos (starEach es X.env))) (AP X pins σ Q) X.xe s
noncomputable def PS (X:Cx) (st:Stmt) (t:TS):Prop:=
 ∀(pins:List (Addr×Obj)) (s:Shared) (σ:St) (H:Hp) (D:Ends),Inv X pins σ H s→t D σ H→wpAny (model X.prog X.w) X.A (exec st X.env) (SP X pins D) X.xe s
noncomputable def PSs (X:Cx) (st:List Stmt) (t:TS):Prop:=
 ∀(pins:List (Addr×Obj)) (s:Shared) (σ:St) (H:Hp) (D:Ends),Inv X pins σ H s→t D σ H→wpAny (model X.prog X.w) X.A (execs st X.env) (SP X pins D) X.xe s
theorem thn {α:Type} {t:Sem α} {Q Q':α→Shared→Prop} {M:Model} {A:Around} {E:Value→Shared→Prop} {s:Shared} (h:wpAny M A t Q E s) (hQ:∀a s,Q a s→Q' a s):wpAny M A t Q' E s:=wpAny_mono h hQ fun _ _ x=>x
end L2
namespace L2
open PySem PySem.Spec PyProof.Rows
section
variable {X:Cx}
noncomputable def tVar (i:Nat):TE:=fun σ H Q=>∃v,σ[i]?=some (some v)∧Q v H
noncomputable def tC (v:V):TE:=fun _ H Q=>Q v H
theorem pe_var {i:Nat} {x:Str} {pos:Pos} (hN:X.N[i]?=some x) (hv:Vis X.env.scope x) (hd:(x==("__debug__" : Str))=false:=by decide) (hcd:(x==("__classdict__" : Str))=false:=by decide):PE X (.Name x pos) (tVar i):=by
 intro pins s σ H Q I h;obtain ⟨v,e,h⟩:=h;obtain ⟨m,hn,hl⟩:=I.loc;obtain ⟨u,r,l⟩:=hl i x v hN e hv;have fin:EP X pins σ Q u s:=⟨v,H,I,r,h⟩
 rcases l with ⟨hk,hm⟩ | ⟨hk,c,hc,hcell⟩
 ·exact wpAny_Name (wpAny_loadName_local I.ok.kind hk hn hm fin) hd
 ·rcases hk with hk | hk
  ·exact wpAny_Name (wpAny_loadName_cell I.ok.kind hk hc hcell fin) hd
  ·exact wpAny_Name (wpAny_loadName_free I.ok.kind hk hc hcell fin hcd) hd
theorem pe_int {i j pos}:PE X (.Constant (.int i) j pos) (tC (.int i)):=fun _ _ _ H _ I h=>wpAny_Constant_int ⟨.int i,H,I.tok _,⟨_,rfl⟩,h⟩
theorem pe_bl {b j pos}:PE X (.Constant (.bool b) j pos) (tC (.bl b)):=fun _ _ _ H _ I h=>Constant_bool ⟨.bl b,H,I,rfl,h⟩
theorem pe_str {x j pos}:PE X (.Constant (.str x) j pos) (tC (.str x)):=fun _ _ _ H _ I h=>Calls.Constant_str ⟨.str x,H,I.tok _,⟨_,rfl⟩,h⟩
noncomputable def Gl (X:Cx) (x:Str):Prop:=X.env.kindOf x=some .globalImplicit
theorem ld_glob {E:Value→Shared→Prop} {pins:List (Addr×Obj)} {s:Shared} {σ:St} {H:Hp} {x:Str} {u:Value} {pos:Pos} {Q:Value→Shared→Prop} (I:Inv X pins σ H s) (hg:Gl X x) (hm:X.mg x=some u) (h:Q u s)
  (hd:(x==("__debug__" : Str))=false:=by decide):wpAny (model X.prog X.w) X.A (eval (.Name x pos) X.env) Q E s:=
 Calls.Name_function_global I.ok.kind hg (Calls.loadGlobal_global (by rw [I.ok.glob];exact I.mod.glob.keeps I.bk) hm h) hd
theorem ld_blt {E:Value→Shared→Prop} {pins:List (Addr×Obj)} {s:Shared} {σ:St} {H:Hp} {x:Str} {u:Value} {pos:Pos} {Q:Value→Shared→Prop} (I:Inv X pins σ H s) (hg:Gl X x) (hm:X.mg x=none) (hv:bootBuiltins x=some u) (h:Q u s)
  (hn:x≠"__name__":=by decide) (hd:(x==("__debug__" : Str))=false:=by decide):wpAny (model X.prog X.w) X.A (eval (.Name x pos) X.env) Q E s:=by
 obtain ⟨mb,h1,h2⟩:=I.mod.blt;exact Calls.Name_function_global I.ok.kind hg (Calls.loadGlobal_builtin (by rw [I.ok.glob];exact I.mod.glob.keeps I.bk) hm (by rw [I.ok.blt];exact h1.keeps I.bk) ((h2 x hn).trans hv) h) hd
theorem pe_glob {x:Str} {v:V} {u:Value} {pos:Pos} (hg:Gl X x) (hm:X.mg x=some u) (r:RelV v u) (hd:(x==("__debug__" : Str))=false:=by decide):PE X (.Name x pos) (tC v):=
 fun _ _ _ H _ I h=>ld_glob I hg hm ⟨v,H,I,r,h⟩ hd
theorem pe_bltn {x:Str} {v:V} {u:Value} {pos:Pos} (hg:Gl X x) (hm:X.mg x=none) (hv:bootBuiltins x=some u) (r:RelV v u) (hn:x≠"__name__":=by decide) (hd:(x==("__debug__" : Str))=false:=by decide):PE X (.Name x pos) (tC v):=
 fun _ _ _ H _ I h=>ld_blt I hg hm hv ⟨v,H,I,r,h⟩ hn hd
variable {a b:Expr} {ta tb:TE} {pos:Pos}
noncomputable def PC (X:Cx) (op:CmpOp) (a b:Expr) (t:TE):Prop:=
 ∀(pins:List (Addr×Obj)) (s:Shared) (σ:St) (H:Hp) (Q:VK),Inv X pins σ H s→t σ H Q →
  wpAny (model X.prog X.w) X.A (eval a X.env) (fun v s₁=>wpAny (model X.prog X.w) X.A (eval b X.env) (fun u s₂=>wpAny (model X.prog X.w) X.A (compareOp op v u) (EP X pins σ Q) X.xe s₂) X.xe s₁) X.xe s
noncomputable def tB (t:TE):TT:=fun σ H Q=>t σ H fun x H1=>∃c,x=.bl c∧Q c H1
theorem pe_cmp {op:CmpOp} {t:TE} (h:PC X op a b t) (h1:behindInMarks op b=false:=by first | exact nobehind _ (by decide) (by decide) | rfl):PE X (.Compare a [op] [b] pos) t:=fun pins s σ H Q I hw=>wpAny_Compare1 (h pins s σ H Q I hw) h1
theorem pt_cmp {op:CmpOp} {t:TE} (h:PC X op a b t) (h1:behindInMarks op b=false:=by first | exact nobehind _ (by decide) (by decide) | rfl):PT X (.Compare a [op] [b] pos) (tB t):=by
 intro pins s σ H Q I hw;refine wpAny_isTrue_Compare1 (thn (h pins s σ H _ I hw) fun v s1 h1=>thn h1 fun u s2 h2=>thn h2 fun c s3 ⟨x,H1,I1,r1,q1⟩=>?_) h1;obtain ⟨d,rfl,q⟩:=q1;cases r1;exact wpAny_truthy_bool ⟨H1,I1,q⟩
theorem pt_val {e:Expr} {t:TE} (h:PE X e t) (he:∀whole,isTrue e X.env whole=(do let v ←whole;standAt e.pos;holding [v] (truthy v)):=by intro _;rfl):PT X e (tB t):=by
 intro pins s σ H Q I hw;refine isTrue_plain (thn (h pins s σ H _ I hw) fun v s1 ⟨x,H1,I1,r1,q1⟩=>?_) (he _);obtain ⟨d,rfl,q⟩:=q1;cases r1;exact wpAny_truthy_bool ⟨H1,I1,q⟩
variable {tA tB':TT} {rest:List Expr}
noncomputable def tAnd (t u:TT):TT:=fun σ H Q=>t σ H fun c H1=>if c=true then u σ H1 Q else Q false H1
noncomputable def tOr (t u:TT):TT:=fun σ H Q=>t σ H fun c H1=>if c=true then Q true H1 else u σ H1 Q
noncomputable def tNot (t:TT):TT:=fun σ H Q=>t σ H fun c H1=>Q (!c) H1
theorem pw_and1 (ha:PT X a tA):PW X (.BoolOp .And [a] pos) tA:=by
 intro wh pins s σ H Q I h;refine isTrue_and (thn (ha pins s σ H Q I h) fun c s1 e=>?_)
 cases c with
 | true=>exact isTrue_and_nil e
 | false=>exact e
theorem pw_or1 (ha:PT X a tA):PW X (.BoolOp .Or [a] pos) tA:=by
 intro wh pins s σ H Q I h;refine isTrue_or (thn (ha pins s σ H Q I h) fun c s1 e=>?_)
 cases c with
 | false=>exact isTrue_or_nil e
 | true=>exact e
theorem pw_and (ha:PT X a tA) (hb:PW X (.BoolOp .And (b :: rest) pos) tB'):PW X (.BoolOp .And (a :: b :: rest) pos) (tAnd tA tB'):=by
 intro wh pins s σ H Q I h;refine isTrue_and (thn (ha pins s σ H _ I h) fun c s1 ⟨H1,I1,q1⟩=>?_)
 cases c with
 | true=>exact hb wh pins s1 σ H1 Q I1 q1
 | false=>exact ⟨H1,I1,q1⟩
theorem pw_or (ha:PT X a tA) (hb:PW X (.BoolOp .Or (b :: rest) pos) tB'):PW X (.BoolOp .Or (a :: b :: rest) pos) (tOr tA tB'):=by
 intro wh pins s σ H Q I h;refine isTrue_or (thn (ha pins s σ H _ I h) fun c s1 ⟨H1,I1,q1⟩=>?_)
 cases c with
 | true=>exact ⟨H1,I1,q1⟩
 | false=>exact hb wh pins s1 σ H1 Q I1 q1
theorem pt_not (ha:PT X a tA):PT X (.UnaryOp .Not a pos) (tNot tA):=by
 intro pins s σ H Q I h;exact isTrue_not (ha pins s σ H (fun c H1=>Q (!c) H1) I h)
noncomputable def tOrV (ta tb:TE):TE:=fun σ H Q=>ta σ H fun x H1=>∃c,x=.bl c∧if c=true then Q (.bl true) H1 else tb σ H1 Q
noncomputable def tNotV (ta:TE):TE:=fun σ H Q=>ta σ H fun x H1=>∃c,x=.bl c∧Q (.bl (!c)) H1
theorem pe_one {op} {t:TE} (h:PE X a t):PE X (.BoolOp op [a] pos) t:=fun pins s σ H Q I hw=>BoolOp_one (h pins s σ H Q I hw)
theorem pe_or (ha:PE X a ta) (hb:PE X (.BoolOp .Or (b :: rest) pos) tb):PE X (.BoolOp .Or (a :: b :: rest) pos) (tOrV ta tb):=by
 intro pins s σ H Q I h;refine BoolOp_or (thn (ha pins s σ H _ I h) fun v s1 ⟨x,H1,I1,r1,q1⟩=>?_);obtain ⟨c,rfl,q1⟩:=q1;cases r1;refine wpAny_truthy_bool ?_
 cases c with
 | false=>exact hb pins s1 σ H1 Q I1 q1
 | true=>exact ⟨.bl true,H1,I1,rfl,q1⟩
theorem pe_not (ha:PE X a ta):PE X (.UnaryOp .Not a pos) (tNotV ta):=by
 intro pins s σ H Q I h;refine UnaryOp_ (thn (ha pins s σ H _ I h) fun v s1 ⟨x,H1,I1,r1,q1⟩=>?_);obtain ⟨c,rfl,q1⟩:=q1;cases r1;exact not_of (wpAny_truthy_bool ⟨.bl (!c),H1,I1,rfl,q1⟩)
end
end L2
namespace L2
open PySem PySem.Spec PyProof.Rows
noncomputable def SqL (K:PySem.W.Frag) (H:Hp) (a:Addr) (xs:List V):Prop:=
 Rd H a (.lst xs) ∨
  ∃(o:Obj) (its:Array Value) (n:Nat),K.lookup a=some o∧o.cls=.type "list"∧o.dict=none∧o.data=.seq its n∧its.size≤sizeLine∧Vals xs its.toList
noncomputable def SqT (K:PySem.W.Frag) (H:Hp) (a:Addr) (xs:List V):Prop:=
 Rd H a (.tup xs) ∨
  ∃(o:Obj) (its:Array Value) (n:Nat),K.lookup a=some o∧o.cls=.type "tuple"∧o.data=.seq its n∧its.size≤sizeLine∧Vals xs its.toList
noncomputable def absV:Value→Option V
 | .none=>some .non
 | .bool b=>some (.bl b)
 | .int i _=>some (.int i)
 | .str x _=>some (.str x)
 | .bytes b _=>some (.byt b)
 | .float b _=>some (.flt b)
 | .ref a=>some (.ref a)
 | .type n=>some (.ty n)
 | _=>none
theorem RelV.abs {x:V} {u:Value} (r:RelV x u):absV u=some x:=by
 cases x with
 | non=>cases r;rfl
 | bl _=>cases r;rfl
 | int _=>obtain ⟨t,rfl⟩:=r;rfl
 | str _=>obtain ⟨t,rfl⟩:=r;rfl
 | byt _=>obtain ⟨t,rfl⟩:=r;rfl
 | flt _=>obtain ⟨t,rfl⟩:=r;rfl
 | ref _=>cases r;rfl
 | ty _=>cases r;rfl
theorem RelV.inj {x y:V} {u:Value} (r:RelV x u) (q:RelV y u):x=y:=Option.some.inj (r.abs.symm.trans q.abs)
theorem Vals.inj:∀ {xs ys:List V} {us:List Value},Vals xs us→Vals ys us→xs=ys
 | _,_,_,.nil,.nil=>rfl
 | _,_,_,.cons r t,.cons r' t'=>by rw [r.inj r',Vals.inj t t']
section
variable {X:Cx} {pins:List (Addr×Obj)} {σ:St} {H:Hp} {s:Shared} {a:Addr} {xs ys:List V}
theorem Inv.list (I:Inv X pins σ H s) (h:SqL X.K H a xs):∃its:List Value,Vals xs its∧PlainL s.heap a its.toArray∧xs.length≤sizeLine:=by
 rcases h with h | ⟨o,its,n,hk,hc,hd,hs,hz,r⟩
 ·obtain ⟨z,its,n,r,e⟩:=h.ok I.hok
  exact ⟨its,r,⟨_,n,e,rfl,rfl,rfl⟩,z⟩
 ·refine ⟨its.toList,r,⟨o,n,I.kIn a o hk,hc,hd,by simpa using hs⟩,?_⟩
  have e:=r.length;simp only [Array.length_toList] at e;omega
theorem Inv.tuple (I:Inv X pins σ H s) (h:SqT X.K H a xs):∃its:List Value,Vals xs its∧IsTup s.heap a its.toArray∧xs.length≤sizeLine:=by
 rcases h with h | ⟨o,its,n,hk,hc,hs,hz,r⟩
 ·obtain ⟨z,its,r,p⟩:=h.ok I.hok
  exact ⟨its,r,p,z⟩
 ·refine ⟨its.toList,r,⟨o,I.kIn a o hk,hc,n,by simpa using hs⟩,?_⟩
  have e:=r.length;simp only [Array.length_toList] at e;omega
theorem Inv.list_inj (I:Inv X pins σ H s) (h:SqL X.K H a xs) (h':SqL X.K H a ys):xs=ys:=by
 obtain ⟨its,r,⟨o,n,e,_,_,d⟩,_⟩:=I.list h;obtain ⟨its',r',⟨o',n',e',_,_,d'⟩,_⟩:=I.list h';rw [e] at e';cases e';rw [d] at d'
 injection d' with d1 _
 have:its=its':=by simpa using congrArg Array.toList d1
 subst this;exact r.inj r'
theorem Inv.tuple_inj (I:Inv X pins σ H s) (h:SqT X.K H a xs) (h':SqT X.K H a ys):xs=ys:=by
 obtain ⟨its,r,⟨o,e,_,n,d⟩,_⟩:=I.tuple h;obtain ⟨its',r',⟨o',e',_,n',d'⟩,_⟩:=I.tuple h';rw [e] at e';cases e';rw [d] at d'
 injection d' with d1 _
 have:its=its':=by simpa using congrArg Array.toList d1
 subst this;exact r.inj r'
end
section
variable {X:Cx} {pins:List (Addr×Obj)} {σ:St} {H:Hp} {s:Shared} {E:Value→Shared→Prop}
end
section
variable {X:Cx} {st:Stmt} {rest:List Stmt} {t u:TS} {e:Expr} {te:TE} {pos:Pos}
noncomputable def tNext:TS:=fun D σ H=>D.nx σ H
noncomputable def tSeq (t u:TS):TS:=fun D σ H=>t { D with nx:=u D } σ H
theorem pss_nil:PSs X [] tNext:=fun _ _ σ H _ I h=>wpAny_execs_nil ⟨σ,H,I,h⟩
theorem pss_cons (h1:PS X st t) (h2:PSs X rest u):PSs X (st :: rest) (tSeq t u):=by
 intro pins s σ H D I h;refine wpAny_execs_cons (thn (h1 pins s σ H { D with nx:=u D } I h) fun f s1 q=>?_)
 cases f with
 | next=>
  obtain ⟨σ',H',I',q⟩:=q;exact h2 pins s1 σ' H' D I' q
 | ret v=>exact q
 | brk=>exact q
 | cont=>exact q
theorem pss_one (h1:PS X st t):PSs X [st] t:=by
 intro pins s σ H D I h;refine wpAny_execs_cons (thn (h1 pins s σ H D I h) fun f s1 q=>?_)
 cases f with
 | next=>exact wpAny_execs_nil q
 | ret v=>exact q
 | brk=>exact q
 | cont=>exact q
theorem Inv.quiet {pins:List (Addr×Obj)} {σ:St} {H:Hp} {s:Shared} (I:Inv X pins σ H s):interactive X.env=false:=by simp [interactive,I.ok.kind]
noncomputable def tDrop (te:TE):TS:=fun D σ H=>te σ H fun _ H1=>D.nx σ H1
theorem ps_expr (he:PE X e te) (hs:swapsWith e none pos.line X.env=pure false:=by rfl):PS X (.Expr e pos) (tDrop te):=by
 intro pins s σ H D I h;exact wpAny_Expr_any (thn (he pins s σ H _ I h) fun v s1 ⟨x,H1,I1,r1,q1⟩=>⟨σ,H1,I1,q1⟩) I.quiet hs
noncomputable def tRet (te:TE):TS:=fun D σ H=>te σ H D.rt
theorem ps_ret (he:PE X e te):PS X (.Return (some e) pos) (tRet te):=by
 intro pins s σ H D I h;exact wpAny_Return_some (thn (he pins s σ H _ I h) fun v s1 ⟨x,H1,I1,r1,q1⟩=>⟨x,σ,H1,I1,r1,q1⟩)
noncomputable def tIfS (c:TT) (t u:TS):TS:=fun D σ H=>c σ H fun b H1=>if b=true then t D σ H1 else u D σ H1
theorem ps_if {c:Expr} {a b:List Stmt} {tc:TT} (hc:PT X c tc) (ha:PSs X a t) (hb:PSs X b u):PS X (.If c a b pos) (tIfS tc t u):=by
 intro pins s σ H D I h;refine wpAny_If (thn (hc pins s σ H _ I h) fun d s1 ⟨H1,I1,q1⟩=>?_)
 cases d with
 | true=>exact ha pins s1 σ H1 D I1 q1
 | false=>exact hb pins s1 σ H1 D I1 q1
noncomputable def tNever:TS:=fun _ _ _=>False
theorem ps_never:PS X st tNever:=fun _ _ _ _ _ _ h=>h.elim
end
noncomputable abbrev TG:=V→St→Hp→(St→Hp→Prop)→Prop
noncomputable abbrev TGs:=List V→St→Hp→(St→Hp→Prop)→Prop
noncomputable def PG (X:Cx) (target:Expr) (t:TG):Prop:=
 ∀(pins:List (Addr×Obj)) (s:Shared) (σ:St) (H:Hp) (v:V) (u:Value) (Q:St→Hp→Prop),Inv X pins σ H s→RelV v u→t v σ H Q →
  wpAny (model X.prog X.w) X.A (assign target X.env u) (fun _ s'=>∃σ' H',Inv X pins σ' H' s'∧Q σ' H') X.xe s
noncomputable def PGs (X:Cx) (ts:List Expr) (t:TGs):Prop:=
 ∀(pins:List (Addr×Obj)) (s:Shared) (σ:St) (H:Hp) (vs:List V) (us:List Value) (Q:St→Hp→Prop),Inv X pins σ H s→Vals vs us→t vs σ H Q →
  wpAny (model X.prog X.w) X.A (assignInOrder ((assignEach ts X.env).map (·.2)) us) (fun _ s'=>∃σ' H',Inv X pins σ' H' s'∧Q σ' H') X.xe s
section
variable {X:Cx} {pos:Pos}
def gName (i:Nat):TG:=fun v σ H Q=>Q (σ.set i (some v)) H
theorem pg_name {i:Nat} {x:Str} (hN:X.N.Nodup) (hi:X.N[i]?=some x) (hx:Loc X.env.scope x) (hf:X.fn x=true∨X.env.scope.names.lookup x=some .local:=by first | exact .inl rfl | exact .inr rfl | assumption):PG X (.Name x pos) (gName i):=by
 intro pins s σ H v u Q I r h;exact wpAny_assign_Name (store_ok I hN hi hx r (fun s' I'=>⟨_,H,I',h⟩) hf)
noncomputable def gNil:TGs:=fun vs σ H Q=>vs=[]∧Q σ H
noncomputable def gCons (t:TG) (u:TGs):TGs:=fun vs σ H Q=>∃v r,vs=v :: r∧t v σ H fun σ' H'=>u r σ' H' Q
theorem pgs_nil:PGs X [] gNil:=by
 intro pins s σ H vs us Q I r h;obtain ⟨e,h⟩:=h;subst e;cases r;exact assignInOrder_nil ⟨σ,H,I,h⟩
theorem pgs_cons {e:Expr} {es:List Expr} {t:TG} {u:TGs} (h1:PG X e t) (h2:PGs X es u)
  (hs:(assignEach (e :: es) X.env).map (·.2)=assign e X.env :: (assignEach es X.env).map (·.2):=by rfl):PGs X (e :: es) (gCons t u):=by
 intro pins s σ H vs us Q I r h;obtain ⟨v,vr,e1,h⟩:=h;subst e1
 cases r with
 | cons r rr=>
  rw [hs];refine assignInOrder_cons (thn (h1 pins s σ H _ _ _ I r h) fun _ s1 ⟨σ1,H1,I1,q1⟩=>?_);exact h2 pins s1 σ1 H1 _ _ Q I1 rr q1
noncomputable def gTup (K:PySem.W.Frag) (n:Nat) (t:TGs):TG:=fun v σ H Q=>∃a xs,v=.ref a∧SqT K H a xs∧xs.length=n∧t xs σ H Q
theorem pg_tup {es:List Expr} {k:Nat} {t:TGs} {n:Nat} (hc:X.calm=true) (h:PGs X es t)
  (hn:(assignEach es X.env).length=n:=by rfl) (hst:(assignEach es X.env).findIdx? (·.1)=none:=by rfl):PG X (.Tuple es k pos) (gTup X.K n t):=by
 intro pins s σ H v u Q I r hw;obtain ⟨a,xs,e1,hq,hl,hw⟩:=hw;subst e1;cases r;obtain ⟨its,rv,ht,hz⟩:=I.tuple hq
 refine assign_Tuple_tuple (I.ok.hd hc) ht (by simp [hn,←hl,rv.length]) hst fun h' hx=>?_
 have I1:Inv X pins σ H { s with heap:=h' }:=I.kept (t':=s.toks) fun b o e=>hx b o (Nat.ne_of_lt (Heap.lt_size e)) e
 exact h pins _ σ H xs _ Q I1 (by simpa using rv) hw
noncomputable def tAsg (te:TE) (g:TG):TS:=fun D σ H=>te σ H fun x H1=>g x σ H1 D.nx
theorem ps_set {i:Nat} {x:Str} {e:Expr} {te:TE} {pos':Pos} (hN:X.N.Nodup) (hi:X.N[i]?=some x) (hx:Loc X.env.scope x) (he:PE X e te) (hs:swapsWith e (some (.Name x pos')) pos.line X.env=pure false:=by rfl) (hf:X.fn x=true∨X.env.scope.names.lookup x=some .local:=by first | exact .inl rfl | exact .inr rfl | assumption) :
  PS X (.Assign [.Name x pos'] e pos) (tAsg te (gName i)):=by
 intro pins s σ H D I h;refine wpAny_Assign_Name (thn (he pins s σ H _ I h) fun v s1 ⟨y,H1,I1,r1,q1⟩=>?_) hs;exact store_ok I1 hN hi hx r1 (fun s2 I2=>⟨_,H1,I2,q1⟩) hf
end
section
variable {X:Cx} {pos:Pos}
end
structure It where
 go:Nat→Hp→Prop
 yld:Nat→Hp→V→Hp→Prop
 stop:Nat→Hp→Prop
noncomputable def FpOk (X:Cx) (pins:List (Addr×Obj)) (H:Hp) (b:Addr):Prop:=
 H b=none∧b≠X.env.locals∧b∉X.fs∧(b∈X.ex∨X.s₀.heap.objs.size≤b)∧(∀x c,X.env.cells.lookup x=some c→c≠b)∧∀p∈X.pn++pins,p.1≠b
theorem Inv.fpOk {X:Cx} {pins:List (Addr×Obj)} {σ:St} {H H':Hp} {s:Shared} {b:Addr} (I:Inv X pins σ H s) (hb:s.heap.objs.size≤b) (hn:H' b=none):FpOk X pins H' b:=by
 refine ⟨hn,Nat.ne_of_gt (Nat.lt_of_lt_of_le I.lt hb),I.nofs hb,.inr (Nat.le_trans I.sz hb),fun x c e z=>?_,fun p hp z=>?_⟩
 ·obtain ⟨v,q⟩:=I.cell x c e
  exact absurd (Nat.lt_of_lt_of_le q.lt (by rw [z];exact hb)) (Nat.lt_irrefl _)
 ·exact absurd (Nat.lt_of_lt_of_le (Heap.lt_size (I.pin p hp).1) (by rw [z];exact hb)) (Nat.lt_irrefl _)
structure Turn (P:Program) (w:World) (K:PySem.W.Frag) (tg:Expr) (J:It) (fp:List Addr) (it:Addr) (tn:Nat→Heap→Prop):Prop where
 mem:it∈fp
 obj:∀i h,tn i h→∀b∈fp,∃o,h.get? b=some o∧∀v,o.data≠.cell v
 keep:∀i h h',tn i h→(∀b∈fp,∀o,h.get? b=some o→h'.get? b=some o)→tn i h'
 item:∀(X:Cx),X.prog=P→X.w=w→X.K=K→X.calm=true→∀(i:Nat) (pins:List (Addr×Obj)) (s:Shared) (σ:St) (H:Hp) (E:Value→Shared→Prop),Inv X pins σ H s→(∀b∈fp,FpOk X pins H b)→tn i s.heap→J.go i H →
  wpAny (model P w) X.A (pyNext (.ref it)) (fun r s1=>∃u,r=some u ∧
   wpAny (model P w) X.A (letOwnedTupleGo tg (.ref it) u) (fun _ s2=>∃x H',Inv X pins σ H' s2∧RelV x u∧J.yld i H x H'∧tn (i+1) s2.heap∧∀b∈fp,H' b=none) E s1) E s
 done:∀(X:Cx),X.prog=P→X.w=w→X.K=K→X.calm=true→∀(i:Nat) (pins:List (Addr×Obj)) (s:Shared) (σ:St) (H:Hp) (E:Value→Shared→Prop),Inv X pins σ H s→(∀b∈fp,FpOk X pins H b)→tn i s.heap→J.stop i H →
  wpAny (model P w) X.A (pyNext (.ref it)) (fun r s1=>r=none∧Inv X pins σ H s1) E s
 self:∀(A:Around) (i:Nat) (s:Shared) (Q:Value→Shared→Prop) (E:Value→Shared→Prop),tn i s.heap→Q (.ref it) s→wpAny (model P w) A (pyIter (.ref it)) Q E s
noncomputable abbrev TI:=St→Hp→(It→Hp→Prop)→Prop
noncomputable def PIE (X:Cx) (pins:List (Addr×Obj)) (σ:St) (tg:Expr) (R:It→Hp→Prop) (itv:Value) (s2:Shared):Prop:=
 ∃(it:Addr) (fp:List Addr) (tn:Nat→Heap→Prop) (J:It) (H':Hp),itv=.ref it∧Inv X pins σ H' s2∧Turn X.prog X.w X.K tg J fp it tn∧tn 0 s2.heap∧(∀b∈fp,FpOk X pins H' b)∧R J H'
noncomputable def PI (X:Cx) (tg iter:Expr) (wi:TI):Prop:=
 ∀(pins:List (Addr×Obj)) (s:Shared) (σ:St) (H:Hp) (R:It→Hp→Prop),Inv X pins σ H s→wi σ H R →
  wpAny (model X.prog X.w) X.A (eval iter X.env) (fun v s1=>wpAny (model X.prog X.w) X.A (pyIter v) (PIE X pins σ tg R) X.xe s1) X.xe s
theorem go_of {M:Model} {A:Around} {E:Value→Shared→Prop} {s:Shared} {tg:Expr} {it:Addr} {u:Value} {o:Obj} {n:String} {vs:Array Value} {Q:Unit→Shared→Prop} (ho:s.heap.get? it=some o) (hc:o.cls=.type n) (hd:o.data=.fields vs)
  (hn:["enumerate", "zip", "dict_itemiterator", "dict_reverseitemiterator", "odict_iterator", "itertools.zip_longest", "itertools.pairwise"].contains n=false) (hQ:Q () s):wpAny M A (letOwnedTupleGo tg (.ref it) u) Q E s:=by
 unfold letOwnedTupleGo
 cases tg <;> first
  | exact wpAny_pure hQ
  | (cases u <;> first
    | exact wpAny_pure hQ
    | (refine wpAny_bind (wpAny_load ho ?_)
       rw [hc,hd];show wpAny M A (if (["enumerate", "zip", "dict_itemiterator", "dict_reverseitemiterator", "odict_iterator", "itertools.zip_longest", "itertools.pairwise"].contains n&&vs[0]?==some (rawInt _))=true then _ else _) Q E s;rw [if_neg (by intro h;rw [hn,Bool.false_and] at h;cases h)]
       exact wpAny_pure hQ))
noncomputable def Itl (K:PySem.W.Frag) (a:Addr):It:=
 ⟨fun i H=>∃xs x,SqL K H a xs∧xs[i]?=some x,fun i H x H'=>H'=H∧∀xs,SqL K H a xs→xs[i]?=some x,fun i H=>∃xs,SqL K H a xs∧xs.length≤i⟩
noncomputable def Itt (K:PySem.W.Frag) (a:Addr):It:=
 ⟨fun i H=>∃xs x,SqT K H a xs∧xs[i]?=some x,fun i H x H'=>H'=H∧∀xs,SqT K H a xs→xs[i]?=some x,fun i H=>∃xs,SqT K H a xs∧xs.length≤i⟩
noncomputable def Itr (lo:Int) (n:Nat):It:=⟨fun i _=>i < n,fun i H x H'=>H'=H∧x=.int (lo+i),fun i _=>n≤i⟩
theorem turn_list {P:Program} {w:World} {K:PySem.W.Frag} {tg:Expr} (a it:Addr):Turn P w K tg (Itl K a) [it] it (fun i h=>h.IsListIter it a i) where
 mem:=by simp
 obj:=fun i h st b hb=>by
  have e:b=it:=by simpa using hb
  subst e;obtain ⟨o,e,c,d⟩:=st;exact ⟨o,e,fun v z=>by rw [d] at z;cases z⟩
 keep:=fun i h h' st k=>st.at fun o e=>k it (by simp) o e
 item:=by
  intro X hP hw hK hc i pins s σ H E I hf st hg;subst hP hw hK;obtain ⟨xs,x,hq,hx⟩:=hg;obtain ⟨its,rv,p,hz⟩:=I.list hq;obtain ⟨u,hu,ru⟩:=rv.get hx;obtain ⟨f0,f1,f2,f3,f4,f5⟩:=hf it (by simp)
  refine wpAny_pyNext_list_item st p.isList (x:=u) (by simpa using hu) fun h' st' sb=>?_
  have I1:Inv X pins σ H { s with heap:=h' }:=I.turned (t':=s.toks) (fun b o hb e=>(sb.2 b hb).trans e) f0 f1 f3 f4 f5;obtain ⟨o,e,c,d⟩:=id st';exact ⟨u,rfl,go_of (s:={ s with heap:=h' }) e c d (by decide) ⟨x,H,I1,ru,⟨rfl,fun ys hy=>by rw [I.list_inj hy hq];exact hx⟩,st',fun b hb=>(hf b hb).1⟩⟩
 done:=by
  intro X hP hw hK hc i pins s σ H E I hf st hg;subst hP hw hK;obtain ⟨xs,hq,hx⟩:=hg;obtain ⟨its,rv,p,hz⟩:=I.list hq;obtain ⟨f0,f1,f2,f3,f4,f5⟩:=hf it (by simp);have hl:=rv.length
  exact wpAny_pyNext_list_end (I.ok.hd hc) st p.isList (by simp;omega) fun h' eb=>⟨rfl,I.turned (t':=s.toks) (fun b o hb e=>eb b o hb e) f0 f1 f3 f4 f5⟩
 self:=fun _ _ _ _ _ st h=>wpAny_pyIter_listiter st h
theorem turn_tuple {P:Program} {w:World} {K:PySem.W.Frag} {tg:Expr} (a it:Addr):Turn P w K tg (Itt K a) [it] it (fun i h=>h.IsTupleIter it a i) where
 mem:=by simp
 obj:=fun i h st b hb=>by
  have e:b=it:=by simpa using hb
  subst e;obtain ⟨o,e,c,d⟩:=st;exact ⟨o,e,fun v z=>by rw [d] at z;cases z⟩
 keep:=fun i h h' st k=>st.at fun o e=>k it (by simp) o e
 item:=by
  intro X hP hw hK hc i pins s σ H E I hf st hg;subst hP hw hK;obtain ⟨xs,x,hq,hx⟩:=hg;obtain ⟨its,rv,p,hz⟩:=I.tuple hq;obtain ⟨u,hu,ru⟩:=rv.get hx;obtain ⟨f0,f1,f2,f3,f4,f5⟩:=hf it (by simp)
  refine wpAny_pyNext_tuple_item st (show s.heap.IsTuple a its.toArray from p) (x:=u) (by simpa using hu) fun h' st' sb=>?_
  have I1:Inv X pins σ H { s with heap:=h' }:=I.turned (t':=s.toks) (fun b o hb e=>(sb.2 b hb).trans e) f0 f1 f3 f4 f5;obtain ⟨o,e,c,d⟩:=id st';exact ⟨u,rfl,go_of (s:={ s with heap:=h' }) e c d (by decide) ⟨x,H,I1,ru,⟨rfl,fun ys hy=>by rw [I.tuple_inj hy hq];exact hx⟩,st',fun b hb=>(hf b hb).1⟩⟩
 done:=by
  intro X hP hw hK hc i pins s σ H E I hf st hg;subst hP hw hK;obtain ⟨xs,hq,hx⟩:=hg;obtain ⟨its,rv,p,hz⟩:=I.tuple hq;obtain ⟨f0,f1,f2,f3,f4,f5⟩:=hf it (by simp);have hl:=rv.length
  exact wpAny_pyNext_tuple_end (I.ok.hd hc) st (show s.heap.IsTuple a its.toArray from p) (by simp;omega) fun h' eb=>⟨rfl,I.turned (t':=s.toks) (fun b o hb e=>eb b o hb e) f0 f1 f3 f4 f5⟩
 self:=fun _ _ _ _ _ st h=>wpAny_pyIter_tupleiter st h
theorem turn_range {P:Program} {w:World} {K:PySem.W.Frag} {tg:Expr} (it:Addr) (lo:Int) (n:Nat):Turn P w K tg (Itr lo n) [it] it (fun i h=>IsRangeIter h it (lo+(i:Nat) * 1) ((n:Int) - (i:Nat)) 1) where
 mem:=by simp
 obj:=fun i h st b hb=>by
  have e:b=it:=by simpa using hb
  subst e
  exact ⟨_,st,fun v z=>by
   have z':Data.fields _=Data.cell v:=z
   cases z'⟩
 keep:=fun i h h' st k=>k it (by simp) _ st
 item:=by
  intro X hP hw hK hc i pins s σ H E I hf st hg;subst hP hw hK;obtain ⟨f0,f1,f2,f3,f4,f5⟩:=hf it (by simp);have W:=Walks.range (prog:=X.prog) (w:=X.w) (I.ok.hd hc) it lo 1 n
  refine W.item i s _ _ hg st fun v h' tk hv st' kk=>?_
  obtain ⟨t,rfl⟩:=hv;have I1:Inv X pins σ H { s with heap:=h',toks:=tk }:=I.turned (fun b o hb e=>kk b o (by simpa using hb) e) f0 f1 f3 f4 f5;refine ⟨_,rfl,go_of (s:={ s with heap:=h',toks:=tk }) (n:="range_iterator") st' rfl rfl (by decide) ⟨.int (lo+i),H,I1,⟨t,?_⟩,⟨rfl,rfl⟩,st',fun b hb=>(hf b hb).1⟩⟩;rw [Int.mul_one]
 done:=by
  intro X hP hw hK hc i pins s σ H E I hf st hg;subst hP hw hK;obtain ⟨f0,f1,f2,f3,f4,f5⟩:=hf it (by simp)
  exact wpAny_pyNext_range_end (I.ok.hd hc) st (by have:n≤i:=hg;omega) fun h' eb=>⟨rfl,I.turned (t':=s.toks) (fun b o hb e=>eb b o hb e) f0 f1 f3 f4 f5⟩
 self:=fun _ _ _ _ _ st h=>wpAny_pyIter_rangeiter st h
end L2
namespace L2
open PySem PySem.Spec PyProof.Rows
section
variable {X:Cx} {tg:Expr}
noncomputable def iList (K:PySem.W.Frag) (tl:TE):TI:=fun σ H R=>tl σ H fun x H1=>∃a,x=.ref a∧(∃xs,SqL K H1 a xs)∧R (Itl K a) H1
noncomputable def iTup (K:PySem.W.Frag) (tl:TE):TI:=fun σ H R=>tl σ H fun x H1=>∃a,x=.ref a∧(∃xs,SqT K H1 a xs)∧R (Itt K a) H1
theorem pi_list {l:Expr} {tl:TE} (hl:PE X l tl):PI X tg l (iList X.K tl):=by
 intro pins s σ H R I h
 refine thn (hl pins s σ H _ I h) fun v s1 ⟨x,H1,I1,r1,q1⟩=>?_
 obtain ⟨a,e,⟨xs,hq⟩,q⟩:=q1;subst e;cases r1;obtain ⟨its,rv,p,hz⟩:=I1.list hq;refine wpAny_pyIter_list p.isList ?_;refine ⟨s1.heap.objs.size,[s1.heap.objs.size],_,_,H1,rfl,I1.kept (t':=s1.toks) fun b o e=>Heap.get?_push_of_some _ e,turn_list a _,⟨_,Heap.get?_push_size _ rfl,rfl,rfl⟩,fun b hb=>?_,q⟩
 have e:b=s1.heap.objs.size:=by simpa using hb
 subst e;exact I1.fpOk (Nat.le_refl _) (I1.hok.fresh (Nat.le_refl _))
theorem pi_tup {l:Expr} {tl:TE} (hl:PE X l tl):PI X tg l (iTup X.K tl):=by
 intro pins s σ H R I h
 refine thn (hl pins s σ H _ I h) fun v s1 ⟨x,H1,I1,r1,q1⟩=>?_
 obtain ⟨a,e,⟨xs,hq⟩,q⟩:=q1;subst e;cases r1;obtain ⟨its,rv,p,hz⟩:=I1.tuple hq;refine wpAny_pyIter_tuple (show s1.heap.IsTuple a its.toArray from p) ?_;refine ⟨s1.heap.objs.size,[s1.heap.objs.size],_,_,H1,rfl,I1.kept (t':=s1.toks) fun b o e=>Heap.get?_push_of_some _ e,turn_tuple a _,⟨_,Heap.get?_push_size _ rfl,rfl,rfl⟩,fun b hb=>?_,q⟩
 have e:b=s1.heap.objs.size:=by simpa using hb
 subst e;exact I1.fpOk (Nat.le_refl _) (I1.hok.fresh (Nat.le_refl _))
theorem range_it {pins:List (Addr×Obj)} {σ:St} {H:Hp} {s:Shared} {R:It→Hp→Prop} {E:Value→Shared→Prop} {lo hi:Int} {t u v:Tok} {tk:Nat} (I:Inv X pins σ H s) (h1:-(2 ^ 62)≤lo) (h2:lo < 2 ^ 62) (h3:-(2 ^ 62)≤hi) (h4:hi < 2 ^ 62)
  (q:R (Itr lo (hi - lo).toNat) H):wpAny (model X.prog X.w) X.A (pyIter (.ref s.heap.objs.size)) (PIE X pins σ tg R) E { s with heap:=s.heap.push { cls:=.type "range",data:=.fields #[.int lo t,.int hi u,.int 1 v] },toks:=tk }:=by
 refine wpAny_pyIter_range (IsRange.new ..) (small_one h1 h2 h3 h4) ?_
 have I1:Inv X pins σ H { s with heap:=s.heap.push { cls:=.type "range",data:=.fields #[.int lo t,.int hi u,.int 1 v] },toks:=tk }:=I.kept fun b o e=>Heap.get?_push_of_some _ e
 refine ⟨(s.heap.push { cls:=.type "range",data:=.fields #[.int lo t,.int hi u,.int 1 v] }).objs.size,[(s.heap.push { cls:=.type "range",data:=.fields #[.int lo t,.int hi u,.int 1 v] }).objs.size],_,_,H,rfl,
  I1.kept (t':=tk) fun b o e=>Heap.get?_push_of_some _ e,turn_range _ lo (hi - lo).toNat,?_,fun b hb=>?_,q⟩
 ·have e1:lo+((0:Nat):Int) * 1=lo:=by simp
  have e2:(((hi - lo).toNat:Nat):Int) - ((0:Nat):Int)=Builtin.Range.rangeSize lo hi 1:=by rw [rangeSize_one];split <;> omega
  show IsRangeIter _ _ (lo+((0:Nat):Int) * 1) ((((hi - lo).toNat:Nat):Int) - ((0:Nat):Int)) 1;rw [e1,e2];exact Heap.get?_push_size _ rfl
 ·have e:b=(s.heap.push { cls:=.type "range",data:=.fields #[.int lo t,.int hi u,.int 1 v] }).objs.size:=by simpa using hb
  subst e;exact I1.fpOk (Nat.le_refl _) (I1.hok.fresh (Nat.le_refl _))
noncomputable def iRng1 (ta:TA):TI:=fun σ H R=>ta σ H fun vs H1=>∃j:Int,vs=[.int j]∧-(2 ^ 62)≤j∧j < 2 ^ 62∧R (Itr 0 j.toNat) H1
noncomputable def iRng2 (ta:TA):TI:=fun σ H R=>ta σ H fun vs H1=>∃i j:Int,vs=[.int i,.int j]∧(-(2 ^ 62)≤i∧i < 2 ^ 62∧-(2 ^ 62)≤j∧j < 2 ^ 62)∧R (Itr i (j - i).toNat) H1
theorem pi_range1 {a:Expr} {ta:TA} {p pos:Pos} (hg:Gl X "range") (hm:X.mg "range" = none) (ha:PA X [a] ta) (hs:starEach [a] X.env=[(false,eval a X.env)]:=by rfl):PI X tg (.Call (.Name "range" p) [a] [] pos) (iRng1 ta):=by
 intro pins s σ H R I h;refine Call_ (ld_blt I hg hm boot_range (PyProof.Rows.callWith_type1 (thn (ha pos pins s σ H _ I h) fun us s1 ⟨vs,H1,I1,r1,q1⟩=>?_) hs rfl));obtain ⟨j,e,q1,q2,q⟩:=q1;subst e
 cases r1 with
 | cons r rr=>
  cases rr;obtain ⟨t,rfl⟩:=r;exact call_range_1 (range_it I1 (by omega) (by omega) q1 q2 (by simpa using q))
theorem pi_range2 {a b:Expr} {ta:TA} {p pos:Pos} (hg:Gl X "range") (hm:X.mg "range" = none) (ha:PA X [a,b] ta) (hs:starEach [a,b] X.env=[(false,eval a X.env),(false,eval b X.env)]:=by rfl) (hs2:starEach [b] X.env=[(false,eval b X.env)]:=by rfl) :
  PI X tg (.Call (.Name "range" p) [a,b] [] pos) (iRng2 ta):=by
 intro pins s σ H R I h;refine Call_ (ld_blt I hg hm boot_range (PyProof.Rows.callWith_type1 (thn (ha pos pins s σ H _ I h) fun us s1 ⟨vs,H1,I1,r1,q1⟩=>?_) (by rw [hs,hs2]) (by rw [hs2];rfl)));obtain ⟨i,j,e,⟨q1,q2,q3,q4⟩,q⟩:=q1;subst e
 cases r1 with
 | cons r rr=>
  cases rr with
  | cons r' rr=>
   cases rr;obtain ⟨t,rfl⟩:=r;obtain ⟨t',rfl⟩:=r';exact call_range_2 (range_it I1 q1 q2 q3 q4 q)
noncomputable def tFor (wi:TI) (g:TG) (tb:TS):TS:=fun D σ H=>wi σ H fun J H1=>∃W:Nat→Nat→St→Hp→Prop,(∃m,W 0 m σ H1)∧∀i m σ H,W i m σ H →
 (J.stop i H∧D.nx σ H)∨(J.go i H∧∃N:St→Hp→Prop,(∀σ' H',N σ' H'→∃m',m' < m∧W (i+1) m' σ' H')∧∀x H',J.yld i H x H'→g x σ H' fun σ2 H2=>tb { D with nx:=N,ct:=N,bk:=D.nx } σ2 H2)
noncomputable def pinsAt (fp:List Addr) (h:Heap):List (Addr×Obj):=fp.filterMap fun b=>(h.get? b).map fun o=>(b,o)
theorem mem_pinsAt {fp:List Addr} {h:Heap} {b:Addr} {o:Obj} (hb:b∈fp) (e:h.get? b=some o):(b,o)∈pinsAt fp h:=List.mem_filterMap.mpr ⟨b,hb,by rw [e];rfl⟩
theorem of_pinsAt {fp:List Addr} {h:Heap} {p:Addr×Obj} (hp:p∈pinsAt fp h):p.1∈fp∧h.get? p.1=some p.2:=by
 obtain ⟨b,hb,e⟩:=List.mem_filterMap.mp hp
 cases q:h.get? b with
 | none=>rw [q] at e;cases e
 | some o=>
  rw [q] at e;have e':(b,o)=p:=Option.some.inj e;subst e';exact ⟨hb,q⟩
theorem Inv.pinned {pins:List (Addr×Obj)} {σ:St} {H:Hp} {s:Shared} {fp:List Addr} (I:Inv X pins σ H s) (hf:∀b∈fp,FpOk X pins H b) (ho:∀b∈fp,∃o,s.heap.get? b=some o∧∀v,o.data≠.cell v):Inv X (pins++pinsAt fp s.heap) σ H s:=
 I.pins_of fun p hp=>(List.mem_append.mp hp).elim (fun z=>I.pin p (List.mem_append_right _ z)) fun z=>by
  obtain ⟨hb,e⟩:=of_pinsAt z;obtain ⟨f0,f1,f2,_⟩:=hf p.1 hb;obtain ⟨o,e',d⟩:=ho p.1 hb;rw [e] at e';cases e';exact ⟨e,f0,f1,f2,d⟩
theorem Inv.unpinned {pins pl:List (Addr×Obj)} {σ:St} {H:Hp} {s:Shared} (I:Inv X (pins++pl) σ H s):Inv X pins σ H s:=I.pins_of fun p hp=>I.pin p (List.mem_append_right _ (List.mem_append_left _ hp))
theorem ps_for {iter:Expr} {body:List Stmt} {wi:TI} {g:TG} {tb:TS} {pos:Pos} (hp:PassesOwn (model X.prog X.w) X.A X.env X.xe) (hc:X.calm=true) (hi:PI X tg iter wi) (hg:PG X tg g) (hb:PSs X body tb)
  (hs:∀x,foldedSetIterable iter X.env x=pure x:=by intro _;rfl):PS X (.For tg iter body [] pos) (tFor wi g tb):=by
 intro pins s σ H D I h;refine wpAny_For (thn (hi pins s σ H _ I h) fun v s1 h1=>thn h1 fun itv s2 h2=>?_) hs;obtain ⟨it,fp,tn,J,H2,e,I2,T,st2,f2,W,⟨m0,w0⟩,turn⟩:=h2;subst e
 have stat:∀ {H':Hp},(∀b∈fp,H' b=none)→∀b∈fp,FpOk X pins H' b:=fun hn b hb=>⟨hn b hb,(f2 b hb).2⟩
 refine codeAny_forLoop_any (fun n s'=>∃i σ' H',Inv X pins σ' H' s'∧tn i s'.heap∧(∀b∈fp,H' b=none)∧W i n σ' H') ?_ m0 ⟨0,σ,H2,I2,st2,fun b hb=>(f2 b hb).1,w0⟩;rintro n s3 ⟨i,σ3,H3,I3,st3,fr3,w3⟩
 rcases turn i n σ3 H3 w3 with ⟨stop,qn⟩ | ⟨go,N,hN,step⟩
 ·refine wpAny_passesOwn hp (thn (T.done X rfl rfl rfl hc i pins s3 σ3 H3 X.xe I3 (stat fr3) st3 stop) fun r s4 ⟨hr,I4⟩=>?_)
  subst hr;exact wpAny_execs_nil ⟨σ3,H3,I4,qn⟩
 ·refine wpAny_passesOwn hp (thn (T.item X rfl rfl rfl hc i pins s3 σ3 H3 X.xe I3 (stat fr3) st3 go) fun r s4 ⟨u,hr,h4⟩=>?_)
  subst hr;refine wpAny_passesOwn hp (thn h4 fun _ s5 ⟨x,H5,I5,r5,y5,st5,fr5⟩=>?_);have I5':=I5.pinned (stat fr5) (T.obj _ _ st5);refine wpAny_passesOwn hp (thn (hg _ s5 σ3 H5 x u _ I5' r5 (step x H5 y5)) fun _ s6 ⟨σ6,H6,I6,q6⟩=>?_);refine wpAny_passesOwn hp (thn (hb _ s6 σ6 H6 _ I6 q6) fun f s7 q7=>?_)
  have again:∀ {σ7:St} {H7:Hp},Inv X (pins++pinsAt fp s5.heap) σ7 H7 s7→N σ7 H7→∃m,m < n∧∃i σ' H',Inv X pins σ' H' s7∧tn i s7.heap∧(∀b∈fp,H' b=none)∧W i m σ' H':=fun {σ7 H7} I7 n7=>by
   obtain ⟨m',hm,w7⟩:=hN σ7 H7 n7;refine ⟨m',hm,i+1,σ7,H7,I7.unpinned,T.keep _ _ _ st5 fun b hb o e=>(I7.pin (b,o) (List.mem_append_right _ (List.mem_append_right _ (mem_pinsAt hb e)))).1,fun b hb=>?_,w7⟩;obtain ⟨o,e,d⟩:=T.obj _ _ st5 b hb;exact (I7.pin (b,o) (List.mem_append_right _ (List.mem_append_right _ (mem_pinsAt hb e)))).2.1
  cases f with
  | next=>obtain ⟨σ7,H7,I7,n7⟩:=q7;exact again I7 n7
  | cont=>obtain ⟨σ7,H7,I7,n7⟩:=q7;exact again I7 n7
  | brk=>obtain ⟨σ7,H7,I7,q7⟩:=q7;exact ⟨σ7,H7,I7.unpinned,q7⟩
  | ret v=>obtain ⟨x7,σ7,H7,I7,r7,q7⟩:=q7;exact ⟨x7,σ7,H7,I7.unpinned,r7,q7⟩
end
end L2
namespace L2
open PySem PySem.Spec PyProof.Rows
noncomputable abbrev R2:=V→V→Hp→VK→Prop
noncomputable def OpR (X:Cx) (f:Value→Value→Sem Value) (r:R2):Prop:=
 ∀(pins:List (Addr×Obj)) (s:Shared) (σ:St) (H:Hp) (x y:V) (v u:Value) (Q:VK),Inv X pins σ H s→RelV x v→RelV y u→r x y H Q →
  wpAny (model X.prog X.w) X.A (f v u) (EP X pins σ Q) X.xe s
noncomputable def UnR (X:Cx) (f:Value→Sem Value) (r:V→Hp→VK→Prop):Prop:=
 ∀(pins:List (Addr×Obj)) (s:Shared) (σ:St) (H:Hp) (x:V) (v:Value) (Q:VK),Inv X pins σ H s→RelV x v→r x H Q →
  wpAny (model X.prog X.w) X.A (f v) (EP X pins σ Q) X.xe s
noncomputable def CallR (X:Cx) (f:Value) (r:List V→Hp→VK→Prop):Prop:=
 ∀(pins:List (Addr×Obj)) (s:Shared) (σ:St) (H:Hp) (xs:List V) (us:List Value) (Q:VK),Inv X pins σ H s→Vals xs us→r xs H Q →
  wpAny (model X.prog X.w) X.A (call f us) (EP X pins σ Q) X.xe s
noncomputable def TruR (X:Cx) (r:V→Hp→(Bool→Hp→Prop)→Prop):Prop:=
 ∀(pins:List (Addr×Obj)) (s:Shared) (σ:St) (H:Hp) (x:V) (v:Value) (Q:Bool→Hp→Prop),Inv X pins σ H s→RelV x v→r x H Q →
  wpAny (model X.prog X.w) X.A (truthy v) (TP X pins σ Q) X.xe s
noncomputable def tOp (r:R2) (ta tb:TE):TE:=fun σ H Q=>ta σ H fun x H1=>tb σ H1 fun y H2=>r x y H2 Q
noncomputable def tUn (r:V→Hp→VK→Prop) (ta:TE):TE:=fun σ H Q=>ta σ H fun x H1=>r x H1 Q
noncomputable def rI (C:Int→Int→Prop) (g:Int→Int→V):R2:=fun x y H Q=>∃i j,x=.int i∧y=.int j∧C i j∧Q (g i j) H
noncomputable def rI0 (g:Int→Int→V):R2:=fun x y H Q=>∃i j,x=.int i∧y=.int j∧Q (g i j) H
noncomputable def rU (g:Int→V):V→Hp→VK→Prop:=fun x H Q=>∃i,x=.int i∧Q (g i) H
section
variable {X:Cx} {a b c:Expr} {ta tb tc:TE} {pos:Pos}
theorem binT (ha:PE X a ta) (hb:PE X b tb) {pins:List (Addr×Obj)} {s:Shared} {σ:St} {H:Hp} {R:V→V→Hp→Prop} (I:Inv X pins σ H s)
  (h:ta σ H fun x H1=>tb σ H1 fun y H2=>R x y H2) {Q:Value→Shared→Prop} {f:Value→Value→Sem Value}
  (hf:∀v u s2 x y H2,Inv X pins σ H2 s2→RelV x v→RelV y u→R x y H2→wpAny (model X.prog X.w) X.A (f v u) Q X.xe s2) :
  wpAny (model X.prog X.w) X.A (eval a X.env) (fun v s₁=>wpAny (model X.prog X.w) X.A (eval b X.env) (fun u s₂=>wpAny (model X.prog X.w) X.A (f v u) Q X.xe s₂) X.xe s₁) X.xe s:=by
 refine thn (ha pins s σ H _ I h) fun v s1 ⟨x,H1,I1,r1,q1⟩=>?_
 refine thn (hb pins s1 σ H1 _ I1 q1) fun u s2 ⟨y,H2,I2,r2,q2⟩=>?_
 exact hf v u s2 x y H2 I2 r1 r2 q2
theorem pe_op {op:Operator} {r:R2} (ho:OpR X (binaryOp op) r) (ha:PE X a ta) (hb:PE X b tb):PE X (.BinOp a op b pos) (tOp r ta tb):=by
 intro pins s σ H Q I h;exact wpAny_BinOp (binT ha hb I h fun v u s2 x y H2 I2 rx ry q=>ho pins s2 σ H2 x y v u Q I2 rx ry q)
theorem pe_un {op:UnaryOp} {r:V→Hp→VK→Prop} (ho:UnR X (unaryOp op) r) (ha:PE X a ta):PE X (.UnaryOp op a pos) (tUn r ta):=by
 intro pins s σ H Q I h;exact UnaryOp_ (thn (ha pins s σ H _ I h) fun v s1 ⟨x,H1,I1,r1,q1⟩=>ho pins s1 σ H1 x v Q I1 r1 q1)
theorem opI {f:Value→Value→Sem Value} {C:Int→Int→Prop} {g:Int→Int→Int}
  (rule:∀(i j:Int) (t u:Tok) (s:Shared) (Q:Value→Shared→Prop) (E:Value→Shared→Prop),C i j→Q (.int (g i j) s.toks) { s with toks:=s.toks+1 }→wpAny (model X.prog X.w) X.A (f (.int i t) (.int j u)) Q E s) :
  OpR X f (rI C fun i j=>.int (g i j)):=by
 intro pins s σ H x y v u Q I rx ry h;obtain ⟨i,j,rfl,rfl,hc,q⟩:=h;obtain ⟨t,rfl⟩:=rx;obtain ⟨t',rfl⟩:=ry;exact rule i j t t' s _ _ hc ⟨.int (g i j),H,I.tok _,⟨_,rfl⟩,q⟩
theorem opI0 {f:Value→Value→Sem Value} {g:Int→Int→Int}
  (rule:∀(i j:Int) (t u:Tok) (s:Shared) (Q:Value→Shared→Prop) (E:Value→Shared→Prop),Q (.int (g i j) s.toks) { s with toks:=s.toks+1 }→wpAny (model X.prog X.w) X.A (f (.int i t) (.int j u)) Q E s) :
  OpR X f (rI0 fun i j=>.int (g i j)):=by
 intro pins s σ H x y v u Q I rx ry h;obtain ⟨i,j,rfl,rfl,q⟩:=h;obtain ⟨t,rfl⟩:=rx;obtain ⟨t',rfl⟩:=ry;exact rule i j t t' s _ _ ⟨.int (g i j),H,I.tok _,⟨_,rfl⟩,q⟩
theorem opB0 {f:Value→Value→Sem Value} {g:Int→Int→Bool}
  (rule:∀(i j:Int) (t u:Tok) (s:Shared) (Q:Value→Shared→Prop) (E:Value→Shared→Prop),Q (.bool (g i j)) s→wpAny (model X.prog X.w) X.A (f (.int i t) (.int j u)) Q E s) :
  OpR X f (rI0 fun i j=>.bl (g i j)):=by
 intro pins s σ H x y v u Q I rx ry h;obtain ⟨i,j,rfl,rfl,q⟩:=h;obtain ⟨t,rfl⟩:=rx;obtain ⟨t',rfl⟩:=ry;exact rule i j t t' s _ _ ⟨.bl (g i j),H,I,rfl,q⟩
noncomputable def CDiv (i j:Int):Prop:=0 < j∧j < 1073741824
noncomputable def CPow (i j:Int):Prop:=0≤j∧j≤1000000∧i.natAbs < 2 ^ 64
theorem op_add:OpR X (binaryOp .Add) (rI0 fun i j=>.int (i+j)):=opI0 fun _ _ _ _ _ _ _ q=>add_int q
theorem op_sub:OpR X (binaryOp .Sub) (rI0 fun i j=>.int (i - j)):=opI0 fun _ _ _ _ _ _ _ q=>sub_int q
theorem op_fdiv:OpR X (binaryOp .FloorDiv) (rI CDiv fun i j=>.int (i / j)):=opI fun i j _ _ _ _ _ hc q=>by
 have h1:(0:Int) < j:=hc.1;have h2:j < 1073741824:=hc.2;exact floordiv_int (by omega) (by rw [Int.fdiv_eq_ediv_of_nonneg i (by omega)];exact q) (.inl (PyProof.noPylong_small (by omega)))
theorem op_mod:OpR X (binaryOp .Mod) (rI (fun _ j=>0 < j) fun i j=>.int (i % j)):=opI fun i j _ _ _ _ _ hc q=>by
 have h1:(0:Int) < j:=hc;exact mod_int' (by omega) (by rw [Int.fmod_eq_emod_of_nonneg i (by omega)];exact q)
theorem op_pow:OpR X (binaryOp .Pow) (rI CPow fun i j=>.int (i ^ j.toNat)):=opI fun _ _ _ _ _ _ _ hc q=>pow_int_small hc.1 hc.2.1 hc.2.2 q
theorem unI {f:Value→Sem Value} {g:Int→Int}
  (rule:∀(i:Int) (t:Tok) (s:Shared) (Q:Value→Shared→Prop) (E:Value→Shared→Prop),Q (.int (g i) s.toks) { s with toks:=s.toks+1 }→wpAny (model X.prog X.w) X.A (f (.int i t)) Q E s) :
  UnR X f (rU fun i=>.int (g i)):=by
 intro pins s σ H x v Q I rx h;obtain ⟨i,rfl,q⟩:=h;obtain ⟨t,rfl⟩:=rx;exact rule i t s _ _ ⟨.int (g i),H,I.tok _,⟨_,rfl⟩,q⟩
theorem un_neg:UnR X (unaryOp .USub) (rU fun i=>.int (-i)):=unI fun _ _ _ _ _ q=>neg_int q
end
section
variable {X:Cx} {a b c:Expr} {ta tb tc:TE} {pos:Pos}
theorem op_lt:OpR X (compareOp .Lt) (rI0 fun i j=>.bl (decide (i < j))):=opB0 fun _ _ _ _ _ _ _ q=>lt_int q
theorem op_le:OpR X (compareOp .LtE) (rI0 fun i j=>.bl (decide (i≤j))):=opB0 fun _ _ _ _ _ _ _ q=>le_int q
theorem op_ge:OpR X (compareOp .GtE) (rI0 fun i j=>.bl (decide (j≤i))):=opB0 fun _ _ _ _ _ _ _ q=>ge_int q
theorem OpR.or {f:Value→Value→Sem Value} {r r':R2} (h:OpR X f r) (h':OpR X f r'):OpR X f (fun x y H Q=>r x y H Q∨r' x y H Q):=by
 intro pins s σ H x y v u Q I rx ry q
 rcases q with q | q
 ·exact h pins s σ H x y v u Q I rx ry q
 ·exact h' pins s σ H x y v u Q I rx ry q
theorem nomark (b:Expr) {op:CmpOp} (h:op≠.In:=by decide) (h2:op≠.NotIn:=by decide):behindInMarks op b=false:=by
 have e1:(op==CmpOp.In)=false:=by cases op <;> first | rfl | exact absurd rfl h
 have e2:(op==CmpOp.NotIn)=false:=by cases op <;> first | rfl | exact absurd rfl h2
 cases b <;> simp [behindInMarks,e1,e2]
theorem pe_cmpR {op:CmpOp} {r:R2} (ho:OpR X (compareOp op) r) (ha:PE X a ta) (hb:PE X b tb) (hm:behindInMarks op b=false):PE X (.Compare a [op] [b] pos) (tOp r ta tb):=by
 intro pins s σ H Q I h;exact wpAny_Compare1 (binT ha hb I h fun v u s2 x y H2 I2 rx ry q=>ho pins s2 σ H2 x y v u Q I2 rx ry q) hm
noncomputable def tTest (t:TE):TT:=fun σ H Q=>t σ H fun x H'=>∃k,x=.bl k∧Q k H'
theorem pt_cmpR {op:CmpOp} {r:R2} (ho:OpR X (compareOp op) r) (ha:PE X a ta) (hb:PE X b tb) (hm:behindInMarks op b=false):PT X (.Compare a [op] [b] pos) (tTest (tOp r ta tb)):=by
 intro pins s σ H Q I h
 refine wpAny_isTrue_Compare1 (thn (ha pins s σ H _ I h) fun v s1 ⟨x,H1,I1,r1,q1⟩=>thn (hb pins s1 σ H1 _ I1 q1) fun u s2 ⟨y,H2,I2,r2,q2⟩=>
  thn (ho pins s2 σ H2 x y v u _ I2 r1 r2 q2) fun c s3 ⟨z,H3,I3,r3,k,e,q3⟩=>?_) hm
 subst e;cases r3;exact wpAny_truthy_bool ⟨H3,I3,q3⟩
noncomputable def tChain (r r':R2) (ta tb tc:TE):TE:=fun σ H Q=>ta σ H fun x H1=>tb σ H1 fun y H2=>r x y H2 fun z H3=>∃k,z=.bl k ∧
 (if k=true then tc σ H3 fun w' H4=>r' y w' H4 Q else Q (.bl false) H3)
theorem pt_chain {op op':CmpOp} {r r':R2} (ho:OpR X (compareOp op) r) (ho':OpR X (compareOp op') r') (ha:PE X a ta) (hb:PE X b tb) (hc:PE X c tc)
  (hm:lastMarks [op,op'] [b,c]=false:=by with_unfolding_all rfl):PT X (.Compare a [op,op'] [b,c] pos) (tTest (tChain r r' ta tb tc)):=by
 intro pins s σ H Q I h
 refine isTrue_chain (thn (ha pins s σ H _ I h) fun v s1 ⟨x,H1,I1,r1,q1⟩=>test_link (thn (hb pins s1 σ H1 _ I1 q1) fun u s2 ⟨y,H2,I2,r2,q2⟩=>
  thn (ho pins s2 σ H2 x y v u _ I2 r1 r2 q2) fun d s3 ⟨z,H3,I3,r3,k,e,q3⟩=>?_)) hm
 subst e;cases r3;refine wpAny_truthy_bool ?_
 cases k with
 | false=>
  obtain ⟨k',e',q'⟩:=q3;cases e';exact ite_ff ⟨H3,I3,q'⟩
 | true=>
  refine ite_tt (test_last (thn (hc pins s3 σ H3 _ I3 q3) fun w' s4 ⟨z',H4,I4,r4,q4⟩=>thn (ho' pins s4 σ H4 y z' u w' _ I4 r2 r4 q4) fun d' s5 ⟨z2,H5,I5,r5,k2,e2,q5⟩=>?_));subst e2;cases r5;exact wpAny_truthy_bool ⟨H5,I5,q5⟩
noncomputable def TruV (K:PySem.W.Frag) (x:V) (H:Hp) (k:Bool):Prop:=
 match x with
 | .non=>k=false
 | .bl b=>k=b
 | .int i=>k=(i != 0)
 | .str y=>y.length≤sizeLine∧k=((y.length:Int) != 0)
 | .byt y=>y.size≤sizeLine∧k=((y.size:Int) != 0)
 | .ref p=>(∃xs,SqL K H p xs∧k = !xs.isEmpty)∨(∃xs,SqT K H p xs∧k = !xs.isEmpty)∨∃kvs,H p=some (.dK kvs)∧k = !kvs.isEmpty
 | _=>False
theorem isEmpty_kv {κ:Type} {kvs:List (κ×V)} {vs:List (κ×Value)} (r:KV kvs vs):(!vs.isEmpty) = !kvs.isEmpty:=by
 cases r <;> rfl
theorem isEmpty_of {xs:List V} {its:List Value} (r:Vals xs its):(!its.toArray.isEmpty) = !xs.isEmpty:=by
 cases r <;> simp
theorem line63:(sizeLine:Nat) < 2 ^ 63:=by rw [sizeLine_eq];decide
theorem tru_ok:TruR X (fun x H Q=>∃k,TruV X.K x H k∧Q k H):=by
 intro pins s σ H x v Q I rx h;obtain ⟨k,e,q⟩:=h;have hl:=line63;have hs:sizeLine=16777216:=sizeLine_eq
 cases x with
 | non=>
  cases rx;have e':k=false:=e;subst e';exact truthy_none ⟨H,I,q⟩
 | bl b=>
  cases rx;have e':k=b:=e;subst e';exact wpAny_truthy_bool ⟨H,I,q⟩
 | int i=>
  obtain ⟨t,rfl⟩:=rx;have e':k=(i != 0):=e;subst e';exact PySem.P.truthy_int ⟨H,I,q⟩
 | str y=>
  obtain ⟨t,rfl⟩:=rx;obtain ⟨hy,e'⟩:y.length≤sizeLine∧k=((y.length:Int) != 0):=e;subst e';exact PySem.P.truthy_str (by omega) ⟨H,I.tok _,q⟩
 | byt y=>
  obtain ⟨t,rfl⟩:=rx;obtain ⟨hy,e'⟩:y.size≤sizeLine∧k=((y.size:Int) != 0):=e;subst e';exact PySem.W.truthy_bytes (by omega) ⟨H,I.tok _,q⟩
 | ref p=>
  cases rx
  have e':(∃xs,SqL X.K H p xs∧k = !xs.isEmpty)∨(∃xs,SqT X.K H p xs∧k = !xs.isEmpty)∨∃kvs,H p=some (.dK kvs)∧k = !kvs.isEmpty:=e
  rcases e' with ⟨xs,hx,e'⟩ | ⟨xs,hx,e'⟩ | ⟨kvs,hx,e'⟩
  ·subst e'
   obtain ⟨its,r,pl,hz⟩:=I.list hx;have hlen:=r.length;exact wpAny_truthy_list pl.isList (by simp only [List.size_toArray];omega) ⟨H,I.tok _,by rw [isEmpty_of r];exact q⟩
  ·subst e'
   obtain ⟨its,r,pl,hz⟩:=I.tuple hx;have hlen:=r.length;exact truthy_tuple pl (by simp only [List.size_toArray];omega) ⟨H,I.tok _,by rw [isEmpty_of r];exact q⟩
  ·subst e'
   obtain ⟨hz,hS,vs,r,m⟩:kvs.length≤sizeLine∧(p==sysModules)=false∧∃vs,KV kvs vs∧s.heap.DictOf (mixKind X.prog X.w) p vs:=I.hok p _ hx
   have hlen:kvs.length=vs.length:=Paired.length r;exact wpAny_truthy_dict hS m (by omega) ⟨H,I.tok _,by rw [isEmpty_kv r];exact q⟩
 | _=>exact (show False from e).elim
theorem pt_truth (ha:PE X a ta) (he:∀whole,isTrue a X.env whole=(do let v ←whole;standAt a.pos;holding [v] (truthy v))) :
  PT X a (fun σ H Q=>ta σ H fun x H'=>∃k,TruV X.K x H' k∧Q k H'):=by
 intro pins s σ H Q I h;exact isTrue_plain (thn (ha pins s σ H _ I h) fun v s1 ⟨x,H1,I1,r1,q1⟩=>tru_ok pins s1 σ H1 x v Q I1 r1 q1) (he _)
theorem vals1 {x:V} {us:List Value} (r:Vals [x] us):∃u,us=[u]∧RelV x u:=by
 cases r with
 | cons r1 r2=>cases r2;exact ⟨_,rfl,r1⟩
theorem vals2 {x y:V} {us:List Value} (r:Vals [x,y] us):∃u w',us=[u,w']∧RelV x u∧RelV y w':=by
 cases r with
 | cons r1 r2=>
  cases r2 with
  | cons r3 r4=>cases r4;exact ⟨_,_,rfl,r1,r3⟩
theorem call_max2 (hc:X.calm=true):CallR X (.builtin "max") (fun xs H Q=>∃i j,xs=[.int i,.int j]∧Q (.int (if j > i then j else i)) H):=by
 intro pins s σ H xs us Q I r h;obtain ⟨i,j,rfl,q⟩:=h;obtain ⟨u,w',rfl,⟨t,rfl⟩,⟨t',rfl⟩⟩:=vals2 r
 refine max_two_ints (I.ok.hd hc) fun h' tk k=>⟨_,H,I.kept k,?_,q⟩
 by_cases hj:j > i
 ·rw [if_pos hj,if_pos hj];exact ⟨_,rfl⟩
 ·rw [if_neg hj,if_neg hj];exact ⟨_,rfl⟩
theorem call_min2 (hc:X.calm=true):CallR X (.builtin "min") (fun xs H Q=>∃i j,xs=[.int i,.int j]∧Q (.int (if j < i then j else i)) H):=by
 intro pins s σ H xs us Q I r h;obtain ⟨i,j,rfl,q⟩:=h;obtain ⟨u,w',rfl,⟨t,rfl⟩,⟨t',rfl⟩⟩:=vals2 r
 refine min_two_ints (I.ok.hd hc) fun h' tk k=>⟨_,H,I.kept k,?_,q⟩
 by_cases hj:j < i
 ·rw [if_pos hj,if_pos hj];exact ⟨_,rfl⟩
 ·rw [if_neg hj,if_neg hj];exact ⟨_,rfl⟩
theorem call_int1:CallR X (.type "int") (fun xs H Q=>(∃i,xs=[.int i]∧Q (.int i) H)∨∃k,xs=[.bl k]∧Q (.int (if k then 1 else 0)) H):=by
 intro pins s σ H xs us Q I r h
 rcases h with ⟨i,rfl,q⟩ | ⟨k,rfl,q⟩
 ·obtain ⟨u,rfl,t,rfl⟩:=vals1 r
  exact call_int_int ⟨.int i,H,I,⟨_,rfl⟩,q⟩
 ·obtain ⟨u,rfl,r1⟩:=vals1 r
  cases r1;exact call_int_bool ⟨.int (if k then 1 else 0),H,I.tok _,⟨_,rfl⟩,q⟩
end
end L2
namespace L2
open PySem PySem.Spec PyProof.Rows
structure ObjM (h:Heap) (x dx C:Addr) (mA:Str→Option Value):Prop where
 obj:h.get? x=some (PySem.W.instObj C dx)
 ns:h.Ns1 dx mA
 ne:dx≠x
theorem lookIn_ns {h:Heap} {dx:Addr} {mA:Str→Option Value} (n:h.Ns1 dx mA):∃od,h.get? dx=some od∧∀name,PySem.W.lookIn name od=some (mA name):=by
 obtain ⟨o,es,ep,ho,hd,hk,_,hm⟩:=n;refine ⟨o,ho,fun name=>?_⟩;have e:=hm name;unfold nsFind findBy at e;rw [←Array.find?_toList] at e;unfold PySem.W.lookIn;rw [hd];dsimp only;split
 ·rename_i y q
  rw [q] at e;exact congrArg some e
 ·rename_i q
  rw [q] at e
  have a:es.toList.any (·.refKey)=false:=by
   rw [List.any_eq_false];intro y hy;obtain ⟨z,t,hkey⟩:=hk y (Array.mem_toList_iff.mp hy);simp [DictEntry.refKey,hkey]
  have a':¬es.toList.any (·.refKey)=true:=by rw [a];exact Bool.false_ne_true
  rw [if_neg a'];exact congrArg some e
theorem ObjM.look {h:Heap} {x dx C:Addr} {mA:Str→Option Value} (I:ObjM h x dx C mA):∃od,PySem.W.InstAt h x (PySem.W.instObj C dx) C (some od)∧∀name,PySem.W.lookIn name od=some (mA name):=
 let ⟨od,ho,hl⟩:=lookIn_ns I.ns
 ⟨od,⟨I.obj,rfl,rfl,ho⟩,hl⟩
section
variable {prog:Program} {w:World} {A:Around} {E:Value→Shared→Prop} {s:Shared} {K:PySem.W.Frag} {x dx C f:Addr} {mA:Str→Option Value} {name:Str} {v:Value}
theorem get_map {expr:Bool} {Q:Value→Shared→Prop} (X:K.In s.heap) (I:ObjM s.heap x dx C mA) (hg:PySem.W.plainGet K C name=true) (hh:PySem.W.hasDictIn K C=true)
  (ha:PySem.W.findIn K (.ref C) name=some none) (hv:mA name=some v) (hv':PySem.W.handedIn v=true) (h:Q v { s with toks:=s.toks+1 }) :
  wpAny (model prog w) A (getAttr (.ref x) name expr) Q E s:=by
 obtain ⟨od,J,hl⟩:=I.look;exact PySem.W.get_value X J (PySem.W.plainGet_of hg).1 (PySem.W.findObj_own hh ha rfl (by rw [hl,hv])) hv' h
theorem set_map {ns:List Str} {Q:Unit→Shared→Prop} (X:K.In s.heap) (I:ObjM s.heap x dx C mA)
  (hs:PySem.W.findIn K (.ref C) "__setattr__" = some (some (.builtin "object.__setattr__"))) (hp:PySem.W.plainOver K C=true) (ht:PySem.W.takerIn K C name=some none) (hh:PySem.W.hasDictIn K C=true)
  (hw:PySem.Within mA ns) (hsz:ns.length≤sizeLine)
  (h:∀h',ObjM h' x dx C (fun y=>if y=name then some v else mA y)→Heap.SameBut dx s.heap h'→Q () { s with heap:=h',toks:=s.toks+2 }) :
  wpAny (model prog w) A (setAttr (.ref x) name v) Q E s:=by
 obtain ⟨od,J,hl⟩:=I.look;refine PySem.W.set_plain X J hs (PySem.W.osa_open (s:={ s with toks:=s.toks+1 }) (r:=none) X J hp ht fun b=>?_);obtain ⟨cd,hc,hd'⟩:=PySem.W.any_some hh;have hx:s.heap.get? x=some ⟨.ref C,some dx,.plain,#[]⟩:=I.obj;refine wpAny_bind (wpAny_pure (wpAny_bind (wpAny_bind (wpAny_loadPart hx (wpAny_bind (PySem.W.Looks.here (s:={ s with toks:=s.toks+1 }) (PySem.W.looks_clsIn X hc) ?_))))));rw [hd'];refine wpAny_pure (a:=some dx) (wpAny_bind (wpAny_pure (wpAny_bind ?_)))
 refine wpAny_nsSet1 (s:={ s with toks:=s.toks+1 }) I.ns fun h' hn2 hs2=>?_
 obtain ⟨oD,esD,epD,hoD,hdD,hcD⟩:=hn2.count (PySem.Within.cons name v hw);refine wpAny_bind (wpAny_lookBehind hoD (by rw [hdD];exact pastItsLine_dict (Nat.le_trans hcD (by rw [List.length_cons];omega))) ?_);exact wpAny_pure (h _ ⟨(hs2.2 _ (Ne.symm I.ne)).trans I.obj,hn2,I.ne⟩ hs2)
theorem make_map {R:Result→Shared→Prop} {vs:List Value} {kw:List (Str×Value)} (X:K.In s.heap) (hm:PySem.W.makesIn K C=true)
  (hi:PySem.W.findIn K (.ref C) "__init__" = some (some (.ref f))) (hf:PySem.W.typeIn K (.ref f)=some (.type "function"))
  (h:codeAny (model prog w) (A.under (.builtin "type.__call__" ⟨.ref C :: vs,kw⟩)) (.call (.ref f) ⟨.ref (s.heap.objs.size+1) :: vs,kw⟩) (PySem.W.InitBack (s.heap.objs.size+1) R)
   { s with heap:=(s.heap.push PySem.W.emptyDict).push (PySem.W.instObj C s.heap.objs.size) }) :
  codeAny (model prog w) A (.call (.ref C) ⟨vs,kw⟩) R s:=by
 obtain ⟨hh,g,d,t,os⟩:=s;exact PySem.W.make_core (PySem.W.makes_of X hm) (PySem.W.looks_findIn X hi) (fun self=>PySem.W.bind_fn X self hf) (.inl rfl) h
end
noncomputable def putF (f:Str) (v:V):List (Str×V)→List (Str×V)
 | []=>[(f,v)]
 | (g,x) :: r=>if g=f then (g,v) :: r else (g,x) :: putF f v r
theorem lookup_putF (f g:Str) (v:V):∀fs:List (Str×V),(putF f v fs).lookup g=if g=f then some v else fs.lookup g
 | []=>by
  show List.lookup g [(f,v)]=_
  by_cases h:g=f
  ·have hb:(g==f)=true:=beq_iff_eq.mpr h
   simp only [List.lookup,hb,if_pos h]
  ·have hb:(g==f)=false:=beq_eq_false_iff_ne.mpr h
   simp only [List.lookup,hb,if_neg h]
 | (k,x) :: r=>by
  have ih:=lookup_putF f g v r;rw [show putF f v ((k,x) :: r)=(if k=f then (k,v) :: r else (k,x) :: putF f v r) from rfl]
  by_cases hk:k=f
  ·rw [if_pos hk]
   by_cases h:g=k
   ·have hb:(g==k)=true:=beq_iff_eq.mpr h
    simp only [List.lookup,hb,if_pos (h.trans hk)]
   ·have hb:(g==k)=false:=beq_eq_false_iff_ne.mpr h
    simp only [List.lookup,hb,if_neg (fun e:g=f=>h (e.trans hk.symm))]
  ·rw [if_neg hk]
   by_cases h:g=k
   ·have hb:(g==k)=true:=beq_iff_eq.mpr h
    simp only [List.lookup,hb,if_neg (fun e:g=f=>hk (h.symm.trans e))]
   ·have hb:(g==k)=false:=beq_eq_false_iff_ne.mpr h
    simp only [List.lookup,hb];exact ih
theorem keys_putF (f:Str) (v:V):∀fs:List (Str×V),f∈(putF f v fs).map (·.1)∧∀g,g∈fs.map (·.1)→g∈(putF f v fs).map (·.1)
 | []=>⟨by simp [putF],fun g h=>by simp at h⟩
 | (k,x) :: r=>by
  obtain ⟨i1,i2⟩:=keys_putF f v r;rw [show putF f v ((k,x) :: r)=(if k=f then (k,v) :: r else (k,x) :: putF f v r) from rfl]
  by_cases hk:k=f
  ·rw [if_pos hk]
   subst hk;exact ⟨by simp,fun g h=>by simpa using h⟩
  ·rw [if_neg hk]
   refine ⟨?_,fun g h=>?_⟩
   ·rw [List.map_cons]
    exact List.mem_cons_of_mem _ i1
   ·rw [List.map_cons] at h ⊢
    rcases List.mem_cons.mp h with e | e
    ·exact List.mem_cons.mpr (.inl e)
    ·exact List.mem_cons_of_mem _ (i2 g e)
theorem length_putF (f:Str) (v:V):∀fs:List (Str×V),(putF f v fs).length≤fs.length+1
 | []=>by simp [putF]
 | (k,x) :: r=>by
  have ih:=length_putF f v r;rw [show putF f v ((k,x) :: r)=(if k=f then (k,v) :: r else (k,x) :: putF f v r) from rfl]
  by_cases hk:k=f
  ·rw [if_pos hk,List.length_cons,List.length_cons];omega
  ·rw [if_neg hk,List.length_cons,List.length_cons];omega
theorem RelO.some_of {v:V} {o:Option Value} (r:RelO (some v) o):∃u,o=some u∧RelV v u:=by
 cases o with
 | none=>exact (show False from r).elim
 | some u=>exact ⟨u,rfl,r⟩
theorem handed_of {v:V} {u:Value} (r:RelV v u):PySem.W.handedIn u=true:=by
 cases v with
 | non=>cases (show u=Value.none from r);rfl
 | bl b=>cases (show u=Value.bool b from r);rfl
 | int i=>obtain ⟨t,e⟩:=(show ∃t,u=Value.int i t from r);cases e;rfl
 | str x=>obtain ⟨t,e⟩:=(show ∃t,u=Value.str x t from r);cases e;rfl
 | byt b=>obtain ⟨t,e⟩:=(show ∃t,u=Value.bytes b t from r);cases e;rfl
 | flt b=>obtain ⟨t,e⟩:=(show ∃t,u=Value.float b t from r);cases e;rfl
 | ref a=>cases (show u=Value.ref a from r);rfl
 | ty n=>cases (show u=Value.type n from r);rfl
section
variable {P:Program} {w:World} {H H':Hp} {h h':Heap} {a C dx:Addr} {fs fs':List (Str×V)}
theorem ins_get (hok:HOk P w H h) (e:H a=some (.ins C dx fs)):∃mA,ObjM h a dx C mA∧(∀f,RelO (fs.lookup f) (mA f))∧PySem.Within mA (fs.map (·.1))∧fs.length≤1000∧H dx=some (.own a):=by
 obtain ⟨d,z,ne,ob,mA,n,r,q⟩:=(show ObjOk P w H h a (.ins C dx fs) from hok a _ e);exact ⟨mA,⟨ob,n,ne⟩,r,q,z,d⟩
end
structure Cls (K:PySem.W.Frag) (C:Addr):Prop where
 pg:PySem.W.plainGet K C Str.empty=true
 hd:PySem.W.hasDictIn K C=true
 po:PySem.W.plainOver K C=true
 sa:PySem.W.findIn K (.ref C) "__setattr__" = some (some (.builtin "object.__setattr__"))
theorem Cls.get {K:PySem.W.Frag} {C:Addr} (c:Cls K C) (f:Str):PySem.W.plainGet K C f=true:=c.pg
noncomputable def NoAttr (K:PySem.W.Frag) (C:Addr) (f:Str):Prop:=PySem.W.findIn K (.ref C) f=some none
theorem NoAttr.taker {K:PySem.W.Frag} {C:Addr} {f:Str} (n:NoAttr K C f):PySem.W.takerIn K C f=some none:=by
 unfold PySem.W.takerIn;rw [show PySem.W.findIn K (.ref C) f=some none from n];rfl
section
variable {X:Cx} {pins:List (Addr×Obj)} {σ:St} {H:Hp} {s:Shared} {a C dx:Addr} {fs:List (Str×V)} {f:Str} {v:V} {A:Around} {E:Value→Shared→Prop}
theorem getattr_ok {b:Bool} {Q:Value→Shared→Prop} (I:Inv X pins σ H s) (e:H a=some (.ins C dx fs)) (c:Cls X.K C) (n:NoAttr X.K C f) (l:fs.lookup f=some v)
  (h:∀u s',Inv X pins σ H s'→RelV v u→Q u s'):wpAny (model X.prog X.w) A (getAttr (.ref a) f b) Q E s:=by
 obtain ⟨mA,O,r,_,_,_⟩:=ins_get I.hok e;obtain ⟨u,hu,ru⟩:=RelO.some_of (v:=v) (o:=mA f) (by rw [←l];exact r f);exact get_map I.kIn O (c.get f) c.hd n hu (handed_of ru) (h u _ (I.tok _) ru)
theorem setattr_ok {y:V} {u:Value} {Q:Unit→Shared→Prop} (I:Inv X pins σ H s) (e:H a=some (.ins C dx fs)) (c:Cls X.K C) (n:NoAttr X.K C f) (hl:fs.length < 1000) (ry:RelV y u)
  (h:∀s',Inv X pins σ (upd H a (.ins C dx (putF f y fs))) s'→Q () s'):wpAny (model X.prog X.w) A (setAttr (.ref a) f u) Q E s:=by
 obtain ⟨mA,O,r,wi,_,ho⟩:=ins_get I.hok e
 have hz:(fs.map (·.1)).length≤sizeLine:=by rw [List.length_map,sizeLine_eq];omega
 refine set_map I.kIn O c.sa c.po n.taker c.hd wi hz fun h' O' sb=>h _ ?_
 have hd:∃o,h'.get? dx=some o:=let ⟨o,_,_,e',_⟩:=O'.ns;⟨o,e'⟩
 refine I.write (x:=a) (e:=dx) (by rw [e];exact True.intro) (.inr ho) (fun b q hb z=>(sb.2 b hb).trans z) hd ?_;refine ⟨by rw [upd_ne O.ne];exact ho,?_,O.ne,O'.obj,_,O'.ns,fun g=>?_,fun g hg=>?_⟩
 ·have:=length_putF f y fs;omega
 ·show RelO ((putF f y fs).lookup g) (if g=f then some u else mA g)
  rw [lookup_putF]
  by_cases q:g=f
  ·rw [if_pos q,if_pos q];exact ry
  ·rw [if_neg q,if_neg q];exact r g
 ·by_cases q:g=f
  ·rw [q];exact (keys_putF f y fs).1
  ·refine (keys_putF f y fs).2 g (wi g fun z=>hg ?_)
   show (if g=f then some u else mA g)=none;rw [if_neg q];exact z
theorem Inv.made (I:Inv X pins σ H s):Inv X pins σ (upd (upd H s.heap.objs.size (.own (s.heap.objs.size+1))) (s.heap.objs.size+1) (.ins C s.heap.objs.size []))
  { s with heap:=(s.heap.push PySem.W.emptyDict).push (PySem.W.instObj C s.heap.objs.size) }:=by
 have e1:(s.heap.push PySem.W.emptyDict).get? s.heap.objs.size=some PySem.W.emptyDict:=Heap.get?_push_size s.heap rfl
 have e2:((s.heap.push PySem.W.emptyDict).push (PySem.W.instObj C s.heap.objs.size)).get? (s.heap.objs.size+1)=some (PySem.W.instObj C s.heap.objs.size):=by
  have:=Heap.get?_push_size (s.heap.push PySem.W.emptyDict) (o:=PySem.W.instObj C s.heap.objs.size) rfl;rwa [Heap.size_push] at this
 have e3:(s.heap.push PySem.W.emptyDict).Ns s.heap.objs.size (fun _=>none):=⟨PySem.W.emptyDict,#[],_,e1,rfl,(fun e he=>absurd he (by simp)),fun _=>rfl⟩;have I1:=I.laid (a:=s.heap.objs.size) (o:=.own (s.heap.objs.size+1)) (h':=s.heap.push PySem.W.emptyDict) (t':=s.toks) (fun b u q=>Heap.get?_push_of_some _ q) (Nat.le_refl _) ⟨_,e1⟩;refine I1.laid (a:=s.heap.objs.size+1) (o:=.ins C s.heap.objs.size []) (t':=s.toks) (fun b u q=>Heap.get?_push_of_some _ q) (Nat.le_of_eq (Heap.size_push _ _)) ?_;have ne:s.heap.objs.size≠s.heap.objs.size+1:=Nat.ne_of_lt (Nat.lt_succ_self _);refine ⟨by rw [upd_ne ne,upd_same],Nat.zero_le _,ne,e2,fun _=>none,(Heap.Ns1.of_empty e3).at fun o q=>Heap.get?_push_of_some _ q,fun _=>True.intro,fun y hy=>absurd rfl hy⟩
theorem attr_of {prog:Program} {w:World} {env:Env} {e:Expr} {f:Str} {pos:Pos} {s:Shared} {Q:Value→Shared→Prop} (hb:attributeBase e f env (eval e env)=eval e env)
  (h:wpAny (model prog w) A (eval e env) (fun o s₁=>wpAny (model prog w) A (getAttr o f true) Q E s₁) E s):wpAny (model prog w) A (eval (.Attribute e f pos) env) Q E s:=
 Attribute_any_ h (by rw [arm_eval_Attribute,hb])
end
noncomputable def tFld (K:PySem.W.Frag) (ta:TE) (f:Str):TE:=fun σ H Q=>ta σ H fun x H1=>∃a C dx fs v,x=.ref a∧H1 a=some (.ins C dx fs)∧Cls K C∧NoAttr K C f∧fs.lookup f=some v∧Q v H1
noncomputable def sFld (K:PySem.W.Frag) (ta tv:TE) (f:Str):TS:=fun D σ H=>tv σ H fun y H1=>ta σ H1 fun x H2=>∃a C dx fs,x=.ref a∧H2 a=some (.ins C dx fs)∧Cls K C∧NoAttr K C f∧fs.length < 1000 ∧
 D.nx σ (upd H2 a (.ins C dx (putF f y fs)))
section
variable {X:Cx} {o e value:Expr} {f:Str} {pos pos' tpos:Pos} {ta tv:TE}
theorem pe_fld (he:PE X e ta) (hb:attributeBase e f X.env (eval e X.env)=eval e X.env):PE X (.Attribute e f pos) (tFld X.K ta f):=by
 intro pins s σ H Q I h;refine attr_of hb (thn (he pins s σ H _ I h) fun u s1 ⟨x,H1,I1,rx,a,C,dx,fs,v,ex,ea,c,n,l,q⟩=>?_);subst ex;obtain rfl:u=Value.ref a:=rx
 exact getattr_ok I1 ea c n l fun u' s2 I2 ru=>⟨v,H1,I2,ru,q⟩
theorem ps_fld (ha:PE X o ta) (hv:PE X value tv) (hs:swapsWith value (some (.Attribute o f pos')) pos.line X.env=pure false):PS X (.Assign [.Attribute o f pos'] value pos) (sFld X.K ta tv f):=by
 intro pins s σ H D I h;refine plainObj_wpAny_Assign_Attribute (thn (hv pins s σ H _ I h) fun u s1 ⟨y,H1,I1,ry,q⟩=>thn (ha pins s1 σ H1 _ I1 q) fun ov s2 ⟨x,H2,I2,rx,a,C,dx,fs,ex,ea,c,n,l,q2⟩=>?_) hs;subst ex;obtain rfl:ov=Value.ref a:=rx
 exact setattr_ok I2 ea c n l ry fun s3 I3=>⟨σ,_,I3,q2⟩
end
section
variable {X:Cx} {pins:List (Addr×Obj)} {σ:St} {H:Hp} {s:Shared} {A:Around} {E:Value→Shared→Prop} {Q:Value→Shared→Prop} {c:Value} {b:Bool}
inductive TyOf (K:PySem.W.Frag) (H:Hp):V→Value→Prop where
 | non:TyOf K H .non (.type "NoneType")
 | bl (x:Bool):TyOf K H (.bl x) (.type "bool")
 | int (i:Int):TyOf K H (.int i) (.type "int")
 | str (x:Str):TyOf K H (.str x) (.type "str")
 | flt (x:UInt64):TyOf K H (.flt x) (.type "float")
 | lst {a:Addr} {xs:List V} (e:H a=some (.lst xs)):TyOf K H (.ref a) (.type "list")
 | frz {a:Addr} {o:Obj} {xs:List V} (e:H a=some (.frz o (.lst xs))):TyOf K H (.ref a) (.type "list")
 | tup {a:Addr} {xs:List V} (e:H a=some (.tup xs)):TyOf K H (.ref a) (.type "tuple")
 | dK {a:Addr} {kvs:List (Key×V)} (e:H a=some (.dK kvs)):TyOf K H (.ref a) (.type "dict")
 | dT {a:Addr} {kvs:List (List Key×V)} (e:H a=some (.dT kvs)):TyOf K H (.ref a) (.type "dict")
 | ins {a C dx:Addr} {fs:List (Str×V)} (e:H a=some (.ins C dx fs)) (cl:Cls K C) (ha:PySem.W.findIn K (.ref C) "__class__" = some (some (.builtin "object.__class__")))
   (hn:PySem.W.specialIn K (.builtin "object.__class__") "__get__" = some (some (.builtin "getset_descriptor.__get__"))) (htk:PySem.W.takesIn K (.builtin "object.__class__")=some true)
   (hm:PySem.W.mroIn K C (.type "object")=some true):TyOf K H (.ref a) (.ref C)
theorem isinst_ok {x:V} {u t:Value} (I:Inv X pins σ H s) (rx:RelV x u) (ty:TyOf X.K H x t) (e:PySem.W.kitOne X.K t c=some b) (h:∀tk,Q (.bool b) { s with toks:=tk }) :
  wpAny (model X.prog X.w) A (call (.builtin "isinstance") [u,c]) Q E s:=by
 cases ty with
 | non=>cases (show u=Value.none from rx);exact PySem.W.kia_one PySem.W.kitx_none I.kIn True.intro e (fun z=>nomatch z) h
 | bl y=>cases (show u=Value.bool y from rx);exact PySem.W.kia_one PySem.W.kitx_bool I.kIn True.intro e (fun z=>nomatch z) h
 | int i=>obtain ⟨t,q⟩:=(show ∃t,u=Value.int i t from rx);cases q;exact PySem.W.kia_one PySem.W.kitx_int I.kIn True.intro e (fun z=>nomatch z) h
 | str y=>obtain ⟨t,q⟩:=(show ∃t,u=Value.str y t from rx);cases q;exact PySem.W.kia_one PySem.W.kitx_str I.kIn True.intro e (fun z=>nomatch z) h
 | flt y=>obtain ⟨t,q⟩:=(show ∃t,u=Value.float y t from rx);cases q;exact PySem.W.kia_one PySem.W.kitx_float I.kIn True.intro e (fun z=>nomatch z) h
 | @lst a xs ea=>
  cases (show u=Value.ref a from rx);obtain ⟨_,_,n,_,h1⟩:=(show ObjOk X.prog X.w H s.heap a (.lst xs) from I.hok a _ ea);exact PySem.W.kia_one PySem.W.kitx_list I.kIn ⟨_,h1,rfl⟩ e (fun z=>nomatch z) h
 | @frz a ob xs ea=>
  cases (show u=Value.ref a from rx);obtain ⟨_,_,_,n,_,h1⟩:=(show ObjOk X.prog X.w H s.heap a (.frz ob (.lst xs)) from I.hok a _ ea);exact PySem.W.kia_one PySem.W.kitx_list I.kIn ⟨_,h1,rfl⟩ e (fun z=>nomatch z) h
 | @tup a xs ea=>
  cases (show u=Value.ref a from rx);obtain ⟨_,_,_,p⟩:=(show ObjOk X.prog X.w H s.heap a (.tup xs) from I.hok a _ ea);obtain ⟨o,h1,h2,_⟩:=p;exact PySem.W.kia_one PySem.W.kitx_tuple I.kIn ⟨o,h1,h2⟩ e (fun z=>nomatch z) h
 | @dK a kvs ea=>
  cases (show u=Value.ref a from rx);obtain ⟨_,_,vs,_,p⟩:=(show ObjOk X.prog X.w H s.heap a (.dK kvs) from I.hok a _ ea);obtain ⟨o,es,ep,h1,h2,_⟩:=p;exact PySem.W.kia_one PySem.W.kitx_dict I.kIn ⟨o,h1,h2.1⟩ e (fun z=>nomatch z) h
 | @dT a kvs ea=>
  cases (show u=Value.ref a from rx);obtain ⟨_,_,xs,_,o,es,ep,h1,h2,_⟩:=(show ObjOk X.prog X.w H s.heap a (.dT kvs) from I.hok a _ ea);exact PySem.W.kia_one PySem.W.kitx_dict I.kIn ⟨o,h1,h2.1⟩ e (fun z=>nomatch z) h
 | @ins a C dx fs ea cl ha hn htk hm=>
  cases (show u=Value.ref a from rx);obtain ⟨mA,O,_⟩:=ins_get I.hok ea;obtain ⟨od,J,_⟩:=O.look;exact PySem.W.kia_one (PySem.W.kitx_own (cl.get _) cl.hd ha hn htk hm) I.kIn J e (fun z=>nomatch z) h
end
end L2
namespace L2
open PySem PySem.Spec PyProof.Rows
structure Room (k:Nat) (A:Around):Prop where
 hd:A.handled=none
 dp:A.depth+3 * k+5 < recursionLimit
 un:A.units+16 * k+200 < cLine
theorem Room.mono {j k:Nat} {A:Around} (r:Room k A) (h:j≤k):Room j A:=⟨r.hd,by have:=r.dp;omega,by have:=r.un;omega⟩
theorem Room.deeper {k:Nat} {A:Around} (r:Room (k+1) A) (env:Env):Room k (A.deeper env):=
 ⟨r.hd,by have:=r.dp;show A.depth+1+3 * k+5 < _;omega,by have:=r.un;show A.units+3+16 * k+200 < _;omega⟩
theorem make_depth {A:Around} {C:Addr} {us:List Value} {kw:List (Str×Value)}:(A.under (.builtin "type.__call__" ⟨.ref C :: us,kw⟩)).depth=A.depth+1:=by
 first | rfl | simp [Around.under,Code.weight,Code.isCreation,Code.isGuard,Code.isCaller,Code.frames,Code.isFrame,guardIds]
theorem make_units {A:Around} {C:Addr} {us:List Value} {kw:List (Str×Value)}:(A.under (.builtin "type.__call__" ⟨.ref C :: us,kw⟩)).units=A.units+1:=by
 first | rfl | simp [Around.under,Code.cUnits,Code.frames,Code.isFrame]
theorem Room.make {k:Nat} {A:Around} (r:Room (k+1) A) (C:Addr) (us:List Value) (kw:List (Str×Value)):Room k (A.under (.builtin "type.__call__" ⟨.ref C :: us,kw⟩)):=
 ⟨r.hd,by have:=r.dp;rw [make_depth];omega,by have:=r.un;rw [make_units];omega⟩
theorem Room.depth {k:Nat} {A:Around} (r:Room k A):A.depth < recursionLimit:=by have:=r.dp;omega
theorem Room.units {k:Nat} {A:Around} (r:Room k A):A.units+64 < cLine:=by have:=r.un;omega
noncomputable def tNil:TA:=fun _ H Q=>Q [] H
noncomputable def tCons (ta:TE) (tr:TA):TA:=fun σ H Q=>ta σ H fun x H1=>tr σ H1 fun xs H2=>Q (x :: xs) H2
section
variable {X:Cx} {e:Expr} {es:List Expr} {te:TE} {t:TA} {pos:Pos}
theorem pa_nil:PA X [] tNil:=fun _ _ _ _ H Q I h=>Calls.spliced_nil ⟨[],H,I,.nil,h⟩
theorem pa_cons (ha:PE X e te) (hr:PA X es t) (hs:starEach (e :: es) X.env=(false,eval e X.env) :: starEach es X.env:=by rfl):PA X (e :: es) (tCons te t):=by
 intro pos pins s σ H Q I h;rw [hs];show wpAny _ _ (spliced ((false,eval e X.env) :: backTo pos (starEach es X.env))) _ _ s;refine Calls.spliced_cons (thn (ha pins s σ H _ I h) fun u s1 ⟨x,H1,I1,r1,q1⟩=>?_)
 exact thn (hr pos pins s1 σ H1 _ I1 q1) fun us s2 ⟨xs,H2,I2,r2,q2⟩=>⟨x :: xs,H2,I2,.cons r1 r2,q2⟩
noncomputable def tTup (t:TA):TE:=fun σ H Q=>t σ H fun xs H1=>xs.length≤sizeLine∧∀p,H1 p=none→Q (.ref p) (upd H1 p (.tup xs))
noncomputable def tLst (t:TA):TE:=fun σ H Q=>t σ H fun xs H1=>xs.length≤sizeLine∧∀p,H1 p=none→Q (.ref p) (upd H1 p (.lst xs))
theorem pe_tup {x1} (h:PA X es t):PE X (.Tuple es x1 pos) (tTup t):=by
 intro pins s σ H Q I hq;refine wpAny_Tuple_spliced (thn (h pos pins s σ H _ I hq) fun us s1 ⟨xs,H1,I1,r,z,q⟩=>⟨by rw [←r.length];exact z,?_⟩);have hf:H1 s1.heap.objs.size=none:=I1.hok.fresh (Nat.le_refl _);refine ⟨.ref s1.heap.objs.size,upd H1 s1.heap.objs.size (.tup xs),I1.laid (t':=s1.toks) (fun b u e=>Heap.get?_push_of_some _ e) (Nat.le_refl _) ?_,rfl,q _ hf⟩;exact ⟨z,us,r,⟨_,Heap.get?_push_size _ rfl,rfl,_,rfl⟩⟩
theorem pe_lst (h:PA X es t):PE X (.List es pos) (tLst t):=by
 intro pins s σ H Q I hq;refine wpAny_List_spliced (thn (h pos pins s σ H _ I hq) fun us s1 ⟨xs,H1,I1,r,z,q⟩=>⟨by rw [←r.length];exact z,?_⟩);have hf:H1 s1.heap.objs.size=none:=I1.hok.fresh (Nat.le_refl _);refine ⟨.ref s1.heap.objs.size,upd H1 s1.heap.objs.size (.lst xs),I1.laid (t':=s1.toks) (fun b u e=>Heap.get?_push_of_some _ e) (Nat.le_refl _) ?_,rfl,q _ hf⟩;exact ⟨z,us,0,r,Heap.get?_push_size _ rfl⟩
end
noncomputable abbrev Sp:=List V→Hp→VK→XK→Prop
noncomputable abbrev CXT:=List Env→Hp→Shared→XK→Value→Shared→Prop
structure Env0 (P:Program) (w:World) (K:PySem.W.Frag) (mg:Str→Option Value) (base:Heap) (A:Around) (outer:List Env) (s:Shared) (H:Hp):Prop where
 frames:A.frames=some outer
 mod:Mod K mg base
 bs:∀b o,base.get? b=some o→s.heap.get? b=some o∧H b=none
 bsz:base.objs.size≤s.heap.objs.size
 funs:s.heap.FunFrames base outer
 frf:∀b∈frs outer,H b=none
 hok:HOk P w H s.heap
 bare:AllBare s.gens
noncomputable def CE (outer:List Env) (P:Program) (w:World) (H:Hp) (s:Shared) (Q:VK) (u:Value) (s':Shared):Prop:=
 ∃v H',s'.os=s.os∧AllBare s'.gens∧Un (frs outer) [] H H' s.heap s'.heap∧HOk P w H' s'.heap∧RelV v u∧Q v H'
noncomputable def CR (CX:CXT) (outer:List Env) (P:Program) (w:World) (H:Hp) (s:Shared) (Q:VK) (E:XK) (r:Result) (s':Shared):Prop:=
 match r with
 | .ok (.ret u)=>CE outer P w H s Q u s'
 | .ok _=>False
 | .error e=>CX outer H s E e s'
structure FnOk (P:Program) (w:World) (K:PySem.W.Frag) (mg:Str→Option Value) (base:Heap) (CX:CXT) (k:Nat) (f:Addr) (fd:FuncData) (ps:List Str) (sp:Sp):Prop where
 len:∀vs H Q E,sp vs H Q E→vs.length=ps.length
 run:∀(A:Around) (outer:List Env) (s:Shared) (H:Hp) (args:Args) (us:List Value) (vs:List V) (Q:VK) (E:XK),Room k A→Env0 P w K mg base A outer s H→BindsTo s fd args (ps.zip us)→Vals vs us→sp vs H Q E →
  codeAny (model P w) A (.call (.ref f) args) (CR CX outer P w H s Q E) s
theorem FnOk.imp {P:Program} {w:World} {K:PySem.W.Frag} {mg:Str→Option Value} {base:Heap} {CX:CXT} {k:Nat} {f:Addr} {fd:FuncData} {ps:List Str} {sp sp':Sp} (F:FnOk P w K mg base CX k f fd ps sp)
  (h:∀vs H Q E,sp' vs H Q E→sp vs H Q E):FnOk P w K mg base CX k f fd ps sp':=
 ⟨fun vs H Q E q=>F.len vs H Q E (h _ _ _ _ q),fun A outer s H args us vs Q E hr he hb hv hs=>F.run A outer s H args us vs Q E hr he hb hv (h _ _ _ _ hs)⟩
theorem Env0.make {P:Program} {w:World} {K:PySem.W.Frag} {mg:Str→Option Value} {base:Heap} {A:Around} {outer:List Env} {s:Shared} {H:Hp} (e:Env0 P w K mg base A outer s H) (C:Addr) (us:List Value) (kw:List (Str×Value)) :
  Env0 P w K mg base (A.under (.builtin "type.__call__" ⟨.ref C :: us,kw⟩)) outer s H:=⟨by first | exact e.frames | (simpa [Around.under,Code.envs,Code.isFrame,pushEnvs] using e.frames),e.mod,e.bs,e.bsz,e.funs,e.frf,e.hok,e.bare⟩
section
variable {X:Cx} {pins:List (Addr×Obj)} {σ:St} {H:Hp} {s s':Shared}
theorem Inv.env0 (I:Inv X pins σ H s):Env0 X.prog X.w X.K X.mg X.base X.A X.stack s H:=
 ⟨I.ok.frames,I.ok.mod,I.bs,Nat.le_trans I.ok.bsz I.sz,I.stack,I.stkFree,I.hok,I.bare⟩
theorem Inv.after {Q:VK} {u:Value} (I:Inv X pins σ H s) (h:CE X.stack X.prog X.w H s Q u s'):EP X pins σ Q u s':=by
 obtain ⟨v,H',os,bare,un,hok,r,q⟩:=h;obtain ⟨hh,g,d,t,os'⟩:=s';obtain rfl:os'=s.os:=os;exact ⟨v,H',I.call (h':=hh) (g':=g) (d':=d) (t':=t) (ch:=[]) un hok bare (fun b z=>absurd z (by simp)),r,q⟩
end
noncomputable def tCall (sp:Sp) (dvs:List V) (E:St→XK) (t:TA):TE:=fun σ H Q=>t σ H fun vs H1=>sp (vs++dvs) H1 Q (E σ)
noncomputable def tMake (C:Addr) (sp:Sp) (dvs:List V) (E:St→XK) (t:TA):TE:=fun σ H Q=>t σ H fun vs H1=>∀x dx,H1 x=none→H1 dx=none→dx≠x →
 sp (.ref x :: (vs++dvs)) (upd (upd H1 dx (.own x)) x (.ins C dx [])) (fun v H2=>v=.non∧Q (.ref x) H2) (E σ)
noncomputable def Binds (K:PySem.W.Frag) (fd:FuncData) (ps:List Str) (ds:List Value):Prop:=
 ∀(s:Shared) (us:List Value),K.In s.heap→(us++ds).length=ps.length→BindsTo s fd ⟨us,[]⟩ (ps.zip (us++ds))
theorem Binds.all {K:PySem.W.Frag} {fd:FuncData} {ps:List Str} (h:∀us:List Value,us.length=ps.length→bindArgs fd ⟨us,[]⟩=pure (ps.zip us)):Binds K fd ps []:=fun s us _ hl=>by
 rw [List.append_nil] at hl ⊢;exact .of_eq (h us hl)
noncomputable def Passes (CX:CXT) (X:Cx) (E:St→XK):Prop:=∀(pins:List (Addr×Obj)) (σ:St) (H:Hp) (s:Shared) (e:Value) (s':Shared),Inv X pins σ H s→CX X.stack H s (E σ) e s'→X.xe e s'
section
variable {X:Cx} {CX:CXT} {k:Nat} {f C:Addr} {fd:FuncData} {ps:List Str} {sp:Sp} {dvs:List V} {ds:List Value} {E:St→XK} {x m:Str} {p pos apos:Pos} {e o:Expr} {es:List Expr} {ta:TE} {t:TA}
theorem run_fn {pins:List (Addr×Obj)} {σ:St} {H:Hp} {s:Shared} {Q:VK} {us:List Value} {vs:List V} (F:FnOk X.prog X.w X.K X.mg X.base CX k f fd ps sp) (hr:Room k X.A) (hb:Binds X.K fd ps ds) (hd:Vals dvs ds) (hx:Passes CX X E)
  (I:Inv X pins σ H s) (r:Vals vs us) (h:sp (vs++dvs) H Q (E σ)):wpAny (model X.prog X.w) X.A (call (.ref f) us) (EP X pins σ Q) X.xe s:=by
 have r2:Vals (vs++dvs) (us++ds):=r.append hd
 have hl:(us++ds).length=ps.length:=by rw [←r2.length];exact F.len _ _ _ _ h
 refine wpAny_call (codeAny_mono (F.run X.A X.stack s H ⟨us,[]⟩ (us++ds) (vs++dvs) Q (E σ) hr I.env0 (hb s us I.kIn hl) r2 h) fun r s' hq=>?_)
 cases r with
 | error e=>exact hx pins σ H s e s' I hq
 | ok fl=>
  cases fl with
  | ret u=>exact I.after hq
  | next=>exact False.elim hq
  | brk=>exact False.elim hq
  | cont=>exact False.elim hq
theorem pe_call (F:FnOk X.prog X.w X.K X.mg X.base CX k f fd ps sp) (hr:Room k X.A) (hg:Gl X x) (hm:X.mg x=some (.ref f)) (hk:PySem.W.keepIn X.K (.ref f)=true) (hb:Binds X.K fd ps ds) (hd:Vals dvs ds) (hx:Passes CX X E)
  (ha:PA X (e :: es) t) (hdb:(x==("__debug__" : Str))=false:=by decide) (he:starEach (e :: es) X.env=(false,eval e X.env) :: starEach es X.env:=by rfl) (hpl:(backTo pos (starEach es X.env)).any (·.1)=false:=by rfl) :
  PE X (.Call (.Name x p) (e :: es) [] pos) (tCall sp dvs E t):=by
 intro pins s σ H Q I h;refine wpAny_Call_Name_kw (ld_glob I hg hm ?_ hdb);refine PySem.W.callWith_K (h₀:=X.base) I.ok.mod.kin hk (thn (ha pos pins s σ H _ I h) fun us s1 ⟨vs,H1,I1,r,q⟩=>⟨I1.kIn,?_⟩) he hpl;exact run_fn F hr hb hd hx I1 r q
structure Mk (K:PySem.W.Frag) (C f:Addr):Prop where
 makes:PySem.W.makesIn K C=true
 init:PySem.W.findIn K (.ref C) "__init__" = some (some (.ref f))
 fn:PySem.W.isFn K (.ref f)=true
 kp:PySem.W.keepIn K (.ref C)=true
theorem run_make {pins:List (Addr×Obj)} {σ:St} {H:Hp} {s:Shared} {Q:VK} {us:List Value} {vs:List V} (M:Mk X.K C f) (F:FnOk X.prog X.w X.K X.mg X.base CX k f fd ps sp) (hr:Room (k+1) X.A) (hb:Binds X.K fd ps ds) (hd:Vals dvs ds)
  (hx:Passes CX X E) (I:Inv X pins σ H s) (r:Vals vs us)
  (h:∀x dx,H x=none→H dx=none→dx≠x→sp (.ref x :: (vs++dvs)) (upd (upd H dx (.own x)) x (.ins C dx [])) (fun v H2=>v=.non∧Q (.ref x) H2) (E σ)) :
  wpAny (model X.prog X.w) X.A (call (.ref C) us) (EP X pins σ Q) X.xe s:=by
 have hq:=h (s.heap.objs.size+1) s.heap.objs.size (I.hok.fresh (Nat.le_succ _)) (I.hok.fresh (Nat.le_refl _)) (Nat.ne_of_lt (Nat.lt_succ_self _));have I2:=Inv.made (C:=C) I;have r2:Vals (V.ref (s.heap.objs.size+1) :: (vs++dvs)) (Value.ref (s.heap.objs.size+1) :: (us++ds)):=.cons rfl (r.append hd)
 have hl:(Value.ref (s.heap.objs.size+1) :: us++ds).length=ps.length:=by
  have e:=r2.length;rw [F.len _ _ _ _ hq] at e;exact e.symm
 refine wpAny_call (make_map (f:=f) I.kIn M.makes M.init (beq_iff_eq.mp M.fn) (codeAny_mono (F.run _ X.stack _ _ ⟨Value.ref (s.heap.objs.size+1) :: us,[]⟩ (Value.ref (s.heap.objs.size+1) :: (us++ds)) _ _ (E σ) (hr.make C us [])
  (I2.env0.make C us []) (hb _ (Value.ref (s.heap.objs.size+1) :: us) I2.kIn hl) r2 hq) fun r s' hq'=>?_))
 cases r with
 | error e=>exact hx pins σ _ _ e s' I2 hq'
 | ok fl=>
  cases fl with
  | ret u=>
   obtain ⟨v,H',I3,rv,ev,q3⟩:=I2.after hq';subst ev;exact ⟨rv,⟨V.ref (s.heap.objs.size+1),H',I3,rfl,q3⟩⟩
  | next=>exact False.elim hq'
  | brk=>exact False.elim hq'
  | cont=>exact False.elim hq'
theorem pe_make (M:Mk X.K C f) (F:FnOk X.prog X.w X.K X.mg X.base CX k f fd ps sp) (hr:Room (k+1) X.A) (hg:Gl X x) (hm:X.mg x=some (.ref C)) (hb:Binds X.K fd ps ds) (hd:Vals dvs ds) (hx:Passes CX X E)
  (ha:PA X (e :: es) t) (hdb:(x==("__debug__" : Str))=false:=by decide) (he:starEach (e :: es) X.env=(false,eval e X.env) :: starEach es X.env:=by rfl) (hpl:(backTo pos (starEach es X.env)).any (·.1)=false:=by rfl) :
  PE X (.Call (.Name x p) (e :: es) [] pos) (tMake C sp dvs E t):=by
 intro pins s σ H Q I h;refine wpAny_Call_Name_kw (ld_glob I hg hm ?_ hdb);refine PySem.W.callWith_K (h₀:=X.base) I.ok.mod.kin M.kp (thn (ha pos pins s σ H _ I h) fun us s1 ⟨vs,H1,I1,r,q⟩=>⟨I1.kIn,?_⟩) he hpl;exact run_make M F hr hb hd hx I1 r q
end
section
variable {X:Cx} {CX:CXT} {k:Nat} {f C:Addr} {fd:FuncData} {ps ks:List Str} {sp:Sp} {E:St→XK} {x m:Str} {p pos apos kpos:Pos} {e o:Expr} {es:List Expr} {kws:List Keyword} {te ta:TE} {t tk:TA} {nm:Option Str}
variable {g:List Value→List Value→List Value} {gV:List V→List V→List V}
end
structure FnScope (N P:List Str) (sc:Scope):Prop where
 kind:sc.kind=.function
 co:sc.isCoroutine=false
 gen:sc.isGenerator=false
 nd:N.Nodup
 pre:N.take P.length=P
 par:∀x∈P,sc.names.lookup x=some .local∨sc.names.lookup x=some .cell
 nofree:∀y∈sc.names,y.2≠.free
theorem bindL_out {kindOf:Str→Option NameKind} {x:Str}:∀ {binds:List (Str×Value)} {m:Str→Option Value},(∀v,(x,v)∉binds)→bindL kindOf binds m x=m x
 | [],_,_=>rfl
 | (n,v) :: r,m,h=>by
  unfold bindL;rw [bindL_out fun w hw=>h w (List.mem_cons_of_mem _ hw)];split
  ·have:x≠n:=by rintro rfl;exact h v List.mem_cons_self
   simp [this]
  ·rfl
theorem bindC_out {kindOf:Str→Option NameKind} {x:Str}:∀ {binds:List (Str×Value)} {m:Str→Option Value},(∀v,(x,v)∉binds)→bindC kindOf binds m x=m x
 | [],_,_=>rfl
 | (n,v) :: r,m,h=>by
  unfold bindC;rw [bindC_out fun w hw=>h w (List.mem_cons_of_mem _ hw)];split
  ·rfl
  ·have:x≠n:=by rintro rfl;exact h v List.mem_cons_self
   simp [this]
theorem bindL_get {kindOf:Str→Option NameKind} {x:Str} {v:Value}:∀ {P:List Str} {vs:List Value} {i:Nat} {m:Str→Option Value},P.Nodup→P[i]?=some x→vs[i]?=some v→kindOf x=some .local →
  bindL kindOf (P.zip vs) m x=some v
 | [],_,_,_,_,h,_,_=>by simp at h
 | _ :: _,[],_,_,_,_,h,_=>by simp at h
 | p :: P,w :: vs,0,m,nd,h1,h2,hk=>by
  simp at h1 h2;subst h1;subst h2;show bindL kindOf ((p,w) :: P.zip vs) m p=_;unfold bindL;rw [bindL_out fun v hv=>(List.nodup_cons.mp nd).1 (List.of_mem_zip hv).1,if_pos hk];simp
 | p :: P,w :: vs,i+1,m,nd,h1,h2,hk=>by
  show bindL kindOf ((p,w) :: P.zip vs) m x=_;unfold bindL;exact bindL_get (i:=i) (List.nodup_cons.mp nd).2 (by simpa using h1) (by simpa using h2) hk
theorem bindC_get {kindOf:Str→Option NameKind} {x:Str} {v:Value}:∀ {P:List Str} {vs:List Value} {i:Nat} {m:Str→Option Value},P.Nodup→P[i]?=some x→vs[i]?=some v→kindOf x≠some .local →
  bindC kindOf (P.zip vs) m x=some v
 | [],_,_,_,_,h,_,_=>by simp at h
 | _ :: _,[],_,_,_,_,h,_=>by simp at h
 | p :: P,w :: vs,0,m,nd,h1,h2,hk=>by
  simp at h1 h2;subst h1;subst h2;show bindC kindOf ((p,w) :: P.zip vs) m p=_;unfold bindC;rw [bindC_out fun v hv=>(List.nodup_cons.mp nd).1 (List.of_mem_zip hv).1,if_neg hk];simp
 | p :: P,w :: vs,i+1,m,nd,h1,h2,hk=>by
  show bindC kindOf ((p,w) :: P.zip vs) m x=_;unfold bindC;exact bindC_get (i:=i) (List.nodup_cons.mp nd).2 (by simpa using h1) (by simpa using h2) hk
noncomputable def start (N:List Str) (vs:List V):St:=vs.map some++List.replicate (N.length - vs.length) none
noncomputable def cxOf (CX:CXT) (P:Program) (w:World) (K:PySem.W.Frag) (mg:Str→Option Value) (base:Heap) (N:List Str) (qual:Str) (scope:Scope) (f:Addr) (cd:Value) (A:Around) (outer:List Env) (s:Shared) (H:Hp) (E:XK):Cx where
 prog:=P
 w:=w
 K:=K
 mg:=mg
 base:=base
 A:=A.deeper (envOfC qual scope s.heap.objs.size f cd)
 N:=N
 s₀:=s
 H₀:=H
 env:=envOfC qual scope s.heap.objs.size f cd
 outer:=outer
 stack:=envOfC qual scope s.heap.objs.size f cd :: outer
 ex:=[]
 calm:=true
 fn:=fun _=>true
 pn:=[]
 xe:=fun e s'=>wpAny (model P w) (A.deeper (envOfC qual scope s.heap.objs.size f cd)) (leaving (envOfC qual scope s.heap.objs.size f cd) e) (fun _ s''=>CX outer H s E e s'') (fun e' s''=>CX outer H s E e' s'') s'
theorem cell_has {sc:Scope} {n:Nat} {x:Str} (h:sc.names.lookup x=some .cell):∃c,(cellsFrom n sc.names []).lookup x=some c:=by
 have q:=PySem.W.cellsFrom_some sc.names n [] (.inl h);exact Option.isSome_iff_exists.mp q
theorem inv_start {CX:CXT} {P:Program} {w:World} {K:PySem.W.Frag} {mg:Str→Option Value} {base:Heap} {N ps:List Str} {qual:Str} {scope:Scope} {f:Addr} {cd:Value} {A:Around} {outer:List Env} {s s1:Shared} {H:Hp} {E:XK} {us:List Value} {vs:List V}
  (S:FnScope N ps scope) (hd:A.handled=none) (e0:Env0 P w K mg base A outer s H) (hl:vs.length=ps.length) (r:Vals vs us)
  (x:InCallC s s.heap.objs.size (bindL (envOfC qual scope s.heap.objs.size f cd).kindOf (ps.zip us) fun _=>none) (cellsFrom (s.heap.objs.size+1) scope.names []) (bindC (envOfC qual scope s.heap.objs.size f cd).kindOf (ps.zip us) fun _=>none) s1) :
  Inv (cxOf CX P w K mg base N qual scope f cd A outer s H E) [] (start N vs) H s1:=by
 have hpl:ps.length≤N.length:=by have:=congrArg List.length S.pre;rw [List.length_take] at this;omega
 obtain ⟨h1,tk,rfl,hk⟩:=x.done
 have noA:∀b:Addr,b∉(cxOf CX P w K mg base N qual scope f cd A outer s H E).ex:=fun b z=>absurd (show b∈([]:List Addr) from z) (by simp)
 refine ⟨⟨e0.mod,S.kind,rfl,rfl,Nat.le_refl _,fun y z c h1 h2=>?_,fun y hy=>?_,fun y c _ h=>?_,fun _=>hd,Around.frames_deeper e0.frames,.inr ⟨rfl,rfl⟩,fun b z=>absurd z (noA b),e0.bs,e0.bsz,fun b _ _=>noA b,fun b z=>absurd z (noA b),e0.funs,e0.frf⟩,
  rfl,e0.bare,Un.kept hk,⟨_,x.toInCall.ns,fun i y v h1 h2 h3=>?_⟩,fun y c h=>⟨_,x.cell y c h⟩,e0.hok.fresh (Nat.le_refl _),fun y c h=>?_,fun p hp=>absurd (show p∈([]:List (Addr×Obj)) from hp) (by simp),e0.hok.kept hk,?_⟩
 ·exact name_of_addr x.apart (PySem.mem_of_lookup h1) (PySem.mem_of_lookup h2)
 ·have hy:scope.names.lookup y=some .cell∨scope.names.lookup y=some .free:=hy
  rcases hy with hy | hy
  ·exact cell_has hy
  ·exact absurd rfl (S.nofree _ (PySem.mem_of_lookup hy))
 ·exact Nat.le_of_lt (x.above y c (PySem.mem_of_lookup h))
 ·have hi:i < vs.length:=by
   unfold start at h2
   by_cases hi:i < vs.length
   ·exact hi
   ·rw [List.getElem?_append_right (by simpa using hi)] at h2
    rw [List.getElem?_replicate] at h2
    split at h2 <;> cases h2
  have ha:vs[i]?=some v:=by
   unfold start at h2;rw [List.getElem?_append_left (by simpa using hi),List.getElem?_map] at h2
   cases e:vs[i]? with
   | none=>rw [e] at h2;cases h2
   | some a=>rw [e] at h2;cases h2;rfl
  obtain ⟨u,hu,rv⟩:=r.get ha
  have hp:ps[i]?=some y:=by
   rw [←S.pre,List.getElem?_take_of_lt (by omega)];exact h1
  have ndP:ps.Nodup:=by rw [←S.pre];exact S.nd.sublist (List.take_sublist _ _)
  refine ⟨u,rv,?_⟩
  rcases S.par y (List.mem_of_getElem? hp) with k | k
  ·exact .inl ⟨k,bindL_get ndP hp hu k⟩
  ·obtain ⟨c,e⟩:=cell_has (n:=s.heap.objs.size+1) k
   refine .inr ⟨.inl k,c,e,?_⟩;have q:=x.cell y c e;rw [bindC_get ndP hp hu (by show scope.names.lookup y≠_;rw [k];decide)] at q;exact q
 ·exact e0.hok.fresh (Nat.le_of_lt (x.above y c (PySem.mem_of_lookup h)))
 ·unfold start
  show _=N.length;rw [List.length_append,List.length_map,List.length_replicate];omega
theorem fn_of {CX:CXT} {P:Program} {w:World} {K:PySem.W.Frag} {mg:Str→Option Value} {base:Heap} {k:Nat} {f:Addr} {name qual:Str} {params:Arguments} {body:List Stmt} {scope:Scope} {dV kV doc pm cdv ct oc:Value} {an od:Option Addr}
  {osl:Array (Option Value)} {N ps:List Str} {sp:Sp} (lk:K.lookup f=some ⟨oc,od,.func (PySem.W.fnOf name qual params body scope dV kV doc pm an cdv ct),osl⟩) (hcd:PySem.W.codeIn K cdv qual=true) (S:FnScope N ps scope)
  (len:∀vs H Q E,sp vs H Q E→vs.length=ps.length)
  (hbody:∀(A:Around) (outer:List Env) (s:Shared) (H:Hp) (vs:List V) (Q:VK) (E:XK),Room k (A.deeper (envOfC qual scope s.heap.objs.size f cdv))→sp vs H Q E →
   ∃t,PSs (cxOf CX P w K mg base N qual scope f cdv A outer s H E) body t∧t { nx:=fun _ H'=>Q .non H',rt:=Q } (start N vs) H) :
  FnOk P w K mg base CX (k+1) f (PySem.W.fnOf name qual params body scope dV kV doc pm an cdv ct) ps sp:=by
 refine ⟨len,fun A outer s H args us vs Q E hr e0 hb r hsp=>?_⟩;have hl:=len _ _ _ _ hsp
 have KX:K.In s.heap:=e0.mod.kin.keeps fun b o e=>(e0.bs b o e).1
 have lim:s.heap.NoLimit:=e0.mod.nolimit.keeps fun b o e=>(e0.bs b o e).1
 have hkind:∀y∈ps.zip us,scope.names.lookup y.1=some .local∨(scope.names.lookup y.1=some .cell∧((cellsFrom (s.heap.objs.size+1) scope.names []).lookup y.1).isSome=true):=fun ⟨n,v⟩ hy=>by
  rcases S.par n (List.of_mem_zip hy).1 with q | q
  ·exact .inl q
  ·exact .inr ⟨q,PySem.W.cellsFrom_some _ _ _ (.inl q)⟩
 refine codeAny_call_function hr.depth (KX _ _ lk) rfl S.co S.gen rfl (PySem.W.codeRec_of KX hcd) (hb _ _ _ _ ?_)
 refine wpAny_newFunctionEnv_cells S.kind hkind fun env he s1 x=>?_
 subst he;refine ⟨lim.keeps x.toInCall.keep,codeAny_func ?_⟩;obtain ⟨t,ht,hq⟩:=hbody A outer s H vs Q E (hr.deeper _) hsp;have I:Inv (cxOf CX P w K mg base N qual scope f cdv A outer s H E) [] (start N vs) H s1:=inv_start S hr.hd e0 hl r x
 refine wpAny_mono (ht [] s1 (start N vs) H _ I hq) (fun fl s' hs=>?_) fun e s' hs=>hs
 have fin:∀ {σ':St} {H':Hp} {v:V} {u:Value},Inv (cxOf CX P w K mg base N qual scope f cdv A outer s H E) [] σ' H' s'→RelV v u→Q v H'→CE outer P w H s Q u s':=
  fun {σ' H' v u} J rv q=>⟨v,H',J.os,J.bare,J.base,J.hok,rv,q⟩
 cases fl with
 | ret u=>
  obtain ⟨v,σ',H',J,rv,q⟩:=hs;exact fin J rv q
 | next=>
  obtain ⟨σ',H',J,q⟩:=hs;exact fin (v:=V.non) (u:=Value.none) J rfl q
 | brk=>
  obtain ⟨_,_,_,q⟩:=hs;exact False.elim q
 | cont=>
  obtain ⟨_,_,_,q⟩:=hs;exact False.elim q
end L2
namespace L2
open PySem PySem.Spec PyProof.Rows
section
variable {X:Cx} {x:Str} {p pos:Pos} {e:Expr} {es:List Expr} {t:TA} {id T:String} {r:List V→Hp→VK→Prop}
noncomputable def tCB (r:List V→Hp→VK→Prop) (t:TA):TE:=fun σ H Q=>t σ H fun vs H1=>r vs H1 Q
theorem pe_callB (hc:CallR X (.builtin id) r) (hg:Gl X x) (hm:X.mg x=none) (hv:bootBuiltins x=some (.builtin id)) (ha:PA X (e :: es) t) (hn:x≠"__name__":=by decide) (hdb:(x==("__debug__" : Str))=false:=by decide)
  (he:starEach (e :: es) X.env=(false,eval e X.env) :: starEach es X.env:=by rfl) (hpl:(backTo pos (starEach es X.env)).any (·.1)=false:=by rfl):PE X (.Call (.Name x p) (e :: es) [] pos) (tCB r t):=by
 intro pins s σ H Q I h;refine wpAny_Call_Name_kw (ld_blt I hg hm hv ?_ hn hdb);exact PyProof.Rows.callWith_builtin1 (thn (ha pos pins s σ H _ I h) fun us s1 ⟨vs,H1,I1,r1,q1⟩=>hc pins s1 σ H1 vs us Q I1 r1 q1) he hpl
theorem pe_callTy (hc:CallR X (.type T) r) (hg:Gl X x) (hm:X.mg x=none) (hv:bootBuiltins x=some (.type T)) (ha:PA X (e :: es) t) (hn:x≠"__name__":=by decide) (hdb:(x==("__debug__" : Str))=false:=by decide)
  (he:starEach (e :: es) X.env=(false,eval e X.env) :: starEach es X.env:=by rfl) (hpl:(backTo pos (starEach es X.env)).any (·.1)=false:=by rfl):PE X (.Call (.Name x p) (e :: es) [] pos) (tCB r t):=by
 intro pins s σ H Q I h;refine wpAny_Call_Name_kw (ld_blt I hg hm hv ?_ hn hdb);exact PyProof.Rows.callWith_type1 (thn (ha pos pins s σ H _ I h) fun us s1 ⟨vs,H1,I1,r1,q1⟩=>hc pins s1 σ H1 vs us Q I1 r1 q1) he hpl
end
end L2
namespace HT
open PySem PyProof.Rows
section
open PySem.SeqAt
open PySem.AutoSeq1 (wpAny_loadPart')
open PySem.MeetsSeq PySem.MeetsSeq2 PySem.MeetsSeq3
end
section
variable {prog:Program} {w:World} {A:Around} {E:Value→Shared→Prop} {s:Shared}
theorem cat_tup {t b:Addr} {vs ws:List Value} {Q:Value→Shared→Prop} (ht:IsTup s.heap t vs.toArray) (hb:IsTup s.heap b ws.toArray) (hv:vs≠[])
  (h1:ws=[]→Q (.ref t) s) (h2:ws≠[]→Q (.ref s.heap.objs.size) { s with heap:=s.heap.push { cls:=.type "tuple",data:=.seq (vs++ws).toArray } })
  (hsz:vs.length+ws.length≤sizeLine):wpAny (model prog w) A (binaryOp .Add (.ref t) (.ref b)) Q E s:=by
 obtain ⟨⟨cls,dd,data,sl⟩,ho,hc,n,hd⟩:=id ht;obtain ⟨⟨cls2,dd2,data2,sl2⟩,ho2,hc2,n2,hd2⟩:=id hb;simp only at hc hd hc2 hd2;subst hc hd hc2 hd2
 have e:vs.toArray++ws.toArray=(vs++ws).toArray:=by simp
 by_cases hw:ws=[]
 ·exact concat_meets ⟨_,ho,rfl⟩ ⟨_,ho2,rfl⟩ noFill_tuple_add seq_tuple_add PySem.F.slot_tuple_add PySem.F.entry_tuple_add (PySem.F.args_tuple_add_2 _ _)
   (tuple_addW1 t b vs.toArray ws.toArray n n2 dd dd2 sl sl2 (by simpa using hv) (by simp [hw])) ⟨ho,ho2,h1 hw⟩
 ·refine concat_meets ⟨_,ho,rfl⟩ ⟨_,ho2,rfl⟩ noFill_tuple_add seq_tuple_add PySem.F.slot_tuple_add PySem.F.entry_tuple_add (PySem.F.args_tuple_add_2 _ _)
   (tuple_addW2 t b vs.toArray ws.toArray n n2 dd dd2 sl sl2 (by simpa using hv) (by simpa using hw) (by rw [List.size_toArray,List.size_toArray];exact hsz)) ⟨ho,ho2,?_⟩
  rw [e];exact h2 hw
noncomputable def sIx (n d:Nat):Option Int→Nat
 | none=>d
 | some v=>if v < 0 then (v+(n:Int)).toNat else min v.toNat n
theorem sIx_none (n d:Nat):sIx n d none=d:=rfl
theorem sIx_nat (n d k:Nat):sIx n d (some (k:Int))=min k n:=by
 show (if (k:Int) < 0 then ((k:Int)+(n:Int)).toNat else min (k:Int).toNat n)=min k n;rw [if_neg (by omega),Int.toNat_natCast]
theorem sIx_le (n d:Nat) (hd:d≤n) (o:Option Int):sIx n d o≤n:=by
 cases o with
 | none=>exact hd
 | some v=>
  show (if v < 0 then (v+(n:Int)).toNat else min v.toNat n)≤n
  by_cases hv:v < 0
  ·rw [if_pos hv];omega
  ·rw [if_neg hv];exact Nat.min_le_right _ _
theorem clip_eq (v:Int) (n d:Nat):(if v < 0 then max (v+(n:Int)) 0 else min v (n:Int))=((sIx n d (some v):Nat):Int):=by
 show (if v < 0 then max (v+(n:Int)) 0 else min v (n:Int))=(((if v < 0 then (v+(n:Int)).toNat else min v.toNat n):Nat):Int)
 by_cases hv:v < 0
 ·simp only [if_pos hv];omega
 ·simp only [if_neg hv];omega
theorem adjust_gen (lo hi:Option Int) (n:Nat):Builtin.Slice.sliceAdjust lo hi 1 (n:Int)=(((sIx n 0 lo:Nat):Int),((sIx n n hi:Nat):Int)):=by
 have h1:¬((1:Int) < 0):=by omega
 unfold Builtin.Slice.sliceAdjust;simp only [h1,if_false];refine Prod.ext ?_ ?_
 ·cases lo with
  | none=>rfl
  | some v=>exact clip_eq v n 0
 ·cases hi with
  | none=>rfl
  | some v=>exact clip_eq v n n
theorem places_gen (i j:Nat):Builtin.Slice.slicePlaces (i:Int) (j:Int) 1=j - i:=by
 unfold Builtin.Slice.slicePlaces
 have h1:(1:Int) > 0:=by omega
 simp only [h1,if_true,Int.ediv_one]
 split <;> omega
theorem slicePart_ {v:Value} {o:Option Int} {Q:Option Int→Shared→Prop} (p:IsPart v o) (h:Q o s):wpAny (model prog w) A (Builtin.Slice.slicePartIndex v) Q E s:=by
 cases p with
 | none=>exact slicePart_none h
 | int i t=>exact slicePart_int h
theorem sliceApplied_gen {sl:Addr} {vl vu:Value} {lo hi:Option Int} {n:Nat} {Q:Int×Int×Nat→Shared→Prop} (hs:s.heap.IsSliceOf sl vl vu .none) (pl:IsPart vl lo) (pu:IsPart vu hi)
  (h:Q (((sIx n 0 lo:Nat):Int),1,sIx n n hi - sIx n 0 lo) s):wpAny (model prog w) A (Builtin.Slice.sliceApplied (.ref sl) (pure (n:Int))) Q E s:=by
 obtain ⟨os,hos,hcs,hds⟩:=id hs;unfold Builtin.Slice.sliceApplied Builtin.Slice.sliceFields;refine wpAny_bind (wpAny_bind (wpAny_field hos hds (x:=vl) rfl (wpAny_bind (wpAny_field hos hds (x:=vu) rfl (wpAny_bind (wpAny_field hos hds (x:=.none) rfl (wpAny_pure ?_)))))));refine wpAny_bind (slicePart_none ?_);show wpAny _ _ (if ((1:Int)==0)=true then _ else _) _ _ s;rw [if_neg (by decide)];refine wpAny_bind (slicePart_ pl (wpAny_bind (slicePart_ pu (wpAny_bind (wpAny_pure ?_)))));show wpAny _ _ (match Builtin.Slice.sliceAdjust lo hi 1 (n:Int) with | (lo,hi)=>pure (lo,(1:Int),Builtin.Slice.slicePlaces lo hi 1)) _ _ s;rw [adjust_gen lo hi n];show wpAny _ _ (pure (((sIx n 0 lo:Nat):Int),(1:Int),Builtin.Slice.slicePlaces ((sIx n 0 lo:Nat):Int) ((sIx n n hi:Nat):Int) 1)) _ _ s;rw [places_gen];exact wpAny_pure h
theorem pick_gen (xs:Array Value) (i k:Nat):((List.range k).filterMap fun (m:Nat)=>xs[((i:Int)+(m:Int) * 1).toNat]?).toArray=((xs.toList.drop i).take k).toArray:=by
 have e:(fun (m:Nat)=>xs[((i:Int)+(m:Int) * 1).toNat]?)=fun m=>xs[i+m]?:=by
  funext m
  have:((i:Int)+(m:Int) * 1).toNat=i+m:=by omega
  rw [this]
 rw [e];have:=pick_run xs i k;rw [List.filterMap_map] at this
 have e2:((fun x=>xs[x]?)∘fun x=>i+x)=fun m=>xs[i+m]?:=rfl
 rw [e2] at this;rw [this]
theorem getItem_tuple_cut {t sl:Addr} {items:Array Value} {vl vu:Value} {lo hi:Option Int} {Q:Value→Shared→Prop} (ht:IsTup s.heap t items) (hs:s.heap.IsSliceOf sl vl vu .none) (pl:IsPart vl lo) (pu:IsPart vu hi)
  (hw:¬(sIx items.size 0 lo=0∧sIx items.size items.size hi=items.size))
  (h:Q (.ref s.heap.objs.size) { s with heap:=s.heap.push { cls:=.type "tuple",data:=.seq ((items.toList.drop (sIx items.size 0 lo)).take (sIx items.size items.size hi - sIx items.size 0 lo)).toArray } })
  (hsz:items.size≤sizeLine):wpAny (model prog w) A (getItem (.ref t) (.ref sl)) Q E s:=by
 have htake:sizeOk (.seq ((items.toList.drop (sIx items.size 0 lo)).take (sIx items.size items.size hi - sIx items.size 0 lo)).toArray):=by
  show ((items.toList.drop (sIx items.size 0 lo)).take (sIx items.size items.size hi - sIx items.size 0 lo)).toArray.size≤sizeLine;rw [List.size_toArray,List.length_take,List.length_drop,Array.length_toList];omega
 have hj:sIx items.size items.size hi≤items.size:=sIx_le _ _ (Nat.le_refl _) hi;obtain ⟨os,hos,hcs,hds⟩:=id hs;have hTs:s.TypeIs (.ref sl) "slice":=⟨os,hos,hcs⟩;unfold getItem
 try with_reducible refine wpAny_holding ?_
 first | refine wpAny_bind (wpAny_pure ?_) | skip
 refine wpAny_bind (wpAny_sequenceKey ht.typeIs (by decide) ?_)
 refine wpAny_bind (wpAny_callSpecial?_slot (name:=Str.ofString "__getitem__") ht.typeIs PyProof.Rows.slot_tuple_getitem
  (wpAny_call_entry PyProof.Rows.slot_tuple_getitem ht.typeIs entry_tuple_getitem ?_ (args_tuple_getitem _ _)))
 show wpAny _ _ (Builtin.Tuple.tupleItemsOf (.ref t) >>= _) _ _ s;refine wpAny_bind (tupleItemsOf_ ht ?_);refine wpAny_bind (wpAny_typeOf hTs ?_);rw [if_pos (by decide)];refine wpAny_bind (sliceApplied_gen hs pl pu ?_)
 have hno:¬((((sIx items.size 0 lo:Nat):Int)==0&&(1:Int)==1&&(sIx items.size items.size hi - sIx items.size 0 lo)==items.size)=true):=by
  intro q;rw [Bool.and_eq_true,Bool.and_eq_true] at q;have q1:((sIx items.size 0 lo:Nat):Int)=0:=eq_of_beq q.1.1;have q2:sIx items.size items.size hi - sIx items.size 0 lo=items.size:=eq_of_beq q.2;exact hw ⟨by omega,by omega⟩
 show wpAny _ _ (if (((sIx items.size 0 lo:Nat):Int)==0&&(1:Int)==1&&(sIx items.size items.size hi - sIx items.size 0 lo)==items.size)=true then _ else _) _ _ s;rw [if_neg hno,pick_gen]
 first
  | exact wpAny_bind (m:=Builtin.Tuple.tupleExact _) (wpAny_newObj_type (wpAny_pure ⟨_,rfl,wpAny_pure h⟩) htake)
  | exact wpAny_bind (m:=Builtin.Tuple.tupleExact _) (wpAny_newObj_type (wpAny_bind (wpAny_pure (wpAny_pure ⟨_,rfl,wpAny_pure h⟩))) htake)
  | exact wpAny_bind (wpAny_bind (m:=Builtin.Tuple.tupleExact _) (wpAny_newObj_type (wpAny_pure (wpAny_pure ⟨_,rfl,wpAny_pure h⟩)) htake))
  | exact wpAny_bind (wpAny_bind (m:=Builtin.Tuple.tupleExact _) (wpAny_newObj_type (wpAny_pure ⟨_,rfl,wpAny_pure h⟩) htake))
end
end HT
namespace L2
open PySem PySem.Spec PyProof.Rows
noncomputable abbrev TO:=St→Hp→(Option Int→Hp→Prop)→Prop
noncomputable def PO (X:Cx) (e:Option Expr) (t:TO):Prop:=
 ∀(pins:List (Addr×Obj)) (s:Shared) (σ:St) (H:Hp) (Q:Option Int→Hp→Prop),Inv X pins σ H s→t σ H Q →
  wpAny (model X.prog X.w) X.A (evalPart e X.env) (fun u s'=>∃o H',Inv X pins σ H' s'∧IsPart u o∧Q o H') X.xe s
noncomputable def tNoPart:TO:=fun _ H Q=>Q none H
noncomputable def tPart (t:TE):TO:=fun σ H Q=>t σ H fun x H1=>∃i,x=.int i∧Q (some i) H1
theorem intsAre_of {ns:List Int}:∀ {us:List Value},Vals (ns.map V.int) us→IntsAre us ns:=by
 induction ns with
 | nil=>intro us r;rw [List.map_nil] at r;cases r;exact .nil
 | cons n ns ih=>
  intro us r;rw [List.map_cons] at r
  cases r with
  | cons r1 r2=>
   obtain ⟨t,e⟩:=r1;subst e;exact .cons n t (ih r2)
section
variable {κ:Type} [DecidableEq κ]
noncomputable def valV (kvs:List (κ×V)) (k:κ):Option V:=(kvs.find? fun kv=>decide (kv.1=k)).map (·.2)
noncomputable def putK (kvs:List (κ×V)) (k:κ) (v:V):List (κ×V):=
 if (kvs.any fun kv=>decide (kv.1=k))=true then kvs.map (fun kv=>if kv.1=k then (kv.1,v) else kv) else kvs++[(k,v)]
theorem valV_pos {p:κ×V} {r:List (κ×V)} {k:κ} (e:p.1=k):valV (p :: r) k=some p.2:=by simp [valV,List.find?_cons,e]
theorem valV_neg {p:κ×V} {r:List (κ×V)} {k:κ} (e:¬p.1=k):valV (p :: r) k=valV r k:=by simp [valV,List.find?_cons,e]
theorem valV_any (k:κ):∀kvs:List (κ×V),(kvs.any fun kv=>decide (kv.1=k))=(valV kvs k).isSome
 | []=>rfl
 | p :: r=>by
  rw [List.any_cons]
  by_cases e:p.1=k
  ·simp only [valV_pos e,decide_eq_true e,Bool.true_or,Option.isSome_some]
  ·rw [valV_neg e,decide_eq_false e,Bool.false_or];exact valV_any k r
theorem length_putK (kvs:List (κ×V)) (k:κ) (v:V):(putK kvs k v).length≤kvs.length+1:=by
 unfold putK;split
 ·rw [List.length_map];omega
 ·rw [List.length_append,List.length_cons,List.length_nil];omega
theorem RelO.isSome_eq {o:Option V} {u:Option Value} (r:RelO o u):o.isSome=u.isSome:=by
 cases o with
 | none=>cases u with
  | none=>rfl
  | some _=>exact (show False from r).elim
 | some _=>cases u with
  | none=>exact (show False from r).elim
  | some _=>rfl
theorem KV.val {kvs:List (κ×V)} {vs:List (κ×Value)} (r:KV kvs vs) (k:κ):RelO (valV kvs k) (valueAt vs k):=by
 unfold KV at r
 induction r with
 | nil=>exact True.intro
 | @cons p q ps qs h t ih=>
  obtain ⟨h1,h2⟩:=h
  by_cases e:p.1=k
  ·have e':q.1=k:=h1.symm.trans e
   have b:valueAt (q :: qs) k=some q.2:=by simp [valueAt,List.find?_cons,e']
   rw [valV_pos e,b];exact h2
  ·have e':¬q.1=k:=fun z=>e (h1.trans z)
   have b:valueAt (q :: qs) k=valueAt qs k:=by simp [valueAt,List.find?_cons,e']
   rw [valV_neg e,b];exact ih
theorem KV.any {kvs:List (κ×V)} {vs:List (κ×Value)} (r:KV kvs vs) (k:κ):(kvs.any fun kv=>decide (kv.1=k))=vs.any fun kv=>decide (kv.1=k):=by
 unfold KV at r
 induction r with
 | nil=>rfl
 | cons h t ih=>rw [List.any_cons,List.any_cons,ih,h.1]
theorem KV.repl {kvs:List (κ×V)} {vs:List (κ×Value)} (r:KV kvs vs) (k:κ) {y:V} {u:Value} (ry:RelV y u) :
  KV (kvs.map fun kv=>if kv.1=k then (kv.1,y) else kv) (vs.map fun kv=>if kv.1=k then (kv.1,u) else kv):=by
 unfold KV at r ⊢
 induction r with
 | nil=>exact .nil
 | @cons p q ps qs h t ih=>
  rw [List.map_cons,List.map_cons];refine .cons ?_ ih;obtain ⟨h1,h2⟩:=h
  by_cases e:p.1=k
  ·rw [if_pos e,if_pos (h1.symm.trans e)];exact ⟨h1,ry⟩
  ·rw [if_neg e,if_neg (fun z=>e (h1.trans z))];exact ⟨h1,h2⟩
theorem KV.put {kvs:List (κ×V)} {vs:List (κ×Value)} (r:KV kvs vs) (k:κ) {y:V} {u:Value} (ry:RelV y u):KV (putK kvs k y) (stored vs k u):=by
 unfold putK stored;rw [r.any k]
 by_cases e:(vs.any fun kv=>decide (kv.1=k))=true
 ·rw [if_pos e,if_pos e];exact r.repl k ry
 ·rw [if_neg e,if_neg e];exact Paired.snoc r ⟨rfl,ry⟩
theorem KV.length {kvs:List (κ×V)} {vs:List (κ×Value)} (r:KV kvs vs):kvs.length=vs.length:=Paired.length r
end
theorem kV_is {P:Program} {w:World} {k:Key} {u:Value} (r:RelV (kV k) u):(mixKind P w).is k u=true:=by
 cases k with
 | inl i=>obtain ⟨t,e⟩:=(show ∃t,u=Value.int i t from r);subst e;exact mixKind_int P w i t
 | inr x=>obtain ⟨t,e⟩:=(show ∃t,u=Value.str x t from r);subst e;exact mixKind_str P w x t
theorem items_are {P:Program} {w:World}:∀ {ks:List Key} {us:List Value},Vals (ks.map kV) us→ItemsAre (mixKind P w) ks us
 | [],_,r=>by rw [List.map_nil] at r;cases r;exact .nil
 | k :: ks,_,r=>by
  rw [List.map_cons] at r
  cases r with
  | cons h t=>exact .cons (kV_is h) (items_are t)
noncomputable abbrev KT (H:Hp):List (List Key×V)→List (List Key×Addr×Value)→Prop:=Paired fun p q=>p.1=q.1∧H q.2.1=some (.tup (p.1.map kV))∧RelV p.2 q.2.2
theorem KT.val {H:Hp} {kvs:List (List Key×V)} {xs:List (List Key×Addr×Value)} (r:KT H kvs xs) (k:List Key):RelO (valV kvs k) ((atKey xs k).map (·.2)):=by
 induction r with
 | nil=>exact True.intro
 | @cons p q ps qs h t ih=>
  obtain ⟨h1,_,h2⟩:=h
  by_cases e:p.1=k
  ·have e':q.1=k:=h1.symm.trans e
   have b:atKey (q :: qs) k=some q.2:=by simp [atKey,List.find?_cons,e']
   rw [valV_pos e,b];exact h2
  ·have e':¬q.1=k:=fun z=>e (h1.trans z)
   have b:atKey (q :: qs) k=atKey qs k:=by simp [atKey,List.find?_cons,e']
   rw [valV_neg e,b];exact ih
theorem KT.repl {H:Hp} {kvs:List (List Key×V)} {xs:List (List Key×Addr×Value)} (r:KT H kvs xs) (k:List Key) {y:V} {u:Value} (ry:RelV y u) :
  KT H (kvs.map fun kv=>if kv.1=k then (kv.1,y) else kv) (xs.map (putAt k u)):=by
 induction r with
 | nil=>exact .nil
 | @cons p q ps qs h t ih=>
  rw [List.map_cons,List.map_cons];refine .cons ?_ ih;obtain ⟨h1,h2,h3⟩:=h;unfold putAt
  by_cases e:p.1=k
  ·rw [if_pos e,if_pos (h1.symm.trans e)];exact ⟨h1,h2,ry⟩
  ·rw [if_neg e,if_neg (fun z=>e (h1.trans z))];exact ⟨h1,h2,h3⟩
theorem KT.put {H:Hp} {kvs:List (List Key×V)} {xs:List (List Key×Addr×Value)} (r:KT H kvs xs) (k:List Key) {b:Addr} {y:V} {u:Value} (hb:H b=some (.tup (k.map kV))) (ry:RelV y u) :
  KT H (putK kvs k y) (storedH xs k b u):=by
 have e:(kvs.any fun kv=>decide (kv.1=k))=(atKey xs k).isSome:=by
  rw [valV_any,(r.val k).isSome_eq,Option.isSome_map]
 unfold putK storedH;rw [e]
 by_cases q:(atKey xs k).isSome=true
 ·rw [if_pos q,if_pos q];exact r.repl k ry
 ·rw [if_neg q,if_neg q];exact Paired.snoc r ⟨rfl,hb,ry⟩
theorem KT.keeps {H H':Hp} {kvs:List (List Key×V)} {xs:List (List Key×Addr×Value)} (r:KT H kvs xs) (ht:∀b ys,H b=some (.tup ys)→H' b=some (.tup ys)):KT H' kvs xs:=
 Paired.mapP r fun _ _ z=>⟨z.1,ht _ _ z.2.1,z.2.2⟩
variable {X:Cx} {e:Expr} {te:TE} {lo hi:Option Expr} {tl th:TO} {pos p2:Pos}
theorem po_none:PO X none tNoPart:=by
 intro pins s σ H Q I h;rw [evalPart_none];exact wpAny_pure ⟨none,H,I,.none,h⟩
theorem po_some (h:PE X e te):PO X (some e) (tPart te):=by
 intro pins s σ H Q I hw;rw [evalPart_some]
 refine thn (h pins s σ H _ I hw) fun u s1 ⟨x,H1,I1,r1,q1⟩=>?_
 obtain ⟨i,rfl,q⟩:=q1;obtain ⟨t,rfl⟩:=r1;exact ⟨some i,H1,I1,.int i t,q⟩
noncomputable def SlR (X:Cx) (r:V→Option Int→Option Int→Hp→VK→Prop):Prop:=
 ∀(pins:List (Addr×Obj)) (s:Shared) (σ:St) (H:Hp) (x:V) (v vl vu:Value) (lo hi:Option Int) (sl:Addr) (Q:VK),Inv X pins σ H s→RelV x v→s.heap.IsSliceOf sl vl vu .none→IsPart vl lo→IsPart vu hi→r x lo hi H Q →
  ∃T id,typeLookup (.type T) "__getitem__" = pure (some (.builtin id))∧s.TypeIs v T∧wpAny (model X.prog X.w) X.A (getItem v (.ref sl)) (EP X pins σ Q) X.xe s
theorem SlR.or {r r':V→Option Int→Option Int→Hp→VK→Prop} (h:SlR X r) (h':SlR X r'):SlR X (fun x lo hi H Q=>r x lo hi H Q∨r' x lo hi H Q):=by
 intro pins s σ H x v vl vu lo hi sl Q I rx hs pl pu q
 rcases q with q | q
 ·exact h pins s σ H x v vl vu lo hi sl Q I rx hs pl pu q
 ·exact h' pins s σ H x v vl vu lo hi sl Q I rx hs pl pu q
noncomputable def tSl (r:V→Option Int→Option Int→Hp→VK→Prop) (te:TE) (tl th:TO):TE:=fun σ H Q=>te σ H fun x H1=>tl σ H1 fun l H2=>th σ H2 fun u H3=>r x l u H3 Q
theorem pe_slice {r:V→Option Int→Option Int→Hp→VK→Prop} (hr:SlR X r) (he:PE X e te) (hl:PO X lo tl) (hu:PO X hi th):PE X (.Subscript e (.Slice lo hi none p2) pos) (tSl r te tl th):=by
 intro pins s σ H Q I h;refine Subscript_ (thn (he pins s σ H _ I h) fun v s1 ⟨x,H1,I1,r1,q1⟩=>?_);refine wpAny_Slice (thn (hl pins s1 σ H1 _ I1 q1) fun vl s2 ⟨l,H2,I2,pl,q2⟩=>thn (hu pins s2 σ H2 _ I2 q2) fun vu s3 ⟨u,H3,I3,pu,q3⟩=>?_);rw [evalPart_none];refine wpAny_pure ?_
 have I4:Inv X pins σ H3 { s3 with heap:=s3.heap.push { cls:=.type "slice",data:=.fields #[vl,vu,.none] } }:=I3.kept (t':=s3.toks) fun b ob q=>Heap.get?_push_of_some _ q
 obtain ⟨T,id,hT,ht,hg⟩:=hr pins { s3 with heap:=s3.heap.push { cls:=.type "slice",data:=.fields #[vl,vu,.none] } } σ H3 x v vl vu l u s3.heap.objs.size Q I4 r1 (Heap.IsSliceOf.new ..) pl pu q3;show wpAny (model X.prog X.w) X.A (subscriptTail e (.Slice lo hi none p2) v (.ref s3.heap.objs.size)) (EP X pins σ Q) X.xe { s3 with heap:=s3.heap.push { cls:=.type "slice",data:=.fields #[vl,vu,.none] } };exact tail_any (ops:=[.ref s3.heap.objs.size,v]) ht hT hg (by with_unfolding_all rfl)
noncomputable def cutV (xs:List V) (lo hi:Option Int):List V:=(xs.drop (HT.sIx xs.length 0 lo)).take (HT.sIx xs.length xs.length hi - HT.sIx xs.length 0 lo)
theorem cutV_length (xs:List V) (lo hi:Option Int):(cutV xs lo hi).length≤xs.length:=by
 unfold cutV;rw [List.length_take,List.length_drop];omega
noncomputable def rSlT (K:PySem.W.Frag):V→Option Int→Option Int→Hp→VK→Prop:=fun x lo hi H Q=>∃a xs,x=.ref a∧SqT K H a xs ∧
 ¬(HT.sIx xs.length 0 lo=0∧HT.sIx xs.length xs.length hi=xs.length)∧∀p,H p=none→Q (.ref p) (upd H p (.tup (cutV xs lo hi)))
theorem sl_tup:SlR X (rSlT X.K):=by
 intro pins s σ H x v vl vu lo hi sl Q I rx hs pl pu h;obtain ⟨a,xs,rfl,hx,hw,q⟩:=h;cases rx;obtain ⟨its,r,ht,hz⟩:=I.tuple hx
 have hlen:its.toArray.size=xs.length:=by rw [List.size_toArray];exact r.length.symm
 refine ⟨"tuple",_,PyProof.Rows.slot_tuple_getitem.lookup,ht.typeIs,?_⟩;refine HT.getItem_tuple_cut ht hs pl pu (by rw [hlen];exact hw) ?_ (by rw [hlen];exact hz);rw [hlen];refine ⟨.ref s.heap.objs.size,_,I.laid (t':=s.toks) (o:=.tup (cutV xs lo hi)) (fun b ob q=>Heap.get?_push_of_some _ q) (Nat.le_refl _) ?_,rfl,q _ (I.hok.fresh (Nat.le_refl _))⟩;exact ⟨Nat.le_trans (cutV_length xs lo hi) hz,_,(r.drop (HT.sIx xs.length 0 lo)).take (HT.sIx xs.length xs.length hi - HT.sIx xs.length 0 lo),IsTup.new _ _⟩
noncomputable def rCatT (K:PySem.W.Frag):R2:=fun x y H Q=>∃a b xs ys,x=.ref a∧y=.ref b∧SqT K H a xs∧SqT K H b ys∧xs≠[]∧xs.length+ys.length≤sizeLine ∧
 (ys=[]→Q (.ref a) H)∧(ys≠[]→∀p,H p=none→Q (.ref p) (upd H p (.tup (xs++ys))))
theorem Vals.nil_iff {xs:List V} {us:List Value} (r:Vals xs us):us=[]↔xs=[]:=by
 cases r with
 | nil=>simp
 | cons _ _=>simp
theorem op_catT:OpR X (binaryOp .Add) (rCatT X.K):=by
 intro pins s σ H x y v u Q I rx ry h;obtain ⟨a,b,xs,ys,rfl,rfl,ha,hb,hx,hz,q1,q2⟩:=h;cases rx;cases ry;obtain ⟨its,r1,p1,_⟩:=I.tuple ha;obtain ⟨its2,r2,p2,_⟩:=I.tuple hb;refine HT.cat_tup p1 p2 (fun z=>hx (r1.nil_iff.mp z)) (fun z=>⟨.ref a,H,I,rfl,q1 (r2.nil_iff.mp z)⟩) (fun z=>?_) (by rw [←r1.length,←r2.length];exact hz);refine ⟨.ref s.heap.objs.size,_,I.laid (t':=s.toks) (o:=.tup (xs++ys)) (fun b ob q=>Heap.get?_push_of_some _ q) (Nat.le_refl _) ?_,rfl,q2 (fun w=>z (r2.nil_iff.mpr w)) _ (I.hok.fresh (Nat.le_refl _))⟩;exact ⟨by rw [List.length_append];exact hz,_,r1.append r2,IsTup.new _ _⟩
end L2
namespace L2
open PySem PySem.Spec PyProof.Rows
noncomputable def ixN (n:Nat) (i:Int):Option Nat:=if 0≤i then (if i < n then some i.toNat else none) else if -(n:Int)≤i then some (i+n).toNat else none
noncomputable def atI {α:Type} (xs:List α) (i:Int):Option α:=(ixN xs.length i).bind fun j=>xs[j]?
theorem ixN_seq {n:Nat} {i:Int} {j:Nat} (h:ixN n i=some j):seqIndex? i n=some j∧j < n∧-(n:Int)≤i∧i < n:=by
 unfold ixN at h
 by_cases h0:0≤i
 ·rw [if_pos h0] at h
  by_cases h1:i < n
  ·rw [if_pos h1] at h
   have e:i.toNat=j:=Option.some.inj h;exact ⟨by rw [seqIndex_of h0 h1,e],by omega,by omega,h1⟩
  ·rw [if_neg h1] at h;cases h
 ·rw [if_neg h0] at h
  by_cases h1:-(n:Int)≤i
  ·rw [if_pos h1] at h
   have e:(i+n).toNat=j:=Option.some.inj h;exact ⟨by rw [seqIndex_neg (by omega) h1,e],by omega,h1,by omega⟩
  ·rw [if_neg h1] at h;cases h
theorem atI_get {α:Type} {xs:List α} {i:Int} {v:α} (h:atI xs i=some v):∃j,seqIndex? i xs.length=some j∧xs[j]?=some v∧j < xs.length∧-(xs.length:Int)≤i∧i < xs.length:=by
 unfold atI at h
 cases e:ixN xs.length i with
 | none=>rw [e] at h;cases h
 | some j=>
  rw [e] at h;obtain ⟨h1,h2,h3,h4⟩:=ixN_seq e;exact ⟨j,h1,h,h2,h3,h4⟩
noncomputable def PlainIx (b:Expr):Prop:=∀o i,subscripted b false o i=operate [o,i] (getItem o i)
noncomputable def IxR (X:Cx) (r:R2):Prop:=
 ∀(value slice:Expr) (pins:List (Addr×Obj)) (s:Shared) (σ:St) (H:Hp) (x y:V) (v u:Value) (Q:VK),Inv X pins σ H s→RelV x v→RelV y u→r x y H Q →
  subscripted slice false v u=operate [v,u] (getItem v u)→wpAny (model X.prog X.w) X.A (subscriptTail value slice v u) (EP X pins σ Q) X.xe s
noncomputable def MtR (X:Cx) (id:String) (r:V→List V→Hp→VK→Prop):Prop:=
 ∀(pins:List (Addr×Obj)) (s:Shared) (σ:St) (H:Hp) (x:V) (xs:List V) (v:Value) (us:List Value) (Q:VK),Inv X pins σ H s→RelV x v→Vals xs us→r x xs H Q →
  wpAny (model X.prog X.w) X.A (call (.builtin id) (v :: us)) (EP X pins σ Q) X.xe s
section
variable {P:Program} {w:World} {H:Hp} {h:Heap} {a:Addr}
theorem rd_of {u:HO} (ok:HOk P w H h) (e:Rd H a u):ObjOk P w H h a u:=e.ok ok
theorem dk_rd {kvs:List (Key×V)} (ok:HOk P w H h) (e:Rd H a (.dK kvs)):kvs.length≤sizeLine∧(a==sysModules)=false∧∃vs,KV kvs vs∧h.DictOf (mixKind P w) a vs:=
 show ObjOk P w H h a (.dK kvs) from rd_of ok e
theorem dk_of {kvs:List (Key×V)} (ok:HOk P w H h) (e:H a=some (.dK kvs)):kvs.length≤sizeLine∧(a==sysModules)=false∧∃vs,KV kvs vs∧h.DictOf (mixKind P w) a vs:=dk_rd ok (.inl e)
theorem key_of {ks:List Key} (ok:HOk P w H h) (e:H a=some (.tup (ks.map kV))):(tupleKind (mixKind P w)).is h ks a:=by
 obtain ⟨_,its,r,o,h1,h2,n,h3⟩:=(show ObjOk P w H h a (.tup (ks.map kV)) from ok a _ e);exact ⟨o,its.toArray,n,h1,h2,h3,by simpa using items_are r⟩
theorem dt_rd {kvs:List (List Key×V)} (ok:HOk P w H h) (e:Rd H a (.dT kvs)):kvs.length≤sizeLine∧(a==sysModules)=false ∧
  ∃xs,KT H kvs xs∧h.DictOfH (tupleKind (mixKind P w)) a xs:=by
 obtain ⟨z,y,xs,r,o,es,ep,h1,h2,h3,h4,h5⟩:=(show ObjOk P w H h a (.dT kvs) from rd_of ok e);refine ⟨z,y,xs,r,o,es,ep,h1,h2,h3,h4,fun x hx=>?_,h5⟩
 have all:∀ {l:List (List Key×V)} {m:List (List Key×Addr×Value)},KT H l m→∀x∈m,(tupleKind (mixKind P w)).is h x.1 x.2.1:=by
  intro l m q
  induction q with
  | nil=>intro x hx;exact nomatch hx
  | @cons p q ps qs hq t ih=>
   intro x hx
   rcases List.mem_cons.mp hx with e | hx
   ·subst e
    exact key_of ok (by rw [←hq.1];exact hq.2.1)
   ·exact ih x hx
 exact all r x hx
theorem dt_of {kvs:List (List Key×V)} (ok:HOk P w H h) (e:H a=some (.dT kvs)):kvs.length≤sizeLine∧(a==sysModules)=false ∧
  ∃xs,KT H kvs xs∧h.DictOfH (tupleKind (mixKind P w)) a xs:=dt_rd ok (.inl e)
end
noncomputable def DGet (H:Hp) (a:Addr) (y:V) (r:Option V):Prop:=
 (∃kvs k,Rd H a (.dK kvs)∧y=kV k∧r=valV kvs k)∨∃kvs k b,Rd H a (.dT kvs)∧y=.ref b∧H b=some (.tup (k.map kV))∧r=valV kvs k
noncomputable def DPut (H:Hp) (a:Addr) (y v:V) (H':Hp):Prop:=
 (∃kvs k,H a=some (.dK kvs)∧y=kV k∧kvs.length < sizeLine∧H'=upd H a (.dK (putK kvs k v))) ∨
 ∃kvs k b,H a=some (.dT kvs)∧y=.ref b∧H b=some (.tup (k.map kV))∧kvs.length < sizeLine∧H'=upd H a (.dT (putK kvs k v))
theorem DGet.k {H:Hp} {a:Addr} {kvs:List (Key×V)} {k:Key} (e:H a=some (.dK kvs)):DGet H a (kV k) (valV kvs k):=.inl ⟨kvs,k,.inl e,rfl,rfl⟩
theorem DGet.t {H:Hp} {a b:Addr} {kvs:List (List Key×V)} {k:List Key} (e:H a=some (.dT kvs)) (eb:H b=some (.tup (k.map kV))):DGet H a (.ref b) (valV kvs k):=.inr ⟨kvs,k,b,.inl e,rfl,eb,rfl⟩
theorem DPut.k {H:Hp} {a:Addr} {kvs:List (Key×V)} {k:Key} {v:V} (e:H a=some (.dK kvs)) (hl:kvs.length < sizeLine):DPut H a (kV k) v (upd H a (.dK (putK kvs k v))):=.inl ⟨kvs,k,e,rfl,hl,rfl⟩
theorem DPut.t {H:Hp} {a b:Addr} {kvs:List (List Key×V)} {k:List Key} {v:V} (e:H a=some (.dT kvs)) (eb:H b=some (.tup (k.map kV))) (hl:kvs.length < sizeLine) :
  DPut H a (.ref b) v (upd H a (.dT (putK kvs k v))):=.inr ⟨kvs,k,b,e,rfl,eb,hl,rfl⟩
variable {X:Cx} {a b:Expr} {ta tb:TE} {pos:Pos}
theorem IxR.or {r r':R2} (h:IxR X r) (h':IxR X r'):IxR X (fun x y H Q=>r x y H Q∨r' x y H Q):=by
 intro value slice pins s σ H x y v u Q I rx ry q hs
 rcases q with q | q
 ·exact h value slice pins s σ H x y v u Q I rx ry q hs
 ·exact h' value slice pins s σ H x y v u Q I rx ry q hs
theorem pe_ix {r:R2} (hr:IxR X r) (ha:PE X a ta) (hb:PE X b tb) (hs:PlainIx b):PE X (.Subscript a b pos) (tOp r ta tb):=by
 intro pins s σ H Q I h;exact Subscript_ (binT ha hb I h fun v u s2 x y H2 I2 rx ry q=>hr a b pins s2 σ H2 x y v u Q I2 rx ry q (hs _ _))
noncomputable def rIxL (K:PySem.W.Frag):R2:=fun x y H Q=>∃p xs i v,x=.ref p∧y=.int i∧SqL K H p xs∧atI xs i=some v∧Q v H
noncomputable def rIxT (K:PySem.W.Frag):R2:=fun x y H Q=>∃p xs i v,x=.ref p∧y=.int i∧SqT K H p xs∧atI xs i=some v∧Q v H
theorem ix_list:IxR X (rIxL X.K):=by
 intro value slice pins s σ H x y v u Q I rx ry h hs;obtain ⟨p,xs,i,z,rfl,rfl,hq,he,q⟩:=h;cases rx;obtain ⟨t,rfl⟩:=ry;obtain ⟨its,r,pl,hz⟩:=I.list hq;obtain ⟨j,h1,h2,h3,h4,h5⟩:=atI_get he;obtain ⟨w,ew,rw'⟩:=r.get h2;have hl:=r.length;have hn:=line63;have fin:EP X pins σ Q w s:=⟨z,H,I,rw',q⟩
 by_cases h0:0≤i
 ·have hj:i.toNat=j:=by
   rw [seqIndex_of h0 h5] at h1;exact Option.some.inj h1
  exact item_listR pl.isList h0 (by omega) (by rw [hj];simpa using ew) fin hs
 ·have hj:(i+(its.toArray.size:Int)).toNat=j:=by
   rw [seqIndex_neg (by omega) h4] at h1;rw [List.size_toArray,←hl];exact Option.some.inj h1
  exact subscriptTail_builtinR (x:=w) pl.isList.typeIs slot_list_getitem.lookup
   (wpAny_getItem_list_neg (Q:=fun r s'=>r=w∧EP X pins σ Q r s') pl.isList (by omega) (by rw [List.size_toArray] <;> omega) (by omega) (by rw [hj];simpa using ew) ⟨rfl,fin⟩) hs
theorem ix_tup:IxR X (rIxT X.K):=by
 intro value slice pins s σ H x y v u Q I rx ry h hs;obtain ⟨p,xs,i,z,rfl,rfl,hq,he,q⟩:=h;cases rx;obtain ⟨t,rfl⟩:=ry;obtain ⟨its,r,pl,hz⟩:=I.tuple hq;obtain ⟨j,h1,h2,h3,h4,h5⟩:=atI_get he;obtain ⟨w,ew,rw'⟩:=r.get h2;have hl:=r.length;have hn:=line63;have fin:EP X pins σ Q w s:=⟨z,H,I,rw',q⟩
 exact subscriptTail_builtinR (x:=w) pl.typeIs slot_tuple_getitem.lookup
  (getItem_tuple (j:=j) (Q:=fun r s'=>r=w∧EP X pins σ Q r s') pl (by omega) (by omega) (by rw [List.size_toArray,←hl];exact h1) (by simpa using ew) ⟨rfl,fin⟩) hs
theorem slice_bounds (lo hi:Option Int) (n:Nat):(sliceBounds lo hi none n).1=((HT.sIx n 0 lo:Nat):Int)∧(sliceBounds lo hi none n).2.1=((HT.sIx n n hi:Nat):Int)∧(sliceBounds lo hi none n).2.2=1:=by
 refine ⟨?_,?_,rfl⟩
 ·cases lo with
  | none=>simp [sliceBounds,HT.sIx]
  | some i=>
   simp only [sliceBounds,HT.sIx,Option.getD_none,show (1:Int) > 0 by decide,if_true]
   by_cases h:i < 0
   ·simp only [h,if_true] <;> omega
   ·simp only [h,if_false] <;> omega
 ·cases hi with
  | none=>simp [sliceBounds,HT.sIx]
  | some i=>
   simp only [sliceBounds,HT.sIx,Option.getD_none,show (1:Int) > 0 by decide,if_true]
   by_cases h:i < 0
   ·simp only [h,if_true] <;> omega
   ·simp only [h,if_false] <;> omega
theorem slicePick_cut (its:List Value) (lo hi:Option Int):slicePick its.toArray lo hi none=((its.drop (HT.sIx its.length 0 lo)).take (HT.sIx its.length its.length hi - HT.sIx its.length 0 lo)).toArray:=by
 obtain ⟨h1,h2,h3⟩:=slice_bounds lo hi its.toArray.size;unfold slicePick;rw [h1,h2,h3]
 simp only [sliceRange_one,pick_run,List.size_toArray] <;> rfl
noncomputable def rSlL (K:PySem.W.Frag):V→Option Int→Option Int→Hp→VK→Prop:=fun x lo hi H Q=>∃a xs,x=.ref a∧SqL K H a xs∧∀p,H p=none→Q (.ref p) (upd H p (.lst (cutV xs lo hi)))
theorem sl_list:SlR X (rSlL X.K):=by
 intro pins s σ H x v vl vu lo hi sl Q I rx hs pl pu h;obtain ⟨a,xs,rfl,hx,q⟩:=h;cases rx;obtain ⟨its,r,ht,hz⟩:=I.list hx;have hlen:=r.length;refine ⟨"list",_,slot_list_getitem.lookup,ht.isList.typeIs,?_⟩;refine wpAny_getItem_list_slice ht.isList hs pl pu .none (by simp) ?_ (by rw [List.size_toArray] <;> omega);rw [slicePick_cut,←hlen];refine ⟨.ref s.heap.objs.size,_,I.laid (t':=s.toks) (o:=.lst (cutV xs lo hi)) (fun b ob q=>Heap.get?_push_of_some _ q) (Nat.le_refl _) ?_,rfl,q _ (I.hok.fresh (Nat.le_refl _))⟩;exact ⟨Nat.le_trans (cutV_length xs lo hi) hz,_,0,(r.drop (HT.sIx xs.length 0 lo)).take (HT.sIx xs.length xs.length hi - HT.sIx xs.length 0 lo),Heap.get?_push_size _ rfl⟩
theorem call_len_seq:CallR X (.builtin "len") (fun xs H Q=>∃p ys,xs=[.ref p]∧(SqL X.K H p ys∨SqT X.K H p ys)∧Q (.int ys.length) H):=by
 intro pins s σ H xs us Q I r h;obtain ⟨p,ys,rfl,hq,q⟩:=h;obtain ⟨u,rfl,rx⟩:=vals1 r;cases rx;have hn:=line63
 rcases hq with hq | hq
 ·obtain ⟨its,r',pl,hz⟩:=I.list hq
  have hlen:=r'.length;exact Calls.call_len_list pl.isList (by simp only [List.size_toArray] <;> omega) ⟨.int ys.length,H,I.tok _,⟨s.toks+1,by rw [List.size_toArray,hlen]⟩,q⟩
 ·obtain ⟨its,r',pl,hz⟩:=I.tuple hq
  have hlen:=r'.length;exact len_tuple pl (by simp only [List.size_toArray] <;> omega) ⟨.int ys.length,H,I.tok _,⟨s.toks+1,by rw [List.size_toArray,hlen]⟩,q⟩
theorem call_list_of:CallR X (.type "list") (fun xs H Q=>∃p ys,xs=[.ref p]∧(SqL X.K H p ys∨SqT X.K H p ys)∧∀l,H l=none→Q (.ref l) (upd H l (.lst ys))):=by
 intro pins s σ H xs us Q I r h;obtain ⟨p,ys,rfl,hq,q⟩:=h;obtain ⟨u,rfl,rx⟩:=vals1 r;cases rx
 have fin:∀(its:List Value),Vals ys its→ys.length≤sizeLine→∀(h':Heap) (c':Nat),(∀b o',s.heap.get? b=some o'→h'.get? b=some o') →
   h'.get? s.heap.objs.size=some { cls:=.type "list",dict:=none,data:=.seq its.toArray c',slots:=#[] }→EP X pins σ Q (.ref s.heap.objs.size) { s with heap:=h' }:=fun its r' hz h' c' kp e=>
  ⟨.ref s.heap.objs.size,_,I.laid (t':=s.toks) kp (Nat.le_refl _) (show ObjOk X.prog X.w _ h' _ (.lst ys) from ⟨hz,its,c',r',e⟩),rfl,q _ (I.hok.fresh (Nat.le_refl _))⟩
 rcases hq with hq | hq
 ·obtain ⟨its,r',pl,hz⟩:=I.list hq
  have hlen:=r'.length;obtain ⟨o,ho,hc,n,hd⟩:=pl.isList;exact call_list_seq p (.inl rfl) ho hc hd (fun h' c' kp e=>fin its r' hz h' c' kp e) (by simp only [List.size_toArray] <;> omega)
 ·obtain ⟨its,r',pl,hz⟩:=I.tuple hq
  have hlen:=r'.length;obtain ⟨o,ho,hc,n,hd⟩:=pl;exact call_list_seq p (.inr rfl) ho hc hd (fun h' c' kp e=>fin its r' hz h' c' kp e) (by simp only [List.size_toArray] <;> omega)
theorem call_tuple_of:CallR X (.type "tuple") (fun xs H Q=>∃p ys,xs=[.ref p]∧((SqL X.K H p ys∧∀l,H l=none→Q (.ref l) (upd H l (.tup ys)))∨(SqT X.K H p ys∧Q (.ref p) H))):=by
 intro pins s σ H xs us Q I r h;obtain ⟨p,ys,rfl,h⟩:=h;obtain ⟨u,rfl,rx⟩:=vals1 r;cases rx
 rcases h with ⟨hq,q⟩ | ⟨hq,q⟩
 ·obtain ⟨its,r',pl,hz⟩:=I.list hq
  have hlen:=r'.length;refine call_tuple_list pl.isList (fun h' kp=>?_) (by simp only [List.size_toArray] <;> omega);have I1:Inv X pins σ H { s with heap:=h' }:=I.kept (t':=s.toks) kp
  have I2:Inv X pins σ (upd H h'.objs.size (.tup ys)) { s with heap:=h'.push { cls:=.type "tuple",data:=.seq its.toArray } }:=
   I1.laid (t':=s.toks) (fun b o e=>Heap.get?_push_of_some _ e) (Nat.le_refl _) (show ObjOk X.prog X.w _ _ _ (.tup ys) from ⟨hz,its,r',IsTup.new _ _⟩)
  exact ⟨.ref h'.objs.size,_,I2,rfl,q _ (I1.hok.fresh (Nat.le_refl _))⟩
 ·obtain ⟨its,r',pl,hz⟩:=I.tuple hq
  exact call_tuple_same pl ⟨.ref p,H,I,rfl,q⟩
noncomputable def tyV (K:PySem.W.Frag) (T:String) (x:V) (H:Hp):Prop:=match x with
 | .str _=>T = "str"
 | .int _=>T = "int"
 | .ref p=>(T = "list"∧∃xs,SqL K H p xs)∨(T = "tuple"∧∃o,K.lookup p=some o∧o.cls=.type "tuple"∧o.dict=none) ∨
   (T = "dict"∧((∃kvs,H p=some (.dK kvs))∨∃kvs,H p=some (.dT kvs)))∨(T = "set"∧∃S n,H p=some (.set S n))
 | _=>False
theorem tyV_is {pins:List (Addr×Obj)} {σ:St} {H:Hp} {s:Shared} {T:String} {x:V} {v:Value} (I:Inv X pins σ H s) (r:RelV x v) (ty:tyV X.K T x H) :
  s.TypeIs v T∧∀a,v=.ref a→∃ob,s.heap.get? a=some ob∧ob.dict=none:=by
 cases x with
 | str z=>
  obtain ⟨t,rfl⟩:=r;cases (show T = "str" from ty);exact ⟨typeIs_str s z t,fun _ e=>nomatch e⟩
 | int i=>
  obtain ⟨t,rfl⟩:=r;cases (show T = "int" from ty);exact ⟨typeIs_int s i t,fun _ e=>nomatch e⟩
 | ref p=>
  cases r
  rcases ty with ⟨rfl,xs,hq⟩ | ⟨rfl,o,hk,hc,hd⟩ | ⟨rfl,hk⟩ | ⟨rfl,S,n,hk⟩
  ·obtain ⟨its,_,pl,_⟩:=I.list hq
   refine ⟨pl.isList.typeIs,fun a e=>?_⟩;cases e;obtain ⟨o,n,e,c,hd,_⟩:=pl;exact ⟨o,e,hd⟩
  ·refine ⟨⟨o,I.kIn p o hk,hc⟩,fun a e=>?_⟩
   cases e;exact ⟨o,I.kIn _ o hk,hd⟩
  ·have z:∃o,s.heap.get? p=some o∧o.ExactDict:=by
    rcases hk with ⟨kvs,hk⟩ | ⟨kvs,hk⟩
    ·obtain ⟨_,_,_,_,o,_,_,e,ex,_⟩:=I.hok p _ hk
     exact ⟨o,e,ex⟩
    ·obtain ⟨_,_,_,_,o,_,_,e,ex,_⟩:=I.hok p _ hk
     exact ⟨o,e,ex⟩
   obtain ⟨o,e,ex⟩:=z;refine ⟨⟨o,e,ex.1⟩,fun a e2=>?_⟩;cases e2;exact ⟨o,e,ex.2.1⟩
  ·obtain ⟨o,_,_,_,e,ex,_⟩:=I.hok p _ hk
   refine ⟨⟨o,e,ex.1⟩,fun a e2=>?_⟩;cases e2;exact ⟨o,e,ex.2.1⟩
 | _=>exact False.elim ty
noncomputable def tBM (K:PySem.W.Frag) (T:String) (r:V→List V→Hp→VK→Prop) (to:TE) (t:TA):TE:=fun σ H Q=>to σ H fun x H1=>tyV K T x H1∧t σ H1 fun xs H2=>r x xs H2 Q
variable {o e:Expr} {es:List Expr} {to:TE} {t:TA} {name:Str} {apos cpos:Pos} {T id:String} {r:V→List V→Hp→VK→Prop}
theorem pe_bm (pa:PlainAttrs T) (slot:Slot T name id) (hty:typeOf (.builtin id)=pure (.type "method_descriptor")) (hm:MtR X id r) (ho:PE X o to) (ha:PA X (e :: es) t)
  (hbase:attributeBase o name X.env (eval o X.env)=eval o X.env:=by rfl)
  (hfew:((backTo cpos (starEach (e :: es) X.env)).all (fun x=>!x.1)&&(backToKw cpos (keywordEach [] X.env)).all (fun x=>x.1.isSome)
    &&decide ((e :: es).length+([]:List Keyword).length+(if ([]:List Keyword).isEmpty then 0 else 1) < 30))=true:=by rfl)
  (hline:(apos.endLine==cpos.line)=true:=by rfl) (hs:starEach (e :: es) X.env=(false,eval e X.env) :: starEach es X.env:=by rfl) (hplain:(backTo cpos (starEach es X.env)).any (·.1)=false:=by rfl) :
  PE X (.Call (.Attribute o name apos) (e :: es) [] cpos) (tBM X.K T r to t):=by
 intro pins s σ H Q I h;refine wpAny_Call_method_late hbase hfew hline rfl (thn (ho pins s σ H _ I h) fun v s1 ⟨x,H1,I1,r1,ty,q1⟩=>?_);obtain ⟨h1,h2⟩:=tyV_is I1 r1 ty;refine ⟨T,id,pa,slot,hty,h1,h2,?_⟩;have hA:=ha cpos pins s1 σ H1 _ I1 q1;rw [hs] at hA ⊢;refine Calls.callWith_builtin (by show (false||(backTo cpos (starEach es X.env)).any (·.1))=false;rw [hplain] <;> rfl) (Calls.evalArgs_plain ?_)
 exact thn hA fun us s2 ⟨vs,H2,I2,r2,q2⟩=>hm pins s2 σ H2 x vs v us Q I2 r1 r2 q2
/- xs.append(e),list.index on a module's tuple .. are MtR facts of 06m -/
end L2
namespace L2
open PySem PySem.Spec PyProof.Rows
noncomputable def MtM (X:Cx) (id:String) (r:V→List V→Hp→VK→Prop):Prop:=
 ∀(pins:List (Addr×Obj)) (s:Shared) (σ:St) (H:Hp) (x:V) (xs:List V) (v:Value) (us:List Value) (Q:VK),Inv X pins σ H s→RelV x v→Vals xs us→r x xs H Q →
  wpAny (model X.prog X.w) X.A (call (.builtin id) (v :: us)) (EP X pins σ Q) X.xe s
theorem Vals.one:∀ {x:V} {us:List Value},Vals [x] us→∃u,us=[u]∧RelV x u
 | _,_,.cons r .nil=>⟨_,rfl,r⟩
section
variable {X:Cx} {pins:List (Addr×Obj)} {σ:St} {H:Hp} {s:Shared} {a:Addr} {y v:V} {u r:Value} {o:Option V} {A:Around} {E:Value→Shared→Prop}
theorem Inv.big (I:Inv X pins σ H s):sysModules < s.heap.objs.size:=by
 have h:mainGlobals < s.heap.objs.size:=(I.mod.glob.keeps I.bk).lt;exact Nat.lt_trans (by decide) h
theorem d_getItem {Q:Value→Shared→Prop} (hu:A.units+1 < cLine) (I:Inv X pins σ H s) (g:DGet H a y (some v)) (ry:RelV y u) (h:∀w' s',Inv X pins σ H s'→RelV v w'→Q w' s') :
  wpAny (model X.prog X.w) A (getItem (.ref a) u) Q E s:=by
 rcases g with ⟨kvs,k,e,ey,l⟩ | ⟨kvs,k,b,e,ey,eb,l⟩
 ·subst ey
  obtain ⟨z,hd,vs,rel,dd⟩:=dk_rd I.hok e;obtain ⟨w',hw,rw'⟩:=RelO.some_of (v:=v) (o:=valueAt vs k) (by rw [l];exact rel.val k);exact wpAny_getItem_of (kV_is ry) dd.mapOf hw (h w' _ (I.tok _) rw')
 ·subst ey
  cases (show u=Value.ref b from ry);obtain ⟨z,hd,xs,rel,dd⟩:=dt_rd I.hok e;obtain ⟨w',hw,rw'⟩:=RelO.some_of (v:=v) (o:=(atKey xs k).map (·.2)) (by rw [l];exact rel.val k);obtain ⟨p,hp,hp2⟩:=Option.map_eq_some_iff.mp hw;refine wpAny_getItem_heap (tupleKind_room_in1 hu) (key_of I.hok eb) dd hp ?_;rw [hp2];exact h w' _ (I.tok _) rw'
theorem d_in {Q:Value→Shared→Prop} (hu:A.units+1 < cLine) (I:Inv X pins σ H s) (g:DGet H a y o) (ry:RelV y u) (h:∀s',Inv X pins σ H s'→Q (.bool o.isSome) s') :
  wpAny (model X.prog X.w) A (compareOp .In u (.ref a)) Q E s:=by
 rcases g with ⟨kvs,k,e,ey,l⟩ | ⟨kvs,k,b,e,ey,eb,l⟩
 ·subst ey
  obtain ⟨z,hd,vs,rel,dd⟩:=dk_rd I.hok e;refine wpAny_in_of (kV_is ry) hd dd.mapOf ?_;rw [←(rel.val k).isSome_eq,←l];exact h _ (I.tok _)
 ·subst ey
  cases (show u=Value.ref b from ry);obtain ⟨z,hd,xs,rel,dd⟩:=dt_rd I.hok e;refine wpAny_in_heap (tupleKind_room_in1 hu) (key_of I.hok eb) hd dd ?_;have q:=(rel.val k).isSome_eq;rw [Option.isSome_map] at q;rw [←q,←l];exact h _ (I.tok _)
theorem d_notIn {Q:Value→Shared→Prop} (hu:A.units+1 < cLine) (I:Inv X pins σ H s) (g:DGet H a y o) (ry:RelV y u) (h:∀s',Inv X pins σ H s'→Q (.bool (!o.isSome)) s') :
  wpAny (model X.prog X.w) A (compareOp .NotIn u (.ref a)) Q E s:=by
 rcases g with ⟨kvs,k,e,ey,l⟩ | ⟨kvs,k,b,e,ey,eb,l⟩
 ·subst ey
  obtain ⟨z,hd,vs,rel,dd⟩:=dk_rd I.hok e;refine wpAny_notIn_of (kV_is ry) hd dd.mapOf ?_;rw [←(rel.val k).isSome_eq,←l];exact h _ (I.tok _)
 ·subst ey
  cases (show u=Value.ref b from ry);obtain ⟨z,hd,xs,rel,dd⟩:=dt_rd I.hok e;refine wpAny_notIn_heap (tupleKind_room_in1 hu) (key_of I.hok eb) hd dd ?_;have q:=(rel.val k).isSome_eq;rw [Option.isSome_map] at q;rw [←q,←l];exact h _ (I.tok _)
theorem d_write {h':Heap} {t':Nat} {ob:HO} (I:Inv X pins σ H s) (mu:Mut (H a)) (hs:Heap.SameBut a s.heap h') (he:∃q,h'.get? a=some q) (new:ObjOk X.prog X.w (upd H a ob) h' a ob) :
  Inv X pins σ (upd H a ob) { s with heap:=h',toks:=t' }:=
 I.write (x:=a) (e:=a) mu (.inl rfl) (fun b q hb z=>(hs.2 b hb).trans z) he new
theorem dk_new {P:Program} {w:World} {H':Hp} {h':Heap} {kvs:List (Key×V)} {vs:List (Key×Value)} (z:kvs.length≤sizeLine) (hd:(a==sysModules)=false) (rel:KV kvs vs) (dd:h'.DictOf (mixKind P w) a vs) :
  ObjOk P w H' h' a (.dK kvs):=⟨z,hd,vs,rel,dd⟩
theorem d_setItem {H':Hp} {Q:Unit→Shared→Prop} (hu:A.units+1 < cLine) (I:Inv X pins σ H s) (g:DPut H a y v H') (ry:RelV y u) (rv:RelV v r) (h:∀s',Inv X pins σ H' s'→Q () s') :
  wpAny (model X.prog X.w) A (setItem (.ref a) u r) Q E s:=by
 rcases g with ⟨kvs,k,e,ey,l,eH⟩ | ⟨kvs,k,b,e,ey,eb,l,eH⟩
 ·subst ey eH
  obtain ⟨z,hd,vs,rel,dd⟩:=dk_of I.hok e
  have hz:vs.length≤sizeLine:=by rw [←rel.length];exact z
  have hl:(putK kvs k v).length≤sizeLine:=by have:=length_putK kvs k v;omega
  refine wpAny_setItem_pairs (hsz:=hz) (kV_is ry) dd fun h' dd' hs=>h _ ?_
  have he:∃q,h'.get? a=some q:=let ⟨q,_,_,hq,_⟩:=dd';⟨q,hq⟩
  exact d_write I (by rw [e];exact True.intro) hs he (dk_new hl hd (rel.put k rv) dd')
 ·subst ey eH
  cases (show u=Value.ref b from ry);obtain ⟨z,hd,xs,rel,dd⟩:=dt_of I.hok e
  have hz:xs.length≤sizeLine:=by rw [←Paired.length rel];exact z
  have hl:(putK kvs k v).length≤sizeLine:=by have:=length_putK kvs k v;omega
  refine wpAny_setItem_heap (hsz:=hz) (tupleKind_room_in1 hu) (key_of I.hok eb) dd fun h' dd' hs=>h _ ?_
  obtain ⟨q,es,ep,hq,h2,h3,h4,_,h5⟩:=dd';refine d_write I (by rw [e];exact True.intro) hs ⟨q,hq⟩ ⟨hl,hd,_,(rel.put k eb rv).keeps fun c ys ec=>?_,q,es,ep,hq,h2,h3,h4,h5⟩;rw [upd_ne (ne_of ec e (fun z=>nomatch z))];exact ec
variable {X:Cx} {pins:List (Addr×Obj)} {σ:St} {H:Hp} {s:Shared} {l b:Addr} {xs ys zs:List V}
theorem Inv.lset {its its':List Value} {n:Nat} {f:Array Value→Array Value} {t':Nat} (I:Inv X pins σ H s) (hH:H l=some (.lst xs))
  (e:s.heap.get? l=some { cls:=.type "list",data:=.seq its.toArray n }) (hf:f its.toArray=its'.toArray) (hv:Vals ys its') (hz:ys.length≤sizeLine) :
  Inv X pins σ (upd H l (.lst ys)) { s with heap:=s.heap.update l (Obj.mapSeq f),toks:=t' }:=by
 have q:=PySem.IsL.update e f;rw [hf] at q;refine I.write (x:=l) (e:=l) (by rw [hH];exact trivial) (.inl rfl) (fun b' u hb hu=>(Heap.get?_update_other s.heap (Obj.mapSeq f) (Ne.symm hb)).trans hu) ⟨_,q⟩ ?_;exact ⟨hz,its',_,hv,q⟩
theorem Inv.lnew {its:List Value} {t':Nat} (I:Inv X pins σ H s) (hv:Vals ys its) (hz:ys.length≤sizeLine) :
  Inv X pins σ (upd H s.heap.objs.size (.lst ys)) { s with heap:=s.heap.push { cls:=.type "list",data:=.seq its.toArray },toks:=t' }:=
 I.laid (fun _ _ q=>Heap.get?_push_of_some _ q) (Nat.le_refl _) ⟨hz,its,0,hv,Heap.get?_push_size _ rfl⟩
theorem Inv.fresh (I:Inv X pins σ H s):H s.heap.objs.size=none:=I.hok.fresh (Nat.le_refl _)
theorem Inv.lstM (I:Inv X pins σ H s) (hH:H l=some (.lst xs)):xs.length≤sizeLine∧∃(its:List Value) (n:Nat),Vals xs its∧xs.length=its.length∧s.heap.get? l=some { cls:=.type "list",data:=.seq its.toArray n }:=by
 obtain ⟨z,its,n,r,e⟩:=I.hok l _ hH;exact ⟨z,its,n,r,r.length,e⟩
theorem notLongL {n:Nat} (h:n≤sizeLine):Builtin.List.listTooLong n=false:=by
 unfold Builtin.List.listTooLong;exact decide_eq_false (by omega)
end
section
variable {X:Cx} {pins:List (Addr×Obj)} {σ:St} {H:Hp} {s:Shared} {a:Addr} {kvs:List (Key×V)} {k:Key} {u:Value} {A:Around} {E:Value→Shared→Prop}
end
noncomputable def NoSl (i:Expr):Prop:=∀ov iv,subscripted i false ov iv=operate [ov,iv] (getItem ov iv)
theorem subD_of {prog:Program} {w:World} {A:Around} {E:Value→Shared→Prop} {s:Shared} {env:Env} {value slice:Expr} {pos:Pos} {T id:String} {Q:Value→Shared→Prop}
  (hl:typeLookup (.type T) "__getitem__" = pure (some (.builtin id))) (hs:NoSl slice)
  (h:wpAny (model prog w) A (eval value env) (fun o s₁=>wpAny (model prog w) A (eval slice env) (fun i s₂=>s₂.TypeIs o T∧wpAny (model prog w) A (getItem o i) Q E s₂) E s₁) E s) :
  wpAny (model prog w) A (eval (.Subscript value slice pos) env) Q E s:=by
 refine Subscript_ (wpAny_mono h (fun o s₁ h₁=>wpAny_mono h₁ (fun i s₂ h₂=>?_) fun _ _ x=>x) fun _ _ x=>x);obtain ⟨hT,h₂⟩:=h₂;unfold subscriptTail;refine wpAny_bind ?_;rw [getitemInPython_of_ne hT.not_modules];refine wpAny_bind (wpAny_specialOf hT hl ?_)
 have fin:wpAny (model prog w) A (subscripted slice false o i) (fun r s₃=>wpAny (model prog w) A (letTemporaryGo value o r >>= fun _=>pure r) Q E s₃) E s₂:=by
  rw [hs o i];exact wpAny_operating (wpAny_mono h₂ (fun r s₃ h₃=>wpAny_bind (wpAny_letTemporaryGo (wpAny_pure h₃))) fun _ _ x=>x)
 first
  | exact wpAny_pure (wpAny_bind fin)
  | exact wpAny_bind (wpAny_pure (wpAny_bind fin))
  | exact wpAny_bind fin
theorem dict_typeIs {X:Cx} {pins:List (Addr×Obj)} {σ:St} {H:Hp} {s:Shared} {a:Addr} {y:V} {o:Option V} (I:Inv X pins σ H s) (g:DGet H a y o):s.TypeIs (.ref a) "dict":=by
 rcases g with ⟨kvs,k,e,_,_⟩ | ⟨kvs,k,b,e,_,_,_⟩
 ·obtain ⟨_,_,vs,_,dd⟩:=dk_rd I.hok e
  exact dd.typeIs
 ·obtain ⟨_,_,xs,_,dd⟩:=dt_rd I.hok e
  exact dd.typeIs
noncomputable def tDGet (td ty:TE):TE:=fun σ H Q=>td σ H fun x H1=>ty σ H1 fun y H2=>∃a v,x=.ref a∧DGet H2 a y (some v)∧Q v H2
noncomputable def tDIn (ty td:TE):TE:=fun σ H Q=>ty σ H fun y H1=>td σ H1 fun x H2=>∃a o,x=.ref a∧DGet H2 a y o∧Q (.bl o.isSome) H2
noncomputable def tDNotIn (ty td:TE):TE:=fun σ H Q=>ty σ H fun y H1=>td σ H1 fun x H2=>∃a o,x=.ref a∧DGet H2 a y o∧Q (.bl (!o.isSome)) H2
noncomputable def sDPut (td ty tv:TE):TS:=fun D σ H=>tv σ H fun v H1=>td σ H1 fun x H2=>ty σ H2 fun y H3=>∃a H4,x=.ref a∧DPut H3 a y v H4∧D.nx σ H4
variable {X:Cx}
noncomputable def rAppend:V→List V→Hp→VK→Prop:=fun x vs H Q=>∃l xs y,x=.ref l∧vs=[y]∧H l=some (.lst xs)∧xs.length < sizeLine∧Q .non (upd H l (.lst (xs++[y])))
theorem mt_append:MtM X "list.append" rAppend:=by
 intro pins s σ H x vs v us Q I rx rv h;obtain ⟨l,xs,y,rfl,rfl,hH,hz,q⟩:=h;cases rx;obtain ⟨u,rfl,ru⟩:=rv.one;obtain ⟨z,its,n,r,hl,e⟩:=I.lstM hH;refine call_meets F.slot_list_append ⟨_,e,rfl⟩ F.entry_list_append (F.args_list_append_2 _ _) (PySem.list_append l its.toArray n u (by rw [List.size_toArray];omega)) ⟨e,?_⟩;refine ⟨.non,_,I.lset (its':=its++[u]) hH e (by simp) (r.append (.cons ru .nil)) ?_,rfl,q⟩;rw [List.length_append,List.length_singleton];omega
noncomputable def rExtend:V→List V→Hp→VK→Prop:=fun x vs H Q=>∃l b xs zs,x=.ref l∧vs=[.ref b]∧H l=some (.lst xs)∧H b=some (.lst zs)∧xs.length+zs.length≤sizeLine∧Q .non (upd H l (.lst (xs++zs)))
theorem mt_extend:MtM X "list.extend" rExtend:=by
 intro pins s σ H x vs v us Q I rx rv h;obtain ⟨l,b,xs,zs,rfl,rfl,hH,hB,hz,q⟩:=h;cases rx;obtain ⟨u,rfl,ru⟩:=rv.one;cases ru;obtain ⟨z,its,n,r,hl,e⟩:=I.lstM hH;obtain ⟨z2,its2,n2,r2,hl2,e2⟩:=I.lstM hB
 have hsz:its.toArray.size+its2.toArray.size≤sizeLine:=by rw [List.size_toArray,List.size_toArray];omega
 have hlong:¬(!its.toArray.isEmpty&&Builtin.List.listTooLong (its.toArray.size+its2.toArray.size))=true:=by
  rw [notLongL hsz,Bool.and_false];exact Bool.false_ne_true
 refine call_meets F.slot_list_extend ⟨_,e,rfl⟩ F.entry_list_extend (F.args_list_extend_2 _ _)
  (AutoSeq1.list_extend_list_list_0 l its.toArray n b its2.toArray n2 hlong (by rw [List.size_toArray];omega) (by omega)) ⟨e,e2,?_⟩
 refine ⟨.non,_,I.lset (its':=its++its2) hH e (by simp) (r.append r2) ?_,rfl,q⟩;rw [List.length_append];omega
noncomputable def rCat:R2:=fun x y H Q=>∃l b xs zs,x=.ref l∧y=.ref b∧H l=some (.lst xs)∧H b=some (.lst zs)∧xs.length+zs.length≤sizeLine∧∀p,H p=none→Q (.ref p) (upd H p (.lst (xs++zs)))
theorem op_cat:OpR X (binaryOp .Add) rCat:=by
 intro pins s σ H x y v u Q I rx ry h;obtain ⟨l,b,xs,zs,rfl,rfl,hH,hB,hz,q⟩:=h;cases rx;cases ry;obtain ⟨z,its,n,r,hl,e⟩:=I.lstM hH;obtain ⟨z2,its2,n2,r2,hl2,e2⟩:=I.lstM hB;refine PySem.P.add_list e e2 ?_ (by rw [List.size_toArray,List.size_toArray];omega)
 have ea:its.toArray++its2.toArray=(its++its2).toArray:=by simp
 rw [ea];exact ⟨.ref _,_,I.lnew (t':=s.toks) (r.append r2) (by rw [List.length_append];omega),rfl,q _ I.fresh⟩
section
variable {X:Cx} {o i e value:Expr} {pos pos' tpos:Pos} {td ty tv:TE}
theorem pe_dget (hu:X.A.units+1 < cLine) (ho:PE X o td) (hi:PE X i ty) (hs:NoSl i):PE X (.Subscript o i pos) (tDGet td ty):=by
 intro pins s σ H Q I h;refine subD_of PySem.F.slot_dict_getitem.lookup hs (thn (ho pins s σ H _ I h) fun u s1 ⟨x,H1,I1,rx,q1⟩=>thn (hi pins s1 σ H1 _ I1 q1) fun iv s2 ⟨y,H2,I2,ry,a,v,ex,g,q2⟩=>?_);subst ex;obtain rfl:u=Value.ref a:=rx;exact ⟨dict_typeIs I2 g,d_getItem hu I2 g ry fun w' s3 I3 rw'=>⟨v,H2,I3,rw',q2⟩⟩
theorem pc_din (hu:X.A.units+1 < cLine) (hi:PE X i ty) (ho:PE X o td):PC X .In i o (tDIn ty td):=by
 intro pins s σ H Q I h
 refine thn (hi pins s σ H _ I h) fun iv s1 ⟨y,H1,I1,ry,q1⟩=>thn (ho pins s1 σ H1 _ I1 q1) fun u s2 ⟨x,H2,I2,rx,a,ov,ex,g,q2⟩=>?_
 subst ex;obtain rfl:u=Value.ref a:=rx
 exact d_in hu I2 g ry fun s3 I3=>⟨.bl ov.isSome,H2,I3,rfl,q2⟩
theorem pc_dnotin (hu:X.A.units+1 < cLine) (hi:PE X i ty) (ho:PE X o td):PC X .NotIn i o (tDNotIn ty td):=by
 intro pins s σ H Q I h
 refine thn (hi pins s σ H _ I h) fun iv s1 ⟨y,H1,I1,ry,q1⟩=>thn (ho pins s1 σ H1 _ I1 q1) fun u s2 ⟨x,H2,I2,rx,a,ov,ex,g,q2⟩=>?_
 subst ex;obtain rfl:u=Value.ref a:=rx
 exact d_notIn hu I2 g ry fun s3 I3=>⟨.bl (!ov.isSome),H2,I3,rfl,q2⟩
theorem ps_dput (hu:X.A.units+1 < cLine) (ho:PE X o td) (hi:PE X i ty) (hv:PE X value tv) (hs:swapsWith value (some (.Subscript o i pos')) pos.line X.env=pure false) :
  PS X (.Assign [.Subscript o i pos'] value pos) (sDPut td ty tv):=by
 intro pins s σ H D I h;refine wpAny_Assign_Subscript (thn (hv pins s σ H _ I h) fun r s1 ⟨v,H1,I1,rv,q1⟩=>thn (ho pins s1 σ H1 _ I1 q1) fun u s2 ⟨x,H2,I2,rx,q2⟩=>thn (hi pins s2 σ H2 _ I2 q2) fun iv s3 ⟨y,H3,I3,ry,a,H4,ex,g,q3⟩=>?_) hs;subst ex;obtain rfl:u=Value.ref a:=rx
 exact d_setItem hu I3 g ry rv fun s4 I4=>⟨σ,H4,I4,q3⟩
end
theorem dt_empty {P:Program} {w:World} {H:Hp} (h:Heap) (hb:sysModules < h.objs.size):ObjOk P w H (h.push { cls:=.type "dict",data:=.dict #[] }) h.objs.size (.dT []):=
 ⟨Nat.zero_le _,beq_eq_false_iff_ne.mpr (Ne.symm (Nat.ne_of_lt hb)),[],.nil,_,#[],0,Heap.get?_push_size _ rfl,⟨rfl,rfl,rfl⟩,rfl,rfl,List.nodup_nil⟩
noncomputable def tDNewT:TE:=fun _ H Q=>∀p,H p=none→Q (.ref p) (upd H p (.dT []))
variable {prog:Program} {w:World} {A:Around} {E:Value→Shared→Prop} {s:Shared}
section
variable {X:Cx} {pos:Pos}
theorem pe_dnewT:PE X (.Dict [] [] pos) tDNewT:=fun pins s σ H Q I h=>
 wpAny_Dict_empty ⟨.ref s.heap.objs.size,_,I.laid (a:=s.heap.objs.size) (o:=.dT []) (t':=s.toks) (fun _ _ q=>Heap.get?_push_of_some _ q) (Nat.le_refl _) (dt_empty s.heap I.big),rfl,h _ (I.hok.fresh (Nat.le_refl _))⟩
end
section
variable {X:Cx} {pins:List (Addr×Obj)} {σ:St} {H:Hp} {s:Shared} {a:Addr} {y d:V} {u r:Value} {o:Option V} {A:Around} {E:Value→Shared→Prop}
end
section
variable {X:Cx} {o e f:Expr} {apos cpos:Pos} {td ty tx:TE}
end
section
variable {X:Cx} {pins:List (Addr×Obj)} {σ:St} {H:Hp} {s:Shared} {a:Addr} {kvs:List (Key×V)} {A:Around} {E:Value→Shared→Prop}
end
section
variable {X:Cx} {pins:List (Addr×Obj)} {σ:St} {H:Hp} {s:Shared} {a:Addr} {y:V} {u:Value} {A:Around} {E:Value→Shared→Prop}
variable {X:Cx}
end
end L2
namespace Att
open PySem PySem.W PySem.Calls PyProof.Rows
theorem ints_of_wellAll {P:Params} {h:Heap}:∀(ns:List Int) (vs:List Value),WellAll P h vs (ns.map WData.int)→IntsAre vs ns:=by
 intro ns
 induction ns with
 | nil=>
  intro vs w;rw [List.map_nil] at w;cases w;exact .nil
 | cons n ns ih=>
  intro vs w;rw [List.map_cons] at w
  cases w with
  | cons a b=>
   cases a;exact .cons _ _ (ih _ b)
theorem script_of {l:OpenLaw} {n:Nat} (hn:l.most=some n) {P:Params} {h:Heap} {args:List WData} {vals:List Value}
  (hpre:l.row.toRowW.claim.pre args=true) (hwl:WellAll P h vals args) :
  ∃a vs ns,vals=[Value.ref a]∧args=[WData.list (ns.map WData.int)]∧h.get? a=some { cls:=.type "list",data:=.seq vs.toArray }∧IntsAre vs ns∧ns.length≤n:=by
 have hsh:WShape.hasAll [] args [.list .int]=true:=(pre_splitW hpre).1;have hc:l.pre.holds [] { args:=args }=true:=(pre_splitW hpre).2;obtain ⟨d,r,rfl,h1,h2⟩:=hasAllW_cons hsh;obtain rfl:=hasAllW_nil h2;obtain ⟨xs,rfl,h3⟩:=hasW_list h1;obtain ⟨ns,rfl⟩:=items_int h3
 have hlen:ns.length≤n:=by
  unfold OpenLaw.pre at hc
  have h4:(WTm.not (.lt (.lit (.int (n:Int))) (.len (.arg 0)))).holds [] { args:=[.list (ns.map .int)] }=true:=by
   have h4:=(holds_andW hc).1;rw [hn] at h4;exact h4
  have h5:=condW_of h4 (w_not (w_lt w_lit (w_len_list (w_arg rfl))));rw [List.length_map] at h5
  refine Nat.le_of_not_lt fun q=>?_
  have q':(n:Int) < ((ns.length:Nat):Int):=by omega
  first
   | (rw [decide_eq_true q'] at h5;exact absurd h5 (by decide))
   | (simp at h5;omega)
 cases hwl with
 | cons w1 w2=>
  cases w2
  cases w1 with
  | list ho hall=>exact ⟨_,_,ns,rfl,rfl,ho,ints_of_wellAll ns _ hall,hlen⟩
theorem post_true (l:OpenLaw) (args:List WData):l.row.toRowW.claim.post args (.bool true) args=true:=
 postW_of (r:=l.row.toRowW) (X:=(true==true))
  (show WShape.has [] (.bool true) .bool=true by first | rfl | decide | simp [WShape.has,WShape.arms,WShape.armsAll])
  (show (WTm.eq .res (.lit (.bool true))).value [] { args:=args,res:=some (.bool true),after:=args }=some (.bool (true==true)) from w_eq_bool (w_res rfl) w_lit) rfl
theorem attach_call {l:OpenLaw} {n:Nat} {q:Program} {loose:List Str} {XP:(Str→Option Value)→Heap→Prop} {YP:World→Heap→Prop} {d:DefRec}
  (hn:l.most=some n) (hdf:d.params.defaults=[])
  (call:∀(w:World) (s₀ s₁:Shared) (mg mb:Str→Option Value) (fa:Addr) (o:Obj) (pm cd doc:Value) (a:Addr) (vs:List Value) (ns:List Int),
   Ground q loose [] XP w s₀ mg mb s₁.heap→YP w s₁.heap →
   s₁.heap.get? fa=some o→o.data=.func (docDef d.name d.params d.body d.scope pm cd doc)→s₁.heap.CodeRec cd d.name→mg d.name=some (.ref fa) →
   s₁.heap.get? a=some { cls:=.type "list",data:=.seq vs.toArray }→IntsAre vs ns→ns.length≤n→s₁.gens = #[] →
   codeAny (model l.prog w) callerA (.call (.ref fa) ⟨[.ref a],[]⟩) (fun r s'=>r=.ok (.ret (.bool true))∧OldK s₁.heap s'.heap∧s'.os=s₁.os∧AllBare s'.gens) s₁) :
  WalkO q loose XP YP l.row.toRowW d [] (fun f vs=>PySem.call f vs):=by
 intro w s₀ s₁ mg mb G Y fa o pm cd doc dV kV ho hd hcd hD hmg hg args vals as hpre hlay hrd hwl hlo;obtain rfl:dV=.none:=Dflts.none hD hdf;obtain rfl:kV=.none:=Dflts.noKw hD;obtain ⟨a,vs,ns,rfl,rfl,hobj,hints,hlen⟩:=script_of hn hpre hwl;refine enter_call (codeAny_mono (call w s₀ s₁ mg mb fa o pm cd doc a vs ns G Y ho (fd_plain hd) hcd hmg hobj hints hlen hg) fun r s' hq=>?_);obtain ⟨rfl,h2,h3,h4⟩:=hq;exact ⟨.inl ⟨.bool true,.bool true,[],rfl,fun _=>rfl,.bool true,post_true l _,fun _=>⟨List.Pairwise.nil,fun _ hm=>(nomatch hm)⟩⟩,h2,h3,h4⟩
section
variable {prog:Program} {w:World} {A:Around} {E:Value→Shared→Prop} {s:Shared} {K:Frag}
end
end Att
namespace L2
open PySem PySem.Spec PyProof.Rows
theorem vals_ints:∀ {vs:List Value} {ns:List Int},IntsAre vs ns→Vals (ns.map V.int) vs
 | _,_,.nil=>.nil
 | _,_,.cons n t h=>.cons ⟨t,rfl⟩ (vals_ints h)
noncomputable def Only (H:Hp):Prop:=∀b,H b=none∨∃o xs,H b=some (.frz o (.lst xs))
theorem law_call {P:Program} {w:World} {K:PySem.W.Frag} {mg mb:Str→Option Value} {CX:CXT} {k:Nat} {fa a:Addr} {fd:FuncData} {x:Str} {sp:Sp} {s₁:Shared} {vs:List Value} {ns:List Int}
  (KX:K.In s₁.heap) (hns:s₁.heap.Ns mainGlobals mg) (hb:s₁.heap.Ns builtinsNs mb) (hbb:∀x:Str,x≠"__name__"→mb x=bootBuiltins x) (hlim:s₁.heap.NoLimit) (hg:s₁.gens = #[])
  (ha:s₁.heap.get? a=some { cls:=.type "list",data:=.seq vs.toArray }) (hi:IntsAre vs ns) (hl:ns.length≤sizeLine) (hr:Room k callerA)
  (F:∀base:Heap,K.In base→base.Ns mainGlobals mg→FnOk P w K mg base CX k fa fd [x] sp) (hbind:∀(s:Shared) (u:Value),BindsTo s fd ⟨[u],[]⟩ [(x,u)])
  (hsp:∀H:Hp,Only H→SqL K H a (ns.map V.int)→sp [.ref a] H (fun v _=>v=.bl true) fun _ _ _=>False)
  (hCX:∀H e s',CX [] H s₁ (fun _ _ _=>False) e s'→False) :
  codeAny (model P w) callerA (.call (.ref fa) ⟨[.ref a],[]⟩) (fun r s'=>r=.ok (.ret (.bool true))∧OldK s₁.heap s'.heap∧s'.os=s₁.os∧AllBare s'.gens) s₁:=by
 have rv:=vals_ints hi;have lenV:=hi.length
 have core:∀H:Hp,Only H→SqL K H a (ns.map V.int)→HOk P w H s₁.heap→(∀b,H b≠none→b=a)→(H a≠none→K.lookup a=none) →
   codeAny (model P w) callerA (.call (.ref fa) ⟨[.ref a],[]⟩) (fun r s'=>r=.ok (.ret (.bool true))∧OldK s₁.heap s'.heap∧s'.os=s₁.os∧AllBare s'.gens) s₁:=by
  intro H hO hS hok hA hK
  have base_of:∀ {b:Addr} {o:Obj},s₁.heap.get? b=some o→H b=none→(hidT s₁.heap H).get? b=some o:=fun e n=>hidT_get e n
  have noA:∀ {b:Addr} {o:Obj} {es:Array DictEntry} {ep:Nat},s₁.heap.get? b=some o→o.data=.dict es ep→H b=none:=fun {b o es ep} e d=>by
   cases q:H b with
   | none=>rfl
   | some u=>
    have e':b=a:=hA b (by rw [q];simp);subst e';rw [ha] at e;cases e;have d':Data.seq vs.toArray _=Data.dict es ep:=d;cases d'
  have nsK:∀ {b:Addr} {m:Str→Option Value},s₁.heap.Ns b m→(hidT s₁.heap H).Ns b m:=fun {b m} ⟨o,es,ep,e,d,r⟩=>⟨o,es,ep,base_of e (noA e d),d,r⟩
  have hKb:K.In (hidT s₁.heap H):=fun b o e=>base_of (KX b o e) (by
   cases q:H b with
   | none=>rfl
   | some u=>
    have e':b=a:=hA b (by rw [q];simp);subst e'
    rw [hK (by rw [q];simp)] at e;cases e)
  have hM:Mod K mg (hidT s₁.heap H):=⟨hKb,nsK hns,⟨mb,nsK hb,hbb⟩,let ⟨mc,h1,h2⟩:=hlim;⟨mc,nsK h1,h2⟩⟩;have e0:Env0 P w K mg (hidT s₁.heap H) callerA [] s₁ H:=⟨rfl,hM,fun b o e=>of_hidT e,Nat.le_of_eq (hidT_size _ _),trivial,fun b hb=>absurd (show b∈([]:List Addr) from hb) (by simp),hok,.of_eq hg⟩
  refine codeAny_mono ((F _ hKb (nsK hns)).run callerA [] s₁ H ⟨[.ref a],[]⟩ [.ref a] [.ref a] _ _ hr e0 (hbind s₁ (.ref a)) (.cons rfl .nil) (hsp H hO hS)) fun r s' h=>?_
  cases r with
  | error e=>exact (hCX H e s' h).elim
  | ok fl=>
   cases fl with
   | next=>exact False.elim h
   | brk=>exact False.elim h
   | cont=>exact False.elim h
   | ret u=>
    obtain ⟨v,H',os,bare,un,hok',r',q⟩:=h;have q':v=.bl true:=q;subst q';obtain rfl:u=Value.bool true:=r';refine ⟨rfl,OldK.of_keep fun b o e=>?_,os,bare⟩
    cases q:H b with
    | none=>exact un.keep b o e q (by intro z;exact absurd (show b∈([]:List Addr) from z) (by simp)) (by simp)
    | some u=>
     rcases hO b with z | ⟨ob,xs,z⟩
     ·rw [q] at z;cases z
     ·have z2:=un.frzs b ob _ z
      obtain ⟨e1,_⟩:=hok b _ z;obtain ⟨e2,_⟩:=hok' b _ z2;rw [e] at e1;cases e1;exact e2
 cases hk:K.lookup a with
 | some o=>
  have e:=KX a o hk;rw [ha] at e;cases e
  refine core (fun _=>none) (fun _=>.inl rfl) (.inr ⟨_,vs.toArray,_,hk,rfl,rfl,rfl,by rw [List.size_toArray,lenV];exact hl,by simpa using rv⟩) (fun b u z=>by have z':(none:Option HO)=some u:=z;cases z') (fun b z=>absurd rfl z) fun z=>absurd rfl z
 | none=>
  refine core (fun b=>if b=a then some (.frz { cls:=.type "list",data:=.seq vs.toArray } (.lst (ns.map V.int))) else none) (fun b=>?_) (.inl (.inr ⟨{ cls:=.type "list",data:=.seq vs.toArray },if_pos rfl⟩)) (fun b u z=>?_) (fun b z=>?_) fun _=>hk
  ·by_cases hb:b=a
   ·exact .inr ⟨_,_,if_pos hb⟩
   ·exact .inl (if_neg hb)
  ·by_cases hb:b=a
   ·have z':=(if_pos hb).symm.trans z
    cases z';subst hb;exact ⟨ha,by rw [List.length_map];exact hl,vs,_,rv,ha⟩
   ·have z':=(if_neg hb).symm.trans z
    cases z'
  ·by_cases hb:b=a
   ·exact hb
   ·exact absurd (if_neg hb) z
end L2
namespace L2
open PySem PySem.Spec PyProof.Rows
theorem walk_of {l:PySem.W.OpenLaw} {n k:Nat} {q:Program} {loose:List Str} {XP:(Str→Option Value)→Heap→Prop} {YP:World→Heap→Prop} {d:DefRec} {K:Params→PySem.W.Frag} {CX:World→CXT} {sp:World→Sp} {x:Str}
  (hn:l.most=some n) (hn2:n≤sizeLine) (hdf:d.params.defaults=[]) (hr:Room k callerA)
  (hY:∀(w:World) (h:Heap),YP w h→(K w.params).In h)
  (F:∀(w:World) (mg:Str→Option Value) (fa:Addr) (h:Heap),(K w.params).In h→h.Ns mainGlobals mg→mg d.name=some (.ref fa) →
   ∃fd:FuncData,(∀(s:Shared) (u:Value),BindsTo s fd ⟨[u],[]⟩ [(x,u)]) ∧
    ∀base:Heap,(K w.params).In base→base.Ns mainGlobals mg→FnOk l.prog w (K w.params) mg base (CX w) k fa fd [x] (sp w))
  (hsp:∀(w:World) (H:Hp) (a:Addr) (ns:List Int),ns.length≤n→Only H→SqL (K w.params) H a (ns.map V.int)→sp w [.ref a] H (fun v _=>v=.bl true) fun _ _ _=>False)
  (hCX:∀(w:World) (H:Hp) (s:Shared) (e:Value) (s':Shared),CX w [] H s (fun _ _ _=>False) e s'→False) :
  PySem.W.WalkO q loose XP YP l.row.toRowW d [] (fun f vs=>PySem.call f vs):=by
 refine Att.attach_call hn hdf fun w s₀ s₁ mg mb fa o pm cd doc a vs ns G Y ho hd hcd hmg hobj hints hlen hg=>?_
 have KX:=hY w _ Y;obtain ⟨fd,hb,hF⟩:=F w mg fa _ KX G.T.g hmg
 exact law_call KX G.T.g G.T.b G.T.builtins G.T.nolimit hg hobj hints (Nat.le_trans hlen hn2) hr hF hb (fun H hO hS=>hsp w H a ns hlen hO hS) fun H e s'=>hCX w H s₁ e s'
end L2
/- THE LAST THEOREM (shape;LID,My.* are yours):
   My.Adr: a structure of the addresses that your layer names (classes,functions);My.Txt K t: a structure (Prop) of the equations over K;
   My.txt_mk:{K} {implicit addresses ..} (e1:nsIn K mainGlobals "law" = some (some (.ref f))) (e2:K.lookup f=some ⟨oc,od,.func (fnOf "law" "law" params body scope dV kV doc pm an cdv ct),sl⟩) (e3:codeIn K cdv "law" = true) ..:∃t,My.Txt K t
(the tactic k_is has no namespace: write k_is) -/
namespace L2
open PySem PySem.Spec PyProof.Rows
noncomputable def inClass (s:Stmt) (j:Nat):Stmt:=match s with
 | .ClassDef _ _ _ body _ _ _ _ _ _ _=>body.getD j (.Pass ⟨0,0,0,0⟩)
 | _=>.Pass ⟨0,0,0,0⟩
noncomputable def defArgs (s:Stmt):Arguments:=match s with
 | .FunctionDef _ a _ _ _ _ _ _ _ _=>a
 | _=>{ posonlyargs:=[],args:=[],vararg:=none,kwonlyargs:=[],kw_defaults:=[],kwarg:=none,defaults:=[] }
noncomputable def defBody (s:Stmt):List Stmt:=match s with
 | .FunctionDef _ _ b _ _ _ _ _ _ _=>b
 | _=>[]
noncomputable def defScope (s:Stmt):Scope:=match s with
 | .FunctionDef _ _ _ _ _ _ sc _ _ _=>sc
 | _=>{ kind:=.function,names:=[],isGenerator:=false,isCoroutine:=false }
structure Fun (K:PySem.W.Frag) (x qual:Str) (st:Stmt) (f:Addr) (fd:FuncData):Prop where
 ex:∃(oc:Value) (od:Option Addr) (kV doc pm:Value) (an:Option Addr) (cdv ct:Value) (osl:Array (Option Value)),
  fd=PySem.W.fnOf x qual (defArgs st) (defBody st) (defScope st) .none kV doc pm an cdv ct∧K.lookup f=some ⟨oc,od,.func fd,osl⟩∧PySem.W.codeIn K cdv qual=true
 kp:PySem.W.keepIn K (.ref f)=true
section
variable {P:Program} {w:World} {K:PySem.W.Frag} {mg:Str→Option Value} {base:Heap}
theorem Fun.binds {x qual:Str} {st:Stmt} {f:Addr} {fd:FuncData} {ps:List Str} (F:Fun K x qual st f fd)
  (h:∀(kV doc pm:Value) (an:Option Addr) (cdv ct:Value) (us:List Value),us.length=ps.length→bindArgs (PySem.W.fnOf x qual (defArgs st) (defBody st) (defScope st) .none kV doc pm an cdv ct) ⟨us,[]⟩=pure (ps.zip us)):Binds K fd ps []:=by
 obtain ⟨oc,od,kV,doc,pm,an,cdv,ct,osl,rfl,lk,hcd⟩:=F.ex;exact .all (h kV doc pm an cdv ct)
theorem fun_mk {x qual:Str} {st:Stmt} {f:Addr} {oc:Value} {od an:Option Addr} {osl:Array (Option Value)} {kV doc pm cdv ct:Value} (l:K.lookup f=some ⟨oc,od,.func (PySem.W.fnOf x qual (defArgs st) (defBody st) (defScope st) .none kV doc pm an cdv ct),osl⟩)
  (c:PySem.W.codeIn K cdv qual=true) (k:PySem.W.keepIn K (.ref f)=true):Fun K x qual st f (PySem.W.fnOf x qual (defArgs st) (defBody st) (defScope st) .none kV doc pm an cdv ct):=⟨⟨oc,od,kV,doc,pm,an,cdv,ct,osl,rfl,l,c⟩,k⟩
end
section
variable {X:Cx}
theorem pv (i:Nat) {x:Str} {pos:Pos} (hN:X.N[i]?=some x:=by rfl) (hv:Vis X.env.scope x:=by first | exact Or.inl rfl | exact Or.inr (Or.inl rfl) | exact Or.inr (Or.inr rfl)) (hd:(x==("__debug__" : Str))=false:=by decide)
  (hcd:(x==("__classdict__" : Str))=false:=by decide):PE X (.Name x pos) (tVar i):=pe_var hN hv hd hcd
end
section
variable {κ:Type} [DecidableEq κ]
end
end L2
namespace L2
open PySem PySem.Spec PyProof.Rows
inductive D where
 | non | bl (b:Bool) | int (i:Int) | str (x:Str) | tup (ds:List D) | fro (ds:List D) | ref (n:Nat) | exc (C:Addr)
noncomputable def FrzL (K:PySem.W.Frag) (H:Hp) (a:Addr) (vs:List V):Prop:=
 (∃o,H a=some (.frz o (.lst vs))) ∨
  ∃(o:Obj) (its:Array Value) (n:Nat),K.lookup a=some o∧o.cls=.type "list"∧o.dict=none∧o.data=.seq its n∧its.size≤sizeLine∧Vals vs its.toList
theorem FrzL.sq {K:PySem.W.Frag} {H:Hp} {a:Addr} {vs:List V} (h:FrzL K H a vs):SqL K H a vs:=by
 rcases h with h | h
 ·exact .inl (.inr h)
 ·exact .inr h
noncomputable def ExcO (o:Obj) (C:Addr):Prop:=o.cls=.ref C∧o.dict=none∧∃vs,o.data=.fields vs
mutual
inductive RelD (K:PySem.W.Frag) (ρ:List Addr) (H:Hp):D→V→Prop where
 | non:RelD K ρ H .non .non
 | bl (b:Bool):RelD K ρ H (.bl b) (.bl b)
 | int (i:Int):RelD K ρ H (.int i) (.int i)
 | str (x:Str):RelD K ρ H (.str x) (.str x)
 | tup {ds:List D} {a:Addr} {vs:List V}:H a=some (.tup vs)→RelDs K ρ H ds vs→RelD K ρ H (.tup ds) (.ref a)
 | fro {ds:List D} {a:Addr} {vs:List V}:FrzL K H a vs→RelDs K ρ H ds vs→RelD K ρ H (.fro ds) (.ref a)
 | ref {n:Nat} {a:Addr}:ρ[n]?=some a→RelD K ρ H (.ref n) (.ref a)
 | exc {C a:Addr} {o:Obj} {u:HO}:H a=some (.frz o u)→ExcO o C→RelD K ρ H (.exc C) (.ref a)
inductive RelDs (K:PySem.W.Frag) (ρ:List Addr) (H:Hp):List D→List V→Prop where
 | nil:RelDs K ρ H [] []
 | cons {d:D} {v:V} {ds:List D} {vs:List V}:RelD K ρ H d v→RelDs K ρ H ds vs→RelDs K ρ H (d :: ds) (v :: vs)
end
structure Le (K:PySem.W.Frag) (ρ:List Addr) (H:Hp) (ρ':List Addr) (H':Hp):Prop where
 pre:∀(n:Nat) a,ρ[n]?=some a→ρ'[n]?=some a
 tup:∀a xs,H a=some (.tup xs)→H' a=some (.tup xs)
 frz:∀a o u,H a=some (.frz o u)→H' a=some (.frz o u)
 oth:∀a o,H a=some o→(∀n:Nat,ρ[n]?≠some a)→H' a=some o∧∀n:Nat,ρ'[n]?≠some a
theorem FrzL.mono {K:PySem.W.Frag} {H H':Hp} {a:Addr} {xs:List V} (l:∀a o u,H a=some (.frz o u)→H' a=some (.frz o u)) (h:FrzL K H a xs):FrzL K H' a xs:=by
 rcases h with ⟨o,h⟩ | h
 ·exact .inl ⟨o,l _ _ _ h⟩
 ·exact .inr h
section
variable {K:PySem.W.Frag} {ρ ρ' ρ'':List Addr} {H H' H'':Hp}
theorem Le.fro (l:Le K ρ H ρ' H'):∀a xs,FrzL K H a xs→FrzL K H' a xs:=fun _ _ h=>h.mono l.frz
theorem Le.refl:Le K ρ H ρ H:=⟨fun _ _ h=>h,fun _ _ h=>h,fun _ _ _ h=>h,fun _ _ h n=>⟨h,n⟩⟩
theorem Le.trans (a:Le K ρ H ρ' H') (b:Le K ρ' H' ρ'' H''):Le K ρ H ρ'' H'':=
 ⟨fun n x h=>b.pre n x (a.pre n x h),fun x xs h=>b.tup x xs (a.tup x xs h),fun x o u h=>b.frz x o u (a.frz x o u h),fun x o h n=>b.oth x o (a.oth x o h n).1 (a.oth x o h n).2⟩
mutual
theorem RelD.mono (l:Le K ρ H ρ' H'):∀ {d:D} {v:V},RelD K ρ H d v→RelD K ρ' H' d v
 | _,_,.non=>.non
 | _,_,.bl b=>.bl b
 | _,_,.int i=>.int i
 | _,_,.str x=>.str x
 | _,_,.tup h r=>.tup (l.tup _ _ h) (RelDs.mono l r)
 | _,_,.fro h r=>.fro (l.fro _ _ h) (RelDs.mono l r)
 | _,_,.ref h=>.ref (l.pre _ _ h)
 | _,_,.exc h e=>.exc (l.frz _ _ _ h) e
theorem RelDs.mono (l:Le K ρ H ρ' H'):∀ {ds:List D} {vs:List V},RelDs K ρ H ds vs→RelDs K ρ' H' ds vs
 | _,_,.nil=>.nil
 | _,_,.cons r t=>.cons (RelD.mono l r) (RelDs.mono l t)
end
mutual
theorem RelD.more (l:∀(n:Nat) a,ρ[n]?=some a→ρ'[n]?=some a):∀ {d:D} {v:V},RelD K ρ H d v→RelD K ρ' H d v
 | _,_,.non=>.non
 | _,_,.bl b=>.bl b
 | _,_,.int i=>.int i
 | _,_,.str x=>.str x
 | _,_,.tup h r=>.tup h (RelDs.more l r)
 | _,_,.fro h r=>.fro h (RelDs.more l r)
 | _,_,.ref h=>.ref (l _ _ h)
 | _,_,.exc h e=>.exc h e
theorem RelDs.more (l:∀(n:Nat) a,ρ[n]?=some a→ρ'[n]?=some a):∀ {ds:List D} {vs:List V},RelDs K ρ H ds vs→RelDs K ρ' H ds vs
 | _,_,.nil=>.nil
 | _,_,.cons r t=>.cons (RelD.more l r) (RelDs.more l t)
end
mutual
theorem RelD.keep (h1:∀a xs,H a=some (.tup xs)→H' a=some (.tup xs)) (h2:∀a o u,H a=some (.frz o u)→H' a=some (.frz o u)):∀ {d:D} {v:V},RelD K ρ H d v→RelD K ρ H' d v
 | _,_,.non=>.non
 | _,_,.bl b=>.bl b
 | _,_,.int i=>.int i
 | _,_,.str x=>.str x
 | _,_,.tup h r=>.tup (h1 _ _ h) (RelDs.keep h1 h2 r)
 | _,_,.fro h r=>.fro (h.mono h2) (RelDs.keep h1 h2 r)
 | _,_,.ref h=>.ref h
 | _,_,.exc h e=>.exc (h2 _ _ _ h) e
theorem RelDs.keep (h1:∀a xs,H a=some (.tup xs)→H' a=some (.tup xs)) (h2:∀a o u,H a=some (.frz o u)→H' a=some (.frz o u)):∀ {ds:List D} {vs:List V},RelDs K ρ H ds vs→RelDs K ρ H' ds vs
 | _,_,.nil=>.nil
 | _,_,.cons r t=>.cons (RelD.keep h1 h2 r) (RelDs.keep h1 h2 t)
end
theorem RelDs.length:∀ {ds:List D} {vs:List V},RelDs K ρ H ds vs→ds.length=vs.length
 | _,_,.nil=>rfl
 | _,_,.cons _ t=>by rw [List.length_cons,List.length_cons,RelDs.length t]
theorem RelDs.get:∀ {ds:List D} {vs:List V} {i:Nat} {d:D},RelDs K ρ H ds vs→ds[i]?=some d→∃v,vs[i]?=some v∧RelD K ρ H d v
 | _,_,_,_,.nil,e=>by simp at e
 | _,_,0,_,.cons r _,e=>by simp at e;subst e;exact ⟨_,rfl,r⟩
 | _,_,i+1,d,.cons _ t,e=>by
  obtain ⟨v,h1,h2⟩:=RelDs.get (i:=i) (d:=d) t (by simpa using e);exact ⟨v,by simpa using h1,h2⟩
theorem RelDs.get':∀ {ds:List D} {vs:List V} {i:Nat} {v:V},RelDs K ρ H ds vs→vs[i]?=some v→∃d,ds[i]?=some d∧RelD K ρ H d v
 | _,_,_,_,.nil,e=>by simp at e
 | _,_,0,_,.cons r _,e=>by simp at e;subst e;exact ⟨_,rfl,r⟩
 | _,_,i+1,d,.cons _ t,e=>by
  obtain ⟨v,h1,h2⟩:=RelDs.get' (i:=i) (v:=d) t (by simpa using e);exact ⟨v,by simpa using h1,h2⟩
theorem RelDs.append:∀ {ds es:List D} {vs us:List V},RelDs K ρ H ds vs→RelDs K ρ H es us→RelDs K ρ H (ds++es) (vs++us)
 | _,_,_,_,.nil,s=>s
 | _,_,_,_,.cons r t,s=>.cons r (RelDs.append t s)
theorem RelDs.take:∀ {ds:List D} {vs:List V} (n:Nat),RelDs K ρ H ds vs→RelDs K ρ H (ds.take n) (vs.take n)
 | _,_,0,_=>.nil
 | _,_,_+1,.nil=>.nil
 | _,_,n+1,.cons r t=>.cons r (RelDs.take n t)
theorem RelDs.drop:∀ {ds:List D} {vs:List V} (n:Nat),RelDs K ρ H ds vs→RelDs K ρ H (ds.drop n) (vs.drop n)
 | _,_,0,r=>r
 | _,_,_+1,.nil=>.nil
 | _,_,n+1,.cons _ t=>RelDs.drop n t
theorem RelDs.reverse {ds:List D} {vs:List V} (h:RelDs K ρ H ds vs):RelDs K ρ H ds.reverse vs.reverse:=by
 induction ds generalizing vs with
 | nil=>cases h;exact .nil
 | cons d ds ih=>
  cases h with
  | cons r t=>rw [List.reverse_cons,List.reverse_cons];exact (ih t).append (.cons r .nil)
theorem RelDs.of_ints:∀(ns:List Int),RelDs K ρ H (ns.map D.int) (ns.map V.int)
 | []=>.nil
 | n :: ns=>.cons (.int n) (RelDs.of_ints ns)
theorem RelDs.ints:∀ {ns:List Int} {vs:List V},RelDs K ρ H (ns.map D.int) vs→vs=ns.map V.int
 | [],_,.nil=>rfl
 | n :: ns,_,.cons r t=>by
  cases r;rw [RelDs.ints (ns:=ns) t];rfl
end
inductive Ob where
 | lst (ds:List D)
 | dK (kvs:List (Key×D))
 | dT (kvs:List (List Key×D))
 | ins (C:Addr) (fs:List (Str×D))
noncomputable abbrev Sto:=List Ob
noncomputable abbrev KVR {κ:Type} (K:PySem.W.Frag) (ρ:List Addr) (H:Hp):List (κ×D)→List (κ×V)→Prop:=Paired fun (p:κ×D) (q:κ×V)=>p.1=q.1∧RelD K ρ H p.2 q.2
noncomputable def RelOb (K:PySem.W.Frag) (ρ:List Addr) (H:Hp) (a:Addr):Ob→Prop
 | .lst ds=>∃vs,H a=some (.lst vs)∧RelDs K ρ H ds vs
 | .dK kvs=>∃kvs',H a=some (.dK kvs')∧KVR K ρ H kvs kvs'
 | .dT kvs=>∃kvs',H a=some (.dT kvs')∧KVR K ρ H kvs kvs'
 | .ins C fs=>∃dx fs',H a=some (.ins C dx fs')∧KVR K ρ H fs fs'
structure RelS (K:PySem.W.Frag) (ρ:List Addr) (S:Sto) (H:Hp):Prop where
 len:ρ.length=S.length
 nd:∀(i j:Nat) a,ρ[i]?=some a→ρ[j]?=some a→i=j
 ob:∀(n:Nat) o a,S[n]?=some o→ρ[n]?=some a→RelOb K ρ H a o
section
variable {K:PySem.W.Frag} {ρ ρ':List Addr} {H H':Hp} {S:Sto} {a p:Addr} {o:Ob} {n:Nat} {ho:HO}
theorem KVR.mono {κ:Type} (l:Le K ρ H ρ' H') {x:List (κ×D)} {y:List (κ×V)} (h:KVR K ρ H x y):KVR K ρ' H' x y:=Paired.mapP h fun _ _ z=>⟨z.1,z.2.mono l⟩
theorem RelOb.mut (h:RelOb K ρ H a o):Mut (H a):=by
 cases o with
 | lst ds=>obtain ⟨_,e,_⟩:=h;rw [e];trivial
 | dK ds=>obtain ⟨_,e,_⟩:=h;rw [e];trivial
 | dT ds=>obtain ⟨_,e,_⟩:=h;rw [e];trivial
 | ins C fs=>obtain ⟨_,_,e,_⟩:=h;rw [e];trivial
theorem RelOb.mono (l:Le K ρ H ρ' H') (e:H' a=H a) (h:RelOb K ρ H a o):RelOb K ρ' H' a o:=by
 cases o with
 | lst ds=>obtain ⟨vs,h1,h2⟩:=h;exact ⟨vs,e.trans h1,h2.mono l⟩
 | dK ds=>obtain ⟨vs,h1,h2⟩:=h;exact ⟨vs,e.trans h1,h2.mono l⟩
 | dT ds=>obtain ⟨vs,h1,h2⟩:=h;exact ⟨vs,e.trans h1,h2.mono l⟩
 | ins C fs=>obtain ⟨dx,vs,h1,h2⟩:=h;exact ⟨dx,vs,e.trans h1,h2.mono l⟩
theorem RelOb.keep (h1:∀a xs,H a=some (.tup xs)→H' a=some (.tup xs)) (h2:∀a o u,H a=some (.frz o u)→H' a=some (.frz o u)) (e:H' a=H a) (h:RelOb K ρ H a o):RelOb K ρ H' a o:=by
 cases o with
 | lst ds=>obtain ⟨vs,q1,q2⟩:=h;exact ⟨vs,e.trans q1,q2.keep h1 h2⟩
 | dK ds=>obtain ⟨vs,q1,q2⟩:=h;exact ⟨vs,e.trans q1,Paired.mapP q2 fun _ _ z=>⟨z.1,z.2.keep h1 h2⟩⟩
 | dT ds=>obtain ⟨vs,q1,q2⟩:=h;exact ⟨vs,e.trans q1,Paired.mapP q2 fun _ _ z=>⟨z.1,z.2.keep h1 h2⟩⟩
 | ins C fs=>obtain ⟨dx,vs,q1,q2⟩:=h;exact ⟨dx,vs,e.trans q1,Paired.mapP q2 fun _ _ z=>⟨z.1,z.2.keep h1 h2⟩⟩
theorem RelOb.mono' (l:∀(n:Nat) a,ρ[n]?=some a→ρ'[n]?=some a) (h:RelOb K ρ H a o):RelOb K ρ' H a o:=by
 cases o with
 | lst ds=>obtain ⟨vs,h1,h2⟩:=h;exact ⟨vs,h1,h2.more l⟩
 | dK ds=>obtain ⟨vs,h1,h2⟩:=h;exact ⟨vs,h1,Paired.mapP h2 fun _ _ z=>⟨z.1,z.2.more l⟩⟩
 | dT ds=>obtain ⟨vs,h1,h2⟩:=h;exact ⟨vs,h1,Paired.mapP h2 fun _ _ z=>⟨z.1,z.2.more l⟩⟩
 | ins C fs=>obtain ⟨dx,vs,h1,h2⟩:=h;exact ⟨dx,vs,h1,Paired.mapP h2 fun _ _ z=>⟨z.1,z.2.more l⟩⟩
theorem keep_upd (hp:H p=none∨Mut (H p)):(∀a xs,H a=some (.tup xs)→upd H p ho a=some (.tup xs))∧∀a o u,H a=some (.frz o u)→upd H p ho a=some (.frz o u):=by
 have ne:∀a u,H a=some u→¬Mut (some u)→a≠p:=fun a u e nm z=>by
  subst z
  rcases hp with h | h
  ·rw [e] at h;cases h
  ·rw [e] at h;exact nm h
 refine ⟨fun a xs e=>?_,fun a o u e=>?_⟩
 ·rw [upd_ne (ne a _ e fun z=>z)];exact e
 ·rw [upd_ne (ne a _ e fun z=>z)];exact e
theorem Le.fresh (hp:H p=none):Le K ρ H ρ (upd H p ho):=
 ⟨fun _ _ h=>h,(keep_upd (.inl hp)).1,(keep_upd (.inl hp)).2,fun a o e n=>⟨by rw [upd_ne (ne_of_none e hp)];exact e,n⟩⟩
theorem Le.write (hn:ρ[n]?=some p) (hm:Mut (H p)):Le K ρ H ρ (upd H p ho):=
 ⟨fun _ _ h=>h,(keep_upd (.inr hm)).1,(keep_upd (.inr hm)).2,fun a o e h=>⟨by rw [upd_ne fun z=>h n (by rw [z];exact hn)];exact e,h⟩⟩
theorem get_snoc {α:Type} {l:List α} {x:α} {m:Nat} {a:α} (e:(l++[x])[m]?=some a):(l[m]?=some a∧m < l.length)∨(m=l.length∧a=x):=by
 by_cases hm:m < l.length
 ·rw [List.getElem?_append_left hm] at e;exact .inl ⟨e,hm⟩
 ·rw [List.getElem?_append_right (by lia)] at e
  have:m - l.length=0:=by
   have:=(List.getElem?_eq_some_iff.mp e).1;simp at this;omega
  rw [this] at e;exact .inr ⟨by lia,by simpa using e.symm⟩
theorem Le.alloc (hp:H p=none):Le K ρ H (ρ++[p]) (upd H p ho):=by
 refine ⟨fun n a h=>by rw [List.getElem?_append_left (List.getElem?_eq_some_iff.mp h).1];exact h,(keep_upd (.inl hp)).1,(keep_upd (.inl hp)).2,fun a o e h=>⟨by rw [upd_ne (ne_of_none e hp)];exact e,fun n q=>?_⟩⟩
 rcases get_snoc q with ⟨q,_⟩ | ⟨_,q⟩
 ·exact h n q
 ·exact ne_of_none e hp q
theorem RelS.there (h:RelS K ρ S H) {m:Nat} (e:ρ[m]?=some a):∃o,S[m]?=some o∧RelOb K ρ H a o:=by
 have hn:m < S.length:=by rw [←h.len];exact (List.getElem?_eq_some_iff.mp e).1
 exact ⟨S[m],by simp [hn],h.ob m _ a (by simp [hn]) e⟩
theorem RelS.notIn (h:RelS K ρ S H) (hp:H p=none) {m:Nat} (e:ρ[m]?=some p):False:=by
 obtain ⟨o,_,r⟩:=h.there e;have:=r.mut;rw [hp] at this;exact this
theorem RelS.alloc (h:RelS K ρ S H) (hp:H p=none) (hob:RelOb K (ρ++[p]) (upd H p ho) p o):RelS K (ρ++[p]) (S++[o]) (upd H p ho)∧Le K ρ H (ρ++[p]) (upd H p ho)∧(ρ++[p])[S.length]?=some p:=by
 have le:Le K ρ H (ρ++[p]) (upd H p ho):=Le.alloc hp
 have at':∀(m:Nat) a,(ρ++[p])[m]?=some a→(ρ[m]?=some a∧m < ρ.length)∨(m=ρ.length∧a=p):=fun m a e=>get_snoc e
 refine ⟨⟨by simp [h.len],fun i j a hi hj=>?_,fun m ob a hm ha=>?_⟩,le,by rw [←h.len];simp⟩
 ·rcases at' i a hi with ⟨hi1,_⟩ | ⟨hi1,ea⟩ <;> rcases at' j a hj with ⟨hj1,_⟩ | ⟨hj1,ea'⟩
  ·exact h.nd i j a hi1 hj1
  ·rw [ea'] at hi1;exact (h.notIn hp hi1).elim
  ·rw [ea] at hj1;exact (h.notIn hp hj1).elim
  ·lia
 ·rcases at' m a ha with ⟨ha1,hlt⟩ | ⟨rfl,rfl⟩
  ·rw [List.getElem?_append_left (by rw [←h.len];exact hlt)] at hm
   refine (h.ob m ob a hm ha1).mono le (upd_ne fun z=>?_);rw [z] at ha1;exact h.notIn hp ha1
  ·rw [h.len] at hm
   simp at hm;subst hm;exact hob
theorem RelS.write (h:RelS K ρ S H) (hn:ρ[n]?=some a) (hob:RelOb K ρ (upd H a ho) a o):RelS K ρ (S.set n o) (upd H a ho)∧Le K ρ H ρ (upd H a ho):=by
 obtain ⟨o',e',r'⟩:=h.there hn;have le:Le K ρ H ρ (upd H a ho):=Le.write hn r'.mut;refine ⟨⟨by simp [h.len],h.nd,fun m ob b hm hb=>?_⟩,le⟩
 by_cases e:m=n
 ·subst e
  rw [hn] at hb;cases hb;rw [List.getElem?_set_self (by rw [←h.len];exact (List.getElem?_eq_some_iff.mp hn).1)] at hm;cases hm;exact hob
 ·rw [List.getElem?_set_ne (Ne.symm e)] at hm
  refine (h.ob m ob b hm hb).mono le (upd_ne fun z=>?_);subst z;exact e (h.nd m n b hb hn)
theorem Le.back {S':Sto} (l:Le K ρ H ρ' H') (s:RelS K ρ S H) (s':RelS K ρ' S' H') (hp:H' p=none):H p=none:=by
 cases q:H p with
 | none=>rfl
 | some o=>
  by_cases hn:∃n:Nat,ρ[n]?=some p
  ·obtain ⟨n,hn⟩:=hn
   exact (s'.notIn hp (l.pre n p hn)).elim
  ·have:=(l.oth p o q fun n h=>hn ⟨n,h⟩).1
   rw [hp] at this;cases this
theorem RelS.adopt (h:RelS K ρ S H) (hn:∀m:Nat,ρ[m]?≠some p) (hob:RelOb K (ρ++[p]) H p o):RelS K (ρ++[p]) (S++[o]) H∧(ρ++[p])[S.length]?=some p:=by
 have le:∀a ob,RelOb K ρ H a ob→RelOb K (ρ++[p]) H a ob:=fun a ob r=>by
  have l0:∀(n:Nat) a,ρ[n]?=some a→(ρ++[p])[n]?=some a:=fun n a h=>by rw [List.getElem?_append_left (List.getElem?_eq_some_iff.mp h).1];exact h
  exact r.mono' l0
 refine ⟨⟨by simp [h.len],fun i j a hi hj=>?_,fun m ob a hm ha=>?_⟩,by rw [←h.len];simp⟩
 ·rcases get_snoc hi with ⟨hi1,_⟩ | ⟨hi1,ea⟩ <;> rcases get_snoc hj with ⟨hj1,_⟩ | ⟨hj1,ea'⟩
  ·exact h.nd i j a hi1 hj1
  ·rw [ea'] at hi1;exact (hn i hi1).elim
  ·rw [ea] at hj1;exact (hn j hj1).elim
  ·lia
 ·rcases get_snoc ha with ⟨ha,hlt⟩ | ⟨rfl,rfl⟩
  ·rw [List.getElem?_append_left (by rw [←h.len];exact hlt)] at hm
   exact le a ob (h.ob m ob a hm ha)
  ·rw [h.len] at hm
   simp at hm;subst hm;exact hob
end
end L2
namespace L2
open PySem PySem.Spec PyProof.Rows
inductive Res (α:Type) where
 | ok (a:α) (S:Sto) | err (c:Addr) (S:Sto) | bad
noncomputable def Res.bind {α β:Type} (r:Res α) (f:α→Sto→Res β):Res β:=match r with
 | .ok a S=>f a S
 | .err c S=>.err c S
 | .bad=>.bad
noncomputable abbrev Lo:=List (Option D)
noncomputable abbrev ME:=Lo→Sto→Res D
noncomputable abbrev MT:=Lo→Sto→Res Bool
noncomputable abbrev ML:=Lo→Sto→Res (List D)
inductive Fl where
 | nx (e:Lo) | rt (d:D) | bk (e:Lo) | ct (e:Lo) | ex (c:Addr) (e:Lo)
noncomputable abbrev MS:=Lo→Sto→Res Fl
noncomputable abbrev MG:=D→Lo→Sto→Res Lo
noncomputable abbrev View:=Sto→Option (List D)
noncomputable abbrev MI:=Lo→Sto→Res View
structure RelL (K:PySem.W.Frag) (ρ:List Addr) (H:Hp) (e:Lo) (σ:St):Prop where
 len:e.length=σ.length
 at':∀(i:Nat) d,e[i]?=some (some d)→∃v,σ[i]?=some (some v)∧RelD K ρ H d v
section
variable {K:PySem.W.Frag} {ρ ρ':List Addr} {H H':Hp} {S:Sto} {e:Lo} {σ:St}
theorem RelL.mono (l:Le K ρ H ρ' H') (h:RelL K ρ H e σ):RelL K ρ' H' e σ:=⟨h.len,fun i d q=>by
 obtain ⟨v,h1,h2⟩:=h.at' i d q
 exact ⟨v,h1,h2.mono l⟩⟩
theorem RelL.set {d:D} {v:V} (h:RelL K ρ H e σ) (r:RelD K ρ H d v) (i:Nat):RelL K ρ H (e.set i (some d)) (σ.set i (some v)):=by
 refine ⟨by simp [h.len],fun j d' q=>?_⟩
 by_cases hj:i=j
 ·subst hj
  have hi:i < e.length:=by
   have:=(List.getElem?_eq_some_iff.mp q).1;simpa using this
  rw [List.getElem?_set_self hi] at q;cases q;exact ⟨v,by rw [List.getElem?_set_self (by rw [←h.len];exact hi)],r⟩
 ·rw [List.getElem?_set_ne hj] at q ⊢
  exact h.at' j d' q
end
noncomputable abbrev EW:=Addr→St→Hp→Prop
noncomputable abbrev EH:=Addr→Hp→Prop
noncomputable abbrev noE:EW:=fun _ _ _=>False
noncomputable abbrev noH:EH:=fun _ _=>False
noncomputable def After {α:Type} (K:PySem.W.Frag) (E:EH) (ρ:List Addr) (H:Hp) (r:Res α) (k:α→Sto→Prop):Prop:=match r with
 | .ok a S=>k a S
 | .err c S=>∀ρ' H',Le K ρ H ρ' H'→RelS K ρ' S H'→E c H'
 | .bad=>False
section
variable {α β:Type} {K:PySem.W.Frag} {E:EH} {ρ ρ1:List Addr} {H H1:Hp}
theorem After.seq {r:Res α} {F:α→Sto→Res β} {k:β→Sto→Prop} {k':α→Sto→Prop} (h:After K E ρ H (r.bind F) k) (f:∀a S,After K E ρ H (F a S) k→k' a S):After K E ρ H r k':=by
 cases r with
 | ok a S=>exact f a S h
 | err c S=>exact h
 | bad=>exact h
theorem After.later {r:Res α} {k:α→Sto→Prop} (h:After K E ρ H r k) (l:Le K ρ H ρ1 H1):After K E ρ1 H1 r k:=by
 cases r with
 | ok a S=>exact h
 | err c S=>exact fun ρ' H' l'=>h ρ' H' (l.trans l')
 | bad=>exact h
theorem After.imp {r:Res α} {k k':α→Sto→Prop} (h:After K E ρ H r k) (f:∀a S,k a S→k' a S):After K E ρ H r k':=by
 cases r with
 | ok a S=>exact f a S h
 | err c S=>exact h
 | bad=>exact h
theorem After.go {r:Res α} {k k':α→Sto→Prop} (h:After K E ρ H r k) (l:Le K ρ H ρ1 H1) (f:∀a S,k a S→k' a S):After K E ρ1 H1 r k':=(h.later l).imp f
end
noncomputable def okR {α:Type}:Res α→Res α
 | .ok a S=>.ok a S
 | _=>.bad
theorem After.okR {α:Type} {K:PySem.W.Frag} {E:EH} {ρ:List Addr} {H:Hp} {r:Res α} {k:α→Sto→Prop} (h:After K E ρ H (L2.okR r) k):∃a S,r=.ok a S∧k a S:=by
 cases r with
 | ok a S=>exact ⟨a,S,rfl,h⟩
 | err c S=>exact h.elim
 | bad=>exact h.elim
section
variable (K:PySem.W.Frag) (E:EW)
noncomputable def gE (m:ME):TE:=fun σ H Q=>∃ρ e S,RelL K ρ H e σ∧RelS K ρ S H∧After K (fun c=>E c σ) ρ H (m e S) fun d S'=>∀ρ' H' x,Le K ρ H ρ' H'→RelS K ρ' S' H'→RelD K ρ' H' d x→Q x H'
noncomputable def gT (m:MT):TT:=fun σ H Q=>∃ρ e S,RelL K ρ H e σ∧RelS K ρ S H∧After K (fun c=>E c σ) ρ H (m e S) fun b S'=>∀ρ' H',Le K ρ H ρ' H'→RelS K ρ' S' H'→Q b H'
noncomputable def gA (m:ML):TA:=fun σ H Q=>∃ρ e S,RelL K ρ H e σ∧RelS K ρ S H∧After K (fun c=>E c σ) ρ H (m e S) fun ds S'=>∀ρ' H' xs,Le K ρ H ρ' H'→RelS K ρ' S' H'→RelDs K ρ' H' ds xs→Q xs H'
noncomputable def gL (m:ML):TE:=fun σ H Q=>∃ρ e S,RelL K ρ H e σ∧RelS K ρ S H∧After K (fun c=>E c σ) ρ H (m e S) fun ds S'=>∀ρ' H' p xs,Le K ρ H ρ' H'→RelS K ρ' S' H'→RelDs K ρ' H' ds xs→H' p=some (.lst xs)→(∀n:Nat,ρ'[n]?≠some p)→H p=none→Q (.ref p) H'
noncomputable def gQ (m:ML):TE:=fun σ H Q=>∃ρ e S,RelL K ρ H e σ∧RelS K ρ S H∧After K (fun c=>E c σ) ρ H (m e S) fun ds S'=>∀ρ' H' p xs,Le K ρ H ρ' H'→RelS K ρ' S' H'→RelDs K ρ' H' ds xs→(SqL K H' p xs∨SqT K H' p xs)→Q (.ref p) H'
noncomputable def flOk (K:PySem.W.Frag) (E:EW) (ρ:List Addr) (H:Hp) (S':Sto) (D:Ends):Fl→Prop
 | .ex c e'=>∀ρ' H' σ',Le K ρ H ρ' H'→RelS K ρ' S' H'→RelL K ρ' H' e' σ'→E c σ' H'
 | .nx e'=>∀ρ' H' σ',Le K ρ H ρ' H'→RelS K ρ' S' H'→RelL K ρ' H' e' σ'→D.nx σ' H'
 | .bk e'=>∀ρ' H' σ',Le K ρ H ρ' H'→RelS K ρ' S' H'→RelL K ρ' H' e' σ'→D.bk σ' H'
 | .ct e'=>∀ρ' H' σ',Le K ρ H ρ' H'→RelS K ρ' S' H'→RelL K ρ' H' e' σ'→D.ct σ' H'
 | .rt d=>∀ρ' H' x,Le K ρ H ρ' H'→RelS K ρ' S' H'→RelD K ρ' H' d x→D.rt x H'
noncomputable def gS (m:MS):TS:=fun D σ H=>∃ρ e S,RelL K ρ H e σ∧RelS K ρ S H∧After K noH ρ H (m e S) fun fl S'=>flOk K E ρ H S' D fl
noncomputable def gG (m:MG):TG:=fun v σ H Q=>∃ρ e S d,RelD K ρ H d v∧RelL K ρ H e σ∧RelS K ρ S H∧After K noH ρ H (m d e S) fun e' S'=>∀ρ' H' σ',Le K ρ H ρ' H'→RelS K ρ' S' H'→RelL K ρ' H' e' σ'→Q σ' H'
noncomputable def ViewOk (ρ0:List Addr) (H0:Hp) (J:It) (v:View):Prop:=∀ρ H S ds (i:Nat),Le K ρ0 H0 ρ H→RelS K ρ S H→v S=some ds →
 (ds[i]?=none→J.stop i H)∧∀d,ds[i]?=some d→J.go i H∧∀x H',J.yld i H x H'→∃ρ',Le K ρ H ρ' H'∧RelS K ρ' S H'∧RelD K ρ' H' d x
noncomputable def gI (m:MI):TI:=fun σ H R=>∃ρ e S,RelL K ρ H e σ∧RelS K ρ S H∧After K (fun c=>E c σ) ρ H (m e S) fun v S'=>∀ρ' H' J,Le K ρ H ρ' H'→RelS K ρ' S' H'→ViewOk K ρ' H' J v→R J H'
end
noncomputable abbrev GE (X:Cx) (E:EW) (e:Expr) (m:ME):Prop:=PE X e (gE X.K E m)
noncomputable abbrev GT (X:Cx) (E:EW) (e:Expr) (m:MT):Prop:=PT X e (gT X.K E m)
noncomputable abbrev GA (X:Cx) (E:EW) (es:List Expr) (m:ML):Prop:=PA X es (gA X.K E m)
noncomputable abbrev GL (X:Cx) (E:EW) (e:Expr) (m:ML):Prop:=PE X e (gL X.K E m)
noncomputable abbrev GQ (X:Cx) (E:EW) (e:Expr) (m:ML):Prop:=PE X e (gQ X.K E m)
noncomputable abbrev GS (X:Cx) (E:EW) (s:Stmt) (m:MS):Prop:=PS X s (gS X.K E m)
noncomputable abbrev GSs (X:Cx) (E:EW) (s:List Stmt) (m:MS):Prop:=PSs X s (gS X.K E m)
noncomputable abbrev GG (X:Cx) (t:Expr) (m:MG):Prop:=PG X t (gG X.K m)
noncomputable abbrev GI (X:Cx) (E:EW) (tg t:Expr) (m:MI):Prop:=PI X tg t (gI X.K E m)
theorem PE.imp {X:Cx} {e:Expr} {t t':TE} (h:PE X e t) (i:∀σ H Q,t' σ H Q→t σ H Q):PE X e t':=fun pins s σ H Q I q=>h pins s σ H Q I (i σ H Q q)
theorem PT.imp {X:Cx} {e:Expr} {t t':TT} (h:PT X e t) (i:∀σ H Q,t' σ H Q→t σ H Q):PT X e t':=fun pins s σ H Q I q=>h pins s σ H Q I (i σ H Q q)
theorem PW.imp {X:Cx} {e:Expr} {t t':TT} (h:PW X e t) (i:∀σ H Q,t' σ H Q→t σ H Q):PW X e t':=fun wh pins s σ H Q I q=>h wh pins s σ H Q I (i σ H Q q)
theorem PA.imp {X:Cx} {e:List Expr} {t t':TA} (h:PA X e t) (i:∀σ H Q,t' σ H Q→t σ H Q):PA X e t':=fun pos pins s σ H Q I q=>h pos pins s σ H Q I (i σ H Q q)
theorem PS.imp {X:Cx} {e:Stmt} {t t':TS} (h:PS X e t) (i:∀D σ H,t' D σ H→t D σ H):PS X e t':=fun pins s σ H D I q=>h pins s σ H D I (i D σ H q)
theorem PSs.imp {X:Cx} {e:List Stmt} {t t':TS} (h:PSs X e t) (i:∀D σ H,t' D σ H→t D σ H):PSs X e t':=fun pins s σ H D I q=>h pins s σ H D I (i D σ H q)
theorem PG.imp {X:Cx} {e:Expr} {t t':TG} (h:PG X e t) (i:∀v σ H Q,t' v σ H Q→t v σ H Q):PG X e t':=fun pins s σ H v u Q I r q=>h pins s σ H v u Q I r (i v σ H Q q)
theorem PI.imp {X:Cx} {tg e:Expr} {t t':TI} (h:PI X tg e t) (i:∀σ H R,t' σ H R→t σ H R):PI X tg e t':=fun pins s σ H R I q=>h pins s σ H R I (i σ H R q)
theorem OpR.imp {X:Cx} {f:Value→Value→Sem Value} {r r':R2} (h:OpR X f r) (i:∀x y H Q,r' x y H Q→r x y H Q):OpR X f r':=fun pins s σ H x y v u Q I rx ry q=>h pins s σ H x y v u Q I rx ry (i x y H Q q)
theorem IxR.imp {X:Cx} {r r':R2} (h:IxR X r) (i:∀x y H Q,r' x y H Q→r x y H Q):IxR X r':=fun va sl pins s σ H x y v u Q I rx ry q=>h va sl pins s σ H x y v u Q I rx ry (i x y H Q q)
noncomputable def mVar (i:Nat):ME:=fun e S=>match e[i]? with
 | some (some d)=>.ok d S
 | _=>.bad
noncomputable def mC (d:D):ME:=fun _ S=>.ok d S
section
variable {X:Cx} {E:EW} {e a b:Expr} {pos:Pos} {ma mb:ME}
theorem ge_var {i:Nat} (h:PE X e (tVar i)):GE X E e (mVar i):=h.imp fun σ H Q ⟨ρ,l,S,hl,hs,hm⟩=>by
 unfold mVar at hm;split at hm
 ·rename_i d' hd
  obtain ⟨v,h1,h2⟩:=hl.at' i _ hd;exact ⟨v,h1,hm ρ H v .refl hs h2⟩
 ·exact hm.elim
theorem ge_c {v:V} {d:D} (h:PE X e (tC v)) (hd:∀ρ H,RelD X.K ρ H d v):GE X E e (mC d):=h.imp fun σ H Q ⟨ρ,l,S,hl,hs,hm⟩=>by
 exact hm ρ H v .refl hs (hd _ _)
theorem ge_int {i j pos}:GE X E (.Constant (.int i) j pos) (mC (.int i)):=ge_c pe_int fun _ _=>.int i
theorem ge_bl {b j pos}:GE X E (.Constant (.bool b) j pos) (mC (.bl b)):=ge_c pe_bl fun _ _=>.bl b
theorem ge_str {x j pos}:GE X E (.Constant (.str x) j pos) (mC (.str x)):=ge_c pe_str fun _ _=>.str x
theorem ge_globI {x:Str} {i:Int} {tk:Tok} {pos:Pos} (hg:Gl X x) (hm:X.mg x=some (.int i tk)) (hd:(x==("__debug__" : Str))=false:=by decide):GE X E (.Name x pos) (mC (.int i)):=
 ge_c (pe_glob (v:=.int i) hg hm ⟨tk,rfl⟩ hd) fun _ _=>.int i
noncomputable def m2 (f:D→D→Sto→Res D) (ma mb:ME):ME:=fun e S=>(ma e S).bind fun x S1=>(mb e S1).bind fun y S2=>okR (f x y S2)
noncomputable def rD (K:PySem.W.Frag) (f:D→D→Sto→Res D):R2:=fun u v H Q=>∃ρ S x y d S',RelS K ρ S H∧RelD K ρ H x u∧RelD K ρ H y v∧f x y S=.ok d S' ∧
 ∀ρ' H' z,Le K ρ H ρ' H'→RelS K ρ' S' H'→RelD K ρ' H' d z→Q z H'
theorem tOp_of {K:PySem.W.Frag} {f:D→D→Sto→Res D} {σ:St} {H:Hp} {Q:VK} (h:gE K E (m2 f ma mb) σ H Q):tOp (rD K f) (gE K E ma) (gE K E mb) σ H Q:=by
 obtain ⟨ρ,l,S,hl,hs,hm⟩:=h;refine ⟨ρ,l,S,hl,hs,hm.seq fun x S1 hm ρ1 H1 u l1 s1 r1=>⟨ρ1,l,S1,hl.mono l1,s1,(hm.later l1).seq fun y S2 hm ρ2 H2 v l2 s2 r2=>?_⟩⟩;obtain ⟨d,S',e,k⟩:=hm.okR;exact ⟨ρ2,S2,x,y,d,S',s2,r1.mono l2,r2,e,fun ρ' H' z l' s' r'=>k ρ' H' z (l1.trans (l2.trans l')) s' r'⟩
theorem ge_bin {op:Operator} {f:D→D→Sto→Res D} (ho:OpR X (binaryOp op) (rD X.K f)) (ha:GE X E a ma) (hb:GE X E b mb):GE X E (.BinOp a op b pos) (m2 f ma mb):=(pe_op ho ha hb).imp fun _ _ _ h=>tOp_of h
theorem ge_cmp {op:CmpOp} {f:D→D→Sto→Res D} (ho:OpR X (compareOp op) (rD X.K f)) (ha:GE X E a ma) (hb:GE X E b mb) (hm:behindInMarks op b=false):GE X E (.Compare a [op] [b] pos) (m2 f ma mb):=(pe_cmpR ho ha hb hm).imp fun _ _ _ h=>tOp_of h
theorem ge_ix {f:D→D→Sto→Res D} (ho:IxR X (rD X.K f)) (ha:GE X E a ma) (hb:GE X E b mb) (hs:PlainIx b:=by intro _ _;rfl):GE X E (.Subscript a b pos) (m2 f ma mb):=(pe_ix ho ha hb hs).imp fun _ _ _ h=>tOp_of h
noncomputable def mB (m:ME):MT:=fun e S=>(m e S).bind fun d S1=>match d with
 | .bl b=>.ok b S1
 | _=>.bad
noncomputable def mTruD (d:D) (S:Sto):Option Bool:=match d with
 | .non=>some false
 | .bl b=>some b
 | .int i=>some (i != 0)
 | .tup ds=>some (!ds.isEmpty)
 | .fro ds=>some (!ds.isEmpty)
 | .ref n=>match S[n]? with
  | some (.lst ds)=>some (!ds.isEmpty)
  | some (.dK kvs)=>some (!kvs.isEmpty)
  | _=>none
 | _=>none
noncomputable def mTru (m:ME):MT:=fun e S=>(m e S).bind fun d S1=>match mTruD d S1 with
 | some b=>.ok b S1
 | none=>.bad
theorem RelDs.empty {K:PySem.W.Frag} {ρ:List Addr} {H:Hp} {ds:List D} {vs:List V} (h:RelDs K ρ H ds vs):ds.isEmpty=vs.isEmpty:=by cases h <;> rfl
theorem KVR.empty {κ:Type} {K:PySem.W.Frag} {ρ:List Addr} {H:Hp} {x:List (κ×D)} {y:List (κ×V)} (h:KVR K ρ H x y):x.isEmpty=y.isEmpty:=by cases h <;> rfl
theorem truD_ok {K:PySem.W.Frag} {ρ:List Addr} {H:Hp} {S:Sto} {d:D} {x:V} {b:Bool} (hs:RelS K ρ S H) (r:RelD K ρ H d x) (h:mTruD d S=some b):TruV K x H b:=by
 cases r with
 | non=>cases h;rfl
 | bl c=>cases h;rfl
 | int i=>cases h;rfl
 | str x=>cases h
 | tup h1 h2=>cases h;rw [h2.empty];exact .inr (.inl ⟨_,.inl (.inl h1),rfl⟩)
 | fro h1 h2=>cases h;rw [h2.empty];exact .inl ⟨_,h1.sq,rfl⟩
 | exc _ _=>cases h
 | @ref n a hn=>
  obtain ⟨o,ho,ro⟩:=hs.there hn;unfold mTruD at h;simp only [ho] at h
  cases o with
  | lst ds=>cases h;obtain ⟨vs,e,rr⟩:=ro;rw [rr.empty];exact .inl ⟨_,.inl (.inl e),rfl⟩
  | dK kvs=>cases h;obtain ⟨vs,e,rr⟩:=ro;rw [KVR.empty rr];exact .inr (.inr ⟨_,e,rfl⟩)
  | dT kvs=>cases h
  | ins C fs=>cases h
theorem gt_val (h:GE X E e ma) (he:∀whole,isTrue e X.env whole=(do let v ←whole;standAt e.pos;holding [v] (truthy v)):=by intro _;rfl):GT X E e (mB ma):=(pt_val h he).imp fun σ H Q ⟨ρ,l,S,hl,hs,hm⟩=>by
 refine ⟨ρ,l,S,hl,hs,hm.seq fun d S1 hm ρ1 H1 x l1 s1 r1=>?_⟩
 cases d <;> first | exact hm.elim | skip
 cases r1;exact ⟨_,rfl,hm ρ1 H1 l1 s1⟩
theorem gt_truth (h:GE X E e ma) (he:∀whole,isTrue e X.env whole=(do let v ←whole;standAt e.pos;holding [v] (truthy v)):=by intro _;rfl):GT X E e (mTru ma):=(pt_truth h he).imp fun σ H Q ⟨ρ,l,S,hl,hs,hm⟩=>by
 refine ⟨ρ,l,S,hl,hs,hm.seq fun d S1 hm ρ1 H1 x l1 s1 r1=>?_⟩
 cases hb:mTruD d S1 with
 | none=>rw [hb] at hm;exact hm.elim
 | some c=>
  rw [hb] at hm;exact ⟨c,truD_ok s1 r1 hb,hm ρ1 H1 l1 s1⟩
theorem gt_cmp {op:CmpOp} {f:D→D→Sto→Res D} (ho:OpR X (compareOp op) (rD X.K f)) (ha:GE X E a ma) (hb:GE X E b mb) (hm:behindInMarks op b=false):GT X E (.Compare a [op] [b] pos) (mB (m2 f ma mb)):=(pt_cmpR ho ha hb hm).imp fun σ H Q ⟨ρ,l,S,hl,hs,hm⟩=>by
 refine tOp_of (Q:=fun x H'=>∃k,x=.bl k∧Q k H') ⟨ρ,l,S,hl,hs,hm.seq fun d S1 hm ρ1 H1 x l1 s1 r1=>?_⟩
 cases d <;> first | exact hm.elim | skip
 cases r1;exact ⟨_,rfl,hm ρ1 H1 l1 s1⟩
noncomputable def mNot (m:MT):MT:=fun e S=>(m e S).bind fun b S1=>.ok (!b) S1
noncomputable def mAnd (ma mb:MT):MT:=fun e S=>(ma e S).bind fun b S1=>if b=true then mb e S1 else .ok false S1
noncomputable def mOr (ma mb:MT):MT:=fun e S=>(ma e S).bind fun b S1=>if b=true then .ok true S1 else mb e S1
variable {ta tb:MT} {rest:List Expr}
theorem gt_not (h:GT X E a ta):GT X E (.UnaryOp .Not a pos) (mNot ta):=(pt_not h).imp fun σ H Q ⟨ρ,l,S,hl,hs,hm⟩=>by
 exact ⟨ρ,l,S,hl,hs,hm.seq fun d S1 hm ρ1 H1 l1 s1=>hm ρ1 H1 l1 s1⟩
theorem tAnd_of {K:PySem.W.Frag} {σ:St} {H:Hp} {Q:Bool→Hp→Prop} (h:gT K E (mAnd ta tb) σ H Q):tAnd (gT K E ta) (gT K E tb) σ H Q:=by
 obtain ⟨ρ,l,S,hl,hs,hm⟩:=h;refine ⟨ρ,l,S,hl,hs,hm.seq fun c S1 hm ρ1 H1 l1 s1=>?_⟩
 cases c with
 | true=>rw [if_pos rfl] at hm ⊢;exact ⟨ρ1,l,S1,hl.mono l1,s1,hm.go l1 fun _ _ k ρ2 H2 l2 s2=>k ρ2 H2 (l1.trans l2) s2⟩
 | false=>rw [if_neg Bool.false_ne_true] at hm ⊢;exact hm ρ1 H1 l1 s1
theorem tOr_of {K:PySem.W.Frag} {σ:St} {H:Hp} {Q:Bool→Hp→Prop} (h:gT K E (mOr ta tb) σ H Q):tOr (gT K E ta) (gT K E tb) σ H Q:=by
 obtain ⟨ρ,l,S,hl,hs,hm⟩:=h;refine ⟨ρ,l,S,hl,hs,hm.seq fun c S1 hm ρ1 H1 l1 s1=>?_⟩
 cases c with
 | false=>rw [if_neg Bool.false_ne_true] at hm ⊢;exact ⟨ρ1,l,S1,hl.mono l1,s1,hm.go l1 fun _ _ k ρ2 H2 l2 s2=>k ρ2 H2 (l1.trans l2) s2⟩
 | true=>rw [if_pos rfl] at hm ⊢;exact hm ρ1 H1 l1 s1
noncomputable abbrev GW (X:Cx) (E:EW) (e:Expr) (m:MT):Prop:=PW X e (gT X.K E m)
theorem gw_and1 (ha:GT X E a ta):GW X E (.BoolOp .And [a] pos) ta:=pw_and1 ha
theorem gw_or1 (ha:GT X E a ta):GW X E (.BoolOp .Or [a] pos) ta:=pw_or1 ha
theorem gw_and (ha:GT X E a ta) (hb:GW X E (.BoolOp .And (b :: rest) pos) tb):GW X E (.BoolOp .And (a :: b :: rest) pos) (mAnd ta tb):=(pw_and ha hb).imp fun _ _ _ h=>tAnd_of h
theorem gw_or (ha:GT X E a ta) (hb:GW X E (.BoolOp .Or (b :: rest) pos) tb):GW X E (.BoolOp .Or (a :: b :: rest) pos) (mOr ta tb):=(pw_or ha hb).imp fun _ _ _ h=>tOr_of h
theorem gt_w {t:MT} (h:GW X E e t):GT X E e t:=PW.pt h
noncomputable def mOrV (ma mb:ME):ME:=fun e S=>(ma e S).bind fun d S1=>match d with
 | .bl true=>.ok (.bl true) S1
 | .bl false=>mb e S1
 | _=>.bad
noncomputable def mNotV (ma:ME):ME:=fun e S=>(ma e S).bind fun d S1=>match d with
 | .bl c=>.ok (.bl (!c)) S1
 | _=>.bad
theorem ge_one {op} (h:GE X E a ma):GE X E (.BoolOp op [a] pos) ma:=pe_one h
theorem ge_or (ha:GE X E a ma) (hb:GE X E (.BoolOp .Or (b :: rest) pos) mb):GE X E (.BoolOp .Or (a :: b :: rest) pos) (mOrV ma mb):=(pe_or ha hb).imp fun σ H Q ⟨ρ,l,S,hl,hs,hm⟩=>by
 refine ⟨ρ,l,S,hl,hs,hm.seq fun c S1 hm ρ1 H1 x l1 s1 r1=>?_⟩
 cases c with
 | bl c=>
  cases r1;refine ⟨c,rfl,?_⟩
  cases c with
  | false=>rw [if_neg Bool.false_ne_true];exact ⟨ρ1,l,S1,hl.mono l1,s1,hm.go l1 fun _ _ k ρ2 H2 z l2 s2 r2=>k ρ2 H2 z (l1.trans l2) s2 r2⟩
  | true=>rw [if_pos rfl];exact hm ρ1 H1 _ l1 s1 (.bl true)
 | _=>exact hm.elim
theorem ge_not (ha:GE X E a ma):GE X E (.UnaryOp .Not a pos) (mNotV ma):=(pe_not ha).imp fun σ H Q ⟨ρ,l,S,hl,hs,hm⟩=>by
 refine ⟨ρ,l,S,hl,hs,hm.seq fun c S1 hm ρ1 H1 x l1 s1 r1=>?_⟩
 cases c with
 | bl c=>cases r1;exact ⟨c,rfl,hm ρ1 H1 _ l1 s1 (.bl _)⟩
 | _=>exact hm.elim
noncomputable def m3 (f g:D→D→Sto→Res D) (ma mb mc:ME):ME:=fun e S=>(ma e S).bind fun x S1=>(mb e S1).bind fun y S2=>(okR (f x y S2)).bind fun z S3=>match z with
 | .bl true=>(mc e S3).bind fun w S4=>okR (g y w S4)
 | .bl false=>.ok (.bl false) S3
 | _=>.bad
noncomputable def mNil:ML:=fun _ S=>.ok [] S
noncomputable def mCons (m:ME) (r:ML):ML:=fun e S=>(m e S).bind fun d S1=>(r e S1).bind fun ds S2=>.ok (d :: ds) S2
variable {es:List Expr} {ml:ML}
theorem ga_nil:GA X E [] mNil:=pa_nil.imp fun σ H Q ⟨ρ,l,S,hl,hs,hm⟩=>by
 exact hm ρ H [] .refl hs .nil
theorem ga_cons (ha:GE X E e ma) (hr:GA X E es ml) (hs:starEach (e :: es) X.env=(false,eval e X.env) :: starEach es X.env:=by rfl):GA X E (e :: es) (mCons ma ml):=(pa_cons ha hr hs).imp fun σ H Q ⟨ρ,l,S,hl,hs,hm⟩=>by
 exact ⟨ρ,l,S,hl,hs,hm.seq fun d S1 hm ρ1 H1 x l1 s1 r1=>⟨ρ1,l,S1,hl.mono l1,s1,(hm.later l1).seq fun ds' S2 hm ρ2 H2 xs l2 s2 r2=>hm ρ2 H2 (x :: xs) (l1.trans l2) s2 (.cons (r1.mono l2) r2)⟩⟩
noncomputable def mTup (m:ML):ME:=fun e S=>(m e S).bind fun ds S1=>if ds.length≤sizeLine then .ok (.tup ds) S1 else .bad
theorem upd_tup {K:PySem.W.Frag} {ρ:List Addr} {H:Hp} {S:Sto} {p:Addr} {ho:HO} (hs:RelS K ρ S H) (hp:H p=none):RelS K ρ S (upd H p ho)∧Le K ρ H ρ (upd H p ho):=by
 have le:Le K ρ H ρ (upd H p ho):=Le.fresh hp;refine ⟨⟨hs.len,hs.nd,fun n o a h1 h2=>(hs.ob n o a h1 h2).mono le (upd_ne fun z=>?_)⟩,le⟩;subst z;exact hs.notIn hp h2
theorem ge_tup {x1} (h:GA X E es ml):GE X E (.Tuple es x1 pos) (mTup ml):=(pe_tup h).imp fun σ H Q ⟨ρ,l,S,hl,hs,hm⟩=>by
 refine ⟨ρ,l,S,hl,hs,hm.seq fun ds S1 hm ρ1 H1 xs l1 s1 r1=>?_⟩;split at hm
 ·rename_i hz
  refine ⟨by rw [←r1.length];exact hz,fun p hp=>?_⟩;obtain ⟨s2,l2⟩:=upd_tup (ho:=.tup xs) s1 hp;exact hm ρ1 _ _ (l1.trans l2) s2 (.tup upd_same (r1.mono l2))
 ·exact hm.elim
noncomputable def mLenOk (m:ML):ML:=fun e S=>(m e S).bind fun ds S1=>if ds.length≤sizeLine then .ok ds S1 else .bad
theorem gl_lst (h:GA X E es ml):GL X E (.List es pos) (mLenOk ml):=(pe_lst h).imp fun σ H Q ⟨ρ,l,S,hl,hs,hm⟩=>by
 refine ⟨ρ,l,S,hl,hs,hm.seq fun ds S1 hm ρ1 H1 xs l1 s1 r1=>?_⟩;split at hm
 ·rename_i hz
  refine ⟨by rw [←r1.length];exact hz,fun p hp=>?_⟩;obtain ⟨s2,l2⟩:=upd_tup (ho:=.lst xs) s1 hp;exact hm ρ1 _ p xs (l1.trans l2) s2 (r1.mono l2) upd_same (fun n q=>s1.notIn hp q) (l1.back hs s1 hp)
 ·exact hm.elim
noncomputable def mNew (m:ML):ME:=fun e S=>(m e S).bind fun ds S1=>.ok (.ref S1.length) (S1++[.lst ds])
theorem ge_new (h:GL X E e ml):GE X E e (mNew ml):=PE.imp h fun σ H Q ⟨ρ,l,S,hl,hs,hm⟩=>by
 refine ⟨ρ,l,S,hl,hs,hm.seq fun ds S1 hm ρ1 H1 p xs l1 s1 r1 hp hn hp0=>?_⟩
 have l0:∀(n:Nat) a,ρ1[n]?=some a→(ρ1++[p])[n]?=some a:=fun n a h=>by rw [List.getElem?_append_left (List.getElem?_eq_some_iff.mp h).1];exact h
 obtain ⟨s2,at2⟩:=s1.adopt (o:=.lst ds) hn ⟨xs,hp,r1.more l0⟩;refine hm _ _ _ ⟨fun n a h=>l0 n a (l1.pre n a h),l1.tup,l1.frz,fun a o e h=>⟨(l1.oth a o e h).1,fun n q=>?_⟩⟩ s2 (.ref at2)
 rcases get_snoc q with ⟨q,_⟩ | ⟨_,q⟩
 ·exact (l1.oth a o e h).2 n q
 ·exact ne_of_none e hp0 q
noncomputable def seqD (d:D) (S:Sto):Option (List D):=match d with
 | .tup ds=>some ds
 | .fro ds=>some ds
 | .ref n=>match S[n]? with
  | some (.lst ds)=>some ds
  | _=>none
 | _=>none
noncomputable def mSeq (m:ME):ML:=fun e S=>(m e S).bind fun d S1=>match seqD d S1 with
 | some ds=>.ok ds S1
 | none=>.bad
theorem seqD_ok {K:PySem.W.Frag} {ρ:List Addr} {H:Hp} {S:Sto} {d:D} {x:V} {ds:List D} (hs:RelS K ρ S H) (r:RelD K ρ H d x) (h:seqD d S=some ds):∃p xs,x=.ref p∧RelDs K ρ H ds xs∧(SqL K H p xs∨SqT K H p xs):=by
 cases r with
 | tup h1 h2=>cases h;exact ⟨_,_,rfl,h2,.inr (.inl (.inl h1))⟩
 | fro h1 h2=>cases h;exact ⟨_,_,rfl,h2,.inl h1.sq⟩
 | @ref n a hn=>
  obtain ⟨o,ho,ro⟩:=hs.there hn;unfold seqD at h;simp only [ho] at h
  cases o with
  | lst es=>cases h;obtain ⟨vs,e,rr⟩:=ro;exact ⟨_,_,rfl,rr,.inl (.inl (.inl e))⟩
  | _=>cases h
 | _=>cases h
theorem gq_ge (h:GE X E e ma):GQ X E e (mSeq ma):=PE.imp h fun σ H Q ⟨ρ,l,S,hl,hs,hm⟩=>by
 refine ⟨ρ,l,S,hl,hs,hm.seq fun x S1 hm ρ1 H1 v l1 s1 r1=>?_⟩
 cases hq:seqD x S1 with
 | none=>rw [hq] at hm;exact hm.elim
 | some ds=>
  rw [hq] at hm;obtain ⟨p,xs,rfl,r2,sq⟩:=seqD_ok s1 r1 hq;exact hm ρ1 H1 p xs l1 s1 r2 sq
end
noncomputable def Res.lift {α:Type} (r:Res α) (e:Lo) (f:α→Sto→Res Fl):Res Fl:=match r with
 | .ok a S=>f a S
 | .err c S=>.ok (.ex c e) S
 | .bad=>.bad
theorem After.lift {α:Type} {K:PySem.W.Frag} {E:EW} {ρ ρ1:List Addr} {H H1:Hp} {σ:St} {e:Lo} {D:Ends} {r:Res α} {F:α→Sto→Res Fl} {k':α→Sto→Prop} (h:After K noH ρ1 H1 (r.lift e F) fun fl S'=>flOk K E ρ H S' D fl) (hl:RelL K ρ1 H1 e σ) (l:Le K ρ H ρ1 H1)
  (f:∀a S,(After K noH ρ1 H1 (F a S) fun fl S'=>flOk K E ρ H S' D fl)→k' a S):After K (fun c=>E c σ) ρ1 H1 r k':=by
 cases r with
 | ok a S=>exact f a S h
 | err c S=>exact fun ρ' H' l' s'=>h ρ' H' σ (l.trans l') s' (hl.mono l')
 | bad=>exact h
noncomputable def sNx:MS:=fun e S=>.ok (.nx e) S
noncomputable def sBad:MS:=fun _ _=>.bad
noncomputable def sSeq (a b:MS):MS:=fun e S=>(a e S).bind fun f S1=>match f with
 | .nx e1=>b e1 S1
 | f=>.ok f S1
noncomputable def sExpr (m:ME):MS:=fun e S=>(m e S).lift e fun _ S1=>.ok (.nx e) S1
noncomputable def sRet (m:ME):MS:=fun e S=>(m e S).lift e fun d S1=>.ok (.rt d) S1
noncomputable def sIf (t:MT) (a b:MS):MS:=fun e S=>(t e S).lift e fun c S1=>if c=true then a e S1 else b e S1
noncomputable def sAsg (m:ME) (g:MG):MS:=fun e S=>(m e S).lift e fun d S1=>(g d e S1).bind fun e1 S2=>.ok (.nx e1) S2
noncomputable def tgN (i:Nat):MG:=fun d e S=>.ok (e.set i (some d)) S
noncomputable def sSet (i:Nat) (m:ME):MS:=sAsg m (tgN i)
section
variable {X:Cx} {E:EW} {st:Stmt} {rest:List Stmt} {e:Expr} {pos:Pos} {a b:MS} {m:ME} {t:MT}
theorem flOk.later {K:PySem.W.Frag} {ρ ρ1:List Addr} {H H1:Hp} {S:Sto} {D:Ends} {f:Fl} (l:Le K ρ H ρ1 H1) (h:flOk K E ρ H S D f):flOk K E ρ1 H1 S D f:=by
 cases f with
 | nx e=>exact fun ρ' H' σ' l'=>h ρ' H' σ' (l.trans l')
 | bk e=>exact fun ρ' H' σ' l'=>h ρ' H' σ' (l.trans l')
 | ct e=>exact fun ρ' H' σ' l'=>h ρ' H' σ' (l.trans l')
 | ex c e=>exact fun ρ' H' σ' l'=>h ρ' H' σ' (l.trans l')
 | rt d=>exact fun ρ' H' x l'=>h ρ' H' x (l.trans l')
theorem gss_nil:GSs X E [] sNx:=pss_nil.imp fun D σ H ⟨ρ,l,S,hl,hs,hm⟩=>by
 exact hm ρ H σ .refl hs hl
theorem gss_cons (h1:GS X E st a) (h2:GSs X E rest b):GSs X E (st :: rest) (sSeq a b):=(pss_cons h1 h2).imp fun D σ H ⟨ρ,l,S,hl,hs,hm⟩=>by
 refine ⟨ρ,l,S,hl,hs,hm.seq fun g S1 hm=>?_⟩
 cases g with
 | nx e'=>exact fun ρ1 H1 σ1 l1 s1 r1=>⟨ρ1,e',S1,r1,s1,hm.go l1 fun _ _ k=>k.later l1⟩
 | rt d=>exact hm
 | bk d=>exact hm
 | ct d=>exact hm
 | ex c d=>exact hm
theorem gss_one (h1:GS X E st a):GSs X E [st] a:=pss_one h1
theorem gs_never:GS X E st sBad:=(ps_never (X:=X) (st:=st)).imp fun D σ H ⟨ρ,l,S,hl,hs,hm⟩=>hm.elim
theorem gs_expr (he:GE X E e m) (hs:swapsWith e none pos.line X.env=pure false:=by rfl):GS X E (.Expr e pos) (sExpr m):=(ps_expr he hs).imp fun D σ H ⟨ρ,l,S,hl,hs,hm⟩=>by
 exact ⟨ρ,l,S,hl,hs,hm.lift hl .refl fun d S1 hm ρ1 H1 x l1 s1 r1=>hm ρ1 H1 σ l1 s1 (hl.mono l1)⟩
theorem gs_ret (he:GE X E e m):GS X E (.Return (some e) pos) (sRet m):=(ps_ret he).imp fun D σ H ⟨ρ,l,S,hl,hs,hm⟩=>by
 exact ⟨ρ,l,S,hl,hs,hm.lift hl .refl fun d S1 hm ρ1 H1 x l1 s1 r1=>hm ρ1 H1 x l1 s1 r1⟩
theorem gs_if {c:Expr} {sa sb:List Stmt} (hc:GT X E c t) (ha:GSs X E sa a) (hb:GSs X E sb b):GS X E (.If c sa sb pos) (sIf t a b):=(ps_if hc ha hb).imp fun D σ H ⟨ρ,l,S,hl,hs,hm⟩=>by
 refine ⟨ρ,l,S,hl,hs,hm.lift hl .refl fun c S1 hm ρ1 H1 l1 s1=>?_⟩
 cases c with
 | true=>rw [if_pos rfl] at hm ⊢;exact ⟨ρ1,l,S1,hl.mono l1,s1,hm.go l1 fun _ _ k=>k.later l1⟩
 | false=>rw [if_neg Bool.false_ne_true] at hm ⊢;exact ⟨ρ1,l,S1,hl.mono l1,s1,hm.go l1 fun _ _ k=>k.later l1⟩
theorem gg_name {i:Nat} {tg:Expr} (h:PG X tg (gName i)):GG X tg (tgN i):=h.imp fun v σ H Q ⟨ρ,l,S,d,hd,hl,hs,hm⟩=>by
 exact hm ρ H _ .refl hs (hl.set hd i)
theorem gs_set {i:Nat} {x:Str} {pos':Pos} (hN:X.N.Nodup) (hi:X.N[i]?=some x) (hx:Loc X.env.scope x) (he:GE X E e m) (hs:swapsWith e (some (.Name x pos')) pos.line X.env=pure false:=by rfl)
  (hf:X.fn x=true∨X.env.scope.names.lookup x=some .local:=by first | exact .inl rfl | exact .inr rfl | assumption):GS X E (.Assign [.Name x pos'] e pos) (sSet i m):=(ps_set hN hi hx he hs hf).imp fun D σ H ⟨ρ,l,S,hl,hs,hm⟩=>by
 exact ⟨ρ,l,S,hl,hs,hm.lift hl .refl fun d S1 hm ρ1 H1 x l1 s1 r1=>hm ρ1 H1 _ l1 s1 ((hl.mono l1).set r1 i)⟩
noncomputable def forV (v:View) (g:MG) (b:MS):Nat→Nat→Lo→Sto→Res Fl
 | k,i,e,S=>match v S with
  | none=>.bad
  | some ds=>match ds[i]? with
   | none=>.ok (.nx e) S
   | some d=>match k with
    | 0=>.bad
    | k+1=>(g d e S).bind fun e1 S1=>(b e1 S1).bind fun f S2=>match f with
     | .nx e2=>forV v g b k (i+1) e2 S2
     | .ct e2=>forV v g b k (i+1) e2 S2
     | .bk e2=>.ok (.nx e2) S2
     | .rt d=>.ok (.rt d) S2
     | .ex c e2=>.ok (.ex c e2) S2
noncomputable def viewLen (v:View) (S:Sto):Nat:=match v S with
 | none=>0
 | some ds=>ds.length
noncomputable def sFor (m:MI) (g:MG) (b:MS):MS:=fun e S=>(m e S).lift e fun v S1=>forV v g b (viewLen v S1) 0 e S1
theorem gs_for {tg iter:Expr} {body:List Stmt} {mi:MI} {g:MG} (hp:PassesOwn (model X.prog X.w) X.A X.env X.xe) (hc:X.calm=true) (hi:GI X E tg iter mi) (hg:GG X tg g) (hb:GSs X E body b)
  (hs:∀x,foldedSetIterable iter X.env x=pure x:=by intro _;rfl):GS X E (.For tg iter body [] pos) (sFor mi g b):=(ps_for hp hc hi hg hb hs).imp fun D σ H ⟨ρ,l,S,hl,hs,hm⟩=>by
 refine ⟨ρ,l,S,hl,hs,hm.lift hl .refl fun v S1 hm ρ1 H1 J l1 s1 vo=>?_⟩;refine ⟨fun i n σ2 H2=>∃ρ2 e2 S2,Le X.K ρ1 H1 ρ2 H2∧RelL X.K ρ2 H2 e2 σ2∧RelS X.K ρ2 S2 H2∧After X.K noH ρ2 H2 (forV v g b n i e2 S2) fun fl S'=>flOk X.K E ρ H S' D fl,⟨viewLen v S1,ρ1,l,S1,.refl,hl.mono l1,s1,hm.later l1⟩,?_⟩;rintro i n σ2 H2 ⟨ρ2,e2,S2,l2,r2,s2,hm2⟩;unfold forV at hm2
 cases hv:v S2 with
 | none=>rw [hv] at hm2;exact hm2.elim
 | some ds=>
  rw [hv] at hm2;dsimp only at hm2;obtain ⟨v1,v2⟩:=vo ρ2 H2 S2 ds i l2 s2 hv
  cases hd:ds[i]? with
  | none=>
   rw [hd] at hm2;exact .inl ⟨v1 hd,hm2 ρ2 H2 σ2 (l1.trans l2) s2 r2⟩
  | some d=>
   rw [hd] at hm2;dsimp only at hm2;obtain ⟨go,yl⟩:=v2 d hd
   cases n with
   | zero=>exact hm2.elim
   | succ n=>
    dsimp only at hm2;refine .inr ⟨go,fun σ' H'=>∃ρ2 e2 S2,Le X.K ρ1 H1 ρ2 H'∧RelL X.K ρ2 H' e2 σ'∧RelS X.K ρ2 S2 H'∧After X.K noH ρ2 H' (forV v g b n (i+1) e2 S2) fun fl S'=>flOk X.K E ρ H S' D fl,fun σ' H' q=>⟨n,Nat.lt_succ_self n,q⟩,fun x H' y=>?_⟩;obtain ⟨ρ3,l3,s3,rd⟩:=yl x H' y;refine ⟨ρ3,e2,S2,d,rd,r2.mono l3,s3,(hm2.later l3).seq fun e3 S3 hm2 ρ4 H4 σ4 l4 s4 r4=>?_⟩;refine ⟨ρ4,e3,S3,r4,s4,(hm2.later l4).seq fun f4 S4 hm2=>?_⟩
    cases f4 with
    | nx e5=>exact fun ρ5 H5 σ5 l5 s5 r5=>⟨ρ5,e5,S4,l2.trans (l3.trans (l4.trans l5)),r5,s5,hm2.later l5⟩
    | ct e5=>exact fun ρ5 H5 σ5 l5 s5 r5=>⟨ρ5,e5,S4,l2.trans (l3.trans (l4.trans l5)),r5,s5,hm2.later l5⟩
    | bk e5=>exact fun ρ5 H5 σ5 l5 s5 r5=>hm2 ρ5 H5 σ5 (l1.trans (l2.trans (l3.trans (l4.trans l5)))) s5 r5
    | ex c e5=>exact fun ρ5 H5 σ5 l5 s5 r5=>hm2 ρ5 H5 σ5 (l1.trans (l2.trans (l3.trans (l4.trans l5)))) s5 r5
    | rt d5=>exact fun ρ5 H5 x5 l5 s5 r5=>hm2 ρ5 H5 x5 (l1.trans (l2.trans (l3.trans (l4.trans l5)))) s5 r5
end
end L2
namespace L2
open PySem PySem.Spec PyProof.Rows
section
variable {X:Cx} {E:EW} {tg e:Expr} {m:ME} {ml:ML} {K:PySem.W.Frag}
noncomputable def viewL (d:D):View:=fun S=>match d with
 | .ref n=>match S[n]? with
  | some (.lst ds)=>some ds
  | _=>none
 | .fro ds=>some ds
 | _=>none
noncomputable def viewC (ds:List D):View:=fun _=>some ds
noncomputable def iLst (m:ME):MI:=fun e S=>(m e S).bind fun d S1=>match viewL d S1 with
 | some _=>.ok (viewL d) S1
 | none=>.bad
noncomputable def iTupM (m:ME):MI:=fun e S=>(m e S).bind fun d S1=>match d with
 | .tup ds=>.ok (viewC ds) S1
 | _=>.bad
theorem viewL_sq {ρ:List Addr} {H:Hp} {S:Sto} {a:Addr} {d:D} {ds:List D} (s:RelS K ρ S H) (r:RelD K ρ H d (.ref a)) (hv:viewL d S=some ds):∃xs,SqL K H a xs∧RelDs K ρ H ds xs:=by
 cases r with
 | tup h1 h2=>cases hv
 | exc _ _=>cases hv
 | fro h1 h2=>cases hv;exact ⟨_,h1.sq,h2⟩
 | @ref n _ hn=>
  obtain ⟨o,ho,ro⟩:=s.there hn;unfold viewL at hv;simp only [ho] at hv
  cases o with
  | lst es=>
   cases hv;obtain ⟨vs,e,rr⟩:=ro;exact ⟨vs,.inl (.inl e),rr⟩
  | _=>cases hv
theorem viewOk_lst {ρ:List Addr} {H:Hp} {a:Addr} {d:D} (r:RelD K ρ H d (.ref a)):ViewOk K ρ H (Itl K a) (viewL d):=by
 intro ρ2 H2 S ds i l s hv;obtain ⟨xs,sq,rr⟩:=viewL_sq s (r.mono l) hv;refine ⟨fun hn=>⟨xs,sq,by rw [←rr.length];exact List.getElem?_eq_none_iff.mp hn⟩,fun d hd=>?_⟩;obtain ⟨x,hx,rx⟩:=rr.get hd;refine ⟨⟨xs,x,sq,hx⟩,fun y H' ⟨e,hy⟩=>?_⟩;subst e;have:=hy xs sq;rw [hx] at this;cases this;exact ⟨ρ2,.refl,s,rx⟩
theorem gi_lst (h:GE X E e m):GI X E tg e (iLst m):=(pi_list h).imp fun σ H R ⟨ρ,l,S,hl,hs,hm⟩=>by
 refine ⟨ρ,l,S,hl,hs,hm.seq fun d S1 hm ρ1 H1 x l1 s1 r1=>?_⟩
 cases hv:viewL d S1 with
 | none=>rw [hv] at hm;exact hm.elim
 | some ds=>
  rw [hv] at hm
  have:∃a,x=.ref a:=by
   cases r1 <;> first | exact ⟨_,rfl⟩ | (cases hv;done)
  obtain ⟨a,rfl⟩:=this;obtain ⟨xs,sq,_⟩:=viewL_sq s1 r1 hv;exact ⟨a,rfl,⟨xs,sq⟩,hm ρ1 H1 _ l1 s1 (viewOk_lst r1)⟩
theorem viewOk_tup {ρ:List Addr} {H:Hp} {a:Addr} {ds:List D} {xs:List V} (h1:H a=some (.tup xs)) (h2:RelDs K ρ H ds xs):ViewOk K ρ H (Itt K a) (viewC ds):=by
 intro ρ2 H2 S ds' i l s hv;cases hv;have rr:=h2.mono l;have sq:SqT K H2 a xs:=.inl (.inl (l.tup _ _ h1));refine ⟨fun hn=>⟨xs,sq,by rw [←rr.length];exact List.getElem?_eq_none_iff.mp hn⟩,fun d hd=>?_⟩;obtain ⟨x,hx,rx⟩:=rr.get hd;refine ⟨⟨xs,x,sq,hx⟩,fun y H' ⟨e,hy⟩=>?_⟩;subst e;have:=hy xs sq;rw [hx] at this;cases this;exact ⟨ρ2,.refl,s,rx⟩
theorem gi_tup (h:GE X E e m):GI X E tg e (iTupM m):=(pi_tup h).imp fun σ H R ⟨ρ,l,S,hl,hs,hm⟩=>by
 refine ⟨ρ,l,S,hl,hs,hm.seq fun d S1 hm ρ1 H1 x l1 s1 r1=>?_⟩
 cases d <;> first | exact hm.elim | skip
 cases r1 with
 | tup q1 q2=>exact ⟨_,rfl,⟨_,.inl (.inl q1)⟩,hm ρ1 H1 _ l1 s1 (viewOk_tup q1 q2)⟩
noncomputable def rngDs (lo:Int) (n:Nat):List D:=(List.range n).map fun i:Nat=>D.int (lo+i)
theorem rngDs_get (lo:Int) (n i:Nat):(rngDs lo n)[i]?=if i < n then some (.int (lo+i)) else none:=by
 unfold rngDs;rw [List.getElem?_map]
 by_cases h:i < n
 ·rw [List.getElem?_range h,if_pos h];rfl
 ·rw [if_neg h,List.getElem?_eq_none_iff.mpr (by simpa using h)];rfl
theorem viewOk_rng {ρ:List Addr} {H:Hp} (lo:Int) (n:Nat):ViewOk K ρ H (Itr lo n) (viewC (rngDs lo n)):=by
 intro ρ2 H2 S ds' i l s hv;cases hv;rw [rngDs_get];refine ⟨fun hn=>?_,fun d hd=>?_⟩
 ·split at hn
  ·cases hn
  ·rename_i h;exact Nat.le_of_not_lt h
 ·split at hd
  ·rename_i h
   cases hd;refine ⟨h,fun y H' ⟨e,hy⟩=>?_⟩;subst e;subst hy;exact ⟨ρ2,.refl,s,.int _⟩
  ·cases hd
noncomputable def iR1 (ml:ML):MI:=fun e S=>(ml e S).bind fun ds S1=>match ds with
 | [.int j]=>if -(2 ^ 62)≤j∧j < 2 ^ 62 then .ok (viewC (rngDs 0 j.toNat)) S1 else .bad
 | _=>.bad
noncomputable def iR2 (ml:ML):MI:=fun e S=>(ml e S).bind fun ds S1=>match ds with
 | [.int i,.int j]=>if -(2 ^ 62)≤i∧i < 2 ^ 62∧-(2 ^ 62)≤j∧j < 2 ^ 62 then .ok (viewC (rngDs i (j - i).toNat)) S1 else .bad
 | _=>.bad
theorem gi_range1 {a:Expr} {p pos:Pos} (hg:Gl X "range") (hm:X.mg "range" = none) (ha:GA X E [a] ml) (hs:starEach [a] X.env=[(false,eval a X.env)]:=by rfl):GI X E tg (.Call (.Name "range" p) [a] [] pos) (iR1 ml):=(pi_range1 hg hm ha hs).imp fun σ H R ⟨ρ,l,S,hl,hs,hm⟩=>by
 refine ⟨ρ,l,S,hl,hs,hm.seq fun ds S1 hm ρ1 H1 xs l1 s1 r1=>?_⟩;split at hm
 ·rename_i j
  split at hm
  ·rename_i hj
   cases r1 with
   | cons r t=>
    cases t;cases r;exact ⟨j,rfl,hj.1,hj.2,hm ρ1 H1 _ l1 s1 (viewOk_rng 0 j.toNat)⟩
  ·exact hm.elim
 ·exact hm.elim
theorem gi_range2 {a b:Expr} {p pos:Pos} (hg:Gl X "range") (hm:X.mg "range" = none) (ha:GA X E [a,b] ml) (hs:starEach [a,b] X.env=[(false,eval a X.env),(false,eval b X.env)]:=by rfl) (hs2:starEach [b] X.env=[(false,eval b X.env)]:=by rfl) :
  GI X E tg (.Call (.Name "range" p) [a,b] [] pos) (iR2 ml):=(pi_range2 hg hm ha hs hs2).imp fun σ H R ⟨ρ,l,S,hl,hs,hm⟩=>by
 refine ⟨ρ,l,S,hl,hs,hm.seq fun ds S1 hm ρ1 H1 xs l1 s1 r1=>?_⟩;split at hm
 ·rename_i i j
  split at hm
  ·rename_i hj
   cases r1 with
   | cons r t=>
    cases t with
    | cons r' t=>
     cases t;cases r;cases r';exact ⟨i,j,rfl,hj,hm ρ1 H1 _ l1 s1 (viewOk_rng i _)⟩
  ·exact hm.elim
 ·exact hm.elim
end
noncomputable def tgNil:List D→Lo→Sto→Res Lo
 | [],e,S=>.ok e S
 | _,_,_=>.bad
noncomputable def tgCons (g:MG) (r:List D→Lo→Sto→Res Lo):List D→Lo→Sto→Res Lo
 | d :: ds,e,S=>(g d e S).bind fun e1 S1=>r ds e1 S1
 | [],_,_=>.bad
noncomputable def tgTup (n:Nat) (r:List D→Lo→Sto→Res Lo):MG:=fun d e S=>match d with
 | .tup ds=>if ds.length=n then r ds e S else .bad
 | _=>.bad
section
variable {X:Cx} {E:EW} {pos:Pos}
noncomputable def gGs (K:PySem.W.Frag) (r:List D→Lo→Sto→Res Lo):TGs:=fun vs σ H Q=>∃ρ e S ds,RelDs K ρ H ds vs∧RelL K ρ H e σ∧RelS K ρ S H∧After K noH ρ H (r ds e S) fun e' S'=>∀ρ' H' σ',Le K ρ H ρ' H'→RelS K ρ' S' H'→RelL K ρ' H' e' σ'→Q σ' H'
noncomputable abbrev GGs (X:Cx) (ts:List Expr) (r:List D→Lo→Sto→Res Lo):Prop:=PGs X ts (gGs X.K r)
theorem PGs.imp {X:Cx} {ts:List Expr} {t t':TGs} (h:PGs X ts t) (i:∀vs σ H Q,t' vs σ H Q→t vs σ H Q):PGs X ts t':=fun pins s σ H vs us Q I r q=>h pins s σ H vs us Q I r (i vs σ H Q q)
theorem ggs_nil:GGs X [] tgNil:=pgs_nil.imp fun vs σ H Q ⟨ρ,l,S,ds,hd,hl,hs,hm⟩=>by
 cases ds with
 | nil=>cases hd;exact ⟨rfl,hm ρ H σ .refl hs hl⟩
 | cons d ds=>exact hm.elim
theorem ggs_cons {e:Expr} {es:List Expr} {g:MG} {r:List D→Lo→Sto→Res Lo} (h1:GG X e g) (h2:GGs X es r)
  (hs:(assignEach (e :: es) X.env).map (·.2)=assign e X.env :: (assignEach es X.env).map (·.2):=by rfl):GGs X (e :: es) (tgCons g r):=(pgs_cons h1 h2 hs).imp fun vs σ H Q ⟨ρ,l,S,ds,hd,hl,hs,hm⟩=>by
 cases ds with
 | nil=>exact hm.elim
 | cons d ds=>
  cases hd with
  | cons q1 q2=>
   exact ⟨_,_,rfl,ρ,l,S,d,q1,hl,hs,hm.seq fun e1 S1 hm ρ1 H1 σ1 l1 s1 r1=>⟨ρ1,e1,S1,ds,q2.mono l1,r1,s1,hm.go l1 fun _ _ k ρ2 H2 σ2 l2 s2 r2=>k ρ2 H2 σ2 (l1.trans l2) s2 r2⟩⟩
theorem gg_tup {es:List Expr} {k:Nat} {r:List D→Lo→Sto→Res Lo} {n:Nat} (hc:X.calm=true) (h:GGs X es r)
  (hn:(assignEach es X.env).length=n:=by rfl) (hst:(assignEach es X.env).findIdx? (·.1)=none:=by rfl):GG X (.Tuple es k pos) (tgTup n r):=(pg_tup hc h hn hst).imp fun v σ H Q ⟨ρ,l,S,d,hd,hl,hs,hm⟩=>by
 cases d <;> first | exact hm.elim | skip
 rename_i ds
 cases hd with
 | tup q1 q2=>
  unfold tgTup at hm;dsimp only at hm;split at hm
  ·rename_i hlen
   exact ⟨_,_,rfl,.inl (.inl q1),by rw [←q2.length];exact hlen,ρ,l,S,ds,q2,hl,hs,hm⟩
  ·exact hm.elim
end
noncomputable def spM (K:PySem.W.Frag) (n:Nat) (f:List D→Sto→Res D):Sp:=fun vs H Q E=>∃ρ ds S,ds.length=n∧RelDs K ρ H ds vs∧RelS K ρ S H∧After K (fun c H'=>E (.ref c) none H') ρ H (f ds S) fun d S'=>
 ∀ρ' H' x,Le K ρ H ρ' H'→RelS K ρ' S' H'→RelD K ρ' H' d x→Q x H'
theorem spM.len {K:PySem.W.Frag} {n:Nat} {f:List D→Sto→Res D} {vs:List V} {H:Hp} {Q:VK} {E:XK} (h:spM K n f vs H Q E):vs.length=n:=by
 obtain ⟨ρ,ds,S,h1,h2,_⟩:=h;rw [←h2.length];exact h1
noncomputable def mCall (n:Nat) (f:List D→Sto→Res D) (m:ML):ME:=fun e S=>(m e S).bind fun ds S1=>if ds.length=n then f ds S1 else .bad
noncomputable def mMake (C:Addr) (n:Nat) (f:List D→Sto→Res D) (m:ML):ME:=fun e S=>(m e S).bind fun ds S1=>if ds.length+1=n then (f (.ref S1.length :: ds) (S1++[.ins C []])).bind (fun d S2=>match d with
  | .non=>.ok (.ref S1.length) S2
  | _=>.bad) else .bad
noncomputable def xkOf (E:EW) (σ:St):XK:=fun v o H=>o=none∧∃c,v=.ref c∧E c σ H
section
variable {X:Cx} {E:EW} {CX:CXT} {k n:Nat} {f C:Addr} {fd:FuncData} {ps:List Str} {x:Str} {p pos:Pos} {e:Expr} {es:List Expr} {ml:ML} {g:List D→Sto→Res D}
theorem After.xk {α:Type} {K:PySem.W.Frag} {σ:St} {ρ ρ1:List Addr} {H H1:Hp} {r:Res α} {k k':α→Sto→Prop} (h:After K (fun c=>E c σ) ρ H r k) (l:Le K ρ H ρ1 H1) (f:∀a S,k a S→k' a S):After K (fun c H'=>xkOf E σ (.ref c) none H') ρ1 H1 r k':=by
 cases r with
 | ok a S=>exact f a S h
 | err c S=>exact fun ρ' H' l' s=>⟨rfl,c,rfl,h ρ' H' (l.trans l') s⟩
 | bad=>exact h
theorem ge_call (F:FnOk X.prog X.w X.K X.mg X.base CX k f fd ps (spM X.K n g)) (hx:Passes CX X (xkOf E)) (hr:Room k X.A) (hg:Gl X x) (hm:X.mg x=some (.ref f)) (hk:PySem.W.keepIn X.K (.ref f)=true) (hb:Binds X.K fd ps [])
  (ha:GA X E (e :: es) ml) (hdb:(x==("__debug__" : Str))=false:=by decide) (he:starEach (e :: es) X.env=(false,eval e X.env) :: starEach es X.env:=by rfl) (hpl:(backTo pos (starEach es X.env)).any (·.1)=false:=by rfl) :
  GE X E (.Call (.Name x p) (e :: es) [] pos) (mCall n g ml):=(pe_call (E:=xkOf E) F hr hg hm hk hb .nil hx ha hdb he hpl).imp fun σ H Q ⟨ρ,l,S,hl,hs,hm⟩=>by
 refine ⟨ρ,l,S,hl,hs,hm.seq fun ds S1 hm ρ1 H1 xs l1 s1 r1=>?_⟩;split at hm
 ·rename_i hlen
  rw [List.append_nil];exact ⟨ρ1,ds,S1,hlen,r1,s1,hm.xk l1 fun _ _ k ρ' H' z l' s' r'=>k ρ' H' z (l1.trans l') s' r'⟩
 ·exact hm.elim
theorem ge_make (M:Mk X.K C f) (F:FnOk X.prog X.w X.K X.mg X.base CX k f fd ps (spM X.K n g)) (hx:Passes CX X (xkOf E)) (hr:Room (k+1) X.A) (hg:Gl X x) (hm:X.mg x=some (.ref C)) (hb:Binds X.K fd ps [])
  (ha:GA X E (e :: es) ml) (hdb:(x==("__debug__" : Str))=false:=by decide) (he:starEach (e :: es) X.env=(false,eval e X.env) :: starEach es X.env:=by rfl) (hpl:(backTo pos (starEach es X.env)).any (·.1)=false:=by rfl) :
  GE X E (.Call (.Name x p) (e :: es) [] pos) (mMake C n g ml):=(pe_make (E:=xkOf E) M F hr hg hm hb .nil hx ha hdb he hpl).imp fun σ H Q ⟨ρ,l,S,hl,hs,hm⟩=>by
 refine ⟨ρ,l,S,hl,hs,hm.seq fun ds S1 hm ρ1 H1 xs l1 s1 r1 a dx ha hdx hne=>?_⟩;split at hm
 ·rename_i hlen
  rw [List.append_nil];obtain ⟨s2,l2⟩:=upd_tup (ho:=.own a) s1 hdx
  have ha2:upd H1 dx (.own a) a=none:=by rw [upd_ne (Ne.symm hne)];exact ha
  obtain ⟨s3,l3,at3⟩:=s2.alloc (p:=a) (ho:=.ins C dx []) (o:=.ins C []) ha2 ⟨dx,[],upd_same,.nil⟩;refine ⟨ρ1++[a],.ref S1.length :: ds,S1++[.ins C []],by simpa using hlen,.cons (.ref at3) (r1.mono (l2.trans l3)),s3,After.xk (hm.seq fun z S2 hm=>hm) (l1.trans (l2.trans l3)) fun z S2 hm ρ' H' y l' s' r'=>?_⟩
  cases z <;> first | exact hm.elim | skip
  cases r';exact ⟨rfl,hm ρ' H' _ (l1.trans (l2.trans (l3.trans l'))) s' (.ref (l'.pre _ _ at3))⟩
 ·exact hm.elim
end
theorem KVR.lookup {K:PySem.W.Frag} {ρ:List Addr} {H:Hp} (f:Str):∀ {x:List (Str×D)} {y:List (Str×V)} {d:D},KVR K ρ H x y→x.lookup f=some d→∃v,y.lookup f=some v∧RelD K ρ H d v
 | _,_,_,.nil,h=>by simp at h
 | (g,a) :: x,(g',b) :: y,d,.cons r t,h=>by
  obtain ⟨r1,r2⟩:=r;dsimp only at r1 r2;subst r1;rw [List.lookup_cons] at h ⊢
  cases hq:(f==g) with
  | true=>rw [hq] at h;cases h;exact ⟨b,rfl,r2⟩
  | false=>rw [hq] at h;exact KVR.lookup f t h
noncomputable def putD (f:Str) (v:D):List (Str×D)→List (Str×D)
 | []=>[(f,v)]
 | (g,x) :: r=>if g=f then (g,v) :: r else (g,x) :: putD f v r
theorem KVR.putF {K:PySem.W.Frag} {ρ:List Addr} {H:Hp} (f:Str) {d:D} {v:V} (rd:RelD K ρ H d v):∀ {x:List (Str×D)} {y:List (Str×V)},KVR K ρ H x y→KVR K ρ H (putD f d x) (putF f v y)
 | _,_,.nil=>.cons ⟨rfl,rd⟩ .nil
 | (g,a) :: x,(g',b) :: y,.cons r t=>by
  obtain ⟨r1,r2⟩:=r;dsimp only at r1 r2;subst r1;unfold putD L2.putF
  by_cases hq:g=f
  ·rw [if_pos hq,if_pos hq];exact .cons ⟨rfl,rd⟩ t
  ·rw [if_neg hq,if_neg hq];exact .cons ⟨rfl,r2⟩ (KVR.putF f rd t)
theorem KVR.length {κ:Type} {K:PySem.W.Frag} {ρ:List Addr} {H:Hp} {x:List (κ×D)} {y:List (κ×V)} (h:KVR K ρ H x y):x.length=y.length:=Paired.length h
noncomputable def mFld (C:Addr) (f:Str) (m:ME):ME:=fun e S=>(m e S).bind fun d S1=>match d with
 | .ref n=>match S1[n]? with
  | some (.ins C' fs)=>if C'=C then (match fs.lookup f with | some v=>.ok v S1 | none=>.bad) else .bad
  | _=>.bad
 | _=>.bad
noncomputable def sFldM (C:Addr) (f:Str) (mo mv:ME):MS:=fun e S=>(mv e S).lift e fun v S1=>(mo e S1).lift e fun d S2=>match d with
 | .ref n=>match S2[n]? with
  | some (.ins C' fs)=>if C'=C∧fs.length < 1000 then .ok (.nx e) (S2.set n (.ins C (putD f v fs))) else .bad
  | _=>.bad
 | _=>.bad
section
variable {X:Cx} {E:EW} {o e value:Expr} {f:Str} {pos pos':Pos} {m mv:ME} {C:Addr}
theorem ge_fld (hc:Cls X.K C) (hn:NoAttr X.K C f) (he:GE X E e m) (hb:attributeBase e f X.env (eval e X.env)=eval e X.env:=by rfl):GE X E (.Attribute e f pos) (mFld C f m):=(pe_fld he hb).imp fun σ H Q ⟨ρ,l,S,hl,hs,hm⟩=>by
 refine ⟨ρ,l,S,hl,hs,hm.seq fun x S1 hm ρ1 H1 v l1 s1 r1=>?_⟩
 cases x <;> first | exact hm.elim | skip
 rename_i n;dsimp only at hm
 cases ho:S1[n]? with
 | none=>rw [ho] at hm;exact hm.elim
 | some ob=>
  rw [ho] at hm
  cases ob <;> first | exact hm.elim | skip
  rename_i C' fs;dsimp only at hm;split at hm
  ·rename_i hC
   rw [hC] at ho
   cases r1 with
   | ref hn'=>
    obtain ⟨dx,fs',e1,e2⟩:=s1.ob n _ _ ho hn'
    cases hq:fs.lookup f with
    | none=>rw [hq] at hm;exact hm.elim
    | some w=>
     rw [hq] at hm;obtain ⟨v,h3,h4⟩:=KVR.lookup f e2 hq;exact ⟨_,_,dx,fs',v,rfl,e1,hc,hn,h3,hm ρ1 H1 v l1 s1 h4⟩
  ·exact hm.elim
theorem gs_fld (hc:Cls X.K C) (hn:NoAttr X.K C f) (ha:GE X E o m) (hv:GE X E value mv) (hs:swapsWith value (some (.Attribute o f pos')) pos.line X.env=pure false:=by rfl):GS X E (.Assign [.Attribute o f pos'] value pos) (sFldM C f m mv):=(ps_fld ha hv hs).imp fun D σ H ⟨ρ,l,S,hl,hs,hm⟩=>by
 refine ⟨ρ,l,S,hl,hs,hm.lift hl .refl fun v S1 hm ρ1 H1 y l1 s1 r1=>⟨ρ1,l,S1,hl.mono l1,s1,(hm.later l1).lift (hl.mono l1) l1 fun x S2 hm ρ2 H2 u l2 s2 r2=>?_⟩⟩
 cases x <;> first | exact hm.elim | skip
 rename_i n;dsimp only at hm
 cases ho:S2[n]? with
 | none=>rw [ho] at hm;exact hm.elim
 | some ob=>
  rw [ho] at hm
  cases ob <;> first | exact hm.elim | skip
  rename_i C' fs;dsimp only at hm;split at hm
  ·rename_i hC
   obtain ⟨hC,hlen⟩:=hC;rw [hC] at ho
   cases r2 with
   | ref hn'=>
    obtain ⟨dx,fs',e1,e2⟩:=s2.ob n _ _ ho hn';have le:Le X.K ρ2 H2 ρ2 (upd H2 _ (.ins C dx (putF f y fs'))):=Le.write hn' (by rw [e1];trivial);obtain ⟨s3,l3⟩:=s2.write (ho:=.ins C dx (putF f y fs')) (o:=.ins C (putD f v fs)) hn' ⟨dx,_,upd_same,(KVR.putF f (r1.mono l2) e2).mono le⟩;refine ⟨_,C,dx,fs',rfl,e1,hc,hn,by rw [←KVR.length e2];exact hlen,?_⟩;exact hm ρ2 _ σ (l1.trans (l2.trans l3)) s3 (hl.mono (l1.trans (l2.trans l3)))
  ·exact hm.elim
end
end L2
namespace L2
open PySem PySem.Spec PyProof.Rows
noncomputable def ExAt (Nw:Addr→Prop) (F:Option Value→Prop) (ea C:Addr) (H:Hp) (h:Heap):Prop:=
 H ea=none∧Nw ea∧∃(oe:Obj) (vs:Array Value) (a0:Value),h.get? ea=some oe∧oe.cls=.ref C∧(oe.dict=none∧oe.data=.fields vs)∧vs[0]?=some a0 ∧
  ((F none∧vs[1]?=some .none)∨∃(T:Addr) (oT:Obj) (ts:Array Value) (fl:Value),F (some fl)∧vs[1]?=some (.ref T)∧T≠ea∧H T=none∧Nw T∧h.get? T=some oT∧oT.data=.fields ts∧ts[3]?=some fl)
section
variable {X:Cx} {pins:List (Addr×Obj)} {σ:St} {H:Hp} {s:Shared} {h':Heap} {ea C:Addr} {F:Option Value→Prop}
end
noncomputable def CXG (P:Program) (w:World):CXT:=fun outer H s E e s'=>∃ea C H',e=.ref ea∧s'.os=s.os∧AllBare s'.gens∧Un (frs outer) [] H H' s.heap s'.heap∧HOk P w H' s'.heap∧ExAt (fun b=>s.heap.get? b=none) (· = some .none) ea C H' s'.heap∧E (.ref C) none H'
theorem Inv.with {X:Cx} {pins:List (Addr×Obj)} {σ:St} {H:Hp} {s:Shared} (I:Inv X pins σ H s) (z:Value→Shared→Prop):Inv { X with xe:=z } pins σ H s:=by
 obtain ⟨ok,a,b,c,d,e,f,g,i,j,l⟩:=I;obtain ⟨o1,o2,o3,o4,o5,o6,o7,o8,o9,o10,o11,o12,o13,o14,o15,o16,o17,o18⟩:=ok;exact ⟨⟨o1,o2,o3,o4,o5,o6,o7,o8,o9,o10,o11,o12,o13,o14,o15,o16,o17,o18⟩,a,b,c,d,e,f,g,i,j,l⟩
theorem Inv.without {X:Cx} {pins:List (Addr×Obj)} {σ:St} {H:Hp} {s:Shared} {z:Value→Shared→Prop} (I:Inv { X with xe:=z } pins σ H s):Inv X pins σ H s:=by
 have:=I.with X.xe
 exact this
structure Good (X:Cx) (E:EW):Prop where
 pass:Passes (CXG X.prog X.w) X (xkOf E)
 own:PassesOwn (model X.prog X.w) X.A X.env X.xe
 made:∀(pins:List (Addr×Obj)) (σ:St) (H:Hp) (s:Shared) (h':Heap) (ea C:Addr) (args:List Value),Inv X pins σ H s→E C σ H→Heap.MadeExcOf s.heap h' ea (.ref C) args→X.xe (.ref ea) { s with heap:=h' }
theorem good_none {X:Cx} (hx:X.xe=fun _ _=>False):Good X noE:=by
 refine ⟨fun pins σ H s e s' I h=>?_,by rw [hx];exact PassesOwn.never,fun _ _ _ _ _ _ _ _ _ w _=>w.elim⟩;obtain ⟨ea,C,H',rfl,os,bare,un,hok,x,_,c,ec,w⟩:=h;exact w.elim
end L2
namespace L2
open PySem PySem.Spec PyProof.Rows
section
variable {X:Cx} {E:EW} {x:Str} {np cpos pos:Pos} {e:Expr} {es:List Expr} {ml:ML} {C:Addr}
end
section
variable {X:Cx} {E:EW} {body suite:List Stmt} {b₀:Stmt} {g n:Str} {gp hpos pos:Pos} {cs:List Addr} {i:Nat} {mb mh:MS} {G:Addr}
end
noncomputable def startL (n:Nat) (ds:List D):Lo:=ds.map some++List.replicate (n - ds.length) none
theorem startL_rel {K:PySem.W.Frag} {ρ:List Addr} {H:Hp} {N:List Str} {ds:List D} {vs:List V} (r:RelDs K ρ H ds vs):RelL K ρ H (startL N.length ds) (start N vs):=by
 refine ⟨by simp [startL,start,r.length],fun i d q=>?_⟩;unfold startL at q;unfold start
 by_cases hi:i < ds.length
 ·rw [List.getElem?_append_left (by simpa using hi),List.getElem?_map] at q
  rw [List.getElem?_append_left (by rw [List.length_map,←r.length];exact hi),List.getElem?_map]
  cases e:ds[i]? with
  | none=>rw [e] at q;cases q
  | some d'=>
   rw [e] at q;cases q;obtain ⟨v,h1,h2⟩:=r.get e;exact ⟨v,by rw [h1];rfl,h2⟩
 ·rw [List.getElem?_append_right (by simpa using hi),List.getElem?_replicate] at q
  split at q <;> cases q
section
variable {P:Program} {w:World} {K:PySem.W.Frag} {mg:Str→Option Value} {base:Heap}
end
end L2
namespace L2
open PySem PySem.Spec PyProof.Rows
section
variable {X:Cx}
noncomputable def intOp (C:Int→Int→Prop) [∀i j,Decidable (C i j)] (g:Int→Int→D):D→D→Sto→Res D
 | .int i,.int j,S=>if C i j then .ok (g i j) S else .bad
 | _,_,_=>.bad
theorem intOp_ok {C:Int→Int→Prop} [∀i j,Decidable (C i j)] {g:Int→Int→D} {a b d:D} {S S':Sto} (h:intOp C g a b S=.ok d S'):∃i j,a=.int i∧b=.int j∧C i j∧d=g i j∧S'=S:=by
 unfold intOp at h;split at h
 ·split at h
  ·rename_i i j _ hc
   cases h;exact ⟨_,_,rfl,rfl,hc,rfl,rfl⟩
  ·cases h
 ·cases h
theorem od_int {f:Value→Value→Sem Value} {C:Int→Int→Prop} [∀i j,Decidable (C i j)] {g:Int→Int→D} {v:Int→Int→V} (hv:∀ρ H i j,RelD X.K ρ H (g i j) (v i j)) (h:OpR X f (rI C v)):OpR X f (rD X.K (intOp C g)):=h.imp fun x y H Q ⟨ρ,S,a,b,d,S',hs,ra,rb,hm,k⟩=>by
 obtain ⟨i,j,rfl,rfl,hc,rfl,rfl⟩:=intOp_ok hm;cases ra;cases rb;exact ⟨i,j,rfl,rfl,hc,k ρ H _ .refl hs (hv _ _ _ _)⟩
theorem od_int0 {f:Value→Value→Sem Value} {g:Int→Int→D} {v:Int→Int→V} (hv:∀ρ H i j,RelD X.K ρ H (g i j) (v i j)) (h:OpR X f (rI0 v)):OpR X f (rD X.K (intOp (fun _ _=>True) g)):=
 od_int (C:=fun _ _=>True) hv (h.imp fun x y H Q ⟨i,j,e1,e2,_,q⟩=>⟨i,j,e1,e2,q⟩)
noncomputable instance (i j:Int):Decidable (CDiv i j):=inferInstanceAs (Decidable (_∧_))
noncomputable instance (i j:Int):Decidable (CPow i j):=inferInstanceAs (Decidable (_∧_∧_))
noncomputable abbrev subD:=intOp (fun _ _=>True) fun i j=>.int (i - j)
noncomputable abbrev fdivD:=intOp CDiv fun i j=>.int (i / j)
noncomputable abbrev modD:=intOp (fun _ j=>0 < j) fun i j=>.int (i % j)
noncomputable abbrev powD:=intOp CPow fun i j=>.int (i ^ j.toNat)
noncomputable abbrev ltD:=intOp (fun _ _=>True) fun i j=>.bl (decide (i < j))
noncomputable abbrev leD:=intOp (fun _ _=>True) fun i j=>.bl (decide (i≤j))
noncomputable abbrev geD:=intOp (fun _ _=>True) fun i j=>.bl (decide (j≤i))
theorem od_sub:OpR X (binaryOp .Sub) (rD X.K subD):=od_int0 (fun _ _ _ _=>.int _) op_sub
theorem od_fdiv:OpR X (binaryOp .FloorDiv) (rD X.K fdivD):=od_int (fun _ _ _ _=>.int _) op_fdiv
theorem od_mod:OpR X (binaryOp .Mod) (rD X.K modD):=od_int (fun _ _ _ _=>.int _) op_mod
theorem od_pow:OpR X (binaryOp .Pow) (rD X.K powD):=od_int (fun _ _ _ _=>.int _) op_pow
theorem od_lt:OpR X (compareOp .Lt) (rD X.K ltD):=od_int0 (fun _ _ _ _=>.bl _) op_lt
theorem od_le:OpR X (compareOp .LtE) (rD X.K leD):=od_int0 (fun _ _ _ _=>.bl _) op_le
theorem od_ge:OpR X (compareOp .GtE) (rD X.K geD):=od_int0 (fun _ _ _ _=>.bl _) op_ge
noncomputable def addD:D→D→Sto→Res D
 | .int i,.int j,S=>.ok (.int (i+j)) S
 | .tup xs,.tup ys,S=>if xs.length+ys.length≤sizeLine then .ok (.tup (xs++ys)) S else .bad
 | .ref l,.ref b,S=>match S[l]?,S[b]? with
  | some (.lst xs),some (.lst ys)=>if xs.length+ys.length≤sizeLine then .ok (.ref S.length) (S++[.lst (xs++ys)]) else .bad
  | _,_=>.bad
 | _,_,_=>.bad
noncomputable def rCatA (K:PySem.W.Frag):R2:=fun x y H Q=>∃a b xs ys,x=.ref a∧y=.ref b∧H a=some (.tup xs)∧H b=some (.tup ys)∧xs.length+ys.length≤sizeLine ∧
 (xs=[]→Q (.ref b) H)∧(ys=[]→Q (.ref a) H)∧(∀p,H p=none→Q (.ref p) (upd H p (.tup (xs++ys))))
theorem op_catA:OpR X (binaryOp .Add) (rCatA X.K):=by
 intro pins s σ H x y v u Q I rx ry h;obtain ⟨a,b,xs,ys,rfl,rfl,ha,hb,hz,q0,q1,q2⟩:=h;cases rx;cases ry;obtain ⟨its,r1,p1,_⟩:=I.tuple (a:=a) (xs:=xs) (.inl (.inl ha));obtain ⟨its2,r2,p2,_⟩:=I.tuple (a:=b) (xs:=ys) (.inl (.inl hb))
 by_cases hx:xs=[]
 ·obtain ⟨⟨cls,dd,data,sl⟩,ho,hc,n,hd⟩:=id p1
  obtain ⟨⟨cls2,dd2,data2,sl2⟩,ho2,hc2,n2,hd2⟩:=id p2;simp only at hc hd hc2 hd2;subst hc hd hc2 hd2;have hi:its=[]:=r1.nil_iff.mpr hx
  exact concat_meets ⟨_,ho,rfl⟩ ⟨_,ho2,rfl⟩ noFill_tuple_add seq_tuple_add PySem.F.slot_tuple_add PySem.F.entry_tuple_add (PySem.F.args_tuple_add_2 _ _)
   (tuple_addW0 a b its.toArray its2.toArray n n2 dd dd2 sl sl2 (by simp [hi])) ⟨ho,ho2,⟨.ref b,H,I,rfl,q0 hx⟩⟩
 ·exact op_catT pins s σ H (.ref a) (.ref b) _ _ Q I rfl rfl ⟨a,b,xs,ys,rfl,rfl,.inl (.inl ha),.inl (.inl hb),hx,hz,q1,fun _ p hp=>q2 p hp⟩
theorem RelDs.nil_of {K:PySem.W.Frag} {ρ:List Addr} {H:Hp} {xs:List D} {vs:List V} (r:RelDs K ρ H xs vs) (e:vs=[]):xs=[]:=by
 subst e;cases r;rfl
theorem od_add:OpR X (binaryOp .Add) (rD X.K addD):=(op_add.or (op_catA.or op_cat)).imp fun x y H Q ⟨ρ,S,a,b,d,S',hs,ra,rb,hm,k⟩=>by
 cases ra with
 | int i=>
  cases rb <;> first | (cases hm;done) | skip
  cases hm;exact .inl ⟨_,_,rfl,rfl,k ρ H _ .refl hs (.int _)⟩
 | @tup xs a1 vs h1 h2=>
  cases rb with
  | @tup ys b1 ws h3 h4=>
   unfold addD at hm;dsimp only at hm;split at hm
   ·rename_i hz
    cases hm;refine .inr (.inl ⟨_,_,_,_,rfl,rfl,h1,h3,by rw [←h2.length,←h4.length];exact hz,fun e=>?_,fun e=>?_,fun p hp=>?_⟩)
    ·rw [h2.nil_of e,List.nil_append] at k
     exact k ρ H _ .refl hs (.tup h3 h4)
    ·rw [h4.nil_of e,List.append_nil] at k
     exact k ρ H _ .refl hs (.tup h1 h2)
    ·obtain ⟨s2,l2⟩:=upd_tup (ho:=.tup (vs++ws)) hs hp
     exact k ρ _ _ l2 s2 (.tup upd_same ((h2.append h4).mono l2))
   ·cases hm
  | _=>cases hm
 | @ref n a1 hn=>
  cases rb with
  | @ref m b1 hn'=>
   unfold addD at hm;dsimp only at hm;split at hm
   ·rename_i xs ys h1 h2
    split at hm
    ·rename_i hz
     cases hm;obtain ⟨vs,e1,r1⟩:=hs.ob _ _ _ h1 hn;obtain ⟨us,e2,r2⟩:=hs.ob _ _ _ h2 hn';refine .inr (.inr ⟨_,_,_,_,rfl,rfl,e1,e2,by rw [←r1.length,←r2.length];exact hz,fun p hp=>?_⟩);have le:Le X.K ρ H (ρ++[p]) (upd H p (.lst (vs++us))):=Le.alloc hp;obtain ⟨s2,l2,at2⟩:=hs.alloc (ho:=.lst (vs++us)) (o:=.lst (xs++ys)) hp ⟨_,upd_same,(r1.append r2).mono le⟩;exact k _ _ _ l2 s2 (.ref at2)
    ·cases hm
   ·cases hm
  | _=>cases hm
 | _=>cases hm
noncomputable def ixD:D→D→Sto→Res D:=fun a b S=>match seqD a S,b with
 | some ds,.int i=>match atI ds i with
  | some d=>.ok d S
  | none=>.bad
 | _,_=>.bad
theorem atI_rel {K:PySem.W.Frag} {ρ:List Addr} {H:Hp} {ds:List D} {vs:List V} {i:Int} {d:D} (r:RelDs K ρ H ds vs) (h:atI ds i=some d):∃v,atI vs i=some v∧RelD K ρ H d v:=by
 unfold atI at h ⊢;rw [←r.length]
 cases hq:ixN ds.length i with
 | none=>rw [hq] at h;cases h
 | some j=>
  rw [hq] at h;exact r.get h
theorem od_ix:IxR X (rD X.K ixD):=(ix_list.or ix_tup).imp fun x y H Q ⟨ρ,S,a,b,d,S',hs,ra,rb,hm,k⟩=>by
 unfold ixD at hm;split at hm
 ·rename_i ds i hq
  split at hm
  ·rename_i d' hd
   cases hm;cases rb;obtain ⟨p,xs,rfl,rr,sq⟩:=seqD_ok hs ra hq;obtain ⟨v,h1,h2⟩:=atI_rel rr hd
   rcases sq with sq | sq
   ·exact .inl ⟨p,xs,_,v,rfl,rfl,sq,h1,k ρ H v .refl hs h2⟩
   ·exact .inr ⟨p,xs,_,v,rfl,rfl,sq,h1,k ρ H v .refl hs h2⟩
  ·cases hm
 ·cases hm
end
noncomputable def mQ (f:List D→Sto→Res D) (m:ML):ME:=fun e S=>(m e S).bind fun ds S1=>okR (f ds S1)
section
variable {X:Cx} {E:EW} {e:Expr} {es:List Expr} {x:Str} {p pos:Pos} {ml:ML} {id T:String} {r:List V→Hp→VK→Prop} {f:List D→Sto→Res D}
noncomputable def SeqF (K:PySem.W.Frag) (r:List V→Hp→VK→Prop) (f:List D→Sto→Res D):Prop:=∀ρ H S ds q xs d S' (Q:VK),RelS K ρ S H→RelDs K ρ H ds xs→(SqL K H q xs∨SqT K H q xs)→f ds S=.ok d S' →
 (∀ρ' H' z,Le K ρ H ρ' H'→RelS K ρ' S' H'→RelD K ρ' H' d z→Q z H')→r [.ref q] H Q
noncomputable def ArgF (K:PySem.W.Frag) (r:List V→Hp→VK→Prop) (f:List D→Sto→Res D):Prop:=∀ρ H S ds xs d S' (Q:VK),RelS K ρ S H→RelDs K ρ H ds xs→f ds S=.ok d S' →
 (∀ρ' H' z,Le K ρ H ρ' H'→RelS K ρ' S' H'→RelD K ρ' H' d z→Q z H')→r xs H Q
noncomputable def SeqN (K:PySem.W.Frag) (r:List V→Hp→VK→Prop) (f:List D→Option (List D)):Prop:=∀ρ H S ds q xs es (Q:VK),RelS K ρ S H→RelDs K ρ H ds xs→(SqL K H q xs∨SqT K H q xs)→f ds=some es →
 (∀ρ' H' p ys,Le K ρ H ρ' H'→RelS K ρ' S H'→RelDs K ρ' H' es ys→H' p=some (.lst ys)→(∀n:Nat,ρ'[n]?≠some p)→H p=none→Q (.ref p) H')→r [.ref q] H Q
theorem ge_seqB (hc:CallR X (.builtin id) r) (hf:SeqF X.K r f) (hg:Gl X x) (hm:X.mg x=none) (hv:bootBuiltins x=some (.builtin id)) (h:GQ X E e ml) (hn:x≠"__name__":=by decide) (hdb:(x==("__debug__" : Str))=false:=by decide)
  (he:starEach [e] X.env=(false,eval e X.env) :: starEach [] X.env:=by rfl):GE X E (.Call (.Name x p) [e] [] pos) (mQ f ml):=(pe_callB hc hg hm hv (pa_cons h pa_nil he) hn hdb he rfl).imp fun σ H Q ⟨ρ,l,S,hl,hs,hm⟩=>by
 refine ⟨ρ,l,S,hl,hs,hm.seq fun ds S1 hm ρ1 H1 q xs l1 s1 r1 sq=>?_⟩;obtain ⟨d,S',e,k⟩:=hm.okR
 exact hf ρ1 H1 S1 ds q xs d S' Q s1 r1 sq e fun ρ' H' z l' s' r'=>k ρ' H' z (l1.trans l') s' r'
theorem ge_argB (hc:CallR X (.builtin id) r) (hf:ArgF X.K r f) (hg:Gl X x) (hm:X.mg x=none) (hv:bootBuiltins x=some (.builtin id)) (h:GA X E (e :: es) ml) (hn:x≠"__name__":=by decide) (hdb:(x==("__debug__" : Str))=false:=by decide)
  (he:starEach (e :: es) X.env=(false,eval e X.env) :: starEach es X.env:=by rfl) (hpl:(backTo pos (starEach es X.env)).any (·.1)=false:=by rfl):GE X E (.Call (.Name x p) (e :: es) [] pos) (mQ f ml):=(pe_callB hc hg hm hv h hn hdb he hpl).imp fun σ H Q ⟨ρ,l,S,hl,hs,hm⟩=>by
 refine ⟨ρ,l,S,hl,hs,hm.seq fun ds S1 hm ρ1 H1 xs l1 s1 r1=>?_⟩;obtain ⟨d,S',e,k⟩:=hm.okR
 exact hf ρ1 H1 S1 ds xs d S' Q s1 r1 e fun ρ' H' z l' s' r'=>k ρ' H' z (l1.trans l') s' r'
noncomputable def mN (f:List D→Option (List D)) (m:ML):ML:=fun e S=>(m e S).bind fun ds S1=>match f ds with
 | some es=>.ok es S1
 | none=>.bad
theorem gl_seqT {f:List D→Option (List D)} (hc:CallR X (.type T) r) (hf:SeqN X.K r f) (hg:Gl X x) (hm:X.mg x=none) (hv:bootBuiltins x=some (.type T)) (h:GQ X E e ml) (hn:x≠"__name__":=by decide) (hdb:(x==("__debug__" : Str))=false:=by decide)
  (he:starEach [e] X.env=(false,eval e X.env) :: starEach [] X.env:=by rfl):GL X E (.Call (.Name x p) [e] [] pos) (mN f ml):=(pe_callTy hc hg hm hv (pa_cons h pa_nil he) hn hdb he rfl).imp fun σ H Q ⟨ρ,l,S,hl,hs,hm⟩=>by
 refine ⟨ρ,l,S,hl,hs,hm.seq fun ds S1 hm ρ1 H1 q xs l1 s1 r1 sq=>?_⟩
 cases hq:f ds with
 | none=>rw [hq] at hm;exact hm.elim
 | some es=>
  rw [hq] at hm
  exact hf ρ1 H1 S1 ds q xs es Q s1 r1 sq hq fun ρ' H' p ys l' s' r' hp hn hp0=>hm ρ' H' p ys (l1.trans l') s' r' hp hn (l1.back hs s1 hp0)
noncomputable def lenF (ds:List D) (S:Sto):Res D:=.ok (.int ds.length) S
theorem sf_len:SeqF X.K (fun xs H Q=>∃p ys,xs=[.ref p]∧(SqL X.K H p ys∨SqT X.K H p ys)∧Q (.int ys.length) H) lenF:=fun ρ H S ds q xs d S' Q hs rr sq hm k=>by
 cases hm;exact ⟨q,xs,rfl,sq,k ρ H _ .refl hs (by rw [rr.length];exact .int _)⟩
noncomputable def min2F:List D→Sto→Res D
 | [.int i,.int j],S=>.ok (.int (if j < i then j else i)) S
 | _,_=>.bad
noncomputable def max2F:List D→Sto→Res D
 | [.int i,.int j],S=>.ok (.int (if j > i then j else i)) S
 | _,_=>.bad
theorem af_min2:ArgF X.K (fun xs H Q=>∃i j,xs=[.int i,.int j]∧Q (.int (if j < i then j else i)) H) min2F:=fun ρ H S ds xs d S' Q hs rr hm k=>by
 unfold min2F at hm;split at hm
 ·cases hm
  cases rr with
  | cons a t=>
   cases t with
   | cons b t=>
    cases t;cases a;cases b;exact ⟨_,_,rfl,k ρ H _ .refl hs (.int _)⟩
 ·cases hm
theorem af_max2:ArgF X.K (fun xs H Q=>∃i j,xs=[.int i,.int j]∧Q (.int (if j > i then j else i)) H) max2F:=fun ρ H S ds xs d S' Q hs rr hm k=>by
 unfold max2F at hm;split at hm
 ·cases hm
  cases rr with
  | cons a t=>
   cases t with
   | cons b t=>
    cases t;cases a;cases b;exact ⟨_,_,rfl,k ρ H _ .refl hs (.int _)⟩
 ·cases hm
noncomputable def listF (ds:List D):Option (List D):=some ds
theorem sn_list:SeqN X.K (fun xs H Q=>∃p ys,xs=[.ref p]∧(SqL X.K H p ys∨SqT X.K H p ys)∧∀l,H l=none→Q (.ref l) (upd H l (.lst ys))) listF:=fun ρ H S ds q xs es Q hs rr sq hm k=>by
 cases hm;refine ⟨q,xs,rfl,sq,fun l hl=>?_⟩;obtain ⟨s2,l2⟩:=upd_tup (ho:=.lst xs) hs hl;exact k ρ _ l xs l2 s2 (rr.mono l2) upd_same (fun n e=>hs.notIn hl e) hl
end
end L2
namespace L2
open PySem PySem.Spec PyProof.Rows
noncomputable def compCx (X:Cx) (scope:Scope) (N':List Str) (cl:List (Str×Addr)) (C:Addr) (s₁:Shared) (H₁:Hp) (ex:List Addr) (pn:List (Addr×Obj)):Cx where
 prog:=X.prog
 w:=X.w
 K:=X.K
 mg:=X.mg
 base:=X.base
 A:=X.A
 N:=N'
 s₀:=s₁
 H₀:=H₁
 env:=compEnvC scope cl C X.env
 outer:=X.stack
 stack:=X.stack
 ex:=ex
 fn:=fun _=>false
 calm:=X.calm
 pn:=pn
 xe:=fun _ _=>False
theorem clos_go {env:Env}:∀(names:List (Str×NameKind)) (acc:List (Str×Addr)),(∀y∈names,y.2=.free→∃c,env.cells.lookup y.1=some c)→(∀n c,acc.lookup n=some c→env.cells.lookup n=some c) →
  ∃cl,(forIn names acc (fun (x:Str×NameKind) (cs:List (Str×Addr))=>match x with | (name,kind)=>if (kind==NameKind.free)=true then do let a ←cellOf env name;pure (ForInStep.yield ((name,a) :: cs)) else pure (ForInStep.yield cs)):Sem (List (Str×Addr)))=pure cl ∧
   (∀n c,cl.lookup n=some c→env.cells.lookup n=some c)∧(∀n c,acc.lookup n=some c→∃c',cl.lookup n=some c')∧∀y∈names,y.2=.free→∃c,cl.lookup y.1=some c
 | [],acc,_,ha=>⟨acc,rfl,ha,fun n c h=>⟨c,h⟩,fun _ h=>nomatch h⟩
 | (n,k) :: r,acc,h,ha=>by
  rw [List.forIn_cons]
  by_cases hk:k=.free
  ·subst hk
   obtain ⟨c,hc⟩:=h (n,.free) List.mem_cons_self rfl
   obtain ⟨cl,e,h1,h2,h3⟩:=clos_go r ((n,c) :: acc) (fun y hy=>h y (List.mem_cons_of_mem _ hy)) (fun m d hm=>by
    rw [List.lookup_cons] at hm
    cases hq:(m==n) with
    | true=>rw [hq] at hm;cases hm;rw [eq_of_beq hq];exact hc
    | false=>rw [hq] at hm;exact ha m d hm)
   have e0:cellOf env n=pure c:=by unfold cellOf;rw [hc]
   refine ⟨cl,?_,h1,fun m d hm=>h2 m (if m==n then c else d) ?_,fun y hy hf=>?_⟩
   ·simp only [beq_self_eq_true,if_true,e0,pure_bind]
    exact e
   ·rw [List.lookup_cons]
    cases hq:(m==n) with
    | true=>rfl
    | false=>exact hm
   ·rcases List.mem_cons.mp hy with rfl | hy
    ·exact h2 n c (by rw [List.lookup_cons,beq_self_eq_true])
    ·exact h3 y hy hf
  ·have hb:(k==NameKind.free)=false:=by simpa using hk
   obtain ⟨cl,e,h1,h2,h3⟩:=clos_go r acc (fun y hy=>h y (List.mem_cons_of_mem _ hy)) ha;refine ⟨cl,?_,h1,h2,fun y hy hf=>?_⟩
   ·simp only [hb,Bool.false_eq_true,if_false,pure_bind]
    exact e
   ·rcases List.mem_cons.mp hy with rfl | hy
    ·exact (hk hf).elim
    ·exact h3 y hy hf
theorem clos_of {scope:Scope} {env:Env} (h:∀y∈scope.names,y.2=.free→∃c,env.cells.lookup y.1=some c):∃cl,closureFor scope env=pure cl ∧
  (∀n c,cl.lookup n=some c→env.cells.lookup n=some c)∧∀y∈scope.names,y.2=.free→∃c,cl.lookup y.1=some c:=by
 obtain ⟨cl,e,h1,_,h3⟩:=clos_go scope.names [] h (fun n c z=>by simp at z);refine ⟨cl,?_,h1,h3⟩;unfold closureFor;exact (congrArg (fun z=>z >>= fun cs=>pure cs) e).trans (by rw [pure_bind])
noncomputable def PIfs (X:Cx) (ifs:List Expr) (t:TT):Prop:=
 ∀(pins:List (Addr×Obj)) (s:Shared) (σ:St) (H:Hp) (Q:Bool→Hp→Prop),Inv X pins σ H s→t σ H Q →
  wpAny (model X.prog X.w) X.A (forIn ifs true fun c r=>if r=true then do let ok ←isTrue c X.env (eval c X.env);pure (ForInStep.yield ok) else pure (ForInStep.yield r)) (TP X pins σ Q) X.xe s
theorem pifs_nil {X:Cx}:PIfs X [] (fun _ H Q=>Q true H):=fun pins s σ H Q I h=>wpAny_tests_nil ⟨H,I,h⟩
theorem pifs_one {X:Cx} {c:Expr} {t:TT} (h:PT X c t):PIfs X [c] t:=fun pins s σ H Q I q=>wpAny_tests_one (h pins s σ H Q I q)
structure CompSc (X:Cx) (scope:Scope) (own N':List Str):Prop where
 kind:scope.kind=.function
 nocell:∀y∈scope.names,y.2≠.cell
 names:∀y∈scope.names,y.2=.local→scope.names.lookup y.1=some .local
 free:∀y∈scope.names,y.2=.free→X.env.kindOf y.1=some .cell∨X.env.kindOf y.1=some .free
 len:N'.length=own.length+X.N.length
 up:∀i x,N'[own.length+i]?=some x→Vis (relabel scope X.env) x→X.N[i]?=some x∧Vis X.env.scope x∧((relabel scope X.env).names.lookup x=some .cell∨(relabel scope X.env).names.lookup x=some .free)∧X.env.kindOf x≠some .local
 vis:∀x,((relabel scope X.env).names.lookup x=some .cell∨(relabel scope X.env).names.lookup x=some .free)→(x,NameKind.free)∈scope.names
section
variable {X:Cx} {pins:List (Addr×Obj)} {σ:St} {H2:Hp} {s2:Shared} {scope:Scope} {own N':List Str} {cl:List (Str×Addr)} {fp:List Addr} {C:Addr} {s:Shared} {H:Hp}
theorem comp_start (Sc:CompSc X scope own N') (I:Inv X pins σ H2 s2) (hf:∀b∈fp,FpOk X pins H2 b) (hfl:∀b∈fp,b < s2.heap.objs.size)
  (c1:∀n c,cl.lookup n=some c→X.env.cells.lookup n=some c) (c2:∀y∈scope.names,y.2=.free→∃c,cl.lookup y.1=some c)
  (hC:s2.heap.objs.size≤C) {m:Str→Option Value} (hn:s.heap.Ns C m) (hos:s.os=s2.os) (hg:AllBare s.gens)
  (u:Un (frs X.stack) fp H2 H s2.heap s.heap) (hok:HOk X.prog X.w H s.heap) (hHC:H C=none) :
  Inv (compCx X scope N' cl C s2 H2 fp (X.pn++pins)) [] (List.replicate own.length none++σ) H s:=by
 have cellK:∀x c v,cl.lookup x=some c→s2.heap.IsCell c v→s.heap.IsCell c v:=fun x c v e ⟨o,ho,hd⟩=>by
  obtain ⟨sl,q⟩:=u.any ho (I.freeC x c (c1 x c e)) fun z=>(hf c z).2.2.2.2.1 x c (c1 x c e) rfl
  exact ⟨_,q,hd⟩
 have ok':(compCx X scope N' cl C s2 H2 fp (X.pn++pins)).Ok:=by
  refine ⟨I.ok.mod,Sc.kind,I.ok.glob,I.ok.blt,hC,fun x y c h1 h2=>I.ok.inj x y c (c1 x c h1) (c1 y c h2),fun x hx=>?_,fun x c z=>?_,I.ok.hd,I.ok.frames,.inl rfl,fun b hb=>?_,I.bs,Nat.le_trans I.ok.bsz I.sz,fun b o e hb=>?_,fun b hb hb'=>?_,I.stack,I.stkFree⟩
  ·obtain ⟨c,hc⟩:=c2 _ (Sc.vis x hx) rfl
   exact ⟨c,hc⟩
  ·exact absurd (show false=true from z) Bool.false_ne_true
  ·exact ⟨Nat.ne_of_lt (Nat.lt_of_lt_of_le (hfl b hb) hC),fun x c e=>(hf b hb).2.2.2.2.1 x c (c1 x c e)⟩
  ·obtain ⟨_,_,_,z,_⟩:=hf b hb
   rcases z with z | z
   ·exact I.ok.noex b o e z
   ·exact absurd (Nat.lt_of_lt_of_le (Heap.lt_size (I.ok.bs b o e).1) z) (Nat.lt_irrefl _)
  ·obtain ⟨_,z1,z2,_⟩:=hf b hb
   rcases List.mem_cons.mp (I.stkSub b hb') with e | e
   ·exact z1 e
   ·exact z2 e
 refine ⟨ok',hos,hg,u,⟨m,hn,fun i x v e1 e2 e3=>?_⟩,fun x c e=>?_,hHC,fun x c e=>?_,fun p hp=>?_,hok,?_⟩
 ·have hi:own.length≤i:=by
   apply Nat.le_of_not_lt
   intro hlt;rw [List.getElem?_append_left (by simpa using hlt),List.getElem?_replicate,if_pos hlt] at e2;cases e2
  obtain ⟨j,rfl⟩:∃j,i=own.length+j:=⟨i - own.length,by lia⟩
  rw [List.getElem?_append_right (by simp)] at e2
  have e2':σ[j]?=some (some v):=by simpa using e2
  obtain ⟨n1,n2,n3,n4⟩:=Sc.up j x e1 e3;obtain ⟨m0,hn0,hl⟩:=I.loc;obtain ⟨w',r,lk⟩:=hl j x v n1 e2' n2;refine ⟨w',r,.inr ⟨n3,?_⟩⟩
  rcases lk with ⟨k,_⟩ | ⟨_,c,hc,hcell⟩
  ·exact (n4 k).elim
  ·obtain ⟨c',hc'⟩:=c2 _ (Sc.vis x n3) rfl
   have e:=c1 x c' hc';rw [hc] at e;cases e;exact ⟨c,hc',cellK x c _ hc' hcell⟩
 ·obtain ⟨v,z⟩:=I.cell x c (c1 x c e)
  exact ⟨v,cellK x c v e z⟩
 ·obtain ⟨v,o,ho,hd⟩:=I.cell x c (c1 x c e)
  exact u.free c o ho (I.freeC x c (c1 x c e)) fun z=>(hf c z).2.2.2.2.1 x c (c1 x c e) rfl
 ·have hp':p∈X.pn++pins:=by
   have hp:p∈(X.pn++pins)++[]:=hp;rwa [List.append_nil] at hp
  obtain ⟨e,n,ne,nf,d⟩:=I.pin p hp'
  have nfs:p.1∉frs X.stack:=fun z=>(List.mem_cons.mp (I.stkSub _ z)).elim ne nf
  have nfp:p.1∉fp:=fun z=>(hf _ z).2.2.2.2.2 p hp' rfl
  exact ⟨u.keep p.1 p.2 e n nfs nfp,u.free p.1 p.2 e n nfp,Nat.ne_of_lt (Nat.lt_of_lt_of_le (Heap.lt_size e) hC),nfs,d⟩
 ·show (List.replicate own.length none++σ).length=N'.length
  rw [List.length_append,List.length_replicate,I.len,Sc.len]
noncomputable def tComp (k:Nat) (wi:TI) (g:TG) (tc:TT) (te:TE):TE:=fun σ H Q=>wi σ H fun J H1=>∀p,H1 p=none→∃W:Nat→Nat→St→Hp→List V→Prop,(∃m,W 0 m (List.replicate k none++σ) (upd H1 p (.lst [])) []) ∧
 ∀i m σ' H' xs,W i m σ' H' xs→H' p=some (.lst xs)∧((J.stop i H'∧Q (.ref p) H')∨(J.go i H'∧xs.length < sizeLine∧∀x H'',J.yld i H' x H''→g x σ' H'' fun σ2 H2=>tc σ2 H2 fun b H3=>
  if b=true then te σ2 H3 fun y H4=>H4 p=some (.lst xs)∧∃m',m' < m∧W (i+1) m' σ2 (upd H4 p (.lst (xs++[y]))) (xs++[y]) else ∃m',m' < m∧W (i+1) m' σ2 H3 xs))
theorem comp_loop {X':Cx} {elt target iter:Expr} {ifs:List Expr} {pos:Pos} {J:It} {it p:Addr} {tn:Nat→Heap→Prop} {g:TG} {tc:TT} {te:TE} {R:Result→Shared→Prop} {Q:Hp→Prop}
  (hc:X'.calm=true) (hx:X'.xe=fun _ _=>False) (T:Turn X'.prog X'.w X'.K target J fp it tn) (hg:PG X' target g) (hif:PIfs X' ifs tc) (he:PE X' elt te)
  (W:Nat→Nat→St→Hp→List V→Prop) (turn:∀i m σ' H' xs,W i m σ' H' xs→H' p=some (.lst xs)∧((J.stop i H'∧Q H')∨(J.go i H'∧xs.length < sizeLine∧∀x H'',J.yld i H' x H''→g x σ' H'' fun σ2 H2=>tc σ2 H2 fun b H3=>
   if b=true then te σ2 H3 fun y H4=>H4 p=some (.lst xs)∧∃m',m' < m∧W (i+1) m' σ2 (upd H4 p (.lst (xs++[y]))) (xs++[y]) else ∃m',m' < m∧W (i+1) m' σ2 H3 xs)))
  (fin:∀σ' H' s',Inv X' [] σ' H' s'→Q H'→R (.ok .next) s')
  {m0:Nat} {σ0:St} {H0:Hp} {s0:Shared} (I0:Inv X' [] σ0 H0 s0) (st0:tn 0 s0.heap) (f0:∀b∈fp,FpOk X' [] H0 b) (w0:W 0 m0 σ0 H0 []) :
  codeAny (model X'.prog X'.w) X'.A (.compLoop (.ListComp elt [⟨target,iter,ifs,0⟩] scope pos) 0 (.ref it) (.ref p) X'.env) R s0:=by
 have stat:∀ {H':Hp},(∀b∈fp,H' b=none)→∀b∈fp,FpOk X' [] H' b:=fun hn b hb=>⟨hn b hb,(f0 b hb).2⟩
 refine codeAny_loop rfl (fun n s'=>∃i σ' H' xs,Inv X' [] σ' H' s'∧tn i s'.heap∧(∀b∈fp,H' b=none)∧W i n σ' H' xs) (fun n s1 hI=>?_) m0 ⟨0,σ0,H0,[],I0,st0,fun b hb=>(f0 b hb).1,w0⟩;obtain ⟨i,σ1,H1,xs,I1,st1,fr1,w1⟩:=hI;show wpAny _ X'.A ((compTurn (.ListComp elt [⟨target,iter,ifs,0⟩] scope pos) 0 (.ref it) (.ref p) X'.env).onRaise (fun x=>do noteFrame x X'.env;theTreesLotGoes x)) _ _ s1;refine wpAny_noted ?_;rw [compTurn_list]
 have up:∀ {α:Type} {t:Sem α} {P:α→Shared→Prop} {E:Value→Shared→Prop} {s:Shared},wpAny (model X'.prog X'.w) X'.A t P X'.xe s→wpAny (model X'.prog X'.w) X'.A t P E s:=fun h=>wpAny_mono h (fun _ _ z=>z) fun _ _ z=>by rw [hx] at z;exact z.elim
 obtain ⟨hp,hcase⟩:=turn i n σ1 H1 xs w1;refine wpAny_bind (wpAny_standAt (wpAny_bind ?_))
 rcases hcase with ⟨stop,q⟩ | ⟨go,hz,step⟩
 ·refine up (thn (T.done X' rfl rfl rfl hc i [] s1 σ1 H1 X'.xe I1 (stat fr1) st1 stop) fun r s4 ⟨hr,I4⟩=>?_)
  subst hr;exact wpAny_pure (fin σ1 H1 s4 I4 q)
 ·refine up (thn (T.item X' rfl rfl rfl hc i [] s1 σ1 H1 X'.xe I1 (stat fr1) st1 go) fun r s4 ⟨u,hr,h4⟩=>?_)
  subst hr;refine wpAny_bind (up (thn h4 fun _ s5 ⟨x,H5,I5,r5,y5,st5,fr5⟩=>?_));have I5':=I5.pinned (stat fr5) (T.obj _ _ st5);refine wpAny_bind (up (thn (hg _ s5 σ1 H5 x u _ I5' r5 (step x H5 y5)) fun _ s6 ⟨σ6,H6,I6,q6⟩=>?_))
  have again:∀ {s7:Shared} {σ7:St} {H7:Hp} {ys:List V},Inv X' ([]++pinsAt fp s5.heap) σ7 H7 s7→(∃m',m' < n∧W (i+1) m' σ7 H7 ys)→∃m,m < n∧∃i σ' H' xs,Inv X' [] σ' H' s7∧tn i s7.heap∧(∀b∈fp,H' b=none)∧W i m σ' H' xs:=fun {s7 σ7 H7 ys} I7 ⟨m',hm,w7⟩=>by
   refine ⟨m',hm,i+1,σ7,H7,ys,I7.unpinned,T.keep _ _ _ st5 fun b hb o e=>(I7.pin (b,o) (List.mem_append_right _ (List.mem_append_right _ (mem_pinsAt hb e)))).1,fun b hb=>?_,w7⟩;obtain ⟨o,e,d⟩:=T.obj _ _ st5 b hb;exact (I7.pin (b,o) (List.mem_append_right _ (List.mem_append_right _ (mem_pinsAt hb e)))).2.1
  refine wpAny_bind (up (thn (hif _ s6 σ6 H6 _ I6 q6) fun ok s7 ⟨H7,I7,q7⟩=>?_))
  cases ok with
  | false=>
   rw [if_neg Bool.false_ne_true] at q7;exact wpAny_pure ⟨rfl,again I7 q7⟩
  | true=>
   rw [if_pos rfl] at q7;refine wpAny_bind (wpAny_bind (up (thn (he _ s7 σ6 H7 _ I7 q7) fun yv s8 ⟨y,H8,I8,r8,hp8,q8⟩=>?_)));refine wpAny_bind (up (thn (mt_append (X:=X') _ s8 σ6 H8 (.ref p) [y] (.ref p) [yv] (fun v H9=>v=.non∧H9=upd H8 p (.lst (xs++[y]))) I8 rfl (.cons r8 .nil) ⟨p,xs,y,rfl,rfl,hp8,hz,rfl,rfl⟩) fun v9 s9 ⟨v,H9,I9,r9,e9,e10⟩=>?_));subst e10;exact wpAny_pure (wpAny_pure ⟨rfl,again I9 q8⟩)
end
end L2
namespace L2
open PySem PySem.Spec PyProof.Rows
section
variable {X:Cx} {pins:List (Addr×Obj)} {σ:St} {H2:Hp} {s2:Shared} {scope:Scope} {own N':List Str} {cl:List (Str×Addr)} {fp:List Addr} {C:Addr}
theorem comp_back {σ':St} {H':Hp} {s':Shared} {h':Heap} (I2:Inv X pins σ H2 s2) (J:Inv (compCx X scope N' cl C s2 H2 fp (X.pn++pins)) [] σ' H' s') (hC:s2.heap.objs.size≤C) (hf:∀b∈fp,FpOk X pins H2 b)
  (sb:Heap.SameBut C s'.heap h'):Inv X pins σ H' { s' with heap:=h' }:=by
 have ne:∀b o,s2.heap.get? b=some o→b≠C:=fun b o e=>Nat.ne_of_lt (Nat.lt_of_lt_of_le (Heap.lt_size e) hC)
 have jb:Un (frs X.stack) fp H2 H' s2.heap s'.heap:=J.base
 have u:Un (frs X.stack) fp H2 H' s2.heap h':=by
  refine ⟨fun b o e n hb hx=>(sb.2 b (ne b o e)).trans (jb.keep b o e n hb hx),fun b o e n hb hx=>?_,jb.free,fun b o e hx=>?_,jb.tups,jb.frzs,jb.tbls⟩
  ·obtain ⟨sl,q⟩:=jb.slot b o e n hb hx
   exact ⟨sl,(sb.2 b (ne b o e)).trans q⟩
  ·obtain ⟨o',q⟩:=jb.there b o e hx
   exact ⟨o',(sb.2 b (ne b o e)).trans q⟩
 have hHC:H' C=none:=J.free
 have hok:HOk X.prog X.w H' h':=fun a o e=>(J.hok a o e).stay (fun b u hb q=>(sb.2 b fun z=>by
  subst z
  rcases hb with z | z
  ·subst z;rw [hHC] at e;cases e
  ·rw [hHC] at z;cases z).trans q) (fun _ q=>q) fun _ _ q=>q
 exact I2.call' (s':={ s' with heap:=h' }) (ch:=fp) J.os u hok J.bare fun b hb=>by
  obtain ⟨_,z1,z2,z3,z4,z5⟩:=hf b hb;exact ⟨z3,z1,z4,z5⟩
variable {elt iter target:Expr} {ifs:List Expr} {pos:Pos} {wi:TI} {g:TG} {tc:TT} {te:TE}
theorem comp_block {σ:St} {E:Value→Shared→Prop} {Qf:Addr→Hp→Prop} {RR:Value→Addr→Result→Shared→Prop} {it:Addr} {J:It} {tn:Nat→Heap→Prop} (hc:X.calm=true) (Sc:CompSc X scope own N')
  (hg:∀cl C s₁ H₁ ex pn,PG (compCx X scope N' cl C s₁ H₁ ex pn) target g) (hif:∀cl C s₁ H₁ ex pn,PIfs (compCx X scope N' cl C s₁ H₁ ex pn) ifs tc) (he:∀cl C s₁ H₁ ex pn,PE (compCx X scope N' cl C s₁ H₁ ex pn) elt te)
  (c1:∀n c,cl.lookup n=some c→X.env.cells.lookup n=some c) (c2:∀y∈scope.names,y.2=.free→∃c,cl.lookup y.1=some c)
  (I2:Inv X pins σ H2 s2) (T:Turn X.prog X.w X.K target J fp it tn) (st2:tn 0 s2.heap) (f2:∀b∈fp,FpOk X pins H2 b)
  (q2:∀p,H2 p=none→∃W:Nat→Nat→St→Hp→List V→Prop,(∃m,W 0 m (List.replicate own.length none++σ) (upd H2 p (.lst [])) []) ∧
   ∀i m σ' H' xs,W i m σ' H' xs→H' p=some (.lst xs)∧((J.stop i H'∧Qf p H')∨(J.go i H'∧xs.length < sizeLine∧∀x H'',J.yld i H' x H''→g x σ' H'' fun σ2 H2=>tc σ2 H2 fun b H3=>
    if b=true then te σ2 H3 fun y H4=>H4 p=some (.lst xs)∧∃m',m' < m∧W (i+1) m' σ2 (upd H4 p (.lst (xs++[y]))) (xs++[y]) else ∃m',m' < m∧W (i+1) m' σ2 H3 xs)))
  (hRR:∀D C σ' H' s',s2.heap.objs.size≤C→Inv (compCx X scope N' cl C s2 H2 fp (X.pn++pins)) [] σ' H' s'→Qf D H'→RR (.ref D) C (.ok .next) s') :
  wpAny (model X.prog X.w) X.A (newList []) (fun acc s₃=>wpAny (model X.prog X.w) X.A (newFunctionEnv scope X.env.globals cl [] X.env.qual none .none (some X.env)) (fun cenv s₄=>
   codeAny (model X.prog X.w) X.A (.compStart (.ListComp elt [⟨target,iter,ifs,0⟩] scope pos) 0 (.ref it) acc { cenv with scope:=relabel scope X.env }) (RR acc cenv.locals) s₄) E s₃) E s2:=by
 have hfl:∀b∈fp,b < s2.heap.objs.size:=fun b hb=>by
  obtain ⟨o,e,_⟩:=T.obj _ _ st2 b hb;exact Heap.lt_size e
 refine wpAny_newObj_type (wpAny_newFunctionEnv Sc.nocell (by intro y hy;simp at hy) (fun h₁ hns₁ hsb₁=>?_) Sc.kind);dsimp only at hns₁ hsb₁ ⊢;generalize hH3:s2.heap.push { cls:=.type "list",dict:=none,data:=.seq ([]:List Value).toArray }=H3 at hns₁ hsb₁ ⊢
 have hC:H3.objs.size=s2.heap.objs.size+1:=by rw [←hH3,Heap.size_push]
 have hDC:s2.heap.objs.size≠H3.objs.size:=by rw [hC];exact Nat.ne_of_lt (Nat.lt_succ_self _)
 have hCle:s2.heap.objs.size≤H3.objs.size:=by rw [hC];exact Nat.le_succ _
 have old:∀b o,s2.heap.get? b=some o→h₁.get? b=some o:=fun b o e=>hsb₁.extBut b o (Nat.ne_of_lt (by rw [hC];exact Nat.lt_succ_of_lt (Heap.lt_size e))) (Heap.get?_push_of_some _ (hH3▸Heap.get?_push_of_some _ e))
 have hacc:h₁.get? s2.heap.objs.size=some { cls:=.type "list",dict:=none,data:=.seq ([]:List Value).toArray }:=hsb₁.extBut _ _ hDC (Heap.get?_push_of_some _ (hH3▸Heap.get?_push_size _ rfl));have hD:H2 s2.heap.objs.size=none:=I2.hok.fresh (Nat.le_refl _);have u:Un (frs X.stack) fp H2 (upd H2 s2.heap.objs.size (.lst [])) s2.heap h₁:=Un.laid old (Nat.le_refl _) hD;have hok:HOk X.prog X.w (upd H2 s2.heap.objs.size (.lst [])) h₁:=I2.hok.laid old (Nat.le_refl _) ⟨Nat.zero_le _,[],0,.nil,hacc⟩
 have hHC:upd H2 s2.heap.objs.size (.lst []) H3.objs.size=none:=by rw [upd_ne (Ne.symm hDC)];exact I2.hok.fresh hCle
 obtain ⟨W,⟨m0,w0⟩,turn⟩:=q2 s2.heap.objs.size hD
 have loop:∀s₃:Shared,s₃={ s2 with heap:=h₁,toks:=s2.toks+([]:List (Str×Value)).length } →
   codeAny (model X.prog X.w) X.A (.compLoop (.ListComp elt [⟨target,iter,ifs,0⟩] scope pos) 0 (.ref it) (.ref s2.heap.objs.size) (compEnvC scope cl H3.objs.size X.env))
    (RR (.ref s2.heap.objs.size) H3.objs.size) s₃:=by
  rintro s₃ rfl
  have J0:Inv (compCx X scope N' cl H3.objs.size s2 H2 fp (X.pn++pins)) [] (List.replicate own.length none++σ) (upd H2 s2.heap.objs.size (.lst [])) { s2 with heap:=h₁,toks:=s2.toks+([]:List (Str×Value)).length }:=
   comp_start (s:={ s2 with heap:=h₁,toks:=s2.toks+([]:List (Str×Value)).length }) Sc I2 f2 hfl c1 c2 hCle hns₁ rfl I2.bare u hok hHC
  refine comp_loop (X':=compCx X scope N' cl H3.objs.size s2 H2 fp (X.pn++pins)) (fp:=fp) (Q:=Qf s2.heap.objs.size) hc rfl T (hg _ _ _ _ _ _) (hif _ _ _ _ _ _) (he _ _ _ _ _ _) W turn (fun σ' H' s' J q=>hRR _ _ σ' H' s' hCle J q) J0 (T.keep _ _ _ st2 fun b _ o e=>old b o e) (fun b hb=>?_) w0;obtain ⟨z0,z1,z2,z3,z4,z5⟩:=f2 b hb;refine ⟨by rw [upd_ne (Nat.ne_of_lt (hfl b hb))];exact z0,Nat.ne_of_lt (Nat.lt_of_lt_of_le (hfl b hb) hCle),fun z=>?_,.inl hb,fun x c e=>z4 x c (c1 x c e),fun p hp=>?_⟩
  ·exact (List.mem_cons.mp (I2.stkSub _ z)).elim z1 z2
  ·have hp:p∈(X.pn++pins)++[]:=hp
   rw [List.append_nil] at hp;exact z5 p hp
 exact codeAny_compStart_list (loop _ rfl) (T.self X.A 0 _ _ _ (T.keep _ _ _ st2 fun b _ o e=>old b o e) (loop _ rfl))
theorem pe_comp (hc:X.calm=true) (Sc:CompSc X scope own N') (hi:PI X target iter wi)
  (hg:∀cl C s₁ H₁ ex pn,PG (compCx X scope N' cl C s₁ H₁ ex pn) target g) (hif:∀cl C s₁ H₁ ex pn,PIfs (compCx X scope N' cl C s₁ H₁ ex pn) ifs tc) (he:∀cl C s₁ H₁ ex pn,PE (compCx X scope N' cl C s₁ H₁ ex pn) elt te)
  (hs:∀x,foldedSetIterable iter X.env x=pure x:=by intro _;rfl):PE X (.ListComp elt [⟨target,iter,ifs,0⟩] scope pos) (tComp own.length wi g tc te):=by
 intro pins s σ H Q I h;rw [eval_ListComp];obtain ⟨cl,hclos,c1,c2⟩:=clos_of (scope:=scope) (env:=X.env) (fun y hy hf=>I.ok.has y.1 (Sc.free y hy hf));refine wpAny_comprehension_free (use:=none) rfl hs hclos Sc.kind Sc.names (thn (hi pins s σ H _ I h) fun v s1 h1=>thn h1 fun itv s2 h2=>?_);obtain ⟨it,fp,tn,J,H2,rfl,I2,T,st2,f2,q2⟩:=h2
 refine comp_block (Qf:=fun p H'=>Q (.ref p) H') (RR:=fun acc C=>compPost (model X.prog X.w) X.A X.xe none (EP X pins σ Q) acc C) hc Sc hg hif he c1 c2 I2 T st2 f2 q2 fun D C σ' H' s' hC J q=>?_
 obtain ⟨m,hn,_⟩:=J.loc;exact ⟨m,hn,fun h' sb=>⟨.ref D,H',comp_back I2 J hC f2 sb,rfl,q⟩⟩
theorem ps_comp {i:Nat} {y:Str} {py spos:Pos} (hc:X.calm=true) (hsw:swapsWith (.ListComp elt [⟨target,iter,ifs,0⟩] scope pos) (some (.Name y py)) spos.line X.env=pure true)
  (hN:X.N.Nodup) (hy:X.N[i]?=some y) (hloc:Loc X.env.scope y) (Sc:CompSc X scope own N') (hi:PI X target iter wi)
  (hg:∀cl C s₁ H₁ ex pn,PG (compCx X scope N' cl C s₁ H₁ ex pn) target g) (hif:∀cl C s₁ H₁ ex pn,PIfs (compCx X scope N' cl C s₁ H₁ ex pn) ifs tc) (he:∀cl C s₁ H₁ ex pn,PE (compCx X scope N' cl C s₁ H₁ ex pn) elt te)
  (hs:∀x,foldedSetIterable iter X.env x=pure x:=by intro _;rfl) (hf:X.fn y=true∨X.env.scope.names.lookup y=some .local:=by first | exact .inl rfl | exact .inr rfl | assumption) :
  PS X (.Assign [.Name y py] (.ListComp elt [⟨target,iter,ifs,0⟩] scope pos) spos) (tAsg (tComp own.length wi g tc te) (gName i)):=by
 intro pins s σ H D I h;rw [exec_Assign_Name_used _ _ _ _ hsw];refine wpAny_bind (wpAny_standAt (wpAny_bind ?_));show wpAny _ X.A (do let _ ←comprehension (.ListComp elt [⟨target,iter,ifs,0⟩] scope pos) scope X.env _ (newList []) false (eval iter X.env) (some (assign (.Name y py) X.env))) _ _ s;obtain ⟨cl,hclos,c1,c2⟩:=clos_of (scope:=scope) (env:=X.env) (fun y hy hf=>I.ok.has y.1 (Sc.free y hy hf))
 refine wpAny_bind (wpAny_mono (wpAny_comprehension_free (use:=some (assign (.Name y py) X.env)) (Q:=fun _ s'=>SP X pins D .next s') rfl hs hclos Sc.kind Sc.names
  (thn (hi pins s σ H _ I h) fun v s1 h1=>thn h1 fun itv s2 h2=>?_)) (fun _ s' hq=>wpAny_pure (wpAny_pure hq)) fun _ _ e=>e)
 obtain ⟨it,fp,tn,J,H2,rfl,I2,T,st2,f2,q2⟩:=h2
 refine comp_block (Qf:=fun p H'=>D.nx (σ.set i (some (.ref p))) H') (RR:=fun acc C=>compPost (model X.prog X.w) X.A X.xe (some (assign (.Name y py) X.env)) (fun _ s'=>SP X pins D .next s') acc C) hc Sc hg hif he c1 c2 I2 T st2 f2 q2 fun A C σ' H' s' hC J q=>?_
 obtain ⟨m,hn,_⟩:=J.loc;have I3:Inv X pins σ H' s':=comp_back I2 J hC f2 (Heap.SameBut.refl ..);have hHC:H' C=none:=J.free
 have hcell:∀x c,X.env.cells.lookup x=some c→c≠C:=fun x c e z=>by
  obtain ⟨v,q⟩:=I2.cell x c e;exact absurd (Nat.lt_of_lt_of_le q.lt (by rw [z];exact hC)) (Nat.lt_irrefl _)
 have hloc':C≠X.env.locals:=Nat.ne_of_gt (Nat.lt_of_lt_of_le I2.lt hC);show wpAny _ X.A (assign (.Name y py) X.env (.ref A)) _ _ s';refine wpAny_assign_Name (store_ok2 (v:=.ref A) I3 hN hy hloc rfl (fun s4 I4 ⟨a,sb,ha⟩=>?_) hf)
 have haC:C≠a:=by
  rcases ha with e | e
  ·rw [e];exact hloc'
  ·exact Ne.symm (hcell _ _ e)
 refine ⟨m,hn.sameBut sb haC,fun h' sb'=>⟨_,H',?_,q⟩⟩
 refine I4.turned (t':=s4.toks) (it:=C) (fun b o hb e=>(sb'.2 b hb).trans e) hHC hloc' (.inr (Nat.le_trans I2.sz hC)) hcell fun p hp z=>?_
 exact absurd (Nat.lt_of_lt_of_le (Heap.lt_size (I2.pin p hp).1) (by rw [z];exact hC)) (Nat.lt_irrefl _)
end
noncomputable def compV (v:View) (g:MG) (c:MT) (m:ME):Nat→Nat→Lo→Sto→List D→Res (List D)
 | k,i,e,S,acc=>match v S with
  | none=>.bad
  | some ds=>match ds[i]? with
   | none=>.ok acc S
   | some d=>match k with
    | 0=>.bad
    | k+1=>if acc.length < sizeLine then (okR (g d e S)).bind fun e1 S1=>(okR (c e1 S1)).bind fun b S2=>if b=true then (okR (m e1 S2)).bind fun y S3=>compV v g c m k (i+1) e1 S3 (acc++[y]) else compV v g c m k (i+1) e1 S2 acc else .bad
noncomputable def mComp (n:Nat) (mi:MI) (g:MG) (c:MT) (m:ME):ML:=fun e S=>(mi e S).bind fun v S1=>compV v g c m (viewLen v S1) 0 (List.replicate n none++e) S1 []
noncomputable def cTrue:MT:=fun _ S=>.ok true S
section
variable {X:Cx} {E:EW} {scope:Scope} {own N':List Str} {elt iter target:Expr} {ifs:List Expr} {pos:Pos} {mi:MI} {g:MG} {c:MT} {m:ME}
noncomputable abbrev GIfs (X:Cx) (E:EW) (ifs:List Expr) (c:MT):Prop:=PIfs X ifs (gT X.K E c)
theorem gifs_nil:GIfs X E [] cTrue:=fun pins s σ H Q I ⟨ρ,l,S,hl,hs,hm⟩=>by
 exact pifs_nil pins s σ H Q I (hm ρ H .refl hs)
theorem gifs_one {e:Expr} (h:GT X E e c):GIfs X E [e] c:=pifs_one h
theorem RelL.grow {K:PySem.W.Frag} {ρ:List Addr} {H:Hp} {e:Lo} {σ:St} (n:Nat) (h:RelL K ρ H e σ):RelL K ρ H (List.replicate n none++e) (List.replicate n none++σ):=by
 refine ⟨by simp [h.len],fun i d q=>?_⟩
 by_cases hi:i < n
 ·rw [List.getElem?_append_left (by simpa using hi),List.getElem?_replicate,if_pos hi] at q
  cases q
 ·rw [List.getElem?_append_right (by simpa using hi)] at q ⊢
  simp only [List.length_replicate] at q ⊢;exact h.at' _ d q
theorem After.ok_of {α:Type} {K:PySem.W.Frag} {E:EH} {ρ:List Addr} {H:Hp} {r:Res α} {k:α→Sto→Prop} {a:α} {S:Sto} (e:r=.ok a S) (h:k a S):After K E ρ H r k:=by
 subst e;exact h
theorem okR_bind {α β:Type} {r:Res α} {F:α→Sto→Res β} {b:β} {S:Sto} (h:(okR r).bind F=.ok b S):∃a S1,r=.ok a S1∧F a S1=.ok b S:=by
 cases r with
 | ok a S1=>exact ⟨a,S1,rfl,h⟩
 | err c S1=>cases h
 | bad=>cases h
theorem compV_noerr {v:View} {g:MG} {c:MT} {m:ME} {er:Addr} {S':Sto}:∀(k i:Nat) (e:Lo) (S:Sto) (acc:List D),compV v g c m k i e S acc≠.err er S':=by
 intro k
 induction k with
 | zero=>
  intro i e S acc h;unfold compV at h;split at h
  ·cases h
  ·split at h <;> cases h
 | succ k ih=>
  intro i e S acc h;unfold compV at h;split at h
  ·cases h
  ·split at h
   ·cases h
   ·dsimp only at h
    split at h
    ·cases h1:g _ e S with
     | ok e1 S1=>
      rw [h1] at h;dsimp only [okR,Res.bind] at h
      cases h2:c e1 S1 with
      | ok b S2=>
       rw [h2] at h;dsimp only [okR,Res.bind] at h
       cases b with
       | true=>
        rw [if_pos rfl] at h
        cases h3:m e1 S2 with
        | ok y S3=>rw [h3] at h;exact ih _ _ _ _ h
        | err _ _=>rw [h3] at h;cases h
        | bad=>rw [h3] at h;cases h
       | false=>
        rw [if_neg Bool.false_ne_true] at h;exact ih _ _ _ _ h
      | err _ _=>rw [h2] at h;cases h
      | bad=>rw [h2] at h;cases h
     | err _ _=>rw [h1] at h;cases h
     | bad=>rw [h1] at h;cases h
    ·cases h
theorem tComp_of {K:PySem.W.Frag} {n:Nat} {σ:St} {H:Hp} {Q:VK} (h:gL K E (mComp n mi g c m) σ H Q):tComp n (gI K E mi) (gG K g) (gT K noE c) (gE K noE m) σ H Q:=by
 obtain ⟨ρ,l,S,hl,hs,hm⟩:=h;refine ⟨ρ,l,S,hl,hs,hm.seq fun v S1 hm ρ1 H1 J l1 s1 vo p hp=>?_⟩
 obtain ⟨ds,S',hm,k⟩:∃ds S',compV v g c m (viewLen v S1) 0 (List.replicate n none++l) S1 []=.ok ds S'∧∀ρ' H' p xs,Le K ρ H ρ' H'→RelS K ρ' S' H'→RelDs K ρ' H' ds xs→H' p=some (.lst xs)→(∀n:Nat,ρ'[n]?≠some p)→H p=none→Q (.ref p) H':=by
  cases hc:compV v g c m (viewLen v S1) 0 (List.replicate n none++l) S1 [] with
  | ok ds S'=>rw [hc] at hm;exact ⟨ds,S',rfl,hm⟩
  | err c S'=>exact (compV_noerr _ _ _ _ _ hc).elim
  | bad=>rw [hc] at hm;exact hm.elim
 obtain ⟨s1',l1'⟩:=upd_tup (ho:=.lst []) s1 hp;have hp0:H p=none:=l1.back hs s1 hp
 refine ⟨fun i j σ2 H2 xs=>∃ρ2 e2 S2 acc,Le K ρ1 H1 ρ2 H2∧RelL K ρ2 H2 e2 σ2∧RelS K ρ2 S2 H2∧RelDs K ρ2 H2 acc xs∧H2 p=some (.lst xs)∧(∀q:Nat,ρ2[q]?≠some p)∧compV v g c m j i e2 S2 acc=.ok ds S',
  ⟨viewLen v S1,ρ1,_,S1,[],l1',(hl.mono (l1.trans l1')).grow n,s1',.nil,upd_same,fun q e=>s1.notIn hp e,hm⟩,?_⟩
 rintro i j σ2 H2 xs ⟨ρ2,e2,S2,acc,l2,r2,s2,ra,hp2,hn2,hm2⟩;refine ⟨hp2,?_⟩;unfold compV at hm2
 cases hv:v S2 with
 | none=>rw [hv] at hm2;cases hm2
 | some vs=>
  rw [hv] at hm2;dsimp only at hm2;obtain ⟨v1,v2⟩:=vo ρ2 H2 S2 vs i l2 s2 hv
  cases hd:vs[i]? with
  | none=>
   rw [hd] at hm2;cases hm2;exact .inl ⟨v1 hd,k ρ2 H2 p xs (l1.trans l2) s2 ra hp2 hn2 hp0⟩
  | some d=>
   rw [hd] at hm2;dsimp only at hm2;obtain ⟨go,yl⟩:=v2 d hd
   cases j with
   | zero=>cases hm2
   | succ j=>
    dsimp only at hm2;split at hm2
    ·rename_i hz
     obtain ⟨e3,S3,h3,hm2⟩:=okR_bind hm2;obtain ⟨b,S4,h4,hm2⟩:=okR_bind hm2;refine .inr ⟨go,by rw [←ra.length];exact hz,fun x H' y=>?_⟩;obtain ⟨ρ3,l3,s3,rd⟩:=yl x H' y;obtain ⟨hp3,hn3⟩:=l3.oth p _ hp2 hn2;refine ⟨ρ3,e2,S2,d,rd,r2.mono l3,s3,After.ok_of h3 fun ρ4 H4 σ4 l4 s4 r4=>?_⟩;obtain ⟨hp4,hn4⟩:=l4.oth p _ hp3 hn3;refine ⟨ρ4,e3,S3,r4,s4,After.ok_of h4 fun ρ5 H5 l5 s5=>?_⟩;obtain ⟨hp5,hn5⟩:=l5.oth p _ hp4 hn4
     cases b with
     | false=>
      rw [if_neg Bool.false_ne_true] at hm2 ⊢;exact ⟨j,Nat.lt_succ_self j,ρ5,e3,S4,acc,l2.trans (l3.trans (l4.trans l5)),r4.mono l5,s5,ra.mono (l3.trans (l4.trans l5)),hp5,hn5,hm2⟩
     | true=>
      rw [if_pos rfl] at hm2 ⊢;obtain ⟨yv,S5,h5,hm2⟩:=okR_bind hm2;refine ⟨ρ5,e3,S4,r4.mono l5,s5,After.ok_of h5 fun ρ6 H6 y6 l6 s6 r6=>?_⟩;obtain ⟨hp6,hn6⟩:=l6.oth p _ hp5 hn5
      have l7:∀xs',Le K ρ6 H6 ρ6 (upd H6 p (.lst xs'))→True:=fun _ _=>trivial
      have up7:∀xs':List V,RelS K ρ6 S5 (upd H6 p (.lst xs'))∧(∀a o,RelOb K ρ6 H6 a o→a≠p→RelOb K ρ6 (upd H6 p (.lst xs')) a o)∧∀e' w',RelD K ρ6 H6 e' w'→RelD K ρ6 (upd H6 p (.lst xs')) e' w':=fun xs'=>by
       have kk:=keep_upd (H:=H6) (p:=p) (ho:=.lst xs') (.inr (by rw [hp6];trivial))
       have mono:∀e' w',RelD K ρ6 H6 e' w'→RelD K ρ6 (upd H6 p (.lst xs')) e' w':=fun e' w' r=>r.keep kk.1 kk.2
       have mob:∀a o,RelOb K ρ6 H6 a o→a≠p→RelOb K ρ6 (upd H6 p (.lst xs')) a o:=fun a o r ne=>r.keep kk.1 kk.2 (upd_ne ne)
       exact ⟨⟨s6.len,s6.nd,fun n o a q1 q2=>mob a o (s6.ob n o a q1 q2) fun z=>hn6 n (by rw [←z];exact q2)⟩,mob,mono⟩
      obtain ⟨u1,u2,u3⟩:=up7 (xs++[y6]);refine ⟨hp6,j,Nat.lt_succ_self j,ρ6,e3,S5,acc++[yv],?_,?_,u1,?_,upd_same,hn6,hm2⟩
      ·have lx:=l2.trans (l3.trans (l4.trans (l5.trans l6)))
       have kk:=keep_upd (H:=H6) (p:=p) (ho:=.lst (xs++[y6])) (.inr (by rw [hp6];trivial))
       exact ⟨lx.pre,fun a zs q=>kk.1 a zs (lx.tup a zs q),fun a o u q=>kk.2 a o u (lx.frz a o u q),fun a o q z=>by
        have nap:a≠p:=ne_of_none q hp;obtain ⟨z1,z2⟩:=lx.oth a o q z
        exact ⟨by rw [upd_ne nap];exact z1,z2⟩⟩
      ·have rr:=r4.mono (l5.trans l6)
       exact ⟨rr.len,fun q d' hq=>by
        obtain ⟨w',z1,z2⟩:=rr.at' q d' hq
        exact ⟨w',z1,u3 _ _ z2⟩⟩
      ·have ra6:=ra.mono (l3.trans (l4.trans (l5.trans l6)))
       have kk:=keep_upd (H:=H6) (p:=p) (ho:=.lst (xs++[y6])) (.inr (by rw [hp6];trivial));exact (ra6.keep kk.1 kk.2).append (.cons (u3 _ _ r6) .nil)
    ·cases hm2
theorem gl_comp (hc:X.calm=true) (Sc:CompSc X scope own N') (hi:GI X E target iter mi)
  (hg:∀cl C s₁ H₁ ex pn,GG (compCx X scope N' cl C s₁ H₁ ex pn) target g) (hif:∀cl C s₁ H₁ ex pn,GIfs (compCx X scope N' cl C s₁ H₁ ex pn) noE ifs c) (he:∀cl C s₁ H₁ ex pn,GE (compCx X scope N' cl C s₁ H₁ ex pn) noE elt m)
  (hs:∀x,foldedSetIterable iter X.env x=pure x:=by intro _;rfl):GL X E (.ListComp elt [⟨target,iter,ifs,0⟩] scope pos) (mComp own.length mi g c m):=
 (pe_comp (g:=gG X.K g) (tc:=gT X.K noE c) (te:=gE X.K noE m) hc Sc hi hg hif he hs).imp fun _ _ _ h=>tComp_of h
theorem gs_comp {i:Nat} {y:Str} {py spos:Pos} (hc:X.calm=true) (hsw:swapsWith (.ListComp elt [⟨target,iter,ifs,0⟩] scope pos) (some (.Name y py)) spos.line X.env=pure true)
  (hN:X.N.Nodup) (hy:X.N[i]?=some y) (hloc:Loc X.env.scope y) (Sc:CompSc X scope own N') (hi:GI X E target iter mi)
  (hg:∀cl C s₁ H₁ ex pn,GG (compCx X scope N' cl C s₁ H₁ ex pn) target g) (hif:∀cl C s₁ H₁ ex pn,GIfs (compCx X scope N' cl C s₁ H₁ ex pn) noE ifs c) (he:∀cl C s₁ H₁ ex pn,GE (compCx X scope N' cl C s₁ H₁ ex pn) noE elt m)
  (hs:∀x,foldedSetIterable iter X.env x=pure x:=by intro _;rfl) (hf:X.fn y=true∨X.env.scope.names.lookup y=some .local:=by first | exact .inl rfl | exact .inr rfl | assumption) :
  GS X E (.Assign [.Name y py] (.ListComp elt [⟨target,iter,ifs,0⟩] scope pos) spos) (sSet i (mNew (mComp own.length mi g c m))):=by
 refine (ps_comp (g:=gG X.K g) (tc:=gT X.K noE c) (te:=gE X.K noE m) hc hsw hN hy hloc Sc hi hg hif he hs hf).imp fun D σ H ⟨ρ,l,S,hl,hs,hm⟩=>?_
 refine tComp_of (E:=E) (Q:=fun x H'=>D.nx (σ.set i (some x)) H') ⟨ρ,l,S,hl,hs,After.seq (F:=fun ds S1=>Res.ok (L2.D.ref S1.length) (S1++[Ob.lst ds])) (k:=fun d S2=>After X.K noH ρ H ((tgN i d l S2).bind fun e1 S2=>.ok (.nx e1) S2) fun fl S'=>flOk X.K E ρ H S' D fl) (After.lift hm hl .refl fun d S2 h=>h) fun ds S1 hm ρ1 H1 p xs l1 s1 r1 hp hn hp0=>?_⟩
 have l0:∀(n:Nat) a,ρ1[n]?=some a→(ρ1++[p])[n]?=some a:=fun n a h=>by rw [List.getElem?_append_left (List.getElem?_eq_some_iff.mp h).1];exact h
 obtain ⟨s2,at2⟩:=s1.adopt (o:=.lst ds) hn ⟨xs,hp,r1.more l0⟩
 have l2:Le X.K ρ H (ρ1++[p]) H1:=⟨fun n a h=>l0 n a (l1.pre n a h),l1.tup,l1.frz,fun a o e h=>⟨(l1.oth a o e h).1,fun n q=>by
  rcases get_snoc q with ⟨q,_⟩ | ⟨_,q⟩
  ·exact (l1.oth a o e h).2 n q
  ·exact ne_of_none e hp0 q⟩⟩
 exact hm _ _ _ l2 s2 ((hl.mono l2).set (.ref at2) i)
end
end L2
namespace L2
open PySem PySem.Spec PyProof.Rows PySem.SeqAt
noncomputable def eqFlat:D→D→Option Bool
 | .non,.non=>some true
 | .bl a,.bl b=>some (a==b)
 | .int a,.int b=>some (a==b)
 | .str a,.str b=>some (a==b)
 | .non,.int _=>some false
 | .non,.str _=>some false
 | .non,.bl _=>some false
 | .non,.tup _=>some false
 | .int _,.non=>some false
 | .str _,.non=>some false
 | .bl _,.non=>some false
 | .tup _,.non=>some false
 | .int _,.tup _=>some false
 | .tup _,.int _=>some false
 | _,_=>none
noncomputable def eqL (f:D→D→Option Bool):List D→List D→Option Bool
 | [],[]=>some true
 | [],_ :: _=>some false
 | _ :: _,[]=>some false
 | x :: xs,y :: ys=>match f x y,eqL f xs ys with
  | some a,some b=>some (a&&b)
  | _,_=>none
noncomputable def eqP:Nat→D→D→Option Bool
 | 0,x,y=>eqFlat x y
 | n+1,x,y=>match x,y with
  | .tup xs,.tup ys=>eqL (eqP n) xs ys
  | x,y=>eqFlat x y
theorem eqL_cons {f:D→D→Option Bool} {x y:D} {xs ys:List D} {b:Bool} (h:eqL f (x :: xs) (y :: ys)=some b):∃a c,f x y=some a∧eqL f xs ys=some c∧b=(a&&c):=by
 unfold eqL at h;split at h
 ·rename_i a c h1 h2
  cases h;exact ⟨a,c,h1,h2,rfl⟩
 ·cases h
theorem eqL_all {f:D→D→Option Bool}:∀ {xs ys:List D} {b:Bool},eqL f xs ys=some b→(∀(j:Nat) x y,xs[j]?=some x→ys[j]?=some y→∃c,f x y=some c) ∧
  b=((List.range (min xs.length ys.length)).all (fun j=>match xs[j]?,ys[j]? with | some x,some y=>(f x y).getD false | _,_=>false)&&xs.length==ys.length)
 | [],[],b,h=>by cases h;exact ⟨fun j x y h=>by simp at h,by simp⟩
 | [],y :: ys,b,h=>by cases h;exact ⟨fun j x y h=>by simp at h,by simp⟩
 | x :: xs,[],b,h=>by cases h;exact ⟨fun j x y _ h=>by simp at h,by simp⟩
 | x :: xs,y :: ys,b,h=>by
  obtain ⟨a,c,h1,h2,rfl⟩:=eqL_cons h;obtain ⟨i1,i2⟩:=eqL_all h2;refine ⟨fun j x' y' e1 e2=>?_,?_⟩
  ·cases j with
   | zero=>simp at e1 e2;subst e1;subst e2;exact ⟨a,h1⟩
   | succ j=>exact i1 j x' y' (by simpa using e1) (by simpa using e2)
  ·rw [i2,List.length_cons,List.length_cons,show min (xs.length+1) (ys.length+1)=min xs.length ys.length+1 by lia,List.range_succ_eq_map,List.all_cons,List.all_map]
   simp only [List.getElem?_cons_zero,h1,Option.getD_some,Function.comp_def,List.getElem?_cons_succ];rw [Bool.and_assoc]
   congr 1
   congr 1
   rw [Bool.eq_iff_iff];simp
section
variable {K:PySem.W.Frag} {ρ:List Addr} {H:Hp}
theorem eqP_ref (n k:Nat) (y:D):eqP n (.ref k) y=none:=by cases n <;> cases y <;> rfl
theorem eqP_fro (n:Nat) (ds:List D) (y:D):eqP n (.fro ds) y=none:=by cases n <;> cases y <;> rfl
theorem eqP_exc (n:Nat) (c:Addr) (y:D):eqP n (.exc c) y=none:=by cases n <;> cases y <;> rfl
theorem relD_two {x x':D} {v:V} (r1:RelD K ρ H x v) (r2:RelD K ρ H x' v):x=x'∨(∃ds ds' vs,x=.tup ds∧x'=.tup ds'∧RelDs K ρ H ds vs∧RelDs K ρ H ds' vs)∨(∀n y,eqP n x y=none)∨∀n y,eqP n x' y=none:=by
 cases r1 with
 | non=>cases r2;exact .inl rfl
 | bl b=>cases r2;exact .inl rfl
 | int b=>cases r2;exact .inl rfl
 | str b=>cases r2;exact .inl rfl
 | fro _ _=>exact .inr (.inr (.inl fun n y=>eqP_fro n _ y))
 | ref _=>exact .inr (.inr (.inl fun n y=>eqP_ref n _ y))
 | exc _ _=>exact .inr (.inr (.inl fun n y=>eqP_exc n _ y))
 | tup u1 u2=>
  cases r2 with
  | fro _ _=>exact .inr (.inr (.inr fun n y=>eqP_fro n _ y))
  | ref _=>exact .inr (.inr (.inr fun n y=>eqP_ref n _ y))
  | exc _ _=>exact .inr (.inr (.inr fun n y=>eqP_exc n _ y))
  | tup w1 w2=>
   rw [u1] at w1;cases w1;exact .inr (.inl ⟨_,_,_,rfl,rfl,u2,w2⟩)
theorem eqP_fun:∀(n:Nat) {x x' y:D} {v:V} {b b':Bool},RelD K ρ H x v→RelD K ρ H x' v→eqP n x y=some b→eqP n x' y=some b'→b=b':=by
 intro n
 induction n with
 | zero=>
  intro x x' y v b b' r1 r2 h h'
  rcases relD_two r1 r2 with rfl | ⟨ds,ds',vs,rfl,rfl,_,_⟩ | q | q
  ·rw [h] at h';cases h';rfl
  ·have:eqP 0 (.tup ds) y=eqP 0 (.tup ds') y:=by cases y <;> rfl
   rw [←this,h] at h';cases h';rfl
  ·rw [q] at h;cases h
  ·rw [q] at h';cases h'
 | succ n ih=>
  intro x x' y v b b' r1 r2 h h'
  have lists:∀ {xs:List D} {vs:List V} {xs' ys:List D} {b b':Bool},RelDs K ρ H xs vs→RelDs K ρ H xs' vs→eqL (eqP n) xs ys=some b→eqL (eqP n) xs' ys=some b'→b=b':=by
   intro xs
   induction xs with
   | nil=>
    intro vs xs' ys b b' q1 q2 g g';cases q1;cases q2;rw [g] at g';cases g';rfl
   | cons d ds ihl=>
    intro vs xs' ys b b' q1 q2 g g'
    cases q1 with
    | cons a1 a2=>
     cases q2 with
     | cons c1 c2=>
      cases ys with
      | nil=>cases g;cases g';rfl
      | cons y ys=>
       obtain ⟨p,q,g1,g2,rfl⟩:=eqL_cons g;obtain ⟨p',q',g1',g2',rfl⟩:=eqL_cons g';rw [ih a1 c1 g1 g1',ihl a2 c2 g2 g2']
  rcases relD_two r1 r2 with rfl | ⟨ds,ds',vs,rfl,rfl,q1,q2⟩ | q | q
  ·rw [h] at h';cases h';rfl
  ·by_cases c:∃ys,y=.tup ys
   ·obtain ⟨ys,rfl⟩:=c
    exact lists q1 q2 h h'
   ·have:eqP (n+1) (.tup ds) y=eqP (n+1) (.tup ds') y:=by
     cases y <;> first | rfl | exact (c ⟨_,rfl⟩).elim
    rw [←this,h] at h';cases h';rfl
  ·rw [q] at h;cases h
  ·rw [q] at h';cases h'
theorem eqFlat_self {x:D} {b:Bool} (h:eqFlat x x=some b):b=true:=by
 cases x <;> first | (cases h;done) | (cases h;simp)
theorem eqP_self:∀(n:Nat) {x:D} {b:Bool},eqP n x x=some b→b=true
 | 0,_,_,h=>eqFlat_self h
 | n+1,x,b,h=>by
  have lists:∀ {xs:List D} {b:Bool},eqL (eqP n) xs xs=some b→b=true:=by
   intro xs
   induction xs with
   | nil=>intro b g;cases g;rfl
   | cons d ds ih=>
    intro b g;obtain ⟨p,q,g1,g2,rfl⟩:=eqL_cons g;rw [eqP_self n g1,ih g2];rfl
  cases x with
  | tup xs=>exact lists h
  | non=>exact eqFlat_self (x:=.non) h
  | bl c=>exact eqFlat_self (x:=.bl c) h
  | int c=>exact eqFlat_self (x:=.int c) h
  | str c=>exact eqFlat_self (x:=.str c) h
  | ref c=>exact eqFlat_self (x:=.ref c) h
  | fro c=>exact eqFlat_self (x:=.fro c) h
  | exc c=>exact eqFlat_self (x:=.exc c) h
theorem eqP_snd {x y:D} (hy:(∃f,y=.fro f)∨(∃r,y=.ref r)∨∃c,y=.exc c) (n:Nat):eqP n x y=none:=by
 rcases hy with ⟨f,rfl⟩ | ⟨r,rfl⟩ | ⟨c,rfl⟩ <;> (cases n <;> cases x <;> rfl)
theorem eqP_same (n:Nat) {x y:D} {v:V} {b:Bool} (h1:RelD K ρ H x v) (h2:RelD K ρ H y v) (h:eqP n x y=some b):b=true:=by
 induction n generalizing x y v b with
 | zero=>
  rcases relD_two h1 h2 with rfl | ⟨ds,ds',vs,rfl,rfl,_,_⟩ | q | q
  ·exact eqP_self 0 h
  ·cases h
  ·rw [q] at h;cases h
  ·cases h2 with
   | fro _ _=>rw [eqP_snd (.inl ⟨_,rfl⟩)] at h;cases h
   | ref _=>rw [eqP_snd (.inr (.inl ⟨_,rfl⟩))] at h;cases h
   | exc _ _=>rw [eqP_snd (.inr (.inr ⟨_,rfl⟩))] at h;cases h
   | non=>cases (q 0 .non)
   | bl b=>cases (q 0 (.bl b))
   | int b=>cases (q 0 (.int b))
   | str b=>cases (q 0 (.str b))
   | tup _ _=>cases (q 0 .non)
 | succ n ih=>
  have lists:∀ {xs ys:List D} {vs:List V} {b:Bool},RelDs K ρ H xs vs→RelDs K ρ H ys vs→eqL (eqP n) xs ys=some b→b=true:=by
   intro xs
   induction xs with
   | nil=>intro ys vs b q1 q2 g;cases q1;cases q2;cases g;rfl
   | cons d ds ihl=>
    intro ys vs b q1 q2 g
    cases q1 with
    | cons a1 a2=>
     cases q2 with
     | cons c1 c2=>
      obtain ⟨p,q,g1,g2,rfl⟩:=eqL_cons g;rw [ih a1 c1 g1,ihl a2 c2 g2];rfl
  rcases relD_two h1 h2 with rfl | ⟨ds,ds',vs,rfl,rfl,q1,q2⟩ | q | q
  ·exact eqP_self (n+1) h
  ·exact lists q1 q2 h
  ·rw [q] at h;cases h
  ·cases h2 with
   | fro _ _=>rw [eqP_snd (.inl ⟨_,rfl⟩)] at h;cases h
   | ref _=>rw [eqP_snd (.inr (.inl ⟨_,rfl⟩))] at h;cases h
   | exc _ _=>rw [eqP_snd (.inr (.inr ⟨_,rfl⟩))] at h;cases h
   | non=>cases (q 0 .non)
   | bl b=>cases (q 0 (.bl b))
   | int b=>cases (q 0 (.int b))
   | str b=>cases (q 0 (.str b))
   | tup _ _=>cases (q 0 .non)
end
section
variable {X:Cx} {pins:List (Addr×Obj)} {σ:St} {H:Hp} {s:Shared} {ρ:List Addr}
theorem in1_units (A:Around):A.in1.units=A.units+1:=rfl
theorem Vals.at_ {vs:List V} {its:List Value} (r:Vals vs its) {j:Nat} (h:j < its.toArray.size):∃v,vs[j]?=some v∧RelV v its.toArray[j]:=by
 have hj:j < its.length:=by simpa using h
 have hv:j < vs.length:=by rw [r.length];exact hj
 obtain ⟨u,h1,h2⟩:=r.get (i:=j) (x:=vs[j]) (by simp [hv]);refine ⟨vs[j],by simp [hv],?_⟩
 have:its.toArray[j]=u:=by
  have:=List.getElem?_eq_some_iff.mp h1;obtain ⟨_,e⟩:=this;simpa using e
 rw [this];exact h2
theorem seq_eqs {n:Nat} {A:Around} (ih:∀(x y:D) (b:Bool) (xv yv:V) (u v:Value),eqP n x y=some b→RelD X.K ρ H x xv→RelD X.K ρ H y yv→RelV xv u→RelV yv v→EqAt A s u v b)
  {xs ys:List D} {vs ws:List V} {us zs:List Value} {b:Bool} (h:eqL (eqP n) xs ys=some b) (r1:RelDs X.K ρ H xs vs) (r2:RelDs X.K ρ H ys ws) (q1:Vals vs us) (q2:Vals ws zs) :
  ∃e:Nat→Bool,(∀j (h1:j < us.toArray.size) (h2:j < zs.toArray.size),EqAt A s us.toArray[j] zs.toArray[j] (e j))∧b=((List.range (min us.toArray.size zs.toArray.size)).all e&&us.toArray.size==zs.toArray.size):=by
 obtain ⟨i1,i2⟩:=eqL_all h;refine ⟨fun j=>match xs[j]?,ys[j]? with | some x,some y=>(eqP n x y).getD false | _,_=>false,fun j h1 h2=>?_,?_⟩
 ·obtain ⟨v,e1,rv⟩:=Vals.at_ q1 h1
  obtain ⟨w,e2,rw'⟩:=Vals.at_ q2 h2;obtain ⟨x,e3,rx⟩:=r1.get' e1;obtain ⟨y,e4,ry⟩:=r2.get' e2;obtain ⟨c,hc⟩:=i1 j x y e3 e4;have:=ih x y c v w _ _ hc rx ry rv rw';simp only [e3,e4,hc,Option.getD_some];exact this
 ·rw [i2,r1.length,r2.length,q1.length,q2.length]
  simp
theorem flat_eqAt {A:Around} {x y:D} {b:Bool} {xv yv:V} {u v:Value} (I:Inv X pins σ H s) (hu:A.units < cLine) (h:eqFlat x y=some b) (r1:RelD X.K ρ H x xv) (r2:RelD X.K ρ H y yv) (q1:RelV xv u) (q2:RelV yv v) :
  EqAt A s u v b∧RcAt A s u v b∧RcNeAt A s u v (!b):=by
 cases r1 with
 | non=>
  cases q1
  cases r2 with
  | non=>cases q2;cases h;exact ⟨EqAt.same _,RcAt.none_none,RcNeAt.none_none⟩
  | bl c=>cases q2;cases h;exact ⟨EqAt.none_bool _,RcAt.none_bool _,RcNeAt.none_bool _⟩
  | int i=>obtain ⟨t,rfl⟩:=q2;cases h;exact ⟨EqAt.none_int _ _,RcAt.none_int _ _,RcNeAt.none_int _ _⟩
  | str z=>obtain ⟨t,rfl⟩:=q2;cases h;exact ⟨EqAt.none_str _ _,RcAt.none_str _ _,RcNeAt.none_str _ _⟩
  | tup a1 a2=>
   cases q2;cases h;obtain ⟨its,_,p,_⟩:=I.tuple (.inl (.inl a1));exact ⟨EqAt.none_tuple p hu,RcAt.none_tuple p hu,RcNeAt.none_tuple p hu⟩
  | _=>cases h
 | bl a=>
  cases q1
  cases r2 with
  | non=>cases q2;cases h;exact ⟨EqAt.bool_none _,RcAt.bool_none _,RcNeAt.bool_none _⟩
  | bl c=>cases q2;cases h;exact ⟨EqAt.bool_bool _ _,RcAt.bool_bool _ _,RcNeAt.bool_bool _ _⟩
  | _=>cases h
 | int a=>
  obtain ⟨t,rfl⟩:=q1
  cases r2 with
  | non=>cases q2;cases h;exact ⟨EqAt.int_none _ _,RcAt.int_none _ _,RcNeAt.int_none _ _⟩
  | int i=>obtain ⟨t',rfl⟩:=q2;cases h;exact ⟨EqAt.int_int _ _ _ _,RcAt.int_int _ _ _ _,RcNeAt.int_int _ _ _ _⟩
  | tup a1 a2=>
   cases q2;cases h;obtain ⟨its,_,p,_⟩:=I.tuple (.inl (.inl a1));exact ⟨EqAt.int_tuple _ _ p hu,RcAt.int_tuple _ _ p hu,RcNeAt.int_tuple _ _ p hu⟩
  | _=>cases h
 | str a=>
  obtain ⟨t,rfl⟩:=q1
  cases r2 with
  | non=>cases q2;cases h;exact ⟨EqAt.str_none _ _,RcAt.str_none _ _,RcNeAt.str_none _ _⟩
  | str i=>obtain ⟨t',rfl⟩:=q2;cases h;exact ⟨EqAt.str_str _ _ _ _,RcAt.str_str _ _ _ _,RcNeAt.str_str _ _ _ _⟩
  | _=>cases h
 | tup a1 a2=>
  cases q1;obtain ⟨its,_,p,_⟩:=I.tuple (.inl (.inl a1))
  cases r2 with
  | non=>cases q2;cases h;exact ⟨EqAt.tuple_none p hu,RcAt.tuple_none p hu,RcNeAt.tuple_none p hu⟩
  | int i=>obtain ⟨t',rfl⟩:=q2;cases h;exact ⟨EqAt.tuple_int _ _ p hu,RcAt.tuple_int _ _ p hu,RcNeAt.tuple_int _ _ p hu⟩
  | _=>cases h
 | _=>cases h
theorem eqAt_D (I:Inv X pins σ H s):∀(n:Nat) (A:Around) (x y:D) (b:Bool) (xv yv:V) (u v:Value),A.units+n < cLine→eqP n x y=some b→RelD X.K ρ H x xv→RelD X.K ρ H y yv→RelV xv u→RelV yv v→EqAt A s u v b:=by
 intro n
 induction n with
 | zero=>exact fun A x y b xv yv u v hu h r1 r2 q1 q2=>(flat_eqAt I (by omega) h r1 r2 q1 q2).1
 | succ n ih=>
  intro A x y b xv yv u v hu h r1 r2 q1 q2
  by_cases ht:∃xs ys,x=.tup xs∧y=.tup ys
  ·obtain ⟨xs,ys,rfl,rfl⟩:=ht
   cases r1 with
   | @tup _ a vs a1 a2=>
    cases r2 with
    | @tup _ c ws b1 b2=>
     cases q1;cases q2
     by_cases hac:a=c
     ·subst hac
      rw [eqP_same (n+1) (.tup a1 a2) (.tup b1 b2) h];exact EqAt.same _
     ·obtain ⟨its,rv,p,_⟩:=I.tuple (.inl (.inl a1))
      obtain ⟨its2,rw',p2,_⟩:=I.tuple (.inl (.inl b1));obtain ⟨e,he,rfl⟩:=seq_eqs (A:=A.in1) (fun x y b xv yv u v g1 g2 g3 g4 g5=>ih A.in1 x y b xv yv u v (by rw [in1_units];lia) g1 g2 g3 g4 g5) h a2 b2 rv rw';exact EqAt.of_refs hac (RcAt.tuples p p2 (by lia) he)
  ·have hf:eqFlat x y=some b:=by
    cases x <;> cases y <;> first | exact h | exact (ht ⟨_,_,rfl,rfl⟩).elim
   exact (flat_eqAt I (by lia) hf r1 r2 q1 q2).1
noncomputable def lstD (d:D) (S:Sto):Option (List D):=match d with
 | .fro ds=>some ds
 | .ref n=>match S[n]? with
  | some (.lst ds)=>some ds
  | _=>none
 | _=>none
noncomputable def eqB (x y:D) (S:Sto):Option Bool:=match lstD x S,lstD y S with
 | some xs,some ys=>if xs.length=ys.length then eqL (eqP 8) xs ys else some false
 | none,none=>eqP 8 x y
 | some _,none=>match y with
  | .tup _=>some false
  | .non=>some false
  | _=>none
 | none,some _=>match x with
  | .tup _=>some false
  | .non=>some false
  | _=>none
noncomputable def eqD (neg:Bool) (x y:D) (S:Sto):Res D:=match eqB x y S with
 | some b=>.ok (.bl (if neg then !b else b)) S
 | none=>.bad
theorem lstD_ok {K:PySem.W.Frag} {S:Sto} {d:D} {x:V} {ds:List D} (hs:RelS K ρ S H) (r:RelD K ρ H d x) (h:lstD d S=some ds):∃p xs,x=.ref p∧RelDs K ρ H ds xs∧SqL K H p xs:=by
 cases r with
 | fro h1 h2=>cases h;exact ⟨_,_,rfl,h2,h1.sq⟩
 | @ref n a hn=>
  obtain ⟨o,ho,ro⟩:=hs.there hn;unfold lstD at h;simp only [ho] at h
  cases o with
  | lst es=>cases h;obtain ⟨vs,e,rr⟩:=ro;exact ⟨_,_,rfl,rr,.inl (.inl e)⟩
  | _=>cases h
 | _=>cases h
theorem eqB_ok {S:Sto} {x y:D} {b:Bool} {xv yv:V} {u v:Value} (I:Inv X pins σ H s) (hu:X.A.units+64 < cLine) (hs:RelS X.K ρ S H) (r1:RelD X.K ρ H x xv) (r2:RelD X.K ρ H y yv) (q1:RelV xv u) (q2:RelV yv v) (h:eqB x y S=some b) :
  RcAt X.A s u v b∧RcNeAt X.A s u v (!b):=by
 unfold eqB at h;split at h
 ·rename_i xs ys h1 h2
  obtain ⟨p,vs,rfl,rr,sq⟩:=lstD_ok hs r1 h1;obtain ⟨p',vs',rfl,rr',sq'⟩:=lstD_ok hs r2 h2;cases q1;cases q2;obtain ⟨its,rv,pl,_⟩:=I.list sq;obtain ⟨its2,rv2,pl2,_⟩:=I.list sq';split at h
  ·rename_i hlen
   obtain ⟨e,he,rfl⟩:=seq_eqs (A:=X.A.in1) (fun x y b xv yv u v g1 g2 g3 g4 g5=>eqAt_D I 8 X.A.in1 x y b xv yv u v (by rw [in1_units];lia) g1 g2 g3 g4 g5) h rr rr' rv rv2
   have hsz:its.toArray.size=its2.toArray.size:=by
    simp only [List.size_toArray];rw [←rv.length,←rv2.length,←rr.length,←rr'.length];exact hlen
   have e1:((List.range (min its.toArray.size its2.toArray.size)).all e&&its.toArray.size==its2.toArray.size)=(List.range its.toArray.size).all e:=by
    rw [←hsz,Nat.min_self,beq_self_eq_true,Bool.and_true]
   rw [e1];exact ⟨RcAt.lists pl.isList pl2.isList hsz (by lia) he,RcNeAt.lists pl.isList pl2.isList hsz (by lia) he⟩
  ·rename_i hlen
   cases h
   have hsz:(its.toArray.size != its2.toArray.size)=true:=by
    simp only [List.size_toArray];rw [←rv.length,←rv2.length,←rr.length,←rr'.length];simpa using hlen
   exact ⟨RcAt.lists_lengths pl.isList pl2.isList hsz (by lia),RcNeAt.lists_lengths pl.isList pl2.isList hsz (by lia)⟩
 ·by_cases ht:∃xs ys,x=.tup xs∧y=.tup ys
  ·obtain ⟨xs,ys,rfl,rfl⟩:=ht
   cases r1 with
   | tup a1 a2=>
    cases r2 with
    | tup b1 b2=>
     cases q1;cases q2;obtain ⟨its,rv,p,_⟩:=I.tuple (.inl (.inl a1));obtain ⟨its2,rw',p2,_⟩:=I.tuple (.inl (.inl b1));obtain ⟨e,he,rfl⟩:=seq_eqs (n:=7) (A:=X.A.in1) (fun x y b xv yv u v g1 g2 g3 g4 g5=>eqAt_D I 7 X.A.in1 x y b xv yv u v (by rw [in1_units];lia) g1 g2 g3 g4 g5) h a2 b2 rv rw';exact ⟨RcAt.tuples p p2 (by lia) he,RcNeAt.tuples p p2 (by lia) he⟩
  ·have hf:eqFlat x y=some b:=by
    cases x <;> cases y <;> first | exact h | exact (ht ⟨_,_,rfl,rfl⟩).elim
   exact (flat_eqAt I (by lia) hf r1 r2 q1 q2).2
 ·rename_i xs h1 h2
  obtain ⟨p,vs,rfl,rr,sq⟩:=lstD_ok hs r1 h1;cases q1;obtain ⟨its,rv,pl,_⟩:=I.list sq;split at h
  ·cases h
   cases r2 with
   | tup b1 b2=>
    cases q2;obtain ⟨its2,rw',p2,_⟩:=I.tuple (.inl (.inl b1));exact ⟨RcAt.list_tuple pl.isList p2 (by lia),RcNeAt.list_tuple pl.isList p2 (by lia)⟩
  ·cases h
   cases r2;cases q2;exact ⟨RcAt.list_none pl.isList (by lia),RcNeAt.list_none pl.isList (by lia)⟩
  ·cases h
 ·rename_i xs h1 h2
  obtain ⟨p,vs,rfl,rr,sq⟩:=lstD_ok hs r2 h2;cases q2;obtain ⟨its,rv,pl,_⟩:=I.list sq;split at h
  ·cases h
   cases r1 with
   | tup b1 b2=>
    cases q1;obtain ⟨its2,rw',p2,_⟩:=I.tuple (.inl (.inl b1));exact ⟨RcAt.tuple_list p2 pl.isList (by lia),RcNeAt.tuple_list p2 pl.isList (by lia)⟩
  ·cases h
   cases r1;cases q1;exact ⟨RcAt.none_list pl.isList (by lia),RcNeAt.none_list pl.isList (by lia)⟩
  ·cases h
theorem od_eq (hu:X.A.units+64 < cLine):OpR X (compareOp .Eq) (rD X.K (eqD false)):=by
 intro pins s σ H x y v u Q I rx ry h;obtain ⟨ρ,S,a,b,d,S',hs,ra,rb,hm,k⟩:=h;unfold eqD at hm;split at hm
 ·rename_i c hc
  cases hm;exact (eqB_ok I hu hs ra rb rx ry hc).1 _ _ _ _ ⟨.bl c,H,I,rfl,k ρ H _ .refl hs (.bl _)⟩
 ·cases hm
theorem od_ne (hu:X.A.units+64 < cLine):OpR X (compareOp .NotEq) (rD X.K (eqD true)):=by
 intro pins s σ H x y v u Q I rx ry h;obtain ⟨ρ,S,a,b,d,S',hs,ra,rb,hm,k⟩:=h;unfold eqD at hm;split at hm
 ·rename_i c hc
  cases hm;exact (eqB_ok I hu hs ra rb rx ry hc).2 _ _ _ _ ⟨.bl (!c),H,I,rfl,k ρ H _ .refl hs (.bl _)⟩
 ·cases hm
noncomputable def anyEq (x:D):List D→Option Bool
 | []=>some false
 | d :: ds=>match eqP 8 d x,anyEq x ds with
  | some a,some b=>some (a||b)
  | _,_=>none
noncomputable def inD (neg:Bool) (x y:D) (S:Sto):Res D:=match seqD y S with
 | some ds=>match anyEq x ds with
  | some b=>.ok (.bl (if neg then !b else b)) S
  | none=>.bad
 | none=>.bad
theorem anyEq_cons {x d:D} {ds:List D} {b:Bool} (h:anyEq x (d :: ds)=some b):∃a c,eqP 8 d x=some a∧anyEq x ds=some c∧b=(a||c):=by
 unfold anyEq at h;split at h
 ·rename_i a c h1 h2
  cases h;exact ⟨a,c,h1,h2,rfl⟩
 ·cases h
open Classical in
theorem anyEq_ok {x:D} {xv:V} {v:Value} (I:Inv X pins σ H s) {A:Around} (hu:A.units+8 < cLine) (rx:RelD X.K ρ H x xv) (qx:RelV xv v):∀ {ds:List D} {vs:List V} {us:List Value} {b:Bool},RelDs X.K ρ H ds vs→Vals vs us→anyEq x ds=some b →
  ∃e:Value→Bool,(∀y∈us,EqAt A s y v (e y))∧b=us.any e:=by
 intro ds vs us b r q h
 let e:Value→Bool:=fun y=>decide (∃d w,d∈ds∧RelD X.K ρ H d w∧RelV w y∧eqP 8 d x=some true)
 have all:∀ {ds':List D} {vs':List V} {us':List Value} {b':Bool},(∀d∈ds',d∈ds)→RelDs X.K ρ H ds' vs'→Vals vs' us'→anyEq x ds'=some b'→(∀y∈us',EqAt A s y v (e y))∧b'=us'.any e:=by
  intro ds'
  induction ds' with
  | nil=>intro vs' us' b' _ r q h;cases r;cases q;cases h;exact ⟨(fun _ z=>nomatch z),rfl⟩
  | cons d ds' ih=>
   intro vs' us' b' hsub r q h
   cases r with
   | cons r1 r2=>
    cases q with
    | @cons w y _ _ q1 q2=>
     obtain ⟨a,c,h1,h2,rfl⟩:=anyEq_cons h;obtain ⟨i1,i2⟩:=ih (fun z hz=>hsub z (List.mem_cons_of_mem _ hz)) r2 q2 h2
     have ha:e y=a:=by
      by_cases hq:∃d w,d∈ds∧RelD X.K ρ H d w∧RelV w y∧eqP 8 d x=some true
      ·obtain ⟨d',w',_,g1,g2,g3⟩:=id hq
       rw [RelV.inj g2 q1] at g1;have:=eqP_fun 8 g1 r1 g3 h1;rw [←this];exact decide_eq_true hq
      ·have:a=false:=by
        cases a with
        | false=>rfl
        | true=>exact (hq ⟨d,_,hsub d List.mem_cons_self,r1,q1,h1⟩).elim
       rw [this];exact decide_eq_false hq
     refine ⟨fun z hz=>?_,by rw [List.any_cons,ha,←i2]⟩
     rcases List.mem_cons.mp hz with rfl | hz
     ·rw [ha]
      exact eqAt_D I 8 A d x a _ _ _ _ hu h1 r1 rx q1 qx
     ·exact i1 z hz
 obtain ⟨e1,e2⟩:=all (fun _ h=>h) r q h;exact ⟨e,e1,e2⟩
theorem od_in (hu:X.A.units+64 < cLine):OpR X (compareOp .In) (rD X.K (inD false)):=by
 intro pins s σ H x y v u Q I rx ry h;obtain ⟨ρ,S,a,b,d,S',hs,ra,rb,hm,k⟩:=h;unfold inD at hm;split at hm
 ·rename_i ds hq
  split at hm
  ·rename_i c hc
   cases hm;obtain ⟨p,xs,rfl,rr,sq⟩:=seqD_ok hs rb hq;cases ry
   rcases sq with sq | sq
   ·obtain ⟨its,rv,pl,_⟩:=I.list sq
    obtain ⟨e,he,rfl⟩:=anyEq_ok I (A:=X.A.in1) (by rw [in1_units];lia) ra rx rr rv hc;exact in_listAt e pl.isList (fun z hz=>he z (by simpa using hz)) ⟨.bl (its.toArray.any e),H,I,rfl,by rw [List.any_toArray];exact k ρ H _ .refl hs (.bl _)⟩
   ·obtain ⟨its,rv,pl,_⟩:=I.tuple sq
    obtain ⟨e,he,rfl⟩:=anyEq_ok I (A:=X.A.in1) (by rw [in1_units];lia) ra rx rr rv hc;exact in_tupleAt e pl (fun z hz=>he z (by simpa using hz)) ⟨.bl (its.toArray.any e),H,I,rfl,by rw [List.any_toArray];exact k ρ H _ .refl hs (.bl _)⟩
  ·cases hm
 ·cases hm
theorem od_notin (hu:X.A.units+64 < cLine):OpR X (compareOp .NotIn) (rD X.K (inD true)):=by
 intro pins s σ H x y v u Q I rx ry h;obtain ⟨ρ,S,a,b,d,S',hs,ra,rb,hm,k⟩:=h;unfold inD at hm;split at hm
 ·rename_i ds hq
  split at hm
  ·rename_i c hc
   cases hm;obtain ⟨p,xs,rfl,rr,sq⟩:=seqD_ok hs rb hq;cases ry
   rcases sq with sq | sq
   ·obtain ⟨its,rv,pl,_⟩:=I.list sq
    obtain ⟨e,he,rfl⟩:=anyEq_ok I (A:=X.A.in1) (by rw [in1_units];lia) ra rx rr rv hc;exact notIn_listAt e pl.isList (fun z hz=>he z (by simpa using hz)) ⟨.bl (!its.toArray.any e),H,I,rfl,by rw [List.any_toArray];exact k ρ H _ .refl hs (.bl _)⟩
   ·obtain ⟨its,rv,pl,_⟩:=I.tuple sq
    obtain ⟨e,he,rfl⟩:=anyEq_ok I (A:=X.A.in1) (by rw [in1_units];lia) ra rx rr rv hc;exact notIn_tupleAt e pl (fun z hz=>he z (by simpa using hz)) ⟨.bl (!its.toArray.any e),H,I,rfl,by rw [List.any_toArray];exact k ρ H _ .refl hs (.bl _)⟩
  ·cases hm
 ·cases hm
end
end L2
namespace L2
open PySem PySem.Spec PyProof.Rows
noncomputable def mApp (mo ma:ME):ME:=fun e S=>(mo e S).bind fun d S1=>match d with
 | .ref n=>match S1[n]? with
  | some (.lst _)=>(ma e S1).bind fun y S2=>match S2[n]? with
   | some (.lst xs)=>if xs.length < sizeLine then .ok .non (S2.set n (.lst (xs++[y]))) else .bad
   | _=>.bad
  | _=>.bad
 | _=>.bad
section
variable {X:Cx} {E:EW} {o e:Expr} {apos cpos:Pos} {mo ma:ME}
theorem ref_lst {K:PySem.W.Frag} {ρ:List Addr} {S:Sto} {H:Hp} {n:Nat} {x:V} {xs:List D} (s:RelS K ρ S H) (r:RelD K ρ H (.ref n) x) (h:S[n]?=some (.lst xs)):∃a vs,x=.ref a∧ρ[n]?=some a∧H a=some (.lst vs)∧RelDs K ρ H xs vs:=by
 cases r with
 | ref hn=>
  obtain ⟨vs,e,rr⟩:=s.ob n _ _ h hn;exact ⟨_,vs,rfl,hn,e,rr⟩
theorem ge_append (ho:GE X E o mo) (ha:GE X E e ma) (hbase:attributeBase o "append" X.env (eval o X.env)=eval o X.env:=by rfl)
  (hfew:((backTo cpos (starEach [e] X.env)).all (fun x=>!x.1)&&(backToKw cpos (keywordEach [] X.env)).all (fun x=>x.1.isSome)
    &&decide ([e].length+([]:List Keyword).length+(if ([]:List Keyword).isEmpty then 0 else 1) < 30))=true:=by rfl)
  (hline:(apos.endLine==cpos.line)=true:=by rfl) (hs:starEach [e] X.env=(false,eval e X.env) :: starEach [] X.env:=by rfl) (hplain:(backTo cpos (starEach [] X.env)).any (·.1)=false:=by rfl) :
  GE X E (.Call (.Attribute o "append" apos) [e] [] cpos) (mApp mo ma):=(pe_bm PySem.F.plainAttrs_list PySem.F.slot_list_append PySem.F.type_list_append mt_append ho (pa_cons ha pa_nil hs) hbase hfew hline hs hplain).imp fun σ H Q ⟨ρ,l,S,hl,hs,hm⟩=>by
 refine ⟨ρ,l,S,hl,hs,hm.seq fun x S1 hm ρ1 H1 v l1 s1 r1=>?_⟩
 cases x <;> first | exact hm.elim | skip
 rename_i n;dsimp only at hm;split at hm
 ·rename_i xs0 h0
  obtain ⟨a,vs,rfl,hn,e0,_⟩:=ref_lst s1 r1 h0;refine ⟨.inl ⟨rfl,vs,.inl (.inl e0)⟩,ρ1,l,S1,hl.mono l1,s1,(hm.later l1).seq fun y S2 hm ρ2 H2 u l2 s2 r2=>?_⟩;split at hm
  ·rename_i xs h3
   split at hm
   ·rename_i hz
    have hn2:=l2.pre n a hn;obtain ⟨ws,e3,rr⟩:=s2.ob n _ _ h3 hn2;have le:Le X.K ρ2 H2 ρ2 (upd H2 a (.lst (ws++[u]))):=Le.write hn2 (by rw [e3];trivial);obtain ⟨s3,l3⟩:=s2.write (ho:=.lst (ws++[u])) (o:=.lst (xs++[y])) hn2 ⟨_,upd_same,(rr.append (.cons r2 .nil)).mono le⟩;exact ⟨a,ws,u,rfl,rfl,e3,by rw [←rr.length];exact hz,hm ρ2 _ _ (l1.trans (l2.trans l3)) s3 .non⟩
   ·exact hm.elim
  ·exact hm.elim
 ·exact hm.elim
end
noncomputable def valG {κ β:Type} [DecidableEq κ] (kvs:List (κ×β)) (k:κ):Option β:=(kvs.find? fun kv=>decide (kv.1=k)).map (·.2)
noncomputable def putG {κ β:Type} [DecidableEq κ] (kvs:List (κ×β)) (k:κ) (v:β):List (κ×β):=
 if (kvs.any fun kv=>decide (kv.1=k))=true then kvs.map (fun kv=>if kv.1=k then (kv.1,v) else kv) else kvs++[(k,v)]
section
variable {κ:Type} [DecidableEq κ] {K:PySem.W.Frag} {ρ:List Addr} {H:Hp}
theorem KVR.val (k:κ):∀ {x:List (κ×D)} {y:List (κ×V)},KVR K ρ H x y→(valG x k=none→valV y k=none)∧∀d,valG x k=some d→∃v,valV y k=some v∧RelD K ρ H d v
 | _,_,.nil=>⟨fun _=>rfl,fun d h=>by cases h⟩
 | (g,a) :: x,(g',b) :: y,.cons r t=>by
  obtain ⟨r1,r2⟩:=r;dsimp only at r1 r2;subst r1;unfold valG valV;rw [List.find?_cons,List.find?_cons]
  by_cases e:g=k
  ·simp only [e,decide_true]
   exact ⟨(fun h=>nomatch h),(fun d h=>by cases h;exact ⟨b,rfl,r2⟩)⟩
  ·simp only [e,decide_false]
   exact KVR.val k t
theorem KVR.any (k:κ):∀ {x:List (κ×D)} {y:List (κ×V)},KVR K ρ H x y→(x.any fun kv=>decide (kv.1=k))=y.any fun kv=>decide (kv.1=k)
 | _,_,.nil=>rfl
 | (g,a) :: x,(g',b) :: y,.cons r t=>by
  rw [List.any_cons,List.any_cons,KVR.any k t,show g=g' from r.1]
theorem KVR.repl (k:κ) {d:D} {v:V} (rd:RelD K ρ H d v):∀ {x:List (κ×D)} {y:List (κ×V)},KVR K ρ H x y→KVR K ρ H (x.map fun kv=>if kv.1=k then (kv.1,d) else kv) (y.map fun kv=>if kv.1=k then (kv.1,v) else kv)
 | _,_,.nil=>.nil
 | (g,a) :: x,(g',b) :: y,.cons r t=>by
  obtain ⟨r1,r2⟩:=r;dsimp only at r1 r2;subst r1;rw [List.map_cons,List.map_cons];refine .cons ?_ (KVR.repl k rd t)
  by_cases e:g=k
  ·rw [if_pos e,if_pos e];exact ⟨rfl,rd⟩
  ·rw [if_neg e,if_neg e];exact ⟨rfl,r2⟩
theorem KVR.put (k:κ) {d:D} {v:V} (rd:RelD K ρ H d v) {x:List (κ×D)} {y:List (κ×V)} (h:KVR K ρ H x y):KVR K ρ H (putG x k d) (putK y k v):=by
 unfold putG putK;rw [KVR.any k h];split
 ·exact KVR.repl k rd h
 ·exact Paired.snoc h ⟨rfl,rd⟩
end
noncomputable def keyD:D→Option Key
 | .int i=>some (.inl i)
 | .str x=>some (.inr x)
 | _=>none
noncomputable def keysD:List D→Option (List Key)
 | []=>some []
 | d :: ds=>match keyD d,keysD ds with
  | some k,some ks=>some (k :: ks)
  | _,_=>none
theorem keyD_ok {K:PySem.W.Frag} {ρ:List Addr} {H:Hp} {d:D} {v:V} {k:Key} (r:RelD K ρ H d v) (h:keyD d=some k):v=kV k:=by
 cases r <;> first | (cases h;done) | (cases h;rfl)
theorem keysD_ok {K:PySem.W.Frag} {ρ:List Addr} {H:Hp}:∀ {ds:List D} {vs:List V} {ks:List Key},RelDs K ρ H ds vs→keysD ds=some ks→vs=ks.map kV
 | _,_,_,.nil,h=>by cases h;rfl
 | _,_,_,.cons r t,h=>by
  unfold keysD at h;split at h
  ·rename_i k ks h1 h2
   cases h;rw [keyD_ok r h1,keysD_ok t h2];rfl
  ·cases h
noncomputable def dGet (x y:D) (S:Sto):Option (Option D):=match x with
 | .ref n=>match S[n]? with
  | some (.dK kvs)=>match keyD y with
   | some k=>some (valG kvs k)
   | none=>none
  | some (.dT kvs)=>match y with
   | .tup ds=>match keysD ds with
    | some ks=>some (valG kvs ks)
    | none=>none
   | _=>none
  | _=>none
 | _=>none
theorem dGet_ok {K:PySem.W.Frag} {ρ:List Addr} {S:Sto} {H:Hp} {x y:D} {xv yv:V} {o:Option D} (s:RelS K ρ S H) (rx:RelD K ρ H x xv) (ry:RelD K ρ H y yv) (h:dGet x y S=some o) :
  ∃a o',xv=.ref a∧DGet H a yv o'∧(o=none→o'=none)∧∀d,o=some d→∃v,o'=some v∧RelD K ρ H d v:=by
 unfold dGet at h;split at h
 ·rename_i n
  cases rx with
  | @ref _ a hn=>
   split at h
   ·rename_i kvs h1
    split at h
    ·rename_i k hk
     cases h;obtain ⟨kvs',e,r⟩:=s.ob n _ _ h1 hn;rw [keyD_ok ry hk];obtain ⟨v1,v2⟩:=KVR.val k r;exact ⟨a,valV kvs' k,rfl,DGet.k e,v1,v2⟩
    ·cases h
   ·rename_i kvs h1
    split at h
    ·rename_i ds
     split at h
     ·rename_i ks hk
      cases h;obtain ⟨kvs',e,r⟩:=s.ob n _ _ h1 hn
      cases ry with
      | tup b1 b2=>
       obtain ⟨v1,v2⟩:=KVR.val ks r;rw [keysD_ok b2 hk] at b1;exact ⟨a,valV kvs' ks,rfl,DGet.t e b1,v1,v2⟩
     ·cases h
    ·cases h
   ·cases h
 ·cases h
noncomputable def dgetD (x y:D) (S:Sto):Res D:=match dGet x y S with
 | some (some d)=>.ok d S
 | _=>.bad
noncomputable def dinD (neg:Bool) (y x:D) (S:Sto):Res D:=match dGet x y S with
 | some o=>.ok (.bl (if neg then !o.isSome else o.isSome)) S
 | none=>.bad
section
variable {X:Cx} {E:EW} {o i value:Expr} {pos pos':Pos} {mo mi mv:ME}
theorem ge_dget (hu:X.A.units+1 < cLine) (ho:GE X E o mo) (hi:GE X E i mi) (hs:NoSl i:=by intro _ _;rfl):GE X E (.Subscript o i pos) (m2 dgetD mo mi):=(pe_dget hu ho hi hs).imp fun σ H Q h=>by
 refine (tOp_of h:tOp (rD X.K dgetD) (gE X.K E mo) (gE X.K E mi) σ H Q) |> fun t=>?_
 obtain ⟨ρ,l,S,hl,hs,k⟩:=t;refine ⟨ρ,l,S,hl,hs,k.imp fun x S1 k ρ1 H1 u l1 s1 r1=>?_⟩;obtain ⟨ρ2,l2,S2,hl2,hs2,k2⟩:=k ρ1 H1 u l1 s1 r1;refine ⟨ρ2,l2,S2,hl2,hs2,k2.imp fun y S3 k2 ρ3 H3 v l3 s3 r3=>?_⟩;obtain ⟨ρ4,S4,x4,y4,d,S5,s4,r4,r5,hm,k4⟩:=k2 ρ3 H3 v l3 s3 r3;unfold dgetD at hm;split at hm
 ·rename_i d' hd
  cases hm;obtain ⟨a,o',rfl,g,_,g2⟩:=dGet_ok s4 r4 r5 hd;obtain ⟨w',rfl,rw'⟩:=g2 _ rfl;exact ⟨a,w',rfl,g,k4 ρ4 H3 w' .refl s4 rw'⟩
 ·cases hm
theorem tDIn_of {σ:St} {H:Hp} {Q:VK} (h:gE X.K E (m2 (dinD false) mi mo) σ H Q):tDIn (gE X.K E mi) (gE X.K E mo) σ H Q:=by
 obtain ⟨ρ,l,S,hl,hs,k⟩:=(tOp_of h:tOp (rD X.K (dinD false)) (gE X.K E mi) (gE X.K E mo) σ H Q);refine ⟨ρ,l,S,hl,hs,k.imp fun x S1 k ρ1 H1 u l1 s1 r1=>?_⟩;obtain ⟨ρ2,l2,S2,hl2,hs2,k2⟩:=k ρ1 H1 u l1 s1 r1;refine ⟨ρ2,l2,S2,hl2,hs2,k2.imp fun y S3 k2 ρ3 H3 v l3 s3 r3=>?_⟩;obtain ⟨ρ4,S4,x4,y4,d,S5,s4,r4,r5,hm,k4⟩:=k2 ρ3 H3 v l3 s3 r3;unfold dinD at hm;split at hm
 ·rename_i o' hd
  cases hm;obtain ⟨a,o2,rfl,g,g1,g2⟩:=dGet_ok s4 r5 r4 hd;refine ⟨a,o2,rfl,g,?_⟩
  have:o2.isSome=o'.isSome:=by
   cases o' with
   | none=>rw [g1 rfl];rfl
   | some d=>obtain ⟨w',rfl,_⟩:=g2 d rfl;rfl
  rw [this];exact k4 ρ4 H3 _ .refl s4 (.bl _)
 ·cases hm
theorem tDNotIn_of {σ:St} {H:Hp} {Q:VK} (h:gE X.K E (m2 (dinD true) mi mo) σ H Q):tDNotIn (gE X.K E mi) (gE X.K E mo) σ H Q:=by
 obtain ⟨ρ,l,S,hl,hs,k⟩:=(tOp_of h:tOp (rD X.K (dinD true)) (gE X.K E mi) (gE X.K E mo) σ H Q);refine ⟨ρ,l,S,hl,hs,k.imp fun x S1 k ρ1 H1 u l1 s1 r1=>?_⟩;obtain ⟨ρ2,l2,S2,hl2,hs2,k2⟩:=k ρ1 H1 u l1 s1 r1;refine ⟨ρ2,l2,S2,hl2,hs2,k2.imp fun y S3 k2 ρ3 H3 v l3 s3 r3=>?_⟩;obtain ⟨ρ4,S4,x4,y4,d,S5,s4,r4,r5,hm,k4⟩:=k2 ρ3 H3 v l3 s3 r3;unfold dinD at hm;split at hm
 ·rename_i o' hd
  cases hm;obtain ⟨a,o2,rfl,g,g1,g2⟩:=dGet_ok s4 r5 r4 hd;refine ⟨a,o2,rfl,g,?_⟩
  have:o2.isSome=o'.isSome:=by
   cases o' with
   | none=>rw [g1 rfl];rfl
   | some d=>obtain ⟨w',rfl,_⟩:=g2 d rfl;rfl
  rw [this];exact k4 ρ4 H3 _ .refl s4 (.bl _)
 ·cases hm
theorem ge_din (hu:X.A.units+1 < cLine) (hi:GE X E i mi) (ho:GE X E o mo) (h1:behindInMarks .In o=false:=by rfl):GE X E (.Compare i [.In] [o] pos) (m2 (dinD false) mi mo):=(pe_cmp (pc_din hu hi ho) h1).imp fun _ _ _ h=>tDIn_of h
theorem ge_dnotin (hu:X.A.units+1 < cLine) (hi:GE X E i mi) (ho:GE X E o mo) (h1:behindInMarks .NotIn o=false:=by rfl):GE X E (.Compare i [.NotIn] [o] pos) (m2 (dinD true) mi mo):=(pe_cmp (pc_dnotin hu hi ho) h1).imp fun _ _ _ h=>tDNotIn_of h
theorem mB_of {K:PySem.W.Frag} {m:ME} {σ:St} {H:Hp} {Q:Bool→Hp→Prop} (h:gT K E (mB m) σ H Q):gE K E m σ H fun x H1=>∃c,x=.bl c∧Q c H1:=by
 obtain ⟨ρ,l,S,hl,hs,hm⟩:=h;refine ⟨ρ,l,S,hl,hs,hm.seq fun d S1 hm ρ1 H1 x l1 s1 r1=>?_⟩
 cases d <;> first | exact hm.elim | skip
 cases r1;exact ⟨_,rfl,hm ρ1 H1 l1 s1⟩
theorem gt_din (hu:X.A.units+1 < cLine) (hi:GE X E i mi) (ho:GE X E o mo) (h1:behindInMarks .In o=false:=by rfl):GT X E (.Compare i [.In] [o] pos) (mB (m2 (dinD false) mi mo)):=(pt_cmp (pc_din hu hi ho) h1).imp fun _ _ _ h=>tDIn_of (mB_of h)
theorem gt_dnotin (hu:X.A.units+1 < cLine) (hi:GE X E i mi) (ho:GE X E o mo) (h1:behindInMarks .NotIn o=false:=by rfl):GT X E (.Compare i [.NotIn] [o] pos) (mB (m2 (dinD true) mi mo)):=(pt_cmp (pc_dnotin hu hi ho) h1).imp fun _ _ _ h=>tDNotIn_of (mB_of h)
noncomputable def mDNewT:ME:=fun _ S=>.ok (.ref S.length) (S++[.dT []])
theorem ge_dnewT:GE X E (.Dict [] [] pos) mDNewT:=(pe_dnewT (X:=X) (pos:=pos)).imp fun σ H Q ⟨ρ,l,S,hl,hs,k⟩ p hp=>by
 obtain ⟨s2,l2,at2⟩:=hs.alloc (ho:=.dT []) (o:=.dT []) hp ⟨[],upd_same,.nil⟩;exact k _ _ _ l2 s2 (.ref at2)
noncomputable def dPut (x y v:D) (S:Sto):Option Sto:=match x with
 | .ref n=>match S[n]? with
  | some (.dK kvs)=>match keyD y with
   | some k=>if kvs.length < sizeLine then some (S.set n (.dK (putG kvs k v))) else none
   | none=>none
  | some (.dT kvs)=>match y with
   | .tup ds=>match keysD ds with
    | some ks=>if kvs.length < sizeLine then some (S.set n (.dT (putG kvs ks v))) else none
    | none=>none
   | _=>none
  | _=>none
 | _=>none
noncomputable def sDPutM (mo mi mv:ME):MS:=fun e S=>(mv e S).lift e fun v S1=>(mo e S1).lift e fun x S2=>(mi e S2).lift e fun y S3=>match dPut x y v S3 with
 | some S4=>.ok (.nx e) S4
 | none=>.bad
theorem gs_dput (hu:X.A.units+1 < cLine) (ho:GE X E o mo) (hi:GE X E i mi) (hv:GE X E value mv) (hs:swapsWith value (some (.Subscript o i pos')) pos.line X.env=pure false:=by rfl):GS X E (.Assign [.Subscript o i pos'] value pos) (sDPutM mo mi mv):=(ps_dput hu ho hi hv hs).imp fun D σ H ⟨ρ,l,S,hl,hs,hm⟩=>by
 refine ⟨ρ,l,S,hl,hs,hm.lift hl .refl fun v S1 hm ρ1 H1 vv l1 s1 r1=>⟨ρ1,l,S1,hl.mono l1,s1,(hm.later l1).lift (hl.mono l1) l1 fun x S2 hm ρ2 H2 xv l2 s2 r2=>⟨ρ2,l,S2,hl.mono (l1.trans l2),s2,(hm.later l2).lift (hl.mono (l1.trans l2)) (l1.trans l2) fun y S3 hm ρ3 H3 yv l3 s3 r3=>?_⟩⟩⟩;have r1':=r1.mono (l2.trans l3);have r2':=r2.mono l3;have hl3:=hl.mono (l1.trans (l2.trans l3));split at hm
 ·rename_i S4 hp
  unfold dPut at hp;split at hp
  ·rename_i n
   cases r2' with
   | @ref _ a hn=>
    split at hp
    ·rename_i kvs h4
     split at hp
     ·rename_i ky hk
      split at hp
      ·rename_i hz
       cases hp;obtain ⟨kvs',e,r⟩:=s3.ob n _ _ h4 hn;rw [keyD_ok r3 hk];have le:Le X.K ρ3 H3 ρ3 (upd H3 a (.dK (putK kvs' ky vv))):=Le.write hn (by rw [e];trivial);obtain ⟨s5,l5⟩:=s3.write (ho:=.dK (putK kvs' ky vv)) (o:=.dK (putG kvs ky v)) hn ⟨_,upd_same,(KVR.put ky r1' r).mono le⟩;exact ⟨a,_,rfl,DPut.k e (by rw [←KVR.length r];exact hz),hm ρ3 _ σ (l1.trans (l2.trans (l3.trans l5))) s5 (hl3.mono l5)⟩
      ·cases hp
     ·cases hp
    ·rename_i kvs h4
     split at hp
     ·rename_i ds
      split at hp
      ·rename_i ks hk
       split at hp
       ·rename_i hz
        cases hp;obtain ⟨kvs',e,r⟩:=s3.ob n _ _ h4 hn
        cases r3 with
        | tup b1 b2=>
         rw [keysD_ok b2 hk] at b1;have le:Le X.K ρ3 H3 ρ3 (upd H3 a (.dT (putK kvs' ks vv))):=Le.write hn (by rw [e];trivial);obtain ⟨s5,l5⟩:=s3.write (ho:=.dT (putK kvs' ks vv)) (o:=.dT (putG kvs ks v)) hn ⟨_,upd_same,(KVR.put ks r1' r).mono le⟩;exact ⟨a,_,rfl,DPut.t e b1 (by rw [←KVR.length r];exact hz),hm ρ3 _ σ (l1.trans (l2.trans (l3.trans l5))) s5 (hl3.mono l5)⟩
       ·cases hp
      ·cases hp
     ·cases hp
    ·cases hp
  ·cases hp
 ·exact hm.elim
end
end L2
namespace L2
open PySem PySem.Spec PyProof.Rows
section
variable {X:Cx} {E:EW} {a b c:Expr} {pos:Pos} {ma mb mc:ME}
theorem tChain_of {K:PySem.W.Frag} {f g:D→D→Sto→Res D} {σ:St} {H:Hp} {Q:VK} (h:gE K E (m3 f g ma mb mc) σ H Q):tChain (rD K f) (rD K g) (gE K E ma) (gE K E mb) (gE K E mc) σ H Q:=by
 obtain ⟨ρ,l,S,hl,hs,hm⟩:=h;refine ⟨ρ,l,S,hl,hs,hm.seq fun x S1 hm ρ1 H1 u l1 s1 r1=>⟨ρ1,l,S1,hl.mono l1,s1,(hm.later l1).seq fun y S2 hm ρ2 H2 v l2 s2 r2=>?_⟩⟩
 cases hf:f x y S2 with
 | bad=>rw [hf] at hm;exact hm.elim
 | err _ _=>rw [hf] at hm;exact hm.elim
 | ok z S3=>
  rw [hf] at hm;dsimp only [okR,Res.bind] at hm;refine ⟨ρ2,S2,x,y,z,S3,s2,r1.mono l2,r2,hf,fun ρ3 H3 w l3 s3 r3=>?_⟩
  cases z with
  | bl k=>
   cases r3;refine ⟨k,rfl,?_⟩
   cases k with
   | true=>
    rw [if_pos rfl];refine ⟨ρ3,l,S3,hl.mono (l1.trans (l2.trans l3)),s3,After.seq (hm.later (l2.trans l3)) fun w S4 hm ρ4 H4 wv l4 s4 r4=>?_⟩;obtain ⟨d,S',e,k⟩:=hm.okR;exact ⟨ρ4,S4,y,w,d,S',s4,r2.mono (l3.trans l4),r4,e,fun ρ' H' z l' s' r'=>k ρ' H' z (l1.trans (l2.trans (l3.trans (l4.trans l')))) s' r'⟩
   | false=>rw [if_neg Bool.false_ne_true];exact hm ρ3 H3 _ (l1.trans (l2.trans l3)) s3 (.bl false)
  | _=>exact hm.elim
theorem gt_chain {op op':CmpOp} {f g:D→D→Sto→Res D} (ho:OpR X (compareOp op) (rD X.K f)) (ho':OpR X (compareOp op') (rD X.K g)) (ha:GE X E a ma) (hb:GE X E b mb) (hc:GE X E c mc)
  (hm:lastMarks [op,op'] [b,c]=false:=by with_unfolding_all rfl):GT X E (.Compare a [op,op'] [b,c] pos) (mB (m3 f g ma mb mc)):=(pt_chain ho ho' ha hb hc hm).imp fun _ _ _ h=>tChain_of (mB_of h)
noncomputable def mNeg (m:ME):ME:=fun e S=>(m e S).bind fun d S1=>match d with
 | .int i=>.ok (.int (-i)) S1
 | _=>.bad
theorem ge_neg (h:GE X E a ma):GE X E (.UnaryOp .USub a pos) (mNeg ma):=(pe_un un_neg h).imp fun σ H Q ⟨ρ,l,S,hl,hs,hm⟩=>by
 refine ⟨ρ,l,S,hl,hs,hm.seq fun d S1 hm ρ1 H1 x l1 s1 r1=>?_⟩
 cases d <;> first | exact hm.elim | skip
 cases r1;exact ⟨_,rfl,hm ρ1 H1 _ l1 s1 (.int _)⟩
end
noncomputable abbrev MO:=Lo→Sto→Res (Option Int)
noncomputable def gO (K:PySem.W.Frag) (E:EW) (m:MO):TO:=fun σ H Q=>∃ρ e S,RelL K ρ H e σ∧RelS K ρ S H∧After K (fun c=>E c σ) ρ H (m e S) fun o S'=>∀ρ' H',Le K ρ H ρ' H'→RelS K ρ' S' H'→Q o H'
noncomputable abbrev GO (X:Cx) (E:EW) (e:Option Expr) (m:MO):Prop:=PO X e (gO X.K E m)
noncomputable def oNone:MO:=fun _ S=>.ok none S
noncomputable def oSome (m:ME):MO:=fun e S=>(m e S).bind fun d S1=>match d with
 | .int i=>.ok (some i) S1
 | _=>.bad
noncomputable def cutG {α:Type} (xs:List α) (lo hi:Option Int):List α:=(xs.drop (HT.sIx xs.length 0 lo)).take (HT.sIx xs.length xs.length hi - HT.sIx xs.length 0 lo)
noncomputable def wholeG (n:Nat) (lo hi:Option Int):Bool:=decide (HT.sIx n 0 lo=0∧HT.sIx n n hi=n)
noncomputable def sliceD (d:D) (lo hi:Option Int) (S:Sto):Res D:=match d with
 | .tup ds=>if wholeG ds.length lo hi=true then .bad else .ok (.tup (cutG ds lo hi)) S
 | _=>match lstD d S with
  | some ds=>.ok (.ref S.length) (S++[.lst (cutG ds lo hi)])
  | none=>.bad
noncomputable def mSlice (m:ME) (ml mh:MO):ME:=fun e S=>(m e S).bind fun d S1=>(ml e S1).bind fun lo S2=>(mh e S2).bind fun hi S3=>okR (sliceD d lo hi S3)
section
variable {X:Cx} {E:EW} {e:Expr} {lo hi:Option Expr} {pos p2:Pos} {m:ME} {ml mh:MO}
theorem PO.imp {o:Option Expr} {t t':TO} (h:PO X o t) (i:∀σ H Q,t' σ H Q→t σ H Q):PO X o t':=fun pins s σ H Q I q=>h pins s σ H Q I (i σ H Q q)
theorem go_none:GO X E none oNone:=PO.imp po_none fun σ H Q ⟨ρ,l,S,hl,hs,hm⟩=>hm ρ H .refl hs
theorem go_some (h:GE X E e m):GO X E (some e) (oSome m):=PO.imp (po_some h) fun σ H Q ⟨ρ,l,S,hl,hs,hm⟩=>by
 refine ⟨ρ,l,S,hl,hs,hm.seq fun d S1 hm ρ1 H1 x l1 s1 r1=>?_⟩
 cases d <;> first | exact hm.elim | skip
 cases r1;exact ⟨_,rfl,hm ρ1 H1 l1 s1⟩
theorem cutG_rel {K:PySem.W.Frag} {ρ:List Addr} {H:Hp} {ds:List D} {vs:List V} (r:RelDs K ρ H ds vs) (lo hi:Option Int):RelDs K ρ H (cutG ds lo hi) (cutV vs lo hi):=by
 unfold cutG cutV;rw [r.length];exact (r.drop _).take _
theorem ge_slice (he:GE X E e m) (hl:GO X E lo ml) (hu:GO X E hi mh):GE X E (.Subscript e (.Slice lo hi none p2) pos) (mSlice m ml mh):=(pe_slice (sl_list.or sl_tup) he hl hu).imp fun σ H Q ⟨ρ,l,S,hl,hs,hm⟩=>by
 refine ⟨ρ,l,S,hl,hs,hm.seq fun d S1 hm ρ1 H1 x l1 s1 r1=>⟨ρ1,l,S1,hl.mono l1,s1,(hm.later l1).seq fun lo S2 hm ρ2 H2 l2 s2=>⟨ρ2,l,S2,hl.mono (l1.trans l2),s2,(hm.later l2).seq fun hi S3 hm ρ3 H3 l3 s3=>?_⟩⟩⟩;obtain ⟨d',S',e,k⟩:=hm.okR;have r3:=r1.mono (l2.trans l3)
 have lst:∀ds,lstD d S3=some ds→Res.ok (.ref S3.length) (S3++[.lst (cutG ds lo hi)])=Res.ok d' S'→rSlL X.K x lo hi H3 Q:=fun ds hq e=>by
  cases e;obtain ⟨p,xs,rfl,rr,sq⟩:=lstD_ok s3 r3 hq;refine ⟨p,xs,rfl,sq,fun q hq=>?_⟩;have le:Le X.K ρ3 H3 (ρ3++[q]) (upd H3 q (.lst (cutV xs lo hi))):=Le.alloc hq;obtain ⟨s4,l4,at4⟩:=s3.alloc (ho:=.lst (cutV xs lo hi)) (o:=.lst (cutG ds lo hi)) hq ⟨_,upd_same,(cutG_rel rr lo hi).mono le⟩;exact k _ _ _ (l1.trans (l2.trans (l3.trans l4))) s4 (.ref at4)
 cases d with
 | tup ds=>
  unfold sliceD at e;dsimp only at e;split at e
  ·cases e
  ·rename_i hw
   cases e
   cases r3 with
   | @tup _ a vs h1 h2=>
    refine .inr ⟨a,vs,rfl,.inl (.inl h1),fun z=>hw ?_,fun q hq=>?_⟩
    ·unfold wholeG
     rw [h2.length];exact decide_eq_true z
    ·obtain ⟨s4,l4⟩:=upd_tup (ho:=.tup (cutV vs lo hi)) s3 hq
     exact k _ _ _ (l1.trans (l2.trans (l3.trans l4))) s4 (.tup upd_same ((cutG_rel h2 lo hi).mono l4))
 | non=>cases e
 | bl _=>cases e
 | int _=>cases e
 | str _=>cases e
 | exc _=>cases e
 | fro ds=>exact .inl (lst ds rfl e)
 | ref n=>
  unfold sliceD at e;dsimp only at e;split at e
  ·rename_i ds hq
   exact .inl (lst ds hq e)
  ·cases e
end
section
variable {X:Cx} {E:EW} {e:Expr} {p pos:Pos} {m:ME} {ml:ML}
noncomputable def mTuple (m:ME):ME:=fun e S=>(m e S).bind fun d S1=>match seqD d S1 with
 | some ds=>.ok (.tup ds) S1
 | none=>.bad
theorem ge_tuple (hg:Gl X "tuple") (hm:X.mg "tuple" = none) (h:GE X E e m) (he:starEach [e] X.env=(false,eval e X.env) :: starEach [] X.env:=by rfl):GE X E (.Call (.Name "tuple" p) [e] [] pos) (mTuple m):=
 (pe_callTy call_tuple_of hg hm PyProof.Rows.boot_tuple (pa_cons h pa_nil he) (by decide) (by decide) he rfl).imp fun σ H Q ⟨ρ,l,S,hl,hs,hm⟩=>by
 refine ⟨ρ,l,S,hl,hs,hm.seq fun d S1 hm ρ1 H1 x l1 s1 r1=>?_⟩
 cases hq:seqD d S1 with
 | none=>rw [hq] at hm;exact hm.elim
 | some ds=>
  rw [hq] at hm
  have newL:∀a vs,x=.ref a→SqL X.K H1 a vs→RelDs X.K ρ1 H1 ds vs→∃p ys,[x]=[.ref p]∧((SqL X.K H1 p ys∧∀l,H1 l=none→Q (.ref l) (upd H1 l (.tup ys)))∨(SqT X.K H1 p ys∧Q (.ref p) H1)):=fun a vs e sq rr=>by
   subst e;refine ⟨a,vs,rfl,.inl ⟨sq,fun q hq=>?_⟩⟩;obtain ⟨s2,l2⟩:=upd_tup (ho:=.tup vs) s1 hq;exact hm _ _ _ (l1.trans l2) s2 (.tup upd_same (rr.mono l2))
  cases r1 with
  | @tup _ a vs h1 h2=>cases hq;exact ⟨a,vs,rfl,.inr ⟨.inl (.inl h1),hm ρ1 H1 _ l1 s1 (.tup h1 h2)⟩⟩
  | @fro _ a vs h1 h2=>cases hq;exact newL a vs rfl h1.sq h2
  | @ref n a hn=>
   obtain ⟨o,ho,ro⟩:=s1.there hn;unfold seqD at hq;simp only [ho] at hq
   cases o with
   | lst es=>cases hq;obtain ⟨vs,e,rr⟩:=ro;exact newL a vs rfl (.inl (.inl e)) rr
   | _=>cases hq
  | _=>cases hq
variable {o:Expr} {apos cpos:Pos} {mo ma:ME}
noncomputable def atL (d:D) (S:Sto):Option (Nat×List D):=match d with
 | .ref n=>match S[n]? with
  | some (.lst xs)=>some (n,xs)
  | _=>none
 | _=>none
theorem atL_ok {K:PySem.W.Frag} {ρ:List Addr} {S:Sto} {H:Hp} {d:D} {x:V} {n:Nat} {xs:List D} (s:RelS K ρ S H) (r:RelD K ρ H d x) (h:atL d S=some (n,xs)):d=.ref n∧S[n]?=some (.lst xs)∧∃a vs,x=.ref a∧ρ[n]?=some a∧H a=some (.lst vs)∧RelDs K ρ H xs vs:=by
 unfold atL at h;split at h
 ·split at h
  ·rename_i ds hd
   cases h;exact ⟨rfl,hd,ref_lst s r hd⟩
  ·cases h
 ·cases h
theorem put_lst {K:PySem.W.Frag} {ρ:List Addr} {S:Sto} {H:Hp} {n:Nat} {a:Addr} {vs ws:List V} {ys:List D} (s:RelS K ρ S H) (hn:ρ[n]?=some a) (e:H a=some (.lst vs)) (r:RelDs K ρ H ys ws) :
  RelS K ρ (S.set n (.lst ys)) (upd H a (.lst ws))∧Le K ρ H ρ (upd H a (.lst ws)):=by
 have le:Le K ρ H ρ (upd H a (.lst ws)):=Le.write hn (by rw [e];trivial);exact s.write (ho:=.lst ws) (o:=.lst ys) hn ⟨_,upd_same,r.mono le⟩
end
end L2
namespace L2
open PySem PySem.Spec PyProof.Rows
section
variable {X:Cx} {E:EW}
theorem range_getD {α:Type} (d:α) (bs:List α):(List.range bs.length).map (fun i=>bs.getD i d)=bs:=by
 apply List.ext_getElem?
 intro i;rw [List.getElem?_map]
 by_cases h:i < bs.length
 ·rw [List.getElem?_range h]
  simp [List.getD,h]
 ·rw [List.getElem?_eq_none_iff.mpr (by simpa using h),List.getElem?_eq_none_iff.mpr (by simpa using h)]
  rfl
theorem vals_bl {bs:List Bool} {its:List Value} (r:Vals (bs.map V.bl) its) {i:Nat} {v:Value} (h:its.toArray[i]?=some v):v=.bool (bs.getD i false):=by
 have h':its[i]?=some v:=by simpa using h
 obtain ⟨hi,e⟩:=List.getElem?_eq_some_iff.mp h'
 have hb:i < bs.length:=by have:=r.length;simp at this;lia
 obtain ⟨u,hu,ru⟩:=r.get (show (bs.map V.bl)[i]?=some (V.bl bs[i]) by simp [hb]);rw [h'] at hu;cases hu;rw [show v=Value.bool bs[i] from ru];simp [List.getD,hb]
noncomputable def rBools (K:PySem.W.Frag) (f:List Bool→Bool):List V→Hp→VK→Prop:=fun xs H Q=>∃p bs,xs=[.ref p]∧(SqL K H p (bs.map V.bl)∨SqT K H p (bs.map V.bl))∧Q (.bl (f bs)) H
theorem bools_walk {pins:List (Addr×Obj)} {s:Shared} {σ:St} {H:Hp} {p:Addr} {bs:List Bool} {R:Value→Shared→Prop} {E:Value→Shared→Prop} (hc:X.calm=true) (I:Inv X pins σ H s) (hq:SqL X.K H p (bs.map V.bl)∨SqT X.K H p (bs.map V.bl))
  (h:∀itv s2,(∃I fp wr n P St tr,itv=Value.ref I∧Walks X.prog X.w X.A.in1 I fp wr n P St∧St 0 s2.heap∧TruthOf X.prog X.w X.A.in1 P tr∧(List.range n).map tr=bs ∧
   ∀(h':Heap) (tk:Nat),(∀b o,¬b∈wr→s2.heap.get? b=some o→h'.get? b=some o)→Inv X pins σ H { s2 with heap:=h',toks:=tk })→R itv s2) :
  wpAny (model X.prog X.w) X.A.in1 (pyIter (.ref p)) R E s:=by
 have hh:X.A.in1.handled=none:=I.ok.hd hc
 have fin:∀(its:List Value),Vals (bs.map V.bl) its→(List.range its.toArray.size).map (fun i=>bs.getD i false)=bs:=fun its r=>by
  have:its.toArray.size=bs.length:=by have:=r.length;simp at this;simpa using this.symm
  rw [this,range_getD]
 have tru:∀(its:List Value),Vals (bs.map V.bl) its→TruthOf X.prog X.w X.A.in1 (fun i v=>its.toArray[i]?=some v) (fun i=>bs.getD i false):=fun its r i v s Q E hv q=>by
  rw [vals_bl r hv];exact wpAny_truthy_bool q
 have kp:∀(ob:Obj) (h':Heap) (tk:Nat),(∀b o,¬b∈[s.heap.objs.size]→(s.heap.push ob).get? b=some o→h'.get? b=some o)→Inv X pins σ H { s with heap:=h',toks:=tk }:=fun ob h' tk k=>
  I.kept fun b o e=>k b o (by simpa using Nat.ne_of_lt (Heap.lt_size e)) (Heap.get?_push_of_some _ e)
 rcases hq with hq | hq
 ·obtain ⟨its,r',pl,hz⟩:=I.list hq
  refine wpAny_pyIter_list pl.isList (h _ _ ⟨s.heap.objs.size,_,_,_,_,_,_,rfl,Walks.list hh _ p (Nat.ne_of_lt (Heap.lt_size pl.isList.choose_spec.1)) its.toArray,⟨⟨_,Heap.get?_push_size _ rfl,rfl,rfl⟩,?_⟩,tru its r',fin its r',kp _⟩)
  exact pl.isList.at fun o e=>Heap.get?_push_of_some _ e
 ·obtain ⟨its,r',pl,hz⟩:=I.tuple hq
  have pt:s.heap.IsTuple p its.toArray:=pl;refine wpAny_pyIter_tuple pt (h _ _ ⟨s.heap.objs.size,_,_,_,_,_,_,rfl,Walks.tuple hh _ p (Nat.ne_of_lt pl.lt) its.toArray,⟨⟨_,Heap.get?_push_size _ rfl,rfl,rfl⟩,?_⟩,tru its r',fin its r',kp _⟩);obtain ⟨o,e,c⟩:=pt;exact ⟨o,Heap.get?_push_of_some _ e,c⟩
theorem call_allB (hc:X.calm=true):CallR X (.builtin "all") (rBools X.K fun bs=>bs.all id):=by
 intro pins s σ H xs us Q I r h;obtain ⟨p,bs,rfl,hq,q⟩:=h;obtain ⟨u,rfl,rx⟩:=vals1 r;cases rx;refine call_all_walk (bools_walk hc I hq fun itv s2 ⟨J,fp,wr,n,P,St,tr,e,W,st,tru,eb,kp⟩=>⟨J,fp,wr,n,P,St,tr,e,W,st,tru,fun h' tk k=>⟨.bl _,H,kp h' tk k,rfl,?_⟩⟩);rw [←eb] at q;dsimp only at q;rw [List.all_map] at q;exact q
noncomputable def blsD:List D→Option (List Bool)
 | []=>some []
 | .bl b :: ds=>(blsD ds).map (b :: ·)
 | _ :: _=>none
theorem blsD_ok {K:PySem.W.Frag} {ρ:List Addr} {H:Hp}:∀ {ds:List D} {vs:List V} {bs:List Bool},RelDs K ρ H ds vs→blsD ds=some bs→vs=bs.map V.bl
 | _,_,_,.nil,h=>by cases h;rfl
 | .bl b :: ds,_,bs,.cons r t,h=>by
  unfold blsD at h
  cases hq:blsD ds with
  | none=>rw [hq] at h;cases h
  | some cs=>rw [hq] at h;cases h;cases r;rw [blsD_ok t hq];rfl
 | .non :: _,_,_,.cons r t,h=>by cases h
 | .int _ :: _,_,_,.cons r t,h=>by cases h
 | .str _ :: _,_,_,.cons r t,h=>by cases h
 | .tup _ :: _,_,_,.cons r t,h=>by cases h
 | .fro _ :: _,_,_,.cons r t,h=>by cases h
 | .ref _ :: _,_,_,.cons r t,h=>by cases h
 | .exc _ :: _,_,_,.cons r t,h=>by cases h
noncomputable def blsF (f:List Bool→Bool) (ds:List D) (S:Sto):Res D:=match blsD ds with
 | some bs=>.ok (.bl (f bs)) S
 | none=>.bad
theorem sf_bools {f:List Bool→Bool}:SeqF X.K (rBools X.K f) (blsF f):=fun ρ H S ds q xs d S' Q hs rr sq hm k=>by
 unfold blsF at hm;split at hm
 ·rename_i bs hb
  cases hm;rw [blsD_ok rr hb] at sq;exact ⟨q,bs,rfl,sq,k ρ H _ .refl hs (.bl _)⟩
 ·cases hm
noncomputable abbrev allF:=blsF fun bs=>bs.all id
noncomputable def intsD:List D→Option (List Int)
 | []=>some []
 | .int b :: ds=>(intsD ds).map (b :: ·)
 | _ :: _=>none
theorem intsD_eq:∀ {ds:List D} {ns:List Int},intsD ds=some ns→ds=ns.map D.int
 | [],_,h=>by cases h;rfl
 | .int b :: ds,ns,h=>by
  unfold intsD at h
  cases hq:intsD ds with
  | none=>rw [hq] at h;cases h
  | some cs=>rw [hq] at h;cases h;rw [intsD_eq hq];rfl
 | .non :: _,_,h=>by cases h
 | .bl _ :: _,_,h=>by cases h
 | .str _ :: _,_,h=>by cases h
 | .tup _ :: _,_,h=>by cases h
 | .fro _ :: _,_,h=>by cases h
 | .ref _ :: _,_,h=>by cases h
 | .exc _ :: _,_,h=>by cases h
variable {e:Expr} {m:ME} {ml:ML} {p pos:Pos}
noncomputable def tyD (d:D) (S:Sto):Option String:=match d with
 | .non=>some "NoneType"
 | .bl _=>some "bool"
 | .int _=>some "int"
 | .str _=>some "str"
 | .tup _=>some "tuple"
 | .ref n=>match S[n]? with
  | some (.lst _)=>some "list"
  | some (.dK _)=>some "dict"
  | some (.dT _)=>some "dict"
  | _=>none
 | .fro _=>none
 | .exc _=>none
theorem tyD_ok {K:PySem.W.Frag} {ρ:List Addr} {S:Sto} {H:Hp} {d:D} {x:V} {T:String} (s:RelS K ρ S H) (r:RelD K ρ H d x) (h:tyD d S=some T):TyOf K H x (.type T):=by
 cases r with
 | non=>cases h;exact .non
 | bl b=>cases h;exact .bl b
 | int i=>cases h;exact .int i
 | str i=>cases h;exact .str i
 | tup h1 _=>cases h;exact .tup h1
 | fro _ _=>cases h
 | exc _ _=>cases h
 | @ref n a hn=>
  obtain ⟨o,ho,ro⟩:=s.there hn;unfold tyD at h;simp only [ho] at h
  cases o with
  | lst es=>cases h;obtain ⟨vs,e,rr⟩:=ro;exact .lst e
  | dK es=>cases h;obtain ⟨vs,e,rr⟩:=ro;exact .dK e
  | dT es=>cases h;obtain ⟨vs,e,rr⟩:=ro;exact .dT e
  | ins _ _=>cases h
noncomputable def isTab (c T:String):Option Bool:=if T==c then some true else if T=="bool"&&c=="int" then some true else if ["NoneType", "bool", "int", "str", "tuple", "list", "dict"].contains T&&["bool", "int", "str", "tuple", "list", "dict"].contains c then some false else none
end
end L2
namespace L2
open PySem PySem.Spec PyProof.Rows
noncomputable def orElse {α:Type} (r r':Res α):Res α:=match r with
 | .bad=>r'
 | r=>r
theorem orElse_or {α:Type} (r r':Res α):orElse r r'=r∨orElse r r'=r':=by cases r <;> simp [orElse]
noncomputable def op2 (f g:D→D→Sto→Res D):D→D→Sto→Res D:=fun x y S=>orElse (f x y S) (g x y S)
theorem m2_or (f g:D→D→Sto→Res D) (ma mb:ME) (l:Lo) (S:Sto):m2 (op2 f g) ma mb l S=m2 f ma mb l S∨m2 (op2 f g) ma mb l S=m2 g ma mb l S:=by
 unfold m2
 cases ma l S with
 | ok x S1=>
  dsimp only [Res.bind]
  cases mb l S1 with
  | ok y S2=>
   dsimp only [Res.bind];unfold op2
   rcases orElse_or (f x y S2) (g x y S2) with e | e <;> rw [e] <;> simp
  | err c S2=>exact .inl rfl
  | bad=>exact .inl rfl
 | err c S1=>exact .inl rfl
 | bad=>exact .inl rfl
section
variable {X:Cx} {E:EW} {e o i:Expr} {pos:Pos} {m m1 m2':ME}
theorem ge_alt {m m1 m2:ME} (h1:GE X E e m1) (h2:GE X E e m2) (h:∀l S,m l S=m1 l S∨m l S=m2 l S):GE X E e m:=fun pins s σ H Q I ⟨ρ,l,S,hl,hs,a⟩=>by
 rcases h l S with q | q
 ·rw [q] at a;exact h1 pins s σ H Q I ⟨ρ,l,S,hl,hs,a⟩
 ·rw [q] at a;exact h2 pins s σ H Q I ⟨ρ,l,S,hl,hs,a⟩
theorem gt_alt {t t1 t2:MT} (h1:GT X E e t1) (h2:GT X E e t2) (h:∀l S,t l S=t1 l S∨t l S=t2 l S):GT X E e t:=fun pins s σ H Q I ⟨ρ,l,S,hl,hs,a⟩=>by
 rcases h l S with q | q
 ·rw [q] at a;exact h1 pins s σ H Q I ⟨ρ,l,S,hl,hs,a⟩
 ·rw [q] at a;exact h2 pins s σ H Q I ⟨ρ,l,S,hl,hs,a⟩
theorem gi_alt {tg:Expr} {t t1 t2:MI} (h1:GI X E tg e t1) (h2:GI X E tg e t2) (h:∀l S,t l S=t1 l S∨t l S=t2 l S):GI X E tg e t:=fun pins s σ H R I ⟨ρ,l,S,hl,hs,a⟩=>by
 rcases h l S with q | q
 ·rw [q] at a;exact h1 pins s σ H R I ⟨ρ,l,S,hl,hs,a⟩
 ·rw [q] at a;exact h2 pins s σ H R I ⟨ρ,l,S,hl,hs,a⟩
theorem mB_or {m m1 m2:ME} (h:∀l S,m l S=m1 l S∨m l S=m2 l S) (l:Lo) (S:Sto):mB m l S=mB m1 l S∨mB m l S=mB m2 l S:=by
 unfold mB
 rcases h l S with q | q <;> rw [q] <;> simp
noncomputable abbrev inA (neg:Bool):=op2 (inD neg) (dinD neg)
variable {mi mo:ME}
theorem ge_in (hu:X.A.units+64 < cLine) (hi:GE X E i mi) (ho:GE X E o mo) (h1:behindInMarks .In o=false:=by with_unfolding_all rfl):GE X E (.Compare i [.In] [o] pos) (m2 (inA false) mi mo):=
 ge_alt (ge_cmp (od_in hu) hi ho h1) (ge_din (by lia) hi ho h1) fun _ _=>m2_or _ _ _ _ _ _
theorem ge_notin (hu:X.A.units+64 < cLine) (hi:GE X E i mi) (ho:GE X E o mo) (h1:behindInMarks .NotIn o=false:=by with_unfolding_all rfl):GE X E (.Compare i [.NotIn] [o] pos) (m2 (inA true) mi mo):=
 ge_alt (ge_cmp (od_notin hu) hi ho h1) (ge_dnotin (by lia) hi ho h1) fun _ _=>m2_or _ _ _ _ _ _
theorem gt_in (hu:X.A.units+64 < cLine) (hi:GE X E i mi) (ho:GE X E o mo) (h1:behindInMarks .In o=false:=by with_unfolding_all rfl):GT X E (.Compare i [.In] [o] pos) (mB (m2 (inA false) mi mo)):=
 gt_alt (gt_cmp (od_in hu) hi ho h1) (gt_din (by lia) hi ho h1) (mB_or fun _ _=>m2_or _ _ _ _ _ _)
theorem gt_notin (hu:X.A.units+64 < cLine) (hi:GE X E i mi) (ho:GE X E o mo) (h1:behindInMarks .NotIn o=false:=by with_unfolding_all rfl):GT X E (.Compare i [.NotIn] [o] pos) (mB (m2 (inA true) mi mo)):=
 gt_alt (gt_cmp (od_notin hu) hi ho h1) (gt_dnotin (by lia) hi ho h1) (mB_or fun _ _=>m2_or _ _ _ _ _ _)
noncomputable abbrev ixA:=op2 ixD dgetD
theorem ge_at (hu:X.A.units+64 < cLine) (ho:GE X E o mo) (hi:GE X E i mi) (hs:PlainIx i:=by intro _ _;rfl):GE X E (.Subscript o i pos) (m2 ixA mo mi):=
 ge_alt (ge_ix od_ix ho hi hs) (ge_dget (by lia) ho hi hs) fun _ _=>m2_or _ _ _ _ _ _
noncomputable def viewS (d:D):View:=match d with
 | .tup ds=>viewC ds
 | d=>viewL d
noncomputable def iSeq (m:ME):MI:=fun e S=>(m e S).bind fun d S1=>match viewS d S1 with
 | some _=>.ok (viewS d) S1
 | none=>.bad
theorem gi_seq {tg:Expr} (h:GE X E e m):GI X E tg e (iSeq m):=gi_alt (gi_lst h) (gi_tup h) fun l S=>by
 unfold iSeq iLst iTupM
 cases m l S with
 | ok d S1=>
  dsimp only [Res.bind]
  cases d <;> first | exact .inl rfl | exact .inr rfl
 | err c S1=>exact .inl rfl
 | bad=>exact .inl rfl
noncomputable def mLen (m:ME):ME:=fun e S=>(m e S).bind fun d S1=>match seqD d S1 with
 | some ds=>.ok (.int ds.length) S1
 | none=>.bad
variable {p:Pos} {ml:ML} {es:List Expr}
theorem ge_len (hg:Gl X "len") (hm:X.mg "len" = none) (h:GE X E e m) (he:starEach [e] X.env=(false,eval e X.env) :: starEach [] X.env:=by rfl):GE X E (.Call (.Name "len" p) [e] [] pos) (mLen m):=
 (ge_seqB call_len_seq sf_len hg hm PySem.boot_len (gq_ge h) (by decide) (by decide) he).imp fun σ H Q ⟨ρ,l,S,hl,hs,a⟩=>⟨ρ,l,S,hl,hs,by
  have q:mQ lenF (mSeq m) l S=mLen m l S:=by
   unfold mQ mSeq mLen
   cases m l S with
   | ok d S1=>
    dsimp only [Res.bind]
    cases seqD d S1 <;> rfl
   | err c S1=>rfl
   | bad=>rfl
  rw [q];exact a⟩
theorem ge_min2 {a b:Expr} (hc:X.calm=true) (hg:Gl X "min") (hm:X.mg "min" = none) (h:GA X E [a,b] ml) (he:starEach [a,b] X.env=(false,eval a X.env) :: starEach [b] X.env:=by rfl) (hpl:(backTo pos (starEach [b] X.env)).any (·.1)=false:=by rfl):GE X E (.Call (.Name "min" p) [a,b] [] pos) (mQ min2F ml):=
 ge_argB (call_min2 hc) af_min2 hg hm PyProof.Rows.boot_min h (by decide) (by decide) he hpl
theorem ge_max2 {a b:Expr} (hc:X.calm=true) (hg:Gl X "max") (hm:X.mg "max" = none) (h:GA X E [a,b] ml) (he:starEach [a,b] X.env=(false,eval a X.env) :: starEach [b] X.env:=by rfl) (hpl:(backTo pos (starEach [b] X.env)).any (·.1)=false:=by rfl):GE X E (.Call (.Name "max" p) [a,b] [] pos) (mQ max2F ml):=
 ge_argB (call_max2 hc) af_max2 hg hm PyProof.Rows.boot_max h (by decide) (by decide) he hpl
theorem ge_list (hg:Gl X "list") (hm:X.mg "list" = none) (h:GE X E e m) (he:starEach [e] X.env=(false,eval e X.env) :: starEach [] X.env:=by rfl):GE X E (.Call (.Name "list" p) [e] [] pos) (mNew (mN listF (mSeq m))):=
 ge_new (gl_seqT call_list_of sn_list hg hm PyProof.Rows.boot_list (gq_ge h) (by decide) (by decide) he)
theorem ge_all (hc:X.calm=true) (hg:Gl X "all") (hm:X.mg "all" = none) (h:GE X E e m) (he:starEach [e] X.env=(false,eval e X.env) :: starEach [] X.env:=by rfl):GE X E (.Call (.Name "all" p) [e] [] pos) (mQ allF (mSeq m)):=
 ge_seqB (call_allB hc) sf_bools hg hm PyProof.Rows.boot_all (gq_ge h) (by decide) (by decide) he
end
end L2
namespace L2
open PySem PySem.Spec PyProof.Rows
section
variable {X:Cx} {E:EW} {e a b:Expr} {es:List Expr} {pos:Pos} {m:ME} {mj:MJ}
end
noncomputable def mExtend (mo ma:ME):ME:=fun e S=>(mo e S).bind fun d S1=>match atL d S1 with
 | some (n,_)=>(ma e S1).bind fun y S2=>match atL d S2,atL y S2 with
  | some (_,xs),some (k,ys)=>if k≠n∧xs.length+ys.length≤sizeLine then .ok .non (S2.set n (.lst (xs++ys))) else .bad
  | _,_=>.bad
 | none=>.bad
section
variable {X:Cx} {E:EW} {o e:Expr} {apos cpos:Pos} {mo ma:ME}
theorem ge_extend (ho:GE X E o mo) (ha:GE X E e ma) (hbase:attributeBase o "extend" X.env (eval o X.env)=eval o X.env:=by rfl)
  (hfew:((backTo cpos (starEach [e] X.env)).all (fun x=>!x.1)&&(backToKw cpos (keywordEach [] X.env)).all (fun x=>x.1.isSome)
    &&decide ([e].length+([]:List Keyword).length+(if ([]:List Keyword).isEmpty then 0 else 1) < 30))=true:=by rfl)
  (hline:(apos.endLine==cpos.line)=true:=by rfl) (hs:starEach [e] X.env=(false,eval e X.env) :: starEach [] X.env:=by rfl) (hplain:(backTo cpos (starEach [] X.env)).any (·.1)=false:=by rfl) :
  GE X E (.Call (.Attribute o "extend" apos) [e] [] cpos) (mExtend mo ma):=(pe_bm PySem.F.plainAttrs_list PySem.F.slot_list_extend PySem.F.type_list_extend mt_extend ho (pa_cons ha pa_nil hs) hbase hfew hline hs hplain).imp fun σ H Q ⟨ρ,l,S,hl,hs,hm⟩=>by
 refine ⟨ρ,l,S,hl,hs,hm.seq fun d S1 hm ρ1 H1 v l1 s1 r1=>?_⟩
 cases hq:atL d S1 with
 | none=>rw [hq] at hm;exact hm.elim
 | some z=>
  obtain ⟨n,xs0⟩:=z;rw [hq] at hm;dsimp only at hm;obtain ⟨rfl,h0,a,vs0,rfl,hn,e0,_⟩:=atL_ok s1 r1 hq;refine ⟨.inl ⟨rfl,vs0,.inl (.inl e0)⟩,ρ1,l,S1,hl.mono l1,s1,(hm.later l1).seq fun y S2 hm ρ2 H2 u l2 s2 r2=>?_⟩;split at hm
  ·rename_i n' xs k ys h2 h3
   split at hm
   ·rename_i hz
    obtain ⟨e',h4,a',vs,ea,hn2,e2,rr⟩:=atL_ok s2 (r1.mono l2) h2;cases e';cases ea;obtain ⟨ey,h5,p,ws,rfl,hk,e3,rw'⟩:=atL_ok s2 r2 h3;obtain ⟨s3,l3⟩:=put_lst s2 hn2 e2 (rr.append rw');exact ⟨a,p,vs,ws,rfl,rfl,e2,e3,by rw [←rr.length,←rw'.length];exact hz.2,hm ρ2 _ _ (l1.trans (l2.trans l3)) s3 .non⟩
   ·exact hm.elim
  ·exact hm.elim
end
noncomputable def isB (t A:String):Option Bool:=if ["NoneType", "bool", "int", "str", "tuple", "list", "dict"].contains A then isTab t A else none
noncomputable def visB (sc:Scope) (x:Str):Bool:=decide (sc.names.lookup x=some .local)||decide (sc.names.lookup x=some .cell)||decide (sc.names.lookup x=some .free)
noncomputable def compOk (X:Cx) (scope:Scope) (own N':List Str):Bool:=
 decide (scope.kind=.function)&&scope.names.all (fun y=>!decide (y.2=.cell))&&scope.names.all (fun y=>!decide (y.2=.local)||decide (scope.names.lookup y.1=some .local)) &&
 scope.names.all (fun y=>!decide (y.2=.free)||decide (X.env.kindOf y.1=some .cell)||decide (X.env.kindOf y.1=some .free))&&decide (N'.length=own.length+X.N.length) &&
 ((N'.drop own.length).zip X.N).all (fun p=>!visB (relabel scope X.env) p.1||(decide (p.1=p.2)&&visB X.env.scope p.1&&(decide ((relabel scope X.env).names.lookup p.1=some .cell)||decide ((relabel scope X.env).names.lookup p.1=some .free))&&!decide (X.env.kindOf p.1=some .local))) &&
 (relabel scope X.env).names.all (fun y=>(!decide (y.2=.cell)&&!decide (y.2=.free))||scope.names.any (fun z=>decide (z=(y.1,NameKind.free))))
theorem visB_iff {sc:Scope} {x:Str}:visB sc x=true↔Vis sc x:=by
 unfold visB Vis;simp [or_assoc]
theorem comp_sc {X:Cx} {scope:Scope} {own N':List Str} (h:compOk X scope own N'=true):CompSc X scope own N':=by
 unfold compOk at h;simp only [Bool.and_eq_true] at h;obtain ⟨⟨⟨⟨⟨⟨h1,h2⟩,h3⟩,h4⟩,h5⟩,h6⟩,h7⟩:=h;rw [List.all_eq_true] at h2 h3 h4 h6 h7;refine ⟨of_decide_eq_true h1,fun y hy=>?_,fun y hy e=>?_,fun y hy e=>?_,of_decide_eq_true h5,fun i x e v=>?_,fun x hx=>?_⟩
 ·simpa using h2 y hy
 ·have:=h3 y hy
  simpa [e] using this
 ·have:=h4 y hy
  simpa [e] using this
 ·have hlen:=of_decide_eq_true h5
  have hi:own.length+i < N'.length:=(List.getElem?_eq_some_iff.mp e).1
  have hx:i < X.N.length:=by lia
  have hm:(x,X.N[i])∈(N'.drop own.length).zip X.N:=by
   rw [List.mem_iff_getElem?];refine ⟨i,?_⟩;rw [List.getElem?_zip_eq_some];exact ⟨by rw [List.getElem?_drop];exact e,by simp [hx]⟩
  have:=h6 _ hm;rw [visB_iff.mpr v] at this;simp only [Bool.not_true,Bool.false_or,Bool.and_eq_true,Bool.or_eq_true,decide_eq_true_eq,Bool.not_eq_true',decide_eq_false_iff_not] at this;obtain ⟨⟨⟨z1,z2⟩,z3⟩,z4⟩:=this;exact ⟨by rw [z1];simp [hx],visB_iff.mp z2,z3,z4⟩
 ·have key:∀k,(relabel scope X.env).names.lookup x=some k→(k=.cell∨k=.free)→(x,NameKind.free)∈scope.names:=fun k e hk=>by
   have:=h7 _ (PySem.mem_of_lookup e)
   rcases hk with rfl | rfl
   ·simpa using this
   ·simpa using this
  rcases hx with e | e
  ·exact key _ e (.inl rfl)
  ·exact key _ e (.inr rfl)
structure Dfn (K:PySem.W.Frag) (mg:Str→Option Value) (x qual:Str) (st:Stmt) (ps:List Str) where
 f:Addr
 fd:FuncData
 F:Fun K x qual st f fd
 b:Binds K fd ps []
 m:mg x=some (.ref f)
theorem Dfn.kp {K:PySem.W.Frag} {mg:Str→Option Value} {x qual:Str} {st:Stmt} {ps:List Str} (d:Dfn K mg x qual st ps):PySem.W.keepIn K (.ref d.f)=true:=d.F.kp
structure Mtd (K:PySem.W.Frag) (x qual:Str) (st:Stmt) (ps:List Str) where
 f:Addr
 fd:FuncData
 F:Fun K x qual st f fd
 b:Binds K fd ps []
structure Own (K:PySem.W.Frag) (mg:Str→Option Value) (x:Str) (C f:Addr):Prop where
 cl:Cls K C
 mk':Mk K C f
 m:mg x=some (.ref C)
end L2
namespace L2
open PySem PySem.Spec PyProof.Rows
section
variable {prog:Program} {w:World} {A:Around} {E:Value→Shared→Prop} {s:Shared} {K:PySem.W.Frag} {a C:Addr} {o:Obj}
end
section
variable {X:Cx} {E:EW} {e ce:Expr} {p pos:Pos} {m:ME} {c:V} {cv:Value} {tab:String→Option Bool} {tabC:Addr→Option Bool}
end
end L2
namespace Srt
open PySem PyProof.Rows
structure Ord (U:Keyed→Prop) (lt:Keyed→Keyed→Bool):Prop where
 asym:∀x y,U x→U y→lt x y=true→lt y x=false
 ntr:∀x y z,U x→U y→U z→lt y x=false→lt z y=false→lt z x=false
theorem Ord.irr {U:Keyed→Prop} {lt:Keyed→Keyed→Bool} (o:Ord U lt) {x:Keyed} (h:U x):lt x x=false:=by
 cases e:lt x x with
 | false=>rfl
 | true=>exact (o.asym x x h h e).symm.trans e |>.symm▸rfl
noncomputable def ix (xs:Array Keyed) (i:Nat):Keyed:=xs.getD i (.none,.none)
theorem ix_congr {xs ys:Array Keyed} {i j:Nat} (h:xs[i]?=ys[j]?):ix xs i=ix ys j:=by
 unfold ix;rw [Array.getD_eq_getD_getElem?,Array.getD_eq_getD_getElem?,h]
theorem ix_some {xs:Array Keyed} {i:Nat} (h:i < xs.size):xs[i]?=some (ix xs i):=by
 unfold ix;rw [Array.getD_eq_getD_getElem?,getElem?_pos xs i h];rfl
theorem ix_bubble {xs:Array Keyed} {src d:Nat} (hs:src < xs.size) (hd:d≤src) (k:Nat) :
  ix (bubble xs src d) k=if k=src - d then ix xs src else if src - d < k∧k≤src then ix xs (k - 1) else ix xs k:=by
 have e:=getElem?_bubble hs d hd k;split
 ·rename_i h;rw [if_pos h] at e;exact ix_congr e
 ·rename_i h
  rw [if_neg h] at e;split
  ·rename_i h2;rw [if_pos h2] at e;exact ix_congr e
  ·rename_i h2;rw [if_neg h2] at e;exact ix_congr e
theorem ix_mirror {xs:Array Keyed} {i j:Nat} (hj:j≤xs.size) (k:Nat) :
  ix (mirror xs i j ((j - i) / 2)) k=if i≤k∧k < j then ix xs (i+j - 1 - k) else ix xs k:=by
 have e:=getElem?_mirror_all (i:=i) hj k;split
 ·rename_i h;rw [if_pos h] at e;exact ix_congr e
 ·rename_i h;rw [if_neg h] at e;exact ix_congr e
section
variable {prog:Program} {w:World} {A:Around} {E:Value→Shared→Prop} {s:Shared} {a₀:Array Keyed} {κ:SortKind} {lt:Keyed→Keyed→Bool}
noncomputable def CmpOk (prog:Program) (w:World) (A:Around) (s:Shared) (a₀:Array Keyed) (κ:SortKind) (lt:Keyed→Keyed→Bool):Prop:=
 ∀x y,x∈a₀→y∈a₀→∀(Q:Bool→Shared→Prop) (E:Value→Shared→Prop),Q (lt x y) s→wpAny (model prog w) A (keyLt' κ x.1 y.1) Q E s
structure Good (a₀:Array Keyed) (κ:SortKind) (st:SortSt):Prop where
 perm:(arrOf st).Perm a₀
 kind:kindOf st=κ
 failed:failedOf st=none
theorem Good.size {st:SortSt} (g:Good a₀ κ st):(arrOf st).size=a₀.size:=g.perm.size_eq
theorem Good.mem {st:SortSt} (g:Good a₀ κ st) {i:Nat} (h:i < a₀.size):ix (arrOf st) i∈a₀:=by
 have h':i < (arrOf st).size:=by rw [g.size];exact h
 have e:=ix_some h';have:=Array.mem_of_getElem? e;exact Array.mem_toList_iff.mp ((Array.perm_iff_toList_perm.mp g.perm).mem_iff.mp (Array.mem_toList_iff.mpr this))
theorem Good.setArr {st:SortSt} (g:Good a₀ κ st) {xs:Array Keyed} (hp:xs.Perm (arrOf st)):Good a₀ κ (setArr st xs):=⟨hp.trans g.perm,g.kind,g.failed⟩
theorem wpS_lt {st:SortSt} {x y:Keyed} {Q:Option Bool→SortSt→Prop} (C:CmpOk prog w A s a₀ κ lt) (g:Good a₀ κ st) (hx:x∈a₀) (hy:y∈a₀) (h:Q (some (lt x y)) st):wpS (model prog w) A E s (lt' x y) Q st:=by
 rw [lt'_eq];refine wpS_bind (wpS_get ?_);rw [g.kind];refine wpS_bind (wpS_lift (wpAny_attempt ?_));refine C x y hx hy _ _ ⟨rfl,?_⟩;exact wpS_pure h
theorem wpS_at {st:SortSt} {i j:Nat} {Q:Option Bool→SortSt→Prop} (C:CmpOk prog w A s a₀ κ lt) (g:Good a₀ κ st) (hi:i < a₀.size) (hj:j < a₀.size) (h:Q (some (lt (ix (arrOf st) i) (ix (arrOf st) j))) st) :
  wpS (model prog w) A E s (ltAt' i j) Q st:=by
 rw [ltAt'_eq];refine wpS_bind (wpS_get ?_);show wpS _ _ _ _ (do let x ←elem' (arrOf st) i;let y ←elem' (arrOf st) j;lt' x y) Q st;rw [elem'_eq,elem'_eq,ix_some (by rw [g.size];exact hi),ix_some (by rw [g.size];exact hj)];exact wpS_bind (wpS_pure (wpS_bind (wpS_pure (wpS_lt C g (g.mem hi) (g.mem hj) h))))
noncomputable def Up (lt:Keyed→Keyed→Bool) (xs:Array Keyed) (lo hi:Nat):Prop:=∀i j,lo≤i→i≤j→j < hi→lt (ix xs j) (ix xs i)=false
noncomputable def Dn (lt:Keyed→Keyed→Bool) (xs:Array Keyed) (lo hi:Nat):Prop:=∀i j,lo≤i→i≤j→j < hi→lt (ix xs i) (ix xs j)=false
noncomputable def Out (xs ys:Array Keyed) (lo hi:Nat):Prop:=∀i,(i < lo∨hi≤i)→ix ys i=ix xs i
theorem Out.refl {xs:Array Keyed} {lo hi:Nat}:Out xs xs lo hi:=fun _ _=>rfl
theorem Out.trans {xs ys zs:Array Keyed} {lo hi:Nat} (a:Out xs ys lo hi) (b:Out ys zs lo hi):Out xs zs lo hi:=fun i h=>(b i h).trans (a i h)
theorem Up.out {xs ys:Array Keyed} {lo hi l h:Nat} (u:Up lt xs l h) (o:Out xs ys lo hi) (d:h≤lo∨hi≤l):Up lt ys l h:=fun i j h1 h2 h3=>by
 rw [o i (by lia),o j (by lia)];exact u i j h1 h2 h3
theorem Up.grow {st:SortSt} (O:Ord (·∈a₀) lt) (g:Good a₀ κ st) {lo hi:Nat} (hs:hi < a₀.size) (u:Up lt (arrOf st) lo hi) (h0:lo < hi) (h:lt (ix (arrOf st) hi) (ix (arrOf st) (hi - 1))=false):Up lt (arrOf st) lo (hi+1):=fun i j h1 h2 h3=>by
 by_cases hj:j < hi
 ·exact u i j h1 h2 hj
 ·have:j=hi:=by lia
  subst this
  by_cases hi':i=j
  ·subst hi';exact O.irr (g.mem hs)
  ·exact O.ntr _ _ _ (g.mem (by lia)) (g.mem (show j - 1 < _ by omega)) (g.mem hs) (u i (j - 1) h1 (by lia) (by lia)) h
theorem wpS_binarySort {st:SortSt} {lo n ok:Nat} {Q:Bool→SortSt→Prop} (C:CmpOk prog w A s a₀ κ lt) (O:Ord (·∈a₀) lt) (hn:lo+n≤a₀.size) (hok:ok≤n) (g:Good a₀ κ st) (u:Up lt (arrOf st) lo (lo+ok))
  (h:∀st',Good a₀ κ st'→Up lt (arrOf st') lo (lo+n)→Out (arrOf st) (arrOf st') lo (lo+n)→pendingOf st'=pendingOf st→Q true st'):wpS (model prog w) A E s (binarySort' lo n ok) Q st:=by
 rw [binarySort'_eq]
 refine wpS_bind (wpS_mono (wpS_forRange (I:=fun k c st'=>c=(none,())∧Good a₀ κ st'∧Up lt (arrOf st') lo (lo+min k n)∧Out (arrOf st) (arrOf st') lo (lo+n)∧pendingOf st'=pendingOf st)
  (Q:=fun c st'=>c=(none,())∧Good a₀ κ st'∧Up lt (arrOf st') lo (lo+n)∧Out (arrOf st) (arrOf st') lo (lo+n)∧pendingOf st'=pendingOf st) ?step ?fin ?init) ?post)
 case post=>
  rintro c st' ⟨rfl,g',u',o',p'⟩;exact wpS_pure (h st' g' u' o' p')
 case init=>
  refine ⟨rfl,g,fun i j h1 h2 h3=>?_,.refl,rfl⟩
  by_cases h0:ok=0
  ·have:i=j:=by lia
   subst this;exact O.irr (g.mem (by omega))
  ·exact u i j h1 h2 (by lia)
 case fin=>
  rintro c st' ⟨hc,g',u',o',p'⟩;refine ⟨hc,g',?_,o',p'⟩;rwa [show min (max (max ok 1) n) n=n by lia] at u'
 case step=>
  rintro k c st1 hak hkn ⟨rfl,g1,u1,o1,p1⟩;rw [show min k n=k by lia] at u1
  have hk:lo+k < a₀.size:=by lia
  refine wpS_bind (wpS_mono (wpS_forRange (I:=fun x c st2=>st2=st1∧∃l r,c=(none,l,r)∧l≤r∧r≤k∧r - l≤k - x ∧
    (∀i,i < l→lt (ix (arrOf st1) (lo+k)) (ix (arrOf st1) (lo+i))=false)∧(∀i,r≤i→i < k→lt (ix (arrOf st1) (lo+k)) (ix (arrOf st1) (lo+i))=true))
   (Q:=fun c st2=>st2=st1∧∃l r,c=(none,l,r)∧l≤k ∧
    (∀i,i < l→lt (ix (arrOf st1) (lo+k)) (ix (arrOf st1) (lo+i))=false)∧(∀i,l≤i→i < k→lt (ix (arrOf st1) (lo+k)) (ix (arrOf st1) (lo+i))=true)) ?istep ?ifin ?iinit) ?ipost)
  case iinit=>exact ⟨rfl,0,k,rfl,by lia,by lia,by lia,fun i hi=>by lia,fun i h1 h2=>by lia⟩
  case ifin=>
   rintro c st2 ⟨rfl,l,r,rfl,hlr,hrk,hm,hlo,hhi⟩
   have:l=r:=by lia
   subst this;exact ⟨rfl,l,l,rfl,hrk,hlo,hhi⟩
  case istep=>
   rintro x c st2 _ hxk ⟨rfl,l,r,rfl,hlr,hrk,hm,hlo,hhi⟩;dsimp only
   by_cases hge:l ≥ r
   ·rw [if_pos hge]
    have:l=r:=by lia
    subst this;exact wpS_pure ⟨rfl,l,l,rfl,hrk,hlo,hhi⟩
   ·rw [if_neg hge]
    refine wpS_bind (wpS_at C g1 hk (by lia) ?_)
    cases hless:lt (ix (arrOf st2) (lo+k)) (ix (arrOf st2) (lo+(l+r) / 2)) with
    | true=>
     refine wpS_pure ⟨rfl,l,(l+r) / 2,rfl,by lia,by lia,by omega,hlo,fun i h1 h2=>?_⟩
     cases e:lt (ix (arrOf st2) (lo+k)) (ix (arrOf st2) (lo+i)) with
     | true=>rfl
     | false=>
      have:=O.ntr _ _ _ (g1.mem (show lo+(l+r) / 2 < _ by lia)) (g1.mem (show lo+i < _ by lia)) (g1.mem hk) (u1 (lo+(l+r) / 2) (lo+i) (by lia) (by lia) (by lia)) e;rw [hless] at this;cases this
    | false=>
     refine wpS_pure ⟨rfl,(l+r) / 2+1,r,rfl,by lia,by omega,by omega,fun i h1=>?_,hhi⟩;exact O.ntr _ _ _ (g1.mem (show lo+i < _ by lia)) (g1.mem (show lo+(l+r) / 2 < _ by lia)) (g1.mem hk) (u1 (lo+i) (lo+(l+r) / 2) (by lia) (by lia) (by lia)) hless
  case ipost=>
   rintro c st2 ⟨rfl,l,r,rfl,hlk,hlo,hhi⟩;show wpS _ _ _ _ (do moveDown' (lo+k) (lo+l);pure (ForInStep.yield (none,()))) _ _;rw [moveDown'_eq]
   have hks:lo+k < (arrOf st2).size:=by rw [g1.size];exact hk
   have e:∀i,ix (bubble (arrOf st2) (lo+k) (lo+k - (lo+l))) i=if i=lo+l then ix (arrOf st2) (lo+k) else if lo+l < i∧i≤lo+k then ix (arrOf st2) (i - 1) else ix (arrOf st2) i:=fun i=>by
    rw [ix_bubble hks (by lia),show lo+k - (lo+k - (lo+l))=lo+l by lia]
   refine wpS_bind (wpS_modify (wpS_pure ⟨rfl,g1.setArr (bubble_perm _ _ _),?_,o1.trans fun i hi=>?_,p1⟩))
   ·rw [show min (k+1) n=k+1 by lia]
    intro i j h1 h2 h3;show lt (ix (bubble (arrOf st2) (lo+k) (lo+k - (lo+l))) j) (ix (bubble (arrOf st2) (lo+k) (lo+k - (lo+l))) i)=false;rw [e,e]
    repeat' split
    all_goals first
     | (exfalso;lia)
     | exact O.irr (g1.mem hk)
     | (have q:=hlo (i - lo) (by lia);rw [show lo+(i - lo)=i by lia] at q;exact q)
     | (have q:=hhi (j - 1 - lo) (by omega) (by omega);rw [show lo+(j - 1 - lo)=j - 1 by lia] at q;exact O.asym _ _ (g1.mem hk) (g1.mem (by lia)) q)
     | exact u1 _ _ (by omega) (by omega) (by lia)
   ·show ix (bubble (arrOf st2) (lo+k) (lo+k - (lo+l))) i=ix (arrOf st2) i
    rw [e,if_neg (by lia),if_neg (by lia)]
end
end Srt
namespace Srt
open PySem PyProof.Rows
section
variable {prog:Program} {w:World} {A:Around} {E:Value→Shared→Prop} {s:Shared} {a₀:Array Keyed} {κ:SortKind} {lt:Keyed→Keyed→Bool}
theorem wpS_rule {σ:Type} {M:Model} {r:String} {Q:PUnit→σ→Prop} {st:σ} (h:Q ⟨⟩ st):wpS M A E s (liftM (rule r):StateT σ Sem PUnit) Q st:=wpS_lift (wpAny_rule ⟨rfl,h⟩)
theorem Dn.flip {xs:Array Keyed} {lo hi:Nat} (hs:hi≤xs.size) (d:Dn lt xs lo hi):Up lt (mirror xs lo hi ((hi - lo) / 2)) lo hi:=fun i j h1 h2 h3=>by
 rw [ix_mirror hs,ix_mirror hs,if_pos (by lia),if_pos (by lia)];exact d _ _ (by omega) (by omega) (by omega)
theorem Dn.part {xs:Array Keyed} {lo hi m:Nat} (hs:hi≤xs.size) (hm:lo≤m) (hmh:m≤hi) (d:Dn lt xs lo hi) (e:Up lt xs m hi):Dn lt (mirror xs m hi ((hi - m) / 2)) lo hi:=fun i j h1 h2 h3=>by
 rw [ix_mirror hs,ix_mirror hs]
 by_cases hi':m≤i
 ·rw [if_pos (by lia),if_pos (by lia)]
  exact e _ _ (by omega) (by omega) (by omega)
 ·rw [if_neg (by lia)]
  split
  ·exact d _ _ (by omega) (by lia) (by omega)
  ·exact d _ _ (by omega) (by omega) (by omega)
theorem out_mirror {xs:Array Keyed} {i j lo hi:Nat} (hj:j≤xs.size) (h1:lo≤i) (h2:j≤hi):Out xs (mirror xs i j ((j - i) / 2)) lo hi:=fun k hk=>by
 rw [ix_mirror hj,if_neg (by lia)]
theorem Dn.grow {st:SortSt} (O:Ord (·∈a₀) lt) (g:Good a₀ κ st) {lo hi:Nat} (hs:hi < a₀.size) (u:Dn lt (arrOf st) lo hi) (h0:lo < hi) (h:lt (ix (arrOf st) (hi - 1)) (ix (arrOf st) hi)=false):Dn lt (arrOf st) lo (hi+1):=fun i j h1 h2 h3=>by
 by_cases hj:j < hi
 ·exact u i j h1 h2 hj
 ·have:j=hi:=by lia
  subst this
  by_cases hi':i=j
  ·subst hi';exact O.irr (g.mem hs)
  ·exact O.ntr _ _ _ (g.mem hs) (g.mem (show j - 1 < _ by omega)) (g.mem (by lia)) h (u i (j - 1) h1 (by lia) (by lia))
theorem up_one (O:Ord (·∈a₀) lt) {st:SortSt} (g:Good a₀ κ st) {lo:Nat} (h:lo < a₀.size):Up lt (arrOf st) lo (lo+1):=fun i j h1 h2 h3=>by
 have e1:i=lo:=by lia
 have e2:j=lo:=by lia
 rw [e1,e2];exact O.irr (g.mem h)
theorem wpS_asc {st:SortSt} {lo nrem n:Nat} {Q:Option Nat→SortSt→Prop} (C:CmpOk prog w A s a₀ κ lt) (O:Ord (·∈a₀) lt) (h1:1≤n) (h2:n≤nrem) (hn:lo+nrem≤a₀.size) (g:Good a₀ κ st) (u:Up lt (arrOf st) lo (lo+n))
  (h:∀n,1≤n→n≤nrem→Up lt (arrOf st) lo (lo+n)→Q (some n) st):wpS (model prog w) A E s (do
   let mut n:=n
   for _ in [n:nrem] do
    let some smaller ←ltAt' (lo+n) (lo+n - 1) | return none
    if smaller then break
    n:=n+1
   return some n) Q st:=by
 refine wpS_bind (wpS_mono (wpS_forRange (I:=fun x c st'=>st'=st∧c=(none,x)∧Up lt (arrOf st) lo (lo+x))
  (Q:=fun c st'=>st'=st∧∃n,c=(none,n)∧1≤n∧n≤nrem∧Up lt (arrOf st) lo (lo+n)) ?step ?fin ⟨rfl,rfl,u⟩) ?post)
 case fin=>
  rintro c st' ⟨rfl,rfl,u⟩
  have e:max n nrem=nrem:=by lia
  rw [e] at u ⊢;exact ⟨rfl,nrem,rfl,by lia,Nat.le_refl _,u⟩
 case step=>
  rintro x c st' hx1 hx2 ⟨rfl,rfl,u⟩;dsimp only;refine wpS_bind (wpS_at C g (by lia) (by lia) ?_)
  cases hq:lt (ix (arrOf st') (lo+x)) (ix (arrOf st') (lo+x - 1)) with
  | true=>exact wpS_pure ⟨rfl,x,rfl,by lia,by lia,u⟩
  | false=>exact wpS_pure ⟨rfl,rfl,Up.grow (hi:=lo+x) O g (by lia) u (by lia) hq⟩
 case post=>
  rintro c st' ⟨rfl,n,rfl,hn1,hn2,u⟩;exact wpS_pure (h n hn1 hn2 u)
theorem wpS_countRun {st:SortSt} {lo nrem:Nat} {Q:Option Nat→SortSt→Prop} (C:CmpOk prog w A s a₀ κ lt) (O:Ord (·∈a₀) lt) (h1:1≤nrem) (hn:lo+nrem≤a₀.size) (g:Good a₀ κ st)
  (h:∀st' n,Good a₀ κ st'→1≤n→n≤nrem→Up lt (arrOf st') lo (lo+n)→Out (arrOf st) (arrOf st') lo (lo+nrem)→pendingOf st'=pendingOf st→Q (some n) st'):wpS (model prog w) A E s (countRun' lo nrem) Q st:=by
 rw [countRun'_eq]
 refine wpS_bind (wpS_mono (wpS_forRange (I:=fun x c st'=>st'=st∧c=(none,x)∧Up lt (arrOf st) lo (lo+x))
  (Q:=fun c st'=>st'=st∧∃n,c=(none,n)∧1≤n∧n≤nrem∧Up lt (arrOf st) lo (lo+n)∧(n=nrem∨lt (ix (arrOf st) (lo+n)) (ix (arrOf st) (lo+n - 1))=true)) ?step ?fin ?init) ?post)
 case init=>
  refine ⟨rfl,rfl,fun i j a1 a2 a3=>?_⟩
  have:i=j:=by lia
  subst this;exact O.irr (g.mem (by lia))
 case fin=>
  rintro c st' ⟨rfl,rfl,u⟩
  have e:max 1 nrem=nrem:=by lia
  rw [e] at u ⊢;exact ⟨rfl,nrem,rfl,h1,Nat.le_refl _,u,.inl rfl⟩
 case step=>
  rintro x c st' hx1 hx2 ⟨rfl,rfl,u⟩;dsimp only;refine wpS_bind (wpS_at C g (by lia) (by lia) ?_)
  cases hq:lt (ix (arrOf st') (lo+x)) (ix (arrOf st') (lo+x - 1)) with
  | true=>exact wpS_pure ⟨rfl,x,rfl,hx1,by lia,u,.inr hq⟩
  | false=>exact wpS_pure ⟨rfl,rfl,Up.grow (hi:=lo+x) O g (by lia) u (by lia) hq⟩
 case post=>
  rintro c st' ⟨rfl,n,rfl,hn1,hn2,u,hd⟩;dsimp only
  by_cases hnn:n=nrem
  ·rw [if_pos (by simpa using hnn)]
   exact wpS_pure (h st' n g hn1 hn2 u .refl rfl)
  ·rw [if_neg (by simpa using hnn)]
   have hd':=hd.resolve_left hnn
   have desc:∀(st1:SortSt),Good a₀ κ st1→Dn lt (arrOf st1) lo (lo+(n+1))→Out (arrOf st') (arrOf st1) lo (lo+nrem)→pendingOf st1=pendingOf st' →
     wpS (model prog w) A E s (do
      liftM (rule "list.sort.descending-run")
      let mut n:=n+1
      let mut neq:=0
      for _ in [n:nrem] do
       let some smaller ←ltAt' (lo+n) (lo+n - 1) | return none
       if smaller then
        if neq > 0 then reverseSlice' (lo+n - (neq+1)) (lo+n)
        neq:=0
       else
        let some larger ←ltAt' (lo+n - 1) (lo+n) | return none
        if larger then break
        neq:=neq+1
       n:=n+1
      if neq > 0 then reverseSlice' (lo+n - (neq+1)) (lo+n)
      reverseSlice' lo (lo+n)
      for _ in [n:nrem] do
       let some smaller ←ltAt' (lo+n) (lo+n - 1) | return none
       if smaller then break
       n:=n+1
      return some n) Q st1:=by
    intro st1 g1 d1 o1 p1;refine wpS_bind (wpS_rule ?_)
    refine wpS_bind (wpS_mono (wpS_forRange (I:=fun x c st2=>Good a₀ κ st2∧∃q,c=(none,x,q)∧q+1≤x∧Dn lt (arrOf st2) lo (lo+x)∧Up lt (arrOf st2) (lo+x - (q+1)) (lo+x)∧Out (arrOf st') (arrOf st2) lo (lo+nrem)∧pendingOf st2=pendingOf st')
     (Q:=fun c st2=>Good a₀ κ st2∧∃n q,c=(none,n,q)∧n≤nrem∧q+1≤n∧Dn lt (arrOf st2) lo (lo+n)∧Up lt (arrOf st2) (lo+n - (q+1)) (lo+n)∧Out (arrOf st') (arrOf st2) lo (lo+nrem)∧pendingOf st2=pendingOf st') ?dstep ?dfin ?dinit) ?dpost)
    case dinit=>
     refine ⟨g1,0,rfl,by lia,d1,?_,o1,p1⟩;have:=up_one O g1 (lo:=lo+n) (by lia);rwa [show lo+(n+1) - (0+1)=lo+n by lia,show lo+(n+1)=lo+n+1 by lia]
    case dfin=>
     rintro c st2 ⟨g2,q,rfl,hq,d2,u2,o2,p2⟩
     have e:max (n+1) nrem=nrem:=by lia
     rw [e] at d2 u2 hq ⊢;exact ⟨g2,nrem,q,rfl,Nat.le_refl _,hq,d2,u2,o2,p2⟩
    case dstep=>
     rintro x c st2 hx1 hx2 ⟨g2,q,rfl,hq,d2,u2,o2,p2⟩;dsimp only;refine wpS_bind (wpS_at C g2 (by lia) (by lia) ?_)
     cases hs:lt (ix (arrOf st2) (lo+x)) (ix (arrOf st2) (lo+x - 1)) with
     | true=>
      dsimp only;rw [if_pos rfl];have hlt:=O.asym _ _ (g2.mem (show lo+x < _ by lia)) (g2.mem (show lo+x - 1 < _ by lia)) hs
      by_cases hq0:q > 0
      ·rw [if_pos hq0,reverseSlice'_eq]
       have hsz:lo+x≤(arrOf st2).size:=by rw [g2.size];lia
       have g3:Good a₀ κ (setArr st2 (mirror (arrOf st2) (lo+x - (q+1)) (lo+x) ((lo+x - (lo+x - (q+1))) / 2))):=g2.setArr (mirror_perm _ _ _ _);have d3:=Dn.part (lt:=lt) (lo:=lo) hsz (show lo≤lo+x - (q+1) by lia) (by omega) d2 u2;refine wpS_bind (wpS_modify (wpS_pure ⟨g3,0,rfl,by lia,?_,?_,o2.trans (out_mirror hsz (by lia) (by lia)),p2⟩))
       ·refine Dn.grow (hi:=lo+x) O g3 (by lia) d3 (by lia) ?_
        show lt (ix (mirror (arrOf st2) (lo+x - (q+1)) (lo+x) ((lo+x - (lo+x - (q+1))) / 2)) (lo+x - 1)) (ix (mirror (arrOf st2) (lo+x - (q+1)) (lo+x) ((lo+x - (lo+x - (q+1))) / 2)) (lo+x))=false;rw [ix_mirror hsz,ix_mirror hsz,if_pos (by omega),if_neg (by lia)];exact O.ntr _ _ _ (g2.mem (by lia)) (g2.mem (show lo+x - 1 < _ by lia)) (g2.mem (by omega)) hlt (d2 _ _ (by lia) (by omega) (by lia))
       ·have:=up_one O g3 (lo:=lo+x) (by lia)
        rwa [show lo+(x+1) - (0+1)=lo+x by lia,show lo+(x+1)=lo+x+1 by lia]
      ·rw [if_neg hq0]
       refine wpS_pure ⟨g2,0,rfl,by lia,Dn.grow (hi:=lo+x) O g2 (by lia) d2 (by lia) hlt,?_,o2,p2⟩;have:=up_one O g2 (lo:=lo+x) (by lia);rwa [show lo+(x+1) - (0+1)=lo+x by lia,show lo+(x+1)=lo+x+1 by lia]
     | false=>
      dsimp only;rw [if_neg Bool.false_ne_true];refine wpS_bind (wpS_at C g2 (by lia) (by lia) ?_)
      cases hl:lt (ix (arrOf st2) (lo+x - 1)) (ix (arrOf st2) (lo+x)) with
      | true=>exact wpS_pure ⟨g2,x,q,rfl,by lia,hq,d2,u2,o2,p2⟩
      | false=>
       refine wpS_pure ⟨g2,q+1,rfl,by lia,Dn.grow (hi:=lo+x) O g2 (by lia) d2 (by lia) hl,?_,o2,p2⟩;rw [show lo+(x+1) - (q+1+1)=lo+x - (q+1) by lia];exact Up.grow (hi:=lo+x) O g2 (by lia) u2 (by omega) hs
    case dpost=>
     rintro c st2 ⟨g2,m,q,rfl,hm,hq,d2,u2,o2,p2⟩;dsimp only
     have hsz:lo+m≤(arrOf st2).size:=by rw [g2.size];lia
     have last:∀st3,Good a₀ κ st3→Dn lt (arrOf st3) lo (lo+m)→Out (arrOf st') (arrOf st3) lo (lo+nrem)→pendingOf st3=pendingOf st'→∀(R:StateT SortSt Sem (Option Nat)),R=(do
        let mut n:=m
        for _ in [n:nrem] do
         let some smaller ←ltAt' (lo+n) (lo+n - 1) | return none
         if smaller then break
         n:=n+1
        return some n)→wpS (model prog w) A E s (do reverseSlice' lo (lo+m);R) Q st3:=by
      rintro st3 g3 d3 o3 p3 R rfl
      have hsz3:lo+m≤(arrOf st3).size:=by rw [g3.size];lia
      rw [reverseSlice'_eq];refine wpS_bind (wpS_modify ?_);have g4:Good a₀ κ (setArr st3 (mirror (arrOf st3) lo (lo+m) ((lo+m - lo) / 2))):=g3.setArr (mirror_perm _ _ _ _)
      exact wpS_asc C O (by lia) hm hn g4 (Dn.flip hsz3 d3) fun k k1 k2 k3=>h _ k g4 k1 k2 k3 (o3.trans (out_mirror hsz3 (by lia) (by lia))) p3
     by_cases hq0:q > 0
     ·rw [if_pos hq0,reverseSlice'_eq]
      refine wpS_bind (wpS_modify ?_);exact last _ (g2.setArr (mirror_perm _ _ _ _)) (Dn.part hsz (by lia) (by omega) d2 u2) (o2.trans (out_mirror hsz (by lia) (by lia))) p2 _ rfl
     ·rw [if_neg hq0]
      exact last _ g2 d2 o2 p2 _ rfl
   have hlt:=O.asym _ _ (g.mem (show lo+n < _ by lia)) (g.mem (show lo+n - 1 < _ by omega)) hd'
   by_cases hn0:n > 1
   ·rw [if_pos hn0]
    refine wpS_bind (wpS_at C g (by lia) (by omega) ?_)
    cases hr:lt (ix (arrOf st') lo) (ix (arrOf st') (lo+n - 1)) with
    | true=>exact wpS_pure (h st' n g hn1 hn2 u .refl rfl)
    | false=>
     dsimp only;rw [if_neg Bool.false_ne_true,reverseSlice'_eq]
     have hsz:lo+n≤(arrOf st').size:=by rw [g.size];lia
     have g1:Good a₀ κ (setArr st' (mirror (arrOf st') lo (lo+n) ((lo+n - lo) / 2))):=g.setArr (mirror_perm _ _ _ _)
     have al:∀i j,lo≤i→i < lo+n→lo≤j→j < lo+n→lt (ix (arrOf st') i) (ix (arrOf st') j)=false:=fun i j i1 i2 j1 j2=>by
      have q1:=u j (lo+n - 1) (by omega) (by lia) (by omega);have q2:=u lo i (by lia) (by omega) (by omega);exact O.ntr _ _ _ (g.mem (by lia)) (g.mem (show lo < _ by lia)) (g.mem (by lia)) (O.ntr _ _ _ (g.mem (by lia)) (g.mem (show lo+n - 1 < _ by lia)) (g.mem (by lia)) q1 hr) q2
     refine wpS_bind (wpS_modify ?_);refine desc _ g1 ?_ (out_mirror hsz (by lia) (by lia)) rfl;refine Dn.grow (hi:=lo+n) O g1 (by lia) (fun i j a1 a2 a3=>?_) (by lia) ?_
     ·show lt (ix (mirror (arrOf st') lo (lo+n) ((lo+n - lo) / 2)) i) (ix (mirror (arrOf st') lo (lo+n) ((lo+n - lo) / 2)) j)=false
      rw [ix_mirror hsz,ix_mirror hsz,if_pos (by lia),if_pos (by lia)];exact al _ _ (by omega) (by omega) (by omega) (by omega)
     ·show lt (ix (mirror (arrOf st') lo (lo+n) ((lo+n - lo) / 2)) (lo+n - 1)) (ix (mirror (arrOf st') lo (lo+n) ((lo+n - lo) / 2)) (lo+n))=false
      rw [ix_mirror hsz,ix_mirror hsz,if_pos (by omega),if_neg (by lia),show lo+(lo+n) - 1 - (lo+n - 1)=lo by omega];exact O.ntr _ _ _ (g.mem (by lia)) (g.mem (show lo+n - 1 < _ by lia)) (g.mem (by lia)) hlt hr
   ·rw [if_neg hn0]
    have e:n=1:=by lia
    subst e;refine desc _ g (Dn.grow (hi:=lo+1) O g (by lia) (fun i j a1 a2 a3=>?_) (by lia) hlt) .refl rfl
    have e1:i=lo:=by lia
    have e2:j=lo:=by lia
    rw [e1,e2];exact O.irr (g.mem (by lia))
end
end Srt
namespace Srt
open PySem PyProof.Rows
noncomputable def gall:Bool→Keyed→Array Keyed→Nat→Nat→Nat→StateT SortSt Sem (Option Nat):=sortPriv% PySem.Builtin.gallop
section
variable {prog:Program} {w:World} {A:Around} {E:Value→Shared→Prop} {s:Shared} {a₀:Array Keyed} {κ:SortKind} {lt:Keyed→Keyed→Bool}
noncomputable abbrev BS:=Option (Option Nat)×Nat×Nat
theorem bin_gen {st:SortSt} {p:Nat→Bool} {n lo hi:Nat} {F:Nat→BS→StateT SortSt Sem (ForInStep BS)} {T:BS→StateT SortSt Sem (Option Nat)} {Q:Option Nat→SortSt→Prop} (hlh:lo≤hi) (hhn:hi≤n)
  (hlo:∀i,i < lo→p i=true) (hhi:∀i,hi≤i→i < n→p i=false) (mono:∀i j,i≤j→j < n→p j=true→p i=true)
  (hF:∀x l h (R:ForInStep BS→SortSt→Prop),l≤h→h≤n→(l ≥ h→R (.done (none,l,h)) st)→(l < h→p (l+(h - l) / 2)=true→R (.yield (none,l+(h - l) / 2+1,h)) st)→(l < h→p (l+(h - l) / 2)=false→R (.yield (none,l,l+(h - l) / 2)) st) →
   wpS (model prog w) A E s (F x (none,l,h)) R st)
  (hT:∀l h,h≤n→(∀i,i < h→p i=true)→(∀i,h≤i→i < n→p i=false)→wpS (model prog w) A E s (T (none,l,h)) Q st):wpS (model prog w) A E s (forIn [0:n] (none,lo,hi) F >>= T) Q st:=by
 refine wpS_bind (wpS_mono (wpS_forRange (I:=fun x c st'=>st'=st∧∃l h,c=(none,l,h)∧l≤h∧h≤n∧h - l≤n - x∧(∀i,i < l→p i=true)∧(∀i,h≤i→i < n→p i=false))
  (Q:=fun c st'=>st'=st∧∃l h,c=(none,l,h)∧h≤n∧(∀i,i < h→p i=true)∧(∀i,h≤i→i < n→p i=false)) ?step ?fin ⟨rfl,lo,hi,rfl,hlh,hhn,by lia,hlo,hhi⟩) ?post)
 case fin=>
  rintro c st' ⟨rfl,l,h,rfl,h1,h2,h3,h4,h5⟩
  have:l=h:=by lia
  subst this;exact ⟨rfl,l,l,rfl,h2,h4,h5⟩
 case step=>
  rintro x c st' _ hx ⟨rfl,l,h,rfl,h1,h2,h3,h4,h5⟩
  refine hF x l h _ h1 h2 (fun hge=>?_) (fun hlt hp=>?_) fun hlt hp=>?_
  ·have:l=h:=by lia
   subst this;exact ⟨rfl,l,l,rfl,h2,h4,h5⟩
  ·exact ⟨rfl,_,_,rfl,by lia,h2,by omega,fun i hi=>mono i (l+(h - l) / 2) (by lia) (by lia) hp,h5⟩
  ·refine ⟨rfl,_,_,rfl,by lia,by lia,by omega,h4,fun i hi1 hi2=>?_⟩
   cases e:p i with
   | false=>rfl
   | true=>rw [mono _ i hi1 hi2 e] at hp;cases hp
 case post=>
  rintro c st' ⟨rfl,l,h,rfl,h2,h4,h5⟩;exact hT l h h2 h4 h5
theorem gal_gen {st:SortSt} {q:Nat→Bool} {n mx:Nat} {F:Nat→BS→StateT SortSt Sem (ForInStep BS)} {T:BS→StateT SortSt Sem (Option Nat)} {Q:Option Nat→SortSt→Prop} (hm:mx≤n) (q0:q 0=true)
  (hF:∀x a b (R:ForInStep BS→SortSt→Prop),a < b→(b ≥ mx→R (.done (none,a,b)) st)→(b < mx→q b=false→R (.done (none,a,b)) st)→(b < mx→q b=true→R (.yield (none,b,2 * b+1)) st)→wpS (model prog w) A E s (F x (none,a,b)) R st)
  (hT:∀a b,a < b→q a=true→(a=0∨a < mx)→(b < mx→q b=false)→wpS (model prog w) A E s (T (none,a,b)) Q st):wpS (model prog w) A E s (forIn [0:n] (none,0,1) F >>= T) Q st:=by
 refine wpS_bind (wpS_mono (wpS_forRange (I:=fun x c st'=>st'=st∧∃a b,c=(none,a,b)∧a < b∧x+1≤b∧q a=true∧(a=0∨a < mx))
  (Q:=fun c st'=>st'=st∧∃a b,c=(none,a,b)∧a < b∧q a=true∧(a=0∨a < mx)∧(b < mx→q b=false)) ?step ?fin ⟨rfl,0,1,rfl,by lia,by lia,q0,.inl rfl⟩) ?post)
 case fin=>
  rintro c st' ⟨rfl,a,b,rfl,h1,h2,h3,h4⟩;exact ⟨rfl,a,b,rfl,h1,h3,h4,fun h=>by lia⟩
 case step=>
  rintro x c st' _ hx ⟨rfl,a,b,rfl,h1,h2,h3,h4⟩
  refine hF x a b _ h1 (fun hge=>?_) (fun hlt hp=>?_) fun hlt hp=>?_
  ·exact ⟨rfl,a,b,rfl,h1,h3,h4,fun h=>by lia⟩
  ·exact ⟨rfl,a,b,rfl,h1,h3,h4,fun _=>hp⟩
  ·exact ⟨rfl,b,2 * b+1,rfl,by lia,by lia,hp,.inr hlt⟩
 case post=>
  rintro c st' ⟨rfl,a,b,rfl,h1,h3,h4,h5⟩;exact hT a b h1 h3 h4 h5
theorem wpS_gallop {st:SortSt} {left:Bool} {key:Keyed} {arr:Array Keyed} {base n hint:Nat} {Q:Option Nat→SortSt→Prop} (C:CmpOk prog w A s a₀ κ lt) (g:Good a₀ κ st) (p:Nat→Bool)
  (hkey:key∈a₀) (harr:∀i,i < n→base+i < arr.size∧ix arr (base+i)∈a₀) (hp:∀i,i < n→p i=if left=true then lt (ix arr (base+i)) key else !lt key (ix arr (base+i)))
  (mono:∀i j,i≤j→j < n→p j=true→p i=true) (hh:hint < n)
  (h:∀k,k≤n→(∀i,i < k→p i=true)→(∀i,k≤i→i < n→p i=false)→Q (some k) st):wpS (model prog w) A E s (gall left key arr base n hint) Q st:=by
 have bey:∀i,i < n→∀R:Option Bool→SortSt→Prop,R (some (p i)) st→wpS (model prog w) A E s (do let x ←elem' arr (base+i);if left=true then lt' x key else do let y ←lt' key x;pure (y.map (!·))) R st:=by
  intro i hi R hR;obtain ⟨h1,h2⟩:=harr i hi;rw [elem'_eq,ix_some h1];refine wpS_bind (wpS_pure ?_);rw [hp i hi] at hR
  cases left with
  | true=>exact wpS_lt C g h2 hkey hR
  | false=>exact wpS_bind (wpS_lt C g hkey h2 (wpS_pure hR))
 refine (wpS_bind ?_:wpS _ _ _ _ (gall left key arr base n hint) Q st);refine bey hint hh _ ?_
 have fin:∀(lo hi:Nat) {F:Nat→BS→StateT SortSt Sem (ForInStep BS)} {T:BS→StateT SortSt Sem (Option Nat)},lo≤hi→hi≤n→(∀i,i < lo→p i=true)→(∀i,hi≤i→i < n→p i=false) →
   (∀x l h' (R:ForInStep BS→SortSt→Prop),l≤h'→h'≤n→(l ≥ h'→R (.done (none,l,h')) st)→(l < h'→p (l+(h' - l) / 2)=true→R (.yield (none,l+(h' - l) / 2+1,h')) st)→(l < h'→p (l+(h' - l) / 2)=false→R (.yield (none,l,l+(h' - l) / 2)) st) →
    wpS (model prog w) A E s (F x (none,l,h')) R st)→(∀l h',T (none,l,h')=pure (some h'))→wpS (model prog w) A E s (forIn [0:n] (none,lo,hi) F >>= T) Q st:=fun lo hi F T h1 h2 h3 h4 hF hT=>
  bin_gen h1 h2 h3 h4 mono hF fun l h' q1 q2 q3=>by rw [hT];exact wpS_pure (h h' q1 q2 q3)
 cases hq:p hint with
 | true=>
  dsimp only;rw [if_pos rfl]
  refine gal_gen (q:=fun i=>decide (hint+i < n)&&p (hint+i)) (mx:=n - hint) (by lia) (by simp [hq,hh]) (fun x a b R hab r1 r2 r3=>?_) fun a b hab qa ha hb=>?_
  ·dsimp only
   by_cases hge:b ≥ n - hint
   ·rw [if_pos hge];exact wpS_pure (r1 hge)
   ·rw [if_neg hge]
    refine wpS_bind (bey (hint+b) (by lia) _ ?_);have hd:decide (hint+b < n)=true:=decide_eq_true (by lia)
    cases e:p (hint+b) with
    | true=>exact wpS_pure (r3 (by lia) (by simp [hd,e]))
    | false=>exact wpS_pure (r2 (by lia) (by simp [hd,e]))
  ·dsimp only
   have pa:p (hint+a)=true:=by simp at qa;exact qa.2
   have han:hint+a < n:=by simp at qa;exact qa.1
   refine fin (hint+a+1) (hint+min b (n - hint)) (by omega) (by omega) (fun i hi=>mono i (hint+a) (by lia) han pa) (fun i h1 h2=>?_) (fun x l h' R l1 l2 r1 r2 r3=>?_) fun l h'=>rfl
   ·by_cases hbm:b < n - hint
    ·have:=hb hbm
     have hd:decide (hint+b < n)=true:=decide_eq_true (by lia);rw [hd,Bool.true_and] at this
     cases e:p i with
     | false=>rfl
     | true=>rw [mono (hint+b) i (by lia) h2 e] at this;cases this
    ·omega
   ·dsimp only
    by_cases hge:l ≥ h'
    ·rw [if_pos hge];exact wpS_pure (r1 hge)
    ·rw [if_neg hge]
     refine wpS_bind (bey (l+(h' - l) / 2) (by lia) _ ?_)
     cases e:p (l+(h' - l) / 2) with
     | true=>exact wpS_pure (r2 (by lia) e)
     | false=>exact wpS_pure (r3 (by lia) e)
 | false=>
  dsimp only;rw [if_neg Bool.false_ne_true]
  refine gal_gen (q:=fun i=>decide (i≤hint)&&!p (hint - i)) (mx:=hint+1) (by lia) (by simp [hq]) (fun x a b R hab r1 r2 r3=>?_) fun a b hab qa ha hb=>?_
  ·dsimp only
   by_cases hge:b ≥ hint+1
   ·rw [if_pos hge];exact wpS_pure (r1 hge)
   ·rw [if_neg hge]
    refine wpS_bind (bey (hint - b) (by omega) _ ?_);have hd:decide (b≤hint)=true:=decide_eq_true (by lia)
    cases e:p (hint - b) with
    | true=>exact wpS_pure (r2 (by lia) (by simp [hd,e]))
    | false=>exact wpS_pure (r3 (by lia) (by simp [hd,e]))
  ·dsimp only
   have pa:p (hint - a)=false:=by simp at qa;exact qa.2
   have han:a≤hint:=by simp at qa;exact qa.1
   refine fin (hint+1 - min b (hint+1)) (hint - a) (by omega) (by omega) (fun i hi=>?_) (fun i h1 h2=>?_) (fun x l h' R l1 l2 r1 r2 r3=>?_) fun l h'=>rfl
   ·by_cases hbm:b < hint+1
    ·have:=hb hbm
     have hd:decide (b≤hint)=true:=decide_eq_true (by lia);rw [hd,Bool.true_and] at this;exact mono i (hint - b) (by omega) (by lia) (by simpa using this)
    ·omega
   ·cases e:p i with
    | false=>rfl
    | true=>rw [mono (hint - a) i h1 h2 e] at pa;cases pa
   ·dsimp only
    by_cases hge:l ≥ h'
    ·rw [if_pos hge];exact wpS_pure (r1 hge)
    ·rw [if_neg hge]
     refine wpS_bind (bey (l+(h' - l) / 2) (by lia) _ ?_)
     cases e:p (l+(h' - l) / 2) with
     | true=>exact wpS_pure (r2 (by lia) e)
     | false=>exact wpS_pure (r3 (by lia) e)
end
end Srt
namespace Srt
open PySem PyProof.Rows
structure MI (R:Keyed→Keyed→Prop) (T o ra rb:List Keyed):Prop where
 perm:(o++(ra++rb)).Perm T
 srt:o.Pairwise R
 low:∀x∈o,∀y∈ra++rb,R x y
 sa:ra.Pairwise R
 sb:rb.Pairwise R
structure Fin' (R:Keyed→Keyed→Prop) (T r:List Keyed):Prop where
 perm:r.Perm T
 srt:r.Pairwise R
section
variable {R:Keyed→Keyed→Prop} {T o ra rb xs:List Keyed}
theorem MI.takeA (m:MI R T o (xs++ra) rb) (h:∀x∈xs,∀y∈rb,R x y):MI R T (o++xs) ra rb:=by
 have sa:=List.pairwise_append.mp m.sa;refine ⟨by simpa [List.append_assoc] using m.perm,List.pairwise_append.mpr ⟨m.srt,sa.1,fun x hx y hy=>m.low x hx y (by simp [hy])⟩,fun x hx y hy=>?_,sa.2.1,m.sb⟩
 rcases List.mem_append.mp hx with hx | hx
 ·exact m.low x hx y (by rcases List.mem_append.mp hy with h | h <;> simp [h])
 ·rcases List.mem_append.mp hy with hy | hy
  ·exact sa.2.2 x hx y hy
  ·exact h x hx y hy
theorem MI.takeB (m:MI R T o ra (xs++rb)) (h:∀x∈xs,∀y∈ra,R x y):MI R T (o++xs) ra rb:=by
 have sb:=List.pairwise_append.mp m.sb;refine ⟨?_,List.pairwise_append.mpr ⟨m.srt,sb.1,fun x hx y hy=>m.low x hx y (by simp [hy])⟩,fun x hx y hy=>?_,m.sa,sb.2.1⟩
 ·refine List.Perm.trans ?_ m.perm
  rw [List.append_assoc];refine List.Perm.append_left o ?_;rw [←List.append_assoc,←List.append_assoc];exact List.Perm.append_right rb List.perm_append_comm
 ·rcases List.mem_append.mp hx with hx | hx
  ·exact m.low x hx y (by rcases List.mem_append.mp hy with h | h <;> simp [h])
  ·rcases List.mem_append.mp hy with hy | hy
   ·exact h x hx y hy
   ·exact sb.2.2 x hx y hy
theorem MI.endA (m:MI R T o ra []):Fin' R T (o++ra):=by
 refine ⟨by simpa using m.perm,List.pairwise_append.mpr ⟨m.srt,m.sa,fun x hx y hy=>m.low x hx y (by simp [hy])⟩⟩
theorem MI.endB (m:MI R T o [] rb):Fin' R T (o++rb):=by
 refine ⟨by simpa using m.perm,List.pairwise_append.mpr ⟨m.srt,m.sb,fun x hx y hy=>m.low x hx y (by simp [hy])⟩⟩
theorem MI.last (m:MI R T o ra rb) (h:∀y∈rb,∀x∈ra,R y x):Fin' R T (o++(rb++ra)):=by
 refine ⟨(List.Perm.append_left o List.perm_append_comm).trans m.perm,List.pairwise_append.mpr ⟨m.srt,List.pairwise_append.mpr ⟨m.sb,m.sa,h⟩,fun x hx y hy=>m.low x hx y (by rcases List.mem_append.mp hy with h | h <;> simp [h])⟩⟩
end
theorem drop_ix {a:Array Keyed} {i:Nat} (h:i < a.size):a.toList.drop i=ix a i :: a.toList.drop (i+1):=by
 rw [List.drop_eq_getElem_cons (by simpa using h)]
 congr 1
 have:=ix_some h;rw [getElem?_pos a i h] at this;simpa using this
theorem drop_ext {a:Array Keyed} {i k:Nat} (h:i+k≤a.size):a.toList.drop i=(a.extract i (i+k)).toList++a.toList.drop (i+k):=by
 have e:(a.extract i (i+k)).toList=(a.toList.drop i).take k:=by simp [List.extract]
 rw [e,←List.drop_drop,List.take_append_drop]
theorem mem_ext {a:Array Keyed} {i k:Nat} (h:i+k≤a.size) {x:Keyed} (hx:x∈(a.extract i (i+k)).toList):∃j,j < k∧x=ix a (i+j):=by
 rw [Array.mem_toList_iff,Array.mem_extract_iff_getElem] at hx;obtain ⟨j,hj,rfl⟩:=hx;refine ⟨j,by lia,?_⟩;have:=ix_some (xs:=a) (i:=i+j) (by lia);rw [getElem?_pos a _ (by lia)] at this;simpa using this
theorem ext_end (a:Array Keyed) (i:Nat):(a.extract i a.size).toList=a.toList.drop i:=by
 simp [List.extract];exact List.take_of_length_le (by simp)
theorem mem_drop_ix {a:Array Keyed} {i:Nat} {x:Keyed} (hx:x∈a.toList.drop i):∃j,i≤j∧j < a.size∧x=ix a j:=by
 obtain ⟨k,hk,rfl⟩:=List.mem_iff_getElem.mp hx;simp at hk;refine ⟨i+k,by lia,by omega,?_⟩;have:=ix_some (xs:=a) (i:=i+k) (by omega);rw [getElem?_pos a _ (by omega)] at this;simpa using this
section
variable {prog:Program} {w:World} {A:Around} {E:Value→Shared→Prop} {s:Shared} {a₀:Array Keyed} {κ:SortKind} {lt:Keyed→Keyed→Bool}
theorem wpS_elem {st:SortSt} {a:Array Keyed} {i:Nat} {Q:Keyed→SortSt→Prop} (h:i < a.size) (hq:Q (ix a i) st):wpS (model prog w) A E s (elem' a i) Q st:=by
 rw [elem'_eq,ix_some h];exact wpS_pure hq
noncomputable def mLo:Array Keyed→Array Keyed→StateT SortSt Sem (Array Keyed):=sortPriv% PySem.Builtin.mergeLo
noncomputable def mHi:Array Keyed→Array Keyed→StateT SortSt Sem (Array Keyed):=sortPriv% PySem.Builtin.mergeHi
structure Same (a₀:Array Keyed) (κ:SortKind) (st st':SortSt):Prop where
 good:Good a₀ κ st'
 arr:arrOf st'=arrOf st
 pend:pendingOf st'=pendingOf st
theorem Same.gal {st st':SortSt} (h:Same a₀ κ st st') (n:Nat):Same a₀ κ st (SortSt.mk' (kindOf st') (arrOf st') (pendingOf st') n (failedOf st')):=⟨⟨h.good.perm,h.good.kind,h.good.failed⟩,h.arr,h.pend⟩
noncomputable abbrev Rl (lt:Keyed→Keyed→Bool) (x y:Keyed):Prop:=lt y x=false
theorem up_ix (O:Ord (·∈a₀) lt) {a:Array Keyed} (ma:∀i,i < a.size→ix a i∈a₀) (sa:a.toList.Pairwise (Rl lt)):∀i j,i≤j→j < a.size→Rl lt (ix a i) (ix a j):=fun i j hij hj=>by
 by_cases e:i=j
 ·subst e;exact O.irr (ma i hj)
 ·have hd:=drop_ix (a:=a) (i:=i) (by lia)
  have:=sa.sublist (List.drop_sublist i a.toList);rw [hd] at this;refine (List.pairwise_cons.mp this).1 _ ?_;rw [show a.toList.drop (i+1)=(a.extract (i+1) (i+1+(j - (i+1)))).toList++a.toList.drop (i+1+(j - (i+1))) from drop_ext (by lia),show i+1+(j - (i+1))=j by lia,drop_ix hj];simp
theorem ix_mem {a:Array Keyed} (ma:∀x∈a.toList,x∈a₀):∀i,i < a.size→ix a i∈a₀:=fun i hi=>ma _ (Array.mem_toList_iff.mpr (Array.mem_of_getElem? (ix_some hi)))
theorem wpS_gal {st:SortSt} {n:Nat} {Q:Unit→SortSt→Prop} (h:Q () (SortSt.mk' (kindOf st) (arrOf st) (pendingOf st) n (failedOf st))):wpS (model prog w) A E s ((sortPriv% PySem.Builtin.setMinGallop) n) Q st:=wpS_modify h
noncomputable abbrev L7:=Option (Array Keyed)×Array Keyed×Nat×Nat×Nat×Nat×Nat
theorem wpS_mLo {st:SortSt} {a b:Array Keyed} {Q:Array Keyed→SortSt→Prop} (C:CmpOk prog w A s a₀ κ lt) (O:Ord (·∈a₀) lt) (g:Good a₀ κ st)
  (ma:∀x∈a.toList,x∈a₀) (mb:∀x∈b.toList,x∈a₀) (sa:a.toList.Pairwise (Rl lt)) (sb:b.toList.Pairwise (Rl lt)) (na:0 < a.size) (nb:0 < b.size)
  (h0:∀x∈a.toList,Rl lt (ix b 0) x) (h1:∀y∈b.toList,Rl lt y (ix a (a.size - 1)))
  (h:∀r st',Same a₀ κ st st'→Fin' (Rl lt) (a.toList++b.toList) r.toList→Q r st'):wpS (model prog w) A E s (mLo a b) Q st:=by
 have ia0:=ix_mem ma;have ib0:=ix_mem mb;have ua:=up_ix O ia0 sa;have ub:=up_ix O ib0 sb
 have tr:∀x y z:Keyed,x∈a₀→y∈a₀→z∈a₀→Rl lt x y→Rl lt y z→Rl lt x z:=fun x y z hx hy hz h1 h2=>O.ntr x y z hx hy hz h1 h2
 let M (out:Array Keyed) (ia ib:Nat):Prop:=MI (Rl lt) (a.toList++b.toList) out.toList (a.toList.drop ia) (b.toList.drop ib)
 have tA:∀out ia ib,M out ia ib→ia < a.size→(∀j,ib≤j→j < b.size→Rl lt (ix a ia) (ix b j))→M (out.push (ix a ia)) (ia+1) ib:=fun out ia ib m hia hr=>by
  have m':MI (Rl lt) (a.toList++b.toList) out.toList ([ix a ia]++a.toList.drop (ia+1)) (b.toList.drop ib):=by rw [List.singleton_append,←drop_ix hia];exact m
  have:=m'.takeA fun x hx y hy=>by
   obtain ⟨j,j1,j2,rfl⟩:=mem_drop_ix hy;rw [List.mem_singleton.mp hx];exact hr j j1 j2
  simpa [M] using this
 have tB:∀out ia ib,M out ia ib→ib < b.size→(∀j,ia≤j→j < a.size→Rl lt (ix b ib) (ix a j))→M (out.push (ix b ib)) ia (ib+1):=fun out ia ib m hib hr=>by
  have m':MI (Rl lt) (a.toList++b.toList) out.toList (a.toList.drop ia) ([ix b ib]++b.toList.drop (ib+1)):=by rw [List.singleton_append,←drop_ix hib];exact m
  have:=m'.takeB fun x hx y hy=>by
   obtain ⟨j,j1,j2,rfl⟩:=mem_drop_ix hy;rw [List.mem_singleton.mp hx];exact hr j j1 j2
  simpa [M] using this
 have sA:∀out ia ib k,M out ia ib→ia+k≤a.size→(∀i j,i < k→ib≤j→j < b.size→Rl lt (ix a (ia+i)) (ix b j))→M (out++a.extract ia (ia+k)) (ia+k) ib:=fun out ia ib k m hk hr=>by
  have m':MI (Rl lt) (a.toList++b.toList) out.toList ((a.extract ia (ia+k)).toList++a.toList.drop (ia+k)) (b.toList.drop ib):=by rw [←drop_ext hk];exact m
  have:=m'.takeA fun x hx y hy=>by
   obtain ⟨j,j1,j2,rfl⟩:=mem_drop_ix hy;obtain ⟨i,i1,rfl⟩:=mem_ext hk hx;exact hr i j i1 j1 j2
  show MI _ _ (out++a.extract ia (ia+k)).toList _ _;rw [Array.toList_append];exact this
 have sB:∀out ia ib k,M out ia ib→ib+k≤b.size→(∀i j,i < k→ia≤j→j < a.size→Rl lt (ix b (ib+i)) (ix a j))→M (out++b.extract ib (ib+k)) ia (ib+k):=fun out ia ib k m hk hr=>by
  have m':MI (Rl lt) (a.toList++b.toList) out.toList (a.toList.drop ia) ((b.extract ib (ib+k)).toList++b.toList.drop (ib+k)):=by rw [←drop_ext hk];exact m
  have:=m'.takeB fun x hx y hy=>by
   obtain ⟨j,j1,j2,rfl⟩:=mem_drop_ix hy;obtain ⟨i,i1,rfl⟩:=mem_ext hk hx;exact hr i j i1 j1 j2
  show MI _ _ (out++b.extract ib (ib+k)).toList _ _;rw [Array.toList_append];exact this
 have eB:∀out ia ib,M out ia ib→ib=b.size→Fin' (Rl lt) (a.toList++b.toList) (out++a.extract ia a.size++b.extract ib b.size).toList:=fun out ia ib m e=>by
  subst e
  have m':MI (Rl lt) (a.toList++b.toList) out.toList (a.toList.drop ia) []:=by
   have:b.toList.drop b.size=[]:=by simp
   rw [←this];exact m
  rw [Array.toList_append,Array.toList_append,ext_end,ext_end,show b.toList.drop b.size=[] by simp,List.append_nil];exact m'.endA
 have eA:∀out ia ib,M out ia ib→ia=a.size→Fin' (Rl lt) (a.toList++b.toList) (out++a.extract ia a.size++b.extract ib b.size).toList:=fun out ia ib m e=>by
  subst e
  have m':MI (Rl lt) (a.toList++b.toList) out.toList [] (b.toList.drop ib):=by
   have:a.toList.drop a.size=[]:=by simp
   rw [←this];exact m
  rw [Array.toList_append,Array.toList_append,ext_end,ext_end,show a.toList.drop a.size=[] by simp,List.append_nil];exact m'.endB
 have eL:∀out ia ib,M out ia ib→ia+1=a.size→Fin' (Rl lt) (a.toList++b.toList) (out++b.extract ib b.size++a.extract ia a.size).toList:=fun out ia ib m e=>by
  have:=m.last fun y hy x hx=>by
   obtain ⟨j,j1,j2,rfl⟩:=mem_drop_ix hx;obtain ⟨i,i1,i2,rfl⟩:=mem_drop_ix hy
   have:j=a.size - 1:=by lia
   subst this;exact h1 _ (Array.mem_toList_iff.mpr (Array.mem_of_getElem? (ix_some i2)))
  rw [Array.toList_append,Array.toList_append,ext_end,ext_end,List.append_assoc];exact this
 have m0:M #[] 0 0:=⟨by simp,by simp,by simp,by simpa using sa,by simpa using sb⟩
 have m1:M #[ix b 0] 0 1:=by
  have:=tB #[] 0 0 m0 nb fun j _ hj=>h0 _ (Array.mem_toList_iff.mpr (Array.mem_of_getElem? (ix_some hj)))
  simpa using this
 refine (wpS_bind (wpS_rule ?_):wpS _ _ _ _ (mLo a b) Q st);refine wpS_bind (wpS_elem nb ?_)
 by_cases c1:1=b.size
 ·refine (show wpS (model prog w) A E s (if (1==b.size)=true then _ else _) Q st from ?_)
  rw [if_pos (by simpa using c1)];exact wpS_pure (h _ st ⟨g,rfl,rfl⟩ (eB _ _ _ m1 c1))
 refine (show wpS (model prog w) A E s (if (1==b.size)=true then _ else _) Q st from ?_);rw [if_neg (by simpa using c1)]
 by_cases c2:0+1=a.size
 ·rw [if_pos (by simpa using c2)]
  exact wpS_pure (h _ st ⟨g,rfl,rfl⟩ (eL _ _ _ m1 c2))
 rw [if_neg (by simpa using c2)];refine wpS_bind (wpS_get ?_)
 refine wpS_bind (wpS_mono (wpS_forRange (I:=fun x c st'=>Same a₀ κ st st'∧∃out ia ib mg,c=(none,out,ia,ib,mg)∧M out ia ib∧ia+1 < a.size∧ib < b.size∧1+x≤ia+ib)
  (Q:=fun c st'=>Same a₀ κ st st'∧∃r z,c=(some r,z)∧Fin' (Rl lt) (a.toList++b.toList) r.toList) ?step ?fin ?init) ?post)
 case init=>exact ⟨⟨g,rfl,rfl⟩,_,_,_,_,rfl,m1,by lia,by lia,by lia⟩
 case fin=>
  rintro c st' ⟨_,out,ia,ib,mg,_,_,k1,k2,k3⟩
  lia
 case post=>
  rintro c st' ⟨s1,r,z,rfl,f⟩;exact wpS_pure (h r st' s1 f)
 case step=>
  rintro x c st1 _ _ ⟨s1,out,ia,ib,mg,rfl,m,k1,k2,k3⟩
  refine wpS_bind (wpS_mono (wpS_forRange (I:=fun y c st'=>st'=st1∧∃out' ia' ib' ac bc,c=(none,out',ia',ib',ac,bc)∧M out' ia' ib'∧ia'+1 < a.size∧ib' < b.size∧ia+ib+y≤ia'+ib')
   (Q:=fun c st'=>st'=st1∧((∃r z,c=(some r,z)∧Fin' (Rl lt) (a.toList++b.toList) r.toList)∨∃out' ia' ib' ac bc,c=(none,out',ia',ib',ac,bc)∧M out' ia' ib'∧ia'+1 < a.size∧ib' < b.size∧ia+ib+1≤ia'+ib')) ?step1 ?fin1 ?init1) ?post1)
  case init1=>exact ⟨rfl,out,ia,ib,0,0,rfl,m,k1,k2,by lia⟩
  case fin1=>
   rintro c st' ⟨rfl,out',ia',ib',ac,bc,rfl,m',q1,q2,q3⟩;exact ⟨rfl,.inr ⟨out',ia',ib',ac,bc,rfl,m',q1,q2,by lia⟩⟩
  case step1=>
   rintro y c st' _ _ ⟨rfl,out',ia',ib',ac,bc,rfl,m',q1,q2,q3⟩;refine wpS_bind (wpS_elem (i:=ib') q2 ?_);refine wpS_bind (wpS_elem (i:=ia') (show ia' < a.size by lia) ?_);refine wpS_bind (wpS_lt C s1.good (ib0 _ q2) (ia0 _ (by lia)) ?_)
   cases e:lt (ix b ib') (ix a ia') with
   | true=>
    refine wpS_bind (wpS_elem q2 ?_);have r0:Rl lt (ix b ib') (ix a ia'):=O.asym _ _ (ib0 _ q2) (ia0 _ (by lia)) e
    have m2:=tB out' ia' ib' m' q2 fun j j1 j2=>tr _ _ _ (ib0 _ q2) (ia0 _ (by lia)) (ia0 _ j2) r0 (ua ia' j j1 j2)
    refine (show wpS (model prog w) A E s (if (ib'+1==b.size)=true then _ else _) _ st' from ?_)
    by_cases d:ib'+1=b.size
    ·rw [if_pos (by simpa using d)]
     exact wpS_pure ⟨rfl,.inl ⟨_,_,rfl,eB _ _ _ m2 d⟩⟩
    ·rw [if_neg (by simpa using d)]
     split
     ·exact wpS_pure ⟨rfl,.inr ⟨_,ia',ib'+1,_,_,rfl,m2,by omega,by lia,by lia⟩⟩
     ·exact wpS_pure ⟨rfl,_,ia',ib'+1,_,_,rfl,m2,by omega,by lia,by lia⟩
   | false=>
    refine wpS_bind (wpS_elem (show ia' < a.size by lia) ?_)
    have m2:=tA out' ia' ib' m' (by lia) fun j j1 j2=>tr _ _ _ (ia0 _ (by lia)) (ib0 _ q2) (ib0 _ j2) e (ub ib' j j1 j2)
    refine (show wpS (model prog w) A E s (if (ia'+1+1==a.size)=true then _ else _) _ st' from ?_)
    by_cases d:ia'+1+1=a.size
    ·rw [if_pos (by simpa using d)]
     exact wpS_pure ⟨rfl,.inl ⟨_,_,rfl,eL _ _ _ m2 d⟩⟩
    ·rw [if_neg (by simpa using d)]
     split
     ·exact wpS_pure ⟨rfl,.inr ⟨_,ia'+1,ib',_,_,rfl,m2,by lia,by omega,by lia⟩⟩
     ·exact wpS_pure ⟨rfl,_,ia'+1,ib',_,_,rfl,m2,by lia,by omega,by lia⟩
  case post1=>
   rintro c st' ⟨rfl,⟨r,z,rfl,f⟩ | ⟨out',ia',ib',ac,bc,rfl,m',q1,q2,q3⟩⟩
   ·exact wpS_pure ⟨s1,_,_,rfl,f⟩
   refine wpS_bind (wpS_rule ?_)
   refine wpS_bind (wpS_mono (wpS_forRange (I:=fun y c st2=>Same a₀ κ st st2∧∃out2 ia2 ib2 mg2 ac bc,c=(none,out2,ia2,ib2,mg2,ac,bc)∧M out2 ia2 ib2∧ia2+1 < a.size∧ib2 < b.size∧ia+ib+1≤ia2+ib2)
    (Q:=fun c st2=>Same a₀ κ st st2∧((∃r z,c=(some r,z)∧Fin' (Rl lt) (a.toList++b.toList) r.toList)∨∃out2 ia2 ib2 mg2 ac bc,c=(none,out2,ia2,ib2,mg2,ac,bc)∧M out2 ia2 ib2∧ia2+1 < a.size∧ib2 < b.size∧ia+ib+1≤ia2+ib2)) ?step2 ?fin2 ?init2) ?post2)
   case init2=>exact ⟨s1,out',ia',ib',mg+1,ac,bc,rfl,m',q1,q2,q3⟩
   case fin2=>
    rintro c st2 ⟨s2,out2,ia2,ib2,mg2,ac2,bc2,rfl,m2,p1,p2,p3⟩;exact ⟨s2,.inr ⟨out2,ia2,ib2,mg2,ac2,bc2,rfl,m2,p1,p2,p3⟩⟩
   case post2=>
    rintro c st2 ⟨s2,⟨r,z,rfl,f⟩ | ⟨out2,ia2,ib2,mg2,ac2,bc2,rfl,m2,p1,p2,p3⟩⟩
    ·exact wpS_pure ⟨s2,_,_,rfl,f⟩
    ·exact wpS_bind (wpS_gal (wpS_pure ⟨s2.gal _,out2,ia2,ib2,mg2+1,rfl,m2,p1,p2,by lia⟩))
   case step2=>
    rintro y c st2 _ _ ⟨s2,out2,ia2,ib2,mg2,ac2,bc2,rfl,m2,p1,p2,p3⟩
    let P:ForInStep L7→SortSt→Prop:=fun r st'=>match r with
     | .done c'=>Same a₀ κ st st'∧((∃r z,c'=(some r,z)∧Fin' (Rl lt) (a.toList++b.toList) r.toList)∨∃out2 ia2 ib2 mg2 ac bc,c'=(none,out2,ia2,ib2,mg2,ac,bc)∧M out2 ia2 ib2∧ia2+1 < a.size∧ib2 < b.size∧ia+ib+1≤ia2+ib2)
     | .yield c'=>Same a₀ κ st st'∧∃out2 ia2 ib2 mg2 ac bc,c'=(none,out2,ia2,ib2,mg2,ac,bc)∧M out2 ia2 ib2∧ia2+1 < a.size∧ib2 < b.size∧ia+ib+1≤ia2+ib2
    refine wpS_mono (Q:=P) ?_ fun r st' h=>by cases r <;> exact h
    refine (show wpS (model prog w) A E s (if mg2 > 1 then _ else _) P st2 from ?_);split
    all_goals
     refine wpS_bind (wpS_gal ?_);refine wpS_bind (wpS_elem (i:=ib2) p2 ?_);refine wpS_bind (wpS_gallop (base:=ia2) (n:=a.size - ia2) (hint:=0) (arr:=a) (key:=ix b ib2) (left:=false) C (s2.gal _).good (fun i=>!lt (ix b ib2) (ix a (ia2+i))) (ib0 _ p2) (fun i hi=>⟨by lia,ia0 _ (by lia)⟩) (fun i hi=>rfl) (fun i j hij hj e=>?_) (by lia) fun k hk k1 k2=>?_)
     ·have e':lt (ix b ib2) (ix a (ia2+j))=false:=by simpa using e
      have:=tr _ _ _ (ia0 _ (by lia)) (ia0 _ (by lia)) (ib0 _ p2) (ua (ia2+i) (ia2+j) (by lia) (by lia)) e';simpa using this
     ·have far:∀j,ia2+k≤j→j < a.size→Rl lt (ix b ib2) (ix a j):=fun j j1 j2=>by
       have:=k2 (j - ia2) (by lia) (by lia);rw [show ia2+(j - ia2)=j by lia] at this;exact O.asym _ _ (ib0 _ p2) (ia0 _ j2) (by simpa using this)
      have m5:=sA out2 ia2 ib2 k m2 (by lia) fun i j hi j1 j2=>tr _ _ _ (ia0 _ (by lia)) (ib0 _ p2) (ib0 _ j2) (by simpa using k1 i hi) (ub ib2 j j1 j2)
      refine (show wpS (model prog w) A E s (if k > 0 then _ else _) P _ from ?_)
      by_cases hk0:k > 0
      ·rw [if_pos hk0]
       refine (show wpS (model prog w) A E s (if (ia2+k+1==a.size)=true then _ else _) P _ from ?_)
       by_cases d1:ia2+k+1=a.size
       ·rw [if_pos (by simpa using d1)]
        exact wpS_pure ⟨s2.gal _,.inl ⟨_,_,rfl,eL _ _ _ m5 d1⟩⟩
       rw [if_neg (by simpa using d1)]
       by_cases d2:ia2+k=a.size
       ·rw [if_pos (by simpa using d2)]
        exact wpS_pure ⟨s2.gal _,.inl ⟨_,_,rfl,eA _ _ _ m5 d2⟩⟩
       rw [if_neg (by simpa using d2)]
       have c1:ia2+k+1 < a.size:=by lia
       have c3:ia+ib+1≤ia2+k+ib2:=by lia
       have m4:=tB _ _ _ m5 p2 far;refine wpS_bind (wpS_elem (i:=ib2) p2 ?_);refine (show wpS (model prog w) A E s (if (ib2+1==b.size)=true then _ else _) P _ from ?_)
       by_cases d:ib2+1=b.size
       ·rw [if_pos (by simpa using d)]
        exact wpS_pure ⟨s2.gal _,.inl ⟨_,_,rfl,eB _ _ _ m4 d⟩⟩
       rw [if_neg (by simpa using d)];refine wpS_bind (wpS_elem (i:=ia2+k) (by lia) ?_);refine wpS_bind (wpS_gallop (base:=ib2+1) (n:=b.size - (ib2+1)) (hint:=0) (arr:=b) (key:=ix a (ia2+k)) (left:=true) C (s2.gal _).good (fun i=>lt (ix b (ib2+1+i)) (ix a (ia2+k))) (ia0 _ (by lia)) (fun i hi=>⟨by lia,ib0 _ (by lia)⟩) (fun i hi=>rfl) (fun i j hij hj e=>?_) (by lia) fun k3 hk3 k4 k5=>?_)
       ·cases e2:lt (ix b (ib2+1+i)) (ix a (ia2+k)) with
        | true=>rfl
        | false=>
         have:=tr _ _ _ (ia0 _ (by lia)) (ib0 _ (by lia)) (ib0 _ (by lia)) e2 (ub (ib2+1+i) (ib2+1+j) (by lia) (by lia));exact nomatch (show true=false from (show lt (ix b (ib2+1+j)) (ix a (ia2+k))=true from e).symm.trans this)
       ·have far2:∀j,ib2+1+k3≤j→j < b.size→Rl lt (ix a (ia2+k)) (ix b j):=fun j j1 j2=>by
         have:=k5 (j - (ib2+1)) (by lia) (by omega);rwa [show ib2+1+(j - (ib2+1))=j by lia] at this
        have m6:=sB _ (ia2+k) (ib2+1) k3 m4 (by lia) fun i j hi j1 j2=>tr _ _ _ (ib0 _ (by lia)) (ia0 _ (by lia)) (ia0 _ j2) (O.asym _ _ (ib0 _ (by lia)) (ia0 _ (by lia)) (k4 i hi)) (ua (ia2+k) j j1 j2)
        refine (show wpS (model prog w) A E s (if k3 > 0 then _ else _) P _ from ?_)
        by_cases hk3:k3 > 0
        ·rw [if_pos hk3]
         refine (show wpS (model prog w) A E s (if (ib2+1+k3==b.size)=true then _ else _) P _ from ?_)
         by_cases d2:ib2+1+k3=b.size
         ·rw [if_pos (by simpa using d2)]
          exact wpS_pure ⟨s2.gal _,.inl ⟨_,_,rfl,eB _ _ _ m6 d2⟩⟩
         rw [if_neg (by simpa using d2)];have m7:=tA _ _ _ m6 (by lia) far2;refine wpS_bind (wpS_elem (i:=ia2+k) (by lia) ?_);refine (show wpS (model prog w) A E s (if (ia2+k+1+1==a.size)=true then _ else _) P _ from ?_)
         by_cases d3:ia2+k+1+1=a.size
         ·rw [if_pos (by simpa using d3)]
          exact wpS_pure ⟨s2.gal _,.inl ⟨_,_,rfl,eL _ _ _ m7 d3⟩⟩
         rw [if_neg (by simpa using d3)];split
         ·exact wpS_pure ⟨s2.gal _,.inr ⟨_,ia2+k+1,ib2+1+k3,_,_,_,rfl,m7,by lia,by lia,by lia⟩⟩
         ·exact wpS_pure ⟨s2.gal _,_,ia2+k+1,ib2+1+k3,_,_,_,rfl,m7,by lia,by lia,by lia⟩
        ·rw [if_neg hk3]
         have:k3=0:=by lia
         subst this;have m7:=tA _ _ _ m4 (by lia) far2;refine wpS_bind (wpS_elem (i:=ia2+k) (by lia) ?_);refine (show wpS (model prog w) A E s (if (ia2+k+1+1==a.size)=true then _ else _) P _ from ?_)
         by_cases d3:ia2+k+1+1=a.size
         ·rw [if_pos (by simpa using d3)]
          exact wpS_pure ⟨s2.gal _,.inl ⟨_,_,rfl,eL _ _ _ m7 d3⟩⟩
         rw [if_neg (by simpa using d3)];split
         ·exact wpS_pure ⟨s2.gal _,.inr ⟨_,ia2+k+1,ib2+1,_,_,_,rfl,m7,by lia,by lia,by lia⟩⟩
         ·exact wpS_pure ⟨s2.gal _,_,ia2+k+1,ib2+1,_,_,_,rfl,m7,by lia,by lia,by lia⟩
      ·rw [if_neg hk0]
       have:k=0:=by lia
       subst this
       have c1:ia2+1 < a.size:=by omega
       have c3:ia+ib+1≤ia2+ib2:=by omega
       have m4:=tB _ _ _ m2 p2 far;refine wpS_bind (wpS_elem (i:=ib2) p2 ?_);refine (show wpS (model prog w) A E s (if (ib2+1==b.size)=true then _ else _) P _ from ?_)
       by_cases d:ib2+1=b.size
       ·rw [if_pos (by simpa using d)]
        exact wpS_pure ⟨s2.gal _,.inl ⟨_,_,rfl,eB _ _ _ m4 d⟩⟩
       rw [if_neg (by simpa using d)];refine wpS_bind (wpS_elem (i:=ia2) (by lia) ?_);refine wpS_bind (wpS_gallop (base:=ib2+1) (n:=b.size - (ib2+1)) (hint:=0) (arr:=b) (key:=ix a ia2) (left:=true) C (s2.gal _).good (fun i=>lt (ix b (ib2+1+i)) (ix a ia2)) (ia0 _ (by lia)) (fun i hi=>⟨by lia,ib0 _ (by lia)⟩) (fun i hi=>rfl) (fun i j hij hj e=>?_) (by lia) fun k3 hk3 k4 k5=>?_)
       ·cases e2:lt (ix b (ib2+1+i)) (ix a ia2) with
        | true=>rfl
        | false=>
         have:=tr _ _ _ (ia0 _ (by lia)) (ib0 _ (by lia)) (ib0 _ (by lia)) e2 (ub (ib2+1+i) (ib2+1+j) (by lia) (by lia));exact nomatch (show true=false from (show lt (ix b (ib2+1+j)) (ix a ia2)=true from e).symm.trans this)
       ·have far2:∀j,ib2+1+k3≤j→j < b.size→Rl lt (ix a ia2) (ix b j):=fun j j1 j2=>by
         have:=k5 (j - (ib2+1)) (by lia) (by omega);rwa [show ib2+1+(j - (ib2+1))=j by lia] at this
        have m6:=sB _ ia2 (ib2+1) k3 m4 (by lia) fun i j hi j1 j2=>tr _ _ _ (ib0 _ (by lia)) (ia0 _ (by lia)) (ia0 _ j2) (O.asym _ _ (ib0 _ (by lia)) (ia0 _ (by lia)) (k4 i hi)) (ua ia2 j j1 j2)
        refine (show wpS (model prog w) A E s (if k3 > 0 then _ else _) P _ from ?_)
        by_cases hk3:k3 > 0
        ·rw [if_pos hk3]
         refine (show wpS (model prog w) A E s (if (ib2+1+k3==b.size)=true then _ else _) P _ from ?_)
         by_cases d2:ib2+1+k3=b.size
         ·rw [if_pos (by simpa using d2)]
          exact wpS_pure ⟨s2.gal _,.inl ⟨_,_,rfl,eB _ _ _ m6 d2⟩⟩
         rw [if_neg (by simpa using d2)];have m7:=tA _ _ _ m6 (by lia) far2;refine wpS_bind (wpS_elem (i:=ia2) (by lia) ?_);refine (show wpS (model prog w) A E s (if (ia2+1+1==a.size)=true then _ else _) P _ from ?_)
         by_cases d3:ia2+1+1=a.size
         ·rw [if_pos (by simpa using d3)]
          exact wpS_pure ⟨s2.gal _,.inl ⟨_,_,rfl,eL _ _ _ m7 d3⟩⟩
         rw [if_neg (by simpa using d3)];split
         ·exact wpS_pure ⟨s2.gal _,.inr ⟨_,ia2+1,ib2+1+k3,_,_,_,rfl,m7,by lia,by lia,by lia⟩⟩
         ·exact wpS_pure ⟨s2.gal _,_,ia2+1,ib2+1+k3,_,_,_,rfl,m7,by lia,by lia,by lia⟩
        ·rw [if_neg hk3]
         have:k3=0:=by lia
         subst this;have m7:=tA _ _ _ m4 (by lia) far2;refine wpS_bind (wpS_elem (i:=ia2) (by lia) ?_);refine (show wpS (model prog w) A E s (if (ia2+1+1==a.size)=true then _ else _) P _ from ?_)
         by_cases d3:ia2+1+1=a.size
         ·rw [if_pos (by simpa using d3)]
          exact wpS_pure ⟨s2.gal _,.inl ⟨_,_,rfl,eL _ _ _ m7 d3⟩⟩
         rw [if_neg (by simpa using d3)];split
         ·exact wpS_pure ⟨s2.gal _,.inr ⟨_,ia2+1,ib2+1,_,_,_,rfl,m7,by lia,by lia,by lia⟩⟩
         ·exact wpS_pure ⟨s2.gal _,_,ia2+1,ib2+1,_,_,_,rfl,m7,by lia,by lia,by lia⟩
end
end Srt
namespace Srt
open PySem PyProof.Rows
theorem MI.last2 {R:Keyed→Keyed→Prop} {T o ra rb:List Keyed} (m:MI R T o ra rb) (h:∀x∈ra,∀y∈rb,R x y):Fin' R T (o++(ra++rb)):=by
 refine ⟨m.perm,List.pairwise_append.mpr ⟨m.srt,List.pairwise_append.mpr ⟨m.sa,m.sb,h⟩,fun x hx y hy=>m.low x hx y hy⟩⟩
theorem Fin'.rev {lt:Keyed→Keyed→Bool} {T r:List Keyed} (f:Fin' (fun x y=>Rl lt y x) T r):Fin' (Rl lt) T r.reverse:=⟨r.reverse_perm.trans f.perm,List.pairwise_reverse.mpr f.srt⟩
theorem take_ix {a:Array Keyed} {i:Nat} (h:i < a.size):(a.toList.take (i+1)).reverse=ix a i :: (a.toList.take i).reverse:=by
 have:=ix_some h;rw [getElem?_pos a i h] at this;rw [List.take_add_one,show a.toList[i]?=some (ix a i) by simpa using ix_some h];simp
theorem take_ext {a:Array Keyed} {i n:Nat} (h:i≤n) (hn:n≤a.size):(a.toList.take n).reverse=(a.extract i n).toList.reverse++(a.toList.take i).reverse:=by
 have e:(a.extract i n).toList=(a.toList.take n).drop i:=by simp [List.extract,List.drop_take]
 rw [e,←List.reverse_append]
 congr 1
 have:=List.take_append_drop i (a.toList.take n);rw [List.take_take,show min i n=i by lia] at this;exact this.symm
theorem mem_take_ix {a:Array Keyed} {n:Nat} {x:Keyed} (hx:x∈(a.toList.take n).reverse):∃j,j < n∧j < a.size∧x=ix a j:=by
 rw [List.mem_reverse] at hx;obtain ⟨k,hk,rfl⟩:=List.mem_iff_getElem.mp hx;simp at hk;refine ⟨k,by lia,by lia,?_⟩;have:=ix_some (xs:=a) (i:=k) (by lia);rw [getElem?_pos a _ (by lia)] at this;simpa using this
theorem mem_ext2 {a:Array Keyed} {i n:Nat} {x:Keyed} (hx:x∈(a.extract i n).toList.reverse):∃j,i≤j∧j < n∧j < a.size∧x=ix a j:=by
 rw [List.mem_reverse,Array.mem_toList_iff,Array.mem_extract_iff_getElem] at hx;obtain ⟨j,hj,rfl⟩:=hx;refine ⟨i+j,by lia,by omega,by omega,?_⟩;have:=ix_some (xs:=a) (i:=i+j) (by omega);rw [getElem?_pos a _ (by omega)] at this;simpa using this
theorem ext_begin (a:Array Keyed) (n:Nat):(a.extract 0 n).toList=a.toList.take n:=by simp [List.extract]
section
variable {prog:Program} {w:World} {A:Around} {E:Value→Shared→Prop} {s:Shared} {a₀:Array Keyed} {κ:SortKind} {lt:Keyed→Keyed→Bool}
theorem wpS_mHi {st:SortSt} {a b:Array Keyed} {Q:Array Keyed→SortSt→Prop} (C:CmpOk prog w A s a₀ κ lt) (O:Ord (·∈a₀) lt) (g:Good a₀ κ st)
  (ma:∀x∈a.toList,x∈a₀) (mb:∀x∈b.toList,x∈a₀) (sa:a.toList.Pairwise (Rl lt)) (sb:b.toList.Pairwise (Rl lt)) (pa:0 < a.size) (pb:0 < b.size)
  (h0:∀x∈a.toList,Rl lt (ix b 0) x) (h1:∀y∈b.toList,Rl lt y (ix a (a.size - 1)))
  (h:∀r st',Same a₀ κ st st'→Fin' (Rl lt) (a.toList++b.toList) r.toList→Q r st'):wpS (model prog w) A E s (mHi a b) Q st:=by
 have ia0:=ix_mem ma;have ib0:=ix_mem mb;have ua:=up_ix O ia0 sa;have ub:=up_ix O ib0 sb
 have tr:∀x y z:Keyed,x∈a₀→y∈a₀→z∈a₀→Rl lt x y→Rl lt y z→Rl lt x z:=fun x y z hx hy hz h1 h2=>O.ntr x y z hx hy hz h1 h2
 let M (out:Array Keyed) (na nb:Nat):Prop:=MI (fun x y=>Rl lt y x) (a.toList++b.toList) out.toList (a.toList.take na).reverse (b.toList.take nb).reverse
 have tA0:∀out na nb,M out (na+1) nb→na < a.size→nb≤b.size→(∀j,j < nb→Rl lt (ix b j) (ix a na))→M (out.push (ix a na)) na nb:=fun out na nb m hna hnb hr=>by
  have m':MI (fun x y=>Rl lt y x) (a.toList++b.toList) out.toList ([ix a na]++(a.toList.take na).reverse) (b.toList.take nb).reverse:=by rw [List.singleton_append,←take_ix hna];exact m
  have:=m'.takeA fun x hx y hy=>by
   obtain ⟨j,j1,j2,rfl⟩:=mem_take_ix hy;rw [List.mem_singleton.mp hx];exact hr j j1
  simpa [M] using this
 have tB0:∀out na nb,M out na (nb+1)→nb < b.size→na≤a.size→(∀j,j < na→Rl lt (ix a j) (ix b nb))→M (out.push (ix b nb)) na nb:=fun out na nb m hnb hna hr=>by
  have m':MI (fun x y=>Rl lt y x) (a.toList++b.toList) out.toList (a.toList.take na).reverse ([ix b nb]++(b.toList.take nb).reverse):=by rw [List.singleton_append,←take_ix hnb];exact m
  have:=m'.takeB fun x hx y hy=>by
   obtain ⟨j,j1,j2,rfl⟩:=mem_take_ix hy;rw [List.mem_singleton.mp hx];exact hr j j1
  simpa [M] using this
 have tA:∀out na nb,M out na nb→0 < na→na≤a.size→nb≤b.size→(∀j,j < nb→Rl lt (ix b j) (ix a (na - 1)))→M (out.push (ix a (na - 1))) (na - 1) nb:=fun out na nb m h0 hna hnb hr=>
  tA0 out (na - 1) nb (by rw [show na - 1+1=na by lia];exact m) (by omega) hnb hr
 have tB:∀out na nb,M out na nb→0 < nb→nb≤b.size→na≤a.size→(∀j,j < na→Rl lt (ix a j) (ix b (nb - 1)))→M (out.push (ix b (nb - 1))) na (nb - 1):=fun out na nb m h0 hnb hna hr=>
  tB0 out na (nb - 1) (by rw [show nb - 1+1=nb by lia];exact m) (by omega) hna hr
 have sA:∀out na nb k,M out na nb→k≤na→na≤a.size→nb≤b.size→(∀i j,k≤i→i < na→j < nb→Rl lt (ix b j) (ix a i))→M (out++(a.extract k na).reverse) k nb:=fun out na nb k m hk hna hnb hr=>by
  have m':MI (fun x y=>Rl lt y x) (a.toList++b.toList) out.toList ((a.extract k na).toList.reverse++(a.toList.take k).reverse) (b.toList.take nb).reverse:=by rw [←take_ext hk hna];exact m
  have:=m'.takeA fun x hx y hy=>by
   obtain ⟨j,j1,j2,rfl⟩:=mem_take_ix hy;obtain ⟨i,i1,i2,i3,rfl⟩:=mem_ext2 hx;exact hr i j i1 i2 j1
  show MI _ _ (out++(a.extract k na).reverse).toList _ _;rw [Array.toList_append,Array.toList_reverse];exact this
 have sB:∀out na nb k,M out na nb→k≤nb→nb≤b.size→na≤a.size→(∀i j,k≤i→i < nb→j < na→Rl lt (ix a j) (ix b i))→M (out++(b.extract k nb).reverse) na k:=fun out na nb k m hk hnb hna hr=>by
  have m':MI (fun x y=>Rl lt y x) (a.toList++b.toList) out.toList (a.toList.take na).reverse ((b.extract k nb).toList.reverse++(b.toList.take k).reverse):=by rw [←take_ext hk hnb];exact m
  have:=m'.takeB fun x hx y hy=>by
   obtain ⟨j,j1,j2,rfl⟩:=mem_take_ix hy;obtain ⟨i,i1,i2,i3,rfl⟩:=mem_ext2 hx;exact hr i j i1 i2 j1
  show MI _ _ (out++(b.extract k nb).reverse).toList _ _;rw [Array.toList_append,Array.toList_reverse];exact this
 have eA:∀out na nb,M out na nb→na=0→Fin' (Rl lt) (a.toList++b.toList) (a.extract 0 na++b.extract 0 nb++out.reverse).toList:=fun out na nb m e=>by
  subst e
  have m':MI (fun x y=>Rl lt y x) (a.toList++b.toList) out.toList [] (b.toList.take nb).reverse:=by simpa [M] using m
  have:=m'.endB.rev;rw [Array.toList_append,Array.toList_append,ext_begin,ext_begin,Array.toList_reverse];simpa using this
 have eB:∀out na nb,M out na nb→nb=0→Fin' (Rl lt) (a.toList++b.toList) (a.extract 0 na++b.extract 0 nb++out.reverse).toList:=fun out na nb m e=>by
  subst e
  have m':MI (fun x y=>Rl lt y x) (a.toList++b.toList) out.toList (a.toList.take na).reverse []:=by simpa [M] using m
  have:=m'.endA.rev;rw [Array.toList_append,Array.toList_append,ext_begin,ext_begin,Array.toList_reverse];simpa using this
 have eF:∀out na nb,M out na nb→nb=1→Fin' (Rl lt) (a.toList++b.toList) (b.extract 0 nb++a.extract 0 na++out.reverse).toList:=fun out na nb m e=>by
  have:=m.last2 fun x hx y hy=>by
   obtain ⟨j,j1,j2,rfl⟩:=mem_take_ix hx;obtain ⟨i,i1,i2,rfl⟩:=mem_take_ix hy
   have:i=0:=by lia
   subst this;exact h0 _ (Array.mem_toList_iff.mpr (Array.mem_of_getElem? (ix_some j2)))
  have:=this.rev;rw [Array.toList_append,Array.toList_append,ext_begin,ext_begin,Array.toList_reverse];simpa using this
 have m0:M #[] a.size b.size:=by
  refine ⟨?_,by simp,by simp,?_,?_⟩
  ·rw [List.take_of_length_le (by simp),List.take_of_length_le (by simp)]
   simpa using List.Perm.append a.toList.reverse_perm b.toList.reverse_perm
  ·rw [List.take_of_length_le (by simp)];exact List.pairwise_reverse.mpr sa
  ·rw [List.take_of_length_le (by simp)];exact List.pairwise_reverse.mpr sb
 have m1:M #[ix a (a.size - 1)] (a.size - 1) b.size:=by
  have:=tA #[] a.size b.size m0 pa (Nat.le_refl _) (Nat.le_refl _) fun j hj=>h1 _ (Array.mem_toList_iff.mpr (Array.mem_of_getElem? (ix_some hj)))
  simpa using this
 refine (wpS_bind (wpS_rule ?_):wpS _ _ _ _ (mHi a b) Q st);refine wpS_bind (wpS_elem (i:=a.size - 1) (by omega) ?_)
 by_cases c1:a.size - 1=0
 ·refine (show wpS (model prog w) A E s (if (a.size - 1==0)=true then _ else _) Q st from ?_)
  rw [if_pos (by simpa using c1)];exact wpS_pure (h _ st ⟨g,rfl,rfl⟩ (eA _ _ _ m1 c1))
 refine (show wpS (model prog w) A E s (if (a.size - 1==0)=true then _ else _) Q st from ?_);rw [if_neg (by simpa using c1)]
 by_cases c2:b.size=1
 ·rw [if_pos (by simpa using c2)]
  exact wpS_pure (h _ st ⟨g,rfl,rfl⟩ (eF _ _ _ m1 c2))
 rw [if_neg (by simpa using c2)];refine wpS_bind (wpS_get ?_)
 refine wpS_bind (wpS_mono (wpS_forRange (I:=fun x c st'=>Same a₀ κ st st'∧∃out na nb mg,c=(none,na,nb,out,mg)∧M out na nb∧0 < na∧1 < nb∧na≤a.size∧nb≤b.size∧na+nb+1+x≤a.size+b.size)
  (Q:=fun c st'=>Same a₀ κ st st'∧∃r z,c=(some r,z)∧Fin' (Rl lt) (a.toList++b.toList) r.toList) ?step ?fin ?init) ?post)
 case init=>exact ⟨⟨g,rfl,rfl⟩,_,a.size - 1,b.size,_,rfl,m1,by lia,by lia,by omega,by lia,by lia⟩
 case fin=>
  rintro c st' ⟨_,out,na,nb,mg,_,_,k1,k2,k3,k4,k5⟩
  lia
 case post=>
  rintro c st' ⟨s1,r,z,rfl,f⟩;exact wpS_pure (h r st' s1 f)
 case step=>
  rintro x c st1 _ _ ⟨s1,out,na,nb,mg,rfl,m,k1,k2,k3,k4,k5⟩
  refine wpS_bind (wpS_mono (wpS_forRange (I:=fun y c st'=>st'=st1∧∃out' na' nb' ac bc,c=(none,na',nb',out',ac,bc)∧M out' na' nb'∧0 < na'∧1 < nb'∧na'≤a.size∧nb'≤b.size∧na'+nb'+y≤na+nb)
   (Q:=fun c st'=>st'=st1∧((∃r z,c=(some r,z)∧Fin' (Rl lt) (a.toList++b.toList) r.toList)∨∃out' na' nb' ac bc,c=(none,na',nb',out',ac,bc)∧M out' na' nb'∧0 < na'∧1 < nb'∧na'≤a.size∧nb'≤b.size∧na'+nb'+1≤na+nb)) ?step1 ?fin1 ?init1) ?post1)
  case init1=>exact ⟨rfl,out,na,nb,0,0,rfl,m,k1,k2,k3,k4,by lia⟩
  case fin1=>
   rintro c st' ⟨rfl,out',na',nb',ac,bc,rfl,m',q1,q2,q3,q4,q5⟩;exact ⟨rfl,.inr ⟨out',na',nb',ac,bc,rfl,m',q1,q2,q3,q4,by lia⟩⟩
  case step1=>
   rintro y c st' _ _ ⟨rfl,out',na',nb',ac,bc,rfl,m',q1,q2,q3,q4,q5⟩;refine wpS_bind (wpS_elem (i:=nb' - 1) (by lia) ?_);refine wpS_bind (wpS_elem (i:=na' - 1) (by lia) ?_);refine wpS_bind (wpS_lt C s1.good (ib0 _ (by lia)) (ia0 _ (by lia)) ?_)
   cases e:lt (ix b (nb' - 1)) (ix a (na' - 1)) with
   | true=>
    refine wpS_bind (wpS_elem (i:=na' - 1) (by lia) ?_);have r0:Rl lt (ix b (nb' - 1)) (ix a (na' - 1)):=O.asym _ _ (ib0 _ (by lia)) (ia0 _ (by lia)) e
    have m2:=tA out' na' nb' m' q1 q3 q4 fun j j1=>tr _ _ _ (ib0 _ (by lia)) (ib0 _ (by lia)) (ia0 _ (by lia)) (ub j (nb' - 1) (by lia) (by lia)) r0
    refine (show wpS (model prog w) A E s (if (na' - 1==0)=true then _ else _) _ st' from ?_)
    by_cases d:na' - 1=0
    ·rw [if_pos (by simpa using d)]
     exact wpS_pure ⟨rfl,.inl ⟨_,_,rfl,eA _ _ _ m2 d⟩⟩
    ·rw [if_neg (by simpa using d)]
     split
     ·exact wpS_pure ⟨rfl,.inr ⟨_,na' - 1,nb',_,_,rfl,m2,by lia,by omega,by lia,by omega,by lia⟩⟩
     ·exact wpS_pure ⟨rfl,_,na' - 1,nb',_,_,rfl,m2,by lia,by omega,by lia,by omega,by lia⟩
   | false=>
    refine wpS_bind (wpS_elem (i:=nb' - 1) (by lia) ?_)
    have m2:=tB out' na' nb' m' (by lia) q4 q3 fun j j1=>tr _ _ _ (ia0 _ (by lia)) (ia0 _ (by lia)) (ib0 _ (by lia)) (ua j (na' - 1) (by lia) (by lia)) e
    refine (show wpS (model prog w) A E s (if (nb' - 1==1)=true then _ else _) _ st' from ?_)
    by_cases d:nb' - 1=1
    ·rw [if_pos (by simpa using d)]
     exact wpS_pure ⟨rfl,.inl ⟨_,_,rfl,eF _ _ _ m2 d⟩⟩
    ·rw [if_neg (by simpa using d)]
     split
     ·exact wpS_pure ⟨rfl,.inr ⟨_,na',nb' - 1,_,_,rfl,m2,by omega,by lia,by omega,by lia,by lia⟩⟩
     ·exact wpS_pure ⟨rfl,_,na',nb' - 1,_,_,rfl,m2,by omega,by lia,by omega,by lia,by lia⟩
  case post1=>
   rintro c st' ⟨rfl,⟨r,z,rfl,f⟩ | ⟨out',na',nb',ac,bc,rfl,m',q1,q2,q3,q4,q5⟩⟩
   ·exact wpS_pure ⟨s1,_,_,rfl,f⟩
   refine wpS_bind (wpS_rule ?_)
   refine wpS_bind (wpS_mono (wpS_forRange (I:=fun y c st2=>Same a₀ κ st st2∧∃out2 na2 nb2 mg2 ac bc,c=(none,na2,nb2,out2,mg2,ac,bc)∧M out2 na2 nb2∧0 < na2∧1 < nb2∧na2≤a.size∧nb2≤b.size∧na2+nb2+1≤na+nb)
    (Q:=fun c st2=>Same a₀ κ st st2∧((∃r z,c=(some r,z)∧Fin' (Rl lt) (a.toList++b.toList) r.toList)∨∃out2 na2 nb2 mg2 ac bc,c=(none,na2,nb2,out2,mg2,ac,bc)∧M out2 na2 nb2∧0 < na2∧1 < nb2∧na2≤a.size∧nb2≤b.size∧na2+nb2+1≤na+nb)) ?step2 ?fin2 ?init2) ?post2)
   case init2=>exact ⟨s1,out',na',nb',mg+1,ac,bc,rfl,m',q1,q2,q3,q4,q5⟩
   case fin2=>
    rintro c st2 ⟨s2,out2,na2,nb2,mg2,ac2,bc2,rfl,m2,p1⟩;exact ⟨s2,.inr ⟨out2,na2,nb2,mg2,ac2,bc2,rfl,m2,p1⟩⟩
   case post2=>
    rintro c st2 ⟨s2,⟨r,z,rfl,f⟩ | ⟨out2,na2,nb2,mg2,ac2,bc2,rfl,m2,p1,p2,p3,p4,p5⟩⟩
    ·exact wpS_pure ⟨s2,_,_,rfl,f⟩
    ·exact wpS_bind (wpS_gal (wpS_pure ⟨s2.gal _,out2,na2,nb2,mg2+1,rfl,m2,p1,p2,p3,p4,by lia⟩))
   case step2=>
    rintro y c st2 _ _ ⟨s2,out2,na2,nb2,mg2,ac2,bc2,rfl,m2,p1,p2,p3,p4,p5⟩
    let P:ForInStep (Option (Array Keyed)×Nat×Nat×Array Keyed×Nat×Nat×Nat)→SortSt→Prop:=fun r st'=>match r with
     | .done c'=>Same a₀ κ st st'∧((∃r z,c'=(some r,z)∧Fin' (Rl lt) (a.toList++b.toList) r.toList)∨∃out2 na2 nb2 mg2 ac bc,c'=(none,na2,nb2,out2,mg2,ac,bc)∧M out2 na2 nb2∧0 < na2∧1 < nb2∧na2≤a.size∧nb2≤b.size∧na2+nb2+1≤na+nb)
     | .yield c'=>Same a₀ κ st st'∧∃out2 na2 nb2 mg2 ac bc,c'=(none,na2,nb2,out2,mg2,ac,bc)∧M out2 na2 nb2∧0 < na2∧1 < nb2∧na2≤a.size∧nb2≤b.size∧na2+nb2+1≤na+nb
    refine wpS_mono (Q:=P) ?_ fun r st' h=>by cases r <;> exact h
    refine (show wpS (model prog w) A E s (if mg2 > 1 then _ else _) P st2 from ?_);split
    all_goals
     refine wpS_bind (wpS_gal ?_);refine wpS_bind (wpS_elem (i:=nb2 - 1) (by lia) ?_);refine wpS_bind (wpS_gallop (base:=0) (n:=na2) (hint:=na2 - 1) (arr:=a) (key:=ix b (nb2 - 1)) (left:=false) C (s2.gal _).good (fun i=>!lt (ix b (nb2 - 1)) (ix a (0+i))) (ib0 _ (by lia)) (fun i hi=>⟨by lia,ia0 _ (by lia)⟩) (fun i hi=>rfl) (fun i j hij hj e=>?_) (by lia) fun k hk k1 k2=>?_)
     ·have e':lt (ix b (nb2 - 1)) (ix a (0+j))=false:=by simpa using e
      have:=tr _ _ _ (ia0 _ (by lia)) (ia0 _ (by lia)) (ib0 _ (by lia)) (ua (0+i) (0+j) (by lia) (by lia)) e';simpa using this
     ·have near:∀j,j < k→Rl lt (ix a j) (ix b (nb2 - 1)):=fun j j1=>by
       have:=k1 j j1;rw [Nat.zero_add] at this;simpa using this
      have m5:=sA out2 na2 nb2 k m2 hk p3 p4 fun i j i1 i2 j1=>by
       have:=k2 i i1 i2;rw [Nat.zero_add] at this;exact tr _ _ _ (ib0 _ (by lia)) (ib0 _ (by lia)) (ia0 _ (by lia)) (ub j (nb2 - 1) (by lia) (by lia)) (O.asym _ _ (ib0 _ (by lia)) (ia0 _ (by lia)) (by simpa using this))
      refine (show wpS (model prog w) A E s (if na2 - k > 0 then _ else _) P _ from ?_)
      by_cases hk0:na2 - k > 0
      ·rw [if_pos hk0]
       refine (show wpS (model prog w) A E s (if (k==0)=true then _ else _) P _ from ?_)
       by_cases d1:k=0
       ·rw [if_pos (by simpa using d1)]
        exact wpS_pure ⟨s2.gal _,.inl ⟨_,_,rfl,eA _ _ _ m5 d1⟩⟩
       rw [if_neg (by simpa using d1)];have m4:=tB _ _ _ m5 (by lia) p4 (by lia) near;refine wpS_bind (wpS_elem (i:=nb2 - 1) (by lia) ?_);refine (show wpS (model prog w) A E s (if (nb2 - 1==1)=true then _ else _) P _ from ?_)
       by_cases d:nb2 - 1=1
       ·rw [if_pos (by simpa using d)]
        exact wpS_pure ⟨s2.gal _,.inl ⟨_,_,rfl,eF _ _ _ m4 d⟩⟩
       rw [if_neg (by simpa using d)];refine wpS_bind (wpS_elem (i:=k - 1) (by omega) ?_);refine wpS_bind (wpS_gallop (base:=0) (n:=nb2 - 1) (hint:=nb2 - 1 - 1) (arr:=b) (key:=ix a (k - 1)) (left:=true) C (s2.gal _).good (fun i=>lt (ix b (0+i)) (ix a (k - 1))) (ia0 _ (by omega)) (fun i hi=>⟨by lia,ib0 _ (by lia)⟩) (fun i hi=>rfl) (fun i j hij hj e=>?_) (by lia) fun k3 hk3 k4 k5=>?_)
       ·cases e2:lt (ix b (0+i)) (ix a (k - 1)) with
        | true=>rfl
        | false=>
         have:=tr _ _ _ (ia0 _ (by lia)) (ib0 _ (by lia)) (ib0 _ (by lia)) e2 (ub (0+i) (0+j) (by lia) (by lia));exact nomatch (show true=false from (show lt (ix b (0+j)) (ix a (k - 1))=true from e).symm.trans this)
       ·have near2:∀j,j < k3→Rl lt (ix b j) (ix a (k - 1)):=fun j j1=>by
         have:=k4 j j1;rw [Nat.zero_add] at this;exact O.asym _ _ (ib0 _ (by lia)) (ia0 _ (by omega)) this
        have m6:=sB _ k (nb2 - 1) k3 m4 hk3 (by lia) (by lia) fun i j i1 i2 j1=>by
         have:=k5 i i1 i2;rw [Nat.zero_add] at this;exact tr _ _ _ (ia0 _ (by lia)) (ia0 _ (by lia)) (ib0 _ (by lia)) (ua j (k - 1) (by lia) (by lia)) this
        refine (show wpS (model prog w) A E s (if nb2 - 1 - k3 > 0 then _ else _) P _ from ?_)
        by_cases hk4:nb2 - 1 - k3 > 0
        ·rw [if_pos hk4]
         refine (show wpS (model prog w) A E s (if (k3==1)=true then _ else _) P _ from ?_)
         by_cases d2:k3=1
         ·rw [if_pos (by simpa using d2)]
          exact wpS_pure ⟨s2.gal _,.inl ⟨_,_,rfl,eF _ _ _ m6 d2⟩⟩
         rw [if_neg (by simpa using d2)]
         by_cases d4:k3=0
         ·rw [if_pos (by simpa using d4)]
          exact wpS_pure ⟨s2.gal _,.inl ⟨_,_,rfl,eB _ _ _ m6 d4⟩⟩
         rw [if_neg (by simpa using d4)];have m7:=tA _ _ _ m6 (by lia) (by lia) (by lia) near2;refine wpS_bind (wpS_elem (i:=k - 1) (by lia) ?_);refine (show wpS (model prog w) A E s (if (k - 1==0)=true then _ else _) P _ from ?_)
         by_cases d3:k - 1=0
         ·rw [if_pos (by simpa using d3)]
          exact wpS_pure ⟨s2.gal _,.inl ⟨_,_,rfl,eA _ _ _ m7 d3⟩⟩
         rw [if_neg (by simpa using d3)];split
         ·exact wpS_pure ⟨s2.gal _,.inr ⟨_,k - 1,k3,_,_,_,rfl,m7,by lia,by lia,by lia,by lia,by lia⟩⟩
         ·exact wpS_pure ⟨s2.gal _,_,k - 1,k3,_,_,_,rfl,m7,by lia,by lia,by lia,by lia,by lia⟩
        ·rw [if_neg hk4]
         have:k3=nb2 - 1:=by lia
         subst this;have m7:=tA _ _ _ m4 (by lia) (by lia) (by lia) near2;refine wpS_bind (wpS_elem (i:=k - 1) (by lia) ?_);refine (show wpS (model prog w) A E s (if (k - 1==0)=true then _ else _) P _ from ?_)
         by_cases d3:k - 1=0
         ·rw [if_pos (by simpa using d3)]
          exact wpS_pure ⟨s2.gal _,.inl ⟨_,_,rfl,eA _ _ _ m7 d3⟩⟩
         rw [if_neg (by simpa using d3)];split
         ·exact wpS_pure ⟨s2.gal _,.inr ⟨_,k - 1,nb2 - 1,_,_,_,rfl,m7,by lia,by lia,by lia,by lia,by lia⟩⟩
         ·exact wpS_pure ⟨s2.gal _,_,k - 1,nb2 - 1,_,_,_,rfl,m7,by lia,by lia,by lia,by lia,by lia⟩
      ·rw [if_neg hk0]
       have:k=na2:=by lia
       subst this;have m4:=tB _ _ _ m2 (by lia) p4 (by omega) near;refine wpS_bind (wpS_elem (i:=nb2 - 1) (by lia) ?_);refine (show wpS (model prog w) A E s (if (nb2 - 1==1)=true then _ else _) P _ from ?_)
       by_cases d:nb2 - 1=1
       ·rw [if_pos (by simpa using d)]
        exact wpS_pure ⟨s2.gal _,.inl ⟨_,_,rfl,eF _ _ _ m4 d⟩⟩
       rw [if_neg (by simpa using d)];refine wpS_bind (wpS_elem (i:=k - 1) (by lia) ?_);refine wpS_bind (wpS_gallop (base:=0) (n:=nb2 - 1) (hint:=nb2 - 1 - 1) (arr:=b) (key:=ix a (k - 1)) (left:=true) C (s2.gal _).good (fun i=>lt (ix b (0+i)) (ix a (k - 1))) (ia0 _ (by lia)) (fun i hi=>⟨by lia,ib0 _ (by lia)⟩) (fun i hi=>rfl) (fun i j hij hj e=>?_) (by lia) fun k3 hk3 k4 k5=>?_)
       ·cases e2:lt (ix b (0+i)) (ix a (k - 1)) with
        | true=>rfl
        | false=>
         have:=tr _ _ _ (ia0 _ (by lia)) (ib0 _ (by lia)) (ib0 _ (by lia)) e2 (ub (0+i) (0+j) (by lia) (by lia));exact nomatch (show true=false from (show lt (ix b (0+j)) (ix a (k - 1))=true from e).symm.trans this)
       ·have near2:∀j,j < k3→Rl lt (ix b j) (ix a (k - 1)):=fun j j1=>by
         have:=k4 j j1;rw [Nat.zero_add] at this;exact O.asym _ _ (ib0 _ (by lia)) (ia0 _ (by lia)) this
        have m6:=sB _ k (nb2 - 1) k3 m4 hk3 (by lia) (by omega) fun i j i1 i2 j1=>by
         have:=k5 i i1 i2;rw [Nat.zero_add] at this;exact tr _ _ _ (ia0 _ (by lia)) (ia0 _ (by lia)) (ib0 _ (by lia)) (ua j (k - 1) (by lia) (by lia)) this
        refine (show wpS (model prog w) A E s (if nb2 - 1 - k3 > 0 then _ else _) P _ from ?_)
        by_cases hk4:nb2 - 1 - k3 > 0
        ·rw [if_pos hk4]
         refine (show wpS (model prog w) A E s (if (k3==1)=true then _ else _) P _ from ?_)
         by_cases d2:k3=1
         ·rw [if_pos (by simpa using d2)]
          exact wpS_pure ⟨s2.gal _,.inl ⟨_,_,rfl,eF _ _ _ m6 d2⟩⟩
         rw [if_neg (by simpa using d2)]
         by_cases d4:k3=0
         ·rw [if_pos (by simpa using d4)]
          exact wpS_pure ⟨s2.gal _,.inl ⟨_,_,rfl,eB _ _ _ m6 d4⟩⟩
         rw [if_neg (by simpa using d4)];have m7:=tA _ _ _ m6 (by omega) (by omega) (by lia) near2;refine wpS_bind (wpS_elem (i:=k - 1) (by lia) ?_);refine (show wpS (model prog w) A E s (if (k - 1==0)=true then _ else _) P _ from ?_)
         by_cases d3:k - 1=0
         ·rw [if_pos (by simpa using d3)]
          exact wpS_pure ⟨s2.gal _,.inl ⟨_,_,rfl,eA _ _ _ m7 d3⟩⟩
         rw [if_neg (by simpa using d3)];split
         ·exact wpS_pure ⟨s2.gal _,.inr ⟨_,k - 1,k3,_,_,_,rfl,m7,by lia,by lia,by lia,by lia,by lia⟩⟩
         ·exact wpS_pure ⟨s2.gal _,_,k - 1,k3,_,_,_,rfl,m7,by lia,by lia,by lia,by lia,by lia⟩
        ·rw [if_neg hk4]
         have:k3=nb2 - 1:=by lia
         subst this;have m7:=tA _ _ _ m4 (by omega) (by omega) (by lia) near2;refine wpS_bind (wpS_elem (i:=k - 1) (by lia) ?_);refine (show wpS (model prog w) A E s (if (k - 1==0)=true then _ else _) P _ from ?_)
         by_cases d3:k - 1=0
         ·rw [if_pos (by simpa using d3)]
          exact wpS_pure ⟨s2.gal _,.inl ⟨_,_,rfl,eA _ _ _ m7 d3⟩⟩
         rw [if_neg (by simpa using d3)];split
         ·exact wpS_pure ⟨s2.gal _,.inr ⟨_,k - 1,nb2 - 1,_,_,_,rfl,m7,by lia,by lia,by lia,by lia,by lia⟩⟩
         ·exact wpS_pure ⟨s2.gal _,_,k - 1,nb2 - 1,_,_,_,rfl,m7,by lia,by lia,by lia,by lia,by lia⟩
end
end Srt
namespace Srt
open PySem PyProof.Rows
noncomputable def wr (arr:Array Keyed) (sa:Nat) (l:List (Keyed×Nat)):Array Keyed:=l.foldl (fun a (x:Keyed×Nat)=>match x with | (p,j)=>a.setIfInBounds (sa+j) p) arr
theorem wr_list (sa:Nat):∀(l:List Keyed) (k:Nat) (arr:Array Keyed),sa+k+l.length≤arr.size→(wr arr sa (l.zipIdx k)).toList=arr.toList.take (sa+k)++l++arr.toList.drop (sa+k+l.length)
 | [],k,arr,h=>by simp [wr]
 | x :: l,k,arr,h=>by
  rw [List.length_cons] at h;have e:wr arr sa ((x :: l).zipIdx k)=wr (arr.setIfInBounds (sa+k) x) sa (l.zipIdx (k+1)):=rfl;rw [e,wr_list sa l (k+1) _ (by simp;lia)]
  have hk:sa+k < arr.toList.length:=by simp;lia
  rw [Array.toList_setIfInBounds,List.length_cons,show sa+(k+1)=sa+k+1 by lia];rw [List.take_add_one,List.take_set_of_le (Nat.le_refl _),List.getElem?_set_self hk,List.drop_set_of_lt (by lia)];simp [show sa+k+1+l.length=sa+k+(l.length+1) by lia]
theorem ix_list (a:Array Keyed) (i:Nat):ix a i=(a.toList[i]?).getD (.none,.none):=by
 unfold ix;rw [Array.getD_eq_getD_getElem?];simp
theorem ix_wr {arr m:Array Keyed} {sa:Nat} (h:sa+m.size≤arr.size) (i:Nat):ix (wr arr sa m.toList.zipIdx) i=if i < sa then ix arr i else if i < sa+m.size then ix m (i - sa) else ix arr i:=by
 have e:=wr_list sa m.toList 0 arr (by simpa using h);rw [ix_list,show m.toList.zipIdx=m.toList.zipIdx 0 from rfl,e,Nat.add_zero]
 have hl:(arr.toList.take sa).length=sa:=by simp;lia
 split
 ·rename_i h1
  rw [List.append_assoc,List.getElem?_append_left (by lia),List.getElem?_take_of_lt h1,ix_list]
 ·rename_i h1
  split
  ·rename_i h2
   rw [List.append_assoc,List.getElem?_append_right (by lia),hl,List.getElem?_append_left (by simp;lia),ix_list]
  ·rename_i h2
   rw [List.getElem?_append_right (by simp;lia),List.getElem?_drop,ix_list]
   congr 2
   simp
   lia
theorem perm_wr {arr m:Array Keyed} {sa:Nat} (h:sa+m.size≤arr.size) (hp:m.toList.Perm (arr.extract sa (sa+m.size)).toList):(wr arr sa m.toList.zipIdx).Perm arr:=by
 rw [Array.perm_iff_toList_perm];have e:=wr_list sa m.toList 0 arr (by simpa using h);rw [show m.toList.zipIdx=m.toList.zipIdx 0 from rfl,e,Nat.add_zero]
 have e2:arr.toList=arr.toList.take sa++(arr.extract sa (sa+m.size)).toList++arr.toList.drop (sa+m.toList.length):=by
  rw [List.append_assoc,Array.length_toList,←drop_ext h,List.take_append_drop]
 conv=>rhs;rw [e2]
 exact List.Perm.append_right _ (List.Perm.append_left _ hp)
theorem ix_ext {a:Array Keyed} {lo hi i:Nat} (h:hi≤a.size) (hi':i < hi - lo):ix (a.extract lo hi) i=ix a (lo+i):=by
 apply ix_congr
 rw [Array.getElem?_extract];simp
 lia
section
variable {prog:Program} {w:World} {A:Around} {E:Value→Shared→Prop} {s:Shared} {a₀:Array Keyed} {κ:SortKind} {lt:Keyed→Keyed→Bool}
theorem up_pw {a:Array Keyed} {lo hi:Nat} (h:hi≤a.size) (u:Up lt a lo hi):(a.extract lo hi).toList.Pairwise (Rl lt):=by
 rw [List.pairwise_iff_getElem];intro i j hi' hj hij;simp at hi' hj
 have e:∀k (hk:k < (a.extract lo hi).toList.length),(a.extract lo hi).toList[k]=ix a (lo+k):=fun k hk=>by
  have hk':k < (a.extract lo hi).size:=by rw [Array.length_toList] at hk;exact hk
  have:=ix_some hk';rw [getElem?_pos (a.extract lo hi) k hk'] at this
  have hs:(a.extract lo hi).size=hi - lo:=by simp;lia
  rw [←ix_ext h (by lia)];simpa using this
 rw [e,e];exact u _ _ (by lia) (by lia) (by omega)
theorem wpS_set {st st1:SortSt} {Q:PUnit→SortSt→Prop} (h:Q ⟨⟩ st1):wpS (model prog w) A E s (set st1:StateT SortSt Sem PUnit) Q st:=wpS_pure h
theorem wpS_mergeAt {st:SortSt} {i sa na pw sb nb pw2:Nat} {Q:Bool→SortSt→Prop} (C:CmpOk prog w A s a₀ κ lt) (O:Ord (·∈a₀) lt) (g:Good a₀ κ st)
  (e1:(pendingOf st)[i]?=some (sa,na,pw)) (e2:(pendingOf st)[i+1]?=some (sb,nb,pw2)) (hab:sb=sa+na) (hna:1≤na) (hnb:1≤nb) (hs:sb+nb≤a₀.size)
  (ua:Up lt (arrOf st) sa (sa+na)) (ub:Up lt (arrOf st) sb (sb+nb))
  (h:∀st',Good a₀ κ st'→pendingOf st'=((pendingOf st).setIfInBounds i (sa,na+nb,pw)).eraseIdxIfInBounds (i+1)→Up lt (arrOf st') sa (sa+(na+nb))→Out (arrOf st) (arrOf st') sa (sa+(na+nb))→Q true st') :
  wpS (model prog w) A E s (mergeAt' i) Q st:=by
 subst hab;have hsz:=g.size
 have mem:∀j,j < a₀.size→ix (arrOf st) j∈a₀:=fun j hj=>g.mem hj
 have tr:∀x y z:Keyed,x∈a₀→y∈a₀→z∈a₀→Rl lt x y→Rl lt y z→Rl lt x z:=fun x y z hx hy hz h1 h2=>O.ntr x y z hx hy hz h1 h2
 refine (wpS_bind (wpS_get ?_):wpS _ _ _ _ (mergeAt' i) Q st);rw [show (sortPriv% PySem.Builtin.SortState.pending) st=pendingOf st from rfl,e1,e2];refine wpS_bind (wpS_set ?_);generalize hst1:((sortPriv% PySem.Builtin.SortState.mk) (kindOf st) (arrOf st) (((pendingOf st).setIfInBounds i (sa,na+nb,pw)).eraseIdxIfInBounds (i+1)) (gallopOf st) (failedOf st))=st1
 have g1:Good a₀ κ st1:=by subst hst1;exact ⟨g.perm,g.kind,g.failed⟩
 have a1:arrOf st1=arrOf st:=by subst hst1;rfl
 have p1:pendingOf st1=((pendingOf st).setIfInBounds i (sa,na+nb,pw)).eraseIdxIfInBounds (i+1):=by subst hst1;rfl
 refine wpS_bind (wpS_elem (a:=arrOf st) (i:=sa+na) (by lia) ?_);refine wpS_bind (wpS_gallop (base:=sa) (n:=na) (hint:=0) (arr:=arrOf st) (key:=ix (arrOf st) (sa+na)) (left:=false) C g1 (fun j=>!lt (ix (arrOf st) (sa+na)) (ix (arrOf st) (sa+j))) (mem _ (by lia)) (fun j hj=>⟨by lia,mem _ (by lia)⟩) (fun j hj=>rfl) (fun x y hxy hy e=>?_) (by lia) fun k hk k1 k2=>?_)
 ·have e':lt (ix (arrOf st) (sa+na)) (ix (arrOf st) (sa+y))=false:=by simpa using e
  have:=tr _ _ _ (mem _ (by lia)) (mem _ (by lia)) (mem _ (by lia)) (ua (sa+x) (sa+y) (by lia) (by lia) (by lia)) e';simpa using this
 have low:∀j,sa≤j→j < sa+k→Rl lt (ix (arrOf st) j) (ix (arrOf st) (sa+na)):=fun j j1 j2=>by
  have:=k1 (j - sa) (by lia);rw [show sa+(j - sa)=j by lia] at this;simpa using this
 have lowb:∀i j,sa≤i→i < sa+k→sa+na≤j→j < sa+na+nb→Rl lt (ix (arrOf st) i) (ix (arrOf st) j):=fun i j i1 i2 j1 j2=>tr _ _ _ (mem _ (by lia)) (mem _ (by lia)) (mem _ (by lia)) (low i i1 i2) (ub _ _ (by lia) (by omega) (by omega))
 have whole:(∀j,sa≤j→j < sa+na→Rl lt (ix (arrOf st) j) (ix (arrOf st) (sa+na)))→Up lt (arrOf st) sa (sa+(na+nb)):=fun hh x y h1 h2 h3=>by
  by_cases c1:y < sa+na
  ·exact ua x y h1 h2 c1
  by_cases c2:x < sa+na
  ·exact tr _ _ _ (mem _ (by lia)) (mem _ (by lia)) (mem _ (by lia)) (hh x h1 c2) (ub _ _ (by lia) (by lia) (by lia))
  ·exact ub x y (by lia) h2 (by lia)
 refine (show wpS (model prog w) A E s (if (na - k==0)=true then _ else _) Q st1 from ?_)
 by_cases c1:na - k=0
 ·rw [if_pos (by simpa using c1)]
  refine wpS_pure (h st1 g1 p1 ?_ (by rw [a1];exact .refl));rw [a1]
  exact whole fun j j1 j2=>low j j1 (by lia)
 rw [if_neg (by simpa using c1)];refine wpS_bind (wpS_elem (a:=arrOf st) (i:=sa+k+(na - k) - 1) (by omega) ?_);rw [show sa+k+(na - k) - 1=sa+na - 1 by lia];refine wpS_bind (wpS_gallop (base:=sa+na) (n:=nb) (hint:=nb - 1) (arr:=arrOf st) (key:=ix (arrOf st) (sa+na - 1)) (left:=true) C g1 (fun j=>lt (ix (arrOf st) (sa+na+j)) (ix (arrOf st) (sa+na - 1))) (mem _ (by lia)) (fun j hj=>⟨by lia,mem _ (by lia)⟩) (fun j hj=>rfl) (fun x y hxy hy e=>?_) (by omega) fun k3 hk3 k4 k5=>?_)
 ·cases e2:lt (ix (arrOf st) (sa+na+x)) (ix (arrOf st) (sa+na - 1)) with
  | true=>rfl
  | false=>
   have:=tr _ _ _ (mem _ (by lia)) (mem _ (by lia)) (mem _ (by lia)) e2 (ub (sa+na+x) (sa+na+y) (by lia) (by lia) (by lia));exact nomatch (show true=false from (show lt (ix (arrOf st) (sa+na+y)) (ix (arrOf st) (sa+na - 1))=true from e).symm.trans this)
 have high:∀j,sa+na+k3≤j→j < sa+na+nb→Rl lt (ix (arrOf st) (sa+na - 1)) (ix (arrOf st) j):=fun j j1 j2=>by
  have:=k5 (j - (sa+na)) (by lia) (by lia);rwa [show sa+na+(j - (sa+na))=j by lia] at this
 refine (show wpS (model prog w) A E s (if (k3==0)=true then _ else _) Q st1 from ?_)
 by_cases c2:k3=0
 ·rw [if_pos (by simpa using c2)]
  refine wpS_pure (h st1 g1 p1 ?_ (by rw [a1];exact .refl));rw [a1]
  exact whole fun j j1 j2=>tr _ _ _ (mem _ (by lia)) (mem _ (by lia)) (mem _ (by lia)) (ua j (sa+na - 1) (by omega) (by lia) (by lia)) (high _ (by lia) (by lia))
 rw [if_neg (by simpa using c2)]
 let x:=(arrOf st).extract (sa+k) (sa+na)
 let y:=(arrOf st).extract (sa+na) (sa+na+k3)
 have xs:x.size=na - k:=by simp [x];lia
 have ys:y.size=k3:=by simp [y];lia
 have ixx:∀j,j < na - k→ix x j=ix (arrOf st) (sa+k+j):=fun j hj=>ix_ext (by lia) (by lia)
 have ixy:∀j,j < k3→ix y j=ix (arrOf st) (sa+na+j):=fun j hj=>ix_ext (by lia) (by lia)
 have memx:∀z∈x.toList,∃j,j < na - k∧z=ix (arrOf st) (sa+k+j):=fun z hz=>by
  have hz:z∈((arrOf st).extract (sa+k) (sa+k+(na - k))).toList:=by rw [show sa+k+(na - k)=sa+na by lia];exact hz
  exact mem_ext (by lia) hz
 have memy:∀z∈y.toList,∃j,j < k3∧z=ix (arrOf st) (sa+na+j):=fun z hz=>mem_ext (by lia) hz
 have fin:∀(r:Array Keyed) (st':SortSt),Same a₀ κ st1 st'→Fin' (Rl lt) (x.toList++y.toList) r.toList→∀st2:SortSt,arrOf st2=wr (arrOf st') (sa+k) r.toList.zipIdx→kindOf st2=kindOf st'→failedOf st2=failedOf st'→pendingOf st2=pendingOf st'→Q true st2:=by
  intro r st' sm f st2 q1 q2 q3 q4
  have hr:r.size=na - k+k3:=by
   have:=f.perm.length_eq;simp only [List.length_append,Array.length_toList] at this
   lia
  have ha:arrOf st'=arrOf st:=sm.arr.trans a1;rw [ha] at q1
  have hb:sa+k+r.size≤(arrOf st).size:=by lia
  have mm:∀t,t < r.size→∃t',ix r t=ix (arrOf st) t'∧sa+k≤t'∧t' < sa+na+k3:=fun t ht=>by
   have:ix r t∈r.toList:=Array.mem_toList_iff.mpr (Array.mem_of_getElem? (ix_some ht))
   rcases List.mem_append.mp (f.perm.mem_iff.mp this) with h | h
   ·obtain ⟨j,j1,e⟩:=memx _ h
    exact ⟨_,e,by lia,by lia⟩
   ·obtain ⟨j,j1,e⟩:=memy _ h
    exact ⟨_,e,by lia,by lia⟩
  have rs:=up_ix O (a:=r) (fun t ht=>by
   obtain ⟨t',e,_,_⟩:=mm t ht;rw [e]
   exact mem _ (by lia)) f.srt
  refine h st2 ⟨?_,?_,?_⟩ (q4.trans (sm.pend.trans p1)) ?_ ?_
  ·rw [q1]
   refine (perm_wr hb (f.perm.trans ?_)).trans g.perm
   have:(arrOf st).toList.drop (sa+k)=x.toList++(arrOf st).toList.drop (sa+na):=by
    have:=drop_ext (a:=arrOf st) (i:=sa+k) (k:=na - k) (by lia);rw [show sa+k+(na - k)=sa+na by lia] at this;exact this
   have h2:(arrOf st).toList.drop (sa+na)=y.toList++(arrOf st).toList.drop (sa+na+k3):=drop_ext (by lia);have h3:(arrOf st).toList.drop (sa+k)=((arrOf st).extract (sa+k) (sa+k+r.size)).toList++(arrOf st).toList.drop (sa+k+r.size):=drop_ext hb;rw [this,h2,←List.append_assoc,show sa+k+r.size=sa+na+k3 by lia] at h3;rw [show sa+k+r.size=sa+na+k3 by lia];exact List.Perm.of_eq (List.append_cancel_right h3)
  ·rw [q2];exact sm.good.kind
  ·rw [q3];exact sm.good.failed
  ·rw [q1]
   intro i j h1 h2 h3;show Rl lt _ _;rw [ix_wr hb,ix_wr hb]
   by_cases i1:i < sa+k
   ·rw [if_pos i1]
    by_cases j1:j < sa+k
    ·rw [if_pos j1];exact ua i j h1 h2 (by lia)
    rw [if_neg j1]
    by_cases j2:j < sa+k+r.size
    ·rw [if_pos j2]
     obtain ⟨t,e,t1,t2⟩:=mm (j - (sa+k)) (by omega);rw [e]
     by_cases t3:t < sa+na
     ·exact ua i t h1 (by lia) t3
     ·exact lowb i t h1 i1 (by lia) (by lia)
    ·rw [if_neg j2];exact lowb i j h1 i1 (by lia) (by lia)
   rw [if_neg i1,if_neg (show ¬j < sa+k by lia)]
   by_cases i2:i < sa+k+r.size
   ·rw [if_pos i2]
    by_cases j2:j < sa+k+r.size
    ·rw [if_pos j2];exact rs _ _ (by lia) (by omega)
    ·rw [if_neg j2]
     obtain ⟨t,e,t1,t2⟩:=mm (i - (sa+k)) (by omega);rw [e]
     by_cases t3:t < sa+na
     ·exact tr _ _ _ (mem _ (by lia)) (mem _ (by lia)) (mem _ (by lia)) (ua t (sa+na - 1) (by lia) (by lia) (by lia)) (high j (by lia) (by lia))
     ·exact ub t j (by lia) (by lia) (by lia)
   ·rw [if_neg i2,if_neg (show ¬j < sa+k+r.size by lia)]
    exact ub i j (by lia) h2 (by lia)
  ·rw [q1]
   intro i hi;rw [ix_wr hb]
   by_cases i1:i < sa+k
   ·rw [if_pos i1]
   ·rw [if_neg i1,if_neg (by lia)]
 have args:∀ {P:Prop},((∀z∈x.toList,z∈a₀)→(∀z∈y.toList,z∈a₀)→x.toList.Pairwise (Rl lt)→y.toList.Pairwise (Rl lt)→0 < x.size→0 < y.size→(∀z∈x.toList,Rl lt (ix y 0) z)→(∀z∈y.toList,Rl lt z (ix x (x.size - 1)))→P)→P:=by
  intro P hP
  refine hP (fun z hz=>?_) (fun z hz=>?_) (up_pw (by lia) fun i j h1 h2 h3=>ua i j (by lia) h2 h3) (up_pw (by lia) fun i j h1 h2 h3=>ub i j h1 h2 (by lia)) (by lia) (by lia) (fun z hz=>?_) fun z hz=>?_
  ·obtain ⟨j,j1,rfl⟩:=memx z hz
   exact mem _ (by lia)
  ·obtain ⟨j,j1,rfl⟩:=memy z hz
   exact mem _ (by lia)
  ·obtain ⟨j,j1,rfl⟩:=memx z hz
   rw [ixy 0 (by lia)];have:=k2 (k+j) (by lia) (by lia);rw [show sa+(k+j)=sa+k+j by lia] at this;exact O.asym _ _ (mem _ (by lia)) (mem _ (by lia)) (by simpa using this)
  ·obtain ⟨j,j1,rfl⟩:=memy z hz
   rw [xs,ixx _ (by lia),show sa+k+(na - k - 1)=sa+na - 1 by lia];exact O.asym _ _ (mem _ (by lia)) (mem _ (by lia)) (k4 j j1)
 refine (show wpS (model prog w) A E s (if na - k≤k3 then mLo x y >>= _ else mHi x y >>= _) Q st1 from ?_);split
 ·refine wpS_bind (args fun b1 b2 b3 b4 b5 b6 b7 b8=>wpS_mLo C O g1 b1 b2 b3 b4 b5 b6 b7 b8 fun r st' sm f=>?_)
  refine wpS_bind (wpS_modify (wpS_bind (wpS_get (wpS_pure ?_))));have q:=fin r st' sm f (setArr st' (wr (arrOf st') (sa+k) r.toList.zipIdx)) rfl rfl rfl rfl;rw [←show (failedOf st').isNone=true by rw [sm.good.failed];rfl] at q;exact q
 ·refine wpS_bind (args fun b1 b2 b3 b4 b5 b6 b7 b8=>wpS_mHi C O g1 b1 b2 b3 b4 b5 b6 b7 b8 fun r st' sm f=>?_)
  refine wpS_bind (wpS_modify (wpS_bind (wpS_get (wpS_pure ?_))));have q:=fin r st' sm f (setArr st' (wr (arrOf st') (sa+k) r.toList.zipIdx)) rfl rfl rfl rfl;rw [←show (failedOf st').isNone=true by rw [sm.good.failed];rfl] at q;exact q
end
end Srt
namespace Srt
open PySem PyProof.Rows
theorem ite_lt2 {c:Prop} [Decidable c] {z:Nat} (h:1 < z):(if c then z - 2 - 1 else z - 2)+1 < z:=by split <;> omega
noncomputable def Stk (lt:Keyed→Keyed→Bool) (arr:Array Keyed):List (Nat×Nat×Nat)→Nat→Nat→Prop
 | [],lo,hi=>lo=hi
 | (s,n,_) :: r,lo,hi=>s=lo∧1≤n∧Up lt arr s (s+n)∧Stk lt arr r (s+n) hi
section
variable {lt:Keyed→Keyed→Bool} {arr arr':Array Keyed}
theorem Stk.le:∀ {l:List (Nat×Nat×Nat)} {lo hi:Nat},Stk lt arr l lo hi→lo+l.length≤hi
 | [],lo,hi,h=>by cases h;simp
 | (s,n,_) :: r,lo,hi,⟨h1,h2,_,h4⟩=>by
  have:=Stk.le h4;rw [List.length_cons]
  lia
theorem Stk.app:∀ {l r:List (Nat×Nat×Nat)} {lo hi:Nat},Stk lt arr (l++r) lo hi↔∃mid,Stk lt arr l lo mid∧Stk lt arr r mid hi
 | [],r,lo,hi=>⟨fun h=>⟨lo,rfl,h⟩,fun ⟨_,e,h⟩=>by cases e;exact h⟩
 | (s,n,_) :: l,r,lo,hi=>by
  constructor
  ·rintro ⟨h1,h2,h3,h4⟩
   obtain ⟨mid,a,b⟩:=Stk.app.mp h4;exact ⟨mid,⟨h1,h2,h3,a⟩,b⟩
  ·rintro ⟨mid,⟨h1,h2,h3,h4⟩,b⟩
   exact ⟨h1,h2,h3,Stk.app.mpr ⟨mid,h4,b⟩⟩
theorem Stk.pw {f:Nat×Nat×Nat→Nat×Nat×Nat} (hf:∀x,(f x).1=x.1∧(f x).2.1=x.2.1):∀ {l:List (Nat×Nat×Nat)} {lo hi:Nat} (i:Nat),Stk lt arr l lo hi→Stk lt arr (l.modify i f) lo hi
 | [],lo,hi,i,h=>by cases i <;> exact h
 | (s,n,p) :: r,lo,hi,0,h=>by
  obtain ⟨e1,e2⟩:=hf (s,n,p);show Stk lt arr (f (s,n,p) :: r) lo hi;generalize f (s,n,p)=q at e1 e2;obtain ⟨s',n',p'⟩:=q;dsimp only at e1 e2;subst e1 e2;exact h
 | (s,n,p) :: r,lo,hi,i+1,⟨h1,h2,h3,h4⟩=>⟨h1,h2,h3,Stk.pw hf i h4⟩
theorem Stk.out:∀ {l:List (Nat×Nat×Nat)} {lo hi x y:Nat},Stk lt arr l lo hi→Out arr arr' x y→(hi≤x∨y≤lo)→Stk lt arr' l lo hi
 | [],lo,hi,x,y,h,o,d=>h
 | (s,n,_) :: r,lo,hi,x,y,⟨h1,h2,h3,h4⟩,o,d=>by
  have:=h4.le;exact ⟨h1,h2,h3.out o (by lia),Stk.out h4 o (by lia)⟩
end
section
variable {prog:Program} {w:World} {A:Around} {E:Value→Shared→Prop} {s:Shared} {a₀:Array Keyed} {κ:SortKind} {lt:Keyed→Keyed→Bool}
theorem Out.wide {xs ys:Array Keyed} {l h l' h':Nat} (o:Out xs ys l h) (h1:l'≤l) (h2:h≤h'):Out xs ys l' h':=fun i hi=>o i (by lia)
theorem wpS_mergeStk {st:SortSt} {i hi:Nat} {Q:Bool→SortSt→Prop} (C:CmpOk prog w A s a₀ κ lt) (O:Ord (·∈a₀) lt) (g:Good a₀ κ st) (k:Stk lt (arrOf st) (pendingOf st).toList 0 hi) (hs:hi≤a₀.size) (hi1:i+1 < (pendingOf st).size)
  (h:∀st',Good a₀ κ st'→Stk lt (arrOf st') (pendingOf st').toList 0 hi→(pendingOf st').size+1=(pendingOf st).size→Out (arrOf st) (arrOf st') 0 hi→Q true st'):wpS (model prog w) A E s (mergeAt' i) Q st:=by
 obtain ⟨sa,na,pw,e1⟩:∃sa na pw,(pendingOf st)[i]?=some (sa,na,pw):=⟨_,_,_,getElem?_pos (pendingOf st) i (by lia)⟩
 obtain ⟨sb,nb,pw2,e2⟩:∃sa na pw,(pendingOf st)[i+1]?=some (sa,na,pw):=⟨_,_,_,getElem?_pos (pendingOf st) (i+1) hi1⟩
 obtain ⟨l,r,el,hl⟩:∃l r,(pendingOf st).toList=l++(sa,na,pw) :: (sb,nb,pw2) :: r∧l.length=i:=by
  have a1:(pendingOf st).toList[i]?=some (sa,na,pw):=by simpa using e1
  have a2:(pendingOf st).toList[i+1]?=some (sb,nb,pw2):=by simpa using e2
  obtain ⟨b1,c1⟩:=List.getElem?_eq_some_iff.mp a1;obtain ⟨b2,c2⟩:=List.getElem?_eq_some_iff.mp a2;refine ⟨(pendingOf st).toList.take i,(pendingOf st).toList.drop (i+2),?_,by rw [List.length_take];lia⟩
  conv=>lhs;rw [←List.take_append_drop i (pendingOf st).toList,List.drop_eq_getElem_cons b1,List.drop_eq_getElem_cons b2,c1,c2]
 rw [el] at k;obtain ⟨mid,k1,⟨q1,q2,q3,⟨q4,q5,q6,q7⟩⟩⟩:=Stk.app.mp k;have hle:=q7.le;have hle1:=k1.le
 refine wpS_mergeAt C O g e1 e2 q4 q2 q5 (by lia) q3 q6 fun st' g' p' u' o'=>?_
 have pl:(pendingOf st').toList=l++(sa,na+nb,pw) :: r:=by
  rw [p',Array.toList_eraseIdxIfInBounds,Array.toList_setIfInBounds,el];rw [List.set_append_right _ _ (by lia),hl,Nat.sub_self,List.set_cons_zero,List.eraseIdx_append_of_length_le (by lia),show i+1 - l.length=1 by lia];rfl
 refine h st' g' ?_ ?_ (o'.wide (by lia) (by lia))
 ·rw [pl]
  refine Stk.app.mpr ⟨mid,k1.out o' (.inl (by lia)),q1,by lia,u',?_⟩
  have e:sb+nb=sa+(na+nb):=by lia
  rw [e] at q7;exact q7.out o' (.inr (by lia))
 ·have z1:=congrArg List.length pl
  have z2:=congrArg List.length el;simp at z1 z2
  lia
theorem wpS_sortRuns {st:SortSt} {Q:Unit→SortSt→Prop} (C:CmpOk prog w A s a₀ κ lt) (O:Ord (·∈a₀) lt) (g:Good a₀ κ st) (hp:pendingOf st = #[])
  (h:∀st',Good a₀ κ st'→Up lt (arrOf st') 0 a₀.size→Q () st'):wpS (model prog w) A E s sortRuns' Q st:=by
 rw [sortRuns'_eq];refine wpS_bind (wpS_get ?_);dsimp only;rw [g.size];generalize minRun' a₀.size a₀.size 0=mr
 refine wpS_bind (wpS_mono (wpS_forRange (I:=fun x c st'=>∃lo,c=(none,lo)∧Good a₀ κ st'∧Stk lt (arrOf st') (pendingOf st').toList 0 lo∧lo≤a₀.size∧min x a₀.size≤lo)
  (Q:=fun c st'=>c=(none,a₀.size)∧Good a₀ κ st'∧Stk lt (arrOf st') (pendingOf st').toList 0 a₀.size) ?step ?fin ?init) ?post)
 case init=>exact ⟨0,rfl,g,by rw [hp];rfl,by lia,by lia⟩
 case fin=>
  rintro c st' ⟨lo,rfl,g',k',h1,h2⟩
  have:lo=a₀.size:=by lia
  subst this;exact ⟨rfl,g',k'⟩
 case step=>
  rintro x c st1 _ hx ⟨lo,rfl,g1,k1,h1,h2⟩;dsimp only
  by_cases hge:lo ≥ a₀.size
  ·rw [if_pos hge]
   have:lo=a₀.size:=by lia
   subst this;exact wpS_pure ⟨rfl,g1,k1⟩
  rw [if_neg hge];refine wpS_bind (wpS_countRun C O (by lia) (by lia) g1 fun st2 n g2 n1 n2 u2 o2 p2=>?_);dsimp only
  have k2:Stk lt (arrOf st2) (pendingOf st2).toList 0 lo:=by
   rw [p2];exact k1.out o2 (.inl (Nat.le_refl _))
  by_cases hm:n < mr
  ·rw [if_pos hm]
   refine wpS_bind (wpS_rule ?_);refine wpS_bind (wpS_binarySort C O (by lia) (by omega) g2 u2 fun st3 g3 u3 o3 p3=>?_)
   have k3:Stk lt (arrOf st3) (pendingOf st3).toList 0 lo:=by
    rw [p3];exact k2.out o3 (.inl (Nat.le_refl _))
   rw [if_neg (by simp)];refine wpS_bind (wpS_get ?_)
   cases hb:(pendingOf st3).back? with
   | none=>
    dsimp only;refine wpS_bind (wpS_modify (wpS_pure ⟨lo+min (a₀.size - lo) mr,rfl,⟨g3.perm,g3.kind,g3.failed⟩,?_,by lia,by lia⟩));show Stk lt (arrOf st3) ((pendingOf st3).push (lo,min (a₀.size - lo) mr,0)).toList 0 (lo+min (a₀.size - lo) mr);rw [Array.toList_push];exact Stk.app.mpr ⟨lo,k3,rfl,by omega,u3,rfl⟩
   | some t=>
    obtain ⟨s1,n1,z⟩:=t;dsimp only;generalize power' a₀.size (2 * s1+n1) (2 * s1+n1+n1+min (a₀.size - lo) mr) a₀.size=pw
    refine wpS_bind (wpS_mono (wpS_forRange (I:=fun _ c st4=>c=(none,())∧Good a₀ κ st4∧Stk lt (arrOf st4) (pendingOf st4).toList 0 lo∧Up lt (arrOf st4) lo (lo+min (a₀.size - lo) mr))
     (Q:=fun c st4=>c=(none,())∧Good a₀ κ st4∧Stk lt (arrOf st4) (pendingOf st4).toList 0 lo∧Up lt (arrOf st4) lo (lo+min (a₀.size - lo) mr)) ?_ (fun c st4 h=>h) ⟨rfl,g3,k3,u3⟩) ?_)
    ·rintro x' c' st4 _ _ ⟨rfl,g4,k4,u4⟩
     refine wpS_bind (wpS_get ?_)
     by_cases hz:(pendingOf st4).size > 1
     ·rw [if_pos hz]
      obtain ⟨s2,n2,older,e2⟩:∃s2 n2 older,(pendingOf st4)[(pendingOf st4).size - 2]?=some (s2,n2,older):=⟨_,_,_,getElem?_pos (pendingOf st4) ((pendingOf st4).size - 2) (by lia)⟩
      rw [e2];dsimp only
      by_cases ho:older≤pw
      ·rw [if_pos ho]
       exact wpS_pure ⟨rfl,g4,k4,u4⟩
      ·rw [if_neg ho]
       refine wpS_bind (wpS_mergeStk C O g4 k4 (by omega) (by lia) fun st5 g5 k5 _ o5=>?_);exact wpS_pure ⟨rfl,g5,k5,u4.out o5 (.inr (by lia))⟩
     ·rw [if_neg hz]
      exact wpS_pure ⟨rfl,g4,k4,u4⟩
    ·rintro c' st4 ⟨rfl,g4,k4,u4⟩
     dsimp only;refine wpS_bind (wpS_modify (wpS_bind (wpS_modify (wpS_pure ⟨lo+min (a₀.size - lo) mr,rfl,⟨g4.perm,g4.kind,g4.failed⟩,?_,by lia,by lia⟩))));show Stk lt (arrOf st4) ((((pendingOf st4).modify ((pendingOf st4).size - 1) fun x=>(x.fst,x.2.fst,pw))).push (lo,min (a₀.size - lo) mr,0)).toList 0 (lo+min (a₀.size - lo) mr);rw [Array.toList_push,Array.toList_modify];exact Stk.app.mpr ⟨lo,Stk.pw (f:=fun x=>(x.fst,x.2.fst,pw)) (fun x=>⟨rfl,rfl⟩) _ k4,rfl,by omega,u4,rfl⟩
  ·rw [if_neg hm]
   refine wpS_bind (wpS_get ?_)
   cases hb:(pendingOf st2).back? with
   | none=>
    dsimp only;refine wpS_bind (wpS_modify (wpS_pure ⟨lo+n,rfl,⟨g2.perm,g2.kind,g2.failed⟩,?_,by lia,by lia⟩));show Stk lt (arrOf st2) ((pendingOf st2).push (lo,n,0)).toList 0 (lo+n);rw [Array.toList_push];exact Stk.app.mpr ⟨lo,k2,rfl,by omega,u2,rfl⟩
   | some t=>
    obtain ⟨s1,n1,z⟩:=t;dsimp only;generalize power' a₀.size (2 * s1+n1) (2 * s1+n1+n1+n) a₀.size=pw
    refine wpS_bind (wpS_mono (wpS_forRange (I:=fun _ c st4=>c=(none,())∧Good a₀ κ st4∧Stk lt (arrOf st4) (pendingOf st4).toList 0 lo∧Up lt (arrOf st4) lo (lo+n))
     (Q:=fun c st4=>c=(none,())∧Good a₀ κ st4∧Stk lt (arrOf st4) (pendingOf st4).toList 0 lo∧Up lt (arrOf st4) lo (lo+n)) ?_ (fun c st4 h=>h) ⟨rfl,g2,k2,u2⟩) ?_)
    ·rintro x' c' st4 _ _ ⟨rfl,g4,k4,u4⟩
     refine wpS_bind (wpS_get ?_)
     by_cases hz:(pendingOf st4).size > 1
     ·rw [if_pos hz]
      obtain ⟨s2,n2,older,e2⟩:∃s2 n2 older,(pendingOf st4)[(pendingOf st4).size - 2]?=some (s2,n2,older):=⟨_,_,_,getElem?_pos (pendingOf st4) ((pendingOf st4).size - 2) (by lia)⟩
      rw [e2];dsimp only
      by_cases ho:older≤pw
      ·rw [if_pos ho]
       exact wpS_pure ⟨rfl,g4,k4,u4⟩
      ·rw [if_neg ho]
       refine wpS_bind (wpS_mergeStk C O g4 k4 (by omega) (by lia) fun st5 g5 k5 _ o5=>?_);exact wpS_pure ⟨rfl,g5,k5,u4.out o5 (.inr (by lia))⟩
     ·rw [if_neg hz]
      exact wpS_pure ⟨rfl,g4,k4,u4⟩
    ·rintro c' st4 ⟨rfl,g4,k4,u4⟩
     dsimp only;refine wpS_bind (wpS_modify (wpS_bind (wpS_modify (wpS_pure ⟨lo+n,rfl,⟨g4.perm,g4.kind,g4.failed⟩,?_,by lia,by lia⟩))));show Stk lt (arrOf st4) ((((pendingOf st4).modify ((pendingOf st4).size - 1) fun x=>(x.fst,x.2.fst,pw))).push (lo,n,0)).toList 0 (lo+n);rw [Array.toList_push,Array.toList_modify];exact Stk.app.mpr ⟨lo,Stk.pw (f:=fun x=>(x.fst,x.2.fst,pw)) (fun x=>⟨rfl,rfl⟩) _ k4,rfl,by omega,u4,rfl⟩
 case post=>
  rintro c st1 ⟨rfl,g1,k1⟩;dsimp only
  refine wpS_bind (wpS_mono (wpS_forRange (I:=fun x c st4=>c=(none,())∧Good a₀ κ st4∧Stk lt (arrOf st4) (pendingOf st4).toList 0 a₀.size∧((pendingOf st4).size≤1∨(pendingOf st4).size+x≤a₀.size))
   (Q:=fun c st4=>c=(none,())∧Good a₀ κ st4∧Stk lt (arrOf st4) (pendingOf st4).toList 0 a₀.size∧(pendingOf st4).size≤1) ?_ ?_ ?_) ?_)
  ·rintro x c st4 _ _ ⟨rfl,g4,k4,d⟩
   refine wpS_bind (wpS_get ?_)
   by_cases hz:(pendingOf st4).size≤1
   ·rw [if_pos hz]
    exact wpS_pure ⟨rfl,g4,k4,hz⟩
   ·rw [if_neg hz]
    refine wpS_bind (wpS_mergeStk C O g4 k4 (Nat.le_refl _) (ite_lt2 (by lia)) fun st5 g5 k5 z5 o5=>?_);exact wpS_pure ⟨rfl,g5,k5,.inr (by lia)⟩
  ·rintro c st4 ⟨rfl,g4,k4,d⟩
   exact ⟨rfl,g4,k4,by lia⟩
  ·refine ⟨rfl,g1,k1,.inr ?_⟩
   have:=k1.le;simp at this;omega
  ·rintro c st4 ⟨rfl,g4,k4,d⟩
   refine wpS_pure (h st4 g4 ?_);generalize hl:(pendingOf st4).toList=l at k4
   have hd:l.length≤1:=by rw [←hl];simpa using d
   match l,k4,hd with
   | [],k4,_=>exact fun i j h1 h2 h3=>by have:(0:Nat)=a₀.size:=k4;lia
   | [(s,n,_)],⟨e1,_,u,e2⟩,_=>
    have e2:s+n=a₀.size:=e2;rw [e2,e1] at u;exact u
end
end Srt
namespace Srt
open PySem PyProof.Rows
noncomputable def ltL:List Int→List Int→Bool
 | [],[]=>false
 | [],_ :: _=>true
 | _ :: _,[]=>false
 | x :: xs,y :: ys=>if x=y then ltL xs ys else decide (x < y)
theorem ltL_asym:∀x y,ltL x y=true→ltL y x=false
 | [],[],h=>by cases h
 | [],_ :: _,_=>rfl
 | _ :: _,[],h=>by cases h
 | x :: xs,y :: ys,h=>by
  unfold ltL at h ⊢
  by_cases e:x=y
  ·rw [if_pos e] at h;rw [if_pos e.symm];exact ltL_asym xs ys h
  ·rw [if_neg e] at h;rw [if_neg (Ne.symm e)];simp at h ⊢;lia
theorem ltL_ntr:∀x y z,ltL y x=false→ltL z y=false→ltL z x=false
 | [],y,[],_,_=>rfl
 | [],[],_ :: _,_,_=>rfl
 | [],_ :: _,_ :: _,_,_=>rfl
 | x :: xs,[],z,h,_=>by cases h
 | _,y :: ys,[],_,h=>by cases h
 | x :: xs,y :: ys,z :: zs,h1,h2=>by
  unfold ltL at h1 h2 ⊢
  by_cases e1:y=x
  ·rw [if_pos e1] at h1
   subst e1
   by_cases e2:z=y
   ·rw [if_pos e2] at h2 ⊢
    exact ltL_ntr xs ys zs h1 h2
   ·rw [if_neg e2] at h2 ⊢;exact h2
  ·rw [if_neg e1] at h1
   by_cases e2:z=y
   ·subst e2;rw [if_neg e1];exact h1
   ·rw [if_neg e2] at h2
    by_cases e3:z=x
    ·subst e3;simp at h1 h2;lia
    ·rw [if_neg e3];simp at h1 h2 ⊢;lia
theorem ltL_tri:∀x y,ltL x y=false→ltL y x=false→x=y
 | [],[],_,_=>rfl
 | [],_ :: _,h,_=>by cases h
 | _ :: _,[],_,h=>by cases h
 | x :: xs,y :: ys,h1,h2=>by
  unfold ltL at h1 h2
  by_cases e:x=y
  ·rw [if_pos e] at h1;rw [if_pos e.symm] at h2;rw [e,ltL_tri xs ys h1 h2]
  ·rw [if_neg e] at h1;rw [if_neg (Ne.symm e)] at h2;simp at h1 h2;lia
noncomputable def ltK (f:Value→List Int) (x y:Keyed):Bool:=ltL (f x.1) (f y.1)
theorem ord_ltK (f:Value→List Int) (U:Keyed→Prop):Ord U (ltK f):=⟨fun x y _ _ h=>ltL_asym _ _ h,fun x y z _ _ _ h1 h2=>ltL_ntr _ _ _ h1 h2⟩
section
variable {prog:Program} {w:World} {A:Around} {E:Value→Shared→Prop} {s:Shared}
theorem oneLtG_int {a b:Int} {t u:Tok} (o:Bool) {Q:Bool→Shared→Prop} (h:Q (decide (a < b)) s):wpAny (model prog w) A (oneLt' o (.int a t) (.int b u)) Q E s:=by
 cases o with
 | true=>exact oneLt_int h
 | false=>
  rw [oneLt'_eq];simp only [Bool.false_eq_true,if_false];exact wpAny_bind (wpAny_lt_int (wpAny_truthy_bool h))
noncomputable def TupZ (s:Shared) (v:Value) (ns:List Int):Prop:=∃a its,v=.ref a∧s.heap.IsTuple a its∧IntsAre its.toList ns
noncomputable def cmpF (o:Bool):(Value×Value)×Nat→Option Bool×Unit→Sem (ForInStep (Option Bool×Unit)):=fun e _=>match e with
 | ((p,q),i)=>eqBool p q >>= fun c=>if (!c)=true then oneLt' (o&&i==0) p q >>= fun b=>pure (.done (some b,())) else pure (.yield (none,()))
theorem keyLt_eq (o:Bool) (x y:Value):keyLt' (tuples' o) x y=(Builtin.List.listItems x >>= fun r=>Builtin.List.listItems y >>= fun q=>forIn (r.toList.zip q.toList).zipIdx ((none,()):Option Bool×Unit) (cmpF o) >>= fun z=>match z.1 with
  | some b=>pure b
  | none=>pure (decide (r.size < q.size))):=by kernel_rfl
theorem cmp_loop (o:Bool) {n0:Nat}:∀ {is js:List Value} {ns ms:List Int} (k:Nat) {Q:Bool→Shared→Prop},IntsAre is ns→IntsAre js ms→Q (ltL ns ms) s →
  wpAny (model prog w) A (forIn ((is.zip js).zipIdx k) ((none,()):Option Bool×Unit) (cmpF o) >>= fun z=>match z.1 with
   | some b=>pure b
   | none=>pure (decide (n0+is.length < n0+js.length))) Q E s:=by
 intro is
 induction is with
 | nil=>
  intro js ns ms k Q h1 h2 hq;cases h1;rw [List.zip_nil_left,List.zipIdx_nil,List.forIn_nil];refine wpAny_bind (wpAny_pure (wpAny_pure ?_))
  cases h2 with
  | nil=>simpa [ltL] using hq
  | cons m t h=>simpa [ltL] using hq
 | cons v is ih=>
  intro js ns ms k Q h1 h2 hq
  cases h1 with
  | cons n t h1=>
   cases h2 with
   | nil=>
    rw [List.zip_nil_right,List.zipIdx_nil,List.forIn_nil];refine wpAny_bind (wpAny_pure (wpAny_pure ?_));rw [decide_eq_false (by rw [List.length_cons,List.length_nil];lia)];exact hq
   | cons m u h2=>
    rw [List.zip_cons_cons,List.zipIdx_cons,List.forIn_cons];rw [bind_assoc];unfold ltL at hq;refine wpAny_bind ?_;refine wpAny_bind (wpAny_eqBool_int ?_)
    by_cases e:n=m
    ·rw [if_pos e] at hq
     rw [if_neg (by simp [e])];refine wpAny_pure ?_;have:=ih (k+1) h1 h2 hq;simpa [Nat.add_lt_add_iff_left] using this
    ·rw [if_neg e] at hq
     rw [if_pos (by simp [e])];refine wpAny_bind (oneLtG_int _ (wpAny_pure ?_));exact wpAny_bind (wpAny_pure (wpAny_pure hq))
end
end Srt
namespace Srt
open PySem PyProof.Rows
section
variable {prog:Program} {w:World} {A:Around} {E:Value→Shared→Prop} {s:Shared}
theorem tup_items {v:Value} {ns:List Int} (h:TupZ s v ns):∃its:Array Value,IntsAre its.toList ns∧s.TypeIs v "tuple"∧∀(E:Value→Shared→Prop) (Q:Array Value→Shared→Prop),Q its s→wpAny (model prog w) A (Builtin.List.listItems v) Q E s:=by
 obtain ⟨a,its,rfl,⟨o,ho,hc,n,hd⟩,hi⟩:=h;exact ⟨its,hi,⟨o,ho,hc⟩,fun E Q q=>listItems_at ho hd q⟩
theorem cmp_tup {x y:Value} {ns ms:List Int} (o:Bool) (hx:TupZ s x ns) (hy:TupZ s y ms) {Q:Bool→Shared→Prop} (h:Q (ltL ns ms) s):wpAny (model prog w) A (keyLt' (tuples' o) x y) Q E s:=by
 obtain ⟨r,hr,_,wr⟩:=tup_items (prog:=prog) (w:=w) (A:=A) hx;obtain ⟨q,hq,_,wq⟩:=tup_items (prog:=prog) (w:=w) (A:=A) hy;rw [keyLt_eq];refine wpAny_bind (wr E _ (wpAny_bind (wq E _ ?_)));have:=cmp_loop (prog:=prog) (w:=w) (A:=A) (E:=E) (n0:=0) o 0 hr hq h;simp only [Nat.zero_add,Array.length_toList] at this;exact this
theorem first_tup {v:Value} {n:Int} {ns:List Int} (h:TupZ s v (n :: ns)) {Q:Option Value→Shared→Prop} (hq:∀t,Q (some (.int n t)) s):wpAny (model prog w) A (firstOfTuple' v) Q E s:=by
 obtain ⟨r,hr,ty,wr⟩:=tup_items (prog:=prog) (w:=w) (A:=A) h;refine (wpAny_bind (wpAny_typeOf ty ?_):wpAny _ _ (firstOfTuple' v) Q E s);refine (show wpAny (model prog w) A (if (Value.type "tuple" != Value.type "tuple")=true then _ else _) Q E s from ?_);rw [if_neg (by simp)];refine wpAny_bind (wr E _ (wpAny_pure ?_));generalize hl:r.toList=l at hr
 cases hr with
 | cons _ t h2=>
  have:r[0]?=some (.int n t):=by
   rw [←Array.getElem?_toList,hl];rfl
  rw [this];exact hq t
theorem firsts_tup:∀ {vs:List Value},(∀v∈vs,∃n ns,TupZ s v (n :: ns))→∀ {Q:List (Option Value)→Shared→Prop},(∀is ns,IntsAre is ns→is.length=vs.length→Q (is.map some) s)→wpAny (model prog w) A (vs.mapM firstOfTuple') Q E s
 | [],_,Q,h=>by
  rw [List.mapM_nil];exact wpAny_pure (h [] [] .nil rfl)
 | v :: vs,hv,Q,h=>by
  obtain ⟨n,ns,hn⟩:=hv v List.mem_cons_self;rw [List.mapM_cons];refine wpAny_bind (first_tup hn fun t=>wpAny_bind (firsts_tup (fun v hv'=>hv v (List.mem_cons_of_mem _ hv')) fun is ms h1 h2=>wpAny_pure ?_));exact h (.int n t :: is) (n :: ms) (.cons n t h1) (by rw [List.length_cons,h2,List.length_cons])
theorem oneType_ints {is:List Value} {ns:List Int} (h:IntsAre is ns) (h0:is≠[]):oneTypeOnly' is.toArray=pure (some (.type "int")):=by
 rw [oneTypeOnly'_eq,List.mapM_toArray,mapM_typeOf_ints h];simp only [map_pure,pure_bind]
 cases is with
 | nil=>exact absurd rfl h0
 | cons v is=>
  have e0:(List.map (fun _=>Value.type "int") (v :: is)).toArray[0]?=some (Value.type "int"):=by simp
  have e1:((List.map (fun _=>Value.type "int") (v :: is)).toArray.all fun x=>x==Value.type "int")=true:=by
   simp only [List.all_toArray,List.all_map,List.all_eq_true]
   exact fun _ _=>rfl
  rw [e0];simp only [e1,if_true]
theorem kind_tup {vs:List Value} (hv:∀v∈vs,∃n ns,TupZ s v (n :: ns)) (h0:vs≠[]) {Q:SortKind→Shared→Prop} (h:Q (tuples' true) s):wpAny (model prog w) A (keyKind' vs.toArray) Q E s:=by
 rw [keyKind'_eq,List.mapM_toArray];refine wpAny_bind ?_;rw [map_eq_pure_bind];refine wpAny_bind (firsts_tup hv fun is ns h1 h2=>wpAny_pure ?_)
 have hall:((is.map some).toArray.all fun x=>x.isSome)=true:=by simp
 rw [if_pos hall];refine wpAny_bind (wpAny_rule ?_)
 have hf:(is.map some).toArray.filterMap id=is.toArray:=by simp
 rw [hf,oneType_ints h1 (by intro e;subst e;cases vs with | nil=>exact h0 rfl | cons=>simp at h2)];refine wpAny_bind (wpAny_pure (wpAny_pure ?_));exact h
end
end Srt
namespace Srt
open PySem PyProof.Rows
section
variable {prog:Program} {w:World} {A:Around} {E:Value→Shared→Prop} {s:Shared}
theorem pairs_mem {vs:List Value} {x:Keyed} (h:x∈pairsOf vs):x.1∈vs∧x.1=x.2:=by
 have:x∈(pairsOf vs).toList:=Array.mem_toList_iff.mpr h;rw [pairsOf_toList] at this;exact ⟨(mem_zip_self this).2,(mem_zip_self this).1⟩
theorem pairs_snd (vs:List Value):(pairsOf vs).map (·.2)=vs.toArray:=by
 apply Array.ext'
 rw [Array.toList_map,pairsOf_toList];simp [List.map_snd_zip]
noncomputable def SortOk (prog:Program) (w:World) (A:Around) (s:Shared) (vs:List Value) (f:Value→List Int):Prop:=
 ∃κ:SortKind,(∀(Q:SortKind→Shared→Prop) (E:Value→Shared→Prop),Q κ s→wpAny (model prog w) A (keyKind' vs.toArray) Q E s)∧CmpOk prog w A s (pairsOf vs) κ (ltK f)
theorem list_sort_any {a:Addr} {vs:List Value} {n:Nat} {P:Fin→Shared→Prop} {f:Value→List Int} (ho:s.heap.get? a=some (seqObj "list" vs.toArray n)) (hz:vs.length≤sizeLine)
  (hk:2≤vs.length→∀s':Shared,(∀b o,b≠a→s.heap.get? b=some o→s'.heap.get? b=some o)→SortOk prog w A s' vs f)
  (h:∀out:Array Value,out.toList.Perm vs→out.toList.Pairwise (fun x y=>ltL (f y) (f x)=false)→P (.done (.ret .none)) { s with heap:=sortedHeap s.heap a vs out }) :
  wpAny (model prog w) A (Builtin.«list.sort» ⟨[.ref a],[]⟩) P E s:=by
 have ha:a < s.heap.objs.size:=Heap.lt_size ho
 have hsz:vs.toArray.size=vs.length:=by simp
 obtain ⟨e1,ho1⟩:∃e1,(s.heap.update a (Obj.mapSeq fun _=>#[])).get? a=some (seqObj "list" #[] e1):=⟨_,get?_update_seq ho (fun _=>#[])⟩
 have ho6:(((s.heap.update a (Obj.mapSeq fun _=>#[])).push (seqObj "tuple" vs.toArray 0)).push (seqObj "list" #[] 0)).get? a=some (seqObj "list" #[] e1):=
  Heap.get?_push_of_some _ (Heap.get?_push_of_some _ ho1)
 have old:∀b o,b≠a→s.heap.get? b=some o→(((s.heap.update a (Obj.mapSeq fun _=>#[])).push (seqObj "tuple" vs.toArray 0)).push (seqObj "list" #[] 0)).get? b=some o:=fun b o hb hg=>
  Heap.get?_push_of_some _ (Heap.get?_push_of_some _ (by rw [Heap.get?_update_ne _ _ _ _ hb];exact hg))
 have fin:∀st':SortSt,(arrOf st').Perm (pairsOf vs)→(arrOf st').toList.Pairwise (Rl (ltK f))→P (.done (.ret .none)) { s with heap:=sortedHeap s.heap a vs ((arrOf st').map (·.2)) }:=by
  intro st' hp hs
  have hmem:∀x∈(arrOf st').toList,x.1=x.2:=fun x hx=>by
   have:x∈(pairsOf vs).toList:=(Array.perm_iff_toList_perm.mp hp).mem_iff.mp hx;exact (pairs_mem (Array.mem_toList_iff.mp this)).2
  refine h _ ?_ ?_
  ·have:=(Array.perm_iff_toList_perm.mp hp).map (·.2)
   rw [←Array.toList_map,←Array.toList_map,pairs_snd] at this;simpa using this
  ·rw [Array.toList_map,List.pairwise_map]
   refine hs.imp_of_mem fun {x y} hx hy r=>?_
   rw [←hmem x hx,←hmem y hy];exact r
 have last:∀st':SortSt,(arrOf st').Perm (pairsOf vs)→failedOf st'=none→(arrOf st').toList.Pairwise (Rl (ltK f))→(((arrOf st').map (·.2)).size≤sizeLine+1):=fun st' hp _ _=>by
  rw [Array.size_map,hp.size_eq,pairsOf_size]
  lia
 rw [list_sort_plain];refine wpAny_bind (listItems_at ho rfl (wpAny_bind (listUpdate_at ho rfl (wpAny_bind (seqEpoch_at ho1 rfl (wpAny_bind (wpAny_newTuple (wpAny_bind (wpAny_newList (wpAny_holding ?_)))))) ) (by rw [hsz];exact hz) (Nat.zero_le _))));show wpAny (model prog w) A _ P E { s with heap:=((s.heap.update a (Obj.mapSeq fun _=>#[])).push (seqObj "tuple" vs.toArray 0)).push (seqObj "list" #[] 0) };dsimp only
 by_cases h2:vs.toArray.size < 2
 ·rw [if_pos h2,if_pos h2]
  refine wpAny_bind (wpAny_pure ?_);rw [StateT.run_pure]
  have hs0:(arrOf (SortSt.mk' general' (vs.toArray.zip vs.toArray) #[] 7 none)).toList.Pairwise (Rl (ltK f)):=by
   have:(arrOf (SortSt.mk' general' (vs.toArray.zip vs.toArray) #[] 7 none)).toList.length < 2:=by
    rw [Array.length_toList];show (pairsOf vs).size < 2;rw [pairsOf_size];omega
   generalize (arrOf (SortSt.mk' general' (vs.toArray.zip vs.toArray) #[] 7 none)).toList=l at this
   match l,this with
   | [],_=>exact .nil
   | [x],_=>exact List.pairwise_singleton _ _
   | _ :: _ :: _,h=>simp at h;lia
  refine wpAny_bind (wpAny_pure (wpAny_bind (seqEpoch_at ho6 rfl (wpAny_bind (listUpdate_at ho6 rfl ?_ (Nat.zero_le _) (last (SortSt.mk' general' (vs.toArray.zip vs.toArray) #[] 7 none) (Array.Perm.refl _) rfl hs0))))));simp only [bne_self_eq_false,Bool.false_eq_true,if_false];exact wpAny_pure (fin (SortSt.mk' general' (vs.toArray.zip vs.toArray) #[] 7 none) (Array.Perm.refl _) hs0)
 ·rw [if_neg h2,if_neg h2]
  obtain ⟨κ,kk,C⟩:=hk (by lia) { s with heap:=((s.heap.update a (Obj.mapSeq fun _=>#[])).push (seqObj "tuple" vs.toArray 0)).push (seqObj "list" #[] 0) } old;refine wpAny_bind (kk _ _ ?_)
  refine wpAny_bind (wpAny_mono (Srt.wpS_sortRuns (a₀:=pairsOf vs) (st:=SortSt.mk' κ (vs.toArray.zip vs.toArray) #[] 7 none)
   (Q:=fun _ st'=>(arrOf st').Perm (pairsOf vs)∧failedOf st'=none∧(arrOf st').toList.Pairwise (Rl (ltK f))) C (ord_ltK f _) ⟨Array.Perm.refl _,rfl,rfl⟩ rfl fun st' g u=>⟨g.perm,g.failed,?_⟩) ?_ fun _ _ e=>e)
  ·have:=up_pw (a:=arrOf st') (lo:=0) (hi:=(arrOf st').size) (Nat.le_refl _) (by rw [g.size];exact u)
   rwa [ext_end,List.drop_zero] at this
  rintro ⟨⟨⟩,st'⟩ s' ⟨rfl,hp,hf,hs⟩;refine wpAny_bind (seqEpoch_at ho6 rfl (wpAny_bind (listUpdate_at ho6 rfl ?_ (Nat.zero_le _) (last st' hp hf hs))));rw [hf];simp only [bne_self_eq_false,Bool.false_eq_true,if_false];exact wpAny_pure (fin st' hp hs)
theorem sort_tups {vs:List Value} {f:Value→List Int} (h:∀v∈vs,TupZ s v (f v)∧f v≠[]) (h0:vs≠[]):SortOk prog w A s vs f:=
 ⟨tuples' true,fun Q E q=>kind_tup (fun v hv=>by
  obtain ⟨h1,h2⟩:=h v hv
  cases e:f v with
  | nil=>exact absurd e h2
  | cons n ns=>exact ⟨n,ns,by rw [←e];exact h1⟩) h0 q,fun x y hx hy Q E q=>cmp_tup true (h _ (pairs_mem hx).1).1 (h _ (pairs_mem hy).1).1 q⟩
noncomputable def oneZ (v:Value):List Int:=[numOf v]
theorem sort_ints {vs:List Value} {ns:List Int} (h:IntsAre vs ns) (h2:2≤vs.length):SortOk prog w A s vs oneZ:=by
 refine ⟨oneType',fun Q E q=>?_,fun x y hx hy Q E q=>?_⟩
 ·match vs,h2,h with
  | v :: u :: r,_,h=>rw [keyKind_ints h];exact wpAny_pure q
 ·obtain ⟨n,t,e1⟩:=h.all _ (pairs_mem hx).1
  obtain ⟨m,u,e2⟩:=h.all _ (pairs_mem hy).1;rw [keyLt'_oneType,e1,e2];refine oneLt_int ?_
  have:ltK oneZ x y=decide (n < m):=by
   unfold ltK oneZ;rw [e1,e2];show (if n=m then false else decide (n < m))=_;split
   ·rename_i e;simp [e]
   ·rfl
  rw [←this];exact q
end
end Srt
namespace Srt
open PySem PyProof.Rows
noncomputable def RawD (h:Heap) (d:Addr) (es:Array DictEntry) (ep:Nat):Prop:=∃o,h.get? d=some o∧o.ExactDict∧o.data=.dict es ep
theorem RawD.at' {h h':Heap} {d:Addr} {es:Array DictEntry} {ep:Nat} (x:RawD h d es ep) (e:∀o,h.get? d=some o→h'.get? d=some o):RawD h' d es ep:=let ⟨o,ho,r⟩:=x;⟨o,e _ ho,r⟩
theorem RawD.ty {s:Shared} {d:Addr} {es:Array DictEntry} {ep:Nat} (x:RawD s.heap d es ep):s.TypeIs (.ref d) "dict":=let ⟨o,ho,hc,_⟩:=x;⟨o,ho,hc.1⟩
section
variable {prog:Program} {w:World} {A:Around} {E:Value→Shared→Prop} {s:Shared} {d it:Addr} {es:Array DictEntry} {ep i:Nat}
theorem raw_iter {Q:Value→Shared→Prop} (hd:(d==sysModules)=false) (hm:RawD s.heap d es ep)
  (kq:Q (.ref s.heap.objs.size) { s with heap:=s.heap.push { cls:=.type "dict_keyiterator",data:=.fields #[.ref d,.int 0 0,.int es.size 0,.int ep 0] } }):wpAny (model prog w) A (pyIter (.ref d)) Q E s:=by
 have hT:=hm.ty;obtain ⟨o,ho,hc,hdat⟩:=hm;refine wpAny_pyIter_slot hT PySem.F.slot_dict_iter (wpAny_call_entry PySem.F.slot_dict_iter hT PySem.F.entry_dict_iter ?_ (PySem.F.args_dict_iter_1 _));unfold Builtin.«dict.__iter__»;refine wpAny_bind ?_;unfold Builtin.Dict.dictSlotNone;refine wpAny_bind (wpAny_notOrdered_dict hT (show wpAny _ _ (pure (Value.ref d)) _ _ s from wpAny_pure ?_));refine (show wpAny _ _ (Builtin.Dict.showsAll d >>= _) _ _ s from ?_);unfold Builtin.Dict.showsAll;rw [if_neg (by simp [hd])];refine wpAny_bind (wpAny_pure (wpAny_bind (wpAny_dictEntries ho hdat (wpAny_bind (wpAny_dictEpoch ho hdat (wpAny_bind (wpAny_newObj_type (wpAny_pure ⟨_,rfl, "dict_keyiterator",_,⟨_,Heap.get?_push_size _ rfl,rfl⟩,PySem.F.slot_dict_keyiterator_next.lookup,?_⟩))))))));simpa [rawInt] using kq
theorem raw_next {Q:Option Value→Shared→Prop} (ki:s.heap.IsKeyIter it d i es.size ep) (hm:RawD s.heap d es ep) (hi:i < es.size)
  (kq:∀h',h'.IsKeyIter it d (i+1) es.size ep→Heap.SameBut it s.heap h'→Q (some es[i].key) { s with heap:=h' }):wpAny (model prog w) A (pyNext (.ref it)) Q E s:=by
 obtain ⟨o,ho,hc,hd⟩:=id ki;obtain ⟨od,hod,hcd,hdd⟩:=hm;unfold pyNext;refine wpAny_bind (wpAny_attempt (wpAny_callSpecial?_slot (name:=Str.ofString "__next__") ki.typeIs PySem.F.slot_dict_keyiterator_next (wpAny_call_entry PySem.F.slot_dict_keyiterator_next ki.typeIs PySem.F.entry_dict_keyiterator_next (wpAny_bind (wpAny_pure (wpAny_bind (wpAny_bind ?_)))) (PySem.F.args_dict_keyiterator_next_1 _))))
 first | refine wpAny_bind (wpAny_typeNameOfWhole_keyiter ki.typeIs (wpAny_pure (wpAny_bind (wpAny_fieldsOf ho hd ?_)))) | refine wpAny_bind (wpAny_typeNameOf_keyiter ki.typeIs (wpAny_pure (wpAny_bind (wpAny_fieldsOf ho hd ?_))))
 simp only [show Builtin.Dict_items.ownsTuple "dict_keyiterator" = false by decide,Bool.false_eq_true,if_false];refine (show wpAny _ _ (if (Value.ref d==Value.none)=true then _ else _) _ _ s from ?_);rw [if_neg (fun z:(Value.ref d==Value.none)=true=>Bool.false_ne_true z)];refine wpAny_bind (wpAny_pure (wpAny_bind (wpAny_dictEntries hod hdd ?_)));rw [if_neg (by simp)];refine wpAny_bind (wpAny_pure (wpAny_bind (wpAny_dictEpoch hod hdd ?_)));rw [if_neg (by simp)];refine wpAny_pure ?_;simp only [show ¬((i:Int) < 0) by lia,if_false,Int.toNat_natCast,Array.getElem?_eq_getElem hi];refine wpAny_bind ?_
 first | refine wpAny_bind (wpAny_typeNameOfWhole_keyiter ki.typeIs (wpAny_pure (wpAny_bind (wpAny_isOneOf_keyiter ki.typeIs ?_)))) | refine wpAny_bind (wpAny_typeNameOf_keyiter ki.typeIs (wpAny_pure (wpAny_bind (wpAny_isOneOf_keyiter ki.typeIs ?_))))
 refine (show wpAny _ _ (setField (.ref it) 1 (rawInt ((i:Int)+1)) >>= _) _ _ s from ?_);have ki':(s.heap.update it (Obj.mapFields (·.setIfInBounds 1 (rawInt ((i:Int)+1))))).IsKeyIter it d (i+1) es.size ep:=⟨_,Heap.get?_update_self _ ho (Obj.isFreed_of_fields (Obj.data_mapFields hd _)),(Obj.cls_mapFields ..).trans hc,by rw [Obj.data_mapFields hd];simp [rawInt]⟩;refine wpAny_bind (wpAny_setField ho hd (by simp) (wpAny_bind (wpAny_holding (wpAny_bind (wpAny_isOneOf_keyiter (s:={ s with heap:=s.heap.update it (Obj.mapFields (·.setIfInBounds 1 (rawInt ((i:Int)+1)))) }) ki'.typeIs ?_)))));exact (show wpAny _ _ (pure es[i].key) _ _ _ from wpAny_pure (wpAny_pure ⟨_,rfl,wpAny_pure (kq _ ki' (Heap.SameBut.update ..))⟩))
theorem raw_end {Q:Option Value→Shared→Prop} (h0:A.handled=none) (ki:s.heap.IsKeyIter it d i es.size ep) (hm:RawD s.heap d es ep) (hi:es.size≤i)
  (kq:∀h',Heap.ExtBut it s.heap h'→Q none { s with heap:=h' }):wpAny (model prog w) A (pyNext (.ref it)) Q E s:=by
 obtain ⟨o,ho,hc,hd⟩:=id ki;obtain ⟨od,hod,hcd,hdd⟩:=hm;unfold pyNext;refine wpAny_bind (wpAny_attempt (wpAny_callSpecial?_slot (name:=Str.ofString "__next__") ki.typeIs PySem.F.slot_dict_keyiterator_next (wpAny_call_entry PySem.F.slot_dict_keyiterator_next ki.typeIs PySem.F.entry_dict_keyiterator_next (wpAny_bind (wpAny_pure (wpAny_bind (wpAny_bind ?_)))) (PySem.F.args_dict_keyiterator_next_1 _))))
 first | refine wpAny_bind (wpAny_typeNameOfWhole_keyiter ki.typeIs (wpAny_pure (wpAny_bind (wpAny_fieldsOf ho hd ?_)))) | refine wpAny_bind (wpAny_typeNameOf_keyiter ki.typeIs (wpAny_pure (wpAny_bind (wpAny_fieldsOf ho hd ?_))))
 simp only [show Builtin.Dict_items.ownsTuple "dict_keyiterator" = false by decide,Bool.false_eq_true,if_false];refine (show wpAny _ _ (if (Value.ref d==Value.none)=true then _ else _) _ _ s from ?_);rw [if_neg (fun z:(Value.ref d==Value.none)=true=>Bool.false_ne_true z)];refine wpAny_bind (wpAny_pure (wpAny_bind (wpAny_dictEntries hod hdd ?_)));rw [if_neg (by simp)];refine wpAny_bind (wpAny_pure (wpAny_bind (wpAny_dictEpoch hod hdd ?_)));rw [if_neg (by simp)];refine wpAny_pure ?_;simp only [show ¬((i:Int) < 0) by lia,if_false,Int.toNat_natCast,Array.getElem?_eq_none hi];refine wpAny_bind ?_
 first | refine wpAny_bind (wpAny_typeNameOfWhole_keyiter ki.typeIs (wpAny_pure (show wpAny _ _ (setField (.ref it) 0 .none >>= _) _ _ s from ?_))) | refine wpAny_bind (wpAny_typeNameOf_keyiter ki.typeIs (wpAny_pure (show wpAny _ _ (setField (.ref it) 0 .none >>= _) _ _ s from ?_)))
 refine wpAny_bind (wpAny_setField ho hd (by simp) (show wpAny _ _ (newExc (.type "StopIteration") [] >>= _) _ _ _ from wpAny_bind ?_));simp only [newExc,newTuple];refine wpAny_bind (wpAny_newObj_type (wpAny_bind (m:=firstArgMember _ _) (wpAny_of_eq (a:=Value.none) (by first | rfl | (simp only [firstArgMember];rfl)) (wpAny_newObj_type ?_ (by size_fits)))) (by size_fits));simp only [raiseNew];refine wpAny_bind (wpAny_handled ?_);rw [show A.in1.handled=none from h0];refine wpAny_bind (wpAny_pure (wpAny_throw ?_));refine wpAny_bind (wpAny_isInstance (T:="StopIteration") (b:=true) ⟨_,Heap.get?_push_size _ rfl,rfl⟩ isSubtype_stop (wpAny_pure ?_));exact kq _ (((Heap.SameBut.update ..).extBut.push _).push _)
theorem raw_walks (h0:A.handled=none) (I:Addr) (hne:d≠I):Walks prog w A I [I,d] [I] es.size (fun i v=>∃h:i < es.size,v=es[i].key) (fun i h=>h.IsKeyIter I d i es.size ep∧RawD h d es ep) where
 sub:=fun x hx=>by simp at hx;simp [hx]
 frame:=fun _ _ _ st keep=>⟨st.1.at fun o e=>keep I (by simp) o e,st.2.at' fun o e=>keep d (by simp) o e⟩
 item:=fun i s Q E hi st kq=>raw_next st.1 st.2 hi fun h' ki' hs'=>kq _ h' s.toks ⟨hi,rfl⟩ ⟨ki',st.2.at' fun o e=>hs'.extBut d o hne e⟩ fun b o hb e=>hs'.extBut b o (fun h=>hb (by simp [h])) e
 done:=fun s Q E st kq=>raw_end h0 st.1 st.2 (Nat.le_refl _) fun h' he'=>kq h' s.toks fun b o hb e=>he' b o (fun h=>hb (by simp [h])) e
 self:=fun _ _ _ _ st kq=>wpAny_pyIter_keyiter st.1 kq
theorem raw_src (lo:(d==sysModules)=false):PySem.W.KdlSrc prog w "dict" d d es.size (fun i v=>∃h:i < es.size,v=es[i].key) (fun h=>RawD h d es ep) where
 type:=fun _ hm=>hm.ty
 there:=fun _ hm=>⟨let ⟨_,ho,_⟩:=hm;Heap.lt_size ho,let ⟨_,ho,_⟩:=hm;Heap.lt_size ho⟩
 keep:=fun _ _ hm hk=>hm.at' fun o e=>hk d (.inl rfl) o e
 notList:=by decide
 notTuple:=by decide
 hint:=fun _ _ _ _ hm hq=>PySem.W.kdl_hint_dict hm.ty hq
 iter:=fun _ _ h0 hm=>⟨_,_,(fun _ _ hq=>raw_iter lo hm hq),raw_walks h0 _ (Nat.ne_of_lt (let ⟨_,ho,_⟩:=hm;Heap.lt_size ho)),⟨⟨_,Heap.get?_push_size _ rfl,rfl,rfl⟩,hm.at' fun o e=>Heap.get?_push_of_some _ e⟩⟩
end
end Srt
namespace L2
open PySem PySem.Spec PyProof.Rows
open Srt (ltL)
theorem paired_perm {α β:Type} {R:α→β→Prop} {l2 l2':List β} (p:l2.Perm l2'):∀ {l1:List α},Paired R l1 l2→∃l1',Paired R l1' l2'∧l1'.Perm l1:=by
 induction p with
 | nil=>intro l1 h;cases h;exact ⟨[],.nil,.refl _⟩
 | cons x _ ih=>
  intro l1 h
  cases h with
  | cons r t=>
   obtain ⟨l',h1,h2⟩:=ih t;exact ⟨_ :: l',.cons r h1,h2.cons _⟩
 | swap x y l=>
  intro l1 h
  cases h with
  | cons r t=>
   cases t with
   | cons r2 t=>exact ⟨_ :: _ :: _,.cons r2 (.cons r t),List.Perm.swap _ _ _⟩
 | trans _ _ ih1 ih2=>
  intro l1 h;obtain ⟨a,h1,h2⟩:=ih1 h;obtain ⟨b,h3,h4⟩:=ih2 h1;exact ⟨b,h3,h4.trans h2⟩
theorem paired_mapEq {α β γ:Type} {R:α→β→Prop} {f:α→γ} {g:β→γ}:∀ {l1:List α} {l2:List β},Paired R l1 l2→(∀a∈l1,∀b,R a b→g b=f a)→l2.map g=l1.map f
 | _,_,.nil,_=>rfl
 | _,_,.cons r t,h=>by rw [List.map_cons,List.map_cons,h _ List.mem_cons_self _ r,paired_mapEq t fun a ha=>h a (List.mem_cons_of_mem _ ha)]
theorem paired_mem {α β:Type} {R:α→β→Prop}:∀ {l1:List α} {l2:List β} {b:β},Paired R l1 l2→b∈l2→∃a∈l1,R a b
 | _,_,_,.nil,h=>nomatch h
 | _,_,b,.cons r t,h=>by
  rcases List.mem_cons.mp h with h | h
  ·subst h;exact ⟨_,List.mem_cons_self,r⟩
  ·obtain ⟨a,ha,e⟩:=paired_mem t h
   exact ⟨a,List.mem_cons_of_mem _ ha,e⟩
noncomputable def numV:V→Int
 | .int n=>n
 | _=>0
noncomputable def rowH (H:Hp):Value→List Int
 | .int n _=>[n]
 | .ref b=>match H b with
  | some (.tup xs)=>xs.map numV
  | _=>[]
 | _=>[]
theorem numV_ints (r:List Int):(r.map V.int).map numV=r:=by
 rw [List.map_map];exact (List.map_congr_left fun a _=>rfl).trans (List.map_id' r)
noncomputable def SrcV (K:PySem.W.Frag) (H:Hp) (p:Addr) (G:List V→Prop):Prop:=
 (∃vs,(SqL K H p vs∨SqT K H p vs)∧G vs)∨(∃kvs,H p=some (.dK kvs)∧G (kvs.map fun x=>kV x.1)) ∨
  ∃kvs,H p=some (.dT kvs)∧∀bs:List Addr,Paired (fun (k:List Key×V) b=>H b=some (.tup (k.1.map kV))) kvs bs→G (bs.map V.ref)
noncomputable def RowsV (H:Hp) (f:V→List Int) (vs:List V):Prop:=(∀v∈vs,∃n,v=.int n∧f v=[n])∨∀v∈vs,∃b,v=.ref b∧H b=some (.tup ((f v).map V.int))∧f v≠[]
noncomputable def rSort (K:PySem.W.Frag):List V→Hp→VK→Prop:=fun xs H Q=>∃p,xs=[.ref p]∧SrcV K H p fun vs=>∃f:V→List Int,RowsV H f vs ∧
 ∀out,out.Perm vs→out.Pairwise (fun x y=>ltL (f y) (f x)=false)→∀l,H l=none→Q (.ref l) (upd H l (.lst out))
theorem RowsV.rel {H:Hp} {f:V→List Int} {vs:List V} (h:RowsV H f vs):∀v∈vs,∀u,RelV v u→rowH H u=f v:=fun v hv u r=>by
 rcases h with h | h
 ·obtain ⟨n,rfl,e⟩:=h v hv
  obtain ⟨t,rfl⟩:=r;exact e.symm
 ·obtain ⟨b,rfl,e,_⟩:=h v hv
  cases r;show (match H b with | some (.tup xs)=>xs.map numV | _=>[])=_;rw [e];exact numV_ints _
theorem src_collect {X:Cx} {pins:List (Addr×Obj)} {s:Shared} {σ:St} {H:Hp} {p:Addr} {G:List V→Prop} (hc:X.calm=true) (I:Inv X pins σ H s) (h:SrcV X.K H p G) :
  ∃vs its,G vs∧Vals vs its∧its.length≤sizeLine∧∀(R:List Value→Shared→Prop) (E:Value→Shared→Prop),(∀(g:Heap) (tk:Nat),(∀b o,s.heap.get? b=some o→g.get? b=some o)→R its { s with heap:=g,toks:=tk })→wpAny (model X.prog X.w) X.A.in1 (collect (.ref p)) R E s:=by
 have hh:X.A.handled=none:=I.ok.hd hc
 rcases h with ⟨vs,sq,g⟩ | ⟨kvs,e,g⟩ | ⟨kvs,e,g⟩
 ·rcases sq with sq | sq
  ·obtain ⟨its,rv,pl,hz⟩:=I.list sq
   refine ⟨vs,its,g,rv,by rw [←rv.length];exact hz,fun R E k=>collect_list pl.isList (k _ s.toks fun b o e=>?_) (by rw [←rv.length];exact hz)⟩;rw [Heap.get?_update_ne _ _ _ _ (Nat.ne_of_lt (Heap.lt_size e))];exact Heap.get?_push_of_some _ e
  ·obtain ⟨its,rv,⟨o,ho,hcl,n,hd⟩,hz⟩:=I.tuple sq
   have hz':its.length≤sizeLine:=by rw [←rv.length];exact hz
   exact ⟨vs,its,g,rv,hz',fun R E k=>wpAny_collect_seq p (.inr rfl) ho hcl hd (fun h' kp=>by simpa using k h' s.toks kp) (by simpa using hz')⟩
 ·obtain ⟨hz,sm,us,kv,o,es,ep,g1,g2,g3,g5,g6,_⟩:=(show ObjOk X.prog X.w H s.heap p (.dK kvs) from I.hok p _ e)
  have hlen:es.size=kvs.length:=by
   have a1:=g6.length;have a2:kvs.length=us.length:=Paired.length kv;rw [Array.length_toList] at a1
   lia
  have hv:Vals (kvs.map fun x=>kV x.1) (es.toList.map (·.key)):=by
   have key:∀ {l:List DictEntry} {us:List (Key×Value)} {kvs:List (Key×V)},Pairs (mixKind X.prog X.w) l us→KV kvs us→Vals (kvs.map fun x=>kV x.1) (l.map (·.key)):=by
    intro l us kvs hp
    induction hp generalizing kvs with
    | nil=>intro h;cases h;exact .nil
    | cons q1 q2 _ ih=>
     intro h
     cases h with
     | cons r t=>
      refine .cons ?_ (ih t);dsimp only;rw [r.1]
      rcases keyIs_shape q1 with ⟨i,t,e1,e2⟩ | ⟨x,t,e1,e2⟩
      ·rw [e1,e2];exact ⟨t,rfl⟩
      ·rw [e1,e2];exact ⟨t,rfl⟩
   exact key g6 kv
  refine ⟨_,es.toList.map (·.key),g,hv,by rw [List.length_map,Array.length_toList,hlen];exact hz,fun R E k=>?_⟩
  refine PySem.W.kdu_collect (Srt.raw_src (es:=es) (ep:=ep) sm) hh ⟨o,g1,g2,g3⟩ (by rw [hlen];exact hz) fun g' tk acc kp ac=>?_
  have:acc.toList=es.toList.map (·.key):=by
   apply List.ext_getElem?
   intro j
   by_cases hj:j < es.size
   ·have hj2:j < acc.size:=by rw [ac.1];exact hj
    obtain ⟨_,e2⟩:=ac.2 j acc[j] (by simp [hj2]);simp [hj,hj2,e2]
   ·have hj2:¬j < acc.size:=by rw [ac.1];exact hj
    simp [hj,hj2]
  rw [this];exact k g' tk kp
 ·obtain ⟨hz,sm,xs,rr,o,es,ep,g1,g2,g3,g4,_⟩:=(show ObjOk X.prog X.w H s.heap p (.dT kvs) from I.hok p _ e)
  have hlen:es.size=kvs.length:=by
   have a1:=congrArg List.length g4;have a2:kvs.length=xs.length:=Paired.length rr;rw [Array.length_toList,List.length_map] at a1
   lia
  have hb:Paired (fun (k:List Key×V) b=>H b=some (.tup (k.1.map kV))) kvs (xs.map (·.2.1)):=by
   have key:∀ {kvs:List (List Key×V)} {xs:List (List Key×Addr×Value)},Paired (fun (p:List Key×V) (q:List Key×Addr×Value)=>p.1=q.1∧H q.2.1=some (.tup (p.1.map kV))∧RelV p.2 q.2.2) kvs xs→Paired (fun (k:List Key×V) b=>H b=some (.tup (k.1.map kV))) kvs (xs.map (·.2.1)):=by
    intro kvs xs h
    induction h with
    | nil=>exact .nil
    | cons r _ ih=>exact .cons r.2.1 ih
   exact key rr
  have hk:es.toList.map (·.key)=(xs.map (·.2.1)).map Value.ref:=by
   rw [g4,List.map_map,List.map_map];rfl
  have hv:∀l:List Addr,Vals (l.map V.ref) (l.map Value.ref):=fun l=>by
   induction l with
   | nil=>exact .nil
   | cons a l ih=>exact .cons rfl ih
  refine ⟨_,(xs.map (·.2.1)).map Value.ref,g _ hb,hv _,by rw [List.length_map,List.length_map,←Paired.length rr];exact hz,fun R E k=>?_⟩
  refine PySem.W.kdu_collect (Srt.raw_src (es:=es) (ep:=ep) sm) hh ⟨o,g1,g2,g3⟩ (by rw [hlen];exact hz) fun g' tk acc kp ac=>?_
  have:acc.toList=(xs.map (·.2.1)).map Value.ref:=by
   rw [←hk]
   apply List.ext_getElem?
   intro j
   by_cases hj:j < es.size
   ·have hj2:j < acc.size:=by rw [ac.1];exact hj
    obtain ⟨_,e2⟩:=ac.2 j acc[j] (by simp [hj2]);simp [hj,hj2,e2]
   ·have hj2:¬j < acc.size:=by rw [ac.1];exact hj
    simp [hj,hj2]
  rw [this];exact k g' tk kp
theorem rows_sortOk {X:Cx} {s:Shared} {H:Hp} {f:V→List Int} {vs:List V} {its:List Value} (I:∀b xs,H b=some (.tup xs)→∃is:List Value,Vals xs is∧IsTup s.heap b is.toArray) (h:RowsV H f vs) (rv:Vals vs its) (h2:2≤its.length) {A:Around}:Srt.SortOk X.prog X.w A s its (rowH H):=by
 rcases id h with hi | ht
 ·have:∃ns,IntsAre its ns:=by
   have key:∀ {vs:List V} {its:List Value},Vals vs its→(∀v∈vs,∃n,v=.int n∧f v=[n])→∃ns,IntsAre its ns:=by
    intro vs its r
    induction r with
    | nil=>exact fun _=>⟨[],.nil⟩
    | cons r _ ih=>
     intro hv
     obtain ⟨ns,hns⟩:=ih fun v hv'=>hv v (List.mem_cons_of_mem _ hv')
     obtain ⟨n,rfl,_⟩:=hv _ List.mem_cons_self;obtain ⟨t,rfl⟩:=r;exact ⟨n :: ns,.cons n t hns⟩
   exact key rv hi
  obtain ⟨ns,hns⟩:=this;obtain ⟨κ,k1,k2⟩:=Srt.sort_ints (prog:=X.prog) (w:=X.w) (A:=A) (s:=s) hns h2;refine ⟨κ,k1,fun x y hx hy Q E q=>k2 x y hx hy Q E ?_⟩;obtain ⟨n,t,e1⟩:=hns.all _ (Srt.pairs_mem hx).1;obtain ⟨m,u,e2⟩:=hns.all _ (Srt.pairs_mem hy).1
  have e:Srt.ltK Srt.oneZ x y=Srt.ltK (rowH H) x y:=by
   unfold Srt.ltK Srt.oneZ;rw [e1,e2];rfl
  rw [e];exact q
 ·refine Srt.sort_tups (fun u hu=>?_) (by intro e;subst e;simp at h2)
  obtain ⟨v,hv,r⟩:=paired_mem rv hu;rw [h.rel v hv u r];obtain ⟨b,rfl,e,ne⟩:=ht v hv;cases r;refine ⟨⟨b,?_⟩,ne⟩;obtain ⟨is,r,o,ho,hcl,n,hd⟩:=I b _ e;exact ⟨is.toArray,rfl,⟨o,ho,hcl,n,hd⟩,by simpa using intsAre_of r⟩
theorem call_sort {X:Cx} (hc:X.calm=true):CallR X (.builtin "sorted") (rSort X.K):=by
 intro pins s σ H xs us Q I r h;obtain ⟨p,rfl,src⟩:=h;obtain ⟨u,rfl,rx⟩:=vals1 r;cases rx;obtain ⟨vs,its,⟨f,rows,q⟩,rv,hz,col⟩:=src_collect hc I src;refine Calls.call_function_entry kind_sorted plain_sorted entry_sorted (args_sorted1 _) ?_;unfold Builtin.«sorted»;refine wpAny_bind (m:=checkCount "sorted" 1 1 _) (wpAny_pure (wpAny_bind (col _ _ fun g tk kp=>?_)));refine wpAny_bind (wpAny_newList ?_ hz);have I1:Inv X pins σ H { s with heap:=g,toks:=tk }:=I.kept kp;have hl:(g.push (seqObj "list" its.toArray 0)).get? g.objs.size=some (seqObj "list" its.toArray 0):=Heap.get?_push_size _ rfl;refine wpAny_bind (wpAny_holding (wpAny_call_entry slot_list_sort ⟨_,hl,rfl⟩ entry_list_sort (Srt.list_sort_any (f:=rowH H) hl hz (fun h2 s' keep=>?_) fun out po so=>⟨_,rfl,wpAny_pure ⟨_,rfl,?_⟩⟩) (args_list_sort _)))
 ·refine rows_sortOk (fun b xs e=>?_) rows rv h2
  obtain ⟨_,is,r,o,ho,hcl,n,hd⟩:=(show ObjOk X.prog X.w H g b (.tup xs) from I1.hok b _ e);exact ⟨is,r,o,keep b o (Nat.ne_of_lt (Heap.lt_size ho)) (Heap.get?_push_of_some _ ho),hcl,n,hd⟩
 ·obtain ⟨vo,ro,pv⟩:=paired_perm po.symm rv
  have so':vo.Pairwise (fun x y=>ltL (f y) (f x)=false):=by
   have e:out.toList.map (rowH H)=vo.map f:=paired_mapEq ro fun a ha b rb=>rows.rel a (pv.mem_iff.mp ha) b rb
   have:=(List.pairwise_map (f:=rowH H) (R:=fun x y=>ltL y x=false)).mpr so;rw [e] at this;exact List.pairwise_map.mp this
  obtain ⟨k,hk⟩:=sortedHeap_at (out:=out) hl
  have hlen:vo.length≤sizeLine:=by rw [pv.length_eq,rv.length];exact hz
  have I2:=I1.laid (a:=g.objs.size) (o:=.lst vo) (t':=tk) (h':=sortedHeap (g.push (seqObj "list" its.toArray 0)) g.objs.size its out)
   (fun b u z=>by
    have lt:b < g.objs.size:=Heap.lt_size z;rw [sortedHeap_old (Nat.ne_of_lt lt) (by rw [size_push'];exact Nat.lt_succ_of_lt lt)]
    exact Heap.get?_push_of_some _ z) (Nat.le_refl _) ⟨hlen,out.toList,k,ro,hk⟩
  exact ⟨.ref g.objs.size,_,I2,rfl,q vo pv so' _ (I1.hok.fresh (Nat.le_refl _))⟩
end L2
namespace L2
open PySem PySem.Spec PyProof.Rows
open Srt (ltL)
noncomputable def sortZ (ns:List Int):List Int:=ns.mergeSort (fun a b=>decide (a≤b))
@[simp] theorem sortZ_nil:sortZ []=[]:=by unfold sortZ;simp
theorem sortZ_perm (ns:List Int):(sortZ ns).Perm ns:=List.mergeSort_perm ns _
theorem sortZ_le (ns:List Int):(sortZ ns).Pairwise (·≤·):=by
 have:=List.pairwise_mergeSort (le:=fun a b:Int=>decide (a≤b)) (by intro a b c h1 h2;simp at h1 h2 ⊢;lia) (by intro a b;simp;lia) ns
 exact this.imp fun h=>by simpa using h
noncomputable def sortR (rs:List (List Int)):List (List Int):=rs.mergeSort (fun a b=>!ltL b a)
theorem sortR_perm (rs:List (List Int)):(sortR rs).Perm rs:=List.mergeSort_perm rs _
theorem sortR_le (rs:List (List Int)):(sortR rs).Pairwise (fun a b=>ltL b a=false):=by
 have:=List.pairwise_mergeSort (le:=fun a b:List Int=>!ltL b a) (by intro a b c h1 h2;simp at h1 h2 ⊢;exact Srt.ltL_ntr _ _ _ h1 h2) (by
  intro a b
  cases e:ltL b a with
  | false=>simp
  | true=>simp [Srt.ltL_asym _ _ e]) rs
 exact this.imp fun h=>by simpa using h
theorem sort_same {l l':List (List Int)} (p:l.Perm l') (h:l.Pairwise (fun a b=>ltL b a=false)) (h':l'.Pairwise (fun a b=>ltL b a=false)):l=l':=
 p.eq_of_pairwise (fun a b _ _ h1 h2=>Srt.ltL_tri a b h2 h1) h h'
noncomputable def keyV:Key→D
 | .inl i=>.int i
 | .inr x=>.str x
noncomputable def itemsS (d:D) (S:Sto):Option (List D):=match d with
 | .fro ds=>some ds
 | .tup ds=>some ds
 | .ref n=>match S[n]? with
  | some (.lst ds)=>some ds
  | some (.dK kvs)=>some (kvs.map fun x=>keyV x.1)
  | some (.dT kvs)=>some (kvs.map fun x=>.tup (x.1.map keyV))
  | _=>none
 | _=>none
noncomputable def rowD (r:List Int):D:=.tup (r.map D.int)
noncomputable def rowsD:List D→Option (List (List Int))
 | []=>some []
 | .tup ds :: r=>match intsD ds,rowsD r with
  | some (n :: ns),some rs=>some ((n :: ns) :: rs)
  | _,_=>none
 | _ :: _=>none
noncomputable def sortD (ds:List D):Option (List D):=match intsD ds with
 | some ns=>some ((sortZ ns).map D.int)
 | none=>match rowsD ds with
  | some rs=>some ((sortR rs).map rowD)
  | none=>none
noncomputable def mSorted (m:ME):ME:=fun e S=>(m e S).bind fun d S1=>match itemsS d S1 with
 | some ds=>match sortD ds with
  | some es=>.ok (.ref S1.length) (S1++[.lst es])
  | none=>.bad
 | none=>.bad
section
variable {X:Cx} {E:EW} {e:Expr} {p pos:Pos} {m:ME}
theorem ltL_one (x y:Int):ltL [y] [x]=decide (y < x):=by
 show (if y=x then false else decide (y < x))=_;split
 ·rename_i e;simp [e]
 ·rfl
noncomputable def rowV (H:Hp):V→List Int
 | .int n=>[n]
 | .ref b=>match H b with
  | some (.tup xs)=>xs.map numV
  | _=>[]
 | _=>[]
theorem rows_rel {K:PySem.W.Frag} {ρ:List Addr} {H:Hp}:∀ {ds:List D} {rs:List (List Int)} {vs:List V},rowsD ds=some rs→RelDs K ρ H ds vs→vs.map (rowV H)=rs∧∀v∈vs,∃b,v=.ref b∧H b=some (.tup ((rowV H v).map V.int))∧rowV H v≠[]
 | [],_,_,h,.nil=>by cases h;exact ⟨rfl,fun v hv=>nomatch hv⟩
 | .tup ts :: ds,rs,_,h,.cons r t=>by
  unfold rowsD at h;split at h
  ·rename_i n ns rs' h1 h2
   cases h;obtain ⟨i1,i2⟩:=rows_rel h2 t
   cases r with
   | @tup _ b ws hb rr=>
    have:=intsD_eq h1;subst this;have:=rr.ints;subst this
    have e:rowV H (.ref b)=n :: ns:=by
     show (match H b with | some (.tup xs)=>xs.map numV | _=>[])=_;rw [hb];exact numV_ints _
    refine ⟨by rw [List.map_cons,e,i1],fun v hv=>?_⟩
    rcases List.mem_cons.mp hv with hv | hv
    ·subst hv
     refine ⟨b,rfl,?_,?_⟩
     ·rw [e];exact hb
     ·rw [e];exact List.cons_ne_nil _ _
    ·exact i2 v hv
  ·cases h
 | .non :: _,_,_,h,_=>by cases h
 | .bl _ :: _,_,_,h,_=>by cases h
 | .int _ :: _,_,_,h,_=>by cases h
 | .str _ :: _,_,_,h,_=>by cases h
 | .fro _ :: _,_,_,h,_=>by cases h
 | .ref _ :: _,_,_,h,_=>by cases h
 | .exc _ :: _,_,_,h,_=>by cases h
theorem rel_rows {K:PySem.W.Frag} {ρ:List Addr} {H:Hp}:∀ {vs:List V},(∀v∈vs,∃b,v=.ref b∧H b=some (.tup ((rowV H v).map V.int))∧rowV H v≠[])→RelDs K ρ H ((vs.map (rowV H)).map rowD) vs
 | [],_=>.nil
 | v :: vs,h=>by
  obtain ⟨b,e,hb,_⟩:=h v List.mem_cons_self;refine .cons ?_ (rel_rows fun u hu=>h u (List.mem_cons_of_mem _ hu));subst e;exact .tup hb (RelDs.of_ints _)
theorem sort_rel {K:PySem.W.Frag} {ρ:List Addr} {H:Hp} {ds es:List D} {vs:List V} (h:sortD ds=some es) (r:RelDs K ρ H ds vs) :
  ∃f:V→List Int,RowsV H f vs∧∀out,out.Perm vs→out.Pairwise (fun x y=>ltL (f y) (f x)=false)→RelDs K ρ H es out:=by
 unfold sortD at h;split at h
 ·rename_i ns hz
  cases h;have:=intsD_eq hz;subst this;have:=r.ints;subst this;refine ⟨fun v=>[numV v],.inl fun v hv=>?_,fun out po so=>?_⟩
  ·obtain ⟨n,_,rfl⟩:=List.mem_map.mp hv
   exact ⟨n,rfl,rfl⟩
  ·have e1:out=(out.map numV).map V.int:=by
    rw [List.map_map]
    conv=>lhs;rw [←List.map_id out]
    refine List.map_congr_left fun v hv=>?_
    obtain ⟨n,_,rfl⟩:=List.mem_map.mp (po.mem_iff.mp hv);rfl
   have e2:out.map numV=sortZ ns:=by
    have p1:(out.map numV).Perm (sortZ ns):=by
     have:=po.map numV;rw [numV_ints] at this;exact this.trans (sortZ_perm ns).symm
    refine p1.eq_of_pairwise (fun a b _ _ h1 h2=>Int.le_antisymm h1 h2) ?_ (sortZ_le ns);rw [List.pairwise_map]
    refine so.imp fun {x y} hxy=>?_
    rw [ltL_one] at hxy;simp at hxy;exact hxy
   rw [e1,e2];exact RelDs.of_ints _
 ·split at h
  ·rename_i rs hr
   cases h;obtain ⟨i1,i2⟩:=rows_rel hr r;refine ⟨rowV H,.inr i2,fun out po so=>?_⟩
   have e2:out.map (rowV H)=sortR rs:=by
    refine sort_same ?_ (List.pairwise_map.mpr so) (sortR_le rs);have:=po.map (rowV H);rw [i1] at this;exact this.trans (sortR_perm rs).symm
   rw [←e2]
   exact rel_rows fun v hv=>i2 v (po.mem_iff.mp hv)
  ·cases h
theorem keys_rel {K:PySem.W.Frag} {ρ:List Addr} {H:Hp}:∀ks:List Key,RelDs K ρ H (ks.map keyV) (ks.map kV)
 | []=>.nil
 | .inl i :: ks=>.cons (.int i) (keys_rel ks)
 | .inr x :: ks=>.cons (.str x) (keys_rel ks)
theorem kvr_keys {K:PySem.W.Frag} {ρ:List Addr} {H:Hp}:∀ {kvs:List (Key×D)} {kvs':List (Key×V)},KVR K ρ H kvs kvs'→RelDs K ρ H (kvs.map fun x=>keyV x.1) (kvs'.map fun x=>kV x.1)
 | _,_,.nil=>.nil
 | (k,_) :: _,(k',_) :: _,.cons r t=>by
  have e:k=k':=r.1;subst e
  cases k with
  | inl i=>exact .cons (.int i) (kvr_keys t)
  | inr x=>exact .cons (.str x) (kvr_keys t)
theorem kvr_tups {K:PySem.W.Frag} {ρ:List Addr} {H:Hp}:∀ {kvs:List (List Key×D)} {kvs':List (List Key×V)} {bs:List Addr},KVR K ρ H kvs kvs'→Paired (fun (k:List Key×V) b=>H b=some (.tup (k.1.map kV))) kvs' bs→RelDs K ρ H (kvs.map fun x=>.tup (x.1.map keyV)) (bs.map V.ref)
 | _,_,_,.nil,.nil=>.nil
 | (k,_) :: _,(k',_) :: _,_,.cons r t,.cons r2 t2=>by
  have e:k=k':=r.1;subst e;exact .cons (.tup r2 (keys_rel k)) (kvr_tups t t2)
theorem ge_sorted (hc:X.calm=true) (hg:Gl X "sorted") (hm:X.mg "sorted" = none) (h:GE X E e m) (he:starEach [e] X.env=(false,eval e X.env) :: starEach [] X.env:=by rfl):GE X E (.Call (.Name "sorted" p) [e] [] pos) (mSorted m):=
 (pe_callB (call_sort hc) hg hm PyProof.Rows.boot_sorted (pa_cons h pa_nil he) (by decide) (by decide) he rfl).imp fun σ H Q ⟨ρ,l,S,hl,hs,hm⟩=>by
 refine ⟨ρ,l,S,hl,hs,hm.seq fun d S1 hm ρ1 H1 x l1 s1 r1=>?_⟩
 cases hq:itemsS d S1 with
 | none=>rw [hq] at hm;exact hm.elim
 | some ds=>
  rw [hq] at hm;dsimp only at hm
  cases hi:sortD ds with
  | none=>rw [hi] at hm;exact hm.elim
  | some es=>
   rw [hi] at hm
   have fin:∀vs:List V,RelDs X.K ρ1 H1 es vs→∀q,H1 q=none→Q (.ref q) (upd H1 q (.lst vs)):=fun vs rr q hq=>by
    have le:Le X.K ρ1 H1 (ρ1++[q]) (upd H1 q (.lst vs)):=Le.alloc hq;obtain ⟨s4,l4,at4⟩:=s1.alloc (ho:=.lst vs) (o:=.lst es) hq ⟨_,upd_same,rr.mono le⟩;exact hm _ _ _ (l1.trans l4) s4 (.ref at4)
   have out:∀vs,RelDs X.K ρ1 H1 ds vs→∃f:V→List Int,RowsV H1 f vs∧∀out,out.Perm vs→out.Pairwise (fun x y=>ltL (f y) (f x)=false)→∀l,H1 l=none→Q (.ref l) (upd H1 l (.lst out)):=fun vs rr=>by
    obtain ⟨f,k1,k2⟩:=sort_rel hi rr;exact ⟨f,k1,fun out po so=>fin out (k2 out po so)⟩
   cases r1 with
   | fro h1 h2=>cases hq;exact ⟨_,rfl,.inl ⟨_,.inl h1.sq,out _ h2⟩⟩
   | tup h1 h2=>cases hq;exact ⟨_,rfl,.inl ⟨_,.inr (.inl (.inl h1)),out _ h2⟩⟩
   | @ref n a hn=>
    obtain ⟨o,ho,ro⟩:=s1.there hn;unfold itemsS at hq;simp only [ho] at hq
    cases o with
    | lst ys=>cases hq;obtain ⟨vs,e,rr⟩:=ro;exact ⟨_,rfl,.inl ⟨vs,.inl (.inl (.inl e)),out _ rr⟩⟩
    | dK kvs=>cases hq;obtain ⟨vs,e,rr⟩:=ro;exact ⟨_,rfl,.inr (.inl ⟨vs,e,out _ (kvr_keys rr)⟩)⟩
    | dT kvs=>cases hq;obtain ⟨vs,e,rr⟩:=ro;exact ⟨_,rfl,.inr (.inr ⟨vs,e,fun bs hb=>out _ (kvr_tups rr hb)⟩)⟩
    | ins C fs=>cases hq
   | _=>cases hq
end
end L2
namespace L2
open PySem PySem.Spec PyProof.Rows
theorem isB_ok {K:PySem.W.Frag} {t:String} (h:∀A∈["NoneType", "bool", "int", "str", "tuple", "list", "dict"],PySem.W.kitOne K (.type A) (.type t)=isTab t A):∀A b,isB t A=some b→PySem.W.kitOne K (.type A) (.type t)=some b:=fun A b e=>by
 unfold isB at e;split at e
 ·rename_i hA
  rw [h A (by simpa using hA)];exact e
 ·cases e
theorem isB_bool {K:PySem.W.Frag}:∀A b,isB "bool" A=some b→PySem.W.kitOne K (.type A) (.type "bool")=some b:=isB_ok fun A h=>by
 simp only [List.mem_cons,List.not_mem_nil,or_false] at h
 rcases h with rfl | rfl | rfl | rfl | rfl | rfl | rfl <;> kernel_rfl
end L2
namespace L2
open PySem PySem.Spec PyProof.Rows
noncomputable def spTrue (K:PySem.W.Frag):Sp:=fun vs H Q _=>∃(a:Addr) (ns:List Int),vs=[.ref a]∧FrzL K H a (ns.map V.int)∧ns.length≤63∧∀H',Q (.bl true) H'
theorem law_true {P:Program} {w:World} {K:PySem.W.Frag} {mg:Str→Option Value} {base:Heap} {k:Nat} {fa:Addr} {fd:FuncData} {f:List D→Sto→Res D} (F:FnOk P w K mg base (CXG P w) k fa fd ["script"] (spM K 1 f))
  (h:∀ns:List Int,ns.length≤63→∃S',f [.fro (ns.map D.int)] []=.ok (.bl true) S'):FnOk P w K mg base (CXG P w) k fa fd ["script"] (spTrue K):=F.imp fun vs H Q E ⟨a,ns,e,hS,hl,q⟩=>by
 subst e;obtain ⟨S',e⟩:=h ns hl;refine ⟨[],[.fro (ns.map D.int)],[],rfl,.cons (.fro hS (RelDs.of_ints ns)) .nil,⟨rfl,fun i j a hi=>by simp at hi,fun n o a hn=>by simp at hn⟩,?_⟩;rw [e]
 exact fun ρ' H' x _ _ r=>by cases r;exact q H'
theorem frz_of {K:PySem.W.Frag} {H:Hp} {a:Addr} {ns:List Int} (hO:Only H) (hS:SqL K H a (ns.map V.int)):FrzL K H a (ns.map V.int):=by
 rcases hS with (h | h) | h
 ·rcases hO a with z | ⟨o,xs,z⟩ <;> rw [z] at h <;> cases h
 ·exact .inl h
 ·exact .inr h
theorem cxg_no {P:Program} {w:World} {H:Hp} {s:Shared} {e:Value} {s':Shared} (h:CXG P w [] H s (fun _ _ _=>False) e s'):False:=by
 obtain ⟨_,_,_,_,_,_,_,_,_,z⟩:=h;exact z
end L2
namespace L2
open PySem
noncomputable def Turn' (I:Lo→Sto→Prop) (R:Fl→Sto→Prop) (f:Fl) (S:Sto):Prop:=match f with
 | .nx e=>I e S
 | .ct e=>I e S
 | .bk e=>R (.nx e) S
 | .rt d=>R (.rt d) S
 | .ex c e=>R (.ex c e) S
theorem forV_go {v:View} {g:MG} {b:MS} {xs:List D} (I:Nat→Lo→Sto→Prop) (R:Fl→Sto→Prop) (hv:∀i e S,I i e S→v S=some xs)
  (step:∀i d e S,xs[i]?=some d→I i e S→∃e1 S1,g d e S=.ok e1 S1∧∃f S2,b e1 S1=.ok f S2∧Turn' (I (i+1)) R f S2)
  (fin:∀e S,I xs.length e S→R (.nx e) S):∀(k i:Nat) (e:Lo) (S:Sto),I i e S→i≤xs.length→xs.length≤i+k→∃f S',forV v g b k i e S=.ok f S'∧R f S':=by
 intro k
 induction k with
 | zero=>
  intro i e S h h1 h2
  have:i=xs.length:=by lia
  subst this;refine ⟨.nx e,S,?_,fin e S h⟩;unfold forV;rw [hv _ e S h];simp
 | succ k ih=>
  intro i e S h h1 h2;unfold forV;rw [hv _ e S h];dsimp only
  by_cases hi:i < xs.length
  ·have hd:xs[i]?=some xs[i]:=by simp [hi]
   rw [hd];dsimp only;obtain ⟨e1,S1,q1,f,S2,q2,t⟩:=step i _ e S hd h;rw [q1];dsimp only [Res.bind];rw [q2];dsimp only [Res.bind]
   cases f with
   | nx e2=>exact ih (i+1) e2 S2 t (by lia) (by lia)
   | ct e2=>exact ih (i+1) e2 S2 t (by lia) (by lia)
   | bk e2=>exact ⟨_,_,rfl,t⟩
   | rt d=>exact ⟨_,_,rfl,t⟩
   | ex c e2=>exact ⟨_,_,rfl,t⟩
  ·have:i=xs.length:=by lia
   subst this;rw [show xs[xs.length]?=none by simp];exact ⟨.nx e,S,rfl,fin e S h⟩
theorem for_go {v:View} {g:MG} {b:MS} {xs:List D} {e:Lo} {S:Sto} (I:Nat→Lo→Sto→Prop) (R:Fl→Sto→Prop) (h0:I 0 e S) (hv:∀i e S,I i e S→v S=some xs)
  (step:∀i d e S,xs[i]?=some d→I i e S→∃e1 S1,g d e S=.ok e1 S1∧∃f S2,b e1 S1=.ok f S2∧Turn' (I (i+1)) R f S2)
  (fin:∀e S,I xs.length e S→R (.nx e) S):∃f S',forV v g b (viewLen v S) 0 e S=.ok f S'∧R f S':=by
 have hl:viewLen v S=xs.length:=by unfold viewLen;rw [hv 0 e S h0]
 rw [hl];exact forV_go I R hv step fin _ _ _ _ h0 (Nat.zero_le _) (by lia)
theorem compV_go {v:View} {g:MG} {c:MT} {m:ME} {xs:List D} (I:Nat→Lo→Sto→List D→Prop) (hv:∀i e S acc,I i e S acc→v S=some xs)
  (step:∀i d e S acc,xs[i]?=some d→I i e S acc→acc.length < sizeLine∧∃e1 S1,g d e S=.ok e1 S1∧∃b S2,c e1 S1=.ok b S2∧((b=true∧∃y S3,m e1 S2=.ok y S3∧I (i+1) e1 S3 (acc++[y]))∨(b=false∧I (i+1) e1 S2 acc))) :
  ∀(k i:Nat) (e:Lo) (S:Sto) (acc:List D),I i e S acc→i≤xs.length→xs.length≤i+k→∃r S',compV v g c m k i e S acc=.ok r S'∧∃e',I xs.length e' S' r:=by
 intro k
 induction k with
 | zero=>
  intro i e S acc h h1 h2
  have:i=xs.length:=by lia
  subst this;refine ⟨acc,S,?_,e,h⟩;unfold compV;rw [hv _ e S acc h];simp
 | succ k ih=>
  intro i e S acc h h1 h2;unfold compV;rw [hv _ e S acc h];dsimp only
  by_cases hi:i < xs.length
  ·have hd:xs[i]?=some xs[i]:=by simp [hi]
   rw [hd];dsimp only;obtain ⟨hz,e1,S1,q1,b,S2,q2,t⟩:=step i _ e S acc hd h;rw [if_pos hz,q1];dsimp only [okR,Res.bind];rw [q2];dsimp only [okR,Res.bind]
   rcases t with ⟨rfl,y,S3,q3,t⟩ | ⟨rfl,t⟩
   ·rw [if_pos rfl,q3]
    exact ih (i+1) e1 S3 _ t (by lia) (by lia)
   ·rw [if_neg Bool.false_ne_true]
    exact ih (i+1) e1 S2 acc t (by lia) (by lia)
  ·have:i=xs.length:=by lia
   subst this;rw [show xs[xs.length]?=none by simp];exact ⟨acc,S,rfl,e,h⟩
theorem comp_go {v:View} {g:MG} {c:MT} {m:ME} {xs:List D} {e:Lo} {S:Sto} (I:Nat→Lo→Sto→List D→Prop) (h0:I 0 e S []) (hv:∀i e S acc,I i e S acc→v S=some xs)
  (step:∀i d e S acc,xs[i]?=some d→I i e S acc→acc.length < sizeLine∧∃e1 S1,g d e S=.ok e1 S1∧∃b S2,c e1 S1=.ok b S2∧((b=true∧∃y S3,m e1 S2=.ok y S3∧I (i+1) e1 S3 (acc++[y]))∨(b=false∧I (i+1) e1 S2 acc))) :
  ∃r S',compV v g c m (viewLen v S) 0 e S []=.ok r S'∧∃e',I xs.length e' S' r:=by
 have hl:viewLen v S=xs.length:=by unfold viewLen;rw [hv 0 e S [] h0]
 rw [hl];exact compV_go I hv step _ _ _ _ _ h0 (Nat.zero_le _) (by lia)
theorem lo62 {j:Int} (h:-1000000≤j):-(2 ^ 62)≤j:=Int.le_trans (by decide) h
theorem hi62 {j:Int} (h:j≤1000000):j < 2 ^ 62:=Int.lt_of_le_of_lt h (by decide)
theorem iR1_ok {ml:ML} {e:Lo} {S S1:Sto} {j:Int} (h:ml e S=.ok [.int j] S1) (h0:-1000000≤j) (h1:j≤1000000):iR1 ml e S=.ok (viewC (rngDs 0 j.toNat)) S1:=by
 unfold iR1;rw [h];dsimp only [Res.bind];rw [if_pos ⟨lo62 h0,hi62 h1⟩]
theorem iR2_ok {ml:ML} {e:Lo} {S S1:Sto} {i j:Int} (h:ml e S=.ok [.int i,.int j] S1) (h0:-1000000≤i) (h1:i≤1000000) (h2:-1000000≤j) (h3:j≤1000000):iR2 ml e S=.ok (viewC (rngDs i (j - i).toNat)) S1:=by
 unfold iR2;rw [h];dsimp only [Res.bind];rw [if_pos ⟨lo62 h0,hi62 h1,lo62 h2,hi62 h3⟩]
theorem rngDs_len (lo:Int) (n:Nat):(rngDs lo n).length=n:=by simp [rngDs]
theorem rngDs_at {lo:Int} {n i:Nat} {d:D} (h:(rngDs lo n)[i]?=some d):i < n∧d=.int (lo+i):=by
 rw [rngDs_get] at h;split at h
 ·rename_i hi
  cases h;exact ⟨hi,rfl⟩
 ·cases h
theorem fdivD_ok {i j:Int} {S:Sto} (h:0 < j) (h1:j≤1000000):fdivD (.int i) (.int j) S=.ok (.int (i / j)) S:=by
 show (if CDiv i j then _ else _)=_;rw [if_pos ⟨h,by lia⟩]
theorem modD_ok {i j:Int} {S:Sto} (h:0 < j):modD (.int i) (.int j) S=.ok (.int (i % j)) S:=by
 show (if 0 < j then _ else _)=_;rw [if_pos h]
theorem m2_ok {f:D→D→Sto→Res D} {ma mb:ME} {e:Lo} {S S1 S2 S3:Sto} {x y d:D} (ha:ma e S=.ok x S1) (hb:mb e S1=.ok y S2) (hf:f x y S2=.ok d S3):m2 f ma mb e S=.ok d S3:=by
 unfold m2;rw [ha];dsimp only [Res.bind];rw [hb];dsimp only [Res.bind];rw [hf];rfl
theorem set_ok {m:ME} {e:Lo} {S S1:Sto} {d:D} {i:Nat} (h:m e S=.ok d S1):sSet i m e S=.ok (.nx (e.set i (some d))) S1:=by
 unfold sSet sAsg;rw [h];rfl
theorem ret_ok {m:ME} {e:Lo} {S S1:Sto} {d:D} (h:m e S=.ok d S1):sRet m e S=.ok (.rt d) S1:=by
 unfold sRet;rw [h];rfl
theorem expr_ok {m:ME} {e:Lo} {S S1:Sto} {d:D} (h:m e S=.ok d S1):sExpr m e S=.ok (.nx e) S1:=by
 unfold sExpr;rw [h];rfl
theorem if_ok {t:MT} {a b:MS} {e:Lo} {S S1:Sto} {c:Bool} (h:t e S=.ok c S1):sIf t a b e S=if c=true then a e S1 else b e S1:=by
 unfold sIf;rw [h];rfl
theorem for_ok {m:MI} {g:MG} {b:MS} {e:Lo} {S S1:Sto} {v:View} (h:m e S=.ok v S1):sFor m g b e S=forV v g b (viewLen v S1) 0 e S1:=by
 unfold sFor;rw [h];rfl
theorem call_ok {n:Nat} {f:List D→Sto→Res D} {m:ML} {e:Lo} {S S1:Sto} {ds:List D} (h:m e S=.ok ds S1) (hn:ds.length=n):mCall n f m e S=f ds S1:=by
 unfold mCall;rw [h];dsimp only [Res.bind];rw [if_pos hn]
theorem seq_ok {a b:MS} {e e1:Lo} {S S1:Sto} (h:a e S=.ok (.nx e1) S1):sSeq a b e S=b e1 S1:=by unfold sSeq;rw [h];rfl
theorem seq_rt {a b:MS} {e:Lo} {S S1:Sto} {d:D} (h:a e S=.ok (.rt d) S1):sSeq a b e S=.ok (.rt d) S1:=by unfold sSeq;rw [h];rfl
noncomputable def Keeps (S S':Sto):Prop:=S.length≤S'.length∧∀j,j < S.length→S'[j]?=S[j]?
theorem Keeps.refl (S:Sto):Keeps S S:=⟨Nat.le_refl _,fun _ _=>rfl⟩
theorem Keeps.trans {S S1 S2:Sto} (a:Keeps S S1) (b:Keeps S1 S2):Keeps S S2:=⟨Nat.le_trans a.1 b.1,fun j h=>(b.2 j (Nat.lt_of_lt_of_le h a.1)).trans (a.2 j h)⟩
theorem Keeps.app (S:Sto) (G:Sto):Keeps S (S++G):=⟨by simp,fun j h=>List.getElem?_append_left h⟩
theorem Keeps.set {S S1:Sto} (a:Keeps S S1) {m:Nat} (h:S.length≤m) (o:Ob):Keeps S (S1.set m o):=⟨by simpa using a.1,fun j hj=>by rw [List.getElem?_set_ne (by lia)];exact a.2 j hj⟩
theorem Keeps.at {S S1:Sto} (a:Keeps S S1) {j:Nat} {o:Ob} (h:S[j]?=some o):S1[j]?=some o:=by
 rw [a.2 j (List.getElem?_eq_some_iff.mp h).1];exact h
theorem app_ok {mo ma:ME} {e:Lo} {S S1 S2:Sto} {n:Nat} {xs xs2:List D} {y:D} (h1:mo e S=.ok (.ref n) S1) (h2:S1[n]?=some (.lst xs)) (h3:ma e S1=.ok y S2) (h4:S2[n]?=some (.lst xs2)) (h5:xs2.length < sizeLine) :
  mApp mo ma e S=.ok .non (S2.set n (.lst (xs2++[y]))):=by
 unfold mApp;rw [h1];dsimp only [Res.bind];rw [h2];dsimp only;rw [h3];dsimp only [Res.bind];rw [h4];dsimp only;rw [if_pos h5]
theorem extend_ok {mo ma:ME} {e:Lo} {S S1 S2:Sto} {n k:Nat} {xs xs2 ys:List D} (h1:mo e S=.ok (.ref n) S1) (h2:S1[n]?=some (.lst xs)) (h3:ma e S1=.ok (.ref k) S2) (h4:S2[n]?=some (.lst xs2)) (h5:S2[k]?=some (.lst ys)) (hk:k≠n) (h6:xs2.length+ys.length≤sizeLine) :
  mExtend mo ma e S=.ok .non (S2.set n (.lst (xs2++ys))):=by
 unfold mExtend;rw [h1];dsimp only [Res.bind]
 have a1:atL (.ref n) S1=some (n,xs):=by unfold atL;dsimp only;rw [h2]
 have a2:atL (.ref n) S2=some (n,xs2):=by unfold atL;dsimp only;rw [h4]
 have a3:atL (.ref k) S2=some (k,ys):=by unfold atL;dsimp only;rw [h5]
 rw [a1];dsimp only;rw [h3];dsimp only [Res.bind];rw [a2,a3];dsimp only;rw [if_pos ⟨hk,h6⟩]
theorem tup_add {xs ys:List D} {S:Sto} (h:xs.length+ys.length≤sizeLine):addD (.tup xs) (.tup ys) S=.ok (.tup (xs++ys)) S:=by
 unfold addD;dsimp only;rw [if_pos h]
theorem viewS_ref {n:Nat} {S:Sto} {xs:List D} (h:S[n]?=some (.lst xs)):viewS (.ref n) S=some xs:=by
 unfold viewS viewL;dsimp only;rw [h]
theorem iSeq_ref {m:ME} {e:Lo} {S S1:Sto} {n:Nat} {xs:List D} (h:m e S=.ok (.ref n) S1) (hx:S1[n]?=some (.lst xs)):iSeq m e S=.ok (viewS (.ref n)) S1:=by
 unfold iSeq;rw [h];dsimp only [Res.bind];rw [viewS_ref hx]
theorem iSeq_tup {m:ME} {e:Lo} {S S1:Sto} {xs:List D} (h:m e S=.ok (.tup xs) S1):iSeq m e S=.ok (viewC xs) S1:=by
 unfold iSeq;rw [h];rfl
theorem new_ok {ml:ML} {e:Lo} {S S1:Sto} {ds:List D} (h:ml e S=.ok ds S1):mNew ml e S=.ok (.ref S1.length) (S1++[.lst ds]):=by
 unfold mNew;rw [h];rfl
theorem at_new (S:Sto) (o:Ob):(S++[o])[S.length]?=some o:=by simp
theorem seqD_ref {n:Nat} {S:Sto} {ds:List D} (h:S[n]?=some (.lst ds)):seqD (.ref n) S=some ds:=by
 unfold seqD;dsimp only;rw [h]
theorem itemsS_ref {n:Nat} {S:Sto} {ds:List D} (h:S[n]?=some (.lst ds)):itemsS (.ref n) S=some ds:=by
 unfold itemsS;dsimp only;rw [h]
theorem sorted_ok {m:ME} {e:Lo} {S S1:Sto} {d:D} {ds es:List D} (h:m e S=.ok d S1) (hi:itemsS d S1=some ds) (hs:sortD ds=some es):mSorted m e S=.ok (.ref S1.length) (S1++[.lst es]):=by
 unfold mSorted;rw [h];dsimp only [Res.bind];rw [hi];dsimp only;rw [hs]
theorem tuple_ok {m:ME} {e:Lo} {S S1:Sto} {d:D} {ds:List D} (h:m e S=.ok d S1) (hq:seqD d S1=some ds):mTuple m e S=.ok (.tup ds) S1:=by
 unfold mTuple;rw [h];dsimp only [Res.bind];rw [hq]
theorem len_ok {m:ME} {e:Lo} {S S1:Sto} {d:D} {ds:List D} (h:m e S=.ok d S1) (hq:seqD d S1=some ds):mLen m e S=.ok (.int ds.length) S1:=by
 unfold mLen;rw [h];dsimp only [Res.bind];rw [hq]
theorem setf_ok {C:Addr} {f:Str} {mo mv:ME} {e:Lo} {S S1 S2:Sto} {n:Nat} {fs:List (Str×D)} {v:D} (hv:mv e S=.ok v S1) (ho:mo e S1=.ok (.ref n) S2) (hs:S2[n]?=some (.ins C fs)) (hl:fs.length < 1000) :
  sFldM C f mo mv e S=.ok (.nx e) (S2.set n (.ins C (putD f v fs))):=by
 unfold sFldM;rw [hv];dsimp only [Res.lift];rw [ho];dsimp only [Res.lift];rw [hs];dsimp only;rw [if_pos ⟨rfl,hl⟩]
theorem fld_ok {C:Addr} {f:Str} {m:ME} {e:Lo} {S S1:Sto} {n:Nat} {fs:List (Str×D)} {v:D} (h:m e S=.ok (.ref n) S1) (hs:S1[n]?=some (.ins C fs)) (hl:fs.lookup f=some v):mFld C f m e S=.ok v S1:=by
 unfold mFld;rw [h];dsimp only [Res.bind];rw [hs];dsimp only;rw [if_pos rfl,hl]
theorem make_ok {C:Addr} {n:Nat} {f:List D→Sto→Res D} {ml:ML} {e:Lo} {S S1 S2:Sto} {ds:List D} (h:ml e S=.ok ds S1) (hn:ds.length+1=n) (hf:f (.ref S1.length :: ds) (S1++[.ins C []])=.ok .non S2):mMake C n f ml e S=.ok (.ref S1.length) S2:=by
 unfold mMake;rw [h];dsimp only [Res.bind];rw [if_pos hn,hf]
theorem cons_ok {m:ME} {r:ML} {e:Lo} {S S1 S2:Sto} {d:D} {ds:List D} (h:m e S=.ok d S1) (hr:r e S1=.ok ds S2):mCons m r e S=.ok (d :: ds) S2:=by
 unfold mCons;rw [h];dsimp only [Res.bind];rw [hr]
theorem comp_ok {n:Nat} {mi:MI} {g:MG} {c:MT} {m:ME} {e:Lo} {S S1:Sto} {v:View} (h:mi e S=.ok v S1):mComp n mi g c m e S=compV v g c m (viewLen v S1) 0 (List.replicate n none++e) S1 []:=by
 unfold mComp;rw [h];rfl
theorem B_ok {m:ME} {e:Lo} {S S1:Sto} {b:Bool} (h:m e S=.ok (.bl b) S1):mB m e S=.ok b S1:=by
 unfold mB;rw [h];rfl
theorem m3_ok {f g:D→D→Sto→Res D} {ma mb mc:ME} {e:Lo} {S S1 S2 S3 S4 S5:Sto} {x y w d:D} (ha:ma e S=.ok x S1) (hb:mb e S1=.ok y S2) (hf:f x y S2=.ok (.bl true) S3) (hc:mc e S3=.ok w S4) (hg:g y w S4=.ok d S5):m3 f g ma mb mc e S=.ok d S5:=by
 unfold m3;rw [ha];dsimp only [Res.bind];rw [hb];dsimp only [Res.bind];rw [hf];dsimp only [Res.bind,okR];rw [hc];dsimp only [Res.bind];rw [hg]
theorem m3_no {f g:D→D→Sto→Res D} {ma mb mc:ME} {e:Lo} {S S1 S2 S3:Sto} {x y:D} (ha:ma e S=.ok x S1) (hb:mb e S1=.ok y S2) (hf:f x y S2=.ok (.bl false) S3):m3 f g ma mb mc e S=.ok (.bl false) S3:=by
 unfold m3;rw [ha];dsimp only [Res.bind];rw [hb];dsimp only [Res.bind];rw [hf];rfl
theorem leD_ok {i j:Int} {S:Sto} {b:Bool} (h:decide (i≤j)=b):leD (.int i) (.int j) S=.ok (.bl b) S:=by subst h;rfl
theorem ltD_ok {i j:Int} {S:Sto} {b:Bool} (h:decide (i < j)=b):ltD (.int i) (.int j) S=.ok (.bl b) S:=by subst h;rfl
theorem geD_ok {i j:Int} {S:Sto} {b:Bool} (h:decide (j≤i)=b):geD (.int i) (.int j) S=.ok (.bl b) S:=by subst h;rfl
theorem eqI_ok {i j:Int} {S:Sto} {b:Bool} (h:decide (i=j)=b):eqD false (.int i) (.int j) S=.ok (.bl b) S:=by
 subst h;show Res.ok (D.bl (i==j)) S=_;rfl
theorem not_ok {m:MT} {e:Lo} {S S1:Sto} {b:Bool} (h:m e S=.ok b S1):mNot m e S=.ok (!b) S1:=by
 unfold mNot;rw [h];rfl
theorem tup_ok {ml:ML} {e:Lo} {S S1:Sto} {ds:List D} (h:ml e S=.ok ds S1) (hl:ds.length≤1000):mTup ml e S=.ok (.tup ds) S1:=by
 unfold mTup;rw [h];dsimp only [Res.bind];rw [if_pos (Nat.le_trans hl (by decide))]
theorem or_ok1 {ta tb:MT} {e:Lo} {S S1:Sto} (h:ta e S=.ok true S1):mOr ta tb e S=.ok true S1:=by
 unfold mOr;rw [h];rfl
theorem or_ok2 {ta tb:MT} {e:Lo} {S S1:Sto} (h:ta e S=.ok false S1):mOr ta tb e S=tb e S1:=by
 unfold mOr;rw [h];rfl
theorem and_ok1 {ta tb:MT} {e:Lo} {S S1:Sto} (h:ta e S=.ok true S1):mAnd ta tb e S=tb e S1:=by
 unfold mAnd;rw [h];rfl
theorem and_ok2 {ta tb:MT} {e:Lo} {S S1:Sto} (h:ta e S=.ok false S1):mAnd ta tb e S=.ok false S1:=by
 unfold mAnd;rw [h];rfl
theorem seq_q {m:ME} {e:Lo} {S S1:Sto} {d:D} {ds:List D} (h:m e S=.ok d S1) (hq:seqD d S1=some ds):mSeq m e S=.ok ds S1:=by
 unfold mSeq;rw [h];dsimp only [Res.bind];rw [hq]
theorem q_ok {f:List D→Sto→Res D} {ml:ML} {e:Lo} {S S1 S2:Sto} {ds:List D} {d:D} (h:ml e S=.ok ds S1) (hf:f ds S1=.ok d S2):mQ f ml e S=.ok d S2:=by
 unfold mQ;rw [h];dsimp only [Res.bind];rw [hf];rfl
theorem lstD_ref {n:Nat} {S:Sto} {ds:List D} (h:S[n]?=some (.lst ds)):lstD (.ref n) S=some ds:=by
 unfold lstD;dsimp only;rw [h]
end L2
namespace L2
open PySem PySem.Spec PyProof.Rows
section
variable {X:Cx} {E:EW} {e:Expr} {tg:Expr}
end
section
variable {X:Cx} {E:EW} {e:Expr} {es:List Expr} {p pos p2:Pos} {x1:Nat} {m:ME} {c:V} {cs:List V} {Cs:List Addr} {tabC:Addr→Option Bool}
end
end L2
namespace L2
open PySem PySem.Spec PyProof.Rows
section
variable {X:Cx} {E:EW} {e st:Expr} {te:TE} {lo hi:Option Expr} {tl th ts:TO} {pos p2:Pos} {m:ME} {ml mh ms:MO}
end
section
variable {X:Cx} {E:EW} {e:Expr} {p pos:Pos} {m:ME}
noncomputable def mInt (m:ME):ME:=fun e S=>(m e S).bind fun d S1=>match d with
 | .int i=>.ok (.int i) S1
 | .bl k=>.ok (.int (if k then 1 else 0)) S1
 | _=>.bad
theorem ge_int1 (hg:Gl X "int") (hm:X.mg "int" = none) (h:GE X E e m) (he:starEach [e] X.env=(false,eval e X.env) :: starEach [] X.env:=by rfl):GE X E (.Call (.Name "int" p) [e] [] pos) (mInt m):=
 (pe_callTy call_int1 hg hm PyProof.Rows.boot_int (pa_cons h pa_nil he) (by decide) (by decide) he rfl).imp fun σ H Q ⟨ρ,l,S,hl,hs,hm⟩=>by
 refine ⟨ρ,l,S,hl,hs,hm.seq fun d S1 hm ρ1 H1 x l1 s1 r1=>?_⟩
 cases d <;> first | exact hm.elim | skip
 ·cases r1
  exact .inr ⟨_,rfl,hm ρ1 H1 _ l1 s1 (.int _)⟩
 ·cases r1
  exact .inl ⟨_,rfl,hm ρ1 H1 _ l1 s1 (.int _)⟩
end
end L2
namespace PySem
open Sem (wp)
open AutoSeq1 (wpAny_loadPart')
section
variable {prog:Program} {w:World} {A:Around} {E:Value→Shared→Prop} {s:Shared}
theorem nextOf_tuple_item {it t:Addr} {i:Nat} {items} {x:Value} {Q:Value→Shared→Prop} (hit:s.heap.IsTupleIter it t i)
  (ht:s.heap.IsTuple t items) (hx:items[i]?=some x)
  (hQ:∀h',h'.IsTupleIter it t (i+1)→Heap.SameBut it s.heap h'→Q x { s with heap:=h' }) :
  wpAny (model prog w) A (Builtin.SmallTypes.nextOf (.ref it)) Q E s:=by
 obtain ⟨o,ho,hc,hd⟩:=id hit;obtain ⟨ol,hol,_,nl,hdl⟩:=ht;unfold Builtin.SmallTypes.nextOf
 refine wpAny_bind (wpAny_callSpecial?_slot (name:=Str.ofString "__next__") hit.typeIs F.slot_tuple_iterator_next
  (wpAny_call_entry F.slot_tuple_iterator_next hit.typeIs F.entry_tuple_iterator_next ?_ (F.args_tuple_iterator_next_1 _)))
 show wpAny _ _ (field (.ref it) 0 >>= _) _ _ s;refine wpAny_bind (wpAny_field ho hd (x:=.ref t) rfl ?_);show wpAny _ _ (if (Value.ref t==Value.none)=true then _ else _) _ _ s;rw [if_neg (show ¬((Value.ref t==Value.none)=true) from Bool.false_ne_true)];show wpAny _ _ (field (.ref it) 1 >>= _) _ _ s;refine wpAny_bind (wpAny_field ho hd (x:=.int i 0) rfl ?_);show wpAny _ _ (seqItems? (.ref t) >>= _) _ _ s;refine wpAny_bind (wpAny_seqItems hol hdl ?_);simp only [Int.toNat_natCast,hx];refine wpAny_bind (wpAny_setField ho hd (by simp) (wpAny_pure ⟨x,rfl,wpAny_pure (hQ _ ?_ (Heap.SameBut.update ..))⟩))
 exact ⟨_,Heap.get?_update_self _ ho (Obj.isFreed_of_fields (Obj.data_mapFields hd _)),(Obj.cls_mapFields ..).trans hc,by
  rw [Obj.data_mapFields hd];simp [rawInt]⟩
theorem nextOf_tuple_end {it t:Addr} {i:Nat} {items} {Q:Value→Shared→Prop} (hh:A.handled=none)
  (hit:s.heap.IsTupleIter it t i) (ht:s.heap.IsTuple t items) (hx:items[i]?=none)
  (hE:∀h' e,Heap.ExtBut it s.heap h'→(∃o,h'.get? e=some o∧o.cls=.type "StopIteration")→E (.ref e) { s with heap:=h' }) :
  wpAny (model prog w) A (Builtin.SmallTypes.nextOf (.ref it)) Q E s:=by
 obtain ⟨o,ho,hc,hd⟩:=id hit;obtain ⟨ol,hol,_,nl,hdl⟩:=ht;unfold Builtin.SmallTypes.nextOf
 refine wpAny_bind (wpAny_callSpecial?_slot (name:=Str.ofString "__next__") hit.typeIs F.slot_tuple_iterator_next
  (wpAny_call_entry F.slot_tuple_iterator_next hit.typeIs F.entry_tuple_iterator_next ?_ (F.args_tuple_iterator_next_1 _)))
 show wpAny _ _ (field (.ref it) 0 >>= _) _ _ s;refine wpAny_bind (wpAny_field ho hd (x:=.ref t) rfl ?_);show wpAny _ _ (if (Value.ref t==Value.none)=true then _ else _) _ _ s;rw [if_neg (show ¬((Value.ref t==Value.none)=true) from Bool.false_ne_true)];show wpAny _ _ (field (.ref it) 1 >>= _) _ _ s;refine wpAny_bind (wpAny_field ho hd (x:=.int i 0) rfl ?_);show wpAny _ _ (seqItems? (.ref t) >>= _) _ _ s;refine wpAny_bind (wpAny_seqItems hol hdl ?_);simp only [Int.toNat_natCast,hx];refine wpAny_bind (wpAny_rule (wpAny_bind (wpAny_setField ho hd (by simp) ?_)));show wpAny _ _ (newExc (.type "StopIteration") [] >>= _) _ _ _;refine wpAny_bind ?_;simp only [newExc,newTuple];refine wpAny_bind (wpAny_newObj_type ?_ (by size_fits));refine wpAny_bind (m:=firstArgMember _ _) (wpAny_of_eq (a:=Value.none) (by first | rfl | (simp only [firstArgMember];rfl)) ?_);refine wpAny_newObj_type ?_ (by size_fits);simp only [raiseNew];refine wpAny_bind (wpAny_handled ?_)
 first | rw [show A.in1.handled=none from hh] | rw [hh]
 refine wpAny_bind (wpAny_pure (wpAny_throw ?_));exact hE _ _ (((Heap.SameBut.update ..).extBut.push _).push _) ⟨_,Heap.get?_push_size _ rfl,rfl⟩
end
end PySem
namespace L2
open PySem PySem.Spec PyProof.Rows
section
variable {P:Program} {w:World} {K:PySem.W.Frag} {elts:List Expr} {x1:Nat} {pos:Pos}
end
section
variable {X:Cx} {E:EW} {e:Expr} {elts:List Expr} {x1:Nat} {p pos ptg:Pos} {m:ME} {ta:TA}
end
end L2
namespace L2
open PySem PySem.Spec PyProof.Rows
section
variable {X:Cx}
variable {E:EW} {e:Expr} {p pos:Pos} {m:ME}
end
end L2
namespace PySem
open Sem (wp)
open AutoSeq1 (wpAny_loadPart')
namespace F
end F
section
variable {prog:Program} {w:World} {A:Around} {E:Value→Shared→Prop} {s:Shared} {I:Addr} {fp wr:List Addr} {G:Array GenState→Array GenState→Prop} {n:Nat} {P:Nat→Value→Prop} {St:Nat→Shared→Prop}
end
end PySem
namespace L2
open PySem PySem.Spec PyProof.Rows
section
variable {X:Cx} {E:EW} {e:Expr} {p p2 pos pos2:Pos} {m:ME} {te:TE}
end
end L2
namespace L2
open PySem
theorem atI_at {α:Type} {xs:List α} {j:Int} {x:α} (h0:0≤j) (h:xs[j.toNat]?=some x):atI xs j=some x:=by
 have hlt:=(List.getElem?_eq_some_iff.mp h).1;unfold atI ixN;rw [if_pos (by omega),if_pos (by lia)];simpa using h
theorem ixA_seq {d:D} {S:Sto} {ds:List D} {j:Int} {z:D} (hd:seqD d S=some ds) (h0:0≤j) (h:ds[j.toNat]?=some z):ixA d (.int j) S=.ok z S:=by
 show orElse (ixD d (.int j) S) _=_
 have:ixD d (.int j) S=.ok z S:=by
  unfold ixD;rw [hd];dsimp only;rw [atI_at h0 h]
 rw [this];rfl
theorem cut_to {α:Type} (xs:List α) {k:Nat} (h:k≤xs.length):cutG xs none (some (k:Int))=xs.take k:=by
 unfold cutG;rw [HT.sIx_nat,HT.sIx_none,Nat.min_eq_left h];simp
theorem len1 {α:Type}:∀ {l:List α},l.length=1→∃x1,l=[x1]
 | [a],_=>⟨a,rfl⟩
theorem len2 {α:Type}:∀ {l:List α},l.length=2→∃x1 x2,l=[x1,x2]
 | y :: _,q=>by
  obtain ⟨x2,rfl⟩:=len1 (Nat.succ.inj q);exact ⟨y,x2,rfl⟩
theorem len3 {α:Type}:∀ {l:List α},l.length=3→∃x1 x2 x3,l=[x1,x2,x3]
 | y :: _,q=>by
  obtain ⟨x2,x3,rfl⟩:=len2 (Nat.succ.inj q);exact ⟨y,x2,x3,rfl⟩
theorem len4 {α:Type}:∀ {l:List α},l.length=4→∃x1 x2 x3 x4,l=[x1,x2,x3,x4]
 | y :: _,q=>by
  obtain ⟨x2,x3,x4,rfl⟩:=len3 (Nat.succ.inj q);exact ⟨y,x2,x3,x4,rfl⟩
theorem len5 {α:Type}:∀ {l:List α},l.length=5→∃x1 x2 x3 x4 x5,l=[x1,x2,x3,x4,x5]
 | y :: _,q=>by
  obtain ⟨x2,x3,x4,x5,rfl⟩:=len4 (Nat.succ.inj q);exact ⟨y,x2,x3,x4,x5,rfl⟩
end L2
namespace L2
open PySem PySem.Spec PyProof.Rows
section
variable {X:Cx} {E:EW} {e:Expr} {m:ME} {pos:Pos}
end
noncomputable def Itv (K:PySem.W.Frag) (a:Addr) (n:Nat):It:=
 ⟨fun i H=>∃xs x,SqL K H a xs∧xs.length=n∧xs.reverse[i]?=some x,fun i H x H'=>H'=H∧∀xs,SqL K H a xs→xs.reverse[i]?=some x,fun i H=>∃xs,SqL K H a xs∧xs.length=n∧n≤i⟩
theorem turn_rev {P:Program} {w:World} {K:PySem.W.Frag} {tg:Expr} (a it:Addr) (n:Nat):Turn P w K tg (Itv K a n) [it] it (fun i h=>i≤n∧h.IsRevIter it a ((n:Int) - 1 - i)) where
 mem:=by simp
 obj:=fun i h st b hb=>by
  have e:b=it:=by simpa using hb
  subst e;obtain ⟨_,o,e,c,d⟩:=st;exact ⟨o,e,fun v z=>by rw [d] at z;cases z⟩
 keep:=fun i h h' st k=>⟨st.1,st.2.at fun o e=>k it (by simp) o e⟩
 item:=by
  intro X hP hw hK hc i pins s σ H E I hf st hg;subst hP hw hK;obtain ⟨hin,st⟩:=st;obtain ⟨xs,x,hq,hn,hx⟩:=hg
  have hi:i < n:=by have:=(List.getElem?_eq_some_iff.mp hx).1;simpa [hn] using this
  have hx':=hx;rw [List.getElem?_reverse (by lia)] at hx';obtain ⟨its,rv,p,hz⟩:=I.list hq;obtain ⟨u,hu,ru⟩:=rv.get hx';obtain ⟨f0,f1,f2,f3,f4,f5⟩:=hf it (by simp)
  have e0:(n:Int) - 1 - (i:Int)=((xs.length - 1 - i:Nat):Int):=by lia
  rw [e0] at st
  refine wpAny_pyNext_rev_item st p.isList (x:=u) (by simpa using hu) fun h' st' sb=>?_
  have I1:Inv X pins σ H { s with heap:=h' }:=I.turned (t':=s.toks) (fun b o hb e=>(sb.2 b hb).trans e) f0 f1 f3 f4 f5;obtain ⟨o,e,c,d⟩:=id st';refine ⟨u,rfl,go_of (s:={ s with heap:=h' }) e c d (by decide) ⟨x,H,I1,ru,⟨rfl,fun ys hy=>by rw [I.list_inj hy hq];exact hx⟩,⟨hi,?_⟩,fun b hb=>(hf b hb).1⟩⟩
  have e1:(n:Int) - 1 - ((i+1:Nat):Int)=((xs.length - 1 - i:Nat):Int) - 1:=by lia
  rw [e1];exact st'
 done:=by
  intro X hP hw hK hc i pins s σ H E I hf st hg;subst hP hw hK;obtain ⟨hin,st⟩:=st;obtain ⟨xs,hq,hn,hx⟩:=hg;obtain ⟨f0,f1,f2,f3,f4,f5⟩:=hf it (by simp)
  have e0:(n:Int) - 1 - (i:Int) = -1:=by lia
  rw [e0] at st
  exact wpAny_pyNext_rev_end (I.ok.hd hc) st fun h' eb=>⟨rfl,I.turned (t':=s.toks) (fun b o hb e=>eb b o hb e) f0 f1 f3 f4 f5⟩
 self:=fun _ _ _ _ _ st h=>wpAny_pyIter_revIter st.2 h
section
variable {X:Cx} {E:EW} {tg e a b:Expr} {p p2 pos pos2:Pos} {m:ME} {ml:ML} {ta:TA}
noncomputable def iRevT (K:PySem.W.Frag) (ta:TA):TI:=fun σ H R=>ta σ H fun vs H1=>∃a xs,vs=[.ref a]∧SqL K H1 a xs∧R (Itv K a xs.length) H1
theorem pi_rev (hg:Gl X "reversed") (hm:X.mg "reversed" = none) (ha:PA X [e] ta) (hs:starEach [e] X.env=[(false,eval e X.env)]:=by rfl):PI X tg (.Call (.Name "reversed" p) [e] [] pos) (iRevT X.K ta):=by
 intro pins s σ H R I h;refine Call_ (ld_blt I hg hm boot_reversed (PyProof.Rows.callWith_type1 (thn (ha pos pins s σ H _ I h) fun us s1 ⟨vs,H1,I1,r1,q1⟩=>?_) hs rfl));obtain ⟨a,xs,rfl,sq,q⟩:=q1;obtain ⟨u,rfl,ru⟩:=vals1 r1;cases ru;obtain ⟨its,rv,pl,hz⟩:=I1.list sq;have hl:=rv.length;refine call_reversed_list pl.isList ?_;have hit:(s1.heap.push (revObj a ((its.toArray.size:Int) - 1))).IsRevIter s1.heap.objs.size a ((xs.length:Int) - 1 - ((0:Nat):Int)):=⟨_,Heap.get?_push_size _ rfl,rfl,by simp [revObj,hl]⟩;refine wpAny_pyIter_revIter hit ⟨s1.heap.objs.size,[s1.heap.objs.size],_,_,H1,rfl,I1.kept (t':=s1.toks) fun b o e=>Heap.get?_push_of_some _ e,turn_rev a _ xs.length,⟨Nat.zero_le _,hit⟩,fun b hb=>?_,q⟩
 have e:b=s1.heap.objs.size:=by simpa using hb
 subst e;exact I1.fpOk (Nat.le_refl _) (I1.hok.fresh (Nat.le_refl _))
noncomputable def viewR (d:D) (n:Nat):View:=fun S=>match lstD d S with
 | some ds=>if ds.length=n then some ds.reverse else none
 | none=>none
noncomputable def iRevM (m:ME):MI:=fun e S=>(m e S).bind fun d S1=>match lstD d S1 with
 | some ds=>.ok (viewR d ds.length) S1
 | none=>.bad
theorem viewOk_rev {K:PySem.W.Frag} {ρ:List Addr} {H:Hp} {a:Addr} {d:D} {n:Nat} (r:RelD K ρ H d (.ref a)):ViewOk K ρ H (Itv K a n) (viewR d n):=by
 intro ρ2 H2 S ds i l s hv;unfold viewR at hv;split at hv
 ·rename_i es hes
  split at hv
  ·rename_i hlen
   cases hv;obtain ⟨a',xs,e,rr,sq⟩:=lstD_ok s (r.mono l) hes;cases e;have hl:=rr.length;refine ⟨fun hn=>⟨xs,sq,by lia,?_⟩,fun d hd=>?_⟩
   ·have:=List.getElem?_eq_none_iff.mp hn
    rw [List.length_reverse] at this
    lia
   ·obtain ⟨x,hx,rx⟩:=rr.reverse.get hd
    refine ⟨⟨xs,x,sq,by lia,hx⟩,fun y H' ⟨e,hy⟩=>?_⟩;subst e;have:=hy xs sq;rw [hx] at this;cases this;exact ⟨ρ2,.refl,s,rx⟩
  ·cases hv
 ·cases hv
theorem gi_rev (hg:Gl X "reversed") (hm:X.mg "reversed" = none) (h:GE X E e m) (he:starEach [e] X.env=[(false,eval e X.env)]:=by rfl):GI X E tg (.Call (.Name "reversed" p) [e] [] pos) (iRevM m):=
 (pi_rev hg hm (pa_cons h pa_nil he) he).imp fun σ H R ⟨ρ,l,S,hl,hs,hm⟩=>by
 refine ⟨ρ,l,S,hl,hs,hm.seq fun d S1 hm ρ1 H1 x l1 s1 r1=>?_⟩
 cases hq:lstD d S1 with
 | none=>rw [hq] at hm;exact hm.elim
 | some ds=>
  rw [hq] at hm;obtain ⟨a,xs,rfl,rr,sq⟩:=lstD_ok s1 r1 hq;refine ⟨a,xs,rfl,sq,hm ρ1 H1 _ l1 s1 ?_⟩;rw [←rr.length];exact viewOk_rev r1
end
end L2
namespace PySem
open Sem (wp)
open PyProof.Rows (IntsAre)
section
variable {prog:Program} {w:World} {A:Around} {E:Value→Shared→Prop} {s:Shared}
end
end PySem
namespace L2
open PySem PySem.Spec PyProof.Rows
section
variable {X:Cx} {E:EW} {a b:Expr} {p p2 pos pos2:Pos} {ml:ML} {ta:TA}
theorem rel_ints {K:PySem.W.Frag} {ρ:List Addr} {H:Hp}:∀ {ns:List Int} {vs:List V},RelDs K ρ H (ns.map D.int) vs→vs=ns.map V.int
 | [],_,.nil=>rfl
 | n :: ns,_,.cons r t=>by
  cases r;rw [rel_ints t];rfl
end
end L2
namespace PySem
open Sem (wp)
open AutoSeq1 (wpAny_loadPart')
section
variable {prog:Program} {w:World} {A:Around} {E:Value→Shared→Prop} {s:Shared}
end
end PySem
namespace PySem
section
variable {prog:Program} {w:World} {A:Around} {E:Value→Shared→Prop} {s:Shared}
end
end PySem
namespace L2
open PySem PySem.Spec PyProof.Rows
section
variable {P:Program} {w:World} {K:PySem.W.Frag} {elts:List Expr} {x1:Nat} {pos:Pos}
end
section
variable {X:Cx} {E:EW} {e:Expr} {elts:List Expr} {x1:Nat} {p pos ptg kp vp:Pos} {j1:Nat} {m:ME} {ta:TA}
end
end L2
namespace PySem
open Sem (wp)
section
variable {prog:Program} {w:World} {A:Around} {E:Value→Shared→Prop} {s:Shared}
theorem call_set_tup {l:Addr} {items:Array Value} {ns:List Int} {Q:Value→Shared→Prop} (hh:A.handled=none) (hl:s.heap.IsTuple l items) (hi:PyProof.Rows.IntsAre items.toList ns) (hb:items.size+1 < scanBound)
  (h:∀(h':Heap) (tk:Nat),h'.SetOf (intKind prog w) s.heap.objs.size (fun k'=>(PyProof.Rows.firstMet (fun i=>ns.getD i 0) items.size).any (·==k')) (PyProof.Rows.firstMet (fun i=>ns.getD i 0) items.size).length →
   (∀b o,b < s.heap.objs.size→s.heap.get? b=some o→h'.get? b=some o)→Q (.ref s.heap.objs.size) { s with heap:=h',toks:=tk }):wpAny (model prog w) A (call (.type "set") [.ref l]) Q E s:=by
 obtain ⟨c,tl,hmro⟩:=F.called_set.mro;have hmade:=F.called_set.made;have hsub:=F.called_set.sub;refine wpAny_call (codeAny_of_tree ?_);show wpAny _ _ (callAny (.type "set") _) _ _ _;refine wpAny_pure ⟨Code.quiet_builtin _ (by decide +kernel),codeAny_builtin F.entry_type_call ?_⟩;rw [Around.under_plain (weight_type_call_type "set" [.ref l] []) rfl];have h1:=F.called_set.notType;have h2:=F.called_set.canCreate;have hct:=F.typeCall_set_1 (.ref l);(repeat (any_goals (first | assumption | wp_step)))
 refine codeAny_mono (code_set_new_1 (.ref l) (E:=E) (Q₁:=fun obj s₁=>∃led:Bool,obj=.ref s.heap.objs.size∧s₁={ s with heap:=s.heap.push { cls:=.type "set",dict:=none,data:=.set #[] 0 (.fresh 0 0 led) } }) fun led=>⟨led,rfl,rfl⟩) fun r s₁ hr=>?_
 cases r with
 | error e=>exact hr
 | ok fl=>
  cases fl with
  | ret obj=>
   obtain ⟨led,rfl,rfl⟩:=hr;have hS:(s.heap.push { cls:=.type "set",dict:=none,data:=.set #[] 0 (.fresh 0 0 led) }).get? s.heap.objs.size=some { cls:=.type "set",dict:=none,data:=.set #[] 0 (.fresh 0 0 led) }:=Heap.get?_push_size _ rfl;have hT:Shared.TypeIs { s with heap:=s.heap.push { cls:=.type "set",dict:=none,data:=.set #[] 0 (.fresh 0 0 led) } } (.ref s.heap.objs.size) "set":=⟨_,hS,rfl⟩;have hli:=F.called_set.init.lookup;have hbi:=F.called_set.init.bind (.ref s.heap.objs.size);(repeat (any_goals (first | assumption | wp_step)))
   refine codeAny_mono (codeAny_call_builtin (R:=wants (fun r s₂=>r=.none∧∃h' tk,s₂={ s with heap:=h',toks:=tk } ∧
     h'.SetOf (intKind prog w) s.heap.objs.size (fun k'=>(PyProof.Rows.firstMet (fun i=>ns.getD i 0) items.size).any (·==k')) (PyProof.Rows.firstMet (fun i=>ns.getD i 0) items.size).length ∧
     (∀b o,b < s.heap.objs.size→s.heap.get? b=some o→h'.get? b=some o)) E) F.called_set.init.plain F.entry_set_init (check_set_init_1 hT ?_)) fun r₂ s₂ hr₂=>?_
   ·obtain ⟨ol,hol,hcl,nl,hdl⟩:=hl
    obtain ⟨ocls,odict,odata,oslots⟩:=ol;simp only at hcl hdl;subst hcl;subst hdl;have hol':(s.heap.push { cls:=.type "set",dict:=none,data:=.set #[] 0 (.fresh 0 0 led) }).get? l=some { cls:=.type "tuple",dict:=odict,data:=.seq items nl,slots:=oslots }:=Heap.get?_push_of_some _ hol
    have hsls:isSubtype (.type "tuple") (.type "set")=pure false:=by rw [isSubtype_type];kernel_rfl
    have hslf:isSubtype (.type "tuple") (.type "frozenset")=pure false:=by rw [isSubtype_type];kernel_rfl
    have hne:(Value.type "tuple"==Value.type "dict")=false:=by decide
    have hl1:(s.heap.push { cls:=.type "set",dict:=none,data:=.set #[] 0 (.fresh 0 0 led) }).IsTuple l items:=⟨_,hol',rfl,nl,rfl⟩;unfold Builtin.«set.__init__» noKeywords Builtin.Frozenset.updateFrom;generalize hPI:pyIter=PI
    wp_walk
    subst hPI;refine wpAny_pyIter_tuple hl1 (wpAny_bind (wpAny_runValue ?_));have hlS:l < s.heap.objs.size:=Heap.lt_size hol
    have hh3:A.in1.in1.in1.handled=none:=by simp [hh]
    have hneI:l≠(s.heap.push { cls:=.type "set",dict:=none,data:=.set #[] 0 (.fresh 0 0 led) }).objs.size:=by
     rw [Heap.size_push];exact Nat.ne_of_lt (Nat.lt_succ_of_lt hlS)
    have hSf:s.heap.objs.size∉[(s.heap.push { cls:=.type "set",dict:=none,data:=.set #[] 0 (.fresh 0 0 led) }).objs.size,l]:=by
     rw [Heap.size_push];simp only [List.mem_cons,List.mem_singleton,List.not_mem_nil,or_false,not_or];exact ⟨Nat.ne_of_lt (Nat.lt_succ_self _),Nat.ne_of_gt hlS⟩
    have hval:∀(i:Nat) (v:Value),items[i]?=some v→∃t,v=.int ((fun i=>ns.getD i 0) i) t:=fun i v hv=>
     PyProof.Rows.IntsAre.int_at hi i v (by rw [Array.getElem?_toList];exact hv)
    refine PyProof.Rows.codeAny_set_update_loopS ((Walks.tuple hh3 _ l hneI items).toS) s.heap.objs.size hSf (fun i=>ns.getD i 0) hval hb (items.size - 0) 0 _ (by lia) (Nat.zero_le _)
     ⟨⟨_,Heap.get?_push_size _ rfl,rfl,rfl⟩,(hl1.push _)⟩ ?hS0 ?hR
    case hS0=>
     have hget:((s.heap.push { cls:=.type "set",dict:=none,data:=.set #[] 0 (.fresh 0 0 led) }).push { cls:=.type "tuple_iterator",data:=.fields #[.ref l,.int 0 0] }).get? s.heap.objs.size
       = some { cls:=.type "set",dict:=none,data:=.set #[] 0 (.fresh 0 0 led) }:=Heap.get?_push_of_some _ hS
     exact PyProof.Rows.SetOf_congr ((PyProof.Rows.setObjOf_fresh (knd:=intKind prog w) led).setOf hget (by unfold scanBound;lia)) (fun _=>rfl) rfl
    case hR=>
     intro s' hm hS';obtain ⟨h',g',d',tk',os'⟩:=s';have eg:g'=s.gens:=hm.gens;have ed:d'=s.drawn:=hm.drawn;have eo:os'=s.os:=hm.os;subst eg;subst ed;subst eo;show wpAny _ _ _ _ _ _;refine wpAny_pure ?_;show wpAny _ _ (ret Value.none) _ _ _;refine wpAny_pure ⟨rfl,h',tk',rfl,hS',fun b o hb e=>?_⟩;have hb1:b≠s.heap.objs.size:=Nat.ne_of_lt hb
     have hb2:b≠(s.heap.push { cls:=.type "set",dict:=none,data:=.set #[] 0 (.fresh 0 0 led) }).objs.size:=by
      rw [Heap.size_push];exact Nat.ne_of_lt (Nat.lt_succ_of_lt hb)
     exact hm.heap b o (by simp only [List.mem_cons,List.mem_singleton,List.not_mem_nil,or_false,not_or];exact ⟨hb1,hb2⟩) (Heap.get?_push_of_some _ (Heap.get?_push_of_some _ e))
   ·cases r₂ with
    | error e=>exact hr₂
    | ok fl₂=>
     cases fl₂ with
     | ret r=>
      obtain ⟨rfl,h',tk,rfl,hS',hk'⟩:=hr₂;(repeat (any_goals (first | assumption | wp_step)));exact h _ _ hS' hk'
     | _=>exact hr₂.elim
  | _=>exact hr.elim
end
end PySem
namespace L2
open PySem PySem.Spec PyProof.Rows
noncomputable def setLen (ns:List Int):Nat:=(firstMet (fun i=>ns.getD i 0) ns.length).length
section
variable {X:Cx} {E:EW} {e a b c:Expr} {p p2 pos pos2:Pos} {m:ME} {te:TE} {ml:ML} {ta:TA} {tg:Expr}
noncomputable def tLenSet (K:PySem.W.Frag) (te:TE):TE:=fun σ H Q=>te σ H fun x H1=>∃q ns,x=.ref q∧(SqT K H1 q (List.map V.int ns)∨SqL K H1 q (ns.map V.int))∧ns.length≤4000∧Q (.int (setLen ns)) H1
theorem pe_lenSet (hc:X.calm=true) (hg:Gl X "len") (hm:X.mg "len" = none) (hg2:Gl X "set") (hm2:X.mg "set" = none) (h:PE X e te)
  (he:starEach [e] X.env=(false,eval e X.env) :: starEach [] X.env:=by rfl) (he2:starEach [.Call (.Name "set" p2) [e] [] pos2] X.env=(false,eval (.Call (.Name "set" p2) [e] [] pos2) X.env) :: starEach [] X.env:=by rfl) :
  PE X (.Call (.Name "len" p) [.Call (.Name "set" p2) [e] [] pos2] [] pos) (tLenSet X.K te):=by
 intro pins s σ H Q I hq;refine wpAny_Call_Name_kw (ld_blt I hg hm boot_len ?_ (by decide) (by decide));refine PyProof.Rows.callWith_builtin1 ?_ he2 rfl;rw [he2];show wpAny _ _ (spliced ((false,eval (.Call (.Name "set" p2) [e] [] pos2) X.env) :: backTo pos (starEach [] X.env))) _ _ s;refine Calls.spliced_cons ?_;refine wpAny_Call_Name_kw (ld_blt I hg2 hm2 PyProof.Rows.boot_set ?_ (by decide) (by decide));refine PyProof.Rows.callWith_type1 (thn (pa_cons h pa_nil he pos2 pins s σ H (fun vs H1=>match vs with | [x]=>∃q ns,x=.ref q∧(SqT X.K H1 q (List.map V.int ns)∨SqL X.K H1 q (ns.map V.int))∧ns.length≤4000∧Q (.int (setLen ns)) H1 | _=>False) I hq) fun us s1 ⟨vs,H1,I1,r1,q1⟩=>?_) he rfl
 match vs,r1,q1 with
 | [x],r1,q1=>
  obtain ⟨q,ns,rfl,sq,hl,k⟩:=q1;obtain ⟨u,rfl,ru⟩:=vals1 r1;cases ru
  have fin:∀(n:Nat),n=ns.length→∀(h':Heap) (tk:Nat),h'.SetOf (intKind X.prog X.w) s1.heap.objs.size (fun k'=>(firstMet (fun i=>ns.getD i 0) n).any (·==k')) (firstMet (fun i=>ns.getD i 0) n).length →
    (∀b o,b < s1.heap.objs.size→s1.heap.get? b=some o→h'.get? b=some o)→wpAny (model X.prog X.w) X.A (spliced (backTo pos (starEach [] X.env))) (fun vs s₁=>wpAny (model X.prog X.w) X.A (call (.builtin "len") (.ref s1.heap.objs.size :: vs)) (EP X pins σ Q) X.xe s₁) X.xe { s1 with heap:=h',toks:=tk }:=fun n hn h' tk hS hk=>by
   refine Calls.spliced_nil ?_;obtain ⟨o,es,ep,t,ho,hex,hd,_,_,hsc,hf,hsz⟩:=hS;have hz:(es.size:Int) < 2 ^ 63:=Int.lt_of_lt_of_le (show (es.size:Int) < 4096 by unfold scanBound at hsc;lia) (by decide);refine call_len_set (s:={ s1 with heap:=h',toks:=tk }) ho hex hd hf hz ?_
   have I2:Inv X pins σ H1 { s1 with heap:=h',toks:=tk+1+1 }:=I1.kept fun b o e=>hk b o (Heap.lt_size e) e
   refine ⟨.int (setLen ns),H1,I2,⟨tk+1,?_⟩,k⟩;rw [hsz,hn];rfl
  rcases sq with sq | sq
  ·obtain ⟨its,rv,pl,hz⟩:=I1.tuple sq
   have hlen:=rv.length;rw [List.length_map] at hlen;exact call_set_tup (I.ok.hd hc) (show s1.heap.IsTuple q its.toArray from pl) (by simpa using intsAre_of rv) (by rw [List.size_toArray];unfold scanBound;lia) (fin its.toArray.size (by rw [List.size_toArray];lia))
  ·obtain ⟨its,rv,pl,hz⟩:=I1.list sq
   have hlen:=rv.length;rw [List.length_map] at hlen;exact PySem.call_set_list (I.ok.hd hc) pl.isList (by simpa using intsAre_of rv) (by rw [List.size_toArray];unfold scanBound;lia) (fin its.toArray.size (by rw [List.size_toArray];lia))
noncomputable def mLenSet (m:ME):ME:=fun e S=>(m e S).bind fun d S1=>match seqD d S1 with
 | some ds=>match intsD ds with
  | some ns=>if ns.length≤4000 then .ok (.int (setLen ns)) S1 else .bad
  | none=>.bad
 | none=>.bad
theorem ge_lenSet (hc:X.calm=true) (hg:Gl X "len") (hm:X.mg "len" = none) (hg2:Gl X "set") (hm2:X.mg "set" = none) (h:GE X E e m)
  (he:starEach [e] X.env=(false,eval e X.env) :: starEach [] X.env:=by rfl) (he2:starEach [.Call (.Name "set" p2) [e] [] pos2] X.env=(false,eval (.Call (.Name "set" p2) [e] [] pos2) X.env) :: starEach [] X.env:=by rfl) :
  GE X E (.Call (.Name "len" p) [.Call (.Name "set" p2) [e] [] pos2] [] pos) (mLenSet m):=(pe_lenSet hc hg hm hg2 hm2 h he he2).imp fun σ H Q ⟨ρ,l,S,hl,hs,hm⟩=>by
 refine ⟨ρ,l,S,hl,hs,hm.seq fun d S1 hm ρ1 H1 x l1 s1 r1=>?_⟩
 cases hq:seqD d S1 with
 | none=>rw [hq] at hm;exact hm.elim
 | some ds=>
  rw [hq] at hm;dsimp only at hm
  cases hi:intsD ds with
  | none=>rw [hi] at hm;exact hm.elim
  | some ns=>
   rw [hi] at hm;dsimp only at hm;split at hm
   ·rename_i hn
    obtain ⟨q,xs,rfl,rr,sq⟩:=seqD_ok s1 r1 hq;rw [intsD_eq hi] at rr;rw [rel_ints rr] at sq;exact ⟨q,ns,rfl,sq.symm,hn,hm ρ1 H1 _ l1 s1 (.int _)⟩
   ·exact hm.elim
end
section
variable {X:Cx} {E:EW} {a b c:Expr} {p pos:Pos} {ml:ML} {ta:TA} {tg:Expr}
end
end L2
namespace L2
open PySem PySem.Spec PyProof.Rows
section
variable {X:Cx} {E:EW} {e a b c:Expr} {p p2 pos pos2:Pos} {m:ME} {te:TE} {ml:ML} {ta:TA} {tg:Expr}
end
end L2
namespace L2
open PySem PySem.Spec PyProof.Rows
section
variable {X:Cx} {E:EW} {k v:Expr} {pos:Pos} {mk mv:ME}
end
end L2
namespace PySem
end PySem
namespace L2
open PySem PySem.Spec PyProof.Rows
section
variable {X:Cx} {E:EW} {o e:Expr} {apos cpos:Pos} {mo ma:ME}
end
section
variable {X:Cx} {o e:Expr} {apos cpos:Pos} {td ty:TE}
end
section
variable {X:Cx} {E:EW} {o e:Expr} {apos cpos:Pos} {mo ma:ME}
end
end L2
namespace L2
open PySem PySem.Spec PyProof.Rows
section
variable {X:Cx}
end
section
variable {X:Cx} {E:EW} {o e f:Expr} {apos cpos:Pos} {mo mi my:ME}
end
end L2
namespace PySem
open Sem (wp)
section
variable {prog:Program} {w:World} {A:Around} {E:Value→Shared→Prop} {s:Shared}
structure ZipT (h:Heap) (z TI TO i1 i2 l1 l2:Addr) (k:Nat):Prop where
 zip:IsZip h z TI TO .none
 ins:IsPair h TI (.ref i1) (.ref i2)
 out:∃a b,IsPair h TO a b
 one:h.IsTupleIter i1 l1 k
 two:h.IsTupleIter i2 l2 k
theorem zipT_item {z TI TO i1 i2 l1 l2:Addr} {k:Nat} {xs ys:Array Value} {x y:Value} {Q:Value→Shared→Prop} (D:ZipApart z TI TO i1 i2 l1 l2) (Z:ZipT s.heap z TI TO i1 i2 l1 l2 k)
  (g1:s.heap.IsTuple l1 xs) (g2:s.heap.IsTuple l2 ys) (hx:xs[k]?=some x) (hy:ys[k]?=some y)
  (hQ:∀h',IsZip h' z TI TO (rawInt s.heap.objs.size)→(∃a b,IsPair h' TO a b)→h'.IsTupleIter i1 l1 (k+1)→h'.IsTupleIter i2 l2 (k+1)→IsPair h' s.heap.objs.size x y →
   (∀c o,c≠z→c≠TO→c≠i1→c≠i2→s.heap.get? c=some o→h'.get? c=some o)→Q (.ref s.heap.objs.size) { s with heap:=h' }) :
  wpAny (model prog w) A (Builtin.«zip.__next__» ⟨[.ref z],[]⟩) (fun f u=>∃v,f=.done (.ret v)∧Q v u) E s:=by
 obtain ⟨Zz,ZI,⟨a,b,ZO⟩,J1,J2⟩:=Z;show wpAny (model prog w) A (field (.ref z) 2 >>= _) _ _ s;refine wpAny_bind (wpAny_field (x:=.bool false) Zz rfl rfl ?_);show wpAny (model prog w) A (field (.ref z) 3 >>= _) _ _ s;refine wpAny_bind (wpAny_field (x:=.ref TI) Zz rfl rfl (wpAny_bind (wpAny_seqItems ZI rfl ?_)));show wpAny (model prog w) A (Builtin.SmallTypes.ownedTupleIsFree (.ref z) >>= _) _ _ s;refine wpAny_bind ?_;unfold Builtin.SmallTypes.ownedTupleIsFree;refine wpAny_bind (wpAny_field (x:=.none) Zz rfl rfl (wpAny_pure ?_));simp only [if_true];refine wpAny_bind (wpAny_rule (wpAny_bind (wpAny_field (x:=.ref TO) Zz rfl rfl (wpAny_bind (wpAny_setField_rec Zz (by simp) fun hA ZA SA=>?_)))))
 replace ZA:IsZip hA z TI TO .ellipsis:=ZA
 refine wpAny_bind ?_;simp only [List.zipIdx_cons,List.zipIdx_nil,List.forIn_cons,List.forIn_nil];refine wpAny_bind (wpAny_bind (wpAny_onRaise ?_));show wpAny (model prog w) _ (Builtin.SmallTypes.nextOf (.ref i1) >>= _) _ _ _;refine wpAny_bind (nextOf_tuple_item (J1.at fun o e=>SA.extBut _ o D.i1z e) (g1.extBut SA.extBut D.l1z) hx fun hB JB SB=>wpAny_pure ?_);have OB:IsPair hB TO a b:=SB.extBut _ _ D.TOi1 (SA.extBut _ _ D.TOz ZO);refine wpAny_bind (wpAny_seqItems OB rfl (wpAny_bind (wpAny_updateSeq_pair OB fun hC OC SC=>?_)))
 replace OC:IsPair hC TO x b:=OC
 refine wpAny_bind (wpAny_letGo (wpAny_pure (wpAny_bind (wpAny_bind (wpAny_onRaise ?_)))));show wpAny (model prog w) _ (Builtin.SmallTypes.nextOf (.ref i2) >>= _) _ _ _
 refine wpAny_bind (nextOf_tuple_item (J2.at fun o e=>SC.extBut _ o D.TOi2.symm (SB.extBut _ o D.i12.symm (SA.extBut _ o D.i2z e)))
  (((g2.extBut SA.extBut D.l2z).extBut SB.extBut D.l2i1).extBut SC.extBut D.l2TO) hy fun hD JD SD=>wpAny_pure ?_)
 have OD:IsPair hD TO x b:=SD.extBut _ _ D.TOi2 OC;refine wpAny_bind (wpAny_seqItems OD rfl (wpAny_bind (wpAny_updateSeq_pair OD fun hF OF SF=>?_)))
 replace OF:IsPair hF TO x y:=OF
 refine wpAny_bind (wpAny_letGo (wpAny_pure (wpAny_pure (wpAny_bind (wpAny_seqItems OF rfl (wpAny_bind (wpAny_newTuple ?_)))))))
 have size:hF.objs.size=s.heap.objs.size:=by rw [SF.1,SD.1,SC.1,SB.1,SA.1]
 have ZF:IsZip hF z TI TO .ellipsis:=SF.extBut _ _ D.TOz.symm (SD.extBut _ _ D.i2z.symm (SC.extBut _ _ D.TOz.symm (SB.extBut _ _ D.i1z.symm ZA)))
 have KF:∀c o,c≠z→c≠TO→c≠i1→c≠i2→s.heap.get? c=some o→hF.get? c=some o:=fun c o n1 n2 n3 n4 e=>SF.extBut _ _ n2 (SD.extBut _ _ n4 (SC.extBut _ _ n2 (SB.extBut _ _ n3 (SA.extBut _ _ n1 e))))
 have J1F:hF.IsTupleIter i1 l1 (k+1):=JB.at fun o e=>SF.extBut _ o D.TOi1.symm (SD.extBut _ o D.i12 (SC.extBut _ o D.TOi1.symm e))
 have J2F:hF.IsTupleIter i2 l2 (k+1):=JD.at fun o e=>SF.extBut _ o D.TOi2.symm e
 have lz:z < hF.objs.size:=Heap.lt_size ZF;show wpAny (model prog w) A (Builtin.SmallTypes.ownedTupleHandOut (.ref z) (.ref hF.objs.size) >>= _) _ _ _;refine wpAny_bind ?_;unfold Builtin.SmallTypes.ownedTupleHandOut;have ZG:IsZip (hF.push { cls:=.type "tuple",data:=.seq #[x,y] }) z TI TO .ellipsis:=Heap.get?_push_of_some _ ZF;refine wpAny_bind (wpAny_setField_rec ZG (by simp) fun hH ZH SH=>?_)
 replace ZH:IsZip hH z TI TO (rawInt hF.objs.size):=ZH
 refine wpAny_setField_rec ZH (by simp) fun hI ZI' SI=>?_
 replace ZI':IsZip hI z TI TO (rawInt hF.objs.size):=ZI'
 have up:∀c o,c≠z→hF.get? c=some o→hI.get? c=some o:=fun c o n e=>SI.extBut _ _ n (SH.extBut _ _ n (Heap.get?_push_of_some _ e))
 have TI':IsPair hI hF.objs.size x y:=SI.extBut _ _ (Nat.ne_of_gt lz) (SH.extBut _ _ (Nat.ne_of_gt lz) (Heap.get?_push_size _ rfl));rw [size] at ZI' TI';refine wpAny_pure ⟨_,rfl,?_⟩;show Q (.ref hF.objs.size) _;rw [size]
 exact hQ hI ZI' ⟨_,_,up _ _ D.TOz OF⟩ (J1F.at fun o e=>up _ o D.i1z e) (J2F.at fun o e=>up _ o D.i2z e) TI' fun c o n1 n2 n3 n4 e=>up c o n1 (KF c o n1 n2 n3 n4 e)
theorem zipT_end {z TI TO i1 i2 l1 l2:Addr} {k:Nat} {xs ys:Array Value} {Q:Fin→Shared→Prop} (hh:A.handled=none) (D:ZipApart z TI TO i1 i2 l1 l2) (Z:ZipT s.heap z TI TO i1 i2 l1 l2 k)
  (g1:s.heap.IsTuple l1 xs) (g2:s.heap.IsTuple l2 ys) (hend:xs[k]?=none∨ys[k]?=none)
  (hE:∀h' e,(∀c o,c≠z→c≠TO→c≠i1→c≠i2→s.heap.get? c=some o→h'.get? c=some o)→(∃o,h'.get? e=some o∧o.cls=.type "StopIteration")→E (.ref e) { s with heap:=h' }) :
  wpAny (model prog w) A (Builtin.«zip.__next__» ⟨[.ref z],[]⟩) Q E s:=by
 obtain ⟨Zz,ZI,⟨a,b,ZO⟩,J1,J2⟩:=Z;show wpAny (model prog w) A (field (.ref z) 2 >>= _) _ _ s;refine wpAny_bind (wpAny_field (x:=.bool false) Zz rfl rfl ?_);show wpAny (model prog w) A (field (.ref z) 3 >>= _) _ _ s;refine wpAny_bind (wpAny_field (x:=.ref TI) Zz rfl rfl (wpAny_bind (wpAny_seqItems ZI rfl ?_)));show wpAny (model prog w) A (Builtin.SmallTypes.ownedTupleIsFree (.ref z) >>= _) _ _ s;refine wpAny_bind ?_;unfold Builtin.SmallTypes.ownedTupleIsFree;refine wpAny_bind (wpAny_field (x:=.none) Zz rfl rfl (wpAny_pure ?_));simp only [if_true];refine wpAny_bind (wpAny_rule (wpAny_bind (wpAny_field (x:=.ref TO) Zz rfl rfl (wpAny_bind (wpAny_setField_rec Zz (by simp) fun hA ZA SA=>?_)))))
 replace ZA:IsZip hA z TI TO .ellipsis:=ZA
 refine wpAny_bind ?_;simp only [List.zipIdx_cons,List.zipIdx_nil,List.forIn_cons,List.forIn_nil];refine wpAny_bind (wpAny_bind (wpAny_onRaise ?_));show wpAny (model prog w) _ (Builtin.SmallTypes.nextOf (.ref i1) >>= _) _ _ _
 cases hx:xs[k]? with
 | none=>
  refine wpAny_bind (nextOf_tuple_end hh (J1.at fun o e=>SA.extBut _ o D.i1z e) (g1.extBut SA.extBut D.l1z) hx fun hB e SB he=>?_);obtain ⟨oe,q1,q2⟩:=he;have ZB:IsZip hB z TI TO .ellipsis:=SB _ _ D.i1z.symm ZA
  have nz:e≠z:=fun t=>by subst t;rw [ZB] at q1;cases q1;simp at q2
  refine wpAny_setField_rec ZB (by simp) fun hC _ SC=>hE hC e (fun c o n1 _ n3 _ t=>SC.extBut _ _ n1 (SB _ _ n3 (SA.extBut _ _ n1 t))) ⟨oe,SC.extBut _ _ nz q1,q2⟩
 | some x=>
  have hy:ys[k]?=none:=hend.resolve_left fun t=>by rw [hx] at t;cases t
  refine wpAny_bind (nextOf_tuple_item (J1.at fun o e=>SA.extBut _ o D.i1z e) (g1.extBut SA.extBut D.l1z) hx fun hB JB SB=>wpAny_pure ?_);have OB:IsPair hB TO a b:=SB.extBut _ _ D.TOi1 (SA.extBut _ _ D.TOz ZO);refine wpAny_bind (wpAny_seqItems OB rfl (wpAny_bind (wpAny_updateSeq_pair OB fun hC OC SC=>?_)));refine wpAny_bind (wpAny_letGo (wpAny_pure (wpAny_bind (wpAny_bind (wpAny_onRaise ?_)))));show wpAny (model prog w) _ (Builtin.SmallTypes.nextOf (.ref i2) >>= _) _ _ _
  refine wpAny_bind (nextOf_tuple_end hh (J2.at fun o e=>SC.extBut _ o D.TOi2.symm (SB.extBut _ o D.i12.symm (SA.extBut _ o D.i2z e)))
   (((g2.extBut SA.extBut D.l2z).extBut SB.extBut D.l2i1).extBut SC.extBut D.l2TO) hy fun hD e SD he=>?_)
  obtain ⟨oe,q1,q2⟩:=he;have ZD:IsZip hD z TI TO .ellipsis:=SD _ _ D.i2z.symm (SC.extBut _ _ D.TOz.symm (SB.extBut _ _ D.i1z.symm ZA))
  have nz:e≠z:=fun t=>by subst t;rw [ZD] at q1;cases q1;simp at q2
  refine wpAny_setField_rec ZD (by simp) fun hF _ SF=>hE hF e (fun c o n1 n2 n3 n4 t=>SF.extBut _ _ n1 (SD _ _ n4 (SC.extBut _ _ n2 (SB.extBut _ _ n3 (SA.extBut _ _ n1 t))))) ⟨oe,SF.extBut _ _ nz q1,q2⟩
theorem nextT_item {z TI TO i1 i2 l1 l2:Addr} {k:Nat} {xs ys:Array Value} {x y:Value} {Q:Option Value→Shared→Prop} (D:ZipApart z TI TO i1 i2 l1 l2) (Z:ZipT s.heap z TI TO i1 i2 l1 l2 k)
  (g1:s.heap.IsTuple l1 xs) (g2:s.heap.IsTuple l2 ys) (hx:xs[k]?=some x) (hy:ys[k]?=some y)
  (hQ:∀h',IsZip h' z TI TO (rawInt s.heap.objs.size)→(∃a b,IsPair h' TO a b)→h'.IsTupleIter i1 l1 (k+1)→h'.IsTupleIter i2 l2 (k+1)→IsPair h' s.heap.objs.size x y →
   (∀c o,c≠z→c≠TO→c≠i1→c≠i2→s.heap.get? c=some o→h'.get? c=some o)→Q (some (.ref s.heap.objs.size)) { s with heap:=h' }):wpAny (model prog w) A (pyNext (.ref z)) Q E s:=by
 have hT:s.TypeIs (.ref z) "zip":=⟨_,Z.zip,rfl⟩;unfold pyNext;refine wpAny_bind (wpAny_attempt (wpAny_callSpecial?_slot (name:=Str.ofString "__next__") hT F.slot_zip_next (wpAny_call_entry F.slot_zip_next hT F.entry_zip_next (zipT_item D Z g1 g2 hx hy fun h' a1 a2 a3 a4 a5 a6=>?_) (F.args_zip_next_1 _))));exact wpAny_pure (hQ h' a1 a2 a3 a4 a5 a6)
theorem nextT_end {z TI TO i1 i2 l1 l2:Addr} {k:Nat} {xs ys:Array Value} {Q:Option Value→Shared→Prop} (hh:A.handled=none) (D:ZipApart z TI TO i1 i2 l1 l2) (Z:ZipT s.heap z TI TO i1 i2 l1 l2 k)
  (g1:s.heap.IsTuple l1 xs) (g2:s.heap.IsTuple l2 ys) (hend:xs[k]?=none∨ys[k]?=none)
  (hQ:∀h',(∀c o,c≠z→c≠TO→c≠i1→c≠i2→s.heap.get? c=some o→h'.get? c=some o)→Q none { s with heap:=h' }):wpAny (model prog w) A (pyNext (.ref z)) Q E s:=by
 have hT:s.TypeIs (.ref z) "zip":=⟨_,Z.zip,rfl⟩;unfold pyNext;refine wpAny_bind (wpAny_attempt (wpAny_callSpecial?_slot (name:=Str.ofString "__next__") hT F.slot_zip_next (wpAny_call_entry F.slot_zip_next hT F.entry_zip_next (zipT_end hh D Z g1 g2 hend fun h' e hk he=>?_) (F.args_zip_next_1 _))));obtain ⟨o,q1,q2⟩:=he;exact wpAny_bind (wpAny_isInstance (T:="StopIteration") (b:=true) ⟨o,q1,q2⟩ isSubtype_stop (wpAny_pure (hQ _ hk)))
noncomputable abbrev zh1 (h:Heap) (a:Addr):Heap:=h.push { cls:=.type "tuple_iterator",data:=.fields #[.ref a,.int 0 0] }
noncomputable abbrev zh2 (h:Heap) (a b:Addr):Heap:=zh1 (zh1 h a) b
noncomputable abbrev zh3 (h:Heap) (a b:Addr):Heap:=(zh2 h a b).push { cls:=.type "tuple",data:=.seq #[.ref h.objs.size,.ref (zh1 h a).objs.size] }
noncomputable abbrev zh4 (h:Heap) (a b:Addr):Heap:=(zh3 h a b).push { cls:=.type "tuple",data:=.seq #[.none,.none] }
noncomputable abbrev zh5 (h:Heap) (a b:Addr):Heap:=(zh4 h a b).push { cls:=.type "zip",data:=.fields #[.none,.bool false,.bool false,.ref (zh2 h a b).objs.size,.ref (zh3 h a b).objs.size] }
theorem meets_zip_newT (a b:Addr) (xs ys:Array Value):Meets (Builtin.«zip.__new__» ⟨[.type "zip",.ref a,.ref b],[]⟩) (fun _ R s=>s.heap.IsTuple a xs∧s.heap.IsTuple b ys∧R (.ok (.ret (.ref (zh4 s.heap a b).objs.size))) { s with heap:=zh5 s.heap a b }):=
 .of_wp fun prog w A R s h=>by
  obtain ⟨hp,g,d,tk,os⟩:=s;obtain ⟨q1,q2,h⟩:=h;have hsub:=sub_zip;have t1:Heap.IsTuple (Shared.heap ⟨hp,g,d,tk,os⟩) a xs:=q1
  have t2:Heap.IsTuple (Shared.heap ⟨hp.push { cls:=.type "tuple_iterator",data:=.fields #[.ref a,.int 0 0] },g,d,tk,os⟩) b ys:=let ⟨o,e,r⟩:=q2;⟨o,Heap.get?_push_of_some _ e,r⟩
  wp_walk using wpAny_pyIter_tuple t1,wpAny_pyIter_tuple t2
  exact ⟨_,rfl,h⟩
theorem call_zipT {a b:Addr} {xs ys:Array Value} {Q:Value→Shared→Prop} (t1:s.heap.IsTuple a xs) (t2:s.heap.IsTuple b ys)
  (h:∀h',ZipT h' (s.heap.objs.size+4) (s.heap.objs.size+2) (s.heap.objs.size+3) s.heap.objs.size (s.heap.objs.size+1) a b 0→(∀c o,s.heap.get? c=some o→h'.get? c=some o)→Q (.ref (s.heap.objs.size+4)) { s with heap:=h' }) :
  wpAny (model prog w) A (call (.type "zip") [.ref a,.ref b]) Q E s:=by
 refine callType_new F.called_zip (by decide) (F.typeCall_zip_2 _ _) (F.newCall_zip_2 _ _) (fun obj=>F.args_object_init_3 obj _ _) F.entry_zip_new (meets_zip_newT a b xs ys) ⟨t1,t2,?_⟩;have n1:(zh1 s.heap a).objs.size=s.heap.objs.size+1:=Heap.size_push ..;have n2:(zh2 s.heap a b).objs.size=s.heap.objs.size+2:=(Heap.size_push ..).trans (by rw [n1]);have n3:(zh3 s.heap a b).objs.size=s.heap.objs.size+3:=(Heap.size_push ..).trans (by rw [n2]);have n4:(zh4 s.heap a b).objs.size=s.heap.objs.size+4:=(Heap.size_push ..).trans (by rw [n3])
 have p:∀ {h:Heap} {o:Obj} {c:Addr} {u:Obj},h.get? c=some u→(h.push o).get? c=some u:=fun e=>Heap.get?_push_of_some _ e
 have w5:(zh5 s.heap a b).get? (zh4 s.heap a b).objs.size=some _:=Heap.get?_push_size _ rfl;have w4:(zh5 s.heap a b).get? (zh3 s.heap a b).objs.size=some _:=p (Heap.get?_push_size _ rfl);have w3:(zh5 s.heap a b).get? (zh2 s.heap a b).objs.size=some _:=p (p (Heap.get?_push_size _ rfl));have w2:(zh5 s.heap a b).get? (zh1 s.heap a).objs.size=some _:=p (p (p (Heap.get?_push_size _ rfl)));have w1:(zh5 s.heap a b).get? s.heap.objs.size=some _:=p (p (p (p (Heap.get?_push_size _ rfl))));show _∧_;rw [n2,n3,n4] at w5;rw [n1,n2] at w3;rw [n3] at w4;rw [n1] at w2;rw [n4];exact ⟨⟨_,w5,rfl⟩,h _ ⟨w5,w3,⟨_,_,w4⟩,⟨_,w1,rfl,rfl⟩,⟨_,w2,rfl,rfl⟩⟩ fun c o e=>p (p (p (p (p e))))⟩
end
end PySem
namespace L2
open PySem PySem.Spec PyProof.Rows
theorem Inv.turnedS {X:Cx} {pins:List (Addr×Obj)} {σ:List (Option V)} {H:Hp} {s:Shared} {h':Heap} {t':Nat} {ch:List Addr} {a:Addr} {o:HO} (I:Inv X pins σ H s) (k:∀b u,b∉ch→s.heap.get? b=some u→h'.get? b=some u)
  (f:∀b∈ch,FpOk X pins H b) (ha:s.heap.objs.size≤a) (new:ObjOk X.prog X.w (upd H a o) h' a o):Inv X pins σ (upd H a o) { s with heap:=h',toks:=t' }:=by
 have hn:=I.hok.fresh ha
 have nit:∀b u,H b=some u→b∉ch:=fun b u q z=>by rw [(f b z).1] at q;cases q
 refine I.step (g':=s.gens) (d':=s.drawn) (ch:=ch) (fun b hb=>⟨(f b hb).2.2.2.1,(f b hb).2.1,(f b hb).2.2.2.2.1,(f b hb).2.2.2.2.2⟩) (fun b o _ _ hc q _=>k b o hc q) (fun b o _ _ hc q _=>⟨o.slots,k b o hc q⟩) (fun b o _ q n=>?_)
  (fun b o hc q=>⟨o,k b o hc q⟩) (fun b xs q=>by rw [upd_ne (ne_of_none q hn)];exact q) (fun b o u q=>by rw [upd_ne (ne_of_none q hn)];exact q) (fun b ps q=>⟨#[],by rw [upd_ne (ne_of_none q hn),q];simp⟩) (fun m hm=>?_) (fun b u q=>?_) I.bare
 ·rw [upd_ne (Nat.ne_of_lt (Nat.lt_of_lt_of_le (Heap.lt_size q) ha))];exact n
 ·obtain ⟨o,es,ep,ho,r⟩:=hm
  exact ⟨o,es,ep,k _ o (fun z=>(f _ z).2.1 rfl) ho,r⟩
 ·by_cases hb:b=a
  ·subst hb;rw [upd_same] at q;cases q;exact new
  ·rw [upd_ne hb] at q
   refine (I.hok b u q).stay (fun c v hc r=>?_) (fun c r=>by rw [upd_ne (ne_of_none r hn)];exact r) fun c xs r=>by rw [upd_ne (ne_of_none r hn)];exact r
   refine k c v ?_ r
   rcases hc with z | z
   ·rw [z];exact nit b u q
   ·exact nit c _ z
noncomputable def Itz (K:PySem.W.Frag) (a b:Addr):It:=
 ⟨fun i H=>∃xs ys x y,SqT K H a xs∧SqT K H b ys∧xs[i]?=some x∧ys[i]?=some y,fun i H v H'=>∃p x y,H p=none∧v=.ref p∧H'=upd H p (.tup [x,y])∧(∀xs,SqT K H a xs→xs[i]?=some x)∧∀ys,SqT K H b ys→ys[i]?=some y,
  fun i H=>∃xs ys,SqT K H a xs∧SqT K H b ys∧(xs.length≤i∨ys.length≤i)⟩
section
variable {P:Program} {w:World} {K:PySem.W.Frag} {elts:List Expr} {x1:Nat} {pos:Pos}
theorem cell_no {o:Obj} {vs:Array Value} (h:o.data=.fields vs) (v:Option Value):o.data≠.cell v:=fun z=>by rw [h] at z;cases z
theorem turn_zipT (a b z TI TO i1 i2:Addr) (D:ZipApart z TI TO i1 i2 a b):Turn P w K (.Tuple elts x1 pos) (Itz K a b) [z,TI,TO,i1,i2] z (fun i h=>ZipT h z TI TO i1 i2 a b i) where
 mem:=by simp
 obj:=fun i h st c hc=>by
  obtain ⟨Zz,ZI,⟨_,_,ZO⟩,⟨o1,q1,_,d1⟩,⟨o2,q2,_,d2⟩⟩:=st;simp only [List.mem_cons,List.not_mem_nil,or_false] at hc
  rcases hc with rfl | rfl | rfl | rfl | rfl
  ·exact ⟨_,Zz,fun v t=>by cases (show Data.fields _=Data.cell v from t)⟩
  ·exact ⟨_,ZI,fun v t=>by cases (show Data.seq _ _=Data.cell v from t)⟩
  ·exact ⟨_,ZO,fun v t=>by cases (show Data.seq _ _=Data.cell v from t)⟩
  ·exact ⟨o1,q1,cell_no d1⟩
  ·exact ⟨o2,q2,cell_no d2⟩
 keep:=fun i h h' st k=>⟨k z (by simp) _ st.zip,k TI (by simp) _ st.ins,let ⟨p,q,e⟩:=st.out;⟨p,q,k TO (by simp) _ e⟩,st.one.at fun o e=>k i1 (by simp) o e,st.two.at fun o e=>k i2 (by simp) o e⟩
 item:=by
  intro X hP hw hK hc i pins s σ H E I hf st hg;subst hP hw hK;obtain ⟨xs,ys,x,y,hq,hr,hx,hy⟩:=hg;obtain ⟨its,rv,p,_⟩:=I.tuple hq;obtain ⟨jts,rw',p2,_⟩:=I.tuple hr;obtain ⟨u,hu,ru⟩:=rv.get hx;obtain ⟨v,hv,rv2⟩:=rw'.get hy;have p':s.heap.IsTuple a its.toArray:=p;have p2':s.heap.IsTuple b jts.toArray:=p2;have lz:z < s.heap.objs.size:=Heap.lt_size st.zip;have lI:TI < s.heap.objs.size:=Heap.lt_size st.ins
  have lO:TO < s.heap.objs.size:=let ⟨_,_,e⟩:=st.out;Heap.lt_size e
  have l1:i1 < s.heap.objs.size:=let ⟨o,e,_⟩:=st.one;Heap.lt_size e
  have l2:i2 < s.heap.objs.size:=let ⟨o,e,_⟩:=st.two;Heap.lt_size e
  refine nextT_item D st p' p2' (x:=u) (y:=v) (by simpa using hu) (by simpa using hv) fun h' a1 a2 a3 a4 a5 a6=>?_
  have new:ObjOk X.prog X.w (upd H s.heap.objs.size (.tup [x,y])) h' s.heap.objs.size (.tup [x,y]):=
   ⟨Nat.le_trans (show 2≤1000 by decide) (by decide),[u,v],.cons ru (.cons rv2 .nil),_,a5,rfl,_,rfl⟩
  have I1:=I.turnedS (t':=s.toks) (ch:=[z,TO,i1,i2]) (fun c o hc e=>a6 c o (fun t=>hc (by simp [t])) (fun t=>hc (by simp [t])) (fun t=>hc (by simp [t])) (fun t=>hc (by simp [t])) e) (fun c hc=>hf c (by
   simp only [List.mem_cons,List.not_mem_nil,or_false] at hc ⊢
   rcases hc with h | h | h | h <;> simp [h])) (Nat.le_refl _) new
  refine ⟨_,rfl,wpAny_letOwnedTupleGo_zip (s:={ s with heap:=h' }) a1 fun h2 Z2 S2=>?_⟩;have S2':Heap.SameBut z h' h2:=S2;have fz:=hf z (by simp);have I2:=I1.turned (t':=s.toks) (h':=h2) (it:=z) (fun c o hc q=>(S2'.2 c hc).trans q) (by rw [upd_ne (Nat.ne_of_lt lz)];exact fz.1) fz.2.1 fz.2.2.2.1 fz.2.2.2.2.1 fz.2.2.2.2.2;refine ⟨.ref s.heap.objs.size,_,I2,rfl,⟨s.heap.objs.size,x,y,I.hok.fresh (Nat.le_refl _),rfl,rfl,fun l h=>by rw [I.tuple_inj h hq];exact hx,fun l h=>by rw [I.tuple_inj h hr];exact hy⟩,?_,fun c hc=>?_⟩
  ·have up:∀c o,c≠z→h'.get? c=some o→h2.get? c=some o:=fun c o n e=>(S2'.2 c n).trans e
   obtain ⟨p1,q1,e1⟩:=a2;exact ⟨Z2,up _ _ D.TIz (a6 _ _ D.TIz D.TITO D.TIi1 D.TIi2 st.ins),⟨p1,q1,up _ _ D.TOz e1⟩,a3.at fun o e=>up _ o D.i1z e,a4.at fun o e=>up _ o D.i2z e⟩
  ·have:c≠s.heap.objs.size:=by
    simp only [List.mem_cons,List.not_mem_nil,or_false] at hc
    rcases hc with rfl | rfl | rfl | rfl | rfl <;> apply Nat.ne_of_lt <;> assumption
   rw [upd_ne this];exact (hf c hc).1
 done:=by
  intro X hP hw hK hc i pins s σ H E I hf st hg;subst hP hw hK;obtain ⟨xs,ys,hq,hr,hx⟩:=hg;obtain ⟨its,rv,p,_⟩:=I.tuple hq;obtain ⟨jts,rw',p2,_⟩:=I.tuple hr;have n1:=rv.length;have n2:=rw'.length
  refine nextT_end (I.ok.hd hc) D st (show s.heap.IsTuple a its.toArray from p) (show s.heap.IsTuple b jts.toArray from p2) (by
   rcases hx with h | h
   ·exact .inl (by simp;lia)
   ·exact .inr (by simp;lia)) fun h' k=>⟨rfl,?_⟩
  have nit:∀b u,H b=some u→b∉[z,TO,i1,i2]:=fun b u q hm=>by
   rw [(hf b (by
    simp only [List.mem_cons,List.not_mem_nil,or_false] at hm ⊢
    rcases hm with h | h | h | h <;> simp [h])).1] at q
   cases q
  have f:∀b∈[z,TO,i1,i2],FpOk X pins H b:=fun c hc=>hf c (by
   simp only [List.mem_cons,List.not_mem_nil,or_false] at hc ⊢
   rcases hc with h | h | h | h <;> simp [h])
  have k':∀c o,c∉[z,TO,i1,i2]→s.heap.get? c=some o→h'.get? c=some o:=fun c o hc e=>k c o (fun t=>hc (by simp [t])) (fun t=>hc (by simp [t])) (fun t=>hc (by simp [t])) (fun t=>hc (by simp [t])) e
  refine I.step (t':=s.toks) (g':=s.gens) (d':=s.drawn) (ch:=[z,TO,i1,i2]) (fun b hb=>⟨(f b hb).2.2.2.1,(f b hb).2.1,(f b hb).2.2.2.2.1,(f b hb).2.2.2.2.2⟩) (fun b o _ _ hc q _=>k' b o hc q) (fun b o _ _ hc q _=>⟨o.slots,k' b o hc q⟩) (fun b o _ q n=>n)
   (fun b o hc q=>⟨o,k' b o hc q⟩) (fun b xs q=>q) (fun b o u q=>q) (fun b ps q=>⟨#[],by rw [q];simp⟩) (fun m hm=>?_) (fun b u q=>?_) I.bare
  ·obtain ⟨o,es,ep,ho,r⟩:=hm
   exact ⟨o,es,ep,k' _ o (fun t=>(f _ t).2.1 rfl) ho,r⟩
  ·refine (I.hok b u q).stay (fun c v hc r=>?_) (fun c r=>r) fun c xs r=>r
   refine k' c v ?_ r
   rcases hc with t | t
   ·rw [t];exact nit b u q
   ·exact nit c _ t
 self:=fun _ _ _ _ _ st h=>wpAny_pyIter_zip st.zip h
end
section
variable {X:Cx} {E:EW} {e1 e2:Expr} {elts:List Expr} {x1:Nat} {p pos ptg:Pos} {ml:ML} {ta:TA}
noncomputable def iZip (K:PySem.W.Frag) (ta:TA):TI:=fun σ H R=>ta σ H fun vs H1=>∃a b,vs=[.ref a,.ref b]∧(∃xs,SqT K H1 a xs)∧(∃ys,SqT K H1 b ys)∧R (Itz K a b) H1
theorem pi_zip (hg:Gl X "zip") (hm:X.mg "zip" = none) (ha:PA X [e1,e2] ta) (hs:starEach [e1,e2] X.env=[(false,eval e1 X.env),(false,eval e2 X.env)]:=by rfl) (hs2:starEach [e2] X.env=[(false,eval e2 X.env)]:=by rfl):PI X (.Tuple elts x1 ptg) (.Call (.Name "zip" p) [e1,e2] [] pos) (iZip X.K ta):=by
 intro pins s σ H R I h;refine Call_ (ld_blt I hg hm boot_zip (PyProof.Rows.callWith_type1 (thn (ha pos pins s σ H _ I h) fun us s1 ⟨vs,H1,I1,r1,q1⟩=>?_) (by rw [hs,hs2]) (by rw [hs2];rfl)));obtain ⟨a,b,rfl,⟨xs,sx⟩,⟨ys,sy⟩,q⟩:=q1;obtain ⟨u,v,rfl,ru,rv⟩:=vals2 r1;cases ru;cases rv;obtain ⟨its,rx,px,_⟩:=I1.tuple sx;obtain ⟨jts,ry,py,_⟩:=I1.tuple sy;have px':s1.heap.IsTuple a its.toArray:=px;have py':s1.heap.IsTuple b jts.toArray:=py
 have la:a < s1.heap.objs.size:=by obtain ⟨o,q,_⟩:=px';exact Heap.lt_size q
 have lb:b < s1.heap.objs.size:=by obtain ⟨o,q,_⟩:=py';exact Heap.lt_size q
 have fp:∀c∈[s1.heap.objs.size+4,s1.heap.objs.size+2,s1.heap.objs.size+3,s1.heap.objs.size,s1.heap.objs.size+1],FpOk X pins H1 c:=fun c hc=>by
  have:s1.heap.objs.size≤c:=by
   simp only [List.mem_cons,List.not_mem_nil,or_false] at hc
   rcases hc with h | h | h | h | h <;> rw [h] <;> first | exact Nat.le_refl _ | exact Nat.le_add_right _ _
  exact I1.fpOk this (I1.hok.fresh this)
 refine call_zipT px' py' fun h' hz hk=>wpAny_pyIter_zip hz.zip ?_
 exact ⟨_,_,_,_,H1,rfl,I1.kept (t':=s1.toks) hk,turn_zipT a b _ _ _ _ _ (zipApart_new la lb),hz,fp,q⟩
noncomputable def zipDs (xs ys:List D):List D:=(xs.zip ys).map fun x=>.tup [x.1,x.2]
noncomputable def iZipM (ml:ML):MI:=fun e S=>(ml e S).bind fun ds S1=>match ds with
 | [.tup xs,.tup ys]=>.ok (viewC (zipDs xs ys)) S1
 | _=>.bad
theorem zipDs_get (xs ys:List D) (i:Nat):(zipDs xs ys)[i]?=(xs[i]?).bind fun x=>(ys[i]?).map fun y=>.tup [x,y]:=by
 unfold zipDs;rw [List.getElem?_map,List.zip_eq_zipWith,List.getElem?_zipWith]
 cases xs[i]? <;> cases ys[i]? <;> rfl
theorem gi_zip (hg:Gl X "zip") (hm:X.mg "zip" = none) (ha:GA X E [e1,e2] ml) (hs:starEach [e1,e2] X.env=[(false,eval e1 X.env),(false,eval e2 X.env)]:=by rfl) (hs2:starEach [e2] X.env=[(false,eval e2 X.env)]:=by rfl):GI X E (.Tuple elts x1 ptg) (.Call (.Name "zip" p) [e1,e2] [] pos) (iZipM ml):=
 (pi_zip hg hm ha hs hs2).imp fun σ H R ⟨ρ,l,S,hl,hs,hm⟩=>by
 refine ⟨ρ,l,S,hl,hs,hm.seq fun ds S1 hm ρ1 H1 xs l1 s1 r1=>?_⟩;split at hm
 ·rename_i xs ys
  cases r1 with
  | cons r t=>
   cases t with
   | cons r' t=>
    cases t
    cases r with
    | @tup _ a vs q1 q2=>
     cases r' with
     | @tup _ b ws q3 q4=>
      refine ⟨a,b,rfl,⟨vs,.inl (.inl q1)⟩,⟨ws,.inl (.inl q3)⟩,hm ρ1 H1 _ l1 s1 ?_⟩;intro ρ2 H2 S2 ds' i l2 s2 hv;cases hv;have ra:=q2.mono l2;have rb:=q4.mono l2;have sa:SqT X.K H2 a vs:=.inl (.inl (l2.tup _ _ q1));have sb:SqT X.K H2 b ws:=.inl (.inl (l2.tup _ _ q3));refine ⟨fun hn=>⟨vs,ws,sa,sb,?_⟩,fun d hd=>?_⟩
      ·rw [zipDs_get] at hn
       rw [←ra.length,←rb.length]
       cases hx:xs[i]? with
       | none=>exact .inl (List.getElem?_eq_none_iff.mp hx)
       | some x=>
        cases hy:ys[i]? with
        | none=>exact .inr (List.getElem?_eq_none_iff.mp hy)
        | some y=>rw [hx,hy] at hn;cases hn
      ·rw [zipDs_get] at hd
       cases hx:xs[i]? with
       | none=>rw [hx] at hd;cases hd
       | some x=>
        cases hy:ys[i]? with
        | none=>rw [hx,hy] at hd;cases hd
        | some y=>
         rw [hx,hy] at hd;cases hd;obtain ⟨v,hv,rx⟩:=ra.get hx;obtain ⟨u,hu,ry⟩:=rb.get hy;refine ⟨⟨vs,ws,v,u,sa,sb,hv,hu⟩,fun t H' ht=>?_⟩;obtain ⟨q,x',y',hq,rfl,rfl,hx',hy'⟩:=ht;have e1:=hx' vs sa;have e2:=hy' ws sb;rw [hv] at e1;rw [hu] at e2;cases e1;cases e2;obtain ⟨s4,l4⟩:=upd_tup (ho:=.tup [v,u]) s2 hq;exact ⟨ρ2,l4,s4,.tup upd_same (.cons (rx.mono l4) (.cons (ry.mono l4) .nil))⟩
 ·exact hm.elim
end
end L2
namespace HT
open PySem PySem.Spec PyProof.Rows
section
variable {prog:Program} {w:World} {A:Around} {E:Value→Shared→Prop} {s:Shared}
theorem getItem_tuple_all {t sl:Addr} {items:Array Value} {vl vu:Value} {lo hi:Option Int} {Q:Value→Shared→Prop} (ht:IsTup s.heap t items) (hs:s.heap.IsSliceOf sl vl vu .none) (pl:IsPart vl lo) (pu:IsPart vu hi)
  (hw:sIx items.size 0 lo=0∧sIx items.size items.size hi=items.size) (h:Q (.ref t) s):wpAny (model prog w) A (getItem (.ref t) (.ref sl)) Q E s:=by
 obtain ⟨os,hos,hcs,hds⟩:=id hs;have hTs:s.TypeIs (.ref sl) "slice":=⟨os,hos,hcs⟩;unfold getItem
 try with_reducible refine wpAny_holding ?_
 first | refine wpAny_bind (wpAny_pure ?_) | skip
 refine wpAny_bind (wpAny_sequenceKey ht.typeIs (by decide) (wpAny_bind (wpAny_callSpecial?_slot (name:=Str.ofString "__getitem__") ht.typeIs PyProof.Rows.slot_tuple_getitem
  (wpAny_call_entry PyProof.Rows.slot_tuple_getitem ht.typeIs entry_tuple_getitem ?_ (args_tuple_getitem _ _)))))
 show wpAny (model prog w) _ (Builtin.Tuple.tupleItemsOf (.ref t) >>= _) _ _ s;refine wpAny_bind (tupleItemsOf_ ht (wpAny_bind (wpAny_typeOf hTs ?_)));rw [if_pos (by decide)];refine wpAny_bind (sliceApplied_gen hs pl pu ?_);show wpAny (model prog w) _ (if (((sIx items.size 0 lo:Nat):Int)==0&&(1:Int)==1&&(sIx items.size items.size hi - sIx items.size 0 lo)==items.size)=true then _ else _) _ _ s;rw [hw.1,hw.2,if_pos (by simp)];unfold Builtin.Tuple.tupleIsExact;refine wpAny_bind (wpAny_bind (wpAny_typeOf ht.typeIs (wpAny_pure ?_)));rw [if_pos (by decide)];exact wpAny_bind (wpAny_rule (wpAny_bind (wpAny_pure (wpAny_pure ⟨_,rfl,wpAny_pure h⟩))))
end
end HT
namespace L2
open PySem PySem.Spec PyProof.Rows
section
variable {X:Cx}
noncomputable def rSlW (K:PySem.W.Frag):V→Option Int→Option Int→Hp→VK→Prop:=fun x lo hi H Q=>∃a xs,x=.ref a∧SqT K H a xs∧(HT.sIx xs.length 0 lo=0∧HT.sIx xs.length xs.length hi=xs.length)∧Q (.ref a) H
theorem sl_all:SlR X (rSlW X.K):=by
 intro pins s σ H x v vl vu lo hi sl Q I rx hs pl pu h;obtain ⟨a,xs,rfl,hx,hw,q⟩:=h;cases rx;obtain ⟨its,r,ht,_⟩:=I.tuple hx
 have hlen:its.toArray.size=xs.length:=by rw [List.size_toArray];exact r.length.symm
 exact ⟨"tuple",_,PyProof.Rows.slot_tuple_getitem.lookup,ht.typeIs,HT.getItem_tuple_all ht hs pl pu (by rw [hlen];exact hw) ⟨.ref a,H,I,rfl,q⟩⟩
noncomputable def sliceW (d:D) (lo hi:Option Int) (S:Sto):Res D:=match d with
 | .tup ds=>.ok (.tup (cutG ds lo hi)) S
 | _=>.bad
noncomputable def mSliceW (m:ME) (ml mh:MO):ME:=fun e S=>(m e S).bind fun d S1=>(ml e S1).bind fun lo S2=>(mh e S2).bind fun hi S3=>okR (sliceW d lo hi S3)
variable {E:EW} {e:Expr} {lo hi:Option Expr} {pos p2:Pos} {m:ME} {ml mh:MO}
theorem cut_all {α:Type} (xs:List α) (lo hi:Option Int) (h:HT.sIx xs.length 0 lo=0∧HT.sIx xs.length xs.length hi=xs.length):cutG xs lo hi=xs:=by
 unfold cutG;rw [h.1,h.2];simp
theorem ge_sliceW (he:GE X E e m) (hl:GO X E lo ml) (hu:GO X E hi mh):GE X E (.Subscript e (.Slice lo hi none p2) pos) (mSliceW m ml mh):=(pe_slice (sl_all.or sl_tup) he hl hu).imp fun σ H Q ⟨ρ,l,S,hl,hs,hm⟩=>by
 refine ⟨ρ,l,S,hl,hs,hm.seq fun d S1 hm ρ1 H1 x l1 s1 r1=>⟨ρ1,l,S1,hl.mono l1,s1,(hm.later l1).seq fun lo S2 hm ρ2 H2 l2 s2=>⟨ρ2,l,S2,hl.mono (l1.trans l2),s2,(hm.later l2).seq fun hi S3 hm ρ3 H3 l3 s3=>?_⟩⟩⟩;obtain ⟨d',S',e,k⟩:=hm.okR;have r3:=r1.mono (l2.trans l3)
 cases d with
 | tup ds=>
  cases e
  cases r3 with
  | @tup _ a vs h1 h2=>
   by_cases hw:HT.sIx vs.length 0 lo=0∧HT.sIx vs.length vs.length hi=vs.length
   ·refine .inl ⟨a,vs,rfl,.inl (.inl h1),hw,k _ _ _ (l1.trans (l2.trans l3)) s3 ?_⟩
    rw [cut_all ds lo hi (by rw [h2.length];exact hw)];exact .tup h1 h2
   ·refine .inr ⟨a,vs,rfl,.inl (.inl h1),hw,fun q hq=>?_⟩
    obtain ⟨s4,l4⟩:=upd_tup (ho:=.tup (cutV vs lo hi)) s3 hq;exact k _ _ _ (l1.trans (l2.trans (l3.trans l4))) s4 (.tup upd_same ((cutG_rel h2 lo hi).mono l4))
 | _=>cases e
end
end L2
namespace L2
open PySem PySem.Spec PyProof.Rows
noncomputable abbrev Cx.q (X:Cx):Cx:={ X with xe:=fun _ _=>False }
noncomputable def runQ (n:Nat) (mb:MS) (ds:List D) (S:Sto):Res D:=(okR (mb (startL n ds) S)).bind fun f S1=>match f with
 | .rt d=>.ok d S1
 | .nx _=>.ok .non S1
 | _=>.bad
section
variable {P:Program} {w:World} {K:PySem.W.Frag} {mg:Str→Option Value} {base:Heap}
theorem fn_mirQ {x qual:Str} {st:Stmt} {f:Addr} {fd:FuncData} {N ps:List Str} {k n:Nat} (F:Fun K x qual st f fd) (Sc:FnScope N ps (defScope st)) (hn:ps.length=n) {mb:MS}
  (hbody:∀(cdv:Value) (A:Around) (outer:List Env) (s:Shared) (H:Hp) (E:XK),Room k (A.deeper (envOfC qual (defScope st) s.heap.objs.size f cdv))→GSs (cxOf (CXG P w) P w K mg base N qual (defScope st) f cdv A outer s H E).q noE (defBody st) mb) :
  FnOk P w K mg base (CXG P w) (k+1) f fd ps (spM K n (runQ N.length mb)):=by
 obtain ⟨oc,od,kV,doc,pm,an,cdv,ct,osl,rfl,lk,hcd⟩:=F.ex
 refine fn_of lk hcd Sc (fun vs H Q E h=>by rw [hn];exact h.len) fun A outer s H vs Q E hr h=>?_
 obtain ⟨ρ,ds,S,h1,h2,h3,h4⟩:=h;have hb:=hbody cdv A outer s H E hr;refine ⟨gS K noE mb,fun pins s' σ H' D I q=>wpAny_mono (hb pins s' σ H' D (I.with _) q) (fun fl s1 z=>?_) fun e s1 z=>z.elim,ρ,_,S,startL_rel h2,h3,?_⟩
 ·cases fl with
  | next=>obtain ⟨σ',H2,J,z⟩:=z;exact ⟨σ',H2,J.without,z⟩
  | brk=>obtain ⟨σ',H2,J,z⟩:=z;exact ⟨σ',H2,J.without,z⟩
  | cont=>obtain ⟨σ',H2,J,z⟩:=z;exact ⟨σ',H2,J.without,z⟩
  | ret u=>obtain ⟨v,σ',H2,J,r,z⟩:=z;exact ⟨v,σ',H2,J.without,r,z⟩
 ·unfold runQ at h4
  cases hr:mb (startL N.length ds) S with
  | bad=>rw [hr] at h4;exact h4.elim
  | err c S'=>rw [hr] at h4;exact h4.elim
  | ok fl S'=>
   rw [hr] at h4
   cases fl with
   | nx e'=>exact fun ρ' H' σ' l s' r=>h4 ρ' H' .non l s' .non
   | rt d=>exact h4
   | bk e'=>exact h4.elim
   | ct e'=>exact h4.elim
   | ex c e'=>exact h4.elim
end
noncomputable def rIsQ (K:PySem.W.Frag) (c:V) (cv:Value):List V→Hp→VK→Prop:=fun xs H Q=>∃x t b,xs=[x,c]∧TyOf K H x t∧PySem.W.kitOne K t cv=some b∧Q (.bl b) H
section
variable {X:Cx} {E:EW} {e ce:Expr} {p pos:Pos} {m:ME} {c:V} {cv:Value} {tab:String→Option Bool}
theorem call_isQ (hv:∀u,RelV c u→u=cv):CallR X (.builtin "isinstance") (rIsQ X.K c cv):=by
 intro pins s σ H xs us Q I r h;obtain ⟨x,t,b,rfl,ty,e,q⟩:=h;obtain ⟨v,w,rfl,r1,r2⟩:=vals2 r;rw [hv w r2]
 exact isinst_ok I r1 ty e fun tk=>⟨.bl b,H,I.tok tk,rfl,q⟩
noncomputable def mIsQ (tab:String→Option Bool) (m:ME):ME:=fun e S=>(m e S).bind fun d S1=>match tyD d S1 with
  | some T=>match tab T with
   | some b=>.ok (.bl b) S1
   | none=>.bad
  | none=>.bad
theorem ge_isQ (hv:∀u,RelV c u→u=cv) (ht:∀T b,tab T=some b→PySem.W.kitOne X.K (.type T) cv=some b)
  (hg:Gl X "isinstance") (hm:X.mg "isinstance" = none) (h:GE X E e m) (hce:PE X ce (tC c))
  (he:starEach [e,ce] X.env=(false,eval e X.env) :: starEach [ce] X.env:=by rfl) (he2:starEach [ce] X.env=(false,eval ce X.env) :: starEach [] X.env:=by rfl) (hpl:(backTo pos (starEach [ce] X.env)).any (·.1)=false:=by rfl) :
  GE X E (.Call (.Name "isinstance" p) [e,ce] [] pos) (mIsQ tab m):=
 (pe_callB (call_isQ hv) hg hm PyProof.Rows.boot_isinstance (pa_cons h (pa_cons hce pa_nil he2) he) (by decide) (by decide) he hpl).imp fun σ H Q ⟨ρ,l,S,hl,hs,hm⟩=>by
 refine ⟨ρ,l,S,hl,hs,hm.seq fun d S1 hm ρ1 H1 x l1 s1 r1=>?_⟩
 cases hq:tyD d S1 with
 | none=>rw [hq] at hm;exact hm.elim
 | some T=>
  rw [hq] at hm;dsimp only at hm
  cases hb:tab T with
  | none=>rw [hb] at hm;exact hm.elim
  | some b=>
   rw [hb] at hm;exact ⟨x,_,b,rfl,tyD_ok s1 r1 hq,ht T b hb,hm ρ1 H1 _ l1 s1 (.bl _)⟩
end
end L2
namespace M
open PySem L2
theorem run_rt {n:Nat} {mb:MS} {ds:List D} {S S1:Sto} {d:D} (h:mb (startL n ds) S=.ok (.rt d) S1):runQ n mb ds S=.ok d S1:=by unfold runQ;rw [h];rfl
theorem run_nx {n:Nat} {mb:MS} {ds:List D} {S S1:Sto} {e:Lo} (h:mb (startL n ds) S=.ok (.nx e) S1):runQ n mb ds S=.ok .non S1:=by unfold runQ;rw [h];rfl
noncomputable abbrev mIs (tab:String→Option Bool) (_:Addr→Option Bool) (m:ME):ME:=mIsQ tab m
theorem is_ty {tab:String→Option Bool} {tabC:Addr→Option Bool} {m:ME} {e:Lo} {S S1:Sto} {d:D} {T:String} {b:Bool} (h:m e S=.ok d S1) (ht:tyD d S1=some T) (hb:tab T=some b):mIs tab tabC m e S=.ok (.bl b) S1:=by
 show mIsQ tab m e S=_;unfold mIsQ;rw [h];dsimp only [Res.bind];rw [ht];dsimp only;rw [hb]
end M
namespace L4
open PySem L2
inductive Cel where
 | no | fz (o:Ob) | ow (i:Nat)
noncomputable abbrev Fz:=Nat→Cel
inductive Sl where
 | u | v (d:D) | z (o:Ob) | y (o:Ob) | w (i:Nat) (o:Ob)
noncomputable def Sl.ok (S0:Sto) (F:Fz) (S:Sto):Sl→Option D→Prop
 | .u,_=>True
 | .v d,x=>x=some d
 | .z o,x=>∃n,x=some (.ref n)∧F n=.fz o
 | .y o,x=>∃n,x=some (.ref n)∧F n=.fz o∧S0.length≤n
 | .w i o,x=>∃n,x=some (.ref n)∧F n=.ow i∧S[n]?=some o
structure Vs (S0:Sto) (A:List Sl) (e:Lo) (F:Fz) (S:Sto):Prop where
 kp:Keeps S0 S
 fz:∀n o,F n=.fz o→S[n]?=some o
 ow:∀n i,F n=.ow i→S0.length≤n∧n < S.length
 hi:∀n,S.length≤n→F n=.no
 sl:∀(i:Nat) (a:Sl),A[i]?=some a→∃x,e[i]?=some x∧a.ok S0 F S x
noncomputable def Fle (F F':Fz):Prop:=∀n o,F n=.fz o→F' n=.fz o
theorem Fle.refl (F:Fz):Fle F F:=fun _ _ h=>h
theorem Fle.trans {F G H:Fz} (a:Fle F G) (b:Fle G H):Fle F H:=fun n o h=>b n o (a n o h)
noncomputable def extF (F:Fz) (S S':Sto):Fz:=fun n=>if n < S.length then F n else match S'[n]? with
 | some o=>.fz o
 | none=>.no
section
variable {S0 S S':Sto} {A B:List Sl} {e:Lo} {F:Fz} {α β γ ρ σ τ:Type}
theorem extF_old {n:Nat} (h:n < S.length):extF F S S' n=F n:=if_pos h
theorem extF_new {n:Nat} {o:Ob} (h:S.length≤n) (ho:S'[n]?=some o):extF F S S' n=.fz o:=by
 unfold extF;rw [if_neg (Nat.not_lt.mpr h),ho]
theorem lt_of_at {n:Nat} {o:Ob} (h:S[n]?=some o):n < S.length:=(List.getElem?_eq_some_iff.mp h).1
theorem Sl.mono {S0:Sto} {F F':Fz} {S S':Sto} {a:Sl} {x:Option D} (h:a.ok S0 F S x) (h1:∀n o,F n=.fz o→F' n=.fz o) (h2:∀n i o,F n=.ow i→S[n]?=some o→F' n=.ow i∧S'[n]?=some o):a.ok S0 F' S' x:=by
 cases a with
 | u=>trivial
 | v d=>exact h
 | z o=>obtain ⟨n,h3,h4⟩:=h;exact ⟨n,h3,h1 _ _ h4⟩
 | y o=>obtain ⟨n,h3,h4,h5⟩:=h;exact ⟨n,h3,h1 _ _ h4,h5⟩
 | w i o=>obtain ⟨n,h3,h4,h5⟩:=h;exact ⟨n,h3,h2 _ _ _ h4 h5⟩
theorem Vs.fle (h:Vs S0 A e F S) (S':Sto):Fle F (extF F S S'):=fun n o q=>by rw [extF_old (lt_of_at (h.fz n o q))];exact q
theorem Vs.grow (h:Vs S0 A e F S) (k:Keeps S S'):Vs S0 A e (extF F S S') S':=by
 refine ⟨h.kp.trans k,fun n o q=>?_,fun n i q=>?_,fun n hn=>?_,fun i a ha=>?_⟩
 ·unfold extF at q
  split at q
  ·rename_i hn
   rw [k.2 n hn];exact h.fz n o q
  ·cases hs:S'[n]? with
   | none=>rw [hs] at q;cases q
   | some o'=>rw [hs] at q;cases q;rfl
 ·unfold extF at q
  split at q
  ·exact ⟨(h.ow n i q).1,Nat.lt_of_lt_of_le (h.ow n i q).2 k.1⟩
  ·cases hs:S'[n]? with
   | none=>rw [hs] at q;cases q
   | some o'=>rw [hs] at q;cases q
 ·unfold extF
  rw [if_neg (Nat.not_lt.mpr (Nat.le_trans k.1 hn)),List.getElem?_eq_none hn]
 ·obtain ⟨x,h1,h2⟩:=h.sl i a ha
  exact ⟨x,h1,Sl.mono h2 (h.fle S') fun n i o q1 q2=>⟨by rw [extF_old (lt_of_at q2)];exact q1,by rw [k.2 n (lt_of_at q2)];exact q2⟩⟩
theorem Vs.cons (h:Vs S0 A e F S) {a:Sl} {x:Option D} (hx:a.ok S0 F S x):Vs S0 (a :: A) (x :: e) F S:=
 ⟨h.kp,h.fz,h.ow,h.hi,fun i b hb=>by
  cases i with
  | zero=>cases hb;exact ⟨x,rfl,hx⟩
  | succ i=>exact h.sl i b hb⟩
theorem Vs.set (h:Vs S0 A e F S) {a:Sl} {x:Option D} (i:Nat) (hx:a.ok S0 F S x):Vs S0 (A.set i a) (e.set i x) F S:=
 ⟨h.kp,h.fz,h.ow,h.hi,fun j b hb=>by
  by_cases c:i=j
  ·subst c
   rw [List.getElem?_set] at hb;rw [if_pos rfl] at hb;split at hb
   ·rename_i hl
    cases hb;obtain ⟨y,hy,_⟩:=h.sl i (A[i]) (List.getElem?_eq_getElem hl);exact ⟨x,by rw [List.getElem?_set];rw [if_pos rfl,if_pos (List.getElem?_eq_some_iff.mp hy).1],hx⟩
   ·cases hb
  ·rw [List.getElem?_set_ne c] at hb ⊢
   exact h.sl j b hb⟩
inductive Wk:List Sl→List Sl→Prop where
 | nil:Wk [] []
 | same {a:Sl} {A B:List Sl}:Wk A B→Wk (a :: A) (a :: B)
 | drop {a:Sl} {A B:List Sl}:Wk A B→Wk (a :: A) (.u :: B)
 | less {o:Ob} {A B:List Sl}:Wk A B→Wk (.y o :: A) (.z o :: B)
theorem Wk.at:∀ {A B:List Sl},Wk A B→∀(i:Nat) (b:Sl),B[i]?=some b→∃a,A[i]?=some a∧(b=.u∨b=a∨∃o,a=.y o∧b=.z o)
 | _,_,.nil,i,b,h=>by simp at h
 | _,_,.same w,0,b,h=>by cases h;exact ⟨_,rfl,.inr (.inl rfl)⟩
 | _,_,.less w,0,b,h=>by cases h;exact ⟨_,rfl,.inr (.inr ⟨_,rfl,rfl⟩)⟩
 | _,_,.less w,i+1,b,h=>Wk.at w i b h
 | _,_,.drop w,0,b,h=>by cases h;exact ⟨_,rfl,.inl rfl⟩
 | _,_,.same w,i+1,b,h=>Wk.at w i b h
 | _,_,.drop w,i+1,b,h=>Wk.at w i b h
theorem Vs.weak (h:Vs S0 A e F S) (w:Wk A B):Vs S0 B e F S:=⟨h.kp,h.fz,h.ow,h.hi,fun i b hb=>by
 obtain ⟨a,h1,h2⟩:=w.at i b hb;obtain ⟨x,h3,h4⟩:=h.sl i a h1
 rcases h2 with rfl | rfl | ⟨o,rfl,rfl⟩
 ·exact ⟨x,h3,trivial⟩
 ·exact ⟨x,h3,h4⟩
 ·obtain ⟨n,h5,h6,_⟩:=h4
  exact ⟨x,h3,n,h5,h6⟩⟩
noncomputable def Sl.oth (i:Nat):Sl→Bool
 | .w k _=>!(Nat.beq k i)
 | _=>true
theorem oth_ne {i j k:Nat} {o:Ob} (h:((A.set i .u).all (Sl.oth i))=true) (hj:j≠i) (ha:A[j]?=some (.w k o)):k≠i:=by
 have h1:(A.set i .u)[j]?=some (.w k o):=by rw [List.getElem?_set_ne (Ne.symm hj)];exact ha
 have:=List.all_eq_true.mp h _ (List.mem_of_getElem? h1);intro e;subst e;have h2:(!(Nat.beq k k))=true:=this;rw [Nat.beq_refl] at h2;cases h2
theorem Vs.put (h:Vs S0 A e F S) {i n:Nat} {o o':Ob} (ht:((A.set i .u).all (Sl.oth i))=true) (ha:A[i]?=some (.w i o)) (hx:e[i]?=some (some (.ref n))) (hn:F n=.ow i):Vs S0 (A.set i (.w i o')) e F (S.set n o'):=by
 have hl:=h.ow n i hn;refine ⟨h.kp.set hl.1 o',fun k q hq=>?_,fun k j q=>by rw [List.length_set];exact h.ow k j q,fun k hk=>h.hi k (by rw [List.length_set] at hk;exact hk),fun j b hb=>?_⟩
 ·have:n≠k:=fun c=>by subst c;rw [hn] at hq;cases hq
  rw [List.getElem?_set_ne this];exact h.fz k q hq
 ·by_cases c:i=j
  ·subst c
   rw [List.getElem?_set] at hb;rw [if_pos rfl] at hb;split at hb
   ·cases hb
    exact ⟨_,hx,n,rfl,hn,by rw [List.getElem?_set];rw [if_pos rfl,if_pos hl.2]⟩
   ·cases hb
  ·rw [List.getElem?_set_ne c] at hb
   obtain ⟨x,h1,h2⟩:=h.sl j b hb;refine ⟨x,h1,?_⟩
   cases b with
   | u=>trivial
   | v d=>exact h2
   | z q=>exact h2
   | y q=>exact h2
   | w k q=>
    obtain ⟨m,h3,h4,h5⟩:=h2;refine ⟨m,h3,h4,?_⟩
    have:n≠m:=fun z=>by
     subst z;rw [hn] at h4;cases h4;exact oth_ne ht (fun z=>c z.symm) hb rfl
    rw [List.getElem?_set_ne this];exact h5
theorem Vs.freeze (h:Vs S0 A e F S) {i:Nat} {o:Ob} (ht:((A.set i .u).all (Sl.oth i))=true) (ha:A[i]?=some (.w i o)):∃F',Vs S0 (A.set i (.y o)) e F' S∧Fle F F':=by
 obtain ⟨x,hx,n,rfl,hn,ho⟩:=h.sl i _ ha
 have g:∀k,k≠n→(if k=n then Cel.fz o else F k)=F k:=fun k hk=>if_neg hk
 have fl:Fle F (fun k=>if k=n then Cel.fz o else F k):=fun k q hq=>by
  have:k≠n:=fun c=>by subst c;rw [hn] at hq;cases hq
  show (if k=n then Cel.fz o else F k)=_;rw [if_neg this];exact hq
 refine ⟨fun k=>if k=n then .fz o else F k,⟨h.kp,fun k q hq=>?_,fun k j q=>?_,fun k hk=>?_,fun j b hb=>?_⟩,fl⟩
 ·split at hq
  ·rename_i c;cases hq;subst c;exact ho
  ·exact h.fz k q hq
 ·split at q
  ·cases q
  ·exact h.ow k j q
 ·have:k≠n:=fun c=>by subst c;exact absurd (lt_of_at ho) (Nat.not_lt.mpr hk)
  show (if k=n then Cel.fz o else F k)=_;rw [if_neg this];exact h.hi k hk
 ·by_cases c:i=j
  ·subst c
   rw [List.getElem?_set] at hb;rw [if_pos rfl] at hb;split at hb
   ·cases hb
    exact ⟨_,hx,n,rfl,if_pos rfl,(h.ow n i hn).1⟩
   ·cases hb
  ·rw [List.getElem?_set_ne c] at hb
   obtain ⟨x,h1,h2⟩:=h.sl j b hb;refine ⟨x,h1,?_⟩
   cases b with
   | u=>trivial
   | v d=>exact h2
   | z q=>obtain ⟨m,h3,h4⟩:=h2;exact ⟨m,h3,fl _ _ h4⟩
   | y q=>obtain ⟨m,h3,h4,h5⟩:=h2;exact ⟨m,h3,fl _ _ h4,h5⟩
   | w k q=>
    obtain ⟨m,h3,h4,h5⟩:=h2;refine ⟨m,h3,?_,h5⟩
    have:m≠n:=fun z=>by
     subst z;rw [hn] at h4;cases h4;exact oth_ne ht (fun z=>c z.symm) hb rfl
    show (if m=n then Cel.fz o else F m)=_;rw [if_neg this];exact h4
theorem Vs.own (h:Vs S0 A e F S) (k:Keeps S S') {i n:Nat} {o:Ob} (hn:S.length≤n) (ho:S'[n]?=some o):∃F',Vs S0 (A.set i (.w i o)) (e.set i (some (.ref n))) F' S'∧Fle F F':=by
 have g:=h.grow k;have hnl:=lt_of_at ho
 have fl:Fle F (fun j=>if j=n then Cel.ow i else extF F S S' j):=fun j q hq=>by
  have:j≠n:=fun c=>by subst c;exact absurd (lt_of_at (h.fz _ _ hq)) (Nat.not_lt.mpr hn)
  show (if j=n then Cel.ow i else _)=_;rw [if_neg this];exact h.fle S' _ _ hq
 refine ⟨fun j=>if j=n then .ow i else extF F S S' j,(Vs.set (a:=.w i o) (x:=some (.ref n)) ⟨g.kp,fun j q hq=>?_,fun j q hq=>?_,fun j hj=>?_,fun j b hb=>?_⟩ i ⟨n,rfl,if_pos rfl,ho⟩),fl⟩
 ·split at hq
  ·cases hq
  ·exact g.fz j q hq
 ·split at hq
  ·rename_i c;subst c;exact ⟨Nat.le_trans h.kp.1 hn,hnl⟩
  ·exact g.ow j q hq
 ·have:j≠n:=fun c=>by subst c;exact absurd hnl (Nat.not_lt.mpr hj)
  show (if j=n then Cel.ow i else _)=_;rw [if_neg this];exact g.hi j hj
 ·obtain ⟨x,h1,h2⟩:=h.sl j b hb
  refine ⟨x,h1,Sl.mono h2 fl fun m j q q1 q2=>?_⟩;have hm:=lt_of_at q2
  have:m≠n:=fun c=>by subst c;exact absurd hm (Nat.not_lt.mpr hn)
  refine ⟨?_,by rw [k.2 m hm];exact q2⟩;show (if m=n then Cel.ow i else _)=_;rw [if_neg this,extF_old hm];exact q1
noncomputable abbrev Rk (α:Type):=α→Sto→D→Sto→Prop
noncomputable def rV (enc:α→D):Rk α:=fun v _ d _=>d=enc v
noncomputable def rO (ob:α→Ob):Rk α:=fun v _ d S=>∃n,d=.ref n∧S[n]?=some (ob v)
noncomputable def rN (ob:α→Ob):Rk α:=fun v S0 d S=>∃n,d=.ref n∧S0.length≤n∧S[n]?=some (ob v)
noncomputable def VE (A:List Sl) (m:ME) (R:Rk α) (p:Option α):Prop:=∀v,p=some v→∀S0 e F S,Vs S0 A e F S→∃d S',m e S=.ok d S'∧Keeps S S'∧R v S d S'
noncomputable def VB (A:List Sl) (t:MT) (p:Option Bool):Prop:=∀v,p=some v→∀S0 e F S,Vs S0 A e F S→∃S',t e S=.ok v S'∧Keeps S S'
noncomputable def VL (A:List Sl) (ml:ML) (enc:α→D) (p:Option (List α)):Prop:=∀v,p=some v→∀S0 e F S,Vs S0 A e F S→∃S',ml e S=.ok (v.map enc) S'∧Keeps S S'
noncomputable def VK (A:List Sl) (mi:MI) (enc:α→D) (p:Option (List α)):Prop:=∀v,p=some v→∀S0 e F S,Vs S0 A e F S→∃w S',mi e S=.ok w S'∧Keeps S S'∧∀S'',Keeps S' S''→w S''=some (v.map enc)
noncomputable def VI (A:List Sl) (mi:MI) (enc:α→D) (p:Option (List α)):Prop:=∀v,p=some v→∀S0 e F S,Vs S0 A e F S→∃w S',mi e S=.ok w S'∧Keeps S S'∧∀F'' S'',Fle (extF F S S') F''→(∀n o,F'' n=.fz o→S''[n]?=some o)→w S''=some (v.map enc)
theorem VI.k {mi:MI} {enc:α→D} {p:Option (List α)} (h:VI A mi enc p):VK A mi enc p:=fun v hv S0 e F S hs=>by
 obtain ⟨w,S',h1,h2,h3⟩:=h v hv S0 e F S hs;have g:=hs.grow h2;exact ⟨w,S',h1,h2,fun S'' k=>h3 _ S'' (g.fle S'') (g.grow k).fz⟩
noncomputable def eT (enc:α→D) (l:List α):D:=.tup (l.map enc)
noncomputable def eP (a:α→D) (b:β→D) (x:α×β):D:=.tup [a x.1,b x.2]
noncomputable def eU (_:Unit):D:=.non
noncomputable def eF (l:List Int):D:=.fro (l.map D.int)
noncomputable def oL (enc:α→D) (l:List α):Ob:=.lst (l.map enc)
theorem ve_imp {m:ME} {R R':Rk α} {p:Option α} (h:VE A m R p) (i:∀v S d S',R v S d S'→R' v S d S'):VE A m R' p:=fun v hv S0 e F S hs=>by
 obtain ⟨d,S',h1,h2,h3⟩:=h v hv S0 e F S hs;exact ⟨d,S',h1,h2,i _ _ _ _ h3⟩
theorem ve_no {m:ME} {ob:α→Ob} {p:Option α} (h:VE A m (rN ob) p):VE A m (rO ob) p:=ve_imp h fun v S d S' ⟨n,h1,_,h2⟩=>⟨n,h1,h2⟩
theorem ve_var {enc:α→D} {v:α} {i:Nat} (h:A[i]?=some (.v (enc v))):VE A (mVar i) (rV enc) (some v):=fun _ hv S0 e F S hs=>by
 cases hv;obtain ⟨x,h1,h2⟩:=hs.sl i _ h;cases h2;exact ⟨_,S,by unfold mVar;rw [h1],Keeps.refl S,rfl⟩
theorem ve_varZ {ob:α→Ob} {v:α} {i:Nat} (h:A[i]?=some (.z (ob v))):VE A (mVar i) (rO ob) (some v):=fun _ hv S0 e F S hs=>by
 cases hv;obtain ⟨x,h1,n,rfl,h2⟩:=hs.sl i _ h;exact ⟨_,S,by unfold mVar;rw [h1],Keeps.refl S,n,rfl,hs.fz _ _ h2⟩
theorem ve_varY {ob:α→Ob} {v:α} {i:Nat} (h:A[i]?=some (.y (ob v))):VE A (mVar i) (rO ob) (some v):=fun _ hv S0 e F S hs=>by
 cases hv;obtain ⟨x,h1,n,rfl,h2,_⟩:=hs.sl i _ h;exact ⟨_,S,by unfold mVar;rw [h1],Keeps.refl S,n,rfl,hs.fz _ _ h2⟩
theorem ve_varW {ob:α→Ob} {v:α} {i k:Nat} (h:A[i]?=some (.w k (ob v))):VE A (mVar i) (rO ob) (some v):=fun _ hv S0 e F S hs=>by
 cases hv;obtain ⟨x,h1,n,rfl,h2,h3⟩:=hs.sl i _ h;exact ⟨_,S,by unfold mVar;rw [h1],Keeps.refl S,n,rfl,h3⟩
theorem ve_c {enc:α→D} {v:α} {d:D} (h:d=enc v):VE A (mC d) (rV enc) (some v):=fun _ hv S0 e F S hs=>by
 cases hv;exact ⟨d,S,rfl,Keeps.refl S,h⟩
theorem obind {p:Option α} {q:α→Option β} {v:β} (h:p.bind q=some v):∃x,p=some x∧q x=some v:=Option.bind_eq_some_iff.mp h
theorem ve_op {f:D→D→Sto→Res D} {a b:ME} {ea:α→D} {eb:β→D} {ec:γ→D} {pa:Option α} {pb:Option β} {g:α→β→Option γ} (ha:VE A a (rV ea) pa) (hb:VE A b (rV eb) pb)
  (hf:∀x y z S,g x y=some z→f (ea x) (eb y) S=.ok (ec z) S):VE A (m2 f a b) (rV ec) (pa.bind fun x=>pb.bind fun y=>g x y):=fun v hv S0 e F S hs=>by
 obtain ⟨x,h1,hv⟩:=obind hv;obtain ⟨y,h2,h3⟩:=obind hv;obtain ⟨d1,S1,q1,k1,rfl⟩:=ha x h1 S0 e F S hs;obtain ⟨d2,S2,q2,k2,rfl⟩:=hb y h2 S0 e _ S1 (hs.grow k1);exact ⟨_,S2,m2_ok q1 q2 (hf x y v S2 h3),k1.trans k2,rfl⟩
theorem ve_opO {f:D→D→Sto→Res D} {a b:ME} {ea:α→D} {ob:β→Ob} {ec:γ→D} {pa:Option α} {pb:Option β} {g:α→β→Option γ} (ha:VE A a (rV ea) pa) (hb:VE A b (rO ob) pb)
  (hf:∀x y z S (n:Nat),S[n]?=some (ob y)→g x y=some z→f (ea x) (.ref n) S=.ok (ec z) S):VE A (m2 f a b) (rV ec) (pa.bind fun x=>pb.bind fun y=>g x y):=fun v hv S0 e F S hs=>by
 obtain ⟨x,h1,hv⟩:=obind hv;obtain ⟨y,h2,h3⟩:=obind hv;obtain ⟨d1,S1,q1,k1,rfl⟩:=ha x h1 S0 e F S hs;obtain ⟨d2,S2,q2,k2,n,rfl,hn⟩:=hb y h2 S0 e _ S1 (hs.grow k1);exact ⟨_,S2,m2_ok q1 q2 (hf x y v S2 n hn h3),k1.trans k2,rfl⟩
theorem ve_Oop {f:D→D→Sto→Res D} {a b:ME} {ob:α→Ob} {eb:β→D} {ec:γ→D} {pa:Option α} {pb:Option β} {g:α→β→Option γ} (ha:VE A a (rO ob) pa) (hb:VE A b (rV eb) pb)
  (hf:∀x y z S (n:Nat),S[n]?=some (ob x)→g x y=some z→f (.ref n) (eb y) S=.ok (ec z) S):VE A (m2 f a b) (rV ec) (pa.bind fun x=>pb.bind fun y=>g x y):=fun v hv S0 e F S hs=>by
 obtain ⟨x,h1,hv⟩:=obind hv;obtain ⟨y,h2,h3⟩:=obind hv;obtain ⟨d1,S1,q1,k1,n,rfl,hn⟩:=ha x h1 S0 e F S hs;obtain ⟨d2,S2,q2,k2,rfl⟩:=hb y h2 S0 e _ S1 (hs.grow k1);exact ⟨_,S2,m2_ok q1 q2 (hf x y v S2 n (k2.at hn) h3),k1.trans k2,rfl⟩
theorem vb_B {m:ME} {p:Option Bool} (h:VE A m (rV D.bl) p):VB A (mB m) p:=fun v hv S0 e F S hs=>by
 obtain ⟨d,S',h1,h2,rfl⟩:=h v hv S0 e F S hs;exact ⟨S',B_ok h1,h2⟩
theorem vb_tru {m:ME} {p:Option Bool} (h:VE A m (rV D.bl) p):VB A (mTru m) p:=fun v hv S0 e F S hs=>by
 obtain ⟨d,S',h1,h2,rfl⟩:=h v hv S0 e F S hs;refine ⟨S',?_,h2⟩;unfold mTru;rw [h1];rfl
theorem vb_true:VB A cTrue (some true):=fun v hv S0 e F S hs=>by cases hv;exact ⟨S,rfl,Keeps.refl S⟩
theorem vb_not {t:MT} {p:Option Bool} (h:VB A t p):VB A (mNot t) (p.bind fun b=>some (!b)):=fun v hv S0 e F S hs=>by
 obtain ⟨x,h1,h2⟩:=obind hv;cases h2;obtain ⟨S',h3,h4⟩:=h x h1 S0 e F S hs;exact ⟨S',not_ok h3,h4⟩
theorem vb_and {t u:MT} {p q:Option Bool} (h:VB A t p) (hu:VB A u q):VB A (mAnd t u) (p.bind fun b=>if b=true then q else some false):=fun v hv S0 e F S hs=>by
 obtain ⟨x,h1,h2⟩:=obind hv;obtain ⟨S1,h3,h4⟩:=h x h1 S0 e F S hs
 cases x with
 | true=>
  obtain ⟨S2,h5,h6⟩:=hu v h2 S0 e _ S1 (hs.grow h4);exact ⟨S2,(and_ok1 h3).trans h5,h4.trans h6⟩
 | false=>cases h2;exact ⟨S1,and_ok2 h3,h4⟩
theorem vb_or {t u:MT} {p q:Option Bool} (h:VB A t p) (hu:VB A u q):VB A (mOr t u) (p.bind fun b=>if b=true then some true else q):=fun v hv S0 e F S hs=>by
 obtain ⟨x,h1,h2⟩:=obind hv;obtain ⟨S1,h3,h4⟩:=h x h1 S0 e F S hs
 cases x with
 | false=>
  obtain ⟨S2,h5,h6⟩:=hu v h2 S0 e _ S1 (hs.grow h4);exact ⟨S2,(or_ok2 h3).trans h5,h4.trans h6⟩
 | true=>cases h2;exact ⟨S1,or_ok1 h3,h4⟩
theorem rV_up {enc:α→D}:∀(v:α) (S S1:Sto) (d:D) (S':Sto),S.length≤S1.length→rV enc v S1 d S'→rV enc v S d S':=fun _ _ _ _ _ _ h=>h
theorem rN_up {ob:α→Ob}:∀(v:α) (S S1:Sto) (d:D) (S':Sto),S.length≤S1.length→rN ob v S1 d S'→rN ob v S d S':=fun _ _ _ _ _ l ⟨n,h1,h2,h3⟩=>⟨n,h1,Nat.le_trans l h2,h3⟩
inductive Fw (ρ σ:Type) where
 | rt (r:ρ) | nx (s:σ) | bk (s:σ) | ct (s:σ)
noncomputable def VG (S0:Sto) (F:Fz) (S':Sto) (R:Rk ρ) (B:σ→List Sl) (g:Fl):Fw ρ σ→Prop
 | .nx s=>∃e' F',g=.nx e'∧Vs S0 (B s) e' F' S'∧Fle F F'
 | .ct s=>∃e' F',g=.ct e'∧Vs S0 (B s) e' F' S'∧Fle F F'
 | .bk s=>∃e' F',g=.bk e'∧Vs S0 (B s) e' F' S'∧Fle F F'
 | .rt r=>∃d,g=.rt d∧R r S0 d S'∧Keeps S0 S'
noncomputable def VS (A:List Sl) (b:MS) (R:Rk ρ) (p:Option (Fw ρ σ)) (B:σ→List Sl):Prop:=∀f,p=some f→∀S0 e F S,Vs S0 A e F S→∃g S',b e S=.ok g S'∧VG S0 F S' R B g f
noncomputable def bindF (p:Option (Fw ρ σ)) (q:σ→Option (Fw ρ τ)):Option (Fw ρ τ):=match p with
 | some (.nx s)=>q s
 | some (.rt r)=>some (.rt r)
 | _=>none
theorem VG.up {S0:Sto} {F F1:Fz} {S':Sto} {R:Rk ρ} {B:σ→List Sl} {g:Fl} {f:Fw ρ σ} (l:Fle F F1) (h:VG S0 F1 S' R B g f):VG S0 F S' R B g f:=by
 cases f with
 | rt r=>exact h
 | nx s=>obtain ⟨e',F',h1,h2,h3⟩:=h;exact ⟨e',F',h1,h2,l.trans h3⟩
 | bk s=>obtain ⟨e',F',h1,h2,h3⟩:=h;exact ⟨e',F',h1,h2,l.trans h3⟩
 | ct s=>obtain ⟨e',F',h1,h2,h3⟩:=h;exact ⟨e',F',h1,h2,l.trans h3⟩
theorem vs_seq {a b:MS} {R:Rk ρ} {p:Option (Fw ρ σ)} {q:σ→Option (Fw ρ τ)} {B:σ→List Sl} {C:τ→List Sl} (ha:VS A a R p B) (hb:∀s,VS (B s) b R (q s) C):VS A (sSeq a b) R (bindF p q) C:=fun f hf S0 e F S hs=>by
 cases p with
 | none=>cases hf
 | some w=>
  obtain ⟨g,S1,h1,h2⟩:=ha _ rfl S0 e F S hs
  cases w with
  | nx s=>
   obtain ⟨e1,F1,rfl,h2,h3⟩:=h2;obtain ⟨g2,S2,h4,h5⟩:=hb s f hf S0 e1 F1 S1 h2;exact ⟨g2,S2,(seq_ok h1).trans h4,h5.up h3⟩
  | rt r=>
   cases hf;obtain ⟨d,rfl,h2,h3⟩:=h2;exact ⟨_,S1,seq_rt h1,d,rfl,h2,h3⟩
  | bk s=>cases hf
  | ct s=>cases hf
theorem vs_nx {R:Rk ρ} {B:σ→List Sl} {s:σ} (w:Wk A (B s)):VS A sNx R (some (.nx s)) B:=fun f hf S0 e F S hs=>by
 cases hf;exact ⟨_,S,rfl,e,F,rfl,hs.weak w,Fle.refl F⟩
noncomputable def mapF (g:σ→τ) (p:Option (Fw ρ σ)):Option (Fw ρ τ):=match p with
 | some (.nx s)=>some (.nx (g s))
 | some (.rt r)=>some (.rt r)
 | some (.bk s)=>some (.bk (g s))
 | some (.ct s)=>some (.ct (g s))
 | none=>none
theorem vs_map {b:MS} {R:Rk ρ} {p:Option (Fw ρ σ)} {g:σ→τ} {B:σ→List Sl} {C:τ→List Sl} (h:VS A b R p B) (w:∀s,Wk (B s) (C (g s))):VS A b R (mapF g p) C:=fun f hf S0 e F S hs=>by
 cases p with
 | none=>cases hf
 | some x=>
  obtain ⟨g,S1,h1,h2⟩:=h _ rfl S0 e F S hs
  cases x with
  | nx s=>cases hf;obtain ⟨e1,F1,rfl,h2,h3⟩:=h2;exact ⟨_,S1,h1,e1,F1,rfl,h2.weak (w s),h3⟩
  | rt r=>cases hf;exact ⟨_,S1,h1,h2⟩
  | bk s=>cases hf;obtain ⟨e1,F1,rfl,h2,h3⟩:=h2;exact ⟨_,S1,h1,e1,F1,rfl,h2.weak (w s),h3⟩
  | ct s=>cases hf;obtain ⟨e1,F1,rfl,h2,h3⟩:=h2;exact ⟨_,S1,h1,e1,F1,rfl,h2.weak (w s),h3⟩
theorem vs_set {m:ME} {enc:α→D} {R:Rk ρ} {p:Option α} {i:Nat} (h:VE A m (rV enc) p):VS A (sSet i m) R (p.bind fun v=>some (.nx v)) (fun v=>A.set i (.v (enc v))):=fun f hf S0 e F S hs=>by
 obtain ⟨v,h1,h2⟩:=obind hf;cases h2;obtain ⟨d,S',h3,h4,rfl⟩:=h v h1 S0 e F S hs;exact ⟨_,S',set_ok h3,_,_,rfl,(hs.grow h4).set i rfl,hs.fle S'⟩
theorem vs_setZ {m:ME} {ob:α→Ob} {R:Rk ρ} {p:Option α} {i:Nat} (h:VE A m (rN ob) p):VS A (sSet i m) R (p.bind fun v=>some (.nx v)) (fun v=>A.set i (.y (ob v))):=fun f hf S0 e F S hs=>by
 obtain ⟨v,h1,h2⟩:=obind hf;cases h2;obtain ⟨d,S',h3,h4,n,rfl,h5,h6⟩:=h v h1 S0 e F S hs;exact ⟨_,S',set_ok h3,_,_,rfl,(hs.grow h4).set (a:=.y (ob v)) i ⟨n,rfl,extF_new h5 h6,Nat.le_trans hs.kp.1 h5⟩,hs.fle S'⟩
theorem vs_setW {m:ME} {ob:α→Ob} {R:Rk ρ} {p:Option α} {i:Nat} (h:VE A m (rN ob) p):VS A (sSet i m) R (p.bind fun v=>some (.nx v)) (fun v=>A.set i (.w i (ob v))):=fun f hf S0 e F S hs=>by
 obtain ⟨v,h1,h2⟩:=obind hf;cases h2;obtain ⟨d,S',h3,h4,n,rfl,h5,h6⟩:=h v h1 S0 e F S hs;obtain ⟨F',h7,h8⟩:=hs.own h4 (i:=i) h5 h6;exact ⟨_,S',set_ok h3,_,F',rfl,h7,h8⟩
theorem vs_aliasY {o:Ob} {R:Rk ρ} {i j:Nat} (h:A[j]?=some (.y o)):VS A (sSet i (mVar j)) R (some (.nx ())) (fun _:Unit=>A.set i (.y o)):=fun f hf S0 e F S hs=>by
 cases hf;obtain ⟨x,h1,n,rfl,h2,h3⟩:=hs.sl j _ h;exact ⟨_,S,set_ok (d:=.ref n) (by unfold mVar;rw [h1]),_,F,rfl,hs.set (a:=.y o) i ⟨n,rfl,h2,h3⟩,Fle.refl F⟩
theorem vs_frz {b:MS} {R:Rk ρ} {p:Option (Fw ρ σ)} {B:σ→List Sl} {o:Ob} (i:Nat) (ha:A[i]?=some (.w i o)) (ht:((A.set i .u).all (Sl.oth i))=true) (h:VS (A.set i (.y o)) b R p B):VS A b R p B:=fun f hf S0 e F S hs=>by
 obtain ⟨F',h1,h2⟩:=hs.freeze ht ha;obtain ⟨g,S',h3,h4⟩:=h f hf S0 e F' S h1;exact ⟨g,S',h3,h4.up h2⟩
theorem vs_ret {m:ME} {enc:ρ→D} {p:Option ρ} {B:σ→List Sl} (h:VE A m (rV enc) p):VS A (sRet m) (rV enc) (p.bind fun v=>some (.rt v)) B:=fun f hf S0 e F S hs=>by
 obtain ⟨v,h1,h2⟩:=obind hf;cases h2;obtain ⟨d,S',h3,h4,rfl⟩:=h v h1 S0 e F S hs;exact ⟨_,S',ret_ok h3,_,rfl,rfl,hs.kp.trans h4⟩
theorem vs_retN {m:ME} {ob:ρ→Ob} {p:Option ρ} {B:σ→List Sl} (h:VE A m (rN ob) p):VS A (sRet m) (rN ob) (p.bind fun v=>some (.rt v)) B:=fun f hf S0 e F S hs=>by
 obtain ⟨v,h1,h2⟩:=obind hf;cases h2;obtain ⟨d,S',h3,h4,n,rfl,h5,h6⟩:=h v h1 S0 e F S hs;exact ⟨_,S',ret_ok h3,_,rfl,⟨n,rfl,Nat.le_trans hs.kp.1 h5,h6⟩,hs.kp.trans h4⟩
theorem vs_retW {i:Nat} {ob:ρ→Ob} {v:ρ} {B:σ→List Sl} {k:Nat} (h:A[i]?=some (.w k (ob v))):VS A (sRet (mVar i)) (rN ob) (some (.rt v)) B:=fun f hf S0 e F S hs=>by
 cases hf;obtain ⟨x,h1,n,rfl,h2,h3⟩:=hs.sl i _ h;exact ⟨_,S,ret_ok (d:=.ref n) (by unfold mVar;rw [h1]),_,rfl,⟨n,rfl,(hs.ow _ _ h2).1,h3⟩,hs.kp⟩
theorem vs_retY {i:Nat} {ob:ρ→Ob} {v:ρ} {B:σ→List Sl} (h:A[i]?=some (.y (ob v))):VS A (sRet (mVar i)) (rN ob) (some (.rt v)) B:=fun f hf S0 e F S hs=>by
 cases hf;obtain ⟨x,h1,n,rfl,h2,h3⟩:=hs.sl i _ h;exact ⟨_,S,ret_ok (d:=.ref n) (by unfold mVar;rw [h1]),_,rfl,⟨n,rfl,h3,hs.fz _ _ h2⟩,hs.kp⟩
theorem vs_if {t:MT} {a b:MS} {R:Rk ρ} {pt:Option Bool} {p q:Option (Fw ρ σ)} {B:σ→List Sl} (ht:VB A t pt) (ha:VS A a R p B) (hb:VS A b R q B):VS A (sIf t a b) R (pt.bind fun c=>if c=true then p else q) B:=fun f hf S0 e F S hs=>by
 obtain ⟨c,h1,h2⟩:=obind hf;obtain ⟨S1,h3,h4⟩:=ht c h1 S0 e F S hs
 cases c with
 | true=>
  obtain ⟨g,S2,h5,h6⟩:=ha f h2 S0 e _ S1 (hs.grow h4);exact ⟨g,S2,(if_ok h3).trans h5,h6.up (hs.fle S1)⟩
 | false=>
  obtain ⟨g,S2,h5,h6⟩:=hb f h2 S0 e _ S1 (hs.grow h4);exact ⟨g,S2,(if_ok h3).trans h5,h6.up (hs.fle S1)⟩
noncomputable def appO (l:List α) (x:α):Option (List α):=if l.length < 1000000 then some (l++[x]) else none
noncomputable def extO (l k:List α):Option (List α):=if l.length+k.length≤1000000 then some (l++k) else none
theorem lt24 {n:Nat} (h:n < 1000000):n < sizeLine:=Nat.lt_of_lt_of_le h (by decide)
theorem le24 {n:Nat} (h:n≤1000000):n≤sizeLine:=Nat.le_trans h (by decide)
theorem vs_app {m:ME} {enc:α→D} {R:Rk ρ} {p:Option α} {i:Nat} {l:List α} (hi:A[i]?=some (.w i (oL enc l))) (h:VE A m (rV enc) p) (ht:((A.set i .u).all (Sl.oth i))=true) :
  VS A (sExpr (mApp (mVar i) m)) R (p.bind fun v=>(appO l v).bind fun l'=>some (.nx l')) (fun l'=>A.set i (.w i (oL enc l'))):=fun f hf S0 e F S hs=>by
 obtain ⟨v,h1,h2⟩:=obind hf;obtain ⟨l',h2,h0⟩:=obind h2;cases h0;unfold appO at h2;split at h2
 ·rename_i hl
  cases h2;obtain ⟨x,g1,n,rfl,g2,g3⟩:=hs.sl i _ hi;obtain ⟨d,S',h3,h4,rfl⟩:=h v h1 S0 e F S hs;have hg:=hs.grow h4;have hx:=app_ok (mo:=mVar i) (e:=e) (S:=S) (S1:=S) (n:=n) (by unfold mVar;rw [g1]) g3 h3 (h4.at g3) (by rw [List.length_map];exact lt24 hl);rw [show l.map enc++[enc v]=(l++[v]).map enc by simp] at hx;exact ⟨_,_,expr_ok hx,e,_,rfl,hg.put ht hi g1 (by rw [extF_old (lt_of_at g3)];exact g2),hs.fle S'⟩
 ·cases h2
theorem vs_ext {m:ME} {enc:α→D} {R:Rk ρ} {p:Option (List α)} {i:Nat} {l:List α} (hi:A[i]?=some (.w i (oL enc l))) (h:VE A m (rN (oL enc)) p) (ht:((A.set i .u).all (Sl.oth i))=true) :
  VS A (sExpr (mExtend (mVar i) m)) R (p.bind fun v=>(extO l v).bind fun l'=>some (.nx l')) (fun l'=>A.set i (.w i (oL enc l'))):=fun f hf S0 e F S hs=>by
 obtain ⟨v,h1,h2⟩:=obind hf;obtain ⟨l',h2,h0⟩:=obind h2;cases h0;unfold extO at h2;split at h2
 ·rename_i hl
  cases h2;obtain ⟨x,g1,n,rfl,g2,g3⟩:=hs.sl i _ hi;obtain ⟨d,S',h3,h4,k,rfl,h5,h6⟩:=h v h1 S0 e F S hs;have hg:=hs.grow h4;have hx:=extend_ok (mo:=mVar i) (e:=e) (S:=S) (S1:=S) (n:=n) (by unfold mVar;rw [g1]) g3 h3 (h4.at g3) h6 (fun c=>by subst c;exact absurd (lt_of_at g3) (Nat.not_lt.mpr h5)) (by rw [List.length_map,List.length_map];exact le24 hl);rw [←List.map_append] at hx;exact ⟨_,_,expr_ok hx,e,_,rfl,hg.put ht hi g1 (by rw [extF_old (lt_of_at g3)];exact g2),hs.fle S'⟩
 ·cases h2
theorem vs_expr {m:ME} {Rm:Rk α} {R:Rk ρ} {p:Option α} (h:VE A m Rm p):VS A (sExpr m) R (p.bind fun _=>some (.nx ())) (fun _:Unit=>A):=fun f hf S0 e F S hs=>by
 obtain ⟨v,h1,h2⟩:=obind hf;cases h2;obtain ⟨d,S',h3,h4,_⟩:=h v h1 S0 e F S hs;exact ⟨_,S',expr_ok h3,e,_,rfl,hs.grow h4,hs.fle S'⟩
noncomputable def VT (g:MG) (enc:α→D) (t:α→List Sl→List Sl):Prop:=∀x S0 A e F S,Vs S0 A e F S→∃e',g (enc x) e S=.ok e' S∧Vs S0 (t x A) e' F S
theorem vt_name {enc:α→D} {i:Nat}:VT (tgN i) enc (fun x A=>A.set i (.v (enc x))):=fun x S0 A e F S hs=>⟨_,rfl,hs.set (a:=.v (enc x)) i rfl⟩
noncomputable def forF:List α→σ→(σ→α→Option (Fw ρ σ))→Option (Fw ρ σ)
 | [],s,_=>some (.nx s)
 | x :: l,s,q=>match q s x with
  | some (.nx s')=>forF l s' q
  | some (.ct s')=>forF l s' q
  | some (.bk s')=>some (.nx s')
  | some (.rt r)=>some (.rt r)
  | none=>none
theorem vs_forV {enc:α→D} {g:MG} {t:α→List Sl→List Sl} {b:MS} {R:Rk ρ} {q:σ→α→Option (Fw ρ σ)} {B:σ→List Sl} (hg:VT g enc t) (hb:∀s x,VS (t x (B s)) b R (q s x) B) {w:View} {S0:Sto} {F1:Fz} {full:List α}
  (hw:∀F'' S'',Fle F1 F''→(∀n o,F'' n=.fz o→S''[n]?=some o)→w S''=some (full.map enc)):∀(l:List α) (k:Nat),full.drop k=l→∀(s:σ) (f:Fw ρ σ),forF l s q=some f→∀e F S,Vs S0 (B s) e F S→Fle F1 F→∃h S',forV w g b (l.length) k e S=.ok h S'∧VG S0 F1 S' R B h f:=by
 intro l
 induction l with
 | nil=>
  intro k hk s f hf e F S hs hF;cases hf
  have:full.length≤k:=by
   have:=congrArg List.length hk;rw [List.length_drop,List.length_nil] at this;omega
  refine ⟨_,S,?_,e,F,rfl,hs,hF⟩;unfold forV;rw [hw F S hF hs.fz];dsimp only;rw [List.getElem?_eq_none (by rw [List.length_map];exact this)]
 | cons x l ih=>
  intro k hk s f hf e F S hs hF
  have hx:full[k]?=some x:=by
   have:=congrArg (fun z=>z[0]?) hk;rw [List.getElem?_drop] at this;simpa using this
  have hk':full.drop (k+1)=l:=by
   have e1:full.drop (k+1)=(full.drop k).drop 1:=by rw [List.drop_drop]
   exact e1.trans (congrArg (List.drop 1) hk)
  obtain ⟨e1,g1,g2⟩:=hg x S0 _ e F S hs
  have run:∀h S',b e1 S=.ok h S'→forV w g b ((x :: l).length) k e S=(match h with
    | .nx e2=>forV w g b l.length (k+1) e2 S'
    | .ct e2=>forV w g b l.length (k+1) e2 S'
    | .bk e2=>.ok (.nx e2) S'
    | .rt d=>.ok (.rt d) S'
    | .ex c e2=>.ok (.ex c e2) S'):=fun h S' hb'=>by
   show forV w g b (l.length+1) k e S=_
   conv=>lhs;unfold forV
   rw [hw F S hF hs.fz];dsimp only;rw [List.getElem?_map,hx];dsimp only [Option.map];rw [g1];dsimp only [Res.bind];rw [hb']
   all_goals (cases h <;> rfl)
  unfold forF at hf;split at hf
  ·rename_i s' hq
   obtain ⟨h,S1,h1,e2,F2,rfl,h2,h3⟩:=hb s x _ hq S0 e1 F S g2;rw [run _ _ h1];exact ih (k+1) hk' s' f hf e2 F2 S1 h2 (hF.trans h3)
  ·rename_i s' hq
   obtain ⟨h,S1,h1,e2,F2,rfl,h2,h3⟩:=hb s x _ hq S0 e1 F S g2;rw [run _ _ h1];exact ih (k+1) hk' s' f hf e2 F2 S1 h2 (hF.trans h3)
  ·rename_i s' hq
   cases hf;obtain ⟨h,S1,h1,e2,F2,rfl,h2,h3⟩:=hb s x _ hq S0 e1 F S g2;rw [run _ _ h1];exact ⟨_,S1,rfl,e2,F2,rfl,h2,hF.trans h3⟩
  ·rename_i r hq
   cases hf;obtain ⟨h,S1,h1,d,rfl,h2,h3⟩:=hb s x _ hq S0 e1 F S g2;rw [run _ _ h1];exact ⟨_,S1,rfl,d,rfl,h2,h3⟩
  ·cases hf
theorem vs_for {enc:α→D} {mi:MI} {g:MG} {t:α→List Sl→List Sl} {b:MS} {R:Rk ρ} {p:Option (List α)} {q:σ→α→Option (Fw ρ σ)} {B:σ→List Sl} {s0:σ} (hi:VI A mi enc p) (hg:VT g enc t) (w0:Wk A (B s0)) (hb:∀s x,VS (t x (B s)) b R (q s x) B) :
  VS A (sFor mi g b) R (p.bind fun l=>forF l s0 q) B:=fun f hf S0 e F S hs=>by
 obtain ⟨l,h1,h2⟩:=obind hf;obtain ⟨w,S1,h3,h4,h5⟩:=hi l h1 S0 e F S hs;have hg1:=hs.grow h4
 have hl:viewLen w S1=l.length:=by unfold viewLen;rw [h5 _ S1 (Fle.refl _) hg1.fz];exact List.length_map _
 obtain ⟨h,S2,h6,h7⟩:=vs_forV hg hb h5 l 0 rfl s0 f h2 e _ S1 (hg1.weak w0) (Fle.refl _);refine ⟨h,S2,?_,h7.up (hs.fle S1)⟩;rw [for_ok h3,hl];exact h6
noncomputable def compO (c:α→Option Bool) (m:α→Option β):List α→Option (List β)
 | []=>some []
 | x :: l=>(c x).bind fun b=>if b=true then (m x).bind fun y=>(compO c m l).bind fun ys=>some (y :: ys) else compO c m l
noncomputable def compG (l:List α) (c:α→Option Bool) (m:α→Option β):Option (List β):=if l.length≤1000000 then compO c m l else none
theorem vl_compV {enc:α→D} {eb:β→D} {g:MG} {P:List (Option D)→Prop} {T:α→List Sl} {c:MT} {m:ME} {pc:α→Option Bool} {pm:α→Option β}
  (hg:∀x S0 e F S pre,P pre→Vs S0 A e F S→∃pre',g (enc x) (pre++e) S=.ok (pre'++e) S∧P pre'∧Vs S0 (T x) (pre'++e) F S)
  (hc:∀x,VB (T x) c (pc x)) (hm:∀x,VE (T x) m (rV eb) (pm x)) {w:View} {S0:Sto} {e:Lo} {full:List α} {S1:Sto} (hf:full.length≤1000000) (hw:∀S'',Keeps S1 S''→w S''=some (full.map enc)) :
  ∀(l:List α) (k:Nat),full.drop k=l→∀(r:List β),compO pc pm l=some r→∀pre F S acc,P pre→Vs S0 A e F S→Keeps S1 S→acc.length≤k→∃S',compV w g c m l.length k (pre++e) S acc=.ok (acc++r.map eb) S'∧Keeps S S':=by
 intro l
 induction l with
 | nil=>
  intro k hk r hr pre F S acc hp hs hk1 ha;cases hr
  have:full.length≤k:=by
   have:=congrArg List.length hk;rw [List.length_drop,List.length_nil] at this;omega
  refine ⟨S,?_,Keeps.refl S⟩;unfold compV;rw [hw S hk1];dsimp only;rw [List.getElem?_eq_none (by rw [List.length_map];exact this),List.map_nil,List.append_nil]
 | cons x l ih=>
  intro k hk r hr pre F S acc hp hs hk1 ha
  have hx:full[k]?=some x:=by
   have:=congrArg (fun z=>z[0]?) hk;rw [List.getElem?_drop] at this;simpa using this
  have hk':full.drop (k+1)=l:=by
   have e1:full.drop (k+1)=(full.drop k).drop 1:=by rw [List.drop_drop]
   exact e1.trans (congrArg (List.drop 1) hk)
  have hkl:k < full.length:=(List.getElem?_eq_some_iff.mp hx).1;obtain ⟨pre',g1,g2,g3⟩:=hg x S0 e F S pre hp hs;unfold compO at hr;obtain ⟨b,h1,h2⟩:=obind hr;obtain ⟨S2,h3,h4⟩:=hc x b h1 S0 _ F S g3;have hs2:=hs.grow h4
  show ∃S',compV w g c m (l.length+1) k (pre++e) S acc=_∧_
  conv=>arg 1;ext S';arg 1;lhs;unfold compV
  rw [hw S hk1];dsimp only;rw [List.getElem?_map,hx];dsimp only [Option.map];rw [if_pos (Nat.lt_of_le_of_lt ha (lt24 (Nat.lt_of_lt_of_le hkl hf))),g1];dsimp only [okR,Res.bind];rw [h3];dsimp only [okR,Res.bind]
  cases b with
  | true=>
   rw [if_pos rfl] at h2 ⊢;obtain ⟨y,h5,h6⟩:=obind h2;obtain ⟨ys,h6',h7⟩:=obind h6;cases h7;obtain ⟨d,S3,h8,h9,rfl⟩:=hm x y h5 S0 _ _ S2 (g3.grow h4);rw [h8];obtain ⟨S4,q1,q2⟩:=ih (k+1) hk' ys h6' pre' _ S3 (acc++[eb y]) g2 (hs2.grow h9) (hk1.trans (h4.trans h9)) (by rw [List.length_append,List.length_singleton];omega);refine ⟨S4,?_,(h4.trans h9).trans q2⟩;show compV w g c m l.length (k+1) (pre'++e) S3 (acc++[eb y])=_;rw [q1,List.append_assoc];rfl
  | false=>
   rw [if_neg Bool.false_ne_true] at h2 ⊢;obtain ⟨S4,q1,q2⟩:=ih (k+1) hk' r h2 pre' _ S2 acc g2 hs2 (hk1.trans h4) (by omega);exact ⟨S4,q1,h4.trans q2⟩
theorem vl_comp {enc:α→D} {eb:β→D} {n:Nat} {mi:MI} {g:MG} {P:List (Option D)→Prop} {T:α→List Sl} {c:MT} {m:ME} {p:Option (List α)} {pc:α→Option Bool} {pm:α→Option β} (hi:VK A mi enc p) (h0:P (List.replicate n none))
  (hg:∀x S0 e F S pre,P pre→Vs S0 A e F S→∃pre',g (enc x) (pre++e) S=.ok (pre'++e) S∧P pre'∧Vs S0 (T x) (pre'++e) F S)
  (hc:∀x,VB (T x) c (pc x)) (hm:∀x,VE (T x) m (rV eb) (pm x)):VL A (mComp n mi g c m) eb (p.bind fun l=>compG l pc pm):=fun r hr S0 e F S hs=>by
 obtain ⟨l,h1,h2⟩:=obind hr;obtain ⟨w,S1,h3,h4,h5⟩:=hi l h1 S0 e F S hs;unfold compG at h2;split at h2
 ·rename_i hl
  have hs1:=hs.grow h4;obtain ⟨S2,h6,h7⟩:=vl_compV hg hc hm hl h5 l 0 rfl r h2 _ _ S1 [] h0 hs1 (Keeps.refl _) (Nat.le_refl _);refine ⟨S2,?_,h4.trans h7⟩;rw [comp_ok h3,show viewLen w S1=l.length by unfold viewLen;rw [h5 S1 (Keeps.refl _)];exact List.length_map _];exact h6
 ·cases h2
theorem vl_comp1 {enc:α→D} {eb:β→D} {mi:MI} {c:MT} {m:ME} {p:Option (List α)} {pc:α→Option Bool} {pm:α→Option β} (hi:VK A mi enc p) (hc:∀x,VB (.v (enc x) :: A) c (pc x)) (hm:∀x,VE (.v (enc x) :: A) m (rV eb) (pm x)) :
  VL A (mComp 1 mi (tgN 0) c m) eb (p.bind fun l=>compG l pc pm):=
 vl_comp (P:=fun pre=>∃z,pre=[z]) hi ⟨none,rfl⟩ (fun x S0 e F S pre hp hs=>by
  obtain ⟨z,rfl⟩:=hp
  exact ⟨[some (enc x)],rfl,⟨_,rfl⟩,hs.cons (a:=.v (enc x)) rfl⟩) hc hm
theorem vl_comp2 {a:α→D} {b:γ→D} {eb:β→D} {mi:MI} {c:MT} {m:ME} {p:Option (List (α×γ))} {pc:α×γ→Option Bool} {pm:α×γ→Option β} (hi:VK A mi (eP a b) p) (hc:∀x:α×γ,VB (.v (a x.1) :: .v (b x.2) :: A) c (pc x)) (hm:∀x:α×γ,VE (.v (a x.1) :: .v (b x.2) :: A) m (rV eb) (pm x)) :
  VL A (mComp 2 mi (tgTup 2 (tgCons (tgN 0) (tgCons (tgN 1) tgNil))) c m) eb (p.bind fun l=>compG l pc pm):=
 vl_comp (P:=fun pre=>∃z y,pre=[z,y]) hi ⟨none,none,rfl⟩ (fun x S0 e F S pre hp hs=>by
  obtain ⟨z,y,rfl⟩:=hp
  exact ⟨[some (a x.1),some (b x.2)],rfl,⟨_,_,rfl⟩,(hs.cons (a:=.v (b x.2)) rfl).cons (a:=.v (a x.1)) rfl⟩) hc hm
theorem ve_new {ml:ML} {enc:α→D} {p:Option (List α)} (h:VL A ml enc p):VE A (mNew ml) (rN (oL enc)) p:=fun v hv S0 e F S hs=>by
 obtain ⟨S',h1,h2⟩:=h v hv S0 e F S hs;exact ⟨_,_,new_ok h1,h2.trans (Keeps.app _ _),_,rfl,h2.1,at_new _ _⟩
inductive Ar where
 | v (d:D) | z (o:Ob)
noncomputable def Ar.ok (S:Sto):Ar→D→Prop
 | .v d,x=>x=d
 | .z o,x=>∃n,x=.ref n∧S[n]?=some o
noncomputable def Ar.sl:Ar→Sl
 | .v d=>.v d
 | .z o=>.z o
noncomputable def ArsOk (S:Sto):List Ar→List D→Prop
 | [],[]=>True
 | a :: as,d :: ds=>a.ok S d∧ArsOk S as ds
 | _,_=>False
theorem ArsOk.len {S:Sto}:∀ {as:List Ar} {ds:List D},ArsOk S as ds→ds.length=as.length
 | [],[],_=>rfl
 | _ :: as,_ :: ds,h=>by rw [List.length_cons,List.length_cons,ArsOk.len h.2]
 | [],_ :: _,h=>h.elim
 | _ :: _,[],h=>h.elim
theorem ArsOk.at {S:Sto}:∀ {as:List Ar} {ds:List D},ArsOk S as ds→∀(i:Nat) (a:Ar),as[i]?=some a→∃d,ds[i]?=some d∧a.ok S d
 | [],[],_,i,a,h=>by simp at h
 | b :: as,d :: ds,h,0,a,q=>by cases q;exact ⟨d,rfl,h.1⟩
 | b :: as,d :: ds,h,i+1,a,q=>ArsOk.at h.2 i a q
 | [],_ :: _,h,_,_,_=>h.elim
 | _ :: _,[],h,_,_,_=>h.elim
noncomputable def VF (f:List D→Sto→Res D) (as:List Ar) (R:Rk α) (p:Option α):Prop:=∀v,p=some v→∀S ds,ArsOk S as ds→∃d S',f ds S=.ok d S'∧Keeps S S'∧R v S d S'
noncomputable def VA (A:List Sl) (ml:ML) (p:Option γ) (ar:γ→List Ar):Prop:=∀v,p=some v→∀S0 e F S,Vs S0 A e F S→∃ds S',ml e S=.ok ds S'∧Keeps S S'∧ArsOk S' (ar v) ds
theorem va_nil:VA A mNil (some ()) (fun _=>[]):=fun v hv S0 e F S hs=>⟨[],S,rfl,Keeps.refl S,trivial⟩
theorem va_v {m:ME} {ml:ML} {enc:α→D} {p:Option α} {q:Option γ} {ar:γ→List Ar} (h:VE A m (rV enc) p) (hl:VA A ml q ar):VA A (mCons m ml) (p.bind fun x=>q.bind fun y=>some (x,y)) (fun z=>.v (enc z.1) :: ar z.2):=fun v hv S0 e F S hs=>by
 obtain ⟨x,h1,h2⟩:=obind hv;obtain ⟨y,h2',h3⟩:=obind h2;cases h3;obtain ⟨d,S1,h4,h5,rfl⟩:=h x h1 S0 e F S hs;obtain ⟨ds,S2,h6,h7,h8⟩:=hl y h2' S0 e _ S1 (hs.grow h5);exact ⟨_,S2,cons_ok h4 h6,h5.trans h7,rfl,h8⟩
theorem va_z {m:ME} {ml:ML} {ob:α→Ob} {p:Option α} {q:Option γ} {ar:γ→List Ar} (h:VE A m (rO ob) p) (hl:VA A ml q ar):VA A (mCons m ml) (p.bind fun x=>q.bind fun y=>some (x,y)) (fun z=>.z (ob z.1) :: ar z.2):=fun v hv S0 e F S hs=>by
 obtain ⟨x,h1,h2⟩:=obind hv;obtain ⟨y,h2',h3⟩:=obind h2;cases h3;obtain ⟨d,S1,h4,h5,n,rfl,h0⟩:=h x h1 S0 e F S hs;obtain ⟨ds,S2,h6,h7,h8⟩:=hl y h2' S0 e _ S1 (hs.grow h5);exact ⟨_,S2,cons_ok h4 h6,h5.trans h7,⟨n,rfl,h7.at h0⟩,h8⟩
theorem ve_call {f:List D→Sto→Res D} {n:Nat} {ml:ML} {p:Option γ} {ar:γ→List Ar} {R:Rk α} {q:γ→Option α} (ha:VA A ml p ar) (hf:∀z,VF f (ar z) R (q z)) (hn:∀z,(ar z).length=n) (hR:∀v S S1 d S',S.length≤S1.length→R v S1 d S'→R v S d S'):VE A (mCall n f ml) R (p.bind q):=fun v hv S0 e F S hs=>by
 obtain ⟨z,h1,h2⟩:=obind hv;obtain ⟨ds,S1,h3,h4,h5⟩:=ha z h1 S0 e F S hs;obtain ⟨d,S2,h6,h7,h8⟩:=hf z v h2 S1 ds h5;exact ⟨d,S2,(call_ok h3 (h5.len.trans (hn z))).trans h6,h4.trans h7,hR _ _ _ _ _ h4.1 h8⟩
noncomputable def allF' (S:Sto):Fz:=fun n=>match S[n]? with
 | some o=>.fz o
 | none=>.no
theorem Vs.start {as:List Ar} {ds:List D} {n:Nat} (h:ArsOk S as ds):Vs S (as.map Ar.sl++List.replicate (n - as.length) .u) (startL n ds) (allF' S) S:=by
 refine ⟨Keeps.refl S,fun n o q=>?_,fun n i q=>?_,fun n hn=>by unfold allF';rw [List.getElem?_eq_none hn],fun i a ha=>?_⟩
 ·unfold allF' at q
  split at q
  ·rename_i o' ho;cases q;exact ho
  ·cases q
 ·unfold allF' at q
  split at q <;> cases q
 ·unfold startL
  by_cases c:i < as.length
  ·rw [List.getElem?_append_left (by rw [List.length_map];exact c),List.getElem?_map] at ha
   rw [List.getElem?_append_left (by rw [List.length_map,h.len];exact c),List.getElem?_map]
   cases hq:as[i]? with
   | none=>rw [hq] at ha;cases ha
   | some b=>
    rw [hq] at ha;cases ha;obtain ⟨d,h1,h2⟩:=h.at i b hq;refine ⟨some d,by rw [h1];rfl,?_⟩
    cases b with
    | v x=>exact congrArg some h2
    | z o=>obtain ⟨m,h3,h4⟩:=h2;exact ⟨m,congrArg some h3,by unfold allF';rw [h4]⟩
  ·rw [List.getElem?_append_right (by rw [List.length_map];omega)] at ha
   rw [List.length_map,List.getElem?_replicate] at ha;split at ha
   ·rename_i hlt
    cases ha;refine ⟨none,?_,trivial⟩;rw [List.getElem?_append_right (by rw [List.length_map,h.len];omega),List.length_map,h.len,List.getElem?_replicate,if_pos hlt]
   ·cases ha
noncomputable def outF (p:Option (Fw ρ σ)):Option ρ:=match p with
 | some (.rt r)=>some r
 | _=>none
noncomputable def outU (p:Option (Fw Unit σ)):Option Unit:=match p with
 | some (.rt r)=>some ()
 | some (.nx _)=>some ()
 | _=>none
theorem vf_of {n:Nat} {b:MS} {as:List Ar} {R:Rk ρ} {p:Option (Fw ρ σ)} {B:σ→List Sl} (h:VS (as.map Ar.sl++List.replicate (n - as.length) .u) b R p B):VF (runQ n b) as R (outF p):=fun v hv S ds ha=>by
 cases p with
 | none=>cases hv
 | some x=>
  obtain ⟨g,S',h1,h2⟩:=h _ rfl S _ _ S (Vs.start ha)
  cases x with
  | rt r=>cases hv;obtain ⟨d,rfl,h2,h3⟩:=h2;exact ⟨d,S',_root_.M.run_rt h1,h3,h2⟩
  | nx s=>cases hv
  | bk s=>cases hv
  | ct s=>cases hv
theorem vf_ofU {n:Nat} {b:MS} {as:List Ar} {p:Option (Fw Unit σ)} {B:σ→List Sl} (h:VS (as.map Ar.sl++List.replicate (n - as.length) .u) b (rV eU) p B):VF (runQ n b) as (rV eU) (outU p):=fun v hv S ds ha=>by
 cases p with
 | none=>cases hv
 | some x=>
  obtain ⟨g,S',h1,h2⟩:=h _ rfl S _ _ S (Vs.start ha)
  cases x with
  | rt r=>obtain ⟨d,rfl,h2,h3⟩:=h2;exact ⟨d,S',_root_.M.run_rt h1,h3,h2⟩
  | nx s=>obtain ⟨e',F',rfl,h2,h3⟩:=h2;exact ⟨.non,S',_root_.M.run_nx h1,h2.kp,rfl⟩
  | bk s=>cases hv
  | ct s=>cases hv
end
end L4
namespace L4
open PySem L2
section
variable {S0 S S':Sto} {A B:List Sl} {e:Lo} {F:Fz} {α β γ δ ρ σ τ:Type}
section
variable {a b c:ME} {pa pb pc:Option Int}
theorem ve_add (ha:VE A a (rV D.int) pa) (hb:VE A b (rV D.int) pb):VE A (m2 addD a b) (rV D.int) (pa.bind fun x=>pb.bind fun y=>some (x+y)):=ve_op ha hb fun x y z S h=>by cases h;rfl
theorem ve_sub (ha:VE A a (rV D.int) pa) (hb:VE A b (rV D.int) pb):VE A (m2 subD a b) (rV D.int) (pa.bind fun x=>pb.bind fun y=>some (x - y)):=ve_op ha hb fun x y z S h=>by cases h;rfl
noncomputable def fdivO (x y:Int):Option Int:=if CDiv x y then some (x / y) else none
noncomputable def modO (x y:Int):Option Int:=if 0 < y then some (x % y) else none
noncomputable def powO (x y:Int):Option Int:=if CPow x y then some (x ^ y.toNat) else none
theorem ve_fdiv (ha:VE A a (rV D.int) pa) (hb:VE A b (rV D.int) pb):VE A (m2 fdivD a b) (rV D.int) (pa.bind fun x=>pb.bind fun y=>fdivO x y):=ve_op ha hb fun x y z S h=>by
 unfold fdivO at h;split at h
 ·rename_i hc;cases h;exact if_pos hc
 ·cases h
theorem ve_mod (ha:VE A a (rV D.int) pa) (hb:VE A b (rV D.int) pb):VE A (m2 modD a b) (rV D.int) (pa.bind fun x=>pb.bind fun y=>modO x y):=ve_op ha hb fun x y z S h=>by
 unfold modO at h;split at h
 ·rename_i hc;cases h;exact modD_ok hc
 ·cases h
theorem ve_pow (ha:VE A a (rV D.int) pa) (hb:VE A b (rV D.int) pb):VE A (m2 powD a b) (rV D.int) (pa.bind fun x=>pb.bind fun y=>powO x y):=ve_op ha hb fun x y z S h=>by
 unfold powO at h;split at h
 ·rename_i hc;cases h;exact if_pos hc
 ·cases h
theorem ve_fdivC {k:Int} (hk:(decide (0 < k)&&decide (k≤1000000))=true) (ha:VE A a (rV D.int) pa):VE A (m2 fdivD a (mC (.int k))) (rV D.int) (pa.bind fun x=>some (x / k)):=fun v hv S0 e F S hs=>by
 obtain ⟨x,h1,h2⟩:=obind hv;cases h2;obtain ⟨d,S',h3,h4,rfl⟩:=ha x h1 S0 e F S hs;have hk':=Bool.and_eq_true _ _▸hk;exact ⟨_,S',m2_ok h3 rfl (fdivD_ok (of_decide_eq_true hk'.1) (of_decide_eq_true hk'.2)),h4,rfl⟩
theorem ve_modC {k:Int} (hk:decide (0 < k)=true) (ha:VE A a (rV D.int) pa):VE A (m2 modD a (mC (.int k))) (rV D.int) (pa.bind fun x=>some (x % k)):=fun v hv S0 e F S hs=>by
 obtain ⟨x,h1,h2⟩:=obind hv;cases h2;obtain ⟨d,S',h3,h4,rfl⟩:=ha x h1 S0 e F S hs;exact ⟨_,S',m2_ok h3 rfl (modD_ok (of_decide_eq_true hk)),h4,rfl⟩
theorem ve_neg (ha:VE A a (rV D.int) pa):VE A (mNeg a) (rV D.int) (pa.bind fun x=>some (-x)):=fun v hv S0 e F S hs=>by
 obtain ⟨x,h1,h2⟩:=obind hv;cases h2;obtain ⟨d,S',h3,h4,rfl⟩:=ha x h1 S0 e F S hs;exact ⟨_,S',by unfold mNeg;rw [h3];rfl,h4,rfl⟩
theorem ve_lt (ha:VE A a (rV D.int) pa) (hb:VE A b (rV D.int) pb):VE A (m2 ltD a b) (rV D.bl) (pa.bind fun x=>pb.bind fun y=>some (decide (x < y))):=ve_op ha hb fun x y z S h=>by cases h;rfl
theorem ve_chain {f g:D→D→Sto→Res D} {P Q:Int→Int→Bool} (hf:∀x y S,f (.int x) (.int y) S=.ok (.bl (P x y)) S) (hg:∀x y S,g (.int x) (.int y) S=.ok (.bl (Q x y)) S) (ha:VE A a (rV D.int) pa) (hb:VE A b (rV D.int) pb) (hc:VE A c (rV D.int) pc) :
  VE A (m3 f g a b c) (rV D.bl) (pa.bind fun x=>pb.bind fun y=>if P x y=true then pc.bind fun z=>some (Q y z) else some false):=fun v hv S0 e F S hs=>by
 obtain ⟨x,h1,hv⟩:=obind hv;obtain ⟨y,h2,h3⟩:=obind hv;obtain ⟨d1,S1,q1,k1,rfl⟩:=ha x h1 S0 e F S hs;obtain ⟨d2,S2,q2,k2,rfl⟩:=hb y h2 S0 e _ S1 (hs.grow k1);have e1:=hf x y S2
 cases hp:P x y with
 | false=>
  rw [hp] at h3 e1;cases h3;exact ⟨_,S2,m3_no q1 q2 e1,k1.trans k2,rfl⟩
 | true=>
  rw [hp] at h3 e1;rw [if_pos rfl] at h3;obtain ⟨w,h4,h5⟩:=obind h3;cases h5;obtain ⟨d3,S3,q3,k3,rfl⟩:=hc w h4 S0 e _ S2 ((hs.grow k1).grow k2);exact ⟨_,S3,m3_ok q1 q2 e1 q3 (hg y w S3),(k1.trans k2).trans k3,rfl⟩
theorem ch_lt (x y:Int) (S:Sto):ltD (.int x) (.int y) S=.ok (.bl (decide (x < y))) S:=rfl
theorem ch_le (x y:Int) (S:Sto):leD (.int x) (.int y) S=.ok (.bl (decide (x≤y))) S:=rfl
theorem ve_min2 (ha:VE A a (rV D.int) pa) (hb:VE A b (rV D.int) pb):VE A (mQ min2F (mCons a (mCons b mNil))) (rV D.int) (pa.bind fun x=>pb.bind fun y=>some (if y < x then y else x)):=fun v hv S0 e F S hs=>by
 obtain ⟨x,h1,hv⟩:=obind hv;obtain ⟨y,h2,h3⟩:=obind hv;cases h3;obtain ⟨d1,S1,q1,k1,rfl⟩:=ha x h1 S0 e F S hs;obtain ⟨d2,S2,q2,k2,rfl⟩:=hb y h2 S0 e _ S1 (hs.grow k1);exact ⟨_,S2,q_ok (cons_ok q1 (cons_ok q2 rfl)) rfl,k1.trans k2,rfl⟩
theorem ve_int {pb:Option Bool} (hb:VE A b (rV D.bl) pb):VE A (mInt b) (rV D.int) (pb.bind fun x=>some (if x=true then 1 else 0)):=fun v hv S0 e F S hs=>by
 obtain ⟨x,h1,h2⟩:=obind hv;cases h2;obtain ⟨d,S',h3,h4,rfl⟩:=hb x h1 S0 e F S hs;refine ⟨_,S',?_,h4,rfl⟩;unfold mInt;rw [h3];rfl
theorem ve_orV {pa pb:Option Bool} (ha:VE A a (rV D.bl) pa) (hb:VE A b (rV D.bl) pb):VE A (mOrV a b) (rV D.bl) (pa.bind fun x=>if x=true then some true else pb):=fun v hv S0 e F S hs=>by
 obtain ⟨x,h1,h2⟩:=obind hv;obtain ⟨d,S',h3,h4,rfl⟩:=ha x h1 S0 e F S hs
 cases x with
 | false=>
  obtain ⟨d,S2,h5,h6,rfl⟩:=hb v h2 S0 e _ S' (hs.grow h4);exact ⟨_,S2,by unfold mOrV;rw [h3];exact h5,h4.trans h6,rfl⟩
 | true=>cases h2;exact ⟨_,S',by unfold mOrV;rw [h3];rfl,h4,rfl⟩
theorem ve_notV {pa:Option Bool} (ha:VE A a (rV D.bl) pa):VE A (mNotV a) (rV D.bl) (pa.bind fun x=>some (!x)):=fun v hv S0 e F S hs=>by
 obtain ⟨x,h1,h2⟩:=obind hv;cases h2;obtain ⟨d,S',h3,h4,rfl⟩:=ha x h1 S0 e F S hs;exact ⟨_,S',by unfold mNotV;rw [h3];rfl,h4,rfl⟩
end
noncomputable def EqN (n:Nat) (enc:α→D) [DecidableEq α]:Prop:=∀x y,eqP n (enc x) (enc y)=some (decide (x=y))
noncomputable def NL (enc:α→D):Prop:=∀x S,lstD (enc x) S=none
theorem eqN_int {n:Nat}:EqN n D.int:=fun x y=>by
 have:eqFlat (.int x) (.int y)=some (decide (x=y)):=rfl
 cases n <;> exact this
theorem eqN_bl {n:Nat}:EqN n D.bl:=fun x y=>by
 have:eqFlat (.bl x) (.bl y)=some (decide (x=y)):=by cases x <;> cases y <;> rfl
 cases n <;> exact this
theorem eqN_str {n:Nat}:EqN n D.str:=fun x y=>by
 have:eqFlat (.str x) (.str y)=some (decide (x=y)):=rfl
 cases n <;> exact this
theorem eqN_tup {n:Nat} {enc:α→D} [DecidableEq α] (h:EqN n enc):EqN (n+1) (eT enc):=by
 have key:∀l k:List α,eqL (eqP n) (l.map enc) (k.map enc)=some (decide (l=k)):=by
  intro l
  induction l with
  | nil=>intro k;cases k <;> rfl
  | cons x l ih=>
   intro k
   cases k with
   | nil=>rfl
   | cons y k=>
    rw [List.map_cons,List.map_cons];unfold eqL;rw [h x y,ih k]
    by_cases c:x=y <;> by_cases d:l=k <;> simp [c,d]
 exact fun l k=>key l k
theorem nl_int:NL D.int:=fun _ _=>rfl
theorem nl_bl:NL D.bl:=fun _ _=>rfl
theorem nl_str:NL D.str:=fun _ _=>rfl
theorem nl_tup {enc:α→D}:NL (eT enc):=fun _ _=>rfl
section
variable {a b:ME} {enc:α→D} [DecidableEq α] {pa pb:Option α}
theorem eqD_of (h:EqN 8 enc) (n:NL enc) (neg:Bool) (x y:α) (S:Sto):eqD neg (enc x) (enc y) S=.ok (.bl (if neg then !decide (x=y) else decide (x=y))) S:=by
 unfold eqD eqB;rw [n x S,n y S];dsimp only;rw [h x y]
theorem ve_eq (h:EqN 8 enc) (n:NL enc) (ha:VE A a (rV enc) pa) (hb:VE A b (rV enc) pb):VE A (m2 (eqD false) a b) (rV D.bl) (pa.bind fun x=>pb.bind fun y=>some (decide (x=y))):=ve_op ha hb fun x y z S q=>by cases q;exact eqD_of h n false x y S
theorem ve_ne (h:EqN 8 enc) (n:NL enc) (ha:VE A a (rV enc) pa) (hb:VE A b (rV enc) pb):VE A (m2 (eqD true) a b) (rV D.bl) (pa.bind fun x=>pb.bind fun y=>some (!decide (x=y))):=ve_op ha hb fun x y z S q=>by cases q;exact eqD_of h n true x y S
theorem anyEq_of (h:EqN 8 enc) (x:α):∀l:List α,anyEq (enc x) (l.map enc)=some (decide (x∈l))
 | []=>by simp [anyEq]
 | y :: l=>by
  rw [List.map_cons];unfold anyEq;rw [h y x,anyEq_of h x l]
  by_cases c:y=x
  ·subst c;simp
  ·have:¬x=y:=fun z=>c z.symm
   simp [c,this]
theorem inA_of (h:EqN 8 enc) (neg:Bool) (x:α) {l:List α} {d:D} {S:Sto} (hs:seqD d S=some (l.map enc)):inA neg (enc x) d S=.ok (.bl (if neg then !decide (x∈l) else decide (x∈l))) S:=by
 show orElse (inD neg (enc x) d S) _=_
 have e:inD neg (enc x) d S=.ok (.bl (if neg then !decide (x∈l) else decide (x∈l))) S:=by
  unfold inD;rw [hs];dsimp only;rw [anyEq_of h]
 rw [e];rfl
theorem ve_inT {pl:Option (List α)} (h:EqN 8 enc) (ha:VE A a (rV enc) pa) (hb:VE A b (rV (eT enc)) pl):VE A (m2 (inA false) a b) (rV D.bl) (pa.bind fun x=>pl.bind fun l=>some (decide (x∈l))):=ve_op ha hb fun x l z S q=>by cases q;exact inA_of h false x rfl
theorem ve_ninT {pl:Option (List α)} (h:EqN 8 enc) (ha:VE A a (rV enc) pa) (hb:VE A b (rV (eT enc)) pl):VE A (m2 (inA true) a b) (rV D.bl) (pa.bind fun x=>pl.bind fun l=>some (!decide (x∈l))):=ve_op ha hb fun x l z S q=>by cases q;exact inA_of h true x rfl
theorem ve_inL {pl:Option (List α)} (h:EqN 8 enc) (ha:VE A a (rV enc) pa) (hb:VE A b (rO (oL enc)) pl):VE A (m2 (inA false) a b) (rV D.bl) (pa.bind fun x=>pl.bind fun l=>some (decide (x∈l))):=ve_opO ha hb fun x l z S n hn q=>by cases q;exact inA_of h false x (seqD_ref hn)
theorem ve_ninL {pl:Option (List α)} (h:EqN 8 enc) (ha:VE A a (rV enc) pa) (hb:VE A b (rO (oL enc)) pl):VE A (m2 (inA true) a b) (rV D.bl) (pa.bind fun x=>pl.bind fun l=>some (!decide (x∈l))):=ve_opO ha hb fun x l z S n hn q=>by cases q;exact inA_of h true x (seqD_ref hn)
theorem ve_inP (h:EqN 8 enc) {pl:Option (α×α)} (ha:VE A a (rV enc) pa) (hb:VE A b (rV (eP enc enc)) pl):VE A (m2 (inA false) a b) (rV D.bl) (pa.bind fun x=>pl.bind fun l=>some (decide (x∈[l.1,l.2]))):=ve_op ha hb fun x l z S q=>by cases q;exact inA_of h false x (l:=[l.1,l.2]) rfl
end
section
variable {a b m mo:ME} {enc:α→D} {ml:ML} {pl pk:Option (List α)} {pi:Option Int}
theorem atI_map (l:List α) (i:Int) (f:α→β):atI (l.map f) i=(atI l i).map f:=by
 unfold atI;rw [List.length_map]
 cases ixN l.length i with
 | none=>rfl
 | some j=>show (l.map f)[j]?=(l[j]?).map f;rw [List.getElem?_map]
theorem ixA_of {l:List α} {d:D} {S:Sto} {i:Int} {x:α} (hs:seqD d S=some (l.map enc)) (h:atI l i=some x):ixA d (.int i) S=.ok (enc x) S:=by
 show orElse (ixD d (.int i) S) _=_
 have:ixD d (.int i) S=.ok (enc x) S:=by
  unfold ixD;rw [hs];dsimp only;rw [atI_map,h];rfl
 rw [this];rfl
theorem ve_ixT (ha:VE A a (rV (eT enc)) pl) (hb:VE A b (rV D.int) pi):VE A (m2 ixA a b) (rV enc) (pl.bind fun l=>pi.bind fun i=>atI l i):=ve_op ha hb fun l i z S q=>ixA_of rfl q
theorem ve_ixF {pl:Option (List Int)} (ha:VE A a (rV eF) pl) (hb:VE A b (rV D.int) pi):VE A (m2 ixA a b) (rV D.int) (pl.bind fun l=>pi.bind fun i=>atI l i):=ve_op ha hb fun l i z S q=>ixA_of rfl q
theorem ve_ixL (ha:VE A a (rO (oL enc)) pl) (hb:VE A b (rV D.int) pi):VE A (m2 ixA a b) (rV enc) (pl.bind fun l=>pi.bind fun i=>atI l i):=ve_Oop ha hb fun l i z S n hn q=>ixA_of (seqD_ref hn) q
theorem ve_fst {a':α→D} {b':β→D} {p:Option (α×β)} (ha:VE A a (rV (eP a' b')) p):VE A (m2 ixA a (mC (.int 0))) (rV a') (p.bind fun x=>some x.1):=fun v hv S0 e F S hs=>by
 obtain ⟨x,h1,h2⟩:=obind hv;cases h2;obtain ⟨d,S',h3,h4,rfl⟩:=ha x h1 S0 e F S hs;exact ⟨_,S',m2_ok h3 rfl (ixA_seq (ds:=[a' x.1,b' x.2]) rfl (by decide) rfl),h4,rfl⟩
theorem ve_snd {a':α→D} {b':β→D} {p:Option (α×β)} (ha:VE A a (rV (eP a' b')) p):VE A (m2 ixA a (mC (.int 1))) (rV b') (p.bind fun x=>some x.2):=fun v hv S0 e F S hs=>by
 obtain ⟨x,h1,h2⟩:=obind hv;cases h2;obtain ⟨d,S',h3,h4,rfl⟩:=ha x h1 S0 e F S hs;exact ⟨_,S',m2_ok h3 rfl (ixA_seq (ds:=[a' x.1,b' x.2]) rfl (by decide) rfl),h4,rfl⟩
theorem ve_lenT (ha:VE A a (rV (eT enc)) pl):VE A (mLen a) (rV D.int) (pl.bind fun l=>some (l.length:Int)):=fun v hv S0 e F S hs=>by
 obtain ⟨l,h1,h2⟩:=obind hv;cases h2;obtain ⟨d,S',h3,h4,rfl⟩:=ha l h1 S0 e F S hs;exact ⟨_,S',(len_ok (ds:=l.map enc) h3 rfl).trans (by rw [List.length_map]),h4,rfl⟩
theorem ve_lenF {pl:Option (List Int)} (ha:VE A a (rV eF) pl):VE A (mLen a) (rV D.int) (pl.bind fun l=>some (l.length:Int)):=fun v hv S0 e F S hs=>by
 obtain ⟨l,h1,h2⟩:=obind hv;cases h2;obtain ⟨d,S',h3,h4,rfl⟩:=ha l h1 S0 e F S hs;exact ⟨_,S',(len_ok (ds:=l.map D.int) h3 rfl).trans (by rw [List.length_map]),h4,rfl⟩
theorem ve_lenL (ha:VE A a (rO (oL enc)) pl):VE A (mLen a) (rV D.int) (pl.bind fun l=>some (l.length:Int)):=fun v hv S0 e F S hs=>by
 obtain ⟨l,h1,h2⟩:=obind hv;cases h2;obtain ⟨d,S',h3,h4,n,rfl,hn⟩:=ha l h1 S0 e F S hs;exact ⟨_,S',(len_ok (ds:=l.map enc) h3 (seqD_ref hn)).trans (by rw [List.length_map]),h4,rfl⟩
noncomputable def setO (l:List Int):Option Int:=if l.length≤4000 then some (setLen l:Int) else none
theorem intsD_of:∀ns:List Int,intsD (ns.map D.int)=some ns
 | []=>rfl
 | x :: ns=>by rw [List.map_cons];unfold intsD;rw [intsD_of ns];rfl
theorem ve_lenSet {pl:Option (List Int)} (ha:VE A a (rV (eT D.int)) pl):VE A (mLenSet a) (rV D.int) (pl.bind setO):=fun v hv S0 e F S hs=>by
 obtain ⟨l,h1,h2⟩:=obind hv;unfold setO at h2;split at h2
 ·rename_i hl
  cases h2;obtain ⟨d,S',h3,h4,rfl⟩:=ha l h1 S0 e F S hs;refine ⟨_,S',?_,h4,rfl⟩;unfold mLenSet;rw [h3];dsimp only [Res.bind];rw [show seqD (eT D.int l) S'=some (l.map D.int) from rfl];dsimp only;rw [intsD_of];exact if_pos hl
 ·cases h2
theorem ve_tupleL (ha:VE A a (rO (oL enc)) pl):VE A (mTuple a) (rV (eT enc)) pl:=fun l hv S0 e F S hs=>by
 obtain ⟨d,S',h3,h4,n,rfl,hn⟩:=ha l hv S0 e F S hs;exact ⟨_,S',tuple_ok h3 (seqD_ref hn),h4,rfl⟩
theorem vl_seqL (ha:VE A a (rO (oL enc)) pl):VL A (mSeq a) enc pl:=fun l hv S0 e F S hs=>by
 obtain ⟨d,S',h3,h4,n,rfl,hn⟩:=ha l hv S0 e F S hs;exact ⟨S',seq_q h3 (seqD_ref hn),h4⟩
theorem vl_list (h:VL A ml enc pl):VL A (mN listF ml) enc pl:=fun l hv S0 e F S hs=>by
 obtain ⟨S',h3,h4⟩:=h l hv S0 e F S hs;exact ⟨S',by unfold mN;rw [h3];rfl,h4⟩
theorem blsD_of:∀l:List Bool,blsD (l.map D.bl)=some l
 | []=>rfl
 | x :: l=>by rw [List.map_cons];unfold blsD;rw [blsD_of l];rfl
theorem ve_all {pl:Option (List Bool)} (h:VL A ml D.bl pl):VE A (mQ allF ml) (rV D.bl) (pl.bind fun l=>some (l.all id)):=fun v hv S0 e F S hs=>by
 obtain ⟨l,h1,h2⟩:=obind hv;cases h2;obtain ⟨S',h3,h4⟩:=h l h1 S0 e F S hs;refine ⟨_,S',q_ok h3 ?_,h4,rfl⟩;unfold allF blsF;rw [blsD_of]
theorem vl_nil:VL A mNil enc (some []):=fun v hv S0 e F S hs=>by cases hv;exact ⟨S,rfl,Keeps.refl S⟩
theorem vl_cons {p:Option α} (h:VE A m (rV enc) p) (hl:VL A ml enc pl):VL A (mCons m ml) enc (p.bind fun x=>pl.bind fun l=>some (x :: l)):=fun v hv S0 e F S hs=>by
 obtain ⟨x,h1,h2⟩:=obind hv;obtain ⟨l,h2',h3⟩:=obind h2;cases h3;obtain ⟨d,S1,h4,h5,rfl⟩:=h x h1 S0 e F S hs;obtain ⟨S2,h6,h7⟩:=hl l h2' S0 e _ S1 (hs.grow h5);exact ⟨S2,cons_ok h4 h6,h5.trans h7⟩
noncomputable def fewO (l:List α):Option (List α):=if l.length≤1000000 then some l else none
theorem vl_lenOk (h:VL A ml enc pl):VL A (mLenOk ml) enc (pl.bind fewO):=fun v hv S0 e F S hs=>by
 obtain ⟨l,h1,h2⟩:=obind hv;unfold fewO at h2;split at h2
 ·rename_i hl
  cases h2;obtain ⟨S',h3,h4⟩:=h _ h1 S0 e F S hs;refine ⟨S',?_,h4⟩;unfold mLenOk;rw [h3];dsimp only [Res.bind];rw [if_pos (by rw [List.length_map];exact le24 hl)]
 ·cases h2
theorem ve_tup (h:VL A ml enc pl):VE A (mTup ml) (rV (eT enc)) (pl.bind fewO):=fun v hv S0 e F S hs=>by
 obtain ⟨l,h1,h2⟩:=obind hv;unfold fewO at h2;split at h2
 ·rename_i hl
  cases h2;obtain ⟨S',h3,h4⟩:=h _ h1 S0 e F S hs;refine ⟨_,S',?_,h4,rfl⟩;unfold mTup;rw [h3];dsimp only [Res.bind];rw [if_pos (by rw [List.length_map];exact le24 hl)];rfl
 ·cases h2
theorem ve_pair {a':α→D} {b':β→D} {pa:Option α} {pb:Option β} (ha:VE A a (rV a') pa) (hb:VE A b (rV b') pb):VE A (mTup (mCons a (mCons b mNil))) (rV (eP a' b')) (pa.bind fun x=>pb.bind fun y=>some (x,y)):=fun v hv S0 e F S hs=>by
 obtain ⟨x,h1,hv⟩:=obind hv;obtain ⟨y,h2,h3⟩:=obind hv;cases h3;obtain ⟨d1,S1,q1,k1,rfl⟩:=ha x h1 S0 e F S hs;obtain ⟨d2,S2,q2,k2,rfl⟩:=hb y h2 S0 e _ S1 (hs.grow k1);exact ⟨_,S2,tup_ok (ds:=[a' x,b' y]) (cons_ok q1 (cons_ok q2 rfl)) (by simp),k1.trans k2,rfl⟩
theorem ve_catT (ha:VE A a (rV (eT enc)) pl) (hb:VE A b (rV (eT enc)) pk):VE A (m2 addD a b) (rV (eT enc)) (pl.bind fun l=>pk.bind fun k=>extO l k):=ve_op ha hb fun l k z S q=>by
 unfold extO at q;split at q
 ·rename_i hl
  cases q;unfold eT;rw [List.map_append];exact tup_add (by rw [List.length_map,List.length_map];exact le24 hl)
 ·cases q
theorem ve_catL (ha:VE A a (rO (oL enc)) pl) (hb:VE A b (rO (oL enc)) pk):VE A (m2 addD a b) (rN (oL enc)) (pl.bind fun l=>pk.bind fun k=>extO l k):=fun v hv S0 e F S hs=>by
 obtain ⟨x,h1,hv⟩:=obind hv;obtain ⟨y,h2,h3⟩:=obind hv;obtain ⟨d1,S1,q1,k1,n,rfl,hn⟩:=ha x h1 S0 e F S hs;obtain ⟨d2,S2,q2,k2,m,rfl,hm⟩:=hb y h2 S0 e _ S1 (hs.grow k1);unfold extO at h3;split at h3
 ·rename_i hl
  cases h3;refine ⟨_,_,m2_ok q1 q2 (d:=.ref S2.length) (S3:=S2++[oL enc (x++y)]) ?_,(k1.trans k2).trans (Keeps.app _ _),_,rfl,(k1.trans k2).1,at_new _ _⟩;unfold addD;dsimp only;rw [k2.at hn,hm];unfold oL;dsimp only;rw [if_pos (by rw [List.length_map,List.length_map];exact le24 hl),List.map_append]
 ·cases h3
noncomputable def VO (A:List Sl) (mo:MO) (p:Option (Option Int)):Prop:=∀v,p=some v→∀S0 e F S,Vs S0 A e F S→∃S',mo e S=.ok v S'∧Keeps S S'
theorem vo_none:VO A oNone (some none):=fun v hv S0 e F S hs=>by cases hv;exact ⟨S,rfl,Keeps.refl S⟩
theorem vo_some {pi:Option Int} (h:VE A m (rV D.int) pi):VO A (oSome m) (pi.bind fun i=>some (some i)):=fun v hv S0 e F S hs=>by
 obtain ⟨x,h1,h2⟩:=obind hv;cases h2;obtain ⟨d,S',h3,h4,rfl⟩:=h x h1 S0 e F S hs;exact ⟨S',by unfold oSome;rw [h3];rfl,h4⟩
theorem cut_map' (l:List α) (f:α→β) (lo hi:Option Int):cutG (l.map f) lo hi=(cutG l lo hi).map f:=by
 unfold cutG;rw [List.length_map,←List.map_drop,←List.map_take]
theorem ve_cutT {mlo mhi:MO} {po ph:Option (Option Int)} (ha:VE A a (rV (eT enc)) pl) (hl:VO A mlo po) (hh:VO A mhi ph):VE A (mSliceW a mlo mhi) (rV (eT enc)) (pl.bind fun l=>po.bind fun x=>ph.bind fun y=>some (cutG l x y)):=fun v hv S0 e F S hs=>by
 obtain ⟨l,h1,hv⟩:=obind hv;obtain ⟨x,h2,hv⟩:=obind hv;obtain ⟨y,h3,h4⟩:=obind hv;cases h4;obtain ⟨d1,S1,q1,k1,rfl⟩:=ha l h1 S0 e F S hs;obtain ⟨S2,q2,k2⟩:=hl x h2 S0 e _ S1 (hs.grow k1);obtain ⟨S3,q3,k3⟩:=hh y h3 S0 e _ S2 ((hs.grow k1).grow k2);refine ⟨_,S3,?_,(k1.trans k2).trans k3,rfl⟩;unfold mSliceW;rw [q1];dsimp only [Res.bind];rw [q2];dsimp only;rw [q3];show Res.ok (D.tup (cutG (l.map enc) x y)) S3=_;rw [cut_map'];rfl
theorem ve_cutL {mlo mhi:MO} {po ph:Option (Option Int)} (ha:VE A a (rO (oL enc)) pl) (hl:VO A mlo po) (hh:VO A mhi ph):VE A (mSlice a mlo mhi) (rN (oL enc)) (pl.bind fun l=>po.bind fun x=>ph.bind fun y=>some (cutG l x y)):=fun v hv S0 e F S hs=>by
 obtain ⟨l,h1,hv⟩:=obind hv;obtain ⟨x,h2,hv⟩:=obind hv;obtain ⟨y,h3,h4⟩:=obind hv;cases h4;obtain ⟨d1,S1,q1,k1,n,rfl,hn⟩:=ha l h1 S0 e F S hs;obtain ⟨S2,q2,k2⟩:=hl x h2 S0 e _ S1 (hs.grow k1);obtain ⟨S3,q3,k3⟩:=hh y h3 S0 e _ S2 ((hs.grow k1).grow k2);refine ⟨.ref S3.length,S3++[oL enc (cutG l x y)],?_,((k1.trans k2).trans k3).trans (Keeps.app _ _),_,rfl,((k1.trans k2).trans k3).1,at_new _ _⟩;unfold mSlice;rw [q1];dsimp only [Res.bind];rw [q2];dsimp only;rw [q3];dsimp only;unfold sliceD;dsimp only;rw [lstD_ref ((k2.trans k3).at hn)];show Res.ok _ (S3++[Ob.lst (cutG (l.map enc) x y)])=_;rw [cut_map'];rfl
theorem ve_sortZ {pl:Option (List Int)} (ha:VE A a (rO (oL D.int)) pl):VE A (mSorted a) (rN (oL D.int)) (pl.bind fun l=>some (sortZ l)):=fun v hv S0 e F S hs=>by
 obtain ⟨l,h1,h2⟩:=obind hv;cases h2;obtain ⟨d,S',h3,h4,n,rfl,hn⟩:=ha l h1 S0 e F S hs;refine ⟨_,_,sorted_ok h3 (itemsS_ref hn) (es:=(sortZ l).map D.int) ?_,h4.trans (Keeps.app _ _),_,rfl,h4.1,at_new _ _⟩;unfold sortD;rw [intsD_of]
noncomputable def sortRO (l:List (List Int)):Option (List (List Int)):=if l.all (fun r=>!r.isEmpty)=true then some (sortR l) else none
theorem rowsD_of:∀rs:List (List Int),rs.all (fun r=>!r.isEmpty)=true→rowsD (rs.map rowD)=some rs
 | [],_=>rfl
 | [] :: rs,h=>by simp at h
 | (x :: r) :: rs,h=>by
  rw [List.all_cons,Bool.and_eq_true] at h;show rowsD (.tup ((x :: r).map D.int) :: rs.map rowD)=_;unfold rowsD;rw [intsD_of,rowsD_of rs h.2]
theorem ve_sortR {pl:Option (List (List Int))} (ha:VE A a (rO (oL (eT D.int))) pl):VE A (mSorted a) (rN (oL (eT D.int))) (pl.bind sortRO):=fun v hv S0 e F S hs=>by
 obtain ⟨l,h1,h2⟩:=obind hv;obtain ⟨d,S',h3,h4,n,rfl,hn⟩:=ha l h1 S0 e F S hs;unfold sortRO at h2;split at h2
 ·rename_i hl
  cases h2;refine ⟨_,_,sorted_ok h3 (itemsS_ref hn) (es:=(sortR l).map rowD) ?_,h4.trans (Keeps.app _ _),_,rfl,h4.1,at_new _ _⟩
  cases l with
  | nil=>show some ((sortZ []).map D.int)=some ((sortR []).map rowD);rw [sortZ_nil];unfold sortR;rw [List.mergeSort_nil];rfl
  | cons x l=>
   unfold sortD;rw [show intsD (List.map (eT D.int) (x :: l))=none from rfl,show rowsD (List.map (eT D.int) (x :: l))=some (x :: l) from rowsD_of _ hl]
 ·cases h2
theorem vi_tup (ha:VE A a (rV (eT enc)) pl):VI A (iSeq a) enc pl:=fun l hv S0 e F S hs=>by
 obtain ⟨d,S',h3,h4,rfl⟩:=ha l hv S0 e F S hs;exact ⟨_,S',iSeq_tup (xs:=l.map enc) h3,h4,fun _ _ _ _=>rfl⟩
theorem vi_new (ha:VE A a (rN (oL enc)) pl):VI A (iSeq a) enc pl:=fun l hv S0 e F S hs=>by
 obtain ⟨d,S',h3,h4,n,rfl,h5,h6⟩:=ha l hv S0 e F S hs;exact ⟨_,S',iSeq_ref h3 h6,h4,fun F2 S2 hF h=>viewS_ref (h n _ (hF _ _ (extF_new h5 h6)))⟩
theorem vi_var {i:Nat} {l:List α} (h:A[i]?=some (.z (oL enc l))):VI A (iSeq (mVar i)) enc (some l):=fun _ hv S0 e F S hs=>by
 cases hv;obtain ⟨x,h1,n,rfl,h2⟩:=hs.sl i _ h;have hn:=hs.fz _ _ h2;exact ⟨_,S,iSeq_ref (n:=n) (by unfold mVar;rw [h1]) hn,Keeps.refl S,fun F2 S2 hF h=>viewS_ref (h n _ (hF _ _ (by rw [extF_old (lt_of_at hn)];exact h2)))⟩
theorem vi_varY {i:Nat} {l:List α} (h:A[i]?=some (.y (oL enc l))):VI A (iSeq (mVar i)) enc (some l):=fun _ hv S0 e F S hs=>by
 cases hv;obtain ⟨x,h1,n,rfl,h2,_⟩:=hs.sl i _ h;have hn:=hs.fz _ _ h2;exact ⟨_,S,iSeq_ref (n:=n) (by unfold mVar;rw [h1]) hn,Keeps.refl S,fun F2 S2 hF h=>viewS_ref (h n _ (hF _ _ (by rw [extF_old (lt_of_at hn)];exact h2)))⟩
noncomputable def rngZ (lo:Int) (n:Nat):List Int:=(List.range n).map fun i:Nat=>lo+i
noncomputable def rng1 (j:Int):Option (List Int):=if -1000000≤j∧j≤1000000 then some (rngZ 0 j.toNat) else none
noncomputable def rng2 (i j:Int):Option (List Int):=if -1000000≤i∧i≤1000000∧-1000000≤j∧j≤1000000 then some (rngZ i (j - i).toNat) else none
theorem rngZ_D (lo:Int) (n:Nat):rngDs lo n=(rngZ lo n).map D.int:=by
 unfold rngDs rngZ;rw [List.map_map];rfl
theorem vi_range1 (ha:VE A a (rV D.int) pi):VI A (iR1 (mCons a mNil)) D.int (pi.bind rng1):=fun l hv S0 e F S hs=>by
 obtain ⟨j,h1,h2⟩:=obind hv;obtain ⟨d,S',h3,h4,rfl⟩:=ha j h1 S0 e F S hs;unfold rng1 at h2;split at h2
 ·rename_i hj
  cases h2;exact ⟨_,S',iR1_ok (j:=j) (cons_ok h3 rfl) hj.1 hj.2,h4,fun _ _ _ _=>congrArg some (rngZ_D _ _)⟩
 ·cases h2
theorem vi_range2 {pj:Option Int} (ha:VE A a (rV D.int) pi) (hb:VE A b (rV D.int) pj):VI A (iR2 (mCons a (mCons b mNil))) D.int (pi.bind fun i=>pj.bind fun j=>rng2 i j):=fun l hv S0 e F S hs=>by
 obtain ⟨i,h1,hv⟩:=obind hv;obtain ⟨j,h0,h2⟩:=obind hv;obtain ⟨d,S1,h3,h4,rfl⟩:=ha i h1 S0 e F S hs;obtain ⟨d,S2,h5,h6,rfl⟩:=hb j h0 S0 e _ S1 (hs.grow h4);unfold rng2 at h2;split at h2
 ·rename_i hj
  cases h2;exact ⟨_,S2,iR2_ok (i:=i) (j:=j) (cons_ok h3 (cons_ok h5 rfl)) hj.1 hj.2.1 hj.2.2.1 hj.2.2.2,h4.trans h6,fun _ _ _ _=>congrArg some (rngZ_D _ _)⟩
 ·cases h2
theorem vi_zip {e2:β→D} {pk:Option (List β)} (ha:VE A a (rV (eT enc)) pl) (hb:VE A b (rV (eT e2)) pk):VI A (iZipM (mCons a (mCons b mNil))) (eP enc e2) (pl.bind fun l=>pk.bind fun k=>some (l.zip k)):=fun v hv S0 e F S hs=>by
 obtain ⟨l,h1,hv⟩:=obind hv;obtain ⟨k,h0,h2⟩:=obind hv;cases h2;obtain ⟨d,S1,h3,h4,rfl⟩:=ha l h1 S0 e F S hs;obtain ⟨d,S2,h5,h6,rfl⟩:=hb k h0 S0 e _ S1 (hs.grow h4);refine ⟨viewC (zipDs (l.map enc) (k.map e2)),S2,?_,h4.trans h6,fun F2 S3 hF h=>?_⟩
 ·unfold iZipM
  rw [cons_ok h3 (cons_ok h5 rfl)];rfl
 ·show some (zipDs _ _)=_
  unfold zipDs;rw [List.zip_map,List.map_map];rfl
theorem vk_rev (ha:VE A a (rO (oL enc)) pl):VK A (iRevM a) enc (pl.bind fun l=>some l.reverse):=fun v hv S0 e F S hs=>by
 obtain ⟨l,h1,h2⟩:=obind hv;cases h2;obtain ⟨d,S',h3,h4,n,rfl,hn⟩:=ha l h1 S0 e F S hs;refine ⟨viewR (.ref n) (l.map enc).length,S',?_,h4,fun S2 k=>?_⟩
 ·unfold iRevM
  rw [h3];dsimp only [Res.bind];rw [lstD_ref hn]
 ·unfold viewR
  rw [lstD_ref (k.at hn)];dsimp only;rw [if_pos rfl,List.map_reverse]
theorem ve_is {t T:String} {r:Bool} {p:Option α} (ha:VE A a (rV enc) p) (ht:∀x S,tyD (enc x) S=some T) (hb:isB t T=some r):VE A (_root_.M.mIs (isB t) (fun _=>none) a) (rV D.bl) (p.bind fun _=>some r):=fun v hv S0 e F S hs=>by
 obtain ⟨x,h1,h2⟩:=obind hv;cases h2;obtain ⟨d,S',h3,h4,rfl⟩:=ha x h1 S0 e F S hs;exact ⟨_,S',_root_.M.is_ty h3 (ht x S') hb,h4,rfl⟩
end
end
end L4
namespace L4
open PySem L2
section
variable {S0 S S':Sto} {A B:List Sl} {e:Lo} {F:Fz} {α β γ δ ρ σ τ κ κ':Type}
noncomputable def kP (x:Int×Int):List Key:=[Sum.inl x.1,Sum.inl x.2]
noncomputable def oDP (enc:α→D) (l:List ((Int×Int)×α)):Ob:=.dT (l.map fun x=>(kP x.1,enc x.2))
theorem valG_map [DecidableEq κ] [DecidableEq κ'] {kk:κ→κ'} (hk:∀x y,kk x=kk y→x=y) (f:α→β) (l:List (κ×α)) (k:κ):valG (l.map fun x=>(kk x.1,f x.2)) (kk k)=(valG l k).map f:=by
 unfold valG
 induction l with
 | nil=>rfl
 | cons x l ih=>
  rw [List.map_cons,List.find?_cons,List.find?_cons]
  by_cases c:x.1=k
  ·rw [decide_eq_true c,decide_eq_true (show kk x.1=kk k by rw [c])]
   rfl
  ·rw [decide_eq_false c,decide_eq_false fun z=>c (hk _ _ z)]
   exact ih
theorem putG_map [DecidableEq κ] [DecidableEq κ'] {kk:κ→κ'} (hk:∀x y,kk x=kk y→x=y) (f:α→β) (l:List (κ×α)) (k:κ) (v:α):putG (l.map fun x=>(kk x.1,f x.2)) (kk k) (f v)=(putG l k v).map fun x=>(kk x.1,f x.2):=by
 have any:((l.map fun x=>(kk x.1,f x.2)).any fun kv=>decide (kv.1=kk k))=l.any fun kv=>decide (kv.1=k):=by
  rw [List.any_map]
  congr 1
  funext x
  exact decide_eq_decide.mpr ⟨hk _ _,fun z=>congrArg kk z⟩
 unfold putG;rw [any];split
 ·rw [List.map_map,List.map_map]
  refine List.map_congr_left fun x _=>?_
  show (if kk x.1=kk k then (kk x.1,f v) else (kk x.1,f x.2))=_
  by_cases c:x.1=k
  ·show _=(fun x:κ×α=>(kk x.1,f x.2)) (if x.1=k then (x.1,v) else x)
   rw [if_pos c,if_pos (show kk x.1=kk k by rw [c])]
  ·show _=(fun x:κ×α=>(kk x.1,f x.2)) (if x.1=k then (x.1,v) else x)
   rw [if_neg c,if_neg fun z=>c (hk _ _ z)]
 ·rw [List.map_append]
  rfl
theorem kP_inj (x y:Int×Int) (h:kP x=kP y):x=y:=by
 obtain ⟨a,b⟩:=x;obtain ⟨c,d⟩:=y;unfold kP at h;cases h;rfl
theorem dGetP {enc:α→D} {l:List ((Int×Int)×α)} {n:Nat} {S:Sto} (h:S[n]?=some (oDP enc l)) (k:Int×Int):dGet (.ref n) (eP D.int D.int k) S=some ((valG l k).map enc):=by
 unfold dGet;dsimp only;rw [h];show some (valG _ (kP k))=_;rw [valG_map kP_inj]
theorem din_of {n:Nat} {y:D} {S:Sto} {o:Option D} (hq:seqD (.ref n) S=none) (h:dGet (.ref n) y S=some o) (neg:Bool):inA neg y (.ref n) S=.ok (.bl (if neg then !o.isSome else o.isSome)) S:=by
 show orElse (inD neg y (.ref n) S) (dinD neg y (.ref n) S)=_;rw [show inD neg y (.ref n) S=.bad by unfold inD;rw [hq]];show dinD neg y (.ref n) S=_;unfold dinD;rw [h]
theorem dix_of {n:Nat} {y:D} {S:Sto} {d:D} (hq:seqD (.ref n) S=none) (h:dGet (.ref n) y S=some (some d)):ixA (.ref n) y S=.ok d S:=by
 show orElse (ixD (.ref n) y S) (dgetD (.ref n) y S)=_;rw [show ixD (.ref n) y S=.bad by unfold ixD;rw [hq]];show dgetD (.ref n) y S=_;unfold dgetD;rw [h]
theorem seqP {enc:α→D} {l:List ((Int×Int)×α)} {n:Nat} {S:Sto} (h:S[n]?=some (oDP enc l)):seqD (.ref n) S=none:=by unfold seqD;dsimp only;rw [h];rfl
section
variable {a b m:ME} {enc:α→D}
theorem ve_dictP:VE A mDNewT (rN (oDP enc)) (some []):=fun v hv S0 e F S hs=>by cases hv;exact ⟨_,_,rfl,Keeps.app _ _,_,rfl,Nat.le_refl _,at_new _ _⟩
theorem ve_dinP {pk:Option (Int×Int)} {pl:Option (List ((Int×Int)×α))} (ha:VE A a (rV (eP D.int D.int)) pk) (hb:VE A b (rO (oDP enc)) pl):VE A (m2 (inA false) a b) (rV D.bl) (pk.bind fun x=>pl.bind fun l=>some (valG l x).isSome):=ve_opO ha hb fun x l z S n hn q=>by cases q;rw [din_of (seqP hn) (dGetP hn x)];simp
theorem ve_dninP {pk:Option (Int×Int)} {pl:Option (List ((Int×Int)×α))} (ha:VE A a (rV (eP D.int D.int)) pk) (hb:VE A b (rO (oDP enc)) pl):VE A (m2 (inA true) a b) (rV D.bl) (pk.bind fun x=>pl.bind fun l=>some (!(valG l x).isSome)):=ve_opO ha hb fun x l z S n hn q=>by cases q;rw [din_of (seqP hn) (dGetP hn x)];simp
theorem ve_dgetP {pk:Option (Int×Int)} {pl:Option (List ((Int×Int)×α))} (ha:VE A a (rO (oDP enc)) pl) (hb:VE A b (rV (eP D.int D.int)) pk):VE A (m2 ixA a b) (rV enc) (pl.bind fun l=>pk.bind fun x=>valG l x):=ve_Oop ha hb fun l x z S n hn q=>dix_of (seqP hn) (by rw [dGetP hn x,q];rfl)
noncomputable def putO [DecidableEq κ] (l:List (κ×α)) (k:κ) (v:α):Option (List (κ×α)):=if l.length < 1000000 then some (putG l k v) else none
theorem vs_dput {ek:κ→D} [DecidableEq κ] {ob:List (κ×α)→Ob} {R:Rk ρ} {p:Option α} {pk:Option κ} {i:Nat} {l:List (κ×α)}
  (hput:∀(l:List (κ×α)) (k:κ) (v:α) (S:Sto) (n:Nat),S[n]?=some (ob l)→l.length < 1000000→dPut (.ref n) (ek k) (enc v) S=some (S.set n (ob (putG l k v))))
  (hi:A[i]?=some (.w i (ob l))) (hk:VE A b (rV ek) pk) (h:VE A m (rV enc) p) (ht:((A.set i .u).all (Sl.oth i))=true) :
  VS A (sDPutM (mVar i) b m) R (p.bind fun v=>pk.bind fun k=>(putO l k v).bind fun l'=>some (.nx l')) (fun l'=>A.set i (.w i (ob l'))):=fun f hf S0 e F S hs=>by
 obtain ⟨v,h1,h2⟩:=obind hf;obtain ⟨k,h2',h3⟩:=obind h2;obtain ⟨l',h4,h0⟩:=obind h3;cases h0;unfold putO at h4;split at h4
 ·rename_i hl
  cases h4;obtain ⟨x,g1,n,rfl,g2,g3⟩:=hs.sl i _ hi;obtain ⟨d,S1,h5,h6,rfl⟩:=h v h1 S0 e F S hs;obtain ⟨d,S2,h7,h8,rfl⟩:=hk k h2' S0 e _ S1 (hs.grow h6);have hg:=(hs.grow h6).grow h8;have hn:=(h6.trans h8).at g3
  have hx:sDPutM (mVar i) b m e S=.ok (.nx e) (S2.set n (ob (putG l k v))):=by
   unfold sDPutM;rw [h5];dsimp only [Res.lift];rw [show mVar i e S1=.ok (.ref n) S1 by unfold mVar;rw [g1]];dsimp only;rw [h7];dsimp only;rw [hput l k v S2 n hn hl]
  have hF:extF (extF F S S1) S1 S2 n=.ow i:=by rw [extF_old (lt_of_at (h6.at g3)),extF_old (lt_of_at g3)];exact g2
  exact ⟨_,_,hx,e,_,rfl,hg.put ht hi g1 hF,(hs.fle S1).trans ((hs.grow h6).fle S2)⟩
 ·cases h4
theorem vs_dputP {R:Rk ρ} {p:Option α} {pk:Option (Int×Int)} {i:Nat} {l:List ((Int×Int)×α)} (hi:A[i]?=some (.w i (oDP enc l))) (hk:VE A b (rV (eP D.int D.int)) pk) (h:VE A m (rV enc) p) (ht:((A.set i .u).all (Sl.oth i))=true) :
  VS A (sDPutM (mVar i) b m) R (p.bind fun v=>pk.bind fun k=>(putO l k v).bind fun l'=>some (.nx l')) (fun l'=>A.set i (.w i (oDP enc l'))):=
 vs_dput (fun l k v S n hn hl=>by
  unfold dPut;dsimp only;rw [hn];show (if (l.map _).length < sizeLine then some (S.set n (.dT (putG (l.map fun x=>(kP x.1,enc x.2)) (kP k) (enc v)))) else none)=_;rw [if_pos (by rw [List.length_map];exact lt24 hl),putG_map kP_inj]
  rfl) hi hk h ht
theorem vs_bad {b:MS} {R:Rk ρ} {B:σ→List Sl}:VS A b R none B:=fun f hf=>by cases hf
end
end
end L4
namespace L4
open PySem L2
section
variable {α β γ ρ σ τ:Type}
theorem bindF_nx {s:σ} {q:σ→Option (Fw ρ τ)}:bindF (some (.nx s)) q=q s:=rfl
theorem bindF_rt {r:ρ} {q:σ→Option (Fw ρ τ)}:bindF (some (.rt r)) q=some (.rt r):=rfl
theorem outF_rt {r:ρ}:outF (some (.rt r:Fw ρ σ))=some r:=rfl
theorem outU_nx {s:σ}:outU (some (.nx s))=some ():=rfl
theorem forF_go {l:List α} {q:σ→α→Option (Fw ρ σ)} {s0:σ} (I:List α→σ→Prop) (h0:I [] s0) (h:∀pre x s,x∈l→pre++[x] <+: l→I pre s→∃s',q s x=some (.nx s')∧I (pre++[x]) s'):∃s,forF l s0 q=some (.nx s)∧I l s:=by
 have key:∀(r pre:List α) (s:σ),l=pre++r→I pre s→∃s',forF r s q=some (.nx s')∧I l s':=by
  intro r
  induction r with
  | nil=>intro pre s e hI;rw [List.append_nil] at e;subst e;exact ⟨s,rfl,hI⟩
  | cons x r ih=>
   intro pre s e hI;obtain ⟨s',h1,h2⟩:=h pre x s (by rw [e];simp) ⟨r,by rw [e];simp⟩ hI;obtain ⟨s2,h3,h4⟩:=ih (pre++[x]) s' (by rw [e];simp) h2;refine ⟨s2,?_,h4⟩;unfold forF;rw [h1];exact h3
 exact key l [] s0 rfl h0
theorem forF_ret {l:List α} {q:σ→α→Option (Fw ρ σ)} {s0:σ} (I:List α→σ→Prop) (R:ρ→Prop) (h0:I [] s0) (h:∀pre x s,x∈l→pre++[x] <+: l→I pre s→(∃s',q s x=some (.nx s')∧I (pre++[x]) s')∨∃r,q s x=some (.rt r)∧R r):(∃s,forF l s0 q=some (.nx s)∧I l s)∨∃r,forF l s0 q=some (.rt r)∧R r:=by
 have key:∀(r pre:List α) (s:σ),l=pre++r→I pre s→(∃s',forF r s q=some (.nx s')∧I l s')∨∃y,forF r s q=some (.rt y)∧R y:=by
  intro r
  induction r with
  | nil=>intro pre s e hI;rw [List.append_nil] at e;subst e;exact .inl ⟨s,rfl,hI⟩
  | cons x r ih=>
   intro pre s e hI
   rcases h pre x s (by rw [e];simp) ⟨r,by rw [e];simp⟩ hI with ⟨s',h1,h2⟩ | ⟨y,h1,h2⟩
   ·have e':forF (x :: r) s q=forF r s' q:=by
     conv=>lhs;unfold forF
     rw [h1]
    rw [e'];exact ih (pre++[x]) s' (by rw [e];simp) h2
   ·refine .inr ⟨y,?_,h2⟩
    unfold forF;rw [h1]
 exact key l [] s0 rfl h0
theorem compO_ok {l:List α} {c:α→Option Bool} {m:α→Option β} {P:α→Bool} {f:α→β} (hc:∀x∈l,c x=some (P x)) (hm:∀x∈l,P x=true→m x=some (f x)):compO c m l=some ((l.filter P).map f):=by
 induction l with
 | nil=>rfl
 | cons x l ih=>
  have ih:=ih (fun y hy=>hc y (List.mem_cons_of_mem _ hy)) fun y hy=>hm y (List.mem_cons_of_mem _ hy)
  unfold compO;rw [hc x List.mem_cons_self];show (if P x=true then _ else _)=_
  cases hp:P x with
  | true=>
   rw [if_pos rfl,hm x List.mem_cons_self hp,ih,List.filter_cons_of_pos hp];rfl
  | false=>
   rw [if_neg Bool.false_ne_true,ih,List.filter_cons_of_neg (by rw [hp];exact Bool.false_ne_true)]
theorem compG_ok {l:List α} {c:α→Option Bool} {m:α→Option β} {P:α→Bool} {f:α→β} (hl:l.length≤1000000) (hc:∀x∈l,c x=some (P x)) (hm:∀x∈l,P x=true→m x=some (f x)):compG l c m=some ((l.filter P).map f):=by
 unfold compG;rw [if_pos hl,compO_ok hc hm]
theorem compG_map {l:List α} {m:α→Option β} {f:α→β} (hl:l.length≤1000000) (hm:∀x∈l,m x=some (f x)):compG l (fun _=>some true) m=some (l.map f):=by
 rw [compG_ok (P:=fun _=>true) hl (fun _ _=>rfl) fun x hx _=>hm x hx,List.filter_eq_self.mpr fun _ _=>rfl]
theorem compG_keep {l:List α} {c:α→Option Bool} {P:α→Bool} (hl:l.length≤1000000) (hc:∀x∈l,c x=some (P x)):compG l c (fun x=>some x)=some (l.filter P):=by
 rw [compG_ok (f:=fun x=>x) hl hc fun x hx _=>rfl,List.map_id']
theorem appO_ok {l:List α} {x:α} (h:l.length < 1000000):appO l x=some (l++[x]):=if_pos h
theorem extO_ok {l k:List α} (h:l.length+k.length≤1000000):extO l k=some (l++k):=if_pos h
theorem fewO_ok {l:List α} (h:l.length≤1000000):fewO l=some l:=if_pos h
theorem few0:fewO ([]:List α)=some []:=rfl
theorem few1 (a:α):fewO [a]=some [a]:=if_pos (by simp)
theorem few2 (a b:α):fewO [a,b]=some [a,b]:=if_pos (by simp)
theorem few3 (a b c:α):fewO [a,b,c]=some [a,b,c]:=if_pos (by simp)
theorem rng1_ok {j:Int} (h0:-1000000≤j) (h1:j≤1000000):rng1 j=some (rngZ 0 j.toNat):=if_pos ⟨h0,h1⟩
theorem rng2_ok {i j:Int} (h0:-1000000≤i) (h1:i≤1000000) (h2:-1000000≤j) (h3:j≤1000000):rng2 i j=some (rngZ i (j - i).toNat):=if_pos ⟨h0,h1,h2,h3⟩
theorem mem_rngZ {lo:Int} {n:Nat} {x:Int}:x∈rngZ lo n↔lo≤x∧x < lo+n:=by
 unfold rngZ;rw [List.mem_map]
 constructor
 ·rintro ⟨k,hk,rfl⟩
  have:=List.mem_range.mp hk;omega
 ·rintro ⟨h1,h2⟩
  exact ⟨(x - lo).toNat,List.mem_range.mpr (by omega),by omega⟩
theorem rngZ_len (lo:Int) (n:Nat):(rngZ lo n).length=n:=by unfold rngZ;rw [List.length_map,List.length_range]
theorem rngZ_up (lo:Int) (n:Nat):(rngZ lo n).Pairwise (· < ·):=by
 unfold rngZ;rw [List.pairwise_map]
 exact List.pairwise_lt_range.imp fun h=>by omega
theorem atI_nn {l:List α} {i:Int} (h0:0≤i) (h1:i < l.length):∃x,atI l i=some x∧l[i.toNat]?=some x:=by
 have hlt:i.toNat < l.length:=by omega
 exact ⟨l[i.toNat],atI_at h0 (List.getElem?_eq_getElem hlt),List.getElem?_eq_getElem hlt⟩
theorem atI_mem {l:List α} {i:Int} {x:α} (h:atI l i=some x):x∈l:=by
 unfold atI at h;obtain ⟨j,_,h2⟩:=obind h;exact List.mem_of_getElem? h2
theorem atI_mod {l:List α} (k:Int) (h:l≠[]):∃x,atI l (k % (l.length:Int))=some x∧x∈l:=by
 have hl:0 < (l.length:Int):=by have:=List.length_pos_iff.mpr h;omega
 obtain ⟨x,h1,_⟩:=atI_nn (l:=l) (i:=k % (l.length:Int)) (Int.emod_nonneg _ (by omega)) (Int.emod_lt_of_pos _ hl);exact ⟨x,h1,atI_mem h1⟩
theorem modO_ok {x y:Int} (h:0 < y):modO x y=some (x % y):=if_pos h
theorem cut_len' (l:List α) (lo hi:Option Int):(cutG l lo hi).length≤l.length:=by
 unfold cutG;rw [List.length_take,List.length_drop];omega
theorem cut_mem {l:List α} {lo hi:Option Int} {x:α} (h:x∈cutG l lo hi):x∈l:=List.mem_of_mem_drop (List.mem_of_mem_take h)
theorem filter_snoc (P:α→Bool) (l:List α) (x:α):(l++[x]).filter P=if P x=true then l.filter P++[x] else l.filter P:=by
 rw [List.filter_append]
 cases c:P x with
 | true=>rw [if_pos rfl,List.filter_cons_of_pos c];rfl
 | false=>rw [if_neg Bool.false_ne_true,List.filter_cons_of_neg (by rw [c];exact Bool.false_ne_true)];simp
theorem rngZ_pre {lo:Int} {n:Nat} {pre:List Int} {x:Int} (h:pre++[x] <+: rngZ lo n):x=lo+pre.length∧pre.length < n:=by
 have hl:=h.length_le;rw [List.length_append,List.length_singleton,rngZ_len] at hl;obtain ⟨r,hr⟩:=h;have:=congrArg (fun z=>z[pre.length]?) hr;simp only [List.append_assoc,List.getElem?_append_right (Nat.le_refl _),Nat.sub_self] at this;rw [show ([x]++r)[0]?=some x from rfl] at this;unfold rngZ at this;rw [List.getElem?_map,List.getElem?_range (by omega)] at this;simp only [Option.map_some,Option.some.injEq] at this;exact ⟨this,by omega⟩
theorem nd_len [DecidableEq α]:∀ {l k:List α},l.Nodup→(∀x∈l,x∈k)→l.length≤k.length
 | [],_,_,_=>Nat.zero_le _
 | x :: l,k,nd,h=>by
  have hx:=h x List.mem_cons_self;obtain ⟨n1,n2⟩:=List.nodup_cons.mp nd
  have:=nd_len (l:=l) (k:=k.erase x) n2 fun y hy=>(List.mem_erase_of_ne (fun z:y=x=>n1 (by rw [←z];exact hy))).mpr (h y (List.mem_cons_of_mem _ hy))
  rw [List.length_erase_of_mem hx] at this;have:=List.length_pos_of_mem hx;rw [List.length_cons];omega
noncomputable def Ok (p:Option α) (P:α→Prop):Prop:=∃v,p=some v∧P v
theorem Ok.pure {v:α} {P:α→Prop} (h:P v):Ok (some v) P:=⟨v,rfl,h⟩
theorem Ok.is {p:Option α} {v:α} (h:Ok p fun r=>r=v):p=some v:=by
 obtain ⟨_,h1,rfl⟩:=h;exact h1
noncomputable def OkF (p:Option (Fw ρ σ)) (N:σ→Prop) (R:ρ→Prop):Prop:=(∃s,p=some (.nx s)∧N s)∨∃r,p=some (.rt r)∧R r
theorem OkF.nx {s:σ} {N:σ→Prop} {R:ρ→Prop} (h:N s):OkF (some (.nx s)) N R:=.inl ⟨s,rfl,h⟩
theorem OkF.rt {r:ρ} {N:σ→Prop} {R:ρ→Prop} (h:R r):OkF (some (.rt r)) N R:=.inr ⟨r,rfl,h⟩
theorem OkF.seq {p:Option (Fw ρ σ)} {q:σ→Option (Fw ρ τ)} {N:σ→Prop} {N':τ→Prop} {R:ρ→Prop} (h:OkF p N R) (hq:∀s,N s→OkF (q s) N' R):OkF (bindF p q) N' R:=by
 rcases h with ⟨s,rfl,h⟩ | ⟨r,rfl,h⟩
 ·exact hq s h
 ·exact .inr ⟨r,rfl,h⟩
theorem OkF.map {p:Option (Fw ρ σ)} {g:σ→τ} {N:σ→Prop} {N':τ→Prop} {R:ρ→Prop} (h:OkF p N R) (hg:∀s,N s→N' (g s)):OkF (mapF g p) N' R:=by
 rcases h with ⟨s,rfl,h⟩ | ⟨r,rfl,h⟩
 ·exact .inl ⟨_,rfl,hg s h⟩
 ·exact .inr ⟨r,rfl,h⟩
theorem OkF.of {p:Option α} {q:α→Option (Fw ρ σ)} {P:α→Prop} {N:σ→Prop} {R:ρ→Prop} (h:Ok p P) (hq:∀v,P v→OkF (q v) N R):OkF (p.bind q) N R:=by
 obtain ⟨v,rfl,h⟩:=h;exact hq v h
theorem OkF.for {l:List α} {q:σ→α→Option (Fw ρ σ)} {s0:σ} {R:ρ→Prop} (I:List α→σ→Prop) (h0:I [] s0) (h:∀pre x s,x∈l→pre++[x] <+: l→I pre s→OkF (q s x) (I (pre++[x])) R):OkF (forF l s0 q) (I l) R:=forF_ret I R h0 h
theorem OkF.out {p:Option (Fw ρ σ)} {R:ρ→Prop} (h:OkF p (fun _=>False) R):Ok (outF p) R:=by
 rcases h with ⟨s,rfl,h⟩ | ⟨r,rfl,h⟩
 ·exact h.elim
 ·exact ⟨r,rfl,h⟩
theorem Ok.comp {l:List α} {c:α→Option Bool} {m:α→Option β} {Q:β→Prop} (hl:l.length≤1000000) (hc:∀x∈l,∃b,c x=some b) (hm:∀x∈l,Ok (m x) Q):Ok (compG l c m) (fun r=>(∀y∈r,Q y)∧r.length≤l.length):=by
 have key:∀k:List α,(∀x∈k,x∈l)→Ok (compO c m k) (fun r=>(∀y∈r,Q y)∧r.length≤k.length):=by
  intro k
  induction k with
  | nil=>intro _;exact ⟨[],rfl,fun y hy=>(nomatch hy),Nat.le_refl _⟩
  | cons x k ih=>
   intro hk
   obtain ⟨r,e,h1,h2⟩:=ih fun y hy=>hk y (List.mem_cons_of_mem _ hy)
   obtain ⟨b,hb⟩:=hc x (hk x List.mem_cons_self);obtain ⟨y,ey,hy⟩:=hm x (hk x List.mem_cons_self);unfold compO;rw [hb,e,ey]
   cases b with
   | true=>exact ⟨y :: r,rfl,fun z hz=>by rcases List.mem_cons.mp hz with rfl | hz;exact hy;exact h1 z hz,Nat.succ_le_succ h2⟩
   | false=>exact ⟨r,rfl,h1,Nat.le_succ_of_le h2⟩
 unfold compG;rw [if_pos hl]
 exact key l fun _ h=>h
theorem VF.law {f:List D→Sto→Res D} {ns:List Int} (h:VF f [.v (eF ns)] (rV D.bl) (some true)):∃S',f [.fro (ns.map D.int)] []=.ok (.bl true) S':=by
 obtain ⟨d,S',h1,_,rfl⟩:=h true rfl [] [.fro (ns.map D.int)] ⟨rfl,trivial⟩;exact ⟨S',h1⟩
end
end L4
namespace M
open PySem PySem.Spec PyProof.Rows L2
def top (i:Nat):Stmt:=PySem.Challenge.pw_guardround_k16_what_is_an_answer.main.body.getD i (.Pass ⟨0,0,0,0⟩)
structure Wd where
 Web:Addr
noncomputable def Wd.excs (W:Wd):List Addr:=[]
noncomputable abbrev s_checked_ties:Stmt:=top 8
noncomputable abbrev s_near_sets_of:Stmt:=top 9
noncomputable abbrev s_Web_init:Stmt:=inClass (top 7) 0
noncomputable abbrev s_refuse_no_place:Stmt:=top 10
noncomputable abbrev s_near:Stmt:=top 11
noncomputable abbrev s_is_answer:Stmt:=top 13
noncomputable abbrev s__law_cell_at:Stmt:=top 15
noncomputable abbrev s__law_pairs:Stmt:=top 16
noncomputable abbrev s__law_first_ties:Stmt:=top 17
noncomputable abbrev s__law_ties:Stmt:=top 18
noncomputable abbrev s__law_handed:Stmt:=top 19
noncomputable abbrev s__law_near:Stmt:=top 20
noncomputable abbrev s__law_sets:Stmt:=top 21
noncomputable abbrev s__law_answers:Stmt:=top 22
noncomputable abbrev s__law_is:Stmt:=top 23
noncomputable abbrev s__law_spoilt:Stmt:=top 24
noncomputable abbrev s__law_any:Stmt:=top 25
noncomputable abbrev s_law:Stmt:=top 26
noncomputable def b_checked_ties (W:Wd):MS:=
  (sSeq (sSet 2 mDNewT)
  (sSeq (sFor (iSeq (mVar 1)) (tgTup 2 (tgCons (tgN 3) (tgCons (tgN 4) tgNil)))
  (sSeq (sSet 5 (mTup (mCons (mQ min2F (mCons (mVar 3) (mCons (mVar 4) mNil))) (mCons (mQ max2F (mCons (mVar 3) (mCons (mVar 4) mNil))) mNil))))
  (sSeq (sIf (mB (m2 (eqD false) (m2 ixA (mVar 5) (mC (.int 0))) (m2 ixA (mVar 5) (mC (.int 1))))) sBad sNx)
  (sSeq (sIf (mOr (mB (m2 ltD (m2 ixA (mVar 5) (mC (.int 0))) (mC (.int 0)))) (mB (m2 geD (m2 ixA (mVar 5) (mC (.int 1))) (mVar 0)))) sBad sNx)
  (sSeq (sIf (mB (m2 (inA false) (mVar 5) (mVar 2))) sBad sNx)
  (sDPutM (mVar 2) (mVar 5) (mC (.bl true))))))))
  (sRet (mTuple (mSorted (mVar 2))))))
noncomputable def f_checked_ties (W:Wd):List D→Sto→Res D:=runQ 6 (b_checked_ties W)
noncomputable def b_near_sets_of (W:Wd):MS:=
  (sSeq (sSet 2 (mNew (mComp 1 (iR1 (mCons (mVar 0) mNil)) (tgN 0) cTrue (mNew (mLenOk mNil)))))
  (sSeq (sFor (iSeq (mVar 1)) (tgTup 2 (tgCons (tgN 3) (tgCons (tgN 4) tgNil)))
  (sSeq (sExpr (mApp (m2 ixA (mVar 2) (mVar 3)) (mVar 4)))
  (sExpr (mApp (m2 ixA (mVar 2) (mVar 4)) (mVar 3)))))
  (sRet (mTuple (mNew (mComp 1 (iSeq (mVar 2)) (tgN 0) cTrue (mTuple (mSorted (mVar 0)))))))))
noncomputable def f_near_sets_of (W:Wd):List D→Sto→Res D:=runQ 5 (b_near_sets_of W)
noncomputable def b_Web_init (W:Wd):MS:=
  (sSeq (sIf (mNot (mB (m3 leD leD (mC (.int 1)) (mVar 1) (mC (.int 60))))) sBad sNx)
  (sSeq (sFldM W.Web "places" (mVar 0) (mVar 1))
  (sSeq (sFldM W.Web "ties" (mVar 0) (mCall 2 (f_checked_ties W) (mCons (mVar 1) (mCons (mVar 2) mNil))))
  (sFldM W.Web "near_sets" (mVar 0) (mCall 2 (f_near_sets_of W) (mCons (mVar 1) (mCons (mFld W.Web "ties" (mVar 0)) mNil)))))))
noncomputable def f_Web_init (W:Wd):List D→Sto→Res D:=runQ 3 (b_Web_init W)
noncomputable def b_refuse_no_place (W:Wd):MS:=
  (sIf (mNot (mB (m3 leD ltD (mC (.int 0)) (mVar 1) (mFld W.Web "places" (mVar 0))))) sBad sNx)
noncomputable def f_refuse_no_place (W:Wd):List D→Sto→Res D:=runQ 2 (b_refuse_no_place W)
noncomputable def b_near (W:Wd):MS:=
  (sSeq (sExpr (mCall 2 (f_refuse_no_place W) (mCons (mVar 0) (mCons (mVar 1) mNil))))
  (sRet (m2 ixA (mFld W.Web "near_sets" (mVar 0)) (mVar 1))))
noncomputable def f_near (W:Wd):List D→Sto→Res D:=runQ 2 (b_near W)
noncomputable def b_is_answer (W:Wd):MS:=
  (sSeq (sIf (mOr (mB (m2 (eqD true) (mLen (mVar 4)) (mLen (mVar 1)))) (mOr (mB (m2 (eqD true) (mLenSet (mVar 4)) (mLen (mVar 4)))) (mB (m2 (inA true) (mVar 2) (mVar 4))))) (sRet (mC (.bl false))) sNx)
  (sSeq (sSet 5 (mNew (mComp 2 (iZipM (mCons (mVar 1) (mCons (mVar 4) mNil))) (tgTup 2 (tgCons (tgN 0) (tgCons (tgN 1) tgNil))) (mB (m2 (eqD true) (mVar 0) (mVar 1))) (mTup (mCons (mVar 0) (mCons (mVar 1) mNil))))))
  (sSeq (sIf (mNot (mB (mQ allF (mSeq (mNew (mComp 2 (iSeq (mVar 5)) (tgTup 2 (tgCons (tgN 0) (tgCons (tgN 1) tgNil))) cTrue (m2 (inA false) (mVar 1) (mCall 2 (f_near W) (mCons (mVar 2) (mCons (mVar 0) mNil)))))))))) (sRet (mC (.bl false))) sNx)
  (sRet (mOrV (m2 (eqD false) (mVar 3) (mC (.str "all"))) (m2 (eqD false) (mLen (mVar 5)) (mC (.int 1))))))))
noncomputable def f_is_answer (W:Wd):List D→Sto→Res D:=runQ 6 (b_is_answer W)
noncomputable def b__law_cell_at (W:Wd):MS:=
  (sSeq (sIf (mB (m2 ltD (mVar 1) (mLen (mVar 0)))) (sRet (m2 ixA (mVar 0) (mVar 1))) sNx)
  (sRet (mC (.int 0))))
noncomputable def f__law_cell_at (W:Wd):List D→Sto→Res D:=runQ 2 (b__law_cell_at W)
noncomputable def b__law_pairs (W:Wd):MS:=
  (sSeq (sSet 1 (mNew (mLenOk mNil)))
  (sSeq (sFor (iR1 (mCons (mVar 0) mNil)) (tgN 2)
  (sFor (iR2 (mCons (m2 addD (mVar 2) (mC (.int 1))) (mCons (mVar 0) mNil))) (tgN 3)
  (sExpr (mApp (mVar 1) (mTup (mCons (mVar 2) (mCons (mVar 3) mNil)))))))
  (sRet (mVar 1))))
noncomputable def f__law_pairs (W:Wd):List D→Sto→Res D:=runQ 4 (b__law_pairs W)
noncomputable def b__law_first_ties (W:Wd):MS:=
  (sSeq (sIf (mB (m2 (eqD false) (mVar 1) (mC (.int 1)))) (sRet (mNew (mComp 1 (iR1 (mCons (m2 subD (mVar 0) (mC (.int 1))) mNil)) (tgN 0) cTrue (mTup (mCons (mVar 0) (mCons (m2 addD (mVar 0) (mC (.int 1))) mNil)))))) sNx)
  (sSeq (sIf (mB (m2 (eqD false) (mVar 1) (mC (.int 2)))) (sRet (m2 addD (mNew (mComp 1 (iR1 (mCons (m2 subD (mVar 0) (mC (.int 1))) mNil)) (tgN 0) cTrue (mTup (mCons (mVar 0) (mCons (m2 addD (mVar 0) (mC (.int 1))) mNil))))) (mNew (mLenOk (mCons (mTup (mCons (mC (.int 0)) (mCons (m2 subD (mVar 0) (mC (.int 1))) mNil))) mNil))))) sNx)
  (sSeq (sIf (mB (m2 (eqD false) (mVar 1) (mC (.int 3)))) (sRet (mCall 1 (f__law_pairs W) (mCons (mVar 0) mNil))) sNx)
  (sSeq (sIf (mB (m2 (eqD false) (mVar 1) (mC (.int 4)))) (sRet (mNew (mComp 1 (iR2 (mCons (mC (.int 1)) (mCons (mVar 0) mNil))) (tgN 0) cTrue (mTup (mCons (mC (.int 0)) (mCons (mVar 0) mNil)))))) sNx)
  (sRet (mNew (mLenOk mNil)))))))
noncomputable def f__law_first_ties (W:Wd):List D→Sto→Res D:=runQ 2 (b__law_first_ties W)
noncomputable def b__law_ties (W:Wd):MS:=
  (sSeq (sSet 3 (mCall 1 (f__law_pairs W) (mCons (mVar 2) mNil)))
  (sSeq (sSet 4 mDNewT)
  (sSeq (sFor (iSeq (mCall 2 (f__law_first_ties W) (mCons (mVar 2) (mCons (m2 modD (m2 fdivD (mCall 2 (f__law_cell_at W) (mCons (mVar 0) (mCons (mC (.int 0)) mNil))) (mC (.int 7))) (mC (.int 6))) mNil)))) (tgN 5)
  (sDPutM (mVar 4) (mVar 5) (mC (.bl true))))
  (sSeq (sFor (iR2 (mCons (mVar 1) (mCons (mQ min2F (mCons (mLen (mVar 0)) (mCons (mC (.int 63)) mNil))) mNil))) (tgN 6)
  (sSeq (sSet 5 (m2 ixA (mVar 3) (m2 modD (m2 ixA (mVar 0) (mVar 6)) (mLen (mVar 3)))))
  (sDPutM (mVar 4) (mVar 5) (mOrV (m2 (inA true) (mVar 5) (mVar 4)) (mNotV (m2 ixA (mVar 4) (mVar 5)))))))
  (sRet (mNew (mComp 1 (iSeq (mVar 3)) (tgN 0) (mAnd (mB (m2 (inA false) (mVar 0) (mVar 5))) (mTru (m2 ixA (mVar 5) (mVar 0)))) (mVar 0))))))))
noncomputable def f__law_ties (W:Wd):List D→Sto→Res D:=runQ 7 (b__law_ties W)
noncomputable def b__law_handed (W:Wd):MS:=
  (sSeq (sIf (mB (m2 (eqD false) (m2 modD (m2 fdivD (mCall 2 (f__law_cell_at W) (mCons (mVar 0) (mCons (mC (.int 0)) mNil))) (mC (.int 42))) (mC (.int 2))) (mC (.int 0)))) (sRet (mNew (mN listF (mSeq (mVar 1))))) sNx)
  (sRet (mNew (mComp 1 (iRevM (mVar 1)) (tgN 0) cTrue (mTup (mCons (m2 ixA (mVar 0) (mC (.int 1))) (mCons (m2 ixA (mVar 0) (mC (.int 0))) mNil)))))))
noncomputable def f__law_handed (W:Wd):List D→Sto→Res D:=runQ 2 (b__law_handed W)
noncomputable def b__law_near (W:Wd):MS:=
  (sSeq (sSet 2 (mNew (mLenOk mNil)))
  (sSeq (sFor (iSeq (mVar 0)) (tgN 3)
  (sIf (mB (m2 (inA false) (mVar 1) (mVar 3))) (sExpr (mApp (mVar 2) (m2 subD (m2 addD (m2 ixA (mVar 3) (mC (.int 0))) (m2 ixA (mVar 3) (mC (.int 1)))) (mVar 1)))) sNx))
  (sRet (mSorted (mVar 2)))))
noncomputable def f__law_near (W:Wd):List D→Sto→Res D:=runQ 4 (b__law_near W)
noncomputable def b__law_sets (W:Wd):MS:=
  (sSeq (sSet 2 (mNew (mLenOk (mCons (mTup mNil) mNil))))
  (sSeq (sFor (iR1 (mCons (mVar 1) mNil)) (tgN 3)
  (sSeq (sSet 4 (mNew (mLenOk mNil)))
  (sSeq (sFor (iSeq (mVar 2)) (tgN 5)
  (sSeq (sSet 6 (mC (.int 0)))
  (sSeq (sIf (mB (m2 (eqD true) (mVar 5) (mTup mNil))) (sSet 6 (m2 addD (m2 ixA (mVar 5) (mNeg (mC (.int 1)))) (mC (.int 1)))) sNx)
  (sExpr (mExtend (mVar 4) (mNew (mComp 1 (iR2 (mCons (mVar 6) (mCons (m2 addD (m2 addD (m2 subD (mVar 0) (mVar 1)) (mVar 3)) (mC (.int 1))) mNil))) (tgN 0) cTrue (m2 addD (mVar 6) (mTup (mCons (mVar 0) mNil))))))))))
  (sSet 2 (mVar 4)))))
  (sRet (mVar 2))))
noncomputable def f__law_sets (W:Wd):List D→Sto→Res D:=runQ 7 (b__law_sets W)
noncomputable def b__law_answers (W:Wd):MS:=
  (sSeq (sIf (mB (m2 (eqD false) (mVar 3) (mC (.str "one")))) (sSeq (sSet 4 (mNew (mComp 1 (iR1 (mCons (mLen (mVar 1)) mNil)) (tgN 0) (mB (m2 (inA false) (mVar 3) (mCall 2 (f__law_near W) (mCons (mVar 1) (mCons (m2 ixA (mVar 2) (mVar 0)) mNil))))) (mVar 0))))
  (sRet (mSorted (mNew (mComp 1 (iSeq (mVar 4)) (tgN 0) cTrue (m2 addD (m2 addD (mSliceW (mVar 2) oNone (oSome (mVar 0))) (mTup (mCons (mVar 3) mNil))) (mSliceW (mVar 2) (oSome (m2 addD (mVar 0) (mC (.int 1)))) oNone))))))) sNx)
  (sSeq (sSet 5 (mNew (mLenOk (mCons (mTup mNil) mNil))))
  (sSeq (sFor (iSeq (mVar 1)) (tgN 6)
  (sSeq (sSet 7 (m2 addD (mNew (mLenOk (mCons (mVar 6) mNil))) (mCall 2 (f__law_near W) (mCons (mVar 0) (mCons (mVar 6) mNil)))))
  (sSeq (sSet 8 (mNew (mLenOk mNil)))
  (sSeq (sFor (iSeq (mVar 5)) (tgN 9)
  (sExpr (mExtend (mVar 8) (mNew (mComp 1 (iSeq (mVar 7)) (tgN 0) (mB (m2 (inA true) (mVar 0) (mVar 10))) (m2 addD (mVar 10) (mTup (mCons (mVar 0) mNil))))))))
  (sSet 5 (mVar 8))))))
  (sRet (mSorted (mNew (mComp 1 (iSeq (mVar 5)) (tgN 0) (mB (m2 (inA false) (mVar 3) (mVar 0))) (mVar 0))))))))
noncomputable def f__law_answers (W:Wd):List D→Sto→Res D:=runQ 10 (b__law_answers W)
noncomputable def b__law_is (W:Wd):MS:=
  (sSeq (sIf (mOr (mB (m2 (eqD true) (mLen (mVar 4)) (mLen (mVar 1)))) (mB (m2 (inA true) (mVar 2) (mVar 4)))) (sRet (mC (.bl false))) sNx)
  (sSeq (sSet 5 (mC (.int 0)))
  (sSeq (sFor (iR1 (mCons (mLen (mVar 4)) mNil)) (tgN 6)
  (sSeq (sIf (mB (m2 (inA false) (m2 ixA (mVar 4) (mVar 6)) (mSliceW (mVar 4) oNone (oSome (mVar 6))))) (sRet (mC (.bl false))) sNx)
  (sIf (mB (m2 (eqD true) (m2 ixA (mVar 4) (mVar 6)) (m2 ixA (mVar 1) (mVar 6)))) (sSeq (sSet 5 (m2 addD (mVar 5) (mC (.int 1))))
  (sIf (mB (m2 (inA true) (m2 ixA (mVar 4) (mVar 6)) (mCall 2 (f__law_near W) (mCons (mVar 0) (mCons (m2 ixA (mVar 1) (mVar 6)) mNil))))) (sRet (mC (.bl false))) sNx)) sNx)))
  (sRet (mOrV (m2 (eqD false) (mVar 3) (mC (.str "all"))) (m2 (eqD false) (mVar 5) (mC (.int 1))))))))
noncomputable def f__law_is (W:Wd):List D→Sto→Res D:=runQ 7 (b__law_is W)
noncomputable def b__law_spoilt (W:Wd):MS:=
  (sSeq (sSet 3 (m2 modD (mVar 1) (mLen (mVar 0))))
  (sSeq (sSet 4 (m2 subD (m2 modD (m2 fdivD (mVar 1) (mC (.int 7))) (m2 addD (mVar 2) (mC (.int 2)))) (mC (.int 1))))
  (sSeq (sSet 5 (mNew (mLenOk (mCons (mVar 0) (mCons (m2 addD (m2 addD (mSliceW (mVar 0) oNone (oSome (mVar 3))) (mTup (mCons (mVar 4) mNil))) (mSliceW (mVar 0) (oSome (m2 addD (mVar 3) (mC (.int 1)))) oNone)) (mCons (m2 addD (mVar 0) (mTup (mCons (mVar 4) mNil))) (mCons (mSliceW (mVar 0) oNone (oSome (mNeg (mC (.int 1))))) mNil)))))))
  (sSeq (sExpr (mApp (mVar 5) (m2 addD (m2 addD (mSliceW (mVar 0) oNone (oSome (mVar 3))) (mTup (mCons (m2 ixA (mVar 0) (m2 modD (m2 fdivD (mVar 1) (mC (.int 7))) (mLen (mVar 0)))) mNil))) (mSliceW (mVar 0) (oSome (m2 addD (mVar 3) (mC (.int 1)))) oNone))))
  (sSeq (sExpr (mApp (mVar 5) (m2 addD (mSliceW (mVar 0) (oSome (mC (.int 1))) oNone) (mSliceW (mVar 0) oNone (oSome (mC (.int 1)))))))
  (sSeq (sExpr (mApp (mVar 5) (m2 addD (m2 addD (mSliceW (mVar 0) oNone (oSome (mVar 3))) (mTup (mCons (m2 addD (m2 ixA (mVar 0) (mVar 3)) (m2 powD (mC (.int 10)) (mC (.int 20)))) mNil))) (mSliceW (mVar 0) (oSome (m2 addD (mVar 3) (mC (.int 1)))) oNone))))
  (sRet (mVar 5))))))))
noncomputable def f__law_spoilt (W:Wd):List D→Sto→Res D:=runQ 6 (b__law_spoilt W)
noncomputable def b__law_any (W:Wd):MS:=
  (sSeq (sSet 3 (mNew (mLenOk mNil)))
  (sSeq (sFor (iR1 (mCons (mVar 1) mNil)) (tgN 4)
  (sSeq (sExpr (mApp (mVar 3) (m2 subD (m2 modD (mVar 0) (m2 addD (mVar 2) (mC (.int 1)))) (mInt (m2 (eqD false) (m2 modD (mVar 0) (mC (.int 7))) (mC (.int 3)))))))
  (sSet 0 (m2 fdivD (mVar 0) (m2 addD (mVar 2) (mC (.int 1)))))))
  (sRet (mTuple (mVar 3)))))
noncomputable def f__law_any (W:Wd):List D→Sto→Res D:=runQ 5 (b__law_any W)
noncomputable def b_law (W:Wd):MS:=
  (sSeq (sSet 1 (mCall 2 (f__law_cell_at W) (mCons (mVar 0) (mCons (mC (.int 0)) mNil))))
  (sSeq (sSet 2 (m2 addD (m2 addD (mC (.int 2)) (m2 modD (mVar 1) (mC (.int 5)))) (mInt (m2 (eqD false) (m2 modD (m2 fdivD (mVar 1) (mC (.int 84))) (mC (.int 8))) (mC (.int 1))))))
  (sSeq (sSet 3 (mCall 3 (f__law_ties W) (mCons (mVar 0) (mCons (mC (.int 5)) (mCons (mVar 2) mNil)))))
  (sSeq (sSet 4 (mMake W.Web 3 (f_Web_init W) (mCons (mVar 2) (mCons (mCall 2 (f__law_handed W) (mCons (mVar 0) (mCons (mVar 3) mNil))) mNil))))
  (sSeq (sSet 5 (m2 addD (mC (.int 1)) (m2 modD (mCall 2 (f__law_cell_at W) (mCons (mVar 0) (mCons (mC (.int 1)) mNil))) (m2 subD (mVar 2) (mC (.int 1))))))
  (sSeq (sSet 6 (mCall 2 (f__law_sets W) (mCons (mVar 2) (mCons (mVar 5) mNil))))
  (sSeq (sSet 7 (mCall 2 (f__law_cell_at W) (mCons (mVar 0) (mCons (mC (.int 2)) mNil))))
  (sSeq (sSet 8 (m2 ixA (mVar 6) (m2 modD (mVar 7) (mLen (mVar 6)))))
  (sSeq (sSet 9 (mNew (mComp 1 (iR1 (mCons (mVar 2) mNil)) (tgN 0) (mB (m2 (inA true) (mVar 0) (mVar 9))) (mVar 0))))
  (sSeq (sSet 10 (m2 ixA (mVar 9) (m2 modD (m2 fdivD (mVar 7) (mC (.int 35))) (mLen (mVar 9)))))
  (sSeq (sSet 11 (mNew (mLenOk (mCons (mVar 8) (mCons (mCall 3 (f__law_any W) (mCons (mCall 2 (f__law_cell_at W) (mCons (mVar 0) (mCons (mC (.int 4)) mNil))) (mCons (mVar 5) (mCons (mVar 2) mNil)))) (mCons (mTup mNil) mNil))))))
  (sSeq (sSet 12 (mSlice (mCall 4 (f__law_answers W) (mCons (mVar 3) (mCons (mVar 8) (mCons (mVar 10) (mCons (mC (.str "all")) mNil))))) oNone (oSome (mC (.int 40)))))
  (sSeq (sExpr (mApp (mVar 11) (m2 ixA (m2 addD (mVar 12) (mNew (mLenOk (mCons (mVar 8) mNil)))) (m2 modD (mCall 2 (f__law_cell_at W) (mCons (mVar 0) (mCons (mC (.int 3)) mNil))) (m2 addD (mLen (mVar 12)) (mC (.int 1)))))))
  (sSeq (sSet 11 (m2 addD (m2 addD (mVar 11) (mVar 12)) (mCall 3 (f__law_spoilt W) (mCons (m2 ixA (mVar 11) (mC (.int 3))) (mCons (mCall 2 (f__law_cell_at W) (mCons (mVar 0) (mCons (mC (.int 4)) mNil))) (mCons (mVar 2) mNil))))))
  (sSeq (sFor (iSeq (mVar 11)) (tgN 13)
  (sFor (iSeq (mNew (mLenOk (mCons (mC (.str "one")) (mCons (mC (.str "all")) mNil))))) (tgN 14)
  (sSeq (sSet 15 (mCall 5 (f_is_answer W) (mCons (mVar 4) (mCons (mVar 8) (mCons (mVar 10) (mCons (mVar 14) (mCons (mVar 13) mNil)))))))
  (sIf (mOr (mNot (mB (mIs (isB "bool") (fun _=>none) (mVar 15)))) (mB (m2 (eqD true) (mVar 15) (mCall 5 (f__law_is W) (mCons (mVar 3) (mCons (mVar 8) (mCons (mVar 10) (mCons (mVar 14) (mCons (mVar 13) mNil))))))))) (sRet (mC (.bl false))) sNx))))
  (sRet (mC (.bl true))))))))))))))))))
noncomputable def f_law (W:Wd):List D→Sto→Res D:=runQ 16 (b_law W)
structure Txt (K:PySem.W.Frag) (mg:Str→Option Value) (W:Wd) where
 d_checked_ties:Dfn K mg "checked_ties" "checked_ties" s_checked_ties ["places", "ties"]
 d_near_sets_of:Dfn K mg "near_sets_of" "near_sets_of" s_near_sets_of ["places", "ties"]
 d_Web_init:Mtd K "__init__" "Web.__init__" s_Web_init ["self", "places", "ties"]
 d_refuse_no_place:Dfn K mg "refuse_no_place" "refuse_no_place" s_refuse_no_place ["web", "place"]
 d_near:Dfn K mg "near" "near" s_near ["web", "place"]
 d_is_answer:Dfn K mg "is_answer" "is_answer" s_is_answer ["web", "standing", "call", "kind", "told"]
 d__law_cell_at:Dfn K mg "_law_cell_at" "_law_cell_at" s__law_cell_at ["script", "k"]
 d__law_pairs:Dfn K mg "_law_pairs" "_law_pairs" s__law_pairs ["places"]
 d__law_first_ties:Dfn K mg "_law_first_ties" "_law_first_ties" s__law_first_ties ["places", "style"]
 d__law_ties:Dfn K mg "_law_ties" "_law_ties" s__law_ties ["script", "first", "places"]
 d__law_handed:Dfn K mg "_law_handed" "_law_handed" s__law_handed ["script", "ties"]
 d__law_near:Dfn K mg "_law_near" "_law_near" s__law_near ["ties", "place"]
 d__law_sets:Dfn K mg "_law_sets" "_law_sets" s__law_sets ["places", "guards"]
 d__law_answers:Dfn K mg "_law_answers" "_law_answers" s__law_answers ["ties", "standing", "call", "kind"]
 d__law_is:Dfn K mg "_law_is" "_law_is" s__law_is ["ties", "standing", "call", "kind", "told"]
 d__law_spoilt:Dfn K mg "_law_spoilt" "_law_spoilt" s__law_spoilt ["row", "cell", "places"]
 d__law_any:Dfn K mg "_law_any" "_law_any" s__law_any ["cell", "size", "places"]
 d_law:Dfn K mg "law" "law" s_law ["script"]
 c_Web:Own K mg "Web" W.Web d_Web_init.f
 n_Web_places:NoAttr K W.Web "places"
 n_Web_ties:NoAttr K W.Web "ties"
 n_Web_near_sets:NoAttr K W.Web "near_sets"
 b_all:mg "all" = none
 b_bool:mg "bool" = none
 b_int:mg "int" = none
 b_isinstance:mg "isinstance" = none
 b_len:mg "len" = none
 b_list:mg "list" = none
 b_max:mg "max" = none
 b_min:mg "min" = none
 b_range:mg "range" = none
 b_reversed:mg "reversed" = none
 b_set:mg "set" = none
 b_sorted:mg "sorted" = none
 b_tuple:mg "tuple" = none
 b_zip:mg "zip" = none
 g_MOST_PLACES:∃tk,mg "MOST_PLACES" = some (.int 60 tk)
section
variable {P:Program} {w:World} {K:PySem.W.Frag} {mg:Str→Option Value} {base:Heap} {W:Wd}
theorem sc_checked_ties:FnScope ["places", "ties", "found", "one", "other", "tie"] ["places", "ties"] (defScope s_checked_ties):=⟨rfl,rfl,rfl,by decide +kernel,rfl,by decide +kernel,by decide +kernel⟩
theorem nd_checked_ties:(["places", "ties", "found", "one", "other", "tie"]:List Str).Nodup:=sc_checked_ties.nd
theorem ok_checked_ties (T:Txt K mg W):FnOk P w K mg base (CXG P w) 1 T.d_checked_ties.f T.d_checked_ties.fd ["places", "ties"] (spM K 2 (f_checked_ties W)):=by
 refine fn_mirQ (k:=0) T.d_checked_ties.F sc_checked_ties rfl fun cdv A outer s H E hr=>?_
 have hu:(A.deeper (envOfC "checked_ties" (defScope s_checked_ties) s.heap.objs.size T.d_checked_ties.f cdv)).units+64 < cLine:=hr.units
 exact (gss_cons (gs_set (i:=2) nd_checked_ties rfl (by first | exact Or.inl rfl | exact Or.inr rfl) ge_dnewT)
  (gss_cons (gs_for (good_none rfl).own rfl (gi_seq (ge_var (pv 1))) (gg_tup rfl (ggs_cons (gg_name (pg_name (i:=3) nd_checked_ties rfl (by first | exact Or.inl rfl | exact Or.inr rfl))) (ggs_cons (gg_name (pg_name (i:=4) nd_checked_ties rfl (by first | exact Or.inl rfl | exact Or.inr rfl))) ggs_nil)))
  (gss_cons (gs_set (i:=5) nd_checked_ties rfl (by first | exact Or.inl rfl | exact Or.inr rfl) (ge_tup (ga_cons (ge_min2 rfl rfl T.b_min (ga_cons (ge_var (pv 3)) (ga_cons (ge_var (pv 4)) ga_nil))) (ga_cons (ge_max2 rfl rfl T.b_max (ga_cons (ge_var (pv 3)) (ga_cons (ge_var (pv 4)) ga_nil))) ga_nil))))
  (gss_cons (gs_if (gt_cmp (od_eq hu) (ge_at hu (ge_var (pv 5)) ge_int) (ge_at hu (ge_var (pv 5)) ge_int) (nomark _)) (gss_one gs_never) gss_nil)
  (gss_cons (gs_if (gt_w (gw_or (gt_cmp od_lt (ge_at hu (ge_var (pv 5)) ge_int) ge_int (nomark _)) (gw_or1 (gt_cmp od_ge (ge_at hu (ge_var (pv 5)) ge_int) (ge_var (pv 0)) (nomark _))))) (gss_one gs_never) gss_nil)
  (gss_cons (gs_if (gt_in hu (ge_var (pv 5)) (ge_var (pv 2))) (gss_one gs_never) gss_nil)
  (gss_one (gs_dput (Nat.lt_of_le_of_lt (Nat.add_le_add_left (by decide:1≤64) _) hu) (ge_var (pv 2)) (ge_var (pv 5)) ge_bl rfl)))))))
  (gss_one (gs_ret (ge_tuple rfl T.b_tuple (ge_sorted rfl rfl T.b_sorted (ge_var (pv 2))))))))
theorem sc_near_sets_of:FnScope ["places", "ties", "rows", "one", "other"] ["places", "ties"] (defScope s_near_sets_of):=⟨rfl,rfl,rfl,by decide +kernel,rfl,by decide +kernel,by decide +kernel⟩
theorem nd_near_sets_of:(["places", "ties", "rows", "one", "other"]:List Str).Nodup:=sc_near_sets_of.nd
theorem ok_near_sets_of (T:Txt K mg W):FnOk P w K mg base (CXG P w) 1 T.d_near_sets_of.f T.d_near_sets_of.fd ["places", "ties"] (spM K 2 (f_near_sets_of W)):=by
 refine fn_mirQ (k:=0) T.d_near_sets_of.F sc_near_sets_of rfl fun cdv A outer s H E hr=>?_
 have hu:(A.deeper (envOfC "near_sets_of" (defScope s_near_sets_of) s.heap.objs.size T.d_near_sets_of.f cdv)).units+64 < cLine:=hr.units
 exact (gss_cons (gs_comp (i:=2) (own:=["place"]) (N':=["place", "\u00b71", "\u00b72", "\u00b73", "\u00b74", "\u00b75"]) rfl rfl nd_near_sets_of rfl (by first | exact Or.inl rfl | exact Or.inr rfl) (comp_sc (by kernel_rfl)) (gi_range1 rfl T.b_range (ga_cons (ge_var (pv 0)) ga_nil)) (fun _ _ _ _ _ _=>(gg_name (pg_name (i:=0) (by decide +kernel:(["place", "\u00b71", "\u00b72", "\u00b73", "\u00b74", "\u00b75"]:List Str).Nodup) rfl (by first | exact Or.inl rfl | exact Or.inr rfl)))) (fun _ _ _ _ _ _=>gifs_nil) (fun _ _ _ _ _ _=>(ge_new (gl_lst ga_nil))))
  (gss_cons (gs_for (good_none rfl).own rfl (gi_seq (ge_var (pv 1))) (gg_tup rfl (ggs_cons (gg_name (pg_name (i:=3) nd_near_sets_of rfl (by first | exact Or.inl rfl | exact Or.inr rfl))) (ggs_cons (gg_name (pg_name (i:=4) nd_near_sets_of rfl (by first | exact Or.inl rfl | exact Or.inr rfl))) ggs_nil)))
  (gss_cons (gs_expr (ge_append (ge_at hu (ge_var (pv 2)) (ge_var (pv 3))) (ge_var (pv 4))))
  (gss_one (gs_expr (ge_append (ge_at hu (ge_var (pv 2)) (ge_var (pv 4))) (ge_var (pv 3)))))))
  (gss_one (gs_ret (ge_tuple rfl T.b_tuple (ge_new (gl_comp (own:=["row"]) (N':=["row", "\u00b71", "\u00b72", "\u00b73", "\u00b74", "\u00b75"]) rfl (comp_sc (by kernel_rfl)) (gi_seq (ge_var (pv 2))) (fun _ _ _ _ _ _=>(gg_name (pg_name (i:=0) (by decide +kernel:(["row", "\u00b71", "\u00b72", "\u00b73", "\u00b74", "\u00b75"]:List Str).Nodup) rfl (by first | exact Or.inl rfl | exact Or.inr rfl)))) (fun _ _ _ _ _ _=>gifs_nil) (fun _ _ _ _ _ _=>(ge_tuple rfl T.b_tuple (ge_sorted rfl rfl T.b_sorted (ge_var (pv 0))))))))))))
theorem sc_Web_init:FnScope ["self", "places", "ties"] ["self", "places", "ties"] (defScope s_Web_init):=⟨rfl,rfl,rfl,by decide +kernel,rfl,by decide +kernel,by decide +kernel⟩
theorem nd_Web_init:(["self", "places", "ties"]:List Str).Nodup:=sc_Web_init.nd
theorem ok_Web_init (T:Txt K mg W):FnOk P w K mg base (CXG P w) 2 T.d_Web_init.f T.d_Web_init.fd ["self", "places", "ties"] (spM K 3 (f_Web_init W)):=by
 refine fn_mirQ (k:=1) T.d_Web_init.F sc_Web_init rfl fun cdv A outer s H E hr=>?_
 have hu:(A.deeper (envOfC "Web.__init__" (defScope s_Web_init) s.heap.objs.size T.d_Web_init.f cdv)).units+64 < cLine:=hr.units
 exact (gss_cons (gs_if (gt_not (gt_chain od_le od_le ge_int (ge_var (pv 1)) (ge_globI rfl T.g_MOST_PLACES.choose_spec))) (gss_one gs_never) gss_nil)
  (gss_cons (gs_fld T.c_Web.cl T.n_Web_places (ge_var (pv 0)) (ge_var (pv 1)) rfl)
  (gss_cons (gs_fld T.c_Web.cl T.n_Web_ties (ge_var (pv 0)) (ge_call (ok_checked_ties T) (good_none rfl).pass (hr.mono (by decide)) rfl T.d_checked_ties.m T.d_checked_ties.kp T.d_checked_ties.b (ga_cons (ge_var (pv 1)) (ga_cons (ge_var (pv 2)) ga_nil))) rfl)
  (gss_one (gs_fld T.c_Web.cl T.n_Web_near_sets (ge_var (pv 0)) (ge_call (ok_near_sets_of T) (good_none rfl).pass (hr.mono (by decide)) rfl T.d_near_sets_of.m T.d_near_sets_of.kp T.d_near_sets_of.b (ga_cons (ge_var (pv 1)) (ga_cons (ge_fld T.c_Web.cl T.n_Web_ties (ge_var (pv 0)) rfl) ga_nil))) rfl)))))
theorem sc_refuse_no_place:FnScope ["web", "place"] ["web", "place"] (defScope s_refuse_no_place):=⟨rfl,rfl,rfl,by decide +kernel,rfl,by decide +kernel,by decide +kernel⟩
theorem nd_refuse_no_place:(["web", "place"]:List Str).Nodup:=sc_refuse_no_place.nd
theorem ok_refuse_no_place (T:Txt K mg W):FnOk P w K mg base (CXG P w) 1 T.d_refuse_no_place.f T.d_refuse_no_place.fd ["web", "place"] (spM K 2 (f_refuse_no_place W)):=by
 refine fn_mirQ (k:=0) T.d_refuse_no_place.F sc_refuse_no_place rfl fun cdv A outer s H E hr=>?_
 have hu:(A.deeper (envOfC "refuse_no_place" (defScope s_refuse_no_place) s.heap.objs.size T.d_refuse_no_place.f cdv)).units+64 < cLine:=hr.units;exact (gss_one (gs_if (gt_not (gt_chain od_le od_lt ge_int (ge_var (pv 1)) (ge_fld T.c_Web.cl T.n_Web_places (ge_var (pv 0)) rfl))) (gss_one gs_never) gss_nil))
theorem sc_near:FnScope ["web", "place"] ["web", "place"] (defScope s_near):=⟨rfl,rfl,rfl,by decide +kernel,rfl,by decide +kernel,by decide +kernel⟩
theorem nd_near:(["web", "place"]:List Str).Nodup:=sc_near.nd
theorem ok_near (T:Txt K mg W):FnOk P w K mg base (CXG P w) 2 T.d_near.f T.d_near.fd ["web", "place"] (spM K 2 (f_near W)):=by
 refine fn_mirQ (k:=1) T.d_near.F sc_near rfl fun cdv A outer s H E hr=>?_
 have hu:(A.deeper (envOfC "near" (defScope s_near) s.heap.objs.size T.d_near.f cdv)).units+64 < cLine:=hr.units
 exact (gss_cons (gs_expr (ge_call (ok_refuse_no_place T) (good_none rfl).pass (hr.mono (by decide)) rfl T.d_refuse_no_place.m T.d_refuse_no_place.kp T.d_refuse_no_place.b (ga_cons (ge_var (pv 0)) (ga_cons (ge_var (pv 1)) ga_nil))))
  (gss_one (gs_ret (ge_at hu (ge_fld T.c_Web.cl T.n_Web_near_sets (ge_var (pv 0)) rfl) (ge_var (pv 1))))))
theorem sc_is_answer:FnScope ["web", "standing", "call", "kind", "told", "steps"] ["web", "standing", "call", "kind", "told"] (defScope s_is_answer):=⟨rfl,rfl,rfl,by decide +kernel,rfl,by decide +kernel,by decide +kernel⟩
theorem nd_is_answer:(["web", "standing", "call", "kind", "told", "steps"]:List Str).Nodup:=sc_is_answer.nd
theorem ok_is_answer (T:Txt K mg W):FnOk P w K mg base (CXG P w) 3 T.d_is_answer.f T.d_is_answer.fd ["web", "standing", "call", "kind", "told"] (spM K 5 (f_is_answer W)):=by
 refine fn_mirQ (k:=2) T.d_is_answer.F sc_is_answer rfl fun cdv A outer s H E hr=>?_
 have hu:(A.deeper (envOfC "is_answer" (defScope s_is_answer) s.heap.objs.size T.d_is_answer.f cdv)).units+64 < cLine:=hr.units
 exact (gss_cons (gs_if (gt_w (gw_or (gt_cmp (od_ne hu) (ge_len rfl T.b_len (ge_var (pv 4))) (ge_len rfl T.b_len (ge_var (pv 1))) (nomark _)) (gw_or (gt_cmp (od_ne hu) (ge_lenSet rfl rfl T.b_len rfl T.b_set (ge_var (pv 4))) (ge_len rfl T.b_len (ge_var (pv 4))) (nomark _)) (gw_or1 (gt_notin hu (ge_var (pv 2)) (ge_var (pv 4))))))) (gss_one (gs_ret ge_bl)) gss_nil)
  (gss_cons (gs_comp (i:=5) (own:=["guard", "place"]) (N':=["guard", "place", "\u00b72", "\u00b73", "\u00b74", "\u00b75", "\u00b76", "\u00b77"]) rfl rfl nd_is_answer rfl (by first | exact Or.inl rfl | exact Or.inr rfl) (comp_sc (by kernel_rfl)) (gi_zip rfl T.b_zip (ga_cons (ge_var (pv 1)) (ga_cons (ge_var (pv 4)) ga_nil))) (fun _ _ _ _ _ _=>(gg_tup rfl (ggs_cons (gg_name (pg_name (i:=0) (by decide +kernel:(["guard", "place", "\u00b72", "\u00b73", "\u00b74", "\u00b75", "\u00b76", "\u00b77"]:List Str).Nodup) rfl (by first | exact Or.inl rfl | exact Or.inr rfl))) (ggs_cons (gg_name (pg_name (i:=1) (by decide +kernel:(["guard", "place", "\u00b72", "\u00b73", "\u00b74", "\u00b75", "\u00b76", "\u00b77"]:List Str).Nodup) rfl (by first | exact Or.inl rfl | exact Or.inr rfl))) ggs_nil)))) (fun _ _ _ _ _ _=>(gifs_one (gt_cmp (od_ne hu) (ge_var (pv 0)) (ge_var (pv 1)) (nomark _)))) (fun _ _ _ _ _ _=>(ge_tup (ga_cons (ge_var (pv 0)) (ga_cons (ge_var (pv 1)) ga_nil)))))
  (gss_cons (gs_if (gt_not (gt_val (ge_all rfl rfl T.b_all (ge_new (gl_comp (own:=["guard", "place"]) (N':=["guard", "place", "web", "\u00b73", "\u00b74", "\u00b75", "\u00b76", "\u00b77"]) rfl (comp_sc (by kernel_rfl)) (gi_seq (ge_var (pv 5))) (fun _ _ _ _ _ _=>(gg_tup rfl (ggs_cons (gg_name (pg_name (i:=0) (by decide +kernel:(["guard", "place", "web", "\u00b73", "\u00b74", "\u00b75", "\u00b76", "\u00b77"]:List Str).Nodup) rfl (by first | exact Or.inl rfl | exact Or.inr rfl))) (ggs_cons (gg_name (pg_name (i:=1) (by decide +kernel:(["guard", "place", "web", "\u00b73", "\u00b74", "\u00b75", "\u00b76", "\u00b77"]:List Str).Nodup) rfl (by first | exact Or.inl rfl | exact Or.inr rfl))) ggs_nil)))) (fun _ _ _ _ _ _=>gifs_nil) (fun _ _ _ _ _ _=>(ge_in hu (ge_var (pv 1)) (ge_call (ok_near T) (good_none rfl).pass (hr.mono (by decide)) rfl T.d_near.m T.d_near.kp T.d_near.b (ga_cons (ge_var (pv 2)) (ga_cons (ge_var (pv 0)) ga_nil)))))))))) (gss_one (gs_ret ge_bl)) gss_nil)
  (gss_one (gs_ret (L2.ge_or (ge_cmp (od_eq hu) (ge_var (pv 3)) ge_str (nomark _)) (ge_one (ge_cmp (od_eq hu) (ge_len rfl T.b_len (ge_var (pv 5))) ge_int (nomark _)))))))))
theorem sc__law_cell_at:FnScope ["script", "k"] ["script", "k"] (defScope s__law_cell_at):=⟨rfl,rfl,rfl,by decide +kernel,rfl,by decide +kernel,by decide +kernel⟩
theorem nd__law_cell_at:(["script", "k"]:List Str).Nodup:=sc__law_cell_at.nd
theorem ok__law_cell_at (T:Txt K mg W):FnOk P w K mg base (CXG P w) 1 T.d__law_cell_at.f T.d__law_cell_at.fd ["script", "k"] (spM K 2 (f__law_cell_at W)):=by
 refine fn_mirQ (k:=0) T.d__law_cell_at.F sc__law_cell_at rfl fun cdv A outer s H E hr=>?_
 have hu:(A.deeper (envOfC "_law_cell_at" (defScope s__law_cell_at) s.heap.objs.size T.d__law_cell_at.f cdv)).units+64 < cLine:=hr.units
 exact (gss_cons (gs_if (gt_cmp od_lt (ge_var (pv 1)) (ge_len rfl T.b_len (ge_var (pv 0))) (nomark _)) (gss_one (gs_ret (ge_at hu (ge_var (pv 0)) (ge_var (pv 1))))) gss_nil)
  (gss_one (gs_ret ge_int)))
theorem sc__law_pairs:FnScope ["places", "found", "one", "other"] ["places"] (defScope s__law_pairs):=⟨rfl,rfl,rfl,by decide +kernel,rfl,by decide +kernel,by decide +kernel⟩
theorem nd__law_pairs:(["places", "found", "one", "other"]:List Str).Nodup:=sc__law_pairs.nd
theorem ok__law_pairs (T:Txt K mg W):FnOk P w K mg base (CXG P w) 1 T.d__law_pairs.f T.d__law_pairs.fd ["places"] (spM K 1 (f__law_pairs W)):=by
 refine fn_mirQ (k:=0) T.d__law_pairs.F sc__law_pairs rfl fun cdv A outer s H E hr=>?_
 have hu:(A.deeper (envOfC "_law_pairs" (defScope s__law_pairs) s.heap.objs.size T.d__law_pairs.f cdv)).units+64 < cLine:=hr.units
 exact (gss_cons (gs_set (i:=1) nd__law_pairs rfl (by first | exact Or.inl rfl | exact Or.inr rfl) (ge_new (gl_lst ga_nil)))
  (gss_cons (gs_for (good_none rfl).own rfl (gi_range1 rfl T.b_range (ga_cons (ge_var (pv 0)) ga_nil)) (gg_name (pg_name (i:=2) nd__law_pairs rfl (by first | exact Or.inl rfl | exact Or.inr rfl)))
  (gss_one (gs_for (good_none rfl).own rfl (gi_range2 rfl T.b_range (ga_cons (ge_bin od_add (ge_var (pv 2)) ge_int) (ga_cons (ge_var (pv 0)) ga_nil))) (gg_name (pg_name (i:=3) nd__law_pairs rfl (by first | exact Or.inl rfl | exact Or.inr rfl)))
  (gss_one (gs_expr (ge_append (ge_var (pv 1)) (ge_tup (ga_cons (ge_var (pv 2)) (ga_cons (ge_var (pv 3)) ga_nil)))))))))
  (gss_one (gs_ret (ge_var (pv 1))))))
theorem sc__law_first_ties:FnScope ["places", "style"] ["places", "style"] (defScope s__law_first_ties):=⟨rfl,rfl,rfl,by decide +kernel,rfl,by decide +kernel,by decide +kernel⟩
theorem nd__law_first_ties:(["places", "style"]:List Str).Nodup:=sc__law_first_ties.nd
theorem ok__law_first_ties (T:Txt K mg W):FnOk P w K mg base (CXG P w) 2 T.d__law_first_ties.f T.d__law_first_ties.fd ["places", "style"] (spM K 2 (f__law_first_ties W)):=by
 refine fn_mirQ (k:=1) T.d__law_first_ties.F sc__law_first_ties rfl fun cdv A outer s H E hr=>?_
 have hu:(A.deeper (envOfC "_law_first_ties" (defScope s__law_first_ties) s.heap.objs.size T.d__law_first_ties.f cdv)).units+64 < cLine:=hr.units
 exact (gss_cons (gs_if (gt_cmp (od_eq hu) (ge_var (pv 1)) ge_int (nomark _)) (gss_one (gs_ret (ge_new (gl_comp (own:=["k"]) (N':=["k", "\u00b71", "\u00b72"]) rfl (comp_sc (by kernel_rfl)) (gi_range1 rfl T.b_range (ga_cons (ge_bin od_sub (ge_var (pv 0)) ge_int) ga_nil)) (fun _ _ _ _ _ _=>(gg_name (pg_name (i:=0) (by decide +kernel:(["k", "\u00b71", "\u00b72"]:List Str).Nodup) rfl (by first | exact Or.inl rfl | exact Or.inr rfl)))) (fun _ _ _ _ _ _=>gifs_nil) (fun _ _ _ _ _ _=>(ge_tup (ga_cons (ge_var (pv 0)) (ga_cons (ge_bin od_add (ge_var (pv 0)) ge_int) ga_nil)))))))) gss_nil)
  (gss_cons (gs_if (gt_cmp (od_eq hu) (ge_var (pv 1)) ge_int (nomark _)) (gss_one (gs_ret (ge_bin od_add (ge_new (gl_comp (own:=["k"]) (N':=["k", "\u00b71", "\u00b72"]) rfl (comp_sc (by kernel_rfl)) (gi_range1 rfl T.b_range (ga_cons (ge_bin od_sub (ge_var (pv 0)) ge_int) ga_nil)) (fun _ _ _ _ _ _=>(gg_name (pg_name (i:=0) (by decide +kernel:(["k", "\u00b71", "\u00b72"]:List Str).Nodup) rfl (by first | exact Or.inl rfl | exact Or.inr rfl)))) (fun _ _ _ _ _ _=>gifs_nil) (fun _ _ _ _ _ _=>(ge_tup (ga_cons (ge_var (pv 0)) (ga_cons (ge_bin od_add (ge_var (pv 0)) ge_int) ga_nil)))))) (ge_new (gl_lst (ga_cons (ge_tup (ga_cons ge_int (ga_cons (ge_bin od_sub (ge_var (pv 0)) ge_int) ga_nil))) ga_nil)))))) gss_nil)
  (gss_cons (gs_if (gt_cmp (od_eq hu) (ge_var (pv 1)) ge_int (nomark _)) (gss_one (gs_ret (ge_call (ok__law_pairs T) (good_none rfl).pass (hr.mono (by decide)) rfl T.d__law_pairs.m T.d__law_pairs.kp T.d__law_pairs.b (ga_cons (ge_var (pv 0)) ga_nil)))) gss_nil)
  (gss_cons (gs_if (gt_cmp (od_eq hu) (ge_var (pv 1)) ge_int (nomark _)) (gss_one (gs_ret (ge_new (gl_comp (own:=["k"]) (N':=["k", "\u00b71", "\u00b72"]) rfl (comp_sc (by kernel_rfl)) (gi_range2 rfl T.b_range (ga_cons ge_int (ga_cons (ge_var (pv 0)) ga_nil))) (fun _ _ _ _ _ _=>(gg_name (pg_name (i:=0) (by decide +kernel:(["k", "\u00b71", "\u00b72"]:List Str).Nodup) rfl (by first | exact Or.inl rfl | exact Or.inr rfl)))) (fun _ _ _ _ _ _=>gifs_nil) (fun _ _ _ _ _ _=>(ge_tup (ga_cons ge_int (ga_cons (ge_var (pv 0)) ga_nil)))))))) gss_nil)
  (gss_one (gs_ret (ge_new (gl_lst ga_nil))))))))
theorem sc__law_ties:FnScope ["script", "first", "places", "pairs", "there", "tie", "k"] ["script", "first", "places"] (defScope s__law_ties):=⟨rfl,rfl,rfl,by decide +kernel,rfl,by decide +kernel,by decide +kernel⟩
theorem nd__law_ties:(["script", "first", "places", "pairs", "there", "tie", "k"]:List Str).Nodup:=sc__law_ties.nd
theorem ok__law_ties (T:Txt K mg W):FnOk P w K mg base (CXG P w) 3 T.d__law_ties.f T.d__law_ties.fd ["script", "first", "places"] (spM K 3 (f__law_ties W)):=by
 refine fn_mirQ (k:=2) T.d__law_ties.F sc__law_ties rfl fun cdv A outer s H E hr=>?_
 have hu:(A.deeper (envOfC "_law_ties" (defScope s__law_ties) s.heap.objs.size T.d__law_ties.f cdv)).units+64 < cLine:=hr.units
 exact (gss_cons (gs_set (i:=3) nd__law_ties rfl (by first | exact Or.inl rfl | exact Or.inr rfl) (ge_call (ok__law_pairs T) (good_none rfl).pass (hr.mono (by decide)) rfl T.d__law_pairs.m T.d__law_pairs.kp T.d__law_pairs.b (ga_cons (ge_var (pv 2)) ga_nil)))
  (gss_cons (gs_set (i:=4) nd__law_ties rfl (by first | exact Or.inl rfl | exact Or.inr rfl) ge_dnewT)
  (gss_cons (gs_for (good_none rfl).own rfl (gi_seq (ge_call (ok__law_first_ties T) (good_none rfl).pass (hr.mono (by decide)) rfl T.d__law_first_ties.m T.d__law_first_ties.kp T.d__law_first_ties.b (ga_cons (ge_var (pv 2)) (ga_cons (ge_bin od_mod (ge_bin od_fdiv (ge_call (ok__law_cell_at T) (good_none rfl).pass (hr.mono (by decide)) rfl T.d__law_cell_at.m T.d__law_cell_at.kp T.d__law_cell_at.b (ga_cons (ge_var (pv 0)) (ga_cons ge_int ga_nil))) ge_int) ge_int) ga_nil)))) (gg_name (pg_name (i:=5) nd__law_ties rfl (by first | exact Or.inl rfl | exact Or.inr rfl)))
  (gss_one (gs_dput (Nat.lt_of_le_of_lt (Nat.add_le_add_left (by decide:1≤64) _) hu) (ge_var (pv 4)) (ge_var (pv 5)) ge_bl rfl)))
  (gss_cons (gs_for (good_none rfl).own rfl (gi_range2 rfl T.b_range (ga_cons (ge_var (pv 1)) (ga_cons (ge_min2 rfl rfl T.b_min (ga_cons (ge_len rfl T.b_len (ge_var (pv 0))) (ga_cons ge_int ga_nil))) ga_nil))) (gg_name (pg_name (i:=6) nd__law_ties rfl (by first | exact Or.inl rfl | exact Or.inr rfl)))
  (gss_cons (gs_set (i:=5) nd__law_ties rfl (by first | exact Or.inl rfl | exact Or.inr rfl) (ge_at hu (ge_var (pv 3)) (ge_bin od_mod (ge_at hu (ge_var (pv 0)) (ge_var (pv 6))) (ge_len rfl T.b_len (ge_var (pv 3))))))
  (gss_one (gs_dput (Nat.lt_of_le_of_lt (Nat.add_le_add_left (by decide:1≤64) _) hu) (ge_var (pv 4)) (ge_var (pv 5)) (L2.ge_or (ge_notin hu (ge_var (pv 5)) (ge_var (pv 4))) (ge_one (ge_not (ge_at hu (ge_var (pv 4)) (ge_var (pv 5)))))) rfl))))
  (gss_one (gs_ret (ge_new (gl_comp (own:=["tie"]) (N':=["tie", "\u00b71", "\u00b72", "\u00b73", "\u00b74", "there", "\u00b76", "\u00b77"]) rfl (comp_sc (by kernel_rfl)) (gi_seq (ge_var (pv 3))) (fun _ _ _ _ _ _=>(gg_name (pg_name (i:=0) (by decide +kernel:(["tie", "\u00b71", "\u00b72", "\u00b73", "\u00b74", "there", "\u00b76", "\u00b77"]:List Str).Nodup) rfl (by first | exact Or.inl rfl | exact Or.inr rfl)))) (fun _ _ _ _ _ _=>(gifs_one (gt_w (gw_and (gt_in hu (ge_var (pv 0)) (ge_var (pv 5))) (gw_and1 (gt_truth (ge_at hu (ge_var (pv 5)) (ge_var (pv 0))))))))) (fun _ _ _ _ _ _=>(ge_var (pv 0)))))))))))
theorem sc__law_handed:FnScope ["script", "ties"] ["script", "ties"] (defScope s__law_handed):=⟨rfl,rfl,rfl,by decide +kernel,rfl,by decide +kernel,by decide +kernel⟩
theorem nd__law_handed:(["script", "ties"]:List Str).Nodup:=sc__law_handed.nd
theorem ok__law_handed (T:Txt K mg W):FnOk P w K mg base (CXG P w) 2 T.d__law_handed.f T.d__law_handed.fd ["script", "ties"] (spM K 2 (f__law_handed W)):=by
 refine fn_mirQ (k:=1) T.d__law_handed.F sc__law_handed rfl fun cdv A outer s H E hr=>?_
 have hu:(A.deeper (envOfC "_law_handed" (defScope s__law_handed) s.heap.objs.size T.d__law_handed.f cdv)).units+64 < cLine:=hr.units
 exact (gss_cons (gs_if (gt_cmp (od_eq hu) (ge_bin od_mod (ge_bin od_fdiv (ge_call (ok__law_cell_at T) (good_none rfl).pass (hr.mono (by decide)) rfl T.d__law_cell_at.m T.d__law_cell_at.kp T.d__law_cell_at.b (ga_cons (ge_var (pv 0)) (ga_cons ge_int ga_nil))) ge_int) ge_int) ge_int (nomark _)) (gss_one (gs_ret (ge_list rfl T.b_list (ge_var (pv 1))))) gss_nil)
  (gss_one (gs_ret (ge_new (gl_comp (own:=["tie"]) (N':=["tie", "\u00b71", "\u00b72"]) rfl (comp_sc (by kernel_rfl)) (gi_rev rfl T.b_reversed (ge_var (pv 1))) (fun _ _ _ _ _ _=>(gg_name (pg_name (i:=0) (by decide +kernel:(["tie", "\u00b71", "\u00b72"]:List Str).Nodup) rfl (by first | exact Or.inl rfl | exact Or.inr rfl)))) (fun _ _ _ _ _ _=>gifs_nil) (fun _ _ _ _ _ _=>(ge_tup (ga_cons (ge_at hu (ge_var (pv 0)) ge_int) (ga_cons (ge_at hu (ge_var (pv 0)) ge_int) ga_nil)))))))))
theorem sc__law_near:FnScope ["ties", "place", "found", "tie"] ["ties", "place"] (defScope s__law_near):=⟨rfl,rfl,rfl,by decide +kernel,rfl,by decide +kernel,by decide +kernel⟩
theorem nd__law_near:(["ties", "place", "found", "tie"]:List Str).Nodup:=sc__law_near.nd
theorem ok__law_near (T:Txt K mg W):FnOk P w K mg base (CXG P w) 1 T.d__law_near.f T.d__law_near.fd ["ties", "place"] (spM K 2 (f__law_near W)):=by
 refine fn_mirQ (k:=0) T.d__law_near.F sc__law_near rfl fun cdv A outer s H E hr=>?_
 have hu:(A.deeper (envOfC "_law_near" (defScope s__law_near) s.heap.objs.size T.d__law_near.f cdv)).units+64 < cLine:=hr.units
 exact (gss_cons (gs_set (i:=2) nd__law_near rfl (by first | exact Or.inl rfl | exact Or.inr rfl) (ge_new (gl_lst ga_nil)))
  (gss_cons (gs_for (good_none rfl).own rfl (gi_seq (ge_var (pv 0))) (gg_name (pg_name (i:=3) nd__law_near rfl (by first | exact Or.inl rfl | exact Or.inr rfl)))
  (gss_one (gs_if (gt_in hu (ge_var (pv 1)) (ge_var (pv 3))) (gss_one (gs_expr (ge_append (ge_var (pv 2)) (ge_bin od_sub (ge_bin od_add (ge_at hu (ge_var (pv 3)) ge_int) (ge_at hu (ge_var (pv 3)) ge_int)) (ge_var (pv 1)))))) gss_nil)))
  (gss_one (gs_ret (ge_sorted rfl rfl T.b_sorted (ge_var (pv 2)))))))
theorem sc__law_sets:FnScope ["places", "guards", "rows", "k", "longer", "row", "least"] ["places", "guards"] (defScope s__law_sets):=⟨rfl,rfl,rfl,by decide +kernel,rfl,by decide +kernel,by decide +kernel⟩
theorem nd__law_sets:(["places", "guards", "rows", "k", "longer", "row", "least"]:List Str).Nodup:=sc__law_sets.nd
theorem ok__law_sets (T:Txt K mg W):FnOk P w K mg base (CXG P w) 1 T.d__law_sets.f T.d__law_sets.fd ["places", "guards"] (spM K 2 (f__law_sets W)):=by
 refine fn_mirQ (k:=0) T.d__law_sets.F sc__law_sets rfl fun cdv A outer s H E hr=>?_
 have hu:(A.deeper (envOfC "_law_sets" (defScope s__law_sets) s.heap.objs.size T.d__law_sets.f cdv)).units+64 < cLine:=hr.units
 exact (gss_cons (gs_set (i:=2) nd__law_sets rfl (by first | exact Or.inl rfl | exact Or.inr rfl) (ge_new (gl_lst (ga_cons (ge_tup ga_nil) ga_nil))))
  (gss_cons (gs_for (good_none rfl).own rfl (gi_range1 rfl T.b_range (ga_cons (ge_var (pv 1)) ga_nil)) (gg_name (pg_name (i:=3) nd__law_sets rfl (by first | exact Or.inl rfl | exact Or.inr rfl)))
  (gss_cons (gs_set (i:=4) nd__law_sets rfl (by first | exact Or.inl rfl | exact Or.inr rfl) (ge_new (gl_lst ga_nil)))
  (gss_cons (gs_for (good_none rfl).own rfl (gi_seq (ge_var (pv 2))) (gg_name (pg_name (i:=5) nd__law_sets rfl (by first | exact Or.inl rfl | exact Or.inr rfl)))
  (gss_cons (gs_set (i:=6) nd__law_sets rfl (by first | exact Or.inl rfl | exact Or.inr rfl) ge_int)
  (gss_cons (gs_if (gt_cmp (od_ne hu) (ge_var (pv 5)) (ge_tup ga_nil) (nomark _)) (gss_one (gs_set (i:=6) nd__law_sets rfl (by first | exact Or.inl rfl | exact Or.inr rfl) (ge_bin od_add (ge_at hu (ge_var (pv 5)) (ge_neg ge_int)) ge_int))) gss_nil)
  (gss_one (gs_expr (ge_extend (ge_var (pv 4)) (ge_new (gl_comp (own:=["place"]) (N':=["place", "\u00b71", "\u00b72", "\u00b73", "\u00b74", "\u00b75", "row", "\u00b77"]) rfl (comp_sc (by kernel_rfl)) (gi_range2 rfl T.b_range (ga_cons (ge_var (pv 6)) (ga_cons (ge_bin od_add (ge_bin od_add (ge_bin od_sub (ge_var (pv 0)) (ge_var (pv 1))) (ge_var (pv 3))) ge_int) ga_nil))) (fun _ _ _ _ _ _=>(gg_name (pg_name (i:=0) (by decide +kernel:(["place", "\u00b71", "\u00b72", "\u00b73", "\u00b74", "\u00b75", "row", "\u00b77"]:List Str).Nodup) rfl (by first | exact Or.inl rfl | exact Or.inr rfl)))) (fun _ _ _ _ _ _=>gifs_nil) (fun _ _ _ _ _ _=>(ge_bin od_add (ge_var (pv 6)) (ge_tup (ga_cons (ge_var (pv 0)) ga_nil))))))))))))
  (gss_one (gs_set (i:=2) nd__law_sets rfl (by first | exact Or.inl rfl | exact Or.inr rfl) (ge_var (pv 4)))))))
  (gss_one (gs_ret (ge_var (pv 2))))))
theorem sc__law_answers:FnScope ["ties", "standing", "call", "kind", "some", "rows", "guard", "steps", "longer", "row"] ["ties", "standing", "call", "kind"] (defScope s__law_answers):=⟨rfl,rfl,rfl,by decide +kernel,rfl,by decide +kernel,by decide +kernel⟩
theorem nd__law_answers:(["ties", "standing", "call", "kind", "some", "rows", "guard", "steps", "longer", "row"]:List Str).Nodup:=sc__law_answers.nd
theorem ok__law_answers (T:Txt K mg W):FnOk P w K mg base (CXG P w) 2 T.d__law_answers.f T.d__law_answers.fd ["ties", "standing", "call", "kind"] (spM K 4 (f__law_answers W)):=by
 refine fn_mirQ (k:=1) T.d__law_answers.F sc__law_answers rfl fun cdv A outer s H E hr=>?_
 have hu:(A.deeper (envOfC "_law_answers" (defScope s__law_answers) s.heap.objs.size T.d__law_answers.f cdv)).units+64 < cLine:=hr.units
 exact (gss_cons (gs_if (gt_cmp (od_eq hu) (ge_var (pv 3)) ge_str (nomark _)) (gss_cons (gs_comp (i:=4) (own:=["k"]) (N':=["k", "ties", "standing", "call", "\u00b74", "\u00b75", "\u00b76", "\u00b77", "\u00b78", "\u00b79", "\u00b710"]) rfl rfl nd__law_answers rfl (by first | exact Or.inl rfl | exact Or.inr rfl) (comp_sc (by kernel_rfl)) (gi_range1 rfl T.b_range (ga_cons (ge_len rfl T.b_len (ge_var (pv 1))) ga_nil)) (fun _ _ _ _ _ _=>(gg_name (pg_name (i:=0) (by decide +kernel:(["k", "ties", "standing", "call", "\u00b74", "\u00b75", "\u00b76", "\u00b77", "\u00b78", "\u00b79", "\u00b710"]:List Str).Nodup) rfl (by first | exact Or.inl rfl | exact Or.inr rfl)))) (fun _ _ _ _ _ _=>(gifs_one (gt_in hu (ge_var (pv 3)) (ge_call (ok__law_near T) (good_none rfl).pass (hr.mono (by decide)) rfl T.d__law_near.m T.d__law_near.kp T.d__law_near.b (ga_cons (ge_var (pv 1)) (ga_cons (ge_at hu (ge_var (pv 2)) (ge_var (pv 0))) ga_nil)))))) (fun _ _ _ _ _ _=>(ge_var (pv 0))))
  (gss_one (gs_ret (ge_sorted rfl rfl T.b_sorted (ge_new (gl_comp (own:=["k"]) (N':=["k", "\u00b71", "standing", "call", "\u00b74", "\u00b75", "\u00b76", "\u00b77", "\u00b78", "\u00b79", "\u00b710"]) rfl (comp_sc (by kernel_rfl)) (gi_seq (ge_var (pv 4))) (fun _ _ _ _ _ _=>(gg_name (pg_name (i:=0) (by decide +kernel:(["k", "\u00b71", "standing", "call", "\u00b74", "\u00b75", "\u00b76", "\u00b77", "\u00b78", "\u00b79", "\u00b710"]:List Str).Nodup) rfl (by first | exact Or.inl rfl | exact Or.inr rfl)))) (fun _ _ _ _ _ _=>gifs_nil) (fun _ _ _ _ _ _=>(ge_bin od_add (ge_bin od_add (ge_sliceW (ge_var (pv 2)) go_none (go_some (ge_var (pv 0)))) (ge_tup (ga_cons (ge_var (pv 3)) ga_nil))) (ge_sliceW (ge_var (pv 2)) (go_some (ge_bin od_add (ge_var (pv 0)) ge_int)) go_none))))))))) gss_nil)
  (gss_cons (gs_set (i:=5) nd__law_answers rfl (by first | exact Or.inl rfl | exact Or.inr rfl) (ge_new (gl_lst (ga_cons (ge_tup ga_nil) ga_nil))))
  (gss_cons (gs_for (good_none rfl).own rfl (gi_seq (ge_var (pv 1))) (gg_name (pg_name (i:=6) nd__law_answers rfl (by first | exact Or.inl rfl | exact Or.inr rfl)))
  (gss_cons (gs_set (i:=7) nd__law_answers rfl (by first | exact Or.inl rfl | exact Or.inr rfl) (ge_bin od_add (ge_new (gl_lst (ga_cons (ge_var (pv 6)) ga_nil))) (ge_call (ok__law_near T) (good_none rfl).pass (hr.mono (by decide)) rfl T.d__law_near.m T.d__law_near.kp T.d__law_near.b (ga_cons (ge_var (pv 0)) (ga_cons (ge_var (pv 6)) ga_nil)))))
  (gss_cons (gs_set (i:=8) nd__law_answers rfl (by first | exact Or.inl rfl | exact Or.inr rfl) (ge_new (gl_lst ga_nil)))
  (gss_cons (gs_for (good_none rfl).own rfl (gi_seq (ge_var (pv 5))) (gg_name (pg_name (i:=9) nd__law_answers rfl (by first | exact Or.inl rfl | exact Or.inr rfl)))
  (gss_one (gs_expr (ge_extend (ge_var (pv 8)) (ge_new (gl_comp (own:=["place"]) (N':=["place", "\u00b71", "\u00b72", "\u00b73", "\u00b74", "\u00b75", "\u00b76", "\u00b77", "\u00b78", "\u00b79", "row"]) rfl (comp_sc (by kernel_rfl)) (gi_seq (ge_var (pv 7))) (fun _ _ _ _ _ _=>(gg_name (pg_name (i:=0) (by decide +kernel:(["place", "\u00b71", "\u00b72", "\u00b73", "\u00b74", "\u00b75", "\u00b76", "\u00b77", "\u00b78", "\u00b79", "row"]:List Str).Nodup) rfl (by first | exact Or.inl rfl | exact Or.inr rfl)))) (fun _ _ _ _ _ _=>(gifs_one (gt_notin hu (ge_var (pv 0)) (ge_var (pv 10))))) (fun _ _ _ _ _ _=>(ge_bin od_add (ge_var (pv 10)) (ge_tup (ga_cons (ge_var (pv 0)) ga_nil))))))))))
  (gss_one (gs_set (i:=5) nd__law_answers rfl (by first | exact Or.inl rfl | exact Or.inr rfl) (ge_var (pv 8))))))))
  (gss_one (gs_ret (ge_sorted rfl rfl T.b_sorted (ge_new (gl_comp (own:=["row"]) (N':=["row", "\u00b71", "\u00b72", "call", "\u00b74", "\u00b75", "\u00b76", "\u00b77", "\u00b78", "\u00b79", "\u00b710"]) rfl (comp_sc (by kernel_rfl)) (gi_seq (ge_var (pv 5))) (fun _ _ _ _ _ _=>(gg_name (pg_name (i:=0) (by decide +kernel:(["row", "\u00b71", "\u00b72", "call", "\u00b74", "\u00b75", "\u00b76", "\u00b77", "\u00b78", "\u00b79", "\u00b710"]:List Str).Nodup) rfl (by first | exact Or.inl rfl | exact Or.inr rfl)))) (fun _ _ _ _ _ _=>(gifs_one (gt_in hu (ge_var (pv 3)) (ge_var (pv 0))))) (fun _ _ _ _ _ _=>(ge_var (pv 0)))))))))))
theorem sc__law_is:FnScope ["ties", "standing", "call", "kind", "told", "gone", "k"] ["ties", "standing", "call", "kind", "told"] (defScope s__law_is):=⟨rfl,rfl,rfl,by decide +kernel,rfl,by decide +kernel,by decide +kernel⟩
theorem nd__law_is:(["ties", "standing", "call", "kind", "told", "gone", "k"]:List Str).Nodup:=sc__law_is.nd
theorem ok__law_is (T:Txt K mg W):FnOk P w K mg base (CXG P w) 2 T.d__law_is.f T.d__law_is.fd ["ties", "standing", "call", "kind", "told"] (spM K 5 (f__law_is W)):=by
 refine fn_mirQ (k:=1) T.d__law_is.F sc__law_is rfl fun cdv A outer s H E hr=>?_
 have hu:(A.deeper (envOfC "_law_is" (defScope s__law_is) s.heap.objs.size T.d__law_is.f cdv)).units+64 < cLine:=hr.units
 exact (gss_cons (gs_if (gt_w (gw_or (gt_cmp (od_ne hu) (ge_len rfl T.b_len (ge_var (pv 4))) (ge_len rfl T.b_len (ge_var (pv 1))) (nomark _)) (gw_or1 (gt_notin hu (ge_var (pv 2)) (ge_var (pv 4)))))) (gss_one (gs_ret ge_bl)) gss_nil)
  (gss_cons (gs_set (i:=5) nd__law_is rfl (by first | exact Or.inl rfl | exact Or.inr rfl) ge_int)
  (gss_cons (gs_for (good_none rfl).own rfl (gi_range1 rfl T.b_range (ga_cons (ge_len rfl T.b_len (ge_var (pv 4))) ga_nil)) (gg_name (pg_name (i:=6) nd__law_is rfl (by first | exact Or.inl rfl | exact Or.inr rfl)))
  (gss_cons (gs_if (gt_in hu (ge_at hu (ge_var (pv 4)) (ge_var (pv 6))) (ge_sliceW (ge_var (pv 4)) go_none (go_some (ge_var (pv 6))))) (gss_one (gs_ret ge_bl)) gss_nil)
  (gss_one (gs_if (gt_cmp (od_ne hu) (ge_at hu (ge_var (pv 4)) (ge_var (pv 6))) (ge_at hu (ge_var (pv 1)) (ge_var (pv 6))) (nomark _)) (gss_cons (gs_set (i:=5) nd__law_is rfl (by first | exact Or.inl rfl | exact Or.inr rfl) (ge_bin od_add (ge_var (pv 5)) ge_int))
  (gss_one (gs_if (gt_notin hu (ge_at hu (ge_var (pv 4)) (ge_var (pv 6))) (ge_call (ok__law_near T) (good_none rfl).pass (hr.mono (by decide)) rfl T.d__law_near.m T.d__law_near.kp T.d__law_near.b (ga_cons (ge_var (pv 0)) (ga_cons (ge_at hu (ge_var (pv 1)) (ge_var (pv 6))) ga_nil)))) (gss_one (gs_ret ge_bl)) gss_nil))) gss_nil))))
  (gss_one (gs_ret (L2.ge_or (ge_cmp (od_eq hu) (ge_var (pv 3)) ge_str (nomark _)) (ge_one (ge_cmp (od_eq hu) (ge_var (pv 5)) ge_int (nomark _)))))))))
theorem sc__law_spoilt:FnScope ["row", "cell", "places", "at", "other", "some"] ["row", "cell", "places"] (defScope s__law_spoilt):=⟨rfl,rfl,rfl,by decide +kernel,rfl,by decide +kernel,by decide +kernel⟩
theorem nd__law_spoilt:(["row", "cell", "places", "at", "other", "some"]:List Str).Nodup:=sc__law_spoilt.nd
theorem ok__law_spoilt (T:Txt K mg W):FnOk P w K mg base (CXG P w) 1 T.d__law_spoilt.f T.d__law_spoilt.fd ["row", "cell", "places"] (spM K 3 (f__law_spoilt W)):=by
 refine fn_mirQ (k:=0) T.d__law_spoilt.F sc__law_spoilt rfl fun cdv A outer s H E hr=>?_
 have hu:(A.deeper (envOfC "_law_spoilt" (defScope s__law_spoilt) s.heap.objs.size T.d__law_spoilt.f cdv)).units+64 < cLine:=hr.units
 exact (gss_cons (gs_set (i:=3) nd__law_spoilt rfl (by first | exact Or.inl rfl | exact Or.inr rfl) (ge_bin od_mod (ge_var (pv 1)) (ge_len rfl T.b_len (ge_var (pv 0)))))
  (gss_cons (gs_set (i:=4) nd__law_spoilt rfl (by first | exact Or.inl rfl | exact Or.inr rfl) (ge_bin od_sub (ge_bin od_mod (ge_bin od_fdiv (ge_var (pv 1)) ge_int) (ge_bin od_add (ge_var (pv 2)) ge_int)) ge_int))
  (gss_cons (gs_set (i:=5) nd__law_spoilt rfl (by first | exact Or.inl rfl | exact Or.inr rfl) (ge_new (gl_lst (ga_cons (ge_var (pv 0)) (ga_cons (ge_bin od_add (ge_bin od_add (ge_sliceW (ge_var (pv 0)) go_none (go_some (ge_var (pv 3)))) (ge_tup (ga_cons (ge_var (pv 4)) ga_nil))) (ge_sliceW (ge_var (pv 0)) (go_some (ge_bin od_add (ge_var (pv 3)) ge_int)) go_none)) (ga_cons (ge_bin od_add (ge_var (pv 0)) (ge_tup (ga_cons (ge_var (pv 4)) ga_nil))) (ga_cons (ge_sliceW (ge_var (pv 0)) go_none (go_some (ge_neg ge_int))) ga_nil)))))))
  (gss_cons (gs_expr (ge_append (ge_var (pv 5)) (ge_bin od_add (ge_bin od_add (ge_sliceW (ge_var (pv 0)) go_none (go_some (ge_var (pv 3)))) (ge_tup (ga_cons (ge_at hu (ge_var (pv 0)) (ge_bin od_mod (ge_bin od_fdiv (ge_var (pv 1)) ge_int) (ge_len rfl T.b_len (ge_var (pv 0))))) ga_nil))) (ge_sliceW (ge_var (pv 0)) (go_some (ge_bin od_add (ge_var (pv 3)) ge_int)) go_none))))
  (gss_cons (gs_expr (ge_append (ge_var (pv 5)) (ge_bin od_add (ge_sliceW (ge_var (pv 0)) (go_some ge_int) go_none) (ge_sliceW (ge_var (pv 0)) go_none (go_some ge_int)))))
  (gss_cons (gs_expr (ge_append (ge_var (pv 5)) (ge_bin od_add (ge_bin od_add (ge_sliceW (ge_var (pv 0)) go_none (go_some (ge_var (pv 3)))) (ge_tup (ga_cons (ge_bin od_add (ge_at hu (ge_var (pv 0)) (ge_var (pv 3))) (ge_bin od_pow ge_int ge_int)) ga_nil))) (ge_sliceW (ge_var (pv 0)) (go_some (ge_bin od_add (ge_var (pv 3)) ge_int)) go_none))))
  (gss_one (gs_ret (ge_var (pv 5))))))))))
theorem sc__law_any:FnScope ["cell", "size", "places", "row", "k"] ["cell", "size", "places"] (defScope s__law_any):=⟨rfl,rfl,rfl,by decide +kernel,rfl,by decide +kernel,by decide +kernel⟩
theorem nd__law_any:(["cell", "size", "places", "row", "k"]:List Str).Nodup:=sc__law_any.nd
theorem ok__law_any (T:Txt K mg W):FnOk P w K mg base (CXG P w) 1 T.d__law_any.f T.d__law_any.fd ["cell", "size", "places"] (spM K 3 (f__law_any W)):=by
 refine fn_mirQ (k:=0) T.d__law_any.F sc__law_any rfl fun cdv A outer s H E hr=>?_
 have hu:(A.deeper (envOfC "_law_any" (defScope s__law_any) s.heap.objs.size T.d__law_any.f cdv)).units+64 < cLine:=hr.units
 exact (gss_cons (gs_set (i:=3) nd__law_any rfl (by first | exact Or.inl rfl | exact Or.inr rfl) (ge_new (gl_lst ga_nil)))
  (gss_cons (gs_for (good_none rfl).own rfl (gi_range1 rfl T.b_range (ga_cons (ge_var (pv 1)) ga_nil)) (gg_name (pg_name (i:=4) nd__law_any rfl (by first | exact Or.inl rfl | exact Or.inr rfl)))
  (gss_cons (gs_expr (ge_append (ge_var (pv 3)) (ge_bin od_sub (ge_bin od_mod (ge_var (pv 0)) (ge_bin od_add (ge_var (pv 2)) ge_int)) (ge_int1 rfl T.b_int (ge_cmp (od_eq hu) (ge_bin od_mod (ge_var (pv 0)) ge_int) ge_int (nomark _))))))
  (gss_one (gs_set (i:=0) nd__law_any rfl (by first | exact Or.inl rfl | exact Or.inr rfl) (ge_bin od_fdiv (ge_var (pv 0)) (ge_bin od_add (ge_var (pv 2)) ge_int))))))
  (gss_one (gs_ret (ge_tuple rfl T.b_tuple (ge_var (pv 3)))))))
theorem sc_law:FnScope ["script", "head", "places", "ties", "web", "guards", "some", "cell", "standing", "free", "call", "rows", "good", "told", "kind", "found"] ["script"] (defScope s_law):=⟨rfl,rfl,rfl,by decide +kernel,rfl,by decide +kernel,by decide +kernel⟩
theorem nd_law:(["script", "head", "places", "ties", "web", "guards", "some", "cell", "standing", "free", "call", "rows", "good", "told", "kind", "found"]:List Str).Nodup:=sc_law.nd
theorem ok_law (T:Txt K mg W):FnOk P w K mg base (CXG P w) 4 T.d_law.f T.d_law.fd ["script"] (spM K 1 (f_law W)):=by
 refine fn_mirQ (k:=3) T.d_law.F sc_law rfl fun cdv A outer s H E hr=>?_
 have hu:(A.deeper (envOfC "law" (defScope s_law) s.heap.objs.size T.d_law.f cdv)).units+64 < cLine:=hr.units
 exact (gss_cons (gs_set (i:=1) nd_law rfl (by first | exact Or.inl rfl | exact Or.inr rfl) (ge_call (ok__law_cell_at T) (good_none rfl).pass (hr.mono (by decide)) rfl T.d__law_cell_at.m T.d__law_cell_at.kp T.d__law_cell_at.b (ga_cons (ge_var (pv 0)) (ga_cons ge_int ga_nil))))
  (gss_cons (gs_set (i:=2) nd_law rfl (by first | exact Or.inl rfl | exact Or.inr rfl) (ge_bin od_add (ge_bin od_add ge_int (ge_bin od_mod (ge_var (pv 1)) ge_int)) (ge_int1 rfl T.b_int (ge_cmp (od_eq hu) (ge_bin od_mod (ge_bin od_fdiv (ge_var (pv 1)) ge_int) ge_int) ge_int (nomark _)))))
  (gss_cons (gs_set (i:=3) nd_law rfl (by first | exact Or.inl rfl | exact Or.inr rfl) (ge_call (ok__law_ties T) (good_none rfl).pass (hr.mono (by decide)) rfl T.d__law_ties.m T.d__law_ties.kp T.d__law_ties.b (ga_cons (ge_var (pv 0)) (ga_cons ge_int (ga_cons (ge_var (pv 2)) ga_nil)))))
  (gss_cons (gs_set (i:=4) nd_law rfl (by first | exact Or.inl rfl | exact Or.inr rfl) (ge_make T.c_Web.mk' (ok_Web_init T) (good_none rfl).pass (hr.mono (by decide)) rfl T.c_Web.m T.d_Web_init.b (ga_cons (ge_var (pv 2)) (ga_cons (ge_call (ok__law_handed T) (good_none rfl).pass (hr.mono (by decide)) rfl T.d__law_handed.m T.d__law_handed.kp T.d__law_handed.b (ga_cons (ge_var (pv 0)) (ga_cons (ge_var (pv 3)) ga_nil))) ga_nil))))
  (gss_cons (gs_set (i:=5) nd_law rfl (by first | exact Or.inl rfl | exact Or.inr rfl) (ge_bin od_add ge_int (ge_bin od_mod (ge_call (ok__law_cell_at T) (good_none rfl).pass (hr.mono (by decide)) rfl T.d__law_cell_at.m T.d__law_cell_at.kp T.d__law_cell_at.b (ga_cons (ge_var (pv 0)) (ga_cons ge_int ga_nil))) (ge_bin od_sub (ge_var (pv 2)) ge_int))))
  (gss_cons (gs_set (i:=6) nd_law rfl (by first | exact Or.inl rfl | exact Or.inr rfl) (ge_call (ok__law_sets T) (good_none rfl).pass (hr.mono (by decide)) rfl T.d__law_sets.m T.d__law_sets.kp T.d__law_sets.b (ga_cons (ge_var (pv 2)) (ga_cons (ge_var (pv 5)) ga_nil))))
  (gss_cons (gs_set (i:=7) nd_law rfl (by first | exact Or.inl rfl | exact Or.inr rfl) (ge_call (ok__law_cell_at T) (good_none rfl).pass (hr.mono (by decide)) rfl T.d__law_cell_at.m T.d__law_cell_at.kp T.d__law_cell_at.b (ga_cons (ge_var (pv 0)) (ga_cons ge_int ga_nil))))
  (gss_cons (gs_set (i:=8) nd_law rfl (by first | exact Or.inl rfl | exact Or.inr rfl) (ge_at hu (ge_var (pv 6)) (ge_bin od_mod (ge_var (pv 7)) (ge_len rfl T.b_len (ge_var (pv 6))))))
  (gss_cons (gs_comp (i:=9) (own:=["place"]) (N':=["place", "\u00b71", "\u00b72", "\u00b73", "\u00b74", "\u00b75", "\u00b76", "\u00b77", "\u00b78", "standing", "\u00b710", "\u00b711", "\u00b712", "\u00b713", "\u00b714", "\u00b715", "\u00b716"]) rfl rfl nd_law rfl (by first | exact Or.inl rfl | exact Or.inr rfl) (comp_sc (by kernel_rfl)) (gi_range1 rfl T.b_range (ga_cons (ge_var (pv 2)) ga_nil)) (fun _ _ _ _ _ _=>(gg_name (pg_name (i:=0) (by decide +kernel:(["place", "\u00b71", "\u00b72", "\u00b73", "\u00b74", "\u00b75", "\u00b76", "\u00b77", "\u00b78", "standing", "\u00b710", "\u00b711", "\u00b712", "\u00b713", "\u00b714", "\u00b715", "\u00b716"]:List Str).Nodup) rfl (by first | exact Or.inl rfl | exact Or.inr rfl)))) (fun _ _ _ _ _ _=>(gifs_one (gt_notin hu (ge_var (pv 0)) (ge_var (pv 9))))) (fun _ _ _ _ _ _=>(ge_var (pv 0))))
  (gss_cons (gs_set (i:=10) nd_law rfl (by first | exact Or.inl rfl | exact Or.inr rfl) (ge_at hu (ge_var (pv 9)) (ge_bin od_mod (ge_bin od_fdiv (ge_var (pv 7)) ge_int) (ge_len rfl T.b_len (ge_var (pv 9))))))
  (gss_cons (gs_set (i:=11) nd_law rfl (by first | exact Or.inl rfl | exact Or.inr rfl) (ge_new (gl_lst (ga_cons (ge_var (pv 8)) (ga_cons (ge_call (ok__law_any T) (good_none rfl).pass (hr.mono (by decide)) rfl T.d__law_any.m T.d__law_any.kp T.d__law_any.b (ga_cons (ge_call (ok__law_cell_at T) (good_none rfl).pass (hr.mono (by decide)) rfl T.d__law_cell_at.m T.d__law_cell_at.kp T.d__law_cell_at.b (ga_cons (ge_var (pv 0)) (ga_cons ge_int ga_nil))) (ga_cons (ge_var (pv 5)) (ga_cons (ge_var (pv 2)) ga_nil)))) (ga_cons (ge_tup ga_nil) ga_nil))))))
  (gss_cons (gs_set (i:=12) nd_law rfl (by first | exact Or.inl rfl | exact Or.inr rfl) (ge_slice (ge_call (ok__law_answers T) (good_none rfl).pass (hr.mono (by decide)) rfl T.d__law_answers.m T.d__law_answers.kp T.d__law_answers.b (ga_cons (ge_var (pv 3)) (ga_cons (ge_var (pv 8)) (ga_cons (ge_var (pv 10)) (ga_cons ge_str ga_nil))))) go_none (go_some ge_int)))
  (gss_cons (gs_expr (ge_append (ge_var (pv 11)) (ge_at hu (ge_bin od_add (ge_var (pv 12)) (ge_new (gl_lst (ga_cons (ge_var (pv 8)) ga_nil)))) (ge_bin od_mod (ge_call (ok__law_cell_at T) (good_none rfl).pass (hr.mono (by decide)) rfl T.d__law_cell_at.m T.d__law_cell_at.kp T.d__law_cell_at.b (ga_cons (ge_var (pv 0)) (ga_cons ge_int ga_nil))) (ge_bin od_add (ge_len rfl T.b_len (ge_var (pv 12))) ge_int)))))
  (gss_cons (gs_set (i:=11) nd_law rfl (by first | exact Or.inl rfl | exact Or.inr rfl) (ge_bin od_add (ge_bin od_add (ge_var (pv 11)) (ge_var (pv 12))) (ge_call (ok__law_spoilt T) (good_none rfl).pass (hr.mono (by decide)) rfl T.d__law_spoilt.m T.d__law_spoilt.kp T.d__law_spoilt.b (ga_cons (ge_at hu (ge_var (pv 11)) ge_int) (ga_cons (ge_call (ok__law_cell_at T) (good_none rfl).pass (hr.mono (by decide)) rfl T.d__law_cell_at.m T.d__law_cell_at.kp T.d__law_cell_at.b (ga_cons (ge_var (pv 0)) (ga_cons ge_int ga_nil))) (ga_cons (ge_var (pv 2)) ga_nil))))))
  (gss_cons (gs_for (good_none rfl).own rfl (gi_seq (ge_var (pv 11))) (gg_name (pg_name (i:=13) nd_law rfl (by first | exact Or.inl rfl | exact Or.inr rfl)))
  (gss_one (gs_for (good_none rfl).own rfl (gi_seq (ge_new (gl_lst (ga_cons ge_str (ga_cons ge_str ga_nil))))) (gg_name (pg_name (i:=14) nd_law rfl (by first | exact Or.inl rfl | exact Or.inr rfl)))
  (gss_cons (gs_set (i:=15) nd_law rfl (by first | exact Or.inl rfl | exact Or.inr rfl) (ge_call (ok_is_answer T) (good_none rfl).pass (hr.mono (by decide)) rfl T.d_is_answer.m T.d_is_answer.kp T.d_is_answer.b (ga_cons (ge_var (pv 4)) (ga_cons (ge_var (pv 8)) (ga_cons (ge_var (pv 10)) (ga_cons (ge_var (pv 14)) (ga_cons (ge_var (pv 13)) ga_nil)))))))
  (gss_one (gs_if (gt_w (gw_or (gt_not (gt_val (ge_isQ (c:=.ty "bool") (cv:=.type "bool") (fun _ r=>r) isB_bool rfl T.b_isinstance (ge_var (pv 15)) (pe_bltn rfl T.b_bool PyProof.Rows.boot_bool rfl)))) (gw_or1 (gt_cmp (od_ne hu) (ge_var (pv 15)) (ge_call (ok__law_is T) (good_none rfl).pass (hr.mono (by decide)) rfl T.d__law_is.m T.d__law_is.kp T.d__law_is.b (ga_cons (ge_var (pv 3)) (ga_cons (ge_var (pv 8)) (ga_cons (ge_var (pv 10)) (ga_cons (ge_var (pv 14)) (ga_cons (ge_var (pv 13)) ga_nil)))))) (nomark _))))) (gss_one (gs_ret ge_bl)) gss_nil))))))
  (gss_one (gs_ret ge_bl)))))))))))))))))
end
end M
namespace M
open PySem L2
open Srt (ltL)
noncomputable def pairD (x:Int×Int):D:=.tup [.int x.1,.int x.2]
noncomputable def nrm (x:Int×Int):Int×Int:=(if x.2 < x.1 then x.2 else x.1,if x.2 > x.1 then x.2 else x.1)
noncomputable def rowP (x:Int×Int):List Int:=[x.1,x.2]
noncomputable def keyP (x:Int×Int):List Key:=[.inl x.1,.inl x.2]
theorem keyP_inj {x y:Int×Int} (h:keyP x=keyP y):x=y:=by
 unfold keyP at h;simp at h;exact Prod.ext h.1 h.2
theorem intsD_ints:∀ns:List Int,intsD (ns.map D.int)=some ns
 | []=>rfl
 | n :: ns=>by
  rw [List.map_cons];unfold intsD;rw [intsD_ints ns];rfl
theorem rowsD_rows:∀rs:List (List Int),(∀r∈rs,r≠[])→rowsD (rs.map rowD)=some rs
 | [],_=>rfl
 | [] :: rs,h=>absurd rfl (h [] List.mem_cons_self)
 | (n :: ns) :: rs,h=>by
  rw [List.map_cons];unfold rowD rowsD;rw [intsD_ints,show List.map (fun r:List Int=>D.tup (r.map D.int)) rs=rs.map rowD from rfl,rowsD_rows rs fun r hr=>h r (List.mem_cons_of_mem _ hr)]
theorem sortD_rows (rs:List (List Int)) (h:∀r∈rs,r≠[]):sortD (rs.map rowD)=some ((sortR rs).map rowD):=by
 unfold sortD
 cases rs with
 | nil=>simp [intsD,sortR]
 | cons r rs=>
  have:intsD ((r :: rs).map rowD)=none:=rfl;rw [this,rowsD_rows _ h]
theorem sortD_ints (ns:List Int):sortD (ns.map D.int)=some ((sortZ ns).map D.int):=by
 unfold sortD;rw [intsD_ints]
noncomputable def metT (ps:List (Int×Int)):List (List Key×D):=ps.map fun x=>(keyP (nrm x),.bl true)
theorem metT_get (ps:List (Int×Int)) (x:Int×Int):(valG (metT ps) (keyP (nrm x))).isSome=decide (nrm x∈ps.map nrm):=by
 unfold valG metT
 induction ps with
 | nil=>rfl
 | cons y ps ih=>
  rw [List.map_cons,List.find?_cons]
  by_cases e:keyP (nrm y)=keyP (nrm x)
  ·rw [decide_eq_true e]
   simp [keyP_inj e]
  ·rw [decide_eq_false e]
   have e':nrm x≠nrm y:=fun z=>e (by rw [z])
   simp only [List.map_cons,List.mem_cons,e',false_or];exact ih
theorem metT_put (ps:List (Int×Int)) (x:Int×Int) (h:nrm x∉ps.map nrm):putG (metT ps) (keyP (nrm x)) (.bl true)=metT (ps++[x]):=by
 unfold putG;rw [if_neg]
 ·simp [metT]
 ·intro z
  obtain ⟨y,hy,e⟩:=List.any_eq_true.mp z;obtain ⟨a,ha,rfl⟩:=List.mem_map.mp hy;exact h (by rw [←keyP_inj (of_decide_eq_true e)];exact List.mem_map_of_mem ha)
theorem in_dT {S:Sto} {n:Nat} {kvs:List (List Key×D)} {x:Int×Int} (h:S[n]?=some (.dT kvs)) (neg:Bool):inA neg (pairD x) (.ref n) S=.ok (.bl (if neg then !(valG kvs (keyP x)).isSome else (valG kvs (keyP x)).isSome)) S:=by
 show orElse (inD neg (pairD x) (.ref n) S) (dinD neg (pairD x) (.ref n) S)=_
 have e:inD neg (pairD x) (.ref n) S=.bad:=by
  unfold inD seqD;dsimp only;rw [h]
 have e2:dGet (.ref n) (pairD x) S=some (valG kvs (keyP x)):=by
  unfold dGet pairD;dsimp only;rw [h];rfl
 rw [e];show dinD neg (pairD x) (.ref n) S=_;unfold dinD;rw [e2]
theorem dputT_ok {mo mi mv:ME} {e:Lo} {S:Sto} {d:Nat} {kvs:List (List Key×D)} {x:Int×Int} {v:D} (hv:mv e S=.ok v S) (ho:mo e S=.ok (.ref d) S) (hi:mi e S=.ok (pairD x) S) (h:S[d]?=some (.dT kvs)) (hl:kvs.length < sizeLine) :
  sDPutM mo mi mv e S=.ok (.nx e) (S.set d (.dT (putG kvs (keyP x) v))):=by
 unfold sDPutM;rw [hv];dsimp only [Res.lift];rw [ho];dsimp only [Res.lift];rw [hi];dsimp only [Res.lift]
 have:dPut (.ref d) (pairD x) v S=some (S.set d (.dT (putG kvs (keyP x) v))):=by
  unfold dPut pairD;dsimp only;rw [h];show (if kvs.length < sizeLine then some (S.set d (.dT (putG kvs (keyP x) v))) else none)=_;rw [if_pos hl]
 rw [this]
theorem ix0 (x:Int×Int) (S:Sto):ixA (pairD x) (.int 0) S=.ok (.int x.1) S:=rfl
theorem ix1 (x:Int×Int) (S:Sto):ixA (pairD x) (.int 1) S=.ok (.int x.2) S:=rfl
noncomputable def Fit (p:Int) (x:Int×Int):Prop:=(nrm x).1≠(nrm x).2∧0≤(nrm x).1∧(nrm x).2 < p
noncomputable abbrev bTie (W:Wd):MS:=sSeq (sSet 5 (mTup (mCons (mQ min2F (mCons (mVar 3) (mCons (mVar 4) mNil))) (mCons (mQ max2F (mCons (mVar 3) (mCons (mVar 4) mNil))) mNil))))
  (sSeq (sIf (mB (m2 (eqD false) (m2 ixA (mVar 5) (mC (.int 0))) (m2 ixA (mVar 5) (mC (.int 1))))) sBad sNx)
  (sSeq (sIf (mOr (mB (m2 ltD (m2 ixA (mVar 5) (mC (.int 0))) (mC (.int 0)))) (mB (m2 geD (m2 ixA (mVar 5) (mC (.int 1))) (mVar 0)))) sBad sNx)
  (sSeq (sIf (mB (m2 (inA false) (mVar 5) (mVar 2))) sBad sNx)
  (sDPutM (mVar 2) (mVar 5) (mC (.bl true))))))
theorem no_skip {t:MT} {a:MS} {e:Lo} {S:Sto} (h:t e S=.ok false S):sIf t a sNx e S=.ok (.nx e) S:=(if_ok (a:=a) (b:=sNx) h).trans rfl
theorem tie_step {W:Wd} {p:Int} {t:D} {n:Nat} {S:Sto} {x:Int×Int} {z5:Option D} {ps:List (Int×Int)} (hn:S[n]?=some (.dT (metT ps))) (hl:ps.length≤100000) (hf:Fit p x) (f4:nrm x∉ps.map nrm) :
  bTie W [some (.int p),some t,some (.ref n),some (.int x.1),some (.int x.2),z5] S=.ok (.nx [some (.int p),some t,some (.ref n),some (.int x.1),some (.int x.2),some (pairD (nrm x))]) (S.set n (.dT (metT (ps++[x])))):=by
 have e0:sSet 5 (mTup (mCons (mQ min2F (mCons (mVar 3) (mCons (mVar 4) mNil))) (mCons (mQ max2F (mCons (mVar 3) (mCons (mVar 4) mNil))) mNil))) [some (.int p),some t,some (.ref n),some (.int x.1),some (.int x.2),z5] S =
   .ok (.nx [some (.int p),some t,some (.ref n),some (.int x.1),some (.int x.2),some (pairD (nrm x))]) S:=
  set_ok (i:=5) (tup_ok (ds:=[.int (nrm x).1,.int (nrm x).2]) (cons_ok (q_ok (ds:=[.int x.1,.int x.2]) (S1:=S) rfl rfl) (cons_ok (q_ok (ds:=[.int x.1,.int x.2]) (S1:=S) rfl rfl) rfl)) (by simp))
 obtain ⟨f1,f2,f3⟩:=hf;refine (seq_ok e0).trans ((seq_ok (no_skip (B_ok (m2_ok (m2_ok rfl rfl (ix0 _ _)) (m2_ok rfl rfl (ix1 _ _)) (eqI_ok (decide_eq_false f1)))))).trans ((seq_ok (no_skip ((or_ok2 (B_ok (m2_ok (m2_ok rfl rfl (ix0 _ _)) rfl (ltD_ok (decide_eq_false (by omega)))))).trans (B_ok (m2_ok (m2_ok rfl rfl (ix1 _ _)) rfl (geD_ok (decide_eq_false (by omega)))))))).trans ((seq_ok (no_skip (B_ok (m2_ok rfl rfl ?_)))).trans ?_)))
 ·rw [in_dT hn,metT_get,decide_eq_false f4]
  rfl
 ·rw [dputT_ok (x:=nrm x) rfl rfl rfl hn (by unfold metT;rw [List.length_map];exact Nat.lt_of_le_of_lt hl (by decide)),metT_put _ _ f4]
end M
namespace M
open PySem L2
open Srt (ltL)
theorem iSeq_view {m:ME} {e:Lo} {S S1:Sto} {d:D} {xs:List D} (h:m e S=.ok d S1) (hx:viewS d S1=some xs):iSeq m e S=.ok (viewS d) S1:=by
 unfold iSeq;rw [h];dsimp only [Res.bind];rw [hx]
noncomputable def AllFit (p:Int) (ps:List (Int×Int)):Prop:=(∀x∈ps,Fit p x)∧(ps.map nrm).Nodup
theorem AllFit.snoc {p:Int} {ps:List (Int×Int)} {x:Int×Int}:AllFit p (ps++[x])↔AllFit p ps∧Fit p x∧nrm x∉ps.map nrm:=by
 unfold AllFit;rw [List.map_append,List.nodup_append]
 constructor
 ·rintro ⟨h1,h2,h3,h4⟩
  exact ⟨⟨fun y hy=>h1 y (by simp [hy]),h2⟩,h1 x (by simp),fun z=>h4 _ z _ (by simp) rfl⟩
 ·rintro ⟨⟨h1,h2⟩,h3,h4⟩
  refine ⟨fun y hy=>?_,h2,by simp,fun a ha b hb e=>?_⟩
  ·rcases List.mem_append.mp hy with hy | hy
   ·exact h1 y hy
   ·rw [List.mem_singleton.mp hy];exact h3
  ·simp at hb
   subst hb;subst e;exact h4 ha
theorem AllFit.take {p:Int} {ps:List (Int×Int)} (h:AllFit p ps) (i:Nat):AllFit p (ps.take i):=by
 refine ⟨fun x hx=>h.1 x (List.mem_of_mem_take hx),?_⟩;rw [List.map_take];exact h.2.sublist (List.take_sublist _ _)
theorem take_snoc {α:Type} {l:List α} {i:Nat} {x:α} (h:l[i]?=some x):l.take (i+1)=l.take i++[x]:=by
 rw [List.take_add_one,h];rfl
theorem checked_loop (W:Wd) {p:Int} {d:D} {S:Sto} {ps:List (Int×Int)} (hv:∀S',Keeps S S'→viewS d S'=some (ps.map pairD)) (hl:ps.length≤100000) (hf:AllFit p ps) :
  ∃z3 z4 z5,sFor (iSeq (mVar 1)) (tgTup 2 (tgCons (tgN 3) (tgCons (tgN 4) tgNil))) (bTie W) [some (.int p),some d,some (.ref S.length),none,none,none] (S++[.dT []])=.ok (.nx [some (.int p),some d,some (.ref S.length),z3,z4,z5]) (S++[.dT (metT ps)]):=by
 rw [for_ok (iSeq_view (m:=mVar 1) (d:=d) (S1:=S++[.dT []]) rfl (hv _ (Keeps.app _ _)))]
 obtain ⟨f,S',h,z3,z4,z5,rfl,rfl⟩:=for_go (v:=viewS d) (g:=tgTup 2 (tgCons (tgN 3) (tgCons (tgN 4) tgNil))) (b:=bTie W) (xs:=ps.map pairD) (e:=[some (.int p),some d,some (.ref S.length),none,none,none]) (S:=S++[.dT []]) (fun i e S'=>(∃z3 z4 z5,e=[some (.int p),some d,some (.ref S.length),z3,z4,z5])∧S'=S++[.dT (metT (ps.take i))]) (fun f S'=>∃z3 z4 z5,f=.nx [some (.int p),some d,some (.ref S.length),z3,z4,z5]∧S'=S++[.dT (metT ps)]) ⟨⟨none,none,none,rfl⟩,by simp [metT]⟩ (by rintro i e S' ⟨_,rfl⟩;exact hv _ (Keeps.app _ _))
  (by
   rintro i y e S' hy ⟨⟨z3,z4,z5,rfl⟩,rfl⟩;rw [List.getElem?_map] at hy
   cases hx:ps[i]? with
   | none=>rw [hx] at hy;cases hy
   | some x=>
    rw [hx] at hy;cases hy;have hlt:=(List.getElem?_eq_some_iff.mp hx).1;have af:=hf.take (i+1);rw [take_snoc hx] at af;obtain ⟨_,c1,c2⟩:=AllFit.snoc.mp af;refine ⟨[some (.int p),some d,some (.ref S.length),some (.int x.1),some (.int x.2),z5],_,rfl,_,_,tie_step (W:=W) (p:=p) (t:=d) (z5:=z5) (x:=x) (at_new S (.dT (metT (ps.take i)))) (by rw [List.length_take];omega) c1 c2,⟨_,_,_,rfl⟩,?_⟩;rw [take_snoc hx]
    simp)
  (by
   rintro e S' ⟨⟨z3,z4,z5,rfl⟩,rfl⟩;rw [List.length_map,List.take_length]
   exact ⟨_,_,_,rfl,rfl⟩)
 exact ⟨z3,z4,z5,h⟩
noncomputable def tiesOf (ps:List (Int×Int)):List (List Int):=sortR (ps.map fun x=>rowP (nrm x))
theorem checked_good (W:Wd) {p:Int} {d:D} {S:Sto} {ps:List (Int×Int)} (hv:∀S',Keeps S S'→viewS d S'=some (ps.map pairD)) (hl:ps.length≤100000) (hf:AllFit p ps) :
  ∃S',f_checked_ties W [.int p,d] S=.ok (.tup ((tiesOf ps).map rowD)) S'∧Keeps S S':=by
 obtain ⟨z3,z4,z5,h1⟩:=checked_loop W hv hl hf
 ·have hi:itemsS (.ref S.length) (S++[.dT (metT ps)])=some ((ps.map fun x=>rowP (nrm x)).map rowD):=by
   unfold itemsS;dsimp only;rw [at_new];dsimp only;unfold metT;rw [List.map_map,List.map_map];rfl
  have hs:=sorted_ok (m:=mVar 2) (e:=[some (.int p),some d,some (.ref S.length),z3,z4,z5]) (S:=S++[.dT (metT ps)]) rfl hi (sortD_rows _ (by intro r hr;obtain ⟨x,_,rfl⟩:=List.mem_map.mp hr;simp [rowP]));refine ⟨S++[.dT (metT ps)]++[.lst ((tiesOf ps).map rowD)],run_rt ?_,(Keeps.app S _).trans (Keeps.app _ _)⟩;refine Eq.trans (seq_ok (e:=[some (.int p),some d,none,none,none,none]) (e1:=[some (.int p),some d,some (.ref S.length),none,none,none]) (S:=S) (S1:=S++[.dT []]) rfl) ?_;refine Eq.trans (seq_ok h1) ?_;exact ret_ok (tuple_ok hs (seqD_ref (at_new _ _)))
end M
namespace M
open PySem L2
noncomputable def nearOf (ts:List (Int×Int)) (x:Nat):List Int:=ts.flatMap fun t=>(if t.1=(x:Int) then [t.2] else [])++(if t.2=(x:Int) then [t.1] else [])
theorem nearOf_snoc (ts:List (Int×Int)) (t:Int×Int) (x:Nat):nearOf (ts++[t]) x=nearOf ts x++((if t.1=(x:Int) then [t.2] else [])++(if t.2=(x:Int) then [t.1] else [])):=by
 unfold nearOf;rw [List.flatMap_append];simp
noncomputable def rowsAt (p:Nat) (F:Nat→List Int):Sto:=(List.range p).map fun x=>Ob.lst ((F x).map D.int)
noncomputable def refsAt (k p:Nat):List D:=(List.range p).map fun x=>D.ref (k+x)
noncomputable def stN (S:Sto) (p:Nat) (F:Nat→List Int):Sto:=S++rowsAt p F++[.lst (refsAt S.length p)]
theorem rowsAt_len (p:Nat) (F:Nat→List Int):(rowsAt p F).length=p:=by simp [rowsAt]
theorem stN_len (S:Sto) (p:Nat) (F:Nat→List Int):(stN S p F).length=S.length+p+1:=by simp [stN,rowsAt_len];lia
theorem stN_keeps (S:Sto) (p:Nat) (F:Nat→List Int):Keeps S (stN S p F):=(Keeps.app S _).trans (Keeps.app _ _)
theorem stN_refs (S:Sto) (p:Nat) (F:Nat→List Int):(stN S p F)[S.length+p]?=some (.lst (refsAt S.length p)):=by
 have:S.length+p=(S++rowsAt p F).length:=by simp [rowsAt_len]
 unfold stN;rw [this];exact at_new _ _
theorem stN_row (S:Sto) {p a:Nat} (F:Nat→List Int) (h:a < p):(stN S p F)[S.length+a]?=some (.lst ((F a).map D.int)):=by
 unfold stN;rw [List.append_assoc,List.getElem?_append_right (by lia),List.getElem?_append_left (by rw [rowsAt_len];lia),show S.length+a - S.length=a by lia];unfold rowsAt;rw [List.getElem?_map,List.getElem?_range h];rfl
theorem stN_set (S:Sto) {p a:Nat} (F:Nat→List Int) (ys:List Int) (h:a < p):(stN S p F).set (S.length+a) (.lst (ys.map D.int))=stN S p (fun x=>if x=a then ys else F x):=by
 apply List.ext_getElem?
 intro j
 by_cases e:S.length+a=j
 ·subst e
  rw [List.getElem?_set_self (by rw [stN_len];lia),stN_row _ _ h,if_pos rfl]
 ·rw [List.getElem?_set_ne e]
  by_cases h1:j < S.length
  ·rw [(stN_keeps S p F).2 j h1,(stN_keeps S p _).2 j h1]
  by_cases h2:j - S.length < p
  ·have e2:j=S.length+(j - S.length):=by lia
   rw [e2,stN_row S F h2,stN_row S _ h2,if_neg (by lia)]
  by_cases h3:j=S.length+p
  ·subst h3
   rw [stN_refs,stN_refs]
  ·rw [List.getElem?_eq_none (by rw [stN_len];lia),List.getElem?_eq_none (by rw [stN_len];lia)]
theorem ix_refs {S:Sto} {p a:Nat} (F:Nat→List Int) (h:a < p):ixA (.ref (S.length+p)) (.int a) (stN S p F)=.ok (.ref (S.length+a)) (stN S p F):=by
 show orElse (ixD _ _ _) _=_;have e1:seqD (.ref (S.length+p)) (stN S p F)=some (refsAt S.length p):=seqD_ref (stN_refs S p F)
 have e2:atI (refsAt S.length p) (a:Int)=some (.ref (S.length+a)):=by
  unfold atI ixN;rw [show (refsAt S.length p).length=p by simp [refsAt],if_pos (by lia),if_pos (by lia)];simp only [Option.bind_some,Int.toNat_natCast];unfold refsAt;rw [List.getElem?_map,List.getElem?_range h];rfl
 have:ixD (.ref (S.length+p)) (.int a) (stN S p F)=.ok (.ref (S.length+a)) (stN S p F):=by
  unfold ixD;rw [e1];dsimp only;rw [e2]
 rw [this];rfl
theorem stN_zero (S:Sto):∀p:Nat,S++rowsAt (p+1) (fun _=>[])=S++rowsAt p (fun _=>[])++[.lst []]:=fun p=>by
 unfold rowsAt;rw [List.range_succ,List.map_append,List.append_assoc];rfl
theorem rows_comp {p:Nat} (hp:p≤60) {mp:ME} {e:Lo} {S:Sto} (h0:mp e S=.ok (.int p) S) :
  mComp 1 (iR1 (mCons mp mNil)) (tgN 0) cTrue (mNew (mLenOk mNil)) e S=.ok (refsAt S.length p) (S++rowsAt p fun _=>[]):=by
 have hi:iR1 (mCons mp mNil) e S=.ok (viewC (rngDs 0 p)) S:=by
  have:=iR1_ok (ml:=mCons mp mNil) (e:=e) (S:=S) (S1:=S) (j:=p) (cons_ok h0 rfl) (by lia) (by lia);simpa using this
 obtain ⟨r,S1,q1,e',⟨z,_⟩,rfl,rfl⟩:=comp_go (v:=viewC (rngDs 0 p)) (g:=tgN 0) (c:=cTrue) (m:=mNew (mLenOk mNil)) (xs:=rngDs 0 p) (e:=none :: e) (S:=S)
  (fun i e' S' acc=>(∃z,e'=z :: e)∧S'=S++rowsAt i (fun _=>[])∧acc=refsAt S.length i)
  ⟨⟨none,rfl⟩,by simp [rowsAt],rfl⟩ (fun _ _ _ _ _=>rfl)
  (by
   rintro i d e' S' acc hd ⟨⟨z,rfl⟩,rfl,rfl⟩;obtain ⟨hi,rfl⟩:=rngDs_at hd;refine ⟨by simp [refsAt];exact Nat.lt_of_le_of_lt (m:=60) (by lia) (by decide),some (.int (0+i)) :: e,_,rfl,true,_,rfl,.inl ⟨rfl,.ref (S++rowsAt i fun _=>[]).length,_,rfl,⟨_,rfl⟩,(stN_zero S i).symm,?_⟩⟩;unfold refsAt;rw [List.range_succ,List.map_append,List.length_append,rowsAt_len]
   rfl)
 rw [rngDs_len] at q1;exact (comp_ok hi).trans q1
noncomputable abbrev bRows:MS:=sSeq (sExpr (mApp (m2 ixA (mVar 2) (mVar 3)) (mVar 4))) (sExpr (mApp (m2 ixA (mVar 2) (mVar 4)) (mVar 3)))
noncomputable def In (p:Nat) (t:Int×Int):Prop:=0≤t.1∧t.1 < p∧0≤t.2∧t.2 < p∧t.1≠t.2
theorem rows_step {p:Nat} {S:Sto} {F:Nat→List Int} {t:Int×Int} {d0 d1:D} (ht:In p t) (hF:∀x,(F x).length < 200000) :
  bRows [some d0,some d1,some (.ref (S.length+p)),some (.int t.1),some (.int t.2)] (stN S p F)=.ok (.nx [some d0,some d1,some (.ref (S.length+p)),some (.int t.1),some (.int t.2)])
   (stN S p fun x=>F x++((if t.1=(x:Int) then [t.2] else [])++(if t.2=(x:Int) then [t.1] else []))):=by
 obtain ⟨a,ha⟩:∃a:Nat,t.1=a:=⟨t.1.toNat,by have:=ht.1;lia⟩
 obtain ⟨b,hb⟩:∃b:Nat,t.2=b:=⟨t.2.toNat,by have:=ht.2.2.1;lia⟩
 obtain ⟨_,h2,_,h4,h5⟩:=ht
 have hab:a≠b:=fun e=>h5 (by rw [ha,hb,e])
 rw [ha,hb]
 have hz:∀x,((F x).map D.int).length < sizeLine:=fun x=>by rw [List.length_map];exact Nat.lt_trans (hF x) (by decide)
 have s1:=app_ok (mo:=m2 ixA (mVar 2) (mVar 3)) (ma:=mVar 4) (e:=[some d0,some d1,some (.ref (S.length+p)),some (.int a),some (.int b)]) (S:=stN S p F) (S1:=stN S p F) (S2:=stN S p F) (n:=S.length+a) (y:=.int b) (m2_ok rfl rfl (ix_refs F (by lia))) (stN_row S F (by lia)) rfl (stN_row S F (by lia)) (hz a);rw [show (F a).map D.int++[D.int b]=(F a++[(b:Int)]).map D.int by simp,stN_set S F _ (by lia)] at s1
 have hrow:(stN S p fun x=>if x=a then F a++[(b:Int)] else F x)[S.length+b]?=some (.lst ((F b).map D.int)):=by
  rw [stN_row S _ (by lia),if_neg (Ne.symm hab)]
 have s2:=app_ok (mo:=m2 ixA (mVar 2) (mVar 4)) (ma:=mVar 3) (e:=[some d0,some d1,some (.ref (S.length+p)),some (.int a),some (.int b)]) (S:=stN S p fun x=>if x=a then F a++[(b:Int)] else F x) (S1:=stN S p fun x=>if x=a then F a++[(b:Int)] else F x) (S2:=stN S p fun x=>if x=a then F a++[(b:Int)] else F x) (n:=S.length+b) (y:=.int a) (m2_ok rfl rfl (ix_refs _ (by lia))) hrow rfl hrow (hz b);rw [show (F b).map D.int++[D.int a]=(F b++[(a:Int)]).map D.int by simp,stN_set S _ _ (by lia)] at s2;unfold bRows;rw [seq_ok (expr_ok s1),expr_ok s2]
 congr 2
 funext x
 by_cases e1:x=b
 ·subst e1
  have:¬((a:Int)=(x:Int)):=by lia
  simp [this]
 ·by_cases e2:x=a
  ·subst e2
   have:¬((b:Int)=(x:Int)):=by lia
   simp [e1,this]
  ·have h1:¬((a:Int)=(x:Int)):=by lia
   have h2:¬((b:Int)=(x:Int)):=by lia
   simp [e1,e2,h1,h2]
end M
namespace M
open PySem L2
theorem nearOf_len (ts:List (Int×Int)) (x:Nat):(nearOf ts x).length≤2 * ts.length:=by
 unfold nearOf
 induction ts with
 | nil=>simp
 | cons t ts ih=>
  rw [List.flatMap_cons,List.length_append,List.length_cons]
  have:((if t.1=(x:Int) then [t.2] else [])++(if t.2=(x:Int) then [t.1] else [])).length≤2:=by split <;> split <;> simp
  lia
noncomputable def setsOf (p:Nat) (ts:List (Int×Int)):List D:=(List.range p).map fun x=>.tup ((sortZ (nearOf ts x)).map D.int)
theorem near_ok (W:Wd) {p:Nat} (hp:p≤60) {ts:List (Int×Int)} (ht:∀t∈ts,In p t) (hl:ts.length≤90000) (S:Sto) :
  ∃S',f_near_sets_of W [.int p,.tup (ts.map pairD)] S=.ok (.tup (setsOf p ts)) S'∧Keeps S S':=by
 have a1:=set_ok (i:=2) (new_ok (rows_comp hp (mp:=mVar 0) (e:=[some (.int p),some (.tup (ts.map pairD)),none,none,none]) (S:=S) rfl));have e1:(S++rowsAt p fun _=>[])++[.lst (refsAt S.length p)]=stN S p (nearOf []):=rfl
 have e2:(S++rowsAt p fun _=>[]).length=S.length+p:=by simp [rowsAt_len]
 rw [e1,e2] at a1
 obtain ⟨f,S1,h1,⟨z3,z4,rfl⟩,rfl⟩:=for_go (v:=viewC (ts.map pairD)) (g:=tgTup 2 (tgCons (tgN 3) (tgCons (tgN 4) tgNil))) (b:=bRows) (xs:=ts.map pairD) (e:=[some (.int p),some (.tup (ts.map pairD)),some (.ref (S.length+p)),none,none]) (S:=stN S p (nearOf []))
  (fun i e S'=>(∃z3 z4,e=[some (.int p),some (.tup (ts.map pairD)),some (.ref (S.length+p)),z3,z4])∧S'=stN S p (nearOf (ts.take i)))
  (fun f S'=>(∃z3 z4,f=.nx [some (.int p),some (.tup (ts.map pairD)),some (.ref (S.length+p)),z3,z4])∧S'=stN S p (nearOf ts))
  ⟨⟨none,none,rfl⟩,rfl⟩ (fun _ _ _ _=>rfl)
  (by
   rintro i y e S' hy ⟨⟨z3,z4,rfl⟩,rfl⟩;rw [List.getElem?_map] at hy
   cases hx:ts[i]? with
   | none=>rw [hx] at hy;cases hy
   | some t=>
    rw [hx] at hy;cases hy;refine ⟨[some (.int p),some (.tup (ts.map pairD)),some (.ref (S.length+p)),some (.int t.1),some (.int t.2)],_,rfl,_,_,rows_step (ht t (List.mem_of_getElem? hx)) (fun x=>?_),⟨_,_,rfl⟩,?_⟩
    ·have:=nearOf_len (ts.take i) x
     rw [List.length_take] at this;exact Nat.lt_of_le_of_lt (Nat.le_trans this (Nat.mul_le_mul_left 2 (Nat.le_trans (Nat.min_le_right _ _) hl))) (by decide)
    ·rw [take_snoc hx,show nearOf (ts.take i++[t])=_ from funext fun x=>nearOf_snoc _ _ x])
  (by
   rintro e S' ⟨⟨z3,z4,rfl⟩,rfl⟩;rw [List.length_map,List.take_length]
   exact ⟨⟨_,_,rfl⟩,rfl⟩)
 have a2:=(for_ok (g:=tgTup 2 (tgCons (tgN 3) (tgCons (tgN 4) tgNil))) (b:=bRows) (iSeq_tup (m:=mVar 1) (e:=[some (.int p),some (.tup (ts.map pairD)),some (.ref (S.length+p)),none,none]) (S:=stN S p (nearOf [])) (S1:=stN S p (nearOf [])) (xs:=ts.map pairD) rfl)).trans h1
 obtain ⟨r,S2,q1,e',⟨z,_⟩,K,rfl⟩:=comp_go (v:=viewS (.ref (S.length+p))) (g:=tgN 0) (c:=cTrue) (m:=mTuple (mSorted (mVar 0))) (xs:=refsAt S.length p) (e:=[none,some (.int p),some (.tup (ts.map pairD)),some (.ref (S.length+p)),z3,z4]) (S:=stN S p (nearOf ts))
  (fun i e' S' acc=>(∃z,e'=[z,some (.int p),some (.tup (ts.map pairD)),some (.ref (S.length+p)),z3,z4])∧Keeps (stN S p (nearOf ts)) S'∧acc=(List.range i).map fun x=>.tup ((sortZ (nearOf ts x)).map D.int))
  ⟨⟨none,rfl⟩,.refl _,rfl⟩ (fun i e' S' acc h=>viewS_ref (h.2.1.at (stN_refs S p _)))
  (by
   rintro i d e' S' acc hd ⟨⟨z,rfl⟩,K,rfl⟩
   have hi:i < p:=by
    have:=(List.getElem?_eq_some_iff.mp hd).1;simpa [refsAt] using this
   unfold refsAt at hd;rw [List.getElem?_map,List.getElem?_range hi] at hd;cases hd;have hit:itemsS (.ref (S.length+i)) S'=some ((nearOf ts i).map D.int):=itemsS_ref (K.at (stN_row S _ hi));have hs:=sorted_ok (m:=mVar 0) (e:=[some (.ref (S.length+i)),some (.int p),some (.tup (ts.map pairD)),some (.ref (S.length+p)),z3,z4]) (S:=S') (S1:=S') rfl hit (sortD_ints _);refine ⟨by simp;exact Nat.lt_of_le_of_lt (m:=60) (by lia) (by decide),[some (.ref (S.length+i)),some (.int p),some (.tup (ts.map pairD)),some (.ref (S.length+p)),z3,z4],_,rfl,true,_,rfl,.inl ⟨rfl,_,_,tuple_ok hs (seqD_ref (at_new _ _)),⟨_,rfl⟩,K.trans (Keeps.app _ _),?_⟩⟩;rw [List.range_succ,List.map_append]
   rfl)
 have a3:=(comp_ok (n:=1) (g:=tgN 0) (c:=cTrue) (m:=mTuple (mSorted (mVar 0))) (iSeq_ref (m:=mVar 2) (e:=[some (.int p),some (.tup (ts.map pairD)),some (.ref (S.length+p)),z3,z4]) (S:=stN S p (nearOf ts)) (S1:=stN S p (nearOf ts)) rfl (stN_refs S p _))).trans q1;rw [show (refsAt S.length p).length=p by simp [refsAt]] at a3;refine ⟨S2++[.lst (setsOf p ts)],run_rt ?_,((stN_keeps S p _).trans K).trans (Keeps.app _ _)⟩;unfold b_near_sets_of;refine Eq.trans (seq_ok a1) ?_;refine Eq.trans (seq_ok a2) ?_;exact ret_ok (tuple_ok (new_ok a3) (seqD_ref (at_new _ _)))
end M
namespace M
open PySem L2
open Srt (ltL)
noncomputable def toP (r:List Int):Int×Int:=(r.getD 0 0,r.getD 1 0)
noncomputable def tsOf (ps:List (Int×Int)):List (Int×Int):=(tiesOf ps).map toP
theorem tiesOf_row {ps:List (Int×Int)} {r:List Int} (h:r∈tiesOf ps):∃x∈ps,r=rowP (nrm x):=by
 have:=(sortR_perm _).mem_iff.mp h;obtain ⟨x,hx,rfl⟩:=List.mem_map.mp this;exact ⟨x,hx,rfl⟩
theorem tsOf_rows (ps:List (Int×Int)):(tsOf ps).map rowP=tiesOf ps:=by
 unfold tsOf;rw [List.map_map]
 conv=>rhs;rw [←List.map_id (tiesOf ps)]
 refine List.map_congr_left fun r hr=>?_
 obtain ⟨x,_,rfl⟩:=tiesOf_row hr;rfl
theorem tsOf_pairs (ps:List (Int×Int)):(tiesOf ps).map rowD=(tsOf ps).map pairD:=by
 rw [←tsOf_rows,List.map_map];rfl
theorem tsOf_mem {ps:List (Int×Int)} {t:Int×Int} (h:t∈tsOf ps):∃x∈ps,t=nrm x:=by
 obtain ⟨r,hr,rfl⟩:=List.mem_map.mp h;obtain ⟨x,hx,rfl⟩:=tiesOf_row hr;exact ⟨x,hx,rfl⟩
theorem tsOf_perm (ps:List (Int×Int)):(tsOf ps).Perm (ps.map nrm):=by
 unfold tsOf tiesOf;have:=(sortR_perm (ps.map fun x=>rowP (nrm x))).map toP;refine this.trans ?_;rw [List.map_map];exact List.Perm.of_eq rfl
theorem nrm_le (x:Int×Int):(nrm x).1≤(nrm x).2:=by
 unfold nrm;dsimp only
 split <;> split <;> lia
theorem Fit.in {p:Nat} {x:Int×Int} (h:Fit p x):In p (nrm x):=by
 obtain ⟨h1,h2,h3⟩:=h;have:=nrm_le x;exact ⟨h2,by lia,by lia,h3,h1⟩
theorem ne_pt:¬(("places" : Str) = "ties"):=by decide +kernel
theorem ne_pn:¬(("places" : Str) = "near_sets"):=by decide +kernel
theorem ne_tn:¬(("ties" : Str) = "near_sets"):=by decide +kernel
theorem put2 (a b:D):putD "ties" b [(("places" : Str),a)]=([("places",a),("ties",b)]:List (Str×D)):=by
 show (if ("places" : Str) = "ties" then _ else _)=_;rw [if_neg ne_pt];rfl
theorem put3 (a b c:D):putD "near_sets" c [(("places" : Str),a),("ties",b)]=([("places",a),("ties",b),("near_sets",c)]:List (Str×D)):=by
 show (if ("places" : Str) = "near_sets" then _ else _)=_;rw [if_neg ne_pn]
 have:putD "near_sets" c [(("ties" : Str),b)]=([("ties",b),("near_sets",c)]:List (Str×D)):=by
  show (if ("ties" : Str) = "near_sets" then _ else _)=_;rw [if_neg ne_tn];rfl
 rw [this]
theorem look1 (a b c:D):([("places",a),("ties",b),("near_sets",c)]:List (Str×D)).lookup ("places" : Str)=some a:=by
 rw [List.lookup_cons,show (("places" : Str)=="places")=true by decide +kernel]
theorem look3 (a b c:D):([("places",a),("ties",b),("near_sets",c)]:List (Str×D)).lookup ("near_sets" : Str)=some c:=by
 rw [List.lookup_cons,show (("near_sets" : Str)=="places")=false by decide +kernel];dsimp only;rw [List.lookup_cons,show (("near_sets" : Str)=="ties")=false by decide +kernel];dsimp only;rw [List.lookup_cons,show (("near_sets" : Str)=="near_sets")=true by decide +kernel]
theorem look2' (a b:D):([("places",a),("ties",b)]:List (Str×D)).lookup ("ties" : Str)=some b:=by
 rw [List.lookup_cons,show (("ties" : Str)=="places")=false by decide +kernel];dsimp only;rw [List.lookup_cons,show (("ties" : Str)=="ties")=true by decide +kernel]
end M
namespace M
open PySem L2 L4
noncomputable def oWeb (W:Wd) (w:Nat×List (Int×Int)):Ob:=.ins W.Web [("places",.int w.1),("ties",.tup (w.2.map pairD)),("near_sets",.tup (setsOf w.1 w.2))]
noncomputable def nearsZ (p:Nat) (ts:List (Int×Int)):List (List Int):=(List.range p).map fun x=>sortZ (nearOf ts x)
theorem nearsZ_D (p:Nat) (ts:List (Int×Int)):D.tup (setsOf p ts)=eT (eT D.int) (nearsZ p ts):=by
 unfold setsOf nearsZ eT;rw [List.map_map];rfl
open Classical in
noncomputable def webO (x:Int) (l:List (Int×Int)):Option (Nat×List (Int×Int)):=if 1≤x∧x≤60∧AllFit x l∧l.length≤90000 then some (x.toNat,tsOf l) else none
section
variable {W:Wd} {A:List Sl} {a b m:ME} {p:Option (Nat×List (Int×Int))}
theorem ve_fldW {α:Type} {f:Str} {enc:α→D} {g:Nat×List (Int×Int)→α} (h:VE A m (rO (oWeb W)) p) (hl:∀w,([("places",D.int w.1),("ties",.tup (w.2.map pairD)),("near_sets",.tup (setsOf w.1 w.2))]:List (Str×D)).lookup f=some (enc (g w))):VE A (mFld W.Web f m) (rV enc) (p.bind fun w=>some (g w)):=fun v hv S0 e F S hs=>by
 obtain ⟨w,h1,h2⟩:=obind hv;cases h2;obtain ⟨d,S',h3,h4,n,rfl,hn⟩:=h w h1 S0 e F S hs;exact ⟨_,S',fld_ok h3 hn (hl w),h4,rfl⟩
theorem ve_places (h:VE A m (rO (oWeb W)) p):VE A (mFld W.Web "places" m) (rV D.int) (p.bind fun w=>some (w.1:Int)):=ve_fldW h fun w=>look1 _ _ _
theorem ve_sets (h:VE A m (rO (oWeb W)) p):VE A (mFld W.Web "near_sets" m) (rV (eT (eT D.int))) (p.bind fun w=>some (nearsZ w.1 w.2)):=ve_fldW h fun w=>by rw [←nearsZ_D];exact look3 _ _ _
theorem web_at (W:Wd) {p:Nat} (h1:1≤p) (hp:p≤60) {d:D} {S:Sto} {ps:List (Int×Int)} (hv:∀S',Keeps S S'→viewS d S'=some (ps.map pairD)) (hl:ps.length≤90000) (hf:AllFit p ps) {e:Lo} {ml:ML} {S0:Sto} (ha:ml e S0=.ok [.int p,d] S) :
  ∃S',mMake W.Web 3 (f_Web_init W) ml e S0=.ok (.ref S.length) S'∧Keeps S S'∧S'[S.length]?=some (oWeb W (p,tsOf ps)):=by
 have t0:mNot (mB (m3 leD leD (mC (.int 1)) (mVar 1) (mC (.int 60)))) [some (.ref S.length),some (.int p),some d] (S++[.ins W.Web []])=.ok false (S++[.ins W.Web []]):=
  not_ok (b:=true) (B_ok (m3_ok (S3:=S++[.ins W.Web []]) rfl rfl (leD_ok (decide_eq_true (by omega))) rfl (leD_ok (decide_eq_true (by omega)))))
 have hq0:(S++[Ob.ins W.Web []])[S.length]?=some (.ins W.Web []):=at_new _ _;have e1:=setf_ok (C:=W.Web) (f:="places") (mo:=mVar 0) (mv:=mVar 1) (e:=[some (.ref S.length),some (.int p),some d]) (S:=S++[.ins W.Web []]) (v:=.int p) rfl rfl hq0 (by decide);have K1:Keeps S ((S++[Ob.ins W.Web []]).set S.length (.ins W.Web (putD "places" (.int p) []))):=(Keeps.app S _).set (Nat.le_refl _) _;generalize hS1:(S++[Ob.ins W.Web []]).set S.length (.ins W.Web (putD "places" (.int p) []))=S1 at e1 K1
 have hq1:S1[S.length]?=some (.ins W.Web [("places",.int p)]):=by rw [←hS1];exact List.getElem?_set_self (by simp)
 obtain ⟨S2,c2,K2⟩:=checked_good W (p:=p) (d:=d) (S:=S1) (ps:=ps) (fun S' k=>hv S' (K1.trans k)) (Nat.le_trans hl (by decide)) hf;rw [tsOf_pairs] at c2;have e2:=setf_ok (C:=W.Web) (f:="ties") (mo:=mVar 0) (mv:=mCall 2 (f_checked_ties W) (mCons (mVar 1) (mCons (mVar 2) mNil))) (e:=[some (.ref S.length),some (.int p),some d]) (S:=S1) ((call_ok rfl rfl).trans c2) rfl (K2.at hq1) (by simp);have K3:Keeps S (S2.set S.length (.ins W.Web (putD "ties" (.tup ((tsOf ps).map pairD)) [("places",.int p)]))):=(K1.trans K2).set (Nat.le_refl _) _;rw [put2] at e2 K3;have hlt2:S.length < S2.length:=(List.getElem?_eq_some_iff.mp (K2.at hq1)).1;generalize hS3:S2.set S.length (.ins W.Web [("places",.int p),("ties",.tup ((tsOf ps).map pairD))])=S3 at e2 K3
 have hq3:S3[S.length]?=some (.ins W.Web [("places",.int p),("ties",.tup ((tsOf ps).map pairD))]):=by rw [←hS3];exact List.getElem?_set_self hlt2
 obtain ⟨S4,c4,K4⟩:=near_ok W hp (ts:=tsOf ps) (fun t ht=>by
  obtain ⟨x,hx,rfl⟩:=tsOf_mem ht
  exact (hf.1 x hx).in) (by rw [(tsOf_perm ps).length_eq,List.length_map];exact hl) S3
 have e3:=setf_ok (C:=W.Web) (f:="near_sets") (mo:=mVar 0) (mv:=mCall 2 (f_near_sets_of W) (mCons (mVar 1) (mCons (mFld W.Web "ties" (mVar 0)) mNil))) (e:=[some (.ref S.length),some (.int p),some d]) (S:=S3)
  ((call_ok (cons_ok (S1:=S3) rfl (cons_ok (fld_ok rfl hq3 (look2' _ _)) rfl)) rfl).trans c4) rfl (K4.at hq3) (by simp)
 have hlt4:S.length < S4.length:=(List.getElem?_eq_some_iff.mp (K4.at hq3)).1;rw [put3] at e3;refine ⟨_,make_ok ha rfl (run_nx (e:=[some (.ref S.length),some (.int p),some d]) ?_),(K3.trans K4).set (Nat.le_refl _) _,List.getElem?_set_self hlt4⟩;unfold b_Web_init;refine Eq.trans (seq_ok (e:=[some (.ref S.length),some (.int p),some d]) (e1:=[some (.ref S.length),some (.int p),some d]) (S1:=S++[.ins W.Web []]) (Eq.trans (if_ok t0) rfl)) ?_;rw [seq_ok e1,seq_ok e2];exact e3
theorem ve_web {pa:Option Int} {pl:Option (List (Int×Int))} (ha:VE A a (rV D.int) pa) (hb:VE A b (rO (oL (eP D.int D.int))) pl):VE A (mMake W.Web 3 (f_Web_init W) (mCons a (mCons b mNil))) (rN (oWeb W)) (pa.bind fun x=>pl.bind fun l=>webO x l):=fun v hv S0 e F S hs=>by
 obtain ⟨x,h1,hv⟩:=obind hv;obtain ⟨l,h2,h3⟩:=obind hv;obtain ⟨d1,S1,q1,k1,rfl⟩:=ha x h1 S0 e F S hs;obtain ⟨d2,S2,q2,k2,n,rfl,hn⟩:=hb l h2 S0 e _ S1 (hs.grow k1);unfold webO at h3;split at h3
 ·rename_i hc
  cases h3;obtain ⟨c1,c2,c3,c4⟩:=hc;have hx:((x.toNat:Nat):Int)=x:=Int.toNat_of_nonneg (by omega);obtain ⟨S3,h5,h6,h7⟩:=web_at W (p:=x.toNat) (d:=.ref n) (S:=S2) (ps:=l) (by omega) (by omega) (fun S' k=>viewS_ref (k.at hn)) c4 (by rw [hx];exact c3) (ml:=mCons a (mCons b mNil)) (e:=e) (S0:=S) (by rw [hx];exact cons_ok q1 (cons_ok q2 rfl));exact ⟨_,S3,h5,(k1.trans k2).trans h6,_,rfl,(k1.trans k2).1,h7⟩
 ·cases h3
end
end M
namespace M
open PySem L2 L4
noncomputable def q__law_cell_at (a_script:(List Int)) (a_k:Int):Option (Fw Int Unit):=
 bindF (((some a_k).bind fun x1=>((some a_script).bind fun x3=>some (x3.length:Int)).bind fun x2=>some (decide (x1 < x2))).bind fun x7=>if x7=true then ((some a_script).bind fun l4=>(some a_k).bind fun x5=>atI l4 x5).bind fun x6=>some (.rt x6) else some (.nx ())) fun _=>(some (0:Int)).bind fun x10=>some (.rt x10)
noncomputable def p__law_cell_at (a_script:(List Int)) (a_k:Int):Option Int:=outF (q__law_cell_at a_script a_k)
theorem v__law_cell_at (W:Wd) (a_script:(List Int)) (a_k:Int):VF (f__law_cell_at W) [.v (eF a_script),.v (D.int a_k)] (rV D.int) (p__law_cell_at a_script a_k):=by
 refine vf_of (n:=2) (b:=b__law_cell_at W) (p:=q__law_cell_at a_script a_k) (B:=fun _=>[]) ?_;show VS [.v (eF a_script),.v (D.int a_k)] _ _ _ _;unfold b__law_cell_at q__law_cell_at;exact (vs_seq (vs_if (B:=(fun (_:Unit)=>[.v (eF a_script),.v (D.int a_k)])) (vb_B (ve_lt (ve_var rfl) (ve_lenF (ve_var rfl)))) (vs_ret (ve_ixF (ve_var rfl) (ve_var rfl))) (vs_nx (.same (.same .nil)))) (fun _=>(vs_ret (ve_c rfl))))
noncomputable def q__law_pairs (a_places:Int):Option (Fw (List (Int×Int)) Unit):=
 bindF (((some []).bind fewO).bind fun x2=>some (.nx x2)) fun v1=>bindF (((some a_places).bind rng1).bind fun l20=>forF l20 v1 fun (s3:(List (Int×Int))) x4=>mapF (fun s18=>s18) ((((some x4).bind fun x6=>(some (1:Int)).bind fun x7=>some (x6+x7)).bind fun x8=>(some a_places).bind fun x9=>rng2 x8 x9).bind fun l17=>forF l17 s3 fun (s10:(List (Int×Int))) x11=>mapF (fun v12=>v12) (((some x4).bind fun x15=>(some x11).bind fun x16=>some (x15,x16)).bind fun x13=>(appO s10 x13).bind fun l14=>some (.nx l14)))) fun s21=>some (.rt s21)
noncomputable def p__law_pairs (a_places:Int):Option (List (Int×Int)):=outF (q__law_pairs a_places)
theorem v__law_pairs (W:Wd) (a_places:Int):VF (f__law_pairs W) [.v (D.int a_places)] (rN (oL (eP D.int D.int))) (p__law_pairs a_places):=by
 refine vf_of (n:=4) (b:=b__law_pairs W) (p:=q__law_pairs a_places) (B:=fun _=>[]) ?_;show VS [.v (D.int a_places),.u,.u,.u] _ _ _ _;unfold b__law_pairs q__law_pairs;exact (vs_seq (vs_setW (ve_new (vl_lenOk vl_nil))) (fun v1=>(vs_seq (vs_for (s0:=v1) (B:=(fun (s22:(List (Int×Int)))=>[.v (D.int a_places),.w 1 ((oL (eP D.int D.int)) s22),.u,.u])) (vi_range1 (ve_var rfl)) vt_name (.same (.same (.same (.same .nil)))) (fun s3 x4=>(vs_map (vs_for (s0:=s3) (B:=(fun (s19:(List (Int×Int)))=>[.v (D.int a_places),.w 1 ((oL (eP D.int D.int)) s19),.v (D.int x4),.u])) (vi_range2 (ve_add (ve_var rfl) (ve_c rfl)) (ve_var rfl)) vt_name (.same (.same (.same (.same .nil)))) (fun s10 x11=>(vs_map (vs_app rfl (ve_pair (ve_var rfl) (ve_var rfl)) rfl) (fun v12=>(.same (.same (.same (.drop .nil)))))))) (fun s18=>(.same (.same (.drop (.same .nil)))))))) (fun s21=>(vs_retW rfl)))))
noncomputable def q__law_first_ties (a_places:Int) (a_style:Int):Option (Fw (List (Int×Int)) Unit):=
 bindF (((some a_style).bind fun x1=>(some (1:Int)).bind fun x2=>some (decide (x1=x2))).bind fun x14=>if x14=true then ((((some a_places).bind fun x4=>(some (1:Int)).bind fun x5=>some (x4 - x5)).bind rng1).bind fun l12=>compG l12 (fun x6=>some true) (fun x6=>(some x6).bind fun x10=>((some x6).bind fun x8=>(some (1:Int)).bind fun x9=>some (x8+x9)).bind fun x11=>some (x10,x11))).bind fun x13=>some (.rt x13) else some (.nx ())) fun _=>bindF (((some a_style).bind fun x17=>(some (2:Int)).bind fun x18=>some (decide (x17=x18))).bind fun x39=>if x39=true then (((((some a_places).bind fun x20=>(some (1:Int)).bind fun x21=>some (x20 - x21)).bind rng1).bind fun l28=>compG l28 (fun x22=>some true) (fun x22=>(some x22).bind fun x26=>((some x22).bind fun x24=>(some (1:Int)).bind fun x25=>some (x24+x25)).bind fun x27=>some (x26,x27))).bind fun x36=>((((some (0:Int)).bind fun x32=>((some a_places).bind fun x30=>(some (1:Int)).bind fun x31=>some (x30 - x31)).bind fun x33=>some (x32,x33)).bind fun x34=>(some []).bind fun l35=>some (x34 :: l35)).bind fewO).bind fun x37=>extO x36 x37).bind fun x38=>some (.rt x38) else some (.nx ())) fun _=>bindF (((some a_style).bind fun x42=>(some (3:Int)).bind fun x43=>some (decide (x42=x43))).bind fun x48=>if x48=true then (((some a_places).bind fun x44=>(some ()).bind fun x45=>some (x44,x45)).bind fun z46=>p__law_pairs z46.1).bind fun x47=>some (.rt x47) else some (.nx ())) fun _=>bindF (((some a_style).bind fun x51=>(some (4:Int)).bind fun x52=>some (decide (x51=x52))).bind fun x60=>if x60=true then (((some (1:Int)).bind fun x53=>(some a_places).bind fun x54=>rng2 x53 x54).bind fun l58=>compG l58 (fun x55=>some true) (fun x55=>(some (0:Int)).bind fun x56=>(some x55).bind fun x57=>some (x56,x57))).bind fun x59=>some (.rt x59) else some (.nx ())) fun _=>((some []).bind fewO).bind fun x63=>some (.rt x63)
noncomputable def p__law_first_ties (a_places:Int) (a_style:Int):Option (List (Int×Int)):=outF (q__law_first_ties a_places a_style)
theorem v__law_first_ties (W:Wd) (a_places:Int) (a_style:Int):VF (f__law_first_ties W) [.v (D.int a_places),.v (D.int a_style)] (rN (oL (eP D.int D.int))) (p__law_first_ties a_places a_style):=by
 refine vf_of (n:=2) (b:=b__law_first_ties W) (p:=q__law_first_ties a_places a_style) (B:=fun _=>[]) ?_;show VS [.v (D.int a_places),.v (D.int a_style)] _ _ _ _;unfold b__law_first_ties q__law_first_ties;exact (vs_seq (vs_if (B:=(fun (_:Unit)=>[.v (D.int a_places),.v (D.int a_style)])) (vb_B (ve_eq eqN_int nl_int (ve_var rfl) (ve_c rfl))) (vs_retN (ve_new (vl_comp1 (VI.k (vi_range1 (ve_sub (ve_var rfl) (ve_c rfl)))) (fun x6=>vb_true) (fun x6=>(ve_pair (ve_var rfl) (ve_add (ve_var rfl) (ve_c rfl))))))) (vs_nx (.same (.same .nil)))) (fun _=>(vs_seq (vs_if (B:=(fun (_:Unit)=>[.v (D.int a_places),.v (D.int a_style)])) (vb_B (ve_eq eqN_int nl_int (ve_var rfl) (ve_c rfl))) (vs_retN (ve_catL (ve_no (ve_new (vl_comp1 (VI.k (vi_range1 (ve_sub (ve_var rfl) (ve_c rfl)))) (fun x22=>vb_true) (fun x22=>(ve_pair (ve_var rfl) (ve_add (ve_var rfl) (ve_c rfl))))))) (ve_no (ve_new (vl_lenOk (vl_cons (ve_pair (ve_c rfl) (ve_sub (ve_var rfl) (ve_c rfl))) vl_nil)))))) (vs_nx (.same (.same .nil)))) (fun _=>(vs_seq (vs_if (B:=(fun (_:Unit)=>[.v (D.int a_places),.v (D.int a_style)])) (vb_B (ve_eq eqN_int nl_int (ve_var rfl) (ve_c rfl))) (vs_retN (ve_call (va_v (ve_var rfl) va_nil) (fun z46=>v__law_pairs W z46.1) (fun _=>rfl) rN_up)) (vs_nx (.same (.same .nil)))) (fun _=>(vs_seq (vs_if (B:=(fun (_:Unit)=>[.v (D.int a_places),.v (D.int a_style)])) (vb_B (ve_eq eqN_int nl_int (ve_var rfl) (ve_c rfl))) (vs_retN (ve_new (vl_comp1 (VI.k (vi_range2 (ve_c rfl) (ve_var rfl))) (fun x55=>vb_true) (fun x55=>(ve_pair (ve_c rfl) (ve_var rfl)))))) (vs_nx (.same (.same .nil)))) (fun _=>(vs_retN (ve_new (vl_lenOk vl_nil)))))))))))
noncomputable def q__law_ties (a_script:(List Int)) (a_first:Int) (a_places:Int):Option (Fw (List (Int×Int)) Unit):=
 bindF ((((some a_places).bind fun x2=>(some ()).bind fun x3=>some (x2,x3)).bind fun z4=>p__law_pairs z4.1).bind fun x5=>some (.nx x5)) fun v1=>bindF ((some []).bind fun x7=>some (.nx x7)) fun v6=>bindF ((((some a_places).bind fun x15=>((((((some a_script).bind fun x8=>((some (0:Int)).bind fun x9=>(some ()).bind fun x10=>some (x9,x10)).bind fun x11=>some (x8,x11)).bind fun z12=>p__law_cell_at z12.1 z12.2.1).bind fun x13=>some (x13 / 7)).bind fun x14=>some (x14 % 6)).bind fun x16=>(some ()).bind fun x17=>some (x16,x17)).bind fun x18=>some (x15,x18)).bind fun z19=>p__law_first_ties z19.1 z19.2.1).bind fun l26=>forF l26 v6 fun (s20:(List ((Int×Int)×Bool))) x21=>mapF (fun v22=>v22) ((some true).bind fun x23=>(some x21).bind fun x24=>(putO s20 x24 x23).bind fun l25=>some (.nx l25))) fun s27=>bindF (((some a_first).bind fun x32=>(((some a_script).bind fun x29=>some (x29.length:Int)).bind fun x30=>(some (63:Int)).bind fun x31=>some (if x31 < x30 then x31 else x30)).bind fun x33=>rng2 x32 x33).bind fun l55=>forF l55 s27 fun (s34:(List ((Int×Int)×Bool))) x35=>bindF (((some v1).bind fun l42=>(((some a_script).bind fun l37=>(some x35).bind fun x38=>atI l37 x38).bind fun x40=>((some v1).bind fun x39=>some (x39.length:Int)).bind fun x41=>modO x40 x41).bind fun x43=>atI l42 x43).bind fun x44=>some (.nx x44)) fun v36=>mapF (fun v51=>v51) ((((some v36).bind fun x45=>(some s34).bind fun x46=>some (!(valG x46 x45).isSome)).bind fun x50=>if x50=true then some true else ((some s34).bind fun l47=>(some v36).bind fun x48=>valG l47 x48).bind fun x49=>some (!x49)).bind fun x52=>(some v36).bind fun x53=>(putO s34 x53 x52).bind fun l54=>some (.nx l54))) fun s56=>((some v1).bind fun l64=>compG l64 (fun x58=>((some x58).bind fun x59=>(some s56).bind fun x60=>some ((valG x60 x59).isSome)).bind fun x63=>if x63=true then (some s56).bind fun l61=>(some x58).bind fun x62=>valG l61 x62 else some false) (fun x58=>some x58)).bind fun x65=>some (.rt x65)
noncomputable def p__law_ties (a_script:(List Int)) (a_first:Int) (a_places:Int):Option (List (Int×Int)):=outF (q__law_ties a_script a_first a_places)
theorem v__law_ties (W:Wd) (a_script:(List Int)) (a_first:Int) (a_places:Int):VF (f__law_ties W) [.v (eF a_script),.v (D.int a_first),.v (D.int a_places)] (rN (oL (eP D.int D.int))) (p__law_ties a_script a_first a_places):=by
 refine vf_of (n:=7) (b:=b__law_ties W) (p:=q__law_ties a_script a_first a_places) (B:=fun _=>[]) ?_;show VS [.v (eF a_script),.v (D.int a_first),.v (D.int a_places),.u,.u,.u,.u] _ _ _ _;unfold b__law_ties q__law_ties;exact (vs_seq (vs_setZ (ve_call (va_v (ve_var rfl) va_nil) (fun z4=>v__law_pairs W z4.1) (fun _=>rfl) rN_up)) (fun v1=>(vs_seq (vs_setW ve_dictP) (fun v6=>(vs_seq (vs_for (s0:=v6) (B:=(fun (s28:(List ((Int×Int)×Bool)))=>[.v (eF a_script),.v (D.int a_first),.v (D.int a_places),.y ((oL (eP D.int D.int)) v1),.w 4 ((oDP D.bl) s28),.u,.u])) (vi_new (ve_call (va_v (ve_var rfl) (va_v (ve_modC rfl (ve_fdivC rfl (ve_call (va_v (ve_var rfl) (va_v (ve_c rfl) va_nil)) (fun z12=>v__law_cell_at W z12.1 z12.2.1) (fun _=>rfl) rV_up))) va_nil)) (fun z19=>v__law_first_ties W z19.1 z19.2.1) (fun _=>rfl) rN_up)) vt_name (.same (.same (.same (.same (.same (.same (.same .nil))))))) (fun s20 x21=>(vs_map (vs_dputP rfl (ve_var rfl) (ve_c rfl) rfl) (fun v22=>(.same (.same (.same (.same (.same (.drop (.same .nil))))))))))) (fun s27=>(vs_seq (vs_for (s0:=s27) (B:=(fun (s57:(List ((Int×Int)×Bool)))=>[.v (eF a_script),.v (D.int a_first),.v (D.int a_places),.y ((oL (eP D.int D.int)) v1),.w 4 ((oDP D.bl) s57),.u,.u])) (vi_range2 (ve_var rfl) (ve_min2 (ve_lenF (ve_var rfl)) (ve_c rfl))) vt_name (.same (.same (.same (.same (.same (.same (.same .nil))))))) (fun s34 x35=>(vs_seq (vs_set (ve_ixL (ve_varY rfl) (ve_mod (ve_ixF (ve_var rfl) (ve_var rfl)) (ve_lenL (ve_varY rfl))))) (fun v36=>(vs_map (vs_dputP rfl (ve_var rfl) (ve_orV (ve_dninP (ve_var rfl) (ve_varW rfl)) (ve_notV (ve_dgetP (ve_varW rfl) (ve_var rfl)))) rfl) (fun v51=>(.same (.same (.same (.same (.same (.drop (.drop .nil))))))))))))) (fun s56=>(vs_retN (ve_new (vl_comp1 (VI.k (vi_varY rfl)) (fun x58=>(vb_and (vb_B (ve_dinP (ve_var rfl) (ve_varW rfl))) (vb_tru (ve_dgetP (ve_varW rfl) (ve_var rfl))))) (fun x58=>(ve_var rfl)))))))))))))
noncomputable def q__law_handed (a_script:(List Int)) (a_ties:(List (Int×Int))):Option (Fw (List (Int×Int)) Unit):=
 bindF (((((((some a_script).bind fun x3=>((some (0:Int)).bind fun x4=>(some ()).bind fun x5=>some (x4,x5)).bind fun x6=>some (x3,x6)).bind fun z7=>p__law_cell_at z7.1 z7.2.1).bind fun x8=>some (x8 / 42)).bind fun x9=>some (x9 % 2)).bind fun x1=>(some (0:Int)).bind fun x2=>some (decide (x1=x2))).bind fun x11=>if x11=true then (some a_ties).bind fun x10=>some (.rt x10) else some (.nx ())) fun _=>(((some a_ties).bind fun x14=>some x14.reverse).bind fun l20=>compG l20 (fun x15=>some true) (fun x15=>((some x15).bind fun x16=>some x16.2).bind fun x18=>((some x15).bind fun x17=>some x17.1).bind fun x19=>some (x18,x19))).bind fun x21=>some (.rt x21)
noncomputable def p__law_handed (a_script:(List Int)) (a_ties:(List (Int×Int))):Option (List (Int×Int)):=outF (q__law_handed a_script a_ties)
theorem v__law_handed (W:Wd) (a_script:(List Int)) (a_ties:(List (Int×Int))):VF (f__law_handed W) [.v (eF a_script),.z ((oL (eP D.int D.int)) a_ties)] (rN (oL (eP D.int D.int))) (p__law_handed a_script a_ties):=by
 refine vf_of (n:=2) (b:=b__law_handed W) (p:=q__law_handed a_script a_ties) (B:=fun _=>[]) ?_;show VS [.v (eF a_script),.z ((oL (eP D.int D.int)) a_ties)] _ _ _ _;unfold b__law_handed q__law_handed;exact (vs_seq (vs_if (B:=(fun (_:Unit)=>[.v (eF a_script),.z ((oL (eP D.int D.int)) a_ties)])) (vb_B (ve_eq eqN_int nl_int (ve_modC rfl (ve_fdivC rfl (ve_call (va_v (ve_var rfl) (va_v (ve_c rfl) va_nil)) (fun z7=>v__law_cell_at W z7.1 z7.2.1) (fun _=>rfl) rV_up))) (ve_c rfl))) (vs_retN (ve_new (vl_list (vl_seqL (ve_varZ rfl))))) (vs_nx (.same (.same .nil)))) (fun _=>(vs_retN (ve_new (vl_comp1 (vk_rev (ve_varZ rfl)) (fun x15=>vb_true) (fun x15=>(ve_pair (ve_snd (ve_var rfl)) (ve_fst (ve_var rfl)))))))))
noncomputable def q__law_near (a_ties:(List (Int×Int))) (a_place:Int):Option (Fw (List Int) Unit):=
 bindF (((some []).bind fewO).bind fun x2=>some (.nx x2)) fun v1=>bindF ((some a_ties).bind fun l19=>forF l19 v1 fun (s3:(List Int)) x4=>mapF (fun s17=>s17) (((some a_place).bind fun x5=>(some x4).bind fun x6=>some (decide (x5∈[x6.1,x6.2]))).bind fun x16=>if x16=true then mapF (fun v7=>v7) (((((some x4).bind fun x10=>some x10.1).bind fun x12=>((some x4).bind fun x11=>some x11.2).bind fun x13=>some (x12+x13)).bind fun x14=>(some a_place).bind fun x15=>some (x14 - x15)).bind fun x8=>(appO s3 x8).bind fun l9=>some (.nx l9)) else some (.nx s3))) fun s20=>((some s20).bind fun x22=>some (sortZ x22)).bind fun x23=>some (.rt x23)
noncomputable def p__law_near (a_ties:(List (Int×Int))) (a_place:Int):Option (List Int):=outF (q__law_near a_ties a_place)
theorem v__law_near (W:Wd) (a_ties:(List (Int×Int))) (a_place:Int):VF (f__law_near W) [.z ((oL (eP D.int D.int)) a_ties),.v (D.int a_place)] (rN (oL D.int)) (p__law_near a_ties a_place):=by
 refine vf_of (n:=4) (b:=b__law_near W) (p:=q__law_near a_ties a_place) (B:=fun _=>[]) ?_;show VS [.z ((oL (eP D.int D.int)) a_ties),.v (D.int a_place),.u,.u] _ _ _ _;unfold b__law_near q__law_near;exact (vs_seq (vs_setW (ve_new (vl_lenOk vl_nil))) (fun v1=>(vs_seq (vs_for (s0:=v1) (B:=(fun (s21:(List Int))=>[.z ((oL (eP D.int D.int)) a_ties),.v (D.int a_place),.w 2 ((oL D.int) s21),.u])) (vi_var rfl) vt_name (.same (.same (.same (.same .nil)))) (fun s3 x4=>(vs_map (vs_if (B:=(fun (s18:(List Int))=>[.z ((oL (eP D.int D.int)) a_ties),.v (D.int a_place),.w 2 ((oL D.int) s18),.v ((eP D.int D.int) x4)])) (vb_B (ve_inP eqN_int (ve_var rfl) (ve_var rfl))) (vs_map (vs_app rfl (ve_sub (ve_add (ve_fst (ve_var rfl)) (ve_snd (ve_var rfl))) (ve_var rfl)) rfl) (fun v7=>(.same (.same (.same (.same .nil)))))) (vs_nx (.same (.same (.same (.same .nil)))))) (fun s17=>(.same (.same (.same (.drop .nil)))))))) (fun s20=>(vs_retN (ve_sortZ (ve_varW rfl)))))))
noncomputable def q__law_sets (a_places:Int) (a_guards:Int):Option (Fw (List (List Int)) Unit):=
 bindF (((((some []).bind fewO).bind fun x2=>(some []).bind fun l3=>some (x2 :: l3)).bind fewO).bind fun x4=>some (.nx x4)) fun v1=>bindF (((some a_guards).bind rng1).bind fun l48=>forF l48 v1 fun (s5:(List (List Int))) x6=>bindF (((some []).bind fewO).bind fun x8=>some (.nx x8)) fun v7=>bindF ((some s5).bind fun l44=>forF l44 v7 fun (s9:(List (List Int))) x10=>bindF ((some (0:Int)).bind fun x12=>some (.nx x12)) fun v11=>bindF (((some x10).bind fun x13=>((some []).bind fewO).bind fun x14=>some (!decide (x13=x14))).bind fun x23=>if x23=true then mapF (fun v15=>v15) ((((some x10).bind fun l17=>((some (1:Int)).bind fun x16=>some (-x16)).bind fun x18=>atI l17 x18).bind fun x20=>(some (1:Int)).bind fun x21=>some (x20+x21)).bind fun x22=>some (.nx x22)) else some (.nx v11)) fun s24=>mapF (fun v26=>v26) ((((some s24).bind fun x36=>((((some a_places).bind fun x29=>(some a_guards).bind fun x30=>some (x29 - x30)).bind fun x31=>(some x6).bind fun x32=>some (x31+x32)).bind fun x34=>(some (1:Int)).bind fun x35=>some (x34+x35)).bind fun x37=>rng2 x36 x37).bind fun l43=>compG l43 (fun x38=>some true) (fun x38=>(some x10).bind fun x41=>(((some x38).bind fun x39=>(some []).bind fun l40=>some (x39 :: l40)).bind fewO).bind fun x42=>extO x41 x42)).bind fun x27=>(extO s9 x27).bind fun l28=>some (.nx l28))) fun s45=>mapF (fun _=>s45) (some (.nx ()))) fun s49=>some (.rt s49)
noncomputable def p__law_sets (a_places:Int) (a_guards:Int):Option (List (List Int)):=outF (q__law_sets a_places a_guards)
theorem v__law_sets (W:Wd) (a_places:Int) (a_guards:Int):VF (f__law_sets W) [.v (D.int a_places),.v (D.int a_guards)] (rN (oL (eT D.int))) (p__law_sets a_places a_guards):=by
 refine vf_of (n:=7) (b:=b__law_sets W) (p:=q__law_sets a_places a_guards) (B:=fun _=>[]) ?_;show VS [.v (D.int a_places),.v (D.int a_guards),.u,.u,.u,.u,.u] _ _ _ _;unfold b__law_sets q__law_sets;exact (vs_seq (vs_setZ (ve_new (vl_lenOk (vl_cons (ve_tup vl_nil) vl_nil)))) (fun v1=>(vs_seq (vs_for (s0:=v1) (B:=(fun (s50:(List (List Int)))=>[.v (D.int a_places),.v (D.int a_guards),.y ((oL (eT D.int)) s50),.u,.u,.u,.u])) (vi_range1 (ve_var rfl)) vt_name (.same (.same (.same (.same (.same (.same (.same .nil))))))) (fun s5 x6=>(vs_seq (vs_setW (ve_new (vl_lenOk vl_nil))) (fun v7=>(vs_seq (vs_for (s0:=v7) (B:=(fun (s46:(List (List Int)))=>[.v (D.int a_places),.v (D.int a_guards),.y ((oL (eT D.int)) s5),.v (D.int x6),.w 4 ((oL (eT D.int)) s46),.u,.u])) (vi_varY rfl) vt_name (.same (.same (.same (.same (.same (.same (.same .nil))))))) (fun s9 x10=>(vs_seq (vs_set (ve_c rfl)) (fun v11=>(vs_seq (vs_if (B:=(fun (s25:Int)=>[.v (D.int a_places),.v (D.int a_guards),.y ((oL (eT D.int)) s5),.v (D.int x6),.w 4 ((oL (eT D.int)) s9),.v ((eT D.int) x10),.v (D.int s25)])) (vb_B (ve_ne (eqN_tup eqN_int) nl_tup (ve_var rfl) (ve_tup vl_nil))) (vs_map (vs_set (ve_add (ve_ixT (ve_var rfl) (ve_neg (ve_c rfl))) (ve_c rfl))) (fun v15=>(.same (.same (.same (.same (.same (.same (.same .nil))))))))) (vs_nx (.same (.same (.same (.same (.same (.same (.same .nil))))))))) (fun s24=>(vs_map (vs_ext rfl (ve_new (vl_comp1 (VI.k (vi_range2 (ve_var rfl) (ve_add (ve_add (ve_sub (ve_var rfl) (ve_var rfl)) (ve_var rfl)) (ve_c rfl)))) (fun x38=>vb_true) (fun x38=>(ve_catT (ve_var rfl) (ve_tup (vl_cons (ve_var rfl) vl_nil)))))) rfl) (fun v26=>(.same (.same (.same (.same (.same (.drop (.drop .nil))))))))))))))) (fun s45=>(vs_map (vs_frz 4 rfl rfl (vs_aliasY rfl)) (fun _=>(.same (.same (.same (.drop (.drop (.same (.same .nil))))))))))))))) (fun s49=>(vs_retY rfl)))))
end M
namespace M
open PySem L2 L4
noncomputable def q__law_answers (a_ties:(List (Int×Int))) (a_standing:(List Int)) (a_call:Int) (a_kind:Str):Option (Fw (List (List Int)) Unit):=
 bindF (((some a_kind).bind fun x1=>(some ("one" : Str)).bind fun x2=>some (decide (x1=x2))).bind fun x37=>if x37=true then bindF (((((some a_standing).bind fun x4=>some (x4.length:Int)).bind rng1).bind fun l15=>compG l15 (fun x5=>(some a_call).bind fun x6=>(((some a_ties).bind fun x10=>(((some a_standing).bind fun l8=>(some x5).bind fun x9=>atI l8 x9).bind fun x11=>(some ()).bind fun x12=>some (x11,x12)).bind fun x13=>some (x10,x13)).bind fun z14=>p__law_near z14.1 z14.2.1).bind fun x7=>some (decide (x6∈x7))) (fun x5=>some x5)).bind fun x16=>some (.nx x16)) fun v3=>(((some v3).bind fun l35=>compG l35 (fun x17=>some true) (fun x17=>(((some a_standing).bind fun l19=>(some none).bind fun x20=>((some x17).bind fun x18=>some (some x18)).bind fun x21=>some (cutG l19 x20 x21)).bind fun x24=>(((some a_call).bind fun x22=>(some []).bind fun l23=>some (x22 :: l23)).bind fewO).bind fun x25=>extO x24 x25).bind fun x33=>((some a_standing).bind fun l30=>(((some x17).bind fun x27=>(some (1:Int)).bind fun x28=>some (x27+x28)).bind fun x29=>some (some x29)).bind fun x31=>(some none).bind fun x32=>some (cutG l30 x31 x32)).bind fun x34=>extO x33 x34)).bind sortRO).bind fun x36=>some (.rt x36) else some (.nx ())) fun _=>bindF (((((some []).bind fewO).bind fun x41=>(some []).bind fun l42=>some (x41 :: l42)).bind fewO).bind fun x43=>some (.nx x43)) fun v40=>bindF ((some a_standing).bind fun l76=>forF l76 v40 fun (s44:(List (List Int))) x45=>bindF (((((some x45).bind fun x47=>(some []).bind fun l48=>some (x47 :: l48)).bind fewO).bind fun x54=>(((some a_ties).bind fun x49=>((some x45).bind fun x50=>(some ()).bind fun x51=>some (x50,x51)).bind fun x52=>some (x49,x52)).bind fun z53=>p__law_near z53.1 z53.2.1).bind fun x55=>extO x54 x55).bind fun x56=>some (.nx x56)) fun v46=>bindF (((some []).bind fewO).bind fun x58=>some (.nx x58)) fun v57=>bindF ((some s44).bind fun l72=>forF l72 v57 fun (s59:(List (List Int))) x60=>mapF (fun v61=>v61) (((some v46).bind fun l71=>compG l71 (fun x64=>(some x64).bind fun x65=>(some x60).bind fun x66=>some (!decide (x65∈x66))) (fun x64=>(some x60).bind fun x69=>(((some x64).bind fun x67=>(some []).bind fun l68=>some (x67 :: l68)).bind fewO).bind fun x70=>extO x69 x70)).bind fun x62=>(extO s59 x62).bind fun l63=>some (.nx l63))) fun s73=>mapF (fun _=>s73) (some (.nx ()))) fun s77=>(((some s77).bind fun l82=>compG l82 (fun x79=>(some a_call).bind fun x80=>(some x79).bind fun x81=>some (decide (x80∈x81))) (fun x79=>some x79)).bind sortRO).bind fun x83=>some (.rt x83)
noncomputable def p__law_answers (a_ties:(List (Int×Int))) (a_standing:(List Int)) (a_call:Int) (a_kind:Str):Option (List (List Int)):=outF (q__law_answers a_ties a_standing a_call a_kind)
theorem v__law_answers (W:Wd) (a_ties:(List (Int×Int))) (a_standing:(List Int)) (a_call:Int) (a_kind:Str):VF (f__law_answers W) [.z ((oL (eP D.int D.int)) a_ties),.v ((eT D.int) a_standing),.v (D.int a_call),.v (D.str a_kind)] (rN (oL (eT D.int))) (p__law_answers a_ties a_standing a_call a_kind):=by
 refine vf_of (n:=10) (b:=b__law_answers W) (p:=q__law_answers a_ties a_standing a_call a_kind) (B:=fun _=>[]) ?_;show VS [.z ((oL (eP D.int D.int)) a_ties),.v ((eT D.int) a_standing),.v (D.int a_call),.v (D.str a_kind),.u,.u,.u,.u,.u,.u] _ _ _ _;unfold b__law_answers q__law_answers;exact (vs_seq (vs_if (B:=(fun (_:Unit)=>[.z ((oL (eP D.int D.int)) a_ties),.v ((eT D.int) a_standing),.v (D.int a_call),.v (D.str a_kind),.u,.u,.u,.u,.u,.u])) (vb_B (ve_eq eqN_str nl_str (ve_var rfl) (ve_c rfl))) (vs_seq (vs_setZ (ve_new (vl_comp1 (VI.k (vi_range1 (ve_lenT (ve_var rfl)))) (fun x5=>(vb_B (ve_inL eqN_int (ve_var rfl) (ve_no (ve_call (va_z (ve_varZ rfl) (va_v (ve_ixT (ve_var rfl) (ve_var rfl)) va_nil)) (fun z14=>v__law_near W z14.1 z14.2.1) (fun _=>rfl) rN_up))))) (fun x5=>(ve_var rfl))))) (fun v3=>(vs_retN (ve_sortR (ve_no (ve_new (vl_comp1 (VI.k (vi_varY rfl)) (fun x17=>vb_true) (fun x17=>(ve_catT (ve_catT (ve_cutT (ve_var rfl) vo_none (vo_some (ve_var rfl))) (ve_tup (vl_cons (ve_var rfl) vl_nil))) (ve_cutT (ve_var rfl) (vo_some (ve_add (ve_var rfl) (ve_c rfl))) vo_none)))))))))) (vs_nx (.same (.same (.same (.same (.same (.same (.same (.same (.same (.same .nil)))))))))))) (fun _=>(vs_seq (vs_setZ (ve_new (vl_lenOk (vl_cons (ve_tup vl_nil) vl_nil)))) (fun v40=>(vs_seq (vs_for (s0:=v40) (B:=(fun (s78:(List (List Int)))=>[.z ((oL (eP D.int D.int)) a_ties),.v ((eT D.int) a_standing),.v (D.int a_call),.v (D.str a_kind),.u,.y ((oL (eT D.int)) s78),.u,.u,.u,.u])) (vi_tup (ve_var rfl)) vt_name (.same (.same (.same (.same (.same (.same (.same (.same (.same (.same .nil)))))))))) (fun s44 x45=>(vs_seq (vs_setZ (ve_catL (ve_no (ve_new (vl_lenOk (vl_cons (ve_var rfl) vl_nil)))) (ve_no (ve_call (va_z (ve_varZ rfl) (va_v (ve_var rfl) va_nil)) (fun z53=>v__law_near W z53.1 z53.2.1) (fun _=>rfl) rN_up)))) (fun v46=>(vs_seq (vs_setW (ve_new (vl_lenOk vl_nil))) (fun v57=>(vs_seq (vs_for (s0:=v57) (B:=(fun (s74:(List (List Int)))=>[.z ((oL (eP D.int D.int)) a_ties),.v ((eT D.int) a_standing),.v (D.int a_call),.v (D.str a_kind),.u,.y ((oL (eT D.int)) s44),.v (D.int x45),.y ((oL D.int) v46),.w 8 ((oL (eT D.int)) s74),.u])) (vi_varY rfl) vt_name (.same (.same (.same (.same (.same (.same (.same (.same (.same (.same .nil)))))))))) (fun s59 x60=>(vs_map (vs_ext rfl (ve_new (vl_comp1 (VI.k (vi_varY rfl)) (fun x64=>(vb_B (ve_ninT eqN_int (ve_var rfl) (ve_var rfl)))) (fun x64=>(ve_catT (ve_var rfl) (ve_tup (vl_cons (ve_var rfl) vl_nil)))))) rfl) (fun v61=>(.same (.same (.same (.same (.same (.same (.same (.same (.same (.drop .nil)))))))))))))) (fun s73=>(vs_map (vs_frz 8 rfl rfl (vs_aliasY rfl)) (fun _=>(.same (.same (.same (.same (.same (.same (.drop (.drop (.drop (.same .nil)))))))))))))))))))) (fun s77=>(vs_retN (ve_sortR (ve_no (ve_new (vl_comp1 (VI.k (vi_varY rfl)) (fun x79=>(vb_B (ve_inT eqN_int (ve_var rfl) (ve_var rfl)))) (fun x79=>(ve_var rfl)))))))))))))
noncomputable def q__law_is (a_ties:(List (Int×Int))) (a_standing:(List Int)) (a_call:Int) (a_kind:Str) (a_told:(List Int)):Option (Fw Bool Unit):=
 bindF (((((some a_told).bind fun x3=>some (x3.length:Int)).bind fun x1=>((some a_standing).bind fun x4=>some (x4.length:Int)).bind fun x2=>some (!decide (x1=x2))).bind fun x7=>if x7=true then some true else (some a_call).bind fun x5=>(some a_told).bind fun x6=>some (!decide (x5∈x6))).bind fun x9=>if x9=true then (some false).bind fun x8=>some (.rt x8) else some (.nx ())) fun _=>bindF ((some (0:Int)).bind fun x13=>some (.nx x13)) fun v12=>bindF ((((some a_told).bind fun x14=>some (x14.length:Int)).bind rng1).bind fun l58=>forF l58 v12 fun (s15:Int) x16=>bindF ((((some a_told).bind fun l23=>(some x16).bind fun x24=>atI l23 x24).bind fun x17=>((some a_told).bind fun l20=>(some none).bind fun x21=>((some x16).bind fun x19=>some (some x19)).bind fun x22=>some (cutG l20 x21 x22)).bind fun x18=>some (decide (x17∈x18))).bind fun x26=>if x26=true then (some false).bind fun x25=>some (.rt x25) else some (.nx ())) fun _=>mapF (fun s56=>s56) ((((some a_told).bind fun l31=>(some x16).bind fun x32=>atI l31 x32).bind fun x29=>((some a_standing).bind fun l33=>(some x16).bind fun x34=>atI l33 x34).bind fun x30=>some (!decide (x29=x30))).bind fun x55=>if x55=true then bindF (((some s15).bind fun x37=>(some (1:Int)).bind fun x38=>some (x37+x38)).bind fun x39=>some (.nx x39)) fun v35=>mapF (fun _=>v35) ((((some a_told).bind fun l49=>(some x16).bind fun x50=>atI l49 x50).bind fun x40=>(((some a_ties).bind fun x44=>(((some a_standing).bind fun l42=>(some x16).bind fun x43=>atI l42 x43).bind fun x45=>(some ()).bind fun x46=>some (x45,x46)).bind fun x47=>some (x44,x47)).bind fun z48=>p__law_near z48.1 z48.2.1).bind fun x41=>some (!decide (x40∈x41))).bind fun x52=>if x52=true then (some false).bind fun x51=>some (.rt x51) else some (.nx ())) else some (.nx s15))) fun s59=>(((some a_kind).bind fun x61=>(some ("all" : Str)).bind fun x62=>some (decide (x61=x62))).bind fun x65=>if x65=true then some true else (some s59).bind fun x63=>(some (1:Int)).bind fun x64=>some (decide (x63=x64))).bind fun x66=>some (.rt x66)
noncomputable def p__law_is (a_ties:(List (Int×Int))) (a_standing:(List Int)) (a_call:Int) (a_kind:Str) (a_told:(List Int)):Option Bool:=outF (q__law_is a_ties a_standing a_call a_kind a_told)
theorem v__law_is (W:Wd) (a_ties:(List (Int×Int))) (a_standing:(List Int)) (a_call:Int) (a_kind:Str) (a_told:(List Int)):VF (f__law_is W) [.z ((oL (eP D.int D.int)) a_ties),.v ((eT D.int) a_standing),.v (D.int a_call),.v (D.str a_kind),.v ((eT D.int) a_told)] (rV D.bl) (p__law_is a_ties a_standing a_call a_kind a_told):=by
 refine vf_of (n:=7) (b:=b__law_is W) (p:=q__law_is a_ties a_standing a_call a_kind a_told) (B:=fun _=>[]) ?_;show VS [.z ((oL (eP D.int D.int)) a_ties),.v ((eT D.int) a_standing),.v (D.int a_call),.v (D.str a_kind),.v ((eT D.int) a_told),.u,.u] _ _ _ _;unfold b__law_is q__law_is;exact (vs_seq (vs_if (B:=(fun (_:Unit)=>[.z ((oL (eP D.int D.int)) a_ties),.v ((eT D.int) a_standing),.v (D.int a_call),.v (D.str a_kind),.v ((eT D.int) a_told),.u,.u])) (vb_or (vb_B (ve_ne eqN_int nl_int (ve_lenT (ve_var rfl)) (ve_lenT (ve_var rfl)))) (vb_B (ve_ninT eqN_int (ve_var rfl) (ve_var rfl)))) (vs_ret (ve_c rfl)) (vs_nx (.same (.same (.same (.same (.same (.same (.same .nil))))))))) (fun _=>(vs_seq (vs_set (ve_c rfl)) (fun v12=>(vs_seq (vs_for (s0:=v12) (B:=(fun (s60:Int)=>[.z ((oL (eP D.int D.int)) a_ties),.v ((eT D.int) a_standing),.v (D.int a_call),.v (D.str a_kind),.v ((eT D.int) a_told),.v (D.int s60),.u])) (vi_range1 (ve_lenT (ve_var rfl))) vt_name (.same (.same (.same (.same (.same (.same (.same .nil))))))) (fun s15 x16=>(vs_seq (vs_if (B:=(fun (_:Unit)=>[.z ((oL (eP D.int D.int)) a_ties),.v ((eT D.int) a_standing),.v (D.int a_call),.v (D.str a_kind),.v ((eT D.int) a_told),.v (D.int s15),.v (D.int x16)])) (vb_B (ve_inT eqN_int (ve_ixT (ve_var rfl) (ve_var rfl)) (ve_cutT (ve_var rfl) vo_none (vo_some (ve_var rfl))))) (vs_ret (ve_c rfl)) (vs_nx (.same (.same (.same (.same (.same (.same (.same .nil))))))))) (fun _=>(vs_map (vs_if (B:=(fun (s57:Int)=>[.z ((oL (eP D.int D.int)) a_ties),.v ((eT D.int) a_standing),.v (D.int a_call),.v (D.str a_kind),.v ((eT D.int) a_told),.v (D.int s57),.v (D.int x16)])) (vb_B (ve_ne eqN_int nl_int (ve_ixT (ve_var rfl) (ve_var rfl)) (ve_ixT (ve_var rfl) (ve_var rfl)))) (vs_seq (vs_set (ve_add (ve_var rfl) (ve_c rfl))) (fun v35=>(vs_map (vs_if (B:=(fun (_:Unit)=>[.z ((oL (eP D.int D.int)) a_ties),.v ((eT D.int) a_standing),.v (D.int a_call),.v (D.str a_kind),.v ((eT D.int) a_told),.v (D.int v35),.v (D.int x16)])) (vb_B (ve_ninL eqN_int (ve_ixT (ve_var rfl) (ve_var rfl)) (ve_no (ve_call (va_z (ve_varZ rfl) (va_v (ve_ixT (ve_var rfl) (ve_var rfl)) va_nil)) (fun z48=>v__law_near W z48.1 z48.2.1) (fun _=>rfl) rN_up)))) (vs_ret (ve_c rfl)) (vs_nx (.same (.same (.same (.same (.same (.same (.same .nil))))))))) (fun _=>(.same (.same (.same (.same (.same (.same (.same .nil))))))))))) (vs_nx (.same (.same (.same (.same (.same (.same (.same .nil))))))))) (fun s56=>(.same (.same (.same (.same (.same (.same (.drop .nil))))))))))))) (fun s59=>(vs_ret (ve_orV (ve_eq eqN_str nl_str (ve_var rfl) (ve_c rfl)) (ve_eq eqN_int nl_int (ve_var rfl) (ve_c rfl))))))))))
noncomputable def q__law_spoilt (a_row:(List Int)) (a_cell:Int) (a_places:Int):Option (Fw (List (List Int)) Unit):=
 bindF (((some a_cell).bind fun x3=>((some a_row).bind fun x2=>some (x2.length:Int)).bind fun x4=>modO x3 x4).bind fun x5=>some (.nx x5)) fun v1=>bindF (((((some a_cell).bind fun x7=>some (x7 / 7)).bind fun x11=>((some a_places).bind fun x9=>(some (2:Int)).bind fun x10=>some (x9+x10)).bind fun x12=>modO x11 x12).bind fun x14=>(some (1:Int)).bind fun x15=>some (x14 - x15)).bind fun x16=>some (.nx x16)) fun v6=>bindF ((((some a_row).bind fun x50=>(((((some a_row).bind fun l19=>(some none).bind fun x20=>((some v1).bind fun x18=>some (some x18)).bind fun x21=>some (cutG l19 x20 x21)).bind fun x24=>(((some v6).bind fun x22=>(some []).bind fun l23=>some (x22 :: l23)).bind fewO).bind fun x25=>extO x24 x25).bind fun x33=>((some a_row).bind fun l30=>(((some v1).bind fun x27=>(some (1:Int)).bind fun x28=>some (x27+x28)).bind fun x29=>some (some x29)).bind fun x31=>(some none).bind fun x32=>some (cutG l30 x31 x32)).bind fun x34=>extO x33 x34).bind fun x48=>(((some a_row).bind fun x37=>(((some v6).bind fun x35=>(some []).bind fun l36=>some (x35 :: l36)).bind fewO).bind fun x38=>extO x37 x38).bind fun x46=>(((some a_row).bind fun l41=>(some none).bind fun x42=>(((some (1:Int)).bind fun x39=>some (-x39)).bind fun x40=>some (some x40)).bind fun x43=>some (cutG l41 x42 x43)).bind fun x44=>(some []).bind fun l45=>some (x44 :: l45)).bind fun l47=>some (x46 :: l47)).bind fun l49=>some (x48 :: l49)).bind fun l51=>some (x50 :: l51)).bind fewO).bind fun x52=>some (.nx x52)) fun v17=>bindF (((((some a_row).bind fun l57=>(some none).bind fun x58=>((some v1).bind fun x56=>some (some x56)).bind fun x59=>some (cutG l57 x58 x59)).bind fun x68=>((((some a_row).bind fun l64=>(((some a_cell).bind fun x60=>some (x60 / 7)).bind fun x62=>((some a_row).bind fun x61=>some (x61.length:Int)).bind fun x63=>modO x62 x63).bind fun x65=>atI l64 x65).bind fun x66=>(some []).bind fun l67=>some (x66 :: l67)).bind fewO).bind fun x69=>extO x68 x69).bind fun x77=>((some a_row).bind fun l74=>(((some v1).bind fun x71=>(some (1:Int)).bind fun x72=>some (x71+x72)).bind fun x73=>some (some x73)).bind fun x75=>(some none).bind fun x76=>some (cutG l74 x75 x76)).bind fun x78=>extO x77 x78).bind fun x54=>(appO v17 x54).bind fun l55=>some (.nx l55)) fun v53=>bindF ((((some a_row).bind fun l83=>((some (1:Int)).bind fun x82=>some (some x82)).bind fun x84=>(some none).bind fun x85=>some (cutG l83 x84 x85)).bind fun x90=>((some a_row).bind fun l87=>(some none).bind fun x88=>((some (1:Int)).bind fun x86=>some (some x86)).bind fun x89=>some (cutG l87 x88 x89)).bind fun x91=>extO x90 x91).bind fun x80=>(appO v53 x80).bind fun l81=>some (.nx l81)) fun v79=>bindF (((((some a_row).bind fun l96=>(some none).bind fun x97=>((some v1).bind fun x95=>some (some x95)).bind fun x98=>some (cutG l96 x97 x98)).bind fun x108=>(((((some a_row).bind fun l99=>(some v1).bind fun x100=>atI l99 x100).bind fun x104=>((some (10:Int)).bind fun x102=>(some (20:Int)).bind fun x103=>powO x102 x103).bind fun x105=>some (x104+x105)).bind fun x106=>(some []).bind fun l107=>some (x106 :: l107)).bind fewO).bind fun x109=>extO x108 x109).bind fun x117=>((some a_row).bind fun l114=>(((some v1).bind fun x111=>(some (1:Int)).bind fun x112=>some (x111+x112)).bind fun x113=>some (some x113)).bind fun x115=>(some none).bind fun x116=>some (cutG l114 x115 x116)).bind fun x118=>extO x117 x118).bind fun x93=>(appO v79 x93).bind fun l94=>some (.nx l94)) fun v92=>some (.rt v92)
noncomputable def p__law_spoilt (a_row:(List Int)) (a_cell:Int) (a_places:Int):Option (List (List Int)):=outF (q__law_spoilt a_row a_cell a_places)
theorem v__law_spoilt (W:Wd) (a_row:(List Int)) (a_cell:Int) (a_places:Int):VF (f__law_spoilt W) [.v ((eT D.int) a_row),.v (D.int a_cell),.v (D.int a_places)] (rN (oL (eT D.int))) (p__law_spoilt a_row a_cell a_places):=by
 refine vf_of (n:=6) (b:=b__law_spoilt W) (p:=q__law_spoilt a_row a_cell a_places) (B:=fun _=>[]) ?_;show VS [.v ((eT D.int) a_row),.v (D.int a_cell),.v (D.int a_places),.u,.u,.u] _ _ _ _;unfold b__law_spoilt q__law_spoilt;exact (vs_seq (vs_set (ve_mod (ve_var rfl) (ve_lenT (ve_var rfl)))) (fun v1=>(vs_seq (vs_set (ve_sub (ve_mod (ve_fdivC rfl (ve_var rfl)) (ve_add (ve_var rfl) (ve_c rfl))) (ve_c rfl))) (fun v6=>(vs_seq (vs_setW (ve_new (vl_lenOk (vl_cons (ve_var rfl) (vl_cons (ve_catT (ve_catT (ve_cutT (ve_var rfl) vo_none (vo_some (ve_var rfl))) (ve_tup (vl_cons (ve_var rfl) vl_nil))) (ve_cutT (ve_var rfl) (vo_some (ve_add (ve_var rfl) (ve_c rfl))) vo_none)) (vl_cons (ve_catT (ve_var rfl) (ve_tup (vl_cons (ve_var rfl) vl_nil))) (vl_cons (ve_cutT (ve_var rfl) vo_none (vo_some (ve_neg (ve_c rfl)))) vl_nil))))))) (fun v17=>(vs_seq (vs_app rfl (ve_catT (ve_catT (ve_cutT (ve_var rfl) vo_none (vo_some (ve_var rfl))) (ve_tup (vl_cons (ve_ixT (ve_var rfl) (ve_mod (ve_fdivC rfl (ve_var rfl)) (ve_lenT (ve_var rfl)))) vl_nil))) (ve_cutT (ve_var rfl) (vo_some (ve_add (ve_var rfl) (ve_c rfl))) vo_none)) rfl) (fun v53=>(vs_seq (vs_app rfl (ve_catT (ve_cutT (ve_var rfl) (vo_some (ve_c rfl)) vo_none) (ve_cutT (ve_var rfl) vo_none (vo_some (ve_c rfl)))) rfl) (fun v79=>(vs_seq (vs_app rfl (ve_catT (ve_catT (ve_cutT (ve_var rfl) vo_none (vo_some (ve_var rfl))) (ve_tup (vl_cons (ve_add (ve_ixT (ve_var rfl) (ve_var rfl)) (ve_pow (ve_c rfl) (ve_c rfl))) vl_nil))) (ve_cutT (ve_var rfl) (vo_some (ve_add (ve_var rfl) (ve_c rfl))) vo_none)) rfl) (fun v92=>(vs_retW rfl)))))))))))))
noncomputable def q__law_any (a_cell:Int) (a_size:Int) (a_places:Int):Option (Fw (List Int) Unit):=
 bindF (((some []).bind fewO).bind fun x2=>some (.nx x2)) fun v1=>bindF (((some a_size).bind rng1).bind fun l26=>forF l26 (v1,a_cell) fun (s3:(List Int)×Int) x4=>bindF ((((some s3.2).bind fun x11=>((some a_places).bind fun x9=>(some (1:Int)).bind fun x10=>some (x9+x10)).bind fun x12=>modO x11 x12).bind fun x17=>((((some s3.2).bind fun x15=>some (x15 % 7)).bind fun x13=>(some (3:Int)).bind fun x14=>some (decide (x13=x14))).bind fun x16=>some (if x16=true then 1 else 0)).bind fun x18=>some (x17 - x18)).bind fun x6=>(appO s3.1 x6).bind fun l7=>some (.nx l7)) fun v5=>mapF (fun v19=>(v5,v19)) (((some s3.2).bind fun x23=>((some a_places).bind fun x21=>(some (1:Int)).bind fun x22=>some (x21+x22)).bind fun x24=>fdivO x23 x24).bind fun x25=>some (.nx x25))) fun s27=>(some s27.1).bind fun x29=>some (.rt x29)
noncomputable def p__law_any (a_cell:Int) (a_size:Int) (a_places:Int):Option (List Int):=outF (q__law_any a_cell a_size a_places)
theorem v__law_any (W:Wd) (a_cell:Int) (a_size:Int) (a_places:Int):VF (f__law_any W) [.v (D.int a_cell),.v (D.int a_size),.v (D.int a_places)] (rV (eT D.int)) (p__law_any a_cell a_size a_places):=by
 refine vf_of (n:=5) (b:=b__law_any W) (p:=q__law_any a_cell a_size a_places) (B:=fun _=>[]) ?_;show VS [.v (D.int a_cell),.v (D.int a_size),.v (D.int a_places),.u,.u] _ _ _ _;unfold b__law_any q__law_any;exact (vs_seq (vs_setW (ve_new (vl_lenOk vl_nil))) (fun v1=>(vs_seq (vs_for (s0:=(v1,a_cell)) (B:=(fun (s28:(List Int)×Int)=>[.v (D.int s28.2),.v (D.int a_size),.v (D.int a_places),.w 3 ((oL D.int) s28.1),.u])) (vi_range1 (ve_var rfl)) vt_name (.same (.same (.same (.same (.same .nil))))) (fun s3 x4=>(vs_seq (vs_app rfl (ve_sub (ve_mod (ve_var rfl) (ve_add (ve_var rfl) (ve_c rfl))) (ve_int (ve_eq eqN_int nl_int (ve_modC rfl (ve_var rfl)) (ve_c rfl)))) rfl) (fun v5=>(vs_map (vs_set (ve_fdiv (ve_var rfl) (ve_add (ve_var rfl) (ve_c rfl)))) (fun v19=>(.same (.same (.same (.same (.drop .nil))))))))))) (fun s27=>(vs_ret (ve_tupleL (ve_varW rfl)))))))
noncomputable def q_refuse_no_place (a_web:(Nat×List (Int×Int))) (a_place:Int):Option (Fw Unit Unit):=
 (((some (0:Int)).bind fun x2=>(some a_place).bind fun x3=>if decide (x2≤x3)=true then ((some a_web).bind fun x1=>some (x1.1:Int)).bind fun x4=>some (decide (x3 < x4)) else some false).bind fun x5=>some (!x5)).bind fun x6=>if x6=true then none else some (.nx ())
noncomputable def p_refuse_no_place (a_web:(Nat×List (Int×Int))) (a_place:Int):Option Unit:=outU (q_refuse_no_place a_web a_place)
theorem v_refuse_no_place (W:Wd) (a_web:(Nat×List (Int×Int))) (a_place:Int):VF (f_refuse_no_place W) [.z ((oWeb W) a_web),.v (D.int a_place)] (rV eU) (p_refuse_no_place a_web a_place):=by
 refine vf_ofU (n:=2) (b:=b_refuse_no_place W) (p:=q_refuse_no_place a_web a_place) (B:=fun _=>[.z ((oWeb W) a_web),.v (D.int a_place)]) ?_;show VS [.z ((oWeb W) a_web),.v (D.int a_place)] _ _ _ _;unfold b_refuse_no_place q_refuse_no_place;exact (vs_if (B:=(fun (_:Unit)=>[.z ((oWeb W) a_web),.v (D.int a_place)])) (vb_not (vb_B (ve_chain ch_le ch_lt (ve_c rfl) (ve_var rfl) (ve_places (ve_varZ rfl))))) vs_bad (vs_nx (.same (.same .nil))))
noncomputable def q_near (a_web:(Nat×List (Int×Int))) (a_place:Int):Option (Fw (List Int) Unit):=
 bindF ((((some a_web).bind fun x1=>((some a_place).bind fun x2=>(some ()).bind fun x3=>some (x2,x3)).bind fun x4=>some (x1,x4)).bind fun z5=>p_refuse_no_place z5.1 z5.2.1).bind fun _=>some (.nx ())) fun _=>(((some a_web).bind fun x6=>some (nearsZ x6.1 x6.2)).bind fun l7=>(some a_place).bind fun x8=>atI l7 x8).bind fun x9=>some (.rt x9)
noncomputable def p_near (a_web:(Nat×List (Int×Int))) (a_place:Int):Option (List Int):=outF (q_near a_web a_place)
theorem v_near (W:Wd) (a_web:(Nat×List (Int×Int))) (a_place:Int):VF (f_near W) [.z ((oWeb W) a_web),.v (D.int a_place)] (rV (eT D.int)) (p_near a_web a_place):=by
 refine vf_of (n:=2) (b:=b_near W) (p:=q_near a_web a_place) (B:=fun _=>[]) ?_;show VS [.z ((oWeb W) a_web),.v (D.int a_place)] _ _ _ _;unfold b_near q_near;exact (vs_seq (vs_expr (ve_call (va_z (ve_varZ rfl) (va_v (ve_var rfl) va_nil)) (fun z5=>v_refuse_no_place W z5.1 z5.2.1) (fun _=>rfl) rV_up)) (fun _=>(vs_ret (ve_ixT (ve_sets (ve_varZ rfl)) (ve_var rfl)))))
noncomputable def q_is_answer (a_web:(Nat×List (Int×Int))) (a_standing:(List Int)) (a_call:Int) (a_kind:Str) (a_told:(List Int)):Option (Fw Bool Unit):=
 bindF (((((some a_told).bind fun x3=>some (x3.length:Int)).bind fun x1=>((some a_standing).bind fun x4=>some (x4.length:Int)).bind fun x2=>some (!decide (x1=x2))).bind fun x11=>if x11=true then some true else (((some a_told).bind setO).bind fun x5=>((some a_told).bind fun x7=>some (x7.length:Int)).bind fun x6=>some (!decide (x5=x6))).bind fun x10=>if x10=true then some true else (some a_call).bind fun x8=>(some a_told).bind fun x9=>some (!decide (x8∈x9))).bind fun x13=>if x13=true then (some false).bind fun x12=>some (.rt x12) else some (.nx ())) fun _=>bindF ((((some a_standing).bind fun x17=>(some a_told).bind fun x18=>some (x17.zip x18)).bind fun l24=>compG l24 (fun x19=>(some x19.1).bind fun x20=>(some x19.2).bind fun x21=>some (!decide (x20=x21))) (fun x19=>(some x19.1).bind fun x22=>(some x19.2).bind fun x23=>some (x22,x23))).bind fun x25=>some (.nx x25)) fun v16=>bindF (((((some v16).bind fun l34=>compG l34 (fun x26=>some true) (fun x26=>(some x26.2).bind fun x27=>(((some a_web).bind fun x29=>((some x26.1).bind fun x30=>(some ()).bind fun x31=>some (x30,x31)).bind fun x32=>some (x29,x32)).bind fun z33=>p_near z33.1 z33.2.1).bind fun x28=>some (decide (x27∈x28)))).bind fun x35=>some (x35.all id)).bind fun x36=>some (!x36)).bind fun x38=>if x38=true then (some false).bind fun x37=>some (.rt x37) else some (.nx ())) fun _=>(((some a_kind).bind fun x41=>(some ("all" : Str)).bind fun x42=>some (decide (x41=x42))).bind fun x46=>if x46=true then some true else ((some v16).bind fun x45=>some (x45.length:Int)).bind fun x43=>(some (1:Int)).bind fun x44=>some (decide (x43=x44))).bind fun x47=>some (.rt x47)
noncomputable def p_is_answer (a_web:(Nat×List (Int×Int))) (a_standing:(List Int)) (a_call:Int) (a_kind:Str) (a_told:(List Int)):Option Bool:=outF (q_is_answer a_web a_standing a_call a_kind a_told)
theorem v_is_answer (W:Wd) (a_web:(Nat×List (Int×Int))) (a_standing:(List Int)) (a_call:Int) (a_kind:Str) (a_told:(List Int)):VF (f_is_answer W) [.z ((oWeb W) a_web),.v ((eT D.int) a_standing),.v (D.int a_call),.v (D.str a_kind),.v ((eT D.int) a_told)] (rV D.bl) (p_is_answer a_web a_standing a_call a_kind a_told):=by
 refine vf_of (n:=6) (b:=b_is_answer W) (p:=q_is_answer a_web a_standing a_call a_kind a_told) (B:=fun _=>[]) ?_;show VS [.z ((oWeb W) a_web),.v ((eT D.int) a_standing),.v (D.int a_call),.v (D.str a_kind),.v ((eT D.int) a_told),.u] _ _ _ _;unfold b_is_answer q_is_answer;exact (vs_seq (vs_if (B:=(fun (_:Unit)=>[.z ((oWeb W) a_web),.v ((eT D.int) a_standing),.v (D.int a_call),.v (D.str a_kind),.v ((eT D.int) a_told),.u])) (vb_or (vb_B (ve_ne eqN_int nl_int (ve_lenT (ve_var rfl)) (ve_lenT (ve_var rfl)))) (vb_or (vb_B (ve_ne eqN_int nl_int (ve_lenSet (ve_var rfl)) (ve_lenT (ve_var rfl)))) (vb_B (ve_ninT eqN_int (ve_var rfl) (ve_var rfl))))) (vs_ret (ve_c rfl)) (vs_nx (.same (.same (.same (.same (.same (.same .nil)))))))) (fun _=>(vs_seq (vs_setZ (ve_new (vl_comp2 (VI.k (vi_zip (ve_var rfl) (ve_var rfl))) (fun x19=>(vb_B (ve_ne eqN_int nl_int (ve_var rfl) (ve_var rfl)))) (fun x19=>(ve_pair (ve_var rfl) (ve_var rfl)))))) (fun v16=>(vs_seq (vs_if (B:=(fun (_:Unit)=>[.z ((oWeb W) a_web),.v ((eT D.int) a_standing),.v (D.int a_call),.v (D.str a_kind),.v ((eT D.int) a_told),.y ((oL (eP D.int D.int)) v16)])) (vb_not (vb_B (ve_all (vl_seqL (ve_no (ve_new (vl_comp2 (VI.k (vi_varY rfl)) (fun x26=>vb_true) (fun x26=>(ve_inT eqN_int (ve_var rfl) (ve_call (va_z (ve_varZ rfl) (va_v (ve_var rfl) va_nil)) (fun z33=>v_near W z33.1 z33.2.1) (fun _=>rfl) rV_up)))))))))) (vs_ret (ve_c rfl)) (vs_nx (.same (.same (.same (.same (.same (.same .nil)))))))) (fun _=>(vs_ret (ve_orV (ve_eq eqN_str nl_str (ve_var rfl) (ve_c rfl)) (ve_eq eqN_int nl_int (ve_lenL (ve_varY rfl)) (ve_c rfl))))))))))
noncomputable def q_law (a_script:(List Int)):Option (Fw Bool Unit):=
 bindF ((((some a_script).bind fun x2=>((some (0:Int)).bind fun x3=>(some ()).bind fun x4=>some (x3,x4)).bind fun x5=>some (x2,x5)).bind fun z6=>p__law_cell_at z6.1 z6.2.1).bind fun x7=>some (.nx x7)) fun v1=>bindF ((((some (2:Int)).bind fun x10=>((some v1).bind fun x9=>some (x9 % 5)).bind fun x11=>some (x10+x11)).bind fun x17=>(((((some v1).bind fun x14=>some (x14 / 84)).bind fun x15=>some (x15 % 8)).bind fun x12=>(some (1:Int)).bind fun x13=>some (decide (x12=x13))).bind fun x16=>some (if x16=true then 1 else 0)).bind fun x18=>some (x17+x18)).bind fun x19=>some (.nx x19)) fun v8=>bindF ((((some a_script).bind fun x21=>((some (5:Int)).bind fun x22=>((some v8).bind fun x23=>(some ()).bind fun x24=>some (x23,x24)).bind fun x25=>some (x22,x25)).bind fun x26=>some (x21,x26)).bind fun z27=>p__law_ties z27.1 z27.2.1 z27.2.2.1).bind fun x28=>some (.nx x28)) fun v20=>bindF (((some v8).bind fun x35=>(((some a_script).bind fun x30=>((some v20).bind fun x31=>(some ()).bind fun x32=>some (x31,x32)).bind fun x33=>some (x30,x33)).bind fun z34=>p__law_handed z34.1 z34.2.1).bind fun x36=>webO x35 x36).bind fun x37=>some (.nx x37)) fun v29=>bindF (((some (1:Int)).bind fun x49=>((((some a_script).bind fun x39=>((some (1:Int)).bind fun x40=>(some ()).bind fun x41=>some (x40,x41)).bind fun x42=>some (x39,x42)).bind fun z43=>p__law_cell_at z43.1 z43.2.1).bind fun x47=>((some v8).bind fun x45=>(some (1:Int)).bind fun x46=>some (x45 - x46)).bind fun x48=>modO x47 x48).bind fun x50=>some (x49+x50)).bind fun x51=>some (.nx x51)) fun v38=>bindF ((((some v8).bind fun x53=>((some v38).bind fun x54=>(some ()).bind fun x55=>some (x54,x55)).bind fun x56=>some (x53,x56)).bind fun z57=>p__law_sets z57.1 z57.2.1).bind fun x58=>some (.nx x58)) fun v52=>bindF ((((some a_script).bind fun x60=>((some (2:Int)).bind fun x61=>(some ()).bind fun x62=>some (x61,x62)).bind fun x63=>some (x60,x63)).bind fun z64=>p__law_cell_at z64.1 z64.2.1).bind fun x65=>some (.nx x65)) fun v59=>bindF (((some v52).bind fun l70=>((some v59).bind fun x68=>((some v52).bind fun x67=>some (x67.length:Int)).bind fun x69=>modO x68 x69).bind fun x71=>atI l70 x71).bind fun x72=>some (.nx x72)) fun v66=>bindF ((((some v8).bind rng1).bind fun l77=>compG l77 (fun x74=>(some x74).bind fun x75=>(some v66).bind fun x76=>some (!decide (x75∈x76))) (fun x74=>some x74)).bind fun x78=>some (.nx x78)) fun v73=>bindF (((some v73).bind fun l84=>(((some v59).bind fun x80=>some (x80 / 35)).bind fun x82=>((some v73).bind fun x81=>some (x81.length:Int)).bind fun x83=>modO x82 x83).bind fun x85=>atI l84 x85).bind fun x86=>some (.nx x86)) fun v79=>bindF ((((some v66).bind fun x104=>((((((some a_script).bind fun x88=>((some (4:Int)).bind fun x89=>(some ()).bind fun x90=>some (x89,x90)).bind fun x91=>some (x88,x91)).bind fun z92=>p__law_cell_at z92.1 z92.2.1).bind fun x93=>((some v38).bind fun x94=>((some v8).bind fun x95=>(some ()).bind fun x96=>some (x95,x96)).bind fun x97=>some (x94,x97)).bind fun x98=>some (x93,x98)).bind fun z99=>p__law_any z99.1 z99.2.1 z99.2.2.1).bind fun x102=>(((some []).bind fewO).bind fun x100=>(some []).bind fun l101=>some (x100 :: l101)).bind fun l103=>some (x102 :: l103)).bind fun l105=>some (x104 :: l105)).bind fewO).bind fun x106=>some (.nx x106)) fun v87=>bindF (((((some v20).bind fun x108=>((some v66).bind fun x109=>((some v79).bind fun x110=>((some ("all" : Str)).bind fun x111=>(some ()).bind fun x112=>some (x111,x112)).bind fun x113=>some (x110,x113)).bind fun x114=>some (x109,x114)).bind fun x115=>some (x108,x115)).bind fun z116=>p__law_answers z116.1 z116.2.1 z116.2.2.1 z116.2.2.2.1).bind fun l118=>(some none).bind fun x119=>((some (40:Int)).bind fun x117=>some (some x117)).bind fun x120=>some (cutG l118 x119 x120)).bind fun x121=>some (.nx x121)) fun v107=>bindF ((((some v107).bind fun x127=>(((some v66).bind fun x125=>(some []).bind fun l126=>some (x125 :: l126)).bind fewO).bind fun x128=>extO x127 x128).bind fun l140=>((((some a_script).bind fun x129=>((some (3:Int)).bind fun x130=>(some ()).bind fun x131=>some (x130,x131)).bind fun x132=>some (x129,x132)).bind fun z133=>p__law_cell_at z133.1 z133.2.1).bind fun x138=>(((some v107).bind fun x134=>some (x134.length:Int)).bind fun x136=>(some (1:Int)).bind fun x137=>some (x136+x137)).bind fun x139=>modO x138 x139).bind fun x141=>atI l140 x141).bind fun x123=>(appO v87 x123).bind fun l124=>some (.nx l124)) fun v122=>bindF ((((some v122).bind fun x143=>(some v107).bind fun x144=>extO x143 x144).bind fun x159=>((((some v122).bind fun l145=>(some (3:Int)).bind fun x146=>atI l145 x146).bind fun x152=>((((some a_script).bind fun x147=>((some (4:Int)).bind fun x148=>(some ()).bind fun x149=>some (x148,x149)).bind fun x150=>some (x147,x150)).bind fun z151=>p__law_cell_at z151.1 z151.2.1).bind fun x153=>((some v8).bind fun x154=>(some ()).bind fun x155=>some (x154,x155)).bind fun x156=>some (x153,x156)).bind fun x157=>some (x152,x157)).bind fun z158=>p__law_spoilt z158.1 z158.2.1 z158.2.2.1).bind fun x160=>extO x159 x160).bind fun x161=>some (.nx x161)) fun v142=>bindF ((some v142).bind fun l206=>forF l206 () fun (_:Unit) x163=>mapF (fun _=>()) ((((some ("one" : Str)).bind fun x166=>((some ("all" : Str)).bind fun x164=>(some []).bind fun l165=>some (x164 :: l165)).bind fun l167=>some (x166 :: l167)).bind fewO).bind fun l203=>forF l203 () fun (_:Unit) x169=>bindF ((((some v29).bind fun x171=>((some v66).bind fun x172=>((some v79).bind fun x173=>((some x169).bind fun x174=>((some x163).bind fun x175=>(some ()).bind fun x176=>some (x175,x176)).bind fun x177=>some (x174,x177)).bind fun x178=>some (x173,x178)).bind fun x179=>some (x172,x179)).bind fun x180=>some (x171,x180)).bind fun z181=>p_is_answer z181.1 z181.2.1 z181.2.2.1 z181.2.2.2.1 z181.2.2.2.2.1).bind fun x182=>some (.nx x182)) fun v170=>mapF (fun _=>()) (((((some v170).bind fun x183=>some true).bind fun x184=>some (!x184)).bind fun x198=>if x198=true then some true else (some v170).bind fun x185=>(((some v20).bind fun x187=>((some v66).bind fun x188=>((some v79).bind fun x189=>((some x169).bind fun x190=>((some x163).bind fun x191=>(some ()).bind fun x192=>some (x191,x192)).bind fun x193=>some (x190,x193)).bind fun x194=>some (x189,x194)).bind fun x195=>some (x188,x195)).bind fun x196=>some (x187,x196)).bind fun z197=>p__law_is z197.1 z197.2.1 z197.2.2.1 z197.2.2.2.1 z197.2.2.2.2.1).bind fun x186=>some (!decide (x185=x186))).bind fun x200=>if x200=true then (some false).bind fun x199=>some (.rt x199) else some (.nx ())))) fun _=>(some true).bind fun x209=>some (.rt x209)
noncomputable def p_law (a_script:(List Int)):Option Bool:=outF (q_law a_script)
theorem v_law (W:Wd) (a_script:(List Int)):VF (f_law W) [.v (eF a_script)] (rV D.bl) (p_law a_script):=by
 refine vf_of (n:=16) (b:=b_law W) (p:=q_law a_script) (B:=fun _=>[]) ?_;show VS [.v (eF a_script),.u,.u,.u,.u,.u,.u,.u,.u,.u,.u,.u,.u,.u,.u,.u] _ _ _ _;unfold b_law q_law;exact (vs_seq (vs_set (ve_call (va_v (ve_var rfl) (va_v (ve_c rfl) va_nil)) (fun z6=>v__law_cell_at W z6.1 z6.2.1) (fun _=>rfl) rV_up)) (fun v1=>(vs_seq (vs_set (ve_add (ve_add (ve_c rfl) (ve_modC rfl (ve_var rfl))) (ve_int (ve_eq eqN_int nl_int (ve_modC rfl (ve_fdivC rfl (ve_var rfl))) (ve_c rfl))))) (fun v8=>(vs_seq (vs_setZ (ve_call (va_v (ve_var rfl) (va_v (ve_c rfl) (va_v (ve_var rfl) va_nil))) (fun z27=>v__law_ties W z27.1 z27.2.1 z27.2.2.1) (fun _=>rfl) rN_up)) (fun v20=>(vs_seq (vs_setZ (ve_web (ve_var rfl) (ve_no (ve_call (va_v (ve_var rfl) (va_z (ve_varY rfl) va_nil)) (fun z34=>v__law_handed W z34.1 z34.2.1) (fun _=>rfl) rN_up)))) (fun v29=>(vs_seq (vs_set (ve_add (ve_c rfl) (ve_mod (ve_call (va_v (ve_var rfl) (va_v (ve_c rfl) va_nil)) (fun z43=>v__law_cell_at W z43.1 z43.2.1) (fun _=>rfl) rV_up) (ve_sub (ve_var rfl) (ve_c rfl))))) (fun v38=>(vs_seq (vs_setZ (ve_call (va_v (ve_var rfl) (va_v (ve_var rfl) va_nil)) (fun z57=>v__law_sets W z57.1 z57.2.1) (fun _=>rfl) rN_up)) (fun v52=>(vs_seq (vs_set (ve_call (va_v (ve_var rfl) (va_v (ve_c rfl) va_nil)) (fun z64=>v__law_cell_at W z64.1 z64.2.1) (fun _=>rfl) rV_up)) (fun v59=>(vs_seq (vs_set (ve_ixL (ve_varY rfl) (ve_mod (ve_var rfl) (ve_lenL (ve_varY rfl))))) (fun v66=>(vs_seq (vs_setZ (ve_new (vl_comp1 (VI.k (vi_range1 (ve_var rfl))) (fun x74=>(vb_B (ve_ninT eqN_int (ve_var rfl) (ve_var rfl)))) (fun x74=>(ve_var rfl))))) (fun v73=>(vs_seq (vs_set (ve_ixL (ve_varY rfl) (ve_mod (ve_fdivC rfl (ve_var rfl)) (ve_lenL (ve_varY rfl))))) (fun v79=>(vs_seq (vs_setW (ve_new (vl_lenOk (vl_cons (ve_var rfl) (vl_cons (ve_call (va_v (ve_call (va_v (ve_var rfl) (va_v (ve_c rfl) va_nil)) (fun z92=>v__law_cell_at W z92.1 z92.2.1) (fun _=>rfl) rV_up) (va_v (ve_var rfl) (va_v (ve_var rfl) va_nil))) (fun z99=>v__law_any W z99.1 z99.2.1 z99.2.2.1) (fun _=>rfl) rV_up) (vl_cons (ve_tup vl_nil) vl_nil)))))) (fun v87=>(vs_seq (vs_setZ (ve_cutL (ve_no (ve_call (va_z (ve_varY rfl) (va_v (ve_var rfl) (va_v (ve_var rfl) (va_v (ve_c rfl) va_nil)))) (fun z116=>v__law_answers W z116.1 z116.2.1 z116.2.2.1 z116.2.2.2.1) (fun _=>rfl) rN_up)) vo_none (vo_some (ve_c rfl)))) (fun v107=>(vs_seq (vs_app rfl (ve_ixL (ve_no (ve_catL (ve_varY rfl) (ve_no (ve_new (vl_lenOk (vl_cons (ve_var rfl) vl_nil)))))) (ve_mod (ve_call (va_v (ve_var rfl) (va_v (ve_c rfl) va_nil)) (fun z133=>v__law_cell_at W z133.1 z133.2.1) (fun _=>rfl) rV_up) (ve_add (ve_lenL (ve_varY rfl)) (ve_c rfl)))) rfl) (fun v122=>(vs_seq (vs_setW (ve_catL (ve_no (ve_catL (ve_varW rfl) (ve_varY rfl))) (ve_no (ve_call (va_v (ve_ixL (ve_varW rfl) (ve_c rfl)) (va_v (ve_call (va_v (ve_var rfl) (va_v (ve_c rfl) va_nil)) (fun z151=>v__law_cell_at W z151.1 z151.2.1) (fun _=>rfl) rV_up) (va_v (ve_var rfl) va_nil))) (fun z158=>v__law_spoilt W z158.1 z158.2.1 z158.2.2.1) (fun _=>rfl) rN_up)))) (fun v142=>(vs_seq (vs_frz 11 rfl rfl (vs_for (s0:=()) (B:=(fun (_:Unit)=>[.v (eF a_script),.v (D.int v1),.v (D.int v8),.y ((oL (eP D.int D.int)) v20),.y ((oWeb W) v29),.v (D.int v38),.y ((oL (eT D.int)) v52),.v (D.int v59),.v ((eT D.int) v66),.y ((oL D.int) v73),.v (D.int v79),.y ((oL (eT D.int)) v142),.y ((oL (eT D.int)) v107),.u,.u,.u])) (vi_varY rfl) vt_name (.same (.same (.same (.same (.same (.same (.same (.same (.same (.same (.same (.same (.same (.same (.same (.same .nil)))))))))))))))) (fun _ x163=>(vs_map (vs_for (s0:=()) (B:=(fun (_:Unit)=>[.v (eF a_script),.v (D.int v1),.v (D.int v8),.y ((oL (eP D.int D.int)) v20),.y ((oWeb W) v29),.v (D.int v38),.y ((oL (eT D.int)) v52),.v (D.int v59),.v ((eT D.int) v66),.y ((oL D.int) v73),.v (D.int v79),.y ((oL (eT D.int)) v142),.y ((oL (eT D.int)) v107),.v ((eT D.int) x163),.u,.u])) (vi_new (ve_new (vl_lenOk (vl_cons (ve_c rfl) (vl_cons (ve_c rfl) vl_nil))))) vt_name (.same (.same (.same (.same (.same (.same (.same (.same (.same (.same (.same (.same (.same (.same (.same (.same .nil)))))))))))))))) (fun _ x169=>(vs_seq (vs_set (ve_call (va_z (ve_varY rfl) (va_v (ve_var rfl) (va_v (ve_var rfl) (va_v (ve_var rfl) (va_v (ve_var rfl) va_nil))))) (fun z181=>v_is_answer W z181.1 z181.2.1 z181.2.2.1 z181.2.2.2.1 z181.2.2.2.2.1) (fun _=>rfl) rV_up)) (fun v170=>(vs_map (vs_if (B:=(fun (_:Unit)=>[.v (eF a_script),.v (D.int v1),.v (D.int v8),.y ((oL (eP D.int D.int)) v20),.y ((oWeb W) v29),.v (D.int v38),.y ((oL (eT D.int)) v52),.v (D.int v59),.v ((eT D.int) v66),.y ((oL D.int) v73),.v (D.int v79),.y ((oL (eT D.int)) v142),.y ((oL (eT D.int)) v107),.v ((eT D.int) x163),.v (D.str x169),.v (D.bl v170)])) (vb_or (vb_not (vb_B (ve_is (T:="bool") (ve_var rfl) (fun _ _=>rfl) (by decide +kernel)))) (vb_B (ve_ne eqN_bl nl_bl (ve_var rfl) (ve_call (va_z (ve_varY rfl) (va_v (ve_var rfl) (va_v (ve_var rfl) (va_v (ve_var rfl) (va_v (ve_var rfl) va_nil))))) (fun z197=>v__law_is W z197.1 z197.2.1 z197.2.2.1 z197.2.2.2.1 z197.2.2.2.2.1) (fun _=>rfl) rV_up)))) (vs_ret (ve_c rfl)) (vs_nx (.same (.same (.same (.same (.same (.same (.same (.same (.same (.same (.same (.same (.same (.same (.same (.same .nil)))))))))))))))))) (fun _=>(.same (.same (.same (.same (.same (.same (.same (.same (.same (.same (.same (.same (.same (.same (.drop (.drop .nil)))))))))))))))))))))) (fun _=>(.same (.same (.same (.same (.same (.same (.same (.same (.same (.same (.same (.same (.same (.drop (.same (.same .nil))))))))))))))))))))) (fun _=>(vs_ret (ve_c rfl))))))))))))))))))))))))))))))))
end M
namespace M
open PySem L2
end M
namespace M
open PySem L2
theorem nrm_up {x:Int×Int} (h:x.1 < x.2):nrm x=x:=by
 unfold nrm;rw [if_neg (by lia),if_pos (by omega)]
theorem nrm_swap (x:Int×Int):nrm (x.2,x.1)=nrm x:=by
 unfold nrm;dsimp only
 congr 1
 ·split <;> split <;> lia
 ·split <;> split <;> lia
theorem sortR_eq {l l':List (List Int)} (h:l.Perm l'):sortR l=sortR l':=sort_same ((sortR_perm l).trans (h.trans (sortR_perm l').symm)) (sortR_le l) (sortR_le l')
theorem tsOf_of {ps qs:List (Int×Int)} (h:(ps.map nrm).Perm (qs.map nrm)):tsOf ps=tsOf qs:=by
 unfold tsOf tiesOf;have:=h.map rowP;rw [List.map_map,List.map_map] at this;rw [show (fun x=>rowP (nrm x))=rowP∘nrm from rfl,sortR_eq this]
theorem AllFit.of {p:Int} {ps qs:List (Int×Int)} (h:(ps.map nrm).Perm (qs.map nrm)) (f:AllFit p qs):AllFit p ps:=by
 refine ⟨fun x hx=>?_,h.nodup_iff.mpr f.2⟩;obtain ⟨y,hy,e⟩:=List.mem_map.mp (h.mem_iff.mp (List.mem_map_of_mem hx));have:=f.1 y hy;unfold Fit at this ⊢;rw [←e];exact this
noncomputable def nr (ts:List (Int×Int)) (x:Nat):List Int:=sortZ (nearOf ts x)
theorem nr_mem {ts:List (Int×Int)} {x:Nat} {z:Int}:z∈nr ts x↔((x:Int),z)∈ts∨(z,(x:Int))∈ts:=by
 unfold nr;rw [(sortZ_perm _).mem_iff];unfold nearOf;rw [List.mem_flatMap]
 constructor
 ·rintro ⟨t,ht,h⟩
  rcases List.mem_append.mp h with h | h
  ·split at h
   ·rename_i e
    rw [List.mem_singleton.mp h,←e];exact .inl ht
   ·cases h
  ·split at h
   ·rename_i e
    rw [List.mem_singleton.mp h,←e];exact .inr ht
   ·cases h
 ·rintro (h | h)
  ·exact ⟨_,h,List.mem_append_left _ (by simp)⟩
  ·exact ⟨_,h,List.mem_append_right _ (by simp)⟩
end M
namespace M
open PySem L2 L4
theorem cell_p (ns:List Int) (k:Nat):p__law_cell_at ns (k:Int)=some (ns.getD k 0):=by
 unfold p__law_cell_at q__law_cell_at;simp only [Option.bind_some]
 by_cases c:k < ns.length
 ·rw [decide_eq_true (show (k:Int) < (ns.length:Int) by omega),if_pos rfl,atI_at (x:=ns[k]) (by omega) (by rw [Int.toNat_natCast];exact List.getElem?_eq_getElem c)]
  simp only [Option.bind_some,bindF_rt,outF_rt];rw [List.getD_eq_getElem?_getD,List.getElem?_eq_getElem c];rfl
 ·rw [decide_eq_false (show ¬(k:Int) < (ns.length:Int) by omega),if_neg Bool.false_ne_true]
  simp only [bindF_nx,outF_rt];rw [List.getD_eq_getElem?_getD,List.getElem?_eq_none (by omega)];rfl
noncomputable def prs (o:Nat):List (Int×Int):=(p__law_pairs o).getD []
theorem pairs_all:∀o:Nat,o < 8→p__law_pairs o=some (prs o)∧(∀x∈prs o,0≤x.1∧x.1 < x.2∧x.2 < o)∧(prs o).Nodup∧(prs o).length≤21∧(2≤o→prs o≠[])∧∀y:Nat,y < 7→((prs o).filter fun x=>decide ((y:Int)∈[x.1,x.2])).length≤6:=by decide +kernel
theorem first_all:∀o:Nat,o < 8→∀s:Nat,s < 6→∃fs,p__law_first_ties o s=some fs∧fs.length≤21:=by
 have h:∀o:Nat,o < 8→∀s:Nat,s < 6→(match p__law_first_ties o s with | some fs=>decide (fs.length≤21) | none=>false)=true:=by decide +kernel
 intro o ho s hs;have:=h o ho s hs
 cases q:p__law_first_ties o s with
 | none=>rw [q] at this;cases this
 | some fs=>rw [q] at this;exact ⟨fs,rfl,of_decide_eq_true this⟩
theorem putG_length {κ β:Type} [DecidableEq κ] (kvs:List (κ×β)) (k:κ) (v:β):(putG kvs k v).length≤kvs.length+1:=by
 unfold putG;split
 ·rw [List.length_map];omega
 ·rw [List.length_append];simp
theorem ties_p (ns:List Int) (hns:ns.length≤63) (f:Nat) (hf:f≤1000) {o:Nat} (h2:2≤o) (ho:o < 8):∃P,p__law_ties ns f o=some ((prs o).filter P):=by
 obtain ⟨e1,-,-,hl,hne,-⟩:=pairs_all o ho;obtain ⟨fs,e2,hfs⟩:=first_all o ho (ns.getD 0 0 / 7 % 6).toNat (by omega);rw [Int.toNat_of_nonneg (by omega)] at e2;unfold p__law_ties q__law_ties;simp only [Option.bind_some];rw [e1,show p__law_cell_at ns 0=some (ns.getD 0 0) from cell_p ns 0];simp only [Option.bind_some,bindF_nx];rw [e2];simp only [Option.bind_some]
 obtain ⟨s1,e3,l1⟩:=forF_go (ρ:=List (Int×Int)) (l:=fs) (s0:=([]:List ((Int×Int)×Bool))) (q:=fun s20 x21=>mapF (fun v22=>v22) ((putO s20 x21 true).bind fun l25=>some (.nx l25))) (fun pre s=>s.length≤pre.length) (Nat.le_refl _) (by
  intro pre x s hx hp hs;have:=hp.length_le;rw [List.length_append,List.length_singleton] at this;refine ⟨putG s x true,?_,?_⟩
  ·rw [show putO s x true=some (putG s x true) from if_pos (by omega)]
   rfl
  ·rw [List.length_append,List.length_singleton]
   exact Nat.le_trans (putG_length _ _ _) (by omega))
 rw [e3];simp only [bindF_nx];rw [rng2_ok (by omega) (by omega) (by split <;> omega) (by split <;> omega)];simp only [Option.bind_some]
 have hpl:0 < ((prs o).length:Int):=by have:=List.length_pos_iff.mpr (hne h2);omega
 obtain ⟨s2,e4,-⟩:=forF_go (ρ:=List (Int×Int)) (l:=rngZ (f:Int) ((if (63:Int) < (ns.length:Int) then (63:Int) else (ns.length:Int)) - (f:Int)).toNat) (s0:=s1) (q:=fun s34 x35=>bindF (((atI ns x35).bind fun x40=>modO x40 ((prs o).length:Int)).bind (fun x43=>atI (prs o) x43) |>.bind fun x44=>some (.nx x44)) fun v36=>mapF (fun v51=>v51) ((if (!(valG s34 v36).isSome)=true then some true else (valG s34 v36).bind fun x49=>some (!x49)).bind fun x52=>(putO s34 v36 x52).bind fun l54=>some (.nx l54))) (fun pre s=>s.length≤21+pre.length) (Nat.le_trans l1 hfs) (by
  intro pre x s hx hp hs;have hpl2:=hp.length_le;rw [List.length_append,List.length_singleton,rngZ_len] at hpl2;obtain ⟨hx1,hx2⟩:=mem_rngZ.mp hx;obtain ⟨y,ey,-⟩:=atI_nn (l:=ns) (i:=x) (by omega) (by split at hx2 <;> omega);rw [ey];simp only [Option.bind_some];rw [modO_ok hpl];simp only [Option.bind_some];obtain ⟨t,et,-⟩:=atI_mod (l:=prs o) y (hne h2);rw [et];simp only [Option.bind_some,bindF_nx]
  have hb:∃b,(if (!(valG s t).isSome)=true then some true else (valG s t).bind fun x49=>some (!x49))=some b:=by
   cases valG s t with
   | none=>exact ⟨true,rfl⟩
   | some b=>exact ⟨!b,rfl⟩
  obtain ⟨b,hb⟩:=hb;rw [hb];simp only [Option.bind_some];refine ⟨putG s t b,?_,?_⟩
  ·rw [show putO s t b=some (putG s t b) from if_pos (by split at hpl2 <;> omega)]
   rfl
  ·rw [List.length_append,List.length_singleton]
   exact Nat.le_trans (putG_length _ _ _) (by omega))
 refine ⟨fun x=>match valG s2 x with | some b=>b | none=>false,?_⟩;have e4':=e4;simp only [Option.bind_assoc,Option.bind_some] at e4' ⊢;rw [e4'];simp only [bindF_nx]
 rw [compG_keep (P:=fun x=>match valG s2 x with | some b=>b | none=>false) (by omega) (by
  intro x _
  cases valG s2 x with
  | none=>rfl
  | some b=>rfl)]
 rfl
end M
namespace M
open PySem L2 L4
structure Tied (o:Nat) (ts:List (Int×Int)):Prop where
 rg:∀x∈ts,0≤x.1∧x.1 < x.2∧x.2 < o
 nd:ts.Nodup
 ln:ts.length≤21
 dg:∀y:Nat,y < 7→(ts.filter fun x=>decide ((y:Int)∈[x.1,x.2])).length≤6
theorem tied_of {o:Nat} (ho:o < 8) (P:Int×Int→Bool):Tied o ((prs o).filter P):=by
 obtain ⟨-,h1,h2,h3,-,h4⟩:=pairs_all o ho;refine ⟨fun x hx=>h1 x (List.mem_filter.mp hx).1,h2.filter _,Nat.le_trans (List.length_filter_le _ _) h3,fun y hy=>?_⟩;refine Nat.le_trans ?_ (h4 y hy);exact (List.Sublist.filter _ List.filter_sublist).length_le
theorem handed_p (ns:List Int) {ts:List (Int×Int)} (hl:ts.length≤1000):∃hs,p__law_handed ns ts=some hs∧(hs=ts∨hs=ts.reverse.map fun x=>(x.2,x.1)):=by
 unfold p__law_handed q__law_handed;simp only [Option.bind_some];rw [show p__law_cell_at ns 0=some (ns.getD 0 0) from cell_p ns 0];simp only [Option.bind_some]
 by_cases c:ns.getD 0 0 / 42 % 2=0
 ·rw [decide_eq_true c,if_pos rfl]
  exact ⟨ts,rfl,.inl rfl⟩
 ·rw [decide_eq_false c,if_neg Bool.false_ne_true]
  simp only [bindF_nx];rw [compG_map (f:=fun x:Int×Int=>(x.2,x.1)) (by rw [List.length_reverse];omega) fun x _=>rfl];exact ⟨_,rfl,.inr rfl⟩
theorem Tied.nrm {o:Nat} {ts:List (Int×Int)} (h:Tied o ts):ts.map nrm=ts:=by
 conv=>rhs;rw [←List.map_id ts]
 exact List.map_congr_left fun x hx=>nrm_up (h.rg x hx).2.1
theorem Tied.fit {o:Nat} {ts:List (Int×Int)} (h:Tied o ts):AllFit o ts:=by
 refine ⟨fun x hx=>?_,by rw [h.nrm];exact h.nd⟩;have:=h.rg x hx;unfold Fit;rw [nrm_up this.2.1];omega
theorem Tied.mem {o:Nat} {ts:List (Int×Int)} (h:Tied o ts) {t:Int×Int}:t∈tsOf ts↔t∈ts:=by
 rw [(tsOf_perm ts).mem_iff,h.nrm]
theorem Tied.web {o:Nat} {ts hs:List (Int×Int)} (h:Tied o ts) (h1:1≤o) (ho:o≤60) (e:hs=ts∨hs=ts.reverse.map fun x=>(x.2,x.1)):webO (o:Int) hs=some (o,tsOf ts):=by
 have pm:(hs.map M.nrm).Perm (ts.map M.nrm):=by
  rcases e with rfl | rfl
  ·exact List.Perm.refl _
  ·rw [List.map_map,show (M.nrm∘fun x:Int×Int=>(x.2,x.1))=M.nrm from funext fun x=>nrm_swap x,List.map_reverse]
   exact List.reverse_perm _
 have hl:hs.length=ts.length:=by have:=pm.length_eq;rwa [List.length_map,List.length_map] at this
 unfold webO;rw [if_pos ⟨by omega,by omega,AllFit.of pm h.fit,by rw [hl];have:=h.ln;omega⟩,tsOf_of pm,Int.toNat_natCast]
theorem nears_at {o:Nat} {us:List (Int×Int)} {g:Int} (h0:0≤g) (h1:g < o):atI (nearsZ o us) g=some (nr us g.toNat):=by
 refine atI_at h0 ?_;unfold nearsZ;rw [List.getElem?_map,List.getElem?_range (by omega)];rfl
theorem near_p {o:Nat} {us:List (Int×Int)} {g:Int} (h0:0≤g) (h1:g < o):p_near (o,us) g=some (nr us g.toNat):=by
 unfold p_near q_near p_refuse_no_place q_refuse_no_place;simp only [Option.bind_some];rw [decide_eq_true h0,if_pos rfl,decide_eq_true h1];simp only [Option.bind_some];show outF (bindF (((outU (some (Fw.nx ()))).bind fun _=>some (.nx ()))) fun _=>_)=_;simp only [outU_nx,Option.bind_some,bindF_nx];rw [nears_at h0 h1];rfl
noncomputable def lnr (ts:List (Int×Int)) (y:Int):List Int:=(ts.filter fun x=>decide (y∈[x.1,x.2])).map fun x=>x.1+x.2 - y
theorem lnear_p {ts:List (Int×Int)} (hl:ts.length≤1000) (y:Int):p__law_near ts y=some (sortZ (lnr ts y)):=by
 unfold p__law_near q__law_near;simp only [Option.bind_some,fewO_ok (show ([]:List Int).length≤1000000 by decide),bindF_nx]
 obtain ⟨s,e,rfl⟩:=forF_go (ρ:=List Int) (l:=ts) (s0:=([]:List Int)) (q:=fun s3 x4=>mapF (fun s17=>s17) (if decide (y∈[x4.1,x4.2])=true then mapF (fun v7=>v7) ((appO s3 (x4.1+x4.2 - y)).bind fun l9=>some (.nx l9)) else some (.nx s3))) (fun pre s=>s=lnr pre y) rfl (by
  rintro pre x s hx hp rfl;have hpl:=hp.length_le;rw [List.length_append,List.length_singleton] at hpl
  have hle:(lnr pre y).length≤pre.length:=by unfold lnr;rw [List.length_map];exact List.length_filter_le _ _
  have es:lnr (pre++[x]) y=if decide (y∈[x.1,x.2])=true then lnr pre y++[x.1+x.2 - y] else lnr pre y:=by
   unfold lnr;rw [filter_snoc];split
   ·rw [List.map_append];rfl
   ·rfl
  rw [es]
  cases c:decide (y∈[x.1,x.2]) with
  | true=>
   rw [if_pos rfl,if_pos rfl,appO_ok (by omega)];exact ⟨_,rfl,rfl⟩
  | false=>exact ⟨_,rfl,rfl⟩)
 rw [e];rfl
theorem lnr_mem {ts:List (Int×Int)} {y z:Int}:z∈lnr ts y↔(y,z)∈ts∨(z,y)∈ts:=by
 unfold lnr;rw [List.mem_map]
 constructor
 ·rintro ⟨x,hx,rfl⟩
  obtain ⟨h1,h2⟩:=List.mem_filter.mp hx;have h2:=of_decide_eq_true h2
  rcases List.mem_cons.mp h2 with h | h
  ·left
   rw [show (y,x.1+x.2 - y)=x from Prod.ext h (by show x.1+x.2 - y=x.2;omega)];exact h1
  ·right
   have h:=List.mem_singleton.mp h;rw [show (x.1+x.2 - y,y)=x from Prod.ext (by show x.1+x.2 - y=x.1;omega) h];exact h1
 ·rintro (h | h)
  ·exact ⟨_,List.mem_filter.mpr ⟨h,decide_eq_true (by simp)⟩,by show y+z - y=z;omega⟩
  ·exact ⟨_,List.mem_filter.mpr ⟨h,decide_eq_true (by simp)⟩,by show z+y - y=z;omega⟩
theorem sortZ_mem {l:List Int} {x:Int}:x∈sortZ l↔x∈l:=(sortZ_perm l).mem_iff
theorem Tied.near {o:Nat} {ts:List (Int×Int)} (h:Tied o ts) {g:Int} (h0:0≤g) (z:Int):z∈nr (tsOf ts) g.toNat↔z∈sortZ (lnr ts g):=by
 rw [nr_mem,sortZ_mem,lnr_mem,h.mem,h.mem,Int.toNat_of_nonneg h0]
theorem sets_all:∀o:Nat,o < 8→∀g:Nat,g < o→1≤g→∃rs,p__law_sets o g=some rs∧rs≠[]∧∀r∈rs,r.length=g∧(∀x∈r,0≤x∧x < o)∧r.Pairwise (· < ·):=by
 have h:∀o:Nat,o < 8→∀g:Nat,g < o→1≤g→(match p__law_sets o g with | some rs=>decide (rs≠[])&&rs.all fun r=>decide (r.length=g∧(∀x∈r,0≤x∧x < (o:Int))∧r.Pairwise (· < ·)) | none=>false)=true:=by decide +kernel
 intro o ho g hg h1;have:=h o ho g hg h1
 cases q:p__law_sets o g with
 | none=>rw [q] at this;cases this
 | some rs=>
  rw [q] at this;have:=Bool.and_eq_true _ _▸this;exact ⟨rs,rfl,of_decide_eq_true this.1,fun r hr=>of_decide_eq_true (List.all_eq_true.mp this.2 r hr)⟩
end M
namespace M
open PySem L2 L4
noncomputable def stp (gs l:List Int):List (Int×Int):=(gs.zip l).filter fun y=>!decide (y.1=y.2)
theorem fm_iff (val:Nat→Int):∀n:Nat,(PyProof.Rows.firstMet val n).length=n↔∀i,i < n→∀j,j < i→val j≠val i
 | 0=>by simp [PyProof.Rows.firstMet_zero]
 | n+1=>by
  have ih:=fm_iff val n;have le:=PyProof.Rows.firstMet_length_le val n;have an:=PyProof.Rows.firstMet_any val n (val n);rw [PyProof.Rows.firstMet_succ];unfold PyProof.Rows.step_dedup
  by_cases c:(PyProof.Rows.firstMet val n).any (·==val n)=true
  ·rw [if_pos c]
   refine ⟨fun h=>by omega,fun h=>?_⟩;rw [an] at c;obtain ⟨y,hy,e⟩:=List.any_eq_true.mp c;obtain ⟨j,hj,rfl⟩:=List.mem_map.mp hy;exact absurd (by simpa using e) (h n (Nat.lt_succ_self n) j (List.mem_range.mp hj))
  ·rw [if_neg c,List.length_append,List.length_singleton]
   refine ⟨fun h i hi j hj=>?_,fun h=>?_⟩
   ·by_cases e:i=n
    ·subst e
     intro z;refine c ?_;rw [an];exact List.any_eq_true.mpr ⟨val j,List.mem_map.mpr ⟨j,List.mem_range.mpr hj,rfl⟩,by simp [z]⟩
    ·exact ih.mp (by omega) i (by omega) j hj
   ·have:=ih.mpr fun i hi j hj=>h i (by omega) j hj
    omega
theorem setLen_nd (l:List Int):setLen l=l.length↔l.Nodup:=by
 unfold setLen;rw [fm_iff];unfold List.Nodup;rw [List.pairwise_iff_getElem]
 constructor
 ·intro h i j hi hj hij
  have:=h j hj i hij;rw [List.getD_eq_getElem?_getD,List.getD_eq_getElem?_getD,List.getElem?_eq_getElem hi,List.getElem?_eq_getElem hj] at this;exact this
 ·intro h i hi j hj
  rw [List.getD_eq_getElem?_getD,List.getD_eq_getElem?_getD,List.getElem?_eq_getElem hi,List.getElem?_eq_getElem (by omega)];exact h j i (by omega) hi hj
noncomputable def isA (N:Int→List Int) (gs:List Int) (x:Int) (al:Bool) (l:List Int):Bool:=
 decide (l.length=gs.length)&&(decide l.Nodup&&(decide (x∈l)&&((stp gs l).all (fun y=>decide (y.2∈N y.1))&&(al||decide ((stp gs l).length=1)))))
theorem is_p {o:Nat} {us:List (Int×Int)} {gs l:List Int} {x:Int} {kd:Str} (hg:∀g∈gs,0≤g∧g < o) (hl:l.length≤4000):p_is_answer (o,us) gs x kd l=some (isA (fun g=>nr us g.toNat) gs x (decide (kd = "all")) l):=by
 unfold p_is_answer q_is_answer isA;simp only [Option.bind_some]
 by_cases c1:l.length=gs.length
 ·rw [decide_eq_true (show (l.length:Int)=gs.length by omega),decide_eq_true c1,show setO l=some (setLen l:Int) from if_pos hl]
  simp only [Option.bind_some,Bool.not_true,Bool.true_and];rw [if_neg Bool.false_ne_true]
  by_cases c2:l.Nodup
  ·rw [decide_eq_true (show (setLen l:Int)=l.length by rw [(setLen_nd l).mpr c2]),decide_eq_true c2]
   simp only [Bool.not_true,Bool.true_and];rw [if_neg Bool.false_ne_true]
   by_cases c3:x∈l
   ·rw [decide_eq_true c3]
    simp only [Option.bind_some,Bool.not_true,Bool.true_and];rw [if_neg Bool.false_ne_true];simp only [bindF_nx];rw [compG_ok (P:=fun y:Int×Int=>!decide (y.1=y.2)) (f:=fun y=>(y.1,y.2)) (by rw [List.length_zip];omega) (fun _ _=>rfl) fun _ _ _=>rfl];simp only [Option.bind_some,bindF_nx];rw [show List.map (fun y:Int×Int=>(y.1,y.2)) (List.filter (fun y=>!decide (y.1=y.2)) (gs.zip l))=stp gs l from List.map_id' _];have hsl:(stp gs l).length≤4000:=Nat.le_trans (List.length_filter_le _ _) (by rw [List.length_zip];omega)
    rw [compG_map (f:=fun y:Int×Int=>decide (y.2∈nr us y.1.toNat)) (by omega) fun y hy=>by
     have:=hg y.1 (List.of_mem_zip (List.mem_filter.mp hy).1).1;rw [near_p this.1 this.2]
     rfl]
    simp only [Option.bind_some];rw [List.all_map,show (id∘fun y:Int×Int=>decide (y.2∈nr us y.1.toNat))=fun y=>decide (y.2∈nr us y.1.toNat) from rfl]
    cases hq:(stp gs l).all fun y=>decide (y.2∈nr us y.1.toNat) with
    | false=>rfl
    | true=>
     simp only [Bool.not_true,Bool.true_and];rw [if_neg Bool.false_ne_true];simp only [bindF_nx]
     cases decide (kd = "all") with
     | true=>rfl
     | false=>
      rw [if_neg Bool.false_ne_true];simp only [Option.bind_some,outF_rt,Bool.false_or]
      congr 1
      exact decide_eq_decide.mpr (by omega)
   ·rw [decide_eq_false c3]
    rfl
  ·rw [decide_eq_false (show ¬(setLen l:Int)=l.length from fun z=>c2 ((setLen_nd l).mp (by omega))),decide_eq_false c2]
   rfl
 ·rw [decide_eq_false (show ¬(l.length:Int)=gs.length by omega),decide_eq_false c1]
  rfl
theorem zip_take_succ {gs l:List Int} {i:Nat} {a b:Int} (ha:gs[i]?=some a) (hb:l[i]?=some b):(gs.zip l).take (i+1)=(gs.zip l).take i++[(a,b)]:=by
 have hz:(gs.zip l)[i]?=some (a,b):=by rw [List.getElem?_zip_eq_some];exact ⟨ha,hb⟩
 rw [List.take_succ,hz];rfl
theorem take_nd {l:List Int} {i:Nat} {b:Int} (hb:l[i]?=some b):(l.take (i+1)).Nodup↔(l.take i).Nodup∧b∉l.take i:=by
 rw [List.take_succ,hb];show (l.take i++[b]).Nodup↔_;unfold List.Nodup;rw [List.pairwise_append];simp only [List.pairwise_cons,List.mem_singleton,forall_eq,List.not_mem_nil,false_implies,implies_true,List.Pairwise.nil,and_true,true_and]
 constructor
 ·rintro ⟨h1,h2⟩
  exact ⟨h1,fun z=>h2 b z rfl⟩
 ·rintro ⟨h1,h2⟩
  exact ⟨h1,fun y hy z=>h2 (z▸hy)⟩
theorem lis_p {ts:List (Int×Int)} {gs l:List Int} {x:Int} {kd:Str} (ht:ts.length≤1000) (hl:l.length≤4000):p__law_is ts gs x kd l=some (isA (fun g=>sortZ (lnr ts g)) gs x (decide (kd = "all")) l):=by
 unfold p__law_is q__law_is isA;simp only [Option.bind_some]
 by_cases c1:l.length=gs.length
 ·rw [decide_eq_true (show (l.length:Int)=gs.length by omega),decide_eq_true c1]
  simp only [Bool.not_true,Bool.true_and];rw [if_neg Bool.false_ne_true]
  by_cases c3:x∈l
  ·rw [decide_eq_true c3]
   simp only [Option.bind_some,Bool.not_true,Bool.true_and];rw [if_neg Bool.false_ne_true];simp only [bindF_nx];rw [rng1_ok (by omega) (by omega),Int.toNat_natCast];simp only [Option.bind_some];refine Ok.is (OkF.out ?_);refine OkF.seq (OkF.for (R:=fun r=>r=(decide l.Nodup&&(((stp gs l).all fun y=>decide (y.2∈sortZ (lnr ts y.1)))&&(decide (kd = "all")||decide ((stp gs l).length=1))))) (fun pre s=>(l.take pre.length).Nodup∧(∀y∈((gs.zip l).take pre.length).filter (fun y=>!decide (y.1=y.2)),y.2∈sortZ (lnr ts y.1))∧s=((((gs.zip l).take pre.length).filter fun y=>!decide (y.1=y.2)).length:Int)) ⟨by simp,by simp,by simp⟩ ?_) ?_
   ·rintro pre x16 s hx hp ⟨h1,h2,rfl⟩
    obtain ⟨rfl,hi⟩:=rngZ_pre hp;rw [Int.zero_add,List.length_append,List.length_singleton];have hb:=List.getElem?_eq_getElem hi;have ha:=List.getElem?_eq_getElem (show pre.length < gs.length by omega);generalize l[pre.length]=b at hb;generalize gs[pre.length]'(by omega)=a at ha;rw [atI_at (x:=b) (by omega) (by rw [Int.toNat_natCast];exact hb),atI_at (x:=a) (by omega) (by rw [Int.toNat_natCast];exact ha),cut_to l (by omega)];simp only [Option.bind_some];rw [lnear_p ht];simp only [Option.bind_some];have hz:=zip_take_succ ha hb;have hnd:=take_nd hb
    by_cases d1:b∈l.take pre.length
    ·rw [decide_eq_true d1]
     refine .rt ?_;rw [decide_eq_false fun z=>(hnd.mp (z.sublist (List.take_sublist _ _))).2 d1];rfl
    ·rw [decide_eq_false d1,if_neg Bool.false_ne_true]
     simp only [bindF_nx];rw [hz,filter_snoc]
     by_cases d2:b=a
     ·subst d2
      rw [decide_eq_true rfl];simp only [Bool.not_true];rw [if_neg Bool.false_ne_true];exact .nx ⟨hnd.mpr ⟨h1,d1⟩,h2,rfl⟩
     ·have d2':¬a=b:=fun z=>d2 z.symm
      rw [decide_eq_false d2];simp only [decide_eq_false d2',Bool.not_false,if_true]
      by_cases d3:b∈sortZ (lnr ts a)
      ·rw [decide_eq_true d3]
       refine .nx ⟨hnd.mpr ⟨h1,d1⟩,fun y hy=>?_,by show ((_:Nat):Int)+1=_;rw [List.length_append,List.length_singleton];omega⟩
       rcases List.mem_append.mp hy with hy | hy
       ·exact h2 y hy
       ·rw [List.mem_singleton.mp hy];exact d3
      ·rw [decide_eq_false d3]
       refine .rt ?_
       have:(stp gs l).all (fun y=>decide (y.2∈sortZ (lnr ts y.1)))=false:=by
        rw [←Bool.not_eq_true,List.all_eq_true];intro h;refine d3 (of_decide_eq_true (h (a,b) (List.mem_filter.mpr ⟨?_,by simp [d2']⟩)))
        have:(a,b)∈(gs.zip l).take (pre.length+1):=by rw [hz];simp
        exact List.mem_of_mem_take this
       rw [this];simp
   ·rintro s ⟨h1,h2,rfl⟩
    rw [rngZ_len] at h1 h2 ⊢;rw [List.take_of_length_le (Nat.le_refl _)] at h1;rw [List.take_of_length_le (by rw [List.length_zip];omega)] at h2 ⊢;rw [decide_eq_true h1,show (stp gs l).all (fun y=>decide (y.2∈sortZ (lnr ts y.1)))=true from List.all_eq_true.mpr fun y hy=>decide_eq_true (h2 y hy),Bool.true_and,Bool.true_and]
    cases decide (kd = "all") with
    | true=>exact .rt rfl
    | false=>
     refine .rt ?_;rw [Bool.false_or];exact decide_eq_decide.mpr (by unfold stp;omega)
  ·rw [decide_eq_false c3]
   simp;rfl
 ·rw [decide_eq_false (show ¬(l.length:Int)=gs.length by omega),decide_eq_false c1]
  rfl
theorem isA_same {N N':Int→List Int} {gs l:List Int} {x:Int} {al:Bool} (h:∀g∈gs,∀z,z∈N g↔z∈N' g):isA N gs x al l=isA N' gs x al l:=by
 unfold isA
 congr 4
 rw [Bool.eq_iff_iff,List.all_eq_true,List.all_eq_true]
 constructor
 ·intro q y hy
  exact decide_eq_true ((h y.1 (List.of_mem_zip (List.mem_filter.mp hy).1).1 _).mp (of_decide_eq_true (q y hy)))
 ·intro q y hy
  exact decide_eq_true ((h y.1 (List.of_mem_zip (List.mem_filter.mp hy).1).1 _).mpr (of_decide_eq_true (q y hy)))
end M
namespace M
open PySem L2 L4
theorem fdivO_ok {x y:Int} (h:0 < y) (h1:y≤1000000):fdivO x y=some (x / y):=if_pos ⟨h,by omega⟩
theorem any_p (c:Int) {n o:Nat} (hn:n≤60) (ho:o≤60):Ok (p__law_any c n o) fun r=>r.length=n:=by
 unfold p__law_any q__law_any;simp only [Option.bind_some,few0,bindF_nx];rw [rng1_ok (by omega) (by omega),Int.toNat_natCast];simp only [Option.bind_some];refine OkF.out (OkF.seq (OkF.for (fun pre s=>s.1.length=pre.length) rfl ?_) ?_)
 ·intro pre x s hx hp hs
  obtain ⟨-,hi⟩:=rngZ_pre hp;rw [modO_ok (by omega),fdivO_ok (by omega) (by omega)];simp only [Option.bind_some];rw [appO_ok (by omega)];refine .nx ?_;show (s.1++[_]).length=_;rw [List.length_append,List.length_append,hs];rfl
 ·intro s hs
  rw [rngZ_len] at hs;exact .rt hs
theorem answers_p {o:Nat} {ts:List (Int×Int)} (h:Tied o ts) {gs:List Int} {x:Int} (hg:∀g∈gs,0≤g∧g < 7) (h0:gs≠[]) (hl:gs.length≤6):Ok (p__law_answers ts gs x "all") fun R=>∀r∈R,r.length=gs.length:=by
 unfold p__law_answers q__law_answers;simp only [Option.bind_some];rw [decide_eq_false (show ¬(("all" : Str) = "one") by decide +kernel),if_neg Bool.false_ne_true];simp only [bindF_nx,few0,few1,Option.bind_some];refine OkF.out (OkF.seq (OkF.for (fun pre s=>(∀r∈s,r.length=pre.length)∧s.length≤7 ^ pre.length) ⟨fun r hr=>by rw [List.mem_singleton.mp hr],Nat.le_refl _⟩ ?_) ?_)
 ·rintro pre g s hgm hp ⟨h1,h2⟩
  have hpl:=hp.length_le;rw [List.length_append,List.length_singleton] at hpl;have hg':=hg g hgm;rw [lnear_p (by have:=h.ln;omega)];simp only [Option.bind_some,few1]
  have hd:(lnr ts g).length≤6:=by
   unfold lnr;rw [List.length_map];have:=h.dg g.toNat (by omega);rwa [Int.toNat_of_nonneg hg'.1] at this
  have hv:([g]++sortZ (lnr ts g)).length≤7:=by rw [List.length_append,(sortZ_perm _).length_eq,List.length_singleton];omega
  rw [extO_ok (l:=[g]) (k:=sortZ (lnr ts g)) (by rw [←List.length_append];omega)];generalize [g]++sortZ (lnr ts g)=v at hv;simp only [Option.bind_some,bindF_nx];have h7:(7:Nat) ^ pre.length≤16807:=Nat.le_trans (Nat.pow_le_pow_right (by decide) (show pre.length≤5 by omega)) (by decide);refine OkF.seq (OkF.for (fun p2 s2=>(∀r∈s2,r.length=pre.length+1)∧s2.length≤7 * p2.length) ⟨fun r hr=>(nomatch hr),Nat.le_refl _⟩ ?_) ?_
  ·rintro p2 r s2 hr hp2 ⟨g1,g2⟩
   have hp2l:=hp2.length_le;rw [List.length_append,List.length_singleton] at hp2l
   refine OkF.map (N:=fun s':List (List Int)=>(∀r∈s',r.length=pre.length+1)∧s'.length≤7 * (p2++[r]).length) (OkF.of (Ok.comp (Q:=fun y=>y.length=pre.length+1) (by omega) (fun y _=>⟨_,rfl⟩) fun y _=>?_) ?_) fun _ h=>h
   ·rw [extO_ok (by rw [h1 r hr,List.length_singleton];omega)]
    exact .pure (by rw [List.length_append,h1 r hr];rfl)
   ·rintro w ⟨w1,w2⟩
    rw [extO_ok (by omega)];refine .nx ⟨fun y hy=>?_,?_⟩
    ·rcases List.mem_append.mp hy with hy | hy
     ·exact g1 y hy
     ·exact w1 y hy
    ·rw [List.length_append,List.length_append,List.length_singleton]
     omega
  ·rintro s2 ⟨g1,g2⟩
   refine .nx ⟨fun r hr=>by rw [g1 r hr,List.length_append];rfl,?_⟩;show s2.length≤_;rw [List.length_append,List.length_singleton,Nat.pow_succ];omega
 ·rintro s ⟨h1,h2⟩
  have h7:(7:Nat) ^ gs.length≤117649:=Nat.le_trans (Nat.pow_le_pow_right (by decide) hl) (by decide);rw [compG_keep (P:=fun r=>decide (x∈r)) (by omega) fun _ _=>rfl];simp only [Option.bind_some]
  have hF:∀r∈s.filter (fun r=>decide (x∈r)),r.length=gs.length:=fun r hr=>h1 r (List.mem_filter.mp hr).1
  rw [show sortRO (s.filter fun r=>decide (x∈r))=some (sortR (s.filter fun r=>decide (x∈r))) from if_pos (List.all_eq_true.mpr fun r hr=>by
   have:=hF r hr
   cases r with
   | nil=>exact absurd (List.eq_nil_of_length_eq_zero this.symm) h0
   | cons a r=>rfl)]
  exact .rt fun r hr=>hF r ((sortR_perm _).mem_iff.mp hr)
theorem spoilt_p {row:List Int} (h0:row≠[]) (hl:row.length≤60) (c:Int) {o:Nat}:Ok (p__law_spoilt row c o) fun R=>(∀r∈R,r.length≤200)∧R.length=7:=by
 have hp:0 < (row.length:Int):=by have:=List.length_pos_iff.mpr h0;omega
 unfold p__law_spoilt q__law_spoilt;simp only [Option.bind_some];rw [modO_ok hp,modO_ok (show (0:Int) < o+2 by omega),modO_ok hp];simp only [Option.bind_some,bindF_nx];obtain ⟨a,ea,-⟩:=atI_mod (l:=row) c h0;obtain ⟨b,eb,-⟩:=atI_mod (l:=row) (c / 7) h0;rw [ea,eb,show powO 10 20=some (10 ^ 20) by decide +kernel]
 have one:∀y:Int,fewO [y]=some [y]:=fun y=>fewO_ok (by simp)
 have cl:=fun lo hi=>cut_len' row lo hi
 have ex:∀l k:List Int,l.length≤200→k.length≤200→extO l k=some (l++k):=fun l k h1 h2=>extO_ok (by omega)
 have c2:∀lo hi,(cutG row lo hi).length≤60:=fun lo hi=>Nat.le_trans (cl lo hi) hl
 simp only [Option.bind_some,one]
 have e1:∀(lo hi:Option Int) (y:Int),extO (cutG row lo hi) [y]=some (cutG row lo hi++[y]):=fun lo hi y=>ex _ _ (by have:=c2 lo hi;omega) (by simp)
 have e2:∀(lo hi lo2 hi2:Option Int) (y:Int),extO (cutG row lo hi++[y]) (cutG row lo2 hi2)=some (cutG row lo hi++[y]++cutG row lo2 hi2):=fun lo hi lo2 hi2 y=>ex _ _ (by have:=c2 lo hi;rw [List.length_append,List.length_singleton];omega) (by have:=c2 lo2 hi2;omega)
 have e3:∀(lo hi lo2 hi2:Option Int),extO (cutG row lo hi) (cutG row lo2 hi2)=some (cutG row lo hi++cutG row lo2 hi2):=fun lo hi lo2 hi2=>ex _ _ (by have:=c2 lo hi;omega) (by have:=c2 lo2 hi2;omega)
 have e4:∀y:Int,extO row [y]=some (row++[y]):=fun y=>ex _ _ (by omega) (by simp)
 simp only [e1,e2,e3,e4,Option.bind_some]
 have l1:∀(lo hi lo2 hi2:Option Int) (y:Int),(cutG row lo hi++[y]++cutG row lo2 hi2).length≤200:=fun lo hi lo2 hi2 y=>by have:=c2 lo hi;have:=c2 lo2 hi2;rw [List.length_append,List.length_append,List.length_singleton];omega
 have l3:∀(lo hi lo2 hi2:Option Int),(cutG row lo hi++cutG row lo2 hi2).length≤200:=fun lo hi lo2 hi2=>by have:=c2 lo hi;have:=c2 lo2 hi2;rw [List.length_append];omega
 have l4:∀y:Int,(row++[y]).length≤200:=fun y=>by rw [List.length_append,List.length_singleton];omega
 have l5:∀lo hi,(cutG row lo hi).length≤200:=fun lo hi=>by have:=c2 lo hi;omega
 rw [fewO_ok (by simp)];simp only [Option.bind_some,bindF_nx];simp only [appO,List.length_append,List.length_cons,List.length_nil,Nat.zero_add,Nat.reduceAdd,Nat.reduceLT,if_true,Option.bind_some,bindF_nx,outF_rt];refine .pure ⟨?_,rfl⟩;intro r hr;simp only [List.mem_append,List.mem_cons,List.not_mem_nil,or_false] at hr
 rcases hr with (((rfl | rfl | rfl | rfl) | rfl) | rfl) | rfl
 ·omega
 ·exact l1 _ _ _ _ _
 ·exact l4 _
 ·exact l5 _ _
 ·exact l1 _ _ _ _ _
 ·exact l3 _ _ _ _
 ·exact l1 _ _ _ _ _
end M
namespace M
open PySem L2 L4
theorem free_ne {o:Nat} {gs:List Int} (hg:gs.length < o):(rngZ 0 o).filter (fun x=>!decide (x∈gs))≠[]:=by
 intro h
 have:∀x∈rngZ 0 o,x∈gs:=fun x hx=>by
  by_cases c:x∈gs
  ·exact c
  ·have:x∈(rngZ 0 o).filter (fun x=>!decide (x∈gs)):=List.mem_filter.mpr ⟨hx,by simp [c]⟩
   rw [h] at this;cases this
 have nd:(rngZ 0 o).Nodup:=(rngZ_up 0 o).imp fun h=>by omega
 have:=nd_len nd this;rw [rngZ_len] at this;omega
theorem law_p (ns:List Int) (hns:ns.length≤63):p_law ns=some true:=by
 refine Ok.is (v:=true) ?_;unfold p_law q_law;simp only [Option.bind_some];rw [show p__law_cell_at ns 0=some (ns.getD 0 0) from cell_p ns 0,show p__law_cell_at ns 1=some (ns.getD 1 0) from cell_p ns 1,show p__law_cell_at ns 2=some (ns.getD 2 0) from cell_p ns 2,show p__law_cell_at ns 3=some (ns.getD 3 0) from cell_p ns 3,show p__law_cell_at ns 4=some (ns.getD 4 0) from cell_p ns 4];simp only [Option.bind_some,bindF_nx]
 have ho:∃o:Nat,2≤o∧o < 8∧(2+ns.getD 0 0 % 5+if decide (ns.getD 0 0 / 84 % 8=1)=true then 1 else 0)=(o:Int):=
  ⟨(2+ns.getD 0 0 % 5+if decide (ns.getD 0 0 / 84 % 8=1)=true then 1 else 0).toNat,by split <;> omega,by split <;> omega,by split <;> omega⟩
 obtain ⟨o,o2,o8,eo⟩:=ho;rw [eo];obtain ⟨P,e1⟩:=ties_p ns hns 5 (by decide) o2 o8;rw [show p__law_ties ns 5 o=_ from e1];have ht:=tied_of o8 P;generalize (prs o).filter P=ts at ht;simp only [Option.bind_some,bindF_nx];obtain ⟨hs,e2,h2⟩:=handed_p ns (ts:=ts) (by have:=ht.ln;omega);rw [e2];simp only [Option.bind_some];rw [ht.web (by omega) (by omega) h2,modO_ok (show (0:Int) < o - 1 by omega)];simp only [Option.bind_some,bindF_nx]
 have hg:∃g:Nat,1≤g∧g < o∧1+ns.getD 1 0 % ((o:Int) - 1)=(g:Int):=by
  have h1:=Int.emod_nonneg (ns.getD 1 0) (show (o:Int) - 1≠0 by omega);have h2:=Int.emod_lt_of_pos (ns.getD 1 0) (show (0:Int) < (o:Int) - 1 by omega);exact ⟨(1+ns.getD 1 0 % ((o:Int) - 1)).toNat,by omega,by omega,by omega⟩
 obtain ⟨g,g1,go,eg⟩:=hg;rw [eg];obtain ⟨rs,e3,hr0,hr⟩:=sets_all o o8 g go g1;rw [e3];simp only [Option.bind_some,bindF_nx];rw [modO_ok (by have:=List.length_pos_iff.mpr hr0;omega)];simp only [Option.bind_some];obtain ⟨gs,e4,hgs⟩:=atI_mod (l:=rs) (ns.getD 2 0) hr0;rw [e4];obtain ⟨q1,q2,q3⟩:=hr gs hgs;simp only [Option.bind_some,bindF_nx];rw [rng1_ok (by omega) (by omega),Int.toNat_natCast];simp only [Option.bind_some];rw [compG_keep (P:=fun x=>!decide (x∈gs)) (by rw [rngZ_len];omega) fun _ _=>rfl];simp only [Option.bind_some,bindF_nx];have hfn:=free_ne (o:=o) (gs:=gs) (by omega)
 have hfm:∀x∈(rngZ 0 o).filter (fun x=>!decide (x∈gs)),True:=fun _ _=>trivial
 generalize (rngZ 0 o).filter (fun x=>!decide (x∈gs))=fr at hfn;rw [modO_ok (by have:=List.length_pos_iff.mpr hfn;omega)];simp only [Option.bind_some];obtain ⟨x,e5,-⟩:=atI_mod (l:=fr) (ns.getD 2 0 / 35) hfn;rw [e5];simp only [Option.bind_some,bindF_nx];obtain ⟨ra,e6,hra⟩:=any_p (ns.getD 4 0) (n:=g) (o:=o) (by omega) (by omega);rw [e6];simp only [Option.bind_some,few0,few3,bindF_nx]
 have hgs0:gs≠[]:=fun z=>by rw [z] at q1;simp at q1;omega
 obtain ⟨G,e7,hG⟩:=answers_p ht (gs:=gs) (x:=x) (fun y hy=>⟨(q2 y hy).1,by have:=(q2 y hy).2;omega⟩) hgs0 (by omega);rw [e7];simp only [Option.bind_some,bindF_nx,few1]
 have hG':∀r∈cutG G none (some 40),r.length=gs.length:=fun r hr=>hG r (cut_mem hr)
 have hGl:(cutG G none (some 40)).length≤40:=by
  unfold cutG;rw [List.length_take]
  have:HT.sIx G.length G.length (some 40)≤40:=by rw [show (some 40:Option Int)=some ((40:Nat):Int) from rfl,HT.sIx_nat];omega
  omega
 generalize cutG G none (some 40)=K at hG' hGl;rw [extO_ok (by rw [List.length_singleton];omega),modO_ok (by omega)];simp only [Option.bind_some];obtain ⟨t,e8,ht8⟩:=atI_mod (l:=K++[gs]) (ns.getD 3 0) (by simp);rw [List.length_append,List.length_singleton] at e8;rw [show ((K.length+1:Nat):Int)=(K.length:Int)+1 by omega] at e8;rw [e8]
 have htl:t.length=gs.length:=by
  rcases List.mem_append.mp ht8 with h | h
  ·exact hG' t h
  ·rw [List.mem_singleton.mp h]
 simp only [Option.bind_some];rw [appO_ok (by simp)];simp only [Option.bind_some,bindF_nx];rw [show atI ([gs,ra,[]]++[t]) 3=some t from rfl];simp only [Option.bind_some];obtain ⟨R,e9,hR,hRl⟩:=spoilt_p (row:=t) (fun z=>hgs0 (List.eq_nil_of_length_eq_zero (by rw [←htl,z];rfl))) (by omega) (ns.getD 4 0) (o:=o);rw [e9];rw [extO_ok (by simp;omega)];simp only [Option.bind_some];rw [extO_ok (by simp;omega)];simp only [Option.bind_some,bindF_nx]
 have hall:∀r∈[gs,ra,[]]++[t]++K++R,r.length≤200:=by
  intro r hr;simp only [List.mem_append,List.mem_cons,List.not_mem_nil,or_false] at hr
  rcases hr with (((rfl | rfl | rfl) | rfl) | h) | h
  ·omega
  ·omega
  ·simp
  ·omega
  ·have:=hG' r h;omega
  ·exact hR r h
 generalize [gs,ra,[]]++[t]++K++R=rows at hall;refine OkF.out (OkF.seq (OkF.for (fun _ _=>True) trivial ?_) fun _ _=>.rt rfl);intro pre told _ htold _ _
 refine OkF.map (N:=fun _=>True) ?_ fun _ _=>trivial
 rw [few2];simp only [Option.bind_some];refine OkF.for (fun _ _=>True) trivial ?_;intro _ kd _ _ _ _;rw [is_p (fun y hy=>⟨(q2 y hy).1,(q2 y hy).2⟩) (by have:=hall told htold;omega),lis_p (by have:=ht.ln;omega) (by have:=hall told htold;omega)];simp only [Option.bind_some,bindF_nx];rw [isA_same (N':=fun g=>sortZ (lnr ts g)) fun y hy z=>ht.near (q2 y hy).1 z,decide_eq_true rfl];exact .nx trivial
theorem good:∀(W:Wd),W.excs.Nodup→∀ns:List Int,ns.length≤63→∃S',f_law W [.fro (ns.map D.int)] []=.ok (.bl true) S':=fun W _ ns h=>VF.law (by rw [←law_p ns h];exact v_law W ns)
end M
noncomputable def PySem.W.Fast.tw1907007896078729866:Nat:=0
noncomputable def PySem.W.Fast.tw2380732631397714630:Nat:=0
noncomputable def PySem.W.Fast.tw12047545974172457935:Nat:=0
noncomputable def PySem.W.Fast.tw11203139098871296661:Nat:=0
noncomputable def PySem.W.Fast.tw17580782005682490172:Nat:=0
noncomputable def PySem.W.Fast.tw11322626054641593024:Nat:=0
noncomputable def PySem.W.Fast.tw7043876928068086515:Nat:=0
noncomputable def PySem.W.Fast.tw17189339027199886551:Nat:=0
noncomputable def PySem.W.Fast.tw18073775474858653620:Nat:=0
noncomputable def PySem.W.Fast.tw4316997213682750332:Nat:=0
noncomputable def PySem.W.Fast.tw2731646477770061826:Nat:=0
noncomputable def PySem.W.Fast.tw16549618593737510313:Nat:=0
noncomputable def PySem.W.Fast.tw9474941570957798631:Nat:=0
noncomputable def PySem.W.Fast.tw438838551867080337:Nat:=0
noncomputable def PySem.W.Fast.tw8814059987948530756:Nat:=0
noncomputable def PySem.W.Fast.tw4319923736875984761:Nat:=0
noncomputable def PySem.W.Fast.tw2555202695064748050:Nat:=0
noncomputable def PySem.W.Fast.tw7728355873599600870:Nat:=0
noncomputable def PySem.W.Fast.tw13880905284481141408:Nat:=0
noncomputable def PySem.W.Fast.tw12469468905876690232:Nat:=0
noncomputable def PySem.W.Fast.tw17330322911480723156:Nat:=0
noncomputable def PySem.W.Fast.tw11279848873024919223:Nat:=0
noncomputable def PySem.W.Fast.tw13235995830345549845:Nat:=0
noncomputable def PySem.W.Fast.tw5603450062282830143:Nat:=0
noncomputable def PySem.W.Fast.tw4770175529445268977:Nat:=0
noncomputable def PySem.W.Fast.tw194231072519039847:Nat:=0
noncomputable def PySem.W.Fast.tw16160562057225963493:Nat:=0
noncomputable def PySem.W.Fast.tw15368713207286675416:Nat:=0
noncomputable def PySem.W.Fast.tw12743182479582448453:Nat:=0
noncomputable def PySem.W.Fast.tw66469424003319789:Nat:=0
namespace M
open PySem PySem.Spec PyProof.Rows L2 PySem.W
theorem all_mk {l:OpenLaw} {w:World} {K:Frag} {h:Heap} {mg:Str→Option Value} {fa:Addr} (X:K.In h) (G:h.Ns mainGlobals mg) (hfa:mg "law" = some (.ref fa))
  {f1 f2 f3 f4 f5 f6 f7 f8 f9 f10 f11 f12 f13 f14 f15 f16 f17 f18 cWeb:Addr} {tk_MOST_PLACES:Tok}
  {od1 an1 od2 an2 od3 an3 od4 an4 od5 an5 od6 an6 od7 an7 od8 an8 od9 an9 od10 an10 od11 an11 od12 an12 od13 an13 od14 an14 od15 an15 od16 an16 od17 an17 od18 an18:Option Addr} {sl1 sl2 sl3 sl4 sl5 sl6 sl7 sl8 sl9 sl10 sl11 sl12 sl13 sl14 sl15 sl16 sl17 sl18:Array (Option Value)} {oc1 kV1 dc1 pm1 cd1 ct1 oc2 kV2 dc2 pm2 cd2 ct2 oc3 kV3 dc3 pm3 cd3 ct3 oc4 kV4 dc4 pm4 cd4 ct4 oc5 kV5 dc5 pm5 cd5 ct5 oc6 kV6 dc6 pm6 cd6 ct6 oc7 kV7 dc7 pm7 cd7 ct7 oc8 kV8 dc8 pm8 cd8 ct8 oc9 kV9 dc9 pm9 cd9 ct9 oc10 kV10 dc10 pm10 cd10 ct10 oc11 kV11 dc11 pm11 cd11 ct11 oc12 kV12 dc12 pm12 cd12 ct12 oc13 kV13 dc13 pm13 cd13 ct13 oc14 kV14 dc14 pm14 cd14 ct14 oc15 kV15 dc15 pm15 cd15 ct15 oc16 kV16 dc16 pm16 cd16 ct16 oc17 kV17 dc17 pm17 cd17 ct17 oc18 kV18 dc18 pm18 cd18 ct18:Value}
  (a_Web:nsIn K mainGlobals "Web" = some (some (.ref cWeb)))
  (a1:nsIn K mainGlobals "checked_ties" = some (some (.ref f1)))
  (l1:K.lookup f1=some ⟨oc1,od1,.func (fnOf "checked_ties" "checked_ties" (defArgs s_checked_ties) (defBody s_checked_ties) (defScope s_checked_ties) .none kV1 dc1 pm1 an1 cd1 ct1),sl1⟩)
  (k1c:codeIn K cd1 "checked_ties" = true)
  (k1:keepIn K (.ref f1)=true)
  (a2:nsIn K mainGlobals "near_sets_of" = some (some (.ref f2)))
  (l2:K.lookup f2=some ⟨oc2,od2,.func (fnOf "near_sets_of" "near_sets_of" (defArgs s_near_sets_of) (defBody s_near_sets_of) (defScope s_near_sets_of) .none kV2 dc2 pm2 an2 cd2 ct2),sl2⟩)
  (k2c:codeIn K cd2 "near_sets_of" = true)
  (k2:keepIn K (.ref f2)=true)
  (a3:findIn K (.ref cWeb) "__init__" = some (some (.ref f3)))
  (i3:isFn K (.ref f3)=true)
  (l3:K.lookup f3=some ⟨oc3,od3,.func (fnOf "__init__" "Web.__init__" (defArgs s_Web_init) (defBody s_Web_init) (defScope s_Web_init) .none kV3 dc3 pm3 an3 cd3 ct3),sl3⟩)
  (k3c:codeIn K cd3 "Web.__init__" = true)
  (k3:keepIn K (.ref f3)=true)
  (a4:nsIn K mainGlobals "refuse_no_place" = some (some (.ref f4)))
  (l4:K.lookup f4=some ⟨oc4,od4,.func (fnOf "refuse_no_place" "refuse_no_place" (defArgs s_refuse_no_place) (defBody s_refuse_no_place) (defScope s_refuse_no_place) .none kV4 dc4 pm4 an4 cd4 ct4),sl4⟩)
  (k4c:codeIn K cd4 "refuse_no_place" = true)
  (k4:keepIn K (.ref f4)=true)
  (a5:nsIn K mainGlobals "near" = some (some (.ref f5)))
  (l5:K.lookup f5=some ⟨oc5,od5,.func (fnOf "near" "near" (defArgs s_near) (defBody s_near) (defScope s_near) .none kV5 dc5 pm5 an5 cd5 ct5),sl5⟩)
  (k5c:codeIn K cd5 "near" = true)
  (k5:keepIn K (.ref f5)=true)
  (a6:nsIn K mainGlobals "is_answer" = some (some (.ref f6)))
  (l6:K.lookup f6=some ⟨oc6,od6,.func (fnOf "is_answer" "is_answer" (defArgs s_is_answer) (defBody s_is_answer) (defScope s_is_answer) .none kV6 dc6 pm6 an6 cd6 ct6),sl6⟩)
  (k6c:codeIn K cd6 "is_answer" = true)
  (k6:keepIn K (.ref f6)=true)
  (a7:nsIn K mainGlobals "_law_cell_at" = some (some (.ref f7)))
  (l7:K.lookup f7=some ⟨oc7,od7,.func (fnOf "_law_cell_at" "_law_cell_at" (defArgs s__law_cell_at) (defBody s__law_cell_at) (defScope s__law_cell_at) .none kV7 dc7 pm7 an7 cd7 ct7),sl7⟩)
  (k7c:codeIn K cd7 "_law_cell_at" = true)
  (k7:keepIn K (.ref f7)=true)
  (a8:nsIn K mainGlobals "_law_pairs" = some (some (.ref f8)))
  (l8:K.lookup f8=some ⟨oc8,od8,.func (fnOf "_law_pairs" "_law_pairs" (defArgs s__law_pairs) (defBody s__law_pairs) (defScope s__law_pairs) .none kV8 dc8 pm8 an8 cd8 ct8),sl8⟩)
  (k8c:codeIn K cd8 "_law_pairs" = true)
  (k8:keepIn K (.ref f8)=true)
  (a9:nsIn K mainGlobals "_law_first_ties" = some (some (.ref f9)))
  (l9:K.lookup f9=some ⟨oc9,od9,.func (fnOf "_law_first_ties" "_law_first_ties" (defArgs s__law_first_ties) (defBody s__law_first_ties) (defScope s__law_first_ties) .none kV9 dc9 pm9 an9 cd9 ct9),sl9⟩)
  (k9c:codeIn K cd9 "_law_first_ties" = true)
  (k9:keepIn K (.ref f9)=true)
  (a10:nsIn K mainGlobals "_law_ties" = some (some (.ref f10)))
  (l10:K.lookup f10=some ⟨oc10,od10,.func (fnOf "_law_ties" "_law_ties" (defArgs s__law_ties) (defBody s__law_ties) (defScope s__law_ties) .none kV10 dc10 pm10 an10 cd10 ct10),sl10⟩)
  (k10c:codeIn K cd10 "_law_ties" = true)
  (k10:keepIn K (.ref f10)=true)
  (a11:nsIn K mainGlobals "_law_handed" = some (some (.ref f11)))
  (l11:K.lookup f11=some ⟨oc11,od11,.func (fnOf "_law_handed" "_law_handed" (defArgs s__law_handed) (defBody s__law_handed) (defScope s__law_handed) .none kV11 dc11 pm11 an11 cd11 ct11),sl11⟩)
  (k11c:codeIn K cd11 "_law_handed" = true)
  (k11:keepIn K (.ref f11)=true)
  (a12:nsIn K mainGlobals "_law_near" = some (some (.ref f12)))
  (l12:K.lookup f12=some ⟨oc12,od12,.func (fnOf "_law_near" "_law_near" (defArgs s__law_near) (defBody s__law_near) (defScope s__law_near) .none kV12 dc12 pm12 an12 cd12 ct12),sl12⟩)
  (k12c:codeIn K cd12 "_law_near" = true)
  (k12:keepIn K (.ref f12)=true)
  (a13:nsIn K mainGlobals "_law_sets" = some (some (.ref f13)))
  (l13:K.lookup f13=some ⟨oc13,od13,.func (fnOf "_law_sets" "_law_sets" (defArgs s__law_sets) (defBody s__law_sets) (defScope s__law_sets) .none kV13 dc13 pm13 an13 cd13 ct13),sl13⟩)
  (k13c:codeIn K cd13 "_law_sets" = true)
  (k13:keepIn K (.ref f13)=true)
  (a14:nsIn K mainGlobals "_law_answers" = some (some (.ref f14)))
  (l14:K.lookup f14=some ⟨oc14,od14,.func (fnOf "_law_answers" "_law_answers" (defArgs s__law_answers) (defBody s__law_answers) (defScope s__law_answers) .none kV14 dc14 pm14 an14 cd14 ct14),sl14⟩)
  (k14c:codeIn K cd14 "_law_answers" = true)
  (k14:keepIn K (.ref f14)=true)
  (a15:nsIn K mainGlobals "_law_is" = some (some (.ref f15)))
  (l15:K.lookup f15=some ⟨oc15,od15,.func (fnOf "_law_is" "_law_is" (defArgs s__law_is) (defBody s__law_is) (defScope s__law_is) .none kV15 dc15 pm15 an15 cd15 ct15),sl15⟩)
  (k15c:codeIn K cd15 "_law_is" = true)
  (k15:keepIn K (.ref f15)=true)
  (a16:nsIn K mainGlobals "_law_spoilt" = some (some (.ref f16)))
  (l16:K.lookup f16=some ⟨oc16,od16,.func (fnOf "_law_spoilt" "_law_spoilt" (defArgs s__law_spoilt) (defBody s__law_spoilt) (defScope s__law_spoilt) .none kV16 dc16 pm16 an16 cd16 ct16),sl16⟩)
  (k16c:codeIn K cd16 "_law_spoilt" = true)
  (k16:keepIn K (.ref f16)=true)
  (a17:nsIn K mainGlobals "_law_any" = some (some (.ref f17)))
  (l17:K.lookup f17=some ⟨oc17,od17,.func (fnOf "_law_any" "_law_any" (defArgs s__law_any) (defBody s__law_any) (defScope s__law_any) .none kV17 dc17 pm17 an17 cd17 ct17),sl17⟩)
  (k17c:codeIn K cd17 "_law_any" = true)
  (k17:keepIn K (.ref f17)=true)
  (a18:nsIn K mainGlobals "law" = some (some (.ref f18)))
  (l18:K.lookup f18=some ⟨oc18,od18,.func (fnOf "law" "law" (defArgs s_law) (defBody s_law) (defScope s_law) .none kV18 dc18 pm18 an18 cd18 ct18),sl18⟩)
  (k18c:codeIn K cd18 "law" = true)
  (k18:keepIn K (.ref f18)=true)
  (pg_Web:plainGet K cWeb Str.empty=true)
  (hd_Web:hasDictIn K cWeb=true)
  (po_Web:plainOver K cWeb=true)
  (sa_Web:findIn K (.ref cWeb) "__setattr__" = some (some (.builtin "object.__setattr__")))
  (mk_Web:makesIn K cWeb=true)
  (kc_Web:keepIn K (.ref cWeb)=true)
  (n_Web_places:findIn K (.ref cWeb) "places" = some none)
  (n_Web_ties:findIn K (.ref cWeb) "ties" = some none)
  (n_Web_near_sets:findIn K (.ref cWeb) "near_sets" = some none)
  (z_all:nsIn K mainGlobals "all" = some none)
  (z_bool:nsIn K mainGlobals "bool" = some none)
  (z_int:nsIn K mainGlobals "int" = some none)
  (z_isinstance:nsIn K mainGlobals "isinstance" = some none)
  (z_len:nsIn K mainGlobals "len" = some none)
  (z_list:nsIn K mainGlobals "list" = some none)
  (z_max:nsIn K mainGlobals "max" = some none)
  (z_min:nsIn K mainGlobals "min" = some none)
  (z_range:nsIn K mainGlobals "range" = some none)
  (z_reversed:nsIn K mainGlobals "reversed" = some none)
  (z_set:nsIn K mainGlobals "set" = some none)
  (z_sorted:nsIn K mainGlobals "sorted" = some none)
  (z_tuple:nsIn K mainGlobals "tuple" = some none)
  (z_zip:nsIn K mainGlobals "zip" = some none)
  (g_MOST_PLACES:nsIn K mainGlobals "MOST_PLACES" = some (some (.int 60 tk_MOST_PLACES)))
  : ∃(W:Wd) (T:Txt K mg W),fa=T.d_law.f∧W.excs.Nodup∧∀(s:Shared) (v:Value),BindsTo s T.d_law.fd ⟨[v],[]⟩ [("script",v)]:=by
 have F1:=fun_mk (st:=s_checked_ties) l1 k1c k1
 have b1:=F1.binds (ps:=["places", "ties"]) fun _ _ _ _ _ _ us hl=>by obtain ⟨a,b,rfl⟩:=len2 hl;rfl
 have F2:=fun_mk (st:=s_near_sets_of) l2 k2c k2
 have b2:=F2.binds (ps:=["places", "ties"]) fun _ _ _ _ _ _ us hl=>by obtain ⟨a,b,rfl⟩:=len2 hl;rfl
 have F3:=fun_mk (st:=s_Web_init) l3 k3c k3
 have b3:=F3.binds (ps:=["self", "places", "ties"]) fun _ _ _ _ _ _ us hl=>by obtain ⟨a,b,c,rfl⟩:=len3 hl;rfl
 have F4:=fun_mk (st:=s_refuse_no_place) l4 k4c k4
 have b4:=F4.binds (ps:=["web", "place"]) fun _ _ _ _ _ _ us hl=>by obtain ⟨a,b,rfl⟩:=len2 hl;rfl
 have F5:=fun_mk (st:=s_near) l5 k5c k5
 have b5:=F5.binds (ps:=["web", "place"]) fun _ _ _ _ _ _ us hl=>by obtain ⟨a,b,rfl⟩:=len2 hl;rfl
 have F6:=fun_mk (st:=s_is_answer) l6 k6c k6
 have b6:=F6.binds (ps:=["web", "standing", "call", "kind", "told"]) fun _ _ _ _ _ _ us hl=>by obtain ⟨a,b,c,d,e,rfl⟩:=len5 hl;rfl
 have F7:=fun_mk (st:=s__law_cell_at) l7 k7c k7
 have b7:=F7.binds (ps:=["script", "k"]) fun _ _ _ _ _ _ us hl=>by obtain ⟨a,b,rfl⟩:=len2 hl;rfl
 have F8:=fun_mk (st:=s__law_pairs) l8 k8c k8
 have b8:=F8.binds (ps:=["places"]) fun _ _ _ _ _ _ us hl=>by obtain ⟨a,rfl⟩:=len1 hl;rfl
 have F9:=fun_mk (st:=s__law_first_ties) l9 k9c k9
 have b9:=F9.binds (ps:=["places", "style"]) fun _ _ _ _ _ _ us hl=>by obtain ⟨a,b,rfl⟩:=len2 hl;rfl
 have F10:=fun_mk (st:=s__law_ties) l10 k10c k10
 have b10:=F10.binds (ps:=["script", "first", "places"]) fun _ _ _ _ _ _ us hl=>by obtain ⟨a,b,c,rfl⟩:=len3 hl;rfl
 have F11:=fun_mk (st:=s__law_handed) l11 k11c k11
 have b11:=F11.binds (ps:=["script", "ties"]) fun _ _ _ _ _ _ us hl=>by obtain ⟨a,b,rfl⟩:=len2 hl;rfl
 have F12:=fun_mk (st:=s__law_near) l12 k12c k12
 have b12:=F12.binds (ps:=["ties", "place"]) fun _ _ _ _ _ _ us hl=>by obtain ⟨a,b,rfl⟩:=len2 hl;rfl
 have F13:=fun_mk (st:=s__law_sets) l13 k13c k13
 have b13:=F13.binds (ps:=["places", "guards"]) fun _ _ _ _ _ _ us hl=>by obtain ⟨a,b,rfl⟩:=len2 hl;rfl
 have F14:=fun_mk (st:=s__law_answers) l14 k14c k14
 have b14:=F14.binds (ps:=["ties", "standing", "call", "kind"]) fun _ _ _ _ _ _ us hl=>by obtain ⟨a,b,c,d,rfl⟩:=len4 hl;rfl
 have F15:=fun_mk (st:=s__law_is) l15 k15c k15
 have b15:=F15.binds (ps:=["ties", "standing", "call", "kind", "told"]) fun _ _ _ _ _ _ us hl=>by obtain ⟨a,b,c,d,e,rfl⟩:=len5 hl;rfl
 have F16:=fun_mk (st:=s__law_spoilt) l16 k16c k16
 have b16:=F16.binds (ps:=["row", "cell", "places"]) fun _ _ _ _ _ _ us hl=>by obtain ⟨a,b,c,rfl⟩:=len3 hl;rfl
 have F17:=fun_mk (st:=s__law_any) l17 k17c k17
 have b17:=F17.binds (ps:=["cell", "size", "places"]) fun _ _ _ _ _ _ us hl=>by obtain ⟨a,b,c,rfl⟩:=len3 hl;rfl
 have F18:=fun_mk (st:=s_law) l18 k18c k18
 have b18:=F18.binds (ps:=["script"]) fun _ _ _ _ _ _ us hl=>by obtain ⟨a,rfl⟩:=len1 hl;rfl
 let W:Wd:=⟨cWeb⟩
 let T:Txt K mg W:={
  d_checked_ties:=⟨f1,_,F1,b1,mg_of X G a1⟩
  d_near_sets_of:=⟨f2,_,F2,b2,mg_of X G a2⟩
  d_Web_init:=⟨f3,_,F3,b3⟩
  d_refuse_no_place:=⟨f4,_,F4,b4,mg_of X G a4⟩
  d_near:=⟨f5,_,F5,b5,mg_of X G a5⟩
  d_is_answer:=⟨f6,_,F6,b6,mg_of X G a6⟩
  d__law_cell_at:=⟨f7,_,F7,b7,mg_of X G a7⟩
  d__law_pairs:=⟨f8,_,F8,b8,mg_of X G a8⟩
  d__law_first_ties:=⟨f9,_,F9,b9,mg_of X G a9⟩
  d__law_ties:=⟨f10,_,F10,b10,mg_of X G a10⟩
  d__law_handed:=⟨f11,_,F11,b11,mg_of X G a11⟩
  d__law_near:=⟨f12,_,F12,b12,mg_of X G a12⟩
  d__law_sets:=⟨f13,_,F13,b13,mg_of X G a13⟩
  d__law_answers:=⟨f14,_,F14,b14,mg_of X G a14⟩
  d__law_is:=⟨f15,_,F15,b15,mg_of X G a15⟩
  d__law_spoilt:=⟨f16,_,F16,b16,mg_of X G a16⟩
  d__law_any:=⟨f17,_,F17,b17,mg_of X G a17⟩
  d_law:=⟨f18,_,F18,b18,mg_of X G a18⟩
  c_Web:=⟨⟨pg_Web,hd_Web,po_Web,sa_Web⟩,⟨mk_Web,a3,i3,kc_Web⟩,mg_of X G a_Web⟩
  n_Web_places:=n_Web_places
  n_Web_ties:=n_Web_ties
  n_Web_near_sets:=n_Web_near_sets
  b_all:=mg_none_of X G z_all
  b_bool:=mg_none_of X G z_bool
  b_int:=mg_none_of X G z_int
  b_isinstance:=mg_none_of X G z_isinstance
  b_len:=mg_none_of X G z_len
  b_list:=mg_none_of X G z_list
  b_max:=mg_none_of X G z_max
  b_min:=mg_none_of X G z_min
  b_range:=mg_none_of X G z_range
  b_reversed:=mg_none_of X G z_reversed
  b_set:=mg_none_of X G z_set
  b_sorted:=mg_none_of X G z_sorted
  b_tuple:=mg_none_of X G z_tuple
  b_zip:=mg_none_of X G z_zip
  g_MOST_PLACES:=⟨tk_MOST_PLACES,mg_of X G g_MOST_PLACES⟩ }
 refine ⟨W,T,?_,List.nodup_nil,fun s v=>.of_eq rfl⟩;have e:=hfa.symm.trans (mg_of X G a18);cases e;rfl
theorem walk {l:OpenLaw} {q:Program} {loose:List Str} {XP:(Str→Option Value)→Heap→Prop} {YP:World→Heap→Prop} {d:DefRec} {K:Params→Frag} (hn:l.most=some 63) (hdf:d.params.defaults=[])
  (hY:∀(w:World) (h:Heap),YP w h→(K w.params).In h)
  (F:∀(w:World) (mg:Str→Option Value) (fa:Addr) (h:Heap),(K w.params).In h→h.Ns mainGlobals mg→mg d.name=some (.ref fa) →
   ∃(W:Wd) (T:Txt (K w.params) mg W),fa=T.d_law.f∧W.excs.Nodup∧∀(s:Shared) (v:Value),BindsTo s T.d_law.fd ⟨[v],[]⟩ [("script",v)])
  (good:∀(W:Wd),W.excs.Nodup→∀ns:List Int,ns.length≤63→∃S',f_law W [.fro (ns.map D.int)] []=.ok (.bl true) S') :
  WalkO q loose XP YP l.row.toRowW d [] (fun f vs=>PySem.call f vs):=
 L2.walk_of (n:=63) (k:=4) (x:="script") (CX:=fun w=>CXG l.prog w) (sp:=fun w=>spTrue (K w.params)) hn (by decide) hdf ⟨rfl,by decide,by decide⟩ hY
  (fun w mg fa h KX G hmg=>by
   obtain ⟨W,T,e,nd,hb⟩:=F w mg fa h KX G hmg;subst e
   exact ⟨T.d_law.fd,hb,fun base _ _=>law_true (ok_law T) (good W nd)⟩)
  (fun _ _ a ns hl hO hS=>⟨a,ns,rfl,frz_of hO hS,hl,fun _=>rfl⟩) (fun w H s e s' z=>cxg_no z)
end M
open PySem PySem.W PyProof.Rows
set_option maxRecDepth 100000 in
set_option maxHeartbeats 0 in
theorem PySem.Challenge.cw_guardround_k16_what_is_an_answer_holds : PySem.Challenge.rw_guardround_k16_what_is_an_answer.Holds := by
 w_on;o_law;k_head;(case hw=>w_witness2)
 k_fill
 refine M.walk (l:=PySem.Challenge.rw_guardround_k16_what_is_an_answer) rfl rfl (fun w h Y=>kIn_of Y) ?F M.good
 case F=>
  intro w mg fa h KX G hmg;refine' M.all_mk (l:=PySem.Challenge.rw_guardround_k16_what_is_an_answer) (w:=w) KX G hmg ?a_Web ?a1 ?l1 ?k1c ?k1 ?a2 ?l2 ?k2c ?k2 ?a3 ?i3 ?l3 ?k3c ?k3 ?a4 ?l4 ?k4c ?k4 ?a5 ?l5 ?k5c ?k5 ?a6 ?l6 ?k6c ?k6 ?a7 ?l7 ?k7c ?k7 ?a8 ?l8 ?k8c ?k8 ?a9 ?l9 ?k9c ?k9 ?a10 ?l10 ?k10c ?k10 ?a11 ?l11 ?k11c ?k11 ?a12 ?l12 ?k12c ?k12 ?a13 ?l13 ?k13c ?k13 ?a14 ?l14 ?k14c ?k14 ?a15 ?l15 ?k15c ?k15 ?a16 ?l16 ?k16c ?k16 ?a17 ?l17 ?k17c ?k17 ?a18 ?l18 ?k18c ?k18 ?pg_Web ?hd_Web ?po_Web ?sa_Web ?mk_Web ?kc_Web ?n_Web_places ?n_Web_ties ?n_Web_near_sets ?z_all ?z_bool ?z_int ?z_isinstance ?z_len ?z_list ?z_max ?z_min ?z_range ?z_reversed ?z_set ?z_sorted ?z_tuple ?z_zip ?g_MOST_PLACES
  (case a_Web | a1 | l1 | k1c | k1 | a2 | l2 | k2c | k2 | a3 | i3 | l3 | k3c | k3 | a4 | l4 | k4c | k4 | a5 | l5 | k5c | k5 | a6 | l6 | k6c | k6 | a7 | l7 | k7c | k7 | a8 | l8 | k8c | k8 | a9 | l9 | k9c | k9 | a10 | l10 | k10c | k10 | a11 | l11 | k11c | k11 | a12 | l12 | k12c | k12 | a13 | l13 | k13c | k13 | a14 | l14 | k14c | k14 | a15 | l15 | k15c | k15 | a16 | l16 | k16c | k16 | a17 | l17 | k17c | k17 | a18 | l18 | k18c | k18 | pg_Web | hd_Web | po_Web | sa_Web | mk_Web | kc_Web | n_Web_places | n_Web_ties | n_Web_near_sets | z_all | z_bool | z_int | z_isinstance | z_len | z_list | z_max | z_min | z_range | z_reversed | z_set | z_sorted | z_tuple | z_zip | g_MOST_PLACES=>k_is)
#print axioms PySem.Challenge.cw_guardround_k16_what_is_an_answer_holds
