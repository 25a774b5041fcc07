import PyProof.Rows.All
import Wide.All
import OpenK.AllK
import Wide.FinOn
import Lean
import PyProof.EqAt
import PyProof.EqKinds
import PyProof.TupleCall
import PyProof.StrLawsTight
import PyProof.Rows.StrJoin2
import PyProof.Rows.StrSplitJoin
import KE.KTab
import PyProof.ZipIter
import PyProof.Rows.TupIter
import PyProof.Rows.SortWalk
import PyProof.Rows.SortStr
import PyProof.ConsumeWalk
import KE.KRevSl
import KE.KTryMore
import PyProof.NsDelKeeps
import PyProof.NeKinds
import KE.KIntText
import PyProof.SetKind
import PyProof.SetRoads
import PyProof.Rows.SetFrom
import PyProof.CollectWalk
import PyProof.CollectIter
import PyProof.Rows.SortShell
import PyProof.Rows.MinMaxN
import KE.RegKTryMore
import PySem.Challenge.RW_marchmend_k19_no_runs
set_option Elab.async false
set_option linter.all false
set_option maxRecDepth 100000
set_option maxHeartbeats 8000000
noncomputable section
namespace L2
open PySem PySem.Spec PyProof.Rows
noncomputable abbrev Key:=Sum Int Str
noncomputable def keyIs:Key→Value→Bool
 | .inl k,v=>Value.isInt k v
 | .inr x,v=>Value.isStrOf x v
noncomputable def keyH (w:World):Key→Int
 | .inl k=>hashInt k
 | .inr x=>hashStr w x
theorem ybb:∀ {k:Key}{v:Value},keyIs k v=true→(∃ i t,k=Sum.inl i∧v=Value.int i t)∨(∃ x t,k=Sum.inr x∧v=Value.str x t)
 | .inl i,v,h=>by
  obtain ⟨t,e⟩:=Value.isInt_shape (k:=i) (v:=v) h
  exact .inl ⟨i,t,rfl,e⟩
 | .inr x,v,h=>by
  obtain ⟨t,e⟩:=Value.isStrOf_shape (x:=x) (v:=v) h
  exact .inr ⟨x,t,rfl,e⟩
theorem key_ll (a b:Int):decide ((Sum.inl a:Key)=Sum.inl b)=(a == b):=by
 by_cases e:a=b
 ·subst e;simp
 ·have h:¬ (Sum.inl a:Key)=Sum.inl b:=fun q=>e (Sum.inl.inj q)
  rw[decide_eq_false h]
  exact (beq_eq_false_iff_ne.mpr e).symm
theorem key_rr (a b:Str):decide ((Sum.inr a:Key)=Sum.inr b)=decide (a=b):=by
 by_cases e:a=b
 ·subst e;simp
 ·have h:¬ (Sum.inr a:Key)=Sum.inr b:=fun q=>e (Sum.inr.inj q)
  rw[decide_eq_false h,decide_eq_false e]
theorem key_lr (a:Int) (b:Str):decide ((Sum.inl a:Key)=Sum.inr b)=false:=decide_eq_false (fun q=>nomatch q)
theorem key_rl (a:Str) (b:Int):decide ((Sum.inr a:Key)=Sum.inl b)=false:=decide_eq_false (fun q=>nomatch q)
noncomputable def qlf (prog:Program) (w:World):PySem.KeyKind prog w Key where
 is:=keyIs
 hash:=keyH w
 inj:=fun v a b ha hb=>by
  rcases ybb ha with ⟨i,t,rfl,rfl⟩|⟨x,t,rfl,rfl⟩
  ·rcases ybb hb with ⟨j,u,rfl,e⟩|⟨y,u,rfl,e⟩
   ·injection e with e1 _;rw[e1]
   ·exact nomatch e
  ·rcases ybb hb with ⟨j,u,rfl,e⟩|⟨y,u,rfl,e⟩
   ·exact nomatch e
   ·injection e with e1 _;rw[e1]
 byValue:=fun k v h=>by
  rcases ybb h with ⟨i,t,rfl,rfl⟩|⟨x,t,rfl,rfl⟩<;>rfl
 pyHash:=fun hv h=>by
  rcases ybb hv with ⟨i,t,rfl,rfl⟩|⟨x,t,rfl,rfl⟩
  ·exact wpAny_pyHash_int h
  ·exact wpAny_pyHash_str h
 eqBool:=fun hu hv h=>by
  rcases ybb hu with ⟨i,t,rfl,rfl⟩|⟨x,t,rfl,rfl⟩
  ·rcases ybb hv with ⟨j,u,rfl,rfl⟩|⟨y,u,rfl,rfl⟩
   ·rw[key_ll] at h;exact wpAny_eqBool_int h
   ·rw[key_lr] at h;exact SeqAt.EqAt.int_str i t y u _ _ _ _ h
  ·rcases ybb hv with ⟨j,u,rfl,rfl⟩|⟨y,u,rfl,rfl⟩
   ·rw[key_rl] at h;exact SeqAt.EqAt.str_int x t j u _ _ _ _ h
   ·rw[key_rr] at h;exact wpAny_eqBool_str h
 «strs»:=fun k x t v h=>by
  rcases ybb h with ⟨i,u,rfl,e⟩|⟨y,u,rfl,e⟩
  ·exact nomatch e
  ·injection e with e1 _
   subst e1
   cases v<;>rfl
end L2
namespace L2
open PySem PySem.Spec PyProof.Rows
inductive V where
 | non|bl (b:Bool)|int (i:Int)|str (x:Str)|byt (b:Array UInt8)|flt (b:UInt64)|ref (a:Addr)|ty (n:String)
 deriving DecidableEq
noncomputable def RelV:V→Value→Prop
 | .non,u=>u=Value.none
 | .bl b,u=>u=Value.bool b
 | .int i,u=>∃ t,u=Value.int i t
 | .str x,u=>∃ t,u=Value.str x t
 | .byt b,u=>∃ t,u=Value.bytes b t
 | .flt b,u=>∃ t,u=Value.float b t
 | .ref a,u=>u=Value.ref a
 | .ty n,u=>u=Value.type n
noncomputable abbrev Vals:List V→List Value→Prop:=Paired RelV
theorem Vals.length {xs:List V}{us:List Value} (r:Vals xs us):xs.length=us.length:=Paired.length r
theorem Vals.get:∀ {xs:List V}{us:List Value}{i:Nat}{x:V},Vals xs us→xs[i]?=some x→∃ u,us[i]?=some u∧RelV x u
 | _,_,_,_,.nil,e=>by simp at e
 | _,_,0,_,.cons r _,e=>by simp at e;subst e;exact ⟨_,rfl,r⟩
 | _,_,i+1,x,.cons _ t,e=>by
  obtain ⟨u,h1,h2⟩:=Vals.get (i:=i) (x:=x) t (by simpa using e)
  exact ⟨u,by simpa using h1,h2⟩
theorem Vals.set {x:V}{u:Value} (r:RelV x u):∀ {xs:List V}{us:List Value} (i:Nat),Vals xs us→Vals (xs.set i x) (us.set i u)
 | _,_,_,.nil=>.nil
 | _,_,0,.cons _ t=>.cons r t
 | _,_,i+1,.cons q t=>.cons q (Vals.set r i t)
theorem Vals.append:∀ {xs ys:List V}{us ws:List Value},Vals xs us→Vals ys ws→Vals (xs++ys) (us++ws)
 | _,_,_,_,.nil,s=>s
 | _,_,_,_,.cons r t,s=>.cons r (Vals.append t s)
theorem Vals.take:∀ {xs:List V}{us:List Value} (n:Nat),Vals xs us→Vals (xs.take n) (us.take n)
 | _,_,0,_=>.nil
 | _,_,_+1,.nil=>.nil
 | _,_,n+1,.cons r t=>.cons r (Vals.take n t)
theorem Vals.drop:∀ {xs:List V}{us:List Value} (n:Nat),Vals xs us→Vals (xs.drop n) (us.drop n)
 | _,_,0,r=>r
 | _,_,_+1,.nil=>.nil
 | _,_,n+1,.cons _ t=>Vals.drop n t
theorem Vals.none_of:∀ {xs:List V}{us:List Value}{i:Nat},Vals xs us→xs[i]?=none→us[i]?=none:=fun {xs us i} r e=>by
 have h1:=r.length
 have h2:xs.length≤i:=List.getElem?_eq_none_iff.mp e
 exact List.getElem?_eq_none_iff.mpr (by omega)
noncomputable def RelO:Option V→Option Value→Prop
 | some v,some u=>RelV v u
 | none,none=>True
 | _,_=>False
noncomputable def KV {κ:Type}:List (κ×V)→List (κ×Value)→Prop:=Paired fun (p:κ×V) (q:κ×Value)=>p.1=q.1∧RelV p.2 q.2
noncomputable def kV:Key→V
 | .inl i=>.int i
 | .inr x=>.str x
inductive HO where
 /-- a list -/
 | lst (xs:List V)
 /-- a tuple (never changes) -/
 | tup (xs:List V)
 /-- a dict whose keys are ints and texts;one whose keys are tuples of ints and texts (the empty one is both) -/
 | dK (kvs:List (Key×V))|dT (kvs:List (List Key×V))
 /-- a set of ints: its members,its size -/
 | set (S:Int→Bool) (n:Nat)
 /-- an instance of the class at C,its dict at dx,its attributes -/
 | ins (C dx:Addr) (fs:List (Str×V))
 /-- the dict of the instance at x -/
 | own (x:Addr)
 /-- the dict of an exception -/
 | xd (fs:List (Str×V))
 /-- a bound method,f of x -/
 | met (f x:Addr)
 /-- a range object lo,lo+1,.. below hi -/
 | rng (lo hi:Int)
 /-- a thing that is known to the object (the script;a dict while a loop walks it): read,never written while it is so -/
 | frz (o:Obj) (u:HO)
 /-- a code object's table -/
 | tbl (ps:Array Value)
 /-- any other thing,by what is true of its one object (a def of one's own: SetO a S n:=HO.ext fun h=>..) -/
 | ext (φ:Heap→Prop)
noncomputable abbrev Hp:=Addr→Option HO
noncomputable def upd (H:Hp) (a:Addr) (o:HO):Hp:=fun b=>if b=a then some o else H b
theorem yaa {H:Hp}{a:Addr}{o:HO}:upd H a o a=some o:=by unfold upd;rw[if_pos rfl]
theorem yai {H:Hp}{a b:Addr}{o:HO} (h:b≠a):upd H a o b=H b:=by unfold upd;rw[if_neg h]
theorem yhv {H:Hp}{a:Addr}{o u:HO}:upd (upd H a o) a u=upd H a u:=by
 funext b;unfold upd;split<;>rfl
theorem ne_of {H:Hp}{a b:Addr}{o u:HO} (h:H a=some o) (h':H b=some u) (d:o≠u):a≠b:=by
 intro e;subst e;rw[h] at h';exact d (Option.some.inj h')
theorem yae {H:Hp}{a b:Addr}{o:HO} (h:H a=some o) (h':H b=none):a≠b:=by
 intro e;subst e;rw[h] at h';cases h'
section
variable (P:Program) (w:World)
noncomputable def ybq (H:Hp) (h:Heap) (a:Addr):HO→Prop
 | .lst xs=>xs.length≤sizeLine∧∃ (its:List Value) (n:Nat),Vals xs its∧h.get? a=some { cls:=.type "list",data:=.seq its.toArray n }
 | .tup xs=>xs.length≤sizeLine∧∃ its:List Value,Vals xs its∧IsTup h a its.toArray
 | .dK kvs=>kvs.length≤sizeLine∧(a == sysModules)=false∧∃ vs,KV kvs vs∧h.DictOf (qlf P w) a vs
 | .dT kvs=>kvs.length≤sizeLine∧(a == sysModules)=false∧∃ xs:List (List Key×Addr×Value),
   Paired (fun (p:List Key×V) (q:List Key×Addr×Value)=>p.1=q.1∧H q.2.1=some (.tup (p.1.map kV))∧RelV p.2 q.2.2) kvs xs∧
   ∃ o es ep,h.get? a=some o∧o.ExactDict∧o.data=.dict es ep∧es.toList=xs.map (entryOfKey (tupleKind (qlf P w)))∧(xs.map (·.1)).Nodup
 | .set S n=>h.SetOf (intKind P w) a S n
 | .ins C dx fs=>H dx=some (.own a)∧fs.length≤1000∧dx≠a∧h.get? a=some (PySem.W.instObj C dx)∧
   ∃ mA,h.Ns1 dx mA∧(∀ f,RelO (fs.lookup f) (mA f))∧PySem.Within mA (fs.map (·.1))
 | .own _=>∃ o,h.get? a=some o
 | .xd fs=>∃ mA,h.Ns1 a mA∧∀ f,RelO (fs.lookup f) (mA f)
 | .rng lo hi=>∃ t u v,h.get? a=some { cls:=.type "range",data:=.fields #[.int lo t,.int hi u,.int 1 v] }
 | .frz o u=>h.get? a=some o∧ybq H h a u
 | .tbl ps=>h.get? a=some { cls:=.none,data:=.fields ps }
 | .met f x=>h.get? a=some (PySem.W.methodObj (.ref f) (.ref x))
 | .ext φ=>φ h∧(∃ o,h.get? a=some o)∧∀ h1 h2:Heap,φ h1→(∀ o,h1.get? a=some o→h2.get? a=some o)→φ h2
noncomputable def HOk (H:Hp) (h:Heap):Prop:=∀ a o,H a=some o→ybq P w H h a o
end
section
variable {P:Program}{w:World}{H H':Hp}{h h':Heap}{a:Addr}{o:HO}
theorem ybq.lt (x:ybq P w H h a o):a<h.objs.size:=by
 cases o with
 | lst xs=>obtain ⟨_,_,_,_,e⟩:=x;exact Heap.lt_size e
 | tup xs=>obtain ⟨_,_,_,p⟩:=x;exact p.lt
 | dK kvs=>obtain ⟨_,_,_,_,o,_,_,e,_⟩:=x;exact Heap.lt_size e
 | dT kvs=>obtain ⟨_,_,_,_,o,_,_,e,_⟩:=x;exact Heap.lt_size e
 | set S n=>obtain ⟨o,_,_,_,e,_⟩:=x;exact Heap.lt_size e
 | ins C dx fs=>obtain ⟨_,_,_,e,_⟩:=x;exact Heap.lt_size e
 | own y=>obtain ⟨_,e⟩:=x;exact Heap.lt_size e
 | xd fs=>obtain ⟨_,⟨_,_,_,e,_⟩,_⟩:=x;exact Heap.lt_size e
 | rng lo hi=>obtain ⟨_,_,_,e⟩:=x;exact Heap.lt_size e
 | frz ob u=>obtain ⟨e,_⟩:=x;exact Heap.lt_size e
 | tbl ps=>exact Heap.lt_size (show h.get? a=some _ from x)
 | met f y=>exact Heap.lt_size (show h.get? a=some _ from x)
 | ext φ=>obtain ⟨_,⟨_,e⟩,_⟩:=x;exact Heap.lt_size e
theorem Paired.mapP {α β:Type}{F G:α→β→Prop}:∀ {l₁:List α}{l₂:List β},Paired F l₁ l₂→(∀ a b,F a b→G a b)→Paired G l₁ l₂
 | _,_,.nil,_=>.nil
 | _,_,.cons r t,f=>.cons (f _ _ r) (Paired.mapP t f)
theorem ybq.stay (x:ybq P w H h a o) (k:∀ b u,(b=a∨H b=some (.own a))→h.get? b=some u→h'.get? b=some u)
  (ho:∀ b,H b=some (.own a)→H' b=some (.own a)) (ht:∀ b xs,H b=some (.tup xs)→H' b=some (.tup xs)):ybq P w H' h' a o:=by
 induction o with
 | lst xs=>obtain ⟨z,its,n,r,e⟩:=x;exact ⟨z,its,n,r,k _ _ (.inl rfl) e⟩
 | tup xs=>obtain ⟨z,its,r,ob,e,c⟩:=x;exact ⟨z,its,r,ob,k _ _ (.inl rfl) e,c⟩
 | dK kvs=>obtain ⟨z,y,vs,r,ob,es,ep,e,c⟩:=x;exact ⟨z,y,vs,r,ob,es,ep,k _ _ (.inl rfl) e,c⟩
 | dT kvs=>
  obtain ⟨z,y,xs,r,ob,es,ep,e,c⟩:=x
  exact ⟨z,y,xs,Paired.mapP r fun p q z=>⟨z.1,ht _ _ z.2.1,z.2.2⟩,ob,es,ep,k _ _ (.inl rfl) e,c⟩
 | set S n=>obtain ⟨ob,es,ep,t,e,c⟩:=x;exact ⟨ob,es,ep,t,k _ _ (.inl rfl) e,c⟩
 | ins C dx fs=>
  obtain ⟨d,z,ne,e,mA,⟨od,es,ep,e2,c⟩,r⟩:=x
  exact ⟨ho _ d,z,ne,k _ _ (.inl rfl) e,mA,⟨od,es,ep,k _ _ (.inr d) e2,c⟩,r⟩
 | own y=>obtain ⟨ob,e⟩:=x;exact ⟨ob,k _ _ (.inl rfl) e⟩
 | xd fs=>obtain ⟨mA,⟨od,es,ep,e,c⟩,r⟩:=x;exact ⟨mA,⟨od,es,ep,k _ _ (.inl rfl) e,c⟩,r⟩
 | rng lo hi=>obtain ⟨t,u,v,e⟩:=x;exact ⟨t,u,v,k _ _ (.inl rfl) e⟩
 | frz ob u ih=>obtain ⟨e,q⟩:=x;exact ⟨k _ _ (.inl rfl) e,ih q⟩
 | tbl ps=>
  have e:h.get? a=some { cls:=.none,data:=.fields ps }:=x
  show h'.get? a=some { cls:=.none,data:=.fields ps }
  exact k a _ (.inl rfl) e
 | met f y=>
  have e:h.get? a=some (PySem.W.methodObj (.ref f) (.ref y)):=x
  show h'.get? a=some (PySem.W.methodObj (.ref f) (.ref y))
  exact k a _ (.inl rfl) e
 | ext φ=>obtain ⟨p,⟨o,e⟩,st⟩:=x;exact ⟨st _ _ p fun o q=>k _ _ (.inl rfl) q,⟨o,k _ _ (.inl rfl) e⟩,st⟩
theorem HOk.lt (x:HOk P w H h) (e:H a=some o):a<h.objs.size:=(x a o e).lt
theorem HOk.fresh (x:HOk P w H h) (e:h.objs.size≤a):H a=none:=by
 cases q:H a with
 | none=>rfl
 | some u=>exact absurd (Nat.lt_of_lt_of_le (x.lt q) e) (Nat.lt_irrefl _)
theorem HOk.kept (x:HOk P w H h) (k:∀ b u,h.get? b=some u→h'.get? b=some u):HOk P w H h':=fun a o e=>
 (x a o e).stay (fun b u _ q=>k b u q) (fun _ q=>q) fun _ _ q=>q
theorem HOk.laid (x:HOk P w H h) (k:∀ b u,h.get? b=some u→h'.get? b=some u) (hp:h.objs.size≤a) (new:ybq P w (upd H a o) h' a o):HOk P w (upd H a o) h':=fun b u e=>by
 have hn:=x.fresh hp
 by_cases hb:b=a
 ·subst hb;rw[yaa] at e;cases e;exact new
 ·rw[yai hb] at e
  exact (x b u e).stay (fun c v _ q=>k c v q) (fun c q=>by rw[yai (yae q hn)];exact q) fun c xs q=>by rw[yai (yae q hn)];exact q
end
noncomputable def Rd (H:Hp) (a:Addr) (u:HO):Prop:=H a=some u∨∃ o,H a=some (.frz o u)
theorem Rd.ok {P:Program}{w:World}{H:Hp}{h:Heap}{a:Addr}{u:HO} (r:Rd H a u) (x:HOk P w H h):ybq P w H h a u:=by
 rcases r with r|⟨o,r⟩
 ·exact x a u r
 ·obtain ⟨_,q⟩:=x a _ r
  exact q
noncomputable def Mut:Option HO→Prop
 | some (.lst _)=>True
 | some (.dK _)=>True
 | some (.dT _)=>True
 | some (.set _ _)=>True
 | some (.ins _ _ _)=>True
 | some (.ext _)=>True
 | _=>False
section
variable {P:Program}{w:World}{H:Hp}{h h':Heap}{x e:Addr}{o':HO}
theorem HOk.write (ok:HOk P w H h) (mu:Mut (H x)) (he:e=x∨H e=some (.own x)) (k:∀ b u,b≠e→h.get? b=some u→h'.get? b=some u) (heo:∃ u,h'.get? e=some u)
  (new:ybq P w (upd H x o') h' x o'):HOk P w (upd H x o') h':=fun b u q=>by
 have nown:∀ c y,H c=some (.own y)→c≠x:=fun c y r z=>by subst z;rw[r] at mu;exact mu
 have ntup:∀ c xs,H c=some (.tup xs)→c≠x:=fun c xs r z=>by subst z;rw[r] at mu;exact mu
 by_cases hb:b=x
 ·subst hb;rw[yaa] at q;cases q;exact new
 ·rw[yai hb] at q
  by_cases hbe:b=e
  ·have q':H b=some (.own x):=by
    rcases he with z|z
    ·exact absurd (hbe.trans z) hb
    ·rw[hbe];exact z
   rw[q] at q';cases q'
   obtain ⟨v,hv⟩:=heo
   exact ⟨v,by rw[hbe];exact hv⟩
  ·refine (ok b u q).stay (fun c v hc r=>k c v ?_ r) (fun c r=>by rw[yai (nown c b r)];exact r) fun c xs r=>by rw[yai (ntup c xs r)];exact r
   rcases hc with rfl|hc
   ·exact hbe
   ·rintro rfl
    rcases he with z|z
    ·exact nown c b hc z
    ·rw[hc] at z;cases z;exact hb rfl
end
structure Un (fs ex:List Addr) (H H':Hp) (h h':Heap):Prop where
 keep:∀ b o,h.get? b=some o→H b=none→b∉fs→b∉ex→h'.get? b=some o
 slot:∀ b o,h.get? b=some o→H b=none→b∈fs→b∉ex→∃ sl,h'.get? b=some { o with slots:=sl }
 free:∀ b o,h.get? b=some o→H b=none→b∉ex→H' b=none
 there:∀ b o,h.get? b=some o→b∉ex→∃ o',h'.get? b=some o'
 tups:∀ b xs,H b=some (.tup xs)→H' b=some (.tup xs)
 frzs:∀ b o u,H b=some (.frz o u)→H' b=some (.frz o u)
 tbls:∀ b ps,H b=some (.tbl ps)→∃ more,H' b=some (.tbl (ps++more))
section
variable {fs fs' ex ex':List Addr}{H H1 H2:Hp}{h h1 h2 h':Heap}{a x e:Addr}{o:HO}
theorem Un.any (u:Un fs ex H H1 h h1) {b:Addr}{ob:Obj} (q:h.get? b=some ob) (n:H b=none) (hx:b∉ex):∃ sl,h1.get? b=some { ob with slots:=sl }:=by
 by_cases hb:b∈fs
 ·exact u.slot b ob q n hb hx
 ·exact ⟨ob.slots,u.keep b ob q n hb hx⟩
theorem Un.kept (k:∀ b u,h.get? b=some u→h'.get? b=some u):Un fs ex H H h h':=
 ⟨fun b ob q _ _ _=>k b ob q,fun b ob q _ _ _=>⟨ob.slots,k b ob q⟩,fun _ _ _ n _=>n,fun b ob q _=>⟨ob,k b ob q⟩,fun _ _ q=>q,fun _ _ _ q=>q,fun _ ps q=>⟨#[],by rw[q];simp⟩⟩
theorem Un.refl:Un fs ex H H h h:=Un.kept fun _ _ q=>q
theorem Un.laid (k:∀ b u,h.get? b=some u→h'.get? b=some u) (hp:h.objs.size≤a) (hn:H a=none):Un fs ex H (upd H a o) h h' where
 keep:=fun b u q _ _ _=>k b u q
 slot:=fun b u q _ _ _=>⟨u.slots,k b u q⟩
 free:=fun b u q n _=>by rw[yai (Nat.ne_of_lt (Nat.lt_of_lt_of_le (Heap.lt_size q) hp))];exact n
 there:=fun b u q _=>⟨u,k b u q⟩
 tups:=fun b xs q=>by rw[yai (yae q hn)];exact q
 frzs:=fun b u xs q=>by rw[yai (yae q hn)];exact q
 tbls:=fun b ps q=>⟨#[],by rw[yai (yae q hn),q];simp⟩
theorem Un.write (mu:Mut (H x)) (he:e=x∨H e=some (.own x)) (k:∀ b u,b≠e→h.get? b=some u→h'.get? b=some u) (heo:∃ u,h'.get? e=some u):Un fs ex H (upd H x o) h h':=by
 have hx:∀ b,H b=none→b≠x:=fun b n z=>by subst z;rw[n] at mu;exact mu
 have hb:∀ b,H b=none→b≠e:=fun b n z=>by
  subst z
  rcases he with r|r
  ·exact hx b n r
  ·rw[n] at r;cases r
 have hm:∀ b u,H b=some u→¬ Mut (some u)→b≠x:=fun b u q nm z=>by subst z;rw[q] at mu;exact nm mu
 refine ⟨fun b u q n _ _=>k b u (hb b n) q,fun b u q n _ _=>⟨u.slots,k b u (hb b n) q⟩,fun b u q n _=>by rw[yai (hx b n)];exact n,fun b u q _=>?_,
  fun b xs q=>by rw[yai (hm b _ q fun z=>z)];exact q,fun b u xs q=>by rw[yai (hm b _ q fun z=>z)];exact q,fun b ps q=>⟨#[],by rw[yai (hm b _ q fun z=>z),q];simp⟩⟩
 by_cases hbe:b=e
 ·subst hbe;exact heo
 ·exact ⟨u,k b u hbe q⟩
end
noncomputable def trk (h:Heap) (H:Hp):List Addr:=(List.range h.objs.size).filter fun a=>(H a).isSome
noncomputable def hidT (h:Heap) (H:Hp):Heap:=PySem.W.hideAll h (trk h H)
theorem qk8 (h:Heap) (H:Hp):(hidT h H).objs.size=h.objs.size:=PySem.W.hideAll_size _ _
theorem hidT_get {h:Heap}{H:Hp}{b:Addr}{o:Obj} (e:h.get? b=some o) (n:H b=none):(hidT h H).get? b=some o:=
 PySem.W.hideAll_get _ e fun hm=>by
  have q:(H b).isSome=true:=(List.mem_filter.mp hm).2
  rw[n] at q;simp at q
theorem of_hidT {h:Heap}{H:Hp}{b:Addr}{o:Obj} (e:(hidT h H).get? b=some o):h.get? b=some o∧H b=none:=by
 have e':h.get? b=some o:=PySem.W.of_hideAll (trk h H) e
 refine ⟨e',?_⟩
 cases q:H b with
 | none=>rfl
 | some x=>
  have hm:b∈trk h H:=List.mem_filter.mpr ⟨List.mem_range.mpr (Heap.lt_size e'),by simp[q]⟩
  have z:(hidT h H).get? b=none:=PySem.W.hideAll_none (trk h H) hm
  rw[z] at e;cases e
structure Mod (K:PySem.W.Frag) (mg:Str→Option Value) (base:Heap):Prop where
 kin:K.In base
 glob:base.Ns mainGlobals mg
 blt:∃ mb,base.Ns builtinsNs mb∧∀ x:Str,x≠"__name__"→mb x=bootBuiltins x
 nolimit:base.NoLimit
structure Cx where
 prog:Program
 w:World
 K:PySem.W.Frag
 mg:Str→Option Value
 base:Heap
 A:Around
 N:List Str
 s₀:Shared
 H₀:Hp
 env:Env
 outer:List Env
 stack:List Env
 ex:List Addr
 fn:Str→Bool
 calm:Bool
 pn:List (Addr×Obj)
 xe:Value→Shared→Prop
noncomputable def frs (l:List Env):List Addr:=l.filterMap (·.frame)
noncomputable abbrev Cx.fs (X:Cx):List Addr:=frs X.outer
noncomputable def Vis (sc:Scope) (x:Str):Prop:=sc.names.lookup x=some .local∨sc.names.lookup x=some .cell∨sc.names.lookup x=some .free
noncomputable def Loc (sc:Scope) (x:Str):Prop:=sc.names.lookup x=some .local∨sc.names.lookup x=some .cell
noncomputable def Look (env:Env) (h:Heap) (m:Str→Option Value) (x:Str) (u:Value):Prop:=
 (env.kindOf x=some .local∧m x=some u)∨((env.kindOf x=some .cell∨env.kindOf x=some .free)∧∃ c,env.cells.lookup x=some c∧h.IsCell c (some u))
structure Cx.Ok (X:Cx):Prop where
 mod:Mod X.K X.mg X.base
 kind:X.env.scope.kind=.function
 glob:X.env.globals=mainGlobals
 blt:X.env.builtins=builtinsNs
 above:X.s₀.heap.objs.size≤X.env.locals
 inj:∀ x y c,X.env.cells.lookup x=some c→X.env.cells.lookup y=some c→x=y
 has:∀ x,(X.env.kindOf x=some .cell∨X.env.kindOf x=some .free)→∃ c,X.env.cells.lookup x=some c
 cab:∀ x c,X.fn x=true→X.env.cells.lookup x=some c→X.s₀.heap.objs.size≤c
 hd:X.calm=true→X.A.handled=none
 frames:X.A.frames=some X.stack
 stk:X.stack=X.outer∨(X.stack=X.env::X.outer∧X.env.frame=some X.env.locals)
 exf:∀ b∈X.ex,b≠X.env.locals∧∀ x c,X.env.cells.lookup x=some c→c≠b
 bs:∀ b o,X.base.get? b=some o→X.s₀.heap.get? b=some o∧X.H₀ b=none
 bsz:X.base.objs.size≤X.s₀.heap.objs.size
 noex:∀ b o,X.base.get? b=some o→b∉X.ex
 exfs:∀ b∈X.ex,b∉X.fs
 funs:X.s₀.heap.FunFrames X.base X.outer
 frf:∀ b∈X.fs,X.H₀ b=none
structure Inv (X:Cx) (pins:List (Addr×Obj)) (σ:List (Option V)) (H:Hp) (s:Shared):Prop where
 ok:X.Ok
 os:s.os=X.s₀.os
 bare:AllBare s.gens
 base:Un X.fs X.ex X.H₀ H X.s₀.heap s.heap
 loc:∃ m,s.heap.Ns X.env.locals m∧∀ (i:Nat) (x:Str) (v:V),X.N[i]?=some x→σ[i]?=some (some v)→Vis X.env.scope x→∃ u,RelV v u∧Look X.env s.heap m x u
 cell:∀ x c,X.env.cells.lookup x=some c→∃ v,s.heap.IsCell c v
 free:H X.env.locals=none
 freeC:∀ x c,X.env.cells.lookup x=some c→H c=none
 pin:∀ p∈X.pn++pins,s.heap.get? p.1=some p.2∧H p.1=none∧p.1≠X.env.locals∧p.1∉X.fs∧∀ v,p.2.data≠.cell v
 hok:HOk X.prog X.w H s.heap
 len:σ.length=X.N.length
section
variable {X:Cx}{pins:List (Addr×Obj)}{σ:List (Option V)}{H H':Hp}{s:Shared}{h':Heap}
theorem Cx.Ok.nofr (ok:X.Ok) {b:Addr}{o:Obj} (e:X.base.get? b=some o):b∉X.fs:=fun hb=>by
 have:=(ok.funs.mem hb).1
 rw[e] at this;cases this
theorem Inv.bs (I:Inv X pins σ H s):∀ b o,X.base.get? b=some o→s.heap.get? b=some o∧H b=none:=fun b o e=>
 ⟨I.base.keep b o (I.ok.bs b o e).1 (I.ok.bs b o e).2 (I.ok.nofr e) (I.ok.noex b o e),I.base.free b o (I.ok.bs b o e).1 (I.ok.bs b o e).2 (I.ok.noex b o e)⟩
theorem Inv.bk (I:Inv X pins σ H s):∀ b o,X.base.get? b=some o→s.heap.get? b=some o:=fun b o e=>(I.bs b o e).1
theorem Inv.mod (I:Inv X pins σ H s):Mod X.K X.mg X.base:=I.ok.mod
theorem Inv.kIn (I:Inv X pins σ H s):X.K.In s.heap:=I.ok.mod.kin.keeps I.bk
theorem Inv.lt (I:Inv X pins σ H s):X.env.locals<s.heap.objs.size:=let ⟨_,hn,_⟩:=I.loc;hn.lt
theorem Inv.sz (I:Inv X pins σ H s):X.s₀.heap.objs.size≤s.heap.objs.size:=Nat.le_trans I.ok.above (Nat.le_of_lt I.lt)
theorem Inv.nofs (I:Inv X pins σ H s) {a:Addr} (h:s.heap.objs.size≤a):a∉X.fs:=fun hb=>by
 obtain ⟨_,o,ho,_⟩:=I.ok.funs.mem hb
 exact absurd (Nat.lt_of_lt_of_le (Heap.lt_size ho) (Nat.le_trans I.sz h)) (Nat.lt_irrefl _)
theorem Inv.cne (I:Inv X pins σ H s):∀ x c,X.env.cells.lookup x=some c→c≠X.env.locals:=fun x c e z=>by
 obtain ⟨v,o,ho,hd⟩:=I.cell x c e
 obtain ⟨m,⟨o',es,ep,ho',hd',_⟩,_⟩:=I.loc
 rw[z,ho'] at ho;cases ho;rw[hd'] at hd;cases hd
theorem Inv.funs (I:Inv X pins σ H s):s.heap.FunFrames X.base X.outer:=by
 have all:∀ (l:List Env),(∀ b∈frs l,b∈X.fs)→X.s₀.heap.FunFrames X.base l→s.heap.FunFrames X.base l:=by
  intro l
  induction l with
  | nil=>intro _ _;trivial
  | cons env r ih=>
   intro hs hl
   obtain ⟨hk,⟨L,o,hf,hn,ho,hd⟩,hr⟩:=hl
   have hL:L∈X.fs:=hs L (by unfold frs;rw[List.filterMap_cons,hf];exact List.mem_cons_self)
   obtain ⟨sl,e⟩:=I.base.slot L o ho (I.ok.frf L hL) hL fun z=>I.ok.exfs L z hL
   exact ⟨hk,⟨L,_,hf,hn,e,hd⟩,ih (fun b hb=>hs b (by unfold frs;rw[List.filterMap_cons,hf];exact List.mem_cons_of_mem _ hb)) hr⟩
 exact all X.outer (fun _ hb=>hb) I.ok.funs
theorem Inv.stack (I:Inv X pins σ H s):s.heap.FunFrames X.base X.stack:=by
 rcases I.ok.stk with e|⟨e,hf⟩
 ·rw[e];exact I.funs
 ·rw[e]
  obtain ⟨m,hn,_⟩:=I.loc
  refine .cons (by rw[I.ok.kind];decide) hf hn ?_ I.funs
  exact Heap.get?_none_of_le (Nat.le_trans I.ok.bsz I.ok.above)
theorem Inv.stkSub (I:Inv X pins σ H s):∀ b∈frs X.stack,b∈X.env.locals::X.fs:=fun b hb=>by
 rcases I.ok.stk with e|⟨e,hf⟩
 ·rw[e] at hb;exact List.mem_cons_of_mem _ hb
 ·rw[e] at hb
  unfold frs at hb
  rw[List.filterMap_cons,hf] at hb
  exact hb
theorem Inv.stkFree (I:Inv X pins σ H s):∀ b∈frs X.stack,H b=none:=fun b hb=>by
 rcases List.mem_cons.mp (I.stkSub b hb) with e|hb
 ·rw[e];exact I.free
 ·obtain ⟨_,o,ho,_⟩:=I.ok.funs.mem hb
  exact I.base.free b o ho (I.ok.frf b hb) fun z=>I.ok.exfs b z hb
theorem Inv.step {g':Array GenState}{t':Nat}{d':Drawn}{ch:List Addr} (I:Inv X pins σ H s)
  (hch:∀ b∈ch,(b∈X.ex∨X.s₀.heap.objs.size≤b)∧b≠X.env.locals∧(∀ x c,X.env.cells.lookup x=some c→c≠b)∧∀ p∈X.pn++pins,p.1≠b)
  (keep:∀ b o,b≠X.env.locals→b∉X.fs→b∉ch→s.heap.get? b=some o→H b=none→h'.get? b=some o)
  (slot:∀ b o,b≠X.env.locals→b∈X.fs→b∉ch→s.heap.get? b=some o→H b=none→∃ sl,h'.get? b=some { o with slots:=sl }) (free:∀ b o,b∉ch→s.heap.get? b=some o→H b=none→H' b=none)
  (there:∀ b o,b∉ch→s.heap.get? b=some o→∃ o',h'.get? b=some o')
  (tups:∀ b xs,H b=some (.tup xs)→H' b=some (.tup xs)) (frzs:∀ b o u,H b=some (.frz o u)→H' b=some (.frz o u)) (tbls:∀ b ps,H b=some (.tbl ps)→∃ more,H' b=some (.tbl (ps++more)))
  (ns:∀ m,s.heap.Ns X.env.locals m→h'.Ns X.env.locals m) (hok:HOk X.prog X.w H' h') (hg:AllBare g') :
  Inv X pins σ H' { s with heap:=h',gens:=g',drawn:=d',toks:=t' }:=by
 have neL:∀ b o,X.s₀.heap.get? b=some o→b≠X.env.locals:=fun b o e=>Nat.ne_of_lt (Nat.lt_of_lt_of_le (Heap.lt_size e) I.ok.above)
 have neC:∀ b o,X.s₀.heap.get? b=some o→b∉X.ex→b∉ch:=fun b o e hx hb=>by
  rcases (hch b hb).1 with z|z
  ·exact hx z
  ·exact absurd (Nat.lt_of_lt_of_le (Heap.lt_size e) z) (Nat.lt_irrefl _)
 have cellK:∀ x c,X.env.cells.lookup x=some c→∀ v,s.heap.IsCell c v→h'.IsCell c v:=fun x c e v ⟨o,ho,hd⟩=>by
  have nch:c∉ch:=fun z=>(hch c z).2.2.1 x c e rfl
  by_cases hc:c∈X.fs
  ·obtain ⟨sl,q⟩:=slot c o (I.cne x c e) hc nch ho (I.freeC x c e)
   exact ⟨_,q,hd⟩
  ·exact ⟨o,keep c o (I.cne x c e) hc nch ho (I.freeC x c e),hd⟩
 refine ⟨I.ok,I.os,hg,⟨fun b o e n hb hx=>?_,fun b o e n hb hx=>?_,fun b o e n hx=>?_,fun b o e hx=>?_,fun b xs e=>tups b xs (I.base.tups b xs e),fun b o xs e=>frzs b o xs (I.base.frzs b o xs e),fun b ps e=>?_⟩,?_,fun x c e=>?_,?_,fun x c e=>?_,fun p hp=>?_,hok,I.len⟩
 ·exact keep b o (neL b o e) hb (neC b o e hx) (I.base.keep b o e n hb hx) (I.base.free b o e n hx)
 ·obtain ⟨sl,e1⟩:=I.base.slot b o e n hb hx
  obtain ⟨sl',e2⟩:=slot b _ (neL b o e) hb (neC b o e hx) e1 (I.base.free b o e n hx)
  exact ⟨sl',e2⟩
 ·obtain ⟨o',e1⟩:=I.base.there b o e hx
  exact free b o' (neC b o e hx) e1 (I.base.free b o e n hx)
 ·obtain ⟨o',e1⟩:=I.base.there b o e hx
  exact there b o' (neC b o e hx) e1
 ·obtain ⟨m1,e1⟩:=I.base.tbls b ps e
  obtain ⟨m2,e2⟩:=tbls b _ e1
  exact ⟨m1++m2,by rw[e2,Array.append_assoc]⟩
 ·obtain ⟨m,hn,hl⟩:=I.loc
  refine ⟨m,ns m hn,fun i x v e1 e2 e3=>?_⟩
  obtain ⟨u,r,l⟩:=hl i x v e1 e2 e3
  refine ⟨u,r,?_⟩
  rcases l with l|⟨k,c,e,z⟩
  ·exact .inl l
  ·exact .inr ⟨k,c,e,cellK x c e _ z⟩
 ·obtain ⟨v,z⟩:=I.cell x c e
  exact ⟨v,cellK x c e v z⟩
 ·obtain ⟨m,⟨o,_,_,ho,_⟩,_⟩:=I.loc
  exact free _ o (fun z=>(hch _ z).2.1 rfl) ho I.free
 ·obtain ⟨v,o,ho,hd⟩:=I.cell x c e
  exact free c o (fun z=>(hch c z).2.2.1 x c e rfl) ho (I.freeC x c e)
 ·obtain ⟨e,n,ne,nf,d⟩:=I.pin p hp
  have nch:p.1∉ch:=fun z=>(hch p.1 z).2.2.2 p hp rfl
  exact ⟨keep p.1 p.2 ne nf nch e n,free p.1 p.2 nch e n,ne,nf,d⟩
theorem Inv.un {t':Nat} (I:Inv X pins σ H s) (u:Un X.fs [] H H' s.heap h') (hok:HOk X.prog X.w H' h'):Inv X pins σ H' { s with heap:=h',toks:=t' }:=by
 obtain ⟨m,⟨o,es,ep,ho,r⟩,_⟩:=id I.loc
 obtain ⟨sl,hL⟩:=u.any ho I.free (by simp)
 exact I.step (g':=s.gens) (d':=s.drawn) (ch:=[]) (fun _ z=>nomatch z) (fun b o _ hb _ e n=>u.keep b o e n hb (by simp)) (fun b o _ hb _ e n=>u.slot b o e n hb (by simp)) (fun b o _ e n=>u.free b o e n (by simp)) (fun b o _ e=>u.there b o e (by simp)) u.tups u.frzs u.tbls (fun m' hm=>by
  obtain ⟨o',es',ep',ho',r'⟩:=hm
  rw[ho] at ho';cases ho'
  exact ⟨_,es',ep',hL,r'⟩) hok I.bare
theorem Inv.call {g':Array GenState}{t':Nat}{d':Drawn}{ch:List Addr} (I:Inv X pins σ H s) (u:Un (frs X.stack) ch H H' s.heap h') (hok:HOk X.prog X.w H' h') (hg:AllBare g')
  (hch:∀ b∈ch,(b∈X.ex∨X.s₀.heap.objs.size≤b)∧b≠X.env.locals∧(∀ x c,X.env.cells.lookup x=some c→c≠b)∧∀ p∈X.pn++pins,p.1≠b) :
  Inv X pins σ H' { s with heap:=h',gens:=g',drawn:=d',toks:=t' }:=by
 obtain ⟨m,⟨o,es,ep,ho,r⟩,_⟩:=id I.loc
 obtain ⟨sl,hL⟩:=u.any ho I.free fun z=>(hch _ z).2.1 rfl
 exact I.step (ch:=ch) hch (fun b o hL hb hc e n=>u.keep b o e n (fun z=>(List.mem_cons.mp (I.stkSub b z)).elim hL hb) hc) (fun b o _ _ hc e n=>u.any e n hc) (fun b o hc e n=>u.free b o e n hc) (fun b o hc e=>u.there b o e hc) u.tups u.frzs u.tbls (fun m' hm=>by
  obtain ⟨o',es',ep',ho',r'⟩:=hm
  rw[ho] at ho';cases ho'
  exact ⟨_,es',ep',hL,r'⟩) hok hg
theorem Inv.turned {t':Nat}{it:Addr} (I:Inv X pins σ H s) (k:∀ b o,b≠it→s.heap.get? b=some o→h'.get? b=some o) (hn:H it=none) (hL:it≠X.env.locals)
  (h1:it∈X.ex∨X.s₀.heap.objs.size≤it) (h2:∀ x c,X.env.cells.lookup x=some c→c≠it) (h3:∀ p∈X.pn++pins,p.1≠it):Inv X pins σ H { s with heap:=h',toks:=t' }:=by
 have nit:∀ b u,H b=some u→b≠it:=fun b u e z=>by rw[z,hn] at e;cases e
 refine I.step (g':=s.gens) (d':=s.drawn) (ch:=[it]) (fun b hb=>?_) (fun b o _ _ hc e _=>k b o (fun z=>hc (by simp[z])) e) (fun b o _ _ hc e _=>⟨o.slots,k b o (fun z=>hc (by simp[z])) e⟩) (fun _ _ _ _ n=>n)
  (fun b o hc e=>⟨o,k b o (fun z=>hc (by simp[z])) e⟩) (fun _ _ e=>e) (fun _ _ _ e=>e) (fun b ps e=>⟨#[],by rw[e];simp⟩) (fun m hm=>?_) (fun b u e=>?_) I.bare
 ·have e:b=it:=by simpa using hb
  subst e
  exact ⟨h1,hL,h2,h3⟩
 ·obtain ⟨o,es,ep,ho,r⟩:=hm
  exact ⟨o,es,ep,k _ o (Ne.symm hL) ho,r⟩
 ·refine (I.hok b u e).stay (fun c v hc q=>k c v ?_ q) (fun _ q=>q) fun _ _ q=>q
  rcases hc with z|z
  ·rw[z];exact nit b u e
  ·exact nit c _ z
theorem Inv.tok (I:Inv X pins σ H s) (t:Nat):Inv X pins σ H { s with toks:=t }:=I.un (h':=s.heap) (t':=t) Un.refl I.hok
theorem Inv.kept {t':Nat} (I:Inv X pins σ H s) (k:∀ b u,s.heap.get? b=some u→h'.get? b=some u):Inv X pins σ H { s with heap:=h',toks:=t' }:=I.un (Un.kept k) (I.hok.kept k)
theorem Inv.laid {a:Addr}{o:HO}{t':Nat} (I:Inv X pins σ H s) (k:∀ b u,s.heap.get? b=some u→h'.get? b=some u) (hp:s.heap.objs.size≤a) (new:ybq X.prog X.w (upd H a o) h' a o) :
  Inv X pins σ (upd H a o) { s with heap:=h',toks:=t' }:=I.un (Un.laid k hp (I.hok.fresh hp)) (I.hok.laid k hp new)
theorem Inv.write {x e:Addr}{o:HO}{t':Nat} (I:Inv X pins σ H s) (mu:Mut (H x)) (he:e=x∨H e=some (.own x)) (k:∀ b u,b≠e→s.heap.get? b=some u→h'.get? b=some u) (heo:∃ u,h'.get? e=some u)
  (new:ybq X.prog X.w (upd H x o) h' x o):Inv X pins σ (upd H x o) { s with heap:=h',toks:=t' }:=I.un (Un.write mu he k heo) (I.hok.write mu he k heo new)
theorem Inv.weak {σ':List (Option V)} (I:Inv X pins σ H s) (hl:σ'.length=σ.length) (w:∀ (i:Nat) v,σ'[i]?=some (some v)→σ[i]?=some (some v)):Inv X pins σ' H s:=
 ⟨I.ok,I.os,I.bare,I.base,let ⟨m,hn,hl'⟩:=I.loc;⟨m,hn,fun i x v e1 e2 e3=>hl' i x v e1 (w i v e2) e3⟩,I.cell,I.free,I.freeC,I.pin,I.hok,hl.trans I.len⟩
theorem Inv.pins_of {pins':List (Addr×Obj)} (I:Inv X pins σ H s) (h:∀ p∈pins',s.heap.get? p.1=some p.2∧H p.1=none∧p.1≠X.env.locals∧p.1∉X.fs∧∀ v,p.2.data≠.cell v):Inv X pins' σ H s:=
 ⟨I.ok,I.os,I.bare,I.base,I.loc,I.cell,I.free,I.freeC,fun p hp=>(List.mem_append.mp hp).elim (fun z=>I.pin p (List.mem_append_left _ z)) (h p),I.hok,I.len⟩
theorem yhf {N:List Str} (hN:N.Nodup) {i j:Nat}{x:Str} (a:N[i]?=some x) (b:N[j]?=some x):i=j:=by
 obtain ⟨h1,e1⟩:=List.getElem?_eq_some_iff.mp a
 obtain ⟨h2,e2⟩:=List.getElem?_eq_some_iff.mp b
 exact (List.getElem_inj hN).mp (e1.trans e2.symm)
theorem yif {M:Model}{A:Around}{E:Value→Shared→Prop}{i:Nat}{x:Str}{v:V}{u:Value}{Q:Unit→Shared→Prop} (I:Inv X pins σ H s) (hN:X.N.Nodup) (hi:X.N[i]?=some x) (hx:Loc X.env.scope x) (r:RelV v u)
  (h:∀ s',Inv X pins (σ.set i (some v)) H s'→(∃ a,Heap.SameBut a s.heap s'.heap∧(a=X.env.locals∨X.env.cells.lookup x=some a))→Q () s') (hf:X.fn x=true∨X.env.scope.names.lookup x=some .local:=by first|exact .inl rfl|exact .inr rfl|assumption):wpAny M A (storeName X.env x u) Q E s:=by
 obtain ⟨m,hn,hl⟩:=id I.loc
 have hcls:(X.env.scope.kind == .class||(X.env.scope.kind == .module&&X.env.locals != X.env.globals))=false:=by rw[I.ok.kind];rfl
 have hiσ:i<σ.length:=by rw[I.len];exact (List.getElem?_eq_some_iff.mp hi).1
 have cne:=I.cne
 have tracked:∀ {a:Addr}{h':Heap},(∃ o,s.heap.get? a=some o∧H a=none)→Heap.SameBut a s.heap h'→HOk X.prog X.w H h':=fun {a h'} ha hs b ob e=>by
  obtain ⟨_,_,hfree⟩:=ha
  refine (I.hok b ob e).stay (fun c w' hc q=>(hs.2 c ?_).trans q) (fun _ q=>q) fun _ _ q=>q
  rintro rfl
  rcases hc with rfl|hc
  ·rw[hfree] at e;cases e
  ·rw[hfree] at hc;cases hc
 rcases hx with hk|hk
 ·refine wpAny_storeName_local hk hn (fun h' hn' hs=>?_) hcls
  obtain ⟨oL,_,_,hoL,_⟩:=id hn
  refine h _ ⟨I.ok,I.os,I.bare,⟨fun b o e n hb hx=>?_,fun b o e n hb hx=>?_,I.base.free,fun b o e hx=>?_,I.base.tups,I.base.frzs,I.base.tbls⟩,⟨_,hn',fun j y v' e1 e2 e3=>?_⟩,fun y c e=>?_,I.free,I.freeC,fun p hp=>?_,tracked ⟨oL,hoL,I.free⟩ hs,by simpa using I.len⟩ ⟨_,hs,.inl rfl⟩
  ·exact (hs.2 b (Nat.ne_of_lt (Nat.lt_of_lt_of_le (Heap.lt_size e) I.ok.above))).trans (I.base.keep b o e n hb hx)
  ·obtain ⟨sl,e1⟩:=I.base.slot b o e n hb hx
   exact ⟨sl,(hs.2 b (Nat.ne_of_lt (Nat.lt_of_lt_of_le (Heap.lt_size e) I.ok.above))).trans e1⟩
  ·obtain ⟨o',e1⟩:=I.base.there b o e hx
   exact ⟨o',(hs.2 b (Nat.ne_of_lt (Nat.lt_of_lt_of_le (Heap.lt_size e) I.ok.above))).trans e1⟩
  ·by_cases hj:j=i
   ·subst hj
    rw[hi] at e1;cases e1
    rw[List.getElem?_set_self hiσ] at e2
    cases e2
    exact ⟨u,r,.inl ⟨hk,by simp⟩⟩
   ·rw[List.getElem?_set_ne (Ne.symm hj)] at e2
    obtain ⟨u',r',q⟩:=hl j y v' e1 e2 e3
    refine ⟨u',r',?_⟩
    rcases q with ⟨k,e⟩|⟨k,c,e,z⟩
    ·refine .inl ⟨k,?_⟩
     have:y≠x:=fun e=>hj (yhf hN e1 (e ▸ hi))
     simp[this,e]
    ·exact .inr ⟨k,c,e,z.sameBut hs (cne y c e)⟩
  ·obtain ⟨w',z⟩:=I.cell y c e
   exact ⟨w',z.sameBut hs (cne y c e)⟩
  ·obtain ⟨e,n,ne,nf,d⟩:=I.pin p hp
   exact ⟨(hs.2 p.1 ne).trans e,n,ne,nf,d⟩
 ·have hfn:X.fn x=true:=by
   rcases hf with z|z
   ·exact z
   ·rw[z] at hk;cases hk
  obtain ⟨c,hc⟩:=I.ok.has x (.inl hk)
  obtain ⟨w',z⟩:=I.cell x c hc
  refine wpAny_storeName_cell I.ok.kind hk hc z (fun h' hc' hs=>?_)
  obtain ⟨oc,hoc,hocd⟩:=id z
  refine h { s with heap:=h' } ⟨I.ok,I.os,I.bare,⟨fun b o e n hb hx=>?_,fun b o e n hb hx=>?_,I.base.free,fun b o e hx=>?_,I.base.tups,I.base.frzs,I.base.tbls⟩,⟨m,hn.sameBut hs (Ne.symm (cne x c hc)),fun j y v' e1 e2 e3=>?_⟩,fun y c' e=>?_,I.free,I.freeC,fun p hp=>?_,tracked ⟨oc,hoc,I.freeC x c hc⟩ hs,by simpa using I.len⟩ ⟨c,hs,.inr hc⟩
  ·exact (hs.2 b (Nat.ne_of_lt (Nat.lt_of_lt_of_le (Heap.lt_size e) (I.ok.cab x c hfn hc)))).trans (I.base.keep b o e n hb hx)
  ·obtain ⟨sl,e1⟩:=I.base.slot b o e n hb hx
   exact ⟨sl,(hs.2 b (Nat.ne_of_lt (Nat.lt_of_lt_of_le (Heap.lt_size e) (I.ok.cab x c hfn hc)))).trans e1⟩
  ·obtain ⟨o',e1⟩:=I.base.there b o e hx
   exact ⟨o',(hs.2 b (Nat.ne_of_lt (Nat.lt_of_lt_of_le (Heap.lt_size e) (I.ok.cab x c hfn hc)))).trans e1⟩
  ·by_cases hj:j=i
   ·subst hj
    rw[hi] at e1;cases e1
    rw[List.getElem?_set_self hiσ] at e2
    cases e2
    exact ⟨u,r,.inr ⟨.inl hk,c,hc,hc'⟩⟩
   ·rw[List.getElem?_set_ne (Ne.symm hj)] at e2
    obtain ⟨u',r',q⟩:=hl j y v' e1 e2 e3
    refine ⟨u',r',?_⟩
    rcases q with q|⟨k,c',e,z'⟩
    ·exact .inl q
    ·refine .inr ⟨k,c',e,z'.sameBut hs ?_⟩
     rintro rfl
     exact hj (yhf hN e1 (I.ok.inj _ _ _ e hc ▸ hi))
  ·by_cases hcc:c'=c
   ·subst hcc;exact ⟨_,hc'⟩
   ·obtain ⟨w2,z2⟩:=I.cell y c' e
    exact ⟨w2,z2.sameBut hs hcc⟩
  ·obtain ⟨e,n,ne,nf,d⟩:=I.pin p hp
   refine ⟨(hs.2 p.1 ?_).trans e,n,ne,nf,d⟩
   intro q
   rw[q,hoc] at e
   have q':oc=p.2:=Option.some.inj e
   exact d w' (by rw[← q'];exact hocd)
theorem qft {M:Model}{A:Around}{E:Value→Shared→Prop}{i:Nat}{x:Str}{v:V}{u:Value}{Q:Unit→Shared→Prop} (I:Inv X pins σ H s) (hN:X.N.Nodup) (hi:X.N[i]?=some x) (hx:Loc X.env.scope x) (r:RelV v u)
  (h:∀ s',Inv X pins (σ.set i (some v)) H s'→Q () s') (hf:X.fn x=true∨X.env.scope.names.lookup x=some .local:=by first|exact .inl rfl|exact .inr rfl|assumption):wpAny M A (storeName X.env x u) Q E s:=
 yif I hN hi hx r (fun s' I' _=>h s' I') hf
theorem Inv.call' {s':Shared}{ch:List Addr} (I:Inv X pins σ H s) (ho:s'.os=s.os) (u:Un (frs X.stack) ch H H' s.heap s'.heap) (hok:HOk X.prog X.w H' s'.heap) (hg:AllBare s'.gens)
  (hch:∀ b∈ch,(b∈X.ex∨X.s₀.heap.objs.size≤b)∧b≠X.env.locals∧(∀ x c,X.env.cells.lookup x=some c→c≠b)∧∀ p∈X.pn++pins,p.1≠b):Inv X pins σ H' s':=by
 obtain ⟨h',g',d',t',o'⟩:=s'
 have e:o'=s.os:=ho
 subst e
 exact I.call (g':=g') (t':=t') (d':=d') u hok hg hch
end
noncomputable abbrev XK:=Value→Option Addr→Hp→Prop
noncomputable abbrev St:=List (Option V)
noncomputable abbrev VK:=V→Hp→Prop
noncomputable abbrev TE:=St→Hp→VK→Prop
noncomputable abbrev TT:=St→Hp→(Bool→Hp→Prop)→Prop
noncomputable abbrev TA:=St→Hp→(List V→Hp→Prop)→Prop
structure Ends where
 nx:St→Hp→Prop
 rt:VK
 bk:St→Hp→Prop:=fun _ _=>False
 ct:St→Hp→Prop:=fun _ _=>False
noncomputable abbrev TS:=Ends→St→Hp→Prop
noncomputable def EP (X:Cx) (pins:List (Addr×Obj)) (σ:St) (Q:VK) (u:Value) (s':Shared):Prop:=∃ v H',Inv X pins σ H' s'∧RelV v u∧Q v H'
noncomputable def TP (X:Cx) (pins:List (Addr×Obj)) (σ:St) (Q:Bool→Hp→Prop) (b:Bool) (s':Shared):Prop:=∃ H',Inv X pins σ H' s'∧Q b H'
noncomputable def AP (X:Cx) (pins:List (Addr×Obj)) (σ:St) (Q:List V→Hp→Prop) (us:List Value) (s':Shared):Prop:=∃ vs H',Inv X pins σ H' s'∧Vals vs us∧Q vs H'
noncomputable def SP (X:Cx) (pins:List (Addr×Obj)) (D:Ends) (f:Flow) (s':Shared):Prop:=
 match f with
 | .next=>∃ σ' H',Inv X pins σ' H' s'∧D.nx σ' H'
 | .brk=>∃ σ' H',Inv X pins σ' H' s'∧D.bk σ' H'
 | .cont=>∃ σ' H',Inv X pins σ' H' s'∧D.ct σ' H'
 | .ret u=>∃ v σ' H',Inv X pins σ' H' s'∧RelV v u∧D.rt v H'
noncomputable def PE (X:Cx) (e:Expr) (t:TE):Prop:=
 ∀ (pins:List (Addr×Obj)) (s:Shared) (σ:St) (H:Hp) (Q:VK),Inv X pins σ H s→t σ H Q→wpAny (model X.prog X.w) X.A (eval e X.env) (EP X pins σ Q) X.xe s
noncomputable def PT (X:Cx) (e:Expr) (t:TT):Prop:=
 ∀ (pins:List (Addr×Obj)) (s:Shared) (σ:St) (H:Hp) (Q:Bool→Hp→Prop),Inv X pins σ H s→t σ H Q→wpAny (model X.prog X.w) X.A (isTrue e X.env (eval e X.env)) (TP X pins σ Q) X.xe s
noncomputable def PW (X:Cx) (e:Expr) (t:TT):Prop:=
 ∀ (whole:Sem Value) (pins:List (Addr×Obj)) (s:Shared) (σ:St) (H:Hp) (Q:Bool→Hp→Prop),Inv X pins σ H s→t σ H Q→wpAny (model X.prog X.w) X.A (isTrue e X.env whole) (TP X pins σ Q) X.xe s
theorem PW.pt {X:Cx}{e:Expr}{t:TT} (h:PW X e t):PT X e t:=h _
noncomputable def PA (X:Cx) (es:List Expr) (t:TA):Prop:=
 ∀ (pos:Pos) (pins:List (Addr×Obj)) (s:Shared) (σ:St) (H:Hp) (Q:List V→Hp→Prop),Inv X pins σ H s→t σ H Q→wpAny (model X.prog X.w) X.A (spliced (backTo pos (starEach es X.env))) (AP X pins σ Q) X.xe s
noncomputable def PS (X:Cx) (st:Stmt) (t:TS):Prop:=
 ∀ (pins:List (Addr×Obj)) (s:Shared) (σ:St) (H:Hp) (D:Ends),Inv X pins σ H s→t D σ H→wpAny (model X.prog X.w) X.A (exec st X.env) (SP X pins D) X.xe s
noncomputable def PSs (X:Cx) (st:List Stmt) (t:TS):Prop:=
 ∀ (pins:List (Addr×Obj)) (s:Shared) (σ:St) (H:Hp) (D:Ends),Inv X pins σ H s→t D σ H→wpAny (model X.prog X.w) X.A (execs st X.env) (SP X pins D) X.xe s
theorem thn {α:Type}{t:Sem α}{Q Q':α→Shared→Prop}{M:Model}{A:Around}{E:Value→Shared→Prop}{s:Shared} (h:wpAny M A t Q E s) (hQ:∀ a s,Q a s→Q' a s):wpAny M A t Q' E s:=wpAny_mono h hQ fun _ _ x=>x
section
variable {X:Cx}
noncomputable def tVar (i:Nat):TE:=fun σ H Q=>∃ v,σ[i]?=some (some v)∧Q v H
noncomputable def tC (v:V):TE:=fun _ H Q=>Q v H
theorem pe_var {i:Nat}{x:Str}{pos:Pos} (hN:X.N[i]?=some x) (hv:Vis X.env.scope x) (hd:(x == ("__debug__" : Str))=false:=by decide) (hcd:(x == ("__classdict__" : Str))=false:=by decide):PE X (.Name x pos) (tVar i):=by
 intro pins s σ H Q I h
 obtain ⟨v,e,h⟩:=h
 obtain ⟨m,hn,hl⟩:=I.loc
 obtain ⟨u,r,l⟩:=hl i x v hN e hv
 have fin:EP X pins σ Q u s:=⟨v,H,I,r,h⟩
 rcases l with ⟨hk,hm⟩|⟨hk,c,hc,hcell⟩
 ·exact wpAny_Name (wpAny_loadName_local I.ok.kind hk hn hm fin) hd
 ·rcases hk with hk|hk
  ·exact wpAny_Name (wpAny_loadName_cell I.ok.kind hk hc hcell fin) hd
  ·exact wpAny_Name (wpAny_loadName_free I.ok.kind hk hc hcell fin hcd) hd
theorem qac {i j pos}:PE X (.Constant (.int i) j pos) (tC (.int i)):=fun _ _ _ H _ I h=>wpAny_Constant_int ⟨.int i,H,I.tok _,⟨_,rfl⟩,h⟩
theorem qgu {b j pos}:PE X (.Constant (.bool b) j pos) (tC (.bl b)):=fun _ _ _ H _ I h=>Constant_bool ⟨.bl b,H,I,rfl,h⟩
theorem yb6 {j pos}:PE X (.Constant .none j pos) (tC .non):=fun _ _ _ H _ I h=>Constant_none ⟨.non,H,I,rfl,h⟩
theorem yaj {x j pos}:PE X (.Constant (.str x) j pos) (tC (.str x)):=fun _ _ _ H _ I h=>Calls.Constant_str ⟨.str x,H,I.tok _,⟨_,rfl⟩,h⟩
noncomputable def Gl (X:Cx) (x:Str):Prop:=X.env.kindOf x=some .globalImplicit
theorem yd8 {E:Value→Shared→Prop}{pins:List (Addr×Obj)}{s:Shared}{σ:St}{H:Hp}{x:Str}{u:Value}{pos:Pos}{Q:Value→Shared→Prop} (I:Inv X pins σ H s) (hg:Gl X x) (hm:X.mg x=some u) (h:Q u s)
  (hd:(x == ("__debug__" : Str))=false:=by decide):wpAny (model X.prog X.w) X.A (eval (.Name x pos) X.env) Q E s:=
 Calls.Name_function_global I.ok.kind hg (Calls.loadGlobal_global (by rw[I.ok.glob];exact I.mod.glob.keeps I.bk) hm h) hd
theorem qg0 {E:Value→Shared→Prop}{pins:List (Addr×Obj)}{s:Shared}{σ:St}{H:Hp}{x:Str}{u:Value}{pos:Pos}{Q:Value→Shared→Prop} (I:Inv X pins σ H s) (hg:Gl X x) (hm:X.mg x=none) (hv:bootBuiltins x=some u) (h:Q u s)
  (hn:x≠"__name__":=by decide) (hd:(x == ("__debug__" : Str))=false:=by decide):wpAny (model X.prog X.w) X.A (eval (.Name x pos) X.env) Q E s:=by
 obtain ⟨mb,h1,h2⟩:=I.mod.blt
 exact Calls.Name_function_global I.ok.kind hg (Calls.loadGlobal_builtin (by rw[I.ok.glob];exact I.mod.glob.keeps I.bk) hm (by rw[I.ok.blt];exact h1.keeps I.bk) ((h2 x hn).trans hv) h) hd
theorem ya1 {x:Str}{v:V}{u:Value}{pos:Pos} (hg:Gl X x) (hm:X.mg x=some u) (r:RelV v u) (hd:(x == ("__debug__" : Str))=false:=by decide):PE X (.Name x pos) (tC v):=
 fun _ _ _ H _ I h=>yd8 I hg hm ⟨v,H,I,r,h⟩ hd
theorem qbb {x:Str}{v:V}{u:Value}{pos:Pos} (hg:Gl X x) (hm:X.mg x=none) (hv:bootBuiltins x=some u) (r:RelV v u) (hn:x≠"__name__":=by decide) (hd:(x == ("__debug__" : Str))=false:=by decide):PE X (.Name x pos) (tC v):=
 fun _ _ _ H _ I h=>qg0 I hg hm hv ⟨v,H,I,r,h⟩ hn hd
variable {a b:Expr}{ta tb:TE}{pos:Pos}
noncomputable def PC (X:Cx) (op:CmpOp) (a b:Expr) (t:TE):Prop:=
 ∀ (pins:List (Addr×Obj)) (s:Shared) (σ:St) (H:Hp) (Q:VK),Inv X pins σ H s→t σ H Q→
  wpAny (model X.prog X.w) X.A (eval a X.env) (fun v s₁=>wpAny (model X.prog X.w) X.A (eval b X.env) (fun u s₂=>wpAny (model X.prog X.w) X.A (compareOp op v u) (EP X pins σ Q) X.xe s₂) X.xe s₁) X.xe s
theorem nobehind (b:Expr) {op:CmpOp} (h:op≠.In) (h2:op≠.NotIn):behindInMarks op b=false:=by
 have e1:(op == CmpOp.In)=false:=by cases op<;>first|rfl|exact absurd rfl h
 have e2:(op == CmpOp.NotIn)=false:=by cases op<;>first|rfl|exact absurd rfl h2
 cases b<;>simp[behindInMarks,e1,e2]
noncomputable def tIsN (ta:TE):TE:=fun σ H Q=>ta σ H fun x H1=>Q (.bl (decide (x=.non))) H1
noncomputable def tNotN (ta:TE):TE:=fun σ H Q=>ta σ H fun x H1=>Q (.bl (!decide (x=.non))) H1
theorem RelV.none_iff {x:V}{v:Value} (r:RelV x v):(v == Value.none)=decide (x=.non):=by
 cases x with
 | non=>cases r;rfl
 | bl _=>cases r;rfl
 | int _=>obtain ⟨t,rfl⟩:=r;rfl
 | str _=>obtain ⟨t,rfl⟩:=r;rfl
 | byt _=>obtain ⟨t,rfl⟩:=r;rfl
 | flt _=>obtain ⟨t,rfl⟩:=r;rfl
 | ref _=>cases r;rfl
 | ty _=>cases r;rfl
theorem pc_isN {j pos'} (ha:PE X a ta):PC X .Is a (.Constant .none j pos') (tIsN ta):=by
 intro pins s σ H Q I h
 refine thn (ha pins s σ H _ I h) fun v s1 ⟨x,H1,I1,r1,q1⟩=>?_
 exact Constant_none (is_none_gen ⟨.bl _,H1,I1,by rw[r1.none_iff];rfl,q1⟩)
theorem yja {j pos'} (ha:PE X a ta):PC X .IsNot a (.Constant .none j pos') (tNotN ta):=by
 intro pins s σ H Q I h
 refine thn (ha pins s σ H _ I h) fun v s1 ⟨x,H1,I1,r1,q1⟩=>?_
 exact Constant_none (isnot_none_gen ⟨.bl _,H1,I1,by rw[r1.none_iff];rfl,q1⟩)
noncomputable def tB (t:TE):TT:=fun σ H Q=>t σ H fun x H1=>∃ c,x=.bl c∧Q c H1
theorem yh5 {op:CmpOp}{t:TE} (h:PC X op a b t) (h1:behindInMarks op b=false:=by first|exact nobehind _ (by decide) (by decide)|rfl):PT X (.Compare a [op] [b] pos) (tB t):=by
 intro pins s σ H Q I hw
 refine wpAny_isTrue_Compare1 (thn (h pins s σ H _ I hw) fun v s1 h1=>thn h1 fun u s2 h2=>thn h2 fun c s3 ⟨x,H1,I1,r1,q1⟩=>?_) h1
 obtain ⟨d,rfl,q⟩:=q1
 cases r1
 exact wpAny_truthy_bool ⟨H1,I1,q⟩
theorem qco {e:Expr}{t:TE} (h:PE X e t) (he:∀ whole,isTrue e X.env whole=(do let v ← whole;standAt e.pos;holding [v] (truthy v)):=by intro _;rfl):PT X e (tB t):=by
 intro pins s σ H Q I hw
 refine isTrue_plain (thn (h pins s σ H _ I hw) fun v s1 ⟨x,H1,I1,r1,q1⟩=>?_) (he _)
 obtain ⟨d,rfl,q⟩:=q1
 cases r1
 exact wpAny_truthy_bool ⟨H1,I1,q⟩
variable {tA tB':TT}{rest:List Expr}
noncomputable def tAnd (t u:TT):TT:=fun σ H Q=>t σ H fun c H1=>if c=true then u σ H1 Q else Q false H1
noncomputable def tOr (t u:TT):TT:=fun σ H Q=>t σ H fun c H1=>if c=true then Q true H1 else u σ H1 Q
noncomputable def tNot (t:TT):TT:=fun σ H Q=>t σ H fun c H1=>Q (!c) H1
theorem qci (ha:PT X a tA):PW X (.BoolOp .And [a] pos) tA:=by
 intro wh pins s σ H Q I h
 refine isTrue_and (thn (ha pins s σ H Q I h) fun c s1 e=>?_)
 cases c with
 | true=>exact isTrue_and_nil e
 | false=>exact e
theorem qg6 (ha:PT X a tA):PW X (.BoolOp .Or [a] pos) tA:=by
 intro wh pins s σ H Q I h
 refine isTrue_or (thn (ha pins s σ H Q I h) fun c s1 e=>?_)
 cases c with
 | false=>exact isTrue_or_nil e
 | true=>exact e
theorem qcm (ha:PT X a tA) (hb:PW X (.BoolOp .And (b::rest) pos) tB'):PW X (.BoolOp .And (a::b::rest) pos) (tAnd tA tB'):=by
 intro wh pins s σ H Q I h
 refine isTrue_and (thn (ha pins s σ H _ I h) fun c s1 ⟨H1,I1,q1⟩=>?_)
 cases c with
 | true=>exact hb wh pins s1 σ H1 Q I1 q1
 | false=>exact ⟨H1,I1,q1⟩
theorem qka (ha:PT X a tA) (hb:PW X (.BoolOp .Or (b::rest) pos) tB'):PW X (.BoolOp .Or (a::b::rest) pos) (tOr tA tB'):=by
 intro wh pins s σ H Q I h
 refine isTrue_or (thn (ha pins s σ H _ I h) fun c s1 ⟨H1,I1,q1⟩=>?_)
 cases c with
 | true=>exact ⟨H1,I1,q1⟩
 | false=>exact hb wh pins s1 σ H1 Q I1 q1
theorem qde (ha:PT X a tA):PT X (.UnaryOp .Not a pos) (tNot tA):=by
 intro pins s σ H Q I h
 exact isTrue_not (ha pins s σ H (fun c H1=>Q (!c) H1) I h)
noncomputable def tAndV (ta tb:TE):TE:=fun σ H Q=>ta σ H fun x H1=>∃ c,x=.bl c∧if c=true then tb σ H1 Q else Q (.bl false) H1
noncomputable def tNotV (ta:TE):TE:=fun σ H Q=>ta σ H fun x H1=>∃ c,x=.bl c∧Q (.bl (!c)) H1
theorem qbn {op}{t:TE} (h:PE X a t):PE X (.BoolOp op [a] pos) t:=fun pins s σ H Q I hw=>BoolOp_one (h pins s σ H Q I hw)
theorem qax (ha:PE X a ta) (hb:PE X (.BoolOp .And (b::rest) pos) tb):PE X (.BoolOp .And (a::b::rest) pos) (tAndV ta tb):=by
 intro pins s σ H Q I h
 refine BoolOp_and (thn (ha pins s σ H _ I h) fun v s1 ⟨x,H1,I1,r1,q1⟩=>?_)
 obtain ⟨c,rfl,q1⟩:=q1
 cases r1
 refine wpAny_truthy_bool ?_
 cases c with
 | true=>exact hb pins s1 σ H1 Q I1 q1
 | false=>exact ⟨.bl false,H1,I1,rfl,q1⟩
theorem pe_not (ha:PE X a ta):PE X (.UnaryOp .Not a pos) (tNotV ta):=by
 intro pins s σ H Q I h
 refine UnaryOp_ (thn (ha pins s σ H _ I h) fun v s1 ⟨x,H1,I1,r1,q1⟩=>?_)
 obtain ⟨c,rfl,q1⟩:=q1
 cases r1
 exact not_of (wpAny_truthy_bool ⟨.bl (!c),H1,I1,rfl,q1⟩)
noncomputable def tIf (t:TT) (ta tb:TE):TE:=fun σ H Q=>t σ H fun c H1=>if c=true then ta σ H1 Q else tb σ H1 Q
theorem yeu {c:Expr} (hc:PT X c tA) (ha:PE X a ta) (hb:PE X b tb):PE X (.IfExp c a b pos) (tIf tA ta tb):=by
 intro pins s σ H Q I h
 refine wpAny_IfExp (thn (hc pins s σ H _ I h) fun d s1 ⟨H1,I1,q1⟩=>?_)
 cases d with
 | true=>exact ha pins s1 σ H1 Q I1 q1
 | false=>exact hb pins s1 σ H1 Q I1 q1
end
noncomputable def SqL (K:PySem.W.Frag) (H:Hp) (a:Addr) (xs:List V):Prop:=
 Rd H a (.lst xs)∨
  ∃ (o:Obj) (its:Array Value) (n:Nat),K.lookup a=some o∧o.cls=.type "list"∧o.dict=none∧o.data=.seq its n∧its.size≤sizeLine∧Vals xs its.toList
noncomputable def SqT (K:PySem.W.Frag) (H:Hp) (a:Addr) (xs:List V):Prop:=
 Rd H a (.tup xs)∨
  ∃ (o:Obj) (its:Array Value) (n:Nat),K.lookup a=some o∧o.cls=.type "tuple"∧o.data=.seq its n∧its.size≤sizeLine∧Vals xs its.toList
noncomputable def absV:Value→Option V
 | .none=>some .non
 | .bool b=>some (.bl b)
 | .int i _=>some (.int i)
 | .str x _=>some (.str x)
 | .bytes b _=>some (.byt b)
 | .float b _=>some (.flt b)
 | .ref a=>some (.ref a)
 | .type n=>some (.ty n)
 | _=>none
theorem RelV.abs {x:V}{u:Value} (r:RelV x u):absV u=some x:=by
 cases x with
 | non=>cases r;rfl
 | bl _=>cases r;rfl
 | int _=>obtain ⟨t,rfl⟩:=r;rfl
 | str _=>obtain ⟨t,rfl⟩:=r;rfl
 | byt _=>obtain ⟨t,rfl⟩:=r;rfl
 | flt _=>obtain ⟨t,rfl⟩:=r;rfl
 | ref _=>cases r;rfl
 | ty _=>cases r;rfl
theorem RelV.inj {x y:V}{u:Value} (r:RelV x u) (q:RelV y u):x=y:=Option.some.inj (r.abs.symm.trans q.abs)
theorem Vals.inj:∀ {xs ys:List V}{us:List Value},Vals xs us→Vals ys us→xs=ys
 | _,_,_,.nil,.nil=>rfl
 | _,_,_,.cons r t,.cons r' t'=>by rw[r.inj r',Vals.inj t t']
section
variable {X:Cx}{pins:List (Addr×Obj)}{σ:St}{H:Hp}{s:Shared}{a:Addr}{xs ys:List V}
theorem SqL.of {K:PySem.W.Frag} (h:H a=some (.lst xs)):SqL K H a xs:=.inl (.inl h)
theorem SqT.of {K:PySem.W.Frag} (h:H a=some (.tup xs)):SqT K H a xs:=.inl (.inl h)
theorem Inv.list (I:Inv X pins σ H s) (h:SqL X.K H a xs):∃ its:List Value,Vals xs its∧PlainL s.heap a its.toArray∧xs.length≤sizeLine:=by
 rcases h with h|⟨o,its,n,hk,hc,hd,hs,hz,r⟩
 ·obtain ⟨z,its,n,r,e⟩:=h.ok I.hok
  exact ⟨its,r,⟨_,n,e,rfl,rfl,rfl⟩,z⟩
 ·refine ⟨its.toList,r,⟨o,n,I.kIn a o hk,hc,hd,by simpa using hs⟩,?_⟩
  have e:=r.length
  simp only[Array.length_toList] at e
  omega
theorem Inv.tuple (I:Inv X pins σ H s) (h:SqT X.K H a xs):∃ its:List Value,Vals xs its∧IsTup s.heap a its.toArray∧xs.length≤sizeLine:=by
 rcases h with h|⟨o,its,n,hk,hc,hs,hz,r⟩
 ·obtain ⟨z,its,r,p⟩:=h.ok I.hok
  exact ⟨its,r,p,z⟩
 ·refine ⟨its.toList,r,⟨o,I.kIn a o hk,hc,n,by simpa using hs⟩,?_⟩
  have e:=r.length
  simp only[Array.length_toList] at e
  omega
theorem Inv.list_inj (I:Inv X pins σ H s) (h:SqL X.K H a xs) (h':SqL X.K H a ys):xs=ys:=by
 obtain ⟨its,r,⟨o,n,e,_,_,d⟩,_⟩:=I.list h
 obtain ⟨its',r',⟨o',n',e',_,_,d'⟩,_⟩:=I.list h'
 rw[e] at e';cases e'
 rw[d] at d'
 injection d' with d1 _
 have:its=its':=by simpa using congrArg Array.toList d1
 subst this
 exact r.inj r'
theorem Inv.tuple_inj (I:Inv X pins σ H s) (h:SqT X.K H a xs) (h':SqT X.K H a ys):xs=ys:=by
 obtain ⟨its,r,⟨o,e,_,n,d⟩,_⟩:=I.tuple h
 obtain ⟨its',r',⟨o',e',_,n',d'⟩,_⟩:=I.tuple h'
 rw[e] at e';cases e'
 rw[d] at d'
 injection d' with d1 _
 have:its=its':=by simpa using congrArg Array.toList d1
 subst this
 exact r.inj r'
end
noncomputable abbrev Cx.wish (X:Cx) (E:Value→Shared→Prop):Cx:={ X with xe:=E }
noncomputable abbrev Cx.nox (X:Cx):Cx:=X.wish fun _ _=>False
theorem Cx.Ok.wish {X:Cx} (ok:X.Ok) (E:Value→Shared→Prop):(X.wish E).Ok:=
 ⟨ok.mod,ok.kind,ok.glob,ok.blt,ok.above,ok.inj,ok.has,ok.cab,ok.hd,ok.frames,ok.stk,ok.exf,ok.bs,ok.bsz,ok.noex,ok.exfs,ok.funs,ok.frf⟩
theorem Cx.Ok.unwish {X:Cx}{E:Value→Shared→Prop} (ok:(X.wish E).Ok):X.Ok:=
 ⟨ok.mod,ok.kind,ok.glob,ok.blt,ok.above,ok.inj,ok.has,ok.cab,ok.hd,ok.frames,ok.stk,ok.exf,ok.bs,ok.bsz,ok.noex,ok.exfs,ok.funs,ok.frf⟩
section
variable {X:Cx}{pins:List (Addr×Obj)}{σ:St}{H:Hp}{s:Shared}{E:Value→Shared→Prop}
theorem Inv.wish (I:Inv X pins σ H s) (E:Value→Shared→Prop):Inv (X.wish E) pins σ H s:=⟨I.ok.wish E,I.os,I.bare,I.base,I.loc,I.cell,I.free,I.freeC,I.pin,I.hok,I.len⟩
theorem Inv.unwish (I:Inv (X.wish E) pins σ H s):Inv X pins σ H s:=⟨I.ok.unwish,I.os,I.bare,I.base,I.loc,I.cell,I.free,I.freeC,I.pin,I.hok,I.len⟩
theorem SP.unwish {D:Ends}{f:Flow}{s':Shared} (h:SP (X.wish E) pins D f s'):SP X pins D f s':=by
 cases f with
 | next=>obtain ⟨σ',H',I,q⟩:=h;exact ⟨σ',H',I.unwish,q⟩
 | brk=>obtain ⟨σ',H',I,q⟩:=h;exact ⟨σ',H',I.unwish,q⟩
 | cont=>obtain ⟨σ',H',I,q⟩:=h;exact ⟨σ',H',I.unwish,q⟩
 | ret u=>obtain ⟨v,σ',H',I,r,q⟩:=h;exact ⟨v,σ',H',I.unwish,r,q⟩
theorem PSs.nox {st:List Stmt}{t:TS} (h:PSs X.nox st t):PSs X st t:=fun pins s σ H D I hw=>
 wpAny_mono (h pins s σ H D (I.wish _) hw) (fun _ _ q=>q.unwish) fun _ _ z=>False.elim z
end
section
variable {X:Cx}{st:Stmt}{rest:List Stmt}{t u:TS}{e:Expr}{te:TE}{pos:Pos}
noncomputable def tNext:TS:=fun D σ H=>D.nx σ H
noncomputable def tSeq (t u:TS):TS:=fun D σ H=>t { D with nx:=u D } σ H
theorem yav:PSs X [] tNext:=fun _ _ σ H _ I h=>wpAny_execs_nil ⟨σ,H,I,h⟩
theorem yah (h1:PS X st t) (h2:PSs X rest u):PSs X (st::rest) (tSeq t u):=by
 intro pins s σ H D I h
 refine wpAny_execs_cons (thn (h1 pins s σ H { D with nx:=u D } I h) fun f s1 q=>?_)
 cases f with
 | next=>
  obtain ⟨σ',H',I',q⟩:=q
  exact h2 pins s1 σ' H' D I' q
 | ret v=>exact q
 | brk=>exact q
 | cont=>exact q
theorem yaf (h1:PS X st t):PSs X [st] t:=by
 intro pins s σ H D I h
 refine wpAny_execs_cons (thn (h1 pins s σ H D I h) fun f s1 q=>?_)
 cases f with
 | next=>exact wpAny_execs_nil q
 | ret v=>exact q
 | brk=>exact q
 | cont=>exact q
theorem Inv.quiet {pins:List (Addr×Obj)}{σ:St}{H:Hp}{s:Shared} (I:Inv X pins σ H s):interactive X.env=false:=by simp[interactive,I.ok.kind]
noncomputable def tDrop (te:TE):TS:=fun D σ H=>te σ H fun _ H1=>D.nx σ H1
theorem ybt (he:PE X e te) (hs:swapsWith e none pos.line X.env=pure false:=by rfl):PS X (.Expr e pos) (tDrop te):=by
 intro pins s σ H D I h
 exact wpAny_Expr_any (thn (he pins s σ H _ I h) fun v s1 ⟨x,H1,I1,r1,q1⟩=>⟨σ,H1,I1,q1⟩) I.quiet hs
noncomputable def tRet (te:TE):TS:=fun D σ H=>te σ H D.rt
theorem qat (he:PE X e te):PS X (.Return (some e) pos) (tRet te):=by
 intro pins s σ H D I h
 exact wpAny_Return_some (thn (he pins s σ H _ I h) fun v s1 ⟨x,H1,I1,r1,q1⟩=>⟨x,σ,H1,I1,r1,q1⟩)
noncomputable def tRetN:TS:=fun D _ H=>D.rt .non H
theorem ps_retN:PS X (.Return none pos) tRetN:=fun _ _ σ H _ I h=>wpAny_Return_none ⟨.non,σ,H,I,rfl,h⟩
noncomputable def tIfS (c:TT) (t u:TS):TS:=fun D σ H=>c σ H fun b H1=>if b=true then t D σ H1 else u D σ H1
theorem qbu {c:Expr}{a b:List Stmt}{tc:TT} (hc:PT X c tc) (ha:PSs X a t) (hb:PSs X b u):PS X (.If c a b pos) (tIfS tc t u):=by
 intro pins s σ H D I h
 refine wpAny_If (thn (hc pins s σ H _ I h) fun d s1 ⟨H1,I1,q1⟩=>?_)
 cases d with
 | true=>exact ha pins s1 σ H1 D I1 q1
 | false=>exact hb pins s1 σ H1 D I1 q1
noncomputable def ykz:TS:=fun _ _ _=>False
theorem yco:PS X st ykz:=fun _ _ _ _ _ _ h=>h.elim
theorem qkt {sts:List Stmt}:PSs X sts ykz:=fun _ _ _ _ _ _ h=>h.elim
end
noncomputable abbrev TG:=V→St→Hp→(St→Hp→Prop)→Prop
noncomputable abbrev TGs:=List V→St→Hp→(St→Hp→Prop)→Prop
noncomputable def PG (X:Cx) (target:Expr) (t:TG):Prop:=
 ∀ (pins:List (Addr×Obj)) (s:Shared) (σ:St) (H:Hp) (v:V) (u:Value) (Q:St→Hp→Prop),Inv X pins σ H s→RelV v u→t v σ H Q→
  wpAny (model X.prog X.w) X.A (assign target X.env u) (fun _ s'=>∃ σ' H',Inv X pins σ' H' s'∧Q σ' H') X.xe s
noncomputable def PGs (X:Cx) (ts:List Expr) (t:TGs):Prop:=
 ∀ (pins:List (Addr×Obj)) (s:Shared) (σ:St) (H:Hp) (vs:List V) (us:List Value) (Q:St→Hp→Prop),Inv X pins σ H s→Vals vs us→t vs σ H Q→
  wpAny (model X.prog X.w) X.A (assignInOrder ((assignEach ts X.env).map (·.2)) us) (fun _ s'=>∃ σ' H',Inv X pins σ' H' s'∧Q σ' H') X.xe s
noncomputable abbrev TSet:=V→V→V→Hp→(Hp→Prop)→Prop
noncomputable def PSet (X:Cx) (t:TSet):Prop:=
 ∀ (pins:List (Addr×Obj)) (s:Shared) (σ:St) (H:Hp) (o i v:V) (ov iv u:Value) (Q:Hp→Prop),Inv X pins σ H s→RelV o ov→RelV i iv→RelV v u→t o i v H Q→
  wpAny (model X.prog X.w) X.A (setItem ov iv u) (fun _ s'=>∃ H',Inv X pins σ H' s'∧Q H') X.xe s
section
variable {X:Cx}{pos:Pos}
noncomputable def qgl (i:Nat):TG:=fun v σ H Q=>Q (σ.set i (some v)) H
theorem qak {i:Nat}{x:Str} (hN:X.N.Nodup) (hi:X.N[i]?=some x) (hx:Loc X.env.scope x) (hf:X.fn x=true∨X.env.scope.names.lookup x=some .local:=by first|exact .inl rfl|exact .inr rfl|assumption):PG X (.Name x pos) (qgl i):=by
 intro pins s σ H v u Q I r h
 exact wpAny_assign_Name (qft I hN hi hx r (fun s' I'=>⟨_,H,I',h⟩) hf)
noncomputable def gNil:TGs:=fun vs σ H Q=>vs=[]∧Q σ H
noncomputable def gCons (t:TG) (u:TGs):TGs:=fun vs σ H Q=>∃ v r,vs=v::r∧t v σ H fun σ' H'=>u r σ' H' Q
theorem qbp:PGs X [] gNil:=by
 intro pins s σ H vs us Q I r h
 obtain ⟨e,h⟩:=h
 subst e
 cases r
 exact assignInOrder_nil ⟨σ,H,I,h⟩
theorem qan {e:Expr}{es:List Expr}{t:TG}{u:TGs} (h1:PG X e t) (h2:PGs X es u)
  (hs:(assignEach (e::es) X.env).map (·.2)=assign e X.env::(assignEach es X.env).map (·.2):=by rfl):PGs X (e::es) (gCons t u):=by
 intro pins s σ H vs us Q I r h
 obtain ⟨v,vr,e1,h⟩:=h
 subst e1
 cases r with
 | cons r rr=>
  rw[hs]
  refine assignInOrder_cons (thn (h1 pins s σ H _ _ _ I r h) fun _ s1 ⟨σ1,H1,I1,q1⟩=>?_)
  exact h2 pins s1 σ1 H1 _ _ Q I1 rr q1
noncomputable def gTup (K:PySem.W.Frag) (n:Nat) (t:TGs):TG:=fun v σ H Q=>∃ a xs,v=.ref a∧SqT K H a xs∧xs.length=n∧t xs σ H Q
theorem ydg {es:List Expr}{k:Nat}{t:TGs}{n:Nat} (hc:X.calm=true) (h:PGs X es t)
  (hn:(assignEach es X.env).length=n:=by rfl) (hst:(assignEach es X.env).findIdx? (·.1)=none:=by rfl):PG X (.Tuple es k pos) (gTup X.K n t):=by
 intro pins s σ H v u Q I r hw
 obtain ⟨a,xs,e1,hq,hl,hw⟩:=hw
 subst e1
 cases r
 obtain ⟨its,rv,ht,hz⟩:=I.tuple hq
 refine assign_Tuple_tuple (I.ok.hd hc) ht (by simp[hn,← hl,rv.length]) hst fun h' hx=>?_
 have I1:Inv X pins σ H { s with heap:=h' }:=I.kept (t':=s.toks) fun b o e=>hx b o (Nat.ne_of_lt (Heap.lt_size e)) e
 exact h pins _ σ H xs _ Q I1 (by simpa using rv) hw
noncomputable def gSub (to ti:TE) (t:TSet):TG:=fun v σ H Q=>to σ H fun o H1=>ti σ H1 fun i H2=>t o i v H2 fun H3=>Q σ H3
theorem yg1 {o i:Expr}{to ti:TE}{t:TSet} (ho:PE X o to) (hi:PE X i ti) (hs:PSet X t)
  (ha:∀ v,assign (.Subscript o i pos) X.env v=(do
   let ov ← holding [v] (eval o X.env)
   let iv ← holding [v,ov] (eval i X.env)
   standAt pos
   holding [v,ov,iv] (setItem ov iv v)
   release [v,ov,iv] []):=by intro _;rfl):PG X (.Subscript o i pos) (gSub to ti t):=by
 intro pins s σ H v u Q I r h
 rw[ha]
 refine wpAny_bind (wpAny_holding (thn (ho pins s σ H _ I h) fun ov s1 ⟨x,H1,I1,r1,q1⟩=>?_))
 refine wpAny_bind (wpAny_holding (thn (hi pins s1 σ H1 _ I1 q1) fun iv s2 ⟨y,H2,I2,r2,q2⟩=>?_))
 refine wpAny_bind (wpAny_standAt (wpAny_bind (wpAny_holding (thn (hs pins s2 σ H2 x y v ov iv u _ I2 r1 r2 r q2) fun _ s3 ⟨H3,I3,q3⟩=>?_))))
 exact wpAny_release ⟨σ,H3,I3,q3⟩
noncomputable def tAsg (te:TE) (g:TG):TS:=fun D σ H=>te σ H fun x H1=>g x σ H1 D.nx
theorem ylz {tg e:Expr}{te:TE}{g:TG} (he:PE X e te) (hg:PG X tg g) (hs:swapsWithSole [tg] e pos.line X.env=pure false:=by rfl) (hw:swappedStores [tg] e X.env=pure none:=by rfl)
  (h1:(assignEach [tg] X.env).map (·.2)=[assign tg X.env]:=by rfl):PS X (.Assign [tg] e pos) (tAsg te g):=by
 intro pins s σ H D I h
 refine wpAny_Assign_stores (thn (he pins s σ H _ I h) fun v s1 ⟨x,H1,I1,r1,q1⟩=>?_) hs hw
 rw[h1]
 exact thn (hg pins s1 σ H1 x v _ I1 r1 q1) fun _ s2 q=>q
theorem qa2 {i:Nat}{x:Str}{e:Expr}{te:TE}{pos':Pos} (hN:X.N.Nodup) (hi:X.N[i]?=some x) (hx:Loc X.env.scope x) (he:PE X e te) (hs:swapsWith e (some (.Name x pos')) pos.line X.env=pure false:=by rfl) (hf:X.fn x=true∨X.env.scope.names.lookup x=some .local:=by first|exact .inl rfl|exact .inr rfl|assumption) :
  PS X (.Assign [.Name x pos'] e pos) (tAsg te (qgl i)):=by
 intro pins s σ H D I h
 refine wpAny_Assign_Name (thn (he pins s σ H _ I h) fun v s1 ⟨y,H1,I1,r1,q1⟩=>?_) hs
 exact qft I1 hN hi hx r1 (fun s2 I2=>⟨_,H1,I2,q1⟩) hf
end
structure It where
 go:Nat→Hp→Prop
 yld:Nat→Hp→V→Hp→Prop
 stop:Nat→Hp→Prop
noncomputable def FpOk (X:Cx) (pins:List (Addr×Obj)) (H:Hp) (b:Addr):Prop:=
 H b=none∧b≠X.env.locals∧b∉X.fs∧(b∈X.ex∨X.s₀.heap.objs.size≤b)∧(∀ x c,X.env.cells.lookup x=some c→c≠b)∧∀ p∈X.pn++pins,p.1≠b
theorem Inv.fpOk {X:Cx}{pins:List (Addr×Obj)}{σ:St}{H H':Hp}{s:Shared}{b:Addr} (I:Inv X pins σ H s) (hb:s.heap.objs.size≤b) (hn:H' b=none):FpOk X pins H' b:=by
 refine ⟨hn,Nat.ne_of_gt (Nat.lt_of_lt_of_le I.lt hb),I.nofs hb,.inr (Nat.le_trans I.sz hb),fun x c e z=>?_,fun p hp z=>?_⟩
 ·obtain ⟨v,q⟩:=I.cell x c e
  exact absurd (Nat.lt_of_lt_of_le q.lt (by rw[z];exact hb)) (Nat.lt_irrefl _)
 ·exact absurd (Nat.lt_of_lt_of_le (Heap.lt_size (I.pin p hp).1) (by rw[z];exact hb)) (Nat.lt_irrefl _)
structure Turn (P:Program) (w:World) (K:PySem.W.Frag) (tg:Expr) (J:It) (fp:List Addr) (it:Addr) (tn:Nat→Heap→Prop):Prop where
 mem:it∈fp
 obj:∀ i h,tn i h→∀ b∈fp,∃ o,h.get? b=some o∧∀ v,o.data≠.cell v
 keep:∀ i h h',tn i h→(∀ b∈fp,∀ o,h.get? b=some o→h'.get? b=some o)→tn i h'
 item:∀ (X:Cx),X.prog=P→X.w=w→X.K=K→X.calm=true→∀ (i:Nat) (pins:List (Addr×Obj)) (s:Shared) (σ:St) (H:Hp) (E:Value→Shared→Prop),Inv X pins σ H s→(∀ b∈fp,FpOk X pins H b)→tn i s.heap→J.go i H→
  wpAny (model P w) X.A (pyNext (.ref it)) (fun r s1=>∃ u,r=some u∧
   wpAny (model P w) X.A (letOwnedTupleGo tg (.ref it) u) (fun _ s2=>∃ x H',Inv X pins σ H' s2∧RelV x u∧J.yld i H x H'∧tn (i+1) s2.heap∧∀ b∈fp,H' b=none) E s1) E s
 done:∀ (X:Cx),X.prog=P→X.w=w→X.K=K→X.calm=true→∀ (i:Nat) (pins:List (Addr×Obj)) (s:Shared) (σ:St) (H:Hp) (E:Value→Shared→Prop),Inv X pins σ H s→(∀ b∈fp,FpOk X pins H b)→tn i s.heap→J.stop i H→
  wpAny (model P w) X.A (pyNext (.ref it)) (fun r s1=>r=none∧Inv X pins σ H s1) E s
 self:∀ (A:Around) (i:Nat) (s:Shared) (Q:Value→Shared→Prop) (E:Value→Shared→Prop),tn i s.heap→Q (.ref it) s→wpAny (model P w) A (pyIter (.ref it)) Q E s
noncomputable abbrev TI:=St→Hp→(It→Hp→Prop)→Prop
noncomputable def PIE (X:Cx) (pins:List (Addr×Obj)) (σ:St) (tg:Expr) (R:It→Hp→Prop) (itv:Value) (s2:Shared):Prop:=
 ∃ (it:Addr) (fp:List Addr) (tn:Nat→Heap→Prop) (J:It) (H':Hp),itv=.ref it∧Inv X pins σ H' s2∧Turn X.prog X.w X.K tg J fp it tn∧tn 0 s2.heap∧(∀ b∈fp,FpOk X pins H' b)∧R J H'
noncomputable def PI (X:Cx) (tg iter:Expr) (wi:TI):Prop:=
 ∀ (pins:List (Addr×Obj)) (s:Shared) (σ:St) (H:Hp) (R:It→Hp→Prop),Inv X pins σ H s→wi σ H R→
  wpAny (model X.prog X.w) X.A (eval iter X.env) (fun v s1=>wpAny (model X.prog X.w) X.A (pyIter v) (PIE X pins σ tg R) X.xe s1) X.xe s
theorem go_of {M:Model}{A:Around}{E:Value→Shared→Prop}{s:Shared}{tg:Expr}{it:Addr}{u:Value}{o:Obj}{n:String}{vs:Array Value}{Q:Unit→Shared→Prop} (ho:s.heap.get? it=some o) (hc:o.cls=.type n) (hd:o.data=.fields vs)
    (hn:["enumerate","zip","dict_itemiterator","dict_reverseitemiterator","odict_iterator","itertools.zip_longest","itertools.pairwise"].contains n=false) (hQ:Q () s):wpAny M A (letOwnedTupleGo tg (.ref it) u) Q E s:=by
  unfold letOwnedTupleGo
  cases tg<;>first
    | exact wpAny_pure hQ
    | (cases u<;>first
        | exact wpAny_pure hQ
        | (refine wpAny_bind (wpAny_load ho ?_)
           rw[hc,hd]
           show wpAny M A (if (["enumerate","zip","dict_itemiterator","dict_reverseitemiterator","odict_iterator","itertools.zip_longest","itertools.pairwise"].contains n&&vs[0]? == some (rawInt _))=true then _ else _) Q E s
           rw[if_neg (by intro h;rw[hn,Bool.false_and] at h;cases h)]
           exact wpAny_pure hQ))
noncomputable def Itl (K:PySem.W.Frag) (a:Addr):It:=
 ⟨fun i H=>∃ xs x,SqL K H a xs∧xs[i]?=some x,fun i H x H'=>H'=H∧∀ xs,SqL K H a xs→xs[i]?=some x,fun i H=>∃ xs,SqL K H a xs∧xs.length≤i⟩
noncomputable def Itr (lo:Int) (n:Nat):It:=⟨fun i _=>i<n,fun i H x H'=>H'=H∧x=.int (lo+i),fun i _=>n≤i⟩
theorem yk8 {P:Program}{w:World}{K:PySem.W.Frag}{tg:Expr} (a it:Addr):Turn P w K tg (Itl K a) [it] it (fun i h=>h.IsListIter it a i) where
 mem:=by simp
 obj:=fun i h st b hb=>by
  have e:b=it:=by simpa using hb
  subst e
  obtain ⟨o,e,c,d⟩:=st
  exact ⟨o,e,fun v z=>by rw[d] at z;cases z⟩
 keep:=fun i h h' st k=>st.at fun o e=>k it (by simp) o e
 item:=by
  intro X hP hw hK hc i pins s σ H E I hf st hg
  subst hP hw hK
  obtain ⟨xs,x,hq,hx⟩:=hg
  obtain ⟨its,rv,p,hz⟩:=I.list hq
  obtain ⟨u,hu,ru⟩:=rv.get hx
  obtain ⟨f0,f1,f2,f3,f4,f5⟩:=hf it (by simp)
  refine wpAny_pyNext_list_item st p.isList (x:=u) (by simpa using hu) fun h' st' sb=>?_
  have I1:Inv X pins σ H { s with heap:=h' }:=I.turned (t':=s.toks) (fun b o hb e=>(sb.2 b hb).trans e) f0 f1 f3 f4 f5
  obtain ⟨o,e,c,d⟩:=id st'
  exact ⟨u,rfl,go_of (s:={ s with heap:=h' }) e c d (by decide) ⟨x,H,I1,ru,⟨rfl,fun ys hy=>by rw[I.list_inj hy hq];exact hx⟩,st',fun b hb=>(hf b hb).1⟩⟩
 done:=by
  intro X hP hw hK hc i pins s σ H E I hf st hg
  subst hP hw hK
  obtain ⟨xs,hq,hx⟩:=hg
  obtain ⟨its,rv,p,hz⟩:=I.list hq
  obtain ⟨f0,f1,f2,f3,f4,f5⟩:=hf it (by simp)
  have hl:=rv.length
  exact wpAny_pyNext_list_end (I.ok.hd hc) st p.isList (by simp;omega) fun h' eb=>⟨rfl,I.turned (t':=s.toks) (fun b o hb e=>eb b o hb e) f0 f1 f3 f4 f5⟩
 self:=fun _ _ _ _ _ st h=>wpAny_pyIter_listiter st h
theorem qkd {P:Program}{w:World}{K:PySem.W.Frag}{tg:Expr} (it:Addr) (lo:Int) (n:Nat):Turn P w K tg (Itr lo n) [it] it (fun i h=>IsRangeIter h it (lo+(i:Nat)*1) ((n:Int)-(i:Nat)) 1) where
 mem:=by simp
 obj:=fun i h st b hb=>by
  have e:b=it:=by simpa using hb
  subst e
  exact ⟨_,st,fun v z=>by
   have z':Data.fields _=Data.cell v:=z
   cases z'⟩
 keep:=fun i h h' st k=>k it (by simp) _ st
 item:=by
  intro X hP hw hK hc i pins s σ H E I hf st hg
  subst hP hw hK
  obtain ⟨f0,f1,f2,f3,f4,f5⟩:=hf it (by simp)
  have W:=Walks.range (prog:=X.prog) (w:=X.w) (I.ok.hd hc) it lo 1 n
  refine W.item i s _ _ hg st fun v h' tk hv st' kk=>?_
  obtain ⟨t,rfl⟩:=hv
  have I1:Inv X pins σ H { s with heap:=h',toks:=tk }:=I.turned (fun b o hb e=>kk b o (by simpa using hb) e) f0 f1 f3 f4 f5
  refine ⟨_,rfl,go_of (s:={ s with heap:=h',toks:=tk }) (n:="range_iterator") st' rfl rfl (by decide) ⟨.int (lo+i),H,I1,⟨t,?_⟩,⟨rfl,rfl⟩,st',fun b hb=>(hf b hb).1⟩⟩
  rw[Int.mul_one]
 done:=by
  intro X hP hw hK hc i pins s σ H E I hf st hg
  subst hP hw hK
  obtain ⟨f0,f1,f2,f3,f4,f5⟩:=hf it (by simp)
  exact wpAny_pyNext_range_end (I.ok.hd hc) st (by have:n≤i:=hg;omega) fun h' eb=>⟨rfl,I.turned (t':=s.toks) (fun b o hb e=>eb b o hb e) f0 f1 f3 f4 f5⟩
 self:=fun _ _ _ _ _ st h=>wpAny_pyIter_rangeiter st h
section
variable {X:Cx}{tg:Expr}
noncomputable def iList (K:PySem.W.Frag) (tl:TE):TI:=fun σ H R=>tl σ H fun x H1=>∃ a,x=.ref a∧(∃ xs,SqL K H1 a xs)∧R (Itl K a) H1
theorem qbo {l:Expr}{tl:TE} (hl:PE X l tl):PI X tg l (iList X.K tl):=by
 intro pins s σ H R I h
 refine thn (hl pins s σ H _ I h) fun v s1 ⟨x,H1,I1,r1,q1⟩=>?_
 obtain ⟨a,e,⟨xs,hq⟩,q⟩:=q1
 subst e
 cases r1
 obtain ⟨its,rv,p,hz⟩:=I1.list hq
 refine wpAny_pyIter_list p.isList ?_
 refine ⟨s1.heap.objs.size,[s1.heap.objs.size],_,_,H1,rfl,I1.kept (t':=s1.toks) fun b o e=>Heap.get?_push_of_some _ e,yk8 a _,⟨_,Heap.get?_push_size _ rfl,rfl,rfl⟩,fun b hb=>?_,q⟩
 have e:b=s1.heap.objs.size:=by simpa using hb
 subst e
 exact I1.fpOk (Nat.le_refl _) (I1.hok.fresh (Nat.le_refl _))
theorem range_it {pins:List (Addr×Obj)}{σ:St}{H:Hp}{s:Shared}{R:It→Hp→Prop}{E:Value→Shared→Prop}{lo hi:Int}{t u v:Tok}{tk:Nat} (I:Inv X pins σ H s) (h1:-(2 ^ 62)≤lo) (h2:lo<2 ^ 62) (h3:-(2 ^ 62)≤hi) (h4:hi<2 ^ 62)
  (q:R (Itr lo (hi-lo).toNat) H):wpAny (model X.prog X.w) X.A (pyIter (.ref s.heap.objs.size)) (PIE X pins σ tg R) E { s with heap:=s.heap.push { cls:=.type "range",data:=.fields #[.int lo t,.int hi u,.int 1 v] },toks:=tk }:=by
 refine wpAny_pyIter_range (IsRange.new ..) (small_one h1 h2 h3 h4) ?_
 have I1:Inv X pins σ H { s with heap:=s.heap.push { cls:=.type "range",data:=.fields #[.int lo t,.int hi u,.int 1 v] },toks:=tk }:=I.kept fun b o e=>Heap.get?_push_of_some _ e
 refine ⟨(s.heap.push { cls:=.type "range",data:=.fields #[.int lo t,.int hi u,.int 1 v] }).objs.size,[(s.heap.push { cls:=.type "range",data:=.fields #[.int lo t,.int hi u,.int 1 v] }).objs.size],_,_,H,rfl,
  I1.kept (t':=tk) fun b o e=>Heap.get?_push_of_some _ e,qkd _ lo (hi-lo).toNat,?_,fun b hb=>?_,q⟩
 ·have e1:lo+((0:Nat):Int)*1=lo:=by simp
  have e2:(((hi-lo).toNat:Nat):Int)-((0:Nat):Int)=Builtin.Range.rangeSize lo hi 1:=by rw[rangeSize_one];split<;>omega
  show IsRangeIter _ _ (lo+((0:Nat):Int)*1) ((((hi-lo).toNat:Nat):Int)-((0:Nat):Int)) 1
  rw[e1,e2]
  exact Heap.get?_push_size _ rfl
 ·have e:b=(s.heap.push { cls:=.type "range",data:=.fields #[.int lo t,.int hi u,.int 1 v] }).objs.size:=by simpa using hb
  subst e
  exact I1.fpOk (Nat.le_refl _) (I1.hok.fresh (Nat.le_refl _))
noncomputable def iRng1 (ta:TA):TI:=fun σ H R=>ta σ H fun vs H1=>∃ j:Int,vs=[.int j]∧-(2 ^ 62)≤j∧j<2 ^ 62∧R (Itr 0 j.toNat) H1
theorem ycd {a:Expr}{ta:TA}{p pos:Pos} (hg:Gl X "range") (hm:X.mg "range" = none) (ha:PA X [a] ta) (hs:starEach [a] X.env=[(false,eval a X.env)]:=by rfl):PI X tg (.Call (.Name "range" p) [a] [] pos) (iRng1 ta):=by
 intro pins s σ H R I h
 refine Call_ (qg0 I hg hm boot_range (PyProof.Rows.callWith_type1 (thn (ha pos pins s σ H _ I h) fun us s1 ⟨vs,H1,I1,r1,q1⟩=>?_) hs rfl))
 obtain ⟨j,e,q1,q2,q⟩:=q1
 subst e
 cases r1 with
 | cons r rr=>
  cases rr
  obtain ⟨t,rfl⟩:=r
  exact call_range_1 (range_it I1 (by omega) (by omega) q1 q2 (by simpa using q))
noncomputable def tFor (wi:TI) (g:TG) (tb:TS):TS:=fun D σ H=>wi σ H fun J H1=>∃ W:Nat→Nat→St→Hp→Prop,(∃ m,W 0 m σ H1)∧∀ i m σ H,W i m σ H→
 (J.stop i H∧D.nx σ H)∨(J.go i H∧∃ N:St→Hp→Prop,(∀ σ' H',N σ' H'→∃ m',m' < m∧W (i+1) m' σ' H')∧∀ x H',J.yld i H x H'→g x σ H' fun σ2 H2=>tb { D with nx:=N,ct:=N,bk:=D.nx } σ2 H2)
noncomputable def yib (fp:List Addr) (h:Heap):List (Addr×Obj):=fp.filterMap fun b=>(h.get? b).map fun o=>(b,o)
theorem ydx {fp:List Addr}{h:Heap}{b:Addr}{o:Obj} (hb:b∈fp) (e:h.get? b=some o):(b,o)∈yib fp h:=List.mem_filterMap.mpr ⟨b,hb,by rw[e];rfl⟩
theorem qli {fp:List Addr}{h:Heap}{p:Addr×Obj} (hp:p∈yib fp h):p.1∈fp∧h.get? p.1=some p.2:=by
 obtain ⟨b,hb,e⟩:=List.mem_filterMap.mp hp
 cases q:h.get? b with
 | none=>rw[q] at e;cases e
 | some o=>
  rw[q] at e
  have e':(b,o)=p:=Option.some.inj e
  subst e'
  exact ⟨hb,q⟩
theorem Inv.pinned {pins:List (Addr×Obj)}{σ:St}{H:Hp}{s:Shared}{fp:List Addr} (I:Inv X pins σ H s) (hf:∀ b∈fp,FpOk X pins H b) (ho:∀ b∈fp,∃ o,s.heap.get? b=some o∧∀ v,o.data≠.cell v):Inv X (pins++yib fp s.heap) σ H s:=
 I.pins_of fun p hp=>(List.mem_append.mp hp).elim (fun z=>I.pin p (List.mem_append_right _ z)) fun z=>by
  obtain ⟨hb,e⟩:=qli z
  obtain ⟨f0,f1,f2,_⟩:=hf p.1 hb
  obtain ⟨o,e',d⟩:=ho p.1 hb
  rw[e] at e';cases e'
  exact ⟨e,f0,f1,f2,d⟩
theorem Inv.unpinned {pins pl:List (Addr×Obj)}{σ:St}{H:Hp}{s:Shared} (I:Inv X (pins++pl) σ H s):Inv X pins σ H s:=I.pins_of fun p hp=>I.pin p (List.mem_append_right _ (List.mem_append_left _ hp))
theorem yci {iter:Expr}{body:List Stmt}{wi:TI}{g:TG}{tb:TS}{pos:Pos} (hp:PassesOwn (model X.prog X.w) X.A X.env X.xe) (hc:X.calm=true) (hi:PI X tg iter wi) (hg:PG X tg g) (hb:PSs X body tb)
  (hs:∀ x,foldedSetIterable iter X.env x=pure x:=by intro _;rfl):PS X (.For tg iter body [] pos) (tFor wi g tb):=by
 intro pins s σ H D I h
 refine wpAny_For (thn (hi pins s σ H _ I h) fun v s1 h1=>thn h1 fun itv s2 h2=>?_) hs
 obtain ⟨it,fp,tn,J,H2,e,I2,T,st2,f2,W,⟨m0,w0⟩,turn⟩:=h2
 subst e
 -- what stays true of the iterator's objects through the loop
 have stat:∀ {H':Hp},(∀ b∈fp,H' b=none)→∀ b∈fp,FpOk X pins H' b:=fun hn b hb=>⟨hn b hb,(f2 b hb).2⟩
 refine codeAny_forLoop_any (fun n s'=>∃ i σ' H',Inv X pins σ' H' s'∧tn i s'.heap∧(∀ b∈fp,H' b=none)∧W i n σ' H') ?_ m0 ⟨0,σ,H2,I2,st2,fun b hb=>(f2 b hb).1,w0⟩
 rintro n s3 ⟨i,σ3,H3,I3,st3,fr3,w3⟩
 rcases turn i n σ3 H3 w3 with ⟨stop,qn⟩|⟨go,N,hN,step⟩
 ·refine wpAny_passesOwn hp (thn (T.done X rfl rfl rfl hc i pins s3 σ3 H3 X.xe I3 (stat fr3) st3 stop) fun r s4 ⟨hr,I4⟩=>?_)
  subst hr
  exact wpAny_execs_nil ⟨σ3,H3,I4,qn⟩
 ·refine wpAny_passesOwn hp (thn (T.item X rfl rfl rfl hc i pins s3 σ3 H3 X.xe I3 (stat fr3) st3 go) fun r s4 ⟨u,hr,h4⟩=>?_)
  subst hr
  refine wpAny_passesOwn hp (thn h4 fun _ s5 ⟨x,H5,I5,r5,y5,st5,fr5⟩=>?_)
  have I5':=I5.pinned (stat fr5) (T.obj _ _ st5)
  refine wpAny_passesOwn hp (thn (hg _ s5 σ3 H5 x u _ I5' r5 (step x H5 y5)) fun _ s6 ⟨σ6,H6,I6,q6⟩=>?_)
  refine wpAny_passesOwn hp (thn (hb _ s6 σ6 H6 _ I6 q6) fun f s7 q7=>?_)
  have again:∀ {σ7:St}{H7:Hp},Inv X (pins++yib fp s5.heap) σ7 H7 s7→N σ7 H7→∃ m,m<n∧∃ i σ' H',Inv X pins σ' H' s7∧tn i s7.heap∧(∀ b∈fp,H' b=none)∧W i m σ' H':=fun {σ7 H7} I7 n7=>by
   obtain ⟨m',hm,w7⟩:=hN σ7 H7 n7
   refine ⟨m',hm,i+1,σ7,H7,I7.unpinned,T.keep _ _ _ st5 fun b hb o e=>(I7.pin (b,o) (List.mem_append_right _ (List.mem_append_right _ (ydx hb e)))).1,fun b hb=>?_,w7⟩
   obtain ⟨o,e,d⟩:=T.obj _ _ st5 b hb
   exact (I7.pin (b,o) (List.mem_append_right _ (List.mem_append_right _ (ydx hb e)))).2.1
  cases f with
  | next=>obtain ⟨σ7,H7,I7,n7⟩:=q7;exact again I7 n7
  | cont=>obtain ⟨σ7,H7,I7,n7⟩:=q7;exact again I7 n7
  | brk=>obtain ⟨σ7,H7,I7,q7⟩:=q7;exact ⟨σ7,H7,I7.unpinned,q7⟩
  | ret v=>obtain ⟨x7,σ7,H7,I7,r7,q7⟩:=q7;exact ⟨x7,σ7,H7,I7.unpinned,r7,q7⟩
end
theorem ybj {K:PySem.W.Frag}{a:Addr}{xs:List V}{g:TG}{tb:TS}{D:Ends}{σ:St}{H:Hp} (Pv:Nat→St→Hp→Prop) (h0:Pv 0 σ H) (hl:∀ i σ H,i≤xs.length→Pv i σ H→SqL K H a xs)
  (hs:∀ i x σ H,xs[i]?=some x→Pv i σ H→g x σ H fun σ2 H2=>tb { D with nx:=Pv (i+1),ct:=Pv (i+1),bk:=D.nx } σ2 H2) (hd:∀ σ H,Pv xs.length σ H→D.nx σ H) :
  ∃ W:Nat→Nat→St→Hp→Prop,(∃ m,W 0 m σ H)∧∀ i m σ H,W i m σ H→
   ((Itl K a).stop i H∧D.nx σ H)∨((Itl K a).go i H∧∃ N:St→Hp→Prop,(∀ σ' H',N σ' H'→∃ m',m' < m∧W (i+1) m' σ' H')∧∀ x H',(Itl K a).yld i H x H'→g x σ H' fun σ2 H2=>tb { D with nx:=N,ct:=N,bk:=D.nx } σ2 H2):=by
 refine ⟨fun i m σ H=>m=xs.length-i∧i≤xs.length∧Pv i σ H,⟨xs.length,by simp,Nat.zero_le _,h0⟩,?_⟩
 rintro i m σ H ⟨rfl,hi,p⟩
 have q:=hl i σ H hi p
 by_cases hlt:i<xs.length
 ·refine .inr ⟨⟨xs,xs[i],q,by simp[hlt]⟩,Pv (i+1),fun σ' H' p'=>⟨xs.length-(i+1),by omega,rfl,hlt,p'⟩,fun x H' y=>?_⟩
  obtain ⟨e,y⟩:=y
  subst e
  exact hs i x σ _ (y xs q) p
 ·have e:i=xs.length:=by omega
  subst e
  exact .inl ⟨⟨xs,q,Nat.le_refl _⟩,hd σ H p⟩
theorem yep {lo:Int}{n:Nat}{g:TG}{tb:TS}{D:Ends}{σ:St}{H:Hp} (Pv:Nat→St→Hp→Prop) (h0:Pv 0 σ H)
  (hs:∀ i σ H,i<n→Pv i σ H→g (.int (lo+i)) σ H fun σ2 H2=>tb { D with nx:=Pv (i+1),ct:=Pv (i+1),bk:=D.nx } σ2 H2) (hd:∀ σ H,Pv n σ H→D.nx σ H) :
  ∃ W:Nat→Nat→St→Hp→Prop,(∃ m,W 0 m σ H)∧∀ i m σ H,W i m σ H→
   ((Itr lo n).stop i H∧D.nx σ H)∨((Itr lo n).go i H∧∃ N:St→Hp→Prop,(∀ σ' H',N σ' H'→∃ m',m' < m∧W (i+1) m' σ' H')∧∀ x H',(Itr lo n).yld i H x H'→g x σ H' fun σ2 H2=>tb { D with nx:=N,ct:=N,bk:=D.nx } σ2 H2):=by
 refine ⟨fun i m σ H=>m=n-i∧i≤n∧Pv i σ H,⟨n,by simp,Nat.zero_le _,h0⟩,?_⟩
 rintro i m σ H ⟨rfl,hi,p⟩
 by_cases hlt:i<n
 ·refine .inr ⟨hlt,Pv (i+1),fun σ' H' p'=>⟨n-(i+1),by omega,rfl,hlt,p'⟩,fun x H' y=>?_⟩
  obtain ⟨e,y⟩:=y
  subst e y
  exact hs i σ _ hlt p
 ·have e:i=n:=by omega
  subst e
  exact .inl ⟨Nat.le_refl _,hd σ H p⟩
noncomputable abbrev R2:=V→V→Hp→VK→Prop
noncomputable def OpR (X:Cx) (f:Value→Value→Sem Value) (r:R2):Prop:=
 ∀ (pins:List (Addr×Obj)) (s:Shared) (σ:St) (H:Hp) (x y:V) (v u:Value) (Q:VK),Inv X pins σ H s→RelV x v→RelV y u→r x y H Q→
  wpAny (model X.prog X.w) X.A (f v u) (EP X pins σ Q) X.xe s
noncomputable def UnR (X:Cx) (f:Value→Sem Value) (r:V→Hp→VK→Prop):Prop:=
 ∀ (pins:List (Addr×Obj)) (s:Shared) (σ:St) (H:Hp) (x:V) (v:Value) (Q:VK),Inv X pins σ H s→RelV x v→r x H Q→
  wpAny (model X.prog X.w) X.A (f v) (EP X pins σ Q) X.xe s
noncomputable def yc1 (X:Cx) (f:Value) (r:List V→Hp→VK→Prop):Prop:=
 ∀ (pins:List (Addr×Obj)) (s:Shared) (σ:St) (H:Hp) (xs:List V) (us:List Value) (Q:VK),Inv X pins σ H s→Vals xs us→r xs H Q→
  wpAny (model X.prog X.w) X.A (call f us) (EP X pins σ Q) X.xe s
noncomputable def tOp (r:R2) (ta tb:TE):TE:=fun σ H Q=>ta σ H fun x H1=>tb σ H1 fun y H2=>r x y H2 Q
noncomputable def tUn (r:V→Hp→VK→Prop) (ta:TE):TE:=fun σ H Q=>ta σ H fun x H1=>r x H1 Q
noncomputable def rI (C:Int→Int→Prop) (g:Int→Int→V):R2:=fun x y H Q=>∃ i j,x=.int i∧y=.int j∧C i j∧Q (g i j) H
noncomputable def rI0 (g:Int→Int→V):R2:=fun x y H Q=>∃ i j,x=.int i∧y=.int j∧Q (g i j) H
noncomputable def rU (g:Int→V):V→Hp→VK→Prop:=fun x H Q=>∃ i,x=.int i∧Q (g i) H
section
variable {X:Cx}{a b c:Expr}{ta tb tc:TE}{pos:Pos}
theorem binT (ha:PE X a ta) (hb:PE X b tb) {pins:List (Addr×Obj)}{s:Shared}{σ:St}{H:Hp}{R:V→V→Hp→Prop} (I:Inv X pins σ H s)
  (h:ta σ H fun x H1=>tb σ H1 fun y H2=>R x y H2) {Q:Value→Shared→Prop}{f:Value→Value→Sem Value}
  (hf:∀ v u s2 x y H2,Inv X pins σ H2 s2→RelV x v→RelV y u→R x y H2→wpAny (model X.prog X.w) X.A (f v u) Q X.xe s2) :
  wpAny (model X.prog X.w) X.A (eval a X.env) (fun v s₁=>wpAny (model X.prog X.w) X.A (eval b X.env) (fun u s₂=>wpAny (model X.prog X.w) X.A (f v u) Q X.xe s₂) X.xe s₁) X.xe s:=by
 refine thn (ha pins s σ H _ I h) fun v s1 ⟨x,H1,I1,r1,q1⟩=>?_
 refine thn (hb pins s1 σ H1 _ I1 q1) fun u s2 ⟨y,H2,I2,r2,q2⟩=>?_
 exact hf v u s2 x y H2 I2 r1 r2 q2
theorem qa7 {op:Operator}{r:R2} (ho:OpR X (binaryOp op) r) (ha:PE X a ta) (hb:PE X b tb):PE X (.BinOp a op b pos) (tOp r ta tb):=by
 intro pins s σ H Q I h
 exact wpAny_BinOp (binT ha hb I h fun v u s2 x y H2 I2 rx ry q=>ho pins s2 σ H2 x y v u Q I2 rx ry q)
theorem pe_un {op:UnaryOp}{r:V→Hp→VK→Prop} (ho:UnR X (unaryOp op) r) (ha:PE X a ta):PE X (.UnaryOp op a pos) (tUn r ta):=by
 intro pins s σ H Q I h
 exact UnaryOp_ (thn (ha pins s σ H _ I h) fun v s1 ⟨x,H1,I1,r1,q1⟩=>ho pins s1 σ H1 x v Q I1 r1 q1)
theorem opI {f:Value→Value→Sem Value}{C:Int→Int→Prop}{g:Int→Int→Int}
  (rule:∀ (i j:Int) (t u:Tok) (s:Shared) (Q:Value→Shared→Prop) (E:Value→Shared→Prop),C i j→Q (.int (g i j) s.toks) { s with toks:=s.toks+1 }→wpAny (model X.prog X.w) X.A (f (.int i t) (.int j u)) Q E s) :
  OpR X f (rI C fun i j=>.int (g i j)):=by
 intro pins s σ H x y v u Q I rx ry h
 obtain ⟨i,j,rfl,rfl,hc,q⟩:=h
 obtain ⟨t,rfl⟩:=rx
 obtain ⟨t',rfl⟩:=ry
 exact rule i j t t' s _ _ hc ⟨.int (g i j),H,I.tok _,⟨_,rfl⟩,q⟩
theorem opI0 {f:Value→Value→Sem Value}{g:Int→Int→Int}
  (rule:∀ (i j:Int) (t u:Tok) (s:Shared) (Q:Value→Shared→Prop) (E:Value→Shared→Prop),Q (.int (g i j) s.toks) { s with toks:=s.toks+1 }→wpAny (model X.prog X.w) X.A (f (.int i t) (.int j u)) Q E s) :
  OpR X f (rI0 fun i j=>.int (g i j)):=by
 intro pins s σ H x y v u Q I rx ry h
 obtain ⟨i,j,rfl,rfl,q⟩:=h
 obtain ⟨t,rfl⟩:=rx
 obtain ⟨t',rfl⟩:=ry
 exact rule i j t t' s _ _ ⟨.int (g i j),H,I.tok _,⟨_,rfl⟩,q⟩
theorem opB0 {f:Value→Value→Sem Value}{g:Int→Int→Bool}
  (rule:∀ (i j:Int) (t u:Tok) (s:Shared) (Q:Value→Shared→Prop) (E:Value→Shared→Prop),Q (.bool (g i j)) s→wpAny (model X.prog X.w) X.A (f (.int i t) (.int j u)) Q E s) :
  OpR X f (rI0 fun i j=>.bl (g i j)):=by
 intro pins s σ H x y v u Q I rx ry h
 obtain ⟨i,j,rfl,rfl,q⟩:=h
 obtain ⟨t,rfl⟩:=rx
 obtain ⟨t',rfl⟩:=ry
 exact rule i j t t' s _ _ ⟨.bl (g i j),H,I,rfl,q⟩
noncomputable def CDiv (i j:Int):Prop:=0<j∧j<1073741824
noncomputable def CPow (i j:Int):Prop:=0≤j∧j≤1000000∧i.natAbs<2 ^ 64
noncomputable def CMul (i j:Int):Prop:=(-(2 ^ 64)<i∧i<2 ^ 64)∨(-(2 ^ 64)<j∧j<2 ^ 64)
theorem CMul.ok {i j:Int} (h:CMul i j):IntMulOk i j:=by
 rcases h with ⟨h1,h2⟩|⟨h1,h2⟩
 ·exact .of_left (intBits_le_64 h1 h2)
 ·exact .of_right (intBits_le_64 h1 h2)
theorem yb0:OpR X (binaryOp .Add) (rI0 fun i j=>.int (i+j)):=opI0 fun _ _ _ _ _ _ _ q=>add_int q
theorem qh6:OpR X (binaryOp .Sub) (rI0 fun i j=>.int (i-j)):=opI0 fun _ _ _ _ _ _ _ q=>sub_int q
theorem yji:OpR X (binaryOp .Mult) (rI CMul fun i j=>.int (i*j)):=opI fun _ _ _ _ _ _ _ hc q=>mul_int q hc.ok
theorem qlv:OpR X (binaryOp .FloorDiv) (rI CDiv fun i j=>.int (i / j)):=opI fun i j _ _ _ _ _ hc q=>by
 have h1:(0:Int)<j:=hc.1
 have h2:j<1073741824:=hc.2
 exact floordiv_int (by omega) (by rw[Int.fdiv_eq_ediv_of_nonneg i (by omega)];exact q) (.inl (PyProof.noPylong_small (by omega)))
theorem qdh:OpR X (binaryOp .Mod) (rI (fun _ j=>0<j) fun i j=>.int (i % j)):=opI fun i j _ _ _ _ _ hc q=>by
 have h1:(0:Int)<j:=hc
 exact mod_int' (by omega) (by rw[Int.fmod_eq_emod_of_nonneg i (by omega)];exact q)
theorem op_pow:OpR X (binaryOp .Pow) (rI CPow fun i j=>.int (i ^ j.toNat)):=opI fun _ _ _ _ _ _ _ hc q=>pow_int_small hc.1 hc.2.1 hc.2.2 q
theorem unI {f:Value→Sem Value}{g:Int→Int}
  (rule:∀ (i:Int) (t:Tok) (s:Shared) (Q:Value→Shared→Prop) (E:Value→Shared→Prop),Q (.int (g i) s.toks) { s with toks:=s.toks+1 }→wpAny (model X.prog X.w) X.A (f (.int i t)) Q E s) :
  UnR X f (rU fun i=>.int (g i)):=by
 intro pins s σ H x v Q I rx h
 obtain ⟨i,rfl,q⟩:=h
 obtain ⟨t,rfl⟩:=rx
 exact rule i t s _ _ ⟨.int (g i),H,I.tok _,⟨_,rfl⟩,q⟩
theorem yjj:UnR X (unaryOp .USub) (rU fun i=>.int (-i)):=unI fun _ _ _ _ _ q=>neg_int q
end
noncomputable def scal:V→V→Bool
 | .non,.non=>true | .non,.int _=>true | .int _,.non=>true | .non,.bl _=>true | .bl _,.non=>true | .non,.str _=>true | .str _,.non=>true
 | .int _,.int _=>true | .bl _,.bl _=>true | .str _,.str _=>true | .byt _,.byt _=>true
 | .int _,.str _=>true | .str _,.int _=>true | .bl _,.str _=>true | .str _,.bl _=>true
 | _,_=>false
noncomputable def rEq:R2:=fun x y H Q=>scal x y=true∧Q (.bl (decide (x=y))) H
noncomputable def rNe:R2:=fun x y H Q=>scal x y=true∧Q (.bl (!decide (x=y))) H
theorem ylu {i j:Int}:decide (V.int i=V.int j)=(i == j):=by
 rw[Bool.eq_iff_iff]
 simp
theorem dec_bl {i j:Bool}:decide (V.bl i=V.bl j)=(i == j):=by
 rw[Bool.eq_iff_iff]
 simp
theorem yku {i j:Str}:decide (V.str i=V.str j)=(i == j):=by
 rw[Bool.eq_iff_iff]
 simp
theorem qly {i j:Array UInt8}:decide (V.byt i=V.byt j)=(i.toList == j.toList):=by
 rw[Bool.eq_iff_iff]
 cases i
 cases j
 simp
section
variable {X:Cx}{a b c:Expr}{ta tb tc:TE}{pos:Pos}
theorem ya3 {pins:List (Addr×Obj)}{σ:St}{H:Hp}{s:Shared}{Q:VK}{k k':Bool} (I:Inv X pins σ H s) (q:Q (.bl k) H) (e:k=k'):EP X pins σ Q (.bool k') s:=by
 subst e
 exact ⟨.bl k,H,I,rfl,q⟩
theorem qa6:OpR X (compareOp .Eq) rEq:=by
 intro pins s σ H x y v u Q I rx ry h
 obtain ⟨hs,q⟩:=h
 cases x with
 | non=>
  cases rx
  cases y with
  | non=>cases ry;exact PySem.EqNone.eq_none_none (ya3 I q (by simp))
  | bl j=>cases ry;exact PySem.EqNone.eq_none_bool (ya3 I q (by simp))
  | int j=>obtain ⟨t',rfl⟩:=ry;exact PySem.EqNone.eq_none_int (ya3 I q (by simp))
  | str j=>obtain ⟨t',rfl⟩:=ry;exact PySem.EqNone.eq_none_str (ya3 I q (by simp))
  | _=>exact absurd (show false=true from hs) Bool.false_ne_true
 | bl i=>
  cases rx
  cases y with
  | non=>cases ry;exact PySem.EqNone.eq_bool_none (ya3 I q (by simp))
  | bl j=>cases ry;exact eq_bool (ya3 I q dec_bl)
  | str j=>obtain ⟨t',rfl⟩:=ry;exact PySem.EqMixed.eq_bool_str (ya3 I q (by simp))
  | _=>exact absurd (show false=true from hs) Bool.false_ne_true
 | int i=>
  obtain ⟨t,rfl⟩:=rx
  cases y with
  | non=>cases ry;exact PySem.EqNone.eq_int_none (ya3 I q (by simp))
  | int j=>obtain ⟨t',rfl⟩:=ry;exact eq_int (ya3 I q ylu)
  | str j=>obtain ⟨t',rfl⟩:=ry;exact PySem.EqMixed.eq_int_str (ya3 I q (by simp))
  | _=>exact absurd (show false=true from hs) Bool.false_ne_true
 | str i=>
  obtain ⟨t,rfl⟩:=rx
  cases y with
  | non=>cases ry;exact PySem.EqNone.eq_str_none (ya3 I q (by simp))
  | bl j=>cases ry;exact PySem.EqMixed.eq_str_bool (ya3 I q (by simp))
  | int j=>obtain ⟨t',rfl⟩:=ry;exact PySem.EqMixed.eq_str_int (ya3 I q (by simp))
  | str j=>obtain ⟨t',rfl⟩:=ry;exact eq_str (ya3 I q yku)
  | _=>exact absurd (show false=true from hs) Bool.false_ne_true
 | byt i=>
  obtain ⟨t,rfl⟩:=rx
  cases y with
  | byt j=>obtain ⟨t',rfl⟩:=ry;exact PySem.W.eq_bytes (ya3 I q qly)
  | _=>exact absurd (show false=true from hs) Bool.false_ne_true
 | _=>cases y<;>exact absurd (show false=true from hs) Bool.false_ne_true
theorem qgx:OpR X (compareOp .NotEq) rNe:=by
 intro pins s σ H x y v u Q I rx ry h
 obtain ⟨hs,q⟩:=h
 cases x with
 | non=>
  cases rx
  cases y with
  | non=>cases ry;exact PySem.EqNone.ne_none_none (ya3 I q (by simp))
  | bl j=>cases ry;exact PySem.EqNone.ne_none_bool (ya3 I q (by simp))
  | int j=>obtain ⟨t',rfl⟩:=ry;exact PySem.EqNone.ne_none_int (ya3 I q (by simp))
  | str j=>obtain ⟨t',rfl⟩:=ry;exact PySem.EqNone.ne_none_str (ya3 I q (by simp))
  | _=>exact absurd (show false=true from hs) Bool.false_ne_true
 | bl i=>
  cases rx
  cases y with
  | non=>cases ry;exact PySem.EqNone.ne_bool_none (ya3 I q (by simp))
  | bl j=>cases ry;exact ne_bool (ya3 I q (congrArg not dec_bl))
  | str j=>obtain ⟨t',rfl⟩:=ry;exact PySem.EqMixed.ne_bool_str (ya3 I q (by simp))
  | _=>exact absurd (show false=true from hs) Bool.false_ne_true
 | int i=>
  obtain ⟨t,rfl⟩:=rx
  cases y with
  | non=>cases ry;exact PySem.EqNone.ne_int_none (ya3 I q (by simp))
  | int j=>obtain ⟨t',rfl⟩:=ry;exact ne_int (ya3 I q (congrArg not ylu))
  | str j=>obtain ⟨t',rfl⟩:=ry;exact PySem.EqMixed.ne_int_str (ya3 I q (by simp))
  | _=>exact absurd (show false=true from hs) Bool.false_ne_true
 | str i=>
  obtain ⟨t,rfl⟩:=rx
  cases y with
  | non=>cases ry;exact PySem.EqNone.ne_str_none (ya3 I q (by simp))
  | bl j=>cases ry;exact PySem.EqMixed.ne_str_bool (ya3 I q (by simp))
  | int j=>obtain ⟨t',rfl⟩:=ry;exact PySem.EqMixed.ne_str_int (ya3 I q (by simp))
  | str j=>obtain ⟨t',rfl⟩:=ry;exact ne_str (ya3 I q (congrArg not yku))
  | _=>exact absurd (show false=true from hs) Bool.false_ne_true
 | byt i=>
  obtain ⟨t,rfl⟩:=rx
  cases y with
  | byt j=>obtain ⟨t',rfl⟩:=ry;exact PySem.W.ne_bytes (ya3 I q (congrArg not qly))
  | _=>exact absurd (show false=true from hs) Bool.false_ne_true
 | _=>cases y<;>exact absurd (show false=true from hs) Bool.false_ne_true
theorem op_lt:OpR X (compareOp .Lt) (rI0 fun i j=>.bl (decide (i<j))):=opB0 fun _ _ _ _ _ _ _ q=>lt_int q
theorem op_le:OpR X (compareOp .LtE) (rI0 fun i j=>.bl (decide (i≤j))):=opB0 fun _ _ _ _ _ _ _ q=>le_int q
theorem qfk:OpR X (compareOp .Gt) (rI0 fun i j=>.bl (decide (j<i))):=opB0 fun _ _ _ _ _ _ _ q=>gt_int q
theorem qig:OpR X (compareOp .GtE) (rI0 fun i j=>.bl (decide (j≤i))):=opB0 fun _ _ _ _ _ _ _ q=>ge_int q
theorem qaj (b:Expr) {op:CmpOp} (h:op≠.In:=by decide) (h2:op≠.NotIn:=by decide):behindInMarks op b=false:=by
 have e1:(op == CmpOp.In)=false:=by cases op<;>first|rfl|exact absurd rfl h
 have e2:(op == CmpOp.NotIn)=false:=by cases op<;>first|rfl|exact absurd rfl h2
 cases b<;>simp[behindInMarks,e1,e2]
theorem qau {op:CmpOp}{r:R2} (ho:OpR X (compareOp op) r) (ha:PE X a ta) (hb:PE X b tb) (hm:behindInMarks op b=false):PE X (.Compare a [op] [b] pos) (tOp r ta tb):=by
 intro pins s σ H Q I h
 exact wpAny_Compare1 (binT ha hb I h fun v u s2 x y H2 I2 rx ry q=>ho pins s2 σ H2 x y v u Q I2 rx ry q) hm
noncomputable def tTest (t:TE):TT:=fun σ H Q=>t σ H fun x H'=>∃ k,x=.bl k∧Q k H'
theorem qao {op:CmpOp}{r:R2} (ho:OpR X (compareOp op) r) (ha:PE X a ta) (hb:PE X b tb) (hm:behindInMarks op b=false):PT X (.Compare a [op] [b] pos) (tTest (tOp r ta tb)):=by
 intro pins s σ H Q I h
 refine wpAny_isTrue_Compare1 (thn (ha pins s σ H _ I h) fun v s1 ⟨x,H1,I1,r1,q1⟩=>thn (hb pins s1 σ H1 _ I1 q1) fun u s2 ⟨y,H2,I2,r2,q2⟩=>
  thn (ho pins s2 σ H2 x y v u _ I2 r1 r2 q2) fun c s3 ⟨z,H3,I3,r3,k,e,q3⟩=>?_) hm
 subst e
 cases r3
 exact wpAny_truthy_bool ⟨H3,I3,q3⟩
theorem qjy:(sizeLine:Nat)<2 ^ 63:=by rw[sizeLine_eq];decide
theorem ykj {x:V}{us:List Value} (r:Vals [x] us):∃ u,us=[u]∧RelV x u:=by
 cases r with
 | cons r1 r2=>cases r2;exact ⟨_,rfl,r1⟩
theorem vals2 {x y:V}{us:List Value} (r:Vals [x,y] us):∃ u w',us=[u,w']∧RelV x u∧RelV y w':=by
 cases r with
 | cons r1 r2=>
  cases r2 with
  | cons r3 r4=>cases r4;exact ⟨_,_,rfl,r1,r3⟩
theorem call_abs:yc1 X (.builtin "abs") (fun xs H Q=>∃ i,xs=[.int i]∧Q (.int (if i<0 then -i else i)) H):=by
 intro pins s σ H xs us Q I r h
 obtain ⟨i,rfl,q⟩:=h
 obtain ⟨u,rfl,t,rfl⟩:=ykj r
 exact call_abs_int fun u tk=>⟨.int (if i<0 then -i else i),H,I.tok _,⟨_,rfl⟩,q⟩
theorem qis (hc:X.calm=true):yc1 X (.builtin "max") (fun xs H Q=>∃ i j,xs=[.int i,.int j]∧Q (.int (if j>i then j else i)) H):=by
 intro pins s σ H xs us Q I r h
 obtain ⟨i,j,rfl,q⟩:=h
 obtain ⟨u,w',rfl,⟨t,rfl⟩,⟨t',rfl⟩⟩:=vals2 r
 refine max_two_ints (I.ok.hd hc) fun h' tk k=>⟨_,H,I.kept k,?_,q⟩
 by_cases hj:j>i
 ·rw[if_pos hj,if_pos hj];exact ⟨_,rfl⟩
 ·rw[if_neg hj,if_neg hj];exact ⟨_,rfl⟩
theorem ylb (hc:X.calm=true):yc1 X (.builtin "min") (fun xs H Q=>∃ i j,xs=[.int i,.int j]∧Q (.int (if j<i then j else i)) H):=by
 intro pins s σ H xs us Q I r h
 obtain ⟨i,j,rfl,q⟩:=h
 obtain ⟨u,w',rfl,⟨t,rfl⟩,⟨t',rfl⟩⟩:=vals2 r
 refine min_two_ints (I.ok.hd hc) fun h' tk k=>⟨_,H,I.kept k,?_,q⟩
 by_cases hj:j<i
 ·rw[if_pos hj,if_pos hj];exact ⟨_,rfl⟩
 ·rw[if_neg hj,if_neg hj];exact ⟨_,rfl⟩
theorem qio:yc1 X (.type "int") (fun xs H Q=>(∃ i,xs=[.int i]∧Q (.int i) H)∨∃ k,xs=[.bl k]∧Q (.int (if k then 1 else 0)) H):=by
 intro pins s σ H xs us Q I r h
 rcases h with ⟨i,rfl,q⟩|⟨k,rfl,q⟩
 ·obtain ⟨u,rfl,t,rfl⟩:=ykj r
  exact call_int_int ⟨.int i,H,I,⟨_,rfl⟩,q⟩
 ·obtain ⟨u,rfl,r1⟩:=ykj r
  cases r1
  exact call_int_bool ⟨.int (if k then 1 else 0),H,I.tok _,⟨_,rfl⟩,q⟩
end
structure ObjM (h:Heap) (x dx C:Addr) (mA:Str→Option Value):Prop where
 obj:h.get? x=some (PySem.W.instObj C dx)
 ns:h.Ns1 dx mA
 ne:dx≠x
theorem ylq {h:Heap}{dx:Addr}{mA:Str→Option Value} (n:h.Ns1 dx mA):∃ od,h.get? dx=some od∧∀ name,PySem.W.lookIn name od=some (mA name):=by
 obtain ⟨o,es,ep,ho,hd,hk,_,hm⟩:=n
 refine ⟨o,ho,fun name=>?_⟩
 have e:=hm name
 unfold nsFind findBy at e
 rw[← Array.find?_toList] at e
 unfold PySem.W.lookIn
 rw[hd]
 dsimp only
 split
 ·rename_i y q
  rw[q] at e
  exact congrArg some e
 ·rename_i q
  rw[q] at e
  have a:es.toList.any (·.refKey)=false:=by
   rw[List.any_eq_false]
   intro y hy
   obtain ⟨z,t,hkey⟩:=hk y (Array.mem_toList_iff.mp hy)
   simp[DictEntry.refKey,hkey]
  have a':¬ es.toList.any (·.refKey)=true:=by rw[a];exact Bool.false_ne_true
  rw[if_neg a']
  exact congrArg some e
theorem ObjM.look {h:Heap}{x dx C:Addr}{mA:Str→Option Value} (I:ObjM h x dx C mA):∃ od,PySem.W.InstAt h x (PySem.W.instObj C dx) C (some od)∧∀ name,PySem.W.lookIn name od=some (mA name):=
 let ⟨od,ho,hl⟩:=ylq I.ns
 ⟨od,⟨I.obj,rfl,rfl,ho⟩,hl⟩
section
variable {prog:Program}{w:World}{A:Around}{E:Value→Shared→Prop}{s:Shared}{K:PySem.W.Frag}{x dx C f:Addr}{mA:Str→Option Value}{name:Str}{v:Value}
theorem get_map {expr:Bool}{Q:Value→Shared→Prop} (X:K.In s.heap) (I:ObjM s.heap x dx C mA) (hg:PySem.W.plainGet K C name=true) (hh:PySem.W.hasDictIn K C=true)
  (ha:PySem.W.findIn K (.ref C) name=some none) (hv:mA name=some v) (hv':PySem.W.handedIn v=true) (h:Q v { s with toks:=s.toks+1 }) :
  wpAny (model prog w) A (getAttr (.ref x) name expr) Q E s:=by
 obtain ⟨od,J,hl⟩:=I.look
 exact PySem.W.get_value X J (PySem.W.plainGet_of hg).1 (PySem.W.findObj_own hh ha rfl (by rw[hl,hv])) hv' h
theorem get_meth {pl:Sem Bool}{Q:Value×List Value→Shared→Prop} (X:K.In s.heap) (I:ObjM s.heap x dx C mA) (hg:PySem.W.plainGet K C name=true)
  (hf:PySem.W.findIn K (.ref C) name=some (some (.ref f))) (ht:PySem.W.isFn K (.ref f)=true) (hv:mA name=none) (h:Q (.ref f,[.ref x]) s) :
  wpAny (model prog w) A (getMethod (.ref x) name pl) Q E s:=by
 obtain ⟨od,J,hl⟩:=I.look
 exact PySem.W.method_fn X J (PySem.W.plainGet_of hg).1 (PySem.W.plainGet_of hg).2 hf (beq_iff_eq.mp ht) (by show (PySem.W.lookIn name od).map (·.isSome)=some false;rw[hl,hv];rfl) h
theorem set_map {ns:List Str}{Q:Unit→Shared→Prop} (X:K.In s.heap) (I:ObjM s.heap x dx C mA)
  (hs:PySem.W.findIn K (.ref C) "__setattr__" = some (some (.builtin "object.__setattr__"))) (hp:PySem.W.plainOver K C=true) (ht:PySem.W.takerIn K C name=some none) (hh:PySem.W.hasDictIn K C=true)
  (hw:PySem.Within mA ns) (hsz:ns.length≤sizeLine)
  (h:∀ h',ObjM h' x dx C (fun y=>if y=name then some v else mA y)→Heap.SameBut dx s.heap h'→Q () { s with heap:=h',toks:=s.toks+2 }) :
  wpAny (model prog w) A (setAttr (.ref x) name v) Q E s:=by
 obtain ⟨od,J,hl⟩:=I.look
 refine PySem.W.set_plain X J hs (PySem.W.osa_open (s:={ s with toks:=s.toks+1 }) (r:=none) X J hp ht fun b=>?_)
 obtain ⟨cd,hc,hd'⟩:=PySem.W.any_some hh
 have hx:s.heap.get? x=some ⟨.ref C,some dx,.plain,#[]⟩:=I.obj
 refine wpAny_bind (wpAny_pure (wpAny_bind (wpAny_bind (wpAny_loadPart hx (wpAny_bind (PySem.W.Looks.here (s:={ s with toks:=s.toks+1 }) (PySem.W.looks_clsIn X hc) ?_))))))
 rw[hd']
 refine wpAny_pure (a:=some dx) (wpAny_bind (wpAny_pure (wpAny_bind ?_)))
 refine wpAny_nsSet1 (s:={ s with toks:=s.toks+1 }) I.ns fun h' hn2 hs2=>?_
 obtain ⟨oD,esD,epD,hoD,hdD,hcD⟩:=hn2.count (PySem.Within.cons name v hw)
 refine wpAny_bind (wpAny_lookBehind hoD (by rw[hdD];exact pastItsLine_dict (Nat.le_trans hcD (by rw[List.length_cons];omega))) ?_)
 exact wpAny_pure (h _ ⟨(hs2.2 _ (Ne.symm I.ne)).trans I.obj,hn2,I.ne⟩ hs2)
theorem make_map {R:Result→Shared→Prop}{vs:List Value}{kw:List (Str×Value)} (X:K.In s.heap) (hm:PySem.W.makesIn K C=true)
  (hi:PySem.W.findIn K (.ref C) "__init__" = some (some (.ref f))) (hf:PySem.W.typeIn K (.ref f)=some (.type "function"))
  (h:codeAny (model prog w) (A.under (.builtin "type.__call__" ⟨.ref C::vs,kw⟩)) (.call (.ref f) ⟨.ref (s.heap.objs.size+1)::vs,kw⟩) (PySem.W.InitBack (s.heap.objs.size+1) R)
   {s with heap:=(s.heap.push PySem.W.emptyDict).push (PySem.W.instObj C s.heap.objs.size) }) :
  codeAny (model prog w) A (.call (.ref C) ⟨vs,kw⟩) R s:=by
 obtain ⟨hh,g,d,t,os⟩:=s
 exact PySem.W.make_core (PySem.W.makes_of X hm) (PySem.W.looks_findIn X hi) (fun self=>PySem.W.bind_fn X self hf) (.inl rfl) h
end
noncomputable def putF (f:Str) (v:V):List (Str×V)→List (Str×V)
 | []=>[(f,v)]
 | (g,x)::r=>if g=f then (g,v)::r else (g,x)::putF f v r
theorem yeb (f g:Str) (v:V):∀ fs:List (Str×V),(putF f v fs).lookup g=if g=f then some v else fs.lookup g
 | []=>by
  show List.lookup g [(f,v)]=_
  by_cases h:g=f
  ·have hb:(g == f)=true:=beq_iff_eq.mpr h
   simp only[List.lookup,hb,if_pos h]
  ·have hb:(g == f)=false:=beq_eq_false_iff_ne.mpr h
   simp only[List.lookup,hb,if_neg h]
 | (k,x)::r=>by
  have ih:=yeb f g v r
  rw[show putF f v ((k,x)::r)=(if k=f then (k,v)::r else (k,x)::putF f v r) from rfl]
  by_cases hk:k=f
  ·rw[if_pos hk]
   by_cases h:g=k
   ·have hb:(g == k)=true:=beq_iff_eq.mpr h
    simp only[List.lookup,hb,if_pos (h.trans hk)]
   ·have hb:(g == k)=false:=beq_eq_false_iff_ne.mpr h
    simp only[List.lookup,hb,if_neg (fun e:g=f=>h (e.trans hk.symm))]
  ·rw[if_neg hk]
   by_cases h:g=k
   ·have hb:(g == k)=true:=beq_iff_eq.mpr h
    simp only[List.lookup,hb,if_neg (fun e:g=f=>hk (h.symm.trans e))]
   ·have hb:(g == k)=false:=beq_eq_false_iff_ne.mpr h
    simp only[List.lookup,hb]
    exact ih
theorem qdo (f:Str) (v:V):∀ fs:List (Str×V),f∈(putF f v fs).map (·.1)∧∀ g,g∈fs.map (·.1)→g∈(putF f v fs).map (·.1)
 | []=>⟨by simp[putF],fun g h=>by simp at h⟩
 | (k,x)::r=>by
  obtain ⟨i1,i2⟩:=qdo f v r
  rw[show putF f v ((k,x)::r)=(if k=f then (k,v)::r else (k,x)::putF f v r) from rfl]
  by_cases hk:k=f
  ·rw[if_pos hk]
   subst hk
   exact ⟨by simp,fun g h=>by simpa using h⟩
  ·rw[if_neg hk]
   refine ⟨?_,fun g h=>?_⟩
   ·rw[List.map_cons]
    exact List.mem_cons_of_mem _ i1
   ·rw[List.map_cons] at h ⊢
    rcases List.mem_cons.mp h with e|e
    ·exact List.mem_cons.mpr (.inl e)
    ·exact List.mem_cons_of_mem _ (i2 g e)
theorem yea (f:Str) (v:V):∀ fs:List (Str×V),(putF f v fs).length≤fs.length+1
 | []=>by simp[putF]
 | (k,x)::r=>by
  have ih:=yea f v r
  rw[show putF f v ((k,x)::r)=(if k=f then (k,v)::r else (k,x)::putF f v r) from rfl]
  by_cases hk:k=f
  ·rw[if_pos hk,List.length_cons,List.length_cons];omega
  ·rw[if_neg hk,List.length_cons,List.length_cons];omega
theorem RelO.some_of {v:V}{o:Option Value} (r:RelO (some v) o):∃ u,o=some u∧RelV v u:=by
 cases o with
 | none=>exact (show False from r).elim
 | some u=>exact ⟨u,rfl,r⟩
theorem RelO.none_of {o:Option Value} (r:RelO none o):o=none:=by
 cases o with
 | none=>rfl
 | some u=>exact (show False from r).elim
theorem yk5 {v:V}{u:Value} (r:RelV v u):PySem.W.handedIn u=true:=by
 cases v with
 | non=>cases (show u=Value.none from r);rfl
 | bl b=>cases (show u=Value.bool b from r);rfl
 | int i=>obtain ⟨t,e⟩:=(show ∃ t,u=Value.int i t from r);cases e;rfl
 | str x=>obtain ⟨t,e⟩:=(show ∃ t,u=Value.str x t from r);cases e;rfl
 | byt b=>obtain ⟨t,e⟩:=(show ∃ t,u=Value.bytes b t from r);cases e;rfl
 | flt b=>obtain ⟨t,e⟩:=(show ∃ t,u=Value.float b t from r);cases e;rfl
 | ref a=>cases (show u=Value.ref a from r);rfl
 | ty n=>cases (show u=Value.type n from r);rfl
section
variable {P:Program}{w:World}{H H':Hp}{h h':Heap}{a C dx:Addr}{fs fs':List (Str×V)}
theorem yhe (hok:HOk P w H h) (e:H a=some (.ins C dx fs)):∃ mA,ObjM h a dx C mA∧(∀ f,RelO (fs.lookup f) (mA f))∧PySem.Within mA (fs.map (·.1))∧fs.length≤1000∧H dx=some (.own a):=by
 obtain ⟨d,z,ne,ob,mA,n,r,q⟩:=(show ybq P w H h a (.ins C dx fs) from hok a _ e)
 exact ⟨mA,⟨ob,n,ne⟩,r,q,z,d⟩
end
structure Cls (K:PySem.W.Frag) (C:Addr):Prop where
 pg:PySem.W.plainGet K C Str.empty=true
 hd:PySem.W.hasDictIn K C=true
 po:PySem.W.plainOver K C=true
 sa:PySem.W.findIn K (.ref C) "__setattr__" = some (some (.builtin "object.__setattr__"))
theorem Cls.get {K:PySem.W.Frag}{C:Addr} (c:Cls K C) (f:Str):PySem.W.plainGet K C f=true:=c.pg
noncomputable def qfa (K:PySem.W.Frag) (C:Addr) (f:Str):Prop:=PySem.W.findIn K (.ref C) f=some none
theorem qfa.taker {K:PySem.W.Frag}{C:Addr}{f:Str} (n:qfa K C f):PySem.W.takerIn K C f=some none:=by
 unfold PySem.W.takerIn
 rw[show PySem.W.findIn K (.ref C) f=some none from n]
 rfl
structure Meth (K:PySem.W.Frag) (C:Addr) (m:Str) (f:Addr):Prop where
 at_:PySem.W.findIn K (.ref C) m=some (some (.ref f))
 fn:PySem.W.isFn K (.ref f)=true
 kp:PySem.W.keepIn K (.ref f)=true
section
variable {X:Cx}{pins:List (Addr×Obj)}{σ:St}{H:Hp}{s:Shared}{a C dx:Addr}{fs:List (Str×V)}{f:Str}{v:V}{A:Around}{E:Value→Shared→Prop}
theorem ykc {b:Bool}{Q:Value→Shared→Prop} (I:Inv X pins σ H s) (e:H a=some (.ins C dx fs)) (c:Cls X.K C) (n:qfa X.K C f) (l:fs.lookup f=some v)
  (h:∀ u s',Inv X pins σ H s'→RelV v u→Q u s'):wpAny (model X.prog X.w) A (getAttr (.ref a) f b) Q E s:=by
 obtain ⟨mA,O,r,_,_,_⟩:=yhe I.hok e
 obtain ⟨u,hu,ru⟩:=RelO.some_of (v:=v) (o:=mA f) (by rw[← l];exact r f)
 exact get_map I.kIn O (c.get f) c.hd n hu (yk5 ru) (h u _ (I.tok _) ru)
theorem yg8 {m:Str}{g:Addr}{pl:Sem Bool}{Q:Value×List Value→Shared→Prop} (I:Inv X pins σ H s) (e:H a=some (.ins C dx fs)) (c:Cls X.K C) (k:Meth X.K C m g) (l:fs.lookup m=none)
  (h:Q (.ref g,[.ref a]) s):wpAny (model X.prog X.w) A (getMethod (.ref a) m pl) Q E s:=by
 obtain ⟨mA,O,r,_,_,_⟩:=yhe I.hok e
 have hn:mA m=none:=RelO.none_of (by rw[← l];exact r m)
 exact get_meth I.kIn O (c.get m) k.at_ k.fn hn h
theorem yj5 {y:V}{u:Value}{Q:Unit→Shared→Prop} (I:Inv X pins σ H s) (e:H a=some (.ins C dx fs)) (c:Cls X.K C) (n:qfa X.K C f) (hl:fs.length<1000) (ry:RelV y u)
  (h:∀ s',Inv X pins σ (upd H a (.ins C dx (putF f y fs))) s'→Q () s'):wpAny (model X.prog X.w) A (setAttr (.ref a) f u) Q E s:=by
 obtain ⟨mA,O,r,wi,_,ho⟩:=yhe I.hok e
 have hz:(fs.map (·.1)).length≤sizeLine:=by rw[List.length_map,sizeLine_eq];omega
 refine set_map I.kIn O c.sa c.po n.taker c.hd wi hz fun h' O' sb=>h _ ?_
 have hd:∃ o,h'.get? dx=some o:=let ⟨o,_,_,e',_⟩:=O'.ns;⟨o,e'⟩
 refine I.write (x:=a) (e:=dx) (by rw[e];exact True.intro) (.inr ho) (fun b q hb z=>(sb.2 b hb).trans z) hd ?_
 refine ⟨by rw[yai O.ne];exact ho,?_,O.ne,O'.obj,_,O'.ns,fun g=>?_,fun g hg=>?_⟩
 ·have:=yea f y fs;omega
 ·show RelO ((putF f y fs).lookup g) (if g=f then some u else mA g)
  rw[yeb]
  by_cases q:g=f
  ·rw[if_pos q,if_pos q];exact ry
  ·rw[if_neg q,if_neg q];exact r g
 ·by_cases q:g=f
  ·rw[q];exact (qdo f y fs).1
  ·refine (qdo f y fs).2 g (wi g fun z=>hg ?_)
   show (if g=f then some u else mA g)=none
   rw[if_neg q];exact z
theorem Inv.made (I:Inv X pins σ H s):Inv X pins σ (upd (upd H s.heap.objs.size (.own (s.heap.objs.size+1))) (s.heap.objs.size+1) (.ins C s.heap.objs.size []))
  {s with heap:=(s.heap.push PySem.W.emptyDict).push (PySem.W.instObj C s.heap.objs.size) }:=by
 have e1:(s.heap.push PySem.W.emptyDict).get? s.heap.objs.size=some PySem.W.emptyDict:=Heap.get?_push_size s.heap rfl
 have e2:((s.heap.push PySem.W.emptyDict).push (PySem.W.instObj C s.heap.objs.size)).get? (s.heap.objs.size+1)=some (PySem.W.instObj C s.heap.objs.size):=by
  have:=Heap.get?_push_size (s.heap.push PySem.W.emptyDict) (o:=PySem.W.instObj C s.heap.objs.size) rfl
  rwa [Heap.size_push] at this
 have e3:(s.heap.push PySem.W.emptyDict).Ns s.heap.objs.size (fun _=>none):=⟨PySem.W.emptyDict,#[],_,e1,rfl,(fun e he=>absurd he (by simp)),fun _=>rfl⟩
 have I1:=I.laid (a:=s.heap.objs.size) (o:=.own (s.heap.objs.size+1)) (h':=s.heap.push PySem.W.emptyDict) (t':=s.toks) (fun b u q=>Heap.get?_push_of_some _ q) (Nat.le_refl _) ⟨_,e1⟩
 refine I1.laid (a:=s.heap.objs.size+1) (o:=.ins C s.heap.objs.size []) (t':=s.toks) (fun b u q=>Heap.get?_push_of_some _ q) (Nat.le_of_eq (Heap.size_push _ _)) ?_
 have ne:s.heap.objs.size≠s.heap.objs.size+1:=Nat.ne_of_lt (Nat.lt_succ_self _)
 refine ⟨by rw[yai ne,yaa],Nat.zero_le _,ne,e2,fun _=>none,(Heap.Ns1.of_empty e3).at fun o q=>Heap.get?_push_of_some _ q,fun _=>True.intro,fun y hy=>absurd rfl hy⟩
theorem attr_of {prog:Program}{w:World}{env:Env}{e:Expr}{f:Str}{pos:Pos}{s:Shared}{Q:Value→Shared→Prop} (hb:attributeBase e f env (eval e env)=eval e env)
  (h:wpAny (model prog w) A (eval e env) (fun o s₁=>wpAny (model prog w) A (getAttr o f true) Q E s₁) E s):wpAny (model prog w) A (eval (.Attribute e f pos) env) Q E s:=
 Attribute_any_ h (by rw[arm_eval_Attribute,hb])
end
noncomputable def tFld (K:PySem.W.Frag) (ta:TE) (f:Str):TE:=fun σ H Q=>ta σ H fun x H1=>∃ a C dx fs v,x=.ref a∧H1 a=some (.ins C dx fs)∧Cls K C∧qfa K C f∧fs.lookup f=some v∧Q v H1
noncomputable def sFld (K:PySem.W.Frag) (ta tv:TE) (f:Str):TS:=fun D σ H=>tv σ H fun y H1=>ta σ H1 fun x H2=>∃ a C dx fs,x=.ref a∧H2 a=some (.ins C dx fs)∧Cls K C∧qfa K C f∧fs.length<1000∧
 D.nx σ (upd H2 a (.ins C dx (putF f y fs)))
section
variable {X:Cx}{o e value:Expr}{f:Str}{pos pos' tpos:Pos}{ta tv:TE}
theorem pe_fld (he:PE X e ta) (hb:attributeBase e f X.env (eval e X.env)=eval e X.env):PE X (.Attribute e f pos) (tFld X.K ta f):=by
 intro pins s σ H Q I h
 refine attr_of hb (thn (he pins s σ H _ I h) fun u s1 ⟨x,H1,I1,rx,a,C,dx,fs,v,ex,ea,c,n,l,q⟩=>?_)
 subst ex
 obtain rfl:u=Value.ref a:=rx
 exact ykc I1 ea c n l fun u' s2 I2 ru=>⟨v,H1,I2,ru,q⟩
theorem ps_fld (ha:PE X o ta) (hv:PE X value tv) (hs:swapsWith value (some (.Attribute o f pos')) pos.line X.env=pure false):PS X (.Assign [.Attribute o f pos'] value pos) (sFld X.K ta tv f):=by
 intro pins s σ H D I h
 refine plainObj_wpAny_Assign_Attribute (thn (hv pins s σ H _ I h) fun u s1 ⟨y,H1,I1,ry,q⟩=>thn (ha pins s1 σ H1 _ I1 q) fun ov s2 ⟨x,H2,I2,rx,a,C,dx,fs,ex,ea,c,n,l,q2⟩=>?_) hs
 subst ex
 obtain rfl:ov=Value.ref a:=rx
 exact yj5 I2 ea c n l ry fun s3 I3=>⟨σ,_,I3,q2⟩
end
section
variable {X:Cx}{pins:List (Addr×Obj)}{σ:St}{H:Hp}{s:Shared}{A:Around}{E:Value→Shared→Prop}{Q:Value→Shared→Prop}{c:Value}{b:Bool}
inductive TyOf (K:PySem.W.Frag) (H:Hp):V→Value→Prop where
 | non:TyOf K H .non (.type "NoneType")
 | bl (x:Bool):TyOf K H (.bl x) (.type "bool")
 | int (i:Int):TyOf K H (.int i) (.type "int")
 | str (x:Str):TyOf K H (.str x) (.type "str")
 | flt (x:UInt64):TyOf K H (.flt x) (.type "float")
 | lst {a:Addr}{xs:List V} (e:H a=some (.lst xs)):TyOf K H (.ref a) (.type "list")
 | frz {a:Addr}{o:Obj}{xs:List V} (e:H a=some (.frz o (.lst xs))):TyOf K H (.ref a) (.type "list")
 | tup {a:Addr}{xs:List V} (e:H a=some (.tup xs)):TyOf K H (.ref a) (.type "tuple")
 | dK {a:Addr}{kvs:List (Key×V)} (e:H a=some (.dK kvs)):TyOf K H (.ref a) (.type "dict")
 | dT {a:Addr}{kvs:List (List Key×V)} (e:H a=some (.dT kvs)):TyOf K H (.ref a) (.type "dict")
 | ins {a C dx:Addr}{fs:List (Str×V)} (e:H a=some (.ins C dx fs)) (cl:Cls K C) (ha:PySem.W.findIn K (.ref C) "__class__" = some (some (.builtin "object.__class__")))
   (hn:PySem.W.specialIn K (.builtin "object.__class__") "__get__" = some (some (.builtin "getset_descriptor.__get__"))) (htk:PySem.W.takesIn K (.builtin "object.__class__")=some true)
   (hm:PySem.W.mroIn K C (.type "object")=some true):TyOf K H (.ref a) (.ref C)
theorem qk6 {x:V}{u t:Value} (I:Inv X pins σ H s) (rx:RelV x u) (ty:TyOf X.K H x t) (e:PySem.W.kitOne X.K t c=some b) (h:∀ tk,Q (.bool b) { s with toks:=tk }) :
  wpAny (model X.prog X.w) A (call (.builtin "isinstance") [u,c]) Q E s:=by
 cases ty with
 | non=>cases (show u=Value.none from rx);exact PySem.W.kia_one PySem.W.kitx_none I.kIn True.intro e (fun z=>nomatch z) h
 | bl y=>cases (show u=Value.bool y from rx);exact PySem.W.kia_one PySem.W.kitx_bool I.kIn True.intro e (fun z=>nomatch z) h
 | int i=>obtain ⟨t,q⟩:=(show ∃ t,u=Value.int i t from rx);cases q;exact PySem.W.kia_one PySem.W.kitx_int I.kIn True.intro e (fun z=>nomatch z) h
 | str y=>obtain ⟨t,q⟩:=(show ∃ t,u=Value.str y t from rx);cases q;exact PySem.W.kia_one PySem.W.kitx_str I.kIn True.intro e (fun z=>nomatch z) h
 | flt y=>obtain ⟨t,q⟩:=(show ∃ t,u=Value.float y t from rx);cases q;exact PySem.W.kia_one PySem.W.kitx_float I.kIn True.intro e (fun z=>nomatch z) h
 | @lst a xs ea=>
  cases (show u=Value.ref a from rx)
  obtain ⟨_,_,n,_,h1⟩:=(show ybq X.prog X.w H s.heap a (.lst xs) from I.hok a _ ea)
  exact PySem.W.kia_one PySem.W.kitx_list I.kIn ⟨_,h1,rfl⟩ e (fun z=>nomatch z) h
 | @frz a ob xs ea=>
  cases (show u=Value.ref a from rx)
  obtain ⟨_,_,_,n,_,h1⟩:=(show ybq X.prog X.w H s.heap a (.frz ob (.lst xs)) from I.hok a _ ea)
  exact PySem.W.kia_one PySem.W.kitx_list I.kIn ⟨_,h1,rfl⟩ e (fun z=>nomatch z) h
 | @tup a xs ea=>
  cases (show u=Value.ref a from rx)
  obtain ⟨_,_,_,p⟩:=(show ybq X.prog X.w H s.heap a (.tup xs) from I.hok a _ ea)
  obtain ⟨o,h1,h2,_⟩:=p
  exact PySem.W.kia_one PySem.W.kitx_tuple I.kIn ⟨o,h1,h2⟩ e (fun z=>nomatch z) h
 | @dK a kvs ea=>
  cases (show u=Value.ref a from rx)
  obtain ⟨_,_,vs,_,p⟩:=(show ybq X.prog X.w H s.heap a (.dK kvs) from I.hok a _ ea)
  obtain ⟨o,es,ep,h1,h2,_⟩:=p
  exact PySem.W.kia_one PySem.W.kitx_dict I.kIn ⟨o,h1,h2.1⟩ e (fun z=>nomatch z) h
 | @dT a kvs ea=>
  cases (show u=Value.ref a from rx)
  obtain ⟨_,_,xs,_,o,es,ep,h1,h2,_⟩:=(show ybq X.prog X.w H s.heap a (.dT kvs) from I.hok a _ ea)
  exact PySem.W.kia_one PySem.W.kitx_dict I.kIn ⟨o,h1,h2.1⟩ e (fun z=>nomatch z) h
 | @ins a C dx fs ea cl ha hn htk hm=>
  cases (show u=Value.ref a from rx)
  obtain ⟨mA,O,_⟩:=yhe I.hok ea
  obtain ⟨od,J,_⟩:=O.look
  exact PySem.W.kia_one (PySem.W.kitx_own (cl.get _) cl.hd ha hn htk hm) I.kIn J e (fun z=>nomatch z) h
end
structure Room (k:Nat) (A:Around):Prop where
 hd:A.handled=none
 dp:A.depth+3*k+5<recursionLimit
 un:A.units+16*k+200<cLine
 gd:A.guards=some []
theorem Room.mono {j k:Nat}{A:Around} (r:Room k A) (h:j≤k):Room j A:=⟨r.hd,by have:=r.dp;omega,by have:=r.un;omega,r.gd⟩
theorem Room.deeper {k:Nat}{A:Around} (r:Room (k+1) A) (env:Env):Room k (A.deeper env):=
 ⟨r.hd,by have:=r.dp;show A.depth+1+3*k+5<_;omega,by have:=r.un;show A.units+3+16*k+200<_;omega,r.gd⟩
theorem yki {A:Around}{C:Addr}{us:List Value}{kw:List (Str×Value)}:(A.under (.builtin "type.__call__" ⟨.ref C::us,kw⟩)).depth=A.depth+1:=by
 first|rfl|simp[Around.under,Code.weight,Code.isCreation,Code.isGuard,Code.isCaller,Code.frames,Code.isFrame,guardIds]
theorem ykh {A:Around}{C:Addr}{us:List Value}{kw:List (Str×Value)}:(A.under (.builtin "type.__call__" ⟨.ref C::us,kw⟩)).units=A.units+1:=by
 first|rfl|simp[Around.under,Code.cUnits,Code.frames,Code.isFrame]
theorem yi8 {A:Around}{C:Addr}{us:List Value}{kw:List (Str×Value)}:(A.under (.builtin "type.__call__" ⟨.ref C::us,kw⟩)).guards=A.guards:=by
 first|rfl|(unfold Around.under Code.guards;cases A.guards<;>simp[pushGuards,Code.isGuard,guardIds])
theorem Room.make {k:Nat}{A:Around} (r:Room (k+1) A) (C:Addr) (us:List Value) (kw:List (Str×Value)):Room k (A.under (.builtin "type.__call__" ⟨.ref C::us,kw⟩)):=
 ⟨r.hd,by have:=r.dp;rw[yki];omega,by have:=r.un;rw[ykh];omega,by rw[yi8];exact r.gd⟩
theorem Room.depth {k:Nat}{A:Around} (r:Room k A):A.depth<recursionLimit:=by have:=r.dp;omega
theorem Room.units {k:Nat}{A:Around} (r:Room k A):A.units+64<cLine:=by have:=r.un;omega
noncomputable def tNil:TA:=fun _ H Q=>Q [] H
noncomputable def qdj (ta:TE) (tr:TA):TA:=fun σ H Q=>ta σ H fun x H1=>tr σ H1 fun xs H2=>Q (x::xs) H2
section
variable {X:Cx}{e:Expr}{es:List Expr}{te:TE}{t:TA}{pos:Pos}
theorem yab:PA X [] tNil:=fun _ _ _ _ H Q I h=>Calls.spliced_nil ⟨[],H,I,.nil,h⟩
theorem qaa (ha:PE X e te) (hr:PA X es t) (hs:starEach (e::es) X.env=(false,eval e X.env)::starEach es X.env:=by rfl):PA X (e::es) (qdj te t):=by
 intro pos pins s σ H Q I h
 rw[hs]
 show wpAny _ _ (spliced ((false,eval e X.env)::backTo pos (starEach es X.env))) _ _ s
 refine Calls.spliced_cons (thn (ha pins s σ H _ I h) fun u s1 ⟨x,H1,I1,r1,q1⟩=>?_)
 exact thn (hr pos pins s1 σ H1 _ I1 q1) fun us s2 ⟨xs,H2,I2,r2,q2⟩=>⟨x::xs,H2,I2,.cons r1 r2,q2⟩
noncomputable def tTup (t:TA):TE:=fun σ H Q=>t σ H fun xs H1=>xs.length≤sizeLine∧∀ p,H1 p=none→Q (.ref p) (upd H1 p (.tup xs))
noncomputable def tLst (t:TA):TE:=fun σ H Q=>t σ H fun xs H1=>xs.length≤sizeLine∧∀ p,H1 p=none→Q (.ref p) (upd H1 p (.lst xs))
theorem qce {x1} (h:PA X es t):PE X (.Tuple es x1 pos) (tTup t):=by
 intro pins s σ H Q I hq
 refine wpAny_Tuple_spliced (thn (h pos pins s σ H _ I hq) fun us s1 ⟨xs,H1,I1,r,z,q⟩=>⟨by rw[← r.length];exact z,?_⟩)
 have hf:H1 s1.heap.objs.size=none:=I1.hok.fresh (Nat.le_refl _)
 refine ⟨.ref s1.heap.objs.size,upd H1 s1.heap.objs.size (.tup xs),I1.laid (t':=s1.toks) (fun b u e=>Heap.get?_push_of_some _ e) (Nat.le_refl _) ?_,rfl,q _ hf⟩
 exact ⟨z,us,r,⟨_,Heap.get?_push_size _ rfl,rfl,_,rfl⟩⟩
theorem ybc (h:PA X es t):PE X (.List es pos) (tLst t):=by
 intro pins s σ H Q I hq
 refine wpAny_List_spliced (thn (h pos pins s σ H _ I hq) fun us s1 ⟨xs,H1,I1,r,z,q⟩=>⟨by rw[← r.length];exact z,?_⟩)
 have hf:H1 s1.heap.objs.size=none:=I1.hok.fresh (Nat.le_refl _)
 refine ⟨.ref s1.heap.objs.size,upd H1 s1.heap.objs.size (.lst xs),I1.laid (t':=s1.toks) (fun b u e=>Heap.get?_push_of_some _ e) (Nat.le_refl _) ?_,rfl,q _ hf⟩
 exact ⟨z,us,0,r,Heap.get?_push_size _ rfl⟩
end
noncomputable abbrev Sp:=List V→Hp→VK→XK→Prop
noncomputable abbrev CXT:=List Env→Hp→Shared→XK→Value→Shared→Prop
structure Env0 (P:Program) (w:World) (K:PySem.W.Frag) (mg:Str→Option Value) (base:Heap) (A:Around) (outer:List Env) (s:Shared) (H:Hp):Prop where
 frames:A.frames=some outer
 mod:Mod K mg base
 bs:∀ b o,base.get? b=some o→s.heap.get? b=some o∧H b=none
 bsz:base.objs.size≤s.heap.objs.size
 funs:s.heap.FunFrames base outer
 frf:∀ b∈frs outer,H b=none
 hok:HOk P w H s.heap
 bare:AllBare s.gens
noncomputable def CE (outer:List Env) (P:Program) (w:World) (H:Hp) (s:Shared) (Q:VK) (u:Value) (s':Shared):Prop:=
 ∃ v H',s'.os=s.os∧AllBare s'.gens∧Un (frs outer) [] H H' s.heap s'.heap∧HOk P w H' s'.heap∧RelV v u∧Q v H'
noncomputable def CR (CX:CXT) (outer:List Env) (P:Program) (w:World) (H:Hp) (s:Shared) (Q:VK) (E:XK) (r:Result) (s':Shared):Prop:=
 match r with
 | .ok (.ret u)=>CE outer P w H s Q u s'
 | .ok _=>False
 | .error e=>CX outer H s E e s'
structure FnOk (P:Program) (w:World) (K:PySem.W.Frag) (mg:Str→Option Value) (base:Heap) (CX:CXT) (k:Nat) (f:Addr) (fd:FuncData) (ps:List Str) (sp:Sp):Prop where
 len:∀ vs H Q E,sp vs H Q E→vs.length=ps.length
 run:∀ (A:Around) (outer:List Env) (s:Shared) (H:Hp) (args:Args) (us:List Value) (vs:List V) (Q:VK) (E:XK),Room k A→Env0 P w K mg base A outer s H→BindsTo s fd args (ps.zip us)→Vals vs us→sp vs H Q E→
  codeAny (model P w) A (.call (.ref f) args) (CR CX outer P w H s Q E) s
theorem Env0.make {P:Program}{w:World}{K:PySem.W.Frag}{mg:Str→Option Value}{base:Heap}{A:Around}{outer:List Env}{s:Shared}{H:Hp} (e:Env0 P w K mg base A outer s H) (C:Addr) (us:List Value) (kw:List (Str×Value)) :
  Env0 P w K mg base (A.under (.builtin "type.__call__" ⟨.ref C::us,kw⟩)) outer s H:=⟨by first|exact e.frames|(simpa [Around.under,Code.envs,Code.isFrame,pushEnvs] using e.frames),e.mod,e.bs,e.bsz,e.funs,e.frf,e.hok,e.bare⟩
section
variable {X:Cx}{pins:List (Addr×Obj)}{σ:St}{H:Hp}{s s':Shared}
theorem Inv.env0 (I:Inv X pins σ H s):Env0 X.prog X.w X.K X.mg X.base X.A X.stack s H:=
 ⟨I.ok.frames,I.ok.mod,I.bs,Nat.le_trans I.ok.bsz I.sz,I.stack,I.stkFree,I.hok,I.bare⟩
theorem Inv.after {Q:VK}{u:Value} (I:Inv X pins σ H s) (h:CE X.stack X.prog X.w H s Q u s'):EP X pins σ Q u s':=by
 obtain ⟨v,H',os,bare,un,hok,r,q⟩:=h
 obtain ⟨hh,g,d,t,os'⟩:=s'
 obtain rfl:os'=s.os:=os
 exact ⟨v,H',I.call (h':=hh) (g':=g) (d':=d) (t':=t) (ch:=[]) un hok bare (fun b z=>absurd z (by simp)),r,q⟩
end
noncomputable def yme (sp:Sp) (dvs:List V) (E:XK) (t:TA):TE:=fun σ H Q=>t σ H fun vs H1=>sp (vs++dvs) H1 Q E
noncomputable def tMeth (C:Addr) (m:Str) (sp:Sp) (dvs:List V) (E:XK) (ta:TE) (t:TA):TE:=fun σ H Q=>ta σ H fun x H1=>∃ a dx fs,x=.ref a∧H1 a=some (.ins C dx fs)∧fs.lookup m=none∧
 t σ H1 fun vs H2=>sp (x::(vs++dvs)) H2 Q E
noncomputable def tMake (C:Addr) (sp:Sp) (dvs:List V) (E:XK) (t:TA):TE:=fun σ H Q=>t σ H fun vs H1=>∀ x dx,H1 x=none→H1 dx=none→dx≠x→
 sp (.ref x::(vs++dvs)) (upd (upd H1 dx (.own x)) x (.ins C dx [])) (fun v H2=>v=.non∧Q (.ref x) H2) E
noncomputable def qcu (K:PySem.W.Frag) (fd:FuncData) (ps:List Str) (ds:List Value):Prop:=
 ∀ (s:Shared) (us:List Value),K.In s.heap→(us++ds).length=ps.length→BindsTo s fd ⟨us,[]⟩ (ps.zip (us++ds))
theorem qcu.all {K:PySem.W.Frag}{fd:FuncData}{ps:List Str} (h:∀ us:List Value,us.length=ps.length→bindArgs fd ⟨us,[]⟩=pure (ps.zip us)):qcu K fd ps []:=fun s us _ hl=>by
 rw[List.append_nil] at hl ⊢
 exact .of_eq (h us hl)
noncomputable def yd4 (CX:CXT) (X:Cx) (E:XK):Prop:=∀ (pins:List (Addr×Obj)) (σ:St) (H:Hp) (s:Shared) (e:Value) (s':Shared),Inv X pins σ H s→CX X.stack H s E e s'→X.xe e s'
section
variable {X:Cx}{CX:CXT}{k:Nat}{f C:Addr}{fd:FuncData}{ps:List Str}{sp:Sp}{dvs:List V}{ds:List Value}{E:XK}{x m:Str}{p pos apos:Pos}{e o:Expr}{es:List Expr}{ta:TE}{t:TA}
theorem yll {pins:List (Addr×Obj)}{σ:St}{H:Hp}{s:Shared}{Q:VK}{us:List Value}{vs:List V} (F:FnOk X.prog X.w X.K X.mg X.base CX k f fd ps sp) (hr:Room k X.A) (hb:qcu X.K fd ps ds) (hd:Vals dvs ds) (hx:yd4 CX X E)
  (I:Inv X pins σ H s) (r:Vals vs us) (h:sp (vs++dvs) H Q E):wpAny (model X.prog X.w) X.A (call (.ref f) us) (EP X pins σ Q) X.xe s:=by
 have r2:Vals (vs++dvs) (us++ds):=r.append hd
 have hl:(us++ds).length=ps.length:=by rw[← r2.length];exact F.len _ _ _ _ h
 refine wpAny_call (codeAny_mono (F.run X.A X.stack s H ⟨us,[]⟩ (us++ds) (vs++dvs) Q E hr I.env0 (hb s us I.kIn hl) r2 h) fun r s' hq=>?_)
 cases r with
 | error e=>exact hx pins σ H s e s' I hq
 | ok fl=>
  cases fl with
  | ret u=>exact I.after hq
  | next=>exact False.elim hq
  | brk=>exact False.elim hq
  | cont=>exact False.elim hq
theorem qlc (F:FnOk X.prog X.w X.K X.mg X.base CX k f fd ps sp) (hr:Room k X.A) (hg:Gl X x) (hm:X.mg x=some (.ref f)) (hk:PySem.W.keepIn X.K (.ref f)=true) (hb:qcu X.K fd ps ds) (hd:Vals dvs ds) (hx:yd4 CX X E)
  (ha:PA X (e::es) t) (hdb:(x == ("__debug__" : Str))=false:=by decide) (he:starEach (e::es) X.env=(false,eval e X.env)::starEach es X.env:=by rfl) (hpl:(backTo pos (starEach es X.env)).any (·.1)=false:=by rfl) :
  PE X (.Call (.Name x p) (e::es) [] pos) (yme sp dvs E t):=by
 intro pins s σ H Q I h
 refine wpAny_Call_Name_kw (yd8 I hg hm ?_ hdb)
 refine PySem.W.callWith_K (h₀:=X.base) I.ok.mod.kin hk (thn (ha pos pins s σ H _ I h) fun us s1 ⟨vs,H1,I1,r,q⟩=>⟨I1.kIn,?_⟩) he hpl
 exact yll F hr hb hd hx I1 r q
theorem pe_meth {pl:Sem Bool} (he:PE X o ta) (c:Cls X.K C) (hm:Meth X.K C m f) (F:FnOk X.prog X.w X.K X.mg X.base CX k f fd ps sp) (hr:Room k X.A) (hb:qcu X.K fd ps ds) (hd:Vals dvs ds) (hx:yd4 CX X E) (ha:PA X (e::es) t)
  (hst:starEach (e::es) X.env=(false,eval e X.env)::starEach es X.env:=by rfl) (hpl:(backTo pos (starEach es X.env)).any (·.1)=false:=by rfl)
  (ht:eval (.Call (.Attribute o m apos) (e::es) [] pos) X.env=(do
   let ov ← eval o X.env
   standAt apos.atName
   let (f,first) ← holding [ov] (getMethod ov m pl)
   callWith pos f first (backTo pos (starEach (e::es) X.env)) (backToKw pos (keywordEach [] X.env))):=by rfl) :
  PE X (.Call (.Attribute o m apos) (e::es) [] pos) (tMeth C m sp dvs E ta t):=by
 intro pins s σ H Q I h
 refine PySem.W.methodCall_KW (pl:=pl) (thn (he pins s σ H _ I h) fun u s1 ⟨x,H1,I1,rx,a,dx,fs,ex,ea,l,q⟩=>?_) ht
 subst ex
 obtain rfl:u=Value.ref a:=rx
 refine yg8 I1 ea c hm l ?_
 refine PySem.W.callWith_K (first:=[.ref a]) (h₀:=X.base) I.ok.mod.kin hm.kp (thn (ha pos pins s1 σ H1 _ I1 q) fun us s2 ⟨vs,H2,I2,r,q2⟩=>⟨I2.kIn,?_⟩) hst hpl
 exact yll (us:=.ref a::us) (vs:=.ref a::vs) F hr hb hd hx I2 (.cons rfl r) q2
theorem pe_meth0 {pl:Sem Bool} (he:PE X o ta) (c:Cls X.K C) (hm:Meth X.K C m f) (F:FnOk X.prog X.w X.K X.mg X.base CX k f fd ps sp) (hr:Room k X.A) (hb:qcu X.K fd ps ds) (hd:Vals dvs ds) (hx:yd4 CX X E)
  (ht:eval (.Call (.Attribute o m apos) [] [] pos) X.env=(do
   let ov ← eval o X.env
   standAt apos.atName
   let (f,first) ← holding [ov] (getMethod ov m pl)
   callWith pos f first (backTo pos (starEach [] X.env)) (backToKw pos (keywordEach [] X.env))):=by rfl) :
  PE X (.Call (.Attribute o m apos) [] [] pos) (tMeth C m sp dvs E ta tNil):=by
 intro pins s σ H Q I h
 refine PySem.W.methodCall_KW (pl:=pl) (thn (he pins s σ H _ I h) fun u s1 ⟨x,H1,I1,rx,a,dx,fs,ex,ea,l,q⟩=>?_) ht
 subst ex
 obtain rfl:u=Value.ref a:=rx
 refine yg8 I1 ea c hm l ?_
 exact PySem.W.callWith_K0 (first:=[.ref a]) I1.kIn hm.kp (yll (us:=[.ref a]) (vs:=[.ref a]) F hr hb hd hx I1 (.cons rfl .nil) q)
structure Mk (K:PySem.W.Frag) (C f:Addr):Prop where
 makes:PySem.W.makesIn K C=true
 init:PySem.W.findIn K (.ref C) "__init__" = some (some (.ref f))
 fn:PySem.W.isFn K (.ref f)=true
 kp:PySem.W.keepIn K (.ref C)=true
theorem run_make {pins:List (Addr×Obj)}{σ:St}{H:Hp}{s:Shared}{Q:VK}{us:List Value}{vs:List V} (M:Mk X.K C f) (F:FnOk X.prog X.w X.K X.mg X.base CX k f fd ps sp) (hr:Room (k+1) X.A) (hb:qcu X.K fd ps ds) (hd:Vals dvs ds)
  (hx:yd4 CX X E) (I:Inv X pins σ H s) (r:Vals vs us)
  (h:∀ x dx,H x=none→H dx=none→dx≠x→sp (.ref x::(vs++dvs)) (upd (upd H dx (.own x)) x (.ins C dx [])) (fun v H2=>v=.non∧Q (.ref x) H2) E) :
  wpAny (model X.prog X.w) X.A (call (.ref C) us) (EP X pins σ Q) X.xe s:=by
 have hq:=h (s.heap.objs.size+1) s.heap.objs.size (I.hok.fresh (Nat.le_succ _)) (I.hok.fresh (Nat.le_refl _)) (Nat.ne_of_lt (Nat.lt_succ_self _))
 have I2:=Inv.made (C:=C) I
 have r2:Vals (V.ref (s.heap.objs.size+1)::(vs++dvs)) (Value.ref (s.heap.objs.size+1)::(us++ds)):=.cons rfl (r.append hd)
 have hl:(Value.ref (s.heap.objs.size+1)::us++ds).length=ps.length:=by
  have e:=r2.length
  rw[F.len _ _ _ _ hq] at e
  exact e.symm
 refine wpAny_call (make_map (f:=f) I.kIn M.makes M.init (beq_iff_eq.mp M.fn) (codeAny_mono (F.run _ X.stack _ _ ⟨Value.ref (s.heap.objs.size+1)::us,[]⟩ (Value.ref (s.heap.objs.size+1)::(us++ds)) _ _ E (hr.make C us [])
  (I2.env0.make C us []) (hb _ (Value.ref (s.heap.objs.size+1)::us) I2.kIn hl) r2 hq) fun r s' hq'=>?_))
 cases r with
 | error e=>exact hx pins σ _ _ e s' I2 hq'
 | ok fl=>
  cases fl with
  | ret u=>
   obtain ⟨v,H',I3,rv,ev,q3⟩:=I2.after hq'
   subst ev
   exact ⟨rv,⟨V.ref (s.heap.objs.size+1),H',I3,rfl,q3⟩⟩
  | next=>exact False.elim hq'
  | brk=>exact False.elim hq'
  | cont=>exact False.elim hq'
theorem ymc (M:Mk X.K C f) (F:FnOk X.prog X.w X.K X.mg X.base CX k f fd ps sp) (hr:Room (k+1) X.A) (hg:Gl X x) (hm:X.mg x=some (.ref C)) (hb:qcu X.K fd ps ds) (hd:Vals dvs ds) (hx:yd4 CX X E)
  (ha:PA X (e::es) t) (hdb:(x == ("__debug__" : Str))=false:=by decide) (he:starEach (e::es) X.env=(false,eval e X.env)::starEach es X.env:=by rfl) (hpl:(backTo pos (starEach es X.env)).any (·.1)=false:=by rfl) :
  PE X (.Call (.Name x p) (e::es) [] pos) (tMake C sp dvs E t):=by
 intro pins s σ H Q I h
 refine wpAny_Call_Name_kw (yd8 I hg hm ?_ hdb)
 refine PySem.W.callWith_K (h₀:=X.base) I.ok.mod.kin M.kp (thn (ha pos pins s σ H _ I h) fun us s1 ⟨vs,H1,I1,r,q⟩=>⟨I1.kIn,?_⟩) he hpl
 exact run_make M F hr hb hd hx I1 r q
end
structure FnScope (N P:List Str) (sc:Scope):Prop where
 kind:sc.kind=.function
 co:sc.isCoroutine=false
 gen:sc.isGenerator=false
 nd:N.Nodup
 pre:N.take P.length=P
 par:∀ x∈P,sc.names.lookup x=some .local∨sc.names.lookup x=some .cell
 nofree:∀ y∈sc.names,y.2≠.free
theorem yir {kindOf:Str→Option NameKind}{x:Str}:∀ {binds:List (Str×Value)}{m:Str→Option Value},(∀ v,(x,v)∉binds)→bindL kindOf binds m x=m x
 | [],_,_=>rfl
 | (n,v)::r,m,h=>by
  unfold bindL
  rw[yir fun w hw=>h w (List.mem_cons_of_mem _ hw)]
  split
  ·have:x≠n:=by rintro rfl;exact h v List.mem_cons_self
   simp[this]
  ·rfl
theorem qic {kindOf:Str→Option NameKind}{x:Str}:∀ {binds:List (Str×Value)}{m:Str→Option Value},(∀ v,(x,v)∉binds)→bindC kindOf binds m x=m x
 | [],_,_=>rfl
 | (n,v)::r,m,h=>by
  unfold bindC
  rw[qic fun w hw=>h w (List.mem_cons_of_mem _ hw)]
  split
  ·rfl
  ·have:x≠n:=by rintro rfl;exact h v List.mem_cons_self
   simp[this]
theorem yil {kindOf:Str→Option NameKind}{x:Str}{v:Value}:∀ {P:List Str}{vs:List Value}{i:Nat}{m:Str→Option Value},P.Nodup→P[i]?=some x→vs[i]?=some v→kindOf x=some .local→
  bindL kindOf (P.zip vs) m x=some v
 | [],_,_,_,_,h,_,_=>by simp at h
 | _::_,[],_,_,_,_,h,_=>by simp at h
 | p::P,w::vs,0,m,nd,h1,h2,hk=>by
  simp at h1 h2;subst h1;subst h2
  show bindL kindOf ((p,w)::P.zip vs) m p=_
  unfold bindL
  rw[yir fun v hv=>(List.nodup_cons.mp nd).1 (List.of_mem_zip hv).1,if_pos hk]
  simp
 | p::P,w::vs,i+1,m,nd,h1,h2,hk=>by
  show bindL kindOf ((p,w)::P.zip vs) m x=_
  unfold bindL
  exact yil (i:=i) (List.nodup_cons.mp nd).2 (by simpa using h1) (by simpa using h2) hk
theorem yik {kindOf:Str→Option NameKind}{x:Str}{v:Value}:∀ {P:List Str}{vs:List Value}{i:Nat}{m:Str→Option Value},P.Nodup→P[i]?=some x→vs[i]?=some v→kindOf x≠some .local→
  bindC kindOf (P.zip vs) m x=some v
 | [],_,_,_,_,h,_,_=>by simp at h
 | _::_,[],_,_,_,_,h,_=>by simp at h
 | p::P,w::vs,0,m,nd,h1,h2,hk=>by
  simp at h1 h2;subst h1;subst h2
  show bindC kindOf ((p,w)::P.zip vs) m p=_
  unfold bindC
  rw[qic fun v hv=>(List.nodup_cons.mp nd).1 (List.of_mem_zip hv).1,if_neg hk]
  simp
 | p::P,w::vs,i+1,m,nd,h1,h2,hk=>by
  show bindC kindOf ((p,w)::P.zip vs) m x=_
  unfold bindC
  exact yik (i:=i) (List.nodup_cons.mp nd).2 (by simpa using h1) (by simpa using h2) hk
noncomputable def yet (N:List Str) (vs:List V):St:=vs.map some++List.replicate (N.length-vs.length) none
noncomputable def cxOf (CX:CXT) (P:Program) (w:World) (K:PySem.W.Frag) (mg:Str→Option Value) (base:Heap) (N:List Str) (qual:Str) (scope:Scope) (f:Addr) (cd:Value) (A:Around) (outer:List Env) (s:Shared) (H:Hp) (E:XK):Cx where
 prog:=P
 w:=w
 K:=K
 mg:=mg
 base:=base
 A:=A.deeper (envOfC qual scope s.heap.objs.size f cd)
 N:=N
 s₀:=s
 H₀:=H
 env:=envOfC qual scope s.heap.objs.size f cd
 outer:=outer
 stack:=envOfC qual scope s.heap.objs.size f cd::outer
 ex:=[]
 calm:=true
 fn:=fun _=>true
 pn:=[]
 xe:=fun e s'=>wpAny (model P w) (A.deeper (envOfC qual scope s.heap.objs.size f cd)) (leaving (envOfC qual scope s.heap.objs.size f cd) e) (fun _ s''=>CX outer H s E e s'') (fun e' s''=>CX outer H s E e' s'') s'
theorem qjt {sc:Scope}{n:Nat}{x:Str} (h:sc.names.lookup x=some .cell):∃ c,(cellsFrom n sc.names []).lookup x=some c:=by
 have q:=PySem.W.cellsFrom_some sc.names n [] (.inl h)
 exact Option.isSome_iff_exists.mp q
theorem ymg {CX:CXT}{P:Program}{w:World}{K:PySem.W.Frag}{mg:Str→Option Value}{base:Heap}{N ps:List Str}{qual:Str}{scope:Scope}{f:Addr}{cd:Value}{A:Around}{outer:List Env}{s s1:Shared}{H:Hp}{E:XK}{us:List Value}{vs:List V}
  (S:FnScope N ps scope) (hd:A.handled=none) (e0:Env0 P w K mg base A outer s H) (hl:vs.length=ps.length) (r:Vals vs us)
  (x:InCallC s s.heap.objs.size (bindL (envOfC qual scope s.heap.objs.size f cd).kindOf (ps.zip us) fun _=>none) (cellsFrom (s.heap.objs.size+1) scope.names []) (bindC (envOfC qual scope s.heap.objs.size f cd).kindOf (ps.zip us) fun _=>none) s1) :
  Inv (cxOf CX P w K mg base N qual scope f cd A outer s H E) [] (yet N vs) H s1:=by
 have hpl:ps.length≤N.length:=by have:=congrArg List.length S.pre;rw[List.length_take] at this;omega
 obtain ⟨h1,tk,rfl,hk⟩:=x.done
 have noA:∀ b:Addr,b∉(cxOf CX P w K mg base N qual scope f cd A outer s H E).ex:=fun b z=>absurd (show b∈([]:List Addr) from z) (by simp)
 refine ⟨⟨e0.mod,S.kind,rfl,rfl,Nat.le_refl _,fun y z c h1 h2=>?_,fun y hy=>?_,fun y c _ h=>?_,fun _=>hd,Around.frames_deeper e0.frames,.inr ⟨rfl,rfl⟩,fun b z=>absurd z (noA b),e0.bs,e0.bsz,fun b _ _=>noA b,fun b z=>absurd z (noA b),e0.funs,e0.frf⟩,
  rfl,e0.bare,Un.kept hk,⟨_,x.toInCall.ns,fun i y v h1 h2 h3=>?_⟩,fun y c h=>⟨_,x.cell y c h⟩,e0.hok.fresh (Nat.le_refl _),fun y c h=>?_,fun p hp=>absurd (show p∈([]:List (Addr×Obj)) from hp) (by simp),e0.hok.kept hk,?_⟩
 ·exact name_of_addr x.apart (PySem.mem_of_lookup h1) (PySem.mem_of_lookup h2)
 ·have hy:scope.names.lookup y=some .cell∨scope.names.lookup y=some .free:=hy
  rcases hy with hy|hy
  ·exact qjt hy
  ·exact absurd rfl (S.nofree _ (PySem.mem_of_lookup hy))
 ·exact Nat.le_of_lt (x.above y c (PySem.mem_of_lookup h))
 ·have hi:i<vs.length:=by
   unfold yet at h2
   by_cases hi:i<vs.length
   ·exact hi
   ·rw[List.getElem?_append_right (by simpa using hi)] at h2
    rw[List.getElem?_replicate] at h2
    split at h2<;>cases h2
  have ha:vs[i]?=some v:=by
   unfold yet at h2
   rw[List.getElem?_append_left (by simpa using hi),List.getElem?_map] at h2
   cases e:vs[i]? with
   | none=>rw[e] at h2;cases h2
   | some a=>rw[e] at h2;cases h2;rfl
  obtain ⟨u,hu,rv⟩:=r.get ha
  have hp:ps[i]?=some y:=by
   rw[← S.pre,List.getElem?_take_of_lt (by omega)];exact h1
  have ndP:ps.Nodup:=by rw[← S.pre];exact S.nd.sublist (List.take_sublist _ _)
  refine ⟨u,rv,?_⟩
  rcases S.par y (List.mem_of_getElem? hp) with k|k
  ·exact .inl ⟨k,yil ndP hp hu k⟩
  ·obtain ⟨c,e⟩:=qjt (n:=s.heap.objs.size+1) k
   refine .inr ⟨.inl k,c,e,?_⟩
   have q:=x.cell y c e
   rw[yik ndP hp hu (by show scope.names.lookup y≠_;rw[k];decide)] at q
   exact q
 ·exact e0.hok.fresh (Nat.le_of_lt (x.above y c (PySem.mem_of_lookup h)))
 ·unfold yet
  show _=N.length
  rw[List.length_append,List.length_map,List.length_replicate]
  omega
theorem fn_of {CX:CXT}{P:Program}{w:World}{K:PySem.W.Frag}{mg:Str→Option Value}{base:Heap}{k:Nat}{f:Addr}{name qual:Str}{params:Arguments}{body:List Stmt}{scope:Scope}{dV kV doc pm cdv ct oc:Value}{an od:Option Addr}
  {osl:Array (Option Value)}{N ps:List Str}{sp:Sp} (lk:K.lookup f=some ⟨oc,od,.func (PySem.W.fnOf name qual params body scope dV kV doc pm an cdv ct),osl⟩) (hcd:PySem.W.codeIn K cdv qual=true) (S:FnScope N ps scope)
  (len:∀ vs H Q E,sp vs H Q E→vs.length=ps.length)
  (hbody:∀ (A:Around) (outer:List Env) (s:Shared) (H:Hp) (vs:List V) (Q:VK) (E:XK),Room k (A.deeper (envOfC qual scope s.heap.objs.size f cdv))→sp vs H Q E→
   ∃ t,PSs (cxOf CX P w K mg base N qual scope f cdv A outer s H E) body t∧t { nx:=fun _ H'=>Q .non H',rt:=Q } (yet N vs) H) :
  FnOk P w K mg base CX (k+1) f (PySem.W.fnOf name qual params body scope dV kV doc pm an cdv ct) ps sp:=by
 refine ⟨len,fun A outer s H args us vs Q E hr e0 hb r hsp=>?_⟩
 have hl:=len _ _ _ _ hsp
 have KX:K.In s.heap:=e0.mod.kin.keeps fun b o e=>(e0.bs b o e).1
 have lim:s.heap.NoLimit:=e0.mod.nolimit.keeps fun b o e=>(e0.bs b o e).1
 have hkind:∀ y∈ps.zip us,scope.names.lookup y.1=some .local∨(scope.names.lookup y.1=some .cell∧((cellsFrom (s.heap.objs.size+1) scope.names []).lookup y.1).isSome=true):=fun ⟨n,v⟩ hy=>by
  rcases S.par n (List.of_mem_zip hy).1 with q|q
  ·exact .inl q
  ·exact .inr ⟨q,PySem.W.cellsFrom_some _ _ _ (.inl q)⟩
 refine codeAny_call_function hr.depth (KX _ _ lk) rfl S.co S.gen rfl (PySem.W.codeRec_of KX hcd) (hb _ _ _ _ ?_)
 refine wpAny_newFunctionEnv_cells S.kind hkind fun env he s1 x=>?_
 subst he
 refine ⟨lim.keeps x.toInCall.keep,codeAny_func ?_⟩
 obtain ⟨t,ht,hq⟩:=hbody A outer s H vs Q E (hr.deeper _) hsp
 have I:Inv (cxOf CX P w K mg base N qual scope f cdv A outer s H E) [] (yet N vs) H s1:=ymg S hr.hd e0 hl r x
 refine wpAny_mono (ht [] s1 (yet N vs) H _ I hq) (fun fl s' hs=>?_) fun e s' hs=>hs
 have fin:∀ {σ':St}{H':Hp}{v:V}{u:Value},Inv (cxOf CX P w K mg base N qual scope f cdv A outer s H E) [] σ' H' s'→RelV v u→Q v H'→CE outer P w H s Q u s':=
  fun {σ' H' v u} J rv q=>⟨v,H',J.os,J.bare,J.base,J.hok,rv,q⟩
 cases fl with
 | ret u=>
  obtain ⟨v,σ',H',J,rv,q⟩:=hs
  exact fin J rv q
 | next=>
  obtain ⟨σ',H',J,q⟩:=hs
  exact fin (v:=V.non) (u:=Value.none) J rfl q
 | brk=>
  obtain ⟨_,_,_,q⟩:=hs
  exact False.elim q
 | cont=>
  obtain ⟨_,_,_,q⟩:=hs
  exact False.elim q
section
variable {X:Cx}{x:Str}{p pos:Pos}{e:Expr}{es:List Expr}{t:TA}{id T:String}{r:List V→Hp→VK→Prop}
noncomputable def tCB (r:List V→Hp→VK→Prop) (t:TA):TE:=fun σ H Q=>t σ H fun vs H1=>r vs H1 Q
theorem qae (hc:yc1 X (.builtin id) r) (hg:Gl X x) (hm:X.mg x=none) (hv:bootBuiltins x=some (.builtin id)) (ha:PA X (e::es) t) (hn:x≠"__name__":=by decide) (hdb:(x == ("__debug__" : Str))=false:=by decide)
  (he:starEach (e::es) X.env=(false,eval e X.env)::starEach es X.env:=by rfl) (hpl:(backTo pos (starEach es X.env)).any (·.1)=false:=by rfl):PE X (.Call (.Name x p) (e::es) [] pos) (tCB r t):=by
 intro pins s σ H Q I h
 refine wpAny_Call_Name_kw (qg0 I hg hm hv ?_ hn hdb)
 exact PyProof.Rows.callWith_builtin1 (thn (ha pos pins s σ H _ I h) fun us s1 ⟨vs,H1,I1,r1,q1⟩=>hc pins s1 σ H1 vs us Q I1 r1 q1) he hpl
theorem ydm (hc:yc1 X (.type T) r) (hg:Gl X x) (hm:X.mg x=none) (hv:bootBuiltins x=some (.type T)) (ha:PA X (e::es) t) (hn:x≠"__name__":=by decide) (hdb:(x == ("__debug__" : Str))=false:=by decide)
  (he:starEach (e::es) X.env=(false,eval e X.env)::starEach es X.env:=by rfl) (hpl:(backTo pos (starEach es X.env)).any (·.1)=false:=by rfl):PE X (.Call (.Name x p) (e::es) [] pos) (tCB r t):=by
 intro pins s σ H Q I h
 refine wpAny_Call_Name_kw (qg0 I hg hm hv ?_ hn hdb)
 exact PyProof.Rows.callWith_type1 (thn (ha pos pins s σ H _ I h) fun us s1 ⟨vs,H1,I1,r1,q1⟩=>hc pins s1 σ H1 vs us Q I1 r1 q1) he hpl
end
end L2
namespace HT
open PySem PyProof.Rows
section
variable {prog:Program}{w:World}{A:Around}{E:Value→Shared→Prop}{s:Shared}
noncomputable def sIx (n d:Nat):Option Int→Nat
 | none=>d
 | some v=>if v<0 then (v+(n:Int)).toNat else min v.toNat n
theorem sIx_none (n d:Nat):sIx n d none=d:=rfl
theorem sIx_nat (n d k:Nat):sIx n d (some (k:Int))=min k n:=by
 show (if (k:Int)<0 then ((k:Int)+(n:Int)).toNat else min (k:Int).toNat n)=min k n
 rw[if_neg (by omega),Int.toNat_natCast]
theorem sIx_le (n d:Nat) (hd:d≤n) (o:Option Int):sIx n d o≤n:=by
 cases o with
 | none=>exact hd
 | some v=>
  show (if v<0 then (v+(n:Int)).toNat else min v.toNat n)≤n
  by_cases hv:v<0
  ·rw[if_pos hv];omega
  ·rw[if_neg hv];exact Nat.min_le_right _ _
theorem ylw (v:Int) (n d:Nat):(if v<0 then max (v+(n:Int)) 0 else min v (n:Int))=((sIx n d (some v):Nat):Int):=by
 show (if v<0 then max (v+(n:Int)) 0 else min v (n:Int))=(((if v<0 then (v+(n:Int)).toNat else min v.toNat n):Nat):Int)
 by_cases hv:v<0
 ·simp only[if_pos hv];omega
 ·simp only[if_neg hv];omega
theorem qkk (lo hi:Option Int) (n:Nat):Builtin.Slice.sliceAdjust lo hi 1 (n:Int)=(((sIx n 0 lo:Nat):Int),((sIx n n hi:Nat):Int)):=by
 have h1:¬ ((1:Int)<0):=by omega
 unfold Builtin.Slice.sliceAdjust
 simp only[h1,if_false]
 refine Prod.ext ?_ ?_
 ·cases lo with
  | none=>rfl
  | some v=>exact ylw v n 0
 ·cases hi with
  | none=>rfl
  | some v=>exact ylw v n n
theorem ykm (i j:Nat):Builtin.Slice.slicePlaces (i:Int) (j:Int) 1=j-i:=by
 unfold Builtin.Slice.slicePlaces
 have h1:(1:Int)>0:=by omega
 simp only[h1,if_true,Int.ediv_one]
 split<;>omega
theorem qg8 {v:Value}{o:Option Int}{Q:Option Int→Shared→Prop} (p:IsPart v o) (h:Q o s):wpAny (model prog w) A (Builtin.Slice.slicePartIndex v) Q E s:=by
 cases p with
 | none=>exact slicePart_none h
 | int i t=>exact slicePart_int h
theorem yfn {sl:Addr}{vl vu:Value}{lo hi:Option Int}{n:Nat}{Q:Int×Int×Nat→Shared→Prop} (hs:s.heap.IsSliceOf sl vl vu .none) (pl:IsPart vl lo) (pu:IsPart vu hi)
  (h:Q (((sIx n 0 lo:Nat):Int),1,sIx n n hi-sIx n 0 lo) s):wpAny (model prog w) A (Builtin.Slice.sliceApplied (.ref sl) (pure (n:Int))) Q E s:=by
 obtain ⟨os,hos,hcs,hds⟩:=id hs
 unfold Builtin.Slice.sliceApplied Builtin.Slice.sliceFields
 refine wpAny_bind (wpAny_bind (wpAny_field hos hds (x:=vl) rfl (wpAny_bind (wpAny_field hos hds (x:=vu) rfl (wpAny_bind (wpAny_field hos hds (x:=.none) rfl (wpAny_pure ?_)))))))
 refine wpAny_bind (slicePart_none ?_)
 show wpAny _ _ (if ((1:Int) == 0)=true then _ else _) _ _ s
 rw[if_neg (by decide)]
 refine wpAny_bind (qg8 pl (wpAny_bind (qg8 pu (wpAny_bind (wpAny_pure ?_)))))
 show wpAny _ _ (match Builtin.Slice.sliceAdjust lo hi 1 (n:Int) with|(lo,hi)=>pure (lo,(1:Int),Builtin.Slice.slicePlaces lo hi 1)) _ _ s
 rw[qkk lo hi n]
 show wpAny _ _ (pure (((sIx n 0 lo:Nat):Int),(1:Int),Builtin.Slice.slicePlaces ((sIx n 0 lo:Nat):Int) ((sIx n n hi:Nat):Int) 1)) _ _ s
 rw[ykm]
 exact wpAny_pure h
theorem pick_gen (xs:Array Value) (i k:Nat):((List.range k).filterMap fun (m:Nat)=>xs[((i:Int)+(m:Int)*1).toNat]?).toArray=((xs.toList.drop i).take k).toArray:=by
 have e:(fun (m:Nat)=>xs[((i:Int)+(m:Int)*1).toNat]?)=fun m=>xs[i+m]?:=by
  funext m
  have:((i:Int)+(m:Int)*1).toNat=i+m:=by omega
  rw[this]
 rw[e]
 have:=pick_run xs i k
 rw[List.filterMap_map] at this
 have e2:((fun x=>xs[x]?) ∘ fun x=>i+x)=fun m=>xs[i+m]?:=rfl
 rw[e2] at this
 rw[this]
theorem getItem_tuple_cut {t sl:Addr}{items:Array Value}{vl vu:Value}{lo hi:Option Int}{Q:Value→Shared→Prop} (ht:IsTup s.heap t items) (hs:s.heap.IsSliceOf sl vl vu .none) (pl:IsPart vl lo) (pu:IsPart vu hi)
  (hw:¬ (sIx items.size 0 lo=0∧sIx items.size items.size hi=items.size))
  (h:Q (.ref s.heap.objs.size) { s with heap:=s.heap.push { cls:=.type "tuple",data:=.seq ((items.toList.drop (sIx items.size 0 lo)).take (sIx items.size items.size hi-sIx items.size 0 lo)).toArray } })
  (hsz:items.size≤sizeLine):wpAny (model prog w) A (getItem (.ref t) (.ref sl)) Q E s:=by
 have htake:sizeOk (.seq ((items.toList.drop (sIx items.size 0 lo)).take (sIx items.size items.size hi-sIx items.size 0 lo)).toArray):=by
  show ((items.toList.drop (sIx items.size 0 lo)).take (sIx items.size items.size hi-sIx items.size 0 lo)).toArray.size≤sizeLine
  rw[List.size_toArray,List.length_take,List.length_drop,Array.length_toList]
  omega
 have hj:sIx items.size items.size hi≤items.size:=sIx_le _ _ (Nat.le_refl _) hi
 obtain ⟨os,hos,hcs,hds⟩:=id hs
 have hTs:s.TypeIs (.ref sl) "slice":=⟨os,hos,hcs⟩
 unfold getItem
 try with_reducible refine wpAny_holding ?_
 first|refine wpAny_bind (wpAny_pure ?_)|skip
 refine wpAny_bind (wpAny_sequenceKey ht.typeIs (by decide) ?_)
 refine wpAny_bind (wpAny_callSpecial?_slot (name:=Str.ofString "__getitem__") ht.typeIs PyProof.Rows.slot_tuple_getitem
  (wpAny_call_entry PyProof.Rows.slot_tuple_getitem ht.typeIs entry_tuple_getitem ?_ (args_tuple_getitem _ _)))
 show wpAny _ _ (Builtin.Tuple.tupleItemsOf (.ref t) >>= _) _ _ s
 refine wpAny_bind (tupleItemsOf_ ht ?_)
 refine wpAny_bind (wpAny_typeOf hTs ?_)
 rw[if_pos (by decide)]
 refine wpAny_bind (yfn hs pl pu ?_)
 have hno:¬ ((((sIx items.size 0 lo:Nat):Int) == 0&&(1:Int) == 1&&(sIx items.size items.size hi-sIx items.size 0 lo) == items.size)=true):=by
  intro q
  rw[Bool.and_eq_true,Bool.and_eq_true] at q
  have q1:((sIx items.size 0 lo:Nat):Int)=0:=eq_of_beq q.1.1
  have q2:sIx items.size items.size hi-sIx items.size 0 lo=items.size:=eq_of_beq q.2
  exact hw ⟨by omega,by omega⟩
 show wpAny _ _ (if (((sIx items.size 0 lo:Nat):Int) == 0&&(1:Int) == 1&&(sIx items.size items.size hi-sIx items.size 0 lo) == items.size)=true then _ else _) _ _ s
 rw[if_neg hno,pick_gen]
 first
  | exact wpAny_bind (m:=Builtin.Tuple.tupleExact _) (wpAny_newObj_type (wpAny_pure ⟨_,rfl,wpAny_pure h⟩) htake)
  | exact wpAny_bind (m:=Builtin.Tuple.tupleExact _) (wpAny_newObj_type (wpAny_bind (wpAny_pure (wpAny_pure ⟨_,rfl,wpAny_pure h⟩))) htake)
  | exact wpAny_bind (wpAny_bind (m:=Builtin.Tuple.tupleExact _) (wpAny_newObj_type (wpAny_pure (wpAny_pure ⟨_,rfl,wpAny_pure h⟩)) htake))
  | exact wpAny_bind (wpAny_bind (m:=Builtin.Tuple.tupleExact _) (wpAny_newObj_type (wpAny_pure ⟨_,rfl,wpAny_pure h⟩) htake))
end
end HT
namespace L2
open PySem PySem.Spec PyProof.Rows
noncomputable abbrev TO:=St→Hp→(Option Int→Hp→Prop)→Prop
noncomputable def PO (X:Cx) (e:Option Expr) (t:TO):Prop:=
 ∀ (pins:List (Addr×Obj)) (s:Shared) (σ:St) (H:Hp) (Q:Option Int→Hp→Prop),Inv X pins σ H s→t σ H Q→
  wpAny (model X.prog X.w) X.A (evalPart e X.env) (fun u s'=>∃ o H',Inv X pins σ H' s'∧IsPart u o∧Q o H') X.xe s
noncomputable def qgn:TO:=fun _ H Q=>Q none H
noncomputable def yl1 (t:TE):TO:=fun σ H Q=>t σ H fun x H1=>∃ i,x=.int i∧Q (some i) H1
theorem qe8 {ns:List Int}:∀ {us:List Value},Vals (ns.map V.int) us→IntsAre us ns:=by
 induction ns with
 | nil=>intro us r;rw[List.map_nil] at r;cases r;exact .nil
 | cons n ns ih=>
  intro us r
  rw[List.map_cons] at r
  cases r with
  | cons r1 r2=>
   obtain ⟨t,e⟩:=r1
   subst e
   exact .cons n t (ih r2)
section
variable {X:Cx}{e:Expr}{te:TE}{lo hi:Option Expr}{tl th:TO}{pos p2:Pos}
theorem ych:PO X none qgn:=by
 intro pins s σ H Q I h
 rw[evalPart_none]
 exact wpAny_pure ⟨none,H,I,.none,h⟩
theorem qbi (h:PE X e te):PO X (some e) (yl1 te):=by
 intro pins s σ H Q I hw
 rw[evalPart_some]
 refine thn (h pins s σ H _ I hw) fun u s1 ⟨x,H1,I1,r1,q1⟩=>?_
 obtain ⟨i,rfl,q⟩:=q1
 obtain ⟨t,rfl⟩:=r1
 exact ⟨some i,H1,I1,.int i t,q⟩
noncomputable def SlR (X:Cx) (r:V→Option Int→Option Int→Hp→VK→Prop):Prop:=
 ∀ (pins:List (Addr×Obj)) (s:Shared) (σ:St) (H:Hp) (x:V) (v vl vu:Value) (lo hi:Option Int) (sl:Addr) (Q:VK),Inv X pins σ H s→RelV x v→s.heap.IsSliceOf sl vl vu .none→IsPart vl lo→IsPart vu hi→r x lo hi H Q→
  ∃ T id,typeLookup (.type T) "__getitem__" = pure (some (.builtin id))∧s.TypeIs v T∧wpAny (model X.prog X.w) X.A (getItem v (.ref sl)) (EP X pins σ Q) X.xe s
noncomputable def tSl (r:V→Option Int→Option Int→Hp→VK→Prop) (te:TE) (tl th:TO):TE:=fun σ H Q=>te σ H fun x H1=>tl σ H1 fun l H2=>th σ H2 fun u H3=>r x l u H3 Q
theorem ybs {r:V→Option Int→Option Int→Hp→VK→Prop} (hr:SlR X r) (he:PE X e te) (hl:PO X lo tl) (hu:PO X hi th):PE X (.Subscript e (.Slice lo hi none p2) pos) (tSl r te tl th):=by
 intro pins s σ H Q I h
 refine Subscript_ (thn (he pins s σ H _ I h) fun v s1 ⟨x,H1,I1,r1,q1⟩=>?_)
 refine wpAny_Slice (thn (hl pins s1 σ H1 _ I1 q1) fun vl s2 ⟨l,H2,I2,pl,q2⟩=>thn (hu pins s2 σ H2 _ I2 q2) fun vu s3 ⟨u,H3,I3,pu,q3⟩=>?_)
 rw[evalPart_none]
 refine wpAny_pure ?_
 have I4:Inv X pins σ H3 { s3 with heap:=s3.heap.push { cls:=.type "slice",data:=.fields #[vl,vu,.none] } }:=I3.kept (t':=s3.toks) fun b ob q=>Heap.get?_push_of_some _ q
 obtain ⟨T,id,hT,ht,hg⟩:=hr pins { s3 with heap:=s3.heap.push { cls:=.type "slice",data:=.fields #[vl,vu,.none] } } σ H3 x v vl vu l u s3.heap.objs.size Q I4 r1 (Heap.IsSliceOf.new ..) pl pu q3
 show wpAny (model X.prog X.w) X.A (subscriptTail e (.Slice lo hi none p2) v (.ref s3.heap.objs.size)) (EP X pins σ Q) X.xe { s3 with heap:=s3.heap.push { cls:=.type "slice",data:=.fields #[vl,vu,.none] } }
 exact tail_any (ops:=[.ref s3.heap.objs.size,v]) ht hT hg (by with_unfolding_all rfl)
noncomputable def cutV (xs:List V) (lo hi:Option Int):List V:=(xs.drop (HT.sIx xs.length 0 lo)).take (HT.sIx xs.length xs.length hi-HT.sIx xs.length 0 lo)
theorem qfy (xs:List V) (lo hi:Option Int):(cutV xs lo hi).length≤xs.length:=by
 unfold cutV
 rw[List.length_take,List.length_drop]
 omega
noncomputable def rSlT (K:PySem.W.Frag):V→Option Int→Option Int→Hp→VK→Prop:=fun x lo hi H Q=>∃ a xs,x=.ref a∧SqT K H a xs∧
 ¬ (HT.sIx xs.length 0 lo=0∧HT.sIx xs.length xs.length hi=xs.length)∧∀ p,H p=none→Q (.ref p) (upd H p (.tup (cutV xs lo hi)))
theorem yjl:SlR X (rSlT X.K):=by
 intro pins s σ H x v vl vu lo hi sl Q I rx hs pl pu h
 obtain ⟨a,xs,rfl,hx,hw,q⟩:=h
 cases rx
 obtain ⟨its,r,ht,hz⟩:=I.tuple hx
 have hlen:its.toArray.size=xs.length:=by rw[List.size_toArray];exact r.length.symm
 refine ⟨"tuple",_,PyProof.Rows.slot_tuple_getitem.lookup,ht.typeIs,?_⟩
 refine HT.getItem_tuple_cut ht hs pl pu (by rw[hlen];exact hw) ?_ (by rw[hlen];exact hz)
 rw[hlen]
 refine ⟨.ref s.heap.objs.size,_,I.laid (t':=s.toks) (o:=.tup (cutV xs lo hi)) (fun b ob q=>Heap.get?_push_of_some _ q) (Nat.le_refl _) ?_,rfl,q _ (I.hok.fresh (Nat.le_refl _))⟩
 exact ⟨Nat.le_trans (qfy xs lo hi) hz,_,(r.drop (HT.sIx xs.length 0 lo)).take (HT.sIx xs.length xs.length hi-HT.sIx xs.length 0 lo),IsTup.new _ _⟩
end
noncomputable def ixN (n:Nat) (i:Int):Option Nat:=if 0≤i then (if i<n then some i.toNat else none) else if -(n:Int)≤i then some (i+n).toNat else none
noncomputable def atI {α:Type} (xs:List α) (i:Int):Option α:=(ixN xs.length i).bind fun j=>xs[j]?
theorem ylp {n:Nat}{i:Int}{j:Nat} (h:ixN n i=some j):seqIndex? i n=some j∧j<n∧-(n:Int)≤i∧i<n:=by
 unfold ixN at h
 by_cases h0:0≤i
 ·rw[if_pos h0] at h
  by_cases h1:i<n
  ·rw[if_pos h1] at h
   have e:i.toNat=j:=Option.some.inj h
   exact ⟨by rw[seqIndex_of h0 h1,e],by omega,by omega,h1⟩
  ·rw[if_neg h1] at h;cases h
 ·rw[if_neg h0] at h
  by_cases h1:-(n:Int)≤i
  ·rw[if_pos h1] at h
   have e:(i+n).toNat=j:=Option.some.inj h
   exact ⟨by rw[seqIndex_neg (by omega) h1,e],by omega,h1,by omega⟩
  ·rw[if_neg h1] at h;cases h
theorem qle {α:Type}{xs:List α}{i:Int}{v:α} (h:atI xs i=some v):∃ j,seqIndex? i xs.length=some j∧xs[j]?=some v∧j<xs.length∧-(xs.length:Int)≤i∧i<xs.length:=by
 unfold atI at h
 cases e:ixN xs.length i with
 | none=>rw[e] at h;cases h
 | some j=>
  rw[e] at h
  obtain ⟨h1,h2,h3,h4⟩:=ylp e
  exact ⟨j,h1,h,h2,h3,h4⟩
theorem ycu {α:Type}{xs:List α}{j:Nat}{v:α} (h:xs[j]?=some v):atI xs (j:Int)=some v:=by
 have hj:j<xs.length:=(List.getElem?_eq_some_iff.mp h).1
 have e:ixN xs.length (j:Int)=some j:=by
  unfold ixN
  rw[if_pos (by omega),if_pos (by omega)];simp
 unfold atI;rw[e];exact h
theorem yjq {α:Type} (xs:List α) (v:α):atI (xs++[v]) (-1)=some v:=by
 have hl:(xs++[v]).length=xs.length+1:=by simp
 have e:ixN (xs++[v]).length (-1)=some xs.length:=by
  unfold ixN
  rw[hl,if_neg (by decide),if_pos (by omega)]
  congr 1
  omega
 unfold atI
 rw[e]
 show (xs++[v])[xs.length]?=some v
 simp
noncomputable def qlh (b:Expr):Prop:=∀ o i,subscripted b false o i=operate [o,i] (getItem o i)
noncomputable def IxR (X:Cx) (r:R2):Prop:=
 ∀ (value slice:Expr) (pins:List (Addr×Obj)) (s:Shared) (σ:St) (H:Hp) (x y:V) (v u:Value) (Q:VK),Inv X pins σ H s→RelV x v→RelV y u→r x y H Q→
  subscripted slice false v u=operate [v,u] (getItem v u)→wpAny (model X.prog X.w) X.A (subscriptTail value slice v u) (EP X pins σ Q) X.xe s
noncomputable def MtR (X:Cx) (id:String) (r:V→List V→Hp→VK→Prop):Prop:=
 ∀ (pins:List (Addr×Obj)) (s:Shared) (σ:St) (H:Hp) (x:V) (xs:List V) (v:Value) (us:List Value) (Q:VK),Inv X pins σ H s→RelV x v→Vals xs us→r x xs H Q→
  wpAny (model X.prog X.w) X.A (call (.builtin id) (v::us)) (EP X pins σ Q) X.xe s
section
variable {X:Cx}{a b:Expr}{ta tb:TE}{pos:Pos}
theorem yan {r:R2} (hr:IxR X r) (ha:PE X a ta) (hb:PE X b tb) (hs:qlh b):PE X (.Subscript a b pos) (tOp r ta tb):=by
 intro pins s σ H Q I h
 exact Subscript_ (binT ha hb I h fun v u s2 x y H2 I2 rx ry q=>hr a b pins s2 σ H2 x y v u Q I2 rx ry q (hs _ _))
noncomputable def rIxL (K:PySem.W.Frag):R2:=fun x y H Q=>∃ p xs i v,x=.ref p∧y=.int i∧SqL K H p xs∧atI xs i=some v∧Q v H
noncomputable def rIxT (K:PySem.W.Frag):R2:=fun x y H Q=>∃ p xs i v,x=.ref p∧y=.int i∧SqT K H p xs∧atI xs i=some v∧Q v H
theorem qai:IxR X (rIxL X.K):=by
 intro value slice pins s σ H x y v u Q I rx ry h hs
 obtain ⟨p,xs,i,z,rfl,rfl,hq,he,q⟩:=h
 cases rx
 obtain ⟨t,rfl⟩:=ry
 obtain ⟨its,r,pl,hz⟩:=I.list hq
 obtain ⟨j,h1,h2,h3,h4,h5⟩:=qle he
 obtain ⟨w,ew,rw'⟩:=r.get h2
 have hl:=r.length
 have hn:=qjy
 have fin:EP X pins σ Q w s:=⟨z,H,I,rw',q⟩
 by_cases h0:0≤i
 ·have hj:i.toNat=j:=by
   rw[seqIndex_of h0 h5] at h1
   exact Option.some.inj h1
  exact item_listR pl.isList h0 (by omega) (by rw[hj];simpa using ew) fin hs
 ·have hj:(i+(its.toArray.size:Int)).toNat=j:=by
   rw[seqIndex_neg (by omega) h4] at h1
   rw[List.size_toArray,← hl]
   exact Option.some.inj h1
  exact subscriptTail_builtinR (x:=w) pl.isList.typeIs slot_list_getitem.lookup
   (wpAny_getItem_list_neg (Q:=fun r s'=>r=w∧EP X pins σ Q r s') pl.isList (by omega) (by rw[List.size_toArray]<;>omega) (by omega) (by rw[hj];simpa using ew) ⟨rfl,fin⟩) hs
theorem yap:IxR X (rIxT X.K):=by
 intro value slice pins s σ H x y v u Q I rx ry h hs
 obtain ⟨p,xs,i,z,rfl,rfl,hq,he,q⟩:=h
 cases rx
 obtain ⟨t,rfl⟩:=ry
 obtain ⟨its,r,pl,hz⟩:=I.tuple hq
 obtain ⟨j,h1,h2,h3,h4,h5⟩:=qle he
 obtain ⟨w,ew,rw'⟩:=r.get h2
 have hl:=r.length
 have hn:=qjy
 have fin:EP X pins σ Q w s:=⟨z,H,I,rw',q⟩
 exact subscriptTail_builtinR (x:=w) pl.typeIs slot_tuple_getitem.lookup
  (getItem_tuple (j:=j) (Q:=fun r s'=>r=w∧EP X pins σ Q r s') pl (by omega) (by omega) (by rw[List.size_toArray,← hl];exact h1) (by simpa using ew) ⟨rfl,fin⟩) hs
theorem qkf (its:List Value) (n j:Nat) (u:Value):Obj.mapSeq (·.setIfInBounds j u) { cls:=.type "list",data:=.seq its.toArray n }={ cls:=.type "list",data:=.seq (its.set j u).toArray n }:=by
 simp[Obj.mapSeq]
theorem Inv.lst {pins:List (Addr×Obj)}{σ:St}{H:Hp}{s:Shared}{p:Addr}{xs:List V} (I:Inv X pins σ H s) (h:H p=some (.lst xs)) :
  ∃ (its:List Value) (n:Nat),Vals xs its∧s.heap.get? p=some { cls:=.type "list",data:=.seq its.toArray n }∧xs.length≤sizeLine:=by
 obtain ⟨z,its,n,r,e⟩:=I.hok p _ h
 exact ⟨its,n,r,e,z⟩
theorem Inv.lstUpd {pins:List (Addr×Obj)}{σ:St}{H:Hp}{s:Shared}{p:Addr}{xs ys:List V}{its its':List Value}{n n':Nat}{f:Obj→Obj} (I:Inv X pins σ H s) (h:H p=some (.lst xs))
  (ho:s.heap.get? p=some { cls:=.type "list",data:=.seq its.toArray n }) (hf:f { cls:=.type "list",data:=.seq its.toArray n }={ cls:=.type "list",data:=.seq its'.toArray n' }) (r:Vals ys its') (hz:ys.length≤sizeLine) (t:Nat) :
  Inv X pins σ (upd H p (.lst ys)) { s with heap:=s.heap.update p f,toks:=t }:=by
 have e:(s.heap.update p f).get? p=some { cls:=.type "list",data:=.seq its'.toArray n' }:=by
  rw[Heap.get?_update_self f ho (by rw[hf]<;>rfl),hf]
 refine I.write (x:=p) (e:=p) (by rw[h];trivial) (.inl rfl) (fun b u hb q=>(Heap.get?_update_other _ _ (Ne.symm hb)).trans q) ⟨_,e⟩ ?_
 exact ⟨hz,its',n',r,e⟩
noncomputable def rSetL:V→V→V→Hp→(Hp→Prop)→Prop:=fun o i v H Q=>∃ p xs k j,o=.ref p∧i=.int k∧H p=some (.lst xs)∧ixN xs.length k=some j∧Q (upd H p (.lst (xs.set j v)))
theorem ydy:PSet X rSetL:=by
 intro pins s σ H o i v ov iv u Q I ro ri rv h
 obtain ⟨p,xs,k,j,rfl,rfl,hp,hj,q⟩:=h
 cases ro
 obtain ⟨t,rfl⟩:=ri
 obtain ⟨its,n,r,ho,hz⟩:=I.lst hp
 obtain ⟨h1,h2,h3,h4⟩:=ylp hj
 have hl:=r.length
 have hn:=qjy
 have I':Inv X pins σ (upd H p (.lst (xs.set j v))) { s with heap:=s.heap.update p (Obj.mapSeq (·.setIfInBounds j u)) }:=
  I.lstUpd hp ho (qkf its n j u) (r.set rv j) (by rw[List.length_set];exact hz) s.toks
 by_cases h0:0≤k
 ·have hk:k.toNat=j:=by
   rw[seqIndex_of h0 h4] at h1
   exact Option.some.inj h1
  exact PySem.W.ki_setAt ho h0 (by omega) (by rw[List.size_toArray,← hl];exact h4) (by rw[hk];exact ⟨_,I',q⟩)
 ·have hk:(k+(its.toArray.size:Int)).toNat=j:=by
   rw[seqIndex_neg (by omega) h3] at h1
   rw[List.size_toArray,← hl]
   exact Option.some.inj h1
  exact PySem.W.ki_setBack ho (by omega) (by rw[List.size_toArray,← hl];exact h3) (by omega) (by rw[hk];exact ⟨_,I',q⟩)
theorem yip (lo hi:Option Int) (n:Nat):(sliceBounds lo hi none n).1=((HT.sIx n 0 lo:Nat):Int)∧(sliceBounds lo hi none n).2.1=((HT.sIx n n hi:Nat):Int)∧(sliceBounds lo hi none n).2.2=1:=by
 refine ⟨?_,?_,rfl⟩
 ·cases lo with
  | none=>simp[sliceBounds,HT.sIx]
  | some i=>
   simp only[sliceBounds,HT.sIx,Option.getD_none,show (1:Int)>0 by decide,if_true]
   by_cases h:i<0
   ·simp only[h,if_true]<;>omega
   ·simp only[h,if_false]<;>omega
 ·cases hi with
  | none=>simp[sliceBounds,HT.sIx]
  | some i=>
   simp only[sliceBounds,HT.sIx,Option.getD_none,show (1:Int)>0 by decide,if_true]
   by_cases h:i<0
   ·simp only[h,if_true]<;>omega
   ·simp only[h,if_false]<;>omega
theorem qhx (its:List Value) (lo hi:Option Int):slicePick its.toArray lo hi none=((its.drop (HT.sIx its.length 0 lo)).take (HT.sIx its.length its.length hi-HT.sIx its.length 0 lo)).toArray:=by
 obtain ⟨h1,h2,h3⟩:=yip lo hi its.toArray.size
 unfold slicePick
 rw[h1,h2,h3]
 simp only[sliceRange_one,pick_run,List.size_toArray]<;>rfl
noncomputable def rSlL (K:PySem.W.Frag):V→Option Int→Option Int→Hp→VK→Prop:=fun x lo hi H Q=>∃ a xs,x=.ref a∧SqL K H a xs∧∀ p,H p=none→Q (.ref p) (upd H p (.lst (cutV xs lo hi)))
theorem ydn:SlR X (rSlL X.K):=by
 intro pins s σ H x v vl vu lo hi sl Q I rx hs pl pu h
 obtain ⟨a,xs,rfl,hx,q⟩:=h
 cases rx
 obtain ⟨its,r,ht,hz⟩:=I.list hx
 have hlen:=r.length
 refine ⟨"list",_,slot_list_getitem.lookup,ht.isList.typeIs,?_⟩
 refine wpAny_getItem_list_slice ht.isList hs pl pu .none (by simp) ?_ (by rw[List.size_toArray]<;>omega)
 rw[qhx,← hlen]
 refine ⟨.ref s.heap.objs.size,_,I.laid (t':=s.toks) (o:=.lst (cutV xs lo hi)) (fun b ob q=>Heap.get?_push_of_some _ q) (Nat.le_refl _) ?_,rfl,q _ (I.hok.fresh (Nat.le_refl _))⟩
 exact ⟨Nat.le_trans (qfy xs lo hi) hz,_,0,(r.drop (HT.sIx xs.length 0 lo)).take (HT.sIx xs.length xs.length hi-HT.sIx xs.length 0 lo),Heap.get?_push_size _ rfl⟩
noncomputable def qdm:V→Bool
 | .non=>true
 | .bl _=>true
 | .int _=>true
 | .str _=>true
 | _=>false
noncomputable def eqV:V→V→Bool
 | .non,.non=>true
 | .bl a,.bl b=>a == b
 | .bl a,.int b=>(if a then 1 else 0) == b
 | .int a,.bl b=>a == (if b then 1 else 0)
 | .int a,.int b=>a == b
 | .str a,.str b=>a == b
 | _,_=>false
theorem eqAt_V {A:Around}{s:Shared}{y x:V}{u v:Value} (ry:RelV y u) (rx:RelV x v) (fy:qdm y=true) (fx:qdm x=true):SeqAt.EqAt A s u v (eqV y x):=by
 cases y with
 | non=>
  cases ry
  cases x with
  | non=>cases rx;exact SeqAt.EqAt.same _
  | bl b=>cases rx;exact SeqAt.EqAt.none_bool b
  | int b=>obtain ⟨t,rfl⟩:=rx;exact SeqAt.EqAt.none_int b t
  | str b=>obtain ⟨t,rfl⟩:=rx;exact SeqAt.EqAt.none_str b t
  | _=>exact absurd (show false=true from fx) Bool.false_ne_true
 | bl a=>
  cases ry
  cases x with
  | non=>cases rx;exact SeqAt.EqAt.bool_none a
  | bl b=>cases rx;exact SeqAt.EqAt.bool_bool a b
  | int b=>obtain ⟨t,rfl⟩:=rx;exact SeqAt.EqAt.bool_int a b t
  | str b=>obtain ⟨t,rfl⟩:=rx;exact SeqAt.EqAt.bool_str a b t
  | _=>exact absurd (show false=true from fx) Bool.false_ne_true
 | int a=>
  obtain ⟨t',rfl⟩:=ry
  cases x with
  | non=>cases rx;exact SeqAt.EqAt.int_none a t'
  | bl b=>cases rx;exact SeqAt.EqAt.int_bool a t' b
  | int b=>obtain ⟨t,rfl⟩:=rx;exact SeqAt.EqAt.int_int a t' b t
  | str b=>obtain ⟨t,rfl⟩:=rx;exact SeqAt.EqAt.int_str a t' b t
  | _=>exact absurd (show false=true from fx) Bool.false_ne_true
 | str a=>
  obtain ⟨t',rfl⟩:=ry
  cases x with
  | non=>cases rx;exact SeqAt.EqAt.str_none a t'
  | bl b=>cases rx;exact SeqAt.EqAt.str_bool a t' b
  | int b=>obtain ⟨t,rfl⟩:=rx;exact SeqAt.EqAt.str_int a t' b t
  | str b=>obtain ⟨t,rfl⟩:=rx;exact SeqAt.EqAt.str_str a t' b t
  | _=>exact absurd (show false=true from fx) Bool.false_ne_true
 | _=>exact absurd (show false=true from fy) Bool.false_ne_true
noncomputable def eqU (x:V) (u:Value):Bool:=match u with
 | .none=>eqV .non x
 | .bool b=>eqV (.bl b) x
 | .int i _=>eqV (.int i) x
 | .str z _=>eqV (.str z) x
 | _=>false
theorem eqU_of {x y:V}{u:Value} (r:RelV y u) (f:qdm y=true):eqU x u=eqV y x:=by
 cases y with
 | non=>cases r;rfl
 | bl b=>cases r;rfl
 | int i=>obtain ⟨t,rfl⟩:=r;rfl
 | str z=>obtain ⟨t,rfl⟩:=r;rfl
 | _=>exact absurd (show false=true from f) Bool.false_ne_true
theorem qgf {x:V}:∀ {xs:List V}{us:List Value},Vals xs us→xs.all qdm=true→us.any (eqU x)=xs.any fun y=>eqV y x
 | _,_,.nil,_=>rfl
 | y::xs,u::us,.cons r t,f=>by
  rw[List.all_cons,Bool.and_eq_true] at f
  rw[List.any_cons,List.any_cons,eqU_of r f.1,qgf t f.2]
theorem qeu {A:Around}{s:Shared}{x:V}{v:Value} (rx:RelV x v) (fx:qdm x=true):∀ {xs:List V}{us:List Value},Vals xs us→xs.all qdm=true→∀ u∈us,SeqAt.EqAt A s u v (eqU x u)
 | _,_,.nil,_=>fun u hu=>by cases hu
 | y::xs,u::us,.cons r t,f=>fun u' hu=>by
  rw[List.all_cons,Bool.and_eq_true] at f
  rcases List.mem_cons.mp hu with rfl|hu
  ·rw[eqU_of r f.1];exact eqAt_V r rx f.1 fx
  ·exact qeu rx fx t f.2 u' hu
noncomputable def inV (x:V) (xs:List V):Bool:=xs.any fun y=>eqV y x
noncomputable def rIn (K:PySem.W.Frag) (neg:Bool):R2:=fun x y H Q=>∃ p xs,y=.ref p∧(SqL K H p xs∨SqT K H p xs)∧qdm x=true∧xs.all qdm=true∧Q (.bl (if neg then !inV x xs else inV x xs)) H
theorem qbr:OpR X (compareOp .In) (rIn X.K false):=by
 intro pins s σ H x y v u Q I rx ry h
 obtain ⟨p,xs,rfl,hq,fx,fs,q⟩:=h
 cases ry
 rcases hq with hq|hq
 ·obtain ⟨its,r,pl,hz⟩:=I.list hq
  refine SeqAt.in_listAt (eqU x) pl.isList (fun w hw=>qeu rx fx r fs w (by simpa using hw)) ⟨.bl _,H,I,rfl,?_⟩
  rw[show its.toArray.any (eqU x)=its.any (eqU x) by simp,qgf r fs]
  exact q
 ·obtain ⟨its,r,pl,hz⟩:=I.tuple hq
  refine SeqAt.in_tupleAt (eqU x) pl (fun w hw=>qeu rx fx r fs w (by simpa using hw)) ⟨.bl _,H,I,rfl,?_⟩
  rw[show its.toArray.any (eqU x)=its.any (eqU x) by simp,qgf r fs]
  exact q
theorem qh3:OpR X (compareOp .NotIn) (rIn X.K true):=by
 intro pins s σ H x y v u Q I rx ry h
 obtain ⟨p,xs,rfl,hq,fx,fs,q⟩:=h
 cases ry
 rcases hq with hq|hq
 ·obtain ⟨its,r,pl,hz⟩:=I.list hq
  refine SeqAt.notIn_listAt (eqU x) pl.isList (fun w hw=>qeu rx fx r fs w (by simpa using hw)) ⟨.bl _,H,I,rfl,?_⟩
  rw[show its.toArray.any (eqU x)=its.any (eqU x) by simp,qgf r fs]
  exact q
 ·obtain ⟨its,r,pl,hz⟩:=I.tuple hq
  refine SeqAt.notIn_tupleAt (eqU x) pl (fun w hw=>qeu rx fx r fs w (by simpa using hw)) ⟨.bl _,H,I,rfl,?_⟩
  rw[show its.toArray.any (eqU x)=its.any (eqU x) by simp,qgf r fs]
  exact q
theorem yag:yc1 X (.builtin "len") (fun xs H Q=>∃ p ys,xs=[.ref p]∧(SqL X.K H p ys∨SqT X.K H p ys)∧Q (.int ys.length) H):=by
 intro pins s σ H xs us Q I r h
 obtain ⟨p,ys,rfl,hq,q⟩:=h
 obtain ⟨u,rfl,rx⟩:=ykj r
 cases rx
 have hn:=qjy
 rcases hq with hq|hq
 ·obtain ⟨its,r',pl,hz⟩:=I.list hq
  have hlen:=r'.length
  exact Calls.call_len_list pl.isList (by simp only[List.size_toArray]<;>omega) ⟨.int ys.length,H,I.tok _,⟨s.toks+1,by rw[List.size_toArray,hlen]⟩,q⟩
 ·obtain ⟨its,r',pl,hz⟩:=I.tuple hq
  have hlen:=r'.length
  exact len_tuple pl (by simp only[List.size_toArray]<;>omega) ⟨.int ys.length,H,I.tok _,⟨s.toks+1,by rw[List.size_toArray,hlen]⟩,q⟩
theorem yb5:yc1 X (.type "list") (fun xs H Q=>∃ p ys,xs=[.ref p]∧(SqL X.K H p ys∨SqT X.K H p ys)∧∀ l,H l=none→Q (.ref l) (upd H l (.lst ys))):=by
 intro pins s σ H xs us Q I r h
 obtain ⟨p,ys,rfl,hq,q⟩:=h
 obtain ⟨u,rfl,rx⟩:=ykj r
 cases rx
 have fin:∀ (its:List Value),Vals ys its→ys.length≤sizeLine→∀ (h':Heap) (c':Nat),(∀ b o',s.heap.get? b=some o'→h'.get? b=some o')→
   h'.get? s.heap.objs.size=some { cls:=.type "list",dict:=none,data:=.seq its.toArray c',slots:=#[] }→EP X pins σ Q (.ref s.heap.objs.size) { s with heap:=h' }:=fun its r' hz h' c' kp e=>
  ⟨.ref s.heap.objs.size,_,I.laid (t':=s.toks) kp (Nat.le_refl _) (show ybq X.prog X.w _ h' _ (.lst ys) from ⟨hz,its,c',r',e⟩),rfl,q _ (I.hok.fresh (Nat.le_refl _))⟩
 rcases hq with hq|hq
 ·obtain ⟨its,r',pl,hz⟩:=I.list hq
  have hlen:=r'.length
  obtain ⟨o,ho,hc,n,hd⟩:=pl.isList
  exact call_list_seq p (.inl rfl) ho hc hd (fun h' c' kp e=>fin its r' hz h' c' kp e) (by simp only[List.size_toArray]<;>omega)
 ·obtain ⟨its,r',pl,hz⟩:=I.tuple hq
  have hlen:=r'.length
  obtain ⟨o,ho,hc,n,hd⟩:=pl
  exact call_list_seq p (.inr rfl) ho hc hd (fun h' c' kp e=>fin its r' hz h' c' kp e) (by simp only[List.size_toArray]<;>omega)
theorem yer:yc1 X (.type "tuple") (fun xs H Q=>∃ p ys,xs=[.ref p]∧((SqL X.K H p ys∧∀ l,H l=none→Q (.ref l) (upd H l (.tup ys)))∨(SqT X.K H p ys∧Q (.ref p) H))):=by
 intro pins s σ H xs us Q I r h
 obtain ⟨p,ys,rfl,h⟩:=h
 obtain ⟨u,rfl,rx⟩:=ykj r
 cases rx
 rcases h with ⟨hq,q⟩|⟨hq,q⟩
 ·obtain ⟨its,r',pl,hz⟩:=I.list hq
  have hlen:=r'.length
  refine call_tuple_list pl.isList (fun h' kp=>?_) (by simp only[List.size_toArray]<;>omega)
  have I1:Inv X pins σ H { s with heap:=h' }:=I.kept (t':=s.toks) kp
  have I2:Inv X pins σ (upd H h'.objs.size (.tup ys)) { s with heap:=h'.push { cls:=.type "tuple",data:=.seq its.toArray } }:=
   I1.laid (t':=s.toks) (fun b o e=>Heap.get?_push_of_some _ e) (Nat.le_refl _) (show ybq X.prog X.w _ _ _ (.tup ys) from ⟨hz,its,r',IsTup.new _ _⟩)
  exact ⟨.ref h'.objs.size,_,I2,rfl,q _ (I1.hok.fresh (Nat.le_refl _))⟩
 ·obtain ⟨its,r',pl,hz⟩:=I.tuple hq
  exact call_tuple_same pl ⟨.ref p,H,I,rfl,q⟩
noncomputable def tyV (K:PySem.W.Frag) (T:String) (x:V) (H:Hp):Prop:=match x with
 | .str _=>T="str"
 | .int _=>T="int"
 | .ref p=>(T="list"∧∃ xs,SqL K H p xs)∨(T="tuple"∧∃ o,K.lookup p=some o∧o.cls=.type "tuple"∧o.dict=none)∨
   (T="dict"∧((∃ kvs,H p=some (.dK kvs))∨∃ kvs,H p=some (.dT kvs)))∨(T="set"∧∃ S n,H p=some (.set S n))
 | _=>False
theorem tyV_is {pins:List (Addr×Obj)}{σ:St}{H:Hp}{s:Shared}{T:String}{x:V}{v:Value} (I:Inv X pins σ H s) (r:RelV x v) (ty:tyV X.K T x H) :
  s.TypeIs v T∧∀ a,v=.ref a→∃ ob,s.heap.get? a=some ob∧ob.dict=none:=by
 cases x with
 | str z=>
  obtain ⟨t,rfl⟩:=r
  cases (show T="str" from ty)
  exact ⟨typeIs_str s z t,fun _ e=>nomatch e⟩
 | int i=>
  obtain ⟨t,rfl⟩:=r
  cases (show T="int" from ty)
  exact ⟨typeIs_int s i t,fun _ e=>nomatch e⟩
 | ref p=>
  cases r
  rcases ty with ⟨rfl,xs,hq⟩|⟨rfl,o,hk,hc,hd⟩|⟨rfl,hk⟩|⟨rfl,S,n,hk⟩
  ·obtain ⟨its,_,pl,_⟩:=I.list hq
   refine ⟨pl.isList.typeIs,fun a e=>?_⟩
   cases e
   obtain ⟨o,n,e,c,hd,_⟩:=pl
   exact ⟨o,e,hd⟩
  ·refine ⟨⟨o,I.kIn p o hk,hc⟩,fun a e=>?_⟩
   cases e
   exact ⟨o,I.kIn _ o hk,hd⟩
  ·have z:∃ o,s.heap.get? p=some o∧o.ExactDict:=by
    rcases hk with ⟨kvs,hk⟩|⟨kvs,hk⟩
    ·obtain ⟨_,_,_,_,o,_,_,e,ex,_⟩:=I.hok p _ hk
     exact ⟨o,e,ex⟩
    ·obtain ⟨_,_,_,_,o,_,_,e,ex,_⟩:=I.hok p _ hk
     exact ⟨o,e,ex⟩
   obtain ⟨o,e,ex⟩:=z
   refine ⟨⟨o,e,ex.1⟩,fun a e2=>?_⟩
   cases e2
   exact ⟨o,e,ex.2.1⟩
  ·obtain ⟨o,_,_,_,e,ex,_⟩:=I.hok p _ hk
   refine ⟨⟨o,e,ex.1⟩,fun a e2=>?_⟩
   cases e2
   exact ⟨o,e,ex.2.1⟩
 | _=>exact False.elim ty
noncomputable def tBM (K:PySem.W.Frag) (T:String) (r:V→List V→Hp→VK→Prop) (to:TE) (t:TA):TE:=fun σ H Q=>to σ H fun x H1=>tyV K T x H1∧t σ H1 fun xs H2=>r x xs H2 Q
variable {o e:Expr}{es:List Expr}{to:TE}{t:TA}{name:Str}{apos cpos:Pos}{T id:String}{r:V→List V→Hp→VK→Prop}
theorem qe4 (pa:PlainAttrs T) (slot:Slot T name id) (hty:typeOf (.builtin id)=pure (.type "method_descriptor")) (hm:MtR X id r) (ho:PE X o to) (ha:PA X (e::es) t)
  (hbase:attributeBase o name X.env (eval o X.env)=eval o X.env:=by rfl)
  (hfew:((backTo cpos (starEach (e::es) X.env)).all (fun x=>!x.1)&&(backToKw cpos (keywordEach [] X.env)).all (fun x=>x.1.isSome)
   && decide ((e::es).length+([]:List Keyword).length+(if ([]:List Keyword).isEmpty then 0 else 1)<30))=true:=by rfl)
  (hline:(apos.endLine == cpos.line)=true:=by rfl) (hs:starEach (e::es) X.env=(false,eval e X.env)::starEach es X.env:=by rfl) (hplain:(backTo cpos (starEach es X.env)).any (·.1)=false:=by rfl) :
  PE X (.Call (.Attribute o name apos) (e::es) [] cpos) (tBM X.K T r to t):=by
 intro pins s σ H Q I h
 refine wpAny_Call_method_late hbase hfew hline rfl (thn (ho pins s σ H _ I h) fun v s1 ⟨x,H1,I1,r1,ty,q1⟩=>?_)
 obtain ⟨h1,h2⟩:=tyV_is I1 r1 ty
 refine ⟨T,id,pa,slot,hty,h1,h2,?_⟩
 have hA:=ha cpos pins s1 σ H1 _ I1 q1
 rw[hs] at hA ⊢
 refine Calls.callWith_builtin (by show (false||(backTo cpos (starEach es X.env)).any (·.1))=false;rw[hplain]<;>rfl) (Calls.evalArgs_plain ?_)
 exact thn hA fun us s2 ⟨vs,H2,I2,r2,q2⟩=>hm pins s2 σ H2 x vs v us Q I2 r1 r2 q2
/- xs.append(e),list.index on a module's tuple .. are MtR facts of 06m -/
end
noncomputable def MtM (X:Cx) (id:String) (r:V→List V→Hp→VK→Prop):Prop:=
 ∀ (pins:List (Addr×Obj)) (s:Shared) (σ:St) (H:Hp) (x:V) (xs:List V) (v:Value) (us:List Value) (Q:VK),Inv X pins σ H s→RelV x v→Vals xs us→r x xs H Q→
  wpAny (model X.prog X.w) X.A (call (.builtin id) (v::us)) (EP X pins σ Q) X.xe s
theorem Vals.one:∀ {x:V}{us:List Value},Vals [x] us→∃ u,us=[u]∧RelV x u
 | _,_,.cons r .nil=>⟨_,rfl,r⟩
theorem Vals.rep {xs:List V}{us:List Value} (h:Vals xs us):∀ k:Nat,Vals (List.replicate k xs).flatten (List.replicate k us).flatten
 | 0=>.nil
 | k+1=>by
  rw[List.replicate_succ,List.replicate_succ,List.flatten_cons,List.flatten_cons]
  exact Vals.append h (Vals.rep h k)
theorem yio (its:List Value):∀ (k:Nat) (acc:List Value),
  List.foldl (fun x1 x2=>x1++x2) acc.toArray (List.replicate k its.toArray)=(acc++(List.replicate k its).flatten).toArray
 | 0,acc=>by simp
 | k+1,acc=>by
  have e:acc.toArray++its.toArray=(acc++its).toArray:=by simp
  have e2:(acc++its)++(List.replicate k its).flatten=acc++(List.replicate (k+1) its).flatten:=by
   rw[List.replicate_succ,List.flatten_cons,List.append_assoc]
  rw[← e2,← yio its k (acc++its),← e,List.replicate_succ,List.foldl_cons]
section
variable {X:Cx}{pins:List (Addr×Obj)}{σ:St}{H:Hp}{s:Shared}{l b:Addr}{xs ys zs:List V}
theorem Inv.lset {its its':List Value}{n:Nat}{f:Array Value→Array Value}{t':Nat} (I:Inv X pins σ H s) (hH:H l=some (.lst xs))
  (e:s.heap.get? l=some { cls:=.type "list",data:=.seq its.toArray n }) (hf:f its.toArray=its'.toArray) (hv:Vals ys its') (hz:ys.length≤sizeLine) :
  Inv X pins σ (upd H l (.lst ys)) { s with heap:=s.heap.update l (Obj.mapSeq f),toks:=t' }:=by
 have q:=PySem.IsL.update e f
 rw[hf] at q
 refine I.write (x:=l) (e:=l) (by rw[hH];exact trivial) (.inl rfl) (fun b' u hb hu=>(Heap.get?_update_other s.heap (Obj.mapSeq f) (Ne.symm hb)).trans hu) ⟨_,q⟩ ?_
 exact ⟨hz,its',_,hv,q⟩
theorem Inv.lnew {its:List Value}{t':Nat} (I:Inv X pins σ H s) (hv:Vals ys its) (hz:ys.length≤sizeLine) :
  Inv X pins σ (upd H s.heap.objs.size (.lst ys)) { s with heap:=s.heap.push { cls:=.type "list",data:=.seq its.toArray },toks:=t' }:=
 I.laid (fun _ _ q=>Heap.get?_push_of_some _ q) (Nat.le_refl _) ⟨hz,its,0,hv,Heap.get?_push_size _ rfl⟩
theorem Inv.fresh (I:Inv X pins σ H s):H s.heap.objs.size=none:=I.hok.fresh (Nat.le_refl _)
theorem Inv.lstM (I:Inv X pins σ H s) (hH:H l=some (.lst xs)):xs.length≤sizeLine∧∃ (its:List Value) (n:Nat),Vals xs its∧xs.length=its.length∧s.heap.get? l=some { cls:=.type "list",data:=.seq its.toArray n }:=by
 obtain ⟨z,its,n,r,e⟩:=I.hok l _ hH
 exact ⟨z,its,n,r,r.length,e⟩
theorem qjo {n:Nat} (h:n≤sizeLine):Builtin.List.listTooLong n=false:=by
 unfold Builtin.List.listTooLong
 exact decide_eq_false (by omega)
end
section
variable {X:Cx}
noncomputable def rAppend:V→List V→Hp→VK→Prop:=fun x vs H Q=>∃ l xs y,x=.ref l∧vs=[y]∧H l=some (.lst xs)∧xs.length<sizeLine∧Q .non (upd H l (.lst (xs++[y])))
theorem qb6:MtM X "list.append" rAppend:=by
 intro pins s σ H x vs v us Q I rx rv h
 obtain ⟨l,xs,y,rfl,rfl,hH,hz,q⟩:=h
 cases rx
 obtain ⟨u,rfl,ru⟩:=rv.one
 obtain ⟨z,its,n,r,hl,e⟩:=I.lstM hH
 refine call_meets F.slot_list_append ⟨_,e,rfl⟩ F.entry_list_append (F.args_list_append_2 _ _) (PySem.list_append l its.toArray n u (by rw[List.size_toArray];omega)) ⟨e,?_⟩
 refine ⟨.non,_,I.lset (its':=its++[u]) hH e (by simp) (r.append (.cons ru .nil)) ?_,rfl,q⟩
 rw[List.length_append,List.length_singleton]
 omega
noncomputable def rExtend:V→List V→Hp→VK→Prop:=fun x vs H Q=>∃ l b xs zs,x=.ref l∧vs=[.ref b]∧H l=some (.lst xs)∧H b=some (.lst zs)∧xs.length+zs.length≤sizeLine∧Q .non (upd H l (.lst (xs++zs)))
theorem qet:MtM X "list.extend" rExtend:=by
 intro pins s σ H x vs v us Q I rx rv h
 obtain ⟨l,b,xs,zs,rfl,rfl,hH,hB,hz,q⟩:=h
 cases rx
 obtain ⟨u,rfl,ru⟩:=rv.one
 cases ru
 obtain ⟨z,its,n,r,hl,e⟩:=I.lstM hH
 obtain ⟨z2,its2,n2,r2,hl2,e2⟩:=I.lstM hB
 have hsz:its.toArray.size+its2.toArray.size≤sizeLine:=by rw[List.size_toArray,List.size_toArray];omega
 have hlong:¬ (!its.toArray.isEmpty&&Builtin.List.listTooLong (its.toArray.size+its2.toArray.size))=true:=by
  rw[qjo hsz,Bool.and_false]
  exact Bool.false_ne_true
 refine call_meets F.slot_list_extend ⟨_,e,rfl⟩ F.entry_list_extend (F.args_list_extend_2 _ _)
  (AutoSeq1.list_extend_list_list_0 l its.toArray n b its2.toArray n2 hlong (by rw[List.size_toArray];omega) (by omega)) ⟨e,e2,?_⟩
 refine ⟨.non,_,I.lset (its':=its++its2) hH e (by simp) (r.append r2) ?_,rfl,q⟩
 rw[List.length_append]
 omega
noncomputable def rCat:R2:=fun x y H Q=>∃ l b xs zs,x=.ref l∧y=.ref b∧H l=some (.lst xs)∧H b=some (.lst zs)∧xs.length+zs.length≤sizeLine∧∀ p,H p=none→Q (.ref p) (upd H p (.lst (xs++zs)))
theorem yc0:OpR X (binaryOp .Add) rCat:=by
 intro pins s σ H x y v u Q I rx ry h
 obtain ⟨l,b,xs,zs,rfl,rfl,hH,hB,hz,q⟩:=h
 cases rx
 cases ry
 obtain ⟨z,its,n,r,hl,e⟩:=I.lstM hH
 obtain ⟨z2,its2,n2,r2,hl2,e2⟩:=I.lstM hB
 refine PySem.P.add_list e e2 ?_ (by rw[List.size_toArray,List.size_toArray];omega)
 have ea:its.toArray++its2.toArray=(its++its2).toArray:=by simp
 rw[ea]
 exact ⟨.ref _,_,I.lnew (t':=s.toks) (r.append r2) (by rw[List.length_append];omega),rfl,q _ I.fresh⟩
noncomputable def rRep:R2:=fun x y H Q=>∃ l k xs,x=.ref l∧y=.int k∧H l=some (.lst xs)∧-(2 ^ 63)≤k∧k<2 ^ 63∧xs.length*k.toNat≤sizeLine∧
 ∀ p,H p=none→Q (.ref p) (upd H p (.lst (List.replicate k.toNat xs).flatten))
theorem len_rep {α:Type} (xs:List α) (k:Nat):(List.replicate k xs).flatten.length=k*xs.length:=by
 induction k with
 | zero=>simp
 | succ k ih=>rw[List.replicate_succ,List.flatten_cons,List.length_append,ih,Nat.succ_mul,Nat.add_comm]
theorem yfc:OpR X (binaryOp .Mult) rRep:=by
 intro pins s σ H x y v u Q I rx ry h
 obtain ⟨l,k,xs,rfl,rfl,hH,h1,h2,hz,q⟩:=h
 cases rx
 obtain ⟨t,rfl⟩:=ry
 obtain ⟨z,its,n,r,hl,e⟩:=I.lstM hH
 have hlen:its.toArray.size*k.toNat≤sizeLine:=by rw[List.size_toArray,← hl];exact hz
 have hcap:¬ its.toArray.size*k.toNat>(2 ^ 63-1) / 8:=by
  have:(sizeLine:Nat)≤(2 ^ 63-1) / 8:=by decide
  omega
 have hfit:¬ (!Builtin.List.listFitsIndex k)=true:=by
  rw[fitsIndex_both h1 h2]
  exact Bool.false_ne_true
 have hlong:¬ Builtin.List.listTooLong (its.toArray.size*k.toNat)=true:=by
  rw[qjo hlen]
  exact Bool.false_ne_true
 have hnew:List.foldl (fun x1 x2=>x1++x2) #[] (List.replicate (if its.toArray.isEmpty=true then 0 else k.toNat) its.toArray)=(List.replicate k.toNat its).flatten.toArray:=by
  have f0:∀ m:Nat,List.foldl (fun x1 x2=>x1++x2) #[] (List.replicate m its.toArray)=(List.replicate m its).flatten.toArray:=fun m=>by
   have:=yio its m []
   rw[List.nil_append] at this
   exact this
  rw[f0]
  cases its with
  | nil=>simp
  | cons a r'=>rw[if_neg (by simp)]
 refine wpAny_binaryOp_repeat_ref (T:="list") (U:="int") (by decide) ⟨_,e,rfl⟩ (fun s'=>typeIs_int s' k t) noFill_list_mul F.fills_int_mul F.slot_int_rmul repeat_list F.slot_int_index.lookup
  (call_meets F.slot_int_rmul (typeIs_int s k t) F.entry_int_rmul (F.args_int_rmul_2 _ _) (int___rmul___int_list k t l its.toArray n)
   ⟨e,rfl,⟨_,e,rfl⟩,call_meets F.slot_list_mul ⟨_,e,rfl⟩ F.entry_list_mul (F.args_list_mul_2 _ _) (AutoListH.list___mul___list_int_3 l its.toArray n k t hfit hcap hlong) ⟨e,?_⟩⟩)
 rw[hnew]
 exact ⟨.ref _,_,I.lnew (t':=s.toks) (r.rep k.toNat) (by rw[len_rep,Nat.mul_comm];exact hz),rfl,q _ I.fresh⟩
end
end L2
namespace Att
open PySem PySem.W PySem.Calls PyProof.Rows
theorem qgr {P:Params}{h:Heap}:∀ (ns:List Int) (vs:List Value),WellAll P h vs (ns.map WData.int)→IntsAre vs ns:=by
 intro ns
 induction ns with
 | nil=>
  intro vs w
  rw[List.map_nil] at w
  cases w
  exact .nil
 | cons n ns ih=>
  intro vs w
  rw[List.map_cons] at w
  cases w with
  | cons a b=>
   cases a
   exact .cons _ _ (ih _ b)
theorem qmk {l:OpenLaw}{n:Nat} (hn:l.most=some n) {P:Params}{h:Heap}{args:List WData}{vals:List Value}
  (hpre:l.row.toRowW.claim.pre args=true) (hwl:WellAll P h vals args) :
  ∃ a vs ns,vals=[Value.ref a]∧args=[WData.list (ns.map WData.int)]∧h.get? a=some { cls:=.type "list",data:=.seq vs.toArray }∧IntsAre vs ns∧ns.length≤n:=by
 have hsh:WShape.hasAll [] args [.list .int]=true:=(pre_splitW hpre).1
 have hc:l.pre.holds [] { args:=args }=true:=(pre_splitW hpre).2
 obtain ⟨d,r,rfl,h1,h2⟩:=hasAllW_cons hsh
 obtain rfl:=hasAllW_nil h2
 obtain ⟨xs,rfl,h3⟩:=hasW_list h1
 obtain ⟨ns,rfl⟩:=items_int h3
 have hlen:ns.length≤n:=by
  unfold OpenLaw.pre at hc
  have h4:(WTm.not (.lt (.lit (.int (n:Int))) (.len (.arg 0)))).holds [] { args:=[.list (ns.map .int)] }=true:=by
   have h4:=(holds_andW hc).1
   rw[hn] at h4
   exact h4
  have h5:=condW_of h4 (w_not (w_lt w_lit (w_len_list (w_arg rfl))))
  rw[List.length_map] at h5
  refine Nat.le_of_not_lt fun q=>?_
  have q':(n:Int)<((ns.length:Nat):Int):=by omega
  first
   | (rw[decide_eq_true q'] at h5;exact absurd h5 (by decide))
   | (simp at h5;omega)
 cases hwl with
 | cons w1 w2=>
  cases w2
  cases w1 with
  | list ho hall=>exact ⟨_,_,ns,rfl,rfl,ho,qgr ns _ hall,hlen⟩
theorem ymf (l:OpenLaw) (args:List WData):l.row.toRowW.claim.post args (.bool true) args=true:=
 postW_of (r:=l.row.toRowW) (X:=(true == true))
  (show WShape.has [] (.bool true) .bool=true by first|rfl|decide|simp[WShape.has,WShape.arms,WShape.armsAll])
  (show (WTm.eq .res (.lit (.bool true))).value [] { args:=args,res:=some (.bool true),after:=args }=some (.bool (true == true)) from w_eq_bool (w_res rfl) w_lit) rfl
theorem attach_call {l:OpenLaw}{n:Nat}{q:Program}{loose:List Str}{XP:(Str→Option Value)→Heap→Prop}{YP:World→Heap→Prop}{d:DefRec}
  (hn:l.most=some n) (hdf:d.params.defaults=[])
  (call:∀ (w:World) (s₀ s₁:Shared) (mg mb:Str→Option Value) (fa:Addr) (o:Obj) (pm cd doc:Value) (a:Addr) (vs:List Value) (ns:List Int),
   Ground q loose [] XP w s₀ mg mb s₁.heap→YP w s₁.heap→
   s₁.heap.get? fa=some o→o.data=.func (docDef d.name d.params d.body d.scope pm cd doc)→s₁.heap.CodeRec cd d.name→mg d.name=some (.ref fa)→
   s₁.heap.get? a=some { cls:=.type "list",data:=.seq vs.toArray }→IntsAre vs ns→ns.length≤n→s₁.gens=#[]→
   codeAny (model l.prog w) callerA (.call (.ref fa) ⟨[.ref a],[]⟩) (fun r s'=>r=.ok (.ret (.bool true))∧OldK s₁.heap s'.heap∧s'.os=s₁.os∧AllBare s'.gens) s₁) :
  WalkO q loose XP YP l.row.toRowW d [] (fun f vs=>PySem.call f vs):=by
 intro w s₀ s₁ mg mb G Y fa o pm cd doc dV kV ho hd hcd hD hmg hg args vals as hpre hlay hrd hwl hlo
 obtain rfl:dV=.none:=Dflts.none hD hdf
 obtain rfl:kV=.none:=Dflts.noKw hD
 obtain ⟨a,vs,ns,rfl,rfl,hobj,hints,hlen⟩:=qmk hn hpre hwl
 refine enter_call (codeAny_mono (call w s₀ s₁ mg mb fa o pm cd doc a vs ns G Y ho (fd_plain hd) hcd hmg hobj hints hlen hg) fun r s' hq=>?_)
 obtain ⟨rfl,h2,h3,h4⟩:=hq
 exact ⟨.inl ⟨.bool true,.bool true,[],rfl,fun _=>rfl,.bool true,ymf l _,fun _=>⟨List.Pairwise.nil,fun _ hm=>(nomatch hm)⟩⟩,h2,h3,h4⟩
end Att
namespace L2
open PySem PySem.Spec PyProof.Rows
theorem qik:∀ {vs:List Value}{ns:List Int},IntsAre vs ns→Vals (ns.map V.int) vs
 | _,_,.nil=>.nil
 | _,_,.cons n t h=>.cons ⟨t,rfl⟩ (qik h)
noncomputable def Only (H:Hp):Prop:=∀ b,H b=none∨∃ o xs,H b=some (.frz o (.lst xs))
theorem law_call {P:Program}{w:World}{K:PySem.W.Frag}{mg mb:Str→Option Value}{CX:CXT}{k:Nat}{fa a:Addr}{fd:FuncData}{x:Str}{sp:Sp}{s₁:Shared}{vs:List Value}{ns:List Int}
  (KX:K.In s₁.heap) (hns:s₁.heap.Ns mainGlobals mg) (hb:s₁.heap.Ns builtinsNs mb) (hbb:∀ x:Str,x≠"__name__"→mb x=bootBuiltins x) (hlim:s₁.heap.NoLimit) (hg:s₁.gens=#[])
  (ha:s₁.heap.get? a=some { cls:=.type "list",data:=.seq vs.toArray }) (hi:IntsAre vs ns) (hl:ns.length≤sizeLine) (hr:Room k callerA)
  (F:∀ base:Heap,K.In base→base.Ns mainGlobals mg→FnOk P w K mg base CX k fa fd [x] sp) (hbind:∀ (s:Shared) (u:Value),BindsTo s fd ⟨[u],[]⟩ [(x,u)])
  (hsp:∀ H:Hp,Only H→SqL K H a (ns.map V.int)→sp [.ref a] H (fun v _=>v=.bl true) fun _ _ _=>False)
  (hCX:∀ H e s',CX [] H s₁ (fun _ _ _=>False) e s'→False) :
  codeAny (model P w) callerA (.call (.ref fa) ⟨[.ref a],[]⟩) (fun r s'=>r=.ok (.ret (.bool true))∧OldK s₁.heap s'.heap∧s'.os=s₁.os∧AllBare s'.gens) s₁:=by
 have rv:=qik hi
 have lenV:=hi.length
 -- from an abstract heap in which nothing but the script may be tracked
 have core:∀ H:Hp,Only H→SqL K H a (ns.map V.int)→HOk P w H s₁.heap→(∀ b,H b≠none→b=a)→(H a≠none→K.lookup a=none)→
   codeAny (model P w) callerA (.call (.ref fa) ⟨[.ref a],[]⟩) (fun r s'=>r=.ok (.ret (.bool true))∧OldK s₁.heap s'.heap∧s'.os=s₁.os∧AllBare s'.gens) s₁:=by
  intro H hO hS hok hA hK
  have base_of:∀ {b:Addr}{o:Obj},s₁.heap.get? b=some o→H b=none→(hidT s₁.heap H).get? b=some o:=fun e n=>hidT_get e n
  have noA:∀ {b:Addr}{o:Obj}{es:Array DictEntry}{ep:Nat},s₁.heap.get? b=some o→o.data=.dict es ep→H b=none:=fun {b o es ep} e d=>by
   cases q:H b with
   | none=>rfl
   | some u=>
    have e':b=a:=hA b (by rw[q];simp)
    subst e'
    rw[ha] at e;cases e
    have d':Data.seq vs.toArray _=Data.dict es ep:=d
    cases d'
  have nsK:∀ {b:Addr}{m:Str→Option Value},s₁.heap.Ns b m→(hidT s₁.heap H).Ns b m:=fun {b m} ⟨o,es,ep,e,d,r⟩=>⟨o,es,ep,base_of e (noA e d),d,r⟩
  have hKb:K.In (hidT s₁.heap H):=fun b o e=>base_of (KX b o e) (by
   cases q:H b with
   | none=>rfl
   | some u=>
    have e':b=a:=hA b (by rw[q];simp)
    subst e'
    rw[hK (by rw[q];simp)] at e;cases e)
  have hM:Mod K mg (hidT s₁.heap H):=⟨hKb,nsK hns,⟨mb,nsK hb,hbb⟩,let ⟨mc,h1,h2⟩:=hlim;⟨mc,nsK h1,h2⟩⟩
  have e0:Env0 P w K mg (hidT s₁.heap H) callerA [] s₁ H:=⟨rfl,hM,fun b o e=>of_hidT e,Nat.le_of_eq (qk8 _ _),trivial,fun b hb=>absurd (show b∈([]:List Addr) from hb) (by simp),hok,.of_eq hg⟩
  refine codeAny_mono ((F _ hKb (nsK hns)).run callerA [] s₁ H ⟨[.ref a],[]⟩ [.ref a] [.ref a] _ _ hr e0 (hbind s₁ (.ref a)) (.cons rfl .nil) (hsp H hO hS)) fun r s' h=>?_
  cases r with
  | error e=>exact (hCX H e s' h).elim
  | ok fl=>
   cases fl with
   | next=>exact False.elim h
   | brk=>exact False.elim h
   | cont=>exact False.elim h
   | ret u=>
    obtain ⟨v,H',os,bare,un,hok',r',q⟩:=h
    have q':v=.bl true:=q
    subst q'
    obtain rfl:u=Value.bool true:=r'
    refine ⟨rfl,OldK.of_keep fun b o e=>?_,os,bare⟩
    cases q:H b with
    | none=>exact un.keep b o e q (by intro z;exact absurd (show b∈([]:List Addr) from z) (by simp)) (by simp)
    | some u=>
     rcases hO b with z|⟨ob,xs,z⟩
     ·rw[q] at z;cases z
     ·have z2:=un.frzs b ob _ z
      obtain ⟨e1,_⟩:=hok b _ z
      obtain ⟨e2,_⟩:=hok' b _ z2
      rw[e] at e1;cases e1
      exact e2
 cases hk:K.lookup a with
 | some o=>
  -- the script is one of the module's own objects
  have e:=KX a o hk
  rw[ha] at e
  cases e
  refine core (fun _=>none) (fun _=>.inl rfl) (.inr ⟨_,vs.toArray,_,hk,rfl,rfl,rfl,by rw[List.size_toArray,lenV];exact hl,by simpa using rv⟩) (fun b u z=>by have z':(none:Option HO)=some u:=z;cases z') (fun b z=>absurd rfl z) fun z=>absurd rfl z
 | none=>
  refine core (fun b=>if b=a then some (.frz { cls:=.type "list",data:=.seq vs.toArray } (.lst (ns.map V.int))) else none) (fun b=>?_) (.inl (.inr ⟨{ cls:=.type "list",data:=.seq vs.toArray },if_pos rfl⟩)) (fun b u z=>?_) (fun b z=>?_) fun _=>hk
  ·by_cases hb:b=a
   ·exact .inr ⟨_,_,if_pos hb⟩
   ·exact .inl (if_neg hb)
  ·by_cases hb:b=a
   ·have z':=(if_pos hb).symm.trans z
    cases z'
    subst hb
    exact ⟨ha,by rw[List.length_map];exact hl,vs,_,rv,ha⟩
   ·have z':=(if_neg hb).symm.trans z
    cases z'
  ·by_cases hb:b=a
   ·exact hb
   ·exact absurd (if_neg hb) z
theorem walk_of {l:PySem.W.OpenLaw}{n k:Nat}{q:Program}{loose:List Str}{XP:(Str→Option Value)→Heap→Prop}{YP:World→Heap→Prop}{d:DefRec}{K:Params→PySem.W.Frag}{CX:World→CXT}{sp:World→Sp}{x:Str}
  (hn:l.most=some n) (hn2:n≤sizeLine) (hdf:d.params.defaults=[]) (hr:Room k callerA)
  (hY:∀ (w:World) (h:Heap),YP w h→(K w.params).In h)
  (F:∀ (w:World) (mg:Str→Option Value) (fa:Addr) (h:Heap),(K w.params).In h→h.Ns mainGlobals mg→mg d.name=some (.ref fa)→
   ∃ fd:FuncData,(∀ (s:Shared) (u:Value),BindsTo s fd ⟨[u],[]⟩ [(x,u)])∧
    ∀ base:Heap,(K w.params).In base→base.Ns mainGlobals mg→FnOk l.prog w (K w.params) mg base (CX w) k fa fd [x] (sp w))
  (hsp:∀ (w:World) (H:Hp) (a:Addr) (ns:List Int),ns.length≤n→Only H→SqL (K w.params) H a (ns.map V.int)→sp w [.ref a] H (fun v _=>v=.bl true) fun _ _ _=>False)
  (hCX:∀ (w:World) (H:Hp) (s:Shared) (e:Value) (s':Shared),CX w [] H s (fun _ _ _=>False) e s'→False) :
  PySem.W.WalkO q loose XP YP l.row.toRowW d [] (fun f vs=>PySem.call f vs):=by
 refine Att.attach_call hn hdf fun w s₀ s₁ mg mb fa o pm cd doc a vs ns G Y ho hd hcd hmg hobj hints hlen hg=>?_
 have KX:=hY w _ Y
 obtain ⟨fd,hb,hF⟩:=F w mg fa _ KX G.T.g hmg
 exact law_call KX G.T.g G.T.b G.T.builtins G.T.nolimit hg hobj hints (Nat.le_trans hlen hn2) hr hF hb (fun H hO hS=>hsp w H a ns hlen hO hS) fun H e s'=>hCX w H s₁ e s'
noncomputable def ydu (s:Stmt) (j:Nat):Stmt:=match s with
 | .ClassDef _ _ _ body _ _ _ _ _ _ _=>body.getD j (.Pass ⟨0,0,0,0⟩)
 | _=>.Pass ⟨0,0,0,0⟩
noncomputable def ybd (s:Stmt):Arguments:=match s with
 | .FunctionDef _ a _ _ _ _ _ _ _ _=>a
 | _=>{ posonlyargs:=[],args:=[],vararg:=none,kwonlyargs:=[],kw_defaults:=[],kwarg:=none,defaults:=[] }
noncomputable def yay (s:Stmt):List Stmt:=match s with
 | .FunctionDef _ _ b _ _ _ _ _ _ _=>b
 | _=>[]
noncomputable def yac (s:Stmt):Scope:=match s with
 | .FunctionDef _ _ _ _ _ _ sc _ _ _=>sc
 | _=>{ kind:=.function,names:=[],isGenerator:=false,isCoroutine:=false }
noncomputable abbrev CX0:CXT:=fun _ _ _ _ _ _=>False
noncomputable abbrev E0:XK:=fun _ _ _=>False
theorem pass0 {X:Cx}:yd4 CX0 X E0:=fun _ _ _ _ _ _ _ h=>h.elim
structure Fun (K:PySem.W.Frag) (x qual:Str) (st:Stmt) (f:Addr) (fd:FuncData):Prop where
 ex:∃ (oc:Value) (od:Option Addr) (kV doc pm:Value) (an:Option Addr) (cdv ct:Value) (osl:Array (Option Value)),
  fd=PySem.W.fnOf x qual (ybd st) (yay st) (yac st) .none kV doc pm an cdv ct∧K.lookup f=some ⟨oc,od,.func fd,osl⟩∧PySem.W.codeIn K cdv qual=true
 kp:PySem.W.keepIn K (.ref f)=true
section
variable {P:Program}{w:World}{K:PySem.W.Frag}{mg:Str→Option Value}{base:Heap}
theorem Fun.ok {x qual:Str}{st:Stmt}{f:Addr}{fd:FuncData}{N ps:List Str}{k:Nat}{sp:Sp} (F:Fun K x qual st f fd) (S:FnScope N ps (yac st)) (len:∀ vs H Q E,sp vs H Q E→vs.length=ps.length)
  (hbody:∀ (cdv:Value) (A:Around) (outer:List Env) (s:Shared) (H:Hp) (vs:List V) (Q:VK) (E:XK),Room k (A.deeper (envOfC qual (yac st) s.heap.objs.size f cdv))→sp vs H Q E→
   ∃ t,PSs (cxOf CX0 P w K mg base N qual (yac st) f cdv A outer s H E).nox (yay st) t∧t { nx:=fun _ H'=>Q .non H',rt:=Q } (yet N vs) H):FnOk P w K mg base CX0 (k+1) f fd ps sp:=by
 obtain ⟨oc,od,kV,doc,pm,an,cdv,ct,osl,rfl,lk,hcd⟩:=F.ex
 refine fn_of lk hcd S len fun A outer s H vs Q E hr hsp=>?_
 obtain ⟨t,h,q⟩:=hbody cdv A outer s H vs Q E hr hsp
 exact ⟨t,h.nox,q⟩
theorem Fun.binds {x qual:Str}{st:Stmt}{f:Addr}{fd:FuncData}{ps:List Str} (F:Fun K x qual st f fd)
  (h:∀ (kV doc pm:Value) (an:Option Addr) (cdv ct:Value) (us:List Value),us.length=ps.length→bindArgs (PySem.W.fnOf x qual (ybd st) (yay st) (yac st) .none kV doc pm an cdv ct) ⟨us,[]⟩=pure (ps.zip us)):qcu K fd ps []:=by
 obtain ⟨oc,od,kV,doc,pm,an,cdv,ct,osl,rfl,lk,hcd⟩:=F.ex
 exact .all (h kV doc pm an cdv ct)
theorem qb9 {x qual:Str}{st:Stmt}{f:Addr}{oc:Value}{od an:Option Addr}{osl:Array (Option Value)}{kV doc pm cdv ct:Value} (l:K.lookup f=some ⟨oc,od,.func (PySem.W.fnOf x qual (ybd st) (yay st) (yac st) .none kV doc pm an cdv ct),osl⟩)
  (c:PySem.W.codeIn K cdv qual=true) (k:PySem.W.keepIn K (.ref f)=true):Fun K x qual st f (PySem.W.fnOf x qual (ybd st) (yay st) (yac st) .none kV doc pm an cdv ct):=⟨⟨oc,od,kV,doc,pm,an,cdv,ct,osl,rfl,l,c⟩,k⟩
end
section
variable {X:Cx}
theorem pv (i:Nat) {x:Str}{pos:Pos} (hN:X.N[i]?=some x:=by rfl) (hv:Vis X.env.scope x:=by first|exact Or.inl rfl|exact Or.inr (Or.inl rfl)|exact Or.inr (Or.inr rfl)) (hd:(x == ("__debug__" : Str))=false:=by decide)
  (hcd:(x == ("__classdict__" : Str))=false:=by decide):PE X (.Name x pos) (tVar i):=pe_var hN hv hd hcd
end
theorem iteF {A B:Prop} (h:B):if false=true then A else B:=by
 rw[if_neg Bool.false_ne_true]
 exact h
theorem iteT {A B:Prop} (h:A):if true=true then A else B:=by
 rw[if_pos rfl]
 exact h
noncomputable def Same (H H':Hp):Prop:=∀ b o,H b=some o→H' b=some o
theorem Same.refl (H:Hp):Same H H:=fun _ _ h=>h
theorem Same.trans {H H1 H2:Hp} (a:Same H H1) (b:Same H1 H2):Same H H2:=fun c o h=>b c o (a c o h)
theorem Same.free {H H':Hp} (e:Same H H') {l:Addr} (h:H' l=Option.none):H l=Option.none:=by
 cases q:H l with
 | none=>rfl
 | some o=>
  rw[e l o q] at h
  cases h
theorem Same.seq {K:PySem.W.Frag}{H H':Hp}{a:Addr}{xs:List V} (e:Same H H') (h:SqL K H a xs):SqL K H' a xs:=by
 rcases h with (h|⟨o,h⟩)|h
 ·exact .inl (.inl (e _ _ h))
 ·exact .inl (.inr ⟨o,e _ _ h⟩)
 ·exact .inr h
mutual
inductive At (H:Hp):V→PyData→Prop
 | non:At H .non .none
 | bl (b:Bool):At H (.bl b) (.bool b)
 | int (i:Int):At H (.int i) (.int i)
 | str (x:Str):At H (.str x) (.str x)
 | lst {a:Addr}{vs:List V}{ds:List PyData}:H a=some (.lst vs)→AtAll H vs ds→At H (.ref a) (.list ds)
 | tup {a:Addr}{vs:List V}{ds:List PyData}:H a=some (.tup vs)→AtAll H vs ds→At H (.ref a) (.tuple ds)
inductive AtAll (H:Hp):List V→List PyData→Prop
 | nil:AtAll H [] []
 | cons {v:V}{d:PyData}{vs:List V}{ds:List PyData}:At H v d→AtAll H vs ds→AtAll H (v::vs) (d::ds)
end
mutual
theorem At.same {H H':Hp} (s:Same H H'):∀ {v:V}{d:PyData},At H v d→At H' v d
 | _,_,.non=>.non
 | _,_,.bl b=>.bl b
 | _,_,.int i=>.int i
 | _,_,.str x=>.str x
 | _,_,.lst e t=>.lst (s _ _ e) (AtAll.same s t)
 | _,_,.tup e t=>.tup (s _ _ e) (AtAll.same s t)
theorem AtAll.same {H H':Hp} (s:Same H H'):∀ {vs:List V}{ds:List PyData},AtAll H vs ds→AtAll H' vs ds
 | _,_,.nil=>.nil
 | _,_,.cons a b=>.cons (At.same s a) (AtAll.same s b)
end
theorem AtAll.length {H:Hp}:∀ {vs:List V}{ds:List PyData},AtAll H vs ds→vs.length=ds.length
 | _,_,.nil=>rfl
 | _,_,.cons _ b=>congrArg (· + 1) b.length
theorem AtAll.get {H:Hp}:∀ {vs:List V}{ds:List PyData}{i:Nat}{v:V},AtAll H vs ds→vs[i]?=some v→∃ d,ds[i]?=some d∧At H v d
 | _,_,i,_,.nil,h=>by simp at h
 | _,_,0,_,.cons a _,h=>by simp at h;subst h;exact ⟨_,rfl,a⟩
 | _,_,i+1,v,.cons _ b,h=>by
  obtain ⟨d,h1,h2⟩:=AtAll.get (i:=i) (v:=v) b (by simpa using h)
  exact ⟨d,by simpa using h1,h2⟩
theorem AtAll.append {H:Hp}:∀ {vs ws:List V}{ds es:List PyData},AtAll H vs ds→AtAll H ws es→AtAll H (vs++ws) (ds++es)
 | _,_,_,_,.nil,h=>h
 | _,_,_,_,.cons a b,h=>.cons a (b.append h)
theorem AtAll.take {H:Hp}:∀ {vs:List V}{ds:List PyData} (n:Nat),AtAll H vs ds→AtAll H (vs.take n) (ds.take n)
 | _,_,0,_=>.nil
 | _,_,_+1,.nil=>.nil
 | _,_,n+1,.cons a b=>.cons a (b.take n)
theorem AtAll.drop {H:Hp}:∀ {vs:List V}{ds:List PyData} (n:Nat),AtAll H vs ds→AtAll H (vs.drop n) (ds.drop n)
 | _,_,0,h=>h
 | _,_,_+1,.nil=>.nil
 | _,_,n+1,.cons _ b=>b.drop n
theorem AtAll.snoc {H:Hp}{vs:List V}{ds:List PyData}{v:V}{d:PyData} (h:AtAll H vs ds) (a:At H v d):AtAll H (vs++[v]) (ds++[d]):=h.append (.cons a .nil)
mutual
theorem At.reads {P:Program}{w:World}{H:Hp}{h:Heap} (ok:HOk P w H h):∀ {v:V}{d:PyData}{u:Value},At H v d→RelV v u→∃ as,Reads h u d as
 | _,_,_,.non,r=>by cases r;exact ⟨_,.none⟩
 | _,_,_,.bl b,r=>by cases r;exact ⟨_,.bool b⟩
 | _,_,_,.int i,r=>by obtain ⟨t,rfl⟩:=r;exact ⟨_,.int i t⟩
 | _,_,_,.str x,r=>by obtain ⟨t,rfl⟩:=r;exact ⟨_,.str x t⟩
 | _,_,_,.lst e t,r=>by
  cases r
  obtain ⟨z,its,n,rv,ho⟩:=ok _ _ e
  obtain ⟨as,q⟩:=AtAll.reads ok t rv
  exact ⟨_,.list ho rfl rfl (by simpa using q)⟩
 | _,_,_,.tup e t,r=>by
  cases r
  obtain ⟨z,its,rv,o,ho,hc,n,hd⟩:=ok _ _ e
  obtain ⟨as,q⟩:=AtAll.reads ok t rv
  exact ⟨_,.tuple ho hc hd (by simpa using q)⟩
theorem AtAll.reads {P:Program}{w:World}{H:Hp}{h:Heap} (ok:HOk P w H h):∀ {vs:List V}{ds:List PyData}{us:List Value},AtAll H vs ds→Vals vs us→∃ as,ReadsAll h us ds as
 | _,_,_,.nil,.nil=>⟨_,.nil⟩
 | _,_,_,.cons a b,.cons r s=>by
  obtain ⟨as,q⟩:=At.reads ok a r
  obtain ⟨bs,q2⟩:=AtAll.reads ok b s
  exact ⟨_,.cons q q2⟩
end
mutual
theorem At.noDict {H:Hp}:∀ {v:V}{d:PyData},At H v d→d.hasDict=false
 | _,_,.non=>by simp[PyData.hasDict]
 | _,_,.bl b=>by simp[PyData.hasDict]
 | _,_,.int i=>by simp[PyData.hasDict]
 | _,_,.str x=>by simp[PyData.hasDict]
 | _,_,.lst e t=>by simp only[PyData.hasDict];exact AtAll.noDict t
 | _,_,.tup e t=>by simp only[PyData.hasDict];exact AtAll.noDict t
theorem AtAll.noDict {H:Hp}:∀ {vs:List V}{ds:List PyData},AtAll H vs ds→PyData.hasDictAll ds=false
 | _,_,.nil=>by simp[PyData.hasDictAll]
 | _,_,.cons a b=>by simp only[PyData.hasDictAll,At.noDict a,AtAll.noDict b,Bool.or_self]
end
section
variable {X:Cx}{pins:List (Addr×Obj)}{σ:St}{H:Hp}{s:Shared}{h':Heap}
theorem Inv.turnedL {ch:List Addr}{a:Addr}{o:HO}{t':Nat} (I:Inv X pins σ H s) (k:∀ b u,b∉ch→s.heap.get? b=some u→h'.get? b=some u) (hf:∀ b∈ch,FpOk X pins H b)
  (hp:s.heap.objs.size≤a) (new:ybq X.prog X.w (upd H a o) h' a o):Inv X pins σ (upd H a o) { s with heap:=h',toks:=t' }:=by
 have hn:H a=none:=I.hok.fresh hp
 have nit:∀ b u,H b=some u→b∉ch:=fun b u e z=>by rw[(hf b z).1] at e;cases e
 refine I.step (g':=s.gens) (d':=s.drawn) (ch:=ch) (fun b hb=>?_) (fun b u _ _ hc e _=>k b u hc e) (fun b u _ _ hc e _=>⟨u.slots,k b u hc e⟩) (fun b u _ e n=>?_)
  (fun b u hc e=>⟨u,k b u hc e⟩) (fun b xs e=>?_) (fun b u xs e=>?_) (fun b ps e=>⟨#[],?_⟩) (fun m hm=>?_) (fun b u e=>?_) I.bare
 ·obtain ⟨_,f1,_,f3,f4,f5⟩:=hf b hb
  exact ⟨f3,f1,f4,f5⟩
 ·rw[yai (Nat.ne_of_lt (Nat.lt_of_lt_of_le (Heap.lt_size e) hp))];exact n
 ·rw[yai (yae e hn)];exact e
 ·rw[yai (yae e hn)];exact e
 ·rw[yai (yae e hn),e];simp
 ·obtain ⟨ob,es,ep,ho,r⟩:=hm
  exact ⟨ob,es,ep,k _ ob (fun z=>(hf _ z).2.1 rfl) ho,r⟩
 ·by_cases hb:b=a
  ·subst hb;rw[yaa] at e;cases e;exact new
  ·rw[yai hb] at e
   refine (I.hok b u e).stay (fun c v hc q=>k c v ?_ q) (fun c q=>by rw[yai (yae q hn)];exact q) fun c xs q=>by rw[yai (yae q hn)];exact q
   rcases hc with rfl|hc
   ·exact nit _ u e
   ·exact nit c _ hc
end
noncomputable def Ite (K:PySem.W.Frag) (a:Addr):It:=
 ⟨fun i H=>∃ xs x,SqL K H a xs∧xs[i]?=some x,fun i H x H'=>∃ p y,H p=none∧x=.ref p∧H'=upd H p (.tup [.int i,y])∧∀ xs,SqL K H a xs→xs[i]?=some y,fun i H=>∃ xs,SqL K H a xs∧xs.length≤i⟩
theorem ykv {P:Program}{w:World}{K:PySem.W.Frag}{es:List Expr}{k:Nat}{tp:Pos} (a e it:Addr) (hne:e≠it) :
  Turn P w K (.Tuple es k tp) (Ite K a) [e,it] e (fun i h=>(∃ old,IsEnum h e it i old)∧h.IsListIter it a i) where
 mem:=by simp
 obj:=fun i h st b hb=>by
  obtain ⟨⟨old,he⟩,o,ho,hc,hd⟩:=st
  have hb':b=e∨b=it:=by simpa using hb
  rcases hb' with rfl|rfl
  ·exact ⟨_,he,fun v z=>by
    have z':Data.fields _=Data.cell v:=z
    cases z'⟩
  ·exact ⟨o,ho,fun v z=>by rw[hd] at z;cases z⟩
 keep:=fun i h h' st kk=>⟨st.1.imp fun _ z=>kk e (by simp) _ z,st.2.at fun o z=>kk it (by simp) o z⟩
 item:=by
  intro X hP hw hK hc i pins s σ H E I hf st hg
  subst hP hw hK
  obtain ⟨xs,x,hq,hx⟩:=hg
  obtain ⟨its,rv,p,hz⟩:=I.list hq
  obtain ⟨u,hu,ru⟩:=rv.get hx
  obtain ⟨⟨old,he⟩,hit⟩:=st
  refine wpAny_pyNext_enum_item he hit p.isList (x:=u) (by simpa using hu) hne fun h' ho hit' hT hsz hk=>?_
  have hel:e<s.heap.objs.size:=Heap.lt_size he
  have hil:it<s.heap.objs.size:=by obtain ⟨_,z,_⟩:=hit;exact Heap.lt_size z
  refine ⟨_,rfl,wpAny_letOwnedTupleGo_enum ho fun h2 he2 hs2=>?_⟩
  have keep2:∀ b ob,b∉[e,it]→s.heap.get? b=some ob→h2.get? b=some ob:=fun b ob hb z=>by
   have h1:b≠e:=fun q=>hb (by simp[q])
   have h3:b≠it:=fun q=>hb (by simp[q])
   exact (hs2.2 b h1).trans (hk b ob h1 h3 z)
  have hT2:h2.get? s.heap.objs.size=some { cls:=.type "tuple",data:=.seq #[.int i s.toks,u] }:=(hs2.2 _ (Nat.ne_of_gt hel)).trans hT
  have fresh:H s.heap.objs.size=none:=I.hok.fresh (Nat.le_refl _)
  have new:ybq X.prog X.w (upd H s.heap.objs.size (.tup [.int i,x])) h2 s.heap.objs.size (.tup [.int i,x]):=
   ⟨by show 2≤sizeLine;decide,[.int i s.toks,u],.cons ⟨_,rfl⟩ (.cons ru .nil),⟨_,hT2,rfl,_,rfl⟩⟩
  refine ⟨.ref s.heap.objs.size,upd H s.heap.objs.size (.tup [.int i,x]),I.turnedL keep2 hf (Nat.le_refl _) new,rfl,⟨_,x,fresh,rfl,rfl,fun ys hy=>by rw[I.list_inj hy hq];exact hx⟩,⟨⟨_,by simpa using he2⟩,hit'.at fun o z=>(hs2.2 it hne.symm).trans z⟩,fun b hb=>?_⟩
  rw[yai]
  ·exact (hf b hb).1
  ·have hb':b=e∨b=it:=by simpa using hb
   rcases hb' with rfl|rfl
   ·exact Nat.ne_of_lt hel
   ·exact Nat.ne_of_lt hil
 done:=by
  intro X hP hw hK hc i pins s σ H E I hf st hg
  subst hP hw hK
  obtain ⟨xs,hq,hx⟩:=hg
  obtain ⟨its,rv,p,hz⟩:=I.list hq
  obtain ⟨⟨old,he⟩,hit⟩:=st
  have hl:=rv.length
  obtain ⟨f0,f1,f2,f3,f4,f5⟩:=hf it (by simp)
  exact wpAny_pyNext_enum_end (I.ok.hd hc) he hit p.isList (by simp;omega) fun h' eb=>⟨rfl,I.turned (t':=s.toks) (fun b o hb z=>eb b o hb z) f0 f1 f3 f4 f5⟩
 self:=fun _ _ _ _ _ st h=>wpAny_pyIter_enum st.1.choose_spec h
noncomputable def iEnum (K:PySem.W.Frag) (ta:TA):TI:=fun σ H R=>ta σ H fun vs H1=>∃ a xs,vs=[.ref a]∧SqL K H1 a xs∧R (Ite K a) H1
section
variable {X:Cx}
theorem qc8 {a:Expr}{ta:TA}{p pos tp:Pos}{es:List Expr}{k:Nat} (hg:Gl X "enumerate") (hm:X.mg "enumerate" = none) (ha:PA X [a] ta) (hs:starEach [a] X.env=[(false,eval a X.env)]:=by rfl) :
  PI X (.Tuple es k tp) (.Call (.Name "enumerate" p) [a] [] pos) (iEnum X.K ta):=by
 intro pins s σ H R I h
 refine Call_ (qg0 I hg hm boot_enumerate (PyProof.Rows.callWith_type1 (thn (ha pos pins s σ H _ I h) fun us s1 ⟨vs,H1,I1,r1,q1⟩=>?_) hs rfl))
 obtain ⟨l,xs,e,hq,q⟩:=q1
 subst e
 cases r1 with
 | cons r rr=>
  cases rr
  cases r
  obtain ⟨its,rv,pl,hz⟩:=I1.list hq
  refine call_enumerate_list pl.isList fun h' he hit hsz hk=>?_
  refine wpAny_pyIter_enum he ⟨_,[s1.heap.objs.size+1,s1.heap.objs.size],_,Ite X.K l,H1,rfl,I1.kept (t':=s1.toks) hk,ykv l (s1.heap.objs.size+1) s1.heap.objs.size (Nat.succ_ne_self _),⟨⟨_,he⟩,hit⟩,fun b hb=>?_,q⟩
  have hb':b=s1.heap.objs.size+1∨b=s1.heap.objs.size:=by simpa using hb
  rcases hb' with rfl|rfl
  ·exact I1.fpOk (Nat.le_succ _) (I1.hok.fresh (Nat.le_succ _))
  ·exact I1.fpOk (Nat.le_refl _) (I1.hok.fresh (Nat.le_refl _))
end
theorem qcb {K:PySem.W.Frag}{a:Addr}{xs:List V}{g:TG}{tb:TS}{D:Ends}{σ:St}{H:Hp} (Pv:Nat→St→Hp→Prop) (h0:Pv 0 σ H) (hl:∀ i σ H,i≤xs.length→Pv i σ H→SqL K H a xs)
  (hs:∀ i x p σ H,xs[i]?=some x→Pv i σ H→H p=none→g (.ref p) σ (upd H p (.tup [.int i,x])) fun σ2 H2=>tb { D with nx:=Pv (i+1),ct:=Pv (i+1),bk:=D.nx } σ2 H2) (hd:∀ σ H,Pv xs.length σ H→D.nx σ H) :
  ∃ W:Nat→Nat→St→Hp→Prop,(∃ m,W 0 m σ H)∧∀ i m σ H,W i m σ H→
   ((Ite K a).stop i H∧D.nx σ H)∨((Ite K a).go i H∧∃ N:St→Hp→Prop,(∀ σ' H',N σ' H'→∃ m',m' < m∧W (i+1) m' σ' H')∧∀ x H',(Ite K a).yld i H x H'→g x σ H' fun σ2 H2=>tb { D with nx:=N,ct:=N,bk:=D.nx } σ2 H2):=by
 refine ⟨fun i m σ H=>m=xs.length-i∧i≤xs.length∧Pv i σ H,⟨xs.length,by simp,Nat.zero_le _,h0⟩,?_⟩
 rintro i m σ H ⟨rfl,hi,p⟩
 have q:=hl i σ H hi p
 by_cases hlt:i<xs.length
 ·refine .inr ⟨⟨xs,xs[i],q,by simp[hlt]⟩,Pv (i+1),fun σ' H' p'=>⟨xs.length-(i+1),by omega,rfl,hlt,p'⟩,fun x H' y=>?_⟩
  obtain ⟨pp,z,hn,e1,e2,y⟩:=y
  subst e1 e2
  exact hs i z pp σ _ (y xs q) p hn
 ·have e:i=xs.length:=by omega
  subst e
  exact .inl ⟨⟨xs,q,Nat.le_refl _⟩,hd σ H p⟩
noncomputable def clOf (cells:List (Str×Addr)):List (Str×NameKind)→List (Str×Addr)→List (Str×Addr)
 | [],cs=>cs
 | (n,k)::r,cs=>if k=.free then clOf cells r ((n,(cells.lookup n).getD 0)::cs) else clOf cells r cs
theorem ydo {scope:Scope}{env:Env} (h:∀ x∈scope.names,x.2=.free→∃ c,env.cells.lookup x.1=some c):closureFor scope env=pure (clOf env.cells scope.names []):=by
 unfold closureFor
 generalize hn:scope.names=names at h
 suffices hh:∀ (l:List (Str×NameKind)) (cs:List (Str×Addr)),(∀ x∈l,x.2=.free→∃ c,env.cells.lookup x.1=some c)→
   (forIn l cs (fun (x:Str×NameKind) r=>if (x.2 == NameKind.free)=true then (do let a ← cellOf env x.1;pure (ForInStep.yield ((x.1,a)::r))) else pure (ForInStep.yield r)):Sem (List (Str×Addr)))=pure (clOf env.cells l cs) by
  have:=hh names [] h
  simp only[bind_pure]
  exact this
 intro l
 induction l with
 | nil=>intro cs _;rfl
 | cons x l ih=>
  intro cs hl
  obtain ⟨n,k⟩:=x
  rw[List.forIn_cons]
  by_cases hk:k=.free
  ·subst hk
   obtain ⟨c,hc⟩:=hl (n,.free) List.mem_cons_self rfl
   have e1:cellOf env n=pure c:=by unfold cellOf;rw[hc]
   have ec:clOf env.cells ((n,NameKind.free)::l) cs=clOf env.cells l ((n,c)::cs):=by
    show (if NameKind.free=NameKind.free then _ else _)=_
    rw[if_pos rfl,hc];rfl
   rw[ec]
   simp only[e1,pure_bind,beq_self_eq_true,if_true]
   exact ih _ fun y hy=>hl y (List.mem_cons_of_mem _ hy)
  ·have hb:(k == NameKind.free)=false:=by cases k<;>first|rfl|exact absurd rfl hk
   have ec:clOf env.cells ((n,k)::l) cs=clOf env.cells l cs:=by
    show (if k=NameKind.free then _ else _)=_
    rw[if_neg hk]
   rw[ec]
   simp only[hb,pure_bind,Bool.false_eq_true,if_false]
   exact ih _ fun y hy=>hl y (List.mem_cons_of_mem _ hy)
theorem ydz {cells:List (Str×Addr)}:∀ {l:List (Str×NameKind)}{cs:List (Str×Addr)},(∀ x∈l,x.2=.free→∃ c,cells.lookup x.1=some c)→(∀ p∈cs,cells.lookup p.1=some p.2)→∀ p∈clOf cells l cs,cells.lookup p.1=some p.2
 | [],_,_,h=>h
 | (n,k)::r,cs,hl,h=>by
  unfold clOf
  split
  ·rename_i hk
   refine ydz (fun x hx=>hl x (List.mem_cons_of_mem _ hx)) fun p hp=>?_
   rcases List.mem_cons.mp hp with rfl|hp
   ·obtain ⟨c,hc⟩:=hl (n,k) List.mem_cons_self hk
    show cells.lookup n=some ((cells.lookup n).getD 0)
    have hc':cells.lookup n=some c:=hc
    rw[hc'];rfl
   ·exact h p hp
  ·exact ydz (fun x hx=>hl x (List.mem_cons_of_mem _ hx)) h
theorem qej {l:List (Str×Addr)}{x:Str} (h:∃ c,(x,c)∈l):∃ c,l.lookup x=some c:=by
 obtain ⟨c,h⟩:=h
 induction l with
 | nil=>cases h
 | cons p r ih=>
  obtain ⟨y,d⟩:=p
  by_cases e:(x == y)=true
  ·exact ⟨d,by rw[List.lookup_cons,e]⟩
  ·have e':(x == y)=false:=by simpa using e
   rcases List.mem_cons.mp h with q|q
   ·cases q;exact absurd (beq_self_eq_true _) e
   ·obtain ⟨c',z⟩:=ih q
    exact ⟨c',by rw[List.lookup_cons,e'];exact z⟩
theorem yfp {cells:List (Str×Addr)}{x:Str}:∀ {l:List (Str×NameKind)}{cs:List (Str×Addr)},((x,NameKind.free)∈l∨∃ c,(x,c)∈cs)→∃ c,(x,c)∈clOf cells l cs
 | [],_,h=>by
  rcases h with h|h
  ·cases h
  ·exact h
 | (n,k)::r,cs,h=>by
  unfold clOf
  split
  ·rename_i hk
   refine yfp ?_
   rcases h with h|⟨c,h⟩
   ·rcases List.mem_cons.mp h with q|q
    ·cases q;exact .inr ⟨_,List.mem_cons_self⟩
    ·exact .inl q
   ·exact .inr ⟨c,List.mem_cons_of_mem _ h⟩
  ·rename_i hk
   refine yfp ?_
   rcases h with h|h
   ·rcases List.mem_cons.mp h with q|q
    ·cases q;exact absurd rfl hk
    ·exact .inl q
   ·exact .inr h
theorem qfe {env:Env}{x:Str}:∀ {l:List (Str×NameKind)},l.lookup x=some .free→
  (l.map fun (n,k)=>if (k == NameKind.free&&env.scope.kind == .function&&env.kindOf n == some .cell) then (n,NameKind.cell) else (n,k)).lookup x=some .cell∨
  (l.map fun (n,k)=>if (k == NameKind.free&&env.scope.kind == .function&&env.kindOf n == some .cell) then (n,NameKind.cell) else (n,k)).lookup x=some .free
 | [],h=>by simp at h
 | (n,k)::r,h=>by
  rw[List.map_cons]
  cases hx:x == n with
  | true=>
   rw[List.lookup_cons,hx] at h
   cases h
   by_cases hc:(NameKind.free == NameKind.free&&env.scope.kind == .function&&env.kindOf n == some .cell)=true
   ·left;simp only[hc,if_true,List.lookup_cons,hx]
   ·right;simp only[hc,Bool.false_eq_true,if_false,List.lookup_cons,hx]
  | false=>
   rw[List.lookup_cons,hx] at h
   have ih:=qfe (env:=env) (l:=r) h
   by_cases hc:(k == NameKind.free&&env.scope.kind == .function&&env.kindOf n == some .cell)=true
   ·simp only[hc,if_true,List.lookup_cons,hx];exact ih
   ·simp only[hc,Bool.false_eq_true,if_false,List.lookup_cons,hx];exact ih
theorem yf2 {env:Env}{x:Str}:∀ {l:List (Str×NameKind)},(∀ y∈l,y.2≠.cell)→
  ((l.map fun (n,k)=>if (k == NameKind.free&&env.scope.kind == .function&&env.kindOf n == some .cell) then (n,NameKind.cell) else (n,k)).lookup x=some .cell∨
  (l.map fun (n,k)=>if (k == NameKind.free&&env.scope.kind == .function&&env.kindOf n == some .cell) then (n,NameKind.cell) else (n,k)).lookup x=some .free)→(x,NameKind.free)∈l
 | [],_,h=>by simp at h
 | (n,k)::r,hn,h=>by
  rw[List.map_cons] at h
  cases hx:x == n with
  | true=>
   have e:x=n:=by simpa using hx
   subst e
   by_cases hc:(k == NameKind.free&&env.scope.kind == .function&&env.kindOf x == some .cell)=true
   ·have:k=.free:=by
     simp only[Bool.and_eq_true,beq_iff_eq] at hc
     exact hc.1.1
    subst this
    exact List.mem_cons_self
   ·simp only[hc,Bool.false_eq_true,if_false,List.lookup_cons,hx,Option.some.injEq] at h
    rcases h with h|h
    ·exact absurd h (hn (x,k) List.mem_cons_self)
    ·subst h;exact List.mem_cons_self
  | false=>
   have h':(r.map fun (n,k)=>if (k == NameKind.free&&env.scope.kind == .function&&env.kindOf n == some .cell) then (n,NameKind.cell) else (n,k)).lookup x=some .cell∨
     (r.map fun (n,k)=>if (k == NameKind.free&&env.scope.kind == .function&&env.kindOf n == some .cell) then (n,NameKind.cell) else (n,k)).lookup x=some .free:=by
    by_cases hc:(k == NameKind.free&&env.scope.kind == .function&&env.kindOf n == some .cell)=true
    ·simp only[hc,if_true,List.lookup_cons,hx] at h;exact h
    ·simp only[hc,Bool.false_eq_true,if_false,List.lookup_cons,hx] at h;exact h
   exact List.mem_cons_of_mem _ (yf2 (fun y hy=>hn y (List.mem_cons_of_mem _ hy)) h')
noncomputable def qbg (X:Cx) (M:List Str) (scope:Scope) (C:Addr) (fp:List Addr) (s2:Shared) (H2:Hp):Cx:=
 {prog:=X.prog,w:=X.w,K:=X.K,mg:=X.mg,base:=X.base,A:=X.A,N:=M,s₀:=s2,H₀:=H2,env:=compEnvC scope (clOf X.env.cells scope.names []) C X.env,
  outer:=X.stack,stack:=X.stack,ex:=fp,fn:=fun _=>false,calm:=X.calm,pn:=[],xe:=fun _ _=>False }
noncomputable def capS (ix:List (Option Nat)) (σ:St):St:=ix.map fun o=>match o with
 | none=>none
 | some j=>(σ[j]?).getD none
structure CompOk (N M:List Str) (ix:List (Option Nat)) (sc xs:Scope):Prop where
 kind:sc.kind=.function
 len:M.length=ix.length
 nocell:∀ y∈sc.names,y.2≠.cell
 loc:∀ y∈sc.names,y.2=.local→sc.names.lookup y.1=some .local
 fr:∀ y∈sc.names,y.2=.free→xs.names.lookup y.1=some .cell∨xs.names.lookup y.1=some .free
 cap:∀ (i:Nat) (j:Nat),ix[i]?=some (some j)→∃ x,M[i]?=some x∧N[j]?=some x∧sc.names.lookup x=some .free
noncomputable def qmg (N M:List Str) (ix:List (Option Nat)) (sc xs:Scope):Bool:=
 decide (sc.kind=.function)&&decide (M.length=ix.length)&&sc.names.all (fun y=>decide (y.2≠.cell))&&sc.names.all (fun y=>decide (y.2≠.local)||decide (sc.names.lookup y.1=some .local)) &&
 sc.names.all (fun y=>decide (y.2≠.free)||decide (xs.names.lookup y.1=some .cell)||decide (xs.names.lookup y.1=some .free)) &&
 (List.range ix.length).all (fun i=>match ix[i]? with
  | some (some j)=>match M[i]? with
   | some x=>decide (N[j]?=some x)&&decide (sc.names.lookup x=some .free)
   | none=>false
  | _=>true)
theorem qa8 {N M:List Str}{ix:List (Option Nat)}{sc xs:Scope} (h:qmg N M ix sc xs=true):CompOk N M ix sc xs:=by
 unfold qmg at h
 simp only[Bool.and_eq_true,List.all_eq_true,decide_eq_true_eq,Bool.or_eq_true] at h
 obtain ⟨⟨⟨⟨⟨h1,h2⟩,h3⟩,h4⟩,h5⟩,h6⟩:=h
 refine ⟨h1,h2,h3,fun y hy e=>?_,fun y hy e=>?_,fun i j e=>?_⟩
 ·rcases h4 y hy with q|q
  ·exact absurd e q
  ·exact q
 ·rcases h5 y hy with (q|q)|q
  ·exact absurd e q
  ·exact .inl q
  ·exact .inr q
 ·have hi:i<ix.length:=(List.getElem?_eq_some_iff.mp e).1
  have q:=h6 i (List.mem_range.mpr hi)
  rw[e] at q
  cases hm:M[i]? with
  | none=>rw[hm] at q;cases q
  | some x=>
   rw[hm] at q
   simp only[Bool.and_eq_true,decide_eq_true_eq] at q
   exact ⟨x,rfl,q.1,q.2⟩
section
variable {X:Cx}
noncomputable def PTs (X:Cx) (ifs:List Expr) (t:TT):Prop:=
 ∀ (pins:List (Addr×Obj)) (s:Shared) (σ:St) (H:Hp) (Q:Bool→Hp→Prop),Inv X pins σ H s→t σ H Q→
  wpAny (model X.prog X.w) X.A (forIn ifs true fun c r=>if r=true then do let ok ← isTrue c X.env (eval c X.env);pure (ForInStep.yield ok) else pure (ForInStep.yield r)) (TP X pins σ Q) X.xe s
noncomputable def tYes:TT:=fun _ H Q=>Q true H
theorem yda:PTs X [] tYes:=fun _ _ _ H _ I h=>wpAny_tests_nil ⟨H,I,h⟩
theorem qhv {c:Expr}{t:TT} (h:PT X c t):PTs X [c] t:=fun pins s σ H Q I hq=>wpAny_tests_one (h pins s σ H Q I hq)
end
theorem Un.butNew {fs ex:List Addr}{H H':Hp}{h h1 h2:Heap}{C:Addr} (u:Un fs ex H H' h h1) (hC:h.objs.size≤C) (sb:Heap.SameBut C h1 h2):Un fs ex H H' h h2:=by
 have ne:∀ b o,h.get? b=some o→b≠C:=fun b o e=>Nat.ne_of_lt (Nat.lt_of_lt_of_le (Heap.lt_size e) hC)
 refine ⟨fun b o e n h3 h4=>(sb.2 b (ne b o e)).trans (u.keep b o e n h3 h4),fun b o e n h3 h4=>?_,u.free,fun b o e h4=>?_,u.tups,u.frzs,u.tbls⟩
 ·obtain ⟨sl,q⟩:=u.slot b o e n h3 h4
  exact ⟨sl,(sb.2 b (ne b o e)).trans q⟩
 ·obtain ⟨o',q⟩:=u.there b o e h4
  exact ⟨o',(sb.2 b (ne b o e)).trans q⟩
section
variable {X:Cx}{pins:List (Addr×Obj)}{σ:St}{H2:Hp}{s2:Shared}{M:List Str}{ix:List (Option Nat)}{scope:Scope}{fp:List Addr}
theorem comp_ok {C:Addr} (I:Inv X pins σ H2 s2) (ck:CompOk X.N M ix scope X.env.scope) (hC:s2.heap.objs.size≤C) (f2:∀ b∈fp,FpOk X pins H2 b) (hfp:∀ b∈fp,b<s2.heap.objs.size):(qbg X M scope C fp s2 H2).Ok:=by
 have hfree:∀ x∈scope.names,x.2=.free→∃ c,X.env.cells.lookup x.1=some c:=fun x hx e=>I.ok.has x.1 (ck.fr x hx e)
 have snd:∀ x c,(clOf X.env.cells scope.names []).lookup x=some c→X.env.cells.lookup x=some c:=fun x c e=>ydz (cs:=[]) hfree (by intro p hp;cases hp) (x,c) (PySem.mem_of_lookup e)
 refine ⟨I.ok.mod,ck.kind,I.ok.glob,I.ok.blt,hC,fun x y c h1 h2=>I.ok.inj x y c (snd x c h1) (snd y c h2),fun x hx=>?_,(by intro x c h;cases h),I.ok.hd,I.ok.frames,.inl rfl,fun b hb=>⟨?_,fun x c e=>?_⟩,fun b o e=>I.bs b o e,
  Nat.le_trans I.ok.bsz I.sz,fun b o e hb=>?_,fun b hb hb2=>?_,I.stack,I.stkFree⟩
 ·exact qej (yfp (.inl (yf2 ck.nocell hx)))
 ·exact Nat.ne_of_lt (Nat.lt_of_lt_of_le (hfp b hb) hC)
 ·exact (f2 b hb).2.2.2.2.1 x c (snd x c e)
 ·rcases (f2 b hb).2.2.2.1 with z|z
  ·exact I.ok.noex b o e z
  ·exact absurd (Nat.lt_of_lt_of_le (Heap.lt_size e) (Nat.le_trans I.ok.bsz z)) (Nat.lt_irrefl _)
 ·obtain ⟨_,n1,n2,_⟩:=f2 b hb
  rcases List.mem_cons.mp (I.stkSub b hb2) with z|z
  ·exact n1 z
  ·exact n2 z
theorem comp_inv {C D:Addr}{h1:Heap}{tk:Nat} (I:Inv X pins σ H2 s2) (ck:CompOk X.N M ix scope X.env.scope) (hC:s2.heap.objs.size≤C) (hD:s2.heap.objs.size≤D) (hDC:C≠D) (f2:∀ b∈fp,FpOk X pins H2 b) (hfp:∀ b∈fp,b<s2.heap.objs.size)
  (old:∀ b o,s2.heap.get? b=some o→h1.get? b=some o) (hn:h1.Ns C fun _=>none) (hnew:h1.get? D=some { cls:=.type "list",data:=.seq #[] }) :
  Inv (qbg X M scope C fp s2 H2) [] (capS ix σ) (upd H2 D (.lst [])) { s2 with heap:=h1,toks:=tk }:=by
 have hfree:∀ x∈scope.names,x.2=.free→∃ c,X.env.cells.lookup x.1=some c:=fun x hx e=>I.ok.has x.1 (ck.fr x hx e)
 have snd:∀ x c,(clOf X.env.cells scope.names []).lookup x=some c→X.env.cells.lookup x=some c:=fun x c e=>ydz (cs:=[]) hfree (by intro p hp;cases hp) (x,c) (PySem.mem_of_lookup e)
 have fD:H2 D=none:=I.hok.fresh hD
 refine ⟨comp_ok I ck hC f2 hfp,rfl,I.bare,Un.laid old hD fD,⟨_,hn,fun i x v e1 e2 e3=>?_⟩,fun x c e=>?_,?_,fun x c e=>?_,(by intro p hp;cases hp),I.hok.laid (o:=.lst []) old hD ⟨Nat.zero_le _,[],0,.nil,hnew⟩,?_⟩
 ·obtain ⟨j,hj,hv⟩:∃ j,ix[i]?=some (some j)∧σ[j]?=some (some v):=by
   unfold capS at e2
   rw[List.getElem?_map] at e2
   cases q:ix[i]? with
   | none=>rw[q] at e2;cases e2
   | some o=>
    rw[q] at e2
    cases o with
    | none=>cases e2
    | some j=>
     refine ⟨j,rfl,?_⟩
     have e2':(σ[j]?).getD none=some v:=Option.some.inj e2
     cases z:σ[j]? with
     | none=>rw[z] at e2';cases e2'
     | some y=>rw[z] at e2';rw[show y=some v from e2']
  obtain ⟨y,hm,hN,hf⟩:=ck.cap i j hj
  have e1':M[i]?=some x:=e1
  rw[hm] at e1';cases e1'
  obtain ⟨m,hnl,hl⟩:=I.loc
  have hmem:(x,NameKind.free)∈scope.names:=PySem.mem_of_lookup hf
  have hk:=ck.fr _ hmem rfl
  obtain ⟨u,ru,lk⟩:=hl j x v hN hv (hk.elim (fun z=>.inr (.inl z)) fun z=>.inr (.inr z))
  refine ⟨u,ru,.inr ⟨qfe hf,?_⟩⟩
  rcases lk with ⟨kl,_⟩|⟨_,c,hc,hcell⟩
  ·have kl':X.env.scope.names.lookup x=some .local:=kl
   rcases hk with z|z
   ·rw[z] at kl';cases kl'
   ·rw[z] at kl';cases kl'
  ·obtain ⟨c2,h2⟩:=qej (yfp (cells:=X.env.cells) (cs:=[]) (.inl hmem))
   have h3:=snd x c2 h2
   rw[hc] at h3;cases h3
   obtain ⟨o,ho,hd⟩:=hcell
   exact ⟨c,h2,o,old c o ho,hd⟩
 ·obtain ⟨v,o,ho,hd⟩:=I.cell x c (snd x c e)
  exact ⟨v,o,old c o ho,hd⟩
 ·show upd H2 D (.lst []) C=none
  rw[yai hDC]
  exact I.hok.fresh hC
 ·show upd H2 D (.lst []) c=none
  obtain ⟨v,z⟩:=I.cell x c (snd x c e)
  rw[yai (Nat.ne_of_lt (Nat.lt_of_lt_of_le z.lt hD))]
  exact I.freeC x c (snd x c e)
 ·show (capS ix σ).length=M.length
  unfold capS
  rw[List.length_map,ck.len]
theorem qku {C:Addr}{σ':St}{H':Hp}{s':Shared}{h2:Heap}{pl:List (Addr×Obj)} (I:Inv X pins σ H2 s2) (J:Inv (qbg X M scope C fp s2 H2) pl σ' H' s') (f2:∀ b∈fp,FpOk X pins H2 b) (sb:Heap.SameBut C s'.heap h2):Inv X pins σ H' { s' with heap:=h2 }:=by
 have hC:s2.heap.objs.size≤C:=J.ok.above
 refine I.call' (s':={ s' with heap:=h2 }) (ch:=fp) J.os (Un.butNew J.base hC sb) (fun a o e=>?_) J.bare fun b hb=>?_
 ·have fr:H' C=none:=J.free
  refine (J.hok a o e).stay (fun c v hc q=>(sb.2 c ?_).trans q) (fun _ q=>q) fun _ _ q=>q
  rintro rfl
  rcases hc with z|z
  ·rw[← z,fr] at e;cases e
  ·rw[fr] at z;cases z
 ·obtain ⟨_,n1,_,n3,n4,n5⟩:=f2 b hb
  exact ⟨n3,n1,n4,n5⟩
end
noncomputable def ya6 (l l':St):Prop:=l'.length=l.length∧∀ (i:Nat) (v:V),l[i]?=some (some v)→l'[i]?=some (some v)
theorem ya6.refl (l:St):ya6 l l:=⟨rfl,fun _ _ h=>h⟩
theorem ya6.set {l l':St}{i:Nat}{x:Option V} (h:ya6 l l') (hi:l[i]?=some none):ya6 l (l'.set i x):=by
 refine ⟨by rw[List.length_set];exact h.1,fun j v e=>?_⟩
 by_cases hj:j=i
 ·subst hj;rw[hi] at e;cases e
 ·rw[List.getElem?_set_ne (Ne.symm hj)];exact h.2 j v e
noncomputable def tComp (wi:TI) (ix:List (Option Nat)) (g:TG) (tt:TT) (te:TE):TE:=fun σ H Q=>wi σ H fun J H1=>∀ D,H1 D=none→∃ W:Nat→Nat→Hp→Prop,(∃ m,W 0 m (upd H1 D (.lst [])))∧∀ i m H,W i m H→
 (J.stop i H∧Q (.ref D) H)∨(J.go i H∧∃ N:Hp→Prop,(∀ H',N H'→∃ m',m' < m∧W (i+1) m' H')∧∀ x H',J.yld i H x H'→g x (capS ix σ) H' fun σ2 H2=>ya6 (capS ix σ) σ2∧tt σ2 H2 fun b H3=>
  if b=true then te σ2 H3 fun v H4=>∃ ys,H4 D=some (.lst ys)∧ys.length<sizeLine∧N (upd H4 D (.lst (ys++[v]))) else N H3)
section
variable {X:Cx}{elt tg iter:Expr}{ifs:List Expr}{scope:Scope}{pos:Pos}{wi:TI}{g:TG}{tt:TT}{te:TE}{M:List Str}{ix:List (Option Nat)}
theorem ykr {pins:List (Addr×Obj)}{σ:St}{H2 H4:Hp}{s2 s4:Shared}{fp:List Addr}{it C D:Addr}{tn:Nat→Heap→Prop}{J:It}{R:Result→Shared→Prop}{QD:Hp→Prop} (I2:Inv X pins σ H2 s2) (hc:X.calm=true)
  (f2:∀ b∈fp,FpOk X pins H2 b) (T:Turn X.prog X.w X.K tg J fp it tn)
  (hg:PG (qbg X M scope C fp s2 H2) tg g) (ht:PTs (qbg X M scope C fp s2 H2) ifs tt) (he:PE (qbg X M scope C fp s2 H2) elt te)
  (I4:Inv (qbg X M scope C fp s2 H2) [] (capS ix σ) H4 s4) (st4:tn 0 s4.heap) (fr4:∀ b∈fp,H4 b=none) (W:Nat→Nat→Hp→Prop) (m0:Nat) (w0:W 0 m0 H4)
  (turn:∀ i m H,W i m H→(J.stop i H∧QD H)∨(J.go i H∧∃ N:Hp→Prop,(∀ H',N H'→∃ m',m' < m∧W (i+1) m' H')∧∀ x H',J.yld i H x H'→g x (capS ix σ) H' fun σ2 H2=>ya6 (capS ix σ) σ2∧tt σ2 H2 fun b H3=>
   if b=true then te σ2 H3 fun v H4=>∃ ys,H4 D=some (.lst ys)∧ys.length<sizeLine∧N (upd H4 D (.lst (ys++[v]))) else N H3))
  (fin:∀ H' s',Inv (qbg X M scope C fp s2 H2) [] (capS ix σ) H' s'→QD H'→R (.ok .next) s') :
  codeAny (model X.prog X.w) X.A (.compLoop (.ListComp elt [⟨tg,iter,ifs,0⟩] scope pos) 0 (.ref it) (.ref D) (compEnvC scope (clOf X.env.cells scope.names []) C X.env)) R s4:=by
 have stat:∀ {H':Hp},(∀ b∈fp,H' b=none)→∀ b∈fp,FpOk (qbg X M scope C fp s2 H2) [] H' b:=fun {H'} hn b hb=>
  ⟨hn b hb,(I4.ok.exf b hb).1,I4.ok.exfs b hb,.inl hb,(I4.ok.exf b hb).2,by intro p hp;cases hp⟩
 refine codeAny_loop rfl (fun n s'=>∃ i H',Inv (qbg X M scope C fp s2 H2) [] (capS ix σ) H' s'∧tn i s'.heap∧(∀ b∈fp,H' b=none)∧W i n H') ?_ m0 ⟨0,H4,I4,st4,fr4,w0⟩
 rintro n s5 ⟨i,H5,I5,st5,fr5,w5⟩
 show wpAny (model X.prog X.w) X.A ((compTurn (.ListComp elt [⟨tg,iter,ifs,0⟩] scope pos) 0 (.ref it) (.ref D) (compEnvC scope (clOf X.env.cells scope.names []) C X.env)).onRaise (fun x=>do noteFrame x (compEnvC scope (clOf X.env.cells scope.names []) C X.env);theTreesLotGoes x)) _ _ s5
 refine wpAny_noted ?_
 rw[compTurn_list]
 refine wpAny_bind (wpAny_standAt (wpAny_bind ?_))
 rcases turn i n H5 w5 with ⟨stop,qn⟩|⟨go,N,hN,step⟩
 ·refine thn (T.done (qbg X M scope C fp s2 H2) rfl rfl rfl hc i [] s5 (capS ix σ) H5 _ I5 (stat fr5) st5 stop) fun r s6 ⟨hr,I6⟩=>?_
  subst hr
  exact wpAny_pure (fin H5 s6 I6 qn)
 ·refine thn (T.item (qbg X M scope C fp s2 H2) rfl rfl rfl hc i [] s5 (capS ix σ) H5 _ I5 (stat fr5) st5 go) fun r s6 ⟨u,hr,h6⟩=>?_
  subst hr
  refine wpAny_bind (thn h6 fun _ s7 ⟨x,H7,I7,r7,y7,st7,fr7⟩=>?_)
  have I7':=I7.pinned (stat fr7) (T.obj _ _ st7)
  refine wpAny_bind (wpAny_mono (hg _ s7 (capS ix σ) H7 x u _ I7' r7 (step x H7 y7)) (fun _ s8 ⟨σ8,H8,I8,k8,q8⟩=>?_) fun _ _ z=>False.elim z)
  refine wpAny_bind (wpAny_mono (ht _ s8 σ8 H8 _ I8 q8) (fun ok s9 ⟨H9,I9,q9⟩=>?_) fun _ _ z=>False.elim z)
  have again:∀ {Ha:Hp}{sa:Shared},Inv (qbg X M scope C fp s2 H2) ([]++yib fp s7.heap) σ8 Ha sa→N Ha→∃ m,m<n∧∃ i H',Inv (qbg X M scope C fp s2 H2) [] (capS ix σ) H' sa∧tn i sa.heap∧(∀ b∈fp,H' b=none)∧W i m H':=fun {Ha sa} Ia na=>by
   obtain ⟨m',hm,wa⟩:=hN Ha na
   refine ⟨m',hm,i+1,Ha,Ia.unpinned.weak k8.1.symm k8.2,T.keep _ _ _ st7 fun b hb o e=>(Ia.pin (b,o) (List.mem_append_right _ (List.mem_append_right _ (ydx hb e)))).1,fun b hb=>?_,wa⟩
   obtain ⟨o,e,d⟩:=T.obj _ _ st7 b hb
   exact (Ia.pin (b,o) (List.mem_append_right _ (List.mem_append_right _ (ydx hb e)))).2.1
  cases ok with
  | false=>exact wpAny_pure ⟨rfl,again I9 q9⟩
  | true=>
   refine wpAny_bind (wpAny_bind (wpAny_mono (he _ s9 σ8 H9 _ I9 q9) (fun xv s10 ⟨v,H10,I10,r10,ys,hD,hl,q10⟩=>?_) fun _ _ z=>False.elim z))
   refine wpAny_bind (wpAny_mono (qb6 (X:=qbg X M scope C fp s2 H2) _ s10 σ8 H10 (.ref D) [v] (.ref D) [xv] (fun _ H'=>N H') I10 rfl (.cons r10 .nil) ⟨D,ys,v,rfl,rfl,hD,hl,q10⟩) (fun _ s11 ⟨_,H11,I11,_,q11⟩=>?_) fun _ _ z=>False.elim z)
   exact wpAny_pure (wpAny_pure ⟨rfl,again I11 q11⟩)
theorem yg3 {pins:List (Addr×Obj)}{σ:St}{H2:Hp}{s2:Shared}{fp:List Addr}{it:Addr}{tn:Nat→Heap→Prop}{J:It}{E:Value→Shared→Prop}{QD:Addr→Hp→Prop}{RR:Value→Addr→Result→Shared→Prop} (I2:Inv X pins σ H2 s2) (hc:X.calm=true)
  (ck:CompOk X.N M ix scope X.env.scope) (f2:∀ b∈fp,FpOk X pins H2 b) (T:Turn X.prog X.w X.K tg J fp it tn) (st2:tn 0 s2.heap)
  (hg:∀ C fp s2 H2,PG (qbg X M scope C fp s2 H2) tg g) (ht:∀ C fp s2 H2,PTs (qbg X M scope C fp s2 H2) ifs tt) (he:∀ C fp s2 H2,PE (qbg X M scope C fp s2 H2) elt te)
  (rd:∀ D,H2 D=none→∃ W:Nat→Nat→Hp→Prop,(∃ m,W 0 m (upd H2 D (.lst [])))∧∀ i m H,W i m H→
   (J.stop i H∧QD D H)∨(J.go i H∧∃ N:Hp→Prop,(∀ H',N H'→∃ m',m' < m∧W (i+1) m' H')∧∀ x H',J.yld i H x H'→g x (capS ix σ) H' fun σ2 H2=>ya6 (capS ix σ) σ2∧tt σ2 H2 fun b H3=>
    if b=true then te σ2 H3 fun v H4=>∃ ys,H4 D=some (.lst ys)∧ys.length<sizeLine∧N (upd H4 D (.lst (ys++[v]))) else N H3))
  (fin:∀ D C H' s',QD D H'→(∃ m,s'.heap.Ns C m)→(∀ h2,Heap.SameBut C s'.heap h2→Inv X pins σ H' { s' with heap:=h2 })→FpOk X pins H' C→RR (.ref D) C (.ok .next) s') :
  wpAny (model X.prog X.w) X.A (newList []) (fun acc s3=>wpAny (model X.prog X.w) X.A (newFunctionEnv scope X.env.globals (clOf X.env.cells scope.names []) [] X.env.qual none .none (some X.env)) (fun cenv s4=>
   codeAny (model X.prog X.w) X.A (.compStart (.ListComp elt [⟨tg,iter,ifs,0⟩] scope pos) 0 (.ref it) acc { cenv with scope:=relabel scope X.env }) (RR acc cenv.locals) s4) E s3) E s2:=by
 have hfp:∀ b∈fp,b<s2.heap.objs.size:=fun b hb=>by obtain ⟨o,e,_⟩:=T.obj 0 _ st2 b hb;exact Heap.lt_size e
 refine wpAny_newObj_type (wpAny_newFunctionEnv ck.nocell (by intro y hy;simp at hy) (fun h1 hn1 hsb1=>?_) ck.kind)
 dsimp only at hn1 hsb1 ⊢
 generalize hP:s2.heap.push { cls:=.type "list",dict:=none,data:=.seq ([]:List Value).toArray }=hh at hn1 hsb1 ⊢
 have hCz:hh.objs.size=s2.heap.objs.size+1:=by rw[← hP,Heap.size_push]
 have hCD:hh.objs.size≠s2.heap.objs.size:=by omega
 have old:∀ b o,s2.heap.get? b=some o→h1.get? b=some o:=fun b o e=>by
  have hb:b<s2.heap.objs.size:=Heap.lt_size e
  exact hsb1.extBut b o (Nat.ne_of_lt (by rw[hCz];exact Nat.lt_succ_of_lt hb)) (Heap.get?_push_of_some _ (hP ▸ Heap.get?_push_of_some _ e))
 have hnew:h1.get? s2.heap.objs.size=some { cls:=.type "list",data:=.seq #[] }:=hsb1.extBut _ _ hCD.symm (Heap.get?_push_of_some _ (hP ▸ Heap.get?_push_size _ rfl))
 obtain ⟨W,⟨m0,w0⟩,turn⟩:=rd s2.heap.objs.size (I2.hok.fresh (Nat.le_refl _))
 have I4:=comp_inv (M:=M) (ix:=ix) (scope:=scope) (fp:=fp) (tk:=s2.toks+([]:List (Str×Value)).length) I2 ck (C:=hh.objs.size) (D:=s2.heap.objs.size) (by omega) (Nat.le_refl _) hCD f2 hfp old hn1 hnew
 have st4:tn 0 h1:=T.keep _ _ _ st2 fun b _ o e=>old b o e
 have fr4:∀ b∈fp,upd H2 s2.heap.objs.size (.lst []) b=none:=fun b hb=>by rw[yai (Nat.ne_of_lt (hfp b hb))];exact (f2 b hb).1
 have lp:codeAny (model X.prog X.w) X.A (.compLoop (.ListComp elt [⟨tg,iter,ifs,0⟩] scope pos) 0 (.ref it) (.ref s2.heap.objs.size) (compEnvC scope (clOf X.env.cells scope.names []) hh.objs.size X.env)) (RR (.ref s2.heap.objs.size) hh.objs.size) { s2 with heap:=h1,toks:=s2.toks+([]:List (Str×Value)).length }:=by
  refine ykr (QD:=QD s2.heap.objs.size) I2 hc f2 T (hg _ _ _ _) (ht _ _ _ _) (he _ _ _ _) I4 st4 fr4 W m0 w0 turn fun H' s' J' q'=>?_
  obtain ⟨m,hm,_⟩:=J'.loc
  exact fin _ _ H' s' q' ⟨m,hm⟩ (fun h2 sb=>qku I2 J' f2 sb) (I2.fpOk (by omega) J'.free)
 exact codeAny_compStart_list lp (T.self _ 0 _ _ _ st4 lp)
theorem yce (hc:X.calm=true) (ck:CompOk X.N M ix scope X.env.scope) (hi:PI X tg iter wi) (hg:∀ C fp s2 H2,PG (qbg X M scope C fp s2 H2) tg g) (ht:∀ C fp s2 H2,PTs (qbg X M scope C fp s2 H2) ifs tt) (he:∀ C fp s2 H2,PE (qbg X M scope C fp s2 H2) elt te)
  (hs:∀ x,foldedSetIterable iter X.env x=pure x:=by intro _;rfl):PE X (.ListComp elt [⟨tg,iter,ifs,0⟩] scope pos) (tComp wi ix g tt te):=by
 intro pins s σ H Q I h
 have hfree:∀ x∈scope.names,x.2=.free→∃ c,X.env.cells.lookup x.1=some c:=fun x hx e=>I.ok.has x.1 (ck.fr x hx e)
 rw[eval_ListComp]
 refine wpAny_comprehension_free (use:=none) (cl:=clOf X.env.cells scope.names []) rfl hs (ydo hfree) ck.kind ck.loc (thn (hi pins s σ H _ I h) fun v s1 h1=>thn h1 fun itv s2 h2=>?_)
 obtain ⟨it,fp,tn,J,H2,e,I2,T,st2,f2,rd⟩:=h2
 subst e
 refine yg3 (QD:=fun D H'=>Q (.ref D) H') I2 hc ck f2 T st2 hg ht he rd fun D C H' s' q hm hb _=>?_
 obtain ⟨m,hm⟩:=hm
 exact ⟨m,hm,fun h2 sb=>⟨.ref D,H',hb h2 sb,rfl,q⟩⟩
noncomputable def tCompSet (wi:TI) (ix:List (Option Nat)) (g:TG) (tt:TT) (te:TE) (i:Nat):TS:=fun D σ H=>tComp wi ix g tt te σ H fun x H1=>D.nx (σ.set i (some x)) H1
theorem yl3 {i:Nat}{x:Str}{pos' spos:Pos} (hsw:swapsWith (.ListComp elt [⟨tg,iter,ifs,0⟩] scope pos) (some (.Name x pos')) spos.line X.env=pure true) (hN:X.N.Nodup) (hix:X.N[i]?=some x) (hx:Loc X.env.scope x)
  (hc:X.calm=true) (ck:CompOk X.N M ix scope X.env.scope) (hi:PI X tg iter wi) (hg:∀ C fp s2 H2,PG (qbg X M scope C fp s2 H2) tg g) (ht:∀ C fp s2 H2,PTs (qbg X M scope C fp s2 H2) ifs tt) (he:∀ C fp s2 H2,PE (qbg X M scope C fp s2 H2) elt te)
  (hs:∀ x,foldedSetIterable iter X.env x=pure x:=by intro _;rfl) (hf:X.fn x=true∨X.env.scope.names.lookup x=some .local:=by first|exact .inl rfl|exact .inr rfl|assumption) :
  PS X (.Assign [.Name x pos'] (.ListComp elt [⟨tg,iter,ifs,0⟩] scope pos) spos) (tCompSet wi ix g tt te i):=by
 intro pins s σ H D0 I h
 have hfree:∀ x∈scope.names,x.2=.free→∃ c,X.env.cells.lookup x.1=some c:=fun x hx e=>I.ok.has x.1 (ck.fr x hx e)
 rw[exec_Assign_Name_used _ _ _ _ hsw]
 refine wpAny_bind (wpAny_standAt (wpAny_bind ?_))
 show wpAny _ X.A (do let _ ← comprehension (.ListComp elt [⟨tg,iter,ifs,0⟩] scope pos) scope X.env _ (newList []) false (eval iter X.env) (some (assign (.Name x pos') X.env))) _ _ s
 refine wpAny_bind (wpAny_mono (wpAny_comprehension_free (use:=some (assign (.Name x pos') X.env)) (Q:=fun _ s'=>SP X pins D0 .next s') (cl:=clOf X.env.cells scope.names []) rfl hs (ydo hfree) ck.kind ck.loc
  (thn (hi pins s σ H _ I h) fun v s1 h1=>thn h1 fun itv s2 h2=>?_)) (fun _ s' hq=>wpAny_pure (wpAny_pure hq)) fun _ _ e=>e)
 obtain ⟨it,fp,tn,J,H2,e,I2,T,st2,f2,rd⟩:=h2
 subst e
 refine yg3 (QD:=fun D H'=>D0.nx (σ.set i (some (.ref D))) H') I2 hc ck f2 T st2 hg ht he rd fun D C H' s' q hm hb fpk=>?_
 obtain ⟨m,hm⟩:=hm
 obtain ⟨g0,g1,g2,g3,g4,g5⟩:=fpk
 have I5:Inv X pins σ H' s':=hb s'.heap ⟨rfl,fun _ _=>rfl⟩
 show wpAny (model X.prog X.w) X.A (assign (.Name x pos') X.env (.ref D)) _ _ s'
 refine wpAny_assign_Name (yif (v:=.ref D) I5 hN hix hx rfl (fun s6 I6 ⟨a,sb,ha⟩=>?_) hf)
 have hCa:C≠a:=by
  rcases ha with ha|ha
  ·rw[ha];exact g1
  ·exact (g4 x a ha).symm
 refine ⟨m,hm.sameBut sb hCa,fun h2 sb2=>⟨_,H',I6.turned (t':=s6.toks) (fun b o hb e=>(sb2.2 b hb).trans e) g0 g1 g3 g4 g5,q⟩⟩
end
noncomputable def FnAt (K:PySem.W.Frag) (mg:Str→Option Value) (x:Str) (st:Stmt) (ps:List Str):Prop:=∃ f fd,mg x=some (.ref f)∧Fun K x x st f fd∧qcu K fd ps []
noncomputable def Has (P:Program) (w:World) (K:PySem.W.Frag) (mg:Str→Option Value) (base:Heap) (k:Nat) (x:Str) (ps:List Str) (sp:Sp):Prop:=
 ∃ f fd,mg x=some (.ref f)∧PySem.W.keepIn K (.ref f)=true∧qcu K fd ps []∧FnOk P w K mg base CX0 k f fd ps sp
section
variable {P:Program}{w:World}{K:PySem.W.Frag}{mg:Str→Option Value}{base:Heap}
theorem Has.of {x:Str}{st:Stmt}{ps N:List Str}{k:Nat}{sp:Sp} (F:FnAt K mg x st ps) (S:FnScope N ps (yac st)) (len:∀ vs H Q E,sp vs H Q E→vs.length=ps.length)
  (hbody:∀ (f:Addr) (cdv:Value) (A:Around) (outer:List Env) (s:Shared) (H:Hp) (vs:List V) (Q:VK) (E:XK),Room k (A.deeper (envOfC x (yac st) s.heap.objs.size f cdv))→sp vs H Q E→
   ∃ t,PSs (cxOf CX0 P w K mg base N x (yac st) f cdv A outer s H E).nox (yay st) t∧t { nx:=fun _ H'=>Q .non H',rt:=Q } (yet N vs) H):Has P w K mg base (k+1) x ps sp:=by
 obtain ⟨f,fd,h1,h2,h3⟩:=F
 exact ⟨f,fd,h1,h2.kp,h3,h2.ok S len fun cdv A outer s H vs Q E hr h=>hbody f cdv A outer s H vs Q E hr h⟩
end
section
variable {X:Cx}
theorem qah {k m:Nat}{x:Str}{ps:List Str}{sp:Sp}{e:Expr}{es:List Expr}{t:TA}{p pos:Pos} (h:Has X.prog X.w X.K X.mg X.base k x ps sp) (hr:Room m X.A) (ha:PA X (e::es) t) (hk:k≤m:=by decide) (hg:Gl X x:=by rfl)
  (hdb:(x == ("__debug__" : Str))=false:=by decide) (he:starEach (e::es) X.env=(false,eval e X.env)::starEach es X.env:=by rfl) (hpl:(backTo pos (starEach es X.env)).any (·.1)=false:=by rfl) :
  PE X (.Call (.Name x p) (e::es) [] pos) (yme sp [] E0 t):=by
 obtain ⟨f,fd,h1,h2,h3,h4⟩:=h
 exact qlc h4 (hr.mono hk) hg h1 h2 h3 .nil pass0 ha hdb he hpl
end
noncomputable def qit:List Str:=["len","abs","max","min","repr","isinstance","int","bool","str","tuple","list","dict","range","enumerate","sorted","sum"]
structure Bl (mg:Str→Option Value):Prop where
 all:∀ x∈qit,mg x=none
theorem Bl.of {mg:Str→Option Value} (B:Bl mg) {x:Str} (h:qit.contains x=true):mg x=none:=B.all x (by simpa using h)
noncomputable def GTup (K:PySem.W.Frag) (mg:Str→Option Value) (x:Str) (xs:List V):Prop:=∃ a,mg x=some (.ref a)∧∀ H,SqT K H a xs
theorem qhp {K:PySem.W.Frag}{mg:Str→Option Value}{x:Str}{a:Addr}{xs:List V}{od:Option Addr}{its:Array Value}{n:Nat}{sl:Array (Option Value)} (h1:mg x=some (.ref a)) (h2:K.lookup a=some ⟨.type "tuple",od,.seq its n,sl⟩)
  (h3:its.size≤sizeLine) (h4:Vals xs its.toList):GTup K mg x xs:=⟨a,h1,fun H=>.inr ⟨_,its,n,h2,rfl,rfl,h3,h4⟩⟩
section
variable {X:Cx}
noncomputable def tGT (K:PySem.W.Frag) (xs:List V):TE:=fun _ H Q=>∀ a,(∀ H',SqT K H' a xs)→Q (.ref a) H
theorem yf4 {x:Str}{xs:List V}{pos:Pos} (h:GTup X.K X.mg x xs) (hg:Gl X x:=by rfl) (hd:(x == ("__debug__" : Str))=false:=by decide):PE X (.Name x pos) (tGT X.K xs):=by
 obtain ⟨a,h1,h2⟩:=h
 exact fun pins s σ H Q I q=>ya1 (v:=.ref a) hg h1 rfl hd pins s σ H Q I (q a h2)
theorem qct {x:Str}{i:Int}{pos:Pos} (h:∃ t,X.mg x=some (.int i t)) (hg:Gl X x:=by rfl) (hd:(x == ("__debug__" : Str))=false:=by decide):PE X (.Name x pos) (tC (.int i)):=by
 obtain ⟨t,h1⟩:=h
 exact ya1 (v:=.int i) hg h1 ⟨t,rfl⟩ hd
noncomputable def rIsi (K:PySem.W.Frag):List V→Hp→VK→Prop:=fun xs H Q=>∃ x T t b,xs=[x,.ty T]∧TyOf K H x t∧PySem.W.kitOne K t (.type T)=some b∧Q (.bl b) H
theorem qa3:yc1 X (.builtin "isinstance") (rIsi X.K):=by
 intro pins s σ H xs us Q I r h
 obtain ⟨x,T,t,b,rfl,ht,hk,q⟩:=h
 cases r with
 | cons r rr=>
  cases rr with
  | cons r' rr=>
   cases rr
   cases r'
   exact qk6 I r ht hk fun tk=>⟨.bl b,H,I.tok _,rfl,q⟩
end
noncomputable def tCut (t u:TS):TS:=fun D σ H=>∃ R:St→Hp→Prop,t { D with nx:=R } σ H∧∀ σ' H',R σ' H'→u D σ' H'
theorem qkr {X:Cx}{st:Stmt}{rest:List Stmt}{t u:TS} (h1:PS X st t) (h2:PSs X rest u):PSs X (st::rest) (tCut t u):=by
 intro pins s σ H D I h
 obtain ⟨R,h,hR⟩:=h
 refine wpAny_execs_cons (thn (h1 pins s σ H { D with nx:=R } I h) fun f s1 q=>?_)
 cases f with
 | next=>
  obtain ⟨σ',H',I',q⟩:=q
  exact h2 pins s1 σ' H' D I' (hR σ' H' q)
 | ret v=>exact q
 | brk=>exact q
 | cont=>exact q
noncomputable def tMid (t:TE):TE:=fun σ H Q=>∃ R:VK,t σ H R∧∀ v H',R v H'→Q v H'
theorem pe_mid {X:Cx}{e:Expr}{t:TE} (h:PE X e t):PE X e (tMid t):=by
 intro pins s σ H Q I hw
 obtain ⟨R,h1,h2⟩:=hw
 exact thn (h pins s σ H R I h1) fun u s1 ⟨v,H1,I1,r,q⟩=>⟨v,H1,I1,r,h2 v H1 q⟩
theorem Same.upd {H H1:Hp}{p:Addr}{o:HO} (s:Same H H1) (h:H1 p=none):Same H (upd H1 p o):=fun b u e=>by
 have e1:=s b u e
 rw[yai (yae e1 h)];exact e1
theorem Same.at {H H1:Hp}{p:Addr}{o:HO} (s:Same H H1) (h:H p=none):Same H (L2.upd H1 p o):=fun b u e=>by
 rw[yai (yae e h)];exact s b u e
theorem At.tupEq {H:Hp}{v:V}{ds:List PyData} (h:At H v (.tuple ds)):∃ a vs,v=.ref a∧H a=some (.tup vs)∧AtAll H vs ds:=by
 cases h with
 | tup e t=>exact ⟨_,_,rfl,e,t⟩
theorem At.lstEq {H:Hp}{v:V}{ds:List PyData} (h:At H v (.list ds)):∃ a vs,v=.ref a∧H a=some (.lst vs)∧AtAll H vs ds:=by
 cases h with
 | lst e t=>exact ⟨_,_,rfl,e,t⟩
theorem At.strEq {H:Hp}{v:V}{x:Str} (h:At H v (.str x)):v=.str x:=by cases h;rfl
theorem At.intEq {H:Hp}{v:V}{x:Int} (h:At H v (.int x)):v=.int x:=by cases h;rfl
noncomputable def qap (H:Hp) (L:List Addr):Hp:=fun b=>if b∈L then none else H b
theorem qal (H:Hp) (L:List Addr):Same (qap H L) H:=fun b o e=>by
 unfold qap at e
 split at e
 ·cases e
 ·exact e
theorem ya2 {H:Hp}{L:List Addr}{b:Addr} (h:b∉L):qap H L b=H b:=by unfold qap;rw[if_neg h]
theorem qam {H H':Hp} (s:Same H H') (L:List Addr):Same (qap H L) (qap H' L):=fun b o e=>by
 unfold qap at e ⊢
 split at e
 ·cases e
 ·rename_i h;rw[if_neg h];exact s b o e
theorem yk7 {H:Hp}{L L':List Addr} (h:∀ b∈L,b∈L'):Same (qap H L') (qap H L):=fun b o e=>by
 unfold qap at e ⊢
 split at e
 ·cases e
 ·rename_i hn;rw[if_neg fun z=>hn (h b z)];exact e
theorem qgb {H:Hp}{L:List Addr}{p:Addr}{o:HO} (h:p∈L):qap (upd H p o) L=qap H L:=by
 funext b
 unfold qap
 by_cases hb:b∈L
 ·rw[if_pos hb,if_pos hb]
 ·rw[if_neg hb,if_neg hb,yai]
  rintro rfl
  exact hb h
noncomputable def Bld (L:List Addr) (H:Hp) (l:Addr) (ds:List PyData):Prop:=∃ us,H l=some (.lst us)∧AtAll (qap H (l::L)) us ds
theorem Bld.new {L:List Addr}{H:Hp}{l:Addr}:Bld L (upd H l (.lst [])) l []:=⟨[],yaa,.nil⟩
theorem Bld.grow {L:List Addr}{H H':Hp}{l:Addr}{ds:List PyData} (b:Bld L H l ds) (s:Same H H'):Bld L H' l ds:=by
 obtain ⟨us,h1,h2⟩:=b
 exact ⟨us,s _ _ h1,h2.same (qam s _)⟩
theorem Bld.push {L:List Addr}{H:Hp}{l:Addr}{ds:List PyData}{us:List V}{v:V}{d:PyData} (b:Bld L H l ds) (hu:H l=some (.lst us)) (h:At (qap H (l::L)) v d):Bld L (upd H l (.lst (us++[v]))) l (ds++[d]):=by
 obtain ⟨us',h1,h2⟩:=b
 rw[hu] at h1;cases h1
 refine ⟨_,yaa,?_⟩
 rw[qgb List.mem_cons_self]
 exact h2.snoc h
theorem Bld.len {L:List Addr}{H:Hp}{l:Addr}{ds:List PyData}{us:List V} (b:Bld L H l ds) (hu:H l=some (.lst us)):us.length=ds.length:=by
 obtain ⟨us',h1,h2⟩:=b
 rw[hu] at h1;cases h1
 exact h2.length
theorem Bld.at {L:List Addr}{H:Hp}{l:Addr}{ds:List PyData} (b:Bld L H l ds) (h:l∉L):At (qap H L) (.ref l) (.list ds):=by
 obtain ⟨us,h1,h2⟩:=b
 exact .lst (by rw[ya2 h];exact h1) (h2.same (yk7 fun b hb=>List.mem_cons_of_mem _ hb))
theorem Bld.out {H:Hp}{l:Addr}{ds:List PyData} (b:Bld [] H l ds):At H (.ref l) (.list ds):=(b.at (by simp)).same (qal _ _)
theorem qke {n:Nat} (h:n≤100000):n≤sizeLine:=Nat.le_trans h (by decide)
theorem qb5 {n:Nat} (h:n≤100000):n<sizeLine:=Nat.lt_of_le_of_lt h (by decide)
theorem yad {α:Type}{xs:List α}{i:Int}{v:α} (j:Nat) (h:xs[j]?=some v) (e:i=(j:Int):=by rfl):atI xs i=some v:=by
 rw[e];exact ycu h
theorem qf0 {α:Type}{xs:List α}{i:Int}{v:α} (h0:0≤i) (h:xs[i.toNat]?=some v):atI xs i=some v:=by
 have e:((i.toNat:Nat):Int)=i:=Int.toNat_of_nonneg h0
 rw[← e];exact ycu h
theorem qda {J:It}{n:Nat}{g:TG}{tt:TT}{te:TE}{ix:List (Option Nat)}{σ:St}{H:Hp}{QD:Hp→Prop}{D:Addr} (Pv:Nat→Hp→Prop) (h0:Pv 0 (upd H D (.lst []))) (stop:∀ H',Pv n H'→J.stop n H'∧QD H')
  (step:∀ i H',i<n→Pv i H'→J.go i H'∧∀ x H2,J.yld i H' x H2→g x (capS ix σ) H2 fun σ2 H3=>ya6 (capS ix σ) σ2∧tt σ2 H3 fun b H4=>
   if b=true then te σ2 H4 fun v H5=>∃ ys,H5 D=some (.lst ys)∧ys.length<sizeLine∧Pv (i+1) (upd H5 D (.lst (ys++[v]))) else Pv (i+1) H4) :
  ∃ W:Nat→Nat→Hp→Prop,(∃ m,W 0 m (upd H D (.lst [])))∧∀ i m H,W i m H→
   (J.stop i H∧QD H)∨(J.go i H∧∃ N:Hp→Prop,(∀ H',N H'→∃ m',m' < m∧W (i+1) m' H')∧∀ x H',J.yld i H x H'→g x (capS ix σ) H' fun σ2 H2=>ya6 (capS ix σ) σ2∧tt σ2 H2 fun b H3=>
    if b=true then te σ2 H3 fun v H4=>∃ ys,H4 D=some (.lst ys)∧ys.length<sizeLine∧N (upd H4 D (.lst (ys++[v]))) else N H3):=by
 refine ⟨fun i m H=>m=n-i∧i≤n∧Pv i H,⟨n,by simp,Nat.zero_le _,h0⟩,?_⟩
 rintro i m H ⟨rfl,hi,p⟩
 by_cases hlt:i<n
 ·obtain ⟨g1,g2⟩:=step i H hlt p
  exact .inr ⟨g1,Pv (i+1),fun H' p'=>⟨n-(i+1),by omega,rfl,hlt,p'⟩,g2⟩
 ·have e:i=n:=by omega
  subst e
  exact .inl (stop H p)
theorem qfu {xs:List V} (k:Nat):cutV xs none (some (k:Int))=xs.take k:=by
 unfold cutV
 rw[HT.sIx_none,HT.sIx_nat,List.drop_zero,Nat.sub_zero]
 by_cases h:k≤xs.length
 ·rw[Nat.min_eq_left h]
 ·rw[Nat.min_eq_right (by omega),List.take_length,List.take_of_length_le (by omega)]
theorem yfq {xs:List V} (k:Nat):cutV xs (some (k:Int)) none=xs.drop k:=by
 unfold cutV
 rw[HT.sIx_none,HT.sIx_nat]
 by_cases h:k≤xs.length
 ·rw[Nat.min_eq_left h]
  exact List.take_of_length_le (by rw[List.length_drop];exact Nat.le_refl _)
 ·rw[Nat.min_eq_right (by omega),List.drop_eq_nil_of_le (show xs.length≤k by omega),List.drop_length];simp
theorem yes {σ:St}{H:Hp}{A B:Hp→Prop} (h:A H):tYes σ H fun b H'=>if b=true then A H' else B H':=iteT (B:=B H) h
section
variable {X:Cx}{K:PySem.W.Frag}
theorem qfv (h:X.K=K):IxR X (rIxL K):=h ▸ qai
theorem yiz (h:X.K=K):IxR X (rIxT K):=h ▸ yap
theorem qhe (h:X.K=K):SlR X (rSlL K):=h ▸ ydn
theorem qhj (h:X.K=K):OpR X (compareOp .NotIn) (rIn K true):=h ▸ qh3
theorem yf5 {es:List Expr}{k:Nat}{t:TGs}{n:Nat}{pos:Pos} (h:X.K=K) (hc:X.calm=true) (hh:PGs X es t)
  (hn:(assignEach es X.env).length=n:=by rfl) (hst:(assignEach es X.env).findIdx? (·.1)=none:=by rfl):PG X (.Tuple es k pos) (gTup K n t):=by
 subst h;exact ydg hc hh hn hst
end
noncomputable def rNeD:R2:=fun x y H Q=>∃ dx dy,At H x dx∧At H y dy∧dx.canLay0=true∧dy.canLay0=true∧dx.depth≤60∧Q (.bl (!PyData.eqv dx dy)) H
section
variable {X:Cx}
theorem op_neD {k:Nat} (hr:Room k X.A):OpR X (compareOp .NotEq) rNeD:=by
 intro pins s σ H x y v u Q I rx ry h
 obtain ⟨dx,dy,h1,h2,c1,c2,hd,q⟩:=h
 obtain ⟨as,r1⟩:=h1.reads I.hok rx
 obtain ⟨bs,r2⟩:=h2.reads I.hok ry
 have hu:=hr.units
 exact PySem.SeqAt.rcNeAt_reads r1 r2 c1 c2 (by have:=Nat.min_le_left dx.depth dy.depth;omega) _ _ _ _ ⟨.bl _,H,I,rfl,q⟩
end
theorem qdd {n:Nat}:∀ {xs:List PyData},(∀ x∈xs,x.depth≤n)→PyData.depthAll xs≤n
 | [],_=>by simp[PyData.depthAll]
 | x::xs,h=>by
  have h1:=h x List.mem_cons_self
  have h2:=qdd (xs:=xs) fun y hy=>h y (List.mem_cons_of_mem _ hy)
  simp only[PyData.depthAll]
  omega
theorem yew {n:Nat}:∀ {xs:List PyData},(∀ x∈xs,x.bulk≤n)→PyData.bulkAll xs≤(n+1)*xs.length
 | [],_=>by simp[PyData.bulkAll]
 | x::xs,h=>by
  have h1:=h x List.mem_cons_self
  have h2:=yew (xs:=xs) fun y hy=>h y (List.mem_cons_of_mem _ hy)
  simp only[PyData.bulkAll,List.length_cons,Nat.mul_add]
  omega
theorem qea {B:Nat}:∀ {xs:List PyData},(∀ x∈xs,x.leavesShort B=true)→PyData.leavesShortAll B xs=true
 | [],_=>by simp[PyData.leavesShortAll]
 | x::xs,h=>by
  simp only[PyData.leavesShortAll,h x List.mem_cons_self,qea (xs:=xs) fun y hy=>h y (List.mem_cons_of_mem _ hy),Bool.and_self]
mutual
noncomputable def ybo:PyData→List (List PyData)
 | .list ds=>ds::qcc ds
 | .tuple ds=>qcc ds
 | .none | .bool _ | .int _ | .str _ | .dict _=>[]
noncomputable def qcc:List PyData→List (List PyData)
 | []=>[]
 | d::r=>ybo d++qcc r
end
mutual
theorem At.hideP {H:Hp}{p:Addr}{us:List V} (hp:H p=some (.lst us)):∀ {v:V}{d:PyData},At H v d→(∀ ds∈ybo d,¬ AtAll H us ds)→At (qap H [p]) v d
 | _,_,.non,_=>.non
 | _,_,.bl b,_=>.bl b
 | _,_,.int i,_=>.int i
 | _,_,.str x,_=>.str x
 | _,_,.lst (a:=a) (ds:=ds) e t,h=>by
  have hne:a≠p:=by
   rintro rfl
   rw[e] at hp;cases hp
   exact h ds (by unfold ybo;exact List.mem_cons_self) t
  exact .lst (by rw[ya2 (by simp[hne])];exact e) (AtAll.hideP hp t fun ds' hd=>h ds' (by unfold ybo;exact List.mem_cons_of_mem _ hd))
 | _,_,.tup (a:=a) (ds:=ds) e t,h=>by
  have hne:a≠p:=ne_of e hp (by intro z;cases z)
  exact .tup (by rw[ya2 (by simp[hne])];exact e) (AtAll.hideP hp t fun ds' hd=>h ds' (by unfold ybo;exact hd))
theorem AtAll.hideP {H:Hp}{p:Addr}{us:List V} (hp:H p=some (.lst us)):∀ {vs:List V}{ds:List PyData},AtAll H vs ds→(∀ ds'∈qcc ds,¬ AtAll H us ds')→AtAll (qap H [p]) vs ds
 | _,_,.nil,_=>.nil
 | _,_,.cons a b,h=>.cons (At.hideP hp a fun ds' hd=>h ds' (by unfold qcc;exact List.mem_append_left _ hd)) (AtAll.hideP hp b fun ds' hd=>h ds' (by unfold qcc;exact List.mem_append_right _ hd))
end
theorem yb4 {x:List PyData}:∀ {ds:List PyData},x∈qcc ds→∃ d∈ds,x∈ybo d
 | [],h=>by unfold qcc at h;cases h
 | d::r,h=>by
  unfold qcc at h
  rcases List.mem_append.mp h with h|h
  ·exact ⟨d,List.mem_cons_self,h⟩
  ·obtain ⟨e,he,hx⟩:=yb4 h
   exact ⟨e,List.mem_cons_of_mem _ he,hx⟩
end L2
namespace L2
open PySem PySem.Spec PyProof.Rows PySem.W
abbrev bmV:List Value:=[.type "ValueError",.type "Exception",.type "BaseException",.type "object"]
noncomputable def qfm (K:PySem.W.Frag) (C:Addr):Bool:=match K.lookup C with
 | some ⟨.type "type",_,.cls cd,sl⟩=>(match cd.mro,sl.toList with
  | .ref D::bm,[_,_,_,_,some (.builtin n),_]=>D == C&&n == "ValueError.__new__" && !cd.hasDel&&cd.hasDict&&PySem.W.tailIn K bmV bm
  | _,_=>false)
 | _=>false
theorem ye7 {K:PySem.W.Frag}{h:Heap}{C:Addr} (X:K.In h) (q:qfm K C=true):∃ nm qn N bs bm sn sub ab col dd k0 k1 k2 k3 k5,
  h.get? C=some (excClassObj nm qn C N bs bm true sn sub ab col dd k0 k1 k2 k3 k5 "ValueError.__new__")∧OwnTail h bmV bm:=by
 unfold qfm at q
 split at q
 ·rename_i dd cd sl ho
  split at q
  ·rename_i D bm k0 k1 k2 k3 n k5 hm hs
   simp only[Bool.and_eq_true,beq_iff_eq,Bool.not_eq_true'] at q
   obtain ⟨⟨⟨⟨rfl,rfl⟩,hdel⟩,hdi⟩,ht⟩:=q
   obtain ⟨nm,bs,mro,ns,qn,hd,sn,sub,ab,col,del⟩:=cd
   dsimp only at hm hdel hdi
   subst hm hdel hdi
   obtain ⟨l⟩:=sl
   simp only at hs
   subst hs
   exact ⟨nm,qn,ns,bs,bm,sn,sub,ab,col,dd,k0,k1,k2,k3,k5,X _ _ ho,tail_of_in X ht⟩
  ·cases q
 ·cases q
section
variable {prog:Program}{w:World}{A:Around}{E:Value→Shared→Prop}{h:Heap}{g:Array GenState}{d:Drawn}{t:Nat}{os:OsState}{K:PySem.W.Frag}{C fI:Addr}
theorem qih {rest:List Value}{Q:Fin→Shared→Prop} (X:K.In h) (cx:qfm K C=true) (hi:PySem.W.findIn K (.ref C) "__init__" = some (some (.ref fI))) (hf:PySem.W.isFn K (.ref fI)=true)
  (hq:∀ h' e,Heap.MadeExcOf h h' e (.ref C) rest→wpAny (model prog w) A (call (.ref fI) (.ref e::rest)) (fun r s'=>r=.none∧Q (.done (.ret (.ref e))) s') E ⟨h',g,d,t,os⟩) (hrest:rest.length≤sizeLine) :
  wpAny (model prog w) A (Builtin.«type.__call__» ⟨.ref C::rest,[]⟩) Q E ⟨h,g,d,t,os⟩:=by
 obtain ⟨nm,qn,N,bs,bm,sn,sub,ab,col,dd,k0,k1,k2,k3,k5,cC,T⟩:=ye7 X cx
 repeat (first|with_reducible refine wpAny_loadPart_at cC ?_|with_reducible refine wpAny_madeBy_exc cC ?_|wp_step)
 refine codeAny_call_builtin_code (Code.quiet_builtin _ PySem.F.excBase_ValueError.quiet) (wpAny_check_new_subU PySem.F.excBase_ValueError PySem.F.excBase_ValueError.hasB T cC ?_)
 refine codeAny_exc_new_subU PySem.F.excBase_ValueError PySem.F.excBase_ValueError.hasB PySem.F.excBase_ValueError T cC ?_ hrest
 show wpAny _ _ _ _ _ _
 generalize hp1:h.push { cls:=.type "tuple",data:=.seq rest.toArray }=h1
 have kp1:∀ b o,h.get? b=some o→h1.get? b=some o:=fun b o e=>by rw[← hp1];exact Heap.get?_push_of_some _ e
 have tp1:h1.get? h.objs.size=some { cls:=.type "tuple",data:=.seq rest.toArray }:=by rw[← hp1];exact Heap.get?_push_at rfl rfl
 have sz1:h1.objs.size=h.objs.size+1:=by rw[← hp1,Heap.size_push]
 generalize hp2:h1.push { cls:=.ref C,data:=.fields #[.ref h.objs.size,.none,.none,.none,.bool false,.none] }=h2
 have kp2:∀ b o,h.get? b=some o→h2.get? b=some o:=fun b o e=>by rw[← hp2];exact Heap.get?_push_of_some _ (kp1 b o e)
 have tp2:h2.get? h.objs.size=some { cls:=.type "tuple",data:=.seq rest.toArray }:=by rw[← hp2];exact Heap.get?_push_of_some _ tp1
 have ge2:h2.get? (h.objs.size+1)=some { cls:=.ref C,data:=.fields #[.ref h.objs.size,.none,.none,.none,.bool false,.none] }:=by rw[← hp2,← sz1];exact Heap.get?_push_size _ rfl
 have X2:K.In h2:=X.keeps kp2
 have cC2:=kp2 _ _ cC
 have hcC:(Value.ref C::bm).contains (.ref C)=true:=by simp
 unfold isInstance
 repeat (first|with_reducible refine wpAny_loadPart_at ge2 ?_|(with_reducible refine wpAny_isSubtype_exc cC2 ?_;rw[hcC])|wp_step)
 show wpAny _ _ (typeLookup (.ref C) _) _ _ _
 refine (looks_findIn X2 hi).here ?_
 refine wpAny_holding (wpAny_bind ((bind_fn X2 (.ref (h.objs.size+1)) (beq_iff_eq.mp hf)).here ?_))
 refine wpAny_bind (wpAny_mono (hq h2 (h.objs.size+1) ⟨kp2,Heap.get?_none_of_le (Nat.le_succ _),h.objs.size,ge2,Heap.get?_none_of_le (Nat.le_refl _),tp2⟩) (fun r s' hr=>?_) fun _ _ z=>z)
 obtain ⟨rfl,hQ⟩:=hr
 wp_walk
 exact hQ
theorem xc_call {rest:List Value}{Q:Value→Shared→Prop} (X:K.In h) (cx:qfm K C=true) (hi:PySem.W.findIn K (.ref C) "__init__" = some (some (.ref fI))) (hf:PySem.W.isFn K (.ref fI)=true)
  (hq:∀ h' e,Heap.MadeExcOf h h' e (.ref C) rest→wpAny (model prog w) (A.under (.builtin "type.__call__" ⟨.ref C::rest,[]⟩)) (call (.ref fI) (.ref e::rest)) (fun r s'=>r=.none∧Q (.ref e) s') E ⟨h',g,d,t,os⟩) (hrest:rest.length≤sizeLine) :
  wpAny (model prog w) A (call (.ref C) rest) Q E ⟨h,g,d,t,os⟩:=by
 obtain ⟨nm,qn,N,bs,bm,sn,sub,ab,col,dd,k0,k1,k2,k3,k5,cC,T⟩:=ye7 X cx
 have g1:=tc_lookup
 have g2:=tc_bind (.ref C)
 have gT:(⟨h,g,d,t,os⟩:Shared).TypeIs (.ref C) "type":=⟨_,cC,rfl⟩
 refine wpAny_call (codeAny_of_tree ?_)
 show wpAny _ _ (callAny (.ref C) _) _ _ _
 repeat (any_goals (first|assumption|with_reducible refine wpAny_loadPart_at cC ?_|wp_step))
 refine ⟨rfl,codeAny_call_builtin_at (Code.quiet_builtin _ (by decide +kernel)) entry_typeCall (wpAny_check_type_call_sub cC (qih X cx hi hf (fun h' e hm=>hq h' e hm) hrest))⟩
theorem xc_call0 {rest:List Value}{Q:Value→Shared→Prop} (X:K.In h) (q:PySem.W.excIn K C bmV "ValueError.__new__" = true) (hq:∀ h' e,Heap.MadeExcOf h h' e (.ref C) rest→Q (.ref e) ⟨h',g,d,t,os⟩) (hrest:rest.length≤sizeLine) :
  wpAny (model prog w) A (call (.ref C) rest) Q E ⟨h,g,d,t,os⟩:=by
 unfold PySem.W.excIn at q
 split at q
 ·rename_i dd cd sl ho
  split at q
  ·rename_i C' bm k0 k1 k2 k3 n k5 hm hs
   simp only[Bool.and_eq_true,beq_iff_eq,Bool.not_eq_true'] at q
   obtain ⟨⟨⟨⟨⟨rfl,rfl⟩,hdel⟩,ht⟩,hok⟩,hni⟩:=q
   obtain ⟨nm,bs,mro,ns,qn,hd,sn,sub,ab,col,del⟩:=cd
   dsimp only at hm hdel hok hni
   subst hm hdel
   obtain ⟨l⟩:=sl
   simp only at hs
   subst hs
   exact wpAny_call_exc_subU PySem.F.excBase_ValueError PySem.F.excBase_ValueError.hasB PySem.F.excBase_ValueError (tail_of_in X ht) (X _ _ ho) (.of_isNs (isNs_of_in X hok)) (nsMap_none_of_in X hok hni) hq hrest
  ·cases q
 ·cases q
end
theorem yi3 {h:Heap}{bm:List Value} (T:OwnTail h bmV bm) (self:Value):refuseLoop self "__setattr__" bm=pure ():=by
 induction T with
 | base=>exact PySem.F.store_ValueError.passes self
 | own _ _ _ _ ih=>rw[refuseLoop_ref];exact ih
section
variable {prog:Program}{w:World}{A:Around}{E:Value→Shared→Prop}{h:Heap}{g:Array GenState}{d:Drawn}{t:Nat}{os:OsState}{K:PySem.W.Frag}{C x:Addr}{mA:Str→Option Value}{name:Str}{v:Value}
theorem yi2 {M:Model}{o:Obj}{nameV:Value}{Q:Unit→Shared→Prop} (X:K.In h) (cx:qfm K C=true) (hx:h.get? x=some o) (hc:o.cls=.ref C) (hq:Q () ⟨h,g,d,t,os⟩) :
  wpAny M A (checkBuiltinCall "object.__setattr__" ⟨[.ref x,nameV,v],[]⟩) Q E ⟨h,g,d,t,os⟩:=by
 obtain ⟨nm,qn,N,bs,bm,sn,sub,ab,col,dd,k0,k1,k2,k3,k5,cC,T⟩:=ye7 X cx
 have SF:=PySem.F.store_ValueError
 have hob:(Value.ref C::bm).contains (.type "object")=true:=by rw[List.contains_cons,T.hasType SF.hasOwner,Bool.or_true]
 have hargs:=SF.args (.ref x) nameV v
 simp only[checkBuiltinCall,SF.kind,SF.split]
 refine wpAny_bind ?_
 unfold isInstance
 repeat (first|(with_reducible refine wpAny_loadPart_at hx ?_;rw[hc])|(with_reducible refine wpAny_isSubtype_exc cC ?_;rw[hob])|wp_step)
 exact hq
theorem ygu {tk:Tok}{Q:Fin→Shared→Prop}{ns:List Str} (X:K.In h) (cx:qfm K C=true) (hna:PySem.W.findIn K (.ref C) name=some none) (I:h.Inst x C mA)
  (hq:∀ h' tk',h'.Inst x C (fun y=>if y=name then some v else mA y)→
   (∀ b o,b≠x→(∀ o0 dx,h.get? x=some o0→o0.dict=some dx→b≠dx)→h.get? b=some o→h'.get? b=some o)→
   (∀ o0,h.get? x=some o0→∃ o1,h'.get? x=some o1∧o1.cls=o0.cls∧o1.data=o0.data∧(∀ dx,o0.dict=some dx→o1.dict=some dx)∧(o0.dict=none→o1.dict=some h.objs.size))→Q (.done (.ret .none)) ⟨h',g,d,tk',os⟩)
  (hw:Within mA ns) (hsz:ns.length+1≤sizeLine) :
  wpAny (model prog w) A (Builtin.«object.__setattr__» ⟨[.ref x,.str name tk,v],[]⟩) Q E ⟨h,g,d,t,os⟩:=by
 obtain ⟨nm,qn,N,bs,bm,sn,sub,ab,col,dd,k0,k1,k2,k3,k5,cC,T⟩:=ye7 X cx
 obtain ⟨o,hx,hc,hnc,hd⟩:=I
 have hpass:=yi3 T (.ref x)
 unfold Builtin.«object.__setattr__»
 repeat (first|rw[refuse_eq]|(rw[refuseLoop_ref,hpass])|(with_reducible refine wpAny_loadPart_at hx ?_;rw[hc])|with_reducible refine wpAny_mroOf_exc cC ?_|with_reducible refine (looks_findIn X hna).here ?_|wp_step)
 have put:∀ (dx:Addr) (h1:Heap) (mB:Str→Option Value) (ms:List Str),h1.Ns1 dx mB→Within mB ms→ms.length+1≤sizeLine→
   (∀ h' tk',h'.Ns1 dx (fun y=>if y=name then some v else mB y)→Heap.SameBut dx h1 h'→Q (.done (.ret .none)) ⟨h',g,d,tk',os⟩)→
   wpAny (model prog w) A (Builtin.ObjectAttr.storeInDict dx (.str name tk) name v) Q E ⟨h1,g,d,t,os⟩:=fun dx h1 mB ms n1 wi le fin=>by
  unfold Builtin.ObjectAttr.storeInDict Builtin.ObjectAttr.newKeyGuard
  refine wpAny_bind (wpAny_pure (wpAny_bind (wpAny_nsSet1 n1 fun h' n2 sb=>?_)))
  obtain ⟨oD,eD,pD,oE,dE,cE⟩:=n2.count (Within.cons name v wi)
  refine wpAny_bind (wpAny_lookBehind oE (by rw[dE];exact pastItsLine_dict (Nat.le_trans cE (by rw[List.length_cons];omega))) ?_)
  wp_walk
  exact fin h' _ n2 sb
 rcases hd with ⟨hdn,hmA⟩|⟨dx,hdx,hne,hns⟩
 ·rw[hdn]
  have hif:¬ ((!true || !typeHasDict (Value.ref C))=true):=by simp[typeHasDict]
  show wpAny _ _ (if (!true || !typeHasDict (Value.ref C))=true then _ else _) _ _ _
  rw[if_neg hif]
  have hxs:x≠h.objs.size:=Nat.ne_of_lt (Heap.lt_size hx)
  have px:(h.push { cls:=.type "dict",data:=.dict #[] }).get? x=some o:=Heap.get?_push_of_some _ hx
  split
  ·rename_i c hcd
   exact absurd hcd (hnc c)
  ·refine wpAny_bind (wpAny_alloc' (wpAny_bind (wpAny_update' px (wpAny_pure ?_))))
   have dg:((h.push { cls:=.type "dict",data:=.dict #[] }).update x fun o=>{ cls:=o.cls,dict:=some h.objs.size,data:=o.data,slots:=o.slots }).get? h.objs.size=some { cls:=.type "dict",data:=.dict #[] }:=
    (Heap.get?_update_ne _ _ _ _ hxs.symm).trans (Heap.get?_push_at rfl rfl)
   have dn:((h.push { cls:=.type "dict",data:=.dict #[] }).update x fun o=>{ cls:=o.cls,dict:=some h.objs.size,data:=o.data,slots:=o.slots }).Ns h.objs.size (fun _=>none):=
    ⟨_,#[],_,dg,rfl,(by intro e he;exact absurd he (by simp)),fun _=>rfl⟩
   refine put h.objs.size _ _ [] (Heap.Ns1.of_empty dn) Within.nil (by rw[sizeLine_eq];decide) fun h' tk' n2 sb=>?_
   have gx:h'.get? x=some { cls:=o.cls,dict:=some h.objs.size,data:=o.data,slots:=o.slots }:=by
    refine (sb.2 x hxs).trans (Heap.get?_update_self _ px ?_)
    have fr:=(Heap.get?_some_iff.mp hx).2
    obtain ⟨oc,od,odt,osl⟩:=o
    cases odt<;>first|rfl|exact fr
   refine hq h' tk' ⟨_,gx,hc,hnc,.inr ⟨h.objs.size,rfl,hxs.symm,?_⟩⟩ (fun b ob hbx _ hb=>?_) (fun o0 e0=>?_)
   ·have em:(fun y=>if y=name then some v else mA y)=(fun y=>if y=name then some v else (none:Option Value)):=by
     funext y
     by_cases hy:y=name
     ·simp[hy]
     ·simp[hy,hmA y]
    rw[em];exact n2
   ·exact (sb.2 b (Nat.ne_of_lt (Heap.lt_size hb))).trans ((Heap.get?_update_ne _ _ _ _ hbx).trans (Heap.get?_push_of_some _ hb))
   ·rw[hx] at e0;cases e0
    exact ⟨_,gx,rfl,rfl,(by intro dx e;rw[hdn] at e;cases e),fun _=>rfl⟩
 ·rw[hdx]
  refine wpAny_pure ?_
  refine put dx h mA ns hns hw hsz fun h' tk' n2 sb=>?_
  refine hq h' tk' ⟨o,(sb.2 x hne.symm).trans hx,hc,hnc,.inr ⟨dx,hdx,hne,n2⟩⟩ (fun b ob _ hbd hb=>(sb.2 b (hbd o dx hx hdx)).trans hb) (fun o0 e0=>⟨o0,(sb.2 x hne.symm).trans e0,rfl,rfl,fun _ e=>e,fun e=>?_⟩)
  rw[hx] at e0;cases e0
  rw[hdx] at e;cases e
theorem xc_store {Q:Unit→Shared→Prop}{ns:List Str} (X:K.In h) (cx:qfm K C=true) (hsa:PySem.W.findIn K (.ref C) "__setattr__" = some (some (.builtin "object.__setattr__"))) (hna:PySem.W.findIn K (.ref C) name=some none) (I:h.Inst x C mA)
  (hq:∀ h' tk',h'.Inst x C (fun y=>if y=name then some v else mA y)→
   (∀ b o,b≠x→(∀ o0 dx,h.get? x=some o0→o0.dict=some dx→b≠dx)→h.get? b=some o→h'.get? b=some o)→
   (∀ o0,h.get? x=some o0→∃ o1,h'.get? x=some o1∧o1.cls=o0.cls∧o1.data=o0.data∧(∀ dx,o0.dict=some dx→o1.dict=some dx)∧(o0.dict=none→o1.dict=some h.objs.size))→Q () ⟨h',g,d,tk',os⟩)
  (hw:Within mA ns) (hsz:ns.length+1≤sizeLine):wpAny (model prog w) A (setAttr (.ref x) name v) Q E ⟨h,g,d,t,os⟩:=by
 obtain ⟨o,hx,hc,_⟩:=id I
 have SF:=PySem.F.store_ValueError
 have b3:=SF.slot.bind (.ref x)
 unfold setAttr callSpecial? specialOf
 repeat (any_goals (first|assumption|(with_reducible refine wpAny_loadPart_at hx ?_;rw[hc])|with_reducible refine (looks_findIn X hsa).here ?_|wp_step))
 refine codeAny_call_builtin SF.slot.plain SF.entry (yi2 X cx hx hc (ygu X cx hna I (fun h' tk' I' hk hsame=>?_) hw hsz))
 repeat (any_goals (first|assumption|wp_step))
 exact hq h' tk' I' hk hsame
end
section
variable {prog:Program}{w:World}{A:Around}{E:Value→Shared→Prop}{h:Heap}{g:Array GenState}{d:Drawn}{t:Nat}{os:OsState}{K:PySem.W.Frag}{C x:Addr}{mA:Str→Option Value}{name:Str}{v:Value}
theorem yi1 {M:Model}{o:Obj}{nameV:Value}{Q:Unit→Shared→Prop} (X:K.In h) (cx:qfm K C=true) (hx:h.get? x=some o) (hc:o.cls=.ref C) (hq:Q () ⟨h,g,d,t,os⟩) :
  wpAny M A (checkBuiltinCall "BaseException.__getattribute__" ⟨[.ref x,nameV],[]⟩) Q E ⟨h,g,d,t,os⟩:=by
 obtain ⟨nm,qn,N,bs,bm,sn,sub,ab,col,dd,k0,k1,k2,k3,k5,cC,T⟩:=ye7 X cx
 have kd:builtinKind "BaseException.__getattribute__" = some .slot:=by decide +kernel
 have sp:splitId "BaseException.__getattribute__" = some ("BaseException","__getattribute__"):=by decide +kernel
 have hob:(Value.ref C::bm).contains (.type "BaseException")=true:=by rw[List.contains_cons,T.hasType PySem.F.excBase_ValueError.hasBase];rfl
 have ar:=PySem.F.args_bexc_ga (.ref x) nameV
 simp only[checkBuiltinCall,kd,sp]
 refine wpAny_bind ?_
 unfold isInstance
 repeat (first|(with_reducible refine wpAny_loadPart_at hx ?_;rw[hc])|(with_reducible refine wpAny_isSubtype_exc cC ?_;rw[hob])|wp_step)
 exact hq
end
structure XTy (K:PySem.W.Frag) (C:Addr):Prop where
 cx:qfm K C=true
 ga:PySem.W.findIn K (.ref C) "__getattribute__" = some (some (.builtin "BaseException.__getattribute__"))
 gh:PySem.W.findIn K (.ref C) "__getattr__" = some none
 hc:(PySem.W.clsIn K C).isSome=true
 ha:PySem.W.findIn K (.ref C) "__class__" = some (some (.builtin "object.__class__"))
 hn:PySem.W.specialIn K (.builtin "object.__class__") "__get__" = some (some (.builtin "getset_descriptor.__get__"))
 tk:PySem.W.takesIn K (.builtin "object.__class__")=some true
 hm:PySem.W.mroIn K C (.type "object")=some true
section
variable {prog:Program}{w:World}{A:Around}{E:Value→Shared→Prop}{s:Shared}{K:PySem.W.Frag}{x C:Addr}{ox:Obj}{od:Option Obj}
theorem XTy.find (T:XTy K C):PySem.W.findObj K C od "__class__" = some (.bind (.builtin "getset_descriptor.__get__") (.builtin "object.__class__")):=by
 obtain ⟨cd,hc⟩:=Option.isSome_iff_exists.mp T.hc
 unfold PySem.W.findObj
 rw[hc,Option.bind_some,T.ha,Option.bind_some]
 simp[T.hn,T.tk]
theorem xc_class {Q:Option Value→Shared→Prop} (X:K.In s.heap) (T:XTy K C) (I:PySem.W.InstAt s.heap x ox C od) (q:Q (some (.ref C)) { s with toks:=s.toks+1 }):wpAny (model prog w) A (getAttr? (.ref x) "__class__") Q E s:=by
 obtain ⟨h,g,d,t,os⟩:=s
 replace X:K.In h:=X
 replace I:PySem.W.InstAt h x ox C od:=I
 have FV:=PySem.F.excAttr_ValueError
 have q3:=FV.ga.bind (.ref x)
 have e0:(false&&onTheHeap (Value.builtin "BaseException.__getattribute__"))=false:=rfl
 have hx:=I.at_
 have hc:=I.cls
 have e2:(Value.builtin "BaseException.__getattribute__" == Value.builtin "object.__getattribute__")=false:=by decide +kernel
 have e1:(onTheHeap (Value.ref C)&&Value.builtin "BaseException.__getattribute__" == Value.builtin "object.__getattribute__")=false:=by rw[e2];rfl
 unfold getAttr? getAttrBy? getAttrBy
 repeat (any_goals (first|assumption|(with_reducible refine wpAny_loadPart_at hx ?_;rw[hc])|with_reducible refine (looks_findIn X T.ga).here ?_|with_reducible refine (looks_findIn X T.gh).here ?_|wp_step))
 refine codeAny_call_builtin FV.ga.plain PySem.F.entry_bexc_ga (yi1 X T.cx hx hc ?_)
 unfold Builtin.«object.__getattribute__»
 repeat (any_goals (first|assumption|(with_reducible refine wpAny_loadPart_at hx ?_;rw[hc])|with_reducible refine (looks_find X I T.find).here ?_|wp_step))
 refine class_get (s:=⟨h,g,d,t+1,os⟩) X I T.hm ?_
 show wpAny _ _ (ret (.ref C)) _ _ _
 refine wpAny_pure ?_
 show wpAny _ _ (handedOut (.ref C)) _ _ _
 exact handed_on rfl (wpAny_pure q)
theorem kitx_xc (T:XTy K C):KitX K (.ref x) (.ref C) (fun h=>∃ ox od,PySem.W.InstAt h x ox C od) where
 ty:=fun _ _ _ ⟨_,_,I⟩=>I.type
 it:=fun _ _ X _=>by
  obtain ⟨cd,hc⟩:=Option.isSome_iff_exists.mp T.hc
  unfold PySem.W.clsIn at hc
  split at hc
  ·rename_i c' d' cd' sl' ho
   intro A' Q' E' s' k q
   unfold isType loadHead
   exact wpAny_bind (wpAny_loadPart (k _ _ (X _ _ ho)) (wpAny_pure q))
  ·cases hc
 ne:=fun h tp dd its n sl X htp=>by
  obtain ⟨cd,hc⟩:=Option.isSome_iff_exists.mp T.hc
  refine Bool.eq_false_iff.mpr fun q=>?_
  have e:C=tp:=Value.ref.inj (beq_iff_eq.mp q)
  subst e
  unfold PySem.W.clsIn at hc
  split at hc
  ·rename_i c' d' cd' sl' ho
   have z:=(X _ _ ho).symm.trans htp
   cases z
  ·cases hc
 ca:=fun X ⟨_,_,I⟩ k=>xc_class X T I k
end
section
variable {X:Cx}{pins:List (Addr×Obj)}{σ:St}{H:Hp}{s:Shared}{h':Heap}{a d:Addr}{oA oD:HO}
theorem Inv.two {t':Nat} (I:Inv X pins σ H s) (ma:Mut (H a)) (md:Mut (H d)∨s.heap.objs.size≤d) (hne:d≠a) (k:∀ b u,b≠a→b≠d→s.heap.get? b=some u→h'.get? b=some u) (ta:∃ u,h'.get? a=some u) (td:∃ u,h'.get? d=some u)
  (na:ybq X.prog X.w (upd (upd H d oD) a oA) h' a oA) (nd:ybq X.prog X.w (upd (upd H d oD) a oA) h' d oD):Inv X pins σ (upd (upd H d oD) a oA) { s with heap:=h',toks:=t' }:=by
 have up:∀ b,b≠a→b≠d→upd (upd H d oD) a oA b=H b:=fun b h1 h2=>by rw[yai h1,yai h2]
 have na0:∀ b,H b=none→b≠a:=fun b n z=>by subst z;rw[n] at ma;exact ma
 have nd0:∀ b u,s.heap.get? b=some u→H b=none→b≠d:=fun b u e n z=>by
  subst z
  rcases md with md|md
  ·rw[n] at md;exact md
  ·exact absurd (Nat.lt_of_lt_of_le (Heap.lt_size e) md) (Nat.lt_irrefl _)
 have ms:∀ b u,H b=some u→¬ Mut (some u)→b≠a∧b≠d:=fun b u e nm=>by
  refine ⟨?_,?_⟩
  ·rintro rfl;rw[e] at ma;exact nm ma
  ·rintro rfl
   rcases md with md|md
   ·rw[e] at md;exact nm md
   ·have:=I.hok.fresh md;rw[e] at this;cases this
 refine I.un ⟨fun b u e n _ _=>k b u (na0 b n) (nd0 b u e n) e,fun b u e n _ _=>⟨u.slots,k b u (na0 b n) (nd0 b u e n) e⟩,fun b u e n _=>by rw[up b (na0 b n) (nd0 b u e n)];exact n,fun b u e _=>?_,
  fun b xs e=>?_,fun b u xs e=>?_,fun b ps e=>⟨#[],?_⟩⟩ (fun b u e=>?_)
 ·by_cases h1:b=a
  ·subst h1;exact ta
  ·by_cases h2:b=d
   ·subst h2;exact td
   ·exact ⟨u,k b u h1 h2 e⟩
 ·obtain ⟨h1,h2⟩:=ms b _ e fun z=>z
  rw[up b h1 h2];exact e
 ·obtain ⟨h1,h2⟩:=ms b _ e fun z=>z
  rw[up b h1 h2];exact e
 ·obtain ⟨h1,h2⟩:=ms b _ e fun z=>z
  rw[up b h1 h2,e];simp
 ·by_cases h1:b=a
  ·subst h1;rw[yaa] at e;cases e;exact na
  ·by_cases h2:b=d
   ·subst h2;rw[yai h1,yaa] at e;cases e;exact nd
   ·rw[up b h1 h2] at e
    refine (I.hok b u e).stay (fun c v hc q=>?_) (fun c q=>?_) fun c xs q=>?_
    ·rcases hc with rfl|hc
     ·exact k _ _ h1 h2 q
     ·obtain ⟨h3,h4⟩:=ms c _ hc fun z=>z
      exact k _ _ h3 h4 q
    ·obtain ⟨h3,h4⟩:=ms c _ q fun z=>z
     rw[up c h3 h4];exact q
    ·obtain ⟨h3,h4⟩:=ms c _ q fun z=>z
     rw[up c h3 h4];exact q
noncomputable def yck (a C:Addr) (dx:Option Addr):Heap→Prop:=fun h=>∃ o vs,h.get? a=some o∧o.cls=.ref C∧o.dict=dx∧o.data=.fields vs
noncomputable def yb8 (a C:Addr) (dx:Option Addr):Heap→Prop:=fun h=>∃ o vs,h.get? a=some o∧o.cls=.ref C∧o.dict=dx∧o.data=.fields vs∧vs[1]?=some .none
theorem yb8.q {a C:Addr}{dx:Option Addr}{h:Heap} (x:yb8 a C dx h):yck a C dx h:=by
 obtain ⟨o,vs,e,c,d,dt,_⟩:=x
 exact ⟨o,vs,e,c,d,dt⟩
noncomputable def qhf (a d:Addr) (fs:List (Str×V)):Heap→Prop:=fun h=>d≠a∧fs.length≤100∧∃ mA,h.Ns1 d mA∧(∀ f,RelO (fs.lookup f) (mA f))∧PySem.Within mA (fs.map (·.1))
noncomputable def XAt (H:Hp) (a C:Addr) (fs:List (Str×V)):Prop:=(fs=[]∧H a=some (.ext (yb8 a C none)))∨(∃ d,H a=some (.ext (yb8 a C (some d)))∧H d=some (.ext (qhf a d fs)))∨
 (fs=[]∧H a=some (.ext (yck a C none)))∨(∃ d,H a=some (.ext (yck a C (some d)))∧H d=some (.ext (qhf a d fs)))
theorem XAt.obj {P:Program}{w:World}{H:Hp}{h:Heap}{a C:Addr}{fs:List (Str×V)} (ok:HOk P w H h) (x:XAt H a C fs):(fs=[]∧yck a C none h)∨∃ d,yck a C (some d) h∧qhf a d fs h:=by
 rcases x with ⟨e,h1⟩|⟨d,h1,h2⟩|⟨e,h1⟩|⟨d,h1,h2⟩
 ·exact .inl ⟨e,(ok a _ h1).1.q⟩
 ·exact .inr ⟨d,(ok a _ h1).1.q,(ok d _ h2).1⟩
 ·exact .inl ⟨e,(ok a _ h1).1⟩
 ·exact .inr ⟨d,(ok a _ h1).1,(ok d _ h2).1⟩
theorem yjg {P:Program}{w:World}{H:Hp}{h:Heap}{a C:Addr}{dx:Option Addr} (x:yck a C dx h):ybq P w H h a (.ext (yck a C dx)):=by
 obtain ⟨o,vs,e,r⟩:=x
 exact ⟨⟨o,vs,e,r⟩,⟨o,e⟩,fun h1 h2 ⟨o,vs,e,r⟩ k=>⟨o,vs,k o e,r⟩⟩
theorem qja {P:Program}{w:World}{H:Hp}{h:Heap}{a C:Addr}{dx:Option Addr} (x:yb8 a C dx h):ybq P w H h a (.ext (yb8 a C dx)):=by
 obtain ⟨o,vs,e,r⟩:=x
 exact ⟨⟨o,vs,e,r⟩,⟨o,e⟩,fun h1 h2 ⟨o,vs,e,r⟩ k=>⟨o,vs,k o e,r⟩⟩
theorem qk0 {P:Program}{w:World}{H:Hp}{h:Heap}{a d:Addr}{fs:List (Str×V)} (x:qhf a d fs h):ybq P w H h d (.ext (qhf a d fs)):=by
 obtain ⟨n,l,mA,⟨o,es,ep,e,r⟩,r2⟩:=id x
 exact ⟨x,⟨o,e⟩,fun h1 h2 ⟨n,l,mA,⟨o,es,ep,e,r⟩,r2⟩ k=>⟨n,l,mA,⟨o,es,ep,k o e,r⟩,r2⟩⟩
theorem XAt.inst {C:Addr}{fs:List (Str×V)} (x:XAt H a C fs) (I:Inv X pins σ H s):∃ mA,s.heap.Inst a C mA∧(∀ f,RelO (fs.lookup f) (mA f))∧PySem.Within mA (fs.map (·.1))∧fs.length≤100:=by
 rcases x.obj I.hok with ⟨rfl,o,vs,e,c,dn,dt⟩|⟨d,⟨o,vs,e,c,dn,dt⟩,n,l,mA,n1,r,wi⟩
 ·exact ⟨fun _=>none,⟨o,e,c,(by intro c z;rw[dt] at z;cases z),.inl ⟨dn,fun _=>rfl⟩⟩,fun f=>trivial,PySem.Within.nil,by simp⟩
 ·exact ⟨mA,⟨o,e,c,(by intro c z;rw[dt] at z;cases z),.inr ⟨d,dn,n,n1⟩⟩,r,wi,l⟩
end
theorem XAt.same {H H':Hp}{a C:Addr}{fs:List (Str×V)} (s:∀ b o,H b=some o→H' b=some o) (x:XAt H a C fs):XAt H' a C fs:=by
 rcases x with ⟨e,h1⟩|⟨d,h1,h2⟩|⟨e,h1⟩|⟨d,h1,h2⟩
 ·exact .inl ⟨e,s _ _ h1⟩
 ·exact .inr (.inl ⟨d,s _ _ h1,s _ _ h2⟩)
 ·exact .inr (.inr (.inl ⟨e,s _ _ h1⟩))
 ·exact .inr (.inr (.inr ⟨d,s _ _ h1,s _ _ h2⟩))
structure XOk (K:PySem.W.Frag) (C:Addr):Prop extends XTy K C where
 sa:PySem.W.findIn K (.ref C) "__setattr__" = some (some (.builtin "object.__setattr__"))
noncomputable def NoF (K:PySem.W.Frag) (C:Addr) (f:Str):Prop:=PySem.W.findIn K (.ref C) f=some none
noncomputable def XD (H:Hp) (a C:Addr) (dx:Option Addr) (fs:List (Str×V)):Prop:=(dx=none∧fs=[]∧H a=some (.ext (yb8 a C none)))∨∃ d,dx=some d∧H a=some (.ext (yb8 a C (some d)))∧H d=some (.ext (qhf a d fs))
theorem XD.xat {H:Hp}{a C:Addr}{dx:Option Addr}{fs:List (Str×V)} (x:XD H a C dx fs):XAt H a C fs:=by
 rcases x with ⟨_,e,h⟩|⟨d,_,h1,h2⟩
 ·exact .inl ⟨e,h⟩
 ·exact .inr (.inl ⟨d,h1,h2⟩)
structure SetX (a d:Addr) (dx:Option Addr) (H H':Hp):Prop where
 dd:dx=some d∨(dx=none∧H d=none)
 kp:∀ b o,H b=some o→b≠a→b≠d→H' b=some o
section
variable {X:Cx}{pins:List (Addr×Obj)}{σ:St}{H:Hp}{s:Shared}{a C:Addr}{dx:Option Addr}{fs:List (Str×V)}{f:Str}{v:V}{u:Value}
theorem qmn {d:Addr}{h':Heap}{mA:Str→Option Value} (hne:d≠a) (hl:fs.length<100) (n1:h'.Ns1 d fun y=>if y=f then some u else mA y) (r:∀ g,RelO (fs.lookup g) (mA g)) (wi:PySem.Within mA (fs.map (·.1))) (rv:RelV v u):qhf a d (putF f v fs) h':=by
 refine ⟨hne,by have:=yea f v fs;omega,_,n1,fun g=>?_,fun g hg=>?_⟩
 ·rw[yeb]
  by_cases q:g=f
  ·simp only[q,if_true];exact rv
  ·simp only[q,if_false];exact r g
 ·by_cases q:g=f
  ·subst q;exact (qdo g v fs).1
  ·exact (qdo f v fs).2 g (wi g fun z=>hg (by simp only[q,if_false];exact z))
theorem setx_ok {E:Value→Shared→Prop}{Q:Unit→Shared→Prop} (I:Inv X pins σ H s) (x:XD H a C dx fs) (c:XOk X.K C) (n:NoF X.K C f) (hl:fs.length<100) (rv:RelV v u)
  (k:∀ d H' s',Inv X pins σ H' s'→XD H' a C (some d) (putF f v fs)→SetX a d dx H H'→Q () s'):wpAny (model X.prog X.w) X.A (setAttr (.ref a) f u) Q E s:=by
 obtain ⟨mA,inst,r,wi,l⟩:=x.xat.inst I
 have kin:=I.kIn
 obtain ⟨hh,g,dr,t,os⟩:=s
 refine xc_store kin c.cx c.sa n inst (fun h' tk' inst' keep same=>?_) wi (by rw[List.length_map,sizeLine_eq];omega)
 rcases x with ⟨rfl,rfl,h1⟩|⟨d,rfl,h1,h2⟩
 ·obtain ⟨⟨o,vs,e,cc,dn,dt,rw1⟩,_⟩:=I.hok a _ h1
  obtain ⟨o1,e1,c1,d1,_,dd1⟩:=same o e
  have dd:=dd1 dn
  obtain ⟨o2,e2,_,_,⟨z,_⟩|⟨d2,z,ne2,n2⟩⟩:=inst'
  ·rw[e1] at e2;cases e2;rw[dd] at z;cases z
  ·rw[e1] at e2;cases e2
   rw[dd] at z;cases z
   have fr:H hh.objs.size=none:=I.hok.fresh (Nat.le_refl _)
   have px:=qmn (a:=a) (v:=v) ne2 hl n2 r wi rv
   have po:yb8 a C (some hh.objs.size) h':=⟨o1,vs,e1,c1.trans cc,dd,d1.trans dt,rw1⟩
   refine k hh.objs.size (upd (upd H hh.objs.size (.ext (qhf a hh.objs.size (putF f v [])))) a (.ext (yb8 a C (some hh.objs.size)))) _ (Inv.two I (by rw[h1];exact True.intro) (.inr (Nat.le_refl _)) ne2 (fun b ob hb hb2 q=>keep b ob hb (fun o0 dx q0 q1=>?_) q) ⟨_,e1⟩ (let ⟨o,_,_,q,_⟩:=n2;⟨o,q⟩) (qja po) (qk0 px)) (.inr ⟨_,rfl,yaa,by rw[yai ne2];exact yaa⟩) ⟨.inr ⟨rfl,fr⟩,fun b o hb hba _=>?_⟩
   ·have q0':hh.get? a=some o0:=q0
    have e':hh.get? a=some o:=e
    rw[e'] at q0';cases q0'
    rw[dn] at q1;cases q1
   ·rw[yai hba,yai (yae hb fr)];exact hb
 ·obtain ⟨⟨o,vs,e,cc,dn,dt,rw1⟩,_⟩:=I.hok a _ h1
  obtain ⟨o1,e1,c1,d1,dd1,_⟩:=same o e
  have dd:=dd1 d dn
  obtain ⟨⟨ne0,_⟩,_⟩:=I.hok d _ h2
  obtain ⟨o2,e2,_,_,⟨z,_⟩|⟨d2,z,ne2,n2⟩⟩:=inst'
  ·rw[e1] at e2;cases e2;rw[dd] at z;cases z
  ·rw[e1] at e2;cases e2
   rw[dd] at z;cases z
   have px:=qmn (a:=a) (v:=v) ne2 hl n2 r wi rv
   have po:yb8 a C (some d) h':=⟨o1,vs,e1,c1.trans cc,dd,d1.trans dt,rw1⟩
   refine k d (upd (upd H d (.ext (qhf a d (putF f v fs)))) a (.ext (yb8 a C (some d)))) _ (Inv.two I (by rw[h1];exact True.intro) (.inl (by rw[h2];exact True.intro)) ne2 (fun b ob hb hb2 q=>keep b ob hb (fun o0 dx q0 q1=>?_) q) ⟨_,e1⟩ (let ⟨o,_,_,q,_⟩:=n2;⟨o,q⟩) (qja po) (qk0 px)) (.inr ⟨_,rfl,yaa,by rw[yai ne2];exact yaa⟩) ⟨.inl rfl,fun b o hb hba hbd=>?_⟩
   ·have q0':hh.get? a=some o0:=q0
    have e':hh.get? a=some o:=e
    rw[e'] at q0';cases q0'
    rw[dn] at q1;cases q1
    exact hb2
   ·rw[yai hba,yai hbd];exact hb
variable {o e value:Expr}{pos pos' p:Pos}{ta tv:TE}
noncomputable def sXFld (K:PySem.W.Frag) (ta tv:TE) (f:Str):TS:=fun D σ H=>tv σ H fun y H1=>ta σ H1 fun x H2=>∃ a C dx fs,x=.ref a∧XD H2 a C dx fs∧XOk K C∧NoF K C f∧fs.length<100∧∀ d H3,XD H3 a C (some d) (putF f y fs)→SetX a d dx H2 H3→D.nx σ H3
theorem yjd (ha:PE X o ta) (hv:PE X value tv) (hs:swapsWith value (some (.Attribute o f pos')) pos.line X.env=pure false:=by rfl):PS X (.Assign [.Attribute o f pos'] value pos) (sXFld X.K ta tv f):=by
 intro pins s σ H D I h
 refine plainObj_wpAny_Assign_Attribute (thn (hv pins s σ H _ I h) fun u s1 ⟨y,H1,I1,ry,q⟩=>thn (ha pins s1 σ H1 _ I1 q) fun ov s2 ⟨x,H2,I2,rx,a,C,dx,fs,ex,ea,c,n,l,q2⟩=>?_) hs
 subst ex
 obtain rfl:ov=Value.ref a:=rx
 exact setx_ok I2 ea c n l ry fun d H3 s3 I3 x3 sm=>⟨σ,H3,I3,q2 d H3 x3 sm⟩
end
theorem ybq.ex {P:Program}{w:World}{H:Hp}{h:Heap}{a:Addr}{o:HO} (x:ybq P w H h a o):∃ u,h.get? a=some u:=by
 cases o with
 | lst xs=>obtain ⟨_,_,_,_,e⟩:=x;exact ⟨_,e⟩
 | tup xs=>obtain ⟨_,_,_,ob,e,_⟩:=x;exact ⟨_,e⟩
 | dK kvs=>obtain ⟨_,_,_,_,o,_,_,e,_⟩:=x;exact ⟨_,e⟩
 | dT kvs=>obtain ⟨_,_,_,_,o,_,_,e,_⟩:=x;exact ⟨_,e⟩
 | set S n=>obtain ⟨o,_,_,_,e,_⟩:=x;exact ⟨_,e⟩
 | ins C dx fs=>obtain ⟨_,_,_,e,_⟩:=x;exact ⟨_,e⟩
 | own y=>exact x
 | xd fs=>obtain ⟨_,⟨_,_,_,e,_⟩,_⟩:=x;exact ⟨_,e⟩
 | rng lo hi=>obtain ⟨_,_,_,e⟩:=x;exact ⟨_,e⟩
 | frz ob u=>obtain ⟨e,_⟩:=x;exact ⟨_,e⟩
 | tbl ps=>exact ⟨_,show h.get? a=some _ from x⟩
 | met f y=>exact ⟨_,show h.get? a=some _ from x⟩
 | ext φ=>exact x.2.1
section
variable {X:Cx}{pins:List (Addr×Obj)}{σ:St}{H:Hp}{s:Shared}{h':Heap}{a C:Addr}{oA:HO}
theorem Inv.laidN {t':Nat} (I:Inv X pins σ H s) (k:∀ b u,s.heap.get? b=some u→h'.get? b=some u) (hn:s.heap.get? a=none) (new:ybq X.prog X.w (upd H a oA) h' a oA):H a=none∧Inv X pins σ (upd H a oA) { s with heap:=h',toks:=t' }:=by
 have hH:H a=none:=by
  cases q:H a with
  | none=>rfl
  | some u=>obtain ⟨w,e⟩:=(I.hok a u q).ex;rw[hn] at e;cases e
 have nb:∀ b u,s.heap.get? b=some u→b≠a:=fun b u e z=>by rw[z,hn] at e;cases e
 refine ⟨hH,I.un ⟨fun b u e _ _ _=>k b u e,fun b u e _ _ _=>⟨u.slots,k b u e⟩,fun b u e n _=>by rw[yai (nb b u e)];exact n,fun b u e _=>⟨u,k b u e⟩,fun b xs e=>by rw[yai (yae e hH)];exact e,
  fun b u xs e=>by rw[yai (yae e hH)];exact e,fun b ps e=>⟨#[],by rw[yai (yae e hH),e];simp⟩⟩ fun b u e=>?_⟩
 by_cases hb:b=a
 ·subst hb;rw[yaa] at e;cases e;exact new
 ·rw[yai hb] at e
  exact (I.hok b u e).stay (fun c v _ q=>k c v q) (fun c q=>by rw[yai (yae q hH)];exact q) fun c xs q=>by rw[yai (yae q hH)];exact q
theorem Inv.madeX {rest:List Value}{t':Nat} (I:Inv X pins σ H s) (m:Heap.MadeExcOf s.heap h' a (.ref C) rest):H a=none∧Inv X pins σ (upd H a (.ext (yb8 a C none))) { s with heap:=h',toks:=t' }:=by
 obtain ⟨tt,e,_⟩:=m.there
 exact I.laidN m.keeps m.new (qja ⟨_,_,e,rfl,rfl,rfl,rfl⟩)
variable {x:Str}{e:Expr}{es:List Expr}{p pos:Pos}{t:TA}
noncomputable def qk7 (C:Addr) (t:TA):TE:=fun σ H Q=>t σ H fun vs H1=>vs.length≤sizeLine∧∀ a,H1 a=none→Q (.ref a) (upd H1 a (.ext (yb8 a C none)))
theorem qma (q:PySem.W.excIn X.K C bmV "ValueError.__new__" = true) (kp:PySem.W.keepIn X.K (.ref C)=true) (hg:Gl X x) (hm:X.mg x=some (.ref C)) (ha:PA X (e::es) t) (hdb:(x == ("__debug__" : Str))=false:=by decide)
  (he:starEach (e::es) X.env=(false,eval e X.env)::starEach es X.env:=by rfl) (hpl:(backTo pos (starEach es X.env)).any (·.1)=false:=by rfl):PE X (.Call (.Name x p) (e::es) [] pos) (qk7 C t):=by
 intro pins s σ H Q I h
 refine wpAny_Call_Name_kw (yd8 I hg hm ?_ hdb)
 refine PySem.W.callWith_K (h₀:=X.base) I.ok.mod.kin kp (thn (ha pos pins s σ H _ I h) fun us s1 ⟨vs,H1,I1,r,hl,hq⟩=>⟨I1.kIn,?_⟩) he hpl
 have kin:=I1.kIn
 obtain ⟨hh,g,dr,tk,os⟩:=s1
 refine xc_call0 kin q (fun h2 a m=>?_) (by rw[List.nil_append,← r.length];exact hl)
 obtain ⟨hn,I2⟩:=Inv.madeX (t':=tk) I1 m
 exact ⟨.ref a,_,I2,rfl,hq a hn⟩
variable {k:Nat}{f:Addr}{fd:FuncData}{ps:List Str}{sp:Sp}
noncomputable def tXMake (C:Addr) (sp:Sp) (t:TA):TE:=fun σ H Q=>t σ H fun vs H1=>vs.length≤sizeLine∧∀ a,H1 a=none→sp (.ref a::vs) (upd H1 a (.ext (yb8 a C none))) (fun v H2=>v=.non∧Q (.ref a) H2) E0
theorem pe_xmake (c:XOk X.K C) (hi:PySem.W.findIn X.K (.ref C) "__init__" = some (some (.ref f))) (hf:PySem.W.isFn X.K (.ref f)=true) (F:FnOk X.prog X.w X.K X.mg X.base CX0 k f fd ps sp) (hr:Room (k+1) X.A) (hb:qcu X.K fd ps []) (kp:PySem.W.keepIn X.K (.ref C)=true)
  (hg:Gl X x) (hm:X.mg x=some (.ref C)) (ha:PA X (e::es) t) (hdb:(x == ("__debug__" : Str))=false:=by decide)
  (he:starEach (e::es) X.env=(false,eval e X.env)::starEach es X.env:=by rfl) (hpl:(backTo pos (starEach es X.env)).any (·.1)=false:=by rfl):PE X (.Call (.Name x p) (e::es) [] pos) (tXMake C sp t):=by
 intro pins s σ H Q I h
 refine wpAny_Call_Name_kw (yd8 I hg hm ?_ hdb)
 refine PySem.W.callWith_K (h₀:=X.base) I.ok.mod.kin kp (thn (ha pos pins s σ H _ I h) fun us s1 ⟨vs,H1,I1,r,hl,hq⟩=>⟨I1.kIn,?_⟩) he hpl
 have kin:=I1.kIn
 obtain ⟨hh,g,dr,tk,os⟩:=s1
 refine xc_call kin c.cx hi hf (fun h2 a m=>?_) (by rw[List.nil_append,← r.length];exact hl)
 obtain ⟨hn,I2⟩:=Inv.madeX (t':=tk) I1 m
 have hsp:=hq a hn
 have r2:Vals (V.ref a::vs) (Value.ref a::us):=.cons rfl r
 have hlen:(Value.ref a::us).length=ps.length:=by rw[← r2.length];exact F.len _ _ _ _ hsp
 have hlen2:((Value.ref a::us)++[]).length=ps.length:=by rw[List.append_nil];exact hlen
 have bb:=hb _ (Value.ref a::us) I2.kIn hlen2
 rw[List.append_nil] at bb
 refine wpAny_call (codeAny_mono (F.run _ X.stack _ _ ⟨Value.ref a::us,[]⟩ (Value.ref a::us) _ _ E0 (hr.make C us []) (I2.env0.make C us []) bb r2 hsp) fun r s' hq'=>?_)
 cases r with
 | error e=>exact hq'.elim
 | ok fl=>
  cases fl with
  | ret u=>
   obtain ⟨v,H',I3,rv,ev,q3⟩:=I2.after hq'
   subst ev
   exact ⟨rv,⟨V.ref a,H',I3,rfl,q3⟩⟩
  | next=>exact False.elim hq'
  | brk=>exact False.elim hq'
  | cont=>exact False.elim hq'
theorem XAt.at {fs:List (Str×V)} (x:XAt H a C fs) (I:Inv X pins σ H s):∃ ox od,PySem.W.InstAt s.heap a ox C od:=by
 rcases x.obj I.hok with ⟨rfl,o,vs,e,c,dn,dt⟩|⟨d,⟨o,vs,e,c,dn,dt⟩,n,l,mA,⟨od,_,_,ed,_⟩,r,wi⟩
 ·exact ⟨o,none,e,c,by unfold PySem.W.notCls;rw[dt],by rw[dn];trivial⟩
 ·exact ⟨o,some od,e,c,by unfold PySem.W.notCls;rw[dt],by rw[dn];exact ed⟩
noncomputable def vcls:V→Value
 | .ref c=>.ref c
 | .ty n=>.type n
 | _=>.none
noncomputable def rIsiX (K:PySem.W.Frag):List V→Hp→VK→Prop:=fun xs H Q=>∃ a C fs c b,xs=[.ref a,c]∧((∃ d,c=.ref d)∨∃ n,c=.ty n)∧XAt H a C fs∧XTy K C∧PySem.W.kitOne K (.ref C) (vcls c)=some b∧Q (.bl b) H
theorem qa5:yc1 X (.builtin "isinstance") (rIsiX X.K):=by
 intro pins s σ H xs us Q I r h
 obtain ⟨a,C,fs,c,b,rfl,hc,hx,T,hk,q⟩:=h
 cases r with
 | cons r rr=>
  cases rr with
  | cons r' rr=>
   cases rr
   cases r
   have hcv:∃ cv,vcls c=cv∧RelV c cv:=by
    rcases hc with ⟨d,rfl⟩|⟨n,rfl⟩
    ·exact ⟨_,rfl,rfl⟩
    ·exact ⟨_,rfl,rfl⟩
   obtain ⟨cv,e1,e2⟩:=hcv
   rw[e1] at hk
   rename_i u2
   have e3:u2=cv:=by
    rcases hc with ⟨d,rfl⟩|⟨n,rfl⟩
    ·exact (show u2=Value.ref d from r').trans (show cv=Value.ref d from e2).symm
    ·exact (show u2=Value.type n from r').trans (show cv=Value.type n from e2).symm
   subst e3
   exact PySem.W.kia_one (kitx_xc T) I.kIn (hx.at I) hk (fun z=>nomatch z) fun tk=>⟨.bl b,H,I.tok _,rfl,q⟩
end
end L2
namespace L2
open PySem PySem.Spec PyProof.Rows
theorem Vals.bls:∀ {bs:List Bool}{us:List Value},Vals (bs.map V.bl) us→us=bs.map Value.bool
 | [],_,.nil=>rfl
 | b::bs,_,.cons r t=>by
  have e:=Vals.bls t
  cases r
  rw[e]
  rfl
noncomputable def isB (b:Bool):Value→Bool
 | .bool c=>c == b
 | _=>false
theorem qlm (b:Bool) (bs:List Bool):(bs.map Value.bool).countP (isB b)=bs.count b:=by
 rw[List.countP_map]
 rfl
theorem isB_at {A:Around}{s:Shared} (b:Bool) (bs:List Bool):∀ y,y∈(bs.map Value.bool).toArray→SeqAt.EqAt A s y (.bool b) (isB b y):=by
 intro y hy
 obtain ⟨c,_,e⟩:=List.mem_map.mp (by simpa using hy:y∈bs.map Value.bool)
 subst e
 exact SeqAt.EqAt.bool_bool c b
section
variable {X:Cx}
noncomputable def rCountB:V→List V→Hp→VK→Prop:=fun x vs H Q=>∃ (l:Addr) (bs:List Bool) (b:Bool),x=.ref l∧vs=[.bl b]∧H l=some (.lst (bs.map V.bl))∧Q (.int (bs.count b:Nat)) H
theorem qk9:MtM X "list.count" rCountB:=by
 intro pins s σ H x vs v us Q I rx rv h
 obtain ⟨l,bs,b,rfl,rfl,hH,q⟩:=h
 cases rx
 obtain ⟨u,rfl,ru⟩:=rv.one
 cases ru
 obtain ⟨z,its,n,r,hl,e⟩:=I.lstM hH
 have hi:=r.bls
 subst hi
 refine call_meets F.slot_list_count ⟨_,e,rfl⟩ F.entry_list_count (F.args_list_count_2 _ _) (SeqAt.list_countAt l _ n _ _ (.bool b) (isB b)) ⟨e,isB_at b bs,?_⟩
 rw[List.toList_toArray,qlm]
 exact ⟨.int (bs.count b:Nat),_,I.tok _,⟨_,rfl⟩,q⟩
noncomputable def rIndexB:V→List V→Hp→VK→Prop:=fun x vs H Q=>∃ (l:Addr) (bs:List Bool) (b:Bool) (j:Nat),x=.ref l∧vs=[.bl b]∧H l=some (.lst (bs.map V.bl))∧bs[j]?=some b∧(∀ m,m<j→bs[m]?≠some b)∧Q (.int (j:Nat)) H
theorem qmc:MtM X "list.index" rIndexB:=by
 intro pins s σ H x vs v us Q I rx rv h
 obtain ⟨l,bs,b,j,rfl,rfl,hH,hj,hno,q⟩:=h
 cases rx
 obtain ⟨u,rfl,ru⟩:=rv.one
 cases ru
 obtain ⟨z,its,n,r,hl,e⟩:=I.lstM hH
 have hi:=r.bls
 subst hi
 obtain ⟨hjl,hjb⟩:=List.getElem?_eq_some_iff.mp hj
 rw[List.length_map] at z
 have hz:(sizeLine:Nat)<2 ^ 63-1:=by decide
 refine call_meets F.slot_list_index ⟨_,e,rfl⟩ F.entry_list_index (F.args_list_index_2 _ _)
  (SeqAt.list_indexAt l _ n _ _ (.bool b) (isB b) j (by rw[List.size_toArray,List.length_map];exact hjl) (by omega) ?_ fun m hm hlt=>?_) ⟨e,isB_at b bs,⟨.int (j:Nat),_,I.tok _,⟨_,rfl⟩,q⟩⟩
 ·rw[List.getElem_toArray,List.getElem_map]
  show (bs[j] == b)=true
  rw[hjb]
  exact beq_self_eq_true b
 ·rw[List.getElem_toArray,List.getElem_map]
  show (bs[m] == b)=false
  refine beq_eq_false_iff_ne.mpr fun q=>hno m hlt ?_
  rw[List.getElem?_eq_getElem (by omega),q]
end
end L2
namespace Mx
open PySem L2 PyProof.Rows
section
variable {X:Cx}{es:List Expr}{te:TE}{t:TA}{pos:Pos}
theorem pa_cs {k:Const}{j} (ha:PE X (.Constant k j pos) te) (hr:PA X es t):PA X (.Constant k j pos::es) (qdj te t):=qaa ha hr rfl
theorem qbv {x:Str} (ha:PE X (.Name x pos) te) (hr:PA X es t):PA X (.Name x pos::es) (qdj te t):=qaa ha hr rfl
theorem yef {f xs ks} (ha:PE X (.Call f xs ks pos) te) (hr:PA X es t):PA X (.Call f xs ks pos::es) (qdj te t):=qaa ha hr rfl
noncomputable def ygg:List Expr→Option (List Str)
 | []=>some []
 | .Constant (.str x) _ _::r=>(ygg r).map (x :: ·)
 | _=>none
theorem yi5 {X:Cx}:∀ {es:List Expr}{xs:List Str},ygg es=some xs→PA X es (fun _ H Q=>Q (xs.map V.str) H)
 | [],xs,h=>by
  cases h
  exact yab
 | .Constant (.str x) j p::r,xs,h=>by
  rw[ygg] at h
  obtain ⟨ys,hy,rfl⟩:=Option.map_eq_some_iff.mp h
  exact pa_cs yaj (yi5 hy)
noncomputable def tStrs (xs:List Str):TE:=fun _ H Q=>xs.length≤sizeLine∧∀ p,H p=none→Q (.ref p) (upd H p (.lst (xs.map V.str)))
theorem ymn {xs:List Str} (h:ygg es=some xs):PE X (.List es pos) (tStrs xs):=by
 intro pins s σ H Q I hq
 refine ybc (yi5 h) pins s σ H Q I ?_
 exact ⟨by rw[List.length_map];exact hq.1,hq.2⟩
end
structure QS (X:Cx) (st:Stmt) (t:TS):Prop where
 of:PS X st t
structure QSs (X:Cx) (ss:List Stmt) (t:TS):Prop where
 of:PSs X ss t
section
variable {X:Cx}{st:Stmt}{rest a b:List Stmt}{t u:TS}{pos:Pos}{e:Expr}{te:TE}
theorem qss_lit {ss:List Stmt} (h:ss=st::rest) (p:QSs X (st::rest) t):PSs X ss t:=h ▸ p.of
theorem yaw:QSs X [] tNext:=⟨yav⟩
theorem qag (h:QS X st t):QSs X [st] t:=⟨yaf h.of⟩
theorem qad (h:QS X st t) (r:QSs X rest u):QSs X (st::rest) (tSeq t u):=⟨yah h.of r.of⟩
theorem qgs (h:QS X st t) (r:QSs X rest u):QSs X (st::rest) (tCut t u):=⟨qkr h.of r.of⟩
theorem qee (h:PS X st t):QS X st t:=⟨h⟩
theorem qs_if {c:Expr}{tc:TT} (hc:PT X c tc) (ha:QSs X a t) (hb:QSs X b u):QS X (.If c a b pos) (tIfS tc t u):=⟨qbu hc ha.of hb.of⟩
theorem qs_ret (he:PE X e te):QS X (.Return (some e) pos) (tRet te):=⟨qat he⟩
theorem qjs {i:Nat}{x:Str}{pos':Pos} (hN:X.N.Nodup) (hi:X.N[i]?=some x) (hx:Loc X.env.scope x) (he:PE X e te) (hs:swapsWith e (some (.Name x pos')) pos.line X.env=pure false:=by rfl) (hf:X.fn x=true∨X.env.scope.names.lookup x=some .local:=by first|exact .inl rfl|exact .inr rfl|assumption) :
  QS X (.Assign [.Name x pos'] e pos) (tAsg te (qgl i)):=⟨qa2 hN hi hx he hs hf⟩
theorem qs_strs {es:List Expr}{p2 pos':Pos}{i:Nat}{x:Str}{xs:List Str} (hN:X.N.Nodup) (hi:X.N[i]?=some x) (hx:Loc X.env.scope x) (h:ygg es=some xs) (hf:X.fn x=true∨X.env.scope.names.lookup x=some .local:=by first|exact .inl rfl|exact .inr rfl|assumption) :
  QS X (.Assign [.Name x pos'] (.List es p2) pos) (tAsg (tStrs xs) (qgl i)):=⟨qa2 hN hi hx (ymn h) rfl hf⟩
end
end Mx
namespace L2
open PySem PySem.Spec PyProof.Rows PyProof.Rows.KTD
noncomputable def TabK (K:PySem.W.Frag) (a:Addr) (D:List (Str×List V)):Prop:=
 (a == sysModules)=false∧∃ o es ep,K.lookup a=some o∧o.ExactDict∧o.data=.dict es ep∧KTD.Rows (fun xs v=>∃ p,v=.ref p∧∀ H,SqT K H p xs) es.toList D
section
variable {prog:Program}{w:World}{A:Around}{E:Value→Shared→Prop}{s:Shared}{a:Addr}{k:Str}{tk:Tok}{o:Obj}{es:Array DictEntry}{ep:Nat}
theorem yf1 {Q:Option Value→Shared→Prop} (g:s.heap.get? a=some o) (gd:o.data=.dict es ep) (ge:(es.toList.all fun e=>isExactStrKey e.key)=true)
  (q:Q ((es.toList.find? fun e=>e.key.isStr k).map (·.val)) { s with toks:=s.toks+1 }):wpAny (model prog w) A (dictGet a (.str k tk)) Q E s:=by
 obtain ⟨l⟩:=es
 have q2:Q (findBy (fun k v=>v.isStr k) ⟨l⟩ k) { s with toks:=s.toks+1 }:=by
  rw[show findBy (fun k v=>v.isStr k) (⟨l⟩:Array DictEntry) k=(l.find? fun e=>e.key.isStr k).map (·.val) by simp[findBy]]
  exact q
 unfold dictGet
 try with_reducible refine wpAny_holding ?_
 refine wpAny_bind (wpAny_pyHash_str ?_)
 refine wpAny_bind ?_
 refine kt_dictFind_strs (s:={ s with toks:=s.toks+1 }) g gd (by simpa using ge) ?_
 rw[findBy_of_findIdx?] at q2
 revert q2
 cases (⟨l⟩:Array DictEntry).findIdx? fun e=>e.key.isStr k with
 | none=>intro q2;exact wpAny_pure q2
 | some i=>intro q2;refine wpAny_bind ?_;exact wpAny_dictEntries (s:={ s with toks:=s.toks+1 }) g gd (wpAny_pure q2)
end
section
variable {X:Cx}{pins:List (Addr×Obj)}{σ:St}{H:Hp}{s:Shared}{a:Addr}{D:List (Str×List V)}
theorem TabK.dict (I:Inv X pins σ H s) (T:TabK X.K a D):s.TypeIs (.ref a) "dict"∧∀ b,Value.ref a=.ref b→∃ ob,s.heap.get? b=some ob∧ob.dict=none:=by
 obtain ⟨_,o,es,ep,hl,hx,hd,hr⟩:=T
 refine ⟨⟨o,I.kIn a o hl,hx.1⟩,fun b e=>?_⟩
 cases e
 exact ⟨o,I.kIn a o hl,hx.2.1⟩
theorem TabK.ask {k:Str}{tk:Tok}{E:Value→Shared→Prop}{A:Around}{Q:Option Value→Shared→Prop} (I:Inv X pins σ H s) (T:TabK X.K a D)
  (h1:∀ xs p,datumAt k D=some xs→(∀ H,SqT X.K H p xs)→Q (some (.ref p)) { s with toks:=s.toks+1 }) (h2:datumAt k D=none→Q none { s with toks:=s.toks+1 }):wpAny (model X.prog X.w) A (dictGet a (.str k tk)) Q E s:=by
 obtain ⟨_,o,es,ep,hl,hx,hd,hr⟩:=T
 refine yf1 (I.kIn a o hl) hd hr.exact ?_
 cases hat:datumAt k D with
 | some xs=>
  obtain ⟨v,hv,p,rfl,hp⟩:=hr.find_some hat
  rw[hv]
  exact h1 xs p hat hp
 | none=>rw[hr.find_none hat];exact h2 hat
noncomputable def rIxTab (K:PySem.W.Frag) (D:List (Str×List V)):R2:=fun x y H Q=>∃ a k xs,x=.ref a∧y=.str k∧TabK K a D∧datumAt k D=some xs∧∀ p,(∀ H,SqT K H p xs)→Q (.ref p) H
theorem yjt:IxR X (rIxTab X.K D):=by
 intro value slice pins s σ H x y v u Q I rx ry h hs
 obtain ⟨a,k,xs,rfl,rfl,T,hd,q⟩:=h
 cases rx
 obtain ⟨tk,rfl⟩:=ry
 obtain ⟨hsm,o,es,ep,hl,hx,hd2,hr⟩:=id T
 obtain ⟨v,hv,p,rfl,hp⟩:=hr.find_some hd
 have fin:EP X pins σ Q (.ref p) { s with toks:=s.toks+1 }:=⟨.ref p,H,I.tok _,rfl,q p hp⟩
 refine subscriptTail_builtinR (x:=.ref p) (T.dict I).1 slot_dict_getitem.lookup ?_ hs
 unfold getItem
 try with_reducible refine wpAny_holding ?_
 refine wpAny_bind (wpAny_sequenceKey (T.dict I).1 (by decide) ?_)
 refine wpAny_bind (wpAny_callSpecial?_slot (name:=Str.ofString "__getitem__") (T.dict I).1 slot_dict_getitem (wpAny_call_entry slot_dict_getitem (T.dict I).1 entry_dict_getitem ?_ (args_dict_getitem _ _)))
 show wpAny _ _ (dictGet a (.str k tk) >>= _) _ _ _
 refine wpAny_bind (yf1 (I.kIn a o hl) hd2 hr.exact ?_)
 rw[hv]
 exact wpAny_pure ⟨_,rfl,wpAny_pure ⟨rfl,fin⟩⟩
noncomputable def rInTab (K:PySem.W.Frag) (D:List (Str×List V)):R2:=fun x y H Q=>∃ a k,x=.str k∧y=.ref a∧TabK K a D∧Q (.bl (inKeys k D)) H
theorem yjr:OpR X (compareOp .In) (rInTab X.K D):=by
 intro pins s σ H x y v u Q I rx ry h
 obtain ⟨a,k,rfl,rfl,T,q⟩:=h
 cases ry
 obtain ⟨tk,rfl⟩:=rx
 show wpAny _ _ (contains (.ref a) (.str k tk) >>= fun c=>pure (Value.bool c)) _ _ s
 refine wpAny_bind ?_
 unfold contains
 try with_reducible refine wpAny_holding ?_
 refine wpAny_bind (wpAny_specialOf (T.dict I).1 slot_dict_contains.lookup ?_)
 show wpAny _ _ (if (some (Value.builtin "dict.__contains__") == some Value.none)=true then _ else _) _ _ s
 rw[if_neg (by rw[beq_builtin_none];exact Bool.false_ne_true)]
 refine wpAny_bind (wpAny_callSpecialUnlessNone?_slot (name:=Str.ofString "__contains__") (T.dict I).1 slot_dict_contains (wpAny_call_entry slot_dict_contains (T.dict I).1 entry_dict_contains ?_ (args_dict_contains _ _)))
 show wpAny _ _ (dictGet a (.str k tk) >>= _) _ _ _
 refine wpAny_bind (T.ask I (fun xs p hd hp=>?_) fun hn=>?_)
 ·have e:inKeys k D=true:=by rw[← isSome_datumAt,hd];rfl
  rw[e] at q
  show wpAny _ _ (ret (.bool true)) _ _ _
  exact wpAny_pure ⟨_,rfl,wpAny_truthy_bool (wpAny_pure ⟨.bl true,H,I.tok _,rfl,q⟩)⟩
 ·have e:inKeys k D=false:=by rw[← isSome_datumAt,hn];rfl
  rw[e] at q
  show wpAny _ _ (Builtin.Dict.pendingKey? a (.str k tk) >>= _) _ _ _
  exact wpAny_bind (wpAny_pendingKey_other T.1 (wpAny_pure ⟨_,rfl,wpAny_truthy_bool (wpAny_pure ⟨.bl false,H,I.tok _,rfl,q⟩)⟩))
end
end L2
namespace L2
open PySem PySem.Spec PyProof.Rows
section
variable {X:Cx}
theorem Vals.back:∀ {xs:List V}{us:List Value},Vals xs us→∀ u∈us,∃ v∈xs,RelV v u
 | _,_,.nil,u,h=>nomatch h
 | x::xs,_,.cons r t,u,h=>by
  rcases List.mem_cons.mp h with rfl|h
  ·exact ⟨x,List.mem_cons_self ..,r⟩
  ·obtain ⟨v,hv,rv⟩:=Vals.back t u h
   exact ⟨v,List.mem_cons_of_mem _ hv,rv⟩
end
open Builtin.SmallTypes (nextOf)
noncomputable def SIt (h:Heap) (tp:Bool) (q l:Addr) (i:Nat):Prop:=if tp then IsTupIter h q l i else h.IsListIter q l i
noncomputable def SOf (h:Heap) (tp:Bool) (l:Addr) (its:Array Value):Prop:=if tp then IsTup h l its else h.IsList l its
section
variable {prog:Program}{w:World}{A:Around}{E:Value→Shared→Prop}{s:Shared}{q l:Addr}{i:Nat}{its:Array Value}
theorem SIt.at {h h':Heap}{tp:Bool} (x:SIt h tp q l i) (k:∀ o,h.get? q=some o→h'.get? q=some o):SIt h' tp q l i:=by
 cases tp with
 | true=>obtain ⟨o,g,r⟩:=x;exact ⟨o,k o g,r⟩
 | false=>obtain ⟨o,g,r⟩:=x;exact ⟨o,k o g,r⟩
theorem SIt.obj {h:Heap}{tp:Bool} (x:SIt h tp q l i):∃ o,h.get? q=some o∧∀ v,o.data≠.cell v:=by
 cases tp with
 | true=>obtain ⟨o,g,c,d⟩:=x;exact ⟨o,g,fun v z=>by rw[d] at z;cases z⟩
 | false=>obtain ⟨o,g,c,d⟩:=x;exact ⟨o,g,fun v z=>by rw[d] at z;cases z⟩
theorem SOf.at {h h':Heap}{tp:Bool} (x:SOf h tp l its) (k:∀ o,h.get? l=some o→h'.get? l=some o):SOf h' tp l its:=by
 cases tp with
 | true=>obtain ⟨o,g,r⟩:=x;exact ⟨o,k o g,r⟩
 | false=>obtain ⟨o,g,r⟩:=x;exact ⟨o,k o g,r⟩
theorem qef {tp:Bool}{x:Value}{Q:Value→Shared→Prop} (hq:SIt s.heap tp q l i) (hl:SOf s.heap tp l its) (hx:its[i]?=some x)
  (k:∀ h',SIt h' tp q l (i+1)→Heap.SameBut q s.heap h'→Q x { s with heap:=h' }):wpAny (model prog w) A (nextOf (.ref q)) Q E s:=by
 cases tp with
 | false=>exact wpAny_nextOf_list_item hq hl hx k
 | true=>
  have hq':IsTupIter s.heap q l i:=hq
  obtain ⟨o,go,gc,gd⟩:=id hq'
  obtain ⟨ol,gl,_,nl,gdl⟩:=(show IsTup s.heap l its from hl)
  unfold Builtin.SmallTypes.nextOf
  refine wpAny_bind (wpAny_callSpecial?_slot (name:=Str.ofString "__next__") hq'.typeIs slot_tupleiter_next (wpAny_call_entry slot_tupleiter_next hq'.typeIs entry_tupleiter_next ?_ (args_tupleiter_next _)))
  show wpAny _ _ (field (.ref q) 0 >>= _) _ _ s
  refine wpAny_bind (wpAny_field go gd (x:=.ref l) rfl ?_)
  show wpAny _ _ (if (Value.ref l == Value.none)=true then _ else _) _ _ s
  rw[if_neg (by exact Bool.false_ne_true:¬ ((Value.ref l == Value.none)=true))]
  show wpAny _ _ (field (.ref q) 1 >>= _) _ _ s
  refine wpAny_bind (wpAny_field go gd (x:=.int i 0) rfl ?_)
  show wpAny _ _ (seqItems? (.ref l) >>= _) _ _ s
  refine wpAny_bind (wpAny_seqItems gl gdl ?_)
  simp only[Int.toNat_natCast,hx]
  refine wpAny_bind (wpAny_setField go gd (by simp) (wpAny_pure ⟨x,rfl,?_⟩))
  refine wpAny_pure (k _ ?_ (Heap.SameBut.update ..))
  exact ⟨_,Heap.get?_update_self _ go (Obj.isFreed_of_fields (Obj.data_mapFields gd _)),(Obj.cls_mapFields ..).trans gc,by rw[Obj.data_mapFields gd];simp[rawInt]⟩
theorem qg5 {tp:Bool}{Q:Value→Shared→Prop} (hh:A.handled=none) (hq:SIt s.heap tp q l i) (hl:SOf s.heap tp l its) (hx:its[i]?=none)
  (k:∀ h' e,Heap.ExtBut q s.heap h'→(∃ o,h'.get? e=some o∧o.cls=.type "StopIteration")→E (.ref e) { s with heap:=h' }):wpAny (model prog w) A (nextOf (.ref q)) Q E s:=by
 cases tp with
 | false=>exact wpAny_nextOf_list_end hh hq hl hx k
 | true=>
  have hq':IsTupIter s.heap q l i:=hq
  obtain ⟨o,go,gc,gd⟩:=id hq'
  obtain ⟨ol,gl,_,nl,gdl⟩:=(show IsTup s.heap l its from hl)
  unfold Builtin.SmallTypes.nextOf
  refine wpAny_bind (wpAny_callSpecial?_slot (name:=Str.ofString "__next__") hq'.typeIs slot_tupleiter_next (wpAny_call_entry slot_tupleiter_next hq'.typeIs entry_tupleiter_next ?_ (args_tupleiter_next _)))
  show wpAny _ _ (field (.ref q) 0 >>= _) _ _ s
  refine wpAny_bind (wpAny_field go gd (x:=.ref l) rfl ?_)
  show wpAny _ _ (if (Value.ref l == Value.none)=true then _ else _) _ _ s
  rw[if_neg (by exact Bool.false_ne_true:¬ ((Value.ref l == Value.none)=true))]
  show wpAny _ _ (field (.ref q) 1 >>= _) _ _ s
  refine wpAny_bind (wpAny_field go gd (x:=.int i 0) rfl ?_)
  show wpAny _ _ (seqItems? (.ref l) >>= _) _ _ s
  refine wpAny_bind (wpAny_seqItems gl gdl ?_)
  simp only[Int.toNat_natCast,hx]
  refine wpAny_bind (wpAny_rule ?_)
  refine wpAny_bind (wpAny_setField go gd (by simp) ?_)
  show wpAny _ _ (newExc (.type "StopIteration") [] >>= _) _ _ _
  refine wpAny_bind ?_
  simp only[newExc,newTuple]
  refine wpAny_bind (wpAny_newObj_type ?_ (by size_fits))
  refine wpAny_bind (m:=firstArgMember _ _) ?_
  refine wpAny_of_eq (a:=Value.none) (by first|rfl|(simp only[firstArgMember];rfl)) ?_
  refine wpAny_newObj_type ?_ (by size_fits)
  simp only[raiseNew]
  refine wpAny_bind (wpAny_handled ?_)
  first|rw[show A.in1.handled=none from hh]|rw[hh]
  refine wpAny_bind (wpAny_pure (wpAny_throw ?_))
  exact k _ _ (((Heap.SameBut.update ..).extBut.push _).push _) ⟨_,Heap.get?_push_size _ rfl,rfl⟩
theorem neN {a b:Nat} (h:a<b∨b<a):a≠b:=by omega
theorem zipNext {n l1 l2 k:Nat}{xs ys:Array Value}{x y a b:Value}{t1 t2:Bool}{Q:Value→Shared→Prop} (b1:l1<n) (b2:l2<n) (gz:IsZip s.heap (n+4) (n+2) (n+3) .none) (gi:IsPair s.heap (n+2) (.ref n) (.ref (n+1))) (go:IsPair s.heap (n+3) a b)
  (q1:SIt s.heap t1 n l1 k) (q2:SIt s.heap t2 (n+1) l2 k) (o1:SOf s.heap t1 l1 xs) (o2:SOf s.heap t2 l2 ys) (hx:xs[k]?=some x) (hy:ys[k]?=some y)
  (kk:∀ h',IsZip h' (n+4) (n+2) (n+3) (rawInt s.heap.objs.size)→IsPair h' (n+3) x y→SIt h' t1 n l1 (k+1)→SIt h' t2 (n+1) l2 (k+1)→IsPair h' s.heap.objs.size x y→h'.objs.size=s.heap.objs.size+1→
   (∀ c o,c≠n+4→c≠n+3→c≠n→c≠n+1→s.heap.get? c=some o→h'.get? c=some o)→Q (.ref s.heap.objs.size) { s with heap:=h' }) :
  wpAny (model prog w) A (Builtin.«zip.__next__» ⟨[.ref (n+4)],[]⟩) (fun fin s'=>∃ v,fin=.done (.ret v)∧Q v s') E s:=by
 show wpAny _ _ (field (.ref (n+4)) 2 >>= _) _ _ _
 refine wpAny_bind (wpAny_field gz rfl (x:=.bool false) rfl ?_)
 show wpAny _ _ (field (.ref (n+4)) 3 >>= _) _ _ _
 refine wpAny_bind (wpAny_field gz rfl (x:=.ref (n+2)) rfl ?_)
 refine wpAny_bind (wpAny_seqItems gi rfl ?_)
 show wpAny _ _ (Builtin.SmallTypes.ownedTupleIsFree (.ref (n+4)) >>= _) _ _ _
 refine wpAny_bind ?_
 unfold Builtin.SmallTypes.ownedTupleIsFree
 refine wpAny_bind (wpAny_field gz rfl (x:=.none) rfl ?_)
 refine wpAny_pure ?_
 simp only[if_true]
 refine wpAny_bind (wpAny_rule ?_)
 refine wpAny_bind (wpAny_field gz rfl (x:=.ref (n+3)) rfl ?_)
 refine wpAny_bind (wpAny_setField_rec gz (by simp) fun m1 gz1 e1=>?_)
 replace gz1:IsZip m1 (n+4) (n+2) (n+3) .ellipsis:=gz1
 refine wpAny_bind ?_
 simp only[List.zipIdx_cons,List.zipIdx_nil,List.forIn_cons,List.forIn_nil]
 refine wpAny_bind (wpAny_bind ?_)
 refine wpAny_onRaise ?_
 show wpAny _ _ (nextOf (.ref n) >>= _) _ _ _
 refine wpAny_bind (qef (q1.at fun o g=>e1.extBut _ _ (neN (by omega)) g) (o1.at fun o g=>e1.extBut _ _ (neN (by omega)) g) hx fun m2 r1 e2=>?_)
 refine wpAny_pure ?_
 have go2:IsPair m2 (n+3) a b:=e2.extBut _ _ (neN (by omega)) (e1.extBut _ _ (neN (by omega)) go)
 refine wpAny_bind (wpAny_seqItems go2 rfl ?_)
 refine wpAny_bind (wpAny_updateSeq_pair go2 fun m3 go3 e3=>?_)
 replace go3:IsPair m3 (n+3) x b:=go3
 refine wpAny_bind (wpAny_letGo ?_)
 refine wpAny_pure ?_
 refine wpAny_bind (wpAny_bind ?_)
 refine wpAny_onRaise ?_
 show wpAny _ _ (nextOf (.ref (n+1)) >>= _) _ _ _
 refine wpAny_bind (qef (q2.at fun o g=>e3.extBut _ _ (neN (by omega)) (e2.extBut _ _ (neN (by omega)) (e1.extBut _ _ (neN (by omega)) g))) (o2.at fun o g=>e3.extBut _ _ (neN (by omega)) (e2.extBut _ _ (neN (by omega)) (e1.extBut _ _ (neN (by omega)) g))) hy fun m4 r2 e4=>?_)
 refine wpAny_pure ?_
 have go4:IsPair m4 (n+3) x b:=e4.extBut _ _ (neN (by omega)) go3
 refine wpAny_bind (wpAny_seqItems go4 rfl ?_)
 refine wpAny_bind (wpAny_updateSeq_pair go4 fun m5 go5 e5=>?_)
 replace go5:IsPair m5 (n+3) x y:=go5
 refine wpAny_bind (wpAny_letGo ?_)
 refine wpAny_pure (wpAny_pure ?_)
 refine wpAny_bind (wpAny_seqItems go5 rfl ?_)
 refine wpAny_bind (wpAny_newTuple ?_)
 have hsz:m5.objs.size=s.heap.objs.size:=by rw[e5.1,e4.1,e3.1,e2.1,e1.1]
 have gz5:IsZip m5 (n+4) (n+2) (n+3) .ellipsis:=e5.extBut _ _ (neN (by omega)) (e4.extBut _ _ (neN (by omega)) (e3.extBut _ _ (neN (by omega)) (e2.extBut _ _ (neN (by omega)) gz1)))
 have keep5:∀ c o,c≠n+4→c≠n+3→c≠n→c≠n+1→s.heap.get? c=some o→m5.get? c=some o:=fun c o d1 d2 d3 d4 g=>
  e5.extBut _ _ d2 (e4.extBut _ _ d4 (e3.extBut _ _ d2 (e2.extBut _ _ d3 (e1.extBut _ _ d1 g))))
 have r15:SIt m5 t1 n l1 (k+1):=r1.at fun o g=>e5.extBut _ _ (neN (by omega)) (e4.extBut _ _ (neN (by omega)) (e3.extBut _ _ (neN (by omega)) g))
 have r25:SIt m5 t2 (n+1) l2 (k+1):=r2.at fun o g=>e5.extBut _ _ (neN (by omega)) g
 have lt5:n+4<m5.objs.size:=Heap.lt_size gz5
 show wpAny _ _ (Builtin.SmallTypes.ownedTupleHandOut (.ref (n+4)) (.ref m5.objs.size) >>= _) _ _ _
 refine wpAny_bind ?_
 unfold Builtin.SmallTypes.ownedTupleHandOut
 have gz6:IsZip (m5.push { cls:=.type "tuple",data:=.seq #[x,y] }) (n+4) (n+2) (n+3) .ellipsis:=Heap.get?_push_of_some _ gz5
 refine wpAny_bind (wpAny_setField_rec gz6 (by simp) fun m7 gz7 e7=>?_)
 replace gz7:IsZip m7 (n+4) (n+2) (n+3) (rawInt m5.objs.size):=gz7
 refine wpAny_setField_rec gz7 (by simp) fun m8 gz8 e8=>?_
 replace gz8:IsZip m8 (n+4) (n+2) (n+3) (rawInt m5.objs.size):=gz8
 have up:∀ c o,c≠n+4→m5.get? c=some o→m8.get? c=some o:=fun c o d1 g=>e8.extBut _ _ d1 (e7.extBut _ _ d1 (Heap.get?_push_of_some _ g))
 have gt8:IsPair m8 m5.objs.size x y:=e8.extBut _ _ (Nat.ne_of_gt lt5) (e7.extBut _ _ (Nat.ne_of_gt lt5) (Heap.get?_push_size _ rfl))
 have hs8:m8.objs.size=m5.objs.size+1:=by rw[e8.1,e7.1,Heap.size_push]
 rw[hsz] at gz8 gt8 hs8
 refine wpAny_pure ⟨_,rfl,?_⟩
 show Q (.ref m5.objs.size) _
 rw[hsz]
 exact kk m8 gz8 (up _ _ (neN (by omega)) go5) (r15.at fun o g=>up _ o (neN (by omega)) g) (r25.at fun o g=>up _ o (neN (by omega)) g) gt8 hs8 fun c o d1 d2 d3 d4 g=>up c o d1 (keep5 c o d1 d2 d3 d4 g)
theorem zipDone {n l1 l2 k:Nat}{xs ys:Array Value}{a b:Value}{t1 t2:Bool}{Q:Fin→Shared→Prop} (hh:A.handled=none) (b1:l1<n) (b2:l2<n) (gz:IsZip s.heap (n+4) (n+2) (n+3) .none) (gi:IsPair s.heap (n+2) (.ref n) (.ref (n+1))) (go:IsPair s.heap (n+3) a b)
  (q1:SIt s.heap t1 n l1 k) (q2:SIt s.heap t2 (n+1) l2 k) (o1:SOf s.heap t1 l1 xs) (o2:SOf s.heap t2 l2 ys) (hend:xs[k]?=none∨ys[k]?=none)
  (kk:∀ h' e,(∀ c o,c≠n+4→c≠n+3→c≠n→c≠n+1→s.heap.get? c=some o→h'.get? c=some o)→(∃ o,h'.get? e=some o∧o.cls=.type "StopIteration")→E (.ref e) { s with heap:=h' }) :
  wpAny (model prog w) A (Builtin.«zip.__next__» ⟨[.ref (n+4)],[]⟩) Q E s:=by
 show wpAny _ _ (field (.ref (n+4)) 2 >>= _) _ _ _
 refine wpAny_bind (wpAny_field gz rfl (x:=.bool false) rfl ?_)
 show wpAny _ _ (field (.ref (n+4)) 3 >>= _) _ _ _
 refine wpAny_bind (wpAny_field gz rfl (x:=.ref (n+2)) rfl ?_)
 refine wpAny_bind (wpAny_seqItems gi rfl ?_)
 show wpAny _ _ (Builtin.SmallTypes.ownedTupleIsFree (.ref (n+4)) >>= _) _ _ _
 refine wpAny_bind ?_
 unfold Builtin.SmallTypes.ownedTupleIsFree
 refine wpAny_bind (wpAny_field gz rfl (x:=.none) rfl ?_)
 refine wpAny_pure ?_
 simp only[if_true]
 refine wpAny_bind (wpAny_rule ?_)
 refine wpAny_bind (wpAny_field gz rfl (x:=.ref (n+3)) rfl ?_)
 refine wpAny_bind (wpAny_setField_rec gz (by simp) fun m1 gz1 e1=>?_)
 replace gz1:IsZip m1 (n+4) (n+2) (n+3) .ellipsis:=gz1
 refine wpAny_bind ?_
 simp only[List.zipIdx_cons,List.zipIdx_nil,List.forIn_cons,List.forIn_nil]
 refine wpAny_bind (wpAny_bind ?_)
 refine wpAny_onRaise ?_
 show wpAny _ _ (nextOf (.ref n) >>= _) _ _ _
 have p1:SIt m1 t1 n l1 k:=q1.at fun o g=>e1.extBut _ _ (neN (by omega)) g
 have p2:SOf m1 t1 l1 xs:=o1.at fun o g=>e1.extBut _ _ (neN (by omega)) g
 cases hx:xs[k]? with
 | none=>
  refine wpAny_bind (qg5 hh p1 p2 hx fun m2 e g2 he=>?_)
  obtain ⟨oe,hoe,hce⟩:=he
  have gz2:IsZip m2 (n+4) (n+2) (n+3) .ellipsis:=g2 _ _ (neN (by omega)) gz1
  have ne:e≠n+4:=fun z=>by subst z;rw[gz2] at hoe;cases hoe;simp at hce
  refine wpAny_setField_rec gz2 (by simp) fun m3 _ e3=>?_
  exact kk m3 e (fun c o d1 _ d3 _ g=>e3.extBut _ _ d1 (g2 _ _ d3 (e1.extBut _ _ d1 g))) ⟨oe,e3.extBut _ _ ne hoe,hce⟩
 | some x=>
  have hy:ys[k]?=none:=by
   rcases hend with z|z
   ·rw[hx] at z;cases z
   ·exact z
  refine wpAny_bind (qef p1 p2 hx fun m2 r1 e2=>?_)
  refine wpAny_pure ?_
  have go2:IsPair m2 (n+3) a b:=e2.extBut _ _ (neN (by omega)) (e1.extBut _ _ (neN (by omega)) go)
  refine wpAny_bind (wpAny_seqItems go2 rfl ?_)
  refine wpAny_bind (wpAny_updateSeq_pair go2 fun m3 go3 e3=>?_)
  refine wpAny_bind (wpAny_letGo ?_)
  refine wpAny_pure ?_
  refine wpAny_bind (wpAny_bind ?_)
  refine wpAny_onRaise ?_
  show wpAny _ _ (nextOf (.ref (n+1)) >>= _) _ _ _
  refine wpAny_bind (qg5 hh (q2.at fun o g=>e3.extBut _ _ (neN (by omega)) (e2.extBut _ _ (neN (by omega)) (e1.extBut _ _ (neN (by omega)) g))) (o2.at fun o g=>e3.extBut _ _ (neN (by omega)) (e2.extBut _ _ (neN (by omega)) (e1.extBut _ _ (neN (by omega)) g))) hy fun m4 e g4 he=>?_)
  obtain ⟨oe,hoe,hce⟩:=he
  have gz4:IsZip m4 (n+4) (n+2) (n+3) .ellipsis:=g4 _ _ (neN (by omega)) (e3.extBut _ _ (neN (by omega)) (e2.extBut _ _ (neN (by omega)) gz1))
  have ne:e≠n+4:=fun z=>by subst z;rw[gz4] at hoe;cases hoe;simp at hce
  refine wpAny_setField_rec gz4 (by simp) fun m5 _ e5=>?_
  exact kk m5 e (fun c o d1 d2 d3 d4 g=>e5.extBut _ _ d1 (g4 _ _ d4 (e3.extBut _ _ d2 (e2.extBut _ _ d3 (e1.extBut _ _ d1 g))))) ⟨oe,e5.extBut _ _ ne hoe,hce⟩
noncomputable def itN (tp:Bool):String:=if tp then "tuple_iterator" else "list_iterator"
theorem iterS {tp:Bool}{Q:Value→Shared→Prop} (hl:SOf s.heap tp l its) (k:Q (.ref s.heap.objs.size) { s with heap:=s.heap.push { cls:=.type (itN tp),data:=.fields #[.ref l,.int 0 0] } }):wpAny (model prog w) A (pyIter (.ref l)) Q E s:=by
 cases tp with
 | true=>exact iter_tuple hl k
 | false=>exact wpAny_pyIter_list hl k
theorem SIt.new {tp:Bool}{h:Heap}:SIt (h.push { cls:=.type (itN tp),data:=.fields #[.ref l,.int 0 0] }) tp h.objs.size l 0:=by
 cases tp with
 | true=>exact ⟨_,Heap.get?_push_size _ rfl,rfl,rfl⟩
 | false=>exact ⟨_,Heap.get?_push_size _ rfl,rfl,rfl⟩
noncomputable abbrev zp1 (h:Heap) (t1:Bool) (l1:Addr):Heap:=h.push { cls:=.type (itN t1),data:=.fields #[.ref l1,.int 0 0] }
noncomputable abbrev zp2 (h:Heap) (t1 t2:Bool) (l1 l2:Addr):Heap:=(zp1 h t1 l1).push { cls:=.type (itN t2),data:=.fields #[.ref l2,.int 0 0] }
noncomputable abbrev zp3 (h:Heap) (t1 t2:Bool) (l1 l2:Addr):Heap:=(zp2 h t1 t2 l1 l2).push { cls:=.type "tuple",data:=.seq #[.ref h.objs.size,.ref (zp1 h t1 l1).objs.size] }
noncomputable abbrev zp4 (h:Heap) (t1 t2:Bool) (l1 l2:Addr):Heap:=(zp3 h t1 t2 l1 l2).push { cls:=.type "tuple",data:=.seq #[.none,.none] }
noncomputable abbrev zp5 (h:Heap) (t1 t2:Bool) (l1 l2:Addr):Heap:=(zp4 h t1 t2 l1 l2).push { cls:=.type "zip",data:=.fields #[.none,.bool false,.bool false,.ref (zp2 h t1 t2 l1 l2).objs.size,.ref (zp3 h t1 t2 l1 l2).objs.size] }
theorem zipNew (t1 t2:Bool) (l1 l2:Addr) (xs ys:Array Value) :
  Meets (Builtin.«zip.__new__» ⟨[.type "zip",.ref l1,.ref l2],[]⟩) (fun _ R s=>SOf s.heap t1 l1 xs∧SOf s.heap t2 l2 ys∧R (.ok (.ret (.ref (zp4 s.heap t1 t2 l1 l2).objs.size))) { s with heap:=zp5 s.heap t1 t2 l1 l2 }):=
 .of_wp fun prog w A R s h=>by
  obtain ⟨hp,g,d,tk,os⟩:=s
  obtain ⟨y1,y2,h⟩:=h
  have hsub:=sub_zip
  have Y1:SOf (Shared.heap ⟨hp,g,d,tk,os⟩) t1 l1 xs:=y1
  have Y2:SOf (Shared.heap ⟨hp.push { cls:=.type (itN t1),data:=.fields #[.ref l1,.int 0 0] },g,d,tk,os⟩) t2 l2 ys:=y2.at fun o z=>Heap.get?_push_of_some _ z
  wp_walk using iterS Y1,iterS Y2
  exact ⟨_,rfl,h⟩
end
theorem ylf:bootBuiltins "zip" = some (.type "zip"):=by decide +kernel
section
variable {prog:Program}{w:World}{A:Around}{E:Value→Shared→Prop}{s:Shared}
noncomputable def ZSt (h:Heap) (n:Nat) (t1 t2:Bool) (l1 l2:Addr) (i:Nat):Prop:=
 ∃ a b,IsZip h (n+4) (n+2) (n+3) .none∧IsPair h (n+2) (.ref n) (.ref (n+1))∧IsPair h (n+3) a b∧SIt h t1 n l1 i∧SIt h t2 (n+1) l2 i
theorem qk1 {t1 t2:Bool}{l1 l2:Addr}{xs ys:Array Value}{Q:Value→Shared→Prop} (y1:SOf s.heap t1 l1 xs) (y2:SOf s.heap t2 l2 ys)
  (k:∀ h',ZSt h' s.heap.objs.size t1 t2 l1 l2 0→(∀ c o,s.heap.get? c=some o→h'.get? c=some o)→Q (.ref (s.heap.objs.size+4)) { s with heap:=h' }) :
  wpAny (model prog w) A (call (.type "zip") [.ref l1,.ref l2]) Q E s:=by
 refine callType_new F.called_zip (by decide) (F.typeCall_zip_2 _ _) (F.newCall_zip_2 _ _) (fun obj=>F.args_object_init_3 obj _ _) F.entry_zip_new (zipNew t1 t2 l1 l2 xs ys) ⟨y1,y2,?_⟩
 have z1:(zp1 s.heap t1 l1).objs.size=s.heap.objs.size+1:=Heap.size_push ..
 have z2:(zp2 s.heap t1 t2 l1 l2).objs.size=s.heap.objs.size+2:=by rw[Heap.size_push,z1]
 have z3:(zp3 s.heap t1 t2 l1 l2).objs.size=s.heap.objs.size+3:=by rw[Heap.size_push,z2]
 have z4:(zp4 s.heap t1 t2 l1 l2).objs.size=s.heap.objs.size+4:=by rw[Heap.size_push,z3]
 have u5:∀ c o,(zp4 s.heap t1 t2 l1 l2).get? c=some o→(zp5 s.heap t1 t2 l1 l2).get? c=some o:=fun c o g=>Heap.get?_push_of_some _ g
 have u4:∀ c o,(zp3 s.heap t1 t2 l1 l2).get? c=some o→(zp5 s.heap t1 t2 l1 l2).get? c=some o:=fun c o g=>u5 c o (Heap.get?_push_of_some _ g)
 have u3:∀ c o,(zp2 s.heap t1 t2 l1 l2).get? c=some o→(zp5 s.heap t1 t2 l1 l2).get? c=some o:=fun c o g=>u4 c o (Heap.get?_push_of_some _ g)
 have u2:∀ c o,(zp1 s.heap t1 l1).get? c=some o→(zp5 s.heap t1 t2 l1 l2).get? c=some o:=fun c o g=>u3 c o (Heap.get?_push_of_some _ g)
 have g5:(zp5 s.heap t1 t2 l1 l2).get? (zp4 s.heap t1 t2 l1 l2).objs.size=some _:=Heap.get?_push_size _ rfl
 have g4:(zp5 s.heap t1 t2 l1 l2).get? (zp3 s.heap t1 t2 l1 l2).objs.size=some _:=u5 _ _ (Heap.get?_push_size _ rfl)
 have g3:(zp5 s.heap t1 t2 l1 l2).get? (zp2 s.heap t1 t2 l1 l2).objs.size=some _:=u4 _ _ (Heap.get?_push_size _ rfl)
 have i2:SIt (zp5 s.heap t1 t2 l1 l2) t2 (zp1 s.heap t1 l1).objs.size l2 0:=SIt.new.at fun o g=>u3 _ o g
 have i1:SIt (zp5 s.heap t1 t2 l1 l2) t1 s.heap.objs.size l1 0:=SIt.new.at fun o g=>u2 _ o g
 show _∧_
 rw[z2,z3,z4] at g5
 rw[z1,z2] at g3
 rw[z3] at g4
 rw[z1] at i2
 rw[z4]
 exact ⟨⟨_,g5,rfl⟩,k _ ⟨_,_,g5,g3,g4,i1,i2⟩ fun c o g=>u2 c o (Heap.get?_push_of_some _ g)⟩
end
noncomputable def Sq (K:PySem.W.Frag) (tp:Bool) (H:Hp) (l:Addr) (xs:List V):Prop:=if tp then SqT K H l xs else SqL K H l xs
section
variable {X:Cx}{pins:List (Addr×Obj)}{σ:St}{H:Hp}{s:Shared}
theorem Inv.sq {tp:Bool}{l:Addr}{xs:List V} (I:Inv X pins σ H s) (h:Sq X.K tp H l xs):∃ its:List Value,Vals xs its∧SOf s.heap tp l its.toArray∧l<s.heap.objs.size:=by
 cases tp with
 | true=>
  obtain ⟨its,r,pl,z⟩:=I.tuple h
  obtain ⟨o,g,_⟩:=id pl
  exact ⟨its,r,pl,Heap.lt_size g⟩
 | false=>
  obtain ⟨its,r,pl,z⟩:=I.list h
  obtain ⟨o,g,_⟩:=id pl.isList
  exact ⟨its,r,pl.isList,Heap.lt_size g⟩
theorem Inv.sq_inj {tp:Bool}{l:Addr}{xs ys:List V} (I:Inv X pins σ H s) (h:Sq X.K tp H l xs) (h':Sq X.K tp H l ys):xs=ys:=by
 cases tp with
 | true=>exact I.tuple_inj h h'
 | false=>exact I.list_inj h h'
end
section
variable {X:Cx}{pins:List (Addr×Obj)}{σ:St}{H:Hp}{s:Shared}{h':Heap}
theorem Inv.turnedM {ch:List Addr}{t':Nat} (I:Inv X pins σ H s) (k:∀ b u,b∉ch→s.heap.get? b=some u→h'.get? b=some u) (hf:∀ b∈ch,FpOk X pins H b):Inv X pins σ H { s with heap:=h',toks:=t' }:=by
 have nit:∀ b u,H b=some u→b∉ch:=fun b u e z=>by rw[(hf b z).1] at e;cases e
 refine I.step (g':=s.gens) (d':=s.drawn) (ch:=ch) (fun b hb=>?_) (fun b u _ _ hc e _=>k b u hc e) (fun b u _ _ hc e _=>⟨u.slots,k b u hc e⟩) (fun b u _ e n=>n)
  (fun b u hc e=>⟨u,k b u hc e⟩) (fun b xs e=>e) (fun b u xs e=>e) (fun b ps e=>⟨#[],by rw[e];simp⟩) (fun m hm=>?_) (fun b u e=>?_) I.bare
 ·obtain ⟨_,f1,_,f3,f4,f5⟩:=hf b hb
  exact ⟨f3,f1,f4,f5⟩
 ·obtain ⟨ob,es,ep,ho,r⟩:=hm
  exact ⟨ob,es,ep,k _ ob (fun z=>(hf _ z).2.1 rfl) ho,r⟩
 ·refine (I.hok b u e).stay (fun c v hc q=>k c v ?_ q) (fun c q=>q) fun c xs q=>q
  rcases hc with rfl|hc
  ·exact nit _ u e
  ·exact nit c _ hc
end
noncomputable def Itz (K:PySem.W.Frag) (t1 t2:Bool) (l1 l2:Addr):It:=
  ⟨fun i H=>∃ xs ys x y,Sq K t1 H l1 xs∧Sq K t2 H l2 ys∧xs[i]?=some x∧ys[i]?=some y,
   fun i H x H'=>∃ p u v,H p=none∧x=.ref p∧H'=upd H p (.tup [u,v])∧∀ xs ys,Sq K t1 H l1 xs→Sq K t2 H l2 ys→xs[i]?=some u∧ys[i]?=some v,
   fun i H=>∃ xs ys,Sq K t1 H l1 xs∧Sq K t2 H l2 ys∧(xs[i]?=none∨ys[i]?=none)⟩
theorem qh9 {xs:List V}{us:List Value}{i:Nat} (r:Vals xs us) (h:xs[i]?=none):us[i]?=none:=by
 rw[List.getElem?_eq_none_iff] at h ⊢
 rw[← r.length]
 exact h
theorem turn_zip {P:Program}{w:World}{K:PySem.W.Frag}{es:List Expr}{k:Nat}{tp:Pos}{t1 t2:Bool} (l1 l2 n:Nat) (b1:l1<n) (b2:l2<n) :
  Turn P w K (.Tuple es k tp) (Itz K t1 t2 l1 l2) [n,n+1,n+2,n+3,n+4] (n+4) (fun i h=>ZSt h n t1 t2 l1 l2 i) where
 mem:=by simp
 obj:=fun i h st b hb=>by
  obtain ⟨x,y,gz,gi,go,q1,q2⟩:=st
  have hb':b=n∨b=n+1∨b=n+2∨b=n+3∨b=n+4:=by simpa using hb
  rcases hb' with rfl|rfl|rfl|rfl|rfl
  ·exact q1.obj
  ·exact q2.obj
  ·exact ⟨_,gi,fun v z=>by
    have z':Data.seq _ _=Data.cell v:=z
    cases z'⟩
  ·exact ⟨_,go,fun v z=>by
    have z':Data.seq _ _=Data.cell v:=z
    cases z'⟩
  ·exact ⟨_,gz,fun v z=>by
    have z':Data.fields _=Data.cell v:=z
    cases z'⟩
 keep:=fun i h h' st kk=>by
  obtain ⟨x,y,gz,gi,go,q1,q2⟩:=st
  exact ⟨x,y,kk _ (by simp) _ gz,kk _ (by simp) _ gi,kk _ (by simp) _ go,q1.at fun o z=>kk _ (by simp) o z,q2.at fun o z=>kk _ (by simp) o z⟩
 item:=by
  intro X hP hw hK hc i pins s σ H E I hf st hg
  subst hP hw hK
  obtain ⟨xs,ys,x,y,hq1,hq2,hx,hy⟩:=hg
  obtain ⟨its1,rv1,so1,_⟩:=I.sq hq1
  obtain ⟨its2,rv2,so2,_⟩:=I.sq hq2
  obtain ⟨u1,hu1,ru1⟩:=rv1.get hx
  obtain ⟨u2,hu2,ru2⟩:=rv2.get hy
  obtain ⟨x0,y0,gz,gi,go,q1,q2⟩:=st
  have lt4:n+4<s.heap.objs.size:=Heap.lt_size gz
  have hT:s.TypeIs (.ref (n+4)) "zip":=⟨_,gz,rfl⟩
  unfold pyNext
  refine wpAny_bind (wpAny_attempt (wpAny_callSpecial?_slot (name:=Str.ofString "__next__") hT F.slot_zip_next (wpAny_call_entry F.slot_zip_next hT F.entry_zip_next ?_ (F.args_zip_next_1 _))))
  refine zipNext b1 b2 gz gi go q1 q2 so1 so2 (x:=u1) (y:=u2) (by simpa using hu1) (by simpa using hu2) fun h' gz' go' r1 r2 hT' hsz kp=>?_
  refine wpAny_pure ?_
  refine ⟨_,rfl,wpAny_letOwnedTupleGo_zip gz' fun h2 gz2 hs2=>?_⟩
  have kp2:∀ b ob,b∉[n,n+1,n+2,n+3,n+4]→s.heap.get? b=some ob→h2.get? b=some ob:=fun b ob hb z=>by
   have d4:b≠n+4:=fun q=>hb (by simp[q])
   have d3:b≠n+3:=fun q=>hb (by simp[q])
   have d0:b≠n:=fun q=>hb (by simp[q])
   have d1:b≠n+1:=fun q=>hb (by simp[q])
   exact (hs2.2 b d4).trans (kp b ob d4 d3 d0 d1 z)
  have up2:∀ b ob,b≠n+4→h'.get? b=some ob→h2.get? b=some ob:=fun b ob d z=>(hs2.2 b d).trans z
  have hT2:h2.get? s.heap.objs.size=some { cls:=.type "tuple",data:=.seq #[u1,u2] }:=up2 _ _ (Nat.ne_of_gt lt4) hT'
  have fresh:H s.heap.objs.size=none:=I.hok.fresh (Nat.le_refl _)
  have new:ybq X.prog X.w (upd H s.heap.objs.size (.tup [x,y])) h2 s.heap.objs.size (.tup [x,y]):=⟨by show 2≤sizeLine;decide,[u1,u2],.cons ru1 (.cons ru2 .nil),⟨_,hT2,rfl,_,rfl⟩⟩
  refine ⟨.ref s.heap.objs.size,upd H s.heap.objs.size (.tup [x,y]),I.turnedL kp2 hf (Nat.le_refl _) new,rfl,⟨_,x,y,fresh,rfl,rfl,fun as bs ha hb=>by rw[I.sq_inj ha hq1,I.sq_inj hb hq2];exact ⟨hx,hy⟩⟩,⟨_,_,gz2,?_,up2 _ _ (neN (by omega)) go',r1.at fun o z=>up2 _ o (neN (by omega)) z,r2.at fun o z=>up2 _ o (neN (by omega)) z⟩,fun b hb=>?_⟩
  ·exact up2 _ _ (neN (by omega)) (kp _ _ (neN (by omega)) (neN (by omega)) (neN (by omega)) (neN (by omega)) gi)
  ·rw[yai]
   ·exact (hf b hb).1
   ·have hb':b=n∨b=n+1∨b=n+2∨b=n+3∨b=n+4:=by simpa using hb
    rcases hb' with rfl|rfl|rfl|rfl|rfl<;>exact neN (by omega)
 done:=by
  intro X hP hw hK hc i pins s σ H E I hf st hg
  subst hP hw hK
  obtain ⟨xs,ys,hq1,hq2,hxy⟩:=hg
  obtain ⟨its1,rv1,so1,_⟩:=I.sq hq1
  obtain ⟨its2,rv2,so2,_⟩:=I.sq hq2
  obtain ⟨x0,y0,gz,gi,go,q1,q2⟩:=st
  have hT:s.TypeIs (.ref (n+4)) "zip":=⟨_,gz,rfl⟩
  have hend:its1.toArray[i]?=none∨its2.toArray[i]?=none:=hxy.imp (fun z=>by simpa using qh9 rv1 z) fun z=>by simpa using qh9 rv2 z
  unfold pyNext
  refine wpAny_bind (wpAny_attempt (wpAny_callSpecial?_slot (name:=Str.ofString "__next__") hT F.slot_zip_next (wpAny_call_entry F.slot_zip_next hT F.entry_zip_next (zipDone (I.ok.hd hc) b1 b2 gz gi go q1 q2 so1 so2 hend fun h' e kp he=>?_) (F.args_zip_next_1 _))))
  obtain ⟨o,ho,hce⟩:=he
  refine wpAny_bind (wpAny_isInstance (T:="StopIteration") (b:=true) ⟨o,ho,hce⟩ isSubtype_stop ?_)
  refine wpAny_pure ⟨rfl,?_⟩
  refine I.turnedM (t':=s.toks) (ch:=[n,n+1,n+2,n+3,n+4]) (fun b ob hb z=>?_) hf
  exact kp b ob (fun q=>hb (by simp[q])) (fun q=>hb (by simp[q])) (fun q=>hb (by simp[q])) (fun q=>hb (by simp[q])) z
 self:=fun _ _ _ _ _ st h=>by
  obtain ⟨x0,y0,gz,gi,go,q1,q2⟩:=st
  exact wpAny_pyIter_zip gz h
noncomputable def iZip (K:PySem.W.Frag) (ta:TA):TI:=fun σ H R=>ta σ H fun vs H1=>∃ t1 t2 l1 l2 xs ys,vs=[.ref l1,.ref l2]∧Sq K t1 H1 l1 xs∧Sq K t2 H1 l2 ys∧R (Itz K t1 t2 l1 l2) H1
section
variable {X:Cx}
theorem qie {a b:Expr}{ta:TA}{p pos tp:Pos}{es:List Expr}{k:Nat} (hg:Gl X "zip") (hm:X.mg "zip" = none) (ha:PA X [a,b] ta) (hs:starEach [a,b] X.env=(false,eval a X.env)::starEach [b] X.env:=by rfl) (hp:(backTo pos (starEach [b] X.env)).any (·.1)=false:=by rfl) :
  PI X (.Tuple es k tp) (.Call (.Name "zip" p) [a,b] [] pos) (iZip X.K ta):=by
 intro pins s σ H R I h
 refine Call_ (qg0 I hg hm ylf (PyProof.Rows.callWith_type1 (thn (ha pos pins s σ H _ I h) fun us s1 ⟨vs,H1,I1,r1,q1⟩=>?_) hs hp))
 obtain ⟨t1,t2,l1,l2,xs,ys,e,hq1,hq2,q⟩:=q1
 subst e
 cases r1 with
 | cons r rr=>
  cases rr with
  | cons r2 rr=>
   cases rr
   cases r
   cases r2
   obtain ⟨its1,rv1,so1,b1⟩:=I1.sq hq1
   obtain ⟨its2,rv2,so2,b2⟩:=I1.sq hq2
   refine qk1 so1 so2 fun h' st kp=>?_
   obtain ⟨x0,y0,gz,gi,go,i1,i2⟩:=id st
   refine wpAny_pyIter_zip gz ⟨_,[s1.heap.objs.size,s1.heap.objs.size+1,s1.heap.objs.size+2,s1.heap.objs.size+3,s1.heap.objs.size+4],_,Itz X.K t1 t2 l1 l2,H1,rfl,I1.kept (t':=s1.toks) kp,turn_zip l1 l2 s1.heap.objs.size b1 b2,st,fun b hb=>?_,q⟩
   have hb':s1.heap.objs.size≤b:=by
    have hb':b=s1.heap.objs.size∨b=s1.heap.objs.size+1∨b=s1.heap.objs.size+2∨b=s1.heap.objs.size+3∨b=s1.heap.objs.size+4:=by simpa using hb
    rcases hb' with rfl|rfl|rfl|rfl|rfl
    ·exact Nat.le_refl _
    ·exact Nat.le_add_right ..
    ·exact Nat.le_add_right ..
    ·exact Nat.le_add_right ..
    ·exact Nat.le_add_right ..
   exact I1.fpOk hb' (I1.hok.fresh hb')
end
theorem yfe:bootBuiltins "sorted" = some (.builtin "sorted"):=by decide +kernel
theorem qh0:∀ {us:List Value}{ns:List Int},IntsAre us ns→Vals (ns.map V.int) us
 | _,_,.nil=>.nil
 | _,_,.cons n t r=>.cons ⟨t,rfl⟩ (qh0 r)
theorem yds:bootBuiltins "all" = some (.builtin "all"):=by decide +kernel
section
variable {X:Cx}
noncomputable def rAllB:List V→Hp→VK→Prop:=fun xs H Q=>∃ (l:Addr) (bs:List Bool),xs=[.ref l]∧H l=some (.lst (bs.map V.bl))∧Q (.bl (bs.all id)) H
theorem ylc (bs:List Bool):(List.range bs.length).all (fun i=>bs.getD i false)=bs.all id:=by
 rw[Bool.eq_iff_iff,List.all_eq_true,List.all_eq_true]
 constructor
 ·intro h b hb
  obtain ⟨i,hi,e⟩:=List.getElem_of_mem hb
  have:=h i (List.mem_range.mpr hi)
  rw[List.getD_eq_getElem?_getD,List.getElem?_eq_getElem hi] at this
  rw[← e];exact this
 ·intro h i hi
  have hi':=List.mem_range.mp hi
  rw[List.getD_eq_getElem?_getD,List.getElem?_eq_getElem hi']
  exact h _ (List.getElem_mem hi')
theorem truth_bs {P:Program}{w:World}{A:Around} (bs:List Bool):TruthOf P w A (fun i v=>(bs.map Value.bool).toArray[i]?=some v) (fun i=>bs.getD i false):=by
 intro i v s Q E hP hQ
 have hP':(bs.map Value.bool)[i]?=some v:=by simpa using hP
 rw[List.getElem?_map] at hP'
 cases e:bs[i]? with
 | none=>rw[e] at hP';cases hP'
 | some b=>
  rw[e] at hP'
  cases hP'
  have hQ':Q (bs.getD i false) s:=hQ
  rw[List.getD_eq_getElem?_getD,e] at hQ'
  exact wpAny_truthy_bool hQ'
theorem ydl (hc:X.calm=true):yc1 X (.builtin "all") rAllB:=by
 intro pins s σ H xs us Q I r h
 obtain ⟨l,bs,rfl,hH,q⟩:=h
 cases r with
 | cons r rr=>
  cases rr
  cases r
  obtain ⟨z,its,n,rv,hl,e⟩:=I.lstM hH
  have hi:=rv.bls
  subst hi
  have hlt:l<s.heap.objs.size:=Heap.lt_size e
  refine call_all_walk (wpAny_pyIter_list (items:=(bs.map Value.bool).toArray) ⟨_,e,rfl,n,rfl⟩ ⟨_,_,_,_,_,_,_,rfl,Walks.list (by simpa using I.ok.hd hc) s.heap.objs.size l (Nat.ne_of_lt hlt) (bs.map Value.bool).toArray,⟨⟨_,Heap.get?_push_size _ rfl,rfl,rfl⟩,⟨_,Heap.get?_push_of_some _ e,rfl,n,rfl⟩⟩,truth_bs bs,fun h' tk hk=>?_⟩)
  rw[List.size_toArray,List.length_map,ylc]
  refine ⟨.bl (bs.all id),H,I.kept fun b o g=>hk b o ?_ (Heap.get?_push_of_some _ g),rfl,q⟩
  intro hb
  rw[List.mem_singleton] at hb
  exact absurd (Heap.lt_size g) (by rw[hb];exact Nat.lt_irrefl _)
end
section
variable {X:Cx}{a b:Expr}{ta tb:TE}{pos:Pos}
noncomputable def rCatS (K:PySem.W.Frag):R2:=fun x y H Q=>∃ l b xs zs,x=.ref l∧y=.ref b∧SqL K H l xs∧SqL K H b zs∧xs.length+zs.length≤sizeLine∧∀ p,H p=none→Q (.ref p) (upd H p (.lst (xs++zs)))
theorem op_catS:OpR X (binaryOp .Add) (rCatS X.K):=by
 intro pins s σ H x y v u Q I rx ry h
 obtain ⟨l,b,xs,zs,rfl,rfl,hH,hB,hz,q⟩:=h
 cases rx
 cases ry
 obtain ⟨vs,r,pl,_⟩:=I.list hH
 obtain ⟨ws,r2,pl2,_⟩:=I.list hB
 obtain ⟨⟨cls,dd,data,sl⟩,ho,hc,n,hd⟩:=pl.isList
 obtain ⟨⟨cls2,dd2,data2,sl2⟩,ho2,hc2,n2,hd2⟩:=pl2.isList
 simp only at hc hd hc2 hd2
 subst hc hd hc2 hd2
 have l1:=r.length
 have l2:=r2.length
 refine concat_meets ⟨_,ho,rfl⟩ ⟨_,ho2,rfl⟩ noFill_list_add seq_list_add PySem.F.slot_list_add PySem.F.entry_list_add (PySem.F.args_list_add_2 _ _) (list_addW l b vs.toArray ws.toArray n n2 dd dd2 sl sl2 (by simp;omega)) ⟨ho,ho2,?_⟩
 have ea:vs.toArray++ws.toArray=(vs++ws).toArray:=by simp
 rw[ea]
 exact ⟨.ref _,_,I.lnew (t':=s.toks) (r.append r2) (by rw[List.length_append];omega),rfl,q _ I.fresh⟩
end
section
variable {X:Cx}{pins:List (Addr×Obj)}{σ:St}{H:Hp}{s:Shared}{a:Addr}{y v:V}{u r:Value}{o:Option V}{A:Around}{E:Value→Shared→Prop}
theorem Inv.big (I:Inv X pins σ H s):sysModules<s.heap.objs.size:=by
 have h:mainGlobals<s.heap.objs.size:=(I.mod.glob.keeps I.bk).lt
 exact Nat.lt_trans (by decide) h
end
theorem dk_empty {P:Program}{w:World}{H:Hp} (h:Heap) (hb:sysModules<h.objs.size):ybq P w H (h.push { cls:=.type "dict",data:=.dict #[] }) h.objs.size (.dK []):=
 ⟨Nat.zero_le _,beq_eq_false_iff_ne.mpr (Ne.symm (Nat.ne_of_lt hb)),[],.nil,Heap.DictOf.new h⟩
noncomputable def tDNewK:TE:=fun _ H Q=>∀ p,H p=none→Q (.ref p) (upd H p (.dK []))
section
variable {X:Cx}{pos:Pos}
theorem qjq:PE X (.Dict [] [] pos) tDNewK:=fun pins s σ H Q I h=>
 wpAny_Dict_empty ⟨.ref s.heap.objs.size,_,I.laid (a:=s.heap.objs.size) (o:=.dK []) (t':=s.toks) (fun _ _ q=>Heap.get?_push_of_some _ q) (Nat.le_refl _) (dk_empty s.heap I.big),rfl,h _ (I.hok.fresh (Nat.le_refl _))⟩
end
end L2
namespace Mx
open PySem L2 PyProof.Rows
structure QE (X:Cx) (e:Expr) (t:TE):Prop where
 of:PE X e t
section
variable {X:Cx}{e o i:Expr}{te td ty:TE}{pos:Pos}
theorem qab (h:PE X e te):QE X e te:=⟨h⟩
theorem yaq {i:Nat}{x:Str}{pos':Pos} (hN:X.N.Nodup) (hi:X.N[i]?=some x) (hx:Loc X.env.scope x) (he:QE X e te) (hs:swapsWith e (some (.Name x pos')) pos.line X.env=pure false:=by rfl) (hf:X.fn x=true∨X.env.scope.names.lookup x=some .local:=by first|exact .inl rfl|exact .inr rfl|assumption) :
  QS X (.Assign [.Name x pos'] e pos) (tAsg te (qgl i)):=⟨qa2 hN hi hx he.of hs hf⟩
theorem qas (he:QE X e te):QS X (.Return (some e) pos) (tRet te):=⟨qat he.of⟩
structure QT (X:Cx) (e:Expr) (t:TT):Prop where
 of:PT X e t
theorem qt_of {t:TT} (h:PT X e t):QT X e t:=⟨h⟩
theorem ya9 {a b:List Stmt}{t u:TS}{c:Expr}{tc:TT} (hc:QT X c tc) (ha:QSs X a t) (hb:QSs X b u):QS X (.If c a b pos) (tIfS tc t u):=⟨qbu hc.of ha.of hb.of⟩
noncomputable def tTStrs (xs:List Str):TE:=fun _ H Q=>xs.length≤sizeLine∧∀ p,H p=none→Q (.ref p) (upd H p (.tup (xs.map V.str)))
theorem qe_tstrs {es:List Expr}{k}{xs:List Str} (h:ygg es=some xs):QE X (.Tuple es k pos) (tTStrs xs):=⟨by
 intro pins s σ H Q I hq
 refine qce (yi5 h) pins s σ H Q I ?_
 exact ⟨by rw[List.length_map];exact hq.1,hq.2⟩⟩
theorem qe_strs {es:List Expr}{xs:List Str} (h:ygg es=some xs):QE X (.List es pos) (tStrs xs):=⟨ymn h⟩
theorem qaz {a b:Expr}{ta tb:TE}{op:CmpOp}{r:R2} (ho:OpR X (compareOp op) r) (ha:QE X a ta) (hb:QE X b tb) (hm:behindInMarks op b=false):QT X (.Compare a [op] [b] pos) (tTest (tOp r ta tb)):=⟨qao ho ha.of hb.of hm⟩
theorem qa1 {a b:Expr}{ta tb:TE}{r:R2} (hr:IxR X r) (ha:QE X a ta) (hb:QE X b tb) (hs:qlh b):QE X (.Subscript a b pos) (tOp r ta tb):=⟨yan hr ha.of hb.of hs⟩
structure QA (X:Cx) (es:List Expr) (t:TA):Prop where
 of:PA X es t
theorem qaf:QA X [] tNil:=⟨yab⟩
theorem qi0 {es:List Expr}{t:TA} (ha:QE X e te) (hr:QA X es t) (hs:starEach (e::es) X.env=(false,eval e X.env)::starEach es X.env:=by rfl):QA X (e::es) (qdj te t):=⟨qaa ha.of hr.of hs⟩
theorem yau {es:List Expr}{t:TA} (h:QA X es t):QE X (.List es pos) (tLst t):=⟨ybc h.of⟩
theorem qcy {es:List Expr}{k}{t:TA} (h:QA X es t):QE X (.Tuple es k pos) (tTup t):=⟨qce h.of⟩
end
section
variable {X:Cx}{e a b c:Expr}{es:List Expr}{te ta tb:TE}{t:TA}{tA tB':TT}{pos p:Pos}{x:Str}{rest:List Expr}
theorem yar {k:Const}{j} (ha:QE X (.Constant k j pos) te) (hr:QA X es t):QA X (.Constant k j pos::es) (qdj te t):=⟨pa_cs ha.of hr.of⟩
theorem yak {x:Str} (ha:QE X (.Name x pos) te) (hr:QA X es t):QA X (.Name x pos::es) (qdj te t):=⟨qbv ha.of hr.of⟩
theorem yl9 {f xs ks} (ha:QE X (.Call f xs ks pos) te) (hr:QA X es t):QA X (.Call f xs ks pos::es) (qdj te t):=⟨yef ha.of hr.of⟩
theorem yd1 {o i:Expr} (ha:QE X (.Subscript o i pos) te) (hr:QA X es t):QA X (.Subscript o i pos::es) (qdj te t):=⟨qaa ha.of hr.of rfl⟩
theorem qiu {o i:Expr}{op} (ha:QE X (.BinOp o op i pos) te) (hr:QA X es t):QA X (.BinOp o op i pos::es) (qdj te t):=⟨qaa ha.of hr.of rfl⟩
theorem yh1 {xs k} (ha:QE X (.Tuple xs k pos) te) (hr:QA X es t):QA X (.Tuple xs k pos::es) (qdj te t):=⟨qaa ha.of hr.of rfl⟩
theorem yei {xs} (ha:QE X (.List xs pos) te) (hr:QA X es t):QA X (.List xs pos::es) (qdj te t):=⟨qaa ha.of hr.of rfl⟩
theorem qa_cp {l o r} (ha:QE X (.Compare l o r pos) te) (hr:QA X es t):QA X (.Compare l o r pos::es) (qdj te t):=⟨qaa ha.of hr.of rfl⟩
theorem qcj {op:Operator}{r:R2} (ho:OpR X (binaryOp op) r) (ha:QE X a ta) (hb:QE X b tb):QE X (.BinOp a op b pos) (tOp r ta tb):=⟨qa7 ho ha.of hb.of⟩
theorem ymm {op:CmpOp}{r:R2} (ho:OpR X (compareOp op) r) (ha:QE X a ta) (hb:QE X b tb) (hm:behindInMarks op b=false):QE X (.Compare a [op] [b] pos) (tOp r ta tb):=⟨qau ho ha.of hb.of hm⟩
theorem qj0 (hc:QT X c tA) (ha:QE X a ta) (hb:QE X b tb):QE X (.IfExp c a b pos) (tIf tA ta tb):=⟨yeu hc.of ha.of hb.of⟩
theorem qe_mid (h:QE X e te):QE X e (tMid te):=⟨pe_mid h.of⟩
structure QW (X:Cx) (e:Expr) (t:TT):Prop where
 of:PW X e t
theorem qkz (ha:QT X a tA):QW X (.BoolOp .And [a] pos) tA:=⟨qci ha.of⟩
theorem yj2 (ha:QT X a tA):QW X (.BoolOp .Or [a] pos) tA:=⟨qg6 ha.of⟩
theorem qw_and (ha:QT X a tA) (hb:QW X (.BoolOp .And (b::rest) pos) tB'):QW X (.BoolOp .And (a::b::rest) pos) (tAnd tA tB'):=⟨qcm ha.of hb.of⟩
theorem qlx (ha:QT X a tA) (hb:QW X (.BoolOp .Or (b::rest) pos) tB'):QW X (.BoolOp .Or (a::b::rest) pos) (tOr tA tB'):=⟨qka ha.of hb.of⟩
theorem QW.pt (h:QW X e tA):QT X e tA:=⟨h.of.pt⟩
theorem qd8 (ha:QT X a tA):QT X (.UnaryOp .Not a pos) (tNot tA):=⟨qde ha.of⟩
theorem ycg {f xs ks} (h:QE X (.Call f xs ks pos) te):QT X (.Call f xs ks pos) (tB te):=⟨qco h.of⟩
variable {id T:String}{r:List V→Hp→VK→Prop}
theorem ybf (hc:yc1 X (.builtin id) r) (hg:Gl X x) (hm:X.mg x=none) (hv:bootBuiltins x=some (.builtin id)) (ha:QA X (e::es) t) (hn:x≠"__name__":=by decide) (hdb:(x == ("__debug__" : Str))=false:=by decide)
  (he:starEach (e::es) X.env=(false,eval e X.env)::starEach es X.env:=by rfl) (hpl:(backTo pos (starEach es X.env)).any (·.1)=false:=by rfl):QE X (.Call (.Name x p) (e::es) [] pos) (tCB r t):=⟨qae hc hg hm hv ha.of hn hdb he hpl⟩
theorem qbh (hc:yc1 X (.type T) r) (hg:Gl X x) (hm:X.mg x=none) (hv:bootBuiltins x=some (.type T)) (ha:QA X (e::es) t) (hn:x≠"__name__":=by decide) (hdb:(x == ("__debug__" : Str))=false:=by decide)
  (he:starEach (e::es) X.env=(false,eval e X.env)::starEach es X.env:=by rfl) (hpl:(backTo pos (starEach es X.env)).any (·.1)=false:=by rfl):QE X (.Call (.Name x p) (e::es) [] pos) (tCB r t):=⟨ydm hc hg hm hv ha.of hn hdb he hpl⟩
theorem qaq {k m:Nat}{ps:List Str}{sp:Sp} (h:Has X.prog X.w X.K X.mg X.base k x ps sp) (hr:Room m X.A) (ha:QA X (e::es) t) (hk:k≤m:=by decide) (hg:Gl X x:=by rfl)
  (hdb:(x == ("__debug__" : Str))=false:=by decide) (he:starEach (e::es) X.env=(false,eval e X.env)::starEach es X.env:=by rfl) (hpl:(backTo pos (starEach es X.env)).any (·.1)=false:=by rfl):QE X (.Call (.Name x p) (e::es) [] pos) (yme sp [] E0 t):=⟨qah h hr ha.of hk hg hdb he hpl⟩
structure QI (X:Cx) (tg iter:Expr) (wi:TI):Prop where
 of:PI X tg iter wi
theorem qhl {tg iter:Expr}{wi:TI} (h:PI X tg iter wi):QI X tg iter wi:=⟨h⟩
theorem yiy {tg l:Expr}{tl:TE} (h:QE X l tl):QI X tg l (iList X.K tl):=⟨qbo h.of⟩
theorem ydf {tg iter:Expr}{body:List Stmt}{wi:TI}{g:TG}{tb:TS} (hp:PassesOwn (model X.prog X.w) X.A X.env X.xe) (hc:X.calm=true) (hi:QI X tg iter wi) (hg:PG X tg g) (hb:QSs X body tb) (hs:∀ x,foldedSetIterable iter X.env x=pure x:=by intro _;rfl):QS X (.For tg iter body [] pos) (tFor wi g tb):=⟨yci hp hc hi.of hg hb.of hs⟩
theorem ya8 (he:QE X e te) (hs:swapsWith e none pos.line X.env=pure false:=by rfl):QS X (.Expr e pos) (tDrop te):=⟨ybt he.of hs⟩
theorem yjo {tg:Expr}{g:TG} (he:QE X e te) (hg:PG X tg g) (hs:swapsWithSole [tg] e pos.line X.env=pure false:=by rfl) (hw:swappedStores [tg] e X.env=pure none:=by rfl) (h1:(assignEach [tg] X.env).map (·.2)=[assign tg X.env]:=by rfl):QS X (.Assign [tg] e pos) (tAsg te g):=⟨ylz he.of hg hs hw h1⟩
end
theorem yam {X:Cx}{st:Stmt}{rest ss:List Stmt}{t:TS} (h:ss=st::rest) (p:QSs X (st::rest) t):QSs X ss t:=h ▸ p
section
variable {P:Program}{w:World}{K:PySem.W.Frag}{mg:Str→Option Value}{base:Heap}
theorem Has.ofQ {x:Str}{st:Stmt}{ps N:List Str}{k:Nat}{sp:Sp} (F:FnAt K mg x st ps) (S:FnScope N ps (yac st)) (len:∀ vs H Q E,sp vs H Q E→vs.length=ps.length)
  (hbody:∀ (f:Addr) (cdv:Value) (A:Around) (outer:List Env) (s:Shared) (H:Hp) (vs:List V) (Q:VK) (E:XK),Room k (A.deeper (envOfC x (yac st) s.heap.objs.size f cdv))→sp vs H Q E→
   ∃ t,QSs (cxOf CX0 P w K mg base N x (yac st) f cdv A outer s H E).nox (yay st) t∧t { nx:=fun _ H'=>Q .non H',rt:=Q } (yet N vs) H):Has P w K mg base (k+1) x ps sp:=
 Has.of F S len fun f cdv A outer s H vs Q E hr h=>by
  obtain ⟨t,h1,h2⟩:=hbody f cdv A outer s H vs Q E hr h
  exact ⟨t,h1.of,h2⟩
theorem Fun.okQ {x qual:Str}{st:Stmt}{f:Addr}{fd:FuncData}{N ps:List Str}{k:Nat}{sp:Sp} (F:Fun K x qual st f fd) (S:FnScope N ps (yac st)) (len:∀ vs H Q E,sp vs H Q E→vs.length=ps.length)
  (hbody:∀ (cdv:Value) (A:Around) (outer:List Env) (s:Shared) (H:Hp) (vs:List V) (Q:VK) (E:XK),Room k (A.deeper (envOfC qual (yac st) s.heap.objs.size f cdv))→sp vs H Q E→
   ∃ t,QSs (cxOf CX0 P w K mg base N qual (yac st) f cdv A outer s H E).nox (yay st) t∧t { nx:=fun _ H'=>Q .non H',rt:=Q } (yet N vs) H):FnOk P w K mg base CX0 (k+1) f fd ps sp:=
 F.ok S len fun cdv A outer s H vs Q E hr h=>by
  obtain ⟨t,h1,h2⟩:=hbody cdv A outer s H vs Q E hr h
  exact ⟨t,h1.of,h2⟩
end
noncomputable def ycm (K:PySem.W.Frag) (C:Addr) (m qual:Str) (st:Stmt) (ps:List Str):Prop:=∃ f fd,Meth K C m f∧Fun K m qual st f fd∧qcu K fd ps []
noncomputable def HasM (P:Program) (w:World) (K:PySem.W.Frag) (mg:Str→Option Value) (base:Heap) (C:Addr) (k:Nat) (m:Str) (ps:List Str) (sp:Sp):Prop:=
 ∃ f fd,Meth K C m f∧qcu K fd ps []∧FnOk P w K mg base CX0 k f fd ps sp
noncomputable def HasI (P:Program) (w:World) (K:PySem.W.Frag) (mg:Str→Option Value) (base:Heap) (C:Addr) (k:Nat) (x:Str) (ps:List Str) (sp:Sp):Prop:=
 ∃ f fd,mg x=some (.ref C)∧Mk K C f∧qcu K fd ps []∧FnOk P w K mg base CX0 k f fd ps sp
section
variable {P:Program}{w:World}{K:PySem.W.Frag}{mg:Str→Option Value}{base:Heap}{C:Addr}
theorem HasM.ofQ {m qual:Str}{st:Stmt}{ps N:List Str}{k:Nat}{sp:Sp} (F:ycm K C m qual st ps) (S:FnScope N ps (yac st)) (len:∀ vs H Q E,sp vs H Q E→vs.length=ps.length)
  (hbody:∀ (f:Addr) (cdv:Value) (A:Around) (outer:List Env) (s:Shared) (H:Hp) (vs:List V) (Q:VK) (E:XK),Room k (A.deeper (envOfC qual (yac st) s.heap.objs.size f cdv))→sp vs H Q E→
   ∃ t,QSs (cxOf CX0 P w K mg base N qual (yac st) f cdv A outer s H E).nox (yay st) t∧t { nx:=fun _ H'=>Q .non H',rt:=Q } (yet N vs) H):HasM P w K mg base C (k+1) m ps sp:=by
 obtain ⟨f,fd,h1,h2,h3⟩:=F
 exact ⟨f,fd,h1,h3,Mx.Fun.okQ h2 S len fun cdv A outer s H vs Q E hr h=>hbody f cdv A outer s H vs Q E hr h⟩
theorem HasI.of {x m:Str}{ps:List Str}{k:Nat}{sp:Sp}{f:Addr} (hm:mg x=some (.ref C)) (M:Mk K C f) (u:∀ g,Meth K C "__init__" g→g=f) (h:HasM P w K mg base C k "__init__" ps sp):HasI P w K mg base C k x ps sp:=by
 obtain ⟨g,fd,h1,h2,h3⟩:=h
 have:=u g h1
 subst this
 exact ⟨g,fd,hm,M,h2,h3⟩
theorem qkw {m:Str}{f g:Addr} (a:PySem.W.findIn K (.ref C) m=some (some (.ref f))) (b:Meth K C m g):g=f:=by
 have:=b.at_
 rw[a] at this
 cases this
 rfl
end
section
variable {X:Cx}{e o value:Expr}{es:List Expr}{te ta tv:TE}{t:TA}{pos p apos pos':Pos}{C:Addr}{m x f:Str}
theorem yft {k n:Nat}{ps:List Str}{sp:Sp}{pl:Sem Bool} (c:Cls X.K C) (h:HasM X.prog X.w X.K X.mg X.base C k m ps sp) (hr:Room n X.A) (he:QE X o ta) (ha:QA X (e::es) t) (hk:k≤n:=by decide)
  (hst:starEach (e::es) X.env=(false,eval e X.env)::starEach es X.env:=by rfl) (hpl:(backTo pos (starEach es X.env)).any (·.1)=false:=by rfl)
  (ht:eval (.Call (.Attribute o m apos) (e::es) [] pos) X.env=(do
   let ov ← eval o X.env
   standAt apos.atName
   let (f,first) ← holding [ov] (getMethod ov m pl)
   callWith pos f first (backTo pos (starEach (e::es) X.env)) (backToKw pos (keywordEach [] X.env))):=by rfl) :
  QE X (.Call (.Attribute o m apos) (e::es) [] pos) (tMeth C m sp [] E0 ta t):=by
 obtain ⟨f,fd,h1,h2,h3⟩:=h
 exact ⟨pe_meth (pl:=pl) he.of c h1 h3 (hr.mono hk) h2 .nil pass0 ha.of hst hpl ht⟩
theorem ygp {k n:Nat}{ps:List Str}{sp:Sp}{pl:Sem Bool} (c:Cls X.K C) (h:HasM X.prog X.w X.K X.mg X.base C k m ps sp) (hr:Room n X.A) (he:QE X o ta) (hk:k≤n:=by decide)
  (ht:eval (.Call (.Attribute o m apos) [] [] pos) X.env=(do
   let ov ← eval o X.env
   standAt apos.atName
   let (f,first) ← holding [ov] (getMethod ov m pl)
   callWith pos f first (backTo pos (starEach [] X.env)) (backToKw pos (keywordEach [] X.env))):=by rfl) :
  QE X (.Call (.Attribute o m apos) [] [] pos) (tMeth C m sp [] E0 ta tNil):=by
 obtain ⟨f,fd,h1,h2,h3⟩:=h
 exact ⟨pe_meth0 (pl:=pl) he.of c h1 h3 (hr.mono hk) h2 .nil pass0 ht⟩
theorem qe_makeH {k n:Nat}{ps:List Str}{sp:Sp} (h:HasI X.prog X.w X.K X.mg X.base C k x ps sp) (hr:Room n X.A) (ha:QA X (e::es) t) (hk:k+1≤n:=by decide) (hg:Gl X x:=by rfl)
  (hdb:(x == ("__debug__" : Str))=false:=by decide) (he:starEach (e::es) X.env=(false,eval e X.env)::starEach es X.env:=by rfl) (hpl:(backTo pos (starEach es X.env)).any (·.1)=false:=by rfl) :
  QE X (.Call (.Name x p) (e::es) [] pos) (tMake C sp [] E0 t):=by
 obtain ⟨f,fd,h0,h1,h2,h3⟩:=h
 exact ⟨ymc h1 h3 (hr.mono hk) hg h0 h2 .nil pass0 ha.of hdb he hpl⟩
theorem qdq (he:QE X e ta) (hb:attributeBase e f X.env (eval e X.env)=eval e X.env):QE X (.Attribute e f pos) (tFld X.K ta f):=⟨pe_fld he.of hb⟩
theorem qju (ha:QE X o ta) (hv:QE X value tv) (hs:swapsWith value (some (.Attribute o f pos')) pos.line X.env=pure false):QS X (.Assign [.Attribute o f pos'] value pos) (sFld X.K ta tv f):=⟨ps_fld ha.of hv.of hs⟩
theorem qfz {b:Expr}{g:Str} (ha:QE X (.Attribute b g pos) te) (hr:QA X es t):QA X (.Attribute b g pos::es) (qdj te t):=⟨qaa ha.of hr.of rfl⟩
end
end Mx
namespace L2
open PySem PySem.Spec PyProof.Rows PySem.W
structure Fly (h:Heap) (H:Hp) (a T:Addr):Prop where
 ob:∃ o vs,h.get? a=some o∧o.data=.fields vs∧vs[1]?=some (.ref T)
 ne:T≠a
 fr:H T=none
 tb:∃ oT ts,h.get? T=some oT∧oT.data=.fields ts∧ts[3]?=some .none
noncomputable def CX1 (P:Program) (w:World):CXT:=fun outer H s E e s'=>∃ a T C dx H',e=.ref a∧s'.os=s.os∧AllBare s'.gens∧Un (frs outer) [] H H' s.heap s'.heap∧HOk P w H' s'.heap∧
 H' a=some (.ext (yck a C dx))∧Fly s'.heap H' a T∧E (.ref a) none H'
noncomputable def Raw (h:Heap) (a:Addr):Prop:=∃ o vs,h.get? a=some o∧o.data=.fields vs∧vs[1]?=some .none
theorem setSame {ts:Array Value}{i:Nat}{v:Value} (h:ts[i]?=some v):ts.setIfInBounds i v=ts:=by
 apply Array.ext_getElem?
 intro j
 by_cases e:i=j
 ·subst e
  rw[Array.getElem?_setIfInBounds_self_of_lt (Array.getElem?_eq_some_iff.mp h).1,h]
 ·rw[Array.getElem?_setIfInBounds_ne e]
theorem ylg {o:Obj}{ts:Array Value}{i:Nat}{v:Value} (hd:o.data=.fields ts) (h:ts[i]?=some v):Obj.mapFields (·.setIfInBounds i v) o=o:=by
 obtain ⟨c,d,dt,sl⟩:=o
 simp only at hd
 subst hd
 unfold Obj.mapFields
 simp only[setSame h]
theorem mapDict (f:Array Value→Array Value) (o:Obj):(Obj.mapFields f o).dict=o.dict:=by
 obtain ⟨c,d,dt,sl⟩:=o
 cases dt<;>rfl
section
variable {X:Cx}{pins:List (Addr×Obj)}{σ:St}{H:Hp}{s:Shared}{a C:Addr}{dx:Option Addr}
theorem fly_un {h1 h':Heap}{T':Addr} (I:Inv X pins σ H s) (ha:H a=some (.ext (yck a C dx))) (h1s:Heap.SlotsOnly (frs X.stack) s.heap h1) (hT:T'=h1.objs.size)
  (keep:∀ b o,b≠a→h1.get? b=some o→h'.get? b=some o) (hx:yck a C dx h'):Un (frs X.stack) [] H H s.heap h'∧HOk X.prog X.w H h'∧H T'=none∧s.heap.get? T'=none:=by
 have na:∀ b,H b=none→b≠a:=fun b n z=>by subst z;rw[ha] at n;cases n
 have hz:s.heap.objs.size=T':=by rw[hT,h1s.1]
 refine ⟨⟨fun b o e n hb _=>keep b o (na b n) ((h1s.2.1 b hb).trans e),fun b o e n hb _=>?_,fun _ _ _ n _=>n,fun b o e _=>?_,fun _ _ q=>q,fun _ _ _ q=>q,fun b ps q=>⟨#[],by rw[q];simp⟩⟩,fun b u e=>?_,I.hok.fresh (by omega),Heap.get?_none_of_le (by omega)⟩
 ·obtain ⟨sl,q⟩:=h1s.2.2 b o e
  exact ⟨sl,keep b _ (na b n) q⟩
 ·by_cases hb:b=a
  ·subst hb;obtain ⟨o,_,q,_⟩:=hx;exact ⟨o,q⟩
  ·obtain ⟨sl,q⟩:=h1s.2.2 b o e
   exact ⟨_,keep b _ hb q⟩
 ·by_cases hb:b=a
  ·subst hb
   rw[ha] at e;cases e
   exact yjg hx
  ·refine (I.hok b u e).stay (fun c v hc q=>?_) (fun _ q=>q) fun _ _ q=>q
   have hcH:H c≠none:=by
    rcases hc with z|z
    ·rw[z,e];simp
    ·rw[z];simp
   have hca:c≠a:=by
    rcases hc with z|z
    ·rw[z];exact hb
    ·intro z2;rw[z2,ha] at z;cases z
   exact keep c v hca ((h1s.2.1 c fun z=>hcH (I.stkFree c z)).trans q)
theorem qjw {M:Model}{E:Value→Shared→Prop}{Q:Unit→Shared→Prop} (I:Inv X pins σ H s) (hs:X.stack=X.env::X.outer) (hf:X.env.frame=some X.env.locals) (ha:H a=some (.ext (yck a C dx)))
  (st:Raw s.heap a∨∃ T,Fly s.heap H a T)
  (k:∀ h' T',Inv X pins σ H { s with heap:=h' }→Fly h' H a T'→s.heap.get? T'=none→Q () { s with heap:=h' }) :
  wpAny M X.A (noteFrame (.ref a) X.env) (fun _ s1=>wpAny M X.A (setFlight (.ref a) none) Q E s1) E s:=by
 have hfr:X.A.frames=some (X.env::X.outer):=by rw[← hs];exact I.ok.frames
 have hl:s.heap.FunFrames X.base (X.env::X.outer):=by rw[← hs];exact I.stack
 obtain ⟨⟨o0,vs0,e0,c0,d0,dt0⟩,_⟩:=I.hok a _ ha
 have main:∀ (h:Heap) (head:Value) (vs:Array Value) (o:Obj) (hadNext:Bool),(∀ b,h.get? b=s.heap.get? b)→h.objs.size=s.heap.objs.size→s.heap.get? a=some o→o.data=.fields vs→1<vs.size→
   wpAny M X.A (do let x ← frameOf X.env;let pl ← entryPlaceOf X.env.locals hadNext;let b ← EntryCells.newEntry head x .none (rawInt X.env.locals) .none pl;setField (.ref a) 1 b) (fun _ s'=>wpAny M X.A (setFlight (.ref a) none) Q E s') E { s with heap:=h }:=by
  intro h head vs o hadNext hg hsz he hd hvs
  have hl':h.FunFrames X.base (X.env::X.outer):=hl.of_keeps fun b o q _=>⟨o,(hg b).trans q,rfl⟩
  have hene:a∉(X.env::X.outer).filterMap (·.frame):=fun hm=>by
   have:=I.stkFree a (by rw[hs];exact hm)
   rw[ha] at this;cases this
  refine wpAny_bind (wpAny_frameOf_fun (s:={ s with heap:=h }) hfr hl' hf fun h₁ hs₁=>?_)
  have hs₁':Heap.SlotsOnly (frs X.stack) s.heap h₁:=by
   rw[hs]
   exact ⟨hs₁.1.trans hsz,fun b hb=>(hs₁.2.1 b hb).trans (hg b),fun b o q=>hs₁.2.2 b o ((hg b).trans q)⟩
  refine wpAny_bind (wpAny_entryPlaceOf fun pl hpl=>?_)
  unfold EntryCells.newEntry newFields
  refine wpAny_bind (wpAny_newObj_type ?_ (hpl.sizeOk5 _ _ _ _ _))
  have he₁:h₁.get? a=some o:=(hs₁.2.1 a hene).trans ((hg a).trans he)
  have he₂:=Heap.get?_push_of_some (h:=h₁) { cls:=.type "traceback",dict:=none,data:=.fields ([head,.ref X.env.locals,.none,rawInt X.env.locals,.none]++(if pl.isEmpty then List.replicate 6 Value.none else pl)).toArray } he₁
  refine wpAny_setField he₂ hd hvs ?_
  have hTe:h₁.objs.size≠a:=Nat.ne_of_gt (Heap.lt_size he₁)
  have hd₃:=Obj.data_mapFields hd (·.setIfInBounds 1 (Value.ref h₁.objs.size))
  have he₃:=Heap.get?_update_self (Obj.mapFields (·.setIfInBounds 1 (Value.ref h₁.objs.size))) he₂ (Obj.isFreed_of_fields hd₃)
  have hT₃:=(Heap.get?_update_other (h₁.push { cls:=.type "traceback",dict:=none,data:=.fields ([head,.ref X.env.locals,.none,rawInt X.env.locals,.none]++(if pl.isEmpty then List.replicate 6 Value.none else pl)).toArray })
   (Obj.mapFields (·.setIfInBounds 1 (Value.ref h₁.objs.size))) (Ne.symm hTe)).trans (Heap.get?_push_size h₁ rfl)
  unfold setFlight
  refine wpAny_bind (wpAny_field he₃ hd₃ (x:=.ref h₁.objs.size) (by simp[hvs]) ?_)
  rw[if_pos (show (Value.ref h₁.objs.size != Value.none)=true from by simp)]
  refine wpAny_setField hT₃ rfl (by simp only[List.size_toArray,List.length_append,List.length_cons,List.length_nil]<;>omega) ?_
  have keep:∀ b ob,b≠a→h₁.get? b=some ob→
    (((h₁.push { cls:=.type "traceback",dict:=none,data:=.fields ([head,.ref X.env.locals,.none,rawInt X.env.locals,.none]++(if pl.isEmpty then List.replicate 6 Value.none else pl)).toArray }).update a (Obj.mapFields (·.setIfInBounds 1 (Value.ref h₁.objs.size)))).update h₁.objs.size
     (Obj.mapFields (·.setIfInBounds 3 ((none:Option Addr).elim Value.none fun f=>rawInt f)))).get? b=some ob:=fun b ob hbe hb=>by
   have hbT:h₁.objs.size≠b:=Nat.ne_of_gt (Heap.lt_size hb)
   rw[Heap.get?_update_other _ _ hbT,Heap.get?_update_other _ _ (Ne.symm hbe)]
   exact Heap.get?_push_of_some _ hb
  have hea:=he₃
  have hT4:=Heap.get?_update_self (Obj.mapFields (·.setIfInBounds 3 ((none:Option Addr).elim Value.none fun f=>rawInt f))) hT₃ (Obj.isFreed_of_fields (Obj.data_mapFields rfl _))
  rw[← Heap.get?_update_other _ (Obj.mapFields (·.setIfInBounds 3 ((none:Option Addr).elim Value.none fun f=>rawInt f))) hTe] at hea
  revert keep hea hT4
  generalize ((h₁.push { cls:=.type "traceback",dict:=none,data:=.fields ([head,.ref X.env.locals,.none,rawInt X.env.locals,.none]++(if pl.isEmpty then List.replicate 6 Value.none else pl)).toArray }).update a (Obj.mapFields (·.setIfInBounds 1 (Value.ref h₁.objs.size)))).update h₁.objs.size
     (Obj.mapFields (·.setIfInBounds 3 ((none:Option Addr).elim Value.none fun f=>rawInt f)))=h'
  intro keep hea hT4
  rw[he] at e0;cases e0
  have hx:yck a C dx h':=⟨_,_,hea,(Obj.cls_mapFields _ _).trans c0,(mapDict _ _).trans d0,hd₃⟩
  obtain ⟨un,ho,fr,nw⟩:=fly_un (T':=h₁.objs.size) I ha hs₁' rfl keep hx
  refine k h' h₁.objs.size (I.call' (s':={ s with heap:=h' }) (ch:=[]) rfl un ho I.bare fun b z=>absurd z (by simp)) ⟨⟨_,_,hea,hd₃,by simp[hvs]⟩,hTe,fr,⟨_,_,hT4,Obj.data_mapFields rfl _,?_⟩⟩ nw
  first|(simp;done)|(rcases hpl with rfl|⟨_,_,_,_,_,_,_,rfl⟩<;>simp)
 rcases st with ⟨o,vs,he,hd,h1⟩|⟨T,⟨⟨o,vs,he,hd,h1⟩,hTa,hTn,oT,ts,hT,hdT,h3⟩⟩
 ·unfold noteFrame
  simp only[hf]
  refine wpAny_bind (wpAny_field he hd h1 ?_)
  rw[if_neg (by decide)]
  exact main s.heap _ vs o _ (fun _=>rfl) rfl he hd (Array.getElem?_eq_some_iff.mp h1).1
 ·unfold noteFrame
  simp only[hf]
  refine wpAny_bind (wpAny_field he hd h1 ?_)
  rw[if_pos (show (Value.ref T != Value.none)=true from by simp)]
  refine wpAny_bind (wpAny_field hT hdT h3 ?_)
  rw[if_neg (show ¬ ((Value.none == rawInt X.env.locals)=true) from by simp[rawInt])]
  refine wpAny_bind (wpAny_setField hT hdT (Array.getElem?_eq_some_iff.mp h3).1 ?_)
  refine main (s.heap.update T (Obj.mapFields (·.setIfInBounds 3 Value.none))) _ vs o _ (fun b=>?_) (Heap.size_after_update ..) he hd (Array.getElem?_eq_some_iff.mp h1).1
  by_cases hb:b=T
  ·subst hb
   rw[hT]
   have:=Heap.get?_update_self (Obj.mapFields (·.setIfInBounds 3 Value.none)) hT (Obj.isFreed_of_fields (Obj.data_mapFields hdT _))
   rw[ylg hdT h3] at this
   exact this
  ·exact Heap.get?_update_other _ _ (Ne.symm hb)
end
section
variable {X:Cx}{pins:List (Addr×Obj)}{σ:St}{H:Hp}{s:Shared}{a C:Addr}{dx:Option Addr}
theorem Inv.xq (I:Inv X pins σ H s) (ha:H a=some (.ext (yb8 a C dx))):Inv X pins σ (upd H a (.ext (yck a C dx))) s:=by
 have o:=(I.hok a _ ha)
 have w:=I.write (x:=a) (e:=a) (o:=.ext (yck a C dx)) (h':=s.heap) (t':=s.toks) (by rw[ha];exact True.intro) (.inl rfl) (fun _ _ _ e=>e) o.2.1 (yjg o.1.q)
 exact w
theorem raw_of {P:Program}{w:World}{h:Heap} (ok:HOk P w H h) (ha:H a=some (.ext (yb8 a C dx))):Raw h a:=by
 obtain ⟨⟨o,vs,e,_,_,dt,r⟩,_⟩:=ok a _ ha
 exact ⟨o,vs,e,dt,r⟩
end
section
variable {P:Program}{w:World}{K:PySem.W.Frag}{mg:Str→Option Value}{base:Heap}{N:List Str}{qual:Str}{scope:Scope}{f:Addr}{cd:Value}{A:Around}{outer:List Env}{s0:Shared}{H0:Hp}{E:XK}
noncomputable abbrev cxX (P:Program) (w:World) (K:PySem.W.Frag) (mg:Str→Option Value) (base:Heap) (N:List Str) (qual:Str) (scope:Scope) (f:Addr) (cd:Value) (A:Around) (outer:List Env) (s0:Shared) (H0:Hp) (E:XK):Cx:=
 cxOf (CX1 P w) P w K mg base N qual scope f cd A outer s0 H0 E
theorem leaves {pins:List (Addr×Obj)}{σ:St}{H:Hp}{s:Shared}{a C:Addr}{dx:Option Addr} (I:Inv (cxX P w K mg base N qual scope f cd A outer s0 H0 E) pins σ H s) (ha:H a=some (.ext (yck a C dx))) (st:Raw s.heap a∨∃ T,Fly s.heap H a T)
  (hE:E (.ref a) none H):(cxX P w K mg base N qual scope f cd A outer s0 H0 E).xe (.ref a) s:=by
 show wpAny _ _ (leaving _ _) _ _ _
 unfold leaving
 exact wpAny_bind (qjw (X:=cxX P w K mg base N qual scope f cd A outer s0 H0 E) I rfl rfl ha st fun h' T' I' fl _=>⟨a,T',C,dx,H,rfl,I'.os,I'.bare,I'.base,I'.hok,ha,fl,hE⟩)
theorem ygw:yd4 (CX1 P w) (cxX P w K mg base N qual scope f cd A outer s0 H0 E) E:=by
 intro pins σ H s e s' I h
 obtain ⟨a,T,C,dx,H',rfl,ho,hb,un,hok,ha,fl,hE⟩:=h
 exact leaves (I.call' (ch:=[]) ho un hok hb fun b z=>absurd z (by simp)) ha (.inr ⟨T,fl⟩) hE
theorem yeq:PassesOwn (model P w) (cxX P w K mg base N qual scope f cd A outer s0 H0 E).A (cxX P w K mg base N qual scope f cd A outer s0 H0 E).env (cxX P w K mg base N qual scope f cd A outer s0 H0 E).xe:=PassesOwn.leaving
noncomputable def tRaise (K:PySem.W.Frag) (E:XK) (te:TE):TS:=fun _ σ H=>te σ H fun v H1=>∃ a C dx,v=.ref a∧XTy K C∧H1 a=some (.ext (yb8 a C dx))∧E (.ref a) none (upd H1 a (.ext (yck a C dx)))
theorem ql1 {M:Model}{A:Around}{E:Value→Shared→Prop}{env:Env}{s:Shared}{a C:Addr}{o:Obj}{vs:Array Value}{Q:Flow→Shared→Prop} (X:K.In s.heap) (cx:qfm K C=true) (hh:A.handled=none) (hx:s.heap.get? a=some o) (hc:o.cls=.ref C) (hd:o.data=.fields vs) (h1:vs[1]?=some .none)
  {x:Sem Value}{s₀:Shared} (hE:E (.ref a) s) (h:∀ {R:Value→Shared→Prop},R (.ref a) s→wpAny M A x R E s₀):wpAny M A (raiseStmt env (some x) none) Q E s₀:=by
 obtain ⟨nm,qn,N,bs,bm,sn,sub,ab,col,dd,k0,k1,k2,k3,k5,cC,T⟩:=ye7 X cx
 have hob:(Value.ref C::bm).contains (.type "BaseException")=true:=by rw[List.contains_cons,T.hasType PySem.F.excBase_ValueError.hasBase];rfl
 unfold raiseStmt
 refine wpAny_bind (h ?_)
 obtain ⟨hp,g,d,tk,os⟩:=s
 have cC:hp.get? C=_:=cC
 have hx:hp.get? a=some o:=hx
 have hnt:(match o.data with | .cls _=>true|_=>false)=false:=by rw[hd]
 unfold excFromValue isExcClass isInstance
 repeat (first|(with_reducible refine wpAny_loadPart_at hx ?_;first|rw[hc]|(dsimp only;rw[hd]))|(with_reducible refine wpAny_loadPart_at cC ?_)|(with_reducible refine wpAny_isSubtype_exc cC ?_;rw[hob])|wp_step)
 rw[hd]
 refine wpAny_pure ?_
 rw[h1]
 refine wpAny_pure ?_
 rw[if_neg (by decide)]
 exact wpAny_pure (wpAny_raiseNew_none hh hE)
theorem qb3 {x:Expr}{te:TE}{pos:Pos} (he:PE (cxX P w K mg base N qual scope f cd A outer s0 H0 E) x te):PS (cxX P w K mg base N qual scope f cd A outer s0 H0 E) (.Raise (some x) none pos) (tRaise K E te):=by
 intro pins s σ H D I h
 rw[arm_exec_Raise]
 refine wpAny_bind (wpAny_standAt ?_)
 have hx:=he pins s σ H _ I h
 show wpAny _ _ (raiseStmt _ (some (do let v ← eval x _;standAt pos;pure v)) none) _ _ _
 unfold raiseStmt
 refine wpAny_bind (wpAny_bind (thn hx fun v s1 ⟨y,H1,I1,r,a,C,dx,ey,ty,ha,q⟩=>?_))
 subst ey
 obtain rfl:v=Value.ref a:=r
 refine wpAny_bind (wpAny_standAt (wpAny_pure ?_))
 obtain ⟨⟨o,vs,e1,e2,e3,e4,e5⟩,_⟩:=I1.hok a _ ha
 have lv:=leaves (I1.xq ha) yaa (.inl (raw_of I1.hok ha)) q
 have:=ql1 (A:=(cxX P w K mg base N qual scope f cd A outer s0 H0 E).A) (env:=(cxX P w K mg base N qual scope f cd A outer s0 H0 E).env) (M:=model P w) (Q:=SP (cxX P w K mg base N qual scope f cd A outer s0 H0 E) pins D) (x:=pure (.ref a)) (s₀:=s1) I1.kIn ty.cx (I1.ok.hd rfl) e1 e2 e4 e5 lv (fun {R} hR=>wpAny_pure hR)
 unfold raiseStmt at this
 exact this
end
noncomputable def HasX (P:Program) (w:World) (K:PySem.W.Frag) (mg:Str→Option Value) (base:Heap) (k:Nat) (x:Str) (ps:List Str) (sp:Sp):Prop:=
 ∃ f fd,mg x=some (.ref f)∧PySem.W.keepIn K (.ref f)=true∧qcu K fd ps []∧FnOk P w K mg base (CX1 P w) k f fd ps sp
section
variable {P:Program}{w:World}{K:PySem.W.Frag}{mg:Str→Option Value}{base:Heap}
theorem FnOk.x {k:Nat}{f:Addr}{fd:FuncData}{ps:List Str}{sp:Sp} (F:FnOk P w K mg base CX0 k f fd ps sp):FnOk P w K mg base (CX1 P w) k f fd ps sp:=
 ⟨F.len,fun A outer s H args us vs Q E hr he hb hv hs=>codeAny_mono (F.run A outer s H args us vs Q E hr he hb hv hs) fun r s' h=>by
  cases r with
  | error e=>exact h.elim
  | ok fl=>cases fl<;>exact h⟩
theorem FnOk.ofX {x qual:Str}{st:Stmt}{f:Addr}{fd:FuncData}{N ps:List Str}{k:Nat}{sp:Sp} (F:Fun K x qual st f fd) (S:FnScope N ps (yac st)) (len:∀ vs H Q E,sp vs H Q E→vs.length=ps.length)
  (hbody:∀ (cdv:Value) (A:Around) (outer:List Env) (s:Shared) (H:Hp) (vs:List V) (Q:VK) (E:XK),Room k (A.deeper (envOfC qual (yac st) s.heap.objs.size f cdv))→sp vs H Q E→
   ∃ t,Mx.QSs (cxX P w K mg base N qual (yac st) f cdv A outer s H E) (yay st) t∧t { nx:=fun _ H'=>Q .non H',rt:=Q } (yet N vs) H):FnOk P w K mg base (CX1 P w) (k+1) f fd ps sp:=by
 obtain ⟨oc,od,kV,doc,pm,an,cdv,ct,osl,rfl,lk,hcd⟩:=F.ex
 refine fn_of lk hcd S len fun A outer s H vs Q E hr hsp=>?_
 obtain ⟨t,h,q⟩:=hbody cdv A outer s H vs Q E hr hsp
 exact ⟨t,h.of,q⟩
theorem HasX.of {x:Str}{st:Stmt}{ps N:List Str}{k:Nat}{sp:Sp} (F:FnAt K mg x st ps) (S:FnScope N ps (yac st)) (len:∀ vs H Q E,sp vs H Q E→vs.length=ps.length)
  (hbody:∀ (f:Addr) (cdv:Value) (A:Around) (outer:List Env) (s:Shared) (H:Hp) (vs:List V) (Q:VK) (E:XK),Room k (A.deeper (envOfC x (yac st) s.heap.objs.size f cdv))→sp vs H Q E→
   ∃ t,Mx.QSs (cxX P w K mg base N x (yac st) f cdv A outer s H E) (yay st) t∧t { nx:=fun _ H'=>Q .non H',rt:=Q } (yet N vs) H):HasX P w K mg base (k+1) x ps sp:=by
 obtain ⟨f,fd,h1,h2,h3⟩:=F
 exact ⟨f,fd,h1,h2.kp,h3,FnOk.ofX h2 S len fun cdv A outer s H vs Q E hr h=>hbody f cdv A outer s H vs Q E hr h⟩
end
section
variable {X:Cx}{e o:Expr}{es:List Expr}{ta:TE}{t:TA}{p pos apos:Pos}{x m:Str}{C:Addr}{E:XK}
theorem qcd {k n:Nat}{ps:List Str}{sp:Sp} (h:HasX X.prog X.w X.K X.mg X.base k x ps sp) (hx:yd4 (CX1 X.prog X.w) X E) (hr:Room n X.A) (ha:PA X (e::es) t) (hk:k≤n:=by decide) (hg:Gl X x:=by rfl)
  (hdb:(x == ("__debug__" : Str))=false:=by decide) (he:starEach (e::es) X.env=(false,eval e X.env)::starEach es X.env:=by rfl) (hpl:(backTo pos (starEach es X.env)).any (·.1)=false:=by rfl) :
  PE X (.Call (.Name x p) (e::es) [] pos) (yme sp [] E t):=by
 obtain ⟨f,fd,h1,h2,h3,h4⟩:=h
 exact qlc h4 (hr.mono hk) hg h1 h2 h3 .nil hx ha hdb he hpl
end
noncomputable abbrev Cx.sui (X:Cx) (e:Value):Cx:={ X with A:=X.A.mark (some e),calm:=false }
section
variable {X:Cx}{pins:List (Addr×Obj)}{σ:St}{H:Hp}{s:Shared}{v:Value}
theorem Cx.Ok.sui (ok:X.Ok) (v:Value):(X.sui v).Ok:=
 ⟨ok.mod,ok.kind,ok.glob,ok.blt,ok.above,ok.inj,ok.has,ok.cab,(fun h=>nomatch h),ok.frames,ok.stk,ok.exf,ok.bs,ok.bsz,ok.noex,ok.exfs,ok.funs,ok.frf⟩
theorem Inv.sui (I:Inv X pins σ H s) (v:Value):Inv (X.sui v) pins σ H s:=⟨I.ok.sui v,I.os,I.bare,I.base,I.loc,I.cell,I.free,I.freeC,I.pin,I.hok,I.len⟩
theorem Inv.unsui (ok:X.Ok) (I:Inv (X.sui v) pins σ H s):Inv X pins σ H s:=⟨ok,I.os,I.bare,I.base,I.loc,I.cell,I.free,I.freeC,I.pin,I.hok,I.len⟩
theorem goes_ok {M:Model}{A:Around}{E:Value→Shared→Prop}{i:Nat}{x:Str}{pos:Pos}{Q:Unit→Shared→Prop} (I:Inv X pins σ H s) (hN:X.N.Nodup) (hi:X.N[i]?=some x) (hk:X.env.scope.names.lookup x=some .local)
  (h:∀ s',Inv X pins (σ.set i none) H s'→Q () s'):wpAny M A (do bindName X.env x .none;unbindBehindTheSuite X.env x pos) Q E s:=by
 obtain ⟨m,hn,hl⟩:=id I.loc
 have hcls:(X.env.scope.kind == .class||(X.env.scope.kind == .module&&X.env.locals != X.env.globals))=false:=by rw[I.ok.kind];rfl
 have cne:=I.cne
 refine wpAny_nameGoes_keeps hk hn hcls fun h' v hn' hs=>?_
 obtain ⟨oL,_,_,hoL,_⟩:=id hn
 have tracked:HOk X.prog X.w H h':=fun b ob e=>by
  refine (I.hok b ob e).stay (fun c w' hc q=>(hs.2 c ?_).trans q) (fun _ q=>q) fun _ _ q=>q
  rintro rfl
  rcases hc with rfl|hc
  ·rw[I.free] at e;cases e
  ·rw[I.free] at hc;cases hc
 refine h _ ⟨I.ok,I.os,I.bare,⟨fun b o e n hb hx=>?_,fun b o e n hb hx=>?_,I.base.free,fun b o e hx=>?_,I.base.tups,I.base.frzs,I.base.tbls⟩,⟨_,hn',fun j y v' e1 e2 e3=>?_⟩,fun y c e=>?_,I.free,I.freeC,fun p hp=>?_,tracked,by simpa using I.len⟩
 ·exact (hs.2 b (Nat.ne_of_lt (Nat.lt_of_lt_of_le (Heap.lt_size e) I.ok.above))).trans (I.base.keep b o e n hb hx)
 ·obtain ⟨sl,e1⟩:=I.base.slot b o e n hb hx
  exact ⟨sl,(hs.2 b (Nat.ne_of_lt (Nat.lt_of_lt_of_le (Heap.lt_size e) I.ok.above))).trans e1⟩
 ·obtain ⟨o',e1⟩:=I.base.there b o e hx
  exact ⟨o',(hs.2 b (Nat.ne_of_lt (Nat.lt_of_lt_of_le (Heap.lt_size e) I.ok.above))).trans e1⟩
 ·by_cases hj:i=j
  ·subst hj
   rw[List.getElem?_set_self (by have:=(List.getElem?_eq_some_iff.mp hi).1;rw[I.len];exact this)] at e2
   cases e2
  ·rw[List.getElem?_set_ne hj] at e2
   obtain ⟨u',r',q⟩:=hl j y v' e1 e2 e3
   refine ⟨u',r',?_⟩
   rcases q with ⟨k,e⟩|⟨k,c,e,z⟩
   ·refine .inl ⟨k,?_⟩
    have:y≠x:=fun e=>hj (yhf hN hi (e ▸ e1))
    simp[this,e]
   ·exact .inr ⟨k,c,e,z.sameBut hs (cne y c e)⟩
 ·obtain ⟨w',z⟩:=I.cell y c e
  exact ⟨w',z.sameBut hs (cne y c e)⟩
 ·obtain ⟨e,n,ne,nf,d⟩:=I.pin p hp
  exact ⟨(hs.2 p.1 ne).trans e,n,ne,nf,d⟩
theorem yiw {M:Model}{A:Around}{E:Value→Shared→Prop}{a T:Addr}{Q:Unit→Shared→Prop} (I:Inv X pins σ H s) (fl:Fly s.heap H a T) (h:∀ s',Inv X pins σ H s'→Fly s'.heap H a T→Q () s'):wpAny M A (setFlight (.ref a) none) Q E s:=by
 obtain ⟨⟨o,vs,he,hd,h1⟩,hTa,hTn,oT,ts,hT,hdT,h3⟩:=fl
 refine wpAny_setFlight_none he hd h1 hT hdT (Array.getElem?_eq_some_iff.mp h3).1 ?_
 have same:∀ b u,s.heap.get? b=some u→(s.heap.update T (Obj.mapFields (·.setIfInBounds 3 Value.none))).get? b=some u:=fun b u e=>by
  by_cases hb:b=T
  ·subst hb
   have:=Heap.get?_update_self (Obj.mapFields (·.setIfInBounds 3 Value.none)) hT (Obj.isFreed_of_fields (Obj.data_mapFields hdT _))
   rw[ylg hdT h3] at this
   rw[hT] at e;cases e
   exact this
  ·exact (Heap.get?_update_other _ _ (Ne.symm hb)).trans e
 exact h _ (I.kept (t':=s.toks) same) ⟨⟨o,vs,same _ _ he,hd,h1⟩,hTa,hTn,oT,ts,same _ _ hT,hdT,h3⟩
noncomputable def XP (X:Cx) (pins:List (Addr×Obj)) (R:St→V→Hp→Prop) (e:Value) (s':Shared):Prop:=∃ a T C dx σ' H',e=.ref a∧Inv X pins σ' H' s'∧H' a=some (.ext (yck a C dx))∧Fly s'.heap H' a T∧R σ' (.ref a) H'
noncomputable def PSx (X:Cx) (sts:List Stmt) (t:(St→V→Hp→Prop)→TS):Prop:=
 ∀ (pins:List (Addr×Obj)) (s:Shared) (σ:St) (H:Hp) (D:Ends) (R:St→V→Hp→Prop),Inv X pins σ H s→t R D σ H→wpAny (model X.prog X.w) X.A (execs sts X.env) (SP X pins D) (XP X pins R) s
noncomputable def PEx (X:Cx) (e:Expr) (t:(V→Hp→Prop)→TE):Prop:=
 ∀ (pins:List (Addr×Obj)) (s:Shared) (σ:St) (H:Hp) (Q:VK) (R:V→Hp→Prop),Inv X pins σ H s→t R σ H Q→wpAny (model X.prog X.w) X.A (eval e X.env) (EP X pins σ Q) (XP X pins fun σ' v H'=>σ'=σ∧R v H') s
noncomputable def rxE (R:V→Hp→Prop):XK:=fun e _ H'=>∃ a,e=.ref a∧R (.ref a) H'
variable {e:Expr}{es:List Expr}{p pos apos:Pos}{x m:Str}{C:Addr}{t:TA}{te ta:TE}
theorem ylo {k:Nat}{f:Addr}{fd:FuncData}{ps:List Str}{sp:Sp}{Q:VK}{R:V→Hp→Prop}{us:List Value}{vs:List V} (F:FnOk X.prog X.w X.K X.mg X.base (CX1 X.prog X.w) k f fd ps sp) (hr:Room k X.A) (hb:qcu X.K fd ps [])
  (I:Inv X pins σ H s) (r:Vals vs us) (h:sp vs H Q (rxE R)):wpAny (model X.prog X.w) X.A (call (.ref f) us) (EP X pins σ Q) (XP X pins fun σ' v H'=>σ'=σ∧R v H') s:=by
 have hl:us.length=ps.length:=by rw[← r.length];exact F.len _ _ _ _ h
 have bb:=hb s us I.kIn (by rw[List.append_nil];exact hl)
 rw[List.append_nil] at bb
 refine wpAny_call (codeAny_mono (F.run X.A X.stack s H ⟨us,[]⟩ us vs Q (rxE R) hr I.env0 bb r h) fun r s' hq=>?_)
 cases r with
 | error e=>
  obtain ⟨a,T,C,dx,H',rfl,ho,hba,un,hok,ha,fl,a',ea,hR⟩:=hq
  cases ea
  exact ⟨a,T,C,dx,σ,H',rfl,I.call' (ch:=[]) ho un hok hba fun b z=>absurd z (by simp),ha,fl,rfl,hR⟩
 | ok fl=>
  cases fl with
  | ret u=>exact I.after hq
  | next=>exact False.elim hq
  | brk=>exact False.elim hq
  | cont=>exact False.elim hq
noncomputable def tCallx (sp:Sp) (t:TA) (R:V→Hp→Prop):TE:=fun σ H Q=>t σ H fun vs H1=>sp vs H1 Q (rxE R)
theorem pex_call {k n:Nat}{ps:List Str}{sp:Sp} (hx:∀ e s,¬ X.xe e s) (h:HasX X.prog X.w X.K X.mg X.base k x ps sp) (hr:Room n X.A) (ha:PA X (e::es) t) (hk:k≤n:=by decide) (hg:Gl X x:=by rfl)
  (hdb:(x == ("__debug__" : Str))=false:=by decide) (he:starEach (e::es) X.env=(false,eval e X.env)::starEach es X.env:=by rfl) (hpl:(backTo pos (starEach es X.env)).any (·.1)=false:=by rfl) :
  PEx X (.Call (.Name x p) (e::es) [] pos) (tCallx sp t):=by
 intro pins s σ H Q R I h'
 obtain ⟨f,fd,h1,h2,h3,h4⟩:=h
 refine wpAny_Call_Name_kw (yd8 I hg h1 ?_ hdb)
 refine PySem.W.callWith_K (h₀:=X.base) I.ok.mod.kin h2 (wpAny_mono (ha pos pins s σ H _ I h') (fun us s1 ⟨vs,H1,I1,r,q⟩=>⟨I1.kIn,?_⟩) fun e s z=>(hx e s z).elim) he hpl
 exact ylo h4 (hr.mono hk) h3 I1 r q
noncomputable def sSetx (i:Nat) (te:(V→Hp→Prop)→TE) (R:St→V→Hp→Prop):TS:=fun D σ H=>te (R σ) σ H fun v H1=>D.nx (σ.set i (some v)) H1
theorem yly {i:Nat}{pos':Pos}{te:(V→Hp→Prop)→TE} (hN:X.N.Nodup) (hi:X.N[i]?=some x) (hx:Loc X.env.scope x) (he:PEx X e te) (hs:swapsWith e (some (.Name x pos')) pos.line X.env=pure false:=by rfl)
  (hf:X.fn x=true∨X.env.scope.names.lookup x=some .local:=by first|exact .inl rfl|exact .inr rfl|assumption):PSx X [.Assign [.Name x pos'] e pos] (sSetx i te):=by
 intro pins s σ H D R I h
 refine wpAny_execs_cons ?_
 refine wpAny_Assign_Name (wpAny_mono (he pins s σ H _ (R σ) I h) (fun u s1 ⟨y,H1,I1,ry,q⟩=>?_) fun e s' ⟨a,T,C,dx,σ',H',r1,r2,r3,r4,e1,r5⟩=>⟨a,T,C,dx,σ',H',r1,r2,r3,r4,by rw[e1];exact r5⟩) hs
 exact qft I1 hN hi hx ry (fun s2 I2=>wpAny_execs_nil ⟨_,_,I2,q⟩) hf
noncomputable def sIfx (tc:TT) (t u:(St→V→Hp→Prop)→TS) (R:St→V→Hp→Prop):TS:=fun D σ H=>tc σ H fun b H1=>if b=true then t R D σ H1 else u R D σ H1
theorem psx_if {c:Expr}{a b:List Stmt}{tc:TT}{t u:(St→V→Hp→Prop)→TS} (hx:∀ e s,¬ X.xe e s) (hc:PT X c tc) (ha:PSx X a t) (hb:PSx X b u):PSx X [.If c a b pos] (sIfx tc t u):=by
 intro pins s σ H D R I h
 refine wpAny_execs_cons ?_
 refine wpAny_If (wpAny_mono (hc pins s σ H _ I h) (fun d s1 ⟨H1,I1,q1⟩=>?_) fun e s z=>(hx e s z).elim)
 have fin:∀ (f:Flow) (s':Shared),SP X pins D f s'→(match f with | .next=>wpAny (model X.prog X.w) X.A (execs [] X.env) (SP X pins D) (XP X pins R) s' | f=>SP X pins D f s'):=fun f s' z=>by
  cases f<;>first|exact z|exact wpAny_execs_nil z
 cases d with
 | true=>exact wpAny_mono (ha pins s1 σ H1 D R I1 q1) (fun f s' z=>by cases f<;>first|exact z|exact wpAny_execs_nil z) fun _ _ z=>z
 | false=>exact wpAny_mono (hb pins s1 σ H1 D R I1 q1) (fun f s' z=>by cases f<;>first|exact z|exact wpAny_execs_nil z) fun _ _ z=>z
noncomputable def sTry (K:PySem.W.Frag) (M:Addr) (iy jn:Nat) (tb:(St→V→Hp→Prop)→TS):TS:=fun D σ H=>tb (fun σ' v H'=>∃ a C fs,v=.ref a∧XAt H' a C fs∧PySem.W.exmOne K (.ref C) (.ref M)=some true∧D.nx (((σ'.set jn (some v)).set iy (some v)).set jn none) H') D σ H
theorem ps_try {body:List Stmt}{cx n y:Str}{M:Addr}{iy jn:Nat}{tb:(St→V→Hp→Prop)→TS}{p1 p2 p3 p4 p5:Pos} (hx:∀ e s,¬ X.xe e s) (hst:X.stack=X.env::X.outer) (hfr:X.env.frame=some X.env.locals) (hb:PSx X body tb)
  (hN:X.N.Nodup) (hj:X.N[jn]?=some n) (hn:X.env.scope.names.lookup n=some .local) (hi:X.N[iy]?=some y) (hy:Loc X.env.scope y) (hne:jn≠iy) (hg:Gl X cx) (hm:X.mg cx=some (.ref M)) (hdb:(cx == ("__debug__" : Str))=false:=by decide) (hdn:(n == ("__debug__" : Str))=false:=by decide) (hcn:(n == ("__classdict__" : Str))=false:=by decide)
  (hf:X.fn y=true∨X.env.scope.names.lookup y=some .local:=by first|exact .inl rfl|exact .inr rfl|assumption)
  (hs:swapsWith (.Name n p3) (some (.Name y p2)) p4.line X.env=pure false:=by rfl) :
  PS X (.Try body [.ExceptHandler (some (.Name cx p1)) (some n) [.Assign [.Name y p2] (.Name n p3) p4] p5] [] [] pos) (sTry X.K M iy jn tb):=by
 intro pins s σ H D I h
 refine wpAny_Try_except (wpAny_mono (hb pins s σ H D _ I h) (fun f s' z=>by cases f<;>first|exact z|exact wpAny_execs_nil z) ?_)
 rintro e s1 ⟨a,T,C,dx,σ',H',rfl,I1,ha,fl,a',C',fs,ea,xa,em,q⟩
 cases ea
 refine qjw I1 hst hfr ha (.inr ⟨T,fl⟩) fun h' T' I2 fl2 _=>?_
 have I2m:=I2.sui (.ref a)
 refine wpAny_handleBy_cons (codeAny_handlers_test ?_) (by intro q;cases q)
 refine yd8 (X:=X.sui (.ref a)) I2m hg hm ?_ hdb
 obtain ⟨ox,od,ia⟩:=xa.at I2
 refine (exm_one (M:=model X.prog X.w) I2.kIn ia.type em).here ?_
 refine codeAny_handlers_suite_as ?_
 refine yiw I2 fl2 fun s3 I3 fl3=>?_
 refine qft (i:=jn) (x:=n) (v:=.ref a) I3 hN hj (.inl hn) rfl (fun s4 I4=>?_) (.inr hn)
 have hp:=yaf (qa2 (X:=(X.sui (.ref a)).nox) (pos:=p4) (i:=iy) (x:=y) (pos':=p2) hN hi hy (pe_var (i:=jn) (pos:=p3) hj (.inl hn) hdn hcn) hs hf)
 refine wpAny_mono (hp pins s4 _ H' { nx:=fun σ2 H2=>σ2=((σ'.set jn (some (.ref a))).set iy (some (.ref a)))∧H2=H',rt:=fun _ _=>False } ((I4.sui (.ref a)).wish _) ⟨_,?_,rfl,rfl⟩) (fun f s5 z=>?_) fun _ _ z=>z.elim
 ·rw[List.getElem?_set_self]
  have:=(List.getElem?_eq_some_iff.mp hj).1
  rw[I3.len];exact this
 ·cases f with
  | next=>
   obtain ⟨σ5,H5,I5,rfl,rfl⟩:=z
   have I6:Inv X pins _ H5 s5:=Inv.unsui I2.ok I5.unwish
   exact goes_ok I6 hN hj hn fun s7 I7=>⟨_,_,I7,q⟩
  | brk=>obtain ⟨_,_,_,z⟩:=z;exact z.elim
  | cont=>obtain ⟨_,_,_,z⟩:=z;exact z.elim
  | ret u=>obtain ⟨_,_,_,_,_,z⟩:=z;exact z.elim
end
noncomputable def qj9 (P:Program) (w:World) (K:PySem.W.Frag) (mg:Str→Option Value) (base:Heap) (x:Str) (C:Addr) (ps:List Str) (sp:Sp):Prop:=
 mg x=some (.ref C)∧PySem.W.keepIn K (.ref C)=true∧XOk K C∧∃ f fd,PySem.W.findIn K (.ref C) "__init__" = some (some (.ref f))∧PySem.W.isFn K (.ref f)=true∧qcu K fd ps []∧FnOk P w K mg base CX0 1 f fd ps sp
noncomputable def ylr (K:PySem.W.Frag) (mg:Str→Option Value) (x:Str) (C:Addr):Prop:=
 mg x=some (.ref C)∧PySem.W.keepIn K (.ref C)=true∧XTy K C∧PySem.W.excIn K C bmV "ValueError.__new__" = true
noncomputable def sp_x1 (C:Addr) (f:Str):Sp:=fun vs H Q _=>∃ a v,vs=[.ref a,v]∧XD H a C none []∧∀ d H',XD H' a C (some d) [(f,v)]→SetX a d none H H'→Q .non H'
noncomputable def sp_x2 (C:Addr) (f g:Str):Sp:=fun vs H Q _=>∃ a v u,vs=[.ref a,v,u]∧XD H a C none []∧∀ d H',XD H' a C (some d) [(f,v),(g,u)]→SetX a d none H H'→Q .non H'
theorem SetX.then2 {a d d2:Addr}{H H1 H2:Hp} (x:SetX a d none H H1) (y:SetX a d2 (some d) H1 H2):d2=d∧SetX a d none H H2:=by
 have e:d2=d:=by
  rcases y.dd with e|⟨e,_⟩
  ·exact (Option.some.inj e).symm
  ·cases e
 subst e
 exact ⟨rfl,x.dd,fun b o hb h1 h2=>y.kp b o (x.kp b o hb h1 h2) h1 h2⟩
theorem SetX.sm {a d:Addr}{H H1 H':Hp}{o:HO} (hn:H a=none) (e:H1=upd H a o) (x:SetX a d none H1 H'):Same H H':=by
 subst e
 intro b o hb
 refine x.kp b o (by rw[yai (yae hb hn)];exact hb) (yae hb hn) ?_
 rcases x.dd with z|⟨_,z⟩
 ·cases z
 ·intro q
  subst q
  rw[yai (yae hb hn),hb] at z
  cases z
section
variable {X:Cx}{e o:Expr}{es:List Expr}{t:TA}{ta:TE}{p pos apos:Pos}{x m:Str}{C:Addr}
theorem qkl {n:Nat}{ps:List Str}{sp:Sp} (h:qj9 X.prog X.w X.K X.mg X.base x C ps sp) (hr:Room n X.A) (ha:PA X (e::es) t) (hk:2≤n:=by decide) (hg:Gl X x:=by rfl) (hdb:(x == ("__debug__" : Str))=false:=by decide)
  (he:starEach (e::es) X.env=(false,eval e X.env)::starEach es X.env:=by rfl) (hpl:(backTo pos (starEach es X.env)).any (·.1)=false:=by rfl):PE X (.Call (.Name x p) (e::es) [] pos) (tXMake C sp t):=by
 obtain ⟨h1,h2,h3,f,fd,h4,h5,h6,h7⟩:=h
 exact pe_xmake h3 h4 h5 h7 (hr.mono hk) h6 h2 hg h1 ha hdb he hpl
theorem pe_x0 (h:ylr X.K X.mg x C) (ha:PA X (e::es) t) (hg:Gl X x:=by rfl) (hdb:(x == ("__debug__" : Str))=false:=by decide)
  (he:starEach (e::es) X.env=(false,eval e X.env)::starEach es X.env:=by rfl) (hpl:(backTo pos (starEach es X.env)).any (·.1)=false:=by rfl):PE X (.Call (.Name x p) (e::es) [] pos) (qk7 C t):=by
 obtain ⟨h1,h2,h3,h4⟩:=h
 exact qma h4 h2 hg h1 ha hdb he hpl
end
noncomputable def HasMX (P:Program) (w:World) (K:PySem.W.Frag) (mg:Str→Option Value) (base:Heap) (C:Addr) (k:Nat) (m:Str) (ps:List Str) (sp:Sp):Prop:=
 ∃ f fd,Meth K C m f∧qcu K fd ps []∧FnOk P w K mg base (CX1 P w) k f fd ps sp
noncomputable def qln (P:Program) (w:World) (K:PySem.W.Frag) (mg:Str→Option Value) (base:Heap) (C:Addr) (k:Nat) (x:Str) (ps:List Str) (sp:Sp):Prop:=
 ∃ f fd,mg x=some (.ref C)∧Mk K C f∧qcu K fd ps []∧FnOk P w K mg base (CX1 P w) k f fd ps sp
section
variable {P:Program}{w:World}{K:PySem.W.Frag}{mg:Str→Option Value}{base:Heap}{C:Addr}
theorem qln.of {x m:Str}{ps:List Str}{k:Nat}{sp:Sp}{f:Addr} (hm:mg x=some (.ref C)) (M:Mk K C f) (u:∀ g,Meth K C "__init__" g→g=f) (h:HasMX P w K mg base C k "__init__" ps sp):qln P w K mg base C k x ps sp:=by
 obtain ⟨g,fd,h1,h2,h3⟩:=h
 have:=u g h1
 subst this
 exact ⟨g,fd,hm,M,h2,h3⟩
end
theorem qhw {H H':Hp}{a d C:Addr}{fs:List (Str×V)} (hn:H a=none) (x:XD H' a C (some d) fs) (sx:SetX a d none (upd H a (.ext (yb8 a C none))) H') :
  H' a=some (.ext (yb8 a C (some d)))∧Same H (upd H' a (.ext (yck a C (some d))))∧XAt (upd H' a (.ext (yck a C (some d)))) a C fs:=by
 rcases x with ⟨e,_⟩|⟨d',e,h1,h2⟩
 ·cases e
 cases e
 have nd:d≠a:=by
  rcases sx.dd with z|⟨_,z⟩
  ·cases z
  ·intro q
   subst q
   rw[yaa] at z
   cases z
 refine ⟨h1,(SetX.sm hn rfl sx).at hn,.inr (.inr (.inr ⟨d,yaa,?_⟩))⟩
 rw[yai nd]
 exact h2
theorem cut_init {xs:List V}:cutV xs none (some (-1))=xs.dropLast:=by
 unfold cutV
 rw[HT.sIx_none,List.drop_zero,Nat.sub_zero,List.dropLast_eq_take]
 congr 1
 unfold HT.sIx
 simp
 omega
end L2
namespace Mx
open PySem L2 PyProof.Rows
section
variable {X:Cx}{o e:Expr}{es:List Expr}{te to:TE}{t:TA}{pos p2:Pos}
theorem qe_sl {lo hi:Option Expr}{tl th:TO}{r:V→Option Int→Option Int→Hp→VK→Prop} (hr:SlR X r) (he:QE X e te) (hl:PO X lo tl) (hu:PO X hi th):QE X (.Subscript e (.Slice lo hi none p2) pos) (tSl r te tl th):=⟨ybs hr he.of hl hu⟩
end
end Mx
namespace L2
open PySem PySem.Spec PyProof.Rows PySem.W
noncomputable def AtX (H:Hp) (v:V) (d:PyData):Prop:=At H v d∨(d=.dict []∧∃ a,v=.ref a∧H a=some (.dK []))
theorem AtX.same {H H':Hp}{v:V}{d:PyData} (h:AtX H v d) (s:Same H H'):AtX H' v d:=by
 rcases h with h|⟨e,a,ea,h⟩
 ·exact .inl (h.same s)
 ·exact .inr ⟨e,a,ea,s _ _ h⟩
noncomputable def tyD:PyData→Value
 | .none=>.type "NoneType"
 | .bool _=>.type "bool"
 | .int _=>.type "int"
 | .str _=>.type "str"
 | .list _=>.type "list"
 | .tuple _=>.type "tuple"
 | .dict _=>.type "dict"
theorem AtX.ty {K:PySem.W.Frag}{H:Hp}{v:V}{d:PyData} (h:AtX H v d):TyOf K H v (tyD d):=by
 rcases h with h|⟨e,a,ea,h⟩
 ·cases h with
  | non=>exact .non
  | bl b=>exact .bl b
  | int i=>exact .int i
  | str x=>exact .str x
  | lst e _=>exact .lst e
  | tup e _=>exact .tup e
 ·subst e ea
  exact .dK h
noncomputable def isTup:PyData→Bool | .tuple _=>true|_=>false
noncomputable def qmf:PyData→Bool | .list _=>true|_=>false
noncomputable def isStr:PyData→Bool | .str _=>true|_=>false
noncomputable def isInt:PyData→Bool | .int _=>true | .bool _=>true|_=>false
noncomputable def isBl:PyData→Bool | .bool _=>true|_=>false
theorem qmm {K:PySem.W.Frag} (d:PyData):PySem.W.kitOne K (tyD d) (.type "tuple")=some (isTup d):=by cases d<;>rfl
theorem yhg {K:PySem.W.Frag} (d:PyData):PySem.W.kitOne K (tyD d) (.type "list")=some (qmf d):=by cases d<;>rfl
theorem qk4 {K:PySem.W.Frag} (d:PyData):PySem.W.kitOne K (tyD d) (.type "str")=some (isStr d):=by cases d<;>rfl
theorem kit_int {K:PySem.W.Frag} (d:PyData):PySem.W.kitOne K (tyD d) (.type "int")=some (isInt d):=by cases d<;>rfl
theorem kit_bl {K:PySem.W.Frag} (d:PyData):PySem.W.kitOne K (tyD d) (.type "bool")=some (isBl d):=by cases d<;>rfl
section
variable {X:Cx}
noncomputable def FnR (X:Cx) (n:Nat) (f:Addr) (vs:List V) (H:Hp) (Q:VK) (E:XK):Prop:=∃ k fd ps sp,k≤n∧qcu X.K fd ps []∧FnOk X.prog X.w X.K X.mg X.base (CX1 X.prog X.w) k f fd ps sp∧sp vs H Q E
noncomputable def tCallEx (X:Cx) (n:Nat) (tf:TE) (t:TA) (R:V→Hp→Prop):TE:=fun σ H Q=>tf σ H fun x H1=>∃ f,x=.ref f∧PySem.W.keepIn X.K (.ref f)=true∧t σ H1 fun vs H2=>FnR X n f vs H2 Q (rxE R)
theorem ql3 {n:Nat}{fe e:Expr}{es:List Expr}{tf:TE}{t:TA}{pos:Pos} (hx:∀ e s,¬ X.xe e s) (hr:Room n X.A) (hf:PE X fe tf) (ha:PA X (e::es) t)
  (he:starEach (e::es) X.env=(false,eval e X.env)::starEach es X.env:=by rfl) (hpl:(backTo pos (starEach es X.env)).any (·.1)=false:=by rfl)
  (hc:eval (.Call fe (e::es) [] pos) X.env=(do callWith pos (← eval fe X.env) [] (backTo pos (starEach (e::es) X.env)) (backToKw pos (keywordEach [] X.env))):=by rfl) :
  PEx X (.Call fe (e::es) [] pos) (tCallEx X n tf t):=by
 intro pins s σ H Q R I h'
 refine Call_ (wpAny_mono (hf pins s σ H _ I h') (fun u s1 ⟨x,H1,I1,rx,f,ex,kp,q⟩=>?_) fun e s z=>(hx e s z).elim) hc
 subst ex
 obtain rfl:u=Value.ref f:=rx
 refine PySem.W.callWith_K (h₀:=X.base) I.ok.mod.kin kp (wpAny_mono (ha pos pins s1 σ H1 _ I1 q) (fun us s2 ⟨vs,H2,I2,r,q2⟩=>⟨I2.kIn,?_⟩) fun e s z=>(hx e s z).elim) he hpl
 obtain ⟨k,fd,ps,sp,hk,hb,F,hsp⟩:=q2
 exact ylo F (hr.mono hk) hb I2 r hsp
end
end L2
namespace L2
open PySem PyProof.Rows
noncomputable def Lay (L:List Addr) (te:TE) (σ:L2.St) (d:PyData) (H:Hp):Prop:=(∀ b∈L,H b≠none)→∀ H1,Same H H1→∀ Q:VK,(∀ v H',Same H1 H'→At (qap H' L) v d→Q v H')→te σ H1 Q
noncomputable def LayA (L:List Addr) (ta:TA) (σ:L2.St) (ds:List PyData) (H:Hp):Prop:=(∀ b∈L,H b≠none)→∀ H1,Same H H1→∀ Q:List V→Hp→Prop,(∀ vs H',Same H1 H'→AtAll (qap H' L) vs ds→Q vs H')→ta σ H1 Q
theorem qf6 {L:List Addr}{H H1:Hp}{p:Addr} (hL:∀ b∈L,H b≠none) (s:Same H H1) (hp:H1 p=none):p∉L:=fun z=>by
 cases e:H p with
 | none=>exact hL p z e
 | some o=>rw[s _ _ e] at hp;cases hp
section
variable {K:PySem.W.Frag}{σ:L2.St}{H:Hp}{te tf:TE}{ta:TA}{d:PyData}{ds es:List PyData}{L:List Addr}
theorem ybu:LayA L tNil σ [] H:=fun hL H1 s Q k=>k [] H1 (Same.refl H1) .nil
theorem yas (h:Lay L te σ d H) (r:LayA L ta σ ds H):LayA L (qdj te ta) σ (d::ds) H:=fun hL H1 s Q k=>
 h hL H1 s _ fun v H2 s2 a2=>r hL H2 (s.trans s2) _ fun vs H3 s3 a3=>k (v::vs) H3 (s2.trans s3) (.cons (a2.same (qam s3 L)) a3)
theorem yk1 {H0 H2:Hp}{p:Addr}{vs:List V} (hL:∀ b∈L,H0 b≠none) (s:Same H0 H2) (hp:H2 p=none) (a:AtAll (qap H2 L) vs ds):At (qap (upd H2 p (.tup vs)) L) (.ref p) (.tuple ds):=
 .tup (by rw[ya2 (qf6 hL s hp)];exact yaa) (a.same (qam ((Same.refl H2).upd hp) L))
theorem qeb {H0 H2:Hp}{p:Addr}{vs:List V} (hL:∀ b∈L,H0 b≠none) (s:Same H0 H2) (hp:H2 p=none) (a:AtAll (qap H2 L) vs ds):At (qap (upd H2 p (.lst vs)) L) (.ref p) (.list ds):=
 .lst (by rw[ya2 (qf6 hL s hp)];exact yaa) (a.same (qam ((Same.refl H2).upd hp) L))
theorem qhk (h:LayA L ta σ ds H) (z:ds.length≤1000:=by exact Nat.le_of_ble_eq_true rfl):Lay L (tTup ta) σ (.tuple ds) H:=fun hL H1 s Q k=>
 h hL H1 s _ fun vs H2 s2 a2=>⟨by rw[a2.length];exact Nat.le_trans z (by decide),fun p hp=>k _ _ (s2.upd hp) (yk1 hL (s.trans s2) hp a2)⟩
theorem ybn (h:LayA L ta σ ds H) (z:ds.length≤1000:=by exact Nat.le_of_ble_eq_true rfl):Lay L (tLst ta) σ (.list ds) H:=fun hL H1 s Q k=>
 h hL H1 s _ fun vs H2 s2 a2=>⟨by rw[a2.length];exact Nat.le_trans z (by decide),fun p hp=>k _ _ (s2.upd hp) (qeb hL (s.trans s2) hp a2)⟩
theorem qe7:Lay L (tC .non) σ .none H:=fun hL H1 s Q k=>k _ H1 (Same.refl H1) .non
theorem qjz {b:Bool}:Lay L (tC (.bl b)) σ (.bool b) H:=fun hL H1 s Q k=>k _ H1 (Same.refl H1) (.bl b)
theorem qga {i:Int}:Lay L (tC (.int i)) σ (.int i) H:=fun hL H1 s Q k=>k _ H1 (Same.refl H1) (.int i)
theorem yb1 {x:Str}:Lay L (tC (.str x)) σ (.str x) H:=fun hL H1 s Q k=>k _ H1 (Same.refl H1) (.str x)
theorem yhb {i:Int}:Lay L (tUn (rU fun i=>V.int (-i)) (tC (.int i))) σ (.int (-i)) H:=fun hL H1 s Q k=>⟨i,rfl,k _ H1 (Same.refl H1) (.int _)⟩
theorem qb8 {i:Nat}{v:V} (hσ:σ[i]?=some (some v)) (h:At (qap H L) v d):Lay L (tVar i) σ d H:=fun hL H1 s Q k=>⟨v,hσ,k v H1 (Same.refl H1) (h.same (qam s L))⟩
theorem yfx (h1:Lay L te σ (.list ds) H) (h2:Lay L tf σ (.list es) H) (z:ds.length+es.length≤1000):Lay L (tOp rCat te tf) σ (.list (ds++es)) H:=fun hL H1 s Q k=>
 h1 hL H1 s _ fun v H2 s2 a2=>h2 hL H2 (s.trans s2) _ fun u H3 s3 a3=>by
  obtain ⟨a,vs,rfl,ha,hw⟩:=(a2.same (qam s3 L)).lstEq
  obtain ⟨b,us,rfl,hb,hu⟩:=a3.lstEq
  exact ⟨a,b,vs,us,rfl,rfl,qal _ _ _ _ ha,qal _ _ _ _ hb,by rw[hw.length,hu.length];exact Nat.le_trans z (by decide),fun p hp=>k _ _ ((s2.trans s3).upd hp) (qeb hL ((s.trans s2).trans s3) hp (hw.append hu))⟩
theorem yih {H:Hp}{vs:List V}{ds:List PyData} (h:AtAll H vs ds):∀ n,AtAll H (List.replicate n vs).flatten (List.replicate n ds).flatten
 | 0=>.nil
 | n+1=>by
  rw[List.replicate_succ,List.replicate_succ,List.flatten_cons,List.flatten_cons]
  exact h.append (yih h n)
theorem qfx {n:Nat} (h1:Lay L te σ (.list ds) H) (hn:n≤1000) (z:ds.length*n≤1000):Lay L (tOp rRep te (tC (.int n))) σ (.list (List.replicate n ds).flatten) H:=fun hL H1 s Q k=>
 h1 hL H1 s _ fun v H2 s2 a2=>by
  obtain ⟨a,vs,rfl,ha,hw⟩:=a2.lstEq
  refine ⟨a,n,vs,rfl,rfl,qal _ _ _ _ ha,by omega,by omega,by rw[hw.length,Int.toNat_natCast];exact Nat.le_trans z (by decide),fun p hp=>k _ _ (s2.upd hp) ?_⟩
  rw[Int.toNat_natCast]
  exact qeb hL (s.trans s2) hp (yih hw n)
noncomputable def LayN (t:TE) (σ:L2.St) (n:Nat):Prop:=∀ H1 (Q:VK),Q (.int n) H1→t σ H1 Q
theorem lay_nv {i n:Nat} (h:σ[i]?=some (some (.int n))):LayN (tVar i) σ n:=fun H1 Q k=>⟨_,h,k⟩
theorem lay_ns {i n:Nat} (h:σ[i]?=some (some (.int n))):LayN (tOp (rI0 fun i j=>V.int (i+j)) (tVar i) (tC (.int 1))) σ (n+1):=fun H1 Q k=>⟨_,h,_,_,rfl,rfl,k⟩
theorem lay_take {t:TE}{n:Nat} (h1:Lay L te σ (.list ds) H) (hn:LayN t σ n):Lay L (tSl (rSlL K) te qgn (yl1 t)) σ (.list (ds.take n)) H:=fun hL H1 s Q k=>
 h1 hL H1 s _ fun v H2 s2 a2=>hn H2 _ ⟨n,rfl,by
  obtain ⟨a,vs,rfl,ha,hw⟩:=a2.lstEq
  refine ⟨a,vs,rfl,SqL.of (qal _ _ _ _ ha),fun p hp=>k _ _ (s2.upd hp) ?_⟩
  rw[qfu]
  exact qeb hL (s.trans s2) hp (hw.take n)⟩
theorem lay_drop {t:TE}{n:Nat} (h1:Lay L te σ (.list ds) H) (hn:LayN t σ n):Lay L (tSl (rSlL K) te (yl1 t) qgn) σ (.list (ds.drop n)) H:=fun hL H1 s Q k=>
 h1 hL H1 s _ fun v H2 s2 a2=>hn H2 _ ⟨n,rfl,by
  obtain ⟨a,vs,rfl,ha,hw⟩:=a2.lstEq
  refine ⟨a,vs,rfl,SqL.of (qal _ _ _ _ ha),fun p hp=>k _ _ (s2.upd hp) ?_⟩
  rw[yfq]
  exact qeb hL (s.trans s2) hp (hw.drop n)⟩
noncomputable def rTupOf (K:PySem.W.Frag):List V→Hp→VK→Prop:=fun xs H Q=>∃ p ys,xs=[.ref p]∧((SqL K H p ys∧∀ l,H l=none→Q (.ref l) (upd H l (.tup ys)))∨(SqT K H p ys∧Q (.ref p) H))
theorem yh9 (h1:Lay L te σ (.list ds) H):Lay L (tCB (rTupOf K) (qdj te tNil)) σ (.tuple ds) H:=fun hL H1 s Q k=>
 h1 hL H1 s _ fun v H2 s2 a2=>by
  obtain ⟨a,vs,rfl,ha,hw⟩:=a2.lstEq
  exact ⟨a,vs,rfl,.inl ⟨SqL.of (qal _ _ _ _ ha),fun p hp=>k _ _ (s2.upd hp) (yk1 hL (s.trans s2) hp hw)⟩⟩
theorem gn {i:Nat}{v:V}{σ:L2.St}{H:Hp}{Q:L2.St→Hp→Prop} (h:Q (σ.set i (some v)) H):qgl i v σ H Q:=h
theorem yjh {Q:VK} (h:Lay L te σ d H) (hL:∀ b∈L,H b≠none) (k:∀ v H',Same H H'→At (qap H' L) v d→Q v H'):te σ H Q:=h hL H (Same.refl H) Q k
noncomputable def Sm (D B:Nat) (d:PyData):Prop:=d.showable=true∧d.depth≤D∧d.leavesShort 40=true∧d.bulk≤B
theorem Sm.mono {D B D' B':Nat}{d:PyData} (h:Sm D B d) (h1:D≤D':=by decide) (h2:B≤B':=by decide):Sm D' B' d:=⟨h.1,Nat.le_trans h.2.1 h1,h.2.2.1,Nat.le_trans h.2.2.2 h2⟩
theorem Sm.list {D B n:Nat}{xs:List PyData} (h:∀ x∈xs,Sm D B x) (hl:xs.length≤n):Sm (D+1) ((B+1)*n) (.list xs):=by
 refine ⟨?_,?_,?_,?_⟩
 ·simp only[PyData.showable]
  exact Spec.showableAll_of fun x hx=>(h x hx).1
 ·have:=qdd (n:=D) (xs:=xs) fun x hx=>(h x hx).2.1
  simp only[PyData.depth]
  omega
 ·unfold PyData.leavesShort
  exact qea fun x hx=>(h x hx).2.2.1
 ·have:=yew (n:=B) (xs:=xs) fun x hx=>(h x hx).2.2.2
  simp only[PyData.bulk]
  exact Nat.le_trans this (Nat.mul_le_mul_left _ hl)
theorem Sm.tuple {D B n:Nat}{xs:List PyData} (h:∀ x∈xs,Sm D B x) (hl:xs.length≤n):Sm (D+1) ((B+1)*n) (.tuple xs):=by
 refine ⟨?_,?_,?_,?_⟩
 ·simp only[PyData.showable]
  exact Spec.showableAll_of fun x hx=>(h x hx).1
 ·have:=qdd (n:=D) (xs:=xs) fun x hx=>(h x hx).2.1
  simp only[PyData.depth]
  omega
 ·unfold PyData.leavesShort
  exact qea fun x hx=>(h x hx).2.2.1
 ·have:=yew (n:=B) (xs:=xs) fun x hx=>(h x hx).2.2.2
  simp only[PyData.bulk]
  exact Nat.le_trans this (Nat.mul_le_mul_left _ hl)
theorem Sm.shown {D B:Nat}{d:PyData} (h:Sm D B d) (hD:D≤60:=by decide) (hB:B≤100000:=by decide):d.showable=true∧d.depth≤60∧d.shown.length≤sizeLine:=by
 refine ⟨h.1,Nat.le_trans h.2.1 hD,?_⟩
 have h1:=PyData.shown_le_bulk 40 (by decide) d h.2.2.1
 have h2:=h.2.2.2
 have hsl:(sizeLine:Nat)=16777216:=rfl
 omega
end
end L2
namespace L2
open PySem PySem.Spec PyProof.Rows PySem.W
inductive AllX (H:Hp):List V→List PyData→Prop
 | nil:AllX H [] []
 | cons {v:V}{d:PyData}{vs:List V}{ds:List PyData}:AtX H v d→AllX H vs ds→AllX H (v::vs) (d::ds)
theorem AllX.same {H H':Hp} (s:Same H H'):∀ {vs:List V}{ds:List PyData},AllX H vs ds→AllX H' vs ds
 | _,_,.nil=>.nil
 | _,_,.cons a r=>.cons (a.same s) (r.same s)
theorem AtX.readsX {P:Program}{w:World}{H:Hp}{h:Heap}{v:V}{d:PyData}{u:Value} (ok:HOk P w H h) (a:AtX H v d) (r:RelV v u):∃ as,Reads h u d as∧(d.hasDict=true→sysModules∉as):=by
 rcases a with a|⟨e,p,ea,hp⟩
 ·obtain ⟨as,q⟩:=a.reads ok r
  exact ⟨as,q,fun z=>by rw[a.noDict] at z;cases z⟩
 ·subst e ea
  cases r
  obtain ⟨_,hm,vs,kv,o,es,ep,e1,e2,e3,e4,e5,_⟩:=ok p _ hp
  cases kv
  have hes:es.toList=[]:=by
   revert e5
   generalize es.toList=l
   intro e5
   cases e5
   rfl
  refine ⟨p::[]++[],.dict e1 e2.1 e3 (by rw[hes];exact .nil) (by rw[hes];exact .nil),fun _ hmem=>?_⟩
  have:sysModules=p:=by simpa using hmem
  rw[this] at hm
  simp at hm
theorem AllX.repr {P:Program}{w:World}{H:Hp}{h:Heap} (ok:HOk P w H h):∀ {vs:List V}{ds:List PyData}{us:List Value},AllX H vs ds→Vals vs us→PyData.showableAll ds=true→(∀ t∈PyData.shownAll ds,t.length≤sizeLine)→
  ∃ as bs,ReadsAll h us ds as∧ReadAtMost h (PyData.depthAll ds) bs∧ReprAllK P w bs h (PyData.depthAll ds) us (PyData.shownAll ds)
 | _,_,_,.nil,.nil,_,_=>⟨_,[],.nil,(fun _ h=>nomatch h),by simp only[PyData.shownAll];exact .nil⟩
 | _,_,_,.cons (d:=d) (ds:=ds) a x,.cons r rs,hs,hz=>by
  have hs':d.showable=true∧PyData.showableAll ds=true:=by simpa [PyData.showableAll] using hs
  obtain ⟨as,rd,hsm⟩:=a.readsX ok r
  obtain ⟨b1,hb1,k1⟩:=ReprK.of_reads (prog:=P) (w:=w) rd hs'.1 hsm (hz _ (by simp only[PyData.shownAll];exact List.mem_cons_self ..))
  obtain ⟨as2,b2,rd2,hb2,k2⟩:=AllX.repr ok x rs hs'.2 (fun t ht=>hz t (by simp only[PyData.shownAll];exact List.mem_cons_of_mem _ ht))
  refine ⟨_,b1++b2,.cons rd rd2,?_,?_⟩
  ·intro b hm
   simp only[PyData.depthAll]
   rcases List.mem_append.mp hm with hm|hm
   ·obtain ⟨d',as',r',hd'⟩:=hb1 b hm
    exact ⟨d',as',r',Nat.le_trans hd' (Nat.le_max_left _ _)⟩
   ·obtain ⟨d',as',r',hd'⟩:=hb2 b hm
    exact ⟨d',as',r',Nat.le_trans hd' (Nat.le_max_right _ _)⟩
  ·simp only[PyData.depthAll,PyData.shownAll]
   exact .cons ((k1.more fun b hb=>List.mem_append_left _ hb).level_le (Nat.le_max_left _ _)) (k2.more_le (fun b hb=>List.mem_append_right _ hb) (Nat.le_max_right _ _))
section
variable {X:Cx}
noncomputable def rReprXL:List V→Hp→VK→Prop:=fun xs H Q=>∃ a vs ds,xs=[.ref a]∧H a=some (.lst vs)∧vs≠[]∧AllX H vs ds∧(PyData.list ds).showable=true∧(PyData.list ds).depth≤60∧(PyData.list ds).shown.length≤sizeLine∧Q (.str (PyData.list ds).shown) H
theorem ygd {k:Nat} (hr:Room k X.A):yc1 X (.builtin "repr") rReprXL:=by
 intro pins s σ H xs us Q I r h
 obtain ⟨a,vs,ds,rfl,hL,hne,hx,hs,hd,hz,q⟩:=h
 cases r with
 | cons r rr=>
  cases rr
  cases r
  obtain ⟨z,its,n,rv,ho⟩:=I.hok _ _ hL
  have hz':(listText (PyData.shownAll ds)).length≤sizeLine:=by simpa only [PyData.shown] using hz
  obtain ⟨as,bs,rd,hb,hk⟩:=AllX.repr I.hok hx rv (by simpa [PyData.showable] using hs) (fun t ht=>Nat.le_trans (listText_mem_le ht) hz')
  have hna:a∉bs:=not_mem_of_deeper (.list ho rfl rfl (by simpa using rd)) (by simp only[PyData.depth];omega) hb
  have hu:=hr.units
  simp only[PyData.depth] at hd
  cases hits:its with
  | nil=>subst hits;cases rv;exact absurd rfl hne
  | cons x l=>
   subst hits
   refine call_repr_slot (by omega) ⟨_,ho,rfl⟩ F.slot_list_repr.toG ?_
   refine call_list_reprK ho rfl rfl hna (by simpa using hk.length_eq) (fun i y e=>hk.item i y (by simpa using e)) hr.gd (fun b _=>Clear.nil b) (by show X.A.units+1+(PyData.depthAll ds+1)<cLine;omega) (fun _ _ z=>z) (fun h' u tk hkp=>⟨_,_,rfl,?_⟩) hz'
   refine ⟨.str _,H,I.kept hkp,⟨_,rfl⟩,?_⟩
   simp only[PyData.shown] at q
   exact q
end
end L2
namespace L2
open PySem PyProof.Rows
theorem AllX.length {H:Hp}:∀ {vs:List V}{ds:List PyData},AllX H vs ds→vs.length=ds.length
 | _,_,.nil=>rfl
 | _,_,.cons _ r=>by rw[List.length_cons,List.length_cons,r.length]
theorem AllX.append {H:Hp}:∀ {vs ws:List V}{ds es:List PyData},AllX H vs ds→AllX H ws es→AllX H (vs++ws) (ds++es)
 | _,_,_,_,.nil,y=>y
 | _,_,_,_,.cons a r,y=>.cons a (r.append y)
theorem AtAll.allX {H:Hp}:∀ {vs:List V}{ds:List PyData},AtAll H vs ds→AllX H vs ds
 | _,_,.nil=>.nil
 | _,_,.cons a r=>.cons (.inl a) (AtAll.allX r)
theorem AllX.getD {H:Hp}:∀ {vs:List V}{ds:List PyData}{i:Nat}{d:PyData},AllX H vs ds→ds[i]?=some d→∃ v,vs[i]?=some v∧AtX H v d
 | _,_,0,_,.cons a _,h=>by cases h;exact ⟨_,rfl,a⟩
 | _,_,i+1,_,.cons _ r,h=>r.getD (i:=i) h
theorem AllX.mem {H:Hp}{vs:List V}{ds:List PyData}{i:Int} (h:AllX H vs ds) (h0:0≤i) (h1:i<ds.length):∃ v d,atI vs i=some v∧ds[i.toNat]?=some d∧AtX H v d:=by
 obtain ⟨v,hv,ha⟩:=h.getD (List.getElem?_eq_getElem (l:=ds) (i:=i.toNat) (by omega))
 exact ⟨v,_,qf0 h0 hv,List.getElem?_eq_getElem (by omega),ha⟩
noncomputable def LayX (L:List Addr) (te:TE) (σ:L2.St) (d:PyData) (H:Hp):Prop:=(∀ b∈L,H b≠none)→∀ H1,Same H H1→∀ Q:VK,(∀ v H',Same H1 H'→AtX (qap H' L) v d→Q v H')→te σ H1 Q
noncomputable def LayXA (L:List Addr) (ta:TA) (σ:L2.St) (ds:List PyData) (H:Hp):Prop:=(∀ b∈L,H b≠none)→∀ H1,Same H H1→∀ Q:List V→Hp→Prop,(∀ vs H',Same H1 H'→AllX (qap H' L) vs ds→Q vs H')→ta σ H1 Q
noncomputable def LayL (L:List Addr) (te:TE) (σ:L2.St) (ds:List PyData) (H:Hp):Prop:=(∀ b∈L,H b≠none)→∀ H1,Same H H1→∀ Q:VK,(∀ a vs H',Same H1 H'→qap H' L a=some (.lst vs)→AllX (qap H' L) vs ds→Q (.ref a) H')→te σ H1 Q
section
variable {K:PySem.W.Frag}{σ:L2.St}{H:Hp}{te tf:TE}{ta:TA}{d:PyData}{ds es:List PyData}{L:List Addr}
theorem qe6 (h:Lay L te σ d H):LayX L te σ d H:=fun hL H1 s Q k=>h hL H1 s Q fun v H' s' a=>k v H' s' (.inl a)
theorem qh2:LayX L tDNewK σ (.dict []) H:=fun hL H1 s Q k=>fun p hp=>k (.ref p) _ ((Same.refl H1).upd hp) (.inr ⟨rfl,p,rfl,by rw[ya2 (qf6 hL s hp)];exact yaa⟩)
theorem yh6:LayXA L tNil σ [] H:=fun hL H1 s Q k=>k [] H1 (Same.refl H1) .nil
theorem qb1 (h:LayX L te σ d H) (r:LayXA L ta σ ds H):LayXA L (qdj te ta) σ (d::ds) H:=fun hL H1 s Q k=>
 h hL H1 s _ fun v H2 s2 a2=>r hL H2 (s.trans s2) _ fun vs H3 s3 a3=>k (v::vs) H3 (s2.trans s3) (.cons (a2.same (qam s3 L)) a3)
theorem qj3 (h:LayXA L ta σ ds H) (z:ds.length≤1000:=by exact Nat.le_of_ble_eq_true rfl):LayL L (tLst ta) σ ds H:=fun hL H1 s Q k=>
 h hL H1 s _ fun vs H2 s2 a2=>⟨by rw[a2.length];exact Nat.le_trans z (by decide),fun p hp=>k p vs _ (s2.upd hp) (by rw[ya2 (qf6 hL (s.trans s2) hp)];exact yaa) (a2.same (qam ((Same.refl H2).upd hp) L))⟩
theorem qi6 (h:Lay L te σ (.list ds) H):LayL L te σ ds H:=fun hL H1 s Q k=>h hL H1 s Q fun v H' s' a=>by
 obtain ⟨p,vs,rfl,hp,hw⟩:=a.lstEq
 exact k p vs H' s' hp (AtAll.allX hw)
theorem layl_var {i:Nat}{a:Addr}{vs:List V} (hσ:σ[i]?=some (some (.ref a))) (h:qap H L a=some (.lst vs)) (hx:AllX (qap H L) vs ds):LayL L (tVar i) σ ds H:=fun hL H1 s Q k=>⟨_,hσ,k a vs H1 (Same.refl H1) (qam s L _ _ h) (hx.same (qam s L))⟩
theorem layl_cat (h1:LayL L te σ ds H) (h2:LayL L tf σ es H) (z:ds.length+es.length≤1000):LayL L (tOp rCat te tf) σ (ds++es) H:=fun hL H1 s Q k=>
 h1 hL H1 s _ fun a vs H2 s2 e2 a2=>h2 hL H2 (s.trans s2) _ fun b us H3 s3 e3 a3=>
  ⟨a,b,vs,us,rfl,rfl,s3 _ _ (qal _ _ _ _ e2),qal _ _ _ _ e3,by rw[a2.length,a3.length];exact Nat.le_trans z (by decide),fun p hp=>k p _ _ ((s2.trans s3).upd hp) (by rw[ya2 (qf6 hL ((s.trans s2).trans s3) hp)];exact yaa) (((a2.same (qam s3 L)).append a3).same (qam ((Same.refl H3).upd hp) L))⟩
theorem qhd {tb:TE}{i:Int} (h:LayL L te σ ds H) (hb:∀ H1,Same H H1→∀ Q:VK,Q (.int i) H1→tb σ H1 Q) (h0:0≤i) (h1:i<ds.length) {d:PyData} (hd:ds[i.toNat]?=some d):LayX L (tOp (rIxL K) te tb) σ d H:=fun hL H1 s Q k=>
 h hL H1 s _ fun a vs H2 s2 e2 a2=>hb H2 (s.trans s2) _ (by
  obtain ⟨v,d',hv,hd',ha⟩:=a2.mem h0 h1
  rw[hd] at hd'
  cases hd'
  exact ⟨a,vs,i,v,rfl,rfl,SqL.of (qal _ _ _ _ e2),hv,k v H2 s2 ha⟩)
end
end L2
namespace L2
open PySem PySem.Spec PyProof.Rows
noncomputable def Srt (xs:Array Nat):Prop:=∀ (i j:Nat) (x y:Nat),i<j→xs[i]?=some x→xs[j]?=some y→x<y
theorem qhg (xs:Array Nat) (j:Nat) (hs:Srt xs):∀ (fuel lo hi:Nat),hi-lo≤fuel→lo≤hi→hi≤xs.size→(∀ k x,k<lo→xs[k]?=some x→x<j)→(∀ k x,hi≤k→xs[k]?=some x→j≤x)→
  (∀ k x,k<SetTable.below.go xs j fuel lo hi→xs[k]?=some x→x<j)∧(∀ k x,SetTable.below.go xs j fuel lo hi≤k→xs[k]?=some x→j≤x)∧SetTable.below.go xs j fuel lo hi≤xs.size
 | 0,lo,hi,hf,h1,h2,ha,hb=>by
  have e:lo=hi:=by omega
  subst e
  exact ⟨ha,hb,h2⟩
 | fuel+1,lo,hi,hf,h1,h2,ha,hb=>by
  unfold SetTable.below.go
  by_cases hlt:lo<hi
  ·rw[if_pos hlt]
   have hm:(lo+hi) / 2<xs.size:=by omega
   have hg:xs[(lo+hi) / 2]?=some (xs.getD ((lo+hi) / 2) j):=by
    rw[Array.getD_eq_getD_getElem?,Array.getElem?_eq_getElem hm];rfl
   dsimp only
   by_cases hc:xs.getD ((lo+hi) / 2) j<j
   ·rw[if_pos hc]
    refine qhg xs j hs fuel _ hi (by omega) (by omega) h2 (fun k x hk hx=>?_) hb
    by_cases he:k=(lo+hi) / 2
    ·subst he;rw[hg] at hx;cases hx;exact hc
    ·have:=hs k ((lo+hi) / 2) x _ (by omega) hx hg
     omega
   ·rw[if_neg hc]
    refine qhg xs j hs fuel lo _ (by omega) (by omega) (by omega) ha (fun k x hk hx=>?_)
    by_cases he:k=(lo+hi) / 2
    ·subst he;rw[hg] at hx;cases hx;omega
    ·have:=hs ((lo+hi) / 2) k _ x (by omega) hg hx
     omega
  ·rw[if_neg hlt]
   have e:lo=hi:=by omega
   subst e
   exact ⟨ha,hb,h2⟩
theorem qj2 {xs:Array Nat} (j:Nat) (hs:Srt xs):(∀ k x,k<SetTable.below xs j→xs[k]?=some x→x<j)∧(∀ k x,SetTable.below xs j≤k→xs[k]?=some x→j≤x)∧SetTable.below xs j≤xs.size:=by
 unfold SetTable.below
 refine qhg xs j hs xs.size 0 xs.size (by omega) (Nat.zero_le _) (Nat.le_refl _) (fun k x h=>absurd h (Nat.not_lt_zero _)) (fun k x h hx=>?_)
 rw[Array.getElem?_eq_none h] at hx;cases hx
theorem yjm {xs:Array Nat}{j n:Nat} (hs:Srt xs) (hn:n≤xs.size) (h1:∀ k x,k<n→xs[k]?=some x→x<j) (h2:∀ k x,n≤k→xs[k]?=some x→j≤x):SetTable.below xs j=n:=by
 obtain ⟨b1,b2,b3⟩:=qj2 j hs
 rcases Nat.lt_trichotomy (SetTable.below xs j) n with h|h|h
 ·have hlt:SetTable.below xs j<xs.size:=by omega
  have g:=Array.getElem?_eq_getElem hlt
  have:=h1 _ _ h g
  have:=b2 _ _ (Nat.le_refl _) g
  omega
 ·exact h
 ·have hlt:n<xs.size:=by omega
  have g:=Array.getElem?_eq_getElem hlt
  have:=h2 _ _ (Nat.le_refl _) g
  have:=b1 _ _ h g
  omega
theorem qh1 {α:Type} (xs:Array α) (p:Nat) (x:α) (hp:p≤xs.size) (i:Nat):(SetTable.insertAt xs p x)[i]?=if i<p then xs[i]? else if i=p then some x else xs[i-1]?:=by
 unfold SetTable.insertAt
 have e1:((xs.extract 0 p).push x++xs.extract p xs.size).toList=xs.toList.take p++x::xs.toList.drop p:=by
  simp
  exact List.take_of_length_le (by simp)
 rw[← Array.getElem?_toList,e1]
 have hl:(xs.toList.take p).length=p:=by rw[List.length_take,Array.length_toList];omega
 by_cases h1:i<p
 ·rw[if_pos h1,List.getElem?_append_left (by omega),List.getElem?_take_of_lt h1,Array.getElem?_toList]
 ·rw[if_neg h1,List.getElem?_append_right (by omega),hl]
  by_cases h2:i=p
  ·rw[if_pos h2,h2,Nat.sub_self];rfl
  ·rw[if_neg h2]
   obtain ⟨d,hd⟩:∃ d,i-p=d+1:=⟨i-p-1,by omega⟩
   rw[hd,List.getElem?_cons_succ,List.getElem?_drop,Array.getElem?_toList]
   congr 1
   omega
theorem qkb {xs:Array Nat}{j:Nat} (hs:Srt xs) (hj:xs[SetTable.below xs j]?≠some j):Srt (SetTable.insertAt xs (SetTable.below xs j) j):=by
 obtain ⟨b1,b2,b3⟩:=qj2 j hs
 have hgt:∀ k x,SetTable.below xs j≤k→xs[k]?=some x→j<x:=fun k x hk hx=>by
  have h1:=b2 k x hk hx
  by_cases he:x=j
  ·subst he
   by_cases hk2:k=SetTable.below xs x
   ·subst hk2;exact absurd hx hj
   ·have hlt:SetTable.below xs x<xs.size:=by
     have:=(Array.getElem?_eq_some_iff.mp hx).1
     omega
    have g:=Array.getElem?_eq_getElem hlt
    have h2:=hs _ k _ x (by omega) g hx
    have h3:=b2 _ _ (Nat.le_refl _) g
    omega
  ·omega
 intro a b x y hab hx hy
 rw[qh1 _ _ _ b3] at hx hy
 by_cases ha:a<SetTable.below xs j
 ·rw[if_pos ha] at hx
  by_cases hb:b<SetTable.below xs j
  ·rw[if_pos hb] at hy
   exact hs a b x y hab hx hy
  ·rw[if_neg hb] at hy
   have hxj:=b1 a x ha hx
   by_cases hb2:b=SetTable.below xs j
   ·rw[if_pos hb2] at hy;cases hy;exact hxj
   ·rw[if_neg hb2] at hy
    have:=hgt (b-1) y (by omega) hy
    omega
 ·rw[if_neg ha] at hx
  have hb:¬ b<SetTable.below xs j:=by omega
  rw[if_neg hb] at hy
  by_cases ha2:a=SetTable.below xs j
  ·rw[if_pos ha2] at hx
   cases hx
   rw[if_neg (by omega)] at hy
   exact hgt (b-1) y (by omega) hy
  ·rw[if_neg ha2] at hx
   rw[if_neg (by omega)] at hy
   exact hs (a-1) (b-1) x y (by omega) hx hy
theorem qkq (n:Nat):Srt (Array.range n):=by
 intro i j x y hij hx hy
 have h1:=(Array.getElem?_eq_some_iff.mp hx).2
 have h2:=(Array.getElem?_eq_some_iff.mp hy).2
 simp at h1 h2
 omega
theorem srt_of {l:List Nat} (h:l.Pairwise (· < ·)):Srt l.toArray:=by
 intro i j x y hij hx hy
 have hx':l[i]?=some x:=by simpa using hx
 have hy':l[j]?=some y:=by simpa using hy
 obtain ⟨hi,e1⟩:=List.getElem?_eq_some_iff.mp hx'
 obtain ⟨hj,e2⟩:=List.getElem?_eq_some_iff.mp hy'
 have:=List.pairwise_iff_getElem.mp h i j hi hj hij
 rw[e1,e2] at this
 exact this
noncomputable def TOk (t:SetTable):Prop:=Srt t.place∧t.dummies=#[]
theorem qjn (j:Nat):SetTable.has #[] j=false:=by
 unfold SetTable.has
 simp
theorem slot_no {t:SetTable} (h:TOk t) (j:Nat):t.slot j≠.dummy:=by
 unfold SetTable.slot
 rw[h.2,qjn]
 dsimp only
 split
 ·intro z;cases z
 ·simp
theorem ykn {t:SetTable}{j:Nat} (h:t.slot j=.empty):t.place[SetTable.below t.place j]?≠some j:=by
 intro e
 unfold SetTable.slot at h
 dsimp only at h
 rw[if_pos (by rw[e];simp)] at h
 cases h
theorem qhu (t:SetTable) (p:SetTable.Probe):(t.advance p).dummy=p.dummy:=by
 unfold SetTable.advance
 split<;>rfl
theorem ygq {t:SetTable} (ht:TOk t) (f:Nat→Int) (h:Int):∀ (fuel:Nat) (p:SetTable.Probe) (j:Nat) (d:Option Nat),p.dummy=none→SetTable.probe.go t f h fuel p=some (.empty j d)→t.slot j=.empty∧d=none
 | 0,p,j,d,hp,e=>by
  unfold SetTable.probe.go at e
  cases e
 | fuel+1,p,j,d,hp,e=>by
  unfold SetTable.probe.go at e
  split at e
  ·rename_i hs
   cases e
   exact ⟨hs,hp⟩
  ·rename_i hs
   exact absurd hs (slot_no ht _)
  ·split at e
   ·cases e
   ·exact ygq ht f h fuel _ j d (by rw[qhu];exact hp) e
theorem qi1 {t:SetTable} (ht:TOk t) {h:Int}{j:Nat}{b:Bool} (e:t.freeSlot h=some (j,b)):t.slot j=.empty:=by
 unfold SetTable.freeSlot at e
 split at e
 ·rename_i j' d hp
  have hq:SetTable.probe.go t (fun _=>h+1) h (10*SetTable.turns t.mask) (t.probeStart h)=some (.empty j' d):=hp
  obtain ⟨h1,h2⟩:=ygq ht _ _ _ _ _ _ rfl hq
  subst h2
  cases e
  exact h1
 ·cases e
theorem put_ok {t:SetTable} (ht:TOk t) {j:Nat} (h:t.slot j=.empty):TOk (t.put j).1∧(t.put j).1.led=t.led:=by
 refine ⟨⟨qkb ht.1 (ykn h),?_⟩,rfl⟩
 show (if SetTable.has t.dummies j then SetTable.eraseAt t.dummies (SetTable.below t.dummies j) else t.dummies)=#[]
 rw[ht.2,qjn]
 rfl
theorem ydv (t:SetTable) (n:Nat):TOk (t.standIn n)∧(t.standIn n).led=t.led:=⟨⟨qkq n,rfl⟩,rfl⟩
theorem qh8 {t:SetTable} (ht:TOk t) (n:Nat):TOk (t.orStandIn n)∧(t.orStandIn n).led=t.led:=by
 unfold SetTable.orStandIn
 split
 ·exact ⟨ht,rfl⟩
 ·exact ydv t n
theorem ymi {t:SetTable} (ht:TOk t) (es:Array (Int×Value)) (h:Int) (x:Value):TOk (layNew t es h x).2.1∧(layNew t es h x).2.1.led=t.led:=by
 unfold layNew
 split
 ·rename_i j b e
  have hp:=put_ok ht (qi1 ht e)
  have ho:=qh8 hp.1 (SetTable.insertAt es (t.put j).2 (h,x)).size
  exact ⟨ho.1,ho.2.trans hp.2⟩
 ·exact ydv t _
theorem qeq {α:Type} (f:Nat→Option α):∀ (l:List Nat),l.Pairwise (· < ·)→((l.filterMap fun j=>(f j).map (j,·)).map (·.1)).Pairwise (· < ·):=by
 intro l hl
 have hsub:((l.filterMap fun j=>(f j).map (j,·)).map (·.1)).Sublist l:=by
  induction l with
  | nil=>exact .slnil
  | cons a l ih=>
   rw[List.filterMap_cons]
   have:=ih (List.pairwise_cons.mp hl).2
   cases f a with
   | none=>exact .cons _ this
   | some b=>exact .cons₂ _ this
 exact hl.sublist hsub
theorem yks {t t':SetTable}{hs:Array Int}{n:Nat}{o:Array Nat} (e:t.relaid hs n=some (t',o)):TOk t'∧t'.led=t.led:=by
 unfold SetTable.relaid SetTable.laid at e
 cases ho:SetTable.layClean (SetTable.sizeAbove n-1) hs with
 | none=>rw[ho] at e;cases e
 | some owner=>
  rw[ho] at e
  cases e
  refine ⟨⟨srt_of ?_,rfl⟩,rfl⟩
  exact qeq (fun j=>owner.getD j none) _ List.pairwise_lt_range
theorem yjc {t:SetTable} (es:Array (Int×Value)) (n:Nat):TOk (relayAll t es n).2.1∧(relayAll t es n).2.1.led=t.led:=by
 unfold relayAll
 split
 ·rename_i t' o e
  dsimp only
  split
  ·exact yks e
  ·exact ydv t _
 ·exact ydv t _
noncomputable def byTx (w:World):Bool:=w.params.followText "set-order"
noncomputable def SetL (P:Program) (w:World) (h:Heap) (a:Addr) (ks:List Int):Prop:=
 ∃ o es ep t,h.get? a=some o∧o.ExactSet∧o.data=.set es ep t∧ElemsOf (intKind P w) es.toList∧(∃ ns,IntsAre (es.toList.map (·.2)) ns∧ns.Perm ks)∧es.size<scanBound∧t.fits es.size=true∧TOk t∧(byTx w=true∨t.led=true)
theorem yeh {vs' vs:List Value} (p:vs'.Perm vs):∀ {ns:List Int},IntsAre vs ns→∃ ns',IntsAre vs' ns'∧ns'.Perm ns:=by
 induction p with
 | nil=>intro ns h;exact ⟨ns,h,List.Perm.refl _⟩
 | cons x _ ih=>
  intro ns h
  cases h with
  | cons n t r=>
   obtain ⟨ns',h1,h2⟩:=ih r
   exact ⟨n::ns',.cons n t h1,h2.cons n⟩
 | swap x y l=>
  intro ns h
  cases h with
  | cons n t r=>
   cases r with
   | cons m u r=>exact ⟨m::n::_,.cons m u (.cons n t r),List.Perm.swap ..⟩
 | trans _ _ ih1 ih2=>
  intro ns h
  obtain ⟨n1,a1,b1⟩:=ih2 h
  obtain ⟨n2,a2,b2⟩:=ih1 a1
  exact ⟨n2,a2,b2.trans b1⟩
theorem qhi:∀ {vs:List Value}{ns:List Int},IntsAre vs ns→(∀ v∈vs,∃ n t,v=.int n t∧n∈ns)∧∀ n∈ns,∃ t,Value.int n t∈vs
 | _,_,.nil=>⟨fun v h=>by simp at h,fun n h=>by simp at h⟩
 | _,_,.cons n t r=>by
  obtain ⟨h1,h2⟩:=qhi r
  refine ⟨fun v hv=>?_,fun m hm=>?_⟩
  ·rcases List.mem_cons.mp hv with rfl|hv
   ·exact ⟨n,t,rfl,List.mem_cons_self ..⟩
   ·obtain ⟨m,u,e,hm⟩:=h1 v hv
    exact ⟨m,u,e,List.mem_cons_of_mem _ hm⟩
  ·rcases List.mem_cons.mp hm with rfl|hm
   ·exact ⟨t,List.mem_cons_self ..⟩
   ·obtain ⟨u,hu⟩:=h2 m hm
    exact ⟨u,List.mem_cons_of_mem _ hu⟩
theorem yid:∀ {vs:List Value}{ns:List Int} (k:Int) (t:Tok),IntsAre vs ns→IntsAre (vs++[.int k t]) (ns++[k])
 | _,_,k,t,.nil=>.cons k t .nil
 | _,_,k,t,.cons n u r=>.cons n u (yid k t r)
section
variable {P:Program}{w:World}{A:Around}{E:Value→Shared→Prop}{s:Shared}{a:Addr}{ks:List Int}
theorem storeL {o:Obj}{es:Array (Int×Value)}{ep:Nat}{t:SetTable}{es':Array (Int×Value)}{t':SetTable}{ks':List Int}{h:Heap} (g:h.get? a=some o) (gx:o.ExactSet) (gd:o.data=.set es ep t)
  (el:ElemsOf (intKind P w) es'.toList) (hv:∃ ns,IntsAre (es'.toList.map (·.2)) ns∧ns.Perm ks') (hb:es'.size<scanBound) (hf:t'.fits es'.size=true) (ht:TOk t') (hl:byTx w=true∨t'.led=true) :
  (h.update a (Obj.putSet es' t')).get? a=some { o with data:=.set es' (ep+1) t' }∧SetL P w (h.update a (Obj.putSet es' t')) a ks':=by
 have hg:(h.update a (Obj.putSet es' t')).get? a=some { o with data:=.set es' (ep+1) t' }:=by
  have z:=Heap.get?_update_self (Obj.putSet es' t') g (by rw[putSet_of es' t' gd];rfl)
  rw[putSet_of es' t' gd] at z
  exact z
 exact ⟨hg,_,es',ep+1,t',hg,gx,rfl,el,hv,hb,hf,ht,hl⟩
theorem addL {k:Int}{tk:Tok}{Q:Bool→Shared→Prop} (hS:SetL P w s.heap a ks) (hroom:ks.length+1<scanBound)
  (h:∀ b h',Heap.SameBut a s.heap h'→SetL P w h' a (if k∈ks then ks else ks++[k])→Q b { s with heap:=h' }) :
  wpAny (model P w) A (setAddHashed a (.int k tk) ((intKind P w).hash k)) Q E s:=by
 obtain ⟨o,es,ep,t,g,gx,gd,el,⟨ns,hi,hp⟩,hb,hf,ht,hl⟩:=hS
 have hlen:es.size=ks.length:=by
  have h1:=IntsAre.length hi
  rw[List.length_map,Array.length_toList] at h1
  rw[h1,hp.length_eq]
 have kk:(intKind P w).is k (.int k tk)=true:=intKind_is _ _ _ _
 unfold setAddHashed setAddHashedIn
 refine wpAny_holding (wpAny_bind (wpAny_setState_of g gd hf ?_))
 dsimp only
 rw[byScan_of (knd:=intKind P w) rfl hb el]
 simp only[↓reduceIte]
 unfold setAddByScan
 refine wpAny_bind ?_
 refine wpAny_bind (wpAny_rule ?_)
 refine wpAny_bind (wpAny_setScan_of kk g gd hf el ?_)
 have same:∀ m u,(intKind P w).is k (.int m u)=true→m=k:=fun m u z=>(intKind P w).inj _ m k (intKind_is _ _ _ _) z
 cases hr:List.findIdx? (fun e=>(intKind P w).is k e.2) es.toList with
 | some j=>
  dsimp only
  obtain ⟨hj,hpj,_⟩:=List.findIdx?_eq_some_iff_getElem.mp hr
  have hin:k∈ks:=by
   obtain ⟨m,u,e,hm⟩:=(qhi hi).1 (es.toList[j]).2 (List.mem_map.mpr ⟨_,List.getElem_mem hj,rfl⟩)
   rw[e] at hpj
   have:=same m u hpj
   subst this
   exact hp.mem_iff.mp hm
  refine wpAny_pure (wpAny_pure ?_)
  have e:s={ s with heap:=s.heap }:=by cases s;rfl
  have z:=h false s.heap (Heap.SameBut.refl a s.heap) (by rw[if_pos hin];exact ⟨o,es,ep,t,g,gx,gd,el,⟨ns,hi,hp⟩,hb,hf,ht,hl⟩)
  rw[e]
  exact z
 | none=>
  dsimp only
  have hout:k∉ks:=fun hin=>by
   obtain ⟨u,hu⟩:=(qhi hi).2 k (hp.mem_iff.mpr hin)
   obtain ⟨e,he,e2⟩:=List.mem_map.mp hu
   have z:=List.findIdx?_eq_none_iff.mp hr e he
   rw[e2] at z
   rw[show (intKind P w).is k (.int k u)=true from intKind_is _ _ _ _] at z
   cases z
  rw[if_neg hout] at h
  have gw:∀ (b:Bool) {s1:Shared}{Q':Unit→Shared→Prop},Q' () s1→wpAny (model P w) A (match b with|true=>rule "set.scan.the-table-gave-way" | false=>pure ()) Q' E s1:=fun b s1 Q' z=>by cases b<;>first|exact wpAny_pure z|exact wpAny_rule z
  have pm:=layNew_perm t es ((intKind P w).hash k) (.int k tk)
  have fm:=layNew_fits t es ((intKind P w).hash k) (.int k tk)
  have tm:=ymi ht es ((intKind P w).hash k) (.int k tk)
  generalize hL:layNew t es ((intKind P w).hash k) (.int k tk)=L at pm fm tm ⊢
  obtain ⟨es1,t1,wasDummy,gave⟩:=L
  dsimp only at pm fm tm ⊢
  rw[Array.toList_push] at pm
  have el1:ElemsOf (intKind P w) es1.toList:=(el.push kk rfl).perm pm
  have hv1:∃ ns,IntsAre (es1.toList.map (·.2)) ns∧ns.Perm (ks++[k]):=by
   have q:=pm.map (·.2)
   rw[List.map_append] at q
   obtain ⟨n1,i1,p1⟩:=yeh q (yid k tk hi)
   exact ⟨n1,i1,p1.trans (hp.append_right [k])⟩
  have sz1:es1.size=ks.length+1:=by
   rw[← Array.length_toList,pm.length_eq,List.length_append,Array.length_toList,hlen];rfl
  have hb1:es1.size<scanBound:=by rw[sz1];exact hroom
  refine wpAny_bind (gw _ ?_)
  have tail:∀ (t2:SetTable),t2.fits es1.size=true→TOk t2→(byTx w=true∨t2.led=true)→wpAny (model P w) A (do
    storeSet a es1 t2
    if (!wasDummy&&t2.tooFull)=true then do
      (match (relayAll t2 es1 (SetTable.grown es1.size)).2.2 with|true=>rule "set.scan.the-table-gave-way" | false=>pure ())
      storeSet a (relayAll t2 es1 (SetTable.grown es1.size)).1 (relayAll t2 es1 (SetTable.grown es1.size)).2.1
      pure (some true)
     else pure (some true)) (fun r s1=>wpAny (model P w) A (match r with|some added=>pure added|none=>setAddHashedIn a (.int k tk) ((intKind P w).hash k) 99999) Q E s1) E s:=by
   intro t2 f2 k2 l2
   refine wpAny_bind (wpAny_storeSet_of g gd ?_ (fits_of_scanBound hb1))
   obtain ⟨g1,S1⟩:=storeL (P:=P) (w:=w) g gx gd el1 hv1 hb1 f2 k2 l2
   have sb1:=Heap.SameBut.update s.heap a (Obj.putSet es1 t2)
   split
   ·have pr:=relayAll_perm t2 es1 (SetTable.grown es1.size)
    have fr:=relayAll_fits t2 es1 (SetTable.grown es1.size)
    have tr:=yjc (t:=t2) es1 (SetTable.grown es1.size)
    generalize hR:relayAll t2 es1 (SetTable.grown es1.size)=R at pr fr tr ⊢
    obtain ⟨es2,t3,gave2⟩:=R
    dsimp only at pr fr tr ⊢
    have sz2:es2.size=es1.size:=by rw[← Array.length_toList,pr.length_eq,Array.length_toList]
    have hb2:es2.size<scanBound:=by rw[sz2];exact hb1
    refine wpAny_bind (gw _ ?_)
    refine wpAny_bind (wpAny_storeSet_of g1 rfl ?_ (fits_of_scanBound hb2))
    have hv2:∃ ns,IntsAre (es2.toList.map (·.2)) ns∧ns.Perm (ks++[k]):=by
     obtain ⟨n1,i1,p1⟩:=hv1
     obtain ⟨n2,i2,p2⟩:=yeh (pr.map (·.2)) i1
     exact ⟨n2,i2,p2.trans p1⟩
    obtain ⟨_,S2⟩:=storeL (P:=P) (w:=w) g1 gx rfl (el1.perm pr) hv2 hb2 fr tr.1 (l2.imp id fun z=>tr.2.trans z)
    exact wpAny_pure (wpAny_pure (h true _ (sb1.trans (Heap.SameBut.update _ a _)) S2))
   ·exact wpAny_pure (wpAny_pure (h true _ sb1 S1))
  have l1:byTx w=true∨t1.led=true:=hl.imp id fun z=>tm.2.trans z
  split
  ·refine wpAny_bind ?_
   rw[hashByValue_scannable 8 (rfl:(Value.int k tk).scannable=true)]
   refine wpAny_pure ?_
   split
   ·exact tail t1 fm tm.1 l1
   ·exact tail { t1 with plain:=false } (SetTable.fits_plain_off fm) tm.1 l1
  ·refine wpAny_bind (wpAny_pure ?_)
   simp only[↓reduceIte]
   exact tail t1 fm tm.1 l1
end
noncomputable def ya4 (f:Nat→Int):Nat→List Int
 | 0=>[]
 | i+1=>if f i∈ya4 f i then ya4 f i else ya4 f i++[f i]
theorem ye5 (f:Nat→Int):∀ i,(ya4 f i).length≤i
 | 0=>Nat.le_refl _
 | i+1=>by
  have ih:=ye5 f i
  unfold ya4
  split
  ·omega
  ·rw[List.length_append];show _+1≤_;omega
theorem SetL.at {P:Program}{w:World}{h h':Heap}{a:Addr}{ks:List Int} (x:SetL P w h a ks) (k:∀ o,h.get? a=some o→h'.get? a=some o):SetL P w h' a ks:=by
 obtain ⟨o,es,ep,t,g,r⟩:=x
 exact ⟨o,es,ep,t,k o g,r⟩
section
variable {P:Program}{w:World}{A:Around}{R:Result→Shared→Prop}{I:Addr}{fp wr:List Addr}{G:Array GenState→Array GenState→Prop}{n:Nat}{Pv:Nat→Value→Prop}{St:Nat→Shared→Prop}
theorem loopL (W:WalksS P w A.in1 I fp wr G n Pv St) (d:Addr) (hd:d∉fp) (f:Nat→Int) (hf:∀ i v,Pv i v→∃ t,v=.int (f i) t) (hb:n+1<scanBound):∀ (k i:Nat) (s:Shared),n-i=k→i≤n→St i s→SetL P w s.heap d (ya4 f i)→
   (∀ s',Moved (d::wr) G s s'→SetL P w s'.heap d (ya4 f n)→R (.ok (.ret .none)) s')→codeAny (model P w) A (.builtin "set.update.loop" ⟨[.ref d,.ref I],[]⟩) R s:=by
 have hw:d∉wr:=fun z=>hd (W.sub _ z)
 have up:∀ b∈wr,b∈d::wr:=fun b z=>List.mem_cons_of_mem _ z
 intro k
 induction k with
 | zero=>
  intro i s hk hi st hS hR
  have e:i=n:=by omega
  subst e
  refine codeAny_builtin F.entry_set_update_loop ?_
  rw[Around.under_plainId F.plain_set_update_loop _]
  show wpAny _ A.in1 (pyNext (.ref I) >>= _) _ _ _
  refine wpAny_bind (W.done s _ _ st fun s' m=>?_)
  show wpAny _ A.in1 (ret Value.none) _ _ _
  exact wpAny_pure (hR s' (m.mono up) (hS.at fun o g=>m.heap d o hw g))
 | succ k ih=>
  intro i s hk hi st hS hR
  have hlt:i<n:=by omega
  refine codeAny_builtin F.entry_set_update_loop ?_
  rw[Around.under_plainId F.plain_set_update_loop _]
  show wpAny _ A.in1 (pyNext (.ref I) >>= _) _ _ _
  refine wpAny_bind (W.item i s _ _ hlt st fun v s' hP st' m=>?_)
  obtain ⟨t,rfl⟩:=hf i v hP
  have hS':SetL P w s'.heap d (ya4 f i):=hS.at fun o g=>m.heap d o hw g
  show wpAny _ A.in1 (holding [Value.int (f i) t] (setAdd d (.int (f i) t)) >>= _) _ _ _
  refine wpAny_bind (wpAny_holding ?_)
  unfold setAdd
  refine wpAny_holding ?_
  refine wpAny_bind ((intKind P w).pyHash (k:=f i) (intKind_is _ _ _ _) ?_)
  have room:(ya4 f i).length+1<scanBound:=by have:=ye5 f i;omega
  refine addL (s:={ s' with toks:=s'.toks+1 }) hS' room fun b h' sb S2=>?_
  have S3:SetL P w h' d (ya4 f (i+1)):=S2
  refine wpAny_pure ⟨plainId_quiet F.plain_set_update_loop _,?_⟩
  refine ih (i+1) _ (by omega) hlt (W.frame _ s' _ _ st' (Nat.le_succ _) fun b hb o g=>?_) S3 fun s2 m2 S4=>?_
  ·rw[sb.2 b (fun z:b=d=>hd (by rw[← z];exact hb))];exact g
  ·refine hR s2 (Moved.trans W.gtrans ((m.mono up).then_heap (Nat.le_succ _) fun b o hb g=>?_) m2) S4
   rw[sb.2 b (fun z:b=d=>hb (by rw[z];exact List.mem_cons_self))];exact g
end
section
variable {P:Program}{w:World}{A:Around}{E:Value→Shared→Prop}{s:Shared}
theorem newL (v:Value) {Q1:Value→Shared→Prop} (h:Q1 (.ref s.heap.objs.size) { s with heap:=s.heap.push { cls:=.type "set",dict:=none,data:=.set #[] 0 (.fresh 0 0 (!byTx w)) } }) :
  codeAny (model P w) A (.call (.builtin "set.__new__") ⟨[.type "set",v],[]⟩) (wants Q1 E) s:=by
 refine codeAny_of_tree ?_
 show wpAny _ A.in1 (do checkBuiltinCall "set.__new__" ⟨[.type "set",v],[]⟩;again (.builtin "set.__new__" ⟨[.type "set",v],[]⟩)) _ _ s
 refine wpAny_bind (wpAny_of_eq (F.newCall_set_1 v) (wpAny_pure ⟨plainId_quiet F.plain_set_new _,?_⟩))
 refine codeAny_builtin F.entry_set_new ?_
 rw[Around.under_plainId F.plain_set_new _]
 unfold Builtin.«set.__new__» Builtin.Frozenset.newClass
 have hsub:=sub_set_self
 obtain ⟨hp,g,d,tk,os⟩:=s
 dsimp only
 wp_walk
 refine wpAny_askSetting ?_
 refine wpAny_pure ?_
 dsimp only
 simp only[newObj]
 refine wpAny_bind (wpAny_alloc ?_)
 exact wpAny_pure (wpAny_pure h)
theorem SetL.new {h:Heap}{a:Addr} (g:h.get? a=some { cls:=.type "set",dict:=none,data:=.set #[] 0 (.fresh 0 0 (!byTx w)) }):SetL P w h a []:=by
 refine ⟨_,#[],0,_,g,⟨rfl,rfl,rfl⟩,rfl,fun e he=>by simp at he,⟨[],.nil,List.Perm.refl _⟩,by decide,rfl,⟨fun i j x y _ hx=>by simp[SetTable.fresh] at hx,rfl⟩,?_⟩
 cases byTx w
 ·exact .inr rfl
 ·exact .inl rfl
set_option maxHeartbeats 6400000 in
theorem ykx {l:Addr}{its:Array Value}{ns:List Int}{Q:Value→Shared→Prop} (hh:A.handled=none) (hl:s.heap.IsList l its) (hi:IntsAre its.toList ns) (hb:its.size+1<scanBound)
  (k:∀ (h':Heap) (tk:Nat),SetL P w h' s.heap.objs.size (ya4 (fun i=>ns.getD i 0) its.size)→(∀ b o,b<s.heap.objs.size→s.heap.get? b=some o→h'.get? b=some o)→Q (.ref s.heap.objs.size) { s with heap:=h',toks:=tk }) :
  wpAny (model P w) A (call (.type "set") [.ref l]) Q E s:=by
 obtain ⟨c0,tl0,c1⟩:=F.called_set.mro
 have c2:=F.called_set.made
 have c3:=F.called_set.sub
 refine wpAny_call (codeAny_of_tree ?_)
 show wpAny _ _ (callAny (.type "set") _) _ _ s
 refine wpAny_pure ⟨?_,?_⟩
 ·exact Code.quiet_builtin _ (by decide +kernel)
 refine codeAny_builtin F.entry_type_call ?_
 rw[Around.under_plain (weight_type_call_type "set" [.ref l] []) rfl]
 have c4:=F.called_set.notType
 have c5:=F.called_set.canCreate
 have c6:=F.typeCall_set_1 (.ref l)
 repeat (any_goals first|assumption|wp_step)
 refine codeAny_mono (newL (.ref l) (E:=E) (Q1:=fun v s1=>v=.ref s.heap.objs.size∧s1={ s with heap:=s.heap.push { cls:=.type "set",dict:=none,data:=.set #[] 0 (.fresh 0 0 (!byTx w)) } }) ⟨rfl,rfl⟩) fun r s1 hr=>?_
 cases r with
 | error e=>exact hr
 | ok fl=>
  cases fl with
  | ret v=>
   obtain ⟨rfl,rfl⟩:=hr
   have g1:(s.heap.push { cls:=.type "set",dict:=none,data:=.set #[] 0 (.fresh 0 0 (!byTx w)) }).get? s.heap.objs.size=some { cls:=.type "set",dict:=none,data:=.set #[] 0 (.fresh 0 0 (!byTx w)) }:=Heap.get?_push_size _ rfl
   have c7:Shared.TypeIs { s with heap:=s.heap.push { cls:=.type "set",dict:=none,data:=.set #[] 0 (.fresh 0 0 (!byTx w)) } } (.ref s.heap.objs.size) "set":=⟨_,g1,rfl⟩
   have c8:=F.called_set.init.lookup
   have c9:=F.called_set.init.bind (.ref s.heap.objs.size)
   repeat (any_goals first|assumption|wp_step)
   refine codeAny_mono (codeAny_call_builtin (R:=wants (fun r s2=>r=.none∧∃ h' tk,s2={ s with heap:=h',toks:=tk }∧SetL P w h' s.heap.objs.size (ya4 (fun i=>ns.getD i 0) its.size)∧
     (∀ b o,b<s.heap.objs.size→s.heap.get? b=some o→h'.get? b=some o)) E) F.called_set.init.plain F.entry_set_init (check_set_init_1 c7 ?_)) fun r2 s2 hr2=>?_
   ·obtain ⟨ol,gl,cl,nl,dl⟩:=hl
    obtain ⟨qc,qd,qa,qs⟩:=ol
    simp only at cl dl
    subst cl
    subst dl
    have gl':(s.heap.push { cls:=.type "set",dict:=none,data:=.set #[] 0 (.fresh 0 0 (!byTx w)) }).get? l=some { cls:=.type "list",dict:=qd,data:=.seq its nl,slots:=qs }:=Heap.get?_push_of_some _ gl
    have d1:=F.sub_list_set
    have d2:=F.sub_list_frozenset
    have d3:(Value.type "list" == Value.type "dict")=false:=by decide
    have hl1:(s.heap.push { cls:=.type "set",dict:=none,data:=.set #[] 0 (.fresh 0 0 (!byTx w)) }).IsList l its:=⟨_,gl',rfl,nl,rfl⟩
    unfold Builtin.«set.__init__» noKeywords Builtin.Frozenset.updateFrom
    generalize hPI:pyIter=PI
    wp_walk
    subst hPI
    refine wpAny_pyIter_list hl1 ?_
    refine wpAny_bind (wpAny_runValue ?_)
    have lt:l<s.heap.objs.size:=Heap.lt_size gl
    have h3:A.in1.in1.in1.handled=none:=by simp[hh]
    have nI:l≠(s.heap.push { cls:=.type "set",dict:=none,data:=.set #[] 0 (.fresh 0 0 (!byTx w)) }).objs.size:=by
     rw[Heap.size_push];exact Nat.ne_of_lt (Nat.lt_succ_of_lt lt)
    have nf:s.heap.objs.size∉[(s.heap.push { cls:=.type "set",dict:=none,data:=.set #[] 0 (.fresh 0 0 (!byTx w)) }).objs.size,l]:=by
     rw[Heap.size_push];simp only[List.mem_cons,List.mem_singleton,List.not_mem_nil,or_false,not_or]
     exact ⟨Nat.ne_of_lt (Nat.lt_succ_self _),Nat.ne_of_gt lt⟩
    have hv:∀ (i:Nat) (v:Value),its[i]?=some v→∃ t,v=.int ((fun i=>ns.getD i 0) i) t:=fun i v z=>PyProof.Rows.IntsAre.int_at hi i v (by rw[Array.getElem?_toList];exact z)
    refine loopL ((Walks.list h3 _ l nI its).toS) s.heap.objs.size nf (fun i=>ns.getD i 0) hv hb (its.size-0) 0 _ (by omega) (Nat.zero_le _) ⟨⟨_,Heap.get?_push_size _ rfl,rfl,rfl⟩,(hl1.push _)⟩ ?S0 ?R0
    case S0=>exact SetL.new (Heap.get?_push_of_some _ g1)
    case R0=>
     intro s' m S'
     obtain ⟨h',g',d',tk',os'⟩:=s'
     have eg:g'=s.gens:=m.gens
     have ed:d'=s.drawn:=m.drawn
     have eo:os'=s.os:=m.os
     subst eg
     subst ed
     subst eo
     show wpAny _ _ _ _ _ _
     refine wpAny_pure ?_
     show wpAny _ _ (ret Value.none) _ _ _
     refine wpAny_pure ⟨rfl,h',tk',rfl,S',fun b o lb g=>?_⟩
     have b1:b≠s.heap.objs.size:=Nat.ne_of_lt lb
     have b2:b≠(s.heap.push { cls:=.type "set",dict:=none,data:=.set #[] 0 (.fresh 0 0 (!byTx w)) }).objs.size:=by
      rw[Heap.size_push];exact Nat.ne_of_lt (Nat.lt_succ_of_lt lb)
     exact m.heap b o (by simp only[List.mem_cons,List.mem_singleton,List.not_mem_nil,or_false,not_or];exact ⟨b1,b2⟩) (Heap.get?_push_of_some _ (Heap.get?_push_of_some _ g))
   ·cases r2 with
    | error e=>exact hr2
    | ok fl2=>
     cases fl2 with
     | ret r=>
      obtain ⟨rfl,h',tk,rfl,S',kp⟩:=hr2
      repeat (any_goals first|assumption|wp_step)
      exact k _ _ S' kp
     | _=>exact hr2.elim
  | _=>exact hr.elim
end
theorem qar:Slot "set_iterator" "__next__" "set_iterator.__next__":=
 .of (owner:="set_iterator") (n:="__next__") (by rw[typeLookup_type,builtinLookup_eq_fast];kernel_rfl) (by decide +kernel) (by decide +kernel) (by decide +kernel) (by first|exact .inl (by decide +kernel)|exact .inr (by decide +kernel)) (by rw[isSubtype_type];kernel_rfl)
theorem ybr:entryFor table "set_iterator.__next__" = some Builtin.«set_iterator.__next__»:=entryFor_of_tree (by kernel_rfl)
theorem ybz (v:Value):argsOk "set_iterator.__next__" ⟨[v],[]⟩:=by unfold argsOk;kernel_rfl
theorem ygn:entryFor table "set.__iter__" = some Builtin.«frozenset.__iter__»:=
 entryFor_alias (id':="frozenset.__iter__") (by kernel_rfl) (by first|rfl|decide +kernel|(unfold String.splitOn;simp +decide [String.splitOnAux])) (by decide +kernel) (by kernel_rfl)
theorem yhq {M:Model}{A:Around}{E:Value→Shared→Prop}{s:Shared}{n:Nat}{Q:Nat→Shared→Prop} (hn:n≠0) (h:∀ i d,i<n→Q i { s with drawn:=d }):wpAny M A (choose .order n) Q E s:=
 fun Γ p hΓ=>⟨hn,h _ _ (Nat.mod_lt _ (Nat.pos_of_ne_zero hn))⟩
theorem ye6 {α:Type}:∀ (xs:List α) (i:Nat) (x:α),xs[i]?=some x→(x::xs.eraseIdx i).Perm xs
 | [],i,x,h=>by simp at h
 | a::xs,0,x,h=>by
  have e:a=x:=by simpa using h
  subst e
  exact List.Perm.refl _
 | a::xs,i+1,x,h=>by
  have ih:=ye6 xs i x (by simpa using h)
  show (x::a::xs.eraseIdx i).Perm (a::xs)
  exact (List.Perm.swap a x _).trans (ih.cons a)
theorem yfg {α:Type}{M:Model}{A:Around}{E:Value→Shared→Prop}:∀ (n:Nat) (xs:List α) (s:Shared) (Q:List α→Shared→Prop),xs.length=n→(∀ ys d,ys.Perm xs→Q ys { s with drawn:=d })→wpAny M A (drawOrder n xs) Q E s
 | 0,xs,s,Q,hl,h=>by
  unfold drawOrder
  have e:xs=[]:=List.length_eq_zero_iff.mp hl
  subst e
  exact wpAny_pure (h [] s.drawn (List.Perm.refl _))
 | n+1,[],s,Q,hl,h=>by simp at hl
 | n+1,x::xs,s,Q,hl,h=>by
  unfold drawOrder
  refine wpAny_bind (yhq (by simp) fun i d hi=>?_)
  have hg:(x::xs)[i]?=some (x::xs)[i]:=List.getElem?_eq_getElem hi
  rw[hg]
  dsimp only
  refine wpAny_bind (yfg n _ _ _ (by rw[List.length_eraseIdx];simp only[if_pos hi];omega) fun ys d' hp=>?_)
  exact wpAny_pure (h _ d' ((hp.cons _).trans (ye6 _ i _ hg)))
theorem ylk {α:Type} (f:Nat→Nat):∀ (n k:Nat) (xs:List α) (out:Array α),xs.length=n→∃ ys:List α,ys.Perm xs∧(pickOrder.go f n k xs out).toList=out.toList++ys
 | 0,k,xs,out,hl=>⟨[],by rw[List.length_eq_zero_iff.mp hl],by unfold pickOrder.go;simp⟩
 | n+1,k,xs,out,hl=>by
  have hlt:f k % xs.length<xs.length:=Nat.mod_lt _ (by omega)
  have hg:xs[f k % xs.length]?=some xs[f k % xs.length]:=List.getElem?_eq_getElem hlt
  unfold pickOrder.go
  rw[hg]
  dsimp only
  obtain ⟨ys,hp,e⟩:=ylk f n (k+1) (xs.eraseIdx (f k % xs.length)) (out.push xs[f k % xs.length]) (by rw[List.length_eraseIdx,if_pos hlt];omega)
  refine ⟨xs[f k % xs.length]::ys,(hp.cons _).trans (ye6 _ _ _ hg),?_⟩
  rw[e]
  simp
theorem qgy {α:Type} (f:Nat→Nat) (xs:Array α):(pickOrder f xs).toList.Perm xs.toList:=by
 obtain ⟨ys,hp,e⟩:=ylk f xs.size 0 xs.toList #[] (by simp)
 unfold pickOrder
 rw[e]
 simpa using hp
section
variable {P:Program}{w:World}{A:Around}{E:Value→Shared→Prop}{s:Shared}{a:Addr}{o:Obj}{es:Array (Int×Value)}{ep:Nat}{t:SetTable}
theorem ymb {Q:Option (Value×Nat)→Shared→Prop}{slot i:Nat} (hb:byTx w=true) (g:s.heap.get? a=some o) (gd:o.data=.set es ep t) (hf:t.fits es.size=true)
  (h:Q (((pickOrder (w.params.setOrder a ep) es).toList.map (·.2))[i]?.map fun v=>(v,slot)) s):wpAny (model P w) A (setNext a slot i ep) Q E s:=by
 unfold setNext
 refine wpAny_bind (wpAny_setState_of g gd hf ?_)
 dsimp only
 unfold setsByText
 refine wpAny_bind (wpAny_bind (wpAny_askSetting (wpAny_pure ?_)))
 have hb':w.params.followText "set-order" = true:=hb
 show wpAny _ _ (if w.params.followText "set-order" = true then _ else _) _ _ _
 rw[if_pos hb',if_neg (by simp)]
 unfold setWalk
 refine wpAny_bind (wpAny_bind (wpAny_setState_of g gd hf ?_))
 dsimp only
 unfold setsByText
 refine wpAny_bind (wpAny_bind (wpAny_askSetting (wpAny_pure ?_)))
 show wpAny _ _ (if w.params.followText "set-order" = true then _ else _) _ _ _
 rw[if_pos hb']
 refine wpAny_bind (wpAny_askSetting (wpAny_pure ?_))
 refine wpAny_pure ?_
 rw[List.getElem?_map,Array.getElem?_toList,Option.map_map] at h
 exact h
theorem next_led {Q:Option (Value×Nat)→Shared→Prop}{slot i:Nat} (hb:byTx w=false) (g:s.heap.get? a=some o) (gd:o.data=.set es ep t) (hf:t.fits es.size=true) (hl:t.led=true) (hp:t.plain=true∨es.size≤1)
  (h:Q (match es[SetTable.below t.place slot]?,t.place[SetTable.below t.place slot]? with|some (_,x),some j=>some (x,j+1)|_,_=>none) s):wpAny (model P w) A (setNext a slot i ep) Q E s:=by
 unfold setNext
 refine wpAny_bind (wpAny_setState_of g gd hf ?_)
 dsimp only
 unfold setsByText
 refine wpAny_bind (wpAny_bind (wpAny_askSetting (wpAny_pure ?_)))
 have hb':w.params.followText "set-order" = false:=hb
 show wpAny _ _ (if w.params.followText "set-order" = true then _ else _) _ _ _
 rw[if_neg (by rw[hb'];exact Bool.false_ne_true)]
 refine wpAny_ite_split (fun hd=>?_) fun _=>?_
 ·exfalso
  have hd':(!t.plain&&decide (es.size>1))=true:=hd
  rw[Bool.and_eq_true,decide_eq_true_eq] at hd'
  rcases hp with hp|hp
  ·rw[hp] at hd';exact absurd hd'.1 (by decide)
  ·omega
 ·refine wpAny_bind ?_
  refine wpAny_ite_split (fun hd=>?_) fun _=>?_
  ·exfalso
   have hd':(!t.led && !es.isEmpty)=true:=hd
   rw[hl] at hd'
   exact absurd hd' (by simp)
  ·exact wpAny_pure (wpAny_pure h)
end
theorem qdt:Slot "set_iterator" "__iter__" "set_iterator.__iter__":=
 .of (owner:="set_iterator") (n:="__iter__") (by rw[typeLookup_type,builtinLookup_eq_fast];kernel_rfl) (by decide +kernel) (by decide +kernel) (by decide +kernel) (by first|exact .inl (by decide +kernel)|exact .inr (by decide +kernel)) (by rw[isSubtype_type];kernel_rfl)
theorem qfo:entryFor table "set_iterator.__iter__" = some Builtin.«dict_keyiterator.__iter__»:=
 entryFor_alias (id':="dict_keyiterator.__iter__") (by kernel_rfl) (by first|rfl|decide +kernel|(unfold String.splitOn;simp +decide [String.splitOnAux])) (by decide +kernel) (by kernel_rfl)
theorem qgi (v:Value):argsOk "set_iterator.__iter__" ⟨[v],[]⟩:=by unfold argsOk;kernel_rfl
noncomputable def SI (h:Heap) (I:Addr) (f:Value) (i:Nat) (a:Addr) (n ep:Nat):Prop:=h.get? I=some { cls:=.type "set_iterator",dict:=none,data:=.fields #[f,rawInt i,.ref a,rawInt n,rawInt ep],slots:=#[] }
section
variable {P:Program}{w:World}{A:Around}{E:Value→Shared→Prop}{s:Shared}
theorem qh7 {I:Addr}{Q:Value→Shared→Prop} (hT:s.TypeIs (.ref I) "set_iterator") (h:Q (.ref I) s):wpAny (model P w) A (pyIter (.ref I)) Q E s:=by
 refine wpAny_pyIter_slot hT qdt (wpAny_call_entry qdt hT qfo ?_ (qgi _))
 show wpAny _ _ (ret (.ref I)) _ _ s
 exact wpAny_pure ⟨_,rfl,"set_iterator",_,hT,qar.lookup,h⟩
theorem qg7 {Q:Fin→Shared→Prop} (hh:A.handled=none) (h:∀ h' e,(∀ b o,s.heap.get? b=some o→h'.get? b=some o)→(∃ o,h'.get? e=some o∧o.cls=.type "StopIteration")→E (.ref e) { s with heap:=h' }) :
  wpAny (model P w) A (newExc (.type "StopIteration") [] >>= fun e=>(raiseNew e:Sem Fin)) Q E s:=by
 refine wpAny_bind ?_
 simp only[newExc,newTuple]
 refine wpAny_bind (wpAny_newObj_type ?_ (by size_fits))
 refine wpAny_bind (m:=firstArgMember _ _) ?_
 refine wpAny_of_eq (a:=Value.none) (by first|rfl|(simp only[firstArgMember];rfl)) ?_
 refine wpAny_newObj_type ?_ (by size_fits)
 simp only[raiseNew]
 refine wpAny_bind (wpAny_handled ?_)
 rw[hh]
 refine wpAny_bind (wpAny_pure (wpAny_throw ?_))
 exact h _ _ (fun b o g=>Heap.get?_push_of_some _ (Heap.get?_push_of_some _ g)) ⟨_,Heap.get?_push_size _ rfl,rfl⟩
theorem yfr {h':Heap}{I:Addr} (k:∀ b o,b≠I→s.heap.get? b=some o→h'.get? b=some o):Moved [I] (fun x y=>y=x) s { s with heap:=h' }:=
 ⟨fun b o hb g=>k b o (fun z=>hb (by rw[z];exact List.mem_singleton.mpr rfl)) g,rfl,rfl,rfl,Nat.le_refl _⟩
theorem ymh (hh:A.handled=none) {I a:Addr}{o:Obj}{es:Array (Int×Value)}{ep:Nat}{t:SetTable} (nI:a≠I) (gd:o.data=.set es ep t) (hf:t.fits es.size=true) (F:Nat→Nat) (vs:List Value) (hvs:vs.length=es.size)
  (hn:∀ (B:Around) (D:Value→Shared→Prop) (s:Shared) (i:Nat) (Q:Option (Value×Nat)→Shared→Prop),s.heap.get? a=some o→i≤es.size→Q (vs[i]?.map fun v=>(v,F (i+1))) s→wpAny (model P w) B (setNext a (F i) i ep) Q D s) :
  WalksS P w A I [I,a] [I] (fun x y=>y=x) es.size (fun i v=>vs[i]?=some v) (fun i s=>SI s.heap I (rawInt (F i)) i a es.size ep∧s.heap.get? a=some o) where
 sub:=fun b hb=>by rw[List.mem_singleton] at hb;rw[hb];exact List.mem_cons_self ..
 grefl:=fun _=>rfl
 gtrans:=fun _ _ _ h1 h2=>h2.trans h1
 frame:=fun i s h' tk st _ k=>⟨k I (by simp) _ st.1,k a (by simp) _ st.2⟩
 item:=fun i s Q E hi st hQ=>by
  obtain ⟨gI,ga⟩:=st
  have hT:s.TypeIs (.ref I) "set_iterator":=⟨_,gI,rfl⟩
  have hv:vs[i]?=some vs[i]:=List.getElem?_eq_getElem (by omega)
  unfold pyNext
  refine wpAny_bind (wpAny_attempt (wpAny_callSpecial?_slot (name:=Str.ofString "__next__") hT qar (wpAny_call_entry qar hT ybr ?_ (ybz _))))
  show wpAny _ _ (fieldsOf (.ref I) >>= _) _ _ s
  refine wpAny_bind (wpAny_fieldsOf gI rfl ?_)
  show wpAny _ _ (setEntries a >>= _) _ _ s
  refine wpAny_bind (wpAny_setEntries_of ga gd hf ?_)
  rw[if_neg (by simp)]
  show wpAny _ _ (setNext a (F i) i ep >>= _) _ _ s
  refine wpAny_bind (hn _ _ s i _ ga (by omega) ?_)
  rw[hv]
  show wpAny _ _ (setField (.ref I) 0 (rawInt (F (i+1))) >>= _) _ _ s
  refine wpAny_bind (wpAny_setField_rec gI (by simp) fun m1 g1 e1=>?_)
  refine wpAny_bind (wpAny_setField_rec g1 (by simp) fun m2 g2 e2=>?_)
  refine wpAny_pure ⟨_,rfl,wpAny_pure (hQ _ _ hv ⟨?_,?_⟩ (yfr fun b ob hb g=>(e2.extBut _ _ hb (e1.extBut _ _ hb g))))⟩
  ·exact g2
  ·exact e2.extBut _ _ nI (e1.extBut _ _ nI ga)
 done:=fun s Q E st hQ=>by
  obtain ⟨gI,ga⟩:=st
  have hT:s.TypeIs (.ref I) "set_iterator":=⟨_,gI,rfl⟩
  have hv:vs[es.size]?=none:=List.getElem?_eq_none (by omega)
  unfold pyNext
  refine wpAny_bind (wpAny_attempt (wpAny_callSpecial?_slot (name:=Str.ofString "__next__") hT qar (wpAny_call_entry qar hT ybr ?_ (ybz _))))
  show wpAny _ _ (fieldsOf (.ref I) >>= _) _ _ s
  refine wpAny_bind (wpAny_fieldsOf gI rfl ?_)
  show wpAny _ _ (setEntries a >>= _) _ _ s
  refine wpAny_bind (wpAny_setEntries_of ga gd hf ?_)
  rw[if_neg (by simp)]
  show wpAny _ _ (setNext a (F es.size) es.size ep >>= _) _ _ s
  refine wpAny_bind (hn _ _ s es.size _ ga (Nat.le_refl _) ?_)
  rw[hv]
  show wpAny _ _ (setField (.ref I) 2 Value.none >>= _) _ _ s
  refine wpAny_bind (wpAny_setField_rec gI (by simp) fun m1 g1 e1=>?_)
  refine qg7 (by first|exact hh|simpa using hh) fun m2 e kp he=>?_
  obtain ⟨ob,go,gc⟩:=he
  refine wpAny_bind (wpAny_isInstance (T:="StopIteration") (b:=true) ⟨ob,go,gc⟩ isSubtype_stop ?_)
  exact wpAny_pure (hQ _ (yfr fun b ob hb g=>kp b ob (e1.extBut _ _ hb g)))
 self:=fun i s Q E st hQ=>by
  obtain ⟨gI,ga⟩:=st
  exact qh7 ⟨_,gI,rfl⟩ hQ
theorem ymk (hh:A.handled=none) {I a T:Addr}{o:Obj}{es:Array (Int×Value)}{ep:Nat}{t:SetTable} (nI:a≠I) (nT:T≠I) (gd:o.data=.set es ep t) (hf:t.fits es.size=true) (ps:List Nat) (hps:ps.length=es.size) (hlt:∀ p∈ps,p<es.size) (vs:List Value) (hvs:vs=ps.map fun p=>(es.getD p (0,.none)).2) :
  WalksS P w A I [I,a,T] [I] (fun x y=>y=x) es.size (fun i v=>vs[i]?=some v) (fun i s=>SI s.heap I (.ref T) i a es.size ep∧s.heap.get? a=some o∧s.heap.get? T=some { cls:=.type "tuple",data:=.seq (ps.map fun (p:Nat)=>rawInt p).toArray }) where
 sub:=fun b hb=>by rw[List.mem_singleton] at hb;rw[hb];exact List.mem_cons_self ..
 grefl:=fun _=>rfl
 gtrans:=fun _ _ _ h1 h2=>h2.trans h1
 frame:=fun i s h' tk st _ k=>⟨k I (by simp) _ st.1,k a (by simp) _ st.2.1,k T (by simp) _ st.2.2⟩
 item:=fun i s Q E hi st hQ=>by
  obtain ⟨gI,ga,gT⟩:=st
  have hT:s.TypeIs (.ref I) "set_iterator":=⟨_,gI,rfl⟩
  have hp:ps[i]?=some ps[i]:=List.getElem?_eq_getElem (by omega)
  have hpl:ps[i]<es.size:=hlt _ (List.getElem_mem _)
  have he:es[ps[i]]?=some es[ps[i]]:=Array.getElem?_eq_getElem hpl
  have hv:vs[i]?=some (es[ps[i]]).2:=by
   rw[hvs,List.getElem?_map,hp,Option.map_some,Array.getD_eq_getD_getElem?,he]
   rfl
  have hpi:(ps.map fun (p:Nat)=>rawInt p).toArray[i]?=some (rawInt ps[i]):=by
   rw[List.getElem?_toArray,List.getElem?_map,hp];rfl
  unfold pyNext
  refine wpAny_bind (wpAny_attempt (wpAny_callSpecial?_slot (name:=Str.ofString "__next__") hT qar (wpAny_call_entry qar hT ybr ?_ (ybz _))))
  show wpAny _ _ (fieldsOf (.ref I) >>= _) _ _ s
  refine wpAny_bind (wpAny_fieldsOf gI rfl ?_)
  show wpAny _ _ (setEntries a >>= _) _ _ s
  refine wpAny_bind (wpAny_setEntries_of ga gd hf ?_)
  rw[if_neg (by simp)]
  show wpAny _ _ (seqItems? (.ref T) >>= _) _ _ s
  refine wpAny_bind (wpAny_seqItems gT rfl ?_)
  dsimp only
  rw[show ((i:Int)).toNat=i from rfl,hpi]
  show wpAny _ _ (setNextDrawn a ps[i] ep >>= _) _ _ s
  unfold setNextDrawn
  refine wpAny_bind (wpAny_bind (wpAny_setState_of ga gd hf ?_))
  dsimp only
  rw[if_neg (by simp),he]
  refine wpAny_pure ?_
  show wpAny _ _ (setField (.ref I) 1 (rawInt (i+1)) >>= _) _ _ s
  refine wpAny_bind (wpAny_setField_rec gI (by simp) fun m1 g1 e1=>?_)
  refine wpAny_pure ⟨_,rfl,wpAny_pure (hQ _ _ hv ⟨?_,?_,?_⟩ (yfr fun b ob hb g=>e1.extBut _ _ hb g))⟩
  ·exact g1
  ·exact e1.extBut _ _ nI ga
  ·exact e1.extBut _ _ nT gT
 done:=fun s Q E st hQ=>by
  obtain ⟨gI,ga,gT⟩:=st
  have hT:s.TypeIs (.ref I) "set_iterator":=⟨_,gI,rfl⟩
  have hpi:(ps.map fun (p:Nat)=>rawInt p).toArray[es.size]?=none:=by
   rw[List.getElem?_toArray];exact List.getElem?_eq_none (by rw[List.length_map];omega)
  unfold pyNext
  refine wpAny_bind (wpAny_attempt (wpAny_callSpecial?_slot (name:=Str.ofString "__next__") hT qar (wpAny_call_entry qar hT ybr ?_ (ybz _))))
  show wpAny _ _ (fieldsOf (.ref I) >>= _) _ _ s
  refine wpAny_bind (wpAny_fieldsOf gI rfl ?_)
  show wpAny _ _ (setEntries a >>= _) _ _ s
  refine wpAny_bind (wpAny_setEntries_of ga gd hf ?_)
  rw[if_neg (by simp)]
  show wpAny _ _ (seqItems? (.ref T) >>= _) _ _ s
  refine wpAny_bind (wpAny_seqItems gT rfl ?_)
  dsimp only
  rw[show ((es.size:Int)).toNat=es.size from rfl,hpi]
  show wpAny _ _ (setField (.ref I) 0 (rawInt 0) >>= _) _ _ s
  refine wpAny_bind (wpAny_setField_rec gI (by simp) fun m0 g0 e0=>?_)
  refine wpAny_bind (wpAny_setField_rec g0 (by simp) fun m1 g1 e1=>?_)
  refine qg7 (by first|exact hh|simpa using hh) fun m2 e kp he=>?_
  obtain ⟨ob,go,gc⟩:=he
  refine wpAny_bind (wpAny_isInstance (T:="StopIteration") (b:=true) ⟨ob,go,gc⟩ isSubtype_stop ?_)
  exact wpAny_pure (hQ _ (yfr fun b ob hb g=>kp b ob (e1.extBut _ _ hb (e0.extBut _ _ hb g))))
 self:=fun i s Q E st hQ=>by
  obtain ⟨gI,ga,gT⟩:=st
  exact qh7 ⟨_,gI,rfl⟩ hQ
end
theorem yl6 {t:SetTable}{n:Nat} (h:t.fits n=true):t.place.size=n:=by
 unfold SetTable.fits at h
 rw[Bool.and_eq_true,beq_iff_eq] at h
 exact h.1
noncomputable def yjv (t:SetTable) (i:Nat):Nat:=if i=0 then 0 else t.place.getD (i-1) 0+1
theorem yin {t:SetTable} (hs:Srt t.place) {i:Nat} (hi:i≤t.place.size):SetTable.below t.place (yjv t i)=i:=by
 by_cases h0:i=0
 ·subst h0
  exact yjm hs (Nat.zero_le _) (fun k x hk=>absurd hk (Nat.not_lt_zero _)) fun k x _ _=>Nat.zero_le _
 ·have hlt:i-1<t.place.size:=by omega
  have hg:t.place[i-1]?=some (t.place.getD (i-1) 0):=by
   rw[Array.getD_eq_getD_getElem?,Array.getElem?_eq_getElem hlt];rfl
  have e:yjv t i=t.place.getD (i-1) 0+1:=by unfold yjv;rw[if_neg h0]
  rw[e]
  refine yjm hs hi (fun k x hk hx=>?_) fun k x hk hx=>?_
  ·by_cases hk2:k=i-1
   ·subst hk2;rw[hg] at hx;cases hx;omega
   ·have:=hs k (i-1) x _ (by omega) hx hg;omega
  ·have:=hs (i-1) k _ x (by omega) hg hx;omega
section
variable {P:Program}{w:World}{A:Around}{E:Value→Shared→Prop}{s:Shared}{a:Addr}{ks:List Int}
noncomputable def WalkOf (P:Program) (w:World) (s:Shared) (a:Addr) (ks:List Int) (I:Addr) (h':Heap) (d:Drawn):Prop:=
 ∃ (n:Nat) (fp:List Addr) (vs:List Value) (ns:List Int) (St:Nat→Shared→Prop),n=ks.length∧(∀ B:Around,B.handled=none→WalksS P w B I fp [I] (fun x y=>y=x) n (fun i v=>vs[i]?=some v) St)∧St 0 { s with heap:=h',drawn:=d }∧
  s.heap.objs.size≤I∧(∀ b∈fp,b=a∨s.heap.objs.size≤b)∧(∀ b o,s.heap.get? b=some o→h'.get? b=some o)∧IntsAre vs ns∧ns.Perm ks
theorem iterL {Q:Value→Shared→Prop} (hS:SetL P w s.heap a ks) (k:∀ I h' d,WalkOf P w s a ks I h' d→Q (.ref I) { s with heap:=h',drawn:=d }):wpAny (model P w) A (pyIter (.ref a)) Q E s:=by
 obtain ⟨o,es,ep,t,g,gx,gd,el,⟨ns,hi,hp⟩,hb,hf,ht,hl⟩:=hS
 have hT:s.TypeIs (.ref a) "set":=⟨o,g,gx.1⟩
 have hlen:es.size=ks.length:=by
  have h1:=IntsAre.length hi
  rw[List.length_map,Array.length_toList] at h1
  rw[h1,hp.length_eq]
 have hpl:t.place.size=es.size:=yl6 hf
 have ha:a<s.heap.objs.size:=Heap.lt_size g
 refine wpAny_pyIter_slot hT F.slot_set_iter (wpAny_call_entry F.slot_set_iter hT ygn ?_ (F.args_set_iter_1 _))
 show wpAny _ _ (Builtin.Frozenset.sizeOf a >>= _) _ _ s
 refine wpAny_bind ?_
 unfold Builtin.Frozenset.sizeOf
 refine wpAny_bind (wpAny_setEntries_of g gd hf ?_)
 refine wpAny_pure ?_
 refine wpAny_bind ?_
 refine wpAny_bind ?_
 refine wpAny_setState_of g gd hf ?_
 dsimp only
 unfold setsByText
 refine wpAny_bind (wpAny_bind (wpAny_askSetting (wpAny_pure ?_)))
 refine wpAny_pure ?_
 dsimp only
 refine wpAny_ite_split (fun hd=>?_) fun hd=>?_
 ·refine wpAny_bind (yfg es.size (List.range es.size) s _ (by simp) fun ps d pp=>?_)
  have hpsl:ps.length=es.size:=by rw[pp.length_eq,List.length_range]
  refine wpAny_bind (wpAny_newTuple ?_ (by rw[List.length_map,hpsl];exact fits_of_scanBound hb))
  have gT:(s.heap.push { cls:=.type "tuple",data:=.seq (ps.map fun (p:Nat)=>rawInt p).toArray }).get? s.heap.objs.size=some { cls:=.type "tuple",data:=.seq (ps.map fun (p:Nat)=>rawInt p).toArray }:=Heap.get?_push_size _ rfl
  have ga:(s.heap.push { cls:=.type "tuple",data:=.seq (ps.map fun (p:Nat)=>rawInt p).toArray }).get? a=some o:=Heap.get?_push_of_some _ g
  refine wpAny_bind (wpAny_setEpoch_of (s:={ s with heap:=s.heap.push { cls:=.type "tuple",data:=.seq (ps.map fun (p:Nat)=>rawInt p).toArray },drawn:=d }) ga gd hf ?_)
  refine wpAny_bind (wpAny_newObj_type ?_ (by size_fits))
  have z1:(s.heap.push { cls:=.type "tuple",data:=.seq (ps.map fun (p:Nat)=>rawInt p).toArray }).objs.size=s.heap.objs.size+1:=Heap.size_push ..
  have hvp:(ps.map fun p=>(es.getD p (0,.none)).2).Perm (es.toList.map (·.2)):=by
   refine (pp.map _).trans (List.Perm.of_eq ?_)
   refine List.ext_getElem (by simp) fun i h1 h2=>?_
   have hi:i<es.size:=by simpa using h2
   rw[List.getElem_map,List.getElem_map,List.getElem_range,Array.getElem_toList]
   show (es.getD i (0,.none)).2=(es[i]).2
   rw[Array.getD_eq_getD_getElem?,Array.getElem?_eq_getElem hi]
   rfl
  obtain ⟨n2,i2,p2⟩:=yeh hvp hi
  have nI:a≠(s.heap.push { cls:=.type "tuple",data:=.seq (ps.map fun (p:Nat)=>rawInt p).toArray }).objs.size:=by rw[z1];exact neN (.inl (Nat.lt_succ_of_lt ha))
  have nT:s.heap.objs.size≠(s.heap.push { cls:=.type "tuple",data:=.seq (ps.map fun (p:Nat)=>rawInt p).toArray }).objs.size:=by rw[z1];exact neN (.inl (Nat.lt_succ_self _))
  refine wpAny_pure ⟨_,rfl,"set_iterator",_,⟨_,Heap.get?_push_size _ rfl,rfl⟩,qar.lookup,k _ _ d ?_⟩
  refine ⟨es.size,_,_,n2,_,hlen,fun B hB=>ymk hB nI nT gd hf ps hpsl (fun p hp=>List.mem_range.mp (pp.mem_iff.mp hp)) _ rfl,⟨Heap.get?_push_size _ rfl,Heap.get?_push_of_some _ ga,Heap.get?_push_of_some _ gT⟩,by rw[z1];exact Nat.le_succ _,fun b hb=>?_,fun b ob gb=>Heap.get?_push_of_some _ (Heap.get?_push_of_some _ gb),i2,p2.trans hp⟩
  have hb':b=(s.heap.push { cls:=.type "tuple",data:=.seq (ps.map fun (p:Nat)=>rawInt p).toArray }).objs.size∨b=a∨b=s.heap.objs.size:=by simpa using hb
  rcases hb' with rfl|rfl|rfl
  ·exact .inr (by rw[z1];exact Nat.le_succ _)
  ·exact .inl rfl
  ·exact .inr (Nat.le_refl _)
 ·refine wpAny_bind (wpAny_pure ?_)
  refine wpAny_bind (wpAny_setEpoch_of g gd hf ?_)
  refine wpAny_bind (wpAny_newObj_type ?_ (by size_fits))
  have nI:a≠s.heap.objs.size:=neN (.inl ha)
  have es0:s={ s with drawn:=s.drawn }:=by cases s;rfl
  have fpk:∀ b∈[s.heap.objs.size,a],b=a∨s.heap.objs.size≤b:=fun b hb=>by
   have hb':b=s.heap.objs.size∨b=a:=by simpa using hb
   rcases hb' with rfl|rfl
   ·exact .inr (Nat.le_refl _)
   ·exact .inl rfl
  refine wpAny_pure ⟨_,rfl,"set_iterator",_,⟨_,Heap.get?_push_size _ rfl,rfl⟩,qar.lookup,?_⟩
  have key:WalkOf P w s a ks s.heap.objs.size (s.heap.push { cls:=.type "set_iterator",data:=.fields #[rawInt 0,rawInt 0,.ref a,rawInt es.size,rawInt ep] }) s.drawn:=by
   by_cases hbt:byTx w=true
   ·have hvp:((pickOrder (w.params.setOrder a ep) es).toList.map (·.2)).Perm (es.toList.map (·.2)):=(qgy _ es).map _
    obtain ⟨n2,i2,p2⟩:=yeh hvp hi
    refine ⟨es.size,_,(pickOrder (w.params.setOrder a ep) es).toList.map (·.2),n2,_,hlen,fun B hB=>ymh hB nI gd hf (fun _=>0) _ (by rw[hvp.length_eq,List.length_map,Array.length_toList]) fun C D s i Q g1 hi1 q=>ymb hbt g1 gd hf q,⟨Heap.get?_push_size _ rfl,Heap.get?_push_of_some _ g⟩,Nat.le_refl _,fpk,fun b ob gb=>Heap.get?_push_of_some _ gb,i2,p2.trans hp⟩
   ·have hbf:byTx w=false:=eq_false_of_ne_true hbt
    have hled:t.led=true:=hl.resolve_left hbt
    have hpz:t.plain=true∨es.size≤1:=by
     have hd':¬ ((!byTx w&&(!t.plain&&decide (es.size>1)))=true):=hd
     rw[hbf] at hd'
     cases hq:t.plain with
     | true=>exact .inl rfl
     | false=>
      right
      rw[hq] at hd'
      simpa using hd'
    refine ⟨es.size,_,es.toList.map (·.2),ns,_,hlen,fun B hB=>ymh hB nI gd hf (yjv t) _ (by rw[List.length_map,Array.length_toList]) fun C D s i Q g1 hi1 q=>next_led hbf g1 gd hf hled hpz ?_,⟨Heap.get?_push_size _ rfl,Heap.get?_push_of_some _ g⟩,Nat.le_refl _,fpk,fun b ob gb=>Heap.get?_push_of_some _ gb,hi,hp⟩
    rw[yin ht.1 (by omega)]
    by_cases hlt:i<es.size
    ·have e1:es[i]?=some es[i]:=Array.getElem?_eq_getElem hlt
     have e2:t.place[i]?=some (t.place.getD i 0):=by
      rw[Array.getD_eq_getD_getElem?,Array.getElem?_eq_getElem (by omega)];rfl
     rw[List.getElem?_map,Array.getElem?_toList,e1] at q
     rw[e1,e2]
     exact q
    ·have e1:es[i]?=none:=Array.getElem?_eq_none (by omega)
     rw[List.getElem?_map,Array.getElem?_toList,e1] at q
     rw[e1]
     exact q
  have z:=k _ _ _ key
  exact z
end
theorem len_set:typeLookup (.type "set") "__len__" = pure (some (.builtin "set.__len__")):=by rw[typeLookup_type,builtinLookup_eq_fast];kernel_rfl
section
variable {P:Program}{w:World}{A:Around}{E:Value→Shared→Prop}{s:Shared}{a:Addr}{ks:List Int}
theorem collectL {Q:List Value→Shared→Prop} (hh:A.handled=none) (hS:SetL P w s.heap a ks) (hz:ks.length≤4000)
  (k:∀ vs ns h' d tk,IntsAre vs ns→ns.Perm ks→s.heap.objs.size<h'.objs.size→(∀ b o,s.heap.get? b=some o→h'.get? b=some o)→Q vs { s with heap:=h',drawn:=d,toks:=tk }):wpAny (model P w) A (collect (.ref a)) Q E s:=by
 have hT:s.TypeIs (.ref a) "set":=by
  obtain ⟨o,es,ep,t,g,gx,_⟩:=hS
  exact ⟨o,g,gx.1⟩
 have ha:a<s.heap.objs.size:=by
  obtain ⟨o,es,ep,t,g,gx,_⟩:=hS
  exact Heap.lt_size g
 unfold collect
 refine wpAny_bind (wpAny_runValue (codeAny_builtin F.entry_proto_collect ?_))
 rw[Around.under_plainId F.plain_proto_collect _]
 show wpAny _ A.in1 (newList [] >>= fun l=>again (.builtin "list.__iadd__" ⟨[l,.ref a],[]⟩)) _ _ s
 refine wpAny_bind (wpAny_newObj_type ?_)
 refine wpAny_pure ⟨plainId_quiet F.plain_list_iadd _,?_⟩
 refine codeAny_builtin F.entry_list_iadd ?_
 rw[Around.under_plainId F.plain_list_iadd _]
 show wpAny _ A.in1 (Builtin.List.listExtendWith (.ref s.heap.objs.size) (.ref a) (.ref s.heap.objs.size)) _ _ _
 generalize hH:s.heap.push { cls:=.type "list",data:=.seq ([]:List Value).toArray }=H1
 have g0:H1.get? s.heap.objs.size=some { cls:=.type "list",data:=.seq ([]:List Value).toArray }:=by rw[← hH];exact Heap.get?_push_size _ rfl
 have z1:H1.objs.size=s.heap.objs.size+1:=by rw[← hH];exact Heap.size_push ..
 have kp1:∀ b o,s.heap.get? b=some o→H1.get? b=some o:=fun b o g=>by rw[← hH];exact Heap.get?_push_of_some _ g
 have hS1:SetL P w H1 a ks:=hS.at fun o g=>kp1 a o g
 have hT1:Shared.TypeIs { s with heap:=H1 } (.ref a) "set":=by
  obtain ⟨o,es,ep,t,g,gx,_⟩:=hS1
  exact ⟨o,g,gx.1⟩
 unfold Builtin.List.listExtendWith
 refine wpAny_bind (wpAny_typeOf hT1 ?_)
 have n1:Builtin.List.listSameRef (.ref s.heap.objs.size) (.ref a)=false:=by
  have:s.heap.objs.size≠a:=neN (.inr ha)
  simp[Builtin.List.listSameRef,this]
 rw[if_neg (by rw[n1];decide)]
 refine wpAny_bind (iterL (s:={ s with heap:=H1 }) hS1 fun I h' d W=>?_)
 refine wpAny_bind (wpAny_holding ?_)
 have hT2:Shared.TypeIs { s with heap:=h',drawn:=d } (.ref a) "set":=by
  obtain ⟨n,fp,vs,ns,St,e,W1,st,lI,fpk,kp,i2,p2⟩:=W
  obtain ⟨o,g,c⟩:=hT1
  exact ⟨o,kp _ _ g,c⟩
 unfold Builtin.List.listLengthHint
 refine wpAny_bind (wpAny_specialOf hT2 len_set ?_)
 wp_delta
 refine wpAny_bind (wpAny_isInstance (T:="set") (b:=true) hT2 (by rw[isSubtype_type];kernel_rfl) ?_)
 show wpAny _ A.in1 (typeOf (Value.ref a) >>= _) _ _ _
 refine wpAny_bind (wpAny_typeOf hT2 ?_)
 refine wpAny_pure ?_
 rw[if_pos (by decide)]
 refine wpAny_bind (wpAny_rule ?_)
 obtain ⟨n,fp,vs,ns,St,en,W1,st,lI,fpk,kp,i2,p2⟩:=W
 have lI':s.heap.objs.size+1≤I:=by rw[← z1];exact lI
 have hd:s.heap.objs.size∉fp:=fun hm=>by
  rcases fpk _ hm with z|z
  ·exact absurd ha (by rw[← z];exact Nat.lt_irrefl _)
  ·have z':s.heap.objs.size+1≤s.heap.objs.size:=by rw[← z1];exact z
   exact absurd z' (Nat.not_succ_le_self _)
 have gS:h'.get? s.heap.objs.size=some { cls:=.type "list",data:=.seq ([]:List Value).toArray }:=kp _ _ g0
 refine wpAny_bind ?_
 show wpAny _ _ (updateSeq s.heap.objs.size (·.push .none) >>= fun _=>updateSeq s.heap.objs.size (·.pop)) _ _ _
 refine wpAny_bind (wpAny_updateSeq gS rfl ?_ (by simp) (by simp))
 have gS1:=Heap.get?_update_self (Obj.mapSeq (·.push Value.none)) gS rfl
 refine wpAny_updateSeq gS1 rfl ?_ (by simp;decide) (by simp)
 have gS2:=Heap.get?_update_self (Obj.mapSeq (·.pop)) gS1 rfl
 have oth:∀ b o,b≠s.heap.objs.size→h'.get? b=some o→((h'.update s.heap.objs.size (Obj.mapSeq (·.push Value.none))).update s.heap.objs.size (Obj.mapSeq (·.pop))).get? b=some o:=fun b o hb g=>by
  rw[Heap.get?_update_other _ _ (Ne.symm hb),Heap.get?_update_other _ _ (Ne.symm hb)]
  exact g
 have st2:=(W1 A.in1 (by simpa using hh)).frame 0 _ ((h'.update s.heap.objs.size (Obj.mapSeq (·.push Value.none))).update s.heap.objs.size (Obj.mapSeq (·.pop))) s.toks st (Nat.le_refl _) fun b hb o g=>oth b o (fun z=>hd (z ▸ hb)) g
 have hvl:n≤sizeLine:=by rw[en];exact qke (by omega)
 refine wpAny_pure ⟨plainId_quiet F.plain_extend_loop _,?_⟩
 refine codeAny_extend_loopS (W1 A.in1 (by simpa using hh)) hvl _ hd _ n 0 _ _ _ rfl (Nat.zero_le _) st2 gS2 ⟨rfl,fun j v z=>by simp at z⟩ fun s2 acc c m g2 it=>?_
 show wpAny _ A (load s.heap.objs.size >>= _) _ _ s2
 refine wpAny_bind (wpAny_load g2 ?_)
 have ev:acc.toList=vs:=by
  have hl:acc.size=n:=it.1
  have hvn:vs.length=n:=by
   have h1:=IntsAre.length i2
   rw[h1,p2.length_eq,en]
  refine List.ext_getElem? fun j=>?_
  cases hj:acc.toList[j]? with
  | none=>
   have:=List.getElem?_eq_none_iff.mp hj
   rw[Array.length_toList] at this
   rw[List.getElem?_eq_none (by omega)]
  | some v=>exact (it.2 j v (by rw[← Array.getElem?_toList];exact hj)).symm
 obtain ⟨h2,g',d2,tk,os⟩:=s2
 have eg:g'=s.gens:=m.gens
 have ed:d2=d:=m.drawn
 have eo:os=s.os:=m.os
 subst eg
 subst ed
 subst eo
 refine wpAny_pure ?_
 show Q acc.toList _
 rw[ev]
 refine k vs ns h2 d2 tk i2 p2 (Heap.lt_size g2) fun b o g=>?_
 have hb:b<s.heap.objs.size:=Heap.lt_size g
 refine m.heap b o (fun z=>?_) (oth b o (neN (.inl hb)) (kp b o (kp1 b o g)))
 have z':b=s.heap.objs.size∨b=I:=by simpa using z
 rcases z' with z|z
 ·exact absurd hb (by rw[z];exact Nat.lt_irrefl _)
 ·exact absurd (Nat.lt_of_lt_of_le hb (Nat.le_of_succ_le lI')) (by rw[z];exact Nat.lt_irrefl _)
end
theorem yg6 (f:Nat→Int) (k:Int):∀ n,k∈ya4 f n↔∃ i,i<n∧f i=k
 | 0=>by
  unfold ya4
  constructor
  ·intro h;simp at h
  ·rintro ⟨i,h,_⟩;omega
 | n+1=>by
  have ih:=yg6 f k n
  have e:k∈ya4 f (n+1)↔k∈ya4 f n∨k=f n:=by
   show k∈(if f n∈ya4 f n then ya4 f n else ya4 f n++[f n])↔_
   split
   ·rename_i h
    exact ⟨.inl,fun z=>z.elim id fun z=>z ▸ h⟩
   ·rw[List.mem_append,List.mem_singleton]
  rw[e,ih]
  constructor
  ·rintro (⟨i,h,z⟩|z)
   ·exact ⟨i,by omega,z⟩
   ·exact ⟨n,by omega,z.symm⟩
  ·rintro ⟨i,h,z⟩
   by_cases hi:i=n
   ·subst hi;exact .inr z.symm
   ·exact .inl ⟨i,by omega,z⟩
theorem yfa (f:Nat→Int):∀ n,(ya4 f n).Nodup
 | 0=>List.nodup_nil
 | n+1=>by
  have ih:=yfa f n
  show (if f n∈ya4 f n then ya4 f n else ya4 f n++[f n]).Nodup
  split
  ·exact ih
  ·rename_i h
   rw[List.nodup_append]
   exact ⟨ih,by simp,fun x hx y hy z=>h (by rw[← List.mem_singleton.mp hy,← z];exact hx)⟩
noncomputable def uniq (ns:List Int):List Int:=ya4 (fun i=>ns.getD i 0) ns.length
theorem qfp (ns:List Int) (k:Int):k∈uniq ns↔k∈ns:=by
 unfold uniq
 rw[yg6]
 constructor
 ·rintro ⟨i,h,z⟩
  rw[List.getD_eq_getElem?_getD,List.getElem?_eq_getElem h] at z
  rw[← z]
  exact List.getElem_mem h
 ·intro h
  obtain ⟨i,hi,e⟩:=List.getElem_of_mem h
  exact ⟨i,hi,by rw[List.getD_eq_getElem?_getD,List.getElem?_eq_getElem hi,e];rfl⟩
theorem qko (ns:List Int):(uniq ns).Nodup:=yfa _ _
theorem qjh (ns:List Int):(uniq ns).length≤ns.length:=ye5 _ _
noncomputable def SetO (P:Program) (w:World) (a:Addr) (ks:List Int):HO:=.ext fun h=>SetL P w h a ks
section
variable {P:Program}{w:World}{A:Around}{E:Value→Shared→Prop}{s:Shared}{a:Addr}{ks:List Int}
theorem sortedL {Q:Value→Shared→Prop} (hh:A.handled=none) (hS:SetL P w s.heap a ks) (h64:ks.length<64)
  (k:∀ l h' d tk vs ns e,s.heap.objs.size≤l→h'.get? l=some (seqObj "list" (List.toArray vs) e)→IntsAre vs ns→ns.Perm ks→ns.Pairwise (·≤·)→(∀ b o,s.heap.get? b=some o→h'.get? b=some o)→Q (.ref l) { s with heap:=h',drawn:=d,toks:=tk }) :
  wpAny (model P w) A (call (.builtin "sorted") [.ref a]) Q E s:=by
 refine Calls.call_function_entry kind_sorted plain_sorted entry_sorted (args_sorted1 (.ref a)) ?_
 unfold Builtin.«sorted»
 refine wpAny_bind (m:=checkCount "sorted" 1 1 _) ?_
 refine wpAny_pure ?_
 refine wpAny_bind (collectL (by simpa using hh) hS (by omega) fun vs ns h1 d tk i1 p1 hz kp=>?_)
 have hvl:vs.length=ks.length:=by
  have h1:=IntsAre.length i1
  rw[h1,p1.length_eq]
 refine wpAny_bind (wpAny_newList ?_ (qke (by omega)))
 have gL:(h1.push (seqObj "list" vs.toArray 0)).get? h1.objs.size=some (seqObj "list" vs.toArray 0):=Heap.get?_push_size _ rfl
 refine wpAny_bind (wpAny_holding (wpAny_call_entry slot_list_sort ⟨_,gL,rfl⟩ entry_list_sort (list_sort_tree gL i1 (by omega) fun out n2 a1 a2 a3=>⟨_,rfl,?_⟩) (args_list_sort _)))
 obtain ⟨ep,ge⟩:=sortedHeap_at (out:=out) gL
 refine wpAny_pure ⟨_,rfl,k _ _ d tk out.toList n2 ep (Nat.le_of_lt hz) (by simpa using ge) a1 (a2.trans p1) a3 fun b o g=>?_⟩
 have hb:b<h1.objs.size:=Heap.lt_size (kp b o g)
 rw[sortedHeap_old (Nat.ne_of_lt hb) (by rw[show (h1.push (seqObj "list" vs.toArray 0)).objs.size=h1.objs.size+1 from Heap.size_push ..];exact Nat.lt_succ_of_lt hb)]
 exact Heap.get?_push_of_some _ (kp b o g)
end
section
variable {X:Cx}{pins:List (Addr×Obj)}{σ:St}{H:Hp}{s:Shared}
theorem Inv.draw (I:Inv X pins σ H s) (d:Drawn):Inv X pins σ H { s with drawn:=d }:=⟨I.ok,I.os,I.bare,I.base,I.loc,I.cell,I.free,I.freeC,I.pin,I.hok,I.len⟩
noncomputable def rSet (P:Program) (w:World):List V→Hp→VK→Prop:=fun xs H Q=>∃ (l:Addr) (ns:List Int),xs=[.ref l]∧H l=some (.lst (ns.map V.int))∧ns.length≤4000∧∀ p,H p=none→Q (.ref p) (upd H p (SetO P w p (uniq ns)))
theorem ycz (hc:X.calm=true):yc1 X (.type "set") (rSet X.prog X.w):=by
 intro pins s σ H xs us Q I r h
 obtain ⟨l,ns,rfl,hH,h4,q⟩:=h
 cases r with
 | cons r rr=>
  cases rr
  cases r
  obtain ⟨z,its,n,rv,hl,e⟩:=I.lstM hH
  have hil:its.length=ns.length:=by rw[← hl,List.length_map]
  have hf:H s.heap.objs.size=none:=I.hok.fresh (Nat.le_refl _)
  refine ykx (by simpa using I.ok.hd hc) (its:=its.toArray) (ns:=ns) ⟨_,e,rfl,n,rfl⟩ (by simpa using qe8 rv) (by rw[List.size_toArray,hil];unfold scanBound;omega) fun h' tk S kp=>?_
  have ez:its.toArray.size=ns.length:=by rw[List.size_toArray,hil]
  rw[ez] at S
  refine ⟨.ref s.heap.objs.size,_,I.laid (o:=SetO X.prog X.w s.heap.objs.size (uniq ns)) (t':=tk) (fun b o g=>kp b o (Heap.lt_size g) g) (Nat.le_refl _) ?_,rfl,q _ hf⟩
  refine ⟨S,?_,fun h1 h2 x y=>SetL.at x y⟩
  obtain ⟨o,es,ep,t,g,_⟩:=S
  exact ⟨o,g⟩
noncomputable def rLenSet (P:Program) (w:World):List V→Hp→VK→Prop:=fun xs H Q=>∃ (p:Addr) (ks:List Int),xs=[.ref p]∧H p=some (SetO P w p ks)∧Q (.int ks.length) H
theorem qdb:yc1 X (.builtin "len") (rLenSet X.prog X.w):=by
 intro pins s σ H xs us Q I r h
 obtain ⟨p,ks,rfl,hH,q⟩:=h
 cases r with
 | cons r rr=>
  cases rr
  cases r
  obtain ⟨⟨o,es,ep,t,g,gx,gd,el,⟨ns,hi,hp⟩,hb,hf,ht,hl⟩,_⟩:=I.hok p _ hH
  have hlen:es.size=ks.length:=by
   have h1:=IntsAre.length hi
   rw[List.length_map,Array.length_toList] at h1
   rw[h1,hp.length_eq]
  refine call_len_set g gx gd hf (by unfold scanBound at hb;omega) ?_
  rw[hlen]
  exact ⟨.int ks.length,H,I.tok _,⟨_,rfl⟩,q⟩
noncomputable def rSortSet (P:Program) (w:World):List V→Hp→VK→Prop:=fun xs H Q=>∃ (p:Addr) (ks:List Int),xs=[.ref p]∧H p=some (SetO P w p ks)∧ks.length<64∧∀ (l:Addr) (ns:List Int),H l=none→ns.Perm ks→ns.Pairwise (·≤·)→Q (.ref l) (upd H l (.lst (ns.map V.int)))
theorem qff (hc:X.calm=true):yc1 X (.builtin "sorted") (rSortSet X.prog X.w):=by
 intro pins s σ H xs us Q I r h
 obtain ⟨p,ks,rfl,hH,h64,q⟩:=h
 cases r with
 | cons r rr=>
  cases rr
  cases r
  obtain ⟨S,_⟩:=I.hok p _ hH
  refine sortedL (by simpa using I.ok.hd hc) S h64 fun l h' d tk vs ns e hz gl i1 p1 w1 kp=>?_
  have hf:H l=none:=I.hok.fresh hz
  refine ⟨.ref l,_,(I.draw d).laid (o:=.lst (ns.map V.int)) (t':=tk) (fun b o g=>kp b o g) hz ?_,rfl,q l ns hf p1 w1⟩
  exact ⟨qke (by rw[List.length_map,p1.length_eq];omega),vs,e,qh0 i1,gl⟩
end
theorem ycv:bootBuiltins "set" = some (.type "set"):=by decide +kernel
theorem yej {K:PySem.W.Frag}{t1 t2:Bool}{l1 l2:Addr}{xs ys:List V}{g:TG}{tt:TT}{te:TE}{ix:List (Option Nat)}{σ:St}{H:Hp}{QD:Hp→Prop}{D:Addr} (hlen:xs.length=ys.length) (Pv:Nat→Hp→Prop) (h0:Pv 0 (upd H D (.lst [])))
  (hl:∀ i H',Pv i H'→Sq K t1 H' l1 xs∧Sq K t2 H' l2 ys) (stop:∀ H',Pv xs.length H'→QD H')
  (step:∀ i x y p H',xs[i]?=some x→ys[i]?=some y→Pv i H'→H' p=none→g (.ref p) (capS ix σ) (upd H' p (.tup [x,y])) fun σ2 H3=>ya6 (capS ix σ) σ2∧tt σ2 H3 fun b H4=>
   if b=true then te σ2 H4 fun v H5=>∃ zs,H5 D=some (.lst zs)∧zs.length<sizeLine∧Pv (i+1) (upd H5 D (.lst (zs++[v]))) else Pv (i+1) H4) :
  ∃ W:Nat→Nat→Hp→Prop,(∃ m,W 0 m (upd H D (.lst [])))∧∀ i m H,W i m H→
   ((Itz K t1 t2 l1 l2).stop i H∧QD H)∨((Itz K t1 t2 l1 l2).go i H∧∃ N:Hp→Prop,(∀ H',N H'→∃ m',m' < m∧W (i+1) m' H')∧∀ x H',(Itz K t1 t2 l1 l2).yld i H x H'→g x (capS ix σ) H' fun σ2 H2=>ya6 (capS ix σ) σ2∧tt σ2 H2 fun b H3=>
    if b=true then te σ2 H3 fun v H4=>∃ zs,H4 D=some (.lst zs)∧zs.length<sizeLine∧N (upd H4 D (.lst (zs++[v]))) else N H3):=by
 refine qda (n:=xs.length) Pv h0 (fun H' p=>⟨?_,stop H' p⟩) fun i H' hi p=>⟨?_,?_⟩
 ·obtain ⟨q1,q2⟩:=hl _ H' p
  exact ⟨xs,ys,q1,q2,.inl (by simp)⟩
 ·obtain ⟨q1,q2⟩:=hl _ H' p
  exact ⟨xs,ys,_,_,q1,q2,List.getElem?_eq_getElem hi,List.getElem?_eq_getElem (by omega)⟩
 ·rintro x H2 ⟨pp,u,v,hp,rfl,rfl,hu⟩
  obtain ⟨q1,q2⟩:=hl _ H' p
  obtain ⟨h1,h2⟩:=hu xs ys q1 q2
  exact step i u v pp H' h1 h2 p hp
section
variable {X:Cx}
noncomputable def rMinL:List V→Hp→VK→Prop:=fun xs H Q=>∃ (l:Addr) (ns:List Int),xs=[.ref l]∧H l=some (.lst (ns.map V.int))∧0<ns.length∧∀ M,M∈ns→(∀ a∈ns,M≤a)→Q (.int M) H
noncomputable def rMaxL:List V→Hp→VK→Prop:=fun xs H Q=>∃ (l:Addr) (ns:List Int),xs=[.ref l]∧H l=some (.lst (ns.map V.int))∧0<ns.length∧∀ M,M∈ns→(∀ a∈ns,a≤M)→Q (.int M) H
theorem ykw (hc:X.calm=true):yc1 X (.builtin "min") rMinL:=by
 intro pins s σ H xs us Q I r h
 obtain ⟨l,ns,rfl,hH,hne,q⟩:=h
 cases r with
 | cons r rr=>
  cases rr
  cases r
  obtain ⟨z,its,n,rv,hl,e⟩:=I.lstM hH
  have hi:IntsAre its ns:=qe8 rv
  obtain ⟨ys,e2⟩:=hi.allInts.items
  have hns:ns=ys.toList.map (·.1):=by rw[← hi.numsOf,← nums_intItems,← e2]
  have hsz:0<ys.size:=by
   have h3:=hne;rw[hns,List.length_map,Array.length_toList] at h3;exact h3
  have hl':s.heap.IsList l its.toArray:=⟨_,e,rfl,n,rfl⟩
  rw[e2] at hl'
  refine min_intList (I.ok.hd hc) hl' hsz fun v h' tk hv hk=>?_
  obtain ⟨t,rfl⟩:=intItems_at hv
  obtain ⟨h1,h2⟩:=argBest_lt (numAt ys) (ys.size-1)
  refine ⟨.int _,H,I.kept hk,⟨_,rfl⟩,q _ ?_ fun a ha=>?_⟩
  ·rw[hns,numAt_eq];exact getD_mem (by rw[List.length_map,Array.length_toList];omega)
  ·rw[hns] at ha
   obtain ⟨j,hj,rfl⟩:=mem_getD ha
   rw[List.length_map,Array.length_toList] at hj
   rw[← numAt_eq];exact h2 j (by omega)
theorem yk2 (hc:X.calm=true):yc1 X (.builtin "max") rMaxL:=by
 intro pins s σ H xs us Q I r h
 obtain ⟨l,ns,rfl,hH,hne,q⟩:=h
 cases r with
 | cons r rr=>
  cases rr
  cases r
  obtain ⟨z,its,n,rv,hl,e⟩:=I.lstM hH
  have hi:IntsAre its ns:=qe8 rv
  obtain ⟨ys,e2⟩:=hi.allInts.items
  have hns:ns=ys.toList.map (·.1):=by rw[← hi.numsOf,← nums_intItems,← e2]
  have hsz:0<ys.size:=by
   have h3:=hne;rw[hns,List.length_map,Array.length_toList] at h3;exact h3
  have hl':s.heap.IsList l its.toArray:=⟨_,e,rfl,n,rfl⟩
  rw[e2] at hl'
  refine max_intList (I.ok.hd hc) hl' hsz fun v h' tk hv hk=>?_
  obtain ⟨t,rfl⟩:=intItems_at hv
  obtain ⟨h1,h2⟩:=argBest_gt (numAt ys) (ys.size-1)
  refine ⟨.int _,H,I.kept hk,⟨_,rfl⟩,q _ ?_ fun a ha=>?_⟩
  ·rw[hns,numAt_eq];exact getD_mem (by rw[List.length_map,Array.length_toList];omega)
  ·rw[hns] at ha
   obtain ⟨j,hj,rfl⟩:=mem_getD ha
   rw[List.length_map,Array.length_toList] at hj
   rw[← numAt_eq];exact h2 j (by omega)
end
noncomputable def dOf:V→PyData
 | .non=>.none
 | .bl b=>.bool b
 | .int i=>.int i
 | .str s=>.str s
 | _=>.none
theorem flat_at {H:Hp}:∀ {v:V},qdm v=true→At H v (dOf v)
 | .non,_=>.non
 | .bl b,_=>.bl b
 | .int i,_=>.int i
 | .str s,_=>.str s
theorem yhm {H:Hp}:∀ {vs:List V},vs.all qdm=true→AtAll H vs (vs.map dOf)
 | [],_=>.nil
 | v::vs,h=>by
  rw[List.all_cons,Bool.and_eq_true] at h
  exact .cons (flat_at h.1) (yhm h.2)
theorem ygc:∀ {vs:List V},vs.all qdm=true→PyData.depthAll (vs.map dOf)≤1
 | [],_=>by simp[PyData.depthAll]
 | v::vs,h=>by
  rw[List.all_cons,Bool.and_eq_true] at h
  have ih:=ygc h.2
  have h1:(dOf v).depth≤1:=by
   cases v<;>first|simp[dOf,PyData.depth]|(simp[qdm] at h)
  simp only[List.map_cons,PyData.depthAll]
  omega
noncomputable def Fl (xs:List V):Prop:=xs.all qdm=true∧PyData.canLayAll0 (xs.map dOf)=true
noncomputable def tEq (H:Hp) (xs:List V):V→Bool
 | .ref a=>match H a with|some (.tup ys)=>PyData.eqvAll (ys.map dOf) (xs.map dOf)|_=>false
 | _=>false
noncomputable def tEqU (H:Hp) (xs:List V):Value→Bool
 | .ref a=>match H a with|some (.tup ys)=>PyData.eqvAll (ys.map dOf) (xs.map dOf)|_=>false
 | _=>false
theorem yk9 {H:Hp}{xs:List V}:∀ {us:List V}{vs:List Value},Vals us vs→(∀ v∈us,∃ a,v=.ref a)→vs.any (tEqU H xs)=us.any (tEq H xs)
 | _,_,.nil,_=>rfl
 | u::us,_,.cons r t,h=>by
  obtain ⟨a,rfl⟩:=h u (by simp)
  cases r
  rw[List.any_cons,List.any_cons,yk9 t (fun v hv=>h v (by simp[hv]))]
  rfl
section
variable {X:Cx}
noncomputable def rInT:R2:=fun x y H Q=>∃ q xs p us,x=.ref q∧H q=some (.tup xs)∧Fl xs∧y=.ref p∧H p=some (.lst us)∧(∀ v∈us,∃ a ys,v=.ref a∧H a=some (.tup ys)∧Fl ys)∧Q (.bl (us.any (tEq H xs))) H
theorem op_inT {k:Nat} (hr:Room k X.A):OpR X (compareOp .In) rInT:=by
 intro pins s σ H x y v u Q I rx ry h
 obtain ⟨q,xs,p,us,rfl,hq,fx,rfl,hp,hus,k⟩:=h
 cases rx
 cases ry
 obtain ⟨its,r,pl,hz⟩:=I.list (SqL.of hp)
 have hu:=hr.units
 obtain ⟨as,rx⟩:=(At.tup hq (yhm fx.1)).reads I.hok (u:=.ref q) rfl
 refine SeqAt.in_listAt (tEqU H xs) pl.isList (fun w hw=>?_) ⟨.bl _,H,I,rfl,?_⟩
 ·obtain ⟨v,hv,rv⟩:=r.back w (by simpa using hw)
  obtain ⟨a,ys,rfl,ha,fy⟩:=hus v hv
  cases rv
  obtain ⟨bs,ry⟩:=(At.tup ha (yhm fy.1)).reads I.hok (u:=.ref a) rfl
  have e:tEqU H xs (.ref a)=PyData.eqv (.tuple (ys.map dOf)) (.tuple (xs.map dOf)):=by
   unfold tEqU
   dsimp only
   rw[ha]
   simp[PyData.eqv]
  rw[e]
  refine PySem.SeqAt.eqAt_reads _ _ _ _ _ _ _ _ ry rx fy.2 fx.2 ?_
  have h1:=ygc fy.1
  have h2:=Nat.min_le_left (PyData.tuple (ys.map dOf)).depth (PyData.tuple (xs.map dOf)).depth
  have h3:(PyData.tuple (ys.map dOf)).depth≤2:=by
   simp only[PyData.depth]
   omega
  show X.A.units+1+_<_
  omega
 ·rw[show its.toArray.any (tEqU H xs)=its.any (tEqU H xs) by simp,yk9 r (fun v hv=>by obtain ⟨a,_,e,_⟩:=hus v hv;exact ⟨a,e⟩)]
  exact k
end
end L2
namespace Mh
open PySem L2 PyProof.Rows
noncomputable def top (i:Nat):Stmt:=PySem.Challenge.pw_marchmend_k19_no_runs.main.body.getD i (.Pass ⟨0,0,0,0⟩)
noncomputable def b2i (b:Bool):Int:=if b then 1 else 0
theorem iteB {b:Bool}{A B:Prop} (hb:b=true) (h:A):if b=true then A else B:=by
 rw[if_pos hb];exact h
theorem iteN {b:Bool}{A B:Prop} (hb:b=false) (h:B):if b=true then A else B:=by
 rw[if_neg (by rw[hb];exact Bool.false_ne_true)];exact h
theorem iteD {c:Prop} [Decidable c] {A B:Prop} (hc:c) (h:A):if decide c=true then A else B:=iteB (decide_eq_true hc) h
theorem qby {α β:Type}{f:α→β}{l:List α}{i:Nat}{d:β} (h:(l.map f)[i]?=some d):∃ x,l[i]?=some x∧d=f x:=by
 rw[List.getElem?_map] at h
 cases e:l[i]? with
 | none=>rw[e] at h;cases h
 | some x=>rw[e] at h;exact ⟨x,rfl,(Option.some.inj h).symm⟩
structure Hm where
 w:Str
 c:List Int
 r:List V
noncomputable def tabP:List (Str×List V):=[("stuck",[.str "cell",.str "bit"]),("slow",[.str "cell",.str "bit"]),("forgets",[.str "cell",.str "bit"]),("misreads",[.str "cell",.str "bit"]),("turns",[.str "cell",.str "cell",.str "bit"]),("sets",[.str "cell",.str "cell",.str "bit",.str "bit"]),
 ("keeps",[.str "cell",.str "cell",.str "bit",.str "bit"]),("nowhere",[.str "cell",.str "bit"]),("other",[.str "cell",.str "cell"]),("both",[.str "cell",.str "cell",.str "how"])]
noncomputable def bitV (v:V):Prop:=∃ b,v=.int (b2i b)
noncomputable def howV (v:V):Prop:=v=.str "and"∨v=.str "or"
inductive Rest:List Str→List V→Prop
 | nil:Rest [] []
 | bit {v:V}{ns:List Str}{vs:List V}:bitV v→Rest ns vs→Rest ("bit" :: ns) (v::vs)
 | how {v:V}{ns:List Str}{vs:List V}:howV v→Rest ns vs→Rest ("how" :: ns) (v::vs)
noncomputable def qaw (n:Nat) (ns:List Str):List V:=List.replicate n (V.str "cell")++ns.map V.str
noncomputable def hV (h:Hm):List V:=.str h.w::(h.c.map V.int++h.r)
structure okH (h:Hm) (ns:List Str):Prop where
 tab:KTD.datumAt h.w tabP=some (qaw h.c.length ns)
 rest:Rest ns h.r
 cl:1≤h.c.length∧h.c.length≤2
 rl:ns.length≤2
 nd:h.c.Nodup
 rg:∀ x∈h.c,0≤x∧x<64
theorem Rest.len {ns:List Str}{vs:List V} (h:Rest ns vs):vs.length=ns.length:=by
 induction h with
 | nil=>rfl
 | bit _ _ ih=>simp[ih]
 | how _ _ ih=>simp[ih]
theorem okH.len {h:Hm}{ns:List Str} (o:okH h ns):(h.c.map V.int++h.r).length=(qaw h.c.length ns).length:=by
 unfold qaw
 simp[o.rest.len]
section
variable {P:Program}{w:World}{K:PySem.W.Frag}{mg:Str→Option Value}{base:Heap}
noncomputable def qcf:Sp:=fun vs H Q _=>∃ i,vs=[.int i]∧Q (.bl true) H
noncomputable abbrev ycw:Stmt:=top 20
theorem ydc:FnScope ["thing"] ["thing"] (yac ycw):=⟨rfl,rfl,rfl,by decide +kernel,rfl,by decide +kernel,by decide +kernel⟩
theorem qjd (B:Bl mg) (F:FnAt K mg "is_whole" ycw ["thing"]):Has P w K mg base 1 "is_whole" ["thing"] qcf:=by
 refine Has.of F ydc (fun vs H Q E h=>?_) (fun f cdv A outer s H vs Q E hr h=>?_)
 ·obtain ⟨i,rfl,_⟩:=h
  rfl
 ·obtain ⟨i,rfl,k⟩:=h
  have sc:=ydc
  refine ⟨_,(yaf (qat (qax (qae qa3 rfl (B.of rfl) boot_isinstance (qaa (pv 0) (qaa (qbb (v:=.ty "int") rfl (B.of rfl) boot_int rfl) yab))) (qbn (pe_not (qae qa3 rfl (B.of rfl) boot_isinstance (qaa (pv 0) (qaa (qbb (v:=.ty "bool") rfl (B.of rfl) boot_bool rfl) yab)))))))),?_⟩
  refine ⟨_,rfl,_,_,_,_,rfl,.int i,rfl,_,rfl,iteT ?_⟩
  refine ⟨_,rfl,_,_,_,_,rfl,.int i,rfl,_,rfl,?_⟩
  exact k
noncomputable def qev:Sp:=fun vs H Q _=>∃ b,vs=[.int (b2i b)]∧∀ H',Same H H'→Q (.bl true) H'
noncomputable abbrev qer:Stmt:=top 21
theorem qen:FnScope ["thing"] ["thing"] (yac qer):=⟨rfl,rfl,rfl,by decide +kernel,rfl,by decide +kernel,by decide +kernel⟩
theorem qmd (ya0:Has P w K mg base 1 "is_whole" ["thing"] qcf) (F:FnAt K mg "is_bit" qer ["thing"]):Has P w K mg base 2 "is_bit" ["thing"] qev:=by
 refine Has.of F qen (fun vs H Q E h=>?_) (fun f cdv A outer s H vs Q E hr h=>?_)
 ·obtain ⟨i,rfl,_⟩:=h
  rfl
 ·obtain ⟨b,rfl,k⟩:=h
  have sc:=qen
  refine ⟨_,(yaf (qat (qax (qah ya0 hr (qaa (pv 0) yab)) (qbn (qau qbr (pv 0) (qce (qaa qac (qaa qac yab))) (by with_unfolding_all rfl)))))),?_⟩
  refine ⟨_,rfl,_,rfl,_,rfl,iteT ?_⟩
  refine ⟨_,rfl,(by show 2≤sizeLine;decide),fun p hp=>⟨p,_,rfl,.inr (SqT.of yaa),rfl,rfl,?_⟩⟩
  cases b<;>exact k _ (Same.upd (Same.refl _) hp)
noncomputable def qfd (K:PySem.W.Frag):Sp:=fun vs H Q _=>∃ x a xs,vs=[.str x,.ref a]∧(∀ H',SqT K H' a xs)∧xs.all qdm=true∧Q (.bl (inV (.str x) xs)) H
noncomputable abbrev ycj:Stmt:=top 22
theorem qcl:FnScope ["thing","words"] ["thing","words"] (yac ycj):=⟨rfl,rfl,rfl,by decide +kernel,rfl,by decide +kernel,by decide +kernel⟩
theorem yh7 (B:Bl mg) (F:FnAt K mg "is_one_of" ycj ["thing","words"]):Has P w K mg base 1 "is_one_of" ["thing","words"] (qfd K):=by
 refine Has.of F qcl (fun vs H Q E h=>?_) (fun f cdv A outer s H vs Q E hr h=>?_)
 ·obtain ⟨x,a,xs,rfl,_⟩:=h
  rfl
 ·obtain ⟨x,a,xs,rfl,hq,hf,k⟩:=h
  have sc:=qcl
  refine ⟨_,(yaf (qat (qax (qae qa3 rfl (B.of rfl) boot_isinstance (qaa (pv 0) (qaa (qbb (v:=.ty "str") rfl (B.of rfl) boot_str rfl) yab))) (qbn (qau qbr (pv 0) (pv 1) (by with_unfolding_all rfl)))))),?_⟩
  refine ⟨_,rfl,_,_,_,_,rfl,.str x,rfl,_,rfl,iteT ?_⟩
  exact ⟨_,rfl,_,rfl,a,xs,rfl,.inr (hq _),rfl,hf,k⟩
noncomputable def qg9:Sp:=fun vs H Q _=>∃ x,vs=[.int x]∧0≤x∧x<64∧Q (.bl true) H
noncomputable abbrev ydq:Stmt:=top 35
theorem qdy:FnScope ["thing"] ["thing"] (yac ydq):=⟨rfl,rfl,rfl,by decide +kernel,rfl,by decide +kernel,by decide +kernel⟩
theorem qj5 (ybh:∃ t,mg "MOST_CELLS" = some (.int 64 t)) (ya0:Has P w K mg base 1 "is_whole" ["thing"] qcf) (F:FnAt K mg "is_cell" ydq ["thing"]):Has P w K mg base 2 "is_cell" ["thing"] qg9:=by
 refine Has.of F qdy (fun vs H Q E h=>?_) (fun f cdv A outer s H vs Q E hr h=>?_)
 ·obtain ⟨x,rfl,_⟩:=h
  rfl
 ·obtain ⟨x,rfl,h0,h1,k⟩:=h
  have sc:=qdy
  refine ⟨_,(yaf (qat (qax (qah ya0 hr (qaa (pv 0) yab)) (qax (qau qig (pv 0) qac (qaj _)) (qbn (qau op_lt (pv 0) (qct ybh) (qaj _))))))),?_⟩
  refine ⟨_,rfl,x,rfl,_,rfl,iteT ?_⟩
  refine ⟨_,rfl,_,_,rfl,rfl,_,rfl,iteD (by omega) ?_⟩
  refine ⟨_,rfl,_,_,rfl,rfl,?_⟩
  show Q (.bl (decide (x<64))) H
  rw[decide_eq_true h1]
  exact k
noncomputable def PartOk (nm:Str) (v:V):Prop:=(nm="cell"∧∃ x,v=.int x∧0≤x∧x<64)∨(nm="bit"∧bitV v)∨(nm="how"∧howV v)
noncomputable def yg7:Sp:=fun vs H Q _=>∃ nm v,vs=[.str nm,v]∧PartOk nm v∧∀ H',Same H H'→Q (.bl true) H'
noncomputable abbrev qdu:Stmt:=top 36
theorem qdz:FnScope ["name","thing"] ["name","thing"] (yac qdu):=⟨rfl,rfl,rfl,by decide +kernel,rfl,by decide +kernel,by decide +kernel⟩
theorem ykb (ye2:GTup K mg "JOININGS" [.str "and",.str "or"]) (yf8:Has P w K mg base 2 "is_cell" ["thing"] qg9) (qbx:Has P w K mg base 2 "is_bit" ["thing"] qev) (qba:Has P w K mg base 1 "is_one_of" ["thing","words"] (qfd K)) (F:FnAt K mg "is_part" qdu ["name","thing"]):Has P w K mg base 3 "is_part" ["name","thing"] yg7:=by
 refine Has.of F qdz (fun vs H Q E h=>?_) (fun f cdv A outer s H vs Q E hr h=>?_)
 ·obtain ⟨nm,v,rfl,_⟩:=h
  rfl
 ·obtain ⟨nm,v,rfl,hp,k⟩:=h
  have sc:=qdz
  refine ⟨_,(yah (qbu (qao qa6 (pv 0) yaj (qaj _))
    (yaf (qat (qah yf8 hr (qaa (pv 1) yab))))
    yav)
   (yah (qbu (qao qa6 (pv 0) yaj (qaj _))
    (yaf (qat (qah qbx hr (qaa (pv 1) yab))))
    yav)
   (yaf (qat (qah qba hr (qaa (pv 1) (qaa (yf4 ye2) yab))))))),?_⟩
  rcases hp with ⟨rfl,x,rfl,h0,h1⟩|⟨rfl,b,rfl⟩|⟨rfl,hv⟩
  ·refine ⟨_,rfl,rfl,_,rfl,iteB (by decide +kernel) ?_⟩
   exact ⟨_,rfl,x,rfl,h0,h1,k H (Same.refl H)⟩
  ·refine ⟨_,rfl,rfl,_,rfl,iteN (by decide +kernel) ?_⟩
   refine ⟨_,rfl,rfl,_,rfl,iteB (by decide +kernel) ?_⟩
   exact ⟨_,rfl,b,rfl,k⟩
  ·refine ⟨_,rfl,rfl,_,rfl,iteN (by decide +kernel) ?_⟩
   refine ⟨_,rfl,rfl,_,rfl,iteN (by decide +kernel) ?_⟩
   rcases hv with rfl|rfl
   ·refine ⟨_,rfl,fun a ha=>⟨_,a,_,rfl,ha,by decide,?_⟩⟩
    exact k H (Same.refl H)
   ·refine ⟨_,rfl,fun a ha=>⟨_,a,_,rfl,ha,by decide,?_⟩⟩
    exact k H (Same.refl H)
noncomputable def HAt (H:Hp) (v:V) (h:Hm):Prop:=∃ a,v=.ref a∧H a=some (.tup (hV h))
noncomputable def yfz:Sp:=fun vs H Q _=>∃ v h ns,vs=[v]∧HAt H v h∧okH h ns∧Q (.bl true) H
noncomputable abbrev qcz:Stmt:=top 37
theorem yc4:FnScope ["thing"] ["thing"] (yac qcz):=⟨rfl,rfl,rfl,by decide +kernel,rfl,by decide +kernel,by decide +kernel⟩
theorem qi9 (B:Bl mg) {aP:Addr} (gP:mg "PARTS" = some (.ref aP)) (TP:TabK K aP tabP) (F:FnAt K mg "has_word" qcz ["thing"]):Has P w K mg base 1 "has_word" ["thing"] yfz:=by
 refine Has.of F yc4 (fun vs H Q E h=>?_) (fun f cdv A outer s H vs Q E hr h=>?_)
 ·obtain ⟨v,h,ns,rfl,_⟩:=h
  rfl
 ·obtain ⟨v,h,ns,rfl,⟨a,rfl,ha⟩,ok,k⟩:=h
  have sc:=yc4
  refine ⟨_,(yaf (qat (qax (qae qa3 rfl (B.of rfl) boot_isinstance (qaa (pv 0) (qaa (qbb (v:=.ty "tuple") rfl (B.of rfl) boot_tuple rfl) yab))) (qax (qau qfk (qae yag rfl (B.of rfl) boot_len (qaa (pv 0) yab)) qac (qaj _)) (qax (qae qa3 rfl (B.of rfl) boot_isinstance (qaa (yan yap (pv 0) qac (fun _ _=>rfl)) (qaa (qbb (v:=.ty "str") rfl (B.of rfl) boot_str rfl) yab))) (qbn (qau (yjr (D:=tabP)) (yan yap (pv 0) qac (fun _ _=>rfl)) (ya1 (v:=.ref aP) rfl gP rfl) (by with_unfolding_all rfl)))))))),?_⟩
  refine ⟨_,rfl,_,_,_,_,rfl,.tup ha,rfl,_,rfl,iteT ?_⟩
  refine ⟨_,rfl,a,_,rfl,.inr (SqT.of ha),_,_,rfl,rfl,_,rfl,iteD (by unfold hV;simp;omega) ?_⟩
  refine ⟨_,rfl,a,_,_,_,rfl,rfl,SqT.of ha,yad 0 rfl,_,_,_,_,rfl,.str _,rfl,_,rfl,iteT ?_⟩
  refine ⟨_,rfl,a,_,_,_,rfl,rfl,SqT.of ha,yad 0 rfl,aP,h.w,rfl,rfl,TP,?_⟩
  have e:KTD.inKeys h.w tabP=true:=by rw[← KTD.isSome_datumAt,ok.tab];rfl
  rw[e]
  exact k
end
section
variable {P:Program}{w:World}{K:PySem.W.Frag}{mg:Str→Option Value}{base:Heap}
theorem Rest.get {ns:List Str}{vs:List V} (h:Rest ns vs):∀ {i:Nat}{n:Str}{v:V},ns[i]?=some n→vs[i]?=some v→(n="bit"∧bitV v)∨(n="how"∧howV v):=by
 induction h with
 | nil=>intro i n v h;simp at h
 | bit hb _ ih=>
  intro i n v h1 h2
  cases i with
  | zero=>simp at h1 h2;subst h1 h2;exact .inl ⟨rfl,hb⟩
  | succ i=>simp at h1 h2;exact ih h1 h2
 | how hb _ ih=>
  intro i n v h1 h2
  cases i with
  | zero=>simp at h1 h2;subst h1 h2;exact .inr ⟨rfl,hb⟩
  | succ i=>simp at h1 h2;exact ih h1 h2
theorem okH.cellAt {h:Hm}{ns:List Str} (o:okH h ns) {i:Nat}{x y:V} (hx:(qaw h.c.length ns)[i]?=some x) (hy:(h.c.map V.int++h.r)[i]?=some y) :
  (x=.str "cell"∧∃ c,h.c[i]?=some c∧y=.int c)∨(h.c.length≤i∧((x=.str "bit"∧bitV y)∨(x=.str "how"∧howV y))):=by
 unfold qaw at hx
 by_cases hi:i<h.c.length
 ·rw[List.getElem?_append_left (by simpa using hi),List.getElem?_replicate,if_pos hi] at hx
  rw[List.getElem?_append_left (by simpa using hi)] at hy
  obtain ⟨c,hc,rfl⟩:=qby hy
  exact .inl ⟨(Option.some.inj hx).symm,c,hc,rfl⟩
 ·rw[List.getElem?_append_right (by simpa using Nat.le_of_not_lt hi)] at hx
  rw[List.getElem?_append_right (by simpa using Nat.le_of_not_lt hi)] at hy
  simp only[List.length_replicate,List.length_map] at hx hy
  obtain ⟨n,hn,rfl⟩:=qby hx
  rcases o.rest.get hn hy with ⟨rfl,hb⟩|⟨rfl,hb⟩
  ·exact .inr ⟨Nat.le_of_not_lt hi,.inl ⟨rfl,hb⟩⟩
  ·exact .inr ⟨Nat.le_of_not_lt hi,.inr ⟨rfl,hb⟩⟩
theorem okH.partAt {h:Hm}{ns:List Str} (o:okH h ns) {i:Nat}{x y:V} (hx:(qaw h.c.length ns)[i]?=some x) (hy:(h.c.map V.int++h.r)[i]?=some y):∃ nm,x=.str nm∧PartOk nm y:=by
 rcases o.cellAt hx hy with ⟨rfl,c,hc,rfl⟩|⟨_,⟨rfl,hb⟩|⟨rfl,hb⟩⟩
 ·exact ⟨_,rfl,.inl ⟨rfl,c,rfl,o.rg c (List.mem_of_getElem? hc)⟩⟩
 ·exact ⟨_,rfl,.inr (.inl ⟨rfl,hb⟩)⟩
 ·exact ⟨_,rfl,.inr (.inr ⟨rfl,hb⟩)⟩
theorem qht (h:Hm):cutV (hV h) (some 1) none=h.c.map V.int++h.r:=by
 unfold hV
 exact yfq 1
theorem qix (h:Hm):¬ (HT.sIx (hV h).length 0 (some 1)=0∧HT.sIx (hV h).length (hV h).length none=(hV h).length):=by
 rintro ⟨h0,_⟩
 unfold hV HT.sIx at h0
 simp at h0
noncomputable def qfb:Sp:=fun vs H Q _=>∃ v h ns,vs=[v]∧HAt H v h∧okH h ns∧∀ H',Same H H'→Q (.bl true) H'
noncomputable abbrev ycf:Stmt:=top 39
theorem ycp:FnScope ["thing","names"] ["thing"] (yac ycf):=⟨rfl,rfl,rfl,by decide +kernel,rfl,by decide +kernel,by decide +kernel⟩
theorem yh3 (B:Bl mg) (yee:mg "zip" = none) (qd9:mg "all" = none) {aP:Addr} (gP:mg "PARTS" = some (.ref aP)) (TP:TabK K aP tabP) (qf4:Has P w K mg base 3 "is_part" ["name","thing"] yg7) (F:FnAt K mg "has_parts" ycf ["thing"]):Has P w K mg base 4 "has_parts" ["thing"] qfb:=by
 refine Has.of F ycp (fun vs H Q E h=>?_) (fun f cdv A outer s H vs Q E hr h=>?_)
 ·obtain ⟨v,h,ns,rfl,_⟩:=h
  rfl
 ·obtain ⟨v,h,ns,rfl,⟨a,rfl,ha⟩,ok,k⟩:=h
  have sc:=ycp
  refine ⟨_,(yah (qa2 (i:=1) sc.nd rfl (Or.inl rfl) (yan (yjt (D:=tabP)) (ya1 (v:=.ref aP) rfl gP rfl) (yan yap (pv 0) qac (fun _ _=>rfl)) (fun _ _=>rfl)))
   (yaf (qat (qax (qau qa6 (qae yag rfl (B.of rfl) boot_len (qaa (pv 0) yab)) (qa7 yb0 (qae yag rfl (B.of rfl) boot_len (qaa (pv 1) yab)) qac) (qaj _)) (qbn (qae (ydl rfl) rfl qd9 yds (qaa (yce rfl (qa8 rfl) (M:=["name","part"]) (ix:=[none,none]) (qie rfl yee (qaa (pv 1) (qaa (ybs yjl (pv 0) (qbi qac) ych) yab))) (fun _ _ _ _=>(yf5 (K:=K) (n:=2) rfl rfl (qan (qak (i:=0) (show List.Nodup (["name","part"]:List Str) by decide +kernel) rfl (Or.inl rfl)) (qan (qak (i:=1) (show List.Nodup (["name","part"]:List Str) by decide +kernel) rfl (Or.inl rfl)) qbp)))) (fun _ _ _ _=>yda) (fun _ _ _ _=>(qah qf4 hr (qaa (pv 0) (qaa (pv 1) yab))))) yab))))))),?_⟩
  refine ⟨_,rfl,a,_,_,_,rfl,rfl,SqT.of ha,yad 0 rfl,aP,h.w,_,rfl,rfl,TP,ok.tab,fun pn hpn=>?_⟩
  refine ⟨_,rfl,a,_,rfl,.inr (SqT.of ha),_,rfl,pn,_,rfl,.inr (hpn _),_,_,rfl,rfl,rfl,_,rfl,iteD ?_ ?_⟩
  ·have:=ok.len
   congr 1
   unfold hV
   rw[List.length_cons,this]
   rfl
  refine ⟨_,rfl,_,rfl,_,rfl,a,_,rfl,SqT.of ha,qix h,fun q hq=>?_⟩
  rw[qht]
  have s1:Same H (upd H q (.tup (h.c.map V.int++h.r))):=(Same.refl H).upd hq
  have e1:upd H q (.tup (h.c.map V.int++h.r)) q=some (.tup (h.c.map V.int++h.r)):=yaa
  revert s1 e1
  generalize upd H q (.tup (h.c.map V.int++h.r))=H1
  intro s1 e1
  refine ⟨true,true,pn,q,_,_,rfl,hpn _,SqT.of e1,fun D hD=>?_⟩
  refine yej (K:=K) (ok.len.symm) (fun i H'=>Same H1 H'∧H' D=some (.lst ((List.replicate i true).map V.bl))) ⟨(Same.refl H1).upd hD,yaa⟩ ?_ ?_ ?_
  ·rintro i H2 ⟨s2,e2⟩
   exact ⟨hpn _,SqT.of (s2 _ _ e1)⟩
  ·rintro H2 ⟨s2,e2⟩
   refine ⟨D,_,rfl,e2,?_⟩
   rw[show (List.replicate (qaw h.c.length ns).length true).all id=true by simp]
   exact k _ (s1.trans s2)
  ·rintro i x y p H2 hx hy ⟨s2,e2⟩ hp
   obtain ⟨nm,rfl,hpo⟩:=ok.partAt hx hy
   refine ⟨p,_,rfl,SqT.of yaa,rfl,?_⟩
   refine ⟨_,_,rfl,_,_,rfl,rfl,ya6.set (ya6.set (ya6.refl _) rfl) rfl,yes ?_⟩
   refine ⟨_,rfl,_,rfl,nm,y,rfl,hpo,fun H3 s3=>?_⟩
   have s23:Same H2 H3:=((Same.refl H2).upd hp).trans s3
   refine ⟨_,s23 _ _ e2,qb5 ?_,(s2.trans s23).at hD,?_⟩
   ·have h1:=(List.getElem?_eq_some_iff.mp hx).1
    have h2:=ok.cl
    have h3:=ok.rl
    simp[qaw] at h1 ⊢
    omega
   ·rw[yaa,List.replicate_succ',List.map_append];rfl
end
section
variable {P:Program}{w:World}{K:PySem.W.Frag}{mg:Str→Option Value}{base:Heap}
theorem qib {h:Hm}{i:Nat} (hi:h.c.length≤i):h.c.take (i+1)=h.c.take i:=by
 rw[List.take_of_length_le hi,List.take_of_length_le (by omega)]
noncomputable def yb2:Sp:=fun vs H Q _=>∃ v h ns,vs=[v]∧HAt H v h∧okH h ns∧∀ D H',Same H H'→H D=none→H' D=some (.lst (h.c.map V.int))→Q (.ref D) H'
noncomputable abbrev ycy:Stmt:=top 38
theorem qc5:FnScope ["harm"] ["harm"] (yac ycy):=⟨rfl,rfl,rfl,by decide +kernel,rfl,by decide +kernel,by decide +kernel⟩
theorem qi5 (B:Bl mg) (yee:mg "zip" = none) {aP:Addr} (gP:mg "PARTS" = some (.ref aP)) (TP:TabK K aP tabP) (F:FnAt K mg "cells_in" ycy ["harm"]):Has P w K mg base 1 "cells_in" ["harm"] yb2:=by
 refine Has.of F qc5 (fun vs H Q E h=>?_) (fun f cdv A outer s H vs Q E hr h=>?_)
 ·obtain ⟨v,h,ns,rfl,_⟩:=h
  rfl
 ·obtain ⟨v,h,ns,rfl,⟨a,rfl,ha⟩,ok,k⟩:=h
  have sc:=qc5
  refine ⟨_,(yaf (qat (yce rfl (qa8 rfl) (M:=["name","part"]) (ix:=[none,none]) (qie rfl yee (qaa (yan (yjt (D:=tabP)) (ya1 (v:=.ref aP) rfl gP rfl) (yan yap (pv 0) qac (fun _ _=>rfl)) (fun _ _=>rfl)) (qaa (ybs yjl (pv 0) (qbi qac) ych) yab))) (fun _ _ _ _=>(yf5 (K:=K) (n:=2) rfl rfl (qan (qak (i:=0) (show List.Nodup (["name","part"]:List Str) by decide +kernel) rfl (Or.inl rfl)) (qan (qak (i:=1) (show List.Nodup (["name","part"]:List Str) by decide +kernel) rfl (Or.inl rfl)) qbp)))) (fun _ _ _ _=>(qhv (qao qa6 (pv 0) yaj (qaj _)))) (fun _ _ _ _=>(pv 1))))),?_⟩
  refine ⟨_,rfl,a,_,_,_,rfl,rfl,SqT.of ha,yad 0 rfl,aP,h.w,_,rfl,rfl,TP,ok.tab,fun pn hpn=>?_⟩
  refine ⟨_,rfl,_,rfl,a,_,rfl,SqT.of ha,qix h,fun q hq=>?_⟩
  rw[qht]
  have s1:Same H (upd H q (.tup (h.c.map V.int++h.r))):=(Same.refl H).upd hq
  have e1:upd H q (.tup (h.c.map V.int++h.r)) q=some (.tup (h.c.map V.int++h.r)):=yaa
  revert s1 e1
  generalize upd H q (.tup (h.c.map V.int++h.r))=H1
  intro s1 e1
  refine ⟨true,true,pn,q,_,_,rfl,hpn _,SqT.of e1,fun D hD=>?_⟩
  refine yej (K:=K) (ok.len.symm) (fun i H'=>Same H1 H'∧H' D=some (.lst ((h.c.take i).map V.int))) ⟨(Same.refl H1).upd hD,yaa⟩ ?_ ?_ ?_
  ·rintro i H2 ⟨s2,e2⟩
   exact ⟨hpn _,SqT.of (s2 _ _ e1)⟩
  ·rintro H2 ⟨s2,e2⟩
   rw[List.take_of_length_le (by simp[qaw])] at e2
   exact k D H2 (s1.trans s2) (s1.free hD) e2
  ·rintro i x y p H2 hx hy ⟨s2,e2⟩ hp
   have s3:Same H2 (upd H2 p (.tup [x,y])):=(Same.refl H2).upd hp
   refine ⟨p,_,rfl,SqT.of yaa,rfl,?_⟩
   revert s3
   generalize upd H2 p (.tup [x,y])=H3
   intro s3
   refine ⟨_,_,rfl,_,_,rfl,rfl,ya6.set (ya6.set (ya6.refl _) rfl) rfl,?_⟩
   rcases ok.cellAt hx hy with ⟨rfl,c,hc,rfl⟩|⟨hge,hh⟩
   ·refine ⟨_,rfl,rfl,_,rfl,iteB (by decide +kernel) ?_⟩
    refine ⟨_,rfl,_,s3 _ _ e2,qb5 ?_,(s2.trans s3).at hD,?_⟩
    ·have:=ok.cl
     simp
     omega
    ·rw[yaa,List.take_add_one,hc];simp
   ·have hxn:∃ nm,x=.str nm∧nm≠"cell":=by
     rcases hh with ⟨rfl,_⟩|⟨rfl,_⟩
     ·exact ⟨_,rfl,by decide +kernel⟩
     ·exact ⟨_,rfl,by decide +kernel⟩
    obtain ⟨nm,rfl,hnm⟩:=hxn
    refine ⟨_,rfl,rfl,_,rfl,iteN (by simpa using hnm) ?_⟩
    refine ⟨s2.trans s3,?_⟩
    rw[qib hge]
    exact s3 _ _ e2
theorem not_take {l:List Int} (h:l.Nodup) {i:Nat} (hi:i<l.length):l[i]∉l.take i:=by
 intro hm
 obtain ⟨j,hj,e⟩:=List.getElem_of_mem hm
 rw[List.getElem_take] at e
 have hj':j<i:=by simp at hj;omega
 have:=(List.nodup_iff_pairwise_ne.mp h)
 exact (List.pairwise_iff_getElem.mp h j i (by omega) hi hj') e
theorem qid {l:List Int} (h:l.Nodup):∀ i,i≤l.length→ya4 (fun i=>l.getD i 0) i=l.take i
 | 0,_=>rfl
 | i+1,hi=>by
  show (if l.getD i 0∈ya4 (fun i=>l.getD i 0) i then ya4 (fun i=>l.getD i 0) i else ya4 (fun i=>l.getD i 0) i++[l.getD i 0])=_
  rw[qid h i (by omega)]
  have e:l.getD i 0=l[i]:=by rw[List.getD_eq_getElem?_getD,List.getElem?_eq_getElem (by omega)];rfl
  rw[e,if_neg (not_take h (by omega)),List.take_add_one,List.getElem?_eq_getElem (by omega)]
  rfl
theorem ygi {l:List Int} (h:l.Nodup):uniq l=l:=by
 unfold uniq
 rw[qid h _ (Nat.le_refl _),List.take_length]
theorem HAt.same {H H':Hp}{v:V}{h:Hm} (s:Same H H') (x:HAt H v h):HAt H' v h:=by
 obtain ⟨a,rfl,ha⟩:=x
 exact ⟨a,rfl,s _ _ ha⟩
noncomputable def qg4:Sp:=fun vs H Q _=>∃ v h ns,vs=[v]∧HAt H v h∧okH h ns∧∀ H',Same H H'→Q (.bl true) H'
noncomputable abbrev qds:Stmt:=top 40
theorem qdw:FnScope ["thing","cells"] ["thing"] (yac qds):=⟨rfl,rfl,rfl,by decide +kernel,rfl,by decide +kernel,by decide +kernel⟩
theorem qkj (B:Bl mg) (qdi:mg "set" = none) (qe2:Has P w K mg base 1 "has_word" ["thing"] yfz) (qed:Has P w K mg base 4 "has_parts" ["thing"] qfb) (qa9:Has P w K mg base 1 "cells_in" ["harm"] yb2) (F:FnAt K mg "is_harm" qds ["thing"]):Has P w K mg base 5 "is_harm" ["thing"] qg4:=by
 refine Has.of F qdw (fun vs H Q E h=>?_) (fun f cdv A outer s H vs Q E hr h=>?_)
 ·obtain ⟨v,h,ns,rfl,_⟩:=h
  rfl
 ·obtain ⟨v,h,ns,rfl,hv,ok,k⟩:=h
  have sc:=qdw
  refine ⟨_,(yah (qbu (PW.pt (qka (qde (qco (qah qe2 hr (qaa (pv 0) yab)))) (qg6 (qde (qco (qah qed hr (qaa (pv 0) yab)))))))
    (yaf (qat qgu))
    yav)
   (yah (qa2 (i:=1) sc.nd rfl (Or.inl rfl) (qah qa9 hr (qaa (pv 0) yab)))
   (yaf (qat (qau qa6 (qae qdb rfl (B.of rfl) boot_len (qaa (ydm (ycz rfl) rfl qdi ycv (qaa (pv 1) yab)) yab)) (qae yag rfl (B.of rfl) boot_len (qaa (pv 1) yab)) (qaj _)))))),?_⟩
  refine ⟨_,rfl,v,h,ns,rfl,hv,ok,_,rfl,iteF ?_⟩
  refine ⟨_,rfl,v,h,ns,rfl,hv,ok,fun H1 s1=>⟨_,rfl,iteF ?_⟩⟩
  refine ⟨_,rfl,v,h,ns,rfl,HAt.same s1 hv,ok,fun D H2 s2 hD e2=>?_⟩
  refine ⟨_,rfl,D,h.c,rfl,e2,by have:=ok.cl;omega,fun p hp=>?_⟩
  refine ⟨p,_,rfl,yaa,?_⟩
  have s3:Same H2 (upd H2 p (SetO P w p (uniq h.c))):=(Same.refl H2).upd hp
  refine ⟨_,rfl,D,_,rfl,.inl (SqL.of (s3 _ _ e2)),rfl,?_⟩
  rw[ygi ok.nd,List.length_map,decide_eq_true rfl]
  rw[ygi ok.nd] at s3
  exact k _ ((s1.trans s2).trans s3)
end
theorem qjl {l:List Int} (h:l.Nodup):∀ {S:List Int},(∀ x∈l,x∈S)→l.length≤S.length:=by
 induction l with
 | nil=>intro S _;exact Nat.zero_le _
 | cons x l ih=>
  intro S hs
  have hx:=hs x (by simp)
  have hn:=List.nodup_cons.mp h
  have:=ih hn.2 (S:=S.erase x) (fun y hy=>(List.mem_erase_of_ne (fun z=>by subst z;exact hn.1 hy)).mpr (hs y (by simp[hy])))
  rw[List.length_erase_of_mem hx] at this
  have:=List.length_pos_of_mem hx
  simp
  omega
noncomputable def allC (hs:List Hm):List Int:=hs.flatMap Hm.c
structure okHs (hs:List Hm) (S:List Int):Prop where
 len:hs.length≤3
 ok:∀ h∈hs,∃ ns,okH h ns
 sl:S.length≤3
 mem:∀ h∈hs,∀ c∈h.c,c∈S
structure HsV (H:Hp) (vs:List V) (hs:List Hm):Prop where
 len:vs.length=hs.length
 at_:∀ (i:Nat) (v:V) (h:Hm),vs[i]?=some v→hs[i]?=some h→HAt H v h
theorem HsV.same {H H':Hp}{vs:List V}{hs:List Hm} (s:Same H H') (x:HsV H vs hs):HsV H' vs hs:=⟨x.len,fun i v h a b=>HAt.same s (x.at_ i v h a b)⟩
theorem HsV.get {H:Hp}{vs:List V}{hs:List Hm} (x:HsV H vs hs) {i:Nat}{v:V} (h:vs[i]?=some v):∃ g,hs[i]?=some g∧HAt H v g:=by
 have hi:=(List.getElem?_eq_some_iff.mp h).1
 have e:hs[i]?=some (hs[i]'(by rw[← x.len];exact hi)):=List.getElem?_eq_getElem _
 exact ⟨_,e,x.at_ i v _ h e⟩
theorem qcx {hs:List Hm}{i:Nat}{h:Hm} (e:hs[i]?=some h):allC (hs.take (i+1))=allC (hs.take i)++h.c:=by
 unfold allC
 rw[List.take_add_one,e]
 simp
theorem okHs.sub {hs:List Hm}{S:List Int} (o:okHs hs S) {l:List Hm} (hl:∀ h∈l,h∈hs):∀ x∈allC l,x∈S:=by
 intro x hx
 unfold allC at hx
 obtain ⟨h,hh,hc⟩:=List.mem_flatMap.mp hx
 exact o.mem h (hl h hh) x hc
theorem okHs.few {hs:List Hm}{S:List Int} (o:okHs hs S) {l:List Hm} (hl:∀ h∈l,h∈hs):(uniq (allC l)).length≤3:=
 Nat.le_trans (qjl (qko _) (fun x hx=>o.sub hl x ((qfp _ x).mp hx))) o.sl
theorem allC_len {l:List Hm} (h:∀ x∈l,x.c.length≤2):(allC l).length≤2*l.length:=by
 induction l with
 | nil=>simp[allC]
 | cons a l ih=>
  have h1:=h a (by simp)
  have h2:=ih (fun x hx=>h x (by simp[hx]))
  unfold allC at *
  rw[List.flatMap_cons,List.length_append,List.length_cons]
  omega
theorem okHs.clen {hs:List Hm}{S:List Int} (o:okHs hs S) {l:List Hm} (hl:∀ h∈l,h∈hs):(allC l).length≤2*l.length:=
 allC_len fun x hx=>by
  obtain ⟨ns,h⟩:=o.ok x (hl x hx)
  exact h.cl.2
theorem ybe {c:Prop} [Decidable c] {A B:Prop} (hc:¬ c) (h:B):if decide c=true then A else B:=iteN (decide_eq_false hc) h
section
variable {P:Program}{w:World}{K:PySem.W.Frag}{mg:Str→Option Value}{base:Heap}
noncomputable def yde:Sp:=fun vs H Q _=>∃ L us hs S,vs=[.ref L]∧H L=some (.lst us)∧HsV H us hs∧okHs hs S∧∀ H',Same H H'→Q .non H'
noncomputable abbrev ybg:Stmt:=top 41
theorem qbt:FnScope ["thing","cells","number","harm"] ["thing"] (yac ybg):=⟨rfl,rfl,rfl,by decide +kernel,rfl,by decide +kernel,by decide +kernel⟩
theorem yfm (B:Bl mg) (qdi:mg "set" = none) (ydt:∃ t,mg "MOST_HARMS" = some (.int 3 t)) (yc9:∃ t,mg "MOST_UNLIKE" = some (.int 3 t)) (qf3:Has P w K mg base 5 "is_harm" ["thing"] qg4) (qa9:Has P w K mg base 1 "cells_in" ["harm"] yb2) (F:FnAt K mg "look_at_harms" ybg ["thing"]):Has P w K mg base 6 "look_at_harms" ["thing"] yde:=by
 refine Has.of F qbt (fun vs H Q E h=>?_) (fun f cdv A outer s H vs Q E hr h=>?_)
 ·obtain ⟨L,us,hs,S,rfl,_⟩:=h
  rfl
 ·obtain ⟨L,us,hs,S,rfl,hL,hv,ok,k⟩:=h
  have sc:=qbt
  refine ⟨_,(yah (qbu (PW.pt (qka (qde (qco (qae qa3 rfl (B.of rfl) boot_isinstance (qaa (pv 0) (qaa (qbb (v:=.ty "list") rfl (B.of rfl) boot_list rfl) yab))))) (qg6 (qao qfk (qae yag rfl (B.of rfl) boot_len (qaa (pv 0) yab)) (qct ydt) (qaj _)))))
    (yaf yco)
    yav)
   (yah (qa2 (i:=1) sc.nd rfl (Or.inl rfl) (ybc yab))
   (yaf (yci PassesOwn.never rfl (qc8 rfl (B.of rfl) (qaa (pv 0) yab)) (ydg rfl (qan (qak (i:=2) sc.nd rfl (Or.inl rfl)) (qan (qak (i:=3) sc.nd rfl (Or.inl rfl)) qbp)))
    (yah (qbu (qde (qco (qah qf3 hr (qaa (pv 3) yab))))
     (yaf yco)
     yav)
    (yah (ybt (qe4 PySem.F.plainAttrs_list PySem.F.slot_list_extend PySem.F.type_list_extend qet (pv 1) (qaa (qah qa9 hr (qaa (pv 3) yab)) yab)))
    (yaf (qbu (qao qfk (qae qdb rfl (B.of rfl) boot_len (qaa (ydm (ycz rfl) rfl qdi ycv (qaa (pv 1) yab)) yab)) (qct yc9) (qaj _))
     (yaf yco)
     yav)))))))),?_⟩
  refine ⟨_,rfl,_,_,_,_,rfl,.lst hL,rfl,_,rfl,iteF ?_⟩
  refine ⟨_,rfl,L,us,rfl,.inl (SqL.of hL),_,_,rfl,rfl,_,rfl,ybe (by have:=hv.len;have:=ok.len;omega) ?_⟩
  refine ⟨Nat.zero_le _,fun p hp=>?_⟩
  have npL:L≠p:=yae hL hp
  refine ⟨_,rfl,L,us,rfl,SqL.of (by rw[yai npL];exact hL),qcb (xs:=us) (fun i σ H2=>∃ (o2 o3:Option V),σ=[some (.ref L),some (.ref p),o2,o3]∧Same H H2∧H2 p=some (.lst ((allC (hs.take i)).map V.int)))
   ⟨none,none,rfl,(Same.refl H).upd hp,yaa⟩ (fun i σ H2 _ ⟨_,_,_,h,_⟩=>SqL.of (h _ _ hL)) ?_ ?_⟩
  ·rintro i x pp σ H2 hx ⟨o2,o3,rfl,s2,e2⟩ hpp
   obtain ⟨g,hg,hat⟩:=hv.get hx
   obtain ⟨ns,og⟩:=ok.ok g (List.mem_of_getElem? hg)
   have sP:Same H2 (upd H2 pp (.tup [.int i,x])):=(Same.refl H2).upd hpp
   refine ⟨pp,_,rfl,SqT.of yaa,rfl,_,_,rfl,_,_,rfl,rfl,?_⟩
   refine ⟨_,rfl,x,g,ns,rfl,HAt.same (s2.trans sP) hat,og,fun H3 s3=>⟨_,rfl,iteF ?_⟩⟩
   have s23:Same H2 H3:=sP.trans s3
   refine ⟨_,rfl,.inl ⟨rfl,_,SqL.of (s23 _ _ e2)⟩,?_⟩
   refine ⟨_,rfl,x,g,ns,rfl,HAt.same (s2.trans s23) hat,og,fun D H4 s4 hD eD=>?_⟩
   have s24:=s23.trans s4
   have hsub:∀ h∈hs.take (i+1),h∈hs:=fun h hh=>List.mem_of_mem_take hh
   have hlt:(allC (hs.take (i+1))).length≤6:=by
    have h1:=ok.clen hsub
    have h2:=ok.len
    rw[List.length_take] at h1
    omega
   refine ⟨p,D,_,_,rfl,rfl,s24 _ _ e2,eD,?_,?_⟩
   ·rw[← List.length_append,← List.map_append,← qcx hg,List.length_map]
    exact Nat.le_of_lt (qb5 (by omega))
   rw[← List.map_append,← qcx hg]
   have s5:Same H (upd H4 p (.lst ((allC (hs.take (i+1))).map V.int))):=(s2.trans s24).at hp
   have e5:upd H4 p (.lst ((allC (hs.take (i+1))).map V.int)) p=some (.lst ((allC (hs.take (i+1))).map V.int)):=yaa
   revert s5 e5
   generalize upd H4 p (.lst ((allC (hs.take (i+1))).map V.int))=H5
   intro s5 e5
   refine ⟨_,rfl,p,_,rfl,e5,by omega,fun q hq=>?_⟩
   have s6:Same H5 (upd H5 q (SetO P w q (uniq (allC (hs.take (i+1)))))):=(Same.refl H5).upd hq
   refine ⟨q,_,rfl,yaa,_,_,rfl,rfl,_,rfl,ybe (by have:=ok.few hsub;omega) ?_⟩
   exact ⟨_,_,rfl,s5.trans s6,s6 _ _ e5⟩
  ·rintro σ H2 ⟨o2,o3,rfl,s2,e2⟩
   exact k _ s2
end
section
variable {P:Program}{w:World}{K:PySem.W.Frag}{mg:Str→Option Value}{base:Heap}
noncomputable def qgh:Sp:=fun vs H Q _=>∃ L us hs S,vs=[.ref L]∧H L=some (.lst us)∧HsV H us hs∧okHs hs S∧∀ (D:Addr) (ns:List Int) (H':Hp),Same H H'→H D=none→H' D=some (.lst (ns.map V.int))→ns.Perm (uniq (allC hs))→ns.Pairwise (·≤·)→Q (.ref D) H'
noncomputable abbrev qcv:Stmt:=top 42
theorem yc5:FnScope ["harms","cells","harm"] ["harms"] (yac qcv):=⟨rfl,rfl,rfl,by decide +kernel,rfl,by decide +kernel,by decide +kernel⟩
theorem yjb (B:Bl mg) (qdi:mg "set" = none) (qch:Has P w K mg base 6 "look_at_harms" ["thing"] yde) (qa9:Has P w K mg base 1 "cells_in" ["harm"] yb2) (F:FnAt K mg "cells_of" qcv ["harms"]):Has P w K mg base 7 "cells_of" ["harms"] qgh:=by
 refine Has.of F yc5 (fun vs H Q E h=>?_) (fun f cdv A outer s H vs Q E hr h=>?_)
 ·obtain ⟨L,us,hs,S,rfl,_⟩:=h
  rfl
 ·obtain ⟨L,us,hs,S,rfl,hL,hv,ok,k⟩:=h
  have sc:=yc5
  refine ⟨_,(yah (ybt (qah qch hr (qaa (pv 0) yab)))
   (yah (qa2 (i:=1) sc.nd rfl (Or.inl rfl) (ybc yab))
   (yah (yci PassesOwn.never rfl (qbo (pv 0)) (qak (i:=2) sc.nd rfl (Or.inl rfl))
    (yaf (ybt (qe4 PySem.F.plainAttrs_list PySem.F.slot_list_extend PySem.F.type_list_extend qet (pv 1) (qaa (qah qa9 hr (qaa (pv 2) yab)) yab)))))
   (yaf (qat (qae (qff rfl) rfl (B.of rfl) yfe (qaa (ydm (ycz rfl) rfl qdi ycv (qaa (pv 1) yab)) yab))))))),?_⟩
  refine ⟨_,rfl,L,us,hs,S,rfl,hL,hv,ok,fun H1 s1=>?_⟩
  refine ⟨Nat.zero_le _,fun p hp=>?_⟩
  have hp0:H p=none:=s1.free hp
  have npL:L≠p:=yae hL hp0
  refine ⟨_,rfl,L,rfl,⟨us,SqL.of (by rw[yai npL];exact s1 _ _ hL)⟩,ybj (xs:=us) (fun i σ H2=>∃ (o2:Option V),σ=[some (.ref L),some (.ref p),o2]∧Same H H2∧H2 p=some (.lst ((allC (hs.take i)).map V.int)))
   ⟨none,rfl,s1.upd hp,yaa⟩ (fun i σ H2 _ ⟨_,_,h,_⟩=>SqL.of (h _ _ hL)) ?_ ?_⟩
  ·rintro i x σ H2 hx ⟨o2,rfl,s2,e2⟩
   obtain ⟨g,hg,hat⟩:=hv.get hx
   obtain ⟨ns,og⟩:=ok.ok g (List.mem_of_getElem? hg)
   refine ⟨_,rfl,.inl ⟨rfl,_,SqL.of e2⟩,?_⟩
   refine ⟨_,rfl,x,g,ns,rfl,HAt.same s2 hat,og,fun D H4 s4 hD eD=>?_⟩
   have hsub:∀ h∈hs.take (i+1),h∈hs:=fun h hh=>List.mem_of_mem_take hh
   have hlt:(allC (hs.take (i+1))).length≤6:=by
    have h1:=ok.clen hsub
    have h2:=ok.len
    rw[List.length_take] at h1
    omega
   refine ⟨p,D,_,_,rfl,rfl,s4 _ _ e2,eD,?_,?_⟩
   ·rw[← List.length_append,← List.map_append,← qcx hg,List.length_map]
    exact Nat.le_of_lt (qb5 (by omega))
   rw[← List.map_append,← qcx hg]
   exact ⟨_,rfl,(s2.trans s4).at hp0,yaa⟩
  ·rintro σ H2 ⟨o2,rfl,s2,e2⟩
   rw[hv.len,List.take_length] at e2
   have hc:=ok.clen (l:=hs) (fun h hh=>hh)
   have h3:=ok.len
   refine ⟨_,rfl,p,_,rfl,e2,by omega,fun q hq=>?_⟩
   have s6:Same H2 (upd H2 q (SetO P w q (uniq (allC hs)))):=(Same.refl H2).upd hq
   refine ⟨q,_,rfl,yaa,by have:=ok.few (l:=hs) (fun h hh=>hh);omega,fun l ns hl hpm hso=>?_⟩
   exact k l ns _ ((s2.trans s6).upd hl) ((s2.trans s6).free hl) yaa hpm hso
end
noncomputable def Hm.cell (h:Hm) (i:Nat):Int:=h.c.getD i 0
noncomputable def Hm.bit (h:Hm) (i:Nat):Int:=match h.r.getD i .non with | .int v=>v|_=>0
theorem qhm {vs:List V} (h:Rest ["bit"] vs):∃ b,vs=[.int (b2i b)]:=by
 cases h with
 | bit hb h=>
  cases h
  obtain ⟨b,rfl⟩:=hb
  exact ⟨b,rfl⟩
theorem qlt {vs:List V} (h:Rest ["bit","bit"] vs):∃ b c,vs=[.int (b2i b),.int (b2i c)]:=by
 cases h with
 | bit hb h=>
  obtain ⟨b,rfl⟩:=hb
  obtain ⟨c,rfl⟩:=qhm h
  exact ⟨b,c,rfl⟩
theorem rest_how {vs:List V} (h:Rest ["how"] vs):∃ v,vs=[v]∧howV v:=by
 cases h with
 | how hb h=>
  cases h
  exact ⟨_,rfl,hb⟩
theorem map_str {ns ms:List Str} (h:ns.map V.str=ms.map V.str):ns=ms:=List.map_inj_right (fun _ _ e=>V.str.inj e) |>.mp h
theorem ydb {h:Hm}{ns:List Str} (o:okH h ns):(∃ a,h.c=[a])∨∃ a b,h.c=[a,b]:=by
 obtain ⟨h1,h2⟩:=o.cl
 match hc:h.c with
 | []=>rw[hc] at h1;simp at h1
 | [a]=>exact .inl ⟨a,rfl⟩
 | [a,b]=>exact .inr ⟨a,b,rfl⟩
 | _::_::_::_=>rw[hc] at h2;simp at h2
theorem qjv {h:Hm}{ns N:List Str} (o:okH h ns) (hw:KTD.datumAt h.w tabP=some (N.map V.str)):List.replicate h.c.length ("cell" : Str)++ns=N:=by
 have e:=Option.some.inj (o.tab.symm.trans hw)
 unfold qaw at e
 apply map_str
 rw[← e,List.map_append,List.map_replicate]
theorem qgq:("cell" : Str)≠"bit":=by decide +kernel
theorem qi8:("cell" : Str)≠"how":=by decide +kernel
theorem okH.s1 {h:Hm}{ns:List Str} (o:okH h ns) (hw:KTD.datumAt h.w tabP=some ((["cell","bit"]:List Str).map V.str)):∃ a b,h.c=[a]∧h.r=[.int (b2i b)]:=by
 have e:=qjv o hw
 have hr:=o.rest
 rcases ydb o with ⟨a,hc⟩|⟨a,b,hc⟩
 ·rw[hc] at e
  obtain ⟨_,rfl⟩:=List.cons.inj e
  obtain ⟨b,hb⟩:=qhm hr
  exact ⟨a,b,hc,hb⟩
 ·rw[hc] at e
  exact absurd (List.cons.inj (List.cons.inj e).2).1 qgq
theorem okH.c2 {h:Hm}{ns N:List Str} (o:okH h ns) (hw:KTD.datumAt h.w tabP=some ((("cell" : Str)::("cell" : Str)::N:List Str).map V.str)) (hN:∀ n∈ns,n≠"cell"):∃ a b,h.c=[a,b]∧ns=N:=by
 have e:=qjv o hw
 rcases ydb o with ⟨a,hc⟩|⟨a,b,hc⟩
 ·rw[hc] at e
  have e2:=(List.cons.inj e).2
  exact absurd rfl (hN "cell" (by show ("cell" : Str)∈ns;rw[show ns=("cell" : Str)::N from e2];simp))
 ·rw[hc] at e
  exact ⟨a,b,hc,(List.cons.inj (List.cons.inj e).2).2⟩
theorem Rest.nocell {ns:List Str}{vs:List V} (h:Rest ns vs):∀ n∈ns,n≠"cell":=by
 induction h with
 | nil=>intro n h;simp at h
 | bit _ _ ih=>
  intro n hn
  rcases List.mem_cons.mp hn with rfl|hn
  ·exact qgq.symm
  ·exact ih n hn
 | how _ _ ih=>
  intro n hn
  rcases List.mem_cons.mp hn with rfl|hn
  ·exact qi8.symm
  ·exact ih n hn
theorem okH.sTurns {h:Hm}{ns:List Str} (o:okH h ns) (hw:KTD.datumAt h.w tabP=some ((["cell","cell","bit"]:List Str).map V.str)):∃ a b x,h.c=[a,b]∧h.r=[.int (b2i x)]:=by
 obtain ⟨a,b,hc,rfl⟩:=o.c2 hw o.rest.nocell
 obtain ⟨x,hx⟩:=qhm o.rest
 exact ⟨a,b,x,hc,hx⟩
theorem okH.sSets {h:Hm}{ns:List Str} (o:okH h ns) (hw:KTD.datumAt h.w tabP=some ((["cell","cell","bit","bit"]:List Str).map V.str)):∃ a b x y,h.c=[a,b]∧h.r=[.int (b2i x),.int (b2i y)]:=by
 obtain ⟨a,b,hc,rfl⟩:=o.c2 hw o.rest.nocell
 obtain ⟨x,y,hx⟩:=qlt o.rest
 exact ⟨a,b,x,y,hc,hx⟩
theorem okH.sOther {h:Hm}{ns:List Str} (o:okH h ns) (hw:KTD.datumAt h.w tabP=some ((["cell","cell"]:List Str).map V.str)):∃ a b,h.c=[a,b]∧h.r=[]:=by
 obtain ⟨a,b,hc,rfl⟩:=o.c2 hw o.rest.nocell
 have:=o.rest
 cases hr:h.r with
 | nil=>exact ⟨a,b,hc,rfl⟩
 | cons v l=>rw[hr] at this;cases this
theorem okH.sBoth {h:Hm}{ns:List Str} (o:okH h ns) (hw:KTD.datumAt h.w tabP=some ((["cell","cell","how"]:List Str).map V.str)):∃ a b v,h.c=[a,b]∧h.r=[v]∧howV v:=by
 obtain ⟨a,b,hc,rfl⟩:=o.c2 hw o.rest.nocell
 obtain ⟨v,hv,hw⟩:=rest_how o.rest
 exact ⟨a,b,v,hc,hv,hw⟩
theorem okH.at1 {h:Hm}{ns:List Str} (o:okH h ns):(hV h)[1]?=some (.int (h.cell 0)):=by
 rcases ydb o with ⟨a,hc⟩|⟨a,b,hc⟩<;>(unfold hV Hm.cell;rw[hc];rfl)
theorem yek {s:Str} (h:s="stuck"∨s="slow"∨s="forgets"∨s="misreads"∨s="nowhere"):KTD.datumAt s tabP=some ((["cell","bit"]:List Str).map V.str):=by
 rcases h with rfl|rfl|rfl|rfl|rfl<;>decide +kernel
theorem qij:KTD.datumAt ("turns" : Str) tabP=some ((["cell","cell","bit"]:List Str).map V.str):=by decide +kernel
theorem qfr {s:Str} (h:s="sets"∨s="keeps"):KTD.datumAt s tabP=some ((["cell","cell","bit","bit"]:List Str).map V.str):=by
 rcases h with rfl|rfl<;>decide +kernel
theorem yf6:KTD.datumAt ("other" : Str) tabP=some ((["cell","cell"]:List Str).map V.str):=by decide +kernel
theorem qfs:KTD.datumAt ("both" : Str) tabP=some ((["cell","cell","how"]:List Str).map V.str):=by decide +kernel
noncomputable def qf2 (cell:Int) (h:Hm):Bool:=h.w == "stuck" && h.cell 0 == cell
noncomputable def ygb (hs:List Hm) (cell:Int):Option Int:=(hs.find? (qf2 cell)).map (fun h=>h.bit 0)
noncomputable def optI:Option Int→V
 | none=>.non
 | some b=>.int b
noncomputable def putM (hs:List Hm) (cs:List Int) (cell bit:Int):List Int:=if (ygb hs cell).isNone then cs.set cell.toNat bit else cs
theorem qei {α:Type}{p:α→Bool}{l:List α}{i:Nat}{x:α} (h0:(l.take i).find? p=none) (hx:l[i]?=some x) :
  (p x=true→l.find? p=some x)∧(p x=false→(l.take (i+1)).find? p=none):=by
 constructor
 ·intro hp
  have hi:=(List.getElem?_eq_some_iff.mp hx).1
  have e:l=l.take i++x::l.drop (i+1):=by
   have:=List.getElem_cons_drop (as:=l) (i:=i) hi
   rw[(List.getElem?_eq_some_iff.mp hx).2] at this
   rw[this,List.take_append_drop]
  rw[e,List.find?_append,h0]
  simp[hp]
 ·intro hp
  rw[List.take_add_one,hx,List.find?_append,h0]
  simp[hp]
noncomputable def Oks (hs:List Hm):Prop:=∀ h∈hs,∃ ns,okH h ns
section
variable {P:Program}{w:World}{K:PySem.W.Frag}{mg:Str→Option Value}{base:Heap}
noncomputable def qdn:Sp:=fun vs H Q _=>∃ L us hs cell,vs=[.ref L,.int cell]∧H L=some (.lst us)∧HsV H us hs∧Oks hs∧Q (optI (ygb hs cell)) H
noncomputable abbrev qc7:Stmt:=top 44
theorem yfj:FnScope ["harms","cell","harm"] ["harms","cell"] (yac qc7):=⟨rfl,rfl,rfl,by decide +kernel,rfl,by decide +kernel,by decide +kernel⟩
theorem qim (F:FnAt K mg "stuck_bit" qc7 ["harms","cell"]):Has P w K mg base 1 "stuck_bit" ["harms","cell"] qdn:=by
 refine Has.of F yfj (fun vs H Q E h=>?_) (fun f cdv A outer s H vs Q E hr h=>?_)
 ·obtain ⟨L,us,hs,cell,rfl,_⟩:=h
  rfl
 ·obtain ⟨L,us,hs,cell,rfl,hL,hv,ok,k⟩:=h
  have sc:=yfj
  refine ⟨_,(yah (yci PassesOwn.never rfl (qbo (pv 0)) (qak (i:=2) sc.nd rfl (Or.inl rfl))
    (yaf (qbu (PW.pt (qcm (qao qa6 (yan yap (pv 2) qac (fun _ _=>rfl)) yaj (qaj _)) (qci (qao qa6 (yan yap (pv 2) qac (fun _ _=>rfl)) (pv 1) (qaj _)))))
     (yaf (qat (yan yap (pv 2) qac (fun _ _=>rfl))))
     yav)))
   (yaf (qat yb6))),?_⟩
  refine ⟨_,rfl,L,rfl,⟨us,SqL.of hL⟩,ybj (xs:=us) (fun i σ H2=>∃ (o2:Option V),σ=[some (.ref L),some (.int cell),o2]∧H2=H∧(hs.take i).find? (qf2 cell)=none)
   ⟨none,rfl,rfl,rfl⟩ (fun i σ H2 _ ⟨_,_,h,_⟩=>by subst h;exact SqL.of hL) ?_ ?_⟩
  ·rintro i x σ H2 hx ⟨o2,rfl,rfl,hn⟩
   obtain ⟨g,hg,a,rfl,ha⟩:=hv.get hx
   obtain ⟨ns,og⟩:=ok g (List.mem_of_getElem? hg)
   obtain ⟨f1,f2⟩:=qei hn hg
   refine ⟨_,rfl,a,_,_,_,rfl,rfl,SqT.of ha,yad 0 rfl,rfl,_,rfl,?_⟩
   by_cases hw:g.w="stuck"
   ·refine iteB (by rw[decide_eq_true_iff];exact congrArg V.str hw) ?_
    refine ⟨_,rfl,a,_,_,_,rfl,rfl,SqT.of ha,yad 1 og.at1,_,rfl,rfl,_,rfl,?_⟩
    by_cases hc:g.cell 0=cell
    ·refine iteB (by rw[decide_eq_true_iff];exact congrArg V.int hc) ?_
     obtain ⟨c,b,ec,er⟩:=og.s1 (yek (.inl hw))
     refine ⟨_,rfl,a,_,_,_,rfl,rfl,SqT.of ha,yad 2 (show (hV g)[2]?=some (.int (g.bit 0)) by unfold hV Hm.bit;rw[ec,er];rfl),?_⟩
     have:=f1 (by unfold qf2;rw[hw,hc];simp)
     unfold ygb at k
     rw[this] at k
     exact k
    ·refine iteN (by rw[decide_eq_false_iff_not];intro z;exact hc (V.int.inj z)) ?_
     exact ⟨_,rfl,rfl,f2 (by unfold qf2;simp[hc])⟩
   ·refine iteN (by rw[decide_eq_false_iff_not];intro z;exact hw (V.str.inj z)) ?_
    exact ⟨_,rfl,rfl,f2 (by unfold qf2;simp[hw])⟩
  ·rintro σ H2 ⟨o2,rfl,rfl,hn⟩
   rw[hv.len,List.take_length] at hn
   unfold ygb at k
   rw[hn] at k
   exact k
end
noncomputable def rd (cs:List Int) (c:Int):Int:=cs.getD c.toNat 0
theorem yhh {cs:List Int}{c:Int} (h0:0≤c) (h1:c<cs.length):atI (cs.map V.int) c=some (.int (rd cs c)):=by
 refine qf0 h0 ?_
 have:c.toNat<cs.length:=by omega
 unfold rd
 rw[List.getElem?_map,List.getD_eq_getElem?_getD,List.getElem?_eq_getElem this]
 rfl
theorem ixN_in {n:Nat}{c:Int} (h0:0≤c) (h1:c<n):ixN n c=some c.toNat:=by
 unfold ixN
 rw[if_pos h0,if_pos h1]
theorem HAt.upd {H:Hp}{C:Addr}{xs ys:List V}{v:V}{h:Hm} (x:HAt H v h) (hC:H C=some (.lst xs)):HAt (upd H C (.lst ys)) v h:=by
 obtain ⟨a,rfl,ha⟩:=x
 exact ⟨a,rfl,by rw[yai (fun z=>by subst z;rw[hC] at ha;cases ha)];exact ha⟩
theorem HsV.upd {H:Hp}{C:Addr}{xs ys us:List V}{hs:List Hm} (x:HsV H us hs) (hC:H C=some (.lst xs)):HsV (L2.upd H C (.lst ys)) us hs:=⟨x.len,fun i v h a b=>HAt.upd (x.at_ i v h a b) hC⟩
theorem upd_id {H:Hp}{C:Addr}{o:HO} (h:H C=some o):upd H C o=H:=by
 funext b
 by_cases e:b=C
 ·subst e;rw[yaa,h]
 ·rw[yai e]
theorem map_set (cs:List Int) (i:Nat) (b:Int):(cs.map V.int).set i (.int b)=(cs.set i b).map V.int:=by rw[List.map_set]
theorem qc9 (hs:List Hm) (cs:List Int) (c b:Int):(putM hs cs c b).length=cs.length:=by
 unfold putM
 split<;>simp
structure Mem (H:Hp) (L C:Addr) (us:List V) (hs:List Hm) (cs:List Int):Prop where
 ne:L≠C
 hl:H L=some (.lst us)
 hv:HsV H us hs
 ok:Oks hs
 hc:H C=some (.lst (cs.map V.int))
theorem Mem.upd {H:Hp}{L C:Addr}{us:List V}{hs:List Hm}{cs:List Int} (m:Mem H L C us hs cs) (ds:List Int):Mem (L2.upd H C (.lst (ds.map V.int))) L C us hs ds:=
 ⟨m.ne,by rw[yai m.ne];exact m.hl,m.hv.upd m.hc,m.ok,yaa⟩
theorem Mem.same {H H':Hp}{L C:Addr}{us:List V}{hs:List Hm}{cs:List Int} (s:Same H H') (m:Mem H L C us hs cs):Mem H' L C us hs cs:=
 ⟨m.ne,s _ _ m.hl,m.hv.same s,m.ok,s _ _ m.hc⟩
section
variable {P:Program}{w:World}{K:PySem.W.Frag}{mg:Str→Option Value}{base:Heap}
noncomputable def yia:Sp:=fun vs H Q _=>∃ L C us hs cs cell bit,vs=[.ref L,.ref C,.int cell,.int bit]∧Mem H L C us hs cs∧0≤cell∧cell<cs.length∧Q .non (upd H C (.lst ((putM hs cs cell bit).map V.int)))
noncomputable abbrev s_put:Stmt:=top 45
theorem sc_put:FnScope ["harms","cells","cell","bit"] ["harms","cells","cell","bit"] (yac s_put):=⟨rfl,rfl,rfl,by decide +kernel,rfl,by decide +kernel,by decide +kernel⟩
theorem ok_put (yed:Has P w K mg base 1 "stuck_bit" ["harms","cell"] qdn) (F:FnAt K mg "put" s_put ["harms","cells","cell","bit"]):Has P w K mg base 2 "put" ["harms","cells","cell","bit"] yia:=by
 refine Has.of F sc_put (fun vs H Q E h=>?_) (fun f cdv A outer s H vs Q E hr h=>?_)
 ·obtain ⟨L,C,us,hs,cs,cell,bit,rfl,_⟩:=h
  rfl
 ·obtain ⟨L,C,us,hs,cs,cell,bit,rfl,m,h0,h1,k⟩:=h
  have sc:=sc_put
  refine ⟨_,(yaf (qbu (yh5 (pc_isN (qah yed hr (qaa (pv 0) (qaa (pv 2) yab)))))
    (yaf (ylz (pv 3) (yg1 (pv 1) (pv 2) ydy)))
    yav)),?_⟩
  refine ⟨_,rfl,_,rfl,L,us,hs,cell,rfl,m.hl,m.hv,m.ok,?_⟩
  unfold putM at k
  cases e:ygb hs cell with
  | none=>
   rw[e] at k
   refine ⟨_,rfl,iteT ?_⟩
   refine ⟨_,rfl,_,rfl,_,rfl,C,_,cell,_,rfl,rfl,m.hc,ixN_in h0 (by simpa using h1),?_⟩
   rw[map_set]
   exact k
  | some b=>
   rw[e] at k
   refine ⟨_,rfl,iteF ?_⟩
   rw[if_neg (by simp),upd_id m.hc] at k
   exact k
end
end Mh
namespace Mh
open PySem L2 PyProof.Rows Mx
noncomputable def stkN (hs:List Hm) (cs:List Int):Nat→List Int
 | 0=>cs
 | n+1=>match ygb hs n with|some b=>(stkN hs cs n).set n b|none=>stkN hs cs n
theorem yfs (hs:List Hm) (cs:List Int):∀ n,(stkN hs cs n).length=cs.length
 | 0=>rfl
 | n+1=>by
  have ih:=yfs hs cs n
  unfold stkN
  split<;>simp[ih]
noncomputable def qf5 (hs:List Hm) (cs:List Int) (h:Hm):List Int:=if h.w="keeps"∧rd cs (h.cell 0)=h.bit 0 then putM hs cs (h.cell 1) (h.bit 1) else cs
theorem qjc (hs:List Hm) (cs:List Int) (h:Hm):(qf5 hs cs h).length=cs.length:=by
 unfold qf5
 split
 ·exact qc9 _ _ _ _
 ·rfl
noncomputable def yix (hs:List Hm) (l:List Hm) (cs:List Int):List Int:=l.foldl (qf5 hs) cs
theorem yim (hs:List Hm) (l:List Hm) (cs:List Int):(yix hs l cs).length=cs.length:=by
 induction l generalizing cs with
 | nil=>rfl
 | cons a l ih=>exact (ih _).trans (qjc _ _ _)
theorem yeg {α β:Type} (f:β→α→β) (b:β) {l:List α}{i:Nat}{x:α} (h:l[i]?=some x):(l.take (i+1)).foldl f b=f ((l.take i).foldl f b) x:=by
 rw[List.take_add_one,h,List.foldl_append]
 rfl
noncomputable def yge (hs:List Hm) (cs:List Int):List Int:=yix hs hs (stkN hs cs cs.length)
theorem qgt (hs:List Hm) (cs:List Int):(yge hs cs).length=cs.length:=(yim _ _ _).trans (yfs _ _ _)
noncomputable def InR (hs:List Hm) (n:Nat):Prop:=∀ h∈hs,∀ c∈h.c,0≤c∧c<n
theorem InR.c0 {hs:List Hm}{n:Nat} (r:InR hs n) {h:Hm} (hh:h∈hs) {ns:List Str} (o:okH h ns):0≤h.cell 0∧h.cell 0<n:=by
 refine r h hh _ ?_
 rcases ydb o with ⟨a,hc⟩|⟨a,b,hc⟩<;>(unfold Hm.cell;rw[hc];simp)
theorem InR.c1 {hs:List Hm}{n:Nat} (r:InR hs n) {h:Hm} (hh:h∈hs) {a b:Int} (hc:h.c=[a,b]):0≤h.cell 1∧h.cell 1<n:=by
 refine r h hh _ ?_
 unfold Hm.cell
 rw[hc]
 simp
theorem qjm {h:Hm}{a b:Int}{l:List V} (hc:h.c=[a,b]) (hr:h.r=l):hV h=.str h.w :: .int (h.cell 0) :: .int (h.cell 1)::l:=by
 unfold hV Hm.cell
 rw[hc,hr]
 rfl
theorem dS {a b:Str}:decide (V.str a=V.str b)=decide (a=b):=by
 by_cases h:a=b
 ·subst h;simp
 ·rw[decide_eq_false h,decide_eq_false (fun z=>h (V.str.inj z))]
theorem dI {a b:Int}:decide (V.int a=V.int b)=decide (a=b):=by
 by_cases h:a=b
 ·subst h;simp
 ·rw[decide_eq_false h,decide_eq_false (fun z=>h (V.int.inj z))]
section
variable {P:Program}{w:World}{K:PySem.W.Frag}{mg:Str→Option Value}{base:Heap}
noncomputable def qem:Sp:=fun vs H Q _=>∃ L C us hs cs,vs=[.ref L,.ref C]∧Mem H L C us hs cs∧InR hs cs.length∧cs.length≤64∧Q .non (upd H C (.lst ((yge hs cs).map V.int)))
noncomputable abbrev yfv:Stmt:=top 46
theorem yic:FnScope ["harms","cells","cell","bit","harm"] ["harms","cells"] (yac yfv):=⟨rfl,rfl,rfl,by decide +kernel,rfl,by decide +kernel,by decide +kernel⟩
theorem ylm (B:Bl mg) (yed:Has P w K mg base 1 "stuck_bit" ["harms","cell"] qdn) (qiw:Has P w K mg base 2 "put" ["harms","cells","cell","bit"] yia) (F:FnAt K mg "settle" yfv ["harms","cells"]):Has P w K mg base 3 "settle" ["harms","cells"] qem:=by
 refine Has.of F yic (fun vs H Q E h=>?_) (fun f cdv A outer s H vs Q E hr h=>?_)
 ·obtain ⟨L,C,us,hs,cs,rfl,_⟩:=h
  rfl
 ·obtain ⟨L,C,us,hs,cs,rfl,m,hi,hcl,k⟩:=h
  have sc:=yic
  refine ⟨_,(yah (yci PassesOwn.never rfl (ycd rfl (B.of rfl) (qaa (qae yag rfl (B.of rfl) boot_len (qaa (pv 1) yab)) yab)) (qak (i:=2) sc.nd rfl (Or.inl rfl))
    (yah (qa2 (i:=3) sc.nd rfl (Or.inl rfl) (qah yed hr (qaa (pv 0) (qaa (pv 2) yab))))
    (yaf (qbu (yh5 (yja (pv 3)))
     (yaf (ylz (pv 3) (yg1 (pv 1) (pv 2) ydy)))
     yav))))
   (yaf (yci PassesOwn.never rfl (qbo (pv 0)) (qak (i:=4) sc.nd rfl (Or.inl rfl))
    (yaf (qbu (PW.pt (qcm (qao qa6 (yan yap (pv 4) qac (fun _ _=>rfl)) yaj (qaj _)) (qci (qao qa6 (yan qai (pv 1) (yan yap (pv 4) qac (fun _ _=>rfl)) (fun _ _=>rfl)) (yan yap (pv 4) qac (fun _ _=>rfl)) (qaj _)))))
     (yaf (ybt (qah qiw hr (qbv (pv 0) (qbv (pv 1) (qaa (yan yap (pv 4) qac (fun _ _=>rfl)) (qaa (yan yap (pv 4) qac (fun _ _=>rfl)) yab)))))))
     yav))))),?_⟩
  refine ⟨_,rfl,C,_,rfl,.inl (SqL.of m.hc),cs.length,(by rw[List.length_map]),(by omega),(by omega),yep (n:=cs.length) (fun i σ H2=>∃ (o2 o3:Option V),σ=[some (.ref L),some (.ref C),o2,o3,none]∧H2=upd H C (.lst ((stkN hs cs i).map V.int)))
   ⟨none,none,rfl,(upd_id m.hc).symm⟩ ?_ ?_⟩
  ·rintro i σ H2 hlt ⟨o2,o3,rfl,rfl⟩
   have m2:=m.upd (stkN hs cs i)
   rw[Int.zero_add]
   refine ⟨_,rfl,_,rfl,L,us,hs,i,rfl,m2.hl,m2.hv,m2.ok,?_⟩
   cases e:ygb hs i with
   | none=>
    refine ⟨_,rfl,_,rfl,iteF ?_⟩
    exact ⟨_,_,rfl,by rw[stkN,e]⟩
   | some b=>
    refine ⟨_,rfl,_,rfl,iteT ?_⟩
    refine ⟨_,rfl,_,rfl,_,rfl,C,_,i,_,rfl,rfl,m2.hc,ixN_in (by omega) (by rw[List.length_map,yfs];omega),?_⟩
    refine ⟨_,_,rfl,?_⟩
    rw[show optI (some b)=V.int b from rfl,map_set,yhv,stkN,e]
    rfl
  ·rintro σ H2 ⟨o2,o3,rfl,rfl⟩
   have m2:=m.upd (stkN hs cs cs.length)
   refine ⟨_,rfl,L,rfl,⟨us,SqL.of m2.hl⟩,ybj (xs:=us) (fun i σ H2=>∃ (o4:Option V),σ=[some (.ref L),some (.ref C),o2,o3,o4]∧H2=upd H C (.lst ((yix hs (hs.take i) (stkN hs cs cs.length)).map V.int)))
    ⟨none,rfl,rfl⟩ (fun i σ H2 _ ⟨_,_,h⟩=>by subst h;exact SqL.of (by rw[yai m.ne];exact m.hl)) ?_ ?_⟩
   ·rintro i x σ H2 hx ⟨o4,rfl,rfl⟩
    have hlen:=(yim hs (hs.take i) (stkN hs cs cs.length)).trans (yfs hs cs cs.length)
    have m3:=m.upd (yix hs (hs.take i) (stkN hs cs cs.length))
    have step:∀ g,hs[i]?=some g→yix hs (hs.take (i+1)) (stkN hs cs cs.length)=qf5 hs (yix hs (hs.take i) (stkN hs cs cs.length)) g:=fun g hg=>yeg _ _ hg
    revert hlen m3 step
    generalize yix hs (hs.take i) (stkN hs cs cs.length)=ds
    intro hlen m3 step
    obtain ⟨g,hg,a,rfl,ha⟩:=m3.hv.get hx
    have hgm:=List.mem_of_getElem? hg
    obtain ⟨ns,og⟩:=m.ok g hgm
    rw[step g hg]
    unfold qf5
    refine ⟨_,rfl,a,_,_,_,rfl,rfl,SqT.of ha,yad 0 rfl,rfl,_,rfl,?_⟩
    rw[dS]
    by_cases hw:g.w="keeps"
    ·refine iteB (decide_eq_true hw) ?_
     obtain ⟨c1,c2,x1,x2,ec,er⟩:=og.sSets (qfr (.inr hw))
     have hb0:g.bit 0=b2i x1:=by unfold Hm.bit;rw[er];rfl
     have hb1:g.bit 1=b2i x2:=by unfold Hm.bit;rw[er];rfl
     rw[← hb0,← hb1] at er
     have ht:=qjm ec er
     have c0:=hi.c0 hgm og
     have c1:=hi.c1 hgm ec
     rw[ht] at ha
     refine ⟨_,rfl,_,rfl,a,_,_,_,rfl,rfl,SqT.of ha,yad 1 rfl,C,_,_,_,rfl,rfl,SqL.of m3.hc,yhh c0.1 (by omega),?_⟩
     refine ⟨_,rfl,a,_,_,_,rfl,rfl,SqT.of ha,yad 3 rfl,rfl,_,rfl,?_⟩
     rw[dI]
     by_cases hb:rd ds (g.cell 0)=g.bit 0
     ·refine iteB (decide_eq_true hb) ?_
      refine ⟨_,rfl,_,rfl,_,rfl,a,_,_,_,rfl,rfl,SqT.of ha,yad 2 rfl,_,rfl,a,_,_,_,rfl,rfl,SqT.of ha,yad 4 rfl,L,C,us,hs,ds,g.cell 1,g.bit 1,rfl,m3,c1.1,by omega,?_⟩
      rw[yhv,if_pos ⟨hw,hb⟩]
      exact ⟨_,rfl,rfl⟩
     ·refine iteN (decide_eq_false hb) ?_
      rw[if_neg (fun z=>hb z.2)]
      exact ⟨_,rfl,rfl⟩
    ·refine iteN (decide_eq_false hw) ?_
     rw[if_neg (fun z=>hw z.1)]
     exact ⟨_,rfl,rfl⟩
   ·rintro σ H2 ⟨o4,rfl,rfl⟩
    rw[m.hv.len,List.take_length]
    exact k
end
structure UpC (H:Hp) (C:Addr) (ds:List Int) (H':Hp):Prop where
 st:∀ b u,b≠C→H b=some u→H' b=some u
 at_:H' C=some (.lst (ds.map V.int))
theorem UpC.same {H H' H2:Hp}{C:Addr}{ds:List Int} (u:UpC H C ds H') (s:Same H' H2):UpC H C ds H2:=⟨fun b o h e=>s _ _ (u.st b o h e),s _ _ u.at_⟩
theorem UpC.trans {H H' H2:Hp}{C:Addr}{ds es:List Int} (u:UpC H C ds H') (v:UpC H' C es H2):UpC H C es H2:=⟨fun b o h e=>v.st b o h (u.st b o h e),v.at_⟩
theorem UpC.of {H H':Hp}{C:Addr}{cs:List Int} (s:Same H H') (h:H C=some (.lst (cs.map V.int))):UpC H C cs H':=⟨fun b o _ e=>s _ _ e,s _ _ h⟩
theorem UpC.put {H:Hp}{C:Addr}{ds:List Int}:UpC H C ds (upd H C (.lst (ds.map V.int))):=⟨fun b o h e=>by rw[yai h];exact e,yaa⟩
theorem UpC.hat {H H':Hp}{C:Addr}{cs ds:List Int}{v:V}{h:Hm} (u:UpC H C ds H') (hc:H C=some (.lst (cs.map V.int))) (x:HAt H v h):HAt H' v h:=by
 obtain ⟨a,rfl,ha⟩:=x
 exact ⟨a,rfl,u.st a _ (fun z=>by subst z;rw[hc] at ha;cases ha) ha⟩
theorem Mem.upC {H H':Hp}{L C:Addr}{us:List V}{hs:List Hm}{cs ds:List Int} (m:Mem H L C us hs cs) (u:UpC H C ds H'):Mem H' L C us hs ds:=
 ⟨m.ne,u.st _ _ m.ne m.hl,⟨m.hv.len,fun i v h a b=>u.hat m.hc (m.hv.at_ i v h a b)⟩,m.ok,u.at_⟩
noncomputable def qmb (a:Int) (h:Hm):Bool:=decide ((h.w="nowhere"∨h.w="other"∨h.w="both")∧h.cell 0=a)
noncomputable def yct (hs:List Hm) (a:Int):Option Hm:=hs.find? (qmb a)
noncomputable def OpH (H:Hp) (v:V):Option Hm→Prop
 | none=>v=.non
 | some h=>HAt H v h
theorem eqS {a s:Str}:(eqV (.str a) (.str s)=true)=(s=a):=by
 show ((a == s)=true)=_
 rw[beq_iff_eq]
 exact propext eq_comm
theorem in3 {s a b c:Str}:inV (.str s) [.str a,.str b,.str c]=decide (s=a∨s=b∨s=c):=by
 unfold inV
 rw[Bool.eq_iff_iff]
 simp[eqS]
theorem in2 {s a b:Str}:inV (.str s) [.str a,.str b]=decide (s=a∨s=b):=by
 unfold inV
 rw[Bool.eq_iff_iff]
 simp[eqS]
section
variable {P:Program}{w:World}{K:PySem.W.Frag}{mg:Str→Option Value}{base:Heap}
noncomputable def yby:Sp:=fun vs H Q _=>∃ L us hs a,vs=[.ref L,.int a]∧H L=some (.lst us)∧HsV H us hs∧Oks hs∧∀ v H',Same H H'→OpH H v (yct hs a)→Q v H'
noncomputable abbrev qbk:Stmt:=top 47
theorem qcn:FnScope ["harms","address","harm"] ["harms","address"] (yac qbk):=⟨rfl,rfl,rfl,by decide +kernel,rfl,by decide +kernel,by decide +kernel⟩
theorem qeo (F:FnAt K mg "harm_of_address" qbk ["harms","address"]):Has P w K mg base 1 "harm_of_address" ["harms","address"] yby:=by
 refine Has.of F qcn (fun vs H Q E h=>?_) (fun f cdv A outer s H vs Q E hr h=>?_)
 ·obtain ⟨L,us,hs,a,rfl,_⟩:=h
  rfl
 ·obtain ⟨L,us,hs,ad,rfl,hL,hv,ok,k⟩:=h
  have sc:=qcn
  refine ⟨_,(yah (yci PassesOwn.never rfl (qbo (pv 0)) (qak (i:=2) sc.nd rfl (Or.inl rfl))
    (yaf (qbu (PW.pt (qcm (qao qbr (yan yap (pv 2) qac (fun _ _=>rfl)) (qce (qaa yaj (qaa yaj (qaa yaj yab)))) (by with_unfolding_all rfl)) (qci (qao qa6 (yan yap (pv 2) qac (fun _ _=>rfl)) (pv 1) (qaj _)))))
     (yaf (qat (pv 2)))
     yav)))
   (yaf (qat yb6))),?_⟩
  refine ⟨_,rfl,L,rfl,⟨us,SqL.of hL⟩,ybj (xs:=us) (fun i σ H2=>∃ (o2:Option V),σ=[some (.ref L),some (.int ad),o2]∧Same H H2∧(hs.take i).find? (qmb ad)=none)
   ⟨none,rfl,Same.refl H,rfl⟩ (fun i σ H2 _ ⟨_,_,h,_⟩=>SqL.of (h _ _ hL)) ?_ ?_⟩
  ·rintro i x σ H2 hx ⟨o2,rfl,s2,hn⟩
   obtain ⟨g,hg,hat⟩:=hv.get hx
   obtain ⟨a,rfl,ha⟩:=id hat
   obtain ⟨ns,og⟩:=ok g (List.mem_of_getElem? hg)
   obtain ⟨f1,f2⟩:=qei hn hg
   have ha2:=s2 _ _ ha
   refine ⟨_,rfl,a,_,_,_,rfl,rfl,SqT.of ha2,yad 0 rfl,(by show 3≤sizeLine;decide),fun p hp=>⟨p,_,rfl,.inr (SqT.of yaa),rfl,rfl,_,rfl,?_⟩⟩
   rw[in3]
   have s3:Same H (upd H2 p (.tup [.str "nowhere",.str "other",.str "both"])):=s2.upd hp
   revert s3
   generalize upd H2 p (.tup [.str "nowhere",.str "other",.str "both"])=H3
   intro s3
   by_cases hw:g.w="nowhere"∨g.w="other"∨g.w="both"
   ·refine iteD hw ?_
    refine ⟨_,rfl,a,_,_,_,rfl,rfl,SqT.of (s3 _ _ ha),yad 1 og.at1,_,rfl,rfl,_,rfl,?_⟩
    rw[dI]
    by_cases hc:g.cell 0=ad
    ·refine iteD hc ?_
     refine ⟨_,rfl,k _ _ s3 ?_⟩
     unfold yct
     rw[f1 (decide_eq_true ⟨hw,hc⟩)]
     exact hat
    ·refine ybe hc ?_
     exact ⟨_,rfl,s3,f2 (decide_eq_false (fun z=>hc z.2))⟩
   ·refine ybe hw ?_
    exact ⟨_,rfl,s3,f2 (decide_eq_false (fun z=>hw z.1))⟩
  ·rintro σ H2 ⟨o2,rfl,s2,hn⟩
   rw[hv.len,List.take_length] at hn
   refine k _ _ s2 ?_
   unfold yct
   rw[hn]
   rfl
noncomputable def qdp (o:Option Hm) (a:Int):List Int:=
 match o with
 | none=>[a]
 | some h=>if h.w="nowhere" then [] else if h.w="other" then [h.cell 1] else [a,h.cell 1]
theorem qc1 {hs:List Hm}{a:Int}{h:Hm} (e:yct hs a=some h):h∈hs∧(h.w="nowhere"∨h.w="other"∨h.w="both")∧h.cell 0=a:=
 ⟨List.mem_of_find?_eq_some e,of_decide_eq_true (List.find?_some (p:=qmb a) e)⟩
noncomputable def qb7:Sp:=fun vs H Q _=>∃ v o a,vs=[v,.int a]∧OpH H v o∧(∀ h,o=some h→(h.w="nowhere"∨h.w="other"∨h.w="both")∧∃ ns,okH h ns)∧∀ D H',Same H H'→H D=none→H' D=some (.lst ((qdp o a).map V.int))→Q (.ref D) H'
noncomputable abbrev qb0:Stmt:=top 48
theorem ydh:FnScope ["harm","address"] ["harm","address"] (yac qb0):=⟨rfl,rfl,rfl,by decide +kernel,rfl,by decide +kernel,by decide +kernel⟩
theorem yfl (F:FnAt K mg "reached_cells" qb0 ["harm","address"]):Has P w K mg base 1 "reached_cells" ["harm","address"] qb7:=by
 refine Has.of F ydh (fun vs H Q E h=>?_) (fun f cdv A outer s H vs Q E hr h=>?_)
 ·obtain ⟨v,o,a,rfl,_⟩:=h
  rfl
 ·obtain ⟨v,o,ad,rfl,ho,hk,k⟩:=h
  have sc:=ydh
  refine ⟨_,(yah (qbu (yh5 (pc_isN (pv 0)))
    (yaf (qat (ybc (qaa (pv 1) yab))))
    yav)
   (yah (qbu (qao qa6 (yan yap (pv 0) qac (fun _ _=>rfl)) yaj (qaj _))
    (yaf (qat (ybc yab)))
    yav)
   (yah (qbu (qao qa6 (yan yap (pv 0) qac (fun _ _=>rfl)) yaj (qaj _))
    (yaf (qat (ybc (qaa (yan yap (pv 0) qac (fun _ _=>rfl)) yab))))
    yav)
   (yaf (qat (ybc (qaa (pv 1) (qaa (yan yap (pv 0) qac (fun _ _=>rfl)) yab)))))))),?_⟩
  cases o with
  | none=>
   cases ho
   refine ⟨_,rfl,_,rfl,iteT ?_⟩
   refine ⟨_,rfl,(by show 1≤sizeLine;decide),fun p hp=>?_⟩
   exact k p _ ((Same.refl H).upd hp) hp yaa
  | some g=>
   obtain ⟨a,rfl,ha⟩:=ho
   obtain ⟨hw,ns,og⟩:=hk g rfl
   refine ⟨_,rfl,_,rfl,iteF ?_⟩
   refine ⟨_,rfl,a,_,_,_,rfl,rfl,SqT.of ha,yad 0 rfl,rfl,_,rfl,?_⟩
   rw[dS]
   by_cases h1:g.w="nowhere"
   ·refine iteD h1 ?_
    refine ⟨Nat.zero_le _,fun p hp=>k p _ ((Same.refl H).upd hp) hp ?_⟩
    rw[yaa]
    unfold qdp
    simp[h1]
   refine ybe h1 ?_
   refine ⟨_,rfl,a,_,_,_,rfl,rfl,SqT.of ha,yad 0 rfl,rfl,_,rfl,?_⟩
   rw[dS]
   by_cases h2:g.w="other"
   ·refine iteD h2 ?_
    obtain ⟨c1,c2,ec,er⟩:=og.sOther (h2 ▸ yf6)
    rw[qjm ec er] at ha
    refine ⟨_,rfl,a,_,_,_,rfl,rfl,SqT.of ha,yad 2 rfl,(by show 1≤sizeLine;decide),fun p hp=>k p _ ((Same.refl H).upd hp) hp ?_⟩
    rw[yaa]
    unfold qdp
    dsimp only
    rw[if_neg h1,if_pos h2]
    rfl
   refine ybe h2 ?_
   have h3:g.w="both":=by
    rcases hw with h|h|h
    ·exact absurd h h1
    ·exact absurd h h2
    ·exact h
   obtain ⟨c1,c2,v,ec,er,_⟩:=og.sBoth (h3 ▸ qfs)
   rw[qjm ec er] at ha
   refine ⟨_,rfl,_,rfl,a,_,_,_,rfl,rfl,SqT.of ha,yad 2 rfl,(by show 2≤sizeLine;decide),fun p hp=>k p _ ((Same.refl H).upd hp) hp ?_⟩
   rw[yaa]
   unfold qdp
   simp[h1,h2]
end
noncomputable def isOdd (cell held:Int) (h:Hm):Bool:=decide ((h.w="forgets"∨h.w="misreads")∧h.cell 0=cell∧h.bit 0=held)
noncomputable def qeh (hs:List Hm) (cs:List Int) (cell:Int):Int×List Int:=
 match hs.find? (isOdd cell (rd cs cell)) with
 | none=>(rd cs cell,cs)
 | some h=>(if h.w="forgets" then rd cs cell else rd (putM hs cs cell (1-rd cs cell)) cell,putM hs cs cell (1-rd cs cell))
theorem qlk (hs:List Hm) (cs:List Int) (c:Int):(qeh hs cs c).2.length=cs.length:=by
 unfold qeh
 split
 ·rfl
 ·exact qc9 _ _ _ _
theorem qkv {h:Hm}{a:Int}{b:Bool} (hc:h.c=[a]) (hr:h.r=[.int (b2i b)]):hV h=[.str h.w,.int (h.cell 0),.int (h.bit 0)]:=by
 unfold hV Hm.cell Hm.bit
 rw[hc,hr]
 rfl
section
variable {P:Program}{w:World}{K:PySem.W.Frag}{mg:Str→Option Value}{base:Heap}
noncomputable def yfb:Sp:=fun vs H Q _=>∃ L C us hs cs cell,vs=[.ref L,.ref C,.int cell]∧Mem H L C us hs cs∧0≤cell∧cell<cs.length∧∀ H',UpC H C (qeh hs cs cell).2 H'→Q (.int (qeh hs cs cell).1) H'
noncomputable abbrev yc3:Stmt:=top 49
theorem ye9:FnScope ["harms","cells","cell","held","harm"] ["harms","cells","cell"] (yac yc3):=⟨rfl,rfl,rfl,by decide +kernel,rfl,by decide +kernel,by decide +kernel⟩
theorem yij (qiw:Has P w K mg base 2 "put" ["harms","cells","cell","bit"] yia) (F:FnAt K mg "read_cell" yc3 ["harms","cells","cell"]):Has P w K mg base 3 "read_cell" ["harms","cells","cell"] yfb:=by
 refine Has.of F ye9 (fun vs H Q E h=>?_) (fun f cdv A outer s H vs Q E hr h=>?_)
 ·obtain ⟨L,C,us,hs,cs,cell,rfl,_⟩:=h
  rfl
 ·obtain ⟨L,C,us,hs,cs,cell,rfl,m,h0,h1,k⟩:=h
  have sc:=ye9
  refine ⟨_,(yah (qa2 (i:=3) sc.nd rfl (Or.inl rfl) (yan qai (pv 1) (pv 2) (fun _ _=>rfl)))
   (yah (yci PassesOwn.never rfl (qbo (pv 0)) (qak (i:=4) sc.nd rfl (Or.inl rfl))
    (yaf (qbu (PW.pt (qcm (qao qbr (yan yap (pv 4) qac (fun _ _=>rfl)) (qce (qaa yaj (qaa yaj yab))) (by with_unfolding_all rfl)) (qcm (qao qa6 (yan yap (pv 4) qac (fun _ _=>rfl)) (pv 2) (qaj _)) (qci (qao qa6 (yan yap (pv 4) qac (fun _ _=>rfl)) (pv 3) (qaj _))))))
     (yah (ybt (qah qiw hr (qbv (pv 0) (qbv (pv 1) (qbv (pv 2) (qaa (qa7 qh6 qac (pv 3)) yab))))))
     (yaf (qat (yeu (qao qa6 (yan yap (pv 4) qac (fun _ _=>rfl)) yaj (qaj _)) (pv 3) (yan qai (pv 1) (pv 2) (fun _ _=>rfl))))))
     yav)))
   (yaf (qat (pv 3))))),?_⟩
  refine ⟨_,rfl,_,rfl,C,_,_,_,rfl,rfl,SqL.of m.hc,yhh h0 h1,?_⟩
  refine ⟨_,rfl,L,rfl,⟨us,SqL.of m.hl⟩,ybj (xs:=us) (fun i σ H2=>∃ (o2:Option V),σ=[some (.ref L),some (.ref C),some (.int cell),some (.int (rd cs cell)),o2]∧Same H H2∧(hs.take i).find? (isOdd cell (rd cs cell))=none)
   ⟨none,rfl,Same.refl H,rfl⟩ (fun i σ H2 _ ⟨_,_,h,_⟩=>SqL.of (h _ _ m.hl)) ?_ ?_⟩
  ·rintro i x σ H2 hx ⟨o2,rfl,s2,hn⟩
   obtain ⟨g,hg,a,rfl,ha⟩:=m.hv.get hx
   obtain ⟨ns,og⟩:=m.ok g (List.mem_of_getElem? hg)
   obtain ⟨f1,f2⟩:=qei hn hg
   refine ⟨_,rfl,a,_,_,_,rfl,rfl,SqT.of (s2 _ _ ha),yad 0 rfl,(by show 2≤sizeLine;decide),fun p hp=>⟨p,_,rfl,.inr (SqT.of yaa),rfl,rfl,_,rfl,?_⟩⟩
   rw[in2]
   have s3:Same H (upd H2 p (.tup [.str "forgets",.str "misreads"])):=s2.upd hp
   revert s3
   generalize upd H2 p (.tup [.str "forgets",.str "misreads"])=H3
   intro s3
   by_cases hw:g.w="forgets"∨g.w="misreads"
   ·refine iteD hw ?_
    obtain ⟨c,b,ec,er⟩:=og.s1 (yek (by rcases hw with h|h<;>simp[h]))
    rw[qkv ec er] at ha
    have ha3:=s3 _ _ ha
    refine ⟨_,rfl,a,_,_,_,rfl,rfl,SqT.of ha3,yad 1 rfl,_,rfl,rfl,_,rfl,?_⟩
    rw[dI]
    by_cases hc:g.cell 0=cell
    ·refine iteD hc ?_
     refine ⟨_,rfl,a,_,_,_,rfl,rfl,SqT.of ha3,yad 2 rfl,_,rfl,rfl,_,rfl,?_⟩
     rw[dI]
     by_cases hb:g.bit 0=rd cs cell
     ·refine iteD hb ?_
      have e:=f1 (decide_eq_true ⟨hw,hc,hb⟩)
      unfold qeh at k
      rw[e] at k
      have m3:=m.same s3
      refine ⟨_,rfl,_,rfl,_,rfl,_,rfl,_,_,rfl,rfl,L,C,us,hs,cs,cell,1-rd cs cell,rfl,m3,h0,h1,?_⟩
      have u3:UpC H3 C (putM hs cs cell (1-rd cs cell)) (upd H3 C (.lst ((putM hs cs cell (1-rd cs cell)).map V.int))):=UpC.put
      have ha4:upd H3 C (.lst ((putM hs cs cell (1-rd cs cell)).map V.int)) a=_:=u3.st a _ (fun z=>by subst z;rw[m3.hc] at ha3;cases ha3) ha3
      have u4:=(UpC.of s3 m.hc).trans u3
      revert u3 u4 ha4
      generalize upd H3 C (.lst ((putM hs cs cell (1-rd cs cell)).map V.int))=H4
      intro u3 ha4 u4
      refine ⟨_,rfl,a,_,_,_,rfl,rfl,SqT.of ha4,yad 0 rfl,rfl,_,rfl,?_⟩
      rw[dS]
      by_cases hf:g.w="forgets"
      ·refine iteD hf ?_
       have:=k H4 u4
       dsimp only at this
       rw[if_pos hf] at this
       exact ⟨_,rfl,this⟩
      ·refine ybe hf ?_
       have:=k H4 u4
       dsimp only at this
       rw[if_neg hf] at this
       exact ⟨_,rfl,_,rfl,C,_,_,_,rfl,rfl,SqL.of u4.at_,yhh h0 (by rw[qc9];exact h1),this⟩
     ·refine ybe hb ?_
      exact ⟨_,rfl,s3,f2 (decide_eq_false (fun z=>hb z.2.2))⟩
    ·refine ybe hc ?_
     exact ⟨_,rfl,s3,f2 (decide_eq_false (fun z=>hc z.2.1))⟩
   ·refine ybe hw ?_
    exact ⟨_,rfl,s3,f2 (decide_eq_false (fun z=>hw z.1))⟩
  ·rintro σ H2 ⟨o2,rfl,s2,hn⟩
   rw[m.hv.len,List.take_length] at hn
   unfold qeh at k
   rw[hn] at k
   exact ⟨_,rfl,k H2 (UpC.of s2 m.hc)⟩
end
noncomputable def qbz (hs:List Hm):List Int→List Int→List Int×List Int
 | [],cs=>([],cs)
 | c::l,cs=>((qeh hs cs c).1::(qbz hs l (qeh hs cs c).2).1,(qbz hs l (qeh hs cs c).2).2)
theorem qe5 (hs:List Hm):∀ (l cs:List Int),(qbz hs l cs).2.length=cs.length
 | [],_=>rfl
 | c::l,cs=>(qe5 hs l _).trans (qlk hs cs c)
theorem qe9 (hs:List Hm):∀ (l cs:List Int),(qbz hs l cs).1.length=l.length
 | [],_=>rfl
 | c::l,cs=>congrArg (· + 1) (qe9 hs l _)
theorem qgg (hs:List Hm) (c:Int):∀ (l cs:List Int),qbz hs (l++[c]) cs=((qbz hs l cs).1++[(qeh hs (qbz hs l cs).2 c).1],(qeh hs (qbz hs l cs).2 c).2)
 | [],cs=>rfl
 | d::l,cs=>by
  have ih:=qgg hs c l (qeh hs cs d).2
  show (_::(qbz hs (l++[c]) _).1,(qbz hs (l++[c]) _).2)=_
  rw[ih]
  rfl
noncomputable def loI (a b:Int):Int:=if a≤b then a else b
noncomputable def hiI (a b:Int):Int:=if a≤b then b else a
theorem lo_of {a b M:Int} (h:M∈[a,b]) (h2:∀ x∈[a,b],M≤x):M=loI a b:=by
 have h3:=h2 a (by simp)
 have h4:=h2 b (by simp)
 simp at h
 unfold loI
 split<;>omega
theorem hi_of {a b M:Int} (h:M∈[a,b]) (h2:∀ x∈[a,b],x≤M):M=hiI a b:=by
 have h3:=h2 a (by simp)
 have h4:=h2 b (by simp)
 simp at h
 unfold hiI
 split<;>omega
noncomputable def isAnd (o:Option Hm):Prop:=∃ h,o=some h∧h.r=[.str "and"]
open Classical in
noncomputable def ylh (o:Option Hm):List Int→Int
 | []=>match o with|some h=>h.bit 0|none=>0
 | [b]=>b
 | b::c::_=>if isAnd o then loI b c else hiI b c
noncomputable def qcp (hs:List Hm) (cs:List Int) (a:Int):Int×List Int:=
 (ylh (yct hs a) (qbz hs (qdp (yct hs a) a) cs).1,(qbz hs (qdp (yct hs a) a) cs).2)
theorem OpH.same {H H':Hp} (s:Same H H') {v:V}:∀ {o:Option Hm},OpH H v o→OpH H' v o
 | none,h=>h
 | some _,h=>HAt.same s h
theorem UpC.new {H H':Hp}{C p:Addr}{ds:List Int}{o:HO} (u:UpC H C ds H') (hp:H p=none) (hne:C≠p):UpC H C ds (upd H' p o):=
 ⟨fun b x h e=>by
  rw[yai (fun z=>by subst z;rw[hp] at e;cases e)]
  exact u.st b x h e,by rw[yai hne];exact u.at_⟩
theorem qjr {hs:List Hm}{n:Nat} (r:InR hs n) (ok:Oks hs) {a:Int} (h0:0≤a) (h1:a<n):∀ c∈qdp (yct hs a) a,0≤c∧c<n:=by
 intro c hc
 unfold qdp at hc
 cases e:yct hs a with
 | none=>
  rw[e] at hc
  simp at hc
  subst hc
  exact ⟨h0,h1⟩
 | some h=>
  rw[e] at hc
  obtain ⟨hm,hw,_⟩:=qc1 e
  obtain ⟨ns,o⟩:=ok h hm
  dsimp only at hc
  by_cases w1:h.w="nowhere"
  ·rw[if_pos w1] at hc;simp at hc
  rw[if_neg w1] at hc
  by_cases w2:h.w="other"
  ·rw[if_pos w2] at hc
   obtain ⟨c1,c2,ec,_⟩:=o.sOther (w2 ▸ yf6)
   simp at hc
   subst hc
   exact r.c1 hm ec
  ·rw[if_neg w2] at hc
   have h3:h.w="both":=by
    rcases hw with h|h|h
    ·exact absurd h w1
    ·exact absurd h w2
    ·exact h
   obtain ⟨c1,c2,v,ec,_⟩:=o.sBoth (h3 ▸ qfs)
   simp at hc
   rcases hc with rfl|rfl
   ·exact ⟨h0,h1⟩
   ·exact r.c1 hm ec
theorem qlw {o:Option Hm}{a:Int}:(qdp o a).length≤2:=by
 unfold qdp
 split
 ·simp
 ·split
  ·simp
  ·split<;>simp
section
variable {P:Program}{w:World}{K:PySem.W.Frag}{mg:Str→Option Value}{base:Heap}
noncomputable def qg3:Sp:=fun vs H Q _=>∃ L C us hs cs a,vs=[.ref L,.ref C,.int a]∧Mem H L C us hs cs∧InR hs cs.length∧0≤a∧a<cs.length∧∀ H',UpC H C (qcp hs cs a).2 H'→Q (.int (qcp hs cs a).1) H'
noncomputable abbrev qel:Stmt:=top 50
theorem qgz:FnScope ["harms","cells","address","harm","bits","cell"] ["harms","cells","address"] (yac qel):=⟨rfl,rfl,rfl,by decide +kernel,rfl,by decide +kernel,by decide +kernel⟩
theorem ykk (B:Bl mg) (qb2:Has P w K mg base 1 "harm_of_address" ["harms","address"] yby) (qcg:Has P w K mg base 1 "reached_cells" ["harm","address"] qb7) (yjf:Has P w K mg base 3 "read_cell" ["harms","cells","cell"] yfb) (F:FnAt K mg "read_at" qel ["harms","cells","address"]):Has P w K mg base 4 "read_at" ["harms","cells","address"] qg3:=by
 refine Has.of F qgz (fun vs H Q E h=>?_) (fun f cdv A outer s H vs Q E hr h=>?_)
 ·obtain ⟨L,C,us,hs,cs,a,rfl,_⟩:=h
  rfl
 ·obtain ⟨L,C,us,hs,cs,ad,rfl,m,hi,h0,h1,k⟩:=h
  have sc:=qgz
  refine ⟨_,(yah (qa2 (i:=3) sc.nd rfl (Or.inl rfl) (qah qb2 hr (qaa (pv 0) (qaa (pv 2) yab))))
   (yah (qa2 (i:=4) sc.nd rfl (Or.inl rfl) (ybc yab))
   (yah (yci PassesOwn.never rfl (qbo (qah qcg hr (qaa (pv 3) (qaa (pv 2) yab)))) (qak (i:=5) sc.nd rfl (Or.inl rfl))
    (yaf (ybt (qe4 PySem.F.plainAttrs_list PySem.F.slot_list_append PySem.F.type_list_append qb6 (pv 4) (qaa (qah yjf hr (qaa (pv 0) (qaa (pv 1) (qaa (pv 5) yab)))) yab)))))
   (yah (qbu (qao qa6 (qae yag rfl (B.of rfl) boot_len (qaa (pv 4) yab)) qac (qaj _))
    (yaf (qat (yan yap (pv 3) qac (fun _ _=>rfl))))
    yav)
   (yah (qbu (qao qa6 (qae yag rfl (B.of rfl) boot_len (qaa (pv 4) yab)) qac (qaj _))
    (yaf (qat (yan qai (pv 4) qac (fun _ _=>rfl))))
    yav)
   (yaf (qat (yeu (qao qa6 (yan yap (pv 3) qac (fun _ _=>rfl)) yaj (qaj _)) (qae (ykw rfl) rfl (B.of rfl) boot_min (qaa (pv 4) yab)) (qae (yk2 rfl) rfl (B.of rfl) boot_max (qaa (pv 4) yab)))))))))),?_⟩
  refine ⟨_,rfl,_,rfl,L,us,hs,ad,rfl,m.hl,m.hv,m.ok,fun v H1 s1 hv=>?_⟩
  refine ⟨Nat.zero_le _,fun p hp=>?_⟩
  have hp0:H p=none:=s1.free hp
  have nCp:C≠p:=yae m.hc hp0
  have s2:Same H (upd H1 p (.lst [])):=s1.upd hp
  have e2:upd H1 p (.lst []) p=some (.lst []):=yaa
  revert s2 e2
  generalize upd H1 p (.lst [])=H2
  intro s2 e2
  have kp:∀ h,yct hs ad=some h→(h.w="nowhere"∨h.w="other"∨h.w="both")∧∃ ns,okH h ns:=fun h e=>⟨(qc1 e).2.1,m.ok h (qc1 e).1⟩
  refine ⟨_,rfl,_,rfl,v,yct hs ad,ad,rfl,hv.same s2,kp,fun D H3 s3 hD eD=>?_⟩
  have hD0:H D=none:=s2.free hD
  have nCD:C≠D:=yae m.hc hD0
  have npD:p≠D:=yae e2 hD
  have hin:=qjr hi m.ok h0 h1
  have hrl:=qlw (o:=yct hs ad) (a:=ad)
  unfold qcp at k
  revert k hin hrl eD
  generalize hrc:qdp (yct hs ad) ad=rc
  intro k eD hin hrl
  refine ⟨D,rfl,⟨_,SqL.of eD⟩,ybj (xs:=rc.map V.int) (fun i σ H4=>∃ (o5:Option V),σ=[some (.ref L),some (.ref C),some (.int ad),some v,some (.ref p),o5]∧UpC H C (qbz hs (rc.take i) cs).2 H4∧H4 p=some (.lst ((qbz hs (rc.take i) cs).1.map V.int))∧H4 D=some (.lst (rc.map V.int)))
   ⟨none,rfl,UpC.of (s2.trans s3) m.hc,s3 _ _ e2,eD⟩ (fun i σ H4 _ ⟨_,_,_,_,h⟩=>SqL.of h) ?_ ?_⟩
  ·rintro i x σ H4 hx ⟨o5,rfl,u4,e4,d4⟩
   obtain ⟨c,hc,rfl⟩:=qby hx
   have hci:=hin c (List.mem_of_getElem? hc)
   have hil:=(List.getElem?_eq_some_iff.mp hc).1
   have m4:=m.upC u4
   refine ⟨_,rfl,.inl ⟨rfl,_,SqL.of e4⟩,_,rfl,_,rfl,_,rfl,L,C,us,hs,_,c,rfl,m4,hci.1,by rw[qe5];exact hci.2,fun H5 u5=>?_⟩
   refine ⟨p,_,_,rfl,rfl,u5.st p _ nCp.symm e4,qb5 (by rw[List.length_map,qe9,List.length_take];omega),?_⟩
   have es:qbz hs (rc.take (i+1)) cs=((qbz hs (rc.take i) cs).1++[(qeh hs (qbz hs (rc.take i) cs).2 c).1],(qeh hs (qbz hs (rc.take i) cs).2 c).2):=by rw[List.take_add_one,hc];exact qgg hs c (rc.take i) cs
   refine ⟨_,rfl,?_,?_,?_⟩
   ·rw[es]
    exact (u4.trans u5).new hp0 nCp
   ·rw[es,yaa];simp
   ·rw[yai npD.symm];exact u5.st D _ nCD.symm d4
  ·rintro σ H4 ⟨o5,rfl,u4,e4,d4⟩
   rw[List.length_map,List.take_length] at u4 e4
   have k:=k H4 u4
   have hfl:=qe9 hs rc cs
   revert k e4 hfl
   generalize (qbz hs rc cs).1=r1
   intro e4 k hfl
   have hO:OpH H4 v (yct hs ad):=by
    cases e:yct hs ad with
    | none=>rw[e] at hv;exact hv
    | some h=>rw[e] at hv;exact u4.hat m.hc hv
   refine ⟨_,rfl,p,_,rfl,.inl (SqL.of e4),rfl,_,rfl,?_⟩
   rw[dI]
   match r1,k,e4,hfl with
   | [],k,e4,hfl=>
    refine iteD (by simp) ?_
    cases e:yct hs ad with
    | none=>rw[e] at hrc;subst hrc;simp[qdp] at hfl
    | some h=>
     obtain ⟨hw,ns,oh⟩:=kp h e
     rw[e] at hO k hrc
     obtain ⟨a,rfl,ha⟩:=hO
     have hn:h.w="nowhere":=by
      by_cases w1:h.w="nowhere"
      ·exact w1
      unfold qdp at hrc
      dsimp only at hrc
      rw[if_neg w1] at hrc
      by_cases w2:h.w="other"
      ·rw[if_pos w2] at hrc;subst hrc;simp at hfl
      ·rw[if_neg w2] at hrc;subst hrc;simp at hfl
     obtain ⟨c,b,ec,er⟩:=oh.s1 (yek (by simp[hn]))
     rw[qkv ec er] at ha
     exact ⟨_,rfl,a,_,_,_,rfl,rfl,SqT.of ha,yad 2 rfl,k⟩
   | [b],k,e4,hfl=>
    refine ybe (by simp) ?_
    refine ⟨_,rfl,p,_,rfl,.inl (SqL.of e4),rfl,_,rfl,?_⟩
    rw[dI]
    refine iteD (by simp) ?_
    exact ⟨_,rfl,p,_,_,_,rfl,rfl,SqL.of e4,yad 0 rfl,k⟩
   | [b,c],k,e4,hfl=>
    refine ybe (by simp) ?_
    refine ⟨_,rfl,p,_,rfl,.inl (SqL.of e4),rfl,_,rfl,?_⟩
    rw[dI]
    refine ybe (by simp) ?_
    cases e:yct hs ad with
    | none=>rw[e] at hrc;subst hrc;simp[qdp] at hfl
    | some h=>
     obtain ⟨hw,ns,oh⟩:=kp h e
     rw[e] at hO k hrc
     obtain ⟨a,rfl,ha⟩:=hO
     have hb:h.w="both":=by
      unfold qdp at hrc
      dsimp only at hrc
      rcases hw with w|w|w
      ·rw[if_pos w] at hrc;subst hrc;simp at hfl
      ·by_cases w1:h.w="nowhere"
       ·rw[if_pos w1] at hrc;subst hrc;simp at hfl
       ·rw[if_neg w1,if_pos w] at hrc;subst hrc;simp at hfl
      ·exact w
     obtain ⟨c1,c2,u,ec,er,hu⟩:=oh.sBoth (hb ▸ qfs)
     rw[qjm ec er] at ha
     refine ⟨_,rfl,a,_,_,_,rfl,rfl,SqT.of ha,yad 3 rfl,?_⟩
     rcases hu with rfl|rfl
     ·refine ⟨rfl,_,rfl,iteB (by decide +kernel) ?_⟩
      refine ⟨_,rfl,p,_,rfl,e4,by simp,fun M h1 h2=>?_⟩
      rw[lo_of h1 h2]
      have:ylh (some h) [b,c]=loI b c:=by
       unfold ylh
       dsimp only
       exact if_pos ⟨h,rfl,er⟩
      rw[← this]
      exact k
     ·refine ⟨rfl,_,rfl,iteN (by decide +kernel) ?_⟩
      refine ⟨_,rfl,p,_,rfl,e4,by simp,fun M h1 h2=>?_⟩
      rw[hi_of h1 h2]
      have:ylh (some h) [b,c]=hiI b c:=by
       unfold ylh
       dsimp only
       refine if_neg ?_
       rintro ⟨h',e1,e2⟩
       cases e1
       rw[er] at e2
       have:=V.str.inj (List.cons.inj e2).1
       exact absurd this (by decide +kernel)
      rw[← this]
      exact k
   | _::_::_::_,k,e4,hfl=>simp at hfl;omega
end
noncomputable def isKept (cs:List Int) (cell:Int) (h:Hm):Bool:=decide (h.w="keeps"∧h.cell 1=cell∧rd cs (h.cell 0)=h.bit 0)
noncomputable def yis (hs:List Hm) (cs:List Int) (cell bit:Int):Int:=match hs.find? (isKept cs cell) with|some h=>h.bit 1|none=>bit
noncomputable def yiq (hs:List Hm) (cell:Int) (cs:List Int) (h:Hm):List Int:=
 if (h.w="turns"∨h.w="sets"∨h.w="keeps")∧h.cell 0=cell∧h.bit 0=rd cs cell then putM hs cs (h.cell 1) (if h.w="turns" then 1-rd cs (h.cell 1) else h.bit 1) else cs
theorem qkn (hs:List Hm) (c:Int) (cs:List Int) (h:Hm):(yiq hs c cs h).length=cs.length:=by
 unfold yiq
 split
 ·exact qc9 _ _ _ _
 ·rfl
noncomputable def actN (hs l:List Hm) (cell:Int) (cs:List Int):List Int:=l.foldl (yiq hs cell) cs
theorem qjp (hs l:List Hm) (c:Int) (cs:List Int):(actN hs l c cs).length=cs.length:=by
 induction l generalizing cs with
 | nil=>rfl
 | cons a l ih=>exact (ih _).trans (qkn _ _ _ _)
theorem qll {h:Hm}{a b:Int}{x y:Bool} (hc:h.c=[a,b]) (hr:h.r=[.int (b2i x),.int (b2i y)]):hV h=[.str h.w,.int (h.cell 0),.int (h.cell 1),.int (h.bit 0),.int (h.bit 1)]:=by
 unfold hV Hm.cell Hm.bit
 rw[hc,hr]
 rfl
theorem three_at {h:Hm}{a b:Int}{x:Bool} (hc:h.c=[a,b]) (hr:h.r=[.int (b2i x)]):hV h=[.str h.w,.int (h.cell 0),.int (h.cell 1),.int (h.bit 0)]:=by
 unfold hV Hm.cell Hm.bit
 rw[hc,hr]
 rfl
section
variable {P:Program}{w:World}{K:PySem.W.Frag}{mg:Str→Option Value}{base:Heap}
noncomputable def yga:Sp:=fun vs H Q _=>∃ L C us hs cs cell bit,vs=[.ref L,.ref C,.int cell,.int bit]∧Mem H L C us hs cs∧InR hs cs.length∧Q (.int (yis hs cs cell bit)) H
noncomputable abbrev qd0:Stmt:=top 52
theorem qgo:FnScope ["harms","cells","cell","bit","harm"] ["harms","cells","cell","bit"] (yac qd0):=⟨rfl,rfl,rfl,by decide +kernel,rfl,by decide +kernel,by decide +kernel⟩
theorem yi9 (F:FnAt K mg "kept_bit" qd0 ["harms","cells","cell","bit"]):Has P w K mg base 1 "kept_bit" ["harms","cells","cell","bit"] yga:=by
 refine Has.of F qgo (fun vs H Q E h=>?_) (fun f cdv A outer s H vs Q E hr h=>?_)
 ·obtain ⟨L,C,us,hs,cs,cell,bit,rfl,_⟩:=h
  rfl
 ·obtain ⟨L,C,us,hs,cs,cell,bit,rfl,m,hi,k⟩:=h
  have sc:=qgo
  refine ⟨_,(yah (yci PassesOwn.never rfl (qbo (pv 0)) (qak (i:=4) sc.nd rfl (Or.inl rfl))
    (yaf (qbu (PW.pt (qcm (qao qa6 (yan yap (pv 4) qac (fun _ _=>rfl)) yaj (qaj _)) (qcm (qao qa6 (yan yap (pv 4) qac (fun _ _=>rfl)) (pv 2) (qaj _)) (qci (qao qa6 (yan qai (pv 1) (yan yap (pv 4) qac (fun _ _=>rfl)) (fun _ _=>rfl)) (yan yap (pv 4) qac (fun _ _=>rfl)) (qaj _))))))
     (yaf (qat (yan yap (pv 4) qac (fun _ _=>rfl))))
     yav)))
   (yaf (qat (pv 3)))),?_⟩
  refine ⟨_,rfl,L,rfl,⟨us,SqL.of m.hl⟩,ybj (xs:=us) (fun i σ H2=>∃ (o2:Option V),σ=[some (.ref L),some (.ref C),some (.int cell),some (.int bit),o2]∧H2=H∧(hs.take i).find? (isKept cs cell)=none)
   ⟨none,rfl,rfl,rfl⟩ (fun i σ H2 _ ⟨_,_,h,_⟩=>by subst h;exact SqL.of m.hl) ?_ ?_⟩
  ·rintro i x σ H2 hx ⟨o2,rfl,rfl,hn⟩
   obtain ⟨g,hg,a,rfl,ha⟩:=m.hv.get hx
   have hgm:=List.mem_of_getElem? hg
   obtain ⟨ns,og⟩:=m.ok g hgm
   obtain ⟨f1,f2⟩:=qei hn hg
   refine ⟨_,rfl,a,_,_,_,rfl,rfl,SqT.of ha,yad 0 rfl,rfl,_,rfl,?_⟩
   rw[dS]
   by_cases hw:g.w="keeps"
   ·refine iteD hw ?_
    obtain ⟨c1,c2,x1,x2,ec,er⟩:=og.sSets (qfr (.inr hw))
    rw[qll ec er] at ha
    have c0:=hi.c0 hgm og
    refine ⟨_,rfl,a,_,_,_,rfl,rfl,SqT.of ha,yad 2 rfl,_,rfl,rfl,_,rfl,?_⟩
    rw[dI]
    by_cases hc:g.cell 1=cell
    ·refine iteD hc ?_
     refine ⟨_,rfl,_,rfl,a,_,_,_,rfl,rfl,SqT.of ha,yad 1 rfl,C,_,_,_,rfl,rfl,SqL.of m.hc,yhh c0.1 c0.2,?_⟩
     refine ⟨_,rfl,a,_,_,_,rfl,rfl,SqT.of ha,yad 3 rfl,rfl,_,rfl,?_⟩
     rw[dI]
     by_cases hb:rd cs (g.cell 0)=g.bit 0
     ·refine iteD hb ?_
      refine ⟨_,rfl,a,_,_,_,rfl,rfl,SqT.of ha,yad 4 rfl,?_⟩
      unfold yis at k
      rw[f1 (decide_eq_true ⟨hw,hc,hb⟩)] at k
      exact k
     ·refine ybe hb ?_
      exact ⟨_,rfl,rfl,f2 (decide_eq_false (fun z=>hb z.2.2))⟩
    ·refine ybe hc ?_
     exact ⟨_,rfl,rfl,f2 (decide_eq_false (fun z=>hc z.2.1))⟩
   ·refine ybe hw ?_
    exact ⟨_,rfl,rfl,f2 (decide_eq_false (fun z=>hw z.1))⟩
  ·rintro σ H2 ⟨o2,rfl,rfl,hn⟩
   rw[m.hv.len,List.take_length] at hn
   unfold yis at k
   rw[hn] at k
   exact ⟨_,rfl,k⟩
noncomputable def qdg:Sp:=fun vs H Q _=>∃ L C us hs cs cell,vs=[.ref L,.ref C,.int cell]∧Mem H L C us hs cs∧InR hs cs.length∧0≤cell∧cell<cs.length∧∀ H',UpC H C (actN hs hs cell cs) H'→Q .non H'
noncomputable abbrev qbw:Stmt:=top 53
theorem qdf:FnScope ["harms","cells","cell","harm"] ["harms","cells","cell"] (yac qbw):=⟨rfl,rfl,rfl,by decide +kernel,rfl,by decide +kernel,by decide +kernel⟩
theorem qfl (qiw:Has P w K mg base 2 "put" ["harms","cells","cell","bit"] yia) (F:FnAt K mg "act_on_others" qbw ["harms","cells","cell"]):Has P w K mg base 3 "act_on_others" ["harms","cells","cell"] qdg:=by
 refine Has.of F qdf (fun vs H Q E h=>?_) (fun f cdv A outer s H vs Q E hr h=>?_)
 ·obtain ⟨L,C,us,hs,cs,cell,rfl,_⟩:=h
  rfl
 ·obtain ⟨L,C,us,hs,cs,cell,rfl,m,hi,h0,h1,k⟩:=h
  have sc:=qdf
  refine ⟨_,(yaf (yci PassesOwn.never rfl (qbo (pv 0)) (qak (i:=3) sc.nd rfl (Or.inl rfl))
    (yaf (qbu (PW.pt (qcm (qao qbr (yan yap (pv 3) qac (fun _ _=>rfl)) (qce (qaa yaj (qaa yaj (qaa yaj yab)))) (by with_unfolding_all rfl)) (qcm (qao qa6 (yan yap (pv 3) qac (fun _ _=>rfl)) (pv 2) (qaj _)) (qci (qao qa6 (yan yap (pv 3) qac (fun _ _=>rfl)) (yan qai (pv 1) (pv 2) (fun _ _=>rfl)) (qaj _))))))
     (yaf (ybt (qah qiw hr (qbv (pv 0) (qbv (pv 1) (qaa (yan yap (pv 3) qac (fun _ _=>rfl)) (qaa (yeu (qao qa6 (yan yap (pv 3) qac (fun _ _=>rfl)) yaj (qaj _)) (qa7 qh6 qac (yan qai (pv 1) (yan yap (pv 3) qac (fun _ _=>rfl)) (fun _ _=>rfl))) (yan yap (pv 3) qac (fun _ _=>rfl))) yab)))))))
     yav)))),?_⟩
  refine ⟨_,rfl,L,rfl,⟨us,SqL.of m.hl⟩,ybj (xs:=us) (fun i σ H2=>∃ (o2:Option V),σ=[some (.ref L),some (.ref C),some (.int cell),o2]∧UpC H C (actN hs (hs.take i) cell cs) H2)
   ⟨none,rfl,UpC.of (Same.refl H) m.hc⟩ (fun i σ H2 _ ⟨_,_,u⟩=>SqL.of (u.st _ _ m.ne m.hl)) ?_ ?_⟩
  ·rintro i x σ H2 hx ⟨o2,rfl,u2⟩
   have m2:=m.upC u2
   have hlen:=qjp hs (hs.take i) cell cs
   have step:∀ g,hs[i]?=some g→actN hs (hs.take (i+1)) cell cs=yiq hs cell (actN hs (hs.take i) cell cs) g:=fun g hg=>yeg _ _ hg
   revert u2 m2 hlen step
   generalize actN hs (hs.take i) cell cs=ds
   intro u2 m2 hlen step
   obtain ⟨g,hg,a,rfl,ha⟩:=m2.hv.get hx
   have hgm:=List.mem_of_getElem? hg
   obtain ⟨ns,og⟩:=m.ok g hgm
   rw[step g hg]
   unfold yiq
   refine ⟨_,rfl,a,_,_,_,rfl,rfl,SqT.of ha,yad 0 rfl,(by show 3≤sizeLine;decide),fun p hp=>⟨p,_,rfl,.inr (SqT.of yaa),rfl,rfl,_,rfl,?_⟩⟩
   rw[in3]
   have s3:Same H2 (upd H2 p (.tup [.str "turns",.str "sets",.str "keeps"])):=(Same.refl H2).upd hp
   revert s3
   generalize upd H2 p (.tup [.str "turns",.str "sets",.str "keeps"])=H3
   intro s3
   have u3:=u2.same s3
   have m3:=m2.same s3
   have ha3:=s3 _ _ ha
   by_cases hw:g.w="turns"∨g.w="sets"∨g.w="keeps"
   ·refine iteD hw ?_
    have two:∃ a b l,g.c=[a,b]∧hV g=.str g.w :: .int (g.cell 0) :: .int (g.cell 1) :: .int (g.bit 0)::l∧(g.w≠"turns"→l=[.int (g.bit 1)]):=by
     rcases hw with hw|hw
     ·obtain ⟨a,b,x,ec,er⟩:=og.sTurns (hw ▸ qij)
      exact ⟨a,b,[],ec,three_at ec er,fun z=>absurd hw z⟩
     ·obtain ⟨a,b,x,y,ec,er⟩:=og.sSets (qfr hw)
      exact ⟨a,b,_,ec,qll ec er,fun _=>rfl⟩
    obtain ⟨a1,b1,l,ec,ht,hl⟩:=two
    rw[ht] at ha3
    have c1:=hi.c1 hgm ec
    refine ⟨_,rfl,a,_,_,_,rfl,rfl,SqT.of ha3,yad 1 rfl,_,rfl,rfl,_,rfl,?_⟩
    rw[dI]
    by_cases hc:g.cell 0=cell
    ·refine iteD hc ?_
     refine ⟨_,rfl,a,_,_,_,rfl,rfl,SqT.of ha3,yad 3 rfl,_,rfl,_,rfl,C,_,_,_,rfl,rfl,SqL.of m3.hc,yhh h0 (by omega),rfl,_,rfl,?_⟩
     rw[dI]
     by_cases hb:g.bit 0=rd ds cell
     ·refine iteD hb ?_
      rw[if_pos ⟨hw,hc,hb⟩]
      have fin:∀ bit,(∃ o2,[some (V.ref L),some (.ref C),some (.int cell),some (.ref a)]=[some (V.ref L),some (.ref C),some (.int cell),o2]∧UpC H C (putM hs ds (g.cell 1) bit) (upd H3 C (.lst ((putM hs ds (g.cell 1) bit).map V.int)))):=fun bit=>⟨_,rfl,u3.trans UpC.put⟩
      refine ⟨_,rfl,_,rfl,_,rfl,a,_,_,_,rfl,rfl,SqT.of ha3,yad 2 rfl,_,rfl,a,_,_,_,rfl,rfl,SqT.of ha3,yad 0 rfl,rfl,_,rfl,?_⟩
      rw[dS]
      by_cases ht:g.w="turns"
      ·refine iteD ht ?_
       rw[if_pos ht]
       refine ⟨_,rfl,_,rfl,a,_,_,_,rfl,rfl,SqT.of ha3,yad 2 rfl,C,_,_,_,rfl,rfl,SqL.of m3.hc,yhh c1.1 (by omega),_,_,rfl,rfl,L,C,us,hs,ds,g.cell 1,_,rfl,m3,c1.1,by omega,?_⟩
       exact fin _
      ·refine ybe ht ?_
       rw[if_neg ht]
       rw[hl ht] at ha3
       refine ⟨_,rfl,a,_,_,_,rfl,rfl,SqT.of ha3,yad 4 rfl,L,C,us,hs,ds,g.cell 1,_,rfl,m3,c1.1,by omega,?_⟩
       exact fin _
     ·refine ybe hb ?_
      rw[if_neg (fun z=>hb z.2.2)]
      exact ⟨_,rfl,u3⟩
    ·refine ybe hc ?_
     rw[if_neg (fun z=>hc z.2.1)]
     exact ⟨_,rfl,u3⟩
   ·refine ybe hw ?_
    rw[if_neg (fun z=>hw z.1)]
    exact ⟨_,rfl,u3⟩
  ·rintro σ H2 ⟨o2,rfl,u2⟩
   rw[m.hv.len,List.take_length] at u2
   exact k H2 u2
end
theorem qip {s:Str}{x:List V}:∀ {D:List (Str×List V)},KTD.datumAt s D=some x→s∈D.map (·.1)
 | [],h=>by simp[KTD.datumAt] at h
 | (k,y)::D,h=>by
  unfold KTD.datumAt at h
  by_cases e:s=k
  ·subst e;simp
  ·simp[e] at h
   have:=qip h
   simp at this ⊢
   exact .inr this
theorem words_ok:∀ s∈tabP.map (·.1),PyData.canLay0 (.str s)=true:=by decide +kernel
theorem Rest.fl {ns:List Str}{vs:List V} (h:Rest ns vs):Fl vs:=by
 induction h with
 | nil=>exact ⟨rfl,rfl⟩
 | bit hb _ ih=>
  obtain ⟨b,rfl⟩:=hb
  exact ⟨by rw[List.all_cons];exact ih.1,by simpa [PyData.canLayAll0,dOf,PyData.canLay0] using ih.2⟩
 | how hb _ ih=>
  have e:PyData.canLay0 (.str "and")=true∧PyData.canLay0 (.str "or")=true:=by decide +kernel
  rcases hb with rfl|rfl
  ·exact ⟨by rw[List.all_cons];exact ih.1,by simp only[List.map_cons,PyData.canLayAll0,dOf,e.1,Bool.true_and];exact ih.2⟩
  ·exact ⟨by rw[List.all_cons];exact ih.1,by simp only[List.map_cons,PyData.canLayAll0,dOf,e.2,Bool.true_and];exact ih.2⟩
theorem fl_ints (l:List Int) {vs:List V} (h:Fl vs):Fl (l.map V.int++vs):=by
 induction l with
 | nil=>exact h
 | cons a l ih=>exact ⟨by show (V.int a::(l.map V.int++vs)).all qdm=true;rw[List.all_cons];exact ih.1,by simpa [PyData.canLayAll0,dOf,PyData.canLay0] using ih.2⟩
theorem okH.fl {h:Hm}{ns:List Str} (o:okH h ns):Fl (hV h):=by
 have f:=fl_ints h.c o.rest.fl
 unfold hV
 refine ⟨by rw[List.all_cons];exact f.1,?_⟩
 simp only[List.map_cons,PyData.canLayAll0,dOf,words_ok _ (qip o.tab),Bool.true_and]
 exact f.2
noncomputable def yj3 (cell bit:Int) (h:Hm):Bool:=decide (h.w="slow"∧h.cell 0=cell∧h.bit 0=bit)
theorem slow_eq {h:Hm}{ns:List Str} (o:okH h ns) (cell bit:Int):PyData.eqvAll ((hV h).map dOf) (([.str "slow",.int cell,.int bit]:List V).map dOf)=yj3 cell bit h:=by
 unfold yj3
 by_cases hw:h.w="slow"
 ·obtain ⟨a,b,ec,er⟩:=o.s1 (yek (by simp[hw]))
  rw[qkv ec er,hw,Bool.eq_iff_iff]
  simp[PyData.eqvAll,PyData.eqv,dOf]
 ·rw[decide_eq_false (fun z=>hw z.1)]
  unfold hV
  simp[PyData.eqvAll,PyData.eqv,dOf,hw]
theorem HsV.any {H:Hp}{us:List V}{hs:List Hm} (x:HsV H us hs) {f:V→Bool}{g:Hm→Bool} (e:∀ h∈hs,∀ v,HAt H v h→f v=g h):us.any f=hs.any g:=by
 rw[Bool.eq_iff_iff,List.any_eq_true,List.any_eq_true]
 constructor
 ·rintro ⟨v,hv,hf⟩
  obtain ⟨i,hi⟩:=List.getElem?_of_mem hv
  obtain ⟨h,hh,ha⟩:=x.get hi
  exact ⟨h,List.mem_of_getElem? hh,by rw[← e h (List.mem_of_getElem? hh) v ha];exact hf⟩
 ·rintro ⟨h,hh,hg⟩
  obtain ⟨i,hi⟩:=List.getElem?_of_mem hh
  have hil:i<us.length:=by rw[x.len];exact (List.getElem?_eq_some_iff.mp hi).1
  have ha:=x.at_ i _ h (List.getElem?_eq_getElem hil) hi
  exact ⟨_,List.getElem_mem hil,by rw[e h hh _ ha];exact hg⟩
theorem HsV.tups {H:Hp}{us:List V}{hs:List Hm} (x:HsV H us hs) (ok:Oks hs):∀ v∈us,∃ a ys,v=.ref a∧H a=some (.tup ys)∧Fl ys:=by
 intro v hv
 obtain ⟨i,hi⟩:=List.getElem?_of_mem hv
 obtain ⟨h,hh,a,rfl,ha⟩:=x.get hi
 obtain ⟨ns,o⟩:=ok h (List.mem_of_getElem? hh)
 exact ⟨a,_,rfl,ha,o.fl⟩
theorem fl_slow (cell bit:Int):Fl [.str "slow",.int cell,.int bit]:=by
 have e:PyData.canLay0 (.str "slow")=true:=by decide +kernel
 exact ⟨rfl,by simp only[List.map_cons,List.map_nil,PyData.canLayAll0,dOf,e];rfl⟩
noncomputable def slowB (hs:List Hm) (cs:List Int) (cell bit:Int):Bool:=decide (rd cs cell≠bit)&&hs.any (yj3 cell bit)
section
variable {P:Program}{w:World}{K:PySem.W.Frag}{mg:Str→Option Value}{base:Heap}
noncomputable def qhb:Sp:=fun vs H Q _=>∃ L C us hs cs cell bit,vs=[.ref L,.ref C,.int cell,.int bit]∧Mem H L C us hs cs∧0≤cell∧cell<cs.length∧∀ H',Same H H'→Q (.bl (slowB hs cs cell bit)) H'
noncomputable abbrev yev:Stmt:=top 51
theorem yg5:FnScope ["harms","cells","cell","bit"] ["harms","cells","cell","bit"] (yac yev):=⟨rfl,rfl,rfl,by decide +kernel,rfl,by decide +kernel,by decide +kernel⟩
theorem ykl (F:FnAt K mg "is_slow" yev ["harms","cells","cell","bit"]):Has P w K mg base 1 "is_slow" ["harms","cells","cell","bit"] qhb:=by
 refine Has.of F yg5 (fun vs H Q E h=>?_) (fun f cdv A outer s H vs Q E hr h=>?_)
 ·obtain ⟨L,C,us,hs,cs,cell,bit,rfl,_⟩:=h
  rfl
 ·obtain ⟨L,C,us,hs,cs,cell,bit,rfl,m,h0,h1,k⟩:=h
  have sc:=yg5
  refine ⟨_,(yaf (qat (qax (qau qgx (yan qai (pv 1) (pv 2) (fun _ _=>rfl)) (pv 3) (qaj _)) (qbn (qau (op_inT hr) (qce (qaa yaj (qaa (pv 2) (qaa (pv 3) yab)))) (pv 0) (by with_unfolding_all rfl)))))),?_⟩
  refine ⟨_,rfl,_,rfl,C,_,_,_,rfl,rfl,SqL.of m.hc,yhh h0 h1,_,rfl,rfl,_,rfl,?_⟩
  rw[dI]
  unfold slowB at k
  by_cases hb:rd cs cell=bit
  ·refine iteN (by simp[hb]) ?_
   have:=k H (Same.refl H)
   simp[hb] at this
   exact this
  ·refine iteB (by simp[hb]) ?_
   refine ⟨_,rfl,_,rfl,(by show 3≤sizeLine;decide),fun p hp=>⟨_,rfl,?_⟩⟩
   have s2:Same H (upd H p (.tup [.str "slow",.int cell,.int bit])):=(Same.refl H).upd hp
   have e2:upd H p (.tup [.str "slow",.int cell,.int bit]) p=some (.tup [.str "slow",.int cell,.int bit]):=yaa
   revert s2 e2
   generalize upd H p (.tup [.str "slow",.int cell,.int bit])=H2
   intro s2 e2
   have m2:=m.same s2
   refine ⟨p,_,L,us,rfl,e2,fl_slow _ _,rfl,m2.hl,m2.hv.tups m2.ok,?_⟩
   rw[m2.hv.any (g:=yj3 cell bit) (fun h hh v hv=>by
    obtain ⟨a,rfl,ha⟩:=hv
    obtain ⟨ns,o⟩:=m2.ok h hh
    unfold tEq
    dsimp only
    rw[ha]
    exact slow_eq o cell bit)]
   have:=k H2 s2
   simp[hb] at this
   exact this
end
noncomputable def yhy (hs:List Hm) (cs:List Int) (cell bit:Int):List Int:=
 if slowB hs cs cell bit=true then cs
 else if rd (putM hs cs cell (yis hs cs cell bit)) cell=rd cs cell then putM hs cs cell (yis hs cs cell bit)
 else actN hs hs cell (putM hs cs cell (yis hs cs cell bit))
theorem yj7 (hs:List Hm) (cs:List Int) (c b:Int):(yhy hs cs c b).length=cs.length:=by
 unfold yhy
 split
 ·rfl
 ·split
  ·exact qc9 _ _ _ _
  ·exact (qjp _ _ _ _).trans (qc9 _ _ _ _)
noncomputable def yhk (hs:List Hm) (bit:Int) (l cs:List Int):List Int:=l.foldl (fun cs c=>yhy hs cs c bit) cs
theorem ygt (hs:List Hm) (b:Int) (l cs:List Int):(yhk hs b l cs).length=cs.length:=by
 induction l generalizing cs with
 | nil=>rfl
 | cons a l ih=>exact (ih _).trans (yj7 _ _ _ _)
noncomputable def qe0 (hs:List Hm) (cs:List Int) (a bit:Int):List Int:=yhk hs bit (qdp (yct hs a) a) cs
section
variable {P:Program}{w:World}{K:PySem.W.Frag}{mg:Str→Option Value}{base:Heap}
noncomputable def yel:Sp:=fun vs H Q _=>∃ L C us hs cs cell bit,vs=[.ref L,.ref C,.int cell,.int bit]∧Mem H L C us hs cs∧InR hs cs.length∧0≤cell∧cell<cs.length∧∀ H',UpC H C (yhy hs cs cell bit) H'→Q .non H'
noncomputable abbrev qcq:Stmt:=top 54
theorem yem:FnScope ["harms","cells","cell","bit","held"] ["harms","cells","cell","bit"] (yac qcq):=⟨rfl,rfl,rfl,by decide +kernel,rfl,by decide +kernel,by decide +kernel⟩
theorem qhr (qmi:Has P w K mg base 1 "is_slow" ["harms","cells","cell","bit"] qhb) (qiw:Has P w K mg base 2 "put" ["harms","cells","cell","bit"] yia) (qj8:Has P w K mg base 1 "kept_bit" ["harms","cells","cell","bit"] yga) (qf8:Has P w K mg base 3 "act_on_others" ["harms","cells","cell"] qdg) (F:FnAt K mg "write_cell" qcq ["harms","cells","cell","bit"]):Has P w K mg base 4 "write_cell" ["harms","cells","cell","bit"] yel:=by
 refine Has.of F yem (fun vs H Q E h=>?_) (fun f cdv A outer s H vs Q E hr h=>?_)
 ·obtain ⟨L,C,us,hs,cs,cell,bit,rfl,_⟩:=h
  rfl
 ·obtain ⟨L,C,us,hs,cs,cell,bit,rfl,m,hi,h0,h1,k⟩:=h
  have sc:=yem
  refine ⟨_,(yah (qbu (qco (qah qmi hr (qbv (pv 0) (qbv (pv 1) (qbv (pv 2) (qbv (pv 3) yab))))))
    (yaf ps_retN)
    yav)
   (yah (qa2 (i:=4) sc.nd rfl (Or.inl rfl) (yan qai (pv 1) (pv 2) (fun _ _=>rfl)))
   (yah (ybt (qah qiw hr (qbv (pv 0) (qbv (pv 1) (qbv (pv 2) (yef (qah qj8 hr (qbv (pv 0) (qbv (pv 1) (qbv (pv 2) (qbv (pv 3) yab))))) yab))))))
   (yaf (qbu (qao qgx (yan qai (pv 1) (pv 2) (fun _ _=>rfl)) (pv 4) (qaj _))
    (yaf (ybt (qah qf8 hr (qaa (pv 0) (qaa (pv 1) (qaa (pv 2) yab))))))
    yav))))),?_⟩
  refine ⟨_,rfl,_,rfl,_,rfl,_,rfl,L,C,us,hs,cs,cell,bit,rfl,m,h0,h1,fun H1 s1=>⟨_,rfl,?_⟩⟩
  unfold yhy at k
  by_cases hsl:slowB hs cs cell bit=true
  ·refine iteB hsl ?_
   rw[if_pos hsl] at k
   exact k H1 (UpC.of s1 m.hc)
  refine iteN (by simpa using hsl) ?_
  rw[if_neg hsl] at k
  have m1:=m.same s1
  refine ⟨_,rfl,_,rfl,C,_,_,_,rfl,rfl,SqL.of m1.hc,yhh h0 h1,?_⟩
  refine ⟨_,rfl,_,rfl,_,rfl,_,rfl,_,rfl,_,rfl,_,rfl,L,C,us,hs,cs,cell,bit,rfl,m1,hi,?_⟩
  refine ⟨L,C,us,hs,cs,cell,_,rfl,m1,h0,h1,?_⟩
  have hl:=qc9 hs cs cell (yis hs cs cell bit)
  revert k hl
  generalize putM hs cs cell (yis hs cs cell bit)=ds
  intro k hl
  have u2:UpC H1 C ds (upd H1 C (.lst (ds.map V.int))):=UpC.put
  revert u2
  generalize upd H1 C (.lst (ds.map V.int))=H2
  intro u2
  have u:UpC H C ds H2:=(UpC.of s1 m.hc).trans u2
  have m2:=m.upC u
  refine ⟨_,rfl,_,rfl,C,_,_,_,rfl,rfl,SqL.of m2.hc,yhh h0 (by omega),_,rfl,rfl,_,rfl,?_⟩
  rw[dI]
  by_cases hb:rd ds cell=rd cs cell
  ·refine iteN (by simp[hb]) ?_
   rw[if_pos hb] at k
   exact k H2 u
  ·refine iteB (by simp[hb]) ?_
   rw[if_neg hb] at k
   refine ⟨_,rfl,_,rfl,_,rfl,L,C,us,hs,ds,cell,rfl,m2,by rw[hl];exact hi,h0,by omega,fun H3 u3=>?_⟩
   exact k H3 (u.trans u3)
noncomputable def qge:Sp:=fun vs H Q _=>∃ L C us hs cs a bit,vs=[.ref L,.ref C,.int a,.int bit]∧Mem H L C us hs cs∧InR hs cs.length∧0≤a∧a<cs.length∧∀ H',UpC H C (qe0 hs cs a bit) H'→Q .non H'
noncomputable abbrev yd0:Stmt:=top 55
theorem qgm:FnScope ["harms","cells","address","bit","cell"] ["harms","cells","address","bit"] (yac yd0):=⟨rfl,rfl,rfl,by decide +kernel,rfl,by decide +kernel,by decide +kernel⟩
theorem qi2 (qb2:Has P w K mg base 1 "harm_of_address" ["harms","address"] yby) (qcg:Has P w K mg base 1 "reached_cells" ["harm","address"] qb7) (qif:Has P w K mg base 4 "write_cell" ["harms","cells","cell","bit"] yel) (F:FnAt K mg "write_at" yd0 ["harms","cells","address","bit"]):Has P w K mg base 5 "write_at" ["harms","cells","address","bit"] qge:=by
 refine Has.of F qgm (fun vs H Q E h=>?_) (fun f cdv A outer s H vs Q E hr h=>?_)
 ·obtain ⟨L,C,us,hs,cs,a,bit,rfl,_⟩:=h
  rfl
 ·obtain ⟨L,C,us,hs,cs,ad,bit,rfl,m,hi,h0,h1,k⟩:=h
  have sc:=qgm
  refine ⟨_,(yaf (yci PassesOwn.never rfl (qbo (qah qcg hr (qaa (qah qb2 hr (qaa (pv 0) (qaa (pv 2) yab))) (qaa (pv 2) yab)))) (qak (i:=4) sc.nd rfl (Or.inl rfl))
    (yaf (ybt (qah qif hr (qbv (pv 0) (qbv (pv 1) (qbv (pv 4) (qbv (pv 3) yab))))))))),?_⟩
  refine ⟨_,rfl,_,rfl,L,us,hs,ad,rfl,m.hl,m.hv,m.ok,fun v H1 s1 hv=>?_⟩
  have kp:∀ h,yct hs ad=some h→(h.w="nowhere"∨h.w="other"∨h.w="both")∧∃ ns,okH h ns:=fun h e=>⟨(qc1 e).2.1,m.ok h (qc1 e).1⟩
  refine ⟨_,rfl,v,yct hs ad,ad,rfl,hv.same s1,kp,fun D H3 s3 hD eD=>?_⟩
  have hD0:H D=none:=s1.free hD
  have nCD:C≠D:=yae m.hc hD0
  have hin:=qjr hi m.ok h0 h1
  unfold qe0 at k
  revert k hin eD
  generalize hrc:qdp (yct hs ad) ad=rc
  intro k eD hin
  refine ⟨D,rfl,⟨_,SqL.of eD⟩,ybj (xs:=rc.map V.int) (fun i σ H4=>∃ (o5:Option V),σ=[some (.ref L),some (.ref C),some (.int ad),some (.int bit),o5]∧UpC H C (yhk hs bit (rc.take i) cs) H4∧H4 D=some (.lst (rc.map V.int)))
   ⟨none,rfl,UpC.of (s1.trans s3) m.hc,eD⟩ (fun i σ H4 _ ⟨_,_,_,h⟩=>SqL.of h) ?_ ?_⟩
  ·rintro i x σ H4 hx ⟨o5,rfl,u4,d4⟩
   obtain ⟨c,hc,rfl⟩:=qby hx
   have hci:=hin c (List.mem_of_getElem? hc)
   have m4:=m.upC u4
   have hl:=ygt hs bit (rc.take i) cs
   refine ⟨_,rfl,_,rfl,_,rfl,_,rfl,L,C,us,hs,_,c,bit,rfl,m4,by rw[hl];exact hi,hci.1,by rw[hl];exact hci.2,fun H5 u5=>?_⟩
   refine ⟨_,rfl,?_,u5.st D _ nCD.symm d4⟩
   unfold yhk
   rw[yeg _ _ hc]
   exact u4.trans u5
  ·rintro σ H4 ⟨o5,rfl,u4,d4⟩
   rw[List.length_map,List.take_length] at u4
   exact k H4 u4
end
noncomputable def bits (cs:List Int):Prop:=∀ c∈cs,∃ b,c=b2i b
section
variable {P:Program}{w:World}{K:PySem.W.Frag}{mg:Str→Option Value}{base:Heap}
noncomputable def qha:Sp:=fun vs H Q _=>∃ n:Int,vs=[.int n]∧1≤n∧n≤64∧Q (.bl true) H
noncomputable abbrev qdl:Stmt:=top 58
theorem qdx:FnScope ["thing"] ["thing"] (yac qdl):=⟨rfl,rfl,rfl,by decide +kernel,rfl,by decide +kernel,by decide +kernel⟩
theorem ykg (ybh:∃ t,mg "MOST_CELLS" = some (.int 64 t)) (ya0:Has P w K mg base 1 "is_whole" ["thing"] qcf) (F:FnAt K mg "is_size" qdl ["thing"]):Has P w K mg base 2 "is_size" ["thing"] qha:=by
 refine Has.of F qdx (fun vs H Q E h=>?_) (fun f cdv A outer s H vs Q E hr h=>?_)
 ·obtain ⟨x,rfl,_⟩:=h
  rfl
 ·obtain ⟨x,rfl,h0,h1,k⟩:=h
  have sc:=qdx
  refine ⟨_,(yaf (qat (qax (qah ya0 hr (qaa (pv 0) yab)) (qax (qau qig (pv 0) qac (qaj _)) (qbn (qau op_le (pv 0) (qct ybh) (qaj _))))))),?_⟩
  refine ⟨_,rfl,x,rfl,_,rfl,iteT ?_⟩
  refine ⟨_,rfl,_,_,rfl,rfl,_,rfl,iteD (by omega) ?_⟩
  refine ⟨_,rfl,_,_,rfl,rfl,?_⟩
  show Q (.bl (decide (x≤64))) H
  rw[decide_eq_true h1]
  exact k
noncomputable def qdv:Sp:=fun vs H Q _=>∃ C cs,vs=[.ref C,.int (cs.length:Nat)]∧H C=some (.lst (cs.map V.int))∧bits cs∧cs.length≤64∧∀ H',Same H H'→Q (.bl true) H'
noncomputable abbrev ybp:Stmt:=top 59
theorem ybw:FnScope ["thing","size"] ["thing","size"] (yac ybp):=⟨rfl,rfl,rfl,by decide +kernel,rfl,by decide +kernel,by decide +kernel⟩
theorem ygf (B:Bl mg) (qd9:mg "all" = none) (qbx:Has P w K mg base 2 "is_bit" ["thing"] qev) (F:FnAt K mg "are_contents" ybp ["thing","size"]):Has P w K mg base 3 "are_contents" ["thing","size"] qdv:=by
 refine Has.of F ybw (fun vs H Q E h=>?_) (fun f cdv A outer s H vs Q E hr h=>?_)
 ·obtain ⟨C,cs,rfl,_⟩:=h
  rfl
 ·obtain ⟨C,cs,rfl,hC,hb,hl,k⟩:=h
  have sc:=ybw
  refine ⟨_,(yaf (qat (qax (qae qa3 rfl (B.of rfl) boot_isinstance (qaa (pv 0) (qaa (qbb (v:=.ty "list") rfl (B.of rfl) boot_list rfl) yab))) (qax (qau qa6 (qae yag rfl (B.of rfl) boot_len (qaa (pv 0) yab)) (pv 1) (qaj _)) (qbn (qae (ydl rfl) rfl qd9 yds (qaa (yce rfl (qa8 rfl) (M:=["part"]) (ix:=[none]) (qbo (pv 0)) (fun _ _ _ _=>(qak (i:=0) (show List.Nodup (["part"]:List Str) by decide +kernel) rfl (Or.inl rfl))) (fun _ _ _ _=>yda) (fun _ _ _ _=>(qah qbx hr (qaa (pv 0) yab)))) yab))))))),?_⟩
  refine ⟨_,rfl,_,_,_,_,rfl,.lst hC,rfl,_,rfl,iteT ?_⟩
  refine ⟨_,rfl,C,_,rfl,.inl (SqL.of hC),_,rfl,rfl,_,rfl,iteD (by rw[List.length_map]) ?_⟩
  refine ⟨_,rfl,C,rfl,⟨_,SqL.of hC⟩,fun D hD=>qda (n:=cs.length) (fun i H'=>Same H H'∧H' D=some (.lst ((List.replicate i true).map V.bl))) ⟨(Same.refl H).upd hD,yaa⟩ ?_ ?_⟩
  ·rintro H3 ⟨s3,e3⟩
   refine ⟨⟨_,SqL.of (s3 _ _ hC),by simp⟩,?_⟩
   refine ⟨D,_,rfl,e3,?_⟩
   rw[show (List.replicate cs.length true).all id=true by simp]
   exact k _ s3
  ·rintro i H3 hi ⟨s3,e3⟩
   refine ⟨⟨_,_,SqL.of (s3 _ _ hC),by rw[List.getElem?_map,List.getElem?_eq_getElem hi];rfl⟩,?_⟩
   rintro x H4 ⟨rfl,hx⟩
   obtain ⟨c,hc,rfl⟩:=qby (hx _ (SqL.of (s3 _ _ hC)))
   obtain ⟨b,rfl⟩:=hb c (List.mem_of_getElem? hc)
   refine ⟨ya6.set (ya6.refl _) rfl,yes ?_⟩
   refine ⟨_,rfl,b,rfl,fun H5 s5=>?_⟩
   refine ⟨_,s5 _ _ e3,qb5 (by rw[List.length_map,List.length_replicate];omega),(s3.trans s5).at hD,?_⟩
   rw[yaa,List.replicate_succ',List.map_append];rfl
noncomputable def ybk:Sp:=fun vs H Q _=>∃ L us hs S C cs,vs=[.int (cs.length:Nat),.ref L,.ref C]∧H L=some (.lst us)∧HsV H us hs∧okHs hs S∧InR hs cs.length∧H C=some (.lst (cs.map V.int))∧bits cs∧1≤cs.length∧cs.length≤64∧∀ H',Same H H'→Q .non H'
noncomputable abbrev qbd:Stmt:=top 60
theorem qbl:FnScope ["size","harms","contents","cells"] ["size","harms","contents"] (yac qbd):=⟨rfl,rfl,rfl,by decide +kernel,rfl,by decide +kernel,by decide +kernel⟩
theorem qex (B:Bl mg) (ye3:Has P w K mg base 7 "cells_of" ["harms"] qgh) (yfy:Has P w K mg base 2 "is_size" ["thing"] qha) (ycs:Has P w K mg base 3 "are_contents" ["thing","size"] qdv) (F:FnAt K mg "look_at_memory" qbd ["size","harms","contents"]):Has P w K mg base 8 "look_at_memory" ["size","harms","contents"] ybk:=by
 refine Has.of F qbl (fun vs H Q E h=>?_) (fun f cdv A outer s H vs Q E hr h=>?_)
 ·obtain ⟨L,us,hs,S,C,cs,rfl,_⟩:=h
  rfl
 ·obtain ⟨L,us,hs,S,C,cs,rfl,hL,hv,ok,hi,hC,hb,hl1,hl2,k⟩:=h
  have sc:=qbl
  refine ⟨_,(yah (qa2 (i:=3) sc.nd rfl (Or.inl rfl) (qah ye3 hr (qaa (pv 1) yab)))
   (yah (qbu (qde (qco (qah yfy hr (qaa (pv 0) yab))))
    (yaf yco)
    yav)
   (yah (qbu (PW.pt (qcm (qao qfk (qae yag rfl (B.of rfl) boot_len (qaa (pv 3) yab)) qac (qaj _)) (qci (qao qig (yan qai (pv 3) (pe_un yjj qac) (fun _ _=>rfl)) (pv 0) (qaj _)))))
    (yaf yco)
    yav)
   (yaf (qbu (qde (qco (qah ycs hr (qaa (pv 2) (qaa (pv 0) yab)))))
    (yaf yco)
    yav))))),?_⟩
  refine ⟨_,rfl,L,us,hs,S,rfl,hL,hv,ok,fun D ns H1 s1 hD eD hpm hso=>?_⟩
  refine ⟨_,rfl,_,rfl,by omega,by omega,_,rfl,iteF ?_⟩
  refine ⟨_,rfl,D,_,rfl,.inl (SqL.of eD),_,_,rfl,rfl,_,rfl,?_⟩
  have fin:∀ (b:Bool),b=true→if (!b)=true then False else True:=by intro b hb;subst hb;simp
  by_cases hn:0<ns.length
  ·refine iteD (by rw[List.length_map];omega) ?_
   obtain ⟨x,hx⟩:∃ x,ns=ns.dropLast++[x]:=⟨ns.getLast (by intro z;rw[z] at hn;simp at hn),(List.dropLast_concat_getLast _).symm⟩
   have hxm:x∈allC hs:=(qfp _ x).mp (hpm.mem_iff.mp (by rw[hx];simp))
   have hx2:x<cs.length:=by
    unfold allC at hxm
    obtain ⟨h,hh,hc⟩:=List.mem_flatMap.mp hxm
    exact (hi h hh x hc).2
   refine ⟨_,rfl,_,rfl,D,_,_,_,rfl,rfl,SqL.of eD,(show atI (ns.map V.int) (-1)=some (.int x) by rw[hx,List.map_append];exact yjq _ _),_,rfl,_,_,rfl,rfl,_,rfl,ybe (by omega) ?_⟩
   refine ⟨_,rfl,_,rfl,C,cs,rfl,s1 _ _ hC,hb,hl2,fun H2 s2=>⟨_,rfl,iteF ?_⟩⟩
   exact k _ (s1.trans s2)
  ·refine ybe (by rw[List.length_map];omega) ?_
   refine ⟨_,rfl,_,rfl,C,cs,rfl,s1 _ _ hC,hb,hl2,fun H2 s2=>⟨_,rfl,iteF ?_⟩⟩
   exact k _ (s1.trans s2)
end
noncomputable def Dig (ds zs:List Int):Prop:=ds.length=zs.length∧∀ (i:Nat) d z,ds[i]?=some d→zs[i]?=some z→0≤d∧d<z
theorem Dig.get {ds zs:List Int} (h:Dig ds zs) {i:Nat}{z:Int} (hz:zs[i]?=some z):∃ d,ds[i]?=some d∧0≤d∧d<z:=by
 have hi:i<ds.length:=by rw[h.1];exact (List.getElem?_eq_some_iff.mp hz).1
 exact ⟨ds[i],by simp[hi],h.2 i _ z (by simp[hi]) hz⟩
theorem yhc {ds:List Int}{i:Nat}{v:V} (h:(ds.map V.int)[i]?=some v):∃ d,ds[i]?=some d∧v=.int d:=qby h
theorem ya7 {ds:List Int}{i:Nat}{d:Int} (h:ds[i]?=some d):(ds.map V.int)[i]?=some (.int d):=by rw[List.getElem?_map,h];rfl
section
variable {P:Program}{w:World}{K:PySem.W.Frag}{mg:Str→Option Value}{base:Heap}
noncomputable def ydj:Sp:=fun vs H Q _=>∃ c t a zs,vs=[.int c,.int t,.ref a]∧H a=some (.lst (zs.map V.int))∧zs.length≤100∧(∀ z∈zs,0<z∧z≤1000)∧0≤t∧t≤1000000∧
 ∀ p ds H',Same H H'→H p=none→H' p=some (.lst (ds.map V.int))→Dig ds zs→Q (.ref p) H'
noncomputable abbrev qca:Stmt:=top 74
theorem yd6:FnScope ["_law_cell","_law_turn","_law_sizes","_law_number","_law_wide","_law_seed","_law_found","_law_k","_law_size"] ["_law_cell","_law_turn","_law_sizes"] (yac qca):=⟨rfl,rfl,rfl,by decide +kernel,rfl,by decide +kernel,by decide +kernel⟩
theorem qlz (B:Bl mg) (F:FnAt K mg "_law_digits" qca ["_law_cell","_law_turn","_law_sizes"]):Has P w K mg base 1 "_law_digits" ["_law_cell","_law_turn","_law_sizes"] ydj:=by
 refine Has.of F yd6 (fun vs H Q E h=>?_) (fun f cdv A outer s H vs Q E hr h=>?_)
 ·obtain ⟨c,t,a,zs,rfl,_⟩:=h
  rfl
 ·obtain ⟨c,t,a,zs,rfl,ha,hl,hz,ht0,ht1,k⟩:=h
  have sc:=yd6
  refine ⟨_,(yah (qa2 (i:=3) sc.nd rfl (Or.inl rfl) (qae call_abs rfl (B.of rfl) boot_abs (qaa (pv 0) yab)))
   (yah (qa2 (i:=4) sc.nd rfl (Or.inl rfl) (qau qig (pv 3) (qa7 op_pow qac qac) (qaj _)))
   (yah (qa2 (i:=5) sc.nd rfl (Or.inl rfl) (qa7 yb0 (qa7 qdh (pv 3) qac) (qa7 yji qac (pv 1))))
   (yah (qa2 (i:=6) sc.nd rfl (Or.inl rfl) (ybc yab))
   (yah (yci PassesOwn.never rfl (qc8 rfl (B.of rfl) (qaa (pv 2) yab)) (ydg rfl (qan (qak (i:=7) sc.nd rfl (Or.inl rfl)) (qan (qak (i:=8) sc.nd rfl (Or.inl rfl)) qbp)))
    (yaf (qbu (PW.pt (qcm (qco (pv 4)) (qci (qao qfk (pv 3) qac (qaj _)))))
     (yah (ybt (qe4 PySem.F.plainAttrs_list PySem.F.slot_list_append PySem.F.type_list_append qb6 (pv 6) (qaa (qa7 qdh (pv 3) (pv 8)) yab)))
     (yaf (qa2 (i:=3) sc.nd rfl (Or.inl rfl) (qa7 qlv (pv 3) (pv 8)))))
     (yah (qa2 (i:=5) sc.nd rfl (Or.inl rfl) (qa7 qdh (qa7 op_pow (qa7 yb0 (pv 5) (qa7 yji qac (qa7 yb0 (pv 7) qac))) qac) qac))
     (yaf (ybt (qe4 PySem.F.plainAttrs_list PySem.F.slot_list_append PySem.F.type_list_append qb6 (pv 6) (qaa (qa7 qdh (qa7 qlv (pv 5) qac) (pv 8)) yab))))))))
   (yaf (qat (pv 6)))))))),?_⟩
  refine ⟨_,rfl,c,rfl,?_⟩
  refine ⟨_,rfl,10,18,rfl,rfl,⟨by decide,by decide,by decide⟩,_,_,rfl,rfl,?_⟩
  refine ⟨_,rfl,_,_,rfl,rfl,(by show (0:Int)<2147483647;decide),_,rfl,_,_,rfl,rfl,.inl ⟨by decide,by decide⟩,_,_,rfl,rfl,?_⟩
  refine ⟨Nat.zero_le _,fun p hp=>?_⟩
  generalize hnum:(if c<0 then -c else c)=num
  generalize hwd:decide ((10:Int) ^ (18:Int).toNat≤num)=wd
  have hs0:0≤num % 2147483647+7919*t:=by have:=Int.emod_nonneg num (show (2147483647:Int)≠0 by decide);omega
  have hs1:num % 2147483647+7919*t<2 ^ 40:=by have:=Int.emod_lt_of_pos num (show (0:Int)<2147483647 by decide);omega
  refine ⟨_,rfl,a,_,rfl,SqL.of (by rw[yai (yae ha hp)];exact ha),qcb (xs:=zs.map V.int) (fun i σ H2=>∃ (nu seed:Int) (ds:List Int) (q1 q2:Option V),σ=[some (.int c),some (.int t),some (.ref a),some (.int nu),some (.bl wd),some (.int seed),some (.ref p),q1,q2]∧
   Same H H2∧H2 p=some (.lst (ds.map V.int))∧ds.length=i∧(∀ (j:Nat) d z,ds[j]?=some d→zs[j]?=some z→0≤d∧d<z)∧0≤seed∧seed<2 ^ 40) ?_ (fun i σ H2 _ ⟨_,_,_,_,_,_,s2,_⟩=>SqL.of (s2 _ _ ha)) ?_ ?_⟩
  ·exact ⟨num,_,[],none,none,by rw[← hwd];rfl,(Same.refl H).upd hp,yaa,rfl,fun j d z h=>by simp at h,hs0,hs1⟩
  ·rintro i x pp σ H2 hx ⟨nu,seed,ds,q1,q2,rfl,s2,hp2,hln,hds,hse0,hse1⟩ hpp
   obtain ⟨z,hzi,rfl⟩:=yhc hx
   obtain ⟨hz0,hz1⟩:=hz z (List.mem_of_getElem? hzi)
   have hil:i<zs.length:=(List.getElem?_eq_some_iff.mp hzi).1
   have s3:Same H (upd H2 pp (.tup [.int i,.int z])):=s2.upd hpp
   have hp3:upd H2 pp (.tup [.int i,.int z]) p=some (.lst (ds.map V.int)):=by rw[yai (yae hp2 hpp)];exact hp2
   have fin:∀ (d:Int),0≤d→d<z→∀ (j:Nat) d' z',(ds++[d])[j]?=some d'→zs[j]?=some z'→0≤d'∧d' < z':=fun d h0 h1 j d' z' hj hj2=>by
    by_cases hlt:j<ds.length
    ·rw[List.getElem?_append_left hlt] at hj
     exact hds j d' z' hj hj2
    ·rw[List.getElem?_append_right (by omega)] at hj
     have hj0:j-ds.length=0:=by
      cases q:j-ds.length with
      | zero=>rfl
      | succ n=>rw[q] at hj;simp at hj
     rw[hj0] at hj
     have e1:d=d':=by simpa using hj
     have e2:j=i:=by omega
     subst e1 e2
     rw[hzi] at hj2;cases hj2
     exact ⟨h0,h1⟩
   refine ⟨pp,_,rfl,SqT.of yaa,rfl,_,_,rfl,_,_,rfl,rfl,?_⟩
   refine ⟨_,rfl,wd,rfl,?_⟩
   cases wd with
   | true=>
    refine iteT ⟨_,rfl,_,_,rfl,rfl,_,rfl,?_⟩
    by_cases hn:0<nu
    ·refine iteD hn ?_
     refine ⟨_,rfl,.inl ⟨rfl,_,SqL.of hp3⟩,_,rfl,_,rfl,_,_,rfl,rfl,hz0,p,_,_,rfl,rfl,hp3,qb5 (by rw[List.length_map];omega),?_⟩
     refine ⟨_,rfl,_,rfl,_,_,rfl,rfl,⟨hz0,by omega⟩,?_⟩
     exact ⟨_,seed,ds++[nu % z],_,_,rfl,s3.at hp,by rw[List.map_append];exact yaa,by simp[hln],fin _ (Int.emod_nonneg _ (by omega)) (Int.emod_lt_of_pos _ hz0),hse0,hse1⟩
    ·refine iteN (decide_eq_false hn) ?_
     refine ⟨_,rfl,_,rfl,_,_,rfl,rfl,_,_,rfl,rfl,.inl ⟨by decide,by decide⟩,_,_,rfl,rfl,_,_,rfl,rfl,⟨by decide,by decide,by omega⟩,_,_,rfl,rfl,(by show (0:Int)<2147483587;decide),?_⟩
     have g0:=Int.emod_nonneg ((seed+104729*((i:Int)+1)) ^ (2:Int).toNat) (show (2147483587:Int)≠0 by decide)
     have g1:=Int.emod_lt_of_pos ((seed+104729*((i:Int)+1)) ^ (2:Int).toNat) (show (0:Int)<2147483587 by decide)
     generalize hse':(seed+104729*((i:Int)+1)) ^ (2:Int).toNat % 2147483587=seed' at g0 g1
     refine ⟨_,rfl,.inl ⟨rfl,_,SqL.of hp3⟩,_,rfl,_,_,rfl,rfl,⟨by decide,by decide⟩,_,rfl,_,_,rfl,rfl,hz0,p,_,_,rfl,rfl,hp3,qb5 (by rw[List.length_map];omega),?_⟩
     exact ⟨nu,seed',ds++[seed' / 16 % z],_,_,by rw[← hse'];rfl,s3.at hp,by rw[List.map_append,← hse'];exact yaa,by simp[hln],fin _ (Int.emod_nonneg _ (by omega)) (Int.emod_lt_of_pos _ hz0),g0,by omega⟩
   | false=>
    refine iteF (iteF ?_)
    refine ⟨_,rfl,_,rfl,_,_,rfl,rfl,_,_,rfl,rfl,.inl ⟨by decide,by decide⟩,_,_,rfl,rfl,_,_,rfl,rfl,⟨by decide,by decide,by omega⟩,_,_,rfl,rfl,(by show (0:Int)<2147483587;decide),?_⟩
    have g0:=Int.emod_nonneg ((seed+104729*((i:Int)+1)) ^ (2:Int).toNat) (show (2147483587:Int)≠0 by decide)
    have g1:=Int.emod_lt_of_pos ((seed+104729*((i:Int)+1)) ^ (2:Int).toNat) (show (0:Int)<2147483587 by decide)
    generalize hse':(seed+104729*((i:Int)+1)) ^ (2:Int).toNat % 2147483587=seed' at g0 g1
    refine ⟨_,rfl,.inl ⟨rfl,_,SqL.of hp3⟩,_,rfl,_,_,rfl,rfl,⟨by decide,by decide⟩,_,rfl,_,_,rfl,rfl,hz0,p,_,_,rfl,rfl,hp3,qb5 (by rw[List.length_map];omega),?_⟩
    exact ⟨nu,seed',ds++[seed' / 16 % z],_,_,by rw[← hse'];rfl,s3.at hp,by rw[List.map_append,← hse'];exact yaa,by simp[hln],fin _ (Int.emod_nonneg _ (by omega)) (Int.emod_lt_of_pos _ hz0),g0,by omega⟩
  ·rintro σ H2 ⟨nu,seed,ds,q1,q2,rfl,s2,hp2,hln,hds,_,_⟩
   rw[List.length_map] at hln
   exact ⟨_,rfl,k p ds H2 s2 hp hp2 ⟨hln,hds⟩⟩
end
noncomputable def qav:List Str:=["stuck","slow","forgets","misreads","turns","sets","keeps","nowhere","other","both"]
theorem qlb {d:Int} (h0:0≤d) (h1:d<2):∃ b,d=b2i b:=by
 rcases (by omega:d=0∨d=1) with rfl|rfl
 ·exact ⟨false,rfl⟩
 ·exact ⟨true,rfl⟩
theorem in5 {s a b c d e:Str}:inV (.str s) (([a,b,c,d,e]:List Str).map V.str)=decide (s=a∨s=b∨s=c∨s=d∨s=e):=by
 unfold inV
 rw[Bool.eq_iff_iff]
 simp[eqS]
theorem yk4 {s:Str} (h:s∈qav):(s="stuck"∨s="slow"∨s="forgets"∨s="misreads"∨s="nowhere")∨s="turns"∨(s="sets"∨s="keeps")∨s="other"∨s="both":=by
 simp[qav] at h
 rcases h with rfl|rfl|rfl|rfl|rfl|rfl|rfl|rfl|rfl|rfl<;>simp
theorem yhd {ss:List Int} (nd:ss.Nodup) {a:Int} (ha:a∈ss):(ss.filter fun x=>!decide (V.int x=V.int a)).length=ss.length-1:=by
 induction ss with
 | nil=>simp at ha
 | cons x r ih=>
  obtain ⟨h1,h2⟩:=List.nodup_cons.mp nd
  by_cases hx:x=a
  ·subst hx
   have:r.filter (fun y=>!decide (V.int y=V.int x))=r:=List.filter_eq_self.mpr fun y hy=>by
    have:y≠x:=fun z=>h1 (z ▸ hy)
    simp[this]
   rw[List.filter_cons,if_neg (by simp),this]
   simp
  ·have ha':a∈r:=by
    rcases List.mem_cons.mp ha with h|h
    ·exact absurd h.symm hx
    ·exact h
   have hp:=List.length_pos_of_mem ha'
   rw[List.filter_cons,if_pos (by simp[hx]),List.length_cons,ih h2 ha',List.length_cons]
   omega
section
variable {P:Program}{w:World}{K:PySem.W.Frag}{mg:Str→Option Value}{base:Heap}
noncomputable def okSome (ss:List Int) (n:Int):Prop:=ss.Nodup∧2≤ss.length∧ss.length≤3∧∀ x∈ss,0≤x∧x<n
noncomputable def yml:Sp:=fun vs H Q _=>∃ (d S:Addr) (d0 d1 d2 d3 d4:Int) (ss:List Int) (n:Int),vs=[.ref d,.ref S]∧H d=some (.lst [.int d0,.int d1,.int d2,.int d3,.int d4])∧0≤d0∧d0<10∧0≤d1∧0≤d2∧0≤d3∧d3<2∧0≤d4∧d4<2∧
 H S=some (.lst (ss.map V.int))∧okSome ss n∧n≤64∧∀ v h ns H',Same H H'→HAt H' v h→(∀ a,v=.ref a→H a=none)→okH h ns→(∀ c∈h.c,c∈ss)→Q v H'
noncomputable abbrev qc2:Stmt:=top 77
theorem yfh:FnScope ["_law_d","_law_some","_law_words","_law_word","_law_a","_law_b"] ["_law_d","_law_some"] (yac qc2):=⟨rfl,rfl,rfl,by decide +kernel,rfl,by decide +kernel,by decide +kernel⟩
theorem ok_harm (B:Bl mg) (F:FnAt K mg "_law_harm" qc2 ["_law_d","_law_some"]):Has P w K mg base 1 "_law_harm" ["_law_d","_law_some"] yml:=by
 refine Has.ofQ F yfh (fun vs H Q E h=>?_) (fun f cdv A outer s H vs Q E hr h=>?_)
 ·obtain ⟨d,S,d0,d1,d2,d3,d4,ss,n,rfl,_⟩:=h
  rfl
 ·obtain ⟨d,S,d0,d1,d2,d3,d4,ss,n,rfl,hd,a0,a0',a1,a2,a3,a3',a4,a4',hS,⟨nd,l2,l3,hr0⟩,hn,k⟩:=h
  have sc:=yfh
  refine ⟨_,(yam rfl (qad (yaq (i:=2) sc.nd rfl (Or.inl rfl) (qe_strs (xs:=qav) (by decide +kernel)))
   (qad (yaq (i:=3) sc.nd rfl (Or.inl rfl) (qa1 qai (qab (pv 2)) (qa1 qai (qab (pv 0)) (qab qac) (fun _ _=>rfl)) (fun _ _=>rfl)))
   (qad (yaq (i:=4) sc.nd rfl (Or.inr rfl) (qa1 qai (qab (pv 1)) (qcj qdh (qa1 qai (qab (pv 0)) (qab qac) (fun _ _=>rfl)) (ybf yag rfl (B.of rfl) boot_len (yak (qab (pv 1)) qaf))) (fun _ _=>rfl)))
   (qad (yaq (i:=5) sc.nd rfl (Or.inl rfl) (qa1 qai (qab (yce rfl (qa8 rfl) (M:=["_law_cell","_law_a"]) (ix:=[none,some 4]) (qbo (pv 1)) (fun _ _ _ _=>(qak (i:=0) (show List.Nodup (["_law_cell","_law_a"]:List Str) by decide +kernel) rfl (Or.inl rfl))) (fun _ _ _ _=>(qhv (qao qgx (pv 0) (pv 1) (qaj _)))) (fun _ _ _ _=>(pv 0)))) (qcj qdh (qa1 qai (qab (pv 0)) (qab qac) (fun _ _=>rfl)) (qcj qh6 (ybf yag rfl (B.of rfl) boot_len (yak (qab (pv 1)) qaf)) (qab qac))) (fun _ _=>rfl)))
   (qad (ya9 (qaz qbr (qab (pv 3)) (qe_tstrs (xs:=["stuck","slow","forgets","misreads","nowhere"]) (by decide +kernel)) (by with_unfolding_all rfl))
    (qag (qas (qcy (yak (qab (pv 3)) (yak (qab (pv 4)) (yd1 (qa1 qai (qab (pv 0)) (qab qac) (fun _ _=>rfl)) qaf))))))
    yaw)
   (qad (ya9 (qaz qa6 (qab (pv 3)) (qab yaj) (qaj _))
    (qag (qas (qcy (yak (qab (pv 3)) (yak (qab (pv 4)) (yak (qab (pv 5)) (yd1 (qa1 qai (qab (pv 0)) (qab qac) (fun _ _=>rfl)) qaf)))))))
    yaw)
   (qad (ya9 (qaz qbr (qab (pv 3)) (qcy (yar (qab yaj) (yar (qab yaj) qaf))) (by with_unfolding_all rfl))
    (qag (qas (qcy (yak (qab (pv 3)) (yak (qab (pv 4)) (yak (qab (pv 5)) (yd1 (qa1 qai (qab (pv 0)) (qab qac) (fun _ _=>rfl)) (yd1 (qa1 qai (qab (pv 0)) (qab qac) (fun _ _=>rfl)) qaf))))))))
    yaw)
   (qag (qas (qa1 qai (yau (yh1 (qcy (yar (qab yaj) (yak (qab (pv 4)) (yak (qab (pv 5)) qaf)))) (yh1 (qcy (yar (qab yaj) (yak (qab (pv 4)) (yak (qab (pv 5)) (yd1 (qa1 qai (yau (yar (qab yaj) (yar (qab yaj) qaf))) (qa1 qai (qab (pv 0)) (qab qac) (fun _ _=>rfl)) (fun _ _=>rfl)) qaf))))) qaf))) (qbh qio rfl (B.of rfl) boot_int (qa_cp (ymm qa6 (qab (pv 3)) (qab yaj) (qaj _)) qaf)) (fun _ _=>rfl)))))))))))),?_⟩
  have hsl:10≤sizeLine:=by decide
  refine ⟨hsl,fun wp hwp=>?_⟩
  have s1:Same H (upd H wp (.lst (qav.map V.str))):=(Same.refl H).upd hwp
  have f1:upd H wp (.lst (qav.map V.str)) wp=some (.lst (qav.map V.str)):=yaa
  revert s1 f1
  generalize upd H wp (.lst (qav.map V.str))=H1
  intro s1 f1
  obtain ⟨word,hword⟩:∃ x,qav[d0.toNat]?=some x:=⟨qav[d0.toNat]'(by show d0.toNat<10;omega),List.getElem?_eq_getElem _⟩
  refine ⟨_,rfl,_,rfl,d,_,_,_,rfl,rfl,SqL.of (s1 _ _ hd),yad 0 rfl,wp,_,_,.str word,rfl,rfl,SqL.of f1,qf0 a0 (by rw[List.getElem?_map,hword];rfl),?_⟩
  have hwm:=yk4 (List.mem_of_getElem? hword)
  -- a
  have hm1:=Int.emod_nonneg d1 (show (ss.length:Int)≠0 by omega)
  have hm1':=Int.emod_lt_of_pos d1 (show (0:Int)<ss.length by omega)
  obtain ⟨a,ha⟩:∃ x,ss[(d1 % (ss.length:Int)).toNat]?=some x:=⟨ss[(d1 % (ss.length:Int)).toNat]'(by omega),List.getElem?_eq_getElem _⟩
  refine ⟨_,rfl,_,rfl,d,_,_,_,rfl,rfl,SqL.of (s1 _ _ hd),yad 1 rfl,_,rfl,S,_,rfl,.inl (SqL.of (s1 _ _ hS)),_,_,rfl,rfl,(by rw[List.length_map];show (0:Int)<ss.length;omega),S,_,_,.int a,rfl,rfl,SqL.of (s1 _ _ hS),?_,?_⟩
  ·rw[List.length_map]
   exact qf0 hm1 (ya7 ha)
  have ham:=List.mem_of_getElem? ha
  -- b
  refine ⟨_,rfl,S,rfl,⟨_,SqL.of (s1 _ _ hS)⟩,fun D hD=>qda (n:=ss.length) (fun i H'=>Same H1 H'∧H' D=some (.lst (((ss.take i).filter fun x=>!decide (V.int x=V.int a)).map V.int))) ⟨(Same.refl H1).upd hD,yaa⟩ ?_ ?_⟩
  rotate_left
  ·rintro i H2 hi ⟨s2,e2⟩
   have hS2:=s2 _ _ (s1 _ _ hS)
   refine ⟨⟨_,_,SqL.of hS2,by rw[List.getElem?_map,List.getElem?_eq_getElem hi];rfl⟩,?_⟩
   rintro x H3 ⟨rfl,hx⟩
   obtain ⟨y,hy,rfl⟩:=qby (hx _ (SqL.of hS2))
   refine ⟨ya6.set (ya6.refl _) rfl,?_⟩
   refine ⟨_,rfl,_,rfl,rfl,_,rfl,?_⟩
   have hfl:=List.length_filter_le (fun x=>!decide (V.int x=V.int a)) (ss.take i)
   have htl:(ss.take i).length≤ss.length:=by rw[List.length_take];omega
   rw[List.take_add_one,hy]
   by_cases hya:y=a
   ·refine iteN (by simp[hya]) ⟨s2,?_⟩
    rw[e2];simp[hya]
   ·refine iteB (by simp[hya]) ⟨_,rfl,_,e2,qb5 (by rw[List.length_map];omega),s2.at hD,?_⟩
    rw[yaa];simp[hya]
  rintro H2 ⟨s2,e2⟩
  rw[List.take_length] at e2
  refine ⟨⟨_,SqL.of (s2 _ _ (s1 _ _ hS)),by simp⟩,?_⟩
  have hfl:=yhd nd ham
  have hfm:∀ x∈ss.filter (fun x=>!decide (V.int x=V.int a)),x∈ss∧x≠a:=fun x hx=>by
   obtain ⟨h1,h2⟩:=List.mem_filter.mp hx
   exact ⟨h1,fun z=>by subst z;simp at h2⟩
  revert hfl hfm e2
  generalize ss.filter (fun x=>!decide (V.int x=V.int a))=fs
  intro e2 hfl hfm
  have hm2:=Int.emod_nonneg d2 (show ((ss.length:Int)-1)≠0 by omega)
  have hm2':=Int.emod_lt_of_pos d2 (show (0:Int)<(ss.length:Int)-1 by omega)
  obtain ⟨b,hb⟩:∃ x,fs[(d2 % ((ss.length:Int)-1)).toNat]?=some x:=⟨fs[(d2 % ((ss.length:Int)-1)).toNat]'(by omega),List.getElem?_eq_getElem _⟩
  have s12:=s1.trans s2
  refine ⟨_,rfl,d,_,_,_,rfl,rfl,SqL.of (s12 _ _ hd),yad 2 rfl,_,rfl,S,_,rfl,.inl (SqL.of (s12 _ _ hS)),_,_,rfl,rfl,_,_,rfl,rfl,(by rw[List.length_map];show (0:Int)<(ss.length:Int)-1;omega),D,_,_,.int b,rfl,rfl,SqL.of e2,?_,?_⟩
  ·rw[List.length_map]
   exact qf0 hm2 (ya7 hb)
  obtain ⟨hbm,hba⟩:=hfm b (List.mem_of_getElem? hb)
  obtain ⟨x3,rfl⟩:=qlb a3 a3'
  obtain ⟨x4,rfl⟩:=qlb a4 a4'
  have ra:=hr0 a ham
  have rb:=hr0 b hbm
  have nab:([a,b]:List Int).Nodup:=by simp[Ne.symm hba]
  have rg1:∀ x∈([a]:List Int),0≤x∧x<64:=fun x hx=>by rw[List.mem_singleton.mp hx];exact ⟨ra.1,by omega⟩
  have rg2:∀ x∈([a,b]:List Int),0≤x∧x<64:=fun x hx=>by
   simp at hx
   rcases hx with rfl|rfl
   ·exact ⟨ra.1,by omega⟩
   ·exact ⟨rb.1,by omega⟩
  have mm1:∀ c∈([a]:List Int),c∈ss:=fun c hc=>by rw[List.mem_singleton.mp hc];exact ham
  have mm2:∀ c∈([a,b]:List Int),c∈ss:=fun c hc=>by
   simp at hc
   rcases hc with rfl|rfl
   ·exact ham
   ·exact hbm
  have bx:∀ x:Bool,bitV (.int (b2i x)):=fun x=>⟨x,rfl⟩
  -- the first sort
  refine ⟨_,rfl,(by show 5≤sizeLine;decide),fun t1 w1=>⟨t1,_,rfl,.inr (SqT.of yaa),rfl,rfl,_,rfl,?_⟩⟩
  rw[in5]
  have s3:Same H2 (upd H2 t1 (.tup ((["stuck","slow","forgets","misreads","nowhere"]:List Str).map V.str))):=(Same.refl H2).upd w1
  revert s3
  generalize upd H2 t1 (.tup ((["stuck","slow","forgets","misreads","nowhere"]:List Str).map V.str))=H3
  intro s3
  have s13:=s12.trans s3
  by_cases c1:word="stuck"∨word="slow"∨word="forgets"∨word="misreads"∨word="nowhere"
  ·refine iteD c1 ?_
   refine ⟨_,rfl,_,rfl,_,rfl,d,_,_,_,rfl,rfl,SqL.of (s13 _ _ hd),yad 3 rfl,(by show 3≤sizeLine;decide),fun p hp=>?_⟩
   exact k _ ⟨word,[a],[.int (b2i x3)]⟩ ["bit"] _ (s13.upd hp) ⟨p,rfl,yaa⟩ (fun a e=>by cases e;exact s13.free hp) ⟨yek c1,.bit (bx _) .nil,by simp,by simp,by simp,rg1⟩ mm1
  refine ybe c1 ?_
  refine ⟨_,rfl,rfl,_,rfl,?_⟩
  rw[dS]
  by_cases c2:word="turns"
  ·refine iteD c2 ?_
   refine ⟨_,rfl,_,rfl,_,rfl,_,rfl,d,_,_,_,rfl,rfl,SqL.of (s13 _ _ hd),yad 3 rfl,(by show 4≤sizeLine;decide),fun p hp=>?_⟩
   exact k _ ⟨word,[a,b],[.int (b2i x3)]⟩ ["bit"] _ (s13.upd hp) ⟨p,rfl,yaa⟩ (fun a e=>by cases e;exact s13.free hp) ⟨by rw[c2];exact qij,.bit (bx _) .nil,by simp,by simp,nab,rg2⟩ mm2
  refine ybe c2 ?_
  refine ⟨_,rfl,(by show 2≤sizeLine;decide),fun t2 w2=>⟨t2,_,rfl,.inr (SqT.of yaa),rfl,rfl,_,rfl,?_⟩⟩
  rw[in2]
  have s4:Same H3 (upd H3 t2 (.tup [.str "sets",.str "keeps"])):=(Same.refl H3).upd w2
  revert s4
  generalize upd H3 t2 (.tup [.str "sets",.str "keeps"])=H4
  intro s4
  have s14:=s13.trans s4
  by_cases c3:word="sets"∨word="keeps"
  ·refine iteD c3 ?_
   refine ⟨_,rfl,_,rfl,_,rfl,_,rfl,d,_,_,_,rfl,rfl,SqL.of (s14 _ _ hd),yad 3 rfl,_,rfl,d,_,_,_,rfl,rfl,SqL.of (s14 _ _ hd),yad 4 rfl,(by show 5≤sizeLine;decide),fun p hp=>?_⟩
   exact k _ ⟨word,[a,b],[.int (b2i x3),.int (b2i x4)]⟩ ["bit","bit"] _ (s14.upd hp) ⟨p,rfl,yaa⟩ (fun a e=>by cases e;exact s14.free hp) ⟨qfr c3,.bit (bx _) (.bit (bx _) .nil),by simp,by simp,nab,rg2⟩ mm2
  refine ybe c3 ?_
  have c4:word="other"∨word="both":=by
   rcases hwm with h|h|h|h|h
   ·exact absurd h c1
   ·exact absurd h c2
   ·exact absurd h c3
   ·exact .inl h
   ·exact .inr h
  refine ⟨_,rfl,_,rfl,(by show 3≤sizeLine;decide),fun o1 y1=>?_⟩
  have s5:Same H4 (upd H4 o1 (.tup [.str "other",.int a,.int b])):=(Same.refl H4).upd y1
  have f5:upd H4 o1 (.tup [.str "other",.int a,.int b]) o1=some (.tup [.str "other",.int a,.int b]):=yaa
  revert s5 f5
  generalize upd H4 o1 (.tup [.str "other",.int a,.int b])=H5
  intro s5 f5
  refine ⟨_,rfl,_,rfl,(by show 2≤sizeLine;decide),fun o2 y2=>?_⟩
  have s6:Same H5 (upd H5 o2 (.lst [.str "and",.str "or"])):=(Same.refl H5).upd y2
  have f6:upd H5 o2 (.lst [.str "and",.str "or"]) o2=some (.lst [.str "and",.str "or"]):=yaa
  revert s6 f6
  generalize upd H5 o2 (.lst [.str "and",.str "or"])=H6
  intro s6 f6
  have s16:=(s14.trans s5).trans s6
  obtain ⟨hv,hhv,hho⟩:∃ v,atI [V.str "and",.str "or"] (b2i x3)=some v∧howV v:=by
   cases x3
   ·exact ⟨_,rfl,.inl rfl⟩
   ·exact ⟨_,rfl,.inr rfl⟩
  refine ⟨_,rfl,d,_,_,_,rfl,rfl,SqL.of (s16 _ _ hd),yad 3 rfl,o2,_,_,hv,rfl,rfl,SqL.of f6,hhv,(by show 4≤sizeLine;decide),fun o3 y3=>?_⟩
  have s7:Same H6 (upd H6 o3 (.tup [.str "both",.int a,.int b,hv])):=(Same.refl H6).upd y3
  have f7:upd H6 o3 (.tup [.str "both",.int a,.int b,hv]) o3=some (.tup [.str "both",.int a,.int b,hv]):=yaa
  revert s7 f7
  generalize upd H6 o3 (.tup [.str "both",.int a,.int b,hv])=H7
  intro s7 f7
  refine ⟨(by show 2≤sizeLine;decide),fun o4 y4=>?_⟩
  have s8:Same H7 (upd H7 o4 (.lst [.ref o1,.ref o3])):=(Same.refl H7).upd y4
  have f8:upd H7 o4 (.lst [.ref o1,.ref o3]) o4=some (.lst [.ref o1,.ref o3]):=yaa
  revert s8 f8
  generalize upd H7 o4 (.lst [.ref o1,.ref o3])=H8
  intro s8 f8
  have s68:=s7.trans s8
  have s18:=s16.trans s68
  refine ⟨_,rfl,rfl,.inr ⟨_,rfl,?_⟩⟩
  rcases c4 with rfl|rfl
  ·refine ⟨o4,_,_,_,rfl,rfl,SqL.of f8,yad 0 rfl (by decide +kernel),?_⟩
   exact k _ ⟨"other",[a,b],[]⟩ [] _ s18 ⟨o1,rfl,(s6.trans s68) _ _ f5⟩ (fun a e=>by cases e;exact s14.free y1) ⟨yf6,.nil,by simp,by simp,nab,rg2⟩ mm2
  ·refine ⟨o4,_,_,_,rfl,rfl,SqL.of f8,yad 1 rfl (by decide +kernel),?_⟩
   exact k _ ⟨"both",[a,b],[hv]⟩ ["how"] _ s18 ⟨o3,rfl,s8 _ _ f7⟩ (fun a e=>by cases e;exact s16.free y3) ⟨qfs,.how hho .nil,by simp,by simp,nab,rg2⟩ mm2
end
theorem HsV.snoc {H:Hp}{us:List V}{hs:List Hm}{v:V}{h:Hm} (x:HsV H us hs) (hv:HAt H v h):HsV H (us++[v]) (hs++[h]):=by
 refine ⟨by simp[x.len],fun i u g h1 h2=>?_⟩
 by_cases hi:i<us.length
 ·rw[List.getElem?_append_left hi] at h1
  rw[List.getElem?_append_left (by rw[← x.len];exact hi)] at h2
  exact x.at_ i u g h1 h2
 ·rw[List.getElem?_append_right (by omega)] at h1
  rw[List.getElem?_append_right (by rw[← x.len];omega),← x.len] at h2
  cases hj:i-us.length with
  | zero=>rw[hj] at h1 h2;cases h1;cases h2;exact hv
  | succ n=>rw[hj] at h1;simp at h1
theorem take5 {l:List Int}{a:Nat} (h:a+5≤l.length):(l.drop a).take 5=[l.getD a 0,l.getD (a+1) 0,l.getD (a+2) 0,l.getD (a+3) 0,l.getD (a+4) 0]:=by
 have g:∀ k,k<l.length→l.getD k 0=l[k]?.getD 0:=fun k _=>List.getD_eq_getElem?_getD ..
 rw[List.drop_eq_getElem_cons (show a<l.length by omega),List.drop_eq_getElem_cons (show a+1<l.length by omega),List.drop_eq_getElem_cons (show a+1+1<l.length by omega),List.drop_eq_getElem_cons (show a+1+1+1<l.length by omega),List.drop_eq_getElem_cons (show a+1+1+1+1<l.length by omega)]
 simp only[List.take_succ_cons,List.take_zero,List.getD_eq_getElem?_getD]
 rw[List.getElem?_eq_getElem (show a<l.length by omega),List.getElem?_eq_getElem (show a+1<l.length by omega),List.getElem?_eq_getElem (show a+2<l.length by omega),List.getElem?_eq_getElem (show a+3<l.length by omega),List.getElem?_eq_getElem (show a+4<l.length by omega)]
 rfl
theorem yky {xs:List V}{a b:Nat}:cutV xs (some (a:Int)) (some (b:Int))=(xs.drop (min a xs.length)).take (min b xs.length-min a xs.length):=by
 unfold cutV
 rw[HT.sIx_nat,HT.sIx_nat]
noncomputable def ygx (ss:List Int) (i:Nat):List Int:=((List.range i).map fun j:Nat=>(j:Int)).filter fun x=>!inV (.int x) (ss.map V.int)
theorem yjw {x:Int}{ss:List Int}:inV (.int x) (ss.map V.int)=decide (x∈ss):=by
 rw[Bool.eq_iff_iff,decide_eq_true_iff]
 unfold inV
 rw[List.any_map,List.any_eq_true]
 constructor
 ·rintro ⟨y,hy,h⟩
  have:y=x:=by simpa [eqV] using h
  exact this ▸ hy
 ·intro h
  exact ⟨x,h,by simp[eqV]⟩
theorem free_mem {ss:List Int}{n:Nat}{x:Int} (h:x∈ygx ss n):0≤x∧x<n∧x∉ss:=by
 obtain ⟨h1,h2⟩:=List.mem_filter.mp h
 obtain ⟨j,hj,rfl⟩:=List.mem_map.mp h1
 have:=List.mem_range.mp hj
 rw[yjw] at h2
 exact ⟨by omega,by omega,by simpa using h2⟩
theorem ylv {ss:List Int}{n:Nat} (h:ss.length<n):ygx ss n≠[]:=by
 intro e
 have hsub:∀ x∈(List.range n).map (fun j:Nat=>(j:Int)),x∈ss:=fun x hx=>by
  by_cases hm:x∈ss
  ·exact hm
  ·have:x∈ygx ss n:=List.mem_filter.mpr ⟨hx,by rw[yjw];simp[hm]⟩
   rw[e] at this;cases this
 have nd:((List.range n).map (fun j:Nat=>(j:Int))).Nodup:=by
  rw[List.nodup_iff_pairwise_ne,List.pairwise_map]
  exact List.Pairwise.imp (fun h z=>h (by omega)) List.nodup_range
 have:=qjl nd hsub
 simp at this
 omega
section
variable {P:Program}{w:World}{K:PySem.W.Frag}{mg:Str→Option Value}{base:Heap}
noncomputable def qji:Sp:=fun vs H Q _=>∃ (c t:Int) (n:Nat),vs=[.int c,.int t,.int n,.int 3]∧0≤t∧t≤1000000∧2≤n∧n≤64∧
 ∀ (p:Addr) (us:List V) (hs:List Hm) (S:List Int) (H':Hp),Same H H'→H p=none→H' p=some (.lst us)→HsV H' us hs→okHs hs S→1≤hs.length→InR hs n→Q (.ref p) H'
noncomputable abbrev ycl:Stmt:=top 78
theorem yen:FnScope ["_law_cell","_law_turn","_law_size","_law_most","_law_d","_law_some","_law_k","_law_free"] ["_law_cell","_law_turn","_law_size","_law_most"] (yac ycl):=⟨rfl,rfl,rfl,by decide +kernel,rfl,by decide +kernel,by decide +kernel⟩
theorem ok_harms (B:Bl mg) (yba:Has P w K mg base 1 "_law_digits" ["_law_cell","_law_turn","_law_sizes"] ydj) (qiz:Has P w K mg base 1 "_law_harm" ["_law_d","_law_some"] yml) (F:FnAt K mg "_law_harms" ycl ["_law_cell","_law_turn","_law_size","_law_most"]):Has P w K mg base 2 "_law_harms" ["_law_cell","_law_turn","_law_size","_law_most"] qji:=by
 refine Has.ofQ F yen (fun vs H Q E h=>?_) (fun f cdv A outer s H vs Q E hr h=>?_)
 ·obtain ⟨c,t,n,rfl,_⟩:=h
  rfl
 ·obtain ⟨c,t,n,rfl,t0,t1,n2,n64,k⟩:=h
  have sc:=yen
  refine ⟨_,(yam rfl (qad (yaq (i:=4) sc.nd rfl (Or.inr rfl) (qaq yba hr (yak (qab (pv 0)) (yak (qab (pv 1)) (qiu (qcj yc0 (yau (yak (qab (pv 3)) (yak (qab (pv 2)) (yak (qab (pv 2)) (yak (qab (pv 2)) qaf))))) (qcj yfc (yau (yar (qab qac) (yar (qab qac) (yar (qab qac) (yar (qab qac) (yar (qab qac) qaf)))))) (qab qac))) qaf)))))
   (qad (yaq (i:=5) sc.nd rfl (Or.inr rfl) (yau (yd1 (qa1 qai (qab (pv 4)) (qab qac) (fun _ _=>rfl)) qaf)))
   (qad (ydf PassesOwn.never rfl (qhl (ycd rfl (B.of rfl) (qaa qac yab))) (qak (i:=6) sc.nd rfl (Or.inl rfl))
    (qad (qee (yl3 (i:=7) rfl sc.nd rfl (Or.inl rfl) rfl (qa8 rfl) (M:=["_law_one","_law_some"]) (ix:=[none,some 5]) (ycd rfl (B.of rfl) (qaa (pv 2) yab)) (fun _ _ _ _=>(qak (i:=0) (show List.Nodup (["_law_one","_law_some"]:List Str) by decide +kernel) rfl (Or.inl rfl))) (fun _ _ _ _=>(qhv (qao (qhj (K:=K) rfl) (pv 0) (pv 1) (by with_unfolding_all rfl)))) (fun _ _ _ _=>(pv 0))))
    (qag (yaq (i:=5) sc.nd rfl (Or.inr rfl) (qcj yc0 (qab (pv 5)) (qab (ybs ydn (ybs ydn (pv 7) (qbi (qa7 qdh (yan qai (pv 4) (qa7 yb0 qac (pv 6)) (fun _ _=>rfl)) (qae (qis rfl) rfl (B.of rfl) boot_max (qaa qac (qaa (qae yag rfl (B.of rfl) boot_len (qaa (pv 7) yab)) yab))))) ych) ych (qbi qac))))))))
   (qag (qas (qab (yce rfl (qa8 rfl) (M:=["_law_k","_law_some","_law_d"]) (ix:=[none,some 5,some 4]) (ycd rfl (B.of rfl) (qaa (qa7 yb0 qac (yan qai (pv 4) qac (fun _ _=>rfl))) yab)) (fun _ _ _ _=>(qak (i:=0) (show List.Nodup (["_law_k","_law_some","_law_d"]:List Str) by decide +kernel) rfl (Or.inl rfl))) (fun _ _ _ _=>yda) (fun _ _ _ _=>(qah qiz hr (qaa (ybs (qhe (K:=K) rfl) (pv 2) (qbi (qa7 yb0 qac (qa7 yji qac (pv 0)))) (qbi (qa7 yb0 qac (qa7 yji qac (pv 0))))) (qaa (pv 1) yab)))))))))))),?_⟩
  refine ⟨_,rfl,_,rfl,_,rfl,_,rfl,_,rfl,_,rfl,(by show 4≤sizeLine;decide),fun p1 v1=>?_⟩
  have s1:Same H (upd H p1 (.lst [.int 3,.int n,.int n,.int n])):=(Same.refl H).upd v1
  have f1:upd H p1 (.lst [.int 3,.int n,.int n,.int n]) p1=some (.lst [.int 3,.int n,.int n,.int n]):=yaa
  revert s1 f1
  generalize upd H p1 (.lst [.int 3,.int n,.int n,.int n])=H1
  intro s1 f1
  refine ⟨(by show 5≤sizeLine;decide),fun p2 v2=>?_⟩
  have s2:Same H1 (upd H1 p2 (.lst [.int 10,.int 6,.int 6,.int 2,.int 2])):=(Same.refl H1).upd v2
  have f2:upd H1 p2 (.lst [.int 10,.int 6,.int 6,.int 2,.int 2]) p2=some (.lst [.int 10,.int 6,.int 6,.int 2,.int 2]):=yaa
  revert s2 f2
  generalize upd H1 p2 (.lst [.int 10,.int 6,.int 6,.int 2,.int 2])=H2
  intro s2 f2
  refine ⟨p2,3,_,rfl,rfl,f2,by decide,by decide,qke (by decide),fun p3 v3=>?_⟩
  have s3:Same H2 (upd H2 p3 (.lst (List.replicate (3:Int).toNat [V.int 10,.int 6,.int 6,.int 2,.int 2]).flatten)):=(Same.refl H2).upd v3
  have f3:upd H2 p3 (.lst (List.replicate (3:Int).toNat [V.int 10,.int 6,.int 6,.int 2,.int 2]).flatten) p3=some (.lst (([10,6,6,2,2,10,6,6,2,2,10,6,6,2,2]:List Int).map V.int)):=yaa
  revert s3 f3
  generalize upd H2 p3 (.lst (List.replicate (3:Int).toNat [V.int 10,.int 6,.int 6,.int 2,.int 2]).flatten)=H3
  intro s3 f3
  refine ⟨p1,p3,_,_,rfl,rfl,(s2.trans s3) _ _ f1,f3,qke (by simp),fun p4 v4=>?_⟩
  have s13:=(s1.trans s2).trans s3
  refine ⟨c,t,p4,[3,n,n,n,10,6,6,2,2,10,6,6,2,2,10,6,6,2,2],rfl,yaa,by simp,?_,t0,t1,fun dp ds H5 s5 ndp hdp hD=>?_⟩
  ·intro z hz
   simp at hz
   omega
  have s15:Same H H5:=(s13.upd v4).trans s5
  clear s5
  have dl:ds.length=19:=hD.1
  obtain ⟨e0,g0,b0,b0'⟩:=hD.get (i:=0) (z:=3) rfl
  obtain ⟨e1,g1,b1,b1'⟩:=hD.get (i:=1) (z:=n) rfl
  refine ⟨_,rfl,dp,_,_,_,rfl,rfl,SqL.of hdp,yad 1 (ya7 g1),(by show 1≤sizeLine;decide),fun sp v6=>?_⟩
  have s6:Same H5 (upd H5 sp (.lst [.int e1])):=(Same.refl H5).upd v6
  have f6:upd H5 sp (.lst [.int e1]) sp=some (.lst (([e1]:List Int).map V.int)):=yaa
  revert s6 f6
  generalize upd H5 sp (.lst [.int e1])=H6
  intro s6 f6
  refine ⟨2,rfl,by decide,by decide,yep (n:=2) (fun i σ H7=>∃ (S:Addr) (ss:List Int) (o6 o7:Option V),σ=[some (.int c),some (.int t),some (.int n),some (.int 3),some (.ref dp),some (.ref S),o6,o7]∧Same H5 H7∧H7 S=some (.lst (ss.map V.int))∧ss.Nodup∧1+min i 1≤ss.length∧ss.length≤1+i∧∀ x∈ss,0≤x∧x<n)
   ⟨sp,[e1],none,none,rfl,s6,f6,by simp,by simp,by simp,fun x hx=>by rw[List.mem_singleton.mp hx];exact ⟨b1,b1'⟩⟩ ?_ ?_⟩
  ·rintro i σ H7 hi ⟨S,ss,o6,o7,rfl,s7,hS,nd,l1,l2,hin⟩
   refine ⟨_,rfl,_,rfl,by omega,by omega,fun D hD2=>qda (n:=n) (fun j H'=>Same H7 H'∧H' D=some (.lst ((ygx ss j).map V.int))) ⟨(Same.refl H7).upd hD2,yaa⟩ ?_ ?_⟩
   rotate_left
   ·rintro j H8 hj ⟨s8,e8⟩
    refine ⟨by show j<_;simpa using hj,?_⟩
    rintro x H9 ⟨rfl,rfl⟩
    refine ⟨ya6.set (ya6.refl _) rfl,?_⟩
    refine ⟨_,rfl,_,rfl,S,_,rfl,.inl (SqL.of (s8 _ _ hS)),rfl,by simp[qdm],_,rfl,?_⟩
    have hsn:ygx ss (j+1)=ygx ss j++(if (!inV (.int ((0:Int)+(j:Int))) (ss.map V.int))=true then [(0:Int)+(j:Int)] else []):=by
     unfold ygx
     rw[List.range_succ,List.map_append,List.filter_append,Int.zero_add]
     congr 1
     simp[List.filter_cons]
    have hll:(ygx ss j).length≤j:=by
     unfold ygx
     refine Nat.le_trans (List.length_filter_le _ _) ?_
     simp
    rw[hsn]
    cases hb:(!inV (.int ((0:Int)+(j:Int))) (ss.map V.int)) with
    | true=>
     refine iteB (by simpa using hb) ⟨_,rfl,_,e8,qb5 (by rw[List.length_map];omega),s8.at hD2,?_⟩
     rw[yaa,if_pos rfl,List.map_append]
     rfl
    | false=>
     refine iteN (by simpa using hb) ⟨s8,?_⟩
     rw[e8,if_neg (by simp),List.append_nil]
   rintro H8 ⟨s8,e8⟩
   refine ⟨by show _≤_;simp,?_⟩
   obtain ⟨di,gi,ci,ci'⟩:∃ d,ds[2+i]?=some d∧0≤d∧d<n:=by
    rcases (by omega:i=0∨i=1) with rfl|rfl
    ·exact hD.get (i:=2) (z:=n) rfl
    ·exact hD.get (i:=3) (z:=n) rfl
   have hm:=@free_mem ss n
   have hsome:=@ylv ss n
   revert hm hsome e8
   generalize ygx ss n=fs
   intro e8 hm hsome
   have s78:=s7.trans s8
   generalize hM:(if ((fs.map V.int).length:Int)>1 then ((fs.map V.int).length:Int) else 1)=M
   have hM0:0<M:=by rw[← hM];split<;>omega
   have hM1:fs≠[]→M=fs.length:=fun hne=>by
    have:=List.length_pos_iff.mpr hne
    rw[← hM,List.length_map];split<;>omega
   have q0:=Int.emod_nonneg di (show M≠0 by omega)
   have q1:=Int.emod_lt_of_pos di hM0
   refine ⟨_,rfl,_,rfl,_,rfl,_,rfl,_,_,rfl,rfl,dp,_,_,.int di,rfl,rfl,SqL.of (s78 _ _ hdp),?_,_,rfl,D,_,rfl,.inl (SqL.of e8),_,_,rfl,_,_,rfl,rfl,?_,?_⟩
   ·rw[show (2:Int)+((0:Int)+(i:Int))=((2+i:Nat):Int) by omega]
    exact ycu (ya7 gi)
   ·show (0:Int)<(if ((fs.map V.int).length:Int)>1 then ((fs.map V.int).length:Int) else 1)
    rw[hM];exact hM0
   show ∃ i',V.int (di % (if ((fs.map V.int).length:Int)>1 then ((fs.map V.int).length:Int) else 1))=.int i'∧_
   rw[hM]
   refine ⟨_,rfl,D,_,rfl,SqL.of e8,fun c1 y1=>?_⟩
   refine ⟨1,rfl,c1,_,rfl,SqL.of yaa,fun c2 y2=>?_⟩
   have ecut:cutV (cutV (fs.map V.int) (some (di % M)) none) none (some 1)=((fs.drop (di % M).toNat).take 1).map V.int:=by
    rw[show di % M=(((di % M).toNat:Nat):Int) by omega,yfq,show (1:Int)=((1:Nat):Int) from rfl,qfu,List.map_take,List.map_drop]
    rfl
   rw[ecut]
   have s9:=((Same.refl H8).upd (o:=.lst (cutV (fs.map V.int) (some (di % M)) none)) y1).upd (o:=.lst (((fs.drop (di % M).toNat).take 1).map V.int)) y2
   have f9:upd (upd H8 c1 (.lst (cutV (fs.map V.int) (some (di % M)) none))) c2 (.lst (((fs.drop (di % M).toNat).take 1).map V.int)) c2=some (.lst (((fs.drop (di % M).toNat).take 1).map V.int)):=yaa
   revert s9 f9
   generalize upd (upd H8 c1 (.lst (cutV (fs.map V.int) (some (di % M)) none))) c2 (.lst (((fs.drop (di % M).toNat).take 1).map V.int))=H9
   intro s9 f9
   refine ⟨S,c2,_,_,rfl,rfl,(s8.trans s9) _ _ hS,f9,qke (by simp;omega),fun S2 y3=>?_⟩
   refine ⟨S2,ss++(fs.drop (di % M).toNat).take 1,_,_,rfl,((s7.trans s8).trans s9).upd y3,by rw[List.map_append];exact yaa,?_,?_,?_,?_⟩
   ·rw[List.nodup_append]
    refine ⟨nd,?_,fun x hx y hy z=>?_⟩
    ·cases (fs.drop (di % M).toNat)<;>simp
    ·subst z
     exact (hm (List.mem_of_mem_drop (List.mem_of_mem_take hy))).2.2 hx
   ·rw[List.length_append,List.length_take,List.length_drop]
    by_cases hlt:ss.length<n
    ·have hne:=hsome hlt
     have:=hM1 hne
     omega
    ·omega
   ·rw[List.length_append,List.length_take];omega
   ·intro x hx
    rcases List.mem_append.mp hx with hx|hx
    ·exact hin x hx
    ·have:=hm (List.mem_of_mem_drop (List.mem_of_mem_take hx))
     exact ⟨this.1,this.2.1⟩
  ·rintro σ H7 ⟨S,ss,o6,o7,rfl,s7,hS,nd,l1,l2,hin⟩
   have ok:okSome ss n:=⟨nd,by simpa using l1,by simpa using l2,hin⟩
   refine ⟨_,rfl,dp,_,_,_,rfl,rfl,SqL.of (s7 _ _ hdp),yad 0 (ya7 g0),_,_,rfl,rfl,_,rfl,by omega,by omega,fun D hD2=>qda (n:=((1:Int)+e0).toNat) (fun j H'=>∃ us hs,Same H7 H'∧H' D=some (.lst us)∧HsV H' us hs∧hs.length=j∧Oks hs∧∀ h∈hs,∀ c∈h.c,c∈ss) ⟨[],[],(Same.refl H7).upd hD2,yaa,⟨rfl,fun i v h a=>by simp at a⟩,rfl,(fun _ h=>nomatch h),(fun _ h=>nomatch h)⟩ ?_ ?_⟩
   ·rintro H8 ⟨us,hs,s8,e8,v8,hl8,ok8,hm8⟩
    refine ⟨by show _≤_;simp,?_⟩
    refine k D us hs ss H8 ((s15.trans s7).trans s8) ((s15.trans s7).free hD2) e8 v8 ⟨by omega,ok8,by simpa using l2,hm8⟩ (by omega) ?_
    intro h hh c hc
    exact hin c (hm8 h hh c hc)
   ·rintro j H8 hj ⟨us,hs,s8,e8,v8,hl8,ok8,hm8⟩
    refine ⟨by show j<_;simpa using hj,?_⟩
    rintro x H9 ⟨rfl,rfl⟩
    refine ⟨ya6.set (ya6.refl _) rfl,yes ?_⟩
    have hj2:j≤2:=by omega
    refine ⟨_,rfl,_,rfl,_,_,rfl,rfl,.inl ⟨by decide,by decide⟩,_,_,rfl,rfl,_,rfl,_,rfl,_,_,rfl,rfl,.inl ⟨by decide,by decide⟩,_,_,rfl,rfl,_,rfl,dp,_,rfl,SqL.of (s8 _ _ (s7 _ _ hdp)),fun q w1=>?_⟩
    have ecut:cutV (ds.map V.int) (some ((4:Int)+5*((0:Int)+(j:Int)))) (some ((9:Int)+5*((0:Int)+(j:Int))))=[.int (ds.getD (4+5*j) 0),.int (ds.getD (4+5*j+1) 0),.int (ds.getD (4+5*j+2) 0),.int (ds.getD (4+5*j+3) 0),.int (ds.getD (4+5*j+4) 0)]:=by
     rw[show (4:Int)+5*((0:Int)+(j:Int))=((4+5*j:Nat):Int) by omega,show (9:Int)+5*((0:Int)+(j:Int))=((9+5*j:Nat):Int) by omega,yky,List.length_map,dl,← List.map_drop,← List.map_take,
      show min (9+5*j) 19-min (4+5*j) 19=5 by omega,show min (4+5*j) 19=4+5*j by omega,take5 (by omega)]
     rfl
    have dig:∀ (o:Nat) (z:Int),([3,(n:Int),n,n,10,6,6,2,2,10,6,6,2,2,10,6,6,2,2]:List Int)[4+5*j+o]?=some z→0≤ds.getD (4+5*j+o) 0∧ds.getD (4+5*j+o) 0<z:=fun o z hz=>by
     obtain ⟨d,h1,h2,h3⟩:=hD.get hz
     rw[List.getD_eq_getElem?_getD,h1]
     exact ⟨h2,h3⟩
    have z0:=dig 0 10 (by rcases (by omega:j=0∨j=1∨j=2) with rfl|rfl|rfl<;>rfl)
    have z1:=dig 1 6 (by rcases (by omega:j=0∨j=1∨j=2) with rfl|rfl|rfl<;>rfl)
    have z2:=dig 2 6 (by rcases (by omega:j=0∨j=1∨j=2) with rfl|rfl|rfl<;>rfl)
    have z3:=dig 3 2 (by rcases (by omega:j=0∨j=1∨j=2) with rfl|rfl|rfl<;>rfl)
    have z4:=dig 4 2 (by rcases (by omega:j=0∨j=1∨j=2) with rfl|rfl|rfl<;>rfl)
    have s9:=(Same.refl H9).upd (o:=.lst (cutV (ds.map V.int) (some ((4:Int)+5*((0:Int)+(j:Int)))) (some ((9:Int)+5*((0:Int)+(j:Int)))))) w1
    have f9:=yaa (H:=H9) (a:=q) (o:=.lst (cutV (ds.map V.int) (some ((4:Int)+5*((0:Int)+(j:Int)))) (some ((9:Int)+5*((0:Int)+(j:Int))))))
    revert s9 f9
    generalize hHA:upd H9 q (.lst (cutV (ds.map V.int) (some ((4:Int)+5*((0:Int)+(j:Int)))) (some ((9:Int)+5*((0:Int)+(j:Int))))))=HA
    intro s9 f9
    rw[ecut] at f9
    refine ⟨_,rfl,q,S,_,_,_,_,_,ss,n,rfl,(by first|exact f9|(rw[hHA];exact f9)),z0.1,z0.2,z1.1,z2.1,z3.1,z3.2,z4.1,z4.2,(by first|exact s9 _ _ (s8 _ _ hS)|(rw[hHA];exact s9 _ _ (s8 _ _ hS))),ok,by omega,fun v h ns HB sB hv nv oh hmem=>?_⟩
    have sB':Same HA HB:=by first|exact sB|(rw[hHA] at sB;exact sB)
    have s9B:=s9.trans sB'
    refine ⟨_,s9B _ _ e8,qb5 (by have:=v8.len;omega),us++[v],hs++[h],(s8.trans s9B).at hD2,yaa,?_,by simp[hl8],?_,?_⟩
    ·have keep:∀ u g,HAt HB u g→HAt (upd HB D (.lst (us++[v]))) u g:=fun u g ⟨a,e,ha⟩=>⟨a,e,by rw[yai (fun z=>by subst z;rw[s9B _ _ e8] at ha;cases ha)];exact ha⟩
     have v9:=v8.same s9B
     exact HsV.snoc ⟨v9.len,fun i u g h1 h2=>keep u g (v9.at_ i u g h1 h2)⟩ (keep v h hv)
    ·intro g hg
     rcases List.mem_append.mp hg with hg|hg
     ·exact ok8 g hg
     ·rw[List.mem_singleton.mp hg];exact ⟨ns,oh⟩
    ·intro g hg
     rcases List.mem_append.mp hg with hg|hg
     ·exact hm8 g hg
     ·rw[List.mem_singleton.mp hg];exact hmem
end
noncomputable def fsM (L Cc:Addr):List (Str×V):=[("harms",.ref L),("cells",.ref Cc)]
structure CM (K:PySem.W.Frag) (C:Addr):Prop where
 c:Cls K C
 nh:qfa K C "harms"
 nc:qfa K C "cells"
structure MemO (H:Hp) (C m L Cc:Addr) (us:List V) (hs:List Hm) (cs:List Int):Prop where
 o:∃ dx,H m=some (.ins C dx (fsM L Cc))
 m:Mem H L Cc us hs cs
theorem lk_h {L Cc:Addr}:(fsM L Cc).lookup ("harms" : Str)=some (V.ref L):=by
 unfold fsM
 rw[List.lookup_cons,show (("harms" : Str) == "harms")=true by decide +kernel]
theorem lk_c {L Cc:Addr}:(fsM L Cc).lookup ("cells" : Str)=some (V.ref Cc):=by
 unfold fsM
 rw[List.lookup_cons,show (("cells" : Str) == "harms")=false by decide +kernel,List.lookup_cons,show (("cells" : Str) == "cells")=true by decide +kernel]
theorem lk_n {L Cc:Addr}{f:Str} (h1:(f == ("harms" : Str))=false:=by decide +kernel) (h2:(f == ("cells" : Str))=false:=by decide +kernel):(fsM L Cc).lookup f=none:=by
 unfold fsM
 rw[List.lookup_cons,h1,List.lookup_cons,h2]
 rfl
section
variable {P:Program}{w:World}{K:PySem.W.Frag}{mg:Str→Option Value}{base:Heap}{C:Addr}
noncomputable def qf9 (C:Addr):Sp:=fun vs H Q _=>∃ m L Cc us hs cs a,vs=[.ref m,.int a]∧MemO H C m L Cc us hs cs∧0≤a∧a<cs.length∧Q .non H
noncomputable abbrev yal:Stmt:=ydu (top 62) 1
theorem qbq:FnScope ["self","address"] ["self","address"] (yac yal):=⟨rfl,rfl,rfl,by decide +kernel,rfl,by decide +kernel,by decide +kernel⟩
theorem ylt (B:Bl mg) (cm:CM K C) (ya0:Has P w K mg base 1 "is_whole" ["thing"] qcf) (F:ycm K C "look_at_address" "Memory.look_at_address" yal ["self","address"]):HasM P w K mg base C 2 "look_at_address" ["self","address"] (qf9 C):=by
 refine HasM.ofQ F qbq (fun vs H Q E h=>?_) (fun f cdv A outer s H vs Q E hr h=>?_)
 ·obtain ⟨m,L,Cc,us,hs,cs,a,rfl,_⟩:=h
  rfl
 ·obtain ⟨m,L,Cc,us,hs,cs,a,rfl,⟨⟨dx,ho⟩,mm⟩,h0,h1,k⟩:=h
  have sc:=qbq
  refine ⟨_,(yam rfl (qag (ya9 (QW.pt (qlx (qd8 (ycg (qaq ya0 hr (yak (qab (pv 1)) qaf)))) (qlx (qaz op_lt (qab (pv 1)) (qab qac) (qaj _)) (yj2 (qaz qig (qab (pv 1)) (ybf yag rfl (B.of rfl) boot_len (qfz (qdq (qab (pv 0)) rfl) qaf)) (qaj _))))))
    (qag (qee yco))
    yaw))),?_⟩
  refine ⟨_,rfl,a,rfl,_,rfl,iteN rfl ?_⟩
  refine ⟨_,rfl,_,_,rfl,rfl,_,rfl,ybe (by omega) ?_⟩
  refine ⟨_,rfl,_,rfl,m,C,dx,_,_,rfl,ho,cm.c,cm.nc,lk_c,Cc,_,rfl,.inl (SqL.of mm.hc),_,_,rfl,rfl,_,rfl,ybe (by rw[List.length_map];omega) ?_⟩
  exact k
noncomputable def yh8 (C:Addr):Sp:=fun vs H Q _=>∃ m L Cc us hs cs a,vs=[.ref m,.int a]∧MemO H C m L Cc us hs cs∧InR hs cs.length∧0≤a∧a<cs.length∧∀ H',UpC H Cc (qcp hs cs a).2 H'→Q (.int (qcp hs cs a).1) H'
noncomputable abbrev qa4:Stmt:=ydu (top 62) 2
theorem yd5:FnScope ["self","address"] ["self","address"] (yac qa4):=⟨rfl,rfl,rfl,by decide +kernel,rfl,by decide +kernel,by decide +kernel⟩
theorem qlu (cm:CM K C) (yez:HasM P w K mg base C 2 "look_at_address" ["self","address"] (qf9 C)) (qkx:Has P w K mg base 4 "read_at" ["harms","cells","address"] qg3) (F:ycm K C "read" "Memory.read" qa4 ["self","address"]):HasM P w K mg base C 5 "read" ["self","address"] (yh8 C):=by
 refine HasM.ofQ F yd5 (fun vs H Q E h=>?_) (fun f cdv A outer s H vs Q E hr h=>?_)
 ·obtain ⟨m,L,Cc,us,hs,cs,a,rfl,_⟩:=h
  rfl
 ·obtain ⟨m,L,Cc,us,hs,cs,a,rfl,mo,hi,h0,h1,k⟩:=h
  obtain ⟨⟨dx,ho⟩,mm⟩:=id mo
  have sc:=yd5
  refine ⟨_,(yam rfl (qad (ya8 (yft cm.c yez hr (qab (pv 0)) (yak (qab (pv 1)) qaf)))
   (qag (qas (qaq qkx hr (qfz (qdq (qab (pv 0)) rfl) (qfz (qdq (qab (pv 0)) rfl) (yak (qab (pv 1)) qaf)))))))),?_⟩
  refine ⟨_,rfl,m,dx,_,rfl,ho,lk_n,_,rfl,m,L,Cc,us,hs,cs,a,rfl,mo,h0,h1,?_⟩
  refine ⟨_,rfl,m,C,dx,_,_,rfl,ho,cm.c,cm.nh,lk_h,_,rfl,m,C,dx,_,_,rfl,ho,cm.c,cm.nc,lk_c,_,rfl,L,Cc,us,hs,cs,a,rfl,mm,hi,h0,h1,k⟩
noncomputable def qd7:Sp:=fun vs H Q _=>∃ b,vs=[.int (b2i b)]∧∀ H',Same H H'→Q .non H'
noncomputable abbrev yca:Stmt:=top 61
theorem qd5:FnScope ["thing"] ["thing"] (yac yca):=⟨rfl,rfl,rfl,by decide +kernel,rfl,by decide +kernel,by decide +kernel⟩
theorem qgw (qbx:Has P w K mg base 2 "is_bit" ["thing"] qev) (F:FnAt K mg "look_at_bit" yca ["thing"]):Has P w K mg base 3 "look_at_bit" ["thing"] qd7:=by
 refine Has.ofQ F qd5 (fun vs H Q E h=>?_) (fun f cdv A outer s H vs Q E hr h=>?_)
 ·obtain ⟨b,rfl,_⟩:=h
  rfl
 ·obtain ⟨b,rfl,k⟩:=h
  have sc:=qd5
  refine ⟨_,(yam rfl (qag (ya9 (qd8 (ycg (qaq qbx hr (yak (qab (pv 0)) qaf))))
    (qag (qee yco))
    yaw))),?_⟩
  exact ⟨_,rfl,b,rfl,fun H' s'=>⟨_,rfl,iteN rfl (k H' s')⟩⟩
noncomputable def yg2 (C:Addr):Sp:=fun vs H Q _=>∃ m L Cc us hs cs a b,vs=[.ref m,.int a,.int (b2i b)]∧MemO H C m L Cc us hs cs∧InR hs cs.length∧0≤a∧a<cs.length∧∀ H',UpC H Cc (qe0 hs cs a (b2i b)) H'→Q .non H'
noncomputable abbrev qa0:Stmt:=ydu (top 62) 3
theorem ydr:FnScope ["self","address","bit"] ["self","address","bit"] (yac qa0):=⟨rfl,rfl,rfl,by decide +kernel,rfl,by decide +kernel,by decide +kernel⟩
theorem qki (cm:CM K C) (yez:HasM P w K mg base C 2 "look_at_address" ["self","address"] (qf9 C)) (qhq:Has P w K mg base 3 "look_at_bit" ["thing"] qd7) (qj7:Has P w K mg base 5 "write_at" ["harms","cells","address","bit"] qge) (F:ycm K C "write" "Memory.write" qa0 ["self","address","bit"]):HasM P w K mg base C 6 "write" ["self","address","bit"] (yg2 C):=by
 refine HasM.ofQ F ydr (fun vs H Q E h=>?_) (fun f cdv A outer s H vs Q E hr h=>?_)
 ·obtain ⟨m,L,Cc,us,hs,cs,a,b,rfl,_⟩:=h
  rfl
 ·obtain ⟨m,L,Cc,us,hs,cs,a,b,rfl,mo,hi,h0,h1,k⟩:=h
  obtain ⟨⟨dx,ho⟩,mm⟩:=id mo
  have sc:=ydr
  refine ⟨_,(yam rfl (qad (ya8 (yft cm.c yez hr (qab (pv 0)) (yak (qab (pv 1)) qaf)))
   (qad (ya8 (qaq qhq hr (yak (qab (pv 2)) qaf)))
   (qag (ya8 (qaq qj7 hr (qfz (qdq (qab (pv 0)) rfl) (qfz (qdq (qab (pv 0)) rfl) (yak (qab (pv 1)) (yak (qab (pv 2)) qaf)))))))))),?_⟩
  refine ⟨_,rfl,m,dx,_,rfl,ho,lk_n,_,rfl,m,L,Cc,us,hs,cs,a,rfl,mo,h0,h1,?_⟩
  refine ⟨_,rfl,b,rfl,fun H1 s1=>?_⟩
  have ho1:=s1 _ _ ho
  refine ⟨_,rfl,m,C,dx,_,_,rfl,ho1,cm.c,cm.nh,lk_h,_,rfl,m,C,dx,_,_,rfl,ho1,cm.c,cm.nc,lk_c,_,rfl,_,rfl,L,Cc,us,hs,cs,a,_,rfl,mm.same s1,hi,h0,h1,fun H2 u2=>?_⟩
  exact k H2 ((UpC.of s1 mm.hc).trans u2)
noncomputable def yg0 (C:Addr):Sp:=fun vs H Q _=>∃ m L Cc us hs cs,vs=[.ref m]∧MemO H C m L Cc us hs cs∧∀ D,H D=none→Q (.ref D) (upd H D (.lst (cs.map V.int)))
noncomputable abbrev yaz:Stmt:=ydu (top 62) 4
theorem qdk:FnScope ["self"] ["self"] (yac yaz):=⟨rfl,rfl,rfl,by decide +kernel,rfl,by decide +kernel,by decide +kernel⟩
theorem yj6 (B:Bl mg) (cm:CM K C) (F:ycm K C "holds" "Memory.holds" yaz ["self"]):HasM P w K mg base C 1 "holds" ["self"] (yg0 C):=by
 refine HasM.ofQ F qdk (fun vs H Q E h=>?_) (fun f cdv A outer s H vs Q E hr h=>?_)
 ·obtain ⟨m,L,Cc,us,hs,cs,rfl,_⟩:=h
  rfl
 ·obtain ⟨m,L,Cc,us,hs,cs,rfl,⟨⟨dx,ho⟩,mm⟩,k⟩:=h
  have sc:=qdk
  refine ⟨_,(yam rfl (qag (qas (qbh yb5 rfl (B.of rfl) boot_list (qfz (qdq (qab (pv 0)) rfl) qaf))))),?_⟩
  exact ⟨_,rfl,m,C,dx,_,_,rfl,ho,cm.c,cm.nc,lk_c,Cc,_,rfl,.inl (SqL.of mm.hc),k⟩
noncomputable def qhz (C:Addr):Sp:=fun vs H Q _=>∃ m L Cc us hs cs,vs=[.ref m]∧MemO H C m L Cc us hs cs∧Q (.int (cs.length:Nat)) H
noncomputable abbrev ya5:Stmt:=ydu (top 62) 5
theorem qd4:FnScope ["self"] ["self"] (yac ya5):=⟨rfl,rfl,rfl,by decide +kernel,rfl,by decide +kernel,by decide +kernel⟩
theorem qla (B:Bl mg) (cm:CM K C) (F:ycm K C "size" "Memory.size" ya5 ["self"]):HasM P w K mg base C 1 "size" ["self"] (qhz C):=by
 refine HasM.ofQ F qd4 (fun vs H Q E h=>?_) (fun f cdv A outer s H vs Q E hr h=>?_)
 ·obtain ⟨m,L,Cc,us,hs,cs,rfl,_⟩:=h
  rfl
 ·obtain ⟨m,L,Cc,us,hs,cs,rfl,⟨⟨dx,ho⟩,mm⟩,k⟩:=h
  have sc:=qd4
  refine ⟨_,(yam rfl (qag (qas (ybf yag rfl (B.of rfl) boot_len (qfz (qdq (qab (pv 0)) rfl) qaf))))),?_⟩
  refine ⟨_,rfl,m,C,dx,_,_,rfl,ho,cm.c,cm.nc,lk_c,Cc,_,rfl,.inl (SqL.of mm.hc),?_⟩
  rw[List.length_map]
  exact k
noncomputable def qek (C:Addr):Sp:=fun vs H Q _=>∃ (x dx L0 C0:Addr) (us:List V) (hs:List Hm) (S cs:List Int),vs=[.ref x,.int (cs.length:Nat),.ref L0,.ref C0]∧H x=some (.ins C dx [])∧H L0=some (.lst us)∧HsV H us hs∧okHs hs S∧InR hs cs.length∧H C0=some (.lst (cs.map V.int))∧bits cs∧1≤cs.length∧cs.length≤64∧
 ∀ (L Cc:Addr) (H':Hp),(∀ b u,b≠x→H b=some u→H' b=some u)→H L=none→H Cc=none→MemO H' C x L Cc us hs (yge hs cs)→Q .non H'
noncomputable abbrev yao:Stmt:=ydu (top 62) 0
theorem yax:FnScope ["self","size","harms","contents"] ["self","size","harms","contents"] (yac yao):=⟨rfl,rfl,rfl,by decide +kernel,rfl,by decide +kernel,by decide +kernel⟩
theorem yl2 (B:Bl mg) (cm:CM K C) (qay:Has P w K mg base 8 "look_at_memory" ["size","harms","contents"] ybk) (qes:Has P w K mg base 3 "settle" ["harms","cells"] qem) (F:ycm K C "__init__" "Memory.__init__" yao ["self","size","harms","contents"]):HasM P w K mg base C 9 "__init__" ["self","size","harms","contents"] (qek C):=by
 refine HasM.ofQ F yax (fun vs H Q E h=>?_) (fun f cdv A outer s H vs Q E hr h=>?_)
 ·obtain ⟨x,dx,L0,C0,us,hs,S,cs,rfl,_⟩:=h
  rfl
 ·obtain ⟨x,dx,L0,C0,us,hs,S,cs,rfl,hx,hL,hv,ok,hi,hC,hb,l1,l64,k⟩:=h
  have sc:=yax
  refine ⟨_,(yam rfl (qad (ya8 (qaq qay hr (yak (qab (pv 1)) (yak (qab (pv 2)) (yak (qab (pv 3)) qaf)))))
   (qad (qju (qab (pv 0)) (qbh yb5 rfl (B.of rfl) boot_list (yak (qab (pv 2)) qaf)) rfl)
   (qad (qju (qab (pv 0)) (qbh yb5 rfl (B.of rfl) boot_list (yak (qab (pv 3)) qaf)) rfl)
   (qag (ya8 (qaq qes hr (qfz (qdq (qab (pv 0)) rfl) (qfz (qdq (qab (pv 0)) rfl) qaf))))))))),?_⟩
  refine ⟨_,rfl,_,rfl,_,rfl,L0,us,hs,S,C0,cs,rfl,hL,hv,ok,hi,hC,hb,l1,l64,fun H1 s1=>?_⟩
  refine ⟨_,rfl,L0,_,rfl,.inl (SqL.of (s1 _ _ hL)),fun L n1=>?_⟩
  have s2:Same H1 (upd H1 L (.lst us)):=(Same.refl H1).upd n1
  have f2:upd H1 L (.lst us) L=some (.lst us):=yaa
  revert s2 f2
  generalize upd H1 L (.lst us)=H2
  intro s2 f2
  have s12:=s1.trans s2
  refine ⟨_,rfl,x,C,dx,_,rfl,s12 _ _ hx,cm.c,cm.nh,by simp,?_⟩
  have nLx:L≠x:=fun z=>by subst z;rw[s1 _ _ hx] at n1;cases n1
  have u3:∀ b u,b≠x→H2 b=some u→upd H2 x (.ins C dx (putF "harms" (.ref L) [])) b=some u:=fun b u h e=>by rw[yai h];exact e
  have f3:upd H2 x (.ins C dx (putF "harms" (.ref L) [])) x=some (.ins C dx [("harms",.ref L)]):=yaa
  revert u3 f3
  generalize upd H2 x (.ins C dx (putF "harms" (.ref L) []))=H3
  intro u3 f3
  have nx:∀ {b:Addr}{xs:List V},H b=some (.lst xs)→b≠x:=fun e z=>by subst z;rw[hx] at e;cases e
  refine ⟨_,rfl,C0,_,rfl,.inl (SqL.of (u3 _ _ (nx hC) (s12 _ _ hC))),fun Cc n4=>?_⟩
  have nCx:Cc≠x:=fun z=>by subst z;rw[f3] at n4;cases n4
  have nLC:L≠Cc:=fun z=>by subst z;rw[u3 _ _ nLx f2] at n4;cases n4
  have s4:Same H3 (upd H3 Cc (.lst (cs.map V.int))):=(Same.refl H3).upd n4
  have f4:upd H3 Cc (.lst (cs.map V.int)) Cc=some (.lst (cs.map V.int)):=yaa
  revert s4 f4
  generalize upd H3 Cc (.lst (cs.map V.int))=H4
  intro s4 f4
  refine ⟨_,rfl,x,C,dx,_,rfl,s4 _ _ f3,cm.c,cm.nc,by simp,?_⟩
  have u5:∀ b u,b≠x→H4 b=some u→upd H4 x (.ins C dx (putF "cells" (.ref Cc) [("harms",.ref L)])) b=some u:=fun b u h e=>by rw[yai h];exact e
  have f5:upd H4 x (.ins C dx (putF "cells" (.ref Cc) [("harms",.ref L)])) x=some (.ins C dx (fsM L Cc)):=by
   rw[yaa]
   have:putF "cells" (V.ref Cc) [("harms",.ref L)]=fsM L Cc:=by
    unfold fsM putF
    rw[if_neg (by decide +kernel)]
    rfl
   rw[this]
  revert u5 f5
  generalize upd H4 x (.ins C dx (putF "cells" (.ref Cc) [("harms",.ref L)]))=H5
  intro u5 f5
  have hc0:H Cc=none:=by
   cases e:H Cc with
   | none=>rfl
   | some u=>have:=u3 _ _ nCx (s12 _ _ e);rw[n4] at this;cases this
  have hl0:H L=none:=s1.free n1
  have up:∀ b u,b≠x→H b=some u→H5 b=some u:=fun b u h e=>u5 _ _ h (s4 _ _ (u3 _ _ h (s12 _ _ e)))
  have m5:Mem H5 L Cc us hs cs:=⟨nLC,u5 _ _ nLx (s4 _ _ (u3 _ _ nLx f2)),⟨hv.len,fun i v h a b=>by
   obtain ⟨z,e,hz⟩:=hv.at_ i v h a b
   exact ⟨z,e,up _ _ (fun q=>by subst q;rw[hx] at hz;cases hz) hz⟩⟩,ok.ok,u5 _ _ nCx f4⟩
  refine ⟨_,rfl,x,C,dx,_,_,rfl,f5,cm.c,cm.nh,lk_h,_,rfl,x,C,dx,_,_,rfl,f5,cm.c,cm.nc,lk_c,L,Cc,us,hs,cs,rfl,m5,hi,l64,?_⟩
  refine k L Cc _ (fun b u h e=>?_) hl0 hc0 ⟨⟨dx,?_⟩,m5.upd _⟩
  ·rw[yai (fun z=>by subst z;rw[hc0] at e;cases e)]
   exact up b u h e
  ·rw[yai (fun z=>nCx z.symm)]
   exact f5
end
noncomputable def qck (cs:List Int):PyData:=.list (cs.map PyData.int)
theorem qhs {H:Hp}:∀ (cs:List Int),AtAll H (cs.map V.int) (cs.map PyData.int)
 | []=>.nil
 | c::r=>.cons (.int c) (qhs r)
theorem ygj {H:Hp}{p:Addr}{cs:List Int} (h:H p=some (.lst (cs.map V.int))):At H (.ref p) (qck cs):=.lst h (qhs cs)
theorem qjg:∀ (cs:List Int),PyData.canLayAll0 (cs.map PyData.int)=true
 | []=>rfl
 | c::r=>by show (true&&_)=true;rw[qjg r];rfl
theorem qc0 (cs:List Int):(qck cs).canLay0=true:=qjg cs
theorem yg9 (cs:List Int):(qck cs).depth≤10:=by
 have:=qdd (n:=1) (xs:=cs.map PyData.int) fun x hx=>by
  obtain ⟨h,hh,rfl⟩:=List.mem_map.mp hx
  simp[PyData.depth]
 simp only[qck,PyData.depth]
 omega
theorem MemO.upC {H H':Hp}{K m L C:Addr}{us:List V}{hs:List Hm}{cs ds:List Int} (x:MemO H K m L C us hs cs) (u:UpC H C ds H'):MemO H' K m L C us hs ds:=by
 obtain ⟨⟨dx,ho⟩,mm⟩:=x
 exact ⟨⟨dx,u.st _ _ (fun z=>by subst z;rw[mm.hc] at ho;cases ho) ho⟩,mm.upC u⟩
theorem MemO.same {H H':Hp}{K m L C:Addr}{us:List V}{hs:List Hm}{cs:List Int} (x:MemO H K m L C us hs cs) (s:Same H H'):MemO H' K m L C us hs cs:=by
 obtain ⟨⟨dx,ho⟩,mm⟩:=x
 exact ⟨⟨dx,s _ _ ho⟩,mm.same s⟩
theorem yka (hs:List Hm) (cs:List Int) (a:Int):(qcp hs cs a).2.length=cs.length:=qe5 _ _ _
theorem yi6 (hs:List Hm) (cs:List Int) (a b:Int):(qe0 hs cs a b).length=cs.length:=ygt _ _ _ _
noncomputable abbrev Stp:=Bool×Bool
noncomputable abbrev Elm:=Str×List Stp
noncomputable def qk5 (w:Bool):Str:=if w then "w" else "r"
noncomputable def qe1 (s:Stp):PyData:=.tuple [.str (qk5 s.1),.int (b2i s.2)]
noncomputable def qd2 (e:Elm):PyData:=.tuple [.str e.1,.list (e.2.map qe1)]
noncomputable def ybv (T:List Elm):PyData:=.list (T.map qd2)
noncomputable def okO (o:Str):Prop:=o="up"∨o="down"∨o="any"
noncomputable def okE (e:Elm):Prop:=okO e.1∧1≤e.2.length∧e.2.length≤6
noncomputable def okT (T:List Elm):Prop:=1≤T.length∧T.length≤8∧∀ e∈T,okE e
theorem step_at {H:Hp}{v:V}{s:Stp} (h:At H v (qe1 s)):∃ a,v=.ref a∧H a=some (.tup [.str (qk5 s.1),.int (b2i s.2)]):=by
 obtain ⟨a,vs,rfl,h1,h2⟩:=h.tupEq
 cases h2 with
 | cons x r=>
  cases r with
  | cons y r=>
   cases r
   rw[x.strEq,y.intEq] at h1
   exact ⟨a,rfl,h1⟩
theorem qf7 {H:Hp}{v:V}{e:Elm} (h:At H v (qd2 e)):∃ a l ws,v=.ref a∧H a=some (.tup [.str e.1,.ref l])∧H l=some (.lst ws)∧AtAll H ws (e.2.map qe1):=by
 obtain ⟨a,vs,rfl,h1,h2⟩:=h.tupEq
 cases h2 with
 | cons x r=>
  cases r with
  | cons y r=>
   cases r
   obtain ⟨l,ws,rfl,h3,h4⟩:=y.lstEq
   rw[x.strEq] at h1
   exact ⟨a,l,ws,rfl,h1,h3,h4⟩
theorem ykf {o:Str} (h:okO o):inV (.str o) [.str "up",.str "down",.str "any"]=true:=by
 rcases h with rfl|rfl|rfl<;>decide +kernel
section
variable {P:Program}{w:World}{K:PySem.W.Frag}{mg:Str→Option Value}{base:Heap}
noncomputable abbrev yeo:Stmt:=top 23
theorem qg2:FnScope ["thing"] ["thing"] (yac yeo):=⟨rfl,rfl,rfl,by decide +kernel,rfl,by decide +kernel,by decide +kernel⟩
noncomputable abbrev qdc:Stmt:=top 24
theorem qfj:FnScope ["thing","most"] ["thing","most"] (yac qdc):=⟨rfl,rfl,rfl,by decide +kernel,rfl,by decide +kernel,by decide +kernel⟩
noncomputable abbrev qew:Stmt:=top 25
theorem ygy:FnScope ["thing"] ["thing"] (yac qew):=⟨rfl,rfl,rfl,by decide +kernel,rfl,by decide +kernel,by decide +kernel⟩
noncomputable abbrev yc6:Stmt:=top 26
theorem qfg:FnScope ["thing"] ["thing"] (yac yc6):=⟨rfl,rfl,rfl,by decide +kernel,rfl,by decide +kernel,by decide +kernel⟩
noncomputable abbrev ybl:Stmt:=top 27
theorem qcr:FnScope ["number","thing","place","step"] ["number","thing"] (yac ybl):=⟨rfl,rfl,rfl,by decide +kernel,rfl,by decide +kernel,by decide +kernel⟩
noncomputable abbrev qb4:Stmt:=top 28
theorem ydp:FnScope ["thing","number","element"] ["thing"] (yac qb4):=⟨rfl,rfl,rfl,by decide +kernel,rfl,by decide +kernel,by decide +kernel⟩
end
noncomputable def kv:Option Bool→V
 | none=>.non
 | some b=>.int (b2i b)
theorem yjx (n:Int):n % 2=b2i (decide (n % 2=1)):=by
 by_cases h:n % 2=1
 ·simp[b2i,h]
 ·have h0:=Int.emod_nonneg n (show (2:Int)≠0 by decide)
  have h1:=Int.emod_lt_of_pos n (show (0:Int)<2 by decide)
  simp only[b2i,h,decide_false]
  show n % 2=0
  omega
theorem order_of {d:Int} (h0:0≤d) (h1:d<3):∃ o,okO o∧atI [V.str "up",.str "down",.str "any"] d=some (.str o):=by
 have h:d=0∨d=1∨d=2:=by omega
 rcases h with rfl|rfl|rfl
 ·exact ⟨_,.inl rfl,rfl⟩
 ·exact ⟨_,.inr (.inl rfl),rfl⟩
 ·exact ⟨_,.inr (.inr rfl),rfl⟩
theorem picks {ds:List Int}{d1:Int} (hd:Dig ds [3,6,4,4,4,4,4,4]) (h0:0≤d1) (h1:d1<6):∃ ps:List Int,cutV (ds.map V.int) (some 2) (some (3+d1))=ps.map V.int∧1≤ps.length∧ps.length≤6∧∀ p∈ps,0≤p∧p<4:=by
 have hl:ds.length=8:=hd.1
 refine ⟨(ds.drop 2).take (1+d1.toNat),?_,?_,?_,fun p hp=>?_⟩
 ·unfold cutV
  have e1:HT.sIx (ds.map V.int).length 0 (some 2)=2:=by
   rw[List.length_map,hl];rfl
  have e2:HT.sIx (ds.map V.int).length (ds.map V.int).length (some (3+d1))=3+d1.toNat:=by
   rw[List.length_map,hl]
   show (if 3+d1<0 then _ else min (3+d1).toNat 8)=_
   rw[if_neg (by omega)]
   omega
  rw[e1,e2,show 3+d1.toNat-2=1+d1.toNat by omega,← List.map_drop,← List.map_take]
 ·rw[List.length_take,List.length_drop];omega
 ·rw[List.length_take,List.length_drop];omega
 ·have hp2:=List.mem_of_mem_take hp
  obtain ⟨i,hi,e⟩:=List.getElem_of_mem hp2
  rw[List.length_drop] at hi
  rw[List.getElem_drop] at e
  have hz:([3,6,4,4,4,4,4,4]:List Int)[2+i]?=some 4:=by
   have:i<6:=by omega
   rcases i with _|_|_|_|_|_|i<;>first|rfl|omega
  have:=hd.2 (2+i) p 4 (by rw[← e];simp) hz
  exact this
section
variable {P:Program}{w:World}{K:PySem.W.Frag}{mg:Str→Option Value}{base:Heap}
noncomputable def yl4:Sp:=fun vs H Q _=>∃ (a:Addr) (cs:List Int) (su:Bool),vs=[.ref a,.bl su]∧H a=some (.lst (cs.map V.int))∧1≤cs.length∧cs.length≤8∧
 ∀ p T H',Same H H'→H p=none→At H' (.ref p) (ybv T)→okT T→T.length=cs.length→Q (.ref p) H'
noncomputable abbrev yc2:Stmt:=top 75
theorem yfd:FnScope ["_law_cells","_law_sure","_law_known","_law_test_here","_law_turn","_law_cell","_law_d","_law_steps","_law_pick","_law_step"] ["_law_cells","_law_sure"] (yac yc2):=⟨rfl,rfl,rfl,by decide +kernel,rfl,by decide +kernel,by decide +kernel⟩
theorem ok_test (B:Bl mg) (yba:Has P w K mg base 1 "_law_digits" ["_law_cell","_law_turn","_law_sizes"] ydj) (F:FnAt K mg "_law_test" yc2 ["_law_cells","_law_sure"]):Has P w K mg base 2 "_law_test" ["_law_cells","_law_sure"] yl4:=by
 refine Has.of F yfd (fun vs H Q E h=>?_) (fun f cdv A outer s H vs Q E hr h=>?_)
 ·obtain ⟨a,cs,su,rfl,_⟩:=h
  rfl
 ·obtain ⟨a,cs,su,rfl,ha,hl0,hl1,k⟩:=h
  have sc:=yfd
  refine ⟨_,(yah (qa2 (i:=2) sc.nd rfl (Or.inl rfl) yb6)
   (yah (qa2 (i:=3) sc.nd rfl (Or.inl rfl) (ybc yab))
   (yah (yci PassesOwn.never rfl (qc8 rfl (B.of rfl) (qaa (pv 0) yab)) (ydg rfl (qan (qak (i:=4) sc.nd rfl (Or.inl rfl)) (qan (qak (i:=5) sc.nd rfl (Or.inl rfl)) qbp)))
    (yah (qa2 (i:=6) sc.nd rfl (Or.inl rfl) (qah yba hr (qaa (pv 5) (qaa (qa7 yb0 qac (pv 4)) (qaa (qa7 yc0 (ybc (qaa qac (qaa qac yab))) (qa7 yfc (ybc (qaa qac yab)) qac)) yab)))))
    (yah (qa2 (i:=7) sc.nd rfl (Or.inl rfl) (ybc yab))
    (yah (yci PassesOwn.never rfl (qbo (ybs ydn (pv 6) (qbi qac) (qbi (qa7 yb0 qac (yan qai (pv 6) qac (fun _ _=>rfl)))))) (qak (i:=8) sc.nd rfl (Or.inl rfl))
     (yah (qa2 (i:=9) sc.nd rfl (Or.inl rfl) (qce (qaa yaj (qaa (qa7 qdh (pv 8) qac) yab))))
     (qkr (qbu (PW.pt (qcm (qao qfk (pv 8) qac (qaj _)) (qci (qde (qco (pv 1))))))
      (yaf (qa2 (i:=9) sc.nd rfl (Or.inl rfl) (qce (qaa yaj (qaa (qa7 qdh (pv 8) qac) yab)))))
      (yaf (qbu (PW.pt (qcm (qao qfk (pv 8) qac (qaj _)) (qci (yh5 (yja (pv 2))))))
       (yaf (qa2 (i:=9) sc.nd rfl (Or.inl rfl) (qce (qaa yaj (qaa (pv 2) yab)))))
       yav)))
     (yah (qa2 (i:=2) sc.nd rfl (Or.inl rfl) (yan yap (pv 9) qac (fun _ _=>rfl)))
     (yaf (ybt (qe4 PySem.F.plainAttrs_list PySem.F.slot_list_append PySem.F.type_list_append qb6 (pv 7) (qaa (pv 9) yab))))))))
    (yaf (ybt (qe4 PySem.F.plainAttrs_list PySem.F.slot_list_append PySem.F.type_list_append qb6 (pv 3) (qaa (qce (qaa (yan qai (ybc (qaa yaj (qaa yaj (qaa yaj yab)))) (yan qai (pv 6) qac (fun _ _=>rfl)) (fun _ _=>rfl)) (qaa (pv 7) yab))) yab))))))))
   (yaf (qat (pv 3)))))),?_⟩
  refine ⟨Nat.zero_le _,fun p hp=>?_⟩
  refine ⟨_,rfl,a,_,rfl,SqL.of (by rw[yai (yae ha hp)];exact ha),qcb (xs:=cs.map V.int) (fun i σ H2=>∃ (kn:Option Bool) (T:List Elm) (q4 q5 q6 q7 q8 q9:Option V),σ=[some (.ref a),some (.bl su),some (kv kn),some (.ref p),q4,q5,q6,q7,q8,q9]∧
   Same H H2∧Bld [] H2 p (T.map qd2)∧(∀ e∈T,okE e)∧T.length=i) ⟨none,[],none,none,none,none,none,none,rfl,(Same.refl H).upd hp,Bld.new,(by intro e he;cases he),rfl⟩ (fun i σ H2 _ ⟨_,_,_,_,_,_,_,_,_,s2,_⟩=>SqL.of (s2 _ _ ha)) ?_ ?_⟩
  ·rintro i x pp σ H2 hx ⟨kn,T,q4,q5,q6,q7,q8,q9,rfl,s2,bT,okT',hTl⟩ hpp
   obtain ⟨c,hc,rfl⟩:=yhc hx
   have hil:i<cs.length:=(List.getElem?_eq_some_iff.mp hc).1
   refine ⟨pp,_,rfl,SqT.of yaa,rfl,_,_,rfl,_,_,rfl,rfl,?_⟩
   generalize hA:upd H2 pp (.tup [.int i,.int c])=HA
   have sA:Same H2 HA:=by rw[← hA];exact (Same.refl H2).upd hpp
   -- the digits
   refine ⟨_,rfl,_,rfl,_,_,rfl,rfl,(by show 2≤sizeLine;decide),fun a1 h1=>⟨(by show 1≤sizeLine;decide),fun a2 h2=>⟨a2,6,_,rfl,rfl,yaa,by decide,by decide,(by show 1*6≤sizeLine;decide),fun a3 h3=>?_⟩⟩⟩
   have e1:upd (upd (upd HA a1 (.lst [.int 3,.int 6])) a2 (.lst [.int 4])) a3 (.lst (List.replicate (6:Int).toNat [V.int 4]).flatten) a1=some (.lst [.int 3,.int 6]):=by
    rw[yai (yae (o:=.lst [.int 3,.int 6]) (by rw[yai (yae yaa h2)];exact yaa) h3),yai (yae yaa h2)];exact yaa
   refine ⟨a1,a3,_,_,rfl,rfl,e1,yaa,(by show 2+6≤sizeLine;decide),fun a4 h4=>?_⟩
   generalize hB:upd (upd (upd (upd HA a1 (.lst [.int 3,.int 6])) a2 (.lst [.int 4])) a3 (.lst (List.replicate (6:Int).toNat [V.int 4]).flatten)) a4 (.lst ([V.int 3,.int 6]++(List.replicate (6:Int).toNat [V.int 4]).flatten))=HB
   have sB:Same HA HB:=by rw[← hB];exact ((((Same.refl HA).upd h1).upd h2).upd h3).upd h4
   have hB4:HB a4=some (.lst (([3,6,4,4,4,4,4,4]:List Int).map V.int)):=by rw[← hB];exact yaa
   refine ⟨c,20+i,a4,[3,6,4,4,4,4,4,4],rfl,hB4,by decide,by decide,by omega,by omega,fun dd ds HC sC nC hC hD=>?_⟩
   obtain ⟨d0,g0,m0,m1⟩:=hD.get (i:=0) (z:=3) rfl
   obtain ⟨d1,g1,n0,n1⟩:=hD.get (i:=1) (z:=6) rfl
   -- the steps
   refine ⟨Nat.zero_le _,fun l hl=>?_⟩
   have hC1:upd HC l (.lst []) dd=some (.lst (ds.map V.int)):=by rw[yai (yae hC hl)];exact hC
   obtain ⟨ps,eps,pl0,pl1,hps⟩:=picks hD n0 n1
   refine ⟨_,rfl,2,rfl,_,rfl,dd,_,_,_,rfl,rfl,SqL.of hC1,yad 1 (ya7 g1),_,_,rfl,rfl,_,rfl,dd,_,rfl,SqL.of hC1,fun sp hsp=>?_⟩
   rw[eps]
   generalize hE:upd (upd HC l (.lst [])) sp (.lst (ps.map V.int))=HE
   have sC2:Same H2 HC:=(sA.trans sB).trans sC
   have sE:Same HC HE:=by rw[← hE];exact ((Same.refl HC).upd hl).upd hsp
   have hEsp:HE sp=some (.lst (ps.map V.int)):=by rw[← hE];exact yaa
   have hEl:HE l=some (.lst []):=by rw[← hE,yai (yae yaa hsp)];exact yaa
   have nlp:l≠p:=(yae (sC2 _ _ bT.choose_spec.1) hl).symm
   have nlsp:l≠sp:=yae (o:=.lst []) yaa hsp
   have nsp:HC sp=none:=by
    have:=hsp;rw[yai nlsp.symm] at this;exact this
   refine ⟨sp,rfl,⟨_,SqL.of hEsp⟩,ybj (xs:=ps.map V.int) (fun j σ H3=>∃ (kn:Option Bool) (ss:List Stp) (q8 q9:Option V),σ=[some (.ref a),some (.bl su),some (kv kn),some (.ref p),some (.int i),some (.int c),some (.ref dd),some (.ref l),q8,q9]∧
    Same HC H3∧H3 sp=some (.lst (ps.map V.int))∧Bld [p] H3 l (ss.map qe1)∧ss.length=j) ⟨kn,[],q8,q9,rfl,sE,hEsp,⟨[],hEl,.nil⟩,rfl⟩ (fun j σ H3 _ ⟨_,_,_,_,_,_,h,_⟩=>SqL.of h) ?_ ?_⟩
   ·rintro j x σ H3 hx ⟨kn,ss,q8,q9,rfl,s3,hsp3,bS,hsl⟩
    obtain ⟨pk,hpk,rfl⟩:=yhc hx
    have hjl:j<ps.length:=(List.getElem?_eq_some_iff.mp hpk).1
    refine ⟨_,rfl,_,_,rfl,rfl,(by show (0:Int)<2;decide),(by show 2≤sizeLine;decide),fun q hq=>?_⟩
    have sq:Same H3 (upd H3 q (.tup [.str "w",.int (pk % 2)])):=(Same.refl H3).upd hq
    refine ⟨fun σ' H'=>∃ q' sw sb,σ'=[some (.ref a),some (.bl su),some (kv kn),some (.ref p),some (.int i),some (.int c),some (.ref dd),some (.ref l),some (.int pk),some (.ref q')]∧Same H3 H'∧H' q'=some (.tup [.str (qk5 sw),.int (b2i sb)]),?_,?_⟩
    ·have base1:∃ q' sw sb,[some (V.ref a),some (.bl su),some (kv kn),some (.ref p),some (.int i),some (.int c),some (.ref dd),some (.ref l),some (.int pk),some (.ref q)]=[some (.ref a),some (.bl su),some (kv kn),some (.ref p),some (.int i),some (.int c),some (.ref dd),some (.ref l),some (.int pk),some (.ref q')]∧Same H3 (upd H3 q (.tup [.str "w",.int (pk % 2)]))∧upd H3 q (.tup [.str "w",.int (pk % 2)]) q'=some (.tup [.str (qk5 sw),.int (b2i sb)]):=
      ⟨q,true,decide (pk % 2=1),rfl,sq,by rw[yaa,← yjx];rfl⟩
     refine ⟨_,rfl,_,_,rfl,rfl,_,rfl,?_⟩
     by_cases h1p:1<pk
     ·refine iteD h1p ⟨_,rfl,su,rfl,?_⟩
      cases su with
      | false=>
       refine iteT ⟨_,rfl,_,_,rfl,rfl,(by show (0:Int)<2;decide),(by show 2≤sizeLine;decide),fun q2 hq2=>?_⟩
       exact ⟨q2,false,decide (pk % 2=1),rfl,sq.upd hq2,by rw[yaa,← yjx];rfl⟩
      | true=>
       refine iteF ⟨_,rfl,_,_,rfl,rfl,_,rfl,iteD h1p ⟨_,rfl,_,rfl,?_⟩⟩
       cases kn with
       | none=>exact iteN (by simp[kv]) base1
       | some kb=>
        refine iteB (by simp[kv]) ⟨_,rfl,(by show 2≤sizeLine;decide),fun q2 hq2=>?_⟩
        exact ⟨q2,false,kb,rfl,sq.upd hq2,by rw[yaa];rfl⟩
     ·refine iteN (decide_eq_false h1p) (iteF ⟨_,rfl,_,_,rfl,rfl,_,rfl,iteN (decide_eq_false h1p) (iteF ?_)⟩)
      exact base1
    ·rintro σ' H4 ⟨q',sw,sb,rfl,s4,hq'⟩
     have bS4:=bS.grow s4
     obtain ⟨us,hus,_⟩:=id bS4
     have hul:=bS4.len hus
     rw[List.length_map] at hul
     have nql:q'≠l:=ne_of hq' hus (by intro z;cases z)
     have nqp:q'≠p:=ne_of hq' ((bT.grow ((sC2.trans s3).trans s4)).choose_spec.1) (by intro z;cases z)
     refine ⟨_,rfl,q',_,_,_,rfl,rfl,SqT.of hq',rfl,?_⟩
     refine ⟨_,rfl,.inl ⟨rfl,_,SqL.of hus⟩,_,rfl,l,us,.ref q',rfl,rfl,hus,qb5 (by omega),?_⟩
     refine ⟨some sb,ss++[(sw,sb)],_,_,rfl,(s3.trans s4).at hl,?_,?_,by simp[hsl]⟩
     ·rw[yai nlsp.symm]
      exact s4 _ _ hsp3
     ·rw[List.map_append]
      refine bS4.push hus (.tup (by rw[ya2 (by simp[nql,nqp])];exact hq') (.cons (.str _) (.cons (.int _) .nil)))
   ·rintro σ H3 ⟨kn3,ss,q8,q9,rfl,s3,hsp3,bS,hsl⟩
    rw[List.length_map] at hsl
    have bT3:=bT.grow (sC2.trans s3)
    obtain ⟨ws,hws,_⟩:=id bT3
    have hwl:=bT3.len hws
    rw[List.length_map] at hwl
    obtain ⟨o,ho,hat⟩:=order_of m0 m1
    refine ⟨_,rfl,.inl ⟨rfl,_,SqL.of hws⟩,(by show 3≤sizeLine;decide),fun r hr=>?_⟩
    have hd3:upd H3 r (.lst [.str "up",.str "down",.str "any"]) dd=some (.lst (ds.map V.int)):=by rw[yai (yae (s3 _ _ hC) hr)];exact s3 _ _ hC
    refine ⟨_,rfl,dd,_,_,_,rfl,rfl,SqL.of hd3,yad 0 (ya7 g0),r,_,_,_,rfl,rfl,SqL.of yaa,hat,_,rfl,(by show 2≤sizeLine;decide),fun e he=>?_⟩
    generalize hF:upd H3 r (.lst [.str "up",.str "down",.str "any"])=HF at he hd3
    have sF:Same H3 HF:=by rw[← hF];exact (Same.refl H3).upd hr
    have sG:Same H3 (upd HF e (.tup [.str o,.ref l])):=sF.upd he
    have hws2:=sG _ _ hws
    have nep:e≠p:=(yae (sF _ _ hws) he).symm
    refine ⟨p,ws,.ref e,rfl,rfl,hws2,qb5 (by omega),?_⟩
    refine ⟨kn3,T++[(o,ss)],_,_,_,_,_,_,rfl,((s2.trans sC2).trans (s3.trans sG)).at hp,?_,?_,by simp[hTl]⟩
    ·rw[List.map_append]
     refine (bT3.grow sG).push hws2 (.tup (by rw[ya2 (by simp[nep])];exact yaa) (.cons (.str _) (.cons ?_ .nil)))
     exact (bS.at (by simp[nlp])).same (qam sG _)
    ·intro e2 he2
     rcases List.mem_append.mp he2 with h|h
     ·exact okT' e2 h
     ·have:e2=(o,ss):=by simpa using h
      subst this
      exact ⟨ho,by show 1≤ss.length;omega,by show ss.length≤6;omega⟩
  ·rintro σ H2 ⟨kn,T,q4,q5,q6,q7,q8,q9,rfl,s2,bT,okT',hTl⟩
   rw[List.length_map] at hTl
   exact ⟨_,rfl,k p T H2 s2 hp bT.out ⟨by omega,by omega,okT'⟩ hTl⟩
end
noncomputable def okU (o:Str):Prop:=o="up"∨o="down"
structure OrdOk (T:List Elm) (os:List Str):Prop where
 len:os.length=T.length
 at_:∀ (i:Nat) e o,T[i]?=some e→os[i]?=some o→okU o∧(e.1="any"∨e.1=o)
theorem qlo {o:Str} (h:okU o):inV (.str o) [.str "up",.str "down"]=true:=by
 rcases h with rfl|rfl<;>decide +kernel
theorem in_any {a o:Str} (h:a="any"∨a=o):inV (.str a) [.str "any",.str o]=true:=by
 rw[in2]
 exact decide_eq_true h
section
variable {P:Program}{w:World}{K:PySem.W.Frag}{mg:Str→Option Value}{base:Heap}
noncomputable abbrev yb3:Stmt:=top 65
theorem ydk:FnScope ["element","thing"] ["element","thing"] (yac yb3):=⟨rfl,rfl,rfl,by decide +kernel,rfl,by decide +kernel,by decide +kernel⟩
noncomputable abbrev ycq:Stmt:=top 66
theorem qeg:FnScope ["test","thing"] ["test","thing"] (yac ycq):=⟨rfl,rfl,rfl,by decide +kernel,rfl,by decide +kernel,by decide +kernel⟩
noncomputable abbrev qbs:Stmt:=top 67
theorem ycx:FnScope ["test","thing"] ["test","thing"] (yac qbs):=⟨rfl,rfl,rfl,by decide +kernel,rfl,by decide +kernel,by decide +kernel⟩
structure FT (H:Hp) (vs:List V) (xs:List (List V)):Prop where
 len:vs.length=xs.length
 at_:∀ (i:Nat) v x,vs[i]?=some v→xs[i]?=some x→∃ a,v=.ref a∧H a=some (.tup x)
theorem FT.nil {H:Hp}:FT H [] []:=⟨rfl,fun i v x h=>by simp at h⟩
theorem FT.same {H H':Hp}{vs:List V}{xs:List (List V)} (s:Same H H') (f:FT H vs xs):FT H' vs xs:=⟨f.len,fun i v x a b=>by obtain ⟨c,e,hc⟩:=f.at_ i v x a b;exact ⟨c,e,s _ _ hc⟩⟩
theorem FT.put {H:Hp}{D:Addr}{ys:List V}{o:HO}{vs:List V}{xs:List (List V)} (f:FT H vs xs) (hd:H D=some (.lst ys)):FT (upd H D o) vs xs:=⟨f.len,fun i v x a b=>by
 obtain ⟨c,e,hc⟩:=f.at_ i v x a b
 exact ⟨c,e,by rw[yai (fun z=>by subst z;rw[hd] at hc;cases hc)];exact hc⟩⟩
theorem FT.upC {H H':Hp}{C:Addr}{cs ds:List Int}{vs:List V}{xs:List (List V)} (f:FT H vs xs) (u:UpC H C ds H') (hc:H C=some (.lst (cs.map V.int))):FT H' vs xs:=⟨f.len,fun i v x a b=>by
 obtain ⟨c,e,h⟩:=f.at_ i v x a b
 exact ⟨c,e,u.st _ _ (fun z=>by subst z;rw[hc] at h;cases h) h⟩⟩
theorem FT.snoc {H:Hp}{vs:List V}{xs:List (List V)}{a:Addr}{x:List V} (f:FT H vs xs) (h:H a=some (.tup x)):FT H (vs++[.ref a]) (xs++[x]):=by
 refine ⟨by simp[f.len],fun i v y h1 h2=>?_⟩
 by_cases hi:i<vs.length
 ·rw[List.getElem?_append_left hi] at h1
  rw[List.getElem?_append_left (by rw[← f.len];exact hi)] at h2
  exact f.at_ i v y h1 h2
 ·rw[List.getElem?_append_right (by omega)] at h1
  rw[List.getElem?_append_right (by rw[← f.len];omega),← f.len] at h2
  cases hj:i-vs.length with
  | zero=>rw[hj] at h1 h2;cases h1;cases h2;exact ⟨a,rfl,h⟩
  | succ n=>rw[hj] at h1;simp at h1
theorem FT.get {H:Hp}{vs:List V}{xs:List (List V)} (f:FT H vs xs) {i:Nat}{v:V} (h:vs[i]?=some v):∃ x a,xs[i]?=some x∧v=.ref a∧H a=some (.tup x):=by
 have hi:=(List.getElem?_eq_some_iff.mp h).1
 have e:xs[i]?=some (xs[i]'(by rw[← f.len];exact hi)):=List.getElem?_eq_getElem _
 obtain ⟨a,h1,h2⟩:=f.at_ i v _ h e
 exact ⟨_,a,e,h1,h2⟩
noncomputable def yd9 (up:Bool) (n:Nat):List Int:=(List.range n).map fun t:Nat=>if up then (t:Int) else (n:Int)-1-t
noncomputable def rowD (ws:List V) (a:Int):List (List V):=(List.range ws.length).map fun p:Nat=>[.int a,.int p,ws.getD p .non]
noncomputable def ql8 (up:Bool) (ws:List V) (n:Nat):List (List V):=(yd9 up n).flatMap (rowD ws)
theorem addrs_at (up:Bool) (n:Nat) {i:Nat} (h:i<n):(yd9 up n)[i]?=some (if up then (i:Int) else (n:Int)-1-i):=by
 unfold yd9
 rw[List.getElem?_map,List.getElem?_range h]
 rfl
theorem qkc (up:Bool) (ws:List V) (n:Nat) {i:Nat}{a:Int} (h:(yd9 up n)[i]?=some a):((yd9 up n).take (i+1)).flatMap (rowD ws)=((yd9 up n).take i).flatMap (rowD ws)++rowD ws a:=by
 rw[List.take_add_one,h]
 simp
theorem qml (ws:List V) (a:Int) {j:Nat}{w:V} (h:ws[j]?=some w):(rowD ws a).take (j+1)=(rowD ws a).take j++[[.int a,.int j,w]]:=by
 have hj:=(List.getElem?_eq_some_iff.mp h).1
 rw[List.take_add_one]
 congr 1
 unfold rowD
 rw[List.getElem?_map,List.getElem?_range hj]
 simp[List.getD_eq_getElem?_getD,h]
theorem yhi (ws:List V) (a:Int):(rowD ws a).length=ws.length:=by simp[rowD]
theorem qhc (ws:List V):∀ (l:List Int),(l.flatMap (rowD ws)).length=l.length*ws.length
 | []=>by simp
 | a::l=>by
  rw[List.flatMap_cons,List.length_append,yhi,qhc ws l,List.length_cons,Nat.succ_mul]
  omega
noncomputable def qj1:Sp:=fun vs H Q _=>∃ (o:Str) (S:Addr) (ws:List V) (n:Nat),vs=[.str o,.ref S,.int n]∧okU o∧H S=some (.lst ws)∧ws.length≤6∧n≤64∧
 ∀ (D:Addr) (us:List V) (H':Hp),Same H H'→H D=none→H' D=some (.lst us)→FT H' us (ql8 (decide (o="up")) ws n)→Q (.ref D) H'
noncomputable abbrev yht:Stmt:=top 56
theorem yj0:FnScope ["order","steps","size","found","turn","address","place","step"] ["order","steps","size"] (yac yht):=⟨rfl,rfl,rfl,by decide +kernel,rfl,by decide +kernel,by decide +kernel⟩
theorem ok_deeds (B:Bl mg) (F:FnAt K mg "deeds" yht ["order","steps","size"]):Has P w K mg base 1 "deeds" ["order","steps","size"] qj1:=by
 refine Has.ofQ F yj0 (fun vs H Q E h=>?_) (fun f cdv A outer s H vs Q E hr h=>?_)
 ·obtain ⟨o,S,ws,n,rfl,_⟩:=h
  rfl
 ·obtain ⟨o,S,ws,n,rfl,ho,hS,hw6,hn,k⟩:=h
  have sc:=yj0
  refine ⟨_,(yam rfl (qad (yaq (i:=3) sc.nd rfl (Or.inl rfl) (yau qaf))
   (qad (ydf PassesOwn.never rfl (qhl (ycd rfl (B.of rfl) (qaa (pv 2) yab))) (qak (i:=4) sc.nd rfl (Or.inl rfl))
    (qad (yaq (i:=5) sc.nd rfl (Or.inl rfl) (qe_mid (qj0 (qaz qa6 (qab (pv 0)) (qab yaj) (qaj _)) (qab (pv 4)) (qcj qh6 (qcj qh6 (qab (pv 2)) (qab qac)) (qab (pv 4))))))
    (qag (ydf PassesOwn.never rfl (qhl (qc8 rfl (B.of rfl) (qaa (pv 1) yab))) (ydg rfl (qan (qak (i:=6) sc.nd rfl (Or.inl rfl)) (qan (qak (i:=7) sc.nd rfl (Or.inl rfl)) qbp)))
     (qag (ya8 (qab (qe4 PySem.F.plainAttrs_list PySem.F.slot_list_append PySem.F.type_list_append qb6 (pv 3) (qaa (qce (qaa (pv 5) (qaa (pv 6) (qaa (pv 7) yab)))) yab)))))))))
   (qag (qas (qab (pv 3))))))),?_⟩
  refine ⟨Nat.zero_le _,fun D hD=>?_⟩
  have s0:=(Same.refl H).upd (o:=.lst []) hD
  refine ⟨_,rfl,_,rfl,by omega,by omega,?_⟩
  rw[Int.toNat_natCast]
  refine yep (n:=n) (fun i σ H2=>∃ (us:List V) (o4 o5 o6 o7:Option V),σ=[some (.str o),some (.ref S),some (.int n),some (.ref D),o4,o5,o6,o7]∧Same H H2∧H2 D=some (.lst us)∧FT H2 us (((yd9 (decide (o="up")) n).take i).flatMap (rowD ws))) ⟨[],none,none,none,none,rfl,s0,yaa,FT.nil⟩ ?_ ?_
  ·rintro i σ H2 hi ⟨us,o4,o5,o6,o7,rfl,s2,e2,ft⟩
   have hadr:=addrs_at (decide (o="up")) n hi
   obtain ⟨ad,had⟩:∃ ad:Int,ad=(if decide (o="up")=true then (i:Int) else (n:Int)-1-i):=⟨_,rfl⟩
   rw[← had] at hadr
   refine ⟨fun v H'=>v=.int ad∧H'=H2,?_,?_⟩
   ·refine ⟨_,rfl,rfl,_,rfl,?_⟩
    rw[dS]
    by_cases hu:o="up"
    ·refine iteD hu ⟨_,rfl,?_,rfl⟩
     rw[had,if_pos (decide_eq_true hu),Int.zero_add]
    ·refine ybe hu ⟨_,rfl,_,_,rfl,rfl,_,rfl,_,_,rfl,rfl,?_,rfl⟩
     rw[had,if_neg (by simp[hu])]
     show V.int ((n:Int)-1-(0+(i:Int)))=_
     rw[Int.zero_add]
   ·rintro v H3 ⟨rfl,rfl⟩
    have hlen:=ft.len
    rw[qhc] at hlen
    have htl:((yd9 (decide (o="up")) n).take i).length≤64:=by rw[List.length_take];omega
    have hmul:((yd9 (decide (o="up")) n).take i).length*ws.length≤64*6:=Nat.mul_le_mul htl hw6
    refine ⟨_,rfl,S,_,rfl,SqL.of (s2 _ _ hS),qcb (xs:=ws) (fun j σ H4=>∃ (us:List V) (o6 o7:Option V),σ=[some (.str o),some (.ref S),some (.int n),some (.ref D),some (.int ((0:Int)+(i:Int))),some (.int ad),o6,o7]∧Same H H4∧H4 D=some (.lst us)∧FT H4 us (((yd9 (decide (o="up")) n).take i).flatMap (rowD ws)++(rowD ws ad).take j)) ⟨us,_,_,rfl,s2,e2,by simpa using ft⟩ (fun j σ H4 _ ⟨_,_,_,_,s4,_⟩=>SqL.of (s4 _ _ hS)) ?_ ?_⟩
    ·rintro j x pp σ H4 hx ⟨us,o6,o7,rfl,s4,e4,ft4⟩ hpp
     have hj:=(List.getElem?_eq_some_iff.mp hx).1
     refine ⟨pp,_,rfl,SqT.of yaa,rfl,_,_,rfl,_,_,rfl,rfl,?_⟩
     have s5:=(Same.refl H4).upd (o:=.tup [V.int j,x]) hpp
     revert s5
     generalize upd H4 pp (.tup [V.int j,x])=H5
     intro s5
     have e5:=s5 _ _ e4
     refine ⟨_,rfl,.inl ⟨rfl,_,SqL.of e5⟩,_,rfl,_,rfl,_,rfl,(by show 3≤sizeLine;decide),fun q hq=>?_⟩
     have s6:=(Same.refl H5).upd (o:=.tup [V.int ad,.int j,x]) hq
     have q6:upd H5 q (.tup [V.int ad,.int j,x]) q=some (.tup [V.int ad,.int j,x]):=yaa
     revert s6 q6
     generalize upd H5 q (.tup [V.int ad,.int j,x])=H6
     intro s6 q6
     have l4:=ft4.len
     rw[List.length_append,qhc] at l4
     have hr6:((rowD ws ad).take j).length≤6:=by rw[List.length_take,yhi];omega
     have e6:=s6 _ _ e5
     refine ⟨D,us,_,rfl,rfl,e6,qb5 (by omega),?_⟩
     refine ⟨us++[.ref q],_,_,rfl,((s4.trans s5).trans s6).at hD,yaa,?_⟩
     rw[qml ws ad hx,← List.append_assoc]
     exact ((ft4.same (s5.trans s6)).snoc q6).put e6
    ·rintro σ H4 ⟨us,o6,o7,rfl,s4,e4,ft4⟩
     refine ⟨us,_,_,_,_,rfl,s4,e4,?_⟩
     rw[qkc _ ws n hadr]
     rw[show (rowD ws ad).take ws.length=rowD ws ad by rw[← yhi ws ad,List.take_length]] at ft4
     exact ft4
  ·rintro σ H2 ⟨us,o4,o5,o6,o7,rfl,s2,e2,ft⟩
   refine ⟨_,rfl,k D us H2 s2 hD e2 ?_⟩
   have:(yd9 (decide (o="up")) n).take n=yd9 (decide (o="up")) n:=by
    rw[List.take_of_length_le];simp[yd9]
   rw[this] at ft
   exact ft
end
theorem ykd {T:List Elm}{ds:List PyData} (h:ds∈ybo (ybv T)):ds=T.map qd2∨∃ e∈T,ds=e.2.map qe1:=by
 unfold ybv ybo at h
 rcases List.mem_cons.mp h with h|h
 ·exact .inl h
 ·obtain ⟨d,hd,hx⟩:=yb4 h
  obtain ⟨e,he,rfl⟩:=List.mem_map.mp hd
  refine .inr ⟨e,he,?_⟩
  unfold qd2 ybo at hx
  obtain ⟨d,hd,hx⟩:=yb4 hx
  rcases List.mem_cons.mp hd with rfl|hd
  ·unfold ybo at hx;cases hx
  ·rw[List.mem_singleton.mp hd] at hx
   unfold ybo at hx
   rcases List.mem_cons.mp hx with h|h
   ·exact h
   ·obtain ⟨d,hd,hx⟩:=yb4 h
    obtain ⟨s,_,rfl⟩:=List.mem_map.mp hd
    unfold qe1 ybo at hx
    obtain ⟨d,hd,hx⟩:=yb4 hx
    rcases List.mem_cons.mp hd with rfl|hd
    ·unfold ybo at hx;cases hx
    ·rw[List.mem_singleton.mp hd] at hx
     unfold ybo at hx;cases hx
structure TestAt (H:Hp) (t:Addr) (ws:List V) (T:List Elm):Prop where
 l:H t=some (.lst ws)
 a:AtAll H ws (T.map qd2)
theorem TestAt.of {H:Hp}{t:Addr}{T:List Elm} (h:At H (.ref t) (ybv T)):∃ ws,TestAt H t ws T:=by
 obtain ⟨l,ws,e,h1,h2⟩:=h.lstEq
 cases e
 exact ⟨ws,h1,h2⟩
theorem TestAt.at {H:Hp}{t:Addr}{ws:List V}{T:List Elm} (x:TestAt H t ws T):At H (.ref t) (ybv T):=.lst x.l x.a
theorem TestAt.same {H H':Hp}{t:Addr}{ws:List V}{T:List Elm} (x:TestAt H t ws T) (s:Same H H'):TestAt H' t ws T:=⟨s _ _ x.l,x.a.same s⟩
theorem ql2 {H:Hp}{cs:List Int}{T:List Elm} (ok:okT T) {ds:List PyData} (h:ds∈ybo (ybv T)):¬ AtAll H (cs.map V.int) ds:=by
 intro ha
 obtain ⟨h1,_,h3⟩:=ok
 rcases ykd h with rfl|⟨e,he,rfl⟩
 ·cases T with
  | nil=>simp at h1
  | cons e r=>
   cases cs with
   | nil=>cases ha
   | cons c cr=>cases ha with|cons a _=>cases a
 ·have h2:=(h3 e he).2.1
  cases q:e.2 with
  | nil=>rw[q] at h2;simp at h2
  | cons s r=>
   rw[q] at ha
   cases cs with
   | nil=>cases ha
   | cons c cr=>cases ha with|cons a _=>cases a
theorem ql7 {H H':Hp}{C:Addr}{ds:List Int} (u:UpC H C ds H'):Same (qap H [C]) H':=fun b o e=>by
 by_cases hb:b=C
 ·subst hb;unfold qap at e;simp at e
 ·rw[ya2 (by simp[hb])] at e
  exact u.st _ _ hb e
theorem At.test_up {H H':Hp}{t C:Addr}{T:List Elm}{cs ds:List Int} (x:At H (.ref t) (ybv T)) (ok:okT T) (hc:H C=some (.lst (cs.map V.int))) (u:UpC H C ds H'):At H' (.ref t) (ybv T):=
 (x.hideP hc fun ds hd=>ql2 ok hd).same (ql7 u)
theorem TestAt.upC {H H':Hp}{t C:Addr}{ws:List V}{T:List Elm}{cs ds:List Int} (x:TestAt H t ws T) (ok:okT T) (hc:H C=some (.lst (cs.map V.int))) (u:UpC H C ds H'):TestAt H' t ws T:=by
 obtain ⟨ws',y⟩:=TestAt.of (At.test_up x.at ok hc u)
 have ht:t≠C:=fun z=>by
  subst z
  have:=x.l
  rw[hc] at this
  cases this
  exact ql2 ok (by unfold ybv ybo;simp) x.a
 have:=u.st _ _ ht x.l
 rw[y.l] at this
 cases this
 exact y
noncomputable def ixP (up:Bool) (k n:Nat):List (Int×Nat):=(yd9 up n).flatMap fun a=>(List.range k).map fun p=>(a,p)
theorem deeds_ix (up:Bool) (ws:List V) (n:Nat):ql8 up ws n=(ixP up ws.length n).map fun x=>[V.int x.1,.int x.2,ws.getD x.2 .non]:=by
 unfold ql8 ixP rowD
 rw[List.map_flatMap]
 simp[Function.comp_def]
theorem ix_mem {up:Bool}{k n:Nat}{x:Int×Nat} (h:x∈ixP up k n):0≤x.1∧x.1<n∧x.2<k:=by
 obtain ⟨a,ha,hx⟩:=List.mem_flatMap.mp h
 obtain ⟨p,hp,rfl⟩:=List.mem_map.mp hx
 obtain ⟨t,ht,rfl⟩:=List.mem_map.mp ha
 have h1:=List.mem_range.mp ht
 have h2:=List.mem_range.mp hp
 refine ⟨?_,?_,h2⟩<;>dsimp only<;>split<;>omega
noncomputable abbrev RS:=List (List V)×List Int
noncomputable def qcw (hs:List Hm) (ss:List Stp) (i:Nat) (st:RS) (x:Int×Nat):RS:=
 if (ss.getD x.2 (false,false)).1=true then (st.1,qe0 hs st.2 x.1 (b2i (ss.getD x.2 (false,false)).2))
 else (st.1++[[.int i,.int x.1,.int x.2,.int (qcp hs st.2 x.1).1]],(qcp hs st.2 x.1).2)
noncomputable def elR (hs:List Hm) (n i:Nat) (up:Bool) (ss:List Stp) (st:RS):RS:=(ixP up ss.length n).foldl (qcw hs ss i) st
noncomputable def yl5 (hs:List Hm) (n:Nat) (T:List Elm) (os:List Str) (st:RS) (i:Nat):RS:=elR hs n i (decide (os.getD i "" = "up")) (T.getD i ("",[])).2 st
noncomputable def runR (hs:List Hm) (n:Nat) (T:List Elm) (os:List Str) (st:RS) (k:Nat):RS:=(List.range k).foldl (yl5 hs n T os) st
theorem qgj (hs:List Hm) (n:Nat) (T:List Elm) (os:List Str) (st:RS) (k:Nat):runR hs n T os st (k+1)=yl5 hs n T os (runR hs n T os st k) k:=by
 unfold runR
 rw[List.range_succ,List.foldl_append]
 rfl
theorem ylx (hs:List Hm) (ss:List Stp) (i:Nat) (st:RS) (x:Int×Nat):(qcw hs ss i st x).2.length=st.2.length∧(qcw hs ss i st x).1.length≤st.1.length+1:=by
 unfold qcw
 split
 ·exact ⟨yi6 _ _ _ _,by simp⟩
 ·exact ⟨yka _ _ _,by simp⟩
theorem ygo (hs:List Hm) (ss:List Stp) (i:Nat):∀ (l:List (Int×Nat)) (st:RS),(l.foldl (qcw hs ss i) st).2.length=st.2.length∧(l.foldl (qcw hs ss i) st).1.length≤st.1.length+l.length
 | [],st=>⟨rfl,by simp⟩
 | x::l,st=>by
  obtain ⟨h1,h2⟩:=ylx hs ss i st x
  obtain ⟨g1,g2⟩:=ygo hs ss i l (qcw hs ss i st x)
  rw[List.foldl_cons]
  exact ⟨g1.trans h1,by rw[List.length_cons];omega⟩
theorem ykq (up:Bool) (k n:Nat):(ixP up k n).length=n*k:=by
 unfold ixP
 rw[List.length_flatMap]
 simp only[yd9,List.map_map,Function.comp_def,List.length_map,List.length_range]
 induction n with
 | zero=>simp
 | succ m ih=>
  rw[List.range_succ,List.map_append,List.sum_append,ih,Nat.succ_mul]
  simp
theorem yhr (hs:List Hm) {n:Nat}{T:List Elm} (ok:okT T) (hn:n≤64) (os:List Str) (st:RS):∀ k,(runR hs n T os st k).2.length=st.2.length∧(runR hs n T os st k).1.length≤st.1.length+384*k
 | 0=>⟨rfl,by simp[runR]⟩
 | k+1=>by
  obtain ⟨h1,h2⟩:=yhr hs ok hn os st k
  rw[qgj]
  unfold yl5 elR
  obtain ⟨g1,g2⟩:=ygo hs (T.getD k ("",[])).2 k (ixP (decide (os.getD k "" = "up")) (T.getD k ("",[])).2.length n) (runR hs n T os st k)
  refine ⟨g1.trans h1,?_⟩
  rw[ykq] at g2
  have h6:(T.getD k ("",[])).2.length≤6:=by
   rw[List.getD_eq_getElem?_getD]
   cases e:T[k]? with
   | none=>simp
   | some x=>exact (ok.2.2 x (List.mem_of_getElem? e)).2.2
  have:n*(T.getD k ("",[])).2.length≤64*6:=Nat.mul_le_mul hn h6
  omega
theorem qj6 {α β:Type} (f:β→α→β) (b:β) {l:List α}{i:Nat}{x:α} (h:l[i]?=some x):(l.take (i+1)).foldl f b=f ((l.take i).foldl f b) x:=yeg f b h
noncomputable def yj4 (s:Stp):List V:=[.str (qk5 s.1),.int (b2i s.2)]
theorem yhp {H:Hp}:∀ {ws:List V}{ss:List Stp},AtAll H ws (ss.map qe1)→FT H ws (ss.map yj4)
 | [],[],_=>FT.nil
 | w::ws,s::ss,.cons a r=>by
  obtain ⟨b,rfl,hb⟩:=step_at a
  have f:=yhp r
  refine ⟨by simpa using f.len,fun i v x h1 h2=>?_⟩
  cases i with
  | zero=>simp at h1 h2;subst h1;subst h2;exact ⟨b,rfl,hb⟩
  | succ i=>exact f.at_ i v x (by simpa using h1) (by simpa using h2)
section
variable {P:Program}{w:World}{K:PySem.W.Frag}{mg:Str→Option Value}{base:Heap}{C:Addr}
noncomputable def qdr (C:Addr):Sp:=fun vs H Q _=>∃ (t m O L Cc:Addr) (T:List Elm) (os:List Str) (us:List V) (hs:List Hm) (cs:List Int),vs=[.ref t,.ref m,.ref O]∧At H (.ref t) (ybv T)∧okT T∧MemO H C m L Cc us hs cs∧InR hs cs.length∧cs.length≤64∧H O=some (.lst (os.map V.str))∧OrdOk T os∧
 ∀ (D:Addr) (tv:List V) (H':Hp),UpC H Cc (runR hs cs.length T os ([],cs) T.length).2 H'→H D=none→D≠Cc→H' D=some (.lst tv)→FT H' tv (runR hs cs.length T os ([],cs) T.length).1→Q (.ref D) H'
noncomputable abbrev yc8:Stmt:=top 68
theorem yfi:FnScope ["test","memory","orders","told","number","element","address","place","step"] ["test","memory","orders"] (yac yc8):=⟨rfl,rfl,rfl,by decide +kernel,rfl,by decide +kernel,by decide +kernel⟩
theorem qin (B:Bl mg) (cm:CM K C) (h_deeds:Has P w K mg base 1 "deeds" ["order","steps","size"] qj1) (qjf:HasM P w K mg base C 5 "read" ["self","address"] (yh8 C)) (yhs:HasM P w K mg base C 6 "write" ["self","address","bit"] (yg2 C)) (yit:HasM P w K mg base C 1 "size" ["self"] (qhz C)) (F:FnAt K mg "all_reads" yc8 ["test","memory","orders"]):Has P w K mg base 7 "all_reads" ["test","memory","orders"] (qdr C):=by
 refine Has.ofQ F yfi (fun vs H Q E h=>?_) (fun f cdv A outer s H vs Q E hr h=>?_)
 ·obtain ⟨t,m,O,L,Cc,T,os,us,hs,cs,rfl,_⟩:=h
  rfl
 ·obtain ⟨t,m,O,L,Cc,T,os,us,hs,cs,rfl,ht,okt,mo,ir,hn,hO,oo,k⟩:=h
  have sc:=yfi
  refine ⟨_,(yam rfl (qad (yaq (i:=3) sc.nd rfl (Or.inl rfl) (yau qaf))
   (qad (ydf PassesOwn.never rfl (qhl (qc8 rfl (B.of rfl) (qaa (pv 0) yab))) (ydg rfl (qan (qak (i:=4) sc.nd rfl (Or.inl rfl)) (qan (qak (i:=5) sc.nd rfl (Or.inl rfl)) qbp)))
    (qag (ydf PassesOwn.never rfl (yiy (qaq h_deeds hr (yd1 (qa1 qai (qab (pv 2)) (qab (pv 4)) (fun _ _=>rfl)) (yd1 (qa1 yap (qab (pv 5)) (qab qac) (fun _ _=>rfl)) (yl9 (ygp cm.c yit hr (qab (pv 1))) qaf))))) (ydg rfl (qan (qak (i:=6) sc.nd rfl (Or.inl rfl)) (qan (qak (i:=7) sc.nd rfl (Or.inl rfl)) (qan (qak (i:=8) sc.nd rfl (Or.inl rfl)) qbp))))
     (qag (ya9 (qaz qa6 (qa1 yap (qab (pv 8)) (qab qac) (fun _ _=>rfl)) (qab yaj) (qaj _))
      (qag (ya8 (yft cm.c yhs hr (qab (pv 1)) (yak (qab (pv 6)) (yd1 (qa1 yap (qab (pv 8)) (qab qac) (fun _ _=>rfl)) qaf)))))
      (qag (ya8 (qab (qe4 PySem.F.plainAttrs_list PySem.F.slot_list_append PySem.F.type_list_append qb6 (pv 3) (qaa (qce (qbv (pv 4) (qbv (pv 6) (qbv (pv 7) (yef (QE.of (yft cm.c qjf hr (qab (pv 1)) (yak (qab (pv 6)) qaf))) yab))))) yab))))))))))
   (qag (qas (qab (pv 3))))))),?_⟩
  obtain ⟨ws,tx⟩:=TestAt.of ht
  have hwl:ws.length=T.length:=by have:=tx.a.length;rw[List.length_map] at this;exact this
  have hT8:=okt.2.1
  have nOC:O≠Cc:=fun z=>by
   subst z
   have:=mo.m.hc
   rw[hO] at this
   injection this with this
   injection this with this
   cases cs with
   | nil=>have h0:=oo.len;rw[List.map_nil,List.map_eq_nil_iff] at this;rw[this] at h0;have:=okt.1;simp at h0;omega
   | cons c r=>cases os with|nil=>simp at this|cons o r'=>simp at this
  refine ⟨Nat.zero_le _,fun D hD=>?_⟩
  have nDC:D≠Cc:=(yae mo.m.hc hD).symm
  have s0:=(Same.refl H).upd (o:=.lst []) hD
  have f0:upd H D (.lst []) D=some (.lst []):=yaa
  revert s0 f0
  generalize upd H D (.lst [])=H0
  intro s0 f0
  have hlen:=yhr hs okt hn os ([],cs)
  refine ⟨_,rfl,t,_,rfl,SqL.of (tx.same s0).l,qcb (xs:=ws) (fun i σ H2=>∃ (tv:List V) (o4 o5 o6 o7 o8:Option V),σ=[some (.ref t),some (.ref m),some (.ref O),some (.ref D),o4,o5,o6,o7,o8]∧UpC H Cc (runR hs cs.length T os ([],cs) i).2 H2∧MemO H2 C m L Cc us hs (runR hs cs.length T os ([],cs) i).2∧TestAt H2 t ws T∧H2 O=some (.lst (os.map V.str))∧H2 D=some (.lst tv)∧FT H2 tv (runR hs cs.length T os ([],cs) i).1)
   ⟨[],none,none,none,none,none,rfl,UpC.of s0 mo.m.hc,mo.same s0,tx.same s0,s0 _ _ hO,f0,FT.nil⟩ (fun i σ H2 _ ⟨_,_,_,_,_,_,_,_,_,h,_⟩=>SqL.of h.l) ?_ ?_⟩
  ·rintro i x pp σ H2 hx ⟨tv,o4,o5,o6,o7,o8,rfl,u2,m2,tx2,hO2,e2,ft2⟩ hpp
   obtain ⟨d,hd,hat⟩:=tx2.a.get hx
   obtain ⟨e,he,rfl⟩:=qby hd
   have hiT:=(List.getElem?_eq_some_iff.mp he).1
   obtain ⟨ea,el,sw,rfl,hea,hel,hsw⟩:=qf7 hat
   have oke:=okt.2.2 e (List.mem_of_getElem? he)
   have hswl:sw.length=e.2.length:=by have:=hsw.length;rw[List.length_map] at this;exact this
   obtain ⟨o,ho⟩:∃ o,os[i]?=some o:=⟨os[i]'(by rw[oo.len];exact hiT),List.getElem?_eq_getElem _⟩
   obtain ⟨ou,_⟩:=oo.at_ i e o he ho
   refine ⟨pp,_,rfl,SqT.of yaa,rfl,_,_,rfl,_,_,rfl,rfl,?_⟩
   have s3:=(Same.refl H2).upd (o:=.tup [V.int i,.ref ea]) hpp
   revert s3
   generalize upd H2 pp (.tup [V.int i,.ref ea])=H3
   intro s3
   have m3:=m2.same s3
   obtain ⟨⟨dx3,ho3⟩,_⟩:=id m3
   have hl2:=(hlen i).1
   refine ⟨_,rfl,_,rfl,O,_,_,_,rfl,rfl,SqL.of (s3 _ _ hO2),ycu (by rw[List.getElem?_map,ho];rfl),_,rfl,ea,_,_,_,rfl,rfl,SqT.of (s3 _ _ hea),yad 1 rfl,_,rfl,m,dx3,_,rfl,ho3,lk_n,m,L,Cc,us,hs,_,rfl,m3,?_⟩
   refine ⟨o,el,sw,cs.length,by show [V.str o,.ref el,.int ((runR hs cs.length T os ([],cs) i).2.length:Nat)]=_;rw[hl2],ou,s3 _ _ hel,by have:=oke.2.2;omega,hn,fun DD uu H4 s4 nDD hDD ftd=>?_⟩
   have hgo:os.getD i "" = o:=by rw[List.getD_eq_getElem?_getD,ho];rfl
   have hge:(T.getD i ("",[]))=e:=by rw[List.getD_eq_getElem?_getD,he];rfl
   rw[deeds_ix,hswl] at ftd
   have nDDC:DD≠Cc:=(yae m3.m.hc nDD).symm
   have nDD0:D≠DD:=yae (s3 _ _ e2) nDD
   have s24:=s3.trans s4
   have stf:=(yhp hsw).same s24
   have hstep:runR hs cs.length T os ([],cs) (i+1)=(ixP (decide (o="up")) e.2.length cs.length).foldl (qcw hs e.2 i) (runR hs cs.length T os ([],cs) i):=by
    rw[qgj];unfold yl5 elR;rw[hgo,hge]
   have hlen2:=(hlen i).2
   revert u2 m2 ft2 hstep hl2 hlen2
   generalize runR hs cs.length T os ([],cs) i=st0
   intro u2 m2 ft2 hl2 hstep hlen2
   have hstl:∀ j,(((ixP (decide (o="up")) e.2.length cs.length).take j).foldl (qcw hs e.2 i) st0).2.length=cs.length∧(((ixP (decide (o="up")) e.2.length cs.length).take j).foldl (qcw hs e.2 i) st0).1.length≤4000:=fun j=>by
    obtain ⟨g1,g2⟩:=ygo hs e.2 i ((ixP (decide (o="up")) e.2.length cs.length).take j) st0
    refine ⟨g1.trans hl2,?_⟩
    have g3:((ixP (decide (o="up")) e.2.length cs.length).take j).length≤384:=by
     rw[List.length_take,ykq]
     have:cs.length*e.2.length≤64*6:=Nat.mul_le_mul hn oke.2.2
     omega
    simp at hlen2
    omega
   refine ⟨DD,rfl,⟨_,SqL.of hDD⟩,ybj (xs:=uu) (fun j σ H5=>∃ (tv:List V) (o6 o7 o8:Option V),σ=[some (.ref t),some (.ref m),some (.ref O),some (.ref D),some (.int i),some (.ref ea),o6,o7,o8]∧UpC H Cc (((ixP (decide (o="up")) e.2.length cs.length).take j).foldl (qcw hs e.2 i) st0).2 H5∧H5 D=some (.lst tv)∧FT H5 tv (((ixP (decide (o="up")) e.2.length cs.length).take j).foldl (qcw hs e.2 i) st0).1∧H5 DD=some (.lst uu)∧FT H5 uu ((ixP (decide (o="up")) e.2.length cs.length).map fun x=>[V.int x.1,.int x.2,sw.getD x.2 .non])∧FT H5 sw (e.2.map yj4))
    ⟨tv,_,_,_,rfl,u2.same s24,s24 _ _ e2,ft2.same s24,hDD,ftd,stf⟩ (fun j σ H5 _ ⟨_,_,_,_,_,_,_,_,d5,_⟩=>SqL.of d5) ?_ ?_⟩
   ·rintro j y σ H5 hy ⟨tv5,o6,o7,o8,rfl,u5,e5,ft5,d5,fr5,fs5⟩
    obtain ⟨row,ra,hrow,rfl,hra⟩:=fr5.get hy
    obtain ⟨ap,hap,rfl⟩:=qby hrow
    obtain ⟨a0,a1,a2⟩:=ix_mem (List.mem_of_getElem? hap)
    have m5:=mo.upC u5
    obtain ⟨⟨dx5,ho5⟩,_⟩:=id m5
    have ⟨l5,l5'⟩:=hstl j
    have hadl:ap.1<((((ixP (decide (o="up")) e.2.length cs.length).take j).foldl (qcw hs e.2 i) st0).2.length:Int):=by rw[l5];exact a1
    have ir5:InR hs (((ixP (decide (o="up")) e.2.length cs.length).take j).foldl (qcw hs e.2 i) st0).2.length:=by rw[l5];exact ir
    obtain ⟨s,hs'⟩:∃ s,e.2[ap.2]?=some s:=⟨e.2[ap.2],List.getElem?_eq_getElem _⟩
    obtain ⟨sv,hsv⟩:∃ v,sw[ap.2]?=some v:=⟨sw[ap.2]'(by omega),List.getElem?_eq_getElem _⟩
    obtain ⟨sa,rfl,hsa⟩:=fs5.at_ ap.2 sv (yj4 s) hsv (by rw[List.getElem?_map,hs'];rfl)
    have hgs:e.2.getD ap.2 (false,false)=s:=by rw[List.getD_eq_getElem?_getD,hs'];rfl
    have hgv:sw.getD ap.2 .non=.ref sa:=by rw[List.getD_eq_getElem?_getD,hsv];rfl
    rw[hgv] at hra
    have hnext:=qj6 (qcw hs e.2 i) st0 hap
    revert u5 ft5 m5 hadl ir5 hnext l5 l5'
    generalize ((ixP (decide (o="up")) e.2.length cs.length).take j).foldl (qcw hs e.2 i) st0=st5
    intro u5 ft5 m5 l5 l5' hadl ir5 hnext
    refine ⟨ra,_,rfl,SqT.of hra,rfl,_,_,rfl,_,_,rfl,_,_,rfl,rfl,?_⟩
    have hst:qcw hs e.2 i st5 ap=if s.1=true then (st5.1,qe0 hs st5.2 ap.1 (b2i s.2)) else (st5.1++[[.int i,.int ap.1,.int ap.2,.int (qcp hs st5.2 ap.1).1]],(qcp hs st5.2 ap.1).2):=by
     unfold qcw;rw[hgs]
    rw[hst] at hnext
    unfold yj4 at hsa
    refine ⟨_,rfl,sa,_,_,_,rfl,rfl,SqT.of hsa,yad 0 rfl,rfl,_,rfl,?_⟩
    cases hw:s.1 with
    | true=>
     rw[hw,if_pos rfl] at hnext
     refine iteB (by decide +kernel) ?_
     refine ⟨_,rfl,m,dx5,_,rfl,ho5,lk_n,_,rfl,_,rfl,sa,_,_,_,rfl,rfl,SqT.of hsa,yad 1 rfl,m,L,Cc,us,hs,_,ap.1,s.2,rfl,m5,ir5,a0,hadl,fun H6 u6=>?_⟩
     refine ⟨tv5,_,_,_,rfl,?_⟩
     rw[hnext]
     exact ⟨u5.trans u6,u6.st _ _ nDC e5,ft5.upC u6 m5.m.hc,u6.st _ _ nDDC d5,fr5.upC u6 m5.m.hc,fs5.upC u6 m5.m.hc⟩
    | false=>
     rw[hw,if_neg (by simp)] at hnext
     refine iteN (by decide +kernel) ?_
     refine ⟨_,rfl,.inl ⟨rfl,_,SqL.of e5⟩,_,rfl,_,rfl,_,rfl,_,rfl,m,dx5,_,rfl,ho5,lk_n,_,rfl,m,L,Cc,us,hs,_,ap.1,rfl,m5,ir5,a0,hadl,fun H6 u6=>?_⟩
     have e6:=u6.st _ _ nDC e5
     refine ⟨(by show 4≤sizeLine;decide),fun q hq=>?_⟩
     have s7:=(Same.refl H6).upd (o:=.tup [V.int i,.int ap.1,.int ap.2,.int (qcp hs st5.2 ap.1).1]) hq
     have q7:upd H6 q (.tup [V.int i,.int ap.1,.int ap.2,.int (qcp hs st5.2 ap.1).1]) q=some (.tup [V.int i,.int ap.1,.int ap.2,.int (qcp hs st5.2 ap.1).1]):=yaa
     revert s7 q7
     generalize upd H6 q (.tup [V.int i,.int ap.1,.int ap.2,.int (qcp hs st5.2 ap.1).1])=H7
     intro s7 q7
     have e7:=s7 _ _ e6
     have l6:=ft5.len
     refine ⟨D,tv5,_,rfl,rfl,e7,qb5 (by omega),?_⟩
     refine ⟨tv5++[.ref q],_,_,_,rfl,?_⟩
     rw[hnext]
     exact ⟨((u5.trans u6).same s7).new hD nDC.symm,yaa,(((ft5.upC u6 m5.m.hc).same s7).snoc q7).put e7,by rw[yai nDD0.symm];exact s7 _ _ (u6.st _ _ nDDC d5),((fr5.upC u6 m5.m.hc).same s7).put e7,((fs5.upC u6 m5.m.hc).same s7).put e7⟩
   ·rintro σ H5 ⟨tv5,o6,o7,o8,rfl,u5,e5,ft5,d5,fr5,fs5⟩
    have huu:uu.length=(ixP (decide (o="up")) e.2.length cs.length).length:=by have:=ftd.len;rw[List.length_map] at this;exact this
    rw[huu,List.take_length,← hstep] at u5 ft5
    exact ⟨tv5,_,_,_,_,_,rfl,u5,mo.upC u5,tx.upC okt mo.m.hc u5,u5.st _ _ nOC hO,e5,ft5⟩
  ·rintro σ H2 ⟨tv,o4,o5,o6,o7,o8,rfl,u2,m2,tx2,hO2,e2,ft2⟩
   rw[hwl] at u2 ft2
   exact ⟨_,rfl,k D tv H2 u2 hD nDC e2 ft2⟩
end
noncomputable def yg4:PyData→Bool | .int _=>true|_=>false
noncomputable def bitD:PyData→Bool | .int i=>decide (i=0∨i=1)|_=>false
noncomputable def oneD (xs:List V):PyData→Bool | .str x=>inV (.str x) xs|_=>false
section
variable {P:Program}{w:World}{K:PySem.W.Frag}{mg:Str→Option Value}{base:Heap}
noncomputable def yfu:Sp:=fun vs H Q _=>∃ v d,vs=[v]∧AtX H v d∧Q (.bl (yg4 d)) H
theorem og_whole (B:Bl mg) (F:FnAt K mg "is_whole" ycw ["thing"]):Has P w K mg base 1 "is_whole" ["thing"] yfu:=by
 refine Has.ofQ F ydc (fun vs H Q E h=>?_) (fun f cdv A outer s H vs Q E hr h=>?_)
 ·obtain ⟨v,d,rfl,_⟩:=h
  rfl
 ·obtain ⟨v,d,rfl,hv,q⟩:=h
  have sc:=ydc
  refine ⟨_,(yam rfl (qag (qas (qab (qax (qae qa3 rfl (B.of rfl) boot_isinstance (qaa (pv 0) (qaa (qbb (v:=.ty "int") rfl (B.of rfl) boot_int rfl) yab))) (qbn (pe_not (qae qa3 rfl (B.of rfl) boot_isinstance (qaa (pv 0) (qaa (qbb (v:=.ty "bool") rfl (B.of rfl) boot_bool rfl) yab)))))))))),?_⟩
  refine ⟨_,rfl,_,_,_,_,rfl,hv.ty,kit_int d,_,rfl,?_⟩
  cases hi:isInt d with
  | false=>
   have e:yg4 d=false:=by cases d<;>first|rfl|cases hi
   rw[e] at q
   exact iteF q
  | true=>
   refine iteT ⟨_,rfl,_,_,_,_,rfl,hv.ty,kit_bl d,_,rfl,?_⟩
   have e:yg4 d=!isBl d:=by cases d<;>first|rfl|cases hi
   rw[e] at q
   exact q
noncomputable def yjs:Sp:=fun vs H Q _=>∃ v d,vs=[v]∧AtX H v d∧∀ H',Same H H'→Q (.bl (bitD d)) H'
theorem og_bit (ya0:Has P w K mg base 1 "is_whole" ["thing"] yfu) (F:FnAt K mg "is_bit" qer ["thing"]):Has P w K mg base 2 "is_bit" ["thing"] yjs:=by
 refine Has.ofQ F qen (fun vs H Q E h=>?_) (fun f cdv A outer s H vs Q E hr h=>?_)
 ·obtain ⟨v,d,rfl,_⟩:=h
  rfl
 ·obtain ⟨v,d,rfl,hv,q⟩:=h
  have sc:=qen
  refine ⟨_,(yam rfl (qag (qas (qab (qax (qah ya0 hr (qaa (pv 0) yab)) (qbn (qau qbr (pv 0) (qce (qaa qac (qaa qac yab))) (by with_unfolding_all rfl)))))))),?_⟩
  refine ⟨_,rfl,v,d,rfl,hv,_,rfl,?_⟩
  cases hw:yg4 d with
  | false=>
   have e:bitD d=false:=by cases d<;>first|rfl|cases hw
   rw[e] at q
   exact iteF (q H (Same.refl H))
  | true=>
   obtain ⟨i,rfl⟩:∃ i,d=.int i:=by cases d<;>first|exact ⟨_,rfl⟩|cases hw
   have ev:v=.int i:=by
    rcases hv with h|⟨e,_⟩
    ·exact h.intEq
    ·cases e
   subst ev
   refine iteT ⟨_,rfl,(by show 2≤sizeLine;decide),fun t ht=>⟨t,_,rfl,.inr (SqT.of yaa),rfl,by decide,?_⟩⟩
   have e:inV (.int i) [.int 0,.int 1]=bitD (.int i):=by
    unfold bitD
    show ((0 == i)||((1 == i)||false))=_
    rw[Bool.eq_iff_iff,decide_eq_true_eq,Bool.or_false,Bool.or_eq_true,beq_iff_eq,beq_iff_eq]
    constructor
    ·rintro (h|h)
     ·exact .inl h.symm
     ·exact .inr h.symm
    ·rintro (h|h)
     ·exact .inl h.symm
     ·exact .inr h.symm
   show Q (.bl (inV (.int i) [.int 0,.int 1])) _
   rw[e]
   exact q _ ((Same.refl H).upd ht)
noncomputable def qh5 (K:PySem.W.Frag):Sp:=fun vs H Q _=>∃ v d a xs,vs=[v,.ref a]∧AtX H v d∧(∀ H',SqT K H' a xs)∧xs.all qdm=true∧Q (.bl (oneD xs d)) H
theorem og_one (B:Bl mg) (F:FnAt K mg "is_one_of" ycj ["thing","words"]):Has P w K mg base 1 "is_one_of" ["thing","words"] (qh5 K):=by
 refine Has.ofQ F qcl (fun vs H Q E h=>?_) (fun f cdv A outer s H vs Q E hr h=>?_)
 ·obtain ⟨v,d,a,xs,rfl,_⟩:=h
  rfl
 ·obtain ⟨v,d,a,xs,rfl,hv,ha,hx,q⟩:=h
  have sc:=qcl
  refine ⟨_,(yam rfl (qag (qas (qab (qax (qae qa3 rfl (B.of rfl) boot_isinstance (qaa (pv 0) (qaa (qbb (v:=.ty "str") rfl (B.of rfl) boot_str rfl) yab))) (qbn (qau qbr (pv 0) (pv 1) (by with_unfolding_all rfl)))))))),?_⟩
  refine ⟨_,rfl,_,_,_,_,rfl,hv.ty,qk4 d,_,rfl,?_⟩
  cases hs:isStr d with
  | false=>
   have e:oneD xs d=false:=by cases d<;>first|rfl|cases hs
   rw[e] at q
   exact iteF q
  | true=>
   obtain ⟨x,rfl⟩:∃ x,d=.str x:=by cases d<;>first|exact ⟨_,rfl⟩|cases hs
   have ev:v=.str x:=by
    rcases hv with h|⟨e,_⟩
    ·exact h.strEq
    ·cases e
   subst ev
   exact iteT ⟨_,rfl,_,rfl,a,xs,rfl,.inr (ha _),rfl,hx,q⟩
noncomputable def qmh:PyData→Bool | .int i=>decide (0≤i∧i<64)|_=>false
noncomputable def ql4:Sp:=fun vs H Q _=>∃ v d,vs=[v]∧AtX H v d∧Q (.bl (qmh d)) H
theorem og_cell (ybh:∃ t,mg "MOST_CELLS" = some (.int 64 t)) (ya0:Has P w K mg base 1 "is_whole" ["thing"] yfu) (F:FnAt K mg "is_cell" ydq ["thing"]):Has P w K mg base 2 "is_cell" ["thing"] ql4:=by
 refine Has.ofQ F qdy (fun vs H Q E h=>?_) (fun f cdv A outer s H vs Q E hr h=>?_)
 ·obtain ⟨v,d,rfl,_⟩:=h
  rfl
 ·obtain ⟨v,d,rfl,hv,q⟩:=h
  have sc:=qdy
  refine ⟨_,(yam rfl (qag (qas (qab (qax (qah ya0 hr (qaa (pv 0) yab)) (qax (qau qig (pv 0) qac (qaj _)) (qbn (qau op_lt (pv 0) (qct ybh) (qaj _))))))))),?_⟩
  refine ⟨_,rfl,v,d,rfl,hv,_,rfl,?_⟩
  cases hw:yg4 d with
  | false=>
   have e:qmh d=false:=by cases d<;>first|rfl|cases hw
   rw[e] at q
   exact iteF q
  | true=>
   obtain ⟨i,rfl⟩:∃ i,d=.int i:=by cases d<;>first|exact ⟨_,rfl⟩|cases hw
   have ev:v=.int i:=by
    rcases hv with h|⟨e,_⟩
    ·exact h.intEq
    ·cases e
   subst ev
   have e:qmh (.int i)=decide (0≤i∧i<64):=rfl
   rw[e] at q
   refine iteT ⟨_,rfl,_,_,rfl,rfl,_,rfl,?_⟩
   by_cases h0:0≤i
   ·refine iteD h0 ⟨_,rfl,_,_,rfl,rfl,?_⟩
    rw[show decide (0≤i∧i<64)=decide (i<64) by simp[h0]] at q
    exact q
   ·refine ybe h0 ?_
    rw[decide_eq_false (fun z=>h0 z.1)] at q
    exact q
noncomputable def yd2 (nm:Str) (d:PyData):Bool:=if nm="cell" then qmh d else if nm="bit" then bitD d else oneD [.str "and",.str "or"] d
noncomputable def ykt:Sp:=fun vs H Q _=>∃ nm v d,vs=[.str nm,v]∧AtX H v d∧∀ H',Same H H'→Q (.bl (yd2 nm d)) H'
theorem og_part (ye2:GTup K mg "JOININGS" [.str "and",.str "or"]) (yf8:Has P w K mg base 2 "is_cell" ["thing"] ql4) (qbx:Has P w K mg base 2 "is_bit" ["thing"] yjs) (qba:Has P w K mg base 1 "is_one_of" ["thing","words"] (qh5 K)) (F:FnAt K mg "is_part" qdu ["name","thing"]):Has P w K mg base 3 "is_part" ["name","thing"] ykt:=by
 refine Has.ofQ F qdz (fun vs H Q E h=>?_) (fun f cdv A outer s H vs Q E hr h=>?_)
 ·obtain ⟨nm,v,d,rfl,_⟩:=h
  rfl
 ·obtain ⟨nm,v,d,rfl,hv,q⟩:=h
  have sc:=qdz
  refine ⟨_,(yam rfl (qad (ya9 (qaz qa6 (qab (pv 0)) (qab yaj) (qaj _))
    (qag (qas (qaq yf8 hr (yak (qab (pv 1)) qaf))))
    yaw)
   (qad (ya9 (qaz qa6 (qab (pv 0)) (qab yaj) (qaj _))
    (qag (qas (qaq qbx hr (yak (qab (pv 1)) qaf))))
    yaw)
   (qag (qas (qaq qba hr (yak (qab (pv 1)) (yak (qab (yf4 ye2)) qaf)))))))),?_⟩
  unfold yd2 at q
  refine ⟨_,rfl,rfl,_,rfl,?_⟩
  by_cases h1:nm="cell"
  ·rw[if_pos h1] at q
   exact iteB (by rw[h1];decide +kernel) ⟨_,rfl,v,d,rfl,hv,q H (Same.refl H)⟩
  ·rw[if_neg h1] at q
   refine iteN (by simpa using h1) ⟨_,rfl,rfl,_,rfl,?_⟩
   by_cases h2:nm="bit"
   ·rw[if_pos h2] at q
    exact iteB (by rw[h2];decide +kernel) ⟨_,rfl,v,d,rfl,hv,q⟩
   ·rw[if_neg h2] at q
    exact iteN (by simpa using h2) ⟨_,rfl,fun g hg=>⟨v,d,g,_,rfl,hv,hg,by decide,q H (Same.refl H)⟩⟩
noncomputable def yh2:PyData→Bool | .tuple (.str x::_)=>KTD.inKeys x tabP|_=>false
noncomputable def qks:Sp:=fun vs H Q _=>∃ v d,vs=[v]∧AtX H v d∧Q (.bl (yh2 d)) H
theorem og_word (B:Bl mg) {aP:Addr} (gP:mg "PARTS" = some (.ref aP)) (TP:TabK K aP tabP) (F:FnAt K mg "has_word" qcz ["thing"]):Has P w K mg base 1 "has_word" ["thing"] qks:=by
 refine Has.ofQ F yc4 (fun vs H Q E h=>?_) (fun f cdv A outer s H vs Q E hr h=>?_)
 ·obtain ⟨v,d,rfl,_⟩:=h
  rfl
 ·obtain ⟨v,d,rfl,hv,q⟩:=h
  have sc:=yc4
  refine ⟨_,(yam rfl (qag (qas (qab (qax (qae qa3 rfl (B.of rfl) boot_isinstance (qaa (pv 0) (qaa (qbb (v:=.ty "tuple") rfl (B.of rfl) boot_tuple rfl) yab))) (qax (qau qfk (qae yag rfl (B.of rfl) boot_len (qaa (pv 0) yab)) qac (qaj _)) (qax (qae qa3 rfl (B.of rfl) boot_isinstance (qaa (yan yap (pv 0) qac (fun _ _=>rfl)) (qaa (qbb (v:=.ty "str") rfl (B.of rfl) boot_str rfl) yab))) (qbn (qau (yjr (D:=tabP)) (yan yap (pv 0) qac (fun _ _=>rfl)) (ya1 (v:=.ref aP) rfl gP rfl) (by with_unfolding_all rfl)))))))))),?_⟩
  refine ⟨_,rfl,_,_,_,_,rfl,hv.ty,qmm d,_,rfl,?_⟩
  cases hs:isTup d with
  | false=>
   have e:yh2 d=false:=by cases d<;>first|rfl|cases hs
   rw[e] at q
   exact iteF q
  | true=>
   obtain ⟨ds,rfl⟩:∃ ds,d=.tuple ds:=by cases d<;>first|exact ⟨_,rfl⟩|cases hs
   have hv':At H v (.tuple ds):=by
    rcases hv with h|⟨e,_⟩
    ·exact h
    ·cases e
   obtain ⟨a,vs,rfl,ha,hw⟩:=hv'.tupEq
   refine iteT ⟨_,rfl,a,_,rfl,.inr (SqT.of ha),_,_,rfl,rfl,_,rfl,?_⟩
   cases hw with
   | nil=>exact ybe (by simp) q
   | cons h1 rr=>
    rename_i x d1 xs ds1
    refine iteD (by simp) ?_
    refine ⟨_,rfl,a,_,_,_,rfl,rfl,SqT.of ha,yad 0 rfl,_,_,_,_,rfl,AtX.ty (.inl h1),qk4 d1,_,rfl,?_⟩
    cases hs1:isStr d1 with
    | false=>
     have e:yh2 (.tuple (d1::ds1))=false:=by cases d1<;>first|rfl|cases hs1
     rw[e] at q
     exact iteF q
    | true=>
     obtain ⟨o,rfl⟩:∃ o,d1=.str o:=by cases d1<;>first|exact ⟨_,rfl⟩|cases hs1
     have:=h1.strEq
     subst this
     exact iteT ⟨_,rfl,a,_,_,_,rfl,rfl,SqT.of ha,yad 0 rfl,aP,o,rfl,rfl,TP,q⟩
end
structure okP (h:Hm) (ns:List Str):Prop where
 tab:KTD.datumAt h.w tabP=some (qaw h.c.length ns)
 rest:Rest ns h.r
 cl:1≤h.c.length∧h.c.length≤2
 rl:ns.length≤2
 rg:∀ x∈h.c,0≤x∧x<64
theorem okP.full {h:Hm}{ns:List Str} (o:okP h ns) (nd:h.c.Nodup):okH h ns:=⟨o.tab,o.rest,o.cl,o.rl,nd,o.rg⟩
theorem okP.len {h:Hm}{ns:List Str} (o:okP h ns):(h.c.map V.int++h.r).length=(qaw h.c.length ns).length:=by
 unfold qaw
 simp[o.rest.len]
theorem okP.cellAt {h:Hm}{ns:List Str} (o:okP h ns) {i:Nat}{x y:V} (hx:(qaw h.c.length ns)[i]?=some x) (hy:(h.c.map V.int++h.r)[i]?=some y) :
  (x=.str "cell"∧∃ c,h.c[i]?=some c∧y=.int c)∨(h.c.length≤i∧((x=.str "bit"∧bitV y)∨(x=.str "how"∧howV y))):=by
 unfold qaw at hx
 by_cases hi:i<h.c.length
 ·rw[List.getElem?_append_left (by simpa using hi),List.getElem?_replicate,if_pos hi] at hx
  rw[List.getElem?_append_left (by simpa using hi)] at hy
  obtain ⟨c,hc,rfl⟩:=qby hy
  exact .inl ⟨(Option.some.inj hx).symm,c,hc,rfl⟩
 ·rw[List.getElem?_append_right (by simpa using Nat.le_of_not_lt hi)] at hx
  rw[List.getElem?_append_right (by simpa using Nat.le_of_not_lt hi)] at hy
  simp only[List.length_replicate,List.length_map] at hx hy
  obtain ⟨n,hn,rfl⟩:=qby hx
  rcases o.rest.get hn hy with ⟨rfl,hb⟩|⟨rfl,hb⟩
  ·exact .inr ⟨Nat.le_of_not_lt hi,.inl ⟨rfl,hb⟩⟩
  ·exact .inr ⟨Nat.le_of_not_lt hi,.inr ⟨rfl,hb⟩⟩
section
variable {P:Program}{w:World}{K:PySem.W.Frag}{mg:Str→Option Value}{base:Heap}
noncomputable def ygr:Sp:=fun vs H Q _=>∃ v h ns,vs=[v]∧HAt H v h∧okP h ns∧∀ D H',Same H H'→H D=none→H' D=some (.lst (h.c.map V.int))→Q (.ref D) H'
theorem qi3 (B:Bl mg) (yee:mg "zip" = none) {aP:Addr} (gP:mg "PARTS" = some (.ref aP)) (TP:TabK K aP tabP) (F:FnAt K mg "cells_in" ycy ["harm"]):Has P w K mg base 1 "cells_in" ["harm"] ygr:=by
 refine Has.of F qc5 (fun vs H Q E h=>?_) (fun f cdv A outer s H vs Q E hr h=>?_)
 ·obtain ⟨v,h,ns,rfl,_⟩:=h
  rfl
 ·obtain ⟨v,h,ns,rfl,⟨a,rfl,ha⟩,ok,k⟩:=h
  have sc:=qc5
  refine ⟨_,(yaf (qat (yce rfl (qa8 rfl) (M:=["name","part"]) (ix:=[none,none]) (qie rfl yee (qaa (yan (yjt (D:=tabP)) (ya1 (v:=.ref aP) rfl gP rfl) (yan yap (pv 0) qac (fun _ _=>rfl)) (fun _ _=>rfl)) (qaa (ybs yjl (pv 0) (qbi qac) ych) yab))) (fun _ _ _ _=>(yf5 (K:=K) (n:=2) rfl rfl (qan (qak (i:=0) (show List.Nodup (["name","part"]:List Str) by decide +kernel) rfl (Or.inl rfl)) (qan (qak (i:=1) (show List.Nodup (["name","part"]:List Str) by decide +kernel) rfl (Or.inl rfl)) qbp)))) (fun _ _ _ _=>(qhv (qao qa6 (pv 0) yaj (qaj _)))) (fun _ _ _ _=>(pv 1))))),?_⟩
  refine ⟨_,rfl,a,_,_,_,rfl,rfl,SqT.of ha,yad 0 rfl,aP,h.w,_,rfl,rfl,TP,ok.tab,fun pn hpn=>?_⟩
  refine ⟨_,rfl,_,rfl,a,_,rfl,SqT.of ha,qix h,fun q hq=>?_⟩
  rw[qht]
  have s1:Same H (upd H q (.tup (h.c.map V.int++h.r))):=(Same.refl H).upd hq
  have e1:upd H q (.tup (h.c.map V.int++h.r)) q=some (.tup (h.c.map V.int++h.r)):=yaa
  revert s1 e1
  generalize upd H q (.tup (h.c.map V.int++h.r))=H1
  intro s1 e1
  refine ⟨true,true,pn,q,_,_,rfl,hpn _,SqT.of e1,fun D hD=>?_⟩
  refine yej (K:=K) (ok.len.symm) (fun i H'=>Same H1 H'∧H' D=some (.lst ((h.c.take i).map V.int))) ⟨(Same.refl H1).upd hD,yaa⟩ ?_ ?_ ?_
  ·rintro i H2 ⟨s2,e2⟩
   exact ⟨hpn _,SqT.of (s2 _ _ e1)⟩
  ·rintro H2 ⟨s2,e2⟩
   rw[List.take_of_length_le (by simp[qaw])] at e2
   exact k D H2 (s1.trans s2) (s1.free hD) e2
  ·rintro i x y p H2 hx hy ⟨s2,e2⟩ hp
   have s3:Same H2 (upd H2 p (.tup [x,y])):=(Same.refl H2).upd hp
   refine ⟨p,_,rfl,SqT.of yaa,rfl,?_⟩
   revert s3
   generalize upd H2 p (.tup [x,y])=H3
   intro s3
   refine ⟨_,_,rfl,_,_,rfl,rfl,ya6.set (ya6.set (ya6.refl _) rfl) rfl,?_⟩
   rcases ok.cellAt hx hy with ⟨rfl,c,hc,rfl⟩|⟨hge,hh⟩
   ·refine ⟨_,rfl,rfl,_,rfl,iteB (by decide +kernel) ?_⟩
    refine ⟨_,rfl,_,s3 _ _ e2,qb5 ?_,(s2.trans s3).at hD,?_⟩
    ·have:=ok.cl
     simp
     omega
    ·rw[yaa,List.take_add_one,hc];simp
   ·have hxn:∃ nm,x=.str nm∧nm≠"cell":=by
     rcases hh with ⟨rfl,_⟩|⟨rfl,_⟩
     ·exact ⟨_,rfl,by decide +kernel⟩
     ·exact ⟨_,rfl,by decide +kernel⟩
    obtain ⟨nm,rfl,hnm⟩:=hxn
    refine ⟨_,rfl,rfl,_,rfl,iteN (by simpa using hnm) ?_⟩
    refine ⟨s2.trans s3,?_⟩
    rw[qib hge]
    exact s3 _ _ e2
end
noncomputable def qbf (x:Str):Nat:=if x∈[("turns" : Str),"sets","keeps","other","both"] then 2 else 1
theorem qkp {x:Str} (h:KTD.inKeys x tabP=true):∃ ns:List Str,KTD.datumAt x tabP=some (qaw (qbf x) ns)∧ns.length≤2∧∀ n∈ns,n="bit"∨n="how":=by
 have:x="stuck"∨x="slow"∨x="forgets"∨x="misreads"∨x="turns"∨x="sets"∨x="keeps"∨x="nowhere"∨x="other"∨x="both":=by
  simpa [tabP,KTD.inKeys] using h
 rcases this with rfl|rfl|rfl|rfl|rfl|rfl|rfl|rfl|rfl|rfl
 ·exact ⟨["bit"],by decide +kernel,by decide,by decide +kernel⟩
 ·exact ⟨["bit"],by decide +kernel,by decide,by decide +kernel⟩
 ·exact ⟨["bit"],by decide +kernel,by decide,by decide +kernel⟩
 ·exact ⟨["bit"],by decide +kernel,by decide,by decide +kernel⟩
 ·exact ⟨["bit"],by decide +kernel,by decide,by decide +kernel⟩
 ·exact ⟨["bit","bit"],by decide +kernel,by decide,by decide +kernel⟩
 ·exact ⟨["bit","bit"],by decide +kernel,by decide,by decide +kernel⟩
 ·exact ⟨["bit"],by decide +kernel,by decide,by decide +kernel⟩
 ·exact ⟨[],by decide +kernel,by decide,by decide +kernel⟩
 ·exact ⟨["how"],by decide +kernel,by decide,by decide +kernel⟩
noncomputable def ybi:List Str→List PyData→Bool
 | [],[]=>true
 | n::ns,p::ps=>yd2 n p&&ybi ns ps
 | _,_=>false
theorem yha:∀ {nms:List Str}{ps:List PyData},ybi nms ps=true→ps.length=nms.length
 | [],[],_=>rfl
 | n::ns,p::ps,h=>by
  have h':(yd2 n p&&ybi ns ps)=true:=h
  rw[Bool.and_eq_true] at h'
  rw[List.length_cons,List.length_cons,yha h'.2]
 | [],_::_,h=>by cases h
 | _::_,[],h=>by cases h
theorem ygz:∀ {nms:List Str}{ps:List PyData},ps.length=nms.length→ybi nms ps=((nms.zip ps).map fun x=>yd2 x.1 x.2).all id
 | [],[],_=>rfl
 | n::ns,p::ps,h=>by
  show (yd2 n p&&ybi ns ps)=_
  rw[ygz (nms:=ns) (ps:=ps) (by simpa using h)]
  rfl
 | [],_::_,h=>by cases h
 | _::_,[],h=>by cases h
noncomputable def nmL (n:Nat) (ns:List Str):List Str:=List.replicate n ("cell" : Str)++ns
theorem qey (n:Nat) (ns:List Str):qaw n ns=(nmL n ns).map V.str:=by simp[qaw,nmL]
noncomputable def intD:PyData→Int | .int i=>i|_=>0
noncomputable def ybx (n:Nat) (ps:List PyData):List Int:=(ps.take n).map intD
theorem yl7 {H:Hp}:∀ {ns:List Str}{ps:List PyData}{ws:List V},(∀ n∈ns,n="bit"∨n="how")→AtAll H ws ps→ybi ns ps=true→Rest ns ws
 | [],[],_,_,.nil,_=>.nil
 | n::ns,p::ps,_,hn,.cons a r,h=>by
  have h':(yd2 n p&&ybi ns ps)=true:=h
  rw[Bool.and_eq_true] at h'
  have ih:=yl7 (fun x hx=>hn x (List.mem_cons_of_mem _ hx)) r h'.2
  have hp:=h'.1
  unfold yd2 at hp
  rcases hn n (List.mem_cons_self ..) with rfl|rfl
  ·rw[if_neg (by decide +kernel),if_pos rfl] at hp
   obtain ⟨i,rfl⟩:∃ i,p=.int i:=by cases p<;>first|exact ⟨_,rfl⟩|exact absurd hp (by simp[bitD])
   have:=a.intEq
   subst this
   have hi:i=0∨i=1:=of_decide_eq_true hp
   refine .bit ?_ ih
   rcases hi with rfl|rfl
   ·exact ⟨false,rfl⟩
   ·exact ⟨true,rfl⟩
  ·rw[if_neg (by decide +kernel),if_neg (by decide +kernel)] at hp
   obtain ⟨x,rfl⟩:∃ x,p=.str x:=by cases p<;>first|exact ⟨_,rfl⟩|exact absurd hp (by simp[oneD])
   have:=a.strEq
   subst this
   refine .how ?_ ih
   have h1:inV (.str x) [.str "and",.str "or"]=true:=hp
   have e:∀ {a b:Str},¬ b=a→eqV (V.str a) (V.str b)=false:=fun {a b} h=>by simp[eqV];exact fun z=>h z.symm
   by_cases h0:x="and"
   ·exact .inl (by rw[h0])
   by_cases h2:x="or"
   ·exact .inr (by rw[h2])
   exfalso
   revert h1
   simp[inV,e h0,e h2]
 | [],_::_,_,_,_,h=>by cases h
 | _::_,[],_,_,_,h=>by cases h
theorem yjz {H:Hp}{ns:List Str} (hn:∀ x∈ns,x="bit"∨x="how"):∀ (n:Nat) {ps:List PyData}{ws:List V},AtAll H ws ps→ybi (nmL n ns) ps=true→
  ws=(ybx n ps).map V.int++ws.drop n∧Rest ns (ws.drop n)∧(ybx n ps).length=n∧∀ x∈ybx n ps,0≤x∧x<64
 | 0,ps,ws,a,h=>⟨rfl,yl7 hn a h,rfl,fun x hx=>by cases hx⟩
 | n+1,[],ws,a,h=>by
  have h':ybi ("cell" :: nmL n ns) []=true:=h
  cases h'
 | n+1,p::ps,_,.cons a r,h=>by
  have h':(yd2 "cell" p&&ybi (nmL n ns) ps)=true:=h
  rw[Bool.and_eq_true] at h'
  obtain ⟨i1,i2,i3,i4⟩:=yjz hn n r h'.2
  have hp:=h'.1
  unfold yd2 at hp
  rw[if_pos rfl] at hp
  obtain ⟨i,rfl⟩:∃ i,p=.int i:=by cases p<;>first|exact ⟨_,rfl⟩|exact absurd hp (by simp[qmh])
  have:=a.intEq
  subst this
  have hi:0≤i∧i<64:=of_decide_eq_true hp
  refine ⟨?_,i2,?_,fun x hx=>?_⟩
  ·show _=V.int i::((ybx n ps).map V.int++_)
   rw[List.drop_succ_cons,← i1]
  ·show (intD (.int i)::ybx n ps).length=_
   rw[List.length_cons,i3]
  ·have hx':x∈i::ybx n ps:=hx
   rcases List.mem_cons.mp hx' with rfl|hx'
   ·exact hi
   ·exact i4 x hx'
theorem yie (x:Str):1≤qbf x∧qbf x≤2:=by
 unfold qbf
 split<;>omega
theorem hm_of {H:Hp}{a:Addr}{x:Str}{ps:List PyData}{ws:List V}{ns:List Str} (ha:H a=some (.tup (.str x::ws))) (hw:AtAll H ws ps) (ht:KTD.datumAt x tabP=some (qaw (qbf x) ns)) (hl:ns.length≤2) (hn:∀ n∈ns,n="bit"∨n="how") (hp:ybi (nmL (qbf x) ns) ps=true) :
  ∃ h,HAt H (.ref a) h∧okP h ns∧h.c=ybx (qbf x) ps:=by
 obtain ⟨i1,i2,i3,i4⟩:=yjz hn (qbf x) hw hp
 have:=yie x
 refine ⟨⟨x,ybx (qbf x) ps,ws.drop (qbf x)⟩,⟨a,rfl,?_⟩,⟨?_,i2,?_,hl,i4⟩,rfl⟩
 ·unfold hV
  rw[ha]
  show some (HO.tup (V.str x::ws))=some (HO.tup (V.str x::((ybx (qbf x) ps).map V.int++ws.drop (qbf x))))
  rw[← i1]
 ·show KTD.datumAt x tabP=some (qaw (ybx (qbf x) ps).length ns)
  rw[i3]
  exact ht
 ·show 1≤(ybx (qbf x) ps).length∧(ybx (qbf x) ps).length≤2
  rw[i3]
  exact this
theorem qjh:∀ (c:List Int),c.length≤2→decide ((uniq c).length=c.length)=decide c.Nodup
 | [],_=>by rw[ygi List.nodup_nil];rfl
 | [a],_=>by rw[ygi (by simp)];simp
 | [a,b],_=>by
  by_cases h:a=b
  ·subst h
   have e:uniq [a,a]=[a]:=by simp[uniq,ya4]
   rw[e]
   simp
  ·have hn:[a,b].Nodup:=by simp[h]
   rw[ygi hn,decide_eq_true hn]
   simp
 | _::_::_::_,h=>by simp at h
theorem qlq (u:V) (ws:List V):cutV (u::ws) (some 1) none=ws:=yfq 1
theorem tail_ne1 (u:V) (ws:List V):¬ (HT.sIx (u::ws).length 0 (some 1)=0∧HT.sIx (u::ws).length (u::ws).length none=(u::ws).length):=by
 rintro ⟨h0,_⟩
 unfold HT.sIx at h0
 simp at h0
section
variable {P:Program}{w:World}{K:PySem.W.Frag}{mg:Str→Option Value}{base:Heap}
noncomputable def qjk:Sp:=fun vs H Q _=>∃ v x ps n ns,vs=[v]∧At H v (.tuple (.str x::ps))∧KTD.datumAt x tabP=some (qaw n ns)∧n≤2∧ns.length≤2∧∀ H',Same H H'→Q (.bl (ybi (nmL n ns) ps)) H'
theorem og_parts (B:Bl mg) (yee:mg "zip" = none) (qd9:mg "all" = none) {aP:Addr} (gP:mg "PARTS" = some (.ref aP)) (TP:TabK K aP tabP) (qf4:Has P w K mg base 3 "is_part" ["name","thing"] ykt) (F:FnAt K mg "has_parts" ycf ["thing"]):Has P w K mg base 4 "has_parts" ["thing"] qjk:=by
 refine Has.of F ycp (fun vs H Q E h=>?_) (fun f cdv A outer s H vs Q E hr h=>?_)
 ·obtain ⟨v,x,ps,n,ns,rfl,_⟩:=h
  rfl
 ·obtain ⟨v,x,ps,n,ns,rfl,hv,ht,hn2,hl2,k⟩:=h
  obtain ⟨a,vs,rfl,ha,hw⟩:=hv.tupEq
  cases hw with
  | cons h1 hw=>
  rename_i u ws
  have:=h1.strEq
  subst this
  have hwl:=hw.length
  have hnl:(nmL n ns).length=n+ns.length:=by simp[nmL]
  have hnm:(qaw n ns).length=n+ns.length:=by rw[qey,List.length_map,hnl]
  have sc:=ycp
  refine ⟨_,(yah (qa2 (i:=1) sc.nd rfl (Or.inl rfl) (yan (yjt (D:=tabP)) (ya1 (v:=.ref aP) rfl gP rfl) (yan yap (pv 0) qac (fun _ _=>rfl)) (fun _ _=>rfl)))
   (yaf (qat (qax (qau qa6 (qae yag rfl (B.of rfl) boot_len (qaa (pv 0) yab)) (qa7 yb0 (qae yag rfl (B.of rfl) boot_len (qaa (pv 1) yab)) qac) (qaj _)) (qbn (qae (ydl rfl) rfl qd9 yds (qaa (yce rfl (qa8 rfl) (M:=["name","part"]) (ix:=[none,none]) (qie rfl yee (qaa (pv 1) (qaa (ybs yjl (pv 0) (qbi qac) ych) yab))) (fun _ _ _ _=>(yf5 (K:=K) (n:=2) rfl rfl (qan (qak (i:=0) (show List.Nodup (["name","part"]:List Str) by decide +kernel) rfl (Or.inl rfl)) (qan (qak (i:=1) (show List.Nodup (["name","part"]:List Str) by decide +kernel) rfl (Or.inl rfl)) qbp)))) (fun _ _ _ _=>yda) (fun _ _ _ _=>(qah qf4 hr (qaa (pv 0) (qaa (pv 1) yab))))) yab))))))),?_⟩
  refine ⟨_,rfl,a,_,_,_,rfl,rfl,SqT.of ha,yad 0 rfl,aP,x,_,rfl,rfl,TP,ht,fun pn hpn=>?_⟩
  refine ⟨_,rfl,a,_,rfl,.inr (SqT.of ha),_,rfl,pn,_,rfl,.inr (hpn _),_,_,rfl,rfl,rfl,_,rfl,?_⟩
  by_cases hlen:ps.length=(nmL n ns).length
  rotate_left
  ·refine iteN (decide_eq_false (fun z=>?_)) ?_
   ·have:=V.int.inj z
    rw[List.length_cons,hnm] at this
    omega
   ·have e:ybi (nmL n ns) ps=false:=by
     cases hb:ybi (nmL n ns) ps with
     | false=>rfl
     | true=>exact absurd (yha hb) hlen
    rw[e] at k
    exact k H (Same.refl H)
  refine iteB (decide_eq_true ?_) ?_
  ·congr 1
   rw[List.length_cons,hnm]
   omega
  refine ⟨_,rfl,_,rfl,_,rfl,a,_,rfl,SqT.of ha,tail_ne1 _ _,fun q hq=>?_⟩
  rw[qlq]
  have s1:Same H (upd H q (.tup ws)):=(Same.refl H).upd hq
  have e1:upd H q (.tup ws) q=some (.tup ws):=yaa
  revert s1 e1
  generalize upd H q (.tup ws)=H1
  intro s1 e1
  refine ⟨true,true,pn,q,_,_,rfl,hpn _,SqT.of e1,fun D hD=>?_⟩
  refine yej (K:=K) (xs:=qaw n ns) (ys:=ws) (by omega) (fun i H'=>Same H1 H'∧H' D=some (.lst (((((nmL n ns).zip ps).take i).map fun z=>yd2 z.1 z.2).map V.bl))) ⟨(Same.refl H1).upd hD,yaa⟩ ?_ ?_ ?_
  ·rintro i H2 ⟨s2,e2⟩
   exact ⟨hpn _,SqT.of (s2 _ _ e1)⟩
  ·rintro H2 ⟨s2,e2⟩
   rw[List.take_of_length_le (by rw[List.length_zip];omega)] at e2
   refine ⟨D,_,rfl,e2,?_⟩
   rw[← ygz hlen]
   exact k _ (s1.trans s2)
  ·rintro i xx y p H2 hx hy ⟨s2,e2⟩ hp
   rw[qey] at hx
   obtain ⟨nm,hnm',rfl⟩:=qby hx
   obtain ⟨dy,hdy,hay⟩:=hw.get hy
   have hi:i<n+ns.length:=by have:=(List.getElem?_eq_some_iff.mp hnm').1;omega
   have s3:Same H2 (upd H2 p (.tup [.str nm,y])):=(Same.refl H2).upd hp
   refine ⟨p,_,rfl,SqT.of yaa,rfl,?_⟩
   refine ⟨_,_,rfl,_,_,rfl,rfl,ya6.set (ya6.set (ya6.refl _) rfl) rfl,yes ?_⟩
   refine ⟨_,rfl,_,rfl,nm,y,dy,rfl,.inl (hay.same ((s1.trans s2).trans s3)),fun H3 s4=>?_⟩
   have s23:Same H2 H3:=s3.trans s4
   refine ⟨_,s23 _ _ e2,qb5 ?_,(s2.trans s23).at hD,?_⟩
   ·rw[List.length_map,List.length_map,List.length_take]
    omega
   ·rw[yaa,List.take_add_one,List.getElem?_zip_eq_some (z:=(nm,dy)) |>.mpr ⟨hnm',hdy⟩]
    simp
noncomputable def nmOf (x:Str):List Str:=((KTD.datumAt x tabP).getD []).filterMap fun v=>match v with | .str s=>some s|_=>none
theorem qje {x:Str}{n:Nat}{ns:List Str} (h:KTD.datumAt x tabP=some (qaw n ns)):nmOf x=nmL n ns:=by
 unfold nmOf
 rw[h,qey]
 show (List.map V.str (nmL n ns)).filterMap _=_
 rw[List.filterMap_map]
 exact List.filterMap_some
noncomputable def yhz:PyData→Bool
 | .tuple (.str x::ps)=>KTD.inKeys x tabP&&(ybi (nmOf x) ps&&decide (ybx (qbf x) ps).Nodup)
 | _=>false
noncomputable def qf1:PyData→List Int
 | .tuple (.str x::ps)=>ybx (qbf x) ps
 | _=>[]
theorem qk2 {d:PyData} (h:yh2 d=true):∃ x ps,d=.tuple (.str x::ps)∧KTD.inKeys x tabP=true:=by
 match d,h with
 | .tuple (.str x::ps),h=>exact ⟨x,ps,rfl,h⟩
theorem noword {d:PyData} (h:yh2 d=false):yhz d=false:=by
 match d with
 | .tuple (.str x::ps)=>
  have h':KTD.inKeys x tabP=false:=h
  show (KTD.inKeys x tabP&&_)=false
  rw[h']
  rfl
 | .tuple []=>rfl
 | .tuple (.none::_)=>rfl
 | .tuple (.bool _::_)=>rfl
 | .tuple (.int _::_)=>rfl
 | .tuple (.list _::_)=>rfl
 | .tuple (.tuple _::_)=>rfl
 | .tuple (.dict _::_)=>rfl
 | .none=>rfl
 | .bool _=>rfl
 | .int _=>rfl
 | .str _=>rfl
 | .list _=>rfl
 | .dict _=>rfl
theorem qmj {H:Hp}{v:V}{d:PyData} (hv:At H v d) (h:yhz d=true):∃ g ns,HAt H v g∧okH g ns∧g.c=qf1 d:=by
 have hw:yh2 d=true:=by
  cases hq:yh2 d with
  | true=>rfl
  | false=>rw[noword hq] at h;cases h
 obtain ⟨x,ps,rfl,hk⟩:=qk2 hw
 have h':(KTD.inKeys x tabP&&(ybi (nmOf x) ps&&decide (ybx (qbf x) ps).Nodup))=true:=h
 rw[Bool.and_eq_true,Bool.and_eq_true] at h'
 obtain ⟨ns,ht,hl,hn⟩:=qkp hk
 obtain ⟨a,vs,rfl,ha,hwa⟩:=hv.tupEq
 cases hwa with
 | cons h1 hwa=>
 have:=h1.strEq
 subst this
 have hp:=h'.2.1
 rw[qje ht] at hp
 obtain ⟨g,hg,ok,hc⟩:=hm_of ha hwa ht hl hn hp
 exact ⟨g,ns,hg,ok.full (by rw[hc];exact of_decide_eq_true h'.2.2),hc⟩
noncomputable def yk6:Sp:=fun vs H Q _=>∃ v d,vs=[v]∧AtX H v d∧∀ H',Same H H'→Q (.bl (yhz d)) H'
theorem og_harm (B:Bl mg) (qdi:mg "set" = none) (qe2:Has P w K mg base 1 "has_word" ["thing"] qks) (qed:Has P w K mg base 4 "has_parts" ["thing"] qjk) (qa9:Has P w K mg base 1 "cells_in" ["harm"] ygr) (F:FnAt K mg "is_harm" qds ["thing"]):Has P w K mg base 5 "is_harm" ["thing"] yk6:=by
 refine Has.of F qdw (fun vs H Q E h=>?_) (fun f cdv A outer s H vs Q E hr h=>?_)
 ·obtain ⟨v,d,rfl,_⟩:=h
  rfl
 ·obtain ⟨v,d,rfl,hv,k⟩:=h
  have sc:=qdw
  refine ⟨_,(yah (qbu (PW.pt (qka (qde (qco (qah qe2 hr (qaa (pv 0) yab)))) (qg6 (qde (qco (qah qed hr (qaa (pv 0) yab)))))))
    (yaf (qat qgu))
    yav)
   (yah (qa2 (i:=1) sc.nd rfl (Or.inl rfl) (qah qa9 hr (qaa (pv 0) yab)))
   (yaf (qat (qau qa6 (qae qdb rfl (B.of rfl) boot_len (qaa (ydm (ycz rfl) rfl qdi ycv (qaa (pv 1) yab)) yab)) (qae yag rfl (B.of rfl) boot_len (qaa (pv 1) yab)) (qaj _)))))),?_⟩
  refine ⟨_,rfl,v,d,rfl,hv,_,rfl,?_⟩
  cases hw:yh2 d with
  | false=>
   rw[noword hw] at k
   exact iteT (iteT (k H (Same.refl H)))
  | true=>
   refine iteF ?_
   obtain ⟨x,ps,rfl,hk⟩:=qk2 hw
   have hv':At H v (.tuple (.str x::ps)):=by
    rcases hv with h|⟨e,_⟩
    ·exact h
    ·cases e
   obtain ⟨ns,ht,hl,hn⟩:=qkp hk
   have eh:yhz (.tuple (.str x::ps))=(KTD.inKeys x tabP&&(ybi (nmOf x) ps&&decide (ybx (qbf x) ps).Nodup)):=rfl
   rw[eh,hk,qje ht,Bool.true_and] at k
   refine ⟨_,rfl,v,x,ps,_,ns,rfl,hv',ht,(yie x).2,hl,fun H1 s1=>⟨_,rfl,?_⟩⟩
   cases hp:ybi (nmL (qbf x) ns) ps with
   | false=>
    rw[hp] at k
    exact iteB rfl (k H1 s1)
   | true=>
    rw[hp,Bool.true_and] at k
    refine iteN rfl ?_
    obtain ⟨a,vs,rfl,ha,hwa⟩:=(hv'.same s1).tupEq
    cases hwa with
    | cons h1 hwa=>
    have:=h1.strEq
    subst this
    obtain ⟨g,hg,ok,hc⟩:=hm_of ha hwa ht hl hn hp
    refine ⟨_,rfl,_,g,ns,rfl,hg,ok,fun D H2 s2 hD e2=>?_⟩
    refine ⟨_,rfl,D,g.c,rfl,e2,by have:=ok.cl;omega,fun p hp=>?_⟩
    refine ⟨p,_,rfl,yaa,?_⟩
    have s3:Same H2 (upd H2 p (SetO P w p (uniq g.c))):=(Same.refl H2).upd hp
    refine ⟨_,rfl,D,_,rfl,.inl (SqL.of (s3 _ _ e2)),rfl,?_⟩
    rw[← hc,← qjh g.c ok.cl.2] at k
    have e:decide (V.int ((uniq g.c).length:Int)=V.int ((g.c.map V.int).length:Int))=decide ((uniq g.c).length=g.c.length):=by
     rw[List.length_map]
     apply decide_eq_decide.mpr
     constructor
     ·intro z;have:=V.int.inj z;omega
     ·intro z;rw[z]
    rw[e]
    exact k _ ((s1.trans s2).trans s3)
end
noncomputable def optN:Option Nat→V|none=>.non|some n=>.int n
noncomputable def accH (ds:List PyData) (i:Nat):List Int:=(ds.take i).flatMap qf1
noncomputable def ydi (ds:List PyData) (i:Nat):Bool:=!(yhz (ds.getD i .none))||decide (3<(uniq (accH ds (i+1))).length)
noncomputable def yat:PyData→Option (Option Nat)
 | .list ds=>if 3<ds.length then some none else ((List.range ds.length).find? (ydi ds)).map some
 | _=>some none
theorem ygs {ds:List PyData}{i:Nat} (hl:¬ 3<ds.length) (hi:i<ds.length) (hb:ydi ds i=true) (ho:∀ j,j<i→ydi ds j=false):yat (.list ds)=some (some i):=by
 show (if 3<ds.length then some none else ((List.range ds.length).find? (ydi ds)).map some)=_
 rw[if_neg hl,List.find?_range_eq_some.mpr ⟨hb,by simpa using hi,fun j hj=>by rw[ho j hj];rfl⟩]
 rfl
theorem ygl {ds:List PyData} (hl:¬ 3<ds.length) (ho:∀ j,j<ds.length→ydi ds j=false):yat (.list ds)=none:=by
 show (if 3<ds.length then some none else ((List.range ds.length).find? (ydi ds)).map some)=_
 rw[if_neg hl,List.find?_range_eq_none.mpr fun j hj=>by rw[ho j hj];rfl]
 rfl
theorem yko {ds:List PyData}{i:Nat}{d:PyData} (h:ds[i]?=some d):accH ds (i+1)=accH ds i++qf1 d:=by
 unfold accH
 rw[List.take_add_one,h,List.flatMap_append]
 simp
section
variable {P:Program}{w:World}{K:PySem.W.Frag}{mg:Str→Option Value}{base:Heap}
noncomputable def qjj (C:Addr):Sp:=fun vs H Q E=>∃ v d,vs=[v]∧AtX H v d∧(yat d=none→∀ H',Same H H'→Q .non H')∧(∀ b,yat d=some b→∀ a H',Same H H'→XAt H' a C [("number",optN b)]→E (.ref a) none H')
theorem og_harms {C:Addr} (B:Bl mg) (xH:qj9 P w K mg base "NoHarms" C ["self","number"] (sp_x1 C "number")) (qdi:mg "set" = none) (ydt:∃ t,mg "MOST_HARMS" = some (.int 3 t)) (yc9:∃ t,mg "MOST_UNLIKE" = some (.int 3 t)) (qf3:Has P w K mg base 5 "is_harm" ["thing"] yk6) (qa9:Has P w K mg base 1 "cells_in" ["harm"] yb2)
  (F:FnAt K mg "look_at_harms" ybg ["thing"]):HasX P w K mg base 6 "look_at_harms" ["thing"] (qjj C):=by
 refine HasX.of F qbt (fun vs H Q E h=>?_) (fun f cdv A outer s H vs Q E hr h=>?_)
 ·obtain ⟨v,d,rfl,_⟩:=h
  rfl
 ·obtain ⟨v,d,rfl,hv,q1,q2⟩:=h
  have z1:1≤sizeLine:=by decide
  have sc:=qbt
  refine ⟨_,(yam rfl (qad (ya9 (QW.pt (qlx (qd8 (ycg (ybf qa3 rfl (B.of rfl) boot_isinstance (yak (qab (pv 0)) (yak (qab (qbb (v:=.ty "list") rfl (B.of rfl) boot_list rfl)) qaf))))) (yj2 (qaz qfk (ybf yag rfl (B.of rfl) boot_len (yak (qab (pv 0)) qaf)) (qab (qct ydt)) (qaj _)))))
    (qag (qee (qb3 (qkl xH hr (qaa yb6 yab)))))
    yaw)
   (qad (yaq (i:=1) sc.nd rfl (Or.inl rfl) (yau qaf))
   (qag (ydf yeq rfl (qhl (qc8 rfl (B.of rfl) (qaa (pv 0) yab))) (ydg rfl (qan (qak (i:=2) sc.nd rfl (Or.inl rfl)) (qan (qak (i:=3) sc.nd rfl (Or.inl rfl)) qbp)))
    (qad (ya9 (qd8 (ycg (qaq qf3 hr (yak (qab (pv 3)) qaf))))
     (qag (qee (qb3 (qkl xH hr (qaa (pv 2) yab)))))
     yaw)
    (qad (ya8 (qab (qe4 PySem.F.plainAttrs_list PySem.F.slot_list_extend PySem.F.type_list_extend qet (pv 1) (qaa (qah qa9 hr (qaa (pv 3) yab)) yab))))
    (qag (ya9 (qaz qfk (ybf qdb rfl (B.of rfl) boot_len (yl9 (qbh (ycz rfl) rfl qdi ycv (yak (qab (pv 1)) qaf)) qaf)) (qab (qct yc9)) (qaj _))
     (qag (qee (qb3 (qkl xH hr (qaa (pv 2) yab)))))
     yaw))))))))),?_⟩
  have hraise:∀ {H1:Hp}{a:Addr} (b:Option Nat),yat d=some b→Same H H1→H1 a=none→∀ dd H4,XD H4 a C (some dd) [("number",optN b)]→SetX a dd none (upd H1 a (.ext (yb8 a C none))) H4→(∃ a' C' dx,V.ref a=V.ref a'∧XTy K C'∧H4 a'=some (.ext (yb8 a' C' dx))∧E (.ref a') none (upd H4 a' (.ext (yck a' C' dx)))):=fun {H1 a} b hb s1 ha dd H4 x4 s4=>by
   obtain ⟨r1,r2,r3⟩:=qhw ha x4 s4
   exact ⟨a,C,some dd,rfl,xH.2.2.1.toXTy,r1,q2 b hb a _ (s1.trans r2) r3⟩
  refine ⟨_,rfl,_,_,_,_,rfl,hv.ty,yhg d,_,rfl,?_⟩
  cases hs:qmf d with
  | false=>
   have e:yat d=some none:=by cases d<;>first|rfl|cases hs
   refine iteT (iteT ⟨z1,fun a ha=>⟨a,_,rfl,.inl ⟨rfl,rfl,yaa⟩,fun dd H1 x1 s1=>⟨rfl,?_⟩⟩⟩)
   exact hraise none e (Same.refl H) ha dd H1 x1 s1
  | true=>
   obtain ⟨ds,rfl⟩:∃ ds,d=.list ds:=by cases d<;>first|exact ⟨_,rfl⟩|cases hs
   have hv':At H v (.list ds):=by
    rcases hv with h|⟨e,_⟩
    ·exact h
    ·cases e
   obtain ⟨L,us,rfl,hL,hu⟩:=hv'.lstEq
   have hul:=hu.length
   refine iteF ⟨_,rfl,L,us,rfl,.inl (SqL.of hL),_,_,rfl,rfl,_,rfl,?_⟩
   by_cases h3:3<ds.length
   ·have e:yat (.list ds)=some none:=by
     show (if 3<ds.length then some none else _)=_
     rw[if_pos h3]
    refine iteD (by omega) ⟨z1,fun a ha=>⟨a,_,rfl,.inl ⟨rfl,rfl,yaa⟩,fun dd H1 x1 s1=>⟨rfl,?_⟩⟩⟩
    exact hraise none e (Same.refl H) ha dd H1 x1 s1
   refine ybe (by omega) ?_
   refine ⟨Nat.zero_le _,fun p hp=>?_⟩
   have npL:L≠p:=yae hL hp
   refine ⟨_,rfl,L,us,rfl,SqL.of (by rw[yai npL];exact hL),qcb (xs:=us) (fun i σ H2=>∃ (o2 o3:Option V),σ=[some (.ref L),some (.ref p),o2,o3]∧Same H H2∧H2 p=some (.lst ((accH ds i).map V.int))∧(accH ds i).length≤2*i∧∀ j,j<i→ydi ds j=false)
    ⟨none,none,rfl,(Same.refl H).upd hp,yaa,Nat.le_refl _,fun j hj=>absurd hj (by omega)⟩ (fun i σ H2 _ ⟨_,_,_,h,_⟩=>SqL.of (h _ _ hL)) ?_ ?_⟩
   ·rintro i x pp σ H2 hx ⟨o2,o3,rfl,s2,e2,l2,ho⟩ hpp
    obtain ⟨dx,hdx,hat⟩:=hu.get hx
    have hil:i<ds.length:=(List.getElem?_eq_some_iff.mp hdx).1
    have hget:ds.getD i .none=dx:=by rw[List.getD_eq_getElem?_getD,hdx];rfl
    have sP:Same H2 (upd H2 pp (.tup [.int i,x])):=(Same.refl H2).upd hpp
    refine ⟨pp,_,rfl,SqT.of yaa,rfl,_,_,rfl,_,_,rfl,rfl,?_⟩
    refine ⟨_,rfl,x,dx,rfl,.inl (hat.same (s2.trans sP)),fun H3 s3=>⟨_,rfl,?_⟩⟩
    have s23:Same H2 H3:=sP.trans s3
    cases hb:yhz dx with
    | false=>
     have e:yat (.list ds)=some (some i):=ygs h3 hil (by unfold ydi;rw[hget,hb];rfl) ho
     refine iteT ⟨_,rfl,z1,fun a ha=>⟨a,_,rfl,.inl ⟨rfl,rfl,yaa⟩,fun dd H1 x1 s1=>⟨rfl,?_⟩⟩⟩
     exact hraise (some i) e (s2.trans s23) ha dd H1 x1 s1
    | true=>
     refine iteF ?_
     obtain ⟨g,ns,hg,ok,hc⟩:=qmj (hat.same (s2.trans s23)) hb
     refine ⟨_,rfl,.inl ⟨rfl,_,SqL.of (s23 _ _ e2)⟩,?_⟩
     refine ⟨_,rfl,x,g,ns,rfl,hg,ok,fun D H4 s4 hD eD=>?_⟩
     have s24:=s23.trans s4
     have hcl:=ok.cl.2
     have ea:accH ds (i+1)=accH ds i++g.c:=by rw[yko hdx,hc]
     have hlt:(accH ds (i+1)).length≤2*(i+1):=by rw[ea,List.length_append];omega
     refine ⟨p,D,_,_,rfl,rfl,s24 _ _ e2,eD,?_,?_⟩
     ·rw[List.length_map,List.length_map]
      exact Nat.le_of_lt (qb5 (by omega))
     rw[← List.map_append,← ea]
     have s5:Same H (upd H4 p (.lst ((accH ds (i+1)).map V.int))):=(s2.trans s24).at hp
     have e5:upd H4 p (.lst ((accH ds (i+1)).map V.int)) p=some (.lst ((accH ds (i+1)).map V.int)):=yaa
     revert s5 e5
     generalize upd H4 p (.lst ((accH ds (i+1)).map V.int))=H5
     intro s5 e5
     refine ⟨_,rfl,p,_,rfl,e5,by omega,fun q hq=>?_⟩
     have s6:Same H5 (upd H5 q (SetO P w q (uniq (accH ds (i+1))))):=(Same.refl H5).upd hq
     refine ⟨q,_,rfl,yaa,_,_,rfl,rfl,_,rfl,?_⟩
     by_cases hu3:3<(uniq (accH ds (i+1))).length
     ·have e:yat (.list ds)=some (some i):=ygs h3 hil (by unfold ydi;rw[hget,hb,decide_eq_true hu3];rfl) ho
      refine iteD (by omega) ⟨_,rfl,z1,fun a ha=>⟨a,_,rfl,.inl ⟨rfl,rfl,yaa⟩,fun dd H1 x1 s1=>⟨rfl,?_⟩⟩⟩
      exact hraise (some i) e (s5.trans s6) ha dd H1 x1 s1
     ·refine ybe (by omega) ⟨_,_,rfl,s5.trans s6,s6 _ _ e5,hlt,fun j hj=>?_⟩
      by_cases ej:j=i
      ·subst ej
       unfold ydi
       rw[hget,hb,decide_eq_false hu3]
       rfl
      ·exact ho j (by omega)
   ·rintro σ H2 ⟨o2,o3,rfl,s2,e2,l2,ho⟩
    exact q1 (ygl h3 fun j hj=>ho j (by omega)) _ s2
end
theorem hs_of {H:Hp}:∀ {us:List V}{ds:List PyData},AtAll H us ds→(∀ d∈ds,yhz d=true)→∃ hs,HsV H us hs∧(∀ h∈hs,∃ ns,okH h ns)∧allC hs=ds.flatMap qf1∧hs.length=ds.length
 | [],[],.nil,_=>⟨[],⟨rfl,fun i v h h1=>by simp at h1⟩,fun h hh=>(by cases hh),rfl,rfl⟩
 | u::us,d::ds,.cons a r,hd=>by
  obtain ⟨hs,h1,h2,h3,h4⟩:=hs_of r fun x hx=>hd x (List.mem_cons_of_mem _ hx)
  obtain ⟨g,ns,hg,ok,hc⟩:=qmj a (hd d (List.mem_cons_self ..))
  refine ⟨g::hs,⟨by simp[h1.len],fun i v h e1 e2=>?_⟩,fun h hh=>?_,?_,by simp[h4]⟩
  ·cases i with
   | zero=>cases e1;cases e2;exact hg
   | succ i=>exact h1.at_ i v h e1 e2
  ·rcases List.mem_cons.mp hh with rfl|hh
   ·exact ⟨ns,ok⟩
   ·exact h2 h hh
  ·unfold allC at h3 ⊢
   rw[List.flatMap_cons,List.flatMap_cons,h3,hc]
noncomputable def qbj:PyData→List Int | .list ds=>ds.flatMap qf1|_=>[]
theorem qg1 {H:Hp}{v:V}{d:PyData} (hv:AtX H v d) (hb:yat d=none):∃ L us hs S,v=.ref L∧H L=some (.lst us)∧HsV H us hs∧okHs hs S∧allC hs=qbj d:=by
 obtain ⟨ds,rfl⟩:∃ ds,d=.list ds:=by cases d<;>first|exact ⟨_,rfl⟩|cases hb
 have hv':At H v (.list ds):=by
  rcases hv with h|⟨e,_⟩
  ·exact h
  ·cases e
 obtain ⟨L,us,rfl,hL,hu⟩:=hv'.lstEq
 have hb':(if 3<ds.length then some none else ((List.range ds.length).find? (ydi ds)).map some)=none:=hb
 by_cases h3:3<ds.length
 ·rw[if_pos h3] at hb';cases hb'
 rw[if_neg h3] at hb'
 have hn:(List.range ds.length).find? (ydi ds)=none:=by
  cases hz:(List.range ds.length).find? (ydi ds) with
  | none=>rfl
  | some i=>rw[hz] at hb';cases hb'
 have hall:=List.find?_range_eq_none.mp hn
 have hbad:∀ i,i<ds.length→ydi ds i=false:=fun i hi=>by
  have:=hall i hi
  cases hz:ydi ds i with
  | false=>rfl
  | true=>rw[hz] at this;cases this
 obtain ⟨hs,h1,h2,h4,h5⟩:=hs_of hu fun x hx=>by
  obtain ⟨i,hi⟩:=List.getElem?_of_mem hx
  have hil:=(List.getElem?_eq_some_iff.mp hi).1
  have:=hbad i hil
  unfold ydi at this
  rw[List.getD_eq_getElem?_getD,hi] at this
  rw[Bool.or_eq_false_iff] at this
  simpa using this.1
 refine ⟨L,us,hs,uniq (allC hs),rfl,hL,h1,⟨by omega,h2,?_,fun h hh c hc=>?_⟩,h4⟩
 ·rw[h4]
  cases hz:ds.length with
  | zero=>
   have:ds=[]:=List.length_eq_zero_iff.mp hz
   rw[this]
   decide
  | succ n=>
   have:=hbad n (by omega)
   unfold ydi at this
   rw[Bool.or_eq_false_iff] at this
   have h6:=of_decide_eq_false this.2
   unfold accH at h6
   rw[List.take_of_length_le (by omega)] at h6
   omega
 ·exact (qfp _ c).mpr (List.mem_flatMap.mpr ⟨h,hh,hc⟩)
section
variable {P:Program}{w:World}{K:PySem.W.Frag}{mg:Str→Option Value}{base:Heap}
noncomputable def qgk (C:Addr):Sp:=fun vs H Q E=>∃ v d,vs=[v]∧AtX H v d∧(yat d=none→∀ (D:Addr) (ns:List Int) (H':Hp),Same H H'→H D=none→H' D=some (.lst (ns.map V.int))→ns.Perm (uniq (qbj d))→ns.Pairwise (·≤·)→Q (.ref D) H')∧(∀ b,yat d=some b→∀ a H',Same H H'→XAt H' a C [("number",optN b)]→E (.ref a) none H')
theorem yje {C:Addr} (B:Bl mg) (qdi:mg "set" = none) (qch:HasX P w K mg base 6 "look_at_harms" ["thing"] (qjj C)) (qa9:Has P w K mg base 1 "cells_in" ["harm"] yb2) (F:FnAt K mg "cells_of" qcv ["harms"]):HasX P w K mg base 7 "cells_of" ["harms"] (qgk C):=by
 refine HasX.of F yc5 (fun vs H Q E h=>?_) (fun f cdv A outer s H vs Q E hr h=>?_)
 ·obtain ⟨v,d,rfl,_⟩:=h
  rfl
 ·obtain ⟨v,d,rfl,hv0,k,kx⟩:=h
  have sc:=yc5
  refine ⟨_,(yam rfl (qad (ya8 (qab (qcd qch ygw hr (qaa (pv 0) yab))))
   (qad (yaq (i:=1) sc.nd rfl (Or.inl rfl) (yau qaf))
   (qad (ydf yeq rfl (yiy (qab (pv 0))) (qak (i:=2) sc.nd rfl (Or.inl rfl))
    (qag (ya8 (qab (qe4 PySem.F.plainAttrs_list PySem.F.slot_list_extend PySem.F.type_list_extend qet (pv 1) (qaa (qah qa9 hr (qaa (pv 2) yab)) yab))))))
   (qag (qas (ybf (qff rfl) rfl (B.of rfl) yfe (yl9 (qbh (ycz rfl) rfl qdi ycv (yak (qab (pv 1)) qaf)) qaf)))))))),?_⟩
  refine ⟨_,rfl,v,d,rfl,hv0,fun hb H1 s1=>?_,kx⟩
  obtain ⟨L,us,hs,S,rfl,hL,hv,ok,hA⟩:=qg1 hv0 hb
  refine ⟨Nat.zero_le _,fun p hp=>?_⟩
  have hp0:H p=none:=s1.free hp
  have npL:L≠p:=yae hL hp0
  refine ⟨_,rfl,L,rfl,⟨us,SqL.of (by rw[yai npL];exact s1 _ _ hL)⟩,ybj (xs:=us) (fun i σ H2=>∃ (o2:Option V),σ=[some (.ref L),some (.ref p),o2]∧Same H H2∧H2 p=some (.lst ((allC (hs.take i)).map V.int)))
   ⟨none,rfl,s1.upd hp,yaa⟩ (fun i σ H2 _ ⟨_,_,h,_⟩=>SqL.of (h _ _ hL)) ?_ ?_⟩
  ·rintro i x σ H2 hx ⟨o2,rfl,s2,e2⟩
   obtain ⟨g,hg,hat⟩:=hv.get hx
   obtain ⟨ns,og⟩:=ok.ok g (List.mem_of_getElem? hg)
   refine ⟨_,rfl,.inl ⟨rfl,_,SqL.of e2⟩,?_⟩
   refine ⟨_,rfl,x,g,ns,rfl,HAt.same s2 hat,og,fun D H4 s4 hD eD=>?_⟩
   have hsub:∀ h∈hs.take (i+1),h∈hs:=fun h hh=>List.mem_of_mem_take hh
   have hlt:(allC (hs.take (i+1))).length≤6:=by
    have h1:=ok.clen hsub
    have h2:=ok.len
    rw[List.length_take] at h1
    omega
   refine ⟨p,D,_,_,rfl,rfl,s4 _ _ e2,eD,?_,?_⟩
   ·rw[← List.length_append,← List.map_append,← qcx hg,List.length_map]
    exact Nat.le_of_lt (qb5 (by omega))
   rw[← List.map_append,← qcx hg]
   exact ⟨_,rfl,(s2.trans s4).at hp0,yaa⟩
  ·rintro σ H2 ⟨o2,rfl,s2,e2⟩
   rw[hv.len,List.take_length] at e2
   have hc:=ok.clen (l:=hs) (fun h hh=>hh)
   have h3:=ok.len
   refine ⟨_,rfl,p,_,rfl,e2,by omega,fun q hq=>?_⟩
   have s6:Same H2 (upd H2 q (SetO P w q (uniq (allC hs)))):=(Same.refl H2).upd hq
   refine ⟨q,_,rfl,yaa,by have:=ok.few (l:=hs) (fun h hh=>hh);omega,fun l ns hl hpm hso=>?_⟩
   exact k hb l ns _ ((s2.trans s6).upd hl) ((s2.trans s6).free hl) yaa (by rw[← hA];exact hpm) hso
end
noncomputable def yho:PyData→Bool | .int i=>decide (1≤i∧i≤64)|_=>false
noncomputable def yfk (n:Int):PyData→Bool | .list ds=>decide ((ds.length:Int)=n)&&(ds.map bitD).all id|_=>false
noncomputable def ydd (dz dh dc:PyData):Bool:=yho dz&&(decide (∀ c∈qbj dh,c<intD dz)&&yfk (intD dz) dc)
theorem last_max {ns:List Int}{x:Int} (h:(ns++[x]).Pairwise (·≤·)):∀ y∈ns++[x],y≤x:=by
 intro y hy
 rw[List.pairwise_append] at h
 rcases List.mem_append.mp hy with hy|hy
 ·exact h.2.2 y hy x (List.mem_singleton.mpr rfl)
 ·rw[List.mem_singleton.mp hy];exact Int.le_refl _
section
variable {P:Program}{w:World}{K:PySem.W.Frag}{mg:Str→Option Value}{base:Heap}
noncomputable def qme:Sp:=fun vs H Q _=>∃ v d,vs=[v]∧AtX H v d∧Q (.bl (yho d)) H
theorem og_size (ybh:∃ t,mg "MOST_CELLS" = some (.int 64 t)) (ya0:Has P w K mg base 1 "is_whole" ["thing"] yfu) (F:FnAt K mg "is_size" qdl ["thing"]):Has P w K mg base 2 "is_size" ["thing"] qme:=by
 refine Has.ofQ F qdx (fun vs H Q E h=>?_) (fun f cdv A outer s H vs Q E hr h=>?_)
 ·obtain ⟨v,d,rfl,_⟩:=h
  rfl
 ·obtain ⟨v,d,rfl,hv,q⟩:=h
  have sc:=qdx
  refine ⟨_,(yam rfl (qag (qas (qab (qax (qah ya0 hr (qaa (pv 0) yab)) (qax (qau qig (pv 0) qac (qaj _)) (qbn (qau op_le (pv 0) (qct ybh) (qaj _))))))))),?_⟩
  refine ⟨_,rfl,v,d,rfl,hv,_,rfl,?_⟩
  cases hw:yg4 d with
  | false=>
   have e:yho d=false:=by cases d<;>first|rfl|cases hw
   rw[e] at q
   exact iteF q
  | true=>
   obtain ⟨i,rfl⟩:∃ i,d=.int i:=by cases d<;>first|exact ⟨_,rfl⟩|cases hw
   have ev:v=.int i:=by
    rcases hv with h|⟨e,_⟩
    ·exact h.intEq
    ·cases e
   subst ev
   have e:yho (.int i)=decide (1≤i∧i≤64):=rfl
   rw[e] at q
   refine iteT ⟨_,rfl,_,_,rfl,rfl,_,rfl,?_⟩
   by_cases h0:1≤i
   ·refine iteD (by omega) ⟨_,rfl,_,_,rfl,rfl,?_⟩
    rw[show decide (1≤i∧i≤64)=decide (i≤64) by simp[h0]] at q
    exact q
   ·refine ybe (by omega) ?_
    rw[decide_eq_false (fun z=>h0 z.1)] at q
    exact q
noncomputable def ymj:Sp:=fun vs H Q _=>∃ v d,∃ n:Int,vs=[v,.int n]∧AtX H v d∧n≤64∧∀ H',Same H H'→Q (.bl (yfk n d)) H'
theorem og_cont (B:Bl mg) (qd9:mg "all" = none) (qbx:Has P w K mg base 2 "is_bit" ["thing"] yjs) (F:FnAt K mg "are_contents" ybp ["thing","size"]):Has P w K mg base 3 "are_contents" ["thing","size"] ymj:=by
 refine Has.of F ybw (fun vs H Q E h=>?_) (fun f cdv A outer s H vs Q E hr h=>?_)
 ·obtain ⟨v,d,n,rfl,_⟩:=h
  rfl
 ·obtain ⟨v,d,n,rfl,hv,hn,k⟩:=h
  have sc:=ybw
  refine ⟨_,(yaf (qat (qax (qae qa3 rfl (B.of rfl) boot_isinstance (qaa (pv 0) (qaa (qbb (v:=.ty "list") rfl (B.of rfl) boot_list rfl) yab))) (qax (qau qa6 (qae yag rfl (B.of rfl) boot_len (qaa (pv 0) yab)) (pv 1) (qaj _)) (qbn (qae (ydl rfl) rfl qd9 yds (qaa (yce rfl (qa8 rfl) (M:=["part"]) (ix:=[none]) (qbo (pv 0)) (fun _ _ _ _=>(qak (i:=0) (show List.Nodup (["part"]:List Str) by decide +kernel) rfl (Or.inl rfl))) (fun _ _ _ _=>yda) (fun _ _ _ _=>(qah qbx hr (qaa (pv 0) yab)))) yab))))))),?_⟩
  refine ⟨_,rfl,_,_,_,_,rfl,hv.ty,yhg d,_,rfl,?_⟩
  cases hs:qmf d with
  | false=>
   have e:yfk n d=false:=by cases d<;>first|rfl|cases hs
   rw[e] at k
   exact iteF (k H (Same.refl H))
  | true=>
   obtain ⟨ds,rfl⟩:∃ ds,d=.list ds:=by cases d<;>first|exact ⟨_,rfl⟩|cases hs
   have hv':At H v (.list ds):=by
    rcases hv with h|⟨e,_⟩
    ·exact h
    ·cases e
   obtain ⟨C,us,rfl,hC,hu⟩:=hv'.lstEq
   have hul:=hu.length
   have ec:yfk n (.list ds)=(decide ((ds.length:Int)=n)&&(ds.map bitD).all id):=rfl
   rw[ec] at k
   refine iteT ⟨_,rfl,C,_,rfl,.inl (SqL.of hC),_,rfl,rfl,_,rfl,?_⟩
   by_cases hl:(ds.length:Int)=n
   rotate_left
   ·rw[decide_eq_false hl] at k
    exact iteN (decide_eq_false (fun z=>hl (by have:=V.int.inj z;omega))) (k H (Same.refl H))
   rw[decide_eq_true hl,Bool.true_and] at k
   refine iteB (decide_eq_true (by rw[hul,hl])) ?_
   refine ⟨_,rfl,C,rfl,⟨_,SqL.of hC⟩,fun D hD=>qda (n:=us.length) (fun i H'=>Same H H'∧H' D=some (.lst (((ds.take i).map bitD).map V.bl))) ⟨(Same.refl H).upd hD,yaa⟩ ?_ ?_⟩
   ·rintro H3 ⟨s3,e3⟩
    rw[hul,List.take_length] at e3
    refine ⟨⟨_,SqL.of (s3 _ _ hC),Nat.le_refl _⟩,?_⟩
    exact ⟨D,_,rfl,e3,k _ s3⟩
   ·rintro i H3 hi ⟨s3,e3⟩
    refine ⟨⟨_,_,SqL.of (s3 _ _ hC),List.getElem?_eq_getElem hi⟩,?_⟩
    rintro x H4 ⟨rfl,hx⟩
    obtain ⟨dx,hdx,hax⟩:=hu.get (hx _ (SqL.of (s3 _ _ hC)))
    refine ⟨ya6.set (ya6.refl _) rfl,yes ?_⟩
    refine ⟨_,rfl,x,dx,rfl,.inl (hax.same s3),fun H5 s5=>?_⟩
    refine ⟨_,s5 _ _ e3,qb5 (by rw[List.length_map,List.length_map,List.length_take];omega),(s3.trans s5).at hD,?_⟩
    rw[yaa,List.take_add_one,hdx]
    simp
noncomputable def yf3 (C2 CM:Addr):Sp:=fun vs H Q E=>∃ vz vh vc dz dh dc,vs=[vz,vh,vc]∧AtX H vz dz∧AtX H vh dh∧AtX H vc dc∧(yat dh=none→ydd dz dh dc=true→∀ H',Same H H'→Q .non H')∧
 (yat dh=none→ydd dz dh dc=false→∀ a H',Same H H'→XAt H' a CM []→E (.ref a) none H')∧(∀ b,yat dh=some b→∀ a H',Same H H'→XAt H' a C2 [("number",optN b)]→E (.ref a) none H')
theorem ykp {C2 CM:Addr} (B:Bl mg) (xM:ylr K mg "NoMemory" CM) (ye3:HasX P w K mg base 7 "cells_of" ["harms"] (qgk C2)) (yfy:Has P w K mg base 2 "is_size" ["thing"] qme) (ycs:Has P w K mg base 3 "are_contents" ["thing","size"] ymj) (F:FnAt K mg "look_at_memory" qbd ["size","harms","contents"]) :
  HasX P w K mg base 8 "look_at_memory" ["size","harms","contents"] (yf3 C2 CM):=by
 refine HasX.of F qbl (fun vs H Q E h=>?_) (fun f cdv A outer s H vs Q E hr h=>?_)
 ·obtain ⟨vz,vh,vc,dz,dh,dc,rfl,_⟩:=h
  rfl
 ·obtain ⟨vz,vh,vc,dz,dh,dc,rfl,hz,hh,hc,q1,q2,q3⟩:=h
  have z1:1≤sizeLine:=by decide
  have sc:=qbl
  refine ⟨_,(yam rfl (qad (yaq (i:=3) sc.nd rfl (Or.inl rfl) (qab (qcd ye3 ygw hr (qaa (pv 1) yab))))
   (qad (ya9 (qd8 (ycg (qaq yfy hr (yak (qab (pv 0)) qaf))))
    (qag (qee (qb3 (pe_x0 xM (qaa yaj yab)))))
    yaw)
   (qad (ya9 (QW.pt (qw_and (qaz qfk (ybf yag rfl (B.of rfl) boot_len (yak (qab (pv 3)) qaf)) (qab qac) (qaj _)) (qkz (qaz qig (qa1 qai (qab (pv 3)) (qab (pe_un yjj qac)) (fun _ _=>rfl)) (qab (pv 0)) (qaj _)))))
    (qag (qee (qb3 (pe_x0 xM (qaa yaj yab)))))
    yaw)
   (qag (ya9 (qd8 (ycg (qaq ycs hr (yak (qab (pv 2)) (yak (qab (pv 0)) qaf)))))
    (qag (qee (qb3 (pe_x0 xM (qaa yaj yab)))))
    yaw)))))),?_⟩
  refine ⟨_,rfl,vh,dh,rfl,hh,fun hb D ns H1 s1 hD eD hpm hso=>?_,q3⟩
  have ref:ydd dz dh dc=false→∀ {H2:Hp}{a:Addr},Same H1 H2→H2 a=none→E (.ref a) none (upd (upd H2 a (.ext (yb8 a CM none))) a (.ext (yck a CM none))):=fun hm H2 a s2 ha=>by
   rw[yhv]
   exact q2 hb hm a _ ((s1.trans s2).upd ha) (.inr (.inr (.inl ⟨rfl,yaa⟩)))
  refine ⟨_,rfl,vz,dz,rfl,hz.same s1,_,rfl,?_⟩
  cases hsz:yho dz with
  | false=>
   have hm:ydd dz dh dc=false:=by unfold ydd;rw[hsz];rfl
   exact iteT ⟨z1,fun a ha=>⟨a,CM,none,rfl,xM.2.2.1,yaa,ref hm (Same.refl H1) ha⟩⟩
  | true=>
   refine iteF ?_
   obtain ⟨n,rfl⟩:∃ n,dz=.int n:=by cases dz<;>first|exact ⟨_,rfl⟩|cases hsz
   have ev:vz=.int n:=by
    rcases hz with h|⟨e,_⟩
    ·exact h.intEq
    ·cases e
   subst ev
   have hn:1≤n∧n≤64:=of_decide_eq_true hsz
   have hmem:∀ c,c∈ns↔c∈qbj dh:=fun c=>by rw[hpm.mem_iff,qfp]
   have em:ydd (.int n) dh dc=(decide (∀ c∈qbj dh,c<n)&&yfk n dc):=by unfold ydd;rw[hsz];rfl
   have cont:(∀ c∈qbj dh,c<n)→ydd (.int n) dh dc=yfk n dc:=fun h=>by rw[em,decide_eq_true h,Bool.true_and]
   refine ⟨_,rfl,D,_,rfl,.inl (SqL.of eD),_,_,rfl,rfl,_,rfl,?_⟩
   by_cases hl:0<ns.length
   ·refine iteD (by rw[List.length_map];omega) ?_
    obtain ⟨x,hx⟩:∃ x,ns=ns.dropLast++[x]:=⟨ns.getLast (by intro z;rw[z] at hl;simp at hl),(List.dropLast_concat_getLast _).symm⟩
    have hmax:∀ y∈ns,y≤x:=by rw[hx] at hso ⊢;exact last_max hso
    have hxm:x∈ns:=by rw[hx];simp
    refine ⟨_,rfl,_,rfl,D,_,_,_,rfl,rfl,SqL.of eD,(show atI (ns.map V.int) (-1)=some (.int x) by rw[hx,List.map_append];exact yjq _ _),_,rfl,_,_,rfl,rfl,_,rfl,?_⟩
    by_cases hge:n≤x
    ·have hm:ydd (.int n) dh dc=false:=by
      rw[em,decide_eq_false (fun z=>by have:=z x ((hmem x).mp hxm);omega)]
      rfl
     exact iteD (by omega) ⟨z1,fun a ha=>⟨a,CM,none,rfl,xM.2.2.1,yaa,ref hm (Same.refl H1) ha⟩⟩
    ·have hlt:∀ c∈qbj dh,c<n:=fun c hc'=>by have:=hmax c ((hmem c).mpr hc');omega
     refine ybe (by omega) ?_
     refine ⟨_,rfl,_,rfl,vc,dc,n,rfl,hc.same s1,hn.2,fun H2 s2=>⟨_,rfl,?_⟩⟩
     cases hcd:yfk n dc with
     | false=>exact iteT ⟨z1,fun a ha=>⟨a,CM,none,rfl,xM.2.2.1,yaa,ref (by rw[cont hlt,hcd]) s2 ha⟩⟩
     | true=>exact iteF (q1 hb (by rw[cont hlt,hcd]) H2 (s1.trans s2))
   ·refine ybe (by rw[List.length_map];omega) ?_
    have hlt:∀ c∈qbj dh,c<n:=fun c hc'=>by
     have h1:=(hmem c).mpr hc'
     have h2:ns=[]:=List.length_eq_zero_iff.mp (by omega)
     rw[h2] at h1
     cases h1
    refine ⟨_,rfl,_,rfl,vc,dc,n,rfl,hc.same s1,hn.2,fun H2 s2=>⟨_,rfl,?_⟩⟩
    cases hcd:yfk n dc with
    | false=>exact iteT ⟨z1,fun a ha=>⟨a,CM,none,rfl,xM.2.2.1,yaa,ref (by rw[cont hlt,hcd]) s2 ha⟩⟩
    | true=>exact iteF (q1 hb (by rw[cont hlt,hcd]) H2 (s1.trans s2))
end
theorem ql9 {X:Cx}{sts:List Stmt}:QSs X sts ykz:=⟨qkt⟩
section
variable {P:Program}{w:World}{K:PySem.W.Frag}{mg:Str→Option Value}{base:Heap}{C:Addr}
noncomputable def yig (C C2 CM:Addr):Sp:=fun vs H Q E=>∃ x vz vh vc dz dh dc,vs=[.ref x,vz,vh,vc]∧AtX H vz dz∧AtX H vh dh∧AtX H vc dc∧(yat dh=none→ydd dz dh dc=false)∧
 (yat dh=none→∀ a H',Same H H'→XAt H' a CM []→E (.ref a) none H')∧(∀ b,yat dh=some b→∀ a H',Same H H'→XAt H' a C2 [("number",optN b)]→E (.ref a) none H')
end
noncomputable def yhn:PyData→Bool | .tuple [_,_]=>true|_=>false
noncomputable def qgc (n:Int):PyData→Bool | .list ds=>decide (0<ds.length∧(ds.length:Int)≤n)|_=>false
noncomputable def qkg:PyData→Bool | .tuple [a,b]=>oneD [.str "r",.str "w"] a&&bitD b|_=>false
noncomputable def qfh:PyData→Bool | .tuple [a,b]=>oneD [.str "up",.str "down",.str "any"] a&&qgc 6 b|_=>false
section
variable {P:Program}{w:World}{K:PySem.W.Frag}{mg:Str→Option Value}{base:Heap}
noncomputable def qi4:Sp:=fun vs H Q _=>∃ v d,vs=[v]∧AtX H v d∧Q (.bl (yhn d)) H
theorem og_pair (B:Bl mg) (F:FnAt K mg "is_pair" yeo ["thing"]):Has P w K mg base 1 "is_pair" ["thing"] qi4:=by
 refine Has.ofQ F qg2 (fun vs H Q E h=>?_) (fun f cdv A outer s H vs Q E hr h=>?_)
 ·obtain ⟨v,d,rfl,_⟩:=h
  rfl
 ·obtain ⟨v,d,rfl,hv,q⟩:=h
  have sc:=qg2
  refine ⟨_,(yam rfl (qag (qas (qab (qax (qae qa3 rfl (B.of rfl) boot_isinstance (qaa (pv 0) (qaa (qbb (v:=.ty "tuple") rfl (B.of rfl) boot_tuple rfl) yab))) (qbn (qau qa6 (qae yag rfl (B.of rfl) boot_len (qaa (pv 0) yab)) qac (qaj _)))))))),?_⟩
  refine ⟨_,rfl,_,_,_,_,rfl,hv.ty,qmm d,_,rfl,?_⟩
  cases hs:isTup d with
  | false=>
   have e:yhn d=false:=by cases d<;>first|rfl|cases hs
   rw[e] at q
   exact iteF q
  | true=>
   obtain ⟨ds,rfl⟩:∃ ds,d=.tuple ds:=by cases d<;>first|exact ⟨_,rfl⟩|cases hs
   have hv':At H v (.tuple ds):=by
    rcases hv with h|⟨e,_⟩
    ·exact h
    ·cases e
   obtain ⟨a,vs,rfl,ha,hw⟩:=hv'.tupEq
   have hl:=hw.length
   refine iteT ⟨_,rfl,a,_,rfl,.inr (SqT.of ha),rfl,?_⟩
   have e:decide (V.int (vs.length:Int)=V.int 2)=yhn (.tuple ds):=by
    rw[hl]
    match ds with
    | []=>decide
    | [_]=>rfl
    | [_,_]=>rfl
    | _::_::_::r=>
     show decide _=false
     refine decide_eq_false (fun z=>?_)
     have:=V.int.inj z
     simp at this
     omega
   rw[e]
   exact q
noncomputable def yi0:Sp:=fun vs H Q _=>∃ v d n,vs=[v,.int n]∧AtX H v d∧Q (.bl (qgc n d)) H
theorem og_fill (B:Bl mg) (F:FnAt K mg "is_filled" qdc ["thing","most"]):Has P w K mg base 1 "is_filled" ["thing","most"] yi0:=by
 refine Has.ofQ F qfj (fun vs H Q E h=>?_) (fun f cdv A outer s H vs Q E hr h=>?_)
 ·obtain ⟨v,d,n,rfl,_⟩:=h
  rfl
 ·obtain ⟨v,d,n,rfl,hv,q⟩:=h
  have sc:=qfj
  refine ⟨_,(yam rfl (qag (qas (qab (qax (qae qa3 rfl (B.of rfl) boot_isinstance (qaa (pv 0) (qaa (qbb (v:=.ty "list") rfl (B.of rfl) boot_list rfl) yab))) (qax (qau qfk (qae yag rfl (B.of rfl) boot_len (qaa (pv 0) yab)) qac (qaj _)) (qbn (qau op_le (qae yag rfl (B.of rfl) boot_len (qaa (pv 0) yab)) (pv 1) (qaj _))))))))),?_⟩
  refine ⟨_,rfl,_,_,_,_,rfl,hv.ty,yhg d,_,rfl,?_⟩
  cases hs:qmf d with
  | false=>
   have e:qgc n d=false:=by cases d<;>first|rfl|cases hs
   rw[e] at q
   exact iteF q
  | true=>
   obtain ⟨ds,rfl⟩:∃ ds,d=.list ds:=by cases d<;>first|exact ⟨_,rfl⟩|cases hs
   have hv':At H v (.list ds):=by
    rcases hv with h|⟨e,_⟩
    ·exact h
    ·cases e
   obtain ⟨a,vs,rfl,ha,hw⟩:=hv'.lstEq
   have hl:=hw.length
   have ef:qgc n (.list ds)=decide (0<ds.length∧(ds.length:Int)≤n):=rfl
   rw[ef] at q
   refine iteT ⟨_,rfl,a,_,rfl,.inl (SqL.of ha),_,_,rfl,rfl,_,rfl,?_⟩
   by_cases h0:0<ds.length
   ·refine iteD (by omega) ?_
    refine ⟨_,rfl,a,_,rfl,.inl (SqL.of ha),_,rfl,_,_,rfl,rfl,?_⟩
    have e:decide (0<ds.length∧(ds.length:Int)≤n)=decide ((vs.length:Int)≤n):=by rw[hl];simp[h0]
    rw[e] at q
    exact q
   ·refine ybe (by omega) ?_
    rw[decide_eq_false (fun z=>h0 z.1)] at q
    exact q
end
theorem qi7 {H:Hp}{v:V}{d:PyData} (hv:AtX H v d) (hp:yhn d=true):∃ a x y dx dy,d=.tuple [dx,dy]∧v=.ref a∧H a=some (.tup [x,y])∧At H x dx∧At H y dy:=by
 match d,hp with
 | .tuple [dx,dy],_=>
  have hv':At H v (.tuple [dx,dy]):=by
   rcases hv with h|⟨e,_⟩
   ·exact h
   ·cases e
  obtain ⟨a,vs,rfl,ha,hw⟩:=hv'.tupEq
  cases hw with
  | cons h1 r=>
   cases r with
   | cons h2 r=>
    cases r
    exact ⟨a,_,_,dx,dy,rfl,rfl,ha,h1,h2⟩
theorem qez {d:PyData} (h:yhn d=false):qkg d=false∧qfh d=false:=by
 match d with
 | .tuple [_,_]=>cases h
 | .tuple []=>exact ⟨rfl,rfl⟩
 | .tuple [_]=>exact ⟨rfl,rfl⟩
 | .tuple (_::_::_::_)=>exact ⟨rfl,rfl⟩
 | .none=>exact ⟨rfl,rfl⟩
 | .bool _=>exact ⟨rfl,rfl⟩
 | .int _=>exact ⟨rfl,rfl⟩
 | .str _=>exact ⟨rfl,rfl⟩
 | .list _=>exact ⟨rfl,rfl⟩
 | .dict _=>exact ⟨rfl,rfl⟩
section
variable {P:Program}{w:World}{K:PySem.W.Frag}{mg:Str→Option Value}{base:Heap}
noncomputable def yk0:Sp:=fun vs H Q _=>∃ v d,vs=[v]∧AtX H v d∧∀ H',Same H H'→Q (.bl (qkg d)) H'
theorem og_step (qgd:GTup K mg "LETTERS" [.str "r",.str "w"]) (ygk:Has P w K mg base 1 "is_pair" ["thing"] qi4) (qba:Has P w K mg base 1 "is_one_of" ["thing","words"] (qh5 K)) (qbx:Has P w K mg base 2 "is_bit" ["thing"] yjs)
  (F:FnAt K mg "is_step" qew ["thing"]):Has P w K mg base 3 "is_step" ["thing"] yk0:=by
 refine Has.ofQ F ygy (fun vs H Q E h=>?_) (fun f cdv A outer s H vs Q E hr h=>?_)
 ·obtain ⟨v,d,rfl,_⟩:=h
  rfl
 ·obtain ⟨v,d,rfl,hv,q⟩:=h
  have sc:=ygy
  refine ⟨_,(yam rfl (qag (qas (qab (qax (qah ygk hr (qaa (pv 0) yab)) (qax (qah qba hr (qaa (yan yap (pv 0) qac (fun _ _=>rfl)) (qaa (yf4 qgd) yab))) (qbn (qah qbx hr (qaa (yan yap (pv 0) qac (fun _ _=>rfl)) yab))))))))),?_⟩
  refine ⟨_,rfl,v,d,rfl,hv,_,rfl,?_⟩
  cases hp:yhn d with
  | false=>
   rw[(qez hp).1] at q
   exact iteF (q H (Same.refl H))
  | true=>
   obtain ⟨a,x,y,dx,dy,rfl,rfl,ha,h1,h2⟩:=qi7 hv hp
   refine iteT ⟨_,rfl,a,_,_,_,rfl,rfl,SqT.of ha,rfl,fun g hg=>⟨_,dx,g,_,rfl,.inl h1,hg,by decide,_,rfl,?_⟩⟩
   have e:qkg (.tuple [dx,dy])=(oneD [.str "r",.str "w"] dx&&bitD dy):=rfl
   rw[e] at q
   cases ho:oneD [.str "r",.str "w"] dx with
   | false=>
    rw[ho] at q
    exact iteF (q H (Same.refl H))
   | true=>
    rw[ho] at q
    exact iteT ⟨_,rfl,a,_,_,_,rfl,rfl,SqT.of ha,rfl,_,dy,rfl,.inl h2,q⟩
noncomputable def qjx:Sp:=fun vs H Q _=>∃ v d,vs=[v]∧AtX H v d∧Q (.bl (qfh d)) H
theorem og_frame (yhj:GTup K mg "ORDERS" [.str "up",.str "down",.str "any"]) (ye0:∃ t,mg "MOST_IN_ELEMENT" = some (.int 6 t)) (ygk:Has P w K mg base 1 "is_pair" ["thing"] qi4) (qba:Has P w K mg base 1 "is_one_of" ["thing","words"] (qh5 K)) (yec:Has P w K mg base 1 "is_filled" ["thing","most"] yi0)
  (F:FnAt K mg "is_framed" yc6 ["thing"]):Has P w K mg base 2 "is_framed" ["thing"] qjx:=by
 refine Has.ofQ F qfg (fun vs H Q E h=>?_) (fun f cdv A outer s H vs Q E hr h=>?_)
 ·obtain ⟨v,d,rfl,_⟩:=h
  rfl
 ·obtain ⟨v,d,rfl,hv,q⟩:=h
  have sc:=qfg
  refine ⟨_,(yam rfl (qag (qas (qab (qax (qah ygk hr (qaa (pv 0) yab)) (qax (qah qba hr (qaa (yan yap (pv 0) qac (fun _ _=>rfl)) (qaa (yf4 yhj) yab))) (qbn (qah yec hr (qaa (yan yap (pv 0) qac (fun _ _=>rfl)) (qaa (qct ye0) yab)))))))))),?_⟩
  refine ⟨_,rfl,v,d,rfl,hv,_,rfl,?_⟩
  cases hp:yhn d with
  | false=>
   rw[(qez hp).2] at q
   exact iteF q
  | true=>
   obtain ⟨a,x,y,dx,dy,rfl,rfl,ha,h1,h2⟩:=qi7 hv hp
   refine iteT ⟨_,rfl,a,_,_,_,rfl,rfl,SqT.of ha,rfl,fun g hg=>⟨_,dx,g,_,rfl,.inl h1,hg,by decide,_,rfl,?_⟩⟩
   have e:qfh (.tuple [dx,dy])=(oneD [.str "up",.str "down",.str "any"] dx&&qgc 6 dy):=rfl
   rw[e] at q
   cases ho:oneD [.str "up",.str "down",.str "any"] dx with
   | false=>
    rw[ho] at q
    exact iteF q
   | true=>
    rw[ho] at q
    exact iteT ⟨_,rfl,a,_,_,_,rfl,rfl,SqT.of ha,rfl,_,dy,6,rfl,.inl h2,q⟩
noncomputable def qc6 (ds:List PyData):Option Nat:=ds.findIdx? (fun x=>!qkg x)
noncomputable def stepsD:PyData→List PyData | .tuple [_,.list ds]=>ds|_=>[]
noncomputable def qfn (d:PyData):Option (Option Nat):=if qfh d=true then (qc6 (stepsD d)).map some else some none
theorem frame_at {H:Hp}{v:V}{d:PyData} (hv:AtX H v d) (hf:qfh d=true):∃ a l ws o ds,d=.tuple [.str o,.list ds]∧v=.ref a∧H a=some (.tup [.str o,.ref l])∧H l=some (.lst ws)∧AtAll H ws ds∧okO o∧1≤ds.length∧ds.length≤6:=by
 have hp:yhn d=true:=by
  cases hq:yhn d with
  | true=>rfl
  | false=>rw[(qez hq).2] at hf;cases hf
 obtain ⟨a,x,y,dx,dy,rfl,rfl,ha,h1,h2⟩:=qi7 hv hp
 have e:qfh (.tuple [dx,dy])=(oneD [.str "up",.str "down",.str "any"] dx&&qgc 6 dy):=rfl
 rw[e,Bool.and_eq_true] at hf
 obtain ⟨o,rfl⟩:∃ o,dx=.str o:=by
  cases dx<;>first|exact ⟨_,rfl⟩|exact absurd hf.1 (by simp[oneD])
 obtain ⟨ds,rfl⟩:∃ ds,dy=.list ds:=by
  cases dy<;>first|exact ⟨_,rfl⟩|exact absurd hf.2 (by simp[qgc])
 obtain ⟨l,ws,rfl,hl,hw⟩:=h2.lstEq
 have:=h1.strEq
 subst this
 have h3:0<ds.length∧(ds.length:Int)≤6:=of_decide_eq_true hf.2
 refine ⟨a,l,ws,o,ds,rfl,rfl,ha,hl,hw,?_,by omega,by omega⟩
 have h4:inV (.str o) [.str "up",.str "down",.str "any"]=true:=hf.1
 have e:∀ {a b:Str},¬ b=a→eqV (V.str a) (V.str b)=false:=fun {a b} h=>by simp[eqV];exact fun z=>h z.symm
 by_cases h0:o="up"
 ·exact .inl h0
 by_cases h1:o="down"
 ·exact .inr (.inl h1)
 by_cases h2:o="any"
 ·exact .inr (.inr h2)
 exfalso
 revert h4
 simp[inV,e h0,e h1,e h2]
noncomputable def yk3 (C:Addr):Sp:=fun vs H Q E=>∃ n:Nat,∃ v d,vs=[.int n,v]∧AtX H v d∧(qfn d=none→∀ H',Same H H'→Q .non H')∧(∀ s,qfn d=some s→∀ a H',Same H H'→XAt H' a C [("element",.int n),("step",optN s)]→E (.ref a) none H')
theorem og_elem {C:Addr} (B:Bl mg) (xT:qj9 P w K mg base "NoTest" C ["self","element","step"] (sp_x2 C "element" "step")) (qjb:Has P w K mg base 2 "is_framed" ["thing"] qjx) (qk3:Has P w K mg base 3 "is_step" ["thing"] yk0) (F:FnAt K mg "look_at_element" ybl ["number","thing"]) :
  HasX P w K mg base 4 "look_at_element" ["number","thing"] (yk3 C):=by
 refine HasX.of F qcr (fun vs H Q E h=>?_) (fun f cdv A outer s H vs Q E hr h=>?_)
 ·obtain ⟨n,v,d,rfl,_⟩:=h
  rfl
 ·obtain ⟨n,v,d,rfl,hv,q1,q2⟩:=h
  have z2:2≤sizeLine:=by decide
  have sc:=qcr
  refine ⟨_,(yam rfl (qad (ya9 (qd8 (ycg (qaq qjb hr (yak (qab (pv 1)) qaf))))
    (qag (qee (qb3 (qkl xT hr (qaa (pv 0) (qaa yb6 yab))))))
    yaw)
   (qag (ydf yeq rfl (qhl (qc8 rfl (B.of rfl) (qaa (yan yap (pv 1) qac (fun _ _=>rfl)) yab))) (ydg rfl (qan (qak (i:=2) sc.nd rfl (Or.inl rfl)) (qan (qak (i:=3) sc.nd rfl (Or.inl rfl)) qbp)))
    (qag (ya9 (qd8 (ycg (qaq qk3 hr (yak (qab (pv 3)) qaf))))
     (qag (qee (qb3 (qkl xT hr (qaa (pv 0) (qaa (pv 2) yab))))))
     yaw)))))),?_⟩
  refine ⟨_,rfl,v,d,rfl,hv,_,rfl,?_⟩
  have hraise:∀ {H1:Hp}{a:Addr} (s:Option Nat),qfn d=some s→Same H H1→H1 a=none→∀ dd H4,XD H4 a C (some dd) [("element",.int n),("step",optN s)]→SetX a dd none (upd H1 a (.ext (yb8 a C none))) H4→(∃ a' C' dx,V.ref a=V.ref a'∧XTy K C'∧H4 a'=some (.ext (yb8 a' C' dx))∧E (.ref a') none (upd H4 a' (.ext (yck a' C' dx)))):=fun {H1 a} s hb s1 ha dd H4 x4 s4=>by
   obtain ⟨r1,r2,r3⟩:=qhw ha x4 s4
   exact ⟨a,C,some dd,rfl,xT.2.2.1.toXTy,r1,q2 s hb a _ (s1.trans r2) r3⟩
  cases hf:qfh d with
  | false=>
   refine iteT ⟨_,rfl,z2,fun a ha=>⟨a,_,_,rfl,.inl ⟨rfl,rfl,yaa⟩,fun dd H1 x1 s1=>⟨rfl,?_⟩⟩⟩
   exact hraise none (by unfold qfn;rw[hf];rfl) (Same.refl H) ha dd H1 x1 s1
  | true=>
   refine iteF ?_
   obtain ⟨a,l,ws,o,ds,rfl,rfl,ha,hl,hw,oo,l1,l6⟩:=frame_at hv hf
   have hwl:=hw.length
   have he:qfn (.tuple [.str o,.list ds])=(qc6 ds).map some:=by unfold qfn;rw[if_pos hf];rfl
   refine ⟨_,rfl,a,_,_,_,rfl,rfl,SqT.of ha,rfl,l,ws,rfl,SqL.of hl,qcb (xs:=ws) (fun i σ H2=>∃ p q,σ=[some (.int n),some (.ref a),p,q]∧Same H H2∧∀ j,j<i→∀ x,ds[j]?=some x→qkg x=true) ⟨none,none,rfl,Same.refl _,fun j hj=>absurd hj (by omega)⟩
    (fun i σ H2 _ ⟨_,_,_,s2,_⟩=>SqL.of (s2 _ _ hl)) ?_ ?_⟩
   ·rintro i x p σ H2 hx ⟨_,_,rfl,s2,hok⟩ hp
    obtain ⟨dd,hd,hat⟩:=hw.get hx
    have s3:Same H (upd H2 p (.tup [.int i,x])):=s2.upd hp
    refine ⟨p,_,rfl,SqT.of yaa,rfl,_,_,rfl,_,_,rfl,rfl,?_⟩
    refine ⟨_,rfl,x,dd,rfl,.inl (hat.same s3),fun H3 s4=>⟨_,rfl,?_⟩⟩
    cases hs:qkg dd with
    | true=>
     refine iteF ⟨_,_,rfl,s3.trans s4,fun j hj y hy=>?_⟩
     by_cases e:j=i
     ·subst e;rw[hd] at hy;cases hy;exact hs
     ·exact hok j (by omega) y hy
    | false=>
     have hb:qc6 ds=some i:=by
      unfold qc6
      rw[List.findIdx?_eq_some_iff_getElem]
      obtain ⟨hi,e⟩:=List.getElem?_eq_some_iff.mp hd
      refine ⟨hi,by rw[e,hs];rfl,fun j hj=>?_⟩
      have:=hok j hj _ (List.getElem?_eq_getElem (by omega))
      rw[this];exact fun z=>by cases z
     refine iteT ⟨_,rfl,_,rfl,z2,fun a' ha'=>⟨a',_,_,rfl,.inl ⟨rfl,rfl,yaa⟩,fun d4 H4 x4 s4'=>⟨rfl,?_⟩⟩⟩
     exact hraise (some i) (by rw[he,hb];rfl) (s3.trans s4) ha' d4 H4 x4 s4'
   ·rintro σ H2 ⟨_,_,rfl,s2,hok⟩
    refine q1 ?_ H2 s2
    rw[he]
    have:qc6 ds=none:=by
     unfold qc6
     rw[List.findIdx?_eq_none_iff]
     intro x hx
     obtain ⟨j,hj⟩:=List.getElem?_of_mem hx
     have hjl:=(List.getElem?_eq_some_iff.mp hj).1
     rw[hok j (by omega) x hj];rfl
    rw[this];rfl
end
noncomputable abbrev Bad:=Option Nat×Option Nat
noncomputable def ycb:Nat→List PyData→Option Bad
 | _,[]=>none
 | n,x::xs=>match qfn x with|some s=>some (some n,s)|none=>ycb (n+1) xs
noncomputable def lstD:PyData→List PyData | .list ds=>ds|_=>[]
noncomputable def qbe (d:PyData):Option Bad:=if qgc 8 d=true then ycb 0 (lstD d) else some (none,none)
theorem ygh:∀ (ds:List PyData) (n i:Nat) (x:PyData) (s:Option Nat),ds[i]?=some x→(∀ j,j<i→∀ y,ds[j]?=some y→qfn y=none)→qfn x=some s→ycb n ds=some (some (n+i),s)
 | [],n,i,x,s,h,_,_=>by simp at h
 | y::ys,n,0,x,s,h,_,hb=>by
  cases h
  unfold ycb
  rw[hb]
  rfl
 | y::ys,n,i+1,x,s,h,ho,hb=>by
  unfold ycb
  rw[ho 0 (by omega) y rfl]
  show ycb (n+1) ys=_
  rw[ygh ys (n+1) i x s h (fun j hj z hz=>ho (j+1) (by omega) z hz) hb]
  rw[show n+1+i=n+(i+1) by omega]
theorem qc4:∀ (ds:List PyData) (n:Nat),(∀ y∈ds,qfn y=none)→ycb n ds=none
 | [],_,_=>rfl
 | y::ys,n,h=>by
  unfold ycb
  rw[h y (List.mem_cons_self ..)]
  exact qc4 ys (n+1) fun z hz=>h z (List.mem_cons_of_mem _ hz)
section
variable {P:Program}{w:World}{K:PySem.W.Frag}{mg:Str→Option Value}{base:Heap}
noncomputable def yiv (C:Addr):Sp:=fun vs H Q E=>∃ v d,vs=[v]∧AtX H v d∧(qbe d=none→∀ H',Same H H'→Q .non H')∧(∀ b,qbe d=some b→∀ a H',Same H H'→XAt H' a C [("element",optN b.1),("step",optN b.2)]→E (.ref a) none H')
theorem og_look {C:Addr} (B:Bl mg) (xT:qj9 P w K mg base "NoTest" C ["self","element","step"] (sp_x2 C "element" "step")) (qgv:∃ t,mg "MOST_IN_TEST" = some (.int 8 t)) (yec:Has P w K mg base 1 "is_filled" ["thing","most"] yi0) (ye1:HasX P w K mg base 4 "look_at_element" ["number","thing"] (yk3 C))
  (F:FnAt K mg "look_at_test" qb4 ["thing"]):HasX P w K mg base 5 "look_at_test" ["thing"] (yiv C):=by
 refine HasX.of F ydp (fun vs H Q E h=>?_) (fun f cdv A outer s H vs Q E hr h=>?_)
 ·obtain ⟨v,s,rfl,_⟩:=h
  rfl
 ·obtain ⟨v,d,rfl,hv,q1,q2⟩:=h
  have z2:2≤sizeLine:=by decide
  have sc:=ydp
  refine ⟨_,(yam rfl (qad (ya9 (qd8 (ycg (qaq yec hr (yak (qab (pv 0)) (yak (qab (qct qgv)) qaf)))))
    (qag (qee (qb3 (qkl xT hr (qaa yb6 (qaa yb6 yab))))))
    yaw)
   (qag (ydf yeq rfl (qhl (qc8 rfl (B.of rfl) (qaa (pv 0) yab))) (ydg rfl (qan (qak (i:=1) sc.nd rfl (Or.inl rfl)) (qan (qak (i:=2) sc.nd rfl (Or.inl rfl)) qbp)))
    (qag (ya8 (qab (qcd ye1 ygw hr (qaa (pv 1) (qaa (pv 2) yab)))))))))),?_⟩
  refine ⟨_,rfl,v,d,8,rfl,hv,_,rfl,?_⟩
  cases hf:qgc 8 d with
  | false=>
   refine iteT ⟨z2,fun a ha=>⟨a,_,_,rfl,.inl ⟨rfl,rfl,yaa⟩,fun dd H1 x1 s1=>⟨rfl,?_⟩⟩⟩
   obtain ⟨r1,r2,r3⟩:=qhw ha x1 s1
   exact ⟨a,C,some dd,rfl,xT.2.2.1.toXTy,r1,q2 (none,none) (by unfold qbe;rw[hf];rfl) a _ r2 r3⟩
  | true=>
   refine iteF ?_
   obtain ⟨ds,rfl⟩:∃ ds,d=.list ds:=by
    cases d<;>first|exact ⟨_,rfl⟩|exact absurd hf (by simp[qgc])
   have hv':At H v (.list ds):=by
    rcases hv with h|⟨e,_⟩
    ·exact h
    ·cases e
   obtain ⟨l,ws,rfl,hl,hw⟩:=hv'.lstEq
   have he:qbe (.list ds)=ycb 0 ds:=by unfold qbe;rw[if_pos hf];rfl
   rw[he] at q1 q2
   refine ⟨_,rfl,l,ws,rfl,SqL.of hl,qcb (xs:=ws) (fun i σ H2=>∃ p q,σ=[some (.ref l),p,q]∧Same H H2∧∀ j,j<i→∀ x,ds[j]?=some x→qfn x=none) ⟨none,none,rfl,Same.refl _,fun j hj=>absurd hj (by omega)⟩
    (fun i σ H2 _ ⟨_,_,_,s2,_⟩=>SqL.of (s2 _ _ hl)) ?_ ?_⟩
   ·rintro i x p σ H2 hx ⟨_,_,rfl,s2,hok⟩ hp
    obtain ⟨dd,hd,hat⟩:=hw.get hx
    have s3:Same H (upd H2 p (.tup [.int i,x])):=s2.upd hp
    refine ⟨p,_,rfl,SqT.of yaa,rfl,_,_,rfl,_,_,rfl,rfl,?_⟩
    refine ⟨_,rfl,_,rfl,i,x,dd,rfl,.inl (hat.same s3),fun hn H3 s4=>?_,fun s hs a' H3 s4 hx'=>?_⟩
    ·refine ⟨_,_,rfl,s3.trans s4,fun j hj y hy=>?_⟩
     by_cases e:j=i
     ·subst e;rw[hd] at hy;cases hy;exact hn
     ·exact hok j (by omega) y hy
    ·have:=ygh ds 0 i dd s hd hok hs
     rw[Nat.zero_add] at this
     exact q2 _ this a' H3 (s3.trans s4) hx'
   ·rintro σ H2 ⟨_,_,rfl,s2,hok⟩
    refine q1 (qc4 ds 0 fun x hx=>?_) H2 s2
    obtain ⟨j,hj⟩:=List.getElem?_of_mem hx
    have hjl:=(List.getElem?_eq_some_iff.mp hj).1
    exact hok j (by have:=hw.length;omega) x hj
end
theorem boot_VE:bootBuiltins "ValueError" = some (.type "ValueError"):=by decide +kernel
noncomputable def nms:List Str:=["NoTest","NoText","NoHarms","NoMemory","NoAddress","NoBit","NoOrders","NotSure","NoKind","NoSpares","NoRow","NoName","TooMany"]
noncomputable def kinds:List Str:=["test","text","harms","memory","address","bit","orders","sure","kind","spares","row","name","many"]
noncomputable def qd6:List Str:=["test","text","harms","memory","address","bit","orders","sure","kind","spares","row","name"]
noncomputable def tru (j:Nat):List Bool:=[decide (0=j),decide (1=j),decide (2=j),decide (3=j),decide (4=j),decide (5=j),decide (6=j),decide (7=j),decide (8=j),decide (9=j),decide (10=j),decide (11=j),decide (12=j)]
theorem yli:∀ j,j<13→(tru j).count true=1∧(tru j)[j]?=some true∧∀ m,m<j→(tru j)[m]?≠some true:=by decide +kernel
theorem ite_f {c A B:Prop} [Decidable c] (h:¬ c) (b:B):if c then A else B:=by rw[if_neg h];exact b
theorem kinds_at:∀ j,j<13→atI (qd6.map V.str++[V.str "many"]) (j:Nat)=some (V.str (kinds.getD j "")):=by decide +kernel
section
variable {P:Program}{w:World}{K:PySem.W.Frag}{mg:Str→Option Value}{base:Heap}
noncomputable def yla (K:PySem.W.Frag) (c:Nat→Addr):Sp:=fun vs H Q _=>∃ a C fs j,vs=[.ref a]∧XAt H a C fs∧XTy K C∧j<13∧(∀ i,i<13→PySem.W.kitOne K (.ref C) (.ref (c i))=some (decide (i=j)))∧PySem.W.kitOne K (.ref C) (.type "ValueError")=some true∧
 ∀ H',Same H H'→Q (.str (kinds.getD j "")) H'
noncomputable abbrev yc7:Stmt:=top 79
theorem qfc:FnScope ["_law_e","_law_some","_law_names"] ["_law_e"] (yac yc7):=⟨rfl,rfl,rfl,by decide +kernel,rfl,by decide +kernel,by decide +kernel⟩
theorem ok_kind {c:Nat→Addr} (B:Bl mg) (hVE:mg "ValueError" = none) (G:∀ i x,nms[i]?=some x→mg x=some (.ref (c i))) (F:FnAt K mg "_law_kind" yc7 ["_law_e"]):Has P w K mg base 1 "_law_kind" ["_law_e"] (yla K c):=by
 refine Has.of F qfc (fun vs H Q E h=>?_) (fun f cdv A outer s H vs Q E hr h=>?_)
 ·obtain ⟨a,C,fs,j,rfl,_⟩:=h
  rfl
 ·obtain ⟨a,C,fs,j,rfl,hx,T,hj,hk,hv,k⟩:=h
  have isi:∀ {H':Hp}{q:VK} (i:Nat),i<13→Same H H'→q (.bl (decide (i=j))) H'→rIsiX K [.ref a,.ref (c i)] H' q:=fun i hi sm hq=>⟨a,C,fs,.ref (c i),_,rfl,.inl ⟨_,rfl⟩,XAt.same sm hx,T,hk i hi,hq⟩
  have sc:=qfc
  refine ⟨_,(qss_lit rfl (qad (qjs (i:=1) sc.nd rfl (Or.inl rfl) (ybc (yef (qae qa5 rfl (B.of rfl) boot_isinstance (qaa (pv 0) (qaa (ya1 (v:=.ref (c 0)) rfl (G 0 "NoTest" rfl) rfl) yab))) (yef (qae qa5 rfl (B.of rfl) boot_isinstance (qaa (pv 0) (qaa (ya1 (v:=.ref (c 1)) rfl (G 1 "NoText" rfl) rfl) yab))) (yef (qae qa5 rfl (B.of rfl) boot_isinstance (qaa (pv 0) (qaa (ya1 (v:=.ref (c 2)) rfl (G 2 "NoHarms" rfl) rfl) yab))) (yef (qae qa5 rfl (B.of rfl) boot_isinstance (qaa (pv 0) (qaa (ya1 (v:=.ref (c 3)) rfl (G 3 "NoMemory" rfl) rfl) yab))) yab))))))
   (qad (qjs (i:=1) sc.nd rfl (Or.inl rfl) (qa7 yc0 (pv 1) (ybc (yef (qae qa5 rfl (B.of rfl) boot_isinstance (qaa (pv 0) (qaa (ya1 (v:=.ref (c 4)) rfl (G 4 "NoAddress" rfl) rfl) yab))) (yef (qae qa5 rfl (B.of rfl) boot_isinstance (qaa (pv 0) (qaa (ya1 (v:=.ref (c 5)) rfl (G 5 "NoBit" rfl) rfl) yab))) (yef (qae qa5 rfl (B.of rfl) boot_isinstance (qaa (pv 0) (qaa (ya1 (v:=.ref (c 6)) rfl (G 6 "NoOrders" rfl) rfl) yab))) (yef (qae qa5 rfl (B.of rfl) boot_isinstance (qaa (pv 0) (qaa (ya1 (v:=.ref (c 7)) rfl (G 7 "NotSure" rfl) rfl) yab))) yab)))))))
   (qad (qjs (i:=1) sc.nd rfl (Or.inl rfl) (qa7 yc0 (pv 1) (ybc (yef (qae qa5 rfl (B.of rfl) boot_isinstance (qaa (pv 0) (qaa (ya1 (v:=.ref (c 8)) rfl (G 8 "NoKind" rfl) rfl) yab))) (yef (qae qa5 rfl (B.of rfl) boot_isinstance (qaa (pv 0) (qaa (ya1 (v:=.ref (c 9)) rfl (G 9 "NoSpares" rfl) rfl) yab))) (yef (qae qa5 rfl (B.of rfl) boot_isinstance (qaa (pv 0) (qaa (ya1 (v:=.ref (c 10)) rfl (G 10 "NoRow" rfl) rfl) yab))) (yef (qae qa5 rfl (B.of rfl) boot_isinstance (qaa (pv 0) (qaa (ya1 (v:=.ref (c 11)) rfl (G 11 "NoName" rfl) rfl) yab))) yab)))))))
   (qad (qjs (i:=1) sc.nd rfl (Or.inl rfl) (qa7 yc0 (pv 1) (ybc (qaa (qae qa5 rfl (B.of rfl) boot_isinstance (qaa (pv 0) (qaa (ya1 (v:=.ref (c 12)) rfl (G 12 "TooMany" rfl) rfl) yab))) yab))))
   (qad (qs_if (PW.pt (qka (qao qgx (qe4 PySem.F.plainAttrs_list PySem.F.slot_list_count PySem.F.type_list_count qk9 (pv 1) (qaa qgu yab)) qac (qaj _)) (qg6 (qde (qco (qae qa5 rfl (B.of rfl) boot_isinstance (qaa (pv 0) (qaa (qbb (v:=.ty "ValueError") rfl hVE boot_VE rfl) yab))))))))
    (qag (qs_ret yaj))
    yaw)
   (qad (qs_strs (i:=2) (xs:=qd6) sc.nd rfl (Or.inl rfl) (by decide +kernel))
   (qag (qs_ret (yan qai (qa7 yc0 (pv 2) (ybc (qaa yaj yab))) (qe4 PySem.F.plainAttrs_list PySem.F.slot_list_index PySem.F.type_list_index qmc (pv 1) (qaa qgu yab)) (fun _ _=>rfl))))))))))),?_⟩
  have z4:4≤sizeLine:=by decide
  have u:∀ {H':Hp}{p q:Addr}{o o':HO},H' p=some o→H' q=none→upd H' q o' p=some o:=fun h1 h2=>by rw[yai (yae h1 h2)];exact h1
  refine ⟨_,rfl,⟨a,C,fs,.ref (c 0),_,rfl,.inl ⟨_,rfl⟩,XAt.same ((Same.refl H)) hx,T,hk 0 (by decide),⟨_,rfl,⟨a,C,fs,.ref (c 1),_,rfl,.inl ⟨_,rfl⟩,XAt.same ((Same.refl H)) hx,T,hk 1 (by decide),⟨_,rfl,⟨a,C,fs,.ref (c 2),_,rfl,.inl ⟨_,rfl⟩,XAt.same ((Same.refl H)) hx,T,hk 2 (by decide),⟨_,rfl,⟨a,C,fs,.ref (c 3),_,rfl,.inl ⟨_,rfl⟩,XAt.same ((Same.refl H)) hx,T,hk 3 (by decide),⟨z4,fun p1 f1=>?_⟩⟩⟩⟩⟩⟩⟩⟩⟩
  have s1:Same H _:=(Same.refl H).upd (o:=.lst [.bl (decide (0=j)),.bl (decide (1=j)),.bl (decide (2=j)),.bl (decide (3=j))]) f1
  have a1:upd H p1 (.lst [.bl (decide (0=j)),.bl (decide (1=j)),.bl (decide (2=j)),.bl (decide (3=j))]) p1=some _:=yaa
  revert a1 s1
  generalize upd H p1 (.lst [.bl (decide (0=j)),.bl (decide (1=j)),.bl (decide (2=j)),.bl (decide (3=j))])=H1
  intro s1 a1
  refine ⟨_,rfl,_,rfl,⟨a,C,fs,.ref (c 4),_,rfl,.inl ⟨_,rfl⟩,XAt.same (s1) hx,T,hk 4 (by decide),⟨_,rfl,⟨a,C,fs,.ref (c 5),_,rfl,.inl ⟨_,rfl⟩,XAt.same (s1) hx,T,hk 5 (by decide),⟨_,rfl,⟨a,C,fs,.ref (c 6),_,rfl,.inl ⟨_,rfl⟩,XAt.same (s1) hx,T,hk 6 (by decide),⟨_,rfl,⟨a,C,fs,.ref (c 7),_,rfl,.inl ⟨_,rfl⟩,XAt.same (s1) hx,T,hk 7 (by decide),⟨z4,fun p2 f2=>⟨p1,p2,_,_,rfl,rfl,u a1 f2,yaa,(show 8≤sizeLine by decide),fun p3 f3=>?_⟩⟩⟩⟩⟩⟩⟩⟩⟩⟩
  refine ⟨_,rfl,_,rfl,⟨a,C,fs,.ref (c 8),_,rfl,.inl ⟨_,rfl⟩,XAt.same (((s1.upd f2).upd f3)) hx,T,hk 8 (by decide),⟨_,rfl,⟨a,C,fs,.ref (c 9),_,rfl,.inl ⟨_,rfl⟩,XAt.same (((s1.upd f2).upd f3)) hx,T,hk 9 (by decide),⟨_,rfl,⟨a,C,fs,.ref (c 10),_,rfl,.inl ⟨_,rfl⟩,XAt.same (((s1.upd f2).upd f3)) hx,T,hk 10 (by decide),⟨_,rfl,⟨a,C,fs,.ref (c 11),_,rfl,.inl ⟨_,rfl⟩,XAt.same (((s1.upd f2).upd f3)) hx,T,hk 11 (by decide),⟨z4,fun p4 f4=>⟨p3,p4,_,_,rfl,rfl,u yaa f4,yaa,(show 12≤sizeLine by decide),fun p5 f5=>?_⟩⟩⟩⟩⟩⟩⟩⟩⟩⟩
  refine ⟨_,rfl,_,rfl,⟨a,C,fs,.ref (c 12),_,rfl,.inl ⟨_,rfl⟩,XAt.same (((((s1.upd f2).upd f3).upd f4).upd f5)) hx,T,hk 12 (by decide),⟨(show 1≤sizeLine by decide),fun p6 f6=>⟨p5,p6,_,_,rfl,rfl,u yaa f6,yaa,(show 13≤sizeLine by decide),fun p7 f7=>?_⟩⟩⟩⟩
  have hc:(tru j).count true=1:=(yli j hj).1
  have hq:Same H _:=((((((s1.upd f2).upd f3).upd f4).upd f5).upd f6).upd (o:=.lst ((tru j).map V.bl)) f7)
  refine ⟨_,rfl,.inl ⟨rfl,_,SqL.of yaa⟩,p7,tru j,true,rfl,rfl,yaa,?_⟩
  rw[hc]
  refine ⟨rfl,_,rfl,?_⟩
  refine ite_f (by decide) ?_
  refine ⟨_,rfl,a,C,fs,.ty "ValueError",_,rfl,.inr ⟨_,rfl⟩,XAt.same hq hx,T,hv,_,rfl,?_⟩
  refine ite_f (by decide) ?_
  refine ⟨(show 12≤sizeLine by decide),fun p8 f8=>?_⟩
  refine ⟨_,rfl,(show 1≤sizeLine by decide),fun p9 f9=>⟨p8,p9,_,_,rfl,rfl,u yaa f9,yaa,(show 13≤sizeLine by decide),fun p10 f10=>?_⟩⟩
  refine ⟨_,rfl,.inl ⟨rfl,_,SqL.of (u (u (u yaa f8) f9) f10)⟩,p7,tru j,true,j,rfl,rfl,u (u (u yaa f8) f9) f10,(yli j hj).2.1,(yli j hj).2.2,?_⟩
  exact ⟨p10,_,_,_,rfl,rfl,SqL.of yaa,kinds_at j hj,k _ (((hq.upd f8).upd f9).upd f10)⟩
end
theorem FnOk_or {P:Program}{w:World}{K:PySem.W.Frag}{mg:Str→Option Value}{base:Heap}{CX:CXT}{k:Nat}{f:Addr}{fd:FuncData}{ps:List Str}{sp1 sp2:Sp} (h1:FnOk P w K mg base CX k f fd ps sp1) (h2:FnOk P w K mg base CX k f fd ps sp2):FnOk P w K mg base CX k f fd ps (fun vs H Q E=>sp1 vs H Q E∨sp2 vs H Q E):=
 ⟨fun vs H Q E h=>h.elim (h1.len vs H Q E) (h2.len vs H Q E),fun A outer s H args us vs Q E hr he hb hv hs=>hs.elim (h1.run A outer s H args us vs Q E hr he hb hv) (h2.run A outer s H args us vs Q E hr he hb hv)⟩
section
variable {P:Program}{w:World}{K:PySem.W.Frag}{mg:Str→Option Value}{base:Heap}{C:Addr}
theorem ql0 {f0:Addr}{fd0:FuncData} (B:Bl mg) (cm:CM K C) (qay:Has P w K mg base 8 "look_at_memory" ["size","harms","contents"] ybk) (qes:Has P w K mg base 3 "settle" ["harms","cells"] qem) (F:Fun K "__init__" "Memory.__init__" yao f0 fd0):FnOk P w K mg base CX0 9 f0 fd0 ["self","size","harms","contents"] (qek C):=by
 refine Fun.okQ F yax (fun vs H Q E h=>?_) (fun cdv A outer s H vs Q E hr h=>?_)
 ·obtain ⟨x,dx,L0,C0,us,hs,S,cs,rfl,_⟩:=h
  rfl
 ·obtain ⟨x,dx,L0,C0,us,hs,S,cs,rfl,hx,hL,hv,ok,hi,hC,hb,l1,l64,k⟩:=h
  have sc:=yax
  refine ⟨_,(yam rfl (qad (ya8 (qaq qay hr (yak (qab (pv 1)) (yak (qab (pv 2)) (yak (qab (pv 3)) qaf)))))
   (qad (qju (qab (pv 0)) (qbh yb5 rfl (B.of rfl) boot_list (yak (qab (pv 2)) qaf)) rfl)
   (qad (qju (qab (pv 0)) (qbh yb5 rfl (B.of rfl) boot_list (yak (qab (pv 3)) qaf)) rfl)
   (qag (ya8 (qaq qes hr (qfz (qdq (qab (pv 0)) rfl) (qfz (qdq (qab (pv 0)) rfl) qaf))))))))),?_⟩
  refine ⟨_,rfl,_,rfl,_,rfl,L0,us,hs,S,C0,cs,rfl,hL,hv,ok,hi,hC,hb,l1,l64,fun H1 s1=>?_⟩
  refine ⟨_,rfl,L0,_,rfl,.inl (SqL.of (s1 _ _ hL)),fun L n1=>?_⟩
  have s2:Same H1 (upd H1 L (.lst us)):=(Same.refl H1).upd n1
  have f2:upd H1 L (.lst us) L=some (.lst us):=yaa
  revert s2 f2
  generalize upd H1 L (.lst us)=H2
  intro s2 f2
  have s12:=s1.trans s2
  refine ⟨_,rfl,x,C,dx,_,rfl,s12 _ _ hx,cm.c,cm.nh,by simp,?_⟩
  have nLx:L≠x:=fun z=>by subst z;rw[s1 _ _ hx] at n1;cases n1
  have u3:∀ b u,b≠x→H2 b=some u→upd H2 x (.ins C dx (putF "harms" (.ref L) [])) b=some u:=fun b u h e=>by rw[yai h];exact e
  have f3:upd H2 x (.ins C dx (putF "harms" (.ref L) [])) x=some (.ins C dx [("harms",.ref L)]):=yaa
  revert u3 f3
  generalize upd H2 x (.ins C dx (putF "harms" (.ref L) []))=H3
  intro u3 f3
  have nx:∀ {b:Addr}{xs:List V},H b=some (.lst xs)→b≠x:=fun e z=>by subst z;rw[hx] at e;cases e
  refine ⟨_,rfl,C0,_,rfl,.inl (SqL.of (u3 _ _ (nx hC) (s12 _ _ hC))),fun Cc n4=>?_⟩
  have nCx:Cc≠x:=fun z=>by subst z;rw[f3] at n4;cases n4
  have nLC:L≠Cc:=fun z=>by subst z;rw[u3 _ _ nLx f2] at n4;cases n4
  have s4:Same H3 (upd H3 Cc (.lst (cs.map V.int))):=(Same.refl H3).upd n4
  have f4:upd H3 Cc (.lst (cs.map V.int)) Cc=some (.lst (cs.map V.int)):=yaa
  revert s4 f4
  generalize upd H3 Cc (.lst (cs.map V.int))=H4
  intro s4 f4
  refine ⟨_,rfl,x,C,dx,_,rfl,s4 _ _ f3,cm.c,cm.nc,by simp,?_⟩
  have u5:∀ b u,b≠x→H4 b=some u→upd H4 x (.ins C dx (putF "cells" (.ref Cc) [("harms",.ref L)])) b=some u:=fun b u h e=>by rw[yai h];exact e
  have f5:upd H4 x (.ins C dx (putF "cells" (.ref Cc) [("harms",.ref L)])) x=some (.ins C dx (fsM L Cc)):=by
   rw[yaa]
   have:putF "cells" (V.ref Cc) [("harms",.ref L)]=fsM L Cc:=by
    unfold fsM putF
    rw[if_neg (by decide +kernel)]
    rfl
   rw[this]
  revert u5 f5
  generalize upd H4 x (.ins C dx (putF "cells" (.ref Cc) [("harms",.ref L)]))=H5
  intro u5 f5
  have hc0:H Cc=none:=by
   cases e:H Cc with
   | none=>rfl
   | some u=>have:=u3 _ _ nCx (s12 _ _ e);rw[n4] at this;cases this
  have hl0:H L=none:=s1.free n1
  have up:∀ b u,b≠x→H b=some u→H5 b=some u:=fun b u h e=>u5 _ _ h (s4 _ _ (u3 _ _ h (s12 _ _ e)))
  have m5:Mem H5 L Cc us hs cs:=⟨nLC,u5 _ _ nLx (s4 _ _ (u3 _ _ nLx f2)),⟨hv.len,fun i v h a b=>by
   obtain ⟨z,e,hz⟩:=hv.at_ i v h a b
   exact ⟨z,e,up _ _ (fun q=>by subst q;rw[hx] at hz;cases hz) hz⟩⟩,ok.ok,u5 _ _ nCx f4⟩
  refine ⟨_,rfl,x,C,dx,_,_,rfl,f5,cm.c,cm.nh,lk_h,_,rfl,x,C,dx,_,_,rfl,f5,cm.c,cm.nc,lk_c,L,Cc,us,hs,cs,rfl,m5,hi,l64,?_⟩
  refine k L Cc _ (fun b u h e=>?_) hl0 hc0 ⟨⟨dx,?_⟩,m5.upd _⟩
  ·rw[yai (fun z=>by subst z;rw[hc0] at e;cases e)]
   exact up b u h e
  ·rw[yai (fun z=>nCx z.symm)]
   exact f5
theorem qls {f0:Addr}{fd0:FuncData}{C2 CM':Addr} (qay:HasX P w K mg base 8 "look_at_memory" ["size","harms","contents"] (yf3 C2 CM')) (F:Fun K "__init__" "Memory.__init__" yao f0 fd0):FnOk P w K mg base (CX1 P w) 9 f0 fd0 ["self","size","harms","contents"] (yig C C2 CM'):=by
 refine FnOk.ofX F yax (fun vs H Q E h=>?_) (fun cdv A outer s H vs Q E hr h=>?_)
 ·obtain ⟨x,vz,vh,vc,dz,dh,dc,rfl,_⟩:=h
  rfl
 ·obtain ⟨x,vz,vh,vc,dz,dh,dc,rfl,hz,hh,hc,h0,q1,q2⟩:=h
  have sc:=yax
  refine ⟨_,(yam rfl (qad (ya8 (qab (qcd qay ygw hr (qaa (pv 1) (qaa (pv 2) (qaa (pv 3) yab)))))) ql9)),?_⟩
  exact ⟨_,rfl,_,rfl,_,rfl,vz,vh,vc,dz,dh,dc,rfl,hz,hh,hc,fun hb z=>(by rw[h0 hb] at z;cases z),fun hb _=>q1 hb,q2⟩
end
end Mh
namespace L2
open PySem PySem.Spec PyProof.Rows PySem.W Mx
section
variable {X:Cx}{e:Expr}{es:List Expr}{t:TA}{C:Addr}{x:Str}{p pos:Pos}{E:XK}
theorem qe_makeX {k n:Nat}{ps:List Str}{sp:Sp} (h:qln X.prog X.w X.K X.mg X.base C k x ps sp) (hx:yd4 (CX1 X.prog X.w) X E) (hr:Room n X.A) (ha:QA X (e::es) t) (hk:k+1≤n:=by decide) (hg:Gl X x:=by rfl)
  (hdb:(x == ("__debug__" : Str))=false:=by decide) (he:starEach (e::es) X.env=(false,eval e X.env)::starEach es X.env:=by rfl) (hpl:(backTo pos (starEach es X.env)).any (·.1)=false:=by rfl) :
  QE X (.Call (.Name x p) (e::es) [] pos) (tMake C sp [] E t):=by
 obtain ⟨f,fd,h1,h2,h3,h4⟩:=h
 exact ⟨ymc h2 h4 (hr.mono hk) hg h1 h3 .nil hx ha.of hdb he hpl⟩
end
end L2
namespace Mh
open PySem L2 PyProof.Rows Mx
theorem qlr {H:Hp}:∀ {us:List V}{ds:List PyData},AtAll H us ds→(ds.map bitD).all id=true→∃ cs:List Int,us=cs.map V.int∧bits cs∧cs.length=ds.length
 | [],[],.nil,_=>⟨[],rfl,fun c h=>(by cases h),rfl⟩
 | u::us,d::ds,.cons a r,h=>by
  have h':(bitD d&&(ds.map bitD).all id)=true:=h
  rw[Bool.and_eq_true] at h'
  obtain ⟨cs,rfl,hb,hl⟩:=qlr r h'.2
  have hd:=h'.1
  obtain ⟨i,rfl⟩:∃ i,d=.int i:=by cases d<;>first|exact ⟨_,rfl⟩|exact absurd hd (by simp[bitD])
  have:=a.intEq
  subst this
  have hi:i=0∨i=1:=of_decide_eq_true hd
  refine ⟨i::cs,rfl,fun c hc=>?_,by simp[hl]⟩
  rcases List.mem_cons.mp hc with rfl|hc
  ·rcases hi with rfl|rfl
   ·exact ⟨false,rfl⟩
   ·exact ⟨true,rfl⟩
  ·exact hb c hc
theorem mem_good {H:Hp}{vz vh vc:V}{dz dh dc:PyData} (hz:AtX H vz dz) (hh:AtX H vh dh) (hc:AtX H vc dc) (hb:yat dh=none) (hm:ydd dz dh dc=true) :
  ∃ L us hs S C cs,vz=.int (cs.length:Nat)∧vh=.ref L∧vc=.ref C∧H L=some (.lst us)∧HsV H us hs∧okHs hs S∧InR hs cs.length∧H C=some (.lst (cs.map V.int))∧bits cs∧1≤cs.length∧cs.length≤64:=by
 obtain ⟨L,us,hs,S,rfl,hL,hv,ok,hA⟩:=qg1 hh hb
 have hm':(yho dz&&(decide (∀ c∈qbj dh,c<intD dz)&&yfk (intD dz) dc))=true:=hm
 rw[Bool.and_eq_true,Bool.and_eq_true] at hm'
 obtain ⟨h1,h2,h3⟩:=hm'
 obtain ⟨n,rfl⟩:∃ n,dz=.int n:=by cases dz<;>first|exact ⟨_,rfl⟩|cases h1
 have ev:vz=.int n:=by
  rcases hz with h|⟨e,_⟩
  ·exact h.intEq
  ·cases e
 have hn:1≤n∧n≤64:=of_decide_eq_true h1
 have h2':∀ c∈qbj dh,c<n:=of_decide_eq_true h2
 obtain ⟨ds,rfl⟩:∃ ds,dc=.list ds:=by cases dc<;>first|exact ⟨_,rfl⟩|cases h3
 have hc':At H vc (.list ds):=by
  rcases hc with h|⟨e,_⟩
  ·exact h
  ·cases e
 obtain ⟨C,ws,rfl,hC,hw⟩:=hc'.lstEq
 have h3':(decide ((ds.length:Int)=n)&&(ds.map bitD).all id)=true:=h3
 rw[Bool.and_eq_true] at h3'
 have hl:(ds.length:Int)=n:=of_decide_eq_true h3'.1
 obtain ⟨cs,rfl,hbt,hcl⟩:=qlr hw h3'.2
 refine ⟨L,us,hs,S,C,cs,?_,rfl,rfl,hL,hv,ok,fun h hh' x hx=>?_,hC,hbt,by omega,by omega⟩
 ·rw[ev,← hl,hcl]
 ·obtain ⟨ns,og⟩:=ok.ok h hh'
  have hx2:=h2' x (by rw[← hA];exact List.mem_flatMap.mpr ⟨h,hh',hx⟩)
  exact ⟨(og.rg x hx).1,by omega⟩
section
variable {P:Program}{w:World}{K:PySem.W.Frag}{mg:Str→Option Value}{base:Heap}{C:Addr}
noncomputable def yls (C C2 CM:Addr):Sp:=fun vs H Q E=>qek C vs H Q E∨yig C C2 CM vs H Q E
theorem mx_init {C2 CM':Addr} (B:Bl mg) (cm:CM K C) (hg:Has P w K mg base 8 "look_at_memory" ["size","harms","contents"] ybk) (qes:Has P w K mg base 3 "settle" ["harms","cells"] qem) (qay:HasX P w K mg base 8 "look_at_memory" ["size","harms","contents"] (yf3 C2 CM'))
  (F:ycm K C "__init__" "Memory.__init__" yao ["self","size","harms","contents"]):HasMX P w K mg base C 9 "__init__" ["self","size","harms","contents"] (yls C C2 CM'):=by
 obtain ⟨f,fd,h1,h2,h3⟩:=F
 exact ⟨f,fd,h1,h3,FnOk_or (ql0 B cm hg qes h2).x (qls qay h2)⟩
end
noncomputable def ybm (e:Elm):PyData→Bool | .str s=>inV (.str s) [.str "up",.str "down"]&&inV (.str e.1) [.str "any",.str s]|_=>false
noncomputable def ordB (T:List Elm):PyData→Bool | .list ds=>decide (ds.length=T.length)&&(List.zipWith ybm T ds).all id|_=>false
theorem yj1 {H:Hp}{v:V}{d:PyData}{T:List Elm} (h:AtX H v d) (hb:ordB T d=true):∃ O os,v=.ref O∧H O=some (.lst (os.map V.str))∧OrdOk T os:=by
 obtain ⟨ds,rfl⟩:∃ ds,d=.list ds:=by cases d<;>first|exact ⟨_,rfl⟩|cases hb
 have h':At H v (.list ds):=by
  rcases h with h|⟨e,_⟩
  ·exact h
  ·cases e
 obtain ⟨O,us,rfl,hO,hu⟩:=h'.lstEq
 have hb':(decide (ds.length=T.length)&&(List.zipWith ybm T ds).all id)=true:=hb
 rw[Bool.and_eq_true] at hb'
 have hl:ds.length=T.length:=of_decide_eq_true hb'.1
 have key:∀ (T:List Elm) (us:List V) (ds:List PyData),AtAll H us ds→ds.length=T.length→(List.zipWith ybm T ds).all id=true→∃ os:List Str,us=os.map V.str∧OrdOk T os:=by
  intro T
  induction T with
  | nil=>
   intro us ds ha hl _
   cases ha with
   | nil=>exact ⟨[],rfl,rfl,fun i e o h=>by simp at h⟩
   | cons _ _=>simp at hl
  | cons e T ih=>
   intro us ds ha hl hz
   cases ha with
   | nil=>simp at hl
   | cons a r=>
    rename_i u d us ds
    have hz':(ybm e d&&(List.zipWith ybm T ds).all id)=true:=hz
    rw[Bool.and_eq_true] at hz'
    obtain ⟨os,rfl,oo⟩:=ih us ds r (by simpa using hl) hz'.2
    have h1:=hz'.1
    obtain ⟨s,rfl⟩:∃ s,d=.str s:=by cases d<;>first|exact ⟨_,rfl⟩|cases h1
    have h1':(inV (.str s) [.str "up",.str "down"]&&inV (.str e.1) [.str "any",.str s])=true:=h1
    rw[in2,in2,Bool.and_eq_true] at h1'
    refine ⟨s::os,by rw[a.strEq];rfl,by simp[oo.len],fun i e' o' g1 g2=>?_⟩
    cases i with
    | zero=>cases g1;cases g2;exact ⟨(show s="up"∨s="down" from of_decide_eq_true h1'.1),of_decide_eq_true h1'.2⟩
    | succ i=>exact oo.at_ i e' o' g1 g2
 obtain ⟨os,rfl,oo⟩:=key T us ds hu hl hb'.2
 exact ⟨O,os,rfl,hO,oo⟩
section
variable {P:Program}{w:World}{K:PySem.W.Frag}{mg:Str→Option Value}{base:Heap}
noncomputable def qj4:Sp:=fun vs H Q _=>∃ v u e d,vs=[v,u]∧At H v (qd2 e)∧AtX H u d∧∀ H',Same H H'→Q (.bl (ybm e d)) H'
theorem og_order (yiu:GTup K mg "TAKEN" [.str "up",.str "down"]) (qba:Has P w K mg base 1 "is_one_of" ["thing","words"] (qh5 K)) (F:FnAt K mg "is_order_for" yb3 ["element","thing"]):Has P w K mg base 2 "is_order_for" ["element","thing"] qj4:=by
 refine Has.of F ydk (fun vs H Q E h=>?_) (fun f cdv A outer s H vs Q E hr h=>?_)
 ·obtain ⟨v,u,e,d,rfl,_⟩:=h
  rfl
 ·obtain ⟨v,u,e,d,rfl,hv,hu,k⟩:=h
  obtain ⟨a,l,ws,rfl,ha,hl,hw⟩:=qf7 hv
  have sc:=ydk
  refine ⟨_,(yaf (qat (qax (qah qba hr (qaa (pv 1) (qaa (yf4 yiu) yab))) (qbn (qau qbr (yan yap (pv 0) qac (fun _ _=>rfl)) (qce (qaa yaj (qaa (pv 1) yab))) (by with_unfolding_all rfl)))))),?_⟩
  refine ⟨_,rfl,fun aT hT=>⟨u,d,aT,_,rfl,hu,hT,rfl,_,rfl,?_⟩⟩
  cases ho:oneD [.str "up",.str "down"] d with
  | false=>
   have e1:ybm e d=false:=by
    cases d<;>first|rfl|(show (inV _ _&&_)=false;rw[show inV (.str _) [.str "up",.str "down"]=false from ho];rfl)
   rw[e1] at k
   exact iteF (k H (Same.refl H))
  | true=>
   obtain ⟨s',rfl⟩:∃ s,d=.str s:=by cases d<;>first|exact ⟨_,rfl⟩|cases ho
   have eu:u=.str s':=by
    rcases hu with h|⟨e,_⟩
    ·exact h.strEq
    ·cases e
   subst eu
   refine iteT ⟨_,rfl,a,_,_,_,rfl,rfl,SqT.of ha,yad 0 rfl,_,rfl,(by show 2≤sizeLine;decide),fun p hp=>⟨p,_,rfl,.inr (SqT.of yaa),rfl,rfl,?_⟩⟩
   show Q (.bl (inV (.str e.1) [.str "any",.str s'])) _
   have e2:ybm e (.str s')=inV (.str e.1) [.str "any",.str s']:=by
    show (inV (.str s') [.str "up",.str "down"]&&_)=_
    rw[show inV (.str s') [.str "up",.str "down"]=true from ho,Bool.true_and]
   rw[e2] at k
   exact k _ ((Same.refl H).upd hp)
noncomputable def qhy:Sp:=fun vs H Q _=>∃ t v T d,vs=[.ref t,v]∧At H (.ref t) (ybv T)∧okT T∧AtX H v d∧∀ H',Same H H'→Q (.bl (ordB T d)) H'
theorem qlg (B:Bl mg) (yee:mg "zip" = none) (qd9:mg "all" = none) (ygv:Has P w K mg base 2 "is_order_for" ["element","thing"] qj4) (F:FnAt K mg "are_orders" ycq ["test","thing"]):Has P w K mg base 3 "are_orders" ["test","thing"] qhy:=by
 refine Has.of F qeg (fun vs H Q E h=>?_) (fun f cdv A outer s H vs Q E hr h=>?_)
 ·obtain ⟨t,v,T,d,rfl,_⟩:=h
  rfl
 ·obtain ⟨t,v,T,d,rfl,ht,okt,hv,k⟩:=h
  obtain ⟨l,ws,hre,hl,hw⟩:=ht.lstEq
  cases hre
  have hwl:ws.length=T.length:=by have:=hw.length;rw[List.length_map] at this;exact this
  have hT8:=okt.2.1
  have sc:=qeg
  refine ⟨_,(yah (qbu (PW.pt (qka (qde (qco (qae qa3 rfl (B.of rfl) boot_isinstance (qaa (pv 1) (qaa (qbb (v:=.ty "list") rfl (B.of rfl) boot_list rfl) yab))))) (qg6 (qao qgx (qae yag rfl (B.of rfl) boot_len (qaa (pv 1) yab)) (qae yag rfl (B.of rfl) boot_len (qaa (pv 0) yab)) (qaj _)))))
    (yaf (qat qgu))
    yav)
   (yaf (qat (qae (ydl rfl) rfl qd9 yds (qaa (yce rfl (qa8 rfl) (M:=["element","order"]) (ix:=[none,none]) (qie rfl yee (qaa (pv 0) (qaa (pv 1) yab))) (fun _ _ _ _=>(yf5 (K:=K) (n:=2) rfl rfl (qan (qak (i:=0) (show List.Nodup (["element","order"]:List Str) by decide +kernel) rfl (Or.inl rfl)) (qan (qak (i:=1) (show List.Nodup (["element","order"]:List Str) by decide +kernel) rfl (Or.inl rfl)) qbp)))) (fun _ _ _ _=>yda) (fun _ _ _ _=>(qah ygv hr (qaa (pv 0) (qaa (pv 1) yab))))) yab))))),?_⟩
  refine ⟨_,rfl,_,_,_,_,rfl,hv.ty,yhg d,_,rfl,?_⟩
  cases hs:qmf d with
  | false=>
   have e:ordB T d=false:=by cases d<;>first|rfl|cases hs
   rw[e] at k
   exact iteT (iteT (k H (Same.refl H)))
  | true=>
   obtain ⟨ds,rfl⟩:∃ ds,d=.list ds:=by cases d<;>first|exact ⟨_,rfl⟩|cases hs
   have hv':At H v (.list ds):=by
    rcases hv with h|⟨e,_⟩
    ·exact h
    ·cases e
   obtain ⟨O,us,rfl,hO,hu⟩:=hv'.lstEq
   have hul:=hu.length
   have es:ordB T (.list ds)=(decide (ds.length=T.length)&&(List.zipWith ybm T ds).all id):=rfl
   rw[es] at k
   refine iteF ?_
   refine ⟨_,rfl,O,_,rfl,.inl (SqL.of hO),_,rfl,t,_,rfl,.inl (SqL.of hl),rfl,_,rfl,?_⟩
   by_cases hle:ds.length=T.length
   rotate_left
   ·rw[decide_eq_false hle] at k
    exact iteB (by rw[hul,hwl];simp;omega) (k H (Same.refl H))
   rw[decide_eq_true hle,Bool.true_and] at k
   refine iteN (by rw[hul,hwl,hle];simp) ?_
   refine ⟨_,rfl,_,rfl,false,false,t,O,ws,us,rfl,SqL.of hl,SqL.of hO,fun D hD=>?_⟩
   refine yej (K:=K) (xs:=ws) (ys:=us) (by omega) (fun i H'=>Same H H'∧H' D=some (.lst (((List.zipWith ybm T ds).take i).map V.bl))) ⟨(Same.refl H).upd hD,yaa⟩ ?_ ?_ ?_
   ·rintro i H2 ⟨s2,e2⟩
    exact ⟨SqL.of (s2 _ _ hl),SqL.of (s2 _ _ hO)⟩
   ·rintro H2 ⟨s2,e2⟩
    rw[hwl,List.take_of_length_le (by rw[List.length_zipWith];omega)] at e2
    exact ⟨D,_,rfl,e2,k _ s2⟩
   ·rintro i x y p H2 hx hy ⟨s2,e2⟩ hp
    obtain ⟨d,hd,hat⟩:=hw.get hx
    obtain ⟨e,he,rfl⟩:=qby hd
    obtain ⟨dy,hdy,hay⟩:=hu.get hy
    refine ⟨p,_,rfl,SqT.of yaa,rfl,?_⟩
    refine ⟨_,_,rfl,_,_,rfl,rfl,ya6.set (ya6.set (ya6.refl _) rfl) rfl,yes ?_⟩
    have s3:=s2.upd (o:=.tup [x,y]) hp
    refine ⟨_,rfl,_,rfl,x,y,e,dy,rfl,hat.same s3,.inl (hay.same s3),fun H3 s4=>?_⟩
    have s23:Same H2 H3:=((Same.refl H2).upd hp).trans s4
    have hi:=(List.getElem?_eq_some_iff.mp hx).1
    refine ⟨_,s23 _ _ e2,qb5 (by rw[List.length_map,List.length_take];omega),(s2.trans s23).at hD,?_⟩
    have hz:(List.zipWith ybm T ds)[i]?=some (ybm e dy):=by
     rw[List.getElem?_zipWith,he,hdy]
    rw[yaa,List.take_add_one,hz,List.map_append];rfl
noncomputable def yex (CO:Addr):Sp:=fun vs H Q E=>∃ t v T d,vs=[.ref t,v]∧At H (.ref t) (ybv T)∧okT T∧AtX H v d∧(ordB T d=true→∀ H',Same H H'→Q .non H')∧(ordB T d=false→∀ a H',Same H H'→XAt H' a CO []→E (.ref a) none H')
theorem qkm {CO:Addr} (xO:ylr K mg "NoOrders" CO) (qia:Has P w K mg base 3 "are_orders" ["test","thing"] qhy) (F:FnAt K mg "look_at_orders" qbs ["test","thing"]):HasX P w K mg base 4 "look_at_orders" ["test","thing"] (yex CO):=by
 refine HasX.of F ycx (fun vs H Q E h=>?_) (fun f cdv A outer s H vs Q E hr h=>?_)
 ·obtain ⟨t,v,T,d,rfl,_⟩:=h
  rfl
 ·obtain ⟨t,v,T,d,rfl,ht,okt,hv,q1,q2⟩:=h
  have sc:=ycx
  refine ⟨_,(yam rfl (qag (ya9 (qd8 (ycg (qaq qia hr (yak (qab (pv 0)) (yak (qab (pv 1)) qaf)))))
    (qag (qee (qb3 (pe_x0 xO (qaa yaj yab)))))
    yaw))),?_⟩
  refine ⟨_,rfl,_,rfl,t,v,T,d,rfl,ht,okt,hv,fun H1 s1=>⟨_,rfl,?_⟩⟩
  cases hb:ordB T d with
  | true=>exact iteF (q1 hb H1 s1)
  | false=>
   refine iteT ⟨(by show 1≤sizeLine;decide),fun a ha=>⟨a,CO,none,rfl,xO.2.2.1,yaa,?_⟩⟩
   rw[yhv]
   exact q2 hb a _ (s1.upd ha) (.inr (.inr (.inl ⟨rfl,yaa⟩)))
end
noncomputable def RowOk (T:List Elm) (x:List V):Prop:=∃ (i p:Nat) (a b:Int) (e:Elm) (s:Stp),x=[.int i,.int a,.int p,.int b]∧T[i]?=some e∧e.2[p]?=some s
theorem yf0 (hs:List Hm) {n:Nat}{T:List Elm} (os:List Str) (cs:List Int):∀ k,k≤T.length→∀ x∈(runR hs n T os ([],cs) k).1,RowOk T x
 | 0,_,x,h=>by simp[runR] at h
 | k+1,hk,x,h=>by
  have ih:=yf0 hs (n:=n) (T:=T) os cs k (by omega)
  obtain ⟨e,he⟩:∃ e,T[k]?=some e:=⟨T[k],List.getElem?_eq_getElem _⟩
  rw[qgj] at h
  unfold yl5 elR at h
  rw[show T.getD k ("",[])=e by rw[List.getD_eq_getElem?_getD,he];rfl] at h
  have go:∀ (l:List (Int×Nat)) (st:RS),(∀ y∈l,y.2<e.2.length)→(∀ y∈st.1,RowOk T y)→∀ y∈(l.foldl (qcw hs e.2 k) st).1,RowOk T y:=by
   intro l
   induction l with
   | nil=>intro st _ h y hy;exact h y hy
   | cons z l ih=>
    intro st hl h y hy
    rw[List.foldl_cons] at hy
    refine ih _ (fun y hy=>hl y (List.mem_cons_of_mem _ hy)) ?_ y hy
    intro y hy
    unfold qcw at hy
    split at hy
    ·exact h y hy
    ·rcases List.mem_append.mp hy with hy|hy
     ·exact h y hy
     ·rw[List.mem_singleton.mp hy]
      have:=hl z (List.mem_cons_self ..)
      exact ⟨k,z.2,z.1,_,e,e.2[z.2],rfl,he,List.getElem?_eq_getElem _⟩
  exact go _ _ (fun y hy=>(ix_mem hy).2.2) ih x h
noncomputable def bitR (x:List V):V:=x.getD 3 .non
theorem TestAt.step {H:Hp}{t:Addr}{ws:List V}{T:List Elm} (x:TestAt H t ws T) {i p:Nat}{e:Elm}{s:Stp} (he:T[i]?=some e) (hs:e.2[p]?=some s) :
  ∃ (ea el sa:Addr) (sw:List V),ws[i]?=some (.ref ea)∧H ea=some (.tup [.str e.1,.ref el])∧H el=some (.lst sw)∧sw[p]?=some (.ref sa)∧H sa=some (.tup (yj4 s)):=by
 have hl:ws.length=T.length:=by have:=x.a.length;rw[List.length_map] at this;exact this
 have hi:=(List.getElem?_eq_some_iff.mp he).1
 have hx:ws[i]?=some ws[i]:=List.getElem?_eq_getElem _
 obtain ⟨d,hd,hat⟩:=x.a.get hx
 rw[List.getElem?_map,he] at hd
 cases hd
 obtain ⟨ea,el,sw,e1,h1,h2,h3⟩:=qf7 hat
 have hswl:sw.length=e.2.length:=by have:=h3.length;rw[List.length_map] at this;exact this
 have hp:=(List.getElem?_eq_some_iff.mp hs).1
 have hy:sw[p]?=some sw[p]:=List.getElem?_eq_getElem _
 obtain ⟨sa,e2,h4⟩:=(yhp h3).at_ p _ (yj4 s) hy (by rw[List.getElem?_map,hs];rfl)
 exact ⟨ea,el,sa,sw,by rw[hx,e1],h1,h2,by rw[hy,e2],h4⟩
noncomputable def qgp (T:List Elm) (dt dz dh dc dor:PyData):Str:=if (qbe dt).isSome=true then "test" else if (yat dh).isSome=true then "harms" else if ydd dz dh dc=true then (if ordB T dor=true then "told" else "orders") else "memory"
noncomputable def qcs (T:List Elm) (dt dor:PyData):Str:=if (qbe dt).isSome=true then "test" else if ordB T dor=true then "told" else "orders"
noncomputable def DueX (H':Hp) (a CT C2 CM CO:Addr) (due:Str):Prop:=(due="test"∧∃ fs,XAt H' a CT fs)∨(due="harms"∧∃ fs,XAt H' a C2 fs)∨(due="memory"∧XAt H' a CM [])∨(due="orders"∧XAt H' a CO [])
theorem some_of {α:Type}{o:Option α}{b:α} (h:o=some b):o.isSome=true:=by rw[h];rfl
theorem none_of {α:Type}{o:Option α} (h:o=none):¬ o.isSome=true:=by rw[h];simp
section
variable {P:Program}{w:World}{K:PySem.W.Frag}{mg:Str→Option Value}{base:Heap}{C:Addr}
noncomputable abbrev qfw:Stmt:=top 69
theorem yh4:FnScope ["test","memory","orders"] ["test","memory","orders"] (yac qfw):=⟨rfl,rfl,rfl,by decide +kernel,rfl,by decide +kernel,by decide +kernel⟩
noncomputable abbrev ydw:Stmt:=top 70
theorem ygm:FnScope ["test","size","harms","contents","orders","memory"] ["test","size","harms","contents","orders"] (yac ydw):=⟨rfl,rfl,rfl,by decide +kernel,rfl,by decide +kernel,by decide +kernel⟩
noncomputable abbrev ycc:Stmt:=top 71
theorem yd7:FnScope ["test","size","harms","contents","orders","number","address","place","bit"] ["test","size","harms","contents","orders"] (yac ycc):=⟨rfl,rfl,rfl,by decide +kernel,rfl,by decide +kernel,by decide +kernel⟩
noncomputable def qir (C CT C2 CM CO:Addr):Sp:=fun vs H Q E=>∃ (vt vo:V) (m L Cc:Addr) (dt dor:PyData) (T:List Elm) (us:List V) (hs:List Hm) (cs:List Int),vs=[vt,.ref m,vo]∧AtX H vt dt∧(qbe dt=none→dt=ybv T∧okT T)∧AtX H vo dor∧MemO H C m L Cc us hs cs∧InR hs cs.length∧cs.length≤64∧
 (qcs T dt dor="told"→∀ (D:Addr) (ws:List V) (ds:List Int) (H':Hp),UpC H Cc ds H'→H' D=some (.lst ws)→Q (.ref D) H')∧(∀ a H',Same H H'→DueX H' a CT C2 CM CO (qcs T dt dor)→E (.ref a) none H')
theorem ql5 {CT C2 CM' CO:Addr} (B:Bl mg) (ycr:HasX P w K mg base 5 "look_at_test" ["thing"] (yiv CT)) (yb7:HasX P w K mg base 4 "look_at_orders" ["test","thing"] (yex CO)) (qec:Has P w K mg base 7 "all_reads" ["test","memory","orders"] (qdr C)) (F:FnAt K mg "run_on" qfw ["test","memory","orders"]):HasX P w K mg base 8 "run_on" ["test","memory","orders"] (qir C CT C2 CM' CO):=by
 refine HasX.of F yh4 (fun vs H Q E h=>?_) (fun f cdv A outer s H vs Q E hr h=>?_)
 ·obtain ⟨vt,vo,m,L,Cc,dt,dor,T,us,hs,cs,rfl,_⟩:=h
  rfl
 ·obtain ⟨vt,vo,m,L,Cc,dt,dor,T,us,hs,cs,rfl,ht0,hT,hO0,mo,ir,hn,k,kx⟩:=h
  have sc:=yh4
  refine ⟨_,(yam rfl (qad (ya8 (qab (qcd ycr ygw hr (qaa (pv 0) yab))))
   (qad (ya8 (qab (qcd yb7 ygw hr (qaa (pv 0) (qaa (pv 2) yab)))))
   (qag (qas (qab (yce rfl (qa8 rfl) (M:=["told"]) (ix:=[none]) (qbo (qah qec hr (qaa (pv 0) (qaa (pv 1) (qaa (pv 2) yab))))) (fun _ _ _ _=>(qak (i:=0) (show List.Nodup (["told"]:List Str) by decide +kernel) rfl (Or.inl rfl))) (fun _ _ _ _=>yda) (fun _ _ _ _=>(yan (yiz (K:=K) rfl) (pv 0) qac (fun _ _=>rfl)))))))))),?_⟩
  refine ⟨_,rfl,vt,dt,rfl,ht0,fun hb H1 s1=>?_,fun b hb a H' s' xa=>kx a H' s' (.inl ⟨by unfold qcs;rw[if_pos (some_of hb)],_,xa⟩)⟩
  obtain ⟨rfl,okt⟩:=hT hb
  have ht:At H vt (ybv T):=by
   rcases ht0 with h|⟨e,_⟩
   ·exact h
   ·cases e
  obtain ⟨t,_,rfl,_⟩:=id ht.lstEq
  have ed:qcs T (ybv T) dor=if ordB T dor=true then "told" else "orders":=by unfold qcs;rw[if_neg (none_of hb)];split<;>rfl
  refine ⟨_,rfl,_,rfl,t,vo,T,dor,rfl,ht.same s1,okt,hO0.same s1,fun ho H2 s2=>?_,fun ho a H' s' xa=>kx a H' (s1.trans s') (.inr (.inr (.inr ⟨by rw[ed,ho];rfl,xa⟩)))⟩
  have s12:=s1.trans s2
  obtain ⟨O,os,rfl,hO,oo⟩:=yj1 hO0 ho
  have k:=k (by rw[ed,ho];rfl)
  refine ⟨_,rfl,_,rfl,_,rfl,t,m,O,L,Cc,T,os,us,hs,cs,rfl,ht.same s12,okt,mo.same s12,ir,hn,s12 _ _ hO,oo,fun D tv H3 u3 hD nDC e3 ft3=>?_⟩
  have hrl:=(yhr hs okt hn os ([],cs) T.length).2
  have hrw:=yf0 hs (n:=cs.length) (T:=T) os cs T.length (Nat.le_refl _)
  have u03:UpC H Cc (runR hs cs.length T os ([],cs) T.length).2 H3:=(UpC.of s12 mo.m.hc).trans u3
  revert u3 ft3 hrl hrw u03
  generalize runR hs cs.length T os ([],cs) T.length=st
  intro u3 ft3 hrl hrw u03
  have h8:=okt.2.1
  refine ⟨D,rfl,⟨_,SqL.of e3⟩,fun D2 hD2=>qda (n:=tv.length) (fun i H5=>Same H3 H5∧H5 D2=some (.lst ((st.1.take i).map bitR))) ⟨(Same.refl H3).upd hD2,yaa⟩ ?_ ?_⟩
  rotate_left
  ·rintro i H5 hi2 ⟨s5,e5⟩
   refine ⟨⟨_,_,SqL.of (s5 _ _ e3),by rw[List.getElem?_eq_getElem hi2]⟩,?_⟩
   rintro y H6 ⟨rfl,hy⟩
   obtain ⟨row,ra,hrow,rfl,hra⟩:=ft3.get (hy _ (SqL.of (s5 _ _ e3)))
   obtain ⟨a1,a2,a3,a4,e,sx,rfl,_,_⟩:=hrw row (List.mem_of_getElem? hrow)
   refine ⟨ya6.set (ya6.refl _) rfl,yes ?_⟩
   refine ⟨_,rfl,ra,_,_,_,rfl,rfl,SqT.of (s5 _ _ hra),yad 3 rfl,?_⟩
   refine ⟨_,e5,qb5 (by rw[List.length_map,List.length_take];simp at hrl;omega),s5.at hD2,?_⟩
   rw[yaa,List.take_add_one,hrow,List.map_append]
   rfl
  rintro H5 ⟨s5,e5⟩
  refine ⟨⟨_,SqL.of (s5 _ _ e3),by simp⟩,?_⟩
  exact k D2 _ _ H5 (u03.same s5) e5
noncomputable def RunX (C CT C2 CM CO:Addr) (H:Hp) (vs:List V) (T:List Elm) (due:Str):Prop:=∃ (vt vz vh vc vo:V) (dt dz dh dc dor:PyData),vs=[vt,vz,vh,vc,vo]∧AtX H vt dt∧AtX H vz dz∧AtX H vh dh∧AtX H vc dc∧AtX H vo dor∧(qbe dt=none→dt=ybv T∧okT T)∧due=qgp T dt dz dh dc dor
noncomputable def qho (C CT C2 CM CO:Addr):Sp:=fun vs H Q E=>∃ T due,RunX C CT C2 CM CO H vs T due∧
 (due="told"→∀ (D:Addr) (tv:List V) (R:List (List V)) (H':Hp),Same H H'→H' D=some (.lst tv)→FT H' tv R→(∀ x∈R,RowOk T x)→(∃ dt,AtX H (vs.getD 0 .non) dt∧dt=ybv T)→Q (.ref D) H')∧(∀ a H',Same H H'→DueX H' a CT C2 CM CO due→E (.ref a) none H')
theorem og_reads {CT C2 CM' CO:Addr} (ycr:HasX P w K mg base 5 "look_at_test" ["thing"] (yiv CT)) (hx_Memory:qln P w K mg base C 9 "Memory" ["self","size","harms","contents"] (yls C C2 CM')) (yb7:HasX P w K mg base 4 "look_at_orders" ["test","thing"] (yex CO)) (qec:Has P w K mg base 7 "all_reads" ["test","memory","orders"] (qdr C)) (F:FnAt K mg "reads_of" ydw ["test","size","harms","contents","orders"]):HasX P w K mg base 11 "reads_of" ["test","size","harms","contents","orders"] (qho C CT C2 CM' CO):=by
 refine HasX.of F ygm (fun vs H Q E h=>?_) (fun f cdv A outer s H vs Q E hr h=>?_)
 ·obtain ⟨T,due,⟨vt,vz,vh,vc,vo,dt,dz,dh,dc,dor,rfl,_⟩,_⟩:=h
  rfl
 ·obtain ⟨T,due,⟨vt,vz,vh,vc,vo,dt,dz,dh,dc,dor,rfl,ht0,hz,hh,hc,hO0,hT,hdue⟩,k,kx⟩:=h
  have sc:=ygm
  refine ⟨_,(yam rfl (qad (ya8 (qab (qcd ycr ygw hr (qaa (pv 0) yab))))
   (qad (yaq (i:=5) sc.nd rfl (Or.inl rfl) (qe_makeX hx_Memory ygw hr (yak (qab (pv 1)) (yak (qab (pv 2)) (yak (qab (pv 3)) qaf)))))
   (qad (ya8 (qab (qcd yb7 ygw hr (qaa (pv 0) (qaa (pv 4) yab)))))
   (qag (qas (qaq qec hr (yak (qab (pv 0)) (yak (qab (pv 5)) (yak (qab (pv 4)) qaf)))))))))),?_⟩
  refine ⟨_,rfl,vt,dt,rfl,ht0,fun hb H1 s1=>?_,fun b hb a H' s' xa=>kx a H' s' (.inl ⟨by rw[hdue];unfold qgp;rw[if_pos (some_of hb)],_,xa⟩)⟩
  obtain ⟨rfl,okt⟩:=hT hb
  have ht:At H vt (ybv T):=by
   rcases ht0 with h|⟨e,_⟩
   ·exact h
   ·cases e
  obtain ⟨t,_,rfl,_⟩:=id ht.lstEq
  unfold qgp at hdue
  rw[if_neg (none_of hb)] at hdue
  refine ⟨_,rfl,_,rfl,_,rfl,?_⟩
  intro x dx nx ndx nxd
  have sD:=((Same.refl H1).upd (o:=.own x) ndx).upd (o:=.ins C dx []) (p:=x) (by rw[yai (fun z=>nxd z.symm)];exact nx)
  have fD:upd (upd H1 dx (.own x)) x (.ins C dx []) x=some (.ins C dx []):=yaa
  revert sD fD
  generalize upd (upd H1 dx (.own x)) x (.ins C dx [])=HD
  intro sD fD
  have s1D:=s1.trans sD
  cases hhb:yat dh with
  | some b=>
   rw[if_pos (some_of hhb)] at hdue
   exact .inr ⟨x,vz,vh,vc,dz,dh,dc,rfl,hz.same s1D,hh.same s1D,hc.same s1D,fun z=>(by rw[hhb] at z;cases z),fun z=>(by rw[hhb] at z;cases z),fun b' _ a H' s' xa=>kx a H' (s1D.trans s') (.inr (.inl ⟨hdue,_,xa⟩))⟩
  | none=>
   rw[if_neg (none_of hhb)] at hdue
   cases hm:ydd dz dh dc with
   | false=>
    rw[hm] at hdue
    exact .inr ⟨x,vz,vh,vc,dz,dh,dc,rfl,hz.same s1D,hh.same s1D,hc.same s1D,fun _=>hm,fun _ a H' s' xa=>kx a H' (s1D.trans s') (.inr (.inr (.inl ⟨hdue,xa⟩))),fun b z=>(by rw[hhb] at z;cases z)⟩
   | true=>
    rw[hm] at hdue
    obtain ⟨L0,us,hs,S,C0,cs,rfl,rfl,rfl,hL,hv,ok,ir,hC0,hbt,h1,hn⟩:=mem_good (hz.same s1D) (hh.same s1D) (hc.same s1D) hhb hm
    refine .inl ⟨x,dx,L0,C0,us,hs,S,cs,rfl,fD,hL,hv,ok,ir,hC0,hbt,h1,hn,fun L Cc HE stE nL nCc mo=>⟨rfl,?_⟩⟩
    have sE:Same H HE:=fun b u e=>stE b u (fun z=>by subst z;have:=s1 _ _ e;rw[nx] at this;cases this) (s1D _ _ e)
    refine ⟨_,rfl,_,rfl,t,vo,T,dor,rfl,ht.same sE,okt,hO0.same sE,fun ho H3 s3=>?_,fun ho a H' s' xa=>kx a H' (sE.trans s') (.inr (.inr (.inr ⟨by rw[hdue,ho];rfl,xa⟩)))⟩
    obtain ⟨O,os,rfl,hO,oo⟩:=yj1 hO0 ho
    have s03:=sE.trans s3
    have nC:H Cc=none:=s1D.free nCc
    have hsl:=qgt hs cs
    refine ⟨_,rfl,_,rfl,_,rfl,t,x,O,L,Cc,T,os,us,hs,yge hs cs,rfl,ht.same s03,okt,mo.same s3,by rw[hsl];exact ir,by rw[hsl];exact hn,s03 _ _ hO,oo,fun D tv H4 u4 hD nDC e4 ft4=>?_⟩
    exact k (by rw[hdue,ho];rfl) D tv _ H4 (fun b u e=>u4.st _ _ (yae e nC) (s03 _ _ e)) e4 ft4 (yf0 hs os _ T.length (Nat.le_refl _)) ⟨_,ht0,rfl⟩
noncomputable def qh4 (C CT C2 CM CO:Addr):Sp:=fun vs H Q E=>∃ T due,RunX C CT C2 CM CO H vs T due∧(due="told"→∀ (v:V) (H':Hp),Same H H'→Q v H')∧(∀ a H',Same H H'→DueX H' a CT C2 CM CO due→E (.ref a) none H')
theorem yl0 {CT C2 CM' CO:Addr} (yke:HasX P w K mg base 11 "reads_of" ["test","size","harms","contents","orders"] (qho C CT C2 CM' CO)) (F:FnAt K mg "first_shown" ycc ["test","size","harms","contents","orders"]):HasX P w K mg base 12 "first_shown" ["test","size","harms","contents","orders"] (qh4 C CT C2 CM' CO):=by
 refine HasX.of F yd7 (fun vs H Q E h=>?_) (fun f cdv A outer s H vs Q E hr h=>?_)
 ·obtain ⟨T,due,⟨vt,vz,vh,vc,vo,dt,dz,dh,dc,dor,rfl,_⟩,_⟩:=h
  rfl
 ·obtain ⟨T,due,⟨vt,vz,vh,vc,vo,dt,dz,dh,dc,dor,rfl,ht0,hz,hh,hc,hO0,hT,hdue⟩,k,kx⟩:=h
  have sc:=yd7
  refine ⟨_,(yam rfl (qad (ydf yeq rfl (yiy (qab (qcd yke ygw hr (qbv (pv 0) (qbv (pv 1) (qbv (pv 2) (qbv (pv 3) (qbv (pv 4) yab)))))))) (ydg rfl (qan (qak (i:=5) sc.nd rfl (Or.inl rfl)) (qan (qak (i:=6) sc.nd rfl (Or.inl rfl)) (qan (qak (i:=7) sc.nd rfl (Or.inl rfl)) (qan (qak (i:=8) sc.nd rfl (Or.inl rfl)) qbp)))))
    (qag (ya9 (qaz qgx (qab (pv 8)) (qa1 yap (qa1 qai (qa1 yap (qa1 qai (qab (pv 0)) (qab (pv 5)) (fun _ _=>rfl)) (qab qac) (fun _ _=>rfl)) (qab (pv 7)) (fun _ _=>rfl)) (qab qac) (fun _ _=>rfl)) (qaj _))
     (qag (qas (qcy (yak (qab (pv 5)) (yak (qab (pv 6)) (yak (qab (pv 7)) qaf))))))
     yaw)))
   (qag (qas (qab yb6))))),?_⟩
  refine ⟨_,rfl,_,rfl,_,rfl,_,rfl,_,rfl,T,due,⟨vt,vz,vh,vc,vo,dt,dz,dh,dc,dor,rfl,ht0,hz,hh,hc,hO0,hT,hdue⟩,fun hd D tv R H1 s1 e1 ft hrw hex=>?_,kx⟩
  have k:=k hd
  obtain ⟨dt',ht1,rfl⟩:=hex
  have ht:At H vt (ybv T):=by
   rcases ht1 with h|⟨e,_⟩
   ·exact h
   ·cases e
  obtain ⟨t,_,rfl,_⟩:=id ht.lstEq
  obtain ⟨ws,tx⟩:=TestAt.of ht
  refine ⟨D,rfl,⟨_,SqL.of e1⟩,ybj (xs:=tv) (fun i σ H2=>∃ (o5 o6 o7 o8:Option V),σ=[some (.ref t),some vz,some vh,some vc,some vo,o5,o6,o7,o8]∧Same H1 H2)
   ⟨none,none,none,none,rfl,Same.refl H1⟩ (fun i σ H2 _ ⟨_,_,_,_,_,h⟩=>SqL.of (h _ _ e1)) ?_ ?_⟩
  ·rintro i x σ H2 hx ⟨o5,o6,o7,o8,rfl,s2⟩
   obtain ⟨row,ra,hrow,rfl,hra⟩:=ft.get hx
   obtain ⟨j,p,a,b,e,sx,rfl,he,hse⟩:=hrw row (List.mem_of_getElem? hrow)
   have s12:=s1.trans s2
   obtain ⟨ea,el,sa,sw,g1,g2,g3,g4,g5⟩:=(tx.same s12).step he hse
   refine ⟨ra,_,rfl,SqT.of (s2 _ _ hra),rfl,_,_,rfl,_,_,rfl,_,_,rfl,_,_,rfl,rfl,?_⟩
   refine ⟨_,rfl,_,rfl,_,rfl,t,_,_,_,rfl,rfl,SqL.of (tx.same s12).l,ycu g1,ea,_,_,_,rfl,rfl,SqT.of g2,yad 1 rfl,_,rfl,el,_,_,_,rfl,rfl,SqL.of g3,ycu g4,sa,_,_,_,rfl,rfl,SqT.of g5,yad 1 rfl,rfl,_,rfl,?_⟩
   by_cases hbe:b=b2i sx.2
   ·refine iteN (by simp[hbe]) ?_
    exact ⟨_,_,_,_,rfl,s2⟩
   ·refine iteB (by simp[hbe]) ?_
    exact ⟨_,rfl,_,rfl,_,rfl,(by show 3≤sizeLine;decide),fun q hq=>k _ _ (s12.upd hq)⟩
  ·rintro σ H2 ⟨o5,o6,o7,o8,rfl,s2⟩
   exact k _ _ (s1.trans s2)
end
structure KX (K:PySem.W.Frag) (c:Nat→Addr) (cM:Addr) (j:Nat):Prop where
 lt:j<13
 ty:XTy K (c j)
 one:∀ i,i<13→PySem.W.kitOne K (.ref (c j)) (.ref (c i))=some (decide (i=j))
 ve:PySem.W.kitOne K (.ref (c j)) (.type "ValueError")=some true
 em:PySem.W.exmOne K (.ref (c j)) (.ref cM)=some true
theorem yhw {K:PySem.W.Frag}{c:Nat→Addr}{cM:Addr}{H:Hp}{a:Addr}{due:Str} (k0:KX K c cM 0) (k2:KX K c cM 2) (k3:KX K c cM 3) (k6:KX K c cM 6) (h:DueX H a (c 0) (c 2) (c 3) (c 6) due):∃ j fs,KX K c cM j∧XAt H a (c j) fs∧kinds.getD j "" = due:=by
 rcases h with ⟨rfl,fs,xa⟩|⟨rfl,fs,xa⟩|⟨rfl,xa⟩|⟨rfl,xa⟩
 ·exact ⟨0,fs,k0,xa,by decide +kernel⟩
 ·exact ⟨2,fs,k2,xa,by decide +kernel⟩
 ·exact ⟨3,_,k3,xa,by decide +kernel⟩
 ·exact ⟨6,_,k6,xa,by decide +kernel⟩
theorem due_told {K:PySem.W.Frag}{c:Nat→Addr}{cM:Addr}{H:Hp}{a:Addr}{due:Str} (h:DueX H a (c 0) (c 2) (c 3) (c 6) due):due≠"told":=by
 rcases h with ⟨rfl,_⟩|⟨rfl,_⟩|⟨rfl,_⟩|⟨rfl,_⟩<;>decide +kernel
section
variable {P:Program}{w:World}{K:PySem.W.Frag}{mg:Str→Option Value}{base:Heap}{C:Addr}
noncomputable def yjy (C:Addr):Sp:=fun vs H Q _=>∃ (way:Nat) (p m L Cc:Addr) (vt vz vh vc vo:V) (dt dz dh dc dor:PyData) (T:List Elm) (us:List V) (hs:List Hm) (cs:List Int),vs=[.int way,.ref p,.ref m]∧way<3∧H p=some (.lst [vt,vz,vh,vc,vo])∧AtX H vt dt∧AtX H vz dz∧AtX H vh dh∧AtX H vc dc∧AtX H vo dor∧(qbe dt=none→dt=ybv T∧okT T)∧
 MemO H C m L Cc us hs cs∧InR hs cs.length∧cs.length≤64∧(way<2→∀ H',Same H H'→Q (.str (qgp T dt dz dh dc dor)) H')∧(way=2→qcs T dt dor="told"→∀ H' ds,UpC H Cc ds H'→Q (.str "told") H')∧(way=2→qcs T dt dor≠"told"→∀ H',Same H H'→Q (.str (qcs T dt dor)) H')
noncomputable abbrev qc3:Stmt:=top 80
theorem yff:FnScope ["_law_way","_law_things","_law_memory","_law_caught","_law_found","_law_e"] ["_law_way","_law_things","_law_memory"] (yac qc3):=⟨rfl,rfl,rfl,by decide +kernel,rfl,by decide +kernel,by decide +kernel⟩
theorem og_ltold {c:Nat→Addr}{cM:Addr} (B:Bl mg) (gm:mg "MarchError" = some (.ref cM)) (k0:KX K c cM 0) (k2:KX K c cM 2) (k3:KX K c cM 3) (k6:KX K c cM 6) (yi7:Has P w K mg base 1 "_law_kind" ["_law_e"] (yla K c))
  (h_run_on:HasX P w K mg base 8 "run_on" ["test","memory","orders"] (qir C (c 0) (c 2) (c 3) (c 6))) (h_reads:HasX P w K mg base 11 "reads_of" ["test","size","harms","contents","orders"] (qho C (c 0) (c 2) (c 3) (c 6))) (h_shown:HasX P w K mg base 12 "first_shown" ["test","size","harms","contents","orders"] (qh4 C (c 0) (c 2) (c 3) (c 6)))
  (F:FnAt K mg "_law_told" qc3 ["_law_way","_law_things","_law_memory"]):Has P w K mg base 13 "_law_told" ["_law_way","_law_things","_law_memory"] (yjy C):=by
 obtain ⟨f0,fd0,g0,kp0,b0,F0⟩:=h_reads
 obtain ⟨f1,fd1,g1,kp1,b1,F1⟩:=h_shown
 refine Has.ofQ F yff (fun vs H Q E h=>?_) (fun f cdv A outer s H vs Q E hr h=>?_)
 ·obtain ⟨way,p,m,L,Cc,vt,vz,vh,vc,vo,dt,dz,dh,dc,dor,T,us,hs,cs,rfl,_⟩:=h
  rfl
 ·obtain ⟨way,p,m,L,Cc,vt,vz,vh,vc,vo,dt,dz,dh,dc,dor,T,us,hs,cs,rfl,hw,hp,at',az,ah,ac,ao,hT,mo,ir,hn,q1,q2,q3⟩:=h
  have sc:=yff
  refine ⟨_,(yam rfl (qad (yaq (i:=3) sc.nd rfl (Or.inl rfl) (qab yb6))
   (qad (yaq (i:=4) sc.nd rfl (Or.inl rfl) (qab yb6))
   (qad (qee (ps_try (iy:=3) (jn:=5) (fun _ _ z=>z) rfl rfl (psx_if (fun _ _ z=>z) (qao qa6 (pv 0) qac (qaj _)) (yly (i:=4) sc.nd rfl (Or.inl rfl) (pex_call (fun _ _ z=>z) h_run_on hr (qaa (yan qai (pv 1) qac (fun _ _=>rfl)) (qaa (pv 2) (qaa (yan qai (pv 1) qac (fun _ _=>rfl)) yab))))) (yly (i:=4) sc.nd rfl (Or.inl rfl) (ql3 (fun _ _ z=>z) hr (yan qai (ybc (qaa (ya1 (v:=.ref f0) rfl g0 rfl) (qaa (ya1 (v:=.ref f1) rfl g1 rfl) yab))) (pv 0) (fun _ _=>rfl)) (qaa (yan qai (pv 1) qac (fun _ _=>rfl)) (qaa (yan qai (pv 1) qac (fun _ _=>rfl)) (qaa (yan qai (pv 1) qac (fun _ _=>rfl)) (qaa (yan qai (pv 1) qac (fun _ _=>rfl)) (qaa (yan qai (pv 1) qac (fun _ _=>rfl)) yab)))))))) sc.nd rfl rfl rfl (Or.inl rfl) (by decide) rfl gm))
   (qad (ya9 (qt_of (yh5 (yja (pv 3))))
    (qag (qas (qaq yi7 hr (yak (qab (pv 3)) qaf))))
    yaw)
   (qag (qas (qj0 (QW.pt (qlx (qaz qa6 (qab (pv 0)) (qab qac) (qaj _)) (yj2 (ycg (ybf qa3 rfl (B.of rfl) boot_isinstance (yak (qab (pv 4)) (yak (qab (qbb (v:=.ty "list") rfl (B.of rfl) boot_list rfl)) qaf))))))) (qab yaj) (qab yaj))))))))),?_⟩
  refine ⟨_,rfl,rfl,_,rfl,?_⟩
  by_cases h2:way=2
  ·subst h2
   refine iteB (by decide) ?_
   refine ⟨_,rfl,p,_,_,_,rfl,rfl,SqL.of (hp),yad 0 rfl,_,rfl,_,rfl,p,_,_,_,rfl,rfl,SqL.of (hp),yad 4 rfl,vt,vo,m,L,Cc,dt,dor,T,us,hs,cs,rfl,at',hT,ao,mo,ir,hn,fun hd D ws ds H' u e=>?_,fun a H' s' due=>⟨a,rfl,?_⟩⟩
   ·refine ⟨_,rfl,_,rfl,iteN (by simp) ?_⟩
    refine ⟨_,rfl,rfl,_,rfl,iteN (by decide) ?_⟩
    refine ⟨_,rfl,_,_,_,_,rfl,.lst e,rfl,_,rfl,iteB rfl ?_⟩
    exact q2 rfl hd H' ds u
   ·have hd:=due_told (K:=K) (cM:=cM) due
    obtain ⟨j,fs,kx,xa,ek⟩:=yhw k0 k2 k3 k6 due
    refine ⟨a,c j,fs,rfl,xa,kx.em,?_⟩
    refine ⟨_,rfl,_,rfl,iteB (by simp) ?_⟩
    refine ⟨_,rfl,a,c j,fs,j,rfl,xa,kx.ty,kx.lt,kx.one,kx.ve,fun H3 s3=>?_⟩
    have:=q3 rfl hd H3 (s'.trans s3)
    rw[← ek] at this
    exact this
  refine iteN (decide_eq_false (fun z=>h2 (by have:=V.int.inj z;omega))) ?_
  have q9:=q1 (by omega)
  refine ⟨(by show 2≤sizeLine;decide),fun ll hll=>?_⟩
  have s1:Same H (upd H ll (.lst [.ref f0,.ref f1])):=(Same.refl H).upd hll
  have e1:upd H ll (.lst [.ref f0,.ref f1]) ll=some (.lst [.ref f0,.ref f1]):=yaa
  revert s1 e1
  generalize upd H ll (.lst [.ref f0,.ref f1])=H1
  intro s1 e1
  have rx:RunX C (c 0) (c 2) (c 3) (c 6) H1 [vt,vz,vh,vc,vo] T (qgp T dt dz dh dc dor):=⟨vt,vz,vh,vc,vo,dt,dz,dh,dc,dor,rfl,at'.same s1,az.same s1,ah.same s1,ac.same s1,ao.same s1,hT,rfl⟩
  rcases (by omega:way=0∨way=1) with rfl|rfl
  ·refine ⟨_,rfl,ll,_,_,_,rfl,rfl,SqL.of e1,yad 0 rfl,f0,rfl,kp0,_,rfl,p,_,_,_,rfl,rfl,SqL.of (s1 _ _ hp),yad 0 rfl,_,rfl,p,_,_,_,rfl,rfl,SqL.of (s1 _ _ hp),yad 1 rfl,_,rfl,p,_,_,_,rfl,rfl,SqL.of (s1 _ _ hp),yad 2 rfl,_,rfl,p,_,_,_,rfl,rfl,SqL.of (s1 _ _ hp),yad 3 rfl,_,rfl,p,_,_,_,rfl,rfl,SqL.of (s1 _ _ hp),yad 4 rfl,11,fd0,_,_,by decide,b0,F0,T,_,rx,fun hd D tv R H' s' e ft _ _=>?_,fun a H' s' due=>⟨a,rfl,?_⟩⟩
   ·refine ⟨_,rfl,_,rfl,iteN (by simp) ?_⟩
    refine ⟨_,rfl,rfl,_,rfl,iteN (by decide) ?_⟩
    refine ⟨_,rfl,_,_,_,_,rfl,.lst e,rfl,_,rfl,iteB rfl ?_⟩
    have:=q9 H' (s1.trans s')
    rw[hd] at this
    exact this
   ·obtain ⟨j,fs,kx,xa,ek⟩:=yhw k0 k2 k3 k6 due
    refine ⟨a,c j,fs,rfl,xa,kx.em,?_⟩
    refine ⟨_,rfl,_,rfl,iteB (by simp) ?_⟩
    refine ⟨_,rfl,a,c j,fs,j,rfl,xa,kx.ty,kx.lt,kx.one,kx.ve,fun H3 s3=>?_⟩
    have:=q9 H3 ((s1.trans s').trans s3)
    rw[← ek] at this
    exact this
  ·refine ⟨_,rfl,ll,_,_,_,rfl,rfl,SqL.of e1,yad 1 rfl,f1,rfl,kp1,_,rfl,p,_,_,_,rfl,rfl,SqL.of (s1 _ _ hp),yad 0 rfl,_,rfl,p,_,_,_,rfl,rfl,SqL.of (s1 _ _ hp),yad 1 rfl,_,rfl,p,_,_,_,rfl,rfl,SqL.of (s1 _ _ hp),yad 2 rfl,_,rfl,p,_,_,_,rfl,rfl,SqL.of (s1 _ _ hp),yad 3 rfl,_,rfl,p,_,_,_,rfl,rfl,SqL.of (s1 _ _ hp),yad 4 rfl,12,fd1,_,_,by decide,b1,F1,T,_,rx,fun hd v H' s'=>?_,fun a H' s' due=>⟨a,rfl,?_⟩⟩
   ·refine ⟨_,rfl,_,rfl,iteN (by simp) ?_⟩
    refine ⟨_,rfl,rfl,_,rfl,iteB (by decide) (iteT ?_)⟩
    have:=q9 H' (s1.trans s')
    rw[hd] at this
    exact this
   ·obtain ⟨j,fs,kx,xa,ek⟩:=yhw k0 k2 k3 k6 due
    refine ⟨a,c j,fs,rfl,xa,kx.em,?_⟩
    refine ⟨_,rfl,_,rfl,iteB (by simp) ?_⟩
    refine ⟨_,rfl,a,c j,fs,j,rfl,xa,kx.ty,kx.lt,kx.one,kx.ve,fun H3 s3=>?_⟩
    have:=q9 H3 ((s1.trans s').trans s3)
    rw[← ek] at this
    exact this
end
noncomputable def smB (d:PyData):Bool:=d.showable&&(decide (d.depth≤1)&&(d.leavesShort 40&&decide (d.bulk≤20)))
theorem qfi {d:PyData} (h:smB d=true):Sm 1 20 d:=by
 unfold smB at h
 simp only[Bool.and_eq_true] at h
 exact ⟨h.1,of_decide_eq_true h.2.1,h.2.2.1,of_decide_eq_true h.2.2.2⟩
noncomputable def odd7:List PyData:=[.str "any",.str "Up",.none,.bool true,.list [.str "up"],.str "",.int 0]
noncomputable def qbc (os:List Str):List PyData:=os.map PyData.str
theorem qfq {H:Hp}:∀ (os:List Str),AtAll H (os.map V.str) (qbc os)
 | []=>.nil
 | o::r=>.cons (.str o) (qfq r)
noncomputable def midL (os:List Str) (a:Nat) (x:PyData):PyData:=.list ((qbc os).take a++[x]++(qbc os).drop (a+1))
noncomputable def ends (os:List Str):List PyData:=[.list (qbc os).dropLast,.list (qbc os++[.str "up"]),.tuple (qbc os),.none,.str "up",.dict []]
theorem yjn (e:Elm):∀ x∈odd7,ybm e x=false∧Sm 1 20 x:=by
 have h1:∀ x∈odd7,((match x with | .str s=>!inV (.str s) [.str "up",.str "down"]|_=>true)&&smB x)=true:=by decide +kernel
 intro x hx
 have h2:=h1 x hx
 rw[Bool.and_eq_true] at h2
 refine ⟨?_,qfi h2.2⟩
 cases x with
 | str s=>
  have h3:(!inV (.str s) [.str "up",.str "down"])=true:=h2.1
  show (inV (.str s) [.str "up",.str "down"]&&_)=false
  rw[show inV (.str s) [.str "up",.str "down"]=false by simpa using h3]
  rfl
 | _=>rfl
theorem mid_bad {T:List Elm}{os:List Str}{a:Nat}{e:Elm}{x:PyData} (ha:T[a]?=some e) (hx:ybm e x=false):ordB T (midL os a x)=false:=by
 show (decide (((qbc os).take a++[x]++(qbc os).drop (a+1)).length=T.length)&&(List.zipWith ybm T ((qbc os).take a++[x]++(qbc os).drop (a+1))).all id)=false
 by_cases hl:((qbc os).take a++[x]++(qbc os).drop (a+1)).length=T.length
 rotate_left
 ·rw[decide_eq_false hl];rfl
 rw[decide_eq_true hl,Bool.true_and,List.all_eq_false]
 have hal:=(List.getElem?_eq_some_iff.mp ha).1
 have hta:((qbc os).take a).length=a:=by
  rw[List.length_append,List.length_append,List.length_take,List.length_drop,List.length_singleton] at hl
  rw[List.length_take]
  omega
 refine ⟨false,?_,by simp⟩
 refine List.mem_of_getElem? (i:=a) ?_
 rw[List.getElem?_zipWith,ha,List.append_assoc,List.getElem?_append_right (by omega),hta,Nat.sub_self]
 show some (ybm e x)=some false
 rw[hx]
theorem ends_bad {T:List Elm}{os:List Str} (hl:os.length=T.length) (h1:1≤T.length):∀ d∈ends os,ordB T d=false:=by
 intro d hd
 have hlen:∀ {ds:List PyData},ds.length≠T.length→ordB T (.list ds)=false:=fun {ds} h=>by
  show (decide (ds.length=T.length)&&_)=false
  rw[decide_eq_false h]
  rfl
 simp only[ends,List.mem_cons,List.not_mem_nil,or_false] at hd
 rcases hd with rfl|rfl|rfl|rfl|rfl|rfl
 ·exact hlen (by unfold qbc;rw[List.length_dropLast,List.length_map];omega)
 ·exact hlen (by unfold qbc;rw[List.length_append,List.length_map];simp;omega)
 all_goals rfl
theorem qe3 {T:List Elm}{os:List Str} (oo:OrdOk T os):∀ x∈qbc os,Sm 1 20 x:=by
 intro x hx
 obtain ⟨o,ho,rfl⟩:=List.mem_map.mp hx
 obtain ⟨i,hi⟩:=List.getElem?_of_mem ho
 have hil:=(List.getElem?_eq_some_iff.mp hi).1
 have hil2:i<T.length:=by have:=oo.len;omega
 have:=(oo.at_ i T[i] o (List.getElem?_eq_getElem hil2) hi).1
 rcases this with rfl|rfl<;>exact qfi (by decide +kernel)
theorem mid_sm {T:List Elm}{os:List Str} (oo:OrdOk T os) (h8:T.length≤8) {a:Nat}{x:PyData} (hx:Sm 1 20 x):Sm 4 2000 (midL os a x):=by
 have hl:(qbc os).length≤8:=by unfold qbc;rw[List.length_map,oo.len];exact h8
 refine (Sm.list (n:=17) (D:=1) (B:=20) (fun y hy=>?_) ?_).mono
 ·rcases List.mem_append.mp hy with hy|hy
  ·rcases List.mem_append.mp hy with hy|hy
   ·exact qe3 oo y (List.mem_of_mem_take hy)
   ·rw[List.mem_singleton.mp hy];exact hx
  ·exact qe3 oo y (List.mem_of_mem_drop hy)
 ·rw[List.length_append,List.length_append,List.length_take,List.length_drop];simp;omega
theorem ends_sm {T:List Elm}{os:List Str} (oo:OrdOk T os) (h8:T.length≤8):∀ d∈ends os,Sm 4 2000 d:=by
 intro d hd
 have hl:(qbc os).length≤8:=by unfold qbc;rw[List.length_map,oo.len];exact h8
 simp only[ends,List.mem_cons,List.not_mem_nil,or_false] at hd
 rcases hd with rfl|rfl|rfl|rfl|rfl|rfl
 ·exact (Sm.list (n:=9) (D:=1) (B:=20) (fun y hy=>qe3 oo y (List.dropLast_subset _ hy)) (by rw[List.length_dropLast];omega)).mono
 ·exact (Sm.list (n:=9) (D:=1) (B:=20) (fun y hy=>by
   rcases List.mem_append.mp hy with hy|hy
   ·exact qe3 oo y hy
   ·rw[List.mem_singleton.mp hy];exact qfi (by decide +kernel)) (by simp;omega)).mono
 ·exact (Sm.tuple (n:=9) (D:=1) (B:=20) (qe3 oo) (by omega)).mono
 all_goals exact (qfi (by decide +kernel)).mono
section
variable {K:PySem.W.Frag}{σ:L2.St}{H:Hp}{te tn:TE}{d:PyData}{ds:List PyData}{L:List Addr}
theorem layx_ret {KK:Ends} (hL:∀ b∈L,H b≠none) (h:LayX L te σ d H) (k:∀ v H',Same H H'→AtX (qap H' L) v d→KK.rt v H'):tRet te KK σ H:=
 h hL H (Same.refl H) _ k
theorem lay_setL {i:Nat}{rest:TS}{KK:Ends} (h:Lay L te σ d H) (hL:∀ b∈L,H b≠none) (k:∀ v H',Same H H'→At (qap H' L) v d→rest KK (σ.set i (some v)) H'):tSeq (tAsg te (qgl i)) rest KK σ H:=h hL H (Same.refl H) _ k
theorem layl_set {i:Nat}{rest:TS}{KK:Ends} (h:LayL L te σ ds H) (hL:∀ b∈L,H b≠none) (k:∀ a vs H',Same H H'→qap H' L a=some (.lst vs)→AllX (qap H' L) vs ds→rest KK (σ.set i (some (.ref a))) H'):tSeq (tAsg te (qgl i)) rest KK σ H:=h hL H (Same.refl H) _ k
theorem lay_init (h1:Lay L te σ (.list ds) H):Lay L (tSl (rSlL K) te qgn (yl1 (tUn (rU fun i=>V.int (-i)) (tC (.int 1))))) σ (.list ds.dropLast) H:=fun hL H1 s Q k=>
 h1 hL H1 s _ fun v H2 s2 a2=>⟨1,rfl,-1,rfl,by
  obtain ⟨a,vs,rfl,ha,hw⟩:=a2.lstEq
  refine ⟨a,vs,rfl,SqL.of (qal _ _ _ _ ha),fun p hp=>k _ _ (s2.upd hp) ?_⟩
  rw[cut_init]
  have:AtAll (qap H2 L) vs.dropLast ds.dropLast:=by
   rw[List.dropLast_eq_take,List.dropLast_eq_take,hw.length]
   exact hw.take _
  exact qeb hL (s.trans s2) hp this⟩
end
section
variable {P:Program}{w:World}{K:PySem.W.Frag}{mg:Str→Option Value}{base:Heap}
noncomputable def yle:Sp:=fun vs H Q _=>∃ (Tl:List Addr) (t O dd:Addr) (T:List Elm) (os:List Str) (x y:Int),vs=[.ref t,.ref O,.ref dd]∧(∀ b∈Tl,H b≠none)∧At H (.ref t) (ybv T)∧okT T∧qap H Tl O=some (.lst (os.map V.str))∧OrdOk T os∧H dd=some (.lst [.int x,.int y])∧0≤x∧0≤y∧
 ∀ v d H',Same H H'→AtX (qap H' Tl) v d→ordB T d=false→Sm 4 2000 d→Q v H'
noncomputable abbrev qbm:Stmt:=top 81
theorem ycn:FnScope ["_law_test_here","_law_orders_here","_law_d","_law_at","_law_other","_law_some","_law_things"] ["_law_test_here","_law_orders_here","_law_d"] (yac qbm):=⟨rfl,rfl,rfl,by decide +kernel,rfl,by decide +kernel,by decide +kernel⟩
theorem og_oddo (B:Bl mg) (F:FnAt K mg "_law_odd_orders" qbm ["_law_test_here","_law_orders_here","_law_d"]):Has P w K mg base 1 "_law_odd_orders" ["_law_test_here","_law_orders_here","_law_d"] yle:=by
 refine Has.ofQ F ycn (fun vs H Q E h=>?_) (fun f cdv A outer s H vs Q E hr h=>?_)
 ·obtain ⟨Tl,t,O,dd,T,os,x,y,rfl,_⟩:=h
  rfl
 ·obtain ⟨Tl,t,O,dd,T,os,x,y,rfl,hTl,ht,okt,hOh,oo,hdd,x0,y0,q⟩:=h
  have hO:H O=some (.lst (os.map V.str)):=qal _ _ _ _ hOh
  have hT2:∀ {H2:Hp},Same H H2→∀ b∈Tl,H2 b≠none:=fun s b hb z=>hTl b hb (s.free z)
  have h1:=okt.1
  have h8:=okt.2.1
  have hol:=oo.len
  have sc:=ycn
  refine ⟨_,(yam rfl (qad (yaq (i:=3) sc.nd rfl (Or.inr rfl) (qcj qdh (qa1 qai (qab (pv 2)) (qab qac) (fun _ _=>rfl)) (ybf yag rfl (B.of rfl) boot_len (yak (qab (pv 1)) qaf))))
   (qad (yaq (i:=4) sc.nd rfl (Or.inl rfl) (qa1 qai (yau (yar (qab yaj) (yar (qab yaj) qaf))) (qbh qio rfl (B.of rfl) boot_int (qa_cp (ymm qa6 (qa1 qai (qab (pv 1)) (qab (pv 3)) (fun _ _=>rfl)) (qab yaj) (qaj _)) qaf)) (fun _ _=>rfl)))
   (qad (yaq (i:=5) sc.nd rfl (Or.inl rfl) (yau (yar (qab yaj) (yar (qab yaj) (yar (qab yb6) (yar (qab qgu) (yei (yau (yar (qab yaj) qaf)) (yar (qab yaj) (yar (qab qac) qaf)))))))))
   (qgs (ya9 (qaz qgx (qa1 yap (qa1 qai (qab (pv 0)) (qab (pv 3)) (fun _ _=>rfl)) (qab qac) (fun _ _=>rfl)) (qab yaj) (qaj _))
    (qag (yaq (i:=5) sc.nd rfl (Or.inl rfl) (qcj yc0 (qab (pv 5)) (qcj yfc (yau (yak (qab (pv 4)) qaf)) (qab qac)))))
    yaw)
   (qad (qee (yl3 (i:=6) rfl sc.nd rfl (Or.inl rfl) rfl (qa8 rfl) (M:=["_law_one","_law_orders_here","_law_at"]) (ix:=[none,some 1,some 3]) (qbo (pv 5)) (fun _ _ _ _=>(qak (i:=0) (show List.Nodup (["_law_one","_law_orders_here","_law_at"]:List Str) by decide +kernel) rfl (Or.inl rfl))) (fun _ _ _ _=>yda) (fun _ _ _ _=>(qa7 yc0 (qa7 yc0 (ybs (qhe (K:=K) rfl) (pv 1) ych (qbi (pv 2))) (ybc (qaa (pv 0) yab))) (ybs (qhe (K:=K) rfl) (pv 1) (qbi (qa7 yb0 (pv 2) qac)) ych)))))
   (qad (yaq (i:=6) sc.nd rfl (Or.inl rfl) (qcj yc0 (qab (pv 6)) (yau (yd1 (qe_sl ydn (qab (pv 1)) ych (qbi (pe_un yjj qac))) (qiu (qcj yc0 (qab (pv 1)) (yau (yar (qab yaj) qaf))) (yl9 (qbh yer rfl (B.of rfl) boot_tuple (yak (qab (pv 1)) qaf)) (yar (qab yb6) (yar (qab yaj) (qi0 (qab qjq) qaf)))))))))
   (qag (qas (qa1 qai (qab (pv 6)) (qcj qdh (qa1 qai (qab (pv 2)) (qab qac) (fun _ _=>rfl)) (ybf yag rfl (B.of rfl) boot_len (yak (qab (pv 6)) qaf))) (fun _ _=>rfl))))))))))),?_⟩
  refine ⟨_,rfl,dd,_,_,_,rfl,rfl,SqL.of hdd,yad 0 rfl,_,rfl,O,_,rfl,.inl (SqL.of hO),_,_,rfl,rfl,(by show (0:Int)<((os.map V.str).length:Int);rw[List.length_map];omega),?_⟩
  obtain ⟨a,hat',hatl⟩:∃ k:Nat,x % ((os.map V.str).length:Int)=(k:Int)∧k<T.length:=by
   rw[List.length_map,hol]
   have h1:=Int.emod_nonneg x (b:=(T.length:Int)) (by omega)
   have h2:=Int.emod_lt_of_pos x (b:=(T.length:Int)) (by omega)
   exact ⟨(x % (T.length:Int)).toNat,by omega,by omega⟩
  show qgl 3 (V.int (x % ((os.map V.str).length:Int))) _ _ _
  rw[hat']
  refine gn ?_
  dsimp only
  obtain ⟨e,he⟩:∃ e,T[a]?=some e:=⟨T[a],List.getElem?_eq_getElem _⟩
  obtain ⟨o,ho⟩:∃ o,os[a]?=some o:=⟨os[a]'(by omega),List.getElem?_eq_getElem _⟩
  obtain ⟨ou,oe⟩:=oo.at_ a e o he ho
  obtain ⟨ot,hot,hob⟩:∃ ot:Str,atI [V.str "up",.str "down"] (if decide (V.str o=V.str "up") then 1 else 0)=some (.str ot)∧(e.1≠"any"→ybm e (.str ot)=false∧Sm 1 20 (.str ot)):=by
   rcases ou with rfl|rfl
   ·refine ⟨"down",by decide +kernel,fun hne=>⟨?_,qfi (by decide +kernel)⟩⟩
    have:e.1="up":=oe.resolve_left hne
    unfold ybm
    rw[this]
    decide +kernel
   ·refine ⟨"up",by decide +kernel,fun hne=>⟨?_,qfi (by decide +kernel)⟩⟩
    have:e.1="down":=oe.resolve_left hne
    unfold ybm
    rw[this]
    decide +kernel
  refine ⟨(by show 2≤sizeLine;decide),fun ud hud=>?_⟩
  have s1:Same H (upd H ud (.lst [.str "up",.str "down"])):=(Same.refl H).upd hud
  have e1:upd H ud (.lst [.str "up",.str "down"]) ud=some (.lst [.str "up",.str "down"]):=yaa
  revert s1 e1
  generalize upd H ud (.lst [.str "up",.str "down"])=H1
  intro s1 e1
  refine ⟨_,rfl,_,rfl,O,_,_,_,rfl,rfl,SqL.of (s1 _ _ hO),ycu (by rw[List.getElem?_map,ho];rfl),rfl,.inr ⟨_,rfl,ud,_,_,_,rfl,rfl,SqL.of e1,hot,?_⟩⟩
  refine gn ?_
  dsimp only
  refine lay_setL (L:=Tl) (d:=.list odd7) ?_ (hT2 s1) fun v5 H2 s2 a2=>?_
  ·unfold odd7
   repeat' (first|exact qe7|exact qjz|exact qga|exact yb1|exact yhb|exact ybu|refine yas ?_ ?_|refine qhk ?_|refine ybn ?_)
  have s12:=s1.trans s2
  refine ⟨fun σ' H3=>∃ (v:V) (sm:List PyData),σ'=[some (.ref t),some (.ref O),some (.ref dd),some (.int a),some (.str ot),some v,none]∧Same H H3∧At (qap H3 Tl) v (.list sm)∧sm.length≤11∧∀ x∈sm,ybm e x=false∧Sm 1 20 x,?_,?_⟩
  ·obtain ⟨lt,wt,hlt,hwt0,hwt⟩:=(ht.same s12).lstEq
   cases hlt
   have hwl:wt.length=T.length:=by have:=hwt.length;rw[List.length_map] at this;exact this
   obtain ⟨u,hu⟩:∃ u,wt[a]?=some u:=⟨wt[a]'(by omega),List.getElem?_eq_getElem _⟩
   obtain ⟨du,hdu,hatu⟩:=hwt.get hu
   rw[List.getElem?_map,he] at hdu
   cases hdu
   obtain ⟨ea,el,ew,rfl,hea,_,_⟩:=qf7 hatu
   refine ⟨_,rfl,_,rfl,t,_,_,_,rfl,rfl,SqL.of hwt0,ycu hu,ea,_,_,_,rfl,rfl,SqT.of hea,yad 0 rfl,rfl,_,rfl,?_⟩
   by_cases hany:e.1="any"
   ·refine iteN (by simp[hany]) ?_
    exact ⟨v5,odd7,rfl,s12,a2,by decide,yjn e⟩
   ·refine iteB (by simp[hany]) ?_
    refine yjh (L:=Tl) (d:=.list (odd7++(List.replicate 4 [PyData.str ot]).flatten)) ?_ (hT2 s12) fun v6 H3 s3 a3=>?_
    ·exact yfx (qb8 rfl a2) (qfx (n:=4) (ybn (yas (qb8 rfl (.str _)) ybu)) (by decide) (Nat.le_of_ble_eq_true rfl)) (Nat.le_of_ble_eq_true rfl)
    ·refine ⟨v6,_,rfl,s12.trans s3,a3,Nat.le_of_ble_eq_true rfl,fun z hz=>?_⟩
     rcases List.mem_append.mp hz with hz|hz
     ·exact yjn e z hz
     ·have:z=.str ot:=by simpa using hz
      rw[this]
      exact hob hany
  rintro _ H3 ⟨v,sm,rfl,s3,a3,sml,smb⟩
  obtain ⟨sl,sw,rfl,hsl,hsw⟩:=a3.lstEq
  have hsl3:H3 sl=some (.lst sw):=qal _ _ _ _ hsl
  have hswl:=hsw.length
  have hO3:=s3 _ _ hO
  refine ⟨_,rfl,sl,rfl,⟨_,SqL.of hsl3⟩,fun DD hDD=>qda (n:=sw.length) (fun i H'=>Same H3 H'∧Bld Tl H' DD ((sm.take i).map (midL os a))) ⟨(Same.refl H3).upd hDD,Bld.new⟩ ?_ ?_⟩
  rotate_left
  ·rintro i H4 hi ⟨s4,b4⟩
   refine ⟨⟨_,_,SqL.of (s4 _ _ hsl3),List.getElem?_eq_getElem hi⟩,?_⟩
   rintro z H5 ⟨rfl,hz⟩
   have hkeep:∀ {b:Addr}{o:HO},qap H3 Tl b=some o→qap H5 (DD::Tl) b=some o:=fun {b o} e=>by
    have e3:=qal _ _ _ _ e
    have hb:b∉DD::Tl:=by
     intro hm
     rcases List.mem_cons.mp hm with hm|hm
     ·rw[hm,hDD] at e3;cases e3
     ·rw[show qap H3 Tl b=none from if_pos hm] at e;cases e
    rw[ya2 hb]
    exact s4 _ _ e3
   obtain ⟨dx,hdx,hax⟩:=(hsw.same (H':=qap H5 (DD::Tl)) fun b o e=>hkeep e).get (hz _ (SqL.of (s4 _ _ hsl3)))
   refine ⟨ya6.set (ya6.refl _) rfl,yes ?_⟩
   obtain ⟨us,e4,hus⟩:=id b4
   have hul:=b4.len e4
   rw[List.length_map,List.length_take] at hul
   have hO5:At (qap H5 (DD::Tl)) (.ref O) (.list (qbc os)):=.lst (hkeep (qam s3 Tl _ _ hOh)) (qfq os)
   have hlen:(qbc os).length≤8:=by unfold qbc;rw[List.length_map];omega
   refine yjh (L:=DD::Tl) (d:=midL os a dx) ?_ (fun b hb=>by
    rcases List.mem_cons.mp hb with z|z
    ·rw[z,e4];intro z;cases z
    ·exact hT2 (s3.trans s4) b z) fun v4 H6 s6 a6=>?_
   ·refine yfx (yfx (lay_take (qb8 rfl hO5) (lay_nv rfl)) (ybn (yas (qb8 rfl hax) ybu)) ?_) (lay_drop (qb8 rfl hO5) (lay_ns rfl)) ?_
    ·simp only[List.length_take,List.length_cons,List.length_nil];omega
    ·simp only[List.length_append,List.length_take,List.length_drop,List.length_cons,List.length_nil];omega
   ·refine ⟨us,s6 _ _ e4,qb5 (by omega),(s4.trans s6).at hDD,?_⟩
    have:=(b4.grow s6).push (s6 _ _ e4) a6
    rw[List.take_add_one,hdx,List.map_append]
    exact this
  ·rintro H4 ⟨s4,b4⟩
   refine ⟨⟨_,SqL.of (s4 _ _ hsl3),Nat.le_refl _⟩,?_⟩
   rw[hswl,List.take_length] at b4
   have hDT:DD∉Tl:=fun z=>hT2 s3 DD z hDD
   have a4:=b4.at hDT
   have s34:=s3.trans s4
   have hO4:At (qap H4 Tl) (.ref O) (.list (qbc os)):=.lst (qam s34 Tl _ _ hOh) (qfq os)
   have hlen:(qbc os).length≤8:=by unfold qbc;rw[List.length_map];omega
   refine gn ?_
   dsimp only
   refine layl_set (L:=Tl) (ds:=sm.map (midL os a)++ends os) ?_ (hT2 s34) fun th tw H5 s5 e5 a5=>?_
   ·refine layl_cat (qi6 (qb8 rfl a4)) (qj3 ?_) (by rw[List.length_map];show _+6≤1000;omega)
    refine qb1 (qe6 (lay_init (qb8 rfl hO4))) (qb1 (qe6 (yfx (qb8 rfl hO4) (ybn (yas yb1 ybu)) ?_)) (qb1 (qe6 (yh9 (qb8 rfl hO4))) (qb1 (qe6 qe7) (qb1 (qe6 yb1) (qb1 qh2 yh6)))))
    simp only[List.length_cons,List.length_nil];omega
   have htl:tw.length=(sm.map (midL os a)++ends os).length:=a5.length
   have hpos:0<(tw.length:Int):=by rw[htl,List.length_append];show (0:Int)<((_+6:Nat):Int);omega
   have i0:=Int.emod_nonneg y (b:=(tw.length:Int)) (by omega)
   have i1:=Int.emod_lt_of_pos y (b:=(tw.length:Int)) hpos
   obtain ⟨dr,hdr⟩:∃ dr,(sm.map (midL os a)++ends os)[(y % (tw.length:Int)).toNat]?=some dr:=⟨_,List.getElem?_eq_getElem (by omega)⟩
   refine layx_ret (L:=Tl) (hT2 (s34.trans s5)) (d:=dr) (qhd (i:=y % (tw.length:Int)) (layl_var rfl e5 a5) (fun H6 s6 Q6 k6=>⟨_,rfl,dd,_,_,_,rfl,rfl,SqL.of (((s34.trans s5).trans s6) _ _ hdd),yad 1 rfl,_,rfl,th,_,rfl,.inl (SqL.of (s6 _ _ (qal _ _ _ _ e5))),_,_,rfl,rfl,hpos,k6⟩) i0 (by omega) hdr) fun v6 H6 s6 a6=>?_
   refine q v6 dr H6 ((s34.trans s5).trans s6) a6 ?_ ?_
   ·rcases List.mem_append.mp (List.mem_of_getElem? hdr) with hm|hm
    ·obtain ⟨z,hz,rfl⟩:=List.mem_map.mp hm
     exact mid_bad he (smb z hz).1
    ·exact ends_bad hol h1 dr hm
   ·rcases List.mem_append.mp (List.mem_of_getElem? hdr) with hm|hm
    ·obtain ⟨z,hz,rfl⟩:=List.mem_map.mp hm
     exact mid_sm oo h8 (smb z hz).2
    ·exact ends_sm oo h8 dr hm
end
section
variable {P:Program}{w:World}{K:PySem.W.Frag}{mg:Str→Option Value}{base:Heap}{C:Addr}
noncomputable def qil:Sp:=fun vs H Q _=>∃ (v:V) (T:List Elm) (c:Int),vs=[v,.int c]∧At H v (ybv T)∧okT T∧
 ∀ (p:Addr) (os:List Str) (H':Hp),Same H H'→H p=none→H' p=some (.lst (os.map V.str))→OrdOk T os→Q (.ref p) H'
noncomputable abbrev yb9:Stmt:=top 76
theorem qd3:FnScope ["_law_test_here","_law_cell","_law_d"] ["_law_test_here","_law_cell"] (yac yb9):=⟨rfl,rfl,rfl,by decide +kernel,rfl,by decide +kernel,by decide +kernel⟩
theorem qlp (B:Bl mg) (yba:Has P w K mg base 1 "_law_digits" ["_law_cell","_law_turn","_law_sizes"] ydj) (F:FnAt K mg "_law_orders" yb9 ["_law_test_here","_law_cell"]):Has P w K mg base 2 "_law_orders" ["_law_test_here","_law_cell"] qil:=by
 refine Has.of F qd3 (fun vs H Q E h=>?_) (fun f cdv A outer s H vs Q E hr h=>?_)
 ·obtain ⟨v,T,c,rfl,_⟩:=h
  rfl
 ·obtain ⟨v,T,c,rfl,hv,hT,k⟩:=h
  obtain ⟨l,ws,rfl,hl,hw⟩:=hv.lstEq
  have hlen:=hw.length
  rw[List.length_map] at hlen
  have hT8:=hT.2.1
  have sc:=qd3
  refine ⟨_,(yah (qa2 (i:=2) sc.nd rfl (Or.inr rfl) (qah yba hr (qaa (pv 1) (qaa qac (qaa (qa7 yfc (ybc (qaa qac yab)) qac) yab)))))
   (yaf (qat (yce rfl (qa8 rfl) (M:=["_law_k","_law_d","_law_test_here"]) (ix:=[none,some 2,some 0]) (ycd rfl (B.of rfl) (qaa (qae yag rfl (B.of rfl) boot_len (qaa (pv 0) yab)) yab)) (fun _ _ _ _=>(qak (i:=0) (show List.Nodup (["_law_k","_law_d","_law_test_here"]:List Str) by decide +kernel) rfl (Or.inl rfl))) (fun _ _ _ _=>yda) (fun _ _ _ _=>(yeu (qao qa6 (yan (yiz (K:=K) rfl) (yan (qfv (K:=K) rfl) (pv 2) (pv 0) (fun _ _=>rfl)) qac (fun _ _=>rfl)) yaj (qaj _)) (yan (qfv (K:=K) rfl) (ybc (qaa yaj (qaa yaj yab))) (yan (qfv (K:=K) rfl) (pv 1) (pv 0) (fun _ _=>rfl)) (fun _ _=>rfl)) (yan (yiz (K:=K) rfl) (yan (qfv (K:=K) rfl) (pv 2) (pv 0) (fun _ _=>rfl)) qac (fun _ _=>rfl)))))))),?_⟩
  refine ⟨_,rfl,(by show 1≤sizeLine;decide),fun a1 h1=>⟨a1,8,_,rfl,rfl,yaa,by decide,by decide,(by show 1*8≤sizeLine;decide),fun a2 h2=>?_⟩⟩
  generalize hB:upd (upd H a1 (.lst [.int 2])) a2 (.lst (List.replicate (8:Int).toNat [V.int 2]).flatten)=HB
  have sB:Same H HB:=by rw[← hB];exact ((Same.refl H).upd h1).upd h2
  have hB4:HB a2=some (.lst (([2,2,2,2,2,2,2,2]:List Int).map V.int)):=by rw[← hB];exact yaa
  refine ⟨c,61,a2,[2,2,2,2,2,2,2,2],rfl,hB4,by decide,by decide,by decide,by decide,fun dd ds HC sC nC hC hD=>?_⟩
  have sHC:Same H HC:=sB.trans sC
  refine ⟨_,rfl,l,ws,rfl,.inl (SqL.of (sHC _ _ hl)),_,rfl,by omega,by omega,fun D hD0=>?_⟩
  refine qda (n:=ws.length) (fun i H'=>∃ os:List Str,Same HC H'∧H' D=some (.lst (os.map V.str))∧os.length=i∧∀ (j:Nat) e o,T[j]?=some e→os[j]?=some o→okU o∧(e.1="any"∨e.1=o)) ⟨[],(Same.refl HC).upd hD0,yaa,rfl,fun j e o _ h=>by simp at h⟩ ?_ ?_
  ·rintro H' ⟨os,s1,e1,e2,e3⟩
   exact ⟨by show ((ws.length:Int)).toNat≤ws.length;omega,k D os H' (sHC.trans s1) (sHC.free hD0) e1 ⟨by omega,e3⟩⟩
  ·rintro i H' hi ⟨os,s1,e1,e2,e3⟩
   refine ⟨by show i<((ws.length:Int)).toNat;omega,?_⟩
   rintro x H2 ⟨rfl,rfl⟩
   have hwi:ws[i]?=some ws[i]:=by simp[hi]
   obtain ⟨d,hd,hat⟩:=hw.get hwi
   obtain ⟨e,he,hde⟩:=qby hd
   rw[hde] at hat
   obtain ⟨a,b,zs,hxe,ha,hb,hz⟩:=qf7 hat
   rw[hxe] at hwi
   have sH2:Same H H2:=sHC.trans s1
   obtain ⟨di,gi,gi0,gi1⟩:=hD.get (i:=i) (z:=2) (by
    have:i<8:=by omega
    rcases i with _|_|_|_|_|_|_|_|i<;>first|rfl|omega)
   refine ⟨ya6.set (ya6.refl _) rfl,?_⟩
   refine yes ?_
   have eix:atI ws (0+(i:Int))=some (.ref a):=by rw[Int.zero_add];exact ycu hwi
   refine ⟨_,rfl,_,rfl,l,ws,_,_,rfl,rfl,SqL.of (sH2 _ _ hl),eix,a,_,_,_,rfl,rfl,SqT.of (sH2 _ _ ha),rfl,rfl,_,rfl,?_⟩
   rw[dS]
   have snoc:∀ o:Str,okU o→(e.1="any"∨e.1=o)→∀ (j:Nat) e' o',T[j]?=some e'→(os++[o])[j]?=some o'→okU o'∧(e'.1="any"∨e'.1=o'):=fun o h1 h2 j e' o' hj ho'=>by
    by_cases hlt:j<os.length
    ·rw[List.getElem?_append_left hlt] at ho'
     exact e3 j e' o' hj ho'
    ·rw[List.getElem?_append_right (by omega)] at ho'
     have hj0:j-os.length=0:=by
      cases q:j-os.length with
      | zero=>rfl
      | succ n=>rw[q] at ho';simp at ho'
     rw[hj0] at ho'
     have e4:o=o':=by simpa using ho'
     have e5:j=i:=by omega
     subst e4 e5
     rw[he] at hj
     cases hj
     exact ⟨h1,h2⟩
   have oke:=(hT.2.2 e (List.mem_of_getElem? he)).1
   by_cases hany:e.1="any"
   ·refine iteD hany ?_
    refine ⟨(by show 2≤sizeLine;decide),fun r hr=>?_⟩
    have hdr:upd H2 r (.lst [.str "up",.str "down"]) dd=some (.lst (ds.map V.int)):=by rw[yai (yae (s1 _ _ hC) hr)];exact s1 _ _ hC
    have eid:atI (ds.map V.int) (0+(i:Int))=some (.int di):=by rw[Int.zero_add];exact ycu (ya7 gi)
    have two:∃ o:Str,okU o∧atI [V.str "up",.str "down"] di=some (.str o):=by
     have h:di=0∨di=1:=by omega
     rcases h with rfl|rfl
     ·exact ⟨_,.inl rfl,rfl⟩
     ·exact ⟨_,.inr rfl,rfl⟩
    obtain ⟨o,hou,ho⟩:=two
    refine ⟨_,rfl,_,rfl,dd,_,_,_,rfl,rfl,SqL.of hdr,eid,r,_,_,_,rfl,rfl,SqL.of yaa,ho,?_⟩
    refine ⟨os.map V.str,by rw[yai (yae e1 hr)];exact e1,qb5 (by rw[List.length_map];omega),os++[o],((s1.upd hr).at hD0),by rw[List.map_append];exact yaa,by simp[e2],snoc o hou (.inl hany)⟩
   ·refine ybe hany ?_
    refine ⟨_,rfl,_,rfl,l,ws,_,_,rfl,rfl,SqL.of (sH2 _ _ hl),eix,a,_,_,_,rfl,rfl,SqT.of (sH2 _ _ ha),rfl,?_⟩
    exact ⟨os.map V.str,e1,qb5 (by rw[List.length_map];omega),os++[e.1],s1.at hD0,by rw[List.map_append];exact yaa,by simp[e2],snoc e.1 (by rcases oke with h|h|h;exact .inl h;exact .inr h;exact absurd h hany) (.inr rfl)⟩
end
noncomputable def vD:V→PyData | .int i=>.int i | .str x=>.str x | .bl b=>.bool b|_=>.none
noncomputable def hmD (h:Hm):PyData:=.tuple (.str h.w::(h.c.map PyData.int++h.r.map vD))
theorem rest_at {H:Hp}{ns:List Str}{vs:List V} (h:Rest ns vs):AtAll H vs (vs.map vD):=by
 induction h with
 | nil=>exact .nil
 | bit hb _ ih=>obtain ⟨b,rfl⟩:=hb;exact .cons (.int _) ih
 | how hb _ ih=>rcases hb with rfl|rfl<;>exact .cons (.str _) ih
theorem hm_at {H:Hp}{v:V}{h:Hm}{ns:List Str} (x:HAt H v h) (ok:okH h ns):At H v (hmD h):=by
 obtain ⟨a,rfl,ha⟩:=x
 exact .tup ha (.cons (.str _) ((qhs h.c).append (rest_at ok.rest)))
theorem qkh {ns:List Str}{vs:List V} (h:Rest ns vs):ybi ns (vs.map vD)=true:=by
 induction h with
 | nil=>rfl
 | bit hb _ ih=>
  obtain ⟨b,rfl⟩:=hb
  show (yd2 "bit" (.int (b2i b))&&_)=true
  rw[ih]
  cases b<;>decide +kernel
 | how hb _ ih=>
  rcases hb with rfl|rfl
  ·show (yd2 "how" (.str "and")&&_)=true
   rw[ih]
   decide +kernel
  ·show (yd2 "how" (.str "or")&&_)=true
   rw[ih]
   decide +kernel
theorem yf7 {ns:List Str}{r:List PyData} (hr:ybi ns r=true):∀ (c:List Int),(∀ x∈c,0≤x∧x<64)→ybi (nmL c.length ns) (c.map PyData.int++r)=true
 | [],_=>hr
 | x::c,h=>by
  show (yd2 "cell" (.int x)&&ybi (nmL c.length ns) (c.map PyData.int++r))=true
  rw[yf7 hr c fun y hy=>h y (List.mem_cons_of_mem _ hy),Bool.and_true]
  unfold yd2
  rw[if_pos rfl]
  exact decide_eq_true (h x (List.mem_cons_self ..))
theorem yj8 {ns:List Str}{r:List V} (h:Rest ns r):∀ n∈ns,n="bit"∨n="how":=by
 induction h with
 | nil=>intro n hn;cases hn
 | bit _ _ ih=>
  intro n hn
  rcases List.mem_cons.mp hn with rfl|hn
  ·exact .inl rfl
  ·exact ih n hn
 | how _ _ ih=>
  intro n hn
  rcases List.mem_cons.mp hn with rfl|hn
  ·exact .inr rfl
  ·exact ih n hn
theorem qky {h:Hm}{ns:List Str} (ok:okH h ns):qbf h.w=h.c.length:=by
 have hk:KTD.inKeys h.w tabP=true:=by rw[← KTD.isSome_datumAt,ok.tab];rfl
 obtain ⟨ns',ht,_,hn'⟩:=qkp hk
 have hrest:=yj8 ok.rest
 have e:=ht.symm.trans ok.tab
 have e2:=Option.some.inj e
 have cnt:∀ (n:Nat) (ms:List Str),(∀ x∈ms,x="bit"∨x="how")→(qaw n ms).countP (fun v=>decide (v=V.str "cell"))=n:=fun n ms hm=>by
  unfold qaw
  rw[List.countP_append,List.countP_replicate,List.countP_eq_zero.mpr]
  ·simp
  ·intro v hv
   obtain ⟨x,hx,rfl⟩:=List.mem_map.mp hv
   rcases hm x hx with rfl|rfl<;>decide +kernel
 have h1:=cnt (qbf h.w) ns' hn'
 rw[e2,cnt _ ns hrest] at h1
 exact h1.symm
theorem qiq {h:Hm}{ns:List Str} (ok:okH h ns):yhz (hmD h)=true∧qf1 (hmD h)=h.c:=by
 have hk:KTD.inKeys h.w tabP=true:=by rw[← KTD.isSome_datumAt,ok.tab];rfl
 have hc:ybx (qbf h.w) (h.c.map PyData.int++h.r.map vD)=h.c:=by
  unfold ybx
  rw[qky ok,List.take_append_of_le_length (by simp),List.take_of_length_le (by simp),List.map_map]
  simp[Function.comp_def,intD]
 refine ⟨?_,hc⟩
 show (KTD.inKeys h.w tabP&&(ybi (nmOf h.w) (h.c.map PyData.int++h.r.map vD)&&decide (ybx (qbf h.w) (h.c.map PyData.int++h.r.map vD)).Nodup))=true
 rw[hk,hc,qje ok.tab,yf7 (qkh ok.rest) h.c ok.rg,decide_eq_true ok.nd]
 rfl
theorem HsV.cons {H:Hp}{u:V}{us:List V}{h:Hm}{hs:List Hm} (x:HsV H (u::us) (h::hs)):HAt H u h∧HsV H us hs:=
 ⟨x.at_ 0 u h rfl rfl,⟨by have:=x.len;simpa using this,fun i v g h1 h2=>x.at_ (i+1) v g h1 h2⟩⟩
theorem hs_at {H:Hp}:∀ {us:List V}{hs:List Hm},HsV H us hs→(∀ h∈hs,∃ ns,okH h ns)→AtAll H us (hs.map hmD)
 | [],[],_,_=>.nil
 | u::us,h::hs,x,o=>by
  obtain ⟨x1,x2⟩:=x.cons
  obtain ⟨ns,ok⟩:=o h (List.mem_cons_self ..)
  exact .cons (hm_at x1 ok) (hs_at x2 fun g hg=>o g (List.mem_cons_of_mem _ hg))
 | [],_::_,x,_=>by have:=x.len;simp at this
 | _::_,[],x,_=>by have:=x.len;simp at this
theorem ye8:∀ {hs:List Hm},(∀ h∈hs,∃ ns,okH h ns)→(hs.map hmD).flatMap qf1=allC hs
 | [],_=>rfl
 | h::hs,o=>by
  obtain ⟨ns,ok⟩:=o h (List.mem_cons_self ..)
  have ih:=ye8 (hs:=hs) fun g hg=>o g (List.mem_cons_of_mem _ hg)
  unfold allC at ih ⊢
  rw[List.map_cons,List.flatMap_cons,List.flatMap_cons,ih,(qiq ok).2]
theorem hs_good {H:Hp}{L:Addr}{us:List V}{hs:List Hm}{S:List Int} (hL:H L=some (.lst us)) (hv:HsV H us hs) (ok:okHs hs S):At H (.ref L) (.list (hs.map hmD))∧yat (.list (hs.map hmD))=none∧qbj (.list (hs.map hmD))=allC hs:=by
 refine ⟨.lst hL (hs_at hv ok.ok),ygl (by rw[List.length_map];have:=ok.len;omega) fun j hj=>?_,ye8 ok.ok⟩
 rw[List.length_map] at hj
 unfold ydi
 have e1:(hs.map hmD).getD j .none=hmD hs[j]:=by rw[List.getD_eq_getElem?_getD,List.getElem?_map,List.getElem?_eq_getElem hj];rfl
 obtain ⟨ns,og⟩:=ok.ok _ (List.getElem_mem hj)
 have e2:accH (hs.map hmD) (j+1)=allC (hs.take (j+1)):=by
  unfold accH
  rw[← List.map_take]
  exact ye8 fun g hg=>ok.ok g (List.mem_of_mem_take hg)
 rw[e1,(qiq og).1,e2,decide_eq_false (by have:=ok.few (l:=hs.take (j+1)) (fun h hh=>List.mem_of_mem_take hh);omega)]
 rfl
theorem qld {x:Int} (h:0≤x∧x<64):Sm 0 0 (.int x):=by
 have:∀ n:Nat,n<64→(PyData.int (n:Int)).showable=true∧PyData.leavesShort 40 (.int (n:Int))=true:=by decide +kernel
 have h1:=this x.toNat (by omega)
 rw[show ((x.toNat:Nat):Int)=x by omega] at h1
 exact ⟨h1.1,by simp[PyData.depth],h1.2,by simp[PyData.bulk]⟩
theorem hm_sm {h:Hm}{ns:List Str} (ok:okH h ns):Sm 1 100 (hmD h):=by
 have hk:KTD.inKeys h.w tabP=true:=by rw[← KTD.isSome_datumAt,ok.tab];rfl
 have hw:Sm 0 8 (.str h.w):=by
  have:h.w="stuck"∨h.w="slow"∨h.w="forgets"∨h.w="misreads"∨h.w="turns"∨h.w="sets"∨h.w="keeps"∨h.w="nowhere"∨h.w="other"∨h.w="both":=by
   simpa [tabP,KTD.inKeys] using hk
  rcases this with e|e|e|e|e|e|e|e|e|e<;>rw[e]<;>exact ⟨by decide +kernel,by decide +kernel,by decide +kernel,by decide +kernel⟩
 have hr:∀ {ns:List Str}{r:List V},Rest ns r→∀ x∈r.map vD,Sm 0 8 x:=fun {ns r} h=>by
  induction h with
  | nil=>intro x hx;cases hx
  | bit hb _ ih=>
   obtain ⟨b,rfl⟩:=hb
   intro x hx
   rcases List.mem_cons.mp hx with rfl|hx
   ·cases b<;>exact ⟨by decide +kernel,by decide +kernel,by decide +kernel,by decide +kernel⟩
   ·exact ih x hx
  | how hb _ ih=>
   intro x hx
   rcases List.mem_cons.mp hx with rfl|hx
   ·rcases hb with rfl|rfl<;>exact ⟨by decide +kernel,by decide +kernel,by decide +kernel,by decide +kernel⟩
   ·exact ih x hx
 refine (Sm.tuple (n:=5) (D:=0) (B:=8) (fun x hx=>?_) ?_).mono
 ·rcases List.mem_cons.mp hx with rfl|hx
  ·exact hw
  ·rcases List.mem_append.mp hx with hx|hx
   ·obtain ⟨c,hc,rfl⟩:=List.mem_map.mp hx
    exact (qld (ok.rg c hc)).mono
   ·exact hr ok.rest x hx
 ·have h1:=ok.cl
  have h2:=ok.rl
  have h3:=ok.rest.len
  simp
  omega
theorem hs_sm {hs:List Hm}{S:List Int} (ok:okHs hs S):Sm 2 400 (.list (hs.map hmD)):=
 (Sm.list (n:=3) (D:=1) (B:=100) (fun x hx=>by
  obtain ⟨h,hh,rfl⟩:=List.mem_map.mp hx
  obtain ⟨ns,og⟩:=ok.ok h hh
  exact hm_sm og) (by rw[List.length_map];exact ok.len)).mono
theorem yl8 {H:Hp}:∀ {us:List V}{zs:List Int},AtAll H us (zs.map PyData.int)→us=zs.map V.int
 | [],[],.nil=>rfl
 | u::us,z::zs,.cons a r=>by rw[a.intEq,yl8 r];rfl
theorem yh0 {H:Hp}{v:V}{zs:List Int} (h:At H v (.list (zs.map PyData.int))):∃ a,v=.ref a∧H a=some (.lst (zs.map V.int)):=by
 obtain ⟨a,us,rfl,ha,hu⟩:=h.lstEq
 exact ⟨a,rfl,by rw[ha,yl8 hu]⟩
theorem qep {H:Hp}{v:V}{a b c:Str} (h:At H v (.list [.str a,.str b,.str c])):∃ q,v=.ref q∧H q=some (.lst [.str a,.str b,.str c]):=by
 obtain ⟨q,us,rfl,hq,hu⟩:=h.lstEq
 refine ⟨q,rfl,?_⟩
 cases hu with|cons x hu=>cases hu with|cons y hu=>cases hu with|cons z hu=>cases hu with|nil=>rw[hq,x.strEq,y.strEq,z.strEq]
section
variable {K:PySem.W.Frag}{σ:L2.St}{H:Hp}{te tn:TE}{d:PyData}{ds:List PyData}{L:List Addr}
theorem yln {n:Nat} (h1:Lay L te σ (.list ds) H) (hn:∀ H1,Same H H1→∀ Q:VK,Q (.int n) H1→tn σ H1 Q):Lay L (tSl (rSlL K) te qgn (yl1 tn)) σ (.list (ds.take n)) H:=fun hL H1 s Q k=>
 h1 hL H1 s _ fun v H2 s2 a2=>hn H2 (s.trans s2) _ ⟨n,rfl,by
  obtain ⟨a,vs,rfl,ha,hw⟩:=a2.lstEq
  refine ⟨a,vs,rfl,SqL.of (qal _ _ _ _ ha),fun p hp=>k _ _ (s2.upd hp) ?_⟩
  rw[qfu]
  exact qeb hL (s.trans s2) hp (hw.take n)⟩
theorem yhl {i:Nat}{n m:Int} (hσ:σ[i]?=some (some (.int n))):Lay L (tOp (rI0 fun i j=>V.int (i+j)) (tVar i) (tC (.int m))) σ (.int (n+m)) H:=fun hL H1 s Q k=>⟨_,hσ,_,_,rfl,rfl,k _ H1 (Same.refl H1) (.int _)⟩
theorem qhn {p:Addr}{xs:List V}{k:Int}{j i:Nat}{rest:TS}{KK:Ends} (h:LayX L te σ d H) (hL:∀ b∈L,H b≠none) (hp:H p=some (.lst xs)) (hσ:σ[i]?=some (some (.ref p))) (hix:ixN xs.length k=some j) (kk:∀ v H',Same H H'→AtX (qap H' L) v d→rest KK σ (upd H' p (.lst (xs.set j v)))) :
  tSeq (tAsg te (gSub (tVar i) (tC (.int k)) rSetL)) rest KK σ H:=
 h hL H (Same.refl H) _ fun v H' s a=>⟨_,hσ,p,xs,k,j,rfl,rfl,s _ _ hp,hix,kk v H' s a⟩
end
noncomputable def szO (n:Int):List PyData:=[.int 0,.int 65,.none,.bool true,.int (n+1),.str "3",.int (-1),.list [.int 3]]
noncomputable def hmO:List PyData:=[.none,.list [.none],.tuple [.str "stuck",.int 0,.int 1],.list [.tuple [.str "stuck",.int 0,.int 2]],.list [.tuple [.str "both",.int 1,.int 1,.str "or"]],.dict [],.list [.list []],.int 0]
noncomputable def tsO (ts:List PyData):List PyData:=[.none,.list [],.tuple ts,.list [.none],.list [.tuple [.str "up",.list []]],.list [.tuple [.str "up",.list [.tuple [.str "r",.int 2]]]],.str "up w0",.list (List.replicate 9 ts).flatten]
noncomputable def smC (d:PyData):Bool:=d.showable&&(decide (d.depth≤6)&&(d.leavesShort 40&&decide (d.bulk≤8000)))
theorem yma {d:PyData} (h:smC d=true):Sm 6 8000 d:=by
 unfold smC at h
 simp only[Bool.and_eq_true] at h
 exact ⟨h.1,of_decide_eq_true h.2.1,h.2.2.1,of_decide_eq_true h.2.2.2⟩
theorem sz_all:∀ n:Nat,n<9→3≤n→(szO (n:Int)).all (fun d=>(!yho d || !decide (intD d=(n:Int)))&&smC d)=true:=by decide +kernel
theorem sz_bad {n:Nat}{cs:List Int} (h3:3≤n) (h8:n≤8) (hl:cs.length=n):∀ d∈szO (n:Int),(∀ dh,ydd d dh (qck cs)=false)∧Sm 6 8000 d:=by
 intro d hd
 have h:=List.all_eq_true.mp (sz_all n (by omega) h3) d hd
 rw[Bool.and_eq_true,Bool.or_eq_true] at h
 refine ⟨fun dh=>?_,yma h.2⟩
 unfold ydd
 rcases h.1 with h1|h1
 ·rw[show yho d=false by simpa using h1];rfl
 ·have hne:intD d≠(n:Int):=by simpa using h1
  have e:yfk (intD d) (qck cs)=(decide (((cs.map PyData.int).length:Int)=intD d)&&((cs.map PyData.int).map bitD).all id):=rfl
  have e2:decide (((cs.map PyData.int).length:Int)=intD d)=false:=decide_eq_false (by rw[List.length_map,hl];exact fun z=>hne z.symm)
  rw[e,e2]
  simp
theorem hm_bad:∀ d∈hmO,(yat d).isSome=true∧Sm 6 8000 d:=by
 have:hmO.all (fun d=>(yat d).isSome&&smC d)=true:=by decide +kernel
 intro d hd
 have h:=List.all_eq_true.mp this d hd
 rw[Bool.and_eq_true] at h
 exact ⟨h.1,yma h.2⟩
theorem step_sm (s:Stp):Sm 1 20 (qe1 s):=by
 obtain ⟨a,b⟩:=s
 cases a<;>cases b<;>exact qfi (by decide +kernel)
theorem qmo {e:Elm} (h:okE e):Sm 3 260 (qd2 e):=by
 have h1:Sm 2 126 (.list (e.2.map qe1)):=(Sm.list (n:=6) (D:=1) (B:=20) (fun x hx=>by
  obtain ⟨s,_,rfl⟩:=List.mem_map.mp hx
  exact step_sm s) (by rw[List.length_map];exact h.2.2))
 have h2:Sm 2 126 (.str e.1):=by rcases h.1 with e' | e' | e'<;>rw[e']<;>exact (qfi (by decide +kernel)).mono
 exact (Sm.tuple (n:=2) (D:=2) (B:=126) (fun x hx=>by
  simp only[List.mem_cons,List.not_mem_nil,or_false] at hx
  rcases hx with rfl|rfl
  ·exact h2
  ·exact h1) (by simp)).mono
theorem test_sm {T:List Elm} (h:okT T) (h3:T.length≤3):Sm 6 8000 (ybv T):=
 (Sm.list (n:=3) (D:=3) (B:=260) (fun x hx=>by
  obtain ⟨e,he,rfl⟩:=List.mem_map.mp hx
  exact qmo (h.2.2 e he)) (by rw[List.length_map];exact h3)).mono
theorem ts_bad {T:List Elm} (h:okT T) (h3:T.length≤3):∀ d∈tsO (T.map qd2),(qbe d).isSome=true∧Sm 6 8000 d:=by
 have c:∀ d:PyData,((qbe d).isSome&&smC d)=true→(qbe d).isSome=true∧Sm 6 8000 d:=fun d h=>by
  rw[Bool.and_eq_true] at h
  exact ⟨h.1,yma h.2⟩
 have es:∀ x∈T.map qd2,Sm 3 260 x:=fun x hx=>by
  obtain ⟨e,he,rfl⟩:=List.mem_map.mp hx
  exact qmo (h.2.2 e he)
 intro d hd
 simp only[tsO,List.mem_cons,List.not_mem_nil,or_false] at hd
 rcases hd with rfl|rfl|rfl|rfl|rfl|rfl|rfl|rfl
 ·exact c _ (by decide +kernel)
 ·exact c _ (by decide +kernel)
 ·exact ⟨rfl,(Sm.tuple (n:=3) es (by rw[List.length_map];exact h3)).mono⟩
 ·exact c _ (by decide +kernel)
 ·exact c _ (by decide +kernel)
 ·exact c _ (by decide +kernel)
 ·exact c _ (by decide +kernel)
 ·have hl:(List.replicate 9 (T.map qd2)).flatten.length=9*T.length:=by rw[List.length_flatten,List.map_replicate,List.sum_replicate_nat,List.length_map]
  refine ⟨?_,(Sm.list (n:=27) (D:=3) (B:=260) (fun x hx=>by
   obtain ⟨l,hl,hx⟩:=List.mem_flatten.mp hx
   rw[List.eq_of_mem_replicate hl] at hx
   exact es x hx) (by rw[hl];omega)).mono⟩
  unfold qbe
  rw[if_neg (by
   show ¬ decide (0<_∧_)=true
   have:=h.1
   rw[decide_eq_false (fun z=>by have:=z.2;rw[hl] at this;omega)]
   simp)]
  rfl
theorem yii {T:List Elm} (h:okT T):qbe (ybv T)=none:=by
 unfold qbe
 have h1:=h.1
 have h8:=h.2.1
 rw[if_pos (show qgc 8 (ybv T)=true from decide_eq_true (by rw[List.length_map];omega))]
 refine qc4 _ 0 fun x hx=>?_
 obtain ⟨e,he,rfl⟩:=List.mem_map.mp (show x∈T.map qd2 from hx)
 have oe:=h.2.2 e he
 unfold qfn
 have hf:qfh (qd2 e)=true:=by
  show (inV (.str e.1) [.str "up",.str "down",.str "any"]&&decide (0<(e.2.map qe1).length∧((e.2.map qe1).length:Int)≤6))=true
  rw[ykf oe.1,decide_eq_true (by rw[List.length_map];have:=oe.2.1;have:=oe.2.2;omega)]
  rfl
 rw[if_pos hf]
 have:qc6 (e.2.map qe1)=none:=by
  unfold qc6
  rw[List.findIdx?_eq_none_iff]
  intro y hy
  obtain ⟨s,_,rfl⟩:=List.mem_map.mp hy
  obtain ⟨a,b⟩:=s
  cases a<;>cases b<;>decide +kernel
 show (qc6 (e.2.map qe1)).map some=none
 rw[this]
 rfl
noncomputable def due0 (b1 b2 b3 b4:Bool):Str:=if b1=true then "test" else if b2=true then "harms" else if b3=true then "memory" else if b4=true then "orders" else "told"
noncomputable def due2 (b1 b4:Bool):Str:=if b1=true then "test" else if b4=true then "orders" else "told"
structure Fl (T:List Elm) (n:Int) (hd:PyData) (cs:List Int) (dt dz dh dor:PyData) (b1 b2 b3 b4:Bool):Prop where
 o:ordB T dor=!b4
 z:(b3=true→∀ d,ydd dz d (qck cs)=false)∧(b3=false→dz=.int n)
 h:(b2=true→(yat dh).isSome=true)∧(b2=false→dh=hd)
 t:(b1=true→(qbe dt).isSome=true)∧(b1=false→dt=ybv T)
 st:Sm 6 8000 dt
 sz:Sm 6 8000 dz
 sh:Sm 6 8000 dh
 so:Sm 6 8000 dor
theorem Fl.run2 {T:List Elm}{n:Int}{hd:PyData}{cs:List Int}{dt dz dh dor:PyData}{b1 b2 b3 b4:Bool} (f:Fl T n hd cs dt dz dh dor b1 b2 b3 b4) (okt:okT T):qcs T dt dor=due2 b1 b4:=by
 unfold qcs due2
 cases b1 with
 | true=>rw[if_pos (f.t.1 rfl),if_pos rfl]
 | false=>
  rw[f.t.2 rfl,if_neg (none_of (yii okt)),f.o]
  cases b4<;>rfl
theorem Fl.run {T:List Elm}{n:Int}{hd:PyData}{cs:List Int}{dt dz dh dor:PyData}{b1 b2 b3 b4:Bool} (f:Fl T n hd cs dt dz dh dor b1 b2 b3 b4) (okt:okT T) (hb:yat hd=none) (hm:ydd (.int n) hd (qck cs)=true):qgp T dt dz dh (qck cs) dor=due0 b1 b2 b3 b4:=by
 unfold qgp due0
 cases b1 with
 | true=>rw[if_pos (f.t.1 rfl),if_pos rfl]
 | false=>
  rw[f.t.2 rfl,if_neg (none_of (yii okt))]
  cases b2 with
  | true=>rw[if_pos (f.h.1 rfl)];rfl
  | false=>
   rw[f.h.2 rfl,if_neg (none_of hb)]
   cases b3 with
   | true=>rw[f.z.1 rfl];rfl
   | false=>
    rw[f.z.2 rfl,hm,f.o]
    cases b4<;>rfl
theorem ql6 {sp:Sp}{te:TE}{t:TA}{E:XK}{g:TG}{rest:TS}{D:Ends}{σ:L2.St}{H:Hp} (h:te σ H fun v H1=>t σ H1 fun vs H2=>sp (v::vs++[]) H2 (fun r H3=>g r σ H3 fun σ2 H4=>rest D σ2 H4) E):tSeq (tAsg (yme sp [] E (qdj te t)) g) rest D σ H:=h
section
variable {K:PySem.W.Frag}{σ:L2.St}{H:Hp}{te:TE}{d:PyData}{L:List Addr}
theorem yfo {i:Nat}{D:Ends} (h:Lay L te σ d H) (hL:∀ b∈L,H b≠none) (k:∀ v H',Same H H'→At (qap H' L) v d→D.nx (σ.set i (some v)) H'):tAsg te (qgl i) D σ H:=h hL H (Same.refl H) _ k
theorem ymd {i:Nat}{p:Addr}{xs:List V}{k:Int}{v:V} (hσ:σ[i]?=some (some (.ref p))) (hp:qap H L p=some (.lst xs)) (ha:atI xs k=some v) (h:At (qap H L) v d):Lay L (tOp (rIxL K) (tVar i) (tC (.int k))) σ d H:=fun hL H1 s Q q=>
 ⟨_,hσ,p,xs,k,v,rfl,rfl,SqL.of (qal _ _ _ _ (qam s L _ _ hp)),ha,q v H1 (Same.refl H1) (h.same (qam s L))⟩
end
noncomputable def JJ (sig:Addr→L2.St) (HG:Hp) (p Cc cp:Addr) (T:List Elm) (n:Int) (hd:PyData) (cs:List Int) (kk:Nat) (σ':L2.St) (H':Hp):Prop:=∃ (b1 b2 b3 b4:Bool) (q:Addr) (vt vz vh vo:V) (dt dz dh dor:PyData),σ'=sig q∧Same HG H'∧H' p=some (.lst [vt,vz,vh,.ref cp,vo])∧qap H' [p,Cc] q=some (.lst [.str (due0 b1 b2 b3 b4),.str (due0 b1 b2 b3 b4),.str (due2 b1 b4)])∧
 AtX (qap H' [p,Cc]) vt dt∧AtX (qap H' [p,Cc]) vz dz∧AtX (qap H' [p,Cc]) vh dh∧AtX (qap H' [p,Cc]) vo dor∧Fl T n hd cs dt dz dh dor b1 b2 b3 b4∧(kk<4→b1=false)∧(kk<3→b2=false)∧(kk<2→b3=false)
theorem due_at (b1 b2 b3 b4:Bool):∀ j:Nat,j<3→atI [V.str (due0 b1 b2 b3 b4),.str (due0 b1 b2 b3 b4),.str (due2 b1 b4)] (j:Int)=some (.str (if j=2 then due2 b1 b4 else due0 b1 b2 b3 b4)):=by
 intro j hj
 rcases (by omega:j=0∨j=1∨j=2) with rfl|rfl|rfl<;>rfl
noncomputable def dgL:List Int:=[6,3,3,3,3,8,16,64,2,2,2,2,2,2,2,2]
theorem hid2 {H H':Hp}{p c:Addr}{v:V}{d:PyData} (hp:H p=none) (hc:H c=none) (s:Same H H') (h:At H v d):At (qap H' [p,c]) v d:=h.same fun b o e=>by
 rw[ya2 (by
  intro z
  rcases List.mem_cons.mp z with z|z
  ·rw[z,hp] at e;cases e
  ·rw[List.mem_singleton.mp z,hc] at e;cases e)]
 exact s _ _ e
section
variable {P:Program}{w:World}{K:PySem.W.Frag}{mg:Str→Option Value}{base:Heap}{C:Addr}
noncomputable def yjp (K:PySem.W.Frag):Sp:=fun vs H Q _=>∃ (a:Addr) (ns:List Int),vs=[.ref a]∧SqL K H a (ns.map V.int)∧ns.length≤63∧∀ H',Q (.bl true) H'
noncomputable abbrev qhh:Stmt:=top 82
theorem sc_law:FnScope ["_law_script","_law_turn","_law_cell","_law_d","_law_size","_law_test_here","_law_orders_here","_law_harms_here","_law_contents","_law_memory","_law_held","_law_things","_law_due","_law_kept","_law_way"] ["_law_script"] (yac qhh):=⟨rfl,rfl,rfl,by decide +kernel,rfl,by decide +kernel,by decide +kernel⟩
theorem yj9 {P:Prop} (h:∀ G:Prop,(P→G)→G):P:=h P id
theorem ok_law (B:Bl mg) (cm:CM K C) (yba:Has P w K mg base 1 "_law_digits" ["_law_cell","_law_turn","_law_sizes"] ydj) (qiv:Has P w K mg base 2 "_law_test" ["_law_cells","_law_sure"] yl4) (yhu:Has P w K mg base 2 "_law_orders" ["_law_test_here","_law_cell"] qil) (yhx:Has P w K mg base 2 "_law_harms" ["_law_cell","_law_turn","_law_size","_law_most"] qji)
  (ye4:Has P w K mg base 1 "_law_odd_orders" ["_law_test_here","_law_orders_here","_law_d"] yle) (yi4:Has P w K mg base 13 "_law_told" ["_law_way","_law_things","_law_memory"] (yjy C))
  (yf9:HasI P w K mg base C 9 "Memory" ["self","size","harms","contents"] (qek C)) (yfw:HasM P w K mg base C 1 "holds" ["self"] (yg0 C))
  {f:Addr}{fd:FuncData} (F:Fun K "law" "law" qhh f fd):FnOk P w K mg base CX0 14 f fd ["_law_script"] (yjp K):=by
 refine Mx.Fun.okQ F sc_law (fun vs H Q E h=>?_) (fun cdv A outer s H vs Q E hr h=>?_)
 ·obtain ⟨a,ns,rfl,_⟩:=h
  rfl
 ·obtain ⟨a,ns,rfl,hS,hnl,k⟩:=h
  have sc:=sc_law
  refine ⟨_,(yam rfl (qad (ydf PassesOwn.never rfl (qhl (qc8 rfl (B.of rfl) (qaa (ybs ydn (qa7 op_catS (pv 0) (ybc (qaa qac yab))) ych (qbi (qae (qis rfl) rfl (B.of rfl) boot_max (qaa qac (qaa (qae (ylb rfl) rfl (B.of rfl) boot_min (qaa qac (qaa (qae yag rfl (B.of rfl) boot_len (qaa (pv 0) yab)) yab))) yab))))) yab))) (ydg rfl (qan (qak (i:=1) sc.nd rfl (Or.inl rfl)) (qan (qak (i:=2) sc.nd rfl (Or.inl rfl)) qbp)))
    (qad (yaq (i:=3) sc.nd rfl (Or.inl rfl) (qaq yba hr (yak (qab (pv 2)) (yak (qab (pv 1)) (qiu (qcj yc0 (yau (yar (qab qac) (yar (qab qac) (yar (qab qac) (yar (qab qac) (yar (qab qac) (yar (qab qac) (yar (qab qac) (yar (qab qac) qaf))))))))) (qcj yfc (yau (yar (qab qac) qaf)) (qab qac))) qaf)))))
    (qad (yaq (i:=4) sc.nd rfl (Or.inl rfl) (qcj yb0 (qab qac) (qa1 qai (qab (pv 3)) (qab qac) (fun _ _=>rfl))))
    (qad (yaq (i:=5) sc.nd rfl (Or.inl rfl) (qaq qiv hr (yd1 (qe_sl ydn (yau (yak (qab (pv 2)) (qiu (qcj yb0 (qab (pv 2)) (qab qac)) (qiu (qcj yb0 (qab (pv 2)) (qab qac)) qaf)))) ych (qbi (qa7 yb0 qac (qa7 qdh (yan qai (pv 3) qac (fun _ _=>rfl)) qac)))) (yar (qab qgu) qaf))))
    (qad (yaq (i:=6) sc.nd rfl (Or.inl rfl) (qaq yhu hr (yak (qab (pv 5)) (yd1 (qa1 qai (qab (pv 3)) (qab qac) (fun _ _=>rfl)) qaf))))
    (qad (yaq (i:=7) sc.nd rfl (Or.inl rfl) (qaq yhx hr (yak (qab (pv 2)) (yar (qab qac) (yak (qab (pv 4)) (yar (qab qac) qaf))))))
    (qad (yaq (i:=8) sc.nd rfl (Or.inl rfl) (qe_sl ydn (qab (pv 3)) (qbi qac) (qbi (qa7 yb0 qac (pv 4)))))
    (qad (yaq (i:=9) sc.nd rfl (Or.inl rfl) (qe_makeH yf9 hr (yak (qab (pv 4)) (yak (qab (pv 7)) (yak (qab (pv 8)) qaf)))))
    (qad (yaq (i:=10) sc.nd rfl (Or.inl rfl) (ygp cm.c yfw hr (qab (pv 9))))
    (qad (yaq (i:=11) sc.nd rfl (Or.inl rfl) (yau (yak (qab (pv 5)) (yak (qab (pv 4)) (yak (qab (pv 7)) (yak (qab (pv 8)) (yak (qab (pv 6)) qaf)))))))
    (qad (yaq (i:=12) sc.nd rfl (Or.inl rfl) (yau (yar (qab yaj) (yar (qab yaj) (yar (qab yaj) qaf)))))
    (qgs (ya9 (qaz qa6 (qa1 qai (qab (pv 3)) (qab qac) (fun _ _=>rfl)) (qab qac) (qaj _))
     (qad (yjo (qaq ye4 hr (yak (qab (pv 5)) (yak (qab (pv 6)) (yei (yau (yd1 (qa1 qai (qab (pv 3)) (qab qac) (fun _ _=>rfl)) (yd1 (qa1 qai (qab (pv 3)) (qab qac) (fun _ _=>rfl)) qaf))) qaf)))) (yg1 (pv 11) qac ydy))
     (qag (yaq (i:=12) sc.nd rfl (Or.inl rfl) (qcj yfc (yau (yar (qab yaj) qaf)) (qab qac)))))
     yaw)
    (qgs (ya9 (qaz qa6 (qa1 qai (qab (pv 3)) (qab qac) (fun _ _=>rfl)) (qab qac) (qaj _))
     (qad (yjo (qa1 qai (yau (yar (qab qac) (yar (qab qac) (yar (qab yb6) (yar (qab qgu) (qiu (qcj yb0 (qab (pv 4)) (qab qac)) (yar (qab yaj) (qi0 (qab (pe_un yjj qac)) (yei (yau (yar (qab qac) qaf)) qaf))))))))) (qa1 qai (qab (pv 3)) (qab qac) (fun _ _=>rfl)) (fun _ _=>rfl)) (yg1 (pv 11) qac ydy))
     (qag (yaq (i:=12) sc.nd rfl (Or.inl rfl) (yau (yar (qab yaj) (yar (qab yaj) (yd1 (qa1 qai (qab (pv 12)) (qab qac) (fun _ _=>rfl)) qaf)))))))
     yaw)
    (qgs (ya9 (qaz qa6 (qa1 qai (qab (pv 3)) (qab qac) (fun _ _=>rfl)) (qab qac) (qaj _))
     (qad (yjo (qa1 qai (yau (yar (qab yb6) (yei (yau (yar (qab yb6) qaf)) (yh1 (qcy (yar (qab yaj) (yar (qab qac) (yar (qab qac) qaf)))) (yei (yau (yh1 (qcy (yar (qab yaj) (yar (qab qac) (yar (qab qac) qaf)))) qaf)) (yei (yau (yh1 (qcy (yar (qab yaj) (yar (qab qac) (yar (qab qac) (yar (qab yaj) qaf))))) qaf)) (qi0 (qab qjq) (yei (yau (yei (yau qaf) qaf)) (yar (qab qac) qaf))))))))) (qa1 qai (qab (pv 3)) (qab qac) (fun _ _=>rfl)) (fun _ _=>rfl)) (yg1 (pv 11) qac ydy))
     (qag (yaq (i:=12) sc.nd rfl (Or.inl rfl) (yau (yar (qab yaj) (yar (qab yaj) (yd1 (qa1 qai (qab (pv 12)) (qab qac) (fun _ _=>rfl)) qaf)))))))
     yaw)
    (qgs (ya9 (qaz qa6 (qa1 qai (qab (pv 3)) (qab qac) (fun _ _=>rfl)) (qab qac) (qaj _))
     (qad (yjo (qa1 qai (yau (yar (qab yb6) (yei (yau qaf) (yl9 (qbh yer rfl (B.of rfl) boot_tuple (yak (qab (pv 5)) qaf)) (yei (yau (yar (qab yb6) qaf)) (yei (yau (yh1 (qcy (yar (qab yaj) (yei (yau qaf) qaf))) qaf)) (yei (yau (yh1 (qcy (yar (qab yaj) (yei (yau (yh1 (qcy (yar (qab yaj) (yar (qab qac) qaf))) qaf)) qaf))) qaf)) (yar (qab yaj) (qiu (qcj yfc (qab (pv 5)) (qab qac)) qaf))))))))) (qa1 qai (qab (pv 3)) (qab qac) (fun _ _=>rfl)) (fun _ _=>rfl)) (yg1 (pv 11) qac ydy))
     (qag (yaq (i:=12) sc.nd rfl (Or.inl rfl) (qcj yfc (yau (yar (qab yaj) qaf)) (qab qac)))))
     yaw)
    (qad (yaq (i:=13) sc.nd rfl (Or.inl rfl) (ybf (ygd hr) rfl (B.of rfl) boot_repr (yak (qab (pv 11)) qaf)))
    (qag (ydf PassesOwn.never rfl (qhl (ycd rfl (B.of rfl) (qaa qac yab))) (qak (i:=14) sc.nd rfl (Or.inl rfl))
     (qad (ya9 (qaz qgx (qaq yi4 hr (yak (qab (pv 14)) (yak (qab (pv 11)) (yak (qab (pv 9)) qaf)))) (qa1 qai (qab (pv 12)) (qab (pv 14)) (fun _ _=>rfl)) (qaj _))
      (qag (qas (qab qgu)))
      yaw)
     (qag (ya9 (QW.pt (qlx (QW.pt (qw_and (qaz qgx (qa1 qai (qab (pv 12)) (qab qac) (fun _ _=>rfl)) (qab yaj) (qaj _)) (qkz (qaz (op_neD hr) (ygp cm.c yfw hr (qab (pv 9))) (qab (pv 10)) (qaj _))))) (yj2 (qaz qgx (ybf (ygd hr) rfl (B.of rfl) boot_repr (yak (qab (pv 11)) qaf)) (qab (pv 13)) (qaj _)))))
      (qag (qas (qab qgu)))
      yaw)))))))))))))))))))))
   (qag (qas (qab qgu))))),?_⟩
  have hsl:(sizeLine:Nat)=16777216:=sizeLine_eq
  have z1:1≤sizeLine:=by decide
  have z3:3≤sizeLine:=by decide
  have z5:5≤sizeLine:=by decide
  refine ⟨_,rfl,z1,fun c1 h1=>?_⟩
  generalize hG1:upd H c1 _=H1
  have s1:Same H H1:=by rw[← hG1];exact (Same.refl H).upd h1
  have f1:H1 c1=some (.lst [.int 0]):=by rw[← hG1];exact yaa
  refine ⟨a,c1,_,_,rfl,rfl,s1.seq hS,SqL.of f1,by rw[List.length_map];simp;omega,fun c3 h3=>?_⟩
  generalize hG3:upd H1 c3 _=H3
  have s3:Same H1 H3:=by rw[← hG3];exact (Same.refl H1).upd h3
  have f3:H3 c3=some (.lst ((ns++[0]).map V.int)):=by rw[← hG3];refine yaa.trans ?_;rw[List.map_append];rfl
  have s03:=s1.trans s3
  refine ⟨_,rfl,a,_,rfl,.inl (s03.seq hS),_,_,rfl,_,_,rfl,_,rfl,c3,_,rfl,SqL.of f3,fun c4 h4=>?_⟩
  obtain ⟨cs0,hcs,hc12⟩:∃ cs:List Int,cutV ((ns++[0]).map V.int) none (some (if (if ((ns.map V.int).length:Int)<10 then ((ns.map V.int).length:Int) else 10)>1 then (if ((ns.map V.int).length:Int)<10 then ((ns.map V.int).length:Int) else 10) else 1))=cs.map V.int∧cs.length≤12:=by
   have ek:(if (if ((ns.map V.int).length:Int)<10 then ((ns.map V.int).length:Int) else 10)>1 then (if ((ns.map V.int).length:Int)<10 then ((ns.map V.int).length:Int) else 10) else 1)=((max 1 (min 10 ns.length):Nat):Int):=by
    rw[List.length_map]
    split<;>split at *<;>omega
   refine ⟨(ns++[0]).take (max 1 (min 10 ns.length)),by rw[ek,qfu,List.map_take],?_⟩
   rw[List.length_take,List.length_append,List.length_singleton];omega
  generalize hG4:upd H3 c4 _=H4
  have f4:H4 c4=some (.lst (cs0.map V.int)):=by rw[← hG4,← hcs];exact yaa
  clear hG4 hcs hG3 hG1
  refine ⟨c4,_,rfl,SqL.of f4,qcb (xs:=cs0.map V.int) (fun i σ H'=>∃ (o1 o2 o3 o4 o5 o6 o7 o8 o9 o10 o11 o12 o13 o14:Option V),σ=[some (.ref a),o1,o2,o3,o4,o5,o6,o7,o8,o9,o10,o11,o12,o13,o14]∧Same H4 H') ⟨_,_,_,_,_,_,_,_,_,_,_,_,_,_,rfl,Same.refl _⟩ (fun i σ H' _ ⟨_,_,_,_,_,_,_,_,_,_,_,_,_,_,_,s⟩=>SqL.of (s _ _ f4)) ?_ (fun σ H' _=>k _)⟩
  intro i x pp σ H5 hx hJ hpp
  refine yj9 fun G hG=>?_
  obtain ⟨o1,o2,o3,o4,o5,o6,o7,o8,o9,o10,o11,o12,o13,o14,rfl,s5⟩:=hJ
  refine hG ?_
  clear hG
  obtain ⟨c,hc,rfl⟩:=yhc hx
  have hi12:i<cs0.length:=(List.getElem?_eq_some_iff.mp hc).1
  refine ⟨pp,_,rfl,SqT.of yaa,rfl,_,_,rfl,_,_,rfl,rfl,?_⟩
  have s6:=s5.upd (o:=.tup [V.int i,.int c]) hpp
  revert s6
  generalize upd H5 pp (.tup [V.int i,.int c])=H6
  intro s6
  -- the digits
  refine ⟨_,rfl,_,rfl,yjh (L:=[]) (d:=.list (dgL.map PyData.int)) ?_ (fun b hb=>by cases hb) fun vz H7 s7 a7=>?_⟩
  ·have:(dgL.map PyData.int)=([6,3,3,3,3,8,16,64]:List Int).map PyData.int++(List.replicate 8 (([2]:List Int).map PyData.int)).flatten:=rfl
   rw[this]
   refine yfx (ybn ?_) (qfx (n:=8) (ybn ?_) (by decide) (by decide)) (by decide)
   all_goals repeat' (first|exact qga|exact ybu|refine yas ?_ ?_)
  obtain ⟨pz,rfl,hz⟩:=yh0 (a7.same (qal _ _))
  refine ⟨c,i,pz,dgL,rfl,hz,by decide,by decide,by omega,by omega,fun dp ds H8 s8 ndp hdp hD=>?_⟩
  refine yj9 fun G hG=>?_
  obtain ⟨e0,g0,b0,b0'⟩:=hD.get (i:=0) (z:=6) rfl
  obtain ⟨e1,g1,b1,b1'⟩:=hD.get (i:=1) (z:=3) rfl
  obtain ⟨e2,g2,b2,b2'⟩:=hD.get (i:=2) (z:=3) rfl
  obtain ⟨e3,g3,b3,b3'⟩:=hD.get (i:=3) (z:=3) rfl
  obtain ⟨e4,g4,b4,b4'⟩:=hD.get (i:=4) (z:=3) rfl
  obtain ⟨e5,g5,b5,b5'⟩:=hD.get (i:=5) (z:=8) rfl
  obtain ⟨e6,g6,b6,b6'⟩:=hD.get (i:=6) (z:=16) rfl
  obtain ⟨e7,g7,b7,b7'⟩:=hD.get (i:=7) (z:=64) rfl
  have dl:ds.length=16:=hD.1
  have hbits:∀ x∈ds.drop 8,∃ b,x=b2i b:=fun x hx=>by
   obtain ⟨i,hi⟩:=List.getElem?_of_mem hx
   rw[List.getElem?_drop] at hi
   have hil:=(List.getElem?_eq_some_iff.mp hi).1
   obtain ⟨y,h1,h2,h3⟩:=hD.get (i:=8+i) (z:=2) (by
    rcases (by omega:i=0∨i=1∨i=2∨i=3∨i=4∨i=5∨i=6∨i=7) with rfl|rfl|rfl|rfl|rfl|rfl|rfl|rfl<;>rfl)
   rw[hi] at h1
   cases h1
   exact qlb h2 h3
  obtain ⟨n,hn,n3,n8⟩:∃ n:Nat,3+e0=(n:Int)∧3≤n∧n≤8:=⟨(3+e0).toNat,by omega,by omega,by omega⟩
  refine hG ?_
  clear hG
  refine ⟨_,rfl,dp,_,_,_,rfl,rfl,SqL.of hdp,yad 0 (ya7 g0),_,_,rfl,rfl,?_⟩
  show qgl 4 (V.int (3+e0)) _ _ _
  rw[hn]
  refine gn ?_
  try dsimp only
  -- the test
  obtain ⟨kt,hkt,kt1,kt3⟩:∃ kt:Nat,1+e5 % 3=(kt:Int)∧1≤kt∧kt≤3:=⟨(1+e5 % 3).toNat,by omega,by omega,by omega⟩
  refine ql6 (yjh (L:=[]) (d:=.list ((([c,c+1,c+2]:List Int).take kt).map PyData.int)) ?_ (fun b hb=>by cases hb) fun vt0 H9 s9 a9=>?_)
  ·rw[List.map_take]
   refine yln (ybn (yas (qb8 rfl (.int _)) (yas (yhl rfl) (yas (yhl rfl) ybu)))) fun H1 s1 Q1 k1=>⟨_,rfl,dp,_,_,_,rfl,rfl,SqL.of (s1 _ _ hdp),yad 5 (ya7 g5),_,_,rfl,rfl,(by show (0:Int)<3;decide),_,_,rfl,rfl,?_⟩
   show Q1 (V.int (1+e5 % 3)) H1
   rw[hkt]
   exact k1
  obtain ⟨tp,rfl,htp⟩:=yh0 (a9.same (qal _ _))
  refine ⟨tp,_,false,rfl,htp,by rw[List.length_take];simp;omega,by rw[List.length_take];simp;omega,fun t T HA sA nt hT okt hTl=>?_⟩
  have hT3:T.length≤3:=by rw[hTl,List.length_take];simp;omega
  refine gn ?_
  try dsimp only
  have s8A:=s9.trans sA
  refine ⟨_,rfl,_,rfl,dp,_,_,_,rfl,rfl,SqL.of (s8A _ _ hdp),yad 7 (ya7 g7),.ref t,T,e7,rfl,hT,okt,fun O os HB sB nO hO oo=>?_⟩
  refine gn ?_
  try dsimp only
  refine ⟨_,rfl,_,rfl,c,9,n,rfl,by omega,by omega,by omega,by omega,fun L us hs S HC sC nL hL hv ok hl ir=>?_⟩
  refine gn ?_
  try dsimp only
  have s8C:=(s8A.trans sB).trans sC
  refine ⟨_,rfl,8,rfl,_,rfl,_,_,rfl,rfl,_,rfl,dp,_,rfl,SqL.of (s8C _ _ hdp),fun cp w3=>?_⟩
  obtain ⟨bs,ecut,hcl,hcb⟩:∃ bs:List Int,cutV (ds.map V.int) (some 8) (some ((8:Int)+(n:Int)))=bs.map V.int∧bs.length=n∧bits bs:=by
   refine ⟨(ds.drop 8).take n,?_,by rw[List.length_take,List.length_drop];omega,fun c hc=>hbits c (List.mem_of_mem_take hc)⟩
   rw[show (8:Int)+(n:Int)=((8+n:Nat):Int) by omega,show (8:Int)=((8:Nat):Int) from rfl,yky,List.length_map,dl,← List.map_drop,← List.map_take,
    show min (8+n) 16-min 8 16=n by omega,show min 8 16=8 by omega]
  generalize hK9:upd HC cp _=HD
  have sD:Same HC HD:=by rw[← hK9];exact (Same.refl HC).upd w3
  have fD:HD cp=some (.lst (bs.map V.int)):=by rw[← hK9,← ecut];exact yaa
  clear hK9 ecut
  refine gn ?_
  try dsimp only
  -- the memory
  refine ⟨_,rfl,_,rfl,_,rfl,?_⟩
  intro x dx nx ndx nxd
  generalize hKx:upd (upd HD dx (.own x)) x (.ins C dx [])=HE
  have sE:Same HD HE:=by rw[← hKx];exact ((Same.refl HD).upd (o:=.own x) ndx).upd (o:=.ins C dx []) (p:=x) (by rw[yai (fun z=>nxd z.symm)];exact nx)
  have fE:HE x=some (.ins C dx []):=by rw[← hKx];exact yaa
  clear hKx
  have sCE:=sD.trans sE
  subst hcl
  refine ⟨x,dx,L,cp,us,hs,S,bs,rfl,fE,sCE _ _ hL,hv.same sCE,ok,ir,sE _ _ fD,hcb,by omega,by omega,fun L' Cc HF stF nL' nC' mo=>⟨rfl,?_⟩⟩
  have sF:Same HD HF:=fun b u e=>stF b u (fun z=>by subst z;rw[nx] at e;cases e) (sE _ _ e)
  have nCD:HD Cc=none:=sE.free nC'
  refine gn ?_
  try dsimp only
  generalize hst:yge hs bs=st at mo
  have stl:st.length=bs.length:=by rw[← hst,qgt]
  obtain ⟨dy,ho⟩:=mo.o
  refine ⟨_,rfl,x,dy,_,rfl,ho,lk_n,x,L',Cc,us,hs,st,rfl,mo,fun D nD=>?_⟩
  have sG:Same HF (upd HF D (.lst (st.map V.int))):=(Same.refl HF).upd nD
  have eD:upd HF D (.lst (st.map V.int)) D=some (.lst (st.map V.int)):=yaa
  revert sG eD
  generalize upd HF D (.lst (st.map V.int))=HG
  intro sG eD
  refine gn ?_
  try dsimp only
  have sDG:=sF.trans sG
  have moG:=mo.same sG
  have hCc:=moG.m.hc
  have irS:InR hs st.length:=by rw[stl];exact ir
  -- the things
  refine ⟨_,rfl,_,rfl,_,rfl,_,rfl,_,rfl,z5,fun p np=>?_⟩
  have sI:Same HG (upd HG p (.lst [.ref t,.int (bs.length:Nat),.ref L,.ref cp,.ref O])):=(Same.refl HG).upd np
  have eI:upd HG p (.lst [.ref t,.int (bs.length:Nat),.ref L,.ref cp,.ref O]) p=some (.lst [.ref t,.int (bs.length:Nat),.ref L,.ref cp,.ref O]):=yaa
  revert sI eI
  generalize upd HG p (.lst [.ref t,.int (bs.length:Nat),.ref L,.ref cp,.ref O])=HI
  intro sI eI
  refine gn ?_
  try dsimp only
  refine ⟨z3,fun q nq=>?_⟩
  have sJ:Same HI (upd HI q (.lst [.str "told",.str "told",.str "told"])):=(Same.refl HI).upd nq
  have eJ:upd HI q (.lst [.str "told",.str "told",.str "told"]) q=some (.lst [.str "told",.str "told",.str "told"]):=yaa
  revert sJ eJ
  generalize upd HI q (.lst [.str "told",.str "told",.str "told"])=HJ
  intro sJ eJ
  refine gn ?_
  try dsimp only
  have npD:HD p=none:=sDG.free np
  have hpC:p≠Cc:=fun z=>by rw[z,hCc] at np;cases np
  have hqp:q≠p:=fun z=>by rw[z,eI] at nq;cases nq
  have hqC:q≠Cc:=fun z=>by rw[z,sI _ _ hCc] at nq;cases nq
  have hqh:q∉[p,Cc]:=by simp[hqp,hqC]
  -- good ones as data
  obtain ⟨aL,hnb,hca⟩:=hs_good hL hv ok
  have aT:At HD (.ref t) (ybv T):=hT.same ((sB.trans sC).trans sD)
  have aL':At HD (.ref L) (.list (hs.map hmD)):=aL.same sD
  have aC:At HD (.ref cp) (qck bs):=ygj fD
  have hOD:HD O=some (.lst (os.map V.str)):=(sC.trans sD) _ _ hO
  have aO:At HD (.ref O) (.list (qbc os)):=.lst hOD (qfq os)
  have nCG:∀ {b:Addr}{o:HO},HD b=some o→b≠Cc:=fun e z=>by rw[z,nCD] at e;cases e
  have hoB:ordB T (.list (qbc os))=true:=by
   show (decide ((qbc os).length=T.length)&&(List.zipWith ybm T (qbc os)).all id)=true
   rw[decide_eq_true (by unfold qbc;rw[List.length_map];exact oo.len),Bool.true_and,List.all_eq_true]
   intro b hb
   obtain ⟨j,hj⟩:=List.getElem?_of_mem hb
   rw[List.getElem?_zipWith] at hj
   cases hTj:T[j]? with
   | none=>rw[hTj] at hj;simp at hj
   | some e=>
    cases hoj:os[j]? with
    | none=>rw[hTj,show (qbc os)[j]?=none by unfold qbc;rw[List.getElem?_map,hoj];rfl] at hj;simp at hj
    | some o=>
     rw[hTj,show (qbc os)[j]?=some (.str o) by unfold qbc;rw[List.getElem?_map,hoj];rfl] at hj
     obtain ⟨q1,q2⟩:=oo.at_ j e o hTj hoj
     have hj':ybm e (.str o)=b:=Option.some.inj hj
     rw[← hj']
     show (inV (.str o) [.str "up",.str "down"]&&inV (.str e.1) [.str "any",.str o])=true
     rw[qlo q1,in_any q2]
     rfl
  have hmem:ydd (.int (bs.length:Nat)) (.list (hs.map hmD)) (qck bs)=true:=by
   unfold ydd
   rw[show yho (.int ((bs.length:Nat):Int))=true from decide_eq_true ⟨by omega,by omega⟩]
   show (decide (∀ c∈qbj (.list (hs.map hmD)),c<((bs.length:Nat):Int))&&yfk ((bs.length:Nat):Int) (qck bs))=true
   have h1:∀ c∈qbj (.list (hs.map hmD)),c<((bs.length:Nat):Int):=by
    rw[hca]
    intro c hc
    obtain ⟨h,hh,hc⟩:=List.mem_flatMap.mp hc
    exact (ir h hh c hc).2
   have h2:yfk ((bs.length:Nat):Int) (qck bs)=true:=by
    show (decide (((bs.map PyData.int).length:Int)=((bs.length:Nat):Int))&&((bs.map PyData.int).map bitD).all id)=true
    rw[decide_eq_true (by rw[List.length_map]),Bool.true_and,List.all_eq_true]
    intro b hb
    obtain ⟨y,hy,rfl⟩:=List.mem_map.mp hb
    obtain ⟨c,hc,rfl⟩:=List.mem_map.mp hy
    obtain ⟨b,rfl⟩:=hcb c hc
    cases b<;>decide
   rw[decide_eq_true h1,h2]
   rfl
  have smO:Sm 6 8000 (.list (qbc os)):=(Sm.list (n:=8) (D:=1) (B:=20) (qe3 oo) (by unfold qbc;rw[List.length_map,oo.len];omega)).mono
  have fl0:Fl T (bs.length:Nat) (.list (hs.map hmD)) bs (ybv T) (.int (bs.length:Nat)) (.list (hs.map hmD)) (.list (qbc os)) false false false false:=⟨hoB,⟨fun z=>(by cases z),fun _=>rfl⟩,⟨fun z=>(by cases z),fun _=>rfl⟩,⟨fun z=>(by cases z),fun _=>rfl⟩,test_sm okt hT3,(qld ⟨by omega,by omega⟩).mono,(hs_sm ok).mono,smO⟩
  have good:∀ {H':Hp}{v:V}{d:PyData},Same HG H'→At HD v d→At (qap H' [p,Cc]) v d:=fun s h=>hid2 npD nCD (sDG.trans s) h
  have hidN:∀ {H':Hp},H' p≠none→Same HG H'→∀ b∈[p,Cc],H' b≠none:=fun {H'} h s b hb=>by
   rcases List.mem_cons.mp hb with z|z
   ·rw[z];exact h
   ·rw[List.mem_singleton.mp z,s _ _ hCc];intro z;cases z
  have put:∀ {H':Hp}{v:V}{d:PyData}{o:HO},AtX (qap H' [p,Cc]) v d→AtX (qap (upd H' p o) [p,Cc]) v d:=fun {H' v d o} h=>by
   rw[qgb (List.mem_cons_self ..)];exact h
  have putq:∀ {H':Hp}{q:Addr}{o u:HO},qap H' [p,Cc] q=some u→qap (upd H' p o) [p,Cc] q=some u:=fun {H' q o u} h=>by
   rw[qgb (List.mem_cons_self ..)];exact h
  have dpG:∀ {H':Hp},Same HG H'→H' dp=some (.lst (ds.map V.int)):=fun s=>s _ _ (sDG _ _ (sD _ _ (s8C _ _ hdp)))
  obtain ⟨e5n,he5⟩:∃ k:Nat,e5=(k:Int):=⟨e5.toNat,by omega⟩
  -- orders
  refine ⟨JJ (fun q=>[some (.ref a),some (.int i),some (.int c),some (.ref dp),some (.int (bs.length:Nat)),some (.ref t),some (.ref O),some (.ref L),some (.ref cp),some (.ref x),some (.ref D),some (.ref p),some (.ref q),o13,o14]) HG p Cc cp T (bs.length:Nat) (.list (hs.map hmD)) bs 1,?_,?_⟩
  ·have sGJ:=sI.trans sJ
   refine ⟨_,rfl,dp,_,_,_,rfl,rfl,SqL.of (dpG sGJ),yad 4 (ya7 g4),rfl,_,rfl,?_⟩
   by_cases h4:e4=0
   rotate_left
   ·refine iteN (decide_eq_false (fun z=>h4 (V.int.inj z))) ?_
    exact ⟨false,false,false,false,q,.ref t,.int (bs.length:Nat),.ref L,.ref O,_,_,_,_,rfl,sGJ,sJ _ _ eI,by rw[ya2 hqh];exact eJ,.inl (good sGJ aT),.inl (.int _),.inl (good sGJ aL'),.inl (good sGJ aO),fl0,fun _=>rfl,fun _=>rfl,fun _=>rfl⟩
   refine iteB (decide_eq_true (by rw[h4])) ?_
   refine ⟨_,rfl,_,rfl,_,rfl,dp,_,_,_,rfl,rfl,SqL.of (dpG sGJ),yad 5 (ya7 g5),_,rfl,dp,_,_,_,rfl,rfl,SqL.of (dpG sGJ),yad 6 (ya7 g6),(by show 2≤sizeLine;decide),fun dd ndd=>?_⟩
   have sK:Same HJ (upd HJ dd (.lst [.int e5,.int e6])):=(Same.refl HJ).upd ndd
   have eK:upd HJ dd (.lst [.int e5,.int e6]) dd=some (.lst [.int e5,.int e6]):=yaa
   revert sK eK
   generalize upd HJ dd (.lst [.int e5,.int e6])=HK
   intro sK eK
   have sGK:=sGJ.trans sK
   have pK:=sK _ _ (sJ _ _ eI)
   refine ⟨[p,Cc],t,O,dd,T,os,e5,e6,rfl,hidN (by rw[pK];intro z;cases z) sGK,aT.same (sDG.trans sGK),okt,?_,oo,eK,b5,b6,fun v d HL sL av hb sm=>?_⟩
   ·rw[ya2 (by
     intro z
     rcases List.mem_cons.mp z with z|z
     ·rw[z,npD] at hOD;cases hOD
     ·exact nCG hOD (List.mem_singleton.mp z))]
    exact (sDG.trans sGK) _ _ hOD
   refine ⟨_,rfl,p,_,4,4,rfl,rfl,sL _ _ pK,rfl,?_⟩
   have sGL:=sGK.trans sL
   have sGM:Same HG (upd HL p (.lst ([V.ref t,.int (bs.length:Nat),.ref L,.ref cp,.ref O].set 4 v))):=sGL.at np
   refine yfo (L:=[p,Cc]) (d:=.list [.str "orders",.str "orders",.str "orders"]) (show Lay _ _ _ (.list (List.replicate 3 [PyData.str "orders"]).flatten) _ from qfx (n:=3) (ybn (yas yb1 ybu)) (by decide) (by decide)) (hidN (by rw[yaa];intro z;cases z) sGM) fun vq HN sN aN=>?_
   obtain ⟨q2,rfl,hq2⟩:=qep aN
   have up:∀ {v d},AtX (qap HL [p,Cc]) v d→AtX (qap HN [p,Cc]) v d:=fun h=>(put h).same (qam sN _)
   exact ⟨false,false,false,true,q2,.ref t,.int (bs.length:Nat),.ref L,v,_,_,_,_,rfl,sGM.trans sN,sN _ _ yaa,hq2,up (.inl (good sGL aT)),up (.inl (.int _)),up (.inl (good sGL aL')),up av,⟨hb,fl0.z,fl0.h,fl0.t,fl0.st,fl0.sz,fl0.sh,sm.mono⟩,fun _=>rfl,fun _=>rfl,fun _=>rfl⟩
  intro σx HX hJ
  refine yj9 fun G hG=>?_
  obtain ⟨b1,b2,b3,b4,q,vt,vz,vh,vo,dt,dz,dh,dor,rfl,sX,pX,qX,at1,az1,ah1,ao1,fl1,j1,j2,j3⟩:=hJ
  obtain rfl:=j1 (by decide)
  obtain rfl:=j2 (by decide)
  obtain rfl:=j3 (by decide)
  refine hG ?_
  clear hG
  -- the size
  refine ⟨JJ (fun q=>[some (.ref a),some (.int i),some (.int c),some (.ref dp),some (.int (bs.length:Nat)),some (.ref t),some (.ref O),some (.ref L),some (.ref cp),some (.ref x),some (.ref D),some (.ref p),some (.ref q),o13,o14]) HG p Cc cp T (bs.length:Nat) (.list (hs.map hmD)) bs 2,?_,?_⟩
  ·refine ⟨_,rfl,dp,_,_,_,rfl,rfl,SqL.of (dpG sX),yad 3 (ya7 g3),rfl,_,rfl,?_⟩
   by_cases h3:e3=0
   rotate_left
   ·refine iteN (decide_eq_false (fun z=>h3 (V.int.inj z))) ?_
    exact ⟨false,false,false,b4,q,vt,vz,vh,vo,dt,dz,dh,dor,rfl,sX,pX,qX,at1,az1,ah1,ao1,fl1,fun _=>rfl,fun _=>rfl,fun h=>absurd h (by decide)⟩
   refine iteB (decide_eq_true (by rw[h3])) ?_
   obtain ⟨dn,hdn⟩:∃ d,(szO ((bs.length:Nat):Int))[e5.toNat]?=some d:=⟨_,List.getElem?_eq_getElem (by show e5.toNat<8;omega)⟩
   refine qhn (p:=p) (j:=1) (d:=dn) (qhd (i:=e5) (ds:=szO ((bs.length:Nat):Int)) (qi6 ?_) (fun H2 s2 Q2 k2=>⟨_,rfl,dp,_,_,_,rfl,rfl,SqL.of (dpG (sX.trans s2)),yad 5 (ya7 g5),k2⟩) b5 (by show e5<(8:Int);omega) hdn) (hidN (by rw[pX];intro z;cases z) sX) pX rfl rfl fun v HL sL av=>?_
   ·unfold szO
    repeat' (first|exact qe7|exact qjz|exact qga|exact yb1|exact yhb|exact ybu|refine yas ?_ ?_|refine qhk ?_|refine ybn ?_|exact yhl rfl)
   have sGL:=sX.trans sL
   have sGM:Same HG (upd HL p (.lst ([vt,vz,vh,.ref cp,vo].set 1 v))):=sGL.at np
   have qM:=putq (o:=.lst ([vt,vz,vh,.ref cp,vo].set 1 v)) (qam sL [p,Cc] _ _ qX)
   refine yfo (L:=[p,Cc]) (d:=.list [.str "memory",.str "memory",.str (due2 false b4)]) (ybn (yas yb1 (yas yb1 (yas (ymd rfl qM (yad 2 rfl) (.str _)) ybu)))) (hidN (by rw[yaa];intro z;cases z) sGM) fun vq HN sN aN=>?_
   obtain ⟨q2,rfl,hq2⟩:=qep aN
   have up:∀ {v d},AtX (qap HL [p,Cc]) v d→AtX (qap HN [p,Cc]) v d:=fun h=>(put h).same (qam sN _)
   have um:∀ {v d},AtX (qap HX [p,Cc]) v d→AtX (qap HN [p,Cc]) v d:=fun h=>up (h.same (qam sL _))
   obtain ⟨bz,smz⟩:=sz_bad n3 n8 rfl dn (List.mem_of_getElem? hdn)
   exact ⟨false,false,true,b4,q2,vt,v,vh,vo,dt,dn,dh,dor,rfl,sGM.trans sN,sN _ _ yaa,hq2,um at1,up av,um ah1,um ao1,⟨fl1.o,⟨fun _=>bz,fun z=>(by cases z)⟩,fl1.h,fl1.t,fl1.st,smz,fl1.sh,fl1.so⟩,fun _=>rfl,fun _=>rfl,fun h=>absurd h (by decide)⟩
  clear at1 az1 ah1 ao1 fl1 sX pX qX j1 j2 j3
  intro σx HX hJ
  refine yj9 fun G hG=>?_
  obtain ⟨b1,b2,b3,b4,q,vt,vz,vh,vo,dt,dz,dh,dor,rfl,sX,pX,qX,at1,az1,ah1,ao1,fl1,j1,j2,j3⟩:=hJ
  obtain rfl:=j1 (by decide)
  obtain rfl:=j2 (by decide)
  refine hG ?_
  clear hG
  -- the harms
  refine ⟨JJ (fun q=>[some (.ref a),some (.int i),some (.int c),some (.ref dp),some (.int (bs.length:Nat)),some (.ref t),some (.ref O),some (.ref L),some (.ref cp),some (.ref x),some (.ref D),some (.ref p),some (.ref q),o13,o14]) HG p Cc cp T (bs.length:Nat) (.list (hs.map hmD)) bs 3,?_,?_⟩
  ·refine ⟨_,rfl,dp,_,_,_,rfl,rfl,SqL.of (dpG sX),yad 2 (ya7 g2),rfl,_,rfl,?_⟩
   by_cases h2:e2=0
   rotate_left
   ·refine iteN (decide_eq_false (fun z=>h2 (V.int.inj z))) ?_
    exact ⟨false,false,b3,b4,q,vt,vz,vh,vo,dt,dz,dh,dor,rfl,sX,pX,qX,at1,az1,ah1,ao1,fl1,fun _=>rfl,fun h=>absurd h (by decide),fun h=>absurd h (by decide)⟩
   refine iteB (decide_eq_true (by rw[h2])) ?_
   obtain ⟨dn,hdn⟩:∃ d,hmO[e5.toNat]?=some d:=⟨_,List.getElem?_eq_getElem (by show e5.toNat<8;omega)⟩
   refine qhn (p:=p) (j:=2) (d:=dn) (qhd (i:=e5) (ds:=hmO) (qj3 ?_) (fun H2 s2 Q2 k2=>⟨_,rfl,dp,_,_,_,rfl,rfl,SqL.of (dpG (sX.trans s2)),yad 5 (ya7 g5),k2⟩) b5 (by show e5<(8:Int);omega) hdn) (hidN (by rw[pX];intro z;cases z) sX) pX rfl rfl fun v HL sL av=>?_
   ·repeat' (first|exact yh6|exact qh2|refine qb1 ?_ ?_|refine qe6 ?_|exact qe7|exact qjz|exact qga|exact yb1|exact yhb|exact ybu|refine yas ?_ ?_|refine qhk ?_|refine ybn ?_)
   have sGL:=sX.trans sL
   have sGM:Same HG (upd HL p (.lst ([vt,vz,vh,.ref cp,vo].set 2 v))):=sGL.at np
   have qM:=putq (o:=.lst ([vt,vz,vh,.ref cp,vo].set 2 v)) (qam sL [p,Cc] _ _ qX)
   refine yfo (L:=[p,Cc]) (d:=.list [.str "harms",.str "harms",.str (due2 false b4)]) (ybn (yas yb1 (yas yb1 (yas (ymd rfl qM (yad 2 rfl) (.str _)) ybu)))) (hidN (by rw[yaa];intro z;cases z) sGM) fun vq HN sN aN=>?_
   obtain ⟨q2,rfl,hq2⟩:=qep aN
   have up:∀ {v d},AtX (qap HL [p,Cc]) v d→AtX (qap HN [p,Cc]) v d:=fun h=>(put h).same (qam sN _)
   have um:∀ {v d},AtX (qap HX [p,Cc]) v d→AtX (qap HN [p,Cc]) v d:=fun h=>up (h.same (qam sL _))
   obtain ⟨bz,smz⟩:=hm_bad dn (List.mem_of_getElem? hdn)
   exact ⟨false,true,b3,b4,q2,vt,vz,v,vo,dt,dz,dn,dor,rfl,sGM.trans sN,sN _ _ yaa,hq2,um at1,um az1,up av,um ao1,⟨fl1.o,fl1.z,⟨fun _=>bz,fun z=>(by cases z)⟩,fl1.t,fl1.st,fl1.sz,smz,fl1.so⟩,fun _=>rfl,fun h=>absurd h (by decide),fun h=>absurd h (by decide)⟩
  clear at1 az1 ah1 ao1 fl1 sX pX qX j1 j2 j3
  intro σx HX hJ
  refine yj9 fun G hG=>?_
  obtain ⟨b1,b2,b3,b4,q,vt,vz,vh,vo,dt,dz,dh,dor,rfl,sX,pX,qX,at1,az1,ah1,ao1,fl1,j1,j2,j3⟩:=hJ
  obtain rfl:=j1 (by decide)
  refine hG ?_
  clear hG
  -- the test
  refine ⟨JJ (fun q=>[some (.ref a),some (.int i),some (.int c),some (.ref dp),some (.int (bs.length:Nat)),some (.ref t),some (.ref O),some (.ref L),some (.ref cp),some (.ref x),some (.ref D),some (.ref p),some (.ref q),o13,o14]) HG p Cc cp T (bs.length:Nat) (.list (hs.map hmD)) bs 4,?_,?_⟩
  ·refine ⟨_,rfl,dp,_,_,_,rfl,rfl,SqL.of (dpG sX),yad 1 (ya7 g1),rfl,_,rfl,?_⟩
   by_cases h1:e1=0
   rotate_left
   ·refine iteN (decide_eq_false (fun z=>h1 (V.int.inj z))) ?_
    exact ⟨false,b2,b3,b4,q,vt,vz,vh,vo,dt,dz,dh,dor,rfl,sX,pX,qX,at1,az1,ah1,ao1,fl1,fun h=>absurd h (by decide),fun h=>absurd h (by decide),fun h=>absurd h (by decide)⟩
   refine iteB (decide_eq_true (by rw[h1])) ?_
   obtain ⟨dn,hdn⟩:∃ d,(tsO (T.map qd2))[e5.toNat]?=some d:=⟨_,List.getElem?_eq_getElem (by show e5.toNat<8;omega)⟩
   have aTX:At (qap HX [p,Cc]) (.ref t) (.list (T.map qd2)):=good sX aT
   refine qhn (p:=p) (j:=0) (d:=dn) (qhd (i:=e5) (ds:=tsO (T.map qd2)) (qi6 ?_) (fun H2 s2 Q2 k2=>⟨_,rfl,dp,_,_,_,rfl,rfl,SqL.of (dpG (sX.trans s2)),yad 5 (ya7 g5),k2⟩) b5 (by show e5<(8:Int);omega) hdn) (hidN (by rw[pX];intro z;cases z) sX) pX rfl rfl fun v HL sL av=>?_
   ·unfold tsO
    refine ybn ?_
    refine yas qe7 (yas (ybn ybu) (yas (yh9 (qb8 rfl aTX)) (yas ?_ (yas ?_ (yas ?_ (yas yb1 (yas (qfx (n:=9) (qb8 rfl aTX) (by decide) (by rw[List.length_map];omega)) ybu)))))))
    all_goals repeat' (first|exact qe7|exact qjz|exact qga|exact yb1|exact yhb|exact ybu|refine yas ?_ ?_|refine qhk ?_|refine ybn ?_)
   have sGL:=sX.trans sL
   have sGM:Same HG (upd HL p (.lst ([vt,vz,vh,.ref cp,vo].set 0 v))):=sGL.at np
   refine yfo (L:=[p,Cc]) (d:=.list [.str "test",.str "test",.str "test"]) (show Lay _ _ _ (.list (List.replicate 3 [PyData.str "test"]).flatten) _ from qfx (n:=3) (ybn (yas yb1 ybu)) (by decide) (by decide)) (hidN (by rw[yaa];intro z;cases z) sGM) fun vq HN sN aN=>?_
   obtain ⟨q2,rfl,hq2⟩:=qep aN
   have up:∀ {v d},AtX (qap HL [p,Cc]) v d→AtX (qap HN [p,Cc]) v d:=fun h=>(put h).same (qam sN _)
   have um:∀ {v d},AtX (qap HX [p,Cc]) v d→AtX (qap HN [p,Cc]) v d:=fun h=>up (h.same (qam sL _))
   obtain ⟨bz,smz⟩:=ts_bad okt hT3 dn (List.mem_of_getElem? hdn)
   exact ⟨true,b2,b3,b4,q2,v,vz,vh,vo,dn,dz,dh,dor,rfl,sGM.trans sN,sN _ _ yaa,hq2,up av,um az1,um ah1,um ao1,⟨fl1.o,fl1.z,fl1.h,⟨fun _=>bz,fun z=>(by cases z)⟩,smz,fl1.sz,fl1.sh,fl1.so⟩,fun h=>absurd h (by decide),fun h=>absurd h (by decide),fun h=>absurd h (by decide)⟩
  clear at1 az1 ah1 ao1 fl1 sX pX qX j1 j2 j3
  intro σx HX hJ
  refine yj9 fun G hG=>?_
  obtain ⟨b1,b2,b3,b4,q,vt,vz,vh,vo,dt,dz,dh,dor,rfl,sX,pX,qX,at1,az1,ah1,ao1,fl1,_,_,_⟩:=hJ
  refine hG ?_
  clear hG
  have ac1:AtX (qap HX [p,Cc]) (.ref cp) (qck bs):=.inl (good sX aC)
  have hall0:AllX (qap HX [p,Cc]) [vt,vz,vh,.ref cp,vo] [dt,dz,dh,qck bs,dor]:=.cons at1 (.cons az1 (.cons ah1 (.cons ac1 (.cons ao1 .nil))))
  have smC:Sm 6 8000 (qck bs):=(Sm.list (n:=8) (D:=0) (B:=0) (fun y hy=>by
   obtain ⟨c,hc,rfl⟩:=List.mem_map.mp hy
   obtain ⟨b,rfl⟩:=hcb c hc
   exact qld (by cases b<;>decide)) (by rw[List.length_map];exact n8)).mono
  obtain ⟨r1,r2,r3⟩:=(Sm.list (n:=5) (D:=6) (B:=8000) (xs:=[dt,dz,dh,qck bs,dor]) (fun y hy=>by
   simp only[List.mem_cons,List.not_mem_nil,or_false] at hy
   rcases hy with rfl|rfl|rfl|rfl|rfl
   ·exact fl1.st
   ·exact fl1.sz
   ·exact fl1.sh
   ·exact smC
   ·exact fl1.so) (by simp)).shown
  have hall:AllX HX [vt,vz,vh,.ref cp,vo] [dt,dz,dh,qck bs,dor]:=hall0.same (qal _ _)
  refine ⟨_,rfl,p,_,_,rfl,pX,(fun z=>by cases z),hall,r1,r2,r3,?_⟩
  refine gn ?_
  try dsimp only
  generalize hkp:(PyData.list [dt,dz,dh,qck bs,dor]).shown=kp
  have s4X:Same H4 HX:=((((s6.trans s7).trans s8).trans s8C).trans (sD.trans sDG)).trans sX
  have s4D:Same H4 HD:=(((s6.trans s7).trans s8).trans s8C).trans sD
  have moX:=moG.same sX
  have eDX:=sX _ _ eD
  have qX':HX q=some (.lst [.str (due0 b1 b2 b3 b4),.str (due0 b1 b2 b3 b4),.str (due2 b1 b4)]):=qal _ _ _ _ qX
  have hq:q∉[p,Cc]:=fun z=>by rw[show qap HX [p,Cc] q=none from if_pos z] at qX;cases qX
  have hqC':q≠Cc:=fun z=>hq (by rw[z];simp)
  have ru:=fl1.run okt hnb hmem
  have ru2:=fl1.run2 okt
  have hTT:qbe dt=none→dt=ybv T∧okT T:=fun h=>by
   cases hb:b1 with
   | false=>exact ⟨fl1.t.2 hb,okt⟩
   | true=>have:=fl1.t.1 hb;rw[h] at this;cases this
  refine ⟨3,rfl,by decide,by decide,yep (n:=3) (fun j σ H'=>∃ o14:Option V,σ=[some (.ref a),some (.int i),some (.int c),some (.ref dp),some (.int (bs.length:Nat)),some (.ref t),some (.ref O),some (.ref L),some (.ref cp),some (.ref x),some (.ref D),some (.ref p),some (.ref q),some (.str kp),o14]∧Same H4 H'∧(j≤2→Same HX H')) ⟨o14,rfl,s4X,fun _=>Same.refl HX⟩ ?_ ?_⟩
  rotate_left
  ·rintro σ HY ⟨o14,rfl,s4Y,_⟩
   exact ⟨_,_,_,_,_,_,_,_,_,_,_,_,_,_,rfl,s4Y⟩
  rintro j σ HY hj ⟨o14,rfl,s4Y,sY0⟩
  rw[Int.zero_add]
  have sY:=sY0 (by omega)
  clear sY0
  have hdue:=due_at b1 b2 b3 b4 j hj
  have moY:=moX.same sY
  -- where all stays
  have stay:∀ {HZ:Hp},Same HY HZ→AllX HZ [vt,vz,vh,.ref cp,vo] [dt,dz,dh,qck bs,dor]:=fun s=>hall.same (sY.trans s)
  refine ⟨_,rfl,_,rfl,_,rfl,j,p,x,L',Cc,vt,vz,vh,.ref cp,vo,dt,dz,dh,qck bs,dor,T,us,hs,st,rfl,hj,sY _ _ pX,(at1.same (qal _ _)).same sY,(az1.same (qal _ _)).same sY,(ah1.same (qal _ _)).same sY,(ac1.same (qal _ _)).same sY,(ao1.same (qal _ _)).same sY,hTT,moY,irS,by omega,fun hw HZ sZ=>?_,fun hw hd HZ dz' uZ=>?_,fun hw hd HZ sZ=>?_⟩
  ·have sXZ:=sY.trans sZ
   refine ⟨_,rfl,_,rfl,q,_,_,_,rfl,rfl,SqL.of (sXZ _ _ qX'),hdue,rfl,_,rfl,iteN (by rw[ru,if_neg (by omega)];simp) ?_⟩
   refine ⟨_,rfl,q,_,_,_,rfl,rfl,SqL.of (sXZ _ _ qX'),yad 2 rfl,rfl,_,rfl,?_⟩
   by_cases h2:due2 b1 b4="told"
   ·refine iteN (by rw[h2];rfl) (iteF ?_)
    refine ⟨_,rfl,p,_,_,rfl,sXZ _ _ pX,(fun z=>by cases z),stay sZ,r1,r2,r3,_,rfl,rfl,_,rfl,iteN (by rw[hkp];simp) ?_⟩
    exact ⟨_,rfl,s4Y.trans sZ,fun _=>sXZ⟩
   ·refine iteB (by simp[h2]) ?_
    obtain ⟨dw,hoZ⟩:=(moX.same sXZ).o
    refine ⟨_,rfl,x,dw,_,rfl,hoZ,lk_n,x,L',Cc,us,hs,st,rfl,moX.same sXZ,fun D2 nD2=>?_⟩
    have sD2:Same HZ (upd HZ D2 (.lst (st.map V.int))):=(Same.refl HZ).upd nD2
    have eD2:upd HZ D2 (.lst (st.map V.int)) D2=some (.lst (st.map V.int)):=yaa
    revert sD2 eD2
    generalize upd HZ D2 (.lst (st.map V.int))=HW
    intro sD2 eD2
    refine ⟨_,rfl,_,_,ygj eD2,ygj ((sXZ.trans sD2) _ _ eDX),qc0 _,qc0 _,Nat.le_trans (yg9 _) (by decide),_,rfl,iteN (by rw[SeqAt.eqv_refl _ (qc0 _)];rfl) ?_⟩
    refine ⟨_,rfl,p,_,_,rfl,(sXZ.trans sD2) _ _ pX,(fun z=>by cases z),stay (sZ.trans sD2),r1,r2,r3,_,rfl,rfl,_,rfl,iteN (by rw[hkp];simp) ?_⟩
    exact ⟨_,rfl,s4Y.trans (sZ.trans sD2),fun _=>sXZ.trans sD2⟩
  ·subst hw
   rw[ru2] at hd
   have keep:∀ {b:Addr}{o:HO},b≠Cc→HX b=some o→HZ b=some o:=fun h e=>uZ.st _ _ h (sY _ _ e)
   have qZ:=keep hqC' qX'
   have allZ:AllX HZ [vt,vz,vh,.ref cp,vo] [dt,dz,dh,qck bs,dor]:=hall0.same fun b o e=>keep (fun z=>by rw[show qap HX [p,Cc] b=none from if_pos (by rw[z];simp)] at e;cases e) (qal _ _ _ _ e)
   refine ⟨_,rfl,_,rfl,q,_,_,_,rfl,rfl,SqL.of qZ,hdue,rfl,_,rfl,iteN (by rw[if_pos rfl,hd];rfl) ?_⟩
   refine ⟨_,rfl,q,_,_,_,rfl,rfl,SqL.of qZ,yad 2 rfl,rfl,_,rfl,iteN (by rw[hd];rfl) (iteF ?_)⟩
   refine ⟨_,rfl,p,_,_,rfl,keep hpC pX,(fun z=>by cases z),allZ,r1,r2,r3,_,rfl,rfl,_,rfl,iteN (by rw[hkp];simp) ?_⟩
   refine ⟨_,rfl,fun b o e=>?_,fun h=>absurd h (by decide)⟩
   exact uZ.st _ _ (nCG (s4D _ _ e)) (s4Y _ _ e)
  ·subst hw
   rw[ru2] at hd ⊢
   have sXZ:=sY.trans sZ
   refine ⟨_,rfl,_,rfl,q,_,_,_,rfl,rfl,SqL.of (sXZ _ _ qX'),hdue,rfl,_,rfl,iteN (by rw[if_pos rfl];simp) ?_⟩
   refine ⟨_,rfl,q,_,_,_,rfl,rfl,SqL.of (sXZ _ _ qX'),yad 2 rfl,rfl,_,rfl,iteB (by simp[hd]) ?_⟩
   obtain ⟨dw,hoZ⟩:=(moX.same sXZ).o
   refine ⟨_,rfl,x,dw,_,rfl,hoZ,lk_n,x,L',Cc,us,hs,st,rfl,moX.same sXZ,fun D2 nD2=>?_⟩
   have sD2:Same HZ (upd HZ D2 (.lst (st.map V.int))):=(Same.refl HZ).upd nD2
   have eD2:upd HZ D2 (.lst (st.map V.int)) D2=some (.lst (st.map V.int)):=yaa
   revert sD2 eD2
   generalize upd HZ D2 (.lst (st.map V.int))=HW
   intro sD2 eD2
   refine ⟨_,rfl,_,_,ygj eD2,ygj ((sXZ.trans sD2) _ _ eDX),qc0 _,qc0 _,Nat.le_trans (yg9 _) (by decide),_,rfl,iteN (by rw[SeqAt.eqv_refl _ (qc0 _)];rfl) ?_⟩
   refine ⟨_,rfl,p,_,_,rfl,(sXZ.trans sD2) _ _ pX,(fun z=>by cases z),stay (sZ.trans sD2),r1,r2,r3,_,rfl,rfl,_,rfl,iteN (by rw[hkp];simp) ?_⟩
   exact ⟨_,rfl,s4Y.trans (sZ.trans sD2),fun h=>absurd h (by decide)⟩
end
section
variable {P:Program}{w:World}{K:PySem.W.Frag}{mg:Str→Option Value}{base:Heap}
noncomputable abbrev qd1:Stmt:=ydu (top 4) 0
theorem qii:FnScope ["self","number"] ["self","number"] (yac qd1):=⟨rfl,rfl,rfl,by decide +kernel,rfl,by decide +kernel,by decide +kernel⟩
theorem ylj {f C:Addr}{fd:FuncData} (F:Fun K "__init__" "NoHarms.__init__" qd1 f fd) (c:XOk K C) (n1:NoF K C "number"):FnOk P w K mg base CX0 1 f fd ["self","number"] (sp_x1 C "number"):=by
 refine F.ok qii (fun vs H Q E h=>?_) (fun cdv A outer s H vs Q E hr h=>?_)
 ·obtain ⟨a,v,rfl,_⟩:=h
  rfl
 ·obtain ⟨a,v,rfl,hx,k⟩:=h
  have sc:=qii
  refine ⟨_,(yaf (yjd (pv 0) (pv 1))),?_⟩
  exact ⟨_,rfl,_,rfl,a,C,none,[],rfl,hx,c,n1,by decide,fun d H1 x1 s1=>k d H1 x1 s1⟩
noncomputable abbrev yey:Stmt:=ydu (top 2) 0
theorem yju:FnScope ["self","element","step"] ["self","element","step"] (yac yey):=⟨rfl,rfl,rfl,by decide +kernel,rfl,by decide +kernel,by decide +kernel⟩
theorem ok_iTest {f C:Addr}{fd:FuncData} (F:Fun K "__init__" "NoTest.__init__" yey f fd) (c:XOk K C) (n1:NoF K C "element") (n2:NoF K C "step"):FnOk P w K mg base CX0 1 f fd ["self","element","step"] (sp_x2 C "element" "step"):=by
 refine F.ok yju (fun vs H Q E h=>?_) (fun cdv A outer s H vs Q E hr h=>?_)
 ·obtain ⟨a,v,u,rfl,_⟩:=h
  rfl
 ·obtain ⟨a,v,u,rfl,hx,k⟩:=h
  have sc:=yju
  refine ⟨_,(yah (yjd (pv 0) (pv 1)) (yaf (yjd (pv 0) (pv 2)))),?_⟩
  refine ⟨_,rfl,_,rfl,a,C,none,[],rfl,hx,c,n1,by decide,fun d H1 x1 s1=>?_⟩
  refine ⟨_,rfl,_,rfl,a,C,some d,_,rfl,x1,c,n2,by show 1<100;decide,fun d2 H2 x2 s2=>?_⟩
  obtain ⟨e,s3⟩:=s1.then2 s2
  subst e
  exact k _ H2 x2 s3
end
end Mh
namespace Mh
open PySem L2 PyProof.Rows
open Mx
theorem yd3 {K:PySem.W.Frag}{a:Addr}{xs:List V}{od:Option Addr}{its:Array Value}{n:Nat}{sl:Array (Option Value)} (h2:K.lookup a=some ⟨.type "tuple",od,.seq its n,sl⟩) (z:its.size≤sizeLine) (r:Vals xs its.toList):∀ H,SqT K H a xs:=
 fun H=>.inr ⟨_,its,n,h2,rfl,rfl,z,r⟩
noncomputable def xcO (o:Obj) (C:Addr):Option (List Value):=match o with
 | ⟨.type "type",_,.cls cd,sl⟩=>(match cd.mro,sl.toList with
  | .ref D::bm,[_,_,_,_,some (.builtin n),_]=>if (D == C&&n == "ValueError.__new__" && !cd.hasDel&&cd.hasDict)=true then some bm else none
  | _,_=>none)
 | _=>none
theorem qlj {o:Obj}{C:Addr}{bm:List Value} (q:xcO o C=some bm):∃ od cd sl k0 k1 k2 k3 k5,o=⟨.type "type",od,.cls cd,sl⟩∧cd.mro=.ref C::bm∧sl.toList=[k0,k1,k2,k3,some (.builtin "ValueError.__new__"),k5]∧cd.hasDel=false∧cd.hasDict=true:=by
 unfold xcO at q
 split at q
 ·rename_i od cd sl
  split at q
  ·rename_i D bm' n k0 k1 k2 k3 n' k5 h1 h2
   split at q
   ·rename_i h3
    cases q
    simp only[Bool.and_eq_true,beq_iff_eq,Bool.not_eq_true'] at h3
    obtain ⟨⟨⟨rfl,rfl⟩,h5⟩,h6⟩:=h3
    exact ⟨od,cd,sl,_,_,_,_,_,rfl,h1,h2,h5,h6⟩
   ·cases q
  ·cases q
 ·cases q
theorem qiy {K:PySem.W.Frag}{o:Obj}{C:Addr}{bm:List Value} (l:K.lookup C=some o) (q:xcO o C=some bm) (e:PySem.W.excIn K C bmV "ValueError.__new__" = true):PySem.W.tailIn K bmV bm=true:=by
 obtain ⟨od,cd,sl,k0,k1,k2,k3,k5,rfl,h1,h2,h5,h6⟩:=qlj q
 unfold PySem.W.excIn at e
 rw[l] at e
 simp only[h1,h2,Bool.and_eq_true] at e
 exact e.1.1.2
theorem xclsB_of {K:PySem.W.Frag}{o:Obj}{C:Addr}{bm:List Value} (l:K.lookup C=some o) (q:xcO o C=some bm) (t:PySem.W.tailIn K bmV bm=true):qfm K C=true:=by
 obtain ⟨od,cd,sl,k0,k1,k2,k3,k5,rfl,h1,h2,h5,h6⟩:=qlj q
 unfold qfm
 rw[l]
 simp only[h1,h2,h5,h6,t]
 simp
theorem yjk {K:PySem.W.Frag}{o:Obj}{C:Addr}{bm:List Value} (l:K.lookup C=some o) (q:xcO o C=some bm) (t:PySem.W.tailIn K bmV bm=true) (ga:PySem.W.findIn K (.ref C) "__getattribute__" = some (some (.builtin "BaseException.__getattribute__"))) (gh:PySem.W.findIn K (.ref C) "__getattr__" = some none)
  (ha:PySem.W.findIn K (.ref C) "__class__" = some (some (.builtin "object.__class__"))) (hn:PySem.W.specialIn K (.builtin "object.__class__") "__get__" = some (some (.builtin "getset_descriptor.__get__"))) (tk:PySem.W.takesIn K (.builtin "object.__class__")=some true) (hm:PySem.W.mroIn K C (.type "object")=some true)
  (sa:PySem.W.findIn K (.ref C) "__setattr__" = some (some (.builtin "object.__setattr__"))):XOk K C:=by
 refine ⟨⟨xclsB_of l q t,ga,gh,?_,ha,hn,tk,hm⟩,sa⟩
 obtain ⟨od,cd,sl,k0,k1,k2,k3,k5,rfl,h1,h2,h5,h6⟩:=qlj q
 unfold PySem.W.clsIn
 rw[l]
 rfl
theorem fnAt_mk {K:PySem.W.Frag}{h:Heap}{mg:Str→Option Value}{x:Str}{st:Stmt}{ps:List Str}{f:Addr}{oc:Value}{od an:Option Addr}{osl:Array (Option Value)}{kV doc pm cdv ct:Value} (X:K.In h) (G:h.Ns mainGlobals mg)
  (a:PySem.W.nsIn K mainGlobals x=some (some (.ref f))) (l:K.lookup f=some ⟨oc,od,.func (PySem.W.fnOf x x (ybd st) (yay st) (yac st) .none kV doc pm an cdv ct),osl⟩) (c:PySem.W.codeIn K cdv x=true) (k:PySem.W.keepIn K (.ref f)=true)
  (hb:∀ (kV doc pm:Value) (an:Option Addr) (cdv ct:Value) (us:List Value),us.length=ps.length→bindArgs (PySem.W.fnOf x x (ybd st) (yay st) (yac st) .none kV doc pm an cdv ct) ⟨us,[]⟩=pure (ps.zip us)):FnAt K mg x st ps:=by
 have F:=qb9 (st:=st) l c k
 exact ⟨f,_,PySem.W.mg_of X G a,F,F.binds hb⟩
noncomputable def FnP (K:PySem.W.Frag) (x:Str) (st:Stmt):Prop:=∃ (f:Addr) (oc:Value) (od an:Option Addr) (sl:Array (Option Value)) (kV dc pm cd ct:Value),PySem.W.nsIn K mainGlobals x=some (some (.ref f))∧K.lookup f=some ⟨oc,od,.func (PySem.W.fnOf x x (ybd st) (yay st) (yac st) .none kV dc pm an cd ct),sl⟩∧PySem.W.codeIn K cd x=true∧PySem.W.keepIn K (.ref f)=true
theorem FnP.at {K:PySem.W.Frag}{h:Heap}{mg:Str→Option Value}{x:Str}{st:Stmt}{ps:List Str} (p:FnP K x st) (X:K.In h) (G:h.Ns mainGlobals mg)
  (hb:∀ (kV doc pm:Value) (an:Option Addr) (cdv ct:Value) (us:List Value),us.length=ps.length→bindArgs (PySem.W.fnOf x x (ybd st) (yay st) (yac st) .none kV doc pm an cdv ct) ⟨us,[]⟩=pure (ps.zip us)):FnAt K mg x st ps:=by
 obtain ⟨f,oc,od,an,sl,kV,dc,pm,cd,ct,a,l,c,k⟩:=p
 exact fnAt_mk X G a l c k hb
set_option maxHeartbeats 0 in
theorem all_mk {l:PySem.W.OpenLaw}{w:World}{K:PySem.W.Frag}{h:Heap}{mg:Str→Option Value}{fa:Addr} (X:K.In h) (G:h.Ns mainGlobals mg) (hfa:mg "law" = some (.ref fa))
  (p0:FnP K "is_whole" ycw)
  (p1:FnP K "is_bit" qer)
  (p2:FnP K "is_one_of" ycj)
  (p3:FnP K "is_cell" ydq)
  (p4:FnP K "is_part" qdu)
  (p5:FnP K "has_word" qcz)
  (p6:FnP K "cells_in" ycy)
  (p7:FnP K "has_parts" ycf)
  (p8:FnP K "is_harm" qds)
  (p9:FnP K "look_at_harms" ybg)
  (p10:FnP K "cells_of" qcv)
  (p11:FnP K "stuck_bit" qc7)
  (p12:FnP K "put" s_put)
  (p13:FnP K "settle" yfv)
  (p14:FnP K "harm_of_address" qbk)
  (p15:FnP K "reached_cells" qb0)
  (p16:FnP K "read_cell" yc3)
  (p17:FnP K "read_at" qel)
  (p18:FnP K "is_slow" yev)
  (p19:FnP K "kept_bit" qd0)
  (p20:FnP K "act_on_others" qbw)
  (p21:FnP K "write_cell" qcq)
  (p22:FnP K "write_at" yd0)
  (p23:FnP K "is_size" qdl)
  (p24:FnP K "are_contents" ybp)
  (p25:FnP K "look_at_memory" qbd)
  (p26:FnP K "look_at_bit" yca)
  (p27:FnP K "is_pair" yeo)
  (p28:FnP K "is_filled" qdc)
  (p29:FnP K "is_step" qew)
  (p30:FnP K "is_framed" yc6)
  (p31:FnP K "look_at_element" ybl)
  (p32:FnP K "look_at_test" qb4)
  (p33:FnP K "is_order_for" yb3)
  (p34:FnP K "are_orders" ycq)
  (p35:FnP K "look_at_orders" qbs)
  (p36:FnP K "deeds" yht)
  (p37:FnP K "all_reads" yc8)
  (p38:FnP K "run_on" qfw)
  (p39:FnP K "reads_of" ydw)
  (p40:FnP K "first_shown" ycc)
  (p41:FnP K "_law_digits" qca)
  (p42:FnP K "_law_test" yc2)
  (p43:FnP K "_law_orders" yb9)
  (p44:FnP K "_law_harm" qc2)
  (p45:FnP K "_law_harms" ycl)
  (p46:FnP K "_law_kind" yc7)
  (p47:FnP K "_law_told" qc3)
  (p48:FnP K "_law_odd_orders" qbm)
  {f49:Addr}{od49 an49:Option Addr}{sl49:Array (Option Value)}{oc49 kV49 dc49 pm49 cd49 ct49:Value}
  (a49:PySem.W.nsIn K mainGlobals "law" = some (some (.ref f49)))
  (l49:K.lookup f49=some ⟨oc49,od49,.func (PySem.W.fnOf "law" "law" (ybd qhh) (yay qhh) (yac qhh) .none kV49 dc49 pm49 an49 cd49 ct49),sl49⟩)
  (c49:PySem.W.codeIn K cd49 "law" = true)
  (k49:PySem.W.keepIn K (.ref f49)=true)
  (z0:PySem.W.nsIn K mainGlobals "len" = some none)
  (z1:PySem.W.nsIn K mainGlobals "abs" = some none)
  (z2:PySem.W.nsIn K mainGlobals "max" = some none)
  (z3:PySem.W.nsIn K mainGlobals "min" = some none)
  (z4:PySem.W.nsIn K mainGlobals "repr" = some none)
  (z5:PySem.W.nsIn K mainGlobals "isinstance" = some none)
  (z6:PySem.W.nsIn K mainGlobals "int" = some none)
  (z7:PySem.W.nsIn K mainGlobals "bool" = some none)
  (z8:PySem.W.nsIn K mainGlobals "str" = some none)
  (z9:PySem.W.nsIn K mainGlobals "tuple" = some none)
  (z10:PySem.W.nsIn K mainGlobals "list" = some none)
  (z11:PySem.W.nsIn K mainGlobals "dict" = some none)
  (z12:PySem.W.nsIn K mainGlobals "range" = some none)
  (z13:PySem.W.nsIn K mainGlobals "enumerate" = some none)
  (z14:PySem.W.nsIn K mainGlobals "sorted" = some none)
  (z15:PySem.W.nsIn K mainGlobals "sum" = some none)
  {R0:Addr}
  (RA0:PySem.W.nsIn K mainGlobals "NoTest" = some (some (.ref R0)))
  {R1:Addr}
  (RA1:PySem.W.nsIn K mainGlobals "NoText" = some (some (.ref R1)))
  {R2:Addr}
  (RA2:PySem.W.nsIn K mainGlobals "NoHarms" = some (some (.ref R2)))
  {R3:Addr}
  (RA3:PySem.W.nsIn K mainGlobals "NoMemory" = some (some (.ref R3)))
  {R4:Addr}
  (RA4:PySem.W.nsIn K mainGlobals "NoAddress" = some (some (.ref R4)))
  {R5:Addr}
  (RA5:PySem.W.nsIn K mainGlobals "NoBit" = some (some (.ref R5)))
  {R6:Addr}
  (RA6:PySem.W.nsIn K mainGlobals "NoOrders" = some (some (.ref R6)))
  {R7:Addr}
  (RA7:PySem.W.nsIn K mainGlobals "NotSure" = some (some (.ref R7)))
  {R8:Addr}
  (RA8:PySem.W.nsIn K mainGlobals "NoKind" = some (some (.ref R8)))
  {R9:Addr}
  (RA9:PySem.W.nsIn K mainGlobals "NoSpares" = some (some (.ref R9)))
  {R10:Addr}
  (RA10:PySem.W.nsIn K mainGlobals "NoRow" = some (some (.ref R10)))
  {R11:Addr}
  (RA11:PySem.W.nsIn K mainGlobals "NoName" = some (some (.ref R11)))
  {R12:Addr}
  (RA12:PySem.W.nsIn K mainGlobals "TooMany" = some (some (.ref R12)))
  {RM:Addr}
  (RM_:PySem.W.nsIn K mainGlobals "MarchError" = some (some (.ref RM)))
  {Ro0:Obj}{Rbm:List Value}
  (Rlk0:K.lookup R0=some Ro0)
  (Rq0:xcO Ro0 R0=some Rbm)
  {Ro2:Obj}
  (Rlk2:K.lookup R2=some Ro2)
  (Rq2:xcO Ro2 R2=some Rbm)
  {Ro3:Obj}
  (Rlk3:K.lookup R3=some Ro3)
  (Rq3:xcO Ro3 R3=some Rbm)
  (Rex3:PySem.W.excIn K R3 bmV "ValueError.__new__" = true)
  {Ro6:Obj}
  (Rlk6:K.lookup R6=some Ro6)
  (Rq6:xcO Ro6 R6=some Rbm)
  (Rex6:PySem.W.excIn K R6 bmV "ValueError.__new__" = true)
  (Rkp0:PySem.W.keepIn K (.ref R0)=true)
  (Rga0:PySem.W.findIn K (.ref R0) "__getattribute__" = some (some (.builtin "BaseException.__getattribute__")))
  (Rgh0:PySem.W.findIn K (.ref R0) "__getattr__" = some none)
  (Rha0:PySem.W.findIn K (.ref R0) "__class__" = some (some (.builtin "object.__class__")))
  (Rhm0:PySem.W.mroIn K R0 (.type "object")=some true)
  (Rsa0:PySem.W.findIn K (.ref R0) "__setattr__" = some (some (.builtin "object.__setattr__")))
  (Ro0_0:PySem.W.kitOne K (.ref R0) (.ref R0)=some true)
  (Ro1_0:PySem.W.kitOne K (.ref R0) (.ref R1)=some false)
  (Ro2_0:PySem.W.kitOne K (.ref R0) (.ref R2)=some false)
  (Ro3_0:PySem.W.kitOne K (.ref R0) (.ref R3)=some false)
  (Ro4_0:PySem.W.kitOne K (.ref R0) (.ref R4)=some false)
  (Ro5_0:PySem.W.kitOne K (.ref R0) (.ref R5)=some false)
  (Ro6_0:PySem.W.kitOne K (.ref R0) (.ref R6)=some false)
  (Ro7_0:PySem.W.kitOne K (.ref R0) (.ref R7)=some false)
  (Ro8_0:PySem.W.kitOne K (.ref R0) (.ref R8)=some false)
  (Ro9_0:PySem.W.kitOne K (.ref R0) (.ref R9)=some false)
  (Ro10_0:PySem.W.kitOne K (.ref R0) (.ref R10)=some false)
  (Ro11_0:PySem.W.kitOne K (.ref R0) (.ref R11)=some false)
  (Ro12_0:PySem.W.kitOne K (.ref R0) (.ref R12)=some false)
  (Rve0:PySem.W.kitOne K (.ref R0) (.type "ValueError")=some true)
  (Rem0:PySem.W.exmOne K (.ref R0) (.ref RM)=some true)
  (Rn0_0:PySem.W.findIn K (.ref R0) "element" = some none)
  (Rn0_1:PySem.W.findIn K (.ref R0) "step" = some none)
  {fI0:Addr}{odI0 anI0:Option Addr}{slI0:Array (Option Value)}{ocI0 kVI0 dcI0 pmI0 cdI0 ctI0:Value}
  (Rhi0:PySem.W.findIn K (.ref R0) "__init__" = some (some (.ref fI0)))
  (Rhf0:PySem.W.isFn K (.ref fI0)=true)
  (RlI0:K.lookup fI0=some ⟨ocI0,odI0,.func (PySem.W.fnOf "__init__" "NoTest.__init__" (ybd yey) (yay yey) (yac yey) .none kVI0 dcI0 pmI0 anI0 cdI0 ctI0),slI0⟩)
  (RcI0:PySem.W.codeIn K cdI0 "NoTest.__init__" = true)
  (RkI0:PySem.W.keepIn K (.ref fI0)=true)
  (Rkp2:PySem.W.keepIn K (.ref R2)=true)
  (Rga2:PySem.W.findIn K (.ref R2) "__getattribute__" = some (some (.builtin "BaseException.__getattribute__")))
  (Rgh2:PySem.W.findIn K (.ref R2) "__getattr__" = some none)
  (Rha2:PySem.W.findIn K (.ref R2) "__class__" = some (some (.builtin "object.__class__")))
  (Rhm2:PySem.W.mroIn K R2 (.type "object")=some true)
  (Rsa2:PySem.W.findIn K (.ref R2) "__setattr__" = some (some (.builtin "object.__setattr__")))
  (Ro0_2:PySem.W.kitOne K (.ref R2) (.ref R0)=some false)
  (Ro1_2:PySem.W.kitOne K (.ref R2) (.ref R1)=some false)
  (Ro2_2:PySem.W.kitOne K (.ref R2) (.ref R2)=some true)
  (Ro3_2:PySem.W.kitOne K (.ref R2) (.ref R3)=some false)
  (Ro4_2:PySem.W.kitOne K (.ref R2) (.ref R4)=some false)
  (Ro5_2:PySem.W.kitOne K (.ref R2) (.ref R5)=some false)
  (Ro6_2:PySem.W.kitOne K (.ref R2) (.ref R6)=some false)
  (Ro7_2:PySem.W.kitOne K (.ref R2) (.ref R7)=some false)
  (Ro8_2:PySem.W.kitOne K (.ref R2) (.ref R8)=some false)
  (Ro9_2:PySem.W.kitOne K (.ref R2) (.ref R9)=some false)
  (Ro10_2:PySem.W.kitOne K (.ref R2) (.ref R10)=some false)
  (Ro11_2:PySem.W.kitOne K (.ref R2) (.ref R11)=some false)
  (Ro12_2:PySem.W.kitOne K (.ref R2) (.ref R12)=some false)
  (Rve2:PySem.W.kitOne K (.ref R2) (.type "ValueError")=some true)
  (Rem2:PySem.W.exmOne K (.ref R2) (.ref RM)=some true)
  (Rn2_0:PySem.W.findIn K (.ref R2) "number" = some none)
  {fI2:Addr}{odI2 anI2:Option Addr}{slI2:Array (Option Value)}{ocI2 kVI2 dcI2 pmI2 cdI2 ctI2:Value}
  (Rhi2:PySem.W.findIn K (.ref R2) "__init__" = some (some (.ref fI2)))
  (Rhf2:PySem.W.isFn K (.ref fI2)=true)
  (RlI2:K.lookup fI2=some ⟨ocI2,odI2,.func (PySem.W.fnOf "__init__" "NoHarms.__init__" (ybd qd1) (yay qd1) (yac qd1) .none kVI2 dcI2 pmI2 anI2 cdI2 ctI2),slI2⟩)
  (RcI2:PySem.W.codeIn K cdI2 "NoHarms.__init__" = true)
  (RkI2:PySem.W.keepIn K (.ref fI2)=true)
  (Rkp3:PySem.W.keepIn K (.ref R3)=true)
  (Rga3:PySem.W.findIn K (.ref R3) "__getattribute__" = some (some (.builtin "BaseException.__getattribute__")))
  (Rgh3:PySem.W.findIn K (.ref R3) "__getattr__" = some none)
  (Rha3:PySem.W.findIn K (.ref R3) "__class__" = some (some (.builtin "object.__class__")))
  (Rhm3:PySem.W.mroIn K R3 (.type "object")=some true)
  (Rsa3:PySem.W.findIn K (.ref R3) "__setattr__" = some (some (.builtin "object.__setattr__")))
  (Ro0_3:PySem.W.kitOne K (.ref R3) (.ref R0)=some false)
  (Ro1_3:PySem.W.kitOne K (.ref R3) (.ref R1)=some false)
  (Ro2_3:PySem.W.kitOne K (.ref R3) (.ref R2)=some false)
  (Ro3_3:PySem.W.kitOne K (.ref R3) (.ref R3)=some true)
  (Ro4_3:PySem.W.kitOne K (.ref R3) (.ref R4)=some false)
  (Ro5_3:PySem.W.kitOne K (.ref R3) (.ref R5)=some false)
  (Ro6_3:PySem.W.kitOne K (.ref R3) (.ref R6)=some false)
  (Ro7_3:PySem.W.kitOne K (.ref R3) (.ref R7)=some false)
  (Ro8_3:PySem.W.kitOne K (.ref R3) (.ref R8)=some false)
  (Ro9_3:PySem.W.kitOne K (.ref R3) (.ref R9)=some false)
  (Ro10_3:PySem.W.kitOne K (.ref R3) (.ref R10)=some false)
  (Ro11_3:PySem.W.kitOne K (.ref R3) (.ref R11)=some false)
  (Ro12_3:PySem.W.kitOne K (.ref R3) (.ref R12)=some false)
  (Rve3:PySem.W.kitOne K (.ref R3) (.type "ValueError")=some true)
  (Rem3:PySem.W.exmOne K (.ref R3) (.ref RM)=some true)
  (Rkp6:PySem.W.keepIn K (.ref R6)=true)
  (Rga6:PySem.W.findIn K (.ref R6) "__getattribute__" = some (some (.builtin "BaseException.__getattribute__")))
  (Rgh6:PySem.W.findIn K (.ref R6) "__getattr__" = some none)
  (Rha6:PySem.W.findIn K (.ref R6) "__class__" = some (some (.builtin "object.__class__")))
  (Rhm6:PySem.W.mroIn K R6 (.type "object")=some true)
  (Rsa6:PySem.W.findIn K (.ref R6) "__setattr__" = some (some (.builtin "object.__setattr__")))
  (Ro0_6:PySem.W.kitOne K (.ref R6) (.ref R0)=some false)
  (Ro1_6:PySem.W.kitOne K (.ref R6) (.ref R1)=some false)
  (Ro2_6:PySem.W.kitOne K (.ref R6) (.ref R2)=some false)
  (Ro3_6:PySem.W.kitOne K (.ref R6) (.ref R3)=some false)
  (Ro4_6:PySem.W.kitOne K (.ref R6) (.ref R4)=some false)
  (Ro5_6:PySem.W.kitOne K (.ref R6) (.ref R5)=some false)
  (Ro6_6:PySem.W.kitOne K (.ref R6) (.ref R6)=some true)
  (Ro7_6:PySem.W.kitOne K (.ref R6) (.ref R7)=some false)
  (Ro8_6:PySem.W.kitOne K (.ref R6) (.ref R8)=some false)
  (Ro9_6:PySem.W.kitOne K (.ref R6) (.ref R9)=some false)
  (Ro10_6:PySem.W.kitOne K (.ref R6) (.ref R10)=some false)
  (Ro11_6:PySem.W.kitOne K (.ref R6) (.ref R11)=some false)
  (Ro12_6:PySem.W.kitOne K (.ref R6) (.ref R12)=some false)
  (Rve6:PySem.W.kitOne K (.ref R6) (.type "ValueError")=some true)
  (Rem6:PySem.W.exmOne K (.ref R6) (.ref RM)=some true)
  (Rhn:PySem.W.specialIn K (.builtin "object.__class__") "__get__" = some (some (.builtin "getset_descriptor.__get__")))
  (Rtk:PySem.W.takesIn K (.builtin "object.__class__")=some true)
  (RzV:PySem.W.nsIn K mainGlobals "ValueError" = some none)
  (zset:PySem.W.nsIn K mainGlobals "set" = some none)
  (zzip:PySem.W.nsIn K mainGlobals "zip" = some none)
  (zall:PySem.W.nsIn K mainGlobals "all" = some none)
  {w1 w2 w3:Tok}
  (aMC:PySem.W.nsIn K mainGlobals "MOST_CELLS" = some (some (.int 64 w1)))
  (aMH:PySem.W.nsIn K mainGlobals "MOST_HARMS" = some (some (.int 3 w2)))
  (aMU:PySem.W.nsIn K mainGlobals "MOST_UNLIKE" = some (some (.int 3 w3)))
  {tJ:Addr}{uj1 uj2:Tok}{odJ:Option Addr}{nJ:Nat}{slJ:Array (Option Value)}
  (aJ:PySem.W.nsIn K mainGlobals "JOININGS" = some (some (.ref tJ)))
  (lJ:K.lookup tJ=some ⟨.type "tuple",odJ,.seq #[.str "and" uj1,.str "or" uj2] nJ,slJ⟩)
  {tP qp0 qp1 qp2 qp3 qp4 qp5 qp6 qp7 qp8 qp9:Addr}{xp0 xp1 xp2 xp3 xp4 xp5 xp6 xp7 xp8 xp9:Int}{kp0 kp1 kp2 kp3 kp4 kp5 kp6 kp7 kp8 kp9:Tok}{epP:Nat}
  (aP:PySem.W.nsIn K mainGlobals "PARTS" = some (some (.ref tP)))
  (lP:K.lookup tP=some ⟨.type "dict",none,.dict #[⟨xp0,.str "stuck" kp0,.ref qp0⟩,⟨xp1,.str "slow" kp1,.ref qp1⟩,⟨xp2,.str "forgets" kp2,.ref qp2⟩,⟨xp3,.str "misreads" kp3,.ref qp3⟩,⟨xp4,.str "turns" kp4,.ref qp4⟩,⟨xp5,.str "sets" kp5,.ref qp5⟩,⟨xp6,.str "keeps" kp6,.ref qp6⟩,⟨xp7,.str "nowhere" kp7,.ref qp7⟩,⟨xp8,.str "other" kp8,.ref qp8⟩,⟨xp9,.str "both" kp9,.ref qp9⟩] epP,#[]⟩)
  (mP:(tP == sysModules)=false)
  {oqp0:Option Addr}{yp0_0 yp0_1:Tok}{mp0:Nat}{sqp0:Array (Option Value)}
  (tp0:K.lookup qp0=some ⟨.type "tuple",oqp0,.seq #[.str "cell" yp0_0,.str "bit" yp0_1] mp0,sqp0⟩)
  {oqp1:Option Addr}{yp1_0 yp1_1:Tok}{mp1:Nat}{sqp1:Array (Option Value)}
  (tp1:K.lookup qp1=some ⟨.type "tuple",oqp1,.seq #[.str "cell" yp1_0,.str "bit" yp1_1] mp1,sqp1⟩)
  {oqp2:Option Addr}{yp2_0 yp2_1:Tok}{mp2:Nat}{sqp2:Array (Option Value)}
  (tp2:K.lookup qp2=some ⟨.type "tuple",oqp2,.seq #[.str "cell" yp2_0,.str "bit" yp2_1] mp2,sqp2⟩)
  {oqp3:Option Addr}{yp3_0 yp3_1:Tok}{mp3:Nat}{sqp3:Array (Option Value)}
  (tp3:K.lookup qp3=some ⟨.type "tuple",oqp3,.seq #[.str "cell" yp3_0,.str "bit" yp3_1] mp3,sqp3⟩)
  {oqp4:Option Addr}{yp4_0 yp4_1 yp4_2:Tok}{mp4:Nat}{sqp4:Array (Option Value)}
  (tp4:K.lookup qp4=some ⟨.type "tuple",oqp4,.seq #[.str "cell" yp4_0,.str "cell" yp4_1,.str "bit" yp4_2] mp4,sqp4⟩)
  {oqp5:Option Addr}{yp5_0 yp5_1 yp5_2 yp5_3:Tok}{mp5:Nat}{sqp5:Array (Option Value)}
  (tp5:K.lookup qp5=some ⟨.type "tuple",oqp5,.seq #[.str "cell" yp5_0,.str "cell" yp5_1,.str "bit" yp5_2,.str "bit" yp5_3] mp5,sqp5⟩)
  {oqp6:Option Addr}{yp6_0 yp6_1 yp6_2 yp6_3:Tok}{mp6:Nat}{sqp6:Array (Option Value)}
  (tp6:K.lookup qp6=some ⟨.type "tuple",oqp6,.seq #[.str "cell" yp6_0,.str "cell" yp6_1,.str "bit" yp6_2,.str "bit" yp6_3] mp6,sqp6⟩)
  {oqp7:Option Addr}{yp7_0 yp7_1:Tok}{mp7:Nat}{sqp7:Array (Option Value)}
  (tp7:K.lookup qp7=some ⟨.type "tuple",oqp7,.seq #[.str "cell" yp7_0,.str "bit" yp7_1] mp7,sqp7⟩)
  {oqp8:Option Addr}{yp8_0 yp8_1:Tok}{mp8:Nat}{sqp8:Array (Option Value)}
  (tp8:K.lookup qp8=some ⟨.type "tuple",oqp8,.seq #[.str "cell" yp8_0,.str "cell" yp8_1] mp8,sqp8⟩)
  {oqp9:Option Addr}{yp9_0 yp9_1 yp9_2:Tok}{mp9:Nat}{sqp9:Array (Option Value)}
  (tp9:K.lookup qp9=some ⟨.type "tuple",oqp9,.seq #[.str "cell" yp9_0,.str "cell" yp9_1,.str "how" yp9_2] mp9,sqp9⟩)
  {tO:Addr}{u1 u2 u3:Tok}{odO:Option Addr}{nO:Nat}{slO:Array (Option Value)}
  (aO:PySem.W.nsIn K mainGlobals "ORDERS" = some (some (.ref tO)))
  (lO:K.lookup tO=some ⟨.type "tuple",odO,.seq #[.str "up" u1,.str "down" u2,.str "any" u3] nO,slO⟩)
  {tL:Addr}{v1 v2:Tok}{odL:Option Addr}{nL:Nat}{slL:Array (Option Value)}
  (aL:PySem.W.nsIn K mainGlobals "LETTERS" = some (some (.ref tL)))
  (lL:K.lookup tL=some ⟨.type "tuple",odL,.seq #[.str "r" v1,.str "w" v2] nL,slL⟩)
  {tK:Addr}{g1 g2:Tok}{odK:Option Addr}{nK:Nat}{slK:Array (Option Value)}
  (aK:PySem.W.nsIn K mainGlobals "TAKEN" = some (some (.ref tK)))
  (lK:K.lookup tK=some ⟨.type "tuple",odK,.seq #[.str "up" g1,.str "down" g2] nK,slK⟩)
  {w4 w5:Tok}
  (aT:PySem.W.nsIn K mainGlobals "MOST_IN_TEST" = some (some (.int 8 w4)))
  (aE:PySem.W.nsIn K mainGlobals "MOST_IN_ELEMENT" = some (some (.int 6 w5)))
  {C0:Addr}
  (ca0:PySem.W.nsIn K mainGlobals "Memory" = some (some (.ref C0)))
  (cp0:PySem.W.plainGet K C0 Str.empty=true)
  (cd0_:PySem.W.hasDictIn K C0=true)
  (co0:PySem.W.plainOver K C0=true)
  (cs0:PySem.W.findIn K (.ref C0) "__setattr__" = some (some (.builtin "object.__setattr__")))
  (cf0_0:PySem.W.findIn K (.ref C0) "harms" = some none)
  (cf0_1:PySem.W.findIn K (.ref C0) "cells" = some none)
  (cm0_:PySem.W.makesIn K C0=true)
  (ck0:PySem.W.keepIn K (.ref C0)=true)
  {fm0_0:Addr}{odm0_0 anm0_0:Option Addr}{slm0_0:Array (Option Value)}{ocm0_0 kVm0_0 dcm0_0 pmm0_0 cdm0_0 ctm0_0:Value}
  (am0_0:PySem.W.findIn K (.ref C0) "__init__" = some (some (.ref fm0_0)))
  (lm0_0:K.lookup fm0_0=some ⟨ocm0_0,odm0_0,.func (PySem.W.fnOf "__init__" "Memory.__init__" (ybd yao) (yay yao) (yac yao) .none kVm0_0 dcm0_0 pmm0_0 anm0_0 cdm0_0 ctm0_0),slm0_0⟩)
  (cm0_0:PySem.W.codeIn K cdm0_0 "Memory.__init__" = true)
  (im0_0:PySem.W.isFn K (.ref fm0_0)=true)
  (km0_0:PySem.W.keepIn K (.ref fm0_0)=true)
  {fm0_1:Addr}{odm0_1 anm0_1:Option Addr}{slm0_1:Array (Option Value)}{ocm0_1 kVm0_1 dcm0_1 pmm0_1 cdm0_1 ctm0_1:Value}
  (am0_1:PySem.W.findIn K (.ref C0) "look_at_address" = some (some (.ref fm0_1)))
  (lm0_1:K.lookup fm0_1=some ⟨ocm0_1,odm0_1,.func (PySem.W.fnOf "look_at_address" "Memory.look_at_address" (ybd yal) (yay yal) (yac yal) .none kVm0_1 dcm0_1 pmm0_1 anm0_1 cdm0_1 ctm0_1),slm0_1⟩)
  (cm0_1:PySem.W.codeIn K cdm0_1 "Memory.look_at_address" = true)
  (im0_1:PySem.W.isFn K (.ref fm0_1)=true)
  (km0_1:PySem.W.keepIn K (.ref fm0_1)=true)
  {fm0_2:Addr}{odm0_2 anm0_2:Option Addr}{slm0_2:Array (Option Value)}{ocm0_2 kVm0_2 dcm0_2 pmm0_2 cdm0_2 ctm0_2:Value}
  (am0_2:PySem.W.findIn K (.ref C0) "read" = some (some (.ref fm0_2)))
  (lm0_2:K.lookup fm0_2=some ⟨ocm0_2,odm0_2,.func (PySem.W.fnOf "read" "Memory.read" (ybd qa4) (yay qa4) (yac qa4) .none kVm0_2 dcm0_2 pmm0_2 anm0_2 cdm0_2 ctm0_2),slm0_2⟩)
  (cm0_2:PySem.W.codeIn K cdm0_2 "Memory.read" = true)
  (im0_2:PySem.W.isFn K (.ref fm0_2)=true)
  (km0_2:PySem.W.keepIn K (.ref fm0_2)=true)
  {fm0_3:Addr}{odm0_3 anm0_3:Option Addr}{slm0_3:Array (Option Value)}{ocm0_3 kVm0_3 dcm0_3 pmm0_3 cdm0_3 ctm0_3:Value}
  (am0_3:PySem.W.findIn K (.ref C0) "write" = some (some (.ref fm0_3)))
  (lm0_3:K.lookup fm0_3=some ⟨ocm0_3,odm0_3,.func (PySem.W.fnOf "write" "Memory.write" (ybd qa0) (yay qa0) (yac qa0) .none kVm0_3 dcm0_3 pmm0_3 anm0_3 cdm0_3 ctm0_3),slm0_3⟩)
  (cm0_3:PySem.W.codeIn K cdm0_3 "Memory.write" = true)
  (im0_3:PySem.W.isFn K (.ref fm0_3)=true)
  (km0_3:PySem.W.keepIn K (.ref fm0_3)=true)
  {fm0_4:Addr}{odm0_4 anm0_4:Option Addr}{slm0_4:Array (Option Value)}{ocm0_4 kVm0_4 dcm0_4 pmm0_4 cdm0_4 ctm0_4:Value}
  (am0_4:PySem.W.findIn K (.ref C0) "holds" = some (some (.ref fm0_4)))
  (lm0_4:K.lookup fm0_4=some ⟨ocm0_4,odm0_4,.func (PySem.W.fnOf "holds" "Memory.holds" (ybd yaz) (yay yaz) (yac yaz) .none kVm0_4 dcm0_4 pmm0_4 anm0_4 cdm0_4 ctm0_4),slm0_4⟩)
  (cm0_4:PySem.W.codeIn K cdm0_4 "Memory.holds" = true)
  (im0_4:PySem.W.isFn K (.ref fm0_4)=true)
  (km0_4:PySem.W.keepIn K (.ref fm0_4)=true)
  {fm0_5:Addr}{odm0_5 anm0_5:Option Addr}{slm0_5:Array (Option Value)}{ocm0_5 kVm0_5 dcm0_5 pmm0_5 cdm0_5 ctm0_5:Value}
  (am0_5:PySem.W.findIn K (.ref C0) "size" = some (some (.ref fm0_5)))
  (lm0_5:K.lookup fm0_5=some ⟨ocm0_5,odm0_5,.func (PySem.W.fnOf "size" "Memory.size" (ybd ya5) (yay ya5) (yac ya5) .none kVm0_5 dcm0_5 pmm0_5 anm0_5 cdm0_5 ctm0_5),slm0_5⟩)
  (cm0_5:PySem.W.codeIn K cdm0_5 "Memory.size" = true)
  (im0_5:PySem.W.isFn K (.ref fm0_5)=true)
  (km0_5:PySem.W.keepIn K (.ref fm0_5)=true) :
  ∃ fd:FuncData,(∀ (s:Shared) (v:Value),BindsTo s fd ⟨[v],[]⟩ [("_law_script",v)])∧∀ base:Heap,K.In base→base.Ns mainGlobals mg→FnOk l.prog w K mg base CX0 14 fa fd ["_law_script"] (yjp K):=by
 have e:=hfa.symm.trans (PySem.W.mg_of X G a49)
 cases e
 have B:Bl mg:=⟨fun x hx=>by
  unfold qit at hx
  simp only[List.mem_cons,List.not_mem_nil,or_false] at hx
  rcases hx with rfl|rfl|rfl|rfl|rfl|rfl|rfl|rfl|rfl|rfl|rfl|rfl|rfl|rfl|rfl|rfl
  ·exact PySem.W.mg_none_of X G z0
  ·exact PySem.W.mg_none_of X G z1
  ·exact PySem.W.mg_none_of X G z2
  ·exact PySem.W.mg_none_of X G z3
  ·exact PySem.W.mg_none_of X G z4
  ·exact PySem.W.mg_none_of X G z5
  ·exact PySem.W.mg_none_of X G z6
  ·exact PySem.W.mg_none_of X G z7
  ·exact PySem.W.mg_none_of X G z8
  ·exact PySem.W.mg_none_of X G z9
  ·exact PySem.W.mg_none_of X G z10
  ·exact PySem.W.mg_none_of X G z11
  ·exact PySem.W.mg_none_of X G z12
  ·exact PySem.W.mg_none_of X G z13
  ·exact PySem.W.mg_none_of X G z14
  ·exact PySem.W.mg_none_of X G z15⟩
 have hVE:=PySem.W.mg_none_of X G RzV
 have gm:=PySem.W.mg_of X G RM_
 have Rtl:=qiy Rlk3 Rq3 Rex3
 have RX0:=yjk Rlk0 Rq0 Rtl Rga0 Rgh0 Rha0 Rhn Rtk Rhm0 Rsa0
 have RX2:=yjk Rlk2 Rq2 Rtl Rga2 Rgh2 Rha2 Rhn Rtk Rhm2 Rsa2
 have RX3:=yjk Rlk3 Rq3 Rtl Rga3 Rgh3 Rha3 Rhn Rtk Rhm3 Rsa3
 have RX6:=yjk Rlk6 Rq6 Rtl Rga6 Rgh6 Rha6 Rhn Rtk Rhm6 Rsa6
 have xB3:ylr K mg "NoMemory" R3:=⟨PySem.W.mg_of X G RA3,Rkp3,RX3.toXTy,Rex3⟩
 have xB6:ylr K mg "NoOrders" R6:=⟨PySem.W.mg_of X G RA6,Rkp6,RX6.toXTy,Rex6⟩
 have RG:∀ i x,nms[i]?=some x→mg x=some (.ref ((fun i=>([R0,R1,R2,R3,R4,R5,R6,R7,R8,R9,R10,R11,R12]:List Addr).getD i 0) i)):=by
  intro i x hx
  match i,hx with
  | 0,hx=>cases hx;exact PySem.W.mg_of X G RA0
  | 1,hx=>cases hx;exact PySem.W.mg_of X G RA1
  | 2,hx=>cases hx;exact PySem.W.mg_of X G RA2
  | 3,hx=>cases hx;exact PySem.W.mg_of X G RA3
  | 4,hx=>cases hx;exact PySem.W.mg_of X G RA4
  | 5,hx=>cases hx;exact PySem.W.mg_of X G RA5
  | 6,hx=>cases hx;exact PySem.W.mg_of X G RA6
  | 7,hx=>cases hx;exact PySem.W.mg_of X G RA7
  | 8,hx=>cases hx;exact PySem.W.mg_of X G RA8
  | 9,hx=>cases hx;exact PySem.W.mg_of X G RA9
  | 10,hx=>cases hx;exact PySem.W.mg_of X G RA10
  | 11,hx=>cases hx;exact PySem.W.mg_of X G RA11
  | 12,hx=>cases hx;exact PySem.W.mg_of X G RA12
  | i+13,hx=>cases hx
 have KX0:KX K (fun i=>([R0,R1,R2,R3,R4,R5,R6,R7,R8,R9,R10,R11,R12]:List Addr).getD i 0) RM 0:=by
  refine ⟨by decide,RX0.toXTy,fun i hi=>?_,Rve0,Rem0⟩
  match i,hi with
  | 0,_=>exact Ro0_0
  | 1,_=>exact Ro1_0
  | 2,_=>exact Ro2_0
  | 3,_=>exact Ro3_0
  | 4,_=>exact Ro4_0
  | 5,_=>exact Ro5_0
  | 6,_=>exact Ro6_0
  | 7,_=>exact Ro7_0
  | 8,_=>exact Ro8_0
  | 9,_=>exact Ro9_0
  | 10,_=>exact Ro10_0
  | 11,_=>exact Ro11_0
  | 12,_=>exact Ro12_0
 have KX2:KX K (fun i=>([R0,R1,R2,R3,R4,R5,R6,R7,R8,R9,R10,R11,R12]:List Addr).getD i 0) RM 2:=by
  refine ⟨by decide,RX2.toXTy,fun i hi=>?_,Rve2,Rem2⟩
  match i,hi with
  | 0,_=>exact Ro0_2
  | 1,_=>exact Ro1_2
  | 2,_=>exact Ro2_2
  | 3,_=>exact Ro3_2
  | 4,_=>exact Ro4_2
  | 5,_=>exact Ro5_2
  | 6,_=>exact Ro6_2
  | 7,_=>exact Ro7_2
  | 8,_=>exact Ro8_2
  | 9,_=>exact Ro9_2
  | 10,_=>exact Ro10_2
  | 11,_=>exact Ro11_2
  | 12,_=>exact Ro12_2
 have KX3:KX K (fun i=>([R0,R1,R2,R3,R4,R5,R6,R7,R8,R9,R10,R11,R12]:List Addr).getD i 0) RM 3:=by
  refine ⟨by decide,RX3.toXTy,fun i hi=>?_,Rve3,Rem3⟩
  match i,hi with
  | 0,_=>exact Ro0_3
  | 1,_=>exact Ro1_3
  | 2,_=>exact Ro2_3
  | 3,_=>exact Ro3_3
  | 4,_=>exact Ro4_3
  | 5,_=>exact Ro5_3
  | 6,_=>exact Ro6_3
  | 7,_=>exact Ro7_3
  | 8,_=>exact Ro8_3
  | 9,_=>exact Ro9_3
  | 10,_=>exact Ro10_3
  | 11,_=>exact Ro11_3
  | 12,_=>exact Ro12_3
 have KX6:KX K (fun i=>([R0,R1,R2,R3,R4,R5,R6,R7,R8,R9,R10,R11,R12]:List Addr).getD i 0) RM 6:=by
  refine ⟨by decide,RX6.toXTy,fun i hi=>?_,Rve6,Rem6⟩
  match i,hi with
  | 0,_=>exact Ro0_6
  | 1,_=>exact Ro1_6
  | 2,_=>exact Ro2_6
  | 3,_=>exact Ro3_6
  | 4,_=>exact Ro4_6
  | 5,_=>exact Ro5_6
  | 6,_=>exact Ro6_6
  | 7,_=>exact Ro7_6
  | 8,_=>exact Ro8_6
  | 9,_=>exact Ro9_6
  | 10,_=>exact Ro10_6
  | 11,_=>exact Ro11_6
  | 12,_=>exact Ro12_6
 have qdi:mg "set" = none:=PySem.W.mg_none_of X G zset
 have yee:mg "zip" = none:=PySem.W.mg_none_of X G zzip
 have qd9:mg "all" = none:=PySem.W.mg_none_of X G zall
 have g_MC:∃ t,mg "MOST_CELLS" = some (.int 64 t):=⟨_,PySem.W.mg_of X G aMC⟩
 have g_MH:∃ t,mg "MOST_HARMS" = some (.int 3 t):=⟨_,PySem.W.mg_of X G aMH⟩
 have g_MU:∃ t,mg "MOST_UNLIKE" = some (.int 3 t):=⟨_,PySem.W.mg_of X G aMU⟩
 have g_J:GTup K mg "JOININGS" [.str "and",.str "or"]:=qhp (PySem.W.mg_of X G aJ) lJ (by show 2≤sizeLine;decide) (.cons ⟨_,rfl⟩ (.cons ⟨_,rfl⟩ .nil))
 have gP:=PySem.W.mg_of X G aP
 have sp0:∀ H,SqT K H qp0 [.str "cell",.str "bit"]:=yd3 tp0 (by show 2≤sizeLine;decide) (.cons ⟨_,rfl⟩ (.cons ⟨_,rfl⟩ .nil))
 have sp1:∀ H,SqT K H qp1 [.str "cell",.str "bit"]:=yd3 tp1 (by show 2≤sizeLine;decide) (.cons ⟨_,rfl⟩ (.cons ⟨_,rfl⟩ .nil))
 have sp2:∀ H,SqT K H qp2 [.str "cell",.str "bit"]:=yd3 tp2 (by show 2≤sizeLine;decide) (.cons ⟨_,rfl⟩ (.cons ⟨_,rfl⟩ .nil))
 have sp3:∀ H,SqT K H qp3 [.str "cell",.str "bit"]:=yd3 tp3 (by show 2≤sizeLine;decide) (.cons ⟨_,rfl⟩ (.cons ⟨_,rfl⟩ .nil))
 have sp4:∀ H,SqT K H qp4 [.str "cell",.str "cell",.str "bit"]:=yd3 tp4 (by show 3≤sizeLine;decide) (.cons ⟨_,rfl⟩ (.cons ⟨_,rfl⟩ (.cons ⟨_,rfl⟩ .nil)))
 have sp5:∀ H,SqT K H qp5 [.str "cell",.str "cell",.str "bit",.str "bit"]:=yd3 tp5 (by show 4≤sizeLine;decide) (.cons ⟨_,rfl⟩ (.cons ⟨_,rfl⟩ (.cons ⟨_,rfl⟩ (.cons ⟨_,rfl⟩ .nil))))
 have sp6:∀ H,SqT K H qp6 [.str "cell",.str "cell",.str "bit",.str "bit"]:=yd3 tp6 (by show 4≤sizeLine;decide) (.cons ⟨_,rfl⟩ (.cons ⟨_,rfl⟩ (.cons ⟨_,rfl⟩ (.cons ⟨_,rfl⟩ .nil))))
 have sp7:∀ H,SqT K H qp7 [.str "cell",.str "bit"]:=yd3 tp7 (by show 2≤sizeLine;decide) (.cons ⟨_,rfl⟩ (.cons ⟨_,rfl⟩ .nil))
 have sp8:∀ H,SqT K H qp8 [.str "cell",.str "cell"]:=yd3 tp8 (by show 2≤sizeLine;decide) (.cons ⟨_,rfl⟩ (.cons ⟨_,rfl⟩ .nil))
 have sp9:∀ H,SqT K H qp9 [.str "cell",.str "cell",.str "how"]:=yd3 tp9 (by show 3≤sizeLine;decide) (.cons ⟨_,rfl⟩ (.cons ⟨_,rfl⟩ (.cons ⟨_,rfl⟩ .nil)))
 have TP:TabK K tP tabP:=⟨mP,_,_,_,lP,⟨rfl,rfl,rfl⟩,rfl,(.cons rfl ⟨_,rfl,sp0⟩ (.cons rfl ⟨_,rfl,sp1⟩ (.cons rfl ⟨_,rfl,sp2⟩ (.cons rfl ⟨_,rfl,sp3⟩ (.cons rfl ⟨_,rfl,sp4⟩ (.cons rfl ⟨_,rfl,sp5⟩ (.cons rfl ⟨_,rfl,sp6⟩ (.cons rfl ⟨_,rfl,sp7⟩ (.cons rfl ⟨_,rfl,sp8⟩ (.cons rfl ⟨_,rfl,sp9⟩ .nil))))))))))⟩
 have cm:CM K C0:=⟨⟨cp0,cd0_,co0,cs0⟩,cf0_0,cf0_1⟩
 have FI2:=qb9 (st:=qd1) RlI2 RcI2 RkI2
 have FI0:=qb9 (st:=yey) RlI0 RcI0 RkI0
 have yhj:GTup K mg "ORDERS" [.str "up",.str "down",.str "any"]:=qhp (PySem.W.mg_of X G aO) lO (by show 3≤sizeLine;decide) (.cons ⟨_,rfl⟩ (.cons ⟨_,rfl⟩ (.cons ⟨_,rfl⟩ .nil)))
 have qgd:GTup K mg "LETTERS" [.str "r",.str "w"]:=qhp (PySem.W.mg_of X G aL) lL (by show 2≤sizeLine;decide) (.cons ⟨_,rfl⟩ (.cons ⟨_,rfl⟩ .nil))
 have yiu:GTup K mg "TAKEN" [.str "up",.str "down"]:=qhp (PySem.W.mg_of X G aK) lK (by show 2≤sizeLine;decide) (.cons ⟨_,rfl⟩ (.cons ⟨_,rfl⟩ .nil))
 have g_T:∃ t,mg "MOST_IN_TEST" = some (.int 8 t):=⟨_,PySem.W.mg_of X G aT⟩
 have g_E:∃ t,mg "MOST_IN_ELEMENT" = some (.int 6 t):=⟨_,PySem.W.mg_of X G aE⟩
 have F0:FnAt K mg "is_whole" ycw ["thing"]:=p0.at X G fun _ _ _ _ _ _ us hl=>match us,hl with | [_],_=>rfl
 have F1:FnAt K mg "is_bit" qer ["thing"]:=p1.at X G fun _ _ _ _ _ _ us hl=>match us,hl with | [_],_=>rfl
 have F2:FnAt K mg "is_one_of" ycj ["thing","words"]:=p2.at X G fun _ _ _ _ _ _ us hl=>match us,hl with | [_,_],_=>rfl
 have F3:FnAt K mg "is_cell" ydq ["thing"]:=p3.at X G fun _ _ _ _ _ _ us hl=>match us,hl with | [_],_=>rfl
 have F4:FnAt K mg "is_part" qdu ["name","thing"]:=p4.at X G fun _ _ _ _ _ _ us hl=>match us,hl with | [_,_],_=>rfl
 have F5:FnAt K mg "has_word" qcz ["thing"]:=p5.at X G fun _ _ _ _ _ _ us hl=>match us,hl with | [_],_=>rfl
 have F6:FnAt K mg "cells_in" ycy ["harm"]:=p6.at X G fun _ _ _ _ _ _ us hl=>match us,hl with | [_],_=>rfl
 have F7:FnAt K mg "has_parts" ycf ["thing"]:=p7.at X G fun _ _ _ _ _ _ us hl=>match us,hl with | [_],_=>rfl
 have F8:FnAt K mg "is_harm" qds ["thing"]:=p8.at X G fun _ _ _ _ _ _ us hl=>match us,hl with | [_],_=>rfl
 have F9:FnAt K mg "look_at_harms" ybg ["thing"]:=p9.at X G fun _ _ _ _ _ _ us hl=>match us,hl with | [_],_=>rfl
 have F10:FnAt K mg "cells_of" qcv ["harms"]:=p10.at X G fun _ _ _ _ _ _ us hl=>match us,hl with | [_],_=>rfl
 have F11:FnAt K mg "stuck_bit" qc7 ["harms","cell"]:=p11.at X G fun _ _ _ _ _ _ us hl=>match us,hl with | [_,_],_=>rfl
 have F12:FnAt K mg "put" s_put ["harms","cells","cell","bit"]:=p12.at X G fun _ _ _ _ _ _ us hl=>match us,hl with | [_,_,_,_],_=>rfl
 have F13:FnAt K mg "settle" yfv ["harms","cells"]:=p13.at X G fun _ _ _ _ _ _ us hl=>match us,hl with | [_,_],_=>rfl
 have F14:FnAt K mg "harm_of_address" qbk ["harms","address"]:=p14.at X G fun _ _ _ _ _ _ us hl=>match us,hl with | [_,_],_=>rfl
 have F15:FnAt K mg "reached_cells" qb0 ["harm","address"]:=p15.at X G fun _ _ _ _ _ _ us hl=>match us,hl with | [_,_],_=>rfl
 have F16:FnAt K mg "read_cell" yc3 ["harms","cells","cell"]:=p16.at X G fun _ _ _ _ _ _ us hl=>match us,hl with | [_,_,_],_=>rfl
 have F17:FnAt K mg "read_at" qel ["harms","cells","address"]:=p17.at X G fun _ _ _ _ _ _ us hl=>match us,hl with | [_,_,_],_=>rfl
 have F18:FnAt K mg "is_slow" yev ["harms","cells","cell","bit"]:=p18.at X G fun _ _ _ _ _ _ us hl=>match us,hl with | [_,_,_,_],_=>rfl
 have F19:FnAt K mg "kept_bit" qd0 ["harms","cells","cell","bit"]:=p19.at X G fun _ _ _ _ _ _ us hl=>match us,hl with | [_,_,_,_],_=>rfl
 have F20:FnAt K mg "act_on_others" qbw ["harms","cells","cell"]:=p20.at X G fun _ _ _ _ _ _ us hl=>match us,hl with | [_,_,_],_=>rfl
 have F21:FnAt K mg "write_cell" qcq ["harms","cells","cell","bit"]:=p21.at X G fun _ _ _ _ _ _ us hl=>match us,hl with | [_,_,_,_],_=>rfl
 have F22:FnAt K mg "write_at" yd0 ["harms","cells","address","bit"]:=p22.at X G fun _ _ _ _ _ _ us hl=>match us,hl with | [_,_,_,_],_=>rfl
 have F23:FnAt K mg "is_size" qdl ["thing"]:=p23.at X G fun _ _ _ _ _ _ us hl=>match us,hl with | [_],_=>rfl
 have F24:FnAt K mg "are_contents" ybp ["thing","size"]:=p24.at X G fun _ _ _ _ _ _ us hl=>match us,hl with | [_,_],_=>rfl
 have F25:FnAt K mg "look_at_memory" qbd ["size","harms","contents"]:=p25.at X G fun _ _ _ _ _ _ us hl=>match us,hl with | [_,_,_],_=>rfl
 have F26:FnAt K mg "look_at_bit" yca ["thing"]:=p26.at X G fun _ _ _ _ _ _ us hl=>match us,hl with | [_],_=>rfl
 have F27:FnAt K mg "is_pair" yeo ["thing"]:=p27.at X G fun _ _ _ _ _ _ us hl=>match us,hl with | [_],_=>rfl
 have F28:FnAt K mg "is_filled" qdc ["thing","most"]:=p28.at X G fun _ _ _ _ _ _ us hl=>match us,hl with | [_,_],_=>rfl
 have F29:FnAt K mg "is_step" qew ["thing"]:=p29.at X G fun _ _ _ _ _ _ us hl=>match us,hl with | [_],_=>rfl
 have F30:FnAt K mg "is_framed" yc6 ["thing"]:=p30.at X G fun _ _ _ _ _ _ us hl=>match us,hl with | [_],_=>rfl
 have F31:FnAt K mg "look_at_element" ybl ["number","thing"]:=p31.at X G fun _ _ _ _ _ _ us hl=>match us,hl with | [_,_],_=>rfl
 have F32:FnAt K mg "look_at_test" qb4 ["thing"]:=p32.at X G fun _ _ _ _ _ _ us hl=>match us,hl with | [_],_=>rfl
 have F33:FnAt K mg "is_order_for" yb3 ["element","thing"]:=p33.at X G fun _ _ _ _ _ _ us hl=>match us,hl with | [_,_],_=>rfl
 have F34:FnAt K mg "are_orders" ycq ["test","thing"]:=p34.at X G fun _ _ _ _ _ _ us hl=>match us,hl with | [_,_],_=>rfl
 have F35:FnAt K mg "look_at_orders" qbs ["test","thing"]:=p35.at X G fun _ _ _ _ _ _ us hl=>match us,hl with | [_,_],_=>rfl
 have F36:FnAt K mg "deeds" yht ["order","steps","size"]:=p36.at X G fun _ _ _ _ _ _ us hl=>match us,hl with | [_,_,_],_=>rfl
 have F37:FnAt K mg "all_reads" yc8 ["test","memory","orders"]:=p37.at X G fun _ _ _ _ _ _ us hl=>match us,hl with | [_,_,_],_=>rfl
 have F38:FnAt K mg "run_on" qfw ["test","memory","orders"]:=p38.at X G fun _ _ _ _ _ _ us hl=>match us,hl with | [_,_,_],_=>rfl
 have F39:FnAt K mg "reads_of" ydw ["test","size","harms","contents","orders"]:=p39.at X G fun _ _ _ _ _ _ us hl=>match us,hl with | [_,_,_,_,_],_=>rfl
 have F40:FnAt K mg "first_shown" ycc ["test","size","harms","contents","orders"]:=p40.at X G fun _ _ _ _ _ _ us hl=>match us,hl with | [_,_,_,_,_],_=>rfl
 have F41:FnAt K mg "_law_digits" qca ["_law_cell","_law_turn","_law_sizes"]:=p41.at X G fun _ _ _ _ _ _ us hl=>match us,hl with | [_,_,_],_=>rfl
 have F42:FnAt K mg "_law_test" yc2 ["_law_cells","_law_sure"]:=p42.at X G fun _ _ _ _ _ _ us hl=>match us,hl with | [_,_],_=>rfl
 have F43:FnAt K mg "_law_orders" yb9 ["_law_test_here","_law_cell"]:=p43.at X G fun _ _ _ _ _ _ us hl=>match us,hl with | [_,_],_=>rfl
 have F44:FnAt K mg "_law_harm" qc2 ["_law_d","_law_some"]:=p44.at X G fun _ _ _ _ _ _ us hl=>match us,hl with | [_,_],_=>rfl
 have F45:FnAt K mg "_law_harms" ycl ["_law_cell","_law_turn","_law_size","_law_most"]:=p45.at X G fun _ _ _ _ _ _ us hl=>match us,hl with | [_,_,_,_],_=>rfl
 have F46:FnAt K mg "_law_kind" yc7 ["_law_e"]:=p46.at X G fun _ _ _ _ _ _ us hl=>match us,hl with | [_],_=>rfl
 have F47:FnAt K mg "_law_told" qc3 ["_law_way","_law_things","_law_memory"]:=p47.at X G fun _ _ _ _ _ _ us hl=>match us,hl with | [_,_,_],_=>rfl
 have F48:FnAt K mg "_law_odd_orders" qbm ["_law_test_here","_law_orders_here","_law_d"]:=p48.at X G fun _ _ _ _ _ _ us hl=>match us,hl with | [_,_,_],_=>rfl
 have FL:=qb9 (st:=qhh) l49 c49 k49
 refine ⟨PySem.W.fnOf "law" "law" (ybd qhh) (yay qhh) (yac qhh) .none kV49 dc49 pm49 an49 cd49 ct49,fun s v=>.of_eq rfl,fun base _ _=>?_⟩
 have M0___init__:ycm K C0 "__init__" "Memory.__init__" yao ["self","size","harms","contents"]:=⟨fm0_0,_,⟨am0_0,im0_0,km0_0⟩,qb9 (st:=yao) lm0_0 cm0_0 km0_0,Fun.binds (qb9 (st:=yao) lm0_0 cm0_0 km0_0) fun _ _ _ _ _ _ us hl=>match us,hl with | [_,_,_,_],_=>rfl⟩
 have M0_look_at_address:ycm K C0 "look_at_address" "Memory.look_at_address" yal ["self","address"]:=⟨fm0_1,_,⟨am0_1,im0_1,km0_1⟩,qb9 (st:=yal) lm0_1 cm0_1 km0_1,Fun.binds (qb9 (st:=yal) lm0_1 cm0_1 km0_1) fun _ _ _ _ _ _ us hl=>match us,hl with | [_,_],_=>rfl⟩
 have M0_read:ycm K C0 "read" "Memory.read" qa4 ["self","address"]:=⟨fm0_2,_,⟨am0_2,im0_2,km0_2⟩,qb9 (st:=qa4) lm0_2 cm0_2 km0_2,Fun.binds (qb9 (st:=qa4) lm0_2 cm0_2 km0_2) fun _ _ _ _ _ _ us hl=>match us,hl with | [_,_],_=>rfl⟩
 have M0_write:ycm K C0 "write" "Memory.write" qa0 ["self","address","bit"]:=⟨fm0_3,_,⟨am0_3,im0_3,km0_3⟩,qb9 (st:=qa0) lm0_3 cm0_3 km0_3,Fun.binds (qb9 (st:=qa0) lm0_3 cm0_3 km0_3) fun _ _ _ _ _ _ us hl=>match us,hl with | [_,_,_],_=>rfl⟩
 have M0_holds:ycm K C0 "holds" "Memory.holds" yaz ["self"]:=⟨fm0_4,_,⟨am0_4,im0_4,km0_4⟩,qb9 (st:=yaz) lm0_4 cm0_4 km0_4,Fun.binds (qb9 (st:=yaz) lm0_4 cm0_4 km0_4) fun _ _ _ _ _ _ us hl=>match us,hl with | [_],_=>rfl⟩
 have M0_size:ycm K C0 "size" "Memory.size" ya5 ["self"]:=⟨fm0_5,_,⟨am0_5,im0_5,km0_5⟩,qb9 (st:=ya5) lm0_5 cm0_5 km0_5,Fun.binds (qb9 (st:=ya5) lm0_5 cm0_5 km0_5) fun _ _ _ _ _ _ us hl=>match us,hl with | [_],_=>rfl⟩
 have h0:=qjd (P:=l.prog) (w:=w) (base:=base) B F0
 have h1:=qmd h0 F1
 have h2:=yh7 (P:=l.prog) (w:=w) (base:=base) B F2
 have h3:=qj5 g_MC h0 F3
 have h4:=ykb g_J h3 h1 h2 F4
 have h5:=qi9 (P:=l.prog) (w:=w) (base:=base) B gP TP F5
 have h6:=qi5 (P:=l.prog) (w:=w) (base:=base) B yee gP TP F6
 have h7:=yh3 B yee qd9 gP TP h4 F7
 have h8:=qkj B qdi h5 h7 h6 F8
 have h9:=yfm B qdi g_MH g_MU h8 h6 F9
 have h10:=yjb B qdi h9 h6 F10
 have h11:=qim (P:=l.prog) (w:=w) (base:=base) F11
 have h12:=ok_put h11 F12
 have h13:=ylm B h11 h12 F13
 have h14:=qeo (P:=l.prog) (w:=w) (base:=base) F14
 have h15:=yfl (P:=l.prog) (w:=w) (base:=base) F15
 have h16:=yij h12 F16
 have h17:=ykk B h14 h15 h16 F17
 have h18:=ykl (P:=l.prog) (w:=w) (base:=base) F18
 have h19:=yi9 (P:=l.prog) (w:=w) (base:=base) F19
 have h20:=qfl h12 F20
 have h21:=qhr h18 h12 h19 h20 F21
 have h22:=qi2 h14 h15 h21 F22
 have h23:=ykg g_MC h0 F23
 have h24:=ygf B qd9 h1 F24
 have h25:=qex B h10 h23 h24 F25
 have h26:=qgw h1 F26
 have yez:=ylt B cm h0 M0_look_at_address
 have qjf:=qlu cm yez h17 M0_read
 have yhs:=qki cm yez h26 h22 M0_write
 have yfw:=yj6 (P:=l.prog) (w:=w) (base:=base) B cm M0_holds
 have yit:=qla (P:=l.prog) (w:=w) (base:=base) B cm M0_size
 have hm_init:=yl2 B cm h25 h13 M0___init__
 have yf9:=HasI.of (x:="Memory") (m:="Memory") (PySem.W.mg_of X G ca0) ⟨cm0_,am0_0,im0_0,ck0⟩ (fun g h=>qkw am0_0 h) hm_init
 have xH:=(show qj9 l.prog w K mg base "NoHarms" R2 ["self","number"] (sp_x1 R2 "number") from ⟨PySem.W.mg_of X G RA2,Rkp2,RX2,_,_,Rhi2,Rhf2,FI2.binds (fun _ _ _ _ _ _ us hl=>match us,hl with | [_,_],_=>rfl),ylj FI2 RX2 Rn2_0⟩)
 have xT:=(show qj9 l.prog w K mg base "NoTest" R0 ["self","element","step"] (sp_x2 R0 "element" "step") from ⟨PySem.W.mg_of X G RA0,Rkp0,RX0,_,_,Rhi0,Rhf0,FI0.binds (fun _ _ _ _ _ _ us hl=>match us,hl with | [_,_,_],_=>rfl),ok_iTest FI0 RX0 Rn0_0 Rn0_1⟩)
 have gw:=og_whole (P:=l.prog) (w:=w) (base:=base) B F0
 have gb:=og_bit gw F1
 have go:=og_one (P:=l.prog) (w:=w) (base:=base) B F2
 have gc:=og_cell g_MC gw F3
 have gp:=og_part g_J gc gb go F4
 have gwd:=og_word (P:=l.prog) (w:=w) (base:=base) B gP TP F5
 have gci:=qi3 (P:=l.prog) (w:=w) (base:=base) B yee gP TP F6
 have gps:=og_parts B yee qd9 gP TP gp F7
 have gh:=og_harm B qdi gwd gps gci F8
 have gl:=og_harms B xH qdi g_MH g_MU gh h6 F9
 have gco:=yje B qdi gl h6 F10
 have gsz:=og_size g_MC gw F23
 have gct:=og_cont B qd9 gb F24
 have gmem:=ykp B xB3 gco gsz gct F25
 have mi:=mx_init B cm h25 h13 gmem M0___init__
 have hx:=qln.of (x:="Memory") (m:="Memory") (PySem.W.mg_of X G ca0) ⟨cm0_,am0_0,im0_0,ck0⟩ (fun g h=>qkw am0_0 h) mi
 have h27:=og_pair (P:=l.prog) (w:=w) (base:=base) B F27
 have h28:=og_fill (P:=l.prog) (w:=w) (base:=base) B F28
 have h29:=og_step qgd h27 go gb F29
 have h30:=og_frame yhj g_E h27 go h28 F30
 have h31:=og_elem B xT h30 h29 F31
 have h32:=og_look B xT g_T h28 h31 F32
 have h33:=og_order yiu go F33
 have h34:=qlg B yee qd9 h33 F34
 have h35:=qkm xB6 h34 F35
 have h36:=ok_deeds (P:=l.prog) (w:=w) (base:=base) B F36
 have h37:=qin B cm h36 qjf yhs yit F37
 have h38:=ql5 (C2:=R2) (CM':=R3) B h32 h35 h37 F38
 have h39:=og_reads h32 hx h35 h37 F39
 have h40:=yl0 h39 F40
 have h41:=qlz (P:=l.prog) (w:=w) (base:=base) B F41
 have h42:=ok_test B h41 F42
 have h43:=qlp B h41 F43
 have h44:=ok_harm (P:=l.prog) (w:=w) (base:=base) B F44
 have h45:=ok_harms B h41 h44 F45
 have h46:=ok_kind (P:=l.prog) (w:=w) (base:=base) (c:=(fun i=>([R0,R1,R2,R3,R4,R5,R6,R7,R8,R9,R10,R11,R12]:List Addr).getD i 0)) B hVE RG F46
 have h47:=og_ltold B gm KX0 KX2 KX3 KX6 h46 h38 h39 h40 F47
 have h48:=og_oddo (P:=l.prog) (w:=w) (base:=base) B F48
 exact ok_law B cm h41 h42 h43 h45 h48 h47 yf9 yfw FL
theorem walk {l:PySem.W.OpenLaw}{q:Program}{loose:List Str}{XP:(Str→Option Value)→Heap→Prop}{YP:World→Heap→Prop}{d:DefRec}{K:Params→PySem.W.Frag} (hn:l.most=some 63) (hdf:d.params.defaults=[])
  (hY:∀ (w:World) (h:Heap),YP w h→(K w.params).In h)
  (F:∀ (w:World) (mg:Str→Option Value) (fa:Addr) (h:Heap),(K w.params).In h→h.Ns mainGlobals mg→mg d.name=some (.ref fa)→
   ∃ fd:FuncData,(∀ (s:Shared) (u:Value),BindsTo s fd ⟨[u],[]⟩ [("_law_script",u)])∧∀ base:Heap,(K w.params).In base→base.Ns mainGlobals mg→FnOk l.prog w (K w.params) mg base CX0 14 fa fd ["_law_script"] (yjp (K w.params))) :
  PySem.W.WalkO q loose XP YP l.row.toRowW d [] (fun f vs=>PySem.call f vs):=
 L2.walk_of (n:=63) (k:=14) (x:="_law_script") (CX:=fun _=>CX0) (sp:=fun w=>yjp (K w.params)) hn (by decide) hdf ⟨rfl,by decide,by decide,rfl⟩ hY F (fun _ _ a ns hl _ hS=>⟨a,ns,rfl,hS,hl,fun _=>rfl⟩) fun _ _ _ _ _ z=>z
end Mh
def PySem.W.Fast.tw2005547575571735026:Nat:=0
def PySem.W.Fast.tw7390311668431631535:Nat:=0
def PySem.W.Fast.tw1780319445403451194:Nat:=0
def PySem.W.Fast.tw4490105846172337468:Nat:=0
def PySem.W.Fast.tw9039631765608164177:Nat:=0
def PySem.W.Fast.tw10943052009333138201:Nat:=0
def PySem.W.Fast.tw12192767010987395626:Nat:=0
def PySem.W.Fast.tw9010782245939398702:=PySem.Challenge.pw_marchmend_k19_no_runs
theorem PySem.W.Fast.te9010782245939398702:PySem.Challenge.pw_marchmend_k19_no_runs=PySem.W.Fast.tw9010782245939398702:=rfl
def PySem.W.Fast.tw3681054189024151803:Nat:=0
def PySem.W.Fast.tw460951512681271857:Nat:=0
def PySem.W.Fast.tw4174197341501267415:Nat:=0
def PySem.W.Fast.tw736246678326303036:Nat:=0
def PySem.W.Fast.tw11689590675370192867:Nat:=0
def PySem.W.Fast.tw11694837390527741439:Nat:=0
def PySem.W.Fast.tw5007031665336349290:Nat:=0
def PySem.W.Fast.tw12492910521063955342:Nat:=0
def PySem.W.Fast.tw2165882074119152589:Nat:=0
def PySem.W.Fast.tw10412721749561687309:Nat:=0
def PySem.W.Fast.tw12091328282297414097:Nat:=0
def PySem.W.Fast.tw15200910094981103954:Nat:=0
def PySem.W.Fast.tw1560846905648459587:Nat:=0
def PySem.W.Fast.tw8601280025309186845:Nat:=0
def PySem.W.Fast.tw4881994050783267820:Nat:=0
def PySem.W.Fast.tw9387199516091883111:Nat:=0
def PySem.W.Fast.tw13367091774206935178:Nat:=0
def PySem.W.Fast.tw18295178546757296393:Nat:=0
def PySem.W.Fast.tw3142169743957153939:Nat:=0
def PySem.W.Fast.tw8435321297564537099:Nat:=0
def PySem.W.Fast.tw11386749951858953303:Nat:=0
def PySem.W.Fast.tw15573922269600839326:Nat:=0
def PySem.W.Fast.tw9600539497283218742:Nat:=0
def PySem.W.Fast.tw11363629992998444604:Nat:=0
def PySem.W.Fast.tw7710561616556806612:Nat:=0
def PySem.W.Fast.tw9411310699330205229:Nat:=0
def PySem.W.Fast.tw11572982949020110308:Nat:=0
def PySem.W.Fast.tw15072000538519755034:Nat:=0
def PySem.W.Fast.tw12452517669405294523:Nat:=0
def PySem.W.Fast.tw6023301090324081216:Nat:=0
def PySem.W.Fast.tw1334951869065977221:Nat:=0
def PySem.W.Fast.tw12453932074702519706:Nat:=0
def PySem.W.Fast.tw2986273164821417781:Nat:=0
def PySem.W.Fast.tw14913046403659707462:Nat:=0
def PySem.W.Fast.tw16201216261229271710:Nat:=0
def PySem.W.Fast.tw4995505827045705256:Nat:=0
def PySem.W.Fast.tw3761240258244749589:Nat:=0
def PySem.W.Fast.tw12003210704537260006:Nat:=0
def PySem.W.Fast.tw4595494501411599641:Nat:=0
def PySem.W.Fast.tw635541614842071634:Nat:=0
def PySem.W.Fast.tw7102667620918362778:Nat:=0
def PySem.W.Fast.tw1515927504446793519:Nat:=0
def PySem.W.Fast.tw7024213084618019932:Nat:=0
def PySem.W.Fast.tw6107112277146600271:Nat:=0
def PySem.W.Fast.tw17166052984973949005:Nat:=0
def PySem.W.Fast.tw11489870546407032875:Nat:=0
def PySem.W.Fast.tw9924535725132704900:Nat:=0
def PySem.W.Fast.tw7313818889036366692:Nat:=0
def PySem.W.Fast.tw4426782405663482912:Nat:=0
def PySem.W.Fast.tw18201681400836216209:Nat:=0
def PySem.W.Fast.tw9412242429359541642:Nat:=0
def PySem.W.Fast.tw5709318216835764085:Nat:=0
def PySem.W.Fast.tw10674289147629222592:Nat:=0
def PySem.W.Fast.tw9734011055614054792:Nat:=0
def PySem.W.Fast.tw9766829935194995900:Nat:=0
def PySem.W.Fast.tw2085612664721869289:Nat:=0
def PySem.W.Fast.tw11848834811278228384:Nat:=0
def PySem.W.Fast.tw17709887706453776626:Nat:=0
def PySem.W.Fast.tw12261336736947572053:Nat:=0
def PySem.W.Fast.tw7926989858528671097:Nat:=0
def PySem.W.Fast.tw11192840259540783348:Nat:=0
def PySem.W.Fast.tw785481866081766690:Nat:=0
def PySem.W.Fast.tw15405027967620374409:Nat:=0
def PySem.W.Fast.tw6370064439627272653:Nat:=0
def PySem.W.Fast.tw8963301263202438698:Nat:=0
def PySem.W.Fast.tw3589679229599080432:Nat:=0
def PySem.W.Fast.tw5396209263252258127:Nat:=0
def PySem.W.Fast.tw11392054012192607463:Nat:=0
def PySem.W.Fast.tw12135937792829884846:Nat:=0
def PySem.W.Fast.tw11824950428207435402:Nat:=0
def PySem.W.Fast.tw8374429590813404684:Nat:=0
def PySem.W.Fast.tw9317905248281904237:Nat:=0
def PySem.W.Fast.tw6068193733550684436:Nat:=0
def PySem.W.Fast.tw5974974022327571908:Nat:=0
def PySem.W.Fast.tw10008409946260164630:Nat:=0
def PySem.W.Fast.tw8809512433341141711:Nat:=0
def PySem.W.Fast.tw4464920978829041463:Nat:=0
def PySem.W.Fast.tw15968306439684252687:Nat:=0
def PySem.W.Fast.tw3740324185764784823:Nat:=0
def PySem.W.Fast.tw4953091144907866581:Nat:=0
def PySem.W.Fast.tw8822848367675009839:Nat:=0
def PySem.W.Fast.tw15218110202448763677:Nat:=0
def PySem.W.Fast.tw15095489301072490303:Nat:=0
def PySem.W.Fast.tw13999265585784969378:Nat:=0
def PySem.W.Fast.tw7627971526739864743:Nat:=0
def PySem.W.Fast.tw10010710522072717838:Nat:=0
def PySem.W.Fast.tw86618590038551610:Nat:=0
def PySem.W.Fast.tw14753752881472228083:Nat:=0
def PySem.W.Fast.tw6659692615107109090:Nat:=0
def PySem.W.Fast.tw15041684312662753762:Nat:=0
def PySem.W.Fast.tw17230266434940221222:Nat:=0
def PySem.W.Fast.tw6467482625381677892:Nat:=0
def PySem.W.Fast.tw16761366758227106846:Nat:=0
def PySem.W.Fast.tw18306901007194939501:Nat:=0
def PySem.W.Fast.tw10820692985476689146:Nat:=0
def PySem.W.Fast.tw14022797437692451173:Nat:=0
def PySem.W.Fast.tw14952155428794497394:Nat:=0
def PySem.W.Fast.tw3377868799302808014:Nat:=0
def PySem.W.Fast.tw7814438662484203369:Nat:=0
def PySem.W.Fast.tw12006350911030195183:Nat:=0
def PySem.W.Fast.tw5164065828589023732:Nat:=0
def PySem.W.Fast.tw10647719288778979523:Nat:=0
def PySem.W.Fast.tw2891734233978044477:Nat:=0
def PySem.W.Fast.tw5485479424278098238:Nat:=0
def PySem.W.Fast.tw15805341243972293143:Nat:=0
def PySem.W.Fast.tw14121327189898315506:Nat:=0
def PySem.W.Fast.tw10760698134397336783:Nat:=0
def PySem.W.Fast.tw17426879129822860463:Nat:=0
def PySem.W.Fast.tw3321116094247358614:Nat:=0
def PySem.W.Fast.tw6072343883273171352:Nat:=0
def PySem.W.Fast.tw16717982950272777728:Nat:=0
def PySem.W.Fast.tw18146870055766789274:Nat:=0
def PySem.W.Fast.tw489698227980968323:Nat:=0
def PySem.W.Fast.tw5786118279003923734:Nat:=0
def PySem.W.Fast.tw7562904490230780340:Nat:=0
def PySem.W.Fast.tw5767924930067614392:Nat:=0
def PySem.W.Fast.tw15049627686012783340:Nat:=0
def PySem.W.Fast.tw14697047689576424505:Nat:=0
def PySem.W.Fast.tw3677187730033720627:Nat:=0
def PySem.W.Fast.tw4610087691321953284:Nat:=0
def PySem.W.Fast.tw4167740468795482416:Nat:=0
def PySem.W.Fast.tw2991811817936689607:Nat:=0
def PySem.W.Fast.tw16393059269071637428:Nat:=0
def PySem.W.Fast.tw12094243923607171792:Nat:=0
def PySem.W.Fast.tw9806617725473287094:Nat:=0
def PySem.W.Fast.tw454973509083919900:Nat:=0
def PySem.W.Fast.tw1185474093139420803:Nat:=0
def PySem.W.Fast.tw7153057232906353719:Nat:=0
def PySem.W.Fast.tw1716471729426642335:Nat:=0
def PySem.W.Fast.tw10076598955087480730:Nat:=0
def PySem.W.Fast.tw4924106622790047669:Nat:=0
def PySem.W.Fast.tw535128200509408179:Nat:=0
def PySem.W.Fast.tw18393219224920217365:Nat:=0
def PySem.W.Fast.tw17740338757807352159:Nat:=0
def PySem.W.Fast.tw289762825714669196:Nat:=0
def PySem.W.Fast.tw3809590462802262076:Nat:=0
def PySem.W.Fast.tw383903259293854099:Nat:=0
def PySem.W.Fast.tw3682565399394416387:Nat:=0
def PySem.W.Fast.tw17249034005302900250:Nat:=0
def PySem.W.Fast.tw6416376253836982865:Nat:=0
def PySem.W.Fast.tw17937711300098312575:Nat:=0
def PySem.W.Fast.tw13172793730067754850:Nat:=0
def PySem.W.Fast.tw10497007552783715556:Nat:=0
def PySem.W.Fast.tw9605767909403078702:Nat:=0
def PySem.W.Fast.tw6199245153207947:Nat:=0
def PySem.W.Fast.tw10295992979286382187:Nat:=0
def PySem.W.Fast.tw15133106153284747811:Nat:=0
def PySem.W.Fast.tw3414896924706926226:Nat:=0
def PySem.W.Fast.tw4215713086504301375:Nat:=0
def PySem.W.Fast.tw9280751402370142591:Nat:=0
def PySem.W.Fast.tw9213210347138574256:Nat:=0
def PySem.W.Fast.tw2351515401012416534:Nat:=0
def PySem.W.Fast.tw8591492148090039704:Nat:=0
def PySem.W.Fast.tw9908080356823172693:Nat:=0
def PySem.W.Fast.tw11170314204990224443:Nat:=0
def PySem.W.Fast.tw12814533292712219696:Nat:=0
def PySem.W.Fast.tw2350872257360505271:Nat:=0
def PySem.W.Fast.tw12150273621123008157:Nat:=0
def PySem.W.Fast.tw5830998804446956465:Nat:=0
def PySem.W.Fast.tw1511366331419262832:Nat:=0
def PySem.W.Fast.tw14910886628989071730:Nat:=0
def PySem.W.Fast.tw7275844729376407435:Nat:=0
def PySem.W.Fast.tw17974134124152412523:Nat:=0
def PySem.W.Fast.tw2410975739570699146:Nat:=0
def PySem.W.Fast.tw2368719988552964900:Nat:=0
def PySem.W.Fast.tw11906794414674774275:Nat:=0
def PySem.W.Fast.tw2689151409849823601:Nat:=0
def PySem.W.Fast.tw12482186145831262243:Nat:=0
def PySem.W.Fast.tw14021382872217342790:Nat:=0
def PySem.W.Fast.tw4722221506101860655:Nat:=0
def PySem.W.Fast.tw8369564042883080770:Nat:=0
def PySem.W.Fast.tw2812993922271153107:Nat:=0
def PySem.W.Fast.tw629119424624683650:Nat:=0
def PySem.W.Fast.tw9457683254909810819:Nat:=0
def PySem.W.Fast.tw9403720870789615039:Nat:=0
def PySem.W.Fast.tw16842184605559018723:Nat:=0
def PySem.W.Fast.tw2668057224930491749:Nat:=0
open PySem PySem.W PyProof.Rows
set_option maxRecDepth 100000 in
set_option maxHeartbeats 0 in
theorem PySem.Challenge.cw_marchmend_k19_no_runs_holds : PySem.Challenge.rw_marchmend_k19_no_runs.Holds := by
  w_on; o_law; k_head; (case hw=>w_witness2)
  k_fill
  refine Mh.walk (l:=PySem.Challenge.rw_marchmend_k19_no_runs) rfl rfl (fun w h Y=>PySem.W.kIn_of Y) ?F
  case F=>
    intro w mg fa h KX G hmg
    refine' Mh.all_mk KX G hmg ?p0 ?p1 ?p2 ?p3 ?p4 ?p5 ?p6 ?p7 ?p8 ?p9 ?p10 ?p11 ?p12 ?p13 ?p14 ?p15 ?p16 ?p17 ?p18 ?p19 ?p20 ?p21 ?p22 ?p23 ?p24 ?p25 ?p26 ?p27 ?p28 ?p29 ?p30 ?p31 ?p32 ?p33 ?p34 ?p35 ?p36 ?p37 ?p38 ?p39 ?p40 ?p41 ?p42 ?p43 ?p44 ?p45 ?p46 ?p47 ?p48 ?a49 ?l49 ?c49 ?k49 ?z0 ?z1 ?z2 ?z3 ?z4 ?z5 ?z6 ?z7 ?z8 ?z9 ?z10 ?z11 ?z12 ?z13 ?z14 ?z15 ?RA0 ?RA1 ?RA2 ?RA3 ?RA4 ?RA5 ?RA6 ?RA7 ?RA8 ?RA9 ?RA10 ?RA11 ?RA12 ?RM_ ?Rlk0 ?Rq0 ?Rlk2 ?Rq2 ?Rlk3 ?Rq3 ?Rex3 ?Rlk6 ?Rq6 ?Rex6 ?Rkp0 ?Rga0 ?Rgh0 ?Rha0 ?Rhm0 ?Rsa0 ?Ro0_0 ?Ro1_0 ?Ro2_0 ?Ro3_0 ?Ro4_0 ?Ro5_0 ?Ro6_0 ?Ro7_0 ?Ro8_0 ?Ro9_0 ?Ro10_0 ?Ro11_0 ?Ro12_0 ?Rve0 ?Rem0 ?Rn0_0 ?Rn0_1 ?Rhi0 ?Rhf0 ?RlI0 ?RcI0 ?RkI0 ?Rkp2 ?Rga2 ?Rgh2 ?Rha2 ?Rhm2 ?Rsa2 ?Ro0_2 ?Ro1_2 ?Ro2_2 ?Ro3_2 ?Ro4_2 ?Ro5_2 ?Ro6_2 ?Ro7_2 ?Ro8_2 ?Ro9_2 ?Ro10_2 ?Ro11_2 ?Ro12_2 ?Rve2 ?Rem2 ?Rn2_0 ?Rhi2 ?Rhf2 ?RlI2 ?RcI2 ?RkI2 ?Rkp3 ?Rga3 ?Rgh3 ?Rha3 ?Rhm3 ?Rsa3 ?Ro0_3 ?Ro1_3 ?Ro2_3 ?Ro3_3 ?Ro4_3 ?Ro5_3 ?Ro6_3 ?Ro7_3 ?Ro8_3 ?Ro9_3 ?Ro10_3 ?Ro11_3 ?Ro12_3 ?Rve3 ?Rem3 ?Rkp6 ?Rga6 ?Rgh6 ?Rha6 ?Rhm6 ?Rsa6 ?Ro0_6 ?Ro1_6 ?Ro2_6 ?Ro3_6 ?Ro4_6 ?Ro5_6 ?Ro6_6 ?Ro7_6 ?Ro8_6 ?Ro9_6 ?Ro10_6 ?Ro11_6 ?Ro12_6 ?Rve6 ?Rem6 ?Rhn ?Rtk ?RzV ?zset ?zzip ?zall ?aMC ?aMH ?aMU ?aJ ?lJ ?aP ?lP ?mP ?tp0 ?tp1 ?tp2 ?tp3 ?tp4 ?tp5 ?tp6 ?tp7 ?tp8 ?tp9 ?aO ?lO ?aL ?lL ?aK ?lK ?aT ?aE ?ca0 ?cp0 ?cd0_ ?co0 ?cs0 ?cf0_0 ?cf0_1 ?cm0_ ?ck0 ?am0_0 ?lm0_0 ?cm0_0 ?im0_0 ?km0_0 ?am0_1 ?lm0_1 ?cm0_1 ?im0_1 ?km0_1 ?am0_2 ?lm0_2 ?cm0_2 ?im0_2 ?km0_2 ?am0_3 ?lm0_3 ?cm0_3 ?im0_3 ?km0_3 ?am0_4 ?lm0_4 ?cm0_4 ?im0_4 ?km0_4 ?am0_5 ?lm0_5 ?cm0_5 ?im0_5 ?km0_5
    (case p0=>exact ⟨_,_,_,_,_,_,_,_,_,_,by k_is,by k_is,by k_is,by k_is⟩)
    (case p1=>exact ⟨_,_,_,_,_,_,_,_,_,_,by k_is,by k_is,by k_is,by k_is⟩)
    (case p2=>exact ⟨_,_,_,_,_,_,_,_,_,_,by k_is,by k_is,by k_is,by k_is⟩)
    (case p3=>exact ⟨_,_,_,_,_,_,_,_,_,_,by k_is,by k_is,by k_is,by k_is⟩)
    (case p4=>exact ⟨_,_,_,_,_,_,_,_,_,_,by k_is,by k_is,by k_is,by k_is⟩)
    (case p5=>exact ⟨_,_,_,_,_,_,_,_,_,_,by k_is,by k_is,by k_is,by k_is⟩)
    (case p6=>exact ⟨_,_,_,_,_,_,_,_,_,_,by k_is,by k_is,by k_is,by k_is⟩)
    (case p7=>exact ⟨_,_,_,_,_,_,_,_,_,_,by k_is,by k_is,by k_is,by k_is⟩)
    (case p8=>exact ⟨_,_,_,_,_,_,_,_,_,_,by k_is,by k_is,by k_is,by k_is⟩)
    (case p9=>exact ⟨_,_,_,_,_,_,_,_,_,_,by k_is,by k_is,by k_is,by k_is⟩)
    (case p10=>exact ⟨_,_,_,_,_,_,_,_,_,_,by k_is,by k_is,by k_is,by k_is⟩)
    (case p11=>exact ⟨_,_,_,_,_,_,_,_,_,_,by k_is,by k_is,by k_is,by k_is⟩)
    (case p12=>exact ⟨_,_,_,_,_,_,_,_,_,_,by k_is,by k_is,by k_is,by k_is⟩)
    (case p13=>exact ⟨_,_,_,_,_,_,_,_,_,_,by k_is,by k_is,by k_is,by k_is⟩)
    (case p14=>exact ⟨_,_,_,_,_,_,_,_,_,_,by k_is,by k_is,by k_is,by k_is⟩)
    (case p15=>exact ⟨_,_,_,_,_,_,_,_,_,_,by k_is,by k_is,by k_is,by k_is⟩)
    (case p16=>exact ⟨_,_,_,_,_,_,_,_,_,_,by k_is,by k_is,by k_is,by k_is⟩)
    (case p17=>exact ⟨_,_,_,_,_,_,_,_,_,_,by k_is,by k_is,by k_is,by k_is⟩)
    (case p18=>exact ⟨_,_,_,_,_,_,_,_,_,_,by k_is,by k_is,by k_is,by k_is⟩)
    (case p19=>exact ⟨_,_,_,_,_,_,_,_,_,_,by k_is,by k_is,by k_is,by k_is⟩)
    (case p20=>exact ⟨_,_,_,_,_,_,_,_,_,_,by k_is,by k_is,by k_is,by k_is⟩)
    (case p21=>exact ⟨_,_,_,_,_,_,_,_,_,_,by k_is,by k_is,by k_is,by k_is⟩)
    (case p22=>exact ⟨_,_,_,_,_,_,_,_,_,_,by k_is,by k_is,by k_is,by k_is⟩)
    (case p23=>exact ⟨_,_,_,_,_,_,_,_,_,_,by k_is,by k_is,by k_is,by k_is⟩)
    (case p24=>exact ⟨_,_,_,_,_,_,_,_,_,_,by k_is,by k_is,by k_is,by k_is⟩)
    (case p25=>exact ⟨_,_,_,_,_,_,_,_,_,_,by k_is,by k_is,by k_is,by k_is⟩)
    (case p26=>exact ⟨_,_,_,_,_,_,_,_,_,_,by k_is,by k_is,by k_is,by k_is⟩)
    (case p27=>exact ⟨_,_,_,_,_,_,_,_,_,_,by k_is,by k_is,by k_is,by k_is⟩)
    (case p28=>exact ⟨_,_,_,_,_,_,_,_,_,_,by k_is,by k_is,by k_is,by k_is⟩)
    (case p29=>exact ⟨_,_,_,_,_,_,_,_,_,_,by k_is,by k_is,by k_is,by k_is⟩)
    (case p30=>exact ⟨_,_,_,_,_,_,_,_,_,_,by k_is,by k_is,by k_is,by k_is⟩)
    (case p31=>exact ⟨_,_,_,_,_,_,_,_,_,_,by k_is,by k_is,by k_is,by k_is⟩)
    (case p32=>exact ⟨_,_,_,_,_,_,_,_,_,_,by k_is,by k_is,by k_is,by k_is⟩)
    (case p33=>exact ⟨_,_,_,_,_,_,_,_,_,_,by k_is,by k_is,by k_is,by k_is⟩)
    (case p34=>exact ⟨_,_,_,_,_,_,_,_,_,_,by k_is,by k_is,by k_is,by k_is⟩)
    (case p35=>exact ⟨_,_,_,_,_,_,_,_,_,_,by k_is,by k_is,by k_is,by k_is⟩)
    (case p36=>exact ⟨_,_,_,_,_,_,_,_,_,_,by k_is,by k_is,by k_is,by k_is⟩)
    (case p37=>exact ⟨_,_,_,_,_,_,_,_,_,_,by k_is,by k_is,by k_is,by k_is⟩)
    (case p38=>exact ⟨_,_,_,_,_,_,_,_,_,_,by k_is,by k_is,by k_is,by k_is⟩)
    (case p39=>exact ⟨_,_,_,_,_,_,_,_,_,_,by k_is,by k_is,by k_is,by k_is⟩)
    (case p40=>exact ⟨_,_,_,_,_,_,_,_,_,_,by k_is,by k_is,by k_is,by k_is⟩)
    (case p41=>exact ⟨_,_,_,_,_,_,_,_,_,_,by k_is,by k_is,by k_is,by k_is⟩)
    (case p42=>exact ⟨_,_,_,_,_,_,_,_,_,_,by k_is,by k_is,by k_is,by k_is⟩)
    (case p43=>exact ⟨_,_,_,_,_,_,_,_,_,_,by k_is,by k_is,by k_is,by k_is⟩)
    (case p44=>exact ⟨_,_,_,_,_,_,_,_,_,_,by k_is,by k_is,by k_is,by k_is⟩)
    (case p45=>exact ⟨_,_,_,_,_,_,_,_,_,_,by k_is,by k_is,by k_is,by k_is⟩)
    (case p46=>exact ⟨_,_,_,_,_,_,_,_,_,_,by k_is,by k_is,by k_is,by k_is⟩)
    (case p47=>exact ⟨_,_,_,_,_,_,_,_,_,_,by k_is,by k_is,by k_is,by k_is⟩)
    (case p48=>exact ⟨_,_,_,_,_,_,_,_,_,_,by k_is,by k_is,by k_is,by k_is⟩)
    (case a49=>k_is)
    (case l49=>k_is)
    (case c49=>k_is)
    (case k49=>k_is)
    (case z0=>k_is)
    (case z1=>k_is)
    (case z2=>k_is)
    (case z3=>k_is)
    (case z4=>k_is)
    (case z5=>k_is)
    (case z6=>k_is)
    (case z7=>k_is)
    (case z8=>k_is)
    (case z9=>k_is)
    (case z10=>k_is)
    (case z11=>k_is)
    (case z12=>k_is)
    (case z13=>k_is)
    (case z14=>k_is)
    (case z15=>k_is)
    (case RA0=>k_is)
    (case RA1=>k_is)
    (case RA2=>k_is)
    (case RA3=>k_is)
    (case RA4=>k_is)
    (case RA5=>k_is)
    (case RA6=>k_is)
    (case RA7=>k_is)
    (case RA8=>k_is)
    (case RA9=>k_is)
    (case RA10=>k_is)
    (case RA11=>k_is)
    (case RA12=>k_is)
    (case RM_=>k_is)
    (case Rlk0=>k_is)
    (case Rq0=>rfl)
    (case Rlk2=>k_is)
    (case Rq2=>rfl)
    (case Rlk3=>k_is)
    (case Rq3=>rfl)
    (case Rex3=>k_exc)
    (case Rlk6=>k_is)
    (case Rq6=>rfl)
    (case Rex6=>k_exc)
    (case Rkp0=>k_is)
    (case Rga0=>k_is)
    (case Rgh0=>k_is)
    (case Rha0=>k_is)
    (case Rhm0=>k_is)
    (case Rsa0=>k_is)
    (case Ro0_0=>kit_is)
    (case Ro1_0=>kit_is)
    (case Ro2_0=>kit_is)
    (case Ro3_0=>kit_is)
    (case Ro4_0=>kit_is)
    (case Ro5_0=>kit_is)
    (case Ro6_0=>kit_is)
    (case Ro7_0=>kit_is)
    (case Ro8_0=>kit_is)
    (case Ro9_0=>kit_is)
    (case Ro10_0=>kit_is)
    (case Ro11_0=>kit_is)
    (case Ro12_0=>kit_is)
    (case Rve0=>kit_is)
    (case Rem0=>kts_exm)
    (case Rn0_0=>k_is)
    (case Rn0_1=>k_is)
    (case Rhi0=>k_is)
    (case Rhf0=>k_is)
    (case RlI0=>k_is)
    (case RcI0=>k_is)
    (case RkI0=>k_is)
    (case Rkp2=>k_is)
    (case Rga2=>k_is)
    (case Rgh2=>k_is)
    (case Rha2=>k_is)
    (case Rhm2=>k_is)
    (case Rsa2=>k_is)
    (case Ro0_2=>kit_is)
    (case Ro1_2=>kit_is)
    (case Ro2_2=>kit_is)
    (case Ro3_2=>kit_is)
    (case Ro4_2=>kit_is)
    (case Ro5_2=>kit_is)
    (case Ro6_2=>kit_is)
    (case Ro7_2=>kit_is)
    (case Ro8_2=>kit_is)
    (case Ro9_2=>kit_is)
    (case Ro10_2=>kit_is)
    (case Ro11_2=>kit_is)
    (case Ro12_2=>kit_is)
    (case Rve2=>kit_is)
    (case Rem2=>kts_exm)
    (case Rn2_0=>k_is)
    (case Rhi2=>k_is)
    (case Rhf2=>k_is)
    (case RlI2=>k_is)
    (case RcI2=>k_is)
    (case RkI2=>k_is)
    (case Rkp3=>k_is)
    (case Rga3=>k_is)
    (case Rgh3=>k_is)
    (case Rha3=>k_is)
    (case Rhm3=>k_is)
    (case Rsa3=>k_is)
    (case Ro0_3=>kit_is)
    (case Ro1_3=>kit_is)
    (case Ro2_3=>kit_is)
    (case Ro3_3=>kit_is)
    (case Ro4_3=>kit_is)
    (case Ro5_3=>kit_is)
    (case Ro6_3=>kit_is)
    (case Ro7_3=>kit_is)
    (case Ro8_3=>kit_is)
    (case Ro9_3=>kit_is)
    (case Ro10_3=>kit_is)
    (case Ro11_3=>kit_is)
    (case Ro12_3=>kit_is)
    (case Rve3=>kit_is)
    (case Rem3=>kts_exm)
    (case Rkp6=>k_is)
    (case Rga6=>k_is)
    (case Rgh6=>k_is)
    (case Rha6=>k_is)
    (case Rhm6=>k_is)
    (case Rsa6=>k_is)
    (case Ro0_6=>kit_is)
    (case Ro1_6=>kit_is)
    (case Ro2_6=>kit_is)
    (case Ro3_6=>kit_is)
    (case Ro4_6=>kit_is)
    (case Ro5_6=>kit_is)
    (case Ro6_6=>kit_is)
    (case Ro7_6=>kit_is)
    (case Ro8_6=>kit_is)
    (case Ro9_6=>kit_is)
    (case Ro10_6=>kit_is)
    (case Ro11_6=>kit_is)
    (case Ro12_6=>kit_is)
    (case Rve6=>kit_is)
    (case Rem6=>kts_exm)
    (case Rhn=>k_is)
    (case Rtk=>k_is)
    (case RzV=>k_is)
    (case zset=>k_is)
    (case zzip=>k_is)
    (case zall=>k_is)
    (case aMC=>k_is)
    (case aMH=>k_is)
    (case aMU=>k_is)
    (case aJ=>k_is)
    (case lJ=>k_is)
    (case aP=>k_is)
    (case lP=>k_is)
    (case mP=>rfl)
    (case tp0=>k_is)
    (case tp1=>k_is)
    (case tp2=>k_is)
    (case tp3=>k_is)
    (case tp4=>k_is)
    (case tp5=>k_is)
    (case tp6=>k_is)
    (case tp7=>k_is)
    (case tp8=>k_is)
    (case tp9=>k_is)
    (case aO=>k_is)
    (case lO=>k_is)
    (case aL=>k_is)
    (case lL=>k_is)
    (case aK=>k_is)
    (case lK=>k_is)
    (case aT=>k_is)
    (case aE=>k_is)
    (case ca0=>k_is)
    (case cp0=>k_is)
    (case cd0_=>k_is)
    (case co0=>k_is)
    (case cs0=>k_is)
    (case cf0_0=>k_is)
    (case cf0_1=>k_is)
    (case cm0_=>k_is)
    (case ck0=>k_is)
    (case am0_0=>k_is)
    (case lm0_0=>k_is)
    (case cm0_0=>k_is)
    (case im0_0=>k_is)
    (case km0_0=>k_is)
    (case am0_1=>k_is)
    (case lm0_1=>k_is)
    (case cm0_1=>k_is)
    (case im0_1=>k_is)
    (case km0_1=>k_is)
    (case am0_2=>k_is)
    (case lm0_2=>k_is)
    (case cm0_2=>k_is)
    (case im0_2=>k_is)
    (case km0_2=>k_is)
    (case am0_3=>k_is)
    (case lm0_3=>k_is)
    (case cm0_3=>k_is)
    (case im0_3=>k_is)
    (case km0_3=>k_is)
    (case am0_4=>k_is)
    (case lm0_4=>k_is)
    (case cm0_4=>k_is)
    (case im0_4=>k_is)
    (case km0_4=>k_is)
    (case am0_5=>k_is)
    (case lm0_5=>k_is)
    (case cm0_5=>k_is)
    (case im0_5=>k_is)
    (case km0_5=>k_is)
#print axioms PySem.Challenge.cw_marchmend_k19_no_runs_holds
