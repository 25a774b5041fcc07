import PyProof.Rows.All
import Wide.All
import OpenK.AllK
import Wide.FinOn
import Lean
import PyProof.EqAt
import PyProof.EqKinds
import PyProof.TupleCall
import PyProof.StrLawsTight
import PyProof.Rows.StrJoin2
import PyProof.Rows.StrSplitJoin
import KE.KTab
import PyProof.ZipIter
import PyProof.Rows.TupIter
import PyProof.Rows.SortWalk
import PyProof.Rows.SortStr
import PyProof.ConsumeWalk
import KE.KRevSl
import KE.KTryMore
import PyProof.NsDelKeeps
import PyProof.NeKinds
import KE.KIntText
import PyProof.SetKind
import PyProof.SetRoads
import PyProof.Rows.SetFrom
import PyProof.CollectWalk
import PyProof.CollectIter
import PyProof.Rows.SortShell
import PyProof.Rows.MinMaxN
import PySem.Challenge.RW_marchmend_k20_whole_what_lies_between
set_option Elab.async false
set_option linter.all false
set_option maxRecDepth 100000
set_option maxHeartbeats 8000000
namespace L2
open PySem PySem.Spec PyProof.Rows
abbrev Key:=Sum Int Str
def qke:Key→Value→Bool
 | .inl k,v=>Value.isInt k v
 | .inr x,v=>Value.isStrOf x v
def keyH (w:World):Key→Int
 | .inl k=>hashInt k
 | .inr x=>hashStr w x
theorem ya5:∀ {k:Key}{v:Value},qke k v=true→(∃ i t,k=Sum.inl i∧v=Value.int i t)∨(∃ x t,k=Sum.inr x∧v=Value.str x t)
 | .inl i,v,h=>by
  obtain ⟨t,e⟩:=Value.isInt_shape (k:=i) (v:=v) h
  exact .inl ⟨i,t,rfl,e⟩
 | .inr x,v,h=>by
  obtain ⟨t,e⟩:=Value.isStrOf_shape (x:=x) (v:=v) h
  exact .inr ⟨x,t,rfl,e⟩
theorem qko (i:Int) (t:Tok):qke (.inl i) (.int i t)=true:=by simp[qke,Value.isInt]
theorem ylu (x:Str) (t:Tok):qke (.inr x) (.str x t)=true:=by simp[qke,Value.isStrOf]
theorem key_ll (a b:Int):decide ((Sum.inl a:Key)=Sum.inl b)=(a == b):=by
 by_cases e:a=b
 ·subst e;simp
 ·have h:¬ (Sum.inl a:Key)=Sum.inl b:=fun q=>e (Sum.inl.inj q)
  rw[decide_eq_false h]
  exact (beq_eq_false_iff_ne.mpr e).symm
theorem key_rr (a b:Str):decide ((Sum.inr a:Key)=Sum.inr b)=decide (a=b):=by
 by_cases e:a=b
 ·subst e;simp
 ·have h:¬ (Sum.inr a:Key)=Sum.inr b:=fun q=>e (Sum.inr.inj q)
  rw[decide_eq_false h,decide_eq_false e]
theorem key_lr (a:Int) (b:Str):decide ((Sum.inl a:Key)=Sum.inr b)=false:=decide_eq_false (fun q=>nomatch q)
theorem key_rl (a:Str) (b:Int):decide ((Sum.inr a:Key)=Sum.inl b)=false:=decide_eq_false (fun q=>nomatch q)
def ya0 (prog:Program) (w:World):PySem.KeyKind prog w Key where
 is:=qke
 hash:=keyH w
 inj:=fun v a b ha hb=>by
  rcases ya5 ha with ⟨i,t,rfl,rfl⟩|⟨x,t,rfl,rfl⟩
  ·rcases ya5 hb with ⟨j,u,rfl,e⟩|⟨y,u,rfl,e⟩
   ·injection e with e1 _;rw[e1]
   ·exact nomatch e
  ·rcases ya5 hb with ⟨j,u,rfl,e⟩|⟨y,u,rfl,e⟩
   ·exact nomatch e
   ·injection e with e1 _;rw[e1]
 byValue:=fun k v h=>by
  rcases ya5 h with ⟨i,t,rfl,rfl⟩|⟨x,t,rfl,rfl⟩<;>rfl
 pyHash:=fun hv h=>by
  rcases ya5 hv with ⟨i,t,rfl,rfl⟩|⟨x,t,rfl,rfl⟩
  ·exact wpAny_pyHash_int h
  ·exact wpAny_pyHash_str h
 eqBool:=fun hu hv h=>by
  rcases ya5 hu with ⟨i,t,rfl,rfl⟩|⟨x,t,rfl,rfl⟩
  ·rcases ya5 hv with ⟨j,u,rfl,rfl⟩|⟨y,u,rfl,rfl⟩
   ·rw[key_ll] at h;exact wpAny_eqBool_int h
   ·rw[key_lr] at h;exact SeqAt.EqAt.int_str i t y u _ _ _ _ h
  ·rcases ya5 hv with ⟨j,u,rfl,rfl⟩|⟨y,u,rfl,rfl⟩
   ·rw[key_rl] at h;exact SeqAt.EqAt.str_int x t j u _ _ _ _ h
   ·rw[key_rr] at h;exact wpAny_eqBool_str h
 «strs»:=fun k x t v h=>by
  rcases ya5 h with ⟨i,u,rfl,e⟩|⟨y,u,rfl,e⟩
  ·exact nomatch e
  ·injection e with e1 _
   subst e1
   cases v<;>rfl
theorem yi3 (prog:Program) (w:World) (i:Int) (t:Tok):(ya0 prog w).is (.inl i) (.int i t)=true:=qko i t
theorem yit (prog:Program) (w:World) (x:Str) (t:Tok):(ya0 prog w).is (.inr x) (.str x t)=true:=ylu x t
end L2
namespace L2
open PySem PySem.Spec PyProof.Rows
inductive V where
 | non|bl (b:Bool)|int (i:Int)|str (x:Str)|byt (b:Array UInt8)|flt (b:UInt64)|ref (a:Addr)|ty (n:String)
 deriving DecidableEq
def RelV:V→Value→Prop
 | .non,u=>u=Value.none
 | .bl b,u=>u=Value.bool b
 | .int i,u=>∃ t,u=Value.int i t
 | .str x,u=>∃ t,u=Value.str x t
 | .byt b,u=>∃ t,u=Value.bytes b t
 | .flt b,u=>∃ t,u=Value.float b t
 | .ref a,u=>u=Value.ref a
 | .ty n,u=>u=Value.type n
abbrev Vals:List V→List Value→Prop:=Paired RelV
theorem Vals.length {xs:List V}{us:List Value} (r:Vals xs us):xs.length=us.length:=Paired.length r
theorem Vals.get:∀ {xs:List V}{us:List Value}{i:Nat}{x:V},Vals xs us→xs[i]?=some x→∃ u,us[i]?=some u∧RelV x u
 | _,_,_,_,.nil,e=>by simp at e
 | _,_,0,_,.cons r _,e=>by simp at e;subst e;exact ⟨_,rfl,r⟩
 | _,_,i+1,x,.cons _ t,e=>by
  obtain ⟨u,h1,h2⟩:=Vals.get (i:=i) (x:=x) t (by simpa using e)
  exact ⟨u,by simpa using h1,h2⟩
theorem Vals.set {x:V}{u:Value} (r:RelV x u):∀ {xs:List V}{us:List Value} (i:Nat),Vals xs us→Vals (xs.set i x) (us.set i u)
 | _,_,_,.nil=>.nil
 | _,_,0,.cons _ t=>.cons r t
 | _,_,i+1,.cons q t=>.cons q (Vals.set r i t)
theorem Vals.append:∀ {xs ys:List V}{us ws:List Value},Vals xs us→Vals ys ws→Vals (xs++ys) (us++ws)
 | _,_,_,_,.nil,s=>s
 | _,_,_,_,.cons r t,s=>.cons r (Vals.append t s)
theorem Vals.take:∀ {xs:List V}{us:List Value} (n:Nat),Vals xs us→Vals (xs.take n) (us.take n)
 | _,_,0,_=>.nil
 | _,_,_+1,.nil=>.nil
 | _,_,n+1,.cons r t=>.cons r (Vals.take n t)
theorem Vals.drop:∀ {xs:List V}{us:List Value} (n:Nat),Vals xs us→Vals (xs.drop n) (us.drop n)
 | _,_,0,r=>r
 | _,_,_+1,.nil=>.nil
 | _,_,n+1,.cons _ t=>Vals.drop n t
def RelO:Option V→Option Value→Prop
 | some v,some u=>RelV v u
 | none,none=>True
 | _,_=>False
def KV {κ:Type}:List (κ×V)→List (κ×Value)→Prop:=Paired fun (p:κ×V) (q:κ×Value)=>p.1=q.1∧RelV p.2 q.2
def kV:Key→V
 | .inl i=>.int i
 | .inr x=>.str x
inductive HO where
 /-- a list -/
 | lst (xs:List V)
 /-- a tuple (never changes) -/
 | tup (xs:List V)
 /-- a dict whose keys are ints and texts;one whose keys are tuples of ints and texts (the empty one is both) -/
 | dK (kvs:List (Key×V))|dT (kvs:List (List Key×V))
 /-- a set of ints: its members,its size -/
 | set (S:Int→Bool) (n:Nat)
 /-- an instance of the class at C,its dict at dx,its attributes -/
 | ins (C dx:Addr) (fs:List (Str×V))
 /-- the dict of the instance at x -/
 | own (x:Addr)
 /-- the dict of an exception -/
 | xd (fs:List (Str×V))
 /-- a bound method,f of x -/
 | met (f x:Addr)
 /-- a range object lo,lo+1,.. below hi -/
 | rng (lo hi:Int)
 /-- a thing that is known to the object (the script;a dict while a loop walks it): read,never written while it is so -/
 | frz (o:Obj) (u:HO)
 /-- a code object's table -/
 | tbl (ps:Array Value)
 /-- any other thing,by what is true of its one object (a def of one's own: SetO a S n:=HO.ext fun h=>..) -/
 | ext (φ:Heap→Prop)
abbrev Hp:=Addr→Option HO
def upd (H:Hp) (a:Addr) (o:HO):Hp:=fun b=>if b=a then some o else H b
theorem yaa {H:Hp}{a:Addr}{o:HO}:upd H a o a=some o:=by unfold upd;rw[if_pos rfl]
theorem yaj {H:Hp}{a b:Addr}{o:HO} (h:b≠a):upd H a o b=H b:=by unfold upd;rw[if_neg h]
theorem qk3 {H:Hp}{a:Addr}{o u:HO}:upd (upd H a o) a u=upd H a u:=by
 funext b;unfold upd;split<;>rfl
theorem ne_of {H:Hp}{a b:Addr}{o u:HO} (h:H a=some o) (h':H b=some u) (d:o≠u):a≠b:=by
 intro e;subst e;rw[h] at h';exact d (Option.some.inj h')
theorem yae {H:Hp}{a b:Addr}{o:HO} (h:H a=some o) (h':H b=none):a≠b:=by
 intro e;subst e;rw[h] at h';cases h'
section
variable (P:Program) (w:World)
def qbm (H:Hp) (h:Heap) (a:Addr):HO→Prop
 | .lst xs=>xs.length≤sizeLine∧∃ (its:List Value) (n:Nat),Vals xs its∧h.get? a=some { cls:=.type "list",data:=.seq its.toArray n }
 | .tup xs=>xs.length≤sizeLine∧∃ its:List Value,Vals xs its∧IsTup h a its.toArray
 | .dK kvs=>kvs.length≤sizeLine∧(a == sysModules)=false∧∃ vs,KV kvs vs∧h.DictOf (ya0 P w) a vs
 | .dT kvs=>kvs.length≤sizeLine∧(a == sysModules)=false∧∃ xs:List (List Key×Addr×Value),
   Paired (fun (p:List Key×V) (q:List Key×Addr×Value)=>p.1=q.1∧H q.2.1=some (.tup (p.1.map kV))∧RelV p.2 q.2.2) kvs xs∧
   ∃ o es ep,h.get? a=some o∧o.ExactDict∧o.data=.dict es ep∧es.toList=xs.map (entryOfKey (tupleKind (ya0 P w)))∧(xs.map (·.1)).Nodup
 | .set S n=>h.SetOf (intKind P w) a S n
 | .ins C dx fs=>H dx=some (.own a)∧fs.length≤1000∧dx≠a∧h.get? a=some (PySem.W.instObj C dx)∧
   ∃ mA,h.Ns1 dx mA∧(∀ f,RelO (fs.lookup f) (mA f))∧PySem.Within mA (fs.map (·.1))
 | .own _=>∃ o,h.get? a=some o
 | .xd fs=>∃ mA,h.Ns1 a mA∧∀ f,RelO (fs.lookup f) (mA f)
 | .rng lo hi=>∃ t u v,h.get? a=some { cls:=.type "range",data:=.fields #[.int lo t,.int hi u,.int 1 v] }
 | .frz o u=>h.get? a=some o∧qbm H h a u
 | .tbl ps=>h.get? a=some { cls:=.none,data:=.fields ps }
 | .met f x=>h.get? a=some (PySem.W.methodObj (.ref f) (.ref x))
 | .ext φ=>φ h∧(∃ o,h.get? a=some o)∧∀ h1 h2:Heap,φ h1→(∀ o,h1.get? a=some o→h2.get? a=some o)→φ h2
def HOk (H:Hp) (h:Heap):Prop:=∀ a o,H a=some o→qbm P w H h a o
end
section
variable {P:Program}{w:World}{H H':Hp}{h h':Heap}{a:Addr}{o:HO}
theorem qbm.lt (x:qbm P w H h a o):a<h.objs.size:=by
 cases o with
 | lst xs=>obtain ⟨_,_,_,_,e⟩:=x;exact Heap.lt_size e
 | tup xs=>obtain ⟨_,_,_,p⟩:=x;exact p.lt
 | dK kvs=>obtain ⟨_,_,_,_,o,_,_,e,_⟩:=x;exact Heap.lt_size e
 | dT kvs=>obtain ⟨_,_,_,_,o,_,_,e,_⟩:=x;exact Heap.lt_size e
 | set S n=>obtain ⟨o,_,_,_,e,_⟩:=x;exact Heap.lt_size e
 | ins C dx fs=>obtain ⟨_,_,_,e,_⟩:=x;exact Heap.lt_size e
 | own y=>obtain ⟨_,e⟩:=x;exact Heap.lt_size e
 | xd fs=>obtain ⟨_,⟨_,_,_,e,_⟩,_⟩:=x;exact Heap.lt_size e
 | rng lo hi=>obtain ⟨_,_,_,e⟩:=x;exact Heap.lt_size e
 | frz ob u=>obtain ⟨e,_⟩:=x;exact Heap.lt_size e
 | tbl ps=>exact Heap.lt_size (show h.get? a=some _ from x)
 | met f y=>exact Heap.lt_size (show h.get? a=some _ from x)
 | ext φ=>obtain ⟨_,⟨_,e⟩,_⟩:=x;exact Heap.lt_size e
theorem Paired.mapP {α β:Type}{F G:α→β→Prop}:∀ {l₁:List α}{l₂:List β},Paired F l₁ l₂→(∀ a b,F a b→G a b)→Paired G l₁ l₂
 | _,_,.nil,_=>.nil
 | _,_,.cons r t,f=>.cons (f _ _ r) (Paired.mapP t f)
theorem qbm.stay (x:qbm P w H h a o) (k:∀ b u,(b=a∨H b=some (.own a))→h.get? b=some u→h'.get? b=some u)
  (ho:∀ b,H b=some (.own a)→H' b=some (.own a)) (ht:∀ b xs,H b=some (.tup xs)→H' b=some (.tup xs)):qbm P w H' h' a o:=by
 induction o with
 | lst xs=>obtain ⟨z,its,n,r,e⟩:=x;exact ⟨z,its,n,r,k _ _ (.inl rfl) e⟩
 | tup xs=>obtain ⟨z,its,r,ob,e,c⟩:=x;exact ⟨z,its,r,ob,k _ _ (.inl rfl) e,c⟩
 | dK kvs=>obtain ⟨z,y,vs,r,ob,es,ep,e,c⟩:=x;exact ⟨z,y,vs,r,ob,es,ep,k _ _ (.inl rfl) e,c⟩
 | dT kvs=>
  obtain ⟨z,y,xs,r,ob,es,ep,e,c⟩:=x
  exact ⟨z,y,xs,Paired.mapP r fun p q z=>⟨z.1,ht _ _ z.2.1,z.2.2⟩,ob,es,ep,k _ _ (.inl rfl) e,c⟩
 | set S n=>obtain ⟨ob,es,ep,t,e,c⟩:=x;exact ⟨ob,es,ep,t,k _ _ (.inl rfl) e,c⟩
 | ins C dx fs=>
  obtain ⟨d,z,ne,e,mA,⟨od,es,ep,e2,c⟩,r⟩:=x
  exact ⟨ho _ d,z,ne,k _ _ (.inl rfl) e,mA,⟨od,es,ep,k _ _ (.inr d) e2,c⟩,r⟩
 | own y=>obtain ⟨ob,e⟩:=x;exact ⟨ob,k _ _ (.inl rfl) e⟩
 | xd fs=>obtain ⟨mA,⟨od,es,ep,e,c⟩,r⟩:=x;exact ⟨mA,⟨od,es,ep,k _ _ (.inl rfl) e,c⟩,r⟩
 | rng lo hi=>obtain ⟨t,u,v,e⟩:=x;exact ⟨t,u,v,k _ _ (.inl rfl) e⟩
 | frz ob u ih=>obtain ⟨e,q⟩:=x;exact ⟨k _ _ (.inl rfl) e,ih q⟩
 | tbl ps=>
  have e:h.get? a=some { cls:=.none,data:=.fields ps }:=x
  show h'.get? a=some { cls:=.none,data:=.fields ps }
  exact k a _ (.inl rfl) e
 | met f y=>
  have e:h.get? a=some (PySem.W.methodObj (.ref f) (.ref y)):=x
  show h'.get? a=some (PySem.W.methodObj (.ref f) (.ref y))
  exact k a _ (.inl rfl) e
 | ext φ=>obtain ⟨p,⟨o,e⟩,st⟩:=x;exact ⟨st _ _ p fun o q=>k _ _ (.inl rfl) q,⟨o,k _ _ (.inl rfl) e⟩,st⟩
theorem HOk.lt (x:HOk P w H h) (e:H a=some o):a<h.objs.size:=(x a o e).lt
theorem HOk.fresh (x:HOk P w H h) (e:h.objs.size≤a):H a=none:=by
 cases q:H a with
 | none=>rfl
 | some u=>exact absurd (Nat.lt_of_lt_of_le (x.lt q) e) (Nat.lt_irrefl _)
theorem HOk.kept (x:HOk P w H h) (k:∀ b u,h.get? b=some u→h'.get? b=some u):HOk P w H h':=fun a o e=>
 (x a o e).stay (fun b u _ q=>k b u q) (fun _ q=>q) fun _ _ q=>q
theorem HOk.laid (x:HOk P w H h) (k:∀ b u,h.get? b=some u→h'.get? b=some u) (hp:h.objs.size≤a) (new:qbm P w (upd H a o) h' a o):HOk P w (upd H a o) h':=fun b u e=>by
 have hn:=x.fresh hp
 by_cases hb:b=a
 ·subst hb;rw[yaa] at e;cases e;exact new
 ·rw[yaj hb] at e
  exact (x b u e).stay (fun c v _ q=>k c v q) (fun c q=>by rw[yaj (yae q hn)];exact q) fun c xs q=>by rw[yaj (yae q hn)];exact q
end
def Rd (H:Hp) (a:Addr) (u:HO):Prop:=H a=some u∨∃ o,H a=some (.frz o u)
theorem Rd.ok {P:Program}{w:World}{H:Hp}{h:Heap}{a:Addr}{u:HO} (r:Rd H a u) (x:HOk P w H h):qbm P w H h a u:=by
 rcases r with r|⟨o,r⟩
 ·exact x a u r
 ·obtain ⟨_,q⟩:=x a _ r
  exact q
def Mut:Option HO→Prop
 | some (.lst _)=>True
 | some (.dK _)=>True
 | some (.dT _)=>True
 | some (.set _ _)=>True
 | some (.ins _ _ _)=>True
 | some (.ext _)=>True
 | _=>False
section
variable {P:Program}{w:World}{H:Hp}{h h':Heap}{x e:Addr}{o':HO}
theorem HOk.write (ok:HOk P w H h) (mu:Mut (H x)) (he:e=x∨H e=some (.own x)) (k:∀ b u,b≠e→h.get? b=some u→h'.get? b=some u) (heo:∃ u,h'.get? e=some u)
  (new:qbm P w (upd H x o') h' x o'):HOk P w (upd H x o') h':=fun b u q=>by
 have nown:∀ c y,H c=some (.own y)→c≠x:=fun c y r z=>by subst z;rw[r] at mu;exact mu
 have ntup:∀ c xs,H c=some (.tup xs)→c≠x:=fun c xs r z=>by subst z;rw[r] at mu;exact mu
 by_cases hb:b=x
 ·subst hb;rw[yaa] at q;cases q;exact new
 ·rw[yaj hb] at q
  by_cases hbe:b=e
  ·have q':H b=some (.own x):=by
    rcases he with z|z
    ·exact absurd (hbe.trans z) hb
    ·rw[hbe];exact z
   rw[q] at q';cases q'
   obtain ⟨v,hv⟩:=heo
   exact ⟨v,by rw[hbe];exact hv⟩
  ·refine (ok b u q).stay (fun c v hc r=>k c v ?_ r) (fun c r=>by rw[yaj (nown c b r)];exact r) fun c xs r=>by rw[yaj (ntup c xs r)];exact r
   rcases hc with rfl|hc
   ·exact hbe
   ·rintro rfl
    rcases he with z|z
    ·exact nown c b hc z
    ·rw[hc] at z;cases z;exact hb rfl
end
structure Un (fs ex:List Addr) (H H':Hp) (h h':Heap):Prop where
 keep:∀ b o,h.get? b=some o→H b=none→b∉fs→b∉ex→h'.get? b=some o
 slot:∀ b o,h.get? b=some o→H b=none→b∈fs→b∉ex→∃ sl,h'.get? b=some { o with slots:=sl }
 free:∀ b o,h.get? b=some o→H b=none→b∉ex→H' b=none
 there:∀ b o,h.get? b=some o→b∉ex→∃ o',h'.get? b=some o'
 tups:∀ b xs,H b=some (.tup xs)→H' b=some (.tup xs)
 frzs:∀ b o u,H b=some (.frz o u)→H' b=some (.frz o u)
 tbls:∀ b ps,H b=some (.tbl ps)→∃ more,H' b=some (.tbl (ps++more))
section
variable {fs fs' ex ex':List Addr}{H H1 H2:Hp}{h h1 h2 h':Heap}{a x e:Addr}{o:HO}
theorem Un.any (u:Un fs ex H H1 h h1) {b:Addr}{ob:Obj} (q:h.get? b=some ob) (n:H b=none) (hx:b∉ex):∃ sl,h1.get? b=some { ob with slots:=sl }:=by
 by_cases hb:b∈fs
 ·exact u.slot b ob q n hb hx
 ·exact ⟨ob.slots,u.keep b ob q n hb hx⟩
theorem Un.kept (k:∀ b u,h.get? b=some u→h'.get? b=some u):Un fs ex H H h h':=
 ⟨fun b ob q _ _ _=>k b ob q,fun b ob q _ _ _=>⟨ob.slots,k b ob q⟩,fun _ _ _ n _=>n,fun b ob q _=>⟨ob,k b ob q⟩,fun _ _ q=>q,fun _ _ _ q=>q,fun _ ps q=>⟨#[],by rw[q];simp⟩⟩
theorem Un.refl:Un fs ex H H h h:=Un.kept fun _ _ q=>q
theorem Un.laid (k:∀ b u,h.get? b=some u→h'.get? b=some u) (hp:h.objs.size≤a) (hn:H a=none):Un fs ex H (upd H a o) h h' where
 keep:=fun b u q _ _ _=>k b u q
 slot:=fun b u q _ _ _=>⟨u.slots,k b u q⟩
 free:=fun b u q n _=>by rw[yaj (Nat.ne_of_lt (Nat.lt_of_lt_of_le (Heap.lt_size q) hp))];exact n
 there:=fun b u q _=>⟨u,k b u q⟩
 tups:=fun b xs q=>by rw[yaj (yae q hn)];exact q
 frzs:=fun b u xs q=>by rw[yaj (yae q hn)];exact q
 tbls:=fun b ps q=>⟨#[],by rw[yaj (yae q hn),q];simp⟩
theorem Un.write (mu:Mut (H x)) (he:e=x∨H e=some (.own x)) (k:∀ b u,b≠e→h.get? b=some u→h'.get? b=some u) (heo:∃ u,h'.get? e=some u):Un fs ex H (upd H x o) h h':=by
 have hx:∀ b,H b=none→b≠x:=fun b n z=>by subst z;rw[n] at mu;exact mu
 have hb:∀ b,H b=none→b≠e:=fun b n z=>by
  subst z
  rcases he with r|r
  ·exact hx b n r
  ·rw[n] at r;cases r
 have hm:∀ b u,H b=some u→¬ Mut (some u)→b≠x:=fun b u q nm z=>by subst z;rw[q] at mu;exact nm mu
 refine ⟨fun b u q n _ _=>k b u (hb b n) q,fun b u q n _ _=>⟨u.slots,k b u (hb b n) q⟩,fun b u q n _=>by rw[yaj (hx b n)];exact n,fun b u q _=>?_,
  fun b xs q=>by rw[yaj (hm b _ q fun z=>z)];exact q,fun b u xs q=>by rw[yaj (hm b _ q fun z=>z)];exact q,fun b ps q=>⟨#[],by rw[yaj (hm b _ q fun z=>z),q];simp⟩⟩
 by_cases hbe:b=e
 ·subst hbe;exact heo
 ·exact ⟨u,k b u hbe q⟩
end
def trk (h:Heap) (H:Hp):List Addr:=(List.range h.objs.size).filter fun a=>(H a).isSome
def hidT (h:Heap) (H:Hp):Heap:=PySem.W.hideAll h (trk h H)
theorem yl7 (h:Heap) (H:Hp):(hidT h H).objs.size=h.objs.size:=PySem.W.hideAll_size _ _
theorem hidT_get {h:Heap}{H:Hp}{b:Addr}{o:Obj} (e:h.get? b=some o) (n:H b=none):(hidT h H).get? b=some o:=
 PySem.W.hideAll_get _ e fun hm=>by
  have q:(H b).isSome=true:=(List.mem_filter.mp hm).2
  rw[n] at q;simp at q
theorem of_hidT {h:Heap}{H:Hp}{b:Addr}{o:Obj} (e:(hidT h H).get? b=some o):h.get? b=some o∧H b=none:=by
 have e':h.get? b=some o:=PySem.W.of_hideAll (trk h H) e
 refine ⟨e',?_⟩
 cases q:H b with
 | none=>rfl
 | some x=>
  have hm:b∈trk h H:=List.mem_filter.mpr ⟨List.mem_range.mpr (Heap.lt_size e'),by simp[q]⟩
  have z:(hidT h H).get? b=none:=PySem.W.hideAll_none (trk h H) hm
  rw[z] at e;cases e
structure Mod (K:PySem.W.Frag) (mg:Str→Option Value) (base:Heap):Prop where
 kin:K.In base
 glob:base.Ns mainGlobals mg
 blt:∃ mb,base.Ns builtinsNs mb∧∀ x:Str,x≠"__name__"→mb x=bootBuiltins x
 nolimit:base.NoLimit
structure Cx where
 prog:Program
 w:World
 K:PySem.W.Frag
 mg:Str→Option Value
 base:Heap
 A:Around
 N:List Str
 s₀:Shared
 H₀:Hp
 env:Env
 outer:List Env
 stack:List Env
 ex:List Addr
 fn:Str→Bool
 calm:Bool
 pn:List (Addr×Obj)
 xe:Value→Shared→Prop
def frs (l:List Env):List Addr:=l.filterMap (·.frame)
abbrev Cx.fs (X:Cx):List Addr:=frs X.outer
def Vis (sc:Scope) (x:Str):Prop:=sc.names.lookup x=some .local∨sc.names.lookup x=some .cell∨sc.names.lookup x=some .free
def Loc (sc:Scope) (x:Str):Prop:=sc.names.lookup x=some .local∨sc.names.lookup x=some .cell
def Look (env:Env) (h:Heap) (m:Str→Option Value) (x:Str) (u:Value):Prop:=
 (env.kindOf x=some .local∧m x=some u)∨((env.kindOf x=some .cell∨env.kindOf x=some .free)∧∃ c,env.cells.lookup x=some c∧h.IsCell c (some u))
structure Cx.Ok (X:Cx):Prop where
 mod:Mod X.K X.mg X.base
 kind:X.env.scope.kind=.function
 glob:X.env.globals=mainGlobals
 blt:X.env.builtins=builtinsNs
 above:X.s₀.heap.objs.size≤X.env.locals
 inj:∀ x y c,X.env.cells.lookup x=some c→X.env.cells.lookup y=some c→x=y
 has:∀ x,(X.env.kindOf x=some .cell∨X.env.kindOf x=some .free)→∃ c,X.env.cells.lookup x=some c
 cab:∀ x c,X.fn x=true→X.env.cells.lookup x=some c→X.s₀.heap.objs.size≤c
 hd:X.calm=true→X.A.handled=none
 frames:X.A.frames=some X.stack
 stk:X.stack=X.outer∨(X.stack=X.env::X.outer∧X.env.frame=some X.env.locals)
 exf:∀ b∈X.ex,b≠X.env.locals∧∀ x c,X.env.cells.lookup x=some c→c≠b
 bs:∀ b o,X.base.get? b=some o→X.s₀.heap.get? b=some o∧X.H₀ b=none
 bsz:X.base.objs.size≤X.s₀.heap.objs.size
 noex:∀ b o,X.base.get? b=some o→b∉X.ex
 exfs:∀ b∈X.ex,b∉X.fs
 funs:X.s₀.heap.FunFrames X.base X.outer
 frf:∀ b∈X.fs,X.H₀ b=none
structure Inv (X:Cx) (pins:List (Addr×Obj)) (σ:List (Option V)) (H:Hp) (s:Shared):Prop where
 ok:X.Ok
 os:s.os=X.s₀.os
 bare:AllBare s.gens
 base:Un X.fs X.ex X.H₀ H X.s₀.heap s.heap
 loc:∃ m,s.heap.Ns X.env.locals m∧∀ (i:Nat) (x:Str) (v:V),X.N[i]?=some x→σ[i]?=some (some v)→Vis X.env.scope x→∃ u,RelV v u∧Look X.env s.heap m x u
 cell:∀ x c,X.env.cells.lookup x=some c→∃ v,s.heap.IsCell c v
 free:H X.env.locals=none
 freeC:∀ x c,X.env.cells.lookup x=some c→H c=none
 pin:∀ p∈X.pn++pins,s.heap.get? p.1=some p.2∧H p.1=none∧p.1≠X.env.locals∧p.1∉X.fs∧∀ v,p.2.data≠.cell v
 hok:HOk X.prog X.w H s.heap
 len:σ.length=X.N.length
section
variable {X:Cx}{pins:List (Addr×Obj)}{σ:List (Option V)}{H H':Hp}{s:Shared}{h':Heap}
theorem Cx.Ok.nofr (ok:X.Ok) {b:Addr}{o:Obj} (e:X.base.get? b=some o):b∉X.fs:=fun hb=>by
 have:=(ok.funs.mem hb).1
 rw[e] at this;cases this
theorem Inv.bs (I:Inv X pins σ H s):∀ b o,X.base.get? b=some o→s.heap.get? b=some o∧H b=none:=fun b o e=>
 ⟨I.base.keep b o (I.ok.bs b o e).1 (I.ok.bs b o e).2 (I.ok.nofr e) (I.ok.noex b o e),I.base.free b o (I.ok.bs b o e).1 (I.ok.bs b o e).2 (I.ok.noex b o e)⟩
theorem Inv.bk (I:Inv X pins σ H s):∀ b o,X.base.get? b=some o→s.heap.get? b=some o:=fun b o e=>(I.bs b o e).1
theorem Inv.mod (I:Inv X pins σ H s):Mod X.K X.mg X.base:=I.ok.mod
theorem Inv.kIn (I:Inv X pins σ H s):X.K.In s.heap:=I.ok.mod.kin.keeps I.bk
theorem Inv.lt (I:Inv X pins σ H s):X.env.locals<s.heap.objs.size:=let ⟨_,hn,_⟩:=I.loc;hn.lt
theorem Inv.sz (I:Inv X pins σ H s):X.s₀.heap.objs.size≤s.heap.objs.size:=Nat.le_trans I.ok.above (Nat.le_of_lt I.lt)
theorem Inv.nofs (I:Inv X pins σ H s) {a:Addr} (h:s.heap.objs.size≤a):a∉X.fs:=fun hb=>by
 obtain ⟨_,o,ho,_⟩:=I.ok.funs.mem hb
 exact absurd (Nat.lt_of_lt_of_le (Heap.lt_size ho) (Nat.le_trans I.sz h)) (Nat.lt_irrefl _)
theorem Inv.cne (I:Inv X pins σ H s):∀ x c,X.env.cells.lookup x=some c→c≠X.env.locals:=fun x c e z=>by
 obtain ⟨v,o,ho,hd⟩:=I.cell x c e
 obtain ⟨m,⟨o',es,ep,ho',hd',_⟩,_⟩:=I.loc
 rw[z,ho'] at ho;cases ho;rw[hd'] at hd;cases hd
theorem Inv.funs (I:Inv X pins σ H s):s.heap.FunFrames X.base X.outer:=by
 have all:∀ (l:List Env),(∀ b∈frs l,b∈X.fs)→X.s₀.heap.FunFrames X.base l→s.heap.FunFrames X.base l:=by
  intro l
  induction l with
  | nil=>intro _ _;trivial
  | cons env r ih=>
   intro hs hl
   obtain ⟨hk,⟨L,o,hf,hn,ho,hd⟩,hr⟩:=hl
   have hL:L∈X.fs:=hs L (by unfold frs;rw[List.filterMap_cons,hf];exact List.mem_cons_self)
   obtain ⟨sl,e⟩:=I.base.slot L o ho (I.ok.frf L hL) hL fun z=>I.ok.exfs L z hL
   exact ⟨hk,⟨L,_,hf,hn,e,hd⟩,ih (fun b hb=>hs b (by unfold frs;rw[List.filterMap_cons,hf];exact List.mem_cons_of_mem _ hb)) hr⟩
 exact all X.outer (fun _ hb=>hb) I.ok.funs
theorem Inv.stack (I:Inv X pins σ H s):s.heap.FunFrames X.base X.stack:=by
 rcases I.ok.stk with e|⟨e,hf⟩
 ·rw[e];exact I.funs
 ·rw[e]
  obtain ⟨m,hn,_⟩:=I.loc
  refine .cons (by rw[I.ok.kind];decide) hf hn ?_ I.funs
  exact Heap.get?_none_of_le (Nat.le_trans I.ok.bsz I.ok.above)
theorem Inv.stkSub (I:Inv X pins σ H s):∀ b∈frs X.stack,b∈X.env.locals::X.fs:=fun b hb=>by
 rcases I.ok.stk with e|⟨e,hf⟩
 ·rw[e] at hb;exact List.mem_cons_of_mem _ hb
 ·rw[e] at hb
  unfold frs at hb
  rw[List.filterMap_cons,hf] at hb
  exact hb
theorem Inv.stkFree (I:Inv X pins σ H s):∀ b∈frs X.stack,H b=none:=fun b hb=>by
 rcases List.mem_cons.mp (I.stkSub b hb) with e|hb
 ·rw[e];exact I.free
 ·obtain ⟨_,o,ho,_⟩:=I.ok.funs.mem hb
  exact I.base.free b o ho (I.ok.frf b hb) fun z=>I.ok.exfs b z hb
theorem Inv.step {g':Array GenState}{t':Nat}{d':Drawn}{ch:List Addr} (I:Inv X pins σ H s)
  (hch:∀ b∈ch,(b∈X.ex∨X.s₀.heap.objs.size≤b)∧b≠X.env.locals∧(∀ x c,X.env.cells.lookup x=some c→c≠b)∧∀ p∈X.pn++pins,p.1≠b)
  (keep:∀ b o,b≠X.env.locals→b∉X.fs→b∉ch→s.heap.get? b=some o→H b=none→h'.get? b=some o)
  (slot:∀ b o,b≠X.env.locals→b∈X.fs→b∉ch→s.heap.get? b=some o→H b=none→∃ sl,h'.get? b=some { o with slots:=sl }) (free:∀ b o,b∉ch→s.heap.get? b=some o→H b=none→H' b=none)
  (there:∀ b o,b∉ch→s.heap.get? b=some o→∃ o',h'.get? b=some o')
  (tups:∀ b xs,H b=some (.tup xs)→H' b=some (.tup xs)) (frzs:∀ b o u,H b=some (.frz o u)→H' b=some (.frz o u)) (tbls:∀ b ps,H b=some (.tbl ps)→∃ more,H' b=some (.tbl (ps++more)))
  (ns:∀ m,s.heap.Ns X.env.locals m→h'.Ns X.env.locals m) (hok:HOk X.prog X.w H' h') (hg:AllBare g') :
  Inv X pins σ H' { s with heap:=h',gens:=g',drawn:=d',toks:=t' }:=by
 have neL:∀ b o,X.s₀.heap.get? b=some o→b≠X.env.locals:=fun b o e=>Nat.ne_of_lt (Nat.lt_of_lt_of_le (Heap.lt_size e) I.ok.above)
 have neC:∀ b o,X.s₀.heap.get? b=some o→b∉X.ex→b∉ch:=fun b o e hx hb=>by
  rcases (hch b hb).1 with z|z
  ·exact hx z
  ·exact absurd (Nat.lt_of_lt_of_le (Heap.lt_size e) z) (Nat.lt_irrefl _)
 have cellK:∀ x c,X.env.cells.lookup x=some c→∀ v,s.heap.IsCell c v→h'.IsCell c v:=fun x c e v ⟨o,ho,hd⟩=>by
  have nch:c∉ch:=fun z=>(hch c z).2.2.1 x c e rfl
  by_cases hc:c∈X.fs
  ·obtain ⟨sl,q⟩:=slot c o (I.cne x c e) hc nch ho (I.freeC x c e)
   exact ⟨_,q,hd⟩
  ·exact ⟨o,keep c o (I.cne x c e) hc nch ho (I.freeC x c e),hd⟩
 refine ⟨I.ok,I.os,hg,⟨fun b o e n hb hx=>?_,fun b o e n hb hx=>?_,fun b o e n hx=>?_,fun b o e hx=>?_,fun b xs e=>tups b xs (I.base.tups b xs e),fun b o xs e=>frzs b o xs (I.base.frzs b o xs e),fun b ps e=>?_⟩,?_,fun x c e=>?_,?_,fun x c e=>?_,fun p hp=>?_,hok,I.len⟩
 ·exact keep b o (neL b o e) hb (neC b o e hx) (I.base.keep b o e n hb hx) (I.base.free b o e n hx)
 ·obtain ⟨sl,e1⟩:=I.base.slot b o e n hb hx
  obtain ⟨sl',e2⟩:=slot b _ (neL b o e) hb (neC b o e hx) e1 (I.base.free b o e n hx)
  exact ⟨sl',e2⟩
 ·obtain ⟨o',e1⟩:=I.base.there b o e hx
  exact free b o' (neC b o e hx) e1 (I.base.free b o e n hx)
 ·obtain ⟨o',e1⟩:=I.base.there b o e hx
  exact there b o' (neC b o e hx) e1
 ·obtain ⟨m1,e1⟩:=I.base.tbls b ps e
  obtain ⟨m2,e2⟩:=tbls b _ e1
  exact ⟨m1++m2,by rw[e2,Array.append_assoc]⟩
 ·obtain ⟨m,hn,hl⟩:=I.loc
  refine ⟨m,ns m hn,fun i x v e1 e2 e3=>?_⟩
  obtain ⟨u,r,l⟩:=hl i x v e1 e2 e3
  refine ⟨u,r,?_⟩
  rcases l with l|⟨k,c,e,z⟩
  ·exact .inl l
  ·exact .inr ⟨k,c,e,cellK x c e _ z⟩
 ·obtain ⟨v,z⟩:=I.cell x c e
  exact ⟨v,cellK x c e v z⟩
 ·obtain ⟨m,⟨o,_,_,ho,_⟩,_⟩:=I.loc
  exact free _ o (fun z=>(hch _ z).2.1 rfl) ho I.free
 ·obtain ⟨v,o,ho,hd⟩:=I.cell x c e
  exact free c o (fun z=>(hch c z).2.2.1 x c e rfl) ho (I.freeC x c e)
 ·obtain ⟨e,n,ne,nf,d⟩:=I.pin p hp
  have nch:p.1∉ch:=fun z=>(hch p.1 z).2.2.2 p hp rfl
  exact ⟨keep p.1 p.2 ne nf nch e n,free p.1 p.2 nch e n,ne,nf,d⟩
theorem Inv.un {t':Nat} (I:Inv X pins σ H s) (u:Un X.fs [] H H' s.heap h') (hok:HOk X.prog X.w H' h'):Inv X pins σ H' { s with heap:=h',toks:=t' }:=by
 obtain ⟨m,⟨o,es,ep,ho,r⟩,_⟩:=id I.loc
 obtain ⟨sl,hL⟩:=u.any ho I.free (by simp)
 exact I.step (g':=s.gens) (d':=s.drawn) (ch:=[]) (fun _ z=>nomatch z) (fun b o _ hb _ e n=>u.keep b o e n hb (by simp)) (fun b o _ hb _ e n=>u.slot b o e n hb (by simp)) (fun b o _ e n=>u.free b o e n (by simp)) (fun b o _ e=>u.there b o e (by simp)) u.tups u.frzs u.tbls (fun m' hm=>by
  obtain ⟨o',es',ep',ho',r'⟩:=hm
  rw[ho] at ho';cases ho'
  exact ⟨_,es',ep',hL,r'⟩) hok I.bare
theorem Inv.call {g':Array GenState}{t':Nat}{d':Drawn}{ch:List Addr} (I:Inv X pins σ H s) (u:Un (frs X.stack) ch H H' s.heap h') (hok:HOk X.prog X.w H' h') (hg:AllBare g')
  (hch:∀ b∈ch,(b∈X.ex∨X.s₀.heap.objs.size≤b)∧b≠X.env.locals∧(∀ x c,X.env.cells.lookup x=some c→c≠b)∧∀ p∈X.pn++pins,p.1≠b) :
  Inv X pins σ H' { s with heap:=h',gens:=g',drawn:=d',toks:=t' }:=by
 obtain ⟨m,⟨o,es,ep,ho,r⟩,_⟩:=id I.loc
 obtain ⟨sl,hL⟩:=u.any ho I.free fun z=>(hch _ z).2.1 rfl
 exact I.step (ch:=ch) hch (fun b o hL hb hc e n=>u.keep b o e n (fun z=>(List.mem_cons.mp (I.stkSub b z)).elim hL hb) hc) (fun b o _ _ hc e n=>u.any e n hc) (fun b o hc e n=>u.free b o e n hc) (fun b o hc e=>u.there b o e hc) u.tups u.frzs u.tbls (fun m' hm=>by
  obtain ⟨o',es',ep',ho',r'⟩:=hm
  rw[ho] at ho';cases ho'
  exact ⟨_,es',ep',hL,r'⟩) hok hg
theorem Inv.turned {t':Nat}{it:Addr} (I:Inv X pins σ H s) (k:∀ b o,b≠it→s.heap.get? b=some o→h'.get? b=some o) (hn:H it=none) (hL:it≠X.env.locals)
  (h1:it∈X.ex∨X.s₀.heap.objs.size≤it) (h2:∀ x c,X.env.cells.lookup x=some c→c≠it) (h3:∀ p∈X.pn++pins,p.1≠it):Inv X pins σ H { s with heap:=h',toks:=t' }:=by
 have nit:∀ b u,H b=some u→b≠it:=fun b u e z=>by rw[z,hn] at e;cases e
 refine I.step (g':=s.gens) (d':=s.drawn) (ch:=[it]) (fun b hb=>?_) (fun b o _ _ hc e _=>k b o (fun z=>hc (by simp[z])) e) (fun b o _ _ hc e _=>⟨o.slots,k b o (fun z=>hc (by simp[z])) e⟩) (fun _ _ _ _ n=>n)
  (fun b o hc e=>⟨o,k b o (fun z=>hc (by simp[z])) e⟩) (fun _ _ e=>e) (fun _ _ _ e=>e) (fun b ps e=>⟨#[],by rw[e];simp⟩) (fun m hm=>?_) (fun b u e=>?_) I.bare
 ·have e:b=it:=by simpa using hb
  subst e
  exact ⟨h1,hL,h2,h3⟩
 ·obtain ⟨o,es,ep,ho,r⟩:=hm
  exact ⟨o,es,ep,k _ o (Ne.symm hL) ho,r⟩
 ·refine (I.hok b u e).stay (fun c v hc q=>k c v ?_ q) (fun _ q=>q) fun _ _ q=>q
  rcases hc with z|z
  ·rw[z];exact nit b u e
  ·exact nit c _ z
theorem Inv.tok (I:Inv X pins σ H s) (t:Nat):Inv X pins σ H { s with toks:=t }:=I.un (h':=s.heap) (t':=t) Un.refl I.hok
theorem Inv.kept {t':Nat} (I:Inv X pins σ H s) (k:∀ b u,s.heap.get? b=some u→h'.get? b=some u):Inv X pins σ H { s with heap:=h',toks:=t' }:=I.un (Un.kept k) (I.hok.kept k)
theorem Inv.laid {a:Addr}{o:HO}{t':Nat} (I:Inv X pins σ H s) (k:∀ b u,s.heap.get? b=some u→h'.get? b=some u) (hp:s.heap.objs.size≤a) (new:qbm X.prog X.w (upd H a o) h' a o) :
  Inv X pins σ (upd H a o) { s with heap:=h',toks:=t' }:=I.un (Un.laid k hp (I.hok.fresh hp)) (I.hok.laid k hp new)
theorem Inv.write {x e:Addr}{o:HO}{t':Nat} (I:Inv X pins σ H s) (mu:Mut (H x)) (he:e=x∨H e=some (.own x)) (k:∀ b u,b≠e→s.heap.get? b=some u→h'.get? b=some u) (heo:∃ u,h'.get? e=some u)
  (new:qbm X.prog X.w (upd H x o) h' x o):Inv X pins σ (upd H x o) { s with heap:=h',toks:=t' }:=I.un (Un.write mu he k heo) (I.hok.write mu he k heo new)
theorem Inv.weak {σ':List (Option V)} (I:Inv X pins σ H s) (hl:σ'.length=σ.length) (w:∀ (i:Nat) v,σ'[i]?=some (some v)→σ[i]?=some (some v)):Inv X pins σ' H s:=
 ⟨I.ok,I.os,I.bare,I.base,let ⟨m,hn,hl'⟩:=I.loc;⟨m,hn,fun i x v e1 e2 e3=>hl' i x v e1 (w i v e2) e3⟩,I.cell,I.free,I.freeC,I.pin,I.hok,hl.trans I.len⟩
theorem Inv.pins_of {pins':List (Addr×Obj)} (I:Inv X pins σ H s) (h:∀ p∈pins',s.heap.get? p.1=some p.2∧H p.1=none∧p.1≠X.env.locals∧p.1∉X.fs∧∀ v,p.2.data≠.cell v):Inv X pins' σ H s:=
 ⟨I.ok,I.os,I.bare,I.base,I.loc,I.cell,I.free,I.freeC,fun p hp=>(List.mem_append.mp hp).elim (fun z=>I.pin p (List.mem_append_left _ z)) (h p),I.hok,I.len⟩
theorem yjt {N:List Str} (hN:N.Nodup) {i j:Nat}{x:Str} (a:N[i]?=some x) (b:N[j]?=some x):i=j:=by
 obtain ⟨h1,e1⟩:=List.getElem?_eq_some_iff.mp a
 obtain ⟨h2,e2⟩:=List.getElem?_eq_some_iff.mp b
 exact (List.getElem_inj hN).mp (e1.trans e2.symm)
theorem qh9 {M:Model}{A:Around}{E:Value→Shared→Prop}{i:Nat}{x:Str}{v:V}{u:Value}{Q:Unit→Shared→Prop} (I:Inv X pins σ H s) (hN:X.N.Nodup) (hi:X.N[i]?=some x) (hx:Loc X.env.scope x) (r:RelV v u)
  (h:∀ s',Inv X pins (σ.set i (some v)) H s'→(∃ a,Heap.SameBut a s.heap s'.heap∧(a=X.env.locals∨X.env.cells.lookup x=some a))→Q () s') (hf:X.fn x=true∨X.env.scope.names.lookup x=some .local:=by first|exact .inl rfl|exact .inr rfl|assumption):wpAny M A (storeName X.env x u) Q E s:=by
 obtain ⟨m,hn,hl⟩:=id I.loc
 have hcls:(X.env.scope.kind == .class||(X.env.scope.kind == .module&&X.env.locals != X.env.globals))=false:=by rw[I.ok.kind];rfl
 have hiσ:i<σ.length:=by rw[I.len];exact (List.getElem?_eq_some_iff.mp hi).1
 have cne:=I.cne
 have tracked:∀ {a:Addr}{h':Heap},(∃ o,s.heap.get? a=some o∧H a=none)→Heap.SameBut a s.heap h'→HOk X.prog X.w H h':=fun {a h'} ha hs b ob e=>by
  obtain ⟨_,_,hfree⟩:=ha
  refine (I.hok b ob e).stay (fun c w' hc q=>(hs.2 c ?_).trans q) (fun _ q=>q) fun _ _ q=>q
  rintro rfl
  rcases hc with rfl|hc
  ·rw[hfree] at e;cases e
  ·rw[hfree] at hc;cases hc
 rcases hx with hk|hk
 ·refine wpAny_storeName_local hk hn (fun h' hn' hs=>?_) hcls
  obtain ⟨oL,_,_,hoL,_⟩:=id hn
  refine h _ ⟨I.ok,I.os,I.bare,⟨fun b o e n hb hx=>?_,fun b o e n hb hx=>?_,I.base.free,fun b o e hx=>?_,I.base.tups,I.base.frzs,I.base.tbls⟩,⟨_,hn',fun j y v' e1 e2 e3=>?_⟩,fun y c e=>?_,I.free,I.freeC,fun p hp=>?_,tracked ⟨oL,hoL,I.free⟩ hs,by simpa using I.len⟩ ⟨_,hs,.inl rfl⟩
  ·exact (hs.2 b (Nat.ne_of_lt (Nat.lt_of_lt_of_le (Heap.lt_size e) I.ok.above))).trans (I.base.keep b o e n hb hx)
  ·obtain ⟨sl,e1⟩:=I.base.slot b o e n hb hx
   exact ⟨sl,(hs.2 b (Nat.ne_of_lt (Nat.lt_of_lt_of_le (Heap.lt_size e) I.ok.above))).trans e1⟩
  ·obtain ⟨o',e1⟩:=I.base.there b o e hx
   exact ⟨o',(hs.2 b (Nat.ne_of_lt (Nat.lt_of_lt_of_le (Heap.lt_size e) I.ok.above))).trans e1⟩
  ·by_cases hj:j=i
   ·subst hj
    rw[hi] at e1;cases e1
    rw[List.getElem?_set_self hiσ] at e2
    cases e2
    exact ⟨u,r,.inl ⟨hk,by simp⟩⟩
   ·rw[List.getElem?_set_ne (Ne.symm hj)] at e2
    obtain ⟨u',r',q⟩:=hl j y v' e1 e2 e3
    refine ⟨u',r',?_⟩
    rcases q with ⟨k,e⟩|⟨k,c,e,z⟩
    ·refine .inl ⟨k,?_⟩
     have:y≠x:=fun e=>hj (yjt hN e1 (e ▸ hi))
     simp[this,e]
    ·exact .inr ⟨k,c,e,z.sameBut hs (cne y c e)⟩
  ·obtain ⟨w',z⟩:=I.cell y c e
   exact ⟨w',z.sameBut hs (cne y c e)⟩
  ·obtain ⟨e,n,ne,nf,d⟩:=I.pin p hp
   exact ⟨(hs.2 p.1 ne).trans e,n,ne,nf,d⟩
 ·have hfn:X.fn x=true:=by
   rcases hf with z|z
   ·exact z
   ·rw[z] at hk;cases hk
  obtain ⟨c,hc⟩:=I.ok.has x (.inl hk)
  obtain ⟨w',z⟩:=I.cell x c hc
  refine wpAny_storeName_cell I.ok.kind hk hc z (fun h' hc' hs=>?_)
  obtain ⟨oc,hoc,hocd⟩:=id z
  refine h { s with heap:=h' } ⟨I.ok,I.os,I.bare,⟨fun b o e n hb hx=>?_,fun b o e n hb hx=>?_,I.base.free,fun b o e hx=>?_,I.base.tups,I.base.frzs,I.base.tbls⟩,⟨m,hn.sameBut hs (Ne.symm (cne x c hc)),fun j y v' e1 e2 e3=>?_⟩,fun y c' e=>?_,I.free,I.freeC,fun p hp=>?_,tracked ⟨oc,hoc,I.freeC x c hc⟩ hs,by simpa using I.len⟩ ⟨c,hs,.inr hc⟩
  ·exact (hs.2 b (Nat.ne_of_lt (Nat.lt_of_lt_of_le (Heap.lt_size e) (I.ok.cab x c hfn hc)))).trans (I.base.keep b o e n hb hx)
  ·obtain ⟨sl,e1⟩:=I.base.slot b o e n hb hx
   exact ⟨sl,(hs.2 b (Nat.ne_of_lt (Nat.lt_of_lt_of_le (Heap.lt_size e) (I.ok.cab x c hfn hc)))).trans e1⟩
  ·obtain ⟨o',e1⟩:=I.base.there b o e hx
   exact ⟨o',(hs.2 b (Nat.ne_of_lt (Nat.lt_of_lt_of_le (Heap.lt_size e) (I.ok.cab x c hfn hc)))).trans e1⟩
  ·by_cases hj:j=i
   ·subst hj
    rw[hi] at e1;cases e1
    rw[List.getElem?_set_self hiσ] at e2
    cases e2
    exact ⟨u,r,.inr ⟨.inl hk,c,hc,hc'⟩⟩
   ·rw[List.getElem?_set_ne (Ne.symm hj)] at e2
    obtain ⟨u',r',q⟩:=hl j y v' e1 e2 e3
    refine ⟨u',r',?_⟩
    rcases q with q|⟨k,c',e,z'⟩
    ·exact .inl q
    ·refine .inr ⟨k,c',e,z'.sameBut hs ?_⟩
     rintro rfl
     exact hj (yjt hN e1 (I.ok.inj _ _ _ e hc ▸ hi))
  ·by_cases hcc:c'=c
   ·subst hcc;exact ⟨_,hc'⟩
   ·obtain ⟨w2,z2⟩:=I.cell y c' e
    exact ⟨w2,z2.sameBut hs hcc⟩
  ·obtain ⟨e,n,ne,nf,d⟩:=I.pin p hp
   refine ⟨(hs.2 p.1 ?_).trans e,n,ne,nf,d⟩
   intro q
   rw[q,hoc] at e
   have q':oc=p.2:=Option.some.inj e
   exact d w' (by rw[← q'];exact hocd)
theorem yjl {M:Model}{A:Around}{E:Value→Shared→Prop}{i:Nat}{x:Str}{v:V}{u:Value}{Q:Unit→Shared→Prop} (I:Inv X pins σ H s) (hN:X.N.Nodup) (hi:X.N[i]?=some x) (hx:Loc X.env.scope x) (r:RelV v u)
  (h:∀ s',Inv X pins (σ.set i (some v)) H s'→Q () s') (hf:X.fn x=true∨X.env.scope.names.lookup x=some .local:=by first|exact .inl rfl|exact .inr rfl|assumption):wpAny M A (storeName X.env x u) Q E s:=
 qh9 I hN hi hx r (fun s' I' _=>h s' I') hf
theorem Inv.call' {s':Shared}{ch:List Addr} (I:Inv X pins σ H s) (ho:s'.os=s.os) (u:Un (frs X.stack) ch H H' s.heap s'.heap) (hok:HOk X.prog X.w H' s'.heap) (hg:AllBare s'.gens)
  (hch:∀ b∈ch,(b∈X.ex∨X.s₀.heap.objs.size≤b)∧b≠X.env.locals∧(∀ x c,X.env.cells.lookup x=some c→c≠b)∧∀ p∈X.pn++pins,p.1≠b):Inv X pins σ H' s':=by
 obtain ⟨h',g',d',t',o'⟩:=s'
 have e:o'=s.os:=ho
 subst e
 exact I.call (g':=g') (t':=t') (d':=d') u hok hg hch
end
abbrev XK:=Value→Option Addr→Hp→Prop
abbrev St:=List (Option V)
abbrev VK:=V→Hp→Prop
abbrev TE:=St→Hp→VK→Prop
abbrev TT:=St→Hp→(Bool→Hp→Prop)→Prop
abbrev TA:=St→Hp→(List V→Hp→Prop)→Prop
structure Ends where
 nx:St→Hp→Prop
 rt:VK
 bk:St→Hp→Prop:=fun _ _=>False
 ct:St→Hp→Prop:=fun _ _=>False
abbrev TS:=Ends→St→Hp→Prop
def EP (X:Cx) (pins:List (Addr×Obj)) (σ:St) (Q:VK) (u:Value) (s':Shared):Prop:=∃ v H',Inv X pins σ H' s'∧RelV v u∧Q v H'
def TP (X:Cx) (pins:List (Addr×Obj)) (σ:St) (Q:Bool→Hp→Prop) (b:Bool) (s':Shared):Prop:=∃ H',Inv X pins σ H' s'∧Q b H'
def AP (X:Cx) (pins:List (Addr×Obj)) (σ:St) (Q:List V→Hp→Prop) (us:List Value) (s':Shared):Prop:=∃ vs H',Inv X pins σ H' s'∧Vals vs us∧Q vs H'
def SP (X:Cx) (pins:List (Addr×Obj)) (D:Ends) (f:Flow) (s':Shared):Prop:=
 match f with
 | .next=>∃ σ' H',Inv X pins σ' H' s'∧D.nx σ' H'
 | .brk=>∃ σ' H',Inv X pins σ' H' s'∧D.bk σ' H'
 | .cont=>∃ σ' H',Inv X pins σ' H' s'∧D.ct σ' H'
 | .ret u=>∃ v σ' H',Inv X pins σ' H' s'∧RelV v u∧D.rt v H'
def PE (X:Cx) (e:Expr) (t:TE):Prop:=
 ∀ (pins:List (Addr×Obj)) (s:Shared) (σ:St) (H:Hp) (Q:VK),Inv X pins σ H s→t σ H Q→wpAny (model X.prog X.w) X.A (eval e X.env) (EP X pins σ Q) X.xe s
def PT (X:Cx) (e:Expr) (t:TT):Prop:=
 ∀ (pins:List (Addr×Obj)) (s:Shared) (σ:St) (H:Hp) (Q:Bool→Hp→Prop),Inv X pins σ H s→t σ H Q→wpAny (model X.prog X.w) X.A (isTrue e X.env (eval e X.env)) (TP X pins σ Q) X.xe s
def PW (X:Cx) (e:Expr) (t:TT):Prop:=
 ∀ (whole:Sem Value) (pins:List (Addr×Obj)) (s:Shared) (σ:St) (H:Hp) (Q:Bool→Hp→Prop),Inv X pins σ H s→t σ H Q→wpAny (model X.prog X.w) X.A (isTrue e X.env whole) (TP X pins σ Q) X.xe s
theorem PW.pt {X:Cx}{e:Expr}{t:TT} (h:PW X e t):PT X e t:=h _
def PA (X:Cx) (es:List Expr) (t:TA):Prop:=
 ∀ (pos:Pos) (pins:List (Addr×Obj)) (s:Shared) (σ:St) (H:Hp) (Q:List V→Hp→Prop),Inv X pins σ H s→t σ H Q→wpAny (model X.prog X.w) X.A (spliced (backTo pos (starEach es X.env))) (AP X pins σ Q) X.xe s
def PS (X:Cx) (st:Stmt) (t:TS):Prop:=
 ∀ (pins:List (Addr×Obj)) (s:Shared) (σ:St) (H:Hp) (D:Ends),Inv X pins σ H s→t D σ H→wpAny (model X.prog X.w) X.A (exec st X.env) (SP X pins D) X.xe s
def PSs (X:Cx) (st:List Stmt) (t:TS):Prop:=
 ∀ (pins:List (Addr×Obj)) (s:Shared) (σ:St) (H:Hp) (D:Ends),Inv X pins σ H s→t D σ H→wpAny (model X.prog X.w) X.A (execs st X.env) (SP X pins D) X.xe s
theorem thn {α:Type}{t:Sem α}{Q Q':α→Shared→Prop}{M:Model}{A:Around}{E:Value→Shared→Prop}{s:Shared} (h:wpAny M A t Q E s) (hQ:∀ a s,Q a s→Q' a s):wpAny M A t Q' E s:=wpAny_mono h hQ fun _ _ x=>x
section
variable {X:Cx}
def tVar (i:Nat):TE:=fun σ H Q=>∃ v,σ[i]?=some (some v)∧Q v H
def tC (v:V):TE:=fun _ H Q=>Q v H
theorem pe_var {i:Nat}{x:Str}{pos:Pos} (hN:X.N[i]?=some x) (hv:Vis X.env.scope x) (hd:(x == ("__debug__" : Str))=false:=by decide) (hcd:(x == ("__classdict__" : Str))=false:=by decide):PE X (.Name x pos) (tVar i):=by
 intro pins s σ H Q I h
 obtain ⟨v,e,h⟩:=h
 obtain ⟨m,hn,hl⟩:=I.loc
 obtain ⟨u,r,l⟩:=hl i x v hN e hv
 have fin:EP X pins σ Q u s:=⟨v,H,I,r,h⟩
 rcases l with ⟨hk,hm⟩|⟨hk,c,hc,hcell⟩
 ·exact wpAny_Name (wpAny_loadName_local I.ok.kind hk hn hm fin) hd
 ·rcases hk with hk|hk
  ·exact wpAny_Name (wpAny_loadName_cell I.ok.kind hk hc hcell fin) hd
  ·exact wpAny_Name (wpAny_loadName_free I.ok.kind hk hc hcell fin hcd) hd
theorem qab {i j pos}:PE X (.Constant (.int i) j pos) (tC (.int i)):=fun _ _ _ H _ I h=>wpAny_Constant_int ⟨.int i,H,I.tok _,⟨_,rfl⟩,h⟩
theorem ygm {b j pos}:PE X (.Constant (.bool b) j pos) (tC (.bl b)):=fun _ _ _ H _ I h=>Constant_bool ⟨.bl b,H,I,rfl,h⟩
theorem qe6 {j pos}:PE X (.Constant .none j pos) (tC .non):=fun _ _ _ H _ I h=>Constant_none ⟨.non,H,I,rfl,h⟩
theorem qam {x j pos}:PE X (.Constant (.str x) j pos) (tC (.str x)):=fun _ _ _ H _ I h=>Calls.Constant_str ⟨.str x,H,I.tok _,⟨_,rfl⟩,h⟩
def Gl (X:Cx) (x:Str):Prop:=X.env.kindOf x=some .globalImplicit
theorem yi1 {E:Value→Shared→Prop}{pins:List (Addr×Obj)}{s:Shared}{σ:St}{H:Hp}{x:Str}{u:Value}{pos:Pos}{Q:Value→Shared→Prop} (I:Inv X pins σ H s) (hg:Gl X x) (hm:X.mg x=some u) (h:Q u s)
  (hd:(x == ("__debug__" : Str))=false:=by decide):wpAny (model X.prog X.w) X.A (eval (.Name x pos) X.env) Q E s:=
 Calls.Name_function_global I.ok.kind hg (Calls.loadGlobal_global (by rw[I.ok.glob];exact I.mod.glob.keeps I.bk) hm h) hd
theorem qdk {E:Value→Shared→Prop}{pins:List (Addr×Obj)}{s:Shared}{σ:St}{H:Hp}{x:Str}{u:Value}{pos:Pos}{Q:Value→Shared→Prop} (I:Inv X pins σ H s) (hg:Gl X x) (hm:X.mg x=none) (hv:bootBuiltins x=some u) (h:Q u s)
  (hn:x≠"__name__":=by decide) (hd:(x == ("__debug__" : Str))=false:=by decide):wpAny (model X.prog X.w) X.A (eval (.Name x pos) X.env) Q E s:=by
 obtain ⟨mb,h1,h2⟩:=I.mod.blt
 exact Calls.Name_function_global I.ok.kind hg (Calls.loadGlobal_builtin (by rw[I.ok.glob];exact I.mod.glob.keeps I.bk) hm (by rw[I.ok.blt];exact h1.keeps I.bk) ((h2 x hn).trans hv) h) hd
theorem qet {x:Str}{v:V}{u:Value}{pos:Pos} (hg:Gl X x) (hm:X.mg x=some u) (r:RelV v u) (hd:(x == ("__debug__" : Str))=false:=by decide):PE X (.Name x pos) (tC v):=
 fun _ _ _ H _ I h=>yi1 I hg hm ⟨v,H,I,r,h⟩ hd
theorem ycl {x:Str}{v:V}{u:Value}{pos:Pos} (hg:Gl X x) (hm:X.mg x=none) (hv:bootBuiltins x=some u) (r:RelV v u) (hn:x≠"__name__":=by decide) (hd:(x == ("__debug__" : Str))=false:=by decide):PE X (.Name x pos) (tC v):=
 fun _ _ _ H _ I h=>qdk I hg hm hv ⟨v,H,I,r,h⟩ hn hd
variable {a b:Expr}{ta tb:TE}{pos:Pos}
def PC (X:Cx) (op:CmpOp) (a b:Expr) (t:TE):Prop:=
 ∀ (pins:List (Addr×Obj)) (s:Shared) (σ:St) (H:Hp) (Q:VK),Inv X pins σ H s→t σ H Q→
  wpAny (model X.prog X.w) X.A (eval a X.env) (fun v s₁=>wpAny (model X.prog X.w) X.A (eval b X.env) (fun u s₂=>wpAny (model X.prog X.w) X.A (compareOp op v u) (EP X pins σ Q) X.xe s₂) X.xe s₁) X.xe s
theorem qjs (b:Expr) {op:CmpOp} (h:op≠.In) (h2:op≠.NotIn):behindInMarks op b=false:=by
 have e1:(op == CmpOp.In)=false:=by cases op<;>first|rfl|exact absurd rfl h
 have e2:(op == CmpOp.NotIn)=false:=by cases op<;>first|rfl|exact absurd rfl h2
 cases b<;>simp[behindInMarks,e1,e2]
def tIsN (ta:TE):TE:=fun σ H Q=>ta σ H fun x H1=>Q (.bl (decide (x=.non))) H1
def tNotN (ta:TE):TE:=fun σ H Q=>ta σ H fun x H1=>Q (.bl (!decide (x=.non))) H1
theorem RelV.none_iff {x:V}{v:Value} (r:RelV x v):(v == Value.none)=decide (x=.non):=by
 cases x with
 | non=>cases r;rfl
 | bl _=>cases r;rfl
 | int _=>obtain ⟨t,rfl⟩:=r;rfl
 | str _=>obtain ⟨t,rfl⟩:=r;rfl
 | byt _=>obtain ⟨t,rfl⟩:=r;rfl
 | flt _=>obtain ⟨t,rfl⟩:=r;rfl
 | ref _=>cases r;rfl
 | ty _=>cases r;rfl
theorem qgv {j pos'} (ha:PE X a ta):PC X .Is a (.Constant .none j pos') (tIsN ta):=by
 intro pins s σ H Q I h
 refine thn (ha pins s σ H _ I h) fun v s1 ⟨x,H1,I1,r1,q1⟩=>?_
 exact Constant_none (is_none_gen ⟨.bl _,H1,I1,by rw[r1.none_iff];rfl,q1⟩)
theorem qja {j pos'} (ha:PE X a ta):PC X .IsNot a (.Constant .none j pos') (tNotN ta):=by
 intro pins s σ H Q I h
 refine thn (ha pins s σ H _ I h) fun v s1 ⟨x,H1,I1,r1,q1⟩=>?_
 exact Constant_none (isnot_none_gen ⟨.bl _,H1,I1,by rw[r1.none_iff];rfl,q1⟩)
def tB (t:TE):TT:=fun σ H Q=>t σ H fun x H1=>∃ c,x=.bl c∧Q c H1
theorem pe_cmp {op:CmpOp}{t:TE} (h:PC X op a b t) (h1:behindInMarks op b=false:=by first|exact qjs _ (by decide) (by decide)|rfl):PE X (.Compare a [op] [b] pos) t:=fun pins s σ H Q I hw=>wpAny_Compare1 (h pins s σ H Q I hw) h1
theorem qf0 {op:CmpOp}{t:TE} (h:PC X op a b t) (h1:behindInMarks op b=false:=by first|exact qjs _ (by decide) (by decide)|rfl):PT X (.Compare a [op] [b] pos) (tB t):=by
 intro pins s σ H Q I hw
 refine wpAny_isTrue_Compare1 (thn (h pins s σ H _ I hw) fun v s1 h1=>thn h1 fun u s2 h2=>thn h2 fun c s3 ⟨x,H1,I1,r1,q1⟩=>?_) h1
 obtain ⟨d,rfl,q⟩:=q1
 cases r1
 exact wpAny_truthy_bool ⟨H1,I1,q⟩
theorem ycj {e:Expr}{t:TE} (h:PE X e t) (he:∀ whole,isTrue e X.env whole=(do let v ← whole;standAt e.pos;holding [v] (truthy v)):=by intro _;rfl):PT X e (tB t):=by
 intro pins s σ H Q I hw
 refine isTrue_plain (thn (h pins s σ H _ I hw) fun v s1 ⟨x,H1,I1,r1,q1⟩=>?_) (he _)
 obtain ⟨d,rfl,q⟩:=q1
 cases r1
 exact wpAny_truthy_bool ⟨H1,I1,q⟩
variable {tA tB':TT}{rest:List Expr}
def tAnd (t u:TT):TT:=fun σ H Q=>t σ H fun c H1=>if c=true then u σ H1 Q else Q false H1
def tOr (t u:TT):TT:=fun σ H Q=>t σ H fun c H1=>if c=true then Q true H1 else u σ H1 Q
def tNot (t:TT):TT:=fun σ H Q=>t σ H fun c H1=>Q (!c) H1
theorem qbg (ha:PT X a tA):PW X (.BoolOp .And [a] pos) tA:=by
 intro wh pins s σ H Q I h
 refine isTrue_and (thn (ha pins s σ H Q I h) fun c s1 e=>?_)
 cases c with
 | true=>exact isTrue_and_nil e
 | false=>exact e
theorem qjo (ha:PT X a tA):PW X (.BoolOp .Or [a] pos) tA:=by
 intro wh pins s σ H Q I h
 refine isTrue_or (thn (ha pins s σ H Q I h) fun c s1 e=>?_)
 cases c with
 | false=>exact isTrue_or_nil e
 | true=>exact e
theorem qbi (ha:PT X a tA) (hb:PW X (.BoolOp .And (b::rest) pos) tB'):PW X (.BoolOp .And (a::b::rest) pos) (tAnd tA tB'):=by
 intro wh pins s σ H Q I h
 refine isTrue_and (thn (ha pins s σ H _ I h) fun c s1 ⟨H1,I1,q1⟩=>?_)
 cases c with
 | true=>exact hb wh pins s1 σ H1 Q I1 q1
 | false=>exact ⟨H1,I1,q1⟩
theorem pw_or (ha:PT X a tA) (hb:PW X (.BoolOp .Or (b::rest) pos) tB'):PW X (.BoolOp .Or (a::b::rest) pos) (tOr tA tB'):=by
 intro wh pins s σ H Q I h
 refine isTrue_or (thn (ha pins s σ H _ I h) fun c s1 ⟨H1,I1,q1⟩=>?_)
 cases c with
 | true=>exact ⟨H1,I1,q1⟩
 | false=>exact hb wh pins s1 σ H1 Q I1 q1
theorem yc8 (ha:PT X a tA):PT X (.UnaryOp .Not a pos) (tNot tA):=by
 intro pins s σ H Q I h
 exact isTrue_not (ha pins s σ H (fun c H1=>Q (!c) H1) I h)
def tAndV (ta tb:TE):TE:=fun σ H Q=>ta σ H fun x H1=>∃ c,x=.bl c∧if c=true then tb σ H1 Q else Q (.bl false) H1
def tNotV (ta:TE):TE:=fun σ H Q=>ta σ H fun x H1=>∃ c,x=.bl c∧Q (.bl (!c)) H1
theorem qb4 {op}{t:TE} (h:PE X a t):PE X (.BoolOp op [a] pos) t:=fun pins s σ H Q I hw=>BoolOp_one (h pins s σ H Q I hw)
theorem qa9 (ha:PE X a ta) (hb:PE X (.BoolOp .And (b::rest) pos) tb):PE X (.BoolOp .And (a::b::rest) pos) (tAndV ta tb):=by
 intro pins s σ H Q I h
 refine BoolOp_and (thn (ha pins s σ H _ I h) fun v s1 ⟨x,H1,I1,r1,q1⟩=>?_)
 obtain ⟨c,rfl,q1⟩:=q1
 cases r1
 refine wpAny_truthy_bool ?_
 cases c with
 | true=>exact hb pins s1 σ H1 Q I1 q1
 | false=>exact ⟨.bl false,H1,I1,rfl,q1⟩
theorem pe_not (ha:PE X a ta):PE X (.UnaryOp .Not a pos) (tNotV ta):=by
 intro pins s σ H Q I h
 refine UnaryOp_ (thn (ha pins s σ H _ I h) fun v s1 ⟨x,H1,I1,r1,q1⟩=>?_)
 obtain ⟨c,rfl,q1⟩:=q1
 cases r1
 exact not_of (wpAny_truthy_bool ⟨.bl (!c),H1,I1,rfl,q1⟩)
def tIf (t:TT) (ta tb:TE):TE:=fun σ H Q=>t σ H fun c H1=>if c=true then ta σ H1 Q else tb σ H1 Q
theorem yc5 {c:Expr} (hc:PT X c tA) (ha:PE X a ta) (hb:PE X b tb):PE X (.IfExp c a b pos) (tIf tA ta tb):=by
 intro pins s σ H Q I h
 refine wpAny_IfExp (thn (hc pins s σ H _ I h) fun d s1 ⟨H1,I1,q1⟩=>?_)
 cases d with
 | true=>exact ha pins s1 σ H1 Q I1 q1
 | false=>exact hb pins s1 σ H1 Q I1 q1
end
def SqL (K:PySem.W.Frag) (H:Hp) (a:Addr) (xs:List V):Prop:=
 Rd H a (.lst xs)∨
  ∃ (o:Obj) (its:Array Value) (n:Nat),K.lookup a=some o∧o.cls=.type "list"∧o.dict=none∧o.data=.seq its n∧its.size≤sizeLine∧Vals xs its.toList
def SqT (K:PySem.W.Frag) (H:Hp) (a:Addr) (xs:List V):Prop:=
 Rd H a (.tup xs)∨
  ∃ (o:Obj) (its:Array Value) (n:Nat),K.lookup a=some o∧o.cls=.type "tuple"∧o.data=.seq its n∧its.size≤sizeLine∧Vals xs its.toList
def absV:Value→Option V
 | .none=>some .non
 | .bool b=>some (.bl b)
 | .int i _=>some (.int i)
 | .str x _=>some (.str x)
 | .bytes b _=>some (.byt b)
 | .float b _=>some (.flt b)
 | .ref a=>some (.ref a)
 | .type n=>some (.ty n)
 | _=>none
theorem RelV.abs {x:V}{u:Value} (r:RelV x u):absV u=some x:=by
 cases x with
 | non=>cases r;rfl
 | bl _=>cases r;rfl
 | int _=>obtain ⟨t,rfl⟩:=r;rfl
 | str _=>obtain ⟨t,rfl⟩:=r;rfl
 | byt _=>obtain ⟨t,rfl⟩:=r;rfl
 | flt _=>obtain ⟨t,rfl⟩:=r;rfl
 | ref _=>cases r;rfl
 | ty _=>cases r;rfl
theorem RelV.inj {x y:V}{u:Value} (r:RelV x u) (q:RelV y u):x=y:=Option.some.inj (r.abs.symm.trans q.abs)
theorem Vals.inj:∀ {xs ys:List V}{us:List Value},Vals xs us→Vals ys us→xs=ys
 | _,_,_,.nil,.nil=>rfl
 | _,_,_,.cons r t,.cons r' t'=>by rw[r.inj r',Vals.inj t t']
section
variable {X:Cx}{pins:List (Addr×Obj)}{σ:St}{H:Hp}{s:Shared}{a:Addr}{xs ys:List V}
theorem SqL.of {K:PySem.W.Frag} (h:H a=some (.lst xs)):SqL K H a xs:=.inl (.inl h)
theorem SqT.of {K:PySem.W.Frag} (h:H a=some (.tup xs)):SqT K H a xs:=.inl (.inl h)
theorem Inv.list (I:Inv X pins σ H s) (h:SqL X.K H a xs):∃ its:List Value,Vals xs its∧PlainL s.heap a its.toArray∧xs.length≤sizeLine:=by
 rcases h with h|⟨o,its,n,hk,hc,hd,hs,hz,r⟩
 ·obtain ⟨z,its,n,r,e⟩:=h.ok I.hok
  exact ⟨its,r,⟨_,n,e,rfl,rfl,rfl⟩,z⟩
 ·refine ⟨its.toList,r,⟨o,n,I.kIn a o hk,hc,hd,by simpa using hs⟩,?_⟩
  have e:=r.length
  simp only[Array.length_toList] at e
  omega
theorem Inv.tuple (I:Inv X pins σ H s) (h:SqT X.K H a xs):∃ its:List Value,Vals xs its∧IsTup s.heap a its.toArray∧xs.length≤sizeLine:=by
 rcases h with h|⟨o,its,n,hk,hc,hs,hz,r⟩
 ·obtain ⟨z,its,r,p⟩:=h.ok I.hok
  exact ⟨its,r,p,z⟩
 ·refine ⟨its.toList,r,⟨o,I.kIn a o hk,hc,n,by simpa using hs⟩,?_⟩
  have e:=r.length
  simp only[Array.length_toList] at e
  omega
theorem Inv.list_inj (I:Inv X pins σ H s) (h:SqL X.K H a xs) (h':SqL X.K H a ys):xs=ys:=by
 obtain ⟨its,r,⟨o,n,e,_,_,d⟩,_⟩:=I.list h
 obtain ⟨its',r',⟨o',n',e',_,_,d'⟩,_⟩:=I.list h'
 rw[e] at e';cases e'
 rw[d] at d'
 injection d' with d1 _
 have:its=its':=by simpa using congrArg Array.toList d1
 subst this
 exact r.inj r'
theorem Inv.tuple_inj (I:Inv X pins σ H s) (h:SqT X.K H a xs) (h':SqT X.K H a ys):xs=ys:=by
 obtain ⟨its,r,⟨o,e,_,n,d⟩,_⟩:=I.tuple h
 obtain ⟨its',r',⟨o',e',_,n',d'⟩,_⟩:=I.tuple h'
 rw[e] at e';cases e'
 rw[d] at d'
 injection d' with d1 _
 have:its=its':=by simpa using congrArg Array.toList d1
 subst this
 exact r.inj r'
end
abbrev Cx.wish (X:Cx) (E:Value→Shared→Prop):Cx:={ X with xe:=E }
abbrev Cx.nox (X:Cx):Cx:=X.wish fun _ _=>False
theorem Cx.Ok.wish {X:Cx} (ok:X.Ok) (E:Value→Shared→Prop):(X.wish E).Ok:=
 ⟨ok.mod,ok.kind,ok.glob,ok.blt,ok.above,ok.inj,ok.has,ok.cab,ok.hd,ok.frames,ok.stk,ok.exf,ok.bs,ok.bsz,ok.noex,ok.exfs,ok.funs,ok.frf⟩
theorem Cx.Ok.unwish {X:Cx}{E:Value→Shared→Prop} (ok:(X.wish E).Ok):X.Ok:=
 ⟨ok.mod,ok.kind,ok.glob,ok.blt,ok.above,ok.inj,ok.has,ok.cab,ok.hd,ok.frames,ok.stk,ok.exf,ok.bs,ok.bsz,ok.noex,ok.exfs,ok.funs,ok.frf⟩
section
variable {X:Cx}{pins:List (Addr×Obj)}{σ:St}{H:Hp}{s:Shared}{E:Value→Shared→Prop}
theorem Inv.wish (I:Inv X pins σ H s) (E:Value→Shared→Prop):Inv (X.wish E) pins σ H s:=⟨I.ok.wish E,I.os,I.bare,I.base,I.loc,I.cell,I.free,I.freeC,I.pin,I.hok,I.len⟩
theorem Inv.unwish (I:Inv (X.wish E) pins σ H s):Inv X pins σ H s:=⟨I.ok.unwish,I.os,I.bare,I.base,I.loc,I.cell,I.free,I.freeC,I.pin,I.hok,I.len⟩
theorem SP.unwish {D:Ends}{f:Flow}{s':Shared} (h:SP (X.wish E) pins D f s'):SP X pins D f s':=by
 cases f with
 | next=>obtain ⟨σ',H',I,q⟩:=h;exact ⟨σ',H',I.unwish,q⟩
 | brk=>obtain ⟨σ',H',I,q⟩:=h;exact ⟨σ',H',I.unwish,q⟩
 | cont=>obtain ⟨σ',H',I,q⟩:=h;exact ⟨σ',H',I.unwish,q⟩
 | ret u=>obtain ⟨v,σ',H',I,r,q⟩:=h;exact ⟨v,σ',H',I.unwish,r,q⟩
theorem PSs.nox {st:List Stmt}{t:TS} (h:PSs X.nox st t):PSs X st t:=fun pins s σ H D I hw=>
 wpAny_mono (h pins s σ H D (I.wish _) hw) (fun _ _ q=>q.unwish) fun _ _ z=>False.elim z
end
section
variable {X:Cx}{st:Stmt}{rest:List Stmt}{t u:TS}{e:Expr}{te:TE}{pos:Pos}
def tNext:TS:=fun D σ H=>D.nx σ H
def tSeq (t u:TS):TS:=fun D σ H=>t { D with nx:=u D } σ H
theorem qap:PSs X [] tNext:=fun _ _ σ H _ I h=>wpAny_execs_nil ⟨σ,H,I,h⟩
theorem qae (h1:PS X st t) (h2:PSs X rest u):PSs X (st::rest) (tSeq t u):=by
 intro pins s σ H D I h
 refine wpAny_execs_cons (thn (h1 pins s σ H { D with nx:=u D } I h) fun f s1 q=>?_)
 cases f with
 | next=>
  obtain ⟨σ',H',I',q⟩:=q
  exact h2 pins s1 σ' H' D I' q
 | ret v=>exact q
 | brk=>exact q
 | cont=>exact q
theorem yad (h1:PS X st t):PSs X [st] t:=by
 intro pins s σ H D I h
 refine wpAny_execs_cons (thn (h1 pins s σ H D I h) fun f s1 q=>?_)
 cases f with
 | next=>exact wpAny_execs_nil q
 | ret v=>exact q
 | brk=>exact q
 | cont=>exact q
theorem Inv.quiet {pins:List (Addr×Obj)}{σ:St}{H:Hp}{s:Shared} (I:Inv X pins σ H s):interactive X.env=false:=by simp[interactive,I.ok.kind]
def tDrop (te:TE):TS:=fun D σ H=>te σ H fun _ H1=>D.nx σ H1
theorem qav (he:PE X e te) (hs:swapsWith e none pos.line X.env=pure false:=by rfl):PS X (.Expr e pos) (tDrop te):=by
 intro pins s σ H D I h
 exact wpAny_Expr_any (thn (he pins s σ H _ I h) fun v s1 ⟨x,H1,I1,r1,q1⟩=>⟨σ,H1,I1,q1⟩) I.quiet hs
def tRet (te:TE):TS:=fun D σ H=>te σ H D.rt
theorem yao (he:PE X e te):PS X (.Return (some e) pos) (tRet te):=by
 intro pins s σ H D I h
 exact wpAny_Return_some (thn (he pins s σ H _ I h) fun v s1 ⟨x,H1,I1,r1,q1⟩=>⟨x,σ,H1,I1,r1,q1⟩)
def tRetN:TS:=fun D _ H=>D.rt .non H
theorem ps_retN:PS X (.Return none pos) tRetN:=fun _ _ σ H _ I h=>wpAny_Return_none ⟨.non,σ,H,I,rfl,h⟩
def tIfS (c:TT) (t u:TS):TS:=fun D σ H=>c σ H fun b H1=>if b=true then t D σ H1 else u D σ H1
theorem ya6 {c:Expr}{a b:List Stmt}{tc:TT} (hc:PT X c tc) (ha:PSs X a t) (hb:PSs X b u):PS X (.If c a b pos) (tIfS tc t u):=by
 intro pins s σ H D I h
 refine wpAny_If (thn (hc pins s σ H _ I h) fun d s1 ⟨H1,I1,q1⟩=>?_)
 cases d with
 | true=>exact ha pins s1 σ H1 D I1 q1
 | false=>exact hb pins s1 σ H1 D I1 q1
def tNever:TS:=fun _ _ _=>False
theorem qbk:PS X st tNever:=fun _ _ _ _ _ _ h=>h.elim
end
abbrev TG:=V→St→Hp→(St→Hp→Prop)→Prop
abbrev TGs:=List V→St→Hp→(St→Hp→Prop)→Prop
def PG (X:Cx) (target:Expr) (t:TG):Prop:=
 ∀ (pins:List (Addr×Obj)) (s:Shared) (σ:St) (H:Hp) (v:V) (u:Value) (Q:St→Hp→Prop),Inv X pins σ H s→RelV v u→t v σ H Q→
  wpAny (model X.prog X.w) X.A (assign target X.env u) (fun _ s'=>∃ σ' H',Inv X pins σ' H' s'∧Q σ' H') X.xe s
def PGs (X:Cx) (ts:List Expr) (t:TGs):Prop:=
 ∀ (pins:List (Addr×Obj)) (s:Shared) (σ:St) (H:Hp) (vs:List V) (us:List Value) (Q:St→Hp→Prop),Inv X pins σ H s→Vals vs us→t vs σ H Q→
  wpAny (model X.prog X.w) X.A (assignInOrder ((assignEach ts X.env).map (·.2)) us) (fun _ s'=>∃ σ' H',Inv X pins σ' H' s'∧Q σ' H') X.xe s
abbrev TSet:=V→V→V→Hp→(Hp→Prop)→Prop
def PSet (X:Cx) (t:TSet):Prop:=
 ∀ (pins:List (Addr×Obj)) (s:Shared) (σ:St) (H:Hp) (o i v:V) (ov iv u:Value) (Q:Hp→Prop),Inv X pins σ H s→RelV o ov→RelV i iv→RelV v u→t o i v H Q→
  wpAny (model X.prog X.w) X.A (setItem ov iv u) (fun _ s'=>∃ H',Inv X pins σ H' s'∧Q H') X.xe s
section
variable {X:Cx}{pos:Pos}
def qlm (i:Nat):TG:=fun v σ H Q=>Q (σ.set i (some v)) H
theorem qag {i:Nat}{x:Str} (hN:X.N.Nodup) (hi:X.N[i]?=some x) (hx:Loc X.env.scope x) (hf:X.fn x=true∨X.env.scope.names.lookup x=some .local:=by first|exact .inl rfl|exact .inr rfl|assumption):PG X (.Name x pos) (qlm i):=by
 intro pins s σ H v u Q I r h
 exact wpAny_assign_Name (yjl I hN hi hx r (fun s' I'=>⟨_,H,I',h⟩) hf)
def gNil:TGs:=fun vs σ H Q=>vs=[]∧Q σ H
def gCons (t:TG) (u:TGs):TGs:=fun vs σ H Q=>∃ v r,vs=v::r∧t v σ H fun σ' H'=>u r σ' H' Q
theorem qbh:PGs X [] gNil:=by
 intro pins s σ H vs us Q I r h
 obtain ⟨e,h⟩:=h
 subst e
 cases r
 exact assignInOrder_nil ⟨σ,H,I,h⟩
theorem qan {e:Expr}{es:List Expr}{t:TG}{u:TGs} (h1:PG X e t) (h2:PGs X es u)
  (hs:(assignEach (e::es) X.env).map (·.2)=assign e X.env::(assignEach es X.env).map (·.2):=by rfl):PGs X (e::es) (gCons t u):=by
 intro pins s σ H vs us Q I r h
 obtain ⟨v,vr,e1,h⟩:=h
 subst e1
 cases r with
 | cons r rr=>
  rw[hs]
  refine assignInOrder_cons (thn (h1 pins s σ H _ _ _ I r h) fun _ s1 ⟨σ1,H1,I1,q1⟩=>?_)
  exact h2 pins s1 σ1 H1 _ _ Q I1 rr q1
def gTup (K:PySem.W.Frag) (n:Nat) (t:TGs):TG:=fun v σ H Q=>∃ a xs,v=.ref a∧SqT K H a xs∧xs.length=n∧t xs σ H Q
theorem ycc {es:List Expr}{k:Nat}{t:TGs}{n:Nat} (hc:X.calm=true) (h:PGs X es t)
  (hn:(assignEach es X.env).length=n:=by rfl) (hst:(assignEach es X.env).findIdx? (·.1)=none:=by rfl):PG X (.Tuple es k pos) (gTup X.K n t):=by
 intro pins s σ H v u Q I r hw
 obtain ⟨a,xs,e1,hq,hl,hw⟩:=hw
 subst e1
 cases r
 obtain ⟨its,rv,ht,hz⟩:=I.tuple hq
 refine assign_Tuple_tuple (I.ok.hd hc) ht (by simp[hn,← hl,rv.length]) hst fun h' hx=>?_
 have I1:Inv X pins σ H { s with heap:=h' }:=I.kept (t':=s.toks) fun b o e=>hx b o (Nat.ne_of_lt (Heap.lt_size e)) e
 exact h pins _ σ H xs _ Q I1 (by simpa using rv) hw
def gSub (to ti:TE) (t:TSet):TG:=fun v σ H Q=>to σ H fun o H1=>ti σ H1 fun i H2=>t o i v H2 fun H3=>Q σ H3
theorem qlq {o i:Expr}{to ti:TE}{t:TSet} (ho:PE X o to) (hi:PE X i ti) (hs:PSet X t)
  (ha:∀ v,assign (.Subscript o i pos) X.env v=(do
   let ov ← holding [v] (eval o X.env)
   let iv ← holding [v,ov] (eval i X.env)
   standAt pos
   holding [v,ov,iv] (setItem ov iv v)
   release [v,ov,iv] []):=by intro _;rfl):PG X (.Subscript o i pos) (gSub to ti t):=by
 intro pins s σ H v u Q I r h
 rw[ha]
 refine wpAny_bind (wpAny_holding (thn (ho pins s σ H _ I h) fun ov s1 ⟨x,H1,I1,r1,q1⟩=>?_))
 refine wpAny_bind (wpAny_holding (thn (hi pins s1 σ H1 _ I1 q1) fun iv s2 ⟨y,H2,I2,r2,q2⟩=>?_))
 refine wpAny_bind (wpAny_standAt (wpAny_bind (wpAny_holding (thn (hs pins s2 σ H2 x y v ov iv u _ I2 r1 r2 r q2) fun _ s3 ⟨H3,I3,q3⟩=>?_))))
 exact wpAny_release ⟨σ,H3,I3,q3⟩
def tAsg (te:TE) (g:TG):TS:=fun D σ H=>te σ H fun x H1=>g x σ H1 D.nx
theorem yl1 {tg e:Expr}{te:TE}{g:TG} (he:PE X e te) (hg:PG X tg g) (hs:swapsWithSole [tg] e pos.line X.env=pure false:=by rfl) (hw:swappedStores [tg] e X.env=pure none:=by rfl)
  (h1:(assignEach [tg] X.env).map (·.2)=[assign tg X.env]:=by rfl):PS X (.Assign [tg] e pos) (tAsg te g):=by
 intro pins s σ H D I h
 refine wpAny_Assign_stores (thn (he pins s σ H _ I h) fun v s1 ⟨x,H1,I1,r1,q1⟩=>?_) hs hw
 rw[h1]
 exact thn (hg pins s1 σ H1 x v _ I1 r1 q1) fun _ s2 q=>q
theorem yaw {i:Nat}{x:Str}{e:Expr}{te:TE}{pos':Pos} (hN:X.N.Nodup) (hi:X.N[i]?=some x) (hx:Loc X.env.scope x) (he:PE X e te) (hs:swapsWith e (some (.Name x pos')) pos.line X.env=pure false:=by rfl) (hf:X.fn x=true∨X.env.scope.names.lookup x=some .local:=by first|exact .inl rfl|exact .inr rfl|assumption) :
  PS X (.Assign [.Name x pos'] e pos) (tAsg te (qlm i)):=by
 intro pins s σ H D I h
 refine wpAny_Assign_Name (thn (he pins s σ H _ I h) fun v s1 ⟨y,H1,I1,r1,q1⟩=>?_) hs
 exact yjl I1 hN hi hx r1 (fun s2 I2=>⟨_,H1,I2,q1⟩) hf
end
structure It where
 go:Nat→Hp→Prop
 yld:Nat→Hp→V→Hp→Prop
 stop:Nat→Hp→Prop
def FpOk (X:Cx) (pins:List (Addr×Obj)) (H:Hp) (b:Addr):Prop:=
 H b=none∧b≠X.env.locals∧b∉X.fs∧(b∈X.ex∨X.s₀.heap.objs.size≤b)∧(∀ x c,X.env.cells.lookup x=some c→c≠b)∧∀ p∈X.pn++pins,p.1≠b
theorem Inv.fpOk {X:Cx}{pins:List (Addr×Obj)}{σ:St}{H H':Hp}{s:Shared}{b:Addr} (I:Inv X pins σ H s) (hb:s.heap.objs.size≤b) (hn:H' b=none):FpOk X pins H' b:=by
 refine ⟨hn,Nat.ne_of_gt (Nat.lt_of_lt_of_le I.lt hb),I.nofs hb,.inr (Nat.le_trans I.sz hb),fun x c e z=>?_,fun p hp z=>?_⟩
 ·obtain ⟨v,q⟩:=I.cell x c e
  exact absurd (Nat.lt_of_lt_of_le q.lt (by rw[z];exact hb)) (Nat.lt_irrefl _)
 ·exact absurd (Nat.lt_of_lt_of_le (Heap.lt_size (I.pin p hp).1) (by rw[z];exact hb)) (Nat.lt_irrefl _)
structure Turn (P:Program) (w:World) (K:PySem.W.Frag) (tg:Expr) (J:It) (fp:List Addr) (it:Addr) (tn:Nat→Heap→Prop):Prop where
 mem:it∈fp
 obj:∀ i h,tn i h→∀ b∈fp,∃ o,h.get? b=some o∧∀ v,o.data≠.cell v
 keep:∀ i h h',tn i h→(∀ b∈fp,∀ o,h.get? b=some o→h'.get? b=some o)→tn i h'
 item:∀ (X:Cx),X.prog=P→X.w=w→X.K=K→X.calm=true→∀ (i:Nat) (pins:List (Addr×Obj)) (s:Shared) (σ:St) (H:Hp) (E:Value→Shared→Prop),Inv X pins σ H s→(∀ b∈fp,FpOk X pins H b)→tn i s.heap→J.go i H→
  wpAny (model P w) X.A (pyNext (.ref it)) (fun r s1=>∃ u,r=some u∧
   wpAny (model P w) X.A (letOwnedTupleGo tg (.ref it) u) (fun _ s2=>∃ x H',Inv X pins σ H' s2∧RelV x u∧J.yld i H x H'∧tn (i+1) s2.heap∧∀ b∈fp,H' b=none) E s1) E s
 done:∀ (X:Cx),X.prog=P→X.w=w→X.K=K→X.calm=true→∀ (i:Nat) (pins:List (Addr×Obj)) (s:Shared) (σ:St) (H:Hp) (E:Value→Shared→Prop),Inv X pins σ H s→(∀ b∈fp,FpOk X pins H b)→tn i s.heap→J.stop i H→
  wpAny (model P w) X.A (pyNext (.ref it)) (fun r s1=>r=none∧Inv X pins σ H s1) E s
 self:∀ (A:Around) (i:Nat) (s:Shared) (Q:Value→Shared→Prop) (E:Value→Shared→Prop),tn i s.heap→Q (.ref it) s→wpAny (model P w) A (pyIter (.ref it)) Q E s
abbrev TI:=St→Hp→(It→Hp→Prop)→Prop
def PIE (X:Cx) (pins:List (Addr×Obj)) (σ:St) (tg:Expr) (R:It→Hp→Prop) (itv:Value) (s2:Shared):Prop:=
 ∃ (it:Addr) (fp:List Addr) (tn:Nat→Heap→Prop) (J:It) (H':Hp),itv=.ref it∧Inv X pins σ H' s2∧Turn X.prog X.w X.K tg J fp it tn∧tn 0 s2.heap∧(∀ b∈fp,FpOk X pins H' b)∧R J H'
def PI (X:Cx) (tg iter:Expr) (wi:TI):Prop:=
 ∀ (pins:List (Addr×Obj)) (s:Shared) (σ:St) (H:Hp) (R:It→Hp→Prop),Inv X pins σ H s→wi σ H R→
  wpAny (model X.prog X.w) X.A (eval iter X.env) (fun v s1=>wpAny (model X.prog X.w) X.A (pyIter v) (PIE X pins σ tg R) X.xe s1) X.xe s
theorem go_of {M:Model}{A:Around}{E:Value→Shared→Prop}{s:Shared}{tg:Expr}{it:Addr}{u:Value}{o:Obj}{n:String}{vs:Array Value}{Q:Unit→Shared→Prop} (ho:s.heap.get? it=some o) (hc:o.cls=.type n) (hd:o.data=.fields vs)
    (hn:["enumerate","zip","dict_itemiterator","dict_reverseitemiterator","odict_iterator","itertools.zip_longest","itertools.pairwise"].contains n=false) (hQ:Q () s):wpAny M A (letOwnedTupleGo tg (.ref it) u) Q E s:=by
  unfold letOwnedTupleGo
  cases tg<;>first
    | exact wpAny_pure hQ
    | (cases u<;>first
        | exact wpAny_pure hQ
        | (refine wpAny_bind (wpAny_load ho ?_)
           rw[hc,hd]
           show wpAny M A (if (["enumerate","zip","dict_itemiterator","dict_reverseitemiterator","odict_iterator","itertools.zip_longest","itertools.pairwise"].contains n&&vs[0]? == some (rawInt _))=true then _ else _) Q E s
           rw[if_neg (by intro h;rw[hn,Bool.false_and] at h;cases h)]
           exact wpAny_pure hQ))
def Itl (K:PySem.W.Frag) (a:Addr):It:=
 ⟨fun i H=>∃ xs x,SqL K H a xs∧xs[i]?=some x,fun i H x H'=>H'=H∧∀ xs,SqL K H a xs→xs[i]?=some x,fun i H=>∃ xs,SqL K H a xs∧xs.length≤i⟩
def Itr (lo:Int) (n:Nat):It:=⟨fun i _=>i<n,fun i H x H'=>H'=H∧x=.int (lo+i),fun i _=>n≤i⟩
theorem qlb {P:Program}{w:World}{K:PySem.W.Frag}{tg:Expr} (a it:Addr):Turn P w K tg (Itl K a) [it] it (fun i h=>h.IsListIter it a i) where
 mem:=by simp
 obj:=fun i h st b hb=>by
  have e:b=it:=by simpa using hb
  subst e
  obtain ⟨o,e,c,d⟩:=st
  exact ⟨o,e,fun v z=>by rw[d] at z;cases z⟩
 keep:=fun i h h' st k=>st.at fun o e=>k it (by simp) o e
 item:=by
  intro X hP hw hK hc i pins s σ H E I hf st hg
  subst hP hw hK
  obtain ⟨xs,x,hq,hx⟩:=hg
  obtain ⟨its,rv,p,hz⟩:=I.list hq
  obtain ⟨u,hu,ru⟩:=rv.get hx
  obtain ⟨f0,f1,f2,f3,f4,f5⟩:=hf it (by simp)
  refine wpAny_pyNext_list_item st p.isList (x:=u) (by simpa using hu) fun h' st' sb=>?_
  have I1:Inv X pins σ H { s with heap:=h' }:=I.turned (t':=s.toks) (fun b o hb e=>(sb.2 b hb).trans e) f0 f1 f3 f4 f5
  obtain ⟨o,e,c,d⟩:=id st'
  exact ⟨u,rfl,go_of (s:={ s with heap:=h' }) e c d (by decide) ⟨x,H,I1,ru,⟨rfl,fun ys hy=>by rw[I.list_inj hy hq];exact hx⟩,st',fun b hb=>(hf b hb).1⟩⟩
 done:=by
  intro X hP hw hK hc i pins s σ H E I hf st hg
  subst hP hw hK
  obtain ⟨xs,hq,hx⟩:=hg
  obtain ⟨its,rv,p,hz⟩:=I.list hq
  obtain ⟨f0,f1,f2,f3,f4,f5⟩:=hf it (by simp)
  have hl:=rv.length
  exact wpAny_pyNext_list_end (I.ok.hd hc) st p.isList (by simp;omega) fun h' eb=>⟨rfl,I.turned (t':=s.toks) (fun b o hb e=>eb b o hb e) f0 f1 f3 f4 f5⟩
 self:=fun _ _ _ _ _ st h=>wpAny_pyIter_listiter st h
theorem ykd {P:Program}{w:World}{K:PySem.W.Frag}{tg:Expr} (it:Addr) (lo:Int) (n:Nat):Turn P w K tg (Itr lo n) [it] it (fun i h=>IsRangeIter h it (lo+(i:Nat)*1) ((n:Int)-(i:Nat)) 1) where
 mem:=by simp
 obj:=fun i h st b hb=>by
  have e:b=it:=by simpa using hb
  subst e
  exact ⟨_,st,fun v z=>by
   have z':Data.fields _=Data.cell v:=z
   cases z'⟩
 keep:=fun i h h' st k=>k it (by simp) _ st
 item:=by
  intro X hP hw hK hc i pins s σ H E I hf st hg
  subst hP hw hK
  obtain ⟨f0,f1,f2,f3,f4,f5⟩:=hf it (by simp)
  have W:=Walks.range (prog:=X.prog) (w:=X.w) (I.ok.hd hc) it lo 1 n
  refine W.item i s _ _ hg st fun v h' tk hv st' kk=>?_
  obtain ⟨t,rfl⟩:=hv
  have I1:Inv X pins σ H { s with heap:=h',toks:=tk }:=I.turned (fun b o hb e=>kk b o (by simpa using hb) e) f0 f1 f3 f4 f5
  refine ⟨_,rfl,go_of (s:={ s with heap:=h',toks:=tk }) (n:="range_iterator") st' rfl rfl (by decide) ⟨.int (lo+i),H,I1,⟨t,?_⟩,⟨rfl,rfl⟩,st',fun b hb=>(hf b hb).1⟩⟩
  rw[Int.mul_one]
 done:=by
  intro X hP hw hK hc i pins s σ H E I hf st hg
  subst hP hw hK
  obtain ⟨f0,f1,f2,f3,f4,f5⟩:=hf it (by simp)
  exact wpAny_pyNext_range_end (I.ok.hd hc) st (by have:n≤i:=hg;omega) fun h' eb=>⟨rfl,I.turned (t':=s.toks) (fun b o hb e=>eb b o hb e) f0 f1 f3 f4 f5⟩
 self:=fun _ _ _ _ _ st h=>wpAny_pyIter_rangeiter st h
section
variable {X:Cx}{tg:Expr}
def iList (K:PySem.W.Frag) (tl:TE):TI:=fun σ H R=>tl σ H fun x H1=>∃ a,x=.ref a∧(∃ xs,SqL K H1 a xs)∧R (Itl K a) H1
theorem qar {l:Expr}{tl:TE} (hl:PE X l tl):PI X tg l (iList X.K tl):=by
 intro pins s σ H R I h
 refine thn (hl pins s σ H _ I h) fun v s1 ⟨x,H1,I1,r1,q1⟩=>?_
 obtain ⟨a,e,⟨xs,hq⟩,q⟩:=q1
 subst e
 cases r1
 obtain ⟨its,rv,p,hz⟩:=I1.list hq
 refine wpAny_pyIter_list p.isList ?_
 refine ⟨s1.heap.objs.size,[s1.heap.objs.size],_,_,H1,rfl,I1.kept (t':=s1.toks) fun b o e=>Heap.get?_push_of_some _ e,qlb a _,⟨_,Heap.get?_push_size _ rfl,rfl,rfl⟩,fun b hb=>?_,q⟩
 have e:b=s1.heap.objs.size:=by simpa using hb
 subst e
 exact I1.fpOk (Nat.le_refl _) (I1.hok.fresh (Nat.le_refl _))
theorem range_it {pins:List (Addr×Obj)}{σ:St}{H:Hp}{s:Shared}{R:It→Hp→Prop}{E:Value→Shared→Prop}{lo hi:Int}{t u v:Tok}{tk:Nat} (I:Inv X pins σ H s) (h1:-(2 ^ 62)≤lo) (h2:lo<2 ^ 62) (h3:-(2 ^ 62)≤hi) (h4:hi<2 ^ 62)
  (q:R (Itr lo (hi-lo).toNat) H):wpAny (model X.prog X.w) X.A (pyIter (.ref s.heap.objs.size)) (PIE X pins σ tg R) E { s with heap:=s.heap.push { cls:=.type "range",data:=.fields #[.int lo t,.int hi u,.int 1 v] },toks:=tk }:=by
 refine wpAny_pyIter_range (IsRange.new ..) (small_one h1 h2 h3 h4) ?_
 have I1:Inv X pins σ H { s with heap:=s.heap.push { cls:=.type "range",data:=.fields #[.int lo t,.int hi u,.int 1 v] },toks:=tk }:=I.kept fun b o e=>Heap.get?_push_of_some _ e
 refine ⟨(s.heap.push { cls:=.type "range",data:=.fields #[.int lo t,.int hi u,.int 1 v] }).objs.size,[(s.heap.push { cls:=.type "range",data:=.fields #[.int lo t,.int hi u,.int 1 v] }).objs.size],_,_,H,rfl,
  I1.kept (t':=tk) fun b o e=>Heap.get?_push_of_some _ e,ykd _ lo (hi-lo).toNat,?_,fun b hb=>?_,q⟩
 ·have e1:lo+((0:Nat):Int)*1=lo:=by simp
  have e2:(((hi-lo).toNat:Nat):Int)-((0:Nat):Int)=Builtin.Range.rangeSize lo hi 1:=by rw[rangeSize_one];split<;>omega
  show IsRangeIter _ _ (lo+((0:Nat):Int)*1) ((((hi-lo).toNat:Nat):Int)-((0:Nat):Int)) 1
  rw[e1,e2]
  exact Heap.get?_push_size _ rfl
 ·have e:b=(s.heap.push { cls:=.type "range",data:=.fields #[.int lo t,.int hi u,.int 1 v] }).objs.size:=by simpa using hb
  subst e
  exact I1.fpOk (Nat.le_refl _) (I1.hok.fresh (Nat.le_refl _))
def iRng1 (ta:TA):TI:=fun σ H R=>ta σ H fun vs H1=>∃ j:Int,vs=[.int j]∧-(2 ^ 62)≤j∧j<2 ^ 62∧R (Itr 0 j.toNat) H1
theorem yb8 {a:Expr}{ta:TA}{p pos:Pos} (hg:Gl X "range") (hm:X.mg "range" = none) (ha:PA X [a] ta) (hs:starEach [a] X.env=[(false,eval a X.env)]:=by rfl):PI X tg (.Call (.Name "range" p) [a] [] pos) (iRng1 ta):=by
 intro pins s σ H R I h
 refine Call_ (qdk I hg hm boot_range (PyProof.Rows.callWith_type1 (thn (ha pos pins s σ H _ I h) fun us s1 ⟨vs,H1,I1,r1,q1⟩=>?_) hs rfl))
 obtain ⟨j,e,q1,q2,q⟩:=q1
 subst e
 cases r1 with
 | cons r rr=>
  cases rr
  obtain ⟨t,rfl⟩:=r
  exact call_range_1 (range_it I1 (by omega) (by omega) q1 q2 (by simpa using q))
def tFor (wi:TI) (g:TG) (tb:TS):TS:=fun D σ H=>wi σ H fun J H1=>∃ W:Nat→Nat→St→Hp→Prop,(∃ m,W 0 m σ H1)∧∀ i m σ H,W i m σ H→
 (J.stop i H∧D.nx σ H)∨(J.go i H∧∃ N:St→Hp→Prop,(∀ σ' H',N σ' H'→∃ m',m' < m∧W (i+1) m' σ' H')∧∀ x H',J.yld i H x H'→g x σ H' fun σ2 H2=>tb { D with nx:=N,ct:=N,bk:=D.nx } σ2 H2)
def yid (fp:List Addr) (h:Heap):List (Addr×Obj):=fp.filterMap fun b=>(h.get? b).map fun o=>(b,o)
theorem qdx {fp:List Addr}{h:Heap}{b:Addr}{o:Obj} (hb:b∈fp) (e:h.get? b=some o):(b,o)∈yid fp h:=List.mem_filterMap.mpr ⟨b,hb,by rw[e];rfl⟩
theorem qla {fp:List Addr}{h:Heap}{p:Addr×Obj} (hp:p∈yid fp h):p.1∈fp∧h.get? p.1=some p.2:=by
 obtain ⟨b,hb,e⟩:=List.mem_filterMap.mp hp
 cases q:h.get? b with
 | none=>rw[q] at e;cases e
 | some o=>
  rw[q] at e
  have e':(b,o)=p:=Option.some.inj e
  subst e'
  exact ⟨hb,q⟩
theorem Inv.pinned {pins:List (Addr×Obj)}{σ:St}{H:Hp}{s:Shared}{fp:List Addr} (I:Inv X pins σ H s) (hf:∀ b∈fp,FpOk X pins H b) (ho:∀ b∈fp,∃ o,s.heap.get? b=some o∧∀ v,o.data≠.cell v):Inv X (pins++yid fp s.heap) σ H s:=
 I.pins_of fun p hp=>(List.mem_append.mp hp).elim (fun z=>I.pin p (List.mem_append_right _ z)) fun z=>by
  obtain ⟨hb,e⟩:=qla z
  obtain ⟨f0,f1,f2,_⟩:=hf p.1 hb
  obtain ⟨o,e',d⟩:=ho p.1 hb
  rw[e] at e';cases e'
  exact ⟨e,f0,f1,f2,d⟩
theorem Inv.unpinned {pins pl:List (Addr×Obj)}{σ:St}{H:Hp}{s:Shared} (I:Inv X (pins++pl) σ H s):Inv X pins σ H s:=I.pins_of fun p hp=>I.pin p (List.mem_append_right _ (List.mem_append_left _ hp))
theorem qa8 {iter:Expr}{body:List Stmt}{wi:TI}{g:TG}{tb:TS}{pos:Pos} (hp:PassesOwn (model X.prog X.w) X.A X.env X.xe) (hc:X.calm=true) (hi:PI X tg iter wi) (hg:PG X tg g) (hb:PSs X body tb)
  (hs:∀ x,foldedSetIterable iter X.env x=pure x:=by intro _;rfl):PS X (.For tg iter body [] pos) (tFor wi g tb):=by
 intro pins s σ H D I h
 refine wpAny_For (thn (hi pins s σ H _ I h) fun v s1 h1=>thn h1 fun itv s2 h2=>?_) hs
 obtain ⟨it,fp,tn,J,H2,e,I2,T,st2,f2,W,⟨m0,w0⟩,turn⟩:=h2
 subst e
 -- what stays true of the iterator's objects through the loop
 have stat:∀ {H':Hp},(∀ b∈fp,H' b=none)→∀ b∈fp,FpOk X pins H' b:=fun hn b hb=>⟨hn b hb,(f2 b hb).2⟩
 refine codeAny_forLoop_any (fun n s'=>∃ i σ' H',Inv X pins σ' H' s'∧tn i s'.heap∧(∀ b∈fp,H' b=none)∧W i n σ' H') ?_ m0 ⟨0,σ,H2,I2,st2,fun b hb=>(f2 b hb).1,w0⟩
 rintro n s3 ⟨i,σ3,H3,I3,st3,fr3,w3⟩
 rcases turn i n σ3 H3 w3 with ⟨stop,qn⟩|⟨go,N,hN,step⟩
 ·refine wpAny_passesOwn hp (thn (T.done X rfl rfl rfl hc i pins s3 σ3 H3 X.xe I3 (stat fr3) st3 stop) fun r s4 ⟨hr,I4⟩=>?_)
  subst hr
  exact wpAny_execs_nil ⟨σ3,H3,I4,qn⟩
 ·refine wpAny_passesOwn hp (thn (T.item X rfl rfl rfl hc i pins s3 σ3 H3 X.xe I3 (stat fr3) st3 go) fun r s4 ⟨u,hr,h4⟩=>?_)
  subst hr
  refine wpAny_passesOwn hp (thn h4 fun _ s5 ⟨x,H5,I5,r5,y5,st5,fr5⟩=>?_)
  have I5':=I5.pinned (stat fr5) (T.obj _ _ st5)
  refine wpAny_passesOwn hp (thn (hg _ s5 σ3 H5 x u _ I5' r5 (step x H5 y5)) fun _ s6 ⟨σ6,H6,I6,q6⟩=>?_)
  refine wpAny_passesOwn hp (thn (hb _ s6 σ6 H6 _ I6 q6) fun f s7 q7=>?_)
  have again:∀ {σ7:St}{H7:Hp},Inv X (pins++yid fp s5.heap) σ7 H7 s7→N σ7 H7→∃ m,m<n∧∃ i σ' H',Inv X pins σ' H' s7∧tn i s7.heap∧(∀ b∈fp,H' b=none)∧W i m σ' H':=fun {σ7 H7} I7 n7=>by
   obtain ⟨m',hm,w7⟩:=hN σ7 H7 n7
   refine ⟨m',hm,i+1,σ7,H7,I7.unpinned,T.keep _ _ _ st5 fun b hb o e=>(I7.pin (b,o) (List.mem_append_right _ (List.mem_append_right _ (qdx hb e)))).1,fun b hb=>?_,w7⟩
   obtain ⟨o,e,d⟩:=T.obj _ _ st5 b hb
   exact (I7.pin (b,o) (List.mem_append_right _ (List.mem_append_right _ (qdx hb e)))).2.1
  cases f with
  | next=>obtain ⟨σ7,H7,I7,n7⟩:=q7;exact again I7 n7
  | cont=>obtain ⟨σ7,H7,I7,n7⟩:=q7;exact again I7 n7
  | brk=>obtain ⟨σ7,H7,I7,q7⟩:=q7;exact ⟨σ7,H7,I7.unpinned,q7⟩
  | ret v=>obtain ⟨x7,σ7,H7,I7,r7,q7⟩:=q7;exact ⟨x7,σ7,H7,I7.unpinned,r7,q7⟩
end
theorem yay {K:PySem.W.Frag}{a:Addr}{xs:List V}{g:TG}{tb:TS}{D:Ends}{σ:St}{H:Hp} (Pv:Nat→St→Hp→Prop) (h0:Pv 0 σ H) (hl:∀ i σ H,i≤xs.length→Pv i σ H→SqL K H a xs)
  (hs:∀ i x σ H,xs[i]?=some x→Pv i σ H→g x σ H fun σ2 H2=>tb { D with nx:=Pv (i+1),ct:=Pv (i+1),bk:=D.nx } σ2 H2) (hd:∀ σ H,Pv xs.length σ H→D.nx σ H) :
  ∃ W:Nat→Nat→St→Hp→Prop,(∃ m,W 0 m σ H)∧∀ i m σ H,W i m σ H→
   ((Itl K a).stop i H∧D.nx σ H)∨((Itl K a).go i H∧∃ N:St→Hp→Prop,(∀ σ' H',N σ' H'→∃ m',m' < m∧W (i+1) m' σ' H')∧∀ x H',(Itl K a).yld i H x H'→g x σ H' fun σ2 H2=>tb { D with nx:=N,ct:=N,bk:=D.nx } σ2 H2):=by
 refine ⟨fun i m σ H=>m=xs.length-i∧i≤xs.length∧Pv i σ H,⟨xs.length,by simp,Nat.zero_le _,h0⟩,?_⟩
 rintro i m σ H ⟨rfl,hi,p⟩
 have q:=hl i σ H hi p
 by_cases hlt:i<xs.length
 ·refine .inr ⟨⟨xs,xs[i],q,by simp[hlt]⟩,Pv (i+1),fun σ' H' p'=>⟨xs.length-(i+1),by omega,rfl,hlt,p'⟩,fun x H' y=>?_⟩
  obtain ⟨e,y⟩:=y
  subst e
  exact hs i x σ _ (y xs q) p
 ·have e:i=xs.length:=by omega
  subst e
  exact .inl ⟨⟨xs,q,Nat.le_refl _⟩,hd σ H p⟩
theorem qej {lo:Int}{n:Nat}{g:TG}{tb:TS}{D:Ends}{σ:St}{H:Hp} (Pv:Nat→St→Hp→Prop) (h0:Pv 0 σ H)
  (hs:∀ i σ H,i<n→Pv i σ H→g (.int (lo+i)) σ H fun σ2 H2=>tb { D with nx:=Pv (i+1),ct:=Pv (i+1),bk:=D.nx } σ2 H2) (hd:∀ σ H,Pv n σ H→D.nx σ H) :
  ∃ W:Nat→Nat→St→Hp→Prop,(∃ m,W 0 m σ H)∧∀ i m σ H,W i m σ H→
   ((Itr lo n).stop i H∧D.nx σ H)∨((Itr lo n).go i H∧∃ N:St→Hp→Prop,(∀ σ' H',N σ' H'→∃ m',m' < m∧W (i+1) m' σ' H')∧∀ x H',(Itr lo n).yld i H x H'→g x σ H' fun σ2 H2=>tb { D with nx:=N,ct:=N,bk:=D.nx } σ2 H2):=by
 refine ⟨fun i m σ H=>m=n-i∧i≤n∧Pv i σ H,⟨n,by simp,Nat.zero_le _,h0⟩,?_⟩
 rintro i m σ H ⟨rfl,hi,p⟩
 by_cases hlt:i<n
 ·refine .inr ⟨hlt,Pv (i+1),fun σ' H' p'=>⟨n-(i+1),by omega,rfl,hlt,p'⟩,fun x H' y=>?_⟩
  obtain ⟨e,y⟩:=y
  subst e y
  exact hs i σ _ hlt p
 ·have e:i=n:=by omega
  subst e
  exact .inl ⟨Nat.le_refl _,hd σ H p⟩
abbrev R2:=V→V→Hp→VK→Prop
def OpR (X:Cx) (f:Value→Value→Sem Value) (r:R2):Prop:=
 ∀ (pins:List (Addr×Obj)) (s:Shared) (σ:St) (H:Hp) (x y:V) (v u:Value) (Q:VK),Inv X pins σ H s→RelV x v→RelV y u→r x y H Q→
  wpAny (model X.prog X.w) X.A (f v u) (EP X pins σ Q) X.xe s
def UnR (X:Cx) (f:Value→Sem Value) (r:V→Hp→VK→Prop):Prop:=
 ∀ (pins:List (Addr×Obj)) (s:Shared) (σ:St) (H:Hp) (x:V) (v:Value) (Q:VK),Inv X pins σ H s→RelV x v→r x H Q→
  wpAny (model X.prog X.w) X.A (f v) (EP X pins σ Q) X.xe s
def yda (X:Cx) (f:Value) (r:List V→Hp→VK→Prop):Prop:=
 ∀ (pins:List (Addr×Obj)) (s:Shared) (σ:St) (H:Hp) (xs:List V) (us:List Value) (Q:VK),Inv X pins σ H s→Vals xs us→r xs H Q→
  wpAny (model X.prog X.w) X.A (call f us) (EP X pins σ Q) X.xe s
def tOp (r:R2) (ta tb:TE):TE:=fun σ H Q=>ta σ H fun x H1=>tb σ H1 fun y H2=>r x y H2 Q
def tUn (r:V→Hp→VK→Prop) (ta:TE):TE:=fun σ H Q=>ta σ H fun x H1=>r x H1 Q
def rI (C:Int→Int→Prop) (g:Int→Int→V):R2:=fun x y H Q=>∃ i j,x=.int i∧y=.int j∧C i j∧Q (g i j) H
def rI0 (g:Int→Int→V):R2:=fun x y H Q=>∃ i j,x=.int i∧y=.int j∧Q (g i j) H
def rU (g:Int→V):V→Hp→VK→Prop:=fun x H Q=>∃ i,x=.int i∧Q (g i) H
section
variable {X:Cx}{a b c:Expr}{ta tb tc:TE}{pos:Pos}
theorem binT (ha:PE X a ta) (hb:PE X b tb) {pins:List (Addr×Obj)}{s:Shared}{σ:St}{H:Hp}{R:V→V→Hp→Prop} (I:Inv X pins σ H s)
  (h:ta σ H fun x H1=>tb σ H1 fun y H2=>R x y H2) {Q:Value→Shared→Prop}{f:Value→Value→Sem Value}
  (hf:∀ v u s2 x y H2,Inv X pins σ H2 s2→RelV x v→RelV y u→R x y H2→wpAny (model X.prog X.w) X.A (f v u) Q X.xe s2) :
  wpAny (model X.prog X.w) X.A (eval a X.env) (fun v s₁=>wpAny (model X.prog X.w) X.A (eval b X.env) (fun u s₂=>wpAny (model X.prog X.w) X.A (f v u) Q X.xe s₂) X.xe s₁) X.xe s:=by
 refine thn (ha pins s σ H _ I h) fun v s1 ⟨x,H1,I1,r1,q1⟩=>?_
 refine thn (hb pins s1 σ H1 _ I1 q1) fun u s2 ⟨y,H2,I2,r2,q2⟩=>?_
 exact hf v u s2 x y H2 I2 r1 r2 q2
theorem ya3 {op:Operator}{r:R2} (ho:OpR X (binaryOp op) r) (ha:PE X a ta) (hb:PE X b tb):PE X (.BinOp a op b pos) (tOp r ta tb):=by
 intro pins s σ H Q I h
 exact wpAny_BinOp (binT ha hb I h fun v u s2 x y H2 I2 rx ry q=>ho pins s2 σ H2 x y v u Q I2 rx ry q)
theorem pe_un {op:UnaryOp}{r:V→Hp→VK→Prop} (ho:UnR X (unaryOp op) r) (ha:PE X a ta):PE X (.UnaryOp op a pos) (tUn r ta):=by
 intro pins s σ H Q I h
 exact UnaryOp_ (thn (ha pins s σ H _ I h) fun v s1 ⟨x,H1,I1,r1,q1⟩=>ho pins s1 σ H1 x v Q I1 r1 q1)
theorem opI {f:Value→Value→Sem Value}{C:Int→Int→Prop}{g:Int→Int→Int}
  (rule:∀ (i j:Int) (t u:Tok) (s:Shared) (Q:Value→Shared→Prop) (E:Value→Shared→Prop),C i j→Q (.int (g i j) s.toks) { s with toks:=s.toks+1 }→wpAny (model X.prog X.w) X.A (f (.int i t) (.int j u)) Q E s) :
  OpR X f (rI C fun i j=>.int (g i j)):=by
 intro pins s σ H x y v u Q I rx ry h
 obtain ⟨i,j,rfl,rfl,hc,q⟩:=h
 obtain ⟨t,rfl⟩:=rx
 obtain ⟨t',rfl⟩:=ry
 exact rule i j t t' s _ _ hc ⟨.int (g i j),H,I.tok _,⟨_,rfl⟩,q⟩
theorem opI0 {f:Value→Value→Sem Value}{g:Int→Int→Int}
  (rule:∀ (i j:Int) (t u:Tok) (s:Shared) (Q:Value→Shared→Prop) (E:Value→Shared→Prop),Q (.int (g i j) s.toks) { s with toks:=s.toks+1 }→wpAny (model X.prog X.w) X.A (f (.int i t) (.int j u)) Q E s) :
  OpR X f (rI0 fun i j=>.int (g i j)):=by
 intro pins s σ H x y v u Q I rx ry h
 obtain ⟨i,j,rfl,rfl,q⟩:=h
 obtain ⟨t,rfl⟩:=rx
 obtain ⟨t',rfl⟩:=ry
 exact rule i j t t' s _ _ ⟨.int (g i j),H,I.tok _,⟨_,rfl⟩,q⟩
theorem opB0 {f:Value→Value→Sem Value}{g:Int→Int→Bool}
  (rule:∀ (i j:Int) (t u:Tok) (s:Shared) (Q:Value→Shared→Prop) (E:Value→Shared→Prop),Q (.bool (g i j)) s→wpAny (model X.prog X.w) X.A (f (.int i t) (.int j u)) Q E s) :
  OpR X f (rI0 fun i j=>.bl (g i j)):=by
 intro pins s σ H x y v u Q I rx ry h
 obtain ⟨i,j,rfl,rfl,q⟩:=h
 obtain ⟨t,rfl⟩:=rx
 obtain ⟨t',rfl⟩:=ry
 exact rule i j t t' s _ _ ⟨.bl (g i j),H,I,rfl,q⟩
def CDiv (i j:Int):Prop:=0<j∧j<1073741824
def CPow (i j:Int):Prop:=0≤j∧j≤1000000∧i.natAbs<2 ^ 64
def CMul (i j:Int):Prop:=(-(2 ^ 64)<i∧i<2 ^ 64)∨(-(2 ^ 64)<j∧j<2 ^ 64)
theorem CMul.ok {i j:Int} (h:CMul i j):IntMulOk i j:=by
 rcases h with ⟨h1,h2⟩|⟨h1,h2⟩
 ·exact .of_left (intBits_le_64 h1 h2)
 ·exact .of_right (intBits_le_64 h1 h2)
theorem yct:OpR X (binaryOp .Add) (rI0 fun i j=>.int (i+j)):=opI0 fun _ _ _ _ _ _ _ q=>add_int q
theorem ye6:OpR X (binaryOp .Sub) (rI0 fun i j=>.int (i-j)):=opI0 fun _ _ _ _ _ _ _ q=>sub_int q
theorem yie:OpR X (binaryOp .Mult) (rI CMul fun i j=>.int (i*j)):=opI fun _ _ _ _ _ _ _ hc q=>mul_int q hc.ok
theorem qkw:OpR X (binaryOp .FloorDiv) (rI CDiv fun i j=>.int (i / j)):=opI fun i j _ _ _ _ _ hc q=>by
 have h1:(0:Int)<j:=hc.1
 have h2:j<1073741824:=hc.2
 exact floordiv_int (by omega) (by rw[Int.fdiv_eq_ediv_of_nonneg i (by omega)];exact q) (.inl (PyProof.noPylong_small (by omega)))
theorem yeg:OpR X (binaryOp .Mod) (rI (fun _ j=>0<j) fun i j=>.int (i % j)):=opI fun i j _ _ _ _ _ hc q=>by
 have h1:(0:Int)<j:=hc
 exact mod_int' (by omega) (by rw[Int.fmod_eq_emod_of_nonneg i (by omega)];exact q)
theorem op_pow:OpR X (binaryOp .Pow) (rI CPow fun i j=>.int (i ^ j.toNat)):=opI fun _ _ _ _ _ _ _ hc q=>pow_int_small hc.1 hc.2.1 hc.2.2 q
theorem unI {f:Value→Sem Value}{g:Int→Int}
  (rule:∀ (i:Int) (t:Tok) (s:Shared) (Q:Value→Shared→Prop) (E:Value→Shared→Prop),Q (.int (g i) s.toks) { s with toks:=s.toks+1 }→wpAny (model X.prog X.w) X.A (f (.int i t)) Q E s) :
  UnR X f (rU fun i=>.int (g i)):=by
 intro pins s σ H x v Q I rx h
 obtain ⟨i,rfl,q⟩:=h
 obtain ⟨t,rfl⟩:=rx
 exact rule i t s _ _ ⟨.int (g i),H,I.tok _,⟨_,rfl⟩,q⟩
theorem un_neg:UnR X (unaryOp .USub) (rU fun i=>.int (-i)):=unI fun _ _ _ _ _ q=>neg_int q
end
def scal:V→V→Bool
 | .non,.non=>true | .non,.int _=>true | .int _,.non=>true | .non,.bl _=>true | .bl _,.non=>true | .non,.str _=>true | .str _,.non=>true
 | .int _,.int _=>true | .bl _,.bl _=>true | .str _,.str _=>true | .byt _,.byt _=>true
 | .int _,.str _=>true | .str _,.int _=>true | .bl _,.str _=>true | .str _,.bl _=>true
 | _,_=>false
def rEq:R2:=fun x y H Q=>scal x y=true∧Q (.bl (decide (x=y))) H
def rNe:R2:=fun x y H Q=>scal x y=true∧Q (.bl (!decide (x=y))) H
theorem ql8 {i j:Int}:decide (V.int i=V.int j)=(i == j):=by
 rw[Bool.eq_iff_iff]
 simp
theorem dec_bl {i j:Bool}:decide (V.bl i=V.bl j)=(i == j):=by
 rw[Bool.eq_iff_iff]
 simp
theorem qlw {i j:Str}:decide (V.str i=V.str j)=(i == j):=by
 rw[Bool.eq_iff_iff]
 simp
theorem qk1 {i j:Array UInt8}:decide (V.byt i=V.byt j)=(i.toList == j.toList):=by
 rw[Bool.eq_iff_iff]
 cases i
 cases j
 simp
section
variable {X:Cx}{a b c:Expr}{ta tb tc:TE}{pos:Pos}
theorem yaz {pins:List (Addr×Obj)}{σ:St}{H:Hp}{s:Shared}{Q:VK}{k k':Bool} (I:Inv X pins σ H s) (q:Q (.bl k) H) (e:k=k'):EP X pins σ Q (.bool k') s:=by
 subst e
 exact ⟨.bl k,H,I,rfl,q⟩
theorem qax:OpR X (compareOp .Eq) rEq:=by
 intro pins s σ H x y v u Q I rx ry h
 obtain ⟨hs,q⟩:=h
 cases x with
 | non=>
  cases rx
  cases y with
  | non=>cases ry;exact PySem.EqNone.eq_none_none (yaz I q (by simp))
  | bl j=>cases ry;exact PySem.EqNone.eq_none_bool (yaz I q (by simp))
  | int j=>obtain ⟨t',rfl⟩:=ry;exact PySem.EqNone.eq_none_int (yaz I q (by simp))
  | str j=>obtain ⟨t',rfl⟩:=ry;exact PySem.EqNone.eq_none_str (yaz I q (by simp))
  | _=>exact absurd (show false=true from hs) Bool.false_ne_true
 | bl i=>
  cases rx
  cases y with
  | non=>cases ry;exact PySem.EqNone.eq_bool_none (yaz I q (by simp))
  | bl j=>cases ry;exact eq_bool (yaz I q dec_bl)
  | str j=>obtain ⟨t',rfl⟩:=ry;exact PySem.EqMixed.eq_bool_str (yaz I q (by simp))
  | _=>exact absurd (show false=true from hs) Bool.false_ne_true
 | int i=>
  obtain ⟨t,rfl⟩:=rx
  cases y with
  | non=>cases ry;exact PySem.EqNone.eq_int_none (yaz I q (by simp))
  | int j=>obtain ⟨t',rfl⟩:=ry;exact eq_int (yaz I q ql8)
  | str j=>obtain ⟨t',rfl⟩:=ry;exact PySem.EqMixed.eq_int_str (yaz I q (by simp))
  | _=>exact absurd (show false=true from hs) Bool.false_ne_true
 | str i=>
  obtain ⟨t,rfl⟩:=rx
  cases y with
  | non=>cases ry;exact PySem.EqNone.eq_str_none (yaz I q (by simp))
  | bl j=>cases ry;exact PySem.EqMixed.eq_str_bool (yaz I q (by simp))
  | int j=>obtain ⟨t',rfl⟩:=ry;exact PySem.EqMixed.eq_str_int (yaz I q (by simp))
  | str j=>obtain ⟨t',rfl⟩:=ry;exact eq_str (yaz I q qlw)
  | _=>exact absurd (show false=true from hs) Bool.false_ne_true
 | byt i=>
  obtain ⟨t,rfl⟩:=rx
  cases y with
  | byt j=>obtain ⟨t',rfl⟩:=ry;exact PySem.W.eq_bytes (yaz I q qk1)
  | _=>exact absurd (show false=true from hs) Bool.false_ne_true
 | _=>cases y<;>exact absurd (show false=true from hs) Bool.false_ne_true
theorem yi0:OpR X (compareOp .NotEq) rNe:=by
 intro pins s σ H x y v u Q I rx ry h
 obtain ⟨hs,q⟩:=h
 cases x with
 | non=>
  cases rx
  cases y with
  | non=>cases ry;exact PySem.EqNone.ne_none_none (yaz I q (by simp))
  | bl j=>cases ry;exact PySem.EqNone.ne_none_bool (yaz I q (by simp))
  | int j=>obtain ⟨t',rfl⟩:=ry;exact PySem.EqNone.ne_none_int (yaz I q (by simp))
  | str j=>obtain ⟨t',rfl⟩:=ry;exact PySem.EqNone.ne_none_str (yaz I q (by simp))
  | _=>exact absurd (show false=true from hs) Bool.false_ne_true
 | bl i=>
  cases rx
  cases y with
  | non=>cases ry;exact PySem.EqNone.ne_bool_none (yaz I q (by simp))
  | bl j=>cases ry;exact ne_bool (yaz I q (congrArg not dec_bl))
  | str j=>obtain ⟨t',rfl⟩:=ry;exact PySem.EqMixed.ne_bool_str (yaz I q (by simp))
  | _=>exact absurd (show false=true from hs) Bool.false_ne_true
 | int i=>
  obtain ⟨t,rfl⟩:=rx
  cases y with
  | non=>cases ry;exact PySem.EqNone.ne_int_none (yaz I q (by simp))
  | int j=>obtain ⟨t',rfl⟩:=ry;exact ne_int (yaz I q (congrArg not ql8))
  | str j=>obtain ⟨t',rfl⟩:=ry;exact PySem.EqMixed.ne_int_str (yaz I q (by simp))
  | _=>exact absurd (show false=true from hs) Bool.false_ne_true
 | str i=>
  obtain ⟨t,rfl⟩:=rx
  cases y with
  | non=>cases ry;exact PySem.EqNone.ne_str_none (yaz I q (by simp))
  | bl j=>cases ry;exact PySem.EqMixed.ne_str_bool (yaz I q (by simp))
  | int j=>obtain ⟨t',rfl⟩:=ry;exact PySem.EqMixed.ne_str_int (yaz I q (by simp))
  | str j=>obtain ⟨t',rfl⟩:=ry;exact ne_str (yaz I q (congrArg not qlw))
  | _=>exact absurd (show false=true from hs) Bool.false_ne_true
 | byt i=>
  obtain ⟨t,rfl⟩:=rx
  cases y with
  | byt j=>obtain ⟨t',rfl⟩:=ry;exact PySem.W.ne_bytes (yaz I q (congrArg not qk1))
  | _=>exact absurd (show false=true from hs) Bool.false_ne_true
 | _=>cases y<;>exact absurd (show false=true from hs) Bool.false_ne_true
theorem op_lt:OpR X (compareOp .Lt) (rI0 fun i j=>.bl (decide (i<j))):=opB0 fun _ _ _ _ _ _ _ q=>lt_int q
theorem op_le:OpR X (compareOp .LtE) (rI0 fun i j=>.bl (decide (i≤j))):=opB0 fun _ _ _ _ _ _ _ q=>le_int q
theorem yhb:OpR X (compareOp .Gt) (rI0 fun i j=>.bl (decide (j<i))):=opB0 fun _ _ _ _ _ _ _ q=>gt_int q
theorem ylx:OpR X (compareOp .GtE) (rI0 fun i j=>.bl (decide (j≤i))):=opB0 fun _ _ _ _ _ _ _ q=>ge_int q
theorem qai (b:Expr) {op:CmpOp} (h:op≠.In:=by decide) (h2:op≠.NotIn:=by decide):behindInMarks op b=false:=by
 have e1:(op == CmpOp.In)=false:=by cases op<;>first|rfl|exact absurd rfl h
 have e2:(op == CmpOp.NotIn)=false:=by cases op<;>first|rfl|exact absurd rfl h2
 cases b<;>simp[behindInMarks,e1,e2]
theorem yav {op:CmpOp}{r:R2} (ho:OpR X (compareOp op) r) (ha:PE X a ta) (hb:PE X b tb) (hm:behindInMarks op b=false):PE X (.Compare a [op] [b] pos) (tOp r ta tb):=by
 intro pins s σ H Q I h
 exact wpAny_Compare1 (binT ha hb I h fun v u s2 x y H2 I2 rx ry q=>ho pins s2 σ H2 x y v u Q I2 rx ry q) hm
def tTest (t:TE):TT:=fun σ H Q=>t σ H fun x H'=>∃ k,x=.bl k∧Q k H'
theorem yah {op:CmpOp}{r:R2} (ho:OpR X (compareOp op) r) (ha:PE X a ta) (hb:PE X b tb) (hm:behindInMarks op b=false):PT X (.Compare a [op] [b] pos) (tTest (tOp r ta tb)):=by
 intro pins s σ H Q I h
 refine wpAny_isTrue_Compare1 (thn (ha pins s σ H _ I h) fun v s1 ⟨x,H1,I1,r1,q1⟩=>thn (hb pins s1 σ H1 _ I1 q1) fun u s2 ⟨y,H2,I2,r2,q2⟩=>
  thn (ho pins s2 σ H2 x y v u _ I2 r1 r2 q2) fun c s3 ⟨z,H3,I3,r3,k,e,q3⟩=>?_) hm
 subst e
 cases r3
 exact wpAny_truthy_bool ⟨H3,I3,q3⟩
theorem qjx:(sizeLine:Nat)<2 ^ 63:=by rw[sizeLine_eq];decide
theorem yji {x:V}{us:List Value} (r:Vals [x] us):∃ u,us=[u]∧RelV x u:=by
 cases r with
 | cons r1 r2=>cases r2;exact ⟨_,rfl,r1⟩
theorem vals2 {x y:V}{us:List Value} (r:Vals [x,y] us):∃ u w',us=[u,w']∧RelV x u∧RelV y w':=by
 cases r with
 | cons r1 r2=>
  cases r2 with
  | cons r3 r4=>cases r4;exact ⟨_,_,rfl,r1,r3⟩
theorem call_abs:yda X (.builtin "abs") (fun xs H Q=>∃ i,xs=[.int i]∧Q (.int (if i<0 then -i else i)) H):=by
 intro pins s σ H xs us Q I r h
 obtain ⟨i,rfl,q⟩:=h
 obtain ⟨u,rfl,t,rfl⟩:=yji r
 exact call_abs_int fun u tk=>⟨.int (if i<0 then -i else i),H,I.tok _,⟨_,rfl⟩,q⟩
theorem ygi (hc:X.calm=true):yda X (.builtin "max") (fun xs H Q=>∃ i j,xs=[.int i,.int j]∧Q (.int (if j>i then j else i)) H):=by
 intro pins s σ H xs us Q I r h
 obtain ⟨i,j,rfl,q⟩:=h
 obtain ⟨u,w',rfl,⟨t,rfl⟩,⟨t',rfl⟩⟩:=vals2 r
 refine max_two_ints (I.ok.hd hc) fun h' tk k=>⟨_,H,I.kept k,?_,q⟩
 by_cases hj:j>i
 ·rw[if_pos hj,if_pos hj];exact ⟨_,rfl⟩
 ·rw[if_neg hj,if_neg hj];exact ⟨_,rfl⟩
theorem yh9 (hc:X.calm=true):yda X (.builtin "min") (fun xs H Q=>∃ i j,xs=[.int i,.int j]∧Q (.int (if j<i then j else i)) H):=by
 intro pins s σ H xs us Q I r h
 obtain ⟨i,j,rfl,q⟩:=h
 obtain ⟨u,w',rfl,⟨t,rfl⟩,⟨t',rfl⟩⟩:=vals2 r
 refine min_two_ints (I.ok.hd hc) fun h' tk k=>⟨_,H,I.kept k,?_,q⟩
 by_cases hj:j<i
 ·rw[if_pos hj,if_pos hj];exact ⟨_,rfl⟩
 ·rw[if_neg hj,if_neg hj];exact ⟨_,rfl⟩
theorem qcp:yda X (.type "int") (fun xs H Q=>(∃ i,xs=[.int i]∧Q (.int i) H)∨∃ k,xs=[.bl k]∧Q (.int (if k then 1 else 0)) H):=by
 intro pins s σ H xs us Q I r h
 rcases h with ⟨i,rfl,q⟩|⟨k,rfl,q⟩
 ·obtain ⟨u,rfl,t,rfl⟩:=yji r
  exact call_int_int ⟨.int i,H,I,⟨_,rfl⟩,q⟩
 ·obtain ⟨u,rfl,r1⟩:=yji r
  cases r1
  exact call_int_bool ⟨.int (if k then 1 else 0),H,I.tok _,⟨_,rfl⟩,q⟩
end
structure ObjM (h:Heap) (x dx C:Addr) (mA:Str→Option Value):Prop where
 obj:h.get? x=some (PySem.W.instObj C dx)
 ns:h.Ns1 dx mA
 ne:dx≠x
theorem yli {h:Heap}{dx:Addr}{mA:Str→Option Value} (n:h.Ns1 dx mA):∃ od,h.get? dx=some od∧∀ name,PySem.W.lookIn name od=some (mA name):=by
 obtain ⟨o,es,ep,ho,hd,hk,_,hm⟩:=n
 refine ⟨o,ho,fun name=>?_⟩
 have e:=hm name
 unfold nsFind findBy at e
 rw[← Array.find?_toList] at e
 unfold PySem.W.lookIn
 rw[hd]
 dsimp only
 split
 ·rename_i y q
  rw[q] at e
  exact congrArg some e
 ·rename_i q
  rw[q] at e
  have a:es.toList.any (·.refKey)=false:=by
   rw[List.any_eq_false]
   intro y hy
   obtain ⟨z,t,hkey⟩:=hk y (Array.mem_toList_iff.mp hy)
   simp[DictEntry.refKey,hkey]
  have a':¬ es.toList.any (·.refKey)=true:=by rw[a];exact Bool.false_ne_true
  rw[if_neg a']
  exact congrArg some e
theorem ObjM.look {h:Heap}{x dx C:Addr}{mA:Str→Option Value} (I:ObjM h x dx C mA):∃ od,PySem.W.InstAt h x (PySem.W.instObj C dx) C (some od)∧∀ name,PySem.W.lookIn name od=some (mA name):=
 let ⟨od,ho,hl⟩:=yli I.ns
 ⟨od,⟨I.obj,rfl,rfl,ho⟩,hl⟩
section
variable {prog:Program}{w:World}{A:Around}{E:Value→Shared→Prop}{s:Shared}{K:PySem.W.Frag}{x dx C f:Addr}{mA:Str→Option Value}{name:Str}{v:Value}
theorem get_map {expr:Bool}{Q:Value→Shared→Prop} (X:K.In s.heap) (I:ObjM s.heap x dx C mA) (hg:PySem.W.plainGet K C name=true) (hh:PySem.W.hasDictIn K C=true)
  (ha:PySem.W.findIn K (.ref C) name=some none) (hv:mA name=some v) (hv':PySem.W.handedIn v=true) (h:Q v { s with toks:=s.toks+1 }) :
  wpAny (model prog w) A (getAttr (.ref x) name expr) Q E s:=by
 obtain ⟨od,J,hl⟩:=I.look
 exact PySem.W.get_value X J (PySem.W.plainGet_of hg).1 (PySem.W.findObj_own hh ha rfl (by rw[hl,hv])) hv' h
theorem get_meth {pl:Sem Bool}{Q:Value×List Value→Shared→Prop} (X:K.In s.heap) (I:ObjM s.heap x dx C mA) (hg:PySem.W.plainGet K C name=true)
  (hf:PySem.W.findIn K (.ref C) name=some (some (.ref f))) (ht:PySem.W.isFn K (.ref f)=true) (hv:mA name=none) (h:Q (.ref f,[.ref x]) s) :
  wpAny (model prog w) A (getMethod (.ref x) name pl) Q E s:=by
 obtain ⟨od,J,hl⟩:=I.look
 exact PySem.W.method_fn X J (PySem.W.plainGet_of hg).1 (PySem.W.plainGet_of hg).2 hf (beq_iff_eq.mp ht) (by show (PySem.W.lookIn name od).map (·.isSome)=some false;rw[hl,hv];rfl) h
theorem set_map {ns:List Str}{Q:Unit→Shared→Prop} (X:K.In s.heap) (I:ObjM s.heap x dx C mA)
  (hs:PySem.W.findIn K (.ref C) "__setattr__" = some (some (.builtin "object.__setattr__"))) (hp:PySem.W.plainOver K C=true) (ht:PySem.W.takerIn K C name=some none) (hh:PySem.W.hasDictIn K C=true)
  (hw:PySem.Within mA ns) (hsz:ns.length≤sizeLine)
  (h:∀ h',ObjM h' x dx C (fun y=>if y=name then some v else mA y)→Heap.SameBut dx s.heap h'→Q () { s with heap:=h',toks:=s.toks+2 }) :
  wpAny (model prog w) A (setAttr (.ref x) name v) Q E s:=by
 obtain ⟨od,J,hl⟩:=I.look
 refine PySem.W.set_plain X J hs (PySem.W.osa_open (s:={ s with toks:=s.toks+1 }) (r:=none) X J hp ht fun b=>?_)
 obtain ⟨cd,hc,hd'⟩:=PySem.W.any_some hh
 have hx:s.heap.get? x=some ⟨.ref C,some dx,.plain,#[]⟩:=I.obj
 refine wpAny_bind (wpAny_pure (wpAny_bind (wpAny_bind (wpAny_loadPart hx (wpAny_bind (PySem.W.Looks.here (s:={ s with toks:=s.toks+1 }) (PySem.W.looks_clsIn X hc) ?_))))))
 rw[hd']
 refine wpAny_pure (a:=some dx) (wpAny_bind (wpAny_pure (wpAny_bind ?_)))
 refine wpAny_nsSet1 (s:={ s with toks:=s.toks+1 }) I.ns fun h' hn2 hs2=>?_
 obtain ⟨oD,esD,epD,hoD,hdD,hcD⟩:=hn2.count (PySem.Within.cons name v hw)
 refine wpAny_bind (wpAny_lookBehind hoD (by rw[hdD];exact pastItsLine_dict (Nat.le_trans hcD (by rw[List.length_cons];omega))) ?_)
 exact wpAny_pure (h _ ⟨(hs2.2 _ (Ne.symm I.ne)).trans I.obj,hn2,I.ne⟩ hs2)
theorem make_map {R:Result→Shared→Prop}{vs:List Value}{kw:List (Str×Value)} (X:K.In s.heap) (hm:PySem.W.makesIn K C=true)
  (hi:PySem.W.findIn K (.ref C) "__init__" = some (some (.ref f))) (hf:PySem.W.typeIn K (.ref f)=some (.type "function"))
  (h:codeAny (model prog w) (A.under (.builtin "type.__call__" ⟨.ref C::vs,kw⟩)) (.call (.ref f) ⟨.ref (s.heap.objs.size+1)::vs,kw⟩) (PySem.W.InitBack (s.heap.objs.size+1) R)
   {s with heap:=(s.heap.push PySem.W.emptyDict).push (PySem.W.instObj C s.heap.objs.size) }) :
  codeAny (model prog w) A (.call (.ref C) ⟨vs,kw⟩) R s:=by
 obtain ⟨hh,g,d,t,os⟩:=s
 exact PySem.W.make_core (PySem.W.makes_of X hm) (PySem.W.looks_findIn X hi) (fun self=>PySem.W.bind_fn X self hf) (.inl rfl) h
end
def putF (f:Str) (v:V):List (Str×V)→List (Str×V)
 | []=>[(f,v)]
 | (g,x)::r=>if g=f then (g,v)::r else (g,x)::putF f v r
theorem qgd (f g:Str) (v:V):∀ fs:List (Str×V),(putF f v fs).lookup g=if g=f then some v else fs.lookup g
 | []=>by
  show List.lookup g [(f,v)]=_
  by_cases h:g=f
  ·have hb:(g == f)=true:=beq_iff_eq.mpr h
   simp only[List.lookup,hb,if_pos h]
  ·have hb:(g == f)=false:=beq_eq_false_iff_ne.mpr h
   simp only[List.lookup,hb,if_neg h]
 | (k,x)::r=>by
  have ih:=qgd f g v r
  rw[show putF f v ((k,x)::r)=(if k=f then (k,v)::r else (k,x)::putF f v r) from rfl]
  by_cases hk:k=f
  ·rw[if_pos hk]
   by_cases h:g=k
   ·have hb:(g == k)=true:=beq_iff_eq.mpr h
    simp only[List.lookup,hb,if_pos (h.trans hk)]
   ·have hb:(g == k)=false:=beq_eq_false_iff_ne.mpr h
    simp only[List.lookup,hb,if_neg (fun e:g=f=>h (e.trans hk.symm))]
  ·rw[if_neg hk]
   by_cases h:g=k
   ·have hb:(g == k)=true:=beq_iff_eq.mpr h
    simp only[List.lookup,hb,if_neg (fun e:g=f=>hk (h.symm.trans e))]
   ·have hb:(g == k)=false:=beq_eq_false_iff_ne.mpr h
    simp only[List.lookup,hb]
    exact ih
theorem yge (f:Str) (v:V):∀ fs:List (Str×V),f∈(putF f v fs).map (·.1)∧∀ g,g∈fs.map (·.1)→g∈(putF f v fs).map (·.1)
 | []=>⟨by simp[putF],fun g h=>by simp at h⟩
 | (k,x)::r=>by
  obtain ⟨i1,i2⟩:=yge f v r
  rw[show putF f v ((k,x)::r)=(if k=f then (k,v)::r else (k,x)::putF f v r) from rfl]
  by_cases hk:k=f
  ·rw[if_pos hk]
   subst hk
   exact ⟨by simp,fun g h=>by simpa using h⟩
  ·rw[if_neg hk]
   refine ⟨?_,fun g h=>?_⟩
   ·rw[List.map_cons]
    exact List.mem_cons_of_mem _ i1
   ·rw[List.map_cons] at h ⊢
    rcases List.mem_cons.mp h with e|e
    ·exact List.mem_cons.mpr (.inl e)
    ·exact List.mem_cons_of_mem _ (i2 g e)
theorem yf4 (f:Str) (v:V):∀ fs:List (Str×V),(putF f v fs).length≤fs.length+1
 | []=>by simp[putF]
 | (k,x)::r=>by
  have ih:=yf4 f v r
  rw[show putF f v ((k,x)::r)=(if k=f then (k,v)::r else (k,x)::putF f v r) from rfl]
  by_cases hk:k=f
  ·rw[if_pos hk,List.length_cons,List.length_cons];omega
  ·rw[if_neg hk,List.length_cons,List.length_cons];omega
theorem RelO.some_of {v:V}{o:Option Value} (r:RelO (some v) o):∃ u,o=some u∧RelV v u:=by
 cases o with
 | none=>exact (show False from r).elim
 | some u=>exact ⟨u,rfl,r⟩
theorem RelO.none_of {o:Option Value} (r:RelO none o):o=none:=by
 cases o with
 | none=>rfl
 | some u=>exact (show False from r).elim
theorem qll {v:V}{u:Value} (r:RelV v u):PySem.W.handedIn u=true:=by
 cases v with
 | non=>cases (show u=Value.none from r);rfl
 | bl b=>cases (show u=Value.bool b from r);rfl
 | int i=>obtain ⟨t,e⟩:=(show ∃ t,u=Value.int i t from r);cases e;rfl
 | str x=>obtain ⟨t,e⟩:=(show ∃ t,u=Value.str x t from r);cases e;rfl
 | byt b=>obtain ⟨t,e⟩:=(show ∃ t,u=Value.bytes b t from r);cases e;rfl
 | flt b=>obtain ⟨t,e⟩:=(show ∃ t,u=Value.float b t from r);cases e;rfl
 | ref a=>cases (show u=Value.ref a from r);rfl
 | ty n=>cases (show u=Value.type n from r);rfl
section
variable {P:Program}{w:World}{H H':Hp}{h h':Heap}{a C dx:Addr}{fs fs':List (Str×V)}
theorem yho (hok:HOk P w H h) (e:H a=some (.ins C dx fs)):∃ mA,ObjM h a dx C mA∧(∀ f,RelO (fs.lookup f) (mA f))∧PySem.Within mA (fs.map (·.1))∧fs.length≤1000∧H dx=some (.own a):=by
 obtain ⟨d,z,ne,ob,mA,n,r,q⟩:=(show qbm P w H h a (.ins C dx fs) from hok a _ e)
 exact ⟨mA,⟨ob,n,ne⟩,r,q,z,d⟩
end
structure Cls (K:PySem.W.Frag) (C:Addr):Prop where
 pg:PySem.W.plainGet K C Str.empty=true
 hd:PySem.W.hasDictIn K C=true
 po:PySem.W.plainOver K C=true
 sa:PySem.W.findIn K (.ref C) "__setattr__" = some (some (.builtin "object.__setattr__"))
theorem Cls.get {K:PySem.W.Frag}{C:Addr} (c:Cls K C) (f:Str):PySem.W.plainGet K C f=true:=c.pg
def yfc (K:PySem.W.Frag) (C:Addr) (f:Str):Prop:=PySem.W.findIn K (.ref C) f=some none
theorem yfc.taker {K:PySem.W.Frag}{C:Addr}{f:Str} (n:yfc K C f):PySem.W.takerIn K C f=some none:=by
 unfold PySem.W.takerIn
 rw[show PySem.W.findIn K (.ref C) f=some none from n]
 rfl
structure Meth (K:PySem.W.Frag) (C:Addr) (m:Str) (f:Addr):Prop where
 at_:PySem.W.findIn K (.ref C) m=some (some (.ref f))
 fn:PySem.W.isFn K (.ref f)=true
 kp:PySem.W.keepIn K (.ref f)=true
section
variable {X:Cx}{pins:List (Addr×Obj)}{σ:St}{H:Hp}{s:Shared}{a C dx:Addr}{fs:List (Str×V)}{f:Str}{v:V}{A:Around}{E:Value→Shared→Prop}
theorem ykl {b:Bool}{Q:Value→Shared→Prop} (I:Inv X pins σ H s) (e:H a=some (.ins C dx fs)) (c:Cls X.K C) (n:yfc X.K C f) (l:fs.lookup f=some v)
  (h:∀ u s',Inv X pins σ H s'→RelV v u→Q u s'):wpAny (model X.prog X.w) A (getAttr (.ref a) f b) Q E s:=by
 obtain ⟨mA,O,r,_,_,_⟩:=yho I.hok e
 obtain ⟨u,hu,ru⟩:=RelO.some_of (v:=v) (o:=mA f) (by rw[← l];exact r f)
 exact get_map I.kIn O (c.get f) c.hd n hu (qll ru) (h u _ (I.tok _) ru)
theorem ygt {m:Str}{g:Addr}{pl:Sem Bool}{Q:Value×List Value→Shared→Prop} (I:Inv X pins σ H s) (e:H a=some (.ins C dx fs)) (c:Cls X.K C) (k:Meth X.K C m g) (l:fs.lookup m=none)
  (h:Q (.ref g,[.ref a]) s):wpAny (model X.prog X.w) A (getMethod (.ref a) m pl) Q E s:=by
 obtain ⟨mA,O,r,_,_,_⟩:=yho I.hok e
 have hn:mA m=none:=RelO.none_of (by rw[← l];exact r m)
 exact get_meth I.kIn O (c.get m) k.at_ k.fn hn h
theorem qkc {y:V}{u:Value}{Q:Unit→Shared→Prop} (I:Inv X pins σ H s) (e:H a=some (.ins C dx fs)) (c:Cls X.K C) (n:yfc X.K C f) (hl:fs.length<1000) (ry:RelV y u)
  (h:∀ s',Inv X pins σ (upd H a (.ins C dx (putF f y fs))) s'→Q () s'):wpAny (model X.prog X.w) A (setAttr (.ref a) f u) Q E s:=by
 obtain ⟨mA,O,r,wi,_,ho⟩:=yho I.hok e
 have hz:(fs.map (·.1)).length≤sizeLine:=by rw[List.length_map,sizeLine_eq];omega
 refine set_map I.kIn O c.sa c.po n.taker c.hd wi hz fun h' O' sb=>h _ ?_
 have hd:∃ o,h'.get? dx=some o:=let ⟨o,_,_,e',_⟩:=O'.ns;⟨o,e'⟩
 refine I.write (x:=a) (e:=dx) (by rw[e];exact True.intro) (.inr ho) (fun b q hb z=>(sb.2 b hb).trans z) hd ?_
 refine ⟨by rw[yaj O.ne];exact ho,?_,O.ne,O'.obj,_,O'.ns,fun g=>?_,fun g hg=>?_⟩
 ·have:=yf4 f y fs;omega
 ·show RelO ((putF f y fs).lookup g) (if g=f then some u else mA g)
  rw[qgd]
  by_cases q:g=f
  ·rw[if_pos q,if_pos q];exact ry
  ·rw[if_neg q,if_neg q];exact r g
 ·by_cases q:g=f
  ·rw[q];exact (yge f y fs).1
  ·refine (yge f y fs).2 g (wi g fun z=>hg ?_)
   show (if g=f then some u else mA g)=none
   rw[if_neg q];exact z
theorem Inv.made (I:Inv X pins σ H s):Inv X pins σ (upd (upd H s.heap.objs.size (.own (s.heap.objs.size+1))) (s.heap.objs.size+1) (.ins C s.heap.objs.size []))
  {s with heap:=(s.heap.push PySem.W.emptyDict).push (PySem.W.instObj C s.heap.objs.size) }:=by
 have e1:(s.heap.push PySem.W.emptyDict).get? s.heap.objs.size=some PySem.W.emptyDict:=Heap.get?_push_size s.heap rfl
 have e2:((s.heap.push PySem.W.emptyDict).push (PySem.W.instObj C s.heap.objs.size)).get? (s.heap.objs.size+1)=some (PySem.W.instObj C s.heap.objs.size):=by
  have:=Heap.get?_push_size (s.heap.push PySem.W.emptyDict) (o:=PySem.W.instObj C s.heap.objs.size) rfl
  rwa [Heap.size_push] at this
 have e3:(s.heap.push PySem.W.emptyDict).Ns s.heap.objs.size (fun _=>none):=⟨PySem.W.emptyDict,#[],_,e1,rfl,(fun e he=>absurd he (by simp)),fun _=>rfl⟩
 have I1:=I.laid (a:=s.heap.objs.size) (o:=.own (s.heap.objs.size+1)) (h':=s.heap.push PySem.W.emptyDict) (t':=s.toks) (fun b u q=>Heap.get?_push_of_some _ q) (Nat.le_refl _) ⟨_,e1⟩
 refine I1.laid (a:=s.heap.objs.size+1) (o:=.ins C s.heap.objs.size []) (t':=s.toks) (fun b u q=>Heap.get?_push_of_some _ q) (Nat.le_of_eq (Heap.size_push _ _)) ?_
 have ne:s.heap.objs.size≠s.heap.objs.size+1:=Nat.ne_of_lt (Nat.lt_succ_self _)
 refine ⟨by rw[yaj ne,yaa],Nat.zero_le _,ne,e2,fun _=>none,(Heap.Ns1.of_empty e3).at fun o q=>Heap.get?_push_of_some _ q,fun _=>True.intro,fun y hy=>absurd rfl hy⟩
theorem attr_of {prog:Program}{w:World}{env:Env}{e:Expr}{f:Str}{pos:Pos}{s:Shared}{Q:Value→Shared→Prop} (hb:attributeBase e f env (eval e env)=eval e env)
  (h:wpAny (model prog w) A (eval e env) (fun o s₁=>wpAny (model prog w) A (getAttr o f true) Q E s₁) E s):wpAny (model prog w) A (eval (.Attribute e f pos) env) Q E s:=
 Attribute_any_ h (by rw[arm_eval_Attribute,hb])
end
def tFld (K:PySem.W.Frag) (ta:TE) (f:Str):TE:=fun σ H Q=>ta σ H fun x H1=>∃ a C dx fs v,x=.ref a∧H1 a=some (.ins C dx fs)∧Cls K C∧yfc K C f∧fs.lookup f=some v∧Q v H1
def sFld (K:PySem.W.Frag) (ta tv:TE) (f:Str):TS:=fun D σ H=>tv σ H fun y H1=>ta σ H1 fun x H2=>∃ a C dx fs,x=.ref a∧H2 a=some (.ins C dx fs)∧Cls K C∧yfc K C f∧fs.length<1000∧
 D.nx σ (upd H2 a (.ins C dx (putF f y fs)))
section
variable {X:Cx}{o e value:Expr}{f:Str}{pos pos' tpos:Pos}{ta tv:TE}
theorem pe_fld (he:PE X e ta) (hb:attributeBase e f X.env (eval e X.env)=eval e X.env):PE X (.Attribute e f pos) (tFld X.K ta f):=by
 intro pins s σ H Q I h
 refine attr_of hb (thn (he pins s σ H _ I h) fun u s1 ⟨x,H1,I1,rx,a,C,dx,fs,v,ex,ea,c,n,l,q⟩=>?_)
 subst ex
 obtain rfl:u=Value.ref a:=rx
 exact ykl I1 ea c n l fun u' s2 I2 ru=>⟨v,H1,I2,ru,q⟩
theorem ps_fld (ha:PE X o ta) (hv:PE X value tv) (hs:swapsWith value (some (.Attribute o f pos')) pos.line X.env=pure false):PS X (.Assign [.Attribute o f pos'] value pos) (sFld X.K ta tv f):=by
 intro pins s σ H D I h
 refine plainObj_wpAny_Assign_Attribute (thn (hv pins s σ H _ I h) fun u s1 ⟨y,H1,I1,ry,q⟩=>thn (ha pins s1 σ H1 _ I1 q) fun ov s2 ⟨x,H2,I2,rx,a,C,dx,fs,ex,ea,c,n,l,q2⟩=>?_) hs
 subst ex
 obtain rfl:ov=Value.ref a:=rx
 exact qkc I2 ea c n l ry fun s3 I3=>⟨σ,_,I3,q2⟩
end
section
variable {X:Cx}{pins:List (Addr×Obj)}{σ:St}{H:Hp}{s:Shared}{A:Around}{E:Value→Shared→Prop}{Q:Value→Shared→Prop}{c:Value}{b:Bool}
inductive TyOf (K:PySem.W.Frag) (H:Hp):V→Value→Prop where
 | non:TyOf K H .non (.type "NoneType")
 | bl (x:Bool):TyOf K H (.bl x) (.type "bool")
 | int (i:Int):TyOf K H (.int i) (.type "int")
 | str (x:Str):TyOf K H (.str x) (.type "str")
 | flt (x:UInt64):TyOf K H (.flt x) (.type "float")
 | lst {a:Addr}{xs:List V} (e:H a=some (.lst xs)):TyOf K H (.ref a) (.type "list")
 | frz {a:Addr}{o:Obj}{xs:List V} (e:H a=some (.frz o (.lst xs))):TyOf K H (.ref a) (.type "list")
 | tup {a:Addr}{xs:List V} (e:H a=some (.tup xs)):TyOf K H (.ref a) (.type "tuple")
 | dK {a:Addr}{kvs:List (Key×V)} (e:H a=some (.dK kvs)):TyOf K H (.ref a) (.type "dict")
 | dT {a:Addr}{kvs:List (List Key×V)} (e:H a=some (.dT kvs)):TyOf K H (.ref a) (.type "dict")
 | ins {a C dx:Addr}{fs:List (Str×V)} (e:H a=some (.ins C dx fs)) (cl:Cls K C) (ha:PySem.W.findIn K (.ref C) "__class__" = some (some (.builtin "object.__class__")))
   (hn:PySem.W.specialIn K (.builtin "object.__class__") "__get__" = some (some (.builtin "getset_descriptor.__get__"))) (htk:PySem.W.takesIn K (.builtin "object.__class__")=some true)
   (hm:PySem.W.mroIn K C (.type "object")=some true):TyOf K H (.ref a) (.ref C)
theorem qma {x:V}{u t:Value} (I:Inv X pins σ H s) (rx:RelV x u) (ty:TyOf X.K H x t) (e:PySem.W.kitOne X.K t c=some b) (h:∀ tk,Q (.bool b) { s with toks:=tk }) :
  wpAny (model X.prog X.w) A (call (.builtin "isinstance") [u,c]) Q E s:=by
 cases ty with
 | non=>cases (show u=Value.none from rx);exact PySem.W.kia_one PySem.W.kitx_none I.kIn True.intro e (fun z=>nomatch z) h
 | bl y=>cases (show u=Value.bool y from rx);exact PySem.W.kia_one PySem.W.kitx_bool I.kIn True.intro e (fun z=>nomatch z) h
 | int i=>obtain ⟨t,q⟩:=(show ∃ t,u=Value.int i t from rx);cases q;exact PySem.W.kia_one PySem.W.kitx_int I.kIn True.intro e (fun z=>nomatch z) h
 | str y=>obtain ⟨t,q⟩:=(show ∃ t,u=Value.str y t from rx);cases q;exact PySem.W.kia_one PySem.W.kitx_str I.kIn True.intro e (fun z=>nomatch z) h
 | flt y=>obtain ⟨t,q⟩:=(show ∃ t,u=Value.float y t from rx);cases q;exact PySem.W.kia_one PySem.W.kitx_float I.kIn True.intro e (fun z=>nomatch z) h
 | @lst a xs ea=>
  cases (show u=Value.ref a from rx)
  obtain ⟨_,_,n,_,h1⟩:=(show qbm X.prog X.w H s.heap a (.lst xs) from I.hok a _ ea)
  exact PySem.W.kia_one PySem.W.kitx_list I.kIn ⟨_,h1,rfl⟩ e (fun z=>nomatch z) h
 | @frz a ob xs ea=>
  cases (show u=Value.ref a from rx)
  obtain ⟨_,_,_,n,_,h1⟩:=(show qbm X.prog X.w H s.heap a (.frz ob (.lst xs)) from I.hok a _ ea)
  exact PySem.W.kia_one PySem.W.kitx_list I.kIn ⟨_,h1,rfl⟩ e (fun z=>nomatch z) h
 | @tup a xs ea=>
  cases (show u=Value.ref a from rx)
  obtain ⟨_,_,_,p⟩:=(show qbm X.prog X.w H s.heap a (.tup xs) from I.hok a _ ea)
  obtain ⟨o,h1,h2,_⟩:=p
  exact PySem.W.kia_one PySem.W.kitx_tuple I.kIn ⟨o,h1,h2⟩ e (fun z=>nomatch z) h
 | @dK a kvs ea=>
  cases (show u=Value.ref a from rx)
  obtain ⟨_,_,vs,_,p⟩:=(show qbm X.prog X.w H s.heap a (.dK kvs) from I.hok a _ ea)
  obtain ⟨o,es,ep,h1,h2,_⟩:=p
  exact PySem.W.kia_one PySem.W.kitx_dict I.kIn ⟨o,h1,h2.1⟩ e (fun z=>nomatch z) h
 | @dT a kvs ea=>
  cases (show u=Value.ref a from rx)
  obtain ⟨_,_,xs,_,o,es,ep,h1,h2,_⟩:=(show qbm X.prog X.w H s.heap a (.dT kvs) from I.hok a _ ea)
  exact PySem.W.kia_one PySem.W.kitx_dict I.kIn ⟨o,h1,h2.1⟩ e (fun z=>nomatch z) h
 | @ins a C dx fs ea cl ha hn htk hm=>
  cases (show u=Value.ref a from rx)
  obtain ⟨mA,O,_⟩:=yho I.hok ea
  obtain ⟨od,J,_⟩:=O.look
  exact PySem.W.kia_one (PySem.W.kitx_own (cl.get _) cl.hd ha hn htk hm) I.kIn J e (fun z=>nomatch z) h
end
structure Room (k:Nat) (A:Around):Prop where
 hd:A.handled=none
 dp:A.depth+3*k+5<recursionLimit
 un:A.units+16*k+200<cLine
 gd:A.guards=some []
theorem Room.mono {j k:Nat}{A:Around} (r:Room k A) (h:j≤k):Room j A:=⟨r.hd,by have:=r.dp;omega,by have:=r.un;omega,r.gd⟩
theorem Room.deeper {k:Nat}{A:Around} (r:Room (k+1) A) (env:Env):Room k (A.deeper env):=
 ⟨r.hd,by have:=r.dp;show A.depth+1+3*k+5<_;omega,by have:=r.un;show A.units+3+16*k+200<_;omega,r.gd⟩
theorem qj7 {A:Around}{C:Addr}{us:List Value}{kw:List (Str×Value)}:(A.under (.builtin "type.__call__" ⟨.ref C::us,kw⟩)).depth=A.depth+1:=by
 first|rfl|simp[Around.under,Code.weight,Code.isCreation,Code.isGuard,Code.isCaller,Code.frames,Code.isFrame,guardIds]
theorem yka {A:Around}{C:Addr}{us:List Value}{kw:List (Str×Value)}:(A.under (.builtin "type.__call__" ⟨.ref C::us,kw⟩)).units=A.units+1:=by
 first|rfl|simp[Around.under,Code.cUnits,Code.frames,Code.isFrame]
theorem qjb {A:Around}{C:Addr}{us:List Value}{kw:List (Str×Value)}:(A.under (.builtin "type.__call__" ⟨.ref C::us,kw⟩)).guards=A.guards:=by
 first|rfl|(unfold Around.under Code.guards;cases A.guards<;>simp[pushGuards,Code.isGuard,guardIds])
theorem Room.make {k:Nat}{A:Around} (r:Room (k+1) A) (C:Addr) (us:List Value) (kw:List (Str×Value)):Room k (A.under (.builtin "type.__call__" ⟨.ref C::us,kw⟩)):=
 ⟨r.hd,by have:=r.dp;rw[qj7];omega,by have:=r.un;rw[yka];omega,by rw[qjb];exact r.gd⟩
theorem Room.depth {k:Nat}{A:Around} (r:Room k A):A.depth<recursionLimit:=by have:=r.dp;omega
theorem Room.units {k:Nat}{A:Around} (r:Room k A):A.units+64<cLine:=by have:=r.un;omega
def tNil:TA:=fun _ H Q=>Q [] H
def qeu (ta:TE) (tr:TA):TA:=fun σ H Q=>ta σ H fun x H1=>tr σ H1 fun xs H2=>Q (x::xs) H2
section
variable {X:Cx}{e:Expr}{es:List Expr}{te:TE}{t:TA}{pos:Pos}
theorem yab:PA X [] tNil:=fun _ _ _ _ H Q I h=>Calls.spliced_nil ⟨[],H,I,.nil,h⟩
theorem qaa (ha:PE X e te) (hr:PA X es t) (hs:starEach (e::es) X.env=(false,eval e X.env)::starEach es X.env:=by rfl):PA X (e::es) (qeu te t):=by
 intro pos pins s σ H Q I h
 rw[hs]
 show wpAny _ _ (spliced ((false,eval e X.env)::backTo pos (starEach es X.env))) _ _ s
 refine Calls.spliced_cons (thn (ha pins s σ H _ I h) fun u s1 ⟨x,H1,I1,r1,q1⟩=>?_)
 exact thn (hr pos pins s1 σ H1 _ I1 q1) fun us s2 ⟨xs,H2,I2,r2,q2⟩=>⟨x::xs,H2,I2,.cons r1 r2,q2⟩
def tTup (t:TA):TE:=fun σ H Q=>t σ H fun xs H1=>xs.length≤sizeLine∧∀ p,H1 p=none→Q (.ref p) (upd H1 p (.tup xs))
def tLst (t:TA):TE:=fun σ H Q=>t σ H fun xs H1=>xs.length≤sizeLine∧∀ p,H1 p=none→Q (.ref p) (upd H1 p (.lst xs))
theorem qbf {x1} (h:PA X es t):PE X (.Tuple es x1 pos) (tTup t):=by
 intro pins s σ H Q I hq
 refine wpAny_Tuple_spliced (thn (h pos pins s σ H _ I hq) fun us s1 ⟨xs,H1,I1,r,z,q⟩=>⟨by rw[← r.length];exact z,?_⟩)
 have hf:H1 s1.heap.objs.size=none:=I1.hok.fresh (Nat.le_refl _)
 refine ⟨.ref s1.heap.objs.size,upd H1 s1.heap.objs.size (.tup xs),I1.laid (t':=s1.toks) (fun b u e=>Heap.get?_push_of_some _ e) (Nat.le_refl _) ?_,rfl,q _ hf⟩
 exact ⟨z,us,r,⟨_,Heap.get?_push_size _ rfl,rfl,_,rfl⟩⟩
theorem qau (h:PA X es t):PE X (.List es pos) (tLst t):=by
 intro pins s σ H Q I hq
 refine wpAny_List_spliced (thn (h pos pins s σ H _ I hq) fun us s1 ⟨xs,H1,I1,r,z,q⟩=>⟨by rw[← r.length];exact z,?_⟩)
 have hf:H1 s1.heap.objs.size=none:=I1.hok.fresh (Nat.le_refl _)
 refine ⟨.ref s1.heap.objs.size,upd H1 s1.heap.objs.size (.lst xs),I1.laid (t':=s1.toks) (fun b u e=>Heap.get?_push_of_some _ e) (Nat.le_refl _) ?_,rfl,q _ hf⟩
 exact ⟨z,us,0,r,Heap.get?_push_size _ rfl⟩
end
abbrev Sp:=List V→Hp→VK→XK→Prop
abbrev CXT:=List Env→Hp→Shared→XK→Value→Shared→Prop
structure Env0 (P:Program) (w:World) (K:PySem.W.Frag) (mg:Str→Option Value) (base:Heap) (A:Around) (outer:List Env) (s:Shared) (H:Hp):Prop where
 frames:A.frames=some outer
 mod:Mod K mg base
 bs:∀ b o,base.get? b=some o→s.heap.get? b=some o∧H b=none
 bsz:base.objs.size≤s.heap.objs.size
 funs:s.heap.FunFrames base outer
 frf:∀ b∈frs outer,H b=none
 hok:HOk P w H s.heap
 bare:AllBare s.gens
def CE (outer:List Env) (P:Program) (w:World) (H:Hp) (s:Shared) (Q:VK) (u:Value) (s':Shared):Prop:=
 ∃ v H',s'.os=s.os∧AllBare s'.gens∧Un (frs outer) [] H H' s.heap s'.heap∧HOk P w H' s'.heap∧RelV v u∧Q v H'
def CR (CX:CXT) (outer:List Env) (P:Program) (w:World) (H:Hp) (s:Shared) (Q:VK) (E:XK) (r:Result) (s':Shared):Prop:=
 match r with
 | .ok (.ret u)=>CE outer P w H s Q u s'
 | .ok _=>False
 | .error e=>CX outer H s E e s'
structure FnOk (P:Program) (w:World) (K:PySem.W.Frag) (mg:Str→Option Value) (base:Heap) (CX:CXT) (k:Nat) (f:Addr) (fd:FuncData) (ps:List Str) (sp:Sp):Prop where
 len:∀ vs H Q E,sp vs H Q E→vs.length=ps.length
 run:∀ (A:Around) (outer:List Env) (s:Shared) (H:Hp) (args:Args) (us:List Value) (vs:List V) (Q:VK) (E:XK),Room k A→Env0 P w K mg base A outer s H→BindsTo s fd args (ps.zip us)→Vals vs us→sp vs H Q E→
  codeAny (model P w) A (.call (.ref f) args) (CR CX outer P w H s Q E) s
theorem Env0.make {P:Program}{w:World}{K:PySem.W.Frag}{mg:Str→Option Value}{base:Heap}{A:Around}{outer:List Env}{s:Shared}{H:Hp} (e:Env0 P w K mg base A outer s H) (C:Addr) (us:List Value) (kw:List (Str×Value)) :
  Env0 P w K mg base (A.under (.builtin "type.__call__" ⟨.ref C::us,kw⟩)) outer s H:=⟨by first|exact e.frames|(simpa [Around.under,Code.envs,Code.isFrame,pushEnvs] using e.frames),e.mod,e.bs,e.bsz,e.funs,e.frf,e.hok,e.bare⟩
section
variable {X:Cx}{pins:List (Addr×Obj)}{σ:St}{H:Hp}{s s':Shared}
theorem Inv.env0 (I:Inv X pins σ H s):Env0 X.prog X.w X.K X.mg X.base X.A X.stack s H:=
 ⟨I.ok.frames,I.ok.mod,I.bs,Nat.le_trans I.ok.bsz I.sz,I.stack,I.stkFree,I.hok,I.bare⟩
theorem Inv.after {Q:VK}{u:Value} (I:Inv X pins σ H s) (h:CE X.stack X.prog X.w H s Q u s'):EP X pins σ Q u s':=by
 obtain ⟨v,H',os,bare,un,hok,r,q⟩:=h
 obtain ⟨hh,g,d,t,os'⟩:=s'
 obtain rfl:os'=s.os:=os
 exact ⟨v,H',I.call (h':=hh) (g':=g) (d':=d) (t':=t) (ch:=[]) un hok bare (fun b z=>absurd z (by simp)),r,q⟩
end
def tCall (sp:Sp) (dvs:List V) (E:XK) (t:TA):TE:=fun σ H Q=>t σ H fun vs H1=>sp (vs++dvs) H1 Q E
def tMeth (C:Addr) (m:Str) (sp:Sp) (dvs:List V) (E:XK) (ta:TE) (t:TA):TE:=fun σ H Q=>ta σ H fun x H1=>∃ a dx fs,x=.ref a∧H1 a=some (.ins C dx fs)∧fs.lookup m=none∧
 t σ H1 fun vs H2=>sp (x::(vs++dvs)) H2 Q E
def tMake (C:Addr) (sp:Sp) (dvs:List V) (E:XK) (t:TA):TE:=fun σ H Q=>t σ H fun vs H1=>∀ x dx,H1 x=none→H1 dx=none→dx≠x→
 sp (.ref x::(vs++dvs)) (upd (upd H1 dx (.own x)) x (.ins C dx [])) (fun v H2=>v=.non∧Q (.ref x) H2) E
def yel (K:PySem.W.Frag) (fd:FuncData) (ps:List Str) (ds:List Value):Prop:=
 ∀ (s:Shared) (us:List Value),K.In s.heap→(us++ds).length=ps.length→BindsTo s fd ⟨us,[]⟩ (ps.zip (us++ds))
theorem yel.all {K:PySem.W.Frag}{fd:FuncData}{ps:List Str} (h:∀ us:List Value,us.length=ps.length→bindArgs fd ⟨us,[]⟩=pure (ps.zip us)):yel K fd ps []:=fun s us _ hl=>by
 rw[List.append_nil] at hl ⊢
 exact .of_eq (h us hl)
def qgc (CX:CXT) (X:Cx) (E:XK):Prop:=∀ (pins:List (Addr×Obj)) (σ:St) (H:Hp) (s:Shared) (e:Value) (s':Shared),Inv X pins σ H s→CX X.stack H s E e s'→X.xe e s'
section
variable {X:Cx}{CX:CXT}{k:Nat}{f C:Addr}{fd:FuncData}{ps:List Str}{sp:Sp}{dvs:List V}{ds:List Value}{E:XK}{x m:Str}{p pos apos:Pos}{e o:Expr}{es:List Expr}{ta:TE}{t:TA}
theorem yl6 {pins:List (Addr×Obj)}{σ:St}{H:Hp}{s:Shared}{Q:VK}{us:List Value}{vs:List V} (F:FnOk X.prog X.w X.K X.mg X.base CX k f fd ps sp) (hr:Room k X.A) (hb:yel X.K fd ps ds) (hd:Vals dvs ds) (hx:qgc CX X E)
  (I:Inv X pins σ H s) (r:Vals vs us) (h:sp (vs++dvs) H Q E):wpAny (model X.prog X.w) X.A (call (.ref f) us) (EP X pins σ Q) X.xe s:=by
 have r2:Vals (vs++dvs) (us++ds):=r.append hd
 have hl:(us++ds).length=ps.length:=by rw[← r2.length];exact F.len _ _ _ _ h
 refine wpAny_call (codeAny_mono (F.run X.A X.stack s H ⟨us,[]⟩ (us++ds) (vs++dvs) Q E hr I.env0 (hb s us I.kIn hl) r2 h) fun r s' hq=>?_)
 cases r with
 | error e=>exact hx pins σ H s e s' I hq
 | ok fl=>
  cases fl with
  | ret u=>exact I.after hq
  | next=>exact False.elim hq
  | brk=>exact False.elim hq
  | cont=>exact False.elim hq
theorem pe_call (F:FnOk X.prog X.w X.K X.mg X.base CX k f fd ps sp) (hr:Room k X.A) (hg:Gl X x) (hm:X.mg x=some (.ref f)) (hk:PySem.W.keepIn X.K (.ref f)=true) (hb:yel X.K fd ps ds) (hd:Vals dvs ds) (hx:qgc CX X E)
  (ha:PA X (e::es) t) (hdb:(x == ("__debug__" : Str))=false:=by decide) (he:starEach (e::es) X.env=(false,eval e X.env)::starEach es X.env:=by rfl) (hpl:(backTo pos (starEach es X.env)).any (·.1)=false:=by rfl) :
  PE X (.Call (.Name x p) (e::es) [] pos) (tCall sp dvs E t):=by
 intro pins s σ H Q I h
 refine wpAny_Call_Name_kw (yi1 I hg hm ?_ hdb)
 refine PySem.W.callWith_K (h₀:=X.base) I.ok.mod.kin hk (thn (ha pos pins s σ H _ I h) fun us s1 ⟨vs,H1,I1,r,q⟩=>⟨I1.kIn,?_⟩) he hpl
 exact yl6 F hr hb hd hx I1 r q
theorem pe_meth {pl:Sem Bool} (he:PE X o ta) (c:Cls X.K C) (hm:Meth X.K C m f) (F:FnOk X.prog X.w X.K X.mg X.base CX k f fd ps sp) (hr:Room k X.A) (hb:yel X.K fd ps ds) (hd:Vals dvs ds) (hx:qgc CX X E) (ha:PA X (e::es) t)
  (hst:starEach (e::es) X.env=(false,eval e X.env)::starEach es X.env:=by rfl) (hpl:(backTo pos (starEach es X.env)).any (·.1)=false:=by rfl)
  (ht:eval (.Call (.Attribute o m apos) (e::es) [] pos) X.env=(do
   let ov ← eval o X.env
   standAt apos.atName
   let (f,first) ← holding [ov] (getMethod ov m pl)
   callWith pos f first (backTo pos (starEach (e::es) X.env)) (backToKw pos (keywordEach [] X.env))):=by rfl) :
  PE X (.Call (.Attribute o m apos) (e::es) [] pos) (tMeth C m sp dvs E ta t):=by
 intro pins s σ H Q I h
 refine PySem.W.methodCall_KW (pl:=pl) (thn (he pins s σ H _ I h) fun u s1 ⟨x,H1,I1,rx,a,dx,fs,ex,ea,l,q⟩=>?_) ht
 subst ex
 obtain rfl:u=Value.ref a:=rx
 refine ygt I1 ea c hm l ?_
 refine PySem.W.callWith_K (first:=[.ref a]) (h₀:=X.base) I.ok.mod.kin hm.kp (thn (ha pos pins s1 σ H1 _ I1 q) fun us s2 ⟨vs,H2,I2,r,q2⟩=>⟨I2.kIn,?_⟩) hst hpl
 exact yl6 (us:=.ref a::us) (vs:=.ref a::vs) F hr hb hd hx I2 (.cons rfl r) q2
theorem pe_meth0 {pl:Sem Bool} (he:PE X o ta) (c:Cls X.K C) (hm:Meth X.K C m f) (F:FnOk X.prog X.w X.K X.mg X.base CX k f fd ps sp) (hr:Room k X.A) (hb:yel X.K fd ps ds) (hd:Vals dvs ds) (hx:qgc CX X E)
  (ht:eval (.Call (.Attribute o m apos) [] [] pos) X.env=(do
   let ov ← eval o X.env
   standAt apos.atName
   let (f,first) ← holding [ov] (getMethod ov m pl)
   callWith pos f first (backTo pos (starEach [] X.env)) (backToKw pos (keywordEach [] X.env))):=by rfl) :
  PE X (.Call (.Attribute o m apos) [] [] pos) (tMeth C m sp dvs E ta tNil):=by
 intro pins s σ H Q I h
 refine PySem.W.methodCall_KW (pl:=pl) (thn (he pins s σ H _ I h) fun u s1 ⟨x,H1,I1,rx,a,dx,fs,ex,ea,l,q⟩=>?_) ht
 subst ex
 obtain rfl:u=Value.ref a:=rx
 refine ygt I1 ea c hm l ?_
 exact PySem.W.callWith_K0 (first:=[.ref a]) I1.kIn hm.kp (yl6 (us:=[.ref a]) (vs:=[.ref a]) F hr hb hd hx I1 (.cons rfl .nil) q)
structure Mk (K:PySem.W.Frag) (C f:Addr):Prop where
 makes:PySem.W.makesIn K C=true
 init:PySem.W.findIn K (.ref C) "__init__" = some (some (.ref f))
 fn:PySem.W.isFn K (.ref f)=true
 kp:PySem.W.keepIn K (.ref C)=true
theorem run_make {pins:List (Addr×Obj)}{σ:St}{H:Hp}{s:Shared}{Q:VK}{us:List Value}{vs:List V} (M:Mk X.K C f) (F:FnOk X.prog X.w X.K X.mg X.base CX k f fd ps sp) (hr:Room (k+1) X.A) (hb:yel X.K fd ps ds) (hd:Vals dvs ds)
  (hx:qgc CX X E) (I:Inv X pins σ H s) (r:Vals vs us)
  (h:∀ x dx,H x=none→H dx=none→dx≠x→sp (.ref x::(vs++dvs)) (upd (upd H dx (.own x)) x (.ins C dx [])) (fun v H2=>v=.non∧Q (.ref x) H2) E) :
  wpAny (model X.prog X.w) X.A (call (.ref C) us) (EP X pins σ Q) X.xe s:=by
 have hq:=h (s.heap.objs.size+1) s.heap.objs.size (I.hok.fresh (Nat.le_succ _)) (I.hok.fresh (Nat.le_refl _)) (Nat.ne_of_lt (Nat.lt_succ_self _))
 have I2:=Inv.made (C:=C) I
 have r2:Vals (V.ref (s.heap.objs.size+1)::(vs++dvs)) (Value.ref (s.heap.objs.size+1)::(us++ds)):=.cons rfl (r.append hd)
 have hl:(Value.ref (s.heap.objs.size+1)::us++ds).length=ps.length:=by
  have e:=r2.length
  rw[F.len _ _ _ _ hq] at e
  exact e.symm
 refine wpAny_call (make_map (f:=f) I.kIn M.makes M.init (beq_iff_eq.mp M.fn) (codeAny_mono (F.run _ X.stack _ _ ⟨Value.ref (s.heap.objs.size+1)::us,[]⟩ (Value.ref (s.heap.objs.size+1)::(us++ds)) _ _ E (hr.make C us [])
  (I2.env0.make C us []) (hb _ (Value.ref (s.heap.objs.size+1)::us) I2.kIn hl) r2 hq) fun r s' hq'=>?_))
 cases r with
 | error e=>exact hx pins σ _ _ e s' I2 hq'
 | ok fl=>
  cases fl with
  | ret u=>
   obtain ⟨v,H',I3,rv,ev,q3⟩:=I2.after hq'
   subst ev
   exact ⟨rv,⟨V.ref (s.heap.objs.size+1),H',I3,rfl,q3⟩⟩
  | next=>exact False.elim hq'
  | brk=>exact False.elim hq'
  | cont=>exact False.elim hq'
theorem pe_make (M:Mk X.K C f) (F:FnOk X.prog X.w X.K X.mg X.base CX k f fd ps sp) (hr:Room (k+1) X.A) (hg:Gl X x) (hm:X.mg x=some (.ref C)) (hb:yel X.K fd ps ds) (hd:Vals dvs ds) (hx:qgc CX X E)
  (ha:PA X (e::es) t) (hdb:(x == ("__debug__" : Str))=false:=by decide) (he:starEach (e::es) X.env=(false,eval e X.env)::starEach es X.env:=by rfl) (hpl:(backTo pos (starEach es X.env)).any (·.1)=false:=by rfl) :
  PE X (.Call (.Name x p) (e::es) [] pos) (tMake C sp dvs E t):=by
 intro pins s σ H Q I h
 refine wpAny_Call_Name_kw (yi1 I hg hm ?_ hdb)
 refine PySem.W.callWith_K (h₀:=X.base) I.ok.mod.kin M.kp (thn (ha pos pins s σ H _ I h) fun us s1 ⟨vs,H1,I1,r,q⟩=>⟨I1.kIn,?_⟩) he hpl
 exact run_make M F hr hb hd hx I1 r q
end
structure FnScope (N P:List Str) (sc:Scope):Prop where
 kind:sc.kind=.function
 co:sc.isCoroutine=false
 gen:sc.isGenerator=false
 nd:N.Nodup
 pre:N.take P.length=P
 par:∀ x∈P,sc.names.lookup x=some .local∨sc.names.lookup x=some .cell
 nofree:∀ y∈sc.names,y.2≠.free
theorem qid {kindOf:Str→Option NameKind}{x:Str}:∀ {binds:List (Str×Value)}{m:Str→Option Value},(∀ v,(x,v)∉binds)→bindL kindOf binds m x=m x
 | [],_,_=>rfl
 | (n,v)::r,m,h=>by
  unfold bindL
  rw[qid fun w hw=>h w (List.mem_cons_of_mem _ hw)]
  split
  ·have:x≠n:=by rintro rfl;exact h v List.mem_cons_self
   simp[this]
  ·rfl
theorem qhu {kindOf:Str→Option NameKind}{x:Str}:∀ {binds:List (Str×Value)}{m:Str→Option Value},(∀ v,(x,v)∉binds)→bindC kindOf binds m x=m x
 | [],_,_=>rfl
 | (n,v)::r,m,h=>by
  unfold bindC
  rw[qhu fun w hw=>h w (List.mem_cons_of_mem _ hw)]
  split
  ·rfl
  ·have:x≠n:=by rintro rfl;exact h v List.mem_cons_self
   simp[this]
theorem yh0 {kindOf:Str→Option NameKind}{x:Str}{v:Value}:∀ {P:List Str}{vs:List Value}{i:Nat}{m:Str→Option Value},P.Nodup→P[i]?=some x→vs[i]?=some v→kindOf x=some .local→
  bindL kindOf (P.zip vs) m x=some v
 | [],_,_,_,_,h,_,_=>by simp at h
 | _::_,[],_,_,_,_,h,_=>by simp at h
 | p::P,w::vs,0,m,nd,h1,h2,hk=>by
  simp at h1 h2;subst h1;subst h2
  show bindL kindOf ((p,w)::P.zip vs) m p=_
  unfold bindL
  rw[qid fun v hv=>(List.nodup_cons.mp nd).1 (List.of_mem_zip hv).1,if_pos hk]
  simp
 | p::P,w::vs,i+1,m,nd,h1,h2,hk=>by
  show bindL kindOf ((p,w)::P.zip vs) m x=_
  unfold bindL
  exact yh0 (i:=i) (List.nodup_cons.mp nd).2 (by simpa using h1) (by simpa using h2) hk
theorem qip {kindOf:Str→Option NameKind}{x:Str}{v:Value}:∀ {P:List Str}{vs:List Value}{i:Nat}{m:Str→Option Value},P.Nodup→P[i]?=some x→vs[i]?=some v→kindOf x≠some .local→
  bindC kindOf (P.zip vs) m x=some v
 | [],_,_,_,_,h,_,_=>by simp at h
 | _::_,[],_,_,_,_,h,_=>by simp at h
 | p::P,w::vs,0,m,nd,h1,h2,hk=>by
  simp at h1 h2;subst h1;subst h2
  show bindC kindOf ((p,w)::P.zip vs) m p=_
  unfold bindC
  rw[qhu fun v hv=>(List.nodup_cons.mp nd).1 (List.of_mem_zip hv).1,if_neg hk]
  simp
 | p::P,w::vs,i+1,m,nd,h1,h2,hk=>by
  show bindC kindOf ((p,w)::P.zip vs) m x=_
  unfold bindC
  exact qip (i:=i) (List.nodup_cons.mp nd).2 (by simpa using h1) (by simpa using h2) hk
def qfg (N:List Str) (vs:List V):St:=vs.map some++List.replicate (N.length-vs.length) none
def cxOf (CX:CXT) (P:Program) (w:World) (K:PySem.W.Frag) (mg:Str→Option Value) (base:Heap) (N:List Str) (qual:Str) (scope:Scope) (f:Addr) (cd:Value) (A:Around) (outer:List Env) (s:Shared) (H:Hp) (E:XK):Cx where
 prog:=P
 w:=w
 K:=K
 mg:=mg
 base:=base
 A:=A.deeper (envOfC qual scope s.heap.objs.size f cd)
 N:=N
 s₀:=s
 H₀:=H
 env:=envOfC qual scope s.heap.objs.size f cd
 outer:=outer
 stack:=envOfC qual scope s.heap.objs.size f cd::outer
 ex:=[]
 calm:=true
 fn:=fun _=>true
 pn:=[]
 xe:=fun e s'=>wpAny (model P w) (A.deeper (envOfC qual scope s.heap.objs.size f cd)) (leaving (envOfC qual scope s.heap.objs.size f cd) e) (fun _ s''=>CX outer H s E e s'') (fun e' s''=>CX outer H s E e' s'') s'
theorem yjz {sc:Scope}{n:Nat}{x:Str} (h:sc.names.lookup x=some .cell):∃ c,(cellsFrom n sc.names []).lookup x=some c:=by
 have q:=PySem.W.cellsFrom_some sc.names n [] (.inl h)
 exact Option.isSome_iff_exists.mp q
theorem qls {CX:CXT}{P:Program}{w:World}{K:PySem.W.Frag}{mg:Str→Option Value}{base:Heap}{N ps:List Str}{qual:Str}{scope:Scope}{f:Addr}{cd:Value}{A:Around}{outer:List Env}{s s1:Shared}{H:Hp}{E:XK}{us:List Value}{vs:List V}
  (S:FnScope N ps scope) (hd:A.handled=none) (e0:Env0 P w K mg base A outer s H) (hl:vs.length=ps.length) (r:Vals vs us)
  (x:InCallC s s.heap.objs.size (bindL (envOfC qual scope s.heap.objs.size f cd).kindOf (ps.zip us) fun _=>none) (cellsFrom (s.heap.objs.size+1) scope.names []) (bindC (envOfC qual scope s.heap.objs.size f cd).kindOf (ps.zip us) fun _=>none) s1) :
  Inv (cxOf CX P w K mg base N qual scope f cd A outer s H E) [] (qfg N vs) H s1:=by
 have hpl:ps.length≤N.length:=by have:=congrArg List.length S.pre;rw[List.length_take] at this;omega
 obtain ⟨h1,tk,rfl,hk⟩:=x.done
 have noA:∀ b:Addr,b∉(cxOf CX P w K mg base N qual scope f cd A outer s H E).ex:=fun b z=>absurd (show b∈([]:List Addr) from z) (by simp)
 refine ⟨⟨e0.mod,S.kind,rfl,rfl,Nat.le_refl _,fun y z c h1 h2=>?_,fun y hy=>?_,fun y c _ h=>?_,fun _=>hd,Around.frames_deeper e0.frames,.inr ⟨rfl,rfl⟩,fun b z=>absurd z (noA b),e0.bs,e0.bsz,fun b _ _=>noA b,fun b z=>absurd z (noA b),e0.funs,e0.frf⟩,
  rfl,e0.bare,Un.kept hk,⟨_,x.toInCall.ns,fun i y v h1 h2 h3=>?_⟩,fun y c h=>⟨_,x.cell y c h⟩,e0.hok.fresh (Nat.le_refl _),fun y c h=>?_,fun p hp=>absurd (show p∈([]:List (Addr×Obj)) from hp) (by simp),e0.hok.kept hk,?_⟩
 ·exact name_of_addr x.apart (PySem.mem_of_lookup h1) (PySem.mem_of_lookup h2)
 ·have hy:scope.names.lookup y=some .cell∨scope.names.lookup y=some .free:=hy
  rcases hy with hy|hy
  ·exact yjz hy
  ·exact absurd rfl (S.nofree _ (PySem.mem_of_lookup hy))
 ·exact Nat.le_of_lt (x.above y c (PySem.mem_of_lookup h))
 ·have hi:i<vs.length:=by
   unfold qfg at h2
   by_cases hi:i<vs.length
   ·exact hi
   ·rw[List.getElem?_append_right (by simpa using hi)] at h2
    rw[List.getElem?_replicate] at h2
    split at h2<;>cases h2
  have ha:vs[i]?=some v:=by
   unfold qfg at h2
   rw[List.getElem?_append_left (by simpa using hi),List.getElem?_map] at h2
   cases e:vs[i]? with
   | none=>rw[e] at h2;cases h2
   | some a=>rw[e] at h2;cases h2;rfl
  obtain ⟨u,hu,rv⟩:=r.get ha
  have hp:ps[i]?=some y:=by
   rw[← S.pre,List.getElem?_take_of_lt (by omega)];exact h1
  have ndP:ps.Nodup:=by rw[← S.pre];exact S.nd.sublist (List.take_sublist _ _)
  refine ⟨u,rv,?_⟩
  rcases S.par y (List.mem_of_getElem? hp) with k|k
  ·exact .inl ⟨k,yh0 ndP hp hu k⟩
  ·obtain ⟨c,e⟩:=yjz (n:=s.heap.objs.size+1) k
   refine .inr ⟨.inl k,c,e,?_⟩
   have q:=x.cell y c e
   rw[qip ndP hp hu (by show scope.names.lookup y≠_;rw[k];decide)] at q
   exact q
 ·exact e0.hok.fresh (Nat.le_of_lt (x.above y c (PySem.mem_of_lookup h)))
 ·unfold qfg
  show _=N.length
  rw[List.length_append,List.length_map,List.length_replicate]
  omega
theorem fn_of {CX:CXT}{P:Program}{w:World}{K:PySem.W.Frag}{mg:Str→Option Value}{base:Heap}{k:Nat}{f:Addr}{name qual:Str}{params:Arguments}{body:List Stmt}{scope:Scope}{dV kV doc pm cdv ct oc:Value}{an od:Option Addr}
  {osl:Array (Option Value)}{N ps:List Str}{sp:Sp} (lk:K.lookup f=some ⟨oc,od,.func (PySem.W.fnOf name qual params body scope dV kV doc pm an cdv ct),osl⟩) (hcd:PySem.W.codeIn K cdv qual=true) (S:FnScope N ps scope)
  (len:∀ vs H Q E,sp vs H Q E→vs.length=ps.length)
  (hbody:∀ (A:Around) (outer:List Env) (s:Shared) (H:Hp) (vs:List V) (Q:VK) (E:XK),Room k (A.deeper (envOfC qual scope s.heap.objs.size f cdv))→sp vs H Q E→
   ∃ t,PSs (cxOf CX P w K mg base N qual scope f cdv A outer s H E) body t∧t { nx:=fun _ H'=>Q .non H',rt:=Q } (qfg N vs) H) :
  FnOk P w K mg base CX (k+1) f (PySem.W.fnOf name qual params body scope dV kV doc pm an cdv ct) ps sp:=by
 refine ⟨len,fun A outer s H args us vs Q E hr e0 hb r hsp=>?_⟩
 have hl:=len _ _ _ _ hsp
 have KX:K.In s.heap:=e0.mod.kin.keeps fun b o e=>(e0.bs b o e).1
 have lim:s.heap.NoLimit:=e0.mod.nolimit.keeps fun b o e=>(e0.bs b o e).1
 have hkind:∀ y∈ps.zip us,scope.names.lookup y.1=some .local∨(scope.names.lookup y.1=some .cell∧((cellsFrom (s.heap.objs.size+1) scope.names []).lookup y.1).isSome=true):=fun ⟨n,v⟩ hy=>by
  rcases S.par n (List.of_mem_zip hy).1 with q|q
  ·exact .inl q
  ·exact .inr ⟨q,PySem.W.cellsFrom_some _ _ _ (.inl q)⟩
 refine codeAny_call_function hr.depth (KX _ _ lk) rfl S.co S.gen rfl (PySem.W.codeRec_of KX hcd) (hb _ _ _ _ ?_)
 refine wpAny_newFunctionEnv_cells S.kind hkind fun env he s1 x=>?_
 subst he
 refine ⟨lim.keeps x.toInCall.keep,codeAny_func ?_⟩
 obtain ⟨t,ht,hq⟩:=hbody A outer s H vs Q E (hr.deeper _) hsp
 have I:Inv (cxOf CX P w K mg base N qual scope f cdv A outer s H E) [] (qfg N vs) H s1:=qls S hr.hd e0 hl r x
 refine wpAny_mono (ht [] s1 (qfg N vs) H _ I hq) (fun fl s' hs=>?_) fun e s' hs=>hs
 have fin:∀ {σ':St}{H':Hp}{v:V}{u:Value},Inv (cxOf CX P w K mg base N qual scope f cdv A outer s H E) [] σ' H' s'→RelV v u→Q v H'→CE outer P w H s Q u s':=
  fun {σ' H' v u} J rv q=>⟨v,H',J.os,J.bare,J.base,J.hok,rv,q⟩
 cases fl with
 | ret u=>
  obtain ⟨v,σ',H',J,rv,q⟩:=hs
  exact fin J rv q
 | next=>
  obtain ⟨σ',H',J,q⟩:=hs
  exact fin (v:=V.non) (u:=Value.none) J rfl q
 | brk=>
  obtain ⟨_,_,_,q⟩:=hs
  exact False.elim q
 | cont=>
  obtain ⟨_,_,_,q⟩:=hs
  exact False.elim q
section
variable {X:Cx}{x:Str}{p pos:Pos}{e:Expr}{es:List Expr}{t:TA}{id T:String}{r:List V→Hp→VK→Prop}
def tCB (r:List V→Hp→VK→Prop) (t:TA):TE:=fun σ H Q=>t σ H fun vs H1=>r vs H1 Q
theorem yai (hc:yda X (.builtin id) r) (hg:Gl X x) (hm:X.mg x=none) (hv:bootBuiltins x=some (.builtin id)) (ha:PA X (e::es) t) (hn:x≠"__name__":=by decide) (hdb:(x == ("__debug__" : Str))=false:=by decide)
  (he:starEach (e::es) X.env=(false,eval e X.env)::starEach es X.env:=by rfl) (hpl:(backTo pos (starEach es X.env)).any (·.1)=false:=by rfl):PE X (.Call (.Name x p) (e::es) [] pos) (tCB r t):=by
 intro pins s σ H Q I h
 refine wpAny_Call_Name_kw (qdk I hg hm hv ?_ hn hdb)
 exact PyProof.Rows.callWith_builtin1 (thn (ha pos pins s σ H _ I h) fun us s1 ⟨vs,H1,I1,r1,q1⟩=>hc pins s1 σ H1 vs us Q I1 r1 q1) he hpl
theorem qbj (hc:yda X (.type T) r) (hg:Gl X x) (hm:X.mg x=none) (hv:bootBuiltins x=some (.type T)) (ha:PA X (e::es) t) (hn:x≠"__name__":=by decide) (hdb:(x == ("__debug__" : Str))=false:=by decide)
  (he:starEach (e::es) X.env=(false,eval e X.env)::starEach es X.env:=by rfl) (hpl:(backTo pos (starEach es X.env)).any (·.1)=false:=by rfl):PE X (.Call (.Name x p) (e::es) [] pos) (tCB r t):=by
 intro pins s σ H Q I h
 refine wpAny_Call_Name_kw (qdk I hg hm hv ?_ hn hdb)
 exact PyProof.Rows.callWith_type1 (thn (ha pos pins s σ H _ I h) fun us s1 ⟨vs,H1,I1,r1,q1⟩=>hc pins s1 σ H1 vs us Q I1 r1 q1) he hpl
end
end L2
namespace HT
open PySem PyProof.Rows
section
variable {prog:Program}{w:World}{A:Around}{E:Value→Shared→Prop}{s:Shared}
def sIx (n d:Nat):Option Int→Nat
 | none=>d
 | some v=>if v<0 then (v+(n:Int)).toNat else min v.toNat n
theorem sIx_none (n d:Nat):sIx n d none=d:=rfl
theorem sIx_nat (n d k:Nat):sIx n d (some (k:Int))=min k n:=by
 show (if (k:Int)<0 then ((k:Int)+(n:Int)).toNat else min (k:Int).toNat n)=min k n
 rw[if_neg (by omega),Int.toNat_natCast]
theorem sIx_le (n d:Nat) (hd:d≤n) (o:Option Int):sIx n d o≤n:=by
 cases o with
 | none=>exact hd
 | some v=>
  show (if v<0 then (v+(n:Int)).toNat else min v.toNat n)≤n
  by_cases hv:v<0
  ·rw[if_pos hv];omega
  ·rw[if_neg hv];exact Nat.min_le_right _ _
theorem qkr (v:Int) (n d:Nat):(if v<0 then max (v+(n:Int)) 0 else min v (n:Int))=((sIx n d (some v):Nat):Int):=by
 show (if v<0 then max (v+(n:Int)) 0 else min v (n:Int))=(((if v<0 then (v+(n:Int)).toNat else min v.toNat n):Nat):Int)
 by_cases hv:v<0
 ·simp only[if_pos hv];omega
 ·simp only[if_neg hv];omega
theorem ykc (lo hi:Option Int) (n:Nat):Builtin.Slice.sliceAdjust lo hi 1 (n:Int)=(((sIx n 0 lo:Nat):Int),((sIx n n hi:Nat):Int)):=by
 have h1:¬ ((1:Int)<0):=by omega
 unfold Builtin.Slice.sliceAdjust
 simp only[h1,if_false]
 refine Prod.ext ?_ ?_
 ·cases lo with
  | none=>rfl
  | some v=>exact qkr v n 0
 ·cases hi with
  | none=>rfl
  | some v=>exact qkr v n n
theorem yj8 (i j:Nat):Builtin.Slice.slicePlaces (i:Int) (j:Int) 1=j-i:=by
 unfold Builtin.Slice.slicePlaces
 have h1:(1:Int)>0:=by omega
 simp only[h1,if_true,Int.ediv_one]
 split<;>omega
theorem qg5 {v:Value}{o:Option Int}{Q:Option Int→Shared→Prop} (p:IsPart v o) (h:Q o s):wpAny (model prog w) A (Builtin.Slice.slicePartIndex v) Q E s:=by
 cases p with
 | none=>exact slicePart_none h
 | int i t=>exact slicePart_int h
theorem yfe {sl:Addr}{vl vu:Value}{lo hi:Option Int}{n:Nat}{Q:Int×Int×Nat→Shared→Prop} (hs:s.heap.IsSliceOf sl vl vu .none) (pl:IsPart vl lo) (pu:IsPart vu hi)
  (h:Q (((sIx n 0 lo:Nat):Int),1,sIx n n hi-sIx n 0 lo) s):wpAny (model prog w) A (Builtin.Slice.sliceApplied (.ref sl) (pure (n:Int))) Q E s:=by
 obtain ⟨os,hos,hcs,hds⟩:=id hs
 unfold Builtin.Slice.sliceApplied Builtin.Slice.sliceFields
 refine wpAny_bind (wpAny_bind (wpAny_field hos hds (x:=vl) rfl (wpAny_bind (wpAny_field hos hds (x:=vu) rfl (wpAny_bind (wpAny_field hos hds (x:=.none) rfl (wpAny_pure ?_)))))))
 refine wpAny_bind (slicePart_none ?_)
 show wpAny _ _ (if ((1:Int) == 0)=true then _ else _) _ _ s
 rw[if_neg (by decide)]
 refine wpAny_bind (qg5 pl (wpAny_bind (qg5 pu (wpAny_bind (wpAny_pure ?_)))))
 show wpAny _ _ (match Builtin.Slice.sliceAdjust lo hi 1 (n:Int) with|(lo,hi)=>pure (lo,(1:Int),Builtin.Slice.slicePlaces lo hi 1)) _ _ s
 rw[ykc lo hi n]
 show wpAny _ _ (pure (((sIx n 0 lo:Nat):Int),(1:Int),Builtin.Slice.slicePlaces ((sIx n 0 lo:Nat):Int) ((sIx n n hi:Nat):Int) 1)) _ _ s
 rw[yj8]
 exact wpAny_pure h
theorem pick_gen (xs:Array Value) (i k:Nat):((List.range k).filterMap fun (m:Nat)=>xs[((i:Int)+(m:Int)*1).toNat]?).toArray=((xs.toList.drop i).take k).toArray:=by
 have e:(fun (m:Nat)=>xs[((i:Int)+(m:Int)*1).toNat]?)=fun m=>xs[i+m]?:=by
  funext m
  have:((i:Int)+(m:Int)*1).toNat=i+m:=by omega
  rw[this]
 rw[e]
 have:=pick_run xs i k
 rw[List.filterMap_map] at this
 have e2:((fun x=>xs[x]?) ∘ fun x=>i+x)=fun m=>xs[i+m]?:=rfl
 rw[e2] at this
 rw[this]
theorem getItem_tuple_cut {t sl:Addr}{items:Array Value}{vl vu:Value}{lo hi:Option Int}{Q:Value→Shared→Prop} (ht:IsTup s.heap t items) (hs:s.heap.IsSliceOf sl vl vu .none) (pl:IsPart vl lo) (pu:IsPart vu hi)
  (hw:¬ (sIx items.size 0 lo=0∧sIx items.size items.size hi=items.size))
  (h:Q (.ref s.heap.objs.size) { s with heap:=s.heap.push { cls:=.type "tuple",data:=.seq ((items.toList.drop (sIx items.size 0 lo)).take (sIx items.size items.size hi-sIx items.size 0 lo)).toArray } })
  (hsz:items.size≤sizeLine):wpAny (model prog w) A (getItem (.ref t) (.ref sl)) Q E s:=by
 have htake:sizeOk (.seq ((items.toList.drop (sIx items.size 0 lo)).take (sIx items.size items.size hi-sIx items.size 0 lo)).toArray):=by
  show ((items.toList.drop (sIx items.size 0 lo)).take (sIx items.size items.size hi-sIx items.size 0 lo)).toArray.size≤sizeLine
  rw[List.size_toArray,List.length_take,List.length_drop,Array.length_toList]
  omega
 have hj:sIx items.size items.size hi≤items.size:=sIx_le _ _ (Nat.le_refl _) hi
 obtain ⟨os,hos,hcs,hds⟩:=id hs
 have hTs:s.TypeIs (.ref sl) "slice":=⟨os,hos,hcs⟩
 unfold getItem
 try with_reducible refine wpAny_holding ?_
 first|refine wpAny_bind (wpAny_pure ?_)|skip
 refine wpAny_bind (wpAny_sequenceKey ht.typeIs (by decide) ?_)
 refine wpAny_bind (wpAny_callSpecial?_slot (name:=Str.ofString "__getitem__") ht.typeIs PyProof.Rows.slot_tuple_getitem
  (wpAny_call_entry PyProof.Rows.slot_tuple_getitem ht.typeIs entry_tuple_getitem ?_ (args_tuple_getitem _ _)))
 show wpAny _ _ (Builtin.Tuple.tupleItemsOf (.ref t) >>= _) _ _ s
 refine wpAny_bind (tupleItemsOf_ ht ?_)
 refine wpAny_bind (wpAny_typeOf hTs ?_)
 rw[if_pos (by decide)]
 refine wpAny_bind (yfe hs pl pu ?_)
 have hno:¬ ((((sIx items.size 0 lo:Nat):Int) == 0&&(1:Int) == 1&&(sIx items.size items.size hi-sIx items.size 0 lo) == items.size)=true):=by
  intro q
  rw[Bool.and_eq_true,Bool.and_eq_true] at q
  have q1:((sIx items.size 0 lo:Nat):Int)=0:=eq_of_beq q.1.1
  have q2:sIx items.size items.size hi-sIx items.size 0 lo=items.size:=eq_of_beq q.2
  exact hw ⟨by omega,by omega⟩
 show wpAny _ _ (if (((sIx items.size 0 lo:Nat):Int) == 0&&(1:Int) == 1&&(sIx items.size items.size hi-sIx items.size 0 lo) == items.size)=true then _ else _) _ _ s
 rw[if_neg hno,pick_gen]
 first
  | exact wpAny_bind (m:=Builtin.Tuple.tupleExact _) (wpAny_newObj_type (wpAny_pure ⟨_,rfl,wpAny_pure h⟩) htake)
  | exact wpAny_bind (m:=Builtin.Tuple.tupleExact _) (wpAny_newObj_type (wpAny_bind (wpAny_pure (wpAny_pure ⟨_,rfl,wpAny_pure h⟩))) htake)
  | exact wpAny_bind (wpAny_bind (m:=Builtin.Tuple.tupleExact _) (wpAny_newObj_type (wpAny_pure (wpAny_pure ⟨_,rfl,wpAny_pure h⟩)) htake))
  | exact wpAny_bind (wpAny_bind (m:=Builtin.Tuple.tupleExact _) (wpAny_newObj_type (wpAny_pure ⟨_,rfl,wpAny_pure h⟩) htake))
end
end HT
namespace L2
open PySem PySem.Spec PyProof.Rows
abbrev TO:=St→Hp→(Option Int→Hp→Prop)→Prop
def PO (X:Cx) (e:Option Expr) (t:TO):Prop:=
 ∀ (pins:List (Addr×Obj)) (s:Shared) (σ:St) (H:Hp) (Q:Option Int→Hp→Prop),Inv X pins σ H s→t σ H Q→
  wpAny (model X.prog X.w) X.A (evalPart e X.env) (fun u s'=>∃ o H',Inv X pins σ H' s'∧IsPart u o∧Q o H') X.xe s
def tNoPart:TO:=fun _ H Q=>Q none H
def tPart (t:TE):TO:=fun σ H Q=>t σ H fun x H1=>∃ i,x=.int i∧Q (some i) H1
theorem qev {ns:List Int}:∀ {us:List Value},Vals (ns.map V.int) us→IntsAre us ns:=by
 induction ns with
 | nil=>intro us r;rw[List.map_nil] at r;cases r;exact .nil
 | cons n ns ih=>
  intro us r
  rw[List.map_cons] at r
  cases r with
  | cons r1 r2=>
   obtain ⟨t,e⟩:=r1
   subst e
   exact .cons n t (ih r2)
section
variable {X:Cx}{e:Expr}{te:TE}{lo hi:Option Expr}{tl th:TO}{pos p2:Pos}
theorem ycz:PO X none tNoPart:=by
 intro pins s σ H Q I h
 rw[evalPart_none]
 exact wpAny_pure ⟨none,H,I,.none,h⟩
theorem yba (h:PE X e te):PO X (some e) (tPart te):=by
 intro pins s σ H Q I hw
 rw[evalPart_some]
 refine thn (h pins s σ H _ I hw) fun u s1 ⟨x,H1,I1,r1,q1⟩=>?_
 obtain ⟨i,rfl,q⟩:=q1
 obtain ⟨t,rfl⟩:=r1
 exact ⟨some i,H1,I1,.int i t,q⟩
def SlR (X:Cx) (r:V→Option Int→Option Int→Hp→VK→Prop):Prop:=
 ∀ (pins:List (Addr×Obj)) (s:Shared) (σ:St) (H:Hp) (x:V) (v vl vu:Value) (lo hi:Option Int) (sl:Addr) (Q:VK),Inv X pins σ H s→RelV x v→s.heap.IsSliceOf sl vl vu .none→IsPart vl lo→IsPart vu hi→r x lo hi H Q→
  ∃ T id,typeLookup (.type T) "__getitem__" = pure (some (.builtin id))∧s.TypeIs v T∧wpAny (model X.prog X.w) X.A (getItem v (.ref sl)) (EP X pins σ Q) X.xe s
def tSl (r:V→Option Int→Option Int→Hp→VK→Prop) (te:TE) (tl th:TO):TE:=fun σ H Q=>te σ H fun x H1=>tl σ H1 fun l H2=>th σ H2 fun u H3=>r x l u H3 Q
theorem qbb {r:V→Option Int→Option Int→Hp→VK→Prop} (hr:SlR X r) (he:PE X e te) (hl:PO X lo tl) (hu:PO X hi th):PE X (.Subscript e (.Slice lo hi none p2) pos) (tSl r te tl th):=by
 intro pins s σ H Q I h
 refine Subscript_ (thn (he pins s σ H _ I h) fun v s1 ⟨x,H1,I1,r1,q1⟩=>?_)
 refine wpAny_Slice (thn (hl pins s1 σ H1 _ I1 q1) fun vl s2 ⟨l,H2,I2,pl,q2⟩=>thn (hu pins s2 σ H2 _ I2 q2) fun vu s3 ⟨u,H3,I3,pu,q3⟩=>?_)
 rw[evalPart_none]
 refine wpAny_pure ?_
 have I4:Inv X pins σ H3 { s3 with heap:=s3.heap.push { cls:=.type "slice",data:=.fields #[vl,vu,.none] } }:=I3.kept (t':=s3.toks) fun b ob q=>Heap.get?_push_of_some _ q
 obtain ⟨T,id,hT,ht,hg⟩:=hr pins { s3 with heap:=s3.heap.push { cls:=.type "slice",data:=.fields #[vl,vu,.none] } } σ H3 x v vl vu l u s3.heap.objs.size Q I4 r1 (Heap.IsSliceOf.new ..) pl pu q3
 show wpAny (model X.prog X.w) X.A (subscriptTail e (.Slice lo hi none p2) v (.ref s3.heap.objs.size)) (EP X pins σ Q) X.xe { s3 with heap:=s3.heap.push { cls:=.type "slice",data:=.fields #[vl,vu,.none] } }
 exact tail_any (ops:=[.ref s3.heap.objs.size,v]) ht hT hg (by with_unfolding_all rfl)
def cutV (xs:List V) (lo hi:Option Int):List V:=(xs.drop (HT.sIx xs.length 0 lo)).take (HT.sIx xs.length xs.length hi-HT.sIx xs.length 0 lo)
theorem ygf (xs:List V) (lo hi:Option Int):(cutV xs lo hi).length≤xs.length:=by
 unfold cutV
 rw[List.length_take,List.length_drop]
 omega
def rSlT (K:PySem.W.Frag):V→Option Int→Option Int→Hp→VK→Prop:=fun x lo hi H Q=>∃ a xs,x=.ref a∧SqT K H a xs∧
 ¬ (HT.sIx xs.length 0 lo=0∧HT.sIx xs.length xs.length hi=xs.length)∧∀ p,H p=none→Q (.ref p) (upd H p (.tup (cutV xs lo hi)))
theorem qjp:SlR X (rSlT X.K):=by
 intro pins s σ H x v vl vu lo hi sl Q I rx hs pl pu h
 obtain ⟨a,xs,rfl,hx,hw,q⟩:=h
 cases rx
 obtain ⟨its,r,ht,hz⟩:=I.tuple hx
 have hlen:its.toArray.size=xs.length:=by rw[List.size_toArray];exact r.length.symm
 refine ⟨"tuple",_,PyProof.Rows.slot_tuple_getitem.lookup,ht.typeIs,?_⟩
 refine HT.getItem_tuple_cut ht hs pl pu (by rw[hlen];exact hw) ?_ (by rw[hlen];exact hz)
 rw[hlen]
 refine ⟨.ref s.heap.objs.size,_,I.laid (t':=s.toks) (o:=.tup (cutV xs lo hi)) (fun b ob q=>Heap.get?_push_of_some _ q) (Nat.le_refl _) ?_,rfl,q _ (I.hok.fresh (Nat.le_refl _))⟩
 exact ⟨Nat.le_trans (ygf xs lo hi) hz,_,(r.drop (HT.sIx xs.length 0 lo)).take (HT.sIx xs.length xs.length hi-HT.sIx xs.length 0 lo),IsTup.new _ _⟩
end
def ixN (n:Nat) (i:Int):Option Nat:=if 0≤i then (if i<n then some i.toNat else none) else if -(n:Int)≤i then some (i+n).toNat else none
def atI {α:Type} (xs:List α) (i:Int):Option α:=(ixN xs.length i).bind fun j=>xs[j]?
theorem qk7 {n:Nat}{i:Int}{j:Nat} (h:ixN n i=some j):seqIndex? i n=some j∧j<n∧-(n:Int)≤i∧i<n:=by
 unfold ixN at h
 by_cases h0:0≤i
 ·rw[if_pos h0] at h
  by_cases h1:i<n
  ·rw[if_pos h1] at h
   have e:i.toNat=j:=Option.some.inj h
   exact ⟨by rw[seqIndex_of h0 h1,e],by omega,by omega,h1⟩
  ·rw[if_neg h1] at h;cases h
 ·rw[if_neg h0] at h
  by_cases h1:-(n:Int)≤i
  ·rw[if_pos h1] at h
   have e:(i+n).toNat=j:=Option.some.inj h
   exact ⟨by rw[seqIndex_neg (by omega) h1,e],by omega,h1,by omega⟩
  ·rw[if_neg h1] at h;cases h
theorem yma {α:Type}{xs:List α}{i:Int}{v:α} (h:atI xs i=some v):∃ j,seqIndex? i xs.length=some j∧xs[j]?=some v∧j<xs.length∧-(xs.length:Int)≤i∧i<xs.length:=by
 unfold atI at h
 cases e:ixN xs.length i with
 | none=>rw[e] at h;cases h
 | some j=>
  rw[e] at h
  obtain ⟨h1,h2,h3,h4⟩:=qk7 e
  exact ⟨j,h1,h,h2,h3,h4⟩
theorem yck {α:Type}{xs:List α}{j:Nat}{v:α} (h:xs[j]?=some v):atI xs (j:Int)=some v:=by
 have hj:j<xs.length:=(List.getElem?_eq_some_iff.mp h).1
 have e:ixN xs.length (j:Int)=some j:=by
  unfold ixN
  rw[if_pos (by omega),if_pos (by omega)];simp
 unfold atI;rw[e];exact h
theorem yhr {α:Type} (xs:List α) (v:α):atI (xs++[v]) (-1)=some v:=by
 have hl:(xs++[v]).length=xs.length+1:=by simp
 have e:ixN (xs++[v]).length (-1)=some xs.length:=by
  unfold ixN
  rw[hl,if_neg (by decide),if_pos (by omega)]
  congr 1
  omega
 unfold atI
 rw[e]
 show (xs++[v])[xs.length]?=some v
 simp
def qlj (b:Expr):Prop:=∀ o i,subscripted b false o i=operate [o,i] (getItem o i)
def IxR (X:Cx) (r:R2):Prop:=
 ∀ (value slice:Expr) (pins:List (Addr×Obj)) (s:Shared) (σ:St) (H:Hp) (x y:V) (v u:Value) (Q:VK),Inv X pins σ H s→RelV x v→RelV y u→r x y H Q→
  subscripted slice false v u=operate [v,u] (getItem v u)→wpAny (model X.prog X.w) X.A (subscriptTail value slice v u) (EP X pins σ Q) X.xe s
def MtR (X:Cx) (id:String) (r:V→List V→Hp→VK→Prop):Prop:=
 ∀ (pins:List (Addr×Obj)) (s:Shared) (σ:St) (H:Hp) (x:V) (xs:List V) (v:Value) (us:List Value) (Q:VK),Inv X pins σ H s→RelV x v→Vals xs us→r x xs H Q→
  wpAny (model X.prog X.w) X.A (call (.builtin id) (v::us)) (EP X pins σ Q) X.xe s
section
variable {X:Cx}{a b:Expr}{ta tb:TE}{pos:Pos}
theorem qah {r:R2} (hr:IxR X r) (ha:PE X a ta) (hb:PE X b tb) (hs:qlj b):PE X (.Subscript a b pos) (tOp r ta tb):=by
 intro pins s σ H Q I h
 exact Subscript_ (binT ha hb I h fun v u s2 x y H2 I2 rx ry q=>hr a b pins s2 σ H2 x y v u Q I2 rx ry q (hs _ _))
def rIxL (K:PySem.W.Frag):R2:=fun x y H Q=>∃ p xs i v,x=.ref p∧y=.int i∧SqL K H p xs∧atI xs i=some v∧Q v H
def rIxT (K:PySem.W.Frag):R2:=fun x y H Q=>∃ p xs i v,x=.ref p∧y=.int i∧SqT K H p xs∧atI xs i=some v∧Q v H
theorem qaj:IxR X (rIxL X.K):=by
 intro value slice pins s σ H x y v u Q I rx ry h hs
 obtain ⟨p,xs,i,z,rfl,rfl,hq,he,q⟩:=h
 cases rx
 obtain ⟨t,rfl⟩:=ry
 obtain ⟨its,r,pl,hz⟩:=I.list hq
 obtain ⟨j,h1,h2,h3,h4,h5⟩:=yma he
 obtain ⟨w,ew,rw'⟩:=r.get h2
 have hl:=r.length
 have hn:=qjx
 have fin:EP X pins σ Q w s:=⟨z,H,I,rw',q⟩
 by_cases h0:0≤i
 ·have hj:i.toNat=j:=by
   rw[seqIndex_of h0 h5] at h1
   exact Option.some.inj h1
  exact item_listR pl.isList h0 (by omega) (by rw[hj];simpa using ew) fin hs
 ·have hj:(i+(its.toArray.size:Int)).toNat=j:=by
   rw[seqIndex_neg (by omega) h4] at h1
   rw[List.size_toArray,← hl]
   exact Option.some.inj h1
  exact subscriptTail_builtinR (x:=w) pl.isList.typeIs slot_list_getitem.lookup
   (wpAny_getItem_list_neg (Q:=fun r s'=>r=w∧EP X pins σ Q r s') pl.isList (by omega) (by rw[List.size_toArray]<;>omega) (by omega) (by rw[hj];simpa using ew) ⟨rfl,fin⟩) hs
theorem qak:IxR X (rIxT X.K):=by
 intro value slice pins s σ H x y v u Q I rx ry h hs
 obtain ⟨p,xs,i,z,rfl,rfl,hq,he,q⟩:=h
 cases rx
 obtain ⟨t,rfl⟩:=ry
 obtain ⟨its,r,pl,hz⟩:=I.tuple hq
 obtain ⟨j,h1,h2,h3,h4,h5⟩:=yma he
 obtain ⟨w,ew,rw'⟩:=r.get h2
 have hl:=r.length
 have hn:=qjx
 have fin:EP X pins σ Q w s:=⟨z,H,I,rw',q⟩
 exact subscriptTail_builtinR (x:=w) pl.typeIs slot_tuple_getitem.lookup
  (getItem_tuple (j:=j) (Q:=fun r s'=>r=w∧EP X pins σ Q r s') pl (by omega) (by omega) (by rw[List.size_toArray,← hl];exact h1) (by simpa using ew) ⟨rfl,fin⟩) hs
theorem yki (its:List Value) (n j:Nat) (u:Value):Obj.mapSeq (·.setIfInBounds j u) { cls:=.type "list",data:=.seq its.toArray n }={ cls:=.type "list",data:=.seq (its.set j u).toArray n }:=by
 simp[Obj.mapSeq]
theorem Inv.lst {pins:List (Addr×Obj)}{σ:St}{H:Hp}{s:Shared}{p:Addr}{xs:List V} (I:Inv X pins σ H s) (h:H p=some (.lst xs)) :
  ∃ (its:List Value) (n:Nat),Vals xs its∧s.heap.get? p=some { cls:=.type "list",data:=.seq its.toArray n }∧xs.length≤sizeLine:=by
 obtain ⟨z,its,n,r,e⟩:=I.hok p _ h
 exact ⟨its,n,r,e,z⟩
theorem Inv.lstUpd {pins:List (Addr×Obj)}{σ:St}{H:Hp}{s:Shared}{p:Addr}{xs ys:List V}{its its':List Value}{n n':Nat}{f:Obj→Obj} (I:Inv X pins σ H s) (h:H p=some (.lst xs))
  (ho:s.heap.get? p=some { cls:=.type "list",data:=.seq its.toArray n }) (hf:f { cls:=.type "list",data:=.seq its.toArray n }={ cls:=.type "list",data:=.seq its'.toArray n' }) (r:Vals ys its') (hz:ys.length≤sizeLine) (t:Nat) :
  Inv X pins σ (upd H p (.lst ys)) { s with heap:=s.heap.update p f,toks:=t }:=by
 have e:(s.heap.update p f).get? p=some { cls:=.type "list",data:=.seq its'.toArray n' }:=by
  rw[Heap.get?_update_self f ho (by rw[hf]<;>rfl),hf]
 refine I.write (x:=p) (e:=p) (by rw[h];trivial) (.inl rfl) (fun b u hb q=>(Heap.get?_update_other _ _ (Ne.symm hb)).trans q) ⟨_,e⟩ ?_
 exact ⟨hz,its',n',r,e⟩
def rSetL:V→V→V→Hp→(Hp→Prop)→Prop:=fun o i v H Q=>∃ p xs k j,o=.ref p∧i=.int k∧H p=some (.lst xs)∧ixN xs.length k=some j∧Q (upd H p (.lst (xs.set j v)))
theorem qhk:PSet X rSetL:=by
 intro pins s σ H o i v ov iv u Q I ro ri rv h
 obtain ⟨p,xs,k,j,rfl,rfl,hp,hj,q⟩:=h
 cases ro
 obtain ⟨t,rfl⟩:=ri
 obtain ⟨its,n,r,ho,hz⟩:=I.lst hp
 obtain ⟨h1,h2,h3,h4⟩:=qk7 hj
 have hl:=r.length
 have hn:=qjx
 have I':Inv X pins σ (upd H p (.lst (xs.set j v))) { s with heap:=s.heap.update p (Obj.mapSeq (·.setIfInBounds j u)) }:=
  I.lstUpd hp ho (yki its n j u) (r.set rv j) (by rw[List.length_set];exact hz) s.toks
 by_cases h0:0≤k
 ·have hk:k.toNat=j:=by
   rw[seqIndex_of h0 h4] at h1
   exact Option.some.inj h1
  exact PySem.W.ki_setAt ho h0 (by omega) (by rw[List.size_toArray,← hl];exact h4) (by rw[hk];exact ⟨_,I',q⟩)
 ·have hk:(k+(its.toArray.size:Int)).toNat=j:=by
   rw[seqIndex_neg (by omega) h3] at h1
   rw[List.size_toArray,← hl]
   exact Option.some.inj h1
  exact PySem.W.ki_setBack ho (by omega) (by rw[List.size_toArray,← hl];exact h3) (by omega) (by rw[hk];exact ⟨_,I',q⟩)
theorem qh4 (lo hi:Option Int) (n:Nat):(sliceBounds lo hi none n).1=((HT.sIx n 0 lo:Nat):Int)∧(sliceBounds lo hi none n).2.1=((HT.sIx n n hi:Nat):Int)∧(sliceBounds lo hi none n).2.2=1:=by
 refine ⟨?_,?_,rfl⟩
 ·cases lo with
  | none=>simp[sliceBounds,HT.sIx]
  | some i=>
   simp only[sliceBounds,HT.sIx,Option.getD_none,show (1:Int)>0 by decide,if_true]
   by_cases h:i<0
   ·simp only[h,if_true]<;>omega
   ·simp only[h,if_false]<;>omega
 ·cases hi with
  | none=>simp[sliceBounds,HT.sIx]
  | some i=>
   simp only[sliceBounds,HT.sIx,Option.getD_none,show (1:Int)>0 by decide,if_true]
   by_cases h:i<0
   ·simp only[h,if_true]<;>omega
   ·simp only[h,if_false]<;>omega
theorem qhd (its:List Value) (lo hi:Option Int):slicePick its.toArray lo hi none=((its.drop (HT.sIx its.length 0 lo)).take (HT.sIx its.length its.length hi-HT.sIx its.length 0 lo)).toArray:=by
 obtain ⟨h1,h2,h3⟩:=qh4 lo hi its.toArray.size
 unfold slicePick
 rw[h1,h2,h3]
 simp only[sliceRange_one,pick_run,List.size_toArray]<;>rfl
def rSlL (K:PySem.W.Frag):V→Option Int→Option Int→Hp→VK→Prop:=fun x lo hi H Q=>∃ a xs,x=.ref a∧SqL K H a xs∧∀ p,H p=none→Q (.ref p) (upd H p (.lst (cutV xs lo hi)))
theorem qdh:SlR X (rSlL X.K):=by
 intro pins s σ H x v vl vu lo hi sl Q I rx hs pl pu h
 obtain ⟨a,xs,rfl,hx,q⟩:=h
 cases rx
 obtain ⟨its,r,ht,hz⟩:=I.list hx
 have hlen:=r.length
 refine ⟨"list",_,slot_list_getitem.lookup,ht.isList.typeIs,?_⟩
 refine wpAny_getItem_list_slice ht.isList hs pl pu .none (by simp) ?_ (by rw[List.size_toArray]<;>omega)
 rw[qhd,← hlen]
 refine ⟨.ref s.heap.objs.size,_,I.laid (t':=s.toks) (o:=.lst (cutV xs lo hi)) (fun b ob q=>Heap.get?_push_of_some _ q) (Nat.le_refl _) ?_,rfl,q _ (I.hok.fresh (Nat.le_refl _))⟩
 exact ⟨Nat.le_trans (ygf xs lo hi) hz,_,0,(r.drop (HT.sIx xs.length 0 lo)).take (HT.sIx xs.length xs.length hi-HT.sIx xs.length 0 lo),Heap.get?_push_size _ rfl⟩
def qdb:V→Bool
 | .non=>true
 | .bl _=>true
 | .int _=>true
 | .str _=>true
 | _=>false
def eqV:V→V→Bool
 | .non,.non=>true
 | .bl a,.bl b=>a == b
 | .bl a,.int b=>(if a then 1 else 0) == b
 | .int a,.bl b=>a == (if b then 1 else 0)
 | .int a,.int b=>a == b
 | .str a,.str b=>a == b
 | _,_=>false
theorem eqAt_V {A:Around}{s:Shared}{y x:V}{u v:Value} (ry:RelV y u) (rx:RelV x v) (fy:qdb y=true) (fx:qdb x=true):SeqAt.EqAt A s u v (eqV y x):=by
 cases y with
 | non=>
  cases ry
  cases x with
  | non=>cases rx;exact SeqAt.EqAt.same _
  | bl b=>cases rx;exact SeqAt.EqAt.none_bool b
  | int b=>obtain ⟨t,rfl⟩:=rx;exact SeqAt.EqAt.none_int b t
  | str b=>obtain ⟨t,rfl⟩:=rx;exact SeqAt.EqAt.none_str b t
  | _=>exact absurd (show false=true from fx) Bool.false_ne_true
 | bl a=>
  cases ry
  cases x with
  | non=>cases rx;exact SeqAt.EqAt.bool_none a
  | bl b=>cases rx;exact SeqAt.EqAt.bool_bool a b
  | int b=>obtain ⟨t,rfl⟩:=rx;exact SeqAt.EqAt.bool_int a b t
  | str b=>obtain ⟨t,rfl⟩:=rx;exact SeqAt.EqAt.bool_str a b t
  | _=>exact absurd (show false=true from fx) Bool.false_ne_true
 | int a=>
  obtain ⟨t',rfl⟩:=ry
  cases x with
  | non=>cases rx;exact SeqAt.EqAt.int_none a t'
  | bl b=>cases rx;exact SeqAt.EqAt.int_bool a t' b
  | int b=>obtain ⟨t,rfl⟩:=rx;exact SeqAt.EqAt.int_int a t' b t
  | str b=>obtain ⟨t,rfl⟩:=rx;exact SeqAt.EqAt.int_str a t' b t
  | _=>exact absurd (show false=true from fx) Bool.false_ne_true
 | str a=>
  obtain ⟨t',rfl⟩:=ry
  cases x with
  | non=>cases rx;exact SeqAt.EqAt.str_none a t'
  | bl b=>cases rx;exact SeqAt.EqAt.str_bool a t' b
  | int b=>obtain ⟨t,rfl⟩:=rx;exact SeqAt.EqAt.str_int a t' b t
  | str b=>obtain ⟨t,rfl⟩:=rx;exact SeqAt.EqAt.str_str a t' b t
  | _=>exact absurd (show false=true from fx) Bool.false_ne_true
 | _=>exact absurd (show false=true from fy) Bool.false_ne_true
def eqU (x:V) (u:Value):Bool:=match u with
 | .none=>eqV .non x
 | .bool b=>eqV (.bl b) x
 | .int i _=>eqV (.int i) x
 | .str z _=>eqV (.str z) x
 | _=>false
theorem eqU_of {x y:V}{u:Value} (r:RelV y u) (f:qdb y=true):eqU x u=eqV y x:=by
 cases y with
 | non=>cases r;rfl
 | bl b=>cases r;rfl
 | int i=>obtain ⟨t,rfl⟩:=r;rfl
 | str z=>obtain ⟨t,rfl⟩:=r;rfl
 | _=>exact absurd (show false=true from f) Bool.false_ne_true
theorem qga {x:V}:∀ {xs:List V}{us:List Value},Vals xs us→xs.all qdb=true→us.any (eqU x)=xs.any fun y=>eqV y x
 | _,_,.nil,_=>rfl
 | y::xs,u::us,.cons r t,f=>by
  rw[List.all_cons,Bool.and_eq_true] at f
  rw[List.any_cons,List.any_cons,eqU_of r f.1,qga t f.2]
theorem yek {A:Around}{s:Shared}{x:V}{v:Value} (rx:RelV x v) (fx:qdb x=true):∀ {xs:List V}{us:List Value},Vals xs us→xs.all qdb=true→∀ u∈us,SeqAt.EqAt A s u v (eqU x u)
 | _,_,.nil,_=>fun u hu=>by cases hu
 | y::xs,u::us,.cons r t,f=>fun u' hu=>by
  rw[List.all_cons,Bool.and_eq_true] at f
  rcases List.mem_cons.mp hu with rfl|hu
  ·rw[eqU_of r f.1];exact eqAt_V r rx f.1 fx
  ·exact yek rx fx t f.2 u' hu
def inV (x:V) (xs:List V):Bool:=xs.any fun y=>eqV y x
def rIn (K:PySem.W.Frag) (neg:Bool):R2:=fun x y H Q=>∃ p xs,y=.ref p∧(SqL K H p xs∨SqT K H p xs)∧qdb x=true∧xs.all qdb=true∧Q (.bl (if neg then !inV x xs else inV x xs)) H
theorem ybj:OpR X (compareOp .In) (rIn X.K false):=by
 intro pins s σ H x y v u Q I rx ry h
 obtain ⟨p,xs,rfl,hq,fx,fs,q⟩:=h
 cases ry
 rcases hq with hq|hq
 ·obtain ⟨its,r,pl,hz⟩:=I.list hq
  refine SeqAt.in_listAt (eqU x) pl.isList (fun w hw=>yek rx fx r fs w (by simpa using hw)) ⟨.bl _,H,I,rfl,?_⟩
  rw[show its.toArray.any (eqU x)=its.any (eqU x) by simp,qga r fs]
  exact q
 ·obtain ⟨its,r,pl,hz⟩:=I.tuple hq
  refine SeqAt.in_tupleAt (eqU x) pl (fun w hw=>yek rx fx r fs w (by simpa using hw)) ⟨.bl _,H,I,rfl,?_⟩
  rw[show its.toArray.any (eqU x)=its.any (eqU x) by simp,qga r fs]
  exact q
theorem yib:OpR X (compareOp .NotIn) (rIn X.K true):=by
 intro pins s σ H x y v u Q I rx ry h
 obtain ⟨p,xs,rfl,hq,fx,fs,q⟩:=h
 cases ry
 rcases hq with hq|hq
 ·obtain ⟨its,r,pl,hz⟩:=I.list hq
  refine SeqAt.notIn_listAt (eqU x) pl.isList (fun w hw=>yek rx fx r fs w (by simpa using hw)) ⟨.bl _,H,I,rfl,?_⟩
  rw[show its.toArray.any (eqU x)=its.any (eqU x) by simp,qga r fs]
  exact q
 ·obtain ⟨its,r,pl,hz⟩:=I.tuple hq
  refine SeqAt.notIn_tupleAt (eqU x) pl (fun w hw=>yek rx fx r fs w (by simpa using hw)) ⟨.bl _,H,I,rfl,?_⟩
  rw[show its.toArray.any (eqU x)=its.any (eqU x) by simp,qga r fs]
  exact q
theorem yag:yda X (.builtin "len") (fun xs H Q=>∃ p ys,xs=[.ref p]∧(SqL X.K H p ys∨SqT X.K H p ys)∧Q (.int ys.length) H):=by
 intro pins s σ H xs us Q I r h
 obtain ⟨p,ys,rfl,hq,q⟩:=h
 obtain ⟨u,rfl,rx⟩:=yji r
 cases rx
 have hn:=qjx
 rcases hq with hq|hq
 ·obtain ⟨its,r',pl,hz⟩:=I.list hq
  have hlen:=r'.length
  exact Calls.call_len_list pl.isList (by simp only[List.size_toArray]<;>omega) ⟨.int ys.length,H,I.tok _,⟨s.toks+1,by rw[List.size_toArray,hlen]⟩,q⟩
 ·obtain ⟨its,r',pl,hz⟩:=I.tuple hq
  have hlen:=r'.length
  exact len_tuple pl (by simp only[List.size_toArray]<;>omega) ⟨.int ys.length,H,I.tok _,⟨s.toks+1,by rw[List.size_toArray,hlen]⟩,q⟩
theorem ydf:yda X (.type "list") (fun xs H Q=>∃ p ys,xs=[.ref p]∧(SqL X.K H p ys∨SqT X.K H p ys)∧∀ l,H l=none→Q (.ref l) (upd H l (.lst ys))):=by
 intro pins s σ H xs us Q I r h
 obtain ⟨p,ys,rfl,hq,q⟩:=h
 obtain ⟨u,rfl,rx⟩:=yji r
 cases rx
 have fin:∀ (its:List Value),Vals ys its→ys.length≤sizeLine→∀ (h':Heap) (c':Nat),(∀ b o',s.heap.get? b=some o'→h'.get? b=some o')→
   h'.get? s.heap.objs.size=some { cls:=.type "list",dict:=none,data:=.seq its.toArray c',slots:=#[] }→EP X pins σ Q (.ref s.heap.objs.size) { s with heap:=h' }:=fun its r' hz h' c' kp e=>
  ⟨.ref s.heap.objs.size,_,I.laid (t':=s.toks) kp (Nat.le_refl _) (show qbm X.prog X.w _ h' _ (.lst ys) from ⟨hz,its,c',r',e⟩),rfl,q _ (I.hok.fresh (Nat.le_refl _))⟩
 rcases hq with hq|hq
 ·obtain ⟨its,r',pl,hz⟩:=I.list hq
  have hlen:=r'.length
  obtain ⟨o,ho,hc,n,hd⟩:=pl.isList
  exact call_list_seq p (.inl rfl) ho hc hd (fun h' c' kp e=>fin its r' hz h' c' kp e) (by simp only[List.size_toArray]<;>omega)
 ·obtain ⟨its,r',pl,hz⟩:=I.tuple hq
  have hlen:=r'.length
  obtain ⟨o,ho,hc,n,hd⟩:=pl
  exact call_list_seq p (.inr rfl) ho hc hd (fun h' c' kp e=>fin its r' hz h' c' kp e) (by simp only[List.size_toArray]<;>omega)
theorem qhc:yda X (.type "tuple") (fun xs H Q=>∃ p ys,xs=[.ref p]∧((SqL X.K H p ys∧∀ l,H l=none→Q (.ref l) (upd H l (.tup ys)))∨(SqT X.K H p ys∧Q (.ref p) H))):=by
 intro pins s σ H xs us Q I r h
 obtain ⟨p,ys,rfl,h⟩:=h
 obtain ⟨u,rfl,rx⟩:=yji r
 cases rx
 rcases h with ⟨hq,q⟩|⟨hq,q⟩
 ·obtain ⟨its,r',pl,hz⟩:=I.list hq
  have hlen:=r'.length
  refine call_tuple_list pl.isList (fun h' kp=>?_) (by simp only[List.size_toArray]<;>omega)
  have I1:Inv X pins σ H { s with heap:=h' }:=I.kept (t':=s.toks) kp
  have I2:Inv X pins σ (upd H h'.objs.size (.tup ys)) { s with heap:=h'.push { cls:=.type "tuple",data:=.seq its.toArray } }:=
   I1.laid (t':=s.toks) (fun b o e=>Heap.get?_push_of_some _ e) (Nat.le_refl _) (show qbm X.prog X.w _ _ _ (.tup ys) from ⟨hz,its,r',IsTup.new _ _⟩)
  exact ⟨.ref h'.objs.size,_,I2,rfl,q _ (I1.hok.fresh (Nat.le_refl _))⟩
 ·obtain ⟨its,r',pl,hz⟩:=I.tuple hq
  exact call_tuple_same pl ⟨.ref p,H,I,rfl,q⟩
def tyV (K:PySem.W.Frag) (T:String) (x:V) (H:Hp):Prop:=match x with
 | .str _=>T="str"
 | .int _=>T="int"
 | .ref p=>(T="list"∧∃ xs,SqL K H p xs)∨(T="tuple"∧∃ o,K.lookup p=some o∧o.cls=.type "tuple"∧o.dict=none)∨
   (T="dict"∧((∃ kvs,H p=some (.dK kvs))∨∃ kvs,H p=some (.dT kvs)))∨(T="set"∧∃ S n,H p=some (.set S n))
 | _=>False
theorem tyV_is {pins:List (Addr×Obj)}{σ:St}{H:Hp}{s:Shared}{T:String}{x:V}{v:Value} (I:Inv X pins σ H s) (r:RelV x v) (ty:tyV X.K T x H) :
  s.TypeIs v T∧∀ a,v=.ref a→∃ ob,s.heap.get? a=some ob∧ob.dict=none:=by
 cases x with
 | str z=>
  obtain ⟨t,rfl⟩:=r
  cases (show T="str" from ty)
  exact ⟨typeIs_str s z t,fun _ e=>nomatch e⟩
 | int i=>
  obtain ⟨t,rfl⟩:=r
  cases (show T="int" from ty)
  exact ⟨typeIs_int s i t,fun _ e=>nomatch e⟩
 | ref p=>
  cases r
  rcases ty with ⟨rfl,xs,hq⟩|⟨rfl,o,hk,hc,hd⟩|⟨rfl,hk⟩|⟨rfl,S,n,hk⟩
  ·obtain ⟨its,_,pl,_⟩:=I.list hq
   refine ⟨pl.isList.typeIs,fun a e=>?_⟩
   cases e
   obtain ⟨o,n,e,c,hd,_⟩:=pl
   exact ⟨o,e,hd⟩
  ·refine ⟨⟨o,I.kIn p o hk,hc⟩,fun a e=>?_⟩
   cases e
   exact ⟨o,I.kIn _ o hk,hd⟩
  ·have z:∃ o,s.heap.get? p=some o∧o.ExactDict:=by
    rcases hk with ⟨kvs,hk⟩|⟨kvs,hk⟩
    ·obtain ⟨_,_,_,_,o,_,_,e,ex,_⟩:=I.hok p _ hk
     exact ⟨o,e,ex⟩
    ·obtain ⟨_,_,_,_,o,_,_,e,ex,_⟩:=I.hok p _ hk
     exact ⟨o,e,ex⟩
   obtain ⟨o,e,ex⟩:=z
   refine ⟨⟨o,e,ex.1⟩,fun a e2=>?_⟩
   cases e2
   exact ⟨o,e,ex.2.1⟩
  ·obtain ⟨o,_,_,_,e,ex,_⟩:=I.hok p _ hk
   refine ⟨⟨o,e,ex.1⟩,fun a e2=>?_⟩
   cases e2
   exact ⟨o,e,ex.2.1⟩
 | _=>exact False.elim ty
def tBM (K:PySem.W.Frag) (T:String) (r:V→List V→Hp→VK→Prop) (to:TE) (t:TA):TE:=fun σ H Q=>to σ H fun x H1=>tyV K T x H1∧t σ H1 fun xs H2=>r x xs H2 Q
variable {o e:Expr}{es:List Expr}{to:TE}{t:TA}{name:Str}{apos cpos:Pos}{T id:String}{r:V→List V→Hp→VK→Prop}
theorem yfg (pa:PlainAttrs T) (slot:Slot T name id) (hty:typeOf (.builtin id)=pure (.type "method_descriptor")) (hm:MtR X id r) (ho:PE X o to) (ha:PA X (e::es) t)
  (hbase:attributeBase o name X.env (eval o X.env)=eval o X.env:=by rfl)
  (hfew:((backTo cpos (starEach (e::es) X.env)).all (fun x=>!x.1)&&(backToKw cpos (keywordEach [] X.env)).all (fun x=>x.1.isSome)
   && decide ((e::es).length+([]:List Keyword).length+(if ([]:List Keyword).isEmpty then 0 else 1)<30))=true:=by rfl)
  (hline:(apos.endLine == cpos.line)=true:=by rfl) (hs:starEach (e::es) X.env=(false,eval e X.env)::starEach es X.env:=by rfl) (hplain:(backTo cpos (starEach es X.env)).any (·.1)=false:=by rfl) :
  PE X (.Call (.Attribute o name apos) (e::es) [] cpos) (tBM X.K T r to t):=by
 intro pins s σ H Q I h
 refine wpAny_Call_method_late hbase hfew hline rfl (thn (ho pins s σ H _ I h) fun v s1 ⟨x,H1,I1,r1,ty,q1⟩=>?_)
 obtain ⟨h1,h2⟩:=tyV_is I1 r1 ty
 refine ⟨T,id,pa,slot,hty,h1,h2,?_⟩
 have hA:=ha cpos pins s1 σ H1 _ I1 q1
 rw[hs] at hA ⊢
 refine Calls.callWith_builtin (by show (false||(backTo cpos (starEach es X.env)).any (·.1))=false;rw[hplain]<;>rfl) (Calls.evalArgs_plain ?_)
 exact thn hA fun us s2 ⟨vs,H2,I2,r2,q2⟩=>hm pins s2 σ H2 x vs v us Q I2 r1 r2 q2
/- xs.append(e),list.index on a module's tuple .. are MtR facts of 06m -/
end
def MtM (X:Cx) (id:String) (r:V→List V→Hp→VK→Prop):Prop:=
 ∀ (pins:List (Addr×Obj)) (s:Shared) (σ:St) (H:Hp) (x:V) (xs:List V) (v:Value) (us:List Value) (Q:VK),Inv X pins σ H s→RelV x v→Vals xs us→r x xs H Q→
  wpAny (model X.prog X.w) X.A (call (.builtin id) (v::us)) (EP X pins σ Q) X.xe s
theorem Vals.one:∀ {x:V}{us:List Value},Vals [x] us→∃ u,us=[u]∧RelV x u
 | _,_,.cons r .nil=>⟨_,rfl,r⟩
theorem Vals.rep {xs:List V}{us:List Value} (h:Vals xs us):∀ k:Nat,Vals (List.replicate k xs).flatten (List.replicate k us).flatten
 | 0=>.nil
 | k+1=>by
  rw[List.replicate_succ,List.replicate_succ,List.flatten_cons,List.flatten_cons]
  exact Vals.append h (Vals.rep h k)
theorem qin (its:List Value):∀ (k:Nat) (acc:List Value),
  List.foldl (fun x1 x2=>x1++x2) acc.toArray (List.replicate k its.toArray)=(acc++(List.replicate k its).flatten).toArray
 | 0,acc=>by simp
 | k+1,acc=>by
  have e:acc.toArray++its.toArray=(acc++its).toArray:=by simp
  have e2:(acc++its)++(List.replicate k its).flatten=acc++(List.replicate (k+1) its).flatten:=by
   rw[List.replicate_succ,List.flatten_cons,List.append_assoc]
  rw[← e2,← qin its k (acc++its),← e,List.replicate_succ,List.foldl_cons]
section
variable {X:Cx}{pins:List (Addr×Obj)}{σ:St}{H:Hp}{s:Shared}{l b:Addr}{xs ys zs:List V}
theorem Inv.lset {its its':List Value}{n:Nat}{f:Array Value→Array Value}{t':Nat} (I:Inv X pins σ H s) (hH:H l=some (.lst xs))
  (e:s.heap.get? l=some { cls:=.type "list",data:=.seq its.toArray n }) (hf:f its.toArray=its'.toArray) (hv:Vals ys its') (hz:ys.length≤sizeLine) :
  Inv X pins σ (upd H l (.lst ys)) { s with heap:=s.heap.update l (Obj.mapSeq f),toks:=t' }:=by
 have q:=PySem.IsL.update e f
 rw[hf] at q
 refine I.write (x:=l) (e:=l) (by rw[hH];exact trivial) (.inl rfl) (fun b' u hb hu=>(Heap.get?_update_other s.heap (Obj.mapSeq f) (Ne.symm hb)).trans hu) ⟨_,q⟩ ?_
 exact ⟨hz,its',_,hv,q⟩
theorem Inv.lnew {its:List Value}{t':Nat} (I:Inv X pins σ H s) (hv:Vals ys its) (hz:ys.length≤sizeLine) :
  Inv X pins σ (upd H s.heap.objs.size (.lst ys)) { s with heap:=s.heap.push { cls:=.type "list",data:=.seq its.toArray },toks:=t' }:=
 I.laid (fun _ _ q=>Heap.get?_push_of_some _ q) (Nat.le_refl _) ⟨hz,its,0,hv,Heap.get?_push_size _ rfl⟩
theorem Inv.fresh (I:Inv X pins σ H s):H s.heap.objs.size=none:=I.hok.fresh (Nat.le_refl _)
theorem Inv.lstM (I:Inv X pins σ H s) (hH:H l=some (.lst xs)):xs.length≤sizeLine∧∃ (its:List Value) (n:Nat),Vals xs its∧xs.length=its.length∧s.heap.get? l=some { cls:=.type "list",data:=.seq its.toArray n }:=by
 obtain ⟨z,its,n,r,e⟩:=I.hok l _ hH
 exact ⟨z,its,n,r,r.length,e⟩
theorem yjw {n:Nat} (h:n≤sizeLine):Builtin.List.listTooLong n=false:=by
 unfold Builtin.List.listTooLong
 exact decide_eq_false (by omega)
end
section
variable {X:Cx}
def rAppend:V→List V→Hp→VK→Prop:=fun x vs H Q=>∃ l xs y,x=.ref l∧vs=[y]∧H l=some (.lst xs)∧xs.length<sizeLine∧Q .non (upd H l (.lst (xs++[y])))
theorem ybh:MtM X "list.append" rAppend:=by
 intro pins s σ H x vs v us Q I rx rv h
 obtain ⟨l,xs,y,rfl,rfl,hH,hz,q⟩:=h
 cases rx
 obtain ⟨u,rfl,ru⟩:=rv.one
 obtain ⟨z,its,n,r,hl,e⟩:=I.lstM hH
 refine call_meets F.slot_list_append ⟨_,e,rfl⟩ F.entry_list_append (F.args_list_append_2 _ _) (PySem.list_append l its.toArray n u (by rw[List.size_toArray];omega)) ⟨e,?_⟩
 refine ⟨.non,_,I.lset (its':=its++[u]) hH e (by simp) (r.append (.cons ru .nil)) ?_,rfl,q⟩
 rw[List.length_append,List.length_singleton]
 omega
def rExtend:V→List V→Hp→VK→Prop:=fun x vs H Q=>∃ l b xs zs,x=.ref l∧vs=[.ref b]∧H l=some (.lst xs)∧H b=some (.lst zs)∧xs.length+zs.length≤sizeLine∧Q .non (upd H l (.lst (xs++zs)))
theorem qgh:MtM X "list.extend" rExtend:=by
 intro pins s σ H x vs v us Q I rx rv h
 obtain ⟨l,b,xs,zs,rfl,rfl,hH,hB,hz,q⟩:=h
 cases rx
 obtain ⟨u,rfl,ru⟩:=rv.one
 cases ru
 obtain ⟨z,its,n,r,hl,e⟩:=I.lstM hH
 obtain ⟨z2,its2,n2,r2,hl2,e2⟩:=I.lstM hB
 have hsz:its.toArray.size+its2.toArray.size≤sizeLine:=by rw[List.size_toArray,List.size_toArray];omega
 have hlong:¬ (!its.toArray.isEmpty&&Builtin.List.listTooLong (its.toArray.size+its2.toArray.size))=true:=by
  rw[yjw hsz,Bool.and_false]
  exact Bool.false_ne_true
 refine call_meets F.slot_list_extend ⟨_,e,rfl⟩ F.entry_list_extend (F.args_list_extend_2 _ _)
  (AutoSeq1.list_extend_list_list_0 l its.toArray n b its2.toArray n2 hlong (by rw[List.size_toArray];omega) (by omega)) ⟨e,e2,?_⟩
 refine ⟨.non,_,I.lset (its':=its++its2) hH e (by simp) (r.append r2) ?_,rfl,q⟩
 rw[List.length_append]
 omega
def rCat:R2:=fun x y H Q=>∃ l b xs zs,x=.ref l∧y=.ref b∧H l=some (.lst xs)∧H b=some (.lst zs)∧xs.length+zs.length≤sizeLine∧∀ p,H p=none→Q (.ref p) (upd H p (.lst (xs++zs)))
theorem ye3:OpR X (binaryOp .Add) rCat:=by
 intro pins s σ H x y v u Q I rx ry h
 obtain ⟨l,b,xs,zs,rfl,rfl,hH,hB,hz,q⟩:=h
 cases rx
 cases ry
 obtain ⟨z,its,n,r,hl,e⟩:=I.lstM hH
 obtain ⟨z2,its2,n2,r2,hl2,e2⟩:=I.lstM hB
 refine PySem.P.add_list e e2 ?_ (by rw[List.size_toArray,List.size_toArray];omega)
 have ea:its.toArray++its2.toArray=(its++its2).toArray:=by simp
 rw[ea]
 exact ⟨.ref _,_,I.lnew (t':=s.toks) (r.append r2) (by rw[List.length_append];omega),rfl,q _ I.fresh⟩
def rRep:R2:=fun x y H Q=>∃ l k xs,x=.ref l∧y=.int k∧H l=some (.lst xs)∧-(2 ^ 63)≤k∧k<2 ^ 63∧xs.length*k.toNat≤sizeLine∧
 ∀ p,H p=none→Q (.ref p) (upd H p (.lst (List.replicate k.toNat xs).flatten))
theorem len_rep {α:Type} (xs:List α) (k:Nat):(List.replicate k xs).flatten.length=k*xs.length:=by
 induction k with
 | zero=>simp
 | succ k ih=>rw[List.replicate_succ,List.flatten_cons,List.length_append,ih,Nat.succ_mul,Nat.add_comm]
theorem qjv:OpR X (binaryOp .Mult) rRep:=by
 intro pins s σ H x y v u Q I rx ry h
 obtain ⟨l,k,xs,rfl,rfl,hH,h1,h2,hz,q⟩:=h
 cases rx
 obtain ⟨t,rfl⟩:=ry
 obtain ⟨z,its,n,r,hl,e⟩:=I.lstM hH
 have hlen:its.toArray.size*k.toNat≤sizeLine:=by rw[List.size_toArray,← hl];exact hz
 have hcap:¬ its.toArray.size*k.toNat>(2 ^ 63-1) / 8:=by
  have:(sizeLine:Nat)≤(2 ^ 63-1) / 8:=by decide
  omega
 have hfit:¬ (!Builtin.List.listFitsIndex k)=true:=by
  rw[fitsIndex_both h1 h2]
  exact Bool.false_ne_true
 have hlong:¬ Builtin.List.listTooLong (its.toArray.size*k.toNat)=true:=by
  rw[yjw hlen]
  exact Bool.false_ne_true
 have hnew:List.foldl (fun x1 x2=>x1++x2) #[] (List.replicate (if its.toArray.isEmpty=true then 0 else k.toNat) its.toArray)=(List.replicate k.toNat its).flatten.toArray:=by
  have f0:∀ m:Nat,List.foldl (fun x1 x2=>x1++x2) #[] (List.replicate m its.toArray)=(List.replicate m its).flatten.toArray:=fun m=>by
   have:=qin its m []
   rw[List.nil_append] at this
   exact this
  rw[f0]
  cases its with
  | nil=>simp
  | cons a r'=>rw[if_neg (by simp)]
 refine wpAny_binaryOp_repeat_ref (T:="list") (U:="int") (by decide) ⟨_,e,rfl⟩ (fun s'=>typeIs_int s' k t) noFill_list_mul F.fills_int_mul F.slot_int_rmul repeat_list F.slot_int_index.lookup
  (call_meets F.slot_int_rmul (typeIs_int s k t) F.entry_int_rmul (F.args_int_rmul_2 _ _) (int___rmul___int_list k t l its.toArray n)
   ⟨e,rfl,⟨_,e,rfl⟩,call_meets F.slot_list_mul ⟨_,e,rfl⟩ F.entry_list_mul (F.args_list_mul_2 _ _) (AutoListH.list___mul___list_int_3 l its.toArray n k t hfit hcap hlong) ⟨e,?_⟩⟩)
 rw[hnew]
 exact ⟨.ref _,_,I.lnew (t':=s.toks) (r.rep k.toNat) (by rw[len_rep,Nat.mul_comm];exact hz),rfl,q _ I.fresh⟩
end
end L2
namespace Att
open PySem PySem.W PySem.Calls PyProof.Rows
theorem qfv {P:Params}{h:Heap}:∀ (ns:List Int) (vs:List Value),WellAll P h vs (ns.map WData.int)→IntsAre vs ns:=by
 intro ns
 induction ns with
 | nil=>
  intro vs w
  rw[List.map_nil] at w
  cases w
  exact .nil
 | cons n ns ih=>
  intro vs w
  rw[List.map_cons] at w
  cases w with
  | cons a b=>
   cases a
   exact .cons _ _ (ih _ b)
theorem ykt {l:OpenLaw}{n:Nat} (hn:l.most=some n) {P:Params}{h:Heap}{args:List WData}{vals:List Value}
  (hpre:l.row.toRowW.claim.pre args=true) (hwl:WellAll P h vals args) :
  ∃ a vs ns,vals=[Value.ref a]∧args=[WData.list (ns.map WData.int)]∧h.get? a=some { cls:=.type "list",data:=.seq vs.toArray }∧IntsAre vs ns∧ns.length≤n:=by
 have hsh:WShape.hasAll [] args [.list .int]=true:=(pre_splitW hpre).1
 have hc:l.pre.holds [] { args:=args }=true:=(pre_splitW hpre).2
 obtain ⟨d,r,rfl,h1,h2⟩:=hasAllW_cons hsh
 obtain rfl:=hasAllW_nil h2
 obtain ⟨xs,rfl,h3⟩:=hasW_list h1
 obtain ⟨ns,rfl⟩:=items_int h3
 have hlen:ns.length≤n:=by
  unfold OpenLaw.pre at hc
  have h4:(WTm.not (.lt (.lit (.int (n:Int))) (.len (.arg 0)))).holds [] { args:=[.list (ns.map .int)] }=true:=by
   have h4:=(holds_andW hc).1
   rw[hn] at h4
   exact h4
  have h5:=condW_of h4 (w_not (w_lt w_lit (w_len_list (w_arg rfl))))
  rw[List.length_map] at h5
  refine Nat.le_of_not_lt fun q=>?_
  have q':(n:Int)<((ns.length:Nat):Int):=by omega
  first
   | (rw[decide_eq_true q'] at h5;exact absurd h5 (by decide))
   | (simp at h5;omega)
 cases hwl with
 | cons w1 w2=>
  cases w2
  cases w1 with
  | list ho hall=>exact ⟨_,_,ns,rfl,rfl,ho,qfv ns _ hall,hlen⟩
theorem qk9 (l:OpenLaw) (args:List WData):l.row.toRowW.claim.post args (.bool true) args=true:=
 postW_of (r:=l.row.toRowW) (X:=(true == true))
  (show WShape.has [] (.bool true) .bool=true by first|rfl|decide|simp[WShape.has,WShape.arms,WShape.armsAll])
  (show (WTm.eq .res (.lit (.bool true))).value [] { args:=args,res:=some (.bool true),after:=args }=some (.bool (true == true)) from w_eq_bool (w_res rfl) w_lit) rfl
theorem attach_call {l:OpenLaw}{n:Nat}{q:Program}{loose:List Str}{XP:(Str→Option Value)→Heap→Prop}{YP:World→Heap→Prop}{d:DefRec}
  (hn:l.most=some n) (hdf:d.params.defaults=[])
  (call:∀ (w:World) (s₀ s₁:Shared) (mg mb:Str→Option Value) (fa:Addr) (o:Obj) (pm cd doc:Value) (a:Addr) (vs:List Value) (ns:List Int),
   Ground q loose [] XP w s₀ mg mb s₁.heap→YP w s₁.heap→
   s₁.heap.get? fa=some o→o.data=.func (docDef d.name d.params d.body d.scope pm cd doc)→s₁.heap.CodeRec cd d.name→mg d.name=some (.ref fa)→
   s₁.heap.get? a=some { cls:=.type "list",data:=.seq vs.toArray }→IntsAre vs ns→ns.length≤n→s₁.gens=#[]→
   codeAny (model l.prog w) callerA (.call (.ref fa) ⟨[.ref a],[]⟩) (fun r s'=>r=.ok (.ret (.bool true))∧OldK s₁.heap s'.heap∧s'.os=s₁.os∧AllBare s'.gens) s₁) :
  WalkO q loose XP YP l.row.toRowW d [] (fun f vs=>PySem.call f vs):=by
 intro w s₀ s₁ mg mb G Y fa o pm cd doc dV kV ho hd hcd hD hmg hg args vals as hpre hlay hrd hwl hlo
 obtain rfl:dV=.none:=Dflts.none hD hdf
 obtain rfl:kV=.none:=Dflts.noKw hD
 obtain ⟨a,vs,ns,rfl,rfl,hobj,hints,hlen⟩:=ykt hn hpre hwl
 refine enter_call (codeAny_mono (call w s₀ s₁ mg mb fa o pm cd doc a vs ns G Y ho (fd_plain hd) hcd hmg hobj hints hlen hg) fun r s' hq=>?_)
 obtain ⟨rfl,h2,h3,h4⟩:=hq
 exact ⟨.inl ⟨.bool true,.bool true,[],rfl,fun _=>rfl,.bool true,qk9 l _,fun _=>⟨List.Pairwise.nil,fun _ hm=>(nomatch hm)⟩⟩,h2,h3,h4⟩
end Att
namespace L2
open PySem PySem.Spec PyProof.Rows
theorem yij:∀ {vs:List Value}{ns:List Int},IntsAre vs ns→Vals (ns.map V.int) vs
 | _,_,.nil=>.nil
 | _,_,.cons n t h=>.cons ⟨t,rfl⟩ (yij h)
def Only (H:Hp):Prop:=∀ b,H b=none∨∃ o xs,H b=some (.frz o (.lst xs))
theorem law_call {P:Program}{w:World}{K:PySem.W.Frag}{mg mb:Str→Option Value}{CX:CXT}{k:Nat}{fa a:Addr}{fd:FuncData}{x:Str}{sp:Sp}{s₁:Shared}{vs:List Value}{ns:List Int}
  (KX:K.In s₁.heap) (hns:s₁.heap.Ns mainGlobals mg) (hb:s₁.heap.Ns builtinsNs mb) (hbb:∀ x:Str,x≠"__name__"→mb x=bootBuiltins x) (hlim:s₁.heap.NoLimit) (hg:s₁.gens=#[])
  (ha:s₁.heap.get? a=some { cls:=.type "list",data:=.seq vs.toArray }) (hi:IntsAre vs ns) (hl:ns.length≤sizeLine) (hr:Room k callerA)
  (F:∀ base:Heap,K.In base→base.Ns mainGlobals mg→FnOk P w K mg base CX k fa fd [x] sp) (hbind:∀ (s:Shared) (u:Value),BindsTo s fd ⟨[u],[]⟩ [(x,u)])
  (hsp:∀ H:Hp,Only H→SqL K H a (ns.map V.int)→sp [.ref a] H (fun v _=>v=.bl true) fun _ _ _=>False)
  (hCX:∀ H e s',CX [] H s₁ (fun _ _ _=>False) e s'→False) :
  codeAny (model P w) callerA (.call (.ref fa) ⟨[.ref a],[]⟩) (fun r s'=>r=.ok (.ret (.bool true))∧OldK s₁.heap s'.heap∧s'.os=s₁.os∧AllBare s'.gens) s₁:=by
 have rv:=yij hi
 have lenV:=hi.length
 -- from an abstract heap in which nothing but the script may be tracked
 have core:∀ H:Hp,Only H→SqL K H a (ns.map V.int)→HOk P w H s₁.heap→(∀ b,H b≠none→b=a)→(H a≠none→K.lookup a=none)→
   codeAny (model P w) callerA (.call (.ref fa) ⟨[.ref a],[]⟩) (fun r s'=>r=.ok (.ret (.bool true))∧OldK s₁.heap s'.heap∧s'.os=s₁.os∧AllBare s'.gens) s₁:=by
  intro H hO hS hok hA hK
  have base_of:∀ {b:Addr}{o:Obj},s₁.heap.get? b=some o→H b=none→(hidT s₁.heap H).get? b=some o:=fun e n=>hidT_get e n
  have noA:∀ {b:Addr}{o:Obj}{es:Array DictEntry}{ep:Nat},s₁.heap.get? b=some o→o.data=.dict es ep→H b=none:=fun {b o es ep} e d=>by
   cases q:H b with
   | none=>rfl
   | some u=>
    have e':b=a:=hA b (by rw[q];simp)
    subst e'
    rw[ha] at e;cases e
    have d':Data.seq vs.toArray _=Data.dict es ep:=d
    cases d'
  have nsK:∀ {b:Addr}{m:Str→Option Value},s₁.heap.Ns b m→(hidT s₁.heap H).Ns b m:=fun {b m} ⟨o,es,ep,e,d,r⟩=>⟨o,es,ep,base_of e (noA e d),d,r⟩
  have hKb:K.In (hidT s₁.heap H):=fun b o e=>base_of (KX b o e) (by
   cases q:H b with
   | none=>rfl
   | some u=>
    have e':b=a:=hA b (by rw[q];simp)
    subst e'
    rw[hK (by rw[q];simp)] at e;cases e)
  have hM:Mod K mg (hidT s₁.heap H):=⟨hKb,nsK hns,⟨mb,nsK hb,hbb⟩,let ⟨mc,h1,h2⟩:=hlim;⟨mc,nsK h1,h2⟩⟩
  have e0:Env0 P w K mg (hidT s₁.heap H) callerA [] s₁ H:=⟨rfl,hM,fun b o e=>of_hidT e,Nat.le_of_eq (yl7 _ _),trivial,fun b hb=>absurd (show b∈([]:List Addr) from hb) (by simp),hok,.of_eq hg⟩
  refine codeAny_mono ((F _ hKb (nsK hns)).run callerA [] s₁ H ⟨[.ref a],[]⟩ [.ref a] [.ref a] _ _ hr e0 (hbind s₁ (.ref a)) (.cons rfl .nil) (hsp H hO hS)) fun r s' h=>?_
  cases r with
  | error e=>exact (hCX H e s' h).elim
  | ok fl=>
   cases fl with
   | next=>exact False.elim h
   | brk=>exact False.elim h
   | cont=>exact False.elim h
   | ret u=>
    obtain ⟨v,H',os,bare,un,hok',r',q⟩:=h
    have q':v=.bl true:=q
    subst q'
    obtain rfl:u=Value.bool true:=r'
    refine ⟨rfl,OldK.of_keep fun b o e=>?_,os,bare⟩
    cases q:H b with
    | none=>exact un.keep b o e q (by intro z;exact absurd (show b∈([]:List Addr) from z) (by simp)) (by simp)
    | some u=>
     rcases hO b with z|⟨ob,xs,z⟩
     ·rw[q] at z;cases z
     ·have z2:=un.frzs b ob _ z
      obtain ⟨e1,_⟩:=hok b _ z
      obtain ⟨e2,_⟩:=hok' b _ z2
      rw[e] at e1;cases e1
      exact e2
 cases hk:K.lookup a with
 | some o=>
  -- the script is one of the module's own objects
  have e:=KX a o hk
  rw[ha] at e
  cases e
  refine core (fun _=>none) (fun _=>.inl rfl) (.inr ⟨_,vs.toArray,_,hk,rfl,rfl,rfl,by rw[List.size_toArray,lenV];exact hl,by simpa using rv⟩) (fun b u z=>by have z':(none:Option HO)=some u:=z;cases z') (fun b z=>absurd rfl z) fun z=>absurd rfl z
 | none=>
  refine core (fun b=>if b=a then some (.frz { cls:=.type "list",data:=.seq vs.toArray } (.lst (ns.map V.int))) else none) (fun b=>?_) (.inl (.inr ⟨{ cls:=.type "list",data:=.seq vs.toArray },if_pos rfl⟩)) (fun b u z=>?_) (fun b z=>?_) fun _=>hk
  ·by_cases hb:b=a
   ·exact .inr ⟨_,_,if_pos hb⟩
   ·exact .inl (if_neg hb)
  ·by_cases hb:b=a
   ·have z':=(if_pos hb).symm.trans z
    cases z'
    subst hb
    exact ⟨ha,by rw[List.length_map];exact hl,vs,_,rv,ha⟩
   ·have z':=(if_neg hb).symm.trans z
    cases z'
  ·by_cases hb:b=a
   ·exact hb
   ·exact absurd (if_neg hb) z
theorem walk_of {l:PySem.W.OpenLaw}{n k:Nat}{q:Program}{loose:List Str}{XP:(Str→Option Value)→Heap→Prop}{YP:World→Heap→Prop}{d:DefRec}{K:Params→PySem.W.Frag}{CX:World→CXT}{sp:World→Sp}{x:Str}
  (hn:l.most=some n) (hn2:n≤sizeLine) (hdf:d.params.defaults=[]) (hr:Room k callerA)
  (hY:∀ (w:World) (h:Heap),YP w h→(K w.params).In h)
  (F:∀ (w:World) (mg:Str→Option Value) (fa:Addr) (h:Heap),(K w.params).In h→h.Ns mainGlobals mg→mg d.name=some (.ref fa)→
   ∃ fd:FuncData,(∀ (s:Shared) (u:Value),BindsTo s fd ⟨[u],[]⟩ [(x,u)])∧
    ∀ base:Heap,(K w.params).In base→base.Ns mainGlobals mg→FnOk l.prog w (K w.params) mg base (CX w) k fa fd [x] (sp w))
  (hsp:∀ (w:World) (H:Hp) (a:Addr) (ns:List Int),ns.length≤n→Only H→SqL (K w.params) H a (ns.map V.int)→sp w [.ref a] H (fun v _=>v=.bl true) fun _ _ _=>False)
  (hCX:∀ (w:World) (H:Hp) (s:Shared) (e:Value) (s':Shared),CX w [] H s (fun _ _ _=>False) e s'→False) :
  PySem.W.WalkO q loose XP YP l.row.toRowW d [] (fun f vs=>PySem.call f vs):=by
 refine Att.attach_call hn hdf fun w s₀ s₁ mg mb fa o pm cd doc a vs ns G Y ho hd hcd hmg hobj hints hlen hg=>?_
 have KX:=hY w _ Y
 obtain ⟨fd,hb,hF⟩:=F w mg fa _ KX G.T.g hmg
 exact law_call KX G.T.g G.T.b G.T.builtins G.T.nolimit hg hobj hints (Nat.le_trans hlen hn2) hr hF hb (fun H hO hS=>hsp w H a ns hlen hO hS) fun H e s'=>hCX w H s₁ e s'
def yf9 (s:Stmt) (j:Nat):Stmt:=match s with
 | .ClassDef _ _ _ body _ _ _ _ _ _ _=>body.getD j (.Pass ⟨0,0,0,0⟩)
 | _=>.Pass ⟨0,0,0,0⟩
def qbn (s:Stmt):Arguments:=match s with
 | .FunctionDef _ a _ _ _ _ _ _ _ _=>a
 | _=>{ posonlyargs:=[],args:=[],vararg:=none,kwonlyargs:=[],kw_defaults:=[],kwarg:=none,defaults:=[] }
def qa3 (s:Stmt):List Stmt:=match s with
 | .FunctionDef _ _ b _ _ _ _ _ _ _=>b
 | _=>[]
def qad (s:Stmt):Scope:=match s with
 | .FunctionDef _ _ _ _ _ _ sc _ _ _=>sc
 | _=>{ kind:=.function,names:=[],isGenerator:=false,isCoroutine:=false }
abbrev CX0:CXT:=fun _ _ _ _ _ _=>False
abbrev E0:XK:=fun _ _ _=>False
theorem pass0 {X:Cx}:qgc CX0 X E0:=fun _ _ _ _ _ _ _ h=>h.elim
structure Fun (K:PySem.W.Frag) (x qual:Str) (st:Stmt) (f:Addr) (fd:FuncData):Prop where
 ex:∃ (oc:Value) (od:Option Addr) (kV doc pm:Value) (an:Option Addr) (cdv ct:Value) (osl:Array (Option Value)),
  fd=PySem.W.fnOf x qual (qbn st) (qa3 st) (qad st) .none kV doc pm an cdv ct∧K.lookup f=some ⟨oc,od,.func fd,osl⟩∧PySem.W.codeIn K cdv qual=true
 kp:PySem.W.keepIn K (.ref f)=true
section
variable {P:Program}{w:World}{K:PySem.W.Frag}{mg:Str→Option Value}{base:Heap}
theorem Fun.ok {x qual:Str}{st:Stmt}{f:Addr}{fd:FuncData}{N ps:List Str}{k:Nat}{sp:Sp} (F:Fun K x qual st f fd) (S:FnScope N ps (qad st)) (len:∀ vs H Q E,sp vs H Q E→vs.length=ps.length)
  (hbody:∀ (cdv:Value) (A:Around) (outer:List Env) (s:Shared) (H:Hp) (vs:List V) (Q:VK) (E:XK),Room k (A.deeper (envOfC qual (qad st) s.heap.objs.size f cdv))→sp vs H Q E→
   ∃ t,PSs (cxOf CX0 P w K mg base N qual (qad st) f cdv A outer s H E).nox (qa3 st) t∧t { nx:=fun _ H'=>Q .non H',rt:=Q } (qfg N vs) H):FnOk P w K mg base CX0 (k+1) f fd ps sp:=by
 obtain ⟨oc,od,kV,doc,pm,an,cdv,ct,osl,rfl,lk,hcd⟩:=F.ex
 refine fn_of lk hcd S len fun A outer s H vs Q E hr hsp=>?_
 obtain ⟨t,h,q⟩:=hbody cdv A outer s H vs Q E hr hsp
 exact ⟨t,h.nox,q⟩
theorem Fun.binds {x qual:Str}{st:Stmt}{f:Addr}{fd:FuncData}{ps:List Str} (F:Fun K x qual st f fd)
  (h:∀ (kV doc pm:Value) (an:Option Addr) (cdv ct:Value) (us:List Value),us.length=ps.length→bindArgs (PySem.W.fnOf x qual (qbn st) (qa3 st) (qad st) .none kV doc pm an cdv ct) ⟨us,[]⟩=pure (ps.zip us)):yel K fd ps []:=by
 obtain ⟨oc,od,kV,doc,pm,an,cdv,ct,osl,rfl,lk,hcd⟩:=F.ex
 exact .all (h kV doc pm an cdv ct)
theorem qc7 {x qual:Str}{st:Stmt}{f:Addr}{oc:Value}{od an:Option Addr}{osl:Array (Option Value)}{kV doc pm cdv ct:Value} (l:K.lookup f=some ⟨oc,od,.func (PySem.W.fnOf x qual (qbn st) (qa3 st) (qad st) .none kV doc pm an cdv ct),osl⟩)
  (c:PySem.W.codeIn K cdv qual=true) (k:PySem.W.keepIn K (.ref f)=true):Fun K x qual st f (PySem.W.fnOf x qual (qbn st) (qa3 st) (qad st) .none kV doc pm an cdv ct):=⟨⟨oc,od,kV,doc,pm,an,cdv,ct,osl,rfl,l,c⟩,k⟩
end
theorem hu_of {A:Around}{k:Nat} (hr:Room k A):A.units+1<cLine:=Nat.lt_of_le_of_lt (Nat.add_le_add_left (by decide:1≤64) _) hr.units
section
variable {X:Cx}
theorem pv (i:Nat) {x:Str}{pos:Pos} (hN:X.N[i]?=some x:=by rfl) (hv:Vis X.env.scope x:=by first|exact Or.inl rfl|exact Or.inr (Or.inl rfl)|exact Or.inr (Or.inr rfl)) (hd:(x == ("__debug__" : Str))=false:=by decide)
  (hcd:(x == ("__classdict__" : Str))=false:=by decide):PE X (.Name x pos) (tVar i):=pe_var hN hv hd hcd
end
theorem iteF {A B:Prop} (h:B):if false=true then A else B:=by
 rw[if_neg Bool.false_ne_true]
 exact h
theorem iteT {A B:Prop} (h:A):if true=true then A else B:=by
 rw[if_pos rfl]
 exact h
def Same (H H':Hp):Prop:=∀ b o,H b=some o→H' b=some o
theorem Same.refl (H:Hp):Same H H:=fun _ _ h=>h
theorem Same.trans {H H1 H2:Hp} (a:Same H H1) (b:Same H1 H2):Same H H2:=fun c o h=>b c o (a c o h)
theorem Same.free {H H':Hp} (e:Same H H') {l:Addr} (h:H' l=Option.none):H l=Option.none:=by
 cases q:H l with
 | none=>rfl
 | some o=>
  rw[e l o q] at h
  cases h
theorem Same.seq {K:PySem.W.Frag}{H H':Hp}{a:Addr}{xs:List V} (e:Same H H') (h:SqL K H a xs):SqL K H' a xs:=by
 rcases h with (h|⟨o,h⟩)|h
 ·exact .inl (.inl (e _ _ h))
 ·exact .inl (.inr ⟨o,e _ _ h⟩)
 ·exact .inr h
mutual
inductive At (H:Hp):V→PyData→Prop
 | non:At H .non .none
 | bl (b:Bool):At H (.bl b) (.bool b)
 | int (i:Int):At H (.int i) (.int i)
 | str (x:Str):At H (.str x) (.str x)
 | lst {a:Addr}{vs:List V}{ds:List PyData}:H a=some (.lst vs)→AtAll H vs ds→At H (.ref a) (.list ds)
 | tup {a:Addr}{vs:List V}{ds:List PyData}:H a=some (.tup vs)→AtAll H vs ds→At H (.ref a) (.tuple ds)
inductive AtAll (H:Hp):List V→List PyData→Prop
 | nil:AtAll H [] []
 | cons {v:V}{d:PyData}{vs:List V}{ds:List PyData}:At H v d→AtAll H vs ds→AtAll H (v::vs) (d::ds)
end
mutual
theorem At.same {H H':Hp} (s:Same H H'):∀ {v:V}{d:PyData},At H v d→At H' v d
 | _,_,.non=>.non
 | _,_,.bl b=>.bl b
 | _,_,.int i=>.int i
 | _,_,.str x=>.str x
 | _,_,.lst e t=>.lst (s _ _ e) (AtAll.same s t)
 | _,_,.tup e t=>.tup (s _ _ e) (AtAll.same s t)
theorem AtAll.same {H H':Hp} (s:Same H H'):∀ {vs:List V}{ds:List PyData},AtAll H vs ds→AtAll H' vs ds
 | _,_,.nil=>.nil
 | _,_,.cons a b=>.cons (At.same s a) (AtAll.same s b)
end
theorem AtAll.length {H:Hp}:∀ {vs:List V}{ds:List PyData},AtAll H vs ds→vs.length=ds.length
 | _,_,.nil=>rfl
 | _,_,.cons _ b=>congrArg (· + 1) b.length
theorem AtAll.get {H:Hp}:∀ {vs:List V}{ds:List PyData}{i:Nat}{v:V},AtAll H vs ds→vs[i]?=some v→∃ d,ds[i]?=some d∧At H v d
 | _,_,i,_,.nil,h=>by simp at h
 | _,_,0,_,.cons a _,h=>by simp at h;subst h;exact ⟨_,rfl,a⟩
 | _,_,i+1,v,.cons _ b,h=>by
  obtain ⟨d,h1,h2⟩:=AtAll.get (i:=i) (v:=v) b (by simpa using h)
  exact ⟨d,by simpa using h1,h2⟩
theorem AtAll.append {H:Hp}:∀ {vs ws:List V}{ds es:List PyData},AtAll H vs ds→AtAll H ws es→AtAll H (vs++ws) (ds++es)
 | _,_,_,_,.nil,h=>h
 | _,_,_,_,.cons a b,h=>.cons a (b.append h)
theorem AtAll.snoc {H:Hp}{vs:List V}{ds:List PyData}{v:V}{d:PyData} (h:AtAll H vs ds) (a:At H v d):AtAll H (vs++[v]) (ds++[d]):=h.append (.cons a .nil)
mutual
theorem At.reads {P:Program}{w:World}{H:Hp}{h:Heap} (ok:HOk P w H h):∀ {v:V}{d:PyData}{u:Value},At H v d→RelV v u→∃ as,Reads h u d as
 | _,_,_,.non,r=>by cases r;exact ⟨_,.none⟩
 | _,_,_,.bl b,r=>by cases r;exact ⟨_,.bool b⟩
 | _,_,_,.int i,r=>by obtain ⟨t,rfl⟩:=r;exact ⟨_,.int i t⟩
 | _,_,_,.str x,r=>by obtain ⟨t,rfl⟩:=r;exact ⟨_,.str x t⟩
 | _,_,_,.lst e t,r=>by
  cases r
  obtain ⟨z,its,n,rv,ho⟩:=ok _ _ e
  obtain ⟨as,q⟩:=AtAll.reads ok t rv
  exact ⟨_,.list ho rfl rfl (by simpa using q)⟩
 | _,_,_,.tup e t,r=>by
  cases r
  obtain ⟨z,its,rv,o,ho,hc,n,hd⟩:=ok _ _ e
  obtain ⟨as,q⟩:=AtAll.reads ok t rv
  exact ⟨_,.tuple ho hc hd (by simpa using q)⟩
theorem AtAll.reads {P:Program}{w:World}{H:Hp}{h:Heap} (ok:HOk P w H h):∀ {vs:List V}{ds:List PyData}{us:List Value},AtAll H vs ds→Vals vs us→∃ as,ReadsAll h us ds as
 | _,_,_,.nil,.nil=>⟨_,.nil⟩
 | _,_,_,.cons a b,.cons r s=>by
  obtain ⟨as,q⟩:=At.reads ok a r
  obtain ⟨bs,q2⟩:=AtAll.reads ok b s
  exact ⟨_,.cons q q2⟩
end
section
variable {X:Cx}{pins:List (Addr×Obj)}{σ:St}{H:Hp}{s:Shared}{h':Heap}
theorem Inv.turnedL {ch:List Addr}{a:Addr}{o:HO}{t':Nat} (I:Inv X pins σ H s) (k:∀ b u,b∉ch→s.heap.get? b=some u→h'.get? b=some u) (hf:∀ b∈ch,FpOk X pins H b)
  (hp:s.heap.objs.size≤a) (new:qbm X.prog X.w (upd H a o) h' a o):Inv X pins σ (upd H a o) { s with heap:=h',toks:=t' }:=by
 have hn:H a=none:=I.hok.fresh hp
 have nit:∀ b u,H b=some u→b∉ch:=fun b u e z=>by rw[(hf b z).1] at e;cases e
 refine I.step (g':=s.gens) (d':=s.drawn) (ch:=ch) (fun b hb=>?_) (fun b u _ _ hc e _=>k b u hc e) (fun b u _ _ hc e _=>⟨u.slots,k b u hc e⟩) (fun b u _ e n=>?_)
  (fun b u hc e=>⟨u,k b u hc e⟩) (fun b xs e=>?_) (fun b u xs e=>?_) (fun b ps e=>⟨#[],?_⟩) (fun m hm=>?_) (fun b u e=>?_) I.bare
 ·obtain ⟨_,f1,_,f3,f4,f5⟩:=hf b hb
  exact ⟨f3,f1,f4,f5⟩
 ·rw[yaj (Nat.ne_of_lt (Nat.lt_of_lt_of_le (Heap.lt_size e) hp))];exact n
 ·rw[yaj (yae e hn)];exact e
 ·rw[yaj (yae e hn)];exact e
 ·rw[yaj (yae e hn),e];simp
 ·obtain ⟨ob,es,ep,ho,r⟩:=hm
  exact ⟨ob,es,ep,k _ ob (fun z=>(hf _ z).2.1 rfl) ho,r⟩
 ·by_cases hb:b=a
  ·subst hb;rw[yaa] at e;cases e;exact new
  ·rw[yaj hb] at e
   refine (I.hok b u e).stay (fun c v hc q=>k c v ?_ q) (fun c q=>by rw[yaj (yae q hn)];exact q) fun c xs q=>by rw[yaj (yae q hn)];exact q
   rcases hc with rfl|hc
   ·exact nit _ u e
   ·exact nit c _ hc
end
def Ite (K:PySem.W.Frag) (a:Addr):It:=
 ⟨fun i H=>∃ xs x,SqL K H a xs∧xs[i]?=some x,fun i H x H'=>∃ p y,H p=none∧x=.ref p∧H'=upd H p (.tup [.int i,y])∧∀ xs,SqL K H a xs→xs[i]?=some y,fun i H=>∃ xs,SqL K H a xs∧xs.length≤i⟩
theorem ykq {P:Program}{w:World}{K:PySem.W.Frag}{es:List Expr}{k:Nat}{tp:Pos} (a e it:Addr) (hne:e≠it) :
  Turn P w K (.Tuple es k tp) (Ite K a) [e,it] e (fun i h=>(∃ old,IsEnum h e it i old)∧h.IsListIter it a i) where
 mem:=by simp
 obj:=fun i h st b hb=>by
  obtain ⟨⟨old,he⟩,o,ho,hc,hd⟩:=st
  have hb':b=e∨b=it:=by simpa using hb
  rcases hb' with rfl|rfl
  ·exact ⟨_,he,fun v z=>by
    have z':Data.fields _=Data.cell v:=z
    cases z'⟩
  ·exact ⟨o,ho,fun v z=>by rw[hd] at z;cases z⟩
 keep:=fun i h h' st kk=>⟨st.1.imp fun _ z=>kk e (by simp) _ z,st.2.at fun o z=>kk it (by simp) o z⟩
 item:=by
  intro X hP hw hK hc i pins s σ H E I hf st hg
  subst hP hw hK
  obtain ⟨xs,x,hq,hx⟩:=hg
  obtain ⟨its,rv,p,hz⟩:=I.list hq
  obtain ⟨u,hu,ru⟩:=rv.get hx
  obtain ⟨⟨old,he⟩,hit⟩:=st
  refine wpAny_pyNext_enum_item he hit p.isList (x:=u) (by simpa using hu) hne fun h' ho hit' hT hsz hk=>?_
  have hel:e<s.heap.objs.size:=Heap.lt_size he
  have hil:it<s.heap.objs.size:=by obtain ⟨_,z,_⟩:=hit;exact Heap.lt_size z
  refine ⟨_,rfl,wpAny_letOwnedTupleGo_enum ho fun h2 he2 hs2=>?_⟩
  have keep2:∀ b ob,b∉[e,it]→s.heap.get? b=some ob→h2.get? b=some ob:=fun b ob hb z=>by
   have h1:b≠e:=fun q=>hb (by simp[q])
   have h3:b≠it:=fun q=>hb (by simp[q])
   exact (hs2.2 b h1).trans (hk b ob h1 h3 z)
  have hT2:h2.get? s.heap.objs.size=some { cls:=.type "tuple",data:=.seq #[.int i s.toks,u] }:=(hs2.2 _ (Nat.ne_of_gt hel)).trans hT
  have fresh:H s.heap.objs.size=none:=I.hok.fresh (Nat.le_refl _)
  have new:qbm X.prog X.w (upd H s.heap.objs.size (.tup [.int i,x])) h2 s.heap.objs.size (.tup [.int i,x]):=
   ⟨by show 2≤sizeLine;decide,[.int i s.toks,u],.cons ⟨_,rfl⟩ (.cons ru .nil),⟨_,hT2,rfl,_,rfl⟩⟩
  refine ⟨.ref s.heap.objs.size,upd H s.heap.objs.size (.tup [.int i,x]),I.turnedL keep2 hf (Nat.le_refl _) new,rfl,⟨_,x,fresh,rfl,rfl,fun ys hy=>by rw[I.list_inj hy hq];exact hx⟩,⟨⟨_,by simpa using he2⟩,hit'.at fun o z=>(hs2.2 it hne.symm).trans z⟩,fun b hb=>?_⟩
  rw[yaj]
  ·exact (hf b hb).1
  ·have hb':b=e∨b=it:=by simpa using hb
   rcases hb' with rfl|rfl
   ·exact Nat.ne_of_lt hel
   ·exact Nat.ne_of_lt hil
 done:=by
  intro X hP hw hK hc i pins s σ H E I hf st hg
  subst hP hw hK
  obtain ⟨xs,hq,hx⟩:=hg
  obtain ⟨its,rv,p,hz⟩:=I.list hq
  obtain ⟨⟨old,he⟩,hit⟩:=st
  have hl:=rv.length
  obtain ⟨f0,f1,f2,f3,f4,f5⟩:=hf it (by simp)
  exact wpAny_pyNext_enum_end (I.ok.hd hc) he hit p.isList (by simp;omega) fun h' eb=>⟨rfl,I.turned (t':=s.toks) (fun b o hb z=>eb b o hb z) f0 f1 f3 f4 f5⟩
 self:=fun _ _ _ _ _ st h=>wpAny_pyIter_enum st.1.choose_spec h
def iEnum (K:PySem.W.Frag) (ta:TA):TI:=fun σ H R=>ta σ H fun vs H1=>∃ a xs,vs=[.ref a]∧SqL K H1 a xs∧R (Ite K a) H1
section
variable {X:Cx}
theorem qcy {a:Expr}{ta:TA}{p pos tp:Pos}{es:List Expr}{k:Nat} (hg:Gl X "enumerate") (hm:X.mg "enumerate" = none) (ha:PA X [a] ta) (hs:starEach [a] X.env=[(false,eval a X.env)]:=by rfl) :
  PI X (.Tuple es k tp) (.Call (.Name "enumerate" p) [a] [] pos) (iEnum X.K ta):=by
 intro pins s σ H R I h
 refine Call_ (qdk I hg hm boot_enumerate (PyProof.Rows.callWith_type1 (thn (ha pos pins s σ H _ I h) fun us s1 ⟨vs,H1,I1,r1,q1⟩=>?_) hs rfl))
 obtain ⟨l,xs,e,hq,q⟩:=q1
 subst e
 cases r1 with
 | cons r rr=>
  cases rr
  cases r
  obtain ⟨its,rv,pl,hz⟩:=I1.list hq
  refine call_enumerate_list pl.isList fun h' he hit hsz hk=>?_
  refine wpAny_pyIter_enum he ⟨_,[s1.heap.objs.size+1,s1.heap.objs.size],_,Ite X.K l,H1,rfl,I1.kept (t':=s1.toks) hk,ykq l (s1.heap.objs.size+1) s1.heap.objs.size (Nat.succ_ne_self _),⟨⟨_,he⟩,hit⟩,fun b hb=>?_,q⟩
  have hb':b=s1.heap.objs.size+1∨b=s1.heap.objs.size:=by simpa using hb
  rcases hb' with rfl|rfl
  ·exact I1.fpOk (Nat.le_succ _) (I1.hok.fresh (Nat.le_succ _))
  ·exact I1.fpOk (Nat.le_refl _) (I1.hok.fresh (Nat.le_refl _))
end
theorem qb5 {K:PySem.W.Frag}{a:Addr}{xs:List V}{g:TG}{tb:TS}{D:Ends}{σ:St}{H:Hp} (Pv:Nat→St→Hp→Prop) (h0:Pv 0 σ H) (hl:∀ i σ H,i≤xs.length→Pv i σ H→SqL K H a xs)
  (hs:∀ i x p σ H,xs[i]?=some x→Pv i σ H→H p=none→g (.ref p) σ (upd H p (.tup [.int i,x])) fun σ2 H2=>tb { D with nx:=Pv (i+1),ct:=Pv (i+1),bk:=D.nx } σ2 H2) (hd:∀ σ H,Pv xs.length σ H→D.nx σ H) :
  ∃ W:Nat→Nat→St→Hp→Prop,(∃ m,W 0 m σ H)∧∀ i m σ H,W i m σ H→
   ((Ite K a).stop i H∧D.nx σ H)∨((Ite K a).go i H∧∃ N:St→Hp→Prop,(∀ σ' H',N σ' H'→∃ m',m' < m∧W (i+1) m' σ' H')∧∀ x H',(Ite K a).yld i H x H'→g x σ H' fun σ2 H2=>tb { D with nx:=N,ct:=N,bk:=D.nx } σ2 H2):=by
 refine ⟨fun i m σ H=>m=xs.length-i∧i≤xs.length∧Pv i σ H,⟨xs.length,by simp,Nat.zero_le _,h0⟩,?_⟩
 rintro i m σ H ⟨rfl,hi,p⟩
 have q:=hl i σ H hi p
 by_cases hlt:i<xs.length
 ·refine .inr ⟨⟨xs,xs[i],q,by simp[hlt]⟩,Pv (i+1),fun σ' H' p'=>⟨xs.length-(i+1),by omega,rfl,hlt,p'⟩,fun x H' y=>?_⟩
  obtain ⟨pp,z,hn,e1,e2,y⟩:=y
  subst e1 e2
  exact hs i z pp σ _ (y xs q) p hn
 ·have e:i=xs.length:=by omega
  subst e
  exact .inl ⟨⟨xs,q,Nat.le_refl _⟩,hd σ H p⟩
def Its (lo step:Int) (n:Nat):It:=⟨fun i _=>i<n,fun i H x H'=>H'=H∧x=.int (lo+i*step),fun i _=>n≤i⟩
theorem yjb {P:Program}{w:World}{K:PySem.W.Frag}{tg:Expr} (it:Addr) (lo c:Int) (n:Nat):Turn P w K tg (Its lo c n) [it] it (fun i h=>IsRangeIter h it (lo+(i:Nat)*c) ((n:Int)-(i:Nat)) c) where
 mem:=by simp
 obj:=fun i h st b hb=>by
  have e:b=it:=by simpa using hb
  subst e
  exact ⟨_,st,fun v z=>by
   have z':Data.fields _=Data.cell v:=z
   cases z'⟩
 keep:=fun i h h' st k=>k it (by simp) _ st
 item:=by
  intro X hP hw hK hc i pins s σ H E I hf st hg
  subst hP hw hK
  obtain ⟨f0,f1,f2,f3,f4,f5⟩:=hf it (by simp)
  have W:=Walks.range (prog:=X.prog) (w:=X.w) (I.ok.hd hc) it lo c n
  refine W.item i s _ _ hg st fun v h' tk hv st' kk=>?_
  obtain ⟨t,rfl⟩:=hv
  have I1:Inv X pins σ H { s with heap:=h',toks:=tk }:=I.turned (fun b o hb e=>kk b o (by simpa using hb) e) f0 f1 f3 f4 f5
  exact ⟨_,rfl,go_of (s:={ s with heap:=h',toks:=tk }) (n:="range_iterator") st' rfl rfl (by decide) ⟨.int (lo+i*c),H,I1,⟨t,rfl⟩,⟨rfl,rfl⟩,st',fun b hb=>(hf b hb).1⟩⟩
 done:=by
  intro X hP hw hK hc i pins s σ H E I hf st hg
  subst hP hw hK
  obtain ⟨f0,f1,f2,f3,f4,f5⟩:=hf it (by simp)
  exact wpAny_pyNext_range_end (I.ok.hd hc) st (by have:n≤i:=hg;omega) fun h' eb=>⟨rfl,I.turned (t':=s.toks) (fun b o hb e=>eb b o hb e) f0 f1 f3 f4 f5⟩
 self:=fun _ _ _ _ _ st h=>wpAny_pyIter_rangeiter st h
def yfa (lo hi c:Int):Nat:=if lo<hi then ((hi-lo-1) / c+1).toNat else 0
def iRng3 (ta:TA):TI:=fun σ H R=>ta σ H fun vs H1=>∃ i j c:Int,vs=[.int i,.int j,.int c]∧(-(2 ^ 60)≤i∧i<2 ^ 60∧-(2 ^ 60)≤j∧j<2 ^ 60∧0<c∧c<1073741824)∧R (Its i c (yfa i j c)) H1
theorem qei {lo hi c:Int} (hc:0<c):Builtin.Range.rangeSize lo hi c=(yfa lo hi c:Int):=by
 have hq:lo<hi→0≤(hi-lo-1) / c:=fun h=>Int.ediv_nonneg (by omega) (by omega)
 unfold Builtin.Range.rangeSize yfa
 rw[if_pos (show c>0 from hc)]
 by_cases h:lo<hi
 ·rw[if_pos h,if_pos h]
  have:=hq h
  omega
 ·rw[if_neg h,if_neg h]
  rfl
theorem ylp {lo hi c:Int} (h:-(2 ^ 60)≤lo∧lo<2 ^ 60∧-(2 ^ 60)≤hi∧hi<2 ^ 60∧0<c∧c<1073741824):Builtin.Range.small lo hi c=true:=by
 obtain ⟨h1,h2,h3,h4,h5,h6⟩:=h
 have hs:=qei (lo:=lo) (hi:=hi) h5
 have hle:(yfa lo hi c:Int)≤2 ^ 61:=by
  unfold yfa
  by_cases h:lo<hi
  ·rw[if_pos h]
   have a1:(hi-lo-1) / c≤hi-lo-1:=Int.ediv_le_self _ (by omega)
   omega
  ·rw[if_neg h];decide
 unfold Builtin.Range.small
 rw[hs]
 simp only[Builtin.Range.rangeFitsLong,Bool.and_eq_true,Bool.or_eq_true,decide_eq_true_eq,beq_iff_eq,show c>0 from h5,if_true]
 refine ⟨⟨⟨⟨?_,?_⟩,?_⟩,?_⟩,.inr ?_⟩<;>constructor<;>omega
section
variable {X:Cx}{tg:Expr}
theorem qkx {a b c:Expr}{ta:TA}{p pos:Pos} (hg:Gl X "range") (hm:X.mg "range" = none) (ha:PA X [a,b,c] ta) (hs:starEach [a,b,c] X.env=(false,eval a X.env)::starEach [b,c] X.env:=by rfl)
  (hs2:(backTo pos (starEach [b,c] X.env)).any (·.1)=false:=by rfl) :
  PI X tg (.Call (.Name "range" p) [a,b,c] [] pos) (iRng3 ta):=by
 intro pins s σ H R I h
 refine Call_ (qdk I hg hm boot_range (PyProof.Rows.callWith_type1 (thn (ha pos pins s σ H _ I h) fun us s1 ⟨vs,H1,I1,r1,q1⟩=>?_) hs hs2))
 obtain ⟨i,j,c,e,hb,q⟩:=q1
 subst e
 cases r1 with
 | cons r rr=>
  cases rr with
  | cons r' rr=>
   cases rr with
   | cons r2 rr=>
    cases rr
    obtain ⟨t,rfl⟩:=r
    obtain ⟨t',rfl⟩:=r'
    obtain ⟨t2,rfl⟩:=r2
    obtain ⟨b1,b2,b3,b4,b5,b6⟩:=id hb
    refine call_range_3 (by omega) ?_ (.inl (PyProof.noPylong_small (by omega)))
    refine wpAny_pyIter_range (IsRange.new ..) (ylp hb) ?_
    have I2:Inv X pins σ H1 { s1 with heap:=s1.heap.push { cls:=.type "range",data:=.fields #[.int i t,.int j t',.int c t2] },toks:=s1.toks }:=I1.kept fun b o e=>Heap.get?_push_of_some _ e
    refine ⟨(s1.heap.push { cls:=.type "range",data:=.fields #[.int i t,.int j t',.int c t2] }).objs.size,[(s1.heap.push { cls:=.type "range",data:=.fields #[.int i t,.int j t',.int c t2] }).objs.size],_,_,H1,rfl,
     I2.kept (t':=s1.toks) fun b o e=>Heap.get?_push_of_some _ e,yjb _ i c (yfa i j c),?_,fun b hb=>?_,q⟩
    ·have e1:i+((0:Nat):Int)*c=i:=by simp
     have e2:((yfa i j c:Nat):Int)-((0:Nat):Int)=Builtin.Range.rangeSize i j c:=by rw[qei b5];omega
     show IsRangeIter _ _ (i+((0:Nat):Int)*c) (((yfa i j c:Nat):Int)-((0:Nat):Int)) c
     rw[e1,e2]
     exact Heap.get?_push_size _ rfl
    ·have e:b=(s1.heap.push { cls:=.type "range",data:=.fields #[.int i t,.int j t',.int c t2] }).objs.size:=by simpa using hb
     subst e
     exact I2.fpOk (Nat.le_refl _) (I2.hok.fresh (Nat.le_refl _))
end
theorem qkn {lo c:Int}{n:Nat}{g:TG}{tb:TS}{D:Ends}{σ:St}{H:Hp} (Pv:Nat→St→Hp→Prop) (h0:Pv 0 σ H)
  (hs:∀ i σ H,i<n→Pv i σ H→g (.int (lo+i*c)) σ H fun σ2 H2=>tb { D with nx:=Pv (i+1),ct:=Pv (i+1),bk:=D.nx } σ2 H2) (hd:∀ σ H,Pv n σ H→D.nx σ H) :
  ∃ W:Nat→Nat→St→Hp→Prop,(∃ m,W 0 m σ H)∧∀ i m σ H,W i m σ H→
   ((Its lo c n).stop i H∧D.nx σ H)∨((Its lo c n).go i H∧∃ N:St→Hp→Prop,(∀ σ' H',N σ' H'→∃ m',m' < m∧W (i+1) m' σ' H')∧∀ x H',(Its lo c n).yld i H x H'→g x σ H' fun σ2 H2=>tb { D with nx:=N,ct:=N,bk:=D.nx } σ2 H2):=by
 refine ⟨fun i m σ H=>m=n-i∧i≤n∧Pv i σ H,⟨n,by simp,Nat.zero_le _,h0⟩,?_⟩
 rintro i m σ H ⟨rfl,hi,p⟩
 by_cases hlt:i<n
 ·refine .inr ⟨hlt,Pv (i+1),fun σ' H' p'=>⟨n-(i+1),by omega,rfl,hlt,p'⟩,fun x H' y=>?_⟩
  obtain ⟨e,y⟩:=y
  subst e y
  exact hs i σ _ hlt p
 ·have e:i=n:=by omega
  subst e
  exact .inl ⟨Nat.le_refl _,hd σ H p⟩
def clOf (cells:List (Str×Addr)):List (Str×NameKind)→List (Str×Addr)→List (Str×Addr)
 | [],cs=>cs
 | (n,k)::r,cs=>if k=.free then clOf cells r ((n,(cells.lookup n).getD 0)::cs) else clOf cells r cs
theorem ydn {scope:Scope}{env:Env} (h:∀ x∈scope.names,x.2=.free→∃ c,env.cells.lookup x.1=some c):closureFor scope env=pure (clOf env.cells scope.names []):=by
 unfold closureFor
 generalize hn:scope.names=names at h
 suffices hh:∀ (l:List (Str×NameKind)) (cs:List (Str×Addr)),(∀ x∈l,x.2=.free→∃ c,env.cells.lookup x.1=some c)→
   (forIn l cs (fun (x:Str×NameKind) r=>if (x.2 == NameKind.free)=true then (do let a ← cellOf env x.1;pure (ForInStep.yield ((x.1,a)::r))) else pure (ForInStep.yield r)):Sem (List (Str×Addr)))=pure (clOf env.cells l cs) by
  have:=hh names [] h
  simp only[bind_pure]
  exact this
 intro l
 induction l with
 | nil=>intro cs _;rfl
 | cons x l ih=>
  intro cs hl
  obtain ⟨n,k⟩:=x
  rw[List.forIn_cons]
  by_cases hk:k=.free
  ·subst hk
   obtain ⟨c,hc⟩:=hl (n,.free) List.mem_cons_self rfl
   have e1:cellOf env n=pure c:=by unfold cellOf;rw[hc]
   have ec:clOf env.cells ((n,NameKind.free)::l) cs=clOf env.cells l ((n,c)::cs):=by
    show (if NameKind.free=NameKind.free then _ else _)=_
    rw[if_pos rfl,hc];rfl
   rw[ec]
   simp only[e1,pure_bind,beq_self_eq_true,if_true]
   exact ih _ fun y hy=>hl y (List.mem_cons_of_mem _ hy)
  ·have hb:(k == NameKind.free)=false:=by cases k<;>first|rfl|exact absurd rfl hk
   have ec:clOf env.cells ((n,k)::l) cs=clOf env.cells l cs:=by
    show (if k=NameKind.free then _ else _)=_
    rw[if_neg hk]
   rw[ec]
   simp only[hb,pure_bind,Bool.false_eq_true,if_false]
   exact ih _ fun y hy=>hl y (List.mem_cons_of_mem _ hy)
theorem qdu {cells:List (Str×Addr)}:∀ {l:List (Str×NameKind)}{cs:List (Str×Addr)},(∀ x∈l,x.2=.free→∃ c,cells.lookup x.1=some c)→(∀ p∈cs,cells.lookup p.1=some p.2)→∀ p∈clOf cells l cs,cells.lookup p.1=some p.2
 | [],_,_,h=>h
 | (n,k)::r,cs,hl,h=>by
  unfold clOf
  split
  ·rename_i hk
   refine qdu (fun x hx=>hl x (List.mem_cons_of_mem _ hx)) fun p hp=>?_
   rcases List.mem_cons.mp hp with rfl|hp
   ·obtain ⟨c,hc⟩:=hl (n,k) List.mem_cons_self hk
    show cells.lookup n=some ((cells.lookup n).getD 0)
    have hc':cells.lookup n=some c:=hc
    rw[hc'];rfl
   ·exact h p hp
  ·exact qdu (fun x hx=>hl x (List.mem_cons_of_mem _ hx)) h
theorem qel {l:List (Str×Addr)}{x:Str} (h:∃ c,(x,c)∈l):∃ c,l.lookup x=some c:=by
 obtain ⟨c,h⟩:=h
 induction l with
 | nil=>cases h
 | cons p r ih=>
  obtain ⟨y,d⟩:=p
  by_cases e:(x == y)=true
  ·exact ⟨d,by rw[List.lookup_cons,e]⟩
  ·have e':(x == y)=false:=by simpa using e
   rcases List.mem_cons.mp h with q|q
   ·cases q;exact absurd (beq_self_eq_true _) e
   ·obtain ⟨c',z⟩:=ih q
    exact ⟨c',by rw[List.lookup_cons,e'];exact z⟩
theorem qfm {cells:List (Str×Addr)}{x:Str}:∀ {l:List (Str×NameKind)}{cs:List (Str×Addr)},((x,NameKind.free)∈l∨∃ c,(x,c)∈cs)→∃ c,(x,c)∈clOf cells l cs
 | [],_,h=>by
  rcases h with h|h
  ·cases h
  ·exact h
 | (n,k)::r,cs,h=>by
  unfold clOf
  split
  ·rename_i hk
   refine qfm ?_
   rcases h with h|⟨c,h⟩
   ·rcases List.mem_cons.mp h with q|q
    ·cases q;exact .inr ⟨_,List.mem_cons_self⟩
    ·exact .inl q
   ·exact .inr ⟨c,List.mem_cons_of_mem _ h⟩
  ·rename_i hk
   refine qfm ?_
   rcases h with h|h
   ·rcases List.mem_cons.mp h with q|q
    ·cases q;exact absurd rfl hk
    ·exact .inl q
   ·exact .inr h
theorem qe8 {env:Env}{x:Str}:∀ {l:List (Str×NameKind)},l.lookup x=some .free→
  (l.map fun (n,k)=>if (k == NameKind.free&&env.scope.kind == .function&&env.kindOf n == some .cell) then (n,NameKind.cell) else (n,k)).lookup x=some .cell∨
  (l.map fun (n,k)=>if (k == NameKind.free&&env.scope.kind == .function&&env.kindOf n == some .cell) then (n,NameKind.cell) else (n,k)).lookup x=some .free
 | [],h=>by simp at h
 | (n,k)::r,h=>by
  rw[List.map_cons]
  cases hx:x == n with
  | true=>
   rw[List.lookup_cons,hx] at h
   cases h
   by_cases hc:(NameKind.free == NameKind.free&&env.scope.kind == .function&&env.kindOf n == some .cell)=true
   ·left;simp only[hc,if_true,List.lookup_cons,hx]
   ·right;simp only[hc,Bool.false_eq_true,if_false,List.lookup_cons,hx]
  | false=>
   rw[List.lookup_cons,hx] at h
   have ih:=qe8 (env:=env) (l:=r) h
   by_cases hc:(k == NameKind.free&&env.scope.kind == .function&&env.kindOf n == some .cell)=true
   ·simp only[hc,if_true,List.lookup_cons,hx];exact ih
   ·simp only[hc,Bool.false_eq_true,if_false,List.lookup_cons,hx];exact ih
theorem yfq {env:Env}{x:Str}:∀ {l:List (Str×NameKind)},(∀ y∈l,y.2≠.cell)→
  ((l.map fun (n,k)=>if (k == NameKind.free&&env.scope.kind == .function&&env.kindOf n == some .cell) then (n,NameKind.cell) else (n,k)).lookup x=some .cell∨
  (l.map fun (n,k)=>if (k == NameKind.free&&env.scope.kind == .function&&env.kindOf n == some .cell) then (n,NameKind.cell) else (n,k)).lookup x=some .free)→(x,NameKind.free)∈l
 | [],_,h=>by simp at h
 | (n,k)::r,hn,h=>by
  rw[List.map_cons] at h
  cases hx:x == n with
  | true=>
   have e:x=n:=by simpa using hx
   subst e
   by_cases hc:(k == NameKind.free&&env.scope.kind == .function&&env.kindOf x == some .cell)=true
   ·have:k=.free:=by
     simp only[Bool.and_eq_true,beq_iff_eq] at hc
     exact hc.1.1
    subst this
    exact List.mem_cons_self
   ·simp only[hc,Bool.false_eq_true,if_false,List.lookup_cons,hx,Option.some.injEq] at h
    rcases h with h|h
    ·exact absurd h (hn (x,k) List.mem_cons_self)
    ·subst h;exact List.mem_cons_self
  | false=>
   have h':(r.map fun (n,k)=>if (k == NameKind.free&&env.scope.kind == .function&&env.kindOf n == some .cell) then (n,NameKind.cell) else (n,k)).lookup x=some .cell∨
     (r.map fun (n,k)=>if (k == NameKind.free&&env.scope.kind == .function&&env.kindOf n == some .cell) then (n,NameKind.cell) else (n,k)).lookup x=some .free:=by
    by_cases hc:(k == NameKind.free&&env.scope.kind == .function&&env.kindOf n == some .cell)=true
    ·simp only[hc,if_true,List.lookup_cons,hx] at h;exact h
    ·simp only[hc,Bool.false_eq_true,if_false,List.lookup_cons,hx] at h;exact h
   exact List.mem_cons_of_mem _ (yfq (fun y hy=>hn y (List.mem_cons_of_mem _ hy)) h')
def ya8 (X:Cx) (M:List Str) (scope:Scope) (C:Addr) (fp:List Addr) (s2:Shared) (H2:Hp):Cx:=
 {prog:=X.prog,w:=X.w,K:=X.K,mg:=X.mg,base:=X.base,A:=X.A,N:=M,s₀:=s2,H₀:=H2,env:=compEnvC scope (clOf X.env.cells scope.names []) C X.env,
  outer:=X.stack,stack:=X.stack,ex:=fp,fn:=fun _=>false,calm:=X.calm,pn:=[],xe:=fun _ _=>False }
def capS (ix:List (Option Nat)) (σ:St):St:=ix.map fun o=>match o with
 | none=>none
 | some j=>(σ[j]?).getD none
structure CompOk (N M:List Str) (ix:List (Option Nat)) (sc xs:Scope):Prop where
 kind:sc.kind=.function
 len:M.length=ix.length
 nocell:∀ y∈sc.names,y.2≠.cell
 loc:∀ y∈sc.names,y.2=.local→sc.names.lookup y.1=some .local
 fr:∀ y∈sc.names,y.2=.free→xs.names.lookup y.1=some .cell∨xs.names.lookup y.1=some .free
 cap:∀ (i:Nat) (j:Nat),ix[i]?=some (some j)→∃ x,M[i]?=some x∧N[j]?=some x∧sc.names.lookup x=some .free
def qlh (N M:List Str) (ix:List (Option Nat)) (sc xs:Scope):Bool:=
 decide (sc.kind=.function)&&decide (M.length=ix.length)&&sc.names.all (fun y=>decide (y.2≠.cell))&&sc.names.all (fun y=>decide (y.2≠.local)||decide (sc.names.lookup y.1=some .local)) &&
 sc.names.all (fun y=>decide (y.2≠.free)||decide (xs.names.lookup y.1=some .cell)||decide (xs.names.lookup y.1=some .free)) &&
 (List.range ix.length).all (fun i=>match ix[i]? with
  | some (some j)=>match M[i]? with
   | some x=>decide (N[j]?=some x)&&decide (sc.names.lookup x=some .free)
   | none=>false
  | _=>true)
theorem qas {N M:List Str}{ix:List (Option Nat)}{sc xs:Scope} (h:qlh N M ix sc xs=true):CompOk N M ix sc xs:=by
 unfold qlh at h
 simp only[Bool.and_eq_true,List.all_eq_true,decide_eq_true_eq,Bool.or_eq_true] at h
 obtain ⟨⟨⟨⟨⟨h1,h2⟩,h3⟩,h4⟩,h5⟩,h6⟩:=h
 refine ⟨h1,h2,h3,fun y hy e=>?_,fun y hy e=>?_,fun i j e=>?_⟩
 ·rcases h4 y hy with q|q
  ·exact absurd e q
  ·exact q
 ·rcases h5 y hy with (q|q)|q
  ·exact absurd e q
  ·exact .inl q
  ·exact .inr q
 ·have hi:i<ix.length:=(List.getElem?_eq_some_iff.mp e).1
  have q:=h6 i (List.mem_range.mpr hi)
  rw[e] at q
  cases hm:M[i]? with
  | none=>rw[hm] at q;cases q
  | some x=>
   rw[hm] at q
   simp only[Bool.and_eq_true,decide_eq_true_eq] at q
   exact ⟨x,rfl,q.1,q.2⟩
section
variable {X:Cx}
def PTs (X:Cx) (ifs:List Expr) (t:TT):Prop:=
 ∀ (pins:List (Addr×Obj)) (s:Shared) (σ:St) (H:Hp) (Q:Bool→Hp→Prop),Inv X pins σ H s→t σ H Q→
  wpAny (model X.prog X.w) X.A (forIn ifs true fun c r=>if r=true then do let ok ← isTrue c X.env (eval c X.env);pure (ForInStep.yield ok) else pure (ForInStep.yield r)) (TP X pins σ Q) X.xe s
def tYes:TT:=fun _ H Q=>Q true H
theorem qcv:PTs X [] tYes:=fun _ _ _ H _ I h=>wpAny_tests_nil ⟨H,I,h⟩
theorem ycm {c:Expr}{t:TT} (h:PT X c t):PTs X [c] t:=fun pins s σ H Q I hq=>wpAny_tests_one (h pins s σ H Q I hq)
end
theorem Un.butNew {fs ex:List Addr}{H H':Hp}{h h1 h2:Heap}{C:Addr} (u:Un fs ex H H' h h1) (hC:h.objs.size≤C) (sb:Heap.SameBut C h1 h2):Un fs ex H H' h h2:=by
 have ne:∀ b o,h.get? b=some o→b≠C:=fun b o e=>Nat.ne_of_lt (Nat.lt_of_lt_of_le (Heap.lt_size e) hC)
 refine ⟨fun b o e n h3 h4=>(sb.2 b (ne b o e)).trans (u.keep b o e n h3 h4),fun b o e n h3 h4=>?_,u.free,fun b o e h4=>?_,u.tups,u.frzs,u.tbls⟩
 ·obtain ⟨sl,q⟩:=u.slot b o e n h3 h4
  exact ⟨sl,(sb.2 b (ne b o e)).trans q⟩
 ·obtain ⟨o',q⟩:=u.there b o e h4
  exact ⟨o',(sb.2 b (ne b o e)).trans q⟩
section
variable {X:Cx}{pins:List (Addr×Obj)}{σ:St}{H2:Hp}{s2:Shared}{M:List Str}{ix:List (Option Nat)}{scope:Scope}{fp:List Addr}
theorem comp_ok {C:Addr} (I:Inv X pins σ H2 s2) (ck:CompOk X.N M ix scope X.env.scope) (hC:s2.heap.objs.size≤C) (f2:∀ b∈fp,FpOk X pins H2 b) (hfp:∀ b∈fp,b<s2.heap.objs.size):(ya8 X M scope C fp s2 H2).Ok:=by
 have hfree:∀ x∈scope.names,x.2=.free→∃ c,X.env.cells.lookup x.1=some c:=fun x hx e=>I.ok.has x.1 (ck.fr x hx e)
 have snd:∀ x c,(clOf X.env.cells scope.names []).lookup x=some c→X.env.cells.lookup x=some c:=fun x c e=>qdu (cs:=[]) hfree (by intro p hp;cases hp) (x,c) (PySem.mem_of_lookup e)
 refine ⟨I.ok.mod,ck.kind,I.ok.glob,I.ok.blt,hC,fun x y c h1 h2=>I.ok.inj x y c (snd x c h1) (snd y c h2),fun x hx=>?_,(by intro x c h;cases h),I.ok.hd,I.ok.frames,.inl rfl,fun b hb=>⟨?_,fun x c e=>?_⟩,fun b o e=>I.bs b o e,
  Nat.le_trans I.ok.bsz I.sz,fun b o e hb=>?_,fun b hb hb2=>?_,I.stack,I.stkFree⟩
 ·exact qel (qfm (.inl (yfq ck.nocell hx)))
 ·exact Nat.ne_of_lt (Nat.lt_of_lt_of_le (hfp b hb) hC)
 ·exact (f2 b hb).2.2.2.2.1 x c (snd x c e)
 ·rcases (f2 b hb).2.2.2.1 with z|z
  ·exact I.ok.noex b o e z
  ·exact absurd (Nat.lt_of_lt_of_le (Heap.lt_size e) (Nat.le_trans I.ok.bsz z)) (Nat.lt_irrefl _)
 ·obtain ⟨_,n1,n2,_⟩:=f2 b hb
  rcases List.mem_cons.mp (I.stkSub b hb2) with z|z
  ·exact n1 z
  ·exact n2 z
theorem comp_inv {C D:Addr}{h1:Heap}{tk:Nat} (I:Inv X pins σ H2 s2) (ck:CompOk X.N M ix scope X.env.scope) (hC:s2.heap.objs.size≤C) (hD:s2.heap.objs.size≤D) (hDC:C≠D) (f2:∀ b∈fp,FpOk X pins H2 b) (hfp:∀ b∈fp,b<s2.heap.objs.size)
  (old:∀ b o,s2.heap.get? b=some o→h1.get? b=some o) (hn:h1.Ns C fun _=>none) (hnew:h1.get? D=some { cls:=.type "list",data:=.seq #[] }) :
  Inv (ya8 X M scope C fp s2 H2) [] (capS ix σ) (upd H2 D (.lst [])) { s2 with heap:=h1,toks:=tk }:=by
 have hfree:∀ x∈scope.names,x.2=.free→∃ c,X.env.cells.lookup x.1=some c:=fun x hx e=>I.ok.has x.1 (ck.fr x hx e)
 have snd:∀ x c,(clOf X.env.cells scope.names []).lookup x=some c→X.env.cells.lookup x=some c:=fun x c e=>qdu (cs:=[]) hfree (by intro p hp;cases hp) (x,c) (PySem.mem_of_lookup e)
 have fD:H2 D=none:=I.hok.fresh hD
 refine ⟨comp_ok I ck hC f2 hfp,rfl,I.bare,Un.laid old hD fD,⟨_,hn,fun i x v e1 e2 e3=>?_⟩,fun x c e=>?_,?_,fun x c e=>?_,(by intro p hp;cases hp),I.hok.laid (o:=.lst []) old hD ⟨Nat.zero_le _,[],0,.nil,hnew⟩,?_⟩
 ·obtain ⟨j,hj,hv⟩:∃ j,ix[i]?=some (some j)∧σ[j]?=some (some v):=by
   unfold capS at e2
   rw[List.getElem?_map] at e2
   cases q:ix[i]? with
   | none=>rw[q] at e2;cases e2
   | some o=>
    rw[q] at e2
    cases o with
    | none=>cases e2
    | some j=>
     refine ⟨j,rfl,?_⟩
     have e2':(σ[j]?).getD none=some v:=Option.some.inj e2
     cases z:σ[j]? with
     | none=>rw[z] at e2';cases e2'
     | some y=>rw[z] at e2';rw[show y=some v from e2']
  obtain ⟨y,hm,hN,hf⟩:=ck.cap i j hj
  have e1':M[i]?=some x:=e1
  rw[hm] at e1';cases e1'
  obtain ⟨m,hnl,hl⟩:=I.loc
  have hmem:(x,NameKind.free)∈scope.names:=PySem.mem_of_lookup hf
  have hk:=ck.fr _ hmem rfl
  obtain ⟨u,ru,lk⟩:=hl j x v hN hv (hk.elim (fun z=>.inr (.inl z)) fun z=>.inr (.inr z))
  refine ⟨u,ru,.inr ⟨qe8 hf,?_⟩⟩
  rcases lk with ⟨kl,_⟩|⟨_,c,hc,hcell⟩
  ·have kl':X.env.scope.names.lookup x=some .local:=kl
   rcases hk with z|z
   ·rw[z] at kl';cases kl'
   ·rw[z] at kl';cases kl'
  ·obtain ⟨c2,h2⟩:=qel (qfm (cells:=X.env.cells) (cs:=[]) (.inl hmem))
   have h3:=snd x c2 h2
   rw[hc] at h3;cases h3
   obtain ⟨o,ho,hd⟩:=hcell
   exact ⟨c,h2,o,old c o ho,hd⟩
 ·obtain ⟨v,o,ho,hd⟩:=I.cell x c (snd x c e)
  exact ⟨v,o,old c o ho,hd⟩
 ·show upd H2 D (.lst []) C=none
  rw[yaj hDC]
  exact I.hok.fresh hC
 ·show upd H2 D (.lst []) c=none
  obtain ⟨v,z⟩:=I.cell x c (snd x c e)
  rw[yaj (Nat.ne_of_lt (Nat.lt_of_lt_of_le z.lt hD))]
  exact I.freeC x c (snd x c e)
 ·show (capS ix σ).length=M.length
  unfold capS
  rw[List.length_map,ck.len]
theorem ylw {C:Addr}{σ':St}{H':Hp}{s':Shared}{h2:Heap}{pl:List (Addr×Obj)} (I:Inv X pins σ H2 s2) (J:Inv (ya8 X M scope C fp s2 H2) pl σ' H' s') (f2:∀ b∈fp,FpOk X pins H2 b) (sb:Heap.SameBut C s'.heap h2):Inv X pins σ H' { s' with heap:=h2 }:=by
 have hC:s2.heap.objs.size≤C:=J.ok.above
 refine I.call' (s':={ s' with heap:=h2 }) (ch:=fp) J.os (Un.butNew J.base hC sb) (fun a o e=>?_) J.bare fun b hb=>?_
 ·have fr:H' C=none:=J.free
  refine (J.hok a o e).stay (fun c v hc q=>(sb.2 c ?_).trans q) (fun _ q=>q) fun _ _ q=>q
  rintro rfl
  rcases hc with z|z
  ·rw[← z,fr] at e;cases e
  ·rw[fr] at z;cases z
 ·obtain ⟨_,n1,_,n3,n4,n5⟩:=f2 b hb
  exact ⟨n3,n1,n4,n5⟩
end
def yau (l l':St):Prop:=l'.length=l.length∧∀ (i:Nat) (v:V),l[i]?=some (some v)→l'[i]?=some (some v)
theorem yau.refl (l:St):yau l l:=⟨rfl,fun _ _ h=>h⟩
theorem yau.set {l l':St}{i:Nat}{x:Option V} (h:yau l l') (hi:l[i]?=some none):yau l (l'.set i x):=by
 refine ⟨by rw[List.length_set];exact h.1,fun j v e=>?_⟩
 by_cases hj:j=i
 ·subst hj;rw[hi] at e;cases e
 ·rw[List.getElem?_set_ne (Ne.symm hj)];exact h.2 j v e
def tComp (wi:TI) (ix:List (Option Nat)) (g:TG) (tt:TT) (te:TE):TE:=fun σ H Q=>wi σ H fun J H1=>∀ D,H1 D=none→∃ W:Nat→Nat→Hp→Prop,(∃ m,W 0 m (upd H1 D (.lst [])))∧∀ i m H,W i m H→
 (J.stop i H∧Q (.ref D) H)∨(J.go i H∧∃ N:Hp→Prop,(∀ H',N H'→∃ m',m' < m∧W (i+1) m' H')∧∀ x H',J.yld i H x H'→g x (capS ix σ) H' fun σ2 H2=>yau (capS ix σ) σ2∧tt σ2 H2 fun b H3=>
  if b=true then te σ2 H3 fun v H4=>∃ ys,H4 D=some (.lst ys)∧ys.length<sizeLine∧N (upd H4 D (.lst (ys++[v]))) else N H3)
section
variable {X:Cx}{elt tg iter:Expr}{ifs:List Expr}{scope:Scope}{pos:Pos}{wi:TI}{g:TG}{tt:TT}{te:TE}{M:List Str}{ix:List (Option Nat)}
theorem qlo {pins:List (Addr×Obj)}{σ:St}{H2 H4:Hp}{s2 s4:Shared}{fp:List Addr}{it C D:Addr}{tn:Nat→Heap→Prop}{J:It}{R:Result→Shared→Prop}{QD:Hp→Prop} (I2:Inv X pins σ H2 s2) (hc:X.calm=true)
  (f2:∀ b∈fp,FpOk X pins H2 b) (T:Turn X.prog X.w X.K tg J fp it tn)
  (hg:PG (ya8 X M scope C fp s2 H2) tg g) (ht:PTs (ya8 X M scope C fp s2 H2) ifs tt) (he:PE (ya8 X M scope C fp s2 H2) elt te)
  (I4:Inv (ya8 X M scope C fp s2 H2) [] (capS ix σ) H4 s4) (st4:tn 0 s4.heap) (fr4:∀ b∈fp,H4 b=none) (W:Nat→Nat→Hp→Prop) (m0:Nat) (w0:W 0 m0 H4)
  (turn:∀ i m H,W i m H→(J.stop i H∧QD H)∨(J.go i H∧∃ N:Hp→Prop,(∀ H',N H'→∃ m',m' < m∧W (i+1) m' H')∧∀ x H',J.yld i H x H'→g x (capS ix σ) H' fun σ2 H2=>yau (capS ix σ) σ2∧tt σ2 H2 fun b H3=>
   if b=true then te σ2 H3 fun v H4=>∃ ys,H4 D=some (.lst ys)∧ys.length<sizeLine∧N (upd H4 D (.lst (ys++[v]))) else N H3))
  (fin:∀ H' s',Inv (ya8 X M scope C fp s2 H2) [] (capS ix σ) H' s'→QD H'→R (.ok .next) s') :
  codeAny (model X.prog X.w) X.A (.compLoop (.ListComp elt [⟨tg,iter,ifs,0⟩] scope pos) 0 (.ref it) (.ref D) (compEnvC scope (clOf X.env.cells scope.names []) C X.env)) R s4:=by
 have stat:∀ {H':Hp},(∀ b∈fp,H' b=none)→∀ b∈fp,FpOk (ya8 X M scope C fp s2 H2) [] H' b:=fun {H'} hn b hb=>
  ⟨hn b hb,(I4.ok.exf b hb).1,I4.ok.exfs b hb,.inl hb,(I4.ok.exf b hb).2,by intro p hp;cases hp⟩
 refine codeAny_loop rfl (fun n s'=>∃ i H',Inv (ya8 X M scope C fp s2 H2) [] (capS ix σ) H' s'∧tn i s'.heap∧(∀ b∈fp,H' b=none)∧W i n H') ?_ m0 ⟨0,H4,I4,st4,fr4,w0⟩
 rintro n s5 ⟨i,H5,I5,st5,fr5,w5⟩
 show wpAny (model X.prog X.w) X.A ((compTurn (.ListComp elt [⟨tg,iter,ifs,0⟩] scope pos) 0 (.ref it) (.ref D) (compEnvC scope (clOf X.env.cells scope.names []) C X.env)).onRaise (fun x=>do noteFrame x (compEnvC scope (clOf X.env.cells scope.names []) C X.env);theTreesLotGoes x)) _ _ s5
 refine wpAny_noted ?_
 rw[compTurn_list]
 refine wpAny_bind (wpAny_standAt (wpAny_bind ?_))
 rcases turn i n H5 w5 with ⟨stop,qn⟩|⟨go,N,hN,step⟩
 ·refine thn (T.done (ya8 X M scope C fp s2 H2) rfl rfl rfl hc i [] s5 (capS ix σ) H5 _ I5 (stat fr5) st5 stop) fun r s6 ⟨hr,I6⟩=>?_
  subst hr
  exact wpAny_pure (fin H5 s6 I6 qn)
 ·refine thn (T.item (ya8 X M scope C fp s2 H2) rfl rfl rfl hc i [] s5 (capS ix σ) H5 _ I5 (stat fr5) st5 go) fun r s6 ⟨u,hr,h6⟩=>?_
  subst hr
  refine wpAny_bind (thn h6 fun _ s7 ⟨x,H7,I7,r7,y7,st7,fr7⟩=>?_)
  have I7':=I7.pinned (stat fr7) (T.obj _ _ st7)
  refine wpAny_bind (wpAny_mono (hg _ s7 (capS ix σ) H7 x u _ I7' r7 (step x H7 y7)) (fun _ s8 ⟨σ8,H8,I8,k8,q8⟩=>?_) fun _ _ z=>False.elim z)
  refine wpAny_bind (wpAny_mono (ht _ s8 σ8 H8 _ I8 q8) (fun ok s9 ⟨H9,I9,q9⟩=>?_) fun _ _ z=>False.elim z)
  have again:∀ {Ha:Hp}{sa:Shared},Inv (ya8 X M scope C fp s2 H2) ([]++yid fp s7.heap) σ8 Ha sa→N Ha→∃ m,m<n∧∃ i H',Inv (ya8 X M scope C fp s2 H2) [] (capS ix σ) H' sa∧tn i sa.heap∧(∀ b∈fp,H' b=none)∧W i m H':=fun {Ha sa} Ia na=>by
   obtain ⟨m',hm,wa⟩:=hN Ha na
   refine ⟨m',hm,i+1,Ha,Ia.unpinned.weak k8.1.symm k8.2,T.keep _ _ _ st7 fun b hb o e=>(Ia.pin (b,o) (List.mem_append_right _ (List.mem_append_right _ (qdx hb e)))).1,fun b hb=>?_,wa⟩
   obtain ⟨o,e,d⟩:=T.obj _ _ st7 b hb
   exact (Ia.pin (b,o) (List.mem_append_right _ (List.mem_append_right _ (qdx hb e)))).2.1
  cases ok with
  | false=>exact wpAny_pure ⟨rfl,again I9 q9⟩
  | true=>
   refine wpAny_bind (wpAny_bind (wpAny_mono (he _ s9 σ8 H9 _ I9 q9) (fun xv s10 ⟨v,H10,I10,r10,ys,hD,hl,q10⟩=>?_) fun _ _ z=>False.elim z))
   refine wpAny_bind (wpAny_mono (ybh (X:=ya8 X M scope C fp s2 H2) _ s10 σ8 H10 (.ref D) [v] (.ref D) [xv] (fun _ H'=>N H') I10 rfl (.cons r10 .nil) ⟨D,ys,v,rfl,rfl,hD,hl,q10⟩) (fun _ s11 ⟨_,H11,I11,_,q11⟩=>?_) fun _ _ z=>False.elim z)
   exact wpAny_pure (wpAny_pure ⟨rfl,again I11 q11⟩)
theorem qgy {pins:List (Addr×Obj)}{σ:St}{H2:Hp}{s2:Shared}{fp:List Addr}{it:Addr}{tn:Nat→Heap→Prop}{J:It}{E:Value→Shared→Prop}{QD:Addr→Hp→Prop}{RR:Value→Addr→Result→Shared→Prop} (I2:Inv X pins σ H2 s2) (hc:X.calm=true)
  (ck:CompOk X.N M ix scope X.env.scope) (f2:∀ b∈fp,FpOk X pins H2 b) (T:Turn X.prog X.w X.K tg J fp it tn) (st2:tn 0 s2.heap)
  (hg:∀ C fp s2 H2,PG (ya8 X M scope C fp s2 H2) tg g) (ht:∀ C fp s2 H2,PTs (ya8 X M scope C fp s2 H2) ifs tt) (he:∀ C fp s2 H2,PE (ya8 X M scope C fp s2 H2) elt te)
  (rd:∀ D,H2 D=none→∃ W:Nat→Nat→Hp→Prop,(∃ m,W 0 m (upd H2 D (.lst [])))∧∀ i m H,W i m H→
   (J.stop i H∧QD D H)∨(J.go i H∧∃ N:Hp→Prop,(∀ H',N H'→∃ m',m' < m∧W (i+1) m' H')∧∀ x H',J.yld i H x H'→g x (capS ix σ) H' fun σ2 H2=>yau (capS ix σ) σ2∧tt σ2 H2 fun b H3=>
    if b=true then te σ2 H3 fun v H4=>∃ ys,H4 D=some (.lst ys)∧ys.length<sizeLine∧N (upd H4 D (.lst (ys++[v]))) else N H3))
  (fin:∀ D C H' s',QD D H'→(∃ m,s'.heap.Ns C m)→(∀ h2,Heap.SameBut C s'.heap h2→Inv X pins σ H' { s' with heap:=h2 })→FpOk X pins H' C→RR (.ref D) C (.ok .next) s') :
  wpAny (model X.prog X.w) X.A (newList []) (fun acc s3=>wpAny (model X.prog X.w) X.A (newFunctionEnv scope X.env.globals (clOf X.env.cells scope.names []) [] X.env.qual none .none (some X.env)) (fun cenv s4=>
   codeAny (model X.prog X.w) X.A (.compStart (.ListComp elt [⟨tg,iter,ifs,0⟩] scope pos) 0 (.ref it) acc { cenv with scope:=relabel scope X.env }) (RR acc cenv.locals) s4) E s3) E s2:=by
 have hfp:∀ b∈fp,b<s2.heap.objs.size:=fun b hb=>by obtain ⟨o,e,_⟩:=T.obj 0 _ st2 b hb;exact Heap.lt_size e
 refine wpAny_newObj_type (wpAny_newFunctionEnv ck.nocell (by intro y hy;simp at hy) (fun h1 hn1 hsb1=>?_) ck.kind)
 dsimp only at hn1 hsb1 ⊢
 generalize hP:s2.heap.push { cls:=.type "list",dict:=none,data:=.seq ([]:List Value).toArray }=hh at hn1 hsb1 ⊢
 have hCz:hh.objs.size=s2.heap.objs.size+1:=by rw[← hP,Heap.size_push]
 have hCD:hh.objs.size≠s2.heap.objs.size:=by omega
 have old:∀ b o,s2.heap.get? b=some o→h1.get? b=some o:=fun b o e=>by
  have hb:b<s2.heap.objs.size:=Heap.lt_size e
  exact hsb1.extBut b o (Nat.ne_of_lt (by rw[hCz];exact Nat.lt_succ_of_lt hb)) (Heap.get?_push_of_some _ (hP ▸ Heap.get?_push_of_some _ e))
 have hnew:h1.get? s2.heap.objs.size=some { cls:=.type "list",data:=.seq #[] }:=hsb1.extBut _ _ hCD.symm (Heap.get?_push_of_some _ (hP ▸ Heap.get?_push_size _ rfl))
 obtain ⟨W,⟨m0,w0⟩,turn⟩:=rd s2.heap.objs.size (I2.hok.fresh (Nat.le_refl _))
 have I4:=comp_inv (M:=M) (ix:=ix) (scope:=scope) (fp:=fp) (tk:=s2.toks+([]:List (Str×Value)).length) I2 ck (C:=hh.objs.size) (D:=s2.heap.objs.size) (by omega) (Nat.le_refl _) hCD f2 hfp old hn1 hnew
 have st4:tn 0 h1:=T.keep _ _ _ st2 fun b _ o e=>old b o e
 have fr4:∀ b∈fp,upd H2 s2.heap.objs.size (.lst []) b=none:=fun b hb=>by rw[yaj (Nat.ne_of_lt (hfp b hb))];exact (f2 b hb).1
 have lp:codeAny (model X.prog X.w) X.A (.compLoop (.ListComp elt [⟨tg,iter,ifs,0⟩] scope pos) 0 (.ref it) (.ref s2.heap.objs.size) (compEnvC scope (clOf X.env.cells scope.names []) hh.objs.size X.env)) (RR (.ref s2.heap.objs.size) hh.objs.size) { s2 with heap:=h1,toks:=s2.toks+([]:List (Str×Value)).length }:=by
  refine qlo (QD:=QD s2.heap.objs.size) I2 hc f2 T (hg _ _ _ _) (ht _ _ _ _) (he _ _ _ _) I4 st4 fr4 W m0 w0 turn fun H' s' J' q'=>?_
  obtain ⟨m,hm,_⟩:=J'.loc
  exact fin _ _ H' s' q' ⟨m,hm⟩ (fun h2 sb=>ylw I2 J' f2 sb) (I2.fpOk (by omega) J'.free)
 exact codeAny_compStart_list lp (T.self _ 0 _ _ _ st4 lp)
theorem qca (hc:X.calm=true) (ck:CompOk X.N M ix scope X.env.scope) (hi:PI X tg iter wi) (hg:∀ C fp s2 H2,PG (ya8 X M scope C fp s2 H2) tg g) (ht:∀ C fp s2 H2,PTs (ya8 X M scope C fp s2 H2) ifs tt) (he:∀ C fp s2 H2,PE (ya8 X M scope C fp s2 H2) elt te)
  (hs:∀ x,foldedSetIterable iter X.env x=pure x:=by intro _;rfl):PE X (.ListComp elt [⟨tg,iter,ifs,0⟩] scope pos) (tComp wi ix g tt te):=by
 intro pins s σ H Q I h
 have hfree:∀ x∈scope.names,x.2=.free→∃ c,X.env.cells.lookup x.1=some c:=fun x hx e=>I.ok.has x.1 (ck.fr x hx e)
 rw[eval_ListComp]
 refine wpAny_comprehension_free (use:=none) (cl:=clOf X.env.cells scope.names []) rfl hs (ydn hfree) ck.kind ck.loc (thn (hi pins s σ H _ I h) fun v s1 h1=>thn h1 fun itv s2 h2=>?_)
 obtain ⟨it,fp,tn,J,H2,e,I2,T,st2,f2,rd⟩:=h2
 subst e
 refine qgy (QD:=fun D H'=>Q (.ref D) H') I2 hc ck f2 T st2 hg ht he rd fun D C H' s' q hm hb _=>?_
 obtain ⟨m,hm⟩:=hm
 exact ⟨m,hm,fun h2 sb=>⟨.ref D,H',hb h2 sb,rfl,q⟩⟩
def tCompSet (wi:TI) (ix:List (Option Nat)) (g:TG) (tt:TT) (te:TE) (i:Nat):TS:=fun D σ H=>tComp wi ix g tt te σ H fun x H1=>D.nx (σ.set i (some x)) H1
theorem ydg {i:Nat}{x:Str}{pos' spos:Pos} (hsw:swapsWith (.ListComp elt [⟨tg,iter,ifs,0⟩] scope pos) (some (.Name x pos')) spos.line X.env=pure true) (hN:X.N.Nodup) (hix:X.N[i]?=some x) (hx:Loc X.env.scope x)
  (hc:X.calm=true) (ck:CompOk X.N M ix scope X.env.scope) (hi:PI X tg iter wi) (hg:∀ C fp s2 H2,PG (ya8 X M scope C fp s2 H2) tg g) (ht:∀ C fp s2 H2,PTs (ya8 X M scope C fp s2 H2) ifs tt) (he:∀ C fp s2 H2,PE (ya8 X M scope C fp s2 H2) elt te)
  (hs:∀ x,foldedSetIterable iter X.env x=pure x:=by intro _;rfl) (hf:X.fn x=true∨X.env.scope.names.lookup x=some .local:=by first|exact .inl rfl|exact .inr rfl|assumption) :
  PS X (.Assign [.Name x pos'] (.ListComp elt [⟨tg,iter,ifs,0⟩] scope pos) spos) (tCompSet wi ix g tt te i):=by
 intro pins s σ H D0 I h
 have hfree:∀ x∈scope.names,x.2=.free→∃ c,X.env.cells.lookup x.1=some c:=fun x hx e=>I.ok.has x.1 (ck.fr x hx e)
 rw[exec_Assign_Name_used _ _ _ _ hsw]
 refine wpAny_bind (wpAny_standAt (wpAny_bind ?_))
 show wpAny _ X.A (do let _ ← comprehension (.ListComp elt [⟨tg,iter,ifs,0⟩] scope pos) scope X.env _ (newList []) false (eval iter X.env) (some (assign (.Name x pos') X.env))) _ _ s
 refine wpAny_bind (wpAny_mono (wpAny_comprehension_free (use:=some (assign (.Name x pos') X.env)) (Q:=fun _ s'=>SP X pins D0 .next s') (cl:=clOf X.env.cells scope.names []) rfl hs (ydn hfree) ck.kind ck.loc
  (thn (hi pins s σ H _ I h) fun v s1 h1=>thn h1 fun itv s2 h2=>?_)) (fun _ s' hq=>wpAny_pure (wpAny_pure hq)) fun _ _ e=>e)
 obtain ⟨it,fp,tn,J,H2,e,I2,T,st2,f2,rd⟩:=h2
 subst e
 refine qgy (QD:=fun D H'=>D0.nx (σ.set i (some (.ref D))) H') I2 hc ck f2 T st2 hg ht he rd fun D C H' s' q hm hb fpk=>?_
 obtain ⟨m,hm⟩:=hm
 obtain ⟨g0,g1,g2,g3,g4,g5⟩:=fpk
 have I5:Inv X pins σ H' s':=hb s'.heap ⟨rfl,fun _ _=>rfl⟩
 show wpAny (model X.prog X.w) X.A (assign (.Name x pos') X.env (.ref D)) _ _ s'
 refine wpAny_assign_Name (qh9 (v:=.ref D) I5 hN hix hx rfl (fun s6 I6 ⟨a,sb,ha⟩=>?_) hf)
 have hCa:C≠a:=by
  rcases ha with ha|ha
  ·rw[ha];exact g1
  ·exact (g4 x a ha).symm
 refine ⟨m,hm.sameBut sb hCa,fun h2 sb2=>⟨_,H',I6.turned (t':=s6.toks) (fun b o hb e=>(sb2.2 b hb).trans e) g0 g1 g3 g4 g5,q⟩⟩
end
def FnAt (K:PySem.W.Frag) (mg:Str→Option Value) (x:Str) (st:Stmt) (ps:List Str):Prop:=∃ f fd,mg x=some (.ref f)∧Fun K x x st f fd∧yel K fd ps []
def Has (P:Program) (w:World) (K:PySem.W.Frag) (mg:Str→Option Value) (base:Heap) (k:Nat) (x:Str) (ps:List Str) (sp:Sp):Prop:=
 ∃ f fd,mg x=some (.ref f)∧PySem.W.keepIn K (.ref f)=true∧yel K fd ps []∧FnOk P w K mg base CX0 k f fd ps sp
section
variable {P:Program}{w:World}{K:PySem.W.Frag}{mg:Str→Option Value}{base:Heap}
theorem Has.of {x:Str}{st:Stmt}{ps N:List Str}{k:Nat}{sp:Sp} (F:FnAt K mg x st ps) (S:FnScope N ps (qad st)) (len:∀ vs H Q E,sp vs H Q E→vs.length=ps.length)
  (hbody:∀ (f:Addr) (cdv:Value) (A:Around) (outer:List Env) (s:Shared) (H:Hp) (vs:List V) (Q:VK) (E:XK),Room k (A.deeper (envOfC x (qad st) s.heap.objs.size f cdv))→sp vs H Q E→
   ∃ t,PSs (cxOf CX0 P w K mg base N x (qad st) f cdv A outer s H E).nox (qa3 st) t∧t { nx:=fun _ H'=>Q .non H',rt:=Q } (qfg N vs) H):Has P w K mg base (k+1) x ps sp:=by
 obtain ⟨f,fd,h1,h2,h3⟩:=F
 exact ⟨f,fd,h1,h2.kp,h3,h2.ok S len fun cdv A outer s H vs Q E hr h=>hbody f cdv A outer s H vs Q E hr h⟩
end
section
variable {X:Cx}
theorem qaf {k m:Nat}{x:Str}{ps:List Str}{sp:Sp}{e:Expr}{es:List Expr}{t:TA}{p pos:Pos} (h:Has X.prog X.w X.K X.mg X.base k x ps sp) (hr:Room m X.A) (ha:PA X (e::es) t) (hk:k≤m:=by decide) (hg:Gl X x:=by rfl)
  (hdb:(x == ("__debug__" : Str))=false:=by decide) (he:starEach (e::es) X.env=(false,eval e X.env)::starEach es X.env:=by rfl) (hpl:(backTo pos (starEach es X.env)).any (·.1)=false:=by rfl) :
  PE X (.Call (.Name x p) (e::es) [] pos) (tCall sp [] E0 t):=by
 obtain ⟨f,fd,h1,h2,h3,h4⟩:=h
 exact pe_call h4 (hr.mono hk) hg h1 h2 h3 .nil pass0 ha hdb he hpl
end
def yi5:List Str:=["len","abs","max","min","repr","isinstance","int","bool","str","tuple","list","dict","range","enumerate","sorted","sum"]
structure Bl (mg:Str→Option Value):Prop where
 all:∀ x∈yi5,mg x=none
theorem Bl.of {mg:Str→Option Value} (B:Bl mg) {x:Str} (h:yi5.contains x=true):mg x=none:=B.all x (by simpa using h)
def GTup (K:PySem.W.Frag) (mg:Str→Option Value) (x:Str) (xs:List V):Prop:=∃ a,mg x=some (.ref a)∧∀ H,SqT K H a xs
theorem qg9 {K:PySem.W.Frag}{mg:Str→Option Value}{x:Str}{a:Addr}{xs:List V}{od:Option Addr}{its:Array Value}{n:Nat}{sl:Array (Option Value)} (h1:mg x=some (.ref a)) (h2:K.lookup a=some ⟨.type "tuple",od,.seq its n,sl⟩)
  (h3:its.size≤sizeLine) (h4:Vals xs its.toList):GTup K mg x xs:=⟨a,h1,fun H=>.inr ⟨_,its,n,h2,rfl,rfl,h3,h4⟩⟩
section
variable {X:Cx}
def tGT (K:PySem.W.Frag) (xs:List V):TE:=fun _ H Q=>∀ a,(∀ H',SqT K H' a xs)→Q (.ref a) H
theorem yhk {x:Str}{xs:List V}{pos:Pos} (h:GTup X.K X.mg x xs) (hg:Gl X x:=by rfl) (hd:(x == ("__debug__" : Str))=false:=by decide):PE X (.Name x pos) (tGT X.K xs):=by
 obtain ⟨a,h1,h2⟩:=h
 exact fun pins s σ H Q I q=>qet (v:=.ref a) hg h1 rfl hd pins s σ H Q I (q a h2)
theorem yex {x:Str}{i:Int}{pos:Pos} (h:∃ t,X.mg x=some (.int i t)) (hg:Gl X x:=by rfl) (hd:(x == ("__debug__" : Str))=false:=by decide):PE X (.Name x pos) (tC (.int i)):=by
 obtain ⟨t,h1⟩:=h
 exact qet (v:=.int i) hg h1 ⟨t,rfl⟩ hd
def rIsi (K:PySem.W.Frag):List V→Hp→VK→Prop:=fun xs H Q=>∃ x T t b,xs=[x,.ty T]∧TyOf K H x t∧PySem.W.kitOne K t (.type T)=some b∧Q (.bl b) H
theorem yb0:yda X (.builtin "isinstance") (rIsi X.K):=by
 intro pins s σ H xs us Q I r h
 obtain ⟨x,T,t,b,rfl,ht,hk,q⟩:=h
 cases r with
 | cons r rr=>
  cases rr with
  | cons r' rr=>
   cases rr
   cases r'
   exact qma I r ht hk fun tk=>⟨.bl b,H,I.tok _,rfl,q⟩
end
def tCut (t u:TS):TS:=fun D σ H=>∃ R:St→Hp→Prop,t { D with nx:=R } σ H∧∀ σ' H',R σ' H'→u D σ' H'
theorem ylb {X:Cx}{st:Stmt}{rest:List Stmt}{t u:TS} (h1:PS X st t) (h2:PSs X rest u):PSs X (st::rest) (tCut t u):=by
 intro pins s σ H D I h
 obtain ⟨R,h,hR⟩:=h
 refine wpAny_execs_cons (thn (h1 pins s σ H { D with nx:=R } I h) fun f s1 q=>?_)
 cases f with
 | next=>
  obtain ⟨σ',H',I',q⟩:=q
  exact h2 pins s1 σ' H' D I' (hR σ' H' q)
 | ret v=>exact q
 | brk=>exact q
 | cont=>exact q
def tMid (t:TE):TE:=fun σ H Q=>∃ R:VK,t σ H R∧∀ v H',R v H'→Q v H'
theorem pe_mid {X:Cx}{e:Expr}{t:TE} (h:PE X e t):PE X e (tMid t):=by
 intro pins s σ H Q I hw
 obtain ⟨R,h1,h2⟩:=hw
 exact thn (h pins s σ H R I h1) fun u s1 ⟨v,H1,I1,r,q⟩=>⟨v,H1,I1,r,h2 v H1 q⟩
theorem Same.upd {H H1:Hp}{p:Addr}{o:HO} (s:Same H H1) (h:H1 p=none):Same H (upd H1 p o):=fun b u e=>by
 have e1:=s b u e
 rw[yaj (yae e1 h)];exact e1
theorem Same.at {H H1:Hp}{p:Addr}{o:HO} (s:Same H H1) (h:H p=none):Same H (L2.upd H1 p o):=fun b u e=>by
 rw[yaj (yae e h)];exact s b u e
theorem At.tupEq {H:Hp}{v:V}{ds:List PyData} (h:At H v (.tuple ds)):∃ a vs,v=.ref a∧H a=some (.tup vs)∧AtAll H vs ds:=by
 cases h with
 | tup e t=>exact ⟨_,_,rfl,e,t⟩
theorem At.lstEq {H:Hp}{v:V}{ds:List PyData} (h:At H v (.list ds)):∃ a vs,v=.ref a∧H a=some (.lst vs)∧AtAll H vs ds:=by
 cases h with
 | lst e t=>exact ⟨_,_,rfl,e,t⟩
theorem At.strEq {H:Hp}{v:V}{x:Str} (h:At H v (.str x)):v=.str x:=by cases h;rfl
theorem At.intEq {H:Hp}{v:V}{x:Int} (h:At H v (.int x)):v=.int x:=by cases h;rfl
def qct (H:Hp) (L:List Addr):Hp:=fun b=>if b∈L then none else H b
theorem qkm (H:Hp) (L:List Addr):Same (qct H L) H:=fun b o e=>by
 unfold qct at e
 split at e
 ·cases e
 ·exact e
theorem ycp {H:Hp}{L:List Addr}{b:Addr} (h:b∉L):qct H L b=H b:=by unfold qct;rw[if_neg h]
theorem qg3 {H H':Hp} (s:Same H H') (L:List Addr):Same (qct H L) (qct H' L):=fun b o e=>by
 unfold qct at e ⊢
 split at e
 ·cases e
 ·rename_i h;rw[if_neg h];exact s b o e
theorem qkq {H:Hp}{L L':List Addr} (h:∀ b∈L,b∈L'):Same (qct H L') (qct H L):=fun b o e=>by
 unfold qct at e ⊢
 split at e
 ·cases e
 ·rename_i hn;rw[if_neg fun z=>hn (h b z)];exact e
theorem yle {H:Hp}{L:List Addr}{p:Addr}{o:HO} (h:p∈L):qct (upd H p o) L=qct H L:=by
 funext b
 unfold qct
 by_cases hb:b∈L
 ·rw[if_pos hb,if_pos hb]
 ·rw[if_neg hb,if_neg hb,yaj]
  rintro rfl
  exact hb h
def Bld (L:List Addr) (H:Hp) (l:Addr) (ds:List PyData):Prop:=∃ us,H l=some (.lst us)∧AtAll (qct H (l::L)) us ds
theorem Bld.new {L:List Addr}{H:Hp}{l:Addr}:Bld L (upd H l (.lst [])) l []:=⟨[],yaa,.nil⟩
theorem Bld.grow {L:List Addr}{H H':Hp}{l:Addr}{ds:List PyData} (b:Bld L H l ds) (s:Same H H'):Bld L H' l ds:=by
 obtain ⟨us,h1,h2⟩:=b
 exact ⟨us,s _ _ h1,h2.same (qg3 s _)⟩
theorem Bld.push {L:List Addr}{H:Hp}{l:Addr}{ds:List PyData}{us:List V}{v:V}{d:PyData} (b:Bld L H l ds) (hu:H l=some (.lst us)) (h:At (qct H (l::L)) v d):Bld L (upd H l (.lst (us++[v]))) l (ds++[d]):=by
 obtain ⟨us',h1,h2⟩:=b
 rw[hu] at h1;cases h1
 refine ⟨_,yaa,?_⟩
 rw[yle List.mem_cons_self]
 exact h2.snoc h
theorem Bld.len {L:List Addr}{H:Hp}{l:Addr}{ds:List PyData}{us:List V} (b:Bld L H l ds) (hu:H l=some (.lst us)):us.length=ds.length:=by
 obtain ⟨us',h1,h2⟩:=b
 rw[hu] at h1;cases h1
 exact h2.length
theorem Bld.at {L:List Addr}{H:Hp}{l:Addr}{ds:List PyData} (b:Bld L H l ds) (h:l∉L):At (qct H L) (.ref l) (.list ds):=by
 obtain ⟨us,h1,h2⟩:=b
 exact .lst (by rw[ycp h];exact h1) (h2.same (qkq fun b hb=>List.mem_cons_of_mem _ hb))
theorem Bld.out {H:Hp}{l:Addr}{ds:List PyData} (b:Bld [] H l ds):At H (.ref l) (.list ds):=(b.at (by simp)).same (qkm _ _)
theorem qf3 {n:Nat} (h:n≤100000):n≤sizeLine:=Nat.le_trans h (by decide)
theorem ya9 {n:Nat} (h:n≤100000):n<sizeLine:=Nat.lt_of_le_of_lt h (by decide)
theorem qac {α:Type}{xs:List α}{i:Int}{v:α} (j:Nat) (h:xs[j]?=some v) (e:i=(j:Int):=by rfl):atI xs i=some v:=by
 rw[e];exact yck h
theorem qe0 {α:Type}{xs:List α}{i:Int}{v:α} (h0:0≤i) (h:xs[i.toNat]?=some v):atI xs i=some v:=by
 have e:((i.toNat:Nat):Int)=i:=Int.toNat_of_nonneg h0
 rw[← e];exact yck h
theorem qba {J:It}{n:Nat}{g:TG}{tt:TT}{te:TE}{ix:List (Option Nat)}{σ:St}{H:Hp}{QD:Hp→Prop}{D:Addr} (Pv:Nat→Hp→Prop) (h0:Pv 0 (upd H D (.lst []))) (stop:∀ H',Pv n H'→J.stop n H'∧QD H')
  (step:∀ i H',i<n→Pv i H'→J.go i H'∧∀ x H2,J.yld i H' x H2→g x (capS ix σ) H2 fun σ2 H3=>yau (capS ix σ) σ2∧tt σ2 H3 fun b H4=>
   if b=true then te σ2 H4 fun v H5=>∃ ys,H5 D=some (.lst ys)∧ys.length<sizeLine∧Pv (i+1) (upd H5 D (.lst (ys++[v]))) else Pv (i+1) H4) :
  ∃ W:Nat→Nat→Hp→Prop,(∃ m,W 0 m (upd H D (.lst [])))∧∀ i m H,W i m H→
   (J.stop i H∧QD H)∨(J.go i H∧∃ N:Hp→Prop,(∀ H',N H'→∃ m',m' < m∧W (i+1) m' H')∧∀ x H',J.yld i H x H'→g x (capS ix σ) H' fun σ2 H2=>yau (capS ix σ) σ2∧tt σ2 H2 fun b H3=>
    if b=true then te σ2 H3 fun v H4=>∃ ys,H4 D=some (.lst ys)∧ys.length<sizeLine∧N (upd H4 D (.lst (ys++[v]))) else N H3):=by
 refine ⟨fun i m H=>m=n-i∧i≤n∧Pv i H,⟨n,by simp,Nat.zero_le _,h0⟩,?_⟩
 rintro i m H ⟨rfl,hi,p⟩
 by_cases hlt:i<n
 ·obtain ⟨g1,g2⟩:=step i H hlt p
  exact .inr ⟨g1,Pv (i+1),fun H' p'=>⟨n-(i+1),by omega,rfl,hlt,p'⟩,g2⟩
 ·have e:i=n:=by omega
  subst e
  exact .inl (stop H p)
theorem cut_take {xs:List V} (k:Nat):cutV xs none (some (k:Int))=xs.take k:=by
 unfold cutV
 rw[HT.sIx_none,HT.sIx_nat,List.drop_zero,Nat.sub_zero]
 by_cases h:k≤xs.length
 ·rw[Nat.min_eq_left h]
 ·rw[Nat.min_eq_right (by omega),List.take_length,List.take_of_length_le (by omega)]
theorem qjt {xs:List V} (k:Nat):cutV xs (some (k:Int)) none=xs.drop k:=by
 unfold cutV
 rw[HT.sIx_none,HT.sIx_nat]
 by_cases h:k≤xs.length
 ·rw[Nat.min_eq_left h]
  exact List.take_of_length_le (by rw[List.length_drop];exact Nat.le_refl _)
 ·rw[Nat.min_eq_right (by omega),List.drop_eq_nil_of_le (show xs.length≤k by omega),List.drop_length];simp
theorem yes {σ:St}{H:Hp}{A B:Hp→Prop} (h:A H):tYes σ H fun b H'=>if b=true then A H' else B H':=iteT (B:=B H) h
section
variable {X:Cx}{K:PySem.W.Frag}
theorem ycy (h:X.K=K):IxR X (rIxL K):=h ▸ qaj
theorem ya7 (h:X.K=K):IxR X (rIxT K):=h ▸ qak
theorem sl_listK (h:X.K=K):SlR X (rSlL K):=h ▸ qdh
theorem qew (h:X.K=K):OpR X (compareOp .In) (rIn K false):=h ▸ ybj
theorem qcw (h:X.K=K):OpR X (compareOp .NotIn) (rIn K true):=h ▸ yib
theorem yiu {es:List Expr}{k:Nat}{t:TGs}{n:Nat}{pos:Pos} (h:X.K=K) (hc:X.calm=true) (hh:PGs X es t)
  (hn:(assignEach es X.env).length=n:=by rfl) (hst:(assignEach es X.env).findIdx? (·.1)=none:=by rfl):PG X (.Tuple es k pos) (gTup K n t):=by
 subst h;exact ycc hc hh hn hst
end
def rEqD:R2:=fun x y H Q=>∃ dx dy,At H x dx∧At H y dy∧dx.canLay0=true∧dy.canLay0=true∧dx.depth≤60∧Q (.bl (PyData.eqv dx dy)) H
def rNeD:R2:=fun x y H Q=>∃ dx dy,At H x dx∧At H y dy∧dx.canLay0=true∧dy.canLay0=true∧dx.depth≤60∧Q (.bl (!PyData.eqv dx dy)) H
section
variable {X:Cx}
theorem qjr {k:Nat} (hr:Room k X.A):OpR X (compareOp .Eq) rEqD:=by
 intro pins s σ H x y v u Q I rx ry h
 obtain ⟨dx,dy,h1,h2,c1,c2,hd,q⟩:=h
 obtain ⟨as,r1⟩:=h1.reads I.hok rx
 obtain ⟨bs,r2⟩:=h2.reads I.hok ry
 have hu:=hr.units
 exact PySem.SeqAt.rcAt_reads r1 r2 c1 c2 (by have:=Nat.min_le_left dx.depth dy.depth;omega) _ _ _ _ ⟨.bl _,H,I,rfl,q⟩
theorem qh6 {k:Nat} (hr:Room k X.A):OpR X (compareOp .NotEq) rNeD:=by
 intro pins s σ H x y v u Q I rx ry h
 obtain ⟨dx,dy,h1,h2,c1,c2,hd,q⟩:=h
 obtain ⟨as,r1⟩:=h1.reads I.hok rx
 obtain ⟨bs,r2⟩:=h2.reads I.hok ry
 have hu:=hr.units
 exact PySem.SeqAt.rcNeAt_reads r1 r2 c1 c2 (by have:=Nat.min_le_left dx.depth dy.depth;omega) _ _ _ _ ⟨.bl _,H,I,rfl,q⟩
end
theorem qcu {n:Nat}:∀ {xs:List PyData},(∀ x∈xs,x.depth≤n)→PyData.depthAll xs≤n
 | [],_=>by simp[PyData.depthAll]
 | x::xs,h=>by
  have h1:=h x List.mem_cons_self
  have h2:=qcu (xs:=xs) fun y hy=>h y (List.mem_cons_of_mem _ hy)
  simp only[PyData.depthAll]
  omega
mutual
def ybg:PyData→List (List PyData)
 | .list ds=>ds::qb6 ds
 | .tuple ds=>qb6 ds
 | .none | .bool _ | .int _ | .str _ | .dict _=>[]
def qb6:List PyData→List (List PyData)
 | []=>[]
 | d::r=>ybg d++qb6 r
end
mutual
theorem At.hideP {H:Hp}{p:Addr}{us:List V} (hp:H p=some (.lst us)):∀ {v:V}{d:PyData},At H v d→(∀ ds∈ybg d,¬ AtAll H us ds)→At (qct H [p]) v d
 | _,_,.non,_=>.non
 | _,_,.bl b,_=>.bl b
 | _,_,.int i,_=>.int i
 | _,_,.str x,_=>.str x
 | _,_,.lst (a:=a) (ds:=ds) e t,h=>by
  have hne:a≠p:=by
   rintro rfl
   rw[e] at hp;cases hp
   exact h ds (by unfold ybg;exact List.mem_cons_self) t
  exact .lst (by rw[ycp (by simp[hne])];exact e) (AtAll.hideP hp t fun ds' hd=>h ds' (by unfold ybg;exact List.mem_cons_of_mem _ hd))
 | _,_,.tup (a:=a) (ds:=ds) e t,h=>by
  have hne:a≠p:=ne_of e hp (by intro z;cases z)
  exact .tup (by rw[ycp (by simp[hne])];exact e) (AtAll.hideP hp t fun ds' hd=>h ds' (by unfold ybg;exact hd))
theorem AtAll.hideP {H:Hp}{p:Addr}{us:List V} (hp:H p=some (.lst us)):∀ {vs:List V}{ds:List PyData},AtAll H vs ds→(∀ ds'∈qb6 ds,¬ AtAll H us ds')→AtAll (qct H [p]) vs ds
 | _,_,.nil,_=>.nil
 | _,_,.cons a b,h=>.cons (At.hideP hp a fun ds' hd=>h ds' (by unfold qb6;exact List.mem_append_left _ hd)) (AtAll.hideP hp b fun ds' hd=>h ds' (by unfold qb6;exact List.mem_append_right _ hd))
end
theorem yb2 {x:List PyData}:∀ {ds:List PyData},x∈qb6 ds→∃ d∈ds,x∈ybg d
 | [],h=>by unfold qb6 at h;cases h
 | d::r,h=>by
  unfold qb6 at h
  rcases List.mem_append.mp h with h|h
  ·exact ⟨d,List.mem_cons_self,h⟩
  ·obtain ⟨e,he,hx⟩:=yb2 h
   exact ⟨e,List.mem_cons_of_mem _ he,hx⟩
theorem Vals.bls:∀ {bs:List Bool}{us:List Value},Vals (bs.map V.bl) us→us=bs.map Value.bool
 | [],_,.nil=>rfl
 | b::bs,_,.cons r t=>by
  have e:=Vals.bls t
  cases r
  rw[e]
  rfl
end L2
namespace Mx
open PySem L2 PyProof.Rows
section
variable {X:Cx}{es:List Expr}{te:TE}{t:TA}{pos:Pos}
theorem pa_cs {k:Const}{j} (ha:PE X (.Constant k j pos) te) (hr:PA X es t):PA X (.Constant k j pos::es) (qeu te t):=qaa ha hr rfl
theorem qaw {x:Str} (ha:PE X (.Name x pos) te) (hr:PA X es t):PA X (.Name x pos::es) (qeu te t):=qaa ha hr rfl
theorem pa_cl {f xs ks} (ha:PE X (.Call f xs ks pos) te) (hr:PA X es t):PA X (.Call f xs ks pos::es) (qeu te t):=qaa ha hr rfl
def ygo:List Expr→Option (List Str)
 | []=>some []
 | .Constant (.str x) _ _::r=>(ygo r).map (x :: ·)
 | _=>none
theorem yiw {X:Cx}:∀ {es:List Expr}{xs:List Str},ygo es=some xs→PA X es (fun _ H Q=>Q (xs.map V.str) H)
 | [],xs,h=>by
  cases h
  exact yab
 | .Constant (.str x) j p::r,xs,h=>by
  rw[ygo] at h
  obtain ⟨ys,hy,rfl⟩:=Option.map_eq_some_iff.mp h
  exact pa_cs qam (yiw hy)
def tStrs (xs:List Str):TE:=fun _ H Q=>xs.length≤sizeLine∧∀ p,H p=none→Q (.ref p) (upd H p (.lst (xs.map V.str)))
theorem pe_strs {xs:List Str} (h:ygo es=some xs):PE X (.List es pos) (tStrs xs):=by
 intro pins s σ H Q I hq
 refine qau (yiw h) pins s σ H Q I ?_
 exact ⟨by rw[List.length_map];exact hq.1,hq.2⟩
end
structure QS (X:Cx) (st:Stmt) (t:TS):Prop where
 of:PS X st t
structure QSs (X:Cx) (ss:List Stmt) (t:TS):Prop where
 of:PSs X ss t
section
variable {X:Cx}{st:Stmt}{rest a b:List Stmt}{t u:TS}{pos:Pos}{e:Expr}{te:TE}
theorem yly {ss:List Stmt} (h:ss=st::rest) (p:QSs X (st::rest) t):PSs X ss t:=h ▸ p.of
theorem qa5:QSs X [] tNext:=⟨qap⟩
theorem yak (h:QS X st t):QSs X [st] t:=⟨yad h.of⟩
theorem yaf (h:QS X st t) (r:QSs X rest u):QSs X (st::rest) (tSeq t u):=⟨qae h.of r.of⟩
theorem ql6 (h:QS X st t) (r:QSs X rest u):QSs X (st::rest) (tCut t u):=⟨ylb h.of r.of⟩
theorem yeu (h:PS X st t):QS X st t:=⟨h⟩
theorem qld {c:Expr}{tc:TT} (hc:PT X c tc) (ha:QSs X a t) (hb:QSs X b u):QS X (.If c a b pos) (tIfS tc t u):=⟨ya6 hc ha.of hb.of⟩
theorem yh3 (he:PE X e te):QS X (.Return (some e) pos) (tRet te):=⟨yao he⟩
theorem yla {i:Nat}{x:Str}{pos':Pos} (hN:X.N.Nodup) (hi:X.N[i]?=some x) (hx:Loc X.env.scope x) (he:PE X e te) (hs:swapsWith e (some (.Name x pos')) pos.line X.env=pure false:=by rfl) (hf:X.fn x=true∨X.env.scope.names.lookup x=some .local:=by first|exact .inl rfl|exact .inr rfl|assumption) :
  QS X (.Assign [.Name x pos'] e pos) (tAsg te (qlm i)):=⟨yaw hN hi hx he hs hf⟩
end
end Mx
namespace L2
open PySem PySem.Spec PyProof.Rows PyProof.Rows.KTD
def TabK (K:PySem.W.Frag) (a:Addr) (D:List (Str×List V)):Prop:=
 (a == sysModules)=false∧∃ o es ep,K.lookup a=some o∧o.ExactDict∧o.data=.dict es ep∧KTD.Rows (fun xs v=>∃ p,v=.ref p∧∀ H,SqT K H p xs) es.toList D
section
variable {prog:Program}{w:World}{A:Around}{E:Value→Shared→Prop}{s:Shared}{a:Addr}{k:Str}{tk:Tok}{o:Obj}{es:Array DictEntry}{ep:Nat}
theorem yf8 {Q:Option Value→Shared→Prop} (g:s.heap.get? a=some o) (gd:o.data=.dict es ep) (ge:(es.toList.all fun e=>isExactStrKey e.key)=true)
  (q:Q ((es.toList.find? fun e=>e.key.isStr k).map (·.val)) { s with toks:=s.toks+1 }):wpAny (model prog w) A (dictGet a (.str k tk)) Q E s:=by
 obtain ⟨l⟩:=es
 have q2:Q (findBy (fun k v=>v.isStr k) ⟨l⟩ k) { s with toks:=s.toks+1 }:=by
  rw[show findBy (fun k v=>v.isStr k) (⟨l⟩:Array DictEntry) k=(l.find? fun e=>e.key.isStr k).map (·.val) by simp[findBy]]
  exact q
 unfold dictGet
 try with_reducible refine wpAny_holding ?_
 refine wpAny_bind (wpAny_pyHash_str ?_)
 refine wpAny_bind ?_
 refine kt_dictFind_strs (s:={ s with toks:=s.toks+1 }) g gd (by simpa using ge) ?_
 rw[findBy_of_findIdx?] at q2
 revert q2
 cases (⟨l⟩:Array DictEntry).findIdx? fun e=>e.key.isStr k with
 | none=>intro q2;exact wpAny_pure q2
 | some i=>intro q2;refine wpAny_bind ?_;exact wpAny_dictEntries (s:={ s with toks:=s.toks+1 }) g gd (wpAny_pure q2)
end
section
variable {X:Cx}{pins:List (Addr×Obj)}{σ:St}{H:Hp}{s:Shared}{a:Addr}{D:List (Str×List V)}
theorem TabK.dict (I:Inv X pins σ H s) (T:TabK X.K a D):s.TypeIs (.ref a) "dict"∧∀ b,Value.ref a=.ref b→∃ ob,s.heap.get? b=some ob∧ob.dict=none:=by
 obtain ⟨_,o,es,ep,hl,hx,hd,hr⟩:=T
 refine ⟨⟨o,I.kIn a o hl,hx.1⟩,fun b e=>?_⟩
 cases e
 exact ⟨o,I.kIn a o hl,hx.2.1⟩
theorem TabK.ask {k:Str}{tk:Tok}{E:Value→Shared→Prop}{A:Around}{Q:Option Value→Shared→Prop} (I:Inv X pins σ H s) (T:TabK X.K a D)
  (h1:∀ xs p,datumAt k D=some xs→(∀ H,SqT X.K H p xs)→Q (some (.ref p)) { s with toks:=s.toks+1 }) (h2:datumAt k D=none→Q none { s with toks:=s.toks+1 }):wpAny (model X.prog X.w) A (dictGet a (.str k tk)) Q E s:=by
 obtain ⟨_,o,es,ep,hl,hx,hd,hr⟩:=T
 refine yf8 (I.kIn a o hl) hd hr.exact ?_
 cases hat:datumAt k D with
 | some xs=>
  obtain ⟨v,hv,p,rfl,hp⟩:=hr.find_some hat
  rw[hv]
  exact h1 xs p hat hp
 | none=>rw[hr.find_none hat];exact h2 hat
def rIxTab (K:PySem.W.Frag) (D:List (Str×List V)):R2:=fun x y H Q=>∃ a k xs,x=.ref a∧y=.str k∧TabK K a D∧datumAt k D=some xs∧∀ p,(∀ H,SqT K H p xs)→Q (.ref p) H
theorem qk6:IxR X (rIxTab X.K D):=by
 intro value slice pins s σ H x y v u Q I rx ry h hs
 obtain ⟨a,k,xs,rfl,rfl,T,hd,q⟩:=h
 cases rx
 obtain ⟨tk,rfl⟩:=ry
 obtain ⟨hsm,o,es,ep,hl,hx,hd2,hr⟩:=id T
 obtain ⟨v,hv,p,rfl,hp⟩:=hr.find_some hd
 have fin:EP X pins σ Q (.ref p) { s with toks:=s.toks+1 }:=⟨.ref p,H,I.tok _,rfl,q p hp⟩
 refine subscriptTail_builtinR (x:=.ref p) (T.dict I).1 slot_dict_getitem.lookup ?_ hs
 unfold getItem
 try with_reducible refine wpAny_holding ?_
 refine wpAny_bind (wpAny_sequenceKey (T.dict I).1 (by decide) ?_)
 refine wpAny_bind (wpAny_callSpecial?_slot (name:=Str.ofString "__getitem__") (T.dict I).1 slot_dict_getitem (wpAny_call_entry slot_dict_getitem (T.dict I).1 entry_dict_getitem ?_ (args_dict_getitem _ _)))
 show wpAny _ _ (dictGet a (.str k tk) >>= _) _ _ _
 refine wpAny_bind (yf8 (I.kIn a o hl) hd2 hr.exact ?_)
 rw[hv]
 exact wpAny_pure ⟨_,rfl,wpAny_pure ⟨rfl,fin⟩⟩
def rInTab (K:PySem.W.Frag) (D:List (Str×List V)):R2:=fun x y H Q=>∃ a k,x=.str k∧y=.ref a∧TabK K a D∧Q (.bl (inKeys k D)) H
theorem op_inTab:OpR X (compareOp .In) (rInTab X.K D):=by
 intro pins s σ H x y v u Q I rx ry h
 obtain ⟨a,k,rfl,rfl,T,q⟩:=h
 cases ry
 obtain ⟨tk,rfl⟩:=rx
 show wpAny _ _ (contains (.ref a) (.str k tk) >>= fun c=>pure (Value.bool c)) _ _ s
 refine wpAny_bind ?_
 unfold contains
 try with_reducible refine wpAny_holding ?_
 refine wpAny_bind (wpAny_specialOf (T.dict I).1 slot_dict_contains.lookup ?_)
 show wpAny _ _ (if (some (Value.builtin "dict.__contains__") == some Value.none)=true then _ else _) _ _ s
 rw[if_neg (by rw[beq_builtin_none];exact Bool.false_ne_true)]
 refine wpAny_bind (wpAny_callSpecialUnlessNone?_slot (name:=Str.ofString "__contains__") (T.dict I).1 slot_dict_contains (wpAny_call_entry slot_dict_contains (T.dict I).1 entry_dict_contains ?_ (args_dict_contains _ _)))
 show wpAny _ _ (dictGet a (.str k tk) >>= _) _ _ _
 refine wpAny_bind (T.ask I (fun xs p hd hp=>?_) fun hn=>?_)
 ·have e:inKeys k D=true:=by rw[← isSome_datumAt,hd];rfl
  rw[e] at q
  show wpAny _ _ (ret (.bool true)) _ _ _
  exact wpAny_pure ⟨_,rfl,wpAny_truthy_bool (wpAny_pure ⟨.bl true,H,I.tok _,rfl,q⟩)⟩
 ·have e:inKeys k D=false:=by rw[← isSome_datumAt,hn];rfl
  rw[e] at q
  show wpAny _ _ (Builtin.Dict.pendingKey? a (.str k tk) >>= _) _ _ _
  exact wpAny_bind (wpAny_pendingKey_other T.1 (wpAny_pure ⟨_,rfl,wpAny_truthy_bool (wpAny_pure ⟨.bl false,H,I.tok _,rfl,q⟩)⟩))
end
end L2
namespace L2
open PySem PySem.Spec PyProof.Rows
section
variable {X:Cx}
theorem Vals.back:∀ {xs:List V}{us:List Value},Vals xs us→∀ u∈us,∃ v∈xs,RelV v u
 | _,_,.nil,u,h=>nomatch h
 | x::xs,_,.cons r t,u,h=>by
  rcases List.mem_cons.mp h with rfl|h
  ·exact ⟨x,List.mem_cons_self ..,r⟩
  ·obtain ⟨v,hv,rv⟩:=Vals.back t u h
   exact ⟨v,List.mem_cons_of_mem _ hv,rv⟩
end
open Builtin.SmallTypes (nextOf)
def SIt (h:Heap) (tp:Bool) (q l:Addr) (i:Nat):Prop:=if tp then IsTupIter h q l i else h.IsListIter q l i
def SOf (h:Heap) (tp:Bool) (l:Addr) (its:Array Value):Prop:=if tp then IsTup h l its else h.IsList l its
section
variable {prog:Program}{w:World}{A:Around}{E:Value→Shared→Prop}{s:Shared}{q l:Addr}{i:Nat}{its:Array Value}
theorem SIt.at {h h':Heap}{tp:Bool} (x:SIt h tp q l i) (k:∀ o,h.get? q=some o→h'.get? q=some o):SIt h' tp q l i:=by
 cases tp with
 | true=>obtain ⟨o,g,r⟩:=x;exact ⟨o,k o g,r⟩
 | false=>obtain ⟨o,g,r⟩:=x;exact ⟨o,k o g,r⟩
theorem SIt.obj {h:Heap}{tp:Bool} (x:SIt h tp q l i):∃ o,h.get? q=some o∧∀ v,o.data≠.cell v:=by
 cases tp with
 | true=>obtain ⟨o,g,c,d⟩:=x;exact ⟨o,g,fun v z=>by rw[d] at z;cases z⟩
 | false=>obtain ⟨o,g,c,d⟩:=x;exact ⟨o,g,fun v z=>by rw[d] at z;cases z⟩
theorem SOf.at {h h':Heap}{tp:Bool} (x:SOf h tp l its) (k:∀ o,h.get? l=some o→h'.get? l=some o):SOf h' tp l its:=by
 cases tp with
 | true=>obtain ⟨o,g,r⟩:=x;exact ⟨o,k o g,r⟩
 | false=>obtain ⟨o,g,r⟩:=x;exact ⟨o,k o g,r⟩
theorem ybw {tp:Bool}{x:Value}{Q:Value→Shared→Prop} (hq:SIt s.heap tp q l i) (hl:SOf s.heap tp l its) (hx:its[i]?=some x)
  (k:∀ h',SIt h' tp q l (i+1)→Heap.SameBut q s.heap h'→Q x { s with heap:=h' }):wpAny (model prog w) A (nextOf (.ref q)) Q E s:=by
 cases tp with
 | false=>exact wpAny_nextOf_list_item hq hl hx k
 | true=>
  have hq':IsTupIter s.heap q l i:=hq
  obtain ⟨o,go,gc,gd⟩:=id hq'
  obtain ⟨ol,gl,_,nl,gdl⟩:=(show IsTup s.heap l its from hl)
  unfold Builtin.SmallTypes.nextOf
  refine wpAny_bind (wpAny_callSpecial?_slot (name:=Str.ofString "__next__") hq'.typeIs slot_tupleiter_next (wpAny_call_entry slot_tupleiter_next hq'.typeIs entry_tupleiter_next ?_ (args_tupleiter_next _)))
  show wpAny _ _ (field (.ref q) 0 >>= _) _ _ s
  refine wpAny_bind (wpAny_field go gd (x:=.ref l) rfl ?_)
  show wpAny _ _ (if (Value.ref l == Value.none)=true then _ else _) _ _ s
  rw[if_neg (by exact Bool.false_ne_true:¬ ((Value.ref l == Value.none)=true))]
  show wpAny _ _ (field (.ref q) 1 >>= _) _ _ s
  refine wpAny_bind (wpAny_field go gd (x:=.int i 0) rfl ?_)
  show wpAny _ _ (seqItems? (.ref l) >>= _) _ _ s
  refine wpAny_bind (wpAny_seqItems gl gdl ?_)
  simp only[Int.toNat_natCast,hx]
  refine wpAny_bind (wpAny_setField go gd (by simp) (wpAny_pure ⟨x,rfl,?_⟩))
  refine wpAny_pure (k _ ?_ (Heap.SameBut.update ..))
  exact ⟨_,Heap.get?_update_self _ go (Obj.isFreed_of_fields (Obj.data_mapFields gd _)),(Obj.cls_mapFields ..).trans gc,by rw[Obj.data_mapFields gd];simp[rawInt]⟩
theorem qdr {tp:Bool}{Q:Value→Shared→Prop} (hh:A.handled=none) (hq:SIt s.heap tp q l i) (hl:SOf s.heap tp l its) (hx:its[i]?=none)
  (k:∀ h' e,Heap.ExtBut q s.heap h'→(∃ o,h'.get? e=some o∧o.cls=.type "StopIteration")→E (.ref e) { s with heap:=h' }):wpAny (model prog w) A (nextOf (.ref q)) Q E s:=by
 cases tp with
 | false=>exact wpAny_nextOf_list_end hh hq hl hx k
 | true=>
  have hq':IsTupIter s.heap q l i:=hq
  obtain ⟨o,go,gc,gd⟩:=id hq'
  obtain ⟨ol,gl,_,nl,gdl⟩:=(show IsTup s.heap l its from hl)
  unfold Builtin.SmallTypes.nextOf
  refine wpAny_bind (wpAny_callSpecial?_slot (name:=Str.ofString "__next__") hq'.typeIs slot_tupleiter_next (wpAny_call_entry slot_tupleiter_next hq'.typeIs entry_tupleiter_next ?_ (args_tupleiter_next _)))
  show wpAny _ _ (field (.ref q) 0 >>= _) _ _ s
  refine wpAny_bind (wpAny_field go gd (x:=.ref l) rfl ?_)
  show wpAny _ _ (if (Value.ref l == Value.none)=true then _ else _) _ _ s
  rw[if_neg (by exact Bool.false_ne_true:¬ ((Value.ref l == Value.none)=true))]
  show wpAny _ _ (field (.ref q) 1 >>= _) _ _ s
  refine wpAny_bind (wpAny_field go gd (x:=.int i 0) rfl ?_)
  show wpAny _ _ (seqItems? (.ref l) >>= _) _ _ s
  refine wpAny_bind (wpAny_seqItems gl gdl ?_)
  simp only[Int.toNat_natCast,hx]
  refine wpAny_bind (wpAny_rule ?_)
  refine wpAny_bind (wpAny_setField go gd (by simp) ?_)
  show wpAny _ _ (newExc (.type "StopIteration") [] >>= _) _ _ _
  refine wpAny_bind ?_
  simp only[newExc,newTuple]
  refine wpAny_bind (wpAny_newObj_type ?_ (by size_fits))
  refine wpAny_bind (m:=firstArgMember _ _) ?_
  refine wpAny_of_eq (a:=Value.none) (by first|rfl|(simp only[firstArgMember];rfl)) ?_
  refine wpAny_newObj_type ?_ (by size_fits)
  simp only[raiseNew]
  refine wpAny_bind (wpAny_handled ?_)
  first|rw[show A.in1.handled=none from hh]|rw[hh]
  refine wpAny_bind (wpAny_pure (wpAny_throw ?_))
  exact k _ _ (((Heap.SameBut.update ..).extBut.push _).push _) ⟨_,Heap.get?_push_size _ rfl,rfl⟩
theorem neN {a b:Nat} (h:a<b∨b<a):a≠b:=by omega
theorem ylq {n l1 l2 k:Nat}{xs ys:Array Value}{x y a b:Value}{t1 t2:Bool}{Q:Value→Shared→Prop} (b1:l1<n) (b2:l2<n) (gz:IsZip s.heap (n+4) (n+2) (n+3) .none) (gi:IsPair s.heap (n+2) (.ref n) (.ref (n+1))) (go:IsPair s.heap (n+3) a b)
  (q1:SIt s.heap t1 n l1 k) (q2:SIt s.heap t2 (n+1) l2 k) (o1:SOf s.heap t1 l1 xs) (o2:SOf s.heap t2 l2 ys) (hx:xs[k]?=some x) (hy:ys[k]?=some y)
  (kk:∀ h',IsZip h' (n+4) (n+2) (n+3) (rawInt s.heap.objs.size)→IsPair h' (n+3) x y→SIt h' t1 n l1 (k+1)→SIt h' t2 (n+1) l2 (k+1)→IsPair h' s.heap.objs.size x y→h'.objs.size=s.heap.objs.size+1→
   (∀ c o,c≠n+4→c≠n+3→c≠n→c≠n+1→s.heap.get? c=some o→h'.get? c=some o)→Q (.ref s.heap.objs.size) { s with heap:=h' }) :
  wpAny (model prog w) A (Builtin.«zip.__next__» ⟨[.ref (n+4)],[]⟩) (fun fin s'=>∃ v,fin=.done (.ret v)∧Q v s') E s:=by
 show wpAny _ _ (field (.ref (n+4)) 2 >>= _) _ _ _
 refine wpAny_bind (wpAny_field gz rfl (x:=.bool false) rfl ?_)
 show wpAny _ _ (field (.ref (n+4)) 3 >>= _) _ _ _
 refine wpAny_bind (wpAny_field gz rfl (x:=.ref (n+2)) rfl ?_)
 refine wpAny_bind (wpAny_seqItems gi rfl ?_)
 show wpAny _ _ (Builtin.SmallTypes.ownedTupleIsFree (.ref (n+4)) >>= _) _ _ _
 refine wpAny_bind ?_
 unfold Builtin.SmallTypes.ownedTupleIsFree
 refine wpAny_bind (wpAny_field gz rfl (x:=.none) rfl ?_)
 refine wpAny_pure ?_
 simp only[if_true]
 refine wpAny_bind (wpAny_rule ?_)
 refine wpAny_bind (wpAny_field gz rfl (x:=.ref (n+3)) rfl ?_)
 refine wpAny_bind (wpAny_setField_rec gz (by simp) fun m1 gz1 e1=>?_)
 replace gz1:IsZip m1 (n+4) (n+2) (n+3) .ellipsis:=gz1
 refine wpAny_bind ?_
 simp only[List.zipIdx_cons,List.zipIdx_nil,List.forIn_cons,List.forIn_nil]
 refine wpAny_bind (wpAny_bind ?_)
 refine wpAny_onRaise ?_
 show wpAny _ _ (nextOf (.ref n) >>= _) _ _ _
 refine wpAny_bind (ybw (q1.at fun o g=>e1.extBut _ _ (neN (by omega)) g) (o1.at fun o g=>e1.extBut _ _ (neN (by omega)) g) hx fun m2 r1 e2=>?_)
 refine wpAny_pure ?_
 have go2:IsPair m2 (n+3) a b:=e2.extBut _ _ (neN (by omega)) (e1.extBut _ _ (neN (by omega)) go)
 refine wpAny_bind (wpAny_seqItems go2 rfl ?_)
 refine wpAny_bind (wpAny_updateSeq_pair go2 fun m3 go3 e3=>?_)
 replace go3:IsPair m3 (n+3) x b:=go3
 refine wpAny_bind (wpAny_letGo ?_)
 refine wpAny_pure ?_
 refine wpAny_bind (wpAny_bind ?_)
 refine wpAny_onRaise ?_
 show wpAny _ _ (nextOf (.ref (n+1)) >>= _) _ _ _
 refine wpAny_bind (ybw (q2.at fun o g=>e3.extBut _ _ (neN (by omega)) (e2.extBut _ _ (neN (by omega)) (e1.extBut _ _ (neN (by omega)) g))) (o2.at fun o g=>e3.extBut _ _ (neN (by omega)) (e2.extBut _ _ (neN (by omega)) (e1.extBut _ _ (neN (by omega)) g))) hy fun m4 r2 e4=>?_)
 refine wpAny_pure ?_
 have go4:IsPair m4 (n+3) x b:=e4.extBut _ _ (neN (by omega)) go3
 refine wpAny_bind (wpAny_seqItems go4 rfl ?_)
 refine wpAny_bind (wpAny_updateSeq_pair go4 fun m5 go5 e5=>?_)
 replace go5:IsPair m5 (n+3) x y:=go5
 refine wpAny_bind (wpAny_letGo ?_)
 refine wpAny_pure (wpAny_pure ?_)
 refine wpAny_bind (wpAny_seqItems go5 rfl ?_)
 refine wpAny_bind (wpAny_newTuple ?_)
 have hsz:m5.objs.size=s.heap.objs.size:=by rw[e5.1,e4.1,e3.1,e2.1,e1.1]
 have gz5:IsZip m5 (n+4) (n+2) (n+3) .ellipsis:=e5.extBut _ _ (neN (by omega)) (e4.extBut _ _ (neN (by omega)) (e3.extBut _ _ (neN (by omega)) (e2.extBut _ _ (neN (by omega)) gz1)))
 have keep5:∀ c o,c≠n+4→c≠n+3→c≠n→c≠n+1→s.heap.get? c=some o→m5.get? c=some o:=fun c o d1 d2 d3 d4 g=>
  e5.extBut _ _ d2 (e4.extBut _ _ d4 (e3.extBut _ _ d2 (e2.extBut _ _ d3 (e1.extBut _ _ d1 g))))
 have r15:SIt m5 t1 n l1 (k+1):=r1.at fun o g=>e5.extBut _ _ (neN (by omega)) (e4.extBut _ _ (neN (by omega)) (e3.extBut _ _ (neN (by omega)) g))
 have r25:SIt m5 t2 (n+1) l2 (k+1):=r2.at fun o g=>e5.extBut _ _ (neN (by omega)) g
 have lt5:n+4<m5.objs.size:=Heap.lt_size gz5
 show wpAny _ _ (Builtin.SmallTypes.ownedTupleHandOut (.ref (n+4)) (.ref m5.objs.size) >>= _) _ _ _
 refine wpAny_bind ?_
 unfold Builtin.SmallTypes.ownedTupleHandOut
 have gz6:IsZip (m5.push { cls:=.type "tuple",data:=.seq #[x,y] }) (n+4) (n+2) (n+3) .ellipsis:=Heap.get?_push_of_some _ gz5
 refine wpAny_bind (wpAny_setField_rec gz6 (by simp) fun m7 gz7 e7=>?_)
 replace gz7:IsZip m7 (n+4) (n+2) (n+3) (rawInt m5.objs.size):=gz7
 refine wpAny_setField_rec gz7 (by simp) fun m8 gz8 e8=>?_
 replace gz8:IsZip m8 (n+4) (n+2) (n+3) (rawInt m5.objs.size):=gz8
 have up:∀ c o,c≠n+4→m5.get? c=some o→m8.get? c=some o:=fun c o d1 g=>e8.extBut _ _ d1 (e7.extBut _ _ d1 (Heap.get?_push_of_some _ g))
 have gt8:IsPair m8 m5.objs.size x y:=e8.extBut _ _ (Nat.ne_of_gt lt5) (e7.extBut _ _ (Nat.ne_of_gt lt5) (Heap.get?_push_size _ rfl))
 have hs8:m8.objs.size=m5.objs.size+1:=by rw[e8.1,e7.1,Heap.size_push]
 rw[hsz] at gz8 gt8 hs8
 refine wpAny_pure ⟨_,rfl,?_⟩
 show Q (.ref m5.objs.size) _
 rw[hsz]
 exact kk m8 gz8 (up _ _ (neN (by omega)) go5) (r15.at fun o g=>up _ o (neN (by omega)) g) (r25.at fun o g=>up _ o (neN (by omega)) g) gt8 hs8 fun c o d1 d2 d3 d4 g=>up c o d1 (keep5 c o d1 d2 d3 d4 g)
theorem yk8 {n l1 l2 k:Nat}{xs ys:Array Value}{a b:Value}{t1 t2:Bool}{Q:Fin→Shared→Prop} (hh:A.handled=none) (b1:l1<n) (b2:l2<n) (gz:IsZip s.heap (n+4) (n+2) (n+3) .none) (gi:IsPair s.heap (n+2) (.ref n) (.ref (n+1))) (go:IsPair s.heap (n+3) a b)
  (q1:SIt s.heap t1 n l1 k) (q2:SIt s.heap t2 (n+1) l2 k) (o1:SOf s.heap t1 l1 xs) (o2:SOf s.heap t2 l2 ys) (hend:xs[k]?=none∨ys[k]?=none)
  (kk:∀ h' e,(∀ c o,c≠n+4→c≠n+3→c≠n→c≠n+1→s.heap.get? c=some o→h'.get? c=some o)→(∃ o,h'.get? e=some o∧o.cls=.type "StopIteration")→E (.ref e) { s with heap:=h' }) :
  wpAny (model prog w) A (Builtin.«zip.__next__» ⟨[.ref (n+4)],[]⟩) Q E s:=by
 show wpAny _ _ (field (.ref (n+4)) 2 >>= _) _ _ _
 refine wpAny_bind (wpAny_field gz rfl (x:=.bool false) rfl ?_)
 show wpAny _ _ (field (.ref (n+4)) 3 >>= _) _ _ _
 refine wpAny_bind (wpAny_field gz rfl (x:=.ref (n+2)) rfl ?_)
 refine wpAny_bind (wpAny_seqItems gi rfl ?_)
 show wpAny _ _ (Builtin.SmallTypes.ownedTupleIsFree (.ref (n+4)) >>= _) _ _ _
 refine wpAny_bind ?_
 unfold Builtin.SmallTypes.ownedTupleIsFree
 refine wpAny_bind (wpAny_field gz rfl (x:=.none) rfl ?_)
 refine wpAny_pure ?_
 simp only[if_true]
 refine wpAny_bind (wpAny_rule ?_)
 refine wpAny_bind (wpAny_field gz rfl (x:=.ref (n+3)) rfl ?_)
 refine wpAny_bind (wpAny_setField_rec gz (by simp) fun m1 gz1 e1=>?_)
 replace gz1:IsZip m1 (n+4) (n+2) (n+3) .ellipsis:=gz1
 refine wpAny_bind ?_
 simp only[List.zipIdx_cons,List.zipIdx_nil,List.forIn_cons,List.forIn_nil]
 refine wpAny_bind (wpAny_bind ?_)
 refine wpAny_onRaise ?_
 show wpAny _ _ (nextOf (.ref n) >>= _) _ _ _
 have p1:SIt m1 t1 n l1 k:=q1.at fun o g=>e1.extBut _ _ (neN (by omega)) g
 have p2:SOf m1 t1 l1 xs:=o1.at fun o g=>e1.extBut _ _ (neN (by omega)) g
 cases hx:xs[k]? with
 | none=>
  refine wpAny_bind (qdr hh p1 p2 hx fun m2 e g2 he=>?_)
  obtain ⟨oe,hoe,hce⟩:=he
  have gz2:IsZip m2 (n+4) (n+2) (n+3) .ellipsis:=g2 _ _ (neN (by omega)) gz1
  have ne:e≠n+4:=fun z=>by subst z;rw[gz2] at hoe;cases hoe;simp at hce
  refine wpAny_setField_rec gz2 (by simp) fun m3 _ e3=>?_
  exact kk m3 e (fun c o d1 _ d3 _ g=>e3.extBut _ _ d1 (g2 _ _ d3 (e1.extBut _ _ d1 g))) ⟨oe,e3.extBut _ _ ne hoe,hce⟩
 | some x=>
  have hy:ys[k]?=none:=by
   rcases hend with z|z
   ·rw[hx] at z;cases z
   ·exact z
  refine wpAny_bind (ybw p1 p2 hx fun m2 r1 e2=>?_)
  refine wpAny_pure ?_
  have go2:IsPair m2 (n+3) a b:=e2.extBut _ _ (neN (by omega)) (e1.extBut _ _ (neN (by omega)) go)
  refine wpAny_bind (wpAny_seqItems go2 rfl ?_)
  refine wpAny_bind (wpAny_updateSeq_pair go2 fun m3 go3 e3=>?_)
  refine wpAny_bind (wpAny_letGo ?_)
  refine wpAny_pure ?_
  refine wpAny_bind (wpAny_bind ?_)
  refine wpAny_onRaise ?_
  show wpAny _ _ (nextOf (.ref (n+1)) >>= _) _ _ _
  refine wpAny_bind (qdr hh (q2.at fun o g=>e3.extBut _ _ (neN (by omega)) (e2.extBut _ _ (neN (by omega)) (e1.extBut _ _ (neN (by omega)) g))) (o2.at fun o g=>e3.extBut _ _ (neN (by omega)) (e2.extBut _ _ (neN (by omega)) (e1.extBut _ _ (neN (by omega)) g))) hy fun m4 e g4 he=>?_)
  obtain ⟨oe,hoe,hce⟩:=he
  have gz4:IsZip m4 (n+4) (n+2) (n+3) .ellipsis:=g4 _ _ (neN (by omega)) (e3.extBut _ _ (neN (by omega)) (e2.extBut _ _ (neN (by omega)) gz1))
  have ne:e≠n+4:=fun z=>by subst z;rw[gz4] at hoe;cases hoe;simp at hce
  refine wpAny_setField_rec gz4 (by simp) fun m5 _ e5=>?_
  exact kk m5 e (fun c o d1 d2 d3 d4 g=>e5.extBut _ _ d1 (g4 _ _ d4 (e3.extBut _ _ d2 (e2.extBut _ _ d3 (e1.extBut _ _ d1 g))))) ⟨oe,e5.extBut _ _ ne hoe,hce⟩
def itN (tp:Bool):String:=if tp then "tuple_iterator" else "list_iterator"
theorem iterS {tp:Bool}{Q:Value→Shared→Prop} (hl:SOf s.heap tp l its) (k:Q (.ref s.heap.objs.size) { s with heap:=s.heap.push { cls:=.type (itN tp),data:=.fields #[.ref l,.int 0 0] } }):wpAny (model prog w) A (pyIter (.ref l)) Q E s:=by
 cases tp with
 | true=>exact iter_tuple hl k
 | false=>exact wpAny_pyIter_list hl k
theorem SIt.new {tp:Bool}{h:Heap}:SIt (h.push { cls:=.type (itN tp),data:=.fields #[.ref l,.int 0 0] }) tp h.objs.size l 0:=by
 cases tp with
 | true=>exact ⟨_,Heap.get?_push_size _ rfl,rfl,rfl⟩
 | false=>exact ⟨_,Heap.get?_push_size _ rfl,rfl,rfl⟩
abbrev zp1 (h:Heap) (t1:Bool) (l1:Addr):Heap:=h.push { cls:=.type (itN t1),data:=.fields #[.ref l1,.int 0 0] }
abbrev zp2 (h:Heap) (t1 t2:Bool) (l1 l2:Addr):Heap:=(zp1 h t1 l1).push { cls:=.type (itN t2),data:=.fields #[.ref l2,.int 0 0] }
abbrev zp3 (h:Heap) (t1 t2:Bool) (l1 l2:Addr):Heap:=(zp2 h t1 t2 l1 l2).push { cls:=.type "tuple",data:=.seq #[.ref h.objs.size,.ref (zp1 h t1 l1).objs.size] }
abbrev zp4 (h:Heap) (t1 t2:Bool) (l1 l2:Addr):Heap:=(zp3 h t1 t2 l1 l2).push { cls:=.type "tuple",data:=.seq #[.none,.none] }
abbrev zp5 (h:Heap) (t1 t2:Bool) (l1 l2:Addr):Heap:=(zp4 h t1 t2 l1 l2).push { cls:=.type "zip",data:=.fields #[.none,.bool false,.bool false,.ref (zp2 h t1 t2 l1 l2).objs.size,.ref (zp3 h t1 t2 l1 l2).objs.size] }
theorem zipNew (t1 t2:Bool) (l1 l2:Addr) (xs ys:Array Value) :
  Meets (Builtin.«zip.__new__» ⟨[.type "zip",.ref l1,.ref l2],[]⟩) (fun _ R s=>SOf s.heap t1 l1 xs∧SOf s.heap t2 l2 ys∧R (.ok (.ret (.ref (zp4 s.heap t1 t2 l1 l2).objs.size))) { s with heap:=zp5 s.heap t1 t2 l1 l2 }):=
 .of_wp fun prog w A R s h=>by
  obtain ⟨hp,g,d,tk,os⟩:=s
  obtain ⟨y1,y2,h⟩:=h
  have hsub:=sub_zip
  have Y1:SOf (Shared.heap ⟨hp,g,d,tk,os⟩) t1 l1 xs:=y1
  have Y2:SOf (Shared.heap ⟨hp.push { cls:=.type (itN t1),data:=.fields #[.ref l1,.int 0 0] },g,d,tk,os⟩) t2 l2 ys:=y2.at fun o z=>Heap.get?_push_of_some _ z
  wp_walk using iterS Y1,iterS Y2
  exact ⟨_,rfl,h⟩
end
theorem qhv:bootBuiltins "zip" = some (.type "zip"):=by decide +kernel
section
variable {prog:Program}{w:World}{A:Around}{E:Value→Shared→Prop}{s:Shared}
def ZSt (h:Heap) (n:Nat) (t1 t2:Bool) (l1 l2:Addr) (i:Nat):Prop:=
 ∃ a b,IsZip h (n+4) (n+2) (n+3) .none∧IsPair h (n+2) (.ref n) (.ref (n+1))∧IsPair h (n+3) a b∧SIt h t1 n l1 i∧SIt h t2 (n+1) l2 i
theorem qiq {t1 t2:Bool}{l1 l2:Addr}{xs ys:Array Value}{Q:Value→Shared→Prop} (y1:SOf s.heap t1 l1 xs) (y2:SOf s.heap t2 l2 ys)
  (k:∀ h',ZSt h' s.heap.objs.size t1 t2 l1 l2 0→(∀ c o,s.heap.get? c=some o→h'.get? c=some o)→Q (.ref (s.heap.objs.size+4)) { s with heap:=h' }) :
  wpAny (model prog w) A (call (.type "zip") [.ref l1,.ref l2]) Q E s:=by
 refine callType_new F.called_zip (by decide) (F.typeCall_zip_2 _ _) (F.newCall_zip_2 _ _) (fun obj=>F.args_object_init_3 obj _ _) F.entry_zip_new (zipNew t1 t2 l1 l2 xs ys) ⟨y1,y2,?_⟩
 have z1:(zp1 s.heap t1 l1).objs.size=s.heap.objs.size+1:=Heap.size_push ..
 have z2:(zp2 s.heap t1 t2 l1 l2).objs.size=s.heap.objs.size+2:=by rw[Heap.size_push,z1]
 have z3:(zp3 s.heap t1 t2 l1 l2).objs.size=s.heap.objs.size+3:=by rw[Heap.size_push,z2]
 have z4:(zp4 s.heap t1 t2 l1 l2).objs.size=s.heap.objs.size+4:=by rw[Heap.size_push,z3]
 have u5:∀ c o,(zp4 s.heap t1 t2 l1 l2).get? c=some o→(zp5 s.heap t1 t2 l1 l2).get? c=some o:=fun c o g=>Heap.get?_push_of_some _ g
 have u4:∀ c o,(zp3 s.heap t1 t2 l1 l2).get? c=some o→(zp5 s.heap t1 t2 l1 l2).get? c=some o:=fun c o g=>u5 c o (Heap.get?_push_of_some _ g)
 have u3:∀ c o,(zp2 s.heap t1 t2 l1 l2).get? c=some o→(zp5 s.heap t1 t2 l1 l2).get? c=some o:=fun c o g=>u4 c o (Heap.get?_push_of_some _ g)
 have u2:∀ c o,(zp1 s.heap t1 l1).get? c=some o→(zp5 s.heap t1 t2 l1 l2).get? c=some o:=fun c o g=>u3 c o (Heap.get?_push_of_some _ g)
 have g5:(zp5 s.heap t1 t2 l1 l2).get? (zp4 s.heap t1 t2 l1 l2).objs.size=some _:=Heap.get?_push_size _ rfl
 have g4:(zp5 s.heap t1 t2 l1 l2).get? (zp3 s.heap t1 t2 l1 l2).objs.size=some _:=u5 _ _ (Heap.get?_push_size _ rfl)
 have g3:(zp5 s.heap t1 t2 l1 l2).get? (zp2 s.heap t1 t2 l1 l2).objs.size=some _:=u4 _ _ (Heap.get?_push_size _ rfl)
 have i2:SIt (zp5 s.heap t1 t2 l1 l2) t2 (zp1 s.heap t1 l1).objs.size l2 0:=SIt.new.at fun o g=>u3 _ o g
 have i1:SIt (zp5 s.heap t1 t2 l1 l2) t1 s.heap.objs.size l1 0:=SIt.new.at fun o g=>u2 _ o g
 show _∧_
 rw[z2,z3,z4] at g5
 rw[z1,z2] at g3
 rw[z3] at g4
 rw[z1] at i2
 rw[z4]
 exact ⟨⟨_,g5,rfl⟩,k _ ⟨_,_,g5,g3,g4,i1,i2⟩ fun c o g=>u2 c o (Heap.get?_push_of_some _ g)⟩
end
def Sq (K:PySem.W.Frag) (tp:Bool) (H:Hp) (l:Addr) (xs:List V):Prop:=if tp then SqT K H l xs else SqL K H l xs
section
variable {X:Cx}{pins:List (Addr×Obj)}{σ:St}{H:Hp}{s:Shared}
theorem Inv.sq {tp:Bool}{l:Addr}{xs:List V} (I:Inv X pins σ H s) (h:Sq X.K tp H l xs):∃ its:List Value,Vals xs its∧SOf s.heap tp l its.toArray∧l<s.heap.objs.size:=by
 cases tp with
 | true=>
  obtain ⟨its,r,pl,z⟩:=I.tuple h
  obtain ⟨o,g,_⟩:=id pl
  exact ⟨its,r,pl,Heap.lt_size g⟩
 | false=>
  obtain ⟨its,r,pl,z⟩:=I.list h
  obtain ⟨o,g,_⟩:=id pl.isList
  exact ⟨its,r,pl.isList,Heap.lt_size g⟩
theorem Inv.sq_inj {tp:Bool}{l:Addr}{xs ys:List V} (I:Inv X pins σ H s) (h:Sq X.K tp H l xs) (h':Sq X.K tp H l ys):xs=ys:=by
 cases tp with
 | true=>exact I.tuple_inj h h'
 | false=>exact I.list_inj h h'
end
section
variable {X:Cx}{pins:List (Addr×Obj)}{σ:St}{H:Hp}{s:Shared}{h':Heap}
theorem Inv.turnedM {ch:List Addr}{t':Nat} (I:Inv X pins σ H s) (k:∀ b u,b∉ch→s.heap.get? b=some u→h'.get? b=some u) (hf:∀ b∈ch,FpOk X pins H b):Inv X pins σ H { s with heap:=h',toks:=t' }:=by
 have nit:∀ b u,H b=some u→b∉ch:=fun b u e z=>by rw[(hf b z).1] at e;cases e
 refine I.step (g':=s.gens) (d':=s.drawn) (ch:=ch) (fun b hb=>?_) (fun b u _ _ hc e _=>k b u hc e) (fun b u _ _ hc e _=>⟨u.slots,k b u hc e⟩) (fun b u _ e n=>n)
  (fun b u hc e=>⟨u,k b u hc e⟩) (fun b xs e=>e) (fun b u xs e=>e) (fun b ps e=>⟨#[],by rw[e];simp⟩) (fun m hm=>?_) (fun b u e=>?_) I.bare
 ·obtain ⟨_,f1,_,f3,f4,f5⟩:=hf b hb
  exact ⟨f3,f1,f4,f5⟩
 ·obtain ⟨ob,es,ep,ho,r⟩:=hm
  exact ⟨ob,es,ep,k _ ob (fun z=>(hf _ z).2.1 rfl) ho,r⟩
 ·refine (I.hok b u e).stay (fun c v hc q=>k c v ?_ q) (fun c q=>q) fun c xs q=>q
  rcases hc with rfl|hc
  ·exact nit _ u e
  ·exact nit c _ hc
end
def Itz (K:PySem.W.Frag) (t1 t2:Bool) (l1 l2:Addr):It:=
  ⟨fun i H=>∃ xs ys x y,Sq K t1 H l1 xs∧Sq K t2 H l2 ys∧xs[i]?=some x∧ys[i]?=some y,
   fun i H x H'=>∃ p u v,H p=none∧x=.ref p∧H'=upd H p (.tup [u,v])∧∀ xs ys,Sq K t1 H l1 xs→Sq K t2 H l2 ys→xs[i]?=some u∧ys[i]?=some v,
   fun i H=>∃ xs ys,Sq K t1 H l1 xs∧Sq K t2 H l2 ys∧(xs[i]?=none∨ys[i]?=none)⟩
theorem yhz {xs:List V}{us:List Value}{i:Nat} (r:Vals xs us) (h:xs[i]?=none):us[i]?=none:=by
 rw[List.getElem?_eq_none_iff] at h ⊢
 rw[← r.length]
 exact h
theorem turn_zip {P:Program}{w:World}{K:PySem.W.Frag}{es:List Expr}{k:Nat}{tp:Pos}{t1 t2:Bool} (l1 l2 n:Nat) (b1:l1<n) (b2:l2<n) :
  Turn P w K (.Tuple es k tp) (Itz K t1 t2 l1 l2) [n,n+1,n+2,n+3,n+4] (n+4) (fun i h=>ZSt h n t1 t2 l1 l2 i) where
 mem:=by simp
 obj:=fun i h st b hb=>by
  obtain ⟨x,y,gz,gi,go,q1,q2⟩:=st
  have hb':b=n∨b=n+1∨b=n+2∨b=n+3∨b=n+4:=by simpa using hb
  rcases hb' with rfl|rfl|rfl|rfl|rfl
  ·exact q1.obj
  ·exact q2.obj
  ·exact ⟨_,gi,fun v z=>by
    have z':Data.seq _ _=Data.cell v:=z
    cases z'⟩
  ·exact ⟨_,go,fun v z=>by
    have z':Data.seq _ _=Data.cell v:=z
    cases z'⟩
  ·exact ⟨_,gz,fun v z=>by
    have z':Data.fields _=Data.cell v:=z
    cases z'⟩
 keep:=fun i h h' st kk=>by
  obtain ⟨x,y,gz,gi,go,q1,q2⟩:=st
  exact ⟨x,y,kk _ (by simp) _ gz,kk _ (by simp) _ gi,kk _ (by simp) _ go,q1.at fun o z=>kk _ (by simp) o z,q2.at fun o z=>kk _ (by simp) o z⟩
 item:=by
  intro X hP hw hK hc i pins s σ H E I hf st hg
  subst hP hw hK
  obtain ⟨xs,ys,x,y,hq1,hq2,hx,hy⟩:=hg
  obtain ⟨its1,rv1,so1,_⟩:=I.sq hq1
  obtain ⟨its2,rv2,so2,_⟩:=I.sq hq2
  obtain ⟨u1,hu1,ru1⟩:=rv1.get hx
  obtain ⟨u2,hu2,ru2⟩:=rv2.get hy
  obtain ⟨x0,y0,gz,gi,go,q1,q2⟩:=st
  have lt4:n+4<s.heap.objs.size:=Heap.lt_size gz
  have hT:s.TypeIs (.ref (n+4)) "zip":=⟨_,gz,rfl⟩
  unfold pyNext
  refine wpAny_bind (wpAny_attempt (wpAny_callSpecial?_slot (name:=Str.ofString "__next__") hT F.slot_zip_next (wpAny_call_entry F.slot_zip_next hT F.entry_zip_next ?_ (F.args_zip_next_1 _))))
  refine ylq b1 b2 gz gi go q1 q2 so1 so2 (x:=u1) (y:=u2) (by simpa using hu1) (by simpa using hu2) fun h' gz' go' r1 r2 hT' hsz kp=>?_
  refine wpAny_pure ?_
  refine ⟨_,rfl,wpAny_letOwnedTupleGo_zip gz' fun h2 gz2 hs2=>?_⟩
  have kp2:∀ b ob,b∉[n,n+1,n+2,n+3,n+4]→s.heap.get? b=some ob→h2.get? b=some ob:=fun b ob hb z=>by
   have d4:b≠n+4:=fun q=>hb (by simp[q])
   have d3:b≠n+3:=fun q=>hb (by simp[q])
   have d0:b≠n:=fun q=>hb (by simp[q])
   have d1:b≠n+1:=fun q=>hb (by simp[q])
   exact (hs2.2 b d4).trans (kp b ob d4 d3 d0 d1 z)
  have up2:∀ b ob,b≠n+4→h'.get? b=some ob→h2.get? b=some ob:=fun b ob d z=>(hs2.2 b d).trans z
  have hT2:h2.get? s.heap.objs.size=some { cls:=.type "tuple",data:=.seq #[u1,u2] }:=up2 _ _ (Nat.ne_of_gt lt4) hT'
  have fresh:H s.heap.objs.size=none:=I.hok.fresh (Nat.le_refl _)
  have new:qbm X.prog X.w (upd H s.heap.objs.size (.tup [x,y])) h2 s.heap.objs.size (.tup [x,y]):=⟨by show 2≤sizeLine;decide,[u1,u2],.cons ru1 (.cons ru2 .nil),⟨_,hT2,rfl,_,rfl⟩⟩
  refine ⟨.ref s.heap.objs.size,upd H s.heap.objs.size (.tup [x,y]),I.turnedL kp2 hf (Nat.le_refl _) new,rfl,⟨_,x,y,fresh,rfl,rfl,fun as bs ha hb=>by rw[I.sq_inj ha hq1,I.sq_inj hb hq2];exact ⟨hx,hy⟩⟩,⟨_,_,gz2,?_,up2 _ _ (neN (by omega)) go',r1.at fun o z=>up2 _ o (neN (by omega)) z,r2.at fun o z=>up2 _ o (neN (by omega)) z⟩,fun b hb=>?_⟩
  ·exact up2 _ _ (neN (by omega)) (kp _ _ (neN (by omega)) (neN (by omega)) (neN (by omega)) (neN (by omega)) gi)
  ·rw[yaj]
   ·exact (hf b hb).1
   ·have hb':b=n∨b=n+1∨b=n+2∨b=n+3∨b=n+4:=by simpa using hb
    rcases hb' with rfl|rfl|rfl|rfl|rfl<;>exact neN (by omega)
 done:=by
  intro X hP hw hK hc i pins s σ H E I hf st hg
  subst hP hw hK
  obtain ⟨xs,ys,hq1,hq2,hxy⟩:=hg
  obtain ⟨its1,rv1,so1,_⟩:=I.sq hq1
  obtain ⟨its2,rv2,so2,_⟩:=I.sq hq2
  obtain ⟨x0,y0,gz,gi,go,q1,q2⟩:=st
  have hT:s.TypeIs (.ref (n+4)) "zip":=⟨_,gz,rfl⟩
  have hend:its1.toArray[i]?=none∨its2.toArray[i]?=none:=hxy.imp (fun z=>by simpa using yhz rv1 z) fun z=>by simpa using yhz rv2 z
  unfold pyNext
  refine wpAny_bind (wpAny_attempt (wpAny_callSpecial?_slot (name:=Str.ofString "__next__") hT F.slot_zip_next (wpAny_call_entry F.slot_zip_next hT F.entry_zip_next (yk8 (I.ok.hd hc) b1 b2 gz gi go q1 q2 so1 so2 hend fun h' e kp he=>?_) (F.args_zip_next_1 _))))
  obtain ⟨o,ho,hce⟩:=he
  refine wpAny_bind (wpAny_isInstance (T:="StopIteration") (b:=true) ⟨o,ho,hce⟩ isSubtype_stop ?_)
  refine wpAny_pure ⟨rfl,?_⟩
  refine I.turnedM (t':=s.toks) (ch:=[n,n+1,n+2,n+3,n+4]) (fun b ob hb z=>?_) hf
  exact kp b ob (fun q=>hb (by simp[q])) (fun q=>hb (by simp[q])) (fun q=>hb (by simp[q])) (fun q=>hb (by simp[q])) z
 self:=fun _ _ _ _ _ st h=>by
  obtain ⟨x0,y0,gz,gi,go,q1,q2⟩:=st
  exact wpAny_pyIter_zip gz h
def iZip (K:PySem.W.Frag) (ta:TA):TI:=fun σ H R=>ta σ H fun vs H1=>∃ t1 t2 l1 l2 xs ys,vs=[.ref l1,.ref l2]∧Sq K t1 H1 l1 xs∧Sq K t2 H1 l2 ys∧R (Itz K t1 t2 l1 l2) H1
section
variable {X:Cx}
theorem yjy {a b:Expr}{ta:TA}{p pos tp:Pos}{es:List Expr}{k:Nat} (hg:Gl X "zip") (hm:X.mg "zip" = none) (ha:PA X [a,b] ta) (hs:starEach [a,b] X.env=(false,eval a X.env)::starEach [b] X.env:=by rfl) (hp:(backTo pos (starEach [b] X.env)).any (·.1)=false:=by rfl) :
  PI X (.Tuple es k tp) (.Call (.Name "zip" p) [a,b] [] pos) (iZip X.K ta):=by
 intro pins s σ H R I h
 refine Call_ (qdk I hg hm qhv (PyProof.Rows.callWith_type1 (thn (ha pos pins s σ H _ I h) fun us s1 ⟨vs,H1,I1,r1,q1⟩=>?_) hs hp))
 obtain ⟨t1,t2,l1,l2,xs,ys,e,hq1,hq2,q⟩:=q1
 subst e
 cases r1 with
 | cons r rr=>
  cases rr with
  | cons r2 rr=>
   cases rr
   cases r
   cases r2
   obtain ⟨its1,rv1,so1,b1⟩:=I1.sq hq1
   obtain ⟨its2,rv2,so2,b2⟩:=I1.sq hq2
   refine qiq so1 so2 fun h' st kp=>?_
   obtain ⟨x0,y0,gz,gi,go,i1,i2⟩:=id st
   refine wpAny_pyIter_zip gz ⟨_,[s1.heap.objs.size,s1.heap.objs.size+1,s1.heap.objs.size+2,s1.heap.objs.size+3,s1.heap.objs.size+4],_,Itz X.K t1 t2 l1 l2,H1,rfl,I1.kept (t':=s1.toks) kp,turn_zip l1 l2 s1.heap.objs.size b1 b2,st,fun b hb=>?_,q⟩
   have hb':s1.heap.objs.size≤b:=by
    have hb':b=s1.heap.objs.size∨b=s1.heap.objs.size+1∨b=s1.heap.objs.size+2∨b=s1.heap.objs.size+3∨b=s1.heap.objs.size+4:=by simpa using hb
    rcases hb' with rfl|rfl|rfl|rfl|rfl
    ·exact Nat.le_refl _
    ·exact Nat.le_add_right ..
    ·exact Nat.le_add_right ..
    ·exact Nat.le_add_right ..
    ·exact Nat.le_add_right ..
   exact I1.fpOk hb' (I1.hok.fresh hb')
end
theorem for_zip {K:PySem.W.Frag}{t1 t2:Bool}{l1 l2:Addr}{xs ys:List V}{g:TG}{tb:TS}{D:Ends}{σ:St}{H:Hp} (hlen:xs.length=ys.length) (Pv:Nat→St→Hp→Prop) (h0:Pv 0 σ H) (hl:∀ i σ H,i≤xs.length→Pv i σ H→Sq K t1 H l1 xs∧Sq K t2 H l2 ys)
  (hs:∀ i x y p σ H,xs[i]?=some x→ys[i]?=some y→Pv i σ H→H p=none→g (.ref p) σ (upd H p (.tup [x,y])) fun σ2 H2=>tb { D with nx:=Pv (i+1),ct:=Pv (i+1),bk:=D.nx } σ2 H2) (hd:∀ σ H,Pv xs.length σ H→D.nx σ H) :
  ∃ W:Nat→Nat→St→Hp→Prop,(∃ m,W 0 m σ H)∧∀ i m σ H,W i m σ H→
   ((Itz K t1 t2 l1 l2).stop i H∧D.nx σ H)∨((Itz K t1 t2 l1 l2).go i H∧∃ N:St→Hp→Prop,(∀ σ' H',N σ' H'→∃ m',m' < m∧W (i+1) m' σ' H')∧∀ x H',(Itz K t1 t2 l1 l2).yld i H x H'→g x σ H' fun σ2 H2=>tb { D with nx:=N,ct:=N,bk:=D.nx } σ2 H2):=by
 refine ⟨fun i m σ H=>m=xs.length-i∧i≤xs.length∧Pv i σ H,⟨xs.length,by simp,Nat.zero_le _,h0⟩,?_⟩
 rintro i m σ H ⟨rfl,hi,p⟩
 obtain ⟨q1,q2⟩:=hl i σ H hi p
 by_cases hlt:i<xs.length
 ·refine .inr ⟨⟨xs,ys,_,_,q1,q2,List.getElem?_eq_getElem hlt,List.getElem?_eq_getElem (by omega)⟩,Pv (i+1),fun σ' H' p'=>⟨xs.length-(i+1),by omega,rfl,hlt,p'⟩,?_⟩
  rintro x H' ⟨pp,u,v,hp,rfl,rfl,hu⟩
  obtain ⟨h1,h2⟩:=hu xs ys q1 q2
  exact hs i u v pp σ H h1 h2 p hp
 ·have e:i=xs.length:=by omega
  subst e
  exact .inl ⟨⟨xs,ys,q1,q2,.inl (by simp)⟩,hd σ H p⟩
theorem qic:bootBuiltins "sorted" = some (.builtin "sorted"):=by decide +kernel
theorem yhw:∀ {us:List Value}{ns:List Int},IntsAre us ns→Vals (ns.map V.int) us
 | _,_,.nil=>.nil
 | _,_,.cons n t r=>.cons ⟨t,rfl⟩ (yhw r)
theorem yf7:bootBuiltins "all" = some (.builtin "all"):=by decide +kernel
section
variable {X:Cx}
def rAllB:List V→Hp→VK→Prop:=fun xs H Q=>∃ (l:Addr) (bs:List Bool),xs=[.ref l]∧H l=some (.lst (bs.map V.bl))∧Q (.bl (bs.all id)) H
theorem yk4 (bs:List Bool):(List.range bs.length).all (fun i=>bs.getD i false)=bs.all id:=by
 rw[Bool.eq_iff_iff,List.all_eq_true,List.all_eq_true]
 constructor
 ·intro h b hb
  obtain ⟨i,hi,e⟩:=List.getElem_of_mem hb
  have:=h i (List.mem_range.mpr hi)
  rw[List.getD_eq_getElem?_getD,List.getElem?_eq_getElem hi] at this
  rw[← e];exact this
 ·intro h i hi
  have hi':=List.mem_range.mp hi
  rw[List.getD_eq_getElem?_getD,List.getElem?_eq_getElem hi']
  exact h _ (List.getElem_mem hi')
theorem truth_bs {P:Program}{w:World}{A:Around} (bs:List Bool):TruthOf P w A (fun i v=>(bs.map Value.bool).toArray[i]?=some v) (fun i=>bs.getD i false):=by
 intro i v s Q E hP hQ
 have hP':(bs.map Value.bool)[i]?=some v:=by simpa using hP
 rw[List.getElem?_map] at hP'
 cases e:bs[i]? with
 | none=>rw[e] at hP';cases hP'
 | some b=>
  rw[e] at hP'
  cases hP'
  have hQ':Q (bs.getD i false) s:=hQ
  rw[List.getD_eq_getElem?_getD,e] at hQ'
  exact wpAny_truthy_bool hQ'
theorem yf3 (hc:X.calm=true):yda X (.builtin "all") rAllB:=by
 intro pins s σ H xs us Q I r h
 obtain ⟨l,bs,rfl,hH,q⟩:=h
 cases r with
 | cons r rr=>
  cases rr
  cases r
  obtain ⟨z,its,n,rv,hl,e⟩:=I.lstM hH
  have hi:=rv.bls
  subst hi
  have hlt:l<s.heap.objs.size:=Heap.lt_size e
  refine call_all_walk (wpAny_pyIter_list (items:=(bs.map Value.bool).toArray) ⟨_,e,rfl,n,rfl⟩ ⟨_,_,_,_,_,_,_,rfl,Walks.list (by simpa using I.ok.hd hc) s.heap.objs.size l (Nat.ne_of_lt hlt) (bs.map Value.bool).toArray,⟨⟨_,Heap.get?_push_size _ rfl,rfl,rfl⟩,⟨_,Heap.get?_push_of_some _ e,rfl,n,rfl⟩⟩,truth_bs bs,fun h' tk hk=>?_⟩)
  rw[List.size_toArray,List.length_map,yk4]
  refine ⟨.bl (bs.all id),H,I.kept fun b o g=>hk b o ?_ (Heap.get?_push_of_some _ g),rfl,q⟩
  intro hb
  rw[List.mem_singleton] at hb
  exact absurd (Heap.lt_size g) (by rw[hb];exact Nat.lt_irrefl _)
end
section
variable {κ:Type} [DecidableEq κ]
def valV (kvs:List (κ×V)) (k:κ):Option V:=(kvs.find? fun kv=>decide (kv.1=k)).map (·.2)
def putK (kvs:List (κ×V)) (k:κ) (v:V):List (κ×V):=
 if (kvs.any fun kv=>decide (kv.1=k))=true then kvs.map (fun kv=>if kv.1=k then (kv.1,v) else kv) else kvs++[(k,v)]
theorem ybs {p:κ×V}{r:List (κ×V)}{k:κ} (e:p.1=k):valV (p::r) k=some p.2:=by simp[valV,List.find?_cons,e]
theorem ybt {p:κ×V}{r:List (κ×V)}{k:κ} (e:¬ p.1=k):valV (p::r) k=valV r k:=by simp[valV,List.find?_cons,e]
theorem yg6 (k:κ):∀ kvs:List (κ×V),(kvs.any fun kv=>decide (kv.1=k))=(valV kvs k).isSome
 | []=>rfl
 | p::r=>by
  rw[List.any_cons]
  by_cases e:p.1=k
  ·simp only[ybs e,decide_eq_true e,Bool.true_or,Option.isSome_some]
  ·rw[ybt e,decide_eq_false e,Bool.false_or];exact yg6 k r
theorem yjv (k j:κ) (y:V):∀ kvs:List (κ×V),valV (kvs.map fun kv=>if kv.1=k then (kv.1,y) else kv) j=(valV kvs j).map fun x=>if j=k then y else x
 | []=>rfl
 | p::r=>by
  have ih:=yjv k j y r
  rw[List.map_cons]
  by_cases h:p.1=k
  ·rw[if_pos h]
   by_cases e:p.1=j
   ·rw[ybs (p:=(p.1,y)) e,ybs e,Option.map_some,if_pos (e.symm.trans h)]
   ·rw[ybt (p:=(p.1,y)) e,ybt e,ih]
  ·rw[if_neg h]
   by_cases e:p.1=j
   ·rw[ybs (p:=p) e,ybs e,Option.map_some,if_neg (fun z=>h (e.trans z))]
   ·rw[ybt (p:=p) e,ybt e,ih]
theorem yic (k j:κ) (y:V):∀ kvs:List (κ×V),valV kvs k=none→valV (kvs++[(k,y)]) j=if j=k then some y else valV kvs j
 | [],_=>by
  by_cases e:k=j
  ·rw[if_pos e.symm];exact ybs (p:=(k,y)) e
  ·rw[if_neg (fun z=>e z.symm)];exact ybt (p:=(k,y)) e
 | p::r,hn=>by
  rw[List.cons_append]
  have hk:¬ p.1=k:=fun z=>by rw[ybs z] at hn;cases hn
  rw[ybt hk] at hn
  have ih:=yic k j y r hn
  by_cases e:p.1=j
  ·rw[ybs e,ybs e,if_neg (fun z=>hk (e.trans z))]
  ·rw[ybt e,ybt e,ih]
theorem valV_put (kvs:List (κ×V)) (k j:κ) (y:V):valV (putK kvs k y) j=if j=k then some y else valV kvs j:=by
 unfold putK
 by_cases a:(kvs.any fun kv=>decide (kv.1=k))=true
 ·rw[if_pos a,yjv]
  rw[yg6] at a
  by_cases e:j=k
  ·obtain ⟨x,hx⟩:=Option.isSome_iff_exists.mp a
   rw[if_pos e,e,hx,Option.map_some,if_pos rfl]
  ·rw[if_neg e]
   cases valV kvs j with
   | none=>rfl
   | some x=>rw[Option.map_some,if_neg e]
 ·rw[if_neg a]
  refine yic k j y kvs ?_
  rw[yg6] at a
  cases q:valV kvs k with
  | none=>rfl
  | some x=>rw[q] at a;exact (a rfl).elim
theorem yfs (kvs:List (κ×V)) (k:κ) (v:V):(putK kvs k v).length≤kvs.length+1:=by
 unfold putK
 split
 ·rw[List.length_map];omega
 ·rw[List.length_append,List.length_cons,List.length_nil];omega
theorem KV.val {kvs:List (κ×V)}{vs:List (κ×Value)} (r:KV kvs vs) (k:κ):RelO (valV kvs k) (valueAt vs k):=by
 unfold KV at r
 induction r with
 | nil=>exact True.intro
 | @cons p q ps qs h t ih=>
  obtain ⟨h1,h2⟩:=h
  by_cases e:p.1=k
  ·have e':q.1=k:=h1.symm.trans e
   have b:valueAt (q::qs) k=some q.2:=by simp[valueAt,List.find?_cons,e']
   rw[ybs e,b];exact h2
  ·have e':¬ q.1=k:=fun z=>e (h1.trans z)
   have b:valueAt (q::qs) k=valueAt qs k:=by simp[valueAt,List.find?_cons,e']
   rw[ybt e,b];exact ih
theorem KV.any {kvs:List (κ×V)}{vs:List (κ×Value)} (r:KV kvs vs) (k:κ):(kvs.any fun kv=>decide (kv.1=k))=vs.any fun kv=>decide (kv.1=k):=by
 unfold KV at r
 induction r with
 | nil=>rfl
 | cons h t ih=>rw[List.any_cons,List.any_cons,ih,h.1]
theorem KV.repl {kvs:List (κ×V)}{vs:List (κ×Value)} (r:KV kvs vs) (k:κ) {y:V}{u:Value} (ry:RelV y u) :
  KV (kvs.map fun kv=>if kv.1=k then (kv.1,y) else kv) (vs.map fun kv=>if kv.1=k then (kv.1,u) else kv):=by
 unfold KV at r ⊢
 induction r with
 | nil=>exact .nil
 | @cons p q ps qs h t ih=>
  rw[List.map_cons,List.map_cons]
  refine .cons ?_ ih
  obtain ⟨h1,h2⟩:=h
  by_cases e:p.1=k
  ·rw[if_pos e,if_pos (h1.symm.trans e)];exact ⟨h1,ry⟩
  ·rw[if_neg e,if_neg (fun z=>e (h1.trans z))];exact ⟨h1,h2⟩
theorem KV.put {kvs:List (κ×V)}{vs:List (κ×Value)} (r:KV kvs vs) (k:κ) {y:V}{u:Value} (ry:RelV y u):KV (putK kvs k y) (stored vs k u):=by
 unfold putK stored
 rw[r.any k]
 by_cases e:(vs.any fun kv=>decide (kv.1=k))=true
 ·rw[if_pos e,if_pos e];exact r.repl k ry
 ·rw[if_neg e,if_neg e];exact Paired.snoc r ⟨rfl,ry⟩
end
theorem kV_is {P:Program}{w:World}{k:Key}{u:Value} (r:RelV (kV k) u):(ya0 P w).is k u=true:=by
 cases k with
 | inl i=>obtain ⟨t,e⟩:=(show ∃ t,u=Value.int i t from r);subst e;exact yi3 P w i t
 | inr x=>obtain ⟨t,e⟩:=(show ∃ t,u=Value.str x t from r);subst e;exact yit P w x t
theorem yia {P:Program}{w:World}:∀ {ks:List Key}{us:List Value},Vals (ks.map kV) us→ItemsAre (ya0 P w) ks us
 | [],_,r=>by rw[List.map_nil] at r;cases r;exact .nil
 | k::ks,_,r=>by
  rw[List.map_cons] at r
  cases r with
  | cons h t=>exact .cons (kV_is h) (yia t)
abbrev KT (H:Hp):List (List Key×V)→List (List Key×Addr×Value)→Prop:=Paired fun p q=>p.1=q.1∧H q.2.1=some (.tup (p.1.map kV))∧RelV p.2 q.2.2
theorem KT.val {H:Hp}{kvs:List (List Key×V)}{xs:List (List Key×Addr×Value)} (r:KT H kvs xs) (k:List Key):RelO (valV kvs k) ((atKey xs k).map (·.2)):=by
 induction r with
 | nil=>exact True.intro
 | @cons p q ps qs h t ih=>
  obtain ⟨h1,_,h2⟩:=h
  by_cases e:p.1=k
  ·have e':q.1=k:=h1.symm.trans e
   have b:atKey (q::qs) k=some q.2:=by simp[atKey,List.find?_cons,e']
   rw[ybs e,b];exact h2
  ·have e':¬ q.1=k:=fun z=>e (h1.trans z)
   have b:atKey (q::qs) k=atKey qs k:=by simp[atKey,List.find?_cons,e']
   rw[ybt e,b];exact ih
section
variable {P:Program}{w:World}{H:Hp}{h:Heap}{a:Addr}
theorem rd_of {u:HO} (ok:HOk P w H h) (e:Rd H a u):qbm P w H h a u:=e.ok ok
theorem dk_rd {kvs:List (Key×V)} (ok:HOk P w H h) (e:Rd H a (.dK kvs)):kvs.length≤sizeLine∧(a == sysModules)=false∧∃ vs,KV kvs vs∧h.DictOf (ya0 P w) a vs:=
 show qbm P w H h a (.dK kvs) from rd_of ok e
theorem dk_of {kvs:List (Key×V)} (ok:HOk P w H h) (e:H a=some (.dK kvs)):kvs.length≤sizeLine∧(a == sysModules)=false∧∃ vs,KV kvs vs∧h.DictOf (ya0 P w) a vs:=dk_rd ok (.inl e)
theorem key_of {ks:List Key} (ok:HOk P w H h) (e:H a=some (.tup (ks.map kV))):(tupleKind (ya0 P w)).is h ks a:=by
 obtain ⟨_,its,r,o,h1,h2,n,h3⟩:=(show qbm P w H h a (.tup (ks.map kV)) from ok a _ e)
 exact ⟨o,its.toArray,n,h1,h2,h3,by simpa using yia r⟩
theorem dt_rd {kvs:List (List Key×V)} (ok:HOk P w H h) (e:Rd H a (.dT kvs)):kvs.length≤sizeLine∧(a == sysModules)=false∧
  ∃ xs,KT H kvs xs∧h.DictOfH (tupleKind (ya0 P w)) a xs:=by
 obtain ⟨z,y,xs,r,o,es,ep,h1,h2,h3,h4,h5⟩:=(show qbm P w H h a (.dT kvs) from rd_of ok e)
 refine ⟨z,y,xs,r,o,es,ep,h1,h2,h3,h4,fun x hx=>?_,h5⟩
 have all:∀ {l:List (List Key×V)}{m:List (List Key×Addr×Value)},KT H l m→∀ x∈m,(tupleKind (ya0 P w)).is h x.1 x.2.1:=by
  intro l m q
  induction q with
  | nil=>intro x hx;exact nomatch hx
  | @cons p q ps qs hq t ih=>
   intro x hx
   rcases List.mem_cons.mp hx with e|hx
   ·subst e
    exact key_of ok (by rw[← hq.1];exact hq.2.1)
   ·exact ih x hx
 exact all r x hx
end
def DGet (H:Hp) (a:Addr) (y:V) (r:Option V):Prop:=
 (∃ kvs k,Rd H a (.dK kvs)∧y=kV k∧r=valV kvs k)∨∃ kvs k b,Rd H a (.dT kvs)∧y=.ref b∧H b=some (.tup (k.map kV))∧r=valV kvs k
theorem DGet.k {H:Hp}{a:Addr}{kvs:List (Key×V)}{k:Key} (e:H a=some (.dK kvs)):DGet H a (kV k) (valV kvs k):=.inl ⟨kvs,k,.inl e,rfl,rfl⟩
section
variable {X:Cx}{pins:List (Addr×Obj)}{σ:St}{H:Hp}{s:Shared}{a:Addr}{y v:V}{u r:Value}{o:Option V}{A:Around}{E:Value→Shared→Prop}
theorem Inv.big (I:Inv X pins σ H s):sysModules<s.heap.objs.size:=by
 have h:mainGlobals<s.heap.objs.size:=(I.mod.glob.keeps I.bk).lt
 exact Nat.lt_trans (by decide) h
theorem qkp {Q:Value→Shared→Prop} (hu:A.units+1<cLine) (I:Inv X pins σ H s) (g:DGet H a y (some v)) (ry:RelV y u) (h:∀ w' s',Inv X pins σ H s'→RelV v w'→Q w' s') :
  wpAny (model X.prog X.w) A (getItem (.ref a) u) Q E s:=by
 rcases g with ⟨kvs,k,e,ey,l⟩|⟨kvs,k,b,e,ey,eb,l⟩
 ·subst ey
  obtain ⟨z,hd,vs,rel,dd⟩:=dk_rd I.hok e
  obtain ⟨w',hw,rw'⟩:=RelO.some_of (v:=v) (o:=valueAt vs k) (by rw[l];exact rel.val k)
  exact wpAny_getItem_of (kV_is ry) dd.mapOf hw (h w' _ (I.tok _) rw')
 ·subst ey
  cases (show u=Value.ref b from ry)
  obtain ⟨z,hd,xs,rel,dd⟩:=dt_rd I.hok e
  obtain ⟨w',hw,rw'⟩:=RelO.some_of (v:=v) (o:=(atKey xs k).map (·.2)) (by rw[l];exact rel.val k)
  obtain ⟨p,hp,hp2⟩:=Option.map_eq_some_iff.mp hw
  refine wpAny_getItem_heap (tupleKind_room_in1 hu) (key_of I.hok eb) dd hp ?_
  rw[hp2]
  exact h w' _ (I.tok _) rw'
theorem d_write {h':Heap}{t':Nat}{ob:HO} (I:Inv X pins σ H s) (mu:Mut (H a)) (hs:Heap.SameBut a s.heap h') (he:∃ q,h'.get? a=some q) (new:qbm X.prog X.w (upd H a ob) h' a ob) :
  Inv X pins σ (upd H a ob) { s with heap:=h',toks:=t' }:=
 I.write (x:=a) (e:=a) mu (.inl rfl) (fun b q hb z=>(hs.2 b hb).trans z) he new
theorem dk_new {P:Program}{w:World}{H':Hp}{h':Heap}{kvs:List (Key×V)}{vs:List (Key×Value)} (z:kvs.length≤sizeLine) (hd:(a == sysModules)=false) (rel:KV kvs vs) (dd:h'.DictOf (ya0 P w) a vs) :
  qbm P w H' h' a (.dK kvs):=⟨z,hd,vs,rel,dd⟩
end
def NoSl (i:Expr):Prop:=∀ ov iv,subscripted i false ov iv=operate [ov,iv] (getItem ov iv)
theorem subD_of {prog:Program}{w:World}{A:Around}{E:Value→Shared→Prop}{s:Shared}{env:Env}{value slice:Expr}{pos:Pos}{T id:String}{Q:Value→Shared→Prop}
  (hl:typeLookup (.type T) "__getitem__" = pure (some (.builtin id))) (hs:NoSl slice)
  (h:wpAny (model prog w) A (eval value env) (fun o s₁=>wpAny (model prog w) A (eval slice env) (fun i s₂=>s₂.TypeIs o T∧wpAny (model prog w) A (getItem o i) Q E s₂) E s₁) E s) :
  wpAny (model prog w) A (eval (.Subscript value slice pos) env) Q E s:=by
 refine Subscript_ (wpAny_mono h (fun o s₁ h₁=>wpAny_mono h₁ (fun i s₂ h₂=>?_) fun _ _ x=>x) fun _ _ x=>x)
 obtain ⟨hT,h₂⟩:=h₂
 unfold subscriptTail
 refine wpAny_bind ?_
 rw[getitemInPython_of_ne hT.not_modules]
 refine wpAny_bind (wpAny_specialOf hT hl ?_)
 have fin:wpAny (model prog w) A (subscripted slice false o i) (fun r s₃=>wpAny (model prog w) A (letTemporaryGo value o r >>= fun _=>pure r) Q E s₃) E s₂:=by
  rw[hs o i]
  exact wpAny_operating (wpAny_mono h₂ (fun r s₃ h₃=>wpAny_bind (wpAny_letTemporaryGo (wpAny_pure h₃))) fun _ _ x=>x)
 first
  | exact wpAny_pure (wpAny_bind fin)
  | exact wpAny_bind (wpAny_pure (wpAny_bind fin))
  | exact wpAny_bind fin
theorem qi7 {X:Cx}{pins:List (Addr×Obj)}{σ:St}{H:Hp}{s:Shared}{a:Addr}{y:V}{o:Option V} (I:Inv X pins σ H s) (g:DGet H a y o):s.TypeIs (.ref a) "dict":=by
 rcases g with ⟨kvs,k,e,_,_⟩|⟨kvs,k,b,e,_,_,_⟩
 ·obtain ⟨_,_,vs,_,dd⟩:=dk_rd I.hok e
  exact dd.typeIs
 ·obtain ⟨_,_,xs,_,dd⟩:=dt_rd I.hok e
  exact dd.typeIs
def tDGet (td ty:TE):TE:=fun σ H Q=>td σ H fun x H1=>ty σ H1 fun y H2=>∃ a v,x=.ref a∧DGet H2 a y (some v)∧Q v H2
section
variable {X:Cx}{o i e value:Expr}{pos pos' tpos:Pos}{td ty tv:TE}
theorem yku (hu:X.A.units+1<cLine) (ho:PE X o td) (hi:PE X i ty) (hs:NoSl i):PE X (.Subscript o i pos) (tDGet td ty):=by
 intro pins s σ H Q I h
 refine subD_of PySem.F.slot_dict_getitem.lookup hs (thn (ho pins s σ H _ I h) fun u s1 ⟨x,H1,I1,rx,q1⟩=>thn (hi pins s1 σ H1 _ I1 q1) fun iv s2 ⟨y,H2,I2,ry,a,v,ex,g,q2⟩=>?_)
 subst ex
 obtain rfl:u=Value.ref a:=rx
 exact ⟨qi7 I2 g,qkp hu I2 g ry fun w' s3 I3 rw'=>⟨v,H2,I3,rw',q2⟩⟩
end
theorem dk_empty {P:Program}{w:World}{H:Hp} (h:Heap) (hb:sysModules<h.objs.size):qbm P w H (h.push { cls:=.type "dict",data:=.dict #[] }) h.objs.size (.dK []):=
 ⟨Nat.zero_le _,beq_eq_false_iff_ne.mpr (Ne.symm (Nat.ne_of_lt hb)),[],.nil,Heap.DictOf.new h⟩
def ylm:List (TE×TE)→St→Hp→(List (V×V)→Hp→Prop)→Prop
 | [],_,H,Q=>Q [] H
 | (tk,tv)::r,σ,H,Q=>tk σ H fun x H1=>tv σ H1 fun y H2=>ylm r σ H2 fun ps H3=>Q ((x,y)::ps) H3
abbrev VV:List (V×V)→List (Value×Value)→Prop:=Paired fun p q=>RelV p.1 q.1∧RelV p.2 q.2
def PPs (X:Cx) (pos:Pos) (keys:List (Option Expr)) (values:List Expr) (trs:List (TE×TE)):Prop:=
 ∀ (pins:List (Addr×Obj)) (s:Shared) (σ:St) (H:Hp) (Q:List (V×V)→Hp→Prop),Inv X pins σ H s→ylm trs σ H Q→
  wpAny (model X.prog X.w) X.A (evalPairs (pairTrees keys values X.env pos)) (fun vs s'=>∃ ps H',Inv X pins σ H' s'∧VV ps vs∧Q ps H') X.xe s
theorem pps_nil {X:Cx}{pos:Pos}:PPs X pos [] [] []:=fun pins s σ H Q I h=>pairTrees_nil_walk ⟨[],H,I,.nil,h⟩
theorem pps_cons {X:Cx}{pos:Pos}{k v:Expr}{ks:List (Option Expr)}{vs:List Expr}{tk tv:TE}{trs:List (TE×TE)} (hk:PE X k tk) (hv:PE X v tv) (hr:PPs X pos ks vs trs) :
  PPs X pos (some k::ks) (v::vs) ((tk,tv)::trs):=fun pins s σ H Q I h=>
 pairTrees_cons_walk (thn (hk pins s σ H _ I h) fun u s1 ⟨x,H1,I1,rx,q1⟩=>thn (hv pins s1 σ H1 _ I1 q1) fun w2 s2 ⟨y,H2,I2,ry,q2⟩=>
  thn (hr pins s2 σ H2 _ I2 q2) fun ws s3 ⟨ps,H3,I3,rel,q3⟩=>⟨(x,y)::ps,H3,I3,.cons ⟨rx,ry⟩ rel,q3⟩)
def qc8 (kvs more:List (Key×V)):List (Key×V):=more.foldl (fun acc kv=>putK acc kv.1 kv.2) kvs
theorem KV.merge:∀ {more:List (Key×V)}{rs:List (Key×Value)}{kvs:List (Key×V)}{vs:List (Key×Value)},KV more rs→KV kvs vs→KV (qc8 kvs more) (merged vs rs):=by
 intro more rs kvs vs r
 unfold KV at r
 induction r generalizing kvs vs with
 | nil=>intro q;exact q
 | @cons p q ps qs h t ih=>
  intro r0
  have e:KV (putK kvs p.1 p.2) (stored vs q.1 q.2):=by
   have:=r0.put p.1 h.2
   rw[← h.1];exact this
  exact ih e
theorem qep:∀ (more kvs:List (Key×V)),(qc8 kvs more).length≤kvs.length+more.length
 | [],kvs=>by show kvs.length≤kvs.length+0;omega
 | p::r,kvs=>by
  have h1:=qep r (putK kvs p.1 p.2)
  have h2:=yfs kvs p.1 p.2
  show (qc8 (putK kvs p.1 p.2) r).length≤_
  rw[List.length_cons];omega
theorem qg2 {P:Program}{w:World}:∀ {kvs:List (Key×V)}{ws:List (Value×Value)},VV (kvs.map fun kv=>(kV kv.1,kv.2)) ws→∃ rs,Carries (ya0 P w) ws rs∧KV kvs rs
 | [],_,r=>by rw[List.map_nil] at r;cases r;exact ⟨[],True.intro,.nil⟩
 | p::kvs,_,r=>by
  rw[List.map_cons] at r
  cases r with
  | @cons a b as bs h t=>
   obtain ⟨rs,c,q⟩:=qg2 (P:=P) (w:=w) t
   obtain ⟨b1,b2⟩:=b
   exact ⟨(p.1,b2)::rs,⟨kV_is h.1,rfl,c⟩,.cons ⟨rfl,h.2⟩ q⟩
def tDisp (trs:List (TE×TE)):TE:=fun σ H Q=>∀ p,H p=none→ylm trs σ (upd H p (.dK [])) fun ps H2=>H2 p=some (.dK [])∧∃ kvs:List (Key×V),ps=kvs.map (fun kv=>(kV kv.1,kv.2))∧kvs.length≤15∧Q (.ref p) (upd H2 p (.dK (qc8 [] kvs)))
theorem pe_disp {X:Cx}{pos:Pos}{keys:List (Option Expr)}{values:List Expr}{trs:List (TE×TE)} (h:PPs X pos keys values trs) (hall:keys.all (·.isSome)=true) (hl:keys.length=values.length) (h0:keys≠[])
  (h15:keys.length≤15):PE X (.Dict keys values pos) (tDisp trs):=by
 intro pins s σ H Q I q
 have hn:=I.hok.fresh (Nat.le_refl s.heap.objs.size)
 have I1:=I.laid (a:=s.heap.objs.size) (o:=.dK []) (h':=s.heap.push { cls:=.type "dict",data:=.dict #[] }) (t':=s.toks) (fun _ _ q=>Heap.get?_push_of_some _ q) (Nat.le_refl _) (dk_empty s.heap I.big)
 refine wpAny_Dict_walk (knd:=ya0 X.prog X.w) hall hl h0 h15 (thn (h pins _ σ _ _ I1 (q _ hn)) fun ws s2 ⟨ps,H2,I2,rel,e,kvs,ep,lk,q2⟩=>?_)
 subst ep
 obtain ⟨rs,c,rk⟩:=qg2 (P:=X.prog) (w:=X.w) rel
 obtain ⟨z,hd,vs0,r0,dd⟩:=dk_of I2.hok e
 cases r0
 refine ⟨rs,c,dd,fun h' dd' hs=>⟨.ref s.heap.objs.size,_,?_,rfl,q2⟩⟩
 have hz:(qc8 [] kvs).length≤sizeLine:=by
  have h1:=qep kvs []
  rw[List.length_nil] at h1
  rw[sizeLine_eq];omega
 have he:∃ q,h'.get? s.heap.objs.size=some q:=let ⟨q,_,_,hq,_⟩:=dd';⟨q,hq⟩
 exact d_write I2 (by rw[e];exact True.intro) hs he (dk_new hz hd (rk.merge .nil) dd')
end L2
namespace Mx
open PySem L2 PyProof.Rows
structure QE (X:Cx) (e:Expr) (t:TE):Prop where
 of:PE X e t
structure QPs (X:Cx) (pos:Pos) (keys:List (Option Expr)) (values:List Expr) (trs:List (TE×TE)):Prop where
 of:PPs X pos keys values trs
section
variable {X:Cx}{e o i:Expr}{te td ty:TE}{pos:Pos}
theorem yac (h:PE X e te):QE X e te:=⟨h⟩
theorem qps_nil:QPs X pos [] [] []:=⟨pps_nil⟩
theorem yhq {k v:Expr}{ks:List (Option Expr)}{vs:List Expr}{tk tv:TE}{trs:List (TE×TE)} (hk:QE X k tk) (hv:QE X v tv) (hr:QPs X pos ks vs trs):QPs X pos (some k::ks) (v::vs) ((tk,tv)::trs):=⟨pps_cons hk.of hv.of hr.of⟩
theorem qe_disp {keys:List (Option Expr)}{values:List Expr}{trs:List (TE×TE)} (h:QPs X pos keys values trs) (hall:keys.all (·.isSome)=true) (hl:keys.length=values.length) (h0:keys≠[]) (h15:keys.length≤15):QE X (.Dict keys values pos) (tDisp trs):=⟨pe_disp h.of hall hl h0 h15⟩
theorem qe_dget (hu:X.A.units+1<cLine) (ho:QE X o td) (hi:QE X i ty) (hs:NoSl i):QE X (.Subscript o i pos) (tDGet td ty):=⟨yku hu ho.of hi.of hs⟩
theorem qat {i:Nat}{x:Str}{pos':Pos} (hN:X.N.Nodup) (hi:X.N[i]?=some x) (hx:Loc X.env.scope x) (he:QE X e te) (hs:swapsWith e (some (.Name x pos')) pos.line X.env=pure false:=by rfl) (hf:X.fn x=true∨X.env.scope.names.lookup x=some .local:=by first|exact .inl rfl|exact .inr rfl|assumption) :
  QS X (.Assign [.Name x pos'] e pos) (tAsg te (qlm i)):=⟨yaw hN hi hx he.of hs hf⟩
theorem qay (he:QE X e te):QS X (.Return (some e) pos) (tRet te):=⟨yao he.of⟩
structure QT (X:Cx) (e:Expr) (t:TT):Prop where
 of:PT X e t
theorem qt_of {t:TT} (h:PT X e t):QT X e t:=⟨h⟩
theorem yb7 {a b:List Stmt}{t u:TS}{c:Expr}{tc:TT} (hc:QT X c tc) (ha:QSs X a t) (hb:QSs X b u):QS X (.If c a b pos) (tIfS tc t u):=⟨ya6 hc.of ha.of hb.of⟩
def tTStrs (xs:List Str):TE:=fun _ H Q=>xs.length≤sizeLine∧∀ p,H p=none→Q (.ref p) (upd H p (.tup (xs.map V.str)))
theorem qe_tstrs {es:List Expr}{k}{xs:List Str} (h:ygo es=some xs):QE X (.Tuple es k pos) (tTStrs xs):=⟨by
 intro pins s σ H Q I hq
 refine qbf (yiw h) pins s σ H Q I ?_
 exact ⟨by rw[List.length_map];exact hq.1,hq.2⟩⟩
theorem qe_strs {es:List Expr}{xs:List Str} (h:ygo es=some xs):QE X (.List es pos) (tStrs xs):=⟨pe_strs h⟩
theorem ycb {a b:Expr}{ta tb:TE}{op:CmpOp}{r:R2} (ho:OpR X (compareOp op) r) (ha:QE X a ta) (hb:QE X b tb) (hm:behindInMarks op b=false):QT X (.Compare a [op] [b] pos) (tTest (tOp r ta tb)):=⟨yah ho ha.of hb.of hm⟩
theorem qbp {a b:Expr}{ta tb:TE}{r:R2} (hr:IxR X r) (ha:QE X a ta) (hb:QE X b tb) (hs:qlj b):QE X (.Subscript a b pos) (tOp r ta tb):=⟨qah hr ha.of hb.of hs⟩
structure QA (X:Cx) (es:List Expr) (t:TA):Prop where
 of:PA X es t
theorem qal:QA X [] tNil:=⟨yab⟩
theorem qa_cons {es:List Expr}{t:TA} (ha:QE X e te) (hr:QA X es t) (hs:starEach (e::es) X.env=(false,eval e X.env)::starEach es X.env:=by rfl):QA X (e::es) (qeu te t):=⟨qaa ha.of hr.of hs⟩
theorem qdi {es:List Expr}{t:TA} (h:QA X es t):QE X (.List es pos) (tLst t):=⟨qau h.of⟩
theorem qfd {es:List Expr}{k}{t:TA} (h:QA X es t):QE X (.Tuple es k pos) (tTup t):=⟨qbf h.of⟩
end
section
variable {X:Cx}{e a b c:Expr}{es:List Expr}{te ta tb:TE}{t:TA}{tA tB':TT}{pos p:Pos}{x:Str}{rest:List Expr}
theorem qck {k:Const}{j} (ha:QE X (.Constant k j pos) te) (hr:QA X es t):QA X (.Constant k j pos::es) (qeu te t):=⟨pa_cs ha.of hr.of⟩
theorem yal {x:Str} (ha:QE X (.Name x pos) te) (hr:QA X es t):QA X (.Name x pos::es) (qeu te t):=⟨qaw ha.of hr.of⟩
theorem qhy {f xs ks} (ha:QE X (.Call f xs ks pos) te) (hr:QA X es t):QA X (.Call f xs ks pos::es) (qeu te t):=⟨pa_cl ha.of hr.of⟩
theorem qd5 {o i:Expr} (ha:QE X (.Subscript o i pos) te) (hr:QA X es t):QA X (.Subscript o i pos::es) (qeu te t):=⟨qaa ha.of hr.of rfl⟩
theorem qa_bo {o i:Expr}{op} (ha:QE X (.BinOp o op i pos) te) (hr:QA X es t):QA X (.BinOp o op i pos::es) (qeu te t):=⟨qaa ha.of hr.of rfl⟩
theorem qa_tp {xs k} (ha:QE X (.Tuple xs k pos) te) (hr:QA X es t):QA X (.Tuple xs k pos::es) (qeu te t):=⟨qaa ha.of hr.of rfl⟩
theorem qa_cp {l o r} (ha:QE X (.Compare l o r pos) te) (hr:QA X es t):QA X (.Compare l o r pos::es) (qeu te t):=⟨qaa ha.of hr.of rfl⟩
theorem qfz {op:Operator}{r:R2} (ho:OpR X (binaryOp op) r) (ha:QE X a ta) (hb:QE X b tb):QE X (.BinOp a op b pos) (tOp r ta tb):=⟨ya3 ho ha.of hb.of⟩
theorem yjh {op:CmpOp}{r:R2} (ho:OpR X (compareOp op) r) (ha:QE X a ta) (hb:QE X b tb) (hm:behindInMarks op b=false):QE X (.Compare a [op] [b] pos) (tOp r ta tb):=⟨yav ho ha.of hb.of hm⟩
theorem qe_ifExp (hc:QT X c tA) (ha:QE X a ta) (hb:QE X b tb):QE X (.IfExp c a b pos) (tIf tA ta tb):=⟨yc5 hc.of ha.of hb.of⟩
theorem qe_mid (h:QE X e te):QE X e (tMid te):=⟨pe_mid h.of⟩
structure QW (X:Cx) (e:Expr) (t:TT):Prop where
 of:PW X e t
theorem qw_or1 (ha:QT X a tA):QW X (.BoolOp .Or [a] pos) tA:=⟨qjo ha.of⟩
theorem qw_or (ha:QT X a tA) (hb:QW X (.BoolOp .Or (b::rest) pos) tB'):QW X (.BoolOp .Or (a::b::rest) pos) (tOr tA tB'):=⟨pw_or ha.of hb.of⟩
theorem QW.pt (h:QW X e tA):QT X e tA:=⟨h.of.pt⟩
theorem qht (ha:QT X a tA):QT X (.UnaryOp .Not a pos) (tNot tA):=⟨yc8 ha.of⟩
theorem qgb {f xs ks} (h:QE X (.Call f xs ks pos) te):QT X (.Call f xs ks pos) (tB te):=⟨ycj h.of⟩
variable {id T:String}{r:List V→Hp→VK→Prop}
theorem yc2 (hc:yda X (.builtin id) r) (hg:Gl X x) (hm:X.mg x=none) (hv:bootBuiltins x=some (.builtin id)) (ha:QA X (e::es) t) (hn:x≠"__name__":=by decide) (hdb:(x == ("__debug__" : Str))=false:=by decide)
  (he:starEach (e::es) X.env=(false,eval e X.env)::starEach es X.env:=by rfl) (hpl:(backTo pos (starEach es X.env)).any (·.1)=false:=by rfl):QE X (.Call (.Name x p) (e::es) [] pos) (tCB r t):=⟨yai hc hg hm hv ha.of hn hdb he hpl⟩
theorem qer (hc:yda X (.type T) r) (hg:Gl X x) (hm:X.mg x=none) (hv:bootBuiltins x=some (.type T)) (ha:QA X (e::es) t) (hn:x≠"__name__":=by decide) (hdb:(x == ("__debug__" : Str))=false:=by decide)
  (he:starEach (e::es) X.env=(false,eval e X.env)::starEach es X.env:=by rfl) (hpl:(backTo pos (starEach es X.env)).any (·.1)=false:=by rfl):QE X (.Call (.Name x p) (e::es) [] pos) (tCB r t):=⟨qbj hc hg hm hv ha.of hn hdb he hpl⟩
theorem qao {k m:Nat}{ps:List Str}{sp:Sp} (h:Has X.prog X.w X.K X.mg X.base k x ps sp) (hr:Room m X.A) (ha:QA X (e::es) t) (hk:k≤m:=by decide) (hg:Gl X x:=by rfl)
  (hdb:(x == ("__debug__" : Str))=false:=by decide) (he:starEach (e::es) X.env=(false,eval e X.env)::starEach es X.env:=by rfl) (hpl:(backTo pos (starEach es X.env)).any (·.1)=false:=by rfl):QE X (.Call (.Name x p) (e::es) [] pos) (tCall sp [] E0 t):=⟨qaf h hr ha.of hk hg hdb he hpl⟩
structure QI (X:Cx) (tg iter:Expr) (wi:TI):Prop where
 of:PI X tg iter wi
theorem yja {tg iter:Expr}{wi:TI} (h:PI X tg iter wi):QI X tg iter wi:=⟨h⟩
theorem qi4 {tg l:Expr}{tl:TE} (h:QE X l tl):QI X tg l (iList X.K tl):=⟨qar h.of⟩
theorem yd2 {tg iter:Expr}{body:List Stmt}{wi:TI}{g:TG}{tb:TS} (hp:PassesOwn (model X.prog X.w) X.A X.env X.xe) (hc:X.calm=true) (hi:QI X tg iter wi) (hg:PG X tg g) (hb:QSs X body tb) (hs:∀ x,foldedSetIterable iter X.env x=pure x:=by intro _;rfl):QS X (.For tg iter body [] pos) (tFor wi g tb):=⟨qa8 hp hc hi.of hg hb.of hs⟩
theorem yb3 (he:QE X e te) (hs:swapsWith e none pos.line X.env=pure false:=by rfl):QS X (.Expr e pos) (tDrop te):=⟨qav he.of hs⟩
end
theorem qaz {X:Cx}{st:Stmt}{rest ss:List Stmt}{t:TS} (h:ss=st::rest) (p:QSs X (st::rest) t):QSs X ss t:=h ▸ p
section
variable {P:Program}{w:World}{K:PySem.W.Frag}{mg:Str→Option Value}{base:Heap}
theorem Has.ofQ {x:Str}{st:Stmt}{ps N:List Str}{k:Nat}{sp:Sp} (F:FnAt K mg x st ps) (S:FnScope N ps (qad st)) (len:∀ vs H Q E,sp vs H Q E→vs.length=ps.length)
  (hbody:∀ (f:Addr) (cdv:Value) (A:Around) (outer:List Env) (s:Shared) (H:Hp) (vs:List V) (Q:VK) (E:XK),Room k (A.deeper (envOfC x (qad st) s.heap.objs.size f cdv))→sp vs H Q E→
   ∃ t,QSs (cxOf CX0 P w K mg base N x (qad st) f cdv A outer s H E).nox (qa3 st) t∧t { nx:=fun _ H'=>Q .non H',rt:=Q } (qfg N vs) H):Has P w K mg base (k+1) x ps sp:=
 Has.of F S len fun f cdv A outer s H vs Q E hr h=>by
  obtain ⟨t,h1,h2⟩:=hbody f cdv A outer s H vs Q E hr h
  exact ⟨t,h1.of,h2⟩
theorem Fun.okQ {x qual:Str}{st:Stmt}{f:Addr}{fd:FuncData}{N ps:List Str}{k:Nat}{sp:Sp} (F:Fun K x qual st f fd) (S:FnScope N ps (qad st)) (len:∀ vs H Q E,sp vs H Q E→vs.length=ps.length)
  (hbody:∀ (cdv:Value) (A:Around) (outer:List Env) (s:Shared) (H:Hp) (vs:List V) (Q:VK) (E:XK),Room k (A.deeper (envOfC qual (qad st) s.heap.objs.size f cdv))→sp vs H Q E→
   ∃ t,QSs (cxOf CX0 P w K mg base N qual (qad st) f cdv A outer s H E).nox (qa3 st) t∧t { nx:=fun _ H'=>Q .non H',rt:=Q } (qfg N vs) H):FnOk P w K mg base CX0 (k+1) f fd ps sp:=
 F.ok S len fun cdv A outer s H vs Q E hr h=>by
  obtain ⟨t,h1,h2⟩:=hbody cdv A outer s H vs Q E hr h
  exact ⟨t,h1.of,h2⟩
end
def ydb (K:PySem.W.Frag) (C:Addr) (m qual:Str) (st:Stmt) (ps:List Str):Prop:=∃ f fd,Meth K C m f∧Fun K m qual st f fd∧yel K fd ps []
def HasM (P:Program) (w:World) (K:PySem.W.Frag) (mg:Str→Option Value) (base:Heap) (C:Addr) (k:Nat) (m:Str) (ps:List Str) (sp:Sp):Prop:=
 ∃ f fd,Meth K C m f∧yel K fd ps []∧FnOk P w K mg base CX0 k f fd ps sp
def HasI (P:Program) (w:World) (K:PySem.W.Frag) (mg:Str→Option Value) (base:Heap) (C:Addr) (k:Nat) (x:Str) (ps:List Str) (sp:Sp):Prop:=
 ∃ f fd,mg x=some (.ref C)∧Mk K C f∧yel K fd ps []∧FnOk P w K mg base CX0 k f fd ps sp
section
variable {P:Program}{w:World}{K:PySem.W.Frag}{mg:Str→Option Value}{base:Heap}{C:Addr}
theorem HasM.ofQ {m qual:Str}{st:Stmt}{ps N:List Str}{k:Nat}{sp:Sp} (F:ydb K C m qual st ps) (S:FnScope N ps (qad st)) (len:∀ vs H Q E,sp vs H Q E→vs.length=ps.length)
  (hbody:∀ (f:Addr) (cdv:Value) (A:Around) (outer:List Env) (s:Shared) (H:Hp) (vs:List V) (Q:VK) (E:XK),Room k (A.deeper (envOfC qual (qad st) s.heap.objs.size f cdv))→sp vs H Q E→
   ∃ t,QSs (cxOf CX0 P w K mg base N qual (qad st) f cdv A outer s H E).nox (qa3 st) t∧t { nx:=fun _ H'=>Q .non H',rt:=Q } (qfg N vs) H):HasM P w K mg base C (k+1) m ps sp:=by
 obtain ⟨f,fd,h1,h2,h3⟩:=F
 exact ⟨f,fd,h1,h3,Mx.Fun.okQ h2 S len fun cdv A outer s H vs Q E hr h=>hbody f cdv A outer s H vs Q E hr h⟩
theorem HasI.of {x m:Str}{ps:List Str}{k:Nat}{sp:Sp}{f:Addr} (hm:mg x=some (.ref C)) (M:Mk K C f) (u:∀ g,Meth K C "__init__" g→g=f) (h:HasM P w K mg base C k "__init__" ps sp):HasI P w K mg base C k x ps sp:=by
 obtain ⟨g,fd,h1,h2,h3⟩:=h
 have:=u g h1
 subst this
 exact ⟨g,fd,hm,M,h2,h3⟩
theorem meth_un {m:Str}{f g:Addr} (a:PySem.W.findIn K (.ref C) m=some (some (.ref f))) (b:Meth K C m g):g=f:=by
 have:=b.at_
 rw[a] at this
 cases this
 rfl
end
section
variable {X:Cx}{e o value:Expr}{es:List Expr}{te ta tv:TE}{t:TA}{pos p apos pos':Pos}{C:Addr}{m x f:Str}
theorem qfo {k n:Nat}{ps:List Str}{sp:Sp}{pl:Sem Bool} (c:Cls X.K C) (h:HasM X.prog X.w X.K X.mg X.base C k m ps sp) (hr:Room n X.A) (he:QE X o ta) (ha:QA X (e::es) t) (hk:k≤n:=by decide)
  (hst:starEach (e::es) X.env=(false,eval e X.env)::starEach es X.env:=by rfl) (hpl:(backTo pos (starEach es X.env)).any (·.1)=false:=by rfl)
  (ht:eval (.Call (.Attribute o m apos) (e::es) [] pos) X.env=(do
   let ov ← eval o X.env
   standAt apos.atName
   let (f,first) ← holding [ov] (getMethod ov m pl)
   callWith pos f first (backTo pos (starEach (e::es) X.env)) (backToKw pos (keywordEach [] X.env))):=by rfl) :
  QE X (.Call (.Attribute o m apos) (e::es) [] pos) (tMeth C m sp [] E0 ta t):=by
 obtain ⟨f,fd,h1,h2,h3⟩:=h
 exact ⟨pe_meth (pl:=pl) he.of c h1 h3 (hr.mono hk) h2 .nil pass0 ha.of hst hpl ht⟩
theorem ql7 {k n:Nat}{ps:List Str}{sp:Sp}{pl:Sem Bool} (c:Cls X.K C) (h:HasM X.prog X.w X.K X.mg X.base C k m ps sp) (hr:Room n X.A) (he:QE X o ta) (hk:k≤n:=by decide)
  (ht:eval (.Call (.Attribute o m apos) [] [] pos) X.env=(do
   let ov ← eval o X.env
   standAt apos.atName
   let (f,first) ← holding [ov] (getMethod ov m pl)
   callWith pos f first (backTo pos (starEach [] X.env)) (backToKw pos (keywordEach [] X.env))):=by rfl) :
  QE X (.Call (.Attribute o m apos) [] [] pos) (tMeth C m sp [] E0 ta tNil):=by
 obtain ⟨f,fd,h1,h2,h3⟩:=h
 exact ⟨pe_meth0 (pl:=pl) he.of c h1 h3 (hr.mono hk) h2 .nil pass0 ht⟩
theorem qe_makeH {k n:Nat}{ps:List Str}{sp:Sp} (h:HasI X.prog X.w X.K X.mg X.base C k x ps sp) (hr:Room n X.A) (ha:QA X (e::es) t) (hk:k+1≤n:=by decide) (hg:Gl X x:=by rfl)
  (hdb:(x == ("__debug__" : Str))=false:=by decide) (he:starEach (e::es) X.env=(false,eval e X.env)::starEach es X.env:=by rfl) (hpl:(backTo pos (starEach es X.env)).any (·.1)=false:=by rfl) :
  QE X (.Call (.Name x p) (e::es) [] pos) (tMake C sp [] E0 t):=by
 obtain ⟨f,fd,h0,h1,h2,h3⟩:=h
 exact ⟨pe_make h1 h3 (hr.mono hk) hg h0 h2 .nil pass0 ha.of hdb he hpl⟩
theorem ye7 (he:QE X e ta) (hb:attributeBase e f X.env (eval e X.env)=eval e X.env):QE X (.Attribute e f pos) (tFld X.K ta f):=⟨pe_fld he.of hb⟩
theorem qs_fld (ha:QE X o ta) (hv:QE X value tv) (hs:swapsWith value (some (.Attribute o f pos')) pos.line X.env=pure false):QS X (.Assign [.Attribute o f pos'] value pos) (sFld X.K ta tv f):=⟨ps_fld ha.of hv.of hs⟩
theorem yim {b:Expr}{g:Str} (ha:QE X (.Attribute b g pos) te) (hr:QA X es t):QA X (.Attribute b g pos::es) (qeu te t):=⟨qaa ha.of hr.of rfl⟩
end
end Mx
namespace L2
open PySem PySem.Spec PyProof.Rows
def qde (n:Nat):List V:=(List.range n).map fun i:Nat=>V.int i
theorem qkd:∀ {n:Nat}{acc:Array Value},ItemsOf (fun i v=>∃ t,v=Value.int (0+(i:Int)*1) t) acc n→Vals (qde n) acc.toList:=by
 intro n acc h
 have go:∀ (k:Nat) (l:List Value),(∀ (j:Nat) v,l[j]?=some v→∃ t,v=Value.int ((k+j:Nat):Int) t)→Vals ((List.range' k l.length).map fun i:Nat=>V.int i) l:=by
  intro k l
  induction l generalizing k with
  | nil=>intro _;exact .nil
  | cons v l ih=>
   intro hj
   obtain ⟨t,rfl⟩:=hj 0 v rfl
   rw[List.length_cons,List.range'_succ,List.map_cons]
   refine .cons ⟨t,by simp⟩ (ih (k+1) fun j v hv=>?_)
   obtain ⟨t,e⟩:=hj (j+1) v (by simpa using hv)
   exact ⟨t,by rw[e];congr 1;omega⟩
 have:=go 0 acc.toList fun j v hv=>by
  obtain ⟨t,e⟩:=h.2 j v (by simpa using hv)
  exact ⟨t,by rw[e];congr 1;omega⟩
 have hl:acc.toList.length=n:=by rw[Array.length_toList];exact h.1
 rw[hl] at this
 unfold qde
 rw[List.range_eq_range']
 exact this
section
variable {X:Cx}
def tLR (ta:TA):TE:=fun σ H Q=>ta σ H fun vs H1=>∃ n:Nat,vs=[.int (n:Int)]∧n≤1000∧∀ l,H1 l=none→Q (.ref l) (upd H1 l (.lst (qde n)))
theorem qe5 {a:Expr}{ta:TA}{p p2 pos pos2:Pos} (hh:X.A.handled=none) (hgl:Gl X "list") (hml:X.mg "list" = none) (hgr:Gl X "range") (hmr:X.mg "range" = none) (ha:PA X [a] ta)
  (hs:starEach [a] X.env=[(false,eval a X.env)]:=by rfl)
  (hs2:starEach [.Call (.Name "range" p2) [a] [] pos2] X.env=[(false,eval (.Call (.Name "range" p2) [a] [] pos2) X.env)]:=by rfl) :
  PE X (.Call (.Name "list" p) [.Call (.Name "range" p2) [a] [] pos2] [] pos) (tLR ta):=by
 intro pins s σ H Q I h
 refine Call_ (qdk I hgl hml boot_list (PyProof.Rows.callWith_type1 ?_ hs2 rfl))
 rw[hs2]
 show wpAny _ _ (spliced ((false,eval (.Call (.Name "range" p2) [a] [] pos2) X.env)::backTo pos (starEach [] X.env))) _ _ s
 refine Calls.spliced_cons ?_
 refine Call_ (qdk I hgr hmr boot_range (PyProof.Rows.callWith_type1 (thn (ha pos2 pins s σ H _ I h) fun us s1 ⟨vs,H1,I1,r1,q1⟩=>?_) hs rfl))
 obtain ⟨n,e,hn,q⟩:=q1
 subst e
 obtain ⟨u,rfl,r⟩:=yji r1
 obtain ⟨t,rfl⟩:=r
 refine call_range_1 ?_
 refine Calls.spliced_nil ?_
 have I2:Inv X pins σ H1 { s1 with heap:=s1.heap.push { cls:=.type "range",data:=.fields #[.int 0 s1.toks,.int n t,.int 1 (s1.toks+1)] },toks:=s1.toks+1+1 }:=I1.kept fun b o e=>Heap.get?_push_of_some _ e
 refine call_list_range (n:=n) hh (IsRange.new ..) (small_one (by omega) (by omega) (by omega) (by omega)) (by rw[rangeSize_one];split<;>omega) (by omega) fun h' tk acc' c' kp e hi=>?_
 have r':=qkd hi
 have hl:(qde n).length=n:=by simp[qde]
 exact ⟨.ref _,_,I2.laid (t':=tk) kp (Nat.le_refl _) (show qbm X.prog X.w _ h' _ (.lst (qde n)) from ⟨by rw[hl];exact Nat.le_trans hn (by decide),acc'.toList,c',r',by simpa using e⟩),rfl,q _ (I2.hok.fresh (Nat.le_refl _))⟩
def tSl3 (K:PySem.W.Frag) (te ts:TE):TE:=fun σ H Q=>te σ H fun x H1=>ts σ H1 fun y H2=>∃ (a:Addr) (xs:List V) (up:Bool),x=.ref a∧SqL K H2 a xs∧y=.int (if up=true then 1 else -1)∧∀ p,H2 p=none→Q (.ref p) (upd H2 p (.lst (if up=true then xs else xs.reverse)))
theorem pick_rev (items:Array Value):slicePick items none none (some (-1))=items.toList.reverse.toArray:=PySem.W.krv_pick items
theorem Vals.rev:∀ {xs:List V}{us:List Value},Vals xs us→Vals xs.reverse us.reverse
 | [],[],_=>.nil
 | x::xs,u::us,.cons a r=>by
  rw[List.reverse_cons,List.reverse_cons]
  exact Vals.append (Vals.rev r) (.cons a .nil)
theorem ymb {e st:Expr}{te ts:TE}{p2 pos:Pos} (he:PE X e te) (hst:PE X st ts):PE X (.Subscript e (.Slice none none (some st) p2) pos) (tSl3 X.K te ts):=by
 intro pins s σ H Q I h
 refine Subscript_ (thn (he pins s σ H _ I h) fun v s1 ⟨x,H1,I1,r1,q1⟩=>?_)
 refine wpAny_Slice ?_
 rw[evalPart_none]
 refine wpAny_pure (wpAny_pure ?_)
 rw[evalPart_some]
 refine thn (hst pins s1 σ H1 _ I1 q1) fun vs s3 ⟨y,H3,I3,r3,q3⟩=>?_
 obtain ⟨a,xs,up,rfl,hx,hy,q⟩:=q3
 cases r1
 have I4:Inv X pins σ H3 { s3 with heap:=s3.heap.push { cls:=.type "slice",data:=.fields #[.none,.none,vs] } }:=I3.kept (t':=s3.toks) fun b ob q=>Heap.get?_push_of_some _ q
 obtain ⟨its,r,ht,hz⟩:=I4.list hx
 have hlen:=r.length
 have fin:∀ (k:Int) (zs:List V) (us:List Value),y=.int k→k≠0→slicePick its.toArray none none (some k)=us.toArray→Vals zs us→zs.length≤sizeLine→(∀ p,H3 p=none→Q (.ref p) (upd H3 p (.lst zs)))→
   wpAny (model X.prog X.w) X.A (subscriptTail e (.Slice none none (some st) p2) (.ref a) (.ref s3.heap.objs.size)) (EP X pins σ Q) X.xe { s3 with heap:=s3.heap.push { cls:=.type "slice",data:=.fields #[.none,.none,vs] } }:=by
  intro k zs us hy hk hp hv hzl q
  subst hy
  obtain ⟨t,rfl⟩:=r3
  refine tail_any (ops:=[.ref a,.ref s3.heap.objs.size]) ht.isList.typeIs slot_list_getitem.lookup ?_ (by with_unfolding_all rfl)
  refine wpAny_getItem_list_slice ht.isList (Heap.IsSliceOf.new ..) .none .none (.int k t) (by simpa using hk) ?_ (by rw[List.size_toArray]<;>omega)
  rw[hp]
  refine ⟨.ref _,_,I4.laid (t':=s3.toks) (o:=.lst zs) (fun b ob q=>Heap.get?_push_of_some _ q) (Nat.le_refl _) ?_,rfl,q _ (I4.hok.fresh (Nat.le_refl _))⟩
  exact ⟨hzl,us,0,hv,Heap.get?_push_size _ rfl⟩
 cases up with
 | true=>exact fin 1 xs its hy (by decide) (by show slicePick its.toArray none none none=_;rw[slicePick_all]) r hz q
 | false=>exact fin (-1) xs.reverse its.reverse hy (by decide) (by rw[pick_rev]) (Vals.rev r) (by rw[List.length_reverse];exact hz) q
end
end L2
namespace L2
open PySem PyProof.Rows
section
variable {K:PySem.W.Frag}{σ:L2.St}{H:Hp}{te tf:TE}{ta:TA}{d:PyData}{ds es:List PyData}{L:List Addr}
theorem gn {i:Nat}{v:V}{σ:L2.St}{H:Hp}{Q:L2.St→Hp→Prop} (h:Q (σ.set i (some v)) H):qlm i v σ H Q:=h
end
end L2
namespace L2
open PySem PySem.Spec PyProof.Rows
theorem qhz:entryFor table "zip.__getattribute__" = some Builtin.«object.__getattribute__»:=by kernel_rfl
theorem qi5:typeLookup (.type "zip") (Str.ofString "keys")=pure none:=am_miss_of_fast (by decide +kernel)
theorem qi0:typeLookup (.type "zip") (Str.ofString "__getattr__")=pure none:=am_miss_of_fast (by decide +kernel)
theorem zip_ga:typeLookup (.type "zip") (Str.ofString "__getattribute__")=pure (some (.builtin "zip.__getattribute__")):=by rw[typeLookup_type,builtinLookup_eq_fast];kernel_rfl
theorem qdl:entryFor table "dict.update.loop" = some Builtin.«dict.update.loop»:=by kernel_rfl
theorem qbu:plainId "dict.update.loop" = true:=by decide +kernel
theorem qjz:isSubtype (.type "AttributeError") (.type "AttributeError")=pure true:=by rw[isSubtype_type];kernel_rfl
section
variable {P:Program}{w:World}{A:Around}{E:Value→Shared→Prop}{s:Shared}
theorem zipKeys {z i o:Addr}{v:Value}{Q:Option Value→Shared→Prop} (gz:IsZip s.heap z i o v) (hh:A.handled=none)
  (k:∀ (h':Heap) (tk:Nat),(∀ b o,s.heap.get? b=some o→h'.get? b=some o)→Q none { s with heap:=h',toks:=tk }) :
  wpAny (model P w) A (getAttr? (.ref z) (Str.ofString "keys")) Q E s:=by
 unfold getAttr? getAttrBy? mkText
 refine wpAny_bind (wpAny_bind (wpAny_fresh ?_))
 refine wpAny_pure ?_
 generalize hs:({ s with toks:=s.toks+1 }:Shared)=s0
 have gz0:IsZip s0.heap z i o v:=by rw[← hs];exact gz
 have hT0:s0.TypeIs (.ref z) "zip":=⟨_,gz0,rfl⟩
 have leaves:∀ (h':Heap) (tk:Nat) (e:Addr),s0.heap.NewAttrErr h' e (.ref z) (Str.ofString "keys")→wpAny (model P w) A (do
   let b ← isInstance (.ref e) (.type "AttributeError")
   if b=true then pure none else throw (.ref e)) Q E { s0 with heap:=h',toks:=tk }:=fun h' tk e ne=>by
  obtain ⟨t,u,he⟩:=ne.there
  refine wpAny_bind (wpAny_isInstance (T:="AttributeError") (b:=true) ⟨_,he,rfl⟩ qjz ?_)
  refine wpAny_pure ?_
  have:=k h' tk (fun b o g=>ne.keeps b o (by rw[← hs];exact g))
  subst hs
  exact this
 refine wpAny_bind (wpAny_attempt ?_)
 unfold getAttrBy
 refine wpAny_holding ?_
 refine wpAny_bind (wpAny_typeOf hT0 ?_)
 refine wpAny_bind (wpAny_of_eq zip_ga ?_)
 show wpAny _ _ (getAttrByItsOwn _ _ _ _ _ _) _ _ _
 unfold getAttrByItsOwn
 refine wpAny_bind (wpAny_of_eq (a:=none) (by rfl) ?_)
 refine wpAny_bind (wpAny_attempt (wpAny_holding ?_))
 show wpAny _ _ (boundAndCalled _ _ _) _ _ _
 unfold boundAndCalled
 refine wpAny_bind (wpAny_of_eq (a:=((Value.builtin "zip.__getattribute__"),[Value.ref z])) (by kernel_rfl) ?_)
 show wpAny _ _ (call (.builtin "zip.__getattribute__") [.ref z,.str _ _]) _ _ _
 refine wpAny_call_entry F.slot_zip_getattribute hT0 qhz ?_ (F.args_zip_getattribute_2 _ _)
 have h1:=qi5
 unfold Builtin.«object.__getattribute__»
 wp_walk
 refine wpAny_raiseAttrError (A:=A.in1) hh (fun h' tk e ne=>?_) (by decide +kernel)
 obtain ⟨t,u,he⟩:=id ne.there
 have hT1:Shared.TypeIs { s0 with heap:=h',toks:=tk } (.ref e) "AttributeError":=⟨_,he,rfl⟩
 unfold getattributeRaised
 refine wpAny_bind (wpAny_isInstance (T:="AttributeError") (b:=true) hT1 qjz ?_)
 rw[if_pos rfl]
 refine wpAny_bind (m:=hookBehind _ _) (wpAny_of_eq qi0 ?_)
 unfold hookOrError
 dsimp only
 unfold attributeErrorLeaves
 refine wpAny_bind (m:=throw (Value.ref e)) (wpAny_throw ?_)
 exact leaves h' tk e ne
end
open Builtin.SmallTypes (nextOf)
section
variable {prog:Program}{w:World}{A:Around}{E:Value→Shared→Prop}{s:Shared}
abbrev yga (h:Heap) (z TI TO:Addr) (f0:Value) (fl:Bool):Prop:=h.get? z=some { cls:=.type "zip",data:=.fields #[f0,.bool fl,.bool false,.ref TI,.ref TO] }
theorem yha {M:Model}{a:Addr}{o:Obj}{Q:Option Obj→Shared→Prop} (g:s.heap.get? a=some o) (k:Q (some o) s):wpAny M A (loadIfAlive a) Q E s:=by
 intro Γ p hi
 unfold loadIfAlive
 rw[Sem.wp_loadIfAlive,g]
 exact k
theorem yk7 {z TI TO T:Addr}{fl:Bool}{Q:Bool→Shared→Prop} (gz:yga s.heap z TI TO (rawInt T) fl) (gT:∃ o,s.heap.get? T=some o) (k:∀ h',yga h' z TI TO (rawInt T) true→Heap.SameBut z s.heap h'→Q false { s with heap:=h' }) :
  wpAny (model prog w) A (Builtin.SmallTypes.ownedTupleIsFree (.ref z)) Q E s:=by
 obtain ⟨o,gT⟩:=gT
 unfold Builtin.SmallTypes.ownedTupleIsFree
 refine wpAny_bind (wpAny_field gz rfl (x:=rawInt T) rfl ?_)
 show wpAny _ _ (loadIfAlive (T:Int).toNat >>= _) _ _ _
 refine wpAny_bind (yha (by rw[Int.toNat_natCast];exact gT) ?_)
 show wpAny _ _ (field (.ref z) 1 >>= _) _ _ _
 refine wpAny_bind (wpAny_field gz rfl (x:=.bool fl) rfl ?_)
 cases fl with
 | false=>
  refine wpAny_bind (m:=setField (.ref z) 1 (.bool true)) (wpAny_setField_rec gz (by simp) fun m1 gz1 e1=>?_)
  exact wpAny_pure (k m1 gz1 e1)
 | true=>
  exact wpAny_pure (k s.heap gz (Heap.SameBut.refl _ _))
theorem zipNext2 {n l1 l2 k T:Nat}{fl:Bool}{xs ys:Array Value}{x y:Value}{t1 t2:Bool}{Q:Value→Shared→Prop} (b1:l1<n) (b2:l2<n) (gz:yga s.heap (n+4) (n+2) (n+3) (rawInt T) fl) (gi:IsPair s.heap (n+2) (.ref n) (.ref (n+1))) (gT:∃ o,s.heap.get? T=some o)
  (q1:SIt s.heap t1 n l1 k) (q2:SIt s.heap t2 (n+1) l2 k) (o1:SOf s.heap t1 l1 xs) (o2:SOf s.heap t2 l2 ys) (hx:xs[k]?=some x) (hy:ys[k]?=some y)
  (kk:∀ h',yga h' (n+4) (n+2) (n+3) (rawInt T) true→SIt h' t1 n l1 (k+1)→SIt h' t2 (n+1) l2 (k+1)→IsPair h' s.heap.objs.size x y→
   (∀ c o,c≠n+4→c≠n→c≠n+1→s.heap.get? c=some o→h'.get? c=some o)→Q (.ref s.heap.objs.size) { s with heap:=h' }) :
  wpAny (model prog w) A (Builtin.«zip.__next__» ⟨[.ref (n+4)],[]⟩) (fun fin s'=>∃ v,fin=.done (.ret v)∧Q v s') E s:=by
 show wpAny _ _ (field (.ref (n+4)) 2 >>= _) _ _ _
 refine wpAny_bind (wpAny_field gz rfl (x:=.bool false) rfl ?_)
 show wpAny _ _ (field (.ref (n+4)) 3 >>= _) _ _ _
 refine wpAny_bind (wpAny_field gz rfl (x:=.ref (n+2)) rfl ?_)
 refine wpAny_bind (wpAny_seqItems gi rfl ?_)
 show wpAny _ _ (Builtin.SmallTypes.ownedTupleIsFree (.ref (n+4)) >>= _) _ _ _
 refine wpAny_bind (yk7 gz gT fun m1 gz1 e1=>?_)
 rw[if_neg Bool.false_ne_true]
 simp only[List.forIn_toArray,List.forIn_cons,List.forIn_nil]
 refine wpAny_bind (wpAny_bind (wpAny_bind (wpAny_holding ?_)))
 show wpAny _ _ (nextOf (.ref n) >>= _) _ _ _
 refine wpAny_bind (ybw (q1.at fun o g=>e1.extBut _ _ (neN (by omega)) g) (o1.at fun o g=>e1.extBut _ _ (neN (by omega)) g) hx fun m2 r1 e2=>?_)
 refine wpAny_pure (wpAny_pure ?_)
 refine wpAny_bind (wpAny_bind (wpAny_holding ?_))
 show wpAny _ _ (nextOf (.ref (n+1)) >>= _) _ _ _
 refine wpAny_bind (ybw (q2.at fun o g=>e2.extBut _ _ (neN (by omega)) (e1.extBut _ _ (neN (by omega)) g)) (o2.at fun o g=>e2.extBut _ _ (neN (by omega)) (e1.extBut _ _ (neN (by omega)) g)) hy fun m3 r2 e3=>?_)
 refine wpAny_pure (wpAny_pure (wpAny_pure ?_))
 show wpAny _ _ (newTuple [x,y] >>= _) _ _ _
 refine wpAny_bind (wpAny_newTuple ?_)
 have hsz:m3.objs.size=s.heap.objs.size:=by rw[e3.1,e2.1,e1.1]
 have gz3:yga m3 (n+4) (n+2) (n+3) (rawInt T) true:=e3.extBut _ _ (neN (by omega)) (e2.extBut _ _ (neN (by omega)) gz1)
 have r1':SIt m3 t1 n l1 (k+1):=r1.at fun o g=>e3.extBut _ _ (neN (by omega)) g
 have up:∀ c o,m3.get? c=some o→(m3.push { cls:=.type "tuple",data:=.seq #[x,y] }).get? c=some o:=fun c o g=>Heap.get?_push_of_some _ g
 refine wpAny_pure ⟨_,rfl,?_⟩
 have gt:IsPair (m3.push { cls:=.type "tuple",data:=.seq #[x,y] }) m3.objs.size x y:=Heap.get?_push_size _ rfl
 show Q (.ref m3.objs.size) _
 rw[hsz] at gt ⊢
 exact kk _ (up _ _ gz3) (r1'.at fun o g=>up _ o g) (r2.at fun o g=>up _ o g) gt fun c o d1 d2 d3 g=>up c o (e3.extBut _ _ d3 (e2.extBut _ _ d2 (e1.extBut _ _ d1 g)))
theorem zipDone2 {n l1 l2 k T:Nat}{fl:Bool}{xs ys:Array Value}{t1 t2:Bool}{Q:Fin→Shared→Prop} (hh:A.handled=none) (b1:l1<n) (b2:l2<n) (gz:yga s.heap (n+4) (n+2) (n+3) (rawInt T) fl) (gi:IsPair s.heap (n+2) (.ref n) (.ref (n+1))) (gT:∃ o,s.heap.get? T=some o)
  (q1:SIt s.heap t1 n l1 k) (q2:SIt s.heap t2 (n+1) l2 k) (o1:SOf s.heap t1 l1 xs) (o2:SOf s.heap t2 l2 ys) (hend:xs[k]?=none∨ys[k]?=none)
  (kk:∀ h' e,(∀ c o,c≠n+4→c≠n→c≠n+1→s.heap.get? c=some o→h'.get? c=some o)→(∃ o,h'.get? e=some o∧o.cls=.type "StopIteration")→E (.ref e) { s with heap:=h' }) :
  wpAny (model prog w) A (Builtin.«zip.__next__» ⟨[.ref (n+4)],[]⟩) Q E s:=by
 show wpAny _ _ (field (.ref (n+4)) 2 >>= _) _ _ _
 refine wpAny_bind (wpAny_field gz rfl (x:=.bool false) rfl ?_)
 show wpAny _ _ (field (.ref (n+4)) 3 >>= _) _ _ _
 refine wpAny_bind (wpAny_field gz rfl (x:=.ref (n+2)) rfl ?_)
 refine wpAny_bind (wpAny_seqItems gi rfl ?_)
 show wpAny _ _ (Builtin.SmallTypes.ownedTupleIsFree (.ref (n+4)) >>= _) _ _ _
 refine wpAny_bind (yk7 gz gT fun m1 gz1 e1=>?_)
 rw[if_neg Bool.false_ne_true]
 simp only[List.forIn_toArray,List.forIn_cons,List.forIn_nil]
 refine wpAny_bind (wpAny_bind (wpAny_bind (wpAny_holding ?_)))
 show wpAny _ _ (nextOf (.ref n) >>= _) _ _ _
 have p1:SIt m1 t1 n l1 k:=q1.at fun o g=>e1.extBut _ _ (neN (by omega)) g
 have p2:SOf m1 t1 l1 xs:=o1.at fun o g=>e1.extBut _ _ (neN (by omega)) g
 cases hx:xs[k]? with
 | none=>
  refine wpAny_bind (qdr hh p1 p2 hx fun m2 e g2 he=>?_)
  exact kk m2 e (fun c o d1 d2 _ g=>g2 _ _ d2 (e1.extBut _ _ d1 g)) he
 | some x=>
  have hy:ys[k]?=none:=by
   rcases hend with z|z
   ·rw[hx] at z;cases z
   ·exact z
  refine wpAny_bind (ybw p1 p2 hx fun m2 r1 e2=>?_)
  refine wpAny_pure (wpAny_pure ?_)
  refine wpAny_bind (wpAny_bind (wpAny_holding ?_))
  show wpAny _ _ (nextOf (.ref (n+1)) >>= _) _ _ _
  refine wpAny_bind (qdr hh (q2.at fun o g=>e2.extBut _ _ (neN (by omega)) (e1.extBut _ _ (neN (by omega)) g)) (o2.at fun o g=>e2.extBut _ _ (neN (by omega)) (e1.extBut _ _ (neN (by omega)) g)) hy fun m4 e g4 he=>?_)
  exact kk m4 e (fun c o d1 d2 d3 g=>g4 _ _ d3 (e2.extBut _ _ d2 (e1.extBut _ _ d1 g))) he
end
section
variable {P:Program}{w:World}{A:Around}{E:Value→Shared→Prop}{s:Shared}
abbrev fpZ (n:Nat):List Nat:=[n,n+1,n+2,n+3,n+4]
def ZS2 (h:Heap) (n:Nat) (t1 t2:Bool) (l1 l2:Addr) (i:Nat):Prop:=
 IsPair h (n+2) (.ref n) (.ref (n+1))∧SIt h t1 n l1 i∧SIt h t2 (n+1) l2 i∧
 ((IsZip h (n+4) (n+2) (n+3) .none∧∃ a b,IsPair h (n+3) a b)∨∃ (T:Nat) (fl:Bool),yga h (n+4) (n+2) (n+3) (rawInt T) fl∧∃ o,h.get? T=some o)
theorem ZSt.s2 {h:Heap}{n:Nat}{t1 t2:Bool}{l1 l2:Addr}{i:Nat} (z:ZSt h n t1 t2 l1 l2 i):ZS2 h n t1 t2 l1 l2 i:=by
 obtain ⟨a,b,gz,gi,go,q1,q2⟩:=z
 exact ⟨gi,q1,q2,.inl ⟨gz,a,b,go⟩⟩
theorem ZS2.lt {h:Heap}{n:Nat}{t1 t2:Bool}{l1 l2:Addr}{i:Nat} (z:ZS2 h n t1 t2 l1 l2 i):n+4<h.objs.size:=by
 obtain ⟨_,_,_,⟨g,_⟩|⟨_,_,g,_⟩⟩:=z
 ·exact Heap.lt_size g
 ·exact Heap.lt_size g
theorem ZS2.ty {s:Shared}{n:Nat}{t1 t2:Bool}{l1 l2:Addr}{i:Nat} (z:ZS2 s.heap n t1 t2 l1 l2 i):s.TypeIs (.ref (n+4)) "zip":=by
 obtain ⟨_,_,_,⟨g,_⟩|⟨_,_,g,_⟩⟩:=z
 ·exact ⟨_,g,rfl⟩
 ·exact ⟨_,g,rfl⟩
theorem ZS2.at {h h':Heap}{n:Nat}{t1 t2:Bool}{l1 l2:Addr}{i:Nat} (z:ZS2 h n t1 t2 l1 l2 i) (k:∀ b ob,h.get? b=some ob→∃ ob',h'.get? b=some ob'∧(b≤n+4→ob'=ob)):ZS2 h' n t1 t2 l1 l2 i:=by
 have k':∀ b ob,b≤n+4→h.get? b=some ob→h'.get? b=some ob:=fun b ob hb g=>by
  obtain ⟨ob',h1,h2⟩:=k b ob g
  rw[h1,h2 hb]
 obtain ⟨gi,q1,q2,r⟩:=z
 refine ⟨k' _ _ (by omega) gi,q1.at fun o g=>k' _ o (by omega) g,q2.at fun o g=>k' _ o (by omega) g,?_⟩
 rcases r with ⟨g,a,b,go⟩|⟨T,fl,g,o,gT⟩
 ·exact .inl ⟨k' _ _ (by omega) g,a,b,k' _ _ (by omega) go⟩
 ·obtain ⟨o',h1,_⟩:=k T o gT
  exact .inr ⟨T,fl,k' _ _ (by omega) g,o',h1⟩
theorem pyNextZ {n l1 l2 i:Nat}{xs ys:Array Value}{x y:Value}{t1 t2:Bool}{Q:Option Value→Shared→Prop} (b1:l1<n) (b2:l2<n) (st:ZS2 s.heap n t1 t2 l1 l2 i) (o1:SOf s.heap t1 l1 xs) (o2:SOf s.heap t2 l2 ys) (hx:xs[i]?=some x) (hy:ys[i]?=some y)
  (k:∀ h',ZS2 h' n t1 t2 l1 l2 (i+1)→h'.get? s.heap.objs.size=some { cls:=.type "tuple",data:=.seq #[x,y] }→(∀ b ob,b∉fpZ n→s.heap.get? b=some ob→h'.get? b=some ob)→Q (some (.ref s.heap.objs.size)) { s with heap:=h' }) :
  wpAny (model P w) A (pyNext (.ref (n+4))) Q E s:=by
 have hT:=st.ty
 obtain ⟨gi,q1,q2,r⟩:=st
 unfold pyNext
 refine wpAny_bind (wpAny_attempt (wpAny_callSpecial?_slot (name:=Str.ofString "__next__") hT F.slot_zip_next (wpAny_call_entry F.slot_zip_next hT F.entry_zip_next ?_ (F.args_zip_next_1 _))))
 rcases r with ⟨gz,a,b,go⟩|⟨T,fl,gz,gT⟩
 ·refine ylq b1 b2 gz gi go q1 q2 o1 o2 (x:=x) (y:=y) hx hy fun h' gz' go' r1 r2 hT' hsz kp=>?_
  refine wpAny_pure (k h' ⟨kp _ _ (neN (by omega)) (neN (by omega)) (neN (by omega)) (neN (by omega)) gi,r1,r2,.inr ⟨_,_,gz',_,hT'⟩⟩ hT' fun b ob hb z=>?_)
  exact kp b ob (fun q=>hb (by simp[q])) (fun q=>hb (by simp[q])) (fun q=>hb (by simp[q])) (fun q=>hb (by simp[q])) z
 ·obtain ⟨oT,gT⟩:=gT
  refine zipNext2 b1 b2 gz gi ⟨oT,gT⟩ q1 q2 o1 o2 (x:=x) (y:=y) hx hy fun h' gz' r1 r2 hT' kp=>?_
  have aT:∃ o,h'.get? T=some o:=by
   by_cases h4:T=n+4
   ·exact ⟨_,by rw[h4];exact gz'⟩
   ·by_cases h0:T=n
    ·obtain ⟨o,g,_⟩:=r1.obj;exact ⟨o,by rw[h0];exact g⟩
    ·by_cases h1:T=n+1
     ·obtain ⟨o,g,_⟩:=r2.obj;exact ⟨o,by rw[h1];exact g⟩
     ·exact ⟨_,kp T _ h4 h0 h1 gT⟩
  refine wpAny_pure (k h' ⟨kp _ _ (neN (by omega)) (neN (by omega)) (neN (by omega)) gi,r1,r2,.inr ⟨_,_,gz',aT⟩⟩ hT' fun b ob hb z=>?_)
  exact kp b ob (fun q=>hb (by simp[q])) (fun q=>hb (by simp[q])) (fun q=>hb (by simp[q])) z
theorem yke {n l1 l2 i:Nat}{xs ys:Array Value}{t1 t2:Bool}{Q:Option Value→Shared→Prop} (hh:A.handled=none) (b1:l1<n) (b2:l2<n) (st:ZS2 s.heap n t1 t2 l1 l2 i) (o1:SOf s.heap t1 l1 xs) (o2:SOf s.heap t2 l2 ys) (hend:xs[i]?=none∨ys[i]?=none)
  (k:∀ h',(∀ b ob,b∉fpZ n→s.heap.get? b=some ob→h'.get? b=some ob)→Q none { s with heap:=h' }) :
  wpAny (model P w) A (pyNext (.ref (n+4))) Q E s:=by
 have hT:=st.ty
 obtain ⟨gi,q1,q2,r⟩:=st
 unfold pyNext
 refine wpAny_bind (wpAny_attempt (wpAny_callSpecial?_slot (name:=Str.ofString "__next__") hT F.slot_zip_next (wpAny_call_entry F.slot_zip_next hT F.entry_zip_next ?_ (F.args_zip_next_1 _))))
 have fin:∀ h' e,(∀ b ob,b∉fpZ n→s.heap.get? b=some ob→h'.get? b=some ob)→(∃ o,h'.get? e=some o∧o.cls=.type "StopIteration")→wpAny (model P w) A (do
   let b ← isInstance (.ref e) (.type "StopIteration")
   if b=true then pure none else throw (.ref e)) Q E { s with heap:=h' }:=fun h' e kp he=>by
  obtain ⟨o,ho,hce⟩:=he
  exact wpAny_bind (wpAny_isInstance (T:="StopIteration") (b:=true) ⟨o,ho,hce⟩ isSubtype_stop (wpAny_pure (k h' kp)))
 rcases r with ⟨gz,a,b,go⟩|⟨T,fl,gz,gT⟩
 ·exact yk8 hh b1 b2 gz gi go q1 q2 o1 o2 hend fun h' e kp he=>fin h' e (fun b ob hb z=>kp b ob (fun q=>hb (by simp[q])) (fun q=>hb (by simp[q])) (fun q=>hb (by simp[q])) (fun q=>hb (by simp[q])) z) he
 ·exact zipDone2 hh b1 b2 gz gi gT q1 q2 o1 o2 hend fun h' e kp he=>fin h' e (fun b ob hb z=>kp b ob (fun q=>hb (by simp[q])) (fun q=>hb (by simp[q])) (fun q=>hb (by simp[q])) z) he
def accZ (kf:Nat→Key) (ys:Array Value):Nat→List (Key×Value)
 | 0=>[]
 | i+1=>stored (accZ kf ys i) (kf i) (ys[i]?.getD .none)
theorem yjo (kf:Nat→Key) (ys:Array Value):∀ i,(accZ kf ys i).length≤i
 | 0=>Nat.le_refl _
 | i+1=>by
  have:=yjo kf ys i
  unfold accZ stored
  split
  ·rw[List.length_map];omega
  ·rw[List.length_append];simp;omega
theorem dictLoop {n l1 l2 d m:Nat}{xs ys:Array Value}{kf:Nat→Key}{t1 t2:Bool}{R:Result→Shared→Prop} (hh:A.handled=none) (b1:l1<n) (b2:l2<n) (hm:m=min xs.size ys.size) (hz:m≤sizeLine) (hk:∀ i x,xs[i]?=some x→(ya0 P w).is (kf i) x=true) (hd:n+4<d) :
  ∀ r i (s:Shared),i+r=m→ZS2 s.heap n t1 t2 l1 l2 i→SOf s.heap t1 l1 xs→SOf s.heap t2 l2 ys→s.heap.DictOf (ya0 P w) d (accZ kf ys i)→
   (∀ h' tk,h'.DictOf (ya0 P w) d (accZ kf ys m)→(∀ b ob,b<n→s.heap.get? b=some ob→h'.get? b=some ob)→R (.ok (.ret .none)) { s with heap:=h',toks:=tk })→
   codeAny (model P w) A (.builtin "dict.update.loop" ⟨[.ref d,.ref (n+4),rawInt i,.none],[]⟩) R s:=by
 intro r
 have nfp:∀ b,b<n→b∉fpZ n:=fun b hb hm=>by simp at hm;omega
 have nfd:d∉fpZ n:=fun hm=>by simp at hm;omega
 induction r with
 | zero=>
  intro i s hi st o1 o2 hD k
  refine codeAny_builtin qdl ?_
  rw[Around.under_plainId qbu _]
  show wpAny _ A.in1 (pyNext (.ref (n+4)) >>= _) _ _ _
  refine wpAny_bind (yke (A:=A.in1) hh b1 b2 st o1 o2 ?_ fun h' kp=>?_)
  ·simp only[Array.getElem?_eq_none_iff]
   omega
  ·refine wpAny_bind (m:=Builtin.Dict.addKeywords d []) (wpAny_of_eq (a:=()) (by rfl) ?_)
   have e:i=m:=by omega
   subst e
   refine wpAny_pure (k h' s.toks (hD.at fun o g=>kp d o nfd g) fun b ob hb g=>kp b ob (nfp b hb) g)
 | succ r ih=>
  intro i s hi st o1 o2 hD k
  refine codeAny_builtin qdl ?_
  rw[Around.under_plainId qbu _]
  show wpAny _ A.in1 (pyNext (.ref (n+4)) >>= _) _ _ _
  obtain ⟨x,hx⟩:∃ x,xs[i]?=some x:=⟨_,Array.getElem?_eq_getElem (by omega)⟩
  obtain ⟨y,hy⟩:∃ y,ys[i]?=some y:=⟨_,Array.getElem?_eq_getElem (by omega)⟩
  refine wpAny_bind (pyNextZ (A:=A.in1) b1 b2 st o1 o2 hx hy fun h' st' hT kp=>?_)
  dsimp only
  refine wpAny_bind (wpAny_holding (wpAny_bind (wpAny_tryCatch ?_)))
  have hTT:Shared.TypeIs { s with heap:=h' } (.ref s.heap.objs.size) "tuple":=⟨_,hT,rfl⟩
  unfold Builtin.Dict.pairItems
  refine wpAny_bind (wpAny_typeOf hTT ?_)
  rw[if_pos (by decide)]
  refine wpAny_bind (wpAny_seqItems hT rfl (wpAny_pure ?_))
  show wpAny _ A.in1 (holding [x,y] (dictSet d x y)) _ _ _
  refine wpAny_holding (wpAny_dictSet_pairs (k:=kf i) (hk i x hx) (hD.at fun o g=>kp d o nfd g) (fun h2 hD2 sb=>?_) ?_)
  ·refine wpAny_pure ⟨plainId_quiet qbu _,?_⟩
   have hD3:h2.DictOf (ya0 P w) d (accZ kf ys (i+1)):=by
    unfold accZ
    rw[hy]
    exact hD2
   have up:∀ b ob,b≠d→h'.get? b=some ob→h2.get? b=some ob:=fun b ob hb g=>(sb.2 b hb).trans g
   have:=ih (i+1) { s with heap:=h2,toks:=s.toks+1 } (by omega) (st'.at fun b ob g=>?_) (o1.at fun o g=>up _ o (by omega) (kp _ o (nfp _ b1) g)) (o2.at fun o g=>up _ o (by omega) (kp _ o (nfp _ b2) g)) hD3 fun h3 tk hD4 kp3=>k h3 tk hD4 fun b ob hb g=>kp3 b ob hb (up b ob (by omega) (kp b ob (nfp b hb) g))
   ·rw[show ((i+1:Nat):Int)=(i:Int)+1 from rfl] at this
    exact this
   ·by_cases hb:b=d
    ·subst hb
     obtain ⟨o,_,_,go,_⟩:=hD3
     exact ⟨o,go,fun z=>absurd z (Nat.not_le.mpr hd)⟩
    ·exact ⟨ob,up b ob hb g,fun _=>rfl⟩
  ·have:=yjo kf ys i
   omega
end
theorem ykb:bootBuiltins "dict" = some (.type "dict"):=by decide +kernel
section
variable {P:Program}{w:World}{A:Around}{E:Value→Shared→Prop}{s:Shared}
theorem qkj {n l1 l2 m:Nat}{xs ys:Array Value}{kf:Nat→Key}{t1 t2:Bool}{Q:Value→Shared→Prop} (hh:A.handled=none) (b1:l1<n) (b2:l2<n) (hm:m=min xs.size ys.size) (hz:m≤sizeLine) (hk:∀ i x,xs[i]?=some x→(ya0 P w).is (kf i) x=true)
  (st:ZSt s.heap n t1 t2 l1 l2 0) (o1:SOf s.heap t1 l1 xs) (o2:SOf s.heap t2 l2 ys)
  (k:∀ h' tk,h'.DictOf (ya0 P w) s.heap.objs.size (accZ kf ys m)→(∀ b ob,b<n→s.heap.get? b=some ob→h'.get? b=some ob)→Q (.ref s.heap.objs.size) { s with heap:=h',toks:=tk }) :
  wpAny (model P w) A (call (.type "dict") [.ref (n+4)]) Q E s:=by
 refine callType_codes F.kt_called_dict (F.kt_typeCall_dict_1 _) F.entry_dict_init (kt_code_dict_new (.ref (n+4)) (Q₁:=fun obj s1=>obj=.ref s.heap.objs.size∧s1={ s with heap:=s.heap.push { cls:=.type "dict",data:=.dict #[] } }) ⟨rfl,rfl⟩) ?_
 rintro obj s1 ⟨rfl,rfl⟩
 have lt:n+4<s.heap.objs.size:=st.s2.lt
 have g0:(s.heap.push { cls:=.type "dict",data:=.dict #[] }).get? s.heap.objs.size=some { cls:=.type "dict",data:=.dict #[] }:=Heap.get?_push_size _ rfl
 have up:∀ b ob,s.heap.get? b=some ob→(s.heap.push { cls:=.type "dict",data:=.dict #[] }).get? b=some ob:=fun b ob g=>Heap.get?_push_of_some _ g
 have hD0:(s.heap.push { cls:=.type "dict",data:=.dict #[] }).DictOf (ya0 P w) s.heap.objs.size []:=Heap.DictOf.new _
 revert g0 up hD0
 generalize s.heap.push { cls:=.type "dict",data:=.dict #[] }=h1
 intro g0 up hD0
 have hTd:Shared.TypeIs { s with heap:=h1 } (.ref s.heap.objs.size) "dict":=⟨_,g0,rfl⟩
 refine ⟨hTd,F.args_dict_init_2 _ _,?_⟩
 have st1:ZSt h1 n t1 t2 l1 l2 0:=by
  obtain ⟨a,b,gz,gi,go,q1,q2⟩:=st
  exact ⟨a,b,up _ _ gz,up _ _ gi,up _ _ go,q1.at fun o g=>up _ o g,q2.at fun o g=>up _ o g⟩
 obtain ⟨a0,b0,gz,_⟩:=id st1
 have hTz:Shared.TypeIs { s with heap:=h1 } (.ref (n+4)) "zip":=⟨_,gz,rfl⟩
 unfold Builtin.«dict.__init__» Builtin.Dict.selfAndRest
 refine wpAny_bind (wpAny_bind ?_)
 unfold Builtin.Dict.notOrdered
 rw[if_pos (by decide +kernel)]
 refine wpAny_bind (wpAny_typeOf hTd ?_)
 rw[if_neg (by decide)]
 refine wpAny_pure ?_
 refine wpAny_bind (m:=Builtin.Dict.addrOf _) (wpAny_of_eq (a:=s.heap.objs.size) (by rfl) (wpAny_pure ?_))
 show wpAny _ _ (Builtin.Dict.updateFrom _ _ _ _ _) _ _ _
 unfold Builtin.Dict.updateFrom
 refine wpAny_bind (wpAny_typeOf hTz ?_)
 rw[if_pos (by decide)]
 refine wpAny_bind (zipKeys (A:=A.in1.in1) gz hh fun h2 tk2 kp2=>?_)
 rw[if_pos (show (none:Option Value).isNone=true from rfl)]
 refine wpAny_bind (wpAny_rule ?_)
 have st2:ZSt h2 n t1 t2 l1 l2 0:=by
  obtain ⟨a,b,gz,gi,go,q1,q2⟩:=st1
  exact ⟨a,b,kp2 _ _ gz,kp2 _ _ gi,kp2 _ _ go,q1.at fun o g=>kp2 _ o g,q2.at fun o g=>kp2 _ o g⟩
 refine wpAny_bind (wpAny_pyIter_zip (kp2 _ _ gz) ?_)
 refine wpAny_pure ⟨plainId_quiet qbu _,?_⟩
 refine dictLoop (A:=A.in1) hh b1 b2 hm hz hk lt m 0 _ (by omega) st2.s2 (o1.at fun o g=>kp2 _ o (up _ o g)) (o2.at fun o g=>kp2 _ o (up _ o g)) (hD0.at fun o g=>kp2 _ o g) fun h3 tk3 hD3 kp3=>?_
 exact ⟨rfl,k h3 tk3 hD3 fun b ob hb g=>kp3 b ob hb (kp2 b ob (up b ob g))⟩
end
def dzip (ks:List Key) (ys:List V):Nat→List (Key×V)
 | 0=>[]
 | i+1=>putK (dzip ks ys i) (ks[i]?.getD (.inl 0)) (ys[i]?.getD .non)
theorem qjj (ks:List Key) (ys:List V):∀ i,(dzip ks ys i).length≤i
 | 0=>Nat.le_refl _
 | i+1=>by
  have:=qjj ks ys i
  have h2:=yfs (dzip ks ys i) (ks[i]?.getD (.inl 0)) (ys[i]?.getD .non)
  unfold dzip
  omega
theorem yjn {ks:List Key}{ys:List V} (nd:ks.Nodup):∀ i,i≤ks.length→i≤ys.length→∀ j k v,j<i→ks[j]?=some k→ys[j]?=some v→valV (dzip ks ys i) k=some v
 | 0,_,_,j,k,v,h,_,_=>absurd h (Nat.not_lt_zero _)
 | i+1,h1,h2,j,k,v,h,hk,hv=>by
  unfold dzip
  rw[valV_put]
  by_cases e:j=i
  ·subst e
   rw[hk,hv]
   simp
  ·have hi:ks[i]?=some ks[i]:=List.getElem?_eq_getElem (by omega)
   rw[hi]
   have hj:ks[j]?=some ks[j]:=List.getElem?_eq_getElem (by omega)
   rw[hj] at hk
   cases hk
   rw[if_neg (fun z=>List.pairwise_iff_getElem.mp nd j i (by omega) (by omega) (by omega) (by simpa using z))]
   exact yjn nd i (by omega) (by omega) j _ v (by omega) hj hv
theorem ylg {ks:List Key}{ys:List V}{us:List Value} (r:Vals ys us):∀ i,i≤ys.length→KV (dzip ks ys i) (accZ (fun j=>ks[j]?.getD (.inl 0)) us.toArray i)
 | 0,_=>.nil
 | i+1,h=>by
  unfold dzip accZ
  obtain ⟨u,hu,ru⟩:=r.get (List.getElem?_eq_getElem (l:=ys) (i:=i) (by omega))
  refine KV.put (ylg r i (by omega)) _ ?_
  rw[List.getElem?_eq_getElem (l:=ys) (i:=i) (by omega),List.getElem?_toArray,hu]
  exact ru
def rDZ (K:PySem.W.Frag):List V→Hp→VK→Prop:=fun vs H Q=>∃ t1 t2 l1 l2 ks ys,vs=[.ref l1,.ref l2]∧Sq K t1 H l1 (ks.map kV)∧Sq K t2 H l2 ys∧ys.length≤sizeLine∧∀ p,H p=none→Q (.ref p) (upd H p (.dK (dzip ks ys (min ks.length ys.length))))
def tDZ (K:PySem.W.Frag) (ta:TA):TE:=fun σ H Q=>ta σ H fun vs H1=>rDZ K vs H1 Q
section
variable {X:Cx}
theorem ykg {a b:Expr}{ta:TA}{p pos p2 pos2:Pos} (hc:X.calm=true) (hd:Gl X "dict") (hdm:X.mg "dict" = none) (hg:Gl X "zip") (hm:X.mg "zip" = none) (ha:PA X [a,b] ta) (hs:starEach [a,b] X.env=(false,eval a X.env)::starEach [b] X.env:=by rfl) (hp:(backTo pos2 (starEach [b] X.env)).any (·.1)=false:=by rfl)
  (hs2:starEach [Expr.Call (.Name "zip" p2) [a,b] [] pos2] X.env=(false,eval (.Call (.Name "zip" p2) [a,b] [] pos2) X.env)::starEach [] X.env:=by rfl) (hp2:(backTo pos (starEach [] X.env)).any (·.1)=false:=by rfl) :
  PE X (.Call (.Name "dict" p) [.Call (.Name "zip" p2) [a,b] [] pos2] [] pos) (tDZ X.K ta):=by
 intro pins s σ H Q I h
 refine wpAny_Call_Name_kw (qdk I hd hdm ykb ?_)
 refine PyProof.Rows.callWith_type1 ?_ hs2 hp2
 rw[hs2]
 show wpAny _ _ (spliced ((false,eval _ X.env)::backTo pos (starEach [] X.env))) _ _ s
 refine Calls.spliced_cons ?_
 refine wpAny_Call_Name_kw (qdk I hg hm qhv (PyProof.Rows.callWith_type1 (thn (ha pos2 pins s σ H _ I h) fun us s1 ⟨vs,H1,I1,r1,q1⟩=>?_) hs hp))
 obtain ⟨t1,t2,l1,l2,ks,ys,e,hq1,hq2,hz,q⟩:=q1
 subst e
 cases r1 with
 | cons r rr=>
  cases rr with
  | cons r2 rr=>
   cases rr
   cases r
   cases r2
   obtain ⟨its1,rv1,so1,b1⟩:=I1.sq hq1
   obtain ⟨its2,rv2,so2,b2⟩:=I1.sq hq2
   refine qiq so1 so2 fun h' st kp=>?_
   refine Calls.spliced_nil ?_
   have l1':=rv1.length
   have l2':=rv2.length
   rw[List.length_map] at l1'
   refine qkj (s:={ s1 with heap:=h' }) (m:=min ks.length ys.length) (kf:=fun j=>ks[j]?.getD (.inl 0)) (I.ok.hd hc) b1 b2 (by simp[l1',l2']) (by omega) (fun i x hx=>?_) st (so1.at fun o g=>kp _ o g) (so2.at fun o g=>kp _ o g) fun h3 tk3 hD3 kp3=>?_
   ·have hx':its1[i]?=some x:=by simpa using hx
    have hi:i<ks.length:=by
     have:=(List.getElem?_eq_some_iff.mp hx').1
     omega
    obtain ⟨u,hu,ru⟩:=rv1.get (x:=kV ks[i]) (by rw[List.getElem?_map,List.getElem?_eq_getElem hi];rfl)
    rw[hx'] at hu
    cases hu
    show (ya0 X.prog X.w).is (ks[i]?.getD (.inl 0)) x=true
    rw[List.getElem?_eq_getElem hi]
    exact kV_is ru
   ·have up:∀ b ob,s1.heap.get? b=some ob→h3.get? b=some ob:=fun b ob g=>kp3 b ob (Heap.lt_size g) (kp b ob g)
    have lt:s1.heap.objs.size≤h'.objs.size:=by
     have:=st.s2.lt
     omega
    have fr:H1 h'.objs.size=none:=I1.hok.fresh lt
    have big:=I1.big
    refine ⟨.ref h'.objs.size,upd H1 h'.objs.size (.dK (dzip ks ys (min ks.length ys.length))),I1.laid (a:=h'.objs.size) (o:=.dK _) (t':=tk3) up lt ⟨?_,?_,_,ylg rv2 _ (by omega),hD3⟩,rfl,q _ fr⟩
    ·have:=qjj ks ys (min ks.length ys.length)
     omega
    ·exact beq_eq_false_iff_ne.mpr (Nat.ne_of_gt (Nat.lt_of_lt_of_le big lt))
end
theorem yhu {a b:List Int} (p:a.Perm b) (ha:a.Pairwise (·≤·)) (hb:b.Pairwise (·≤·)):a=b:=p.eq_of_pairwise (fun x y _ _ h1 h2=>Int.le_antisymm h1 h2) ha hb
def Srt (xs:Array Nat):Prop:=∀ (i j:Nat) (x y:Nat),i<j→xs[i]?=some x→xs[j]?=some y→x<y
theorem qhr (xs:Array Nat) (j:Nat) (hs:Srt xs):∀ (fuel lo hi:Nat),hi-lo≤fuel→lo≤hi→hi≤xs.size→(∀ k x,k<lo→xs[k]?=some x→x<j)→(∀ k x,hi≤k→xs[k]?=some x→j≤x)→
  (∀ k x,k<SetTable.below.go xs j fuel lo hi→xs[k]?=some x→x<j)∧(∀ k x,SetTable.below.go xs j fuel lo hi≤k→xs[k]?=some x→j≤x)∧SetTable.below.go xs j fuel lo hi≤xs.size
 | 0,lo,hi,hf,h1,h2,ha,hb=>by
  have e:lo=hi:=by omega
  subst e
  exact ⟨ha,hb,h2⟩
 | fuel+1,lo,hi,hf,h1,h2,ha,hb=>by
  unfold SetTable.below.go
  by_cases hlt:lo<hi
  ·rw[if_pos hlt]
   have hm:(lo+hi) / 2<xs.size:=by omega
   have hg:xs[(lo+hi) / 2]?=some (xs.getD ((lo+hi) / 2) j):=by
    rw[Array.getD_eq_getD_getElem?,Array.getElem?_eq_getElem hm];rfl
   dsimp only
   by_cases hc:xs.getD ((lo+hi) / 2) j<j
   ·rw[if_pos hc]
    refine qhr xs j hs fuel _ hi (by omega) (by omega) h2 (fun k x hk hx=>?_) hb
    by_cases he:k=(lo+hi) / 2
    ·subst he;rw[hg] at hx;cases hx;exact hc
    ·have:=hs k ((lo+hi) / 2) x _ (by omega) hx hg
     omega
   ·rw[if_neg hc]
    refine qhr xs j hs fuel lo _ (by omega) (by omega) (by omega) ha (fun k x hk hx=>?_)
    by_cases he:k=(lo+hi) / 2
    ·subst he;rw[hg] at hx;cases hx;omega
    ·have:=hs ((lo+hi) / 2) k _ x (by omega) hg hx
     omega
  ·rw[if_neg hlt]
   have e:lo=hi:=by omega
   subst e
   exact ⟨ha,hb,h2⟩
theorem yjr {xs:Array Nat} (j:Nat) (hs:Srt xs):(∀ k x,k<SetTable.below xs j→xs[k]?=some x→x<j)∧(∀ k x,SetTable.below xs j≤k→xs[k]?=some x→j≤x)∧SetTable.below xs j≤xs.size:=by
 unfold SetTable.below
 refine qhr xs j hs xs.size 0 xs.size (by omega) (Nat.zero_le _) (Nat.le_refl _) (fun k x h=>absurd h (Nat.not_lt_zero _)) (fun k x h hx=>?_)
 rw[Array.getElem?_eq_none h] at hx;cases hx
theorem qj0 {xs:Array Nat}{j n:Nat} (hs:Srt xs) (hn:n≤xs.size) (h1:∀ k x,k<n→xs[k]?=some x→x<j) (h2:∀ k x,n≤k→xs[k]?=some x→j≤x):SetTable.below xs j=n:=by
 obtain ⟨b1,b2,b3⟩:=yjr j hs
 rcases Nat.lt_trichotomy (SetTable.below xs j) n with h|h|h
 ·have hlt:SetTable.below xs j<xs.size:=by omega
  have g:=Array.getElem?_eq_getElem hlt
  have:=h1 _ _ h g
  have:=b2 _ _ (Nat.le_refl _) g
  omega
 ·exact h
 ·have hlt:n<xs.size:=by omega
  have g:=Array.getElem?_eq_getElem hlt
  have:=h2 _ _ (Nat.le_refl _) g
  have:=b1 _ _ h g
  omega
theorem yif {α:Type} (xs:Array α) (p:Nat) (x:α) (hp:p≤xs.size) (i:Nat):(SetTable.insertAt xs p x)[i]?=if i<p then xs[i]? else if i=p then some x else xs[i-1]?:=by
 unfold SetTable.insertAt
 have e1:((xs.extract 0 p).push x++xs.extract p xs.size).toList=xs.toList.take p++x::xs.toList.drop p:=by
  simp
  exact List.take_of_length_le (by simp)
 rw[← Array.getElem?_toList,e1]
 have hl:(xs.toList.take p).length=p:=by rw[List.length_take,Array.length_toList];omega
 by_cases h1:i<p
 ·rw[if_pos h1,List.getElem?_append_left (by omega),List.getElem?_take_of_lt h1,Array.getElem?_toList]
 ·rw[if_neg h1,List.getElem?_append_right (by omega),hl]
  by_cases h2:i=p
  ·rw[if_pos h2,h2,Nat.sub_self];rfl
  ·rw[if_neg h2]
   obtain ⟨d,hd⟩:∃ d,i-p=d+1:=⟨i-p-1,by omega⟩
   rw[hd,List.getElem?_cons_succ,List.getElem?_drop,Array.getElem?_toList]
   congr 1
   omega
theorem qkl {xs:Array Nat}{j:Nat} (hs:Srt xs) (hj:xs[SetTable.below xs j]?≠some j):Srt (SetTable.insertAt xs (SetTable.below xs j) j):=by
 obtain ⟨b1,b2,b3⟩:=yjr j hs
 have hgt:∀ k x,SetTable.below xs j≤k→xs[k]?=some x→j<x:=fun k x hk hx=>by
  have h1:=b2 k x hk hx
  by_cases he:x=j
  ·subst he
   by_cases hk2:k=SetTable.below xs x
   ·subst hk2;exact absurd hx hj
   ·have hlt:SetTable.below xs x<xs.size:=by
     have:=(Array.getElem?_eq_some_iff.mp hx).1
     omega
    have g:=Array.getElem?_eq_getElem hlt
    have h2:=hs _ k _ x (by omega) g hx
    have h3:=b2 _ _ (Nat.le_refl _) g
    omega
  ·omega
 intro a b x y hab hx hy
 rw[yif _ _ _ b3] at hx hy
 by_cases ha:a<SetTable.below xs j
 ·rw[if_pos ha] at hx
  by_cases hb:b<SetTable.below xs j
  ·rw[if_pos hb] at hy
   exact hs a b x y hab hx hy
  ·rw[if_neg hb] at hy
   have hxj:=b1 a x ha hx
   by_cases hb2:b=SetTable.below xs j
   ·rw[if_pos hb2] at hy;cases hy;exact hxj
   ·rw[if_neg hb2] at hy
    have:=hgt (b-1) y (by omega) hy
    omega
 ·rw[if_neg ha] at hx
  have hb:¬ b<SetTable.below xs j:=by omega
  rw[if_neg hb] at hy
  by_cases ha2:a=SetTable.below xs j
  ·rw[if_pos ha2] at hx
   cases hx
   rw[if_neg (by omega)] at hy
   exact hgt (b-1) y (by omega) hy
  ·rw[if_neg ha2] at hx
   rw[if_neg (by omega)] at hy
   exact hs (a-1) (b-1) x y (by omega) hx hy
theorem yl9 (n:Nat):Srt (Array.range n):=by
 intro i j x y hij hx hy
 have h1:=(Array.getElem?_eq_some_iff.mp hx).2
 have h2:=(Array.getElem?_eq_some_iff.mp hy).2
 simp at h1 h2
 omega
theorem srt_of {l:List Nat} (h:l.Pairwise (· < ·)):Srt l.toArray:=by
 intro i j x y hij hx hy
 have hx':l[i]?=some x:=by simpa using hx
 have hy':l[j]?=some y:=by simpa using hy
 obtain ⟨hi,e1⟩:=List.getElem?_eq_some_iff.mp hx'
 obtain ⟨hj,e2⟩:=List.getElem?_eq_some_iff.mp hy'
 have:=List.pairwise_iff_getElem.mp h i j hi hj hij
 rw[e1,e2] at this
 exact this
def TOk (t:SetTable):Prop:=Srt t.place∧t.dummies=#[]
theorem yjs (j:Nat):SetTable.has #[] j=false:=by
 unfold SetTable.has
 simp
theorem slot_no {t:SetTable} (h:TOk t) (j:Nat):t.slot j≠.dummy:=by
 unfold SetTable.slot
 rw[h.2,yjs]
 dsimp only
 split
 ·intro z;cases z
 ·simp
theorem ykf {t:SetTable}{j:Nat} (h:t.slot j=.empty):t.place[SetTable.below t.place j]?≠some j:=by
 intro e
 unfold SetTable.slot at h
 dsimp only at h
 rw[if_pos (by rw[e];simp)] at h
 cases h
theorem yhc (t:SetTable) (p:SetTable.Probe):(t.advance p).dummy=p.dummy:=by
 unfold SetTable.advance
 split<;>rfl
theorem ygb {t:SetTable} (ht:TOk t) (f:Nat→Int) (h:Int):∀ (fuel:Nat) (p:SetTable.Probe) (j:Nat) (d:Option Nat),p.dummy=none→SetTable.probe.go t f h fuel p=some (.empty j d)→t.slot j=.empty∧d=none
 | 0,p,j,d,hp,e=>by
  unfold SetTable.probe.go at e
  cases e
 | fuel+1,p,j,d,hp,e=>by
  unfold SetTable.probe.go at e
  split at e
  ·rename_i hs
   cases e
   exact ⟨hs,hp⟩
  ·rename_i hs
   exact absurd hs (slot_no ht _)
  ·split at e
   ·cases e
   ·exact ygb ht f h fuel _ j d (by rw[yhc];exact hp) e
theorem qiw {t:SetTable} (ht:TOk t) {h:Int}{j:Nat}{b:Bool} (e:t.freeSlot h=some (j,b)):t.slot j=.empty:=by
 unfold SetTable.freeSlot at e
 split at e
 ·rename_i j' d hp
  have hq:SetTable.probe.go t (fun _=>h+1) h (10*SetTable.turns t.mask) (t.probeStart h)=some (.empty j' d):=hp
  obtain ⟨h1,h2⟩:=ygb ht _ _ _ _ _ _ rfl hq
  subst h2
  cases e
  exact h1
 ·cases e
theorem put_ok {t:SetTable} (ht:TOk t) {j:Nat} (h:t.slot j=.empty):TOk (t.put j).1∧(t.put j).1.led=t.led:=by
 refine ⟨⟨qkl ht.1 (ykf h),?_⟩,rfl⟩
 show (if SetTable.has t.dummies j then SetTable.eraseAt t.dummies (SetTable.below t.dummies j) else t.dummies)=#[]
 rw[ht.2,yjs]
 rfl
theorem yds (t:SetTable) (n:Nat):TOk (t.standIn n)∧(t.standIn n).led=t.led:=⟨⟨yl9 n,rfl⟩,rfl⟩
theorem yhx {t:SetTable} (ht:TOk t) (n:Nat):TOk (t.orStandIn n)∧(t.orStandIn n).led=t.led:=by
 unfold SetTable.orStandIn
 split
 ·exact ⟨ht,rfl⟩
 ·exact yds t n
theorem ql4 {t:SetTable} (ht:TOk t) (es:Array (Int×Value)) (h:Int) (x:Value):TOk (layNew t es h x).2.1∧(layNew t es h x).2.1.led=t.led:=by
 unfold layNew
 split
 ·rename_i j b e
  have hp:=put_ok ht (qiw ht e)
  have ho:=yhx hp.1 (SetTable.insertAt es (t.put j).2 (h,x)).size
  exact ⟨ho.1,ho.2.trans hp.2⟩
 ·exact yds t _
theorem qeh {α:Type} (f:Nat→Option α):∀ (l:List Nat),l.Pairwise (· < ·)→((l.filterMap fun j=>(f j).map (j,·)).map (·.1)).Pairwise (· < ·):=by
 intro l hl
 have hsub:((l.filterMap fun j=>(f j).map (j,·)).map (·.1)).Sublist l:=by
  induction l with
  | nil=>exact .slnil
  | cons a l ih=>
   rw[List.filterMap_cons]
   have:=ih (List.pairwise_cons.mp hl).2
   cases f a with
   | none=>exact .cons _ this
   | some b=>exact .cons₂ _ this
 exact hl.sublist hsub
theorem ylc {t t':SetTable}{hs:Array Int}{n:Nat}{o:Array Nat} (e:t.relaid hs n=some (t',o)):TOk t'∧t'.led=t.led:=by
 unfold SetTable.relaid SetTable.laid at e
 cases ho:SetTable.layClean (SetTable.sizeAbove n-1) hs with
 | none=>rw[ho] at e;cases e
 | some owner=>
  rw[ho] at e
  cases e
  refine ⟨⟨srt_of ?_,rfl⟩,rfl⟩
  exact qeh (fun j=>owner.getD j none) _ List.pairwise_lt_range
theorem yjc {t:SetTable} (es:Array (Int×Value)) (n:Nat):TOk (relayAll t es n).2.1∧(relayAll t es n).2.1.led=t.led:=by
 unfold relayAll
 split
 ·rename_i t' o e
  dsimp only
  split
  ·exact ylc e
  ·exact yds t _
 ·exact yds t _
def byTx (w:World):Bool:=w.params.followText "set-order"
def SetL (P:Program) (w:World) (h:Heap) (a:Addr) (ks:List Int):Prop:=
 ∃ o es ep t,h.get? a=some o∧o.ExactSet∧o.data=.set es ep t∧ElemsOf (intKind P w) es.toList∧(∃ ns,IntsAre (es.toList.map (·.2)) ns∧ns.Perm ks)∧es.size<scanBound∧t.fits es.size=true∧TOk t∧(byTx w=true∨t.led=true)
theorem yen {vs' vs:List Value} (p:vs'.Perm vs):∀ {ns:List Int},IntsAre vs ns→∃ ns',IntsAre vs' ns'∧ns'.Perm ns:=by
 induction p with
 | nil=>intro ns h;exact ⟨ns,h,List.Perm.refl _⟩
 | cons x _ ih=>
  intro ns h
  cases h with
  | cons n t r=>
   obtain ⟨ns',h1,h2⟩:=ih r
   exact ⟨n::ns',.cons n t h1,h2.cons n⟩
 | swap x y l=>
  intro ns h
  cases h with
  | cons n t r=>
   cases r with
   | cons m u r=>exact ⟨m::n::_,.cons m u (.cons n t r),List.Perm.swap ..⟩
 | trans _ _ ih1 ih2=>
  intro ns h
  obtain ⟨n1,a1,b1⟩:=ih2 h
  obtain ⟨n2,a2,b2⟩:=ih1 a1
  exact ⟨n2,a2,b2.trans b1⟩
theorem qg6:∀ {vs:List Value}{ns:List Int},IntsAre vs ns→(∀ v∈vs,∃ n t,v=.int n t∧n∈ns)∧∀ n∈ns,∃ t,Value.int n t∈vs
 | _,_,.nil=>⟨fun v h=>by simp at h,fun n h=>by simp at h⟩
 | _,_,.cons n t r=>by
  obtain ⟨h1,h2⟩:=qg6 r
  refine ⟨fun v hv=>?_,fun m hm=>?_⟩
  ·rcases List.mem_cons.mp hv with rfl|hv
   ·exact ⟨n,t,rfl,List.mem_cons_self ..⟩
   ·obtain ⟨m,u,e,hm⟩:=h1 v hv
    exact ⟨m,u,e,List.mem_cons_of_mem _ hm⟩
  ·rcases List.mem_cons.mp hm with rfl|hm
   ·exact ⟨t,List.mem_cons_self ..⟩
   ·obtain ⟨u,hu⟩:=h2 m hm
    exact ⟨u,List.mem_cons_of_mem _ hu⟩
theorem yik:∀ {vs:List Value}{ns:List Int} (k:Int) (t:Tok),IntsAre vs ns→IntsAre (vs++[.int k t]) (ns++[k])
 | _,_,k,t,.nil=>.cons k t .nil
 | _,_,k,t,.cons n u r=>.cons n u (yik k t r)
section
variable {P:Program}{w:World}{A:Around}{E:Value→Shared→Prop}{s:Shared}{a:Addr}{ks:List Int}
theorem storeL {o:Obj}{es:Array (Int×Value)}{ep:Nat}{t:SetTable}{es':Array (Int×Value)}{t':SetTable}{ks':List Int}{h:Heap} (g:h.get? a=some o) (gx:o.ExactSet) (gd:o.data=.set es ep t)
  (el:ElemsOf (intKind P w) es'.toList) (hv:∃ ns,IntsAre (es'.toList.map (·.2)) ns∧ns.Perm ks') (hb:es'.size<scanBound) (hf:t'.fits es'.size=true) (ht:TOk t') (hl:byTx w=true∨t'.led=true) :
  (h.update a (Obj.putSet es' t')).get? a=some { o with data:=.set es' (ep+1) t' }∧SetL P w (h.update a (Obj.putSet es' t')) a ks':=by
 have hg:(h.update a (Obj.putSet es' t')).get? a=some { o with data:=.set es' (ep+1) t' }:=by
  have z:=Heap.get?_update_self (Obj.putSet es' t') g (by rw[putSet_of es' t' gd];rfl)
  rw[putSet_of es' t' gd] at z
  exact z
 exact ⟨hg,_,es',ep+1,t',hg,gx,rfl,el,hv,hb,hf,ht,hl⟩
theorem addL {k:Int}{tk:Tok}{Q:Bool→Shared→Prop} (hS:SetL P w s.heap a ks) (hroom:ks.length+1<scanBound)
  (h:∀ b h',Heap.SameBut a s.heap h'→SetL P w h' a (if k∈ks then ks else ks++[k])→Q b { s with heap:=h' }) :
  wpAny (model P w) A (setAddHashed a (.int k tk) ((intKind P w).hash k)) Q E s:=by
 obtain ⟨o,es,ep,t,g,gx,gd,el,⟨ns,hi,hp⟩,hb,hf,ht,hl⟩:=hS
 have hlen:es.size=ks.length:=by
  have h1:=IntsAre.length hi
  rw[List.length_map,Array.length_toList] at h1
  rw[h1,hp.length_eq]
 have kk:(intKind P w).is k (.int k tk)=true:=intKind_is _ _ _ _
 unfold setAddHashed setAddHashedIn
 refine wpAny_holding (wpAny_bind (wpAny_setState_of g gd hf ?_))
 dsimp only
 rw[byScan_of (knd:=intKind P w) rfl hb el]
 simp only[↓reduceIte]
 unfold setAddByScan
 refine wpAny_bind ?_
 refine wpAny_bind (wpAny_rule ?_)
 refine wpAny_bind (wpAny_setScan_of kk g gd hf el ?_)
 have same:∀ m u,(intKind P w).is k (.int m u)=true→m=k:=fun m u z=>(intKind P w).inj _ m k (intKind_is _ _ _ _) z
 cases hr:List.findIdx? (fun e=>(intKind P w).is k e.2) es.toList with
 | some j=>
  dsimp only
  obtain ⟨hj,hpj,_⟩:=List.findIdx?_eq_some_iff_getElem.mp hr
  have hin:k∈ks:=by
   obtain ⟨m,u,e,hm⟩:=(qg6 hi).1 (es.toList[j]).2 (List.mem_map.mpr ⟨_,List.getElem_mem hj,rfl⟩)
   rw[e] at hpj
   have:=same m u hpj
   subst this
   exact hp.mem_iff.mp hm
  refine wpAny_pure (wpAny_pure ?_)
  have e:s={ s with heap:=s.heap }:=by cases s;rfl
  have z:=h false s.heap (Heap.SameBut.refl a s.heap) (by rw[if_pos hin];exact ⟨o,es,ep,t,g,gx,gd,el,⟨ns,hi,hp⟩,hb,hf,ht,hl⟩)
  rw[e]
  exact z
 | none=>
  dsimp only
  have hout:k∉ks:=fun hin=>by
   obtain ⟨u,hu⟩:=(qg6 hi).2 k (hp.mem_iff.mpr hin)
   obtain ⟨e,he,e2⟩:=List.mem_map.mp hu
   have z:=List.findIdx?_eq_none_iff.mp hr e he
   rw[e2] at z
   rw[show (intKind P w).is k (.int k u)=true from intKind_is _ _ _ _] at z
   cases z
  rw[if_neg hout] at h
  have gw:∀ (b:Bool) {s1:Shared}{Q':Unit→Shared→Prop},Q' () s1→wpAny (model P w) A (match b with|true=>rule "set.scan.the-table-gave-way" | false=>pure ()) Q' E s1:=fun b s1 Q' z=>by cases b<;>first|exact wpAny_pure z|exact wpAny_rule z
  have pm:=layNew_perm t es ((intKind P w).hash k) (.int k tk)
  have fm:=layNew_fits t es ((intKind P w).hash k) (.int k tk)
  have tm:=ql4 ht es ((intKind P w).hash k) (.int k tk)
  generalize hL:layNew t es ((intKind P w).hash k) (.int k tk)=L at pm fm tm ⊢
  obtain ⟨es1,t1,wasDummy,gave⟩:=L
  dsimp only at pm fm tm ⊢
  rw[Array.toList_push] at pm
  have el1:ElemsOf (intKind P w) es1.toList:=(el.push kk rfl).perm pm
  have hv1:∃ ns,IntsAre (es1.toList.map (·.2)) ns∧ns.Perm (ks++[k]):=by
   have q:=pm.map (·.2)
   rw[List.map_append] at q
   obtain ⟨n1,i1,p1⟩:=yen q (yik k tk hi)
   exact ⟨n1,i1,p1.trans (hp.append_right [k])⟩
  have sz1:es1.size=ks.length+1:=by
   rw[← Array.length_toList,pm.length_eq,List.length_append,Array.length_toList,hlen];rfl
  have hb1:es1.size<scanBound:=by rw[sz1];exact hroom
  refine wpAny_bind (gw _ ?_)
  have tail:∀ (t2:SetTable),t2.fits es1.size=true→TOk t2→(byTx w=true∨t2.led=true)→wpAny (model P w) A (do
    storeSet a es1 t2
    if (!wasDummy&&t2.tooFull)=true then do
      (match (relayAll t2 es1 (SetTable.grown es1.size)).2.2 with|true=>rule "set.scan.the-table-gave-way" | false=>pure ())
      storeSet a (relayAll t2 es1 (SetTable.grown es1.size)).1 (relayAll t2 es1 (SetTable.grown es1.size)).2.1
      pure (some true)
     else pure (some true)) (fun r s1=>wpAny (model P w) A (match r with|some added=>pure added|none=>setAddHashedIn a (.int k tk) ((intKind P w).hash k) 99999) Q E s1) E s:=by
   intro t2 f2 k2 l2
   refine wpAny_bind (wpAny_storeSet_of g gd ?_ (fits_of_scanBound hb1))
   obtain ⟨g1,S1⟩:=storeL (P:=P) (w:=w) g gx gd el1 hv1 hb1 f2 k2 l2
   have sb1:=Heap.SameBut.update s.heap a (Obj.putSet es1 t2)
   split
   ·have pr:=relayAll_perm t2 es1 (SetTable.grown es1.size)
    have fr:=relayAll_fits t2 es1 (SetTable.grown es1.size)
    have tr:=yjc (t:=t2) es1 (SetTable.grown es1.size)
    generalize hR:relayAll t2 es1 (SetTable.grown es1.size)=R at pr fr tr ⊢
    obtain ⟨es2,t3,gave2⟩:=R
    dsimp only at pr fr tr ⊢
    have sz2:es2.size=es1.size:=by rw[← Array.length_toList,pr.length_eq,Array.length_toList]
    have hb2:es2.size<scanBound:=by rw[sz2];exact hb1
    refine wpAny_bind (gw _ ?_)
    refine wpAny_bind (wpAny_storeSet_of g1 rfl ?_ (fits_of_scanBound hb2))
    have hv2:∃ ns,IntsAre (es2.toList.map (·.2)) ns∧ns.Perm (ks++[k]):=by
     obtain ⟨n1,i1,p1⟩:=hv1
     obtain ⟨n2,i2,p2⟩:=yen (pr.map (·.2)) i1
     exact ⟨n2,i2,p2.trans p1⟩
    obtain ⟨_,S2⟩:=storeL (P:=P) (w:=w) g1 gx rfl (el1.perm pr) hv2 hb2 fr tr.1 (l2.imp id fun z=>tr.2.trans z)
    exact wpAny_pure (wpAny_pure (h true _ (sb1.trans (Heap.SameBut.update _ a _)) S2))
   ·exact wpAny_pure (wpAny_pure (h true _ sb1 S1))
  have l1:byTx w=true∨t1.led=true:=hl.imp id fun z=>tm.2.trans z
  split
  ·refine wpAny_bind ?_
   rw[hashByValue_scannable 8 (rfl:(Value.int k tk).scannable=true)]
   refine wpAny_pure ?_
   split
   ·exact tail t1 fm tm.1 l1
   ·exact tail { t1 with plain:=false } (SetTable.fits_plain_off fm) tm.1 l1
  ·refine wpAny_bind (wpAny_pure ?_)
   simp only[↓reduceIte]
   exact tail t1 fm tm.1 l1
end
def ya2 (f:Nat→Int):Nat→List Int
 | 0=>[]
 | i+1=>if f i∈ya2 f i then ya2 f i else ya2 f i++[f i]
theorem yg1 (f:Nat→Int):∀ i,(ya2 f i).length≤i
 | 0=>Nat.le_refl _
 | i+1=>by
  have ih:=yg1 f i
  unfold ya2
  split
  ·omega
  ·rw[List.length_append];show _+1≤_;omega
theorem SetL.at {P:Program}{w:World}{h h':Heap}{a:Addr}{ks:List Int} (x:SetL P w h a ks) (k:∀ o,h.get? a=some o→h'.get? a=some o):SetL P w h' a ks:=by
 obtain ⟨o,es,ep,t,g,r⟩:=x
 exact ⟨o,es,ep,t,k o g,r⟩
section
variable {P:Program}{w:World}{A:Around}{R:Result→Shared→Prop}{I:Addr}{fp wr:List Addr}{G:Array GenState→Array GenState→Prop}{n:Nat}{Pv:Nat→Value→Prop}{St:Nat→Shared→Prop}
theorem loopL (W:WalksS P w A.in1 I fp wr G n Pv St) (d:Addr) (hd:d∉fp) (f:Nat→Int) (hf:∀ i v,Pv i v→∃ t,v=.int (f i) t) (hb:n+1<scanBound):∀ (k i:Nat) (s:Shared),n-i=k→i≤n→St i s→SetL P w s.heap d (ya2 f i)→
   (∀ s',Moved (d::wr) G s s'→SetL P w s'.heap d (ya2 f n)→R (.ok (.ret .none)) s')→codeAny (model P w) A (.builtin "set.update.loop" ⟨[.ref d,.ref I],[]⟩) R s:=by
 have hw:d∉wr:=fun z=>hd (W.sub _ z)
 have up:∀ b∈wr,b∈d::wr:=fun b z=>List.mem_cons_of_mem _ z
 intro k
 induction k with
 | zero=>
  intro i s hk hi st hS hR
  have e:i=n:=by omega
  subst e
  refine codeAny_builtin F.entry_set_update_loop ?_
  rw[Around.under_plainId F.plain_set_update_loop _]
  show wpAny _ A.in1 (pyNext (.ref I) >>= _) _ _ _
  refine wpAny_bind (W.done s _ _ st fun s' m=>?_)
  show wpAny _ A.in1 (ret Value.none) _ _ _
  exact wpAny_pure (hR s' (m.mono up) (hS.at fun o g=>m.heap d o hw g))
 | succ k ih=>
  intro i s hk hi st hS hR
  have hlt:i<n:=by omega
  refine codeAny_builtin F.entry_set_update_loop ?_
  rw[Around.under_plainId F.plain_set_update_loop _]
  show wpAny _ A.in1 (pyNext (.ref I) >>= _) _ _ _
  refine wpAny_bind (W.item i s _ _ hlt st fun v s' hP st' m=>?_)
  obtain ⟨t,rfl⟩:=hf i v hP
  have hS':SetL P w s'.heap d (ya2 f i):=hS.at fun o g=>m.heap d o hw g
  show wpAny _ A.in1 (holding [Value.int (f i) t] (setAdd d (.int (f i) t)) >>= _) _ _ _
  refine wpAny_bind (wpAny_holding ?_)
  unfold setAdd
  refine wpAny_holding ?_
  refine wpAny_bind ((intKind P w).pyHash (k:=f i) (intKind_is _ _ _ _) ?_)
  have room:(ya2 f i).length+1<scanBound:=by have:=yg1 f i;omega
  refine addL (s:={ s' with toks:=s'.toks+1 }) hS' room fun b h' sb S2=>?_
  have S3:SetL P w h' d (ya2 f (i+1)):=S2
  refine wpAny_pure ⟨plainId_quiet F.plain_set_update_loop _,?_⟩
  refine ih (i+1) _ (by omega) hlt (W.frame _ s' _ _ st' (Nat.le_succ _) fun b hb o g=>?_) S3 fun s2 m2 S4=>?_
  ·rw[sb.2 b (fun z:b=d=>hd (by rw[← z];exact hb))];exact g
  ·refine hR s2 (Moved.trans W.gtrans ((m.mono up).then_heap (Nat.le_succ _) fun b o hb g=>?_) m2) S4
   rw[sb.2 b (fun z:b=d=>hb (by rw[z];exact List.mem_cons_self))];exact g
end
section
variable {P:Program}{w:World}{A:Around}{E:Value→Shared→Prop}{s:Shared}
theorem newL (v:Value) {Q1:Value→Shared→Prop} (h:Q1 (.ref s.heap.objs.size) { s with heap:=s.heap.push { cls:=.type "set",dict:=none,data:=.set #[] 0 (.fresh 0 0 (!byTx w)) } }) :
  codeAny (model P w) A (.call (.builtin "set.__new__") ⟨[.type "set",v],[]⟩) (wants Q1 E) s:=by
 refine codeAny_of_tree ?_
 show wpAny _ A.in1 (do checkBuiltinCall "set.__new__" ⟨[.type "set",v],[]⟩;again (.builtin "set.__new__" ⟨[.type "set",v],[]⟩)) _ _ s
 refine wpAny_bind (wpAny_of_eq (F.newCall_set_1 v) (wpAny_pure ⟨plainId_quiet F.plain_set_new _,?_⟩))
 refine codeAny_builtin F.entry_set_new ?_
 rw[Around.under_plainId F.plain_set_new _]
 unfold Builtin.«set.__new__» Builtin.Frozenset.newClass
 have hsub:=sub_set_self
 obtain ⟨hp,g,d,tk,os⟩:=s
 dsimp only
 wp_walk
 refine wpAny_askSetting ?_
 refine wpAny_pure ?_
 dsimp only
 simp only[newObj]
 refine wpAny_bind (wpAny_alloc ?_)
 exact wpAny_pure (wpAny_pure h)
theorem SetL.new {h:Heap}{a:Addr} (g:h.get? a=some { cls:=.type "set",dict:=none,data:=.set #[] 0 (.fresh 0 0 (!byTx w)) }):SetL P w h a []:=by
 refine ⟨_,#[],0,_,g,⟨rfl,rfl,rfl⟩,rfl,fun e he=>by simp at he,⟨[],.nil,List.Perm.refl _⟩,by decide,rfl,⟨fun i j x y _ hx=>by simp[SetTable.fresh] at hx,rfl⟩,?_⟩
 cases byTx w
 ·exact .inr rfl
 ·exact .inl rfl
set_option maxHeartbeats 6400000 in
theorem qlr {l:Addr}{its:Array Value}{ns:List Int}{Q:Value→Shared→Prop} (hh:A.handled=none) (hl:s.heap.IsList l its) (hi:IntsAre its.toList ns) (hb:its.size+1<scanBound)
  (k:∀ (h':Heap) (tk:Nat),SetL P w h' s.heap.objs.size (ya2 (fun i=>ns.getD i 0) its.size)→(∀ b o,b<s.heap.objs.size→s.heap.get? b=some o→h'.get? b=some o)→Q (.ref s.heap.objs.size) { s with heap:=h',toks:=tk }) :
  wpAny (model P w) A (call (.type "set") [.ref l]) Q E s:=by
 obtain ⟨c0,tl0,c1⟩:=F.called_set.mro
 have c2:=F.called_set.made
 have c3:=F.called_set.sub
 refine wpAny_call (codeAny_of_tree ?_)
 show wpAny _ _ (callAny (.type "set") _) _ _ s
 refine wpAny_pure ⟨?_,?_⟩
 ·exact Code.quiet_builtin _ (by decide +kernel)
 refine codeAny_builtin F.entry_type_call ?_
 rw[Around.under_plain (weight_type_call_type "set" [.ref l] []) rfl]
 have c4:=F.called_set.notType
 have c5:=F.called_set.canCreate
 have c6:=F.typeCall_set_1 (.ref l)
 repeat (any_goals first|assumption|wp_step)
 refine codeAny_mono (newL (.ref l) (E:=E) (Q1:=fun v s1=>v=.ref s.heap.objs.size∧s1={ s with heap:=s.heap.push { cls:=.type "set",dict:=none,data:=.set #[] 0 (.fresh 0 0 (!byTx w)) } }) ⟨rfl,rfl⟩) fun r s1 hr=>?_
 cases r with
 | error e=>exact hr
 | ok fl=>
  cases fl with
  | ret v=>
   obtain ⟨rfl,rfl⟩:=hr
   have g1:(s.heap.push { cls:=.type "set",dict:=none,data:=.set #[] 0 (.fresh 0 0 (!byTx w)) }).get? s.heap.objs.size=some { cls:=.type "set",dict:=none,data:=.set #[] 0 (.fresh 0 0 (!byTx w)) }:=Heap.get?_push_size _ rfl
   have c7:Shared.TypeIs { s with heap:=s.heap.push { cls:=.type "set",dict:=none,data:=.set #[] 0 (.fresh 0 0 (!byTx w)) } } (.ref s.heap.objs.size) "set":=⟨_,g1,rfl⟩
   have c8:=F.called_set.init.lookup
   have c9:=F.called_set.init.bind (.ref s.heap.objs.size)
   repeat (any_goals first|assumption|wp_step)
   refine codeAny_mono (codeAny_call_builtin (R:=wants (fun r s2=>r=.none∧∃ h' tk,s2={ s with heap:=h',toks:=tk }∧SetL P w h' s.heap.objs.size (ya2 (fun i=>ns.getD i 0) its.size)∧
     (∀ b o,b<s.heap.objs.size→s.heap.get? b=some o→h'.get? b=some o)) E) F.called_set.init.plain F.entry_set_init (check_set_init_1 c7 ?_)) fun r2 s2 hr2=>?_
   ·obtain ⟨ol,gl,cl,nl,dl⟩:=hl
    obtain ⟨qc,qd,qa,qs⟩:=ol
    simp only at cl dl
    subst cl
    subst dl
    have gl':(s.heap.push { cls:=.type "set",dict:=none,data:=.set #[] 0 (.fresh 0 0 (!byTx w)) }).get? l=some { cls:=.type "list",dict:=qd,data:=.seq its nl,slots:=qs }:=Heap.get?_push_of_some _ gl
    have d1:=F.sub_list_set
    have d2:=F.sub_list_frozenset
    have d3:(Value.type "list" == Value.type "dict")=false:=by decide
    have hl1:(s.heap.push { cls:=.type "set",dict:=none,data:=.set #[] 0 (.fresh 0 0 (!byTx w)) }).IsList l its:=⟨_,gl',rfl,nl,rfl⟩
    unfold Builtin.«set.__init__» noKeywords Builtin.Frozenset.updateFrom
    generalize hPI:pyIter=PI
    wp_walk
    subst hPI
    refine wpAny_pyIter_list hl1 ?_
    refine wpAny_bind (wpAny_runValue ?_)
    have lt:l<s.heap.objs.size:=Heap.lt_size gl
    have h3:A.in1.in1.in1.handled=none:=by simp[hh]
    have nI:l≠(s.heap.push { cls:=.type "set",dict:=none,data:=.set #[] 0 (.fresh 0 0 (!byTx w)) }).objs.size:=by
     rw[Heap.size_push];exact Nat.ne_of_lt (Nat.lt_succ_of_lt lt)
    have nf:s.heap.objs.size∉[(s.heap.push { cls:=.type "set",dict:=none,data:=.set #[] 0 (.fresh 0 0 (!byTx w)) }).objs.size,l]:=by
     rw[Heap.size_push];simp only[List.mem_cons,List.mem_singleton,List.not_mem_nil,or_false,not_or]
     exact ⟨Nat.ne_of_lt (Nat.lt_succ_self _),Nat.ne_of_gt lt⟩
    have hv:∀ (i:Nat) (v:Value),its[i]?=some v→∃ t,v=.int ((fun i=>ns.getD i 0) i) t:=fun i v z=>PyProof.Rows.IntsAre.int_at hi i v (by rw[Array.getElem?_toList];exact z)
    refine loopL ((Walks.list h3 _ l nI its).toS) s.heap.objs.size nf (fun i=>ns.getD i 0) hv hb (its.size-0) 0 _ (by omega) (Nat.zero_le _) ⟨⟨_,Heap.get?_push_size _ rfl,rfl,rfl⟩,(hl1.push _)⟩ ?S0 ?R0
    case S0=>exact SetL.new (Heap.get?_push_of_some _ g1)
    case R0=>
     intro s' m S'
     obtain ⟨h',g',d',tk',os'⟩:=s'
     have eg:g'=s.gens:=m.gens
     have ed:d'=s.drawn:=m.drawn
     have eo:os'=s.os:=m.os
     subst eg
     subst ed
     subst eo
     show wpAny _ _ _ _ _ _
     refine wpAny_pure ?_
     show wpAny _ _ (ret Value.none) _ _ _
     refine wpAny_pure ⟨rfl,h',tk',rfl,S',fun b o lb g=>?_⟩
     have b1:b≠s.heap.objs.size:=Nat.ne_of_lt lb
     have b2:b≠(s.heap.push { cls:=.type "set",dict:=none,data:=.set #[] 0 (.fresh 0 0 (!byTx w)) }).objs.size:=by
      rw[Heap.size_push];exact Nat.ne_of_lt (Nat.lt_succ_of_lt lb)
     exact m.heap b o (by simp only[List.mem_cons,List.mem_singleton,List.not_mem_nil,or_false,not_or];exact ⟨b1,b2⟩) (Heap.get?_push_of_some _ (Heap.get?_push_of_some _ g))
   ·cases r2 with
    | error e=>exact hr2
    | ok fl2=>
     cases fl2 with
     | ret r=>
      obtain ⟨rfl,h',tk,rfl,S',kp⟩:=hr2
      repeat (any_goals first|assumption|wp_step)
      exact k _ _ S' kp
     | _=>exact hr2.elim
  | _=>exact hr.elim
end
theorem yap:Slot "set_iterator" "__next__" "set_iterator.__next__":=
 .of (owner:="set_iterator") (n:="__next__") (by rw[typeLookup_type,builtinLookup_eq_fast];kernel_rfl) (by decide +kernel) (by decide +kernel) (by decide +kernel) (by first|exact .inl (by decide +kernel)|exact .inr (by decide +kernel)) (by rw[isSubtype_type];kernel_rfl)
theorem qbl:entryFor table "set_iterator.__next__" = some Builtin.«set_iterator.__next__»:=entryFor_of_tree (by kernel_rfl)
theorem qbq (v:Value):argsOk "set_iterator.__next__" ⟨[v],[]⟩:=by unfold argsOk;kernel_rfl
theorem ygg:entryFor table "set.__iter__" = some Builtin.«frozenset.__iter__»:=
 entryFor_alias (id':="frozenset.__iter__") (by kernel_rfl) (by first|rfl|decide +kernel|(unfold String.splitOn;simp +decide [String.splitOnAux])) (by decide +kernel) (by kernel_rfl)
theorem yhp {M:Model}{A:Around}{E:Value→Shared→Prop}{s:Shared}{n:Nat}{Q:Nat→Shared→Prop} (hn:n≠0) (h:∀ i d,i<n→Q i { s with drawn:=d }):wpAny M A (choose .order n) Q E s:=
 fun Γ p hΓ=>⟨hn,h _ _ (Nat.mod_lt _ (Nat.pos_of_ne_zero hn))⟩
theorem qe1 {α:Type}:∀ (xs:List α) (i:Nat) (x:α),xs[i]?=some x→(x::xs.eraseIdx i).Perm xs
 | [],i,x,h=>by simp at h
 | a::xs,0,x,h=>by
  have e:a=x:=by simpa using h
  subst e
  exact List.Perm.refl _
 | a::xs,i+1,x,h=>by
  have ih:=qe1 xs i x (by simpa using h)
  show (x::a::xs.eraseIdx i).Perm (a::xs)
  exact (List.Perm.swap a x _).trans (ih.cons a)
theorem qe7 {α:Type}{M:Model}{A:Around}{E:Value→Shared→Prop}:∀ (n:Nat) (xs:List α) (s:Shared) (Q:List α→Shared→Prop),xs.length=n→(∀ ys d,ys.Perm xs→Q ys { s with drawn:=d })→wpAny M A (drawOrder n xs) Q E s
 | 0,xs,s,Q,hl,h=>by
  unfold drawOrder
  have e:xs=[]:=List.length_eq_zero_iff.mp hl
  subst e
  exact wpAny_pure (h [] s.drawn (List.Perm.refl _))
 | n+1,[],s,Q,hl,h=>by simp at hl
 | n+1,x::xs,s,Q,hl,h=>by
  unfold drawOrder
  refine wpAny_bind (yhp (by simp) fun i d hi=>?_)
  have hg:(x::xs)[i]?=some (x::xs)[i]:=List.getElem?_eq_getElem hi
  rw[hg]
  dsimp only
  refine wpAny_bind (qe7 n _ _ _ (by rw[List.length_eraseIdx];simp only[if_pos hi];omega) fun ys d' hp=>?_)
  exact wpAny_pure (h _ d' ((hp.cons _).trans (qe1 _ i _ hg)))
theorem ylv {α:Type} (f:Nat→Nat):∀ (n k:Nat) (xs:List α) (out:Array α),xs.length=n→∃ ys:List α,ys.Perm xs∧(pickOrder.go f n k xs out).toList=out.toList++ys
 | 0,k,xs,out,hl=>⟨[],by rw[List.length_eq_zero_iff.mp hl],by unfold pickOrder.go;simp⟩
 | n+1,k,xs,out,hl=>by
  have hlt:f k % xs.length<xs.length:=Nat.mod_lt _ (by omega)
  have hg:xs[f k % xs.length]?=some xs[f k % xs.length]:=List.getElem?_eq_getElem hlt
  unfold pickOrder.go
  rw[hg]
  dsimp only
  obtain ⟨ys,hp,e⟩:=ylv f n (k+1) (xs.eraseIdx (f k % xs.length)) (out.push xs[f k % xs.length]) (by rw[List.length_eraseIdx,if_pos hlt];omega)
  refine ⟨xs[f k % xs.length]::ys,(hp.cons _).trans (qe1 _ _ _ hg),?_⟩
  rw[e]
  simp
theorem qgl {α:Type} (f:Nat→Nat) (xs:Array α):(pickOrder f xs).toList.Perm xs.toList:=by
 obtain ⟨ys,hp,e⟩:=ylv f xs.size 0 xs.toList #[] (by simp)
 unfold pickOrder
 rw[e]
 simpa using hp
section
variable {P:Program}{w:World}{A:Around}{E:Value→Shared→Prop}{s:Shared}{a:Addr}{o:Obj}{es:Array (Int×Value)}{ep:Nat}{t:SetTable}
theorem qmd {Q:Option (Value×Nat)→Shared→Prop}{slot i:Nat} (hb:byTx w=true) (g:s.heap.get? a=some o) (gd:o.data=.set es ep t) (hf:t.fits es.size=true)
  (h:Q (((pickOrder (w.params.setOrder a ep) es).toList.map (·.2))[i]?.map fun v=>(v,slot)) s):wpAny (model P w) A (setNext a slot i ep) Q E s:=by
 unfold setNext
 refine wpAny_bind (wpAny_setState_of g gd hf ?_)
 dsimp only
 unfold setsByText
 refine wpAny_bind (wpAny_bind (wpAny_askSetting (wpAny_pure ?_)))
 have hb':w.params.followText "set-order" = true:=hb
 show wpAny _ _ (if w.params.followText "set-order" = true then _ else _) _ _ _
 rw[if_pos hb',if_neg (by simp)]
 unfold setWalk
 refine wpAny_bind (wpAny_bind (wpAny_setState_of g gd hf ?_))
 dsimp only
 unfold setsByText
 refine wpAny_bind (wpAny_bind (wpAny_askSetting (wpAny_pure ?_)))
 show wpAny _ _ (if w.params.followText "set-order" = true then _ else _) _ _ _
 rw[if_pos hb']
 refine wpAny_bind (wpAny_askSetting (wpAny_pure ?_))
 refine wpAny_pure ?_
 rw[List.getElem?_map,Array.getElem?_toList,Option.map_map] at h
 exact h
theorem next_led {Q:Option (Value×Nat)→Shared→Prop}{slot i:Nat} (hb:byTx w=false) (g:s.heap.get? a=some o) (gd:o.data=.set es ep t) (hf:t.fits es.size=true) (hl:t.led=true) (hp:t.plain=true∨es.size≤1)
  (h:Q (match es[SetTable.below t.place slot]?,t.place[SetTable.below t.place slot]? with|some (_,x),some j=>some (x,j+1)|_,_=>none) s):wpAny (model P w) A (setNext a slot i ep) Q E s:=by
 unfold setNext
 refine wpAny_bind (wpAny_setState_of g gd hf ?_)
 dsimp only
 unfold setsByText
 refine wpAny_bind (wpAny_bind (wpAny_askSetting (wpAny_pure ?_)))
 have hb':w.params.followText "set-order" = false:=hb
 show wpAny _ _ (if w.params.followText "set-order" = true then _ else _) _ _ _
 rw[if_neg (by rw[hb'];exact Bool.false_ne_true)]
 refine wpAny_ite_split (fun hd=>?_) fun _=>?_
 ·exfalso
  have hd':(!t.plain&&decide (es.size>1))=true:=hd
  rw[Bool.and_eq_true,decide_eq_true_eq] at hd'
  rcases hp with hp|hp
  ·rw[hp] at hd';exact absurd hd'.1 (by decide)
  ·omega
 ·refine wpAny_bind ?_
  refine wpAny_ite_split (fun hd=>?_) fun _=>?_
  ·exfalso
   have hd':(!t.led && !es.isEmpty)=true:=hd
   rw[hl] at hd'
   exact absurd hd' (by simp)
  ·exact wpAny_pure (wpAny_pure h)
end
theorem yde:Slot "set_iterator" "__iter__" "set_iterator.__iter__":=
 .of (owner:="set_iterator") (n:="__iter__") (by rw[typeLookup_type,builtinLookup_eq_fast];kernel_rfl) (by decide +kernel) (by decide +kernel) (by decide +kernel) (by first|exact .inl (by decide +kernel)|exact .inr (by decide +kernel)) (by rw[isSubtype_type];kernel_rfl)
theorem qfi:entryFor table "set_iterator.__iter__" = some Builtin.«dict_keyiterator.__iter__»:=
 entryFor_alias (id':="dict_keyiterator.__iter__") (by kernel_rfl) (by first|rfl|decide +kernel|(unfold String.splitOn;simp +decide [String.splitOnAux])) (by decide +kernel) (by kernel_rfl)
theorem ygc (v:Value):argsOk "set_iterator.__iter__" ⟨[v],[]⟩:=by unfold argsOk;kernel_rfl
def SI (h:Heap) (I:Addr) (f:Value) (i:Nat) (a:Addr) (n ep:Nat):Prop:=h.get? I=some { cls:=.type "set_iterator",dict:=none,data:=.fields #[f,rawInt i,.ref a,rawInt n,rawInt ep],slots:=#[] }
section
variable {P:Program}{w:World}{A:Around}{E:Value→Shared→Prop}{s:Shared}
theorem yh6 {I:Addr}{Q:Value→Shared→Prop} (hT:s.TypeIs (.ref I) "set_iterator") (h:Q (.ref I) s):wpAny (model P w) A (pyIter (.ref I)) Q E s:=by
 refine wpAny_pyIter_slot hT yde (wpAny_call_entry yde hT qfi ?_ (ygc _))
 show wpAny _ _ (ret (.ref I)) _ _ s
 exact wpAny_pure ⟨_,rfl,"set_iterator",_,hT,yap.lookup,h⟩
theorem ygy {Q:Fin→Shared→Prop} (hh:A.handled=none) (h:∀ h' e,(∀ b o,s.heap.get? b=some o→h'.get? b=some o)→(∃ o,h'.get? e=some o∧o.cls=.type "StopIteration")→E (.ref e) { s with heap:=h' }) :
  wpAny (model P w) A (newExc (.type "StopIteration") [] >>= fun e=>(raiseNew e:Sem Fin)) Q E s:=by
 refine wpAny_bind ?_
 simp only[newExc,newTuple]
 refine wpAny_bind (wpAny_newObj_type ?_ (by size_fits))
 refine wpAny_bind (m:=firstArgMember _ _) ?_
 refine wpAny_of_eq (a:=Value.none) (by first|rfl|(simp only[firstArgMember];rfl)) ?_
 refine wpAny_newObj_type ?_ (by size_fits)
 simp only[raiseNew]
 refine wpAny_bind (wpAny_handled ?_)
 rw[hh]
 refine wpAny_bind (wpAny_pure (wpAny_throw ?_))
 exact h _ _ (fun b o g=>Heap.get?_push_of_some _ (Heap.get?_push_of_some _ g)) ⟨_,Heap.get?_push_size _ rfl,rfl⟩
theorem qfp {h':Heap}{I:Addr} (k:∀ b o,b≠I→s.heap.get? b=some o→h'.get? b=some o):Moved [I] (fun x y=>y=x) s { s with heap:=h' }:=
 ⟨fun b o hb g=>k b o (fun z=>hb (by rw[z];exact List.mem_singleton.mpr rfl)) g,rfl,rfl,rfl,Nat.le_refl _⟩
theorem qk8 (hh:A.handled=none) {I a:Addr}{o:Obj}{es:Array (Int×Value)}{ep:Nat}{t:SetTable} (nI:a≠I) (gd:o.data=.set es ep t) (hf:t.fits es.size=true) (F:Nat→Nat) (vs:List Value) (hvs:vs.length=es.size)
  (hn:∀ (B:Around) (D:Value→Shared→Prop) (s:Shared) (i:Nat) (Q:Option (Value×Nat)→Shared→Prop),s.heap.get? a=some o→i≤es.size→Q (vs[i]?.map fun v=>(v,F (i+1))) s→wpAny (model P w) B (setNext a (F i) i ep) Q D s) :
  WalksS P w A I [I,a] [I] (fun x y=>y=x) es.size (fun i v=>vs[i]?=some v) (fun i s=>SI s.heap I (rawInt (F i)) i a es.size ep∧s.heap.get? a=some o) where
 sub:=fun b hb=>by rw[List.mem_singleton] at hb;rw[hb];exact List.mem_cons_self ..
 grefl:=fun _=>rfl
 gtrans:=fun _ _ _ h1 h2=>h2.trans h1
 frame:=fun i s h' tk st _ k=>⟨k I (by simp) _ st.1,k a (by simp) _ st.2⟩
 item:=fun i s Q E hi st hQ=>by
  obtain ⟨gI,ga⟩:=st
  have hT:s.TypeIs (.ref I) "set_iterator":=⟨_,gI,rfl⟩
  have hv:vs[i]?=some vs[i]:=List.getElem?_eq_getElem (by omega)
  unfold pyNext
  refine wpAny_bind (wpAny_attempt (wpAny_callSpecial?_slot (name:=Str.ofString "__next__") hT yap (wpAny_call_entry yap hT qbl ?_ (qbq _))))
  show wpAny _ _ (fieldsOf (.ref I) >>= _) _ _ s
  refine wpAny_bind (wpAny_fieldsOf gI rfl ?_)
  show wpAny _ _ (setEntries a >>= _) _ _ s
  refine wpAny_bind (wpAny_setEntries_of ga gd hf ?_)
  rw[if_neg (by simp)]
  show wpAny _ _ (setNext a (F i) i ep >>= _) _ _ s
  refine wpAny_bind (hn _ _ s i _ ga (by omega) ?_)
  rw[hv]
  show wpAny _ _ (setField (.ref I) 0 (rawInt (F (i+1))) >>= _) _ _ s
  refine wpAny_bind (wpAny_setField_rec gI (by simp) fun m1 g1 e1=>?_)
  refine wpAny_bind (wpAny_setField_rec g1 (by simp) fun m2 g2 e2=>?_)
  refine wpAny_pure ⟨_,rfl,wpAny_pure (hQ _ _ hv ⟨?_,?_⟩ (qfp fun b ob hb g=>(e2.extBut _ _ hb (e1.extBut _ _ hb g))))⟩
  ·exact g2
  ·exact e2.extBut _ _ nI (e1.extBut _ _ nI ga)
 done:=fun s Q E st hQ=>by
  obtain ⟨gI,ga⟩:=st
  have hT:s.TypeIs (.ref I) "set_iterator":=⟨_,gI,rfl⟩
  have hv:vs[es.size]?=none:=List.getElem?_eq_none (by omega)
  unfold pyNext
  refine wpAny_bind (wpAny_attempt (wpAny_callSpecial?_slot (name:=Str.ofString "__next__") hT yap (wpAny_call_entry yap hT qbl ?_ (qbq _))))
  show wpAny _ _ (fieldsOf (.ref I) >>= _) _ _ s
  refine wpAny_bind (wpAny_fieldsOf gI rfl ?_)
  show wpAny _ _ (setEntries a >>= _) _ _ s
  refine wpAny_bind (wpAny_setEntries_of ga gd hf ?_)
  rw[if_neg (by simp)]
  show wpAny _ _ (setNext a (F es.size) es.size ep >>= _) _ _ s
  refine wpAny_bind (hn _ _ s es.size _ ga (Nat.le_refl _) ?_)
  rw[hv]
  show wpAny _ _ (setField (.ref I) 2 Value.none >>= _) _ _ s
  refine wpAny_bind (wpAny_setField_rec gI (by simp) fun m1 g1 e1=>?_)
  refine ygy (by first|exact hh|simpa using hh) fun m2 e kp he=>?_
  obtain ⟨ob,go,gc⟩:=he
  refine wpAny_bind (wpAny_isInstance (T:="StopIteration") (b:=true) ⟨ob,go,gc⟩ isSubtype_stop ?_)
  exact wpAny_pure (hQ _ (qfp fun b ob hb g=>kp b ob (e1.extBut _ _ hb g)))
 self:=fun i s Q E st hQ=>by
  obtain ⟨gI,ga⟩:=st
  exact yh6 ⟨_,gI,rfl⟩ hQ
theorem qle (hh:A.handled=none) {I a T:Addr}{o:Obj}{es:Array (Int×Value)}{ep:Nat}{t:SetTable} (nI:a≠I) (nT:T≠I) (gd:o.data=.set es ep t) (hf:t.fits es.size=true) (ps:List Nat) (hps:ps.length=es.size) (hlt:∀ p∈ps,p<es.size) (vs:List Value) (hvs:vs=ps.map fun p=>(es.getD p (0,.none)).2) :
  WalksS P w A I [I,a,T] [I] (fun x y=>y=x) es.size (fun i v=>vs[i]?=some v) (fun i s=>SI s.heap I (.ref T) i a es.size ep∧s.heap.get? a=some o∧s.heap.get? T=some { cls:=.type "tuple",data:=.seq (ps.map fun (p:Nat)=>rawInt p).toArray }) where
 sub:=fun b hb=>by rw[List.mem_singleton] at hb;rw[hb];exact List.mem_cons_self ..
 grefl:=fun _=>rfl
 gtrans:=fun _ _ _ h1 h2=>h2.trans h1
 frame:=fun i s h' tk st _ k=>⟨k I (by simp) _ st.1,k a (by simp) _ st.2.1,k T (by simp) _ st.2.2⟩
 item:=fun i s Q E hi st hQ=>by
  obtain ⟨gI,ga,gT⟩:=st
  have hT:s.TypeIs (.ref I) "set_iterator":=⟨_,gI,rfl⟩
  have hp:ps[i]?=some ps[i]:=List.getElem?_eq_getElem (by omega)
  have hpl:ps[i]<es.size:=hlt _ (List.getElem_mem _)
  have he:es[ps[i]]?=some es[ps[i]]:=Array.getElem?_eq_getElem hpl
  have hv:vs[i]?=some (es[ps[i]]).2:=by
   rw[hvs,List.getElem?_map,hp,Option.map_some,Array.getD_eq_getD_getElem?,he]
   rfl
  have hpi:(ps.map fun (p:Nat)=>rawInt p).toArray[i]?=some (rawInt ps[i]):=by
   rw[List.getElem?_toArray,List.getElem?_map,hp];rfl
  unfold pyNext
  refine wpAny_bind (wpAny_attempt (wpAny_callSpecial?_slot (name:=Str.ofString "__next__") hT yap (wpAny_call_entry yap hT qbl ?_ (qbq _))))
  show wpAny _ _ (fieldsOf (.ref I) >>= _) _ _ s
  refine wpAny_bind (wpAny_fieldsOf gI rfl ?_)
  show wpAny _ _ (setEntries a >>= _) _ _ s
  refine wpAny_bind (wpAny_setEntries_of ga gd hf ?_)
  rw[if_neg (by simp)]
  show wpAny _ _ (seqItems? (.ref T) >>= _) _ _ s
  refine wpAny_bind (wpAny_seqItems gT rfl ?_)
  dsimp only
  rw[show ((i:Int)).toNat=i from rfl,hpi]
  show wpAny _ _ (setNextDrawn a ps[i] ep >>= _) _ _ s
  unfold setNextDrawn
  refine wpAny_bind (wpAny_bind (wpAny_setState_of ga gd hf ?_))
  dsimp only
  rw[if_neg (by simp),he]
  refine wpAny_pure ?_
  show wpAny _ _ (setField (.ref I) 1 (rawInt (i+1)) >>= _) _ _ s
  refine wpAny_bind (wpAny_setField_rec gI (by simp) fun m1 g1 e1=>?_)
  refine wpAny_pure ⟨_,rfl,wpAny_pure (hQ _ _ hv ⟨?_,?_,?_⟩ (qfp fun b ob hb g=>e1.extBut _ _ hb g))⟩
  ·exact g1
  ·exact e1.extBut _ _ nI ga
  ·exact e1.extBut _ _ nT gT
 done:=fun s Q E st hQ=>by
  obtain ⟨gI,ga,gT⟩:=st
  have hT:s.TypeIs (.ref I) "set_iterator":=⟨_,gI,rfl⟩
  have hpi:(ps.map fun (p:Nat)=>rawInt p).toArray[es.size]?=none:=by
   rw[List.getElem?_toArray];exact List.getElem?_eq_none (by rw[List.length_map];omega)
  unfold pyNext
  refine wpAny_bind (wpAny_attempt (wpAny_callSpecial?_slot (name:=Str.ofString "__next__") hT yap (wpAny_call_entry yap hT qbl ?_ (qbq _))))
  show wpAny _ _ (fieldsOf (.ref I) >>= _) _ _ s
  refine wpAny_bind (wpAny_fieldsOf gI rfl ?_)
  show wpAny _ _ (setEntries a >>= _) _ _ s
  refine wpAny_bind (wpAny_setEntries_of ga gd hf ?_)
  rw[if_neg (by simp)]
  show wpAny _ _ (seqItems? (.ref T) >>= _) _ _ s
  refine wpAny_bind (wpAny_seqItems gT rfl ?_)
  dsimp only
  rw[show ((es.size:Int)).toNat=es.size from rfl,hpi]
  show wpAny _ _ (setField (.ref I) 0 (rawInt 0) >>= _) _ _ s
  refine wpAny_bind (wpAny_setField_rec gI (by simp) fun m0 g0 e0=>?_)
  refine wpAny_bind (wpAny_setField_rec g0 (by simp) fun m1 g1 e1=>?_)
  refine ygy (by first|exact hh|simpa using hh) fun m2 e kp he=>?_
  obtain ⟨ob,go,gc⟩:=he
  refine wpAny_bind (wpAny_isInstance (T:="StopIteration") (b:=true) ⟨ob,go,gc⟩ isSubtype_stop ?_)
  exact wpAny_pure (hQ _ (qfp fun b ob hb g=>kp b ob (e1.extBut _ _ hb (e0.extBut _ _ hb g))))
 self:=fun i s Q E st hQ=>by
  obtain ⟨gI,ga,gT⟩:=st
  exact yh6 ⟨_,gI,rfl⟩ hQ
end
theorem qk0 {t:SetTable}{n:Nat} (h:t.fits n=true):t.place.size=n:=by
 unfold SetTable.fits at h
 rw[Bool.and_eq_true,beq_iff_eq] at h
 exact h.1
def yjj (t:SetTable) (i:Nat):Nat:=if i=0 then 0 else t.place.getD (i-1) 0+1
theorem qif {t:SetTable} (hs:Srt t.place) {i:Nat} (hi:i≤t.place.size):SetTable.below t.place (yjj t i)=i:=by
 by_cases h0:i=0
 ·subst h0
  exact qj0 hs (Nat.zero_le _) (fun k x hk=>absurd hk (Nat.not_lt_zero _)) fun k x _ _=>Nat.zero_le _
 ·have hlt:i-1<t.place.size:=by omega
  have hg:t.place[i-1]?=some (t.place.getD (i-1) 0):=by
   rw[Array.getD_eq_getD_getElem?,Array.getElem?_eq_getElem hlt];rfl
  have e:yjj t i=t.place.getD (i-1) 0+1:=by unfold yjj;rw[if_neg h0]
  rw[e]
  refine qj0 hs hi (fun k x hk hx=>?_) fun k x hk hx=>?_
  ·by_cases hk2:k=i-1
   ·subst hk2;rw[hg] at hx;cases hx;omega
   ·have:=hs k (i-1) x _ (by omega) hx hg;omega
  ·have:=hs (i-1) k _ x (by omega) hg hx;omega
section
variable {P:Program}{w:World}{A:Around}{E:Value→Shared→Prop}{s:Shared}{a:Addr}{ks:List Int}
def WalkOf (P:Program) (w:World) (s:Shared) (a:Addr) (ks:List Int) (I:Addr) (h':Heap) (d:Drawn):Prop:=
 ∃ (n:Nat) (fp:List Addr) (vs:List Value) (ns:List Int) (St:Nat→Shared→Prop),n=ks.length∧(∀ B:Around,B.handled=none→WalksS P w B I fp [I] (fun x y=>y=x) n (fun i v=>vs[i]?=some v) St)∧St 0 { s with heap:=h',drawn:=d }∧
  s.heap.objs.size≤I∧(∀ b∈fp,b=a∨s.heap.objs.size≤b)∧(∀ b o,s.heap.get? b=some o→h'.get? b=some o)∧IntsAre vs ns∧ns.Perm ks
theorem iterL {Q:Value→Shared→Prop} (hS:SetL P w s.heap a ks) (k:∀ I h' d,WalkOf P w s a ks I h' d→Q (.ref I) { s with heap:=h',drawn:=d }):wpAny (model P w) A (pyIter (.ref a)) Q E s:=by
 obtain ⟨o,es,ep,t,g,gx,gd,el,⟨ns,hi,hp⟩,hb,hf,ht,hl⟩:=hS
 have hT:s.TypeIs (.ref a) "set":=⟨o,g,gx.1⟩
 have hlen:es.size=ks.length:=by
  have h1:=IntsAre.length hi
  rw[List.length_map,Array.length_toList] at h1
  rw[h1,hp.length_eq]
 have hpl:t.place.size=es.size:=qk0 hf
 have ha:a<s.heap.objs.size:=Heap.lt_size g
 refine wpAny_pyIter_slot hT F.slot_set_iter (wpAny_call_entry F.slot_set_iter hT ygg ?_ (F.args_set_iter_1 _))
 show wpAny _ _ (Builtin.Frozenset.sizeOf a >>= _) _ _ s
 refine wpAny_bind ?_
 unfold Builtin.Frozenset.sizeOf
 refine wpAny_bind (wpAny_setEntries_of g gd hf ?_)
 refine wpAny_pure ?_
 refine wpAny_bind ?_
 refine wpAny_bind ?_
 refine wpAny_setState_of g gd hf ?_
 dsimp only
 unfold setsByText
 refine wpAny_bind (wpAny_bind (wpAny_askSetting (wpAny_pure ?_)))
 refine wpAny_pure ?_
 dsimp only
 refine wpAny_ite_split (fun hd=>?_) fun hd=>?_
 ·refine wpAny_bind (qe7 es.size (List.range es.size) s _ (by simp) fun ps d pp=>?_)
  have hpsl:ps.length=es.size:=by rw[pp.length_eq,List.length_range]
  refine wpAny_bind (wpAny_newTuple ?_ (by rw[List.length_map,hpsl];exact fits_of_scanBound hb))
  have gT:(s.heap.push { cls:=.type "tuple",data:=.seq (ps.map fun (p:Nat)=>rawInt p).toArray }).get? s.heap.objs.size=some { cls:=.type "tuple",data:=.seq (ps.map fun (p:Nat)=>rawInt p).toArray }:=Heap.get?_push_size _ rfl
  have ga:(s.heap.push { cls:=.type "tuple",data:=.seq (ps.map fun (p:Nat)=>rawInt p).toArray }).get? a=some o:=Heap.get?_push_of_some _ g
  refine wpAny_bind (wpAny_setEpoch_of (s:={ s with heap:=s.heap.push { cls:=.type "tuple",data:=.seq (ps.map fun (p:Nat)=>rawInt p).toArray },drawn:=d }) ga gd hf ?_)
  refine wpAny_bind (wpAny_newObj_type ?_ (by size_fits))
  have z1:(s.heap.push { cls:=.type "tuple",data:=.seq (ps.map fun (p:Nat)=>rawInt p).toArray }).objs.size=s.heap.objs.size+1:=Heap.size_push ..
  have hvp:(ps.map fun p=>(es.getD p (0,.none)).2).Perm (es.toList.map (·.2)):=by
   refine (pp.map _).trans (List.Perm.of_eq ?_)
   refine List.ext_getElem (by simp) fun i h1 h2=>?_
   have hi:i<es.size:=by simpa using h2
   rw[List.getElem_map,List.getElem_map,List.getElem_range,Array.getElem_toList]
   show (es.getD i (0,.none)).2=(es[i]).2
   rw[Array.getD_eq_getD_getElem?,Array.getElem?_eq_getElem hi]
   rfl
  obtain ⟨n2,i2,p2⟩:=yen hvp hi
  have nI:a≠(s.heap.push { cls:=.type "tuple",data:=.seq (ps.map fun (p:Nat)=>rawInt p).toArray }).objs.size:=by rw[z1];exact neN (.inl (Nat.lt_succ_of_lt ha))
  have nT:s.heap.objs.size≠(s.heap.push { cls:=.type "tuple",data:=.seq (ps.map fun (p:Nat)=>rawInt p).toArray }).objs.size:=by rw[z1];exact neN (.inl (Nat.lt_succ_self _))
  refine wpAny_pure ⟨_,rfl,"set_iterator",_,⟨_,Heap.get?_push_size _ rfl,rfl⟩,yap.lookup,k _ _ d ?_⟩
  refine ⟨es.size,_,_,n2,_,hlen,fun B hB=>qle hB nI nT gd hf ps hpsl (fun p hp=>List.mem_range.mp (pp.mem_iff.mp hp)) _ rfl,⟨Heap.get?_push_size _ rfl,Heap.get?_push_of_some _ ga,Heap.get?_push_of_some _ gT⟩,by rw[z1];exact Nat.le_succ _,fun b hb=>?_,fun b ob gb=>Heap.get?_push_of_some _ (Heap.get?_push_of_some _ gb),i2,p2.trans hp⟩
  have hb':b=(s.heap.push { cls:=.type "tuple",data:=.seq (ps.map fun (p:Nat)=>rawInt p).toArray }).objs.size∨b=a∨b=s.heap.objs.size:=by simpa using hb
  rcases hb' with rfl|rfl|rfl
  ·exact .inr (by rw[z1];exact Nat.le_succ _)
  ·exact .inl rfl
  ·exact .inr (Nat.le_refl _)
 ·refine wpAny_bind (wpAny_pure ?_)
  refine wpAny_bind (wpAny_setEpoch_of g gd hf ?_)
  refine wpAny_bind (wpAny_newObj_type ?_ (by size_fits))
  have nI:a≠s.heap.objs.size:=neN (.inl ha)
  have es0:s={ s with drawn:=s.drawn }:=by cases s;rfl
  have fpk:∀ b∈[s.heap.objs.size,a],b=a∨s.heap.objs.size≤b:=fun b hb=>by
   have hb':b=s.heap.objs.size∨b=a:=by simpa using hb
   rcases hb' with rfl|rfl
   ·exact .inr (Nat.le_refl _)
   ·exact .inl rfl
  refine wpAny_pure ⟨_,rfl,"set_iterator",_,⟨_,Heap.get?_push_size _ rfl,rfl⟩,yap.lookup,?_⟩
  have key:WalkOf P w s a ks s.heap.objs.size (s.heap.push { cls:=.type "set_iterator",data:=.fields #[rawInt 0,rawInt 0,.ref a,rawInt es.size,rawInt ep] }) s.drawn:=by
   by_cases hbt:byTx w=true
   ·have hvp:((pickOrder (w.params.setOrder a ep) es).toList.map (·.2)).Perm (es.toList.map (·.2)):=(qgl _ es).map _
    obtain ⟨n2,i2,p2⟩:=yen hvp hi
    refine ⟨es.size,_,(pickOrder (w.params.setOrder a ep) es).toList.map (·.2),n2,_,hlen,fun B hB=>qk8 hB nI gd hf (fun _=>0) _ (by rw[hvp.length_eq,List.length_map,Array.length_toList]) fun C D s i Q g1 hi1 q=>qmd hbt g1 gd hf q,⟨Heap.get?_push_size _ rfl,Heap.get?_push_of_some _ g⟩,Nat.le_refl _,fpk,fun b ob gb=>Heap.get?_push_of_some _ gb,i2,p2.trans hp⟩
   ·have hbf:byTx w=false:=eq_false_of_ne_true hbt
    have hled:t.led=true:=hl.resolve_left hbt
    have hpz:t.plain=true∨es.size≤1:=by
     have hd':¬ ((!byTx w&&(!t.plain&&decide (es.size>1)))=true):=hd
     rw[hbf] at hd'
     cases hq:t.plain with
     | true=>exact .inl rfl
     | false=>
      right
      rw[hq] at hd'
      simpa using hd'
    refine ⟨es.size,_,es.toList.map (·.2),ns,_,hlen,fun B hB=>qk8 hB nI gd hf (yjj t) _ (by rw[List.length_map,Array.length_toList]) fun C D s i Q g1 hi1 q=>next_led hbf g1 gd hf hled hpz ?_,⟨Heap.get?_push_size _ rfl,Heap.get?_push_of_some _ g⟩,Nat.le_refl _,fpk,fun b ob gb=>Heap.get?_push_of_some _ gb,hi,hp⟩
    rw[qif ht.1 (by omega)]
    by_cases hlt:i<es.size
    ·have e1:es[i]?=some es[i]:=Array.getElem?_eq_getElem hlt
     have e2:t.place[i]?=some (t.place.getD i 0):=by
      rw[Array.getD_eq_getD_getElem?,Array.getElem?_eq_getElem (by omega)];rfl
     rw[List.getElem?_map,Array.getElem?_toList,e1] at q
     rw[e1,e2]
     exact q
    ·have e1:es[i]?=none:=Array.getElem?_eq_none (by omega)
     rw[List.getElem?_map,Array.getElem?_toList,e1] at q
     rw[e1]
     exact q
  have z:=k _ _ _ key
  exact z
end
theorem len_set:typeLookup (.type "set") "__len__" = pure (some (.builtin "set.__len__")):=by rw[typeLookup_type,builtinLookup_eq_fast];kernel_rfl
section
variable {P:Program}{w:World}{A:Around}{E:Value→Shared→Prop}{s:Shared}{a:Addr}{ks:List Int}
theorem collectL {Q:List Value→Shared→Prop} (hh:A.handled=none) (hS:SetL P w s.heap a ks) (hz:ks.length≤4000)
  (k:∀ vs ns h' d tk,IntsAre vs ns→ns.Perm ks→s.heap.objs.size<h'.objs.size→(∀ b o,s.heap.get? b=some o→h'.get? b=some o)→Q vs { s with heap:=h',drawn:=d,toks:=tk }):wpAny (model P w) A (collect (.ref a)) Q E s:=by
 have hT:s.TypeIs (.ref a) "set":=by
  obtain ⟨o,es,ep,t,g,gx,_⟩:=hS
  exact ⟨o,g,gx.1⟩
 have ha:a<s.heap.objs.size:=by
  obtain ⟨o,es,ep,t,g,gx,_⟩:=hS
  exact Heap.lt_size g
 unfold collect
 refine wpAny_bind (wpAny_runValue (codeAny_builtin F.entry_proto_collect ?_))
 rw[Around.under_plainId F.plain_proto_collect _]
 show wpAny _ A.in1 (newList [] >>= fun l=>again (.builtin "list.__iadd__" ⟨[l,.ref a],[]⟩)) _ _ s
 refine wpAny_bind (wpAny_newObj_type ?_)
 refine wpAny_pure ⟨plainId_quiet F.plain_list_iadd _,?_⟩
 refine codeAny_builtin F.entry_list_iadd ?_
 rw[Around.under_plainId F.plain_list_iadd _]
 show wpAny _ A.in1 (Builtin.List.listExtendWith (.ref s.heap.objs.size) (.ref a) (.ref s.heap.objs.size)) _ _ _
 generalize hH:s.heap.push { cls:=.type "list",data:=.seq ([]:List Value).toArray }=H1
 have g0:H1.get? s.heap.objs.size=some { cls:=.type "list",data:=.seq ([]:List Value).toArray }:=by rw[← hH];exact Heap.get?_push_size _ rfl
 have z1:H1.objs.size=s.heap.objs.size+1:=by rw[← hH];exact Heap.size_push ..
 have kp1:∀ b o,s.heap.get? b=some o→H1.get? b=some o:=fun b o g=>by rw[← hH];exact Heap.get?_push_of_some _ g
 have hS1:SetL P w H1 a ks:=hS.at fun o g=>kp1 a o g
 have hT1:Shared.TypeIs { s with heap:=H1 } (.ref a) "set":=by
  obtain ⟨o,es,ep,t,g,gx,_⟩:=hS1
  exact ⟨o,g,gx.1⟩
 unfold Builtin.List.listExtendWith
 refine wpAny_bind (wpAny_typeOf hT1 ?_)
 have n1:Builtin.List.listSameRef (.ref s.heap.objs.size) (.ref a)=false:=by
  have:s.heap.objs.size≠a:=neN (.inr ha)
  simp[Builtin.List.listSameRef,this]
 rw[if_neg (by rw[n1];decide)]
 refine wpAny_bind (iterL (s:={ s with heap:=H1 }) hS1 fun I h' d W=>?_)
 refine wpAny_bind (wpAny_holding ?_)
 have hT2:Shared.TypeIs { s with heap:=h',drawn:=d } (.ref a) "set":=by
  obtain ⟨n,fp,vs,ns,St,e,W1,st,lI,fpk,kp,i2,p2⟩:=W
  obtain ⟨o,g,c⟩:=hT1
  exact ⟨o,kp _ _ g,c⟩
 unfold Builtin.List.listLengthHint
 refine wpAny_bind (wpAny_specialOf hT2 len_set ?_)
 wp_delta
 refine wpAny_bind (wpAny_isInstance (T:="set") (b:=true) hT2 (by rw[isSubtype_type];kernel_rfl) ?_)
 show wpAny _ A.in1 (typeOf (Value.ref a) >>= _) _ _ _
 refine wpAny_bind (wpAny_typeOf hT2 ?_)
 refine wpAny_pure ?_
 rw[if_pos (by decide)]
 refine wpAny_bind (wpAny_rule ?_)
 obtain ⟨n,fp,vs,ns,St,en,W1,st,lI,fpk,kp,i2,p2⟩:=W
 have lI':s.heap.objs.size+1≤I:=by rw[← z1];exact lI
 have hd:s.heap.objs.size∉fp:=fun hm=>by
  rcases fpk _ hm with z|z
  ·exact absurd ha (by rw[← z];exact Nat.lt_irrefl _)
  ·have z':s.heap.objs.size+1≤s.heap.objs.size:=by rw[← z1];exact z
   exact absurd z' (Nat.not_succ_le_self _)
 have gS:h'.get? s.heap.objs.size=some { cls:=.type "list",data:=.seq ([]:List Value).toArray }:=kp _ _ g0
 refine wpAny_bind ?_
 show wpAny _ _ (updateSeq s.heap.objs.size (·.push .none) >>= fun _=>updateSeq s.heap.objs.size (·.pop)) _ _ _
 refine wpAny_bind (wpAny_updateSeq gS rfl ?_ (by simp) (by simp))
 have gS1:=Heap.get?_update_self (Obj.mapSeq (·.push Value.none)) gS rfl
 refine wpAny_updateSeq gS1 rfl ?_ (by simp;decide) (by simp)
 have gS2:=Heap.get?_update_self (Obj.mapSeq (·.pop)) gS1 rfl
 have oth:∀ b o,b≠s.heap.objs.size→h'.get? b=some o→((h'.update s.heap.objs.size (Obj.mapSeq (·.push Value.none))).update s.heap.objs.size (Obj.mapSeq (·.pop))).get? b=some o:=fun b o hb g=>by
  rw[Heap.get?_update_other _ _ (Ne.symm hb),Heap.get?_update_other _ _ (Ne.symm hb)]
  exact g
 have st2:=(W1 A.in1 (by simpa using hh)).frame 0 _ ((h'.update s.heap.objs.size (Obj.mapSeq (·.push Value.none))).update s.heap.objs.size (Obj.mapSeq (·.pop))) s.toks st (Nat.le_refl _) fun b hb o g=>oth b o (fun z=>hd (z ▸ hb)) g
 have hvl:n≤sizeLine:=by rw[en];exact qf3 (by omega)
 refine wpAny_pure ⟨plainId_quiet F.plain_extend_loop _,?_⟩
 refine codeAny_extend_loopS (W1 A.in1 (by simpa using hh)) hvl _ hd _ n 0 _ _ _ rfl (Nat.zero_le _) st2 gS2 ⟨rfl,fun j v z=>by simp at z⟩ fun s2 acc c m g2 it=>?_
 show wpAny _ A (load s.heap.objs.size >>= _) _ _ s2
 refine wpAny_bind (wpAny_load g2 ?_)
 have ev:acc.toList=vs:=by
  have hl:acc.size=n:=it.1
  have hvn:vs.length=n:=by
   have h1:=IntsAre.length i2
   rw[h1,p2.length_eq,en]
  refine List.ext_getElem? fun j=>?_
  cases hj:acc.toList[j]? with
  | none=>
   have:=List.getElem?_eq_none_iff.mp hj
   rw[Array.length_toList] at this
   rw[List.getElem?_eq_none (by omega)]
  | some v=>exact (it.2 j v (by rw[← Array.getElem?_toList];exact hj)).symm
 obtain ⟨h2,g',d2,tk,os⟩:=s2
 have eg:g'=s.gens:=m.gens
 have ed:d2=d:=m.drawn
 have eo:os=s.os:=m.os
 subst eg
 subst ed
 subst eo
 refine wpAny_pure ?_
 show Q acc.toList _
 rw[ev]
 refine k vs ns h2 d2 tk i2 p2 (Heap.lt_size g2) fun b o g=>?_
 have hb:b<s.heap.objs.size:=Heap.lt_size g
 refine m.heap b o (fun z=>?_) (oth b o (neN (.inl hb)) (kp b o (kp1 b o g)))
 have z':b=s.heap.objs.size∨b=I:=by simpa using z
 rcases z' with z|z
 ·exact absurd hb (by rw[z];exact Nat.lt_irrefl _)
 ·exact absurd (Nat.lt_of_lt_of_le hb (Nat.le_of_succ_le lI')) (by rw[z];exact Nat.lt_irrefl _)
end
theorem qgx (f:Nat→Int) (k:Int):∀ n,k∈ya2 f n↔∃ i,i<n∧f i=k
 | 0=>by
  unfold ya2
  constructor
  ·intro h;simp at h
  ·rintro ⟨i,h,_⟩;omega
 | n+1=>by
  have ih:=qgx f k n
  have e:k∈ya2 f (n+1)↔k∈ya2 f n∨k=f n:=by
   show k∈(if f n∈ya2 f n then ya2 f n else ya2 f n++[f n])↔_
   split
   ·rename_i h
    exact ⟨.inl,fun z=>z.elim id fun z=>z ▸ h⟩
   ·rw[List.mem_append,List.mem_singleton]
  rw[e,ih]
  constructor
  ·rintro (⟨i,h,z⟩|z)
   ·exact ⟨i,by omega,z⟩
   ·exact ⟨n,by omega,z.symm⟩
  ·rintro ⟨i,h,z⟩
   by_cases hi:i=n
   ·subst hi;exact .inr z.symm
   ·exact .inl ⟨i,by omega,z⟩
theorem qfe (f:Nat→Int):∀ n,(ya2 f n).Nodup
 | 0=>List.nodup_nil
 | n+1=>by
  have ih:=qfe f n
  show (if f n∈ya2 f n then ya2 f n else ya2 f n++[f n]).Nodup
  split
  ·exact ih
  ·rename_i h
   rw[List.nodup_append]
   exact ⟨ih,by simp,fun x hx y hy z=>h (by rw[← List.mem_singleton.mp hy,← z];exact hx)⟩
def uniq (ns:List Int):List Int:=ya2 (fun i=>ns.getD i 0) ns.length
theorem qfl (ns:List Int) (k:Int):k∈uniq ns↔k∈ns:=by
 unfold uniq
 rw[qgx]
 constructor
 ·rintro ⟨i,h,z⟩
  rw[List.getD_eq_getElem?_getD,List.getElem?_eq_getElem h] at z
  rw[← z]
  exact List.getElem_mem h
 ·intro h
  obtain ⟨i,hi,e⟩:=List.getElem_of_mem h
  exact ⟨i,hi,by rw[List.getD_eq_getElem?_getD,List.getElem?_eq_getElem hi,e];rfl⟩
theorem yg0 (ns:List Int):(uniq ns).Nodup:=qfe _ _
def SetO (P:Program) (w:World) (a:Addr) (ks:List Int):HO:=.ext fun h=>SetL P w h a ks
section
variable {P:Program}{w:World}{A:Around}{E:Value→Shared→Prop}{s:Shared}{a:Addr}{ks:List Int}
theorem sortedL {Q:Value→Shared→Prop} (hh:A.handled=none) (hS:SetL P w s.heap a ks) (h64:ks.length<64)
  (k:∀ l h' d tk vs ns e,s.heap.objs.size≤l→h'.get? l=some (seqObj "list" (List.toArray vs) e)→IntsAre vs ns→ns.Perm ks→ns.Pairwise (·≤·)→(∀ b o,s.heap.get? b=some o→h'.get? b=some o)→Q (.ref l) { s with heap:=h',drawn:=d,toks:=tk }) :
  wpAny (model P w) A (call (.builtin "sorted") [.ref a]) Q E s:=by
 refine Calls.call_function_entry kind_sorted plain_sorted entry_sorted (args_sorted1 (.ref a)) ?_
 unfold Builtin.«sorted»
 refine wpAny_bind (m:=checkCount "sorted" 1 1 _) ?_
 refine wpAny_pure ?_
 refine wpAny_bind (collectL (by simpa using hh) hS (by omega) fun vs ns h1 d tk i1 p1 hz kp=>?_)
 have hvl:vs.length=ks.length:=by
  have h1:=IntsAre.length i1
  rw[h1,p1.length_eq]
 refine wpAny_bind (wpAny_newList ?_ (qf3 (by omega)))
 have gL:(h1.push (seqObj "list" vs.toArray 0)).get? h1.objs.size=some (seqObj "list" vs.toArray 0):=Heap.get?_push_size _ rfl
 refine wpAny_bind (wpAny_holding (wpAny_call_entry slot_list_sort ⟨_,gL,rfl⟩ entry_list_sort (list_sort_tree gL i1 (by omega) fun out n2 a1 a2 a3=>⟨_,rfl,?_⟩) (args_list_sort _)))
 obtain ⟨ep,ge⟩:=sortedHeap_at (out:=out) gL
 refine wpAny_pure ⟨_,rfl,k _ _ d tk out.toList n2 ep (Nat.le_of_lt hz) (by simpa using ge) a1 (a2.trans p1) a3 fun b o g=>?_⟩
 have hb:b<h1.objs.size:=Heap.lt_size (kp b o g)
 rw[sortedHeap_old (Nat.ne_of_lt hb) (by rw[show (h1.push (seqObj "list" vs.toArray 0)).objs.size=h1.objs.size+1 from Heap.size_push ..];exact Nat.lt_succ_of_lt hb)]
 exact Heap.get?_push_of_some _ (kp b o g)
end
section
variable {X:Cx}{pins:List (Addr×Obj)}{σ:St}{H:Hp}{s:Shared}
theorem Inv.draw (I:Inv X pins σ H s) (d:Drawn):Inv X pins σ H { s with drawn:=d }:=⟨I.ok,I.os,I.bare,I.base,I.loc,I.cell,I.free,I.freeC,I.pin,I.hok,I.len⟩
def rSet (P:Program) (w:World):List V→Hp→VK→Prop:=fun xs H Q=>∃ (l:Addr) (ns:List Int),xs=[.ref l]∧H l=some (.lst (ns.map V.int))∧ns.length≤4000∧∀ p,H p=none→Q (.ref p) (upd H p (SetO P w p (uniq ns)))
theorem yfw (hc:X.calm=true):yda X (.type "set") (rSet X.prog X.w):=by
 intro pins s σ H xs us Q I r h
 obtain ⟨l,ns,rfl,hH,h4,q⟩:=h
 cases r with
 | cons r rr=>
  cases rr
  cases r
  obtain ⟨z,its,n,rv,hl,e⟩:=I.lstM hH
  have hil:its.length=ns.length:=by rw[← hl,List.length_map]
  have hf:H s.heap.objs.size=none:=I.hok.fresh (Nat.le_refl _)
  refine qlr (by simpa using I.ok.hd hc) (its:=its.toArray) (ns:=ns) ⟨_,e,rfl,n,rfl⟩ (by simpa using qev rv) (by rw[List.size_toArray,hil];unfold scanBound;omega) fun h' tk S kp=>?_
  have ez:its.toArray.size=ns.length:=by rw[List.size_toArray,hil]
  rw[ez] at S
  refine ⟨.ref s.heap.objs.size,_,I.laid (o:=SetO X.prog X.w s.heap.objs.size (uniq ns)) (t':=tk) (fun b o g=>kp b o (Heap.lt_size g) g) (Nat.le_refl _) ?_,rfl,q _ hf⟩
  refine ⟨S,?_,fun h1 h2 x y=>SetL.at x y⟩
  obtain ⟨o,es,ep,t,g,_⟩:=S
  exact ⟨o,g⟩
def rLenSet (P:Program) (w:World):List V→Hp→VK→Prop:=fun xs H Q=>∃ (p:Addr) (ks:List Int),xs=[.ref p]∧H p=some (SetO P w p ks)∧Q (.int ks.length) H
theorem yfr:yda X (.builtin "len") (rLenSet X.prog X.w):=by
 intro pins s σ H xs us Q I r h
 obtain ⟨p,ks,rfl,hH,q⟩:=h
 cases r with
 | cons r rr=>
  cases rr
  cases r
  obtain ⟨⟨o,es,ep,t,g,gx,gd,el,⟨ns,hi,hp⟩,hb,hf,ht,hl⟩,_⟩:=I.hok p _ hH
  have hlen:es.size=ks.length:=by
   have h1:=IntsAre.length hi
   rw[List.length_map,Array.length_toList] at h1
   rw[h1,hp.length_eq]
  refine call_len_set g gx gd hf (by unfold scanBound at hb;omega) ?_
  rw[hlen]
  exact ⟨.int ks.length,H,I.tok _,⟨_,rfl⟩,q⟩
def rSortSet (P:Program) (w:World):List V→Hp→VK→Prop:=fun xs H Q=>∃ (p:Addr) (ks:List Int),xs=[.ref p]∧H p=some (SetO P w p ks)∧ks.length<64∧∀ (l:Addr) (ns:List Int),H l=none→ns.Perm ks→ns.Pairwise (·≤·)→Q (.ref l) (upd H l (.lst (ns.map V.int)))
theorem yip (hc:X.calm=true):yda X (.builtin "sorted") (rSortSet X.prog X.w):=by
 intro pins s σ H xs us Q I r h
 obtain ⟨p,ks,rfl,hH,h64,q⟩:=h
 cases r with
 | cons r rr=>
  cases rr
  cases r
  obtain ⟨S,_⟩:=I.hok p _ hH
  refine sortedL (by simpa using I.ok.hd hc) S h64 fun l h' d tk vs ns e hz gl i1 p1 w1 kp=>?_
  have hf:H l=none:=I.hok.fresh hz
  refine ⟨.ref l,_,(I.draw d).laid (o:=.lst (ns.map V.int)) (t':=tk) (fun b o g=>kp b o g) hz ?_,rfl,q l ns hf p1 w1⟩
  exact ⟨qf3 (by rw[List.length_map,p1.length_eq];omega),vs,e,yhw i1,gl⟩
end
theorem qf7:bootBuiltins "set" = some (.type "set"):=by decide +kernel
theorem yhd {K:PySem.W.Frag}{t1 t2:Bool}{l1 l2:Addr}{xs ys:List V}{g:TG}{tt:TT}{te:TE}{ix:List (Option Nat)}{σ:St}{H:Hp}{QD:Hp→Prop}{D:Addr} (hlen:xs.length=ys.length) (Pv:Nat→Hp→Prop) (h0:Pv 0 (upd H D (.lst [])))
  (hl:∀ i H',Pv i H'→Sq K t1 H' l1 xs∧Sq K t2 H' l2 ys) (stop:∀ H',Pv xs.length H'→QD H')
  (step:∀ i x y p H',xs[i]?=some x→ys[i]?=some y→Pv i H'→H' p=none→g (.ref p) (capS ix σ) (upd H' p (.tup [x,y])) fun σ2 H3=>yau (capS ix σ) σ2∧tt σ2 H3 fun b H4=>
   if b=true then te σ2 H4 fun v H5=>∃ zs,H5 D=some (.lst zs)∧zs.length<sizeLine∧Pv (i+1) (upd H5 D (.lst (zs++[v]))) else Pv (i+1) H4) :
  ∃ W:Nat→Nat→Hp→Prop,(∃ m,W 0 m (upd H D (.lst [])))∧∀ i m H,W i m H→
   ((Itz K t1 t2 l1 l2).stop i H∧QD H)∨((Itz K t1 t2 l1 l2).go i H∧∃ N:Hp→Prop,(∀ H',N H'→∃ m',m' < m∧W (i+1) m' H')∧∀ x H',(Itz K t1 t2 l1 l2).yld i H x H'→g x (capS ix σ) H' fun σ2 H2=>yau (capS ix σ) σ2∧tt σ2 H2 fun b H3=>
    if b=true then te σ2 H3 fun v H4=>∃ zs,H4 D=some (.lst zs)∧zs.length<sizeLine∧N (upd H4 D (.lst (zs++[v]))) else N H3):=by
 refine qba (n:=xs.length) Pv h0 (fun H' p=>⟨?_,stop H' p⟩) fun i H' hi p=>⟨?_,?_⟩
 ·obtain ⟨q1,q2⟩:=hl _ H' p
  exact ⟨xs,ys,q1,q2,.inl (by simp)⟩
 ·obtain ⟨q1,q2⟩:=hl _ H' p
  exact ⟨xs,ys,_,_,q1,q2,List.getElem?_eq_getElem hi,List.getElem?_eq_getElem (by omega)⟩
 ·rintro x H2 ⟨pp,u,v,hp,rfl,rfl,hu⟩
  obtain ⟨q1,q2⟩:=hl _ H' p
  obtain ⟨h1,h2⟩:=hu xs ys q1 q2
  exact step i u v pp H' h1 h2 p hp
section
variable {X:Cx}
def rMinL:List V→Hp→VK→Prop:=fun xs H Q=>∃ (l:Addr) (ns:List Int),xs=[.ref l]∧H l=some (.lst (ns.map V.int))∧0<ns.length∧∀ M,M∈ns→(∀ a∈ns,M≤a)→Q (.int M) H
def rMaxL:List V→Hp→VK→Prop:=fun xs H Q=>∃ (l:Addr) (ns:List Int),xs=[.ref l]∧H l=some (.lst (ns.map V.int))∧0<ns.length∧∀ M,M∈ns→(∀ a∈ns,a≤M)→Q (.int M) H
theorem qii (hc:X.calm=true):yda X (.builtin "min") rMinL:=by
 intro pins s σ H xs us Q I r h
 obtain ⟨l,ns,rfl,hH,hne,q⟩:=h
 cases r with
 | cons r rr=>
  cases rr
  cases r
  obtain ⟨z,its,n,rv,hl,e⟩:=I.lstM hH
  have hi:IntsAre its ns:=qev rv
  obtain ⟨ys,e2⟩:=hi.allInts.items
  have hns:ns=ys.toList.map (·.1):=by rw[← hi.numsOf,← nums_intItems,← e2]
  have hsz:0<ys.size:=by
   have h3:=hne;rw[hns,List.length_map,Array.length_toList] at h3;exact h3
  have hl':s.heap.IsList l its.toArray:=⟨_,e,rfl,n,rfl⟩
  rw[e2] at hl'
  refine min_intList (I.ok.hd hc) hl' hsz fun v h' tk hv hk=>?_
  obtain ⟨t,rfl⟩:=intItems_at hv
  obtain ⟨h1,h2⟩:=argBest_lt (numAt ys) (ys.size-1)
  refine ⟨.int _,H,I.kept hk,⟨_,rfl⟩,q _ ?_ fun a ha=>?_⟩
  ·rw[hns,numAt_eq];exact getD_mem (by rw[List.length_map,Array.length_toList];omega)
  ·rw[hns] at ha
   obtain ⟨j,hj,rfl⟩:=mem_getD ha
   rw[List.length_map,Array.length_toList] at hj
   rw[← numAt_eq];exact h2 j (by omega)
theorem yis (hc:X.calm=true):yda X (.builtin "max") rMaxL:=by
 intro pins s σ H xs us Q I r h
 obtain ⟨l,ns,rfl,hH,hne,q⟩:=h
 cases r with
 | cons r rr=>
  cases rr
  cases r
  obtain ⟨z,its,n,rv,hl,e⟩:=I.lstM hH
  have hi:IntsAre its ns:=qev rv
  obtain ⟨ys,e2⟩:=hi.allInts.items
  have hns:ns=ys.toList.map (·.1):=by rw[← hi.numsOf,← nums_intItems,← e2]
  have hsz:0<ys.size:=by
   have h3:=hne;rw[hns,List.length_map,Array.length_toList] at h3;exact h3
  have hl':s.heap.IsList l its.toArray:=⟨_,e,rfl,n,rfl⟩
  rw[e2] at hl'
  refine max_intList (I.ok.hd hc) hl' hsz fun v h' tk hv hk=>?_
  obtain ⟨t,rfl⟩:=intItems_at hv
  obtain ⟨h1,h2⟩:=argBest_gt (numAt ys) (ys.size-1)
  refine ⟨.int _,H,I.kept hk,⟨_,rfl⟩,q _ ?_ fun a ha=>?_⟩
  ·rw[hns,numAt_eq];exact getD_mem (by rw[List.length_map,Array.length_toList];omega)
  ·rw[hns] at ha
   obtain ⟨j,hj,rfl⟩:=mem_getD ha
   rw[List.length_map,Array.length_toList] at hj
   rw[← numAt_eq];exact h2 j (by omega)
end
def dOf:V→PyData
 | .non=>.none
 | .bl b=>.bool b
 | .int i=>.int i
 | .str s=>.str s
 | _=>.none
theorem flat_at {H:Hp}:∀ {v:V},qdb v=true→At H v (dOf v)
 | .non,_=>.non
 | .bl b,_=>.bl b
 | .int i,_=>.int i
 | .str s,_=>.str s
theorem yfn {H:Hp}:∀ {vs:List V},vs.all qdb=true→AtAll H vs (vs.map dOf)
 | [],_=>.nil
 | v::vs,h=>by
  rw[List.all_cons,Bool.and_eq_true] at h
  exact .cons (flat_at h.1) (yfn h.2)
theorem qd6:∀ {vs:List V},vs.all qdb=true→PyData.depthAll (vs.map dOf)≤1
 | [],_=>by simp[PyData.depthAll]
 | v::vs,h=>by
  rw[List.all_cons,Bool.and_eq_true] at h
  have ih:=qd6 h.2
  have h1:(dOf v).depth≤1:=by
   cases v<;>first|simp[dOf,PyData.depth]|(simp[qdb] at h)
  simp only[List.map_cons,PyData.depthAll]
  omega
def Fl (xs:List V):Prop:=xs.all qdb=true∧PyData.canLayAll0 (xs.map dOf)=true
def tEq (H:Hp) (xs:List V):V→Bool
 | .ref a=>match H a with|some (.tup ys)=>PyData.eqvAll (ys.map dOf) (xs.map dOf)|_=>false
 | _=>false
def tEqU (H:Hp) (xs:List V):Value→Bool
 | .ref a=>match H a with|some (.tup ys)=>PyData.eqvAll (ys.map dOf) (xs.map dOf)|_=>false
 | _=>false
theorem yk5 {H:Hp}{xs:List V}:∀ {us:List V}{vs:List Value},Vals us vs→(∀ v∈us,∃ a,v=.ref a)→vs.any (tEqU H xs)=us.any (tEq H xs)
 | _,_,.nil,_=>rfl
 | u::us,_,.cons r t,h=>by
  obtain ⟨a,rfl⟩:=h u (by simp)
  cases r
  rw[List.any_cons,List.any_cons,yk5 t (fun v hv=>h v (by simp[hv]))]
  rfl
section
variable {X:Cx}
def rInT:R2:=fun x y H Q=>∃ q xs p us,x=.ref q∧H q=some (.tup xs)∧Fl xs∧y=.ref p∧H p=some (.lst us)∧(∀ v∈us,∃ a ys,v=.ref a∧H a=some (.tup ys)∧Fl ys)∧Q (.bl (us.any (tEq H xs))) H
theorem op_inT {k:Nat} (hr:Room k X.A):OpR X (compareOp .In) rInT:=by
 intro pins s σ H x y v u Q I rx ry h
 obtain ⟨q,xs,p,us,rfl,hq,fx,rfl,hp,hus,k⟩:=h
 cases rx
 cases ry
 obtain ⟨its,r,pl,hz⟩:=I.list (SqL.of hp)
 have hu:=hr.units
 obtain ⟨as,rx⟩:=(At.tup hq (yfn fx.1)).reads I.hok (u:=.ref q) rfl
 refine SeqAt.in_listAt (tEqU H xs) pl.isList (fun w hw=>?_) ⟨.bl _,H,I,rfl,?_⟩
 ·obtain ⟨v,hv,rv⟩:=r.back w (by simpa using hw)
  obtain ⟨a,ys,rfl,ha,fy⟩:=hus v hv
  cases rv
  obtain ⟨bs,ry⟩:=(At.tup ha (yfn fy.1)).reads I.hok (u:=.ref a) rfl
  have e:tEqU H xs (.ref a)=PyData.eqv (.tuple (ys.map dOf)) (.tuple (xs.map dOf)):=by
   unfold tEqU
   dsimp only
   rw[ha]
   simp[PyData.eqv]
  rw[e]
  refine PySem.SeqAt.eqAt_reads _ _ _ _ _ _ _ _ ry rx fy.2 fx.2 ?_
  have h1:=qd6 fy.1
  have h2:=Nat.min_le_left (PyData.tuple (ys.map dOf)).depth (PyData.tuple (xs.map dOf)).depth
  have h3:(PyData.tuple (ys.map dOf)).depth≤2:=by
   simp only[PyData.depth]
   omega
  show X.A.units+1+_<_
  omega
 ·rw[show its.toArray.any (tEqU H xs)=its.any (tEqU H xs) by simp,yk5 r (fun v hv=>by obtain ⟨a,_,e,_⟩:=hus v hv;exact ⟨a,e⟩)]
  exact k
end
end L2
namespace Mh
open PySem L2 PyProof.Rows
def top (i:Nat):Stmt:=PySem.Challenge.pw_marchmend_k20_whole_what_lies_between.main.body.getD i (.Pass ⟨0,0,0,0⟩)
def b2i (b:Bool):Int:=if b then 1 else 0
theorem iteB {b:Bool}{A B:Prop} (hb:b=true) (h:A):if b=true then A else B:=by
 rw[if_pos hb];exact h
theorem iteN {b:Bool}{A B:Prop} (hb:b=false) (h:B):if b=true then A else B:=by
 rw[if_neg (by rw[hb];exact Bool.false_ne_true)];exact h
theorem iteD {c:Prop} [Decidable c] {A B:Prop} (hc:c) (h:A):if decide c=true then A else B:=iteB (decide_eq_true hc) h
theorem qa7 {α β:Type}{f:α→β}{l:List α}{i:Nat}{d:β} (h:(l.map f)[i]?=some d):∃ x,l[i]?=some x∧d=f x:=by
 rw[List.getElem?_map] at h
 cases e:l[i]? with
 | none=>rw[e] at h;cases h
 | some x=>rw[e] at h;exact ⟨x,rfl,(Option.some.inj h).symm⟩
structure Hm where
 w:Str
 c:List Int
 r:List V
def tabP:List (Str×List V):=[("stuck",[.str "cell",.str "bit"]),("slow",[.str "cell",.str "bit"]),("forgets",[.str "cell",.str "bit"]),("misreads",[.str "cell",.str "bit"]),("turns",[.str "cell",.str "cell",.str "bit"]),("sets",[.str "cell",.str "cell",.str "bit",.str "bit"]),
 ("keeps",[.str "cell",.str "cell",.str "bit",.str "bit"]),("nowhere",[.str "cell",.str "bit"]),("other",[.str "cell",.str "cell"]),("both",[.str "cell",.str "cell",.str "how"])]
def bitV (v:V):Prop:=∃ b,v=.int (b2i b)
def howV (v:V):Prop:=v=.str "and"∨v=.str "or"
inductive Rest:List Str→List V→Prop
 | nil:Rest [] []
 | bit {v:V}{ns:List Str}{vs:List V}:bitV v→Rest ns vs→Rest ("bit" :: ns) (v::vs)
 | how {v:V}{ns:List Str}{vs:List V}:howV v→Rest ns vs→Rest ("how" :: ns) (v::vs)
def qbs (n:Nat) (ns:List Str):List V:=List.replicate n (V.str "cell")++ns.map V.str
def hV (h:Hm):List V:=.str h.w::(h.c.map V.int++h.r)
structure okH (h:Hm) (ns:List Str):Prop where
 tab:KTD.datumAt h.w tabP=some (qbs h.c.length ns)
 rest:Rest ns h.r
 cl:1≤h.c.length∧h.c.length≤2
 rl:ns.length≤2
 nd:h.c.Nodup
 rg:∀ x∈h.c,0≤x∧x<64
theorem Rest.len {ns:List Str}{vs:List V} (h:Rest ns vs):vs.length=ns.length:=by
 induction h with
 | nil=>rfl
 | bit _ _ ih=>simp[ih]
 | how _ _ ih=>simp[ih]
theorem okH.len {h:Hm}{ns:List Str} (o:okH h ns):(h.c.map V.int++h.r).length=(qbs h.c.length ns).length:=by
 unfold qbs
 simp[o.rest.len]
section
variable {P:Program}{w:World}{K:PySem.W.Frag}{mg:Str→Option Value}{base:Heap}
def qcc:Sp:=fun vs H Q _=>∃ i,vs=[.int i]∧Q (.bl true) H
abbrev ydp:Stmt:=top 14
theorem yfy:FnScope ["thing"] ["thing"] (qad ydp):=⟨rfl,rfl,rfl,by decide +kernel,rfl,by decide +kernel,by decide +kernel⟩
theorem qiu (B:Bl mg) (F:FnAt K mg "is_whole" ydp ["thing"]):Has P w K mg base 1 "is_whole" ["thing"] qcc:=by
 refine Has.of F yfy (fun vs H Q E h=>?_) (fun f cdv A outer s H vs Q E hr h=>?_)
 ·obtain ⟨i,rfl,_⟩:=h
  rfl
 ·obtain ⟨i,rfl,k⟩:=h
  have sc:=yfy
  refine ⟨_,(yad (yao (qa9 (yai yb0 rfl (B.of rfl) boot_isinstance (qaa (pv 0) (qaa (ycl (v:=.ty "int") rfl (B.of rfl) boot_int rfl) yab))) (qb4 (pe_not (yai yb0 rfl (B.of rfl) boot_isinstance (qaa (pv 0) (qaa (ycl (v:=.ty "bool") rfl (B.of rfl) boot_bool rfl) yab)))))))),?_⟩
  refine ⟨_,rfl,_,_,_,_,rfl,.int i,rfl,_,rfl,iteT ?_⟩
  refine ⟨_,rfl,_,_,_,_,rfl,.int i,rfl,_,rfl,?_⟩
  exact k
def ydk:Sp:=fun vs H Q _=>∃ b,vs=[.int (b2i b)]∧∀ H',Same H H'→Q (.bl true) H'
abbrev qfq:Stmt:=top 15
theorem yin:FnScope ["thing"] ["thing"] (qad qfq):=⟨rfl,rfl,rfl,by decide +kernel,rfl,by decide +kernel,by decide +kernel⟩
theorem qlz (qbw:Has P w K mg base 1 "is_whole" ["thing"] qcc) (F:FnAt K mg "is_bit" qfq ["thing"]):Has P w K mg base 2 "is_bit" ["thing"] ydk:=by
 refine Has.of F yin (fun vs H Q E h=>?_) (fun f cdv A outer s H vs Q E hr h=>?_)
 ·obtain ⟨i,rfl,_⟩:=h
  rfl
 ·obtain ⟨b,rfl,k⟩:=h
  have sc:=yin
  refine ⟨_,(yad (yao (qa9 (qaf qbw hr (qaa (pv 0) yab)) (qb4 (yav ybj (pv 0) (qbf (qaa qab (qaa qab yab))) (by with_unfolding_all rfl)))))),?_⟩
  refine ⟨_,rfl,_,rfl,_,rfl,iteT ?_⟩
  refine ⟨_,rfl,(by show 2≤sizeLine;decide),fun p hp=>⟨p,_,rfl,.inr (SqT.of yaa),rfl,rfl,?_⟩⟩
  cases b<;>exact k _ (Same.upd (Same.refl _) hp)
def qb2 (K:PySem.W.Frag):Sp:=fun vs H Q _=>∃ x a xs,vs=[.str x,.ref a]∧(∀ H',SqT K H' a xs)∧xs.all qdb=true∧Q (.bl (inV (.str x) xs)) H
abbrev qc2:Stmt:=top 16
theorem ye9:FnScope ["thing","words"] ["thing","words"] (qad qc2):=⟨rfl,rfl,rfl,by decide +kernel,rfl,by decide +kernel,by decide +kernel⟩
theorem yig (B:Bl mg) (F:FnAt K mg "is_one_of" qc2 ["thing","words"]):Has P w K mg base 1 "is_one_of" ["thing","words"] (qb2 K):=by
 refine Has.of F ye9 (fun vs H Q E h=>?_) (fun f cdv A outer s H vs Q E hr h=>?_)
 ·obtain ⟨x,a,xs,rfl,_⟩:=h
  rfl
 ·obtain ⟨x,a,xs,rfl,hq,hf,k⟩:=h
  have sc:=ye9
  refine ⟨_,(yad (yao (qa9 (yai yb0 rfl (B.of rfl) boot_isinstance (qaa (pv 0) (qaa (ycl (v:=.ty "str") rfl (B.of rfl) boot_str rfl) yab))) (qb4 (yav ybj (pv 0) (pv 1) (by with_unfolding_all rfl)))))),?_⟩
  refine ⟨_,rfl,_,_,_,_,rfl,.str x,rfl,_,rfl,iteT ?_⟩
  exact ⟨_,rfl,_,rfl,a,xs,rfl,.inr (hq _),rfl,hf,k⟩
def ygu:Sp:=fun vs H Q _=>∃ x,vs=[.int x]∧0≤x∧x<64∧Q (.bl true) H
abbrev qd9:Stmt:=top 31
theorem yg5:FnScope ["thing"] ["thing"] (qad qd9):=⟨rfl,rfl,rfl,by decide +kernel,rfl,by decide +kernel,by decide +kernel⟩
theorem yj6 (ydc:∃ t,mg "MOST_CELLS" = some (.int 64 t)) (qbw:Has P w K mg base 1 "is_whole" ["thing"] qcc) (F:FnAt K mg "is_cell" qd9 ["thing"]):Has P w K mg base 2 "is_cell" ["thing"] ygu:=by
 refine Has.of F yg5 (fun vs H Q E h=>?_) (fun f cdv A outer s H vs Q E hr h=>?_)
 ·obtain ⟨x,rfl,_⟩:=h
  rfl
 ·obtain ⟨x,rfl,h0,h1,k⟩:=h
  have sc:=yg5
  refine ⟨_,(yad (yao (qa9 (qaf qbw hr (qaa (pv 0) yab)) (qa9 (yav ylx (pv 0) qab (qai _)) (qb4 (yav op_lt (pv 0) (yex ydc) (qai _))))))),?_⟩
  refine ⟨_,rfl,x,rfl,_,rfl,iteT ?_⟩
  refine ⟨_,rfl,_,_,rfl,rfl,_,rfl,iteD (by omega) ?_⟩
  refine ⟨_,rfl,_,_,rfl,rfl,?_⟩
  show Q (.bl (decide (x<64))) H
  rw[decide_eq_true h1]
  exact k
def PartOk (nm:Str) (v:V):Prop:=(nm="cell"∧∃ x,v=.int x∧0≤x∧x<64)∨(nm="bit"∧bitV v)∨(nm="how"∧howV v)
def qgu:Sp:=fun vs H Q _=>∃ nm v,vs=[.str nm,v]∧PartOk nm v∧∀ H',Same H H'→Q (.bl true) H'
abbrev yej:Stmt:=top 32
theorem qg0:FnScope ["name","thing"] ["name","thing"] (qad yej):=⟨rfl,rfl,rfl,by decide +kernel,rfl,by decide +kernel,by decide +kernel⟩
theorem yj4 (qkb:GTup K mg "JOININGS" [.str "and",.str "or"]) (yln:Has P w K mg base 2 "is_cell" ["thing"] ygu) (yc4:Has P w K mg base 2 "is_bit" ["thing"] ydk) (ybm:Has P w K mg base 1 "is_one_of" ["thing","words"] (qb2 K)) (F:FnAt K mg "is_part" yej ["name","thing"]):Has P w K mg base 3 "is_part" ["name","thing"] qgu:=by
 refine Has.of F qg0 (fun vs H Q E h=>?_) (fun f cdv A outer s H vs Q E hr h=>?_)
 ·obtain ⟨nm,v,rfl,_⟩:=h
  rfl
 ·obtain ⟨nm,v,rfl,hp,k⟩:=h
  have sc:=qg0
  refine ⟨_,(qae (ya6 (yah qax (pv 0) qam (qai _))
    (yad (yao (qaf yln hr (qaa (pv 1) yab))))
    qap)
   (qae (ya6 (yah qax (pv 0) qam (qai _))
    (yad (yao (qaf yc4 hr (qaa (pv 1) yab))))
    qap)
   (yad (yao (qaf ybm hr (qaa (pv 1) (qaa (yhk qkb) yab))))))),?_⟩
  rcases hp with ⟨rfl,x,rfl,h0,h1⟩|⟨rfl,b,rfl⟩|⟨rfl,hv⟩
  ·refine ⟨_,rfl,rfl,_,rfl,iteB (by decide +kernel) ?_⟩
   exact ⟨_,rfl,x,rfl,h0,h1,k H (Same.refl H)⟩
  ·refine ⟨_,rfl,rfl,_,rfl,iteN (by decide +kernel) ?_⟩
   refine ⟨_,rfl,rfl,_,rfl,iteB (by decide +kernel) ?_⟩
   exact ⟨_,rfl,b,rfl,k⟩
  ·refine ⟨_,rfl,rfl,_,rfl,iteN (by decide +kernel) ?_⟩
   refine ⟨_,rfl,rfl,_,rfl,iteN (by decide +kernel) ?_⟩
   rcases hv with rfl|rfl
   ·refine ⟨_,rfl,fun a ha=>⟨_,a,_,rfl,ha,by decide,?_⟩⟩
    exact k H (Same.refl H)
   ·refine ⟨_,rfl,fun a ha=>⟨_,a,_,rfl,ha,by decide,?_⟩⟩
    exact k H (Same.refl H)
def HAt (H:Hp) (v:V) (h:Hm):Prop:=∃ a,v=.ref a∧H a=some (.tup (hV h))
def qfu:Sp:=fun vs H Q _=>∃ v h ns,vs=[v]∧HAt H v h∧okH h ns∧Q (.bl true) H
abbrev qdv:Stmt:=top 33
theorem qf5:FnScope ["thing"] ["thing"] (qad qdv):=⟨rfl,rfl,rfl,by decide +kernel,rfl,by decide +kernel,by decide +kernel⟩
theorem yi2 (B:Bl mg) {aP:Addr} (gP:mg "PARTS" = some (.ref aP)) (TP:TabK K aP tabP) (F:FnAt K mg "has_word" qdv ["thing"]):Has P w K mg base 1 "has_word" ["thing"] qfu:=by
 refine Has.of F qf5 (fun vs H Q E h=>?_) (fun f cdv A outer s H vs Q E hr h=>?_)
 ·obtain ⟨v,h,ns,rfl,_⟩:=h
  rfl
 ·obtain ⟨v,h,ns,rfl,⟨a,rfl,ha⟩,ok,k⟩:=h
  have sc:=qf5
  refine ⟨_,(yad (yao (qa9 (yai yb0 rfl (B.of rfl) boot_isinstance (qaa (pv 0) (qaa (ycl (v:=.ty "tuple") rfl (B.of rfl) boot_tuple rfl) yab))) (qa9 (yav yhb (yai yag rfl (B.of rfl) boot_len (qaa (pv 0) yab)) qab (qai _)) (qa9 (yai yb0 rfl (B.of rfl) boot_isinstance (qaa (qah qak (pv 0) qab (fun _ _=>rfl)) (qaa (ycl (v:=.ty "str") rfl (B.of rfl) boot_str rfl) yab))) (qb4 (yav (op_inTab (D:=tabP)) (qah qak (pv 0) qab (fun _ _=>rfl)) (qet (v:=.ref aP) rfl gP rfl) (by with_unfolding_all rfl)))))))),?_⟩
  refine ⟨_,rfl,_,_,_,_,rfl,.tup ha,rfl,_,rfl,iteT ?_⟩
  refine ⟨_,rfl,a,_,rfl,.inr (SqT.of ha),_,_,rfl,rfl,_,rfl,iteD (by unfold hV;simp;omega) ?_⟩
  refine ⟨_,rfl,a,_,_,_,rfl,rfl,SqT.of ha,qac 0 rfl,_,_,_,_,rfl,.str _,rfl,_,rfl,iteT ?_⟩
  refine ⟨_,rfl,a,_,_,_,rfl,rfl,SqT.of ha,qac 0 rfl,aP,h.w,rfl,rfl,TP,?_⟩
  have e:KTD.inKeys h.w tabP=true:=by rw[← KTD.isSome_datumAt,ok.tab];rfl
  rw[e]
  exact k
end
section
variable {P:Program}{w:World}{K:PySem.W.Frag}{mg:Str→Option Value}{base:Heap}
theorem Rest.get {ns:List Str}{vs:List V} (h:Rest ns vs):∀ {i:Nat}{n:Str}{v:V},ns[i]?=some n→vs[i]?=some v→(n="bit"∧bitV v)∨(n="how"∧howV v):=by
 induction h with
 | nil=>intro i n v h;simp at h
 | bit hb _ ih=>
  intro i n v h1 h2
  cases i with
  | zero=>simp at h1 h2;subst h1 h2;exact .inl ⟨rfl,hb⟩
  | succ i=>simp at h1 h2;exact ih h1 h2
 | how hb _ ih=>
  intro i n v h1 h2
  cases i with
  | zero=>simp at h1 h2;subst h1 h2;exact .inr ⟨rfl,hb⟩
  | succ i=>simp at h1 h2;exact ih h1 h2
theorem okH.cellAt {h:Hm}{ns:List Str} (o:okH h ns) {i:Nat}{x y:V} (hx:(qbs h.c.length ns)[i]?=some x) (hy:(h.c.map V.int++h.r)[i]?=some y) :
  (x=.str "cell"∧∃ c,h.c[i]?=some c∧y=.int c)∨(h.c.length≤i∧((x=.str "bit"∧bitV y)∨(x=.str "how"∧howV y))):=by
 unfold qbs at hx
 by_cases hi:i<h.c.length
 ·rw[List.getElem?_append_left (by simpa using hi),List.getElem?_replicate,if_pos hi] at hx
  rw[List.getElem?_append_left (by simpa using hi)] at hy
  obtain ⟨c,hc,rfl⟩:=qa7 hy
  exact .inl ⟨(Option.some.inj hx).symm,c,hc,rfl⟩
 ·rw[List.getElem?_append_right (by simpa using Nat.le_of_not_lt hi)] at hx
  rw[List.getElem?_append_right (by simpa using Nat.le_of_not_lt hi)] at hy
  simp only[List.length_replicate,List.length_map] at hx hy
  obtain ⟨n,hn,rfl⟩:=qa7 hx
  rcases o.rest.get hn hy with ⟨rfl,hb⟩|⟨rfl,hb⟩
  ·exact .inr ⟨Nat.le_of_not_lt hi,.inl ⟨rfl,hb⟩⟩
  ·exact .inr ⟨Nat.le_of_not_lt hi,.inr ⟨rfl,hb⟩⟩
theorem okH.partAt {h:Hm}{ns:List Str} (o:okH h ns) {i:Nat}{x y:V} (hx:(qbs h.c.length ns)[i]?=some x) (hy:(h.c.map V.int++h.r)[i]?=some y):∃ nm,x=.str nm∧PartOk nm y:=by
 rcases o.cellAt hx hy with ⟨rfl,c,hc,rfl⟩|⟨_,⟨rfl,hb⟩|⟨rfl,hb⟩⟩
 ·exact ⟨_,rfl,.inl ⟨rfl,c,rfl,o.rg c (List.mem_of_getElem? hc)⟩⟩
 ·exact ⟨_,rfl,.inr (.inl ⟨rfl,hb⟩)⟩
 ·exact ⟨_,rfl,.inr (.inr ⟨rfl,hb⟩)⟩
theorem yfp (h:Hm):cutV (hV h) (some 1) none=h.c.map V.int++h.r:=by
 unfold hV
 exact qjt 1
theorem qhj (h:Hm):¬ (HT.sIx (hV h).length 0 (some 1)=0∧HT.sIx (hV h).length (hV h).length none=(hV h).length):=by
 rintro ⟨h0,_⟩
 unfold hV HT.sIx at h0
 simp at h0
def ye8:Sp:=fun vs H Q _=>∃ v h ns,vs=[v]∧HAt H v h∧okH h ns∧∀ H',Same H H'→Q (.bl true) H'
abbrev qc0:Stmt:=top 35
theorem qe9:FnScope ["thing","names"] ["thing"] (qad qc0):=⟨rfl,rfl,rfl,by decide +kernel,rfl,by decide +kernel,by decide +kernel⟩
theorem yiq (B:Bl mg) (qd7:mg "zip" = none) (qhi:mg "all" = none) {aP:Addr} (gP:mg "PARTS" = some (.ref aP)) (TP:TabK K aP tabP) (yk1:Has P w K mg base 3 "is_part" ["name","thing"] qgu) (F:FnAt K mg "has_parts" qc0 ["thing"]):Has P w K mg base 4 "has_parts" ["thing"] ye8:=by
 refine Has.of F qe9 (fun vs H Q E h=>?_) (fun f cdv A outer s H vs Q E hr h=>?_)
 ·obtain ⟨v,h,ns,rfl,_⟩:=h
  rfl
 ·obtain ⟨v,h,ns,rfl,⟨a,rfl,ha⟩,ok,k⟩:=h
  have sc:=qe9
  refine ⟨_,(qae (yaw (i:=1) sc.nd rfl (Or.inl rfl) (qah (qk6 (D:=tabP)) (qet (v:=.ref aP) rfl gP rfl) (qah qak (pv 0) qab (fun _ _=>rfl)) (fun _ _=>rfl)))
   (yad (yao (qa9 (yav qax (yai yag rfl (B.of rfl) boot_len (qaa (pv 0) yab)) (ya3 yct (yai yag rfl (B.of rfl) boot_len (qaa (pv 1) yab)) qab) (qai _)) (qb4 (yai (yf3 rfl) rfl qhi yf7 (qaa (qca rfl (qas rfl) (M:=["name","part"]) (ix:=[none,none]) (yjy rfl qd7 (qaa (pv 1) (qaa (qbb qjp (pv 0) (yba qab) ycz) yab))) (fun _ _ _ _=>(yiu (K:=K) (n:=2) rfl rfl (qan (qag (i:=0) (show List.Nodup (["name","part"]:List Str) by decide +kernel) rfl (Or.inl rfl)) (qan (qag (i:=1) (show List.Nodup (["name","part"]:List Str) by decide +kernel) rfl (Or.inl rfl)) qbh)))) (fun _ _ _ _=>qcv) (fun _ _ _ _=>(qaf yk1 hr (qaa (pv 0) (qaa (pv 1) yab))))) yab))))))),?_⟩
  refine ⟨_,rfl,a,_,_,_,rfl,rfl,SqT.of ha,qac 0 rfl,aP,h.w,_,rfl,rfl,TP,ok.tab,fun pn hpn=>?_⟩
  refine ⟨_,rfl,a,_,rfl,.inr (SqT.of ha),_,rfl,pn,_,rfl,.inr (hpn _),_,_,rfl,rfl,rfl,_,rfl,iteD ?_ ?_⟩
  ·have:=ok.len
   congr 1
   unfold hV
   rw[List.length_cons,this]
   rfl
  refine ⟨_,rfl,_,rfl,_,rfl,a,_,rfl,SqT.of ha,qhj h,fun q hq=>?_⟩
  rw[yfp]
  have s1:Same H (upd H q (.tup (h.c.map V.int++h.r))):=(Same.refl H).upd hq
  have e1:upd H q (.tup (h.c.map V.int++h.r)) q=some (.tup (h.c.map V.int++h.r)):=yaa
  revert s1 e1
  generalize upd H q (.tup (h.c.map V.int++h.r))=H1
  intro s1 e1
  refine ⟨true,true,pn,q,_,_,rfl,hpn _,SqT.of e1,fun D hD=>?_⟩
  refine yhd (K:=K) (ok.len.symm) (fun i H'=>Same H1 H'∧H' D=some (.lst ((List.replicate i true).map V.bl))) ⟨(Same.refl H1).upd hD,yaa⟩ ?_ ?_ ?_
  ·rintro i H2 ⟨s2,e2⟩
   exact ⟨hpn _,SqT.of (s2 _ _ e1)⟩
  ·rintro H2 ⟨s2,e2⟩
   refine ⟨D,_,rfl,e2,?_⟩
   rw[show (List.replicate (qbs h.c.length ns).length true).all id=true by simp]
   exact k _ (s1.trans s2)
  ·rintro i x y p H2 hx hy ⟨s2,e2⟩ hp
   obtain ⟨nm,rfl,hpo⟩:=ok.partAt hx hy
   refine ⟨p,_,rfl,SqT.of yaa,rfl,?_⟩
   refine ⟨_,_,rfl,_,_,rfl,rfl,yau.set (yau.set (yau.refl _) rfl) rfl,yes ?_⟩
   refine ⟨_,rfl,_,rfl,nm,y,rfl,hpo,fun H3 s3=>?_⟩
   have s23:Same H2 H3:=((Same.refl H2).upd hp).trans s3
   refine ⟨_,s23 _ _ e2,ya9 ?_,(s2.trans s23).at hD,?_⟩
   ·have h1:=(List.getElem?_eq_some_iff.mp hx).1
    have h2:=ok.cl
    have h3:=ok.rl
    simp[qbs] at h1 ⊢
    omega
   ·rw[yaa,List.replicate_succ',List.map_append];rfl
end
section
variable {P:Program}{w:World}{K:PySem.W.Frag}{mg:Str→Option Value}{base:Heap}
theorem qk2 {h:Hm}{i:Nat} (hi:h.c.length≤i):h.c.take (i+1)=h.c.take i:=by
 rw[List.take_of_length_le hi,List.take_of_length_le (by omega)]
def qc5:Sp:=fun vs H Q _=>∃ v h ns,vs=[v]∧HAt H v h∧okH h ns∧∀ D H',Same H H'→H D=none→H' D=some (.lst (h.c.map V.int))→Q (.ref D) H'
abbrev ydw:Stmt:=top 34
theorem qf1:FnScope ["harm"] ["harm"] (qad ydw):=⟨rfl,rfl,rfl,by decide +kernel,rfl,by decide +kernel,by decide +kernel⟩
theorem qi9 (B:Bl mg) (qd7:mg "zip" = none) {aP:Addr} (gP:mg "PARTS" = some (.ref aP)) (TP:TabK K aP tabP) (F:FnAt K mg "cells_in" ydw ["harm"]):Has P w K mg base 1 "cells_in" ["harm"] qc5:=by
 refine Has.of F qf1 (fun vs H Q E h=>?_) (fun f cdv A outer s H vs Q E hr h=>?_)
 ·obtain ⟨v,h,ns,rfl,_⟩:=h
  rfl
 ·obtain ⟨v,h,ns,rfl,⟨a,rfl,ha⟩,ok,k⟩:=h
  have sc:=qf1
  refine ⟨_,(yad (yao (qca rfl (qas rfl) (M:=["name","part"]) (ix:=[none,none]) (yjy rfl qd7 (qaa (qah (qk6 (D:=tabP)) (qet (v:=.ref aP) rfl gP rfl) (qah qak (pv 0) qab (fun _ _=>rfl)) (fun _ _=>rfl)) (qaa (qbb qjp (pv 0) (yba qab) ycz) yab))) (fun _ _ _ _=>(yiu (K:=K) (n:=2) rfl rfl (qan (qag (i:=0) (show List.Nodup (["name","part"]:List Str) by decide +kernel) rfl (Or.inl rfl)) (qan (qag (i:=1) (show List.Nodup (["name","part"]:List Str) by decide +kernel) rfl (Or.inl rfl)) qbh)))) (fun _ _ _ _=>(ycm (yah qax (pv 0) qam (qai _)))) (fun _ _ _ _=>(pv 1))))),?_⟩
  refine ⟨_,rfl,a,_,_,_,rfl,rfl,SqT.of ha,qac 0 rfl,aP,h.w,_,rfl,rfl,TP,ok.tab,fun pn hpn=>?_⟩
  refine ⟨_,rfl,_,rfl,a,_,rfl,SqT.of ha,qhj h,fun q hq=>?_⟩
  rw[yfp]
  have s1:Same H (upd H q (.tup (h.c.map V.int++h.r))):=(Same.refl H).upd hq
  have e1:upd H q (.tup (h.c.map V.int++h.r)) q=some (.tup (h.c.map V.int++h.r)):=yaa
  revert s1 e1
  generalize upd H q (.tup (h.c.map V.int++h.r))=H1
  intro s1 e1
  refine ⟨true,true,pn,q,_,_,rfl,hpn _,SqT.of e1,fun D hD=>?_⟩
  refine yhd (K:=K) (ok.len.symm) (fun i H'=>Same H1 H'∧H' D=some (.lst ((h.c.take i).map V.int))) ⟨(Same.refl H1).upd hD,yaa⟩ ?_ ?_ ?_
  ·rintro i H2 ⟨s2,e2⟩
   exact ⟨hpn _,SqT.of (s2 _ _ e1)⟩
  ·rintro H2 ⟨s2,e2⟩
   rw[List.take_of_length_le (by simp[qbs])] at e2
   exact k D H2 (s1.trans s2) (s1.free hD) e2
  ·rintro i x y p H2 hx hy ⟨s2,e2⟩ hp
   have s3:Same H2 (upd H2 p (.tup [x,y])):=(Same.refl H2).upd hp
   refine ⟨p,_,rfl,SqT.of yaa,rfl,?_⟩
   revert s3
   generalize upd H2 p (.tup [x,y])=H3
   intro s3
   refine ⟨_,_,rfl,_,_,rfl,rfl,yau.set (yau.set (yau.refl _) rfl) rfl,?_⟩
   rcases ok.cellAt hx hy with ⟨rfl,c,hc,rfl⟩|⟨hge,hh⟩
   ·refine ⟨_,rfl,rfl,_,rfl,iteB (by decide +kernel) ?_⟩
    refine ⟨_,rfl,_,s3 _ _ e2,ya9 ?_,(s2.trans s3).at hD,?_⟩
    ·have:=ok.cl
     simp
     omega
    ·rw[yaa,List.take_add_one,hc];simp
   ·have hxn:∃ nm,x=.str nm∧nm≠"cell":=by
     rcases hh with ⟨rfl,_⟩|⟨rfl,_⟩
     ·exact ⟨_,rfl,by decide +kernel⟩
     ·exact ⟨_,rfl,by decide +kernel⟩
    obtain ⟨nm,rfl,hnm⟩:=hxn
    refine ⟨_,rfl,rfl,_,rfl,iteN (by simpa using hnm) ?_⟩
    refine ⟨s2.trans s3,?_⟩
    rw[qk2 hge]
    exact s3 _ _ e2
theorem not_take {l:List Int} (h:l.Nodup) {i:Nat} (hi:i<l.length):l[i]∉l.take i:=by
 intro hm
 obtain ⟨j,hj,e⟩:=List.getElem_of_mem hm
 rw[List.getElem_take] at e
 have hj':j<i:=by simp at hj;omega
 have:=(List.nodup_iff_pairwise_ne.mp h)
 exact (List.pairwise_iff_getElem.mp h j i (by omega) hi hj') e
theorem qh2 {l:List Int} (h:l.Nodup):∀ i,i≤l.length→ya2 (fun i=>l.getD i 0) i=l.take i
 | 0,_=>rfl
 | i+1,hi=>by
  show (if l.getD i 0∈ya2 (fun i=>l.getD i 0) i then ya2 (fun i=>l.getD i 0) i else ya2 (fun i=>l.getD i 0) i++[l.getD i 0])=_
  rw[qh2 h i (by omega)]
  have e:l.getD i 0=l[i]:=by rw[List.getD_eq_getElem?_getD,List.getElem?_eq_getElem (by omega)];rfl
  rw[e,if_neg (not_take h (by omega)),List.take_add_one,List.getElem?_eq_getElem (by omega)]
  rfl
theorem yk3 {l:List Int} (h:l.Nodup):uniq l=l:=by
 unfold uniq
 rw[qh2 h _ (Nat.le_refl _),List.take_length]
theorem HAt.same {H H':Hp}{v:V}{h:Hm} (s:Same H H') (x:HAt H v h):HAt H' v h:=by
 obtain ⟨a,rfl,ha⟩:=x
 exact ⟨a,rfl,s _ _ ha⟩
def ygx:Sp:=fun vs H Q _=>∃ v h ns,vs=[v]∧HAt H v h∧okH h ns∧∀ H',Same H H'→Q (.bl true) H'
abbrev yed:Stmt:=top 36
theorem ygw:FnScope ["thing","cells"] ["thing"] (qad yed):=⟨rfl,rfl,rfl,by decide +kernel,rfl,by decide +kernel,by decide +kernel⟩
theorem qj9 (B:Bl mg) (yhm:mg "set" = none) (yj9:Has P w K mg base 1 "has_word" ["thing"] qfu) (yiz:Has P w K mg base 4 "has_parts" ["thing"] ye8) (qcr:Has P w K mg base 1 "cells_in" ["harm"] qc5) (F:FnAt K mg "is_harm" yed ["thing"]):Has P w K mg base 5 "is_harm" ["thing"] ygx:=by
 refine Has.of F ygw (fun vs H Q E h=>?_) (fun f cdv A outer s H vs Q E hr h=>?_)
 ·obtain ⟨v,h,ns,rfl,_⟩:=h
  rfl
 ·obtain ⟨v,h,ns,rfl,hv,ok,k⟩:=h
  have sc:=ygw
  refine ⟨_,(qae (ya6 (PW.pt (pw_or (yc8 (ycj (qaf yj9 hr (qaa (pv 0) yab)))) (qjo (yc8 (ycj (qaf yiz hr (qaa (pv 0) yab)))))))
    (yad (yao ygm))
    qap)
   (qae (yaw (i:=1) sc.nd rfl (Or.inl rfl) (qaf qcr hr (qaa (pv 0) yab)))
   (yad (yao (yav qax (yai yfr rfl (B.of rfl) boot_len (qaa (qbj (yfw rfl) rfl yhm qf7 (qaa (pv 1) yab)) yab)) (yai yag rfl (B.of rfl) boot_len (qaa (pv 1) yab)) (qai _)))))),?_⟩
  refine ⟨_,rfl,v,h,ns,rfl,hv,ok,_,rfl,iteF ?_⟩
  refine ⟨_,rfl,v,h,ns,rfl,hv,ok,fun H1 s1=>⟨_,rfl,iteF ?_⟩⟩
  refine ⟨_,rfl,v,h,ns,rfl,HAt.same s1 hv,ok,fun D H2 s2 hD e2=>?_⟩
  refine ⟨_,rfl,D,h.c,rfl,e2,by have:=ok.cl;omega,fun p hp=>?_⟩
  refine ⟨p,_,rfl,yaa,?_⟩
  have s3:Same H2 (upd H2 p (SetO P w p (uniq h.c))):=(Same.refl H2).upd hp
  refine ⟨_,rfl,D,_,rfl,.inl (SqL.of (s3 _ _ e2)),rfl,?_⟩
  rw[yk3 ok.nd,List.length_map,decide_eq_true rfl]
  rw[yk3 ok.nd] at s3
  exact k _ ((s1.trans s2).trans s3)
end
theorem qjw {l:List Int} (h:l.Nodup):∀ {S:List Int},(∀ x∈l,x∈S)→l.length≤S.length:=by
 induction l with
 | nil=>intro S _;exact Nat.zero_le _
 | cons x l ih=>
  intro S hs
  have hx:=hs x (by simp)
  have hn:=List.nodup_cons.mp h
  have:=ih hn.2 (S:=S.erase x) (fun y hy=>(List.mem_erase_of_ne (fun z=>by subst z;exact hn.1 hy)).mpr (hs y (by simp[hy])))
  rw[List.length_erase_of_mem hx] at this
  have:=List.length_pos_of_mem hx
  simp
  omega
def allC (hs:List Hm):List Int:=hs.flatMap Hm.c
structure okHs (hs:List Hm) (S:List Int):Prop where
 len:hs.length≤3
 ok:∀ h∈hs,∃ ns,okH h ns
 sl:S.length≤3
 mem:∀ h∈hs,∀ c∈h.c,c∈S
structure HsV (H:Hp) (vs:List V) (hs:List Hm):Prop where
 len:vs.length=hs.length
 at_:∀ (i:Nat) (v:V) (h:Hm),vs[i]?=some v→hs[i]?=some h→HAt H v h
theorem HsV.same {H H':Hp}{vs:List V}{hs:List Hm} (s:Same H H') (x:HsV H vs hs):HsV H' vs hs:=⟨x.len,fun i v h a b=>HAt.same s (x.at_ i v h a b)⟩
theorem HsV.get {H:Hp}{vs:List V}{hs:List Hm} (x:HsV H vs hs) {i:Nat}{v:V} (h:vs[i]?=some v):∃ g,hs[i]?=some g∧HAt H v g:=by
 have hi:=(List.getElem?_eq_some_iff.mp h).1
 have e:hs[i]?=some (hs[i]'(by rw[← x.len];exact hi)):=List.getElem?_eq_getElem _
 exact ⟨_,e,x.at_ i v _ h e⟩
theorem yei {hs:List Hm}{i:Nat}{h:Hm} (e:hs[i]?=some h):allC (hs.take (i+1))=allC (hs.take i)++h.c:=by
 unfold allC
 rw[List.take_add_one,e]
 simp
theorem okHs.sub {hs:List Hm}{S:List Int} (o:okHs hs S) {l:List Hm} (hl:∀ h∈l,h∈hs):∀ x∈allC l,x∈S:=by
 intro x hx
 unfold allC at hx
 obtain ⟨h,hh,hc⟩:=List.mem_flatMap.mp hx
 exact o.mem h (hl h hh) x hc
theorem okHs.few {hs:List Hm}{S:List Int} (o:okHs hs S) {l:List Hm} (hl:∀ h∈l,h∈hs):(uniq (allC l)).length≤3:=
 Nat.le_trans (qjw (yg0 _) (fun x hx=>o.sub hl x ((qfl _ x).mp hx))) o.sl
theorem allC_len {l:List Hm} (h:∀ x∈l,x.c.length≤2):(allC l).length≤2*l.length:=by
 induction l with
 | nil=>simp[allC]
 | cons a l ih=>
  have h1:=h a (by simp)
  have h2:=ih (fun x hx=>h x (by simp[hx]))
  unfold allC at *
  rw[List.flatMap_cons,List.length_append,List.length_cons]
  omega
theorem okHs.clen {hs:List Hm}{S:List Int} (o:okHs hs S) {l:List Hm} (hl:∀ h∈l,h∈hs):(allC l).length≤2*l.length:=
 allC_len fun x hx=>by
  obtain ⟨ns,h⟩:=o.ok x (hl x hx)
  exact h.cl.2
theorem qa0 {c:Prop} [Decidable c] {A B:Prop} (hc:¬ c) (h:B):if decide c=true then A else B:=iteN (decide_eq_false hc) h
section
variable {P:Program}{w:World}{K:PySem.W.Frag}{mg:Str→Option Value}{base:Heap}
def qc6:Sp:=fun vs H Q _=>∃ L us hs S,vs=[.ref L]∧H L=some (.lst us)∧HsV H us hs∧okHs hs S∧∀ H',Same H H'→Q .non H'
abbrev qbt:Stmt:=top 37
theorem yc7:FnScope ["thing","cells","number","harm"] ["thing"] (qad qbt):=⟨rfl,rfl,rfl,by decide +kernel,rfl,by decide +kernel,by decide +kernel⟩
theorem qff (B:Bl mg) (yhm:mg "set" = none) (yir:∃ t,mg "MOST_HARMS" = some (.int 3 t)) (qhb:∃ t,mg "MOST_UNLIKE" = some (.int 3 t)) (ylt:Has P w K mg base 5 "is_harm" ["thing"] ygx) (qcr:Has P w K mg base 1 "cells_in" ["harm"] qc5) (F:FnAt K mg "look_at_harms" qbt ["thing"]):Has P w K mg base 6 "look_at_harms" ["thing"] qc6:=by
 refine Has.of F yc7 (fun vs H Q E h=>?_) (fun f cdv A outer s H vs Q E hr h=>?_)
 ·obtain ⟨L,us,hs,S,rfl,_⟩:=h
  rfl
 ·obtain ⟨L,us,hs,S,rfl,hL,hv,ok,k⟩:=h
  have sc:=yc7
  refine ⟨_,(qae (ya6 (PW.pt (pw_or (yc8 (ycj (yai yb0 rfl (B.of rfl) boot_isinstance (qaa (pv 0) (qaa (ycl (v:=.ty "list") rfl (B.of rfl) boot_list rfl) yab))))) (qjo (yah yhb (yai yag rfl (B.of rfl) boot_len (qaa (pv 0) yab)) (yex yir) (qai _)))))
    (yad qbk)
    qap)
   (qae (yaw (i:=1) sc.nd rfl (Or.inl rfl) (qau yab))
   (yad (qa8 PassesOwn.never rfl (qcy rfl (B.of rfl) (qaa (pv 0) yab)) (ycc rfl (qan (qag (i:=2) sc.nd rfl (Or.inl rfl)) (qan (qag (i:=3) sc.nd rfl (Or.inl rfl)) qbh)))
    (qae (ya6 (yc8 (ycj (qaf ylt hr (qaa (pv 3) yab))))
     (yad qbk)
     qap)
    (qae (qav (yfg PySem.F.plainAttrs_list PySem.F.slot_list_extend PySem.F.type_list_extend qgh (pv 1) (qaa (qaf qcr hr (qaa (pv 3) yab)) yab)))
    (yad (ya6 (yah yhb (yai yfr rfl (B.of rfl) boot_len (qaa (qbj (yfw rfl) rfl yhm qf7 (qaa (pv 1) yab)) yab)) (yex qhb) (qai _))
     (yad qbk)
     qap)))))))),?_⟩
  refine ⟨_,rfl,_,_,_,_,rfl,.lst hL,rfl,_,rfl,iteF ?_⟩
  refine ⟨_,rfl,L,us,rfl,.inl (SqL.of hL),_,_,rfl,rfl,_,rfl,qa0 (by have:=hv.len;have:=ok.len;omega) ?_⟩
  refine ⟨Nat.zero_le _,fun p hp=>?_⟩
  have npL:L≠p:=yae hL hp
  refine ⟨_,rfl,L,us,rfl,SqL.of (by rw[yaj npL];exact hL),qb5 (xs:=us) (fun i σ H2=>∃ (o2 o3:Option V),σ=[some (.ref L),some (.ref p),o2,o3]∧Same H H2∧H2 p=some (.lst ((allC (hs.take i)).map V.int)))
   ⟨none,none,rfl,(Same.refl H).upd hp,yaa⟩ (fun i σ H2 _ ⟨_,_,_,h,_⟩=>SqL.of (h _ _ hL)) ?_ ?_⟩
  ·rintro i x pp σ H2 hx ⟨o2,o3,rfl,s2,e2⟩ hpp
   obtain ⟨g,hg,hat⟩:=hv.get hx
   obtain ⟨ns,og⟩:=ok.ok g (List.mem_of_getElem? hg)
   have sP:Same H2 (upd H2 pp (.tup [.int i,x])):=(Same.refl H2).upd hpp
   refine ⟨pp,_,rfl,SqT.of yaa,rfl,_,_,rfl,_,_,rfl,rfl,?_⟩
   refine ⟨_,rfl,x,g,ns,rfl,HAt.same (s2.trans sP) hat,og,fun H3 s3=>⟨_,rfl,iteF ?_⟩⟩
   have s23:Same H2 H3:=sP.trans s3
   refine ⟨_,rfl,.inl ⟨rfl,_,SqL.of (s23 _ _ e2)⟩,?_⟩
   refine ⟨_,rfl,x,g,ns,rfl,HAt.same (s2.trans s23) hat,og,fun D H4 s4 hD eD=>?_⟩
   have s24:=s23.trans s4
   have hsub:∀ h∈hs.take (i+1),h∈hs:=fun h hh=>List.mem_of_mem_take hh
   have hlt:(allC (hs.take (i+1))).length≤6:=by
    have h1:=ok.clen hsub
    have h2:=ok.len
    rw[List.length_take] at h1
    omega
   refine ⟨p,D,_,_,rfl,rfl,s24 _ _ e2,eD,?_,?_⟩
   ·rw[← List.length_append,← List.map_append,← yei hg,List.length_map]
    exact Nat.le_of_lt (ya9 (by omega))
   rw[← List.map_append,← yei hg]
   have s5:Same H (upd H4 p (.lst ((allC (hs.take (i+1))).map V.int))):=(s2.trans s24).at hp
   have e5:upd H4 p (.lst ((allC (hs.take (i+1))).map V.int)) p=some (.lst ((allC (hs.take (i+1))).map V.int)):=yaa
   revert s5 e5
   generalize upd H4 p (.lst ((allC (hs.take (i+1))).map V.int))=H5
   intro s5 e5
   refine ⟨_,rfl,p,_,rfl,e5,by omega,fun q hq=>?_⟩
   have s6:Same H5 (upd H5 q (SetO P w q (uniq (allC (hs.take (i+1)))))):=(Same.refl H5).upd hq
   refine ⟨q,_,rfl,yaa,_,_,rfl,rfl,_,rfl,qa0 (by have:=ok.few hsub;omega) ?_⟩
   exact ⟨_,_,rfl,s5.trans s6,s6 _ _ e5⟩
  ·rintro σ H2 ⟨o2,o3,rfl,s2,e2⟩
   exact k _ s2
end
section
variable {P:Program}{w:World}{K:PySem.W.Frag}{mg:Str→Option Value}{base:Heap}
def qcb:Sp:=fun vs H Q _=>∃ L us hs S,vs=[.ref L]∧H L=some (.lst us)∧HsV H us hs∧okHs hs S∧∀ (D:Addr) (ns:List Int) (H':Hp),Same H H'→H D=none→H' D=some (.lst (ns.map V.int))→ns.Perm (uniq (allC hs))→ns.Pairwise (·≤·)→Q (.ref D) H'
abbrev qdq:Stmt:=top 38
theorem ygd:FnScope ["harms","cells","harm"] ["harms"] (qad qdq):=⟨rfl,rfl,rfl,by decide +kernel,rfl,by decide +kernel,by decide +kernel⟩
theorem qi6 (B:Bl mg) (yhm:mg "set" = none) (qf8:Has P w K mg base 6 "look_at_harms" ["thing"] qc6) (qcr:Has P w K mg base 1 "cells_in" ["harm"] qc5) (F:FnAt K mg "cells_of" qdq ["harms"]):Has P w K mg base 7 "cells_of" ["harms"] qcb:=by
 refine Has.of F ygd (fun vs H Q E h=>?_) (fun f cdv A outer s H vs Q E hr h=>?_)
 ·obtain ⟨L,us,hs,S,rfl,_⟩:=h
  rfl
 ·obtain ⟨L,us,hs,S,rfl,hL,hv,ok,k⟩:=h
  have sc:=ygd
  refine ⟨_,(qae (qav (qaf qf8 hr (qaa (pv 0) yab)))
   (qae (yaw (i:=1) sc.nd rfl (Or.inl rfl) (qau yab))
   (qae (qa8 PassesOwn.never rfl (qar (pv 0)) (qag (i:=2) sc.nd rfl (Or.inl rfl))
    (yad (qav (yfg PySem.F.plainAttrs_list PySem.F.slot_list_extend PySem.F.type_list_extend qgh (pv 1) (qaa (qaf qcr hr (qaa (pv 2) yab)) yab)))))
   (yad (yao (yai (yip rfl) rfl (B.of rfl) qic (qaa (qbj (yfw rfl) rfl yhm qf7 (qaa (pv 1) yab)) yab))))))),?_⟩
  refine ⟨_,rfl,L,us,hs,S,rfl,hL,hv,ok,fun H1 s1=>?_⟩
  refine ⟨Nat.zero_le _,fun p hp=>?_⟩
  have hp0:H p=none:=s1.free hp
  have npL:L≠p:=yae hL hp0
  refine ⟨_,rfl,L,rfl,⟨us,SqL.of (by rw[yaj npL];exact s1 _ _ hL)⟩,yay (xs:=us) (fun i σ H2=>∃ (o2:Option V),σ=[some (.ref L),some (.ref p),o2]∧Same H H2∧H2 p=some (.lst ((allC (hs.take i)).map V.int)))
   ⟨none,rfl,s1.upd hp,yaa⟩ (fun i σ H2 _ ⟨_,_,h,_⟩=>SqL.of (h _ _ hL)) ?_ ?_⟩
  ·rintro i x σ H2 hx ⟨o2,rfl,s2,e2⟩
   obtain ⟨g,hg,hat⟩:=hv.get hx
   obtain ⟨ns,og⟩:=ok.ok g (List.mem_of_getElem? hg)
   refine ⟨_,rfl,.inl ⟨rfl,_,SqL.of e2⟩,?_⟩
   refine ⟨_,rfl,x,g,ns,rfl,HAt.same s2 hat,og,fun D H4 s4 hD eD=>?_⟩
   have hsub:∀ h∈hs.take (i+1),h∈hs:=fun h hh=>List.mem_of_mem_take hh
   have hlt:(allC (hs.take (i+1))).length≤6:=by
    have h1:=ok.clen hsub
    have h2:=ok.len
    rw[List.length_take] at h1
    omega
   refine ⟨p,D,_,_,rfl,rfl,s4 _ _ e2,eD,?_,?_⟩
   ·rw[← List.length_append,← List.map_append,← yei hg,List.length_map]
    exact Nat.le_of_lt (ya9 (by omega))
   rw[← List.map_append,← yei hg]
   exact ⟨_,rfl,(s2.trans s4).at hp0,yaa⟩
  ·rintro σ H2 ⟨o2,rfl,s2,e2⟩
   rw[hv.len,List.take_length] at e2
   have hc:=ok.clen (l:=hs) (fun h hh=>hh)
   have h3:=ok.len
   refine ⟨_,rfl,p,_,rfl,e2,by omega,fun q hq=>?_⟩
   have s6:Same H2 (upd H2 q (SetO P w q (uniq (allC hs)))):=(Same.refl H2).upd hq
   refine ⟨q,_,rfl,yaa,by have:=ok.few (l:=hs) (fun h hh=>hh);omega,fun l ns hl hpm hso=>?_⟩
   exact k l ns _ ((s2.trans s6).upd hl) ((s2.trans s6).free hl) yaa hpm hso
end
def Hm.cell (h:Hm) (i:Nat):Int:=h.c.getD i 0
def Hm.bit (h:Hm) (i:Nat):Int:=match h.r.getD i .non with | .int v=>v|_=>0
theorem qhm {vs:List V} (h:Rest ["bit"] vs):∃ b,vs=[.int (b2i b)]:=by
 cases h with
 | bit hb h=>
  cases h
  obtain ⟨b,rfl⟩:=hb
  exact ⟨b,rfl⟩
theorem yl8 {vs:List V} (h:Rest ["bit","bit"] vs):∃ b c,vs=[.int (b2i b),.int (b2i c)]:=by
 cases h with
 | bit hb h=>
  obtain ⟨b,rfl⟩:=hb
  obtain ⟨c,rfl⟩:=qhm h
  exact ⟨b,c,rfl⟩
theorem rest_how {vs:List V} (h:Rest ["how"] vs):∃ v,vs=[v]∧howV v:=by
 cases h with
 | how hb h=>
  cases h
  exact ⟨_,rfl,hb⟩
theorem map_str {ns ms:List Str} (h:ns.map V.str=ms.map V.str):ns=ms:=List.map_inj_right (fun _ _ e=>V.str.inj e) |>.mp h
theorem ybx {h:Hm}{ns:List Str} (o:okH h ns):(∃ a,h.c=[a])∨∃ a b,h.c=[a,b]:=by
 obtain ⟨h1,h2⟩:=o.cl
 match hc:h.c with
 | []=>rw[hc] at h1;simp at h1
 | [a]=>exact .inl ⟨a,rfl⟩
 | [a,b]=>exact .inr ⟨a,b,rfl⟩
 | _::_::_::_=>rw[hc] at h2;simp at h2
theorem yjx {h:Hm}{ns N:List Str} (o:okH h ns) (hw:KTD.datumAt h.w tabP=some (N.map V.str)):List.replicate h.c.length ("cell" : Str)++ns=N:=by
 have e:=Option.some.inj (o.tab.symm.trans hw)
 unfold qbs at e
 apply map_str
 rw[← e,List.map_append,List.map_replicate]
theorem qfx:("cell" : Str)≠"bit":=by decide +kernel
theorem yix:("cell" : Str)≠"how":=by decide +kernel
theorem okH.s1 {h:Hm}{ns:List Str} (o:okH h ns) (hw:KTD.datumAt h.w tabP=some ((["cell","bit"]:List Str).map V.str)):∃ a b,h.c=[a]∧h.r=[.int (b2i b)]:=by
 have e:=yjx o hw
 have hr:=o.rest
 rcases ybx o with ⟨a,hc⟩|⟨a,b,hc⟩
 ·rw[hc] at e
  obtain ⟨_,rfl⟩:=List.cons.inj e
  obtain ⟨b,hb⟩:=qhm hr
  exact ⟨a,b,hc,hb⟩
 ·rw[hc] at e
  exact absurd (List.cons.inj (List.cons.inj e).2).1 qfx
theorem okH.c2 {h:Hm}{ns N:List Str} (o:okH h ns) (hw:KTD.datumAt h.w tabP=some ((("cell" : Str)::("cell" : Str)::N:List Str).map V.str)) (hN:∀ n∈ns,n≠"cell"):∃ a b,h.c=[a,b]∧ns=N:=by
 have e:=yjx o hw
 rcases ybx o with ⟨a,hc⟩|⟨a,b,hc⟩
 ·rw[hc] at e
  have e2:=(List.cons.inj e).2
  exact absurd rfl (hN "cell" (by show ("cell" : Str)∈ns;rw[show ns=("cell" : Str)::N from e2];simp))
 ·rw[hc] at e
  exact ⟨a,b,hc,(List.cons.inj (List.cons.inj e).2).2⟩
theorem Rest.nocell {ns:List Str}{vs:List V} (h:Rest ns vs):∀ n∈ns,n≠"cell":=by
 induction h with
 | nil=>intro n h;simp at h
 | bit _ _ ih=>
  intro n hn
  rcases List.mem_cons.mp hn with rfl|hn
  ·exact qfx.symm
  ·exact ih n hn
 | how _ _ ih=>
  intro n hn
  rcases List.mem_cons.mp hn with rfl|hn
  ·exact yix.symm
  ·exact ih n hn
theorem okH.sTurns {h:Hm}{ns:List Str} (o:okH h ns) (hw:KTD.datumAt h.w tabP=some ((["cell","cell","bit"]:List Str).map V.str)):∃ a b x,h.c=[a,b]∧h.r=[.int (b2i x)]:=by
 obtain ⟨a,b,hc,rfl⟩:=o.c2 hw o.rest.nocell
 obtain ⟨x,hx⟩:=qhm o.rest
 exact ⟨a,b,x,hc,hx⟩
theorem okH.sSets {h:Hm}{ns:List Str} (o:okH h ns) (hw:KTD.datumAt h.w tabP=some ((["cell","cell","bit","bit"]:List Str).map V.str)):∃ a b x y,h.c=[a,b]∧h.r=[.int (b2i x),.int (b2i y)]:=by
 obtain ⟨a,b,hc,rfl⟩:=o.c2 hw o.rest.nocell
 obtain ⟨x,y,hx⟩:=yl8 o.rest
 exact ⟨a,b,x,y,hc,hx⟩
theorem okH.sOther {h:Hm}{ns:List Str} (o:okH h ns) (hw:KTD.datumAt h.w tabP=some ((["cell","cell"]:List Str).map V.str)):∃ a b,h.c=[a,b]∧h.r=[]:=by
 obtain ⟨a,b,hc,rfl⟩:=o.c2 hw o.rest.nocell
 have:=o.rest
 cases hr:h.r with
 | nil=>exact ⟨a,b,hc,rfl⟩
 | cons v l=>rw[hr] at this;cases this
theorem okH.sBoth {h:Hm}{ns:List Str} (o:okH h ns) (hw:KTD.datumAt h.w tabP=some ((["cell","cell","how"]:List Str).map V.str)):∃ a b v,h.c=[a,b]∧h.r=[v]∧howV v:=by
 obtain ⟨a,b,hc,rfl⟩:=o.c2 hw o.rest.nocell
 obtain ⟨v,hv,hw⟩:=rest_how o.rest
 exact ⟨a,b,v,hc,hv,hw⟩
theorem okH.at1 {h:Hm}{ns:List Str} (o:okH h ns):(hV h)[1]?=some (.int (h.cell 0)):=by
 rcases ybx o with ⟨a,hc⟩|⟨a,b,hc⟩<;>(unfold hV Hm.cell;rw[hc];rfl)
theorem qbc {s:Str} (h:s="stuck"∨s="slow"∨s="forgets"∨s="misreads"∨s="nowhere"):KTD.datumAt s tabP=some ((["cell","bit"]:List Str).map V.str):=by
 rcases h with rfl|rfl|rfl|rfl|rfl<;>decide +kernel
theorem ycs:KTD.datumAt ("turns" : Str) tabP=some ((["cell","cell","bit"]:List Str).map V.str):=by decide +kernel
theorem ybc {s:Str} (h:s="sets"∨s="keeps"):KTD.datumAt s tabP=some ((["cell","cell","bit","bit"]:List Str).map V.str):=by
 rcases h with rfl|rfl<;>decide +kernel
theorem ycr:KTD.datumAt ("other" : Str) tabP=some ((["cell","cell"]:List Str).map V.str):=by decide +kernel
theorem qcg:KTD.datumAt ("both" : Str) tabP=some ((["cell","cell","how"]:List Str).map V.str):=by decide +kernel
def qa1 (cell:Int) (h:Hm):Bool:=h.w == "stuck" && h.cell 0 == cell
def ya4 (hs:List Hm) (cell:Int):Option Int:=(hs.find? (qa1 cell)).map (fun h=>h.bit 0)
def optI:Option Int→V
 | none=>.non
 | some b=>.int b
def putM (hs:List Hm) (cs:List Int) (cell bit:Int):List Int:=if (ya4 hs cell).isNone then cs.set cell.toNat bit else cs
theorem ydl {α:Type}{p:α→Bool}{l:List α}{i:Nat}{x:α} (h0:(l.take i).find? p=none) (hx:l[i]?=some x) :
  (p x=true→l.find? p=some x)∧(p x=false→(l.take (i+1)).find? p=none):=by
 constructor
 ·intro hp
  have hi:=(List.getElem?_eq_some_iff.mp hx).1
  have e:l=l.take i++x::l.drop (i+1):=by
   have:=List.getElem_cons_drop (as:=l) (i:=i) hi
   rw[(List.getElem?_eq_some_iff.mp hx).2] at this
   rw[this,List.take_append_drop]
  rw[e,List.find?_append,h0]
  simp[hp]
 ·intro hp
  rw[List.take_add_one,hx,List.find?_append,h0]
  simp[hp]
def Oks (hs:List Hm):Prop:=∀ h∈hs,∃ ns,okH h ns
section
variable {P:Program}{w:World}{K:PySem.W.Frag}{mg:Str→Option Value}{base:Heap}
def ydh:Sp:=fun vs H Q _=>∃ L us hs cell,vs=[.ref L,.int cell]∧H L=some (.lst us)∧HsV H us hs∧Oks hs∧Q (optI (ya4 hs cell)) H
abbrev ycu:Stmt:=top 43
theorem yfd:FnScope ["harms","cell","harm"] ["harms","cell"] (qad ycu):=⟨rfl,rfl,rfl,by decide +kernel,rfl,by decide +kernel,by decide +kernel⟩
theorem yil (F:FnAt K mg "stuck_bit" ycu ["harms","cell"]):Has P w K mg base 1 "stuck_bit" ["harms","cell"] ydh:=by
 refine Has.of F yfd (fun vs H Q E h=>?_) (fun f cdv A outer s H vs Q E hr h=>?_)
 ·obtain ⟨L,us,hs,cell,rfl,_⟩:=h
  rfl
 ·obtain ⟨L,us,hs,cell,rfl,hL,hv,ok,k⟩:=h
  have sc:=yfd
  refine ⟨_,(qae (qa8 PassesOwn.never rfl (qar (pv 0)) (qag (i:=2) sc.nd rfl (Or.inl rfl))
    (yad (ya6 (PW.pt (qbi (yah qax (qah qak (pv 2) qab (fun _ _=>rfl)) qam (qai _)) (qbg (yah qax (qah qak (pv 2) qab (fun _ _=>rfl)) (pv 1) (qai _)))))
     (yad (yao (qah qak (pv 2) qab (fun _ _=>rfl))))
     qap)))
   (yad (yao qe6))),?_⟩
  refine ⟨_,rfl,L,rfl,⟨us,SqL.of hL⟩,yay (xs:=us) (fun i σ H2=>∃ (o2:Option V),σ=[some (.ref L),some (.int cell),o2]∧H2=H∧(hs.take i).find? (qa1 cell)=none)
   ⟨none,rfl,rfl,rfl⟩ (fun i σ H2 _ ⟨_,_,h,_⟩=>by subst h;exact SqL.of hL) ?_ ?_⟩
  ·rintro i x σ H2 hx ⟨o2,rfl,rfl,hn⟩
   obtain ⟨g,hg,a,rfl,ha⟩:=hv.get hx
   obtain ⟨ns,og⟩:=ok g (List.mem_of_getElem? hg)
   obtain ⟨f1,f2⟩:=ydl hn hg
   refine ⟨_,rfl,a,_,_,_,rfl,rfl,SqT.of ha,qac 0 rfl,rfl,_,rfl,?_⟩
   by_cases hw:g.w="stuck"
   ·refine iteB (by rw[decide_eq_true_iff];exact congrArg V.str hw) ?_
    refine ⟨_,rfl,a,_,_,_,rfl,rfl,SqT.of ha,qac 1 og.at1,_,rfl,rfl,_,rfl,?_⟩
    by_cases hc:g.cell 0=cell
    ·refine iteB (by rw[decide_eq_true_iff];exact congrArg V.int hc) ?_
     obtain ⟨c,b,ec,er⟩:=og.s1 (qbc (.inl hw))
     refine ⟨_,rfl,a,_,_,_,rfl,rfl,SqT.of ha,qac 2 (show (hV g)[2]?=some (.int (g.bit 0)) by unfold hV Hm.bit;rw[ec,er];rfl),?_⟩
     have:=f1 (by unfold qa1;rw[hw,hc];simp)
     unfold ya4 at k
     rw[this] at k
     exact k
    ·refine iteN (by rw[decide_eq_false_iff_not];intro z;exact hc (V.int.inj z)) ?_
     exact ⟨_,rfl,rfl,f2 (by unfold qa1;simp[hc])⟩
   ·refine iteN (by rw[decide_eq_false_iff_not];intro z;exact hw (V.str.inj z)) ?_
    exact ⟨_,rfl,rfl,f2 (by unfold qa1;simp[hw])⟩
  ·rintro σ H2 ⟨o2,rfl,rfl,hn⟩
   rw[hv.len,List.take_length] at hn
   unfold ya4 at k
   rw[hn] at k
   exact k
end
def rd (cs:List Int) (c:Int):Int:=cs.getD c.toNat 0
theorem qc1 {cs:List Int}{c:Int} (h0:0≤c) (h1:c<cs.length):atI (cs.map V.int) c=some (.int (rd cs c)):=by
 refine qe0 h0 ?_
 have:c.toNat<cs.length:=by omega
 unfold rd
 rw[List.getElem?_map,List.getD_eq_getElem?_getD,List.getElem?_eq_getElem this]
 rfl
theorem qk4 {n:Nat}{c:Int} (h0:0≤c) (h1:c<n):ixN n c=some c.toNat:=by
 unfold ixN
 rw[if_pos h0,if_pos h1]
theorem HAt.upd {H:Hp}{C:Addr}{xs ys:List V}{v:V}{h:Hm} (x:HAt H v h) (hC:H C=some (.lst xs)):HAt (upd H C (.lst ys)) v h:=by
 obtain ⟨a,rfl,ha⟩:=x
 exact ⟨a,rfl,by rw[yaj (fun z=>by subst z;rw[hC] at ha;cases ha)];exact ha⟩
theorem HsV.upd {H:Hp}{C:Addr}{xs ys us:List V}{hs:List Hm} (x:HsV H us hs) (hC:H C=some (.lst xs)):HsV (L2.upd H C (.lst ys)) us hs:=⟨x.len,fun i v h a b=>HAt.upd (x.at_ i v h a b) hC⟩
theorem upd_id {H:Hp}{C:Addr}{o:HO} (h:H C=some o):upd H C o=H:=by
 funext b
 by_cases e:b=C
 ·subst e;rw[yaa,h]
 ·rw[yaj e]
theorem map_set (cs:List Int) (i:Nat) (b:Int):(cs.map V.int).set i (.int b)=(cs.set i b).map V.int:=by rw[List.map_set]
theorem qbr (hs:List Hm) (cs:List Int) (c b:Int):(putM hs cs c b).length=cs.length:=by
 unfold putM
 split<;>simp
structure Mem (H:Hp) (L C:Addr) (us:List V) (hs:List Hm) (cs:List Int):Prop where
 ne:L≠C
 hl:H L=some (.lst us)
 hv:HsV H us hs
 ok:Oks hs
 hc:H C=some (.lst (cs.map V.int))
theorem Mem.upd {H:Hp}{L C:Addr}{us:List V}{hs:List Hm}{cs:List Int} (m:Mem H L C us hs cs) (ds:List Int):Mem (L2.upd H C (.lst (ds.map V.int))) L C us hs ds:=
 ⟨m.ne,by rw[yaj m.ne];exact m.hl,m.hv.upd m.hc,m.ok,yaa⟩
theorem Mem.same {H H':Hp}{L C:Addr}{us:List V}{hs:List Hm}{cs:List Int} (s:Same H H') (m:Mem H L C us hs cs):Mem H' L C us hs cs:=
 ⟨m.ne,s _ _ m.hl,m.hv.same s,m.ok,s _ _ m.hc⟩
section
variable {P:Program}{w:World}{K:PySem.W.Frag}{mg:Str→Option Value}{base:Heap}
def qig:Sp:=fun vs H Q _=>∃ L C us hs cs cell bit,vs=[.ref L,.ref C,.int cell,.int bit]∧Mem H L C us hs cs∧0≤cell∧cell<cs.length∧Q .non (upd H C (.lst ((putM hs cs cell bit).map V.int)))
abbrev s_put:Stmt:=top 44
theorem sc_put:FnScope ["harms","cells","cell","bit"] ["harms","cells","cell","bit"] (qad s_put):=⟨rfl,rfl,rfl,by decide +kernel,rfl,by decide +kernel,by decide +kernel⟩
theorem ok_put (yd5:Has P w K mg base 1 "stuck_bit" ["harms","cell"] ydh) (F:FnAt K mg "put" s_put ["harms","cells","cell","bit"]):Has P w K mg base 2 "put" ["harms","cells","cell","bit"] qig:=by
 refine Has.of F sc_put (fun vs H Q E h=>?_) (fun f cdv A outer s H vs Q E hr h=>?_)
 ·obtain ⟨L,C,us,hs,cs,cell,bit,rfl,_⟩:=h
  rfl
 ·obtain ⟨L,C,us,hs,cs,cell,bit,rfl,m,h0,h1,k⟩:=h
  have sc:=sc_put
  refine ⟨_,(yad (ya6 (qf0 (qgv (qaf yd5 hr (qaa (pv 0) (qaa (pv 2) yab)))))
    (yad (yl1 (pv 3) (qlq (pv 1) (pv 2) qhk)))
    qap)),?_⟩
  refine ⟨_,rfl,_,rfl,L,us,hs,cell,rfl,m.hl,m.hv,m.ok,?_⟩
  unfold putM at k
  cases e:ya4 hs cell with
  | none=>
   rw[e] at k
   refine ⟨_,rfl,iteT ?_⟩
   refine ⟨_,rfl,_,rfl,_,rfl,C,_,cell,_,rfl,rfl,m.hc,qk4 h0 (by simpa using h1),?_⟩
   rw[map_set]
   exact k
  | some b=>
   rw[e] at k
   refine ⟨_,rfl,iteF ?_⟩
   rw[if_neg (by simp),upd_id m.hc] at k
   exact k
end
end Mh
namespace Mh
open PySem L2 PyProof.Rows Mx
def stkN (hs:List Hm) (cs:List Int):Nat→List Int
 | 0=>cs
 | n+1=>match ya4 hs n with|some b=>(stkN hs cs n).set n b|none=>stkN hs cs n
theorem ybb (hs:List Hm) (cs:List Int):∀ n,(stkN hs cs n).length=cs.length
 | 0=>rfl
 | n+1=>by
  have ih:=ybb hs cs n
  unfold stkN
  split<;>simp[ih]
def keepOne (hs:List Hm) (cs:List Int) (h:Hm):List Int:=if h.w="keeps"∧rd cs (h.cell 0)=h.bit 0 then putM hs cs (h.cell 1) (h.bit 1) else cs
theorem yfx (hs:List Hm) (cs:List Int) (h:Hm):(keepOne hs cs h).length=cs.length:=by
 unfold keepOne
 split
 ·exact qbr _ _ _ _
 ·rfl
def keepN (hs:List Hm) (l:List Hm) (cs:List Int):List Int:=l.foldl (keepOne hs) cs
theorem qf9 (hs:List Hm) (l:List Hm) (cs:List Int):(keepN hs l cs).length=cs.length:=by
 induction l generalizing cs with
 | nil=>rfl
 | cons a l ih=>exact (ih _).trans (yfx _ _ _)
theorem yb9 {α β:Type} (f:β→α→β) (b:β) {l:List α}{i:Nat}{x:α} (h:l[i]?=some x):(l.take (i+1)).foldl f b=f ((l.take i).foldl f b) x:=by
 rw[List.take_add_one,h,List.foldl_append]
 rfl
def yan (hs:List Hm) (cs:List Int):List Int:=keepN hs hs (stkN hs cs cs.length)
theorem yd6 (hs:List Hm) (cs:List Int):(yan hs cs).length=cs.length:=(qf9 _ _ _).trans (ybb _ _ _)
def InR (hs:List Hm) (n:Nat):Prop:=∀ h∈hs,∀ c∈h.c,0≤c∧c<n
theorem InR.c0 {hs:List Hm}{n:Nat} (r:InR hs n) {h:Hm} (hh:h∈hs) {ns:List Str} (o:okH h ns):0≤h.cell 0∧h.cell 0<n:=by
 refine r h hh _ ?_
 rcases ybx o with ⟨a,hc⟩|⟨a,b,hc⟩<;>(unfold Hm.cell;rw[hc];simp)
theorem InR.c1 {hs:List Hm}{n:Nat} (r:InR hs n) {h:Hm} (hh:h∈hs) {a b:Int} (hc:h.c=[a,b]):0≤h.cell 1∧h.cell 1<n:=by
 refine r h hh _ ?_
 unfold Hm.cell
 rw[hc]
 simp
theorem yf2 {h:Hm}{a b:Int}{l:List V} (hc:h.c=[a,b]) (hr:h.r=l):hV h=.str h.w :: .int (h.cell 0) :: .int (h.cell 1)::l:=by
 unfold hV Hm.cell
 rw[hc,hr]
 rfl
theorem dS {a b:Str}:decide (V.str a=V.str b)=decide (a=b):=by
 by_cases h:a=b
 ·subst h;simp
 ·rw[decide_eq_false h,decide_eq_false (fun z=>h (V.str.inj z))]
theorem dI {a b:Int}:decide (V.int a=V.int b)=decide (a=b):=by
 by_cases h:a=b
 ·subst h;simp
 ·rw[decide_eq_false h,decide_eq_false (fun z=>h (V.int.inj z))]
section
variable {P:Program}{w:World}{K:PySem.W.Frag}{mg:Str→Option Value}{base:Heap}
def qir:Sp:=fun vs H Q _=>∃ L C us hs cs,vs=[.ref L,.ref C]∧Mem H L C us hs cs∧InR hs cs.length∧cs.length≤64∧Q .non (upd H C (.lst ((yan hs cs).map V.int)))
abbrev yfl:Stmt:=top 45
theorem yhs:FnScope ["harms","cells","cell","bit","harm"] ["harms","cells"] (qad yfl):=⟨rfl,rfl,rfl,by decide +kernel,rfl,by decide +kernel,by decide +kernel⟩
theorem qlg (B:Bl mg) (yd5:Has P w K mg base 1 "stuck_bit" ["harms","cell"] ydh) (qi1:Has P w K mg base 2 "put" ["harms","cells","cell","bit"] qig) (F:FnAt K mg "settle" yfl ["harms","cells"]):Has P w K mg base 3 "settle" ["harms","cells"] qir:=by
 refine Has.of F yhs (fun vs H Q E h=>?_) (fun f cdv A outer s H vs Q E hr h=>?_)
 ·obtain ⟨L,C,us,hs,cs,rfl,_⟩:=h
  rfl
 ·obtain ⟨L,C,us,hs,cs,rfl,m,hi,hcl,k⟩:=h
  have sc:=yhs
  refine ⟨_,(qae (qa8 PassesOwn.never rfl (yb8 rfl (B.of rfl) (qaa (yai yag rfl (B.of rfl) boot_len (qaa (pv 1) yab)) yab)) (qag (i:=2) sc.nd rfl (Or.inl rfl))
    (qae (yaw (i:=3) sc.nd rfl (Or.inl rfl) (qaf yd5 hr (qaa (pv 0) (qaa (pv 2) yab))))
    (yad (ya6 (qf0 (qja (pv 3)))
     (yad (yl1 (pv 3) (qlq (pv 1) (pv 2) qhk)))
     qap))))
   (yad (qa8 PassesOwn.never rfl (qar (pv 0)) (qag (i:=4) sc.nd rfl (Or.inl rfl))
    (yad (ya6 (PW.pt (qbi (yah qax (qah qak (pv 4) qab (fun _ _=>rfl)) qam (qai _)) (qbg (yah qax (qah qaj (pv 1) (qah qak (pv 4) qab (fun _ _=>rfl)) (fun _ _=>rfl)) (qah qak (pv 4) qab (fun _ _=>rfl)) (qai _)))))
     (yad (qav (qaf qi1 hr (qaw (pv 0) (qaw (pv 1) (qaa (qah qak (pv 4) qab (fun _ _=>rfl)) (qaa (qah qak (pv 4) qab (fun _ _=>rfl)) yab)))))))
     qap))))),?_⟩
  refine ⟨_,rfl,C,_,rfl,.inl (SqL.of m.hc),cs.length,(by rw[List.length_map]),(by omega),(by omega),qej (n:=cs.length) (fun i σ H2=>∃ (o2 o3:Option V),σ=[some (.ref L),some (.ref C),o2,o3,none]∧H2=upd H C (.lst ((stkN hs cs i).map V.int)))
   ⟨none,none,rfl,(upd_id m.hc).symm⟩ ?_ ?_⟩
  ·rintro i σ H2 hlt ⟨o2,o3,rfl,rfl⟩
   have m2:=m.upd (stkN hs cs i)
   rw[Int.zero_add]
   refine ⟨_,rfl,_,rfl,L,us,hs,i,rfl,m2.hl,m2.hv,m2.ok,?_⟩
   cases e:ya4 hs i with
   | none=>
    refine ⟨_,rfl,_,rfl,iteF ?_⟩
    exact ⟨_,_,rfl,by rw[stkN,e]⟩
   | some b=>
    refine ⟨_,rfl,_,rfl,iteT ?_⟩
    refine ⟨_,rfl,_,rfl,_,rfl,C,_,i,_,rfl,rfl,m2.hc,qk4 (by omega) (by rw[List.length_map,ybb];omega),?_⟩
    refine ⟨_,_,rfl,?_⟩
    rw[show optI (some b)=V.int b from rfl,map_set,qk3,stkN,e]
    rfl
  ·rintro σ H2 ⟨o2,o3,rfl,rfl⟩
   have m2:=m.upd (stkN hs cs cs.length)
   refine ⟨_,rfl,L,rfl,⟨us,SqL.of m2.hl⟩,yay (xs:=us) (fun i σ H2=>∃ (o4:Option V),σ=[some (.ref L),some (.ref C),o2,o3,o4]∧H2=upd H C (.lst ((keepN hs (hs.take i) (stkN hs cs cs.length)).map V.int)))
    ⟨none,rfl,rfl⟩ (fun i σ H2 _ ⟨_,_,h⟩=>by subst h;exact SqL.of (by rw[yaj m.ne];exact m.hl)) ?_ ?_⟩
   ·rintro i x σ H2 hx ⟨o4,rfl,rfl⟩
    have hlen:=(qf9 hs (hs.take i) (stkN hs cs cs.length)).trans (ybb hs cs cs.length)
    have m3:=m.upd (keepN hs (hs.take i) (stkN hs cs cs.length))
    have step:∀ g,hs[i]?=some g→keepN hs (hs.take (i+1)) (stkN hs cs cs.length)=keepOne hs (keepN hs (hs.take i) (stkN hs cs cs.length)) g:=fun g hg=>yb9 _ _ hg
    revert hlen m3 step
    generalize keepN hs (hs.take i) (stkN hs cs cs.length)=ds
    intro hlen m3 step
    obtain ⟨g,hg,a,rfl,ha⟩:=m3.hv.get hx
    have hgm:=List.mem_of_getElem? hg
    obtain ⟨ns,og⟩:=m.ok g hgm
    rw[step g hg]
    unfold keepOne
    refine ⟨_,rfl,a,_,_,_,rfl,rfl,SqT.of ha,qac 0 rfl,rfl,_,rfl,?_⟩
    rw[dS]
    by_cases hw:g.w="keeps"
    ·refine iteB (decide_eq_true hw) ?_
     obtain ⟨c1,c2,x1,x2,ec,er⟩:=og.sSets (ybc (.inr hw))
     have hb0:g.bit 0=b2i x1:=by unfold Hm.bit;rw[er];rfl
     have hb1:g.bit 1=b2i x2:=by unfold Hm.bit;rw[er];rfl
     rw[← hb0,← hb1] at er
     have ht:=yf2 ec er
     have c0:=hi.c0 hgm og
     have c1:=hi.c1 hgm ec
     rw[ht] at ha
     refine ⟨_,rfl,_,rfl,a,_,_,_,rfl,rfl,SqT.of ha,qac 1 rfl,C,_,_,_,rfl,rfl,SqL.of m3.hc,qc1 c0.1 (by omega),?_⟩
     refine ⟨_,rfl,a,_,_,_,rfl,rfl,SqT.of ha,qac 3 rfl,rfl,_,rfl,?_⟩
     rw[dI]
     by_cases hb:rd ds (g.cell 0)=g.bit 0
     ·refine iteB (decide_eq_true hb) ?_
      refine ⟨_,rfl,_,rfl,_,rfl,a,_,_,_,rfl,rfl,SqT.of ha,qac 2 rfl,_,rfl,a,_,_,_,rfl,rfl,SqT.of ha,qac 4 rfl,L,C,us,hs,ds,g.cell 1,g.bit 1,rfl,m3,c1.1,by omega,?_⟩
      rw[qk3,if_pos ⟨hw,hb⟩]
      exact ⟨_,rfl,rfl⟩
     ·refine iteN (decide_eq_false hb) ?_
      rw[if_neg (fun z=>hb z.2)]
      exact ⟨_,rfl,rfl⟩
    ·refine iteN (decide_eq_false hw) ?_
     rw[if_neg (fun z=>hw z.1)]
     exact ⟨_,rfl,rfl⟩
   ·rintro σ H2 ⟨o4,rfl,rfl⟩
    rw[m.hv.len,List.take_length]
    exact k
end
structure UpC (H:Hp) (C:Addr) (ds:List Int) (H':Hp):Prop where
 st:∀ b u,b≠C→H b=some u→H' b=some u
 at_:H' C=some (.lst (ds.map V.int))
theorem UpC.same {H H' H2:Hp}{C:Addr}{ds:List Int} (u:UpC H C ds H') (s:Same H' H2):UpC H C ds H2:=⟨fun b o h e=>s _ _ (u.st b o h e),s _ _ u.at_⟩
theorem UpC.trans {H H' H2:Hp}{C:Addr}{ds es:List Int} (u:UpC H C ds H') (v:UpC H' C es H2):UpC H C es H2:=⟨fun b o h e=>v.st b o h (u.st b o h e),v.at_⟩
theorem UpC.of {H H':Hp}{C:Addr}{cs:List Int} (s:Same H H') (h:H C=some (.lst (cs.map V.int))):UpC H C cs H':=⟨fun b o _ e=>s _ _ e,s _ _ h⟩
theorem UpC.put {H:Hp}{C:Addr}{ds:List Int}:UpC H C ds (upd H C (.lst (ds.map V.int))):=⟨fun b o h e=>by rw[yaj h];exact e,yaa⟩
theorem UpC.hat {H H':Hp}{C:Addr}{cs ds:List Int}{v:V}{h:Hm} (u:UpC H C ds H') (hc:H C=some (.lst (cs.map V.int))) (x:HAt H v h):HAt H' v h:=by
 obtain ⟨a,rfl,ha⟩:=x
 exact ⟨a,rfl,u.st a _ (fun z=>by subst z;rw[hc] at ha;cases ha) ha⟩
theorem Mem.upC {H H':Hp}{L C:Addr}{us:List V}{hs:List Hm}{cs ds:List Int} (m:Mem H L C us hs cs) (u:UpC H C ds H'):Mem H' L C us hs ds:=
 ⟨m.ne,u.st _ _ m.ne m.hl,⟨m.hv.len,fun i v h a b=>u.hat m.hc (m.hv.at_ i v h a b)⟩,m.ok,u.at_⟩
def ybe (a:Int) (h:Hm):Bool:=decide ((h.w="nowhere"∨h.w="other"∨h.w="both")∧h.cell 0=a)
def qa4 (hs:List Hm) (a:Int):Option Hm:=hs.find? (ybe a)
def OpH (H:Hp) (v:V):Option Hm→Prop
 | none=>v=.non
 | some h=>HAt H v h
theorem eqS {a s:Str}:(eqV (.str a) (.str s)=true)=(s=a):=by
 show ((a == s)=true)=_
 rw[beq_iff_eq]
 exact propext eq_comm
theorem in3 {s a b c:Str}:inV (.str s) [.str a,.str b,.str c]=decide (s=a∨s=b∨s=c):=by
 unfold inV
 rw[Bool.eq_iff_iff]
 simp[eqS]
theorem in2 {s a b:Str}:inV (.str s) [.str a,.str b]=decide (s=a∨s=b):=by
 unfold inV
 rw[Bool.eq_iff_iff]
 simp[eqS]
section
variable {P:Program}{w:World}{K:PySem.W.Frag}{mg:Str→Option Value}{base:Heap}
def ybu:Sp:=fun vs H Q _=>∃ L us hs a,vs=[.ref L,.int a]∧H L=some (.lst us)∧HsV H us hs∧Oks hs∧∀ v H',Same H H'→OpH H v (qa4 hs a)→Q v H'
abbrev qbe:Stmt:=top 46
theorem qch:FnScope ["harms","address","harm"] ["harms","address"] (qad qbe):=⟨rfl,rfl,rfl,by decide +kernel,rfl,by decide +kernel,by decide +kernel⟩
theorem yeh (F:FnAt K mg "harm_of_address" qbe ["harms","address"]):Has P w K mg base 1 "harm_of_address" ["harms","address"] ybu:=by
 refine Has.of F qch (fun vs H Q E h=>?_) (fun f cdv A outer s H vs Q E hr h=>?_)
 ·obtain ⟨L,us,hs,a,rfl,_⟩:=h
  rfl
 ·obtain ⟨L,us,hs,ad,rfl,hL,hv,ok,k⟩:=h
  have sc:=qch
  refine ⟨_,(qae (qa8 PassesOwn.never rfl (qar (pv 0)) (qag (i:=2) sc.nd rfl (Or.inl rfl))
    (yad (ya6 (PW.pt (qbi (yah ybj (qah qak (pv 2) qab (fun _ _=>rfl)) (qbf (qaa qam (qaa qam (qaa qam yab)))) (by with_unfolding_all rfl)) (qbg (yah qax (qah qak (pv 2) qab (fun _ _=>rfl)) (pv 1) (qai _)))))
     (yad (yao (pv 2)))
     qap)))
   (yad (yao qe6))),?_⟩
  refine ⟨_,rfl,L,rfl,⟨us,SqL.of hL⟩,yay (xs:=us) (fun i σ H2=>∃ (o2:Option V),σ=[some (.ref L),some (.int ad),o2]∧Same H H2∧(hs.take i).find? (ybe ad)=none)
   ⟨none,rfl,Same.refl H,rfl⟩ (fun i σ H2 _ ⟨_,_,h,_⟩=>SqL.of (h _ _ hL)) ?_ ?_⟩
  ·rintro i x σ H2 hx ⟨o2,rfl,s2,hn⟩
   obtain ⟨g,hg,hat⟩:=hv.get hx
   obtain ⟨a,rfl,ha⟩:=id hat
   obtain ⟨ns,og⟩:=ok g (List.mem_of_getElem? hg)
   obtain ⟨f1,f2⟩:=ydl hn hg
   have ha2:=s2 _ _ ha
   refine ⟨_,rfl,a,_,_,_,rfl,rfl,SqT.of ha2,qac 0 rfl,(by show 3≤sizeLine;decide),fun p hp=>⟨p,_,rfl,.inr (SqT.of yaa),rfl,rfl,_,rfl,?_⟩⟩
   rw[in3]
   have s3:Same H (upd H2 p (.tup [.str "nowhere",.str "other",.str "both"])):=s2.upd hp
   revert s3
   generalize upd H2 p (.tup [.str "nowhere",.str "other",.str "both"])=H3
   intro s3
   by_cases hw:g.w="nowhere"∨g.w="other"∨g.w="both"
   ·refine iteD hw ?_
    refine ⟨_,rfl,a,_,_,_,rfl,rfl,SqT.of (s3 _ _ ha),qac 1 og.at1,_,rfl,rfl,_,rfl,?_⟩
    rw[dI]
    by_cases hc:g.cell 0=ad
    ·refine iteD hc ?_
     refine ⟨_,rfl,k _ _ s3 ?_⟩
     unfold qa4
     rw[f1 (decide_eq_true ⟨hw,hc⟩)]
     exact hat
    ·refine qa0 hc ?_
     exact ⟨_,rfl,s3,f2 (decide_eq_false (fun z=>hc z.2))⟩
   ·refine qa0 hw ?_
    exact ⟨_,rfl,s3,f2 (decide_eq_false (fun z=>hw z.1))⟩
  ·rintro σ H2 ⟨o2,rfl,s2,hn⟩
   rw[hv.len,List.take_length] at hn
   refine k _ _ s2 ?_
   unfold qa4
   rw[hn]
   rfl
def ybf (o:Option Hm) (a:Int):List Int:=
 match o with
 | none=>[a]
 | some h=>if h.w="nowhere" then [] else if h.w="other" then [h.cell 1] else [a,h.cell 1]
theorem qbo {hs:List Hm}{a:Int}{h:Hm} (e:qa4 hs a=some h):h∈hs∧(h.w="nowhere"∨h.w="other"∨h.w="both")∧h.cell 0=a:=
 ⟨List.mem_of_find?_eq_some e,of_decide_eq_true (List.find?_some (p:=ybe a) e)⟩
def qb3:Sp:=fun vs H Q _=>∃ v o a,vs=[v,.int a]∧OpH H v o∧(∀ h,o=some h→(h.w="nowhere"∨h.w="other"∨h.w="both")∧∃ ns,okH h ns)∧∀ D H',Same H H'→H D=none→H' D=some (.lst ((ybf o a).map V.int))→Q (.ref D) H'
abbrev ybq:Stmt:=top 47
theorem yc9:FnScope ["harm","address"] ["harm","address"] (qad ybq):=⟨rfl,rfl,rfl,by decide +kernel,rfl,by decide +kernel,by decide +kernel⟩
theorem qfh (F:FnAt K mg "reached_cells" ybq ["harm","address"]):Has P w K mg base 1 "reached_cells" ["harm","address"] qb3:=by
 refine Has.of F yc9 (fun vs H Q E h=>?_) (fun f cdv A outer s H vs Q E hr h=>?_)
 ·obtain ⟨v,o,a,rfl,_⟩:=h
  rfl
 ·obtain ⟨v,o,ad,rfl,ho,hk,k⟩:=h
  have sc:=yc9
  refine ⟨_,(qae (ya6 (qf0 (qgv (pv 0)))
    (yad (yao (qau (qaa (pv 1) yab))))
    qap)
   (qae (ya6 (yah qax (qah qak (pv 0) qab (fun _ _=>rfl)) qam (qai _))
    (yad (yao (qau yab)))
    qap)
   (qae (ya6 (yah qax (qah qak (pv 0) qab (fun _ _=>rfl)) qam (qai _))
    (yad (yao (qau (qaa (qah qak (pv 0) qab (fun _ _=>rfl)) yab))))
    qap)
   (yad (yao (qau (qaa (pv 1) (qaa (qah qak (pv 0) qab (fun _ _=>rfl)) yab)))))))),?_⟩
  cases o with
  | none=>
   cases ho
   refine ⟨_,rfl,_,rfl,iteT ?_⟩
   refine ⟨_,rfl,(by show 1≤sizeLine;decide),fun p hp=>?_⟩
   exact k p _ ((Same.refl H).upd hp) hp yaa
  | some g=>
   obtain ⟨a,rfl,ha⟩:=ho
   obtain ⟨hw,ns,og⟩:=hk g rfl
   refine ⟨_,rfl,_,rfl,iteF ?_⟩
   refine ⟨_,rfl,a,_,_,_,rfl,rfl,SqT.of ha,qac 0 rfl,rfl,_,rfl,?_⟩
   rw[dS]
   by_cases h1:g.w="nowhere"
   ·refine iteD h1 ?_
    refine ⟨Nat.zero_le _,fun p hp=>k p _ ((Same.refl H).upd hp) hp ?_⟩
    rw[yaa]
    unfold ybf
    simp[h1]
   refine qa0 h1 ?_
   refine ⟨_,rfl,a,_,_,_,rfl,rfl,SqT.of ha,qac 0 rfl,rfl,_,rfl,?_⟩
   rw[dS]
   by_cases h2:g.w="other"
   ·refine iteD h2 ?_
    obtain ⟨c1,c2,ec,er⟩:=og.sOther (h2 ▸ ycr)
    rw[yf2 ec er] at ha
    refine ⟨_,rfl,a,_,_,_,rfl,rfl,SqT.of ha,qac 2 rfl,(by show 1≤sizeLine;decide),fun p hp=>k p _ ((Same.refl H).upd hp) hp ?_⟩
    rw[yaa]
    unfold ybf
    dsimp only
    rw[if_neg h1,if_pos h2]
    rfl
   refine qa0 h2 ?_
   have h3:g.w="both":=by
    rcases hw with h|h|h
    ·exact absurd h h1
    ·exact absurd h h2
    ·exact h
   obtain ⟨c1,c2,v,ec,er,_⟩:=og.sBoth (h3 ▸ qcg)
   rw[yf2 ec er] at ha
   refine ⟨_,rfl,_,rfl,a,_,_,_,rfl,rfl,SqT.of ha,qac 2 rfl,(by show 2≤sizeLine;decide),fun p hp=>k p _ ((Same.refl H).upd hp) hp ?_⟩
   rw[yaa]
   unfold ybf
   simp[h1,h2]
end
def ydx (cell held:Int) (h:Hm):Bool:=decide ((h.w="forgets"∨h.w="misreads")∧h.cell 0=cell∧h.bit 0=held)
def qbv (hs:List Hm) (cs:List Int) (cell:Int):Int×List Int:=
 match hs.find? (ydx cell (rd cs cell)) with
 | none=>(rd cs cell,cs)
 | some h=>(if h.w="forgets" then rd cs cell else rd (putM hs cs cell (1-rd cs cell)) cell,putM hs cs cell (1-rd cs cell))
theorem qil (hs:List Hm) (cs:List Int) (c:Int):(qbv hs cs c).2.length=cs.length:=by
 unfold qbv
 split
 ·rfl
 ·exact qbr _ _ _ _
theorem qie {h:Hm}{a:Int}{b:Bool} (hc:h.c=[a]) (hr:h.r=[.int (b2i b)]):hV h=[.str h.w,.int (h.cell 0),.int (h.bit 0)]:=by
 unfold hV Hm.cell Hm.bit
 rw[hc,hr]
 rfl
section
variable {P:Program}{w:World}{K:PySem.W.Frag}{mg:Str→Option Value}{base:Heap}
def yfb:Sp:=fun vs H Q _=>∃ L C us hs cs cell,vs=[.ref L,.ref C,.int cell]∧Mem H L C us hs cs∧0≤cell∧cell<cs.length∧∀ H',UpC H C (qbv hs cs cell).2 H'→Q (.int (qbv hs cs cell).1) H'
abbrev ycw:Stmt:=top 48
theorem qe2:FnScope ["harms","cells","cell","held","harm"] ["harms","cells","cell"] (qad ycw):=⟨rfl,rfl,rfl,by decide +kernel,rfl,by decide +kernel,by decide +kernel⟩
theorem qih (qi1:Has P w K mg base 2 "put" ["harms","cells","cell","bit"] qig) (F:FnAt K mg "read_cell" ycw ["harms","cells","cell"]):Has P w K mg base 3 "read_cell" ["harms","cells","cell"] yfb:=by
 refine Has.of F qe2 (fun vs H Q E h=>?_) (fun f cdv A outer s H vs Q E hr h=>?_)
 ·obtain ⟨L,C,us,hs,cs,cell,rfl,_⟩:=h
  rfl
 ·obtain ⟨L,C,us,hs,cs,cell,rfl,m,h0,h1,k⟩:=h
  have sc:=qe2
  refine ⟨_,(qae (yaw (i:=3) sc.nd rfl (Or.inl rfl) (qah qaj (pv 1) (pv 2) (fun _ _=>rfl)))
   (qae (qa8 PassesOwn.never rfl (qar (pv 0)) (qag (i:=4) sc.nd rfl (Or.inl rfl))
    (yad (ya6 (PW.pt (qbi (yah ybj (qah qak (pv 4) qab (fun _ _=>rfl)) (qbf (qaa qam (qaa qam yab))) (by with_unfolding_all rfl)) (qbi (yah qax (qah qak (pv 4) qab (fun _ _=>rfl)) (pv 2) (qai _)) (qbg (yah qax (qah qak (pv 4) qab (fun _ _=>rfl)) (pv 3) (qai _))))))
     (qae (qav (qaf qi1 hr (qaw (pv 0) (qaw (pv 1) (qaw (pv 2) (qaa (ya3 ye6 qab (pv 3)) yab))))))
     (yad (yao (yc5 (yah qax (qah qak (pv 4) qab (fun _ _=>rfl)) qam (qai _)) (pv 3) (qah qaj (pv 1) (pv 2) (fun _ _=>rfl))))))
     qap)))
   (yad (yao (pv 3))))),?_⟩
  refine ⟨_,rfl,_,rfl,C,_,_,_,rfl,rfl,SqL.of m.hc,qc1 h0 h1,?_⟩
  refine ⟨_,rfl,L,rfl,⟨us,SqL.of m.hl⟩,yay (xs:=us) (fun i σ H2=>∃ (o2:Option V),σ=[some (.ref L),some (.ref C),some (.int cell),some (.int (rd cs cell)),o2]∧Same H H2∧(hs.take i).find? (ydx cell (rd cs cell))=none)
   ⟨none,rfl,Same.refl H,rfl⟩ (fun i σ H2 _ ⟨_,_,h,_⟩=>SqL.of (h _ _ m.hl)) ?_ ?_⟩
  ·rintro i x σ H2 hx ⟨o2,rfl,s2,hn⟩
   obtain ⟨g,hg,a,rfl,ha⟩:=m.hv.get hx
   obtain ⟨ns,og⟩:=m.ok g (List.mem_of_getElem? hg)
   obtain ⟨f1,f2⟩:=ydl hn hg
   refine ⟨_,rfl,a,_,_,_,rfl,rfl,SqT.of (s2 _ _ ha),qac 0 rfl,(by show 2≤sizeLine;decide),fun p hp=>⟨p,_,rfl,.inr (SqT.of yaa),rfl,rfl,_,rfl,?_⟩⟩
   rw[in2]
   have s3:Same H (upd H2 p (.tup [.str "forgets",.str "misreads"])):=s2.upd hp
   revert s3
   generalize upd H2 p (.tup [.str "forgets",.str "misreads"])=H3
   intro s3
   by_cases hw:g.w="forgets"∨g.w="misreads"
   ·refine iteD hw ?_
    obtain ⟨c,b,ec,er⟩:=og.s1 (qbc (by rcases hw with h|h<;>simp[h]))
    rw[qie ec er] at ha
    have ha3:=s3 _ _ ha
    refine ⟨_,rfl,a,_,_,_,rfl,rfl,SqT.of ha3,qac 1 rfl,_,rfl,rfl,_,rfl,?_⟩
    rw[dI]
    by_cases hc:g.cell 0=cell
    ·refine iteD hc ?_
     refine ⟨_,rfl,a,_,_,_,rfl,rfl,SqT.of ha3,qac 2 rfl,_,rfl,rfl,_,rfl,?_⟩
     rw[dI]
     by_cases hb:g.bit 0=rd cs cell
     ·refine iteD hb ?_
      have e:=f1 (decide_eq_true ⟨hw,hc,hb⟩)
      unfold qbv at k
      rw[e] at k
      have m3:=m.same s3
      refine ⟨_,rfl,_,rfl,_,rfl,_,rfl,_,_,rfl,rfl,L,C,us,hs,cs,cell,1-rd cs cell,rfl,m3,h0,h1,?_⟩
      have u3:UpC H3 C (putM hs cs cell (1-rd cs cell)) (upd H3 C (.lst ((putM hs cs cell (1-rd cs cell)).map V.int))):=UpC.put
      have ha4:upd H3 C (.lst ((putM hs cs cell (1-rd cs cell)).map V.int)) a=_:=u3.st a _ (fun z=>by subst z;rw[m3.hc] at ha3;cases ha3) ha3
      have u4:=(UpC.of s3 m.hc).trans u3
      revert u3 u4 ha4
      generalize upd H3 C (.lst ((putM hs cs cell (1-rd cs cell)).map V.int))=H4
      intro u3 ha4 u4
      refine ⟨_,rfl,a,_,_,_,rfl,rfl,SqT.of ha4,qac 0 rfl,rfl,_,rfl,?_⟩
      rw[dS]
      by_cases hf:g.w="forgets"
      ·refine iteD hf ?_
       have:=k H4 u4
       dsimp only at this
       rw[if_pos hf] at this
       exact ⟨_,rfl,this⟩
      ·refine qa0 hf ?_
       have:=k H4 u4
       dsimp only at this
       rw[if_neg hf] at this
       exact ⟨_,rfl,_,rfl,C,_,_,_,rfl,rfl,SqL.of u4.at_,qc1 h0 (by rw[qbr];exact h1),this⟩
     ·refine qa0 hb ?_
      exact ⟨_,rfl,s3,f2 (decide_eq_false (fun z=>hb z.2.2))⟩
    ·refine qa0 hc ?_
     exact ⟨_,rfl,s3,f2 (decide_eq_false (fun z=>hc z.2.1))⟩
   ·refine qa0 hw ?_
    exact ⟨_,rfl,s3,f2 (decide_eq_false (fun z=>hw z.1))⟩
  ·rintro σ H2 ⟨o2,rfl,s2,hn⟩
   rw[m.hv.len,List.take_length] at hn
   unfold qbv at k
   rw[hn] at k
   exact ⟨_,rfl,k H2 (UpC.of s2 m.hc)⟩
end
def yat (hs:List Hm):List Int→List Int→List Int×List Int
 | [],cs=>([],cs)
 | c::l,cs=>((qbv hs cs c).1::(yat hs l (qbv hs cs c).2).1,(yat hs l (qbv hs cs c).2).2)
theorem qds (hs:List Hm):∀ (l cs:List Int),(yat hs l cs).2.length=cs.length
 | [],_=>rfl
 | c::l,cs=>(qds hs l _).trans (qil hs cs c)
theorem ycn (hs:List Hm):∀ (l cs:List Int),(yat hs l cs).1.length=l.length
 | [],_=>rfl
 | c::l,cs=>congrArg (· + 1) (ycn hs l _)
theorem qd8 (hs:List Hm) (c:Int):∀ (l cs:List Int),yat hs (l++[c]) cs=((yat hs l cs).1++[(qbv hs (yat hs l cs).2 c).1],(qbv hs (yat hs l cs).2 c).2)
 | [],cs=>rfl
 | d::l,cs=>by
  have ih:=qd8 hs c l (qbv hs cs d).2
  show (_::(yat hs (l++[c]) _).1,(yat hs (l++[c]) _).2)=_
  rw[ih]
  rfl
def loI (a b:Int):Int:=if a≤b then a else b
def hiI (a b:Int):Int:=if a≤b then b else a
theorem lo_of {a b M:Int} (h:M∈[a,b]) (h2:∀ x∈[a,b],M≤x):M=loI a b:=by
 have h3:=h2 a (by simp)
 have h4:=h2 b (by simp)
 simp at h
 unfold loI
 split<;>omega
theorem hi_of {a b M:Int} (h:M∈[a,b]) (h2:∀ x∈[a,b],x≤M):M=hiI a b:=by
 have h3:=h2 a (by simp)
 have h4:=h2 b (by simp)
 simp at h
 unfold hiI
 split<;>omega
def ql3 (o:Option Hm):Prop:=∃ h,o=some h∧h.r=[.str "and"]
open Classical in
noncomputable def qd4 (o:Option Hm):List Int→Int
 | []=>match o with|some h=>h.bit 0|none=>0
 | [b]=>b
 | b::c::_=>if ql3 o then loI b c else hiI b c
noncomputable def readAt (hs:List Hm) (cs:List Int) (a:Int):Int×List Int:=
 (qd4 (qa4 hs a) (yat hs (ybf (qa4 hs a) a) cs).1,(yat hs (ybf (qa4 hs a) a) cs).2)
theorem OpH.same {H H':Hp} (s:Same H H') {v:V}:∀ {o:Option Hm},OpH H v o→OpH H' v o
 | none,h=>h
 | some _,h=>HAt.same s h
theorem UpC.new {H H':Hp}{C p:Addr}{ds:List Int}{o:HO} (u:UpC H C ds H') (hp:H p=none) (hne:C≠p):UpC H C ds (upd H' p o):=
 ⟨fun b x h e=>by
  rw[yaj (fun z=>by subst z;rw[hp] at e;cases e)]
  exact u.st b x h e,by rw[yaj hne];exact u.at_⟩
theorem qek {hs:List Hm}{n:Nat} (r:InR hs n) (ok:Oks hs) {a:Int} (h0:0≤a) (h1:a<n):∀ c∈ybf (qa4 hs a) a,0≤c∧c<n:=by
 intro c hc
 unfold ybf at hc
 cases e:qa4 hs a with
 | none=>
  rw[e] at hc
  simp at hc
  subst hc
  exact ⟨h0,h1⟩
 | some h=>
  rw[e] at hc
  obtain ⟨hm,hw,_⟩:=qbo e
  obtain ⟨ns,o⟩:=ok h hm
  dsimp only at hc
  by_cases w1:h.w="nowhere"
  ·rw[if_pos w1] at hc;simp at hc
  rw[if_neg w1] at hc
  by_cases w2:h.w="other"
  ·rw[if_pos w2] at hc
   obtain ⟨c1,c2,ec,_⟩:=o.sOther (w2 ▸ ycr)
   simp at hc
   subst hc
   exact r.c1 hm ec
  ·rw[if_neg w2] at hc
   have h3:h.w="both":=by
    rcases hw with h|h|h
    ·exact absurd h w1
    ·exact absurd h w2
    ·exact h
   obtain ⟨c1,c2,v,ec,_⟩:=o.sBoth (h3 ▸ qcg)
   simp at hc
   rcases hc with rfl|rfl
   ·exact ⟨h0,h1⟩
   ·exact r.c1 hm ec
theorem yh8 {o:Option Hm}{a:Int}:(ybf o a).length≤2:=by
 unfold ybf
 split
 ·simp
 ·split
  ·simp
  ·split<;>simp
section
variable {P:Program}{w:World}{K:PySem.W.Frag}{mg:Str→Option Value}{base:Heap}
def qgr:Sp:=fun vs H Q _=>∃ L C us hs cs a,vs=[.ref L,.ref C,.int a]∧Mem H L C us hs cs∧InR hs cs.length∧0≤a∧a<cs.length∧∀ H',UpC H C (readAt hs cs a).2 H'→Q (.int (readAt hs cs a).1) H'
abbrev qee:Stmt:=top 49
theorem qgw:FnScope ["harms","cells","address","harm","bits","cell"] ["harms","cells","address"] (qad qee):=⟨rfl,rfl,rfl,by decide +kernel,rfl,by decide +kernel,by decide +kernel⟩
theorem yj3 (B:Bl mg) (qbz:Has P w K mg base 1 "harm_of_address" ["harms","address"] ybu) (yca:Has P w K mg base 1 "reached_cells" ["harm","address"] qb3) (yi7:Has P w K mg base 3 "read_cell" ["harms","cells","cell"] yfb) (F:FnAt K mg "read_at" qee ["harms","cells","address"]):Has P w K mg base 4 "read_at" ["harms","cells","address"] qgr:=by
 refine Has.of F qgw (fun vs H Q E h=>?_) (fun f cdv A outer s H vs Q E hr h=>?_)
 ·obtain ⟨L,C,us,hs,cs,a,rfl,_⟩:=h
  rfl
 ·obtain ⟨L,C,us,hs,cs,ad,rfl,m,hi,h0,h1,k⟩:=h
  have sc:=qgw
  refine ⟨_,(qae (yaw (i:=3) sc.nd rfl (Or.inl rfl) (qaf qbz hr (qaa (pv 0) (qaa (pv 2) yab))))
   (qae (yaw (i:=4) sc.nd rfl (Or.inl rfl) (qau yab))
   (qae (qa8 PassesOwn.never rfl (qar (qaf yca hr (qaa (pv 3) (qaa (pv 2) yab)))) (qag (i:=5) sc.nd rfl (Or.inl rfl))
    (yad (qav (yfg PySem.F.plainAttrs_list PySem.F.slot_list_append PySem.F.type_list_append ybh (pv 4) (qaa (qaf yi7 hr (qaa (pv 0) (qaa (pv 1) (qaa (pv 5) yab)))) yab)))))
   (qae (ya6 (yah qax (yai yag rfl (B.of rfl) boot_len (qaa (pv 4) yab)) qab (qai _))
    (yad (yao (qah qak (pv 3) qab (fun _ _=>rfl))))
    qap)
   (qae (ya6 (yah qax (yai yag rfl (B.of rfl) boot_len (qaa (pv 4) yab)) qab (qai _))
    (yad (yao (qah qaj (pv 4) qab (fun _ _=>rfl))))
    qap)
   (yad (yao (yc5 (yah qax (qah qak (pv 3) qab (fun _ _=>rfl)) qam (qai _)) (yai (qii rfl) rfl (B.of rfl) boot_min (qaa (pv 4) yab)) (yai (yis rfl) rfl (B.of rfl) boot_max (qaa (pv 4) yab)))))))))),?_⟩
  refine ⟨_,rfl,_,rfl,L,us,hs,ad,rfl,m.hl,m.hv,m.ok,fun v H1 s1 hv=>?_⟩
  refine ⟨Nat.zero_le _,fun p hp=>?_⟩
  have hp0:H p=none:=s1.free hp
  have nCp:C≠p:=yae m.hc hp0
  have s2:Same H (upd H1 p (.lst [])):=s1.upd hp
  have e2:upd H1 p (.lst []) p=some (.lst []):=yaa
  revert s2 e2
  generalize upd H1 p (.lst [])=H2
  intro s2 e2
  have kp:∀ h,qa4 hs ad=some h→(h.w="nowhere"∨h.w="other"∨h.w="both")∧∃ ns,okH h ns:=fun h e=>⟨(qbo e).2.1,m.ok h (qbo e).1⟩
  refine ⟨_,rfl,_,rfl,v,qa4 hs ad,ad,rfl,hv.same s2,kp,fun D H3 s3 hD eD=>?_⟩
  have hD0:H D=none:=s2.free hD
  have nCD:C≠D:=yae m.hc hD0
  have npD:p≠D:=yae e2 hD
  have hin:=qek hi m.ok h0 h1
  have hrl:=yh8 (o:=qa4 hs ad) (a:=ad)
  unfold readAt at k
  revert k hin hrl eD
  generalize hrc:ybf (qa4 hs ad) ad=rc
  intro k eD hin hrl
  refine ⟨D,rfl,⟨_,SqL.of eD⟩,yay (xs:=rc.map V.int) (fun i σ H4=>∃ (o5:Option V),σ=[some (.ref L),some (.ref C),some (.int ad),some v,some (.ref p),o5]∧UpC H C (yat hs (rc.take i) cs).2 H4∧H4 p=some (.lst ((yat hs (rc.take i) cs).1.map V.int))∧H4 D=some (.lst (rc.map V.int)))
   ⟨none,rfl,UpC.of (s2.trans s3) m.hc,s3 _ _ e2,eD⟩ (fun i σ H4 _ ⟨_,_,_,_,h⟩=>SqL.of h) ?_ ?_⟩
  ·rintro i x σ H4 hx ⟨o5,rfl,u4,e4,d4⟩
   obtain ⟨c,hc,rfl⟩:=qa7 hx
   have hci:=hin c (List.mem_of_getElem? hc)
   have hil:=(List.getElem?_eq_some_iff.mp hc).1
   have m4:=m.upC u4
   refine ⟨_,rfl,.inl ⟨rfl,_,SqL.of e4⟩,_,rfl,_,rfl,_,rfl,L,C,us,hs,_,c,rfl,m4,hci.1,by rw[qds];exact hci.2,fun H5 u5=>?_⟩
   refine ⟨p,_,_,rfl,rfl,u5.st p _ nCp.symm e4,ya9 (by rw[List.length_map,ycn,List.length_take];omega),?_⟩
   have es:yat hs (rc.take (i+1)) cs=((yat hs (rc.take i) cs).1++[(qbv hs (yat hs (rc.take i) cs).2 c).1],(qbv hs (yat hs (rc.take i) cs).2 c).2):=by rw[List.take_add_one,hc];exact qd8 hs c (rc.take i) cs
   refine ⟨_,rfl,?_,?_,?_⟩
   ·rw[es]
    exact (u4.trans u5).new hp0 nCp
   ·rw[es,yaa];simp
   ·rw[yaj npD.symm];exact u5.st D _ nCD.symm d4
  ·rintro σ H4 ⟨o5,rfl,u4,e4,d4⟩
   rw[List.length_map,List.take_length] at u4 e4
   have k:=k H4 u4
   have hfl:=ycn hs rc cs
   revert k e4 hfl
   generalize (yat hs rc cs).1=r1
   intro e4 k hfl
   have hO:OpH H4 v (qa4 hs ad):=by
    cases e:qa4 hs ad with
    | none=>rw[e] at hv;exact hv
    | some h=>rw[e] at hv;exact u4.hat m.hc hv
   refine ⟨_,rfl,p,_,rfl,.inl (SqL.of e4),rfl,_,rfl,?_⟩
   rw[dI]
   match r1,k,e4,hfl with
   | [],k,e4,hfl=>
    refine iteD (by simp) ?_
    cases e:qa4 hs ad with
    | none=>rw[e] at hrc;subst hrc;simp[ybf] at hfl
    | some h=>
     obtain ⟨hw,ns,oh⟩:=kp h e
     rw[e] at hO k hrc
     obtain ⟨a,rfl,ha⟩:=hO
     have hn:h.w="nowhere":=by
      by_cases w1:h.w="nowhere"
      ·exact w1
      unfold ybf at hrc
      dsimp only at hrc
      rw[if_neg w1] at hrc
      by_cases w2:h.w="other"
      ·rw[if_pos w2] at hrc;subst hrc;simp at hfl
      ·rw[if_neg w2] at hrc;subst hrc;simp at hfl
     obtain ⟨c,b,ec,er⟩:=oh.s1 (qbc (by simp[hn]))
     rw[qie ec er] at ha
     exact ⟨_,rfl,a,_,_,_,rfl,rfl,SqT.of ha,qac 2 rfl,k⟩
   | [b],k,e4,hfl=>
    refine qa0 (by simp) ?_
    refine ⟨_,rfl,p,_,rfl,.inl (SqL.of e4),rfl,_,rfl,?_⟩
    rw[dI]
    refine iteD (by simp) ?_
    exact ⟨_,rfl,p,_,_,_,rfl,rfl,SqL.of e4,qac 0 rfl,k⟩
   | [b,c],k,e4,hfl=>
    refine qa0 (by simp) ?_
    refine ⟨_,rfl,p,_,rfl,.inl (SqL.of e4),rfl,_,rfl,?_⟩
    rw[dI]
    refine qa0 (by simp) ?_
    cases e:qa4 hs ad with
    | none=>rw[e] at hrc;subst hrc;simp[ybf] at hfl
    | some h=>
     obtain ⟨hw,ns,oh⟩:=kp h e
     rw[e] at hO k hrc
     obtain ⟨a,rfl,ha⟩:=hO
     have hb:h.w="both":=by
      unfold ybf at hrc
      dsimp only at hrc
      rcases hw with w|w|w
      ·rw[if_pos w] at hrc;subst hrc;simp at hfl
      ·by_cases w1:h.w="nowhere"
       ·rw[if_pos w1] at hrc;subst hrc;simp at hfl
       ·rw[if_neg w1,if_pos w] at hrc;subst hrc;simp at hfl
      ·exact w
     obtain ⟨c1,c2,u,ec,er,hu⟩:=oh.sBoth (hb ▸ qcg)
     rw[yf2 ec er] at ha
     refine ⟨_,rfl,a,_,_,_,rfl,rfl,SqT.of ha,qac 3 rfl,?_⟩
     rcases hu with rfl|rfl
     ·refine ⟨rfl,_,rfl,iteB (by decide +kernel) ?_⟩
      refine ⟨_,rfl,p,_,rfl,e4,by simp,fun M h1 h2=>?_⟩
      rw[lo_of h1 h2]
      have:qd4 (some h) [b,c]=loI b c:=by
       unfold qd4
       dsimp only
       exact if_pos ⟨h,rfl,er⟩
      rw[← this]
      exact k
     ·refine ⟨rfl,_,rfl,iteN (by decide +kernel) ?_⟩
      refine ⟨_,rfl,p,_,rfl,e4,by simp,fun M h1 h2=>?_⟩
      rw[hi_of h1 h2]
      have:qd4 (some h) [b,c]=hiI b c:=by
       unfold qd4
       dsimp only
       refine if_neg ?_
       rintro ⟨h',e1,e2⟩
       cases e1
       rw[er] at e2
       have:=V.str.inj (List.cons.inj e2).1
       exact absurd this (by decide +kernel)
      rw[← this]
      exact k
   | _::_::_::_,k,e4,hfl=>simp at hfl;omega
end
def yci (cs:List Int) (cell:Int) (h:Hm):Bool:=decide (h.w="keeps"∧h.cell 1=cell∧rd cs (h.cell 0)=h.bit 0)
def qcx (hs:List Hm) (cs:List Int) (cell bit:Int):Int:=match hs.find? (yci cs cell) with|some h=>h.bit 1|none=>bit
def actOne (hs:List Hm) (cell:Int) (cs:List Int) (h:Hm):List Int:=
 if (h.w="turns"∨h.w="sets"∨h.w="keeps")∧h.cell 0=cell∧h.bit 0=rd cs cell then putM hs cs (h.cell 1) (if h.w="turns" then 1-rd cs (h.cell 1) else h.bit 1) else cs
theorem qg1 (hs:List Hm) (c:Int) (cs:List Int) (h:Hm):(actOne hs c cs h).length=cs.length:=by
 unfold actOne
 split
 ·exact qbr _ _ _ _
 ·rfl
def actN (hs l:List Hm) (cell:Int) (cs:List Int):List Int:=l.foldl (actOne hs cell) cs
theorem yg9 (hs l:List Hm) (c:Int) (cs:List Int):(actN hs l c cs).length=cs.length:=by
 induction l generalizing cs with
 | nil=>rfl
 | cons a l ih=>exact (ih _).trans (qg1 _ _ _ _)
theorem yer {h:Hm}{a b:Int}{x y:Bool} (hc:h.c=[a,b]) (hr:h.r=[.int (b2i x),.int (b2i y)]):hV h=[.str h.w,.int (h.cell 0),.int (h.cell 1),.int (h.bit 0),.int (h.bit 1)]:=by
 unfold hV Hm.cell Hm.bit
 rw[hc,hr]
 rfl
theorem qha {h:Hm}{a b:Int}{x:Bool} (hc:h.c=[a,b]) (hr:h.r=[.int (b2i x)]):hV h=[.str h.w,.int (h.cell 0),.int (h.cell 1),.int (h.bit 0)]:=by
 unfold hV Hm.cell Hm.bit
 rw[hc,hr]
 rfl
section
variable {P:Program}{w:World}{K:PySem.W.Frag}{mg:Str→Option Value}{base:Heap}
def qfr:Sp:=fun vs H Q _=>∃ L C us hs cs cell bit,vs=[.ref L,.ref C,.int cell,.int bit]∧Mem H L C us hs cs∧InR hs cs.length∧Q (.int (qcx hs cs cell bit)) H
abbrev ydq:Stmt:=top 51
theorem qfs:FnScope ["harms","cells","cell","bit","harm"] ["harms","cells","cell","bit"] (qad ydq):=⟨rfl,rfl,rfl,by decide +kernel,rfl,by decide +kernel,by decide +kernel⟩
theorem qiv (F:FnAt K mg "kept_bit" ydq ["harms","cells","cell","bit"]):Has P w K mg base 1 "kept_bit" ["harms","cells","cell","bit"] qfr:=by
 refine Has.of F qfs (fun vs H Q E h=>?_) (fun f cdv A outer s H vs Q E hr h=>?_)
 ·obtain ⟨L,C,us,hs,cs,cell,bit,rfl,_⟩:=h
  rfl
 ·obtain ⟨L,C,us,hs,cs,cell,bit,rfl,m,hi,k⟩:=h
  have sc:=qfs
  refine ⟨_,(qae (qa8 PassesOwn.never rfl (qar (pv 0)) (qag (i:=4) sc.nd rfl (Or.inl rfl))
    (yad (ya6 (PW.pt (qbi (yah qax (qah qak (pv 4) qab (fun _ _=>rfl)) qam (qai _)) (qbi (yah qax (qah qak (pv 4) qab (fun _ _=>rfl)) (pv 2) (qai _)) (qbg (yah qax (qah qaj (pv 1) (qah qak (pv 4) qab (fun _ _=>rfl)) (fun _ _=>rfl)) (qah qak (pv 4) qab (fun _ _=>rfl)) (qai _))))))
     (yad (yao (qah qak (pv 4) qab (fun _ _=>rfl))))
     qap)))
   (yad (yao (pv 3)))),?_⟩
  refine ⟨_,rfl,L,rfl,⟨us,SqL.of m.hl⟩,yay (xs:=us) (fun i σ H2=>∃ (o2:Option V),σ=[some (.ref L),some (.ref C),some (.int cell),some (.int bit),o2]∧H2=H∧(hs.take i).find? (yci cs cell)=none)
   ⟨none,rfl,rfl,rfl⟩ (fun i σ H2 _ ⟨_,_,h,_⟩=>by subst h;exact SqL.of m.hl) ?_ ?_⟩
  ·rintro i x σ H2 hx ⟨o2,rfl,rfl,hn⟩
   obtain ⟨g,hg,a,rfl,ha⟩:=m.hv.get hx
   have hgm:=List.mem_of_getElem? hg
   obtain ⟨ns,og⟩:=m.ok g hgm
   obtain ⟨f1,f2⟩:=ydl hn hg
   refine ⟨_,rfl,a,_,_,_,rfl,rfl,SqT.of ha,qac 0 rfl,rfl,_,rfl,?_⟩
   rw[dS]
   by_cases hw:g.w="keeps"
   ·refine iteD hw ?_
    obtain ⟨c1,c2,x1,x2,ec,er⟩:=og.sSets (ybc (.inr hw))
    rw[yer ec er] at ha
    have c0:=hi.c0 hgm og
    refine ⟨_,rfl,a,_,_,_,rfl,rfl,SqT.of ha,qac 2 rfl,_,rfl,rfl,_,rfl,?_⟩
    rw[dI]
    by_cases hc:g.cell 1=cell
    ·refine iteD hc ?_
     refine ⟨_,rfl,_,rfl,a,_,_,_,rfl,rfl,SqT.of ha,qac 1 rfl,C,_,_,_,rfl,rfl,SqL.of m.hc,qc1 c0.1 c0.2,?_⟩
     refine ⟨_,rfl,a,_,_,_,rfl,rfl,SqT.of ha,qac 3 rfl,rfl,_,rfl,?_⟩
     rw[dI]
     by_cases hb:rd cs (g.cell 0)=g.bit 0
     ·refine iteD hb ?_
      refine ⟨_,rfl,a,_,_,_,rfl,rfl,SqT.of ha,qac 4 rfl,?_⟩
      unfold qcx at k
      rw[f1 (decide_eq_true ⟨hw,hc,hb⟩)] at k
      exact k
     ·refine qa0 hb ?_
      exact ⟨_,rfl,rfl,f2 (decide_eq_false (fun z=>hb z.2.2))⟩
    ·refine qa0 hc ?_
     exact ⟨_,rfl,rfl,f2 (decide_eq_false (fun z=>hc z.2.1))⟩
   ·refine qa0 hw ?_
    exact ⟨_,rfl,rfl,f2 (decide_eq_false (fun z=>hw z.1))⟩
  ·rintro σ H2 ⟨o2,rfl,rfl,hn⟩
   rw[m.hv.len,List.take_length] at hn
   unfold qcx at k
   rw[hn] at k
   exact ⟨_,rfl,k⟩
def qda:Sp:=fun vs H Q _=>∃ L C us hs cs cell,vs=[.ref L,.ref C,.int cell]∧Mem H L C us hs cs∧InR hs cs.length∧0≤cell∧cell<cs.length∧∀ H',UpC H C (actN hs hs cell cs) H'→Q .non H'
abbrev ybr:Stmt:=top 52
theorem yc6:FnScope ["harms","cells","cell","harm"] ["harms","cells","cell"] (qad ybr):=⟨rfl,rfl,rfl,by decide +kernel,rfl,by decide +kernel,by decide +kernel⟩
theorem yff (qi1:Has P w K mg base 2 "put" ["harms","cells","cell","bit"] qig) (F:FnAt K mg "act_on_others" ybr ["harms","cells","cell"]):Has P w K mg base 3 "act_on_others" ["harms","cells","cell"] qda:=by
 refine Has.of F yc6 (fun vs H Q E h=>?_) (fun f cdv A outer s H vs Q E hr h=>?_)
 ·obtain ⟨L,C,us,hs,cs,cell,rfl,_⟩:=h
  rfl
 ·obtain ⟨L,C,us,hs,cs,cell,rfl,m,hi,h0,h1,k⟩:=h
  have sc:=yc6
  refine ⟨_,(yad (qa8 PassesOwn.never rfl (qar (pv 0)) (qag (i:=3) sc.nd rfl (Or.inl rfl))
    (yad (ya6 (PW.pt (qbi (yah ybj (qah qak (pv 3) qab (fun _ _=>rfl)) (qbf (qaa qam (qaa qam (qaa qam yab)))) (by with_unfolding_all rfl)) (qbi (yah qax (qah qak (pv 3) qab (fun _ _=>rfl)) (pv 2) (qai _)) (qbg (yah qax (qah qak (pv 3) qab (fun _ _=>rfl)) (qah qaj (pv 1) (pv 2) (fun _ _=>rfl)) (qai _))))))
     (yad (qav (qaf qi1 hr (qaw (pv 0) (qaw (pv 1) (qaa (qah qak (pv 3) qab (fun _ _=>rfl)) (qaa (yc5 (yah qax (qah qak (pv 3) qab (fun _ _=>rfl)) qam (qai _)) (ya3 ye6 qab (qah qaj (pv 1) (qah qak (pv 3) qab (fun _ _=>rfl)) (fun _ _=>rfl))) (qah qak (pv 3) qab (fun _ _=>rfl))) yab)))))))
     qap)))),?_⟩
  refine ⟨_,rfl,L,rfl,⟨us,SqL.of m.hl⟩,yay (xs:=us) (fun i σ H2=>∃ (o2:Option V),σ=[some (.ref L),some (.ref C),some (.int cell),o2]∧UpC H C (actN hs (hs.take i) cell cs) H2)
   ⟨none,rfl,UpC.of (Same.refl H) m.hc⟩ (fun i σ H2 _ ⟨_,_,u⟩=>SqL.of (u.st _ _ m.ne m.hl)) ?_ ?_⟩
  ·rintro i x σ H2 hx ⟨o2,rfl,u2⟩
   have m2:=m.upC u2
   have hlen:=yg9 hs (hs.take i) cell cs
   have step:∀ g,hs[i]?=some g→actN hs (hs.take (i+1)) cell cs=actOne hs cell (actN hs (hs.take i) cell cs) g:=fun g hg=>yb9 _ _ hg
   revert u2 m2 hlen step
   generalize actN hs (hs.take i) cell cs=ds
   intro u2 m2 hlen step
   obtain ⟨g,hg,a,rfl,ha⟩:=m2.hv.get hx
   have hgm:=List.mem_of_getElem? hg
   obtain ⟨ns,og⟩:=m.ok g hgm
   rw[step g hg]
   unfold actOne
   refine ⟨_,rfl,a,_,_,_,rfl,rfl,SqT.of ha,qac 0 rfl,(by show 3≤sizeLine;decide),fun p hp=>⟨p,_,rfl,.inr (SqT.of yaa),rfl,rfl,_,rfl,?_⟩⟩
   rw[in3]
   have s3:Same H2 (upd H2 p (.tup [.str "turns",.str "sets",.str "keeps"])):=(Same.refl H2).upd hp
   revert s3
   generalize upd H2 p (.tup [.str "turns",.str "sets",.str "keeps"])=H3
   intro s3
   have u3:=u2.same s3
   have m3:=m2.same s3
   have ha3:=s3 _ _ ha
   by_cases hw:g.w="turns"∨g.w="sets"∨g.w="keeps"
   ·refine iteD hw ?_
    have two:∃ a b l,g.c=[a,b]∧hV g=.str g.w :: .int (g.cell 0) :: .int (g.cell 1) :: .int (g.bit 0)::l∧(g.w≠"turns"→l=[.int (g.bit 1)]):=by
     rcases hw with hw|hw
     ·obtain ⟨a,b,x,ec,er⟩:=og.sTurns (hw ▸ ycs)
      exact ⟨a,b,[],ec,qha ec er,fun z=>absurd hw z⟩
     ·obtain ⟨a,b,x,y,ec,er⟩:=og.sSets (ybc hw)
      exact ⟨a,b,_,ec,yer ec er,fun _=>rfl⟩
    obtain ⟨a1,b1,l,ec,ht,hl⟩:=two
    rw[ht] at ha3
    have c1:=hi.c1 hgm ec
    refine ⟨_,rfl,a,_,_,_,rfl,rfl,SqT.of ha3,qac 1 rfl,_,rfl,rfl,_,rfl,?_⟩
    rw[dI]
    by_cases hc:g.cell 0=cell
    ·refine iteD hc ?_
     refine ⟨_,rfl,a,_,_,_,rfl,rfl,SqT.of ha3,qac 3 rfl,_,rfl,_,rfl,C,_,_,_,rfl,rfl,SqL.of m3.hc,qc1 h0 (by omega),rfl,_,rfl,?_⟩
     rw[dI]
     by_cases hb:g.bit 0=rd ds cell
     ·refine iteD hb ?_
      rw[if_pos ⟨hw,hc,hb⟩]
      have fin:∀ bit,(∃ o2,[some (V.ref L),some (.ref C),some (.int cell),some (.ref a)]=[some (V.ref L),some (.ref C),some (.int cell),o2]∧UpC H C (putM hs ds (g.cell 1) bit) (upd H3 C (.lst ((putM hs ds (g.cell 1) bit).map V.int)))):=fun bit=>⟨_,rfl,u3.trans UpC.put⟩
      refine ⟨_,rfl,_,rfl,_,rfl,a,_,_,_,rfl,rfl,SqT.of ha3,qac 2 rfl,_,rfl,a,_,_,_,rfl,rfl,SqT.of ha3,qac 0 rfl,rfl,_,rfl,?_⟩
      rw[dS]
      by_cases ht:g.w="turns"
      ·refine iteD ht ?_
       rw[if_pos ht]
       refine ⟨_,rfl,_,rfl,a,_,_,_,rfl,rfl,SqT.of ha3,qac 2 rfl,C,_,_,_,rfl,rfl,SqL.of m3.hc,qc1 c1.1 (by omega),_,_,rfl,rfl,L,C,us,hs,ds,g.cell 1,_,rfl,m3,c1.1,by omega,?_⟩
       exact fin _
      ·refine qa0 ht ?_
       rw[if_neg ht]
       rw[hl ht] at ha3
       refine ⟨_,rfl,a,_,_,_,rfl,rfl,SqT.of ha3,qac 4 rfl,L,C,us,hs,ds,g.cell 1,_,rfl,m3,c1.1,by omega,?_⟩
       exact fin _
     ·refine qa0 hb ?_
      rw[if_neg (fun z=>hb z.2.2)]
      exact ⟨_,rfl,u3⟩
    ·refine qa0 hc ?_
     rw[if_neg (fun z=>hc z.2.1)]
     exact ⟨_,rfl,u3⟩
   ·refine qa0 hw ?_
    rw[if_neg (fun z=>hw z.1)]
    exact ⟨_,rfl,u3⟩
  ·rintro σ H2 ⟨o2,rfl,u2⟩
   rw[m.hv.len,List.take_length] at u2
   exact k H2 u2
end
theorem qdj {s:Str}{x:List V}:∀ {D:List (Str×List V)},KTD.datumAt s D=some x→s∈D.map (·.1)
 | [],h=>by simp[KTD.datumAt] at h
 | (k,y)::D,h=>by
  unfold KTD.datumAt at h
  by_cases e:s=k
  ·subst e;simp
  ·simp[e] at h
   have:=qdj h
   simp at this ⊢
   exact .inr this
theorem qhn:∀ s∈tabP.map (·.1),PyData.canLay0 (.str s)=true:=by decide +kernel
theorem Rest.fl {ns:List Str}{vs:List V} (h:Rest ns vs):Fl vs:=by
 induction h with
 | nil=>exact ⟨rfl,rfl⟩
 | bit hb _ ih=>
  obtain ⟨b,rfl⟩:=hb
  exact ⟨by rw[List.all_cons];exact ih.1,by simpa [PyData.canLayAll0,dOf,PyData.canLay0] using ih.2⟩
 | how hb _ ih=>
  have e:PyData.canLay0 (.str "and")=true∧PyData.canLay0 (.str "or")=true:=by decide +kernel
  rcases hb with rfl|rfl
  ·exact ⟨by rw[List.all_cons];exact ih.1,by simp only[List.map_cons,PyData.canLayAll0,dOf,e.1,Bool.true_and];exact ih.2⟩
  ·exact ⟨by rw[List.all_cons];exact ih.1,by simp only[List.map_cons,PyData.canLayAll0,dOf,e.2,Bool.true_and];exact ih.2⟩
theorem fl_ints (l:List Int) {vs:List V} (h:Fl vs):Fl (l.map V.int++vs):=by
 induction l with
 | nil=>exact h
 | cons a l ih=>exact ⟨by show (V.int a::(l.map V.int++vs)).all qdb=true;rw[List.all_cons];exact ih.1,by simpa [PyData.canLayAll0,dOf,PyData.canLay0] using ih.2⟩
theorem okH.fl {h:Hm}{ns:List Str} (o:okH h ns):Fl (hV h):=by
 have f:=fl_ints h.c o.rest.fl
 unfold hV
 refine ⟨by rw[List.all_cons];exact f.1,?_⟩
 simp only[List.map_cons,PyData.canLayAll0,dOf,qhn _ (qdj o.tab),Bool.true_and]
 exact f.2
def qd3 (cell bit:Int) (h:Hm):Bool:=decide (h.w="slow"∧h.cell 0=cell∧h.bit 0=bit)
theorem qkz {h:Hm}{ns:List Str} (o:okH h ns) (cell bit:Int):PyData.eqvAll ((hV h).map dOf) (([.str "slow",.int cell,.int bit]:List V).map dOf)=qd3 cell bit h:=by
 unfold qd3
 by_cases hw:h.w="slow"
 ·obtain ⟨a,b,ec,er⟩:=o.s1 (qbc (by simp[hw]))
  rw[qie ec er,hw,Bool.eq_iff_iff]
  simp[PyData.eqvAll,PyData.eqv,dOf]
 ·rw[decide_eq_false (fun z=>hw z.1)]
  unfold hV
  simp[PyData.eqvAll,PyData.eqv,dOf,hw]
theorem HsV.any {H:Hp}{us:List V}{hs:List Hm} (x:HsV H us hs) {f:V→Bool}{g:Hm→Bool} (e:∀ h∈hs,∀ v,HAt H v h→f v=g h):us.any f=hs.any g:=by
 rw[Bool.eq_iff_iff,List.any_eq_true,List.any_eq_true]
 constructor
 ·rintro ⟨v,hv,hf⟩
  obtain ⟨i,hi⟩:=List.getElem?_of_mem hv
  obtain ⟨h,hh,ha⟩:=x.get hi
  exact ⟨h,List.mem_of_getElem? hh,by rw[← e h (List.mem_of_getElem? hh) v ha];exact hf⟩
 ·rintro ⟨h,hh,hg⟩
  obtain ⟨i,hi⟩:=List.getElem?_of_mem hh
  have hil:i<us.length:=by rw[x.len];exact (List.getElem?_eq_some_iff.mp hi).1
  have ha:=x.at_ i _ h (List.getElem?_eq_getElem hil) hi
  exact ⟨_,List.getElem_mem hil,by rw[e h hh _ ha];exact hg⟩
theorem HsV.tups {H:Hp}{us:List V}{hs:List Hm} (x:HsV H us hs) (ok:Oks hs):∀ v∈us,∃ a ys,v=.ref a∧H a=some (.tup ys)∧Fl ys:=by
 intro v hv
 obtain ⟨i,hi⟩:=List.getElem?_of_mem hv
 obtain ⟨h,hh,a,rfl,ha⟩:=x.get hi
 obtain ⟨ns,o⟩:=ok h (List.mem_of_getElem? hh)
 exact ⟨a,_,rfl,ha,o.fl⟩
theorem yl3 (cell bit:Int):Fl [.str "slow",.int cell,.int bit]:=by
 have e:PyData.canLay0 (.str "slow")=true:=by decide +kernel
 exact ⟨rfl,by simp only[List.map_cons,List.map_nil,PyData.canLayAll0,dOf,e];rfl⟩
def qdf (hs:List Hm) (cs:List Int) (cell bit:Int):Bool:=decide (rd cs cell≠bit)&&hs.any (qd3 cell bit)
section
variable {P:Program}{w:World}{K:PySem.W.Frag}{mg:Str→Option Value}{base:Heap}
def qgs:Sp:=fun vs H Q _=>∃ L C us hs cs cell bit,vs=[.ref L,.ref C,.int cell,.int bit]∧Mem H L C us hs cs∧0≤cell∧cell<cs.length∧∀ H',Same H H'→Q (.bl (qdf hs cs cell bit)) H'
abbrev qec:Stmt:=top 50
theorem ygz:FnScope ["harms","cells","cell","bit"] ["harms","cells","cell","bit"] (qad qec):=⟨rfl,rfl,rfl,by decide +kernel,rfl,by decide +kernel,by decide +kernel⟩
theorem qkh (F:FnAt K mg "is_slow" qec ["harms","cells","cell","bit"]):Has P w K mg base 1 "is_slow" ["harms","cells","cell","bit"] qgs:=by
 refine Has.of F ygz (fun vs H Q E h=>?_) (fun f cdv A outer s H vs Q E hr h=>?_)
 ·obtain ⟨L,C,us,hs,cs,cell,bit,rfl,_⟩:=h
  rfl
 ·obtain ⟨L,C,us,hs,cs,cell,bit,rfl,m,h0,h1,k⟩:=h
  have sc:=ygz
  refine ⟨_,(yad (yao (qa9 (yav yi0 (qah qaj (pv 1) (pv 2) (fun _ _=>rfl)) (pv 3) (qai _)) (qb4 (yav (op_inT hr) (qbf (qaa qam (qaa (pv 2) (qaa (pv 3) yab)))) (pv 0) (by with_unfolding_all rfl)))))),?_⟩
  refine ⟨_,rfl,_,rfl,C,_,_,_,rfl,rfl,SqL.of m.hc,qc1 h0 h1,_,rfl,rfl,_,rfl,?_⟩
  rw[dI]
  unfold qdf at k
  by_cases hb:rd cs cell=bit
  ·refine iteN (by simp[hb]) ?_
   have:=k H (Same.refl H)
   simp[hb] at this
   exact this
  ·refine iteB (by simp[hb]) ?_
   refine ⟨_,rfl,_,rfl,(by show 3≤sizeLine;decide),fun p hp=>⟨_,rfl,?_⟩⟩
   have s2:Same H (upd H p (.tup [.str "slow",.int cell,.int bit])):=(Same.refl H).upd hp
   have e2:upd H p (.tup [.str "slow",.int cell,.int bit]) p=some (.tup [.str "slow",.int cell,.int bit]):=yaa
   revert s2 e2
   generalize upd H p (.tup [.str "slow",.int cell,.int bit])=H2
   intro s2 e2
   have m2:=m.same s2
   refine ⟨p,_,L,us,rfl,e2,yl3 _ _,rfl,m2.hl,m2.hv.tups m2.ok,?_⟩
   rw[m2.hv.any (g:=qd3 cell bit) (fun h hh v hv=>by
    obtain ⟨a,rfl,ha⟩:=hv
    obtain ⟨ns,o⟩:=m2.ok h hh
    unfold tEq
    dsimp only
    rw[ha]
    exact qkz o cell bit)]
   have:=k H2 s2
   simp[hb] at this
   exact this
end
def qb8 (hs:List Hm) (cs:List Int) (cell bit:Int):List Int:=
 if qdf hs cs cell bit=true then cs
 else if rd (putM hs cs cell (qcx hs cs cell bit)) cell=rd cs cell then putM hs cs cell (qcx hs cs cell bit)
 else actN hs hs cell (putM hs cs cell (qcx hs cs cell bit))
theorem qey (hs:List Hm) (cs:List Int) (c b:Int):(qb8 hs cs c b).length=cs.length:=by
 unfold qb8
 split
 ·rfl
 ·split
  ·exact qbr _ _ _ _
  ·exact (yg9 _ _ _ _).trans (qbr _ _ _ _)
def qcz (hs:List Hm) (bit:Int) (l cs:List Int):List Int:=l.foldl (fun cs c=>qb8 hs cs c bit) cs
theorem yd8 (hs:List Hm) (b:Int) (l cs:List Int):(qcz hs b l cs).length=cs.length:=by
 induction l generalizing cs with
 | nil=>rfl
 | cons a l ih=>exact (ih _).trans (qey _ _ _ _)
def writeAt (hs:List Hm) (cs:List Int) (a bit:Int):List Int:=qcz hs bit (ybf (qa4 hs a) a) cs
section
variable {P:Program}{w:World}{K:PySem.W.Frag}{mg:Str→Option Value}{base:Heap}
def yea:Sp:=fun vs H Q _=>∃ L C us hs cs cell bit,vs=[.ref L,.ref C,.int cell,.int bit]∧Mem H L C us hs cs∧InR hs cs.length∧0≤cell∧cell<cs.length∧∀ H',UpC H C (qb8 hs cs cell bit) H'→Q .non H'
abbrev qcf:Stmt:=top 53
theorem qeq:FnScope ["harms","cells","cell","bit","held"] ["harms","cells","cell","bit"] (qad qcf):=⟨rfl,rfl,rfl,by decide +kernel,rfl,by decide +kernel,by decide +kernel⟩
theorem yhh (yl5:Has P w K mg base 1 "is_slow" ["harms","cells","cell","bit"] qgs) (qi1:Has P w K mg base 2 "put" ["harms","cells","cell","bit"] qig) (qj5:Has P w K mg base 1 "kept_bit" ["harms","cells","cell","bit"] qfr) (qgi:Has P w K mg base 3 "act_on_others" ["harms","cells","cell"] qda) (F:FnAt K mg "write_cell" qcf ["harms","cells","cell","bit"]):Has P w K mg base 4 "write_cell" ["harms","cells","cell","bit"] yea:=by
 refine Has.of F qeq (fun vs H Q E h=>?_) (fun f cdv A outer s H vs Q E hr h=>?_)
 ·obtain ⟨L,C,us,hs,cs,cell,bit,rfl,_⟩:=h
  rfl
 ·obtain ⟨L,C,us,hs,cs,cell,bit,rfl,m,hi,h0,h1,k⟩:=h
  have sc:=qeq
  refine ⟨_,(qae (ya6 (ycj (qaf yl5 hr (qaw (pv 0) (qaw (pv 1) (qaw (pv 2) (qaw (pv 3) yab))))))
    (yad ps_retN)
    qap)
   (qae (yaw (i:=4) sc.nd rfl (Or.inl rfl) (qah qaj (pv 1) (pv 2) (fun _ _=>rfl)))
   (qae (qav (qaf qi1 hr (qaw (pv 0) (qaw (pv 1) (qaw (pv 2) (pa_cl (qaf qj5 hr (qaw (pv 0) (qaw (pv 1) (qaw (pv 2) (qaw (pv 3) yab))))) yab))))))
   (yad (ya6 (yah yi0 (qah qaj (pv 1) (pv 2) (fun _ _=>rfl)) (pv 4) (qai _))
    (yad (qav (qaf qgi hr (qaa (pv 0) (qaa (pv 1) (qaa (pv 2) yab))))))
    qap))))),?_⟩
  refine ⟨_,rfl,_,rfl,_,rfl,_,rfl,L,C,us,hs,cs,cell,bit,rfl,m,h0,h1,fun H1 s1=>⟨_,rfl,?_⟩⟩
  unfold qb8 at k
  by_cases hsl:qdf hs cs cell bit=true
  ·refine iteB hsl ?_
   rw[if_pos hsl] at k
   exact k H1 (UpC.of s1 m.hc)
  refine iteN (by simpa using hsl) ?_
  rw[if_neg hsl] at k
  have m1:=m.same s1
  refine ⟨_,rfl,_,rfl,C,_,_,_,rfl,rfl,SqL.of m1.hc,qc1 h0 h1,?_⟩
  refine ⟨_,rfl,_,rfl,_,rfl,_,rfl,_,rfl,_,rfl,_,rfl,L,C,us,hs,cs,cell,bit,rfl,m1,hi,?_⟩
  refine ⟨L,C,us,hs,cs,cell,_,rfl,m1,h0,h1,?_⟩
  have hl:=qbr hs cs cell (qcx hs cs cell bit)
  revert k hl
  generalize putM hs cs cell (qcx hs cs cell bit)=ds
  intro k hl
  have u2:UpC H1 C ds (upd H1 C (.lst (ds.map V.int))):=UpC.put
  revert u2
  generalize upd H1 C (.lst (ds.map V.int))=H2
  intro u2
  have u:UpC H C ds H2:=(UpC.of s1 m.hc).trans u2
  have m2:=m.upC u
  refine ⟨_,rfl,_,rfl,C,_,_,_,rfl,rfl,SqL.of m2.hc,qc1 h0 (by omega),_,rfl,rfl,_,rfl,?_⟩
  rw[dI]
  by_cases hb:rd ds cell=rd cs cell
  ·refine iteN (by simp[hb]) ?_
   rw[if_pos hb] at k
   exact k H2 u
  ·refine iteB (by simp[hb]) ?_
   rw[if_neg hb] at k
   refine ⟨_,rfl,_,rfl,_,rfl,L,C,us,hs,ds,cell,rfl,m2,by rw[hl];exact hi,h0,by omega,fun H3 u3=>?_⟩
   exact k H3 (u.trans u3)
def ygh:Sp:=fun vs H Q _=>∃ L C us hs cs a bit,vs=[.ref L,.ref C,.int a,.int bit]∧Mem H L C us hs cs∧InR hs cs.length∧0≤a∧a<cs.length∧∀ H',UpC H C (writeAt hs cs a bit) H'→Q .non H'
abbrev qdw:Stmt:=top 54
theorem yfv:FnScope ["harms","cells","address","bit","cell"] ["harms","cells","address","bit"] (qad qdw):=⟨rfl,rfl,rfl,by decide +kernel,rfl,by decide +kernel,by decide +kernel⟩
theorem yiv (qbz:Has P w K mg base 1 "harm_of_address" ["harms","address"] ybu) (yca:Has P w K mg base 1 "reached_cells" ["harm","address"] qb3) (yh7:Has P w K mg base 4 "write_cell" ["harms","cells","cell","bit"] yea) (F:FnAt K mg "write_at" qdw ["harms","cells","address","bit"]):Has P w K mg base 5 "write_at" ["harms","cells","address","bit"] ygh:=by
 refine Has.of F yfv (fun vs H Q E h=>?_) (fun f cdv A outer s H vs Q E hr h=>?_)
 ·obtain ⟨L,C,us,hs,cs,a,bit,rfl,_⟩:=h
  rfl
 ·obtain ⟨L,C,us,hs,cs,ad,bit,rfl,m,hi,h0,h1,k⟩:=h
  have sc:=yfv
  refine ⟨_,(yad (qa8 PassesOwn.never rfl (qar (qaf yca hr (qaa (qaf qbz hr (qaa (pv 0) (qaa (pv 2) yab))) (qaa (pv 2) yab)))) (qag (i:=4) sc.nd rfl (Or.inl rfl))
    (yad (qav (qaf yh7 hr (qaw (pv 0) (qaw (pv 1) (qaw (pv 4) (qaw (pv 3) yab))))))))),?_⟩
  refine ⟨_,rfl,_,rfl,L,us,hs,ad,rfl,m.hl,m.hv,m.ok,fun v H1 s1 hv=>?_⟩
  have kp:∀ h,qa4 hs ad=some h→(h.w="nowhere"∨h.w="other"∨h.w="both")∧∃ ns,okH h ns:=fun h e=>⟨(qbo e).2.1,m.ok h (qbo e).1⟩
  refine ⟨_,rfl,v,qa4 hs ad,ad,rfl,hv.same s1,kp,fun D H3 s3 hD eD=>?_⟩
  have hD0:H D=none:=s1.free hD
  have nCD:C≠D:=yae m.hc hD0
  have hin:=qek hi m.ok h0 h1
  unfold writeAt at k
  revert k hin eD
  generalize hrc:ybf (qa4 hs ad) ad=rc
  intro k eD hin
  refine ⟨D,rfl,⟨_,SqL.of eD⟩,yay (xs:=rc.map V.int) (fun i σ H4=>∃ (o5:Option V),σ=[some (.ref L),some (.ref C),some (.int ad),some (.int bit),o5]∧UpC H C (qcz hs bit (rc.take i) cs) H4∧H4 D=some (.lst (rc.map V.int)))
   ⟨none,rfl,UpC.of (s1.trans s3) m.hc,eD⟩ (fun i σ H4 _ ⟨_,_,_,h⟩=>SqL.of h) ?_ ?_⟩
  ·rintro i x σ H4 hx ⟨o5,rfl,u4,d4⟩
   obtain ⟨c,hc,rfl⟩:=qa7 hx
   have hci:=hin c (List.mem_of_getElem? hc)
   have m4:=m.upC u4
   have hl:=yd8 hs bit (rc.take i) cs
   refine ⟨_,rfl,_,rfl,_,rfl,_,rfl,L,C,us,hs,_,c,bit,rfl,m4,by rw[hl];exact hi,hci.1,by rw[hl];exact hci.2,fun H5 u5=>?_⟩
   refine ⟨_,rfl,?_,u5.st D _ nCD.symm d4⟩
   unfold qcz
   rw[yb9 _ _ hc]
   exact u4.trans u5
  ·rintro σ H4 ⟨o5,rfl,u4,d4⟩
   rw[List.length_map,List.take_length] at u4
   exact k H4 u4
end
def bits (cs:List Int):Prop:=∀ c∈cs,∃ b,c=b2i b
section
variable {P:Program}{w:World}{K:PySem.W.Frag}{mg:Str→Option Value}{base:Heap}
def yg3:Sp:=fun vs H Q _=>∃ n:Int,vs=[.int n]∧1≤n∧n≤64∧Q (.bl true) H
abbrev yeq:Stmt:=top 57
theorem qgt:FnScope ["thing"] ["thing"] (qad yeq):=⟨rfl,rfl,rfl,by decide +kernel,rfl,by decide +kernel,by decide +kernel⟩
theorem qkf (ydc:∃ t,mg "MOST_CELLS" = some (.int 64 t)) (qbw:Has P w K mg base 1 "is_whole" ["thing"] qcc) (F:FnAt K mg "is_size" yeq ["thing"]):Has P w K mg base 2 "is_size" ["thing"] yg3:=by
 refine Has.of F qgt (fun vs H Q E h=>?_) (fun f cdv A outer s H vs Q E hr h=>?_)
 ·obtain ⟨x,rfl,_⟩:=h
  rfl
 ·obtain ⟨x,rfl,h0,h1,k⟩:=h
  have sc:=qgt
  refine ⟨_,(yad (yao (qa9 (qaf qbw hr (qaa (pv 0) yab)) (qa9 (yav ylx (pv 0) qab (qai _)) (qb4 (yav op_le (pv 0) (yex ydc) (qai _))))))),?_⟩
  refine ⟨_,rfl,x,rfl,_,rfl,iteT ?_⟩
  refine ⟨_,rfl,_,_,rfl,rfl,_,rfl,iteD (by omega) ?_⟩
  refine ⟨_,rfl,_,_,rfl,rfl,?_⟩
  show Q (.bl (decide (x≤64))) H
  rw[decide_eq_true h1]
  exact k
def ydj:Sp:=fun vs H Q _=>∃ C cs,vs=[.ref C,.int (cs.length:Nat)]∧H C=some (.lst (cs.map V.int))∧bits cs∧cs.length≤64∧∀ H',Same H H'→Q (.bl true) H'
abbrev yb1:Stmt:=top 58
theorem ydo:FnScope ["thing","size"] ["thing","size"] (qad yb1):=⟨rfl,rfl,rfl,by decide +kernel,rfl,by decide +kernel,by decide +kernel⟩
theorem qf4 (B:Bl mg) (qhi:mg "all" = none) (yc4:Has P w K mg base 2 "is_bit" ["thing"] ydk) (F:FnAt K mg "are_contents" yb1 ["thing","size"]):Has P w K mg base 3 "are_contents" ["thing","size"] ydj:=by
 refine Has.of F ydo (fun vs H Q E h=>?_) (fun f cdv A outer s H vs Q E hr h=>?_)
 ·obtain ⟨C,cs,rfl,_⟩:=h
  rfl
 ·obtain ⟨C,cs,rfl,hC,hb,hl,k⟩:=h
  have sc:=ydo
  refine ⟨_,(yad (yao (qa9 (yai yb0 rfl (B.of rfl) boot_isinstance (qaa (pv 0) (qaa (ycl (v:=.ty "list") rfl (B.of rfl) boot_list rfl) yab))) (qa9 (yav qax (yai yag rfl (B.of rfl) boot_len (qaa (pv 0) yab)) (pv 1) (qai _)) (qb4 (yai (yf3 rfl) rfl qhi yf7 (qaa (qca rfl (qas rfl) (M:=["part"]) (ix:=[none]) (qar (pv 0)) (fun _ _ _ _=>(qag (i:=0) (show List.Nodup (["part"]:List Str) by decide +kernel) rfl (Or.inl rfl))) (fun _ _ _ _=>qcv) (fun _ _ _ _=>(qaf yc4 hr (qaa (pv 0) yab)))) yab))))))),?_⟩
  refine ⟨_,rfl,_,_,_,_,rfl,.lst hC,rfl,_,rfl,iteT ?_⟩
  refine ⟨_,rfl,C,_,rfl,.inl (SqL.of hC),_,rfl,rfl,_,rfl,iteD (by rw[List.length_map]) ?_⟩
  refine ⟨_,rfl,C,rfl,⟨_,SqL.of hC⟩,fun D hD=>qba (n:=cs.length) (fun i H'=>Same H H'∧H' D=some (.lst ((List.replicate i true).map V.bl))) ⟨(Same.refl H).upd hD,yaa⟩ ?_ ?_⟩
  ·rintro H3 ⟨s3,e3⟩
   refine ⟨⟨_,SqL.of (s3 _ _ hC),by simp⟩,?_⟩
   refine ⟨D,_,rfl,e3,?_⟩
   rw[show (List.replicate cs.length true).all id=true by simp]
   exact k _ s3
  ·rintro i H3 hi ⟨s3,e3⟩
   refine ⟨⟨_,_,SqL.of (s3 _ _ hC),by rw[List.getElem?_map,List.getElem?_eq_getElem hi];rfl⟩,?_⟩
   rintro x H4 ⟨rfl,hx⟩
   obtain ⟨c,hc,rfl⟩:=qa7 (hx _ (SqL.of (s3 _ _ hC)))
   obtain ⟨b,rfl⟩:=hb c (List.mem_of_getElem? hc)
   refine ⟨yau.set (yau.refl _) rfl,yes ?_⟩
   refine ⟨_,rfl,b,rfl,fun H5 s5=>?_⟩
   refine ⟨_,s5 _ _ e3,ya9 (by rw[List.length_map,List.length_replicate];omega),(s3.trans s5).at hD,?_⟩
   rw[yaa,List.replicate_succ',List.map_append];rfl
def ycq:Sp:=fun vs H Q _=>∃ L us hs S C cs,vs=[.int (cs.length:Nat),.ref L,.ref C]∧H L=some (.lst us)∧HsV H us hs∧okHs hs S∧InR hs cs.length∧H C=some (.lst (cs.map V.int))∧bits cs∧1≤cs.length∧cs.length≤64∧∀ H',Same H H'→Q .non H'
abbrev ybk:Stmt:=top 59
theorem qcq:FnScope ["size","harms","contents","cells"] ["size","harms","contents"] (qad ybk):=⟨rfl,rfl,rfl,by decide +kernel,rfl,by decide +kernel,by decide +kernel⟩
theorem yet (B:Bl mg) (yby:Has P w K mg base 7 "cells_of" ["harms"] qcb) (qln:Has P w K mg base 2 "is_size" ["thing"] yg3) (ygj:Has P w K mg base 3 "are_contents" ["thing","size"] ydj) (F:FnAt K mg "look_at_memory" ybk ["size","harms","contents"]):Has P w K mg base 8 "look_at_memory" ["size","harms","contents"] ycq:=by
 refine Has.of F qcq (fun vs H Q E h=>?_) (fun f cdv A outer s H vs Q E hr h=>?_)
 ·obtain ⟨L,us,hs,S,C,cs,rfl,_⟩:=h
  rfl
 ·obtain ⟨L,us,hs,S,C,cs,rfl,hL,hv,ok,hi,hC,hb,hl1,hl2,k⟩:=h
  have sc:=qcq
  refine ⟨_,(qae (yaw (i:=3) sc.nd rfl (Or.inl rfl) (qaf yby hr (qaa (pv 1) yab)))
   (qae (ya6 (yc8 (ycj (qaf qln hr (qaa (pv 0) yab))))
    (yad qbk)
    qap)
   (qae (ya6 (PW.pt (qbi (yah yhb (yai yag rfl (B.of rfl) boot_len (qaa (pv 3) yab)) qab (qai _)) (qbg (yah ylx (qah qaj (pv 3) (pe_un un_neg qab) (fun _ _=>rfl)) (pv 0) (qai _)))))
    (yad qbk)
    qap)
   (yad (ya6 (yc8 (ycj (qaf ygj hr (qaa (pv 2) (qaa (pv 0) yab)))))
    (yad qbk)
    qap))))),?_⟩
  refine ⟨_,rfl,L,us,hs,S,rfl,hL,hv,ok,fun D ns H1 s1 hD eD hpm hso=>?_⟩
  refine ⟨_,rfl,_,rfl,by omega,by omega,_,rfl,iteF ?_⟩
  refine ⟨_,rfl,D,_,rfl,.inl (SqL.of eD),_,_,rfl,rfl,_,rfl,?_⟩
  have fin:∀ (b:Bool),b=true→if (!b)=true then False else True:=by intro b hb;subst hb;simp
  by_cases hn:0<ns.length
  ·refine iteD (by rw[List.length_map];omega) ?_
   obtain ⟨x,hx⟩:∃ x,ns=ns.dropLast++[x]:=⟨ns.getLast (by intro z;rw[z] at hn;simp at hn),(List.dropLast_concat_getLast _).symm⟩
   have hxm:x∈allC hs:=(qfl _ x).mp (hpm.mem_iff.mp (by rw[hx];simp))
   have hx2:x<cs.length:=by
    unfold allC at hxm
    obtain ⟨h,hh,hc⟩:=List.mem_flatMap.mp hxm
    exact (hi h hh x hc).2
   refine ⟨_,rfl,_,rfl,D,_,_,_,rfl,rfl,SqL.of eD,(show atI (ns.map V.int) (-1)=some (.int x) by rw[hx,List.map_append];exact yhr _ _),_,rfl,_,_,rfl,rfl,_,rfl,qa0 (by omega) ?_⟩
   refine ⟨_,rfl,_,rfl,C,cs,rfl,s1 _ _ hC,hb,hl2,fun H2 s2=>⟨_,rfl,iteF ?_⟩⟩
   exact k _ (s1.trans s2)
  ·refine qa0 (by rw[List.length_map];omega) ?_
   refine ⟨_,rfl,_,rfl,C,cs,rfl,s1 _ _ hC,hb,hl2,fun H2 s2=>⟨_,rfl,iteF ?_⟩⟩
   exact k _ (s1.trans s2)
end
theorem small48 {n:Nat} (h:n≤1000):n≤sizeLine:=Nat.le_trans h (by decide)
def Dig (ds zs:List Int):Prop:=ds.length=zs.length∧∀ (i:Nat) d z,ds[i]?=some d→zs[i]?=some z→0≤d∧d<z
theorem Dig.get {ds zs:List Int} (h:Dig ds zs) {i:Nat}{z:Int} (hz:zs[i]?=some z):∃ d,ds[i]?=some d∧0≤d∧d<z:=by
 have hi:i<ds.length:=by rw[h.1];exact (List.getElem?_eq_some_iff.mp hz).1
 exact ⟨ds[i],by simp[hi],h.2 i _ z (by simp[hi]) hz⟩
theorem qix {ds:List Int}{i:Nat}{v:V} (h:(ds.map V.int)[i]?=some v):∃ d,ds[i]?=some d∧v=.int d:=qa7 h
theorem qby {ds:List Int}{i:Nat}{d:Int} (h:ds[i]?=some d):(ds.map V.int)[i]?=some (.int d):=by rw[List.getElem?_map,h];rfl
section
variable {P:Program}{w:World}{K:PySem.W.Frag}{mg:Str→Option Value}{base:Heap}
def ydm:Sp:=fun vs H Q _=>∃ c t a zs,vs=[.int c,.int t,.ref a]∧H a=some (.lst (zs.map V.int))∧zs.length≤100∧(∀ z∈zs,0<z∧z≤1000)∧0≤t∧t≤1000000∧
 ∀ p ds H',Same H H'→H p=none→H' p=some (.lst (ds.map V.int))→Dig ds zs→Q (.ref p) H'
abbrev yb5:Stmt:=top 72
theorem qdz:FnScope ["_law_cell","_law_turn","_law_sizes","_law_number","_law_wide","_law_seed","_law_found","_law_k","_law_size"] ["_law_cell","_law_turn","_law_sizes"] (qad yb5):=⟨rfl,rfl,rfl,by decide +kernel,rfl,by decide +kernel,by decide +kernel⟩
theorem ymc (B:Bl mg) (F:FnAt K mg "_law_digits" yb5 ["_law_cell","_law_turn","_law_sizes"]):Has P w K mg base 1 "_law_digits" ["_law_cell","_law_turn","_law_sizes"] ydm:=by
 refine Has.of F qdz (fun vs H Q E h=>?_) (fun f cdv A outer s H vs Q E hr h=>?_)
 ·obtain ⟨c,t,a,zs,rfl,_⟩:=h
  rfl
 ·obtain ⟨c,t,a,zs,rfl,ha,hl,hz,ht0,ht1,k⟩:=h
  have sc:=qdz
  refine ⟨_,(qae (yaw (i:=3) sc.nd rfl (Or.inl rfl) (yai call_abs rfl (B.of rfl) boot_abs (qaa (pv 0) yab)))
   (qae (yaw (i:=4) sc.nd rfl (Or.inl rfl) (yav ylx (pv 3) (ya3 op_pow qab qab) (qai _)))
   (qae (yaw (i:=5) sc.nd rfl (Or.inl rfl) (ya3 yct (ya3 yeg (pv 3) qab) (ya3 yie qab (pv 1))))
   (qae (yaw (i:=6) sc.nd rfl (Or.inl rfl) (qau yab))
   (qae (qa8 PassesOwn.never rfl (qcy rfl (B.of rfl) (qaa (pv 2) yab)) (ycc rfl (qan (qag (i:=7) sc.nd rfl (Or.inl rfl)) (qan (qag (i:=8) sc.nd rfl (Or.inl rfl)) qbh)))
    (yad (ya6 (PW.pt (qbi (ycj (pv 4)) (qbg (yah yhb (pv 3) qab (qai _)))))
     (qae (qav (yfg PySem.F.plainAttrs_list PySem.F.slot_list_append PySem.F.type_list_append ybh (pv 6) (qaa (ya3 yeg (pv 3) (pv 8)) yab)))
     (yad (yaw (i:=3) sc.nd rfl (Or.inl rfl) (ya3 qkw (pv 3) (pv 8)))))
     (qae (yaw (i:=5) sc.nd rfl (Or.inl rfl) (ya3 yeg (ya3 op_pow (ya3 yct (pv 5) (ya3 yie qab (ya3 yct (pv 7) qab))) qab) qab))
     (yad (qav (yfg PySem.F.plainAttrs_list PySem.F.slot_list_append PySem.F.type_list_append ybh (pv 6) (qaa (ya3 yeg (ya3 qkw (pv 5) qab) (pv 8)) yab))))))))
   (yad (yao (pv 6)))))))),?_⟩
  refine ⟨_,rfl,c,rfl,?_⟩
  refine ⟨_,rfl,10,18,rfl,rfl,⟨by decide,by decide,by decide⟩,_,_,rfl,rfl,?_⟩
  refine ⟨_,rfl,_,_,rfl,rfl,(by show (0:Int)<2147483647;decide),_,rfl,_,_,rfl,rfl,.inl ⟨by decide,by decide⟩,_,_,rfl,rfl,?_⟩
  refine ⟨Nat.zero_le _,fun p hp=>?_⟩
  generalize hnum:(if c<0 then -c else c)=num
  generalize hwd:decide ((10:Int) ^ (18:Int).toNat≤num)=wd
  have hs0:0≤num % 2147483647+7919*t:=by have:=Int.emod_nonneg num (show (2147483647:Int)≠0 by decide);omega
  have hs1:num % 2147483647+7919*t<2 ^ 40:=by have:=Int.emod_lt_of_pos num (show (0:Int)<2147483647 by decide);omega
  refine ⟨_,rfl,a,_,rfl,SqL.of (by rw[yaj (yae ha hp)];exact ha),qb5 (xs:=zs.map V.int) (fun i σ H2=>∃ (nu seed:Int) (ds:List Int) (q1 q2:Option V),σ=[some (.int c),some (.int t),some (.ref a),some (.int nu),some (.bl wd),some (.int seed),some (.ref p),q1,q2]∧
   Same H H2∧H2 p=some (.lst (ds.map V.int))∧ds.length=i∧(∀ (j:Nat) d z,ds[j]?=some d→zs[j]?=some z→0≤d∧d<z)∧0≤seed∧seed<2 ^ 40) ?_ (fun i σ H2 _ ⟨_,_,_,_,_,_,s2,_⟩=>SqL.of (s2 _ _ ha)) ?_ ?_⟩
  ·exact ⟨num,_,[],none,none,by rw[← hwd];rfl,(Same.refl H).upd hp,yaa,rfl,fun j d z h=>by simp at h,hs0,hs1⟩
  ·rintro i x pp σ H2 hx ⟨nu,seed,ds,q1,q2,rfl,s2,hp2,hln,hds,hse0,hse1⟩ hpp
   obtain ⟨z,hzi,rfl⟩:=qix hx
   obtain ⟨hz0,hz1⟩:=hz z (List.mem_of_getElem? hzi)
   have hil:i<zs.length:=(List.getElem?_eq_some_iff.mp hzi).1
   have s3:Same H (upd H2 pp (.tup [.int i,.int z])):=s2.upd hpp
   have hp3:upd H2 pp (.tup [.int i,.int z]) p=some (.lst (ds.map V.int)):=by rw[yaj (yae hp2 hpp)];exact hp2
   have fin:∀ (d:Int),0≤d→d<z→∀ (j:Nat) d' z',(ds++[d])[j]?=some d'→zs[j]?=some z'→0≤d'∧d' < z':=fun d h0 h1 j d' z' hj hj2=>by
    by_cases hlt:j<ds.length
    ·rw[List.getElem?_append_left hlt] at hj
     exact hds j d' z' hj hj2
    ·rw[List.getElem?_append_right (by omega)] at hj
     have hj0:j-ds.length=0:=by
      cases q:j-ds.length with
      | zero=>rfl
      | succ n=>rw[q] at hj;simp at hj
     rw[hj0] at hj
     have e1:d=d':=by simpa using hj
     have e2:j=i:=by omega
     subst e1 e2
     rw[hzi] at hj2;cases hj2
     exact ⟨h0,h1⟩
   refine ⟨pp,_,rfl,SqT.of yaa,rfl,_,_,rfl,_,_,rfl,rfl,?_⟩
   refine ⟨_,rfl,wd,rfl,?_⟩
   cases wd with
   | true=>
    refine iteT ⟨_,rfl,_,_,rfl,rfl,_,rfl,?_⟩
    by_cases hn:0<nu
    ·refine iteD hn ?_
     refine ⟨_,rfl,.inl ⟨rfl,_,SqL.of hp3⟩,_,rfl,_,rfl,_,_,rfl,rfl,hz0,p,_,_,rfl,rfl,hp3,ya9 (by rw[List.length_map];omega),?_⟩
     refine ⟨_,rfl,_,rfl,_,_,rfl,rfl,⟨hz0,by omega⟩,?_⟩
     exact ⟨_,seed,ds++[nu % z],_,_,rfl,s3.at hp,by rw[List.map_append];exact yaa,by simp[hln],fin _ (Int.emod_nonneg _ (by omega)) (Int.emod_lt_of_pos _ hz0),hse0,hse1⟩
    ·refine iteN (decide_eq_false hn) ?_
     refine ⟨_,rfl,_,rfl,_,_,rfl,rfl,_,_,rfl,rfl,.inl ⟨by decide,by decide⟩,_,_,rfl,rfl,_,_,rfl,rfl,⟨by decide,by decide,by omega⟩,_,_,rfl,rfl,(by show (0:Int)<2147483587;decide),?_⟩
     have g0:=Int.emod_nonneg ((seed+104729*((i:Int)+1)) ^ (2:Int).toNat) (show (2147483587:Int)≠0 by decide)
     have g1:=Int.emod_lt_of_pos ((seed+104729*((i:Int)+1)) ^ (2:Int).toNat) (show (0:Int)<2147483587 by decide)
     generalize hse':(seed+104729*((i:Int)+1)) ^ (2:Int).toNat % 2147483587=seed' at g0 g1
     refine ⟨_,rfl,.inl ⟨rfl,_,SqL.of hp3⟩,_,rfl,_,_,rfl,rfl,⟨by decide,by decide⟩,_,rfl,_,_,rfl,rfl,hz0,p,_,_,rfl,rfl,hp3,ya9 (by rw[List.length_map];omega),?_⟩
     exact ⟨nu,seed',ds++[seed' / 16 % z],_,_,by rw[← hse'];rfl,s3.at hp,by rw[List.map_append,← hse'];exact yaa,by simp[hln],fin _ (Int.emod_nonneg _ (by omega)) (Int.emod_lt_of_pos _ hz0),g0,by omega⟩
   | false=>
    refine iteF (iteF ?_)
    refine ⟨_,rfl,_,rfl,_,_,rfl,rfl,_,_,rfl,rfl,.inl ⟨by decide,by decide⟩,_,_,rfl,rfl,_,_,rfl,rfl,⟨by decide,by decide,by omega⟩,_,_,rfl,rfl,(by show (0:Int)<2147483587;decide),?_⟩
    have g0:=Int.emod_nonneg ((seed+104729*((i:Int)+1)) ^ (2:Int).toNat) (show (2147483587:Int)≠0 by decide)
    have g1:=Int.emod_lt_of_pos ((seed+104729*((i:Int)+1)) ^ (2:Int).toNat) (show (0:Int)<2147483587 by decide)
    generalize hse':(seed+104729*((i:Int)+1)) ^ (2:Int).toNat % 2147483587=seed' at g0 g1
    refine ⟨_,rfl,.inl ⟨rfl,_,SqL.of hp3⟩,_,rfl,_,_,rfl,rfl,⟨by decide,by decide⟩,_,rfl,_,_,rfl,rfl,hz0,p,_,_,rfl,rfl,hp3,ya9 (by rw[List.length_map];omega),?_⟩
    exact ⟨nu,seed',ds++[seed' / 16 % z],_,_,by rw[← hse'];rfl,s3.at hp,by rw[List.map_append,← hse'];exact yaa,by simp[hln],fin _ (Int.emod_nonneg _ (by omega)) (Int.emod_lt_of_pos _ hz0),g0,by omega⟩
  ·rintro σ H2 ⟨nu,seed,ds,q1,q2,rfl,s2,hp2,hln,hds,_,_⟩
   rw[List.length_map] at hln
   exact ⟨_,rfl,k p ds H2 s2 hp hp2 ⟨hln,hds⟩⟩
end
def yar:List Str:=["stuck","slow","forgets","misreads","turns","sets","keeps","nowhere","other","both"]
section
variable {P:Program}{w:World}{K:PySem.W.Frag}{mg:Str→Option Value}{base:Heap}
abbrev ybz:Stmt:=top 71
theorem ydd:FnScope ["_law_script","_law_k"] ["_law_script","_law_k"] (qad ybz):=⟨rfl,rfl,rfl,by decide +kernel,rfl,by decide +kernel,by decide +kernel⟩
end
theorem qlx {X:Cx}{K:PySem.W.Frag} (h:X.K=K):SlR X (rSlT K):=h ▸ qjp
theorem yl0 {h:Hm}{ns:List Str} (o:okH h ns):cutV (hV h) none (some 2)=[.str h.w,.int (h.cell 0)]:=by
 rcases ybx o with ⟨a,hc⟩|⟨a,b,hc⟩
 ·unfold hV Hm.cell cutV;rw[hc,HT.sIx_none,show (some 2:Option Int)=some ((2:Nat):Int) from rfl,HT.sIx_nat];simp
 ·unfold hV Hm.cell cutV;rw[hc,HT.sIx_none,show (some 2:Option Int)=some ((2:Nat):Int) from rfl,HT.sIx_nat];simp
theorem hV_long {h:Hm}{ns:List Str} (o:okH h ns):3≤(hV h).length:=by
 have h2:=o.rest.len
 have hm:=qdj o.tab
 have h3:∀ s∈tabP.map (·.1),∀ x,KTD.datumAt s tabP=some x→2≤x.length:=by
  intro s hs x hx
  have:∀ s∈tabP.map (·.1),∃ x,KTD.datumAt s tabP=some x∧2≤x.length:=by
   intro s hs
   simp[tabP] at hs
   rcases hs with rfl|rfl|rfl|rfl|rfl|rfl|rfl|rfl|rfl|rfl
   ·exact ⟨_,qbc (by simp),by simp⟩
   ·exact ⟨_,qbc (by simp),by simp⟩
   ·exact ⟨_,qbc (by simp),by simp⟩
   ·exact ⟨_,qbc (by simp),by simp⟩
   ·exact ⟨_,ycs,by simp⟩
   ·exact ⟨_,ybc (by simp),by simp⟩
   ·exact ⟨_,ybc (by simp),by simp⟩
   ·exact ⟨_,qbc (by simp),by simp⟩
   ·exact ⟨_,ycr,by simp⟩
   ·exact ⟨_,qcg,by simp⟩
  obtain ⟨y,hy,hl⟩:=this s hs
  rw[hy] at hx
  cases hx
  exact hl
 have h4:=h3 h.w hm _ o.tab
 unfold qbs at h4
 unfold hV
 simp at h4 ⊢
 omega
theorem front_ne {h:Hm}{ns:List Str} (o:okH h ns):¬ (HT.sIx (hV h).length 0 none=0∧HT.sIx (hV h).length (hV h).length (some 2)=(hV h).length):=by
 rintro ⟨_,h2⟩
 rw[show (some 2:Option Int)=some ((2:Nat):Int) from rfl,HT.sIx_nat] at h2
 have:=hV_long o
 omega
theorem ql0 (h:Hm) (cell:Int):PyData.eqv (.tuple [.str h.w,.int (h.cell 0)]) (.tuple [.str "stuck",.int cell])=qa1 cell h:=by
 unfold qa1
 simp[PyData.eqv,PyData.eqvAll]
theorem yl2 (cell:Int):(PyData.tuple [.str "stuck",.int cell]).canLay0=true:=by
 have e:PyData.canLay0 (.str "stuck")=true:=by decide +kernel
 simp only[PyData.canLay0,PyData.canLayAll0,Bool.and_true]
 exact e
theorem put_head (hs:List Hm) (cell bit:Int):((hs.filter (qa1 cell)).map (fun h=>V.int (h.bit 0))++[V.int bit])[0]?=some (.int ((ya4 hs cell).getD bit)):=by
 unfold ya4
 rw[← List.head?_filter]
 cases hs.filter (qa1 cell)<;>rfl
section
variable {P:Program}{w:World}{K:PySem.W.Frag}{mg:Str→Option Value}{base:Heap}
def putL (hs:List Hm) (cs:List Int) (cell bit:Int):List Int:=cs.set cell.toNat ((ya4 hs cell).getD bit)
def qho:Sp:=fun vs H Q _=>∃ L C us hs cs cell bit,vs=[.ref L,.ref C,.int cell,.int bit]∧Mem H L C us hs cs∧hs.length≤3∧0≤cell∧cell<cs.length∧∀ H',UpC H C (putL hs cs cell bit) H'→Q .non H'
abbrev ydr:Stmt:=top 77
theorem yf6:FnScope ["_law_harms_here","_law_held","_law_cell","_law_bit"] ["_law_harms_here","_law_held","_law_cell","_law_bit"] (qad ydr):=⟨rfl,rfl,rfl,by decide +kernel,rfl,by decide +kernel,by decide +kernel⟩
theorem ok_lput (F:FnAt K mg "_law_put" ydr ["_law_harms_here","_law_held","_law_cell","_law_bit"]):Has P w K mg base 1 "_law_put" ["_law_harms_here","_law_held","_law_cell","_law_bit"] qho:=by
 refine Has.of F yf6 (fun vs H Q E h=>?_) (fun f cdv A outer s H vs Q E hr h=>?_)
 ·obtain ⟨L,C,us,hs,cs,cell,bit,rfl,_⟩:=h
  rfl
 ·obtain ⟨L,C,us,hs,cs,cell,bit,rfl,m,hl3,h0,h1,k⟩:=h
  have sc:=yf6
  refine ⟨_,(yad (yl1 (qah qaj (ya3 ye3 (qca rfl (qas rfl) (M:=["_law_harm_here","_law_cell"]) (ix:=[none,some 2]) (qar (pv 0)) (fun _ _ _ _=>(qag (i:=0) (show List.Nodup (["_law_harm_here","_law_cell"]:List Str) by decide +kernel) rfl (Or.inl rfl))) (fun _ _ _ _=>(ycm (yah (qjr hr) (qbb (qlx (K:=K) rfl) (pv 0) ycz (yba qab)) (qbf (qaa qam (qaa (pv 1) yab))) (qai _)))) (fun _ _ _ _=>(qah (ya7 (K:=K) rfl) (pv 0) qab (fun _ _=>rfl)))) (qau (qaa (pv 3) yab))) qab (fun _ _=>rfl)) (qlq (pv 1) (pv 2) qhk))),?_⟩
  refine ⟨_,rfl,L,rfl,⟨us,SqL.of m.hl⟩,fun D hD=>qba (n:=us.length) (fun i H'=>Same H H'∧H' D=some (.lst (((hs.take i).filter (qa1 cell)).map (fun h=>V.int (h.bit 0))))) ⟨(Same.refl H).upd hD,yaa⟩ ?_ ?_⟩
  ·rintro H2 ⟨s2,e2⟩
   rw[m.hv.len,List.take_length] at e2
   refine ⟨⟨_,SqL.of (s2 _ _ m.hl),by simp⟩,?_⟩
   refine ⟨_,rfl,(by show 1≤sizeLine;decide),fun p hp=>?_⟩
   have s3:Same H (upd H2 p (.lst [.int bit])):=s2.upd hp
   have e3:upd H2 p (.lst [.int bit]) D=_:=(Same.upd (Same.refl H2) hp) _ _ e2
   have p3:upd H2 p (.lst [.int bit]) p=some (.lst [.int bit]):=yaa
   revert s3 e3 p3
   generalize upd H2 p (.lst [.int bit])=H3
   intro s3 e3 p3
   have hfl:=List.length_filter_le (qa1 cell) hs
   refine ⟨D,p,_,_,rfl,rfl,e3,p3,Nat.le_of_lt (ya9 (by simp;omega)),fun q hq=>?_⟩
   have s4:Same H (upd H3 q (.lst ((hs.filter (qa1 cell)).map (fun h=>V.int (h.bit 0))++[.int bit]))):=s3.upd hq
   have e4:upd H3 q (.lst ((hs.filter (qa1 cell)).map (fun h=>V.int (h.bit 0))++[.int bit])) q=some (.lst ((hs.filter (qa1 cell)).map (fun h=>V.int (h.bit 0))++[.int bit])):=yaa
   revert s4 e4
   generalize upd H3 q (.lst ((hs.filter (qa1 cell)).map (fun h=>V.int (h.bit 0))++[.int bit]))=H4
   intro s4 e4
   refine ⟨q,_,_,_,rfl,rfl,SqL.of e4,qac 0 (put_head hs cell bit),?_⟩
   refine ⟨_,rfl,_,rfl,C,_,cell,_,rfl,rfl,s4 _ _ m.hc,qk4 h0 (by simpa using h1),?_⟩
   rw[map_set]
   exact k _ ((UpC.of s4 m.hc).trans UpC.put)
  ·rintro i H2 hi ⟨s2,e2⟩
   refine ⟨⟨_,_,SqL.of (s2 _ _ m.hl),by rw[List.getElem?_eq_getElem hi]⟩,?_⟩
   rintro x H3 ⟨rfl,hx⟩
   obtain ⟨g,hg,a,rfl,ha⟩:=m.hv.get (hx _ (SqL.of (s2 _ _ m.hl)))
   obtain ⟨ns,og⟩:=m.ok g (List.mem_of_getElem? hg)
   have ha2:=s2 _ _ ha
   refine ⟨yau.set (yau.refl _) rfl,?_⟩
   refine ⟨_,rfl,_,rfl,a,_,rfl,SqT.of ha2,front_ne og,fun q hq=>?_⟩
   rw[yl0 og]
   have s4:Same H3 (upd H3 q (.tup [.str g.w,.int (g.cell 0)])):=(Same.refl H3).upd hq
   have e4:upd H3 q (.tup [.str g.w,.int (g.cell 0)]) q=some (.tup [.str g.w,.int (g.cell 0)]):=yaa
   revert s4 e4
   generalize upd H3 q (.tup [.str g.w,.int (g.cell 0)])=H4
   intro s4 e4
   refine ⟨_,rfl,(by show 2≤sizeLine;decide),fun r hr2=>?_⟩
   have s5:Same H4 (upd H4 r (.tup [.str "stuck",.int cell])):=(Same.refl H4).upd hr2
   have e5:upd H4 r (.tup [.str "stuck",.int cell]) r=some (.tup [.str "stuck",.int cell]):=yaa
   revert s5 e5
   generalize upd H4 r (.tup [.str "stuck",.int cell])=H5
   intro s5 e5
   have s35:=s4.trans s5
   refine ⟨_,_,.tup (s5 _ _ e4) (.cons (.str _) (.cons (.int _) .nil)),.tup e5 (.cons (.str _) (.cons (.int _) .nil)),?_,yl2 cell,by simp[PyData.depth,PyData.depthAll],_,rfl,?_⟩
   ·simp[PyData.canLay0,PyData.canLayAll0]
    exact qhn _ (qdj og.tab)
   rw[ql0]
   rw[List.take_add_one,hg]
   cases hst:qa1 cell g with
   | true=>
    refine iteT ?_
    have hw:g.w="stuck":=by unfold qa1 at hst;simp at hst;exact hst.1
    obtain ⟨c,b,ec,er⟩:=og.s1 (qbc (.inl hw))
    have ha5:=s35 _ _ ha2
    rw[qie ec er] at ha5
    refine ⟨_,rfl,a,_,_,_,rfl,rfl,SqT.of ha5,qac 2 rfl,_,s35 _ _ e2,ya9 ?_,(s2.trans s35).at hD,?_⟩
    ·have:=List.length_filter_le (qa1 cell) (hs.take i)
     simp at this ⊢
     omega
    ·rw[yaa];simp[hst]
   | false=>
    refine iteF ?_
    refine ⟨s2.trans s35,?_⟩
    simp[hst]
    have:=s35 _ _ e2
    simpa using this
end
def St (hs:List Hm) (cs:List Int):Prop:=∀ (c:Int) (b:Int),0≤c→c<cs.length→ya4 hs c=some b→rd cs c=b
theorem yjq {cs:List Int}{c:Int}:cs.set c.toNat (rd cs c)=cs:=by
 apply List.ext_getElem?
 intro i
 rw[List.getElem?_set]
 by_cases h:c.toNat=i
 ·subst h
  rw[if_pos rfl]
  unfold rd
  by_cases hl:c.toNat<cs.length
  ·rw[if_pos hl,List.getD_eq_getElem?_getD,List.getElem?_eq_getElem hl];rfl
  ·rw[if_neg hl,List.getElem?_eq_none (by omega)]
 ·rw[if_neg h]
theorem rd_set {cs:List Int}{c d b:Int} (h0:0≤c) (h1:c<cs.length) (d0:0≤d):rd (cs.set c.toNat b) d=if c=d then b else rd cs d:=by
 unfold rd
 rw[List.getD_eq_getElem?_getD,List.getElem?_set,List.getD_eq_getElem?_getD]
 by_cases h:c=d
 ·subst h
  rw[if_pos rfl,if_pos rfl,if_pos (by omega)]
  rfl
 ·rw[if_neg (by omega),if_neg h]
theorem qgg {hs:List Hm}{cs:List Int} (st:St hs cs) {c b:Int} (h0:0≤c) (h1:c<cs.length):putL hs cs c b=putM hs cs c b:=by
 unfold putL putM
 cases e:ya4 hs c with
 | none=>rfl
 | some x=>
  rw[if_neg (by simp)]
  have:=st c x h0 h1 e
  subst this
  exact yjq
theorem St.put {hs:List Hm}{cs:List Int} (st:St hs cs) {c b:Int} (h0:0≤c) (h1:c<cs.length):St hs (putM hs cs c b):=by
 intro d x d0 d1 e
 rw[qbr] at d1
 unfold putM
 cases hc:ya4 hs c with
 | none=>
  rw[if_pos (by simp),rd_set h0 h1 d0,if_neg (fun z=>by subst z;rw[hc] at e;cases e)]
  exact st d x d0 d1 e
 | some y=>
  rw[if_neg (by simp)]
  exact st d x d0 d1 e
theorem qly (hs:List Hm) (cs:List Int) (n:Nat):putL hs cs n (rd cs n)=match ya4 hs n with|some b=>cs.set n b|none=>cs:=by
 unfold putL
 cases ya4 hs n with
 | none=>exact yjq
 | some b=>rfl
theorem ql1 (hs:List Hm) (cs:List Int):∀ n,n≤cs.length→∀ (j:Nat) b,j<n→ya4 hs j=some b→rd (stkN hs cs n) j=b
 | 0,_,j,b,hj,_=>absurd hj (Nat.not_lt_zero _)
 | n+1,hn,j,b,hj,e=>by
  have ih:=ql1 hs cs n (by omega)
  have hl:=ybb hs cs n
  unfold stkN
  cases hs':ya4 hs n with
  | none=>
   have:j≠n:=fun z=>by subst z;rw[hs'] at e;cases e
   exact ih j b (by omega) e
  | some x=>
   have:=rd_set (cs:=stkN hs cs n) (c:=(n:Int)) (d:=(j:Int)) (b:=x) (by omega) (by omega) (by omega)
   dsimp only
   rw[show ((n:Int)).toNat=n from rfl] at this
   rw[this]
   by_cases hj2:j=n
   ·subst hj2
    rw[if_pos rfl]
    rw[hs'] at e
    exact Option.some.inj e
   ·rw[if_neg (by omega)]
    exact ih j b (by omega) e
theorem St.stk (hs:List Hm) (cs:List Int):St hs (stkN hs cs cs.length):=by
 intro c b h0 h1 e
 rw[ybb] at h1
 obtain ⟨n,rfl⟩:=Int.eq_ofNat_of_zero_le h0
 exact ql1 hs cs cs.length (Nat.le_refl _) n b (by omega) e
theorem St.keepOne {hs:List Hm}{cs:List Int} (st:St hs cs) {h:Hm} (hr:∀ c∈h.c,0≤c∧c<cs.length) {ns:List Str} (o:okH h ns):St hs (keepOne hs cs h):=by
 unfold Mh.keepOne
 split
 ·rename_i hk
  obtain ⟨a,b,x,y,ec,_⟩:=o.sSets (ybc (.inr hk.1))
  have:h.cell 1∈h.c:=by unfold Hm.cell;rw[ec];simp
  exact st.put (hr _ this).1 (hr _ this).2
 ·exact st
theorem St.keepN {hs:List Hm} (ok:Oks hs):∀ (l:List Hm) {cs:List Int},St hs cs→InR hs cs.length→(∀ h∈l,h∈hs)→St hs (keepN hs l cs)
 | [],_,st,_,_=>st
 | h::l,cs,st,hi,hl=>by
  obtain ⟨ns,o⟩:=ok h (hl h (by simp))
  refine St.keepN ok l (cs:=Mh.keepOne hs cs h) (st.keepOne (hi h (hl h (by simp))) o) (by rw[yfx];exact hi) (fun x hx=>hl x (by simp[hx]))
theorem St.settle {hs:List Hm} (ok:Oks hs) {cs:List Int} (hi:InR hs cs.length):St hs (yan hs cs):=
 St.keepN ok hs (St.stk hs cs) (by rw[ybb];exact hi) (fun _ h=>h)
section
variable {P:Program}{w:World}{K:PySem.W.Frag}{mg:Str→Option Value}{base:Heap}
def qem:Sp:=fun vs H Q _=>∃ L C us hs cs,vs=[.ref L,.ref C]∧Mem H L C us hs cs∧hs.length≤3∧InR hs cs.length∧cs.length≤64∧∀ (D:Addr) (H':Hp),Same H H'→H D=none→H' D=some (.lst ((yan hs cs).map V.int))→Q (.ref D) H'
abbrev qbd:Stmt:=top 78
theorem ych:FnScope ["_law_harms_here","_law_contents","_law_held","_law_cell","_law_harm_here"] ["_law_harms_here","_law_contents"] (qad qbd):=⟨rfl,rfl,rfl,by decide +kernel,rfl,by decide +kernel,by decide +kernel⟩
theorem yhe (B:Bl mg) (qbx:Has P w K mg base 1 "_law_put" ["_law_harms_here","_law_held","_law_cell","_law_bit"] qho) (F:FnAt K mg "_law_first_held" qbd ["_law_harms_here","_law_contents"]):Has P w K mg base 2 "_law_first_held" ["_law_harms_here","_law_contents"] qem:=by
 refine Has.of F ych (fun vs H Q E h=>?_) (fun f cdv A outer s H vs Q E hr h=>?_)
 ·obtain ⟨L,C,us,hs,cs,rfl,_⟩:=h
  rfl
 ·obtain ⟨L,C,us,hs,cs,rfl,m,hl3,hi,hcl,k⟩:=h
  have sc:=ych
  refine ⟨_,(qae (yaw (i:=2) sc.nd rfl (Or.inl rfl) (qbj ydf rfl (B.of rfl) boot_list (qaa (pv 1) yab)))
   (qae (qa8 PassesOwn.never rfl (yb8 rfl (B.of rfl) (qaa (yai yag rfl (B.of rfl) boot_len (qaa (pv 2) yab)) yab)) (qag (i:=3) sc.nd rfl (Or.inl rfl))
    (yad (qav (qaf qbx hr (qaw (pv 0) (qaw (pv 2) (qaw (pv 3) (qaa (qah qaj (pv 2) (pv 3) (fun _ _=>rfl)) yab))))))))
   (qae (qa8 PassesOwn.never rfl (qar (pv 0)) (qag (i:=4) sc.nd rfl (Or.inl rfl))
    (yad (ya6 (PW.pt (qbi (yah qax (qah qak (pv 4) qab (fun _ _=>rfl)) qam (qai _)) (qbg (yah qax (qah qaj (pv 2) (qah qak (pv 4) qab (fun _ _=>rfl)) (fun _ _=>rfl)) (qah qak (pv 4) qab (fun _ _=>rfl)) (qai _)))))
     (yad (qav (qaf qbx hr (qaw (pv 0) (qaw (pv 2) (qaa (qah qak (pv 4) qab (fun _ _=>rfl)) (qaa (qah qak (pv 4) qab (fun _ _=>rfl)) yab)))))))
     qap)))
   (yad (yao (pv 2)))))),?_⟩
  refine ⟨_,rfl,C,_,rfl,.inl (SqL.of m.hc),fun D hD=>?_⟩
  have nLD:L≠D:=yae m.hl hD
  have m0:Mem (upd H D (.lst (cs.map V.int))) L D us hs cs:=⟨nLD,by rw[yaj nLD];exact m.hl,m.hv.same ((Same.refl H).upd hD),m.ok,yaa⟩
  have s0:Same H (upd H D (.lst (cs.map V.int))):=(Same.refl H).upd hD
  revert m0 s0
  generalize upd H D (.lst (cs.map V.int))=H0
  intro m0 s0
  have fin:∀ ds H',UpC H0 D ds H'→Same H H':=fun ds H' u b o e=>u.st b o (fun z=>by subst z;rw[hD] at e;cases e) (s0 _ _ e)
  refine ⟨_,rfl,D,_,rfl,.inl (SqL.of m0.hc),cs.length,(by rw[List.length_map]),(by omega),(by omega),qej (n:=cs.length) (fun i σ H2=>∃ (o2:Option V),σ=[some (.ref L),some (.ref C),some (.ref D),o2,none]∧UpC H0 D (stkN hs cs i) H2)
   ⟨none,rfl,UpC.of (Same.refl _) m0.hc⟩ ?_ ?_⟩
  ·rintro i σ H2 hlt ⟨o2,rfl,u2⟩
   have m2:=m0.upC u2
   have hl:=ybb hs cs i
   rw[Int.zero_add]
   refine ⟨_,rfl,_,rfl,_,rfl,_,rfl,_,rfl,D,_,_,_,rfl,rfl,SqL.of m2.hc,qc1 (by omega) (by omega),L,D,us,hs,_,(i:Int),_,rfl,m2,hl3,by omega,by omega,fun H3 u3=>?_⟩
   refine ⟨_,rfl,?_⟩
   rw[qly] at u3
   exact u2.trans u3
  ·rintro σ H2 ⟨o2,rfl,u2⟩
   have m2:=m0.upC u2
   refine ⟨_,rfl,L,rfl,⟨us,SqL.of m2.hl⟩,yay (xs:=us) (fun i σ H2=>∃ (o4:Option V),σ=[some (.ref L),some (.ref C),some (.ref D),o2,o4]∧UpC H0 D (keepN hs (hs.take i) (stkN hs cs cs.length)) H2)
    ⟨none,rfl,u2⟩ (fun i σ H2 _ ⟨_,_,u⟩=>SqL.of (u.st _ _ m0.ne m0.hl)) ?_ ?_⟩
   ·rintro i x σ H3 hx ⟨o4,rfl,u3⟩
    have m3:=m0.upC u3
    have hlen:=(qf9 hs (hs.take i) (stkN hs cs cs.length)).trans (ybb hs cs cs.length)
    have st:=St.keepN m.ok (hs.take i) (St.stk hs cs) (by rw[ybb];exact hi) (fun h hh=>List.mem_of_mem_take hh)
    have step:∀ g,hs[i]?=some g→keepN hs (hs.take (i+1)) (stkN hs cs cs.length)=keepOne hs (keepN hs (hs.take i) (stkN hs cs cs.length)) g:=fun g hg=>yb9 _ _ hg
    revert hlen m3 step u3 st
    generalize keepN hs (hs.take i) (stkN hs cs cs.length)=ds
    intro u3 m3 hlen st step
    obtain ⟨g,hg,a,rfl,ha⟩:=m3.hv.get hx
    have hgm:=List.mem_of_getElem? hg
    obtain ⟨ns,og⟩:=m.ok g hgm
    rw[step g hg]
    unfold keepOne
    refine ⟨_,rfl,a,_,_,_,rfl,rfl,SqT.of ha,qac 0 rfl,rfl,_,rfl,?_⟩
    rw[dS]
    by_cases hw:g.w="keeps"
    ·refine iteD hw ?_
     obtain ⟨c1,c2,x1,x2,ec,er⟩:=og.sSets (ybc (.inr hw))
     have c0:=hi.c0 hgm og
     have c1:=hi.c1 hgm ec
     rw[yer ec er] at ha
     refine ⟨_,rfl,_,rfl,a,_,_,_,rfl,rfl,SqT.of ha,qac 1 rfl,D,_,_,_,rfl,rfl,SqL.of m3.hc,qc1 c0.1 (by omega),?_⟩
     refine ⟨_,rfl,a,_,_,_,rfl,rfl,SqT.of ha,qac 3 rfl,rfl,_,rfl,?_⟩
     rw[dI]
     by_cases hb:rd ds (g.cell 0)=g.bit 0
     ·refine iteD hb ?_
      refine ⟨_,rfl,_,rfl,_,rfl,a,_,_,_,rfl,rfl,SqT.of ha,qac 2 rfl,_,rfl,a,_,_,_,rfl,rfl,SqT.of ha,qac 4 rfl,L,D,us,hs,ds,g.cell 1,g.bit 1,rfl,m3,hl3,c1.1,by omega,fun H4 u4=>?_⟩
      rw[if_pos ⟨hw,hb⟩]
      rw[qgg st c1.1 (by omega)] at u4
      exact ⟨_,rfl,u3.trans u4⟩
     ·refine qa0 hb ?_
      rw[if_neg (fun z=>hb z.2)]
      exact ⟨_,rfl,u3⟩
    ·refine qa0 hw ?_
     rw[if_neg (fun z=>hw z.1)]
     exact ⟨_,rfl,u3⟩
   ·rintro σ H3 ⟨o4,rfl,u3⟩
    rw[m.hv.len,List.take_length] at u3
    exact ⟨_,rfl,k D H3 (fin _ _ u3) hD u3.at_⟩
end
theorem odd_eqv (g:Hm) (cell held:Int):PyData.eqv (.tuple [.int (g.cell 0),.int (g.bit 0)]) (.tuple [.int cell,.int held])=decide (g.cell 0=cell∧g.bit 0=held):=by
 rw[Bool.eq_iff_iff]
 simp[PyData.eqv,PyData.eqvAll]
theorem qju {H:Hp}:∀ (l:List Hm),AtAll H (l.map (fun h=>V.str h.w)) (l.map (fun h=>PyData.str h.w))
 | []=>.nil
 | h::l=>.cons (.str _) (qju l)
theorem qhw:∀ (l:List Hm),Oks l→PyData.canLayAll0 (l.map (fun h=>PyData.str h.w))=true
 | [],_=>rfl
 | h::l,ok=>by
  obtain ⟨ns,o⟩:=ok h (by simp)
  simp only[List.map_cons,PyData.canLayAll0,qhn _ (qdj o.tab),Bool.true_and]
  exact qhw l (fun x hx=>ok x (by simp[hx]))
theorem qi8 (l:List Hm):(PyData.list (l.map (fun h=>PyData.str h.w))).depth≤60:=by
 have:PyData.depthAll (l.map (fun h=>PyData.str h.w))≤1:=qcu fun x hx=>by
  obtain ⟨h,_,rfl⟩:=List.mem_map.mp hx
  simp[PyData.depth]
 simp only[PyData.depth]
 omega
section
variable {P:Program}{w:World}{K:PySem.W.Frag}{mg:Str→Option Value}{base:Heap}
def yk2:Sp:=fun vs H Q _=>∃ L C us hs cs cell,vs=[.ref L,.ref C,.int cell]∧Mem H L C us hs cs∧St hs cs∧hs.length≤3∧0≤cell∧cell<cs.length∧∀ H',UpC H C (qbv hs cs cell).2 H'→Q (.int (qbv hs cs cell).1) H'
abbrev yc3:Stmt:=top 80
theorem ye1:FnScope ["_law_harms_here","_law_held","_law_cell","_law_holds","_law_odd"] ["_law_harms_here","_law_held","_law_cell"] (qad yc3):=⟨rfl,rfl,rfl,by decide +kernel,rfl,by decide +kernel,by decide +kernel⟩
theorem ok_from (B:Bl mg) (qbx:Has P w K mg base 1 "_law_put" ["_law_harms_here","_law_held","_law_cell","_law_bit"] qho) (F:FnAt K mg "_law_from" yc3 ["_law_harms_here","_law_held","_law_cell"]):Has P w K mg base 2 "_law_from" ["_law_harms_here","_law_held","_law_cell"] yk2:=by
 refine Has.of F ye1 (fun vs H Q E h=>?_) (fun f cdv A outer s H vs Q E hr h=>?_)
 ·obtain ⟨L,C,us,hs,cs,cell,rfl,_⟩:=h
  rfl
 ·obtain ⟨L,C,us,hs,cs,cell,rfl,m,st,hl3,h0,h1,k⟩:=h
  have sc:=ye1
  refine ⟨_,(qae (yaw (i:=3) sc.nd rfl (Or.inr rfl) (qah qaj (pv 1) (pv 2) (fun _ _=>rfl)))
   (qae (ydg (i:=4) rfl sc.nd rfl (Or.inl rfl) rfl (qas rfl) (M:=["_law_one","_law_cell","_law_holds"]) (ix:=[none,some 2,some 3]) (qar (pv 0)) (fun _ _ _ _=>(qag (i:=0) (show List.Nodup (["_law_one","_law_cell","_law_holds"]:List Str) by decide +kernel) rfl (Or.inl rfl))) (fun _ _ _ _=>(ycm (PW.pt (qbi (yah (qew (K:=K) rfl) (qah (ya7 (K:=K) rfl) (pv 0) qab (fun _ _=>rfl)) (qbf (qaa qam (qaa qam yab))) (by with_unfolding_all rfl)) (qbg (yah (qjr hr) (qbb (qlx (K:=K) rfl) (pv 0) (yba qab) ycz) (qbf (qaa (pv 1) (qaa (pv 2) yab))) (qai _))))))) (fun _ _ _ _=>(qah (ya7 (K:=K) rfl) (pv 0) qab (fun _ _=>rfl))))
   (qae (ya6 (yah (qjr hr) (pv 4) (qau yab) (qai _))
    (yad (yao (pv 3)))
    qap)
   (qae (qav (qaf qbx hr (qaw (pv 0) (qaw (pv 1) (qaw (pv 2) (qaa (ya3 ye6 qab (pv 3)) yab))))))
   (yad (yao (qah qaj (qau (qaa (qah qaj (pv 1) (pv 2) (fun _ _=>rfl)) (qaa (pv 3) yab))) (qbj qcp rfl (B.of rfl) boot_int (qaa (yav qax (qah qaj (pv 4) qab (fun _ _=>rfl)) qam (qai _)) yab)) (fun _ _=>rfl)))))))),?_⟩
  refine ⟨_,rfl,_,rfl,C,_,_,_,rfl,rfl,SqL.of m.hc,qc1 h0 h1,?_⟩
  refine ⟨_,rfl,L,rfl,⟨us,SqL.of m.hl⟩,fun D hD=>qba (n:=us.length) (fun i H'=>Same H H'∧H' D=some (.lst (((hs.take i).filter (ydx cell (rd cs cell))).map (fun h=>V.str h.w)))) ⟨(Same.refl H).upd hD,yaa⟩ ?_ ?_⟩
  ·rintro H2 ⟨s2,e2⟩
   rw[m.hv.len,List.take_length] at e2
   refine ⟨⟨_,SqL.of (s2 _ _ m.hl),by simp⟩,?_⟩
   have hfo:∀ x∈hs.filter (ydx cell (rd cs cell)),x∈hs∧ydx cell (rd cs cell) x=true:=fun x hx=>List.mem_filter.mp hx
   unfold qbv at k
   rw[← List.head?_filter] at k
   revert k e2 hfo
   generalize hs.filter (ydx cell (rd cs cell))=fl
   intro k e2 hfo
   refine ⟨_,rfl,Nat.zero_le _,fun z hz=>?_⟩
   have s3:Same H2 (upd H2 z (.lst [])):=(Same.refl H2).upd hz
   have e3:upd H2 z (.lst []) z=some (.lst []):=yaa
   revert s3 e3
   generalize upd H2 z (.lst [])=H3
   intro s3 e3
   have okf:Oks fl:=fun x hx=>m.ok x (hfo x hx).1
   refine ⟨_,_,.lst (s3 _ _ e2) (qju fl),.lst e3 .nil,qhw fl okf,rfl,qi8 fl,_,rfl,?_⟩
   cases fl with
   | nil=>
    refine iteB (by simp[PyData.eqv,PyData.eqvAll]) ?_
    exact ⟨_,rfl,k H3 (UpC.of (s2.trans s3) m.hc)⟩
   | cons g fl=>
    refine iteN (by simp[PyData.eqv,PyData.eqvAll]) ?_
    have m3:=m.same (s2.trans s3)
    refine ⟨_,rfl,_,rfl,_,rfl,_,rfl,_,_,rfl,rfl,L,C,us,hs,cs,cell,1-rd cs cell,rfl,m3,hl3,h0,h1,fun H4 u4=>?_⟩
    rw[qgg st h0 h1] at u4
    have u:=(UpC.of (s2.trans s3) m.hc).trans u4
    have nDC:D≠C:=fun z=>by subst z;have:=m.hc;rw[hD] at this;cases this
    have e4:=u4.st D _ nDC (s3 _ _ e2)
    refine ⟨_,rfl,_,rfl,C,_,_,_,rfl,rfl,SqL.of u4.at_,qc1 h0 (by rw[qbr];exact h1),_,rfl,(by show 2≤sizeLine;decide),fun q hq=>?_⟩
    have e5:=(Same.upd (o:=.lst [.int (rd (putM hs cs cell (1-rd cs cell)) cell),.int (rd cs cell)]) (Same.refl H4) hq) _ _ e4
    have q5:upd H4 q (.lst [.int (rd (putM hs cs cell (1-rd cs cell)) cell),.int (rd cs cell)]) q=some (.lst [.int (rd (putM hs cs cell (1-rd cs cell)) cell),.int (rd cs cell)]):=yaa
    have s5:Same H4 (upd H4 q (.lst [.int (rd (putM hs cs cell (1-rd cs cell)) cell),.int (rd cs cell)])):=(Same.refl H4).upd hq
    revert e5 q5 s5
    generalize upd H4 q (.lst [.int (rd (putM hs cs cell (1-rd cs cell)) cell),.int (rd cs cell)])=H5
    intro e5 q5 s5
    have k2:=k H5 (u.same s5)
    dsimp only [List.head?] at k2
    refine ⟨_,rfl,D,_,_,_,rfl,rfl,SqL.of e5,qac 0 rfl,rfl,.inr ⟨_,rfl,?_⟩⟩
    rw[dS]
    by_cases hf:g.w="forgets"
    ·rw[if_pos hf] at k2
     rw[decide_eq_true hf]
     exact ⟨q,_,_,_,rfl,rfl,SqL.of q5,qac 1 rfl,k2⟩
    ·rw[if_neg hf] at k2
     rw[decide_eq_false hf]
     exact ⟨q,_,_,_,rfl,rfl,SqL.of q5,qac 0 rfl,k2⟩
  ·rintro i H2 hi ⟨s2,e2⟩
   refine ⟨⟨_,_,SqL.of (s2 _ _ m.hl),by rw[List.getElem?_eq_getElem hi]⟩,?_⟩
   rintro x H3 ⟨rfl,hx⟩
   obtain ⟨g,hg,a,rfl,ha⟩:=m.hv.get (hx _ (SqL.of (s2 _ _ m.hl)))
   obtain ⟨ns,og⟩:=m.ok g (List.mem_of_getElem? hg)
   have ha2:=s2 _ _ ha
   refine ⟨yau.set (yau.refl _) rfl,?_⟩
   rw[List.take_add_one,hg]
   refine ⟨_,rfl,a,_,_,_,rfl,rfl,SqT.of ha2,qac 0 rfl,(by show 2≤sizeLine;decide),fun p hp=>⟨p,_,rfl,.inr (SqT.of yaa),rfl,rfl,_,rfl,?_⟩⟩
   rw[in2]
   have s4:Same H3 (upd H3 p (.tup [.str "forgets",.str "misreads"])):=(Same.refl H3).upd hp
   revert s4
   generalize upd H3 p (.tup [.str "forgets",.str "misreads"])=H4
   intro s4
   by_cases hw:g.w="forgets"∨g.w="misreads"
   ·refine iteD hw ?_
    obtain ⟨c,b,ec,er⟩:=og.s1 (qbc (by rcases hw with h|h<;>simp[h]))
    have ha4:=s4 _ _ ha2
    have hcut:cutV (hV g) (some 1) none=[.int (g.cell 0),.int (g.bit 0)]:=by
     rw[yfp];unfold Hm.cell Hm.bit;rw[ec,er];rfl
    refine ⟨_,rfl,_,rfl,a,_,rfl,SqT.of ha4,qhj g,fun q hq=>?_⟩
    rw[hcut]
    have s5:Same H4 (upd H4 q (.tup [.int (g.cell 0),.int (g.bit 0)])):=(Same.refl H4).upd hq
    have e5:upd H4 q (.tup [.int (g.cell 0),.int (g.bit 0)]) q=some (.tup [.int (g.cell 0),.int (g.bit 0)]):=yaa
    revert s5 e5
    generalize upd H4 q (.tup [.int (g.cell 0),.int (g.bit 0)])=H5
    intro s5 e5
    refine ⟨_,rfl,_,rfl,(by show 2≤sizeLine;decide),fun r hr2=>?_⟩
    have s6:Same H5 (upd H5 r (.tup [.int cell,.int (rd cs cell)])):=(Same.refl H5).upd hr2
    have e6:upd H5 r (.tup [.int cell,.int (rd cs cell)]) r=some (.tup [.int cell,.int (rd cs cell)]):=yaa
    revert s6 e6
    generalize upd H5 r (.tup [.int cell,.int (rd cs cell)])=H6
    intro s6 e6
    have s36:=(s4.trans s5).trans s6
    refine ⟨_,_,.tup (s6 _ _ e5) (.cons (.int _) (.cons (.int _) .nil)),.tup e6 (.cons (.int _) (.cons (.int _) .nil)),rfl,rfl,by simp[PyData.depth,PyData.depthAll],_,rfl,?_⟩
    rw[odd_eqv]
    by_cases hc:g.cell 0=cell∧g.bit 0=rd cs cell
    ·refine iteD hc ?_
     have ho:ydx cell (rd cs cell) g=true:=decide_eq_true ⟨hw,hc⟩
     refine ⟨_,rfl,a,_,_,_,rfl,rfl,SqT.of (s36 _ _ ha2),qac 0 rfl,_,s36 _ _ e2,ya9 ?_,(s2.trans s36).at hD,?_⟩
     ·have:=List.length_filter_le (ydx cell (rd cs cell)) (hs.take i)
      simp at this ⊢
      omega
     ·rw[yaa];simp[ho]
    ·refine qa0 hc ?_
     have ho:ydx cell (rd cs cell) g=false:=decide_eq_false (fun z=>hc z.2)
     refine ⟨s2.trans s36,?_⟩
     simp[ho]
     simpa using s36 _ _ e2
   ·refine qa0 hw ?_
    have ho:ydx cell (rd cs cell) g=false:=decide_eq_false (fun z=>hw z.1)
    refine ⟨s2.trans s4,?_⟩
    simp[ho]
    simpa using s4 _ _ e2
end
theorem St.read {hs:List Hm}{cs:List Int} (st:St hs cs) {c:Int} (h0:0≤c) (h1:c<cs.length):St hs (qbv hs cs c).2:=by
 unfold qbv
 split
 ·exact st
 ·exact st.put h0 h1
theorem St.reads {hs:List Hm}:∀ (l:List Int) {cs:List Int},St hs cs→(∀ c∈l,0≤c∧c<cs.length)→St hs (yat hs l cs).2
 | [],_,st,_=>st
 | c::l,cs,st,h=>by
  have hc:=h c (by simp)
  exact St.reads l (st.read hc.1 hc.2) (fun d hd=>by rw[qil];exact h d (by simp[hd]))
theorem St.actOne {hs:List Hm}{cs:List Int} (st:St hs cs) (cell:Int) {h:Hm} (hr:∀ c∈h.c,0≤c∧c<cs.length) {ns:List Str} (o:okH h ns):St hs (actOne hs cell cs h):=by
 unfold Mh.actOne
 split
 ·rename_i hk
  have hm:h.cell 1∈h.c:=by
   rcases hk.1 with hw|hw
   ·obtain ⟨a,b,x,ec,_⟩:=o.sTurns (hw ▸ ycs)
    unfold Hm.cell;rw[ec];simp
   ·obtain ⟨a,b,x,y,ec,_⟩:=o.sSets (ybc hw)
    unfold Hm.cell;rw[ec];simp
  exact st.put (hr _ hm).1 (hr _ hm).2
 ·exact st
theorem St.act {hs:List Hm} (ok:Oks hs) (cell:Int):∀ (l:List Hm) {cs:List Int},St hs cs→InR hs cs.length→(∀ h∈l,h∈hs)→St hs (actN hs l cell cs)
 | [],_,st,_,_=>st
 | h::l,cs,st,hi,hl=>by
  obtain ⟨ns,o⟩:=ok h (hl h (by simp))
  exact St.act ok cell l (cs:=Mh.actOne hs cell cs h) (st.actOne cell (hi h (hl h (by simp))) o) (by rw[qg1];exact hi) (fun x hx=>hl x (by simp[hx]))
theorem St.write {hs:List Hm} (ok:Oks hs) {cs:List Int} (st:St hs cs) (hi:InR hs cs.length) {c b:Int} (h0:0≤c) (h1:c<cs.length):St hs (qb8 hs cs c b):=by
 unfold qb8
 split
 ·exact st
 ·split
  ·exact st.put h0 h1
  ·exact St.act ok c hs (st.put h0 h1) (by rw[qbr];exact hi) (fun _ h=>h)
theorem St.writes {hs:List Hm} (ok:Oks hs) (b:Int):∀ (l:List Int) {cs:List Int},St hs cs→InR hs cs.length→(∀ c∈l,0≤c∧c<cs.length)→St hs (qcz hs b l cs)
 | [],_,st,_,_=>st
 | c::l,cs,st,hi,h=>by
  have hc:=h c (by simp)
  exact St.writes ok b l (cs:=qb8 hs cs c b) (st.write ok hi hc.1 hc.2) (by rw[qey];exact hi) (fun d hd=>by rw[qey];exact h d (by simp[hd]))
theorem qlv (hs:List Hm) (cs:List Int) (cell bit:Int):((hs.filter (yci cs cell)).map (fun h=>V.int (h.bit 1))++[V.int bit])[0]?=some (.int (qcx hs cs cell bit)):=by
 unfold qcx
 rw[← List.head?_filter]
 cases hs.filter (yci cs cell)<;>rfl
section
variable {P:Program}{w:World}{K:PySem.W.Frag}{mg:Str→Option Value}{base:Heap}
def qlc:Sp:=fun vs H Q _=>∃ L C us hs cs cell bit,vs=[.ref L,.ref C,.int cell,.int bit]∧Mem H L C us hs cs∧St hs cs∧InR hs cs.length∧hs.length≤3∧0≤cell∧cell<cs.length∧∀ H',UpC H C (qb8 hs cs cell bit) H'→Q .non H'
abbrev qc3:Stmt:=top 79
theorem qfc:FnScope ["_law_harms_here","_law_held","_law_cell","_law_bit","_law_old","_law_kept","_law_harm_here"] ["_law_harms_here","_law_held","_law_cell","_law_bit"] (qad qc3):=⟨rfl,rfl,rfl,by decide +kernel,rfl,by decide +kernel,by decide +kernel⟩
theorem ok_into (B:Bl mg) (qbx:Has P w K mg base 1 "_law_put" ["_law_harms_here","_law_held","_law_cell","_law_bit"] qho) (F:FnAt K mg "_law_into" qc3 ["_law_harms_here","_law_held","_law_cell","_law_bit"]):Has P w K mg base 2 "_law_into" ["_law_harms_here","_law_held","_law_cell","_law_bit"] qlc:=by
  refine Has.of F qfc (fun vs H Q E h=>?_) (fun f cdv A outer s H vs Q E hr h=>?_)
  · obtain ⟨L,C,us,hs,cs,cell,bit,rfl,_⟩:=h
    rfl
  · obtain ⟨L,C,us,hs,cs,cell,bit,rfl,m,st,hi,hl3,h0,h1,k⟩:=h
    have sc:=qfc
    refine ⟨_,(yly rfl (yaf (yla (i:=4) sc.nd rfl (Or.inl rfl) (qah qaj (pv 1) (pv 2) (fun _ _=>rfl)))
      (yaf (yeu (ydg (i:=5) rfl sc.nd rfl (Or.inl rfl) rfl (qas rfl) (M:=["_law_one","_law_cell","_law_held"]) (ix:=[none,some 2,some 1]) (qar (pv 0)) (fun _ _ _ _=>(qag (i:=0) (show List.Nodup (["_law_one","_law_cell","_law_held"]:List Str) by decide +kernel) rfl (Or.inl rfl))) (fun _ _ _ _=>(ycm (PW.pt (qbi (yah qax (qah (ya7 (K:=K) rfl) (pv 0) qab (fun _ _=>rfl)) qam (qai _)) (qbi (yah qax (qah (ya7 (K:=K) rfl) (pv 0) qab (fun _ _=>rfl)) (pv 1) (qai _)) (qbg (yah qax (qah (ycy (K:=K) rfl) (pv 2) (qah (ya7 (K:=K) rfl) (pv 0) qab (fun _ _=>rfl)) (fun _ _=>rfl)) (qah (ya7 (K:=K) rfl) (pv 0) qab (fun _ _=>rfl)) (qai _)))))))) (fun _ _ _ _=>(qah (ya7 (K:=K) rfl) (pv 0) qab (fun _ _=>rfl)))))
      (ql6 (qld (PW.pt (qbi (yah yi0 (pv 4) (pv 3) (qai _)) (qbg (yah (op_inT hr) (qbf (qaa qam (qaa (pv 2) (qaa (pv 3) yab)))) (pv 0) (by with_unfolding_all rfl)))))
        (yak (yla (i:=5) sc.nd rfl (Or.inl rfl) (qau (qaa (pv 4) yab))))
        qa5)
      (yaf (yeu (qav (qaf qbx hr (qaw (pv 0) (qaw (pv 1) (qaw (pv 2) (qaa (qah qaj (ya3 ye3 (pv 5) (qau (qaa (pv 3) yab))) qab (fun _ _=>rfl)) yab)))))))
      (yaf (qld (yah qax (qah qaj (pv 1) (pv 2) (fun _ _=>rfl)) (pv 4) (qai _))
        (yak (yh3 qe6))
        qa5)
      (yaf (yeu (qa8 PassesOwn.never rfl (qar (pv 0)) (qag (i:=6) sc.nd rfl (Or.inl rfl))
        (yad (ya6 (PW.pt (qbi (yah ybj (qah qak (pv 6) qab (fun _ _=>rfl)) (qbf (qaa qam (qaa qam (qaa qam yab)))) (by with_unfolding_all rfl)) (qbi (yah qax (qah qak (pv 6) qab (fun _ _=>rfl)) (pv 2) (qai _)) (qbg (yah qax (qah qak (pv 6) qab (fun _ _=>rfl)) (qah qaj (pv 1) (pv 2) (fun _ _=>rfl)) (qai _))))))
          (yad (qav (qaf qbx hr (qaw (pv 0) (qaw (pv 1) (qaa (qah qak (pv 6) qab (fun _ _=>rfl)) (qaa (qah qaj (qau (qaa (qah qak (pv 6) (pe_un un_neg qab) (fun _ _=>rfl)) (qaa (ya3 ye6 qab (qah qaj (pv 1) (qah qak (pv 6) qab (fun _ _=>rfl)) (fun _ _=>rfl))) yab))) (qbj qcp rfl (B.of rfl) boot_int (qaa (yav qax (qah qak (pv 6) qab (fun _ _=>rfl)) qam (qai _)) yab)) (fun _ _=>rfl)) yab)))))))
          qap))))
      (yak (yh3 qe6))))))))),?_⟩
    refine ⟨_,rfl,_,rfl,C,_,_,_,rfl,rfl,SqL.of m.hc,qc1 h0 h1,?_⟩
    refine ⟨_,rfl,L,rfl,⟨us,SqL.of m.hl⟩,fun D hD=>qba (n:=us.length) (fun i H'=>Same H H'∧H' D=some (.lst (((hs.take i).filter (yci cs cell)).map (fun h=>V.int (h.bit 1))))) ⟨(Same.refl H).upd hD,yaa⟩ ?_ ?_⟩
    · rintro H2 ⟨s2,e2⟩
      rw[m.hv.len,List.take_length] at e2
      refine ⟨⟨_,SqL.of (s2 _ _ m.hl),by simp⟩,?_⟩
      have hfl:=List.length_filter_le (yci cs cell) hs
      refine ⟨fun σ H'=>∃ kp xs v,σ=[some (.ref L),some (.ref C),some (.int cell),some (.int bit),some (.int (rd cs cell)),some (.ref kp),none]∧Same H H'∧H' kp=some (.lst xs)∧xs.length≤3∧(xs++[.int bit])[0]?=some (.int v)∧((qdf hs cs cell bit=true∧v=rd cs cell)∨(qdf hs cs cell bit=false∧v=qcx hs cs cell bit)),?_,?_⟩
      · have notslow:∀ H',Same H2 H'→qdf hs cs cell bit=false→∃ kp xs v,[some (V.ref L),some (.ref C),some (.int cell),some (.int bit),some (.int (rd cs cell)),some (.ref D),none]=[some (V.ref L),some (.ref C),some (.int cell),some (.int bit),some (.int (rd cs cell)),some (.ref kp),none]∧Same H H'∧H' kp=some (.lst xs)∧xs.length≤3∧(xs++[.int bit])[0]?=some (.int v)∧((qdf hs cs cell bit=true∧v=rd cs cell)∨(qdf hs cs cell bit=false∧v=qcx hs cs cell bit)):=
          fun H' s' hs'=>⟨D,_,_,rfl,s2.trans s',s' _ _ e2,by rw[List.length_map];omega,qlv hs cs cell bit,.inr ⟨hs',rfl⟩⟩
        refine ⟨_,rfl,_,rfl,rfl,_,rfl,?_⟩
        rw[dI]
        by_cases hb:rd cs cell=bit
        · refine iteN (by simp[hb]) ?_
          exact notslow H2 (Same.refl H2) (by unfold qdf;simp[hb])
        · refine iteB (by simp[hb]) ?_
          refine ⟨_,rfl,_,rfl,(by show 3≤sizeLine;decide),fun p hp=>⟨_,rfl,?_⟩⟩
          have s3:Same H2 (upd H2 p (.tup [.str "slow",.int cell,.int bit])):=(Same.refl H2).upd hp
          have e3:upd H2 p (.tup [.str "slow",.int cell,.int bit]) p=some (.tup [.str "slow",.int cell,.int bit]):=yaa
          revert s3 e3
          generalize upd H2 p (.tup [.str "slow",.int cell,.int bit])=H3
          intro s3 e3
          have m3:=m.same (s2.trans s3)
          refine ⟨p,_,L,us,rfl,e3,yl3 _ _,rfl,m3.hl,m3.hv.tups m3.ok,_,rfl,?_⟩
          rw[m3.hv.any (g:=qd3 cell bit) (fun h hh v hv=>by
            obtain ⟨a,rfl,ha⟩:=hv
            obtain ⟨ns,o⟩:=m3.ok h hh
            unfold tEq
            dsimp only
            rw[ha]
            exact qkz o cell bit)]
          cases ha:hs.any (qd3 cell bit) with
          | true=>
            refine iteT ?_
            refine ⟨_,rfl,(by show 1≤sizeLine;decide),fun q hq=>?_⟩
            exact ⟨q,_,_,rfl,(s2.trans s3).upd hq,yaa,by simp,rfl,.inl ⟨by unfold qdf;simp[hb,ha],rfl⟩⟩
          | false=>
            refine iteF ?_
            exact notslow H3 s3 (by unfold qdf;simp[ha])
      · rintro σ H3 ⟨kp,xs,v,rfl,s3,e3,hxl,hv,hvv⟩
        refine ⟨_,rfl,_,rfl,_,rfl,_,rfl,_,rfl,(by show 1≤sizeLine;decide),fun p hp=>?_⟩
        have s4:Same H (upd H3 p (.lst [.int bit])):=s3.upd hp
        have e4:upd H3 p (.lst [.int bit]) kp=some (.lst xs):=(Same.upd (Same.refl H3) hp) _ _ e3
        have p4:upd H3 p (.lst [.int bit]) p=some (.lst [.int bit]):=yaa
        revert s4 e4 p4
        generalize upd H3 p (.lst [.int bit])=H4
        intro s4 e4 p4
        refine ⟨kp,p,_,_,rfl,rfl,e4,p4,Nat.le_of_lt (ya9 (by simp;omega)),fun q hq=>?_⟩
        have s5:Same H (upd H4 q (.lst (xs++[.int bit]))):=s4.upd hq
        have e5:upd H4 q (.lst (xs++[.int bit])) q=some (.lst (xs++[.int bit])):=yaa
        revert s5 e5
        generalize upd H4 q (.lst (xs++[.int bit]))=H5
        intro s5 e5
        have m5:=m.same s5
        refine ⟨q,_,_,_,rfl,rfl,SqL.of e5,qac 0 hv,L,C,us,hs,cs,cell,v,rfl,m5,hl3,h0,h1,fun H6 u6=>?_⟩
        rw[qgg st h0 h1] at u6
        have u:UpC H C (putM hs cs cell v) H6:=(UpC.of s5 m.hc).trans u6
        have m6:=m.upC u
        have hpl:=qbr hs cs cell v
        have stp:=st.put (c:=cell) (b:=v) h0 h1
        refine ⟨_,rfl,_,rfl,C,_,_,_,rfl,rfl,SqL.of m6.hc,qc1 h0 (by omega),_,rfl,rfl,_,rfl,?_⟩
        rw[dI]
        unfold qb8 at k
        by_cases hb:rd (putM hs cs cell v) cell=rd cs cell
        · refine iteD hb ?_
          refine k H6 ?_
          rcases hvv with ⟨hs1,rfl⟩|⟨hs1,rfl⟩
          · rw[if_pos hs1]
            have:putM hs cs cell (rd cs cell)=cs:=by unfold putM;split;exact yjq;rfl
            rw[this] at u
            exact u
          · rw[if_neg (by simp[hs1]),if_pos hb]
            exact u
        · refine qa0 hb ?_
          rcases hvv with ⟨hs1,rfl⟩|⟨hs1,rfl⟩
          · exact absurd (by have:putM hs cs cell (rd cs cell)=cs:=by (unfold putM;split;exact yjq;rfl)
                             rw[this]) hb
          rw[if_neg (by simp[hs1]),if_neg hb] at k
          revert k u m6 hpl stp
          generalize putM hs cs cell (qcx hs cs cell bit)=ds
          intro k u m6 hpl stp
          refine ⟨_,rfl,L,rfl,⟨us,SqL.of m6.hl⟩,yay (xs:=us) (fun i σ H2=>∃ (o2:Option V),σ=[some (.ref L),some (.ref C),some (.int cell),some (.int bit),some (.int (rd cs cell)),some (.ref kp),o2]∧UpC H C (actN hs (hs.take i) cell ds) H2)
            ⟨none,rfl,u⟩ (fun i σ H2 _ ⟨_,_,u⟩=>SqL.of (u.st _ _ m.ne m.hl)) ?_ ?_⟩
          · rintro i x σ H7 hx ⟨o2,rfl,u7⟩
            have m7:=m.upC u7
            have hlen:=yg9 hs (hs.take i) cell ds
            have st7:=St.act m.ok cell (hs.take i) stp (by rw[hpl];exact hi) (fun h hh=>List.mem_of_mem_take hh)
            have step:∀ g,hs[i]?=some g→actN hs (hs.take (i+1)) cell ds=actOne hs cell (actN hs (hs.take i) cell ds) g:=fun g hg=>yb9 _ _ hg
            revert u7 m7 hlen st7 step
            generalize actN hs (hs.take i) cell ds=es
            intro u7 m7 hlen st7 step
            obtain ⟨g,hg,a,rfl,ha⟩:=m7.hv.get hx
            have hgm:=List.mem_of_getElem? hg
            obtain ⟨ns,og⟩:=m.ok g hgm
            rw[step g hg]
            unfold actOne
            refine ⟨_,rfl,a,_,_,_,rfl,rfl,SqT.of ha,qac 0 rfl,(by show 3≤sizeLine;decide),fun p hp=>⟨p,_,rfl,.inr (SqT.of yaa),rfl,rfl,_,rfl,?_⟩⟩
            rw[in3]
            have s8:Same H7 (upd H7 p (.tup [.str "turns",.str "sets",.str "keeps"])):=(Same.refl H7).upd hp
            revert s8
            generalize upd H7 p (.tup [.str "turns",.str "sets",.str "keeps"])=H8
            intro s8
            have u8:=u7.same s8
            have m8:=m7.same s8
            have ha8:=s8 _ _ ha
            by_cases hw:g.w="turns"∨g.w="sets"∨g.w="keeps"
            · refine iteD hw ?_
              have two:∃ a b l lv,g.c=[a,b]∧hV g=.str g.w :: .int (g.cell 0) :: .int (g.cell 1) :: .int (g.bit 0)::l∧atI (hV g) (-1)=some (V.int lv)∧(g.w≠"turns"→lv=g.bit 1):=by
                rcases hw with hw|hw
                · obtain ⟨a,b,x,ec,er⟩:=og.sTurns (hw ▸ ycs)
                  exact ⟨a,b,[],_,ec,qha ec er,by rw[qha ec er];exact yhr [.str g.w,.int (g.cell 0),.int (g.cell 1)] _,fun z=>absurd hw z⟩
                · obtain ⟨a,b,x,y,ec,er⟩:=og.sSets (ybc hw)
                  exact ⟨a,b,_,_,ec,yer ec er,by rw[yer ec er];exact yhr [.str g.w,.int (g.cell 0),.int (g.cell 1),.int (g.bit 0)] _,fun _=>rfl⟩
              obtain ⟨a1,b1,l,lv,ec,ht,hlv,hlv2⟩:=two
              rw[ht] at ha8 hlv
              have c1:=hi.c1 hgm ec
              refine ⟨_,rfl,a,_,_,_,rfl,rfl,SqT.of ha8,qac 1 rfl,_,rfl,rfl,_,rfl,?_⟩
              rw[dI]
              by_cases hc:g.cell 0=cell
              · refine iteD hc ?_
                refine ⟨_,rfl,a,_,_,_,rfl,rfl,SqT.of ha8,qac 3 rfl,_,rfl,_,rfl,C,_,_,_,rfl,rfl,SqL.of m8.hc,qc1 h0 (by omega),rfl,_,rfl,?_⟩
                rw[dI]
                by_cases hb2:g.bit 0=rd es cell
                · refine iteD hb2 ?_
                  rw[if_pos ⟨hw,hc,hb2⟩]
                  refine ⟨_,rfl,_,rfl,_,rfl,a,_,_,_,rfl,rfl,SqT.of ha8,qac 2 rfl,?_⟩
                  refine ⟨_,rfl,_,rfl,a,_,_,_,rfl,rfl,SqT.of ha8,hlv,?_⟩
                  refine ⟨_,rfl,_,rfl,a,_,_,_,rfl,rfl,SqT.of ha8,qac 2 rfl,C,_,_,_,rfl,rfl,SqL.of m8.hc,qc1 c1.1 (by omega),_,_,rfl,rfl,(by show 2≤sizeLine;decide),fun q hq=>?_⟩
                  have s9:Same H8 (upd H8 q (.lst [.int lv,.int (1-rd es (g.cell 1))])):=(Same.refl H8).upd hq
                  have e9:upd H8 q (.lst [.int lv,.int (1-rd es (g.cell 1))]) q=some (.lst [.int lv,.int (1-rd es (g.cell 1))]):=yaa
                  revert s9 e9
                  generalize upd H8 q (.lst [.int lv,.int (1-rd es (g.cell 1))])=H9
                  intro s9 e9
                  have m9:=m8.same s9
                  refine ⟨_,rfl,a,_,_,_,rfl,rfl,SqT.of (s9 _ _ ha8),qac 0 rfl,rfl,.inr ⟨_,rfl,?_⟩⟩
                  rw[dS]
                  by_cases htn:g.w="turns"
                  · rw[decide_eq_true htn,if_pos htn]
                    refine ⟨q,_,_,_,rfl,rfl,SqL.of e9,qac 1 rfl,L,C,us,hs,es,g.cell 1,_,rfl,m9,hl3,c1.1,by omega,fun H10 u10=>?_⟩
                    rw[qgg st7 c1.1 (by omega)] at u10
                    exact ⟨_,rfl,(u8.same s9).trans u10⟩
                  · rw[decide_eq_false htn,if_neg htn]
                    refine ⟨q,_,_,_,rfl,rfl,SqL.of e9,qac 0 rfl,L,C,us,hs,es,g.cell 1,_,rfl,m9,hl3,c1.1,by omega,fun H10 u10=>?_⟩
                    rw[qgg st7 c1.1 (by omega),hlv2 htn] at u10
                    exact ⟨_,rfl,(u8.same s9).trans u10⟩
                · refine qa0 hb2 ?_
                  rw[if_neg (fun z=>hb2 z.2.2)]
                  exact ⟨_,rfl,u8⟩
              · refine qa0 hc ?_
                rw[if_neg (fun z=>hc z.2.1)]
                exact ⟨_,rfl,u8⟩
            · refine qa0 hw ?_
              rw[if_neg (fun z=>hw z.1)]
              exact ⟨_,rfl,u8⟩
          · rintro σ H7 ⟨o2,rfl,u7⟩
            rw[m.hv.len,List.take_length] at u7
            exact k H7 u7
    · rintro i H2 hi2 ⟨s2,e2⟩
      refine ⟨⟨_,_,SqL.of (s2 _ _ m.hl),by rw[List.getElem?_eq_getElem hi2]⟩,?_⟩
      rintro x H3 ⟨rfl,hx⟩
      obtain ⟨g,hg,a,rfl,ha⟩:=m.hv.get (hx _ (SqL.of (s2 _ _ m.hl)))
      have hgm:=List.mem_of_getElem? hg
      obtain ⟨ns,og⟩:=m.ok g hgm
      have ha2:=s2 _ _ ha
      refine ⟨yau.set (yau.refl _) rfl,?_⟩
      rw[List.take_add_one,hg]
      have no:yci cs cell g=false→Same H H3∧H3 D=some (.lst ((((hs.take i)++(some g).toList).filter (yci cs cell)).map (fun h=>V.int (h.bit 1)))):=fun ho=>by
        refine ⟨s2,?_⟩
        simp[ho]
        simpa using e2
      refine ⟨_,rfl,a,_,_,_,rfl,rfl,SqT.of ha2,qac 0 rfl,rfl,_,rfl,?_⟩
      rw[dS]
      by_cases hw:g.w="keeps"
      · refine iteD hw ?_
        obtain ⟨c1,c2,x1,x2,ec,er⟩:=og.sSets (ybc (.inr hw))
        rw[yer ec er] at ha2
        have c0:=hi.c0 hgm og
        refine ⟨_,rfl,a,_,_,_,rfl,rfl,SqT.of ha2,qac 2 rfl,_,rfl,rfl,_,rfl,?_⟩
        rw[dI]
        by_cases hc:g.cell 1=cell
        · refine iteD hc ?_
          refine ⟨_,rfl,_,rfl,a,_,_,_,rfl,rfl,SqT.of ha2,qac 1 rfl,C,_,_,_,rfl,rfl,SqL.of (s2 _ _ m.hc),qc1 c0.1 c0.2,?_⟩
          refine ⟨_,rfl,a,_,_,_,rfl,rfl,SqT.of ha2,qac 3 rfl,rfl,_,rfl,?_⟩
          rw[dI]
          by_cases hb:rd cs (g.cell 0)=g.bit 0
          · refine iteD hb ?_
            have ho:yci cs cell g=true:=decide_eq_true ⟨hw,hc,hb⟩
            refine ⟨_,rfl,a,_,_,_,rfl,rfl,SqT.of ha2,qac 4 rfl,_,e2,ya9 ?_,s2.at hD,?_⟩
            · have:=List.length_filter_le (yci cs cell) (hs.take i)
              simp at this ⊢
              omega
            · rw[yaa];simp[ho]
          · exact qa0 hb (no (decide_eq_false (fun z=>hb z.2.2)))
        · exact qa0 hc (no (decide_eq_false (fun z=>hc z.2.1)))
      · exact qa0 hw (no (decide_eq_false (fun z=>hw z.1)))
end
def hD (h:Hm):PyData:=.tuple ((hV h).map dOf)
theorem HsV.data {H:Hp}:∀ {us:List V}{hs:List Hm},HsV H us hs→Oks hs→AtAll H us (hs.map hD)
 | [],[],_,_=>.nil
 | [],_::_,x,_=>by have:=x.len;simp at this
 | _::_,[],x,_=>by have:=x.len;simp at this
 | u::us,h::hs,x,ok=>by
  obtain ⟨a,rfl,ha⟩:=x.at_ 0 u h rfl rfl
  obtain ⟨ns,o⟩:=ok h (List.mem_cons_self ..)
  refine .cons (.tup ha (yfn o.fl.1)) (HsV.data ⟨by have:=x.len;simpa using this,fun i v g h1 h2=>x.at_ (i+1) v g (by simpa using h1) (by simpa using h2)⟩ fun g hg=>ok g (List.mem_cons_of_mem _ hg))
theorem qkt {hs:List Hm} (ok:Oks hs):PyData.canLay0 (.list (hs.map hD))=true:=by
 show PyData.canLayAll0 _=true
 induction hs with
 | nil=>rfl
 | cons h hs ih=>
  obtain ⟨ns,o⟩:=ok h (List.mem_cons_self ..)
  show (PyData.canLay0 (hD h)&&_)=true
  rw[ih fun g hg=>ok g (List.mem_cons_of_mem _ hg),Bool.and_true]
  exact o.fl.2
theorem qhg {hs:List Hm} (ok:Oks hs):(PyData.list (hs.map hD)).depth≤10:=by
 have:=qcu (n:=3) (xs:=hs.map hD) fun x hx=>by
  obtain ⟨h,hh,rfl⟩:=List.mem_map.mp hx
  obtain ⟨ns,o⟩:=ok h hh
  have:=qd6 o.fl.1
  simp only[hD,PyData.depth]
  omega
 simp only[PyData.depth]
 omega
theorem qes (hs:List Hm):PyData.eqv (.list (hs.map hD)) (.list [])=hs.isEmpty:=by
 cases hs<;>simp[PyData.eqv,PyData.eqvAll]
theorem HsV.snoc {H:Hp}{us:List V}{hs:List Hm}{v:V}{h:Hm} (x:HsV H us hs) (hv:HAt H v h):HsV H (us++[v]) (hs++[h]):=by
 refine ⟨by simp[x.len],fun i u g h1 h2=>?_⟩
 by_cases hi:i<us.length
 ·rw[List.getElem?_append_left hi] at h1
  rw[List.getElem?_append_left (by rw[← x.len];exact hi)] at h2
  exact x.at_ i u g h1 h2
 ·rw[List.getElem?_append_right (by omega)] at h1
  rw[List.getElem?_append_right (by rw[← x.len];omega),← x.len] at h2
  cases hj:i-us.length with
  | zero=>rw[hj] at h1 h2;cases h1;cases h2;exact hv
  | succ n=>rw[hj] at h1;simp at h1
theorem qfk {h:Hm}{ns:List Str} (o:okH h ns) (hw:h.w="nowhere"∨h.w="other"∨h.w="both"):∃ x l,hV h=.str h.w :: .int (h.cell 0) :: .int x::l∧(h.w="nowhere"→x=h.bit 0)∧(h.w≠"nowhere"→x=h.cell 1):=by
 rcases hw with hw|hw|hw
 ·obtain ⟨c,b,ec,er⟩:=o.s1 (qbc (by simp[hw]))
  exact ⟨_,_,qie ec er,fun _=>rfl,fun z=>absurd hw z⟩
 ·obtain ⟨c1,c2,ec,er⟩:=o.sOther (hw ▸ ycr)
  exact ⟨_,_,yf2 ec er,fun z=>absurd (hw.symm.trans z) (by decide +kernel),fun _=>rfl⟩
 ·obtain ⟨c1,c2,u,ec,er,hu⟩:=o.sBoth (hw ▸ qcg)
  exact ⟨_,_,yf2 ec er,fun z=>absurd (hw.symm.trans z) (by decide +kernel),fun _=>rfl⟩
section
variable {P:Program}{w:World}{K:PySem.W.Frag}{mg:Str→Option Value}{base:Heap}
def sp_act:Sp:=fun vs H Q _=>∃ L C us hs cs ad sa,vs=[.ref L,.ref C,.int ad,.ref sa]∧Mem H L C us hs cs∧St hs cs∧InR hs cs.length∧hs.length≤3∧0≤ad∧ad<cs.length∧
 ((∃ b,H sa=some (.tup [.str "w",.int b])∧∀ H',UpC H C (writeAt hs cs ad b) H'→Q .non H')∨(∃ x,H sa=some (.tup [.str "r",x])∧∀ H',UpC H C (readAt hs cs ad).2 H'→Q (.int (readAt hs cs ad).1) H'))
abbrev ydu:Stmt:=top 81
theorem yf5:FnScope ["_law_harms_here","_law_held","_law_address","_law_step","_law_odd","_law_cells","_law_cell","_law_bits"] ["_law_harms_here","_law_held","_law_address","_law_step"] (qad ydu):=⟨rfl,rfl,rfl,by decide +kernel,rfl,by decide +kernel,by decide +kernel⟩
theorem ok_act (B:Bl mg) (qjd:Has P w K mg base 2 "_law_into" ["_law_harms_here","_law_held","_law_cell","_law_bit"] qlc) (qi3:Has P w K mg base 2 "_law_from" ["_law_harms_here","_law_held","_law_cell"] yk2) (F:FnAt K mg "_law_act" ydu ["_law_harms_here","_law_held","_law_address","_law_step"]):Has P w K mg base 3 "_law_act" ["_law_harms_here","_law_held","_law_address","_law_step"] sp_act:=by
 refine Has.of F yf5 (fun vs H Q E h=>?_) (fun f cdv A outer s H vs Q E hr h=>?_)
 ·obtain ⟨L,C,us,hs,cs,ad,sa,rfl,_⟩:=h
  rfl
 ·obtain ⟨L,C,us,hs,cs,ad,sa,rfl,m,st,hi,hl3,h0,h1,k⟩:=h
  have sc:=yf5
  refine ⟨_,(yly rfl (yaf (yeu (ydg (i:=4) rfl sc.nd rfl (Or.inl rfl) rfl (qas rfl) (M:=["_law_one","_law_address"]) (ix:=[none,some 2]) (qar (pv 0)) (fun _ _ _ _=>(qag (i:=0) (show List.Nodup (["_law_one","_law_address"]:List Str) by decide +kernel) rfl (Or.inl rfl))) (fun _ _ _ _=>(ycm (PW.pt (qbi (yah (qew (K:=K) rfl) (qah (ya7 (K:=K) rfl) (pv 0) qab (fun _ _=>rfl)) (qbf (qaa qam (qaa qam (qaa qam yab)))) (by with_unfolding_all rfl)) (qbg (yah qax (qah (ya7 (K:=K) rfl) (pv 0) qab (fun _ _=>rfl)) (pv 1) (qai _))))))) (fun _ _ _ _=>(pv 0))))
   (yaf (yla (i:=5) sc.nd rfl (Or.inl rfl) (qau (qaa (pv 2) yab)))
   (ql6 (qld (yah (qh6 hr) (pv 4) (qau yab) (qai _))
    (yak (qat (i:=5) sc.nd rfl (Or.inl rfl) (qe_dget (hu_of hr) (qe_disp (yhq (yac qam) (yac (qau yab)) (yhq (yac qam) (yac (qau (qaa (qah qak (qah qaj (pv 4) qab (fun _ _=>rfl)) qab (fun _ _=>rfl)) yab))) (yhq (yac qam) (yac (qau (qaa (pv 2) (qaa (qah qak (qah qaj (pv 4) qab (fun _ _=>rfl)) qab (fun _ _=>rfl)) yab)))) qps_nil))) rfl rfl (List.cons_ne_nil _ _) (Nat.le_of_ble_eq_true rfl)) (yac (qah qak (qah qaj (pv 4) qab (fun _ _=>rfl)) qab (fun _ _=>rfl))) (fun _ _=>rfl))))
    qa5)
   (yaf (qld (yah qax (qah qak (pv 3) qab (fun _ _=>rfl)) qam (qai _))
    (yaf (yeu (qa8 PassesOwn.never rfl (qar (pv 5)) (qag (i:=6) sc.nd rfl (Or.inl rfl))
     (yad (qav (qaf qjd hr (qaw (pv 0) (qaw (pv 1) (qaw (pv 6) (qaa (qah qak (pv 3) qab (fun _ _=>rfl)) yab)))))))))
    (yak (yh3 qe6)))
    qa5)
   (yaf (yeu (ydg (i:=7) rfl sc.nd rfl (Or.inl rfl) rfl (qas rfl) (M:=["_law_cell","_law_harms_here","_law_held"]) (ix:=[none,some 0,some 1]) (qar (pv 5)) (fun _ _ _ _=>(qag (i:=0) (show List.Nodup (["_law_cell","_law_harms_here","_law_held"]:List Str) by decide +kernel) rfl (Or.inl rfl))) (fun _ _ _ _=>qcv) (fun _ _ _ _=>(qaf qi3 hr (qaa (pv 1) (qaa (pv 2) (qaa (pv 0) yab)))))))
   (yaf (qld (yah qax (yai yag rfl (B.of rfl) boot_len (qaa (pv 7) yab)) qab (qai _))
    (yak (yh3 (qah qaj (qau (qaa (yai (yis rfl) rfl (B.of rfl) boot_max (qaa (pv 7) yab)) (qaa (yai (qii rfl) rfl (B.of rfl) boot_min (qaa (pv 7) yab)) yab))) (qbj qcp rfl (B.of rfl) boot_int (qaa (yav qax (qah qak (qah qaj (pv 4) qab (fun _ _=>rfl)) qab (fun _ _=>rfl)) qam (qai _)) yab)) (fun _ _=>rfl))))
    qa5)
   (yak (yh3 (qah qaj (ya3 ye3 (pv 7) (qau (qaa (yc5 (yah (qh6 hr) (pv 4) (qau yab) (qai _)) (qah qak (qah qaj (pv 4) qab (fun _ _=>rfl)) qab (fun _ _=>rfl)) qab) yab))) qab (fun _ _=>rfl))))))))))),?_⟩
  have kp:∀ h,qa4 hs ad=some h→(h.w="nowhere"∨h.w="other"∨h.w="both")∧∃ ns,okH h ns:=fun h e=>⟨(qbo e).2.1,m.ok h (qbo e).1⟩
  have hin:=qek hi m.ok h0 h1
  have hrl:=yh8 (o:=qa4 hs ad) (a:=ad)
  have hsa:∃ o,H sa=some (.tup o):=by
   rcases k with ⟨b,h,_⟩|⟨x,h,_⟩<;>exact ⟨_,h⟩
  refine ⟨_,rfl,L,rfl,⟨us,SqL.of m.hl⟩,fun D hD=>qba (n:=us.length) (fun i H'=>Same H H'∧∃ vs,H' D=some (.lst vs)∧HsV H' vs ((hs.take i).filter (ybe ad))) ⟨(Same.refl H).upd hD,[],yaa,⟨rfl,fun i v h a=>by simp at a⟩⟩ ?_ ?_⟩
  rotate_left
  ·rintro i H2 hi2 ⟨s2,vs,e2,v2⟩
   refine ⟨⟨_,_,SqL.of (s2 _ _ m.hl),by rw[List.getElem?_eq_getElem hi2]⟩,?_⟩
   rintro x H3 ⟨rfl,hx⟩
   obtain ⟨g,hg,a,rfl,ha⟩:=m.hv.get (hx _ (SqL.of (s2 _ _ m.hl)))
   have hgm:=List.mem_of_getElem? hg
   obtain ⟨ns,og⟩:=m.ok g hgm
   have ha2:=s2 _ _ ha
   refine ⟨yau.set (yau.refl _) rfl,?_⟩
   rw[List.take_add_one,hg]
   refine ⟨_,rfl,a,_,_,_,rfl,rfl,SqT.of ha2,qac 0 rfl,(by show 3≤sizeLine;decide),fun p hp=>⟨p,_,rfl,.inr (SqT.of yaa),rfl,rfl,_,rfl,?_⟩⟩
   rw[in3]
   have s4:Same H3 (upd H3 p (.tup [.str "nowhere",.str "other",.str "both"])):=(Same.refl H3).upd hp
   revert s4
   generalize upd H3 p (.tup [.str "nowhere",.str "other",.str "both"])=H4
   intro s4
   have no:ybe ad g=false→Same H H4∧∃ vs,H4 D=some (.lst vs)∧HsV H4 vs (((hs.take i)++(some g).toList).filter (ybe ad)):=fun ho=>by
    refine ⟨s2.trans s4,vs,s4 _ _ e2,?_⟩
    simp[ho]
    simpa using v2.same s4
   by_cases hw:g.w="nowhere"∨g.w="other"∨g.w="both"
   ·refine iteD hw ?_
    obtain ⟨x,l,ht,_,_⟩:=qfk og hw
    have ha4:=s4 _ _ ha2
    have ha5:=ha4
    rw[ht] at ha5
    refine ⟨_,rfl,a,_,_,_,rfl,rfl,SqT.of ha5,qac 1 rfl,_,rfl,rfl,_,rfl,?_⟩
    rw[dI]
    by_cases hc:g.cell 0=ad
    ·refine iteD hc ?_
     have ho:ybe ad g=true:=decide_eq_true ⟨hw,hc⟩
     have hvl:=v2.len
     have hfl:=List.length_filter_le (ybe ad) (hs.take i)
     have htl:(hs.take i).length≤hs.length:=by rw[List.length_take];omega
     refine ⟨_,rfl,_,s4 _ _ e2,ya9 (by omega),(s2.trans s4).at hD,_,yaa,?_⟩
     rw[List.filter_append,show ((some g).toList).filter (ybe ad)=[g] by simp[ho]]
     have nD:a≠D:=fun z=>by subst z;rw[hD] at ha;cases ha
     have v4:HsV (upd H4 D (.lst (vs++[.ref a]))) vs ((hs.take i).filter (ybe ad)):=⟨hvl,fun j v h h1 h2=>by
      obtain ⟨b,rfl,hb⟩:=(v2.same s4).at_ j v h h1 h2
      exact ⟨b,rfl,by rw[yaj (fun z=>by subst z;rw[s4 _ _ e2] at hb;cases hb)];exact hb⟩⟩
     exact v4.snoc ⟨a,rfl,by rw[yaj nD];exact ha4⟩
    ·exact qa0 hc (no (decide_eq_false fun z=>hc z.2))
   ·exact qa0 hw (no (decide_eq_false fun z=>hw z.1))
  rintro H2 ⟨s2,vs,e2,v2⟩
  rw[m.hv.len,List.take_length] at v2
  have hao:qa4 hs ad=(hs.filter (ybe ad)).head?:=by unfold qa4;rw[List.head?_filter]
  have okf:Oks (hs.filter (ybe ad)):=fun x hx=>m.ok x (List.mem_filter.mp hx).1
  refine ⟨⟨_,SqL.of (s2 _ _ m.hl),by simp⟩,?_⟩
  refine ⟨_,rfl,(by show 1≤sizeLine;decide),fun c1 w1=>?_⟩
  have s3:Same H2 (upd H2 c1 (.lst [.int ad])):=(Same.refl H2).upd w1
  have f3:upd H2 c1 (.lst [.int ad]) c1=some (.lst [.int ad]):=yaa
  revert s3 f3
  generalize upd H2 c1 (.lst [.int ad])=H3
  intro s3 f3
  have nC:∀ {H':Hp}{p:Addr},Same H H'→H' p=none→p≠C:=fun {H' p} s hp z=>by
   have:=s _ _ m.hc
   rw[z] at hp
   rw[hp] at this;cases this
  have nc1:c1≠C:=nC s2 w1
  have nDC:D≠C:=fun z=>by subst z;have:=m.hc;rw[hD] at this;cases this
  refine ⟨fun σ H'=>∃ c,σ=[some (.ref L),some (.ref C),some (.int ad),some (.ref sa),some (.ref D),some (.ref c),none,none]∧Same H3 H'∧H' c=some (.lst ((ybf (qa4 hs ad) ad).map V.int))∧c≠C,?_,?_⟩
  ·refine ⟨_,rfl,Nat.zero_le _,fun z hz=>?_⟩
   have s4:Same H3 (upd H3 z (.lst [])):=(Same.refl H3).upd hz
   have e4:upd H3 z (.lst []) z=some (.lst []):=yaa
   revert s4 e4
   generalize upd H3 z (.lst [])=H4
   intro s4 e4
   have s24:=s3.trans s4
   refine ⟨_,_,.lst (s24 _ _ e2) ((v2.same s24).data okf),.lst e4 .nil,qkt okf,rfl,Nat.le_trans (qhg okf) (by decide),_,rfl,?_⟩
   rw[qes]
   cases hf:hs.filter (ybe ad) with
   | nil=>
    rw[hf] at hao
    refine iteN rfl ⟨c1,rfl,s4,?_,nc1⟩
    rw[hao]
    exact s4 _ _ f3
   | cons g fl=>
    rw[hf] at hao v2
    have hag:qa4 hs ad=some g:=hao
    obtain ⟨hw,ns,og⟩:=kp g hag
    obtain ⟨x,l,ht,hx1,hx2⟩:=qfk og hw
    obtain ⟨v0,vr,rfl⟩:∃ a b,vs=a::b:=by
     cases vs with
     | nil=>have:=v2.len;simp at this
     | cons a b=>exact ⟨a,b,rfl⟩
    obtain ⟨a,rfl,ha⟩:=v2.at_ 0 v0 g rfl rfl
    have ha4:=s24 _ _ ha
    have e24:=s24 _ _ e2
    rw[ht] at ha4
    refine iteT ?_
    intro q hq
    -- the pairs of the display
    have s5:Same H4 (upd H4 q (.dK [])):=(Same.refl H4).upd hq
    have q5:upd H4 q (.dK []) q=some (.dK []):=yaa
    revert s5 q5
    generalize upd H4 q (.dK [])=H5
    intro s5 q5
    refine ⟨Nat.zero_le _,fun l1 y1=>?_⟩
    have s6:Same H5 (upd H5 l1 (.lst [])):=(Same.refl H5).upd y1
    have f6:upd H5 l1 (.lst []) l1=some (.lst []):=yaa
    revert s6 f6
    generalize upd H5 l1 (.lst [])=H6
    intro s6 f6
    have s46:=s5.trans s6
    refine ⟨_,rfl,D,_,_,_,rfl,rfl,SqL.of (s46 _ _ e24),qac 0 rfl,a,_,_,_,rfl,rfl,SqT.of (s46 _ _ ha4),qac 2 rfl,(by show 1≤sizeLine;decide),fun l2 y2=>?_⟩
    have s7:Same H6 (upd H6 l2 (.lst [.int x])):=(Same.refl H6).upd y2
    have f7:upd H6 l2 (.lst [.int x]) l2=some (.lst [.int x]):=yaa
    revert s7 f7
    generalize upd H6 l2 (.lst [.int x])=H7
    intro s7 f7
    have s47:=s46.trans s7
    refine ⟨_,rfl,_,rfl,D,_,_,_,rfl,rfl,SqL.of (s47 _ _ e24),qac 0 rfl,a,_,_,_,rfl,rfl,SqT.of (s47 _ _ ha4),qac 2 rfl,(by show 2≤sizeLine;decide),fun l3 y3=>?_⟩
    have s8:Same H7 (upd H7 l3 (.lst [.int ad,.int x])):=(Same.refl H7).upd y3
    have f8:upd H7 l3 (.lst [.int ad,.int x]) l3=some (.lst [.int ad,.int x]):=yaa
    have y3':=y3
    revert s8 f8
    generalize upd H7 l3 (.lst [.int ad,.int x])=H8
    intro s8 f8
    have s48:=s47.trans s8
    have q8:=s8 _ _ (s7 _ _ (s6 _ _ q5))
    refine ⟨q8,[(.inr "nowhere",.ref l1),(.inr "other",.ref l2),(.inr "both",.ref l3)],rfl,by simp,?_⟩
    have ngq:∀ {b:Addr}{o:HO},H4 b=some o→b≠q:=fun hb z=>by subst z;rw[hq] at hb;cases hb
    have s9:Same H4 (upd H8 q (.dK (qc8 [] [(.inr "nowhere",.ref l1),(.inr "other",.ref l2),(.inr "both",.ref l3)]))):=fun b o hb=>by rw[yaj (ngq hb)];exact s48 _ _ hb
    have q9:upd H8 q (.dK (qc8 [] [(.inr "nowhere",.ref l1),(.inr "other",.ref l2),(.inr "both",.ref l3)])) q=some (.dK (qc8 [] [(.inr "nowhere",.ref l1),(.inr "other",.ref l2),(.inr "both",.ref l3)])):=yaa
    have nl:∀ {b:Addr}{xs:List V},H8 b=some (.lst xs)→b≠q:=fun hb z=>by subst z;rw[q8] at hb;cases hb
    have g1:upd H8 q (.dK (qc8 [] [(.inr "nowhere",.ref l1),(.inr "other",.ref l2),(.inr "both",.ref l3)])) l1=some (.lst []):=by have:=s8 _ _ (s7 _ _ f6);rw[yaj (nl this)];exact this
    have g2:upd H8 q (.dK (qc8 [] [(.inr "nowhere",.ref l1),(.inr "other",.ref l2),(.inr "both",.ref l3)])) l2=some (.lst [.int x]):=by have:=s8 _ _ f7;rw[yaj (nl this)];exact this
    have g3:upd H8 q (.dK (qc8 [] [(.inr "nowhere",.ref l1),(.inr "other",.ref l2),(.inr "both",.ref l3)])) l3=some (.lst [.int ad,.int x]):=by rw[yaj (nl f8)];exact f8
    revert s9 q9 g1 g2 g3
    generalize upd H8 q (.dK (qc8 [] [(.inr "nowhere",.ref l1),(.inr "other",.ref l2),(.inr "both",.ref l3)]))=H9
    intro s9 q9 g1 g2 g3
    have s29:Same H H9:=(s2.trans s24).trans s9
    have nlC:∀ {b:Addr}{H':Hp},Same H H'→H' b=none→b≠C:=fun s hb=>nC s hb
    have sH5:Same H H5:=(s2.trans s24).trans s5
    refine ⟨_,rfl,D,_,_,_,rfl,rfl,SqL.of (s9 _ _ e24),qac 0 rfl,a,_,_,_,rfl,rfl,SqT.of (s9 _ _ ha4),qac 0 rfl,?_⟩
    rcases hw with hw|hw|hw
    ·refine ⟨q,.ref l1,rfl,?_,l1,rfl,s4.trans s9,?_,nlC sH5 y1⟩
     ·rw[hw]
      exact DGet.k (k:=Sum.inr "nowhere") q9
     ·rw[hag]
      have:ybf (some g) ad=[]:=by unfold ybf;simp[hw]
      rw[this]
      exact g1
    ·refine ⟨q,.ref l2,rfl,?_,l2,rfl,s4.trans s9,?_,nlC (sH5.trans s6) y2⟩
     ·rw[hw]
      exact DGet.k (k:=Sum.inr "other") q9
     ·rw[hag]
      have n1:g.w≠"nowhere":=fun z=>absurd (hw.symm.trans z) (by decide +kernel)
      have:ybf (some g) ad=[x]:=by unfold ybf;dsimp only;rw[if_neg n1,if_pos hw,hx2 n1]
      rw[this]
      exact g2
    ·refine ⟨q,.ref l3,rfl,?_,l3,rfl,s4.trans s9,?_,nlC ((sH5.trans s6).trans s7) y3'⟩
     ·rw[hw]
      exact DGet.k (k:=Sum.inr "both") q9
     ·rw[hag]
      have n1:g.w≠"nowhere":=fun z=>absurd (hw.symm.trans z) (by decide +kernel)
      have n2:g.w≠"other":=fun z=>absurd (hw.symm.trans z) (by decide +kernel)
      have:ybf (some g) ad=[ad,x]:=by unfold ybf;dsimp only;rw[if_neg n1,if_neg n2,hx2 n1]
      rw[this]
      exact g3
  ·rintro σ H4 ⟨c,rfl,s4,c4,ncC⟩
   have s14:Same H H4:=(s2.trans s3).trans s4
   rcases k with ⟨b,hsw,k⟩|⟨x,hsr,k⟩
   ·-- written
    have w4:=s14 _ _ hsw
    refine ⟨_,rfl,sa,_,_,_,rfl,rfl,SqT.of w4,qac 0 rfl,rfl,_,rfl,iteB (by decide +kernel) ?_⟩
    unfold writeAt at k
    revert k hin c4
    generalize ybf (qa4 hs ad) ad=rc
    intro hin c4 k
    refine ⟨_,rfl,c,rfl,⟨_,SqL.of c4⟩,yay (xs:=rc.map V.int) (fun i σ H5=>∃ (o6:Option V),σ=[some (.ref L),some (.ref C),some (.int ad),some (.ref sa),some (.ref D),some (.ref c),o6,none]∧UpC H C (qcz hs b (rc.take i) cs) H5∧H5 c=some (.lst (rc.map V.int)))
     ⟨none,rfl,UpC.of s14 m.hc,c4⟩ (fun i σ H5 _ ⟨_,_,_,h⟩=>SqL.of h) ?_ ?_⟩
    ·rintro i y σ H5 hy ⟨o6,rfl,u5,d5⟩
     obtain ⟨ce,hce,rfl⟩:=qa7 hy
     have hci:=hin ce (List.mem_of_getElem? hce)
     have m5:=m.upC u5
     have hl:=yd8 hs b (rc.take i) cs
     have st5:=St.writes m.ok b (rc.take i) st hi (fun z hz=>hin z (List.mem_of_mem_take hz))
     have w5:=u5.st sa _ (fun z=>by subst z;rw[m.hc] at hsw;cases hsw) hsw
     refine ⟨_,rfl,_,rfl,_,rfl,_,rfl,sa,_,_,_,rfl,rfl,SqT.of w5,qac 1 rfl,L,C,us,hs,_,ce,b,rfl,m5,st5,by rw[hl];exact hi,hl3,hci.1,by rw[hl];exact hci.2,fun H6 u6=>?_⟩
     refine ⟨_,rfl,?_,u6.st c _ ncC d5⟩
     unfold qcz
     rw[yb9 _ _ hce]
     exact u5.trans u6
    ·rintro σ H5 ⟨o6,rfl,u5,d5⟩
     rw[List.length_map,List.take_length] at u5
     exact k H5 u5
   ·-- read
    have w4:=s14 _ _ hsr
    refine ⟨_,rfl,sa,_,_,_,rfl,rfl,SqT.of w4,qac 0 rfl,rfl,_,rfl,iteN (by decide +kernel) ?_⟩
    unfold readAt at k
    have e24:=s4 _ _ (s3 _ _ e2)
    have v24:=v2.same (s3.trans s4)
    have oD:∀ g fl,hs.filter (ybe ad)=g::fl→∃ a l x,vs=.ref a::l∧H4 a=some (.tup (hV g)):=fun g fl hf=>by
     rw[hf] at v24
     cases vs with
     | nil=>have:=v24.len;simp at this
     | cons v0 vr=>
      obtain ⟨a,rfl,ha⟩:=v24.at_ 0 v0 g rfl rfl
      exact ⟨a,vr,0,rfl,ha⟩
    revert k hin hrl c4
    generalize hrc:ybf (qa4 hs ad) ad=rc
    intro hin hrl c4 k
    refine ⟨_,rfl,c,rfl,⟨_,SqL.of c4⟩,fun D2 hD2=>qba (n:=rc.length) (fun i H5=>UpC H4 C (yat hs (rc.take i) cs).2 H5∧H5 D2=some (.lst ((yat hs (rc.take i) cs).1.map V.int))) ⟨UpC.of ((Same.refl H4).upd hD2) (s14 _ _ m.hc),yaa⟩ ?_ ?_⟩
    rotate_left
    ·rintro i H5 hi2 ⟨u5,e5⟩
     have c5:=u5.st c _ ncC c4
     refine ⟨⟨_,_,SqL.of c5,by rw[List.getElem?_map,List.getElem?_eq_getElem hi2];rfl⟩,?_⟩
     rintro y H6 ⟨rfl,hy⟩
     obtain ⟨ce,hce,rfl⟩:=qa7 (hy _ (SqL.of c5))
     have hci:=hin ce (List.mem_of_getElem? hce)
     have m5:=(m.same s14).upC u5
     have st5:=St.reads (rc.take i) st (fun z hz=>hin z (List.mem_of_mem_take hz))
     have hD2C:D2≠C:=fun z=>by subst z;rw[s14 _ _ m.hc] at hD2;cases hD2
     refine ⟨yau.set (yau.refl _) rfl,yes ?_⟩
     refine ⟨_,rfl,_,rfl,_,rfl,L,C,us,hs,_,ce,rfl,m5,st5,hl3,hci.1,by rw[qds];exact hci.2,fun H7 u7=>?_⟩
     have es:yat hs (rc.take (i+1)) cs=((yat hs (rc.take i) cs).1++[(qbv hs (yat hs (rc.take i) cs).2 ce).1],(qbv hs (yat hs (rc.take i) cs).2 ce).2):=by rw[List.take_add_one,hce];exact qd8 hs ce (rc.take i) cs
     refine ⟨_,u7.st D2 _ hD2C e5,ya9 (by rw[List.length_map,ycn,List.length_take];omega),?_,?_⟩
     ·rw[es]
      exact (u5.trans u7).new hD2 hD2C.symm
     ·rw[es,yaa];simp
    rintro H5 ⟨u5,e5⟩
    rw[List.take_length] at u5 e5
    refine ⟨⟨_,SqL.of (u5.st c _ ncC c4),by simp⟩,?_⟩
    have hU:UpC H C (yat hs rc cs).2 H5:=(UpC.of s14 m.hc).trans u5
    have k:=fun H' (s':Same H5 H')=>k H' (hU.same s')
    have hfl:=ycn hs rc cs
    have d5:=u5.st D _ nDC e24
    have oD5:∀ g fl,hs.filter (ybe ad)=g::fl→∃ a l,vs=.ref a::l∧H5 a=some (.tup (hV g)):=fun g fl hf=>by
     obtain ⟨a,l,_,e,ha⟩:=oD g fl hf
     exact ⟨a,l,e,u5.st a _ (fun z=>by subst z;rw[s14 _ _ m.hc] at ha;cases ha) ha⟩
    have v5:HsV H5 vs (hs.filter (ybe ad)):=⟨v24.len,fun i v h a b=>u5.hat (s14 _ _ m.hc) (v24.at_ i v h a b)⟩
    revert k e5 hfl
    generalize (yat hs rc cs).1=r1
    intro e5 k hfl
    refine ⟨_,rfl,D2,_,rfl,.inl (SqL.of e5),rfl,_,rfl,?_⟩
    rw[dI]
    match r1,k,e5,hfl with
    | [b,b2],k,e5,hfl=>
     refine iteD (by simp) ?_
     cases hf:hs.filter (ybe ad) with
     | nil=>
      rw[hf] at hao
      rw[hao] at hrc;subst hrc;simp[ybf] at hfl
     | cons h fl=>
      rw[hf] at hao
      have e:qa4 hs ad=some h:=hao
      obtain ⟨hw,ns,oh⟩:=kp h e
      obtain ⟨a,l,rfl,ha⟩:=oD5 h fl hf
      rw[e] at k hrc
      have hb:h.w="both":=by
       unfold ybf at hrc
       dsimp only at hrc
       rcases hw with w|w|w
       ·rw[if_pos w] at hrc;subst hrc;simp at hfl
       ·by_cases w1:h.w="nowhere"
        ·rw[if_pos w1] at hrc;subst hrc;simp at hfl
        ·rw[if_neg w1,if_pos w] at hrc;subst hrc;simp at hfl
       ·exact w
      obtain ⟨c1',c2',u,ec,er,hu⟩:=oh.sBoth (hb ▸ qcg)
      rw[yf2 ec er] at ha
      refine ⟨_,rfl,D2,_,rfl,e5,by simp,fun M h1 h2=>?_⟩
      rw[hi_of h1 h2]
      refine ⟨_,rfl,D2,_,rfl,e5,by simp,fun M' h1' h2'=>?_⟩
      rw[lo_of h1' h2']
      refine ⟨(by show 2≤sizeLine;decide),fun q hq=>?_⟩
      have s6:Same H5 (upd H5 q (.lst [.int (hiI b b2),.int (loI b b2)])):=(Same.refl H5).upd hq
      have q6:upd H5 q (.lst [.int (hiI b b2),.int (loI b b2)]) q=some (.lst [.int (hiI b b2),.int (loI b b2)]):=yaa
      revert s6 q6
      generalize upd H5 q (.lst [.int (hiI b b2),.int (loI b b2)])=H6
      intro s6 q6
      refine ⟨_,rfl,D,_,_,_,rfl,rfl,SqL.of (s6 _ _ d5),qac 0 rfl,a,_,_,_,rfl,rfl,SqT.of (s6 _ _ ha),qac 3 rfl,?_⟩
      rcases hu with rfl|rfl
      ·refine ⟨rfl,.inr ⟨_,rfl,?_⟩⟩
       refine ⟨q,_,_,_,rfl,rfl,SqL.of q6,qac 1 rfl (by decide +kernel),?_⟩
       have:qd4 (some h) [b,b2]=loI b b2:=by
        unfold qd4
        dsimp only
        exact if_pos ⟨h,rfl,er⟩
       rw[← this]
       exact k _ s6
      ·refine ⟨rfl,.inr ⟨_,rfl,?_⟩⟩
       refine ⟨q,_,_,_,rfl,rfl,SqL.of q6,qac 0 rfl (by decide +kernel),?_⟩
       have:qd4 (some h) [b,b2]=hiI b b2:=by
        unfold qd4
        dsimp only
        refine if_neg ?_
        rintro ⟨h',e1,e2⟩
        cases e1
        rw[er] at e2
        have:=V.str.inj (List.cons.inj e2).1
        exact absurd this (by decide +kernel)
       rw[← this]
       exact k _ s6
    | [],k,e5,hfl=>
     refine qa0 (by simp) ?_
     cases hf:hs.filter (ybe ad) with
     | nil=>rw[hf] at hao;rw[hao] at hrc;subst hrc;simp[ybf] at hfl
     | cons h fl=>
      rw[hf] at hao v5 okf
      have e:qa4 hs ad=some h:=hao
      obtain ⟨hw,ns,oh⟩:=kp h e
      obtain ⟨a,l,rfl,ha⟩:=oD5 h fl hf
      rw[e] at k hrc
      have hn:h.w="nowhere":=by
       by_cases w1:h.w="nowhere"
       ·exact w1
       unfold ybf at hrc
       dsimp only at hrc
       rw[if_neg w1] at hrc
       by_cases w2:h.w="other"
       ·rw[if_pos w2] at hrc;subst hrc;simp at hfl
       ·rw[if_neg w2] at hrc;subst hrc;simp at hfl
      obtain ⟨x3,l3,ht,hx1,_⟩:=qfk oh hw
      have hx1:=hx1 hn
      subst hx1
      rw[ht] at ha
      refine ⟨_,rfl,_,rfl,Nat.zero_le _,fun z hz=>?_⟩
      have s6:Same H5 (upd H5 z (.lst [])):=(Same.refl H5).upd hz
      have q6:upd H5 z (.lst []) z=some (.lst []):=yaa
      revert s6 q6
      generalize upd H5 z (.lst [])=H6
      intro s6 q6
      refine ⟨_,_,.lst (s6 _ _ d5) ((v5.same s6).data okf),.lst q6 .nil,qkt okf,rfl,Nat.le_trans (qhg okf) (by decide),_,rfl,iteB (by rw[qes];rfl) ?_⟩
      refine ⟨_,rfl,D,_,_,_,rfl,rfl,SqL.of (s6 _ _ d5),qac 0 rfl,a,_,_,_,rfl,rfl,SqT.of (s6 _ _ ha),qac 2 rfl,(by show 1≤sizeLine;decide),fun q hq=>?_⟩
      have s7:=(Same.refl H6).upd (o:=.lst [V.int (h.bit 0)]) hq
      refine ⟨D2,q,_,_,rfl,rfl,s7 _ _ (s6 _ _ e5),yaa,qf3 (by simp),fun r hr2=>?_⟩
      refine ⟨r,_,_,_,rfl,rfl,SqL.of yaa,qac 0 rfl,?_⟩
      exact k _ ((s6.trans s7).upd hr2)
    | [b],k,e5,hfl=>
     refine qa0 (by simp) ?_
     refine ⟨_,rfl,_,rfl,Nat.zero_le _,fun z hz=>?_⟩
     have s6:Same H5 (upd H5 z (.lst [])):=(Same.refl H5).upd hz
     have q6:upd H5 z (.lst []) z=some (.lst []):=yaa
     revert s6 q6
     generalize upd H5 z (.lst [])=H6
     intro s6 q6
     refine ⟨_,_,.lst (s6 _ _ d5) ((v5.same s6).data okf),.lst q6 .nil,qkt okf,rfl,Nat.le_trans (qhg okf) (by decide),_,rfl,?_⟩
     rw[qes]
     have fin:∀ (H7:Hp) (y:V),Same H6 H7→∀ q,H7 q=none→∃ l b' xs zs,V.ref D2=.ref l∧V.ref q=.ref b'∧upd H7 q (.lst [y]) l=some (.lst xs)∧upd H7 q (.lst [y]) b'=some (.lst zs)∧xs.length+zs.length≤sizeLine∧∀ p,upd H7 q (.lst [y]) p=none→rIxL K (.ref p) (.int 0) (upd (upd H7 q (.lst [y])) p (.lst (xs++zs))) Q:=fun H7 y s7 q hq=>by
      have s8:=(Same.refl H7).upd (o:=.lst [y]) hq
      refine ⟨D2,q,_,_,rfl,rfl,s8 _ _ (s7 _ _ (s6 _ _ e5)),yaa,qf3 (by simp),fun r hr2=>?_⟩
      exact ⟨r,_,_,_,rfl,rfl,SqL.of yaa,qac 0 rfl,k _ (((s6.trans s7).trans s8).upd hr2)⟩
     cases hf:hs.filter (ybe ad) with
     | nil=>
      refine iteN rfl ?_
      exact ⟨(by show 1≤sizeLine;decide),fun q hq=>fin H6 _ (Same.refl _) q hq⟩
     | cons h fl=>
      rw[hf] at hao
      have e:qa4 hs ad=some h:=hao
      obtain ⟨hw,ns,oh⟩:=kp h e
      obtain ⟨a,l,rfl,ha⟩:=oD5 h fl hf
      obtain ⟨x3,l3,ht,_,_⟩:=qfk oh hw
      rw[ht] at ha
      refine iteT ?_
      exact ⟨_,rfl,D,_,_,_,rfl,rfl,SqL.of (s6 _ _ d5),qac 0 rfl,a,_,_,_,rfl,rfl,SqT.of (s6 _ _ ha),qac 2 rfl,(by show 1≤sizeLine;decide),fun q hq=>fin H6 _ (Same.refl _) q hq⟩
    | _::_::_::_,k,e5,hfl=>simp at hfl;omega
end
theorem ykw {d:Int} (h0:0≤d) (h1:d<2):∃ b,d=b2i b:=by
 rcases (by omega:d=0∨d=1) with rfl|rfl
 ·exact ⟨false,rfl⟩
 ·exact ⟨true,rfl⟩
theorem in5 {s a b c d e:Str}:inV (.str s) (([a,b,c,d,e]:List Str).map V.str)=decide (s=a∨s=b∨s=c∨s=d∨s=e):=by
 unfold inV
 rw[Bool.eq_iff_iff]
 simp[eqS]
theorem ql5 {s:Str} (h:s∈yar):(s="stuck"∨s="slow"∨s="forgets"∨s="misreads"∨s="nowhere")∨s="turns"∨(s="sets"∨s="keeps")∨s="other"∨s="both":=by
 simp[yar] at h
 rcases h with rfl|rfl|rfl|rfl|rfl|rfl|rfl|rfl|rfl|rfl<;>simp
theorem yg8 {ss:List Int} (nd:ss.Nodup) {a:Int} (ha:a∈ss):(ss.filter fun x=>!decide (V.int x=V.int a)).length=ss.length-1:=by
 induction ss with
 | nil=>simp at ha
 | cons x r ih=>
  obtain ⟨h1,h2⟩:=List.nodup_cons.mp nd
  by_cases hx:x=a
  ·subst hx
   have:r.filter (fun y=>!decide (V.int y=V.int x))=r:=List.filter_eq_self.mpr fun y hy=>by
    have:y≠x:=fun z=>h1 (z ▸ hy)
    simp[this]
   rw[List.filter_cons,if_neg (by simp),this]
   simp
  ·have ha':a∈r:=by
    rcases List.mem_cons.mp ha with h|h
    ·exact absurd h.symm hx
    ·exact h
   have hp:=List.length_pos_of_mem ha'
   rw[List.filter_cons,if_pos (by simp[hx]),List.length_cons,ih h2 ha',List.length_cons]
   omega
section
variable {P:Program}{w:World}{K:PySem.W.Frag}{mg:Str→Option Value}{base:Heap}
def okSome (ss:List Int) (n:Int):Prop:=ss.Nodup∧2≤ss.length∧ss.length≤3∧∀ x∈ss,0≤x∧x<n
def ykx:Sp:=fun vs H Q _=>∃ (d S:Addr) (d0 d1 d2 d3 d4:Int) (ss:List Int) (n:Int),vs=[.ref d,.ref S]∧H d=some (.lst [.int d0,.int d1,.int d2,.int d3,.int d4])∧0≤d0∧d0<10∧0≤d1∧0≤d2∧0≤d3∧d3<2∧0≤d4∧d4<2∧
 H S=some (.lst (ss.map V.int))∧okSome ss n∧n≤64∧∀ v h ns H',Same H H'→HAt H' v h→(∀ a,v=.ref a→H a=none)→okH h ns→(∀ c∈h.c,c∈ss)→Q v H'
abbrev qc4:Stmt:=top 75
theorem ye4:FnScope ["_law_d","_law_some","_law_words","_law_word","_law_a","_law_b"] ["_law_d","_law_some"] (qad qc4):=⟨rfl,rfl,rfl,by decide +kernel,rfl,by decide +kernel,by decide +kernel⟩
theorem ok_harm (B:Bl mg) (F:FnAt K mg "_law_harm" qc4 ["_law_d","_law_some"]):Has P w K mg base 1 "_law_harm" ["_law_d","_law_some"] ykx:=by
 refine Has.ofQ F ye4 (fun vs H Q E h=>?_) (fun f cdv A outer s H vs Q E hr h=>?_)
 ·obtain ⟨d,S,d0,d1,d2,d3,d4,ss,n,rfl,_⟩:=h
  rfl
 ·obtain ⟨d,S,d0,d1,d2,d3,d4,ss,n,rfl,hd,a0,a0',a1,a2,a3,a3',a4,a4',hS,⟨nd,l2,l3,hr0⟩,hn,k⟩:=h
  have sc:=ye4
  refine ⟨_,(qaz rfl (yaf (qat (i:=2) sc.nd rfl (Or.inl rfl) (qe_strs (xs:=yar) (by decide +kernel)))
   (yaf (qat (i:=3) sc.nd rfl (Or.inl rfl) (qbp qaj (yac (pv 2)) (qbp qaj (yac (pv 0)) (yac qab) (fun _ _=>rfl)) (fun _ _=>rfl)))
   (yaf (qat (i:=4) sc.nd rfl (Or.inr rfl) (qbp qaj (yac (pv 1)) (qfz yeg (qbp qaj (yac (pv 0)) (yac qab) (fun _ _=>rfl)) (yc2 yag rfl (B.of rfl) boot_len (yal (yac (pv 1)) qal))) (fun _ _=>rfl)))
   (yaf (qat (i:=5) sc.nd rfl (Or.inl rfl) (qbp qaj (yac (qca rfl (qas rfl) (M:=["_law_cell","_law_a"]) (ix:=[none,some 4]) (qar (pv 1)) (fun _ _ _ _=>(qag (i:=0) (show List.Nodup (["_law_cell","_law_a"]:List Str) by decide +kernel) rfl (Or.inl rfl))) (fun _ _ _ _=>(ycm (yah yi0 (pv 0) (pv 1) (qai _)))) (fun _ _ _ _=>(pv 0)))) (qfz yeg (qbp qaj (yac (pv 0)) (yac qab) (fun _ _=>rfl)) (qfz ye6 (yc2 yag rfl (B.of rfl) boot_len (yal (yac (pv 1)) qal)) (yac qab))) (fun _ _=>rfl)))
   (yaf (yb7 (ycb ybj (yac (pv 3)) (qe_tstrs (xs:=["stuck","slow","forgets","misreads","nowhere"]) (by decide +kernel)) (by with_unfolding_all rfl))
    (yak (qay (qfd (yal (yac (pv 3)) (yal (yac (pv 4)) (qd5 (qbp qaj (yac (pv 0)) (yac qab) (fun _ _=>rfl)) qal))))))
    qa5)
   (yaf (yb7 (ycb qax (yac (pv 3)) (yac qam) (qai _))
    (yak (qay (qfd (yal (yac (pv 3)) (yal (yac (pv 4)) (yal (yac (pv 5)) (qd5 (qbp qaj (yac (pv 0)) (yac qab) (fun _ _=>rfl)) qal)))))))
    qa5)
   (yaf (yb7 (ycb ybj (yac (pv 3)) (qfd (qck (yac qam) (qck (yac qam) qal))) (by with_unfolding_all rfl))
    (yak (qay (qfd (yal (yac (pv 3)) (yal (yac (pv 4)) (yal (yac (pv 5)) (qd5 (qbp qaj (yac (pv 0)) (yac qab) (fun _ _=>rfl)) (qd5 (qbp qaj (yac (pv 0)) (yac qab) (fun _ _=>rfl)) qal))))))))
    qa5)
   (yak (qay (qbp qaj (qdi (qa_tp (qfd (qck (yac qam) (yal (yac (pv 4)) (yal (yac (pv 5)) qal)))) (qa_tp (qfd (qck (yac qam) (yal (yac (pv 4)) (yal (yac (pv 5)) (qd5 (qbp qaj (qdi (qck (yac qam) (qck (yac qam) qal))) (qbp qaj (yac (pv 0)) (yac qab) (fun _ _=>rfl)) (fun _ _=>rfl)) qal))))) qal))) (qer qcp rfl (B.of rfl) boot_int (qa_cp (yjh qax (yac (pv 3)) (yac qam) (qai _)) qal)) (fun _ _=>rfl)))))))))))),?_⟩
  have hsl:10≤sizeLine:=by decide
  refine ⟨hsl,fun wp hwp=>?_⟩
  have s1:Same H (upd H wp (.lst (yar.map V.str))):=(Same.refl H).upd hwp
  have f1:upd H wp (.lst (yar.map V.str)) wp=some (.lst (yar.map V.str)):=yaa
  revert s1 f1
  generalize upd H wp (.lst (yar.map V.str))=H1
  intro s1 f1
  obtain ⟨word,hword⟩:∃ x,yar[d0.toNat]?=some x:=⟨yar[d0.toNat]'(by show d0.toNat<10;omega),List.getElem?_eq_getElem _⟩
  refine ⟨_,rfl,_,rfl,d,_,_,_,rfl,rfl,SqL.of (s1 _ _ hd),qac 0 rfl,wp,_,_,.str word,rfl,rfl,SqL.of f1,qe0 a0 (by rw[List.getElem?_map,hword];rfl),?_⟩
  have hwm:=ql5 (List.mem_of_getElem? hword)
  -- a
  have hm1:=Int.emod_nonneg d1 (show (ss.length:Int)≠0 by omega)
  have hm1':=Int.emod_lt_of_pos d1 (show (0:Int)<ss.length by omega)
  obtain ⟨a,ha⟩:∃ x,ss[(d1 % (ss.length:Int)).toNat]?=some x:=⟨ss[(d1 % (ss.length:Int)).toNat]'(by omega),List.getElem?_eq_getElem _⟩
  refine ⟨_,rfl,_,rfl,d,_,_,_,rfl,rfl,SqL.of (s1 _ _ hd),qac 1 rfl,_,rfl,S,_,rfl,.inl (SqL.of (s1 _ _ hS)),_,_,rfl,rfl,(by rw[List.length_map];show (0:Int)<ss.length;omega),S,_,_,.int a,rfl,rfl,SqL.of (s1 _ _ hS),?_,?_⟩
  ·rw[List.length_map]
   exact qe0 hm1 (qby ha)
  have ham:=List.mem_of_getElem? ha
  -- b
  refine ⟨_,rfl,S,rfl,⟨_,SqL.of (s1 _ _ hS)⟩,fun D hD=>qba (n:=ss.length) (fun i H'=>Same H1 H'∧H' D=some (.lst (((ss.take i).filter fun x=>!decide (V.int x=V.int a)).map V.int))) ⟨(Same.refl H1).upd hD,yaa⟩ ?_ ?_⟩
  rotate_left
  ·rintro i H2 hi ⟨s2,e2⟩
   have hS2:=s2 _ _ (s1 _ _ hS)
   refine ⟨⟨_,_,SqL.of hS2,by rw[List.getElem?_map,List.getElem?_eq_getElem hi];rfl⟩,?_⟩
   rintro x H3 ⟨rfl,hx⟩
   obtain ⟨y,hy,rfl⟩:=qa7 (hx _ (SqL.of hS2))
   refine ⟨yau.set (yau.refl _) rfl,?_⟩
   refine ⟨_,rfl,_,rfl,rfl,_,rfl,?_⟩
   have hfl:=List.length_filter_le (fun x=>!decide (V.int x=V.int a)) (ss.take i)
   have htl:(ss.take i).length≤ss.length:=by rw[List.length_take];omega
   rw[List.take_add_one,hy]
   by_cases hya:y=a
   ·refine iteN (by simp[hya]) ⟨s2,?_⟩
    rw[e2];simp[hya]
   ·refine iteB (by simp[hya]) ⟨_,rfl,_,e2,ya9 (by rw[List.length_map];omega),s2.at hD,?_⟩
    rw[yaa];simp[hya]
  rintro H2 ⟨s2,e2⟩
  rw[List.take_length] at e2
  refine ⟨⟨_,SqL.of (s2 _ _ (s1 _ _ hS)),by simp⟩,?_⟩
  have hfl:=yg8 nd ham
  have hfm:∀ x∈ss.filter (fun x=>!decide (V.int x=V.int a)),x∈ss∧x≠a:=fun x hx=>by
   obtain ⟨h1,h2⟩:=List.mem_filter.mp hx
   exact ⟨h1,fun z=>by subst z;simp at h2⟩
  revert hfl hfm e2
  generalize ss.filter (fun x=>!decide (V.int x=V.int a))=fs
  intro e2 hfl hfm
  have hm2:=Int.emod_nonneg d2 (show ((ss.length:Int)-1)≠0 by omega)
  have hm2':=Int.emod_lt_of_pos d2 (show (0:Int)<(ss.length:Int)-1 by omega)
  obtain ⟨b,hb⟩:∃ x,fs[(d2 % ((ss.length:Int)-1)).toNat]?=some x:=⟨fs[(d2 % ((ss.length:Int)-1)).toNat]'(by omega),List.getElem?_eq_getElem _⟩
  have s12:=s1.trans s2
  refine ⟨_,rfl,d,_,_,_,rfl,rfl,SqL.of (s12 _ _ hd),qac 2 rfl,_,rfl,S,_,rfl,.inl (SqL.of (s12 _ _ hS)),_,_,rfl,rfl,_,_,rfl,rfl,(by rw[List.length_map];show (0:Int)<(ss.length:Int)-1;omega),D,_,_,.int b,rfl,rfl,SqL.of e2,?_,?_⟩
  ·rw[List.length_map]
   exact qe0 hm2 (qby hb)
  obtain ⟨hbm,hba⟩:=hfm b (List.mem_of_getElem? hb)
  obtain ⟨x3,rfl⟩:=ykw a3 a3'
  obtain ⟨x4,rfl⟩:=ykw a4 a4'
  have ra:=hr0 a ham
  have rb:=hr0 b hbm
  have nab:([a,b]:List Int).Nodup:=by simp[Ne.symm hba]
  have rg1:∀ x∈([a]:List Int),0≤x∧x<64:=fun x hx=>by rw[List.mem_singleton.mp hx];exact ⟨ra.1,by omega⟩
  have rg2:∀ x∈([a,b]:List Int),0≤x∧x<64:=fun x hx=>by
   simp at hx
   rcases hx with rfl|rfl
   ·exact ⟨ra.1,by omega⟩
   ·exact ⟨rb.1,by omega⟩
  have mm1:∀ c∈([a]:List Int),c∈ss:=fun c hc=>by rw[List.mem_singleton.mp hc];exact ham
  have mm2:∀ c∈([a,b]:List Int),c∈ss:=fun c hc=>by
   simp at hc
   rcases hc with rfl|rfl
   ·exact ham
   ·exact hbm
  have bx:∀ x:Bool,bitV (.int (b2i x)):=fun x=>⟨x,rfl⟩
  -- the first sort
  refine ⟨_,rfl,(by show 5≤sizeLine;decide),fun t1 w1=>⟨t1,_,rfl,.inr (SqT.of yaa),rfl,rfl,_,rfl,?_⟩⟩
  rw[in5]
  have s3:Same H2 (upd H2 t1 (.tup ((["stuck","slow","forgets","misreads","nowhere"]:List Str).map V.str))):=(Same.refl H2).upd w1
  revert s3
  generalize upd H2 t1 (.tup ((["stuck","slow","forgets","misreads","nowhere"]:List Str).map V.str))=H3
  intro s3
  have s13:=s12.trans s3
  by_cases c1:word="stuck"∨word="slow"∨word="forgets"∨word="misreads"∨word="nowhere"
  ·refine iteD c1 ?_
   refine ⟨_,rfl,_,rfl,_,rfl,d,_,_,_,rfl,rfl,SqL.of (s13 _ _ hd),qac 3 rfl,(by show 3≤sizeLine;decide),fun p hp=>?_⟩
   exact k _ ⟨word,[a],[.int (b2i x3)]⟩ ["bit"] _ (s13.upd hp) ⟨p,rfl,yaa⟩ (fun a e=>by cases e;exact s13.free hp) ⟨qbc c1,.bit (bx _) .nil,by simp,by simp,by simp,rg1⟩ mm1
  refine qa0 c1 ?_
  refine ⟨_,rfl,rfl,_,rfl,?_⟩
  rw[dS]
  by_cases c2:word="turns"
  ·refine iteD c2 ?_
   refine ⟨_,rfl,_,rfl,_,rfl,_,rfl,d,_,_,_,rfl,rfl,SqL.of (s13 _ _ hd),qac 3 rfl,(by show 4≤sizeLine;decide),fun p hp=>?_⟩
   exact k _ ⟨word,[a,b],[.int (b2i x3)]⟩ ["bit"] _ (s13.upd hp) ⟨p,rfl,yaa⟩ (fun a e=>by cases e;exact s13.free hp) ⟨by rw[c2];exact ycs,.bit (bx _) .nil,by simp,by simp,nab,rg2⟩ mm2
  refine qa0 c2 ?_
  refine ⟨_,rfl,(by show 2≤sizeLine;decide),fun t2 w2=>⟨t2,_,rfl,.inr (SqT.of yaa),rfl,rfl,_,rfl,?_⟩⟩
  rw[in2]
  have s4:Same H3 (upd H3 t2 (.tup [.str "sets",.str "keeps"])):=(Same.refl H3).upd w2
  revert s4
  generalize upd H3 t2 (.tup [.str "sets",.str "keeps"])=H4
  intro s4
  have s14:=s13.trans s4
  by_cases c3:word="sets"∨word="keeps"
  ·refine iteD c3 ?_
   refine ⟨_,rfl,_,rfl,_,rfl,_,rfl,d,_,_,_,rfl,rfl,SqL.of (s14 _ _ hd),qac 3 rfl,_,rfl,d,_,_,_,rfl,rfl,SqL.of (s14 _ _ hd),qac 4 rfl,(by show 5≤sizeLine;decide),fun p hp=>?_⟩
   exact k _ ⟨word,[a,b],[.int (b2i x3),.int (b2i x4)]⟩ ["bit","bit"] _ (s14.upd hp) ⟨p,rfl,yaa⟩ (fun a e=>by cases e;exact s14.free hp) ⟨ybc c3,.bit (bx _) (.bit (bx _) .nil),by simp,by simp,nab,rg2⟩ mm2
  refine qa0 c3 ?_
  have c4:word="other"∨word="both":=by
   rcases hwm with h|h|h|h|h
   ·exact absurd h c1
   ·exact absurd h c2
   ·exact absurd h c3
   ·exact .inl h
   ·exact .inr h
  refine ⟨_,rfl,_,rfl,(by show 3≤sizeLine;decide),fun o1 y1=>?_⟩
  have s5:Same H4 (upd H4 o1 (.tup [.str "other",.int a,.int b])):=(Same.refl H4).upd y1
  have f5:upd H4 o1 (.tup [.str "other",.int a,.int b]) o1=some (.tup [.str "other",.int a,.int b]):=yaa
  revert s5 f5
  generalize upd H4 o1 (.tup [.str "other",.int a,.int b])=H5
  intro s5 f5
  refine ⟨_,rfl,_,rfl,(by show 2≤sizeLine;decide),fun o2 y2=>?_⟩
  have s6:Same H5 (upd H5 o2 (.lst [.str "and",.str "or"])):=(Same.refl H5).upd y2
  have f6:upd H5 o2 (.lst [.str "and",.str "or"]) o2=some (.lst [.str "and",.str "or"]):=yaa
  revert s6 f6
  generalize upd H5 o2 (.lst [.str "and",.str "or"])=H6
  intro s6 f6
  have s16:=(s14.trans s5).trans s6
  obtain ⟨hv,hhv,hho⟩:∃ v,atI [V.str "and",.str "or"] (b2i x3)=some v∧howV v:=by
   cases x3
   ·exact ⟨_,rfl,.inl rfl⟩
   ·exact ⟨_,rfl,.inr rfl⟩
  refine ⟨_,rfl,d,_,_,_,rfl,rfl,SqL.of (s16 _ _ hd),qac 3 rfl,o2,_,_,hv,rfl,rfl,SqL.of f6,hhv,(by show 4≤sizeLine;decide),fun o3 y3=>?_⟩
  have s7:Same H6 (upd H6 o3 (.tup [.str "both",.int a,.int b,hv])):=(Same.refl H6).upd y3
  have f7:upd H6 o3 (.tup [.str "both",.int a,.int b,hv]) o3=some (.tup [.str "both",.int a,.int b,hv]):=yaa
  revert s7 f7
  generalize upd H6 o3 (.tup [.str "both",.int a,.int b,hv])=H7
  intro s7 f7
  refine ⟨(by show 2≤sizeLine;decide),fun o4 y4=>?_⟩
  have s8:Same H7 (upd H7 o4 (.lst [.ref o1,.ref o3])):=(Same.refl H7).upd y4
  have f8:upd H7 o4 (.lst [.ref o1,.ref o3]) o4=some (.lst [.ref o1,.ref o3]):=yaa
  revert s8 f8
  generalize upd H7 o4 (.lst [.ref o1,.ref o3])=H8
  intro s8 f8
  have s68:=s7.trans s8
  have s18:=s16.trans s68
  refine ⟨_,rfl,rfl,.inr ⟨_,rfl,?_⟩⟩
  rcases c4 with rfl|rfl
  ·refine ⟨o4,_,_,_,rfl,rfl,SqL.of f8,qac 0 rfl (by decide +kernel),?_⟩
   exact k _ ⟨"other",[a,b],[]⟩ [] _ s18 ⟨o1,rfl,(s6.trans s68) _ _ f5⟩ (fun a e=>by cases e;exact s14.free y1) ⟨ycr,.nil,by simp,by simp,nab,rg2⟩ mm2
  ·refine ⟨o4,_,_,_,rfl,rfl,SqL.of f8,qac 1 rfl (by decide +kernel),?_⟩
   exact k _ ⟨"both",[a,b],[hv]⟩ ["how"] _ s18 ⟨o3,rfl,s8 _ _ f7⟩ (fun a e=>by cases e;exact s16.free y3) ⟨qcg,.how hho .nil,by simp,by simp,nab,rg2⟩ mm2
end
theorem take5 {l:List Int}{a:Nat} (h:a+5≤l.length):(l.drop a).take 5=[l.getD a 0,l.getD (a+1) 0,l.getD (a+2) 0,l.getD (a+3) 0,l.getD (a+4) 0]:=by
 have g:∀ k,k<l.length→l.getD k 0=l[k]?.getD 0:=fun k _=>List.getD_eq_getElem?_getD ..
 rw[List.drop_eq_getElem_cons (show a<l.length by omega),List.drop_eq_getElem_cons (show a+1<l.length by omega),List.drop_eq_getElem_cons (show a+1+1<l.length by omega),List.drop_eq_getElem_cons (show a+1+1+1<l.length by omega),List.drop_eq_getElem_cons (show a+1+1+1+1<l.length by omega)]
 simp only[List.take_succ_cons,List.take_zero,List.getD_eq_getElem?_getD]
 rw[List.getElem?_eq_getElem (show a<l.length by omega),List.getElem?_eq_getElem (show a+1<l.length by omega),List.getElem?_eq_getElem (show a+2<l.length by omega),List.getElem?_eq_getElem (show a+3<l.length by omega),List.getElem?_eq_getElem (show a+4<l.length by omega)]
 rfl
theorem qiy {xs:List V}{a b:Nat}:cutV xs (some (a:Int)) (some (b:Int))=(xs.drop (min a xs.length)).take (min b xs.length-min a xs.length):=by
 unfold cutV
 rw[HT.sIx_nat,HT.sIx_nat]
def qgm (ss:List Int) (i:Nat):List Int:=((List.range i).map fun j:Nat=>(j:Int)).filter fun x=>!inV (.int x) (ss.map V.int)
theorem ycd {x:Int}{ss:List Int}:inV (.int x) (ss.map V.int)=decide (x∈ss):=by
 rw[Bool.eq_iff_iff,decide_eq_true_iff]
 unfold inV
 rw[List.any_map,List.any_eq_true]
 constructor
 ·rintro ⟨y,hy,h⟩
  have:y=x:=by simpa [eqV] using h
  exact this ▸ hy
 ·intro h
  exact ⟨x,h,by simp[eqV]⟩
theorem free_mem {ss:List Int}{n:Nat}{x:Int} (h:x∈qgm ss n):0≤x∧x<n∧x∉ss:=by
 obtain ⟨h1,h2⟩:=List.mem_filter.mp h
 obtain ⟨j,hj,rfl⟩:=List.mem_map.mp h1
 have:=List.mem_range.mp hj
 rw[ycd] at h2
 exact ⟨by omega,by omega,by simpa using h2⟩
theorem qku {ss:List Int}{n:Nat} (h:ss.length<n):qgm ss n≠[]:=by
 intro e
 have hsub:∀ x∈(List.range n).map (fun j:Nat=>(j:Int)),x∈ss:=fun x hx=>by
  by_cases hm:x∈ss
  ·exact hm
  ·have:x∈qgm ss n:=List.mem_filter.mpr ⟨hx,by rw[ycd];simp[hm]⟩
   rw[e] at this;cases this
 have nd:((List.range n).map (fun j:Nat=>(j:Int))).Nodup:=by
  rw[List.nodup_iff_pairwise_ne,List.pairwise_map]
  exact List.Pairwise.imp (fun h z=>h (by omega)) List.nodup_range
 have:=qjw nd hsub
 simp at this
 omega
section
variable {P:Program}{w:World}{K:PySem.W.Frag}{mg:Str→Option Value}{base:Heap}
def yjm:Sp:=fun vs H Q _=>∃ (c t:Int) (n:Nat),vs=[.int c,.int t,.int n,.int 3]∧0≤t∧t≤1000000∧2≤n∧n≤64∧
 ∀ (p:Addr) (us:List V) (hs:List Hm) (S:List Int) (H':Hp),Same H H'→H p=none→H' p=some (.lst us)→HsV H' us hs→okHs hs S→1≤hs.length→InR hs n→Q (.ref p) H'
abbrev qci:Stmt:=top 76
theorem yeb:FnScope ["_law_cell","_law_turn","_law_size","_law_most","_law_d","_law_some","_law_k","_law_free"] ["_law_cell","_law_turn","_law_size","_law_most"] (qad qci):=⟨rfl,rfl,rfl,by decide +kernel,rfl,by decide +kernel,by decide +kernel⟩
theorem ok_harms (B:Bl mg) (qa6:Has P w K mg base 1 "_law_digits" ["_law_cell","_law_turn","_law_sizes"] ydm) (yi8:Has P w K mg base 1 "_law_harm" ["_law_d","_law_some"] ykx) (F:FnAt K mg "_law_harms" qci ["_law_cell","_law_turn","_law_size","_law_most"]):Has P w K mg base 2 "_law_harms" ["_law_cell","_law_turn","_law_size","_law_most"] yjm:=by
 refine Has.ofQ F yeb (fun vs H Q E h=>?_) (fun f cdv A outer s H vs Q E hr h=>?_)
 ·obtain ⟨c,t,n,rfl,_⟩:=h
  rfl
 ·obtain ⟨c,t,n,rfl,t0,t1,n2,n64,k⟩:=h
  have sc:=yeb
  refine ⟨_,(qaz rfl (yaf (qat (i:=4) sc.nd rfl (Or.inr rfl) (qao qa6 hr (yal (yac (pv 0)) (yal (yac (pv 1)) (qa_bo (qfz ye3 (qdi (yal (yac (pv 3)) (yal (yac (pv 2)) (yal (yac (pv 2)) (yal (yac (pv 2)) qal))))) (qfz qjv (qdi (qck (yac qab) (qck (yac qab) (qck (yac qab) (qck (yac qab) (qck (yac qab) qal)))))) (yac qab))) qal)))))
   (yaf (qat (i:=5) sc.nd rfl (Or.inr rfl) (qdi (qd5 (qbp qaj (yac (pv 4)) (yac qab) (fun _ _=>rfl)) qal)))
   (yaf (yd2 PassesOwn.never rfl (yja (yb8 rfl (B.of rfl) (qaa qab yab))) (qag (i:=6) sc.nd rfl (Or.inl rfl))
    (yaf (yeu (ydg (i:=7) rfl sc.nd rfl (Or.inl rfl) rfl (qas rfl) (M:=["_law_one","_law_some"]) (ix:=[none,some 5]) (yb8 rfl (B.of rfl) (qaa (pv 2) yab)) (fun _ _ _ _=>(qag (i:=0) (show List.Nodup (["_law_one","_law_some"]:List Str) by decide +kernel) rfl (Or.inl rfl))) (fun _ _ _ _=>(ycm (yah (qcw (K:=K) rfl) (pv 0) (pv 1) (by with_unfolding_all rfl)))) (fun _ _ _ _=>(pv 0))))
    (yak (qat (i:=5) sc.nd rfl (Or.inr rfl) (qfz ye3 (yac (pv 5)) (yac (qbb qdh (qbb qdh (pv 7) (yba (ya3 yeg (qah qaj (pv 4) (ya3 yct qab (pv 6)) (fun _ _=>rfl)) (yai (ygi rfl) rfl (B.of rfl) boot_max (qaa qab (qaa (yai yag rfl (B.of rfl) boot_len (qaa (pv 7) yab)) yab))))) ycz) ycz (yba qab))))))))
   (yak (qay (yac (qca rfl (qas rfl) (M:=["_law_k","_law_some","_law_d"]) (ix:=[none,some 5,some 4]) (yb8 rfl (B.of rfl) (qaa (ya3 yct qab (qah qaj (pv 4) qab (fun _ _=>rfl))) yab)) (fun _ _ _ _=>(qag (i:=0) (show List.Nodup (["_law_k","_law_some","_law_d"]:List Str) by decide +kernel) rfl (Or.inl rfl))) (fun _ _ _ _=>qcv) (fun _ _ _ _=>(qaf yi8 hr (qaa (qbb (sl_listK (K:=K) rfl) (pv 2) (yba (ya3 yct qab (ya3 yie qab (pv 0)))) (yba (ya3 yct qab (ya3 yie qab (pv 0))))) (qaa (pv 1) yab)))))))))))),?_⟩
  refine ⟨_,rfl,_,rfl,_,rfl,_,rfl,_,rfl,_,rfl,(by show 4≤sizeLine;decide),fun p1 v1=>?_⟩
  have s1:Same H (upd H p1 (.lst [.int 3,.int n,.int n,.int n])):=(Same.refl H).upd v1
  have f1:upd H p1 (.lst [.int 3,.int n,.int n,.int n]) p1=some (.lst [.int 3,.int n,.int n,.int n]):=yaa
  revert s1 f1
  generalize upd H p1 (.lst [.int 3,.int n,.int n,.int n])=H1
  intro s1 f1
  refine ⟨(by show 5≤sizeLine;decide),fun p2 v2=>?_⟩
  have s2:Same H1 (upd H1 p2 (.lst [.int 10,.int 6,.int 6,.int 2,.int 2])):=(Same.refl H1).upd v2
  have f2:upd H1 p2 (.lst [.int 10,.int 6,.int 6,.int 2,.int 2]) p2=some (.lst [.int 10,.int 6,.int 6,.int 2,.int 2]):=yaa
  revert s2 f2
  generalize upd H1 p2 (.lst [.int 10,.int 6,.int 6,.int 2,.int 2])=H2
  intro s2 f2
  refine ⟨p2,3,_,rfl,rfl,f2,by decide,by decide,qf3 (by decide),fun p3 v3=>?_⟩
  have s3:Same H2 (upd H2 p3 (.lst (List.replicate (3:Int).toNat [V.int 10,.int 6,.int 6,.int 2,.int 2]).flatten)):=(Same.refl H2).upd v3
  have f3:upd H2 p3 (.lst (List.replicate (3:Int).toNat [V.int 10,.int 6,.int 6,.int 2,.int 2]).flatten) p3=some (.lst (([10,6,6,2,2,10,6,6,2,2,10,6,6,2,2]:List Int).map V.int)):=yaa
  revert s3 f3
  generalize upd H2 p3 (.lst (List.replicate (3:Int).toNat [V.int 10,.int 6,.int 6,.int 2,.int 2]).flatten)=H3
  intro s3 f3
  refine ⟨p1,p3,_,_,rfl,rfl,(s2.trans s3) _ _ f1,f3,qf3 (by simp),fun p4 v4=>?_⟩
  have s13:=(s1.trans s2).trans s3
  refine ⟨c,t,p4,[3,n,n,n,10,6,6,2,2,10,6,6,2,2,10,6,6,2,2],rfl,yaa,by simp,?_,t0,t1,fun dp ds H5 s5 ndp hdp hD=>?_⟩
  ·intro z hz
   simp at hz
   omega
  have s15:Same H H5:=(s13.upd v4).trans s5
  clear s5
  have dl:ds.length=19:=hD.1
  obtain ⟨e0,g0,b0,b0'⟩:=hD.get (i:=0) (z:=3) rfl
  obtain ⟨e1,g1,b1,b1'⟩:=hD.get (i:=1) (z:=n) rfl
  refine ⟨_,rfl,dp,_,_,_,rfl,rfl,SqL.of hdp,qac 1 (qby g1),(by show 1≤sizeLine;decide),fun sp v6=>?_⟩
  have s6:Same H5 (upd H5 sp (.lst [.int e1])):=(Same.refl H5).upd v6
  have f6:upd H5 sp (.lst [.int e1]) sp=some (.lst (([e1]:List Int).map V.int)):=yaa
  revert s6 f6
  generalize upd H5 sp (.lst [.int e1])=H6
  intro s6 f6
  refine ⟨2,rfl,by decide,by decide,qej (n:=2) (fun i σ H7=>∃ (S:Addr) (ss:List Int) (o6 o7:Option V),σ=[some (.int c),some (.int t),some (.int n),some (.int 3),some (.ref dp),some (.ref S),o6,o7]∧Same H5 H7∧H7 S=some (.lst (ss.map V.int))∧ss.Nodup∧1+min i 1≤ss.length∧ss.length≤1+i∧∀ x∈ss,0≤x∧x<n)
   ⟨sp,[e1],none,none,rfl,s6,f6,by simp,by simp,by simp,fun x hx=>by rw[List.mem_singleton.mp hx];exact ⟨b1,b1'⟩⟩ ?_ ?_⟩
  ·rintro i σ H7 hi ⟨S,ss,o6,o7,rfl,s7,hS,nd,l1,l2,hin⟩
   refine ⟨_,rfl,_,rfl,by omega,by omega,fun D hD2=>qba (n:=n) (fun j H'=>Same H7 H'∧H' D=some (.lst ((qgm ss j).map V.int))) ⟨(Same.refl H7).upd hD2,yaa⟩ ?_ ?_⟩
   rotate_left
   ·rintro j H8 hj ⟨s8,e8⟩
    refine ⟨by show j<_;simpa using hj,?_⟩
    rintro x H9 ⟨rfl,rfl⟩
    refine ⟨yau.set (yau.refl _) rfl,?_⟩
    refine ⟨_,rfl,_,rfl,S,_,rfl,.inl (SqL.of (s8 _ _ hS)),rfl,by simp[qdb],_,rfl,?_⟩
    have hsn:qgm ss (j+1)=qgm ss j++(if (!inV (.int ((0:Int)+(j:Int))) (ss.map V.int))=true then [(0:Int)+(j:Int)] else []):=by
     unfold qgm
     rw[List.range_succ,List.map_append,List.filter_append,Int.zero_add]
     congr 1
     simp[List.filter_cons]
    have hll:(qgm ss j).length≤j:=by
     unfold qgm
     refine Nat.le_trans (List.length_filter_le _ _) ?_
     simp
    rw[hsn]
    cases hb:(!inV (.int ((0:Int)+(j:Int))) (ss.map V.int)) with
    | true=>
     refine iteB (by simpa using hb) ⟨_,rfl,_,e8,ya9 (by rw[List.length_map];omega),s8.at hD2,?_⟩
     rw[yaa,if_pos rfl,List.map_append]
     rfl
    | false=>
     refine iteN (by simpa using hb) ⟨s8,?_⟩
     rw[e8,if_neg (by simp),List.append_nil]
   rintro H8 ⟨s8,e8⟩
   refine ⟨by show _≤_;simp,?_⟩
   obtain ⟨di,gi,ci,ci'⟩:∃ d,ds[2+i]?=some d∧0≤d∧d<n:=by
    rcases (by omega:i=0∨i=1) with rfl|rfl
    ·exact hD.get (i:=2) (z:=n) rfl
    ·exact hD.get (i:=3) (z:=n) rfl
   have hm:=@free_mem ss n
   have hsome:=@qku ss n
   revert hm hsome e8
   generalize qgm ss n=fs
   intro e8 hm hsome
   have s78:=s7.trans s8
   generalize hM:(if ((fs.map V.int).length:Int)>1 then ((fs.map V.int).length:Int) else 1)=M
   have hM0:0<M:=by rw[← hM];split<;>omega
   have hM1:fs≠[]→M=fs.length:=fun hne=>by
    have:=List.length_pos_iff.mpr hne
    rw[← hM,List.length_map];split<;>omega
   have q0:=Int.emod_nonneg di (show M≠0 by omega)
   have q1:=Int.emod_lt_of_pos di hM0
   refine ⟨_,rfl,_,rfl,_,rfl,_,rfl,_,_,rfl,rfl,dp,_,_,.int di,rfl,rfl,SqL.of (s78 _ _ hdp),?_,_,rfl,D,_,rfl,.inl (SqL.of e8),_,_,rfl,_,_,rfl,rfl,?_,?_⟩
   ·rw[show (2:Int)+((0:Int)+(i:Int))=((2+i:Nat):Int) by omega]
    exact yck (qby gi)
   ·show (0:Int)<(if ((fs.map V.int).length:Int)>1 then ((fs.map V.int).length:Int) else 1)
    rw[hM];exact hM0
   show ∃ i',V.int (di % (if ((fs.map V.int).length:Int)>1 then ((fs.map V.int).length:Int) else 1))=.int i'∧_
   rw[hM]
   refine ⟨_,rfl,D,_,rfl,SqL.of e8,fun c1 y1=>?_⟩
   refine ⟨1,rfl,c1,_,rfl,SqL.of yaa,fun c2 y2=>?_⟩
   have ecut:cutV (cutV (fs.map V.int) (some (di % M)) none) none (some 1)=((fs.drop (di % M).toNat).take 1).map V.int:=by
    rw[show di % M=(((di % M).toNat:Nat):Int) by omega,qjt,show (1:Int)=((1:Nat):Int) from rfl,cut_take,List.map_take,List.map_drop]
    rfl
   rw[ecut]
   have s9:=((Same.refl H8).upd (o:=.lst (cutV (fs.map V.int) (some (di % M)) none)) y1).upd (o:=.lst (((fs.drop (di % M).toNat).take 1).map V.int)) y2
   have f9:upd (upd H8 c1 (.lst (cutV (fs.map V.int) (some (di % M)) none))) c2 (.lst (((fs.drop (di % M).toNat).take 1).map V.int)) c2=some (.lst (((fs.drop (di % M).toNat).take 1).map V.int)):=yaa
   revert s9 f9
   generalize upd (upd H8 c1 (.lst (cutV (fs.map V.int) (some (di % M)) none))) c2 (.lst (((fs.drop (di % M).toNat).take 1).map V.int))=H9
   intro s9 f9
   refine ⟨S,c2,_,_,rfl,rfl,(s8.trans s9) _ _ hS,f9,qf3 (by simp;omega),fun S2 y3=>?_⟩
   refine ⟨S2,ss++(fs.drop (di % M).toNat).take 1,_,_,rfl,((s7.trans s8).trans s9).upd y3,by rw[List.map_append];exact yaa,?_,?_,?_,?_⟩
   ·rw[List.nodup_append]
    refine ⟨nd,?_,fun x hx y hy z=>?_⟩
    ·cases (fs.drop (di % M).toNat)<;>simp
    ·subst z
     exact (hm (List.mem_of_mem_drop (List.mem_of_mem_take hy))).2.2 hx
   ·rw[List.length_append,List.length_take,List.length_drop]
    by_cases hlt:ss.length<n
    ·have hne:=hsome hlt
     have:=hM1 hne
     omega
    ·omega
   ·rw[List.length_append,List.length_take];omega
   ·intro x hx
    rcases List.mem_append.mp hx with hx|hx
    ·exact hin x hx
    ·have:=hm (List.mem_of_mem_drop (List.mem_of_mem_take hx))
     exact ⟨this.1,this.2.1⟩
  ·rintro σ H7 ⟨S,ss,o6,o7,rfl,s7,hS,nd,l1,l2,hin⟩
   have ok:okSome ss n:=⟨nd,by simpa using l1,by simpa using l2,hin⟩
   refine ⟨_,rfl,dp,_,_,_,rfl,rfl,SqL.of (s7 _ _ hdp),qac 0 (qby g0),_,_,rfl,rfl,_,rfl,by omega,by omega,fun D hD2=>qba (n:=((1:Int)+e0).toNat) (fun j H'=>∃ us hs,Same H7 H'∧H' D=some (.lst us)∧HsV H' us hs∧hs.length=j∧Oks hs∧∀ h∈hs,∀ c∈h.c,c∈ss) ⟨[],[],(Same.refl H7).upd hD2,yaa,⟨rfl,fun i v h a=>by simp at a⟩,rfl,(fun _ h=>nomatch h),(fun _ h=>nomatch h)⟩ ?_ ?_⟩
   ·rintro H8 ⟨us,hs,s8,e8,v8,hl8,ok8,hm8⟩
    refine ⟨by show _≤_;simp,?_⟩
    refine k D us hs ss H8 ((s15.trans s7).trans s8) ((s15.trans s7).free hD2) e8 v8 ⟨by omega,ok8,by simpa using l2,hm8⟩ (by omega) ?_
    intro h hh c hc
    exact hin c (hm8 h hh c hc)
   ·rintro j H8 hj ⟨us,hs,s8,e8,v8,hl8,ok8,hm8⟩
    refine ⟨by show j<_;simpa using hj,?_⟩
    rintro x H9 ⟨rfl,rfl⟩
    refine ⟨yau.set (yau.refl _) rfl,yes ?_⟩
    have hj2:j≤2:=by omega
    refine ⟨_,rfl,_,rfl,_,_,rfl,rfl,.inl ⟨by decide,by decide⟩,_,_,rfl,rfl,_,rfl,_,rfl,_,_,rfl,rfl,.inl ⟨by decide,by decide⟩,_,_,rfl,rfl,_,rfl,dp,_,rfl,SqL.of (s8 _ _ (s7 _ _ hdp)),fun q w1=>?_⟩
    have ecut:cutV (ds.map V.int) (some ((4:Int)+5*((0:Int)+(j:Int)))) (some ((9:Int)+5*((0:Int)+(j:Int))))=[.int (ds.getD (4+5*j) 0),.int (ds.getD (4+5*j+1) 0),.int (ds.getD (4+5*j+2) 0),.int (ds.getD (4+5*j+3) 0),.int (ds.getD (4+5*j+4) 0)]:=by
     rw[show (4:Int)+5*((0:Int)+(j:Int))=((4+5*j:Nat):Int) by omega,show (9:Int)+5*((0:Int)+(j:Int))=((9+5*j:Nat):Int) by omega,qiy,List.length_map,dl,← List.map_drop,← List.map_take,
      show min (9+5*j) 19-min (4+5*j) 19=5 by omega,show min (4+5*j) 19=4+5*j by omega,take5 (by omega)]
     rfl
    have dig:∀ (o:Nat) (z:Int),([3,(n:Int),n,n,10,6,6,2,2,10,6,6,2,2,10,6,6,2,2]:List Int)[4+5*j+o]?=some z→0≤ds.getD (4+5*j+o) 0∧ds.getD (4+5*j+o) 0<z:=fun o z hz=>by
     obtain ⟨d,h1,h2,h3⟩:=hD.get hz
     rw[List.getD_eq_getElem?_getD,h1]
     exact ⟨h2,h3⟩
    have z0:=dig 0 10 (by rcases (by omega:j=0∨j=1∨j=2) with rfl|rfl|rfl<;>rfl)
    have z1:=dig 1 6 (by rcases (by omega:j=0∨j=1∨j=2) with rfl|rfl|rfl<;>rfl)
    have z2:=dig 2 6 (by rcases (by omega:j=0∨j=1∨j=2) with rfl|rfl|rfl<;>rfl)
    have z3:=dig 3 2 (by rcases (by omega:j=0∨j=1∨j=2) with rfl|rfl|rfl<;>rfl)
    have z4:=dig 4 2 (by rcases (by omega:j=0∨j=1∨j=2) with rfl|rfl|rfl<;>rfl)
    have s9:=(Same.refl H9).upd (o:=.lst (cutV (ds.map V.int) (some ((4:Int)+5*((0:Int)+(j:Int)))) (some ((9:Int)+5*((0:Int)+(j:Int)))))) w1
    have f9:=yaa (H:=H9) (a:=q) (o:=.lst (cutV (ds.map V.int) (some ((4:Int)+5*((0:Int)+(j:Int)))) (some ((9:Int)+5*((0:Int)+(j:Int))))))
    revert s9 f9
    generalize hHA:upd H9 q (.lst (cutV (ds.map V.int) (some ((4:Int)+5*((0:Int)+(j:Int)))) (some ((9:Int)+5*((0:Int)+(j:Int))))))=HA
    intro s9 f9
    rw[ecut] at f9
    refine ⟨_,rfl,q,S,_,_,_,_,_,ss,n,rfl,(by first|exact f9|(rw[hHA];exact f9)),z0.1,z0.2,z1.1,z2.1,z3.1,z3.2,z4.1,z4.2,(by first|exact s9 _ _ (s8 _ _ hS)|(rw[hHA];exact s9 _ _ (s8 _ _ hS))),ok,by omega,fun v h ns HB sB hv nv oh hmem=>?_⟩
    have sB':Same HA HB:=by first|exact sB|(rw[hHA] at sB;exact sB)
    have s9B:=s9.trans sB'
    refine ⟨_,s9B _ _ e8,ya9 (by have:=v8.len;omega),us++[v],hs++[h],(s8.trans s9B).at hD2,yaa,?_,by simp[hl8],?_,?_⟩
    ·have keep:∀ u g,HAt HB u g→HAt (upd HB D (.lst (us++[v]))) u g:=fun u g ⟨a,e,ha⟩=>⟨a,e,by rw[yaj (fun z=>by subst z;rw[s9B _ _ e8] at ha;cases ha)];exact ha⟩
     have v9:=v8.same s9B
     exact HsV.snoc ⟨v9.len,fun i u g h1 h2=>keep u g (v9.at_ i u g h1 h2)⟩ (keep v h hv)
    ·intro g hg
     rcases List.mem_append.mp hg with hg|hg
     ·exact ok8 g hg
     ·rw[List.mem_singleton.mp hg];exact ⟨ns,oh⟩
    ·intro g hg
     rcases List.mem_append.mp hg with hg|hg
     ·exact hm8 g hg
     ·rw[List.mem_singleton.mp hg];exact hmem
end
def fsM (L Cc:Addr):List (Str×V):=[("harms",.ref L),("cells",.ref Cc)]
structure CM (K:PySem.W.Frag) (C:Addr):Prop where
 c:Cls K C
 nh:yfc K C "harms"
 nc:yfc K C "cells"
structure MemO (H:Hp) (C m L Cc:Addr) (us:List V) (hs:List Hm) (cs:List Int):Prop where
 o:∃ dx,H m=some (.ins C dx (fsM L Cc))
 m:Mem H L Cc us hs cs
theorem lk_h {L Cc:Addr}:(fsM L Cc).lookup ("harms" : Str)=some (V.ref L):=by
 unfold fsM
 rw[List.lookup_cons,show (("harms" : Str) == "harms")=true by decide +kernel]
theorem lk_c {L Cc:Addr}:(fsM L Cc).lookup ("cells" : Str)=some (V.ref Cc):=by
 unfold fsM
 rw[List.lookup_cons,show (("cells" : Str) == "harms")=false by decide +kernel,List.lookup_cons,show (("cells" : Str) == "cells")=true by decide +kernel]
theorem lk_n {L Cc:Addr}{f:Str} (h1:(f == ("harms" : Str))=false:=by decide +kernel) (h2:(f == ("cells" : Str))=false:=by decide +kernel):(fsM L Cc).lookup f=none:=by
 unfold fsM
 rw[List.lookup_cons,h1,List.lookup_cons,h2]
 rfl
section
variable {P:Program}{w:World}{K:PySem.W.Frag}{mg:Str→Option Value}{base:Heap}{C:Addr}
def qgf (C:Addr):Sp:=fun vs H Q _=>∃ m L Cc us hs cs a,vs=[.ref m,.int a]∧MemO H C m L Cc us hs cs∧0≤a∧a<cs.length∧Q .non H
abbrev yam:Stmt:=yf9 (top 61) 1
theorem ybi:FnScope ["self","address"] ["self","address"] (qad yam):=⟨rfl,rfl,rfl,by decide +kernel,rfl,by decide +kernel,by decide +kernel⟩
theorem qlk (B:Bl mg) (cm:CM K C) (qbw:Has P w K mg base 1 "is_whole" ["thing"] qcc) (F:ydb K C "look_at_address" "Memory.look_at_address" yam ["self","address"]):HasM P w K mg base C 2 "look_at_address" ["self","address"] (qgf C):=by
 refine HasM.ofQ F ybi (fun vs H Q E h=>?_) (fun f cdv A outer s H vs Q E hr h=>?_)
 ·obtain ⟨m,L,Cc,us,hs,cs,a,rfl,_⟩:=h
  rfl
 ·obtain ⟨m,L,Cc,us,hs,cs,a,rfl,⟨⟨dx,ho⟩,mm⟩,h0,h1,k⟩:=h
  have sc:=ybi
  refine ⟨_,(qaz rfl (yak (yb7 (QW.pt (qw_or (qht (qgb (qao qbw hr (yal (yac (pv 1)) qal)))) (qw_or (ycb op_lt (yac (pv 1)) (yac qab) (qai _)) (qw_or1 (ycb ylx (yac (pv 1)) (yc2 yag rfl (B.of rfl) boot_len (yim (ye7 (yac (pv 0)) rfl) qal)) (qai _))))))
    (yak (yeu qbk))
    qa5))),?_⟩
  refine ⟨_,rfl,a,rfl,_,rfl,iteN rfl ?_⟩
  refine ⟨_,rfl,_,_,rfl,rfl,_,rfl,qa0 (by omega) ?_⟩
  refine ⟨_,rfl,_,rfl,m,C,dx,_,_,rfl,ho,cm.c,cm.nc,lk_c,Cc,_,rfl,.inl (SqL.of mm.hc),_,_,rfl,rfl,_,rfl,qa0 (by rw[List.length_map];omega) ?_⟩
  exact k
def qik (C:Addr):Sp:=fun vs H Q _=>∃ m L Cc us hs cs a,vs=[.ref m,.int a]∧MemO H C m L Cc us hs cs∧InR hs cs.length∧0≤a∧a<cs.length∧∀ H',UpC H Cc (readAt hs cs a).2 H'→Q (.int (readAt hs cs a).1) H'
abbrev ya1:Stmt:=yf9 (top 61) 2
theorem yd1:FnScope ["self","address"] ["self","address"] (qad ya1):=⟨rfl,rfl,rfl,by decide +kernel,rfl,by decide +kernel,by decide +kernel⟩
theorem qmb (cm:CM K C) (yey:HasM P w K mg base C 2 "look_at_address" ["self","address"] (qgf C)) (qlt:Has P w K mg base 4 "read_at" ["harms","cells","address"] qgr) (F:ydb K C "read" "Memory.read" ya1 ["self","address"]):HasM P w K mg base C 5 "read" ["self","address"] (qik C):=by
 refine HasM.ofQ F yd1 (fun vs H Q E h=>?_) (fun f cdv A outer s H vs Q E hr h=>?_)
 ·obtain ⟨m,L,Cc,us,hs,cs,a,rfl,_⟩:=h
  rfl
 ·obtain ⟨m,L,Cc,us,hs,cs,a,rfl,mo,hi,h0,h1,k⟩:=h
  obtain ⟨⟨dx,ho⟩,mm⟩:=id mo
  have sc:=yd1
  refine ⟨_,(qaz rfl (yaf (yb3 (qfo cm.c yey hr (yac (pv 0)) (yal (yac (pv 1)) qal)))
   (yak (qay (qao qlt hr (yim (ye7 (yac (pv 0)) rfl) (yim (ye7 (yac (pv 0)) rfl) (yal (yac (pv 1)) qal)))))))),?_⟩
  refine ⟨_,rfl,m,dx,_,rfl,ho,lk_n,_,rfl,m,L,Cc,us,hs,cs,a,rfl,mo,h0,h1,?_⟩
  refine ⟨_,rfl,m,C,dx,_,_,rfl,ho,cm.c,cm.nh,lk_h,_,rfl,m,C,dx,_,_,rfl,ho,cm.c,cm.nc,lk_c,_,rfl,L,Cc,us,hs,cs,a,rfl,mm,hi,h0,h1,k⟩
def yd3:Sp:=fun vs H Q _=>∃ b,vs=[.int (b2i b)]∧∀ H',Same H H'→Q .non H'
abbrev qb7:Stmt:=top 60
theorem qd2:FnScope ["thing"] ["thing"] (qad qb7):=⟨rfl,rfl,rfl,by decide +kernel,rfl,by decide +kernel,by decide +kernel⟩
theorem ygl (yc4:Has P w K mg base 2 "is_bit" ["thing"] ydk) (F:FnAt K mg "look_at_bit" qb7 ["thing"]):Has P w K mg base 3 "look_at_bit" ["thing"] yd3:=by
 refine Has.ofQ F qd2 (fun vs H Q E h=>?_) (fun f cdv A outer s H vs Q E hr h=>?_)
 ·obtain ⟨b,rfl,_⟩:=h
  rfl
 ·obtain ⟨b,rfl,k⟩:=h
  have sc:=qd2
  refine ⟨_,(qaz rfl (yak (yb7 (qht (qgb (qao yc4 hr (yal (yac (pv 0)) qal))))
    (yak (yeu qbk))
    qa5))),?_⟩
  exact ⟨_,rfl,b,rfl,fun H' s'=>⟨_,rfl,iteN rfl (k H' s')⟩⟩
def qg4 (C:Addr):Sp:=fun vs H Q _=>∃ m L Cc us hs cs a b,vs=[.ref m,.int a,.int (b2i b)]∧MemO H C m L Cc us hs cs∧InR hs cs.length∧0≤a∧a<cs.length∧∀ H',UpC H Cc (writeAt hs cs a (b2i b)) H'→Q .non H'
abbrev yax:Stmt:=yf9 (top 61) 3
theorem qdn:FnScope ["self","address","bit"] ["self","address","bit"] (qad yax):=⟨rfl,rfl,rfl,by decide +kernel,rfl,by decide +kernel,by decide +kernel⟩
theorem ykm (cm:CM K C) (yey:HasM P w K mg base C 2 "look_at_address" ["self","address"] (qgf C)) (qhl:Has P w K mg base 3 "look_at_bit" ["thing"] yd3) (ykk:Has P w K mg base 5 "write_at" ["harms","cells","address","bit"] ygh) (F:ydb K C "write" "Memory.write" yax ["self","address","bit"]):HasM P w K mg base C 6 "write" ["self","address","bit"] (qg4 C):=by
 refine HasM.ofQ F qdn (fun vs H Q E h=>?_) (fun f cdv A outer s H vs Q E hr h=>?_)
 ·obtain ⟨m,L,Cc,us,hs,cs,a,b,rfl,_⟩:=h
  rfl
 ·obtain ⟨m,L,Cc,us,hs,cs,a,b,rfl,mo,hi,h0,h1,k⟩:=h
  obtain ⟨⟨dx,ho⟩,mm⟩:=id mo
  have sc:=qdn
  refine ⟨_,(qaz rfl (yaf (yb3 (qfo cm.c yey hr (yac (pv 0)) (yal (yac (pv 1)) qal)))
   (yaf (yb3 (qao qhl hr (yal (yac (pv 2)) qal)))
   (yak (yb3 (qao ykk hr (yim (ye7 (yac (pv 0)) rfl) (yim (ye7 (yac (pv 0)) rfl) (yal (yac (pv 1)) (yal (yac (pv 2)) qal)))))))))),?_⟩
  refine ⟨_,rfl,m,dx,_,rfl,ho,lk_n,_,rfl,m,L,Cc,us,hs,cs,a,rfl,mo,h0,h1,?_⟩
  refine ⟨_,rfl,b,rfl,fun H1 s1=>?_⟩
  have ho1:=s1 _ _ ho
  refine ⟨_,rfl,m,C,dx,_,_,rfl,ho1,cm.c,cm.nh,lk_h,_,rfl,m,C,dx,_,_,rfl,ho1,cm.c,cm.nc,lk_c,_,rfl,_,rfl,L,Cc,us,hs,cs,a,_,rfl,mm.same s1,hi,h0,h1,fun H2 u2=>?_⟩
  exact k H2 ((UpC.of s1 mm.hc).trans u2)
def yh4 (C:Addr):Sp:=fun vs H Q _=>∃ m L Cc us hs cs,vs=[.ref m]∧MemO H C m L Cc us hs cs∧Q (.int (cs.length:Nat)) H
abbrev qa2:Stmt:=yf9 (top 61) 5
theorem ydz:FnScope ["self"] ["self"] (qad qa2):=⟨rfl,rfl,rfl,by decide +kernel,rfl,by decide +kernel,by decide +kernel⟩
theorem yll (B:Bl mg) (cm:CM K C) (F:ydb K C "size" "Memory.size" qa2 ["self"]):HasM P w K mg base C 1 "size" ["self"] (yh4 C):=by
 refine HasM.ofQ F ydz (fun vs H Q E h=>?_) (fun f cdv A outer s H vs Q E hr h=>?_)
 ·obtain ⟨m,L,Cc,us,hs,cs,rfl,_⟩:=h
  rfl
 ·obtain ⟨m,L,Cc,us,hs,cs,rfl,⟨⟨dx,ho⟩,mm⟩,k⟩:=h
  have sc:=ydz
  refine ⟨_,(qaz rfl (yak (qay (yc2 yag rfl (B.of rfl) boot_len (yim (ye7 (yac (pv 0)) rfl) qal))))),?_⟩
  refine ⟨_,rfl,m,C,dx,_,_,rfl,ho,cm.c,cm.nc,lk_c,Cc,_,rfl,.inl (SqL.of mm.hc),?_⟩
  rw[List.length_map]
  exact k
def qh0 (C:Addr):Sp:=fun vs H Q _=>∃ (x dx L0 C0:Addr) (us:List V) (hs:List Hm) (S cs:List Int),vs=[.ref x,.int (cs.length:Nat),.ref L0,.ref C0]∧H x=some (.ins C dx [])∧H L0=some (.lst us)∧HsV H us hs∧okHs hs S∧InR hs cs.length∧H C0=some (.lst (cs.map V.int))∧bits cs∧1≤cs.length∧cs.length≤64∧
 ∀ (L Cc:Addr) (H':Hp),(∀ b u,b≠x→H b=some u→H' b=some u)→H L=none→H Cc=none→MemO H' C x L Cc us hs (yan hs cs)→Q .non H'
abbrev yaq:Stmt:=yf9 (top 61) 0
theorem ycg:FnScope ["self","size","harms","contents"] ["self","size","harms","contents"] (qad yaq):=⟨rfl,rfl,rfl,by decide +kernel,rfl,by decide +kernel,by decide +kernel⟩
theorem yl4 (B:Bl mg) (cm:CM K C) (yfi:Has P w K mg base 8 "look_at_memory" ["size","harms","contents"] ycq) (h_settle:Has P w K mg base 3 "settle" ["harms","cells"] qir) (F:ydb K C "__init__" "Memory.__init__" yaq ["self","size","harms","contents"]):HasM P w K mg base C 9 "__init__" ["self","size","harms","contents"] (qh0 C):=by
 refine HasM.ofQ F ycg (fun vs H Q E h=>?_) (fun f cdv A outer s H vs Q E hr h=>?_)
 ·obtain ⟨x,dx,L0,C0,us,hs,S,cs,rfl,_⟩:=h
  rfl
 ·obtain ⟨x,dx,L0,C0,us,hs,S,cs,rfl,hx,hL,hv,ok,hi,hC,hb,l1,l64,k⟩:=h
  have sc:=ycg
  refine ⟨_,(qaz rfl (yaf (yb3 (qao yfi hr (yal (yac (pv 1)) (yal (yac (pv 2)) (yal (yac (pv 3)) qal)))))
   (yaf (qs_fld (yac (pv 0)) (qer ydf rfl (B.of rfl) boot_list (yal (yac (pv 2)) qal)) rfl)
   (yaf (qs_fld (yac (pv 0)) (qer ydf rfl (B.of rfl) boot_list (yal (yac (pv 3)) qal)) rfl)
   (yak (yb3 (qao h_settle hr (yim (ye7 (yac (pv 0)) rfl) (yim (ye7 (yac (pv 0)) rfl) qal))))))))),?_⟩
  refine ⟨_,rfl,_,rfl,_,rfl,L0,us,hs,S,C0,cs,rfl,hL,hv,ok,hi,hC,hb,l1,l64,fun H1 s1=>?_⟩
  refine ⟨_,rfl,L0,_,rfl,.inl (SqL.of (s1 _ _ hL)),fun L n1=>?_⟩
  have s2:Same H1 (upd H1 L (.lst us)):=(Same.refl H1).upd n1
  have f2:upd H1 L (.lst us) L=some (.lst us):=yaa
  revert s2 f2
  generalize upd H1 L (.lst us)=H2
  intro s2 f2
  have s12:=s1.trans s2
  refine ⟨_,rfl,x,C,dx,_,rfl,s12 _ _ hx,cm.c,cm.nh,by simp,?_⟩
  have nLx:L≠x:=fun z=>by subst z;rw[s1 _ _ hx] at n1;cases n1
  have u3:∀ b u,b≠x→H2 b=some u→upd H2 x (.ins C dx (putF "harms" (.ref L) [])) b=some u:=fun b u h e=>by rw[yaj h];exact e
  have f3:upd H2 x (.ins C dx (putF "harms" (.ref L) [])) x=some (.ins C dx [("harms",.ref L)]):=yaa
  revert u3 f3
  generalize upd H2 x (.ins C dx (putF "harms" (.ref L) []))=H3
  intro u3 f3
  have nx:∀ {b:Addr}{xs:List V},H b=some (.lst xs)→b≠x:=fun e z=>by subst z;rw[hx] at e;cases e
  refine ⟨_,rfl,C0,_,rfl,.inl (SqL.of (u3 _ _ (nx hC) (s12 _ _ hC))),fun Cc n4=>?_⟩
  have nCx:Cc≠x:=fun z=>by subst z;rw[f3] at n4;cases n4
  have nLC:L≠Cc:=fun z=>by subst z;rw[u3 _ _ nLx f2] at n4;cases n4
  have s4:Same H3 (upd H3 Cc (.lst (cs.map V.int))):=(Same.refl H3).upd n4
  have f4:upd H3 Cc (.lst (cs.map V.int)) Cc=some (.lst (cs.map V.int)):=yaa
  revert s4 f4
  generalize upd H3 Cc (.lst (cs.map V.int))=H4
  intro s4 f4
  refine ⟨_,rfl,x,C,dx,_,rfl,s4 _ _ f3,cm.c,cm.nc,by simp,?_⟩
  have u5:∀ b u,b≠x→H4 b=some u→upd H4 x (.ins C dx (putF "cells" (.ref Cc) [("harms",.ref L)])) b=some u:=fun b u h e=>by rw[yaj h];exact e
  have f5:upd H4 x (.ins C dx (putF "cells" (.ref Cc) [("harms",.ref L)])) x=some (.ins C dx (fsM L Cc)):=by
   rw[yaa]
   have:putF "cells" (V.ref Cc) [("harms",.ref L)]=fsM L Cc:=by
    unfold fsM putF
    rw[if_neg (by decide +kernel)]
    rfl
   rw[this]
  revert u5 f5
  generalize upd H4 x (.ins C dx (putF "cells" (.ref Cc) [("harms",.ref L)]))=H5
  intro u5 f5
  have hc0:H Cc=none:=by
   cases e:H Cc with
   | none=>rfl
   | some u=>have:=u3 _ _ nCx (s12 _ _ e);rw[n4] at this;cases this
  have hl0:H L=none:=s1.free n1
  have up:∀ b u,b≠x→H b=some u→H5 b=some u:=fun b u h e=>u5 _ _ h (s4 _ _ (u3 _ _ h (s12 _ _ e)))
  have m5:Mem H5 L Cc us hs cs:=⟨nLC,u5 _ _ nLx (s4 _ _ (u3 _ _ nLx f2)),⟨hv.len,fun i v h a b=>by
   obtain ⟨z,e,hz⟩:=hv.at_ i v h a b
   exact ⟨z,e,up _ _ (fun q=>by subst q;rw[hx] at hz;cases hz) hz⟩⟩,ok.ok,u5 _ _ nCx f4⟩
  refine ⟨_,rfl,x,C,dx,_,_,rfl,f5,cm.c,cm.nh,lk_h,_,rfl,x,C,dx,_,_,rfl,f5,cm.c,cm.nc,lk_c,L,Cc,us,hs,cs,rfl,m5,hi,l64,?_⟩
  refine k L Cc _ (fun b u h e=>?_) hl0 hc0 ⟨⟨dx,?_⟩,m5.upd _⟩
  ·rw[yaj (fun z=>by subst z;rw[hc0] at e;cases e)]
   exact up b u h e
  ·rw[yaj (fun z=>nCx z.symm)]
   exact f5
end
theorem MemO.upC {H H':Hp}{K m L C:Addr}{us:List V}{hs:List Hm}{cs ds:List Int} (x:MemO H K m L C us hs cs) (u:UpC H C ds H'):MemO H' K m L C us hs ds:=by
 obtain ⟨⟨dx,ho⟩,mm⟩:=x
 exact ⟨⟨dx,u.st _ _ (fun z=>by subst z;rw[mm.hc] at ho;cases ho) ho⟩,mm.upC u⟩
theorem MemO.same {H H':Hp}{K m L C:Addr}{us:List V}{hs:List Hm}{cs:List Int} (x:MemO H K m L C us hs cs) (s:Same H H'):MemO H' K m L C us hs cs:=by
 obtain ⟨⟨dx,ho⟩,mm⟩:=x
 exact ⟨⟨dx,s _ _ ho⟩,mm.same s⟩
theorem yj2 (hs:List Hm) (cs:List Int) (a:Int):(readAt hs cs a).2.length=cs.length:=qds _ _ _
theorem qje (hs:List Hm) (cs:List Int) (a b:Int):(writeAt hs cs a b).length=cs.length:=yd8 _ _ _ _
theorem St.readAt {hs:List Hm}{cs:List Int} (st:St hs cs) (ok:Oks hs) (ir:InR hs cs.length) {a:Int} (h0:0≤a) (h1:a<cs.length):St hs (readAt hs cs a).2:=St.reads _ st (qek ir ok h0 h1)
theorem St.writeAt {hs:List Hm}{cs:List Int} (st:St hs cs) (ok:Oks hs) (ir:InR hs cs.length) {a:Int} (b:Int) (h0:0≤a) (h1:a<cs.length):St hs (writeAt hs cs a b):=St.writes ok b _ st ir (qek ir ok h0 h1)
section
variable {P:Program}{w:World}{K:PySem.W.Frag}{mg:Str→Option Value}{base:Heap}{C:Addr}
def qf2 (K:PySem.W.Frag):Sp:=fun vs H Q _=>∃ (S:Addr) (ns:List Int) (i:Nat),vs=[.ref S,.int i]∧SqL K H S (ns.map V.int)∧∀ c,Q (.int c) H
theorem qjf (B:Bl mg) (F:FnAt K mg "_law_cell_at" ybz ["_law_script","_law_k"]):Has P w K mg base 1 "_law_cell_at" ["_law_script","_law_k"] (qf2 K):=by
 refine Has.of F ydd (fun vs H Q E h=>?_) (fun f cdv A outer s H vs Q E hr h=>?_)
 ·obtain ⟨S,ns,i,rfl,_⟩:=h
  rfl
 ·obtain ⟨S,ns,i,rfl,hS,k⟩:=h
  have sc:=ydd
  refine ⟨_,(qae (ya6 (yah op_lt (pv 1) (yai yag rfl (B.of rfl) boot_len (qaa (pv 0) yab)) (qai _))
    (yad (yao (qah qaj (pv 0) (pv 1) (fun _ _=>rfl))))
    qap)
   (yad (yao qab))),?_⟩
  refine ⟨_,rfl,_,rfl,S,_,rfl,.inl hS,_,_,rfl,rfl,_,rfl,?_⟩
  by_cases hi:i<ns.length
  ·refine iteD (by rw[List.length_map];omega) ?_
   exact ⟨_,rfl,_,rfl,S,_,_,_,rfl,rfl,hS,yck (qby (List.getElem?_eq_getElem hi)),k _⟩
  ·refine qa0 (by rw[List.length_map];omega) ?_
   exact k 0
end
abbrev Stp:=Bool×Bool
abbrev Elm:=Str×List Stp
def qhe (w:Bool):Str:=if w then "w" else "r"
def qgn (s:Stp):PyData:=.tuple [.str (qhe s.1),.int (b2i s.2)]
def qg7 (e:Elm):PyData:=.tuple [.str e.1,.list (e.2.map qgn)]
def qcs (T:List Elm):PyData:=.list (T.map qg7)
def okO (o:Str):Prop:=o="up"∨o="down"∨o="any"
def okE (e:Elm):Prop:=okO e.1∧1≤e.2.length∧e.2.length≤6
def okT (T:List Elm):Prop:=1≤T.length∧T.length≤8∧∀ e∈T,okE e
theorem qjg {H:Hp}{v:V}{s:Stp} (h:At H v (qgn s)):∃ a,v=.ref a∧H a=some (.tup [.str (qhe s.1),.int (b2i s.2)]):=by
 obtain ⟨a,vs,rfl,h1,h2⟩:=h.tupEq
 cases h2 with
 | cons x r=>
  cases r with
  | cons y r=>
   cases r
   rw[x.strEq,y.intEq] at h1
   exact ⟨a,rfl,h1⟩
theorem qdd {H:Hp}{v:V}{e:Elm} (h:At H v (qg7 e)):∃ a l ws,v=.ref a∧H a=some (.tup [.str e.1,.ref l])∧H l=some (.lst ws)∧AtAll H ws (e.2.map qgn):=by
 obtain ⟨a,vs,rfl,h1,h2⟩:=h.tupEq
 cases h2 with
 | cons x r=>
  cases r with
  | cons y r=>
   cases r
   obtain ⟨l,ws,rfl,h3,h4⟩:=y.lstEq
   rw[x.strEq] at h1
   exact ⟨a,l,ws,rfl,h1,h3,h4⟩
theorem qi2 (b:Bool):inV (.str (qhe b)) [.str "r",.str "w"]=true:=by cases b<;>decide +kernel
theorem qki {o:Str} (h:okO o):inV (.str o) [.str "up",.str "down",.str "any"]=true:=by
 rcases h with rfl|rfl|rfl<;>decide +kernel
section
variable {P:Program}{w:World}{K:PySem.W.Frag}{mg:Str→Option Value}{base:Heap}
def yev:Sp:=fun vs H Q _=>∃ a u v,vs=[.ref a]∧H a=some (.tup [u,v])∧Q (.bl true) H
abbrev qea:Stmt:=top 17
theorem ygq:FnScope ["thing"] ["thing"] (qad qea):=⟨rfl,rfl,rfl,by decide +kernel,rfl,by decide +kernel,by decide +kernel⟩
theorem ykh (B:Bl mg) (F:FnAt K mg "is_pair" qea ["thing"]):Has P w K mg base 1 "is_pair" ["thing"] yev:=by
 refine Has.of F ygq (fun vs H Q E h=>?_) (fun f cdv A outer s H vs Q E hr h=>?_)
 ·obtain ⟨a,u,v,rfl,_⟩:=h
  rfl
 ·obtain ⟨a,u,v,rfl,ha,k⟩:=h
  have sc:=ygq
  refine ⟨_,(yad (yao (qa9 (yai yb0 rfl (B.of rfl) boot_isinstance (qaa (pv 0) (qaa (ycl (v:=.ty "tuple") rfl (B.of rfl) boot_tuple rfl) yab))) (qb4 (yav qax (yai yag rfl (B.of rfl) boot_len (qaa (pv 0) yab)) qab (qai _)))))),?_⟩
  refine ⟨_,rfl,_,_,_,_,rfl,.tup ha,rfl,_,rfl,iteT ?_⟩
  exact ⟨_,rfl,a,_,rfl,.inr (SqT.of ha),rfl,k⟩
def qdm:Sp:=fun vs H Q _=>∃ a xs n,vs=[.ref a,.int n]∧H a=some (.lst xs)∧0<xs.length∧(xs.length:Int)≤n∧Q (.bl true) H
abbrev ycv:Stmt:=top 18
theorem ye2:FnScope ["thing","most"] ["thing","most"] (qad ycv):=⟨rfl,rfl,rfl,by decide +kernel,rfl,by decide +kernel,by decide +kernel⟩
theorem yh1 (B:Bl mg) (F:FnAt K mg "is_filled" ycv ["thing","most"]):Has P w K mg base 1 "is_filled" ["thing","most"] qdm:=by
 refine Has.of F ye2 (fun vs H Q E h=>?_) (fun f cdv A outer s H vs Q E hr h=>?_)
 ·obtain ⟨a,xs,n,rfl,_⟩:=h
  rfl
 ·obtain ⟨a,xs,n,rfl,ha,h1,h2,k⟩:=h
  have sc:=ye2
  refine ⟨_,(yad (yao (qa9 (yai yb0 rfl (B.of rfl) boot_isinstance (qaa (pv 0) (qaa (ycl (v:=.ty "list") rfl (B.of rfl) boot_list rfl) yab))) (qa9 (yav yhb (yai yag rfl (B.of rfl) boot_len (qaa (pv 0) yab)) qab (qai _)) (qb4 (yav op_le (yai yag rfl (B.of rfl) boot_len (qaa (pv 0) yab)) (pv 1) (qai _))))))),?_⟩
  refine ⟨_,rfl,_,_,_,_,rfl,.lst ha,rfl,_,rfl,iteT ?_⟩
  refine ⟨_,rfl,a,_,rfl,.inl (SqL.of ha),_,_,rfl,rfl,_,rfl,iteD (by omega) ?_⟩
  refine ⟨_,rfl,a,_,rfl,.inl (SqL.of ha),_,rfl,_,_,rfl,rfl,?_⟩
  show Q (.bl (decide ((xs.length:Int)≤n))) H
  rw[decide_eq_true h2]
  exact k
def yg4:Sp:=fun vs H Q _=>∃ v s,vs=[v]∧At H v (qgn s)∧∀ H',Same H H'→Q (.bl true) H'
abbrev yef:Stmt:=top 19
theorem yg2:FnScope ["thing"] ["thing"] (qad yef):=⟨rfl,rfl,rfl,by decide +kernel,rfl,by decide +kernel,by decide +kernel⟩
theorem yj7 (qf6:GTup K mg "LETTERS" [.str "r",.str "w"]) (qft:Has P w K mg base 1 "is_pair" ["thing"] yev) (ybm:Has P w K mg base 1 "is_one_of" ["thing","words"] (qb2 K))
  (yc4:Has P w K mg base 2 "is_bit" ["thing"] ydk) (F:FnAt K mg "is_step" yef ["thing"]):Has P w K mg base 3 "is_step" ["thing"] yg4:=by
 refine Has.of F yg2 (fun vs H Q E h=>?_) (fun f cdv A outer s H vs Q E hr h=>?_)
 ·obtain ⟨v,s,rfl,_⟩:=h
  rfl
 ·obtain ⟨v,⟨sw,sb⟩,rfl,hv,k⟩:=h
  obtain ⟨a,rfl,ha⟩:=qjg hv
  have sc:=yg2
  refine ⟨_,(yad (yao (qa9 (qaf qft hr (qaa (pv 0) yab)) (qa9 (qaf ybm hr (qaa (qah qak (pv 0) qab (fun _ _=>rfl)) (qaa (yhk qf6) yab))) (qb4 (qaf yc4 hr (qaa (qah qak (pv 0) qab (fun _ _=>rfl)) yab))))))),?_⟩
  refine ⟨_,rfl,a,_,_,rfl,ha,_,rfl,iteT ?_⟩
  refine ⟨_,rfl,a,_,_,_,rfl,rfl,SqT.of ha,rfl,fun aL hL=>⟨qhe sw,aL,_,rfl,hL,rfl,_,rfl,iteB (qi2 sw) ?_⟩⟩
  exact ⟨_,rfl,a,_,_,_,rfl,rfl,SqT.of ha,rfl,sb,rfl,k⟩
def qfb:Sp:=fun vs H Q _=>∃ v e,vs=[v]∧At H v (qg7 e)∧okE e∧Q (.bl true) H
abbrev yc0:Stmt:=top 20
theorem qe3:FnScope ["thing"] ["thing"] (qad yc0):=⟨rfl,rfl,rfl,by decide +kernel,rfl,by decide +kernel,by decide +kernel⟩
theorem qia (qg8:GTup K mg "ORDERS" [.str "up",.str "down",.str "any"]) (qez:∃ t,mg "MOST_IN_ELEMENT" = some (.int 6 t)) (qft:Has P w K mg base 1 "is_pair" ["thing"] yev)
  (ybm:Has P w K mg base 1 "is_one_of" ["thing","words"] (qb2 K)) (yd4:Has P w K mg base 1 "is_filled" ["thing","most"] qdm) (F:FnAt K mg "is_framed" yc0 ["thing"]):Has P w K mg base 2 "is_framed" ["thing"] qfb:=by
 refine Has.of F qe3 (fun vs H Q E h=>?_) (fun f cdv A outer s H vs Q E hr h=>?_)
 ·obtain ⟨v,s,rfl,_⟩:=h
  rfl
 ·obtain ⟨v,e,rfl,hv,⟨h1,h2,h3⟩,k⟩:=h
  obtain ⟨a,l,ws,rfl,ha,hl,hw⟩:=qdd hv
  have hlen:=hw.length
  rw[List.length_map] at hlen
  have sc:=qe3
  refine ⟨_,(yad (yao (qa9 (qaf qft hr (qaa (pv 0) yab)) (qa9 (qaf ybm hr (qaa (qah qak (pv 0) qab (fun _ _=>rfl)) (qaa (yhk qg8) yab))) (qb4 (qaf yd4 hr (qaa (qah qak (pv 0) qab (fun _ _=>rfl)) (qaa (yex qez) yab)))))))),?_⟩
  refine ⟨_,rfl,a,_,_,rfl,ha,_,rfl,iteT ?_⟩
  refine ⟨_,rfl,a,_,_,_,rfl,rfl,SqT.of ha,rfl,fun aL hL=>⟨e.1,aL,_,rfl,hL,rfl,_,rfl,iteB (qki h1) ?_⟩⟩
  exact ⟨_,rfl,a,_,_,_,rfl,rfl,SqT.of ha,rfl,l,ws,6,rfl,hl,by omega,by omega,k⟩
def ycf:Sp:=fun vs H Q _=>∃ n v e,vs=[.int n,v]∧At H v (qg7 e)∧okE e∧∀ H',Same H H'→Q .non H'
abbrev ybd:Stmt:=top 21
theorem qcd:FnScope ["number","thing","place","step"] ["number","thing"] (qad ybd):=⟨rfl,rfl,rfl,by decide +kernel,rfl,by decide +kernel,by decide +kernel⟩
theorem qef (B:Bl mg) (qjh:Has P w K mg base 2 "is_framed" ["thing"] qfb) (ql2:Has P w K mg base 3 "is_step" ["thing"] yg4) (F:FnAt K mg "look_at_element" ybd ["number","thing"]) :
  Has P w K mg base 4 "look_at_element" ["number","thing"] ycf:=by
 refine Has.of F qcd (fun vs H Q E h=>?_) (fun f cdv A outer s H vs Q E hr h=>?_)
 ·obtain ⟨n,v,s,rfl,_⟩:=h
  rfl
 ·obtain ⟨n,v,e,rfl,hv,he,k⟩:=h
  obtain ⟨a,l,ws,rfl,ha,hl,hw⟩:=qdd hv
  have sc:=qcd
  refine ⟨_,(qae (ya6 (yc8 (ycj (qaf qjh hr (qaa (pv 1) yab))))
    (yad qbk)
    qap)
   (yad (qa8 PassesOwn.never rfl (qcy rfl (B.of rfl) (qaa (qah qak (pv 1) qab (fun _ _=>rfl)) yab)) (ycc rfl (qan (qag (i:=2) sc.nd rfl (Or.inl rfl)) (qan (qag (i:=3) sc.nd rfl (Or.inl rfl)) qbh)))
    (yad (ya6 (yc8 (ycj (qaf ql2 hr (qaa (pv 3) yab))))
     (yad qbk)
     qap))))),?_⟩
  refine ⟨_,rfl,_,e,rfl,hv,he,true,rfl,iteF ?_⟩
  refine ⟨_,rfl,a,_,_,_,rfl,rfl,SqT.of ha,rfl,l,ws,rfl,SqL.of hl,qb5 (xs:=ws) (fun i σ H2=>∃ p q,σ=[some (.int n),some (.ref a),p,q]∧Same H H2) ⟨none,none,rfl,Same.refl _⟩
   (fun i σ H2 _ ⟨_,_,_,s2⟩=>SqL.of (s2 _ _ hl)) ?_ (fun σ H2 ⟨_,_,_,s2⟩=>k H2 s2)⟩
  rintro i x p σ H2 hx ⟨_,_,rfl,s2⟩ hp
  obtain ⟨d,hd,hat⟩:=hw.get hx
  rw[List.getElem?_map] at hd
  cases es:e.2[i]? with
  | none=>rw[es] at hd;cases hd
  | some st=>
   rw[es] at hd
   cases hd
   have s3:Same H (upd H2 p (.tup [.int i,x])):=s2.upd hp
   refine ⟨p,_,rfl,SqT.of yaa,rfl,_,_,rfl,_,_,rfl,rfl,?_⟩
   refine ⟨_,rfl,x,st,rfl,hat.same s3,fun H3 s4=>⟨true,rfl,iteF ⟨_,_,rfl,s3.trans s4⟩⟩⟩
def qb9:Sp:=fun vs H Q _=>∃ v T,vs=[v]∧At H v (qcs T)∧okT T∧∀ H',Same H H'→Q .non H'
abbrev qb0:Stmt:=top 22
theorem qdo:FnScope ["thing","number","element"] ["thing"] (qad qb0):=⟨rfl,rfl,rfl,by decide +kernel,rfl,by decide +kernel,by decide +kernel⟩
theorem yfz (B:Bl mg) (ygk:∃ t,mg "MOST_IN_TEST" = some (.int 8 t)) (yd4:Has P w K mg base 1 "is_filled" ["thing","most"] qdm) (qex:Has P w K mg base 4 "look_at_element" ["number","thing"] ycf)
  (F:FnAt K mg "look_at_test" qb0 ["thing"]):Has P w K mg base 5 "look_at_test" ["thing"] qb9:=by
 refine Has.of F qdo (fun vs H Q E h=>?_) (fun f cdv A outer s H vs Q E hr h=>?_)
 ·obtain ⟨v,s,rfl,_⟩:=h
  rfl
 ·obtain ⟨v,T,rfl,hv,⟨h1,h2,h3⟩,k⟩:=h
  obtain ⟨l,ws,rfl,hl,hw⟩:=hv.lstEq
  have hlen:=hw.length
  rw[List.length_map] at hlen
  have sc:=qdo
  refine ⟨_,(qae (ya6 (yc8 (ycj (qaf yd4 hr (qaa (pv 0) (qaa (yex ygk) yab)))))
    (yad qbk)
    qap)
   (yad (qa8 PassesOwn.never rfl (qcy rfl (B.of rfl) (qaa (pv 0) yab)) (ycc rfl (qan (qag (i:=1) sc.nd rfl (Or.inl rfl)) (qan (qag (i:=2) sc.nd rfl (Or.inl rfl)) qbh)))
    (yad (qav (qaf qex hr (qaa (pv 1) (qaa (pv 2) yab)))))))),?_⟩
  refine ⟨_,rfl,l,ws,8,rfl,hl,by omega,by omega,true,rfl,iteF ?_⟩
  refine ⟨_,rfl,l,ws,rfl,SqL.of hl,qb5 (xs:=ws) (fun i σ H2=>∃ p q,σ=[some (.ref l),p,q]∧Same H H2) ⟨none,none,rfl,Same.refl _⟩
   (fun i σ H2 _ ⟨_,_,_,s2⟩=>SqL.of (s2 _ _ hl)) ?_ (fun σ H2 ⟨_,_,_,s2⟩=>k H2 s2)⟩
  rintro i x p σ H2 hx ⟨_,_,rfl,s2⟩ hp
  obtain ⟨d,hd,hat⟩:=hw.get hx
  rw[List.getElem?_map] at hd
  cases es:T[i]? with
  | none=>rw[es] at hd;cases hd
  | some e=>
   rw[es] at hd
   cases hd
   have s3:Same H (upd H2 p (.tup [.int i,x])):=s2.upd hp
   refine ⟨p,_,rfl,SqT.of yaa,rfl,_,_,rfl,_,_,rfl,rfl,?_⟩
   exact ⟨_,rfl,_,rfl,_,x,e,rfl,hat.same s3,h3 e (List.mem_of_getElem? es),fun H3 s4=>⟨_,_,rfl,s3.trans s4⟩⟩
end
def kv:Option Bool→V
 | none=>.non
 | some b=>.int (b2i b)
theorem qjl (n:Int):n % 2=b2i (decide (n % 2=1)):=by
 by_cases h:n % 2=1
 ·simp[b2i,h]
 ·have h0:=Int.emod_nonneg n (show (2:Int)≠0 by decide)
  have h1:=Int.emod_lt_of_pos n (show (0:Int)<2 by decide)
  simp only[b2i,h,decide_false]
  show n % 2=0
  omega
theorem order_of {d:Int} (h0:0≤d) (h1:d<3):∃ o,okO o∧atI [V.str "up",.str "down",.str "any"] d=some (.str o):=by
 have h:d=0∨d=1∨d=2:=by omega
 rcases h with rfl|rfl|rfl
 ·exact ⟨_,.inl rfl,rfl⟩
 ·exact ⟨_,.inr (.inl rfl),rfl⟩
 ·exact ⟨_,.inr (.inr rfl),rfl⟩
theorem picks {ds:List Int}{d1:Int} (hd:Dig ds [3,6,4,4,4,4,4,4]) (h0:0≤d1) (h1:d1<6):∃ ps:List Int,cutV (ds.map V.int) (some 2) (some (3+d1))=ps.map V.int∧1≤ps.length∧ps.length≤6∧∀ p∈ps,0≤p∧p<4:=by
 have hl:ds.length=8:=hd.1
 refine ⟨(ds.drop 2).take (1+d1.toNat),?_,?_,?_,fun p hp=>?_⟩
 ·unfold cutV
  have e1:HT.sIx (ds.map V.int).length 0 (some 2)=2:=by
   rw[List.length_map,hl];rfl
  have e2:HT.sIx (ds.map V.int).length (ds.map V.int).length (some (3+d1))=3+d1.toNat:=by
   rw[List.length_map,hl]
   show (if 3+d1<0 then _ else min (3+d1).toNat 8)=_
   rw[if_neg (by omega)]
   omega
  rw[e1,e2,show 3+d1.toNat-2=1+d1.toNat by omega,← List.map_drop,← List.map_take]
 ·rw[List.length_take,List.length_drop];omega
 ·rw[List.length_take,List.length_drop];omega
 ·have hp2:=List.mem_of_mem_take hp
  obtain ⟨i,hi,e⟩:=List.getElem_of_mem hp2
  rw[List.length_drop] at hi
  rw[List.getElem_drop] at e
  have hz:([3,6,4,4,4,4,4,4]:List Int)[2+i]?=some 4:=by
   have:i<6:=by omega
   rcases i with _|_|_|_|_|_|i<;>first|rfl|omega
  have:=hd.2 (2+i) p 4 (by rw[← e];simp) hz
  exact this
section
variable {P:Program}{w:World}{K:PySem.W.Frag}{mg:Str→Option Value}{base:Heap}
def qli:Sp:=fun vs H Q _=>∃ (a:Addr) (cs:List Int) (su:Bool),vs=[.ref a,.bl su]∧H a=some (.lst (cs.map V.int))∧1≤cs.length∧cs.length≤8∧
 ∀ p T H',Same H H'→H p=none→At H' (.ref p) (qcs T)→okT T→T.length=cs.length→Q (.ref p) H'
abbrev yc1:Stmt:=top 73
theorem qfa:FnScope ["_law_cells","_law_sure","_law_known","_law_test_here","_law_turn","_law_cell","_law_d","_law_steps","_law_pick","_law_step"] ["_law_cells","_law_sure"] (qad yc1):=⟨rfl,rfl,rfl,by decide +kernel,rfl,by decide +kernel,by decide +kernel⟩
theorem ok_test (B:Bl mg) (qa6:Has P w K mg base 1 "_law_digits" ["_law_cell","_law_turn","_law_sizes"] ydm) (F:FnAt K mg "_law_test" yc1 ["_law_cells","_law_sure"]):Has P w K mg base 2 "_law_test" ["_law_cells","_law_sure"] qli:=by
 refine Has.of F qfa (fun vs H Q E h=>?_) (fun f cdv A outer s H vs Q E hr h=>?_)
 ·obtain ⟨a,cs,su,rfl,_⟩:=h
  rfl
 ·obtain ⟨a,cs,su,rfl,ha,hl0,hl1,k⟩:=h
  have sc:=qfa
  refine ⟨_,(qae (yaw (i:=2) sc.nd rfl (Or.inl rfl) qe6)
   (qae (yaw (i:=3) sc.nd rfl (Or.inl rfl) (qau yab))
   (qae (qa8 PassesOwn.never rfl (qcy rfl (B.of rfl) (qaa (pv 0) yab)) (ycc rfl (qan (qag (i:=4) sc.nd rfl (Or.inl rfl)) (qan (qag (i:=5) sc.nd rfl (Or.inl rfl)) qbh)))
    (qae (yaw (i:=6) sc.nd rfl (Or.inl rfl) (qaf qa6 hr (qaa (pv 5) (qaa (ya3 yct qab (pv 4)) (qaa (ya3 ye3 (qau (qaa qab (qaa qab yab))) (ya3 qjv (qau (qaa qab yab)) qab)) yab)))))
    (qae (yaw (i:=7) sc.nd rfl (Or.inl rfl) (qau yab))
    (qae (qa8 PassesOwn.never rfl (qar (qbb qdh (pv 6) (yba qab) (yba (ya3 yct qab (qah qaj (pv 6) qab (fun _ _=>rfl)))))) (qag (i:=8) sc.nd rfl (Or.inl rfl))
     (qae (yaw (i:=9) sc.nd rfl (Or.inl rfl) (qbf (qaa qam (qaa (ya3 yeg (pv 8) qab) yab))))
     (ylb (ya6 (PW.pt (qbi (yah yhb (pv 8) qab (qai _)) (qbg (yc8 (ycj (pv 1))))))
      (yad (yaw (i:=9) sc.nd rfl (Or.inl rfl) (qbf (qaa qam (qaa (ya3 yeg (pv 8) qab) yab)))))
      (yad (ya6 (PW.pt (qbi (yah yhb (pv 8) qab (qai _)) (qbg (qf0 (qja (pv 2))))))
       (yad (yaw (i:=9) sc.nd rfl (Or.inl rfl) (qbf (qaa qam (qaa (pv 2) yab)))))
       qap)))
     (qae (yaw (i:=2) sc.nd rfl (Or.inl rfl) (qah qak (pv 9) qab (fun _ _=>rfl)))
     (yad (qav (yfg PySem.F.plainAttrs_list PySem.F.slot_list_append PySem.F.type_list_append ybh (pv 7) (qaa (pv 9) yab))))))))
    (yad (qav (yfg PySem.F.plainAttrs_list PySem.F.slot_list_append PySem.F.type_list_append ybh (pv 3) (qaa (qbf (qaa (qah qaj (qau (qaa qam (qaa qam (qaa qam yab)))) (qah qaj (pv 6) qab (fun _ _=>rfl)) (fun _ _=>rfl)) (qaa (pv 7) yab))) yab))))))))
   (yad (yao (pv 3)))))),?_⟩
  refine ⟨Nat.zero_le _,fun p hp=>?_⟩
  refine ⟨_,rfl,a,_,rfl,SqL.of (by rw[yaj (yae ha hp)];exact ha),qb5 (xs:=cs.map V.int) (fun i σ H2=>∃ (kn:Option Bool) (T:List Elm) (q4 q5 q6 q7 q8 q9:Option V),σ=[some (.ref a),some (.bl su),some (kv kn),some (.ref p),q4,q5,q6,q7,q8,q9]∧
   Same H H2∧Bld [] H2 p (T.map qg7)∧(∀ e∈T,okE e)∧T.length=i) ⟨none,[],none,none,none,none,none,none,rfl,(Same.refl H).upd hp,Bld.new,(by intro e he;cases he),rfl⟩ (fun i σ H2 _ ⟨_,_,_,_,_,_,_,_,_,s2,_⟩=>SqL.of (s2 _ _ ha)) ?_ ?_⟩
  ·rintro i x pp σ H2 hx ⟨kn,T,q4,q5,q6,q7,q8,q9,rfl,s2,bT,okT',hTl⟩ hpp
   obtain ⟨c,hc,rfl⟩:=qix hx
   have hil:i<cs.length:=(List.getElem?_eq_some_iff.mp hc).1
   refine ⟨pp,_,rfl,SqT.of yaa,rfl,_,_,rfl,_,_,rfl,rfl,?_⟩
   generalize hA:upd H2 pp (.tup [.int i,.int c])=HA
   have sA:Same H2 HA:=by rw[← hA];exact (Same.refl H2).upd hpp
   -- the digits
   refine ⟨_,rfl,_,rfl,_,_,rfl,rfl,(by show 2≤sizeLine;decide),fun a1 h1=>⟨(by show 1≤sizeLine;decide),fun a2 h2=>⟨a2,6,_,rfl,rfl,yaa,by decide,by decide,(by show 1*6≤sizeLine;decide),fun a3 h3=>?_⟩⟩⟩
   have e1:upd (upd (upd HA a1 (.lst [.int 3,.int 6])) a2 (.lst [.int 4])) a3 (.lst (List.replicate (6:Int).toNat [V.int 4]).flatten) a1=some (.lst [.int 3,.int 6]):=by
    rw[yaj (yae (o:=.lst [.int 3,.int 6]) (by rw[yaj (yae yaa h2)];exact yaa) h3),yaj (yae yaa h2)];exact yaa
   refine ⟨a1,a3,_,_,rfl,rfl,e1,yaa,(by show 2+6≤sizeLine;decide),fun a4 h4=>?_⟩
   generalize hB:upd (upd (upd (upd HA a1 (.lst [.int 3,.int 6])) a2 (.lst [.int 4])) a3 (.lst (List.replicate (6:Int).toNat [V.int 4]).flatten)) a4 (.lst ([V.int 3,.int 6]++(List.replicate (6:Int).toNat [V.int 4]).flatten))=HB
   have sB:Same HA HB:=by rw[← hB];exact ((((Same.refl HA).upd h1).upd h2).upd h3).upd h4
   have hB4:HB a4=some (.lst (([3,6,4,4,4,4,4,4]:List Int).map V.int)):=by rw[← hB];exact yaa
   refine ⟨c,20+i,a4,[3,6,4,4,4,4,4,4],rfl,hB4,by decide,by decide,by omega,by omega,fun dd ds HC sC nC hC hD=>?_⟩
   obtain ⟨d0,g0,m0,m1⟩:=hD.get (i:=0) (z:=3) rfl
   obtain ⟨d1,g1,n0,n1⟩:=hD.get (i:=1) (z:=6) rfl
   -- the ybo
   refine ⟨Nat.zero_le _,fun l hl=>?_⟩
   have hC1:upd HC l (.lst []) dd=some (.lst (ds.map V.int)):=by rw[yaj (yae hC hl)];exact hC
   obtain ⟨ps,eps,pl0,pl1,hps⟩:=picks hD n0 n1
   refine ⟨_,rfl,2,rfl,_,rfl,dd,_,_,_,rfl,rfl,SqL.of hC1,qac 1 (qby g1),_,_,rfl,rfl,_,rfl,dd,_,rfl,SqL.of hC1,fun sp hsp=>?_⟩
   rw[eps]
   generalize hE:upd (upd HC l (.lst [])) sp (.lst (ps.map V.int))=HE
   have sC2:Same H2 HC:=(sA.trans sB).trans sC
   have sE:Same HC HE:=by rw[← hE];exact ((Same.refl HC).upd hl).upd hsp
   have hEsp:HE sp=some (.lst (ps.map V.int)):=by rw[← hE];exact yaa
   have hEl:HE l=some (.lst []):=by rw[← hE,yaj (yae yaa hsp)];exact yaa
   have nlp:l≠p:=(yae (sC2 _ _ bT.choose_spec.1) hl).symm
   have nlsp:l≠sp:=yae (o:=.lst []) yaa hsp
   have nsp:HC sp=none:=by
    have:=hsp;rw[yaj nlsp.symm] at this;exact this
   refine ⟨sp,rfl,⟨_,SqL.of hEsp⟩,yay (xs:=ps.map V.int) (fun j σ H3=>∃ (kn:Option Bool) (ss:List Stp) (q8 q9:Option V),σ=[some (.ref a),some (.bl su),some (kv kn),some (.ref p),some (.int i),some (.int c),some (.ref dd),some (.ref l),q8,q9]∧
    Same HC H3∧H3 sp=some (.lst (ps.map V.int))∧Bld [p] H3 l (ss.map qgn)∧ss.length=j) ⟨kn,[],q8,q9,rfl,sE,hEsp,⟨[],hEl,.nil⟩,rfl⟩ (fun j σ H3 _ ⟨_,_,_,_,_,_,h,_⟩=>SqL.of h) ?_ ?_⟩
   ·rintro j x σ H3 hx ⟨kn,ss,q8,q9,rfl,s3,hsp3,bS,hsl⟩
    obtain ⟨pk,hpk,rfl⟩:=qix hx
    have hjl:j<ps.length:=(List.getElem?_eq_some_iff.mp hpk).1
    refine ⟨_,rfl,_,_,rfl,rfl,(by show (0:Int)<2;decide),(by show 2≤sizeLine;decide),fun q hq=>?_⟩
    have sq:Same H3 (upd H3 q (.tup [.str "w",.int (pk % 2)])):=(Same.refl H3).upd hq
    refine ⟨fun σ' H'=>∃ q' sw sb,σ'=[some (.ref a),some (.bl su),some (kv kn),some (.ref p),some (.int i),some (.int c),some (.ref dd),some (.ref l),some (.int pk),some (.ref q')]∧Same H3 H'∧H' q'=some (.tup [.str (qhe sw),.int (b2i sb)]),?_,?_⟩
    ·have base1:∃ q' sw sb,[some (V.ref a),some (.bl su),some (kv kn),some (.ref p),some (.int i),some (.int c),some (.ref dd),some (.ref l),some (.int pk),some (.ref q)]=[some (.ref a),some (.bl su),some (kv kn),some (.ref p),some (.int i),some (.int c),some (.ref dd),some (.ref l),some (.int pk),some (.ref q')]∧Same H3 (upd H3 q (.tup [.str "w",.int (pk % 2)]))∧upd H3 q (.tup [.str "w",.int (pk % 2)]) q'=some (.tup [.str (qhe sw),.int (b2i sb)]):=
      ⟨q,true,decide (pk % 2=1),rfl,sq,by rw[yaa,← qjl];rfl⟩
     refine ⟨_,rfl,_,_,rfl,rfl,_,rfl,?_⟩
     by_cases h1p:1<pk
     ·refine iteD h1p ⟨_,rfl,su,rfl,?_⟩
      cases su with
      | false=>
       refine iteT ⟨_,rfl,_,_,rfl,rfl,(by show (0:Int)<2;decide),(by show 2≤sizeLine;decide),fun q2 hq2=>?_⟩
       exact ⟨q2,false,decide (pk % 2=1),rfl,sq.upd hq2,by rw[yaa,← qjl];rfl⟩
      | true=>
       refine iteF ⟨_,rfl,_,_,rfl,rfl,_,rfl,iteD h1p ⟨_,rfl,_,rfl,?_⟩⟩
       cases kn with
       | none=>exact iteN (by simp[kv]) base1
       | some kb=>
        refine iteB (by simp[kv]) ⟨_,rfl,(by show 2≤sizeLine;decide),fun q2 hq2=>?_⟩
        exact ⟨q2,false,kb,rfl,sq.upd hq2,by rw[yaa];rfl⟩
     ·refine iteN (decide_eq_false h1p) (iteF ⟨_,rfl,_,_,rfl,rfl,_,rfl,iteN (decide_eq_false h1p) (iteF ?_)⟩)
      exact base1
    ·rintro σ' H4 ⟨q',sw,sb,rfl,s4,hq'⟩
     have bS4:=bS.grow s4
     obtain ⟨us,hus,_⟩:=id bS4
     have hul:=bS4.len hus
     rw[List.length_map] at hul
     have nql:q'≠l:=ne_of hq' hus (by intro z;cases z)
     have nqp:q'≠p:=ne_of hq' ((bT.grow ((sC2.trans s3).trans s4)).choose_spec.1) (by intro z;cases z)
     refine ⟨_,rfl,q',_,_,_,rfl,rfl,SqT.of hq',rfl,?_⟩
     refine ⟨_,rfl,.inl ⟨rfl,_,SqL.of hus⟩,_,rfl,l,us,.ref q',rfl,rfl,hus,ya9 (by omega),?_⟩
     refine ⟨some sb,ss++[(sw,sb)],_,_,rfl,(s3.trans s4).at hl,?_,?_,by simp[hsl]⟩
     ·rw[yaj nlsp.symm]
      exact s4 _ _ hsp3
     ·rw[List.map_append]
      refine bS4.push hus (.tup (by rw[ycp (by simp[nql,nqp])];exact hq') (.cons (.str _) (.cons (.int _) .nil)))
   ·rintro σ H3 ⟨kn3,ss,q8,q9,rfl,s3,hsp3,bS,hsl⟩
    rw[List.length_map] at hsl
    have bT3:=bT.grow (sC2.trans s3)
    obtain ⟨ws,hws,_⟩:=id bT3
    have hwl:=bT3.len hws
    rw[List.length_map] at hwl
    obtain ⟨o,ho,hat⟩:=order_of m0 m1
    refine ⟨_,rfl,.inl ⟨rfl,_,SqL.of hws⟩,(by show 3≤sizeLine;decide),fun r hr=>?_⟩
    have hd3:upd H3 r (.lst [.str "up",.str "down",.str "any"]) dd=some (.lst (ds.map V.int)):=by rw[yaj (yae (s3 _ _ hC) hr)];exact s3 _ _ hC
    refine ⟨_,rfl,dd,_,_,_,rfl,rfl,SqL.of hd3,qac 0 (qby g0),r,_,_,_,rfl,rfl,SqL.of yaa,hat,_,rfl,(by show 2≤sizeLine;decide),fun e he=>?_⟩
    generalize hF:upd H3 r (.lst [.str "up",.str "down",.str "any"])=HF at he hd3
    have sF:Same H3 HF:=by rw[← hF];exact (Same.refl H3).upd hr
    have sG:Same H3 (upd HF e (.tup [.str o,.ref l])):=sF.upd he
    have hws2:=sG _ _ hws
    have nep:e≠p:=(yae (sF _ _ hws) he).symm
    refine ⟨p,ws,.ref e,rfl,rfl,hws2,ya9 (by omega),?_⟩
    refine ⟨kn3,T++[(o,ss)],_,_,_,_,_,_,rfl,((s2.trans sC2).trans (s3.trans sG)).at hp,?_,?_,by simp[hTl]⟩
    ·rw[List.map_append]
     refine (bT3.grow sG).push hws2 (.tup (by rw[ycp (by simp[nep])];exact yaa) (.cons (.str _) (.cons ?_ .nil)))
     exact (bS.at (by simp[nlp])).same (qg3 sG _)
    ·intro e2 he2
     rcases List.mem_append.mp he2 with h|h
     ·exact okT' e2 h
     ·have:e2=(o,ss):=by simpa using h
      subst this
      exact ⟨ho,by show 1≤ss.length;omega,by show ss.length≤6;omega⟩
  ·rintro σ H2 ⟨kn,T,q4,q5,q6,q7,q8,q9,rfl,s2,bT,okT',hTl⟩
   rw[List.length_map] at hTl
   exact ⟨_,rfl,k p T H2 s2 hp bT.out ⟨by omega,by omega,okT'⟩ hTl⟩
end
def okU (o:Str):Prop:=o="up"∨o="down"
structure OrdOk (T:List Elm) (os:List Str):Prop where
 len:os.length=T.length
 at_:∀ (i:Nat) e o,T[i]?=some e→os[i]?=some o→okU o∧(e.1="any"∨e.1=o)
theorem yks {o:Str} (h:okU o):inV (.str o) [.str "up",.str "down"]=true:=by
 rcases h with rfl|rfl<;>decide +kernel
theorem in_any {a o:Str} (h:a="any"∨a=o):inV (.str a) [.str "any",.str o]=true:=by
 rw[in2]
 exact decide_eq_true h
section
variable {P:Program}{w:World}{K:PySem.W.Frag}{mg:Str→Option Value}{base:Heap}
def qdg:Sp:=fun vs H Q _=>∃ v e o,vs=[v,.str o]∧At H v (qg7 e)∧okU o∧(e.1="any"∨e.1=o)∧∀ H',Same H H'→Q (.bl true) H'
abbrev qb1:Stmt:=top 64
theorem ydi:FnScope ["element","thing"] ["element","thing"] (qad qb1):=⟨rfl,rfl,rfl,by decide +kernel,rfl,by decide +kernel,by decide +kernel⟩
theorem qge (qji:GTup K mg "TAKEN" [.str "up",.str "down"]) (ybm:Has P w K mg base 1 "is_one_of" ["thing","words"] (qb2 K)) (F:FnAt K mg "is_order_for" qb1 ["element","thing"]):Has P w K mg base 2 "is_order_for" ["element","thing"] qdg:=by
 refine Has.of F ydi (fun vs H Q E h=>?_) (fun f cdv A outer s H vs Q E hr h=>?_)
 ·obtain ⟨v,e,o,rfl,_⟩:=h
  rfl
 ·obtain ⟨v,e,o,rfl,hv,ho,he,k⟩:=h
  obtain ⟨a,l,ws,rfl,ha,hl,hw⟩:=qdd hv
  have sc:=ydi
  refine ⟨_,(yad (yao (qa9 (qaf ybm hr (qaa (pv 1) (qaa (yhk qji) yab))) (qb4 (yav ybj (qah qak (pv 0) qab (fun _ _=>rfl)) (qbf (qaa qam (qaa (pv 1) yab))) (by with_unfolding_all rfl)))))),?_⟩
  refine ⟨_,rfl,fun aT hT=>⟨o,aT,_,rfl,hT,rfl,_,rfl,iteB (yks ho) ?_⟩⟩
  refine ⟨_,rfl,a,_,_,_,rfl,rfl,SqT.of ha,qac 0 rfl,_,rfl,(by show 2≤sizeLine;decide),fun p hp=>⟨p,_,rfl,.inr (SqT.of yaa),rfl,rfl,?_⟩⟩
  show Q (.bl (inV (.str e.1) [.str "any",.str o])) _
  rw[in_any he]
  exact k _ ((Same.refl H).upd hp)
def yeo:Sp:=fun vs H Q _=>∃ t O T os,vs=[.ref t,.ref O]∧At H (.ref t) (qcs T)∧okT T∧H O=some (.lst (os.map V.str))∧OrdOk T os∧∀ H',Same H H'→Q (.bl true) H'
abbrev qcj:Stmt:=top 65
theorem yee:FnScope ["test","thing"] ["test","thing"] (qad qcj):=⟨rfl,rfl,rfl,by decide +kernel,rfl,by decide +kernel,by decide +kernel⟩
theorem qhf (B:Bl mg) (qd7:mg "zip" = none) (qhi:mg "all" = none) (qgj:Has P w K mg base 2 "is_order_for" ["element","thing"] qdg) (F:FnAt K mg "are_orders" qcj ["test","thing"]):Has P w K mg base 3 "are_orders" ["test","thing"] yeo:=by
 refine Has.of F yee (fun vs H Q E h=>?_) (fun f cdv A outer s H vs Q E hr h=>?_)
 ·obtain ⟨t,O,T,os,rfl,_⟩:=h
  rfl
 ·obtain ⟨t,O,T,os,rfl,ht,okt,hO,oo,k⟩:=h
  obtain ⟨l,ws,hre,hl,hw⟩:=ht.lstEq
  cases hre
  have hwl:ws.length=T.length:=by have:=hw.length;rw[List.length_map] at this;exact this
  have hT8:=okt.2.1
  have sc:=yee
  refine ⟨_,(qae (ya6 (PW.pt (pw_or (yc8 (ycj (yai yb0 rfl (B.of rfl) boot_isinstance (qaa (pv 1) (qaa (ycl (v:=.ty "list") rfl (B.of rfl) boot_list rfl) yab))))) (qjo (yah yi0 (yai yag rfl (B.of rfl) boot_len (qaa (pv 1) yab)) (yai yag rfl (B.of rfl) boot_len (qaa (pv 0) yab)) (qai _)))))
    (yad (yao ygm))
    qap)
   (yad (yao (yai (yf3 rfl) rfl qhi yf7 (qaa (qca rfl (qas rfl) (M:=["element","order"]) (ix:=[none,none]) (yjy rfl qd7 (qaa (pv 0) (qaa (pv 1) yab))) (fun _ _ _ _=>(yiu (K:=K) (n:=2) rfl rfl (qan (qag (i:=0) (show List.Nodup (["element","order"]:List Str) by decide +kernel) rfl (Or.inl rfl)) (qan (qag (i:=1) (show List.Nodup (["element","order"]:List Str) by decide +kernel) rfl (Or.inl rfl)) qbh)))) (fun _ _ _ _=>qcv) (fun _ _ _ _=>(qaf qgj hr (qaa (pv 0) (qaa (pv 1) yab))))) yab))))),?_⟩
  refine ⟨_,rfl,_,_,_,_,rfl,.lst hO,rfl,_,rfl,iteF ?_⟩
  refine ⟨_,rfl,O,_,rfl,.inl (SqL.of hO),_,rfl,t,_,rfl,.inl (SqL.of hl),rfl,_,rfl,iteN (by rw[List.length_map,oo.len,hwl];simp) ?_⟩
  refine ⟨_,rfl,_,rfl,false,false,t,O,ws,os.map V.str,rfl,SqL.of hl,SqL.of hO,fun D hD=>?_⟩
  refine yhd (K:=K) (xs:=ws) (ys:=os.map V.str) (by rw[List.length_map,oo.len];exact hwl) (fun i H'=>Same H H'∧H' D=some (.lst ((List.replicate i true).map V.bl))) ⟨(Same.refl H).upd hD,yaa⟩ ?_ ?_ ?_
  ·rintro i H2 ⟨s2,e2⟩
   exact ⟨SqL.of (s2 _ _ hl),SqL.of (s2 _ _ hO)⟩
  ·rintro H2 ⟨s2,e2⟩
   refine ⟨D,_,rfl,e2,?_⟩
   rw[show (List.replicate ws.length true).all id=true by simp]
   exact k _ s2
  ·rintro i x y p H2 hx hy ⟨s2,e2⟩ hp
   obtain ⟨d,hd,hat⟩:=hw.get hx
   obtain ⟨e,he,rfl⟩:=qa7 hd
   obtain ⟨o,ho,rfl⟩:=qa7 hy
   obtain ⟨ou,oe⟩:=oo.at_ i e o he ho
   refine ⟨p,_,rfl,SqT.of yaa,rfl,?_⟩
   refine ⟨_,_,rfl,_,_,rfl,rfl,yau.set (yau.set (yau.refl _) rfl) rfl,yes ?_⟩
   have s3:=s2.upd (o:=.tup [x,.str o]) hp
   refine ⟨_,rfl,_,rfl,x,e,o,rfl,hat.same s3,ou,oe,fun H3 s4=>?_⟩
   have s23:Same H2 H3:=((Same.refl H2).upd hp).trans s4
   have hi:=(List.getElem?_eq_some_iff.mp hx).1
   refine ⟨_,s23 _ _ e2,ya9 (by rw[List.length_map,List.length_replicate];omega),(s2.trans s23).at hD,?_⟩
   rw[yaa,List.replicate_succ',List.map_append];rfl
def qco:Sp:=fun vs H Q _=>∃ t O T os,vs=[.ref t,.ref O]∧At H (.ref t) (qcs T)∧okT T∧H O=some (.lst (os.map V.str))∧OrdOk T os∧∀ H',Same H H'→Q .non H'
abbrev ybl:Stmt:=top 66
theorem qcn:FnScope ["test","thing"] ["test","thing"] (qad ybl):=⟨rfl,rfl,rfl,by decide +kernel,rfl,by decide +kernel,by decide +kernel⟩
theorem yew (qh1:Has P w K mg base 3 "are_orders" ["test","thing"] yeo) (F:FnAt K mg "look_at_orders" ybl ["test","thing"]):Has P w K mg base 4 "look_at_orders" ["test","thing"] qco:=by
 refine Has.ofQ F qcn (fun vs H Q E h=>?_) (fun f cdv A outer s H vs Q E hr h=>?_)
 ·obtain ⟨t,O,T,os,rfl,_⟩:=h
  rfl
 ·obtain ⟨t,O,T,os,rfl,ht,okt,hO,oo,k⟩:=h
  have sc:=qcn
  refine ⟨_,(qaz rfl (yak (yb7 (qht (qgb (qao qh1 hr (yal (yac (pv 0)) (yal (yac (pv 1)) qal)))))
    (yak (yeu qbk))
    qa5))),?_⟩
  exact ⟨_,rfl,_,rfl,t,O,T,os,rfl,ht,okt,hO,oo,fun H' s'=>⟨_,rfl,iteN rfl (k H' s')⟩⟩
structure FT (H:Hp) (vs:List V) (xs:List (List V)):Prop where
 len:vs.length=xs.length
 at_:∀ (i:Nat) v x,vs[i]?=some v→xs[i]?=some x→∃ a,v=.ref a∧H a=some (.tup x)
theorem FT.nil {H:Hp}:FT H [] []:=⟨rfl,fun i v x h=>by simp at h⟩
theorem FT.same {H H':Hp}{vs:List V}{xs:List (List V)} (s:Same H H') (f:FT H vs xs):FT H' vs xs:=⟨f.len,fun i v x a b=>by obtain ⟨c,e,hc⟩:=f.at_ i v x a b;exact ⟨c,e,s _ _ hc⟩⟩
theorem FT.put {H:Hp}{D:Addr}{ys:List V}{o:HO}{vs:List V}{xs:List (List V)} (f:FT H vs xs) (hd:H D=some (.lst ys)):FT (upd H D o) vs xs:=⟨f.len,fun i v x a b=>by
 obtain ⟨c,e,hc⟩:=f.at_ i v x a b
 exact ⟨c,e,by rw[yaj (fun z=>by subst z;rw[hd] at hc;cases hc)];exact hc⟩⟩
theorem FT.upC {H H':Hp}{C:Addr}{cs ds:List Int}{vs:List V}{xs:List (List V)} (f:FT H vs xs) (u:UpC H C ds H') (hc:H C=some (.lst (cs.map V.int))):FT H' vs xs:=⟨f.len,fun i v x a b=>by
 obtain ⟨c,e,h⟩:=f.at_ i v x a b
 exact ⟨c,e,u.st _ _ (fun z=>by subst z;rw[hc] at h;cases h) h⟩⟩
theorem FT.snoc {H:Hp}{vs:List V}{xs:List (List V)}{a:Addr}{x:List V} (f:FT H vs xs) (h:H a=some (.tup x)):FT H (vs++[.ref a]) (xs++[x]):=by
 refine ⟨by simp[f.len],fun i v y h1 h2=>?_⟩
 by_cases hi:i<vs.length
 ·rw[List.getElem?_append_left hi] at h1
  rw[List.getElem?_append_left (by rw[← f.len];exact hi)] at h2
  exact f.at_ i v y h1 h2
 ·rw[List.getElem?_append_right (by omega)] at h1
  rw[List.getElem?_append_right (by rw[← f.len];omega),← f.len] at h2
  cases hj:i-vs.length with
  | zero=>rw[hj] at h1 h2;cases h1;cases h2;exact ⟨a,rfl,h⟩
  | succ n=>rw[hj] at h1;simp at h1
theorem FT.get {H:Hp}{vs:List V}{xs:List (List V)} (f:FT H vs xs) {i:Nat}{v:V} (h:vs[i]?=some v):∃ x a,xs[i]?=some x∧v=.ref a∧H a=some (.tup x):=by
 have hi:=(List.getElem?_eq_some_iff.mp h).1
 have e:xs[i]?=some (xs[i]'(by rw[← f.len];exact hi)):=List.getElem?_eq_getElem _
 obtain ⟨a,h1,h2⟩:=f.at_ i v _ h e
 exact ⟨_,a,e,h1,h2⟩
def yas (up:Bool) (n:Nat):List Int:=(List.range n).map fun t:Nat=>if up then (t:Int) else (n:Int)-1-t
def rowD (ws:List V) (a:Int):List (List V):=(List.range ws.length).map fun p:Nat=>[.int a,.int p,ws.getD p .non]
def ykv (up:Bool) (ws:List V) (n:Nat):List (List V):=(yas up n).flatMap (rowD ws)
theorem yfm (up:Bool) (n:Nat) {i:Nat} (h:i<n):(yas up n)[i]?=some (if up then (i:Int) else (n:Int)-1-i):=by
 unfold yas
 rw[List.getElem?_map,List.getElem?_range h]
 rfl
theorem qka (up:Bool) (ws:List V) (n:Nat) {i:Nat}{a:Int} (h:(yas up n)[i]?=some a):((yas up n).take (i+1)).flatMap (rowD ws)=((yas up n).take i).flatMap (rowD ws)++rowD ws a:=by
 rw[List.take_add_one,h]
 simp
theorem yls (ws:List V) (a:Int) {j:Nat}{w:V} (h:ws[j]?=some w):(rowD ws a).take (j+1)=(rowD ws a).take j++[[.int a,.int j,w]]:=by
 have hj:=(List.getElem?_eq_some_iff.mp h).1
 rw[List.take_add_one]
 congr 1
 unfold rowD
 rw[List.getElem?_map,List.getElem?_range hj]
 simp[List.getD_eq_getElem?_getD,h]
theorem yhg (ws:List V) (a:Int):(rowD ws a).length=ws.length:=by simp[rowD]
theorem qhq (ws:List V):∀ (l:List Int),(l.flatMap (rowD ws)).length=l.length*ws.length
 | []=>by simp
 | a::l=>by
  rw[List.flatMap_cons,List.length_append,yhg,qhq ws l,List.length_cons,Nat.succ_mul]
  omega
def qjn:Sp:=fun vs H Q _=>∃ (o:Str) (S:Addr) (ws:List V) (n:Nat),vs=[.str o,.ref S,.int n]∧okU o∧H S=some (.lst ws)∧ws.length≤6∧n≤64∧
 ∀ (D:Addr) (us:List V) (H':Hp),Same H H'→H D=none→H' D=some (.lst us)→FT H' us (ykv (decide (o="up")) ws n)→Q (.ref D) H'
abbrev yhi:Stmt:=top 55
theorem qjk:FnScope ["order","steps","size","found","turn","address","place","step"] ["order","steps","size"] (qad yhi):=⟨rfl,rfl,rfl,by decide +kernel,rfl,by decide +kernel,by decide +kernel⟩
theorem ok_deeds (B:Bl mg) (F:FnAt K mg "deeds" yhi ["order","steps","size"]):Has P w K mg base 1 "deeds" ["order","steps","size"] qjn:=by
 refine Has.ofQ F qjk (fun vs H Q E h=>?_) (fun f cdv A outer s H vs Q E hr h=>?_)
 ·obtain ⟨o,S,ws,n,rfl,_⟩:=h
  rfl
 ·obtain ⟨o,S,ws,n,rfl,ho,hS,hw6,hn,k⟩:=h
  have sc:=qjk
  refine ⟨_,(qaz rfl (yaf (qat (i:=3) sc.nd rfl (Or.inl rfl) (qdi qal))
   (yaf (yd2 PassesOwn.never rfl (yja (yb8 rfl (B.of rfl) (qaa (pv 2) yab))) (qag (i:=4) sc.nd rfl (Or.inl rfl))
    (yaf (qat (i:=5) sc.nd rfl (Or.inl rfl) (qe_mid (qe_ifExp (ycb qax (yac (pv 0)) (yac qam) (qai _)) (yac (pv 4)) (qfz ye6 (qfz ye6 (yac (pv 2)) (yac qab)) (yac (pv 4))))))
    (yak (yd2 PassesOwn.never rfl (yja (qcy rfl (B.of rfl) (qaa (pv 1) yab))) (ycc rfl (qan (qag (i:=6) sc.nd rfl (Or.inl rfl)) (qan (qag (i:=7) sc.nd rfl (Or.inl rfl)) qbh)))
     (yak (yb3 (yac (yfg PySem.F.plainAttrs_list PySem.F.slot_list_append PySem.F.type_list_append ybh (pv 3) (qaa (qbf (qaa (pv 5) (qaa (pv 6) (qaa (pv 7) yab)))) yab)))))))))
   (yak (qay (yac (pv 3))))))),?_⟩
  refine ⟨Nat.zero_le _,fun D hD=>?_⟩
  have s0:=(Same.refl H).upd (o:=.lst []) hD
  refine ⟨_,rfl,_,rfl,by omega,by omega,?_⟩
  rw[Int.toNat_natCast]
  refine qej (n:=n) (fun i σ H2=>∃ (us:List V) (o4 o5 o6 o7:Option V),σ=[some (.str o),some (.ref S),some (.int n),some (.ref D),o4,o5,o6,o7]∧Same H H2∧H2 D=some (.lst us)∧FT H2 us (((yas (decide (o="up")) n).take i).flatMap (rowD ws))) ⟨[],none,none,none,none,rfl,s0,yaa,FT.nil⟩ ?_ ?_
  ·rintro i σ H2 hi ⟨us,o4,o5,o6,o7,rfl,s2,e2,ft⟩
   have hadr:=yfm (decide (o="up")) n hi
   obtain ⟨ad,had⟩:∃ ad:Int,ad=(if decide (o="up")=true then (i:Int) else (n:Int)-1-i):=⟨_,rfl⟩
   rw[← had] at hadr
   refine ⟨fun v H'=>v=.int ad∧H'=H2,?_,?_⟩
   ·refine ⟨_,rfl,rfl,_,rfl,?_⟩
    rw[dS]
    by_cases hu:o="up"
    ·refine iteD hu ⟨_,rfl,?_,rfl⟩
     rw[had,if_pos (decide_eq_true hu),Int.zero_add]
    ·refine qa0 hu ⟨_,rfl,_,_,rfl,rfl,_,rfl,_,_,rfl,rfl,?_,rfl⟩
     rw[had,if_neg (by simp[hu])]
     show V.int ((n:Int)-1-(0+(i:Int)))=_
     rw[Int.zero_add]
   ·rintro v H3 ⟨rfl,rfl⟩
    have hlen:=ft.len
    rw[qhq] at hlen
    have htl:((yas (decide (o="up")) n).take i).length≤64:=by rw[List.length_take];omega
    have hmul:((yas (decide (o="up")) n).take i).length*ws.length≤64*6:=Nat.mul_le_mul htl hw6
    refine ⟨_,rfl,S,_,rfl,SqL.of (s2 _ _ hS),qb5 (xs:=ws) (fun j σ H4=>∃ (us:List V) (o6 o7:Option V),σ=[some (.str o),some (.ref S),some (.int n),some (.ref D),some (.int ((0:Int)+(i:Int))),some (.int ad),o6,o7]∧Same H H4∧H4 D=some (.lst us)∧FT H4 us (((yas (decide (o="up")) n).take i).flatMap (rowD ws)++(rowD ws ad).take j)) ⟨us,_,_,rfl,s2,e2,by simpa using ft⟩ (fun j σ H4 _ ⟨_,_,_,_,s4,_⟩=>SqL.of (s4 _ _ hS)) ?_ ?_⟩
    ·rintro j x pp σ H4 hx ⟨us,o6,o7,rfl,s4,e4,ft4⟩ hpp
     have hj:=(List.getElem?_eq_some_iff.mp hx).1
     refine ⟨pp,_,rfl,SqT.of yaa,rfl,_,_,rfl,_,_,rfl,rfl,?_⟩
     have s5:=(Same.refl H4).upd (o:=.tup [V.int j,x]) hpp
     revert s5
     generalize upd H4 pp (.tup [V.int j,x])=H5
     intro s5
     have e5:=s5 _ _ e4
     refine ⟨_,rfl,.inl ⟨rfl,_,SqL.of e5⟩,_,rfl,_,rfl,_,rfl,(by show 3≤sizeLine;decide),fun q hq=>?_⟩
     have s6:=(Same.refl H5).upd (o:=.tup [V.int ad,.int j,x]) hq
     have q6:upd H5 q (.tup [V.int ad,.int j,x]) q=some (.tup [V.int ad,.int j,x]):=yaa
     revert s6 q6
     generalize upd H5 q (.tup [V.int ad,.int j,x])=H6
     intro s6 q6
     have l4:=ft4.len
     rw[List.length_append,qhq] at l4
     have hr6:((rowD ws ad).take j).length≤6:=by rw[List.length_take,yhg];omega
     have e6:=s6 _ _ e5
     refine ⟨D,us,_,rfl,rfl,e6,ya9 (by omega),?_⟩
     refine ⟨us++[.ref q],_,_,rfl,((s4.trans s5).trans s6).at hD,yaa,?_⟩
     rw[yls ws ad hx,← List.append_assoc]
     exact ((ft4.same (s5.trans s6)).snoc q6).put e6
    ·rintro σ H4 ⟨us,o6,o7,rfl,s4,e4,ft4⟩
     refine ⟨us,_,_,_,_,rfl,s4,e4,?_⟩
     rw[qka _ ws n hadr]
     rw[show (rowD ws ad).take ws.length=rowD ws ad by rw[← yhg ws ad,List.take_length]] at ft4
     exact ft4
  ·rintro σ H2 ⟨us,o4,o5,o6,o7,rfl,s2,e2,ft⟩
   refine ⟨_,rfl,k D us H2 s2 hD e2 ?_⟩
   have:(yas (decide (o="up")) n).take n=yas (decide (o="up")) n:=by
    rw[List.take_of_length_le];simp[yas]
   rw[this] at ft
   exact ft
end
theorem qj2 {T:List Elm}{ds:List PyData} (h:ds∈ybg (qcs T)):ds=T.map qg7∨∃ e∈T,ds=e.2.map qgn:=by
 unfold qcs ybg at h
 rcases List.mem_cons.mp h with h|h
 ·exact .inl h
 ·obtain ⟨d,hd,hx⟩:=yb2 h
  obtain ⟨e,he,rfl⟩:=List.mem_map.mp hd
  refine .inr ⟨e,he,?_⟩
  unfold qg7 ybg at hx
  obtain ⟨d,hd,hx⟩:=yb2 hx
  rcases List.mem_cons.mp hd with rfl|hd
  ·unfold ybg at hx;cases hx
  ·rw[List.mem_singleton.mp hd] at hx
   unfold ybg at hx
   rcases List.mem_cons.mp hx with h|h
   ·exact h
   ·obtain ⟨d,hd,hx⟩:=yb2 h
    obtain ⟨s,_,rfl⟩:=List.mem_map.mp hd
    unfold qgn ybg at hx
    obtain ⟨d,hd,hx⟩:=yb2 hx
    rcases List.mem_cons.mp hd with rfl|hd
    ·unfold ybg at hx;cases hx
    ·rw[List.mem_singleton.mp hd] at hx
     unfold ybg at hx;cases hx
structure TestAt (H:Hp) (t:Addr) (ws:List V) (T:List Elm):Prop where
 l:H t=some (.lst ws)
 a:AtAll H ws (T.map qg7)
theorem TestAt.of {H:Hp}{t:Addr}{T:List Elm} (h:At H (.ref t) (qcs T)):∃ ws,TestAt H t ws T:=by
 obtain ⟨l,ws,e,h1,h2⟩:=h.lstEq
 cases e
 exact ⟨ws,h1,h2⟩
theorem TestAt.at {H:Hp}{t:Addr}{ws:List V}{T:List Elm} (x:TestAt H t ws T):At H (.ref t) (qcs T):=.lst x.l x.a
theorem TestAt.same {H H':Hp}{t:Addr}{ws:List V}{T:List Elm} (x:TestAt H t ws T) (s:Same H H'):TestAt H' t ws T:=⟨s _ _ x.l,x.a.same s⟩
theorem qme {H:Hp}{cs:List Int}{T:List Elm} (ok:okT T) {ds:List PyData} (h:ds∈ybg (qcs T)):¬ AtAll H (cs.map V.int) ds:=by
 intro ha
 obtain ⟨h1,_,h3⟩:=ok
 rcases qj2 h with rfl|⟨e,he,rfl⟩
 ·cases T with
  | nil=>simp at h1
  | cons e r=>
   cases cs with
   | nil=>cases ha
   | cons c cr=>cases ha with|cons a _=>cases a
 ·have h2:=(h3 e he).2.1
  cases q:e.2 with
  | nil=>rw[q] at h2;simp at h2
  | cons s r=>
   rw[q] at ha
   cases cs with
   | nil=>cases ha
   | cons c cr=>cases ha with|cons a _=>cases a
theorem qk5 {H H':Hp}{C:Addr}{ds:List Int} (u:UpC H C ds H'):Same (qct H [C]) H':=fun b o e=>by
 by_cases hb:b=C
 ·subst hb;unfold qct at e;simp at e
 ·rw[ycp (by simp[hb])] at e
  exact u.st _ _ hb e
theorem At.test_up {H H':Hp}{t C:Addr}{T:List Elm}{cs ds:List Int} (x:At H (.ref t) (qcs T)) (ok:okT T) (hc:H C=some (.lst (cs.map V.int))) (u:UpC H C ds H'):At H' (.ref t) (qcs T):=
 (x.hideP hc fun ds hd=>qme ok hd).same (qk5 u)
theorem TestAt.upC {H H':Hp}{t C:Addr}{ws:List V}{T:List Elm}{cs ds:List Int} (x:TestAt H t ws T) (ok:okT T) (hc:H C=some (.lst (cs.map V.int))) (u:UpC H C ds H'):TestAt H' t ws T:=by
 obtain ⟨ws',y⟩:=TestAt.of (At.test_up x.at ok hc u)
 have ht:t≠C:=fun z=>by
  subst z
  have:=x.l
  rw[hc] at this
  cases this
  exact qme ok (by unfold qcs ybg;simp) x.a
 have:=u.st _ _ ht x.l
 rw[y.l] at this
 cases this
 exact y
def ixP (up:Bool) (k n:Nat):List (Int×Nat):=(yas up n).flatMap fun a=>(List.range k).map fun p=>(a,p)
theorem deeds_ix (up:Bool) (ws:List V) (n:Nat):ykv up ws n=(ixP up ws.length n).map fun x=>[V.int x.1,.int x.2,ws.getD x.2 .non]:=by
 unfold ykv ixP rowD
 rw[List.map_flatMap]
 simp[Function.comp_def]
theorem ylz {up:Bool}{k n:Nat}{x:Int×Nat} (h:x∈ixP up k n):0≤x.1∧x.1<n∧x.2<k:=by
 obtain ⟨a,ha,hx⟩:=List.mem_flatMap.mp h
 obtain ⟨p,hp,rfl⟩:=List.mem_map.mp hx
 obtain ⟨t,ht,rfl⟩:=List.mem_map.mp ha
 have h1:=List.mem_range.mp ht
 have h2:=List.mem_range.mp hp
 refine ⟨?_,?_,h2⟩<;>dsimp only<;>split<;>omega
abbrev RS:=List (List V)×List Int
noncomputable def qaq (hs:List Hm) (ss:List Stp) (i:Nat) (st:RS) (x:Int×Nat):RS:=
 if (ss.getD x.2 (false,false)).1=true then (st.1,writeAt hs st.2 x.1 (b2i (ss.getD x.2 (false,false)).2))
 else (st.1++[[.int i,.int x.1,.int x.2,.int (readAt hs st.2 x.1).1]],(readAt hs st.2 x.1).2)
noncomputable def elR (hs:List Hm) (n i:Nat) (up:Bool) (ss:List Stp) (st:RS):RS:=(ixP up ss.length n).foldl (qaq hs ss i) st
noncomputable def yhl (hs:List Hm) (n:Nat) (T:List Elm) (os:List Str) (st:RS) (i:Nat):RS:=elR hs n i (decide (os.getD i "" = "up")) (T.getD i ("",[])).2 st
noncomputable def runR (hs:List Hm) (n:Nat) (T:List Elm) (os:List Str) (st:RS) (k:Nat):RS:=(List.range k).foldl (yhl hs n T os) st
theorem ybp (hs:List Hm) (n:Nat) (T:List Elm) (os:List Str) (st:RS) (k:Nat):runR hs n T os st (k+1)=yhl hs n T os (runR hs n T os st k) k:=by
 unfold runR
 rw[List.range_succ,List.foldl_append]
 rfl
theorem qlu (hs:List Hm) (ss:List Stp) (i:Nat) (st:RS) (x:Int×Nat):(qaq hs ss i st x).2.length=st.2.length∧(qaq hs ss i st x).1.length≤st.1.length+1:=by
 unfold qaq
 split
 ·exact ⟨qje _ _ _ _,by simp⟩
 ·exact ⟨yj2 _ _ _,by simp⟩
theorem yep (hs:List Hm) (ss:List Stp) (i:Nat):∀ (l:List (Int×Nat)) (st:RS),(l.foldl (qaq hs ss i) st).2.length=st.2.length∧(l.foldl (qaq hs ss i) st).1.length≤st.1.length+l.length
 | [],st=>⟨rfl,by simp⟩
 | x::l,st=>by
  obtain ⟨h1,h2⟩:=qlu hs ss i st x
  obtain ⟨g1,g2⟩:=yep hs ss i l (qaq hs ss i st x)
  rw[List.foldl_cons]
  exact ⟨g1.trans h1,by rw[List.length_cons];omega⟩
theorem ylo (up:Bool) (k n:Nat):(ixP up k n).length=n*k:=by
 unfold ixP
 rw[List.length_flatMap]
 simp only[yas,List.map_map,Function.comp_def,List.length_map,List.length_range]
 induction n with
 | zero=>simp
 | succ m ih=>
  rw[List.range_succ,List.map_append,List.sum_append,ih,Nat.succ_mul]
  simp
theorem qdp (hs:List Hm) {n:Nat}{T:List Elm} (ok:okT T) (hn:n≤64) (os:List Str) (st:RS):∀ k,(runR hs n T os st k).2.length=st.2.length∧(runR hs n T os st k).1.length≤st.1.length+384*k
 | 0=>⟨rfl,by simp[runR]⟩
 | k+1=>by
  obtain ⟨h1,h2⟩:=qdp hs ok hn os st k
  rw[ybp]
  unfold yhl elR
  obtain ⟨g1,g2⟩:=yep hs (T.getD k ("",[])).2 k (ixP (decide (os.getD k "" = "up")) (T.getD k ("",[])).2.length n) (runR hs n T os st k)
  refine ⟨g1.trans h1,?_⟩
  rw[ylo] at g2
  have h6:(T.getD k ("",[])).2.length≤6:=by
   rw[List.getD_eq_getElem?_getD]
   cases e:T[k]? with
   | none=>simp
   | some x=>exact (ok.2.2 x (List.mem_of_getElem? e)).2.2
  have:n*(T.getD k ("",[])).2.length≤64*6:=Nat.mul_le_mul hn h6
  omega
theorem qj6 {α β:Type} (f:β→α→β) (b:β) {l:List α}{i:Nat}{x:α} (h:l[i]?=some x):(l.take (i+1)).foldl f b=f ((l.take i).foldl f b) x:=yb9 f b h
def qh5 (s:Stp):List V:=[.str (qhe s.1),.int (b2i s.2)]
theorem qfn {H:Hp}:∀ {ws:List V}{ss:List Stp},AtAll H ws (ss.map qgn)→FT H ws (ss.map qh5)
 | [],[],_=>FT.nil
 | w::ws,s::ss,.cons a r=>by
  obtain ⟨b,rfl,hb⟩:=qjg a
  have f:=qfn r
  refine ⟨by simpa using f.len,fun i v x h1 h2=>?_⟩
  cases i with
  | zero=>simp at h1 h2;subst h1;subst h2;exact ⟨b,rfl,hb⟩
  | succ i=>exact f.at_ i v x (by simpa using h1) (by simpa using h2)
section
variable {P:Program}{w:World}{K:PySem.W.Frag}{mg:Str→Option Value}{base:Heap}{C:Addr}
def ye5 (C:Addr):Sp:=fun vs H Q _=>∃ (t m O L Cc:Addr) (T:List Elm) (os:List Str) (us:List V) (hs:List Hm) (cs:List Int),vs=[.ref t,.ref m,.ref O]∧At H (.ref t) (qcs T)∧okT T∧MemO H C m L Cc us hs cs∧InR hs cs.length∧cs.length≤64∧H O=some (.lst (os.map V.str))∧OrdOk T os∧
 ∀ (D:Addr) (tv:List V) (H':Hp),UpC H Cc (runR hs cs.length T os ([],cs) T.length).2 H'→H D=none→D≠Cc→H' D=some (.lst tv)→FT H' tv (runR hs cs.length T os ([],cs) T.length).1→Q (.ref D) H'
abbrev ycx:Stmt:=top 67
theorem qe4:FnScope ["test","memory","orders","told","number","element","address","place","step"] ["test","memory","orders"] (qad ycx):=⟨rfl,rfl,rfl,by decide +kernel,rfl,by decide +kernel,by decide +kernel⟩
theorem yht (B:Bl mg) (cm:CM K C) (h_deeds:Has P w K mg base 1 "deeds" ["order","steps","size"] qjn) (yi9:HasM P w K mg base C 5 "read" ["self","address"] (qik C)) (yhn:HasM P w K mg base C 6 "write" ["self","address","bit"] (qg4 C)) (yje:HasM P w K mg base C 1 "size" ["self"] (yh4 C)) (F:FnAt K mg "all_reads" ycx ["test","memory","orders"]):Has P w K mg base 7 "all_reads" ["test","memory","orders"] (ye5 C):=by
 refine Has.ofQ F qe4 (fun vs H Q E h=>?_) (fun f cdv A outer s H vs Q E hr h=>?_)
 ·obtain ⟨t,m,O,L,Cc,T,os,us,hs,cs,rfl,_⟩:=h
  rfl
 ·obtain ⟨t,m,O,L,Cc,T,os,us,hs,cs,rfl,ht,okt,mo,ir,hn,hO,oo,k⟩:=h
  have sc:=qe4
  refine ⟨_,(qaz rfl (yaf (qat (i:=3) sc.nd rfl (Or.inl rfl) (qdi qal))
   (yaf (yd2 PassesOwn.never rfl (yja (qcy rfl (B.of rfl) (qaa (pv 0) yab))) (ycc rfl (qan (qag (i:=4) sc.nd rfl (Or.inl rfl)) (qan (qag (i:=5) sc.nd rfl (Or.inl rfl)) qbh)))
    (yak (yd2 PassesOwn.never rfl (qi4 (qao h_deeds hr (qd5 (qbp qaj (yac (pv 2)) (yac (pv 4)) (fun _ _=>rfl)) (qd5 (qbp qak (yac (pv 5)) (yac qab) (fun _ _=>rfl)) (qhy (ql7 cm.c yje hr (yac (pv 1))) qal))))) (ycc rfl (qan (qag (i:=6) sc.nd rfl (Or.inl rfl)) (qan (qag (i:=7) sc.nd rfl (Or.inl rfl)) (qan (qag (i:=8) sc.nd rfl (Or.inl rfl)) qbh))))
     (yak (yb7 (ycb qax (qbp qak (yac (pv 8)) (yac qab) (fun _ _=>rfl)) (yac qam) (qai _))
      (yak (yb3 (qfo cm.c yhn hr (yac (pv 1)) (yal (yac (pv 6)) (qd5 (qbp qak (yac (pv 8)) (yac qab) (fun _ _=>rfl)) qal)))))
      (yak (yb3 (yac (yfg PySem.F.plainAttrs_list PySem.F.slot_list_append PySem.F.type_list_append ybh (pv 3) (qaa (qbf (qaw (pv 4) (qaw (pv 6) (qaw (pv 7) (pa_cl (QE.of (qfo cm.c yi9 hr (yac (pv 1)) (yal (yac (pv 6)) qal))) yab))))) yab))))))))))
   (yak (qay (yac (pv 3))))))),?_⟩
  obtain ⟨ws,tx⟩:=TestAt.of ht
  have hwl:ws.length=T.length:=by have:=tx.a.length;rw[List.length_map] at this;exact this
  have hT8:=okt.2.1
  have nOC:O≠Cc:=fun z=>by
   subst z
   have:=mo.m.hc
   rw[hO] at this
   injection this with this
   injection this with this
   cases cs with
   | nil=>have h0:=oo.len;rw[List.map_nil,List.map_eq_nil_iff] at this;rw[this] at h0;have:=okt.1;simp at h0;omega
   | cons c r=>cases os with|nil=>simp at this|cons o r'=>simp at this
  refine ⟨Nat.zero_le _,fun D hD=>?_⟩
  have nDC:D≠Cc:=(yae mo.m.hc hD).symm
  have s0:=(Same.refl H).upd (o:=.lst []) hD
  have f0:upd H D (.lst []) D=some (.lst []):=yaa
  revert s0 f0
  generalize upd H D (.lst [])=H0
  intro s0 f0
  have hlen:=qdp hs okt hn os ([],cs)
  refine ⟨_,rfl,t,_,rfl,SqL.of (tx.same s0).l,qb5 (xs:=ws) (fun i σ H2=>∃ (tv:List V) (o4 o5 o6 o7 o8:Option V),σ=[some (.ref t),some (.ref m),some (.ref O),some (.ref D),o4,o5,o6,o7,o8]∧UpC H Cc (runR hs cs.length T os ([],cs) i).2 H2∧MemO H2 C m L Cc us hs (runR hs cs.length T os ([],cs) i).2∧TestAt H2 t ws T∧H2 O=some (.lst (os.map V.str))∧H2 D=some (.lst tv)∧FT H2 tv (runR hs cs.length T os ([],cs) i).1)
   ⟨[],none,none,none,none,none,rfl,UpC.of s0 mo.m.hc,mo.same s0,tx.same s0,s0 _ _ hO,f0,FT.nil⟩ (fun i σ H2 _ ⟨_,_,_,_,_,_,_,_,_,h,_⟩=>SqL.of h.l) ?_ ?_⟩
  ·rintro i x pp σ H2 hx ⟨tv,o4,o5,o6,o7,o8,rfl,u2,m2,tx2,hO2,e2,ft2⟩ hpp
   obtain ⟨d,hd,hat⟩:=tx2.a.get hx
   obtain ⟨e,he,rfl⟩:=qa7 hd
   have hiT:=(List.getElem?_eq_some_iff.mp he).1
   obtain ⟨ea,el,sw,rfl,hea,hel,hsw⟩:=qdd hat
   have oke:=okt.2.2 e (List.mem_of_getElem? he)
   have hswl:sw.length=e.2.length:=by have:=hsw.length;rw[List.length_map] at this;exact this
   obtain ⟨o,ho⟩:∃ o,os[i]?=some o:=⟨os[i]'(by rw[oo.len];exact hiT),List.getElem?_eq_getElem _⟩
   obtain ⟨ou,_⟩:=oo.at_ i e o he ho
   refine ⟨pp,_,rfl,SqT.of yaa,rfl,_,_,rfl,_,_,rfl,rfl,?_⟩
   have s3:=(Same.refl H2).upd (o:=.tup [V.int i,.ref ea]) hpp
   revert s3
   generalize upd H2 pp (.tup [V.int i,.ref ea])=H3
   intro s3
   have m3:=m2.same s3
   obtain ⟨⟨dx3,ho3⟩,_⟩:=id m3
   have hl2:=(hlen i).1
   refine ⟨_,rfl,_,rfl,O,_,_,_,rfl,rfl,SqL.of (s3 _ _ hO2),yck (by rw[List.getElem?_map,ho];rfl),_,rfl,ea,_,_,_,rfl,rfl,SqT.of (s3 _ _ hea),qac 1 rfl,_,rfl,m,dx3,_,rfl,ho3,lk_n,m,L,Cc,us,hs,_,rfl,m3,?_⟩
   refine ⟨o,el,sw,cs.length,by show [V.str o,.ref el,.int ((runR hs cs.length T os ([],cs) i).2.length:Nat)]=_;rw[hl2],ou,s3 _ _ hel,by have:=oke.2.2;omega,hn,fun DD uu H4 s4 nDD hDD ftd=>?_⟩
   have hgo:os.getD i "" = o:=by rw[List.getD_eq_getElem?_getD,ho];rfl
   have hge:(T.getD i ("",[]))=e:=by rw[List.getD_eq_getElem?_getD,he];rfl
   rw[deeds_ix,hswl] at ftd
   have nDDC:DD≠Cc:=(yae m3.m.hc nDD).symm
   have nDD0:D≠DD:=yae (s3 _ _ e2) nDD
   have s24:=s3.trans s4
   have stf:=(qfn hsw).same s24
   have hstep:runR hs cs.length T os ([],cs) (i+1)=(ixP (decide (o="up")) e.2.length cs.length).foldl (qaq hs e.2 i) (runR hs cs.length T os ([],cs) i):=by
    rw[ybp];unfold yhl elR;rw[hgo,hge]
   have hlen2:=(hlen i).2
   revert u2 m2 ft2 hstep hl2 hlen2
   generalize runR hs cs.length T os ([],cs) i=st0
   intro u2 m2 ft2 hl2 hstep hlen2
   have hstl:∀ j,(((ixP (decide (o="up")) e.2.length cs.length).take j).foldl (qaq hs e.2 i) st0).2.length=cs.length∧(((ixP (decide (o="up")) e.2.length cs.length).take j).foldl (qaq hs e.2 i) st0).1.length≤4000:=fun j=>by
    obtain ⟨g1,g2⟩:=yep hs e.2 i ((ixP (decide (o="up")) e.2.length cs.length).take j) st0
    refine ⟨g1.trans hl2,?_⟩
    have g3:((ixP (decide (o="up")) e.2.length cs.length).take j).length≤384:=by
     rw[List.length_take,ylo]
     have:cs.length*e.2.length≤64*6:=Nat.mul_le_mul hn oke.2.2
     omega
    simp at hlen2
    omega
   refine ⟨DD,rfl,⟨_,SqL.of hDD⟩,yay (xs:=uu) (fun j σ H5=>∃ (tv:List V) (o6 o7 o8:Option V),σ=[some (.ref t),some (.ref m),some (.ref O),some (.ref D),some (.int i),some (.ref ea),o6,o7,o8]∧UpC H Cc (((ixP (decide (o="up")) e.2.length cs.length).take j).foldl (qaq hs e.2 i) st0).2 H5∧H5 D=some (.lst tv)∧FT H5 tv (((ixP (decide (o="up")) e.2.length cs.length).take j).foldl (qaq hs e.2 i) st0).1∧H5 DD=some (.lst uu)∧FT H5 uu ((ixP (decide (o="up")) e.2.length cs.length).map fun x=>[V.int x.1,.int x.2,sw.getD x.2 .non])∧FT H5 sw (e.2.map qh5))
    ⟨tv,_,_,_,rfl,u2.same s24,s24 _ _ e2,ft2.same s24,hDD,ftd,stf⟩ (fun j σ H5 _ ⟨_,_,_,_,_,_,_,_,d5,_⟩=>SqL.of d5) ?_ ?_⟩
   ·rintro j y σ H5 hy ⟨tv5,o6,o7,o8,rfl,u5,e5,ft5,d5,fr5,fs5⟩
    obtain ⟨row,ra,hrow,rfl,hra⟩:=fr5.get hy
    obtain ⟨ap,hap,rfl⟩:=qa7 hrow
    obtain ⟨a0,a1,a2⟩:=ylz (List.mem_of_getElem? hap)
    have m5:=mo.upC u5
    obtain ⟨⟨dx5,ho5⟩,_⟩:=id m5
    have ⟨l5,l5'⟩:=hstl j
    have hadl:ap.1<((((ixP (decide (o="up")) e.2.length cs.length).take j).foldl (qaq hs e.2 i) st0).2.length:Int):=by rw[l5];exact a1
    have ir5:InR hs (((ixP (decide (o="up")) e.2.length cs.length).take j).foldl (qaq hs e.2 i) st0).2.length:=by rw[l5];exact ir
    obtain ⟨s,hs'⟩:∃ s,e.2[ap.2]?=some s:=⟨e.2[ap.2],List.getElem?_eq_getElem _⟩
    obtain ⟨sv,hsv⟩:∃ v,sw[ap.2]?=some v:=⟨sw[ap.2]'(by omega),List.getElem?_eq_getElem _⟩
    obtain ⟨sa,rfl,hsa⟩:=fs5.at_ ap.2 sv (qh5 s) hsv (by rw[List.getElem?_map,hs'];rfl)
    have hgs:e.2.getD ap.2 (false,false)=s:=by rw[List.getD_eq_getElem?_getD,hs'];rfl
    have hgv:sw.getD ap.2 .non=.ref sa:=by rw[List.getD_eq_getElem?_getD,hsv];rfl
    rw[hgv] at hra
    have hnext:=qj6 (qaq hs e.2 i) st0 hap
    revert u5 ft5 m5 hadl ir5 hnext l5 l5'
    generalize ((ixP (decide (o="up")) e.2.length cs.length).take j).foldl (qaq hs e.2 i) st0=st5
    intro u5 ft5 m5 l5 l5' hadl ir5 hnext
    refine ⟨ra,_,rfl,SqT.of hra,rfl,_,_,rfl,_,_,rfl,_,_,rfl,rfl,?_⟩
    have hst:qaq hs e.2 i st5 ap=if s.1=true then (st5.1,writeAt hs st5.2 ap.1 (b2i s.2)) else (st5.1++[[.int i,.int ap.1,.int ap.2,.int (readAt hs st5.2 ap.1).1]],(readAt hs st5.2 ap.1).2):=by
     unfold qaq;rw[hgs]
    rw[hst] at hnext
    unfold qh5 at hsa
    refine ⟨_,rfl,sa,_,_,_,rfl,rfl,SqT.of hsa,qac 0 rfl,rfl,_,rfl,?_⟩
    cases hw:s.1 with
    | true=>
     rw[hw,if_pos rfl] at hnext
     refine iteB (by decide +kernel) ?_
     refine ⟨_,rfl,m,dx5,_,rfl,ho5,lk_n,_,rfl,_,rfl,sa,_,_,_,rfl,rfl,SqT.of hsa,qac 1 rfl,m,L,Cc,us,hs,_,ap.1,s.2,rfl,m5,ir5,a0,hadl,fun H6 u6=>?_⟩
     refine ⟨tv5,_,_,_,rfl,?_⟩
     rw[hnext]
     exact ⟨u5.trans u6,u6.st _ _ nDC e5,ft5.upC u6 m5.m.hc,u6.st _ _ nDDC d5,fr5.upC u6 m5.m.hc,fs5.upC u6 m5.m.hc⟩
    | false=>
     rw[hw,if_neg (by simp)] at hnext
     refine iteN (by decide +kernel) ?_
     refine ⟨_,rfl,.inl ⟨rfl,_,SqL.of e5⟩,_,rfl,_,rfl,_,rfl,_,rfl,m,dx5,_,rfl,ho5,lk_n,_,rfl,m,L,Cc,us,hs,_,ap.1,rfl,m5,ir5,a0,hadl,fun H6 u6=>?_⟩
     have e6:=u6.st _ _ nDC e5
     refine ⟨(by show 4≤sizeLine;decide),fun q hq=>?_⟩
     have s7:=(Same.refl H6).upd (o:=.tup [V.int i,.int ap.1,.int ap.2,.int (readAt hs st5.2 ap.1).1]) hq
     have q7:upd H6 q (.tup [V.int i,.int ap.1,.int ap.2,.int (readAt hs st5.2 ap.1).1]) q=some (.tup [V.int i,.int ap.1,.int ap.2,.int (readAt hs st5.2 ap.1).1]):=yaa
     revert s7 q7
     generalize upd H6 q (.tup [V.int i,.int ap.1,.int ap.2,.int (readAt hs st5.2 ap.1).1])=H7
     intro s7 q7
     have e7:=s7 _ _ e6
     have l6:=ft5.len
     refine ⟨D,tv5,_,rfl,rfl,e7,ya9 (by omega),?_⟩
     refine ⟨tv5++[.ref q],_,_,_,rfl,?_⟩
     rw[hnext]
     exact ⟨((u5.trans u6).same s7).new hD nDC.symm,yaa,(((ft5.upC u6 m5.m.hc).same s7).snoc q7).put e7,by rw[yaj nDD0.symm];exact s7 _ _ (u6.st _ _ nDDC d5),((fr5.upC u6 m5.m.hc).same s7).put e7,((fs5.upC u6 m5.m.hc).same s7).put e7⟩
   ·rintro σ H5 ⟨tv5,o6,o7,o8,rfl,u5,e5,ft5,d5,fr5,fs5⟩
    have huu:uu.length=(ixP (decide (o="up")) e.2.length cs.length).length:=by have:=ftd.len;rw[List.length_map] at this;exact this
    rw[huu,List.take_length,← hstep] at u5 ft5
    exact ⟨tv5,_,_,_,_,_,rfl,u5,mo.upC u5,tx.upC okt mo.m.hc u5,u5.st _ _ nOC hO,e5,ft5⟩
  ·rintro σ H2 ⟨tv,o4,o5,o6,o7,o8,rfl,u2,m2,tx2,hO2,e2,ft2⟩
   rw[hwl] at u2 ft2
   exact ⟨_,rfl,k D tv H2 u2 hD nDC e2 ft2⟩
end
def ylf (T:List Elm) (x:List V):Prop:=∃ (i p:Nat) (a b:Int) (e:Elm) (s:Stp),x=[.int i,.int a,.int p,.int b]∧T[i]?=some e∧e.2[p]?=some s
theorem qdc (hs:List Hm) {n:Nat}{T:List Elm} (os:List Str) (cs:List Int):∀ k,k≤T.length→∀ x∈(runR hs n T os ([],cs) k).1,ylf T x
 | 0,_,x,h=>by simp[runR] at h
 | k+1,hk,x,h=>by
  have ih:=qdc hs (n:=n) (T:=T) os cs k (by omega)
  obtain ⟨e,he⟩:∃ e,T[k]?=some e:=⟨T[k],List.getElem?_eq_getElem _⟩
  rw[ybp] at h
  unfold yhl elR at h
  rw[show T.getD k ("",[])=e by rw[List.getD_eq_getElem?_getD,he];rfl] at h
  have go:∀ (l:List (Int×Nat)) (st:RS),(∀ y∈l,y.2<e.2.length)→(∀ y∈st.1,ylf T y)→∀ y∈(l.foldl (qaq hs e.2 k) st).1,ylf T y:=by
   intro l
   induction l with
   | nil=>intro st _ h y hy;exact h y hy
   | cons z l ih=>
    intro st hl h y hy
    rw[List.foldl_cons] at hy
    refine ih _ (fun y hy=>hl y (List.mem_cons_of_mem _ hy)) ?_ y hy
    intro y hy
    unfold qaq at hy
    split at hy
    ·exact h y hy
    ·rcases List.mem_append.mp hy with hy|hy
     ·exact h y hy
     ·rw[List.mem_singleton.mp hy]
      have:=hl z (List.mem_cons_self ..)
      exact ⟨k,z.2,z.1,_,e,e.2[z.2],rfl,he,List.getElem?_eq_getElem _⟩
  exact go _ _ (fun y hy=>(ylz hy).2.2) ih x h
def bitR (x:List V):V:=x.getD 3 .non
section
variable {P:Program}{w:World}{K:PySem.W.Frag}{mg:Str→Option Value}{base:Heap}{C:Addr}
def yd7:Sp:=fun vs H Q _=>∃ (t L0 C0 O:Addr) (T:List Elm) (os:List Str) (us:List V) (hs:List Hm) (S cs:List Int),vs=[.ref t,.int (cs.length:Nat),.ref L0,.ref C0,.ref O]∧At H (.ref t) (qcs T)∧okT T∧H L0=some (.lst us)∧HsV H us hs∧okHs hs S∧InR hs cs.length∧H C0=some (.lst (cs.map V.int))∧bits cs∧1≤cs.length∧cs.length≤64∧H O=some (.lst (os.map V.str))∧OrdOk T os∧
 ∀ (D:Addr) (tv:List V) (H':Hp),Same H H'→H D=none→H' D=some (.lst tv)→FT H' tv (runR hs cs.length T os ([],yan hs cs) T.length).1→Q (.ref D) H'
abbrev ydv:Stmt:=top 68
theorem qfy:FnScope ["test","size","harms","contents","orders","memory"] ["test","size","harms","contents","orders"] (qad ydv):=⟨rfl,rfl,rfl,by decide +kernel,rfl,by decide +kernel,by decide +kernel⟩
theorem yjd (B:Bl mg) (qcl:Has P w K mg base 5 "look_at_test" ["thing"] qb9) (yfu:HasI P w K mg base C 9 "Memory" ["self","size","harms","contents"] (qh0 C)) (yfh:Has P w K mg base 4 "look_at_orders" ["test","thing"] qco) (qjc:Has P w K mg base 7 "all_reads" ["test","memory","orders"] (ye5 C)) (F:FnAt K mg "reads_of" ydv ["test","size","harms","contents","orders"]):Has P w K mg base 11 "reads_of" ["test","size","harms","contents","orders"] yd7:=by
 refine Has.ofQ F qfy (fun vs H Q E h=>?_) (fun f cdv A outer s H vs Q E hr h=>?_)
 ·obtain ⟨t,L0,C0,O,T,os,us,hs,S,cs,rfl,_⟩:=h
  rfl
 ·obtain ⟨t,L0,C0,O,T,os,us,hs,S,cs,rfl,ht,okt,hL,hv,ok,ir,hC0,hb,h1,hn,hO,oo,k⟩:=h
  have sc:=qfy
  refine ⟨_,(qaz rfl (yaf (yb3 (qao qcl hr (yal (yac (pv 0)) qal)))
   (yaf (qat (i:=5) sc.nd rfl (Or.inl rfl) (qe_makeH yfu hr (yal (yac (pv 1)) (yal (yac (pv 2)) (yal (yac (pv 3)) qal)))))
   (yaf (yb3 (qao yfh hr (yal (yac (pv 0)) (yal (yac (pv 4)) qal))))
   (yak (qay (qao qjc hr (yal (yac (pv 0)) (yal (yac (pv 5)) (yal (yac (pv 4)) qal)))))))))),?_⟩
  refine ⟨_,rfl,_,T,rfl,ht,okt,fun H1 s1=>?_⟩
  refine ⟨_,rfl,_,rfl,_,rfl,?_⟩
  intro x dx nx ndx nxd
  have sD:=((Same.refl H1).upd (o:=.own x) ndx).upd (o:=.ins C dx []) (p:=x) (by rw[yaj (fun z=>nxd z.symm)];exact nx)
  have fD:upd (upd H1 dx (.own x)) x (.ins C dx []) x=some (.ins C dx []):=yaa
  revert sD fD
  generalize upd (upd H1 dx (.own x)) x (.ins C dx [])=HD
  intro sD fD
  have s1D:=s1.trans sD
  refine ⟨x,dx,L0,C0,us,hs,S,cs,rfl,fD,s1D _ _ hL,hv.same s1D,ok,ir,s1D _ _ hC0,hb,h1,hn,fun L Cc HE stE nL nCc mo=>⟨rfl,?_⟩⟩
  have sE:Same H HE:=fun b u e=>stE b u (fun z=>by subst z;have:=s1 _ _ e;rw[nx] at this;cases this) (s1D _ _ e)
  refine ⟨_,rfl,_,rfl,t,O,T,os,rfl,ht.same sE,okt,sE _ _ hO,oo,fun H3 s3=>?_⟩
  have s03:=sE.trans s3
  have nC:H Cc=none:=s1D.free nCc
  have hsl:=yd6 hs cs
  refine ⟨_,rfl,_,rfl,_,rfl,t,x,O,L,Cc,T,os,us,hs,yan hs cs,rfl,ht.same s03,okt,mo.same s3,by rw[hsl];exact ir,by rw[hsl];exact hn,s03 _ _ hO,oo,fun D tv H4 u4 hD nDC e4 ft4=>?_⟩
  rw[hsl] at ft4
  exact k D tv H4 (fun b u e=>u4.st _ _ (yae e nC) (s03 _ _ e)) (s03.free hD) e4 ft4
end
def stpR (T:List Elm) (x:List V):Stp:=match x with
 | [.int i,_,.int p,_]=>(T.getD i.toNat ("",[])).2.getD p.toNat (false,false)
 | _=>(false,false)
def badR (T:List Elm) (x:List V):Bool:=!decide (bitR x=.int (b2i (stpR T x).2))
def ShV (H:Hp) (v:V):Option (List V)→Prop
 | none=>v=.non
 | some x=>∃ a,v=.ref a∧H a=some (.tup (x.take 3))
theorem TestAt.step {H:Hp}{t:Addr}{ws:List V}{T:List Elm} (x:TestAt H t ws T) {i p:Nat}{e:Elm}{s:Stp} (he:T[i]?=some e) (hs:e.2[p]?=some s) :
  ∃ (ea el sa:Addr) (sw:List V),ws[i]?=some (.ref ea)∧H ea=some (.tup [.str e.1,.ref el])∧H el=some (.lst sw)∧sw[p]?=some (.ref sa)∧H sa=some (.tup (qh5 s)):=by
 have hl:ws.length=T.length:=by have:=x.a.length;rw[List.length_map] at this;exact this
 have hi:=(List.getElem?_eq_some_iff.mp he).1
 have hx:ws[i]?=some ws[i]:=List.getElem?_eq_getElem _
 obtain ⟨d,hd,hat⟩:=x.a.get hx
 rw[List.getElem?_map,he] at hd
 cases hd
 obtain ⟨ea,el,sw,e1,h1,h2,h3⟩:=qdd hat
 have hswl:sw.length=e.2.length:=by have:=h3.length;rw[List.length_map] at this;exact this
 have hp:=(List.getElem?_eq_some_iff.mp hs).1
 have hy:sw[p]?=some sw[p]:=List.getElem?_eq_getElem _
 obtain ⟨sa,e2,h4⟩:=(qfn h3).at_ p _ (qh5 s) hy (by rw[List.getElem?_map,hs];rfl)
 exact ⟨ea,el,sa,sw,by rw[hx,e1],h1,h2,by rw[hy,e2],h4⟩
theorem yfj {T:List Elm}{j p:Nat}{a b:Int}{e:Elm}{sx:Stp} (he:T[j]?=some e) (hse:e.2[p]?=some sx):badR T [.int j,.int a,.int p,.int b]=!decide (b=b2i sx.2):=by
 have q1:T.getD j ("",[])=e:=by rw[List.getD_eq_getElem?_getD,he];rfl
 have q2:e.2.getD p (false,false)=sx:=by rw[List.getD_eq_getElem?_getD,hse];rfl
 have q3:stpR T [.int j,.int a,.int p,.int b]=sx:=by
  show (T.getD (j:Int).toNat ("",[])).2.getD (p:Int).toNat (false,false)=sx
  rw[Int.toNat_natCast,Int.toNat_natCast,q1,q2]
 unfold badR
 rw[q3]
 show (!decide (V.int b=V.int (b2i sx.2)))=_
 simp
section
variable {P:Program}{w:World}{K:PySem.W.Frag}{mg:Str→Option Value}{base:Heap}{C:Addr}
def yd0:Sp:=fun vs H Q _=>∃ (t L0 C0 O:Addr) (T:List Elm) (os:List Str) (us:List V) (hs:List Hm) (S cs:List Int),vs=[.ref t,.int (cs.length:Nat),.ref L0,.ref C0,.ref O]∧At H (.ref t) (qcs T)∧okT T∧H L0=some (.lst us)∧HsV H us hs∧okHs hs S∧InR hs cs.length∧H C0=some (.lst (cs.map V.int))∧bits cs∧1≤cs.length∧cs.length≤64∧H O=some (.lst (os.map V.str))∧OrdOk T os∧
 ∀ (v:V) (H':Hp),Same H H'→ShV H' v ((runR hs cs.length T os ([],yan hs cs) T.length).1.find? (badR T))→Q v H'
abbrev yb4:Stmt:=top 69
theorem qdy:FnScope ["test","size","harms","contents","orders","number","address","place","bit"] ["test","size","harms","contents","orders"] (qad yb4):=⟨rfl,rfl,rfl,by decide +kernel,rfl,by decide +kernel,by decide +kernel⟩
theorem qgk (yco:Has P w K mg base 11 "reads_of" ["test","size","harms","contents","orders"] yd7) (F:FnAt K mg "first_shown" yb4 ["test","size","harms","contents","orders"]):Has P w K mg base 12 "first_shown" ["test","size","harms","contents","orders"] yd0:=by
 refine Has.ofQ F qdy (fun vs H Q E h=>?_) (fun f cdv A outer s H vs Q E hr h=>?_)
 ·obtain ⟨t,L0,C0,O,T,os,us,hs,S,cs,rfl,_⟩:=h
  rfl
 ·obtain ⟨t,L0,C0,O,T,os,us,hs,S,cs,rfl,ht,okt,hL,hv,ok,ir,hC0,hb,h1,hn,hO,oo,k⟩:=h
  have sc:=qdy
  refine ⟨_,(qaz rfl (yaf (yd2 PassesOwn.never rfl (qi4 (qao yco hr (yal (yac (pv 0)) (yal (yac (pv 1)) (yal (yac (pv 2)) (yal (yac (pv 3)) (yal (yac (pv 4)) qal))))))) (ycc rfl (qan (qag (i:=5) sc.nd rfl (Or.inl rfl)) (qan (qag (i:=6) sc.nd rfl (Or.inl rfl)) (qan (qag (i:=7) sc.nd rfl (Or.inl rfl)) (qan (qag (i:=8) sc.nd rfl (Or.inl rfl)) qbh)))))
    (yak (yb7 (ycb yi0 (yac (pv 8)) (qbp qak (qbp qaj (qbp qak (qbp qaj (yac (pv 0)) (yac (pv 5)) (fun _ _=>rfl)) (yac qab) (fun _ _=>rfl)) (yac (pv 7)) (fun _ _=>rfl)) (yac qab) (fun _ _=>rfl)) (qai _))
     (yak (qay (qfd (yal (yac (pv 5)) (yal (yac (pv 6)) (yal (yac (pv 7)) qal))))))
     qa5)))
   (yak (qay (yac qe6))))),?_⟩
  obtain ⟨ws,tx⟩:=TestAt.of ht
  refine ⟨_,rfl,_,rfl,_,rfl,_,rfl,_,rfl,t,L0,C0,O,T,os,us,hs,S,cs,rfl,ht,okt,hL,hv,ok,ir,hC0,hb,h1,hn,hO,oo,fun D tv H1 s1 hD e1 ft=>?_⟩
  have hrw:=qdc hs (n:=cs.length) (T:=T) os (yan hs cs) T.length (Nat.le_refl _)
  revert k ft hrw
  generalize (runR hs cs.length T os ([],yan hs cs) T.length).1=R
  intro k ft hrw
  refine ⟨D,rfl,⟨_,SqL.of e1⟩,yay (xs:=tv) (fun i σ H2=>∃ (o5 o6 o7 o8:Option V),σ=[some (.ref t),some (.int (cs.length:Nat)),some (.ref L0),some (.ref C0),some (.ref O),o5,o6,o7,o8]∧Same H1 H2∧(R.take i).find? (badR T)=none)
   ⟨none,none,none,none,rfl,Same.refl H1,rfl⟩ (fun i σ H2 _ ⟨_,_,_,_,_,h,_⟩=>SqL.of (h _ _ e1)) ?_ ?_⟩
  ·rintro i x σ H2 hx ⟨o5,o6,o7,o8,rfl,s2,hnone⟩
   obtain ⟨row,ra,hrow,rfl,hra⟩:=ft.get hx
   obtain ⟨j,p,a,b,e,sx,rfl,he,hse⟩:=hrw row (List.mem_of_getElem? hrow)
   obtain ⟨f1,f2⟩:=ydl hnone hrow
   have s12:=s1.trans s2
   obtain ⟨ea,el,sa,sw,g1,g2,g3,g4,g5⟩:=(tx.same s12).step he hse
   refine ⟨ra,_,rfl,SqT.of (s2 _ _ hra),rfl,_,_,rfl,_,_,rfl,_,_,rfl,_,_,rfl,rfl,?_⟩
   have hbad:=yfj (a:=a) (b:=b) he hse
   refine ⟨_,rfl,_,rfl,_,rfl,t,_,_,_,rfl,rfl,SqL.of (tx.same s12).l,yck g1,ea,_,_,_,rfl,rfl,SqT.of g2,qac 1 rfl,_,rfl,el,_,_,_,rfl,rfl,SqL.of g3,yck g4,sa,_,_,_,rfl,rfl,SqT.of g5,qac 1 rfl,rfl,_,rfl,?_⟩
   by_cases hbe:b=b2i sx.2
   ·refine iteN (by simp[hbe]) ?_
    exact ⟨_,_,_,_,rfl,s2,f2 (by rw[hbad];simp[hbe])⟩
   ·refine iteB (by simp[hbe]) ?_
    refine ⟨_,rfl,_,rfl,_,rfl,(by show 3≤sizeLine;decide),fun q hq=>?_⟩
    refine k _ _ (s12.upd hq) ?_
    rw[f1 (by rw[hbad];simp[hbe])]
    exact ⟨q,rfl,yaa⟩
  ·rintro σ H2 ⟨o5,o6,o7,o8,rfl,s2,hnone⟩
   rw[ft.len,List.take_length] at hnone
   exact k _ _ (s1.trans s2) (by rw[hnone];rfl)
end
def rowP (k:Nat) (a:Int):List (Int×Nat):=(List.range k).map fun p=>(a,p)
def preP (up:Bool) (k n j:Nat):List (Int×Nat):=((yas up n).take j).flatMap (rowP k)
theorem qeo (up:Bool) (n:Nat):(yas up n).length=n:=by simp[yas]
theorem preP_all (up:Bool) (k n:Nat):preP up k n n=ixP up k n:=by
 unfold preP ixP
 rw[show (yas up n).take n=yas up n from List.take_of_length_le (by rw[qeo];exact Nat.le_refl _)]
 rfl
theorem ymd {up:Bool}{k n j:Nat}{a:Int} (h:(yas up n)[j]?=some a):preP up k n (j+1)=preP up k n j++rowP k a:=by
 unfold preP
 rw[List.take_add_one,h,List.flatMap_append]
 simp
theorem qkv {k p:Nat}{a:Int} (h:p<k):(rowP k a).take (p+1)=(rowP k a).take p++[(a,p)]:=by
 unfold rowP
 rw[List.take_add_one,List.getElem?_map,List.getElem?_range h]
 rfl
theorem yg7 (k:Nat) (a:Int):(rowP k a).length=k:=by simp[rowP]
theorem yih (k:Nat):∀ (l:List Int),(l.flatMap (rowP k)).length=l.length*k
 | []=>by simp
 | a::l=>by rw[List.flatMap_cons,List.length_append,yg7,yih k l,List.length_cons,Nat.succ_mul,Nat.add_comm]
theorem preP_len {up:Bool}{k n j:Nat} (hk:k≤6) (hn:n≤64):(preP up k n j).length≤384:=by
 unfold preP
 rw[yih]
 have:((yas up n).take j).length≤64:=by rw[List.length_take,qeo];omega
 exact Nat.mul_le_mul this hk
theorem nats_up (n:Nat):qde n=(yas true n).map V.int:=by
 unfold qde yas
 rw[List.map_map]
 rfl
theorem qks (n:Nat):(qde n).reverse=(yas false n).map V.int:=by
 unfold qde yas
 rw[List.map_map]
 apply List.ext_getElem
 ·simp
 ·intro i h1 h2
  rw[List.getElem_reverse]
  simp at h1 h2 ⊢
  omega
theorem nats_two (up:Bool) (n:Nat):(if up=true then qde n else (qde n).reverse)=(yas up n).map V.int:=by
 cases up with
 | true=>exact nats_up n
 | false=>exact qks n
structure RunI (H H':Hp) (C D:Addr) (hs:List Hm) (tv:List V) (st:RS):Prop where
 s:Same H H'
 c:H' C=some (.lst (st.2.map V.int))
 sk:St hs st.2
 d:H' D=some (.lst tv)
 ft:FT H' tv st.1
theorem RunI.same {H H' H2:Hp}{C D:Addr}{hs:List Hm}{tv:List V}{st:RS} (x:RunI H H' C D hs tv st) (s:Same H' H2):RunI H H2 C D hs tv st:=⟨x.s.trans s,s _ _ x.c,x.sk,s _ _ x.d,x.ft.same s⟩
theorem RunI.up {H H' H2:Hp}{C D:Addr}{hs:List Hm}{tv:List V}{st:RS}{ds:List Int} (x:RunI H H' C D hs tv st) (hC:H C=none) (nCD:C≠D) (u:UpC H' C ds H2) (hst:St hs ds):RunI H H2 C D hs tv (st.1,ds):=
 ⟨fun b o e=>u.st _ _ (yae e hC) (x.s _ _ e),u.at_,hst,u.st _ _ (fun z=>nCD z.symm) x.d,x.ft.upC u x.c⟩
theorem RunI.app {H H':Hp}{C D q:Addr}{hs:List Hm}{tv row:List V}{st:RS} (x:RunI H H' C D hs tv st) (hD:H D=none) (nCD:C≠D) (hq:H' q=some (.tup row)):RunI H (L2.upd H' D (.lst (tv++[.ref q]))) C D hs (tv++[.ref q]) (st.1++[row],st.2):=
 ⟨x.s.at hD,by rw[yaj nCD];exact x.c,x.sk,yaa,(x.ft.snoc hq).put x.d⟩
section
variable {P:Program}{w:World}{K:PySem.W.Frag}{mg:Str→Option Value}{base:Heap}{C:Addr}
def sp_run:Sp:=fun vs H Q _=>∃ (t L C0 O:Addr) (T:List Elm) (os:List Str) (us:List V) (hs:List Hm) (cs:List Int),vs=[.ref t,.int (cs.length:Nat),.ref L,.ref C0,.ref O]∧At H (.ref t) (qcs T)∧okT T∧Mem H L C0 us hs cs∧hs.length≤3∧InR hs cs.length∧cs.length≤64∧H O=some (.lst (os.map V.str))∧OrdOk T os∧
 ∀ (D:Addr) (tv:List V) (H':Hp),Same H H'→H D=none→H' D=some (.lst tv)→FT H' tv (runR hs cs.length T os ([],yan hs cs) T.length).1→Q (.ref D) H'
abbrev ydt:Stmt:=top 82
theorem yft:FnScope ["_law_test_here","_law_size","_law_harms_here","_law_contents","_law_orders_here","_law_held","_law_found","_law_number","_law_wanted","_law_steps","_law_address","_law_at","_law_step","_law_bit"] ["_law_test_here","_law_size","_law_harms_here","_law_contents","_law_orders_here"] (qad ydt):=⟨rfl,rfl,rfl,by decide +kernel,rfl,by decide +kernel,by decide +kernel⟩
theorem ok_run (B:Bl mg) (yez:Has P w K mg base 2 "_law_first_held" ["_law_harms_here","_law_contents"] qem) (qkg:Has P w K mg base 3 "_law_act" ["_law_harms_here","_law_held","_law_address","_law_step"] sp_act) (F:FnAt K mg "_law_run" ydt ["_law_test_here","_law_size","_law_harms_here","_law_contents","_law_orders_here"]):Has P w K mg base 4 "_law_run" ["_law_test_here","_law_size","_law_harms_here","_law_contents","_law_orders_here"] sp_run:=by
 refine Has.ofQ F yft (fun vs H Q E h=>?_) (fun f cdv A outer s H vs Q E hr h=>?_)
 ·obtain ⟨t,L,C0,O,T,os,us,hs,cs,rfl,_⟩:=h
  rfl
 ·obtain ⟨t,L,C0,O,T,os,us,hs,cs,rfl,ht,okt,mm,h3,ir,hn,hO,oo,k⟩:=h
  have sc:=yft
  refine ⟨_,(qaz rfl (yaf (qat (i:=5) sc.nd rfl (Or.inl rfl) (qao yez hr (yal (yac (pv 2)) (yal (yac (pv 3)) qal))))
   (yaf (qat (i:=6) sc.nd rfl (Or.inl rfl) (qdi qal))
   (yaf (yd2 PassesOwn.never rfl (yja (qcy rfl (B.of rfl) (qaa (pv 0) yab))) (ycc rfl (qan (qag (i:=7) sc.nd rfl (Or.inl rfl)) (qan (ycc rfl (qan (qag (i:=8) sc.nd rfl (Or.inl rfl)) (qan (qag (i:=9) sc.nd rfl (Or.inl rfl)) qbh))) qbh)))
    (yak (yd2 PassesOwn.never rfl (qi4 (yac (ymb (qe5 hr.hd rfl (B.of rfl) rfl (B.of rfl) (qaa (pv 1) yab)) (ya3 ye6 qab (ya3 yie qab (qbj qcp rfl (B.of rfl) boot_int (qaa (yav qax (qah qaj (pv 4) (pv 7) (fun _ _=>rfl)) qam (qai _)) yab))))))) (qag (i:=10) sc.nd rfl (Or.inl rfl))
     (yak (yd2 PassesOwn.never rfl (yja (qcy rfl (B.of rfl) (qaa (pv 9) yab))) (ycc rfl (qan (qag (i:=11) sc.nd rfl (Or.inl rfl)) (qan (qag (i:=12) sc.nd rfl (Or.inl rfl)) qbh)))
      (yaf (qat (i:=13) sc.nd rfl (Or.inl rfl) (qao qkg hr (yal (yac (pv 2)) (yal (yac (pv 5)) (yal (yac (pv 10)) (yal (yac (pv 12)) qal))))))
      (yak (yb7 (qt_of (qf0 (qja (pv 13))))
       (yak (yb3 (yac (yfg PySem.F.plainAttrs_list PySem.F.slot_list_append PySem.F.type_list_append ybh (pv 6) (qaa (qbf (qaw (pv 7) (qaw (pv 10) (qaw (pv 11) (qaw (pv 13) yab))))) yab)))))
       qa5))))))))
   (yak (qay (yac (pv 6)))))))),?_⟩
  obtain ⟨ws,tx⟩:=TestAt.of ht
  have hwl:ws.length=T.length:=by have:=tx.a.length;rw[List.length_map] at this;exact this
  have hT8:=okt.2.1
  have hsl:=yd6 hs cs
  refine ⟨_,rfl,_,rfl,L,C0,us,hs,cs,rfl,mm,h3,ir,hn,fun C H1 s1 hC e1=>?_⟩
  have hlen:=qdp hs okt hn os ([],yan hs cs)
  have hst0:St hs (yan hs cs):=St.settle mm.ok ir
  refine ⟨Nat.zero_le _,fun D hD=>?_⟩
  have nCD:C≠D:=yae e1 hD
  have nLC:L≠C:=yae mm.hl hC
  have hD0:H D=none:=s1.free hD
  have s2:=s1.upd (o:=.lst []) hD
  have f2:upd H1 D (.lst []) D=some (.lst []):=yaa
  have c2:upd H1 D (.lst []) C=some (.lst ((yan hs cs).map V.int)):=by rw[yaj nCD];exact e1
  revert s2 f2 c2
  generalize upd H1 D (.lst [])=H2
  intro s2 f2 c2
  refine ⟨_,rfl,t,_,rfl,SqL.of (tx.same s2).l,qb5 (xs:=ws) (fun i σ H3=>∃ (tv:List V) (o7 o8 o9 o10 o11 o12 o13:Option V),σ=[some (.ref t),some (.int (cs.length:Nat)),some (.ref L),some (.ref C0),some (.ref O),some (.ref C),some (.ref D),o7,o8,o9,o10,o11,o12,o13]∧Same H H3∧H3 C=some (.lst ((runR hs cs.length T os ([],yan hs cs) i).2.map V.int))∧St hs (runR hs cs.length T os ([],yan hs cs) i).2∧H3 D=some (.lst tv)∧FT H3 tv (runR hs cs.length T os ([],yan hs cs) i).1)
   ⟨[],none,none,none,none,none,none,none,rfl,s2,c2,hst0,f2,FT.nil⟩ (fun i σ H3 _ ⟨_,_,_,_,_,_,_,_,_,h,_⟩=>SqL.of (h _ _ tx.l)) ?_ ?_⟩
  ·rintro i x pp σ H3 hx ⟨tv,o7,o8,o9,o10,o11,o12,o13,rfl,s3,c3,st3,d3,ft3⟩ hpp
   obtain ⟨d,hd,hat⟩:=tx.a.get hx
   obtain ⟨e,he,rfl⟩:=qa7 hd
   have hiT:=(List.getElem?_eq_some_iff.mp he).1
   obtain ⟨ea,el,sw,rfl,hea,hel,hsw⟩:=qdd hat
   have oke:=okt.2.2 e (List.mem_of_getElem? he)
   have hswl:sw.length=e.2.length:=by have:=hsw.length;rw[List.length_map] at this;exact this
   obtain ⟨o,ho⟩:∃ o,os[i]?=some o:=⟨os[i]'(by rw[oo.len];exact hiT),List.getElem?_eq_getElem _⟩
   obtain ⟨ou,_⟩:=oo.at_ i e o he ho
   have hgo:os.getD i "" = o:=by rw[List.getD_eq_getElem?_getD,ho];rfl
   have hge:(T.getD i ("",[]))=e:=by rw[List.getD_eq_getElem?_getD,he];rfl
   have hstep:runR hs cs.length T os ([],yan hs cs) (i+1)=(preP (decide (o="up")) e.2.length cs.length cs.length).foldl (qaq hs e.2 i) (runR hs cs.length T os ([],yan hs cs) i):=by
    rw[ybp,preP_all];unfold yhl elR;rw[hgo,hge]
   have hl2:=(hlen i).1
   have hlen2:=(hlen i).2
   have r3:RunI H H3 C D hs tv (runR hs cs.length T os ([],yan hs cs) i):=⟨s3,c3,st3,d3,ft3⟩
   revert hstep hl2 hlen2 r3
   generalize runR hs cs.length T os ([],yan hs cs) i=st0
   intro hstep hl2 hlen2 r3
   have r4:=r3.same ((Same.refl H3).upd (o:=.tup [V.int i,.ref ea]) hpp)
   have p4:upd H3 pp (.tup [V.int i,.ref ea]) pp=some (.tup [V.int i,.ref ea]):=yaa
   revert r4 p4
   generalize upd H3 pp (.tup [V.int i,.ref ea])=H4
   intro r4 p4
   refine ⟨pp,_,rfl,SqT.of p4,rfl,_,_,rfl,_,_,rfl,?_⟩
   refine ⟨ea,_,rfl,SqT.of (r4.s _ _ hea),rfl,_,_,rfl,_,_,rfl,rfl,rfl,?_⟩
   refine ⟨_,rfl,cs.length,rfl,by omega,fun A1 hA1=>?_⟩
   have r5:=r4.same ((Same.refl H4).upd (o:=.lst (qde cs.length)) hA1)
   have a5:upd H4 A1 (.lst (qde cs.length)) A1=some (.lst (qde cs.length)):=yaa
   revert r5 a5
   generalize upd H4 A1 (.lst (qde cs.length))=H5
   intro r5 a5
   refine ⟨_,rfl,_,rfl,O,_,_,_,rfl,rfl,SqL.of (r5.s _ _ hO),yck (by rw[List.getElem?_map,ho];rfl),rfl,?_⟩
   refine .inr ⟨_,rfl,_,_,rfl,rfl,.inl ⟨by decide,by decide⟩,_,_,rfl,rfl,A1,_,decide (o="up"),rfl,SqL.of a5,(by rcases ou with rfl|rfl<;>decide +kernel),fun AL hAL=>?_⟩
   rw[nats_two]
   have r6:=r5.same ((Same.refl H5).upd (o:=.lst ((yas (decide (o="up")) cs.length).map V.int)) hAL)
   have a6:upd H5 AL (.lst ((yas (decide (o="up")) cs.length).map V.int)) AL=some (.lst ((yas (decide (o="up")) cs.length).map V.int)):=yaa
   have nAC:AL≠C:=fun z=>by subst z;rw[r5.c] at hAL;cases hAL
   have nAD:AL≠D:=fun z=>by subst z;rw[r5.d] at hAL;cases hAL
   revert r6 a6
   generalize upd H5 AL (.lst ((yas (decide (o="up")) cs.length).map V.int))=H6
   intro r6 a6
   refine ⟨AL,rfl,⟨_,SqL.of a6⟩,yay (xs:=(yas (decide (o="up")) cs.length).map V.int) (fun j σ H7=>∃ (tv:List V) (o10 o11 o12 o13:Option V),σ=[some (.ref t),some (.int (cs.length:Nat)),some (.ref L),some (.ref C0),some (.ref O),some (.ref C),some (.ref D),some (.int i),some (.str e.1),some (.ref el),o10,o11,o12,o13]∧RunI H H7 C D hs tv ((preP (decide (o="up")) e.2.length cs.length j).foldl (qaq hs e.2 i) st0)∧H7 AL=some (.lst ((yas (decide (o="up")) cs.length).map V.int)))
    ⟨tv,o10,o11,o12,o13,rfl,r6,a6⟩ (fun j σ H7 _ ⟨_,_,_,_,_,_,_,h⟩=>SqL.of h) ?_ ?_⟩
   ·rintro j y σ H7 hy ⟨tv7,o10,o11,o12,o13,rfl,r7,a7⟩
    obtain ⟨ad,had,rfl⟩:=qa7 hy
    have hadr:0≤ad∧ad<cs.length:=by
     have hj:j<cs.length:=by have:=(List.getElem?_eq_some_iff.mp had).1;rw[qeo] at this;exact this
     rw[yfm _ _ hj] at had
     cases had
     split<;>omega
    refine ⟨_,rfl,el,_,rfl,SqL.of (r7.s _ _ hel),qb5 (xs:=sw) (fun p σ H8=>∃ (tv:List V) (o11 o12 o13:Option V),σ=[some (.ref t),some (.int (cs.length:Nat)),some (.ref L),some (.ref C0),some (.ref O),some (.ref C),some (.ref D),some (.int i),some (.str e.1),some (.ref el),some (.int ad),o11,o12,o13]∧RunI H H8 C D hs tv ((preP (decide (o="up")) e.2.length cs.length j++(rowP e.2.length ad).take p).foldl (qaq hs e.2 i) st0)∧H8 AL=some (.lst ((yas (decide (o="up")) cs.length).map V.int)))
     ⟨tv7,o11,o12,o13,rfl,by rw[List.take_zero,List.append_nil];exact r7,a7⟩ (fun p σ H8 _ ⟨_,_,_,_,_,r,_⟩=>SqL.of (r.s _ _ hel)) ?_ ?_⟩
    ·rintro p z qq σ H8 hz ⟨tv8,o11,o12,o13,rfl,r8,a8⟩ hqq
     have hp:p<e.2.length:=by have:=(List.getElem?_eq_some_iff.mp hz).1;omega
     obtain ⟨sx,hsx⟩:∃ s,e.2[p]?=some s:=⟨e.2[p],List.getElem?_eq_getElem _⟩
     obtain ⟨sa,rfl,hsa⟩:=(qfn hsw).at_ p z (qh5 sx) hz (by rw[List.getElem?_map,hsx];rfl)
     have hgs:e.2.getD p (false,false)=sx:=by rw[List.getD_eq_getElem?_getD,hsx];rfl
     have hnext:(preP (decide (o="up")) e.2.length cs.length j++(rowP e.2.length ad).take (p+1)).foldl (qaq hs e.2 i) st0=qaq hs e.2 i ((preP (decide (o="up")) e.2.length cs.length j++(rowP e.2.length ad).take p).foldl (qaq hs e.2 i) st0) (ad,p):=by
      rw[qkv hp,← List.append_assoc,List.foldl_append]
      rfl
     have hst:∀ st:RS,qaq hs e.2 i st (ad,p)=if sx.1=true then (st.1,writeAt hs st.2 ad (b2i sx.2)) else (st.1++[[.int i,.int ad,.int p,.int (readAt hs st.2 ad).1]],(readAt hs st.2 ad).2):=fun st=>by
      unfold Mh.qaq;dsimp only;rw[hgs]
     have hl8:((preP (decide (o="up")) e.2.length cs.length j++(rowP e.2.length ad).take p).foldl (qaq hs e.2 i) st0).2.length=cs.length∧((preP (decide (o="up")) e.2.length cs.length j++(rowP e.2.length ad).take p).foldl (qaq hs e.2 i) st0).1.length≤4000:=by
      obtain ⟨g1,g2⟩:=yep hs e.2 i (preP (decide (o="up")) e.2.length cs.length j++(rowP e.2.length ad).take p) st0
      refine ⟨by rw[g1,hl2];exact hsl,?_⟩
      have g3:=preP_len (up:=decide (o="up")) (j:=j) oke.2.2 hn
      have g4:((rowP e.2.length ad).take p).length≤6:=by have:=oke.2.2;rw[List.length_take,yg7];omega
      rw[List.length_append] at g2
      simp only[List.length_nil] at hlen2
      omega
     rw[hst] at hnext
     have r9:=r8.same ((Same.refl H8).upd (o:=.tup [V.int p,.ref sa]) hqq)
     have a9:upd H8 qq (.tup [V.int p,.ref sa]) AL=some (.lst ((yas (decide (o="up")) cs.length).map V.int)):=by rw[yaj (yae a8 hqq)];exact a8
     have q9:upd H8 qq (.tup [V.int p,.ref sa]) qq=some (.tup [V.int p,.ref sa]):=yaa
     revert r9 a9 q9 hnext hl8
     generalize upd H8 qq (.tup [V.int p,.ref sa])=H9
     generalize (preP (decide (o="up")) e.2.length cs.length j++(rowP e.2.length ad).take p).foldl (qaq hs e.2 i) st0=st8
     intro hnext hl8 r9 a9 q9
     obtain ⟨l8,l8'⟩:=hl8
     refine ⟨qq,_,rfl,SqT.of q9,rfl,_,_,rfl,_,_,rfl,rfl,?_⟩
     have hsa9:=r9.s _ _ hsa
     unfold qh5 at hsa9
     have m9:Mem H9 L C us hs st8.2:=⟨nLC,r9.s _ _ mm.hl,mm.hv.same r9.s,mm.ok,r9.c⟩
     have ir9:InR hs st8.2.length:=by rw[l8];exact ir
     have had1:ad<(st8.2.length:Int):=by rw[l8];exact hadr.2
     refine ⟨_,rfl,_,rfl,_,rfl,_,rfl,L,C,us,hs,st8.2,ad,sa,rfl,m9,r9.sk,ir9,h3,hadr.1,had1,?_⟩
     cases hw:sx.1 with
     | true=>
      rw[hw] at hsa9
      rw[hw,if_pos rfl] at hnext
      refine .inl ⟨b2i sx.2,hsa9,fun H10 u10=>?_⟩
      have r10:=r9.up hC nCD u10 (r9.sk.writeAt mm.ok ir9 _ hadr.1 had1)
      refine ⟨_,rfl,_,rfl,iteN rfl ?_⟩
      refine ⟨tv8,_,_,_,rfl,?_,u10.st _ _ nAC a9⟩
      rw[hnext]
      exact r10
     | false=>
      rw[hw] at hsa9
      rw[hw,if_neg (by simp)] at hnext
      refine .inr ⟨_,hsa9,fun H10 u10=>?_⟩
      have r10:=r9.up hC nCD u10 (r9.sk.readAt mm.ok ir9 hadr.1 had1)
      have a10:=u10.st _ _ nAC a9
      refine ⟨_,rfl,_,rfl,iteB rfl ?_⟩
      refine ⟨_,rfl,.inl ⟨rfl,_,SqL.of r10.d⟩,_,rfl,_,rfl,_,rfl,_,rfl,(by show 4≤sizeLine;decide),fun q hq=>?_⟩
      have r11:=r10.same ((Same.refl H10).upd (o:=.tup [V.int i,.int ad,.int p,.int (readAt hs st8.2 ad).1]) hq)
      have a11:upd H10 q (.tup [V.int i,.int ad,.int p,.int (readAt hs st8.2 ad).1]) AL=some (.lst ((yas (decide (o="up")) cs.length).map V.int)):=by rw[yaj (yae a10 hq)];exact a10
      have q11:upd H10 q (.tup [V.int i,.int ad,.int p,.int (readAt hs st8.2 ad).1]) q=some (.tup [V.int i,.int ad,.int p,.int (readAt hs st8.2 ad).1]):=yaa
      revert r11 a11 q11
      generalize upd H10 q (.tup [V.int i,.int ad,.int p,.int (readAt hs st8.2 ad).1])=H11
      intro r11 a11 q11
      have l11:=r11.ft.len
      refine ⟨D,tv8,_,rfl,rfl,r11.d,ya9 (by dsimp only at l11;omega),?_⟩
      refine ⟨tv8++[.ref q],_,_,_,rfl,?_,by rw[yaj nAD];exact a11⟩
      rw[hnext]
      exact r11.app hD0 nCD q11
    ·rintro σ H8 ⟨tv8,o11,o12,o13,rfl,r8,a8⟩
     rw[hswl,List.take_of_length_le (by rw[yg7];exact Nat.le_refl _),← ymd had] at r8
     exact ⟨tv8,_,_,_,_,rfl,r8,a8⟩
   ·rintro σ H7 ⟨tv7,o10,o11,o12,o13,rfl,r7,a7⟩
    rw[List.length_map,qeo,← hstep] at r7
    exact ⟨tv7,_,_,_,_,_,_,_,rfl,r7.s,r7.c,r7.sk,r7.d,r7.ft⟩
  ·rintro σ H3 ⟨tv,o7,o8,o9,o10,o11,o12,o13,rfl,s3,c3,st3,d3,ft3⟩
   rw[hwl] at ft3
   exact ⟨_,rfl,k D tv H3 s3 hD0 d3 ft3⟩
end
section
variable {P:Program}{w:World}{K:PySem.W.Frag}{mg:Str→Option Value}{base:Heap}{C:Addr}
def qh8:Sp:=fun vs H Q _=>∃ (v:V) (T:List Elm) (c:Int),vs=[v,.int c]∧At H v (qcs T)∧okT T∧
 ∀ (p:Addr) (os:List Str) (H':Hp),Same H H'→H p=none→H' p=some (.lst (os.map V.str))→OrdOk T os→Q (.ref p) H'
abbrev yb6:Stmt:=top 74
theorem qd1:FnScope ["_law_test_here","_law_cell","_law_d"] ["_law_test_here","_law_cell"] (qad yb6):=⟨rfl,rfl,rfl,by decide +kernel,rfl,by decide +kernel,by decide +kernel⟩
theorem yk6 (B:Bl mg) (qa6:Has P w K mg base 1 "_law_digits" ["_law_cell","_law_turn","_law_sizes"] ydm) (F:FnAt K mg "_law_orders" yb6 ["_law_test_here","_law_cell"]):Has P w K mg base 2 "_law_orders" ["_law_test_here","_law_cell"] qh8:=by
 refine Has.of F qd1 (fun vs H Q E h=>?_) (fun f cdv A outer s H vs Q E hr h=>?_)
 ·obtain ⟨v,T,c,rfl,_⟩:=h
  rfl
 ·obtain ⟨v,T,c,rfl,hv,hT,k⟩:=h
  obtain ⟨l,ws,rfl,hl,hw⟩:=hv.lstEq
  have hlen:=hw.length
  rw[List.length_map] at hlen
  have hT8:=hT.2.1
  have sc:=qd1
  refine ⟨_,(qae (yaw (i:=2) sc.nd rfl (Or.inr rfl) (qaf qa6 hr (qaa (pv 1) (qaa qab (qaa (ya3 qjv (qau (qaa qab yab)) qab) yab)))))
   (yad (yao (qca rfl (qas rfl) (M:=["_law_k","_law_d","_law_test_here"]) (ix:=[none,some 2,some 0]) (yb8 rfl (B.of rfl) (qaa (yai yag rfl (B.of rfl) boot_len (qaa (pv 0) yab)) yab)) (fun _ _ _ _=>(qag (i:=0) (show List.Nodup (["_law_k","_law_d","_law_test_here"]:List Str) by decide +kernel) rfl (Or.inl rfl))) (fun _ _ _ _=>qcv) (fun _ _ _ _=>(yc5 (yah qax (qah (ya7 (K:=K) rfl) (qah (ycy (K:=K) rfl) (pv 2) (pv 0) (fun _ _=>rfl)) qab (fun _ _=>rfl)) qam (qai _)) (qah (ycy (K:=K) rfl) (qau (qaa qam (qaa qam yab))) (qah (ycy (K:=K) rfl) (pv 1) (pv 0) (fun _ _=>rfl)) (fun _ _=>rfl)) (qah (ya7 (K:=K) rfl) (qah (ycy (K:=K) rfl) (pv 2) (pv 0) (fun _ _=>rfl)) qab (fun _ _=>rfl)))))))),?_⟩
  refine ⟨_,rfl,(by show 1≤sizeLine;decide),fun a1 h1=>⟨a1,8,_,rfl,rfl,yaa,by decide,by decide,(by show 1*8≤sizeLine;decide),fun a2 h2=>?_⟩⟩
  generalize hB:upd (upd H a1 (.lst [.int 2])) a2 (.lst (List.replicate (8:Int).toNat [V.int 2]).flatten)=HB
  have sB:Same H HB:=by rw[← hB];exact ((Same.refl H).upd h1).upd h2
  have hB4:HB a2=some (.lst (([2,2,2,2,2,2,2,2]:List Int).map V.int)):=by rw[← hB];exact yaa
  refine ⟨c,61,a2,[2,2,2,2,2,2,2,2],rfl,hB4,by decide,by decide,by decide,by decide,fun dd ds HC sC nC hC hD=>?_⟩
  have sHC:Same H HC:=sB.trans sC
  refine ⟨_,rfl,l,ws,rfl,.inl (SqL.of (sHC _ _ hl)),_,rfl,by omega,by omega,fun D hD0=>?_⟩
  refine qba (n:=ws.length) (fun i H'=>∃ os:List Str,Same HC H'∧H' D=some (.lst (os.map V.str))∧os.length=i∧∀ (j:Nat) e o,T[j]?=some e→os[j]?=some o→okU o∧(e.1="any"∨e.1=o)) ⟨[],(Same.refl HC).upd hD0,yaa,rfl,fun j e o _ h=>by simp at h⟩ ?_ ?_
  ·rintro H' ⟨os,s1,e1,e2,e3⟩
   exact ⟨by show ((ws.length:Int)).toNat≤ws.length;omega,k D os H' (sHC.trans s1) (sHC.free hD0) e1 ⟨by omega,e3⟩⟩
  ·rintro i H' hi ⟨os,s1,e1,e2,e3⟩
   refine ⟨by show i<((ws.length:Int)).toNat;omega,?_⟩
   rintro x H2 ⟨rfl,rfl⟩
   have hwi:ws[i]?=some ws[i]:=by simp[hi]
   obtain ⟨d,hd,hat⟩:=hw.get hwi
   obtain ⟨e,he,hde⟩:=qa7 hd
   rw[hde] at hat
   obtain ⟨a,b,zs,hxe,ha,hb,hz⟩:=qdd hat
   rw[hxe] at hwi
   have sH2:Same H H2:=sHC.trans s1
   obtain ⟨di,gi,gi0,gi1⟩:=hD.get (i:=i) (z:=2) (by
    have:i<8:=by omega
    rcases i with _|_|_|_|_|_|_|_|i<;>first|rfl|omega)
   refine ⟨yau.set (yau.refl _) rfl,?_⟩
   refine yes ?_
   have eix:atI ws (0+(i:Int))=some (.ref a):=by rw[Int.zero_add];exact yck hwi
   refine ⟨_,rfl,_,rfl,l,ws,_,_,rfl,rfl,SqL.of (sH2 _ _ hl),eix,a,_,_,_,rfl,rfl,SqT.of (sH2 _ _ ha),rfl,rfl,_,rfl,?_⟩
   rw[dS]
   have snoc:∀ o:Str,okU o→(e.1="any"∨e.1=o)→∀ (j:Nat) e' o',T[j]?=some e'→(os++[o])[j]?=some o'→okU o'∧(e'.1="any"∨e'.1=o'):=fun o h1 h2 j e' o' hj ho'=>by
    by_cases hlt:j<os.length
    ·rw[List.getElem?_append_left hlt] at ho'
     exact e3 j e' o' hj ho'
    ·rw[List.getElem?_append_right (by omega)] at ho'
     have hj0:j-os.length=0:=by
      cases q:j-os.length with
      | zero=>rfl
      | succ n=>rw[q] at ho';simp at ho'
     rw[hj0] at ho'
     have e4:o=o':=by simpa using ho'
     have e5:j=i:=by omega
     subst e4 e5
     rw[he] at hj
     cases hj
     exact ⟨h1,h2⟩
   have oke:=(hT.2.2 e (List.mem_of_getElem? he)).1
   by_cases hany:e.1="any"
   ·refine iteD hany ?_
    refine ⟨(by show 2≤sizeLine;decide),fun r hr=>?_⟩
    have hdr:upd H2 r (.lst [.str "up",.str "down"]) dd=some (.lst (ds.map V.int)):=by rw[yaj (yae (s1 _ _ hC) hr)];exact s1 _ _ hC
    have eid:atI (ds.map V.int) (0+(i:Int))=some (.int di):=by rw[Int.zero_add];exact yck (qby gi)
    have two:∃ o:Str,okU o∧atI [V.str "up",.str "down"] di=some (.str o):=by
     have h:di=0∨di=1:=by omega
     rcases h with rfl|rfl
     ·exact ⟨_,.inl rfl,rfl⟩
     ·exact ⟨_,.inr rfl,rfl⟩
    obtain ⟨o,hou,ho⟩:=two
    refine ⟨_,rfl,_,rfl,dd,_,_,_,rfl,rfl,SqL.of hdr,eid,r,_,_,_,rfl,rfl,SqL.of yaa,ho,?_⟩
    refine ⟨os.map V.str,by rw[yaj (yae e1 hr)];exact e1,ya9 (by rw[List.length_map];omega),os++[o],((s1.upd hr).at hD0),by rw[List.map_append];exact yaa,by simp[e2],snoc o hou (.inl hany)⟩
   ·refine qa0 hany ?_
    refine ⟨_,rfl,_,rfl,l,ws,_,_,rfl,rfl,SqL.of (sH2 _ _ hl),eix,a,_,_,_,rfl,rfl,SqT.of (sH2 _ _ ha),rfl,?_⟩
    exact ⟨os.map V.str,e1,ya9 (by rw[List.length_map];omega),os++[e.1],s1.at hD0,by rw[List.map_append];exact yaa,by simp[e2],snoc e.1 (by rcases oke with h|h|h;exact .inl h;exact .inr h;exact absurd h hany) (.inr rfl)⟩
end
def rnH (f:Int→Int) (h:Hm):Hm:={ h with c:=h.c.map f }
def Nms (kvs:List (Key×V)) (f:Int→Int) (c:Int):Prop:=valV kvs (.inl c)=some (.int (f c))
section
variable {P:Program}{w:World}{K:PySem.W.Frag}{mg:Str→Option Value}{base:Heap}
def ygn:Sp:=fun vs H Q _=>∃ v h ns d kvs f,vs=[v,.ref d]∧HAt H v h∧okH h ns∧H d=some (.dK kvs)∧(∀ c∈h.c,Nms kvs f c)∧∀ a H',Same H H'→H a=none→H' a=some (.tup (hV (rnH f h)))→Q (.ref a) H'
abbrev qeg:Stmt:=top 39
theorem ygp:FnScope ["harm","names","parts","name","part"] ["harm","names"] (qad qeg):=⟨rfl,rfl,rfl,by decide +kernel,rfl,by decide +kernel,by decide +kernel⟩
theorem ykn (B:Bl mg) (qd7:mg "zip" = none) {aP:Addr} (gP:mg "PARTS" = some (.ref aP)) (TP:TabK K aP tabP) (F:FnAt K mg "renamed" qeg ["harm","names"]):Has P w K mg base 1 "renamed" ["harm","names"] ygn:=by
 refine Has.of F ygp (fun vs H Q E h=>?_) (fun f cdv A outer s H vs Q E hr h=>?_)
 ·obtain ⟨v,h,ns,d,kvs,f,rfl,_⟩:=h
  rfl
 ·obtain ⟨v,h,ns,d,kvs,f,rfl,⟨a,rfl,ha⟩,ok,hd,hn,k⟩:=h
  have sc:=ygp
  refine ⟨_,(qae (yaw (i:=2) sc.nd rfl (Or.inl rfl) (qau (qaa (qah qak (pv 0) qab (fun _ _=>rfl)) yab)))
   (qae (qa8 PassesOwn.never rfl (yjy rfl qd7 (qaa (qah (qk6 (D:=tabP)) (qet (v:=.ref aP) rfl gP rfl) (qah qak (pv 0) qab (fun _ _=>rfl)) (fun _ _=>rfl)) (qaa (qbb qjp (pv 0) (yba qab) ycz) yab))) (ycc rfl (qan (qag (i:=3) sc.nd rfl (Or.inl rfl)) (qan (qag (i:=4) sc.nd rfl (Or.inl rfl)) qbh)))
    (yad (qav (yfg PySem.F.plainAttrs_list PySem.F.slot_list_append PySem.F.type_list_append ybh (pv 2) (qaa (yc5 (yah qax (pv 3) qam (qai _)) (yku (hu_of hr) (pv 1) (pv 4) (fun _ _=>rfl)) (pv 4)) yab)))))
   (yad (yao (qbj qhc rfl (B.of rfl) boot_tuple (qaa (pv 2) yab)))))),?_⟩
  have z1:1≤sizeLine:=by decide
  refine ⟨_,rfl,a,_,_,_,rfl,rfl,SqT.of ha,qac 0 rfl,z1,fun p hp=>?_⟩
  generalize hG1:upd H p _=H1
  have s1:Same H H1:=by rw[← hG1];exact (Same.refl H).upd hp
  have f1:H1 p=some (.lst [.str h.w]):=by rw[← hG1];exact yaa
  refine ⟨_,rfl,a,_,_,_,rfl,rfl,SqT.of (s1 _ _ ha),qac 0 rfl,aP,h.w,_,rfl,rfl,TP,ok.tab,fun pn hpn=>?_⟩
  refine ⟨_,rfl,_,rfl,a,_,rfl,SqT.of (s1 _ _ ha),qhj h,fun q hq=>?_⟩
  rw[yfp]
  generalize hG2:upd H1 q _=H2
  have s2:Same H1 H2:=by rw[← hG2];exact (Same.refl H1).upd hq
  have f2:H2 q=some (.tup (h.c.map V.int++h.r)):=by rw[← hG2];exact yaa
  have npq:q≠p:=fun z=>by subst z;rw[f1] at hq;cases hq
  refine ⟨true,true,pn,q,_,_,rfl,hpn _,SqT.of f2,?_⟩
  have hlen:((h.c.map f).map V.int++h.r).length=(qbs h.c.length ns).length:=by
   have:=ok.len
   simp only[List.length_append,List.length_map] at this ⊢
   exact this
  refine for_zip (K:=K) (ok.len.symm) (fun i σ H'=>∃ q3 q4:Option V,σ=[some (.ref a),some (.ref d),some (.ref p),q3,q4]∧Same H H'∧H' q=some (.tup (h.c.map V.int++h.r))∧H' p=some (.lst (.str h.w::((h.c.map f).map V.int++h.r).take i))) ⟨_,_,rfl,s1.trans s2,f2,s2 _ _ f1⟩ (fun i σ H' _ ⟨_,_,_,_,e,_⟩=>⟨hpn _,SqT.of e⟩) ?_ ?_
  ·rintro i x y pp σ H3 hx hy ⟨q3,q4,rfl,s3,e3,e4⟩ hpp
   refine ⟨pp,_,rfl,SqT.of yaa,rfl,?_⟩
   have s4:Same H3 (upd H3 pp (.tup [x,y])):=(Same.refl H3).upd hpp
   revert s4
   generalize upd H3 pp (.tup [x,y])=H4
   intro s4
   refine ⟨_,_,rfl,_,_,rfl,rfl,?_⟩
   have hil:i<(qbs h.c.length ns).length:=(List.getElem?_eq_some_iff.mp hx).1
   have hsz:(V.str h.w::((h.c.map f).map V.int++h.r).take i).length<64:=by
    have:=ok.cl
    have:=ok.rl
    have:=ok.rest.len
    simp
    omega
   have fin:∀ v,((h.c.map f).map V.int++h.r)[i]?=some v→∃ q3 q4:Option V,[some (V.ref a),some (V.ref d),some (V.ref p),some x,some y]=[some (.ref a),some (.ref d),some (.ref p),q3,q4]∧Same H (upd H4 p (.lst ((V.str h.w::((h.c.map f).map V.int++h.r).take i)++[v])))∧(upd H4 p (.lst ((V.str h.w::((h.c.map f).map V.int++h.r).take i)++[v]))) q=some (.tup (h.c.map V.int++h.r))∧(upd H4 p (.lst ((V.str h.w::((h.c.map f).map V.int++h.r).take i)++[v]))) p=some (.lst (.str h.w::((h.c.map f).map V.int++h.r).take (i+1))):=fun v hv=>
    ⟨_,_,rfl,(s3.trans s4).at hp,by rw[yaj npq];exact s4 _ _ e3,by rw[yaa,List.take_add_one,hv];rfl⟩
   refine ⟨_,rfl,.inl ⟨rfl,_,SqL.of (s4 _ _ e4)⟩,?_⟩
   rcases ok.cellAt hx hy with ⟨rfl,c,hc,rfl⟩|⟨hge,hh⟩
   ·refine ⟨_,rfl,rfl,_,rfl,iteB (by decide +kernel) ?_⟩
    have hcl:i<h.c.length:=(List.getElem?_eq_some_iff.mp hc).1
    refine ⟨_,rfl,_,rfl,d,.int (f c),rfl,?_,p,_,_,rfl,rfl,s4 _ _ e4,ya9 (by omega),fin (.int (f c)) ?_⟩
    ·have:=hn c (List.mem_of_getElem? hc)
     unfold Nms at this
     rw[← this]
     exact DGet.k (k:=.inl c) ((s3.trans s4) _ _ hd)
    ·rw[List.getElem?_append_left (by simpa using hcl),List.getElem?_map,List.getElem?_map,hc];rfl
   ·have hxn:∃ nm,x=.str nm∧nm≠"cell":=by
     rcases hh with ⟨rfl,_⟩|⟨rfl,_⟩
     ·exact ⟨_,rfl,by decide +kernel⟩
     ·exact ⟨_,rfl,by decide +kernel⟩
    obtain ⟨nm,rfl,hnm⟩:=hxn
    refine ⟨_,rfl,rfl,_,rfl,iteN (by simpa using hnm) ?_⟩
    refine ⟨_,rfl,p,_,_,rfl,rfl,s4 _ _ e4,ya9 (by omega),fin y ?_⟩
    rw[List.getElem?_append_right (by simpa using hge)] at hy ⊢
    simpa using hy
  ·rintro σ H3 ⟨q3,q4,rfl,s3,e3,e4⟩
   rw[← hlen,List.take_length] at e4
   exact ⟨_,rfl,p,_,rfl,.inl ⟨SqL.of e4,fun l hl=>k l _ (s3.upd hl) (s3.free hl) yaa⟩⟩
end
def ownC (hs:List Hm):List Int:=(uniq (allC hs)).mergeSort (fun a b=>decide (a≤b))
theorem yd9 (hs:List Hm):(ownC hs).Perm (uniq (allC hs)):=List.mergeSort_perm _ _
theorem yjk (hs:List Hm):(ownC hs).Pairwise (·≤·):=by
 have:=List.pairwise_mergeSort (le:=fun (a b:Int)=>decide (a≤b)) (fun a b c h1 h2=>by simp at h1 h2 ⊢;omega) (fun a b=>by simp;omega) (uniq (allC hs))
 exact this.imp fun h=>by simpa using h
theorem ylj {hs:List Hm}{ns:List Int} (h1:ns.Perm (uniq (allC hs))) (h2:ns.Pairwise (·≤·)):ns=ownC hs:=yhu (h1.trans (yd9 hs).symm) h2 (yjk hs)
theorem own_nd (hs:List Hm):(ownC hs).Nodup:=(yd9 hs).nodup_iff.mpr (yg0 _)
theorem yi6 {hs:List Hm}{h:Hm}{c:Int} (hh:h∈hs) (hc:c∈h.c):c∈ownC hs:=(yd9 hs).mem_iff.mpr ((qfl _ c).mpr (List.mem_flatMap.mpr ⟨h,hh,hc⟩))
theorem yjg {hs:List Hm}{S:List Int} (ok:okHs hs S):(ownC hs).length≤3:=by
 rw[(yd9 hs).length_eq]
 exact ok.few (l:=hs) (fun h hh=>hh)
def plF (own cl:List Int) (c:Int):Int:=cl.getD (own.idxOf c) 0
theorem HsV.upL {H:Hp}{us:List V}{hs:List Hm}{D:Addr}{xs:List V}{o:HO} (x:HsV H us hs) (hD:H D=some (.lst xs)):HsV (L2.upd H D o) us hs:=⟨x.len,fun i v h a b=>by
 obtain ⟨z,e,hz⟩:=x.at_ i v h a b
 exact ⟨z,e,by rw[yaj (fun q=>by subst q;rw[hD] at hz;cases hz)];exact hz⟩⟩
section
variable {P:Program}{w:World}{K:PySem.W.Frag}{mg:Str→Option Value}{base:Heap}
def yh2:Sp:=fun vs H Q _=>∃ L us hs S Cl cl,vs=[.ref L,.ref Cl]∧H L=some (.lst us)∧HsV H us hs∧okHs hs S∧H Cl=some (.lst ((cl:List Int).map V.int))∧(ownC hs).length≤cl.length∧cl.length≤64∧
 ∀ (D:Addr) (us':List V) (H':Hp),Same H H'→H D=none→H' D=some (.lst us')→HsV H' us' (hs.map (rnH (plF (ownC hs) cl)))→Q (.ref D) H'
abbrev yfo:Stmt:=top 40
theorem qh7:FnScope ["harms","cells","names"] ["harms","cells"] (qad yfo):=⟨rfl,rfl,rfl,by decide +kernel,rfl,by decide +kernel,by decide +kernel⟩
theorem qmc (B:Bl mg) (qd7:mg "zip" = none) (yby:Has P w K mg base 7 "cells_of" ["harms"] qcb) (yk0:Has P w K mg base 1 "renamed" ["harm","names"] ygn) (F:FnAt K mg "placed" yfo ["harms","cells"]):Has P w K mg base 8 "placed" ["harms","cells"] yh2:=by
 refine Has.ofQ F qh7 (fun vs H Q E h=>?_) (fun f cdv A outer s H vs Q E hr h=>?_)
 ·obtain ⟨L,us,hs,S,Cl,cl,rfl,_⟩:=h
  rfl
 ·obtain ⟨L,us,hs,S,Cl,cl,rfl,hL,hv,ok,hCl,hlen,hc64,k⟩:=h
  have sc:=qh7
  refine ⟨_,(qaz rfl (yaf (qat (i:=2) sc.nd rfl (Or.inr rfl) (yac (ykg rfl rfl (B.of rfl) rfl qd7 (qaa (qaf yby hr (qaa (pv 0) yab)) (qaa (pv 1) yab)))))
   (yak (qay (yac (qca rfl (qas rfl) (M:=["harm","names"]) (ix:=[none,some 2]) (qar (pv 0)) (fun _ _ _ _=>(qag (i:=0) (show List.Nodup (["harm","names"]:List Str) by decide +kernel) rfl (Or.inl rfl))) (fun _ _ _ _=>qcv) (fun _ _ _ _=>(qaf yk0 hr (qaa (pv 0) (qaa (pv 1) yab)))))))))),?_⟩
  have o3:=yjg ok
  have hcz:cl.length≤sizeLine:=Nat.le_of_lt (ya9 (by omega))
  refine ⟨_,rfl,L,us,hs,S,rfl,hL,hv,ok,fun D0 ns H1 s1 nD0 eD0 hp1 hp2=>?_⟩
  have:=ylj hp1 hp2
  subst this
  refine ⟨_,rfl,false,false,D0,Cl,(ownC hs).map Sum.inl,cl.map V.int,rfl,?_,SqL.of (s1 _ _ hCl),by rw[List.length_map];exact hcz,fun d hd=>?_⟩
  ·rw[List.map_map]
   exact SqL.of eD0
  generalize hG2:upd H1 d _=H2
  have s2:Same H1 H2:=by rw[← hG2];exact (Same.refl H1).upd hd
  have f2:H2 d=some (.dK (dzip ((ownC hs).map Sum.inl) (cl.map V.int) (min ((ownC hs).map (Sum.inl:Int→Key)).length (cl.map V.int).length))):=by rw[← hG2];exact yaa
  have s12:=s1.trans s2
  have hL2:=s12 _ _ hL
  have hv2:=hv.same s12
  have ndk:((ownC hs).map (Sum.inl:Int→Key)).Nodup:=List.Pairwise.map Sum.inl (fun a b h z=>h (Sum.inl.inj z)) (own_nd hs)
  have hNms:∀ h∈hs,∀ c∈h.c,Nms (dzip ((ownC hs).map Sum.inl) (cl.map V.int) (min ((ownC hs).map (Sum.inl:Int→Key)).length (cl.map V.int).length)) (plF (ownC hs) cl) c:=fun h hh c hc=>by
   have hm:=yi6 hh hc
   have hi:(ownC hs).idxOf c<(ownC hs).length:=List.idxOf_lt_length_iff.mpr hm
   have hg:(ownC hs)[(ownC hs).idxOf c]?=some c:=by rw[List.getElem?_eq_getElem hi,List.getElem_idxOf]
   refine yjn ndk _ (by simp;omega) (by simp;omega) ((ownC hs).idxOf c) _ _ (by simp;omega) (by rw[List.getElem?_map,hg];rfl) ?_
   rw[List.getElem?_map,List.getElem?_eq_getElem (by omega)]
   unfold plF
   rw[List.getD_eq_getElem?_getD,List.getElem?_eq_getElem (by omega)]
   rfl
  refine ⟨_,rfl,L,rfl,⟨_,SqL.of hL2⟩,fun D hD=>qba (n:=us.length) (fun i H'=>Same H2 H'∧∃ us',H' D=some (.lst us')∧HsV H' us' ((hs.take i).map (rnH (plF (ownC hs) cl)))) ⟨(Same.refl H2).upd hD,[],yaa,⟨rfl,fun i v h a b=>by simp at a⟩⟩ ?_ ?_⟩
  ·rintro H3 ⟨s3,us',e3,hv3⟩
   refine ⟨⟨_,SqL.of (s3 _ _ hL2),Nat.le_refl _⟩,?_⟩
   rw[hv.len,List.take_length] at hv3
   exact k D us' H3 (s12.trans s3) (s12.free hD) e3 hv3
  ·rintro i H3 hi ⟨s3,us',e3,hv3⟩
   refine ⟨⟨_,_,SqL.of (s3 _ _ hL2),List.getElem?_eq_getElem hi⟩,?_⟩
   rintro x H4 ⟨rfl,hx⟩
   have hx':=hx _ (SqL.of (s3 _ _ hL2))
   obtain ⟨g,hg,hat⟩:=hv2.get hx'
   have hgm:=List.mem_of_getElem? hg
   obtain ⟨nn,og⟩:=ok.ok g hgm
   refine ⟨yau.set (yau.refl _) rfl,yes ?_⟩
   refine ⟨_,rfl,_,rfl,x,g,nn,d,_,plF (ownC hs) cl,rfl,HAt.same s3 hat,og,s3 _ _ f2,hNms g hgm,fun a5 H5 s5 n5 e5=>?_⟩
   have hul:=hv3.len
   rw[List.length_map,List.length_take] at hul
   refine ⟨us',s5 _ _ e3,ya9 (by have:=ok.len;omega),(s3.trans s5).at hD,us'++[.ref a5],yaa,?_⟩
   rw[List.take_add_one,hg,List.map_append]
   exact ((hv3.same s5).snoc ⟨a5,rfl,e5⟩).upL (s5 _ _ e3)
end
theorem rn_congr {f g:Int→Int}{h:Hm} (e:∀ c∈h.c,f c=g c):rnH f h=rnH g h:=by
 unfold rnH
 rw[List.map_congr_left e]
theorem ylk {f g:Int→Int}{hs:List Hm} (e:∀ h∈hs,∀ c∈h.c,f c=g c):hs.map (rnH f)=hs.map (rnH g):=List.map_congr_left fun h hh=>rn_congr (e h hh)
def ixF (own:List Int) (c:Int):Int:=(own.idxOf c:Nat)
section
variable {P:Program}{w:World}{K:PySem.W.Frag}{mg:Str→Option Value}{base:Heap}
def qit:Sp:=fun vs H Q _=>∃ L us hs S,vs=[.ref L]∧H L=some (.lst us)∧HsV H us hs∧okHs hs S∧
 ∀ (D:Addr) (us':List V) (H':Hp),Same H H'→H D=none→H' D=some (.lst us')→HsV H' us' (hs.map (rnH (ixF (ownC hs))))→Q (.ref D) H'
abbrev yfk:Stmt:=top 41
theorem yhy:FnScope ["harms"] ["harms"] (qad yfk):=⟨rfl,rfl,rfl,by decide +kernel,rfl,by decide +kernel,by decide +kernel⟩
theorem ylr (B:Bl mg) (yby:Has P w K mg base 7 "cells_of" ["harms"] qcb) (h_placed:Has P w K mg base 8 "placed" ["harms","cells"] yh2) (F:FnAt K mg "little" yfk ["harms"]):Has P w K mg base 9 "little" ["harms"] qit:=by
 refine Has.ofQ F yhy (fun vs H Q E h=>?_) (fun f cdv A outer s H vs Q E hr h=>?_)
 ·obtain ⟨L,us,hs,S,rfl,_⟩:=h
  rfl
 ·obtain ⟨L,us,hs,S,rfl,hL,hv,ok,k⟩:=h
  have sc:=yhy
  refine ⟨_,(qaz rfl (yak (qay (qao h_placed hr (yal (yac (pv 0)) (qhy (yac (qe5 hr.hd rfl (B.of rfl) rfl (B.of rfl) (qaa (yai yag rfl (B.of rfl) boot_len (qaa (qaf yby hr (qaa (pv 0) yab)) yab)) yab))) qal)))))),?_⟩
  have o3:=yjg ok
  refine ⟨_,rfl,_,rfl,L,us,hs,S,rfl,hL,hv,ok,fun D0 ns H1 s1 nD0 eD0 hp1 hp2=>?_⟩
  have:=ylj hp1 hp2
  subst this
  refine ⟨D0,_,rfl,.inl (SqL.of eD0),(ownC hs).length,by rw[List.length_map],by omega,fun l hl=>?_⟩
  generalize hG2:upd H1 l _=H2
  have s2:Same H1 H2:=by rw[← hG2];exact (Same.refl H1).upd hl
  have f2:H2 l=some (.lst (((List.range (ownC hs).length).map Int.ofNat).map V.int)):=by
   rw[← hG2]
   refine yaa.trans ?_
   unfold qde
   rw[List.map_map]
   rfl
  have s12:=s1.trans s2
  refine ⟨L,us,hs,S,l,_,rfl,s12 _ _ hL,hv.same s12,ok,f2,by simp,by simp;omega,fun D us' H3 s3 nD eD hv3=>?_⟩
  refine k D us' H3 (s12.trans s3) (s12.free nD) eD ?_
  rw[← ylk (f:=plF (ownC hs) ((List.range (ownC hs).length).map Int.ofNat)) (g:=ixF (ownC hs)) fun h hh c hc=>?_]
  ·exact hv3
  ·have hi:(ownC hs).idxOf c<(ownC hs).length:=List.idxOf_lt_length_iff.mpr (yi6 hh hc)
   unfold plF ixF
   rw[List.getD_eq_getElem?_getD,List.getElem?_map,List.getElem?_range hi]
   rfl
end
end Mh
namespace Mh
open PySem L2 PyProof.Rows
def ybo (T:List Elm):List Stp:=T.flatMap (·.2)
theorem qhx:∀ {T:List Elm},(∀ e∈T,okE e)→(ybo T).length≤6*T.length
 | [],_=>by simp[ybo]
 | e::r,h=>by
  have h1:=(h e List.mem_cons_self).2.2
  have h2:=qhx (T:=r) fun x hx=>h x (List.mem_cons_of_mem _ hx)
  unfold ybo at h2 ⊢
  rw[List.flatMap_cons,List.length_append,List.length_cons]
  omega
theorem ye0 {T:List Elm}{i:Nat}{e:Elm} (h:T[i]?=some e):ybo (T.take (i+1))=ybo (T.take i)++e.2:=by
 obtain ⟨hi,he⟩:=List.getElem?_eq_some_iff.mp h
 subst he
 unfold ybo
 rw[List.take_add_one,List.flatMap_append]
 simp[hi]
def ybn:Option Bool→List Stp→Bool
 | _,[]=>true
 | _,(true,b)::r=>ybn (some b) r
 | k,(false,b)::r=>if k=some b then ybn k r else false
section
variable {P:Program}{w:World}{K:PySem.W.Frag}{mg:Str→Option Value}{base:Heap}
def qfw:Sp:=fun vs H Q _=>∃ v T,vs=[v]∧At H v (qcs T)∧okT T∧∀ a ws H',Same H H'→H' a=some (.lst ws)→AtAll H' ws ((ybo T).map qgn)→Q (.ref a) H'
abbrev qdt:Stmt:=top 23
theorem yf1:FnScope ["test","steps","element"] ["test"] (qad qdt):=⟨rfl,rfl,rfl,by decide +kernel,rfl,by decide +kernel,by decide +kernel⟩
theorem yjf (F:FnAt K mg "steps_of" qdt ["test"]):Has P w K mg base 1 "steps_of" ["test"] qfw:=by
 refine Has.of F yf1 (fun vs H Q E h=>?_) (fun f cdv A outer s H vs Q E hr h=>?_)
 ·obtain ⟨v,T,rfl,_⟩:=h
  rfl
 ·obtain ⟨v,T,rfl,hv,⟨h1,h2,h3⟩,k⟩:=h
  obtain ⟨l,ws,rfl,hl,hw⟩:=hv.lstEq
  have hlen:=hw.length
  rw[List.length_map] at hlen
  have sc:=yf1
  refine ⟨_,(qae (yaw (i:=1) sc.nd rfl (Or.inl rfl) (qau yab))
   (qae (qa8 PassesOwn.never rfl (qar (pv 0)) (qag (i:=2) sc.nd rfl (Or.inl rfl))
    (yad (qav (yfg PySem.F.plainAttrs_list PySem.F.slot_list_extend PySem.F.type_list_extend qgh (pv 1) (qaa (qah qak (pv 2) qab (fun _ _=>rfl)) yab)))))
   (yad (yao (pv 1))))),?_⟩
  refine ⟨Nat.zero_le _,fun p hp=>?_⟩
  refine ⟨_,rfl,l,rfl,⟨ws,SqL.of (by rw[yaj (yae hl hp)];exact hl)⟩,yay (xs:=ws) (fun i σ H2=>∃ q us,σ=[some (.ref l),some (.ref p),q]∧Same H H2∧H2 p=some (.lst us)∧AtAll H us ((ybo (T.take i)).map qgn))
   ⟨none,[],rfl,(Same.refl H).upd hp,yaa,.nil⟩ (fun i σ H2 _ ⟨_,_,_,s2,_⟩=>SqL.of (s2 _ _ hl)) ?_ ?_⟩
  ·rintro i x σ H2 hx ⟨q,us,rfl,s2,hp2,hus⟩
   obtain ⟨d,hd,hat⟩:=hw.get hx
   obtain ⟨e,he,rfl⟩:=qa7 hd
   obtain ⟨a,b,zs,rfl,ha,hb,hz⟩:=qdd hat
   have hok:=h3 e (List.mem_of_getElem? he)
   have hil:i<T.length:=(List.getElem?_eq_some_iff.mp he).1
   have l1:=hus.length
   have l2:=hz.length
   rw[List.length_map] at l1 l2
   have l3:(ybo (T.take i)).length≤6*(T.take i).length:=qhx fun y hy=>h3 y (List.mem_of_mem_take hy)
   rw[List.length_take] at l3
   have l4:=hok.2.2
   refine ⟨_,rfl,.inl ⟨rfl,_,SqL.of hp2⟩,_,rfl,a,_,_,_,rfl,rfl,SqT.of (s2 _ _ ha),rfl,p,b,us,zs,rfl,rfl,hp2,s2 _ _ hb,small48 (by omega),?_⟩
   refine ⟨_,_,rfl,s2.at hp,yaa,?_⟩
   rw[ye0 he,List.map_append]
   exact hus.append hz
  ·rintro σ H2 ⟨q,us,rfl,s2,hp2,hus⟩
   rw[hlen,List.take_length] at hus
   exact ⟨_,rfl,k p us H2 s2 hp2 (hus.same s2)⟩
def ygv:Sp:=fun vs H Q _=>∃ v T,vs=[v]∧At H v (qcs T)∧okT T∧∀ H',Same H H'→Q (.bl (ybn none (ybo T))) H'
abbrev qeb:Stmt:=top 24
theorem qgq:FnScope ["test","known","step"] ["test"] (qad qeb):=⟨rfl,rfl,rfl,by decide +kernel,rfl,by decide +kernel,by decide +kernel⟩
theorem yj1 (qcl:Has P w K mg base 5 "look_at_test" ["thing"] qb9) (yj5:Has P w K mg base 1 "steps_of" ["test"] qfw) (F:FnAt K mg "is_sure" qeb ["test"]):Has P w K mg base 6 "is_sure" ["test"] ygv:=by
 refine Has.of F qgq (fun vs H Q E h=>?_) (fun f cdv A outer s H vs Q E hr h=>?_)
 ·obtain ⟨v,T,rfl,_⟩:=h
  rfl
 ·obtain ⟨v,T,rfl,hv,hT,k⟩:=h
  have sc:=qgq
  refine ⟨_,(qae (qav (qaf qcl hr (qaa (pv 0) yab)))
   (qae (yaw (i:=1) sc.nd rfl (Or.inl rfl) qe6)
   (qae (qa8 PassesOwn.never rfl (qar (qaf yj5 hr (qaa (pv 0) yab))) (qag (i:=2) sc.nd rfl (Or.inl rfl))
    (yad (ya6 (yah qax (qah qak (pv 2) qab (fun _ _=>rfl)) qam (qai _))
     (yad (yaw (i:=1) sc.nd rfl (Or.inl rfl) (qah qak (pv 2) qab (fun _ _=>rfl))))
     (yad (ya6 (yah yi0 (qah qak (pv 2) qab (fun _ _=>rfl)) (pv 1) (qai _))
      (yad (yao ygm))
      qap)))))
   (yad (yao ygm))))),?_⟩
  refine ⟨_,rfl,v,T,rfl,hv,hT,fun H1 s1=>?_⟩
  refine ⟨_,rfl,v,T,rfl,hv.same s1,hT,fun a ws H2 s2 ha hw=>⟨a,rfl,⟨ws,SqL.of ha⟩,yay (xs:=ws) (fun i σ H3=>∃ kn q,σ=[some v,some (kv kn),q]∧Same H2 H3∧ybn none (ybo T)=ybn kn ((ybo T).drop i))
   ⟨none,none,rfl,Same.refl _,rfl⟩ (fun i σ H3 _ ⟨_,_,_,s3,_⟩=>SqL.of (s3 _ _ ha)) ?_ ?_⟩⟩
  ·rintro i x σ H3 hx ⟨kn,q,rfl,s3,hS⟩
   obtain ⟨d,hd,hat⟩:=hw.get hx
   obtain ⟨⟨sw,sb⟩,he,rfl⟩:=qa7 hd
   obtain ⟨b,rfl,hb⟩:=qjg (hat.same s3)
   have hdrop:(ybo T).drop i=(sw,sb)::(ybo T).drop (i+1):=by
    obtain ⟨hi,e⟩:=List.getElem?_eq_some_iff.mp he
    rw[List.drop_eq_getElem_cons hi,e]
   rw[hdrop] at hS
   have s4:Same H H3:=(s1.trans s2).trans s3
   refine ⟨_,rfl,b,_,_,_,rfl,rfl,SqT.of hb,rfl,rfl,_,rfl,?_⟩
   cases sw with
   | true=>
    refine iteB (show decide (V.str (qhe true)=V.str "w")=true by decide +kernel) ?_
    exact ⟨_,rfl,b,_,_,_,rfl,rfl,SqT.of hb,rfl,some sb,_,rfl,s3,hS⟩
   | false=>
    refine iteN (show decide (V.str (qhe false)=V.str "w")=false by decide +kernel) ?_
    refine ⟨_,rfl,b,_,_,_,rfl,rfl,SqT.of hb,rfl,_,rfl,(by cases kn<;>rfl),_,rfl,?_⟩
    by_cases hk:kn=some sb
    ·subst hk
     have e1:ybn none (ybo T)=ybn (some sb) ((ybo T).drop (i+1)):=by rw[hS];simp[ybn]
     refine iteN (by simp[kv]) ?_
     exact ⟨some sb,_,rfl,s3,e1⟩
    ·have e1:ybn none (ybo T)=false:=by rw[hS];simp[ybn,hk]
     refine iteB ?_ ?_
     ·cases kn with
      | none=>simp[kv]
      | some b2=>cases b2<;>cases sb<;>first|exact absurd rfl hk|decide +kernel
     ·rw[← e1]
      exact k H3 s4
  ·rintro σ H3 ⟨kn,q,rfl,s3,hS⟩
   have hl:=hw.length
   rw[List.length_map] at hl
   rw[hl,List.drop_length] at hS
   have:=k H3 ((s1.trans s2).trans s3)
   rw[hS] at this
   exact this
end
end Mh
namespace Mh
open PySem L2 PyProof.Rows Mx
theorem qcm {cs:List Int}{c b x:Int} (h0:0≤c) (h1:c<cs.length) (hx:0≤x):rd (cs.set c.toNat b) x=if x=c then b else rd cs x:=by
 unfold rd
 rw[List.getD_eq_getElem?_getD,List.getD_eq_getElem?_getD]
 by_cases e:x=c
 ·subst e
  rw[if_pos rfl,List.getElem?_set_self (by omega)]
  rfl
 ·rw[if_neg e,List.getElem?_set_ne (by omega)]
theorem qhp {α:Type}{hs:List α}{g:α→α}{p p':α→Bool} (h:∀ x∈hs,p' (g x)=p x):(hs.map g).find? p'=(hs.find? p).map g:=by
 induction hs with
 | nil=>rfl
 | cons a hs ih=>
  have h1:=h a (List.mem_cons_self ..)
  rw[List.map_cons,List.find?_cons,List.find?_cons,h1,ih fun x hx=>h x (List.mem_cons_of_mem _ hx)]
  cases p a<;>rfl
theorem any_rn {α:Type}{hs:List α}{g:α→α}{p p':α→Bool} (h:∀ x∈hs,p' (g x)=p x):(hs.map g).any p'=hs.any p:=by
 induction hs with
 | nil=>rfl
 | cons a hs ih=>
  rw[List.map_cons,List.any_cons,List.any_cons,h a (List.mem_cons_self ..),ih fun x hx=>h x (List.mem_cons_of_mem _ hx)]
theorem yhv {own:List Int}{c:Int} (h:c∈own):own[own.idxOf c]?=some c:=by
 have hl:=List.idxOf_lt_length_iff.mpr h
 rw[List.getElem?_eq_getElem hl,List.getElem_idxOf hl]
theorem yko {own:List Int}{c:Int} (h:c∈own):0≤ixF own c∧ixF own c<own.length:=by
 have hl:=List.idxOf_lt_length_iff.mpr h
 unfold ixF
 omega
theorem yce {own:List Int}{x c:Int} (hx:x∈own) (hc:c∈own):ixF own x=ixF own c↔x=c:=by
 constructor
 ·intro h
  have h':own.idxOf x=own.idxOf c:=by unfold ixF at h;omega
  have h1:=yhv hx
  rw[h',yhv hc] at h1
  exact (Option.some.inj h1).symm
 ·intro h;rw[h]
structure In (own:List Int) (n:Nat) (hs:List Hm):Prop where
 ok:∀ h∈hs,∃ ns,okH h ns
 mem:∀ h∈hs,∀ c∈h.c,c∈own
 rg:∀ c∈own,0≤c∧c<n
theorem In.c0 {own:List Int}{n:Nat}{hs:List Hm} (x:In own n hs) {h:Hm} (hh:h∈hs):h.cell 0∈own∧(rnH (ixF own) h).cell 0=ixF own (h.cell 0):=by
 obtain ⟨ns,o⟩:=x.ok h hh
 rcases ybx o with ⟨a,hc⟩|⟨a,b,hc⟩
 ·refine ⟨x.mem h hh _ (by unfold Hm.cell;rw[hc];simp),?_⟩
  unfold rnH Hm.cell;rw[hc];rfl
 ·refine ⟨x.mem h hh _ (by unfold Hm.cell;rw[hc];simp),?_⟩
  unfold rnH Hm.cell;rw[hc];rfl
theorem two_of {h:Hm}{ns:List Str} (o:okH h ns) (hw:h.w="turns"∨h.w="sets"∨h.w="keeps"∨h.w="other"∨h.w="both"):∃ a b,h.c=[a,b]:=by
 rcases hw with hw|hw|hw|hw|hw
 ·obtain ⟨a,b,x,hc,_⟩:=o.sTurns (by rw[hw];exact ycs)
  exact ⟨a,b,hc⟩
 ·obtain ⟨a,b,x,y,hc,_⟩:=o.sSets (ybc (.inl hw))
  exact ⟨a,b,hc⟩
 ·obtain ⟨a,b,x,y,hc,_⟩:=o.sSets (ybc (.inr hw))
  exact ⟨a,b,hc⟩
 ·obtain ⟨a,b,hc,_⟩:=o.sOther (by rw[hw];exact ycr)
  exact ⟨a,b,hc⟩
 ·obtain ⟨a,b,v,hc,_⟩:=o.sBoth (by rw[hw];exact qcg)
  exact ⟨a,b,hc⟩
theorem In.c1 {own:List Int}{n:Nat}{hs:List Hm} (x:In own n hs) {h:Hm} (hh:h∈hs) (hw:h.w="turns"∨h.w="sets"∨h.w="keeps"∨h.w="other"∨h.w="both"):h.cell 1∈own∧(rnH (ixF own) h).cell 1=ixF own (h.cell 1):=by
 obtain ⟨ns,o⟩:=x.ok h hh
 obtain ⟨a,b,hc⟩:=two_of o hw
 refine ⟨x.mem h hh _ (by unfold Hm.cell;rw[hc];simp),?_⟩
 unfold rnH Hm.cell;rw[hc];rfl
structure Tri (own:List Int) (n:Nat) (cs ds es:List Int):Prop where
 lc:cs.length=n
 ld:ds.length=own.length
 le:es.length=n
 ins:∀ c∈own,rd ds (ixF own c)=rd cs c
 out:∀ a:Int,0≤a→a<n→a∉own→rd es a=rd cs a
section
variable {own:List Int}{n:Nat}{hs:List Hm}{cs ds es:List Int}
theorem yio (x:In own n hs) {c:Int} (hc:c∈own):ya4 (hs.map (rnH (ixF own))) (ixF own c)=ya4 hs c:=by
 unfold ya4
 rw[qhp (p:=qa1 c) fun h hh=>by
  unfold qa1
  rw[(x.c0 hh).2,show (rnH (ixF own) h).w=h.w from rfl]
  congr 1
  rw[Bool.eq_iff_iff,beq_iff_eq,beq_iff_eq]
  exact yce (x.c0 hh).1 hc]
 cases hs.find? (qa1 c)<;>rfl
theorem yhf (x:In own n hs) (t:Tri own n cs ds es) {c b:Int} (hc:c∈own):Tri own n (putM hs cs c b) (putM (hs.map (rnH (ixF own))) ds (ixF own c) b) es:=by
 unfold putM
 rw[yio x hc]
 split
 ·have r:=x.rg c hc
  have r2:=yko hc
  refine ⟨by simp[t.lc],by simp[t.ld],t.le,fun y hy=>?_,fun a h0 h1 ha=>?_⟩
  ·have ry:=x.rg y hy
   have ry2:=yko hy
   rw[qcm r2.1 (by rw[t.ld];exact r2.2) ry2.1,qcm r.1 (by rw[t.lc];exact r.2) ry.1,t.ins y hy]
   by_cases e:y=c
   ·rw[if_pos e,if_pos ((yce hy hc).mpr e)]
   ·rw[if_neg e,if_neg fun z=>e ((yce hy hc).mp z)]
  ·rw[qcm r.1 (by rw[t.lc];exact r.2) h0,if_neg (fun e=>ha (by rw[e];exact hc))]
   exact t.out a h0 h1 ha
 ·exact t
theorem ykp (x:In own n hs) (t:Tri own n cs ds es) {h:Hm} (hh:h∈hs):Tri own n (keepOne hs cs h) (keepOne (hs.map (rnH (ixF own))) ds (rnH (ixF own) h)) es:=by
 unfold keepOne
 have h0:=x.c0 hh
 by_cases hk:h.w="keeps"
 ·have h1:=x.c1 hh (.inr (.inr (.inl hk)))
  have e:rd ds ((rnH (ixF own) h).cell 0)=rd cs (h.cell 0):=by rw[h0.2];exact t.ins _ h0.1
  by_cases hb:rd cs (h.cell 0)=h.bit 0
  ·rw[if_pos ⟨hk,hb⟩,if_pos ⟨hk,by rw[e];exact hb⟩,h1.2]
   exact yhf x t h1.1
  ·rw[if_neg (fun z=>hb z.2),if_neg (fun z=>hb (by have:=z.2;rw[e] at this;exact this))]
   exact t
 ·rw[if_neg (fun z=>hk z.1),if_neg (fun z=>hk z.1)]
  exact t
theorem qj1 (x:In own n hs):∀ (l:List Hm) {cs ds:List Int},(∀ h∈l,h∈hs)→Tri own n cs ds es→Tri own n (keepN hs l cs) (keepN (hs.map (rnH (ixF own))) (l.map (rnH (ixF own))) ds) es
 | [],_,_,_,t=>t
 | h::l,cs,ds,hl,t=>qj1 x l (fun g hg=>hl g (List.mem_cons_of_mem _ hg)) (ykp x t (hl h (List.mem_cons_self ..)))
theorem stk_rd (hs:List Hm) (cs:List Int) {c:Nat}:∀ k:Nat,k≤cs.length→rd (stkN hs cs k) (c:Int)=if c<k then (ya4 hs c).getD (rd cs c) else rd cs c
 | 0,_=>by rw[if_neg (by omega)];rfl
 | k+1,hk=>by
  have ih:=stk_rd hs cs (c:=c) k (by omega)
  unfold stkN
  cases hb:ya4 hs (k:Int) with
  | none=>
   show rd (stkN hs cs k) c=_
   rw[ih]
   by_cases e:c=k
   ·subst e
    rw[if_neg (by omega),if_pos (by omega),hb];rfl
   ·by_cases h:c<k
    ·rw[if_pos h,if_pos (by omega)]
    ·rw[if_neg h,if_neg (by omega)]
  | some b=>
   show rd ((stkN hs cs k).set k b) c=_
   have:=qcm (cs:=stkN hs cs k) (c:=(k:Int)) (b:=b) (x:=(c:Int)) (by omega) (by rw[ybb];omega) (by omega)
   rw[Int.toNat_natCast] at this
   rw[this,ih]
   by_cases e:c=k
   ·subst e
    rw[if_pos rfl,if_pos (by omega),hb];rfl
   ·rw[if_neg (by omega)]
    by_cases h:c<k
    ·rw[if_pos h,if_pos (by omega)]
    ·rw[if_neg h,if_neg (by omega)]
theorem yi4 (hs:List Hm) (cs:List Int) {c:Int} (h0:0≤c) (h1:c<cs.length):rd (stkN hs cs cs.length) c=(ya4 hs c).getD (rd cs c):=by
 have:=stk_rd hs cs (c:=c.toNat) cs.length (Nat.le_refl _)
 rw[show ((c.toNat:Nat):Int)=c by omega,if_pos (by omega)] at this
 exact this
theorem qib (x:In own n hs) {a:Int} (ha:a∉own):ya4 hs a=none:=by
 unfold ya4
 rw[List.find?_eq_none.mpr fun h hh=>by
  unfold qa1
  have:=(x.c0 hh).1
  rw[show (h.cell 0 == a)=false by rw[beq_eq_false_iff_ne];intro e;rw[e] at this;exact ha this]
  simp]
 rfl
theorem ql9 (es:List Int):∀ k,stkN [] es k=es
 | 0=>rfl
 | k+1=>by
  show (match ya4 [] (k:Int) with|some b=>(stkN [] es k).set k b|none=>stkN [] es k)=es
  exact ql9 es k
theorem ykj (es:List Int):yan [] es=es:=ql9 es _
theorem qkk (x:In own n hs) (t:Tri own n cs ds es):Tri own n (yan hs cs) (yan (hs.map (rnH (ixF own))) ds) (yan [] es):=by
 rw[ykj]
 unfold yan
 refine qj1 x hs (fun h hh=>hh) ⟨by rw[ybb];exact t.lc,by rw[ybb];exact t.ld,t.le,fun c hc=>?_,fun a h0 h1 ha=>?_⟩
 ·have r:=x.rg c hc
  have r2:=yko hc
  rw[yi4 _ _ r.1 (by rw[t.lc];exact r.2),yi4 _ _ r2.1 (by rw[t.ld];exact r2.2),yio x hc,t.ins c hc]
 ·rw[yi4 _ _ h0 (by rw[t.lc];exact h1),qib x ha]
  exact t.out a h0 h1 ha
theorem ylh (x:In own n hs) (t:Tri own n cs ds es) {c:Int} (hc:c∈own):(qbv (hs.map (rnH (ixF own))) ds (ixF own c)).1=(qbv hs cs c).1∧Tri own n (qbv hs cs c).2 (qbv (hs.map (rnH (ixF own))) ds (ixF own c)).2 es:=by
 have e:(hs.map (rnH (ixF own))).find? (ydx (ixF own c) (rd ds (ixF own c)))=(hs.find? (ydx c (rd cs c))).map (rnH (ixF own)):=qhp fun h hh=>by
  unfold ydx
  rw[(x.c0 hh).2,t.ins c hc]
  refine decide_eq_decide.mpr ⟨fun ⟨z1,z2,z3⟩=>⟨z1,(yce (x.c0 hh).1 hc).mp z2,z3⟩,fun ⟨z1,z2,z3⟩=>⟨z1,(yce (x.c0 hh).1 hc).mpr z2,z3⟩⟩
 unfold qbv
 rw[e]
 cases hf:hs.find? (ydx c (rd cs c)) with
 | none=>exact ⟨t.ins c hc,t⟩
 | some h=>
  have tp:=yhf x t (c:=c) (b:=1-rd cs c) hc
  show (if h.w="forgets" then rd ds (ixF own c) else rd (putM (hs.map (rnH (ixF own))) ds (ixF own c) (1-rd ds (ixF own c))) (ixF own c))=(if h.w="forgets" then rd cs c else rd (putM hs cs c (1-rd cs c)) c)∧Tri own n (putM hs cs c (1-rd cs c)) (putM (hs.map (rnH (ixF own))) ds (ixF own c) (1-rd ds (ixF own c))) es
  rw[t.ins c hc]
  refine ⟨?_,tp⟩
  by_cases hw:h.w="forgets"
  ·rw[if_pos hw,if_pos hw]
  ·rw[if_neg hw,if_neg hw];exact tp.ins c hc
theorem qgo (x:In own n hs):∀ (l:List Int) {cs ds:List Int},(∀ c∈l,c∈own)→Tri own n cs ds es→(yat (hs.map (rnH (ixF own))) (l.map (ixF own)) ds).1=(yat hs l cs).1∧Tri own n (yat hs l cs).2 (yat (hs.map (rnH (ixF own))) (l.map (ixF own)) ds).2 es
 | [],_,_,_,t=>⟨rfl,t⟩
 | c::l,cs,ds,hl,t=>by
  obtain ⟨h1,h2⟩:=ylh x t (hl c (List.mem_cons_self ..))
  obtain ⟨h3,h4⟩:=qgo x l (fun g hg=>hl g (List.mem_cons_of_mem _ hg)) h2
  exact ⟨by show _::_=_::_;rw[h1,h3],h4⟩
theorem yjp (x:In own n hs) {a:Int} (ha:a∈own):qa4 (hs.map (rnH (ixF own))) (ixF own a)=(qa4 hs a).map (rnH (ixF own)):=qhp fun h hh=>by
 unfold ybe
 rw[(x.c0 hh).2]
 exact decide_eq_decide.mpr ⟨fun ⟨z1,z2⟩=>⟨z1,(yce (x.c0 hh).1 ha).mp z2⟩,fun ⟨z1,z2⟩=>⟨z1,(yce (x.c0 hh).1 ha).mpr z2⟩⟩
theorem qij (x:In own n hs) {a:Int} (ha:a∈own):ybf (qa4 (hs.map (rnH (ixF own))) (ixF own a)) (ixF own a)=(ybf (qa4 hs a) a).map (ixF own)∧∀ c∈ybf (qa4 hs a) a,c∈own:=by
 rw[yjp x ha]
 cases hf:qa4 hs a with
 | none=>exact ⟨rfl,fun c hc=>by rw[List.mem_singleton.mp hc];exact ha⟩
 | some h=>
  obtain ⟨hh,hw,_⟩:=qbo hf
  show (if (rnH (ixF own) h).w="nowhere" then [] else if (rnH (ixF own) h).w="other" then [(rnH (ixF own) h).cell 1] else [ixF own a,(rnH (ixF own) h).cell 1])=(if h.w="nowhere" then [] else if h.w="other" then [h.cell 1] else [a,h.cell 1]).map (ixF own)∧∀ c∈(if h.w="nowhere" then [] else if h.w="other" then [h.cell 1] else [a,h.cell 1]),c∈own
  rw[show (rnH (ixF own) h).w=h.w from rfl]
  by_cases h1:h.w="nowhere"
  ·rw[if_pos h1,if_pos h1];exact ⟨rfl,fun c hc=>by cases hc⟩
  ·have c1:=x.c1 hh (by rcases hw with hw|hw|hw<;>simp_all)
   rw[if_neg h1,if_neg h1,c1.2]
   by_cases h2:h.w="other"
   ·rw[if_pos h2,if_pos h2];exact ⟨rfl,fun c hc=>by rw[List.mem_singleton.mp hc];exact c1.1⟩
   ·rw[if_neg h2,if_neg h2]
    refine ⟨rfl,fun c hc=>?_⟩
    rcases List.mem_cons.mp hc with hc|hc
    ·rw[hc];exact ha
    ·rw[List.mem_singleton.mp hc];exact c1.1
theorem valOf_rn (o:Option Hm) (f:Int→Int):∀ l,qd4 (o.map (rnH f)) l=qd4 o l
 | []=>by cases o<;>rfl
 | [b]=>rfl
 | b::c::l=>by
  have:ql3 (o.map (rnH f))↔ql3 o:=by
   unfold ql3
   cases o with
   | none=>simp
   | some h=>
    constructor
    ·rintro ⟨g,e,hr⟩
     cases e
     exact ⟨h,rfl,hr⟩
    ·rintro ⟨g,e,hr⟩
     cases e
     exact ⟨_,rfl,hr⟩
  simp only[qd4]
  by_cases hi:ql3 o
  ·rw[if_pos hi,if_pos (this.mpr hi)]
  ·rw[if_neg hi,if_neg fun z=>hi (this.mp z)]
theorem tri_read (x:In own n hs) (t:Tri own n cs ds es) {a:Int} (ha:a∈own):(readAt (hs.map (rnH (ixF own))) ds (ixF own a)).1=(readAt hs cs a).1∧Tri own n (readAt hs cs a).2 (readAt (hs.map (rnH (ixF own))) ds (ixF own a)).2 es:=by
 unfold readAt
 obtain ⟨r1,r2⟩:=qij x ha
 rw[r1,yjp x ha]
 obtain ⟨h1,h2⟩:=qgo x _ r2 t
 refine ⟨?_,h2⟩
 show qd4 _ _=qd4 _ _
 rw[h1,valOf_rn]
theorem tri_act1 (x:In own n hs) (t:Tri own n cs ds es) {h:Hm} (hh:h∈hs) {c:Int} (hc:c∈own):Tri own n (actOne hs c cs h) (actOne (hs.map (rnH (ixF own))) (ixF own c) ds (rnH (ixF own) h)) es:=by
 unfold actOne
 have h0:=x.c0 hh
 rw[show (rnH (ixF own) h).w=h.w from rfl,h0.2,t.ins c hc]
 by_cases hw:h.w="turns"∨h.w="sets"∨h.w="keeps"
 ·have h1:=x.c1 hh (by rcases hw with hw|hw|hw<;>simp_all)
  by_cases hb:h.cell 0=c∧h.bit 0=rd cs c
  ·rw[if_pos (show (h.w="turns"∨h.w="sets"∨h.w="keeps")∧h.cell 0=c∧h.bit 0=rd cs c from ⟨hw,hb.1,hb.2⟩),if_pos (show (h.w="turns"∨h.w="sets"∨h.w="keeps")∧ixF own (h.cell 0)=ixF own c∧(rnH (ixF own) h).bit 0=rd cs c from ⟨hw,(yce h0.1 hc).mpr hb.1,hb.2⟩),h1.2,t.ins _ h1.1]
   exact yhf x t h1.1
  ·rw[if_neg (show ¬ ((h.w="turns"∨h.w="sets"∨h.w="keeps")∧h.cell 0=c∧h.bit 0=rd cs c) from fun z=>hb ⟨z.2.1,z.2.2⟩),if_neg (show ¬ ((h.w="turns"∨h.w="sets"∨h.w="keeps")∧ixF own (h.cell 0)=ixF own c∧(rnH (ixF own) h).bit 0=rd cs c) from fun z=>hb ⟨(yce h0.1 hc).mp z.2.1,z.2.2⟩)]
   exact t
 ·rw[if_neg (show ¬ ((h.w="turns"∨h.w="sets"∨h.w="keeps")∧h.cell 0=c∧h.bit 0=rd cs c) from fun z=>hw z.1),if_neg (show ¬ ((h.w="turns"∨h.w="sets"∨h.w="keeps")∧ixF own (h.cell 0)=ixF own c∧(rnH (ixF own) h).bit 0=rd cs c) from fun z=>hw z.1)]
  exact t
theorem ykz (x:In own n hs) {c:Int} (hc:c∈own):∀ (l:List Hm) {cs ds:List Int},(∀ h∈l,h∈hs)→Tri own n cs ds es→Tri own n (actN hs l c cs) (actN (hs.map (rnH (ixF own))) (l.map (rnH (ixF own))) (ixF own c) ds) es
 | [],_,_,_,t=>t
 | h::l,cs,ds,hl,t=>ykz x hc l (fun g hg=>hl g (List.mem_cons_of_mem _ hg)) (tri_act1 x t (hl h (List.mem_cons_self ..)) hc)
theorem tri_kept (x:In own n hs) (t:Tri own n cs ds es) {c b:Int} (hc:c∈own):qcx (hs.map (rnH (ixF own))) ds (ixF own c) b=qcx hs cs c b:=by
 unfold qcx
 rw[qhp (p:=yci cs c) fun h hh=>by
  unfold yci
  have h0:=x.c0 hh
  rw[show (rnH (ixF own) h).w=h.w from rfl,h0.2,t.ins _ h0.1]
  by_cases hk:h.w="keeps"
  ·have h1:=x.c1 hh (.inr (.inr (.inl hk)))
   rw[h1.2]
   exact decide_eq_decide.mpr ⟨fun ⟨z1,z2,z3⟩=>⟨z1,(yce h1.1 hc).mp z2,z3⟩,fun ⟨z1,z2,z3⟩=>⟨z1,(yce h1.1 hc).mpr z2,z3⟩⟩
  ·rw[decide_eq_false (fun z=>hk z.1),decide_eq_false (fun z=>hk z.1)]]
 cases hs.find? (yci cs c)<;>rfl
theorem tri_slow (x:In own n hs) (t:Tri own n cs ds es) {c b:Int} (hc:c∈own):qdf (hs.map (rnH (ixF own))) ds (ixF own c) b=qdf hs cs c b:=by
 unfold qdf
 rw[t.ins c hc,any_rn (p:=qd3 c b) fun h hh=>by
  unfold qd3
  rw[(x.c0 hh).2]
  exact decide_eq_decide.mpr ⟨fun ⟨z1,z2,z3⟩=>⟨z1,(yce (x.c0 hh).1 hc).mp z2,z3⟩,fun ⟨z1,z2,z3⟩=>⟨z1,(yce (x.c0 hh).1 hc).mpr z2,z3⟩⟩]
theorem qj3 (x:In own n hs) (t:Tri own n cs ds es) {c b:Int} (hc:c∈own):Tri own n (qb8 hs cs c b) (qb8 (hs.map (rnH (ixF own))) ds (ixF own c) b) es:=by
 unfold qb8
 rw[tri_slow x t hc,tri_kept x t hc]
 have tp:=yhf x t (c:=c) (b:=qcx hs cs c b) hc
 rw[tp.ins c hc,t.ins c hc]
 split
 ·exact t
 ·split
  ·exact tp
  ·exact ykz x hc hs (fun h hh=>hh) tp
theorem qgp (x:In own n hs) {b:Int}:∀ (l:List Int) {cs ds:List Int},(∀ c∈l,c∈own)→Tri own n cs ds es→Tri own n (qcz hs b l cs) (qcz (hs.map (rnH (ixF own))) b (l.map (ixF own)) ds) es
 | [],_,_,_,t=>t
 | c::l,cs,ds,hl,t=>qgp x l (fun g hg=>hl g (List.mem_cons_of_mem _ hg)) (qj3 x t (hl c (List.mem_cons_self ..)))
theorem qlf (x:In own n hs) (t:Tri own n cs ds es) {a b:Int} (ha:a∈own):Tri own n (writeAt hs cs a b) (writeAt (hs.map (rnH (ixF own))) ds (ixF own a) b) es:=by
 unfold writeAt
 obtain ⟨r1,r2⟩:=qij x ha
 rw[r1]
 exact qgp x _ r2 t
theorem qfj (x:In own n hs) {a:Int} (ha:a∉own) (cs:List Int):readAt hs cs a=(rd cs a,cs):=by
 have e1:qa4 hs a=none:=List.find?_eq_none.mpr fun h hh=>by
  unfold ybe
  have:=(x.c0 hh).1
  rw[decide_eq_false (fun z=>by rw[z.2] at this;exact ha this)]
  simp
 have e2:hs.find? (ydx a (rd cs a))=none:=List.find?_eq_none.mpr fun h hh=>by
  unfold ydx
  have:=(x.c0 hh).1
  rw[decide_eq_false (fun z=>by rw[z.2.1] at this;exact ha this)]
  simp
 have e3:qbv hs cs a=(rd cs a,cs):=by unfold qbv;rw[e2]
 unfold readAt
 rw[e1]
 show (qd4 none (yat hs [a] cs).1,(yat hs [a] cs).2)=_
 unfold yat yat
 rw[e3]
 rfl
theorem qed (x:In own n hs) {a:Int} (ha:a∉own) (b:Int) (cs:List Int):writeAt hs cs a b=cs.set a.toNat b:=by
 have e1:qa4 hs a=none:=List.find?_eq_none.mpr fun h hh=>by
  unfold ybe
  have:=(x.c0 hh).1
  rw[decide_eq_false (fun z=>by rw[z.2] at this;exact ha this)]
  simp
 have e2:qdf hs cs a b=false:=by
  unfold qdf
  rw[show hs.any (qd3 a b)=false from List.any_eq_false.mpr fun h hh=>by
   unfold qd3
   have:=(x.c0 hh).1
   rw[decide_eq_false (fun z=>by rw[z.2.1] at this;exact ha this)]
   simp]
  simp
 have e3:qcx hs cs a b=b:=by
  unfold qcx
  rw[List.find?_eq_none.mpr fun h hh=>by
   unfold yci
   rw[decide_eq_false (fun z=>by
    have:=(x.c1 hh (.inr (.inr (.inl z.1)))).1
    rw[z.2.1] at this;exact ha this)]
   simp]
 have e4:putM hs cs a b=cs.set a.toNat b:=by
  unfold putM
  rw[qib x ha]
  rfl
 have e5:∀ (l:List Hm) (ws:List Int),(∀ h∈l,h∈hs)→actN hs l a ws=ws:=by
  intro l
  induction l with
  | nil=>intro ws _;rfl
  | cons h l ih=>
   intro ws hl
   have:actOne hs a ws h=ws:=by
    unfold actOne
    have:=(x.c0 (hl h (List.mem_cons_self ..))).1
    rw[if_neg (fun z=>by rw[z.2.1] at this;exact ha this)]
   show actN hs l a (actOne hs a ws h)=ws
   rw[this]
   exact ih ws fun g hg=>hl g (List.mem_cons_of_mem _ hg)
 unfold writeAt
 rw[e1]
 show qb8 hs cs a b=_
 unfold qb8
 rw[e2,e3,e4,e5 hs _ fun h hh=>hh]
 simp
end
theorem qgz {n:Nat}:In [] n []:=⟨fun h hh=>(by cases hh),fun h hh=>(by cases hh),fun c hc=>(by cases hc)⟩
def adR:List V→Int | [_,.int a,_,_]=>a|_=>0
def mvR (own:List Int):List V→List V | [i,.int j,p,b]=>[i,.int (own.getD j.toNat 0),p,b]|x=>x
def inO (own:List Int) (x:List V):Bool:=decide (adR x∈own)
structure SR (own:List Int) (n:Nat) (S s S0:RS):Prop where
 tri:Tri own n S.2 s.2 S0.2
 ins:S.1.filter (inO own)=s.1.map (mvR own)
 out:S.1.filter (fun x=>!inO own x)=S0.1.filter (fun x=>!inO own x)
theorem qjm {α:Type}{p:α→Bool}{x:α} (h:p x=true):[x].filter p=[x]:=by rw[List.filter_cons_of_pos h];rfl
theorem ygs {α:Type}{p:α→Bool}{x:α} (h:p x=false):[x].filter p=[]:=by rw[List.filter_cons_of_neg (by rw[h];simp)];rfl
section
variable {own:List Int}{n:Nat}{hs:List Hm}{cs ds es:List Int}{S s S0:RS}
theorem tri_es (x:In own n hs) (t:Tri own n cs ds es) {a b:Int} (ha:a∈own):Tri own n cs ds (es.set a.toNat b):=by
 have r:=x.rg a ha
 refine ⟨t.lc,t.ld,by simp[t.le],t.ins,fun y h0 h1 hy=>?_⟩
 rw[qcm r.1 (by rw[t.le];exact r.2) h0,if_neg (fun e=>hy (by rw[e];exact ha))]
 exact t.out y h0 h1 hy
theorem tri_both (x:In own n hs) (t:Tri own n cs ds es) {a b:Int} (h0:0≤a) (h1:a<n) (ha:a∉own):Tri own n (cs.set a.toNat b) ds (es.set a.toNat b):=by
 refine ⟨by simp[t.lc],t.ld,by simp[t.le],fun c hc=>?_,fun y y0 y1 hy=>?_⟩
 ·rw[qcm h0 (by rw[t.lc];exact h1) (x.rg c hc).1,if_neg (fun e=>ha (by rw[← e];exact hc))]
  exact t.ins c hc
 ·rw[qcm h0 (by rw[t.le];exact h1) y0,qcm h0 (by rw[t.lc];exact h1) y0,t.out y y0 y1 hy]
theorem mv_row {i p b:V}{a:Int} (ha:a∈own):mvR own [i,.int (ixF own a),p,b]=[i,.int a,p,b]:=by
 show [i,V.int (own.getD (ixF own a).toNat 0),p,b]=_
 have:=yhv ha
 rw[show (ixF own a).toNat=own.idxOf a by unfold ixF;omega,List.getD_eq_getElem?_getD,this]
 rfl
theorem sr_in (x:In own n hs) (r:SR own n S s S0) (ss:List Stp) (i:Nat) {a:Int} (ha:a∈own) (p:Nat):SR own n (qaq hs ss i S (a,p)) (qaq (hs.map (rnH (ixF own))) ss i s (ixF own a,p)) (qaq [] ss i S0 (a,p)):=by
 have e0:a∉([]:List Int):=by simp
 unfold qaq
 by_cases hw:(ss.getD p (false,false)).1=true
 ·rw[if_pos hw,if_pos hw,if_pos hw,qed (qgz (n:=n)) e0]
  exact ⟨tri_es x (qlf x r.tri ha) ha,r.ins,r.out⟩
 ·rw[if_neg hw,if_neg hw,if_neg hw,qfj (qgz (n:=n)) e0]
  obtain ⟨h1,h2⟩:=tri_read x r.tri ha
  have hi:∀ b:V,inO own [.int i,.int a,.int p,b]=true:=fun b=>decide_eq_true ha
  refine ⟨h2,?_,?_⟩
  ·show (S.1++[_]).filter _=(s.1++[_]).map _
   rw[List.filter_append,List.map_append,r.ins,qjm (hi _),List.map_singleton,h1,mv_row ha]
  ·show (S.1++[_]).filter _=(S0.1++[_]).filter _
   rw[List.filter_append,List.filter_append,r.out,ygs (by rw[hi];rfl),ygs (by rw[hi];rfl)]
theorem sr_out (x:In own n hs) (r:SR own n S s S0) (ss:List Stp) (i:Nat) {a:Int} (h0:0≤a) (h1:a<n) (ha:a∉own) (p:Nat):SR own n (qaq hs ss i S (a,p)) s (qaq [] ss i S0 (a,p)):=by
 have e0:a∉([]:List Int):=by simp
 unfold qaq
 by_cases hw:(ss.getD p (false,false)).1=true
 ·rw[if_pos hw,if_pos hw,qed (qgz (n:=n)) e0,qed x ha]
  exact ⟨tri_both x r.tri h0 h1 ha,r.ins,r.out⟩
 ·rw[if_neg hw,if_neg hw,qfj (qgz (n:=n)) e0,qfj x ha]
  have hi:∀ b:V,inO own [.int i,.int a,.int p,b]=false:=fun b=>decide_eq_false ha
  refine ⟨r.tri,?_,?_⟩
  ·show (S.1++[_]).filter _=_
   rw[List.filter_append,ygs (hi _),r.ins,List.append_nil]
  ·show (S.1++[_]).filter _=(S0.1++[_]).filter _
   rw[List.filter_append,List.filter_append,r.out,r.tri.out a h0 h1 ha]
theorem sr_ins (x:In own n hs) (ss:List Stp) (i:Nat) {a:Int} (ha:a∈own):∀ (ps:List Nat) {S s S0:RS},SR own n S s S0→SR own n ((ps.map fun p=>(a,p)).foldl (qaq hs ss i) S) ((ps.map fun p=>(ixF own a,p)).foldl (qaq (hs.map (rnH (ixF own))) ss i) s) ((ps.map fun p=>(a,p)).foldl (qaq [] ss i) S0)
 | [],_,_,_,r=>r
 | p::ps,_,_,_,r=>sr_ins x ss i ha ps (sr_in x r ss i ha p)
theorem qky (x:In own n hs) (ss:List Stp) (i:Nat) {a:Int} (h0:0≤a) (h1:a<n) (ha:a∉own):∀ (ps:List Nat) {S s S0:RS},SR own n S s S0→SR own n ((ps.map fun p=>(a,p)).foldl (qaq hs ss i) S) s ((ps.map fun p=>(a,p)).foldl (qaq [] ss i) S0)
 | [],_,_,_,r=>r
 | p::ps,_,_,_,r=>qky x ss i h0 h1 ha ps (sr_out x r ss i h0 h1 ha p)
theorem qiz (x:In own n hs) (ss:List Stp) (i:Nat) (ps:List Nat):∀ (A:List Int) {S s S0:RS},(∀ a∈A,0≤a∧a<n)→SR own n S s S0→
  SR own n ((A.flatMap fun a=>ps.map fun p=>(a,p)).foldl (qaq hs ss i) S) ((((A.filter fun a=>decide (a∈own)).map (ixF own)).flatMap fun a=>ps.map fun p=>(a,p)).foldl (qaq (hs.map (rnH (ixF own))) ss i) s) ((A.flatMap fun a=>ps.map fun p=>(a,p)).foldl (qaq [] ss i) S0)
 | [],_,_,_,_,r=>r
 | a::A,S,s,S0,hA,r=>by
  have ha:=hA a (List.mem_cons_self ..)
  have hA':∀ b∈A,0≤b∧b<n:=fun b hb=>hA b (List.mem_cons_of_mem _ hb)
  rw[List.flatMap_cons,List.foldl_append,List.foldl_append]
  by_cases h:a∈own
  ·rw[List.filter_cons_of_pos (by simpa using h),List.map_cons,List.flatMap_cons,List.foldl_append]
   exact qiz x ss i ps A hA' (sr_ins x ss i h ps r)
  ·rw[List.filter_cons_of_neg (by simpa using h)]
   exact qiz x ss i ps A hA' (qky x ss i ha.1 ha.2 h ps r)
structure Own (own:List Int) (n:Nat):Prop where
 up:own.Pairwise (·≤·)
 nd:own.Nodup
 rg:∀ c∈own,0≤c∧c<n
theorem up_own (o:Own own n):(yas true n).filter (fun a=>decide (a∈own))=own:=by
 have hs:(yas true n).Pairwise (· < ·):=by
  unfold yas
  rw[List.pairwise_map]
  exact List.pairwise_lt_range.imp fun {a b} h=>by simp;omega
 have hm:∀ a,a∈yas true n↔0≤a∧a<n:=fun a=>by
  unfold yas
  rw[List.mem_map]
  constructor
  ·rintro ⟨t,ht,rfl⟩
   have:=List.mem_range.mp ht
   simp
   omega
  ·rintro ⟨h0,h1⟩
   exact ⟨a.toNat,List.mem_range.mpr (by omega),by simp;omega⟩
 have hf:=hs.filter (fun a=>decide (a∈own))
 refine yhu ((List.perm_ext_iff_of_nodup (hf.imp fun h=>by omega) o.nd).mpr fun a=>?_) (hf.imp fun h=>by omega) o.up
 rw[List.mem_filter,hm]
 constructor
 ·rintro ⟨_,h⟩;simpa using h
 ·intro h;exact ⟨o.rg a h,by simpa using h⟩
theorem own_ix (o:Own own n):own.map (ixF own)=yas true own.length:=by
 refine List.ext_getElem? fun j=>?_
 unfold yas
 rw[List.getElem?_map,List.getElem?_map]
 by_cases hj:j<own.length
 ·have e:own[j]?=some own[j]:=List.getElem?_eq_getElem hj
  have hm:own[j]∈own:=List.getElem_mem hj
  have h1:=yhv hm
  have h2:own.idxOf own[j]=j:=(List.getElem?_inj (List.idxOf_lt_length_iff.mpr hm) o.nd).mp (by rw[h1,e])
  rw[e,List.getElem?_range hj]
  show some (ixF own own[j])=_
  unfold ixF
  rw[h2]
  rfl
 ·rw[List.getElem?_eq_none (by omega),List.getElem?_eq_none (by simp;omega)]
  rfl
theorem yhj (n:Nat):yas false n=(yas true n).reverse:=by
 refine List.ext_getElem? fun j=>?_
 have hl:∀ b,(yas b n).length=n:=fun b=>by unfold yas;simp
 by_cases hj:j<n
 ·rw[yfm _ _ hj,List.getElem?_reverse (by rw[hl];exact hj),hl,yfm _ _ (by omega)]
  simp
  omega
 ·rw[List.getElem?_eq_none (by rw[hl];omega),List.getElem?_eq_none (by rw[List.length_reverse,hl];omega)]
theorem addr_own (o:Own own n):∀ up,((yas up n).filter fun a=>decide (a∈own)).map (ixF own)=yas up own.length
 | true=>by rw[up_own o,own_ix o]
 | false=>by rw[yhj,yhj,List.filter_reverse,List.map_reverse,up_own o,own_ix o]
theorem run_sr (x:In own n hs) (o:Own own n) (T:List Elm) (os:List Str) (r:SR own n S s S0):∀ k,SR own n (runR hs n T os S k) (runR (hs.map (rnH (ixF own))) own.length T os s k) (runR [] n T os S0 k)
 | 0=>r
 | k+1=>by
  have ih:=run_sr x o T os r k
  rw[ybp,ybp,ybp]
  unfold yhl elR ixP
  rw[← addr_own o]
  exact qiz x _ k _ _ (fun a ha=>by
   unfold yas at ha
   obtain ⟨t,ht,rfl⟩:=List.mem_map.mp ha
   have:=List.mem_range.mp ht
   split<;>omega) ih
theorem ykr (o:Own own n) (hl:cs.length=n):Tri own n cs (own.map (rd cs)) cs:=by
 refine ⟨hl,by simp,hl,fun c hc=>?_,fun _ _ _ _=>rfl⟩
 show ((own.map (rd cs)).getD (ixF own c).toNat 0)=_
 rw[show (ixF own c).toNat=own.idxOf c by unfold ixF;omega,List.getD_eq_getElem?_getD,List.getElem?_map,yhv hc]
 rfl
theorem run_all (x:In own n hs) (o:Own own n) (T:List Elm) (os:List Str) (hl:cs.length=n) (k:Nat):SR own n (runR hs n T os ([],yan hs cs) k) (runR (hs.map (rnH (ixF own))) own.length T os ([],yan (hs.map (rnH (ixF own))) (own.map (rd cs))) k) (runR [] n T os ([],yan [] cs) k):=
 run_sr (S:=([],yan hs cs)) (s:=([],yan (hs.map (rnH (ixF own))) (own.map (rd cs)))) (S0:=([],yan [] cs)) x o T os ⟨qkk x (ykr o hl),rfl,rfl⟩ k
end
def kn:Option Bool→List Stp→Option Bool
 | k,[]=>k
 | _,(true,b)::r=>kn (some b) r
 | k,(false,_)::r=>kn k r
theorem yju:∀ (k:Option Bool) (l m:List Stp),kn k (l++m)=kn (kn k l) m
 | _,[],_=>rfl
 | _,(true,b)::r,m=>yju (some b) r m
 | k,(false,_)::r,m=>yju k r m
theorem yem:∀ (k:Option Bool) (l m:List Stp),ybn k (l++m)=true→ybn k l=true∧ybn (kn k l) m=true
 | _,[],_,h=>⟨rfl,h⟩
 | _,(true,b)::r,m,h=>yem (some b) r m h
 | k,(false,b)::r,m,h=>by
  have h':(if k=some b then ybn k (r++m) else false)=true:=h
  by_cases e:k=some b
  ·rw[if_pos e] at h'
   obtain ⟨h1,h2⟩:=yem k r m h'
   refine ⟨?_,h2⟩
   show (if k=some b then ybn k r else false)=true
   rw[if_pos e];exact h1
  ·rw[if_neg e] at h';cases h'
def Con (es:List Int) (a:Int) (k:Option Bool):Prop:=∀ b,k=some b→rd es a=b2i b
theorem nil_read (es:List Int) (a:Int):readAt [] es a=(rd es a,es):=qfj (qgz (n:=0)) (by simp) es
theorem qlp (es:List Int) (a b:Int):writeAt [] es a b=es.set a.toNat b:=qed (qgz (n:=0)) (by simp) b es
section
variable {n:Nat}{T:List Elm}{i:Nat}{e:Elm}{k:Option Bool}
theorem qis (he:T[i]?=some e) (hs:ybn k e.2=true) {a:Int} (h0:0≤a) (h1:a<n):∀ (m:Nat),m≤e.2.length→∀ (st:RS),st.2.length=n→Con st.2 a k→
  (((List.range m).map fun p=>(a,p)).foldl (qaq [] e.2 i) st).2.length=n∧(∀ x,0≤x→x≠a→rd (((List.range m).map fun p=>(a,p)).foldl (qaq [] e.2 i) st).2 x=rd st.2 x)∧Con (((List.range m).map fun p=>(a,p)).foldl (qaq [] e.2 i) st).2 a (kn k (e.2.take m))∧
  (∀ row∈(((List.range m).map fun p=>(a,p)).foldl (qaq [] e.2 i) st).1,row∈st.1∨badR T row=false)
 | 0,_,st,hl,hc=>⟨hl,fun _ _ _=>rfl,hc,fun row h=>.inl h⟩
 | m+1,hm,st,hl,hc=>by
  obtain ⟨i1,i2,i3,i4⟩:=qis he hs h0 h1 m (by omega) st hl hc
  rw[List.range_succ,List.map_append,List.foldl_append]
  revert i1 i2 i3 i4
  generalize ((List.range m).map fun p=>(a,p)).foldl (qaq [] e.2 i) st=s2
  intro i1 i2 i3 i4
  have hg:e.2[m]?=some e.2[m]:=List.getElem?_eq_getElem hm
  have hd:e.2.getD m (false,false)=e.2[m]:=by rw[List.getD_eq_getElem?_getD,hg];rfl
  have ht:e.2.take (m+1)=e.2.take m++[e.2[m]]:=by rw[List.take_add_one,hg];rfl
  have hsp:e.2=e.2.take m++e.2[m]::e.2.drop (m+1):=by
   rw[← List.drop_eq_getElem_cons hm,List.take_append_drop]
  rw[hsp] at hs
  obtain ⟨_,s3⟩:=yem k _ _ hs
  rw[ht,yju]
  show (qaq [] e.2 i s2 (a,m)).2.length=n∧(∀ x,0≤x→x≠a→rd (qaq [] e.2 i s2 (a,m)).2 x=rd st.2 x)∧Con (qaq [] e.2 i s2 (a,m)).2 a (kn (kn k (e.2.take m)) [e.2[m]])∧∀ row∈(qaq [] e.2 i s2 (a,m)).1,row∈st.1∨badR T row=false
  unfold qaq
  rw[hd]
  generalize hx:e.2[m]=sx at s3 hg
  obtain ⟨w,b⟩:=sx
  cases w with
  | true=>
   rw[if_pos rfl,qlp]
   refine ⟨by simp[i1],fun x x0 xa=>?_,fun b' hb=>?_,i4⟩
   ·rw[qcm h0 (by rw[i1];exact h1) x0,if_neg xa];exact i2 x x0 xa
   ·cases hb
    rw[qcm h0 (by rw[i1];exact h1) h0,if_pos rfl]
  | false=>
   rw[if_neg (by simp),nil_read]
   refine ⟨i1,i2,i3,fun row hr=>?_⟩
   rcases List.mem_append.mp hr with hr|hr
   ·exact i4 row hr
   ·right
    rw[List.mem_singleton.mp hr]
    have s3':(if kn k (e.2.take m)=some b then ybn (kn k (e.2.take m)) (e.2.drop (m+1)) else false)=true:=s3
    by_cases hk:kn k (e.2.take m)=some b
    ·rw[yfj he hg,i3 b hk]
     simp
    ·rw[if_neg hk] at s3';cases s3'
theorem ygr (he:T[i]?=some e) (hs:ybn k e.2=true):∀ (A:List Int),A.Nodup→(∀ a∈A,0≤a∧a<n)→∀ (st:RS),st.2.length=n→(∀ x:Int,0≤x→x<n→(x∈A→Con st.2 x k)∧(x∉A→Con st.2 x (kn k e.2)))→
  ((A.flatMap fun a=>(List.range e.2.length).map fun p=>(a,p)).foldl (qaq [] e.2 i) st).2.length=n∧(∀ x:Int,0≤x→x<n→Con ((A.flatMap fun a=>(List.range e.2.length).map fun p=>(a,p)).foldl (qaq [] e.2 i) st).2 x (kn k e.2))∧
  (∀ row∈((A.flatMap fun a=>(List.range e.2.length).map fun p=>(a,p)).foldl (qaq [] e.2 i) st).1,row∈st.1∨badR T row=false)
 | [],_,_,st,hl,hc=>⟨hl,fun x h0 h1=>(hc x h0 h1).2 (by simp),fun row h=>.inl h⟩
 | a::A,nd,hA,st,hl,hc=>by
  have ha:=hA a (List.mem_cons_self ..)
  obtain ⟨nd1,nd2⟩:=List.nodup_cons.mp nd
  obtain ⟨i1,i2,i3,i4⟩:=qis he hs ha.1 ha.2 e.2.length (Nat.le_refl _) st hl ((hc a ha.1 ha.2).1 (List.mem_cons_self ..))
  rw[List.flatMap_cons,List.foldl_append]
  revert i1 i2 i3 i4
  generalize ((List.range e.2.length).map fun p=>(a,p)).foldl (qaq [] e.2 i) st=s2
  intro i1 i2 i3 i4
  rw[List.take_length] at i3
  obtain ⟨j1,j2,j3⟩:=ygr he hs A nd2 (fun b hb=>hA b (List.mem_cons_of_mem _ hb)) s2 i1 fun x h0 h1=>by
   by_cases e:x=a
   ·subst e
    exact ⟨fun h=>absurd h nd1,fun _=>i3⟩
   ·have hx:∀ k',Con st.2 x k'→Con s2.2 x k':=fun k' h b hb=>by rw[i2 x h0 e];exact h b hb
    exact ⟨fun h=>hx _ ((hc x h0 h1).1 (List.mem_cons_of_mem _ h)),fun h=>hx _ ((hc x h0 h1).2 (by simp[e,h]))⟩
  refine ⟨j1,j2,fun row hr=>?_⟩
  rcases j3 row hr with h|h
  ·exact i4 row h
  ·exact .inr h
theorem qim (n:Nat):(yas true n).Nodup:=by
 have:(yas true n).Pairwise (· < ·):=by
  unfold yas
  rw[List.pairwise_map]
  exact List.pairwise_lt_range.imp fun {a b} h=>by simp;omega
 exact this.imp fun h=>by omega
theorem addrs_nd:∀ (up:Bool) (n:Nat),(yas up n).Nodup
 | true,n=>qim n
 | false,n=>by rw[yhj];exact List.pairwise_reverse.mpr ((qim n).imp fun h=>Ne.symm h)
theorem qh3 (up:Bool) (n:Nat) {a:Int}:a∈yas up n↔0≤a∧a<n:=by
 have h:∀ a,a∈yas true n↔0≤a∧a<n:=fun a=>by
  unfold yas
  rw[List.mem_map]
  constructor
  ·rintro ⟨t,ht,rfl⟩
   have:=List.mem_range.mp ht
   simp
   omega
  ·rintro ⟨h0,h1⟩
   exact ⟨a.toNat,List.mem_range.mpr (by omega),by simp;omega⟩
 cases up with
 | true=>exact h a
 | false=>rw[yhj,List.mem_reverse];exact h a
theorem qjy (hs:ybn none (ybo T)=true) (os:List Str) {cs:List Int} (hl:cs.length=n):∀ k,k≤T.length→(runR [] n T os ([],cs) k).2.length=n∧(∀ x:Int,0≤x→x<n→Con (runR [] n T os ([],cs) k).2 x (kn none (ybo (T.take k))))∧∀ row∈(runR [] n T os ([],cs) k).1,badR T row=false
 | 0,_=>⟨hl,fun x _ _ b hb=>(by cases hb),fun row h=>by cases h⟩
 | k+1,hk=>by
  obtain ⟨i1,i2,i3⟩:=qjy hs os hl k (by omega)
  have he:T[k]?=some T[k]:=List.getElem?_eq_getElem hk
  have hg:T.getD k ("",[])=T[k]:=by rw[List.getD_eq_getElem?_getD,he];rfl
  rw[ybp]
  unfold yhl elR ixP
  rw[hg]
  have hsp:ybo T=ybo (T.take k)++(T[k].2++ybo (T.drop (k+1))):=by
   have:ybo T=ybo (T.take (k+1))++ybo (T.drop (k+1)):=by
    unfold ybo
    rw[← List.flatMap_append,List.take_append_drop]
   rw[this,ye0 he,List.append_assoc]
  rw[hsp] at hs
  obtain ⟨_,s2⟩:=yem _ _ _ hs
  obtain ⟨s3,_⟩:=yem _ _ _ s2
  obtain ⟨j1,j2,j3⟩:=ygr (n:=n) he s3 (yas (decide (os.getD k "" = "up")) n) (addrs_nd _ _) (fun a ha=>(qh3 _ _).mp ha) _ i1 fun x h0 h1=>⟨fun _=>i2 x h0 h1,fun h=>absurd ((qh3 _ _).mpr ⟨h0,h1⟩) h⟩
  refine ⟨j1,fun x h0 h1=>?_,fun row hr=>?_⟩
  ·rw[ye0 he,yju]
   exact j2 x h0 h1
  ·rcases j3 row hr with h|h
   ·exact i3 row h
   ·exact h
end
theorem yf0 {α:Type} (p q:α→Bool):∀ (l:List α),(∀ x∈l,p x=true→q x=true)→l.find? p=(l.filter q).find? p
 | [],_=>rfl
 | x::l,h=>by
  have ih:=yf0 p q l fun y hy=>h y (List.mem_cons_of_mem _ hy)
  cases hp:p x with
  | true=>rw[List.filter_cons_of_pos (h x (List.mem_cons_self ..) hp),List.find?_cons,List.find?_cons,hp]
  | false=>
   rw[List.find?_cons,hp]
   cases hq:q x with
   | true=>rw[List.filter_cons_of_pos hq,List.find?_cons,hp];exact ih
   | false=>rw[List.filter_cons_of_neg (by rw[hq];simp)];exact ih
theorem qio {α β:Type} (f:α→β) (p:β→Bool) (p':α→Bool):∀ (l:List α),(∀ x∈l,p (f x)=p' x)→(l.map f).find? p=(l.find? p').map f
 | [],_=>rfl
 | x::l,h=>by
  rw[List.map_cons,List.find?_cons,List.find?_cons,h x (List.mem_cons_self ..),qio f p p' l fun y hy=>h y (List.mem_cons_of_mem _ hy)]
  cases p' x<;>rfl
theorem okH.rn {h:Hm}{ns:List Str}{f:Int→Int} (o:okH h ns) (hr:∀ c∈h.c,0≤f c∧f c<64) (hi:∀ a∈h.c,∀ b∈h.c,f a=f b→a=b):okH (rnH f h) ns where
 tab:=by show KTD.datumAt h.w tabP=some (qbs (h.c.map f).length ns);rw[List.length_map];exact o.tab
 rest:=o.rest
 cl:=by show 1≤(h.c.map f).length∧(h.c.map f).length≤2;rw[List.length_map];exact o.cl
 rl:=o.rl
 nd:=by
  show (h.c.map f).Nodup
  refine List.pairwise_map.mpr ?_
  refine List.Pairwise.imp_of_mem (fun {a b} ha hb hne z=>hne (hi a ha b hb z)) o.nd
 rg:=fun x hx=>by
  obtain ⟨c,hc,rfl⟩:=List.mem_map.mp hx
  exact hr c hc
theorem okHs.rn {hs:List Hm}{S:List Int}{f:Int→Int} (o:okHs hs S) (hr:∀ h∈hs,∀ c∈h.c,0≤f c∧f c<64) (hi:∀ h∈hs,∀ a∈h.c,∀ b∈h.c,f a=f b→a=b):okHs (hs.map (rnH f)) (S.map f) where
 len:=by rw[List.length_map];exact o.len
 ok:=fun g hg=>by
  obtain ⟨h,hh,rfl⟩:=List.mem_map.mp hg
  obtain ⟨ns,oh⟩:=o.ok h hh
  exact ⟨ns,oh.rn (hr h hh) (hi h hh)⟩
 sl:=by rw[List.length_map];exact o.sl
 mem:=fun g hg c hc=>by
  obtain ⟨h,hh,rfl⟩:=List.mem_map.mp hg
  obtain ⟨c',hc',rfl⟩:=List.mem_map.mp hc
  exact List.mem_map.mpr ⟨c',o.mem h hh c' hc',rfl⟩
def iD:V→PyData | .int i=>.int i|_=>.none
def Row4 (x:List V):Prop:=∃ i a p b:Int,x=[.int i,.int a,.int p,.int b]
def rwD (R:List (List V)):PyData:=.list (R.map fun x=>.tuple (x.map iD))
theorem qj4 {H:Hp}{D:Addr}{tv:List V}{R:List (List V)} (h:H D=some (.lst tv)) (ft:FT H tv R) (hr:∀ x∈R,Row4 x):At H (.ref D) (rwD R):=by
 refine .lst h ?_
 obtain ⟨hl,ha⟩:=ft
 clear h
 induction R generalizing tv with
 | nil=>rw[List.length_eq_zero_iff.mp hl];exact .nil
 | cons x R ih=>
  cases tv with
  | nil=>simp at hl
  | cons v tv=>
   obtain ⟨a,rfl,hx⟩:=ha 0 v x rfl rfl
   obtain ⟨i,c,p,b,rfl⟩:=hr x (List.mem_cons_self ..)
   exact .cons (.tup hx (.cons (.int i) (.cons (.int c) (.cons (.int p) (.cons (.int b) .nil))))) (ih (fun y hy=>hr y (List.mem_cons_of_mem _ hy)) (by simpa using hl) fun j w y h1 h2=>ha (j+1) w y h1 h2)
theorem qc9 {R:List (List V)} (hr:∀ x∈R,Row4 x):(rwD R).canLay0=true∧(rwD R).depth≤60:=by
 constructor
 ·show PyData.canLayAll0 _=true
  induction R with
  | nil=>rfl
  | cons x R ih=>
   obtain ⟨i,c,p,b,rfl⟩:=hr x (List.mem_cons_self ..)
   show (true&&PyData.canLayAll0 (R.map fun x=>PyData.tuple (x.map iD)))=true
   rw[ih fun y hy=>hr y (List.mem_cons_of_mem _ hy)]
   rfl
 ·have:=qcu (n:=2) (xs:=R.map fun x=>PyData.tuple (x.map iD)) fun y hy=>by
   obtain ⟨x,hx,rfl⟩:=List.mem_map.mp hy
   obtain ⟨i,c,p,b,rfl⟩:=hr x hx
   simp[PyData.depth,PyData.depthAll,iD]
  show (PyData.list _).depth≤60
  simp only[PyData.depth]
  omega
theorem ybv {T:List Elm}{R:List (List V)} (h:∀ x∈R,ylf T x):∀ x∈R,Row4 x:=fun x hx=>by
 obtain ⟨i,p,a,b,_,_,e,_⟩:=h x hx
 exact ⟨i,a,p,b,e⟩
theorem mv4 {own:List Int}{x:List V} (h:Row4 x):Row4 (mvR own x):=by
 obtain ⟨i,a,p,b,rfl⟩:=h
 exact ⟨i,_,p,b,rfl⟩
theorem bad_mv {own:List Int}{T:List Elm}{x:List V} (h:ylf T x):badR T (mvR own x)=badR T x:=by
 obtain ⟨i,p,a,b,e,s,rfl,he,hs⟩:=h
 show badR T [.int i,.int (own.getD a.toNat 0),.int p,.int b]=_
 rw[yfj he hs,yfj he hs]
theorem yk9 (hs:List Hm) {n:Nat}{T:List Elm} (os:List Str) (cs:List Int):∀ k,∀ x∈(runR hs n T os ([],cs) k).1,0≤adR x∧adR x<n
 | 0,x,h=>by simp[runR] at h
 | k+1,x,h=>by
  have ih:=yk9 hs (n:=n) (T:=T) os cs k
  rw[ybp] at h
  unfold yhl elR at h
  have go:∀ (ss:List Stp) (l:List (Int×Nat)) (st:RS),(∀ y∈l,0≤y.1∧y.1<n)→(∀ y∈st.1,0≤adR y∧adR y<n)→∀ y∈(l.foldl (qaq hs ss k) st).1,0≤adR y∧adR y<n:=by
   intro ss l
   induction l with
   | nil=>intro st _ h y hy;exact h y hy
   | cons z l ih=>
    intro st hl h y hy
    rw[List.foldl_cons] at hy
    refine ih _ (fun y hy=>hl y (List.mem_cons_of_mem _ hy)) ?_ y hy
    intro y hy
    unfold qaq at hy
    split at hy
    ·exact h y hy
    ·rcases List.mem_append.mp hy with hy|hy
     ·exact h y hy
     ·rw[List.mem_singleton.mp hy]
      exact hl z (List.mem_cons_self ..)
  exact go _ _ _ (fun y hy=>by have:=ylz hy;exact ⟨this.1,this.2.1⟩) ih x h
section
variable {P:Program}{w:World}{K:PySem.W.Frag}{mg:Str→Option Value}{base:Heap}{C:Addr}
def qjq:Sp:=fun vs H Q _=>∃ (t L0 C0 O:Addr) (T:List Elm) (os:List Str) (us:List V) (hs:List Hm) (S cs:List Int),vs=[.ref t,.int (cs.length:Nat),.ref L0,.ref C0,.ref O]∧At H (.ref t) (qcs T)∧okT T∧H L0=some (.lst us)∧HsV H us hs∧okHs hs S∧1≤hs.length∧InR hs cs.length∧H C0=some (.lst (cs.map V.int))∧bits cs∧1≤cs.length∧cs.length≤64∧H O=some (.lst (os.map V.str))∧OrdOk T os∧∀ H',Same H H'→Q (.bl true) H'
abbrev qce:Stmt:=top 84
theorem qen:FnScope ["_law_test_here","_law_size","_law_harms_here","_law_contents","_law_orders_here","_law_cells","_law_small","_law_own","_law_told","_law_few","_law_due","_law_sound","_law_one","_law_other"] ["_law_test_here","_law_size","_law_harms_here","_law_contents","_law_orders_here"] (qad qce):=⟨rfl,rfl,rfl,by decide +kernel,rfl,by decide +kernel,by decide +kernel⟩
theorem ok_right (B:Bl mg) (yby:Has P w K mg base 7 "cells_of" ["harms"] qcb) (h_little:Has P w K mg base 9 "little" ["harms"] qit) (yco:Has P w K mg base 11 "reads_of" ["test","size","harms","contents","orders"] yd7) (qj8:Has P w K mg base 4 "_law_run" ["_law_test_here","_law_size","_law_harms_here","_law_contents","_law_orders_here"] sp_run)
  (yky:Has P w K mg base 6 "is_sure" ["test"] ygv) (yec:Has P w K mg base 12 "first_shown" ["test","size","harms","contents","orders"] yd0)
  (F:FnAt K mg "_law_right" qce ["_law_test_here","_law_size","_law_harms_here","_law_contents","_law_orders_here"]):Has P w K mg base 13 "_law_right" ["_law_test_here","_law_size","_law_harms_here","_law_contents","_law_orders_here"] qjq:=by
 refine Has.ofQ F qen (fun vs H Q E h=>?_) (fun f cdv A outer s H vs Q E hr h=>?_)
 ·obtain ⟨t,L0,C0,O,T,os,us,hs,S,cs,rfl,_⟩:=h
  rfl
 ·obtain ⟨t,L0,C0,O,T,os,us,hs,S,cs,rfl,ht,okt,hL,hv,ok,hs1,ir,hC,hb,n1,n64,hO,oo,k⟩:=h
  have sc:=qen
  refine ⟨_,(qaz rfl (yaf (qat (i:=5) sc.nd rfl (Or.inr rfl) (qao yby hr (yal (yac (pv 2)) qal)))
   (yaf (qat (i:=6) sc.nd rfl (Or.inl rfl) (qao h_little hr (yal (yac (pv 2)) qal)))
   (yaf (yeu (ydg (i:=7) rfl sc.nd rfl (Or.inl rfl) rfl (qas rfl) (M:=["_law_cell","_law_contents"]) (ix:=[none,some 3]) (qar (pv 5)) (fun _ _ _ _=>(qag (i:=0) (show List.Nodup (["_law_cell","_law_contents"]:List Str) by decide +kernel) rfl (Or.inl rfl))) (fun _ _ _ _=>qcv) (fun _ _ _ _=>(qah (ycy (K:=K) rfl) (pv 1) (pv 0) (fun _ _=>rfl)))))
   (yaf (qat (i:=8) sc.nd rfl (Or.inl rfl) (qao yco hr (yal (yac (pv 0)) (yal (yac (pv 1)) (yal (yac (pv 2)) (yal (yac (pv 3)) (yal (yac (pv 4)) qal)))))))
   (yaf (qat (i:=9) sc.nd rfl (Or.inl rfl) (qao yco hr (yal (yac (pv 0)) (qhy (yc2 yag rfl (B.of rfl) boot_len (yal (yac (pv 5)) qal)) (yal (yac (pv 6)) (yal (yac (pv 7)) (yal (yac (pv 4)) qal)))))))
   (yaf (yb7 (ycb (qh6 hr) (yac (pv 9)) (qao qj8 hr (yal (yac (pv 0)) (qhy (yc2 yag rfl (B.of rfl) boot_len (yal (yac (pv 5)) qal)) (yal (yac (pv 6)) (yal (yac (pv 7)) (yal (yac (pv 4)) qal)))))) (qai _))
    (yak (qay (yac ygm)))
    qa5)
   (yaf (yeu (ydg (i:=10) rfl sc.nd rfl (Or.inl rfl) rfl (qas rfl) (M:=["_law_row","_law_cells"]) (ix:=[none,some 5]) (qar (pv 9)) (fun _ _ _ _=>(qag (i:=0) (show List.Nodup (["_law_row","_law_cells"]:List Str) by decide +kernel) rfl (Or.inl rfl))) (fun _ _ _ _=>qcv) (fun _ _ _ _=>(qbf (qaa (qah (ya7 (K:=K) rfl) (pv 0) qab (fun _ _=>rfl)) (qaa (qah (ycy (K:=K) rfl) (pv 1) (qah (ya7 (K:=K) rfl) (pv 0) qab (fun _ _=>rfl)) (fun _ _=>rfl)) (qaa (qah (ya7 (K:=K) rfl) (pv 0) qab (fun _ _=>rfl)) (qaa (qah (ya7 (K:=K) rfl) (pv 0) qab (fun _ _=>rfl)) yab))))))))
   (yaf (yb7 (ycb (qh6 hr) (yac (qca rfl (qas rfl) (M:=["_law_row","_law_cells"]) (ix:=[none,some 5]) (qar (pv 8)) (fun _ _ _ _=>(qag (i:=0) (show List.Nodup (["_law_row","_law_cells"]:List Str) by decide +kernel) rfl (Or.inl rfl))) (fun _ _ _ _=>(ycm (yah (qew (K:=K) rfl) (qah (ya7 (K:=K) rfl) (pv 0) qab (fun _ _=>rfl)) (pv 1) (by with_unfolding_all rfl)))) (fun _ _ _ _=>(pv 0)))) (yac (pv 10)) (qai _))
    (yak (qay (yac ygm)))
    qa5)
   (yaf (yeu (ydg (i:=11) rfl sc.nd rfl (Or.inl rfl) rfl (qas rfl) (M:=["_law_row","_law_cells"]) (ix:=[none,some 5]) (qar (qaf yco hr (qaw (pv 0) (qaw (pv 1) (qaa (qau yab) (qaw (pv 3) (qaw (pv 4) yab))))))) (fun _ _ _ _=>(qag (i:=0) (show List.Nodup (["_law_row","_law_cells"]:List Str) by decide +kernel) rfl (Or.inl rfl))) (fun _ _ _ _=>(ycm (yah (qcw (K:=K) rfl) (qah (ya7 (K:=K) rfl) (pv 0) qab (fun _ _=>rfl)) (pv 1) (by with_unfolding_all rfl)))) (fun _ _ _ _=>(pv 0))))
   (yaf (yb7 (ycb (qh6 hr) (yac (qca rfl (qas rfl) (M:=["_law_row","_law_cells"]) (ix:=[none,some 5]) (qar (pv 8)) (fun _ _ _ _=>(qag (i:=0) (show List.Nodup (["_law_row","_law_cells"]:List Str) by decide +kernel) rfl (Or.inl rfl))) (fun _ _ _ _=>(ycm (yah (qcw (K:=K) rfl) (qah (ya7 (K:=K) rfl) (pv 0) qab (fun _ _=>rfl)) (pv 1) (by with_unfolding_all rfl)))) (fun _ _ _ _=>(pv 0)))) (yac (pv 11)) (qai _))
    (yak (qay (yac ygm)))
    qa5)
   (yaf (yb7 (qht (qgb (qao yky hr (yal (yac (pv 0)) qal))))
    (yak (qay (yac ygm)))
    qa5)
   (yaf (qat (i:=12) sc.nd rfl (Or.inl rfl) (qao yec hr (yal (yac (pv 0)) (yal (yac (pv 1)) (yal (yac (pv 2)) (yal (yac (pv 3)) (yal (yac (pv 4)) qal)))))))
   (yaf (qat (i:=13) sc.nd rfl (Or.inl rfl) (qao yec hr (yal (yac (pv 0)) (qhy (yc2 yag rfl (B.of rfl) boot_len (yal (yac (pv 5)) qal)) (yal (yac (pv 6)) (yal (yac (pv 7)) (yal (yac (pv 4)) qal)))))))
   (yaf (yb7 (QW.pt (qw_or (qt_of (qf0 (qgv (pv 12)))) (qw_or1 (qt_of (qf0 (qgv (pv 13)))))))
    (yak (qay (yac (qa9 (pe_cmp (qgv (pv 12))) (qb4 (pe_cmp (qgv (pv 13))))))))
    qa5)
   (yak (qay (yjh (qjr hr) (yac (pv 12)) (qfd (qd5 (qbp qak (yac (pv 13)) (yac qab) (fun _ _=>rfl)) (qd5 (qbp qaj (yac (pv 5)) (qbp qak (yac (pv 13)) (yac qab) (fun _ _=>rfl)) (fun _ _=>rfl)) (qd5 (qbp qak (yac (pv 13)) (yac qab) (fun _ _=>rfl)) qal)))) (qai _))))))))))))))))))),?_⟩
  refine ⟨_,rfl,L0,us,hs,S,rfl,hL,hv,ok,fun D ns H1 s1 nD eD hpm hso=>?_⟩
  have eown:=ylj hpm hso
  subst eown
  have hnd:=own_nd hs
  have hmem:∀ h∈hs,∀ c∈h.c,c∈ownC hs:=fun h hh c hc=>yi6 hh hc
  have few3:=yjg ok
  have orig:∀ c∈ownC hs,∃ h∈hs,c∈h.c:=fun c hc=>by
   have:=(qfl _ c).mp ((yd9 hs).mem_iff.mp hc)
   exact List.mem_flatMap.mp this
  have rg:∀ c∈ownC hs,0≤c∧c<cs.length:=fun c hc=>by
   obtain ⟨h,hh,hc⟩:=orig c hc
   exact ir h hh c hc
  have ow:Own (ownC hs) cs.length:=⟨yjk hs,hnd,rg⟩
  have xin:In (ownC hs) cs.length hs:=⟨ok.ok,hmem,rg⟩
  have m1:1≤(ownC hs).length:=by
   cases hz:(ownC hs) with
   | cons a l=>simp
   | nil=>
    cases hs with
    | nil=>simp at hs1
    | cons h hs=>
     obtain ⟨ns',o⟩:=ok.ok h (List.mem_cons_self ..)
     have:h.cell 0∈ownC (h::hs):=(xin.c0 (List.mem_cons_self ..)).1
     rw[hz] at this;cases this
  have hrun:=run_all xin ow T os rfl T.length
  -- the little ones
  refine ⟨_,rfl,L0,us,hs,S,rfl,s1 _ _ hL,hv.same s1,ok,fun Ls us' H2 s2 nLs eLs hv'=>?_⟩
  have s12:=s1.trans s2
  have ok':okHs (hs.map (rnH (ixF (ownC hs)))) (S.map (ixF (ownC hs))):=ok.rn (fun h hh c hc=>by
   have:=yko (hmem h hh c hc)
   omega) fun h hh a ha b hb e=>(yce (hmem h hh a ha) (hmem h hh b hb)).mp e
  have irm:InR (hs.map (rnH (ixF (ownC hs)))) (ownC hs).length:=fun h' hh' c hc=>by
   obtain ⟨h,hh,rfl⟩:=List.mem_map.mp hh'
   obtain ⟨c0,hc0,rfl⟩:=List.mem_map.mp (show c∈h.c.map (ixF (ownC hs)) from hc)
   exact yko (hmem h hh c0 hc0)
  revert hrun ok' irm hv'
  generalize hh2:hs.map (rnH (ixF (ownC hs)))=hs2
  have hs2l:hs2.length≤3:=by rw[← hh2,List.length_map];exact ok.len
  generalize hown:ownC hs=own at *
  intro hrun hv' ok' irm
  have eD2:=s2 _ _ eD
  -- their own contents
  refine ⟨_,rfl,D,rfl,⟨_,SqL.of eD2⟩,fun Co nCo=>qba (n:=own.length) (fun i H'=>Same H2 H'∧H' Co=some (.lst (((own.take i).map (rd cs)).map V.int))) ⟨(Same.refl H2).upd nCo,yaa⟩ ?_ ?_⟩
  rotate_left
  ·rintro i H3 hi ⟨s3,e3⟩
   have eD3:=s3 _ _ eD2
   refine ⟨⟨_,_,SqL.of eD3,by rw[List.getElem?_map,List.getElem?_eq_getElem hi];rfl⟩,?_⟩
   rintro x H4 ⟨rfl,hx⟩
   obtain ⟨c,hc,rfl⟩:=qa7 (hx _ (SqL.of eD3))
   have rc:=rg c (List.mem_of_getElem? hc)
   refine ⟨yau.set (yau.refl _) rfl,yes ?_⟩
   refine ⟨_,rfl,_,rfl,C0,_,_,_,rfl,rfl,SqL.of (s3 _ _ (s12 _ _ hC)),qc1 rc.1 rc.2,?_⟩
   refine ⟨_,e3,ya9 (by rw[List.length_map,List.length_map,List.length_take];omega),s3.at nCo,?_⟩
   rw[yaa,List.take_add_one,hc]
   simp
  rintro H3 ⟨s3,e3⟩
  rw[List.take_length] at e3
  refine ⟨⟨_,SqL.of (s3 _ _ eD2),by simp⟩,?_⟩
  have s13:=s12.trans s3
  have hbo:bits (own.map (rd cs)):=fun c hc=>by
   obtain ⟨c0,hc0,rfl⟩:=List.mem_map.mp hc
   have r0:=rg c0 hc0
   refine hb _ ?_
   unfold rd
   rw[List.getD_eq_getElem?_getD,List.getElem?_eq_getElem (by omega)]
   exact List.getElem_mem _
  have lo:(own.map (rd cs)).length=own.length:=List.length_map ..
  -- what is told
  refine ⟨_,rfl,_,rfl,_,rfl,_,rfl,_,rfl,t,L0,C0,O,T,os,us,hs,S,cs,rfl,ht.same s13,okt,s13 _ _ hL,hv.same s13,ok,ir,s13 _ _ hC,hb,n1,n64,s13 _ _ hO,oo,fun Dt tv H4 s4 nDt eDt ft=>?_⟩
  have s14:=s13.trans s4
  have s34:=s4
  have eLs4:=(s3.trans s4) _ _ eLs
  have hv4:=hv'.same (s3.trans s4)
  have eCo4:=s4 _ _ e3
  have eD4:=(s3.trans s4) _ _ eD2
  refine ⟨_,rfl,_,rfl,D,_,rfl,.inl (SqL.of eD4),_,rfl,_,rfl,_,rfl,t,Ls,Co,O,T,os,us',hs2,_,own.map (rd cs),?_,ht.same s14,okt,eLs4,hv4,ok',by rw[lo];exact irm,eCo4,hbo,by omega,by omega,s14 _ _ hO,oo,fun Df fv H5 s5 nDf eDf ff=>?_⟩
  ·rw[List.length_map,lo];rfl
  have s15:=s14.trans s5
  have s45:=s5
  refine ⟨_,rfl,_,rfl,_,rfl,D,_,rfl,.inl (SqL.of (s5 _ _ eD4)),_,rfl,_,rfl,_,rfl,t,Ls,Co,O,T,os,us',hs2,own.map (rd cs),?_,ht.same s15,okt,⟨fun z=>?_,s5 _ _ eLs4,hv4.same s5,ok'.ok,s5 _ _ eCo4⟩,hs2l,by rw[lo];exact irm,by omega,s15 _ _ hO,oo,fun Dr rv H6 s6 nDr eDr fr=>?_⟩
  ·rw[List.length_map,lo];rfl
  ·rw[z,nCo] at eLs;cases eLs
  rw[lo] at ff fr
  have hRw:=qdc hs (n:=cs.length) (T:=T) os (yan hs cs) T.length (Nat.le_refl _)
  have hrw:=qdc hs2 (n:=own.length) (T:=T) os (yan hs2 (own.map (rd cs))) T.length (Nat.le_refl _)
  have hrad:=yk9 hs2 (n:=own.length) (T:=T) os (yan hs2 (own.map (rd cs))) T.length
  have hRl:=(qdp hs okt n64 os ([],yan hs cs) T.length).2
  have hrl:=(qdp hs2 okt (n:=own.length) (by omega) os ([],yan hs2 (own.map (rd cs))) T.length).2
  have h8:=okt.2.1
  have hin:=hrun.ins
  have hout:=hrun.out
  simp only[List.length_nil,Nat.zero_add] at hRl hrl
  clear hrun
  generalize hRg:(runR hs cs.length T os ([],yan hs cs) T.length).1=R at *
  generalize hrg:(runR hs2 own.length T os ([],yan hs2 (own.map (rd cs))) T.length).1=r at *
  refine ⟨_,_,qj4 (s6 _ _ eDf) (ff.same s6) (ybv hrw),qj4 eDr fr (ybv hrw),(qc9 (ybv hrw)).1,(qc9 (ybv hrw)).1,(qc9 (ybv hrw)).2,_,rfl,iteN (by rw[SeqAt.eqv_refl _ (qc9 (ybv hrw)).1];rfl) ?_⟩
  have s16:=s15.trans s6
  have eD6:=(s5.trans s6) _ _ eD4
  have eDf6:=s6 _ _ eDf
  have ff6:=ff.same s6
  have eDt6:=(s5.trans s6) _ _ eDt
  have ft6:=ft.same (s5.trans s6)
  clear fr eDr
  have z4:4≤sizeLine:=by decide
  have hsl:(sizeLine:Nat)=16777216:=sizeLine_eq
  -- what is due
  refine ⟨_,rfl,Df,rfl,⟨_,SqL.of eDf6⟩,fun Du nDu=>qba (n:=fv.length) (fun i H'=>Same H6 H'∧∃ ws,H' Du=some (.lst ws)∧FT H' ws ((r.take i).map (mvR own))) ⟨(Same.refl H6).upd nDu,[],yaa,.nil⟩ ?_ ?_⟩
  rotate_left
  ·rintro i H7 hi ⟨s7,ws,e7,f7⟩
   have eDf7:=s7 _ _ eDf6
   refine ⟨⟨_,_,SqL.of eDf7,List.getElem?_eq_getElem hi⟩,?_⟩
   rintro x H8 ⟨rfl,hx⟩
   obtain ⟨row,ra,hrow,rfl,hra⟩:=(ff6.same s7).get (hx _ (SqL.of eDf7))
   have ad:=hrad row (List.mem_of_getElem? hrow)
   obtain ⟨a1,a2,a3,a4,rfl⟩:=ybv hrw row (List.mem_of_getElem? hrow)
   have ad':0≤a2∧a2<own.length:=ad
   refine ⟨yau.set (yau.refl _) rfl,yes ?_⟩
   have hget:atI (own.map V.int) a2=some (.int (own.getD a2.toNat 0)):=by
    refine qe0 ad'.1 ?_
    rw[List.getElem?_map,List.getD_eq_getElem?_getD,List.getElem?_eq_getElem (by omega)]
    rfl
   refine ⟨_,rfl,ra,_,_,_,rfl,rfl,SqT.of hra,qac 0 rfl,_,rfl,_,rfl,ra,_,_,_,rfl,rfl,SqT.of hra,qac 1 rfl,D,_,_,_,rfl,rfl,SqL.of (s7 _ _ eD6),hget,_,rfl,ra,_,_,_,rfl,rfl,SqT.of hra,qac 2 rfl,_,rfl,ra,_,_,_,rfl,rfl,SqT.of hra,qac 3 rfl,z4,fun tp ntp=>?_⟩
   have wl:=f7.len
   rw[List.length_map,List.length_take] at wl
   have st:Same H8 (upd H8 tp (.tup [.int a1,.int (own.getD a2.toNat 0),.int a3,.int a4])):=(Same.refl H8).upd ntp
   refine ⟨ws,st _ _ e7,ya9 (by omega),(s7.trans st).at nDu,ws++[.ref tp],yaa,?_⟩
   rw[List.take_add_one,hrow,List.map_append]
   refine FT.snoc ((f7.same st).put (st _ _ e7)) ?_
   rw[yaj (fun z=>by rw[z,e7] at ntp;cases ntp)]
   exact yaa
  rintro H7 ⟨s7,ws,e7,f7⟩
  rw[ff6.len,List.take_length] at f7
  refine ⟨⟨_,SqL.of (s7 _ _ eDf6),Nat.le_refl _⟩,?_⟩
  have eD7:=s7 _ _ eD6
  have eDt7:=s7 _ _ eDt6
  have ft7:=ft6.same s7
  have fl:(own.map V.int).all qdb=true:=by simp[qdb]
  have hmv4:∀ x∈r.map (mvR own),Row4 x:=fun x hx=>by
   obtain ⟨y,hy,rfl⟩:=List.mem_map.mp hx
   exact mv4 (ybv hrw y hy)
  -- told at the harmed cells
  refine ⟨_,rfl,Dt,rfl,⟨_,SqL.of eDt7⟩,fun Dv nDv=>qba (n:=tv.length) (fun i H'=>Same H7 H'∧∃ vs,H' Dv=some (.lst vs)∧FT H' vs ((R.take i).filter (inO own))) ⟨(Same.refl H7).upd nDv,[],yaa,.nil⟩ ?_ ?_⟩
  rotate_left
  ·rintro i H8 hi ⟨s8,vs,e8,f8⟩
   have eDt8:=s8 _ _ eDt7
   refine ⟨⟨_,_,SqL.of eDt8,List.getElem?_eq_getElem hi⟩,?_⟩
   rintro x H9 ⟨rfl,hx⟩
   obtain ⟨row,ra,hrow,rfl,hra⟩:=(ft7.same s8).get (hx _ (SqL.of eDt8))
   obtain ⟨a1,a2,a3,a4,rfl⟩:=ybv hRw row (List.mem_of_getElem? hrow)
   refine ⟨yau.set (yau.refl _) rfl,?_⟩
   refine ⟨_,rfl,ra,_,_,_,rfl,rfl,SqT.of hra,qac 1 rfl,_,rfl,D,_,rfl,.inl (SqL.of (s8 _ _ eD7)),rfl,fl,_,rfl,?_⟩
   have wl:=f8.len
   have fle:=List.length_filter_le (inO own) (R.take i)
   rw[List.length_take] at fle
   have hd:inO own [.int a1,.int a2,.int a3,.int a4]=decide (a2∈own):=rfl
   by_cases hm:a2∈own
   ·refine iteB (by show inV (.int a2) _=true;rw[ycd];exact decide_eq_true hm) ?_
    refine ⟨_,rfl,vs,e8,ya9 (by omega),s8.at nDv,vs++[.ref ra],yaa,?_⟩
    rw[List.take_add_one,hrow,List.filter_append]
    show FT _ _ (_++[_].filter _)
    rw[qjm (by rw[hd];exact decide_eq_true hm)]
    refine FT.snoc (f8.put e8) ?_
    rw[yaj (fun z=>by rw[z,e8] at hra;cases hra)]
    exact hra
   ·refine iteN (by show inV (.int a2) _=false;rw[ycd];exact decide_eq_false hm) ?_
    refine ⟨s8,vs,e8,?_⟩
    rw[List.take_add_one,hrow,List.filter_append]
    show FT _ _ (_++[_].filter _)
    rw[ygs (by rw[hd];exact decide_eq_false hm),List.append_nil]
    exact f8
  rintro H8 ⟨s8,vs,e8,f8⟩
  rw[ft7.len,List.take_length,hin] at f8
  refine ⟨⟨_,SqL.of (s8 _ _ eDt7),Nat.le_refl _⟩,?_⟩
  refine ⟨_,rfl,_,_,qj4 e8 f8 hmv4,qj4 (s8 _ _ e7) (f7.same s8) hmv4,(qc9 hmv4).1,(qc9 hmv4).1,(qc9 hmv4).2,_,rfl,iteN (by rw[SeqAt.eqv_refl _ (qc9 hmv4).1];rfl) ?_⟩
  have s18:=(s16.trans s7).trans s8
  have eD8:=s8 _ _ eD7
  clear f7 e7 f8 e8
  -- the sound ones
  refine ⟨_,rfl,_,rfl,Nat.zero_le _,fun En nEn=>?_⟩
  have sE:Same H8 (upd H8 En (.lst [])):=(Same.refl H8).upd nEn
  have eE:upd H8 En (.lst []) En=some (.lst []):=yaa
  revert sE eE
  generalize upd H8 En (.lst [])=H9
  intro sE eE
  have s19:=s18.trans sE
  refine ⟨_,rfl,_,rfl,t,En,C0,O,T,os,[],[],[],cs,rfl,ht.same s19,okt,eE,⟨rfl,fun i v h a=>by simp at a⟩,⟨by decide,fun h hh=>(by cases hh),by decide,fun h hh=>(by cases hh)⟩,fun h hh=>(by cases hh),s19 _ _ hC,hb,n1,n64,s19 _ _ hO,oo,fun Dz zv HA sA nDz eDz fz=>?_⟩
  have hR0w:=qdc [] (n:=cs.length) (T:=T) os (yan [] cs) T.length (Nat.le_refl _)
  have hR0l:=(qdp [] okt n64 os ([],yan [] cs) T.length).2
  simp only[List.length_nil,Nat.zero_add] at hR0l
  have hsure:=fun h=>(qjy (n:=cs.length) (T:=T) h os (cs:=yan [] cs) (by rw[yd6]) T.length (Nat.le_refl _)).2.2
  generalize hR0g:(runR [] cs.length T os ([],yan [] cs) T.length).1=R0 at *
  have s1A:=s19.trans sA
  have s8A:=sE.trans sA
  have eDA:=s8A _ _ eD8
  refine ⟨Dz,rfl,⟨_,SqL.of eDz⟩,fun Ds nDs=>qba (n:=zv.length) (fun i H'=>Same HA H'∧∃ vs,H' Ds=some (.lst vs)∧FT H' vs ((R0.take i).filter fun x=>!inO own x)) ⟨(Same.refl HA).upd nDs,[],yaa,.nil⟩ ?_ ?_⟩
  rotate_left
  ·rintro i HX hi ⟨s8,vs,e8,f8⟩
   have eS:=s8 _ _ eDz
   refine ⟨⟨_,_,SqL.of eS,List.getElem?_eq_getElem hi⟩,?_⟩
   rintro x HY ⟨rfl,hx⟩
   obtain ⟨row,ra,hrow,rfl,hra⟩:=(fz.same s8).get (hx _ (SqL.of eS))
   obtain ⟨a1,a2,a3,a4,rfl⟩:=ybv hR0w row (List.mem_of_getElem? hrow)
   refine ⟨yau.set (yau.refl _) rfl,?_⟩
   refine ⟨_,rfl,ra,_,_,_,rfl,rfl,SqT.of hra,qac 1 rfl,_,rfl,D,_,rfl,.inl (SqL.of (s8 _ _ eDA)),rfl,fl,_,rfl,?_⟩
   have wl:=f8.len
   have fle:=List.length_filter_le (fun x=>!inO own x) (R0.take i)
   rw[List.length_take] at fle
   have hd:(!inO own [.int a1,.int a2,.int a3,.int a4])=!decide (a2∈own):=rfl
   by_cases hm:a2∈own
   ·refine iteN (by show (!inV (.int a2) _)=false;rw[ycd,decide_eq_true hm];rfl) ?_
    refine ⟨s8,vs,e8,?_⟩
    rw[List.take_add_one,hrow,List.filter_append]
    show FT _ _ (_++[_].filter _)
    rw[ygs (by rw[hd,decide_eq_true hm];rfl),List.append_nil]
    exact f8
   ·refine iteB (by show (!inV (.int a2) _)=true;rw[ycd,decide_eq_false hm];rfl) ?_
    refine ⟨_,rfl,vs,e8,ya9 (by omega),s8.at nDs,vs++[.ref ra],yaa,?_⟩
    rw[List.take_add_one,hrow,List.filter_append]
    show FT _ _ (_++[_].filter _)
    rw[qjm (by rw[hd,decide_eq_false hm];rfl)]
    refine FT.snoc (f8.put e8) ?_
    rw[yaj (fun z=>by rw[z,e8] at hra;cases hra)]
    exact hra
  rintro HB ⟨sB,sv,eB,fB⟩
  rw[fz.len,List.take_length,← hout] at fB
  refine ⟨⟨_,SqL.of (sB _ _ eDz),Nat.le_refl _⟩,?_⟩
  have s1B:=s1A.trans sB
  have eDB:=sB _ _ eDA
  have eDtB:=((s8.trans s8A).trans sB) _ _ eDt7
  have ftB:=ft7.same ((s8.trans s8A).trans sB)
  refine ⟨_,rfl,Dt,rfl,⟨_,SqL.of eDtB⟩,fun Dw nDw=>qba (n:=tv.length) (fun i H'=>Same HB H'∧∃ vs,H' Dw=some (.lst vs)∧FT H' vs ((R.take i).filter fun x=>!inO own x)) ⟨(Same.refl HB).upd nDw,[],yaa,.nil⟩ ?_ ?_⟩
  rotate_left
  ·rintro i HX hi ⟨s8,vs,e8,f8⟩
   have eS:=s8 _ _ eDtB
   refine ⟨⟨_,_,SqL.of eS,List.getElem?_eq_getElem hi⟩,?_⟩
   rintro x HY ⟨rfl,hx⟩
   obtain ⟨row,ra,hrow,rfl,hra⟩:=(ftB.same s8).get (hx _ (SqL.of eS))
   obtain ⟨a1,a2,a3,a4,rfl⟩:=ybv hRw row (List.mem_of_getElem? hrow)
   refine ⟨yau.set (yau.refl _) rfl,?_⟩
   refine ⟨_,rfl,ra,_,_,_,rfl,rfl,SqT.of hra,qac 1 rfl,_,rfl,D,_,rfl,.inl (SqL.of (s8 _ _ eDB)),rfl,fl,_,rfl,?_⟩
   have wl:=f8.len
   have fle:=List.length_filter_le (fun x=>!inO own x) (R.take i)
   rw[List.length_take] at fle
   have hd:(!inO own [.int a1,.int a2,.int a3,.int a4])=!decide (a2∈own):=rfl
   by_cases hm:a2∈own
   ·refine iteN (by show (!inV (.int a2) _)=false;rw[ycd,decide_eq_true hm];rfl) ?_
    refine ⟨s8,vs,e8,?_⟩
    rw[List.take_add_one,hrow,List.filter_append]
    show FT _ _ (_++[_].filter _)
    rw[ygs (by rw[hd,decide_eq_true hm];rfl),List.append_nil]
    exact f8
   ·refine iteB (by show (!inV (.int a2) _)=true;rw[ycd,decide_eq_false hm];rfl) ?_
    refine ⟨_,rfl,vs,e8,ya9 (by omega),s8.at nDw,vs++[.ref ra],yaa,?_⟩
    rw[List.take_add_one,hrow,List.filter_append]
    show FT _ _ (_++[_].filter _)
    rw[qjm (by rw[hd,decide_eq_false hm];rfl)]
    refine FT.snoc (f8.put e8) ?_
    rw[yaj (fun z=>by rw[z,e8] at hra;cases hra)]
    exact hra
  rintro HC ⟨sC,wv,eC,fC⟩
  rw[ftB.len,List.take_length] at fC
  refine ⟨⟨_,SqL.of (sC _ _ eDtB),Nat.le_refl _⟩,?_⟩
  have hf4:∀ x∈R.filter (fun x=>!inO own x),Row4 x:=fun x hx=>ybv hRw x (List.mem_filter.mp hx).1
  refine ⟨_,rfl,_,_,qj4 eC fC hf4,qj4 (sC _ _ eB) (fB.same sC) hf4,(qc9 hf4).1,(qc9 hf4).1,(qc9 hf4).2,_,rfl,iteN (by rw[SeqAt.eqv_refl _ (qc9 hf4).1];rfl) ?_⟩
  have s1C:=s1B.trans sC
  have eDC:=sC _ _ eDB
  have s4C:Same H4 HC:=((((s5.trans s6).trans s7).trans (s8.trans s8A)).trans sB).trans sC
  -- sure ones
  refine ⟨_,rfl,.ref t,T,rfl,ht.same s1C,okt,fun HD sD=>⟨_,rfl,?_⟩⟩
  cases hsu:ybn none (ybo T) with
  | false=>exact iteB rfl (k HD (s1C.trans sD))
  | true=>
   refine iteN rfl ?_
   have s1D:=s1C.trans sD
   have s4D:=s4C.trans sD
   have hok:=hsure hsu
   have hbadO:∀ x∈R,badR T x=true→inO own x=true:=fun x hx hbx=>by
    cases hi:inO own x with
    | true=>rfl
    | false=>
     have:x∈R.filter (fun x=>!inO own x):=List.mem_filter.mpr ⟨hx,by rw[hi];rfl⟩
     rw[hout] at this
     rw[hok x (List.mem_filter.mp this).1] at hbx
     cases hbx
   have hfind:R.find? (badR T)=(r.find? (badR T)).map (mvR own):=by
    rw[yf0 (badR T) (inO own) R hbadO,hin]
    exact qio _ _ _ r fun x hx=>bad_mv (hrw x hx)
   refine ⟨_,rfl,_,rfl,_,rfl,_,rfl,_,rfl,t,L0,C0,O,T,os,us,hs,S,cs,rfl,ht.same s1D,okt,s1D _ _ hL,hv.same s1D,ok,ir,s1D _ _ hC,hb,n1,n64,s1D _ _ hO,oo,fun v1 HE sEE sh1=>?_⟩
   rw[hRg,hfind] at sh1
   have s1E:=s1D.trans sEE
   have s4E:=s4D.trans sEE
   refine ⟨_,rfl,_,rfl,D,_,rfl,.inl (SqL.of (s4E _ _ eD4)),_,rfl,_,rfl,_,rfl,t,Ls,Co,O,T,os,us',hs2,_,own.map (rd cs),?_,ht.same s1E,okt,s4E _ _ eLs4,hv4.same s4E,ok',by rw[lo];exact irm,s4E _ _ eCo4,hbo,by omega,by omega,s1E _ _ hO,oo,fun v2 HF sF sh2=>?_⟩
   ·rw[List.length_map,lo];rfl
   rw[lo,hrg] at sh2
   have s1F:=s1E.trans sF
   cases hfr:r.find? (badR T) with
   | none=>
    rw[hfr] at sh1 sh2
    have e1:v1=.non:=sh1
    have e2:v2=.non:=sh2
    subst e1 e2
    refine ⟨_,rfl,_,rfl,iteB (decide_eq_true rfl) (iteT ?_)⟩
    refine ⟨_,rfl,_,rfl,iteB (decide_eq_true rfl) ⟨_,rfl,?_⟩⟩
    exact k HF s1F
   | some x=>
    have hxr:=List.mem_of_find?_eq_some hfr
    have ad:=hrad x hxr
    rw[hfr] at sh1 sh2
    obtain ⟨b1,b2,b3,b4,rfl⟩:=ybv hrw x hxr
    have ad':0≤b2∧b2<own.length:=ad
    obtain ⟨p1,rfl,hp1⟩:∃ a,v1=.ref a∧HE a=some (.tup [.int b1,.int (own.getD b2.toNat 0),.int b3]):=sh1
    obtain ⟨p2,rfl,hp2⟩:∃ a,v2=.ref a∧HF a=some (.tup [.int b1,.int b2,.int b3]):=sh2
    have hget:atI (own.map V.int) b2=some (.int (own.getD b2.toNat 0)):=by
     refine qe0 ad'.1 ?_
     rw[List.getElem?_map,List.getD_eq_getElem?_getD,List.getElem?_eq_getElem (by omega)]
     rfl
    refine ⟨_,rfl,_,rfl,iteN (decide_eq_false (fun z=>by cases z)) ?_⟩
    refine ⟨_,rfl,_,rfl,iteN (decide_eq_false (fun z=>by cases z)) ?_⟩
    refine ⟨_,rfl,_,rfl,p2,_,_,_,rfl,rfl,SqT.of hp2,qac 0 rfl,_,rfl,_,rfl,p2,_,_,_,rfl,rfl,SqT.of hp2,qac 1 rfl,D,_,_,_,rfl,rfl,SqL.of ((s4E.trans sF) _ _ eD4),hget,_,rfl,p2,_,_,_,rfl,rfl,SqT.of hp2,qac 2 rfl,(by show 3≤sizeLine;decide),fun tp ntp=>?_⟩
    have sT:Same HF (upd HF tp (.tup [.int b1,.int (own.getD b2.toNat 0),.int b3])):=(Same.refl HF).upd ntp
    have d3:∀ {H':Hp}{q:Addr},H' q=some (.tup [.int b1,.int (own.getD b2.toNat 0),.int b3])→At H' (.ref q) (.tuple [.int b1,.int (own.getD b2.toNat 0),.int b3]):=fun h=>.tup h (.cons (.int _) (.cons (.int _) (.cons (.int _) .nil)))
    refine ⟨_,_,d3 ((sF.trans sT) _ _ hp1),d3 yaa,rfl,rfl,by simp[PyData.depth,PyData.depthAll],?_⟩
    rw[SeqAt.eqv_refl _ rfl]
    exact k _ (s1F.trans sT)
end
theorem cells6 {ns:List Int}{at':Int} (h:0≤at'):∃ ms:List Int,cutV (ns.map V.int) (some at') (some (at' + 6))=ms.map V.int∧ms.length≤6:=by
 obtain ⟨n,rfl⟩:=Int.eq_ofNat_of_zero_le h
 refine ⟨(ns.drop (min n ns.length)).take (min (n+6) ns.length-min n ns.length),?_,?_⟩
 ·rw[show ((n:Int)+6)=((n+6:Nat):Int) by omega,qiy]
  simp only[List.length_map,List.map_take,List.map_drop]
 ·rw[List.length_take]
  omega
theorem cutUp {xs:List Int}{b:Nat}:cutV (xs.map V.int) none (some (b:Int))=(xs.take b).map V.int:=by
 unfold cutV
 rw[HT.sIx_nat]
 simp only[HT.sIx,List.length_map,List.drop_zero,Nat.sub_zero]
 rw[List.map_take]
 by_cases h:b≤xs.length
 ·rw[Nat.min_eq_left h]
 ·rw[Nat.min_eq_right (by omega),List.take_of_length_le (by simp),List.take_of_length_le (by simp;omega)]
theorem asg_go {te:TE}{g:TG}{rest:TS}{D:Ends}{σ:L2.St}{H:Hp}{R:V→Hp→Prop} (h:∀ Q:VK,(∀ v H',R v H'→Q v H')→te σ H Q) (k:∀ v H',R v H'→g v σ H' fun σ2 H2=>rest D σ2 H2):tSeq (tAsg te g) rest D σ H:=h _ k
section
variable {P:Program}{w:World}{K:PySem.W.Frag}{mg:Str→Option Value}{base:Heap}{C:Addr}
def yj0 (K:PySem.W.Frag):Sp:=fun vs H Q _=>∃ (a:Addr) (ns:List Int),vs=[.ref a]∧SqL K H a (ns.map V.int)∧ns.length≤63∧∀ H',Q (.bl true) H'
abbrev qhs:Stmt:=top 85
theorem sc_law:FnScope ["_law_script","_law_at","_law_cells","_law_d","_law_test_here","_law_size","_law_harms_here"] ["_law_script"] (qad qhs):=⟨rfl,rfl,rfl,by decide +kernel,rfl,by decide +kernel,by decide +kernel⟩
theorem ok_law (B:Bl mg) (qa6:Has P w K mg base 1 "_law_digits" ["_law_cell","_law_turn","_law_sizes"] ydm) (ydy:Has P w K mg base 1 "_law_cell_at" ["_law_script","_law_k"] (qf2 K)) (yiy:Has P w K mg base 2 "_law_test" ["_law_cells","_law_sure"] qli)
  (yii:Has P w K mg base 2 "_law_harms" ["_law_cell","_law_turn","_law_size","_law_most"] yjm) (qhh:Has P w K mg base 2 "_law_orders" ["_law_test_here","_law_cell"] qh8) (yh5:Has P w K mg base 13 "_law_right" ["_law_test_here","_law_size","_law_harms_here","_law_contents","_law_orders_here"] qjq)
  {f:Addr}{fd:FuncData} (F:Fun K "law" "law" qhs f fd):FnOk P w K mg base CX0 14 f fd ["_law_script"] (yj0 K):=by
 refine Mx.Fun.okQ F sc_law (fun vs H Q E h=>?_) (fun cdv A outer s H vs Q E hr h=>?_)
 ·obtain ⟨a,ns,rfl,_⟩:=h
  rfl
 ·obtain ⟨a,ns,rfl,hS,hnl,k⟩:=h
  have sc:=sc_law
  refine ⟨_,(qaz rfl (yaf (yd2 PassesOwn.never rfl (yja (qkx rfl (B.of rfl) (qaa qab (qaa (yai (ygi rfl) rfl (B.of rfl) boot_max (qaa qab (qaa (yai (yh9 rfl) rfl (B.of rfl) boot_min (qaa qab (qaa (yai yag rfl (B.of rfl) boot_len (qaa (pv 0) yab)) yab))) yab))) (qaa qab yab))))) (qag (i:=1) sc.nd rfl (Or.inl rfl))
    (yaf (qat (i:=2) sc.nd rfl (Or.inl rfl) (yac (qbb qdh (pv 0) (yba (pv 1)) (yba (ya3 yct (pv 1) qab)))))
    (yaf (qat (i:=3) sc.nd rfl (Or.inl rfl) (qao qa6 hr (qhy (qao ydy hr (yal (yac (pv 2)) (qck (yac qab) qal))) (qck (yac qab) (qa_bo (qfz ye3 (qdi (qck (yac qab) (qck (yac qab) (qck (yac qab) qal)))) (qfz qjv (qdi (qck (yac qab) qal)) (yac qab))) qal)))))
    (yaf (qat (i:=4) sc.nd rfl (Or.inl rfl) (qao yiy hr (qd5 (yac (qbb qdh (ya3 ye3 (qbb qdh (pv 2) ycz (yba qab)) (qau (qaa (pv 1) yab))) ycz (yba (yai (ygi rfl) rfl (B.of rfl) boot_max (qaa qab (qaa (yai (yh9 rfl) rfl (B.of rfl) boot_min (qaa qab (qaa (yai yag rfl (B.of rfl) boot_len (qaa (pv 2) yab)) yab))) yab)))))) (qa_cp (yjh yhb (qbp qaj (yac (pv 3)) (yac qab) (fun _ _=>rfl)) (yac qab) (qai _)) qal))))
    (yaf (qat (i:=5) sc.nd rfl (Or.inl rfl) (qbp qaj (qdi (qa_bo (qfz yct (yac qab) (qbp qaj (yac (pv 3)) (yac qab) (fun _ _=>rfl))) (qck (yac qab) qal))) (qer qcp rfl (B.of rfl) boot_int (qa_cons (yac (qa9 (yav qax (qah qaj (pv 3) qab (fun _ _=>rfl)) qab (qai _)) (qb4 (yav qax (pv 1) qab (qai _))))) qal)) (fun _ _=>rfl)))
    (yaf (qat (i:=6) sc.nd rfl (Or.inl rfl) (qao yii hr (qhy (qao ydy hr (yal (yac (pv 2)) (qck (yac qab) qal))) (qck (yac qab) (yal (yac (pv 5)) (qck (yac qab) qal))))))
    (yak (yb7 (qht (qgb (qao yh5 hr (yal (yac (pv 4)) (yal (yac (pv 5)) (yal (yac (pv 6)) (qd5 (yac (qbb qdh (pv 3) (yba qab) (yba (ya3 yct qab (pv 5))))) (qhy (qao qhh hr (yal (yac (pv 4)) (qd5 (qbp qaj (yac (pv 3)) (yac qab) (fun _ _=>rfl)) qal))) qal))))))))
     (yak (qay (yac ygm)))
     qa5))))))))
   (yak (qay (yac ygm))))),?_⟩
  have z1:1≤sizeLine:=by decide
  have z3:3≤sizeLine:=by decide
  refine ⟨_,rfl,a,_,rfl,.inl hS,_,_,rfl,_,_,rfl,_,_,_,rfl,?_,?_⟩
  ·simp only[List.length_map]
   refine ⟨by decide,by decide,?_,?_,by decide,by decide⟩<;>split<;>split<;>omega
  refine qkn (fun i σ H2=>∃ (q1 q2 q3 q4 q5 q6:Option V),σ=[some (.ref a),q1,q2,q3,q4,q5,q6]∧Same H H2) ⟨none,none,none,none,none,none,rfl,Same.refl H⟩ ?_ ?_
  ·rintro i σ H2 hi ⟨q1,q2,q3,q4,q5,q6,rfl,s2⟩
   generalize hat:(0:Int)+(i:Int)*6=at'
   have hat0:0≤at':=by omega
   obtain ⟨ms,hms,hml⟩:=cells6 (ns:=ns) hat0
   refine ⟨_,rfl,_,rfl,_,rfl,_,rfl,_,_,rfl,rfl,_,rfl,a,_,rfl,s2.seq hS,fun c1 h1=>?_⟩
   rw[hms]
   have s3:=(Same.refl H2).upd (o:=.lst (ms.map V.int)) h1
   have f3:upd H2 c1 (.lst (ms.map V.int)) c1=some (.lst (ms.map V.int)):=yaa
   revert s3 f3
   generalize upd H2 c1 (.lst (ms.map V.int))=H3
   intro s3 f3
   -- the digits
   refine ⟨_,rfl,c1,ms,5,rfl,SqL.of f3,fun c0=>⟨z3,fun p1 v1=>?_⟩⟩
   have s4:=s3.upd (o:=.lst [V.int 18,.int 4,.int 64]) v1
   have g1:upd H3 p1 (.lst [V.int 18,.int 4,.int 64]) p1=some (.lst [V.int 18,.int 4,.int 64]):=yaa
   have f4:upd H3 p1 (.lst [V.int 18,.int 4,.int 64]) c1=some (.lst (ms.map V.int)):=by rw[yaj (yae f3 v1)];exact f3
   revert s4 g1 f4
   generalize upd H3 p1 (.lst [V.int 18,.int 4,.int 64])=H4
   intro s4 g1 f4
   refine ⟨z1,fun p2 v2=>?_⟩
   have s45:=(Same.refl H4).upd (o:=.lst [V.int 2]) v2
   have g2:upd H4 p2 (.lst [V.int 2]) p2=some (.lst [V.int 2]):=yaa
   revert s45 g2
   generalize upd H4 p2 (.lst [V.int 2])=H5
   intro s45 g2
   refine ⟨p2,64,_,rfl,rfl,g2,by decide,by decide,qf3 (by decide),fun p3 v3=>?_⟩
   have s56:=(Same.refl H5).upd (o:=.lst (List.replicate (64:Int).toNat [V.int 2]).flatten) v3
   have g3:upd H5 p3 (.lst (List.replicate (64:Int).toNat [V.int 2]).flatten) p3=some (.lst ((List.replicate 64 (2:Int)).map V.int)):=yaa
   revert s56 g3
   generalize upd H5 p3 (.lst (List.replicate (64:Int).toNat [V.int 2]).flatten)=H6
   intro s56 g3
   have s46:=s45.trans s56
   refine ⟨p1,p3,_,_,rfl,rfl,s46 _ _ g1,g3,qf3 (by simp),fun p4 v4=>?_⟩
   refine ⟨c0,3,p4,[18,4,64]++List.replicate 64 2,rfl,by rw[yaa,List.map_append];rfl,by simp,?_,by decide,by decide,fun dp ds H7 s7 ndp hdp hDg=>?_⟩
   ·intro z hz
    simp at hz
    omega
   have s47:Same H4 H7:=(s46.upd v4).trans s7
   have s27:Same H2 H7:=s4.trans s47
   have f7:=s47 _ _ f4
   have s07:=s2.trans s27
   clear s46 s7 s45 s56 s47
   have dl:ds.length=67:=by have:=hDg.1;simpa using this
   obtain ⟨d0,e0,b0,b0'⟩:=hDg.get (i:=0) (z:=18) rfl
   obtain ⟨d1,e1,b1,b1'⟩:=hDg.get (i:=1) (z:=4) rfl
   obtain ⟨d2,e2,b2,b2'⟩:=hDg.get (i:=2) (z:=64) rfl
   -- the test
   refine ⟨_,rfl,_,rfl,c1,_,rfl,SqL.of f7,fun r1 w1=>?_⟩
   rw[show cutV (ms.map V.int) none (some 4)=(ms.take 4).map V.int from cutUp (b:=4)]
   have s8:=(Same.refl H7).upd (o:=.lst ((ms.take 4).map V.int)) w1
   have k8:upd H7 r1 (.lst ((ms.take 4).map V.int)) r1=some (.lst ((ms.take 4).map V.int)):=yaa
   revert s8 k8
   generalize upd H7 r1 (.lst ((ms.take 4).map V.int))=H8
   intro s8 k8
   refine ⟨_,rfl,z1,fun r2 w2=>?_⟩
   have s9:=(Same.refl H8).upd (o:=.lst [V.int at']) w2
   have k9:upd H8 r2 (.lst [V.int at']) r2=some (.lst [V.int at']):=yaa
   revert s9 k9
   generalize upd H8 r2 (.lst [V.int at'])=H9
   intro s9 k9
   refine ⟨r1,r2,_,_,rfl,rfl,s9 _ _ k8,k9,qf3 (by rw[List.length_map,List.length_take];simp;omega),fun r3 w3=>?_⟩
   have s10:=(Same.refl H9).upd (o:=.lst ((ms.take 4).map V.int++[V.int at'])) w3
   have k10:upd H9 r3 (.lst ((ms.take 4).map V.int++[V.int at'])) r3=some (.lst ((ms.take 4++[at']).map V.int)):=by rw[yaa,List.map_append];rfl
   revert s10 k10
   generalize upd H9 r3 (.lst ((ms.take 4).map V.int++[V.int at']))=H10
   intro s10 k10
   have s710:=(s8.trans s9).trans s10
   refine ⟨_,rfl,c1,_,rfl,.inl (SqL.of (s710 _ _ f7)),_,_,rfl,_,_,rfl,_,rfl,r3,_,rfl,SqL.of k10,fun r4 w4=>?_⟩
   obtain ⟨M,hM,hM1⟩:∃ M:Nat,(if (if ((ms.map V.int).length:Int)<4 then ((ms.map V.int).length:Int) else 4)>1 then (if ((ms.map V.int).length:Int)<4 then ((ms.map V.int).length:Int) else 4) else 1)=(M:Int)∧1≤M:=by
    refine ⟨max 1 (min 4 ms.length),?_,by omega⟩
    rw[List.length_map]
    split<;>split<;>omega
   rw[hM,cutUp]
   have htl:1≤((ms.take 4++[at']).take M).length∧((ms.take 4++[at']).take M).length≤8:=by
    rw[List.length_take,List.length_append,List.length_take,List.length_singleton]
    omega
   revert htl
   generalize (ms.take 4++[at']).take M=tc
   intro htl
   have s11:=(Same.refl H10).upd (o:=.lst (tc.map V.int)) w4
   have k11:upd H10 r4 (.lst (tc.map V.int)) r4=some (.lst (tc.map V.int)):=yaa
   revert s11 k11
   generalize upd H10 r4 (.lst (tc.map V.int))=H11
   intro s11 k11
   refine ⟨_,rfl,dp,_,_,_,rfl,rfl,SqL.of ((s710.trans s11) _ _ hdp),qac 1 (qby e1),_,_,rfl,rfl,r4,tc,_,rfl,k11,htl.1,htl.2,fun tp T H12 s12 n12 at12 okt hTl=>?_⟩
   have s712:=(s710.trans s11).trans s12
   have f12:=s712 _ _ f7
   have hd12:=s712 _ _ hdp
   have s012:=s07.trans s712
   clear s8 s9 s10 s11 s12 s710
   -- the size
   refine gn ?_
   try dsimp only
   refine asg_go (R:=fun v H'=>∃ n:Nat,v=.int n∧3≤n∧n≤64∧Same H12 H') (fun Q' hq=>?_) ?_
   ·refine ⟨_,rfl,dp,_,_,_,rfl,rfl,SqL.of hd12,qac 0 (qby e0),_,_,rfl,rfl,(by show 2≤sizeLine;decide),fun q nq=>?_⟩
    have sq:Same H12 (upd H12 q (.lst [V.int (3+d0),.int 64])):=(Same.refl H12).upd nq
    have eq:upd H12 q (.lst [V.int (3+d0),.int 64]) q=some (.lst [V.int (3+d0),.int 64]):=yaa
    revert sq eq
    generalize upd H12 q (.lst [V.int (3+d0),.int 64])=Hq
    intro sq eq
    refine ⟨_,rfl,dp,_,_,_,rfl,rfl,SqL.of (sq _ _ hd12),qac 0 (qby e0),rfl,_,rfl,?_⟩
    have small:Q' (.int (3+d0)) Hq:=hq _ _ ⟨(3+d0).toNat,by rw[Int.toNat_of_nonneg (by omega)],by omega,by omega,sq⟩
    have big:Q' (.int 64) Hq:=hq _ _ ⟨64,rfl,by omega,by omega,sq⟩
    by_cases h17:d0=17
    ·refine iteB (decide_eq_true (by rw[h17])) ?_
     refine ⟨_,rfl,rfl,.inr ⟨_,rfl,q,_,_,.int (if at'=0 then 64 else 3+d0),rfl,rfl,SqL.of eq,?_,?_⟩⟩
     ·by_cases ha:at'=0
      ·rw[if_pos ha,ha];rfl
      ·rw[if_neg ha,show decide (V.int at'=V.int 0)=false from decide_eq_false (fun z=>ha (V.int.inj z))];rfl
     ·by_cases ha:at'=0
      ·rw[if_pos ha];exact big
      ·rw[if_neg ha];exact small
    ·refine iteN (decide_eq_false (fun z=>h17 (V.int.inj z))) ?_
     exact .inr ⟨_,rfl,q,_,_,_,rfl,rfl,SqL.of eq,rfl,small⟩
   rintro v H12b ⟨n,rfl,hn3,hn64,sb⟩
   refine gn ?_
   try dsimp only
   have f12:=sb _ _ f12
   have hd12:=sb _ _ hd12
   have s012:=s012.trans sb
   have at12:=at12.same sb
   -- the harms
   refine ⟨_,rfl,c1,ms,4,rfl,SqL.of f12,fun c4=>⟨_,rfl,c4,1,n,rfl,by decide,by decide,by omega,by omega,fun hp us hs S H13 s13 n13 e13 hv ok hl1 inr=>?_⟩⟩
   refine gn ?_
   try dsimp only
   have hd13:=s13 _ _ hd12
   -- what is handed on
   have hcut:cutV (ds.map V.int) (some 3) (some (3+(n:Int)))=((ds.drop 3).take n).map V.int:=by
    rw[show (3+(n:Int):Int)=((3+n:Nat):Int) by omega,show (3:Int)=((3:Nat):Int) from rfl,qiy]
    rw[List.length_map,dl,List.map_take,List.map_drop]
    rw[show min (3+n) 67-min 3 67=n by omega,show min 3 67=3 by omega]
   have hbl:((ds.drop 3).take n).length=n:=by rw[List.length_take,List.length_drop];omega
   have hbb:bits ((ds.drop 3).take n):=fun x hx=>by
    obtain ⟨j,hj⟩:=List.getElem?_of_mem (List.mem_of_mem_take hx)
    rw[List.getElem?_drop] at hj
    have hjl:3+j<ds.length:=(List.getElem?_eq_some_iff.mp hj).1
    obtain ⟨y,hy,y0,y1⟩:=hDg.get (i:=3+j) (z:=2) (by
     rw[List.getElem?_append_right (by simp)]
     show (List.replicate 64 (2:Int))[3+j-3]?=some 2
     rw[List.getElem?_replicate,if_pos (by omega)])
    rw[hy] at hj
    cases hj
    exact ykw y0 y1
   refine ⟨_,rfl,_,rfl,_,rfl,_,rfl,_,rfl,_,rfl,_,_,rfl,rfl,(3+(n:Int)),rfl,dp,_,rfl,SqL.of hd13,fun r5 w6=>?_⟩
   rw[hcut]
   revert hbl hbb
   generalize (ds.drop 3).take n=bs
   intro hbl hbb
   have s15:=(Same.refl H13).upd (o:=.lst (bs.map V.int)) w6
   have k15:upd H13 r5 (.lst (bs.map V.int)) r5=some (.lst (bs.map V.int)):=yaa
   revert s15 k15
   generalize upd H13 r5 (.lst (bs.map V.int))=H15
   intro s15 k15
   have s1215:=s13.trans s15
   refine ⟨_,rfl,_,rfl,dp,_,_,_,rfl,rfl,SqL.of (s15 _ _ hd13),qac 2 (qby e2),.ref tp,T,d2,rfl,at12.same s1215,okt,fun op os H16 s16 n16 e16 oo=>?_⟩
   have s1216:=s1215.trans s16
   refine ⟨tp,hp,r5,op,T,os,us,hs,S,bs,(by show [V.ref tp,V.int (n:Int),V.ref hp,V.ref r5,V.ref op]=_;rw[hbl]),at12.same s1216,okt,(s15.trans s16) _ _ e13,hv.same (s15.trans s16),ok,hl1,by rw[hbl];exact inr,s16 _ _ k15,hbb,by omega,by omega,e16,oo,fun H17 s17=>?_⟩
   refine ⟨_,rfl,iteF ?_⟩
   exact ⟨_,_,_,_,_,_,rfl,(s012.trans s1216).trans s17⟩
  ·rintro σ H2 ⟨q1,q2,q3,q4,q5,q6,rfl,s2⟩
   exact k H2
end
end Mh
namespace Mh
open PySem L2 PyProof.Rows
open Mx
theorem qd0 {K:PySem.W.Frag}{a:Addr}{xs:List V}{od:Option Addr}{its:Array Value}{n:Nat}{sl:Array (Option Value)} (h2:K.lookup a=some ⟨.type "tuple",od,.seq its n,sl⟩) (z:its.size≤sizeLine) (r:Vals xs its.toList):∀ H,SqT K H a xs:=
 fun H=>.inr ⟨_,its,n,h2,rfl,rfl,z,r⟩
theorem fnAt_mk {K:PySem.W.Frag}{h:Heap}{mg:Str→Option Value}{x:Str}{st:Stmt}{ps:List Str}{f:Addr}{oc:Value}{od an:Option Addr}{osl:Array (Option Value)}{kV doc pm cdv ct:Value} (X:K.In h) (G:h.Ns mainGlobals mg)
  (a:PySem.W.nsIn K mainGlobals x=some (some (.ref f))) (l:K.lookup f=some ⟨oc,od,.func (PySem.W.fnOf x x (qbn st) (qa3 st) (qad st) .none kV doc pm an cdv ct),osl⟩) (c:PySem.W.codeIn K cdv x=true) (k:PySem.W.keepIn K (.ref f)=true)
  (hb:∀ (kV doc pm:Value) (an:Option Addr) (cdv ct:Value) (us:List Value),us.length=ps.length→bindArgs (PySem.W.fnOf x x (qbn st) (qa3 st) (qad st) .none kV doc pm an cdv ct) ⟨us,[]⟩=pure (ps.zip us)):FnAt K mg x st ps:=by
 have F:=qc7 (st:=st) l c k
 exact ⟨f,_,PySem.W.mg_of X G a,F,F.binds hb⟩
def FnP (K:PySem.W.Frag) (x:Str) (st:Stmt):Prop:=∃ (f:Addr) (oc:Value) (od an:Option Addr) (sl:Array (Option Value)) (kV dc pm cd ct:Value),PySem.W.nsIn K mainGlobals x=some (some (.ref f))∧K.lookup f=some ⟨oc,od,.func (PySem.W.fnOf x x (qbn st) (qa3 st) (qad st) .none kV dc pm an cd ct),sl⟩∧PySem.W.codeIn K cd x=true∧PySem.W.keepIn K (.ref f)=true
theorem FnP.at {K:PySem.W.Frag}{h:Heap}{mg:Str→Option Value}{x:Str}{st:Stmt}{ps:List Str} (p:FnP K x st) (X:K.In h) (G:h.Ns mainGlobals mg)
  (hb:∀ (kV doc pm:Value) (an:Option Addr) (cdv ct:Value) (us:List Value),us.length=ps.length→bindArgs (PySem.W.fnOf x x (qbn st) (qa3 st) (qad st) .none kV doc pm an cdv ct) ⟨us,[]⟩=pure (ps.zip us)):FnAt K mg x st ps:=by
 obtain ⟨f,oc,od,an,sl,kV,dc,pm,cd,ct,a,l,c,k⟩:=p
 exact fnAt_mk X G a l c k hb
set_option maxHeartbeats 0 in
theorem all_mk {l:PySem.W.OpenLaw}{w:World}{K:PySem.W.Frag}{h:Heap}{mg:Str→Option Value}{fa:Addr} (X:K.In h) (G:h.Ns mainGlobals mg) (hfa:mg "law" = some (.ref fa))
  (p0:FnP K "is_whole" ydp)
  (p1:FnP K "is_bit" qfq)
  (p2:FnP K "is_one_of" qc2)
  (p3:FnP K "is_cell" qd9)
  (p4:FnP K "is_part" yej)
  (p5:FnP K "has_word" qdv)
  (p6:FnP K "cells_in" ydw)
  (p7:FnP K "has_parts" qc0)
  (p8:FnP K "is_harm" yed)
  (p9:FnP K "look_at_harms" qbt)
  (p10:FnP K "cells_of" qdq)
  (p11:FnP K "stuck_bit" ycu)
  (p12:FnP K "put" s_put)
  (p13:FnP K "settle" yfl)
  (p14:FnP K "harm_of_address" qbe)
  (p15:FnP K "reached_cells" ybq)
  (p16:FnP K "read_cell" ycw)
  (p17:FnP K "read_at" qee)
  (p18:FnP K "is_slow" qec)
  (p19:FnP K "kept_bit" ydq)
  (p20:FnP K "act_on_others" ybr)
  (p21:FnP K "write_cell" qcf)
  (p22:FnP K "write_at" qdw)
  (p23:FnP K "is_size" yeq)
  (p24:FnP K "are_contents" yb1)
  (p25:FnP K "look_at_memory" ybk)
  (p26:FnP K "look_at_bit" qb7)
  (p27:FnP K "is_pair" qea)
  (p28:FnP K "is_filled" ycv)
  (p29:FnP K "is_step" yef)
  (p30:FnP K "is_framed" yc0)
  (p31:FnP K "look_at_element" ybd)
  (p32:FnP K "look_at_test" qb0)
  (p33:FnP K "steps_of" qdt)
  (p34:FnP K "is_sure" qeb)
  (p35:FnP K "renamed" qeg)
  (p36:FnP K "placed" yfo)
  (p37:FnP K "little" yfk)
  (p38:FnP K "is_order_for" qb1)
  (p39:FnP K "are_orders" qcj)
  (p40:FnP K "look_at_orders" ybl)
  (p41:FnP K "deeds" yhi)
  (p42:FnP K "all_reads" ycx)
  (p43:FnP K "reads_of" ydv)
  (p44:FnP K "first_shown" yb4)
  (p45:FnP K "_law_cell_at" ybz)
  (p46:FnP K "_law_digits" yb5)
  (p47:FnP K "_law_test" yc1)
  (p48:FnP K "_law_orders" yb6)
  (p49:FnP K "_law_harm" qc4)
  (p50:FnP K "_law_harms" qci)
  (p51:FnP K "_law_put" ydr)
  (p52:FnP K "_law_first_held" qbd)
  (p53:FnP K "_law_into" qc3)
  (p54:FnP K "_law_from" yc3)
  (p55:FnP K "_law_act" ydu)
  (p56:FnP K "_law_run" ydt)
  (p57:FnP K "_law_right" qce)
  {f58:Addr}{od58 an58:Option Addr}{sl58:Array (Option Value)}{oc58 kV58 dc58 pm58 cd58 ct58:Value}
  (a58:PySem.W.nsIn K mainGlobals "law" = some (some (.ref f58)))
  (l58:K.lookup f58=some ⟨oc58,od58,.func (PySem.W.fnOf "law" "law" (qbn qhs) (qa3 qhs) (qad qhs) .none kV58 dc58 pm58 an58 cd58 ct58),sl58⟩)
  (c58:PySem.W.codeIn K cd58 "law" = true)
  (k58:PySem.W.keepIn K (.ref f58)=true)
  (z0:PySem.W.nsIn K mainGlobals "len" = some none)
  (z1:PySem.W.nsIn K mainGlobals "abs" = some none)
  (z2:PySem.W.nsIn K mainGlobals "max" = some none)
  (z3:PySem.W.nsIn K mainGlobals "min" = some none)
  (z4:PySem.W.nsIn K mainGlobals "repr" = some none)
  (z5:PySem.W.nsIn K mainGlobals "isinstance" = some none)
  (z6:PySem.W.nsIn K mainGlobals "int" = some none)
  (z7:PySem.W.nsIn K mainGlobals "bool" = some none)
  (z8:PySem.W.nsIn K mainGlobals "str" = some none)
  (z9:PySem.W.nsIn K mainGlobals "tuple" = some none)
  (z10:PySem.W.nsIn K mainGlobals "list" = some none)
  (z11:PySem.W.nsIn K mainGlobals "dict" = some none)
  (z12:PySem.W.nsIn K mainGlobals "range" = some none)
  (z13:PySem.W.nsIn K mainGlobals "enumerate" = some none)
  (z14:PySem.W.nsIn K mainGlobals "sorted" = some none)
  (z15:PySem.W.nsIn K mainGlobals "sum" = some none)
  (zset:PySem.W.nsIn K mainGlobals "set" = some none)
  (zzip:PySem.W.nsIn K mainGlobals "zip" = some none)
  (zall:PySem.W.nsIn K mainGlobals "all" = some none)
  {w1 w2 w3:Tok}
  (aMC:PySem.W.nsIn K mainGlobals "MOST_CELLS" = some (some (.int 64 w1)))
  (aMH:PySem.W.nsIn K mainGlobals "MOST_HARMS" = some (some (.int 3 w2)))
  (aMU:PySem.W.nsIn K mainGlobals "MOST_UNLIKE" = some (some (.int 3 w3)))
  {tJ:Addr}{uj1 uj2:Tok}{odJ:Option Addr}{nJ:Nat}{slJ:Array (Option Value)}
  (aJ:PySem.W.nsIn K mainGlobals "JOININGS" = some (some (.ref tJ)))
  (lJ:K.lookup tJ=some ⟨.type "tuple",odJ,.seq #[.str "and" uj1,.str "or" uj2] nJ,slJ⟩)
  {tP qp0 qp1 qp2 qp3 qp4 qp5 qp6 qp7 qp8 qp9:Addr}{xp0 xp1 xp2 xp3 xp4 xp5 xp6 xp7 xp8 xp9:Int}{kp0 kp1 kp2 kp3 kp4 kp5 kp6 kp7 kp8 kp9:Tok}{epP:Nat}
  (aP:PySem.W.nsIn K mainGlobals "PARTS" = some (some (.ref tP)))
  (lP:K.lookup tP=some ⟨.type "dict",none,.dict #[⟨xp0,.str "stuck" kp0,.ref qp0⟩,⟨xp1,.str "slow" kp1,.ref qp1⟩,⟨xp2,.str "forgets" kp2,.ref qp2⟩,⟨xp3,.str "misreads" kp3,.ref qp3⟩,⟨xp4,.str "turns" kp4,.ref qp4⟩,⟨xp5,.str "sets" kp5,.ref qp5⟩,⟨xp6,.str "keeps" kp6,.ref qp6⟩,⟨xp7,.str "nowhere" kp7,.ref qp7⟩,⟨xp8,.str "other" kp8,.ref qp8⟩,⟨xp9,.str "both" kp9,.ref qp9⟩] epP,#[]⟩)
  (mP:(tP == sysModules)=false)
  {oqp0:Option Addr}{yp0_0 yp0_1:Tok}{mp0:Nat}{sqp0:Array (Option Value)}
  (tp0:K.lookup qp0=some ⟨.type "tuple",oqp0,.seq #[.str "cell" yp0_0,.str "bit" yp0_1] mp0,sqp0⟩)
  {oqp1:Option Addr}{yp1_0 yp1_1:Tok}{mp1:Nat}{sqp1:Array (Option Value)}
  (tp1:K.lookup qp1=some ⟨.type "tuple",oqp1,.seq #[.str "cell" yp1_0,.str "bit" yp1_1] mp1,sqp1⟩)
  {oqp2:Option Addr}{yp2_0 yp2_1:Tok}{mp2:Nat}{sqp2:Array (Option Value)}
  (tp2:K.lookup qp2=some ⟨.type "tuple",oqp2,.seq #[.str "cell" yp2_0,.str "bit" yp2_1] mp2,sqp2⟩)
  {oqp3:Option Addr}{yp3_0 yp3_1:Tok}{mp3:Nat}{sqp3:Array (Option Value)}
  (tp3:K.lookup qp3=some ⟨.type "tuple",oqp3,.seq #[.str "cell" yp3_0,.str "bit" yp3_1] mp3,sqp3⟩)
  {oqp4:Option Addr}{yp4_0 yp4_1 yp4_2:Tok}{mp4:Nat}{sqp4:Array (Option Value)}
  (tp4:K.lookup qp4=some ⟨.type "tuple",oqp4,.seq #[.str "cell" yp4_0,.str "cell" yp4_1,.str "bit" yp4_2] mp4,sqp4⟩)
  {oqp5:Option Addr}{yp5_0 yp5_1 yp5_2 yp5_3:Tok}{mp5:Nat}{sqp5:Array (Option Value)}
  (tp5:K.lookup qp5=some ⟨.type "tuple",oqp5,.seq #[.str "cell" yp5_0,.str "cell" yp5_1,.str "bit" yp5_2,.str "bit" yp5_3] mp5,sqp5⟩)
  {oqp6:Option Addr}{yp6_0 yp6_1 yp6_2 yp6_3:Tok}{mp6:Nat}{sqp6:Array (Option Value)}
  (tp6:K.lookup qp6=some ⟨.type "tuple",oqp6,.seq #[.str "cell" yp6_0,.str "cell" yp6_1,.str "bit" yp6_2,.str "bit" yp6_3] mp6,sqp6⟩)
  {oqp7:Option Addr}{yp7_0 yp7_1:Tok}{mp7:Nat}{sqp7:Array (Option Value)}
  (tp7:K.lookup qp7=some ⟨.type "tuple",oqp7,.seq #[.str "cell" yp7_0,.str "bit" yp7_1] mp7,sqp7⟩)
  {oqp8:Option Addr}{yp8_0 yp8_1:Tok}{mp8:Nat}{sqp8:Array (Option Value)}
  (tp8:K.lookup qp8=some ⟨.type "tuple",oqp8,.seq #[.str "cell" yp8_0,.str "cell" yp8_1] mp8,sqp8⟩)
  {oqp9:Option Addr}{yp9_0 yp9_1 yp9_2:Tok}{mp9:Nat}{sqp9:Array (Option Value)}
  (tp9:K.lookup qp9=some ⟨.type "tuple",oqp9,.seq #[.str "cell" yp9_0,.str "cell" yp9_1,.str "how" yp9_2] mp9,sqp9⟩)
  {tO:Addr}{u1 u2 u3:Tok}{odO:Option Addr}{nO:Nat}{slO:Array (Option Value)}
  (aO:PySem.W.nsIn K mainGlobals "ORDERS" = some (some (.ref tO)))
  (lO:K.lookup tO=some ⟨.type "tuple",odO,.seq #[.str "up" u1,.str "down" u2,.str "any" u3] nO,slO⟩)
  {tL:Addr}{v1 v2:Tok}{odL:Option Addr}{nL:Nat}{slL:Array (Option Value)}
  (aL:PySem.W.nsIn K mainGlobals "LETTERS" = some (some (.ref tL)))
  (lL:K.lookup tL=some ⟨.type "tuple",odL,.seq #[.str "r" v1,.str "w" v2] nL,slL⟩)
  {tK:Addr}{g1 g2:Tok}{odK:Option Addr}{nK:Nat}{slK:Array (Option Value)}
  (aK:PySem.W.nsIn K mainGlobals "TAKEN" = some (some (.ref tK)))
  (lK:K.lookup tK=some ⟨.type "tuple",odK,.seq #[.str "up" g1,.str "down" g2] nK,slK⟩)
  {w4 w5:Tok}
  (aT:PySem.W.nsIn K mainGlobals "MOST_IN_TEST" = some (some (.int 8 w4)))
  (aE:PySem.W.nsIn K mainGlobals "MOST_IN_ELEMENT" = some (some (.int 6 w5)))
  {C0:Addr}
  (ca0:PySem.W.nsIn K mainGlobals "Memory" = some (some (.ref C0)))
  (cp0:PySem.W.plainGet K C0 Str.empty=true)
  (cd0_:PySem.W.hasDictIn K C0=true)
  (co0:PySem.W.plainOver K C0=true)
  (cs0:PySem.W.findIn K (.ref C0) "__setattr__" = some (some (.builtin "object.__setattr__")))
  (cf0_0:PySem.W.findIn K (.ref C0) "harms" = some none)
  (cf0_1:PySem.W.findIn K (.ref C0) "cells" = some none)
  (cm0_:PySem.W.makesIn K C0=true)
  (ck0:PySem.W.keepIn K (.ref C0)=true)
  {fm0_0:Addr}{odm0_0 anm0_0:Option Addr}{slm0_0:Array (Option Value)}{ocm0_0 kVm0_0 dcm0_0 pmm0_0 cdm0_0 ctm0_0:Value}
  (am0_0:PySem.W.findIn K (.ref C0) "__init__" = some (some (.ref fm0_0)))
  (lm0_0:K.lookup fm0_0=some ⟨ocm0_0,odm0_0,.func (PySem.W.fnOf "__init__" "Memory.__init__" (qbn yaq) (qa3 yaq) (qad yaq) .none kVm0_0 dcm0_0 pmm0_0 anm0_0 cdm0_0 ctm0_0),slm0_0⟩)
  (cm0_0:PySem.W.codeIn K cdm0_0 "Memory.__init__" = true)
  (im0_0:PySem.W.isFn K (.ref fm0_0)=true)
  (km0_0:PySem.W.keepIn K (.ref fm0_0)=true)
  {fm0_1:Addr}{odm0_1 anm0_1:Option Addr}{slm0_1:Array (Option Value)}{ocm0_1 kVm0_1 dcm0_1 pmm0_1 cdm0_1 ctm0_1:Value}
  (am0_1:PySem.W.findIn K (.ref C0) "look_at_address" = some (some (.ref fm0_1)))
  (lm0_1:K.lookup fm0_1=some ⟨ocm0_1,odm0_1,.func (PySem.W.fnOf "look_at_address" "Memory.look_at_address" (qbn yam) (qa3 yam) (qad yam) .none kVm0_1 dcm0_1 pmm0_1 anm0_1 cdm0_1 ctm0_1),slm0_1⟩)
  (cm0_1:PySem.W.codeIn K cdm0_1 "Memory.look_at_address" = true)
  (im0_1:PySem.W.isFn K (.ref fm0_1)=true)
  (km0_1:PySem.W.keepIn K (.ref fm0_1)=true)
  {fm0_2:Addr}{odm0_2 anm0_2:Option Addr}{slm0_2:Array (Option Value)}{ocm0_2 kVm0_2 dcm0_2 pmm0_2 cdm0_2 ctm0_2:Value}
  (am0_2:PySem.W.findIn K (.ref C0) "read" = some (some (.ref fm0_2)))
  (lm0_2:K.lookup fm0_2=some ⟨ocm0_2,odm0_2,.func (PySem.W.fnOf "read" "Memory.read" (qbn ya1) (qa3 ya1) (qad ya1) .none kVm0_2 dcm0_2 pmm0_2 anm0_2 cdm0_2 ctm0_2),slm0_2⟩)
  (cm0_2:PySem.W.codeIn K cdm0_2 "Memory.read" = true)
  (im0_2:PySem.W.isFn K (.ref fm0_2)=true)
  (km0_2:PySem.W.keepIn K (.ref fm0_2)=true)
  {fm0_3:Addr}{odm0_3 anm0_3:Option Addr}{slm0_3:Array (Option Value)}{ocm0_3 kVm0_3 dcm0_3 pmm0_3 cdm0_3 ctm0_3:Value}
  (am0_3:PySem.W.findIn K (.ref C0) "write" = some (some (.ref fm0_3)))
  (lm0_3:K.lookup fm0_3=some ⟨ocm0_3,odm0_3,.func (PySem.W.fnOf "write" "Memory.write" (qbn yax) (qa3 yax) (qad yax) .none kVm0_3 dcm0_3 pmm0_3 anm0_3 cdm0_3 ctm0_3),slm0_3⟩)
  (cm0_3:PySem.W.codeIn K cdm0_3 "Memory.write" = true)
  (im0_3:PySem.W.isFn K (.ref fm0_3)=true)
  (km0_3:PySem.W.keepIn K (.ref fm0_3)=true)
  {fm0_4:Addr}{odm0_4 anm0_4:Option Addr}{slm0_4:Array (Option Value)}{ocm0_4 kVm0_4 dcm0_4 pmm0_4 cdm0_4 ctm0_4:Value}
  (am0_4:PySem.W.findIn K (.ref C0) "size" = some (some (.ref fm0_4)))
  (lm0_4:K.lookup fm0_4=some ⟨ocm0_4,odm0_4,.func (PySem.W.fnOf "size" "Memory.size" (qbn qa2) (qa3 qa2) (qad qa2) .none kVm0_4 dcm0_4 pmm0_4 anm0_4 cdm0_4 ctm0_4),slm0_4⟩)
  (cm0_4:PySem.W.codeIn K cdm0_4 "Memory.size" = true)
  (im0_4:PySem.W.isFn K (.ref fm0_4)=true)
  (km0_4:PySem.W.keepIn K (.ref fm0_4)=true) :
  ∃ fd:FuncData,(∀ (s:Shared) (v:Value),BindsTo s fd ⟨[v],[]⟩ [("_law_script",v)])∧∀ base:Heap,K.In base→base.Ns mainGlobals mg→FnOk l.prog w K mg base CX0 14 fa fd ["_law_script"] (yj0 K):=by
 have e:=hfa.symm.trans (PySem.W.mg_of X G a58)
 cases e
 have B:Bl mg:=⟨fun x hx=>by
  unfold yi5 at hx
  simp only[List.mem_cons,List.not_mem_nil,or_false] at hx
  rcases hx with rfl|rfl|rfl|rfl|rfl|rfl|rfl|rfl|rfl|rfl|rfl|rfl|rfl|rfl|rfl|rfl
  ·exact PySem.W.mg_none_of X G z0
  ·exact PySem.W.mg_none_of X G z1
  ·exact PySem.W.mg_none_of X G z2
  ·exact PySem.W.mg_none_of X G z3
  ·exact PySem.W.mg_none_of X G z4
  ·exact PySem.W.mg_none_of X G z5
  ·exact PySem.W.mg_none_of X G z6
  ·exact PySem.W.mg_none_of X G z7
  ·exact PySem.W.mg_none_of X G z8
  ·exact PySem.W.mg_none_of X G z9
  ·exact PySem.W.mg_none_of X G z10
  ·exact PySem.W.mg_none_of X G z11
  ·exact PySem.W.mg_none_of X G z12
  ·exact PySem.W.mg_none_of X G z13
  ·exact PySem.W.mg_none_of X G z14
  ·exact PySem.W.mg_none_of X G z15⟩
 have yhm:mg "set" = none:=PySem.W.mg_none_of X G zset
 have qd7:mg "zip" = none:=PySem.W.mg_none_of X G zzip
 have qhi:mg "all" = none:=PySem.W.mg_none_of X G zall
 have g_MC:∃ t,mg "MOST_CELLS" = some (.int 64 t):=⟨_,PySem.W.mg_of X G aMC⟩
 have g_MH:∃ t,mg "MOST_HARMS" = some (.int 3 t):=⟨_,PySem.W.mg_of X G aMH⟩
 have g_MU:∃ t,mg "MOST_UNLIKE" = some (.int 3 t):=⟨_,PySem.W.mg_of X G aMU⟩
 have g_J:GTup K mg "JOININGS" [.str "and",.str "or"]:=qg9 (PySem.W.mg_of X G aJ) lJ (by show 2≤sizeLine;decide) (.cons ⟨_,rfl⟩ (.cons ⟨_,rfl⟩ .nil))
 have gP:=PySem.W.mg_of X G aP
 have sp0:∀ H,SqT K H qp0 [.str "cell",.str "bit"]:=qd0 tp0 (by show 2≤sizeLine;decide) (.cons ⟨_,rfl⟩ (.cons ⟨_,rfl⟩ .nil))
 have sp1:∀ H,SqT K H qp1 [.str "cell",.str "bit"]:=qd0 tp1 (by show 2≤sizeLine;decide) (.cons ⟨_,rfl⟩ (.cons ⟨_,rfl⟩ .nil))
 have sp2:∀ H,SqT K H qp2 [.str "cell",.str "bit"]:=qd0 tp2 (by show 2≤sizeLine;decide) (.cons ⟨_,rfl⟩ (.cons ⟨_,rfl⟩ .nil))
 have sp3:∀ H,SqT K H qp3 [.str "cell",.str "bit"]:=qd0 tp3 (by show 2≤sizeLine;decide) (.cons ⟨_,rfl⟩ (.cons ⟨_,rfl⟩ .nil))
 have sp4:∀ H,SqT K H qp4 [.str "cell",.str "cell",.str "bit"]:=qd0 tp4 (by show 3≤sizeLine;decide) (.cons ⟨_,rfl⟩ (.cons ⟨_,rfl⟩ (.cons ⟨_,rfl⟩ .nil)))
 have sp5:∀ H,SqT K H qp5 [.str "cell",.str "cell",.str "bit",.str "bit"]:=qd0 tp5 (by show 4≤sizeLine;decide) (.cons ⟨_,rfl⟩ (.cons ⟨_,rfl⟩ (.cons ⟨_,rfl⟩ (.cons ⟨_,rfl⟩ .nil))))
 have sp6:∀ H,SqT K H qp6 [.str "cell",.str "cell",.str "bit",.str "bit"]:=qd0 tp6 (by show 4≤sizeLine;decide) (.cons ⟨_,rfl⟩ (.cons ⟨_,rfl⟩ (.cons ⟨_,rfl⟩ (.cons ⟨_,rfl⟩ .nil))))
 have sp7:∀ H,SqT K H qp7 [.str "cell",.str "bit"]:=qd0 tp7 (by show 2≤sizeLine;decide) (.cons ⟨_,rfl⟩ (.cons ⟨_,rfl⟩ .nil))
 have sp8:∀ H,SqT K H qp8 [.str "cell",.str "cell"]:=qd0 tp8 (by show 2≤sizeLine;decide) (.cons ⟨_,rfl⟩ (.cons ⟨_,rfl⟩ .nil))
 have sp9:∀ H,SqT K H qp9 [.str "cell",.str "cell",.str "how"]:=qd0 tp9 (by show 3≤sizeLine;decide) (.cons ⟨_,rfl⟩ (.cons ⟨_,rfl⟩ (.cons ⟨_,rfl⟩ .nil)))
 have TP:TabK K tP tabP:=⟨mP,_,_,_,lP,⟨rfl,rfl,rfl⟩,rfl,(.cons rfl ⟨_,rfl,sp0⟩ (.cons rfl ⟨_,rfl,sp1⟩ (.cons rfl ⟨_,rfl,sp2⟩ (.cons rfl ⟨_,rfl,sp3⟩ (.cons rfl ⟨_,rfl,sp4⟩ (.cons rfl ⟨_,rfl,sp5⟩ (.cons rfl ⟨_,rfl,sp6⟩ (.cons rfl ⟨_,rfl,sp7⟩ (.cons rfl ⟨_,rfl,sp8⟩ (.cons rfl ⟨_,rfl,sp9⟩ .nil))))))))))⟩
 have cm:CM K C0:=⟨⟨cp0,cd0_,co0,cs0⟩,cf0_0,cf0_1⟩
 have qg8:GTup K mg "ORDERS" [.str "up",.str "down",.str "any"]:=qg9 (PySem.W.mg_of X G aO) lO (by show 3≤sizeLine;decide) (.cons ⟨_,rfl⟩ (.cons ⟨_,rfl⟩ (.cons ⟨_,rfl⟩ .nil)))
 have qf6:GTup K mg "LETTERS" [.str "r",.str "w"]:=qg9 (PySem.W.mg_of X G aL) lL (by show 2≤sizeLine;decide) (.cons ⟨_,rfl⟩ (.cons ⟨_,rfl⟩ .nil))
 have qji:GTup K mg "TAKEN" [.str "up",.str "down"]:=qg9 (PySem.W.mg_of X G aK) lK (by show 2≤sizeLine;decide) (.cons ⟨_,rfl⟩ (.cons ⟨_,rfl⟩ .nil))
 have g_T:∃ t,mg "MOST_IN_TEST" = some (.int 8 t):=⟨_,PySem.W.mg_of X G aT⟩
 have g_E:∃ t,mg "MOST_IN_ELEMENT" = some (.int 6 t):=⟨_,PySem.W.mg_of X G aE⟩
 have F0:FnAt K mg "is_whole" ydp ["thing"]:=p0.at X G fun _ _ _ _ _ _ us hl=>match us,hl with | [_],_=>rfl
 have F1:FnAt K mg "is_bit" qfq ["thing"]:=p1.at X G fun _ _ _ _ _ _ us hl=>match us,hl with | [_],_=>rfl
 have F2:FnAt K mg "is_one_of" qc2 ["thing","words"]:=p2.at X G fun _ _ _ _ _ _ us hl=>match us,hl with | [_,_],_=>rfl
 have F3:FnAt K mg "is_cell" qd9 ["thing"]:=p3.at X G fun _ _ _ _ _ _ us hl=>match us,hl with | [_],_=>rfl
 have F4:FnAt K mg "is_part" yej ["name","thing"]:=p4.at X G fun _ _ _ _ _ _ us hl=>match us,hl with | [_,_],_=>rfl
 have F5:FnAt K mg "has_word" qdv ["thing"]:=p5.at X G fun _ _ _ _ _ _ us hl=>match us,hl with | [_],_=>rfl
 have F6:FnAt K mg "cells_in" ydw ["harm"]:=p6.at X G fun _ _ _ _ _ _ us hl=>match us,hl with | [_],_=>rfl
 have F7:FnAt K mg "has_parts" qc0 ["thing"]:=p7.at X G fun _ _ _ _ _ _ us hl=>match us,hl with | [_],_=>rfl
 have F8:FnAt K mg "is_harm" yed ["thing"]:=p8.at X G fun _ _ _ _ _ _ us hl=>match us,hl with | [_],_=>rfl
 have F9:FnAt K mg "look_at_harms" qbt ["thing"]:=p9.at X G fun _ _ _ _ _ _ us hl=>match us,hl with | [_],_=>rfl
 have F10:FnAt K mg "cells_of" qdq ["harms"]:=p10.at X G fun _ _ _ _ _ _ us hl=>match us,hl with | [_],_=>rfl
 have F11:FnAt K mg "stuck_bit" ycu ["harms","cell"]:=p11.at X G fun _ _ _ _ _ _ us hl=>match us,hl with | [_,_],_=>rfl
 have F12:FnAt K mg "put" s_put ["harms","cells","cell","bit"]:=p12.at X G fun _ _ _ _ _ _ us hl=>match us,hl with | [_,_,_,_],_=>rfl
 have F13:FnAt K mg "settle" yfl ["harms","cells"]:=p13.at X G fun _ _ _ _ _ _ us hl=>match us,hl with | [_,_],_=>rfl
 have F14:FnAt K mg "harm_of_address" qbe ["harms","address"]:=p14.at X G fun _ _ _ _ _ _ us hl=>match us,hl with | [_,_],_=>rfl
 have F15:FnAt K mg "reached_cells" ybq ["harm","address"]:=p15.at X G fun _ _ _ _ _ _ us hl=>match us,hl with | [_,_],_=>rfl
 have F16:FnAt K mg "read_cell" ycw ["harms","cells","cell"]:=p16.at X G fun _ _ _ _ _ _ us hl=>match us,hl with | [_,_,_],_=>rfl
 have F17:FnAt K mg "read_at" qee ["harms","cells","address"]:=p17.at X G fun _ _ _ _ _ _ us hl=>match us,hl with | [_,_,_],_=>rfl
 have F18:FnAt K mg "is_slow" qec ["harms","cells","cell","bit"]:=p18.at X G fun _ _ _ _ _ _ us hl=>match us,hl with | [_,_,_,_],_=>rfl
 have F19:FnAt K mg "kept_bit" ydq ["harms","cells","cell","bit"]:=p19.at X G fun _ _ _ _ _ _ us hl=>match us,hl with | [_,_,_,_],_=>rfl
 have F20:FnAt K mg "act_on_others" ybr ["harms","cells","cell"]:=p20.at X G fun _ _ _ _ _ _ us hl=>match us,hl with | [_,_,_],_=>rfl
 have F21:FnAt K mg "write_cell" qcf ["harms","cells","cell","bit"]:=p21.at X G fun _ _ _ _ _ _ us hl=>match us,hl with | [_,_,_,_],_=>rfl
 have F22:FnAt K mg "write_at" qdw ["harms","cells","address","bit"]:=p22.at X G fun _ _ _ _ _ _ us hl=>match us,hl with | [_,_,_,_],_=>rfl
 have F23:FnAt K mg "is_size" yeq ["thing"]:=p23.at X G fun _ _ _ _ _ _ us hl=>match us,hl with | [_],_=>rfl
 have F24:FnAt K mg "are_contents" yb1 ["thing","size"]:=p24.at X G fun _ _ _ _ _ _ us hl=>match us,hl with | [_,_],_=>rfl
 have F25:FnAt K mg "look_at_memory" ybk ["size","harms","contents"]:=p25.at X G fun _ _ _ _ _ _ us hl=>match us,hl with | [_,_,_],_=>rfl
 have F26:FnAt K mg "look_at_bit" qb7 ["thing"]:=p26.at X G fun _ _ _ _ _ _ us hl=>match us,hl with | [_],_=>rfl
 have F27:FnAt K mg "is_pair" qea ["thing"]:=p27.at X G fun _ _ _ _ _ _ us hl=>match us,hl with | [_],_=>rfl
 have F28:FnAt K mg "is_filled" ycv ["thing","most"]:=p28.at X G fun _ _ _ _ _ _ us hl=>match us,hl with | [_,_],_=>rfl
 have F29:FnAt K mg "is_step" yef ["thing"]:=p29.at X G fun _ _ _ _ _ _ us hl=>match us,hl with | [_],_=>rfl
 have F30:FnAt K mg "is_framed" yc0 ["thing"]:=p30.at X G fun _ _ _ _ _ _ us hl=>match us,hl with | [_],_=>rfl
 have F31:FnAt K mg "look_at_element" ybd ["number","thing"]:=p31.at X G fun _ _ _ _ _ _ us hl=>match us,hl with | [_,_],_=>rfl
 have F32:FnAt K mg "look_at_test" qb0 ["thing"]:=p32.at X G fun _ _ _ _ _ _ us hl=>match us,hl with | [_],_=>rfl
 have F33:FnAt K mg "steps_of" qdt ["test"]:=p33.at X G fun _ _ _ _ _ _ us hl=>match us,hl with | [_],_=>rfl
 have F34:FnAt K mg "is_sure" qeb ["test"]:=p34.at X G fun _ _ _ _ _ _ us hl=>match us,hl with | [_],_=>rfl
 have F35:FnAt K mg "renamed" qeg ["harm","names"]:=p35.at X G fun _ _ _ _ _ _ us hl=>match us,hl with | [_,_],_=>rfl
 have F36:FnAt K mg "placed" yfo ["harms","cells"]:=p36.at X G fun _ _ _ _ _ _ us hl=>match us,hl with | [_,_],_=>rfl
 have F37:FnAt K mg "little" yfk ["harms"]:=p37.at X G fun _ _ _ _ _ _ us hl=>match us,hl with | [_],_=>rfl
 have F38:FnAt K mg "is_order_for" qb1 ["element","thing"]:=p38.at X G fun _ _ _ _ _ _ us hl=>match us,hl with | [_,_],_=>rfl
 have F39:FnAt K mg "are_orders" qcj ["test","thing"]:=p39.at X G fun _ _ _ _ _ _ us hl=>match us,hl with | [_,_],_=>rfl
 have F40:FnAt K mg "look_at_orders" ybl ["test","thing"]:=p40.at X G fun _ _ _ _ _ _ us hl=>match us,hl with | [_,_],_=>rfl
 have F41:FnAt K mg "deeds" yhi ["order","steps","size"]:=p41.at X G fun _ _ _ _ _ _ us hl=>match us,hl with | [_,_,_],_=>rfl
 have F42:FnAt K mg "all_reads" ycx ["test","memory","orders"]:=p42.at X G fun _ _ _ _ _ _ us hl=>match us,hl with | [_,_,_],_=>rfl
 have F43:FnAt K mg "reads_of" ydv ["test","size","harms","contents","orders"]:=p43.at X G fun _ _ _ _ _ _ us hl=>match us,hl with | [_,_,_,_,_],_=>rfl
 have F44:FnAt K mg "first_shown" yb4 ["test","size","harms","contents","orders"]:=p44.at X G fun _ _ _ _ _ _ us hl=>match us,hl with | [_,_,_,_,_],_=>rfl
 have F45:FnAt K mg "_law_cell_at" ybz ["_law_script","_law_k"]:=p45.at X G fun _ _ _ _ _ _ us hl=>match us,hl with | [_,_],_=>rfl
 have F46:FnAt K mg "_law_digits" yb5 ["_law_cell","_law_turn","_law_sizes"]:=p46.at X G fun _ _ _ _ _ _ us hl=>match us,hl with | [_,_,_],_=>rfl
 have F47:FnAt K mg "_law_test" yc1 ["_law_cells","_law_sure"]:=p47.at X G fun _ _ _ _ _ _ us hl=>match us,hl with | [_,_],_=>rfl
 have F48:FnAt K mg "_law_orders" yb6 ["_law_test_here","_law_cell"]:=p48.at X G fun _ _ _ _ _ _ us hl=>match us,hl with | [_,_],_=>rfl
 have F49:FnAt K mg "_law_harm" qc4 ["_law_d","_law_some"]:=p49.at X G fun _ _ _ _ _ _ us hl=>match us,hl with | [_,_],_=>rfl
 have F50:FnAt K mg "_law_harms" qci ["_law_cell","_law_turn","_law_size","_law_most"]:=p50.at X G fun _ _ _ _ _ _ us hl=>match us,hl with | [_,_,_,_],_=>rfl
 have F51:FnAt K mg "_law_put" ydr ["_law_harms_here","_law_held","_law_cell","_law_bit"]:=p51.at X G fun _ _ _ _ _ _ us hl=>match us,hl with | [_,_,_,_],_=>rfl
 have F52:FnAt K mg "_law_first_held" qbd ["_law_harms_here","_law_contents"]:=p52.at X G fun _ _ _ _ _ _ us hl=>match us,hl with | [_,_],_=>rfl
 have F53:FnAt K mg "_law_into" qc3 ["_law_harms_here","_law_held","_law_cell","_law_bit"]:=p53.at X G fun _ _ _ _ _ _ us hl=>match us,hl with | [_,_,_,_],_=>rfl
 have F54:FnAt K mg "_law_from" yc3 ["_law_harms_here","_law_held","_law_cell"]:=p54.at X G fun _ _ _ _ _ _ us hl=>match us,hl with | [_,_,_],_=>rfl
 have F55:FnAt K mg "_law_act" ydu ["_law_harms_here","_law_held","_law_address","_law_step"]:=p55.at X G fun _ _ _ _ _ _ us hl=>match us,hl with | [_,_,_,_],_=>rfl
 have F56:FnAt K mg "_law_run" ydt ["_law_test_here","_law_size","_law_harms_here","_law_contents","_law_orders_here"]:=p56.at X G fun _ _ _ _ _ _ us hl=>match us,hl with | [_,_,_,_,_],_=>rfl
 have F57:FnAt K mg "_law_right" qce ["_law_test_here","_law_size","_law_harms_here","_law_contents","_law_orders_here"]:=p57.at X G fun _ _ _ _ _ _ us hl=>match us,hl with | [_,_,_,_,_],_=>rfl
 have FL:=qc7 (st:=qhs) l58 c58 k58
 refine ⟨PySem.W.fnOf "law" "law" (qbn qhs) (qa3 qhs) (qad qhs) .none kV58 dc58 pm58 an58 cd58 ct58,fun s v=>.of_eq rfl,fun base _ _=>?_⟩
 have M0___init__:ydb K C0 "__init__" "Memory.__init__" yaq ["self","size","harms","contents"]:=⟨fm0_0,_,⟨am0_0,im0_0,km0_0⟩,qc7 (st:=yaq) lm0_0 cm0_0 km0_0,Fun.binds (qc7 (st:=yaq) lm0_0 cm0_0 km0_0) fun _ _ _ _ _ _ us hl=>match us,hl with | [_,_,_,_],_=>rfl⟩
 have M0_look_at_address:ydb K C0 "look_at_address" "Memory.look_at_address" yam ["self","address"]:=⟨fm0_1,_,⟨am0_1,im0_1,km0_1⟩,qc7 (st:=yam) lm0_1 cm0_1 km0_1,Fun.binds (qc7 (st:=yam) lm0_1 cm0_1 km0_1) fun _ _ _ _ _ _ us hl=>match us,hl with | [_,_],_=>rfl⟩
 have M0_read:ydb K C0 "read" "Memory.read" ya1 ["self","address"]:=⟨fm0_2,_,⟨am0_2,im0_2,km0_2⟩,qc7 (st:=ya1) lm0_2 cm0_2 km0_2,Fun.binds (qc7 (st:=ya1) lm0_2 cm0_2 km0_2) fun _ _ _ _ _ _ us hl=>match us,hl with | [_,_],_=>rfl⟩
 have M0_write:ydb K C0 "write" "Memory.write" yax ["self","address","bit"]:=⟨fm0_3,_,⟨am0_3,im0_3,km0_3⟩,qc7 (st:=yax) lm0_3 cm0_3 km0_3,Fun.binds (qc7 (st:=yax) lm0_3 cm0_3 km0_3) fun _ _ _ _ _ _ us hl=>match us,hl with | [_,_,_],_=>rfl⟩
 have M0_size:ydb K C0 "size" "Memory.size" qa2 ["self"]:=⟨fm0_4,_,⟨am0_4,im0_4,km0_4⟩,qc7 (st:=qa2) lm0_4 cm0_4 km0_4,Fun.binds (qc7 (st:=qa2) lm0_4 cm0_4 km0_4) fun _ _ _ _ _ _ us hl=>match us,hl with | [_],_=>rfl⟩
 have h0:=qiu (P:=l.prog) (w:=w) (base:=base) B F0
 have h1:=qlz h0 F1
 have h2:=yig (P:=l.prog) (w:=w) (base:=base) B F2
 have h3:=yj6 g_MC h0 F3
 have h4:=yj4 g_J h3 h1 h2 F4
 have h5:=yi2 (P:=l.prog) (w:=w) (base:=base) B gP TP F5
 have h6:=qi9 (P:=l.prog) (w:=w) (base:=base) B qd7 gP TP F6
 have h7:=yiq B qd7 qhi gP TP h4 F7
 have h8:=qj9 B yhm h5 h7 h6 F8
 have h9:=qff B yhm g_MH g_MU h8 h6 F9
 have h10:=qi6 B yhm h9 h6 F10
 have h11:=yil (P:=l.prog) (w:=w) (base:=base) F11
 have h12:=ok_put h11 F12
 have h13:=qlg B h11 h12 F13
 have h14:=yeh (P:=l.prog) (w:=w) (base:=base) F14
 have h15:=qfh (P:=l.prog) (w:=w) (base:=base) F15
 have h16:=qih h12 F16
 have h17:=yj3 B h14 h15 h16 F17
 have h18:=qkh (P:=l.prog) (w:=w) (base:=base) F18
 have h19:=qiv (P:=l.prog) (w:=w) (base:=base) F19
 have h20:=yff h12 F20
 have h21:=yhh h18 h12 h19 h20 F21
 have h22:=yiv h14 h15 h21 F22
 have h23:=qkf g_MC h0 F23
 have h24:=qf4 B qhi h1 F24
 have h25:=yet B h10 h23 h24 F25
 have h26:=ygl h1 F26
 have yey:=qlk B cm h0 M0_look_at_address
 have yi9:=qmb cm yey h17 M0_read
 have yhn:=ykm cm yey h26 h22 M0_write
 have yje:=yll (P:=l.prog) (w:=w) (base:=base) B cm M0_size
 have hm_init:=yl4 B cm h25 h13 M0___init__
 have yfu:=HasI.of (x:="Memory") (m:="Memory") (PySem.W.mg_of X G ca0) ⟨cm0_,am0_0,im0_0,ck0⟩ (fun g h=>meth_un am0_0 h) hm_init
 have h27:=ykh (P:=l.prog) (w:=w) (base:=base) B F27
 have h28:=yh1 (P:=l.prog) (w:=w) (base:=base) B F28
 have h29:=yj7 qf6 h27 h2 h1 F29
 have h30:=qia qg8 g_E h27 h2 h28 F30
 have h31:=qef B h30 h29 F31
 have h32:=yfz B g_T h28 h31 F32
 have h33:=yjf (P:=l.prog) (w:=w) (base:=base) F33
 have h34:=yj1 h32 h33 F34
 have h35:=ykn (P:=l.prog) (w:=w) (base:=base) B qd7 gP TP F35
 have h36:=qmc B qd7 h10 h35 F36
 have h37:=ylr B h10 h36 F37
 have h38:=qge qji h2 F38
 have h39:=qhf B qd7 qhi h38 F39
 have h40:=yew h39 F40
 have h41:=ok_deeds (P:=l.prog) (w:=w) (base:=base) B F41
 have h42:=yht B cm h41 yi9 yhn yje F42
 have h43:=yjd B h32 yfu h40 h42 F43
 have h44:=qgk h43 F44
 have h45:=qjf (P:=l.prog) (w:=w) (base:=base) B F45
 have h46:=ymc (P:=l.prog) (w:=w) (base:=base) B F46
 have h47:=ok_test B h46 F47
 have h48:=yk6 B h46 F48
 have h49:=ok_harm (P:=l.prog) (w:=w) (base:=base) B F49
 have h50:=ok_harms B h46 h49 F50
 have h51:=ok_lput (P:=l.prog) (w:=w) (base:=base) F51
 have h52:=yhe B h51 F52
 have h53:=ok_into B h51 F53
 have h54:=ok_from B h51 F54
 have h55:=ok_act B h53 h54 F55
 have h56:=ok_run B h52 h55 F56
 have h57:=ok_right B h10 h37 h43 h56 h34 h44 F57
 exact ok_law B h46 h45 h47 h50 h48 h57 FL
theorem walk {l:PySem.W.OpenLaw}{q:Program}{loose:List Str}{XP:(Str→Option Value)→Heap→Prop}{YP:World→Heap→Prop}{d:DefRec}{K:Params→PySem.W.Frag} (hn:l.most=some 63) (hdf:d.params.defaults=[])
  (hY:∀ (w:World) (h:Heap),YP w h→(K w.params).In h)
  (F:∀ (w:World) (mg:Str→Option Value) (fa:Addr) (h:Heap),(K w.params).In h→h.Ns mainGlobals mg→mg d.name=some (.ref fa)→
   ∃ fd:FuncData,(∀ (s:Shared) (u:Value),BindsTo s fd ⟨[u],[]⟩ [("_law_script",u)])∧∀ base:Heap,(K w.params).In base→base.Ns mainGlobals mg→FnOk l.prog w (K w.params) mg base CX0 14 fa fd ["_law_script"] (yj0 (K w.params))) :
  PySem.W.WalkO q loose XP YP l.row.toRowW d [] (fun f vs=>PySem.call f vs):=
 L2.walk_of (n:=63) (k:=14) (x:="_law_script") (CX:=fun _=>CX0) (sp:=fun w=>yj0 (K w.params)) hn (by decide) hdf ⟨rfl,by decide,by decide,rfl⟩ hY F (fun _ _ a ns hl _ hS=>⟨a,ns,rfl,hS,hl,fun _=>rfl⟩) fun _ _ _ _ _ z=>z
end Mh
def PySem.W.Fast.tw5124461962284317466:Nat:=0
def PySem.W.Fast.tw1672808536638796061:Nat:=0
def PySem.W.Fast.tw2421039730109934878:Nat:=0
def PySem.W.Fast.tw13015790161185994410:Nat:=0
def PySem.W.Fast.tw12055809409638348953:Nat:=0
def PySem.W.Fast.tw12157683194788526904:Nat:=0
def PySem.W.Fast.tw15112743437010748087:=PySem.Challenge.pw_marchmend_k20_whole_what_lies_between
theorem PySem.W.Fast.te15112743437010748087:PySem.Challenge.pw_marchmend_k20_whole_what_lies_between=PySem.W.Fast.tw15112743437010748087:=rfl
def PySem.W.Fast.tw15854228767109989211:Nat:=0
def PySem.W.Fast.tw13094225754194515092:Nat:=0
def PySem.W.Fast.tw17777080908222020569:Nat:=0
def PySem.W.Fast.tw18109994770390202065:Nat:=0
def PySem.W.Fast.tw8795119505545117317:Nat:=0
def PySem.W.Fast.tw11731591409325075254:Nat:=0
def PySem.W.Fast.tw2830470358221905454:Nat:=0
def PySem.W.Fast.tw17976919374332860688:Nat:=0
def PySem.W.Fast.tw16070822445781791271:Nat:=0
def PySem.W.Fast.tw11264981341392065489:Nat:=0
def PySem.W.Fast.tw17315939036580187141:Nat:=0
def PySem.W.Fast.tw242762449884467515:Nat:=0
def PySem.W.Fast.tw14263528925309920100:Nat:=0
def PySem.W.Fast.tw18416878194280558965:Nat:=0
def PySem.W.Fast.tw11534351874635770012:Nat:=0
def PySem.W.Fast.tw17168183353577576236:Nat:=0
def PySem.W.Fast.tw6400272067040394190:Nat:=0
def PySem.W.Fast.tw16120005333087307901:Nat:=0
def PySem.W.Fast.tw17879023423778530598:Nat:=0
def PySem.W.Fast.tw5253638921018730423:Nat:=0
def PySem.W.Fast.tw11259706813303174902:Nat:=0
def PySem.W.Fast.tw13012144939070966822:Nat:=0
def PySem.W.Fast.tw7346813645696784144:Nat:=0
def PySem.W.Fast.tw17390053210112948435:Nat:=0
def PySem.W.Fast.tw5285649330675917543:Nat:=0
def PySem.W.Fast.tw16274461512053125373:Nat:=0
def PySem.W.Fast.tw3183023168919672279:Nat:=0
def PySem.W.Fast.tw17875478814470783677:Nat:=0
def PySem.W.Fast.tw2305291704345281820:Nat:=0
def PySem.W.Fast.tw13993954755646003533:Nat:=0
def PySem.W.Fast.tw12104661621830138687:Nat:=0
def PySem.W.Fast.tw13881409277894363875:Nat:=0
def PySem.W.Fast.tw6936534304426875067:Nat:=0
def PySem.W.Fast.tw7923818298786533307:Nat:=0
def PySem.W.Fast.tw5351894446173525833:Nat:=0
def PySem.W.Fast.tw6419921332298023060:Nat:=0
def PySem.W.Fast.tw10612179188165720136:Nat:=0
def PySem.W.Fast.tw17156588754046621223:Nat:=0
def PySem.W.Fast.tw13859413920791369799:Nat:=0
def PySem.W.Fast.tw11466495467799992834:Nat:=0
def PySem.W.Fast.tw15247814567762816395:Nat:=0
def PySem.W.Fast.tw17553681318678752853:Nat:=0
def PySem.W.Fast.tw9933458371716974843:Nat:=0
def PySem.W.Fast.tw10900573158682857472:Nat:=0
def PySem.W.Fast.tw13788887625233957900:Nat:=0
def PySem.W.Fast.tw13924994243337456397:Nat:=0
def PySem.W.Fast.tw13632798504871771006:Nat:=0
def PySem.W.Fast.tw15558424866378699804:Nat:=0
def PySem.W.Fast.tw13011374926629741965:Nat:=0
def PySem.W.Fast.tw6126391896885468803:Nat:=0
def PySem.W.Fast.tw15708719620193675455:Nat:=0
def PySem.W.Fast.tw12273401515947780151:Nat:=0
def PySem.W.Fast.tw12445861249841667197:Nat:=0
def PySem.W.Fast.tw887591879064389761:Nat:=0
def PySem.W.Fast.tw17666148400711741525:Nat:=0
def PySem.W.Fast.tw5327037311618369851:Nat:=0
def PySem.W.Fast.tw3691819629365636560:Nat:=0
def PySem.W.Fast.tw4282141675536693036:Nat:=0
def PySem.W.Fast.tw3407783186726610743:Nat:=0
def PySem.W.Fast.tw5258431154920756963:Nat:=0
def PySem.W.Fast.tw16919613939911596581:Nat:=0
def PySem.W.Fast.tw1482785087911038059:Nat:=0
def PySem.W.Fast.tw14225540296626556081:Nat:=0
def PySem.W.Fast.tw13633983004214237018:Nat:=0
def PySem.W.Fast.tw8941687967177090646:Nat:=0
def PySem.W.Fast.tw1650489681404054592:Nat:=0
def PySem.W.Fast.tw16191071644178405639:Nat:=0
def PySem.W.Fast.tw8109010214945248716:Nat:=0
def PySem.W.Fast.tw17046852587884890056:Nat:=0
def PySem.W.Fast.tw3022386077818811665:Nat:=0
def PySem.W.Fast.tw14260162811343325690:Nat:=0
def PySem.W.Fast.tw3972466909730185482:Nat:=0
def PySem.W.Fast.tw2282311241195699536:Nat:=0
def PySem.W.Fast.tw10835683927588388872:Nat:=0
def PySem.W.Fast.tw6453235904189341261:Nat:=0
def PySem.W.Fast.tw4388002619500781638:Nat:=0
def PySem.W.Fast.tw17430697360196340197:Nat:=0
def PySem.W.Fast.tw7424252239853143876:Nat:=0
def PySem.W.Fast.tw5668385379260879152:Nat:=0
def PySem.W.Fast.tw15614532824335327972:Nat:=0
def PySem.W.Fast.tw14627881009217327891:Nat:=0
def PySem.W.Fast.tw4411358737987514413:Nat:=0
def PySem.W.Fast.tw6929059618003267112:Nat:=0
def PySem.W.Fast.tw3425674692923851467:Nat:=0
def PySem.W.Fast.tw939720865713630915:Nat:=0
def PySem.W.Fast.tw15705616718092988097:Nat:=0
def PySem.W.Fast.tw14148730212857971612:Nat:=0
def PySem.W.Fast.tw5845595389443904875:Nat:=0
def PySem.W.Fast.tw10974982366270647885:Nat:=0
def PySem.W.Fast.tw7062058612929528825:Nat:=0
def PySem.W.Fast.tw174327522239417501:Nat:=0
def PySem.W.Fast.tw15322610863998750870:Nat:=0
def PySem.W.Fast.tw18012402881293042753:Nat:=0
def PySem.W.Fast.tw12512544355200895026:Nat:=0
def PySem.W.Fast.tw16660594729780648712:Nat:=0
def PySem.W.Fast.tw10512456756619491712:Nat:=0
def PySem.W.Fast.tw2008836095983091089:Nat:=0
def PySem.W.Fast.tw1529742801617213694:Nat:=0
def PySem.W.Fast.tw12238619615372896146:Nat:=0
def PySem.W.Fast.tw14830258765659646806:Nat:=0
def PySem.W.Fast.tw5269211928415556552:Nat:=0
def PySem.W.Fast.tw2917832833700336578:Nat:=0
def PySem.W.Fast.tw8299704021324228520:Nat:=0
def PySem.W.Fast.tw15822558476243902088:Nat:=0
def PySem.W.Fast.tw11738744891389112661:Nat:=0
def PySem.W.Fast.tw17944852420591618792:Nat:=0
def PySem.W.Fast.tw16453245606847927497:Nat:=0
def PySem.W.Fast.tw13348773299014652107:Nat:=0
def PySem.W.Fast.tw4387147280751966287:Nat:=0
def PySem.W.Fast.tw7658378578770411769:Nat:=0
def PySem.W.Fast.tw4763485984572481207:Nat:=0
def PySem.W.Fast.tw9001612990418620994:Nat:=0
def PySem.W.Fast.tw14381667373073502037:Nat:=0
def PySem.W.Fast.tw15813816589692049569:Nat:=0
def PySem.W.Fast.tw10711864446804014397:Nat:=0
def PySem.W.Fast.tw6575257306279108845:Nat:=0
def PySem.W.Fast.tw16462627159859557512:Nat:=0
def PySem.W.Fast.tw7612038221703889473:Nat:=0
def PySem.W.Fast.tw11210874469604143238:Nat:=0
def PySem.W.Fast.tw13908074003334786868:Nat:=0
def PySem.W.Fast.tw9253615595244924246:Nat:=0
def PySem.W.Fast.tw8136110568317492029:Nat:=0
def PySem.W.Fast.tw16857600736971891163:Nat:=0
def PySem.W.Fast.tw9507353765995569258:Nat:=0
def PySem.W.Fast.tw11246771733992575953:Nat:=0
def PySem.W.Fast.tw17640207356104159385:Nat:=0
def PySem.W.Fast.tw15375459194824008063:Nat:=0
def PySem.W.Fast.tw162282891032000476:Nat:=0
def PySem.W.Fast.tw2366582401330377585:Nat:=0
def PySem.W.Fast.tw14565798140384450842:Nat:=0
def PySem.W.Fast.tw5856614984678723982:Nat:=0
def PySem.W.Fast.tw14379833173096902452:Nat:=0
def PySem.W.Fast.tw17621220820910160232:Nat:=0
def PySem.W.Fast.tw16413297259085204978:Nat:=0
def PySem.W.Fast.tw16742974920487890983:Nat:=0
def PySem.W.Fast.tw10424773638306144662:Nat:=0
def PySem.W.Fast.tw8741653353950370493:Nat:=0
def PySem.W.Fast.tw12875466105217806586:Nat:=0
def PySem.W.Fast.tw11853883222767525114:Nat:=0
def PySem.W.Fast.tw14301955963659493254:Nat:=0
def PySem.W.Fast.tw11717880498526245341:Nat:=0
def PySem.W.Fast.tw3464930572535995005:Nat:=0
def PySem.W.Fast.tw9215663690193063247:Nat:=0
def PySem.W.Fast.tw15419292855382090360:Nat:=0
def PySem.W.Fast.tw4919589851651432076:Nat:=0
def PySem.W.Fast.tw7558129411306346120:Nat:=0
def PySem.W.Fast.tw7806761073087864120:Nat:=0
def PySem.W.Fast.tw6465820750968817162:Nat:=0
def PySem.W.Fast.tw16952354112695892821:Nat:=0
def PySem.W.Fast.tw12738714181467013957:Nat:=0
def PySem.W.Fast.tw7632748539798794776:Nat:=0
def PySem.W.Fast.tw13922716154766165384:Nat:=0
def PySem.W.Fast.tw7228396352016895489:Nat:=0
def PySem.W.Fast.tw682066849487385872:Nat:=0
def PySem.W.Fast.tw13472870811190375971:Nat:=0
def PySem.W.Fast.tw3276989902144081194:Nat:=0
def PySem.W.Fast.tw18314860158033367539:Nat:=0
def PySem.W.Fast.tw2796911434749409924:Nat:=0
def PySem.W.Fast.tw11153374497968958569:Nat:=0
def PySem.W.Fast.tw15154109585308912622:Nat:=0
def PySem.W.Fast.tw881964750500707251:Nat:=0
def PySem.W.Fast.tw1375492892707903202:Nat:=0
def PySem.W.Fast.tw7280194571500614268:Nat:=0
def PySem.W.Fast.tw18275916081121009681:Nat:=0
def PySem.W.Fast.tw13500822812659881052:Nat:=0
def PySem.W.Fast.tw8985820393088470852:Nat:=0
def PySem.W.Fast.tw12919090794821391026:Nat:=0
def PySem.W.Fast.tw17193336659273069658:Nat:=0
def PySem.W.Fast.tw5310952377135624602:Nat:=0
def PySem.W.Fast.tw8917083482190519441:Nat:=0
def PySem.W.Fast.tw9251534484671100609:Nat:=0
def PySem.W.Fast.tw18375560555970937900:Nat:=0
def PySem.W.Fast.tw9764768199921733690:Nat:=0
def PySem.W.Fast.tw440621940737421501:Nat:=0
def PySem.W.Fast.tw3973821379115823404:Nat:=0
def PySem.W.Fast.tw8772574757956644528:Nat:=0
def PySem.W.Fast.tw14421814517670039375:Nat:=0
def PySem.W.Fast.tw12988911794722073820:Nat:=0
def PySem.W.Fast.tw18214315453493842136:Nat:=0
def PySem.W.Fast.tw17307548253937813702:Nat:=0
def PySem.W.Fast.tw2021083038541429769:Nat:=0
def PySem.W.Fast.tw11498219781823451853:Nat:=0
open PySem PySem.W PyProof.Rows
set_option maxRecDepth 100000 in
set_option maxHeartbeats 0 in
theorem PySem.Challenge.cw_marchmend_k20_whole_what_lies_between_holds : PySem.Challenge.rw_marchmend_k20_whole_what_lies_between.Holds := by
  w_on; o_law; k_head; (case hw=>w_witness2)
  k_fill
  refine Mh.walk (l:=PySem.Challenge.rw_marchmend_k20_whole_what_lies_between) rfl rfl (fun w h Y=>PySem.W.kIn_of Y) ?F
  case F=>
    intro w mg fa h KX G hmg
    refine' Mh.all_mk KX G hmg ?p0 ?p1 ?p2 ?p3 ?p4 ?p5 ?p6 ?p7 ?p8 ?p9 ?p10 ?p11 ?p12 ?p13 ?p14 ?p15 ?p16 ?p17 ?p18 ?p19 ?p20 ?p21 ?p22 ?p23 ?p24 ?p25 ?p26 ?p27 ?p28 ?p29 ?p30 ?p31 ?p32 ?p33 ?p34 ?p35 ?p36 ?p37 ?p38 ?p39 ?p40 ?p41 ?p42 ?p43 ?p44 ?p45 ?p46 ?p47 ?p48 ?p49 ?p50 ?p51 ?p52 ?p53 ?p54 ?p55 ?p56 ?p57 ?a58 ?l58 ?c58 ?k58 ?z0 ?z1 ?z2 ?z3 ?z4 ?z5 ?z6 ?z7 ?z8 ?z9 ?z10 ?z11 ?z12 ?z13 ?z14 ?z15 ?zset ?zzip ?zall ?aMC ?aMH ?aMU ?aJ ?lJ ?aP ?lP ?mP ?tp0 ?tp1 ?tp2 ?tp3 ?tp4 ?tp5 ?tp6 ?tp7 ?tp8 ?tp9 ?aO ?lO ?aL ?lL ?aK ?lK ?aT ?aE ?ca0 ?cp0 ?cd0_ ?co0 ?cs0 ?cf0_0 ?cf0_1 ?cm0_ ?ck0 ?am0_0 ?lm0_0 ?cm0_0 ?im0_0 ?km0_0 ?am0_1 ?lm0_1 ?cm0_1 ?im0_1 ?km0_1 ?am0_2 ?lm0_2 ?cm0_2 ?im0_2 ?km0_2 ?am0_3 ?lm0_3 ?cm0_3 ?im0_3 ?km0_3 ?am0_4 ?lm0_4 ?cm0_4 ?im0_4 ?km0_4
    (case p0=>exact ⟨_,_,_,_,_,_,_,_,_,_,by k_is,by k_is,by k_is,by k_is⟩)
    (case p1=>exact ⟨_,_,_,_,_,_,_,_,_,_,by k_is,by k_is,by k_is,by k_is⟩)
    (case p2=>exact ⟨_,_,_,_,_,_,_,_,_,_,by k_is,by k_is,by k_is,by k_is⟩)
    (case p3=>exact ⟨_,_,_,_,_,_,_,_,_,_,by k_is,by k_is,by k_is,by k_is⟩)
    (case p4=>exact ⟨_,_,_,_,_,_,_,_,_,_,by k_is,by k_is,by k_is,by k_is⟩)
    (case p5=>exact ⟨_,_,_,_,_,_,_,_,_,_,by k_is,by k_is,by k_is,by k_is⟩)
    (case p6=>exact ⟨_,_,_,_,_,_,_,_,_,_,by k_is,by k_is,by k_is,by k_is⟩)
    (case p7=>exact ⟨_,_,_,_,_,_,_,_,_,_,by k_is,by k_is,by k_is,by k_is⟩)
    (case p8=>exact ⟨_,_,_,_,_,_,_,_,_,_,by k_is,by k_is,by k_is,by k_is⟩)
    (case p9=>exact ⟨_,_,_,_,_,_,_,_,_,_,by k_is,by k_is,by k_is,by k_is⟩)
    (case p10=>exact ⟨_,_,_,_,_,_,_,_,_,_,by k_is,by k_is,by k_is,by k_is⟩)
    (case p11=>exact ⟨_,_,_,_,_,_,_,_,_,_,by k_is,by k_is,by k_is,by k_is⟩)
    (case p12=>exact ⟨_,_,_,_,_,_,_,_,_,_,by k_is,by k_is,by k_is,by k_is⟩)
    (case p13=>exact ⟨_,_,_,_,_,_,_,_,_,_,by k_is,by k_is,by k_is,by k_is⟩)
    (case p14=>exact ⟨_,_,_,_,_,_,_,_,_,_,by k_is,by k_is,by k_is,by k_is⟩)
    (case p15=>exact ⟨_,_,_,_,_,_,_,_,_,_,by k_is,by k_is,by k_is,by k_is⟩)
    (case p16=>exact ⟨_,_,_,_,_,_,_,_,_,_,by k_is,by k_is,by k_is,by k_is⟩)
    (case p17=>exact ⟨_,_,_,_,_,_,_,_,_,_,by k_is,by k_is,by k_is,by k_is⟩)
    (case p18=>exact ⟨_,_,_,_,_,_,_,_,_,_,by k_is,by k_is,by k_is,by k_is⟩)
    (case p19=>exact ⟨_,_,_,_,_,_,_,_,_,_,by k_is,by k_is,by k_is,by k_is⟩)
    (case p20=>exact ⟨_,_,_,_,_,_,_,_,_,_,by k_is,by k_is,by k_is,by k_is⟩)
    (case p21=>exact ⟨_,_,_,_,_,_,_,_,_,_,by k_is,by k_is,by k_is,by k_is⟩)
    (case p22=>exact ⟨_,_,_,_,_,_,_,_,_,_,by k_is,by k_is,by k_is,by k_is⟩)
    (case p23=>exact ⟨_,_,_,_,_,_,_,_,_,_,by k_is,by k_is,by k_is,by k_is⟩)
    (case p24=>exact ⟨_,_,_,_,_,_,_,_,_,_,by k_is,by k_is,by k_is,by k_is⟩)
    (case p25=>exact ⟨_,_,_,_,_,_,_,_,_,_,by k_is,by k_is,by k_is,by k_is⟩)
    (case p26=>exact ⟨_,_,_,_,_,_,_,_,_,_,by k_is,by k_is,by k_is,by k_is⟩)
    (case p27=>exact ⟨_,_,_,_,_,_,_,_,_,_,by k_is,by k_is,by k_is,by k_is⟩)
    (case p28=>exact ⟨_,_,_,_,_,_,_,_,_,_,by k_is,by k_is,by k_is,by k_is⟩)
    (case p29=>exact ⟨_,_,_,_,_,_,_,_,_,_,by k_is,by k_is,by k_is,by k_is⟩)
    (case p30=>exact ⟨_,_,_,_,_,_,_,_,_,_,by k_is,by k_is,by k_is,by k_is⟩)
    (case p31=>exact ⟨_,_,_,_,_,_,_,_,_,_,by k_is,by k_is,by k_is,by k_is⟩)
    (case p32=>exact ⟨_,_,_,_,_,_,_,_,_,_,by k_is,by k_is,by k_is,by k_is⟩)
    (case p33=>exact ⟨_,_,_,_,_,_,_,_,_,_,by k_is,by k_is,by k_is,by k_is⟩)
    (case p34=>exact ⟨_,_,_,_,_,_,_,_,_,_,by k_is,by k_is,by k_is,by k_is⟩)
    (case p35=>exact ⟨_,_,_,_,_,_,_,_,_,_,by k_is,by k_is,by k_is,by k_is⟩)
    (case p36=>exact ⟨_,_,_,_,_,_,_,_,_,_,by k_is,by k_is,by k_is,by k_is⟩)
    (case p37=>exact ⟨_,_,_,_,_,_,_,_,_,_,by k_is,by k_is,by k_is,by k_is⟩)
    (case p38=>exact ⟨_,_,_,_,_,_,_,_,_,_,by k_is,by k_is,by k_is,by k_is⟩)
    (case p39=>exact ⟨_,_,_,_,_,_,_,_,_,_,by k_is,by k_is,by k_is,by k_is⟩)
    (case p40=>exact ⟨_,_,_,_,_,_,_,_,_,_,by k_is,by k_is,by k_is,by k_is⟩)
    (case p41=>exact ⟨_,_,_,_,_,_,_,_,_,_,by k_is,by k_is,by k_is,by k_is⟩)
    (case p42=>exact ⟨_,_,_,_,_,_,_,_,_,_,by k_is,by k_is,by k_is,by k_is⟩)
    (case p43=>exact ⟨_,_,_,_,_,_,_,_,_,_,by k_is,by k_is,by k_is,by k_is⟩)
    (case p44=>exact ⟨_,_,_,_,_,_,_,_,_,_,by k_is,by k_is,by k_is,by k_is⟩)
    (case p45=>exact ⟨_,_,_,_,_,_,_,_,_,_,by k_is,by k_is,by k_is,by k_is⟩)
    (case p46=>exact ⟨_,_,_,_,_,_,_,_,_,_,by k_is,by k_is,by k_is,by k_is⟩)
    (case p47=>exact ⟨_,_,_,_,_,_,_,_,_,_,by k_is,by k_is,by k_is,by k_is⟩)
    (case p48=>exact ⟨_,_,_,_,_,_,_,_,_,_,by k_is,by k_is,by k_is,by k_is⟩)
    (case p49=>exact ⟨_,_,_,_,_,_,_,_,_,_,by k_is,by k_is,by k_is,by k_is⟩)
    (case p50=>exact ⟨_,_,_,_,_,_,_,_,_,_,by k_is,by k_is,by k_is,by k_is⟩)
    (case p51=>exact ⟨_,_,_,_,_,_,_,_,_,_,by k_is,by k_is,by k_is,by k_is⟩)
    (case p52=>exact ⟨_,_,_,_,_,_,_,_,_,_,by k_is,by k_is,by k_is,by k_is⟩)
    (case p53=>exact ⟨_,_,_,_,_,_,_,_,_,_,by k_is,by k_is,by k_is,by k_is⟩)
    (case p54=>exact ⟨_,_,_,_,_,_,_,_,_,_,by k_is,by k_is,by k_is,by k_is⟩)
    (case p55=>exact ⟨_,_,_,_,_,_,_,_,_,_,by k_is,by k_is,by k_is,by k_is⟩)
    (case p56=>exact ⟨_,_,_,_,_,_,_,_,_,_,by k_is,by k_is,by k_is,by k_is⟩)
    (case p57=>exact ⟨_,_,_,_,_,_,_,_,_,_,by k_is,by k_is,by k_is,by k_is⟩)
    (case a58=>k_is)
    (case l58=>k_is)
    (case c58=>k_is)
    (case k58=>k_is)
    (case z0=>k_is)
    (case z1=>k_is)
    (case z2=>k_is)
    (case z3=>k_is)
    (case z4=>k_is)
    (case z5=>k_is)
    (case z6=>k_is)
    (case z7=>k_is)
    (case z8=>k_is)
    (case z9=>k_is)
    (case z10=>k_is)
    (case z11=>k_is)
    (case z12=>k_is)
    (case z13=>k_is)
    (case z14=>k_is)
    (case z15=>k_is)
    (case zset=>k_is)
    (case zzip=>k_is)
    (case zall=>k_is)
    (case aMC=>k_is)
    (case aMH=>k_is)
    (case aMU=>k_is)
    (case aJ=>k_is)
    (case lJ=>k_is)
    (case aP=>k_is)
    (case lP=>k_is)
    (case mP=>rfl)
    (case tp0=>k_is)
    (case tp1=>k_is)
    (case tp2=>k_is)
    (case tp3=>k_is)
    (case tp4=>k_is)
    (case tp5=>k_is)
    (case tp6=>k_is)
    (case tp7=>k_is)
    (case tp8=>k_is)
    (case tp9=>k_is)
    (case aO=>k_is)
    (case lO=>k_is)
    (case aL=>k_is)
    (case lL=>k_is)
    (case aK=>k_is)
    (case lK=>k_is)
    (case aT=>k_is)
    (case aE=>k_is)
    (case ca0=>k_is)
    (case cp0=>k_is)
    (case cd0_=>k_is)
    (case co0=>k_is)
    (case cs0=>k_is)
    (case cf0_0=>k_is)
    (case cf0_1=>k_is)
    (case cm0_=>k_is)
    (case ck0=>k_is)
    (case am0_0=>k_is)
    (case lm0_0=>k_is)
    (case cm0_0=>k_is)
    (case im0_0=>k_is)
    (case km0_0=>k_is)
    (case am0_1=>k_is)
    (case lm0_1=>k_is)
    (case cm0_1=>k_is)
    (case im0_1=>k_is)
    (case km0_1=>k_is)
    (case am0_2=>k_is)
    (case lm0_2=>k_is)
    (case cm0_2=>k_is)
    (case im0_2=>k_is)
    (case km0_2=>k_is)
    (case am0_3=>k_is)
    (case lm0_3=>k_is)
    (case cm0_3=>k_is)
    (case im0_3=>k_is)
    (case km0_3=>k_is)
    (case am0_4=>k_is)
    (case lm0_4=>k_is)
    (case cm0_4=>k_is)
    (case im0_4=>k_is)
    (case km0_4=>k_is)
#print axioms PySem.Challenge.cw_marchmend_k20_whole_what_lies_between_holds
