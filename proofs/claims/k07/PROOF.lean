import PyProof.Rows.All
import Wide.All
import OpenK.AllK
import Wide.FinOn
import Lean
import PyProof.EqAt
import PyProof.EqKinds
import PyProof.TupleCall
import PyProof.StrLawsTight
import PyProof.Rows.StrJoin2
import PyProof.Rows.StrSplitJoin
import KE.KTab
import PyProof.ZipIter
import PyProof.Rows.TupIter
import PyProof.Rows.SortWalk
import PyProof.Rows.SortStr
import PyProof.ConsumeWalk
import KE.KRevSl
import KE.KTryMore
import PyProof.NsDelKeeps
import PyProof.NeKinds
import KE.KIntText
import PyProof.SetKind
import PyProof.SetRoads
import PyProof.Rows.SetFrom
import PyProof.CollectWalk
import PyProof.CollectIter
import PyProof.Rows.SortShell
import PyProof.Rows.MinMaxN
import KE.RegKTryMore
import PySem.Challenge.RW_marchmend_k07_harms_looked_at
set_option Elab.async false
set_option linter.all false
set_option maxRecDepth 100000
namespace L2
open PySem PySem.Spec PyProof.Rows
abbrev Key:=Sum Int Str
def qhn:Key→Value→Bool
  | .inl k,v=>Value.isInt k v
  | .inr x,v=>Value.isStrOf x v
def keyH (w:World):Key→Int
  | .inl k=>hashInt k
  | .inr x=>hashStr w x
theorem qa5:∀ {k:Key} {v:Value},qhn k v=true→(∃ i t,k=Sum.inl i∧v=Value.int i t)∨(∃ x t,k=Sum.inr x∧v=Value.str x t)
  | .inl i,v,h=>by
    obtain ⟨t,e⟩:=Value.isInt_shape (k:=i) (v:=v) h
    exact .inl ⟨i,t,rfl,e⟩
  | .inr x,v,h=>by
    obtain ⟨t,e⟩:=Value.isStrOf_shape (x:=x) (v:=v) h
    exact .inr ⟨x,t,rfl,e⟩
theorem yia (i:Int) (t:Tok):qhn (.inl i) (.int i t)=true:=by simp [qhn,Value.isInt]
theorem qim (x:Str) (t:Tok):qhn (.inr x) (.str x t)=true:=by simp [qhn,Value.isStrOf]
theorem key_ll (a b:Int):decide ((Sum.inl a:Key)=Sum.inl b)=(a == b):=by
  by_cases e:a=b
  · subst e; simp
  · have h:¬ (Sum.inl a:Key)=Sum.inl b:=fun q=>e (Sum.inl.inj q)
    rw [decide_eq_false h]
    exact (beq_eq_false_iff_ne.mpr e).symm
theorem key_rr (a b:Str):decide ((Sum.inr a:Key)=Sum.inr b)=decide (a=b):=by
  by_cases e:a=b
  · subst e; simp
  · have h:¬ (Sum.inr a:Key)=Sum.inr b:=fun q=>e (Sum.inr.inj q)
    rw [decide_eq_false h,decide_eq_false e]
theorem key_lr (a:Int) (b:Str):decide ((Sum.inl a:Key)=Sum.inr b)=false:=decide_eq_false (fun q=>nomatch q)
theorem key_rl (a:Str) (b:Int):decide ((Sum.inr a:Key)=Sum.inl b)=false:=decide_eq_false (fun q=>nomatch q)
def qau (prog:Program) (w:World):PySem.KeyKind prog w Key where
  is:=qhn
  hash:=keyH w
  inj:=fun v a b ha hb=>by
    rcases qa5 ha with ⟨i,t,rfl,rfl⟩ | ⟨x,t,rfl,rfl⟩
    · rcases qa5 hb with ⟨j,u,rfl,e⟩ | ⟨y,u,rfl,e⟩
      · injection e with e1 _; rw [e1]
      · exact nomatch e
    · rcases qa5 hb with ⟨j,u,rfl,e⟩ | ⟨y,u,rfl,e⟩
      · exact nomatch e
      · injection e with e1 _; rw [e1]
  byValue:=fun k v h=>by
    rcases qa5 h with ⟨i,t,rfl,rfl⟩ | ⟨x,t,rfl,rfl⟩ <;> rfl
  pyHash:=fun hv h=>by
    rcases qa5 hv with ⟨i,t,rfl,rfl⟩ | ⟨x,t,rfl,rfl⟩
    · exact wpAny_pyHash_int h
    · exact wpAny_pyHash_str h
  eqBool:=fun hu hv h=>by
    rcases qa5 hu with ⟨i,t,rfl,rfl⟩ | ⟨x,t,rfl,rfl⟩
    · rcases qa5 hv with ⟨j,u,rfl,rfl⟩ | ⟨y,u,rfl,rfl⟩
      · rw [key_ll] at h; exact wpAny_eqBool_int h
      · rw [key_lr] at h; exact SeqAt.EqAt.int_str i t y u _ _ _ _ h
    · rcases qa5 hv with ⟨j,u,rfl,rfl⟩ | ⟨y,u,rfl,rfl⟩
      · rw [key_rl] at h; exact SeqAt.EqAt.str_int x t j u _ _ _ _ h
      · rw [key_rr] at h; exact wpAny_eqBool_str h
  «strs»:=fun k x t v h=>by
    rcases qa5 h with ⟨i,u,rfl,e⟩ | ⟨y,u,rfl,e⟩
    · exact nomatch e
    · injection e with e1 _
      subst e1
      cases v <;> rfl
theorem ygq (prog:Program) (w:World) (i:Int) (t:Tok):(qau prog w).is (.inl i) (.int i t)=true:=yia i t
theorem qgv (prog:Program) (w:World) (x:Str) (t:Tok):(qau prog w).is (.inr x) (.str x t)=true:=qim x t
end L2
namespace L2
open PySem PySem.Spec PyProof.Rows
inductive V where
  | non | bl (b:Bool) | int (i:Int) | str (x:Str) | byt (b:Array UInt8) | flt (b:UInt64) | ref (a:Addr) | ty (n:String)
  deriving DecidableEq
def RelV:V→Value→Prop
  | .non,u=>u=Value.none
  | .bl b,u=>u=Value.bool b
  | .int i,u=>∃ t,u=Value.int i t
  | .str x,u=>∃ t,u=Value.str x t
  | .byt b,u=>∃ t,u=Value.bytes b t
  | .flt b,u=>∃ t,u=Value.float b t
  | .ref a,u=>u=Value.ref a
  | .ty n,u=>u=Value.type n
abbrev Vals:List V→List Value→Prop:=Paired RelV
theorem Vals.length {xs:List V} {us:List Value} (r:Vals xs us):xs.length=us.length:=Paired.length r
theorem Vals.get:∀ {xs:List V} {us:List Value} {i:Nat} {x:V},Vals xs us→xs[i]?=some x→∃ u,us[i]?=some u∧RelV x u
  | _,_,_,_,.nil,e=>by simp at e
  | _,_,0,_,.cons r _,e=>by simp at e; subst e; exact ⟨_,rfl,r⟩
  | _,_,i + 1,x,.cons _ t,e=>by
    obtain ⟨u,h1,h2⟩:=Vals.get (i:=i) (x:=x) t (by simpa using e)
    exact ⟨u,by simpa using h1,h2⟩
theorem Vals.set {x:V} {u:Value} (r:RelV x u):∀ {xs:List V} {us:List Value} (i:Nat),Vals xs us→Vals (xs.set i x) (us.set i u)
  | _,_,_,.nil=>.nil
  | _,_,0,.cons _ t=>.cons r t
  | _,_,i + 1,.cons q t=>.cons q (Vals.set r i t)
theorem Vals.append:∀ {xs ys:List V} {us ws:List Value},Vals xs us→Vals ys ws→Vals (xs++ys) (us++ws)
  | _,_,_,_,.nil,s=>s
  | _,_,_,_,.cons r t,s=>.cons r (Vals.append t s)
theorem Vals.take:∀ {xs:List V} {us:List Value} (n:Nat),Vals xs us→Vals (xs.take n) (us.take n)
  | _,_,0,_=>.nil
  | _,_,_ + 1,.nil=>.nil
  | _,_,n + 1,.cons r t=>.cons r (Vals.take n t)
theorem Vals.drop:∀ {xs:List V} {us:List Value} (n:Nat),Vals xs us→Vals (xs.drop n) (us.drop n)
  | _,_,0,r=>r
  | _,_,_ + 1,.nil=>.nil
  | _,_,n + 1,.cons _ t=>Vals.drop n t
def RelO:Option V→Option Value→Prop
  | some v,some u=>RelV v u
  | none,none=>True
  | _,_=>False
def KV {κ:Type}:List (κ×V)→List (κ×Value)→Prop:=Paired fun (p:κ×V) (q:κ×Value)=>p.1=q.1∧RelV p.2 q.2
def kV:Key→V
  | .inl i=>.int i
  | .inr x=>.str x
inductive HO where
  /-- a list -/
  | lst (xs:List V)
  /-- a tuple (never changes) -/
  | tup (xs:List V)
  /-- a dict whose keys are ints and texts; one whose keys are tuples of ints and texts (the empty one is both) -/
  | dK (kvs:List (Key×V)) | dT (kvs:List (List Key×V))
  /-- a set of ints: its members,its size -/
  | set (S:Int→Bool) (n:Nat)
  /-- an instance of the class at C,its dict at dx,its attributes -/
  | ins (C dx:Addr) (fs:List (Str×V))
  /-- the dict of the instance at x -/
  | own (x:Addr)
  /-- the dict of an exception -/
  | xd (fs:List (Str×V))
  /-- a bound method,f of x -/
  | met (f x:Addr)
  /-- a range object lo,lo + 1,.. below hi -/
  | rng (lo hi:Int)
  /-- a thing that is known to the object (the script; a dict while a loop walks it): read,never written while it is so -/
  | frz (o:Obj) (u:HO)
  /-- a code object's table -/
  | tbl (ps:Array Value)
  /-- any other thing,by what is true of its one object (a def of one's own: SetO a S n:=HO.ext fun h=>..) -/
  | ext (φ:Heap→Prop)
abbrev Hp:=Addr→Option HO
def upd (H:Hp) (a:Addr) (o:HO):Hp:=fun b=>if b=a then some o else H b
theorem qaa {H:Hp} {a:Addr} {o:HO}:upd H a o a=some o:=by unfold upd; rw [if_pos rfl]
theorem qaf {H:Hp} {a b:Addr} {o:HO} (h:b≠a):upd H a o b=H b:=by unfold upd; rw [if_neg h]
theorem qag {H:Hp} {a b:Addr} {o:HO} (h:H a=some o) (h':H b=none):a≠b:=by
  intro e; subst e; rw [h] at h'; cases h'
section
variable (P:Program) (w:World)
def ya4 (H:Hp) (h:Heap) (a:Addr):HO→Prop
  | .lst xs=>xs.length≤sizeLine∧∃ (its:List Value) (n:Nat),Vals xs its∧h.get? a=some { cls:=.type "list",data:=.seq its.toArray n }
  | .tup xs=>xs.length≤sizeLine∧∃ its:List Value,Vals xs its∧IsTup h a its.toArray
  | .dK kvs=>kvs.length≤sizeLine∧(a == sysModules)=false∧∃ vs,KV kvs vs∧h.DictOf (qau P w) a vs
  | .dT kvs=>kvs.length≤sizeLine∧(a == sysModules)=false∧∃ xs:List (List Key×Addr×Value),
      Paired (fun (p:List Key×V) (q:List Key×Addr×Value)=>p.1=q.1∧H q.2.1=some (.tup (p.1.map kV))∧RelV p.2 q.2.2) kvs xs∧
      ∃ o es ep,h.get? a=some o∧o.ExactDict∧o.data=.dict es ep∧es.toList=xs.map (entryOfKey (tupleKind (qau P w)))∧(xs.map (·.1)).Nodup
  | .set S n=>h.SetOf (intKind P w) a S n
  | .ins C dx fs=>H dx=some (.own a)∧fs.length≤1000∧dx≠a∧h.get? a=some (PySem.W.instObj C dx)∧
      ∃ mA,h.Ns1 dx mA∧(∀ f,RelO (fs.lookup f) (mA f))∧PySem.Within mA (fs.map (·.1))
  | .own _=>∃ o,h.get? a=some o
  | .xd fs=>∃ mA,h.Ns1 a mA∧∀ f,RelO (fs.lookup f) (mA f)
  | .rng lo hi=>∃ t u v,h.get? a=some { cls:=.type "range",data:=.fields #[.int lo t,.int hi u,.int 1 v] }
  | .frz o u=>h.get? a=some o∧ya4 H h a u
  | .tbl ps=>h.get? a=some { cls:=.none,data:=.fields ps }
  | .met f x=>h.get? a=some (PySem.W.methodObj (.ref f) (.ref x))
  | .ext φ=>φ h∧(∃ o,h.get? a=some o)∧∀ h1 h2:Heap,φ h1→(∀ o,h1.get? a=some o→h2.get? a=some o)→φ h2
def HOk (H:Hp) (h:Heap):Prop:=∀ a o,H a=some o→ya4 P w H h a o
end
section
variable {P:Program} {w:World} {H H':Hp} {h h':Heap} {a:Addr} {o:HO}
theorem ya4.lt (x:ya4 P w H h a o):a < h.objs.size:=by
  cases o with
  | lst xs=>obtain ⟨_,_,_,_,e⟩:=x; exact Heap.lt_size e
  | tup xs=>obtain ⟨_,_,_,p⟩:=x; exact p.lt
  | dK kvs=>obtain ⟨_,_,_,_,o,_,_,e,_⟩:=x; exact Heap.lt_size e
  | dT kvs=>obtain ⟨_,_,_,_,o,_,_,e,_⟩:=x; exact Heap.lt_size e
  | set S n=>obtain ⟨o,_,_,_,e,_⟩:=x; exact Heap.lt_size e
  | ins C dx fs=>obtain ⟨_,_,_,e,_⟩:=x; exact Heap.lt_size e
  | own y=>obtain ⟨_,e⟩:=x; exact Heap.lt_size e
  | xd fs=>obtain ⟨_,⟨_,_,_,e,_⟩,_⟩:=x; exact Heap.lt_size e
  | rng lo hi=>obtain ⟨_,_,_,e⟩:=x; exact Heap.lt_size e
  | frz ob u=>obtain ⟨e,_⟩:=x; exact Heap.lt_size e
  | tbl ps=>exact Heap.lt_size (show h.get? a=some _ from x)
  | met f y=>exact Heap.lt_size (show h.get? a=some _ from x)
  | ext φ=>obtain ⟨_,⟨_,e⟩,_⟩:=x; exact Heap.lt_size e
theorem Paired.mapP {α β:Type} {F G:α→β→Prop}:∀ {l₁:List α} {l₂:List β},Paired F l₁ l₂→(∀ a b,F a b→G a b)→Paired G l₁ l₂
  | _,_,.nil,_=>.nil
  | _,_,.cons r t,f=>.cons (f _ _ r) (Paired.mapP t f)
theorem ya4.stay (x:ya4 P w H h a o) (k:∀ b u,(b=a∨H b=some (.own a))→h.get? b=some u→h'.get? b=some u)
    (ho:∀ b,H b=some (.own a)→H' b=some (.own a)) (ht:∀ b xs,H b=some (.tup xs)→H' b=some (.tup xs)):ya4 P w H' h' a o:=by
  induction o with
  | lst xs=>obtain ⟨z,its,n,r,e⟩:=x; exact ⟨z,its,n,r,k _ _ (.inl rfl) e⟩
  | tup xs=>obtain ⟨z,its,r,ob,e,c⟩:=x; exact ⟨z,its,r,ob,k _ _ (.inl rfl) e,c⟩
  | dK kvs=>obtain ⟨z,y,vs,r,ob,es,ep,e,c⟩:=x; exact ⟨z,y,vs,r,ob,es,ep,k _ _ (.inl rfl) e,c⟩
  | dT kvs=>
    obtain ⟨z,y,xs,r,ob,es,ep,e,c⟩:=x
    exact ⟨z,y,xs,Paired.mapP r fun p q z=>⟨z.1,ht _ _ z.2.1,z.2.2⟩,ob,es,ep,k _ _ (.inl rfl) e,c⟩
  | set S n=>obtain ⟨ob,es,ep,t,e,c⟩:=x; exact ⟨ob,es,ep,t,k _ _ (.inl rfl) e,c⟩
  | ins C dx fs=>
    obtain ⟨d,z,ne,e,mA,⟨od,es,ep,e2,c⟩,r⟩:=x
    exact ⟨ho _ d,z,ne,k _ _ (.inl rfl) e,mA,⟨od,es,ep,k _ _ (.inr d) e2,c⟩,r⟩
  | own y=>obtain ⟨ob,e⟩:=x; exact ⟨ob,k _ _ (.inl rfl) e⟩
  | xd fs=>obtain ⟨mA,⟨od,es,ep,e,c⟩,r⟩:=x; exact ⟨mA,⟨od,es,ep,k _ _ (.inl rfl) e,c⟩,r⟩
  | rng lo hi=>obtain ⟨t,u,v,e⟩:=x; exact ⟨t,u,v,k _ _ (.inl rfl) e⟩
  | frz ob u ih=>obtain ⟨e,q⟩:=x; exact ⟨k _ _ (.inl rfl) e,ih q⟩
  | tbl ps=>
    have e:h.get? a=some { cls:=.none,data:=.fields ps }:=x
    show h'.get? a=some { cls:=.none,data:=.fields ps }
    exact k a _ (.inl rfl) e
  | met f y=>
    have e:h.get? a=some (PySem.W.methodObj (.ref f) (.ref y)):=x
    show h'.get? a=some (PySem.W.methodObj (.ref f) (.ref y))
    exact k a _ (.inl rfl) e
  | ext φ=>obtain ⟨p,⟨o,e⟩,st⟩:=x; exact ⟨st _ _ p fun o q=>k _ _ (.inl rfl) q,⟨o,k _ _ (.inl rfl) e⟩,st⟩
theorem HOk.lt (x:HOk P w H h) (e:H a=some o):a < h.objs.size:=(x a o e).lt
theorem HOk.fresh (x:HOk P w H h) (e:h.objs.size≤a):H a=none:=by
  cases q:H a with
  | none=>rfl
  | some u=>exact absurd (Nat.lt_of_lt_of_le (x.lt q) e) (Nat.lt_irrefl _)
theorem HOk.kept (x:HOk P w H h) (k:∀ b u,h.get? b=some u→h'.get? b=some u):HOk P w H h':=fun a o e=>
  (x a o e).stay (fun b u _ q=>k b u q) (fun _ q=>q) fun _ _ q=>q
theorem HOk.laid (x:HOk P w H h) (k:∀ b u,h.get? b=some u→h'.get? b=some u) (hp:h.objs.size≤a) (new:ya4 P w (upd H a o) h' a o):HOk P w (upd H a o) h':=fun b u e=>by
  have hn:=x.fresh hp
  by_cases hb:b=a
  · subst hb; rw [qaa] at e; cases e; exact new
  · rw [qaf hb] at e
    exact (x b u e).stay (fun c v _ q=>k c v q) (fun c q=>by rw [qaf (qag q hn)]; exact q) fun c xs q=>by rw [qaf (qag q hn)]; exact q
end
def Rd (H:Hp) (a:Addr) (u:HO):Prop:=H a=some u∨∃ o,H a=some (.frz o u)
theorem Rd.ok {P:Program} {w:World} {H:Hp} {h:Heap} {a:Addr} {u:HO} (r:Rd H a u) (x:HOk P w H h):ya4 P w H h a u:=by
  rcases r with r | ⟨o,r⟩
  · exact x a u r
  · obtain ⟨_,q⟩:=x a _ r
    exact q
def Mut:Option HO→Prop
  | some (.lst _)=>True
  | some (.dK _)=>True
  | some (.dT _)=>True
  | some (.set _ _)=>True
  | some (.ins _ _ _)=>True
  | some (.ext _)=>True
  | _=>False
section
variable {P:Program} {w:World} {H:Hp} {h h':Heap} {x e:Addr} {o':HO}
theorem HOk.write (ok:HOk P w H h) (mu:Mut (H x)) (he:e=x∨H e=some (.own x)) (k:∀ b u,b≠e→h.get? b=some u→h'.get? b=some u) (heo:∃ u,h'.get? e=some u)
    (new:ya4 P w (upd H x o') h' x o'):HOk P w (upd H x o') h':=fun b u q=>by
  have nown:∀ c y,H c=some (.own y)→c≠x:=fun c y r z=>by subst z; rw [r] at mu; exact mu
  have ntup:∀ c xs,H c=some (.tup xs)→c≠x:=fun c xs r z=>by subst z; rw [r] at mu; exact mu
  by_cases hb:b=x
  · subst hb; rw [qaa] at q; cases q; exact new
  · rw [qaf hb] at q
    by_cases hbe:b=e
    · have q':H b=some (.own x):=by
        rcases he with z | z
        · exact absurd (hbe.trans z) hb
        · rw [hbe]; exact z
      rw [q] at q'; cases q'
      obtain ⟨v,hv⟩:=heo
      exact ⟨v,by rw [hbe]; exact hv⟩
    · refine (ok b u q).stay (fun c v hc r=>k c v ?_ r) (fun c r=>by rw [qaf (nown c b r)]; exact r) fun c xs r=>by rw [qaf (ntup c xs r)]; exact r
      rcases hc with rfl | hc
      · exact hbe
      · rintro rfl
        rcases he with z | z
        · exact nown c b hc z
        · rw [hc] at z; cases z; exact hb rfl
end
structure Un (fs ex:List Addr) (H H':Hp) (h h':Heap):Prop where
  keep:∀ b o,h.get? b=some o→H b=none→b∉fs→b∉ex→h'.get? b=some o
  slot:∀ b o,h.get? b=some o→H b=none→b∈fs→b∉ex→∃ sl,h'.get? b=some { o with slots:=sl }
  free:∀ b o,h.get? b=some o→H b=none→b∉ex→H' b=none
  there:∀ b o,h.get? b=some o→b∉ex→∃ o',h'.get? b=some o'
  tups:∀ b xs,H b=some (.tup xs)→H' b=some (.tup xs)
  frzs:∀ b o u,H b=some (.frz o u)→H' b=some (.frz o u)
  tbls:∀ b ps,H b=some (.tbl ps)→∃ more,H' b=some (.tbl (ps++more))
section
variable {fs fs' ex ex':List Addr} {H H1 H2:Hp} {h h1 h2 h':Heap} {a x e:Addr} {o:HO}
theorem Un.any (u:Un fs ex H H1 h h1) {b:Addr} {ob:Obj} (q:h.get? b=some ob) (n:H b=none) (hx:b∉ex):∃ sl,h1.get? b=some { ob with slots:=sl }:=by
  by_cases hb:b∈fs
  · exact u.slot b ob q n hb hx
  · exact ⟨ob.slots,u.keep b ob q n hb hx⟩
theorem Un.kept (k:∀ b u,h.get? b=some u→h'.get? b=some u):Un fs ex H H h h':=
  ⟨fun b ob q _ _ _=>k b ob q,fun b ob q _ _ _=>⟨ob.slots,k b ob q⟩,fun _ _ _ n _=>n,fun b ob q _=>⟨ob,k b ob q⟩,fun _ _ q=>q,fun _ _ _ q=>q,fun _ ps q=>⟨#[],by rw [q]; simp⟩⟩
theorem Un.refl:Un fs ex H H h h:=Un.kept fun _ _ q=>q
theorem Un.laid (k:∀ b u,h.get? b=some u→h'.get? b=some u) (hp:h.objs.size≤a) (hn:H a=none):Un fs ex H (upd H a o) h h' where
  keep:=fun b u q _ _ _=>k b u q
  slot:=fun b u q _ _ _=>⟨u.slots,k b u q⟩
  free:=fun b u q n _=>by rw [qaf (Nat.ne_of_lt (Nat.lt_of_lt_of_le (Heap.lt_size q) hp))]; exact n
  there:=fun b u q _=>⟨u,k b u q⟩
  tups:=fun b xs q=>by rw [qaf (qag q hn)]; exact q
  frzs:=fun b u xs q=>by rw [qaf (qag q hn)]; exact q
  tbls:=fun b ps q=>⟨#[],by rw [qaf (qag q hn),q]; simp⟩
theorem Un.write (mu:Mut (H x)) (he:e=x∨H e=some (.own x)) (k:∀ b u,b≠e→h.get? b=some u→h'.get? b=some u) (heo:∃ u,h'.get? e=some u):Un fs ex H (upd H x o) h h':=by
  have hx:∀ b,H b=none→b≠x:=fun b n z=>by subst z; rw [n] at mu; exact mu
  have hb:∀ b,H b=none→b≠e:=fun b n z=>by
    subst z
    rcases he with r | r
    · exact hx b n r
    · rw [n] at r; cases r
  have hm:∀ b u,H b=some u→¬ Mut (some u)→b≠x:=fun b u q nm z=>by subst z; rw [q] at mu; exact nm mu
  refine ⟨fun b u q n _ _=>k b u (hb b n) q,fun b u q n _ _=>⟨u.slots,k b u (hb b n) q⟩,fun b u q n _=>by rw [qaf (hx b n)]; exact n,fun b u q _=>?_,
    fun b xs q=>by rw [qaf (hm b _ q fun z=>z)]; exact q,fun b u xs q=>by rw [qaf (hm b _ q fun z=>z)]; exact q,fun b ps q=>⟨#[],by rw [qaf (hm b _ q fun z=>z),q]; simp⟩⟩
  by_cases hbe:b=e
  · subst hbe; exact heo
  · exact ⟨u,k b u hbe q⟩
end
def trk (h:Heap) (H:Hp):List Addr:=(List.range h.objs.size).filter fun a=>(H a).isSome
def hidT (h:Heap) (H:Hp):Heap:=PySem.W.hideAll h (trk h H)
theorem qhy (h:Heap) (H:Hp):(hidT h H).objs.size=h.objs.size:=PySem.W.hideAll_size _ _
theorem hidT_get {h:Heap} {H:Hp} {b:Addr} {o:Obj} (e:h.get? b=some o) (n:H b=none):(hidT h H).get? b=some o:=
  PySem.W.hideAll_get _ e fun hm=>by
    have q:(H b).isSome=true:=(List.mem_filter.mp hm).2
    rw [n] at q; simp at q
theorem of_hidT {h:Heap} {H:Hp} {b:Addr} {o:Obj} (e:(hidT h H).get? b=some o):h.get? b=some o∧H b=none:=by
  have e':h.get? b=some o:=PySem.W.of_hideAll (trk h H) e
  refine ⟨e',?_⟩
  cases q:H b with
  | none=>rfl
  | some x=>
    have hm:b∈trk h H:=List.mem_filter.mpr ⟨List.mem_range.mpr (Heap.lt_size e'),by simp [q]⟩
    have z:(hidT h H).get? b=none:=PySem.W.hideAll_none (trk h H) hm
    rw [z] at e; cases e
end L2
namespace L2
open PySem PySem.Spec PyProof.Rows
structure Mod (K:PySem.W.Frag) (mg:Str→Option Value) (base:Heap):Prop where
  kin:K.In base
  glob:base.Ns mainGlobals mg
  blt:∃ mb,base.Ns builtinsNs mb∧∀ x:Str,x≠"__name__"→mb x=bootBuiltins x
  nolimit:base.NoLimit
structure Cx where
  prog:Program
  w:World
  K:PySem.W.Frag
  mg:Str→Option Value
  base:Heap
  A:Around
  N:List Str
  s₀:Shared
  H₀:Hp
  env:Env
  outer:List Env
  stack:List Env
  ex:List Addr
  fn:Str→Bool
  calm:Bool
  pn:List (Addr×Obj)
  xe:Value→Shared→Prop
def frs (l:List Env):List Addr:=l.filterMap (·.frame)
abbrev Cx.fs (X:Cx):List Addr:=frs X.outer
def Vis (sc:Scope) (x:Str):Prop:=sc.names.lookup x=some .local∨sc.names.lookup x=some .cell∨sc.names.lookup x=some .free
def Loc (sc:Scope) (x:Str):Prop:=sc.names.lookup x=some .local∨sc.names.lookup x=some .cell
def Look (env:Env) (h:Heap) (m:Str→Option Value) (x:Str) (u:Value):Prop:=
  (env.kindOf x=some .local∧m x=some u)∨((env.kindOf x=some .cell∨env.kindOf x=some .free)∧∃ c,env.cells.lookup x=some c∧h.IsCell c (some u))
structure Cx.Ok (X:Cx):Prop where
  mod:Mod X.K X.mg X.base
  kind:X.env.scope.kind=.function
  glob:X.env.globals=mainGlobals
  blt:X.env.builtins=builtinsNs
  above:X.s₀.heap.objs.size≤X.env.locals
  inj:∀ x y c,X.env.cells.lookup x=some c→X.env.cells.lookup y=some c→x=y
  has:∀ x,(X.env.kindOf x=some .cell∨X.env.kindOf x=some .free)→∃ c,X.env.cells.lookup x=some c
  cab:∀ x c,X.fn x=true→X.env.cells.lookup x=some c→X.s₀.heap.objs.size≤c
  hd:X.calm=true→X.A.handled=none
  frames:X.A.frames=some X.stack
  stk:X.stack=X.outer∨(X.stack=X.env :: X.outer∧X.env.frame=some X.env.locals)
  exf:∀ b∈X.ex,b≠X.env.locals∧∀ x c,X.env.cells.lookup x=some c→c≠b
  bs:∀ b o,X.base.get? b=some o→X.s₀.heap.get? b=some o∧X.H₀ b=none
  bsz:X.base.objs.size≤X.s₀.heap.objs.size
  noex:∀ b o,X.base.get? b=some o→b∉X.ex
  exfs:∀ b∈X.ex,b∉X.fs
  funs:X.s₀.heap.FunFrames X.base X.outer
  frf:∀ b∈X.fs,X.H₀ b=none
structure Inv (X:Cx) (pins:List (Addr×Obj)) (σ:List (Option V)) (H:Hp) (s:Shared):Prop where
  ok:X.Ok
  os:s.os=X.s₀.os
  bare:AllBare s.gens
  base:Un X.fs X.ex X.H₀ H X.s₀.heap s.heap
  loc:∃ m,s.heap.Ns X.env.locals m∧∀ (i:Nat) (x:Str) (v:V),X.N[i]?=some x→σ[i]?=some (some v)→Vis X.env.scope x→∃ u,RelV v u∧Look X.env s.heap m x u
  cell:∀ x c,X.env.cells.lookup x=some c→∃ v,s.heap.IsCell c v
  free:H X.env.locals=none
  freeC:∀ x c,X.env.cells.lookup x=some c→H c=none
  pin:∀ p∈X.pn++pins,s.heap.get? p.1=some p.2∧H p.1=none∧p.1≠X.env.locals∧p.1∉X.fs∧∀ v,p.2.data≠.cell v
  hok:HOk X.prog X.w H s.heap
  len:σ.length=X.N.length
section
variable {X:Cx} {pins:List (Addr×Obj)} {σ:List (Option V)} {H H':Hp} {s:Shared} {h':Heap}
theorem Cx.Ok.nofr (ok:X.Ok) {b:Addr} {o:Obj} (e:X.base.get? b=some o):b∉X.fs:=fun hb=>by
  have:=(ok.funs.mem hb).1
  rw [e] at this; cases this
theorem Inv.bs (I:Inv X pins σ H s):∀ b o,X.base.get? b=some o→s.heap.get? b=some o∧H b=none:=fun b o e=>
  ⟨I.base.keep b o (I.ok.bs b o e).1 (I.ok.bs b o e).2 (I.ok.nofr e) (I.ok.noex b o e),I.base.free b o (I.ok.bs b o e).1 (I.ok.bs b o e).2 (I.ok.noex b o e)⟩
theorem Inv.bk (I:Inv X pins σ H s):∀ b o,X.base.get? b=some o→s.heap.get? b=some o:=fun b o e=>(I.bs b o e).1
theorem Inv.mod (I:Inv X pins σ H s):Mod X.K X.mg X.base:=I.ok.mod
theorem Inv.kIn (I:Inv X pins σ H s):X.K.In s.heap:=I.ok.mod.kin.keeps I.bk
theorem Inv.fr (I:Inv X pins σ H s):∃ m,Fr X.base X.env.locals s.heap m:=
  let ⟨m,hn,_⟩:=I.loc
  ⟨m,hn,I.bk,Nat.le_trans I.ok.bsz I.ok.above⟩
theorem Inv.lt (I:Inv X pins σ H s):X.env.locals < s.heap.objs.size:=let ⟨_,hn,_⟩:=I.loc; hn.lt
theorem Inv.sz (I:Inv X pins σ H s):X.s₀.heap.objs.size≤s.heap.objs.size:=Nat.le_trans I.ok.above (Nat.le_of_lt I.lt)
theorem Inv.nofs (I:Inv X pins σ H s) {a:Addr} (h:s.heap.objs.size≤a):a∉X.fs:=fun hb=>by
  obtain ⟨_,o,ho,_⟩:=I.ok.funs.mem hb
  exact absurd (Nat.lt_of_lt_of_le (Heap.lt_size ho) (Nat.le_trans I.sz h)) (Nat.lt_irrefl _)
theorem Inv.cne (I:Inv X pins σ H s):∀ x c,X.env.cells.lookup x=some c→c≠X.env.locals:=fun x c e z=>by
  obtain ⟨v,o,ho,hd⟩:=I.cell x c e
  obtain ⟨m,⟨o',es,ep,ho',hd',_⟩,_⟩:=I.loc
  rw [z,ho'] at ho; cases ho; rw [hd'] at hd; cases hd
theorem Inv.funs (I:Inv X pins σ H s):s.heap.FunFrames X.base X.outer:=by
  have all:∀ (l:List Env),(∀ b∈frs l,b∈X.fs)→X.s₀.heap.FunFrames X.base l→s.heap.FunFrames X.base l:=by
    intro l
    induction l with
    | nil=>intro _ _; trivial
    | cons env r ih=>
      intro hs hl
      obtain ⟨hk,⟨L,o,hf,hn,ho,hd⟩,hr⟩:=hl
      have hL:L∈X.fs:=hs L (by unfold frs; rw [List.filterMap_cons,hf]; exact List.mem_cons_self)
      obtain ⟨sl,e⟩:=I.base.slot L o ho (I.ok.frf L hL) hL fun z=>I.ok.exfs L z hL
      exact ⟨hk,⟨L,_,hf,hn,e,hd⟩,ih (fun b hb=>hs b (by unfold frs; rw [List.filterMap_cons,hf]; exact List.mem_cons_of_mem _ hb)) hr⟩
  exact all X.outer (fun _ hb=>hb) I.ok.funs
theorem Inv.stack (I:Inv X pins σ H s):s.heap.FunFrames X.base X.stack:=by
  rcases I.ok.stk with e | ⟨e,hf⟩
  · rw [e]; exact I.funs
  · rw [e]
    obtain ⟨m,hn,_⟩:=I.loc
    refine .cons (by rw [I.ok.kind]; decide) hf hn ?_ I.funs
    exact Heap.get?_none_of_le (Nat.le_trans I.ok.bsz I.ok.above)
theorem Inv.stkSub (I:Inv X pins σ H s):∀ b∈frs X.stack,b∈X.env.locals :: X.fs:=fun b hb=>by
  rcases I.ok.stk with e | ⟨e,hf⟩
  · rw [e] at hb; exact List.mem_cons_of_mem _ hb
  · rw [e] at hb
    unfold frs at hb
    rw [List.filterMap_cons,hf] at hb
    exact hb
theorem Inv.stkFree (I:Inv X pins σ H s):∀ b∈frs X.stack,H b=none:=fun b hb=>by
  rcases List.mem_cons.mp (I.stkSub b hb) with e | hb
  · rw [e]; exact I.free
  · obtain ⟨_,o,ho,_⟩:=I.ok.funs.mem hb
    exact I.base.free b o ho (I.ok.frf b hb) fun z=>I.ok.exfs b z hb
theorem Inv.step {g':Array GenState} {t':Nat} {d':Drawn} {ch:List Addr} (I:Inv X pins σ H s)
    (hch:∀ b∈ch,(b∈X.ex∨X.s₀.heap.objs.size≤b)∧b≠X.env.locals∧(∀ x c,X.env.cells.lookup x=some c→c≠b)∧∀ p∈X.pn++pins,p.1≠b)
    (keep:∀ b o,b≠X.env.locals→b∉X.fs→b∉ch→s.heap.get? b=some o→H b=none→h'.get? b=some o)
    (slot:∀ b o,b≠X.env.locals→b∈X.fs→b∉ch→s.heap.get? b=some o→H b=none→∃ sl,h'.get? b=some { o with slots:=sl }) (free:∀ b o,b∉ch→s.heap.get? b=some o→H b=none→H' b=none)
    (there:∀ b o,b∉ch→s.heap.get? b=some o→∃ o',h'.get? b=some o')
    (tups:∀ b xs,H b=some (.tup xs)→H' b=some (.tup xs)) (frzs:∀ b o u,H b=some (.frz o u)→H' b=some (.frz o u)) (tbls:∀ b ps,H b=some (.tbl ps)→∃ more,H' b=some (.tbl (ps++more)))
    (ns:∀ m,s.heap.Ns X.env.locals m→h'.Ns X.env.locals m) (hok:HOk X.prog X.w H' h') (hg:AllBare g') :
    Inv X pins σ H' { s with heap:=h',gens:=g',drawn:=d',toks:=t' }:=by
  have neL:∀ b o,X.s₀.heap.get? b=some o→b≠X.env.locals:=fun b o e=>Nat.ne_of_lt (Nat.lt_of_lt_of_le (Heap.lt_size e) I.ok.above)
  have neC:∀ b o,X.s₀.heap.get? b=some o→b∉X.ex→b∉ch:=fun b o e hx hb=>by
    rcases (hch b hb).1 with z | z
    · exact hx z
    · exact absurd (Nat.lt_of_lt_of_le (Heap.lt_size e) z) (Nat.lt_irrefl _)
  have cellK:∀ x c,X.env.cells.lookup x=some c→∀ v,s.heap.IsCell c v→h'.IsCell c v:=fun x c e v ⟨o,ho,hd⟩=>by
    have nch:c∉ch:=fun z=>(hch c z).2.2.1 x c e rfl
    by_cases hc:c∈X.fs
    · obtain ⟨sl,q⟩:=slot c o (I.cne x c e) hc nch ho (I.freeC x c e)
      exact ⟨_,q,hd⟩
    · exact ⟨o,keep c o (I.cne x c e) hc nch ho (I.freeC x c e),hd⟩
  refine ⟨I.ok,I.os,hg,⟨fun b o e n hb hx=>?_,fun b o e n hb hx=>?_,fun b o e n hx=>?_,fun b o e hx=>?_,fun b xs e=>tups b xs (I.base.tups b xs e),fun b o xs e=>frzs b o xs (I.base.frzs b o xs e),fun b ps e=>?_⟩,?_,fun x c e=>?_,?_,fun x c e=>?_,fun p hp=>?_,hok,I.len⟩
  · exact keep b o (neL b o e) hb (neC b o e hx) (I.base.keep b o e n hb hx) (I.base.free b o e n hx)
  · obtain ⟨sl,e1⟩:=I.base.slot b o e n hb hx
    obtain ⟨sl',e2⟩:=slot b _ (neL b o e) hb (neC b o e hx) e1 (I.base.free b o e n hx)
    exact ⟨sl',e2⟩
  · obtain ⟨o',e1⟩:=I.base.there b o e hx
    exact free b o' (neC b o e hx) e1 (I.base.free b o e n hx)
  · obtain ⟨o',e1⟩:=I.base.there b o e hx
    exact there b o' (neC b o e hx) e1
  · obtain ⟨m1,e1⟩:=I.base.tbls b ps e
    obtain ⟨m2,e2⟩:=tbls b _ e1
    exact ⟨m1++m2,by rw [e2,Array.append_assoc]⟩
  · obtain ⟨m,hn,hl⟩:=I.loc
    refine ⟨m,ns m hn,fun i x v e1 e2 e3=>?_⟩
    obtain ⟨u,r,l⟩:=hl i x v e1 e2 e3
    refine ⟨u,r,?_⟩
    rcases l with l | ⟨k,c,e,z⟩
    · exact .inl l
    · exact .inr ⟨k,c,e,cellK x c e _ z⟩
  · obtain ⟨v,z⟩:=I.cell x c e
    exact ⟨v,cellK x c e v z⟩
  · obtain ⟨m,⟨o,_,_,ho,_⟩,_⟩:=I.loc
    exact free _ o (fun z=>(hch _ z).2.1 rfl) ho I.free
  · obtain ⟨v,o,ho,hd⟩:=I.cell x c e
    exact free c o (fun z=>(hch c z).2.2.1 x c e rfl) ho (I.freeC x c e)
  · obtain ⟨e,n,ne,nf,d⟩:=I.pin p hp
    have nch:p.1∉ch:=fun z=>(hch p.1 z).2.2.2 p hp rfl
    exact ⟨keep p.1 p.2 ne nf nch e n,free p.1 p.2 nch e n,ne,nf,d⟩
theorem Inv.un {t':Nat} (I:Inv X pins σ H s) (u:Un X.fs [] H H' s.heap h') (hok:HOk X.prog X.w H' h'):Inv X pins σ H' { s with heap:=h',toks:=t' }:=by
  obtain ⟨m,⟨o,es,ep,ho,r⟩,_⟩:=id I.loc
  obtain ⟨sl,hL⟩:=u.any ho I.free (by simp)
  exact I.step (g':=s.gens) (d':=s.drawn) (ch:=[]) (fun _ z=>nomatch z) (fun b o _ hb _ e n=>u.keep b o e n hb (by simp)) (fun b o _ hb _ e n=>u.slot b o e n hb (by simp)) (fun b o _ e n=>u.free b o e n (by simp)) (fun b o _ e=>u.there b o e (by simp)) u.tups u.frzs u.tbls (fun m' hm=>by
    obtain ⟨o',es',ep',ho',r'⟩:=hm
    rw [ho] at ho'; cases ho'
    exact ⟨_,es',ep',hL,r'⟩) hok I.bare
theorem Inv.call {g':Array GenState} {t':Nat} {d':Drawn} {ch:List Addr} (I:Inv X pins σ H s) (u:Un (frs X.stack) ch H H' s.heap h') (hok:HOk X.prog X.w H' h') (hg:AllBare g')
    (hch:∀ b∈ch,(b∈X.ex∨X.s₀.heap.objs.size≤b)∧b≠X.env.locals∧(∀ x c,X.env.cells.lookup x=some c→c≠b)∧∀ p∈X.pn++pins,p.1≠b) :
    Inv X pins σ H' { s with heap:=h',gens:=g',drawn:=d',toks:=t' }:=by
  obtain ⟨m,⟨o,es,ep,ho,r⟩,_⟩:=id I.loc
  obtain ⟨sl,hL⟩:=u.any ho I.free fun z=>(hch _ z).2.1 rfl
  exact I.step (ch:=ch) hch (fun b o hL hb hc e n=>u.keep b o e n (fun z=>(List.mem_cons.mp (I.stkSub b z)).elim hL hb) hc) (fun b o _ _ hc e n=>u.any e n hc) (fun b o hc e n=>u.free b o e n hc) (fun b o hc e=>u.there b o e hc) u.tups u.frzs u.tbls (fun m' hm=>by
    obtain ⟨o',es',ep',ho',r'⟩:=hm
    rw [ho] at ho'; cases ho'
    exact ⟨_,es',ep',hL,r'⟩) hok hg
theorem Inv.turned {t':Nat} {it:Addr} (I:Inv X pins σ H s) (k:∀ b o,b≠it→s.heap.get? b=some o→h'.get? b=some o) (hn:H it=none) (hL:it≠X.env.locals)
    (h1:it∈X.ex∨X.s₀.heap.objs.size≤it) (h2:∀ x c,X.env.cells.lookup x=some c→c≠it) (h3:∀ p∈X.pn++pins,p.1≠it):Inv X pins σ H { s with heap:=h',toks:=t' }:=by
  have nit:∀ b u,H b=some u→b≠it:=fun b u e z=>by rw [z,hn] at e; cases e
  refine I.step (g':=s.gens) (d':=s.drawn) (ch:=[it]) (fun b hb=>?_) (fun b o _ _ hc e _=>k b o (fun z=>hc (by simp [z])) e) (fun b o _ _ hc e _=>⟨o.slots,k b o (fun z=>hc (by simp [z])) e⟩) (fun _ _ _ _ n=>n)
    (fun b o hc e=>⟨o,k b o (fun z=>hc (by simp [z])) e⟩) (fun _ _ e=>e) (fun _ _ _ e=>e) (fun b ps e=>⟨#[],by rw [e]; simp⟩) (fun m hm=>?_) (fun b u e=>?_) I.bare
  · have e:b=it:=by simpa using hb
    subst e
    exact ⟨h1,hL,h2,h3⟩
  · obtain ⟨o,es,ep,ho,r⟩:=hm
    exact ⟨o,es,ep,k _ o (Ne.symm hL) ho,r⟩
  · refine (I.hok b u e).stay (fun c v hc q=>k c v ?_ q) (fun _ q=>q) fun _ _ q=>q
    rcases hc with z | z
    · rw [z]; exact nit b u e
    · exact nit c _ z
theorem Inv.tok (I:Inv X pins σ H s) (t:Nat):Inv X pins σ H { s with toks:=t }:=I.un (h':=s.heap) (t':=t) Un.refl I.hok
theorem Inv.kept {t':Nat} (I:Inv X pins σ H s) (k:∀ b u,s.heap.get? b=some u→h'.get? b=some u):Inv X pins σ H { s with heap:=h',toks:=t' }:=I.un (Un.kept k) (I.hok.kept k)
theorem Inv.laid {a:Addr} {o:HO} {t':Nat} (I:Inv X pins σ H s) (k:∀ b u,s.heap.get? b=some u→h'.get? b=some u) (hp:s.heap.objs.size≤a) (new:ya4 X.prog X.w (upd H a o) h' a o) :
    Inv X pins σ (upd H a o) { s with heap:=h',toks:=t' }:=I.un (Un.laid k hp (I.hok.fresh hp)) (I.hok.laid k hp new)
theorem Inv.write {x e:Addr} {o:HO} {t':Nat} (I:Inv X pins σ H s) (mu:Mut (H x)) (he:e=x∨H e=some (.own x)) (k:∀ b u,b≠e→s.heap.get? b=some u→h'.get? b=some u) (heo:∃ u,h'.get? e=some u)
    (new:ya4 X.prog X.w (upd H x o) h' x o):Inv X pins σ (upd H x o) { s with heap:=h',toks:=t' }:=I.un (Un.write mu he k heo) (I.hok.write mu he k heo new)
theorem Inv.weak {σ':List (Option V)} (I:Inv X pins σ H s) (hl:σ'.length=σ.length) (w:∀ (i:Nat) v,σ'[i]?=some (some v)→σ[i]?=some (some v)):Inv X pins σ' H s:=
  ⟨I.ok,I.os,I.bare,I.base,let ⟨m,hn,hl'⟩:=I.loc; ⟨m,hn,fun i x v e1 e2 e3=>hl' i x v e1 (w i v e2) e3⟩,I.cell,I.free,I.freeC,I.pin,I.hok,hl.trans I.len⟩
theorem Inv.pins_of {pins':List (Addr×Obj)} (I:Inv X pins σ H s) (h:∀ p∈pins',s.heap.get? p.1=some p.2∧H p.1=none∧p.1≠X.env.locals∧p.1∉X.fs∧∀ v,p.2.data≠.cell v):Inv X pins' σ H s:=
  ⟨I.ok,I.os,I.bare,I.base,I.loc,I.cell,I.free,I.freeC,fun p hp=>(List.mem_append.mp hp).elim (fun z=>I.pin p (List.mem_append_left _ z)) (h p),I.hok,I.len⟩
theorem qfk {N:List Str} (hN:N.Nodup) {i j:Nat} {x:Str} (a:N[i]?=some x) (b:N[j]?=some x):i=j:=by
  obtain ⟨h1,e1⟩:=List.getElem?_eq_some_iff.mp a
  obtain ⟨h2,e2⟩:=List.getElem?_eq_some_iff.mp b
  exact (List.getElem_inj hN).mp (e1.trans e2.symm)
theorem yf4 {M:Model} {A:Around} {E:Value→Shared→Prop} {i:Nat} {x:Str} {v:V} {u:Value} {Q:Unit→Shared→Prop} (I:Inv X pins σ H s) (hN:X.N.Nodup) (hi:X.N[i]?=some x) (hx:Loc X.env.scope x) (r:RelV v u)
    (h:∀ s',Inv X pins (σ.set i (some v)) H s'→(∃ a,Heap.SameBut a s.heap s'.heap∧(a=X.env.locals∨X.env.cells.lookup x=some a))→Q () s') (hf:X.fn x=true∨X.env.scope.names.lookup x=some .local:=by first | exact .inl rfl | exact .inr rfl | assumption):wpAny M A (storeName X.env x u) Q E s:=by
  obtain ⟨m,hn,hl⟩:=id I.loc
  have hcls:(X.env.scope.kind == .class || (X.env.scope.kind == .module && X.env.locals != X.env.globals))=false:=by rw [I.ok.kind]; rfl
  have hiσ:i < σ.length:=by rw [I.len]; exact (List.getElem?_eq_some_iff.mp hi).1
  have cne:=I.cne
  have tracked:∀ {a:Addr} {h':Heap},(∃ o,s.heap.get? a=some o∧H a=none)→Heap.SameBut a s.heap h'→HOk X.prog X.w H h':=fun {a h'} ha hs b ob e=>by
    obtain ⟨_,_,hfree⟩:=ha
    refine (I.hok b ob e).stay (fun c w' hc q=>(hs.2 c ?_).trans q) (fun _ q=>q) fun _ _ q=>q
    rintro rfl
    rcases hc with rfl | hc
    · rw [hfree] at e; cases e
    · rw [hfree] at hc; cases hc
  rcases hx with hk | hk
  · refine wpAny_storeName_local hk hn (fun h' hn' hs=>?_) hcls
    obtain ⟨oL,_,_,hoL,_⟩:=id hn
    refine h _ ⟨I.ok,I.os,I.bare,⟨fun b o e n hb hx=>?_,fun b o e n hb hx=>?_,I.base.free,fun b o e hx=>?_,I.base.tups,I.base.frzs,I.base.tbls⟩,⟨_,hn',fun j y v' e1 e2 e3=>?_⟩,fun y c e=>?_,I.free,I.freeC,fun p hp=>?_,tracked ⟨oL,hoL,I.free⟩ hs,by simpa using I.len⟩ ⟨_,hs,.inl rfl⟩
    · exact (hs.2 b (Nat.ne_of_lt (Nat.lt_of_lt_of_le (Heap.lt_size e) I.ok.above))).trans (I.base.keep b o e n hb hx)
    · obtain ⟨sl,e1⟩:=I.base.slot b o e n hb hx
      exact ⟨sl,(hs.2 b (Nat.ne_of_lt (Nat.lt_of_lt_of_le (Heap.lt_size e) I.ok.above))).trans e1⟩
    · obtain ⟨o',e1⟩:=I.base.there b o e hx
      exact ⟨o',(hs.2 b (Nat.ne_of_lt (Nat.lt_of_lt_of_le (Heap.lt_size e) I.ok.above))).trans e1⟩
    · by_cases hj:j=i
      · subst hj
        rw [hi] at e1; cases e1
        rw [List.getElem?_set_self hiσ] at e2
        cases e2
        exact ⟨u,r,.inl ⟨hk,by simp⟩⟩
      · rw [List.getElem?_set_ne (Ne.symm hj)] at e2
        obtain ⟨u',r',q⟩:=hl j y v' e1 e2 e3
        refine ⟨u',r',?_⟩
        rcases q with ⟨k,e⟩ | ⟨k,c,e,z⟩
        · refine .inl ⟨k,?_⟩
          have:y≠x:=fun e=>hj (qfk hN e1 (e ▸ hi))
          simp [this,e]
        · exact .inr ⟨k,c,e,z.sameBut hs (cne y c e)⟩
    · obtain ⟨w',z⟩:=I.cell y c e
      exact ⟨w',z.sameBut hs (cne y c e)⟩
    · obtain ⟨e,n,ne,nf,d⟩:=I.pin p hp
      exact ⟨(hs.2 p.1 ne).trans e,n,ne,nf,d⟩
  · have hfn:X.fn x=true:=by
      rcases hf with z | z
      · exact z
      · rw [z] at hk; cases hk
    obtain ⟨c,hc⟩:=I.ok.has x (.inl hk)
    obtain ⟨w',z⟩:=I.cell x c hc
    refine wpAny_storeName_cell I.ok.kind hk hc z (fun h' hc' hs=>?_)
    obtain ⟨oc,hoc,hocd⟩:=id z
    refine h { s with heap:=h' } ⟨I.ok,I.os,I.bare,⟨fun b o e n hb hx=>?_,fun b o e n hb hx=>?_,I.base.free,fun b o e hx=>?_,I.base.tups,I.base.frzs,I.base.tbls⟩,⟨m,hn.sameBut hs (Ne.symm (cne x c hc)),fun j y v' e1 e2 e3=>?_⟩,fun y c' e=>?_,I.free,I.freeC,fun p hp=>?_,tracked ⟨oc,hoc,I.freeC x c hc⟩ hs,by simpa using I.len⟩ ⟨c,hs,.inr hc⟩
    · exact (hs.2 b (Nat.ne_of_lt (Nat.lt_of_lt_of_le (Heap.lt_size e) (I.ok.cab x c hfn hc)))).trans (I.base.keep b o e n hb hx)
    · obtain ⟨sl,e1⟩:=I.base.slot b o e n hb hx
      exact ⟨sl,(hs.2 b (Nat.ne_of_lt (Nat.lt_of_lt_of_le (Heap.lt_size e) (I.ok.cab x c hfn hc)))).trans e1⟩
    · obtain ⟨o',e1⟩:=I.base.there b o e hx
      exact ⟨o',(hs.2 b (Nat.ne_of_lt (Nat.lt_of_lt_of_le (Heap.lt_size e) (I.ok.cab x c hfn hc)))).trans e1⟩
    · by_cases hj:j=i
      · subst hj
        rw [hi] at e1; cases e1
        rw [List.getElem?_set_self hiσ] at e2
        cases e2
        exact ⟨u,r,.inr ⟨.inl hk,c,hc,hc'⟩⟩
      · rw [List.getElem?_set_ne (Ne.symm hj)] at e2
        obtain ⟨u',r',q⟩:=hl j y v' e1 e2 e3
        refine ⟨u',r',?_⟩
        rcases q with q | ⟨k,c',e,z'⟩
        · exact .inl q
        · refine .inr ⟨k,c',e,z'.sameBut hs ?_⟩
          rintro rfl
          exact hj (qfk hN e1 (I.ok.inj _ _ _ e hc ▸ hi))
    · by_cases hcc:c'=c
      · subst hcc; exact ⟨_,hc'⟩
      · obtain ⟨w2,z2⟩:=I.cell y c' e
        exact ⟨w2,z2.sameBut hs hcc⟩
    · obtain ⟨e,n,ne,nf,d⟩:=I.pin p hp
      refine ⟨(hs.2 p.1 ?_).trans e,n,ne,nf,d⟩
      intro q
      rw [q,hoc] at e
      have q':oc=p.2:=Option.some.inj e
      exact d w' (by rw [← q']; exact hocd)
theorem ye8 {M:Model} {A:Around} {E:Value→Shared→Prop} {i:Nat} {x:Str} {v:V} {u:Value} {Q:Unit→Shared→Prop} (I:Inv X pins σ H s) (hN:X.N.Nodup) (hi:X.N[i]?=some x) (hx:Loc X.env.scope x) (r:RelV v u)
    (h:∀ s',Inv X pins (σ.set i (some v)) H s'→Q () s') (hf:X.fn x=true∨X.env.scope.names.lookup x=some .local:=by first | exact .inl rfl | exact .inr rfl | assumption):wpAny M A (storeName X.env x u) Q E s:=
  yf4 I hN hi hx r (fun s' I' _=>h s' I') hf
theorem Inv.call' {s':Shared} {ch:List Addr} (I:Inv X pins σ H s) (ho:s'.os=s.os) (u:Un (frs X.stack) ch H H' s.heap s'.heap) (hok:HOk X.prog X.w H' s'.heap) (hg:AllBare s'.gens)
    (hch:∀ b∈ch,(b∈X.ex∨X.s₀.heap.objs.size≤b)∧b≠X.env.locals∧(∀ x c,X.env.cells.lookup x=some c→c≠b)∧∀ p∈X.pn++pins,p.1≠b):Inv X pins σ H' s':=by
  obtain ⟨h',g',d',t',o'⟩:=s'
  have e:o'=s.os:=ho
  subst e
  exact I.call (g':=g') (t':=t') (d':=d') u hok hg hch
end
abbrev XK:=Value→Option Addr→Hp→Prop
abbrev St:=List (Option V)
abbrev VK:=V→Hp→Prop
abbrev TE:=St→Hp→VK→Prop
abbrev TT:=St→Hp→(Bool→Hp→Prop)→Prop
abbrev TA:=St→Hp→(List V→Hp→Prop)→Prop
structure Ends where
  nx:St→Hp→Prop
  rt:VK
  bk:St→Hp→Prop:=fun _ _=>False
  ct:St→Hp→Prop:=fun _ _=>False
abbrev TS:=Ends→St→Hp→Prop
def EP (X:Cx) (pins:List (Addr×Obj)) (σ:St) (Q:VK) (u:Value) (s':Shared):Prop:=∃ v H',Inv X pins σ H' s'∧RelV v u∧Q v H'
def TP (X:Cx) (pins:List (Addr×Obj)) (σ:St) (Q:Bool→Hp→Prop) (b:Bool) (s':Shared):Prop:=∃ H',Inv X pins σ H' s'∧Q b H'
def AP (X:Cx) (pins:List (Addr×Obj)) (σ:St) (Q:List V→Hp→Prop) (us:List Value) (s':Shared):Prop:=∃ vs H',Inv X pins σ H' s'∧Vals vs us∧Q vs H'
def SP (X:Cx) (pins:List (Addr×Obj)) (D:Ends) (f:Flow) (s':Shared):Prop:=
  match f with
  | .next=>∃ σ' H',Inv X pins σ' H' s'∧D.nx σ' H'
  | .brk=>∃ σ' H',Inv X pins σ' H' s'∧D.bk σ' H'
  | .cont=>∃ σ' H',Inv X pins σ' H' s'∧D.ct σ' H'
  | .ret u=>∃ v σ' H',Inv X pins σ' H' s'∧RelV v u∧D.rt v H'
def PE (X:Cx) (e:Expr) (t:TE):Prop:=
  ∀ (pins:List (Addr×Obj)) (s:Shared) (σ:St) (H:Hp) (Q:VK),Inv X pins σ H s→t σ H Q→wpAny (model X.prog X.w) X.A (eval e X.env) (EP X pins σ Q) X.xe s
def PT (X:Cx) (e:Expr) (t:TT):Prop:=
  ∀ (pins:List (Addr×Obj)) (s:Shared) (σ:St) (H:Hp) (Q:Bool→Hp→Prop),Inv X pins σ H s→t σ H Q→wpAny (model X.prog X.w) X.A (isTrue e X.env (eval e X.env)) (TP X pins σ Q) X.xe s
def PW (X:Cx) (e:Expr) (t:TT):Prop:=
  ∀ (whole:Sem Value) (pins:List (Addr×Obj)) (s:Shared) (σ:St) (H:Hp) (Q:Bool→Hp→Prop),Inv X pins σ H s→t σ H Q→wpAny (model X.prog X.w) X.A (isTrue e X.env whole) (TP X pins σ Q) X.xe s
theorem PW.pt {X:Cx} {e:Expr} {t:TT} (h:PW X e t):PT X e t:=h _
def PA (X:Cx) (es:List Expr) (t:TA):Prop:=
  ∀ (pos:Pos) (pins:List (Addr×Obj)) (s:Shared) (σ:St) (H:Hp) (Q:List V→Hp→Prop),Inv X pins σ H s→t σ H Q→wpAny (model X.prog X.w) X.A (spliced (backTo pos (starEach es X.env))) (AP X pins σ Q) X.xe s
def PS (X:Cx) (st:Stmt) (t:TS):Prop:=
  ∀ (pins:List (Addr×Obj)) (s:Shared) (σ:St) (H:Hp) (D:Ends),Inv X pins σ H s→t D σ H→wpAny (model X.prog X.w) X.A (exec st X.env) (SP X pins D) X.xe s
def PSs (X:Cx) (st:List Stmt) (t:TS):Prop:=
  ∀ (pins:List (Addr×Obj)) (s:Shared) (σ:St) (H:Hp) (D:Ends),Inv X pins σ H s→t D σ H→wpAny (model X.prog X.w) X.A (execs st X.env) (SP X pins D) X.xe s
theorem thn {α:Type} {t:Sem α} {Q Q':α→Shared→Prop} {M:Model} {A:Around} {E:Value→Shared→Prop} {s:Shared} (h:wpAny M A t Q E s) (hQ:∀ a s,Q a s→Q' a s):wpAny M A t Q' E s:=wpAny_mono h hQ fun _ _ x=>x
end L2
namespace L2
open PySem PySem.Spec PyProof.Rows
section
variable {X:Cx}
theorem bin {a b:Expr} {ta tb:TE} (ha:PE X a ta) (hb:PE X b tb) {pins:List (Addr×Obj)} {s:Shared} {σ:St} {H:Hp} {R:V→V→Hp→Prop} (I:Inv X pins σ H s) (h:ta σ H fun x H1=>tb σ H1 fun y H2=>R x y H2)
    {α:Type} {Q:α→Shared→Prop} {f:Value→Value→Sem α}
    (hf:∀ v u s2 x y H2,Inv X pins σ H2 s2→RelV x v→RelV y u→R x y H2→wpAny (model X.prog X.w) X.A (f v u) Q X.xe s2) :
    wpAny (model X.prog X.w) X.A (eval a X.env) (fun v s₁=>wpAny (model X.prog X.w) X.A (eval b X.env) (fun u s₂=>wpAny (model X.prog X.w) X.A (f v u) Q X.xe s₂) X.xe s₁) X.xe s:=by
  refine thn (ha pins s σ H _ I h) fun v s1 ⟨x,H1,I1,r1,q1⟩=>?_
  refine thn (hb pins s1 σ H1 _ I1 q1) fun u s2 ⟨y,H2,I2,r2,q2⟩=>?_
  exact hf v u s2 x y H2 I2 r1 r2 q2
def tVar (i:Nat):TE:=fun σ H Q=>∃ v,σ[i]?=some (some v)∧Q v H
def tC (v:V):TE:=fun _ H Q=>Q v H
theorem pe_var {i:Nat} {x:Str} {pos:Pos} (hN:X.N[i]?=some x) (hv:Vis X.env.scope x) (hd:(x == ("__debug__" : Str))=false:=by decide) (hcd:(x == ("__classdict__" : Str))=false:=by decide):PE X (.Name x pos) (tVar i):=by
  intro pins s σ H Q I h
  obtain ⟨v,e,h⟩:=h
  obtain ⟨m,hn,hl⟩:=I.loc
  obtain ⟨u,r,l⟩:=hl i x v hN e hv
  have fin:EP X pins σ Q u s:=⟨v,H,I,r,h⟩
  rcases l with ⟨hk,hm⟩ | ⟨hk,c,hc,hcell⟩
  · exact wpAny_Name (wpAny_loadName_local I.ok.kind hk hn hm fin) hd
  · rcases hk with hk | hk
    · exact wpAny_Name (wpAny_loadName_cell I.ok.kind hk hc hcell fin) hd
    · exact wpAny_Name (wpAny_loadName_free I.ok.kind hk hc hcell fin hcd) hd
theorem yab {i j pos}:PE X (.Constant (.int i) j pos) (tC (.int i)):=fun _ _ _ H _ I h=>wpAny_Constant_int ⟨.int i,H,I.tok _,⟨_,rfl⟩,h⟩
theorem qex {b j pos}:PE X (.Constant (.bool b) j pos) (tC (.bl b)):=fun _ _ _ H _ I h=>Constant_bool ⟨.bl b,H,I,rfl,h⟩
theorem ycb {j pos}:PE X (.Constant .none j pos) (tC .non):=fun _ _ _ H _ I h=>Constant_none ⟨.non,H,I,rfl,h⟩
theorem qah {x j pos}:PE X (.Constant (.str x) j pos) (tC (.str x)):=fun _ _ _ H _ I h=>Calls.Constant_str ⟨.str x,H,I.tok _,⟨_,rfl⟩,h⟩
def Gl (X:Cx) (x:Str):Prop:=X.env.kindOf x=some .globalImplicit
theorem qem {E:Value→Shared→Prop} {pins:List (Addr×Obj)} {s:Shared} {σ:St} {H:Hp} {x:Str} {u:Value} {pos:Pos} {Q:Value→Shared→Prop} (I:Inv X pins σ H s) (hg:Gl X x) (hm:X.mg x=some u) (h:Q u s)
    (hd:(x == ("__debug__" : Str))=false:=by decide):wpAny (model X.prog X.w) X.A (eval (.Name x pos) X.env) Q E s:=
  Calls.Name_function_global I.ok.kind hg (Calls.loadGlobal_global (by rw [I.ok.glob]; exact I.mod.glob.keeps I.bk) hm h) hd
theorem ycu {E:Value→Shared→Prop} {pins:List (Addr×Obj)} {s:Shared} {σ:St} {H:Hp} {x:Str} {u:Value} {pos:Pos} {Q:Value→Shared→Prop} (I:Inv X pins σ H s) (hg:Gl X x) (hm:X.mg x=none) (hv:bootBuiltins x=some u) (h:Q u s)
    (hn:x≠"__name__":=by decide) (hd:(x == ("__debug__" : Str))=false:=by decide):wpAny (model X.prog X.w) X.A (eval (.Name x pos) X.env) Q E s:=by
  obtain ⟨mb,h1,h2⟩:=I.mod.blt
  exact Calls.Name_function_global I.ok.kind hg (Calls.loadGlobal_builtin (by rw [I.ok.glob]; exact I.mod.glob.keeps I.bk) hm (by rw [I.ok.blt]; exact h1.keeps I.bk) ((h2 x hn).trans hv) h) hd
theorem yau {x:Str} {v:V} {u:Value} {pos:Pos} (hg:Gl X x) (hm:X.mg x=some u) (r:RelV v u) (hd:(x == ("__debug__" : Str))=false:=by decide):PE X (.Name x pos) (tC v):=
  fun _ _ _ H _ I h=>qem I hg hm ⟨v,H,I,r,h⟩ hd
theorem qa3 {x:Str} {v:V} {u:Value} {pos:Pos} (hg:Gl X x) (hm:X.mg x=none) (hv:bootBuiltins x=some u) (r:RelV v u) (hn:x≠"__name__":=by decide) (hd:(x == ("__debug__" : Str))=false:=by decide):PE X (.Name x pos) (tC v):=
  fun _ _ _ H _ I h=>ycu I hg hm hv ⟨v,H,I,r,h⟩ hn hd
variable {a b:Expr} {ta tb:TE} {pos:Pos}
def PC (X:Cx) (op:CmpOp) (a b:Expr) (t:TE):Prop:=
  ∀ (pins:List (Addr×Obj)) (s:Shared) (σ:St) (H:Hp) (Q:VK),Inv X pins σ H s→t σ H Q→
    wpAny (model X.prog X.w) X.A (eval a X.env) (fun v s₁=>wpAny (model X.prog X.w) X.A (eval b X.env) (fun u s₂=>wpAny (model X.prog X.w) X.A (compareOp op v u) (EP X pins σ Q) X.xe s₂) X.xe s₁) X.xe s
theorem yg5 (b:Expr) {op:CmpOp} (h:op≠.In) (h2:op≠.NotIn):behindInMarks op b=false:=by
  have e1:(op == CmpOp.In)=false:=by cases op <;> first | rfl | exact absurd rfl h
  have e2:(op == CmpOp.NotIn)=false:=by cases op <;> first | rfl | exact absurd rfl h2
  cases b <;> simp [behindInMarks,e1,e2]
def tIsN (ta:TE):TE:=fun σ H Q=>ta σ H fun x H1=>Q (.bl (decide (x=.non))) H1
def tNotN (ta:TE):TE:=fun σ H Q=>ta σ H fun x H1=>Q (.bl (!decide (x=.non))) H1
theorem RelV.none_iff {x:V} {v:Value} (r:RelV x v):(v == Value.none)=decide (x=.non):=by
  cases x with
  | non=>cases r; rfl
  | bl _=>cases r; rfl
  | int _=>obtain ⟨t,rfl⟩:=r; rfl
  | str _=>obtain ⟨t,rfl⟩:=r; rfl
  | byt _=>obtain ⟨t,rfl⟩:=r; rfl
  | flt _=>obtain ⟨t,rfl⟩:=r; rfl
  | ref _=>cases r; rfl
  | ty _=>cases r; rfl
theorem pc_isN {j pos'} (ha:PE X a ta):PC X .Is a (.Constant .none j pos') (tIsN ta):=by
  intro pins s σ H Q I h
  refine thn (ha pins s σ H _ I h) fun v s1 ⟨x,H1,I1,r1,q1⟩=>?_
  exact Constant_none (is_none_gen ⟨.bl _,H1,I1,by rw [r1.none_iff]; rfl,q1⟩)
theorem pc_notN {j pos'} (ha:PE X a ta):PC X .IsNot a (.Constant .none j pos') (tNotN ta):=by
  intro pins s σ H Q I h
  refine thn (ha pins s σ H _ I h) fun v s1 ⟨x,H1,I1,r1,q1⟩=>?_
  exact Constant_none (isnot_none_gen ⟨.bl _,H1,I1,by rw [r1.none_iff]; rfl,q1⟩)
def tB (t:TE):TT:=fun σ H Q=>t σ H fun x H1=>∃ c,x=.bl c∧Q c H1
theorem pe_cmp {op:CmpOp} {t:TE} (h:PC X op a b t) (h1:behindInMarks op b=false:=by first | exact yg5 _ (by decide) (by decide) | rfl):PE X (.Compare a [op] [b] pos) t:=fun pins s σ H Q I hw=>wpAny_Compare1 (h pins s σ H Q I hw) h1
theorem pt_cmp {op:CmpOp} {t:TE} (h:PC X op a b t) (h1:behindInMarks op b=false:=by first | exact yg5 _ (by decide) (by decide) | rfl):PT X (.Compare a [op] [b] pos) (tB t):=by
  intro pins s σ H Q I hw
  refine wpAny_isTrue_Compare1 (thn (h pins s σ H _ I hw) fun v s1 h1=>thn h1 fun u s2 h2=>thn h2 fun c s3 ⟨x,H1,I1,r1,q1⟩=>?_) h1
  obtain ⟨d,rfl,q⟩:=q1
  cases r1
  exact wpAny_truthy_bool ⟨H1,I1,q⟩
theorem qco {e:Expr} {t:TE} (h:PE X e t) (he:∀ whole,isTrue e X.env whole=(do let v ← whole; standAt e.pos; holding [v] (truthy v)):=by intro _; rfl):PT X e (tB t):=by
  intro pins s σ H Q I hw
  refine isTrue_plain (thn (h pins s σ H _ I hw) fun v s1 ⟨x,H1,I1,r1,q1⟩=>?_) (he _)
  obtain ⟨d,rfl,q⟩:=q1
  cases r1
  exact wpAny_truthy_bool ⟨H1,I1,q⟩
variable {tA tB':TT} {rest:List Expr}
def tAnd (t u:TT):TT:=fun σ H Q=>t σ H fun c H1=>if c=true then u σ H1 Q else Q false H1
def tOr (t u:TT):TT:=fun σ H Q=>t σ H fun c H1=>if c=true then Q true H1 else u σ H1 Q
def tNot (t:TT):TT:=fun σ H Q=>t σ H fun c H1=>Q (!c) H1
theorem qis (ha:PT X a tA):PW X (.BoolOp .And [a] pos) tA:=by
  intro wh pins s σ H Q I h
  refine isTrue_and (thn (ha pins s σ H Q I h) fun c s1 e=>?_)
  cases c with
  | true=>exact isTrue_and_nil e
  | false=>exact e
theorem qge (ha:PT X a tA):PW X (.BoolOp .Or [a] pos) tA:=by
  intro wh pins s σ H Q I h
  refine isTrue_or (thn (ha pins s σ H Q I h) fun c s1 e=>?_)
  cases c with
  | false=>exact isTrue_or_nil e
  | true=>exact e
theorem pw_and (ha:PT X a tA) (hb:PW X (.BoolOp .And (b :: rest) pos) tB'):PW X (.BoolOp .And (a :: b :: rest) pos) (tAnd tA tB'):=by
  intro wh pins s σ H Q I h
  refine isTrue_and (thn (ha pins s σ H _ I h) fun c s1 ⟨H1,I1,q1⟩=>?_)
  cases c with
  | true=>exact hb wh pins s1 σ H1 Q I1 q1
  | false=>exact ⟨H1,I1,q1⟩
theorem yie (ha:PT X a tA) (hb:PW X (.BoolOp .Or (b :: rest) pos) tB'):PW X (.BoolOp .Or (a :: b :: rest) pos) (tOr tA tB'):=by
  intro wh pins s σ H Q I h
  refine isTrue_or (thn (ha pins s σ H _ I h) fun c s1 ⟨H1,I1,q1⟩=>?_)
  cases c with
  | true=>exact ⟨H1,I1,q1⟩
  | false=>exact hb wh pins s1 σ H1 Q I1 q1
theorem qdc (ha:PT X a tA):PT X (.UnaryOp .Not a pos) (tNot tA):=by
  intro pins s σ H Q I h
  exact isTrue_not (ha pins s σ H (fun c H1=>Q (!c) H1) I h)
def tAndV (ta tb:TE):TE:=fun σ H Q=>ta σ H fun x H1=>∃ c,x=.bl c∧if c=true then tb σ H1 Q else Q (.bl false) H1
def tNotV (ta:TE):TE:=fun σ H Q=>ta σ H fun x H1=>∃ c,x=.bl c∧Q (.bl (!c)) H1
theorem yb5 {op} {t:TE} (h:PE X a t):PE X (.BoolOp op [a] pos) t:=fun pins s σ H Q I hw=>BoolOp_one (h pins s σ H Q I hw)
theorem qbb (ha:PE X a ta) (hb:PE X (.BoolOp .And (b :: rest) pos) tb):PE X (.BoolOp .And (a :: b :: rest) pos) (tAndV ta tb):=by
  intro pins s σ H Q I h
  refine BoolOp_and (thn (ha pins s σ H _ I h) fun v s1 ⟨x,H1,I1,r1,q1⟩=>?_)
  obtain ⟨c,rfl,q1⟩:=q1
  cases r1
  refine wpAny_truthy_bool ?_
  cases c with
  | true=>exact hb pins s1 σ H1 Q I1 q1
  | false=>exact ⟨.bl false,H1,I1,rfl,q1⟩
theorem pe_not (ha:PE X a ta):PE X (.UnaryOp .Not a pos) (tNotV ta):=by
  intro pins s σ H Q I h
  refine UnaryOp_ (thn (ha pins s σ H _ I h) fun v s1 ⟨x,H1,I1,r1,q1⟩=>?_)
  obtain ⟨c,rfl,q1⟩:=q1
  cases r1
  exact not_of (wpAny_truthy_bool ⟨.bl (!c),H1,I1,rfl,q1⟩)
def tIf (t:TT) (ta tb:TE):TE:=fun σ H Q=>t σ H fun c H1=>if c=true then ta σ H1 Q else tb σ H1 Q
theorem pe_ifExp {c:Expr} (hc:PT X c tA) (ha:PE X a ta) (hb:PE X b tb):PE X (.IfExp c a b pos) (tIf tA ta tb):=by
  intro pins s σ H Q I h
  refine wpAny_IfExp (thn (hc pins s σ H _ I h) fun d s1 ⟨H1,I1,q1⟩=>?_)
  cases d with
  | true=>exact ha pins s1 σ H1 Q I1 q1
  | false=>exact hb pins s1 σ H1 Q I1 q1
end
end L2
namespace L2
open PySem PySem.Spec PyProof.Rows
def SqL (K:PySem.W.Frag) (H:Hp) (a:Addr) (xs:List V):Prop:=
  Rd H a (.lst xs)∨
    ∃ (o:Obj) (its:Array Value) (n:Nat),K.lookup a=some o∧o.cls=.type "list"∧o.dict=none∧o.data=.seq its n∧its.size≤sizeLine∧Vals xs its.toList
def SqT (K:PySem.W.Frag) (H:Hp) (a:Addr) (xs:List V):Prop:=
  Rd H a (.tup xs)∨
    ∃ (o:Obj) (its:Array Value) (n:Nat),K.lookup a=some o∧o.cls=.type "tuple"∧o.data=.seq its n∧its.size≤sizeLine∧Vals xs its.toList
def absV:Value→Option V
  | .none=>some .non
  | .bool b=>some (.bl b)
  | .int i _=>some (.int i)
  | .str x _=>some (.str x)
  | .bytes b _=>some (.byt b)
  | .float b _=>some (.flt b)
  | .ref a=>some (.ref a)
  | .type n=>some (.ty n)
  | _=>none
theorem RelV.abs {x:V} {u:Value} (r:RelV x u):absV u=some x:=by
  cases x with
  | non=>cases r; rfl
  | bl _=>cases r; rfl
  | int _=>obtain ⟨t,rfl⟩:=r; rfl
  | str _=>obtain ⟨t,rfl⟩:=r; rfl
  | byt _=>obtain ⟨t,rfl⟩:=r; rfl
  | flt _=>obtain ⟨t,rfl⟩:=r; rfl
  | ref _=>cases r; rfl
  | ty _=>cases r; rfl
theorem RelV.inj {x y:V} {u:Value} (r:RelV x u) (q:RelV y u):x=y:=Option.some.inj (r.abs.symm.trans q.abs)
theorem Vals.inj:∀ {xs ys:List V} {us:List Value},Vals xs us→Vals ys us→xs=ys
  | _,_,_,.nil,.nil=>rfl
  | _,_,_,.cons r t,.cons r' t'=>by rw [r.inj r',Vals.inj t t']
section
variable {X:Cx} {pins:List (Addr×Obj)} {σ:St} {H:Hp} {s:Shared} {a:Addr} {xs ys:List V}
theorem SqL.of {K:PySem.W.Frag} (h:H a=some (.lst xs)):SqL K H a xs:=.inl (.inl h)
theorem SqT.of {K:PySem.W.Frag} (h:H a=some (.tup xs)):SqT K H a xs:=.inl (.inl h)
theorem Inv.list (I:Inv X pins σ H s) (h:SqL X.K H a xs):∃ its:List Value,Vals xs its∧PlainL s.heap a its.toArray∧xs.length≤sizeLine:=by
  rcases h with h | ⟨o,its,n,hk,hc,hd,hs,hz,r⟩
  · obtain ⟨z,its,n,r,e⟩:=h.ok I.hok
    exact ⟨its,r,⟨_,n,e,rfl,rfl,rfl⟩,z⟩
  · refine ⟨its.toList,r,⟨o,n,I.kIn a o hk,hc,hd,by simpa using hs⟩,?_⟩
    have e:=r.length
    simp only [Array.length_toList] at e
    omega
theorem Inv.tuple (I:Inv X pins σ H s) (h:SqT X.K H a xs):∃ its:List Value,Vals xs its∧IsTup s.heap a its.toArray∧xs.length≤sizeLine:=by
  rcases h with h | ⟨o,its,n,hk,hc,hs,hz,r⟩
  · obtain ⟨z,its,r,p⟩:=h.ok I.hok
    exact ⟨its,r,p,z⟩
  · refine ⟨its.toList,r,⟨o,I.kIn a o hk,hc,n,by simpa using hs⟩,?_⟩
    have e:=r.length
    simp only [Array.length_toList] at e
    omega
theorem Inv.list_inj (I:Inv X pins σ H s) (h:SqL X.K H a xs) (h':SqL X.K H a ys):xs=ys:=by
  obtain ⟨its,r,⟨o,n,e,_,_,d⟩,_⟩:=I.list h
  obtain ⟨its',r',⟨o',n',e',_,_,d'⟩,_⟩:=I.list h'
  rw [e] at e'; cases e'
  rw [d] at d'
  injection d' with d1 _
  have:its=its':=by simpa using congrArg Array.toList d1
  subst this
  exact r.inj r'
theorem Inv.tuple_inj (I:Inv X pins σ H s) (h:SqT X.K H a xs) (h':SqT X.K H a ys):xs=ys:=by
  obtain ⟨its,r,⟨o,e,_,n,d⟩,_⟩:=I.tuple h
  obtain ⟨its',r',⟨o',e',_,n',d'⟩,_⟩:=I.tuple h'
  rw [e] at e'; cases e'
  rw [d] at d'
  injection d' with d1 _
  have:its=its':=by simpa using congrArg Array.toList d1
  subst this
  exact r.inj r'
end
abbrev Cx.wish (X:Cx) (E:Value→Shared→Prop):Cx:={ X with xe:=E }
abbrev Cx.nox (X:Cx):Cx:=X.wish fun _ _=>False
theorem Cx.Ok.wish {X:Cx} (ok:X.Ok) (E:Value→Shared→Prop):(X.wish E).Ok:=
  ⟨ok.mod,ok.kind,ok.glob,ok.blt,ok.above,ok.inj,ok.has,ok.cab,ok.hd,ok.frames,ok.stk,ok.exf,ok.bs,ok.bsz,ok.noex,ok.exfs,ok.funs,ok.frf⟩
theorem Cx.Ok.unwish {X:Cx} {E:Value→Shared→Prop} (ok:(X.wish E).Ok):X.Ok:=
  ⟨ok.mod,ok.kind,ok.glob,ok.blt,ok.above,ok.inj,ok.has,ok.cab,ok.hd,ok.frames,ok.stk,ok.exf,ok.bs,ok.bsz,ok.noex,ok.exfs,ok.funs,ok.frf⟩
section
variable {X:Cx} {pins:List (Addr×Obj)} {σ:St} {H:Hp} {s:Shared} {E:Value→Shared→Prop}
theorem Inv.wish (I:Inv X pins σ H s) (E:Value→Shared→Prop):Inv (X.wish E) pins σ H s:=⟨I.ok.wish E,I.os,I.bare,I.base,I.loc,I.cell,I.free,I.freeC,I.pin,I.hok,I.len⟩
theorem Inv.unwish (I:Inv (X.wish E) pins σ H s):Inv X pins σ H s:=⟨I.ok.unwish,I.os,I.bare,I.base,I.loc,I.cell,I.free,I.freeC,I.pin,I.hok,I.len⟩
theorem SP.unwish {D:Ends} {f:Flow} {s':Shared} (h:SP (X.wish E) pins D f s'):SP X pins D f s':=by
  cases f with
  | next=>obtain ⟨σ',H',I,q⟩:=h; exact ⟨σ',H',I.unwish,q⟩
  | brk=>obtain ⟨σ',H',I,q⟩:=h; exact ⟨σ',H',I.unwish,q⟩
  | cont=>obtain ⟨σ',H',I,q⟩:=h; exact ⟨σ',H',I.unwish,q⟩
  | ret u=>obtain ⟨v,σ',H',I,r,q⟩:=h; exact ⟨v,σ',H',I.unwish,r,q⟩
theorem PSs.nox {st:List Stmt} {t:TS} (h:PSs X.nox st t):PSs X st t:=fun pins s σ H D I hw=>
  wpAny_mono (h pins s σ H D (I.wish _) hw) (fun _ _ q=>q.unwish) fun _ _ z=>False.elim z
end
section
variable {X:Cx} {st:Stmt} {rest:List Stmt} {t u:TS} {e:Expr} {te:TE} {pos:Pos}
def tNext:TS:=fun D σ H=>D.nx σ H
def tSeq (t u:TS):TS:=fun D σ H=>t { D with nx:=u D } σ H
theorem qcm:PSs X [] tNext:=fun _ _ σ H _ I h=>wpAny_execs_nil ⟨σ,H,I,h⟩
theorem qap (h1:PS X st t) (h2:PSs X rest u):PSs X (st :: rest) (tSeq t u):=by
  intro pins s σ H D I h
  refine wpAny_execs_cons (thn (h1 pins s σ H { D with nx:=u D } I h) fun f s1 q=>?_)
  cases f with
  | next=>
    obtain ⟨σ',H',I',q⟩:=q
    exact h2 pins s1 σ' H' D I' q
  | ret v=>exact q
  | brk=>exact q
  | cont=>exact q
theorem yan (h1:PS X st t):PSs X [st] t:=by
  intro pins s σ H D I h
  refine wpAny_execs_cons (thn (h1 pins s σ H D I h) fun f s1 q=>?_)
  cases f with
  | next=>exact wpAny_execs_nil q
  | ret v=>exact q
  | brk=>exact q
  | cont=>exact q
theorem Inv.quiet {pins:List (Addr×Obj)} {σ:St} {H:Hp} {s:Shared} (I:Inv X pins σ H s):interactive X.env=false:=by simp [interactive,I.ok.kind]
def tDrop (te:TE):TS:=fun D σ H=>te σ H fun _ H1=>D.nx σ H1
theorem qc5 (he:PE X e te) (hs:swapsWith e none pos.line X.env=pure false:=by rfl):PS X (.Expr e pos) (tDrop te):=by
  intro pins s σ H D I h
  exact wpAny_Expr_any (thn (he pins s σ H _ I h) fun v s1 ⟨x,H1,I1,r1,q1⟩=>⟨σ,H1,I1,q1⟩) I.quiet hs
def tRet (te:TE):TS:=fun D σ H=>te σ H D.rt
theorem qa9 (he:PE X e te):PS X (.Return (some e) pos) (tRet te):=by
  intro pins s σ H D I h
  exact wpAny_Return_some (thn (he pins s σ H _ I h) fun v s1 ⟨x,H1,I1,r1,q1⟩=>⟨x,σ,H1,I1,r1,q1⟩)
def tIfS (c:TT) (t u:TS):TS:=fun D σ H=>c σ H fun b H1=>if b=true then t D σ H1 else u D σ H1
theorem yeq {c:Expr} {a b:List Stmt} {tc:TT} (hc:PT X c tc) (ha:PSs X a t) (hb:PSs X b u):PS X (.If c a b pos) (tIfS tc t u):=by
  intro pins s σ H D I h
  refine wpAny_If (thn (hc pins s σ H _ I h) fun d s1 ⟨H1,I1,q1⟩=>?_)
  cases d with
  | true=>exact ha pins s1 σ H1 D I1 q1
  | false=>exact hb pins s1 σ H1 D I1 q1
def tNever:TS:=fun _ _ _=>False
theorem qff:PS X st tNever:=fun _ _ _ _ _ _ h=>h.elim
end
abbrev TG:=V→St→Hp→(St→Hp→Prop)→Prop
abbrev TGs:=List V→St→Hp→(St→Hp→Prop)→Prop
def PG (X:Cx) (target:Expr) (t:TG):Prop:=
  ∀ (pins:List (Addr×Obj)) (s:Shared) (σ:St) (H:Hp) (v:V) (u:Value) (Q:St→Hp→Prop),Inv X pins σ H s→RelV v u→t v σ H Q→
    wpAny (model X.prog X.w) X.A (assign target X.env u) (fun _ s'=>∃ σ' H',Inv X pins σ' H' s'∧Q σ' H') X.xe s
def PGs (X:Cx) (ts:List Expr) (t:TGs):Prop:=
  ∀ (pins:List (Addr×Obj)) (s:Shared) (σ:St) (H:Hp) (vs:List V) (us:List Value) (Q:St→Hp→Prop),Inv X pins σ H s→Vals vs us→t vs σ H Q→
    wpAny (model X.prog X.w) X.A (assignInOrder ((assignEach ts X.env).map (·.2)) us) (fun _ s'=>∃ σ' H',Inv X pins σ' H' s'∧Q σ' H') X.xe s
abbrev TSet:=V→V→V→Hp→(Hp→Prop)→Prop
def PSet (X:Cx) (t:TSet):Prop:=
  ∀ (pins:List (Addr×Obj)) (s:Shared) (σ:St) (H:Hp) (o i v:V) (ov iv u:Value) (Q:Hp→Prop),Inv X pins σ H s→RelV o ov→RelV i iv→RelV v u→t o i v H Q→
    wpAny (model X.prog X.w) X.A (setItem ov iv u) (fun _ s'=>∃ H',Inv X pins σ H' s'∧Q H') X.xe s
section
variable {X:Cx} {pos:Pos}
def yex (i:Nat):TG:=fun v σ H Q=>Q (σ.set i (some v)) H
theorem yam {i:Nat} {x:Str} (hN:X.N.Nodup) (hi:X.N[i]?=some x) (hx:Loc X.env.scope x) (hf:X.fn x=true∨X.env.scope.names.lookup x=some .local:=by first | exact .inl rfl | exact .inr rfl | assumption):PG X (.Name x pos) (yex i):=by
  intro pins s σ H v u Q I r h
  exact wpAny_assign_Name (ye8 I hN hi hx r (fun s' I'=>⟨_,H,I',h⟩) hf)
def gNil:TGs:=fun vs σ H Q=>vs=[]∧Q σ H
def gCons (t:TG) (u:TGs):TGs:=fun vs σ H Q=>∃ v r,vs=v :: r∧t v σ H fun σ' H'=>u r σ' H' Q
theorem ycl:PGs X [] gNil:=by
  intro pins s σ H vs us Q I r h
  obtain ⟨e,h⟩:=h
  subst e
  cases r
  exact assignInOrder_nil ⟨σ,H,I,h⟩
theorem yay {e:Expr} {es:List Expr} {t:TG} {u:TGs} (h1:PG X e t) (h2:PGs X es u)
    (hs:(assignEach (e :: es) X.env).map (·.2)=assign e X.env :: (assignEach es X.env).map (·.2):=by rfl):PGs X (e :: es) (gCons t u):=by
  intro pins s σ H vs us Q I r h
  obtain ⟨v,vr,e1,h⟩:=h
  subst e1
  cases r with
  | cons r rr=>
    rw [hs]
    refine assignInOrder_cons (thn (h1 pins s σ H _ _ _ I r h) fun _ s1 ⟨σ1,H1,I1,q1⟩=>?_)
    exact h2 pins s1 σ1 H1 _ _ Q I1 rr q1
def gTup (K:PySem.W.Frag) (n:Nat) (t:TGs):TG:=fun v σ H Q=>∃ a xs,v=.ref a∧SqT K H a xs∧xs.length=n∧t xs σ H Q
theorem qe4 {es:List Expr} {k:Nat} {t:TGs} {n:Nat} (hc:X.calm=true) (h:PGs X es t)
    (hn:(assignEach es X.env).length=n:=by rfl) (hst:(assignEach es X.env).findIdx? (·.1)=none:=by rfl):PG X (.Tuple es k pos) (gTup X.K n t):=by
  intro pins s σ H v u Q I r hw
  obtain ⟨a,xs,e1,hq,hl,hw⟩:=hw
  subst e1
  cases r
  obtain ⟨its,rv,ht,hz⟩:=I.tuple hq
  refine assign_Tuple_tuple (I.ok.hd hc) ht (by simp [hn,← hl,rv.length]) hst fun h' hx=>?_
  have I1:Inv X pins σ H { s with heap:=h' }:=I.kept (t':=s.toks) fun b o e=>hx b o (Nat.ne_of_lt (Heap.lt_size e)) e
  exact h pins _ σ H xs _ Q I1 (by simpa using rv) hw
def gSub (to ti:TE) (t:TSet):TG:=fun v σ H Q=>to σ H fun o H1=>ti σ H1 fun i H2=>t o i v H2 fun H3=>Q σ H3
theorem pg_sub {o i:Expr} {to ti:TE} {t:TSet} (ho:PE X o to) (hi:PE X i ti) (hs:PSet X t)
    (ha:∀ v,assign (.Subscript o i pos) X.env v=(do
      let ov ← holding [v] (eval o X.env)
      let iv ← holding [v,ov] (eval i X.env)
      standAt pos
      holding [v,ov,iv] (setItem ov iv v)
      release [v,ov,iv] []):=by intro _; rfl):PG X (.Subscript o i pos) (gSub to ti t):=by
  intro pins s σ H v u Q I r h
  rw [ha]
  refine wpAny_bind (wpAny_holding (thn (ho pins s σ H _ I h) fun ov s1 ⟨x,H1,I1,r1,q1⟩=>?_))
  refine wpAny_bind (wpAny_holding (thn (hi pins s1 σ H1 _ I1 q1) fun iv s2 ⟨y,H2,I2,r2,q2⟩=>?_))
  refine wpAny_bind (wpAny_standAt (wpAny_bind (wpAny_holding (thn (hs pins s2 σ H2 x y v ov iv u _ I2 r1 r2 r q2) fun _ s3 ⟨H3,I3,q3⟩=>?_))))
  exact wpAny_release ⟨σ,H3,I3,q3⟩
def tAsg (te:TE) (g:TG):TS:=fun D σ H=>te σ H fun x H1=>g x σ H1 D.nx
theorem ps_asg {tg e:Expr} {te:TE} {g:TG} (he:PE X e te) (hg:PG X tg g) (hs:swapsWithSole [tg] e pos.line X.env=pure false:=by rfl) (hw:swappedStores [tg] e X.env=pure none:=by rfl)
    (h1:(assignEach [tg] X.env).map (·.2)=[assign tg X.env]:=by rfl):PS X (.Assign [tg] e pos) (tAsg te g):=by
  intro pins s σ H D I h
  refine wpAny_Assign_stores (thn (he pins s σ H _ I h) fun v s1 ⟨x,H1,I1,r1,q1⟩=>?_) hs hw
  rw [h1]
  exact thn (hg pins s1 σ H1 x v _ I1 r1 q1) fun _ s2 q=>q
theorem ybt {i:Nat} {x:Str} {e:Expr} {te:TE} {pos':Pos} (hN:X.N.Nodup) (hi:X.N[i]?=some x) (hx:Loc X.env.scope x) (he:PE X e te) (hs:swapsWith e (some (.Name x pos')) pos.line X.env=pure false:=by rfl) (hf:X.fn x=true∨X.env.scope.names.lookup x=some .local:=by first | exact .inl rfl | exact .inr rfl | assumption) :
    PS X (.Assign [.Name x pos'] e pos) (tAsg te (yex i)):=by
  intro pins s σ H D I h
  refine wpAny_Assign_Name (thn (he pins s σ H _ I h) fun v s1 ⟨y,H1,I1,r1,q1⟩=>?_) hs
  exact ye8 I1 hN hi hx r1 (fun s2 I2=>⟨_,H1,I2,q1⟩) hf
end
structure It where
  go:Nat→Hp→Prop
  yld:Nat→Hp→V→Hp→Prop
  stop:Nat→Hp→Prop
def FpOk (X:Cx) (pins:List (Addr×Obj)) (H:Hp) (b:Addr):Prop:=
  H b=none∧b≠X.env.locals∧b∉X.fs∧(b∈X.ex∨X.s₀.heap.objs.size≤b)∧(∀ x c,X.env.cells.lookup x=some c→c≠b)∧∀ p∈X.pn++pins,p.1≠b
theorem Inv.fpOk {X:Cx} {pins:List (Addr×Obj)} {σ:St} {H H':Hp} {s:Shared} {b:Addr} (I:Inv X pins σ H s) (hb:s.heap.objs.size≤b) (hn:H' b=none):FpOk X pins H' b:=by
  refine ⟨hn,Nat.ne_of_gt (Nat.lt_of_lt_of_le I.lt hb),I.nofs hb,.inr (Nat.le_trans I.sz hb),fun x c e z=>?_,fun p hp z=>?_⟩
  · obtain ⟨v,q⟩:=I.cell x c e
    exact absurd (Nat.lt_of_lt_of_le q.lt (by rw [z]; exact hb)) (Nat.lt_irrefl _)
  · exact absurd (Nat.lt_of_lt_of_le (Heap.lt_size (I.pin p hp).1) (by rw [z]; exact hb)) (Nat.lt_irrefl _)
structure Turn (P:Program) (w:World) (K:PySem.W.Frag) (tg:Expr) (J:It) (fp:List Addr) (it:Addr) (tn:Nat→Heap→Prop):Prop where
  mem:it∈fp
  obj:∀ i h,tn i h→∀ b∈fp,∃ o,h.get? b=some o∧∀ v,o.data≠.cell v
  keep:∀ i h h',tn i h→(∀ b∈fp,∀ o,h.get? b=some o→h'.get? b=some o)→tn i h'
  item:∀ (X:Cx),X.prog=P→X.w=w→X.K=K→X.calm=true→∀ (i:Nat) (pins:List (Addr×Obj)) (s:Shared) (σ:St) (H:Hp) (E:Value→Shared→Prop),Inv X pins σ H s→(∀ b∈fp,FpOk X pins H b)→tn i s.heap→J.go i H→
    wpAny (model P w) X.A (pyNext (.ref it)) (fun r s1=>∃ u,r=some u∧
      wpAny (model P w) X.A (letOwnedTupleGo tg (.ref it) u) (fun _ s2=>∃ x H',Inv X pins σ H' s2∧RelV x u∧J.yld i H x H'∧tn (i + 1) s2.heap∧∀ b∈fp,H' b=none) E s1) E s
  done:∀ (X:Cx),X.prog=P→X.w=w→X.K=K→X.calm=true→∀ (i:Nat) (pins:List (Addr×Obj)) (s:Shared) (σ:St) (H:Hp) (E:Value→Shared→Prop),Inv X pins σ H s→(∀ b∈fp,FpOk X pins H b)→tn i s.heap→J.stop i H→
    wpAny (model P w) X.A (pyNext (.ref it)) (fun r s1=>r=none∧Inv X pins σ H s1) E s
  self:∀ (A:Around) (i:Nat) (s:Shared) (Q:Value→Shared→Prop) (E:Value→Shared→Prop),tn i s.heap→Q (.ref it) s→wpAny (model P w) A (pyIter (.ref it)) Q E s
abbrev TI:=St→Hp→(It→Hp→Prop)→Prop
def PIE (X:Cx) (pins:List (Addr×Obj)) (σ:St) (tg:Expr) (R:It→Hp→Prop) (itv:Value) (s2:Shared):Prop:=
  ∃ (it:Addr) (fp:List Addr) (tn:Nat→Heap→Prop) (J:It) (H':Hp),itv=.ref it∧Inv X pins σ H' s2∧Turn X.prog X.w X.K tg J fp it tn∧tn 0 s2.heap∧(∀ b∈fp,FpOk X pins H' b)∧R J H'
def PI (X:Cx) (tg iter:Expr) (wi:TI):Prop:=
  ∀ (pins:List (Addr×Obj)) (s:Shared) (σ:St) (H:Hp) (R:It→Hp→Prop),Inv X pins σ H s→wi σ H R→
    wpAny (model X.prog X.w) X.A (eval iter X.env) (fun v s1=>wpAny (model X.prog X.w) X.A (pyIter v) (PIE X pins σ tg R) X.xe s1) X.xe s
theorem go_of {M:Model} {A:Around} {E:Value→Shared→Prop} {s:Shared} {tg:Expr} {it:Addr} {u:Value} {o:Obj} {n:String} {vs:Array Value} {Q:Unit→Shared→Prop} (ho:s.heap.get? it=some o) (hc:o.cls=.type n) (hd:o.data=.fields vs)
    (hn:["enumerate","zip","dict_itemiterator","dict_reverseitemiterator","odict_iterator","itertools.zip_longest","itertools.pairwise"].contains n=false) (hQ:Q () s):wpAny M A (letOwnedTupleGo tg (.ref it) u) Q E s:=by
  unfold letOwnedTupleGo
  cases tg <;> first
    | exact wpAny_pure hQ
    | (cases u <;> first
        | exact wpAny_pure hQ
        | (refine wpAny_bind (wpAny_load ho ?_)
           rw [hc,hd]
           show wpAny M A (if (["enumerate","zip","dict_itemiterator","dict_reverseitemiterator","odict_iterator","itertools.zip_longest","itertools.pairwise"].contains n && vs[0]? == some (rawInt _))=true then _ else _) Q E s
           rw [if_neg (by intro h; rw [hn,Bool.false_and] at h; cases h)]
           exact wpAny_pure hQ))
def Itl (K:PySem.W.Frag) (a:Addr):It:=
  ⟨fun i H=>∃ xs x,SqL K H a xs∧xs[i]?=some x,fun i H x H'=>H'=H∧∀ xs,SqL K H a xs→xs[i]?=some x,fun i H=>∃ xs,SqL K H a xs∧xs.length≤i⟩
def Itr (lo:Int) (n:Nat):It:=⟨fun i _=>i < n,fun i H x H'=>H'=H∧x=.int (lo + i),fun i _=>n≤i⟩
theorem yin {P:Program} {w:World} {K:PySem.W.Frag} {tg:Expr} (a it:Addr):Turn P w K tg (Itl K a) [it] it (fun i h=>h.IsListIter it a i) where
  mem:=by simp
  obj:=fun i h st b hb=>by
    have e:b=it:=by simpa using hb
    subst e
    obtain ⟨o,e,c,d⟩:=st
    exact ⟨o,e,fun v z=>by rw [d] at z; cases z⟩
  keep:=fun i h h' st k=>st.at fun o e=>k it (by simp) o e
  item:=by
    intro X hP hw hK hc i pins s σ H E I hf st hg
    subst hP hw hK
    obtain ⟨xs,x,hq,hx⟩:=hg
    obtain ⟨its,rv,p,hz⟩:=I.list hq
    obtain ⟨u,hu,ru⟩:=rv.get hx
    obtain ⟨f0,f1,f2,f3,f4,f5⟩:=hf it (by simp)
    refine wpAny_pyNext_list_item st p.isList (x:=u) (by simpa using hu) fun h' st' sb=>?_
    have I1:Inv X pins σ H { s with heap:=h' }:=I.turned (t':=s.toks) (fun b o hb e=>(sb.2 b hb).trans e) f0 f1 f3 f4 f5
    obtain ⟨o,e,c,d⟩:=id st'
    exact ⟨u,rfl,go_of (s:={ s with heap:=h' }) e c d (by decide) ⟨x,H,I1,ru,⟨rfl,fun ys hy=>by rw [I.list_inj hy hq]; exact hx⟩,st',fun b hb=>(hf b hb).1⟩⟩
  done:=by
    intro X hP hw hK hc i pins s σ H E I hf st hg
    subst hP hw hK
    obtain ⟨xs,hq,hx⟩:=hg
    obtain ⟨its,rv,p,hz⟩:=I.list hq
    obtain ⟨f0,f1,f2,f3,f4,f5⟩:=hf it (by simp)
    have hl:=rv.length
    exact wpAny_pyNext_list_end (I.ok.hd hc) st p.isList (by simp; omega) fun h' eb=>⟨rfl,I.turned (t':=s.toks) (fun b o hb e=>eb b o hb e) f0 f1 f3 f4 f5⟩
  self:=fun _ _ _ _ _ st h=>wpAny_pyIter_listiter st h
theorem qhi {P:Program} {w:World} {K:PySem.W.Frag} {tg:Expr} (it:Addr) (lo:Int) (n:Nat):Turn P w K tg (Itr lo n) [it] it (fun i h=>IsRangeIter h it (lo + (i:Nat) * 1) ((n:Int) - (i:Nat)) 1) where
  mem:=by simp
  obj:=fun i h st b hb=>by
    have e:b=it:=by simpa using hb
    subst e
    exact ⟨_,st,fun v z=>by
      have z':Data.fields _=Data.cell v:=z
      cases z'⟩
  keep:=fun i h h' st k=>k it (by simp) _ st
  item:=by
    intro X hP hw hK hc i pins s σ H E I hf st hg
    subst hP hw hK
    obtain ⟨f0,f1,f2,f3,f4,f5⟩:=hf it (by simp)
    have W:=Walks.range (prog:=X.prog) (w:=X.w) (I.ok.hd hc) it lo 1 n
    refine W.item i s _ _ hg st fun v h' tk hv st' kk=>?_
    obtain ⟨t,rfl⟩:=hv
    have I1:Inv X pins σ H { s with heap:=h',toks:=tk }:=I.turned (fun b o hb e=>kk b o (by simpa using hb) e) f0 f1 f3 f4 f5
    refine ⟨_,rfl,go_of (s:={ s with heap:=h',toks:=tk }) (n:="range_iterator") st' rfl rfl (by decide) ⟨.int (lo + i),H,I1,⟨t,?_⟩,⟨rfl,rfl⟩,st',fun b hb=>(hf b hb).1⟩⟩
    rw [Int.mul_one]
  done:=by
    intro X hP hw hK hc i pins s σ H E I hf st hg
    subst hP hw hK
    obtain ⟨f0,f1,f2,f3,f4,f5⟩:=hf it (by simp)
    exact wpAny_pyNext_range_end (I.ok.hd hc) st (by have:n≤i:=hg; omega) fun h' eb=>⟨rfl,I.turned (t':=s.toks) (fun b o hb e=>eb b o hb e) f0 f1 f3 f4 f5⟩
  self:=fun _ _ _ _ _ st h=>wpAny_pyIter_rangeiter st h
end L2
namespace L2
open PySem PySem.Spec PyProof.Rows
section
variable {X:Cx} {tg:Expr}
def iList (K:PySem.W.Frag) (tl:TE):TI:=fun σ H R=>tl σ H fun x H1=>∃ a,x=.ref a∧(∃ xs,SqL K H1 a xs)∧R (Itl K a) H1
theorem qch {l:Expr} {tl:TE} (hl:PE X l tl):PI X tg l (iList X.K tl):=by
  intro pins s σ H R I h
  refine thn (hl pins s σ H _ I h) fun v s1 ⟨x,H1,I1,r1,q1⟩=>?_
  obtain ⟨a,e,⟨xs,hq⟩,q⟩:=q1
  subst e
  cases r1
  obtain ⟨its,rv,p,hz⟩:=I1.list hq
  refine wpAny_pyIter_list p.isList ?_
  refine ⟨s1.heap.objs.size,[s1.heap.objs.size],_,_,H1,rfl,I1.kept (t':=s1.toks) fun b o e=>Heap.get?_push_of_some _ e,yin a _,⟨_,Heap.get?_push_size _ rfl,rfl,rfl⟩,fun b hb=>?_,q⟩
  have e:b=s1.heap.objs.size:=by simpa using hb
  subst e
  exact I1.fpOk (Nat.le_refl _) (I1.hok.fresh (Nat.le_refl _))
theorem range_it {pins:List (Addr×Obj)} {σ:St} {H:Hp} {s:Shared} {R:It→Hp→Prop} {E:Value→Shared→Prop} {lo hi:Int} {t u v:Tok} {tk:Nat} (I:Inv X pins σ H s) (h1:-(2 ^ 62)≤lo) (h2:lo < 2 ^ 62) (h3:-(2 ^ 62)≤hi) (h4:hi < 2 ^ 62)
    (q:R (Itr lo (hi - lo).toNat) H):wpAny (model X.prog X.w) X.A (pyIter (.ref s.heap.objs.size)) (PIE X pins σ tg R) E { s with heap:=s.heap.push { cls:=.type "range",data:=.fields #[.int lo t,.int hi u,.int 1 v] },toks:=tk }:=by
  refine wpAny_pyIter_range (IsRange.new ..) (small_one h1 h2 h3 h4) ?_
  have I1:Inv X pins σ H { s with heap:=s.heap.push { cls:=.type "range",data:=.fields #[.int lo t,.int hi u,.int 1 v] },toks:=tk }:=I.kept fun b o e=>Heap.get?_push_of_some _ e
  refine ⟨(s.heap.push { cls:=.type "range",data:=.fields #[.int lo t,.int hi u,.int 1 v] }).objs.size,[(s.heap.push { cls:=.type "range",data:=.fields #[.int lo t,.int hi u,.int 1 v] }).objs.size],_,_,H,rfl,
    I1.kept (t':=tk) fun b o e=>Heap.get?_push_of_some _ e,qhi _ lo (hi - lo).toNat,?_,fun b hb=>?_,q⟩
  · have e1:lo + ((0:Nat):Int) * 1=lo:=by simp
    have e2:(((hi - lo).toNat:Nat):Int) - ((0:Nat):Int)=Builtin.Range.rangeSize lo hi 1:=by rw [rangeSize_one]; split <;> omega
    show IsRangeIter _ _ (lo + ((0:Nat):Int) * 1) ((((hi - lo).toNat:Nat):Int) - ((0:Nat):Int)) 1
    rw [e1,e2]
    exact Heap.get?_push_size _ rfl
  · have e:b=(s.heap.push { cls:=.type "range",data:=.fields #[.int lo t,.int hi u,.int 1 v] }).objs.size:=by simpa using hb
    subst e
    exact I1.fpOk (Nat.le_refl _) (I1.hok.fresh (Nat.le_refl _))
def iRng1 (ta:TA):TI:=fun σ H R=>ta σ H fun vs H1=>∃ j:Int,vs=[.int j]∧-(2 ^ 62)≤j∧j < 2 ^ 62∧R (Itr 0 j.toNat) H1
theorem yb2 {a:Expr} {ta:TA} {p pos:Pos} (hg:Gl X "range") (hm:X.mg "range" = none) (ha:PA X [a] ta) (hs:starEach [a] X.env=[(false,eval a X.env)]:=by rfl):PI X tg (.Call (.Name "range" p) [a] [] pos) (iRng1 ta):=by
  intro pins s σ H R I h
  refine Call_ (ycu I hg hm boot_range (PyProof.Rows.callWith_type1 (thn (ha pos pins s σ H _ I h) fun us s1 ⟨vs,H1,I1,r1,q1⟩=>?_) hs rfl))
  obtain ⟨j,e,q1,q2,q⟩:=q1
  subst e
  cases r1 with
  | cons r rr=>
    cases rr
    obtain ⟨t,rfl⟩:=r
    exact call_range_1 (range_it I1 (by omega) (by omega) q1 q2 (by simpa using q))
def tFor (wi:TI) (g:TG) (tb:TS):TS:=fun D σ H=>wi σ H fun J H1=>∃ W:Nat→Nat→St→Hp→Prop,(∃ m,W 0 m σ H1)∧∀ i m σ H,W i m σ H→
  (J.stop i H∧D.nx σ H)∨(J.go i H∧∃ N:St→Hp→Prop,(∀ σ' H',N σ' H'→∃ m',m' < m∧W (i + 1) m' σ' H')∧∀ x H',J.yld i H x H'→g x σ H' fun σ2 H2=>tb { D with nx:=N,ct:=N,bk:=D.nx } σ2 H2)
def qfy (fp:List Addr) (h:Heap):List (Addr×Obj):=fp.filterMap fun b=>(h.get? b).map fun o=>(b,o)
theorem yc1 {fp:List Addr} {h:Heap} {b:Addr} {o:Obj} (hb:b∈fp) (e:h.get? b=some o):(b,o)∈qfy fp h:=List.mem_filterMap.mpr ⟨b,hb,by rw [e]; rfl⟩
theorem yi5 {fp:List Addr} {h:Heap} {p:Addr×Obj} (hp:p∈qfy fp h):p.1∈fp∧h.get? p.1=some p.2:=by
  obtain ⟨b,hb,e⟩:=List.mem_filterMap.mp hp
  cases q:h.get? b with
  | none=>rw [q] at e; cases e
  | some o=>
    rw [q] at e
    have e':(b,o)=p:=Option.some.inj e
    subst e'
    exact ⟨hb,q⟩
theorem Inv.pinned {pins:List (Addr×Obj)} {σ:St} {H:Hp} {s:Shared} {fp:List Addr} (I:Inv X pins σ H s) (hf:∀ b∈fp,FpOk X pins H b) (ho:∀ b∈fp,∃ o,s.heap.get? b=some o∧∀ v,o.data≠.cell v):Inv X (pins++qfy fp s.heap) σ H s:=
  I.pins_of fun p hp=>(List.mem_append.mp hp).elim (fun z=>I.pin p (List.mem_append_right _ z)) fun z=>by
    obtain ⟨hb,e⟩:=yi5 z
    obtain ⟨f0,f1,f2,_⟩:=hf p.1 hb
    obtain ⟨o,e',d⟩:=ho p.1 hb
    rw [e] at e'; cases e'
    exact ⟨e,f0,f1,f2,d⟩
theorem Inv.unpinned {pins pl:List (Addr×Obj)} {σ:St} {H:Hp} {s:Shared} (I:Inv X (pins++pl) σ H s):Inv X pins σ H s:=I.pins_of fun p hp=>I.pin p (List.mem_append_right _ (List.mem_append_left _ hp))
theorem qf1 {iter:Expr} {body:List Stmt} {wi:TI} {g:TG} {tb:TS} {pos:Pos} (hp:PassesOwn (model X.prog X.w) X.A X.env X.xe) (hc:X.calm=true) (hi:PI X tg iter wi) (hg:PG X tg g) (hb:PSs X body tb)
    (hs:∀ x,foldedSetIterable iter X.env x=pure x:=by intro _; rfl):PS X (.For tg iter body [] pos) (tFor wi g tb):=by
  intro pins s σ H D I h
  refine wpAny_For (thn (hi pins s σ H _ I h) fun v s1 h1=>thn h1 fun itv s2 h2=>?_) hs
  obtain ⟨it,fp,tn,J,H2,e,I2,T,st2,f2,W,⟨m0,w0⟩,turn⟩:=h2
  subst e
  -- what stays true of the iterator's objects through the loop
  have stat:∀ {H':Hp},(∀ b∈fp,H' b=none)→∀ b∈fp,FpOk X pins H' b:=fun hn b hb=>⟨hn b hb,(f2 b hb).2⟩
  refine codeAny_forLoop_any (fun n s'=>∃ i σ' H',Inv X pins σ' H' s'∧tn i s'.heap∧(∀ b∈fp,H' b=none)∧W i n σ' H') ?_ m0 ⟨0,σ,H2,I2,st2,fun b hb=>(f2 b hb).1,w0⟩
  rintro n s3 ⟨i,σ3,H3,I3,st3,fr3,w3⟩
  rcases turn i n σ3 H3 w3 with ⟨stop,qn⟩ | ⟨go,N,hN,step⟩
  · refine wpAny_passesOwn hp (thn (T.done X rfl rfl rfl hc i pins s3 σ3 H3 X.xe I3 (stat fr3) st3 stop) fun r s4 ⟨hr,I4⟩=>?_)
    subst hr
    exact wpAny_execs_nil ⟨σ3,H3,I4,qn⟩
  · refine wpAny_passesOwn hp (thn (T.item X rfl rfl rfl hc i pins s3 σ3 H3 X.xe I3 (stat fr3) st3 go) fun r s4 ⟨u,hr,h4⟩=>?_)
    subst hr
    refine wpAny_passesOwn hp (thn h4 fun _ s5 ⟨x,H5,I5,r5,y5,st5,fr5⟩=>?_)
    have I5':=I5.pinned (stat fr5) (T.obj _ _ st5)
    refine wpAny_passesOwn hp (thn (hg _ s5 σ3 H5 x u _ I5' r5 (step x H5 y5)) fun _ s6 ⟨σ6,H6,I6,q6⟩=>?_)
    refine wpAny_passesOwn hp (thn (hb _ s6 σ6 H6 _ I6 q6) fun f s7 q7=>?_)
    have again:∀ {σ7:St} {H7:Hp},Inv X (pins++qfy fp s5.heap) σ7 H7 s7→N σ7 H7→∃ m,m < n∧∃ i σ' H',Inv X pins σ' H' s7∧tn i s7.heap∧(∀ b∈fp,H' b=none)∧W i m σ' H':=fun {σ7 H7} I7 n7=>by
      obtain ⟨m',hm,w7⟩:=hN σ7 H7 n7
      refine ⟨m',hm,i + 1,σ7,H7,I7.unpinned,T.keep _ _ _ st5 fun b hb o e=>(I7.pin (b,o) (List.mem_append_right _ (List.mem_append_right _ (yc1 hb e)))).1,fun b hb=>?_,w7⟩
      obtain ⟨o,e,d⟩:=T.obj _ _ st5 b hb
      exact (I7.pin (b,o) (List.mem_append_right _ (List.mem_append_right _ (yc1 hb e)))).2.1
    cases f with
    | next=>obtain ⟨σ7,H7,I7,n7⟩:=q7; exact again I7 n7
    | cont=>obtain ⟨σ7,H7,I7,n7⟩:=q7; exact again I7 n7
    | brk=>obtain ⟨σ7,H7,I7,q7⟩:=q7; exact ⟨σ7,H7,I7.unpinned,q7⟩
    | ret v=>obtain ⟨x7,σ7,H7,I7,r7,q7⟩:=q7; exact ⟨x7,σ7,H7,I7.unpinned,r7,q7⟩
end
theorem qd9 {K:PySem.W.Frag} {a:Addr} {xs:List V} {g:TG} {tb:TS} {D:Ends} {σ:St} {H:Hp} (Pv:Nat→St→Hp→Prop) (h0:Pv 0 σ H) (hl:∀ i σ H,i≤xs.length→Pv i σ H→SqL K H a xs)
    (hs:∀ i x σ H,xs[i]?=some x→Pv i σ H→g x σ H fun σ2 H2=>tb { D with nx:=Pv (i + 1),ct:=Pv (i + 1),bk:=D.nx } σ2 H2) (hd:∀ σ H,Pv xs.length σ H→D.nx σ H) :
    ∃ W:Nat→Nat→St→Hp→Prop,(∃ m,W 0 m σ H)∧∀ i m σ H,W i m σ H→
      ((Itl K a).stop i H∧D.nx σ H)∨((Itl K a).go i H∧∃ N:St→Hp→Prop,(∀ σ' H',N σ' H'→∃ m',m' < m∧W (i + 1) m' σ' H')∧∀ x H',(Itl K a).yld i H x H'→g x σ H' fun σ2 H2=>tb { D with nx:=N,ct:=N,bk:=D.nx } σ2 H2):=by
  refine ⟨fun i m σ H=>m=xs.length - i∧i≤xs.length∧Pv i σ H,⟨xs.length,by simp,Nat.zero_le _,h0⟩,?_⟩
  rintro i m σ H ⟨rfl,hi,p⟩
  have q:=hl i σ H hi p
  by_cases hlt:i < xs.length
  · refine .inr ⟨⟨xs,xs[i],q,by simp [hlt]⟩,Pv (i + 1),fun σ' H' p'=>⟨xs.length - (i + 1),by omega,rfl,hlt,p'⟩,fun x H' y=>?_⟩
    obtain ⟨e,y⟩:=y
    subst e
    exact hs i x σ _ (y xs q) p
  · have e:i=xs.length:=by omega
    subst e
    exact .inl ⟨⟨xs,q,Nat.le_refl _⟩,hd σ H p⟩
theorem qdb {lo:Int} {n:Nat} {g:TG} {tb:TS} {D:Ends} {σ:St} {H:Hp} (Pv:Nat→St→Hp→Prop) (h0:Pv 0 σ H)
    (hs:∀ i σ H,i < n→Pv i σ H→g (.int (lo + i)) σ H fun σ2 H2=>tb { D with nx:=Pv (i + 1),ct:=Pv (i + 1),bk:=D.nx } σ2 H2) (hd:∀ σ H,Pv n σ H→D.nx σ H) :
    ∃ W:Nat→Nat→St→Hp→Prop,(∃ m,W 0 m σ H)∧∀ i m σ H,W i m σ H→
      ((Itr lo n).stop i H∧D.nx σ H)∨((Itr lo n).go i H∧∃ N:St→Hp→Prop,(∀ σ' H',N σ' H'→∃ m',m' < m∧W (i + 1) m' σ' H')∧∀ x H',(Itr lo n).yld i H x H'→g x σ H' fun σ2 H2=>tb { D with nx:=N,ct:=N,bk:=D.nx } σ2 H2):=by
  refine ⟨fun i m σ H=>m=n - i∧i≤n∧Pv i σ H,⟨n,by simp,Nat.zero_le _,h0⟩,?_⟩
  rintro i m σ H ⟨rfl,hi,p⟩
  by_cases hlt:i < n
  · refine .inr ⟨hlt,Pv (i + 1),fun σ' H' p'=>⟨n - (i + 1),by omega,rfl,hlt,p'⟩,fun x H' y=>?_⟩
    obtain ⟨e,y⟩:=y
    subst e y
    exact hs i σ _ hlt p
  · have e:i=n:=by omega
    subst e
    exact .inl ⟨Nat.le_refl _,hd σ H p⟩
end L2
namespace L2
open PySem PySem.Spec PyProof.Rows
abbrev R2:=V→V→Hp→VK→Prop
def OpR (X:Cx) (f:Value→Value→Sem Value) (r:R2):Prop:=
  ∀ (pins:List (Addr×Obj)) (s:Shared) (σ:St) (H:Hp) (x y:V) (v u:Value) (Q:VK),Inv X pins σ H s→RelV x v→RelV y u→r x y H Q→
    wpAny (model X.prog X.w) X.A (f v u) (EP X pins σ Q) X.xe s
def UnR (X:Cx) (f:Value→Sem Value) (r:V→Hp→VK→Prop):Prop:=
  ∀ (pins:List (Addr×Obj)) (s:Shared) (σ:St) (H:Hp) (x:V) (v:Value) (Q:VK),Inv X pins σ H s→RelV x v→r x H Q→
    wpAny (model X.prog X.w) X.A (f v) (EP X pins σ Q) X.xe s
def ycc (X:Cx) (f:Value) (r:List V→Hp→VK→Prop):Prop:=
  ∀ (pins:List (Addr×Obj)) (s:Shared) (σ:St) (H:Hp) (xs:List V) (us:List Value) (Q:VK),Inv X pins σ H s→Vals xs us→r xs H Q→
    wpAny (model X.prog X.w) X.A (call f us) (EP X pins σ Q) X.xe s
def tOp (r:R2) (ta tb:TE):TE:=fun σ H Q=>ta σ H fun x H1=>tb σ H1 fun y H2=>r x y H2 Q
def tUn (r:V→Hp→VK→Prop) (ta:TE):TE:=fun σ H Q=>ta σ H fun x H1=>r x H1 Q
def rI (C:Int→Int→Prop) (g:Int→Int→V):R2:=fun x y H Q=>∃ i j,x=.int i∧y=.int j∧C i j∧Q (g i j) H
def rI0 (g:Int→Int→V):R2:=fun x y H Q=>∃ i j,x=.int i∧y=.int j∧Q (g i j) H
def rU (g:Int→V):V→Hp→VK→Prop:=fun x H Q=>∃ i,x=.int i∧Q (g i) H
section
variable {X:Cx} {a b c:Expr} {ta tb tc:TE} {pos:Pos}
theorem binT (ha:PE X a ta) (hb:PE X b tb) {pins:List (Addr×Obj)} {s:Shared} {σ:St} {H:Hp} {R:V→V→Hp→Prop} (I:Inv X pins σ H s)
    (h:ta σ H fun x H1=>tb σ H1 fun y H2=>R x y H2) {Q:Value→Shared→Prop} {f:Value→Value→Sem Value}
    (hf:∀ v u s2 x y H2,Inv X pins σ H2 s2→RelV x v→RelV y u→R x y H2→wpAny (model X.prog X.w) X.A (f v u) Q X.xe s2) :
    wpAny (model X.prog X.w) X.A (eval a X.env) (fun v s₁=>wpAny (model X.prog X.w) X.A (eval b X.env) (fun u s₂=>wpAny (model X.prog X.w) X.A (f v u) Q X.xe s₂) X.xe s₁) X.xe s:=by
  refine thn (ha pins s σ H _ I h) fun v s1 ⟨x,H1,I1,r1,q1⟩=>?_
  refine thn (hb pins s1 σ H1 _ I1 q1) fun u s2 ⟨y,H2,I2,r2,q2⟩=>?_
  exact hf v u s2 x y H2 I2 r1 r2 q2
theorem ya9 {op:Operator} {r:R2} (ho:OpR X (binaryOp op) r) (ha:PE X a ta) (hb:PE X b tb):PE X (.BinOp a op b pos) (tOp r ta tb):=by
  intro pins s σ H Q I h
  exact wpAny_BinOp (binT ha hb I h fun v u s2 x y H2 I2 rx ry q=>ho pins s2 σ H2 x y v u Q I2 rx ry q)
theorem pe_un {op:UnaryOp} {r:V→Hp→VK→Prop} (ho:UnR X (unaryOp op) r) (ha:PE X a ta):PE X (.UnaryOp op a pos) (tUn r ta):=by
  intro pins s σ H Q I h
  exact UnaryOp_ (thn (ha pins s σ H _ I h) fun v s1 ⟨x,H1,I1,r1,q1⟩=>ho pins s1 σ H1 x v Q I1 r1 q1)
theorem opI {f:Value→Value→Sem Value} {C:Int→Int→Prop} {g:Int→Int→Int}
    (rule:∀ (i j:Int) (t u:Tok) (s:Shared) (Q:Value→Shared→Prop) (E:Value→Shared→Prop),C i j→Q (.int (g i j) s.toks) { s with toks:=s.toks + 1 }→wpAny (model X.prog X.w) X.A (f (.int i t) (.int j u)) Q E s) :
    OpR X f (rI C fun i j=>.int (g i j)):=by
  intro pins s σ H x y v u Q I rx ry h
  obtain ⟨i,j,rfl,rfl,hc,q⟩:=h
  obtain ⟨t,rfl⟩:=rx
  obtain ⟨t',rfl⟩:=ry
  exact rule i j t t' s _ _ hc ⟨.int (g i j),H,I.tok _,⟨_,rfl⟩,q⟩
theorem opI0 {f:Value→Value→Sem Value} {g:Int→Int→Int}
    (rule:∀ (i j:Int) (t u:Tok) (s:Shared) (Q:Value→Shared→Prop) (E:Value→Shared→Prop),Q (.int (g i j) s.toks) { s with toks:=s.toks + 1 }→wpAny (model X.prog X.w) X.A (f (.int i t) (.int j u)) Q E s) :
    OpR X f (rI0 fun i j=>.int (g i j)):=by
  intro pins s σ H x y v u Q I rx ry h
  obtain ⟨i,j,rfl,rfl,q⟩:=h
  obtain ⟨t,rfl⟩:=rx
  obtain ⟨t',rfl⟩:=ry
  exact rule i j t t' s _ _ ⟨.int (g i j),H,I.tok _,⟨_,rfl⟩,q⟩
theorem opB0 {f:Value→Value→Sem Value} {g:Int→Int→Bool}
    (rule:∀ (i j:Int) (t u:Tok) (s:Shared) (Q:Value→Shared→Prop) (E:Value→Shared→Prop),Q (.bool (g i j)) s→wpAny (model X.prog X.w) X.A (f (.int i t) (.int j u)) Q E s) :
    OpR X f (rI0 fun i j=>.bl (g i j)):=by
  intro pins s σ H x y v u Q I rx ry h
  obtain ⟨i,j,rfl,rfl,q⟩:=h
  obtain ⟨t,rfl⟩:=rx
  obtain ⟨t',rfl⟩:=ry
  exact rule i j t t' s _ _ ⟨.bl (g i j),H,I,rfl,q⟩
def CDiv (i j:Int):Prop:=0 < j∧j < 1073741824
def CPow (i j:Int):Prop:=0≤j∧j≤1000000∧i.natAbs < 2 ^ 64
def CMul (i j:Int):Prop:=(-(2 ^ 64) < i∧i < 2 ^ 64)∨(-(2 ^ 64) < j∧j < 2 ^ 64)
theorem CMul.ok {i j:Int} (h:CMul i j):IntMulOk i j:=by
  rcases h with ⟨h1,h2⟩ | ⟨h1,h2⟩
  · exact .of_left (intBits_le_64 h1 h2)
  · exact .of_right (intBits_le_64 h1 h2)
theorem qbv:OpR X (binaryOp .Add) (rI0 fun i j=>.int (i + j)):=opI0 fun _ _ _ _ _ _ _ q=>add_int q
theorem yg3:OpR X (binaryOp .Sub) (rI0 fun i j=>.int (i - j)):=opI0 fun _ _ _ _ _ _ _ q=>sub_int q
theorem qg1:OpR X (binaryOp .Mult) (rI CMul fun i j=>.int (i * j)):=opI fun _ _ _ _ _ _ _ hc q=>mul_int q hc.ok
theorem yjc:OpR X (binaryOp .FloorDiv) (rI CDiv fun i j=>.int (i / j)):=opI fun i j _ _ _ _ _ hc q=>by
  have h1:(0:Int) < j:=hc.1
  have h2:j < 1073741824:=hc.2
  exact floordiv_int (by omega) (by rw [Int.fdiv_eq_ediv_of_nonneg i (by omega)]; exact q) (.inl (PyProof.noPylong_small (by omega)))
theorem qc4:OpR X (binaryOp .Mod) (rI (fun _ j=>0 < j) fun i j=>.int (i % j)):=opI fun i j _ _ _ _ _ hc q=>by
  have h1:(0:Int) < j:=hc
  exact mod_int' (by omega) (by rw [Int.fmod_eq_emod_of_nonneg i (by omega)]; exact q)
theorem yh3:OpR X (binaryOp .Pow) (rI CPow fun i j=>.int (i ^ j.toNat)):=opI fun _ _ _ _ _ _ _ hc q=>pow_int_small hc.1 hc.2.1 hc.2.2 q
theorem unI {f:Value→Sem Value} {g:Int→Int}
    (rule:∀ (i:Int) (t:Tok) (s:Shared) (Q:Value→Shared→Prop) (E:Value→Shared→Prop),Q (.int (g i) s.toks) { s with toks:=s.toks + 1 }→wpAny (model X.prog X.w) X.A (f (.int i t)) Q E s) :
    UnR X f (rU fun i=>.int (g i)):=by
  intro pins s σ H x v Q I rx h
  obtain ⟨i,rfl,q⟩:=h
  obtain ⟨t,rfl⟩:=rx
  exact rule i t s _ _ ⟨.int (g i),H,I.tok _,⟨_,rfl⟩,q⟩
theorem qiv:UnR X (unaryOp .USub) (rU fun i=>.int (-i)):=unI fun _ _ _ _ _ q=>neg_int q
end
def scal:V→V→Bool
  | .non,.non=>true | .non,.int _=>true | .int _,.non=>true | .non,.bl _=>true | .bl _,.non=>true | .non,.str _=>true | .str _,.non=>true
  | .int _,.int _=>true | .bl _,.bl _=>true | .str _,.str _=>true | .byt _,.byt _=>true
  | .int _,.str _=>true | .str _,.int _=>true | .bl _,.str _=>true | .str _,.bl _=>true
  | _,_=>false
def rEq:R2:=fun x y H Q=>scal x y=true∧Q (.bl (decide (x=y))) H
def rNe:R2:=fun x y H Q=>scal x y=true∧Q (.bl (!decide (x=y))) H
theorem qip {i j:Int}:decide (V.int i=V.int j)=(i == j):=by
  rw [Bool.eq_iff_iff]
  simp
theorem dec_bl {i j:Bool}:decide (V.bl i=V.bl j)=(i == j):=by
  rw [Bool.eq_iff_iff]
  simp
theorem yib {i j:Str}:decide (V.str i=V.str j)=(i == j):=by
  rw [Bool.eq_iff_iff]
  simp
theorem qir {i j:Array UInt8}:decide (V.byt i=V.byt j)=(i.toList == j.toList):=by
  rw [Bool.eq_iff_iff]
  cases i
  cases j
  simp
section
variable {X:Cx} {a b c:Expr} {ta tb tc:TE} {pos:Pos}
theorem qaz {pins:List (Addr×Obj)} {σ:St} {H:Hp} {s:Shared} {Q:VK} {k k':Bool} (I:Inv X pins σ H s) (q:Q (.bl k) H) (e:k=k'):EP X pins σ Q (.bool k') s:=by
  subst e
  exact ⟨.bl k,H,I,rfl,q⟩
theorem qbz:OpR X (compareOp .Eq) rEq:=by
  intro pins s σ H x y v u Q I rx ry h
  obtain ⟨hs,q⟩:=h
  cases x with
  | non=>
    cases rx
    cases y with
    | non=>cases ry; exact PySem.EqNone.eq_none_none (qaz I q (by simp))
    | bl j=>cases ry; exact PySem.EqNone.eq_none_bool (qaz I q (by simp))
    | int j=>obtain ⟨t',rfl⟩:=ry; exact PySem.EqNone.eq_none_int (qaz I q (by simp))
    | str j=>obtain ⟨t',rfl⟩:=ry; exact PySem.EqNone.eq_none_str (qaz I q (by simp))
    | _=>exact absurd (show false=true from hs) Bool.false_ne_true
  | bl i=>
    cases rx
    cases y with
    | non=>cases ry; exact PySem.EqNone.eq_bool_none (qaz I q (by simp))
    | bl j=>cases ry; exact eq_bool (qaz I q dec_bl)
    | str j=>obtain ⟨t',rfl⟩:=ry; exact PySem.EqMixed.eq_bool_str (qaz I q (by simp))
    | _=>exact absurd (show false=true from hs) Bool.false_ne_true
  | int i=>
    obtain ⟨t,rfl⟩:=rx
    cases y with
    | non=>cases ry; exact PySem.EqNone.eq_int_none (qaz I q (by simp))
    | int j=>obtain ⟨t',rfl⟩:=ry; exact eq_int (qaz I q qip)
    | str j=>obtain ⟨t',rfl⟩:=ry; exact PySem.EqMixed.eq_int_str (qaz I q (by simp))
    | _=>exact absurd (show false=true from hs) Bool.false_ne_true
  | str i=>
    obtain ⟨t,rfl⟩:=rx
    cases y with
    | non=>cases ry; exact PySem.EqNone.eq_str_none (qaz I q (by simp))
    | bl j=>cases ry; exact PySem.EqMixed.eq_str_bool (qaz I q (by simp))
    | int j=>obtain ⟨t',rfl⟩:=ry; exact PySem.EqMixed.eq_str_int (qaz I q (by simp))
    | str j=>obtain ⟨t',rfl⟩:=ry; exact eq_str (qaz I q yib)
    | _=>exact absurd (show false=true from hs) Bool.false_ne_true
  | byt i=>
    obtain ⟨t,rfl⟩:=rx
    cases y with
    | byt j=>obtain ⟨t',rfl⟩:=ry; exact PySem.W.eq_bytes (qaz I q qir)
    | _=>exact absurd (show false=true from hs) Bool.false_ne_true
  | _=>cases y <;> exact absurd (show false=true from hs) Bool.false_ne_true
theorem yik:OpR X (compareOp .NotEq) rNe:=by
  intro pins s σ H x y v u Q I rx ry h
  obtain ⟨hs,q⟩:=h
  cases x with
  | non=>
    cases rx
    cases y with
    | non=>cases ry; exact PySem.EqNone.ne_none_none (qaz I q (by simp))
    | bl j=>cases ry; exact PySem.EqNone.ne_none_bool (qaz I q (by simp))
    | int j=>obtain ⟨t',rfl⟩:=ry; exact PySem.EqNone.ne_none_int (qaz I q (by simp))
    | str j=>obtain ⟨t',rfl⟩:=ry; exact PySem.EqNone.ne_none_str (qaz I q (by simp))
    | _=>exact absurd (show false=true from hs) Bool.false_ne_true
  | bl i=>
    cases rx
    cases y with
    | non=>cases ry; exact PySem.EqNone.ne_bool_none (qaz I q (by simp))
    | bl j=>cases ry; exact ne_bool (qaz I q (congrArg not dec_bl))
    | str j=>obtain ⟨t',rfl⟩:=ry; exact PySem.EqMixed.ne_bool_str (qaz I q (by simp))
    | _=>exact absurd (show false=true from hs) Bool.false_ne_true
  | int i=>
    obtain ⟨t,rfl⟩:=rx
    cases y with
    | non=>cases ry; exact PySem.EqNone.ne_int_none (qaz I q (by simp))
    | int j=>obtain ⟨t',rfl⟩:=ry; exact ne_int (qaz I q (congrArg not qip))
    | str j=>obtain ⟨t',rfl⟩:=ry; exact PySem.EqMixed.ne_int_str (qaz I q (by simp))
    | _=>exact absurd (show false=true from hs) Bool.false_ne_true
  | str i=>
    obtain ⟨t,rfl⟩:=rx
    cases y with
    | non=>cases ry; exact PySem.EqNone.ne_str_none (qaz I q (by simp))
    | bl j=>cases ry; exact PySem.EqMixed.ne_str_bool (qaz I q (by simp))
    | int j=>obtain ⟨t',rfl⟩:=ry; exact PySem.EqMixed.ne_str_int (qaz I q (by simp))
    | str j=>obtain ⟨t',rfl⟩:=ry; exact ne_str (qaz I q (congrArg not yib))
    | _=>exact absurd (show false=true from hs) Bool.false_ne_true
  | byt i=>
    obtain ⟨t,rfl⟩:=rx
    cases y with
    | byt j=>obtain ⟨t',rfl⟩:=ry; exact PySem.W.ne_bytes (qaz I q (congrArg not qir))
    | _=>exact absurd (show false=true from hs) Bool.false_ne_true
  | _=>cases y <;> exact absurd (show false=true from hs) Bool.false_ne_true
theorem op_lt:OpR X (compareOp .Lt) (rI0 fun i j=>.bl (decide (i < j))):=opB0 fun _ _ _ _ _ _ _ q=>lt_int q
theorem yfo:OpR X (compareOp .Gt) (rI0 fun i j=>.bl (decide (j < i))):=opB0 fun _ _ _ _ _ _ _ q=>gt_int q
theorem op_ge:OpR X (compareOp .GtE) (rI0 fun i j=>.bl (decide (j≤i))):=opB0 fun _ _ _ _ _ _ _ q=>ge_int q
theorem yak (b:Expr) {op:CmpOp} (h:op≠.In:=by decide) (h2:op≠.NotIn:=by decide):behindInMarks op b=false:=by
  have e1:(op == CmpOp.In)=false:=by cases op <;> first | rfl | exact absurd rfl h
  have e2:(op == CmpOp.NotIn)=false:=by cases op <;> first | rfl | exact absurd rfl h2
  cases b <;> simp [behindInMarks,e1,e2]
theorem yaz {op:CmpOp} {r:R2} (ho:OpR X (compareOp op) r) (ha:PE X a ta) (hb:PE X b tb) (hm:behindInMarks op b=false):PE X (.Compare a [op] [b] pos) (tOp r ta tb):=by
  intro pins s σ H Q I h
  exact wpAny_Compare1 (binT ha hb I h fun v u s2 x y H2 I2 rx ry q=>ho pins s2 σ H2 x y v u Q I2 rx ry q) hm
def tTest (t:TE):TT:=fun σ H Q=>t σ H fun x H'=>∃ k,x=.bl k∧Q k H'
theorem qbf {op:CmpOp} {r:R2} (ho:OpR X (compareOp op) r) (ha:PE X a ta) (hb:PE X b tb) (hm:behindInMarks op b=false):PT X (.Compare a [op] [b] pos) (tTest (tOp r ta tb)):=by
  intro pins s σ H Q I h
  refine wpAny_isTrue_Compare1 (thn (ha pins s σ H _ I h) fun v s1 ⟨x,H1,I1,r1,q1⟩=>thn (hb pins s1 σ H1 _ I1 q1) fun u s2 ⟨y,H2,I2,r2,q2⟩=>
    thn (ho pins s2 σ H2 x y v u _ I2 r1 r2 q2) fun c s3 ⟨z,H3,I3,r3,k,e,q3⟩=>?_) hm
  subst e
  cases r3
  exact wpAny_truthy_bool ⟨H3,I3,q3⟩
theorem qe5:(sizeLine:Nat) < 2 ^ 63:=by rw [sizeLine_eq]; decide
theorem yfx {x:V} {us:List Value} (r:Vals [x] us):∃ u,us=[u]∧RelV x u:=by
  cases r with
  | cons r1 r2=>cases r2; exact ⟨_,rfl,r1⟩
theorem vals2 {x y:V} {us:List Value} (r:Vals [x,y] us):∃ u w',us=[u,w']∧RelV x u∧RelV y w':=by
  cases r with
  | cons r1 r2=>
    cases r2 with
    | cons r3 r4=>cases r4; exact ⟨_,_,rfl,r1,r3⟩
theorem call_abs:ycc X (.builtin "abs") (fun xs H Q=>∃ i,xs=[.int i]∧Q (.int (if i < 0 then -i else i)) H):=by
  intro pins s σ H xs us Q I r h
  obtain ⟨i,rfl,q⟩:=h
  obtain ⟨u,rfl,t,rfl⟩:=yfx r
  exact call_abs_int fun u tk=>⟨.int (if i < 0 then -i else i),H,I.tok _,⟨_,rfl⟩,q⟩
theorem qi0 (hc:X.calm=true):ycc X (.builtin "max") (fun xs H Q=>∃ i j,xs=[.int i,.int j]∧Q (.int (if j > i then j else i)) H):=by
  intro pins s σ H xs us Q I r h
  obtain ⟨i,j,rfl,q⟩:=h
  obtain ⟨u,w',rfl,⟨t,rfl⟩,⟨t',rfl⟩⟩:=vals2 r
  refine max_two_ints (I.ok.hd hc) fun h' tk k=>⟨_,H,I.kept k,?_,q⟩
  by_cases hj:j > i
  · rw [if_pos hj,if_pos hj]; exact ⟨_,rfl⟩
  · rw [if_neg hj,if_neg hj]; exact ⟨_,rfl⟩
theorem yeg:ycc X (.type "int") (fun xs H Q=>(∃ i,xs=[.int i]∧Q (.int i) H)∨∃ k,xs=[.bl k]∧Q (.int (if k then 1 else 0)) H):=by
  intro pins s σ H xs us Q I r h
  rcases h with ⟨i,rfl,q⟩ | ⟨k,rfl,q⟩
  · obtain ⟨u,rfl,t,rfl⟩:=yfx r
    exact call_int_int ⟨.int i,H,I,⟨_,rfl⟩,q⟩
  · obtain ⟨u,rfl,r1⟩:=yfx r
    cases r1
    exact call_int_bool ⟨.int (if k then 1 else 0),H,I.tok _,⟨_,rfl⟩,q⟩
end
end L2
namespace L2
open PySem PySem.Spec PyProof.Rows
structure ObjM (h:Heap) (x dx C:Addr) (mA:Str→Option Value):Prop where
  obj:h.get? x=some (PySem.W.instObj C dx)
  ns:h.Ns1 dx mA
  ne:dx≠x
theorem qh0 {h:Heap} {dx:Addr} {mA:Str→Option Value} (n:h.Ns1 dx mA):∃ od,h.get? dx=some od∧∀ name,PySem.W.lookIn name od=some (mA name):=by
  obtain ⟨o,es,ep,ho,hd,hk,_,hm⟩:=n
  refine ⟨o,ho,fun name=>?_⟩
  have e:=hm name
  unfold nsFind findBy at e
  rw [← Array.find?_toList] at e
  unfold PySem.W.lookIn
  rw [hd]
  dsimp only
  split
  · rename_i y q
    rw [q] at e
    exact congrArg some e
  · rename_i q
    rw [q] at e
    have a:es.toList.any (·.refKey)=false:=by
      rw [List.any_eq_false]
      intro y hy
      obtain ⟨z,t,hkey⟩:=hk y (Array.mem_toList_iff.mp hy)
      simp [DictEntry.refKey,hkey]
    have a':¬ es.toList.any (·.refKey)=true:=by rw [a]; exact Bool.false_ne_true
    rw [if_neg a']
    exact congrArg some e
theorem ObjM.look {h:Heap} {x dx C:Addr} {mA:Str→Option Value} (I:ObjM h x dx C mA):∃ od,PySem.W.InstAt h x (PySem.W.instObj C dx) C (some od)∧∀ name,PySem.W.lookIn name od=some (mA name):=
  let ⟨od,ho,hl⟩:=qh0 I.ns
  ⟨od,⟨I.obj,rfl,rfl,ho⟩,hl⟩
def putF (f:Str) (v:V):List (Str×V)→List (Str×V)
  | []=>[(f,v)]
  | (g,x) :: r=>if g=f then (g,v) :: r else (g,x) :: putF f v r
theorem yef (f g:Str) (v:V):∀ fs:List (Str×V),(putF f v fs).lookup g=if g=f then some v else fs.lookup g
  | []=>by
    show List.lookup g [(f,v)]=_
    by_cases h:g=f
    · have hb:(g == f)=true:=beq_iff_eq.mpr h
      simp only [List.lookup,hb,if_pos h]
    · have hb:(g == f)=false:=beq_eq_false_iff_ne.mpr h
      simp only [List.lookup,hb,if_neg h]
  | (k,x) :: r=>by
    have ih:=yef f g v r
    rw [show putF f v ((k,x) :: r)=(if k=f then (k,v) :: r else (k,x) :: putF f v r) from rfl]
    by_cases hk:k=f
    · rw [if_pos hk]
      by_cases h:g=k
      · have hb:(g == k)=true:=beq_iff_eq.mpr h
        simp only [List.lookup,hb,if_pos (h.trans hk)]
      · have hb:(g == k)=false:=beq_eq_false_iff_ne.mpr h
        simp only [List.lookup,hb,if_neg (fun e:g=f=>h (e.trans hk.symm))]
    · rw [if_neg hk]
      by_cases h:g=k
      · have hb:(g == k)=true:=beq_iff_eq.mpr h
        simp only [List.lookup,hb,if_neg (fun e:g=f=>hk (h.symm.trans e))]
      · have hb:(g == k)=false:=beq_eq_false_iff_ne.mpr h
        simp only [List.lookup,hb]
        exact ih
theorem yea (f:Str) (v:V):∀ fs:List (Str×V),f∈(putF f v fs).map (·.1)∧∀ g,g∈fs.map (·.1)→g∈(putF f v fs).map (·.1)
  | []=>⟨by simp [putF],fun g h=>by simp at h⟩
  | (k,x) :: r=>by
    obtain ⟨i1,i2⟩:=yea f v r
    rw [show putF f v ((k,x) :: r)=(if k=f then (k,v) :: r else (k,x) :: putF f v r) from rfl]
    by_cases hk:k=f
    · rw [if_pos hk]
      subst hk
      exact ⟨by simp,fun g h=>by simpa using h⟩
    · rw [if_neg hk]
      refine ⟨?_,fun g h=>?_⟩
      · rw [List.map_cons]
        exact List.mem_cons_of_mem _ i1
      · rw [List.map_cons] at h ⊢
        rcases List.mem_cons.mp h with e | e
        · exact List.mem_cons.mpr (.inl e)
        · exact List.mem_cons_of_mem _ (i2 g e)
theorem qea (f:Str) (v:V):∀ fs:List (Str×V),(putF f v fs).length≤fs.length + 1
  | []=>by simp [putF]
  | (k,x) :: r=>by
    have ih:=qea f v r
    rw [show putF f v ((k,x) :: r)=(if k=f then (k,v) :: r else (k,x) :: putF f v r) from rfl]
    by_cases hk:k=f
    · rw [if_pos hk,List.length_cons,List.length_cons]; omega
    · rw [if_neg hk,List.length_cons,List.length_cons]; omega
theorem RelO.some_of {v:V} {o:Option Value} (r:RelO (some v) o):∃ u,o=some u∧RelV v u:=by
  cases o with
  | none=>exact (show False from r).elim
  | some u=>exact ⟨u,rfl,r⟩
theorem qif {v:V} {u:Value} (r:RelV v u):PySem.W.handedIn u=true:=by
  cases v with
  | non=>cases (show u=Value.none from r); rfl
  | bl b=>cases (show u=Value.bool b from r); rfl
  | int i=>obtain ⟨t,e⟩:=(show ∃ t,u=Value.int i t from r); cases e; rfl
  | str x=>obtain ⟨t,e⟩:=(show ∃ t,u=Value.str x t from r); cases e; rfl
  | byt b=>obtain ⟨t,e⟩:=(show ∃ t,u=Value.bytes b t from r); cases e; rfl
  | flt b=>obtain ⟨t,e⟩:=(show ∃ t,u=Value.float b t from r); cases e; rfl
  | ref a=>cases (show u=Value.ref a from r); rfl
  | ty n=>cases (show u=Value.type n from r); rfl
section
variable {P:Program} {w:World} {H H':Hp} {h h':Heap} {a C dx:Addr} {fs fs':List (Str×V)}
theorem ins_get (hok:HOk P w H h) (e:H a=some (.ins C dx fs)):∃ mA,ObjM h a dx C mA∧(∀ f,RelO (fs.lookup f) (mA f))∧PySem.Within mA (fs.map (·.1))∧fs.length≤1000∧H dx=some (.own a):=by
  obtain ⟨d,z,ne,ob,mA,n,r,q⟩:=(show ya4 P w H h a (.ins C dx fs) from hok a _ e)
  exact ⟨mA,⟨ob,n,ne⟩,r,q,z,d⟩
end
structure Cls (K:PySem.W.Frag) (C:Addr):Prop where
  pg:PySem.W.plainGet K C Str.empty=true
  hd:PySem.W.hasDictIn K C=true
  po:PySem.W.plainOver K C=true
  sa:PySem.W.findIn K (.ref C) "__setattr__" = some (some (.builtin "object.__setattr__"))
theorem Cls.get {K:PySem.W.Frag} {C:Addr} (c:Cls K C) (f:Str):PySem.W.plainGet K C f=true:=c.pg
section
variable {X:Cx} {pins:List (Addr×Obj)} {σ:St} {H:Hp} {s:Shared} {a C dx:Addr} {fs:List (Str×V)} {f:Str} {v:V} {A:Around} {E:Value→Shared→Prop}
theorem attr_of {prog:Program} {w:World} {env:Env} {e:Expr} {f:Str} {pos:Pos} {s:Shared} {Q:Value→Shared→Prop} (hb:attributeBase e f env (eval e env)=eval e env)
    (h:wpAny (model prog w) A (eval e env) (fun o s₁=>wpAny (model prog w) A (getAttr o f true) Q E s₁) E s):wpAny (model prog w) A (eval (.Attribute e f pos) env) Q E s:=
  Attribute_any_ h (by rw [arm_eval_Attribute,hb])
end
section
variable {X:Cx} {pins:List (Addr×Obj)} {σ:St} {H:Hp} {s:Shared} {A:Around} {E:Value→Shared→Prop} {Q:Value→Shared→Prop} {c:Value} {b:Bool}
inductive TyOf (K:PySem.W.Frag) (H:Hp):V→Value→Prop where
  | non:TyOf K H .non (.type "NoneType")
  | bl (x:Bool):TyOf K H (.bl x) (.type "bool")
  | int (i:Int):TyOf K H (.int i) (.type "int")
  | str (x:Str):TyOf K H (.str x) (.type "str")
  | flt (x:UInt64):TyOf K H (.flt x) (.type "float")
  | lst {a:Addr} {xs:List V} (e:H a=some (.lst xs)):TyOf K H (.ref a) (.type "list")
  | frz {a:Addr} {o:Obj} {xs:List V} (e:H a=some (.frz o (.lst xs))):TyOf K H (.ref a) (.type "list")
  | tup {a:Addr} {xs:List V} (e:H a=some (.tup xs)):TyOf K H (.ref a) (.type "tuple")
  | dK {a:Addr} {kvs:List (Key×V)} (e:H a=some (.dK kvs)):TyOf K H (.ref a) (.type "dict")
  | dT {a:Addr} {kvs:List (List Key×V)} (e:H a=some (.dT kvs)):TyOf K H (.ref a) (.type "dict")
  | ins {a C dx:Addr} {fs:List (Str×V)} (e:H a=some (.ins C dx fs)) (cl:Cls K C) (ha:PySem.W.findIn K (.ref C) "__class__" = some (some (.builtin "object.__class__")))
      (hn:PySem.W.specialIn K (.builtin "object.__class__") "__get__" = some (some (.builtin "getset_descriptor.__get__"))) (htk:PySem.W.takesIn K (.builtin "object.__class__")=some true)
      (hm:PySem.W.mroIn K C (.type "object")=some true):TyOf K H (.ref a) (.ref C)
theorem qiu {x:V} {u t:Value} (I:Inv X pins σ H s) (rx:RelV x u) (ty:TyOf X.K H x t) (e:PySem.W.kitOne X.K t c=some b) (h:∀ tk,Q (.bool b) { s with toks:=tk }) :
    wpAny (model X.prog X.w) A (call (.builtin "isinstance") [u,c]) Q E s:=by
  cases ty with
  | non=>cases (show u=Value.none from rx); exact PySem.W.kia_one PySem.W.kitx_none I.kIn True.intro e (fun z=>nomatch z) h
  | bl y=>cases (show u=Value.bool y from rx); exact PySem.W.kia_one PySem.W.kitx_bool I.kIn True.intro e (fun z=>nomatch z) h
  | int i=>obtain ⟨t,q⟩:=(show ∃ t,u=Value.int i t from rx); cases q; exact PySem.W.kia_one PySem.W.kitx_int I.kIn True.intro e (fun z=>nomatch z) h
  | str y=>obtain ⟨t,q⟩:=(show ∃ t,u=Value.str y t from rx); cases q; exact PySem.W.kia_one PySem.W.kitx_str I.kIn True.intro e (fun z=>nomatch z) h
  | flt y=>obtain ⟨t,q⟩:=(show ∃ t,u=Value.float y t from rx); cases q; exact PySem.W.kia_one PySem.W.kitx_float I.kIn True.intro e (fun z=>nomatch z) h
  | @lst a xs ea=>
    cases (show u=Value.ref a from rx)
    obtain ⟨_,_,n,_,h1⟩:=(show ya4 X.prog X.w H s.heap a (.lst xs) from I.hok a _ ea)
    exact PySem.W.kia_one PySem.W.kitx_list I.kIn ⟨_,h1,rfl⟩ e (fun z=>nomatch z) h
  | @frz a ob xs ea=>
    cases (show u=Value.ref a from rx)
    obtain ⟨_,_,_,n,_,h1⟩:=(show ya4 X.prog X.w H s.heap a (.frz ob (.lst xs)) from I.hok a _ ea)
    exact PySem.W.kia_one PySem.W.kitx_list I.kIn ⟨_,h1,rfl⟩ e (fun z=>nomatch z) h
  | @tup a xs ea=>
    cases (show u=Value.ref a from rx)
    obtain ⟨_,_,_,p⟩:=(show ya4 X.prog X.w H s.heap a (.tup xs) from I.hok a _ ea)
    obtain ⟨o,h1,h2,_⟩:=p
    exact PySem.W.kia_one PySem.W.kitx_tuple I.kIn ⟨o,h1,h2⟩ e (fun z=>nomatch z) h
  | @dK a kvs ea=>
    cases (show u=Value.ref a from rx)
    obtain ⟨_,_,vs,_,p⟩:=(show ya4 X.prog X.w H s.heap a (.dK kvs) from I.hok a _ ea)
    obtain ⟨o,es,ep,h1,h2,_⟩:=p
    exact PySem.W.kia_one PySem.W.kitx_dict I.kIn ⟨o,h1,h2.1⟩ e (fun z=>nomatch z) h
  | @dT a kvs ea=>
    cases (show u=Value.ref a from rx)
    obtain ⟨_,_,xs,_,o,es,ep,h1,h2,_⟩:=(show ya4 X.prog X.w H s.heap a (.dT kvs) from I.hok a _ ea)
    exact PySem.W.kia_one PySem.W.kitx_dict I.kIn ⟨o,h1,h2.1⟩ e (fun z=>nomatch z) h
  | @ins a C dx fs ea cl ha hn htk hm=>
    cases (show u=Value.ref a from rx)
    obtain ⟨mA,O,_⟩:=ins_get I.hok ea
    obtain ⟨od,J,_⟩:=O.look
    exact PySem.W.kia_one (PySem.W.kitx_own (cl.get _) cl.hd ha hn htk hm) I.kIn J e (fun z=>nomatch z) h
end
end L2
namespace L2
open PySem PySem.Spec PyProof.Rows
structure Room (k:Nat) (A:Around):Prop where
  hd:A.handled=none
  dp:A.depth + 3 * k + 5 < recursionLimit
  un:A.units + 16 * k + 200 < cLine
  gd:A.guards=some []
theorem Room.mono {j k:Nat} {A:Around} (r:Room k A) (h:j≤k):Room j A:=⟨r.hd,by have:=r.dp; omega,by have:=r.un; omega,r.gd⟩
theorem Room.deeper {k:Nat} {A:Around} (r:Room (k + 1) A) (env:Env):Room k (A.deeper env):=
  ⟨r.hd,by have:=r.dp; show A.depth + 1 + 3 * k + 5 < _; omega,by have:=r.un; show A.units + 3 + 16 * k + 200 < _; omega,r.gd⟩
theorem qhu {A:Around} {C:Addr} {us:List Value} {kw:List (Str×Value)}:(A.under (.builtin "type.__call__" ⟨.ref C :: us,kw⟩)).depth=A.depth + 1:=by
  first | rfl | simp [Around.under,Code.weight,Code.isCreation,Code.isGuard,Code.isCaller,Code.frames,Code.isFrame,guardIds]
theorem yhk {A:Around} {C:Addr} {us:List Value} {kw:List (Str×Value)}:(A.under (.builtin "type.__call__" ⟨.ref C :: us,kw⟩)).units=A.units + 1:=by
  first | rfl | simp [Around.under,Code.cUnits,Code.frames,Code.isFrame]
theorem qgh {A:Around} {C:Addr} {us:List Value} {kw:List (Str×Value)}:(A.under (.builtin "type.__call__" ⟨.ref C :: us,kw⟩)).guards=A.guards:=by
  first | rfl | (unfold Around.under Code.guards; cases A.guards <;> simp [pushGuards,Code.isGuard,guardIds])
theorem Room.make {k:Nat} {A:Around} (r:Room (k + 1) A) (C:Addr) (us:List Value) (kw:List (Str×Value)):Room k (A.under (.builtin "type.__call__" ⟨.ref C :: us,kw⟩)):=
  ⟨r.hd,by have:=r.dp; rw [qhu]; omega,by have:=r.un; rw [yhk]; omega,by rw [qgh]; exact r.gd⟩
theorem Room.depth {k:Nat} {A:Around} (r:Room k A):A.depth < recursionLimit:=by have:=r.dp; omega
theorem Room.units {k:Nat} {A:Around} (r:Room k A):A.units + 64 < cLine:=by have:=r.un; omega
def tNil:TA:=fun _ H Q=>Q [] H
def qbx (ta:TE) (tr:TA):TA:=fun σ H Q=>ta σ H fun x H1=>tr σ H1 fun xs H2=>Q (x :: xs) H2
section
variable {X:Cx} {e:Expr} {es:List Expr} {te:TE} {t:TA} {pos:Pos}
theorem qac:PA X [] tNil:=fun _ _ _ _ H Q I h=>Calls.spliced_nil ⟨[],H,I,.nil,h⟩
theorem yaa (ha:PE X e te) (hr:PA X es t) (hs:starEach (e :: es) X.env=(false,eval e X.env) :: starEach es X.env:=by rfl):PA X (e :: es) (qbx te t):=by
  intro pos pins s σ H Q I h
  rw [hs]
  show wpAny _ _ (spliced ((false,eval e X.env) :: backTo pos (starEach es X.env))) _ _ s
  refine Calls.spliced_cons (thn (ha pins s σ H _ I h) fun u s1 ⟨x,H1,I1,r1,q1⟩=>?_)
  exact thn (hr pos pins s1 σ H1 _ I1 q1) fun us s2 ⟨xs,H2,I2,r2,q2⟩=>⟨x :: xs,H2,I2,.cons r1 r2,q2⟩
def tTup (t:TA):TE:=fun σ H Q=>t σ H fun xs H1=>xs.length≤sizeLine∧∀ p,H1 p=none→Q (.ref p) (upd H1 p (.tup xs))
def tLst (t:TA):TE:=fun σ H Q=>t σ H fun xs H1=>xs.length≤sizeLine∧∀ p,H1 p=none→Q (.ref p) (upd H1 p (.lst xs))
theorem yei {x1} (h:PA X es t):PE X (.Tuple es x1 pos) (tTup t):=by
  intro pins s σ H Q I hq
  refine wpAny_Tuple_spliced (thn (h pos pins s σ H _ I hq) fun us s1 ⟨xs,H1,I1,r,z,q⟩=>⟨by rw [← r.length]; exact z,?_⟩)
  have hf:H1 s1.heap.objs.size=none:=I1.hok.fresh (Nat.le_refl _)
  refine ⟨.ref s1.heap.objs.size,upd H1 s1.heap.objs.size (.tup xs),I1.laid (t':=s1.toks) (fun b u e=>Heap.get?_push_of_some _ e) (Nat.le_refl _) ?_,rfl,q _ hf⟩
  exact ⟨z,us,r,⟨_,Heap.get?_push_size _ rfl,rfl,_,rfl⟩⟩
theorem ybz (h:PA X es t):PE X (.List es pos) (tLst t):=by
  intro pins s σ H Q I hq
  refine wpAny_List_spliced (thn (h pos pins s σ H _ I hq) fun us s1 ⟨xs,H1,I1,r,z,q⟩=>⟨by rw [← r.length]; exact z,?_⟩)
  have hf:H1 s1.heap.objs.size=none:=I1.hok.fresh (Nat.le_refl _)
  refine ⟨.ref s1.heap.objs.size,upd H1 s1.heap.objs.size (.lst xs),I1.laid (t':=s1.toks) (fun b u e=>Heap.get?_push_of_some _ e) (Nat.le_refl _) ?_,rfl,q _ hf⟩
  exact ⟨z,us,0,r,Heap.get?_push_size _ rfl⟩
end
abbrev Sp:=List V→Hp→VK→XK→Prop
abbrev CXT:=List Env→Hp→Shared→XK→Value→Shared→Prop
structure Env0 (P:Program) (w:World) (K:PySem.W.Frag) (mg:Str→Option Value) (base:Heap) (A:Around) (outer:List Env) (s:Shared) (H:Hp):Prop where
  frames:A.frames=some outer
  mod:Mod K mg base
  bs:∀ b o,base.get? b=some o→s.heap.get? b=some o∧H b=none
  bsz:base.objs.size≤s.heap.objs.size
  funs:s.heap.FunFrames base outer
  frf:∀ b∈frs outer,H b=none
  hok:HOk P w H s.heap
  bare:AllBare s.gens
def CE (outer:List Env) (P:Program) (w:World) (H:Hp) (s:Shared) (Q:VK) (u:Value) (s':Shared):Prop:=
  ∃ v H',s'.os=s.os∧AllBare s'.gens∧Un (frs outer) [] H H' s.heap s'.heap∧HOk P w H' s'.heap∧RelV v u∧Q v H'
def CR (CX:CXT) (outer:List Env) (P:Program) (w:World) (H:Hp) (s:Shared) (Q:VK) (E:XK) (r:Result) (s':Shared):Prop:=
  match r with
  | .ok (.ret u)=>CE outer P w H s Q u s'
  | .ok _=>False
  | .error e=>CX outer H s E e s'
structure FnOk (P:Program) (w:World) (K:PySem.W.Frag) (mg:Str→Option Value) (base:Heap) (CX:CXT) (k:Nat) (f:Addr) (fd:FuncData) (ps:List Str) (sp:Sp):Prop where
  len:∀ vs H Q E,sp vs H Q E→vs.length=ps.length
  run:∀ (A:Around) (outer:List Env) (s:Shared) (H:Hp) (args:Args) (us:List Value) (vs:List V) (Q:VK) (E:XK),Room k A→Env0 P w K mg base A outer s H→BindsTo s fd args (ps.zip us)→Vals vs us→sp vs H Q E→
    codeAny (model P w) A (.call (.ref f) args) (CR CX outer P w H s Q E) s
theorem Env0.make {P:Program} {w:World} {K:PySem.W.Frag} {mg:Str→Option Value} {base:Heap} {A:Around} {outer:List Env} {s:Shared} {H:Hp} (e:Env0 P w K mg base A outer s H) (C:Addr) (us:List Value) (kw:List (Str×Value)) :
    Env0 P w K mg base (A.under (.builtin "type.__call__" ⟨.ref C :: us,kw⟩)) outer s H:=⟨by first | exact e.frames | (simpa [Around.under,Code.envs,Code.isFrame,pushEnvs] using e.frames),e.mod,e.bs,e.bsz,e.funs,e.frf,e.hok,e.bare⟩
section
variable {X:Cx} {pins:List (Addr×Obj)} {σ:St} {H:Hp} {s s':Shared}
theorem Inv.env0 (I:Inv X pins σ H s):Env0 X.prog X.w X.K X.mg X.base X.A X.stack s H:=
  ⟨I.ok.frames,I.ok.mod,I.bs,Nat.le_trans I.ok.bsz I.sz,I.stack,I.stkFree,I.hok,I.bare⟩
theorem Inv.after {Q:VK} {u:Value} (I:Inv X pins σ H s) (h:CE X.stack X.prog X.w H s Q u s'):EP X pins σ Q u s':=by
  obtain ⟨v,H',os,bare,un,hok,r,q⟩:=h
  obtain ⟨hh,g,d,t,os'⟩:=s'
  obtain rfl:os'=s.os:=os
  exact ⟨v,H',I.call (h':=hh) (g':=g) (d':=d) (t':=t) (ch:=[]) un hok bare (fun b z=>absurd z (by simp)),r,q⟩
end
def yhh (sp:Sp) (dvs:List V) (E:XK) (t:TA):TE:=fun σ H Q=>t σ H fun vs H1=>sp (vs++dvs) H1 Q E
def yde (K:PySem.W.Frag) (fd:FuncData) (ps:List Str) (ds:List Value):Prop:=
  ∀ (s:Shared) (us:List Value),K.In s.heap→(us++ds).length=ps.length→BindsTo s fd ⟨us,[]⟩ (ps.zip (us++ds))
theorem yde.all {K:PySem.W.Frag} {fd:FuncData} {ps:List Str} (h:∀ us:List Value,us.length=ps.length→bindArgs fd ⟨us,[]⟩=pure (ps.zip us)):yde K fd ps []:=fun s us _ hl=>by
  rw [List.append_nil] at hl ⊢
  exact .of_eq (h us hl)
def yf6 (CX:CXT) (X:Cx) (E:XK):Prop:=∀ (pins:List (Addr×Obj)) (σ:St) (H:Hp) (s:Shared) (e:Value) (s':Shared),Inv X pins σ H s→CX X.stack H s E e s'→X.xe e s'
section
variable {X:Cx} {CX:CXT} {k:Nat} {f C:Addr} {fd:FuncData} {ps:List Str} {sp:Sp} {dvs:List V} {ds:List Value} {E:XK} {x m:Str} {p pos apos:Pos} {e o:Expr} {es:List Expr} {ta:TE} {t:TA}
theorem run_fn {pins:List (Addr×Obj)} {σ:St} {H:Hp} {s:Shared} {Q:VK} {us:List Value} {vs:List V} (F:FnOk X.prog X.w X.K X.mg X.base CX k f fd ps sp) (hr:Room k X.A) (hb:yde X.K fd ps ds) (hd:Vals dvs ds) (hx:yf6 CX X E)
    (I:Inv X pins σ H s) (r:Vals vs us) (h:sp (vs++dvs) H Q E):wpAny (model X.prog X.w) X.A (call (.ref f) us) (EP X pins σ Q) X.xe s:=by
  have r2:Vals (vs++dvs) (us++ds):=r.append hd
  have hl:(us++ds).length=ps.length:=by rw [← r2.length]; exact F.len _ _ _ _ h
  refine wpAny_call (codeAny_mono (F.run X.A X.stack s H ⟨us,[]⟩ (us++ds) (vs++dvs) Q E hr I.env0 (hb s us I.kIn hl) r2 h) fun r s' hq=>?_)
  cases r with
  | error e=>exact hx pins σ H s e s' I hq
  | ok fl=>
    cases fl with
    | ret u=>exact I.after hq
    | next=>exact False.elim hq
    | brk=>exact False.elim hq
    | cont=>exact False.elim hq
theorem qjg (F:FnOk X.prog X.w X.K X.mg X.base CX k f fd ps sp) (hr:Room k X.A) (hg:Gl X x) (hm:X.mg x=some (.ref f)) (hk:PySem.W.keepIn X.K (.ref f)=true) (hb:yde X.K fd ps ds) (hd:Vals dvs ds) (hx:yf6 CX X E)
    (ha:PA X (e :: es) t) (hdb:(x == ("__debug__" : Str))=false:=by decide) (he:starEach (e :: es) X.env=(false,eval e X.env) :: starEach es X.env:=by rfl) (hpl:(backTo pos (starEach es X.env)).any (·.1)=false:=by rfl) :
    PE X (.Call (.Name x p) (e :: es) [] pos) (yhh sp dvs E t):=by
  intro pins s σ H Q I h
  refine wpAny_Call_Name_kw (qem I hg hm ?_ hdb)
  refine PySem.W.callWith_K (h₀:=X.base) I.ok.mod.kin hk (thn (ha pos pins s σ H _ I h) fun us s1 ⟨vs,H1,I1,r,q⟩=>⟨I1.kIn,?_⟩) he hpl
  exact run_fn F hr hb hd hx I1 r q
end
structure FnScope (N P:List Str) (sc:Scope):Prop where
  kind:sc.kind=.function
  co:sc.isCoroutine=false
  gen:sc.isGenerator=false
  nd:N.Nodup
  pre:N.take P.length=P
  par:∀ x∈P,sc.names.lookup x=some .local∨sc.names.lookup x=some .cell
  nofree:∀ y∈sc.names,y.2≠.free
theorem yfw {kindOf:Str→Option NameKind} {x:Str}:∀ {binds:List (Str×Value)} {m:Str→Option Value},(∀ v,(x,v)∉binds)→bindL kindOf binds m x=m x
  | [],_,_=>rfl
  | (n,v) :: r,m,h=>by
    unfold bindL
    rw [yfw fun w hw=>h w (List.mem_cons_of_mem _ hw)]
    split
    · have:x≠n:=by rintro rfl; exact h v List.mem_cons_self
      simp [this]
    · rfl
theorem qf7 {kindOf:Str→Option NameKind} {x:Str}:∀ {binds:List (Str×Value)} {m:Str→Option Value},(∀ v,(x,v)∉binds)→bindC kindOf binds m x=m x
  | [],_,_=>rfl
  | (n,v) :: r,m,h=>by
    unfold bindC
    rw [qf7 fun w hw=>h w (List.mem_cons_of_mem _ hw)]
    split
    · rfl
    · have:x≠n:=by rintro rfl; exact h v List.mem_cons_self
      simp [this]
theorem qfr {kindOf:Str→Option NameKind} {x:Str} {v:Value}:∀ {P:List Str} {vs:List Value} {i:Nat} {m:Str→Option Value},P.Nodup→P[i]?=some x→vs[i]?=some v→kindOf x=some .local→
    bindL kindOf (P.zip vs) m x=some v
  | [],_,_,_,_,h,_,_=>by simp at h
  | _ :: _,[],_,_,_,_,h,_=>by simp at h
  | p :: P,w :: vs,0,m,nd,h1,h2,hk=>by
    simp at h1 h2; subst h1; subst h2
    show bindL kindOf ((p,w) :: P.zip vs) m p=_
    unfold bindL
    rw [yfw fun v hv=>(List.nodup_cons.mp nd).1 (List.of_mem_zip hv).1,if_pos hk]
    simp
  | p :: P,w :: vs,i + 1,m,nd,h1,h2,hk=>by
    show bindL kindOf ((p,w) :: P.zip vs) m x=_
    unfold bindL
    exact qfr (i:=i) (List.nodup_cons.mp nd).2 (by simpa using h1) (by simpa using h2) hk
theorem qgf {kindOf:Str→Option NameKind} {x:Str} {v:Value}:∀ {P:List Str} {vs:List Value} {i:Nat} {m:Str→Option Value},P.Nodup→P[i]?=some x→vs[i]?=some v→kindOf x≠some .local→
    bindC kindOf (P.zip vs) m x=some v
  | [],_,_,_,_,h,_,_=>by simp at h
  | _ :: _,[],_,_,_,_,h,_=>by simp at h
  | p :: P,w :: vs,0,m,nd,h1,h2,hk=>by
    simp at h1 h2; subst h1; subst h2
    show bindC kindOf ((p,w) :: P.zip vs) m p=_
    unfold bindC
    rw [qf7 fun v hv=>(List.nodup_cons.mp nd).1 (List.of_mem_zip hv).1,if_neg hk]
    simp
  | p :: P,w :: vs,i + 1,m,nd,h1,h2,hk=>by
    show bindC kindOf ((p,w) :: P.zip vs) m x=_
    unfold bindC
    exact qgf (i:=i) (List.nodup_cons.mp nd).2 (by simpa using h1) (by simpa using h2) hk
def ydk (N:List Str) (vs:List V):St:=vs.map some++List.replicate (N.length - vs.length) none
def cxOf (CX:CXT) (P:Program) (w:World) (K:PySem.W.Frag) (mg:Str→Option Value) (base:Heap) (N:List Str) (qual:Str) (scope:Scope) (f:Addr) (cd:Value) (A:Around) (outer:List Env) (s:Shared) (H:Hp) (E:XK):Cx where
  prog:=P
  w:=w
  K:=K
  mg:=mg
  base:=base
  A:=A.deeper (envOfC qual scope s.heap.objs.size f cd)
  N:=N
  s₀:=s
  H₀:=H
  env:=envOfC qual scope s.heap.objs.size f cd
  outer:=outer
  stack:=envOfC qual scope s.heap.objs.size f cd :: outer
  ex:=[]
  calm:=true
  fn:=fun _=>true
  pn:=[]
  xe:=fun e s'=>wpAny (model P w) (A.deeper (envOfC qual scope s.heap.objs.size f cd)) (leaving (envOfC qual scope s.heap.objs.size f cd) e) (fun _ s''=>CX outer H s E e s'') (fun e' s''=>CX outer H s E e' s'') s'
theorem qg7 {sc:Scope} {n:Nat} {x:Str} (h:sc.names.lookup x=some .cell):∃ c,(cellsFrom n sc.names []).lookup x=some c:=by
  have q:=PySem.W.cellsFrom_some sc.names n [] (.inl h)
  exact Option.isSome_iff_exists.mp q
theorem yhz {CX:CXT} {P:Program} {w:World} {K:PySem.W.Frag} {mg:Str→Option Value} {base:Heap} {N ps:List Str} {qual:Str} {scope:Scope} {f:Addr} {cd:Value} {A:Around} {outer:List Env} {s s1:Shared} {H:Hp} {E:XK} {us:List Value} {vs:List V}
    (S:FnScope N ps scope) (hd:A.handled=none) (e0:Env0 P w K mg base A outer s H) (hl:vs.length=ps.length) (r:Vals vs us)
    (x:InCallC s s.heap.objs.size (bindL (envOfC qual scope s.heap.objs.size f cd).kindOf (ps.zip us) fun _=>none) (cellsFrom (s.heap.objs.size + 1) scope.names []) (bindC (envOfC qual scope s.heap.objs.size f cd).kindOf (ps.zip us) fun _=>none) s1) :
    Inv (cxOf CX P w K mg base N qual scope f cd A outer s H E) [] (ydk N vs) H s1:=by
  have hpl:ps.length≤N.length:=by have:=congrArg List.length S.pre; rw [List.length_take] at this; omega
  obtain ⟨h1,tk,rfl,hk⟩:=x.done
  have noA:∀ b:Addr,b∉(cxOf CX P w K mg base N qual scope f cd A outer s H E).ex:=fun b z=>absurd (show b∈([]:List Addr) from z) (by simp)
  refine ⟨⟨e0.mod,S.kind,rfl,rfl,Nat.le_refl _,fun y z c h1 h2=>?_,fun y hy=>?_,fun y c _ h=>?_,fun _=>hd,Around.frames_deeper e0.frames,.inr ⟨rfl,rfl⟩,fun b z=>absurd z (noA b),e0.bs,e0.bsz,fun b _ _=>noA b,fun b z=>absurd z (noA b),e0.funs,e0.frf⟩,
    rfl,e0.bare,Un.kept hk,⟨_,x.toInCall.ns,fun i y v h1 h2 h3=>?_⟩,fun y c h=>⟨_,x.cell y c h⟩,e0.hok.fresh (Nat.le_refl _),fun y c h=>?_,fun p hp=>absurd (show p∈([]:List (Addr×Obj)) from hp) (by simp),e0.hok.kept hk,?_⟩
  · exact name_of_addr x.apart (PySem.mem_of_lookup h1) (PySem.mem_of_lookup h2)
  · have hy:scope.names.lookup y=some .cell∨scope.names.lookup y=some .free:=hy
    rcases hy with hy | hy
    · exact qg7 hy
    · exact absurd rfl (S.nofree _ (PySem.mem_of_lookup hy))
  · exact Nat.le_of_lt (x.above y c (PySem.mem_of_lookup h))
  · have hi:i < vs.length:=by
      unfold ydk at h2
      by_cases hi:i < vs.length
      · exact hi
      · rw [List.getElem?_append_right (by simpa using hi)] at h2
        rw [List.getElem?_replicate] at h2
        split at h2 <;> cases h2
    have ha:vs[i]?=some v:=by
      unfold ydk at h2
      rw [List.getElem?_append_left (by simpa using hi),List.getElem?_map] at h2
      cases e:vs[i]? with
      | none=>rw [e] at h2; cases h2
      | some a=>rw [e] at h2; cases h2; rfl
    obtain ⟨u,hu,rv⟩:=r.get ha
    have hp:ps[i]?=some y:=by
      rw [← S.pre,List.getElem?_take_of_lt (by omega)]; exact h1
    have ndP:ps.Nodup:=by rw [← S.pre]; exact S.nd.sublist (List.take_sublist _ _)
    refine ⟨u,rv,?_⟩
    rcases S.par y (List.mem_of_getElem? hp) with k | k
    · exact .inl ⟨k,qfr ndP hp hu k⟩
    · obtain ⟨c,e⟩:=qg7 (n:=s.heap.objs.size + 1) k
      refine .inr ⟨.inl k,c,e,?_⟩
      have q:=x.cell y c e
      rw [qgf ndP hp hu (by show scope.names.lookup y≠_; rw [k]; decide)] at q
      exact q
  · exact e0.hok.fresh (Nat.le_of_lt (x.above y c (PySem.mem_of_lookup h)))
  · unfold ydk
    show _=N.length
    rw [List.length_append,List.length_map,List.length_replicate]
    omega
theorem fn_of {CX:CXT} {P:Program} {w:World} {K:PySem.W.Frag} {mg:Str→Option Value} {base:Heap} {k:Nat} {f:Addr} {name qual:Str} {params:Arguments} {body:List Stmt} {scope:Scope} {dV kV doc pm cdv ct oc:Value} {an od:Option Addr}
    {osl:Array (Option Value)} {N ps:List Str} {sp:Sp} (lk:K.lookup f=some ⟨oc,od,.func (PySem.W.fnOf name qual params body scope dV kV doc pm an cdv ct),osl⟩) (hcd:PySem.W.codeIn K cdv qual=true) (S:FnScope N ps scope)
    (len:∀ vs H Q E,sp vs H Q E→vs.length=ps.length)
    (hbody:∀ (A:Around) (outer:List Env) (s:Shared) (H:Hp) (vs:List V) (Q:VK) (E:XK),Room k (A.deeper (envOfC qual scope s.heap.objs.size f cdv))→sp vs H Q E→
      ∃ t,PSs (cxOf CX P w K mg base N qual scope f cdv A outer s H E) body t∧t { nx:=fun _ H'=>Q .non H',rt:=Q } (ydk N vs) H) :
    FnOk P w K mg base CX (k + 1) f (PySem.W.fnOf name qual params body scope dV kV doc pm an cdv ct) ps sp:=by
  refine ⟨len,fun A outer s H args us vs Q E hr e0 hb r hsp=>?_⟩
  have hl:=len _ _ _ _ hsp
  have KX:K.In s.heap:=e0.mod.kin.keeps fun b o e=>(e0.bs b o e).1
  have lim:s.heap.NoLimit:=e0.mod.nolimit.keeps fun b o e=>(e0.bs b o e).1
  have hkind:∀ y∈ps.zip us,scope.names.lookup y.1=some .local∨(scope.names.lookup y.1=some .cell∧((cellsFrom (s.heap.objs.size + 1) scope.names []).lookup y.1).isSome=true):=fun ⟨n,v⟩ hy=>by
    rcases S.par n (List.of_mem_zip hy).1 with q | q
    · exact .inl q
    · exact .inr ⟨q,PySem.W.cellsFrom_some _ _ _ (.inl q)⟩
  refine codeAny_call_function hr.depth (KX _ _ lk) rfl S.co S.gen rfl (PySem.W.codeRec_of KX hcd) (hb _ _ _ _ ?_)
  refine wpAny_newFunctionEnv_cells S.kind hkind fun env he s1 x=>?_
  subst he
  refine ⟨lim.keeps x.toInCall.keep,codeAny_func ?_⟩
  obtain ⟨t,ht,hq⟩:=hbody A outer s H vs Q E (hr.deeper _) hsp
  have I:Inv (cxOf CX P w K mg base N qual scope f cdv A outer s H E) [] (ydk N vs) H s1:=yhz S hr.hd e0 hl r x
  refine wpAny_mono (ht [] s1 (ydk N vs) H _ I hq) (fun fl s' hs=>?_) fun e s' hs=>hs
  have fin:∀ {σ':St} {H':Hp} {v:V} {u:Value},Inv (cxOf CX P w K mg base N qual scope f cdv A outer s H E) [] σ' H' s'→RelV v u→Q v H'→CE outer P w H s Q u s':=
    fun {σ' H' v u} J rv q=>⟨v,H',J.os,J.bare,J.base,J.hok,rv,q⟩
  cases fl with
  | ret u=>
    obtain ⟨v,σ',H',J,rv,q⟩:=hs
    exact fin J rv q
  | next=>
    obtain ⟨σ',H',J,q⟩:=hs
    exact fin (v:=V.non) (u:=Value.none) J rfl q
  | brk=>
    obtain ⟨_,_,_,q⟩:=hs
    exact False.elim q
  | cont=>
    obtain ⟨_,_,_,q⟩:=hs
    exact False.elim q
end L2
namespace L2
open PySem PySem.Spec PyProof.Rows
section
variable {X:Cx} {x:Str} {p pos:Pos} {e:Expr} {es:List Expr} {t:TA} {id T:String} {r:List V→Hp→VK→Prop}
def tCB (r:List V→Hp→VK→Prop) (t:TA):TE:=fun σ H Q=>t σ H fun vs H1=>r vs H1 Q
theorem qae (hc:ycc X (.builtin id) r) (hg:Gl X x) (hm:X.mg x=none) (hv:bootBuiltins x=some (.builtin id)) (ha:PA X (e :: es) t) (hn:x≠"__name__":=by decide) (hdb:(x == ("__debug__" : Str))=false:=by decide)
    (he:starEach (e :: es) X.env=(false,eval e X.env) :: starEach es X.env:=by rfl) (hpl:(backTo pos (starEach es X.env)).any (·.1)=false:=by rfl):PE X (.Call (.Name x p) (e :: es) [] pos) (tCB r t):=by
  intro pins s σ H Q I h
  refine wpAny_Call_Name_kw (ycu I hg hm hv ?_ hn hdb)
  exact PyProof.Rows.callWith_builtin1 (thn (ha pos pins s σ H _ I h) fun us s1 ⟨vs,H1,I1,r1,q1⟩=>hc pins s1 σ H1 vs us Q I1 r1 q1) he hpl
theorem ybj (hc:ycc X (.type T) r) (hg:Gl X x) (hm:X.mg x=none) (hv:bootBuiltins x=some (.type T)) (ha:PA X (e :: es) t) (hn:x≠"__name__":=by decide) (hdb:(x == ("__debug__" : Str))=false:=by decide)
    (he:starEach (e :: es) X.env=(false,eval e X.env) :: starEach es X.env:=by rfl) (hpl:(backTo pos (starEach es X.env)).any (·.1)=false:=by rfl):PE X (.Call (.Name x p) (e :: es) [] pos) (tCB r t):=by
  intro pins s σ H Q I h
  refine wpAny_Call_Name_kw (ycu I hg hm hv ?_ hn hdb)
  exact PyProof.Rows.callWith_type1 (thn (ha pos pins s σ H _ I h) fun us s1 ⟨vs,H1,I1,r1,q1⟩=>hc pins s1 σ H1 vs us Q I1 r1 q1) he hpl
end
end L2
namespace HT
open PySem PyProof.Rows
section
variable {prog:Program} {w:World} {A:Around} {E:Value→Shared→Prop} {s:Shared}
theorem cat_tup {t b:Addr} {vs ws:List Value} {Q:Value→Shared→Prop} (ht:IsTup s.heap t vs.toArray) (hb:IsTup s.heap b ws.toArray) (hv:vs≠[])
    (h1:ws=[]→Q (.ref t) s) (h2:ws≠[]→Q (.ref s.heap.objs.size) { s with heap:=s.heap.push { cls:=.type "tuple",data:=.seq (vs++ws).toArray } })
    (hsz:vs.length + ws.length≤sizeLine):wpAny (model prog w) A (binaryOp .Add (.ref t) (.ref b)) Q E s:=by
  obtain ⟨⟨cls,dd,data,sl⟩,ho,hc,n,hd⟩:=id ht
  obtain ⟨⟨cls2,dd2,data2,sl2⟩,ho2,hc2,n2,hd2⟩:=id hb
  simp only at hc hd hc2 hd2
  subst hc hd hc2 hd2
  have e:vs.toArray++ws.toArray=(vs++ws).toArray:=by simp
  by_cases hw:ws=[]
  · exact concat_meets ⟨_,ho,rfl⟩ ⟨_,ho2,rfl⟩ noFill_tuple_add seq_tuple_add PySem.F.slot_tuple_add PySem.F.entry_tuple_add (PySem.F.args_tuple_add_2 _ _)
      (tuple_addW1 t b vs.toArray ws.toArray n n2 dd dd2 sl sl2 (by simpa using hv) (by simp [hw])) ⟨ho,ho2,h1 hw⟩
  · refine concat_meets ⟨_,ho,rfl⟩ ⟨_,ho2,rfl⟩ noFill_tuple_add seq_tuple_add PySem.F.slot_tuple_add PySem.F.entry_tuple_add (PySem.F.args_tuple_add_2 _ _)
      (tuple_addW2 t b vs.toArray ws.toArray n n2 dd dd2 sl sl2 (by simpa using hv) (by simpa using hw) (by rw [List.size_toArray,List.size_toArray]; exact hsz)) ⟨ho,ho2,?_⟩
    rw [e]
    exact h2 hw
def sIx (n d:Nat):Option Int→Nat
  | none=>d
  | some v=>if v < 0 then (v + (n:Int)).toNat else min v.toNat n
theorem sIx_none (n d:Nat):sIx n d none=d:=rfl
theorem sIx_nat (n d k:Nat):sIx n d (some (k:Int))=min k n:=by
  show (if (k:Int) < 0 then ((k:Int) + (n:Int)).toNat else min (k:Int).toNat n)=min k n
  rw [if_neg (by omega),Int.toNat_natCast]
theorem sIx_le (n d:Nat) (hd:d≤n) (o:Option Int):sIx n d o≤n:=by
  cases o with
  | none=>exact hd
  | some v=>
    show (if v < 0 then (v + (n:Int)).toNat else min v.toNat n)≤n
    by_cases hv:v < 0
    · rw [if_pos hv]; omega
    · rw [if_neg hv]; exact Nat.min_le_right _ _
theorem yiv (v:Int) (n d:Nat):(if v < 0 then max (v + (n:Int)) 0 else min v (n:Int))=((sIx n d (some v):Nat):Int):=by
  show (if v < 0 then max (v + (n:Int)) 0 else min v (n:Int))=(((if v < 0 then (v + (n:Int)).toNat else min v.toNat n):Nat):Int)
  by_cases hv:v < 0
  · simp only [if_pos hv]; omega
  · simp only [if_neg hv]; omega
theorem qhk (lo hi:Option Int) (n:Nat):Builtin.Slice.sliceAdjust lo hi 1 (n:Int)=(((sIx n 0 lo:Nat):Int),((sIx n n hi:Nat):Int)):=by
  have h1:¬ ((1:Int) < 0):=by omega
  unfold Builtin.Slice.sliceAdjust
  simp only [h1,if_false]
  refine Prod.ext ?_ ?_
  · cases lo with
    | none=>rfl
    | some v=>exact yiv v n 0
  · cases hi with
    | none=>rfl
    | some v=>exact yiv v n n
theorem qhl (i j:Nat):Builtin.Slice.slicePlaces (i:Int) (j:Int) 1=j - i:=by
  unfold Builtin.Slice.slicePlaces
  have h1:(1:Int) > 0:=by omega
  simp only [h1,if_true,Int.ediv_one]
  split <;> omega
theorem qe7 {v:Value} {o:Option Int} {Q:Option Int→Shared→Prop} (p:IsPart v o) (h:Q o s):wpAny (model prog w) A (Builtin.Slice.slicePartIndex v) Q E s:=by
  cases p with
  | none=>exact slicePart_none h
  | int i t=>exact slicePart_int h
theorem yd4 {sl:Addr} {vl vu:Value} {lo hi:Option Int} {n:Nat} {Q:Int×Int×Nat→Shared→Prop} (hs:s.heap.IsSliceOf sl vl vu .none) (pl:IsPart vl lo) (pu:IsPart vu hi)
    (h:Q (((sIx n 0 lo:Nat):Int),1,sIx n n hi - sIx n 0 lo) s):wpAny (model prog w) A (Builtin.Slice.sliceApplied (.ref sl) (pure (n:Int))) Q E s:=by
  obtain ⟨os,hos,hcs,hds⟩:=id hs
  unfold Builtin.Slice.sliceApplied Builtin.Slice.sliceFields
  refine wpAny_bind (wpAny_bind (wpAny_field hos hds (x:=vl) rfl (wpAny_bind (wpAny_field hos hds (x:=vu) rfl (wpAny_bind (wpAny_field hos hds (x:=.none) rfl (wpAny_pure ?_)))))))
  refine wpAny_bind (slicePart_none ?_)
  show wpAny _ _ (if ((1:Int) == 0)=true then _ else _) _ _ s
  rw [if_neg (by decide)]
  refine wpAny_bind (qe7 pl (wpAny_bind (qe7 pu (wpAny_bind (wpAny_pure ?_)))))
  show wpAny _ _ (match Builtin.Slice.sliceAdjust lo hi 1 (n:Int) with | (lo,hi)=>pure (lo,(1:Int),Builtin.Slice.slicePlaces lo hi 1)) _ _ s
  rw [qhk lo hi n]
  show wpAny _ _ (pure (((sIx n 0 lo:Nat):Int),(1:Int),Builtin.Slice.slicePlaces ((sIx n 0 lo:Nat):Int) ((sIx n n hi:Nat):Int) 1)) _ _ s
  rw [qhl]
  exact wpAny_pure h
theorem pick_gen (xs:Array Value) (i k:Nat):((List.range k).filterMap fun (m:Nat)=>xs[((i:Int) + (m:Int) * 1).toNat]?).toArray=((xs.toList.drop i).take k).toArray:=by
  have e:(fun (m:Nat)=>xs[((i:Int) + (m:Int) * 1).toNat]?)=fun m=>xs[i + m]?:=by
    funext m
    have:((i:Int) + (m:Int) * 1).toNat=i + m:=by omega
    rw [this]
  rw [e]
  have:=pick_run xs i k
  rw [List.filterMap_map] at this
  have e2:((fun x=>xs[x]?) ∘ fun x=>i + x)=fun m=>xs[i + m]?:=rfl
  rw [e2] at this
  rw [this]
theorem getItem_tuple_cut {t sl:Addr} {items:Array Value} {vl vu:Value} {lo hi:Option Int} {Q:Value→Shared→Prop} (ht:IsTup s.heap t items) (hs:s.heap.IsSliceOf sl vl vu .none) (pl:IsPart vl lo) (pu:IsPart vu hi)
    (hw:¬ (sIx items.size 0 lo=0∧sIx items.size items.size hi=items.size))
    (h:Q (.ref s.heap.objs.size) { s with heap:=s.heap.push { cls:=.type "tuple",data:=.seq ((items.toList.drop (sIx items.size 0 lo)).take (sIx items.size items.size hi - sIx items.size 0 lo)).toArray } })
    (hsz:items.size≤sizeLine):wpAny (model prog w) A (getItem (.ref t) (.ref sl)) Q E s:=by
  have htake:sizeOk (.seq ((items.toList.drop (sIx items.size 0 lo)).take (sIx items.size items.size hi - sIx items.size 0 lo)).toArray):=by
    show ((items.toList.drop (sIx items.size 0 lo)).take (sIx items.size items.size hi - sIx items.size 0 lo)).toArray.size≤sizeLine
    rw [List.size_toArray,List.length_take,List.length_drop,Array.length_toList]
    omega
  have hj:sIx items.size items.size hi≤items.size:=sIx_le _ _ (Nat.le_refl _) hi
  obtain ⟨os,hos,hcs,hds⟩:=id hs
  have hTs:s.TypeIs (.ref sl) "slice":=⟨os,hos,hcs⟩
  unfold getItem
  try with_reducible refine wpAny_holding ?_
  first | refine wpAny_bind (wpAny_pure ?_) | skip
  refine wpAny_bind (wpAny_sequenceKey ht.typeIs (by decide) ?_)
  refine wpAny_bind (wpAny_callSpecial?_slot (name:=Str.ofString "__getitem__") ht.typeIs PyProof.Rows.slot_tuple_getitem
    (wpAny_call_entry PyProof.Rows.slot_tuple_getitem ht.typeIs entry_tuple_getitem ?_ (args_tuple_getitem _ _)))
  show wpAny _ _ (Builtin.Tuple.tupleItemsOf (.ref t) >>= _) _ _ s
  refine wpAny_bind (tupleItemsOf_ ht ?_)
  refine wpAny_bind (wpAny_typeOf hTs ?_)
  rw [if_pos (by decide)]
  refine wpAny_bind (yd4 hs pl pu ?_)
  have hno:¬ ((((sIx items.size 0 lo:Nat):Int) == 0 && (1:Int) == 1 && (sIx items.size items.size hi - sIx items.size 0 lo) == items.size)=true):=by
    intro q
    rw [Bool.and_eq_true,Bool.and_eq_true] at q
    have q1:((sIx items.size 0 lo:Nat):Int)=0:=eq_of_beq q.1.1
    have q2:sIx items.size items.size hi - sIx items.size 0 lo=items.size:=eq_of_beq q.2
    exact hw ⟨by omega,by omega⟩
  show wpAny _ _ (if (((sIx items.size 0 lo:Nat):Int) == 0 && (1:Int) == 1 && (sIx items.size items.size hi - sIx items.size 0 lo) == items.size)=true then _ else _) _ _ s
  rw [if_neg hno,pick_gen]
  first
    | exact wpAny_bind (m:=Builtin.Tuple.tupleExact _) (wpAny_newObj_type (wpAny_pure ⟨_,rfl,wpAny_pure h⟩) htake)
    | exact wpAny_bind (m:=Builtin.Tuple.tupleExact _) (wpAny_newObj_type (wpAny_bind (wpAny_pure (wpAny_pure ⟨_,rfl,wpAny_pure h⟩))) htake)
    | exact wpAny_bind (wpAny_bind (m:=Builtin.Tuple.tupleExact _) (wpAny_newObj_type (wpAny_pure (wpAny_pure ⟨_,rfl,wpAny_pure h⟩)) htake))
    | exact wpAny_bind (wpAny_bind (m:=Builtin.Tuple.tupleExact _) (wpAny_newObj_type (wpAny_pure ⟨_,rfl,wpAny_pure h⟩) htake))
end
end HT
namespace L2
open PySem PySem.Spec PyProof.Rows
abbrev TO:=St→Hp→(Option Int→Hp→Prop)→Prop
def PO (X:Cx) (e:Option Expr) (t:TO):Prop:=
  ∀ (pins:List (Addr×Obj)) (s:Shared) (σ:St) (H:Hp) (Q:Option Int→Hp→Prop),Inv X pins σ H s→t σ H Q→
    wpAny (model X.prog X.w) X.A (evalPart e X.env) (fun u s'=>∃ o H',Inv X pins σ H' s'∧IsPart u o∧Q o H') X.xe s
def qdq:TO:=fun _ H Q=>Q none H
def qhw (t:TE):TO:=fun σ H Q=>t σ H fun x H1=>∃ i,x=.int i∧Q (some i) H1
theorem yhl {ns:List Int}:∀ {us:List Value},Vals (ns.map V.int) us→IntsAre us ns:=by
  induction ns with
  | nil=>intro us r; rw [List.map_nil] at r; cases r; exact .nil
  | cons n ns ih=>
    intro us r
    rw [List.map_cons] at r
    cases r with
    | cons r1 r2=>
      obtain ⟨t,e⟩:=r1
      subst e
      exact .cons n t (ih r2)
section
variable {X:Cx} {e:Expr} {te:TE} {lo hi:Option Expr} {tl th:TO} {pos p2:Pos}
theorem qa0:PO X none qdq:=by
  intro pins s σ H Q I h
  rw [evalPart_none]
  exact wpAny_pure ⟨none,H,I,.none,h⟩
theorem qas (h:PE X e te):PO X (some e) (qhw te):=by
  intro pins s σ H Q I hw
  rw [evalPart_some]
  refine thn (h pins s σ H _ I hw) fun u s1 ⟨x,H1,I1,r1,q1⟩=>?_
  obtain ⟨i,rfl,q⟩:=q1
  obtain ⟨t,rfl⟩:=r1
  exact ⟨some i,H1,I1,.int i t,q⟩
def SlR (X:Cx) (r:V→Option Int→Option Int→Hp→VK→Prop):Prop:=
  ∀ (pins:List (Addr×Obj)) (s:Shared) (σ:St) (H:Hp) (x:V) (v vl vu:Value) (lo hi:Option Int) (sl:Addr) (Q:VK),Inv X pins σ H s→RelV x v→s.heap.IsSliceOf sl vl vu .none→IsPart vl lo→IsPart vu hi→r x lo hi H Q→
    ∃ T id,typeLookup (.type T) "__getitem__" = pure (some (.builtin id))∧s.TypeIs v T∧wpAny (model X.prog X.w) X.A (getItem v (.ref sl)) (EP X pins σ Q) X.xe s
def tSl (r:V→Option Int→Option Int→Hp→VK→Prop) (te:TE) (tl th:TO):TE:=fun σ H Q=>te σ H fun x H1=>tl σ H1 fun l H2=>th σ H2 fun u H3=>r x l u H3 Q
theorem ybc {r:V→Option Int→Option Int→Hp→VK→Prop} (hr:SlR X r) (he:PE X e te) (hl:PO X lo tl) (hu:PO X hi th):PE X (.Subscript e (.Slice lo hi none p2) pos) (tSl r te tl th):=by
  intro pins s σ H Q I h
  refine Subscript_ (thn (he pins s σ H _ I h) fun v s1 ⟨x,H1,I1,r1,q1⟩=>?_)
  refine wpAny_Slice (thn (hl pins s1 σ H1 _ I1 q1) fun vl s2 ⟨l,H2,I2,pl,q2⟩=>thn (hu pins s2 σ H2 _ I2 q2) fun vu s3 ⟨u,H3,I3,pu,q3⟩=>?_)
  rw [evalPart_none]
  refine wpAny_pure ?_
  have I4:Inv X pins σ H3 { s3 with heap:=s3.heap.push { cls:=.type "slice",data:=.fields #[vl,vu,.none] } }:=I3.kept (t':=s3.toks) fun b ob q=>Heap.get?_push_of_some _ q
  obtain ⟨T,id,hT,ht,hg⟩:=hr pins { s3 with heap:=s3.heap.push { cls:=.type "slice",data:=.fields #[vl,vu,.none] } } σ H3 x v vl vu l u s3.heap.objs.size Q I4 r1 (Heap.IsSliceOf.new ..) pl pu q3
  show wpAny (model X.prog X.w) X.A (subscriptTail e (.Slice lo hi none p2) v (.ref s3.heap.objs.size)) (EP X pins σ Q) X.xe { s3 with heap:=s3.heap.push { cls:=.type "slice",data:=.fields #[vl,vu,.none] } }
  exact tail_any (ops:=[.ref s3.heap.objs.size,v]) ht hT hg (by with_unfolding_all rfl)
def cutV (xs:List V) (lo hi:Option Int):List V:=(xs.drop (HT.sIx xs.length 0 lo)).take (HT.sIx xs.length xs.length hi - HT.sIx xs.length 0 lo)
theorem qer (xs:List V) (lo hi:Option Int):(cutV xs lo hi).length≤xs.length:=by
  unfold cutV
  rw [List.length_take,List.length_drop]
  omega
def rSlT (K:PySem.W.Frag):V→Option Int→Option Int→Hp→VK→Prop:=fun x lo hi H Q=>∃ a xs,x=.ref a∧SqT K H a xs∧
  ¬ (HT.sIx xs.length 0 lo=0∧HT.sIx xs.length xs.length hi=xs.length)∧∀ p,H p=none→Q (.ref p) (upd H p (.tup (cutV xs lo hi)))
theorem ycr:SlR X (rSlT X.K):=by
  intro pins s σ H x v vl vu lo hi sl Q I rx hs pl pu h
  obtain ⟨a,xs,rfl,hx,hw,q⟩:=h
  cases rx
  obtain ⟨its,r,ht,hz⟩:=I.tuple hx
  have hlen:its.toArray.size=xs.length:=by rw [List.size_toArray]; exact r.length.symm
  refine ⟨"tuple",_,PyProof.Rows.slot_tuple_getitem.lookup,ht.typeIs,?_⟩
  refine HT.getItem_tuple_cut ht hs pl pu (by rw [hlen]; exact hw) ?_ (by rw [hlen]; exact hz)
  rw [hlen]
  refine ⟨.ref s.heap.objs.size,_,I.laid (t':=s.toks) (o:=.tup (cutV xs lo hi)) (fun b ob q=>Heap.get?_push_of_some _ q) (Nat.le_refl _) ?_,rfl,q _ (I.hok.fresh (Nat.le_refl _))⟩
  exact ⟨Nat.le_trans (qer xs lo hi) hz,_,(r.drop (HT.sIx xs.length 0 lo)).take (HT.sIx xs.length xs.length hi - HT.sIx xs.length 0 lo),IsTup.new _ _⟩
def rCatT (K:PySem.W.Frag):R2:=fun x y H Q=>∃ a b xs ys,x=.ref a∧y=.ref b∧SqT K H a xs∧SqT K H b ys∧xs≠[]∧xs.length + ys.length≤sizeLine∧
  (ys=[]→Q (.ref a) H)∧(ys≠[]→∀ p,H p=none→Q (.ref p) (upd H p (.tup (xs++ys))))
theorem Vals.nil_iff {xs:List V} {us:List Value} (r:Vals xs us):us=[]↔xs=[]:=by
  cases r with
  | nil=>simp
  | cons _ _=>simp
theorem yfn:OpR X (binaryOp .Add) (rCatT X.K):=by
  intro pins s σ H x y v u Q I rx ry h
  obtain ⟨a,b,xs,ys,rfl,rfl,ha,hb,hx,hz,q1,q2⟩:=h
  cases rx
  cases ry
  obtain ⟨its,r1,p1,_⟩:=I.tuple ha
  obtain ⟨its2,r2,p2,_⟩:=I.tuple hb
  refine HT.cat_tup p1 p2 (fun z=>hx (r1.nil_iff.mp z)) (fun z=>⟨.ref a,H,I,rfl,q1 (r2.nil_iff.mp z)⟩) (fun z=>?_) (by rw [← r1.length,← r2.length]; exact hz)
  refine ⟨.ref s.heap.objs.size,_,I.laid (t':=s.toks) (o:=.tup (xs++ys)) (fun b ob q=>Heap.get?_push_of_some _ q) (Nat.le_refl _) ?_,rfl,q2 (fun w=>z (r2.nil_iff.mpr w)) _ (I.hok.fresh (Nat.le_refl _))⟩
  exact ⟨by rw [List.length_append]; exact hz,_,r1.append r2,IsTup.new _ _⟩
end
end L2
namespace L2
open PySem PySem.Spec PyProof.Rows
def ixN (n:Nat) (i:Int):Option Nat:=if 0≤i then (if i < n then some i.toNat else none) else if -(n:Int)≤i then some (i + n).toNat else none
def atI {α:Type} (xs:List α) (i:Int):Option α:=(ixN xs.length i).bind fun j=>xs[j]?
theorem qjf {n:Nat} {i:Int} {j:Nat} (h:ixN n i=some j):seqIndex? i n=some j∧j < n∧-(n:Int)≤i∧i < n:=by
  unfold ixN at h
  by_cases h0:0≤i
  · rw [if_pos h0] at h
    by_cases h1:i < n
    · rw [if_pos h1] at h
      have e:i.toNat=j:=Option.some.inj h
      exact ⟨by rw [seqIndex_of h0 h1,e],by omega,by omega,h1⟩
    · rw [if_neg h1] at h; cases h
  · rw [if_neg h0] at h
    by_cases h1:-(n:Int)≤i
    · rw [if_pos h1] at h
      have e:(i + n).toNat=j:=Option.some.inj h
      exact ⟨by rw [seqIndex_neg (by omega) h1,e],by omega,h1,by omega⟩
    · rw [if_neg h1] at h; cases h
theorem ygn {α:Type} {xs:List α} {i:Int} {v:α} (h:atI xs i=some v):∃ j,seqIndex? i xs.length=some j∧xs[j]?=some v∧j < xs.length∧-(xs.length:Int)≤i∧i < xs.length:=by
  unfold atI at h
  cases e:ixN xs.length i with
  | none=>rw [e] at h; cases h
  | some j=>
    rw [e] at h
    obtain ⟨h1,h2,h3,h4⟩:=qjf e
    exact ⟨j,h1,h,h2,h3,h4⟩
theorem yet {α:Type} {xs:List α} {j:Nat} {v:α} (h:xs[j]?=some v):atI xs (j:Int)=some v:=by
  have hj:j < xs.length:=(List.getElem?_eq_some_iff.mp h).1
  have e:ixN xs.length (j:Int)=some j:=by
    unfold ixN
    rw [if_pos (by omega),if_pos (by omega)]; simp
  unfold atI; rw [e]; exact h
theorem atI_last {α:Type} (xs:List α) (v:α):atI (xs++[v]) (-1)=some v:=by
  have hl:(xs++[v]).length=xs.length + 1:=by simp
  have e:ixN (xs++[v]).length (-1)=some xs.length:=by
    unfold ixN
    rw [hl,if_neg (by decide),if_pos (by omega)]
    congr 1
    omega
  unfold atI
  rw [e]
  show (xs++[v])[xs.length]?=some v
  simp
def yif (b:Expr):Prop:=∀ o i,subscripted b false o i=operate [o,i] (getItem o i)
def IxR (X:Cx) (r:R2):Prop:=
  ∀ (value slice:Expr) (pins:List (Addr×Obj)) (s:Shared) (σ:St) (H:Hp) (x y:V) (v u:Value) (Q:VK),Inv X pins σ H s→RelV x v→RelV y u→r x y H Q→
    subscripted slice false v u=operate [v,u] (getItem v u)→wpAny (model X.prog X.w) X.A (subscriptTail value slice v u) (EP X pins σ Q) X.xe s
def MtR (X:Cx) (id:String) (r:V→List V→Hp→VK→Prop):Prop:=
  ∀ (pins:List (Addr×Obj)) (s:Shared) (σ:St) (H:Hp) (x:V) (xs:List V) (v:Value) (us:List Value) (Q:VK),Inv X pins σ H s→RelV x v→Vals xs us→r x xs H Q→
    wpAny (model X.prog X.w) X.A (call (.builtin id) (v :: us)) (EP X pins σ Q) X.xe s
section
variable {X:Cx} {a b:Expr} {ta tb:TE} {pos:Pos}
theorem IxR.or {r r':R2} (h:IxR X r) (h':IxR X r'):IxR X (fun x y H Q=>r x y H Q∨r' x y H Q):=by
  intro value slice pins s σ H x y v u Q I rx ry q hs
  rcases q with q | q
  · exact h value slice pins s σ H x y v u Q I rx ry q hs
  · exact h' value slice pins s σ H x y v u Q I rx ry q hs
theorem qbt {r:R2} (hr:IxR X r) (ha:PE X a ta) (hb:PE X b tb) (hs:yif b):PE X (.Subscript a b pos) (tOp r ta tb):=by
  intro pins s σ H Q I h
  exact Subscript_ (binT ha hb I h fun v u s2 x y H2 I2 rx ry q=>hr a b pins s2 σ H2 x y v u Q I2 rx ry q (hs _ _))
def rIxL (K:PySem.W.Frag):R2:=fun x y H Q=>∃ p xs i v,x=.ref p∧y=.int i∧SqL K H p xs∧atI xs i=some v∧Q v H
def rIxT (K:PySem.W.Frag):R2:=fun x y H Q=>∃ p xs i v,x=.ref p∧y=.int i∧SqT K H p xs∧atI xs i=some v∧Q v H
def rIxS:R2:=fun x y H Q=>∃ z i c,x=.str z∧y=.int i∧z.length≤sizeLine∧atI z.cps.toList i=some c∧Q (.str ⟨#[c]⟩) H
theorem qal:IxR X (rIxL X.K):=by
  intro value slice pins s σ H x y v u Q I rx ry h hs
  obtain ⟨p,xs,i,z,rfl,rfl,hq,he,q⟩:=h
  cases rx
  obtain ⟨t,rfl⟩:=ry
  obtain ⟨its,r,pl,hz⟩:=I.list hq
  obtain ⟨j,h1,h2,h3,h4,h5⟩:=ygn he
  obtain ⟨w,ew,rw'⟩:=r.get h2
  have hl:=r.length
  have hn:=qe5
  have fin:EP X pins σ Q w s:=⟨z,H,I,rw',q⟩
  by_cases h0:0≤i
  · have hj:i.toNat=j:=by
      rw [seqIndex_of h0 h5] at h1
      exact Option.some.inj h1
    exact item_listR pl.isList h0 (by omega) (by rw [hj]; simpa using ew) fin hs
  · have hj:(i + (its.toArray.size:Int)).toNat=j:=by
      rw [seqIndex_neg (by omega) h4] at h1
      rw [List.size_toArray,← hl]
      exact Option.some.inj h1
    exact subscriptTail_builtinR (x:=w) pl.isList.typeIs slot_list_getitem.lookup
      (wpAny_getItem_list_neg (Q:=fun r s'=>r=w∧EP X pins σ Q r s') pl.isList (by omega) (by rw [List.size_toArray] <;> omega) (by omega) (by rw [hj]; simpa using ew) ⟨rfl,fin⟩) hs
theorem qbl:IxR X (rIxT X.K):=by
  intro value slice pins s σ H x y v u Q I rx ry h hs
  obtain ⟨p,xs,i,z,rfl,rfl,hq,he,q⟩:=h
  cases rx
  obtain ⟨t,rfl⟩:=ry
  obtain ⟨its,r,pl,hz⟩:=I.tuple hq
  obtain ⟨j,h1,h2,h3,h4,h5⟩:=ygn he
  obtain ⟨w,ew,rw'⟩:=r.get h2
  have hl:=r.length
  have hn:=qe5
  have fin:EP X pins σ Q w s:=⟨z,H,I,rw',q⟩
  exact subscriptTail_builtinR (x:=w) pl.typeIs slot_tuple_getitem.lookup
    (getItem_tuple (j:=j) (Q:=fun r s'=>r=w∧EP X pins σ Q r s') pl (by omega) (by omega) (by rw [List.size_toArray,← hl]; exact h1) (by simpa using ew) ⟨rfl,fin⟩) hs
theorem yhg:IxR X rIxS:=by
  intro value slice pins s σ H x y v u Q I rx ry h hs
  obtain ⟨z,i,c,rfl,rfl,hz,he,q⟩:=h
  obtain ⟨t,rfl⟩:=rx
  obtain ⟨t',rfl⟩:=ry
  obtain ⟨j,h1,h2,h3,h4,h5⟩:=ygn he
  have hl:z.cps.toList.length=z.length:=by simp [Str.length]
  rw [hl] at h1 h4 h5
  have hn:=qe5
  exact tail_any (typeIs_str s z t) slot_str_getitem.lookup (getItem_str (c:=c) (by
    have e1:decide (i < -(2 ^ 63:Int))=false:=decide_eq_false (by omega)
    have e2:decide (i≥2 ^ 63)=false:=decide_eq_false (by omega)
    rw [e1,e2,Bool.or_false]) (by rw [h1]; simpa using h2) ⟨.str ⟨#[c]⟩,H,I.tok _,⟨_,rfl⟩,q⟩) hs
def rIx (K:PySem.W.Frag):R2:=fun x y H Q=>rIxL K x y H Q∨rIxT K x y H Q∨rIxS x y H Q
theorem ix_seq:IxR X (rIx X.K):=qal.or (qbl.or yhg)
theorem qhm (its:List Value) (n j:Nat) (u:Value):Obj.mapSeq (·.setIfInBounds j u) { cls:=.type "list",data:=.seq its.toArray n }={ cls:=.type "list",data:=.seq (its.set j u).toArray n }:=by
  simp [Obj.mapSeq]
theorem Inv.lst {pins:List (Addr×Obj)} {σ:St} {H:Hp} {s:Shared} {p:Addr} {xs:List V} (I:Inv X pins σ H s) (h:H p=some (.lst xs)) :
    ∃ (its:List Value) (n:Nat),Vals xs its∧s.heap.get? p=some { cls:=.type "list",data:=.seq its.toArray n }∧xs.length≤sizeLine:=by
  obtain ⟨z,its,n,r,e⟩:=I.hok p _ h
  exact ⟨its,n,r,e,z⟩
theorem Inv.lstUpd {pins:List (Addr×Obj)} {σ:St} {H:Hp} {s:Shared} {p:Addr} {xs ys:List V} {its its':List Value} {n n':Nat} {f:Obj→Obj} (I:Inv X pins σ H s) (h:H p=some (.lst xs))
    (ho:s.heap.get? p=some { cls:=.type "list",data:=.seq its.toArray n }) (hf:f { cls:=.type "list",data:=.seq its.toArray n }={ cls:=.type "list",data:=.seq its'.toArray n' }) (r:Vals ys its') (hz:ys.length≤sizeLine) (t:Nat) :
    Inv X pins σ (upd H p (.lst ys)) { s with heap:=s.heap.update p f,toks:=t }:=by
  have e:(s.heap.update p f).get? p=some { cls:=.type "list",data:=.seq its'.toArray n' }:=by
    rw [Heap.get?_update_self f ho (by rw [hf] <;> rfl),hf]
  refine I.write (x:=p) (e:=p) (by rw [h]; trivial) (.inl rfl) (fun b u hb q=>(Heap.get?_update_other _ _ (Ne.symm hb)).trans q) ⟨_,e⟩ ?_
  exact ⟨hz,its',n',r,e⟩
def rSetL:V→V→V→Hp→(Hp→Prop)→Prop:=fun o i v H Q=>∃ p xs k j,o=.ref p∧i=.int k∧H p=some (.lst xs)∧ixN xs.length k=some j∧Q (upd H p (.lst (xs.set j v)))
theorem set_list:PSet X rSetL:=by
  intro pins s σ H o i v ov iv u Q I ro ri rv h
  obtain ⟨p,xs,k,j,rfl,rfl,hp,hj,q⟩:=h
  cases ro
  obtain ⟨t,rfl⟩:=ri
  obtain ⟨its,n,r,ho,hz⟩:=I.lst hp
  obtain ⟨h1,h2,h3,h4⟩:=qjf hj
  have hl:=r.length
  have hn:=qe5
  have I':Inv X pins σ (upd H p (.lst (xs.set j v))) { s with heap:=s.heap.update p (Obj.mapSeq (·.setIfInBounds j u)) }:=
    I.lstUpd hp ho (qhm its n j u) (r.set rv j) (by rw [List.length_set]; exact hz) s.toks
  by_cases h0:0≤k
  · have hk:k.toNat=j:=by
      rw [seqIndex_of h0 h4] at h1
      exact Option.some.inj h1
    exact PySem.W.ki_setAt ho h0 (by omega) (by rw [List.size_toArray,← hl]; exact h4) (by rw [hk]; exact ⟨_,I',q⟩)
  · have hk:(k + (its.toArray.size:Int)).toNat=j:=by
      rw [seqIndex_neg (by omega) h3] at h1
      rw [List.size_toArray,← hl]
      exact Option.some.inj h1
    exact PySem.W.ki_setBack ho (by omega) (by rw [List.size_toArray,← hl]; exact h3) (by omega) (by rw [hk]; exact ⟨_,I',q⟩)
theorem yf5 (lo hi:Option Int) (n:Nat):(sliceBounds lo hi none n).1=((HT.sIx n 0 lo:Nat):Int)∧(sliceBounds lo hi none n).2.1=((HT.sIx n n hi:Nat):Int)∧(sliceBounds lo hi none n).2.2=1:=by
  refine ⟨?_,?_,rfl⟩
  · cases lo with
    | none=>simp [sliceBounds,HT.sIx]
    | some i=>
      simp only [sliceBounds,HT.sIx,Option.getD_none,show (1:Int) > 0 by decide,if_true]
      by_cases h:i < 0
      · simp only [h,if_true] <;> omega
      · simp only [h,if_false] <;> omega
  · cases hi with
    | none=>simp [sliceBounds,HT.sIx]
    | some i=>
      simp only [sliceBounds,HT.sIx,Option.getD_none,show (1:Int) > 0 by decide,if_true]
      by_cases h:i < 0
      · simp only [h,if_true] <;> omega
      · simp only [h,if_false] <;> omega
theorem qfb (its:List Value) (lo hi:Option Int):slicePick its.toArray lo hi none=((its.drop (HT.sIx its.length 0 lo)).take (HT.sIx its.length its.length hi - HT.sIx its.length 0 lo)).toArray:=by
  obtain ⟨h1,h2,h3⟩:=yf5 lo hi its.toArray.size
  unfold slicePick
  rw [h1,h2,h3]
  simp only [sliceRange_one,pick_run,List.size_toArray] <;> rfl
def rSlL (K:PySem.W.Frag):V→Option Int→Option Int→Hp→VK→Prop:=fun x lo hi H Q=>∃ a xs,x=.ref a∧SqL K H a xs∧∀ p,H p=none→Q (.ref p) (upd H p (.lst (cutV xs lo hi)))
theorem qb3:SlR X (rSlL X.K):=by
  intro pins s σ H x v vl vu lo hi sl Q I rx hs pl pu h
  obtain ⟨a,xs,rfl,hx,q⟩:=h
  cases rx
  obtain ⟨its,r,ht,hz⟩:=I.list hx
  have hlen:=r.length
  refine ⟨"list",_,slot_list_getitem.lookup,ht.isList.typeIs,?_⟩
  refine wpAny_getItem_list_slice ht.isList hs pl pu .none (by simp) ?_ (by rw [List.size_toArray] <;> omega)
  rw [qfb,← hlen]
  refine ⟨.ref s.heap.objs.size,_,I.laid (t':=s.toks) (o:=.lst (cutV xs lo hi)) (fun b ob q=>Heap.get?_push_of_some _ q) (Nat.le_refl _) ?_,rfl,q _ (I.hok.fresh (Nat.le_refl _))⟩
  exact ⟨Nat.le_trans (qer xs lo hi) hz,_,0,(r.drop (HT.sIx xs.length 0 lo)).take (HT.sIx xs.length xs.length hi - HT.sIx xs.length 0 lo),Heap.get?_push_size _ rfl⟩
def yd3:V→Bool
  | .non=>true
  | .bl _=>true
  | .int _=>true
  | .str _=>true
  | _=>false
def eqV:V→V→Bool
  | .non,.non=>true
  | .bl a,.bl b=>a == b
  | .bl a,.int b=>(if a then 1 else 0) == b
  | .int a,.bl b=>a == (if b then 1 else 0)
  | .int a,.int b=>a == b
  | .str a,.str b=>a == b
  | _,_=>false
theorem eqAt_V {A:Around} {s:Shared} {y x:V} {u v:Value} (ry:RelV y u) (rx:RelV x v) (fy:yd3 y=true) (fx:yd3 x=true):SeqAt.EqAt A s u v (eqV y x):=by
  cases y with
  | non=>
    cases ry
    cases x with
    | non=>cases rx; exact SeqAt.EqAt.same _
    | bl b=>cases rx; exact SeqAt.EqAt.none_bool b
    | int b=>obtain ⟨t,rfl⟩:=rx; exact SeqAt.EqAt.none_int b t
    | str b=>obtain ⟨t,rfl⟩:=rx; exact SeqAt.EqAt.none_str b t
    | _=>exact absurd (show false=true from fx) Bool.false_ne_true
  | bl a=>
    cases ry
    cases x with
    | non=>cases rx; exact SeqAt.EqAt.bool_none a
    | bl b=>cases rx; exact SeqAt.EqAt.bool_bool a b
    | int b=>obtain ⟨t,rfl⟩:=rx; exact SeqAt.EqAt.bool_int a b t
    | str b=>obtain ⟨t,rfl⟩:=rx; exact SeqAt.EqAt.bool_str a b t
    | _=>exact absurd (show false=true from fx) Bool.false_ne_true
  | int a=>
    obtain ⟨t',rfl⟩:=ry
    cases x with
    | non=>cases rx; exact SeqAt.EqAt.int_none a t'
    | bl b=>cases rx; exact SeqAt.EqAt.int_bool a t' b
    | int b=>obtain ⟨t,rfl⟩:=rx; exact SeqAt.EqAt.int_int a t' b t
    | str b=>obtain ⟨t,rfl⟩:=rx; exact SeqAt.EqAt.int_str a t' b t
    | _=>exact absurd (show false=true from fx) Bool.false_ne_true
  | str a=>
    obtain ⟨t',rfl⟩:=ry
    cases x with
    | non=>cases rx; exact SeqAt.EqAt.str_none a t'
    | bl b=>cases rx; exact SeqAt.EqAt.str_bool a t' b
    | int b=>obtain ⟨t,rfl⟩:=rx; exact SeqAt.EqAt.str_int a t' b t
    | str b=>obtain ⟨t,rfl⟩:=rx; exact SeqAt.EqAt.str_str a t' b t
    | _=>exact absurd (show false=true from fx) Bool.false_ne_true
  | _=>exact absurd (show false=true from fy) Bool.false_ne_true
def eqU (x:V) (u:Value):Bool:=match u with
  | .none=>eqV .non x
  | .bool b=>eqV (.bl b) x
  | .int i _=>eqV (.int i) x
  | .str z _=>eqV (.str z) x
  | _=>false
theorem eqU_of {x y:V} {u:Value} (r:RelV y u) (f:yd3 y=true):eqU x u=eqV y x:=by
  cases y with
  | non=>cases r; rfl
  | bl b=>cases r; rfl
  | int i=>obtain ⟨t,rfl⟩:=r; rfl
  | str z=>obtain ⟨t,rfl⟩:=r; rfl
  | _=>exact absurd (show false=true from f) Bool.false_ne_true
theorem qeu {x:V}:∀ {xs:List V} {us:List Value},Vals xs us→xs.all yd3=true→us.any (eqU x)=xs.any fun y=>eqV y x
  | _,_,.nil,_=>rfl
  | y :: xs,u :: us,.cons r t,f=>by
    rw [List.all_cons,Bool.and_eq_true] at f
    rw [List.any_cons,List.any_cons,eqU_of r f.1,qeu t f.2]
theorem qdf {A:Around} {s:Shared} {x:V} {v:Value} (rx:RelV x v) (fx:yd3 x=true):∀ {xs:List V} {us:List Value},Vals xs us→xs.all yd3=true→∀ u∈us,SeqAt.EqAt A s u v (eqU x u)
  | _,_,.nil,_=>fun u hu=>by cases hu
  | y :: xs,u :: us,.cons r t,f=>fun u' hu=>by
    rw [List.all_cons,Bool.and_eq_true] at f
    rcases List.mem_cons.mp hu with rfl | hu
    · rw [eqU_of r f.1]; exact eqAt_V r rx f.1 fx
    · exact qdf rx fx t f.2 u' hu
def inV (x:V) (xs:List V):Bool:=xs.any fun y=>eqV y x
def rIn (K:PySem.W.Frag) (neg:Bool):R2:=fun x y H Q=>∃ p xs,y=.ref p∧(SqL K H p xs∨SqT K H p xs)∧yd3 x=true∧xs.all yd3=true∧Q (.bl (if neg then !inV x xs else inV x xs)) H
theorem yb1:OpR X (compareOp .In) (rIn X.K false):=by
  intro pins s σ H x y v u Q I rx ry h
  obtain ⟨p,xs,rfl,hq,fx,fs,q⟩:=h
  cases ry
  rcases hq with hq | hq
  · obtain ⟨its,r,pl,hz⟩:=I.list hq
    refine SeqAt.in_listAt (eqU x) pl.isList (fun w hw=>qdf rx fx r fs w (by simpa using hw)) ⟨.bl _,H,I,rfl,?_⟩
    rw [show its.toArray.any (eqU x)=its.any (eqU x) by simp,qeu r fs]
    exact q
  · obtain ⟨its,r,pl,hz⟩:=I.tuple hq
    refine SeqAt.in_tupleAt (eqU x) pl (fun w hw=>qdf rx fx r fs w (by simpa using hw)) ⟨.bl _,H,I,rfl,?_⟩
    rw [show its.toArray.any (eqU x)=its.any (eqU x) by simp,qeu r fs]
    exact q
theorem qf4:OpR X (compareOp .NotIn) (rIn X.K true):=by
  intro pins s σ H x y v u Q I rx ry h
  obtain ⟨p,xs,rfl,hq,fx,fs,q⟩:=h
  cases ry
  rcases hq with hq | hq
  · obtain ⟨its,r,pl,hz⟩:=I.list hq
    refine SeqAt.notIn_listAt (eqU x) pl.isList (fun w hw=>qdf rx fx r fs w (by simpa using hw)) ⟨.bl _,H,I,rfl,?_⟩
    rw [show its.toArray.any (eqU x)=its.any (eqU x) by simp,qeu r fs]
    exact q
  · obtain ⟨its,r,pl,hz⟩:=I.tuple hq
    refine SeqAt.notIn_tupleAt (eqU x) pl (fun w hw=>qdf rx fx r fs w (by simpa using hw)) ⟨.bl _,H,I,rfl,?_⟩
    rw [show its.toArray.any (eqU x)=its.any (eqU x) by simp,qeu r fs]
    exact q
theorem yaf:ycc X (.builtin "len") (fun xs H Q=>∃ p ys,xs=[.ref p]∧(SqL X.K H p ys∨SqT X.K H p ys)∧Q (.int ys.length) H):=by
  intro pins s σ H xs us Q I r h
  obtain ⟨p,ys,rfl,hq,q⟩:=h
  obtain ⟨u,rfl,rx⟩:=yfx r
  cases rx
  have hn:=qe5
  rcases hq with hq | hq
  · obtain ⟨its,r',pl,hz⟩:=I.list hq
    have hlen:=r'.length
    exact Calls.call_len_list pl.isList (by simp only [List.size_toArray] <;> omega) ⟨.int ys.length,H,I.tok _,⟨s.toks + 1,by rw [List.size_toArray,hlen]⟩,q⟩
  · obtain ⟨its,r',pl,hz⟩:=I.tuple hq
    have hlen:=r'.length
    exact len_tuple pl (by simp only [List.size_toArray] <;> omega) ⟨.int ys.length,H,I.tok _,⟨s.toks + 1,by rw [List.size_toArray,hlen]⟩,q⟩
theorem qdz:ycc X (.builtin "len") (fun xs H Q=>∃ z,xs=[.str z]∧z.length≤sizeLine∧Q (.int z.length) H):=by
  intro pins s σ H xs us Q I r h
  obtain ⟨z,rfl,hz,q⟩:=h
  obtain ⟨u,rfl,t,rfl⟩:=yfx r
  have hn:=qe5
  exact len_str (by omega) ⟨.int z.length,H,I.tok _,⟨_,rfl⟩,q⟩
theorem qdv:ycc X (.type "list") (fun xs H Q=>∃ p ys,xs=[.ref p]∧(SqL X.K H p ys∨SqT X.K H p ys)∧∀ l,H l=none→Q (.ref l) (upd H l (.lst ys))):=by
  intro pins s σ H xs us Q I r h
  obtain ⟨p,ys,rfl,hq,q⟩:=h
  obtain ⟨u,rfl,rx⟩:=yfx r
  cases rx
  have fin:∀ (its:List Value),Vals ys its→ys.length≤sizeLine→∀ (h':Heap) (c':Nat),(∀ b o',s.heap.get? b=some o'→h'.get? b=some o')→
      h'.get? s.heap.objs.size=some { cls:=.type "list",dict:=none,data:=.seq its.toArray c',slots:=#[] }→EP X pins σ Q (.ref s.heap.objs.size) { s with heap:=h' }:=fun its r' hz h' c' kp e=>
    ⟨.ref s.heap.objs.size,_,I.laid (t':=s.toks) kp (Nat.le_refl _) (show ya4 X.prog X.w _ h' _ (.lst ys) from ⟨hz,its,c',r',e⟩),rfl,q _ (I.hok.fresh (Nat.le_refl _))⟩
  rcases hq with hq | hq
  · obtain ⟨its,r',pl,hz⟩:=I.list hq
    have hlen:=r'.length
    obtain ⟨o,ho,hc,n,hd⟩:=pl.isList
    exact call_list_seq p (.inl rfl) ho hc hd (fun h' c' kp e=>fin its r' hz h' c' kp e) (by simp only [List.size_toArray] <;> omega)
  · obtain ⟨its,r',pl,hz⟩:=I.tuple hq
    have hlen:=r'.length
    obtain ⟨o,ho,hc,n,hd⟩:=pl
    exact call_list_seq p (.inr rfl) ho hc hd (fun h' c' kp e=>fin its r' hz h' c' kp e) (by simp only [List.size_toArray] <;> omega)
theorem qda:ycc X (.type "tuple") (fun xs H Q=>∃ p ys,xs=[.ref p]∧((SqL X.K H p ys∧∀ l,H l=none→Q (.ref l) (upd H l (.tup ys)))∨(SqT X.K H p ys∧Q (.ref p) H))):=by
  intro pins s σ H xs us Q I r h
  obtain ⟨p,ys,rfl,h⟩:=h
  obtain ⟨u,rfl,rx⟩:=yfx r
  cases rx
  rcases h with ⟨hq,q⟩ | ⟨hq,q⟩
  · obtain ⟨its,r',pl,hz⟩:=I.list hq
    have hlen:=r'.length
    refine call_tuple_list pl.isList (fun h' kp=>?_) (by simp only [List.size_toArray] <;> omega)
    have I1:Inv X pins σ H { s with heap:=h' }:=I.kept (t':=s.toks) kp
    have I2:Inv X pins σ (upd H h'.objs.size (.tup ys)) { s with heap:=h'.push { cls:=.type "tuple",data:=.seq its.toArray } }:=
      I1.laid (t':=s.toks) (fun b o e=>Heap.get?_push_of_some _ e) (Nat.le_refl _) (show ya4 X.prog X.w _ _ _ (.tup ys) from ⟨hz,its,r',IsTup.new _ _⟩)
    exact ⟨.ref h'.objs.size,_,I2,rfl,q _ (I1.hok.fresh (Nat.le_refl _))⟩
  · obtain ⟨its,r',pl,hz⟩:=I.tuple hq
    exact call_tuple_same pl ⟨.ref p,H,I,rfl,q⟩
def tyV (K:PySem.W.Frag) (T:String) (x:V) (H:Hp):Prop:=match x with
  | .str _=>T="str"
  | .int _=>T="int"
  | .ref p=>(T="list"∧∃ xs,SqL K H p xs)∨(T="tuple"∧∃ o,K.lookup p=some o∧o.cls=.type "tuple"∧o.dict=none)∨
      (T="dict"∧((∃ kvs,H p=some (.dK kvs))∨∃ kvs,H p=some (.dT kvs)))∨(T="set"∧∃ S n,H p=some (.set S n))
  | _=>False
theorem tyV_is {pins:List (Addr×Obj)} {σ:St} {H:Hp} {s:Shared} {T:String} {x:V} {v:Value} (I:Inv X pins σ H s) (r:RelV x v) (ty:tyV X.K T x H) :
    s.TypeIs v T∧∀ a,v=.ref a→∃ ob,s.heap.get? a=some ob∧ob.dict=none:=by
  cases x with
  | str z=>
    obtain ⟨t,rfl⟩:=r
    cases (show T="str" from ty)
    exact ⟨typeIs_str s z t,fun _ e=>nomatch e⟩
  | int i=>
    obtain ⟨t,rfl⟩:=r
    cases (show T="int" from ty)
    exact ⟨typeIs_int s i t,fun _ e=>nomatch e⟩
  | ref p=>
    cases r
    rcases ty with ⟨rfl,xs,hq⟩ | ⟨rfl,o,hk,hc,hd⟩ | ⟨rfl,hk⟩ | ⟨rfl,S,n,hk⟩
    · obtain ⟨its,_,pl,_⟩:=I.list hq
      refine ⟨pl.isList.typeIs,fun a e=>?_⟩
      cases e
      obtain ⟨o,n,e,c,hd,_⟩:=pl
      exact ⟨o,e,hd⟩
    · refine ⟨⟨o,I.kIn p o hk,hc⟩,fun a e=>?_⟩
      cases e
      exact ⟨o,I.kIn _ o hk,hd⟩
    · have z:∃ o,s.heap.get? p=some o∧o.ExactDict:=by
        rcases hk with ⟨kvs,hk⟩ | ⟨kvs,hk⟩
        · obtain ⟨_,_,_,_,o,_,_,e,ex,_⟩:=I.hok p _ hk
          exact ⟨o,e,ex⟩
        · obtain ⟨_,_,_,_,o,_,_,e,ex,_⟩:=I.hok p _ hk
          exact ⟨o,e,ex⟩
      obtain ⟨o,e,ex⟩:=z
      refine ⟨⟨o,e,ex.1⟩,fun a e2=>?_⟩
      cases e2
      exact ⟨o,e,ex.2.1⟩
    · obtain ⟨o,_,_,_,e,ex,_⟩:=I.hok p _ hk
      refine ⟨⟨o,e,ex.1⟩,fun a e2=>?_⟩
      cases e2
      exact ⟨o,e,ex.2.1⟩
  | _=>exact False.elim ty
def tBM (K:PySem.W.Frag) (T:String) (r:V→List V→Hp→VK→Prop) (to:TE) (t:TA):TE:=fun σ H Q=>to σ H fun x H1=>tyV K T x H1∧t σ H1 fun xs H2=>r x xs H2 Q
variable {o e:Expr} {es:List Expr} {to:TE} {t:TA} {name:Str} {apos cpos:Pos} {T id:String} {r:V→List V→Hp→VK→Prop}
theorem yew (pa:PlainAttrs T) (slot:Slot T name id) (hty:typeOf (.builtin id)=pure (.type "method_descriptor")) (hm:MtR X id r) (ho:PE X o to) (ha:PA X (e :: es) t)
    (hbase:attributeBase o name X.env (eval o X.env)=eval o X.env:=by rfl)
    (hfew:((backTo cpos (starEach (e :: es) X.env)).all (fun x=>!x.1) && (backToKw cpos (keywordEach [] X.env)).all (fun x=>x.1.isSome)
      && decide ((e :: es).length + ([]:List Keyword).length + (if ([]:List Keyword).isEmpty then 0 else 1) < 30))=true:=by rfl)
    (hline:(apos.endLine == cpos.line)=true:=by rfl) (hs:starEach (e :: es) X.env=(false,eval e X.env) :: starEach es X.env:=by rfl) (hplain:(backTo cpos (starEach es X.env)).any (·.1)=false:=by rfl) :
    PE X (.Call (.Attribute o name apos) (e :: es) [] cpos) (tBM X.K T r to t):=by
  intro pins s σ H Q I h
  refine wpAny_Call_method_late hbase hfew hline rfl (thn (ho pins s σ H _ I h) fun v s1 ⟨x,H1,I1,r1,ty,q1⟩=>?_)
  obtain ⟨h1,h2⟩:=tyV_is I1 r1 ty
  refine ⟨T,id,pa,slot,hty,h1,h2,?_⟩
  have hA:=ha cpos pins s1 σ H1 _ I1 q1
  rw [hs] at hA ⊢
  refine Calls.callWith_builtin (by show (false || (backTo cpos (starEach es X.env)).any (·.1))=false; rw [hplain] <;> rfl) (Calls.evalArgs_plain ?_)
  exact thn hA fun us s2 ⟨vs,H2,I2,r2,q2⟩=>hm pins s2 σ H2 x vs v us Q I2 r1 r2 q2
/- xs.append(e),list.index on a module's tuple .. are MtR facts of 06m -/
end
end L2
namespace L2
open PySem PySem.Spec PyProof.Rows
def MtM (X:Cx) (id:String) (r:V→List V→Hp→VK→Prop):Prop:=
  ∀ (pins:List (Addr×Obj)) (s:Shared) (σ:St) (H:Hp) (x:V) (xs:List V) (v:Value) (us:List Value) (Q:VK),Inv X pins σ H s→RelV x v→Vals xs us→r x xs H Q→
    wpAny (model X.prog X.w) X.A (call (.builtin id) (v :: us)) (EP X pins σ Q) X.xe s
theorem Vals.one:∀ {x:V} {us:List Value},Vals [x] us→∃ u,us=[u]∧RelV x u
  | _,_,.cons r .nil=>⟨_,rfl,r⟩
theorem Vals.rep {xs:List V} {us:List Value} (h:Vals xs us):∀ k:Nat,Vals (List.replicate k xs).flatten (List.replicate k us).flatten
  | 0=>.nil
  | k + 1=>by
    rw [List.replicate_succ,List.replicate_succ,List.flatten_cons,List.flatten_cons]
    exact Vals.append h (Vals.rep h k)
theorem qfw (its:List Value):∀ (k:Nat) (acc:List Value),
    List.foldl (fun x1 x2=>x1++x2) acc.toArray (List.replicate k its.toArray)=(acc++(List.replicate k its).flatten).toArray
  | 0,acc=>by simp
  | k + 1,acc=>by
    have e:acc.toArray++its.toArray=(acc++its).toArray:=by simp
    have e2:(acc++its)++(List.replicate k its).flatten=acc++(List.replicate (k + 1) its).flatten:=by
      rw [List.replicate_succ,List.flatten_cons,List.append_assoc]
    rw [← e2,← qfw its k (acc++its),← e,List.replicate_succ,List.foldl_cons]
section
variable {X:Cx} {pins:List (Addr×Obj)} {σ:St} {H:Hp} {s:Shared} {l b:Addr} {xs ys zs:List V}
theorem Inv.lset {its its':List Value} {n:Nat} {f:Array Value→Array Value} {t':Nat} (I:Inv X pins σ H s) (hH:H l=some (.lst xs))
    (e:s.heap.get? l=some { cls:=.type "list",data:=.seq its.toArray n }) (hf:f its.toArray=its'.toArray) (hv:Vals ys its') (hz:ys.length≤sizeLine) :
    Inv X pins σ (upd H l (.lst ys)) { s with heap:=s.heap.update l (Obj.mapSeq f),toks:=t' }:=by
  have q:=PySem.IsL.update e f
  rw [hf] at q
  refine I.write (x:=l) (e:=l) (by rw [hH]; exact trivial) (.inl rfl) (fun b' u hb hu=>(Heap.get?_update_other s.heap (Obj.mapSeq f) (Ne.symm hb)).trans hu) ⟨_,q⟩ ?_
  exact ⟨hz,its',_,hv,q⟩
theorem Inv.lnew {its:List Value} {t':Nat} (I:Inv X pins σ H s) (hv:Vals ys its) (hz:ys.length≤sizeLine) :
    Inv X pins σ (upd H s.heap.objs.size (.lst ys)) { s with heap:=s.heap.push { cls:=.type "list",data:=.seq its.toArray },toks:=t' }:=
  I.laid (fun _ _ q=>Heap.get?_push_of_some _ q) (Nat.le_refl _) ⟨hz,its,0,hv,Heap.get?_push_size _ rfl⟩
theorem Inv.fresh (I:Inv X pins σ H s):H s.heap.objs.size=none:=I.hok.fresh (Nat.le_refl _)
theorem Inv.lstM (I:Inv X pins σ H s) (hH:H l=some (.lst xs)):xs.length≤sizeLine∧∃ (its:List Value) (n:Nat),Vals xs its∧xs.length=its.length∧s.heap.get? l=some { cls:=.type "list",data:=.seq its.toArray n }:=by
  obtain ⟨z,its,n,r,e⟩:=I.hok l _ hH
  exact ⟨z,its,n,r,r.length,e⟩
theorem qg8 {n:Nat} (h:n≤sizeLine):Builtin.List.listTooLong n=false:=by
  unfold Builtin.List.listTooLong
  exact decide_eq_false (by omega)
end
section
variable {X:Cx}
def rAppend:V→List V→Hp→VK→Prop:=fun x vs H Q=>∃ l xs y,x=.ref l∧vs=[y]∧H l=some (.lst xs)∧xs.length < sizeLine∧Q .non (upd H l (.lst (xs++[y])))
theorem qdi:MtM X "list.append" rAppend:=by
  intro pins s σ H x vs v us Q I rx rv h
  obtain ⟨l,xs,y,rfl,rfl,hH,hz,q⟩:=h
  cases rx
  obtain ⟨u,rfl,ru⟩:=rv.one
  obtain ⟨z,its,n,r,hl,e⟩:=I.lstM hH
  refine call_meets F.slot_list_append ⟨_,e,rfl⟩ F.entry_list_append (F.args_list_append_2 _ _) (PySem.list_append l its.toArray n u (by rw [List.size_toArray]; omega)) ⟨e,?_⟩
  refine ⟨.non,_,I.lset (its':=its++[u]) hH e (by simp) (r.append (.cons ru .nil)) ?_,rfl,q⟩
  rw [List.length_append,List.length_singleton]
  omega
def rExtend:V→List V→Hp→VK→Prop:=fun x vs H Q=>∃ l b xs zs,x=.ref l∧vs=[.ref b]∧H l=some (.lst xs)∧H b=some (.lst zs)∧xs.length + zs.length≤sizeLine∧Q .non (upd H l (.lst (xs++zs)))
theorem qdj:MtM X "list.extend" rExtend:=by
  intro pins s σ H x vs v us Q I rx rv h
  obtain ⟨l,b,xs,zs,rfl,rfl,hH,hB,hz,q⟩:=h
  cases rx
  obtain ⟨u,rfl,ru⟩:=rv.one
  cases ru
  obtain ⟨z,its,n,r,hl,e⟩:=I.lstM hH
  obtain ⟨z2,its2,n2,r2,hl2,e2⟩:=I.lstM hB
  have hsz:its.toArray.size + its2.toArray.size≤sizeLine:=by rw [List.size_toArray,List.size_toArray]; omega
  have hlong:¬ (!its.toArray.isEmpty && Builtin.List.listTooLong (its.toArray.size + its2.toArray.size))=true:=by
    rw [qg8 hsz,Bool.and_false]
    exact Bool.false_ne_true
  refine call_meets F.slot_list_extend ⟨_,e,rfl⟩ F.entry_list_extend (F.args_list_extend_2 _ _)
    (AutoSeq1.list_extend_list_list_0 l its.toArray n b its2.toArray n2 hlong (by rw [List.size_toArray]; omega) (by omega)) ⟨e,e2,?_⟩
  refine ⟨.non,_,I.lset (its':=its++its2) hH e (by simp) (r.append r2) ?_,rfl,q⟩
  rw [List.length_append]
  omega
def rCat:R2:=fun x y H Q=>∃ l b xs zs,x=.ref l∧y=.ref b∧H l=some (.lst xs)∧H b=some (.lst zs)∧xs.length + zs.length≤sizeLine∧∀ p,H p=none→Q (.ref p) (upd H p (.lst (xs++zs)))
theorem qb7:OpR X (binaryOp .Add) rCat:=by
  intro pins s σ H x y v u Q I rx ry h
  obtain ⟨l,b,xs,zs,rfl,rfl,hH,hB,hz,q⟩:=h
  cases rx
  cases ry
  obtain ⟨z,its,n,r,hl,e⟩:=I.lstM hH
  obtain ⟨z2,its2,n2,r2,hl2,e2⟩:=I.lstM hB
  refine PySem.P.add_list e e2 ?_ (by rw [List.size_toArray,List.size_toArray]; omega)
  have ea:its.toArray++its2.toArray=(its++its2).toArray:=by simp
  rw [ea]
  exact ⟨.ref _,_,I.lnew (t':=s.toks) (r.append r2) (by rw [List.length_append]; omega),rfl,q _ I.fresh⟩
def rRep:R2:=fun x y H Q=>∃ l k xs,x=.ref l∧y=.int k∧H l=some (.lst xs)∧-(2 ^ 63)≤k∧k < 2 ^ 63∧xs.length * k.toNat≤sizeLine∧
  ∀ p,H p=none→Q (.ref p) (upd H p (.lst (List.replicate k.toNat xs).flatten))
theorem len_rep {α:Type} (xs:List α) (k:Nat):(List.replicate k xs).flatten.length=k * xs.length:=by
  induction k with
  | zero=>simp
  | succ k ih=>rw [List.replicate_succ,List.flatten_cons,List.length_append,ih,Nat.succ_mul,Nat.add_comm]
theorem yh6:OpR X (binaryOp .Mult) rRep:=by
  intro pins s σ H x y v u Q I rx ry h
  obtain ⟨l,k,xs,rfl,rfl,hH,h1,h2,hz,q⟩:=h
  cases rx
  obtain ⟨t,rfl⟩:=ry
  obtain ⟨z,its,n,r,hl,e⟩:=I.lstM hH
  have hlen:its.toArray.size * k.toNat≤sizeLine:=by rw [List.size_toArray,← hl]; exact hz
  have hcap:¬ its.toArray.size * k.toNat > (2 ^ 63 - 1) / 8:=by
    have:(sizeLine:Nat)≤(2 ^ 63 - 1) / 8:=by decide
    omega
  have hfit:¬ (!Builtin.List.listFitsIndex k)=true:=by
    rw [fitsIndex_both h1 h2]
    exact Bool.false_ne_true
  have hlong:¬ Builtin.List.listTooLong (its.toArray.size * k.toNat)=true:=by
    rw [qg8 hlen]
    exact Bool.false_ne_true
  have hnew:List.foldl (fun x1 x2=>x1++x2) #[] (List.replicate (if its.toArray.isEmpty=true then 0 else k.toNat) its.toArray)=(List.replicate k.toNat its).flatten.toArray:=by
    have f0:∀ m:Nat,List.foldl (fun x1 x2=>x1++x2) #[] (List.replicate m its.toArray)=(List.replicate m its).flatten.toArray:=fun m=>by
      have:=qfw its m []
      rw [List.nil_append] at this
      exact this
    rw [f0]
    cases its with
    | nil=>simp
    | cons a r'=>rw [if_neg (by simp)]
  refine wpAny_binaryOp_repeat_ref (T:="list") (U:="int") (by decide) ⟨_,e,rfl⟩ (fun s'=>typeIs_int s' k t) noFill_list_mul F.fills_int_mul F.slot_int_rmul repeat_list F.slot_int_index.lookup
    (call_meets F.slot_int_rmul (typeIs_int s k t) F.entry_int_rmul (F.args_int_rmul_2 _ _) (int___rmul___int_list k t l its.toArray n)
      ⟨e,rfl,⟨_,e,rfl⟩,call_meets F.slot_list_mul ⟨_,e,rfl⟩ F.entry_list_mul (F.args_list_mul_2 _ _) (AutoListH.list___mul___list_int_3 l its.toArray n k t hfit hcap hlong) ⟨e,?_⟩⟩)
  rw [hnew]
  exact ⟨.ref _,_,I.lnew (t':=s.toks) (r.rep k.toNat) (by rw [len_rep,Nat.mul_comm]; exact hz),rfl,q _ I.fresh⟩
end
end L2
namespace Att
open PySem PySem.W PySem.Calls PyProof.Rows
theorem yem {P:Params} {h:Heap}:∀ (ns:List Int) (vs:List Value),WellAll P h vs (ns.map WData.int)→IntsAre vs ns:=by
  intro ns
  induction ns with
  | nil=>
    intro vs w
    rw [List.map_nil] at w
    cases w
    exact .nil
  | cons n ns ih=>
    intro vs w
    rw [List.map_cons] at w
    cases w with
    | cons a b=>
      cases a
      exact .cons _ _ (ih _ b)
theorem yh4 {l:OpenLaw} {n:Nat} (hn:l.most=some n) {P:Params} {h:Heap} {args:List WData} {vals:List Value}
    (hpre:l.row.toRowW.claim.pre args=true) (hwl:WellAll P h vals args) :
    ∃ a vs ns,vals=[Value.ref a]∧args=[WData.list (ns.map WData.int)]∧h.get? a=some { cls:=.type "list",data:=.seq vs.toArray }∧IntsAre vs ns∧ns.length≤n:=by
  have hsh:WShape.hasAll [] args [.list .int]=true:=(pre_splitW hpre).1
  have hc:l.pre.holds [] { args:=args }=true:=(pre_splitW hpre).2
  obtain ⟨d,r,rfl,h1,h2⟩:=hasAllW_cons hsh
  obtain rfl:=hasAllW_nil h2
  obtain ⟨xs,rfl,h3⟩:=hasW_list h1
  obtain ⟨ns,rfl⟩:=items_int h3
  have hlen:ns.length≤n:=by
    unfold OpenLaw.pre at hc
    have h4:(WTm.not (.lt (.lit (.int (n:Int))) (.len (.arg 0)))).holds [] { args:=[.list (ns.map .int)] }=true:=by
      have h4:=(holds_andW hc).1
      rw [hn] at h4
      exact h4
    have h5:=condW_of h4 (w_not (w_lt w_lit (w_len_list (w_arg rfl))))
    rw [List.length_map] at h5
    refine Nat.le_of_not_lt fun q=>?_
    have q':(n:Int) < ((ns.length:Nat):Int):=by omega
    first
      | (rw [decide_eq_true q'] at h5; exact absurd h5 (by decide))
      | (simp at h5; omega)
  cases hwl with
  | cons w1 w2=>
    cases w2
    cases w1 with
    | list ho hall=>exact ⟨_,_,ns,rfl,rfl,ho,yem ns _ hall,hlen⟩
theorem qh8 (l:OpenLaw) (args:List WData):l.row.toRowW.claim.post args (.bool true) args=true:=
  postW_of (r:=l.row.toRowW) (X:=(true == true))
    (show WShape.has [] (.bool true) .bool=true by first | rfl | decide | simp [WShape.has,WShape.arms,WShape.armsAll])
    (show (WTm.eq .res (.lit (.bool true))).value [] { args:=args,res:=some (.bool true),after:=args }=some (.bool (true == true)) from w_eq_bool (w_res rfl) w_lit) rfl
theorem attach_call {l:OpenLaw} {n:Nat} {q:Program} {loose:List Str} {XP:(Str→Option Value)→Heap→Prop} {YP:World→Heap→Prop} {d:DefRec}
    (hn:l.most=some n) (hdf:d.params.defaults=[])
    (call:∀ (w:World) (s₀ s₁:Shared) (mg mb:Str→Option Value) (fa:Addr) (o:Obj) (pm cd doc:Value) (a:Addr) (vs:List Value) (ns:List Int),
      Ground q loose [] XP w s₀ mg mb s₁.heap→YP w s₁.heap→
      s₁.heap.get? fa=some o→o.data=.func (docDef d.name d.params d.body d.scope pm cd doc)→s₁.heap.CodeRec cd d.name→mg d.name=some (.ref fa)→
      s₁.heap.get? a=some { cls:=.type "list",data:=.seq vs.toArray }→IntsAre vs ns→ns.length≤n→s₁.gens=#[]→
      codeAny (model l.prog w) callerA (.call (.ref fa) ⟨[.ref a],[]⟩) (fun r s'=>r=.ok (.ret (.bool true))∧OldK s₁.heap s'.heap∧s'.os=s₁.os∧AllBare s'.gens) s₁) :
    WalkO q loose XP YP l.row.toRowW d [] (fun f vs=>PySem.call f vs):=by
  intro w s₀ s₁ mg mb G Y fa o pm cd doc dV kV ho hd hcd hD hmg hg args vals as hpre hlay hrd hwl hlo
  obtain rfl:dV=.none:=Dflts.none hD hdf
  obtain rfl:kV=.none:=Dflts.noKw hD
  obtain ⟨a,vs,ns,rfl,rfl,hobj,hints,hlen⟩:=yh4 hn hpre hwl
  refine enter_call (codeAny_mono (call w s₀ s₁ mg mb fa o pm cd doc a vs ns G Y ho (fd_plain hd) hcd hmg hobj hints hlen hg) fun r s' hq=>?_)
  obtain ⟨rfl,h2,h3,h4⟩:=hq
  exact ⟨.inl ⟨.bool true,.bool true,[],rfl,fun _=>rfl,.bool true,qh8 l _,fun _=>⟨List.Pairwise.nil,fun _ hm=>(nomatch hm)⟩⟩,h2,h3,h4⟩
end Att
namespace L2
open PySem PySem.Spec PyProof.Rows
theorem yf3:∀ {vs:List Value} {ns:List Int},IntsAre vs ns→Vals (ns.map V.int) vs
  | _,_,.nil=>.nil
  | _,_,.cons n t h=>.cons ⟨t,rfl⟩ (yf3 h)
def Only (H:Hp):Prop:=∀ b,H b=none∨∃ o xs,H b=some (.frz o (.lst xs))
theorem law_call {P:Program} {w:World} {K:PySem.W.Frag} {mg mb:Str→Option Value} {CX:CXT} {k:Nat} {fa a:Addr} {fd:FuncData} {x:Str} {sp:Sp} {s₁:Shared} {vs:List Value} {ns:List Int}
    (KX:K.In s₁.heap) (hns:s₁.heap.Ns mainGlobals mg) (hb:s₁.heap.Ns builtinsNs mb) (hbb:∀ x:Str,x≠"__name__"→mb x=bootBuiltins x) (hlim:s₁.heap.NoLimit) (hg:s₁.gens=#[])
    (ha:s₁.heap.get? a=some { cls:=.type "list",data:=.seq vs.toArray }) (hi:IntsAre vs ns) (hl:ns.length≤sizeLine) (hr:Room k callerA)
    (F:∀ base:Heap,K.In base→base.Ns mainGlobals mg→FnOk P w K mg base CX k fa fd [x] sp) (hbind:∀ (s:Shared) (u:Value),BindsTo s fd ⟨[u],[]⟩ [(x,u)])
    (hsp:∀ H:Hp,Only H→SqL K H a (ns.map V.int)→sp [.ref a] H (fun v _=>v=.bl true) fun _ _ _=>False)
    (hCX:∀ H e s',CX [] H s₁ (fun _ _ _=>False) e s'→False) :
    codeAny (model P w) callerA (.call (.ref fa) ⟨[.ref a],[]⟩) (fun r s'=>r=.ok (.ret (.bool true))∧OldK s₁.heap s'.heap∧s'.os=s₁.os∧AllBare s'.gens) s₁:=by
  have rv:=yf3 hi
  have lenV:=hi.length
  -- from an abstract heap in which nothing but the script may be tracked
  have core:∀ H:Hp,Only H→SqL K H a (ns.map V.int)→HOk P w H s₁.heap→(∀ b,H b≠none→b=a)→(H a≠none→K.lookup a=none)→
      codeAny (model P w) callerA (.call (.ref fa) ⟨[.ref a],[]⟩) (fun r s'=>r=.ok (.ret (.bool true))∧OldK s₁.heap s'.heap∧s'.os=s₁.os∧AllBare s'.gens) s₁:=by
    intro H hO hS hok hA hK
    have base_of:∀ {b:Addr} {o:Obj},s₁.heap.get? b=some o→H b=none→(hidT s₁.heap H).get? b=some o:=fun e n=>hidT_get e n
    have noA:∀ {b:Addr} {o:Obj} {es:Array DictEntry} {ep:Nat},s₁.heap.get? b=some o→o.data=.dict es ep→H b=none:=fun {b o es ep} e d=>by
      cases q:H b with
      | none=>rfl
      | some u=>
        have e':b=a:=hA b (by rw [q]; simp)
        subst e'
        rw [ha] at e; cases e
        have d':Data.seq vs.toArray _=Data.dict es ep:=d
        cases d'
    have nsK:∀ {b:Addr} {m:Str→Option Value},s₁.heap.Ns b m→(hidT s₁.heap H).Ns b m:=fun {b m} ⟨o,es,ep,e,d,r⟩=>⟨o,es,ep,base_of e (noA e d),d,r⟩
    have hKb:K.In (hidT s₁.heap H):=fun b o e=>base_of (KX b o e) (by
      cases q:H b with
      | none=>rfl
      | some u=>
        have e':b=a:=hA b (by rw [q]; simp)
        subst e'
        rw [hK (by rw [q]; simp)] at e; cases e)
    have hM:Mod K mg (hidT s₁.heap H):=⟨hKb,nsK hns,⟨mb,nsK hb,hbb⟩,let ⟨mc,h1,h2⟩:=hlim; ⟨mc,nsK h1,h2⟩⟩
    have e0:Env0 P w K mg (hidT s₁.heap H) callerA [] s₁ H:=⟨rfl,hM,fun b o e=>of_hidT e,Nat.le_of_eq (qhy _ _),trivial,fun b hb=>absurd (show b∈([]:List Addr) from hb) (by simp),hok,.of_eq hg⟩
    refine codeAny_mono ((F _ hKb (nsK hns)).run callerA [] s₁ H ⟨[.ref a],[]⟩ [.ref a] [.ref a] _ _ hr e0 (hbind s₁ (.ref a)) (.cons rfl .nil) (hsp H hO hS)) fun r s' h=>?_
    cases r with
    | error e=>exact (hCX H e s' h).elim
    | ok fl=>
      cases fl with
      | next=>exact False.elim h
      | brk=>exact False.elim h
      | cont=>exact False.elim h
      | ret u=>
        obtain ⟨v,H',os,bare,un,hok',r',q⟩:=h
        have q':v=.bl true:=q
        subst q'
        obtain rfl:u=Value.bool true:=r'
        refine ⟨rfl,OldK.of_keep fun b o e=>?_,os,bare⟩
        cases q:H b with
        | none=>exact un.keep b o e q (by intro z; exact absurd (show b∈([]:List Addr) from z) (by simp)) (by simp)
        | some u=>
          rcases hO b with z | ⟨ob,xs,z⟩
          · rw [q] at z; cases z
          · have z2:=un.frzs b ob _ z
            obtain ⟨e1,_⟩:=hok b _ z
            obtain ⟨e2,_⟩:=hok' b _ z2
            rw [e] at e1; cases e1
            exact e2
  cases hk:K.lookup a with
  | some o=>
    -- the script is one of the module's own objects
    have e:=KX a o hk
    rw [ha] at e
    cases e
    refine core (fun _=>none) (fun _=>.inl rfl) (.inr ⟨_,vs.toArray,_,hk,rfl,rfl,rfl,by rw [List.size_toArray,lenV]; exact hl,by simpa using rv⟩) (fun b u z=>by have z':(none:Option HO)=some u:=z; cases z') (fun b z=>absurd rfl z) fun z=>absurd rfl z
  | none=>
    refine core (fun b=>if b=a then some (.frz { cls:=.type "list",data:=.seq vs.toArray } (.lst (ns.map V.int))) else none) (fun b=>?_) (.inl (.inr ⟨{ cls:=.type "list",data:=.seq vs.toArray },if_pos rfl⟩)) (fun b u z=>?_) (fun b z=>?_) fun _=>hk
    · by_cases hb:b=a
      · exact .inr ⟨_,_,if_pos hb⟩
      · exact .inl (if_neg hb)
    · by_cases hb:b=a
      · have z':=(if_pos hb).symm.trans z
        cases z'
        subst hb
        exact ⟨ha,by rw [List.length_map]; exact hl,vs,_,rv,ha⟩
      · have z':=(if_neg hb).symm.trans z
        cases z'
    · by_cases hb:b=a
      · exact hb
      · exact absurd (if_neg hb) z
end L2
namespace L2
open PySem PySem.Spec PyProof.Rows
theorem walk_of {l:PySem.W.OpenLaw} {n k:Nat} {q:Program} {loose:List Str} {XP:(Str→Option Value)→Heap→Prop} {YP:World→Heap→Prop} {d:DefRec} {K:Params→PySem.W.Frag} {CX:World→CXT} {sp:World→Sp} {x:Str}
    (hn:l.most=some n) (hn2:n≤sizeLine) (hdf:d.params.defaults=[]) (hr:Room k callerA)
    (hY:∀ (w:World) (h:Heap),YP w h→(K w.params).In h)
    (F:∀ (w:World) (mg:Str→Option Value) (fa:Addr) (h:Heap),(K w.params).In h→h.Ns mainGlobals mg→mg d.name=some (.ref fa)→
      ∃ fd:FuncData,(∀ (s:Shared) (u:Value),BindsTo s fd ⟨[u],[]⟩ [(x,u)])∧
        ∀ base:Heap,(K w.params).In base→base.Ns mainGlobals mg→FnOk l.prog w (K w.params) mg base (CX w) k fa fd [x] (sp w))
    (hsp:∀ (w:World) (H:Hp) (a:Addr) (ns:List Int),ns.length≤n→Only H→SqL (K w.params) H a (ns.map V.int)→sp w [.ref a] H (fun v _=>v=.bl true) fun _ _ _=>False)
    (hCX:∀ (w:World) (H:Hp) (s:Shared) (e:Value) (s':Shared),CX w [] H s (fun _ _ _=>False) e s'→False) :
    PySem.W.WalkO q loose XP YP l.row.toRowW d [] (fun f vs=>PySem.call f vs):=by
  refine Att.attach_call hn hdf fun w s₀ s₁ mg mb fa o pm cd doc a vs ns G Y ho hd hcd hmg hobj hints hlen hg=>?_
  have KX:=hY w _ Y
  obtain ⟨fd,hb,hF⟩:=F w mg fa _ KX G.T.g hmg
  exact law_call KX G.T.g G.T.b G.T.builtins G.T.nolimit hg hobj hints (Nat.le_trans hlen hn2) hr hF hb (fun H hO hS=>hsp w H a ns hlen hO hS) fun H e s'=>hCX w H s₁ e s'
end L2
namespace L2
open PySem PySem.Spec PyProof.Rows
def inClass (s:Stmt) (j:Nat):Stmt:=match s with
  | .ClassDef _ _ _ body _ _ _ _ _ _ _=>body.getD j (.Pass ⟨0,0,0,0⟩)
  | _=>.Pass ⟨0,0,0,0⟩
def yao (s:Stmt):Arguments:=match s with
  | .FunctionDef _ a _ _ _ _ _ _ _ _=>a
  | _=>{ posonlyargs:=[],args:=[],vararg:=none,kwonlyargs:=[],kw_defaults:=[],kwarg:=none,defaults:=[] }
def qaj (s:Stmt):List Stmt:=match s with
  | .FunctionDef _ _ b _ _ _ _ _ _ _=>b
  | _=>[]
def yac (s:Stmt):Scope:=match s with
  | .FunctionDef _ _ _ _ _ _ sc _ _ _=>sc
  | _=>{ kind:=.function,names:=[],isGenerator:=false,isCoroutine:=false }
abbrev CX0:CXT:=fun _ _ _ _ _ _=>False
abbrev E0:XK:=fun _ _ _=>False
theorem pass0 {X:Cx}:yf6 CX0 X E0:=fun _ _ _ _ _ _ _ h=>h.elim
structure Fun (K:PySem.W.Frag) (x qual:Str) (st:Stmt) (f:Addr) (fd:FuncData):Prop where
  ex:∃ (oc:Value) (od:Option Addr) (kV doc pm:Value) (an:Option Addr) (cdv ct:Value) (osl:Array (Option Value)),
    fd=PySem.W.fnOf x qual (yao st) (qaj st) (yac st) .none kV doc pm an cdv ct∧K.lookup f=some ⟨oc,od,.func fd,osl⟩∧PySem.W.codeIn K cdv qual=true
  kp:PySem.W.keepIn K (.ref f)=true
section
variable {P:Program} {w:World} {K:PySem.W.Frag} {mg:Str→Option Value} {base:Heap}
theorem Fun.ok {x qual:Str} {st:Stmt} {f:Addr} {fd:FuncData} {N ps:List Str} {k:Nat} {sp:Sp} (F:Fun K x qual st f fd) (S:FnScope N ps (yac st)) (len:∀ vs H Q E,sp vs H Q E→vs.length=ps.length)
    (hbody:∀ (cdv:Value) (A:Around) (outer:List Env) (s:Shared) (H:Hp) (vs:List V) (Q:VK) (E:XK),Room k (A.deeper (envOfC qual (yac st) s.heap.objs.size f cdv))→sp vs H Q E→
      ∃ t,PSs (cxOf CX0 P w K mg base N qual (yac st) f cdv A outer s H E).nox (qaj st) t∧t { nx:=fun _ H'=>Q .non H',rt:=Q } (ydk N vs) H):FnOk P w K mg base CX0 (k + 1) f fd ps sp:=by
  obtain ⟨oc,od,kV,doc,pm,an,cdv,ct,osl,rfl,lk,hcd⟩:=F.ex
  refine fn_of lk hcd S len fun A outer s H vs Q E hr hsp=>?_
  obtain ⟨t,h,q⟩:=hbody cdv A outer s H vs Q E hr hsp
  exact ⟨t,h.nox,q⟩
theorem Fun.binds {x qual:Str} {st:Stmt} {f:Addr} {fd:FuncData} {ps:List Str} (F:Fun K x qual st f fd)
    (h:∀ (kV doc pm:Value) (an:Option Addr) (cdv ct:Value) (us:List Value),us.length=ps.length→bindArgs (PySem.W.fnOf x qual (yao st) (qaj st) (yac st) .none kV doc pm an cdv ct) ⟨us,[]⟩=pure (ps.zip us)):yde K fd ps []:=by
  obtain ⟨oc,od,kV,doc,pm,an,cdv,ct,osl,rfl,lk,hcd⟩:=F.ex
  exact .all (h kV doc pm an cdv ct)
theorem qi3 {x qual:Str} {st:Stmt} {f:Addr} {oc:Value} {od an:Option Addr} {osl:Array (Option Value)} {kV doc pm cdv ct:Value} (l:K.lookup f=some ⟨oc,od,.func (PySem.W.fnOf x qual (yao st) (qaj st) (yac st) .none kV doc pm an cdv ct),osl⟩)
    (c:PySem.W.codeIn K cdv qual=true) (k:PySem.W.keepIn K (.ref f)=true):Fun K x qual st f (PySem.W.fnOf x qual (yao st) (qaj st) (yac st) .none kV doc pm an cdv ct):=⟨⟨oc,od,kV,doc,pm,an,cdv,ct,osl,rfl,l,c⟩,k⟩
end
theorem hu_of {A:Around} {k:Nat} (hr:Room k A):A.units + 1 < cLine:=Nat.lt_of_le_of_lt (Nat.add_le_add_left (by decide:1≤64) _) hr.units
section
variable {X:Cx}
theorem pv (i:Nat) {x:Str} {pos:Pos} (hN:X.N[i]?=some x:=by rfl) (hv:Vis X.env.scope x:=by first | exact Or.inl rfl | exact Or.inr (Or.inl rfl) | exact Or.inr (Or.inr rfl)) (hd:(x == ("__debug__" : Str))=false:=by decide)
    (hcd:(x == ("__classdict__" : Str))=false:=by decide):PE X (.Name x pos) (tVar i):=pe_var hN hv hd hcd
end
theorem iteF {A B:Prop} (h:B):if false=true then A else B:=by
  rw [if_neg Bool.false_ne_true]
  exact h
theorem iteT {A B:Prop} (h:A):if true=true then A else B:=by
  rw [if_pos rfl]
  exact h
def Same (H H':Hp):Prop:=∀ b o,H b=some o→H' b=some o
theorem Same.refl (H:Hp):Same H H:=fun _ _ h=>h
theorem Same.trans {H H1 H2:Hp} (a:Same H H1) (b:Same H1 H2):Same H H2:=fun c o h=>b c o (a c o h)
theorem Same.free {H H':Hp} (e:Same H H') {l:Addr} (h:H' l=Option.none):H l=Option.none:=by
  cases q:H l with
  | none=>rfl
  | some o=>
    rw [e l o q] at h
    cases h
theorem Same.seq {K:PySem.W.Frag} {H H':Hp} {a:Addr} {xs:List V} (e:Same H H') (h:SqL K H a xs):SqL K H' a xs:=by
  rcases h with (h | ⟨o,h⟩) | h
  · exact .inl (.inl (e _ _ h))
  · exact .inl (.inr ⟨o,e _ _ h⟩)
  · exact .inr h
end L2
set_option Elab.async false
set_option linter.all false
set_option maxRecDepth 100000
namespace L2
open PySem PySem.Spec PyProof.Rows
mutual
inductive At (H:Hp):V→PyData→Prop
  | non:At H .non .none
  | bl (b:Bool):At H (.bl b) (.bool b)
  | int (i:Int):At H (.int i) (.int i)
  | str (x:Str):At H (.str x) (.str x)
  | lst {a:Addr} {vs:List V} {ds:List PyData}:H a=some (.lst vs)→AtAll H vs ds→At H (.ref a) (.list ds)
  | tup {a:Addr} {vs:List V} {ds:List PyData}:H a=some (.tup vs)→AtAll H vs ds→At H (.ref a) (.tuple ds)
inductive AtAll (H:Hp):List V→List PyData→Prop
  | nil:AtAll H [] []
  | cons {v:V} {d:PyData} {vs:List V} {ds:List PyData}:At H v d→AtAll H vs ds→AtAll H (v :: vs) (d :: ds)
end
mutual
theorem At.same {H H':Hp} (s:Same H H'):∀ {v:V} {d:PyData},At H v d→At H' v d
  | _,_,.non=>.non
  | _,_,.bl b=>.bl b
  | _,_,.int i=>.int i
  | _,_,.str x=>.str x
  | _,_,.lst e t=>.lst (s _ _ e) (AtAll.same s t)
  | _,_,.tup e t=>.tup (s _ _ e) (AtAll.same s t)
theorem AtAll.same {H H':Hp} (s:Same H H'):∀ {vs:List V} {ds:List PyData},AtAll H vs ds→AtAll H' vs ds
  | _,_,.nil=>.nil
  | _,_,.cons a b=>.cons (At.same s a) (AtAll.same s b)
end
theorem AtAll.length {H:Hp}:∀ {vs:List V} {ds:List PyData},AtAll H vs ds→vs.length=ds.length
  | _,_,.nil=>rfl
  | _,_,.cons _ b=>congrArg (· + 1) b.length
theorem AtAll.get {H:Hp}:∀ {vs:List V} {ds:List PyData} {i:Nat} {v:V},AtAll H vs ds→vs[i]?=some v→∃ d,ds[i]?=some d∧At H v d
  | _,_,i,_,.nil,h=>by simp at h
  | _,_,0,_,.cons a _,h=>by simp at h; subst h; exact ⟨_,rfl,a⟩
  | _,_,i + 1,v,.cons _ b,h=>by
    obtain ⟨d,h1,h2⟩:=AtAll.get (i:=i) (v:=v) b (by simpa using h)
    exact ⟨d,by simpa using h1,h2⟩
theorem AtAll.getD {H:Hp}:∀ {vs:List V} {ds:List PyData} {i:Nat} {d:PyData},AtAll H vs ds→ds[i]?=some d→∃ v,vs[i]?=some v∧At H v d
  | _,_,i,_,.nil,h=>by simp at h
  | _,_,0,_,.cons a _,h=>by simp at h; subst h; exact ⟨_,rfl,a⟩
  | _,_,i + 1,v,.cons _ b,h=>by
    obtain ⟨d,h1,h2⟩:=AtAll.getD (i:=i) (d:=v) b (by simpa using h)
    exact ⟨d,by simpa using h1,h2⟩
theorem AtAll.append {H:Hp}:∀ {vs ws:List V} {ds es:List PyData},AtAll H vs ds→AtAll H ws es→AtAll H (vs++ws) (ds++es)
  | _,_,_,_,.nil,h=>h
  | _,_,_,_,.cons a b,h=>.cons a (b.append h)
theorem AtAll.take {H:Hp}:∀ {vs:List V} {ds:List PyData} (n:Nat),AtAll H vs ds→AtAll H (vs.take n) (ds.take n)
  | _,_,0,_=>.nil
  | _,_,_ + 1,.nil=>.nil
  | _,_,n + 1,.cons a b=>.cons a (b.take n)
theorem AtAll.drop {H:Hp}:∀ {vs:List V} {ds:List PyData} (n:Nat),AtAll H vs ds→AtAll H (vs.drop n) (ds.drop n)
  | _,_,0,h=>h
  | _,_,_ + 1,.nil=>.nil
  | _,_,n + 1,.cons _ b=>b.drop n
theorem AtAll.snoc {H:Hp} {vs:List V} {ds:List PyData} {v:V} {d:PyData} (h:AtAll H vs ds) (a:At H v d):AtAll H (vs++[v]) (ds++[d]):=h.append (.cons a .nil)
mutual
theorem At.reads {P:Program} {w:World} {H:Hp} {h:Heap} (ok:HOk P w H h):∀ {v:V} {d:PyData} {u:Value},At H v d→RelV v u→∃ as,Reads h u d as
  | _,_,_,.non,r=>by cases r; exact ⟨_,.none⟩
  | _,_,_,.bl b,r=>by cases r; exact ⟨_,.bool b⟩
  | _,_,_,.int i,r=>by obtain ⟨t,rfl⟩:=r; exact ⟨_,.int i t⟩
  | _,_,_,.str x,r=>by obtain ⟨t,rfl⟩:=r; exact ⟨_,.str x t⟩
  | _,_,_,.lst e t,r=>by
    cases r
    obtain ⟨z,its,n,rv,ho⟩:=ok _ _ e
    obtain ⟨as,q⟩:=AtAll.reads ok t rv
    exact ⟨_,.list ho rfl rfl (by simpa using q)⟩
  | _,_,_,.tup e t,r=>by
    cases r
    obtain ⟨z,its,rv,o,ho,hc,n,hd⟩:=ok _ _ e
    obtain ⟨as,q⟩:=AtAll.reads ok t rv
    exact ⟨_,.tuple ho hc hd (by simpa using q)⟩
theorem AtAll.reads {P:Program} {w:World} {H:Hp} {h:Heap} (ok:HOk P w H h):∀ {vs:List V} {ds:List PyData} {us:List Value},AtAll H vs ds→Vals vs us→∃ as,ReadsAll h us ds as
  | _,_,_,.nil,.nil=>⟨_,.nil⟩
  | _,_,_,.cons a b,.cons r s=>by
    obtain ⟨as,q⟩:=At.reads ok a r
    obtain ⟨bs,q2⟩:=AtAll.reads ok b s
    exact ⟨_,.cons q q2⟩
end
mutual
theorem At.noDict {H:Hp}:∀ {v:V} {d:PyData},At H v d→d.hasDict=false
  | _,_,.non=>by simp [PyData.hasDict]
  | _,_,.bl b=>by simp [PyData.hasDict]
  | _,_,.int i=>by simp [PyData.hasDict]
  | _,_,.str x=>by simp [PyData.hasDict]
  | _,_,.lst e t=>by simp only [PyData.hasDict]; exact AtAll.noDict t
  | _,_,.tup e t=>by simp only [PyData.hasDict]; exact AtAll.noDict t
theorem AtAll.noDict {H:Hp}:∀ {vs:List V} {ds:List PyData},AtAll H vs ds→PyData.hasDictAll ds=false
  | _,_,.nil=>by simp [PyData.hasDictAll]
  | _,_,.cons a b=>by simp only [PyData.hasDictAll,At.noDict a,AtAll.noDict b,Bool.or_self]
end
section
variable {X:Cx}
def rRepr:List V→Hp→VK→Prop:=fun xs H Q=>∃ x d,xs=[x]∧At H x d∧d.showable=true∧d.depth≤60∧d.shown.length≤sizeLine∧Q (.str d.shown) H
theorem yje {k:Nat} (hr:Room k X.A):ycc X (.builtin "repr") rRepr:=by
  intro pins s σ H xs us Q I r h
  obtain ⟨x,d,rfl,ha,hs,hd,hz,q⟩:=h
  cases r with
  | cons r rr=>
    cases rr
    cases ha with
    | non=>cases r; rw [PyData.shown_none] at q; exact PySem.P.repr_of_none ⟨.str _,H,I.tok _,⟨_,rfl⟩,q⟩
    | bl b=>cases r; rw [PyData.shown_bool] at q; exact PySem.P.repr_of_bool ⟨.str _,H,I.tok _,⟨_,rfl⟩,q⟩
    | int i=>
      obtain ⟨t,rfl⟩:=r
      rw [PyData.shown_int] at q
      simp only [PyData.showable,decide_eq_true_eq] at hs
      exact PySem.P.repr_of_int hs ⟨.str _,H,I.tok _,⟨_,rfl⟩,q⟩
    | str x=>
      obtain ⟨t,rfl⟩:=r
      rw [PyData.shown_str] at q hz
      exact PySem.P.repr_of_str ⟨.str _,H,I.tok _,⟨_,rfl⟩,q⟩ hz
    | lst e t=>
      cases r
      have hA:=At.lst e t
      obtain ⟨as,rd⟩:=hA.reads I.hok (u:=.ref _) rfl
      have hu:=hr.units
      refine repr_of_reads' rd hs (PyData.noDict_hsm hA.noDict) hr.gd (by omega) (fun _ _ z=>z) (fun h' u tk hk=>?_) hz
      exact ⟨.str _,H,I.kept hk,⟨_,rfl⟩,q⟩
    | tup e t=>
      cases r
      have hA:=At.tup e t
      obtain ⟨as,rd⟩:=hA.reads I.hok (u:=.ref _) rfl
      have hu:=hr.units
      refine repr_of_reads' rd hs (PyData.noDict_hsm hA.noDict) hr.gd (by omega) (fun _ _ z=>z) (fun h' u tk hk=>?_) hz
      exact ⟨.str _,H,I.kept hk,⟨_,rfl⟩,q⟩
end
section
variable {X:Cx} {pins:List (Addr×Obj)} {σ:St} {H:Hp} {s:Shared} {h':Heap}
theorem Inv.turnedL {ch:List Addr} {a:Addr} {o:HO} {t':Nat} (I:Inv X pins σ H s) (k:∀ b u,b∉ch→s.heap.get? b=some u→h'.get? b=some u) (hf:∀ b∈ch,FpOk X pins H b)
    (hp:s.heap.objs.size≤a) (new:ya4 X.prog X.w (upd H a o) h' a o):Inv X pins σ (upd H a o) { s with heap:=h',toks:=t' }:=by
  have hn:H a=none:=I.hok.fresh hp
  have nit:∀ b u,H b=some u→b∉ch:=fun b u e z=>by rw [(hf b z).1] at e; cases e
  refine I.step (g':=s.gens) (d':=s.drawn) (ch:=ch) (fun b hb=>?_) (fun b u _ _ hc e _=>k b u hc e) (fun b u _ _ hc e _=>⟨u.slots,k b u hc e⟩) (fun b u _ e n=>?_)
    (fun b u hc e=>⟨u,k b u hc e⟩) (fun b xs e=>?_) (fun b u xs e=>?_) (fun b ps e=>⟨#[],?_⟩) (fun m hm=>?_) (fun b u e=>?_) I.bare
  · obtain ⟨_,f1,_,f3,f4,f5⟩:=hf b hb
    exact ⟨f3,f1,f4,f5⟩
  · rw [qaf (Nat.ne_of_lt (Nat.lt_of_lt_of_le (Heap.lt_size e) hp))]; exact n
  · rw [qaf (qag e hn)]; exact e
  · rw [qaf (qag e hn)]; exact e
  · rw [qaf (qag e hn),e]; simp
  · obtain ⟨ob,es,ep,ho,r⟩:=hm
    exact ⟨ob,es,ep,k _ ob (fun z=>(hf _ z).2.1 rfl) ho,r⟩
  · by_cases hb:b=a
    · subst hb; rw [qaa] at e; cases e; exact new
    · rw [qaf hb] at e
      refine (I.hok b u e).stay (fun c v hc q=>k c v ?_ q) (fun c q=>by rw [qaf (qag q hn)]; exact q) fun c xs q=>by rw [qaf (qag q hn)]; exact q
      rcases hc with rfl | hc
      · exact nit _ u e
      · exact nit c _ hc
end
def Ite (K:PySem.W.Frag) (a:Addr):It:=
  ⟨fun i H=>∃ xs x,SqL K H a xs∧xs[i]?=some x,fun i H x H'=>∃ p y,H p=none∧x=.ref p∧H'=upd H p (.tup [.int i,y])∧∀ xs,SqL K H a xs→xs[i]?=some y,fun i H=>∃ xs,SqL K H a xs∧xs.length≤i⟩
theorem yit {P:Program} {w:World} {K:PySem.W.Frag} {es:List Expr} {k:Nat} {tp:Pos} (a e it:Addr) (hne:e≠it) :
    Turn P w K (.Tuple es k tp) (Ite K a) [e,it] e (fun i h=>(∃ old,IsEnum h e it i old)∧h.IsListIter it a i) where
  mem:=by simp
  obj:=fun i h st b hb=>by
    obtain ⟨⟨old,he⟩,o,ho,hc,hd⟩:=st
    have hb':b=e∨b=it:=by simpa using hb
    rcases hb' with rfl | rfl
    · exact ⟨_,he,fun v z=>by
        have z':Data.fields _=Data.cell v:=z
        cases z'⟩
    · exact ⟨o,ho,fun v z=>by rw [hd] at z; cases z⟩
  keep:=fun i h h' st kk=>⟨st.1.imp fun _ z=>kk e (by simp) _ z,st.2.at fun o z=>kk it (by simp) o z⟩
  item:=by
    intro X hP hw hK hc i pins s σ H E I hf st hg
    subst hP hw hK
    obtain ⟨xs,x,hq,hx⟩:=hg
    obtain ⟨its,rv,p,hz⟩:=I.list hq
    obtain ⟨u,hu,ru⟩:=rv.get hx
    obtain ⟨⟨old,he⟩,hit⟩:=st
    refine wpAny_pyNext_enum_item he hit p.isList (x:=u) (by simpa using hu) hne fun h' ho hit' hT hsz hk=>?_
    have hel:e < s.heap.objs.size:=Heap.lt_size he
    have hil:it < s.heap.objs.size:=by obtain ⟨_,z,_⟩:=hit; exact Heap.lt_size z
    refine ⟨_,rfl,wpAny_letOwnedTupleGo_enum ho fun h2 he2 hs2=>?_⟩
    have keep2:∀ b ob,b∉[e,it]→s.heap.get? b=some ob→h2.get? b=some ob:=fun b ob hb z=>by
      have h1:b≠e:=fun q=>hb (by simp [q])
      have h3:b≠it:=fun q=>hb (by simp [q])
      exact (hs2.2 b h1).trans (hk b ob h1 h3 z)
    have hT2:h2.get? s.heap.objs.size=some { cls:=.type "tuple",data:=.seq #[.int i s.toks,u] }:=(hs2.2 _ (Nat.ne_of_gt hel)).trans hT
    have fresh:H s.heap.objs.size=none:=I.hok.fresh (Nat.le_refl _)
    have new:ya4 X.prog X.w (upd H s.heap.objs.size (.tup [.int i,x])) h2 s.heap.objs.size (.tup [.int i,x]):=
      ⟨by show 2≤sizeLine; decide,[.int i s.toks,u],.cons ⟨_,rfl⟩ (.cons ru .nil),⟨_,hT2,rfl,_,rfl⟩⟩
    refine ⟨.ref s.heap.objs.size,upd H s.heap.objs.size (.tup [.int i,x]),I.turnedL keep2 hf (Nat.le_refl _) new,rfl,⟨_,x,fresh,rfl,rfl,fun ys hy=>by rw [I.list_inj hy hq]; exact hx⟩,⟨⟨_,by simpa using he2⟩,hit'.at fun o z=>(hs2.2 it hne.symm).trans z⟩,fun b hb=>?_⟩
    rw [qaf]
    · exact (hf b hb).1
    · have hb':b=e∨b=it:=by simpa using hb
      rcases hb' with rfl | rfl
      · exact Nat.ne_of_lt hel
      · exact Nat.ne_of_lt hil
  done:=by
    intro X hP hw hK hc i pins s σ H E I hf st hg
    subst hP hw hK
    obtain ⟨xs,hq,hx⟩:=hg
    obtain ⟨its,rv,p,hz⟩:=I.list hq
    obtain ⟨⟨old,he⟩,hit⟩:=st
    have hl:=rv.length
    obtain ⟨f0,f1,f2,f3,f4,f5⟩:=hf it (by simp)
    exact wpAny_pyNext_enum_end (I.ok.hd hc) he hit p.isList (by simp; omega) fun h' eb=>⟨rfl,I.turned (t':=s.toks) (fun b o hb z=>eb b o hb z) f0 f1 f3 f4 f5⟩
  self:=fun _ _ _ _ _ st h=>wpAny_pyIter_enum st.1.choose_spec h
def iEnum (K:PySem.W.Frag) (ta:TA):TI:=fun σ H R=>ta σ H fun vs H1=>∃ a xs,vs=[.ref a]∧SqL K H1 a xs∧R (Ite K a) H1
section
variable {X:Cx}
theorem qfl {a:Expr} {ta:TA} {p pos tp:Pos} {es:List Expr} {k:Nat} (hg:Gl X "enumerate") (hm:X.mg "enumerate" = none) (ha:PA X [a] ta) (hs:starEach [a] X.env=[(false,eval a X.env)]:=by rfl) :
    PI X (.Tuple es k tp) (.Call (.Name "enumerate" p) [a] [] pos) (iEnum X.K ta):=by
  intro pins s σ H R I h
  refine Call_ (ycu I hg hm boot_enumerate (PyProof.Rows.callWith_type1 (thn (ha pos pins s σ H _ I h) fun us s1 ⟨vs,H1,I1,r1,q1⟩=>?_) hs rfl))
  obtain ⟨l,xs,e,hq,q⟩:=q1
  subst e
  cases r1 with
  | cons r rr=>
    cases rr
    cases r
    obtain ⟨its,rv,pl,hz⟩:=I1.list hq
    refine call_enumerate_list pl.isList fun h' he hit hsz hk=>?_
    refine wpAny_pyIter_enum he ⟨_,[s1.heap.objs.size + 1,s1.heap.objs.size],_,Ite X.K l,H1,rfl,I1.kept (t':=s1.toks) hk,yit l (s1.heap.objs.size + 1) s1.heap.objs.size (Nat.succ_ne_self _),⟨⟨_,he⟩,hit⟩,fun b hb=>?_,q⟩
    have hb':b=s1.heap.objs.size + 1∨b=s1.heap.objs.size:=by simpa using hb
    rcases hb' with rfl | rfl
    · exact I1.fpOk (Nat.le_succ _) (I1.hok.fresh (Nat.le_succ _))
    · exact I1.fpOk (Nat.le_refl _) (I1.hok.fresh (Nat.le_refl _))
end
theorem qd6 {K:PySem.W.Frag} {a:Addr} {xs:List V} {g:TG} {tb:TS} {D:Ends} {σ:St} {H:Hp} (Pv:Nat→St→Hp→Prop) (h0:Pv 0 σ H) (hl:∀ i σ H,i≤xs.length→Pv i σ H→SqL K H a xs)
    (hs:∀ i x p σ H,xs[i]?=some x→Pv i σ H→H p=none→g (.ref p) σ (upd H p (.tup [.int i,x])) fun σ2 H2=>tb { D with nx:=Pv (i + 1),ct:=Pv (i + 1),bk:=D.nx } σ2 H2) (hd:∀ σ H,Pv xs.length σ H→D.nx σ H) :
    ∃ W:Nat→Nat→St→Hp→Prop,(∃ m,W 0 m σ H)∧∀ i m σ H,W i m σ H→
      ((Ite K a).stop i H∧D.nx σ H)∨((Ite K a).go i H∧∃ N:St→Hp→Prop,(∀ σ' H',N σ' H'→∃ m',m' < m∧W (i + 1) m' σ' H')∧∀ x H',(Ite K a).yld i H x H'→g x σ H' fun σ2 H2=>tb { D with nx:=N,ct:=N,bk:=D.nx } σ2 H2):=by
  refine ⟨fun i m σ H=>m=xs.length - i∧i≤xs.length∧Pv i σ H,⟨xs.length,by simp,Nat.zero_le _,h0⟩,?_⟩
  rintro i m σ H ⟨rfl,hi,p⟩
  have q:=hl i σ H hi p
  by_cases hlt:i < xs.length
  · refine .inr ⟨⟨xs,xs[i],q,by simp [hlt]⟩,Pv (i + 1),fun σ' H' p'=>⟨xs.length - (i + 1),by omega,rfl,hlt,p'⟩,fun x H' y=>?_⟩
    obtain ⟨pp,z,hn,e1,e2,y⟩:=y
    subst e1 e2
    exact hs i z pp σ _ (y xs q) p hn
  · have e:i=xs.length:=by omega
    subst e
    exact .inl ⟨⟨xs,q,Nat.le_refl _⟩,hd σ H p⟩
end L2
set_option Elab.async false
set_option linter.all false
set_option maxRecDepth 100000
namespace L2
open PySem PySem.Spec PyProof.Rows
def clOf (cells:List (Str×Addr)):List (Str×NameKind)→List (Str×Addr)→List (Str×Addr)
  | [],cs=>cs
  | (n,k) :: r,cs=>if k=.free then clOf cells r ((n,(cells.lookup n).getD 0) :: cs) else clOf cells r cs
theorem qcs {scope:Scope} {env:Env} (h:∀ x∈scope.names,x.2=.free→∃ c,env.cells.lookup x.1=some c):closureFor scope env=pure (clOf env.cells scope.names []):=by
  unfold closureFor
  generalize hn:scope.names=names at h
  suffices hh:∀ (l:List (Str×NameKind)) (cs:List (Str×Addr)),(∀ x∈l,x.2=.free→∃ c,env.cells.lookup x.1=some c)→
      (forIn l cs (fun (x:Str×NameKind) r=>if (x.2 == NameKind.free)=true then (do let a ← cellOf env x.1; pure (ForInStep.yield ((x.1,a) :: r))) else pure (ForInStep.yield r)):Sem (List (Str×Addr)))=pure (clOf env.cells l cs) by
    have:=hh names [] h
    simp only [bind_pure]
    exact this
  intro l
  induction l with
  | nil=>intro cs _; rfl
  | cons x l ih=>
    intro cs hl
    obtain ⟨n,k⟩:=x
    rw [List.forIn_cons]
    by_cases hk:k=.free
    · subst hk
      obtain ⟨c,hc⟩:=hl (n,.free) List.mem_cons_self rfl
      have e1:cellOf env n=pure c:=by unfold cellOf; rw [hc]
      have ec:clOf env.cells ((n,NameKind.free) :: l) cs=clOf env.cells l ((n,c) :: cs):=by
        show (if NameKind.free=NameKind.free then _ else _)=_
        rw [if_pos rfl,hc]; rfl
      rw [ec]
      simp only [e1,pure_bind,beq_self_eq_true,if_true]
      exact ih _ fun y hy=>hl y (List.mem_cons_of_mem _ hy)
    · have hb:(k == NameKind.free)=false:=by cases k <;> first | rfl | exact absurd rfl hk
      have ec:clOf env.cells ((n,k) :: l) cs=clOf env.cells l cs:=by
        show (if k=NameKind.free then _ else _)=_
        rw [if_neg hk]
      rw [ec]
      simp only [hb,pure_bind,Bool.false_eq_true,if_false]
      exact ih _ fun y hy=>hl y (List.mem_cons_of_mem _ hy)
theorem qc1 {cells:List (Str×Addr)}:∀ {l:List (Str×NameKind)} {cs:List (Str×Addr)},(∀ x∈l,x.2=.free→∃ c,cells.lookup x.1=some c)→(∀ p∈cs,cells.lookup p.1=some p.2)→∀ p∈clOf cells l cs,cells.lookup p.1=some p.2
  | [],_,_,h=>h
  | (n,k) :: r,cs,hl,h=>by
    unfold clOf
    split
    · rename_i hk
      refine qc1 (fun x hx=>hl x (List.mem_cons_of_mem _ hx)) fun p hp=>?_
      rcases List.mem_cons.mp hp with rfl | hp
      · obtain ⟨c,hc⟩:=hl (n,k) List.mem_cons_self hk
        show cells.lookup n=some ((cells.lookup n).getD 0)
        have hc':cells.lookup n=some c:=hc
        rw [hc']; rfl
      · exact h p hp
    · exact qc1 (fun x hx=>hl x (List.mem_cons_of_mem _ hx)) h
theorem qdd {l:List (Str×Addr)} {x:Str} (h:∃ c,(x,c)∈l):∃ c,l.lookup x=some c:=by
  obtain ⟨c,h⟩:=h
  induction l with
  | nil=>cases h
  | cons p r ih=>
    obtain ⟨y,d⟩:=p
    by_cases e:(x == y)=true
    · exact ⟨d,by rw [List.lookup_cons,e]⟩
    · have e':(x == y)=false:=by simpa using e
      rcases List.mem_cons.mp h with q | q
      · cases q; exact absurd (beq_self_eq_true _) e
      · obtain ⟨c',z⟩:=ih q
        exact ⟨c',by rw [List.lookup_cons,e']; exact z⟩
theorem yd8 {cells:List (Str×Addr)} {x:Str}:∀ {l:List (Str×NameKind)} {cs:List (Str×Addr)},((x,NameKind.free)∈l∨∃ c,(x,c)∈cs)→∃ c,(x,c)∈clOf cells l cs
  | [],_,h=>by
    rcases h with h | h
    · cases h
    · exact h
  | (n,k) :: r,cs,h=>by
    unfold clOf
    split
    · rename_i hk
      refine yd8 ?_
      rcases h with h | ⟨c,h⟩
      · rcases List.mem_cons.mp h with q | q
        · cases q; exact .inr ⟨_,List.mem_cons_self⟩
        · exact .inl q
      · exact .inr ⟨c,List.mem_cons_of_mem _ h⟩
    · rename_i hk
      refine yd8 ?_
      rcases h with h | h
      · rcases List.mem_cons.mp h with q | q
        · cases q; exact absurd rfl hk
        · exact .inl q
      · exact .inr h
theorem ydw {env:Env} {x:Str}:∀ {l:List (Str×NameKind)},l.lookup x=some .free→
    (l.map fun (n,k)=>if (k == NameKind.free && env.scope.kind == .function && env.kindOf n == some .cell) then (n,NameKind.cell) else (n,k)).lookup x=some .cell∨
    (l.map fun (n,k)=>if (k == NameKind.free && env.scope.kind == .function && env.kindOf n == some .cell) then (n,NameKind.cell) else (n,k)).lookup x=some .free
  | [],h=>by simp at h
  | (n,k) :: r,h=>by
    rw [List.map_cons]
    cases hx:x == n with
    | true=>
      rw [List.lookup_cons,hx] at h
      cases h
      by_cases hc:(NameKind.free == NameKind.free && env.scope.kind == .function && env.kindOf n == some .cell)=true
      · left; simp only [hc,if_true,List.lookup_cons,hx]
      · right; simp only [hc,Bool.false_eq_true,if_false,List.lookup_cons,hx]
    | false=>
      rw [List.lookup_cons,hx] at h
      have ih:=ydw (env:=env) (l:=r) h
      by_cases hc:(k == NameKind.free && env.scope.kind == .function && env.kindOf n == some .cell)=true
      · simp only [hc,if_true,List.lookup_cons,hx]; exact ih
      · simp only [hc,Bool.false_eq_true,if_false,List.lookup_cons,hx]; exact ih
theorem yer {env:Env} {x:Str}:∀ {l:List (Str×NameKind)},(∀ y∈l,y.2≠.cell)→
    ((l.map fun (n,k)=>if (k == NameKind.free && env.scope.kind == .function && env.kindOf n == some .cell) then (n,NameKind.cell) else (n,k)).lookup x=some .cell∨
    (l.map fun (n,k)=>if (k == NameKind.free && env.scope.kind == .function && env.kindOf n == some .cell) then (n,NameKind.cell) else (n,k)).lookup x=some .free)→(x,NameKind.free)∈l
  | [],_,h=>by simp at h
  | (n,k) :: r,hn,h=>by
    rw [List.map_cons] at h
    cases hx:x == n with
    | true=>
      have e:x=n:=by simpa using hx
      subst e
      by_cases hc:(k == NameKind.free && env.scope.kind == .function && env.kindOf x == some .cell)=true
      · have:k=.free:=by
          simp only [Bool.and_eq_true,beq_iff_eq] at hc
          exact hc.1.1
        subst this
        exact List.mem_cons_self
      · simp only [hc,Bool.false_eq_true,if_false,List.lookup_cons,hx,Option.some.injEq] at h
        rcases h with h | h
        · exact absurd h (hn (x,k) List.mem_cons_self)
        · subst h; exact List.mem_cons_self
    | false=>
      have h':(r.map fun (n,k)=>if (k == NameKind.free && env.scope.kind == .function && env.kindOf n == some .cell) then (n,NameKind.cell) else (n,k)).lookup x=some .cell∨
          (r.map fun (n,k)=>if (k == NameKind.free && env.scope.kind == .function && env.kindOf n == some .cell) then (n,NameKind.cell) else (n,k)).lookup x=some .free:=by
        by_cases hc:(k == NameKind.free && env.scope.kind == .function && env.kindOf n == some .cell)=true
        · simp only [hc,if_true,List.lookup_cons,hx] at h; exact h
        · simp only [hc,Bool.false_eq_true,if_false,List.lookup_cons,hx] at h; exact h
      exact List.mem_cons_of_mem _ (yer (fun y hy=>hn y (List.mem_cons_of_mem _ hy)) h')
def qa8 (X:Cx) (M:List Str) (scope:Scope) (C:Addr) (fp:List Addr) (s2:Shared) (H2:Hp):Cx:=
  { prog:=X.prog,w:=X.w,K:=X.K,mg:=X.mg,base:=X.base,A:=X.A,N:=M,s₀:=s2,H₀:=H2,env:=compEnvC scope (clOf X.env.cells scope.names []) C X.env,
    outer:=X.stack,stack:=X.stack,ex:=fp,fn:=fun _=>false,calm:=X.calm,pn:=[],xe:=fun _ _=>False }
def capS (ix:List (Option Nat)) (σ:St):St:=ix.map fun o=>match o with
  | none=>none
  | some j=>(σ[j]?).getD none
structure CompOk (N M:List Str) (ix:List (Option Nat)) (sc xs:Scope):Prop where
  kind:sc.kind=.function
  len:M.length=ix.length
  nocell:∀ y∈sc.names,y.2≠.cell
  loc:∀ y∈sc.names,y.2=.local→sc.names.lookup y.1=some .local
  fr:∀ y∈sc.names,y.2=.free→xs.names.lookup y.1=some .cell∨xs.names.lookup y.1=some .free
  cap:∀ (i:Nat) (j:Nat),ix[i]?=some (some j)→∃ x,M[i]?=some x∧N[j]?=some x∧sc.names.lookup x=some .free
def yi3 (N M:List Str) (ix:List (Option Nat)) (sc xs:Scope):Bool:=
  decide (sc.kind=.function) && decide (M.length=ix.length) && sc.names.all (fun y=>decide (y.2≠.cell)) && sc.names.all (fun y=>decide (y.2≠.local) || decide (sc.names.lookup y.1=some .local)) &&
  sc.names.all (fun y=>decide (y.2≠.free) || decide (xs.names.lookup y.1=some .cell) || decide (xs.names.lookup y.1=some .free)) &&
  (List.range ix.length).all (fun i=>match ix[i]? with
    | some (some j)=>match M[i]? with
      | some x=>decide (N[j]?=some x) && decide (sc.names.lookup x=some .free)
      | none=>false
    | _=>true)
theorem ya1 {N M:List Str} {ix:List (Option Nat)} {sc xs:Scope} (h:yi3 N M ix sc xs=true):CompOk N M ix sc xs:=by
  unfold yi3 at h
  simp only [Bool.and_eq_true,List.all_eq_true,decide_eq_true_eq,Bool.or_eq_true] at h
  obtain ⟨⟨⟨⟨⟨h1,h2⟩,h3⟩,h4⟩,h5⟩,h6⟩:=h
  refine ⟨h1,h2,h3,fun y hy e=>?_,fun y hy e=>?_,fun i j e=>?_⟩
  · rcases h4 y hy with q | q
    · exact absurd e q
    · exact q
  · rcases h5 y hy with (q | q) | q
    · exact absurd e q
    · exact .inl q
    · exact .inr q
  · have hi:i < ix.length:=(List.getElem?_eq_some_iff.mp e).1
    have q:=h6 i (List.mem_range.mpr hi)
    rw [e] at q
    cases hm:M[i]? with
    | none=>rw [hm] at q; cases q
    | some x=>
      rw [hm] at q
      simp only [Bool.and_eq_true,decide_eq_true_eq] at q
      exact ⟨x,rfl,q.1,q.2⟩
section
variable {X:Cx}
def PTs (X:Cx) (ifs:List Expr) (t:TT):Prop:=
  ∀ (pins:List (Addr×Obj)) (s:Shared) (σ:St) (H:Hp) (Q:Bool→Hp→Prop),Inv X pins σ H s→t σ H Q→
    wpAny (model X.prog X.w) X.A (forIn ifs true fun c r=>if r=true then do let ok ← isTrue c X.env (eval c X.env); pure (ForInStep.yield ok) else pure (ForInStep.yield r)) (TP X pins σ Q) X.xe s
def tYes:TT:=fun _ H Q=>Q true H
theorem ycq:PTs X [] tYes:=fun _ _ _ H _ I h=>wpAny_tests_nil ⟨H,I,h⟩
theorem ydq {c:Expr} {t:TT} (h:PT X c t):PTs X [c] t:=fun pins s σ H Q I hq=>wpAny_tests_one (h pins s σ H Q I hq)
end
theorem Un.butNew {fs ex:List Addr} {H H':Hp} {h h1 h2:Heap} {C:Addr} (u:Un fs ex H H' h h1) (hC:h.objs.size≤C) (sb:Heap.SameBut C h1 h2):Un fs ex H H' h h2:=by
  have ne:∀ b o,h.get? b=some o→b≠C:=fun b o e=>Nat.ne_of_lt (Nat.lt_of_lt_of_le (Heap.lt_size e) hC)
  refine ⟨fun b o e n h3 h4=>(sb.2 b (ne b o e)).trans (u.keep b o e n h3 h4),fun b o e n h3 h4=>?_,u.free,fun b o e h4=>?_,u.tups,u.frzs,u.tbls⟩
  · obtain ⟨sl,q⟩:=u.slot b o e n h3 h4
    exact ⟨sl,(sb.2 b (ne b o e)).trans q⟩
  · obtain ⟨o',q⟩:=u.there b o e h4
    exact ⟨o',(sb.2 b (ne b o e)).trans q⟩
section
variable {X:Cx} {pins:List (Addr×Obj)} {σ:St} {H2:Hp} {s2:Shared} {M:List Str} {ix:List (Option Nat)} {scope:Scope} {fp:List Addr}
theorem comp_ok {C:Addr} (I:Inv X pins σ H2 s2) (ck:CompOk X.N M ix scope X.env.scope) (hC:s2.heap.objs.size≤C) (f2:∀ b∈fp,FpOk X pins H2 b) (hfp:∀ b∈fp,b < s2.heap.objs.size):(qa8 X M scope C fp s2 H2).Ok:=by
  have hfree:∀ x∈scope.names,x.2=.free→∃ c,X.env.cells.lookup x.1=some c:=fun x hx e=>I.ok.has x.1 (ck.fr x hx e)
  have snd:∀ x c,(clOf X.env.cells scope.names []).lookup x=some c→X.env.cells.lookup x=some c:=fun x c e=>qc1 (cs:=[]) hfree (by intro p hp; cases hp) (x,c) (PySem.mem_of_lookup e)
  refine ⟨I.ok.mod,ck.kind,I.ok.glob,I.ok.blt,hC,fun x y c h1 h2=>I.ok.inj x y c (snd x c h1) (snd y c h2),fun x hx=>?_,(by intro x c h; cases h),I.ok.hd,I.ok.frames,.inl rfl,fun b hb=>⟨?_,fun x c e=>?_⟩,fun b o e=>I.bs b o e,
    Nat.le_trans I.ok.bsz I.sz,fun b o e hb=>?_,fun b hb hb2=>?_,I.stack,I.stkFree⟩
  · exact qdd (yd8 (.inl (yer ck.nocell hx)))
  · exact Nat.ne_of_lt (Nat.lt_of_lt_of_le (hfp b hb) hC)
  · exact (f2 b hb).2.2.2.2.1 x c (snd x c e)
  · rcases (f2 b hb).2.2.2.1 with z | z
    · exact I.ok.noex b o e z
    · exact absurd (Nat.lt_of_lt_of_le (Heap.lt_size e) (Nat.le_trans I.ok.bsz z)) (Nat.lt_irrefl _)
  · obtain ⟨_,n1,n2,_⟩:=f2 b hb
    rcases List.mem_cons.mp (I.stkSub b hb2) with z | z
    · exact n1 z
    · exact n2 z
theorem comp_inv {C D:Addr} {h1:Heap} {tk:Nat} (I:Inv X pins σ H2 s2) (ck:CompOk X.N M ix scope X.env.scope) (hC:s2.heap.objs.size≤C) (hD:s2.heap.objs.size≤D) (hDC:C≠D) (f2:∀ b∈fp,FpOk X pins H2 b) (hfp:∀ b∈fp,b < s2.heap.objs.size)
    (old:∀ b o,s2.heap.get? b=some o→h1.get? b=some o) (hn:h1.Ns C fun _=>none) (hnew:h1.get? D=some { cls:=.type "list",data:=.seq #[] }) :
    Inv (qa8 X M scope C fp s2 H2) [] (capS ix σ) (upd H2 D (.lst [])) { s2 with heap:=h1,toks:=tk }:=by
  have hfree:∀ x∈scope.names,x.2=.free→∃ c,X.env.cells.lookup x.1=some c:=fun x hx e=>I.ok.has x.1 (ck.fr x hx e)
  have snd:∀ x c,(clOf X.env.cells scope.names []).lookup x=some c→X.env.cells.lookup x=some c:=fun x c e=>qc1 (cs:=[]) hfree (by intro p hp; cases hp) (x,c) (PySem.mem_of_lookup e)
  have fD:H2 D=none:=I.hok.fresh hD
  refine ⟨comp_ok I ck hC f2 hfp,rfl,I.bare,Un.laid old hD fD,⟨_,hn,fun i x v e1 e2 e3=>?_⟩,fun x c e=>?_,?_,fun x c e=>?_,(by intro p hp; cases hp),I.hok.laid (o:=.lst []) old hD ⟨Nat.zero_le _,[],0,.nil,hnew⟩,?_⟩
  · obtain ⟨j,hj,hv⟩:∃ j,ix[i]?=some (some j)∧σ[j]?=some (some v):=by
      unfold capS at e2
      rw [List.getElem?_map] at e2
      cases q:ix[i]? with
      | none=>rw [q] at e2; cases e2
      | some o=>
        rw [q] at e2
        cases o with
        | none=>cases e2
        | some j=>
          refine ⟨j,rfl,?_⟩
          have e2':(σ[j]?).getD none=some v:=Option.some.inj e2
          cases z:σ[j]? with
          | none=>rw [z] at e2'; cases e2'
          | some y=>rw [z] at e2'; rw [show y=some v from e2']
    obtain ⟨y,hm,hN,hf⟩:=ck.cap i j hj
    have e1':M[i]?=some x:=e1
    rw [hm] at e1'; cases e1'
    obtain ⟨m,hnl,hl⟩:=I.loc
    have hmem:(x,NameKind.free)∈scope.names:=PySem.mem_of_lookup hf
    have hk:=ck.fr _ hmem rfl
    obtain ⟨u,ru,lk⟩:=hl j x v hN hv (hk.elim (fun z=>.inr (.inl z)) fun z=>.inr (.inr z))
    refine ⟨u,ru,.inr ⟨ydw hf,?_⟩⟩
    rcases lk with ⟨kl,_⟩ | ⟨_,c,hc,hcell⟩
    · have kl':X.env.scope.names.lookup x=some .local:=kl
      rcases hk with z | z
      · rw [z] at kl'; cases kl'
      · rw [z] at kl'; cases kl'
    · obtain ⟨c2,h2⟩:=qdd (yd8 (cells:=X.env.cells) (cs:=[]) (.inl hmem))
      have h3:=snd x c2 h2
      rw [hc] at h3; cases h3
      obtain ⟨o,ho,hd⟩:=hcell
      exact ⟨c,h2,o,old c o ho,hd⟩
  · obtain ⟨v,o,ho,hd⟩:=I.cell x c (snd x c e)
    exact ⟨v,o,old c o ho,hd⟩
  · show upd H2 D (.lst []) C=none
    rw [qaf hDC]
    exact I.hok.fresh hC
  · show upd H2 D (.lst []) c=none
    obtain ⟨v,z⟩:=I.cell x c (snd x c e)
    rw [qaf (Nat.ne_of_lt (Nat.lt_of_lt_of_le z.lt hD))]
    exact I.freeC x c (snd x c e)
  · show (capS ix σ).length=M.length
    unfold capS
    rw [List.length_map,ck.len]
theorem yiq {C:Addr} {σ':St} {H':Hp} {s':Shared} {h2:Heap} {pl:List (Addr×Obj)} (I:Inv X pins σ H2 s2) (J:Inv (qa8 X M scope C fp s2 H2) pl σ' H' s') (f2:∀ b∈fp,FpOk X pins H2 b) (sb:Heap.SameBut C s'.heap h2):Inv X pins σ H' { s' with heap:=h2 }:=by
  have hC:s2.heap.objs.size≤C:=J.ok.above
  refine I.call' (s':={ s' with heap:=h2 }) (ch:=fp) J.os (Un.butNew J.base hC sb) (fun a o e=>?_) J.bare fun b hb=>?_
  · have fr:H' C=none:=J.free
    refine (J.hok a o e).stay (fun c v hc q=>(sb.2 c ?_).trans q) (fun _ q=>q) fun _ _ q=>q
    rintro rfl
    rcases hc with z | z
    · rw [← z,fr] at e; cases e
    · rw [fr] at z; cases z
  · obtain ⟨_,n1,_,n3,n4,n5⟩:=f2 b hb
    exact ⟨n3,n1,n4,n5⟩
end
def ya2 (l l':St):Prop:=l'.length=l.length∧∀ (i:Nat) (v:V),l[i]?=some (some v)→l'[i]?=some (some v)
theorem ya2.refl (l:St):ya2 l l:=⟨rfl,fun _ _ h=>h⟩
theorem ya2.set {l l':St} {i:Nat} {x:Option V} (h:ya2 l l') (hi:l[i]?=some none):ya2 l (l'.set i x):=by
  refine ⟨by rw [List.length_set]; exact h.1,fun j v e=>?_⟩
  by_cases hj:j=i
  · subst hj; rw [hi] at e; cases e
  · rw [List.getElem?_set_ne (Ne.symm hj)]; exact h.2 j v e
def tComp (wi:TI) (ix:List (Option Nat)) (g:TG) (tt:TT) (te:TE):TE:=fun σ H Q=>wi σ H fun J H1=>∀ D,H1 D=none→∃ W:Nat→Nat→Hp→Prop,(∃ m,W 0 m (upd H1 D (.lst [])))∧∀ i m H,W i m H→
  (J.stop i H∧Q (.ref D) H)∨(J.go i H∧∃ N:Hp→Prop,(∀ H',N H'→∃ m',m' < m∧W (i + 1) m' H')∧∀ x H',J.yld i H x H'→g x (capS ix σ) H' fun σ2 H2=>ya2 (capS ix σ) σ2∧tt σ2 H2 fun b H3=>
    if b=true then te σ2 H3 fun v H4=>∃ ys,H4 D=some (.lst ys)∧ys.length < sizeLine∧N (upd H4 D (.lst (ys++[v]))) else N H3)
section
variable {X:Cx} {elt tg iter:Expr} {ifs:List Expr} {scope:Scope} {pos:Pos} {wi:TI} {g:TG} {tt:TT} {te:TE} {M:List Str} {ix:List (Option Nat)}
theorem qi2 {pins:List (Addr×Obj)} {σ:St} {H2 H4:Hp} {s2 s4:Shared} {fp:List Addr} {it C D:Addr} {tn:Nat→Heap→Prop} {J:It} {R:Result→Shared→Prop} {QD:Hp→Prop} (I2:Inv X pins σ H2 s2) (hc:X.calm=true)
    (f2:∀ b∈fp,FpOk X pins H2 b) (T:Turn X.prog X.w X.K tg J fp it tn)
    (hg:PG (qa8 X M scope C fp s2 H2) tg g) (ht:PTs (qa8 X M scope C fp s2 H2) ifs tt) (he:PE (qa8 X M scope C fp s2 H2) elt te)
    (I4:Inv (qa8 X M scope C fp s2 H2) [] (capS ix σ) H4 s4) (st4:tn 0 s4.heap) (fr4:∀ b∈fp,H4 b=none) (W:Nat→Nat→Hp→Prop) (m0:Nat) (w0:W 0 m0 H4)
    (turn:∀ i m H,W i m H→(J.stop i H∧QD H)∨(J.go i H∧∃ N:Hp→Prop,(∀ H',N H'→∃ m',m' < m∧W (i + 1) m' H')∧∀ x H',J.yld i H x H'→g x (capS ix σ) H' fun σ2 H2=>ya2 (capS ix σ) σ2∧tt σ2 H2 fun b H3=>
      if b=true then te σ2 H3 fun v H4=>∃ ys,H4 D=some (.lst ys)∧ys.length < sizeLine∧N (upd H4 D (.lst (ys++[v]))) else N H3))
    (fin:∀ H' s',Inv (qa8 X M scope C fp s2 H2) [] (capS ix σ) H' s'→QD H'→R (.ok .next) s') :
    codeAny (model X.prog X.w) X.A (.compLoop (.ListComp elt [⟨tg,iter,ifs,0⟩] scope pos) 0 (.ref it) (.ref D) (compEnvC scope (clOf X.env.cells scope.names []) C X.env)) R s4:=by
  have stat:∀ {H':Hp},(∀ b∈fp,H' b=none)→∀ b∈fp,FpOk (qa8 X M scope C fp s2 H2) [] H' b:=fun {H'} hn b hb=>
    ⟨hn b hb,(I4.ok.exf b hb).1,I4.ok.exfs b hb,.inl hb,(I4.ok.exf b hb).2,by intro p hp; cases hp⟩
  refine codeAny_loop rfl (fun n s'=>∃ i H',Inv (qa8 X M scope C fp s2 H2) [] (capS ix σ) H' s'∧tn i s'.heap∧(∀ b∈fp,H' b=none)∧W i n H') ?_ m0 ⟨0,H4,I4,st4,fr4,w0⟩
  rintro n s5 ⟨i,H5,I5,st5,fr5,w5⟩
  show wpAny (model X.prog X.w) X.A ((compTurn (.ListComp elt [⟨tg,iter,ifs,0⟩] scope pos) 0 (.ref it) (.ref D) (compEnvC scope (clOf X.env.cells scope.names []) C X.env)).onRaise (fun x=>do noteFrame x (compEnvC scope (clOf X.env.cells scope.names []) C X.env); theTreesLotGoes x)) _ _ s5
  refine wpAny_noted ?_
  rw [compTurn_list]
  refine wpAny_bind (wpAny_standAt (wpAny_bind ?_))
  rcases turn i n H5 w5 with ⟨stop,qn⟩ | ⟨go,N,hN,step⟩
  · refine thn (T.done (qa8 X M scope C fp s2 H2) rfl rfl rfl hc i [] s5 (capS ix σ) H5 _ I5 (stat fr5) st5 stop) fun r s6 ⟨hr,I6⟩=>?_
    subst hr
    exact wpAny_pure (fin H5 s6 I6 qn)
  · refine thn (T.item (qa8 X M scope C fp s2 H2) rfl rfl rfl hc i [] s5 (capS ix σ) H5 _ I5 (stat fr5) st5 go) fun r s6 ⟨u,hr,h6⟩=>?_
    subst hr
    refine wpAny_bind (thn h6 fun _ s7 ⟨x,H7,I7,r7,y7,st7,fr7⟩=>?_)
    have I7':=I7.pinned (stat fr7) (T.obj _ _ st7)
    refine wpAny_bind (wpAny_mono (hg _ s7 (capS ix σ) H7 x u _ I7' r7 (step x H7 y7)) (fun _ s8 ⟨σ8,H8,I8,k8,q8⟩=>?_) fun _ _ z=>False.elim z)
    refine wpAny_bind (wpAny_mono (ht _ s8 σ8 H8 _ I8 q8) (fun ok s9 ⟨H9,I9,q9⟩=>?_) fun _ _ z=>False.elim z)
    have again:∀ {Ha:Hp} {sa:Shared},Inv (qa8 X M scope C fp s2 H2) ([]++qfy fp s7.heap) σ8 Ha sa→N Ha→∃ m,m < n∧∃ i H',Inv (qa8 X M scope C fp s2 H2) [] (capS ix σ) H' sa∧tn i sa.heap∧(∀ b∈fp,H' b=none)∧W i m H':=fun {Ha sa} Ia na=>by
      obtain ⟨m',hm,wa⟩:=hN Ha na
      refine ⟨m',hm,i + 1,Ha,Ia.unpinned.weak k8.1.symm k8.2,T.keep _ _ _ st7 fun b hb o e=>(Ia.pin (b,o) (List.mem_append_right _ (List.mem_append_right _ (yc1 hb e)))).1,fun b hb=>?_,wa⟩
      obtain ⟨o,e,d⟩:=T.obj _ _ st7 b hb
      exact (Ia.pin (b,o) (List.mem_append_right _ (List.mem_append_right _ (yc1 hb e)))).2.1
    cases ok with
    | false=>exact wpAny_pure ⟨rfl,again I9 q9⟩
    | true=>
      refine wpAny_bind (wpAny_bind (wpAny_mono (he _ s9 σ8 H9 _ I9 q9) (fun xv s10 ⟨v,H10,I10,r10,ys,hD,hl,q10⟩=>?_) fun _ _ z=>False.elim z))
      refine wpAny_bind (wpAny_mono (qdi (X:=qa8 X M scope C fp s2 H2) _ s10 σ8 H10 (.ref D) [v] (.ref D) [xv] (fun _ H'=>N H') I10 rfl (.cons r10 .nil) ⟨D,ys,v,rfl,rfl,hD,hl,q10⟩) (fun _ s11 ⟨_,H11,I11,_,q11⟩=>?_) fun _ _ z=>False.elim z)
      exact wpAny_pure (wpAny_pure ⟨rfl,again I11 q11⟩)
theorem ye7 {pins:List (Addr×Obj)} {σ:St} {H2:Hp} {s2:Shared} {fp:List Addr} {it:Addr} {tn:Nat→Heap→Prop} {J:It} {E:Value→Shared→Prop} {QD:Addr→Hp→Prop} {RR:Value→Addr→Result→Shared→Prop} (I2:Inv X pins σ H2 s2) (hc:X.calm=true)
    (ck:CompOk X.N M ix scope X.env.scope) (f2:∀ b∈fp,FpOk X pins H2 b) (T:Turn X.prog X.w X.K tg J fp it tn) (st2:tn 0 s2.heap)
    (hg:∀ C fp s2 H2,PG (qa8 X M scope C fp s2 H2) tg g) (ht:∀ C fp s2 H2,PTs (qa8 X M scope C fp s2 H2) ifs tt) (he:∀ C fp s2 H2,PE (qa8 X M scope C fp s2 H2) elt te)
    (rd:∀ D,H2 D=none→∃ W:Nat→Nat→Hp→Prop,(∃ m,W 0 m (upd H2 D (.lst [])))∧∀ i m H,W i m H→
      (J.stop i H∧QD D H)∨(J.go i H∧∃ N:Hp→Prop,(∀ H',N H'→∃ m',m' < m∧W (i + 1) m' H')∧∀ x H',J.yld i H x H'→g x (capS ix σ) H' fun σ2 H2=>ya2 (capS ix σ) σ2∧tt σ2 H2 fun b H3=>
        if b=true then te σ2 H3 fun v H4=>∃ ys,H4 D=some (.lst ys)∧ys.length < sizeLine∧N (upd H4 D (.lst (ys++[v]))) else N H3))
    (fin:∀ D C H' s',QD D H'→(∃ m,s'.heap.Ns C m)→(∀ h2,Heap.SameBut C s'.heap h2→Inv X pins σ H' { s' with heap:=h2 })→FpOk X pins H' C→RR (.ref D) C (.ok .next) s') :
    wpAny (model X.prog X.w) X.A (newList []) (fun acc s3=>wpAny (model X.prog X.w) X.A (newFunctionEnv scope X.env.globals (clOf X.env.cells scope.names []) [] X.env.qual none .none (some X.env)) (fun cenv s4=>
      codeAny (model X.prog X.w) X.A (.compStart (.ListComp elt [⟨tg,iter,ifs,0⟩] scope pos) 0 (.ref it) acc { cenv with scope:=relabel scope X.env }) (RR acc cenv.locals) s4) E s3) E s2:=by
  have hfp:∀ b∈fp,b < s2.heap.objs.size:=fun b hb=>by obtain ⟨o,e,_⟩:=T.obj 0 _ st2 b hb; exact Heap.lt_size e
  refine wpAny_newObj_type (wpAny_newFunctionEnv ck.nocell (by intro y hy; simp at hy) (fun h1 hn1 hsb1=>?_) ck.kind)
  dsimp only at hn1 hsb1 ⊢
  generalize hP:s2.heap.push { cls:=.type "list",dict:=none,data:=.seq ([]:List Value).toArray }=hh at hn1 hsb1 ⊢
  have hCz:hh.objs.size=s2.heap.objs.size + 1:=by rw [← hP,Heap.size_push]
  have hCD:hh.objs.size≠s2.heap.objs.size:=by omega
  have old:∀ b o,s2.heap.get? b=some o→h1.get? b=some o:=fun b o e=>by
    have hb:b < s2.heap.objs.size:=Heap.lt_size e
    exact hsb1.extBut b o (Nat.ne_of_lt (by rw [hCz]; exact Nat.lt_succ_of_lt hb)) (Heap.get?_push_of_some _ (hP ▸ Heap.get?_push_of_some _ e))
  have hnew:h1.get? s2.heap.objs.size=some { cls:=.type "list",data:=.seq #[] }:=hsb1.extBut _ _ hCD.symm (Heap.get?_push_of_some _ (hP ▸ Heap.get?_push_size _ rfl))
  obtain ⟨W,⟨m0,w0⟩,turn⟩:=rd s2.heap.objs.size (I2.hok.fresh (Nat.le_refl _))
  have I4:=comp_inv (M:=M) (ix:=ix) (scope:=scope) (fp:=fp) (tk:=s2.toks + ([]:List (Str×Value)).length) I2 ck (C:=hh.objs.size) (D:=s2.heap.objs.size) (by omega) (Nat.le_refl _) hCD f2 hfp old hn1 hnew
  have st4:tn 0 h1:=T.keep _ _ _ st2 fun b _ o e=>old b o e
  have fr4:∀ b∈fp,upd H2 s2.heap.objs.size (.lst []) b=none:=fun b hb=>by rw [qaf (Nat.ne_of_lt (hfp b hb))]; exact (f2 b hb).1
  have lp:codeAny (model X.prog X.w) X.A (.compLoop (.ListComp elt [⟨tg,iter,ifs,0⟩] scope pos) 0 (.ref it) (.ref s2.heap.objs.size) (compEnvC scope (clOf X.env.cells scope.names []) hh.objs.size X.env)) (RR (.ref s2.heap.objs.size) hh.objs.size) { s2 with heap:=h1,toks:=s2.toks + ([]:List (Str×Value)).length }:=by
    refine qi2 (QD:=QD s2.heap.objs.size) I2 hc f2 T (hg _ _ _ _) (ht _ _ _ _) (he _ _ _ _) I4 st4 fr4 W m0 w0 turn fun H' s' J' q'=>?_
    obtain ⟨m,hm,_⟩:=J'.loc
    exact fin _ _ H' s' q' ⟨m,hm⟩ (fun h2 sb=>yiq I2 J' f2 sb) (I2.fpOk (by omega) J'.free)
  exact codeAny_compStart_list lp (T.self _ 0 _ _ _ st4 lp)
theorem ybw (hc:X.calm=true) (ck:CompOk X.N M ix scope X.env.scope) (hi:PI X tg iter wi) (hg:∀ C fp s2 H2,PG (qa8 X M scope C fp s2 H2) tg g) (ht:∀ C fp s2 H2,PTs (qa8 X M scope C fp s2 H2) ifs tt) (he:∀ C fp s2 H2,PE (qa8 X M scope C fp s2 H2) elt te)
    (hs:∀ x,foldedSetIterable iter X.env x=pure x:=by intro _; rfl):PE X (.ListComp elt [⟨tg,iter,ifs,0⟩] scope pos) (tComp wi ix g tt te):=by
  intro pins s σ H Q I h
  have hfree:∀ x∈scope.names,x.2=.free→∃ c,X.env.cells.lookup x.1=some c:=fun x hx e=>I.ok.has x.1 (ck.fr x hx e)
  rw [eval_ListComp]
  refine wpAny_comprehension_free (use:=none) (cl:=clOf X.env.cells scope.names []) rfl hs (qcs hfree) ck.kind ck.loc (thn (hi pins s σ H _ I h) fun v s1 h1=>thn h1 fun itv s2 h2=>?_)
  obtain ⟨it,fp,tn,J,H2,e,I2,T,st2,f2,rd⟩:=h2
  subst e
  refine ye7 (QD:=fun D H'=>Q (.ref D) H') I2 hc ck f2 T st2 hg ht he rd fun D C H' s' q hm hb _=>?_
  obtain ⟨m,hm⟩:=hm
  exact ⟨m,hm,fun h2 sb=>⟨.ref D,H',hb h2 sb,rfl,q⟩⟩
def tCompSet (wi:TI) (ix:List (Option Nat)) (g:TG) (tt:TT) (te:TE) (i:Nat):TS:=fun D σ H=>tComp wi ix g tt te σ H fun x H1=>D.nx (σ.set i (some x)) H1
theorem yjf {i:Nat} {x:Str} {pos' spos:Pos} (hsw:swapsWith (.ListComp elt [⟨tg,iter,ifs,0⟩] scope pos) (some (.Name x pos')) spos.line X.env=pure true) (hN:X.N.Nodup) (hix:X.N[i]?=some x) (hx:Loc X.env.scope x)
    (hc:X.calm=true) (ck:CompOk X.N M ix scope X.env.scope) (hi:PI X tg iter wi) (hg:∀ C fp s2 H2,PG (qa8 X M scope C fp s2 H2) tg g) (ht:∀ C fp s2 H2,PTs (qa8 X M scope C fp s2 H2) ifs tt) (he:∀ C fp s2 H2,PE (qa8 X M scope C fp s2 H2) elt te)
    (hs:∀ x,foldedSetIterable iter X.env x=pure x:=by intro _; rfl) (hf:X.fn x=true∨X.env.scope.names.lookup x=some .local:=by first | exact .inl rfl | exact .inr rfl | assumption) :
    PS X (.Assign [.Name x pos'] (.ListComp elt [⟨tg,iter,ifs,0⟩] scope pos) spos) (tCompSet wi ix g tt te i):=by
  intro pins s σ H D0 I h
  have hfree:∀ x∈scope.names,x.2=.free→∃ c,X.env.cells.lookup x.1=some c:=fun x hx e=>I.ok.has x.1 (ck.fr x hx e)
  rw [exec_Assign_Name_used _ _ _ _ hsw]
  refine wpAny_bind (wpAny_standAt (wpAny_bind ?_))
  show wpAny _ X.A (do let _ ← comprehension (.ListComp elt [⟨tg,iter,ifs,0⟩] scope pos) scope X.env _ (newList []) false (eval iter X.env) (some (assign (.Name x pos') X.env))) _ _ s
  refine wpAny_bind (wpAny_mono (wpAny_comprehension_free (use:=some (assign (.Name x pos') X.env)) (Q:=fun _ s'=>SP X pins D0 .next s') (cl:=clOf X.env.cells scope.names []) rfl hs (qcs hfree) ck.kind ck.loc
    (thn (hi pins s σ H _ I h) fun v s1 h1=>thn h1 fun itv s2 h2=>?_)) (fun _ s' hq=>wpAny_pure (wpAny_pure hq)) fun _ _ e=>e)
  obtain ⟨it,fp,tn,J,H2,e,I2,T,st2,f2,rd⟩:=h2
  subst e
  refine ye7 (QD:=fun D H'=>D0.nx (σ.set i (some (.ref D))) H') I2 hc ck f2 T st2 hg ht he rd fun D C H' s' q hm hb fpk=>?_
  obtain ⟨m,hm⟩:=hm
  obtain ⟨g0,g1,g2,g3,g4,g5⟩:=fpk
  have I5:Inv X pins σ H' s':=hb s'.heap ⟨rfl,fun _ _=>rfl⟩
  show wpAny (model X.prog X.w) X.A (assign (.Name x pos') X.env (.ref D)) _ _ s'
  refine wpAny_assign_Name (yf4 (v:=.ref D) I5 hN hix hx rfl (fun s6 I6 ⟨a,sb,ha⟩=>?_) hf)
  have hCa:C≠a:=by
    rcases ha with ha | ha
    · rw [ha]; exact g1
    · exact (g4 x a ha).symm
  refine ⟨m,hm.sameBut sb hCa,fun h2 sb2=>⟨_,H',I6.turned (t':=s6.toks) (fun b o hb e=>(sb2.2 b hb).trans e) g0 g1 g3 g4 g5,q⟩⟩
end
end L2
set_option Elab.async false
set_option linter.all false
set_option maxRecDepth 100000
namespace L2
open PySem PySem.Spec PyProof.Rows
def FnAt (K:PySem.W.Frag) (mg:Str→Option Value) (x:Str) (st:Stmt) (ps:List Str):Prop:=∃ f fd,mg x=some (.ref f)∧Fun K x x st f fd∧yde K fd ps []
def Has (P:Program) (w:World) (K:PySem.W.Frag) (mg:Str→Option Value) (base:Heap) (k:Nat) (x:Str) (ps:List Str) (sp:Sp):Prop:=
  ∃ f fd,mg x=some (.ref f)∧PySem.W.keepIn K (.ref f)=true∧yde K fd ps []∧FnOk P w K mg base CX0 k f fd ps sp
section
variable {P:Program} {w:World} {K:PySem.W.Frag} {mg:Str→Option Value} {base:Heap}
theorem Has.of {x:Str} {st:Stmt} {ps N:List Str} {k:Nat} {sp:Sp} (F:FnAt K mg x st ps) (S:FnScope N ps (yac st)) (len:∀ vs H Q E,sp vs H Q E→vs.length=ps.length)
    (hbody:∀ (f:Addr) (cdv:Value) (A:Around) (outer:List Env) (s:Shared) (H:Hp) (vs:List V) (Q:VK) (E:XK),Room k (A.deeper (envOfC x (yac st) s.heap.objs.size f cdv))→sp vs H Q E→
      ∃ t,PSs (cxOf CX0 P w K mg base N x (yac st) f cdv A outer s H E).nox (qaj st) t∧t { nx:=fun _ H'=>Q .non H',rt:=Q } (ydk N vs) H):Has P w K mg base (k + 1) x ps sp:=by
  obtain ⟨f,fd,h1,h2,h3⟩:=F
  exact ⟨f,fd,h1,h2.kp,h3,h2.ok S len fun cdv A outer s H vs Q E hr h=>hbody f cdv A outer s H vs Q E hr h⟩
end
section
variable {X:Cx}
theorem yaj {k m:Nat} {x:Str} {ps:List Str} {sp:Sp} {e:Expr} {es:List Expr} {t:TA} {p pos:Pos} (h:Has X.prog X.w X.K X.mg X.base k x ps sp) (hr:Room m X.A) (ha:PA X (e :: es) t) (hk:k≤m:=by decide) (hg:Gl X x:=by rfl)
    (hdb:(x == ("__debug__" : Str))=false:=by decide) (he:starEach (e :: es) X.env=(false,eval e X.env) :: starEach es X.env:=by rfl) (hpl:(backTo pos (starEach es X.env)).any (·.1)=false:=by rfl) :
    PE X (.Call (.Name x p) (e :: es) [] pos) (yhh sp [] E0 t):=by
  obtain ⟨f,fd,h1,h2,h3,h4⟩:=h
  exact qjg h4 (hr.mono hk) hg h1 h2 h3 .nil pass0 ha hdb he hpl
end
def ygh:List Str:=["len","abs","max","min","repr","isinstance","int","bool","str","tuple","list","dict","range","enumerate","sorted","sum"]
structure Bl (mg:Str→Option Value):Prop where
  all:∀ x∈ygh,mg x=none
theorem Bl.of {mg:Str→Option Value} (B:Bl mg) {x:Str} (h:ygh.contains x=true):mg x=none:=B.all x (by simpa using h)
def GTup (K:PySem.W.Frag) (mg:Str→Option Value) (x:Str) (xs:List V):Prop:=∃ a,mg x=some (.ref a)∧∀ H,SqT K H a xs
theorem gtup_mk {K:PySem.W.Frag} {mg:Str→Option Value} {x:Str} {a:Addr} {xs:List V} {od:Option Addr} {its:Array Value} {n:Nat} {sl:Array (Option Value)} (h1:mg x=some (.ref a)) (h2:K.lookup a=some ⟨.type "tuple",od,.seq its n,sl⟩)
    (h3:its.size≤sizeLine) (h4:Vals xs its.toList):GTup K mg x xs:=⟨a,h1,fun H=>.inr ⟨_,its,n,h2,rfl,rfl,h3,h4⟩⟩
section
variable {X:Cx}
def tGT (K:PySem.W.Frag) (xs:List V):TE:=fun _ H Q=>∀ a,(∀ H',SqT K H' a xs)→Q (.ref a) H
theorem yh9 {x:Str} {xs:List V} {pos:Pos} (h:GTup X.K X.mg x xs) (hg:Gl X x:=by rfl) (hd:(x == ("__debug__" : Str))=false:=by decide):PE X (.Name x pos) (tGT X.K xs):=by
  obtain ⟨a,h1,h2⟩:=h
  exact fun pins s σ H Q I q=>yau (v:=.ref a) hg h1 rfl hd pins s σ H Q I (q a h2)
theorem ydj {x:Str} {i:Int} {pos:Pos} (h:∃ t,X.mg x=some (.int i t)) (hg:Gl X x:=by rfl) (hd:(x == ("__debug__" : Str))=false:=by decide):PE X (.Name x pos) (tC (.int i)):=by
  obtain ⟨t,h1⟩:=h
  exact yau (v:=.int i) hg h1 ⟨t,rfl⟩ hd
def rIsi (K:PySem.W.Frag):List V→Hp→VK→Prop:=fun xs H Q=>∃ x T t b,xs=[x,.ty T]∧TyOf K H x t∧PySem.W.kitOne K t (.type T)=some b∧Q (.bl b) H
theorem yas:ycc X (.builtin "isinstance") (rIsi X.K):=by
  intro pins s σ H xs us Q I r h
  obtain ⟨x,T,t,b,rfl,ht,hk,q⟩:=h
  cases r with
  | cons r rr=>
    cases rr with
    | cons r' rr=>
      cases rr
      cases r'
      exact qiu I r ht hk fun tk=>⟨.bl b,H,I.tok _,rfl,q⟩
end
def tCut (t u:TS):TS:=fun D σ H=>∃ R:St→Hp→Prop,t { D with nx:=R } σ H∧∀ σ' H',R σ' H'→u D σ' H'
theorem pss_cut {X:Cx} {st:Stmt} {rest:List Stmt} {t u:TS} (h1:PS X st t) (h2:PSs X rest u):PSs X (st :: rest) (tCut t u):=by
  intro pins s σ H D I h
  obtain ⟨R,h,hR⟩:=h
  refine wpAny_execs_cons (thn (h1 pins s σ H { D with nx:=R } I h) fun f s1 q=>?_)
  cases f with
  | next=>
    obtain ⟨σ',H',I',q⟩:=q
    exact h2 pins s1 σ' H' D I' (hR σ' H' q)
  | ret v=>exact q
  | brk=>exact q
  | cont=>exact q
def tMid (t:TE):TE:=fun σ H Q=>∃ R:VK,t σ H R∧∀ v H',R v H'→Q v H'
theorem pe_mid {X:Cx} {e:Expr} {t:TE} (h:PE X e t):PE X e (tMid t):=by
  intro pins s σ H Q I hw
  obtain ⟨R,h1,h2⟩:=hw
  exact thn (h pins s σ H R I h1) fun u s1 ⟨v,H1,I1,r,q⟩=>⟨v,H1,I1,r,h2 v H1 q⟩
theorem Same.upd {H H1:Hp} {p:Addr} {o:HO} (s:Same H H1) (h:H1 p=none):Same H (upd H1 p o):=fun b u e=>by
  have e1:=s b u e
  rw [qaf (qag e1 h)]; exact e1
theorem Same.at {H H1:Hp} {p:Addr} {o:HO} (s:Same H H1) (h:H p=none):Same H (L2.upd H1 p o):=fun b u e=>by
  rw [qaf (qag e h)]; exact s b u e
theorem At.tupEq {H:Hp} {v:V} {ds:List PyData} (h:At H v (.tuple ds)):∃ a vs,v=.ref a∧H a=some (.tup vs)∧AtAll H vs ds:=by
  cases h with
  | tup e t=>exact ⟨_,_,rfl,e,t⟩
theorem At.lstEq {H:Hp} {v:V} {ds:List PyData} (h:At H v (.list ds)):∃ a vs,v=.ref a∧H a=some (.lst vs)∧AtAll H vs ds:=by
  cases h with
  | lst e t=>exact ⟨_,_,rfl,e,t⟩
theorem At.strEq {H:Hp} {v:V} {x:Str} (h:At H v (.str x)):v=.str x:=by cases h; rfl
theorem At.intEq {H:Hp} {v:V} {x:Int} (h:At H v (.int x)):v=.int x:=by cases h; rfl
end L2
set_option Elab.async false
set_option linter.all false
set_option maxRecDepth 100000
namespace L2
open PySem PySem.Spec PyProof.Rows
def yba (H:Hp) (L:List Addr):Hp:=fun b=>if b∈L then none else H b
theorem qak (H:Hp) (L:List Addr):Same (yba H L) H:=fun b o e=>by
  unfold yba at e
  split at e
  · cases e
  · exact e
theorem qbc {H:Hp} {L:List Addr} {b:Addr} (h:b∉L):yba H L b=H b:=by unfold yba; rw [if_neg h]
theorem qa4 {H H':Hp} (s:Same H H') (L:List Addr):Same (yba H L) (yba H' L):=fun b o e=>by
  unfold yba at e ⊢
  split at e
  · cases e
  · rename_i h; rw [if_neg h]; exact s b o e
theorem yir {H:Hp} {L L':List Addr} (h:∀ b∈L,b∈L'):Same (yba H L') (yba H L):=fun b o e=>by
  unfold yba at e ⊢
  split at e
  · cases e
  · rename_i hn; rw [if_neg fun z=>hn (h b z)]; exact e
theorem yio {H:Hp} {L:List Addr} {p:Addr} {o:HO} (h:p∈L):yba (upd H p o) L=yba H L:=by
  funext b
  unfold yba
  by_cases hb:b∈L
  · rw [if_pos hb,if_pos hb]
  · rw [if_neg hb,if_neg hb,qaf]
    rintro rfl
    exact hb h
def Bld (L:List Addr) (H:Hp) (l:Addr) (ds:List PyData):Prop:=∃ us,H l=some (.lst us)∧AtAll (yba H (l :: L)) us ds
theorem Bld.new {L:List Addr} {H:Hp} {l:Addr}:Bld L (upd H l (.lst [])) l []:=⟨[],qaa,.nil⟩
theorem Bld.grow {L:List Addr} {H H':Hp} {l:Addr} {ds:List PyData} (b:Bld L H l ds) (s:Same H H'):Bld L H' l ds:=by
  obtain ⟨us,h1,h2⟩:=b
  exact ⟨us,s _ _ h1,h2.same (qa4 s _)⟩
theorem Bld.push {L:List Addr} {H:Hp} {l:Addr} {ds:List PyData} {us:List V} {v:V} {d:PyData} (b:Bld L H l ds) (hu:H l=some (.lst us)) (h:At (yba H (l :: L)) v d):Bld L (upd H l (.lst (us++[v]))) l (ds++[d]):=by
  obtain ⟨us',h1,h2⟩:=b
  rw [hu] at h1; cases h1
  refine ⟨_,qaa,?_⟩
  rw [yio List.mem_cons_self]
  exact h2.snoc h
theorem Bld.len {L:List Addr} {H:Hp} {l:Addr} {ds:List PyData} {us:List V} (b:Bld L H l ds) (hu:H l=some (.lst us)):us.length=ds.length:=by
  obtain ⟨us',h1,h2⟩:=b
  rw [hu] at h1; cases h1
  exact h2.length
theorem Bld.at {L:List Addr} {H:Hp} {l:Addr} {ds:List PyData} (b:Bld L H l ds) (h:l∉L):At (yba H L) (.ref l) (.list ds):=by
  obtain ⟨us,h1,h2⟩:=b
  exact .lst (by rw [qbc h]; exact h1) (h2.same (yir fun b hb=>List.mem_cons_of_mem _ hb))
theorem Bld.out {H:Hp} {l:Addr} {ds:List PyData} (b:Bld [] H l ds):At H (.ref l) (.list ds):=(b.at (by simp)).same (qak _ _)
theorem qc2 {n:Nat} (h:n≤100000):n≤sizeLine:=Nat.le_trans h (by decide)
theorem qbw {n:Nat} (h:n≤100000):n < sizeLine:=Nat.lt_of_le_of_lt h (by decide)
theorem yag {α:Type} {xs:List α} {i:Int} {v:α} (j:Nat) (h:xs[j]?=some v) (e:i=(j:Int):=by rfl):atI xs i=some v:=by
  rw [e]; exact yet h
theorem qei {α:Type} {xs:List α} {i:Int} {v:α} (h0:0≤i) (h:xs[i.toNat]?=some v):atI xs i=some v:=by
  have e:((i.toNat:Nat):Int)=i:=Int.toNat_of_nonneg h0
  rw [← e]; exact yet h
theorem yb3 {J:It} {n:Nat} {g:TG} {tt:TT} {te:TE} {ix:List (Option Nat)} {σ:St} {H:Hp} {QD:Hp→Prop} {D:Addr} (Pv:Nat→Hp→Prop) (h0:Pv 0 (upd H D (.lst []))) (stop:∀ H',Pv n H'→J.stop n H'∧QD H')
    (step:∀ i H',i < n→Pv i H'→J.go i H'∧∀ x H2,J.yld i H' x H2→g x (capS ix σ) H2 fun σ2 H3=>ya2 (capS ix σ) σ2∧tt σ2 H3 fun b H4=>
      if b=true then te σ2 H4 fun v H5=>∃ ys,H5 D=some (.lst ys)∧ys.length < sizeLine∧Pv (i + 1) (upd H5 D (.lst (ys++[v]))) else Pv (i + 1) H4) :
    ∃ W:Nat→Nat→Hp→Prop,(∃ m,W 0 m (upd H D (.lst [])))∧∀ i m H,W i m H→
      (J.stop i H∧QD H)∨(J.go i H∧∃ N:Hp→Prop,(∀ H',N H'→∃ m',m' < m∧W (i + 1) m' H')∧∀ x H',J.yld i H x H'→g x (capS ix σ) H' fun σ2 H2=>ya2 (capS ix σ) σ2∧tt σ2 H2 fun b H3=>
        if b=true then te σ2 H3 fun v H4=>∃ ys,H4 D=some (.lst ys)∧ys.length < sizeLine∧N (upd H4 D (.lst (ys++[v]))) else N H3):=by
  refine ⟨fun i m H=>m=n - i∧i≤n∧Pv i H,⟨n,by simp,Nat.zero_le _,h0⟩,?_⟩
  rintro i m H ⟨rfl,hi,p⟩
  by_cases hlt:i < n
  · obtain ⟨g1,g2⟩:=step i H hlt p
    exact .inr ⟨g1,Pv (i + 1),fun H' p'=>⟨n - (i + 1),by omega,rfl,hlt,p'⟩,g2⟩
  · have e:i=n:=by omega
    subst e
    exact .inl (stop H p)
theorem qcg {xs:List V} (k:Nat):cutV xs none (some (k:Int))=xs.take k:=by
  unfold cutV
  rw [HT.sIx_none,HT.sIx_nat,List.drop_zero,Nat.sub_zero]
  by_cases h:k≤xs.length
  · rw [Nat.min_eq_left h]
  · rw [Nat.min_eq_right (by omega),List.take_length,List.take_of_length_le (by omega)]
theorem ycy {xs:List V} (k:Nat):cutV xs (some (k:Int)) none=xs.drop k:=by
  unfold cutV
  rw [HT.sIx_none,HT.sIx_nat]
  by_cases h:k≤xs.length
  · rw [Nat.min_eq_left h]
    exact List.take_of_length_le (by rw [List.length_drop]; exact Nat.le_refl _)
  · rw [Nat.min_eq_right (by omega),List.drop_eq_nil_of_le (show xs.length≤k by omega),List.drop_length]; simp
theorem yes {σ:St} {H:Hp} {A B:Hp→Prop} (h:A H):tYes σ H fun b H'=>if b=true then A H' else B H':=iteT (B:=B H) h
section
variable {X:Cx} {K:PySem.W.Frag}
theorem ix_tupK (h:X.K=K):IxR X (rIxT K):=h ▸ qbl
theorem sl_listK (h:X.K=K):SlR X (rSlL K):=h ▸ qb3
theorem ydc (h:X.K=K):OpR X (compareOp .NotIn) (rIn K true):=h ▸ qf4
theorem qfp {es:List Expr} {k:Nat} {t:TGs} {n:Nat} {pos:Pos} (h:X.K=K) (hc:X.calm=true) (hh:PGs X es t)
    (hn:(assignEach es X.env).length=n:=by rfl) (hst:(assignEach es X.env).findIdx? (·.1)=none:=by rfl):PG X (.Tuple es k pos) (gTup K n t):=by
  subst h; exact qe4 hc hh hn hst
end
def rEqD:R2:=fun x y H Q=>∃ dx dy,At H x dx∧At H y dy∧dx.canLay0=true∧dy.canLay0=true∧dx.depth≤60∧Q (.bl (PyData.eqv dx dy)) H
def rNeD:R2:=fun x y H Q=>∃ dx dy,At H x dx∧At H y dy∧dx.canLay0=true∧dy.canLay0=true∧dx.depth≤60∧Q (.bl (!PyData.eqv dx dy)) H
section
variable {X:Cx}
theorem op_eqD {k:Nat} (hr:Room k X.A):OpR X (compareOp .Eq) rEqD:=by
  intro pins s σ H x y v u Q I rx ry h
  obtain ⟨dx,dy,h1,h2,c1,c2,hd,q⟩:=h
  obtain ⟨as,r1⟩:=h1.reads I.hok rx
  obtain ⟨bs,r2⟩:=h2.reads I.hok ry
  have hu:=hr.units
  exact PySem.SeqAt.rcAt_reads r1 r2 c1 c2 (by have:=Nat.min_le_left dx.depth dy.depth; omega) _ _ _ _ ⟨.bl _,H,I,rfl,q⟩
theorem yix {k:Nat} (hr:Room k X.A):OpR X (compareOp .NotEq) rNeD:=by
  intro pins s σ H x y v u Q I rx ry h
  obtain ⟨dx,dy,h1,h2,c1,c2,hd,q⟩:=h
  obtain ⟨as,r1⟩:=h1.reads I.hok rx
  obtain ⟨bs,r2⟩:=h2.reads I.hok ry
  have hu:=hr.units
  exact PySem.SeqAt.rcNeAt_reads r1 r2 c1 c2 (by have:=Nat.min_le_left dx.depth dy.depth; omega) _ _ _ _ ⟨.bl _,H,I,rfl,q⟩
end
theorem yc9 {n:Nat}:∀ {xs:List PyData},(∀ x∈xs,x.depth≤n)→PyData.depthAll xs≤n
  | [],_=>by simp [PyData.depthAll]
  | x :: xs,h=>by
    have h1:=h x List.mem_cons_self
    have h2:=yc9 (xs:=xs) fun y hy=>h y (List.mem_cons_of_mem _ hy)
    simp only [PyData.depthAll]
    omega
theorem ydu {n:Nat}:∀ {xs:List PyData},(∀ x∈xs,x.bulk≤n)→PyData.bulkAll xs≤(n + 1) * xs.length
  | [],_=>by simp [PyData.bulkAll]
  | x :: xs,h=>by
    have h1:=h x List.mem_cons_self
    have h2:=ydu (xs:=xs) fun y hy=>h y (List.mem_cons_of_mem _ hy)
    simp only [PyData.bulkAll,List.length_cons,Nat.mul_add]
    omega
theorem qc9 {B:Nat}:∀ {xs:List PyData},(∀ x∈xs,x.leavesShort B=true)→PyData.leavesShortAll B xs=true
  | [],_=>by simp [PyData.leavesShortAll]
  | x :: xs,h=>by
    simp only [PyData.leavesShortAll,h x List.mem_cons_self,qc9 (xs:=xs) fun y hy=>h y (List.mem_cons_of_mem _ hy),Bool.and_self]
end L2
set_option Elab.async false
set_option linter.all false
set_option maxRecDepth 100000
set_option maxHeartbeats 2000000
namespace L2
open PySem PySem.Spec PyProof.Rows PySem.W
abbrev bmV:List Value:=[.type "ValueError",.type "Exception",.type "BaseException",.type "object"]
def qde (K:PySem.W.Frag) (C:Addr):Bool:=match K.lookup C with
  | some ⟨.type "type",_,.cls cd,sl⟩=>(match cd.mro,sl.toList with
    | .ref D :: bm,[_,_,_,_,some (.builtin n),_]=>D == C && n == "ValueError.__new__" && !cd.hasDel && cd.hasDict && PySem.W.tailIn K bmV bm
    | _,_=>false)
  | _=>false
theorem yc5 {K:PySem.W.Frag} {h:Heap} {C:Addr} (X:K.In h) (q:qde K C=true):∃ nm qn N bs bm sn sub ab col dd k0 k1 k2 k3 k5,
    h.get? C=some (excClassObj nm qn C N bs bm true sn sub ab col dd k0 k1 k2 k3 k5 "ValueError.__new__")∧OwnTail h bmV bm:=by
  unfold qde at q
  split at q
  · rename_i dd cd sl ho
    split at q
    · rename_i D bm k0 k1 k2 k3 n k5 hm hs
      simp only [Bool.and_eq_true,beq_iff_eq,Bool.not_eq_true'] at q
      obtain ⟨⟨⟨⟨rfl,rfl⟩,hdel⟩,hdi⟩,ht⟩:=q
      obtain ⟨nm,bs,mro,ns,qn,hd,sn,sub,ab,col,del⟩:=cd
      dsimp only at hm hdel hdi
      subst hm hdel hdi
      obtain ⟨l⟩:=sl
      simp only at hs
      subst hs
      exact ⟨nm,qn,ns,bs,bm,sn,sub,ab,col,dd,k0,k1,k2,k3,k5,X _ _ ho,tail_of_in X ht⟩
    · cases q
  · cases q
section
variable {prog:Program} {w:World} {A:Around} {E:Value→Shared→Prop} {h:Heap} {g:Array GenState} {d:Drawn} {t:Nat} {os:OsState} {K:PySem.W.Frag} {C fI:Addr}
theorem ygd {rest:List Value} {Q:Fin→Shared→Prop} (X:K.In h) (cx:qde K C=true) (hi:PySem.W.findIn K (.ref C) "__init__" = some (some (.ref fI))) (hf:PySem.W.isFn K (.ref fI)=true)
    (hq:∀ h' e,Heap.MadeExcOf h h' e (.ref C) rest→wpAny (model prog w) A (call (.ref fI) (.ref e :: rest)) (fun r s'=>r=.none∧Q (.done (.ret (.ref e))) s') E ⟨h',g,d,t,os⟩) (hrest:rest.length≤sizeLine) :
    wpAny (model prog w) A (Builtin.«type.__call__» ⟨.ref C :: rest,[]⟩) Q E ⟨h,g,d,t,os⟩:=by
  obtain ⟨nm,qn,N,bs,bm,sn,sub,ab,col,dd,k0,k1,k2,k3,k5,cC,T⟩:=yc5 X cx
  repeat (first | with_reducible refine wpAny_loadPart_at cC ?_ | with_reducible refine wpAny_madeBy_exc cC ?_ | wp_step)
  refine codeAny_call_builtin_code (Code.quiet_builtin _ PySem.F.excBase_ValueError.quiet) (wpAny_check_new_subU PySem.F.excBase_ValueError PySem.F.excBase_ValueError.hasB T cC ?_)
  refine codeAny_exc_new_subU PySem.F.excBase_ValueError PySem.F.excBase_ValueError.hasB PySem.F.excBase_ValueError T cC ?_ hrest
  show wpAny _ _ _ _ _ _
  generalize hp1:h.push { cls:=.type "tuple",data:=.seq rest.toArray }=h1
  have kp1:∀ b o,h.get? b=some o→h1.get? b=some o:=fun b o e=>by rw [← hp1]; exact Heap.get?_push_of_some _ e
  have tp1:h1.get? h.objs.size=some { cls:=.type "tuple",data:=.seq rest.toArray }:=by rw [← hp1]; exact Heap.get?_push_at rfl rfl
  have sz1:h1.objs.size=h.objs.size + 1:=by rw [← hp1,Heap.size_push]
  generalize hp2:h1.push { cls:=.ref C,data:=.fields #[.ref h.objs.size,.none,.none,.none,.bool false,.none] }=h2
  have kp2:∀ b o,h.get? b=some o→h2.get? b=some o:=fun b o e=>by rw [← hp2]; exact Heap.get?_push_of_some _ (kp1 b o e)
  have tp2:h2.get? h.objs.size=some { cls:=.type "tuple",data:=.seq rest.toArray }:=by rw [← hp2]; exact Heap.get?_push_of_some _ tp1
  have ge2:h2.get? (h.objs.size + 1)=some { cls:=.ref C,data:=.fields #[.ref h.objs.size,.none,.none,.none,.bool false,.none] }:=by rw [← hp2,← sz1]; exact Heap.get?_push_size _ rfl
  have X2:K.In h2:=X.keeps kp2
  have cC2:=kp2 _ _ cC
  have hcC:(Value.ref C :: bm).contains (.ref C)=true:=by simp
  unfold isInstance
  repeat (first | with_reducible refine wpAny_loadPart_at ge2 ?_ | (with_reducible refine wpAny_isSubtype_exc cC2 ?_; rw [hcC]) | wp_step)
  show wpAny _ _ (typeLookup (.ref C) _) _ _ _
  refine (looks_findIn X2 hi).here ?_
  refine wpAny_holding (wpAny_bind ((bind_fn X2 (.ref (h.objs.size + 1)) (beq_iff_eq.mp hf)).here ?_))
  refine wpAny_bind (wpAny_mono (hq h2 (h.objs.size + 1) ⟨kp2,Heap.get?_none_of_le (Nat.le_succ _),h.objs.size,ge2,Heap.get?_none_of_le (Nat.le_refl _),tp2⟩) (fun r s' hr=>?_) fun _ _ z=>z)
  obtain ⟨rfl,hQ⟩:=hr
  wp_walk
  exact hQ
theorem xc_call {rest:List Value} {Q:Value→Shared→Prop} (X:K.In h) (cx:qde K C=true) (hi:PySem.W.findIn K (.ref C) "__init__" = some (some (.ref fI))) (hf:PySem.W.isFn K (.ref fI)=true)
    (hq:∀ h' e,Heap.MadeExcOf h h' e (.ref C) rest→wpAny (model prog w) (A.under (.builtin "type.__call__" ⟨.ref C :: rest,[]⟩)) (call (.ref fI) (.ref e :: rest)) (fun r s'=>r=.none∧Q (.ref e) s') E ⟨h',g,d,t,os⟩) (hrest:rest.length≤sizeLine) :
    wpAny (model prog w) A (call (.ref C) rest) Q E ⟨h,g,d,t,os⟩:=by
  obtain ⟨nm,qn,N,bs,bm,sn,sub,ab,col,dd,k0,k1,k2,k3,k5,cC,T⟩:=yc5 X cx
  have g1:=tc_lookup
  have g2:=tc_bind (.ref C)
  have gT:(⟨h,g,d,t,os⟩:Shared).TypeIs (.ref C) "type":=⟨_,cC,rfl⟩
  refine wpAny_call (codeAny_of_tree ?_)
  show wpAny _ _ (callAny (.ref C) _) _ _ _
  repeat (any_goals (first | assumption | with_reducible refine wpAny_loadPart_at cC ?_ | wp_step))
  refine ⟨rfl,codeAny_call_builtin_at (Code.quiet_builtin _ (by decide +kernel)) entry_typeCall (wpAny_check_type_call_sub cC (ygd X cx hi hf (fun h' e hm=>hq h' e hm) hrest))⟩
end
end L2
set_option Elab.async false
set_option linter.all false
set_option maxRecDepth 100000
set_option maxHeartbeats 2000000
namespace L2
open PySem PySem.Spec PyProof.Rows PySem.W
theorem ygt {h:Heap} {bm:List Value} (T:OwnTail h bmV bm) (self:Value):refuseLoop self "__setattr__" bm=pure ():=by
  induction T with
  | base=>exact PySem.F.store_ValueError.passes self
  | own _ _ _ _ ih=>rw [refuseLoop_ref]; exact ih
section
variable {prog:Program} {w:World} {A:Around} {E:Value→Shared→Prop} {h:Heap} {g:Array GenState} {d:Drawn} {t:Nat} {os:OsState} {K:PySem.W.Frag} {C x:Addr} {mA:Str→Option Value} {name:Str} {v:Value}
theorem ygr {M:Model} {o:Obj} {nameV:Value} {Q:Unit→Shared→Prop} (X:K.In h) (cx:qde K C=true) (hx:h.get? x=some o) (hc:o.cls=.ref C) (hq:Q () ⟨h,g,d,t,os⟩) :
    wpAny M A (checkBuiltinCall "object.__setattr__" ⟨[.ref x,nameV,v],[]⟩) Q E ⟨h,g,d,t,os⟩:=by
  obtain ⟨nm,qn,N,bs,bm,sn,sub,ab,col,dd,k0,k1,k2,k3,k5,cC,T⟩:=yc5 X cx
  have SF:=PySem.F.store_ValueError
  have hob:(Value.ref C :: bm).contains (.type "object")=true:=by rw [List.contains_cons,T.hasType SF.hasOwner,Bool.or_true]
  have hargs:=SF.args (.ref x) nameV v
  simp only [checkBuiltinCall,SF.kind,SF.split]
  refine wpAny_bind ?_
  unfold isInstance
  repeat (first | (with_reducible refine wpAny_loadPart_at hx ?_; rw [hc]) | (with_reducible refine wpAny_isSubtype_exc cC ?_; rw [hob]) | wp_step)
  exact hq
theorem yez {tk:Tok} {Q:Fin→Shared→Prop} {ns:List Str} (X:K.In h) (cx:qde K C=true) (hna:PySem.W.findIn K (.ref C) name=some none) (I:h.Inst x C mA)
    (hq:∀ h' tk',h'.Inst x C (fun y=>if y=name then some v else mA y)→
      (∀ b o,b≠x→(∀ o0 dx,h.get? x=some o0→o0.dict=some dx→b≠dx)→h.get? b=some o→h'.get? b=some o)→
      (∀ o0,h.get? x=some o0→∃ o1,h'.get? x=some o1∧o1.cls=o0.cls∧o1.data=o0.data∧(∀ dx,o0.dict=some dx→o1.dict=some dx)∧(o0.dict=none→o1.dict=some h.objs.size))→Q (.done (.ret .none)) ⟨h',g,d,tk',os⟩)
    (hw:Within mA ns) (hsz:ns.length + 1≤sizeLine) :
    wpAny (model prog w) A (Builtin.«object.__setattr__» ⟨[.ref x,.str name tk,v],[]⟩) Q E ⟨h,g,d,t,os⟩:=by
  obtain ⟨nm,qn,N,bs,bm,sn,sub,ab,col,dd,k0,k1,k2,k3,k5,cC,T⟩:=yc5 X cx
  obtain ⟨o,hx,hc,hnc,hd⟩:=I
  have hpass:=ygt T (.ref x)
  unfold Builtin.«object.__setattr__»
  repeat (first | rw [refuse_eq] | (rw [refuseLoop_ref,hpass]) | (with_reducible refine wpAny_loadPart_at hx ?_; rw [hc]) | with_reducible refine wpAny_mroOf_exc cC ?_ | with_reducible refine (looks_findIn X hna).here ?_ | wp_step)
  have put:∀ (dx:Addr) (h1:Heap) (mB:Str→Option Value) (ms:List Str),h1.Ns1 dx mB→Within mB ms→ms.length + 1≤sizeLine→
      (∀ h' tk',h'.Ns1 dx (fun y=>if y=name then some v else mB y)→Heap.SameBut dx h1 h'→Q (.done (.ret .none)) ⟨h',g,d,tk',os⟩)→
      wpAny (model prog w) A (Builtin.ObjectAttr.storeInDict dx (.str name tk) name v) Q E ⟨h1,g,d,t,os⟩:=fun dx h1 mB ms n1 wi le fin=>by
    unfold Builtin.ObjectAttr.storeInDict Builtin.ObjectAttr.newKeyGuard
    refine wpAny_bind (wpAny_pure (wpAny_bind (wpAny_nsSet1 n1 fun h' n2 sb=>?_)))
    obtain ⟨oD,eD,pD,oE,dE,cE⟩:=n2.count (Within.cons name v wi)
    refine wpAny_bind (wpAny_lookBehind oE (by rw [dE]; exact pastItsLine_dict (Nat.le_trans cE (by rw [List.length_cons]; omega))) ?_)
    wp_walk
    exact fin h' _ n2 sb
  rcases hd with ⟨hdn,hmA⟩ | ⟨dx,hdx,hne,hns⟩
  · rw [hdn]
    have hif:¬ ((!true || !typeHasDict (Value.ref C))=true):=by simp [typeHasDict]
    show wpAny _ _ (if (!true || !typeHasDict (Value.ref C))=true then _ else _) _ _ _
    rw [if_neg hif]
    have hxs:x≠h.objs.size:=Nat.ne_of_lt (Heap.lt_size hx)
    have px:(h.push { cls:=.type "dict",data:=.dict #[] }).get? x=some o:=Heap.get?_push_of_some _ hx
    split
    · rename_i c hcd
      exact absurd hcd (hnc c)
    · refine wpAny_bind (wpAny_alloc' (wpAny_bind (wpAny_update' px (wpAny_pure ?_))))
      have dg:((h.push { cls:=.type "dict",data:=.dict #[] }).update x fun o=>{ cls:=o.cls,dict:=some h.objs.size,data:=o.data,slots:=o.slots }).get? h.objs.size=some { cls:=.type "dict",data:=.dict #[] }:=
        (Heap.get?_update_ne _ _ _ _ hxs.symm).trans (Heap.get?_push_at rfl rfl)
      have dn:((h.push { cls:=.type "dict",data:=.dict #[] }).update x fun o=>{ cls:=o.cls,dict:=some h.objs.size,data:=o.data,slots:=o.slots }).Ns h.objs.size (fun _=>none):=
        ⟨_,#[],_,dg,rfl,(by intro e he; exact absurd he (by simp)),fun _=>rfl⟩
      refine put h.objs.size _ _ [] (Heap.Ns1.of_empty dn) Within.nil (by rw [sizeLine_eq]; decide) fun h' tk' n2 sb=>?_
      have gx:h'.get? x=some { cls:=o.cls,dict:=some h.objs.size,data:=o.data,slots:=o.slots }:=by
        refine (sb.2 x hxs).trans (Heap.get?_update_self _ px ?_)
        have fr:=(Heap.get?_some_iff.mp hx).2
        obtain ⟨oc,od,odt,osl⟩:=o
        cases odt <;> first | rfl | exact fr
      refine hq h' tk' ⟨_,gx,hc,hnc,.inr ⟨h.objs.size,rfl,hxs.symm,?_⟩⟩ (fun b ob hbx _ hb=>?_) (fun o0 e0=>?_)
      · have em:(fun y=>if y=name then some v else mA y)=(fun y=>if y=name then some v else (none:Option Value)):=by
          funext y
          by_cases hy:y=name
          · simp [hy]
          · simp [hy,hmA y]
        rw [em]; exact n2
      · exact (sb.2 b (Nat.ne_of_lt (Heap.lt_size hb))).trans ((Heap.get?_update_ne _ _ _ _ hbx).trans (Heap.get?_push_of_some _ hb))
      · rw [hx] at e0; cases e0
        exact ⟨_,gx,rfl,rfl,(by intro dx e; rw [hdn] at e; cases e),fun _=>rfl⟩
  · rw [hdx]
    refine wpAny_pure ?_
    refine put dx h mA ns hns hw hsz fun h' tk' n2 sb=>?_
    refine hq h' tk' ⟨o,(sb.2 x hne.symm).trans hx,hc,hnc,.inr ⟨dx,hdx,hne,n2⟩⟩ (fun b ob _ hbd hb=>(sb.2 b (hbd o dx hx hdx)).trans hb) (fun o0 e0=>⟨o0,(sb.2 x hne.symm).trans e0,rfl,rfl,fun _ e=>e,fun e=>?_⟩)
    rw [hx] at e0; cases e0
    rw [hdx] at e; cases e
theorem xc_store {Q:Unit→Shared→Prop} {ns:List Str} (X:K.In h) (cx:qde K C=true) (hsa:PySem.W.findIn K (.ref C) "__setattr__" = some (some (.builtin "object.__setattr__"))) (hna:PySem.W.findIn K (.ref C) name=some none) (I:h.Inst x C mA)
    (hq:∀ h' tk',h'.Inst x C (fun y=>if y=name then some v else mA y)→
      (∀ b o,b≠x→(∀ o0 dx,h.get? x=some o0→o0.dict=some dx→b≠dx)→h.get? b=some o→h'.get? b=some o)→
      (∀ o0,h.get? x=some o0→∃ o1,h'.get? x=some o1∧o1.cls=o0.cls∧o1.data=o0.data∧(∀ dx,o0.dict=some dx→o1.dict=some dx)∧(o0.dict=none→o1.dict=some h.objs.size))→Q () ⟨h',g,d,tk',os⟩)
    (hw:Within mA ns) (hsz:ns.length + 1≤sizeLine):wpAny (model prog w) A (setAttr (.ref x) name v) Q E ⟨h,g,d,t,os⟩:=by
  obtain ⟨o,hx,hc,_⟩:=id I
  have SF:=PySem.F.store_ValueError
  have b3:=SF.slot.bind (.ref x)
  unfold setAttr callSpecial? specialOf
  repeat (any_goals (first | assumption | (with_reducible refine wpAny_loadPart_at hx ?_; rw [hc]) | with_reducible refine (looks_findIn X hsa).here ?_ | wp_step))
  refine codeAny_call_builtin SF.slot.plain SF.entry (ygr X cx hx hc (yez X cx hna I (fun h' tk' I' hk hsame=>?_) hw hsz))
  repeat (any_goals (first | assumption | wp_step))
  exact hq h' tk' I' hk hsame
end
end L2
set_option Elab.async false
set_option linter.all false
set_option maxRecDepth 100000
set_option maxHeartbeats 2000000
namespace L2
open PySem PySem.Spec PyProof.Rows PySem.W
section
variable {prog:Program} {w:World} {A:Around} {E:Value→Shared→Prop} {h:Heap} {g:Array GenState} {d:Drawn} {t:Nat} {os:OsState} {K:PySem.W.Frag} {C x:Addr} {mA:Str→Option Value} {name:Str} {v:Value}
theorem qed {M:Model} {o:Obj} {nameV:Value} {Q:Unit→Shared→Prop} (X:K.In h) (cx:qde K C=true) (hx:h.get? x=some o) (hc:o.cls=.ref C) (hq:Q () ⟨h,g,d,t,os⟩) :
    wpAny M A (checkBuiltinCall "BaseException.__getattribute__" ⟨[.ref x,nameV],[]⟩) Q E ⟨h,g,d,t,os⟩:=by
  obtain ⟨nm,qn,N,bs,bm,sn,sub,ab,col,dd,k0,k1,k2,k3,k5,cC,T⟩:=yc5 X cx
  have kd:builtinKind "BaseException.__getattribute__" = some .slot:=by decide +kernel
  have sp:splitId "BaseException.__getattribute__" = some ("BaseException","__getattribute__"):=by decide +kernel
  have hob:(Value.ref C :: bm).contains (.type "BaseException")=true:=by rw [List.contains_cons,T.hasType PySem.F.excBase_ValueError.hasBase]; rfl
  have ar:=PySem.F.args_bexc_ga (.ref x) nameV
  simp only [checkBuiltinCall,kd,sp]
  refine wpAny_bind ?_
  unfold isInstance
  repeat (first | (with_reducible refine wpAny_loadPart_at hx ?_; rw [hc]) | (with_reducible refine wpAny_isSubtype_exc cC ?_; rw [hob]) | wp_step)
  exact hq
theorem qe8 {tk:Tok} {Q:Fin→Shared→Prop} (X:K.In h) (cx:qde K C=true) (hna:PySem.W.findIn K (.ref C) name=some none) (I:h.Inst x C mA) (hv:mA name=some v) (hq:Q (.done (.ret v)) ⟨h,g,d,t,os⟩) :
    wpAny (model prog w) A (Builtin.«object.__getattribute__» ⟨[.ref x,.str name tk],[]⟩) Q E ⟨h,g,d,t,os⟩:=by
  obtain ⟨nm,qn,N,bs,bm,sn,sub,ab,col,dd,k0,k1,k2,k3,k5,cC,T⟩:=yc5 X cx
  obtain ⟨o,hx,hc,hnc,hd⟩:=I
  rcases hd with ⟨_,hmA⟩ | ⟨dx,hdx,hne,hns⟩
  · rw [hmA name] at hv; cases hv
  repeat (any_goals (first | assumption | (with_reducible refine wpAny_loadPart_at hx ?_; rw [hc]) | with_reducible refine (looks_findIn X hna).here ?_ | wp_step))
  split
  · rename_i c hcd
    exact absurd hcd (hnc c)
  unfold instanceDict
  repeat (first | (with_reducible refine wpAny_loadPart_at hx ?_; rw [hc]) | with_reducible refine wpAny_loadPart_at cC ?_ | wp_step)
  rw [hdx]
  repeat (first | (with_reducible refine wpAny_nsGet hns.ns ?_; rw [hv]) | wp_step)
  exact hq
theorem xc_load {expr:Bool} {Q:Value→Shared→Prop} (X:K.In h) (cx:qde K C=true) (hga:PySem.W.findIn K (.ref C) "__getattribute__" = some (some (.builtin "BaseException.__getattribute__"))) (hgh:PySem.W.findIn K (.ref C) "__getattr__" = some none)
    (hna:PySem.W.findIn K (.ref C) name=some none) (I:h.Inst x C mA) (hv:mA name=some v) (hh:handedOut v=pure v) (hq:Q v ⟨h,g,d,t + 1,os⟩) :
    wpAny (model prog w) A (getAttr (.ref x) name expr) Q E ⟨h,g,d,t,os⟩:=by
  obtain ⟨o,hx,hc,_⟩:=id I
  have FV:=PySem.F.excAttr_ValueError
  have q3:=FV.ga.bind (.ref x)
  have e0:(expr && onTheHeap (Value.builtin "BaseException.__getattribute__"))=false:=by cases expr <;> rfl
  have e2:(Value.builtin "BaseException.__getattribute__" == Value.builtin "object.__getattribute__")=false:=by decide +kernel
  have e1:(onTheHeap (Value.ref C) && Value.builtin "BaseException.__getattribute__" == Value.builtin "object.__getattribute__")=false:=by rw [e2]; rfl
  unfold getAttr getAttrBy
  repeat (any_goals (first | assumption | (with_reducible refine wpAny_loadPart_at hx ?_; rw [hc]) | with_reducible refine (looks_findIn X hga).here ?_ | with_reducible refine (looks_findIn X hgh).here ?_ | wp_step))
  refine codeAny_call_builtin FV.ga.plain PySem.F.entry_bexc_ga (qed X cx hx hc (qe8 X cx hna I hv ?_))
  show wpAny _ _ (handedOut v) _ _ _
  rw [hh]
  exact wpAny_pure hq
end
end L2
set_option Elab.async false
set_option linter.all false
set_option maxRecDepth 100000
set_option maxHeartbeats 2000000
namespace L2
open PySem PySem.Spec PyProof.Rows PySem.W
structure XTy (K:PySem.W.Frag) (C:Addr):Prop where
  cx:qde K C=true
  ga:PySem.W.findIn K (.ref C) "__getattribute__" = some (some (.builtin "BaseException.__getattribute__"))
  gh:PySem.W.findIn K (.ref C) "__getattr__" = some none
  hc:(PySem.W.clsIn K C).isSome=true
  ha:PySem.W.findIn K (.ref C) "__class__" = some (some (.builtin "object.__class__"))
  hn:PySem.W.specialIn K (.builtin "object.__class__") "__get__" = some (some (.builtin "getset_descriptor.__get__"))
  tk:PySem.W.takesIn K (.builtin "object.__class__")=some true
  hm:PySem.W.mroIn K C (.type "object")=some true
section
variable {prog:Program} {w:World} {A:Around} {E:Value→Shared→Prop} {s:Shared} {K:PySem.W.Frag} {x C:Addr} {ox:Obj} {od:Option Obj}
theorem XTy.find (T:XTy K C):PySem.W.findObj K C od "__class__" = some (.bind (.builtin "getset_descriptor.__get__") (.builtin "object.__class__")):=by
  obtain ⟨cd,hc⟩:=Option.isSome_iff_exists.mp T.hc
  unfold PySem.W.findObj
  rw [hc,Option.bind_some,T.ha,Option.bind_some]
  simp [T.hn,T.tk]
theorem xc_class {Q:Option Value→Shared→Prop} (X:K.In s.heap) (T:XTy K C) (I:PySem.W.InstAt s.heap x ox C od) (q:Q (some (.ref C)) { s with toks:=s.toks + 1 }):wpAny (model prog w) A (getAttr? (.ref x) "__class__") Q E s:=by
  obtain ⟨h,g,d,t,os⟩:=s
  replace X:K.In h:=X
  replace I:PySem.W.InstAt h x ox C od:=I
  have FV:=PySem.F.excAttr_ValueError
  have q3:=FV.ga.bind (.ref x)
  have e0:(false && onTheHeap (Value.builtin "BaseException.__getattribute__"))=false:=rfl
  have hx:=I.at_
  have hc:=I.cls
  have e2:(Value.builtin "BaseException.__getattribute__" == Value.builtin "object.__getattribute__")=false:=by decide +kernel
  have e1:(onTheHeap (Value.ref C) && Value.builtin "BaseException.__getattribute__" == Value.builtin "object.__getattribute__")=false:=by rw [e2]; rfl
  unfold getAttr? getAttrBy? getAttrBy
  repeat (any_goals (first | assumption | (with_reducible refine wpAny_loadPart_at hx ?_; rw [hc]) | with_reducible refine (looks_findIn X T.ga).here ?_ | with_reducible refine (looks_findIn X T.gh).here ?_ | wp_step))
  refine codeAny_call_builtin FV.ga.plain PySem.F.entry_bexc_ga (qed X T.cx hx hc ?_)
  unfold Builtin.«object.__getattribute__»
  repeat (any_goals (first | assumption | (with_reducible refine wpAny_loadPart_at hx ?_; rw [hc]) | with_reducible refine (looks_find X I T.find).here ?_ | wp_step))
  refine class_get (s:=⟨h,g,d,t + 1,os⟩) X I T.hm ?_
  show wpAny _ _ (ret (.ref C)) _ _ _
  refine wpAny_pure ?_
  show wpAny _ _ (handedOut (.ref C)) _ _ _
  exact handed_on rfl (wpAny_pure q)
theorem kitx_xc (T:XTy K C):KitX K (.ref x) (.ref C) (fun h=>∃ ox od,PySem.W.InstAt h x ox C od) where
  ty:=fun _ _ _ ⟨_,_,I⟩=>I.type
  it:=fun _ _ X _=>by
    obtain ⟨cd,hc⟩:=Option.isSome_iff_exists.mp T.hc
    unfold PySem.W.clsIn at hc
    split at hc
    · rename_i c' d' cd' sl' ho
      intro A' Q' E' s' k q
      unfold isType loadHead
      exact wpAny_bind (wpAny_loadPart (k _ _ (X _ _ ho)) (wpAny_pure q))
    · cases hc
  ne:=fun h tp dd its n sl X htp=>by
    obtain ⟨cd,hc⟩:=Option.isSome_iff_exists.mp T.hc
    refine Bool.eq_false_iff.mpr fun q=>?_
    have e:C=tp:=Value.ref.inj (beq_iff_eq.mp q)
    subst e
    unfold PySem.W.clsIn at hc
    split at hc
    · rename_i c' d' cd' sl' ho
      have z:=(X _ _ ho).symm.trans htp
      cases z
    · cases hc
  ca:=fun X ⟨_,_,I⟩ k=>xc_class X T I k
end
end L2
set_option Elab.async false
set_option linter.all false
set_option maxRecDepth 100000
set_option maxHeartbeats 2000000
namespace L2
open PySem PySem.Spec PyProof.Rows PySem.W
section
variable {X:Cx} {pins:List (Addr×Obj)} {σ:St} {H:Hp} {s:Shared} {h':Heap} {a d:Addr} {oA oD:HO}
theorem Inv.two {t':Nat} (I:Inv X pins σ H s) (ma:Mut (H a)) (md:Mut (H d)∨s.heap.objs.size≤d) (hne:d≠a) (k:∀ b u,b≠a→b≠d→s.heap.get? b=some u→h'.get? b=some u) (ta:∃ u,h'.get? a=some u) (td:∃ u,h'.get? d=some u)
    (na:ya4 X.prog X.w (upd (upd H d oD) a oA) h' a oA) (nd:ya4 X.prog X.w (upd (upd H d oD) a oA) h' d oD):Inv X pins σ (upd (upd H d oD) a oA) { s with heap:=h',toks:=t' }:=by
  have up:∀ b,b≠a→b≠d→upd (upd H d oD) a oA b=H b:=fun b h1 h2=>by rw [qaf h1,qaf h2]
  have na0:∀ b,H b=none→b≠a:=fun b n z=>by subst z; rw [n] at ma; exact ma
  have nd0:∀ b u,s.heap.get? b=some u→H b=none→b≠d:=fun b u e n z=>by
    subst z
    rcases md with md | md
    · rw [n] at md; exact md
    · exact absurd (Nat.lt_of_lt_of_le (Heap.lt_size e) md) (Nat.lt_irrefl _)
  have ms:∀ b u,H b=some u→¬ Mut (some u)→b≠a∧b≠d:=fun b u e nm=>by
    refine ⟨?_,?_⟩
    · rintro rfl; rw [e] at ma; exact nm ma
    · rintro rfl
      rcases md with md | md
      · rw [e] at md; exact nm md
      · have:=I.hok.fresh md; rw [e] at this; cases this
  refine I.un ⟨fun b u e n _ _=>k b u (na0 b n) (nd0 b u e n) e,fun b u e n _ _=>⟨u.slots,k b u (na0 b n) (nd0 b u e n) e⟩,fun b u e n _=>by rw [up b (na0 b n) (nd0 b u e n)]; exact n,fun b u e _=>?_,
    fun b xs e=>?_,fun b u xs e=>?_,fun b ps e=>⟨#[],?_⟩⟩ (fun b u e=>?_)
  · by_cases h1:b=a
    · subst h1; exact ta
    · by_cases h2:b=d
      · subst h2; exact td
      · exact ⟨u,k b u h1 h2 e⟩
  · obtain ⟨h1,h2⟩:=ms b _ e fun z=>z
    rw [up b h1 h2]; exact e
  · obtain ⟨h1,h2⟩:=ms b _ e fun z=>z
    rw [up b h1 h2]; exact e
  · obtain ⟨h1,h2⟩:=ms b _ e fun z=>z
    rw [up b h1 h2,e]; simp
  · by_cases h1:b=a
    · subst h1; rw [qaa] at e; cases e; exact na
    · by_cases h2:b=d
      · subst h2; rw [qaf h1,qaa] at e; cases e; exact nd
      · rw [up b h1 h2] at e
        refine (I.hok b u e).stay (fun c v hc q=>?_) (fun c q=>?_) fun c xs q=>?_
        · rcases hc with rfl | hc
          · exact k _ _ h1 h2 q
          · obtain ⟨h3,h4⟩:=ms c _ hc fun z=>z
            exact k _ _ h3 h4 q
        · obtain ⟨h3,h4⟩:=ms c _ q fun z=>z
          rw [up c h3 h4]; exact q
        · obtain ⟨h3,h4⟩:=ms c _ q fun z=>z
          rw [up c h3 h4]; exact q
def yce (a C:Addr) (dx:Option Addr):Heap→Prop:=fun h=>∃ o vs,h.get? a=some o∧o.cls=.ref C∧o.dict=dx∧o.data=.fields vs
def qb8 (a C:Addr) (dx:Option Addr):Heap→Prop:=fun h=>∃ o vs,h.get? a=some o∧o.cls=.ref C∧o.dict=dx∧o.data=.fields vs∧vs[1]?=some .none
theorem qb8.q {a C:Addr} {dx:Option Addr} {h:Heap} (x:qb8 a C dx h):yce a C dx h:=by
  obtain ⟨o,vs,e,c,d,dt,_⟩:=x
  exact ⟨o,vs,e,c,d,dt⟩
def qfq (a d:Addr) (fs:List (Str×V)):Heap→Prop:=fun h=>d≠a∧fs.length≤100∧∃ mA,h.Ns1 d mA∧(∀ f,RelO (fs.lookup f) (mA f))∧PySem.Within mA (fs.map (·.1))
def XAt (H:Hp) (a C:Addr) (fs:List (Str×V)):Prop:=(fs=[]∧H a=some (.ext (qb8 a C none)))∨(∃ d,H a=some (.ext (qb8 a C (some d)))∧H d=some (.ext (qfq a d fs)))∨
  (fs=[]∧H a=some (.ext (yce a C none)))∨(∃ d,H a=some (.ext (yce a C (some d)))∧H d=some (.ext (qfq a d fs)))
theorem XAt.obj {P:Program} {w:World} {H:Hp} {h:Heap} {a C:Addr} {fs:List (Str×V)} (ok:HOk P w H h) (x:XAt H a C fs):(fs=[]∧yce a C none h)∨∃ d,yce a C (some d) h∧qfq a d fs h:=by
  rcases x with ⟨e,h1⟩ | ⟨d,h1,h2⟩ | ⟨e,h1⟩ | ⟨d,h1,h2⟩
  · exact .inl ⟨e,(ok a _ h1).1.q⟩
  · exact .inr ⟨d,(ok a _ h1).1.q,(ok d _ h2).1⟩
  · exact .inl ⟨e,(ok a _ h1).1⟩
  · exact .inr ⟨d,(ok a _ h1).1,(ok d _ h2).1⟩
theorem yg8 {P:Program} {w:World} {H:Hp} {h:Heap} {a C:Addr} {dx:Option Addr} (x:yce a C dx h):ya4 P w H h a (.ext (yce a C dx)):=by
  obtain ⟨o,vs,e,r⟩:=x
  exact ⟨⟨o,vs,e,r⟩,⟨o,e⟩,fun h1 h2 ⟨o,vs,e,r⟩ k=>⟨o,vs,k o e,r⟩⟩
theorem qgk {P:Program} {w:World} {H:Hp} {h:Heap} {a C:Addr} {dx:Option Addr} (x:qb8 a C dx h):ya4 P w H h a (.ext (qb8 a C dx)):=by
  obtain ⟨o,vs,e,r⟩:=x
  exact ⟨⟨o,vs,e,r⟩,⟨o,e⟩,fun h1 h2 ⟨o,vs,e,r⟩ k=>⟨o,vs,k o e,r⟩⟩
theorem yim {P:Program} {w:World} {H:Hp} {h:Heap} {a d:Addr} {fs:List (Str×V)} (x:qfq a d fs h):ya4 P w H h d (.ext (qfq a d fs)):=by
  obtain ⟨n,l,mA,⟨o,es,ep,e,r⟩,r2⟩:=id x
  exact ⟨x,⟨o,e⟩,fun h1 h2 ⟨n,l,mA,⟨o,es,ep,e,r⟩,r2⟩ k=>⟨n,l,mA,⟨o,es,ep,k o e,r⟩,r2⟩⟩
theorem XAt.inst {C:Addr} {fs:List (Str×V)} (x:XAt H a C fs) (I:Inv X pins σ H s):∃ mA,s.heap.Inst a C mA∧(∀ f,RelO (fs.lookup f) (mA f))∧PySem.Within mA (fs.map (·.1))∧fs.length≤100:=by
  rcases x.obj I.hok with ⟨rfl,o,vs,e,c,dn,dt⟩ | ⟨d,⟨o,vs,e,c,dn,dt⟩,n,l,mA,n1,r,wi⟩
  · exact ⟨fun _=>none,⟨o,e,c,(by intro c z; rw [dt] at z; cases z),.inl ⟨dn,fun _=>rfl⟩⟩,fun f=>trivial,PySem.Within.nil,by simp⟩
  · exact ⟨mA,⟨o,e,c,(by intro c z; rw [dt] at z; cases z),.inr ⟨d,dn,n,n1⟩⟩,r,wi,l⟩
end
theorem XAt.same {H H':Hp} {a C:Addr} {fs:List (Str×V)} (s:∀ b o,H b=some o→H' b=some o) (x:XAt H a C fs):XAt H' a C fs:=by
  rcases x with ⟨e,h1⟩ | ⟨d,h1,h2⟩ | ⟨e,h1⟩ | ⟨d,h1,h2⟩
  · exact .inl ⟨e,s _ _ h1⟩
  · exact .inr (.inl ⟨d,s _ _ h1,s _ _ h2⟩)
  · exact .inr (.inr (.inl ⟨e,s _ _ h1⟩))
  · exact .inr (.inr (.inr ⟨d,s _ _ h1,s _ _ h2⟩))
end L2
set_option Elab.async false
set_option linter.all false
set_option maxRecDepth 100000
set_option maxHeartbeats 2000000
namespace L2
open PySem PySem.Spec PyProof.Rows PySem.W
structure XOk (K:PySem.W.Frag) (C:Addr):Prop extends XTy K C where
  sa:PySem.W.findIn K (.ref C) "__setattr__" = some (some (.builtin "object.__setattr__"))
def NoF (K:PySem.W.Frag) (C:Addr) (f:Str):Prop:=PySem.W.findIn K (.ref C) f=some none
def XD (H:Hp) (a C:Addr) (dx:Option Addr) (fs:List (Str×V)):Prop:=(dx=none∧fs=[]∧H a=some (.ext (qb8 a C none)))∨∃ d,dx=some d∧H a=some (.ext (qb8 a C (some d)))∧H d=some (.ext (qfq a d fs))
theorem XD.xat {H:Hp} {a C:Addr} {dx:Option Addr} {fs:List (Str×V)} (x:XD H a C dx fs):XAt H a C fs:=by
  rcases x with ⟨_,e,h⟩ | ⟨d,_,h1,h2⟩
  · exact .inl ⟨e,h⟩
  · exact .inr (.inl ⟨d,h1,h2⟩)
structure SetX (a d:Addr) (dx:Option Addr) (H H':Hp):Prop where
  dd:dx=some d∨(dx=none∧H d=none)
  kp:∀ b o,H b=some o→b≠a→b≠d→H' b=some o
section
variable {X:Cx} {pins:List (Addr×Obj)} {σ:St} {H:Hp} {s:Shared} {a C:Addr} {dx:Option Addr} {fs:List (Str×V)} {f:Str} {v:V} {u:Value}
theorem qi8 {d:Addr} {h':Heap} {mA:Str→Option Value} (hne:d≠a) (hl:fs.length < 100) (n1:h'.Ns1 d fun y=>if y=f then some u else mA y) (r:∀ g,RelO (fs.lookup g) (mA g)) (wi:PySem.Within mA (fs.map (·.1))) (rv:RelV v u):qfq a d (putF f v fs) h':=by
  refine ⟨hne,by have:=qea f v fs; omega,_,n1,fun g=>?_,fun g hg=>?_⟩
  · rw [yef]
    by_cases q:g=f
    · simp only [q,if_true]; exact rv
    · simp only [q,if_false]; exact r g
  · by_cases q:g=f
    · subst q; exact (yea g v fs).1
    · exact (yea f v fs).2 g (wi g fun z=>hg (by simp only [q,if_false]; exact z))
theorem setx_ok {E:Value→Shared→Prop} {Q:Unit→Shared→Prop} (I:Inv X pins σ H s) (x:XD H a C dx fs) (c:XOk X.K C) (n:NoF X.K C f) (hl:fs.length < 100) (rv:RelV v u)
    (k:∀ d H' s',Inv X pins σ H' s'→XD H' a C (some d) (putF f v fs)→SetX a d dx H H'→Q () s'):wpAny (model X.prog X.w) X.A (setAttr (.ref a) f u) Q E s:=by
  obtain ⟨mA,inst,r,wi,l⟩:=x.xat.inst I
  have kin:=I.kIn
  obtain ⟨hh,g,dr,t,os⟩:=s
  refine xc_store kin c.cx c.sa n inst (fun h' tk' inst' keep same=>?_) wi (by rw [List.length_map,sizeLine_eq]; omega)
  rcases x with ⟨rfl,rfl,h1⟩ | ⟨d,rfl,h1,h2⟩
  · obtain ⟨⟨o,vs,e,cc,dn,dt,rw1⟩,_⟩:=I.hok a _ h1
    obtain ⟨o1,e1,c1,d1,_,dd1⟩:=same o e
    have dd:=dd1 dn
    obtain ⟨o2,e2,_,_,⟨z,_⟩ | ⟨d2,z,ne2,n2⟩⟩:=inst'
    · rw [e1] at e2; cases e2; rw [dd] at z; cases z
    · rw [e1] at e2; cases e2
      rw [dd] at z; cases z
      have fr:H hh.objs.size=none:=I.hok.fresh (Nat.le_refl _)
      have px:=qi8 (a:=a) (v:=v) ne2 hl n2 r wi rv
      have po:qb8 a C (some hh.objs.size) h':=⟨o1,vs,e1,c1.trans cc,dd,d1.trans dt,rw1⟩
      refine k hh.objs.size (upd (upd H hh.objs.size (.ext (qfq a hh.objs.size (putF f v [])))) a (.ext (qb8 a C (some hh.objs.size)))) _ (Inv.two I (by rw [h1]; exact True.intro) (.inr (Nat.le_refl _)) ne2 (fun b ob hb hb2 q=>keep b ob hb (fun o0 dx q0 q1=>?_) q) ⟨_,e1⟩ (let ⟨o,_,_,q,_⟩:=n2; ⟨o,q⟩) (qgk po) (yim px)) (.inr ⟨_,rfl,qaa,by rw [qaf ne2]; exact qaa⟩) ⟨.inr ⟨rfl,fr⟩,fun b o hb hba _=>?_⟩
      · have q0':hh.get? a=some o0:=q0
        have e':hh.get? a=some o:=e
        rw [e'] at q0'; cases q0'
        rw [dn] at q1; cases q1
      · rw [qaf hba,qaf (qag hb fr)]; exact hb
  · obtain ⟨⟨o,vs,e,cc,dn,dt,rw1⟩,_⟩:=I.hok a _ h1
    obtain ⟨o1,e1,c1,d1,dd1,_⟩:=same o e
    have dd:=dd1 d dn
    obtain ⟨⟨ne0,_⟩,_⟩:=I.hok d _ h2
    obtain ⟨o2,e2,_,_,⟨z,_⟩ | ⟨d2,z,ne2,n2⟩⟩:=inst'
    · rw [e1] at e2; cases e2; rw [dd] at z; cases z
    · rw [e1] at e2; cases e2
      rw [dd] at z; cases z
      have px:=qi8 (a:=a) (v:=v) ne2 hl n2 r wi rv
      have po:qb8 a C (some d) h':=⟨o1,vs,e1,c1.trans cc,dd,d1.trans dt,rw1⟩
      refine k d (upd (upd H d (.ext (qfq a d (putF f v fs)))) a (.ext (qb8 a C (some d)))) _ (Inv.two I (by rw [h1]; exact True.intro) (.inl (by rw [h2]; exact True.intro)) ne2 (fun b ob hb hb2 q=>keep b ob hb (fun o0 dx q0 q1=>?_) q) ⟨_,e1⟩ (let ⟨o,_,_,q,_⟩:=n2; ⟨o,q⟩) (qgk po) (yim px)) (.inr ⟨_,rfl,qaa,by rw [qaf ne2]; exact qaa⟩) ⟨.inl rfl,fun b o hb hba hbd=>?_⟩
      · have q0':hh.get? a=some o0:=q0
        have e':hh.get? a=some o:=e
        rw [e'] at q0'; cases q0'
        rw [dn] at q1; cases q1
        exact hb2
      · rw [qaf hba,qaf hbd]; exact hb
theorem getx_ok {b:Bool} {E:Value→Shared→Prop} {Q:Value→Shared→Prop} (I:Inv X pins σ H s) (x:XAt H a C fs) (c:XOk X.K C) (n:NoF X.K C f) (l:fs.lookup f=some v) (k:∀ u s',Inv X pins σ H s'→RelV v u→Q u s') :
    wpAny (model X.prog X.w) X.A (getAttr (.ref a) f b) Q E s:=by
  obtain ⟨mA,inst,r,wi,_⟩:=x.inst I
  obtain ⟨u,hu,ru⟩:=RelO.some_of (v:=v) (o:=mA f) (by rw [← l]; exact r f)
  have kin:=I.kIn
  have kk:=k u _ (I.tok (s.toks + 1)) ru
  obtain ⟨hh,g,dr,t,os⟩:=s
  exact xc_load kin c.cx c.ga c.gh n inst hu (handedOut_of (qif ru)) kk
variable {o e value:Expr} {pos pos' p:Pos} {ta tv:TE}
def tXFld (K:PySem.W.Frag) (ta:TE) (f:Str):TE:=fun σ H Q=>ta σ H fun x H1=>∃ a C fs v,x=.ref a∧XAt H1 a C fs∧XOk K C∧NoF K C f∧fs.lookup f=some v∧Q v H1
theorem qjc (he:PE X e ta) (hb:attributeBase e f X.env (eval e X.env)=eval e X.env:=by rfl):PE X (.Attribute e f pos) (tXFld X.K ta f):=by
  intro pins s σ H Q I h
  refine attr_of hb (thn (he pins s σ H _ I h) fun u s1 ⟨x,H1,I1,rx,a,C,fs,v,ex,ea,c,n,l,q⟩=>?_)
  subst ex
  obtain rfl:u=Value.ref a:=rx
  exact getx_ok I1 ea c n l fun u' s2 I2 ru=>⟨v,H1,I2,ru,q⟩
def sXFld (K:PySem.W.Frag) (ta tv:TE) (f:Str):TS:=fun D σ H=>tv σ H fun y H1=>ta σ H1 fun x H2=>∃ a C dx fs,x=.ref a∧XD H2 a C dx fs∧XOk K C∧NoF K C f∧fs.length < 100∧∀ d H3,XD H3 a C (some d) (putF f y fs)→SetX a d dx H2 H3→D.nx σ H3
theorem ps_xfld (ha:PE X o ta) (hv:PE X value tv) (hs:swapsWith value (some (.Attribute o f pos')) pos.line X.env=pure false:=by rfl):PS X (.Assign [.Attribute o f pos'] value pos) (sXFld X.K ta tv f):=by
  intro pins s σ H D I h
  refine plainObj_wpAny_Assign_Attribute (thn (hv pins s σ H _ I h) fun u s1 ⟨y,H1,I1,ry,q⟩=>thn (ha pins s1 σ H1 _ I1 q) fun ov s2 ⟨x,H2,I2,rx,a,C,dx,fs,ex,ea,c,n,l,q2⟩=>?_) hs
  subst ex
  obtain rfl:ov=Value.ref a:=rx
  exact setx_ok I2 ea c n l ry fun d H3 s3 I3 x3 sm=>⟨σ,H3,I3,q2 d H3 x3 sm⟩
end
end L2
set_option Elab.async false
set_option linter.all false
set_option maxRecDepth 100000
set_option maxHeartbeats 2000000
namespace L2
open PySem PySem.Spec PyProof.Rows PySem.W
theorem ya4.ex {P:Program} {w:World} {H:Hp} {h:Heap} {a:Addr} {o:HO} (x:ya4 P w H h a o):∃ u,h.get? a=some u:=by
  cases o with
  | lst xs=>obtain ⟨_,_,_,_,e⟩:=x; exact ⟨_,e⟩
  | tup xs=>obtain ⟨_,_,_,ob,e,_⟩:=x; exact ⟨_,e⟩
  | dK kvs=>obtain ⟨_,_,_,_,o,_,_,e,_⟩:=x; exact ⟨_,e⟩
  | dT kvs=>obtain ⟨_,_,_,_,o,_,_,e,_⟩:=x; exact ⟨_,e⟩
  | set S n=>obtain ⟨o,_,_,_,e,_⟩:=x; exact ⟨_,e⟩
  | ins C dx fs=>obtain ⟨_,_,_,e,_⟩:=x; exact ⟨_,e⟩
  | own y=>exact x
  | xd fs=>obtain ⟨_,⟨_,_,_,e,_⟩,_⟩:=x; exact ⟨_,e⟩
  | rng lo hi=>obtain ⟨_,_,_,e⟩:=x; exact ⟨_,e⟩
  | frz ob u=>obtain ⟨e,_⟩:=x; exact ⟨_,e⟩
  | tbl ps=>exact ⟨_,show h.get? a=some _ from x⟩
  | met f y=>exact ⟨_,show h.get? a=some _ from x⟩
  | ext φ=>exact x.2.1
section
variable {X:Cx} {pins:List (Addr×Obj)} {σ:St} {H:Hp} {s:Shared} {h':Heap} {a C:Addr} {oA:HO}
theorem Inv.laidN {t':Nat} (I:Inv X pins σ H s) (k:∀ b u,s.heap.get? b=some u→h'.get? b=some u) (hn:s.heap.get? a=none) (new:ya4 X.prog X.w (upd H a oA) h' a oA):H a=none∧Inv X pins σ (upd H a oA) { s with heap:=h',toks:=t' }:=by
  have hH:H a=none:=by
    cases q:H a with
    | none=>rfl
    | some u=>obtain ⟨w,e⟩:=(I.hok a u q).ex; rw [hn] at e; cases e
  have nb:∀ b u,s.heap.get? b=some u→b≠a:=fun b u e z=>by rw [z,hn] at e; cases e
  refine ⟨hH,I.un ⟨fun b u e _ _ _=>k b u e,fun b u e _ _ _=>⟨u.slots,k b u e⟩,fun b u e n _=>by rw [qaf (nb b u e)]; exact n,fun b u e _=>⟨u,k b u e⟩,fun b xs e=>by rw [qaf (qag e hH)]; exact e,
    fun b u xs e=>by rw [qaf (qag e hH)]; exact e,fun b ps e=>⟨#[],by rw [qaf (qag e hH),e]; simp⟩⟩ fun b u e=>?_⟩
  by_cases hb:b=a
  · subst hb; rw [qaa] at e; cases e; exact new
  · rw [qaf hb] at e
    exact (I.hok b u e).stay (fun c v _ q=>k c v q) (fun c q=>by rw [qaf (qag q hH)]; exact q) fun c xs q=>by rw [qaf (qag q hH)]; exact q
theorem Inv.madeX {rest:List Value} {t':Nat} (I:Inv X pins σ H s) (m:Heap.MadeExcOf s.heap h' a (.ref C) rest):H a=none∧Inv X pins σ (upd H a (.ext (qb8 a C none))) { s with heap:=h',toks:=t' }:=by
  obtain ⟨tt,e,_⟩:=m.there
  exact I.laidN m.keeps m.new (qgk ⟨_,_,e,rfl,rfl,rfl,rfl⟩)
variable {x:Str} {e:Expr} {es:List Expr} {p pos:Pos} {t:TA}
variable {k:Nat} {f:Addr} {fd:FuncData} {ps:List Str} {sp:Sp}
def tXMake (C:Addr) (sp:Sp) (t:TA):TE:=fun σ H Q=>t σ H fun vs H1=>vs.length≤sizeLine∧∀ a,H1 a=none→sp (.ref a :: vs) (upd H1 a (.ext (qb8 a C none))) (fun v H2=>v=.non∧Q (.ref a) H2) E0
theorem pe_xmake (c:XOk X.K C) (hi:PySem.W.findIn X.K (.ref C) "__init__" = some (some (.ref f))) (hf:PySem.W.isFn X.K (.ref f)=true) (F:FnOk X.prog X.w X.K X.mg X.base CX0 k f fd ps sp) (hr:Room (k + 1) X.A) (hb:yde X.K fd ps []) (kp:PySem.W.keepIn X.K (.ref C)=true)
    (hg:Gl X x) (hm:X.mg x=some (.ref C)) (ha:PA X (e :: es) t) (hdb:(x == ("__debug__" : Str))=false:=by decide)
    (he:starEach (e :: es) X.env=(false,eval e X.env) :: starEach es X.env:=by rfl) (hpl:(backTo pos (starEach es X.env)).any (·.1)=false:=by rfl):PE X (.Call (.Name x p) (e :: es) [] pos) (tXMake C sp t):=by
  intro pins s σ H Q I h
  refine wpAny_Call_Name_kw (qem I hg hm ?_ hdb)
  refine PySem.W.callWith_K (h₀:=X.base) I.ok.mod.kin kp (thn (ha pos pins s σ H _ I h) fun us s1 ⟨vs,H1,I1,r,hl,hq⟩=>⟨I1.kIn,?_⟩) he hpl
  have kin:=I1.kIn
  obtain ⟨hh,g,dr,tk,os⟩:=s1
  refine xc_call kin c.cx hi hf (fun h2 a m=>?_) (by rw [List.nil_append,← r.length]; exact hl)
  obtain ⟨hn,I2⟩:=Inv.madeX (t':=tk) I1 m
  have hsp:=hq a hn
  have r2:Vals (V.ref a :: vs) (Value.ref a :: us):=.cons rfl r
  have hlen:(Value.ref a :: us).length=ps.length:=by rw [← r2.length]; exact F.len _ _ _ _ hsp
  have hlen2:((Value.ref a :: us)++[]).length=ps.length:=by rw [List.append_nil]; exact hlen
  have bb:=hb _ (Value.ref a :: us) I2.kIn hlen2
  rw [List.append_nil] at bb
  refine wpAny_call (codeAny_mono (F.run _ X.stack _ _ ⟨Value.ref a :: us,[]⟩ (Value.ref a :: us) _ _ E0 (hr.make C us []) (I2.env0.make C us []) bb r2 hsp) fun r s' hq'=>?_)
  cases r with
  | error e=>exact hq'.elim
  | ok fl=>
    cases fl with
    | ret u=>
      obtain ⟨v,H',I3,rv,ev,q3⟩:=I2.after hq'
      subst ev
      exact ⟨rv,⟨V.ref a,H',I3,rfl,q3⟩⟩
    | next=>exact False.elim hq'
    | brk=>exact False.elim hq'
    | cont=>exact False.elim hq'
theorem XAt.at {fs:List (Str×V)} (x:XAt H a C fs) (I:Inv X pins σ H s):∃ ox od,PySem.W.InstAt s.heap a ox C od:=by
  rcases x.obj I.hok with ⟨rfl,o,vs,e,c,dn,dt⟩ | ⟨d,⟨o,vs,e,c,dn,dt⟩,n,l,mA,⟨od,_,_,ed,_⟩,r,wi⟩
  · exact ⟨o,none,e,c,by unfold PySem.W.notCls; rw [dt],by rw [dn]; trivial⟩
  · exact ⟨o,some od,e,c,by unfold PySem.W.notCls; rw [dt],by rw [dn]; exact ed⟩
def vcls:V→Value
  | .ref c=>.ref c
  | .ty n=>.type n
  | _=>.none
def rIsiX (K:PySem.W.Frag):List V→Hp→VK→Prop:=fun xs H Q=>∃ a C fs c b,xs=[.ref a,c]∧((∃ d,c=.ref d)∨∃ n,c=.ty n)∧XAt H a C fs∧XTy K C∧PySem.W.kitOne K (.ref C) (vcls c)=some b∧Q (.bl b) H
theorem qa2:ycc X (.builtin "isinstance") (rIsiX X.K):=by
  intro pins s σ H xs us Q I r h
  obtain ⟨a,C,fs,c,b,rfl,hc,hx,T,hk,q⟩:=h
  cases r with
  | cons r rr=>
    cases rr with
    | cons r' rr=>
      cases rr
      cases r
      have hcv:∃ cv,vcls c=cv∧RelV c cv:=by
        rcases hc with ⟨d,rfl⟩ | ⟨n,rfl⟩
        · exact ⟨_,rfl,rfl⟩
        · exact ⟨_,rfl,rfl⟩
      obtain ⟨cv,e1,e2⟩:=hcv
      rw [e1] at hk
      rename_i u2
      have e3:u2=cv:=by
        rcases hc with ⟨d,rfl⟩ | ⟨n,rfl⟩
        · exact (show u2=Value.ref d from r').trans (show cv=Value.ref d from e2).symm
        · exact (show u2=Value.type n from r').trans (show cv=Value.type n from e2).symm
      subst e3
      exact PySem.W.kia_one (kitx_xc T) I.kIn (hx.at I) hk (fun z=>nomatch z) fun tk=>⟨.bl b,H,I.tok _,rfl,q⟩
end
end L2
set_option Elab.async false
set_option linter.all false
set_option maxRecDepth 100000
namespace L2
open PySem PySem.Spec PyProof.Rows
theorem Vals.bls:∀ {bs:List Bool} {us:List Value},Vals (bs.map V.bl) us→us=bs.map Value.bool
  | [],_,.nil=>rfl
  | b :: bs,_,.cons r t=>by
    have e:=Vals.bls t
    cases r
    rw [e]
    rfl
def isB (b:Bool):Value→Bool
  | .bool c=>c == b
  | _=>false
theorem qh2 (b:Bool) (bs:List Bool):(bs.map Value.bool).countP (isB b)=bs.count b:=by
  rw [List.countP_map]
  rfl
theorem isB_at {A:Around} {s:Shared} (b:Bool) (bs:List Bool):∀ y,y∈(bs.map Value.bool).toArray→SeqAt.EqAt A s y (.bool b) (isB b y):=by
  intro y hy
  obtain ⟨c,_,e⟩:=List.mem_map.mp (by simpa using hy:y∈bs.map Value.bool)
  subst e
  exact SeqAt.EqAt.bool_bool c b
section
variable {X:Cx}
def rCountB:V→List V→Hp→VK→Prop:=fun x vs H Q=>∃ (l:Addr) (bs:List Bool) (b:Bool),x=.ref l∧vs=[.bl b]∧H l=some (.lst (bs.map V.bl))∧Q (.int (bs.count b:Nat)) H
theorem qi1:MtM X "list.count" rCountB:=by
  intro pins s σ H x vs v us Q I rx rv h
  obtain ⟨l,bs,b,rfl,rfl,hH,q⟩:=h
  cases rx
  obtain ⟨u,rfl,ru⟩:=rv.one
  cases ru
  obtain ⟨z,its,n,r,hl,e⟩:=I.lstM hH
  have hi:=r.bls
  subst hi
  refine call_meets F.slot_list_count ⟨_,e,rfl⟩ F.entry_list_count (F.args_list_count_2 _ _) (SeqAt.list_countAt l _ n _ _ (.bool b) (isB b)) ⟨e,isB_at b bs,?_⟩
  rw [List.toList_toArray,qh2]
  exact ⟨.int (bs.count b:Nat),_,I.tok _,⟨_,rfl⟩,q⟩
def rIndexB:V→List V→Hp→VK→Prop:=fun x vs H Q=>∃ (l:Addr) (bs:List Bool) (b:Bool) (j:Nat),x=.ref l∧vs=[.bl b]∧H l=some (.lst (bs.map V.bl))∧bs[j]?=some b∧(∀ m,m < j→bs[m]?≠some b)∧Q (.int (j:Nat)) H
theorem qia:MtM X "list.index" rIndexB:=by
  intro pins s σ H x vs v us Q I rx rv h
  obtain ⟨l,bs,b,j,rfl,rfl,hH,hj,hno,q⟩:=h
  cases rx
  obtain ⟨u,rfl,ru⟩:=rv.one
  cases ru
  obtain ⟨z,its,n,r,hl,e⟩:=I.lstM hH
  have hi:=r.bls
  subst hi
  obtain ⟨hjl,hjb⟩:=List.getElem?_eq_some_iff.mp hj
  rw [List.length_map] at z
  have hz:(sizeLine:Nat) < 2 ^ 63 - 1:=by decide
  refine call_meets F.slot_list_index ⟨_,e,rfl⟩ F.entry_list_index (F.args_list_index_2 _ _)
    (SeqAt.list_indexAt l _ n _ _ (.bool b) (isB b) j (by rw [List.size_toArray,List.length_map]; exact hjl) (by omega) ?_ fun m hm hlt=>?_) ⟨e,isB_at b bs,⟨.int (j:Nat),_,I.tok _,⟨_,rfl⟩,q⟩⟩
  · rw [List.getElem_toArray,List.getElem_map]
    show (bs[j] == b)=true
    rw [hjb]
    exact beq_self_eq_true b
  · rw [List.getElem_toArray,List.getElem_map]
    show (bs[m] == b)=false
    refine beq_eq_false_iff_ne.mpr fun q=>hno m hlt ?_
    rw [List.getElem?_eq_getElem (by omega),q]
end
end L2
set_option linter.all false
namespace Mx
open PySem L2 PyProof.Rows
section
variable {X:Cx} {es:List Expr} {te:TE} {t:TA} {pos:Pos}
theorem pa_cs {k:Const} {j} (ha:PE X (.Constant k j pos) te) (hr:PA X es t):PA X (.Constant k j pos :: es) (qbx te t):=yaa ha hr rfl
theorem pa_nm {x:Str} (ha:PE X (.Name x pos) te) (hr:PA X es t):PA X (.Name x pos :: es) (qbx te t):=yaa ha hr rfl
theorem qdl {f xs ks} (ha:PE X (.Call f xs ks pos) te) (hr:PA X es t):PA X (.Call f xs ks pos :: es) (qbx te t):=yaa ha hr rfl
def qes:List Expr→Option (List Str)
  | []=>some []
  | .Constant (.str x) _ _ :: r=>(qes r).map (x :: ·)
  | _=>none
theorem qgn {X:Cx}:∀ {es:List Expr} {xs:List Str},qes es=some xs→PA X es (fun _ H Q=>Q (xs.map V.str) H)
  | [],xs,h=>by
    cases h
    exact qac
  | .Constant (.str x) j p :: r,xs,h=>by
    rw [qes] at h
    obtain ⟨ys,hy,rfl⟩:=Option.map_eq_some_iff.mp h
    exact pa_cs qah (qgn hy)
def tStrs (xs:List Str):TE:=fun _ H Q=>xs.length≤sizeLine∧∀ p,H p=none→Q (.ref p) (upd H p (.lst (xs.map V.str)))
theorem yi4 {xs:List Str} (h:qes es=some xs):PE X (.List es pos) (tStrs xs):=by
  intro pins s σ H Q I hq
  refine ybz (qgn h) pins s σ H Q I ?_
  exact ⟨by rw [List.length_map]; exact hq.1,hq.2⟩
end
structure QS (X:Cx) (st:Stmt) (t:TS):Prop where
  of:PS X st t
structure QSs (X:Cx) (ss:List Stmt) (t:TS):Prop where
  of:PSs X ss t
section
variable {X:Cx} {st:Stmt} {rest a b:List Stmt} {t u:TS} {pos:Pos} {e:Expr} {te:TE}
theorem qss_lit {ss:List Stmt} (h:ss=st :: rest) (p:QSs X (st :: rest) t):PSs X ss t:=h ▸ p.of
theorem yar:QSs X [] tNext:=⟨qcm⟩
theorem yae (h:QS X st t):QSs X [st] t:=⟨yan h.of⟩
theorem qad (h:QS X st t) (r:QSs X rest u):QSs X (st :: rest) (tSeq t u):=⟨qap h.of r.of⟩
theorem yi7 (h:QS X st t) (r:QSs X rest u):QSs X (st :: rest) (tCut t u):=⟨pss_cut h.of r.of⟩
theorem yho (h:PS X st t):QS X st t:=⟨h⟩
theorem qs_if {c:Expr} {tc:TT} (hc:PT X c tc) (ha:QSs X a t) (hb:QSs X b u):QS X (.If c a b pos) (tIfS tc t u):=⟨yeq hc ha.of hb.of⟩
theorem qs_ret (he:PE X e te):QS X (.Return (some e) pos) (tRet te):=⟨qa9 he⟩
theorem qhf {i:Nat} {x:Str} {pos':Pos} (hN:X.N.Nodup) (hi:X.N[i]?=some x) (hx:Loc X.env.scope x) (he:PE X e te) (hs:swapsWith e (some (.Name x pos')) pos.line X.env=pure false:=by rfl) (hf:X.fn x=true∨X.env.scope.names.lookup x=some .local:=by first | exact .inl rfl | exact .inr rfl | assumption) :
    QS X (.Assign [.Name x pos'] e pos) (tAsg te (yex i)):=⟨ybt hN hi hx he hs hf⟩
theorem qs_strs {es:List Expr} {p2 pos':Pos} {i:Nat} {x:Str} {xs:List Str} (hN:X.N.Nodup) (hi:X.N[i]?=some x) (hx:Loc X.env.scope x) (h:qes es=some xs) (hf:X.fn x=true∨X.env.scope.names.lookup x=some .local:=by first | exact .inl rfl | exact .inr rfl | assumption) :
    QS X (.Assign [.Name x pos'] (.List es p2) pos) (tAsg (tStrs xs) (yex i)):=⟨ybt hN hi hx (yi4 h) rfl hf⟩
end
end Mx
set_option Elab.async false
set_option linter.all false
set_option maxRecDepth 100000
set_option Elab.async false
set_option linter.all false
set_option maxRecDepth 100000
namespace L2
open PySem PySem.Spec PyProof.Rows PyProof.Rows.KTD
def TabK (K:PySem.W.Frag) (a:Addr) (D:List (Str×List V)):Prop:=
  (a == sysModules)=false∧∃ o es ep,K.lookup a=some o∧o.ExactDict∧o.data=.dict es ep∧KTD.Rows (fun xs v=>∃ p,v=.ref p∧∀ H,SqT K H p xs) es.toList D
section
variable {prog:Program} {w:World} {A:Around} {E:Value→Shared→Prop} {s:Shared} {a:Addr} {k:Str} {tk:Tok} {o:Obj} {es:Array DictEntry} {ep:Nat}
theorem qec {Q:Option Value→Shared→Prop} (g:s.heap.get? a=some o) (gd:o.data=.dict es ep) (ge:(es.toList.all fun e=>isExactStrKey e.key)=true)
    (q:Q ((es.toList.find? fun e=>e.key.isStr k).map (·.val)) { s with toks:=s.toks + 1 }):wpAny (model prog w) A (dictGet a (.str k tk)) Q E s:=by
  obtain ⟨l⟩:=es
  have q2:Q (findBy (fun k v=>v.isStr k) ⟨l⟩ k) { s with toks:=s.toks + 1 }:=by
    rw [show findBy (fun k v=>v.isStr k) (⟨l⟩:Array DictEntry) k=(l.find? fun e=>e.key.isStr k).map (·.val) by simp [findBy]]
    exact q
  unfold dictGet
  try with_reducible refine wpAny_holding ?_
  refine wpAny_bind (wpAny_pyHash_str ?_)
  refine wpAny_bind ?_
  refine kt_dictFind_strs (s:={ s with toks:=s.toks + 1 }) g gd (by simpa using ge) ?_
  rw [findBy_of_findIdx?] at q2
  revert q2
  cases (⟨l⟩:Array DictEntry).findIdx? fun e=>e.key.isStr k with
  | none=>intro q2; exact wpAny_pure q2
  | some i=>intro q2; refine wpAny_bind ?_; exact wpAny_dictEntries (s:={ s with toks:=s.toks + 1 }) g gd (wpAny_pure q2)
end
section
variable {X:Cx} {pins:List (Addr×Obj)} {σ:St} {H:Hp} {s:Shared} {a:Addr} {D:List (Str×List V)}
theorem TabK.dict (I:Inv X pins σ H s) (T:TabK X.K a D):s.TypeIs (.ref a) "dict"∧∀ b,Value.ref a=.ref b→∃ ob,s.heap.get? b=some ob∧ob.dict=none:=by
  obtain ⟨_,o,es,ep,hl,hx,hd,hr⟩:=T
  refine ⟨⟨o,I.kIn a o hl,hx.1⟩,fun b e=>?_⟩
  cases e
  exact ⟨o,I.kIn a o hl,hx.2.1⟩
theorem TabK.ask {k:Str} {tk:Tok} {E:Value→Shared→Prop} {A:Around} {Q:Option Value→Shared→Prop} (I:Inv X pins σ H s) (T:TabK X.K a D)
    (h1:∀ xs p,datumAt k D=some xs→(∀ H,SqT X.K H p xs)→Q (some (.ref p)) { s with toks:=s.toks + 1 }) (h2:datumAt k D=none→Q none { s with toks:=s.toks + 1 }):wpAny (model X.prog X.w) A (dictGet a (.str k tk)) Q E s:=by
  obtain ⟨_,o,es,ep,hl,hx,hd,hr⟩:=T
  refine qec (I.kIn a o hl) hd hr.exact ?_
  cases hat:datumAt k D with
  | some xs=>
    obtain ⟨v,hv,p,rfl,hp⟩:=hr.find_some hat
    rw [hv]
    exact h1 xs p hat hp
  | none=>rw [hr.find_none hat]; exact h2 hat
def rIxTab (K:PySem.W.Frag) (D:List (Str×List V)):R2:=fun x y H Q=>∃ a k xs,x=.ref a∧y=.str k∧TabK K a D∧datumAt k D=some xs∧∀ p,(∀ H,SqT K H p xs)→Q (.ref p) H
theorem qfx:IxR X (rIxTab X.K D):=by
  intro value slice pins s σ H x y v u Q I rx ry h hs
  obtain ⟨a,k,xs,rfl,rfl,T,hd,q⟩:=h
  cases rx
  obtain ⟨tk,rfl⟩:=ry
  obtain ⟨hsm,o,es,ep,hl,hx,hd2,hr⟩:=id T
  obtain ⟨v,hv,p,rfl,hp⟩:=hr.find_some hd
  have fin:EP X pins σ Q (.ref p) { s with toks:=s.toks + 1 }:=⟨.ref p,H,I.tok _,rfl,q p hp⟩
  refine subscriptTail_builtinR (x:=.ref p) (T.dict I).1 slot_dict_getitem.lookup ?_ hs
  unfold getItem
  try with_reducible refine wpAny_holding ?_
  refine wpAny_bind (wpAny_sequenceKey (T.dict I).1 (by decide) ?_)
  refine wpAny_bind (wpAny_callSpecial?_slot (name:=Str.ofString "__getitem__") (T.dict I).1 slot_dict_getitem (wpAny_call_entry slot_dict_getitem (T.dict I).1 entry_dict_getitem ?_ (args_dict_getitem _ _)))
  show wpAny _ _ (dictGet a (.str k tk) >>= _) _ _ _
  refine wpAny_bind (qec (I.kIn a o hl) hd2 hr.exact ?_)
  rw [hv]
  exact wpAny_pure ⟨_,rfl,wpAny_pure ⟨rfl,fin⟩⟩
def rInTab (K:PySem.W.Frag) (D:List (Str×List V)):R2:=fun x y H Q=>∃ a k,x=.str k∧y=.ref a∧TabK K a D∧Q (.bl (inKeys k D)) H
theorem qg4:OpR X (compareOp .In) (rInTab X.K D):=by
  intro pins s σ H x y v u Q I rx ry h
  obtain ⟨a,k,rfl,rfl,T,q⟩:=h
  cases ry
  obtain ⟨tk,rfl⟩:=rx
  show wpAny _ _ (contains (.ref a) (.str k tk) >>= fun c=>pure (Value.bool c)) _ _ s
  refine wpAny_bind ?_
  unfold contains
  try with_reducible refine wpAny_holding ?_
  refine wpAny_bind (wpAny_specialOf (T.dict I).1 slot_dict_contains.lookup ?_)
  show wpAny _ _ (if (some (Value.builtin "dict.__contains__") == some Value.none)=true then _ else _) _ _ s
  rw [if_neg (by rw [beq_builtin_none]; exact Bool.false_ne_true)]
  refine wpAny_bind (wpAny_callSpecialUnlessNone?_slot (name:=Str.ofString "__contains__") (T.dict I).1 slot_dict_contains (wpAny_call_entry slot_dict_contains (T.dict I).1 entry_dict_contains ?_ (args_dict_contains _ _)))
  show wpAny _ _ (dictGet a (.str k tk) >>= _) _ _ _
  refine wpAny_bind (T.ask I (fun xs p hd hp=>?_) fun hn=>?_)
  · have e:inKeys k D=true:=by rw [← isSome_datumAt,hd]; rfl
    rw [e] at q
    show wpAny _ _ (ret (.bool true)) _ _ _
    exact wpAny_pure ⟨_,rfl,wpAny_truthy_bool (wpAny_pure ⟨.bl true,H,I.tok _,rfl,q⟩)⟩
  · have e:inKeys k D=false:=by rw [← isSome_datumAt,hn]; rfl
    rw [e] at q
    show wpAny _ _ (Builtin.Dict.pendingKey? a (.str k tk) >>= _) _ _ _
    exact wpAny_bind (wpAny_pendingKey_other T.1 (wpAny_pure ⟨_,rfl,wpAny_truthy_bool (wpAny_pure ⟨.bl false,H,I.tok _,rfl,q⟩)⟩))
end
end L2
set_option Elab.async false
set_option linter.all false
set_option maxRecDepth 100000
set_option Elab.async false
set_option linter.all false
set_option maxRecDepth 100000
namespace L2
open PySem PySem.Spec PyProof.Rows
open Builtin.SmallTypes (nextOf)
def SIt (h:Heap) (tp:Bool) (q l:Addr) (i:Nat):Prop:=if tp then IsTupIter h q l i else h.IsListIter q l i
def SOf (h:Heap) (tp:Bool) (l:Addr) (its:Array Value):Prop:=if tp then IsTup h l its else h.IsList l its
section
variable {prog:Program} {w:World} {A:Around} {E:Value→Shared→Prop} {s:Shared} {q l:Addr} {i:Nat} {its:Array Value}
theorem SIt.at {h h':Heap} {tp:Bool} (x:SIt h tp q l i) (k:∀ o,h.get? q=some o→h'.get? q=some o):SIt h' tp q l i:=by
  cases tp with
  | true=>obtain ⟨o,g,r⟩:=x; exact ⟨o,k o g,r⟩
  | false=>obtain ⟨o,g,r⟩:=x; exact ⟨o,k o g,r⟩
theorem SIt.obj {h:Heap} {tp:Bool} (x:SIt h tp q l i):∃ o,h.get? q=some o∧∀ v,o.data≠.cell v:=by
  cases tp with
  | true=>obtain ⟨o,g,c,d⟩:=x; exact ⟨o,g,fun v z=>by rw [d] at z; cases z⟩
  | false=>obtain ⟨o,g,c,d⟩:=x; exact ⟨o,g,fun v z=>by rw [d] at z; cases z⟩
theorem SOf.at {h h':Heap} {tp:Bool} (x:SOf h tp l its) (k:∀ o,h.get? l=some o→h'.get? l=some o):SOf h' tp l its:=by
  cases tp with
  | true=>obtain ⟨o,g,r⟩:=x; exact ⟨o,k o g,r⟩
  | false=>obtain ⟨o,g,r⟩:=x; exact ⟨o,k o g,r⟩
theorem ybm {tp:Bool} {x:Value} {Q:Value→Shared→Prop} (hq:SIt s.heap tp q l i) (hl:SOf s.heap tp l its) (hx:its[i]?=some x)
    (k:∀ h',SIt h' tp q l (i + 1)→Heap.SameBut q s.heap h'→Q x { s with heap:=h' }):wpAny (model prog w) A (nextOf (.ref q)) Q E s:=by
  cases tp with
  | false=>exact wpAny_nextOf_list_item hq hl hx k
  | true=>
    have hq':IsTupIter s.heap q l i:=hq
    obtain ⟨o,go,gc,gd⟩:=id hq'
    obtain ⟨ol,gl,_,nl,gdl⟩:=(show IsTup s.heap l its from hl)
    unfold Builtin.SmallTypes.nextOf
    refine wpAny_bind (wpAny_callSpecial?_slot (name:=Str.ofString "__next__") hq'.typeIs slot_tupleiter_next (wpAny_call_entry slot_tupleiter_next hq'.typeIs entry_tupleiter_next ?_ (args_tupleiter_next _)))
    show wpAny _ _ (field (.ref q) 0 >>= _) _ _ s
    refine wpAny_bind (wpAny_field go gd (x:=.ref l) rfl ?_)
    show wpAny _ _ (if (Value.ref l == Value.none)=true then _ else _) _ _ s
    rw [if_neg (by exact Bool.false_ne_true:¬ ((Value.ref l == Value.none)=true))]
    show wpAny _ _ (field (.ref q) 1 >>= _) _ _ s
    refine wpAny_bind (wpAny_field go gd (x:=.int i 0) rfl ?_)
    show wpAny _ _ (seqItems? (.ref l) >>= _) _ _ s
    refine wpAny_bind (wpAny_seqItems gl gdl ?_)
    simp only [Int.toNat_natCast,hx]
    refine wpAny_bind (wpAny_setField go gd (by simp) (wpAny_pure ⟨x,rfl,?_⟩))
    refine wpAny_pure (k _ ?_ (Heap.SameBut.update ..))
    exact ⟨_,Heap.get?_update_self _ go (Obj.isFreed_of_fields (Obj.data_mapFields gd _)),(Obj.cls_mapFields ..).trans gc,by rw [Obj.data_mapFields gd]; simp [rawInt]⟩
theorem ycx {tp:Bool} {Q:Value→Shared→Prop} (hh:A.handled=none) (hq:SIt s.heap tp q l i) (hl:SOf s.heap tp l its) (hx:its[i]?=none)
    (k:∀ h' e,Heap.ExtBut q s.heap h'→(∃ o,h'.get? e=some o∧o.cls=.type "StopIteration")→E (.ref e) { s with heap:=h' }):wpAny (model prog w) A (nextOf (.ref q)) Q E s:=by
  cases tp with
  | false=>exact wpAny_nextOf_list_end hh hq hl hx k
  | true=>
    have hq':IsTupIter s.heap q l i:=hq
    obtain ⟨o,go,gc,gd⟩:=id hq'
    obtain ⟨ol,gl,_,nl,gdl⟩:=(show IsTup s.heap l its from hl)
    unfold Builtin.SmallTypes.nextOf
    refine wpAny_bind (wpAny_callSpecial?_slot (name:=Str.ofString "__next__") hq'.typeIs slot_tupleiter_next (wpAny_call_entry slot_tupleiter_next hq'.typeIs entry_tupleiter_next ?_ (args_tupleiter_next _)))
    show wpAny _ _ (field (.ref q) 0 >>= _) _ _ s
    refine wpAny_bind (wpAny_field go gd (x:=.ref l) rfl ?_)
    show wpAny _ _ (if (Value.ref l == Value.none)=true then _ else _) _ _ s
    rw [if_neg (by exact Bool.false_ne_true:¬ ((Value.ref l == Value.none)=true))]
    show wpAny _ _ (field (.ref q) 1 >>= _) _ _ s
    refine wpAny_bind (wpAny_field go gd (x:=.int i 0) rfl ?_)
    show wpAny _ _ (seqItems? (.ref l) >>= _) _ _ s
    refine wpAny_bind (wpAny_seqItems gl gdl ?_)
    simp only [Int.toNat_natCast,hx]
    refine wpAny_bind (wpAny_rule ?_)
    refine wpAny_bind (wpAny_setField go gd (by simp) ?_)
    show wpAny _ _ (newExc (.type "StopIteration") [] >>= _) _ _ _
    refine wpAny_bind ?_
    simp only [newExc,newTuple]
    refine wpAny_bind (wpAny_newObj_type ?_ (by size_fits))
    refine wpAny_bind (m:=firstArgMember _ _) ?_
    refine wpAny_of_eq (a:=Value.none) (by first | rfl | (simp only [firstArgMember]; rfl)) ?_
    refine wpAny_newObj_type ?_ (by size_fits)
    simp only [raiseNew]
    refine wpAny_bind (wpAny_handled ?_)
    first | rw [show A.in1.handled=none from hh] | rw [hh]
    refine wpAny_bind (wpAny_pure (wpAny_throw ?_))
    exact k _ _ (((Heap.SameBut.update ..).extBut.push _).push _) ⟨_,Heap.get?_push_size _ rfl,rfl⟩
theorem neN {a b:Nat} (h:a < b∨b < a):a≠b:=by omega
theorem qja {n l1 l2 k:Nat} {xs ys:Array Value} {x y a b:Value} {t1 t2:Bool} {Q:Value→Shared→Prop} (b1:l1 < n) (b2:l2 < n) (gz:IsZip s.heap (n + 4) (n + 2) (n + 3) .none) (gi:IsPair s.heap (n + 2) (.ref n) (.ref (n + 1))) (go:IsPair s.heap (n + 3) a b)
    (q1:SIt s.heap t1 n l1 k) (q2:SIt s.heap t2 (n + 1) l2 k) (o1:SOf s.heap t1 l1 xs) (o2:SOf s.heap t2 l2 ys) (hx:xs[k]?=some x) (hy:ys[k]?=some y)
    (kk:∀ h',IsZip h' (n + 4) (n + 2) (n + 3) (rawInt s.heap.objs.size)→IsPair h' (n + 3) x y→SIt h' t1 n l1 (k + 1)→SIt h' t2 (n + 1) l2 (k + 1)→IsPair h' s.heap.objs.size x y→h'.objs.size=s.heap.objs.size + 1→
      (∀ c o,c≠n + 4→c≠n + 3→c≠n→c≠n + 1→s.heap.get? c=some o→h'.get? c=some o)→Q (.ref s.heap.objs.size) { s with heap:=h' }) :
    wpAny (model prog w) A (Builtin.«zip.__next__» ⟨[.ref (n + 4)],[]⟩) (fun fin s'=>∃ v,fin=.done (.ret v)∧Q v s') E s:=by
  show wpAny _ _ (field (.ref (n + 4)) 2 >>= _) _ _ _
  refine wpAny_bind (wpAny_field gz rfl (x:=.bool false) rfl ?_)
  show wpAny _ _ (field (.ref (n + 4)) 3 >>= _) _ _ _
  refine wpAny_bind (wpAny_field gz rfl (x:=.ref (n + 2)) rfl ?_)
  refine wpAny_bind (wpAny_seqItems gi rfl ?_)
  show wpAny _ _ (Builtin.SmallTypes.ownedTupleIsFree (.ref (n + 4)) >>= _) _ _ _
  refine wpAny_bind ?_
  unfold Builtin.SmallTypes.ownedTupleIsFree
  refine wpAny_bind (wpAny_field gz rfl (x:=.none) rfl ?_)
  refine wpAny_pure ?_
  simp only [if_true]
  refine wpAny_bind (wpAny_rule ?_)
  refine wpAny_bind (wpAny_field gz rfl (x:=.ref (n + 3)) rfl ?_)
  refine wpAny_bind (wpAny_setField_rec gz (by simp) fun m1 gz1 e1=>?_)
  replace gz1:IsZip m1 (n + 4) (n + 2) (n + 3) .ellipsis:=gz1
  refine wpAny_bind ?_
  simp only [List.zipIdx_cons,List.zipIdx_nil,List.forIn_cons,List.forIn_nil]
  refine wpAny_bind (wpAny_bind ?_)
  refine wpAny_onRaise ?_
  show wpAny _ _ (nextOf (.ref n) >>= _) _ _ _
  refine wpAny_bind (ybm (q1.at fun o g=>e1.extBut _ _ (neN (by omega)) g) (o1.at fun o g=>e1.extBut _ _ (neN (by omega)) g) hx fun m2 r1 e2=>?_)
  refine wpAny_pure ?_
  have go2:IsPair m2 (n + 3) a b:=e2.extBut _ _ (neN (by omega)) (e1.extBut _ _ (neN (by omega)) go)
  refine wpAny_bind (wpAny_seqItems go2 rfl ?_)
  refine wpAny_bind (wpAny_updateSeq_pair go2 fun m3 go3 e3=>?_)
  replace go3:IsPair m3 (n + 3) x b:=go3
  refine wpAny_bind (wpAny_letGo ?_)
  refine wpAny_pure ?_
  refine wpAny_bind (wpAny_bind ?_)
  refine wpAny_onRaise ?_
  show wpAny _ _ (nextOf (.ref (n + 1)) >>= _) _ _ _
  refine wpAny_bind (ybm (q2.at fun o g=>e3.extBut _ _ (neN (by omega)) (e2.extBut _ _ (neN (by omega)) (e1.extBut _ _ (neN (by omega)) g))) (o2.at fun o g=>e3.extBut _ _ (neN (by omega)) (e2.extBut _ _ (neN (by omega)) (e1.extBut _ _ (neN (by omega)) g))) hy fun m4 r2 e4=>?_)
  refine wpAny_pure ?_
  have go4:IsPair m4 (n + 3) x b:=e4.extBut _ _ (neN (by omega)) go3
  refine wpAny_bind (wpAny_seqItems go4 rfl ?_)
  refine wpAny_bind (wpAny_updateSeq_pair go4 fun m5 go5 e5=>?_)
  replace go5:IsPair m5 (n + 3) x y:=go5
  refine wpAny_bind (wpAny_letGo ?_)
  refine wpAny_pure (wpAny_pure ?_)
  refine wpAny_bind (wpAny_seqItems go5 rfl ?_)
  refine wpAny_bind (wpAny_newTuple ?_)
  have hsz:m5.objs.size=s.heap.objs.size:=by rw [e5.1,e4.1,e3.1,e2.1,e1.1]
  have gz5:IsZip m5 (n + 4) (n + 2) (n + 3) .ellipsis:=e5.extBut _ _ (neN (by omega)) (e4.extBut _ _ (neN (by omega)) (e3.extBut _ _ (neN (by omega)) (e2.extBut _ _ (neN (by omega)) gz1)))
  have keep5:∀ c o,c≠n + 4→c≠n + 3→c≠n→c≠n + 1→s.heap.get? c=some o→m5.get? c=some o:=fun c o d1 d2 d3 d4 g=>
    e5.extBut _ _ d2 (e4.extBut _ _ d4 (e3.extBut _ _ d2 (e2.extBut _ _ d3 (e1.extBut _ _ d1 g))))
  have r15:SIt m5 t1 n l1 (k + 1):=r1.at fun o g=>e5.extBut _ _ (neN (by omega)) (e4.extBut _ _ (neN (by omega)) (e3.extBut _ _ (neN (by omega)) g))
  have r25:SIt m5 t2 (n + 1) l2 (k + 1):=r2.at fun o g=>e5.extBut _ _ (neN (by omega)) g
  have lt5:n + 4 < m5.objs.size:=Heap.lt_size gz5
  show wpAny _ _ (Builtin.SmallTypes.ownedTupleHandOut (.ref (n + 4)) (.ref m5.objs.size) >>= _) _ _ _
  refine wpAny_bind ?_
  unfold Builtin.SmallTypes.ownedTupleHandOut
  have gz6:IsZip (m5.push { cls:=.type "tuple",data:=.seq #[x,y] }) (n + 4) (n + 2) (n + 3) .ellipsis:=Heap.get?_push_of_some _ gz5
  refine wpAny_bind (wpAny_setField_rec gz6 (by simp) fun m7 gz7 e7=>?_)
  replace gz7:IsZip m7 (n + 4) (n + 2) (n + 3) (rawInt m5.objs.size):=gz7
  refine wpAny_setField_rec gz7 (by simp) fun m8 gz8 e8=>?_
  replace gz8:IsZip m8 (n + 4) (n + 2) (n + 3) (rawInt m5.objs.size):=gz8
  have up:∀ c o,c≠n + 4→m5.get? c=some o→m8.get? c=some o:=fun c o d1 g=>e8.extBut _ _ d1 (e7.extBut _ _ d1 (Heap.get?_push_of_some _ g))
  have gt8:IsPair m8 m5.objs.size x y:=e8.extBut _ _ (Nat.ne_of_gt lt5) (e7.extBut _ _ (Nat.ne_of_gt lt5) (Heap.get?_push_size _ rfl))
  have hs8:m8.objs.size=m5.objs.size + 1:=by rw [e8.1,e7.1,Heap.size_push]
  rw [hsz] at gz8 gt8 hs8
  refine wpAny_pure ⟨_,rfl,?_⟩
  show Q (.ref m5.objs.size) _
  rw [hsz]
  exact kk m8 gz8 (up _ _ (neN (by omega)) go5) (r15.at fun o g=>up _ o (neN (by omega)) g) (r25.at fun o g=>up _ o (neN (by omega)) g) gt8 hs8 fun c o d1 d2 d3 d4 g=>up c o d1 (keep5 c o d1 d2 d3 d4 g)
theorem qie {n l1 l2 k:Nat} {xs ys:Array Value} {a b:Value} {t1 t2:Bool} {Q:Fin→Shared→Prop} (hh:A.handled=none) (b1:l1 < n) (b2:l2 < n) (gz:IsZip s.heap (n + 4) (n + 2) (n + 3) .none) (gi:IsPair s.heap (n + 2) (.ref n) (.ref (n + 1))) (go:IsPair s.heap (n + 3) a b)
    (q1:SIt s.heap t1 n l1 k) (q2:SIt s.heap t2 (n + 1) l2 k) (o1:SOf s.heap t1 l1 xs) (o2:SOf s.heap t2 l2 ys) (hend:xs[k]?=none∨ys[k]?=none)
    (kk:∀ h' e,(∀ c o,c≠n + 4→c≠n + 3→c≠n→c≠n + 1→s.heap.get? c=some o→h'.get? c=some o)→(∃ o,h'.get? e=some o∧o.cls=.type "StopIteration")→E (.ref e) { s with heap:=h' }) :
    wpAny (model prog w) A (Builtin.«zip.__next__» ⟨[.ref (n + 4)],[]⟩) Q E s:=by
  show wpAny _ _ (field (.ref (n + 4)) 2 >>= _) _ _ _
  refine wpAny_bind (wpAny_field gz rfl (x:=.bool false) rfl ?_)
  show wpAny _ _ (field (.ref (n + 4)) 3 >>= _) _ _ _
  refine wpAny_bind (wpAny_field gz rfl (x:=.ref (n + 2)) rfl ?_)
  refine wpAny_bind (wpAny_seqItems gi rfl ?_)
  show wpAny _ _ (Builtin.SmallTypes.ownedTupleIsFree (.ref (n + 4)) >>= _) _ _ _
  refine wpAny_bind ?_
  unfold Builtin.SmallTypes.ownedTupleIsFree
  refine wpAny_bind (wpAny_field gz rfl (x:=.none) rfl ?_)
  refine wpAny_pure ?_
  simp only [if_true]
  refine wpAny_bind (wpAny_rule ?_)
  refine wpAny_bind (wpAny_field gz rfl (x:=.ref (n + 3)) rfl ?_)
  refine wpAny_bind (wpAny_setField_rec gz (by simp) fun m1 gz1 e1=>?_)
  replace gz1:IsZip m1 (n + 4) (n + 2) (n + 3) .ellipsis:=gz1
  refine wpAny_bind ?_
  simp only [List.zipIdx_cons,List.zipIdx_nil,List.forIn_cons,List.forIn_nil]
  refine wpAny_bind (wpAny_bind ?_)
  refine wpAny_onRaise ?_
  show wpAny _ _ (nextOf (.ref n) >>= _) _ _ _
  have p1:SIt m1 t1 n l1 k:=q1.at fun o g=>e1.extBut _ _ (neN (by omega)) g
  have p2:SOf m1 t1 l1 xs:=o1.at fun o g=>e1.extBut _ _ (neN (by omega)) g
  cases hx:xs[k]? with
  | none=>
    refine wpAny_bind (ycx hh p1 p2 hx fun m2 e g2 he=>?_)
    obtain ⟨oe,hoe,hce⟩:=he
    have gz2:IsZip m2 (n + 4) (n + 2) (n + 3) .ellipsis:=g2 _ _ (neN (by omega)) gz1
    have ne:e≠n + 4:=fun z=>by subst z; rw [gz2] at hoe; cases hoe; simp at hce
    refine wpAny_setField_rec gz2 (by simp) fun m3 _ e3=>?_
    exact kk m3 e (fun c o d1 _ d3 _ g=>e3.extBut _ _ d1 (g2 _ _ d3 (e1.extBut _ _ d1 g))) ⟨oe,e3.extBut _ _ ne hoe,hce⟩
  | some x=>
    have hy:ys[k]?=none:=by
      rcases hend with z | z
      · rw [hx] at z; cases z
      · exact z
    refine wpAny_bind (ybm p1 p2 hx fun m2 r1 e2=>?_)
    refine wpAny_pure ?_
    have go2:IsPair m2 (n + 3) a b:=e2.extBut _ _ (neN (by omega)) (e1.extBut _ _ (neN (by omega)) go)
    refine wpAny_bind (wpAny_seqItems go2 rfl ?_)
    refine wpAny_bind (wpAny_updateSeq_pair go2 fun m3 go3 e3=>?_)
    refine wpAny_bind (wpAny_letGo ?_)
    refine wpAny_pure ?_
    refine wpAny_bind (wpAny_bind ?_)
    refine wpAny_onRaise ?_
    show wpAny _ _ (nextOf (.ref (n + 1)) >>= _) _ _ _
    refine wpAny_bind (ycx hh (q2.at fun o g=>e3.extBut _ _ (neN (by omega)) (e2.extBut _ _ (neN (by omega)) (e1.extBut _ _ (neN (by omega)) g))) (o2.at fun o g=>e3.extBut _ _ (neN (by omega)) (e2.extBut _ _ (neN (by omega)) (e1.extBut _ _ (neN (by omega)) g))) hy fun m4 e g4 he=>?_)
    obtain ⟨oe,hoe,hce⟩:=he
    have gz4:IsZip m4 (n + 4) (n + 2) (n + 3) .ellipsis:=g4 _ _ (neN (by omega)) (e3.extBut _ _ (neN (by omega)) (e2.extBut _ _ (neN (by omega)) gz1))
    have ne:e≠n + 4:=fun z=>by subst z; rw [gz4] at hoe; cases hoe; simp at hce
    refine wpAny_setField_rec gz4 (by simp) fun m5 _ e5=>?_
    exact kk m5 e (fun c o d1 d2 d3 d4 g=>e5.extBut _ _ d1 (g4 _ _ d4 (e3.extBut _ _ d2 (e2.extBut _ _ d3 (e1.extBut _ _ d1 g))))) ⟨oe,e5.extBut _ _ ne hoe,hce⟩
def itN (tp:Bool):String:=if tp then "tuple_iterator" else "list_iterator"
theorem iterS {tp:Bool} {Q:Value→Shared→Prop} (hl:SOf s.heap tp l its) (k:Q (.ref s.heap.objs.size) { s with heap:=s.heap.push { cls:=.type (itN tp),data:=.fields #[.ref l,.int 0 0] } }):wpAny (model prog w) A (pyIter (.ref l)) Q E s:=by
  cases tp with
  | true=>exact iter_tuple hl k
  | false=>exact wpAny_pyIter_list hl k
theorem SIt.new {tp:Bool} {h:Heap}:SIt (h.push { cls:=.type (itN tp),data:=.fields #[.ref l,.int 0 0] }) tp h.objs.size l 0:=by
  cases tp with
  | true=>exact ⟨_,Heap.get?_push_size _ rfl,rfl,rfl⟩
  | false=>exact ⟨_,Heap.get?_push_size _ rfl,rfl,rfl⟩
abbrev zp1 (h:Heap) (t1:Bool) (l1:Addr):Heap:=h.push { cls:=.type (itN t1),data:=.fields #[.ref l1,.int 0 0] }
abbrev zp2 (h:Heap) (t1 t2:Bool) (l1 l2:Addr):Heap:=(zp1 h t1 l1).push { cls:=.type (itN t2),data:=.fields #[.ref l2,.int 0 0] }
abbrev zp3 (h:Heap) (t1 t2:Bool) (l1 l2:Addr):Heap:=(zp2 h t1 t2 l1 l2).push { cls:=.type "tuple",data:=.seq #[.ref h.objs.size,.ref (zp1 h t1 l1).objs.size] }
abbrev zp4 (h:Heap) (t1 t2:Bool) (l1 l2:Addr):Heap:=(zp3 h t1 t2 l1 l2).push { cls:=.type "tuple",data:=.seq #[.none,.none] }
abbrev zp5 (h:Heap) (t1 t2:Bool) (l1 l2:Addr):Heap:=(zp4 h t1 t2 l1 l2).push { cls:=.type "zip",data:=.fields #[.none,.bool false,.bool false,.ref (zp2 h t1 t2 l1 l2).objs.size,.ref (zp3 h t1 t2 l1 l2).objs.size] }
theorem zipNew (t1 t2:Bool) (l1 l2:Addr) (xs ys:Array Value) :
    Meets (Builtin.«zip.__new__» ⟨[.type "zip",.ref l1,.ref l2],[]⟩) (fun _ R s=>SOf s.heap t1 l1 xs∧SOf s.heap t2 l2 ys∧R (.ok (.ret (.ref (zp4 s.heap t1 t2 l1 l2).objs.size))) { s with heap:=zp5 s.heap t1 t2 l1 l2 }):=
  .of_wp fun prog w A R s h=>by
    obtain ⟨hp,g,d,tk,os⟩:=s
    obtain ⟨y1,y2,h⟩:=h
    have hsub:=sub_zip
    have Y1:SOf (Shared.heap ⟨hp,g,d,tk,os⟩) t1 l1 xs:=y1
    have Y2:SOf (Shared.heap ⟨hp.push { cls:=.type (itN t1),data:=.fields #[.ref l1,.int 0 0] },g,d,tk,os⟩) t2 l2 ys:=y2.at fun o z=>Heap.get?_push_of_some _ z
    wp_walk using iterS Y1,iterS Y2
    exact ⟨_,rfl,h⟩
end
end L2
set_option Elab.async false
set_option linter.all false
set_option maxRecDepth 100000
namespace L2
open PySem PySem.Spec PyProof.Rows
theorem yf2:bootBuiltins "zip" = some (.type "zip"):=by decide +kernel
section
variable {prog:Program} {w:World} {A:Around} {E:Value→Shared→Prop} {s:Shared}
def ZSt (h:Heap) (n:Nat) (t1 t2:Bool) (l1 l2:Addr) (i:Nat):Prop:=
  ∃ a b,IsZip h (n + 4) (n + 2) (n + 3) .none∧IsPair h (n + 2) (.ref n) (.ref (n + 1))∧IsPair h (n + 3) a b∧SIt h t1 n l1 i∧SIt h t2 (n + 1) l2 i
theorem yf1 {t1 t2:Bool} {l1 l2:Addr} {xs ys:Array Value} {Q:Value→Shared→Prop} (y1:SOf s.heap t1 l1 xs) (y2:SOf s.heap t2 l2 ys)
    (k:∀ h',ZSt h' s.heap.objs.size t1 t2 l1 l2 0→(∀ c o,s.heap.get? c=some o→h'.get? c=some o)→Q (.ref (s.heap.objs.size + 4)) { s with heap:=h' }) :
    wpAny (model prog w) A (call (.type "zip") [.ref l1,.ref l2]) Q E s:=by
  refine callType_new F.called_zip (by decide) (F.typeCall_zip_2 _ _) (F.newCall_zip_2 _ _) (fun obj=>F.args_object_init_3 obj _ _) F.entry_zip_new (zipNew t1 t2 l1 l2 xs ys) ⟨y1,y2,?_⟩
  have z1:(zp1 s.heap t1 l1).objs.size=s.heap.objs.size + 1:=Heap.size_push ..
  have z2:(zp2 s.heap t1 t2 l1 l2).objs.size=s.heap.objs.size + 2:=by rw [Heap.size_push,z1]
  have z3:(zp3 s.heap t1 t2 l1 l2).objs.size=s.heap.objs.size + 3:=by rw [Heap.size_push,z2]
  have z4:(zp4 s.heap t1 t2 l1 l2).objs.size=s.heap.objs.size + 4:=by rw [Heap.size_push,z3]
  have u5:∀ c o,(zp4 s.heap t1 t2 l1 l2).get? c=some o→(zp5 s.heap t1 t2 l1 l2).get? c=some o:=fun c o g=>Heap.get?_push_of_some _ g
  have u4:∀ c o,(zp3 s.heap t1 t2 l1 l2).get? c=some o→(zp5 s.heap t1 t2 l1 l2).get? c=some o:=fun c o g=>u5 c o (Heap.get?_push_of_some _ g)
  have u3:∀ c o,(zp2 s.heap t1 t2 l1 l2).get? c=some o→(zp5 s.heap t1 t2 l1 l2).get? c=some o:=fun c o g=>u4 c o (Heap.get?_push_of_some _ g)
  have u2:∀ c o,(zp1 s.heap t1 l1).get? c=some o→(zp5 s.heap t1 t2 l1 l2).get? c=some o:=fun c o g=>u3 c o (Heap.get?_push_of_some _ g)
  have g5:(zp5 s.heap t1 t2 l1 l2).get? (zp4 s.heap t1 t2 l1 l2).objs.size=some _:=Heap.get?_push_size _ rfl
  have g4:(zp5 s.heap t1 t2 l1 l2).get? (zp3 s.heap t1 t2 l1 l2).objs.size=some _:=u5 _ _ (Heap.get?_push_size _ rfl)
  have g3:(zp5 s.heap t1 t2 l1 l2).get? (zp2 s.heap t1 t2 l1 l2).objs.size=some _:=u4 _ _ (Heap.get?_push_size _ rfl)
  have i2:SIt (zp5 s.heap t1 t2 l1 l2) t2 (zp1 s.heap t1 l1).objs.size l2 0:=SIt.new.at fun o g=>u3 _ o g
  have i1:SIt (zp5 s.heap t1 t2 l1 l2) t1 s.heap.objs.size l1 0:=SIt.new.at fun o g=>u2 _ o g
  show _∧_
  rw [z2,z3,z4] at g5
  rw [z1,z2] at g3
  rw [z3] at g4
  rw [z1] at i2
  rw [z4]
  exact ⟨⟨_,g5,rfl⟩,k _ ⟨_,_,g5,g3,g4,i1,i2⟩ fun c o g=>u2 c o (Heap.get?_push_of_some _ g)⟩
end
def Sq (K:PySem.W.Frag) (tp:Bool) (H:Hp) (l:Addr) (xs:List V):Prop:=if tp then SqT K H l xs else SqL K H l xs
section
variable {X:Cx} {pins:List (Addr×Obj)} {σ:St} {H:Hp} {s:Shared}
theorem Inv.sq {tp:Bool} {l:Addr} {xs:List V} (I:Inv X pins σ H s) (h:Sq X.K tp H l xs):∃ its:List Value,Vals xs its∧SOf s.heap tp l its.toArray∧l < s.heap.objs.size:=by
  cases tp with
  | true=>
    obtain ⟨its,r,pl,z⟩:=I.tuple h
    obtain ⟨o,g,_⟩:=id pl
    exact ⟨its,r,pl,Heap.lt_size g⟩
  | false=>
    obtain ⟨its,r,pl,z⟩:=I.list h
    obtain ⟨o,g,_⟩:=id pl.isList
    exact ⟨its,r,pl.isList,Heap.lt_size g⟩
theorem Inv.sq_inj {tp:Bool} {l:Addr} {xs ys:List V} (I:Inv X pins σ H s) (h:Sq X.K tp H l xs) (h':Sq X.K tp H l ys):xs=ys:=by
  cases tp with
  | true=>exact I.tuple_inj h h'
  | false=>exact I.list_inj h h'
end
section
variable {X:Cx} {pins:List (Addr×Obj)} {σ:St} {H:Hp} {s:Shared} {h':Heap}
theorem Inv.turnedM {ch:List Addr} {t':Nat} (I:Inv X pins σ H s) (k:∀ b u,b∉ch→s.heap.get? b=some u→h'.get? b=some u) (hf:∀ b∈ch,FpOk X pins H b):Inv X pins σ H { s with heap:=h',toks:=t' }:=by
  have nit:∀ b u,H b=some u→b∉ch:=fun b u e z=>by rw [(hf b z).1] at e; cases e
  refine I.step (g':=s.gens) (d':=s.drawn) (ch:=ch) (fun b hb=>?_) (fun b u _ _ hc e _=>k b u hc e) (fun b u _ _ hc e _=>⟨u.slots,k b u hc e⟩) (fun b u _ e n=>n)
    (fun b u hc e=>⟨u,k b u hc e⟩) (fun b xs e=>e) (fun b u xs e=>e) (fun b ps e=>⟨#[],by rw [e]; simp⟩) (fun m hm=>?_) (fun b u e=>?_) I.bare
  · obtain ⟨_,f1,_,f3,f4,f5⟩:=hf b hb
    exact ⟨f3,f1,f4,f5⟩
  · obtain ⟨ob,es,ep,ho,r⟩:=hm
    exact ⟨ob,es,ep,k _ ob (fun z=>(hf _ z).2.1 rfl) ho,r⟩
  · refine (I.hok b u e).stay (fun c v hc q=>k c v ?_ q) (fun c q=>q) fun c xs q=>q
    rcases hc with rfl | hc
    · exact nit _ u e
    · exact nit c _ hc
end
def Itz (K:PySem.W.Frag) (t1 t2:Bool) (l1 l2:Addr):It:=
  ⟨fun i H=>∃ xs ys x y,Sq K t1 H l1 xs∧Sq K t2 H l2 ys∧xs[i]?=some x∧ys[i]?=some y,
   fun i H x H'=>∃ p u v,H p=none∧x=.ref p∧H'=upd H p (.tup [u,v])∧∀ xs ys,Sq K t1 H l1 xs→Sq K t2 H l2 ys→xs[i]?=some u∧ys[i]?=some v,
   fun i H=>∃ xs ys,Sq K t1 H l1 xs∧Sq K t2 H l2 ys∧(xs[i]?=none∨ys[i]?=none)⟩
theorem yf0 {xs:List V} {us:List Value} {i:Nat} (r:Vals xs us) (h:xs[i]?=none):us[i]?=none:=by
  rw [List.getElem?_eq_none_iff] at h ⊢
  rw [← r.length]
  exact h
theorem turn_zip {P:Program} {w:World} {K:PySem.W.Frag} {es:List Expr} {k:Nat} {tp:Pos} {t1 t2:Bool} (l1 l2 n:Nat) (b1:l1 < n) (b2:l2 < n) :
    Turn P w K (.Tuple es k tp) (Itz K t1 t2 l1 l2) [n,n + 1,n + 2,n + 3,n + 4] (n + 4) (fun i h=>ZSt h n t1 t2 l1 l2 i) where
  mem:=by simp
  obj:=fun i h st b hb=>by
    obtain ⟨x,y,gz,gi,go,q1,q2⟩:=st
    have hb':b=n∨b=n + 1∨b=n + 2∨b=n + 3∨b=n + 4:=by simpa using hb
    rcases hb' with rfl | rfl | rfl | rfl | rfl
    · exact q1.obj
    · exact q2.obj
    · exact ⟨_,gi,fun v z=>by
        have z':Data.seq _ _=Data.cell v:=z
        cases z'⟩
    · exact ⟨_,go,fun v z=>by
        have z':Data.seq _ _=Data.cell v:=z
        cases z'⟩
    · exact ⟨_,gz,fun v z=>by
        have z':Data.fields _=Data.cell v:=z
        cases z'⟩
  keep:=fun i h h' st kk=>by
    obtain ⟨x,y,gz,gi,go,q1,q2⟩:=st
    exact ⟨x,y,kk _ (by simp) _ gz,kk _ (by simp) _ gi,kk _ (by simp) _ go,q1.at fun o z=>kk _ (by simp) o z,q2.at fun o z=>kk _ (by simp) o z⟩
  item:=by
    intro X hP hw hK hc i pins s σ H E I hf st hg
    subst hP hw hK
    obtain ⟨xs,ys,x,y,hq1,hq2,hx,hy⟩:=hg
    obtain ⟨its1,rv1,so1,_⟩:=I.sq hq1
    obtain ⟨its2,rv2,so2,_⟩:=I.sq hq2
    obtain ⟨u1,hu1,ru1⟩:=rv1.get hx
    obtain ⟨u2,hu2,ru2⟩:=rv2.get hy
    obtain ⟨x0,y0,gz,gi,go,q1,q2⟩:=st
    have lt4:n + 4 < s.heap.objs.size:=Heap.lt_size gz
    have hT:s.TypeIs (.ref (n + 4)) "zip":=⟨_,gz,rfl⟩
    unfold pyNext
    refine wpAny_bind (wpAny_attempt (wpAny_callSpecial?_slot (name:=Str.ofString "__next__") hT F.slot_zip_next (wpAny_call_entry F.slot_zip_next hT F.entry_zip_next ?_ (F.args_zip_next_1 _))))
    refine qja b1 b2 gz gi go q1 q2 so1 so2 (x:=u1) (y:=u2) (by simpa using hu1) (by simpa using hu2) fun h' gz' go' r1 r2 hT' hsz kp=>?_
    refine wpAny_pure ?_
    refine ⟨_,rfl,wpAny_letOwnedTupleGo_zip gz' fun h2 gz2 hs2=>?_⟩
    have kp2:∀ b ob,b∉[n,n + 1,n + 2,n + 3,n + 4]→s.heap.get? b=some ob→h2.get? b=some ob:=fun b ob hb z=>by
      have d4:b≠n + 4:=fun q=>hb (by simp [q])
      have d3:b≠n + 3:=fun q=>hb (by simp [q])
      have d0:b≠n:=fun q=>hb (by simp [q])
      have d1:b≠n + 1:=fun q=>hb (by simp [q])
      exact (hs2.2 b d4).trans (kp b ob d4 d3 d0 d1 z)
    have up2:∀ b ob,b≠n + 4→h'.get? b=some ob→h2.get? b=some ob:=fun b ob d z=>(hs2.2 b d).trans z
    have hT2:h2.get? s.heap.objs.size=some { cls:=.type "tuple",data:=.seq #[u1,u2] }:=up2 _ _ (Nat.ne_of_gt lt4) hT'
    have fresh:H s.heap.objs.size=none:=I.hok.fresh (Nat.le_refl _)
    have new:ya4 X.prog X.w (upd H s.heap.objs.size (.tup [x,y])) h2 s.heap.objs.size (.tup [x,y]):=⟨by show 2≤sizeLine; decide,[u1,u2],.cons ru1 (.cons ru2 .nil),⟨_,hT2,rfl,_,rfl⟩⟩
    refine ⟨.ref s.heap.objs.size,upd H s.heap.objs.size (.tup [x,y]),I.turnedL kp2 hf (Nat.le_refl _) new,rfl,⟨_,x,y,fresh,rfl,rfl,fun as bs ha hb=>by rw [I.sq_inj ha hq1,I.sq_inj hb hq2]; exact ⟨hx,hy⟩⟩,⟨_,_,gz2,?_,up2 _ _ (neN (by omega)) go',r1.at fun o z=>up2 _ o (neN (by omega)) z,r2.at fun o z=>up2 _ o (neN (by omega)) z⟩,fun b hb=>?_⟩
    · exact up2 _ _ (neN (by omega)) (kp _ _ (neN (by omega)) (neN (by omega)) (neN (by omega)) (neN (by omega)) gi)
    · rw [qaf]
      · exact (hf b hb).1
      · have hb':b=n∨b=n + 1∨b=n + 2∨b=n + 3∨b=n + 4:=by simpa using hb
        rcases hb' with rfl | rfl | rfl | rfl | rfl <;> exact neN (by omega)
  done:=by
    intro X hP hw hK hc i pins s σ H E I hf st hg
    subst hP hw hK
    obtain ⟨xs,ys,hq1,hq2,hxy⟩:=hg
    obtain ⟨its1,rv1,so1,_⟩:=I.sq hq1
    obtain ⟨its2,rv2,so2,_⟩:=I.sq hq2
    obtain ⟨x0,y0,gz,gi,go,q1,q2⟩:=st
    have hT:s.TypeIs (.ref (n + 4)) "zip":=⟨_,gz,rfl⟩
    have hend:its1.toArray[i]?=none∨its2.toArray[i]?=none:=hxy.imp (fun z=>by simpa using yf0 rv1 z) fun z=>by simpa using yf0 rv2 z
    unfold pyNext
    refine wpAny_bind (wpAny_attempt (wpAny_callSpecial?_slot (name:=Str.ofString "__next__") hT F.slot_zip_next (wpAny_call_entry F.slot_zip_next hT F.entry_zip_next (qie (I.ok.hd hc) b1 b2 gz gi go q1 q2 so1 so2 hend fun h' e kp he=>?_) (F.args_zip_next_1 _))))
    obtain ⟨o,ho,hce⟩:=he
    refine wpAny_bind (wpAny_isInstance (T:="StopIteration") (b:=true) ⟨o,ho,hce⟩ isSubtype_stop ?_)
    refine wpAny_pure ⟨rfl,?_⟩
    refine I.turnedM (t':=s.toks) (ch:=[n,n + 1,n + 2,n + 3,n + 4]) (fun b ob hb z=>?_) hf
    exact kp b ob (fun q=>hb (by simp [q])) (fun q=>hb (by simp [q])) (fun q=>hb (by simp [q])) (fun q=>hb (by simp [q])) z
  self:=fun _ _ _ _ _ st h=>by
    obtain ⟨x0,y0,gz,gi,go,q1,q2⟩:=st
    exact wpAny_pyIter_zip gz h
def iZip (K:PySem.W.Frag) (ta:TA):TI:=fun σ H R=>ta σ H fun vs H1=>∃ t1 t2 l1 l2 xs ys,vs=[.ref l1,.ref l2]∧Sq K t1 H1 l1 xs∧Sq K t2 H1 l2 ys∧R (Itz K t1 t2 l1 l2) H1
section
variable {X:Cx}
theorem qgc {a b:Expr} {ta:TA} {p pos tp:Pos} {es:List Expr} {k:Nat} (hg:Gl X "zip") (hm:X.mg "zip" = none) (ha:PA X [a,b] ta) (hs:starEach [a,b] X.env=(false,eval a X.env) :: starEach [b] X.env:=by rfl) (hp:(backTo pos (starEach [b] X.env)).any (·.1)=false:=by rfl) :
    PI X (.Tuple es k tp) (.Call (.Name "zip" p) [a,b] [] pos) (iZip X.K ta):=by
  intro pins s σ H R I h
  refine Call_ (ycu I hg hm yf2 (PyProof.Rows.callWith_type1 (thn (ha pos pins s σ H _ I h) fun us s1 ⟨vs,H1,I1,r1,q1⟩=>?_) hs hp))
  obtain ⟨t1,t2,l1,l2,xs,ys,e,hq1,hq2,q⟩:=q1
  subst e
  cases r1 with
  | cons r rr=>
    cases rr with
    | cons r2 rr=>
      cases rr
      cases r
      cases r2
      obtain ⟨its1,rv1,so1,b1⟩:=I1.sq hq1
      obtain ⟨its2,rv2,so2,b2⟩:=I1.sq hq2
      refine yf1 so1 so2 fun h' st kp=>?_
      obtain ⟨x0,y0,gz,gi,go,i1,i2⟩:=id st
      refine wpAny_pyIter_zip gz ⟨_,[s1.heap.objs.size,s1.heap.objs.size + 1,s1.heap.objs.size + 2,s1.heap.objs.size + 3,s1.heap.objs.size + 4],_,Itz X.K t1 t2 l1 l2,H1,rfl,I1.kept (t':=s1.toks) kp,turn_zip l1 l2 s1.heap.objs.size b1 b2,st,fun b hb=>?_,q⟩
      have hb':s1.heap.objs.size≤b:=by
        have hb':b=s1.heap.objs.size∨b=s1.heap.objs.size + 1∨b=s1.heap.objs.size + 2∨b=s1.heap.objs.size + 3∨b=s1.heap.objs.size + 4:=by simpa using hb
        rcases hb' with rfl | rfl | rfl | rfl | rfl
        · exact Nat.le_refl _
        · exact Nat.le_add_right ..
        · exact Nat.le_add_right ..
        · exact Nat.le_add_right ..
        · exact Nat.le_add_right ..
      exact I1.fpOk hb' (I1.hok.fresh hb')
end
theorem for_zip {K:PySem.W.Frag} {t1 t2:Bool} {l1 l2:Addr} {xs ys:List V} {g:TG} {tb:TS} {D:Ends} {σ:St} {H:Hp} (hlen:xs.length=ys.length) (Pv:Nat→St→Hp→Prop) (h0:Pv 0 σ H) (hl:∀ i σ H,i≤xs.length→Pv i σ H→Sq K t1 H l1 xs∧Sq K t2 H l2 ys)
    (hs:∀ i x y p σ H,xs[i]?=some x→ys[i]?=some y→Pv i σ H→H p=none→g (.ref p) σ (upd H p (.tup [x,y])) fun σ2 H2=>tb { D with nx:=Pv (i + 1),ct:=Pv (i + 1),bk:=D.nx } σ2 H2) (hd:∀ σ H,Pv xs.length σ H→D.nx σ H) :
    ∃ W:Nat→Nat→St→Hp→Prop,(∃ m,W 0 m σ H)∧∀ i m σ H,W i m σ H→
      ((Itz K t1 t2 l1 l2).stop i H∧D.nx σ H)∨((Itz K t1 t2 l1 l2).go i H∧∃ N:St→Hp→Prop,(∀ σ' H',N σ' H'→∃ m',m' < m∧W (i + 1) m' σ' H')∧∀ x H',(Itz K t1 t2 l1 l2).yld i H x H'→g x σ H' fun σ2 H2=>tb { D with nx:=N,ct:=N,bk:=D.nx } σ2 H2):=by
  refine ⟨fun i m σ H=>m=xs.length - i∧i≤xs.length∧Pv i σ H,⟨xs.length,by simp,Nat.zero_le _,h0⟩,?_⟩
  rintro i m σ H ⟨rfl,hi,p⟩
  obtain ⟨q1,q2⟩:=hl i σ H hi p
  by_cases hlt:i < xs.length
  · refine .inr ⟨⟨xs,ys,_,_,q1,q2,List.getElem?_eq_getElem hlt,List.getElem?_eq_getElem (by omega)⟩,Pv (i + 1),fun σ' H' p'=>⟨xs.length - (i + 1),by omega,rfl,hlt,p'⟩,?_⟩
    rintro x H' ⟨pp,u,v,hp,rfl,rfl,hu⟩
    obtain ⟨h1,h2⟩:=hu xs ys q1 q2
    exact hs i u v pp σ H h1 h2 p hp
  · have e:i=xs.length:=by omega
    subst e
    exact .inl ⟨⟨xs,ys,q1,q2,.inl (by simp)⟩,hd σ H p⟩
end L2
set_option Elab.async false
set_option linter.all false
set_option maxRecDepth 100000
namespace L2
open PySem PySem.Spec PyProof.Rows
theorem qdy:bootBuiltins "sorted" = some (.builtin "sorted"):=by decide +kernel
theorem yft:∀ {us:List Value} {ns:List Int},IntsAre us ns→Vals (ns.map V.int) us
  | _,_,.nil=>.nil
  | _,_,.cons n t r=>.cons ⟨t,rfl⟩ (yft r)
end L2
set_option Elab.async false
set_option linter.all false
set_option maxRecDepth 100000
namespace L2
open PySem PySem.Spec PyProof.Rows
theorem yf9:bootBuiltins "all" = some (.builtin "all"):=by decide +kernel
section
variable {X:Cx}
def rAllB:List V→Hp→VK→Prop:=fun xs H Q=>∃ (l:Addr) (bs:List Bool),xs=[.ref l]∧H l=some (.lst (bs.map V.bl))∧Q (.bl (bs.all id)) H
theorem qix (bs:List Bool):(List.range bs.length).all (fun i=>bs.getD i false)=bs.all id:=by
  rw [Bool.eq_iff_iff,List.all_eq_true,List.all_eq_true]
  constructor
  · intro h b hb
    obtain ⟨i,hi,e⟩:=List.getElem_of_mem hb
    have:=h i (List.mem_range.mpr hi)
    rw [List.getD_eq_getElem?_getD,List.getElem?_eq_getElem hi] at this
    rw [← e]; exact this
  · intro h i hi
    have hi':=List.mem_range.mp hi
    rw [List.getD_eq_getElem?_getD,List.getElem?_eq_getElem hi']
    exact h _ (List.getElem_mem hi')
theorem truth_bs {P:Program} {w:World} {A:Around} (bs:List Bool):TruthOf P w A (fun i v=>(bs.map Value.bool).toArray[i]?=some v) (fun i=>bs.getD i false):=by
  intro i v s Q E hP hQ
  have hP':(bs.map Value.bool)[i]?=some v:=by simpa using hP
  rw [List.getElem?_map] at hP'
  cases e:bs[i]? with
  | none=>rw [e] at hP'; cases hP'
  | some b=>
    rw [e] at hP'
    cases hP'
    have hQ':Q (bs.getD i false) s:=hQ
    rw [List.getD_eq_getElem?_getD,e] at hQ'
    exact wpAny_truthy_bool hQ'
theorem yfv (hc:X.calm=true):ycc X (.builtin "all") rAllB:=by
  intro pins s σ H xs us Q I r h
  obtain ⟨l,bs,rfl,hH,q⟩:=h
  cases r with
  | cons r rr=>
    cases rr
    cases r
    obtain ⟨z,its,n,rv,hl,e⟩:=I.lstM hH
    have hi:=rv.bls
    subst hi
    have hlt:l < s.heap.objs.size:=Heap.lt_size e
    refine call_all_walk (wpAny_pyIter_list (items:=(bs.map Value.bool).toArray) ⟨_,e,rfl,n,rfl⟩ ⟨_,_,_,_,_,_,_,rfl,Walks.list (by simpa using I.ok.hd hc) s.heap.objs.size l (Nat.ne_of_lt hlt) (bs.map Value.bool).toArray,⟨⟨_,Heap.get?_push_size _ rfl,rfl,rfl⟩,⟨_,Heap.get?_push_of_some _ e,rfl,n,rfl⟩⟩,truth_bs bs,fun h' tk hk=>?_⟩)
    rw [List.size_toArray,List.length_map,qix]
    refine ⟨.bl (bs.all id),H,I.kept fun b o g=>hk b o ?_ (Heap.get?_push_of_some _ g),rfl,q⟩
    intro hb
    rw [List.mem_singleton] at hb
    exact absurd (Heap.lt_size g) (by rw [hb]; exact Nat.lt_irrefl _)
end
end L2
set_option Elab.async false
set_option linter.all false
set_option maxRecDepth 100000
set_option Elab.async false
set_option linter.all false
set_option maxRecDepth 100000
namespace L2
open PySem PySem.Spec PyProof.Rows
section
variable {κ:Type} [DecidableEq κ]
def valV (kvs:List (κ×V)) (k:κ):Option V:=(kvs.find? fun kv=>decide (kv.1=k)).map (·.2)
def putK (kvs:List (κ×V)) (k:κ) (v:V):List (κ×V):=
  if (kvs.any fun kv=>decide (kv.1=k))=true then kvs.map (fun kv=>if kv.1=k then (kv.1,v) else kv) else kvs++[(k,v)]
theorem qbi {p:κ×V} {r:List (κ×V)} {k:κ} (e:p.1=k):valV (p :: r) k=some p.2:=by simp [valV,List.find?_cons,e]
theorem ybh {p:κ×V} {r:List (κ×V)} {k:κ} (e:¬ p.1=k):valV (p :: r) k=valV r k:=by simp [valV,List.find?_cons,e]
theorem yfd (k:κ):∀ kvs:List (κ×V),(kvs.any fun kv=>decide (kv.1=k))=(valV kvs k).isSome
  | []=>rfl
  | p :: r=>by
    rw [List.any_cons]
    by_cases e:p.1=k
    · simp only [qbi e,decide_eq_true e,Bool.true_or,Option.isSome_some]
    · rw [ybh e,decide_eq_false e,Bool.false_or]; exact yfd k r
theorem yg0 (k j:κ) (y:V):∀ kvs:List (κ×V),valV (kvs.map fun kv=>if kv.1=k then (kv.1,y) else kv) j=(valV kvs j).map fun x=>if j=k then y else x
  | []=>rfl
  | p :: r=>by
    have ih:=yg0 k j y r
    rw [List.map_cons]
    by_cases h:p.1=k
    · rw [if_pos h]
      by_cases e:p.1=j
      · rw [qbi (p:=(p.1,y)) e,qbi e,Option.map_some,if_pos (e.symm.trans h)]
      · rw [ybh (p:=(p.1,y)) e,ybh e,ih]
    · rw [if_neg h]
      by_cases e:p.1=j
      · rw [qbi (p:=p) e,qbi e,Option.map_some,if_neg (fun z=>h (e.trans z))]
      · rw [ybh (p:=p) e,ybh e,ih]
theorem yfz (k j:κ) (y:V):∀ kvs:List (κ×V),valV kvs k=none→valV (kvs++[(k,y)]) j=if j=k then some y else valV kvs j
  | [],_=>by
    by_cases e:k=j
    · rw [if_pos e.symm]; exact qbi (p:=(k,y)) e
    · rw [if_neg (fun z=>e z.symm)]; exact ybh (p:=(k,y)) e
  | p :: r,hn=>by
    rw [List.cons_append]
    have hk:¬ p.1=k:=fun z=>by rw [qbi z] at hn; cases hn
    rw [ybh hk] at hn
    have ih:=yfz k j y r hn
    by_cases e:p.1=j
    · rw [qbi e,qbi e,if_neg (fun z=>hk (e.trans z))]
    · rw [ybh e,ybh e,ih]
theorem valV_put (kvs:List (κ×V)) (k j:κ) (y:V):valV (putK kvs k y) j=if j=k then some y else valV kvs j:=by
  unfold putK
  by_cases a:(kvs.any fun kv=>decide (kv.1=k))=true
  · rw [if_pos a,yg0]
    rw [yfd] at a
    by_cases e:j=k
    · obtain ⟨x,hx⟩:=Option.isSome_iff_exists.mp a
      rw [if_pos e,e,hx,Option.map_some,if_pos rfl]
    · rw [if_neg e]
      cases valV kvs j with
      | none=>rfl
      | some x=>rw [Option.map_some,if_neg e]
  · rw [if_neg a]
    refine yfz k j y kvs ?_
    rw [yfd] at a
    cases q:valV kvs k with
    | none=>rfl
    | some x=>rw [q] at a; exact (a rfl).elim
theorem yeo (kvs:List (κ×V)) (k:κ) (v:V):(putK kvs k v).length≤kvs.length + 1:=by
  unfold putK
  split
  · rw [List.length_map]; omega
  · rw [List.length_append,List.length_cons,List.length_nil]; omega
theorem RelO.getD {o:Option V} {u:Option Value} {d:V} {d':Value} (r:RelO o u) (rd:RelV d d'):RelV (o.getD d) (u.getD d'):=by
  cases o with
  | none=>cases u with
    | none=>exact rd
    | some _=>exact (show False from r).elim
  | some _=>cases u with
    | none=>exact (show False from r).elim
    | some _=>exact r
theorem KV.val {kvs:List (κ×V)} {vs:List (κ×Value)} (r:KV kvs vs) (k:κ):RelO (valV kvs k) (valueAt vs k):=by
  unfold KV at r
  induction r with
  | nil=>exact True.intro
  | @cons p q ps qs h t ih=>
    obtain ⟨h1,h2⟩:=h
    by_cases e:p.1=k
    · have e':q.1=k:=h1.symm.trans e
      have b:valueAt (q :: qs) k=some q.2:=by simp [valueAt,List.find?_cons,e']
      rw [qbi e,b]; exact h2
    · have e':¬ q.1=k:=fun z=>e (h1.trans z)
      have b:valueAt (q :: qs) k=valueAt qs k:=by simp [valueAt,List.find?_cons,e']
      rw [ybh e,b]; exact ih
theorem KV.any {kvs:List (κ×V)} {vs:List (κ×Value)} (r:KV kvs vs) (k:κ):(kvs.any fun kv=>decide (kv.1=k))=vs.any fun kv=>decide (kv.1=k):=by
  unfold KV at r
  induction r with
  | nil=>rfl
  | cons h t ih=>rw [List.any_cons,List.any_cons,ih,h.1]
theorem KV.repl {kvs:List (κ×V)} {vs:List (κ×Value)} (r:KV kvs vs) (k:κ) {y:V} {u:Value} (ry:RelV y u) :
    KV (kvs.map fun kv=>if kv.1=k then (kv.1,y) else kv) (vs.map fun kv=>if kv.1=k then (kv.1,u) else kv):=by
  unfold KV at r ⊢
  induction r with
  | nil=>exact .nil
  | @cons p q ps qs h t ih=>
    rw [List.map_cons,List.map_cons]
    refine .cons ?_ ih
    obtain ⟨h1,h2⟩:=h
    by_cases e:p.1=k
    · rw [if_pos e,if_pos (h1.symm.trans e)]; exact ⟨h1,ry⟩
    · rw [if_neg e,if_neg (fun z=>e (h1.trans z))]; exact ⟨h1,h2⟩
theorem KV.put {kvs:List (κ×V)} {vs:List (κ×Value)} (r:KV kvs vs) (k:κ) {y:V} {u:Value} (ry:RelV y u):KV (putK kvs k y) (stored vs k u):=by
  unfold putK stored
  rw [r.any k]
  by_cases e:(vs.any fun kv=>decide (kv.1=k))=true
  · rw [if_pos e,if_pos e]; exact r.repl k ry
  · rw [if_neg e,if_neg e]; exact Paired.snoc r ⟨rfl,ry⟩
theorem KV.length {kvs:List (κ×V)} {vs:List (κ×Value)} (r:KV kvs vs):kvs.length=vs.length:=Paired.length r
end
theorem qiq {P:Program} {w:World} {k:Key} {u:Value} (r:RelV (kV k) u):(qau P w).is k u=true:=by
  cases k with
  | inl i=>obtain ⟨t,e⟩:=(show ∃ t,u=Value.int i t from r); subst e; exact ygq P w i t
  | inr x=>obtain ⟨t,e⟩:=(show ∃ t,u=Value.str x t from r); subst e; exact qgv P w x t
theorem yge {P:Program} {w:World}:∀ {ks:List Key} {us:List Value},Vals (ks.map kV) us→ItemsAre (qau P w) ks us
  | [],_,r=>by rw [List.map_nil] at r; cases r; exact .nil
  | k :: ks,_,r=>by
    rw [List.map_cons] at r
    cases r with
    | cons h t=>exact .cons (qiq h) (yge t)
abbrev KT (H:Hp):List (List Key×V)→List (List Key×Addr×Value)→Prop:=Paired fun p q=>p.1=q.1∧H q.2.1=some (.tup (p.1.map kV))∧RelV p.2 q.2.2
theorem KT.val {H:Hp} {kvs:List (List Key×V)} {xs:List (List Key×Addr×Value)} (r:KT H kvs xs) (k:List Key):RelO (valV kvs k) ((atKey xs k).map (·.2)):=by
  induction r with
  | nil=>exact True.intro
  | @cons p q ps qs h t ih=>
    obtain ⟨h1,_,h2⟩:=h
    by_cases e:p.1=k
    · have e':q.1=k:=h1.symm.trans e
      have b:atKey (q :: qs) k=some q.2:=by simp [atKey,List.find?_cons,e']
      rw [qbi e,b]; exact h2
    · have e':¬ q.1=k:=fun z=>e (h1.trans z)
      have b:atKey (q :: qs) k=atKey qs k:=by simp [atKey,List.find?_cons,e']
      rw [ybh e,b]; exact ih
section
variable {P:Program} {w:World} {H:Hp} {h:Heap} {a:Addr}
theorem rd_of {u:HO} (ok:HOk P w H h) (e:Rd H a u):ya4 P w H h a u:=e.ok ok
theorem yhw {kvs:List (Key×V)} (ok:HOk P w H h) (e:Rd H a (.dK kvs)):kvs.length≤sizeLine∧(a == sysModules)=false∧∃ vs,KV kvs vs∧h.DictOf (qau P w) a vs:=
  show ya4 P w H h a (.dK kvs) from rd_of ok e
theorem dk_of {kvs:List (Key×V)} (ok:HOk P w H h) (e:H a=some (.dK kvs)):kvs.length≤sizeLine∧(a == sysModules)=false∧∃ vs,KV kvs vs∧h.DictOf (qau P w) a vs:=yhw ok (.inl e)
theorem qh3 {ks:List Key} (ok:HOk P w H h) (e:H a=some (.tup (ks.map kV))):(tupleKind (qau P w)).is h ks a:=by
  obtain ⟨_,its,r,o,h1,h2,n,h3⟩:=(show ya4 P w H h a (.tup (ks.map kV)) from ok a _ e)
  exact ⟨o,its.toArray,n,h1,h2,h3,by simpa using yge r⟩
theorem dt_rd {kvs:List (List Key×V)} (ok:HOk P w H h) (e:Rd H a (.dT kvs)):kvs.length≤sizeLine∧(a == sysModules)=false∧
    ∃ xs,KT H kvs xs∧h.DictOfH (tupleKind (qau P w)) a xs:=by
  obtain ⟨z,y,xs,r,o,es,ep,h1,h2,h3,h4,h5⟩:=(show ya4 P w H h a (.dT kvs) from rd_of ok e)
  refine ⟨z,y,xs,r,o,es,ep,h1,h2,h3,h4,fun x hx=>?_,h5⟩
  have all:∀ {l:List (List Key×V)} {m:List (List Key×Addr×Value)},KT H l m→∀ x∈m,(tupleKind (qau P w)).is h x.1 x.2.1:=by
    intro l m q
    induction q with
    | nil=>intro x hx; exact nomatch hx
    | @cons p q ps qs hq t ih=>
      intro x hx
      rcases List.mem_cons.mp hx with e | hx
      · subst e
        exact qh3 ok (by rw [← hq.1]; exact hq.2.1)
      · exact ih x hx
  exact all r x hx
end
def DGet (H:Hp) (a:Addr) (y:V) (r:Option V):Prop:=
  (∃ kvs k,Rd H a (.dK kvs)∧y=kV k∧r=valV kvs k)∨∃ kvs k b,Rd H a (.dT kvs)∧y=.ref b∧H b=some (.tup (k.map kV))∧r=valV kvs k
theorem DGet.k {H:Hp} {a:Addr} {kvs:List (Key×V)} {k:Key} (e:H a=some (.dK kvs)):DGet H a (kV k) (valV kvs k):=.inl ⟨kvs,k,.inl e,rfl,rfl⟩
section
variable {X:Cx} {pins:List (Addr×Obj)} {σ:St} {H:Hp} {s:Shared} {a:Addr} {y v:V} {u r:Value} {o:Option V} {A:Around} {E:Value→Shared→Prop}
theorem Inv.big (I:Inv X pins σ H s):sysModules < s.heap.objs.size:=by
  have h:mainGlobals < s.heap.objs.size:=(I.mod.glob.keeps I.bk).lt
  exact Nat.lt_trans (by decide) h
theorem yid {Q:Value→Shared→Prop} (hu:A.units + 1 < cLine) (I:Inv X pins σ H s) (g:DGet H a y (some v)) (ry:RelV y u) (h:∀ w' s',Inv X pins σ H s'→RelV v w'→Q w' s') :
    wpAny (model X.prog X.w) A (getItem (.ref a) u) Q E s:=by
  rcases g with ⟨kvs,k,e,ey,l⟩ | ⟨kvs,k,b,e,ey,eb,l⟩
  · subst ey
    obtain ⟨z,hd,vs,rel,dd⟩:=yhw I.hok e
    obtain ⟨w',hw,rw'⟩:=RelO.some_of (v:=v) (o:=valueAt vs k) (by rw [l]; exact rel.val k)
    exact wpAny_getItem_of (qiq ry) dd.mapOf hw (h w' _ (I.tok _) rw')
  · subst ey
    cases (show u=Value.ref b from ry)
    obtain ⟨z,hd,xs,rel,dd⟩:=dt_rd I.hok e
    obtain ⟨w',hw,rw'⟩:=RelO.some_of (v:=v) (o:=(atKey xs k).map (·.2)) (by rw [l]; exact rel.val k)
    obtain ⟨p,hp,hp2⟩:=Option.map_eq_some_iff.mp hw
    refine wpAny_getItem_heap (tupleKind_room_in1 hu) (qh3 I.hok eb) dd hp ?_
    rw [hp2]
    exact h w' _ (I.tok _) rw'
theorem yi8 {h':Heap} {t':Nat} {ob:HO} (I:Inv X pins σ H s) (mu:Mut (H a)) (hs:Heap.SameBut a s.heap h') (he:∃ q,h'.get? a=some q) (new:ya4 X.prog X.w (upd H a ob) h' a ob) :
    Inv X pins σ (upd H a ob) { s with heap:=h',toks:=t' }:=
  I.write (x:=a) (e:=a) mu (.inl rfl) (fun b q hb z=>(hs.2 b hb).trans z) he new
theorem dk_new {P:Program} {w:World} {H':Hp} {h':Heap} {kvs:List (Key×V)} {vs:List (Key×Value)} (z:kvs.length≤sizeLine) (hd:(a == sysModules)=false) (rel:KV kvs vs) (dd:h'.DictOf (qau P w) a vs) :
    ya4 P w H' h' a (.dK kvs):=⟨z,hd,vs,rel,dd⟩
end
def NoSl (i:Expr):Prop:=∀ ov iv,subscripted i false ov iv=operate [ov,iv] (getItem ov iv)
theorem subD_of {prog:Program} {w:World} {A:Around} {E:Value→Shared→Prop} {s:Shared} {env:Env} {value slice:Expr} {pos:Pos} {T id:String} {Q:Value→Shared→Prop}
    (hl:typeLookup (.type T) "__getitem__" = pure (some (.builtin id))) (hs:NoSl slice)
    (h:wpAny (model prog w) A (eval value env) (fun o s₁=>wpAny (model prog w) A (eval slice env) (fun i s₂=>s₂.TypeIs o T∧wpAny (model prog w) A (getItem o i) Q E s₂) E s₁) E s) :
    wpAny (model prog w) A (eval (.Subscript value slice pos) env) Q E s:=by
  refine Subscript_ (wpAny_mono h (fun o s₁ h₁=>wpAny_mono h₁ (fun i s₂ h₂=>?_) fun _ _ x=>x) fun _ _ x=>x)
  obtain ⟨hT,h₂⟩:=h₂
  unfold subscriptTail
  refine wpAny_bind ?_
  rw [getitemInPython_of_ne hT.not_modules]
  refine wpAny_bind (wpAny_specialOf hT hl ?_)
  have fin:wpAny (model prog w) A (subscripted slice false o i) (fun r s₃=>wpAny (model prog w) A (letTemporaryGo value o r >>= fun _=>pure r) Q E s₃) E s₂:=by
    rw [hs o i]
    exact wpAny_operating (wpAny_mono h₂ (fun r s₃ h₃=>wpAny_bind (wpAny_letTemporaryGo (wpAny_pure h₃))) fun _ _ x=>x)
  first
    | exact wpAny_pure (wpAny_bind fin)
    | exact wpAny_bind (wpAny_pure (wpAny_bind fin))
    | exact wpAny_bind fin
theorem qgs {X:Cx} {pins:List (Addr×Obj)} {σ:St} {H:Hp} {s:Shared} {a:Addr} {y:V} {o:Option V} (I:Inv X pins σ H s) (g:DGet H a y o):s.TypeIs (.ref a) "dict":=by
  rcases g with ⟨kvs,k,e,_,_⟩ | ⟨kvs,k,b,e,_,_,_⟩
  · obtain ⟨_,_,vs,_,dd⟩:=yhw I.hok e
    exact dd.typeIs
  · obtain ⟨_,_,xs,_,dd⟩:=dt_rd I.hok e
    exact dd.typeIs
def tDGet (td ty:TE):TE:=fun σ H Q=>td σ H fun x H1=>ty σ H1 fun y H2=>∃ a v,x=.ref a∧DGet H2 a y (some v)∧Q v H2
section
variable {X:Cx} {o i e value:Expr} {pos pos' tpos:Pos} {td ty tv:TE}
theorem pe_dget (hu:X.A.units + 1 < cLine) (ho:PE X o td) (hi:PE X i ty) (hs:NoSl i):PE X (.Subscript o i pos) (tDGet td ty):=by
  intro pins s σ H Q I h
  refine subD_of PySem.F.slot_dict_getitem.lookup hs (thn (ho pins s σ H _ I h) fun u s1 ⟨x,H1,I1,rx,q1⟩=>thn (hi pins s1 σ H1 _ I1 q1) fun iv s2 ⟨y,H2,I2,ry,a,v,ex,g,q2⟩=>?_)
  subst ex
  obtain rfl:u=Value.ref a:=rx
  exact ⟨qgs I2 g,yid hu I2 g ry fun w' s3 I3 rw'=>⟨v,H2,I3,rw',q2⟩⟩
end
theorem qhe {P:Program} {w:World} {H:Hp} (h:Heap) (hb:sysModules < h.objs.size):ya4 P w H (h.push { cls:=.type "dict",data:=.dict #[] }) h.objs.size (.dK []):=
  ⟨Nat.zero_le _,beq_eq_false_iff_ne.mpr (Ne.symm (Nat.ne_of_lt hb)),[],.nil,Heap.DictOf.new h⟩
def qjd:TE:=fun _ H Q=>∀ p,H p=none→Q (.ref p) (upd H p (.dK []))
section
variable {X:Cx} {pos:Pos}
theorem qhg:PE X (.Dict [] [] pos) qjd:=fun pins s σ H Q I h=>
  wpAny_Dict_empty ⟨.ref s.heap.objs.size,_,I.laid (a:=s.heap.objs.size) (o:=.dK []) (t':=s.toks) (fun _ _ q=>Heap.get?_push_of_some _ q) (Nat.le_refl _) (qhe s.heap I.big),rfl,h _ (I.hok.fresh (Nat.le_refl _))⟩
end
def yiu:List (TE×TE)→St→Hp→(List (V×V)→Hp→Prop)→Prop
  | [],_,H,Q=>Q [] H
  | (tk,tv) :: r,σ,H,Q=>tk σ H fun x H1=>tv σ H1 fun y H2=>yiu r σ H2 fun ps H3=>Q ((x,y) :: ps) H3
abbrev VV:List (V×V)→List (Value×Value)→Prop:=Paired fun p q=>RelV p.1 q.1∧RelV p.2 q.2
def PPs (X:Cx) (pos:Pos) (keys:List (Option Expr)) (values:List Expr) (trs:List (TE×TE)):Prop:=
  ∀ (pins:List (Addr×Obj)) (s:Shared) (σ:St) (H:Hp) (Q:List (V×V)→Hp→Prop),Inv X pins σ H s→yiu trs σ H Q→
    wpAny (model X.prog X.w) X.A (evalPairs (pairTrees keys values X.env pos)) (fun vs s'=>∃ ps H',Inv X pins σ H' s'∧VV ps vs∧Q ps H') X.xe s
theorem pps_nil {X:Cx} {pos:Pos}:PPs X pos [] [] []:=fun pins s σ H Q I h=>pairTrees_nil_walk ⟨[],H,I,.nil,h⟩
theorem pps_cons {X:Cx} {pos:Pos} {k v:Expr} {ks:List (Option Expr)} {vs:List Expr} {tk tv:TE} {trs:List (TE×TE)} (hk:PE X k tk) (hv:PE X v tv) (hr:PPs X pos ks vs trs) :
    PPs X pos (some k :: ks) (v :: vs) ((tk,tv) :: trs):=fun pins s σ H Q I h=>
  pairTrees_cons_walk (thn (hk pins s σ H _ I h) fun u s1 ⟨x,H1,I1,rx,q1⟩=>thn (hv pins s1 σ H1 _ I1 q1) fun w2 s2 ⟨y,H2,I2,ry,q2⟩=>
    thn (hr pins s2 σ H2 _ I2 q2) fun ws s3 ⟨ps,H3,I3,rel,q3⟩=>⟨(x,y) :: ps,H3,I3,.cons ⟨rx,ry⟩ rel,q3⟩)
def ybi (kvs more:List (Key×V)):List (Key×V):=more.foldl (fun acc kv=>putK acc kv.1 kv.2) kvs
theorem KV.merge:∀ {more:List (Key×V)} {rs:List (Key×Value)} {kvs:List (Key×V)} {vs:List (Key×Value)},KV more rs→KV kvs vs→KV (ybi kvs more) (merged vs rs):=by
  intro more rs kvs vs r
  unfold KV at r
  induction r generalizing kvs vs with
  | nil=>intro q; exact q
  | @cons p q ps qs h t ih=>
    intro r0
    have e:KV (putK kvs p.1 p.2) (stored vs q.1 q.2):=by
      have:=r0.put p.1 h.2
      rw [← h.1]; exact this
    exact ih e
theorem ycf:∀ (more kvs:List (Key×V)),(ybi kvs more).length≤kvs.length + more.length
  | [],kvs=>by show kvs.length≤kvs.length + 0; omega
  | p :: r,kvs=>by
    have h1:=ycf r (putK kvs p.1 p.2)
    have h2:=yeo kvs p.1 p.2
    show (ybi (putK kvs p.1 p.2) r).length≤_
    rw [List.length_cons]; omega
theorem ye3 {P:Program} {w:World}:∀ {kvs:List (Key×V)} {ws:List (Value×Value)},VV (kvs.map fun kv=>(kV kv.1,kv.2)) ws→∃ rs,Carries (qau P w) ws rs∧KV kvs rs
  | [],_,r=>by rw [List.map_nil] at r; cases r; exact ⟨[],True.intro,.nil⟩
  | p :: kvs,_,r=>by
    rw [List.map_cons] at r
    cases r with
    | @cons a b as bs h t=>
      obtain ⟨rs,c,q⟩:=ye3 (P:=P) (w:=w) t
      obtain ⟨b1,b2⟩:=b
      exact ⟨(p.1,b2) :: rs,⟨qiq h.1,rfl,c⟩,.cons ⟨rfl,h.2⟩ q⟩
def tDisp (trs:List (TE×TE)):TE:=fun σ H Q=>∀ p,H p=none→yiu trs σ (upd H p (.dK [])) fun ps H2=>H2 p=some (.dK [])∧∃ kvs:List (Key×V),ps=kvs.map (fun kv=>(kV kv.1,kv.2))∧kvs.length≤15∧Q (.ref p) (upd H2 p (.dK (ybi [] kvs)))
theorem pe_disp {X:Cx} {pos:Pos} {keys:List (Option Expr)} {values:List Expr} {trs:List (TE×TE)} (h:PPs X pos keys values trs) (hall:keys.all (·.isSome)=true) (hl:keys.length=values.length) (h0:keys≠[])
    (h15:keys.length≤15):PE X (.Dict keys values pos) (tDisp trs):=by
  intro pins s σ H Q I q
  have hn:=I.hok.fresh (Nat.le_refl s.heap.objs.size)
  have I1:=I.laid (a:=s.heap.objs.size) (o:=.dK []) (h':=s.heap.push { cls:=.type "dict",data:=.dict #[] }) (t':=s.toks) (fun _ _ q=>Heap.get?_push_of_some _ q) (Nat.le_refl _) (qhe s.heap I.big)
  refine wpAny_Dict_walk (knd:=qau X.prog X.w) hall hl h0 h15 (thn (h pins _ σ _ _ I1 (q _ hn)) fun ws s2 ⟨ps,H2,I2,rel,e,kvs,ep,lk,q2⟩=>?_)
  subst ep
  obtain ⟨rs,c,rk⟩:=ye3 (P:=X.prog) (w:=X.w) rel
  obtain ⟨z,hd,vs0,r0,dd⟩:=dk_of I2.hok e
  cases r0
  refine ⟨rs,c,dd,fun h' dd' hs=>⟨.ref s.heap.objs.size,_,?_,rfl,q2⟩⟩
  have hz:(ybi [] kvs).length≤sizeLine:=by
    have h1:=ycf kvs []
    rw [List.length_nil] at h1
    rw [sizeLine_eq]; omega
  have he:∃ q,h'.get? s.heap.objs.size=some q:=let ⟨q,_,_,hq,_⟩:=dd'; ⟨q,hq⟩
  exact yi8 I2 (by rw [e]; exact True.intro) hs he (dk_new hz hd (rk.merge .nil) dd')
structure M2 (X:Cx) (o:Expr) (m:Str) (apos:Pos) (e f:Expr) (cpos:Pos):Prop where
  base:attributeBase o m X.env (eval o X.env)=eval o X.env
  few:((backTo cpos (starEach [e,f] X.env)).all (fun x=>!x.1) && (backToKw cpos (keywordEach [] X.env)).all (fun x=>x.1.isSome)
    && decide (([e,f]:List Expr).length + ([]:List Keyword).length + (if ([]:List Keyword).isEmpty then 0 else 1) < 30))=true
  line:(apos.endLine == cpos.line)=true
  trees:backTo cpos (starEach [e,f] X.env)=[(false,eval e X.env),(false,eval f X.env)]
def IsD (H:Hp) (a:Addr):Prop:=(∃ kvs,Rd H a (.dK kvs))∨∃ kvs,Rd H a (.dT kvs)
theorem isD_at {X:Cx} {pins:List (Addr×Obj)} {σ:St} {H:Hp} {s:Shared} {a:Addr} (I:Inv X pins σ H s) (d:IsD H a) :
    s.TypeIs (.ref a) "dict"∧(∀ b,Value.ref a=.ref b→∃ ob,s.heap.get? b=some ob∧ob.dict=none)∧(a == sysModules)=false:=by
  rcases d with ⟨kvs,e⟩ | ⟨kvs,e⟩
  · obtain ⟨_,hd,vs,_,dd⟩:=yhw I.hok e
    refine ⟨dd.typeIs,fun b q=>?_,hd⟩
    cases q
    obtain ⟨ob,_,_,h1,h2,_⟩:=dd
    exact ⟨ob,h1,h2.2.1⟩
  · obtain ⟨_,hd,xs,_,dd⟩:=dt_rd I.hok e
    refine ⟨dd.typeIs,fun b q=>?_,hd⟩
    cases q
    obtain ⟨ob,_,_,h1,h2,_⟩:=dd
    exact ⟨ob,h1,h2.2.1⟩
section
variable {X:Cx} {pins:List (Addr×Obj)} {σ:St} {H:Hp} {s:Shared} {a:Addr} {y d:V} {u r:Value} {o:Option V} {A:Around} {E:Value→Shared→Prop}
theorem d_get2 {Q:Value→Shared→Prop} (hu:A.units + 1 < cLine) (I:Inv X pins σ H s) (g:DGet H a y o) (ry:RelV y u) (rd:RelV d r) (h:∀ w' s',Inv X pins σ H s'→RelV (o.getD d) w'→Q w' s') :
    wpAny (model X.prog X.w) A (call (.builtin "dict.get") [.ref a,u,r]) Q E s:=by
  rcases g with ⟨kvs,k,e,ey,l⟩ | ⟨kvs,k,b,e,ey,eb,l⟩
  · subst ey
    obtain ⟨z,hd,vs,rel,dd⟩:=yhw I.hok e
    refine call_meetsIn PySem.F.slot_dict_get dd.typeIs PySem.F.entry_dict_get (PySem.F.args_dict_get_3 _ _ _) (meets_dict_get_default (qau X.prog X.w) a (qiq ry) hd r) ⟨_,dd.mapOf,h _ _ (I.tok _) ?_⟩
    rw [l]
    exact (rel.val k).getD rd
  · subst ey
    cases (show u=Value.ref b from ry)
    obtain ⟨z,hd,xs,rel,dd⟩:=dt_rd I.hok e
    refine call_meetsIn PySem.F.slot_dict_get dd.typeIs PySem.F.entry_dict_get (PySem.F.args_dict_get_3 _ _ _) (meetsH_dict_get_default (tupleKind (qau X.prog X.w)) a b hd r) ⟨tupleKind_room_in1 hu,k,xs,qh3 I.hok eb,dd,h _ _ (I.tok _) ?_⟩
    rw [l]
    exact (rel.val k).getD rd
end
def tDGet2 (td ty tx:TE):TE:=fun σ H Q=>td σ H fun x H1=>∃ a,x=.ref a∧IsD H1 a∧ty σ H1 fun y H2=>tx σ H2 fun z H3=>∃ o,DGet H3 a y o∧Q (o.getD z) H3
section
variable {X:Cx} {o e f:Expr} {apos cpos:Pos} {td ty tx:TE}
theorem pe_dget2 (hu:X.A.units + 1 < cLine) (ho:PE X o td) (he:PE X e ty) (hf:PE X f tx) (m:M2 X o "get" apos e f cpos):PE X (.Call (.Attribute o "get" apos) [e,f] [] cpos) (tDGet2 td ty tx):=by
  intro pins s σ H Q I h
  refine wpAny_Call_method m.base m.few m.line PySem.F.plainAttrs_dict PySem.F.slot_dict_get PySem.F.type_dict_get (thn (ho pins s σ H _ I h) fun u s1 ⟨x,H1,I1,rx,a,ex,d,q1⟩=>?_)
  subst ex
  obtain rfl:u=Value.ref a:=rx
  obtain ⟨t1,t2,_⟩:=isD_at I1 d
  refine ⟨t1,t2,?_⟩
  rw [m.trees]
  refine Calls.callWith_builtin rfl (Calls.evalArgs_plain (Calls.spliced_cons (thn (he pins s1 σ H1 _ I1 q1) fun iv s2 ⟨y,H2,I2,ry,q2⟩=>
    Calls.spliced_cons (thn (hf pins s2 σ H2 _ I2 q2) fun fv s3 ⟨z,H3,I3,rz,ov,g,q3⟩=>Calls.spliced_nil ?_))))
  exact d_get2 hu I3 g ry rz fun w' s4 I4 rw'=>⟨_,H3,I4,rw',q3⟩
end
end L2
set_option Elab.async false
set_option linter.all false
set_option maxRecDepth 100000
namespace Mx
open PySem L2 PyProof.Rows
structure QE (X:Cx) (e:Expr) (t:TE):Prop where
  of:PE X e t
structure QPs (X:Cx) (pos:Pos) (keys:List (Option Expr)) (values:List Expr) (trs:List (TE×TE)):Prop where
  of:PPs X pos keys values trs
section
variable {X:Cx} {e o i:Expr} {te td ty:TE} {pos:Pos}
theorem qab (h:PE X e te):QE X e te:=⟨h⟩
theorem qhx:QPs X pos [] [] []:=⟨pps_nil⟩
theorem qbs {k v:Expr} {ks:List (Option Expr)} {vs:List Expr} {tk tv:TE} {trs:List (TE×TE)} (hk:QE X k tk) (hv:QE X v tv) (hr:QPs X pos ks vs trs):QPs X pos (some k :: ks) (v :: vs) ((tk,tv) :: trs):=⟨pps_cons hk.of hv.of hr.of⟩
theorem qib {keys:List (Option Expr)} {values:List Expr} {trs:List (TE×TE)} (h:QPs X pos keys values trs) (hall:keys.all (·.isSome)=true) (hl:keys.length=values.length) (h0:keys≠[]) (h15:keys.length≤15):QE X (.Dict keys values pos) (tDisp trs):=⟨pe_disp h.of hall hl h0 h15⟩
theorem qam {i:Nat} {x:Str} {pos':Pos} (hN:X.N.Nodup) (hi:X.N[i]?=some x) (hx:Loc X.env.scope x) (he:QE X e te) (hs:swapsWith e (some (.Name x pos')) pos.line X.env=pure false:=by rfl) (hf:X.fn x=true∨X.env.scope.names.lookup x=some .local:=by first | exact .inl rfl | exact .inr rfl | assumption) :
    QS X (.Assign [.Name x pos'] e pos) (tAsg te (yex i)):=⟨ybt hN hi hx he.of hs hf⟩
theorem yai (he:QE X e te):QS X (.Return (some e) pos) (tRet te):=⟨qa9 he.of⟩
structure QT (X:Cx) (e:Expr) (t:TT):Prop where
  of:PT X e t
theorem qt_of {t:TT} (h:PT X e t):QT X e t:=⟨h⟩
theorem ya5 {a b:List Stmt} {t u:TS} {c:Expr} {tc:TT} (hc:QT X c tc) (ha:QSs X a t) (hb:QSs X b u):QS X (.If c a b pos) (tIfS tc t u):=⟨yeq hc.of ha.of hb.of⟩
def tTStrs (xs:List Str):TE:=fun _ H Q=>xs.length≤sizeLine∧∀ p,H p=none→Q (.ref p) (upd H p (.tup (xs.map V.str)))
theorem qe_tstrs {es:List Expr} {k} {xs:List Str} (h:qes es=some xs):QE X (.Tuple es k pos) (tTStrs xs):=⟨by
  intro pins s σ H Q I hq
  refine yei (qgn h) pins s σ H Q I ?_
  exact ⟨by rw [List.length_map]; exact hq.1,hq.2⟩⟩
theorem qje {es:List Expr} {xs:List Str} (h:qes es=some xs):QE X (.List es pos) (tStrs xs):=⟨yi4 h⟩
theorem yat {a b:Expr} {ta tb:TE} {op:CmpOp} {r:R2} (ho:OpR X (compareOp op) r) (ha:QE X a ta) (hb:QE X b tb) (hm:behindInMarks op b=false):QT X (.Compare a [op] [b] pos) (tTest (tOp r ta tb)):=⟨qbf ho ha.of hb.of hm⟩
theorem ya7 {a b:Expr} {ta tb:TE} {r:R2} (hr:IxR X r) (ha:QE X a ta) (hb:QE X b tb) (hs:yif b):QE X (.Subscript a b pos) (tOp r ta tb):=⟨qbt hr ha.of hb.of hs⟩
structure QA (X:Cx) (es:List Expr) (t:TA):Prop where
  of:PA X es t
theorem yad:QA X [] tNil:=⟨qac⟩
theorem qfg {es:List Expr} {t:TA} (ha:QE X e te) (hr:QA X es t) (hs:starEach (e :: es) X.env=(false,eval e X.env) :: starEach es X.env:=by rfl):QA X (e :: es) (qbx te t):=⟨yaa ha.of hr.of hs⟩
theorem qav {es:List Expr} {t:TA} (h:QA X es t):QE X (.List es pos) (tLst t):=⟨ybz h.of⟩
theorem ybk {es:List Expr} {k} {t:TA} (h:QA X es t):QE X (.Tuple es k pos) (tTup t):=⟨yei h.of⟩
end
end Mx
set_option Elab.async false
set_option linter.all false
set_option maxRecDepth 100000
namespace Mx
open PySem L2 PyProof.Rows
section
variable {X:Cx} {e a b c:Expr} {es:List Expr} {te ta tb:TE} {t:TA} {tA tB':TT} {pos p:Pos} {x:Str} {rest:List Expr}
theorem qao {k:Const} {j} (ha:QE X (.Constant k j pos) te) (hr:QA X es t):QA X (.Constant k j pos :: es) (qbx te t):=⟨pa_cs ha.of hr.of⟩
theorem yal {x:Str} (ha:QE X (.Name x pos) te) (hr:QA X es t):QA X (.Name x pos :: es) (qbx te t):=⟨pa_nm ha.of hr.of⟩
theorem yga {f xs ks} (ha:QE X (.Call f xs ks pos) te) (hr:QA X es t):QA X (.Call f xs ks pos :: es) (qbx te t):=⟨qdl ha.of hr.of⟩
theorem qcb {o i:Expr} (ha:QE X (.Subscript o i pos) te) (hr:QA X es t):QA X (.Subscript o i pos :: es) (qbx te t):=⟨yaa ha.of hr.of rfl⟩
theorem yfa {o i:Expr} {op} (ha:QE X (.BinOp o op i pos) te) (hr:QA X es t):QA X (.BinOp o op i pos :: es) (qbx te t):=⟨yaa ha.of hr.of rfl⟩
theorem qeo {xs k} (ha:QE X (.Tuple xs k pos) te) (hr:QA X es t):QA X (.Tuple xs k pos :: es) (qbx te t):=⟨yaa ha.of hr.of rfl⟩
theorem qek {xs} (ha:QE X (.List xs pos) te) (hr:QA X es t):QA X (.List xs pos :: es) (qbx te t):=⟨yaa ha.of hr.of rfl⟩
theorem qa_cp {l o r} (ha:QE X (.Compare l o r pos) te) (hr:QA X es t):QA X (.Compare l o r pos :: es) (qbx te t):=⟨yaa ha.of hr.of rfl⟩
theorem ybg {op:Operator} {r:R2} (ho:OpR X (binaryOp op) r) (ha:QE X a ta) (hb:QE X b tb):QE X (.BinOp a op b pos) (tOp r ta tb):=⟨ya9 ho ha.of hb.of⟩
theorem qe_cmpR {op:CmpOp} {r:R2} (ho:OpR X (compareOp op) r) (ha:QE X a ta) (hb:QE X b tb) (hm:behindInMarks op b=false):QE X (.Compare a [op] [b] pos) (tOp r ta tb):=⟨yaz ho ha.of hb.of hm⟩
theorem qe_mid (h:QE X e te):QE X e (tMid te):=⟨pe_mid h.of⟩
structure QW (X:Cx) (e:Expr) (t:TT):Prop where
  of:PW X e t
theorem qgy (ha:QT X a tA):QW X (.BoolOp .And [a] pos) tA:=⟨qis ha.of⟩
theorem qeb (ha:QT X a tA):QW X (.BoolOp .Or [a] pos) tA:=⟨qge ha.of⟩
theorem yig (ha:QT X a tA) (hb:QW X (.BoolOp .And (b :: rest) pos) tB'):QW X (.BoolOp .And (a :: b :: rest) pos) (tAnd tA tB'):=⟨pw_and ha.of hb.of⟩
theorem yfr (ha:QT X a tA) (hb:QW X (.BoolOp .Or (b :: rest) pos) tB'):QW X (.BoolOp .Or (a :: b :: rest) pos) (tOr tA tB'):=⟨yie ha.of hb.of⟩
theorem QW.pt (h:QW X e tA):QT X e tA:=⟨h.of.pt⟩
theorem qe3 (ha:QT X a tA):QT X (.UnaryOp .Not a pos) (tNot tA):=⟨qdc ha.of⟩
theorem yct {f xs ks} (h:QE X (.Call f xs ks pos) te):QT X (.Call f xs ks pos) (tB te):=⟨qco h.of⟩
theorem qt_valN {y:Str} (h:QE X (.Name y pos) te):QT X (.Name y pos) (tB te):=⟨qco h.of⟩
variable {id T:String} {r:List V→Hp→VK→Prop}
theorem qar (hc:ycc X (.builtin id) r) (hg:Gl X x) (hm:X.mg x=none) (hv:bootBuiltins x=some (.builtin id)) (ha:QA X (e :: es) t) (hn:x≠"__name__":=by decide) (hdb:(x == ("__debug__" : Str))=false:=by decide)
    (he:starEach (e :: es) X.env=(false,eval e X.env) :: starEach es X.env:=by rfl) (hpl:(backTo pos (starEach es X.env)).any (·.1)=false:=by rfl):QE X (.Call (.Name x p) (e :: es) [] pos) (tCB r t):=⟨qae hc hg hm hv ha.of hn hdb he hpl⟩
theorem qcc (hc:ycc X (.type T) r) (hg:Gl X x) (hm:X.mg x=none) (hv:bootBuiltins x=some (.type T)) (ha:QA X (e :: es) t) (hn:x≠"__name__":=by decide) (hdb:(x == ("__debug__" : Str))=false:=by decide)
    (he:starEach (e :: es) X.env=(false,eval e X.env) :: starEach es X.env:=by rfl) (hpl:(backTo pos (starEach es X.env)).any (·.1)=false:=by rfl):QE X (.Call (.Name x p) (e :: es) [] pos) (tCB r t):=⟨ybj hc hg hm hv ha.of hn hdb he hpl⟩
theorem qaq {k m:Nat} {ps:List Str} {sp:Sp} (h:Has X.prog X.w X.K X.mg X.base k x ps sp) (hr:Room m X.A) (ha:QA X (e :: es) t) (hk:k≤m:=by decide) (hg:Gl X x:=by rfl)
    (hdb:(x == ("__debug__" : Str))=false:=by decide) (he:starEach (e :: es) X.env=(false,eval e X.env) :: starEach es X.env:=by rfl) (hpl:(backTo pos (starEach es X.env)).any (·.1)=false:=by rfl):QE X (.Call (.Name x p) (e :: es) [] pos) (yhh sp [] E0 t):=⟨yaj h hr ha.of hk hg hdb he hpl⟩
structure QI (X:Cx) (tg iter:Expr) (wi:TI):Prop where
  of:PI X tg iter wi
theorem yhm {tg iter:Expr} {wi:TI} (h:PI X tg iter wi):QI X tg iter wi:=⟨h⟩
theorem ygk {tg l:Expr} {tl:TE} (h:QE X l tl):QI X tg l (iList X.K tl):=⟨qch h.of⟩
theorem ydf {tg iter:Expr} {body:List Stmt} {wi:TI} {g:TG} {tb:TS} (hp:PassesOwn (model X.prog X.w) X.A X.env X.xe) (hc:X.calm=true) (hi:QI X tg iter wi) (hg:PG X tg g) (hb:QSs X body tb) (hs:∀ x,foldedSetIterable iter X.env x=pure x:=by intro _; rfl):QS X (.For tg iter body [] pos) (tFor wi g tb):=⟨qf1 hp hc hi.of hg hb.of hs⟩
theorem qfc (he:QE X e te) (hs:swapsWith e none pos.line X.env=pure false:=by rfl):QS X (.Expr e pos) (tDrop te):=⟨qc5 he.of hs⟩
theorem qs_asg {tg:Expr} {g:TG} (he:QE X e te) (hg:PG X tg g) (hs:swapsWithSole [tg] e pos.line X.env=pure false:=by rfl) (hw:swappedStores [tg] e X.env=pure none:=by rfl) (h1:(assignEach [tg] X.env).map (·.2)=[assign tg X.env]:=by rfl):QS X (.Assign [tg] e pos) (tAsg te g):=⟨ps_asg he.of hg hs hw h1⟩
end
end Mx
namespace Mx
open PySem L2 PyProof.Rows
theorem qat {X:Cx} {st:Stmt} {rest ss:List Stmt} {t:TS} (h:ss=st :: rest) (p:QSs X (st :: rest) t):QSs X ss t:=h ▸ p
section
variable {P:Program} {w:World} {K:PySem.W.Frag} {mg:Str→Option Value} {base:Heap}
theorem Has.ofQ {x:Str} {st:Stmt} {ps N:List Str} {k:Nat} {sp:Sp} (F:FnAt K mg x st ps) (S:FnScope N ps (yac st)) (len:∀ vs H Q E,sp vs H Q E→vs.length=ps.length)
    (hbody:∀ (f:Addr) (cdv:Value) (A:Around) (outer:List Env) (s:Shared) (H:Hp) (vs:List V) (Q:VK) (E:XK),Room k (A.deeper (envOfC x (yac st) s.heap.objs.size f cdv))→sp vs H Q E→
      ∃ t,QSs (cxOf CX0 P w K mg base N x (yac st) f cdv A outer s H E).nox (qaj st) t∧t { nx:=fun _ H'=>Q .non H',rt:=Q } (ydk N vs) H):Has P w K mg base (k + 1) x ps sp:=
  Has.of F S len fun f cdv A outer s H vs Q E hr h=>by
    obtain ⟨t,h1,h2⟩:=hbody f cdv A outer s H vs Q E hr h
    exact ⟨t,h1.of,h2⟩
theorem Fun.okQ {x qual:Str} {st:Stmt} {f:Addr} {fd:FuncData} {N ps:List Str} {k:Nat} {sp:Sp} (F:Fun K x qual st f fd) (S:FnScope N ps (yac st)) (len:∀ vs H Q E,sp vs H Q E→vs.length=ps.length)
    (hbody:∀ (cdv:Value) (A:Around) (outer:List Env) (s:Shared) (H:Hp) (vs:List V) (Q:VK) (E:XK),Room k (A.deeper (envOfC qual (yac st) s.heap.objs.size f cdv))→sp vs H Q E→
      ∃ t,QSs (cxOf CX0 P w K mg base N qual (yac st) f cdv A outer s H E).nox (qaj st) t∧t { nx:=fun _ H'=>Q .non H',rt:=Q } (ydk N vs) H):FnOk P w K mg base CX0 (k + 1) f fd ps sp:=
  F.ok S len fun cdv A outer s H vs Q E hr h=>by
    obtain ⟨t,h1,h2⟩:=hbody cdv A outer s H vs Q E hr h
    exact ⟨t,h1.of,h2⟩
end
end Mx
set_option Elab.async false
set_option linter.all false
set_option maxRecDepth 100000
namespace Mx
open PySem L2 PyProof.Rows
section
variable {X:Cx} {e o value:Expr} {es:List Expr} {te ta tv:TE} {t:TA} {pos p apos pos':Pos} {C:Addr} {m x f:Str}
theorem qa_at {b:Expr} {g:Str} (ha:QE X (.Attribute b g pos) te) (hr:QA X es t):QA X (.Attribute b g pos :: es) (qbx te t):=⟨yaa ha.of hr.of rfl⟩
end
end Mx
set_option Elab.async false
set_option linter.all false
set_option maxRecDepth 100000
namespace L2
open PySem PySem.Spec PyProof.Rows
def qgg (n:Nat):List V:=(List.range n).map fun i:Nat=>V.int i
theorem qhj:∀ {n:Nat} {acc:Array Value},ItemsOf (fun i v=>∃ t,v=Value.int (0 + (i:Int) * 1) t) acc n→Vals (qgg n) acc.toList:=by
  intro n acc h
  have go:∀ (k:Nat) (l:List Value),(∀ (j:Nat) v,l[j]?=some v→∃ t,v=Value.int ((k + j:Nat):Int) t)→Vals ((List.range' k l.length).map fun i:Nat=>V.int i) l:=by
    intro k l
    induction l generalizing k with
    | nil=>intro _; exact .nil
    | cons v l ih=>
      intro hj
      obtain ⟨t,rfl⟩:=hj 0 v rfl
      rw [List.length_cons,List.range'_succ,List.map_cons]
      refine .cons ⟨t,by simp⟩ (ih (k + 1) fun j v hv=>?_)
      obtain ⟨t,e⟩:=hj (j + 1) v (by simpa using hv)
      exact ⟨t,by rw [e]; congr 1; omega⟩
  have:=go 0 acc.toList fun j v hv=>by
    obtain ⟨t,e⟩:=h.2 j v (by simpa using hv)
    exact ⟨t,by rw [e]; congr 1; omega⟩
  have hl:acc.toList.length=n:=by rw [Array.length_toList]; exact h.1
  rw [hl] at this
  unfold qgg
  rw [List.range_eq_range']
  exact this
section
variable {X:Cx}
def tLR (ta:TA):TE:=fun σ H Q=>ta σ H fun vs H1=>∃ n:Nat,vs=[.int (n:Int)]∧n≤1000∧∀ l,H1 l=none→Q (.ref l) (upd H1 l (.lst (qgg n)))
theorem ydv {a:Expr} {ta:TA} {p p2 pos pos2:Pos} (hh:X.A.handled=none) (hgl:Gl X "list") (hml:X.mg "list" = none) (hgr:Gl X "range") (hmr:X.mg "range" = none) (ha:PA X [a] ta)
    (hs:starEach [a] X.env=[(false,eval a X.env)]:=by rfl)
    (hs2:starEach [.Call (.Name "range" p2) [a] [] pos2] X.env=[(false,eval (.Call (.Name "range" p2) [a] [] pos2) X.env)]:=by rfl) :
    PE X (.Call (.Name "list" p) [.Call (.Name "range" p2) [a] [] pos2] [] pos) (tLR ta):=by
  intro pins s σ H Q I h
  refine Call_ (ycu I hgl hml boot_list (PyProof.Rows.callWith_type1 ?_ hs2 rfl))
  rw [hs2]
  show wpAny _ _ (spliced ((false,eval (.Call (.Name "range" p2) [a] [] pos2) X.env) :: backTo pos (starEach [] X.env))) _ _ s
  refine Calls.spliced_cons ?_
  refine Call_ (ycu I hgr hmr boot_range (PyProof.Rows.callWith_type1 (thn (ha pos2 pins s σ H _ I h) fun us s1 ⟨vs,H1,I1,r1,q1⟩=>?_) hs rfl))
  obtain ⟨n,e,hn,q⟩:=q1
  subst e
  obtain ⟨u,rfl,r⟩:=yfx r1
  obtain ⟨t,rfl⟩:=r
  refine call_range_1 ?_
  refine Calls.spliced_nil ?_
  have I2:Inv X pins σ H1 { s1 with heap:=s1.heap.push { cls:=.type "range",data:=.fields #[.int 0 s1.toks,.int n t,.int 1 (s1.toks + 1)] },toks:=s1.toks + 1 + 1 }:=I1.kept fun b o e=>Heap.get?_push_of_some _ e
  refine call_list_range (n:=n) hh (IsRange.new ..) (small_one (by omega) (by omega) (by omega) (by omega)) (by rw [rangeSize_one]; split <;> omega) (by omega) fun h' tk acc' c' kp e hi=>?_
  have r':=qhj hi
  have hl:(qgg n).length=n:=by simp [qgg]
  exact ⟨.ref _,_,I2.laid (t':=tk) kp (Nat.le_refl _) (show ya4 X.prog X.w _ h' _ (.lst (qgg n)) from ⟨by rw [hl]; exact Nat.le_trans hn (by decide),acc'.toList,c',r',by simpa using e⟩),rfl,q _ (I2.hok.fresh (Nat.le_refl _))⟩
end
end L2
set_option Elab.async false
set_option linter.all false
set_option maxRecDepth 100000
set_option maxHeartbeats 2000000
namespace L2
open PySem PySem.Spec PyProof.Rows PySem.W
structure Fly (h:Heap) (H:Hp) (a T:Addr):Prop where
  ob:∃ o vs,h.get? a=some o∧o.data=.fields vs∧vs[1]?=some (.ref T)
  ne:T≠a
  fr:H T=none
  tb:∃ oT ts,h.get? T=some oT∧oT.data=.fields ts∧ts[3]?=some .none
def CX1 (P:Program) (w:World):CXT:=fun outer H s E e s'=>∃ a T C dx H',e=.ref a∧s'.os=s.os∧AllBare s'.gens∧Un (frs outer) [] H H' s.heap s'.heap∧HOk P w H' s'.heap∧
  H' a=some (.ext (yce a C dx))∧Fly s'.heap H' a T∧E (.ref a) none H'
def Raw (h:Heap) (a:Addr):Prop:=∃ o vs,h.get? a=some o∧o.data=.fields vs∧vs[1]?=some .none
theorem setSame {ts:Array Value} {i:Nat} {v:Value} (h:ts[i]?=some v):ts.setIfInBounds i v=ts:=by
  apply Array.ext_getElem?
  intro j
  by_cases e:i=j
  · subst e
    rw [Array.getElem?_setIfInBounds_self_of_lt (Array.getElem?_eq_some_iff.mp h).1,h]
  · rw [Array.getElem?_setIfInBounds_ne e]
theorem yi6 {o:Obj} {ts:Array Value} {i:Nat} {v:Value} (hd:o.data=.fields ts) (h:ts[i]?=some v):Obj.mapFields (·.setIfInBounds i v) o=o:=by
  obtain ⟨c,d,dt,sl⟩:=o
  simp only at hd
  subst hd
  unfold Obj.mapFields
  simp only [setSame h]
theorem mapDict (f:Array Value→Array Value) (o:Obj):(Obj.mapFields f o).dict=o.dict:=by
  obtain ⟨c,d,dt,sl⟩:=o
  cases dt <;> rfl
section
variable {X:Cx} {pins:List (Addr×Obj)} {σ:St} {H:Hp} {s:Shared} {a C:Addr} {dx:Option Addr}
theorem fly_un {h1 h':Heap} {T':Addr} (I:Inv X pins σ H s) (ha:H a=some (.ext (yce a C dx))) (h1s:Heap.SlotsOnly (frs X.stack) s.heap h1) (hT:T'=h1.objs.size)
    (keep:∀ b o,b≠a→h1.get? b=some o→h'.get? b=some o) (hx:yce a C dx h'):Un (frs X.stack) [] H H s.heap h'∧HOk X.prog X.w H h'∧H T'=none∧s.heap.get? T'=none:=by
  have na:∀ b,H b=none→b≠a:=fun b n z=>by subst z; rw [ha] at n; cases n
  have hz:s.heap.objs.size=T':=by rw [hT,h1s.1]
  refine ⟨⟨fun b o e n hb _=>keep b o (na b n) ((h1s.2.1 b hb).trans e),fun b o e n hb _=>?_,fun _ _ _ n _=>n,fun b o e _=>?_,fun _ _ q=>q,fun _ _ _ q=>q,fun b ps q=>⟨#[],by rw [q]; simp⟩⟩,fun b u e=>?_,I.hok.fresh (by omega),Heap.get?_none_of_le (by omega)⟩
  · obtain ⟨sl,q⟩:=h1s.2.2 b o e
    exact ⟨sl,keep b _ (na b n) q⟩
  · by_cases hb:b=a
    · subst hb; obtain ⟨o,_,q,_⟩:=hx; exact ⟨o,q⟩
    · obtain ⟨sl,q⟩:=h1s.2.2 b o e
      exact ⟨_,keep b _ hb q⟩
  · by_cases hb:b=a
    · subst hb
      rw [ha] at e; cases e
      exact yg8 hx
    · refine (I.hok b u e).stay (fun c v hc q=>?_) (fun _ q=>q) fun _ _ q=>q
      have hcH:H c≠none:=by
        rcases hc with z | z
        · rw [z,e]; simp
        · rw [z]; simp
      have hca:c≠a:=by
        rcases hc with z | z
        · rw [z]; exact hb
        · intro z2; rw [z2,ha] at z; cases z
      exact keep c v hca ((h1s.2.1 c fun z=>hcH (I.stkFree c z)).trans q)
theorem qg5 {M:Model} {E:Value→Shared→Prop} {Q:Unit→Shared→Prop} (I:Inv X pins σ H s) (hs:X.stack=X.env :: X.outer) (hf:X.env.frame=some X.env.locals) (ha:H a=some (.ext (yce a C dx)))
    (st:Raw s.heap a∨∃ T,Fly s.heap H a T)
    (k:∀ h' T',Inv X pins σ H { s with heap:=h' }→Fly h' H a T'→s.heap.get? T'=none→Q () { s with heap:=h' }) :
    wpAny M X.A (noteFrame (.ref a) X.env) (fun _ s1=>wpAny M X.A (setFlight (.ref a) none) Q E s1) E s:=by
  have hfr:X.A.frames=some (X.env :: X.outer):=by rw [← hs]; exact I.ok.frames
  have hl:s.heap.FunFrames X.base (X.env :: X.outer):=by rw [← hs]; exact I.stack
  obtain ⟨⟨o0,vs0,e0,c0,d0,dt0⟩,_⟩:=I.hok a _ ha
  have main:∀ (h:Heap) (head:Value) (vs:Array Value) (o:Obj) (hadNext:Bool),(∀ b,h.get? b=s.heap.get? b)→h.objs.size=s.heap.objs.size→s.heap.get? a=some o→o.data=.fields vs→1 < vs.size→
      wpAny M X.A (do let x ← frameOf X.env; let pl ← entryPlaceOf X.env.locals hadNext; let b ← EntryCells.newEntry head x .none (rawInt X.env.locals) .none pl; setField (.ref a) 1 b) (fun _ s'=>wpAny M X.A (setFlight (.ref a) none) Q E s') E { s with heap:=h }:=by
    intro h head vs o hadNext hg hsz he hd hvs
    have hl':h.FunFrames X.base (X.env :: X.outer):=hl.of_keeps fun b o q _=>⟨o,(hg b).trans q,rfl⟩
    have hene:a∉(X.env :: X.outer).filterMap (·.frame):=fun hm=>by
      have:=I.stkFree a (by rw [hs]; exact hm)
      rw [ha] at this; cases this
    refine wpAny_bind (wpAny_frameOf_fun (s:={ s with heap:=h }) hfr hl' hf fun h₁ hs₁=>?_)
    have hs₁':Heap.SlotsOnly (frs X.stack) s.heap h₁:=by
      rw [hs]
      exact ⟨hs₁.1.trans hsz,fun b hb=>(hs₁.2.1 b hb).trans (hg b),fun b o q=>hs₁.2.2 b o ((hg b).trans q)⟩
    refine wpAny_bind (wpAny_entryPlaceOf fun pl hpl=>?_)
    unfold EntryCells.newEntry newFields
    refine wpAny_bind (wpAny_newObj_type ?_ (hpl.sizeOk5 _ _ _ _ _))
    have he₁:h₁.get? a=some o:=(hs₁.2.1 a hene).trans ((hg a).trans he)
    have he₂:=Heap.get?_push_of_some (h:=h₁) { cls:=.type "traceback",dict:=none,data:=.fields ([head,.ref X.env.locals,.none,rawInt X.env.locals,.none]++(if pl.isEmpty then List.replicate 6 Value.none else pl)).toArray } he₁
    refine wpAny_setField he₂ hd hvs ?_
    have hTe:h₁.objs.size≠a:=Nat.ne_of_gt (Heap.lt_size he₁)
    have hd₃:=Obj.data_mapFields hd (·.setIfInBounds 1 (Value.ref h₁.objs.size))
    have he₃:=Heap.get?_update_self (Obj.mapFields (·.setIfInBounds 1 (Value.ref h₁.objs.size))) he₂ (Obj.isFreed_of_fields hd₃)
    have hT₃:=(Heap.get?_update_other (h₁.push { cls:=.type "traceback",dict:=none,data:=.fields ([head,.ref X.env.locals,.none,rawInt X.env.locals,.none]++(if pl.isEmpty then List.replicate 6 Value.none else pl)).toArray })
      (Obj.mapFields (·.setIfInBounds 1 (Value.ref h₁.objs.size))) (Ne.symm hTe)).trans (Heap.get?_push_size h₁ rfl)
    unfold setFlight
    refine wpAny_bind (wpAny_field he₃ hd₃ (x:=.ref h₁.objs.size) (by simp [hvs]) ?_)
    rw [if_pos (show (Value.ref h₁.objs.size != Value.none)=true from by simp)]
    refine wpAny_setField hT₃ rfl (by simp only [List.size_toArray,List.length_append,List.length_cons,List.length_nil] <;> omega) ?_
    have keep:∀ b ob,b≠a→h₁.get? b=some ob→
        (((h₁.push { cls:=.type "traceback",dict:=none,data:=.fields ([head,.ref X.env.locals,.none,rawInt X.env.locals,.none]++(if pl.isEmpty then List.replicate 6 Value.none else pl)).toArray }).update a (Obj.mapFields (·.setIfInBounds 1 (Value.ref h₁.objs.size)))).update h₁.objs.size
          (Obj.mapFields (·.setIfInBounds 3 ((none:Option Addr).elim Value.none fun f=>rawInt f)))).get? b=some ob:=fun b ob hbe hb=>by
      have hbT:h₁.objs.size≠b:=Nat.ne_of_gt (Heap.lt_size hb)
      rw [Heap.get?_update_other _ _ hbT,Heap.get?_update_other _ _ (Ne.symm hbe)]
      exact Heap.get?_push_of_some _ hb
    have hea:=he₃
    have hT4:=Heap.get?_update_self (Obj.mapFields (·.setIfInBounds 3 ((none:Option Addr).elim Value.none fun f=>rawInt f))) hT₃ (Obj.isFreed_of_fields (Obj.data_mapFields rfl _))
    rw [← Heap.get?_update_other _ (Obj.mapFields (·.setIfInBounds 3 ((none:Option Addr).elim Value.none fun f=>rawInt f))) hTe] at hea
    revert keep hea hT4
    generalize ((h₁.push { cls:=.type "traceback",dict:=none,data:=.fields ([head,.ref X.env.locals,.none,rawInt X.env.locals,.none]++(if pl.isEmpty then List.replicate 6 Value.none else pl)).toArray }).update a (Obj.mapFields (·.setIfInBounds 1 (Value.ref h₁.objs.size)))).update h₁.objs.size
          (Obj.mapFields (·.setIfInBounds 3 ((none:Option Addr).elim Value.none fun f=>rawInt f)))=h'
    intro keep hea hT4
    rw [he] at e0; cases e0
    have hx:yce a C dx h':=⟨_,_,hea,(Obj.cls_mapFields _ _).trans c0,(mapDict _ _).trans d0,hd₃⟩
    obtain ⟨un,ho,fr,nw⟩:=fly_un (T':=h₁.objs.size) I ha hs₁' rfl keep hx
    refine k h' h₁.objs.size (I.call' (s':={ s with heap:=h' }) (ch:=[]) rfl un ho I.bare fun b z=>absurd z (by simp)) ⟨⟨_,_,hea,hd₃,by simp [hvs]⟩,hTe,fr,⟨_,_,hT4,Obj.data_mapFields rfl _,?_⟩⟩ nw
    first | (simp; done) | (rcases hpl with rfl | ⟨_,_,_,_,_,_,_,rfl⟩ <;> simp)
  rcases st with ⟨o,vs,he,hd,h1⟩ | ⟨T,⟨⟨o,vs,he,hd,h1⟩,hTa,hTn,oT,ts,hT,hdT,h3⟩⟩
  · unfold noteFrame
    simp only [hf]
    refine wpAny_bind (wpAny_field he hd h1 ?_)
    rw [if_neg (by decide)]
    exact main s.heap _ vs o _ (fun _=>rfl) rfl he hd (Array.getElem?_eq_some_iff.mp h1).1
  · unfold noteFrame
    simp only [hf]
    refine wpAny_bind (wpAny_field he hd h1 ?_)
    rw [if_pos (show (Value.ref T != Value.none)=true from by simp)]
    refine wpAny_bind (wpAny_field hT hdT h3 ?_)
    rw [if_neg (show ¬ ((Value.none == rawInt X.env.locals)=true) from by simp [rawInt])]
    refine wpAny_bind (wpAny_setField hT hdT (Array.getElem?_eq_some_iff.mp h3).1 ?_)
    refine main (s.heap.update T (Obj.mapFields (·.setIfInBounds 3 Value.none))) _ vs o _ (fun b=>?_) (Heap.size_after_update ..) he hd (Array.getElem?_eq_some_iff.mp h1).1
    by_cases hb:b=T
    · subst hb
      rw [hT]
      have:=Heap.get?_update_self (Obj.mapFields (·.setIfInBounds 3 Value.none)) hT (Obj.isFreed_of_fields (Obj.data_mapFields hdT _))
      rw [yi6 hdT h3] at this
      exact this
    · exact Heap.get?_update_other _ _ (Ne.symm hb)
end
end L2
set_option Elab.async false
set_option linter.all false
set_option maxRecDepth 100000
set_option maxHeartbeats 2000000
namespace L2
open PySem PySem.Spec PyProof.Rows PySem.W
section
variable {X:Cx} {pins:List (Addr×Obj)} {σ:St} {H:Hp} {s:Shared} {a C:Addr} {dx:Option Addr}
theorem Inv.xq (I:Inv X pins σ H s) (ha:H a=some (.ext (qb8 a C dx))):Inv X pins σ (upd H a (.ext (yce a C dx))) s:=by
  have o:=(I.hok a _ ha)
  have w:=I.write (x:=a) (e:=a) (o:=.ext (yce a C dx)) (h':=s.heap) (t':=s.toks) (by rw [ha]; exact True.intro) (.inl rfl) (fun _ _ _ e=>e) o.2.1 (yg8 o.1.q)
  exact w
theorem raw_of {P:Program} {w:World} {h:Heap} (ok:HOk P w H h) (ha:H a=some (.ext (qb8 a C dx))):Raw h a:=by
  obtain ⟨⟨o,vs,e,_,_,dt,r⟩,_⟩:=ok a _ ha
  exact ⟨o,vs,e,dt,r⟩
end
section
variable {P:Program} {w:World} {K:PySem.W.Frag} {mg:Str→Option Value} {base:Heap} {N:List Str} {qual:Str} {scope:Scope} {f:Addr} {cd:Value} {A:Around} {outer:List Env} {s0:Shared} {H0:Hp} {E:XK}
abbrev cxX (P:Program) (w:World) (K:PySem.W.Frag) (mg:Str→Option Value) (base:Heap) (N:List Str) (qual:Str) (scope:Scope) (f:Addr) (cd:Value) (A:Around) (outer:List Env) (s0:Shared) (H0:Hp) (E:XK):Cx:=
  cxOf (CX1 P w) P w K mg base N qual scope f cd A outer s0 H0 E
theorem yhf {pins:List (Addr×Obj)} {σ:St} {H:Hp} {s:Shared} {a C:Addr} {dx:Option Addr} (I:Inv (cxX P w K mg base N qual scope f cd A outer s0 H0 E) pins σ H s) (ha:H a=some (.ext (yce a C dx))) (st:Raw s.heap a∨∃ T,Fly s.heap H a T)
    (hE:E (.ref a) none H):(cxX P w K mg base N qual scope f cd A outer s0 H0 E).xe (.ref a) s:=by
  show wpAny _ _ (leaving _ _) _ _ _
  unfold leaving
  exact wpAny_bind (qg5 (X:=cxX P w K mg base N qual scope f cd A outer s0 H0 E) I rfl rfl ha st fun h' T' I' fl _=>⟨a,T',C,dx,H,rfl,I'.os,I'.bare,I'.base,I'.hok,ha,fl,hE⟩)
theorem passX:yf6 (CX1 P w) (cxX P w K mg base N qual scope f cd A outer s0 H0 E) E:=by
  intro pins σ H s e s' I h
  obtain ⟨a,T,C,dx,H',rfl,ho,hb,un,hok,ha,fl,hE⟩:=h
  exact yhf (I.call' (ch:=[]) ho un hok hb fun b z=>absurd z (by simp)) ha (.inr ⟨T,fl⟩) hE
theorem ygz:PassesOwn (model P w) (cxX P w K mg base N qual scope f cd A outer s0 H0 E).A (cxX P w K mg base N qual scope f cd A outer s0 H0 E).env (cxX P w K mg base N qual scope f cd A outer s0 H0 E).xe:=PassesOwn.leaving
def tRaise (K:PySem.W.Frag) (E:XK) (te:TE):TS:=fun _ σ H=>te σ H fun v H1=>∃ a C dx,v=.ref a∧XTy K C∧H1 a=some (.ext (qb8 a C dx))∧E (.ref a) none (upd H1 a (.ext (yce a C dx)))
theorem qh1 {M:Model} {A:Around} {E:Value→Shared→Prop} {env:Env} {s:Shared} {a C:Addr} {o:Obj} {vs:Array Value} {Q:Flow→Shared→Prop} (X:K.In s.heap) (cx:qde K C=true) (hh:A.handled=none) (hx:s.heap.get? a=some o) (hc:o.cls=.ref C) (hd:o.data=.fields vs) (h1:vs[1]?=some .none)
    {x:Sem Value} {s₀:Shared} (hE:E (.ref a) s) (h:∀ {R:Value→Shared→Prop},R (.ref a) s→wpAny M A x R E s₀):wpAny M A (raiseStmt env (some x) none) Q E s₀:=by
  obtain ⟨nm,qn,N,bs,bm,sn,sub,ab,col,dd,k0,k1,k2,k3,k5,cC,T⟩:=yc5 X cx
  have hob:(Value.ref C :: bm).contains (.type "BaseException")=true:=by rw [List.contains_cons,T.hasType PySem.F.excBase_ValueError.hasBase]; rfl
  unfold raiseStmt
  refine wpAny_bind (h ?_)
  obtain ⟨hp,g,d,tk,os⟩:=s
  have cC:hp.get? C=_:=cC
  have hx:hp.get? a=some o:=hx
  have hnt:(match o.data with | .cls _=>true | _=>false)=false:=by rw [hd]
  unfold excFromValue isExcClass isInstance
  repeat (first | (with_reducible refine wpAny_loadPart_at hx ?_; first | rw [hc] | (dsimp only; rw [hd])) | (with_reducible refine wpAny_loadPart_at cC ?_) | (with_reducible refine wpAny_isSubtype_exc cC ?_; rw [hob]) | wp_step)
  rw [hd]
  refine wpAny_pure ?_
  rw [h1]
  refine wpAny_pure ?_
  rw [if_neg (by decide)]
  exact wpAny_pure (wpAny_raiseNew_none hh hE)
theorem qfh {x:Expr} {te:TE} {pos:Pos} (he:PE (cxX P w K mg base N qual scope f cd A outer s0 H0 E) x te):PS (cxX P w K mg base N qual scope f cd A outer s0 H0 E) (.Raise (some x) none pos) (tRaise K E te):=by
  intro pins s σ H D I h
  rw [arm_exec_Raise]
  refine wpAny_bind (wpAny_standAt ?_)
  have hx:=he pins s σ H _ I h
  show wpAny _ _ (raiseStmt _ (some (do let v ← eval x _; standAt pos; pure v)) none) _ _ _
  unfold raiseStmt
  refine wpAny_bind (wpAny_bind (thn hx fun v s1 ⟨y,H1,I1,r,a,C,dx,ey,ty,ha,q⟩=>?_))
  subst ey
  obtain rfl:v=Value.ref a:=r
  refine wpAny_bind (wpAny_standAt (wpAny_pure ?_))
  obtain ⟨⟨o,vs,e1,e2,e3,e4,e5⟩,_⟩:=I1.hok a _ ha
  have lv:=yhf (I1.xq ha) qaa (.inl (raw_of I1.hok ha)) q
  have:=qh1 (A:=(cxX P w K mg base N qual scope f cd A outer s0 H0 E).A) (env:=(cxX P w K mg base N qual scope f cd A outer s0 H0 E).env) (M:=model P w) (Q:=SP (cxX P w K mg base N qual scope f cd A outer s0 H0 E) pins D) (x:=pure (.ref a)) (s₀:=s1) I1.kIn ty.cx (I1.ok.hd rfl) e1 e2 e4 e5 lv (fun {R} hR=>wpAny_pure hR)
  unfold raiseStmt at this
  exact this
end
def HasX (P:Program) (w:World) (K:PySem.W.Frag) (mg:Str→Option Value) (base:Heap) (k:Nat) (x:Str) (ps:List Str) (sp:Sp):Prop:=
  ∃ f fd,mg x=some (.ref f)∧PySem.W.keepIn K (.ref f)=true∧yde K fd ps []∧FnOk P w K mg base (CX1 P w) k f fd ps sp
section
variable {P:Program} {w:World} {K:PySem.W.Frag} {mg:Str→Option Value} {base:Heap}
theorem FnOk.ofX {x qual:Str} {st:Stmt} {f:Addr} {fd:FuncData} {N ps:List Str} {k:Nat} {sp:Sp} (F:Fun K x qual st f fd) (S:FnScope N ps (yac st)) (len:∀ vs H Q E,sp vs H Q E→vs.length=ps.length)
    (hbody:∀ (cdv:Value) (A:Around) (outer:List Env) (s:Shared) (H:Hp) (vs:List V) (Q:VK) (E:XK),Room k (A.deeper (envOfC qual (yac st) s.heap.objs.size f cdv))→sp vs H Q E→
      ∃ t,Mx.QSs (cxX P w K mg base N qual (yac st) f cdv A outer s H E) (qaj st) t∧t { nx:=fun _ H'=>Q .non H',rt:=Q } (ydk N vs) H):FnOk P w K mg base (CX1 P w) (k + 1) f fd ps sp:=by
  obtain ⟨oc,od,kV,doc,pm,an,cdv,ct,osl,rfl,lk,hcd⟩:=F.ex
  refine fn_of lk hcd S len fun A outer s H vs Q E hr hsp=>?_
  obtain ⟨t,h,q⟩:=hbody cdv A outer s H vs Q E hr hsp
  exact ⟨t,h.of,q⟩
theorem HasX.of {x:Str} {st:Stmt} {ps N:List Str} {k:Nat} {sp:Sp} (F:FnAt K mg x st ps) (S:FnScope N ps (yac st)) (len:∀ vs H Q E,sp vs H Q E→vs.length=ps.length)
    (hbody:∀ (f:Addr) (cdv:Value) (A:Around) (outer:List Env) (s:Shared) (H:Hp) (vs:List V) (Q:VK) (E:XK),Room k (A.deeper (envOfC x (yac st) s.heap.objs.size f cdv))→sp vs H Q E→
      ∃ t,Mx.QSs (cxX P w K mg base N x (yac st) f cdv A outer s H E) (qaj st) t∧t { nx:=fun _ H'=>Q .non H',rt:=Q } (ydk N vs) H):HasX P w K mg base (k + 1) x ps sp:=by
  obtain ⟨f,fd,h1,h2,h3⟩:=F
  exact ⟨f,fd,h1,h2.kp,h3,FnOk.ofX h2 S len fun cdv A outer s H vs Q E hr h=>hbody f cdv A outer s H vs Q E hr h⟩
end
section
variable {X:Cx} {e o:Expr} {es:List Expr} {ta:TE} {t:TA} {p pos apos:Pos} {x m:Str} {C:Addr} {E:XK}
theorem yd5 {k n:Nat} {ps:List Str} {sp:Sp} (h:HasX X.prog X.w X.K X.mg X.base k x ps sp) (hx:yf6 (CX1 X.prog X.w) X E) (hr:Room n X.A) (ha:PA X (e :: es) t) (hk:k≤n:=by decide) (hg:Gl X x:=by rfl)
    (hdb:(x == ("__debug__" : Str))=false:=by decide) (he:starEach (e :: es) X.env=(false,eval e X.env) :: starEach es X.env:=by rfl) (hpl:(backTo pos (starEach es X.env)).any (·.1)=false:=by rfl) :
    PE X (.Call (.Name x p) (e :: es) [] pos) (yhh sp [] E t):=by
  obtain ⟨f,fd,h1,h2,h3,h4⟩:=h
  exact qjg h4 (hr.mono hk) hg h1 h2 h3 .nil hx ha hdb he hpl
end
end L2
set_option Elab.async false
set_option linter.all false
set_option maxRecDepth 100000
set_option maxHeartbeats 2000000
namespace L2
open PySem PySem.Spec PyProof.Rows PySem.W
abbrev Cx.sui (X:Cx) (e:Value):Cx:={ X with A:=X.A.mark (some e),calm:=false }
section
variable {X:Cx} {pins:List (Addr×Obj)} {σ:St} {H:Hp} {s:Shared} {v:Value}
theorem Cx.Ok.sui (ok:X.Ok) (v:Value):(X.sui v).Ok:=
  ⟨ok.mod,ok.kind,ok.glob,ok.blt,ok.above,ok.inj,ok.has,ok.cab,(fun h=>nomatch h),ok.frames,ok.stk,ok.exf,ok.bs,ok.bsz,ok.noex,ok.exfs,ok.funs,ok.frf⟩
theorem Inv.sui (I:Inv X pins σ H s) (v:Value):Inv (X.sui v) pins σ H s:=⟨I.ok.sui v,I.os,I.bare,I.base,I.loc,I.cell,I.free,I.freeC,I.pin,I.hok,I.len⟩
theorem Inv.unsui (ok:X.Ok) (I:Inv (X.sui v) pins σ H s):Inv X pins σ H s:=⟨ok,I.os,I.bare,I.base,I.loc,I.cell,I.free,I.freeC,I.pin,I.hok,I.len⟩
theorem goes_ok {M:Model} {A:Around} {E:Value→Shared→Prop} {i:Nat} {x:Str} {pos:Pos} {Q:Unit→Shared→Prop} (I:Inv X pins σ H s) (hN:X.N.Nodup) (hi:X.N[i]?=some x) (hk:X.env.scope.names.lookup x=some .local)
    (h:∀ s',Inv X pins (σ.set i none) H s'→Q () s'):wpAny M A (do bindName X.env x .none; unbindBehindTheSuite X.env x pos) Q E s:=by
  obtain ⟨m,hn,hl⟩:=id I.loc
  have hcls:(X.env.scope.kind == .class || (X.env.scope.kind == .module && X.env.locals != X.env.globals))=false:=by rw [I.ok.kind]; rfl
  have cne:=I.cne
  refine wpAny_nameGoes_keeps hk hn hcls fun h' v hn' hs=>?_
  obtain ⟨oL,_,_,hoL,_⟩:=id hn
  have tracked:HOk X.prog X.w H h':=fun b ob e=>by
    refine (I.hok b ob e).stay (fun c w' hc q=>(hs.2 c ?_).trans q) (fun _ q=>q) fun _ _ q=>q
    rintro rfl
    rcases hc with rfl | hc
    · rw [I.free] at e; cases e
    · rw [I.free] at hc; cases hc
  refine h _ ⟨I.ok,I.os,I.bare,⟨fun b o e n hb hx=>?_,fun b o e n hb hx=>?_,I.base.free,fun b o e hx=>?_,I.base.tups,I.base.frzs,I.base.tbls⟩,⟨_,hn',fun j y v' e1 e2 e3=>?_⟩,fun y c e=>?_,I.free,I.freeC,fun p hp=>?_,tracked,by simpa using I.len⟩
  · exact (hs.2 b (Nat.ne_of_lt (Nat.lt_of_lt_of_le (Heap.lt_size e) I.ok.above))).trans (I.base.keep b o e n hb hx)
  · obtain ⟨sl,e1⟩:=I.base.slot b o e n hb hx
    exact ⟨sl,(hs.2 b (Nat.ne_of_lt (Nat.lt_of_lt_of_le (Heap.lt_size e) I.ok.above))).trans e1⟩
  · obtain ⟨o',e1⟩:=I.base.there b o e hx
    exact ⟨o',(hs.2 b (Nat.ne_of_lt (Nat.lt_of_lt_of_le (Heap.lt_size e) I.ok.above))).trans e1⟩
  · by_cases hj:i=j
    · subst hj
      rw [List.getElem?_set_self (by have:=(List.getElem?_eq_some_iff.mp hi).1; rw [I.len]; exact this)] at e2
      cases e2
    · rw [List.getElem?_set_ne hj] at e2
      obtain ⟨u',r',q⟩:=hl j y v' e1 e2 e3
      refine ⟨u',r',?_⟩
      rcases q with ⟨k,e⟩ | ⟨k,c,e,z⟩
      · refine .inl ⟨k,?_⟩
        have:y≠x:=fun e=>hj (qfk hN hi (e ▸ e1))
        simp [this,e]
      · exact .inr ⟨k,c,e,z.sameBut hs (cne y c e)⟩
  · obtain ⟨w',z⟩:=I.cell y c e
    exact ⟨w',z.sameBut hs (cne y c e)⟩
  · obtain ⟨e,n,ne,nf,d⟩:=I.pin p hp
    exact ⟨(hs.2 p.1 ne).trans e,n,ne,nf,d⟩
theorem qgw {M:Model} {A:Around} {E:Value→Shared→Prop} {a T:Addr} {Q:Unit→Shared→Prop} (I:Inv X pins σ H s) (fl:Fly s.heap H a T) (h:∀ s',Inv X pins σ H s'→Fly s'.heap H a T→Q () s'):wpAny M A (setFlight (.ref a) none) Q E s:=by
  obtain ⟨⟨o,vs,he,hd,h1⟩,hTa,hTn,oT,ts,hT,hdT,h3⟩:=fl
  refine wpAny_setFlight_none he hd h1 hT hdT (Array.getElem?_eq_some_iff.mp h3).1 ?_
  have same:∀ b u,s.heap.get? b=some u→(s.heap.update T (Obj.mapFields (·.setIfInBounds 3 Value.none))).get? b=some u:=fun b u e=>by
    by_cases hb:b=T
    · subst hb
      have:=Heap.get?_update_self (Obj.mapFields (·.setIfInBounds 3 Value.none)) hT (Obj.isFreed_of_fields (Obj.data_mapFields hdT _))
      rw [yi6 hdT h3] at this
      rw [hT] at e; cases e
      exact this
    · exact (Heap.get?_update_other _ _ (Ne.symm hb)).trans e
  exact h _ (I.kept (t':=s.toks) same) ⟨⟨o,vs,same _ _ he,hd,h1⟩,hTa,hTn,oT,ts,same _ _ hT,hdT,h3⟩
def XP (X:Cx) (pins:List (Addr×Obj)) (R:St→V→Hp→Prop) (e:Value) (s':Shared):Prop:=∃ a T C dx σ' H',e=.ref a∧Inv X pins σ' H' s'∧H' a=some (.ext (yce a C dx))∧Fly s'.heap H' a T∧R σ' (.ref a) H'
def PSx (X:Cx) (sts:List Stmt) (t:(St→V→Hp→Prop)→TS):Prop:=
  ∀ (pins:List (Addr×Obj)) (s:Shared) (σ:St) (H:Hp) (D:Ends) (R:St→V→Hp→Prop),Inv X pins σ H s→t R D σ H→wpAny (model X.prog X.w) X.A (execs sts X.env) (SP X pins D) (XP X pins R) s
def PEx (X:Cx) (e:Expr) (t:(V→Hp→Prop)→TE):Prop:=
  ∀ (pins:List (Addr×Obj)) (s:Shared) (σ:St) (H:Hp) (Q:VK) (R:V→Hp→Prop),Inv X pins σ H s→t R σ H Q→wpAny (model X.prog X.w) X.A (eval e X.env) (EP X pins σ Q) (XP X pins fun σ' v H'=>σ'=σ∧R v H') s
def rxE (R:V→Hp→Prop):XK:=fun e _ H'=>∃ a,e=.ref a∧R (.ref a) H'
variable {e:Expr} {es:List Expr} {p pos apos:Pos} {x m:Str} {C:Addr} {t:TA} {te ta:TE}
theorem qjb {k:Nat} {f:Addr} {fd:FuncData} {ps:List Str} {sp:Sp} {Q:VK} {R:V→Hp→Prop} {us:List Value} {vs:List V} (F:FnOk X.prog X.w X.K X.mg X.base (CX1 X.prog X.w) k f fd ps sp) (hr:Room k X.A) (hb:yde X.K fd ps [])
    (I:Inv X pins σ H s) (r:Vals vs us) (h:sp vs H Q (rxE R)):wpAny (model X.prog X.w) X.A (call (.ref f) us) (EP X pins σ Q) (XP X pins fun σ' v H'=>σ'=σ∧R v H') s:=by
  have hl:us.length=ps.length:=by rw [← r.length]; exact F.len _ _ _ _ h
  have bb:=hb s us I.kIn (by rw [List.append_nil]; exact hl)
  rw [List.append_nil] at bb
  refine wpAny_call (codeAny_mono (F.run X.A X.stack s H ⟨us,[]⟩ us vs Q (rxE R) hr I.env0 bb r h) fun r s' hq=>?_)
  cases r with
  | error e=>
    obtain ⟨a,T,C,dx,H',rfl,ho,hba,un,hok,ha,fl,a',ea,hR⟩:=hq
    cases ea
    exact ⟨a,T,C,dx,σ,H',rfl,I.call' (ch:=[]) ho un hok hba fun b z=>absurd z (by simp),ha,fl,rfl,hR⟩
  | ok fl=>
    cases fl with
    | ret u=>exact I.after hq
    | next=>exact False.elim hq
    | brk=>exact False.elim hq
    | cont=>exact False.elim hq
def tCallx (sp:Sp) (t:TA) (R:V→Hp→Prop):TE:=fun σ H Q=>t σ H fun vs H1=>sp vs H1 Q (rxE R)
theorem pex_call {k n:Nat} {ps:List Str} {sp:Sp} (hx:∀ e s,¬ X.xe e s) (h:HasX X.prog X.w X.K X.mg X.base k x ps sp) (hr:Room n X.A) (ha:PA X (e :: es) t) (hk:k≤n:=by decide) (hg:Gl X x:=by rfl)
    (hdb:(x == ("__debug__" : Str))=false:=by decide) (he:starEach (e :: es) X.env=(false,eval e X.env) :: starEach es X.env:=by rfl) (hpl:(backTo pos (starEach es X.env)).any (·.1)=false:=by rfl) :
    PEx X (.Call (.Name x p) (e :: es) [] pos) (tCallx sp t):=by
  intro pins s σ H Q R I h'
  obtain ⟨f,fd,h1,h2,h3,h4⟩:=h
  refine wpAny_Call_Name_kw (qem I hg h1 ?_ hdb)
  refine PySem.W.callWith_K (h₀:=X.base) I.ok.mod.kin h2 (wpAny_mono (ha pos pins s σ H _ I h') (fun us s1 ⟨vs,H1,I1,r,q⟩=>⟨I1.kIn,?_⟩) fun e s z=>(hx e s z).elim) he hpl
  exact qjb h4 (hr.mono hk) h3 I1 r q
def sDropx (te:(V→Hp→Prop)→TE) (R:St→V→Hp→Prop):TS:=fun D σ H=>te (R σ) σ H fun _ H1=>D.nx σ H1
theorem yhd {te:(V→Hp→Prop)→TE} (he:PEx X e te) (hs:swapsWith e none pos.line X.env=pure false:=by rfl):PSx X [.Expr e pos] (sDropx te):=by
  intro pins s σ H D R I h
  refine wpAny_execs_cons ?_
  exact wpAny_Expr_any (wpAny_mono (he pins s σ H _ (R σ) I h) (fun u s1 ⟨y,H1,I1,ry,q⟩=>wpAny_execs_nil ⟨_,_,I1,q⟩) fun e s' ⟨a,T,C,dx,σ',H',r1,r2,r3,r4,e1,r5⟩=>⟨a,T,C,dx,σ',H',r1,r2,r3,r4,by rw [e1]; exact r5⟩) I.quiet hs
def sIfx (tc:TT) (t u:(St→V→Hp→Prop)→TS) (R:St→V→Hp→Prop):TS:=fun D σ H=>tc σ H fun b H1=>if b=true then t R D σ H1 else u R D σ H1
theorem psx_if {c:Expr} {a b:List Stmt} {tc:TT} {t u:(St→V→Hp→Prop)→TS} (hx:∀ e s,¬ X.xe e s) (hc:PT X c tc) (ha:PSx X a t) (hb:PSx X b u):PSx X [.If c a b pos] (sIfx tc t u):=by
  intro pins s σ H D R I h
  refine wpAny_execs_cons ?_
  refine wpAny_If (wpAny_mono (hc pins s σ H _ I h) (fun d s1 ⟨H1,I1,q1⟩=>?_) fun e s z=>(hx e s z).elim)
  have fin:∀ (f:Flow) (s':Shared),SP X pins D f s'→(match f with | .next=>wpAny (model X.prog X.w) X.A (execs [] X.env) (SP X pins D) (XP X pins R) s' | f=>SP X pins D f s'):=fun f s' z=>by
    cases f <;> first | exact z | exact wpAny_execs_nil z
  cases d with
  | true=>exact wpAny_mono (ha pins s1 σ H1 D R I1 q1) (fun f s' z=>by cases f <;> first | exact z | exact wpAny_execs_nil z) fun _ _ z=>z
  | false=>exact wpAny_mono (hb pins s1 σ H1 D R I1 q1) (fun f s' z=>by cases f <;> first | exact z | exact wpAny_execs_nil z) fun _ _ z=>z
def sTry (K:PySem.W.Frag) (M:Addr) (iy jn:Nat) (tb:(St→V→Hp→Prop)→TS):TS:=fun D σ H=>tb (fun σ' v H'=>∃ a C fs,v=.ref a∧XAt H' a C fs∧PySem.W.exmOne K (.ref C) (.ref M)=some true∧D.nx (((σ'.set jn (some v)).set iy (some v)).set jn none) H') D σ H
theorem ps_try {body:List Stmt} {cx n y:Str} {M:Addr} {iy jn:Nat} {tb:(St→V→Hp→Prop)→TS} {p1 p2 p3 p4 p5:Pos} (hx:∀ e s,¬ X.xe e s) (hst:X.stack=X.env :: X.outer) (hfr:X.env.frame=some X.env.locals) (hb:PSx X body tb)
    (hN:X.N.Nodup) (hj:X.N[jn]?=some n) (hn:X.env.scope.names.lookup n=some .local) (hi:X.N[iy]?=some y) (hy:Loc X.env.scope y) (hne:jn≠iy) (hg:Gl X cx) (hm:X.mg cx=some (.ref M)) (hdb:(cx == ("__debug__" : Str))=false:=by decide) (hdn:(n == ("__debug__" : Str))=false:=by decide) (hcn:(n == ("__classdict__" : Str))=false:=by decide)
    (hf:X.fn y=true∨X.env.scope.names.lookup y=some .local:=by first | exact .inl rfl | exact .inr rfl | assumption)
    (hs:swapsWith (.Name n p3) (some (.Name y p2)) p4.line X.env=pure false:=by rfl) :
    PS X (.Try body [.ExceptHandler (some (.Name cx p1)) (some n) [.Assign [.Name y p2] (.Name n p3) p4] p5] [] [] pos) (sTry X.K M iy jn tb):=by
  intro pins s σ H D I h
  refine wpAny_Try_except (wpAny_mono (hb pins s σ H D _ I h) (fun f s' z=>by cases f <;> first | exact z | exact wpAny_execs_nil z) ?_)
  rintro e s1 ⟨a,T,C,dx,σ',H',rfl,I1,ha,fl,a',C',fs,ea,xa,em,q⟩
  cases ea
  refine qg5 I1 hst hfr ha (.inr ⟨T,fl⟩) fun h' T' I2 fl2 _=>?_
  have I2m:=I2.sui (.ref a)
  refine wpAny_handleBy_cons (codeAny_handlers_test ?_) (by intro q; cases q)
  refine qem (X:=X.sui (.ref a)) I2m hg hm ?_ hdb
  obtain ⟨ox,od,ia⟩:=xa.at I2
  refine (exm_one (M:=model X.prog X.w) I2.kIn ia.type em).here ?_
  refine codeAny_handlers_suite_as ?_
  refine qgw I2 fl2 fun s3 I3 fl3=>?_
  refine ye8 (i:=jn) (x:=n) (v:=.ref a) I3 hN hj (.inl hn) rfl (fun s4 I4=>?_) (.inr hn)
  have hp:=yan (ybt (X:=(X.sui (.ref a)).nox) (pos:=p4) (i:=iy) (x:=y) (pos':=p2) hN hi hy (pe_var (i:=jn) (pos:=p3) hj (.inl hn) hdn hcn) hs hf)
  refine wpAny_mono (hp pins s4 _ H' { nx:=fun σ2 H2=>σ2=((σ'.set jn (some (.ref a))).set iy (some (.ref a)))∧H2=H',rt:=fun _ _=>False } ((I4.sui (.ref a)).wish _) ⟨_,?_,rfl,rfl⟩) (fun f s5 z=>?_) fun _ _ z=>z.elim
  · rw [List.getElem?_set_self]
    have:=(List.getElem?_eq_some_iff.mp hj).1
    rw [I3.len]; exact this
  · cases f with
    | next=>
      obtain ⟨σ5,H5,I5,rfl,rfl⟩:=z
      have I6:Inv X pins _ H5 s5:=Inv.unsui I2.ok I5.unwish
      exact goes_ok I6 hN hj hn fun s7 I7=>⟨_,_,I7,q⟩
    | brk=>obtain ⟨_,_,_,z⟩:=z; exact z.elim
    | cont=>obtain ⟨_,_,_,z⟩:=z; exact z.elim
    | ret u=>obtain ⟨_,_,_,_,_,z⟩:=z; exact z.elim
end
end L2
set_option Elab.async false
set_option linter.all false
set_option maxRecDepth 100000
set_option maxHeartbeats 2000000
namespace L2
open PySem PySem.Spec PyProof.Rows PySem.W
def XInit (P:Program) (w:World) (K:PySem.W.Frag) (mg:Str→Option Value) (base:Heap) (x:Str) (C:Addr) (ps:List Str) (sp:Sp):Prop:=
  mg x=some (.ref C)∧PySem.W.keepIn K (.ref C)=true∧XOk K C∧∃ f fd,PySem.W.findIn K (.ref C) "__init__" = some (some (.ref f))∧PySem.W.isFn K (.ref f)=true∧yde K fd ps []∧FnOk P w K mg base CX0 1 f fd ps sp
def sp_x1 (C:Addr) (f:Str):Sp:=fun vs H Q _=>∃ a v,vs=[.ref a,v]∧XD H a C none []∧∀ d H',XD H' a C (some d) [(f,v)]→SetX a d none H H'→Q .non H'
theorem SetX.sm {a d:Addr} {H H1 H':Hp} {o:HO} (hn:H a=none) (e:H1=upd H a o) (x:SetX a d none H1 H'):Same H H':=by
  subst e
  intro b o hb
  refine x.kp b o (by rw [qaf (qag hb hn)]; exact hb) (qag hb hn) ?_
  rcases x.dd with z | ⟨_,z⟩
  · cases z
  · intro q
    subst q
    rw [qaf (qag hb hn),hb] at z
    cases z
section
variable {X:Cx} {e o:Expr} {es:List Expr} {t:TA} {ta:TE} {p pos apos:Pos} {x m:Str} {C:Addr}
theorem pe_xI {n:Nat} {ps:List Str} {sp:Sp} (h:XInit X.prog X.w X.K X.mg X.base x C ps sp) (hr:Room n X.A) (ha:PA X (e :: es) t) (hk:2≤n:=by decide) (hg:Gl X x:=by rfl) (hdb:(x == ("__debug__" : Str))=false:=by decide)
    (he:starEach (e :: es) X.env=(false,eval e X.env) :: starEach es X.env:=by rfl) (hpl:(backTo pos (starEach es X.env)).any (·.1)=false:=by rfl):PE X (.Call (.Name x p) (e :: es) [] pos) (tXMake C sp t):=by
  obtain ⟨h1,h2,h3,f,fd,h4,h5,h6,h7⟩:=h
  exact pe_xmake h3 h4 h5 h7 (hr.mono hk) h6 h2 hg h1 ha hdb he hpl
end
end L2
set_option Elab.async false
set_option linter.all false
set_option maxRecDepth 100000
set_option maxHeartbeats 2000000
namespace L2
open PySem PySem.Spec PyProof.Rows PySem.W
theorem raised_x {H H':Hp} {a d C:Addr} {fs:List (Str×V)} (hn:H a=none) (x:XD H' a C (some d) fs) (sx:SetX a d none (upd H a (.ext (qb8 a C none))) H') :
    H' a=some (.ext (qb8 a C (some d)))∧Same H (upd H' a (.ext (yce a C (some d))))∧XAt (upd H' a (.ext (yce a C (some d)))) a C fs:=by
  rcases x with ⟨e,_⟩ | ⟨d',e,h1,h2⟩
  · cases e
  cases e
  have nd:d≠a:=by
    rcases sx.dd with z | ⟨_,z⟩
    · cases z
    · intro q
      subst q
      rw [qaa] at z
      cases z
  refine ⟨h1,(SetX.sm hn rfl sx).at hn,.inr (.inr (.inr ⟨d,qaa,?_⟩))⟩
  rw [qaf nd]
  exact h2
theorem cut_init {xs:List V}:cutV xs none (some (-1))=xs.dropLast:=by
  unfold cutV
  rw [HT.sIx_none,List.drop_zero,Nat.sub_zero,List.dropLast_eq_take]
  congr 1
  unfold HT.sIx
  simp
  omega
end L2
set_option Elab.async false
set_option linter.all false
set_option maxRecDepth 100000
set_option maxHeartbeats 2000000
namespace L2
open PySem PySem.Spec PyProof.Rows PySem.W
section
variable {X:Cx}
def rNeNil (K:PySem.W.Frag):R2:=fun x y H Q=>∃ p q xs,x=.ref p∧y=.ref q∧SqL K H p xs∧SqL K H q []∧Q (.bl (!xs.isEmpty)) H
theorem qg6 {k:Nat} (hr:Room k X.A):OpR X (compareOp .NotEq) (rNeNil X.K):=by
  intro pins s σ H x y v u Q I rx ry h
  obtain ⟨p,q,xs,rfl,rfl,hp,hq,qq⟩:=h
  cases rx
  cases ry
  obtain ⟨its,r,pl,hz⟩:=I.list hp
  obtain ⟨its2,r2,pl2,hz2⟩:=I.list hq
  cases r2
  have hu:X.A.units < cLine:=by have:=hu_of hr; omega
  have hl:=r.length
  cases xs with
  | nil=>
    cases r
    exact SeqAt.RcNeAt.lists (e:=fun _=>true) pl.isList pl2.isList rfl hu (fun j h1=>by simp at h1) _ _ _ _ ⟨.bl _,H,I,rfl,qq⟩
  | cons a b=>exact SeqAt.RcNeAt.lists_lengths pl.isList pl2.isList (by rw [List.size_toArray,← hl]; rfl) hu _ _ _ _ ⟨.bl _,H,I,rfl,qq⟩
end
end L2
namespace Mx
open PySem L2 PyProof.Rows
section
variable {X:Cx} {o e:Expr} {es:List Expr} {te to:TE} {t:TA} {pos p2:Pos}
theorem ydm {lo hi:Option Expr} {tl th:TO} {r:V→Option Int→Option Int→Hp→VK→Prop} (hr:SlR X r) (he:QE X e te) (hl:PO X lo tl) (hu:PO X hi th):QE X (.Subscript e (.Slice lo hi none p2) pos) (tSl r te tl th):=⟨ybc hr he.of hl hu⟩
theorem qe_bm {name:Str} {apos cpos:Pos} {T id:String} {r:V→List V→Hp→VK→Prop} (pa:PlainAttrs T) (slot:Slot T name id) (hty:typeOf (.builtin id)=pure (.type "method_descriptor")) (hm:MtR X id r) (ho:QE X o to) (ha:QA X (e :: es) t)
    (hbase:attributeBase o name X.env (eval o X.env)=eval o X.env:=by rfl)
    (hfew:((backTo cpos (starEach (e :: es) X.env)).all (fun x=>!x.1) && (backToKw cpos (keywordEach [] X.env)).all (fun x=>x.1.isSome)
      && decide ((e :: es).length + ([]:List Keyword).length + (if ([]:List Keyword).isEmpty then 0 else 1) < 30))=true:=by rfl)
    (hline:(apos.endLine == cpos.line)=true:=by rfl) (hs:starEach (e :: es) X.env=(false,eval e X.env) :: starEach es X.env:=by rfl) (hplain:(backTo cpos (starEach es X.env)).any (·.1)=false:=by rfl) :
    QE X (.Call (.Attribute o name apos) (e :: es) [] cpos) (tBM X.K T r to t):=⟨yew pa slot hty hm ho.of ha.of hbase hfew hline hs hplain⟩
end
end Mx
set_option Elab.async false
set_option linter.all false
set_option maxRecDepth 100000
set_option maxHeartbeats 2000000
namespace L2
open PySem PySem.Spec PyProof.Rows PySem.W
def AtX (H:Hp) (v:V) (d:PyData):Prop:=At H v d∨(d=.dict []∧∃ a,v=.ref a∧H a=some (.dK []))
theorem AtX.same {H H':Hp} {v:V} {d:PyData} (h:AtX H v d) (s:Same H H'):AtX H' v d:=by
  rcases h with h | ⟨e,a,ea,h⟩
  · exact .inl (h.same s)
  · exact .inr ⟨e,a,ea,s _ _ h⟩
def tyD:PyData→Value
  | .none=>.type "NoneType"
  | .bool _=>.type "bool"
  | .int _=>.type "int"
  | .str _=>.type "str"
  | .list _=>.type "list"
  | .tuple _=>.type "tuple"
  | .dict _=>.type "dict"
theorem AtX.ty {K:PySem.W.Frag} {H:Hp} {v:V} {d:PyData} (h:AtX H v d):TyOf K H v (tyD d):=by
  rcases h with h | ⟨e,a,ea,h⟩
  · cases h with
    | non=>exact .non
    | bl b=>exact .bl b
    | int i=>exact .int i
    | str x=>exact .str x
    | lst e _=>exact .lst e
    | tup e _=>exact .tup e
  · subst e ea
    exact .dK h
def isTup:PyData→Bool | .tuple _=>true | _=>false
def isLst:PyData→Bool | .list _=>true | _=>false
def isStr:PyData→Bool | .str _=>true | _=>false
def isInt:PyData→Bool | .int _=>true | .bool _=>true | _=>false
def isBl:PyData→Bool | .bool _=>true | _=>false
theorem yfk {K:PySem.W.Frag} (d:PyData):PySem.W.kitOne K (tyD d) (.type "tuple")=some (isTup d):=by cases d <;> rfl
theorem ygm {K:PySem.W.Frag} (d:PyData):PySem.W.kitOne K (tyD d) (.type "list")=some (isLst d):=by cases d <;> rfl
theorem qdp {K:PySem.W.Frag} (d:PyData):PySem.W.kitOne K (tyD d) (.type "str")=some (isStr d):=by cases d <;> rfl
theorem qih {K:PySem.W.Frag} (d:PyData):PySem.W.kitOne K (tyD d) (.type "int")=some (isInt d):=by cases d <;> rfl
theorem kit_bl {K:PySem.W.Frag} (d:PyData):PySem.W.kitOne K (tyD d) (.type "bool")=some (isBl d):=by cases d <;> rfl
section
variable {X:Cx}
def rReprX:List V→Hp→VK→Prop:=fun xs H Q=>∃ x d,xs=[x]∧AtX H x d∧d.showable=true∧d.depth≤60∧d.shown.length≤sizeLine∧Q (.str d.shown) H
theorem qe1 {k:Nat} (hr:Room k X.A):ycc X (.builtin "repr") rReprX:=by
  intro pins s σ H xs us Q I r h
  obtain ⟨x,d,rfl,ha,hs,hd,hz,q⟩:=h
  rcases ha with ha | ⟨e,a,ea,ha⟩
  · exact yje hr pins s σ H [x] us Q I r ⟨x,d,rfl,ha,hs,hd,hz,q⟩
  · subst e ea
    cases r with
    | cons r rr=>
      cases rr
      cases r
      obtain ⟨_,hm,vs,kv,o,es,ep,e1,e2,e3,e4,e5,_⟩:=I.hok a _ ha
      cases kv
      have hes:es.toList=[]:=by
        revert e5
        generalize es.toList=l
        intro e5
        cases e5
        rfl
      have rd:Reads s.heap (.ref a) (.dict []) (a :: []++[]):=.dict e1 e2.1 e3 (by rw [hes]; exact .nil) (by rw [hes]; exact .nil)
      have hu:=hr.units
      refine repr_of_reads' rd hs (fun _ hmem=>?_) hr.gd (by omega) (fun _ _ z=>z) (fun h' u tk hk=>?_) hz
      · have:sysModules=a:=by simpa using hmem
        rw [this] at hm
        simp at hm
      · exact ⟨.str _,H,I.kept hk,⟨_,rfl⟩,q⟩
def FnR (X:Cx) (n:Nat) (f:Addr) (vs:List V) (H:Hp) (Q:VK) (E:XK):Prop:=∃ k fd ps sp,k≤n∧yde X.K fd ps []∧FnOk X.prog X.w X.K X.mg X.base (CX1 X.prog X.w) k f fd ps sp∧sp vs H Q E
def tCallEx (X:Cx) (n:Nat) (tf:TE) (t:TA) (R:V→Hp→Prop):TE:=fun σ H Q=>tf σ H fun x H1=>∃ f,x=.ref f∧PySem.W.keepIn X.K (.ref f)=true∧t σ H1 fun vs H2=>FnR X n f vs H2 Q (rxE R)
theorem qiy {n:Nat} {fe e:Expr} {es:List Expr} {tf:TE} {t:TA} {pos:Pos} (hx:∀ e s,¬ X.xe e s) (hr:Room n X.A) (hf:PE X fe tf) (ha:PA X (e :: es) t)
    (he:starEach (e :: es) X.env=(false,eval e X.env) :: starEach es X.env:=by rfl) (hpl:(backTo pos (starEach es X.env)).any (·.1)=false:=by rfl)
    (hc:eval (.Call fe (e :: es) [] pos) X.env=(do callWith pos (← eval fe X.env) [] (backTo pos (starEach (e :: es) X.env)) (backToKw pos (keywordEach [] X.env))):=by rfl) :
    PEx X (.Call fe (e :: es) [] pos) (tCallEx X n tf t):=by
  intro pins s σ H Q R I h'
  refine Call_ (wpAny_mono (hf pins s σ H _ I h') (fun u s1 ⟨x,H1,I1,rx,f,ex,kp,q⟩=>?_) fun e s z=>(hx e s z).elim) hc
  subst ex
  obtain rfl:u=Value.ref f:=rx
  refine PySem.W.callWith_K (h₀:=X.base) I.ok.mod.kin kp (wpAny_mono (ha pos pins s1 σ H1 _ I1 q) (fun us s2 ⟨vs,H2,I2,r,q2⟩=>⟨I2.kIn,?_⟩) fun e s z=>(hx e s z).elim) he hpl
  obtain ⟨k,fd,ps,sp,hk,hb,F,hsp⟩:=q2
  exact qjb F (hr.mono hk) hb I2 r hsp
end
end L2
set_option Elab.async false
set_option linter.all false
set_option maxRecDepth 100000
set_option maxHeartbeats 2000000
namespace L2
open PySem PySem.Spec PyProof.Rows PySem.W
theorem qd5 (r:Addr) (a b c x:Int) (t u v tx:Tok) :
    Meets (Builtin.«range.__contains__» ⟨[.ref r,.int x tx],[]⟩) (fun _ R s=>s.heap.get? r=some { cls:=.type "range",dict:=none,data:=.fields #[.int a t,.int b u,.int c v],slots:=#[] }∧R (.ok (.ret (.bool (Builtin.Range.rangePlace? a b c x).isSome))) s):=
  .of_wp fun prog w A R s h=>by obtain ⟨hp,g,d,tk,os⟩:=s; obtain ⟨hl,h⟩:=h; wp_walk; exact ⟨_,rfl,h⟩
theorem qi9 (a b x:Int):(Builtin.Range.rangePlace? a b 1 x).isSome=decide (a≤x∧x < b):=by
  unfold Builtin.Range.rangePlace?
  have h1:((x - a) % 1 == 0)=true:=by rw [beq_iff_eq]; omega
  by_cases h:a≤x∧x < b
  · rw [decide_eq_true h]; simp [h.1,h.2,h1]
  · rw [decide_eq_false h]
    by_cases h2:a≤x
    · have h3:¬ x < b:=fun z=>h ⟨h2,z⟩
      simp [h2,h3]
    · simp [h2]
end L2
set_option Elab.async false
set_option linter.all false
set_option maxRecDepth 100000
set_option maxHeartbeats 4000000
namespace L2
open PySem PyProof.Rows
def Lay (L:List Addr) (te:TE) (σ:L2.St) (d:PyData) (H:Hp):Prop:=(∀ b∈L,H b≠none)→∀ H1,Same H H1→∀ Q:VK,(∀ v H',Same H1 H'→At (yba H' L) v d→Q v H')→te σ H1 Q
def LayA (L:List Addr) (ta:TA) (σ:L2.St) (ds:List PyData) (H:Hp):Prop:=(∀ b∈L,H b≠none)→∀ H1,Same H H1→∀ Q:List V→Hp→Prop,(∀ vs H',Same H1 H'→AtAll (yba H' L) vs ds→Q vs H')→ta σ H1 Q
theorem yfe {L:List Addr} {H H1:Hp} {p:Addr} (hL:∀ b∈L,H b≠none) (s:Same H H1) (hp:H1 p=none):p∉L:=fun z=>by
  cases e:H p with
  | none=>exact hL p z e
  | some o=>rw [s _ _ e] at hp; cases hp
section
variable {K:PySem.W.Frag} {σ:L2.St} {H:Hp} {te tf:TE} {ta:TA} {d:PyData} {ds es:List PyData} {L:List Addr}
theorem qay:LayA L tNil σ [] H:=fun hL H1 s Q k=>k [] H1 (Same.refl H1) .nil
theorem yah (h:Lay L te σ d H) (r:LayA L ta σ ds H):LayA L (qbx te ta) σ (d :: ds) H:=fun hL H1 s Q k=>
  h hL H1 s _ fun v H2 s2 a2=>r hL H2 (s.trans s2) _ fun vs H3 s3 a3=>k (v :: vs) H3 (s2.trans s3) (.cons (a2.same (qa4 s3 L)) a3)
theorem yds {H0 H2:Hp} {p:Addr} {vs:List V} (hL:∀ b∈L,H0 b≠none) (s:Same H0 H2) (hp:H2 p=none) (a:AtAll (yba H2 L) vs ds):At (yba (upd H2 p (.tup vs)) L) (.ref p) (.tuple ds):=
  .tup (by rw [qbc (yfe hL s hp)]; exact qaa) (a.same (qa4 ((Same.refl H2).upd hp) L))
theorem qdo {H0 H2:Hp} {p:Addr} {vs:List V} (hL:∀ b∈L,H0 b≠none) (s:Same H0 H2) (hp:H2 p=none) (a:AtAll (yba H2 L) vs ds):At (yba (upd H2 p (.lst vs)) L) (.ref p) (.list ds):=
  .lst (by rw [qbc (yfe hL s hp)]; exact qaa) (a.same (qa4 ((Same.refl H2).upd hp) L))
theorem qbm (h:LayA L ta σ ds H) (z:ds.length≤1000:=by exact Nat.le_of_ble_eq_true rfl):Lay L (tTup ta) σ (.tuple ds) H:=fun hL H1 s Q k=>
  h hL H1 s _ fun vs H2 s2 a2=>⟨by rw [a2.length]; exact Nat.le_trans z (by decide),fun p hp=>k _ _ (s2.upd hp) (yds hL (s.trans s2) hp a2)⟩
theorem qb1 (h:LayA L ta σ ds H) (z:ds.length≤1000:=by exact Nat.le_of_ble_eq_true rfl):Lay L (tLst ta) σ (.list ds) H:=fun hL H1 s Q k=>
  h hL H1 s _ fun vs H2 s2 a2=>⟨by rw [a2.length]; exact Nat.le_trans z (by decide),fun p hp=>k _ _ (s2.upd hp) (qdo hL (s.trans s2) hp a2)⟩
theorem qdu:Lay L (tC .non) σ .none H:=fun hL H1 s Q k=>k _ H1 (Same.refl H1) .non
theorem lay_bl {b:Bool}:Lay L (tC (.bl b)) σ (.bool b) H:=fun hL H1 s Q k=>k _ H1 (Same.refl H1) (.bl b)
theorem qca {i:Int}:Lay L (tC (.int i)) σ (.int i) H:=fun hL H1 s Q k=>k _ H1 (Same.refl H1) (.int i)
theorem ycs {x:Str}:Lay L (tC (.str x)) σ (.str x) H:=fun hL H1 s Q k=>k _ H1 (Same.refl H1) (.str x)
theorem lay_neg {i:Int}:Lay L (tUn (rU fun i=>V.int (-i)) (tC (.int i))) σ (.int (-i)) H:=fun hL H1 s Q k=>⟨i,rfl,k _ H1 (Same.refl H1) (.int _)⟩
theorem lay_pow {i j:Int} (h:CPow i j):Lay L (tOp (rI CPow fun i j=>V.int (i ^ j.toNat)) (tC (.int i)) (tC (.int j))) σ (.int (i ^ j.toNat)) H:=fun hL H1 s Q k=>⟨i,j,rfl,rfl,h,k _ H1 (Same.refl H1) (.int _)⟩
theorem ya0 {i:Nat} {v:V} (hσ:σ[i]?=some (some v)) (h:At (yba H L) v d):Lay L (tVar i) σ d H:=fun hL H1 s Q k=>⟨v,hσ,k v H1 (Same.refl H1) (h.same (qa4 s L))⟩
theorem yev (h1:Lay L te σ (.list ds) H) (h2:Lay L tf σ (.list es) H) (z:ds.length + es.length≤1000):Lay L (tOp rCat te tf) σ (.list (ds++es)) H:=fun hL H1 s Q k=>
  h1 hL H1 s _ fun v H2 s2 a2=>h2 hL H2 (s.trans s2) _ fun u H3 s3 a3=>by
    obtain ⟨a,vs,rfl,ha,hw⟩:=(a2.same (qa4 s3 L)).lstEq
    obtain ⟨b,us,rfl,hb,hu⟩:=a3.lstEq
    exact ⟨a,b,vs,us,rfl,rfl,qak _ _ _ _ ha,qak _ _ _ _ hb,by rw [hw.length,hu.length]; exact Nat.le_trans z (by decide),fun p hp=>k _ _ ((s2.trans s3).upd hp) (qdo hL ((s.trans s2).trans s3) hp (hw.append hu))⟩
theorem qf2 {H:Hp} {vs:List V} {ds:List PyData} (h:AtAll H vs ds):∀ n,AtAll H (List.replicate n vs).flatten (List.replicate n ds).flatten
  | 0=>.nil
  | n + 1=>by
    rw [List.replicate_succ,List.replicate_succ,List.flatten_cons,List.flatten_cons]
    exact h.append (qf2 h n)
theorem qi4 {n:Nat} (h1:Lay L te σ (.list ds) H) (hn:n≤1000) (z:ds.length * n≤1000):Lay L (tOp rRep te (tC (.int n))) σ (.list (List.replicate n ds).flatten) H:=fun hL H1 s Q k=>
  h1 hL H1 s _ fun v H2 s2 a2=>by
    obtain ⟨a,vs,rfl,ha,hw⟩:=a2.lstEq
    refine ⟨a,n,vs,rfl,rfl,qak _ _ _ _ ha,by omega,by omega,by rw [hw.length,Int.toNat_natCast]; exact Nat.le_trans z (by decide),fun p hp=>k _ _ (s2.upd hp) ?_⟩
    rw [Int.toNat_natCast]
    exact qdo hL (s.trans s2) hp (qf2 hw n)
def LayN (t:TE) (σ:L2.St) (n:Nat):Prop:=∀ H1 (Q:VK),Q (.int n) H1→t σ H1 Q
theorem yhr {n:Nat}:LayN (tC (.int n)) σ n:=fun H1 Q k=>k
theorem lay_nv {i n:Nat} (h:σ[i]?=some (some (.int n))):LayN (tVar i) σ n:=fun H1 Q k=>⟨_,h,k⟩
theorem lay_ns {i n:Nat} (h:σ[i]?=some (some (.int n))):LayN (tOp (rI0 fun i j=>V.int (i + j)) (tVar i) (tC (.int 1))) σ (n + 1):=fun H1 Q k=>⟨_,h,_,_,rfl,rfl,k⟩
theorem qfo {t:TE} {n:Nat} (h1:Lay L te σ (.list ds) H) (hn:LayN t σ n):Lay L (tSl (rSlL K) te qdq (qhw t)) σ (.list (ds.take n)) H:=fun hL H1 s Q k=>
  h1 hL H1 s _ fun v H2 s2 a2=>hn H2 _ ⟨n,rfl,by
    obtain ⟨a,vs,rfl,ha,hw⟩:=a2.lstEq
    refine ⟨a,vs,rfl,SqL.of (qak _ _ _ _ ha),fun p hp=>k _ _ (s2.upd hp) ?_⟩
    rw [qcg]
    exact qdo hL (s.trans s2) hp (hw.take n)⟩
theorem lay_drop {t:TE} {n:Nat} (h1:Lay L te σ (.list ds) H) (hn:LayN t σ n):Lay L (tSl (rSlL K) te (qhw t) qdq) σ (.list (ds.drop n)) H:=fun hL H1 s Q k=>
  h1 hL H1 s _ fun v H2 s2 a2=>hn H2 _ ⟨n,rfl,by
    obtain ⟨a,vs,rfl,ha,hw⟩:=a2.lstEq
    refine ⟨a,vs,rfl,SqL.of (qak _ _ _ _ ha),fun p hp=>k _ _ (s2.upd hp) ?_⟩
    rw [ycy]
    exact qdo hL (s.trans s2) hp (hw.drop n)⟩
def rTupOf (K:PySem.W.Frag):List V→Hp→VK→Prop:=fun xs H Q=>∃ p ys,xs=[.ref p]∧((SqL K H p ys∧∀ l,H l=none→Q (.ref l) (upd H l (.tup ys)))∨(SqT K H p ys∧Q (.ref p) H))
theorem qil (h1:Lay L te σ (.list ds) H):Lay L (tCB (rTupOf K) (qbx te tNil)) σ (.tuple ds) H:=fun hL H1 s Q k=>
  h1 hL H1 s _ fun v H2 s2 a2=>by
    obtain ⟨a,vs,rfl,ha,hw⟩:=a2.lstEq
    exact ⟨a,vs,rfl,.inl ⟨SqL.of (qak _ _ _ _ ha),fun p hp=>k _ _ (s2.upd hp) (yds hL (s.trans s2) hp hw)⟩⟩
theorem gn {i:Nat} {v:V} {σ:L2.St} {H:Hp} {Q:L2.St→Hp→Prop} (h:Q (σ.set i (some v)) H):yex i v σ H Q:=h
theorem hid0 {H:Hp} {v:V} {d:PyData} (h:At H v d):At (yba H []) v d:=h.same fun b o e=>by rw [qbc (by simp)]; exact e
theorem lay_go {Q:VK} (h:Lay L te σ d H) (hL:∀ b∈L,H b≠none) (k:∀ v H',Same H H'→At (yba H' L) v d→Q v H'):te σ H Q:=h hL H (Same.refl H) Q k
theorem qgo {i:Nat} {rest:TS} {KK:Ends} (h:Lay [] te σ d H) (k:∀ v H',Same H H'→At H' v d→rest KK (σ.set i (some v)) H'):tSeq (tAsg te (yex i)) rest KK σ H:=
  h (fun b hb=>by cases hb) H (Same.refl H) _ fun v H' s a=>k v H' s (a.same (qak _ _))
theorem lay_ret {KK:Ends} (h:Lay [] te σ d H) (k:∀ v H',Same H H'→At H' v d→KK.rt v H'):tRet te KK σ H:=
  h (fun b hb=>by cases hb) H (Same.refl H) _ fun v H' s a=>k v H' s (a.same (qak _ _))
theorem AtAll.mem {H:Hp} {vs:List V} {ds:List PyData} {i:Int} (h:AtAll H vs ds) (h0:0≤i) (h1:i < ds.length):∃ v d,atI vs i=some v∧ds[i.toNat]?=some d∧At H v d:=by
  obtain ⟨v,hv,ha⟩:=h.getD (List.getElem?_eq_getElem (l:=ds) (i:=i.toNat) (by omega))
  exact ⟨v,_,qei h0 hv,List.getElem?_eq_getElem (by omega),ha⟩
def Sm (D B:Nat) (d:PyData):Prop:=d.showable=true∧d.depth≤D∧d.leavesShort 40=true∧d.bulk≤B
theorem Sm.mono {D B D' B':Nat} {d:PyData} (h:Sm D B d) (h1:D≤D':=by decide) (h2:B≤B':=by decide):Sm D' B' d:=⟨h.1,Nat.le_trans h.2.1 h1,h.2.2.1,Nat.le_trans h.2.2.2 h2⟩
theorem Sm.list {D B n:Nat} {xs:List PyData} (h:∀ x∈xs,Sm D B x) (hl:xs.length≤n):Sm (D + 1) ((B + 1) * n) (.list xs):=by
  refine ⟨?_,?_,?_,?_⟩
  · simp only [PyData.showable]
    exact Spec.showableAll_of fun x hx=>(h x hx).1
  · have:=yc9 (n:=D) (xs:=xs) fun x hx=>(h x hx).2.1
    simp only [PyData.depth]
    omega
  · unfold PyData.leavesShort
    exact qc9 fun x hx=>(h x hx).2.2.1
  · have:=ydu (n:=B) (xs:=xs) fun x hx=>(h x hx).2.2.2
    simp only [PyData.bulk]
    exact Nat.le_trans this (Nat.mul_le_mul_left _ hl)
theorem Sm.tuple {D B n:Nat} {xs:List PyData} (h:∀ x∈xs,Sm D B x) (hl:xs.length≤n):Sm (D + 1) ((B + 1) * n) (.tuple xs):=by
  refine ⟨?_,?_,?_,?_⟩
  · simp only [PyData.showable]
    exact Spec.showableAll_of fun x hx=>(h x hx).1
  · have:=yc9 (n:=D) (xs:=xs) fun x hx=>(h x hx).2.1
    simp only [PyData.depth]
    omega
  · unfold PyData.leavesShort
    exact qc9 fun x hx=>(h x hx).2.2.1
  · have:=ydu (n:=B) (xs:=xs) fun x hx=>(h x hx).2.2.2
    simp only [PyData.bulk]
    exact Nat.le_trans this (Nat.mul_le_mul_left _ hl)
theorem Sm.shown {D B:Nat} {d:PyData} (h:Sm D B d) (hD:D≤60:=by decide) (hB:B≤100000:=by decide):d.showable=true∧d.depth≤60∧d.shown.length≤sizeLine:=by
  refine ⟨h.1,Nat.le_trans h.2.1 hD,?_⟩
  have h1:=PyData.shown_le_bulk 40 (by decide) d h.2.2.1
  have h2:=h.2.2.2
  have hsl:(sizeLine:Nat)=16777216:=rfl
  omega
end
end L2
set_option Elab.async false
set_option linter.all false
set_option maxRecDepth 100000
set_option maxHeartbeats 2000000
set_option Elab.async false
set_option linter.all false
set_option maxRecDepth 100000
set_option maxHeartbeats 2000000
namespace L2
open PySem PySem.Spec PyProof.Rows PySem.W
inductive AllX (H:Hp):List V→List PyData→Prop
  | nil:AllX H [] []
  | cons {v:V} {d:PyData} {vs:List V} {ds:List PyData}:AtX H v d→AllX H vs ds→AllX H (v :: vs) (d :: ds)
theorem AllX.same {H H':Hp} (s:Same H H'):∀ {vs:List V} {ds:List PyData},AllX H vs ds→AllX H' vs ds
  | _,_,.nil=>.nil
  | _,_,.cons a r=>.cons (a.same s) (r.same s)
end L2
set_option Elab.async false
set_option linter.all false
set_option maxRecDepth 100000
set_option maxHeartbeats 2000000
set_option Elab.async false
set_option linter.all false
set_option maxRecDepth 100000
set_option maxHeartbeats 2000000
namespace L2
open PySem PyProof.Rows
theorem AllX.length {H:Hp}:∀ {vs:List V} {ds:List PyData},AllX H vs ds→vs.length=ds.length
  | _,_,.nil=>rfl
  | _,_,.cons _ r=>by rw [List.length_cons,List.length_cons,r.length]
theorem AllX.getD {H:Hp}:∀ {vs:List V} {ds:List PyData} {i:Nat} {d:PyData},AllX H vs ds→ds[i]?=some d→∃ v,vs[i]?=some v∧AtX H v d
  | _,_,0,_,.cons a _,h=>by cases h; exact ⟨_,rfl,a⟩
  | _,_,i + 1,_,.cons _ r,h=>r.getD (i:=i) h
theorem AllX.mem {H:Hp} {vs:List V} {ds:List PyData} {i:Int} (h:AllX H vs ds) (h0:0≤i) (h1:i < ds.length):∃ v d,atI vs i=some v∧ds[i.toNat]?=some d∧AtX H v d:=by
  obtain ⟨v,hv,ha⟩:=h.getD (List.getElem?_eq_getElem (l:=ds) (i:=i.toNat) (by omega))
  exact ⟨v,_,qei h0 hv,List.getElem?_eq_getElem (by omega),ha⟩
def LayX (L:List Addr) (te:TE) (σ:L2.St) (d:PyData) (H:Hp):Prop:=(∀ b∈L,H b≠none)→∀ H1,Same H H1→∀ Q:VK,(∀ v H',Same H1 H'→AtX (yba H' L) v d→Q v H')→te σ H1 Q
def LayXA (L:List Addr) (ta:TA) (σ:L2.St) (ds:List PyData) (H:Hp):Prop:=(∀ b∈L,H b≠none)→∀ H1,Same H H1→∀ Q:List V→Hp→Prop,(∀ vs H',Same H1 H'→AllX (yba H' L) vs ds→Q vs H')→ta σ H1 Q
def LayL (L:List Addr) (te:TE) (σ:L2.St) (ds:List PyData) (H:Hp):Prop:=(∀ b∈L,H b≠none)→∀ H1,Same H H1→∀ Q:VK,(∀ a vs H',Same H1 H'→yba H' L a=some (.lst vs)→AllX (yba H' L) vs ds→Q (.ref a) H')→te σ H1 Q
section
variable {K:PySem.W.Frag} {σ:L2.St} {H:Hp} {te tf:TE} {ta:TA} {d:PyData} {ds es:List PyData} {L:List Addr}
theorem qc6 (h:Lay L te σ d H):LayX L te σ d H:=fun hL H1 s Q k=>h hL H1 s Q fun v H' s' a=>k v H' s' (.inl a)
theorem qig:LayX L qjd σ (.dict []) H:=fun hL H1 s Q k=>fun p hp=>k (.ref p) _ ((Same.refl H1).upd hp) (.inr ⟨rfl,p,rfl,by rw [qbc (yfe hL s hp)]; exact qaa⟩)
theorem qio:LayXA L tNil σ [] H:=fun hL H1 s Q k=>k [] H1 (Same.refl H1) .nil
theorem qbg (h:LayX L te σ d H) (r:LayXA L ta σ ds H):LayXA L (qbx te ta) σ (d :: ds) H:=fun hL H1 s Q k=>
  h hL H1 s _ fun v H2 s2 a2=>r hL H2 (s.trans s2) _ fun vs H3 s3 a3=>k (v :: vs) H3 (s2.trans s3) (.cons (a2.same (qa4 s3 L)) a3)
theorem layl_lst (h:LayXA L ta σ ds H) (z:ds.length≤1000:=by exact Nat.le_of_ble_eq_true rfl):LayL L (tLst ta) σ ds H:=fun hL H1 s Q k=>
  h hL H1 s _ fun vs H2 s2 a2=>⟨by rw [a2.length]; exact Nat.le_trans z (by decide),fun p hp=>k p vs _ (s2.upd hp) (by rw [qbc (yfe hL (s.trans s2) hp)]; exact qaa) (a2.same (qa4 ((Same.refl H2).upd hp) L))⟩
theorem layl_var {i:Nat} {a:Addr} {vs:List V} (hσ:σ[i]?=some (some (.ref a))) (h:yba H L a=some (.lst vs)) (hx:AllX (yba H L) vs ds):LayL L (tVar i) σ ds H:=fun hL H1 s Q k=>⟨_,hσ,k a vs H1 (Same.refl H1) (qa4 s L _ _ h) (hx.same (qa4 s L))⟩
theorem layl_at {tb:TE} {i:Int} (h:LayL L te σ ds H) (hb:∀ H1,Same H H1→∀ Q:VK,Q (.int i) H1→tb σ H1 Q) (h0:0≤i) (h1:i < ds.length) {d:PyData} (hd:ds[i.toNat]?=some d):LayX L (tOp (rIxL K) te tb) σ d H:=fun hL H1 s Q k=>
  h hL H1 s _ fun a vs H2 s2 e2 a2=>hb H2 (s.trans s2) _ (by
    obtain ⟨v,d',hv,hd',ha⟩:=a2.mem h0 h1
    rw [hd] at hd'
    cases hd'
    exact ⟨a,vs,i,v,rfl,rfl,SqL.of (qak _ _ _ _ e2),hv,k v H2 s2 ha⟩)
end
end L2
set_option Elab.async false
set_option linter.all false
set_option maxRecDepth 100000
namespace L2
open PySem PySem.Spec PyProof.Rows
theorem qfs:entryFor table "zip.__getattribute__" = some Builtin.«object.__getattribute__»:=by kernel_rfl
theorem ygs:typeLookup (.type "zip") (Str.ofString "keys")=pure none:=am_miss_of_fast (by decide +kernel)
theorem qgu:typeLookup (.type "zip") (Str.ofString "__getattr__")=pure none:=am_miss_of_fast (by decide +kernel)
theorem zip_ga:typeLookup (.type "zip") (Str.ofString "__getattribute__")=pure (some (.builtin "zip.__getattribute__")):=by rw [typeLookup_type,builtinLookup_eq_fast]; kernel_rfl
theorem yco:entryFor table "dict.update.loop" = some Builtin.«dict.update.loop»:=by kernel_rfl
theorem qbh:plainId "dict.update.loop" = true:=by decide +kernel
theorem yha:isSubtype (.type "AttributeError") (.type "AttributeError")=pure true:=by rw [isSubtype_type]; kernel_rfl
section
variable {P:Program} {w:World} {A:Around} {E:Value→Shared→Prop} {s:Shared}
theorem zipKeys {z i o:Addr} {v:Value} {Q:Option Value→Shared→Prop} (gz:IsZip s.heap z i o v) (hh:A.handled=none)
    (k:∀ (h':Heap) (tk:Nat),(∀ b o,s.heap.get? b=some o→h'.get? b=some o)→Q none { s with heap:=h',toks:=tk }) :
    wpAny (model P w) A (getAttr? (.ref z) (Str.ofString "keys")) Q E s:=by
  unfold getAttr? getAttrBy? mkText
  refine wpAny_bind (wpAny_bind (wpAny_fresh ?_))
  refine wpAny_pure ?_
  generalize hs:({ s with toks:=s.toks + 1 }:Shared)=s0
  have gz0:IsZip s0.heap z i o v:=by rw [← hs]; exact gz
  have hT0:s0.TypeIs (.ref z) "zip":=⟨_,gz0,rfl⟩
  have yhf:∀ (h':Heap) (tk:Nat) (e:Addr),s0.heap.NewAttrErr h' e (.ref z) (Str.ofString "keys")→wpAny (model P w) A (do
      let b ← isInstance (.ref e) (.type "AttributeError")
      if b=true then pure none else throw (.ref e)) Q E { s0 with heap:=h',toks:=tk }:=fun h' tk e ne=>by
    obtain ⟨t,u,he⟩:=ne.there
    refine wpAny_bind (wpAny_isInstance (T:="AttributeError") (b:=true) ⟨_,he,rfl⟩ yha ?_)
    refine wpAny_pure ?_
    have:=k h' tk (fun b o g=>ne.keeps b o (by rw [← hs]; exact g))
    subst hs
    exact this
  refine wpAny_bind (wpAny_attempt ?_)
  unfold getAttrBy
  refine wpAny_holding ?_
  refine wpAny_bind (wpAny_typeOf hT0 ?_)
  refine wpAny_bind (wpAny_of_eq zip_ga ?_)
  show wpAny _ _ (getAttrByItsOwn _ _ _ _ _ _) _ _ _
  unfold getAttrByItsOwn
  refine wpAny_bind (wpAny_of_eq (a:=none) (by rfl) ?_)
  refine wpAny_bind (wpAny_attempt (wpAny_holding ?_))
  show wpAny _ _ (boundAndCalled _ _ _) _ _ _
  unfold boundAndCalled
  refine wpAny_bind (wpAny_of_eq (a:=((Value.builtin "zip.__getattribute__"),[Value.ref z])) (by kernel_rfl) ?_)
  show wpAny _ _ (call (.builtin "zip.__getattribute__") [.ref z,.str _ _]) _ _ _
  refine wpAny_call_entry F.slot_zip_getattribute hT0 qfs ?_ (F.args_zip_getattribute_2 _ _)
  have h1:=ygs
  unfold Builtin.«object.__getattribute__»
  wp_walk
  refine wpAny_raiseAttrError (A:=A.in1) hh (fun h' tk e ne=>?_) (by decide +kernel)
  obtain ⟨t,u,he⟩:=id ne.there
  have hT1:Shared.TypeIs { s0 with heap:=h',toks:=tk } (.ref e) "AttributeError":=⟨_,he,rfl⟩
  unfold getattributeRaised
  refine wpAny_bind (wpAny_isInstance (T:="AttributeError") (b:=true) hT1 yha ?_)
  rw [if_pos rfl]
  refine wpAny_bind (m:=hookBehind _ _) (wpAny_of_eq qgu ?_)
  unfold hookOrError
  dsimp only
  unfold attributeErrorLeaves
  refine wpAny_bind (m:=throw (Value.ref e)) (wpAny_throw ?_)
  exact yhf h' tk e ne
end
end L2
set_option Elab.async false
set_option linter.all false
set_option maxRecDepth 100000
namespace L2
open PySem PySem.Spec PyProof.Rows
open Builtin.SmallTypes (nextOf)
section
variable {prog:Program} {w:World} {A:Around} {E:Value→Shared→Prop} {s:Shared}
abbrev qew (h:Heap) (z TI TO:Addr) (f0:Value) (fl:Bool):Prop:=h.get? z=some { cls:=.type "zip",data:=.fields #[f0,.bool fl,.bool false,.ref TI,.ref TO] }
theorem qfd {M:Model} {a:Addr} {o:Obj} {Q:Option Obj→Shared→Prop} (g:s.heap.get? a=some o) (k:Q (some o) s):wpAny M A (loadIfAlive a) Q E s:=by
  intro Γ p hi
  unfold loadIfAlive
  rw [Sem.wp_loadIfAlive,g]
  exact k
theorem yiz {z TI TO T:Addr} {fl:Bool} {Q:Bool→Shared→Prop} (gz:qew s.heap z TI TO (rawInt T) fl) (gT:∃ o,s.heap.get? T=some o) (k:∀ h',qew h' z TI TO (rawInt T) true→Heap.SameBut z s.heap h'→Q false { s with heap:=h' }) :
    wpAny (model prog w) A (Builtin.SmallTypes.ownedTupleIsFree (.ref z)) Q E s:=by
  obtain ⟨o,gT⟩:=gT
  unfold Builtin.SmallTypes.ownedTupleIsFree
  refine wpAny_bind (wpAny_field gz rfl (x:=rawInt T) rfl ?_)
  show wpAny _ _ (loadIfAlive (T:Int).toNat >>= _) _ _ _
  refine wpAny_bind (qfd (by rw [Int.toNat_natCast]; exact gT) ?_)
  show wpAny _ _ (field (.ref z) 1 >>= _) _ _ _
  refine wpAny_bind (wpAny_field gz rfl (x:=.bool fl) rfl ?_)
  cases fl with
  | false=>
    refine wpAny_bind (m:=setField (.ref z) 1 (.bool true)) (wpAny_setField_rec gz (by simp) fun m1 gz1 e1=>?_)
    exact wpAny_pure (k m1 gz1 e1)
  | true=>
    exact wpAny_pure (k s.heap gz (Heap.SameBut.refl _ _))
theorem zipNext2 {n l1 l2 k T:Nat} {fl:Bool} {xs ys:Array Value} {x y:Value} {t1 t2:Bool} {Q:Value→Shared→Prop} (b1:l1 < n) (b2:l2 < n) (gz:qew s.heap (n + 4) (n + 2) (n + 3) (rawInt T) fl) (gi:IsPair s.heap (n + 2) (.ref n) (.ref (n + 1))) (gT:∃ o,s.heap.get? T=some o)
    (q1:SIt s.heap t1 n l1 k) (q2:SIt s.heap t2 (n + 1) l2 k) (o1:SOf s.heap t1 l1 xs) (o2:SOf s.heap t2 l2 ys) (hx:xs[k]?=some x) (hy:ys[k]?=some y)
    (kk:∀ h',qew h' (n + 4) (n + 2) (n + 3) (rawInt T) true→SIt h' t1 n l1 (k + 1)→SIt h' t2 (n + 1) l2 (k + 1)→IsPair h' s.heap.objs.size x y→
      (∀ c o,c≠n + 4→c≠n→c≠n + 1→s.heap.get? c=some o→h'.get? c=some o)→Q (.ref s.heap.objs.size) { s with heap:=h' }) :
    wpAny (model prog w) A (Builtin.«zip.__next__» ⟨[.ref (n + 4)],[]⟩) (fun fin s'=>∃ v,fin=.done (.ret v)∧Q v s') E s:=by
  show wpAny _ _ (field (.ref (n + 4)) 2 >>= _) _ _ _
  refine wpAny_bind (wpAny_field gz rfl (x:=.bool false) rfl ?_)
  show wpAny _ _ (field (.ref (n + 4)) 3 >>= _) _ _ _
  refine wpAny_bind (wpAny_field gz rfl (x:=.ref (n + 2)) rfl ?_)
  refine wpAny_bind (wpAny_seqItems gi rfl ?_)
  show wpAny _ _ (Builtin.SmallTypes.ownedTupleIsFree (.ref (n + 4)) >>= _) _ _ _
  refine wpAny_bind (yiz gz gT fun m1 gz1 e1=>?_)
  rw [if_neg Bool.false_ne_true]
  simp only [List.forIn_toArray,List.forIn_cons,List.forIn_nil]
  refine wpAny_bind (wpAny_bind (wpAny_bind (wpAny_holding ?_)))
  show wpAny _ _ (nextOf (.ref n) >>= _) _ _ _
  refine wpAny_bind (ybm (q1.at fun o g=>e1.extBut _ _ (neN (by omega)) g) (o1.at fun o g=>e1.extBut _ _ (neN (by omega)) g) hx fun m2 r1 e2=>?_)
  refine wpAny_pure (wpAny_pure ?_)
  refine wpAny_bind (wpAny_bind (wpAny_holding ?_))
  show wpAny _ _ (nextOf (.ref (n + 1)) >>= _) _ _ _
  refine wpAny_bind (ybm (q2.at fun o g=>e2.extBut _ _ (neN (by omega)) (e1.extBut _ _ (neN (by omega)) g)) (o2.at fun o g=>e2.extBut _ _ (neN (by omega)) (e1.extBut _ _ (neN (by omega)) g)) hy fun m3 r2 e3=>?_)
  refine wpAny_pure (wpAny_pure (wpAny_pure ?_))
  show wpAny _ _ (newTuple [x,y] >>= _) _ _ _
  refine wpAny_bind (wpAny_newTuple ?_)
  have hsz:m3.objs.size=s.heap.objs.size:=by rw [e3.1,e2.1,e1.1]
  have gz3:qew m3 (n + 4) (n + 2) (n + 3) (rawInt T) true:=e3.extBut _ _ (neN (by omega)) (e2.extBut _ _ (neN (by omega)) gz1)
  have r1':SIt m3 t1 n l1 (k + 1):=r1.at fun o g=>e3.extBut _ _ (neN (by omega)) g
  have up:∀ c o,m3.get? c=some o→(m3.push { cls:=.type "tuple",data:=.seq #[x,y] }).get? c=some o:=fun c o g=>Heap.get?_push_of_some _ g
  refine wpAny_pure ⟨_,rfl,?_⟩
  have gt:IsPair (m3.push { cls:=.type "tuple",data:=.seq #[x,y] }) m3.objs.size x y:=Heap.get?_push_size _ rfl
  show Q (.ref m3.objs.size) _
  rw [hsz] at gt ⊢
  exact kk _ (up _ _ gz3) (r1'.at fun o g=>up _ o g) (r2.at fun o g=>up _ o g) gt fun c o d1 d2 d3 g=>up c o (e3.extBut _ _ d3 (e2.extBut _ _ d2 (e1.extBut _ _ d1 g)))
theorem zipDone2 {n l1 l2 k T:Nat} {fl:Bool} {xs ys:Array Value} {t1 t2:Bool} {Q:Fin→Shared→Prop} (hh:A.handled=none) (b1:l1 < n) (b2:l2 < n) (gz:qew s.heap (n + 4) (n + 2) (n + 3) (rawInt T) fl) (gi:IsPair s.heap (n + 2) (.ref n) (.ref (n + 1))) (gT:∃ o,s.heap.get? T=some o)
    (q1:SIt s.heap t1 n l1 k) (q2:SIt s.heap t2 (n + 1) l2 k) (o1:SOf s.heap t1 l1 xs) (o2:SOf s.heap t2 l2 ys) (hend:xs[k]?=none∨ys[k]?=none)
    (kk:∀ h' e,(∀ c o,c≠n + 4→c≠n→c≠n + 1→s.heap.get? c=some o→h'.get? c=some o)→(∃ o,h'.get? e=some o∧o.cls=.type "StopIteration")→E (.ref e) { s with heap:=h' }) :
    wpAny (model prog w) A (Builtin.«zip.__next__» ⟨[.ref (n + 4)],[]⟩) Q E s:=by
  show wpAny _ _ (field (.ref (n + 4)) 2 >>= _) _ _ _
  refine wpAny_bind (wpAny_field gz rfl (x:=.bool false) rfl ?_)
  show wpAny _ _ (field (.ref (n + 4)) 3 >>= _) _ _ _
  refine wpAny_bind (wpAny_field gz rfl (x:=.ref (n + 2)) rfl ?_)
  refine wpAny_bind (wpAny_seqItems gi rfl ?_)
  show wpAny _ _ (Builtin.SmallTypes.ownedTupleIsFree (.ref (n + 4)) >>= _) _ _ _
  refine wpAny_bind (yiz gz gT fun m1 gz1 e1=>?_)
  rw [if_neg Bool.false_ne_true]
  simp only [List.forIn_toArray,List.forIn_cons,List.forIn_nil]
  refine wpAny_bind (wpAny_bind (wpAny_bind (wpAny_holding ?_)))
  show wpAny _ _ (nextOf (.ref n) >>= _) _ _ _
  have p1:SIt m1 t1 n l1 k:=q1.at fun o g=>e1.extBut _ _ (neN (by omega)) g
  have p2:SOf m1 t1 l1 xs:=o1.at fun o g=>e1.extBut _ _ (neN (by omega)) g
  cases hx:xs[k]? with
  | none=>
    refine wpAny_bind (ycx hh p1 p2 hx fun m2 e g2 he=>?_)
    exact kk m2 e (fun c o d1 d2 _ g=>g2 _ _ d2 (e1.extBut _ _ d1 g)) he
  | some x=>
    have hy:ys[k]?=none:=by
      rcases hend with z | z
      · rw [hx] at z; cases z
      · exact z
    refine wpAny_bind (ybm p1 p2 hx fun m2 r1 e2=>?_)
    refine wpAny_pure (wpAny_pure ?_)
    refine wpAny_bind (wpAny_bind (wpAny_holding ?_))
    show wpAny _ _ (nextOf (.ref (n + 1)) >>= _) _ _ _
    refine wpAny_bind (ycx hh (q2.at fun o g=>e2.extBut _ _ (neN (by omega)) (e1.extBut _ _ (neN (by omega)) g)) (o2.at fun o g=>e2.extBut _ _ (neN (by omega)) (e1.extBut _ _ (neN (by omega)) g)) hy fun m4 e g4 he=>?_)
    exact kk m4 e (fun c o d1 d2 d3 g=>g4 _ _ d3 (e2.extBut _ _ d2 (e1.extBut _ _ d1 g))) he
end
end L2
set_option Elab.async false
set_option linter.all false
set_option maxRecDepth 100000
namespace L2
open PySem PySem.Spec PyProof.Rows
section
variable {P:Program} {w:World} {A:Around} {E:Value→Shared→Prop} {s:Shared}
abbrev fpZ (n:Nat):List Nat:=[n,n + 1,n + 2,n + 3,n + 4]
def ZS2 (h:Heap) (n:Nat) (t1 t2:Bool) (l1 l2:Addr) (i:Nat):Prop:=
  IsPair h (n + 2) (.ref n) (.ref (n + 1))∧SIt h t1 n l1 i∧SIt h t2 (n + 1) l2 i∧
  ((IsZip h (n + 4) (n + 2) (n + 3) .none∧∃ a b,IsPair h (n + 3) a b)∨∃ (T:Nat) (fl:Bool),qew h (n + 4) (n + 2) (n + 3) (rawInt T) fl∧∃ o,h.get? T=some o)
theorem ZSt.s2 {h:Heap} {n:Nat} {t1 t2:Bool} {l1 l2:Addr} {i:Nat} (z:ZSt h n t1 t2 l1 l2 i):ZS2 h n t1 t2 l1 l2 i:=by
  obtain ⟨a,b,gz,gi,go,q1,q2⟩:=z
  exact ⟨gi,q1,q2,.inl ⟨gz,a,b,go⟩⟩
theorem ZS2.lt {h:Heap} {n:Nat} {t1 t2:Bool} {l1 l2:Addr} {i:Nat} (z:ZS2 h n t1 t2 l1 l2 i):n + 4 < h.objs.size:=by
  obtain ⟨_,_,_,⟨g,_⟩ | ⟨_,_,g,_⟩⟩:=z
  · exact Heap.lt_size g
  · exact Heap.lt_size g
theorem ZS2.ty {s:Shared} {n:Nat} {t1 t2:Bool} {l1 l2:Addr} {i:Nat} (z:ZS2 s.heap n t1 t2 l1 l2 i):s.TypeIs (.ref (n + 4)) "zip":=by
  obtain ⟨_,_,_,⟨g,_⟩ | ⟨_,_,g,_⟩⟩:=z
  · exact ⟨_,g,rfl⟩
  · exact ⟨_,g,rfl⟩
theorem ZS2.at {h h':Heap} {n:Nat} {t1 t2:Bool} {l1 l2:Addr} {i:Nat} (z:ZS2 h n t1 t2 l1 l2 i) (k:∀ b ob,h.get? b=some ob→∃ ob',h'.get? b=some ob'∧(b≤n + 4→ob'=ob)):ZS2 h' n t1 t2 l1 l2 i:=by
  have k':∀ b ob,b≤n + 4→h.get? b=some ob→h'.get? b=some ob:=fun b ob hb g=>by
    obtain ⟨ob',h1,h2⟩:=k b ob g
    rw [h1,h2 hb]
  obtain ⟨gi,q1,q2,r⟩:=z
  refine ⟨k' _ _ (by omega) gi,q1.at fun o g=>k' _ o (by omega) g,q2.at fun o g=>k' _ o (by omega) g,?_⟩
  rcases r with ⟨g,a,b,go⟩ | ⟨T,fl,g,o,gT⟩
  · exact .inl ⟨k' _ _ (by omega) g,a,b,k' _ _ (by omega) go⟩
  · obtain ⟨o',h1,_⟩:=k T o gT
    exact .inr ⟨T,fl,k' _ _ (by omega) g,o',h1⟩
theorem pyNextZ {n l1 l2 i:Nat} {xs ys:Array Value} {x y:Value} {t1 t2:Bool} {Q:Option Value→Shared→Prop} (b1:l1 < n) (b2:l2 < n) (st:ZS2 s.heap n t1 t2 l1 l2 i) (o1:SOf s.heap t1 l1 xs) (o2:SOf s.heap t2 l2 ys) (hx:xs[i]?=some x) (hy:ys[i]?=some y)
    (k:∀ h',ZS2 h' n t1 t2 l1 l2 (i + 1)→h'.get? s.heap.objs.size=some { cls:=.type "tuple",data:=.seq #[x,y] }→(∀ b ob,b∉fpZ n→s.heap.get? b=some ob→h'.get? b=some ob)→Q (some (.ref s.heap.objs.size)) { s with heap:=h' }) :
    wpAny (model P w) A (pyNext (.ref (n + 4))) Q E s:=by
  have hT:=st.ty
  obtain ⟨gi,q1,q2,r⟩:=st
  unfold pyNext
  refine wpAny_bind (wpAny_attempt (wpAny_callSpecial?_slot (name:=Str.ofString "__next__") hT F.slot_zip_next (wpAny_call_entry F.slot_zip_next hT F.entry_zip_next ?_ (F.args_zip_next_1 _))))
  rcases r with ⟨gz,a,b,go⟩ | ⟨T,fl,gz,gT⟩
  · refine qja b1 b2 gz gi go q1 q2 o1 o2 (x:=x) (y:=y) hx hy fun h' gz' go' r1 r2 hT' hsz kp=>?_
    refine wpAny_pure (k h' ⟨kp _ _ (neN (by omega)) (neN (by omega)) (neN (by omega)) (neN (by omega)) gi,r1,r2,.inr ⟨_,_,gz',_,hT'⟩⟩ hT' fun b ob hb z=>?_)
    exact kp b ob (fun q=>hb (by simp [q])) (fun q=>hb (by simp [q])) (fun q=>hb (by simp [q])) (fun q=>hb (by simp [q])) z
  · obtain ⟨oT,gT⟩:=gT
    refine zipNext2 b1 b2 gz gi ⟨oT,gT⟩ q1 q2 o1 o2 (x:=x) (y:=y) hx hy fun h' gz' r1 r2 hT' kp=>?_
    have aT:∃ o,h'.get? T=some o:=by
      by_cases h4:T=n + 4
      · exact ⟨_,by rw [h4]; exact gz'⟩
      · by_cases h0:T=n
        · obtain ⟨o,g,_⟩:=r1.obj; exact ⟨o,by rw [h0]; exact g⟩
        · by_cases h1:T=n + 1
          · obtain ⟨o,g,_⟩:=r2.obj; exact ⟨o,by rw [h1]; exact g⟩
          · exact ⟨_,kp T _ h4 h0 h1 gT⟩
    refine wpAny_pure (k h' ⟨kp _ _ (neN (by omega)) (neN (by omega)) (neN (by omega)) gi,r1,r2,.inr ⟨_,_,gz',aT⟩⟩ hT' fun b ob hb z=>?_)
    exact kp b ob (fun q=>hb (by simp [q])) (fun q=>hb (by simp [q])) (fun q=>hb (by simp [q])) z
theorem yhv {n l1 l2 i:Nat} {xs ys:Array Value} {t1 t2:Bool} {Q:Option Value→Shared→Prop} (hh:A.handled=none) (b1:l1 < n) (b2:l2 < n) (st:ZS2 s.heap n t1 t2 l1 l2 i) (o1:SOf s.heap t1 l1 xs) (o2:SOf s.heap t2 l2 ys) (hend:xs[i]?=none∨ys[i]?=none)
    (k:∀ h',(∀ b ob,b∉fpZ n→s.heap.get? b=some ob→h'.get? b=some ob)→Q none { s with heap:=h' }) :
    wpAny (model P w) A (pyNext (.ref (n + 4))) Q E s:=by
  have hT:=st.ty
  obtain ⟨gi,q1,q2,r⟩:=st
  unfold pyNext
  refine wpAny_bind (wpAny_attempt (wpAny_callSpecial?_slot (name:=Str.ofString "__next__") hT F.slot_zip_next (wpAny_call_entry F.slot_zip_next hT F.entry_zip_next ?_ (F.args_zip_next_1 _))))
  have fin:∀ h' e,(∀ b ob,b∉fpZ n→s.heap.get? b=some ob→h'.get? b=some ob)→(∃ o,h'.get? e=some o∧o.cls=.type "StopIteration")→wpAny (model P w) A (do
      let b ← isInstance (.ref e) (.type "StopIteration")
      if b=true then pure none else throw (.ref e)) Q E { s with heap:=h' }:=fun h' e kp he=>by
    obtain ⟨o,ho,hce⟩:=he
    exact wpAny_bind (wpAny_isInstance (T:="StopIteration") (b:=true) ⟨o,ho,hce⟩ isSubtype_stop (wpAny_pure (k h' kp)))
  rcases r with ⟨gz,a,b,go⟩ | ⟨T,fl,gz,gT⟩
  · exact qie hh b1 b2 gz gi go q1 q2 o1 o2 hend fun h' e kp he=>fin h' e (fun b ob hb z=>kp b ob (fun q=>hb (by simp [q])) (fun q=>hb (by simp [q])) (fun q=>hb (by simp [q])) (fun q=>hb (by simp [q])) z) he
  · exact zipDone2 hh b1 b2 gz gi gT q1 q2 o1 o2 hend fun h' e kp he=>fin h' e (fun b ob hb z=>kp b ob (fun q=>hb (by simp [q])) (fun q=>hb (by simp [q])) (fun q=>hb (by simp [q])) z) he
def accZ (kf:Nat→Key) (ys:Array Value):Nat→List (Key×Value)
  | 0=>[]
  | i + 1=>stored (accZ kf ys i) (kf i) (ys[i]?.getD .none)
theorem yg7 (kf:Nat→Key) (ys:Array Value):∀ i,(accZ kf ys i).length≤i
  | 0=>Nat.le_refl _
  | i + 1=>by
    have:=yg7 kf ys i
    unfold accZ stored
    split
    · rw [List.length_map]; omega
    · rw [List.length_append]; simp; omega
theorem dictLoop {n l1 l2 d m:Nat} {xs ys:Array Value} {kf:Nat→Key} {t1 t2:Bool} {R:Result→Shared→Prop} (hh:A.handled=none) (b1:l1 < n) (b2:l2 < n) (hm:m=min xs.size ys.size) (hz:m≤sizeLine) (hk:∀ i x,xs[i]?=some x→(qau P w).is (kf i) x=true) (hd:n + 4 < d) :
    ∀ r i (s:Shared),i + r=m→ZS2 s.heap n t1 t2 l1 l2 i→SOf s.heap t1 l1 xs→SOf s.heap t2 l2 ys→s.heap.DictOf (qau P w) d (accZ kf ys i)→
      (∀ h' tk,h'.DictOf (qau P w) d (accZ kf ys m)→(∀ b ob,b < n→s.heap.get? b=some ob→h'.get? b=some ob)→R (.ok (.ret .none)) { s with heap:=h',toks:=tk })→
      codeAny (model P w) A (.builtin "dict.update.loop" ⟨[.ref d,.ref (n + 4),rawInt i,.none],[]⟩) R s:=by
  intro r
  have nfp:∀ b,b < n→b∉fpZ n:=fun b hb hm=>by simp at hm; omega
  have nfd:d∉fpZ n:=fun hm=>by simp at hm; omega
  induction r with
  | zero=>
    intro i s hi st o1 o2 hD k
    refine codeAny_builtin yco ?_
    rw [Around.under_plainId qbh _]
    show wpAny _ A.in1 (pyNext (.ref (n + 4)) >>= _) _ _ _
    refine wpAny_bind (yhv (A:=A.in1) hh b1 b2 st o1 o2 ?_ fun h' kp=>?_)
    · simp only [Array.getElem?_eq_none_iff]
      omega
    · refine wpAny_bind (m:=Builtin.Dict.addKeywords d []) (wpAny_of_eq (a:=()) (by rfl) ?_)
      have e:i=m:=by omega
      subst e
      refine wpAny_pure (k h' s.toks (hD.at fun o g=>kp d o nfd g) fun b ob hb g=>kp b ob (nfp b hb) g)
  | succ r ih=>
    intro i s hi st o1 o2 hD k
    refine codeAny_builtin yco ?_
    rw [Around.under_plainId qbh _]
    show wpAny _ A.in1 (pyNext (.ref (n + 4)) >>= _) _ _ _
    obtain ⟨x,hx⟩:∃ x,xs[i]?=some x:=⟨_,Array.getElem?_eq_getElem (by omega)⟩
    obtain ⟨y,hy⟩:∃ y,ys[i]?=some y:=⟨_,Array.getElem?_eq_getElem (by omega)⟩
    refine wpAny_bind (pyNextZ (A:=A.in1) b1 b2 st o1 o2 hx hy fun h' st' hT kp=>?_)
    dsimp only
    refine wpAny_bind (wpAny_holding (wpAny_bind (wpAny_tryCatch ?_)))
    have hTT:Shared.TypeIs { s with heap:=h' } (.ref s.heap.objs.size) "tuple":=⟨_,hT,rfl⟩
    unfold Builtin.Dict.pairItems
    refine wpAny_bind (wpAny_typeOf hTT ?_)
    rw [if_pos (by decide)]
    refine wpAny_bind (wpAny_seqItems hT rfl (wpAny_pure ?_))
    show wpAny _ A.in1 (holding [x,y] (dictSet d x y)) _ _ _
    refine wpAny_holding (wpAny_dictSet_pairs (k:=kf i) (hk i x hx) (hD.at fun o g=>kp d o nfd g) (fun h2 hD2 sb=>?_) ?_)
    · refine wpAny_pure ⟨plainId_quiet qbh _,?_⟩
      have hD3:h2.DictOf (qau P w) d (accZ kf ys (i + 1)):=by
        unfold accZ
        rw [hy]
        exact hD2
      have up:∀ b ob,b≠d→h'.get? b=some ob→h2.get? b=some ob:=fun b ob hb g=>(sb.2 b hb).trans g
      have:=ih (i + 1) { s with heap:=h2,toks:=s.toks + 1 } (by omega) (st'.at fun b ob g=>?_) (o1.at fun o g=>up _ o (by omega) (kp _ o (nfp _ b1) g)) (o2.at fun o g=>up _ o (by omega) (kp _ o (nfp _ b2) g)) hD3 fun h3 tk hD4 kp3=>k h3 tk hD4 fun b ob hb g=>kp3 b ob hb (up b ob (by omega) (kp b ob (nfp b hb) g))
      · rw [show ((i + 1:Nat):Int)=(i:Int) + 1 from rfl] at this
        exact this
      · by_cases hb:b=d
        · subst hb
          obtain ⟨o,_,_,go,_⟩:=hD3
          exact ⟨o,go,fun z=>absurd z (Nat.not_le.mpr hd)⟩
        · exact ⟨ob,up b ob hb g,fun _=>rfl⟩
    · have:=yg7 kf ys i
      omega
end
end L2
set_option Elab.async false
set_option linter.all false
set_option maxRecDepth 100000
namespace L2
open PySem PySem.Spec PyProof.Rows
theorem yhq:bootBuiltins "dict" = some (.type "dict"):=by decide +kernel
section
variable {P:Program} {w:World} {A:Around} {E:Value→Shared→Prop} {s:Shared}
theorem qhq {n l1 l2 m:Nat} {xs ys:Array Value} {kf:Nat→Key} {t1 t2:Bool} {Q:Value→Shared→Prop} (hh:A.handled=none) (b1:l1 < n) (b2:l2 < n) (hm:m=min xs.size ys.size) (hz:m≤sizeLine) (hk:∀ i x,xs[i]?=some x→(qau P w).is (kf i) x=true)
    (st:ZSt s.heap n t1 t2 l1 l2 0) (o1:SOf s.heap t1 l1 xs) (o2:SOf s.heap t2 l2 ys)
    (k:∀ h' tk,h'.DictOf (qau P w) s.heap.objs.size (accZ kf ys m)→(∀ b ob,b < n→s.heap.get? b=some ob→h'.get? b=some ob)→Q (.ref s.heap.objs.size) { s with heap:=h',toks:=tk }) :
    wpAny (model P w) A (call (.type "dict") [.ref (n + 4)]) Q E s:=by
  refine callType_codes F.kt_called_dict (F.kt_typeCall_dict_1 _) F.entry_dict_init (kt_code_dict_new (.ref (n + 4)) (Q₁:=fun obj s1=>obj=.ref s.heap.objs.size∧s1={ s with heap:=s.heap.push { cls:=.type "dict",data:=.dict #[] } }) ⟨rfl,rfl⟩) ?_
  rintro obj s1 ⟨rfl,rfl⟩
  have lt:n + 4 < s.heap.objs.size:=st.s2.lt
  have g0:(s.heap.push { cls:=.type "dict",data:=.dict #[] }).get? s.heap.objs.size=some { cls:=.type "dict",data:=.dict #[] }:=Heap.get?_push_size _ rfl
  have up:∀ b ob,s.heap.get? b=some ob→(s.heap.push { cls:=.type "dict",data:=.dict #[] }).get? b=some ob:=fun b ob g=>Heap.get?_push_of_some _ g
  have hD0:(s.heap.push { cls:=.type "dict",data:=.dict #[] }).DictOf (qau P w) s.heap.objs.size []:=Heap.DictOf.new _
  revert g0 up hD0
  generalize s.heap.push { cls:=.type "dict",data:=.dict #[] }=h1
  intro g0 up hD0
  have hTd:Shared.TypeIs { s with heap:=h1 } (.ref s.heap.objs.size) "dict":=⟨_,g0,rfl⟩
  refine ⟨hTd,F.args_dict_init_2 _ _,?_⟩
  have st1:ZSt h1 n t1 t2 l1 l2 0:=by
    obtain ⟨a,b,gz,gi,go,q1,q2⟩:=st
    exact ⟨a,b,up _ _ gz,up _ _ gi,up _ _ go,q1.at fun o g=>up _ o g,q2.at fun o g=>up _ o g⟩
  obtain ⟨a0,b0,gz,_⟩:=id st1
  have hTz:Shared.TypeIs { s with heap:=h1 } (.ref (n + 4)) "zip":=⟨_,gz,rfl⟩
  unfold Builtin.«dict.__init__» Builtin.Dict.selfAndRest
  refine wpAny_bind (wpAny_bind ?_)
  unfold Builtin.Dict.notOrdered
  rw [if_pos (by decide +kernel)]
  refine wpAny_bind (wpAny_typeOf hTd ?_)
  rw [if_neg (by decide)]
  refine wpAny_pure ?_
  refine wpAny_bind (m:=Builtin.Dict.addrOf _) (wpAny_of_eq (a:=s.heap.objs.size) (by rfl) (wpAny_pure ?_))
  show wpAny _ _ (Builtin.Dict.updateFrom _ _ _ _ _) _ _ _
  unfold Builtin.Dict.updateFrom
  refine wpAny_bind (wpAny_typeOf hTz ?_)
  rw [if_pos (by decide)]
  refine wpAny_bind (zipKeys (A:=A.in1.in1) gz hh fun h2 tk2 kp2=>?_)
  rw [if_pos (show (none:Option Value).isNone=true from rfl)]
  refine wpAny_bind (wpAny_rule ?_)
  have st2:ZSt h2 n t1 t2 l1 l2 0:=by
    obtain ⟨a,b,gz,gi,go,q1,q2⟩:=st1
    exact ⟨a,b,kp2 _ _ gz,kp2 _ _ gi,kp2 _ _ go,q1.at fun o g=>kp2 _ o g,q2.at fun o g=>kp2 _ o g⟩
  refine wpAny_bind (wpAny_pyIter_zip (kp2 _ _ gz) ?_)
  refine wpAny_pure ⟨plainId_quiet qbh _,?_⟩
  refine dictLoop (A:=A.in1) hh b1 b2 hm hz hk lt m 0 _ (by omega) st2.s2 (o1.at fun o g=>kp2 _ o (up _ o g)) (o2.at fun o g=>kp2 _ o (up _ o g)) (hD0.at fun o g=>kp2 _ o g) fun h3 tk3 hD3 kp3=>?_
  exact ⟨rfl,k h3 tk3 hD3 fun b ob hb g=>kp3 b ob hb (kp2 b ob (up b ob g))⟩
end
def dzip (ks:List Key) (ys:List V):Nat→List (Key×V)
  | 0=>[]
  | i + 1=>putK (dzip ks ys i) (ks[i]?.getD (.inl 0)) (ys[i]?.getD .non)
theorem qg3 (ks:List Key) (ys:List V):∀ i,(dzip ks ys i).length≤i
  | 0=>Nat.le_refl _
  | i + 1=>by
    have:=qg3 ks ys i
    have h2:=yeo (dzip ks ys i) (ks[i]?.getD (.inl 0)) (ys[i]?.getD .non)
    unfold dzip
    omega
theorem yfh {ks:List Key} {ys:List V} (nd:ks.Nodup):∀ i,i≤ks.length→i≤ys.length→∀ j k v,j < i→ks[j]?=some k→ys[j]?=some v→valV (dzip ks ys i) k=some v
  | 0,_,_,j,k,v,h,_,_=>absurd h (Nat.not_lt_zero _)
  | i + 1,h1,h2,j,k,v,h,hk,hv=>by
    unfold dzip
    rw [valV_put]
    by_cases e:j=i
    · subst e
      rw [hk,hv]
      simp
    · have hi:ks[i]?=some ks[i]:=List.getElem?_eq_getElem (by omega)
      rw [hi]
      have hj:ks[j]?=some ks[j]:=List.getElem?_eq_getElem (by omega)
      rw [hj] at hk
      cases hk
      rw [if_neg (fun z=>List.pairwise_iff_getElem.mp nd j i (by omega) (by omega) (by omega) (by simpa using z))]
      exact yfh nd i (by omega) (by omega) j _ v (by omega) hj hv
theorem yh7 {ks:List Key} {ys:List V} {us:List Value} (r:Vals ys us):∀ i,i≤ys.length→KV (dzip ks ys i) (accZ (fun j=>ks[j]?.getD (.inl 0)) us.toArray i)
  | 0,_=>.nil
  | i + 1,h=>by
    unfold dzip accZ
    obtain ⟨u,hu,ru⟩:=r.get (List.getElem?_eq_getElem (l:=ys) (i:=i) (by omega))
    refine KV.put (yh7 r i (by omega)) _ ?_
    rw [List.getElem?_eq_getElem (l:=ys) (i:=i) (by omega),List.getElem?_toArray,hu]
    exact ru
def rDZ (K:PySem.W.Frag):List V→Hp→VK→Prop:=fun vs H Q=>∃ t1 t2 l1 l2 ks ys,vs=[.ref l1,.ref l2]∧Sq K t1 H l1 (ks.map kV)∧Sq K t2 H l2 ys∧ys.length≤sizeLine∧∀ p,H p=none→Q (.ref p) (upd H p (.dK (dzip ks ys (min ks.length ys.length))))
def tDZ (K:PySem.W.Frag) (ta:TA):TE:=fun σ H Q=>ta σ H fun vs H1=>rDZ K vs H1 Q
section
variable {X:Cx}
theorem ye0 {a b:Expr} {ta:TA} {p pos p2 pos2:Pos} (hc:X.calm=true) (hd:Gl X "dict") (hdm:X.mg "dict" = none) (hg:Gl X "zip") (hm:X.mg "zip" = none) (ha:PA X [a,b] ta) (hs:starEach [a,b] X.env=(false,eval a X.env) :: starEach [b] X.env:=by rfl) (hp:(backTo pos2 (starEach [b] X.env)).any (·.1)=false:=by rfl)
    (hs2:starEach [Expr.Call (.Name "zip" p2) [a,b] [] pos2] X.env=(false,eval (.Call (.Name "zip" p2) [a,b] [] pos2) X.env) :: starEach [] X.env:=by rfl) (hp2:(backTo pos (starEach [] X.env)).any (·.1)=false:=by rfl) :
    PE X (.Call (.Name "dict" p) [.Call (.Name "zip" p2) [a,b] [] pos2] [] pos) (tDZ X.K ta):=by
  intro pins s σ H Q I h
  refine wpAny_Call_Name_kw (ycu I hd hdm yhq ?_)
  refine PyProof.Rows.callWith_type1 ?_ hs2 hp2
  rw [hs2]
  show wpAny _ _ (spliced ((false,eval _ X.env) :: backTo pos (starEach [] X.env))) _ _ s
  refine Calls.spliced_cons ?_
  refine wpAny_Call_Name_kw (ycu I hg hm yf2 (PyProof.Rows.callWith_type1 (thn (ha pos2 pins s σ H _ I h) fun us s1 ⟨vs,H1,I1,r1,q1⟩=>?_) hs hp))
  obtain ⟨t1,t2,l1,l2,ks,ys,e,hq1,hq2,hz,q⟩:=q1
  subst e
  cases r1 with
  | cons r rr=>
    cases rr with
    | cons r2 rr=>
      cases rr
      cases r
      cases r2
      obtain ⟨its1,rv1,so1,b1⟩:=I1.sq hq1
      obtain ⟨its2,rv2,so2,b2⟩:=I1.sq hq2
      refine yf1 so1 so2 fun h' st kp=>?_
      refine Calls.spliced_nil ?_
      have l1':=rv1.length
      have l2':=rv2.length
      rw [List.length_map] at l1'
      refine qhq (s:={ s1 with heap:=h' }) (m:=min ks.length ys.length) (kf:=fun j=>ks[j]?.getD (.inl 0)) (I.ok.hd hc) b1 b2 (by simp [l1',l2']) (by omega) (fun i x hx=>?_) st (so1.at fun o g=>kp _ o g) (so2.at fun o g=>kp _ o g) fun h3 tk3 hD3 kp3=>?_
      · have hx':its1[i]?=some x:=by simpa using hx
        have hi:i < ks.length:=by
          have:=(List.getElem?_eq_some_iff.mp hx').1
          omega
        obtain ⟨u,hu,ru⟩:=rv1.get (x:=kV ks[i]) (by rw [List.getElem?_map,List.getElem?_eq_getElem hi]; rfl)
        rw [hx'] at hu
        cases hu
        show (qau X.prog X.w).is (ks[i]?.getD (.inl 0)) x=true
        rw [List.getElem?_eq_getElem hi]
        exact qiq ru
      · have up:∀ b ob,s1.heap.get? b=some ob→h3.get? b=some ob:=fun b ob g=>kp3 b ob (Heap.lt_size g) (kp b ob g)
        have lt:s1.heap.objs.size≤h'.objs.size:=by
          have:=st.s2.lt
          omega
        have fr:H1 h'.objs.size=none:=I1.hok.fresh lt
        have big:=I1.big
        refine ⟨.ref h'.objs.size,upd H1 h'.objs.size (.dK (dzip ks ys (min ks.length ys.length))),I1.laid (a:=h'.objs.size) (o:=.dK _) (t':=tk3) up lt ⟨?_,?_,_,yh7 rv2 _ (by omega),hD3⟩,rfl,q _ fr⟩
        · have:=qg3 ks ys (min ks.length ys.length)
          omega
        · exact beq_eq_false_iff_ne.mpr (Nat.ne_of_gt (Nat.lt_of_lt_of_le big lt))
end
end L2
set_option Elab.async false
set_option linter.all false
set_option maxRecDepth 100000
namespace L2
open PySem PySem.Spec PyProof.Rows
theorem yi2 {a b:List Int} (p:a.Perm b) (ha:a.Pairwise (·≤·)) (hb:b.Pairwise (·≤·)):a=b:=p.eq_of_pairwise (fun x y _ _ h1 h2=>Int.le_antisymm h1 h2) ha hb
end L2
set_option Elab.async false
set_option linter.all false
set_option maxRecDepth 100000
set_option Elab.async false
set_option linter.all false
set_option maxRecDepth 100000
set_option Elab.async false
set_option linter.all false
set_option maxRecDepth 100000
namespace L2
open PySem PySem.Spec PyProof.Rows
def Srt (xs:Array Nat):Prop:=∀ (i j:Nat) (x y:Nat),i < j→xs[i]?=some x→xs[j]?=some y→x < y
theorem qfj (xs:Array Nat) (j:Nat) (hs:Srt xs):∀ (fuel lo hi:Nat),hi - lo≤fuel→lo≤hi→hi≤xs.size→(∀ k x,k < lo→xs[k]?=some x→x < j)→(∀ k x,hi≤k→xs[k]?=some x→j≤x)→
    (∀ k x,k < SetTable.below.go xs j fuel lo hi→xs[k]?=some x→x < j)∧(∀ k x,SetTable.below.go xs j fuel lo hi≤k→xs[k]?=some x→j≤x)∧SetTable.below.go xs j fuel lo hi≤xs.size
  | 0,lo,hi,hf,h1,h2,ha,hb=>by
    have e:lo=hi:=by omega
    subst e
    exact ⟨ha,hb,h2⟩
  | fuel + 1,lo,hi,hf,h1,h2,ha,hb=>by
    unfold SetTable.below.go
    by_cases hlt:lo < hi
    · rw [if_pos hlt]
      have hm:(lo + hi) / 2 < xs.size:=by omega
      have hg:xs[(lo + hi) / 2]?=some (xs.getD ((lo + hi) / 2) j):=by
        rw [Array.getD_eq_getD_getElem?,Array.getElem?_eq_getElem hm]; rfl
      dsimp only
      by_cases hc:xs.getD ((lo + hi) / 2) j < j
      · rw [if_pos hc]
        refine qfj xs j hs fuel _ hi (by omega) (by omega) h2 (fun k x hk hx=>?_) hb
        by_cases he:k=(lo + hi) / 2
        · subst he; rw [hg] at hx; cases hx; exact hc
        · have:=hs k ((lo + hi) / 2) x _ (by omega) hx hg
          omega
      · rw [if_neg hc]
        refine qfj xs j hs fuel lo _ (by omega) (by omega) (by omega) ha (fun k x hk hx=>?_)
        by_cases he:k=(lo + hi) / 2
        · subst he; rw [hg] at hx; cases hx; omega
        · have:=hs ((lo + hi) / 2) k _ x (by omega) hg hx
          omega
    · rw [if_neg hlt]
      have e:lo=hi:=by omega
      subst e
      exact ⟨ha,hb,h2⟩
theorem qhb {xs:Array Nat} (j:Nat) (hs:Srt xs):(∀ k x,k < SetTable.below xs j→xs[k]?=some x→x < j)∧(∀ k x,SetTable.below xs j≤k→xs[k]?=some x→j≤x)∧SetTable.below xs j≤xs.size:=by
  unfold SetTable.below
  refine qfj xs j hs xs.size 0 xs.size (by omega) (Nat.zero_le _) (Nat.le_refl _) (fun k x h=>absurd h (Nat.not_lt_zero _)) (fun k x h hx=>?_)
  rw [Array.getElem?_eq_none h] at hx; cases hx
theorem yhc {xs:Array Nat} {j n:Nat} (hs:Srt xs) (hn:n≤xs.size) (h1:∀ k x,k < n→xs[k]?=some x→x < j) (h2:∀ k x,n≤k→xs[k]?=some x→j≤x):SetTable.below xs j=n:=by
  obtain ⟨b1,b2,b3⟩:=qhb j hs
  rcases Nat.lt_trichotomy (SetTable.below xs j) n with h | h | h
  · have hlt:SetTable.below xs j < xs.size:=by omega
    have g:=Array.getElem?_eq_getElem hlt
    have:=h1 _ _ h g
    have:=b2 _ _ (Nat.le_refl _) g
    omega
  · exact h
  · have hlt:n < xs.size:=by omega
    have g:=Array.getElem?_eq_getElem hlt
    have:=h2 _ _ (Nat.le_refl _) g
    have:=b1 _ _ h g
    omega
theorem yf8 {α:Type} (xs:Array α) (p:Nat) (x:α) (hp:p≤xs.size) (i:Nat):(SetTable.insertAt xs p x)[i]?=if i < p then xs[i]? else if i=p then some x else xs[i - 1]?:=by
  unfold SetTable.insertAt
  have e1:((xs.extract 0 p).push x++xs.extract p xs.size).toList=xs.toList.take p++x :: xs.toList.drop p:=by
    simp
    exact List.take_of_length_le (by simp)
  rw [← Array.getElem?_toList,e1]
  have hl:(xs.toList.take p).length=p:=by rw [List.length_take,Array.length_toList]; omega
  by_cases h1:i < p
  · rw [if_pos h1,List.getElem?_append_left (by omega),List.getElem?_take_of_lt h1,Array.getElem?_toList]
  · rw [if_neg h1,List.getElem?_append_right (by omega),hl]
    by_cases h2:i=p
    · rw [if_pos h2,h2,Nat.sub_self]; rfl
    · rw [if_neg h2]
      obtain ⟨d,hd⟩:∃ d,i - p=d + 1:=⟨i - p - 1,by omega⟩
      rw [hd,List.getElem?_cons_succ,List.getElem?_drop,Array.getElem?_toList]
      congr 1
      omega
theorem yhj {xs:Array Nat} {j:Nat} (hs:Srt xs) (hj:xs[SetTable.below xs j]?≠some j):Srt (SetTable.insertAt xs (SetTable.below xs j) j):=by
  obtain ⟨b1,b2,b3⟩:=qhb j hs
  have hgt:∀ k x,SetTable.below xs j≤k→xs[k]?=some x→j < x:=fun k x hk hx=>by
    have h1:=b2 k x hk hx
    by_cases he:x=j
    · subst he
      by_cases hk2:k=SetTable.below xs x
      · subst hk2; exact absurd hx hj
      · have hlt:SetTable.below xs x < xs.size:=by
          have:=(Array.getElem?_eq_some_iff.mp hx).1
          omega
        have g:=Array.getElem?_eq_getElem hlt
        have h2:=hs _ k _ x (by omega) g hx
        have h3:=b2 _ _ (Nat.le_refl _) g
        omega
    · omega
  intro a b x y hab hx hy
  rw [yf8 _ _ _ b3] at hx hy
  by_cases ha:a < SetTable.below xs j
  · rw [if_pos ha] at hx
    by_cases hb:b < SetTable.below xs j
    · rw [if_pos hb] at hy
      exact hs a b x y hab hx hy
    · rw [if_neg hb] at hy
      have hxj:=b1 a x ha hx
      by_cases hb2:b=SetTable.below xs j
      · rw [if_pos hb2] at hy; cases hy; exact hxj
      · rw [if_neg hb2] at hy
        have:=hgt (b - 1) y (by omega) hy
        omega
  · rw [if_neg ha] at hx
    have hb:¬ b < SetTable.below xs j:=by omega
    rw [if_neg hb] at hy
    by_cases ha2:a=SetTable.below xs j
    · rw [if_pos ha2] at hx
      cases hx
      rw [if_neg (by omega)] at hy
      exact hgt (b - 1) y (by omega) hy
    · rw [if_neg ha2] at hx
      rw [if_neg (by omega)] at hy
      exact hs (a - 1) (b - 1) x y (by omega) hx hy
theorem yis (n:Nat):Srt (Array.range n):=by
  intro i j x y hij hx hy
  have h1:=(Array.getElem?_eq_some_iff.mp hx).2
  have h2:=(Array.getElem?_eq_some_iff.mp hy).2
  simp at h1 h2
  omega
theorem srt_of {l:List Nat} (h:l.Pairwise (· < ·)):Srt l.toArray:=by
  intro i j x y hij hx hy
  have hx':l[i]?=some x:=by simpa using hx
  have hy':l[j]?=some y:=by simpa using hy
  obtain ⟨hi,e1⟩:=List.getElem?_eq_some_iff.mp hx'
  obtain ⟨hj,e2⟩:=List.getElem?_eq_some_iff.mp hy'
  have:=List.pairwise_iff_getElem.mp h i j hi hj hij
  rw [e1,e2] at this
  exact this
end L2
set_option Elab.async false
set_option linter.all false
set_option maxRecDepth 100000
namespace L2
open PySem PySem.Spec PyProof.Rows
def TOk (t:SetTable):Prop:=Srt t.place∧t.dummies=#[]
theorem qg0 (j:Nat):SetTable.has #[] j=false:=by
  unfold SetTable.has
  simp
theorem slot_no {t:SetTable} (h:TOk t) (j:Nat):t.slot j≠.dummy:=by
  unfold SetTable.slot
  rw [h.2,qg0]
  dsimp only
  split
  · intro z; cases z
  · simp
theorem qhp {t:SetTable} {j:Nat} (h:t.slot j=.empty):t.place[SetTable.below t.place j]?≠some j:=by
  intro e
  unfold SetTable.slot at h
  dsimp only at h
  rw [if_pos (by rw [e]; simp)] at h
  cases h
theorem qfi (t:SetTable) (p:SetTable.Probe):(t.advance p).dummy=p.dummy:=by
  unfold SetTable.advance
  split <;> rfl
theorem yeh {t:SetTable} (ht:TOk t) (f:Nat→Int) (h:Int):∀ (fuel:Nat) (p:SetTable.Probe) (j:Nat) (d:Option Nat),p.dummy=none→SetTable.probe.go t f h fuel p=some (.empty j d)→t.slot j=.empty∧d=none
  | 0,p,j,d,hp,e=>by
    unfold SetTable.probe.go at e
    cases e
  | fuel + 1,p,j,d,hp,e=>by
    unfold SetTable.probe.go at e
    split at e
    · rename_i hs
      cases e
      exact ⟨hs,hp⟩
    · rename_i hs
      exact absurd hs (slot_no ht _)
    · split at e
      · cases e
      · exact yeh ht f h fuel _ j d (by rw [qfi]; exact hp) e
theorem qgx {t:SetTable} (ht:TOk t) {h:Int} {j:Nat} {b:Bool} (e:t.freeSlot h=some (j,b)):t.slot j=.empty:=by
  unfold SetTable.freeSlot at e
  split at e
  · rename_i j' d hp
    have hq:SetTable.probe.go t (fun _=>h + 1) h (10 * SetTable.turns t.mask) (t.probeStart h)=some (.empty j' d):=hp
    obtain ⟨h1,h2⟩:=yeh ht _ _ _ _ _ _ rfl hq
    subst h2
    cases e
    exact h1
  · cases e
theorem put_ok {t:SetTable} (ht:TOk t) {j:Nat} (h:t.slot j=.empty):TOk (t.put j).1∧(t.put j).1.led=t.led:=by
  refine ⟨⟨yhj ht.1 (qhp h),?_⟩,rfl⟩
  show (if SetTable.has t.dummies j then SetTable.eraseAt t.dummies (SetTable.below t.dummies j) else t.dummies)=#[]
  rw [ht.2,qg0]
  rfl
theorem yc0 (t:SetTable) (n:Nat):TOk (t.standIn n)∧(t.standIn n).led=t.led:=⟨⟨yis n,rfl⟩,rfl⟩
theorem ygf {t:SetTable} (ht:TOk t) (n:Nat):TOk (t.orStandIn n)∧(t.orStandIn n).led=t.led:=by
  unfold SetTable.orStandIn
  split
  · exact ⟨ht,rfl⟩
  · exact yc0 t n
theorem qhz {t:SetTable} (ht:TOk t) (es:Array (Int×Value)) (h:Int) (x:Value):TOk (layNew t es h x).2.1∧(layNew t es h x).2.1.led=t.led:=by
  unfold layNew
  split
  · rename_i j b e
    have hp:=put_ok ht (qgx ht e)
    have ho:=ygf hp.1 (SetTable.insertAt es (t.put j).2 (h,x)).size
    exact ⟨ho.1,ho.2.trans hp.2⟩
  · exact yc0 t _
theorem ydg {α:Type} (f:Nat→Option α):∀ (l:List Nat),l.Pairwise (· < ·)→((l.filterMap fun j=>(f j).map (j,·)).map (·.1)).Pairwise (· < ·):=by
  intro l hl
  have hsub:((l.filterMap fun j=>(f j).map (j,·)).map (·.1)).Sublist l:=by
    induction l with
    | nil=>exact .slnil
    | cons a l ih=>
      rw [List.filterMap_cons]
      have:=ih (List.pairwise_cons.mp hl).2
      cases f a with
      | none=>exact .cons _ this
      | some b=>exact .cons₂ _ this
  exact hl.sublist hsub
theorem qiw {t t':SetTable} {hs:Array Int} {n:Nat} {o:Array Nat} (e:t.relaid hs n=some (t',o)):TOk t'∧t'.led=t.led:=by
  unfold SetTable.relaid SetTable.laid at e
  cases ho:SetTable.layClean (SetTable.sizeAbove n - 1) hs with
  | none=>rw [ho] at e; cases e
  | some owner=>
    rw [ho] at e
    cases e
    refine ⟨⟨srt_of ?_,rfl⟩,rfl⟩
    exact ydg (fun j=>owner.getD j none) _ List.pairwise_lt_range
theorem ygj {t:SetTable} (es:Array (Int×Value)) (n:Nat):TOk (relayAll t es n).2.1∧(relayAll t es n).2.1.led=t.led:=by
  unfold relayAll
  split
  · rename_i t' o e
    dsimp only
    split
    · exact qiw e
    · exact yc0 t _
  · exact yc0 t _
def byTx (w:World):Bool:=w.params.followText "set-order"
def SetL (P:Program) (w:World) (h:Heap) (a:Addr) (ks:List Int):Prop:=
  ∃ o es ep t,h.get? a=some o∧o.ExactSet∧o.data=.set es ep t∧ElemsOf (intKind P w) es.toList∧(∃ ns,IntsAre (es.toList.map (·.2)) ns∧ns.Perm ks)∧es.size < scanBound∧t.fits es.size=true∧TOk t∧(byTx w=true∨t.led=true)
end L2
set_option Elab.async false
set_option linter.all false
set_option maxRecDepth 100000
namespace L2
open PySem PySem.Spec PyProof.Rows
theorem ydi {vs' vs:List Value} (p:vs'.Perm vs):∀ {ns:List Int},IntsAre vs ns→∃ ns',IntsAre vs' ns'∧ns'.Perm ns:=by
  induction p with
  | nil=>intro ns h; exact ⟨ns,h,List.Perm.refl _⟩
  | cons x _ ih=>
    intro ns h
    cases h with
    | cons n t r=>
      obtain ⟨ns',h1,h2⟩:=ih r
      exact ⟨n :: ns',.cons n t h1,h2.cons n⟩
  | swap x y l=>
    intro ns h
    cases h with
    | cons n t r=>
      cases r with
      | cons m u r=>exact ⟨m :: n :: _,.cons m u (.cons n t r),List.Perm.swap ..⟩
  | trans _ _ ih1 ih2=>
    intro ns h
    obtain ⟨n1,a1,b1⟩:=ih2 h
    obtain ⟨n2,a2,b2⟩:=ih1 a1
    exact ⟨n2,a2,b2.trans b1⟩
theorem yff:∀ {vs:List Value} {ns:List Int},IntsAre vs ns→(∀ v∈vs,∃ n t,v=.int n t∧n∈ns)∧∀ n∈ns,∃ t,Value.int n t∈vs
  | _,_,.nil=>⟨fun v h=>by simp at h,fun n h=>by simp at h⟩
  | _,_,.cons n t r=>by
    obtain ⟨h1,h2⟩:=yff r
    refine ⟨fun v hv=>?_,fun m hm=>?_⟩
    · rcases List.mem_cons.mp hv with rfl | hv
      · exact ⟨n,t,rfl,List.mem_cons_self ..⟩
      · obtain ⟨m,u,e,hm⟩:=h1 v hv
        exact ⟨m,u,e,List.mem_cons_of_mem _ hm⟩
    · rcases List.mem_cons.mp hm with rfl | hm
      · exact ⟨t,List.mem_cons_self ..⟩
      · obtain ⟨u,hu⟩:=h2 m hm
        exact ⟨u,List.mem_cons_of_mem _ hu⟩
theorem qgb:∀ {vs:List Value} {ns:List Int} (k:Int) (t:Tok),IntsAre vs ns→IntsAre (vs++[.int k t]) (ns++[k])
  | _,_,k,t,.nil=>.cons k t .nil
  | _,_,k,t,.cons n u r=>.cons n u (qgb k t r)
section
variable {P:Program} {w:World} {A:Around} {E:Value→Shared→Prop} {s:Shared} {a:Addr} {ks:List Int}
theorem storeL {o:Obj} {es:Array (Int×Value)} {ep:Nat} {t:SetTable} {es':Array (Int×Value)} {t':SetTable} {ks':List Int} {h:Heap} (g:h.get? a=some o) (gx:o.ExactSet) (gd:o.data=.set es ep t)
    (el:ElemsOf (intKind P w) es'.toList) (hv:∃ ns,IntsAre (es'.toList.map (·.2)) ns∧ns.Perm ks') (hb:es'.size < scanBound) (hf:t'.fits es'.size=true) (ht:TOk t') (hl:byTx w=true∨t'.led=true) :
    (h.update a (Obj.putSet es' t')).get? a=some { o with data:=.set es' (ep + 1) t' }∧SetL P w (h.update a (Obj.putSet es' t')) a ks':=by
  have hg:(h.update a (Obj.putSet es' t')).get? a=some { o with data:=.set es' (ep + 1) t' }:=by
    have z:=Heap.get?_update_self (Obj.putSet es' t') g (by rw [putSet_of es' t' gd]; rfl)
    rw [putSet_of es' t' gd] at z
    exact z
  exact ⟨hg,_,es',ep + 1,t',hg,gx,rfl,el,hv,hb,hf,ht,hl⟩
theorem addL {k:Int} {tk:Tok} {Q:Bool→Shared→Prop} (hS:SetL P w s.heap a ks) (hroom:ks.length + 1 < scanBound)
    (h:∀ b h',Heap.SameBut a s.heap h'→SetL P w h' a (if k∈ks then ks else ks++[k])→Q b { s with heap:=h' }) :
    wpAny (model P w) A (setAddHashed a (.int k tk) ((intKind P w).hash k)) Q E s:=by
  obtain ⟨o,es,ep,t,g,gx,gd,el,⟨ns,hi,hp⟩,hb,hf,ht,hl⟩:=hS
  have hlen:es.size=ks.length:=by
    have h1:=IntsAre.length hi
    rw [List.length_map,Array.length_toList] at h1
    rw [h1,hp.length_eq]
  have kk:(intKind P w).is k (.int k tk)=true:=intKind_is _ _ _ _
  unfold setAddHashed setAddHashedIn
  refine wpAny_holding (wpAny_bind (wpAny_setState_of g gd hf ?_))
  dsimp only
  rw [byScan_of (knd:=intKind P w) rfl hb el]
  simp only [↓reduceIte]
  unfold setAddByScan
  refine wpAny_bind ?_
  refine wpAny_bind (wpAny_rule ?_)
  refine wpAny_bind (wpAny_setScan_of kk g gd hf el ?_)
  have same:∀ m u,(intKind P w).is k (.int m u)=true→m=k:=fun m u z=>(intKind P w).inj _ m k (intKind_is _ _ _ _) z
  cases hr:List.findIdx? (fun e=>(intKind P w).is k e.2) es.toList with
  | some j=>
    dsimp only
    obtain ⟨hj,hpj,_⟩:=List.findIdx?_eq_some_iff_getElem.mp hr
    have hin:k∈ks:=by
      obtain ⟨m,u,e,hm⟩:=(yff hi).1 (es.toList[j]).2 (List.mem_map.mpr ⟨_,List.getElem_mem hj,rfl⟩)
      rw [e] at hpj
      have:=same m u hpj
      subst this
      exact hp.mem_iff.mp hm
    refine wpAny_pure (wpAny_pure ?_)
    have e:s={ s with heap:=s.heap }:=by cases s; rfl
    have z:=h false s.heap (Heap.SameBut.refl a s.heap) (by rw [if_pos hin]; exact ⟨o,es,ep,t,g,gx,gd,el,⟨ns,hi,hp⟩,hb,hf,ht,hl⟩)
    rw [e]
    exact z
  | none=>
    dsimp only
    have hout:k∉ks:=fun hin=>by
      obtain ⟨u,hu⟩:=(yff hi).2 k (hp.mem_iff.mpr hin)
      obtain ⟨e,he,e2⟩:=List.mem_map.mp hu
      have z:=List.findIdx?_eq_none_iff.mp hr e he
      rw [e2] at z
      rw [show (intKind P w).is k (.int k u)=true from intKind_is _ _ _ _] at z
      cases z
    rw [if_neg hout] at h
    have gw:∀ (b:Bool) {s1:Shared} {Q':Unit→Shared→Prop},Q' () s1→wpAny (model P w) A (match b with | true=>rule "set.scan.the-table-gave-way" | false=>pure ()) Q' E s1:=fun b s1 Q' z=>by cases b <;> first | exact wpAny_pure z | exact wpAny_rule z
    have pm:=layNew_perm t es ((intKind P w).hash k) (.int k tk)
    have fm:=layNew_fits t es ((intKind P w).hash k) (.int k tk)
    have tm:=qhz ht es ((intKind P w).hash k) (.int k tk)
    generalize hL:layNew t es ((intKind P w).hash k) (.int k tk)=L at pm fm tm ⊢
    obtain ⟨es1,t1,wasDummy,gave⟩:=L
    dsimp only at pm fm tm ⊢
    rw [Array.toList_push] at pm
    have el1:ElemsOf (intKind P w) es1.toList:=(el.push kk rfl).perm pm
    have hv1:∃ ns,IntsAre (es1.toList.map (·.2)) ns∧ns.Perm (ks++[k]):=by
      have q:=pm.map (·.2)
      rw [List.map_append] at q
      obtain ⟨n1,i1,p1⟩:=ydi q (qgb k tk hi)
      exact ⟨n1,i1,p1.trans (hp.append_right [k])⟩
    have sz1:es1.size=ks.length + 1:=by
      rw [← Array.length_toList,pm.length_eq,List.length_append,Array.length_toList,hlen]; rfl
    have hb1:es1.size < scanBound:=by rw [sz1]; exact hroom
    refine wpAny_bind (gw _ ?_)
    have tail:∀ (t2:SetTable),t2.fits es1.size=true→TOk t2→(byTx w=true∨t2.led=true)→wpAny (model P w) A (do
        storeSet a es1 t2
        if (!wasDummy && t2.tooFull)=true then do
            (match (relayAll t2 es1 (SetTable.grown es1.size)).2.2 with | true=>rule "set.scan.the-table-gave-way" | false=>pure ())
            storeSet a (relayAll t2 es1 (SetTable.grown es1.size)).1 (relayAll t2 es1 (SetTable.grown es1.size)).2.1
            pure (some true)
          else pure (some true)) (fun r s1=>wpAny (model P w) A (match r with | some added=>pure added | none=>setAddHashedIn a (.int k tk) ((intKind P w).hash k) 99999) Q E s1) E s:=by
      intro t2 f2 k2 l2
      refine wpAny_bind (wpAny_storeSet_of g gd ?_ (fits_of_scanBound hb1))
      obtain ⟨g1,S1⟩:=storeL (P:=P) (w:=w) g gx gd el1 hv1 hb1 f2 k2 l2
      have sb1:=Heap.SameBut.update s.heap a (Obj.putSet es1 t2)
      split
      · have pr:=relayAll_perm t2 es1 (SetTable.grown es1.size)
        have fr:=relayAll_fits t2 es1 (SetTable.grown es1.size)
        have tr:=ygj (t:=t2) es1 (SetTable.grown es1.size)
        generalize hR:relayAll t2 es1 (SetTable.grown es1.size)=R at pr fr tr ⊢
        obtain ⟨es2,t3,gave2⟩:=R
        dsimp only at pr fr tr ⊢
        have sz2:es2.size=es1.size:=by rw [← Array.length_toList,pr.length_eq,Array.length_toList]
        have hb2:es2.size < scanBound:=by rw [sz2]; exact hb1
        refine wpAny_bind (gw _ ?_)
        refine wpAny_bind (wpAny_storeSet_of g1 rfl ?_ (fits_of_scanBound hb2))
        have hv2:∃ ns,IntsAre (es2.toList.map (·.2)) ns∧ns.Perm (ks++[k]):=by
          obtain ⟨n1,i1,p1⟩:=hv1
          obtain ⟨n2,i2,p2⟩:=ydi (pr.map (·.2)) i1
          exact ⟨n2,i2,p2.trans p1⟩
        obtain ⟨_,S2⟩:=storeL (P:=P) (w:=w) g1 gx rfl (el1.perm pr) hv2 hb2 fr tr.1 (l2.imp id fun z=>tr.2.trans z)
        exact wpAny_pure (wpAny_pure (h true _ (sb1.trans (Heap.SameBut.update _ a _)) S2))
      · exact wpAny_pure (wpAny_pure (h true _ sb1 S1))
    have l1:byTx w=true∨t1.led=true:=hl.imp id fun z=>tm.2.trans z
    split
    · refine wpAny_bind ?_
      rw [hashByValue_scannable 8 (rfl:(Value.int k tk).scannable=true)]
      refine wpAny_pure ?_
      split
      · exact tail t1 fm tm.1 l1
      · exact tail { t1 with plain:=false } (SetTable.fits_plain_off fm) tm.1 l1
    · refine wpAny_bind (wpAny_pure ?_)
      simp only [↓reduceIte]
      exact tail t1 fm tm.1 l1
end
end L2
set_option Elab.async false
set_option linter.all false
set_option maxRecDepth 100000
namespace L2
open PySem PySem.Spec PyProof.Rows
def qa1 (f:Nat→Int):Nat→List Int
  | 0=>[]
  | i + 1=>if f i∈qa1 f i then qa1 f i else qa1 f i++[f i]
theorem qds (f:Nat→Int):∀ i,(qa1 f i).length≤i
  | 0=>Nat.le_refl _
  | i + 1=>by
    have ih:=qds f i
    unfold qa1
    split
    · omega
    · rw [List.length_append]; show _ + 1≤_; omega
theorem SetL.at {P:Program} {w:World} {h h':Heap} {a:Addr} {ks:List Int} (x:SetL P w h a ks) (k:∀ o,h.get? a=some o→h'.get? a=some o):SetL P w h' a ks:=by
  obtain ⟨o,es,ep,t,g,r⟩:=x
  exact ⟨o,es,ep,t,k o g,r⟩
section
variable {P:Program} {w:World} {A:Around} {R:Result→Shared→Prop} {I:Addr} {fp wr:List Addr} {G:Array GenState→Array GenState→Prop} {n:Nat} {Pv:Nat→Value→Prop} {St:Nat→Shared→Prop}
theorem loopL (W:WalksS P w A.in1 I fp wr G n Pv St) (d:Addr) (hd:d∉fp) (f:Nat→Int) (hf:∀ i v,Pv i v→∃ t,v=.int (f i) t) (hb:n + 1 < scanBound):∀ (k i:Nat) (s:Shared),n - i=k→i≤n→St i s→SetL P w s.heap d (qa1 f i)→
      (∀ s',Moved (d :: wr) G s s'→SetL P w s'.heap d (qa1 f n)→R (.ok (.ret .none)) s')→codeAny (model P w) A (.builtin "set.update.loop" ⟨[.ref d,.ref I],[]⟩) R s:=by
  have hw:d∉wr:=fun z=>hd (W.sub _ z)
  have up:∀ b∈wr,b∈d :: wr:=fun b z=>List.mem_cons_of_mem _ z
  intro k
  induction k with
  | zero=>
    intro i s hk hi st hS hR
    have e:i=n:=by omega
    subst e
    refine codeAny_builtin F.entry_set_update_loop ?_
    rw [Around.under_plainId F.plain_set_update_loop _]
    show wpAny _ A.in1 (pyNext (.ref I) >>= _) _ _ _
    refine wpAny_bind (W.done s _ _ st fun s' m=>?_)
    show wpAny _ A.in1 (ret Value.none) _ _ _
    exact wpAny_pure (hR s' (m.mono up) (hS.at fun o g=>m.heap d o hw g))
  | succ k ih=>
    intro i s hk hi st hS hR
    have hlt:i < n:=by omega
    refine codeAny_builtin F.entry_set_update_loop ?_
    rw [Around.under_plainId F.plain_set_update_loop _]
    show wpAny _ A.in1 (pyNext (.ref I) >>= _) _ _ _
    refine wpAny_bind (W.item i s _ _ hlt st fun v s' hP st' m=>?_)
    obtain ⟨t,rfl⟩:=hf i v hP
    have hS':SetL P w s'.heap d (qa1 f i):=hS.at fun o g=>m.heap d o hw g
    show wpAny _ A.in1 (holding [Value.int (f i) t] (setAdd d (.int (f i) t)) >>= _) _ _ _
    refine wpAny_bind (wpAny_holding ?_)
    unfold setAdd
    refine wpAny_holding ?_
    refine wpAny_bind ((intKind P w).pyHash (k:=f i) (intKind_is _ _ _ _) ?_)
    have room:(qa1 f i).length + 1 < scanBound:=by have:=qds f i; omega
    refine addL (s:={ s' with toks:=s'.toks + 1 }) hS' room fun b h' sb S2=>?_
    have S3:SetL P w h' d (qa1 f (i + 1)):=S2
    refine wpAny_pure ⟨plainId_quiet F.plain_set_update_loop _,?_⟩
    refine ih (i + 1) _ (by omega) hlt (W.frame _ s' _ _ st' (Nat.le_succ _) fun b hb o g=>?_) S3 fun s2 m2 S4=>?_
    · rw [sb.2 b (fun z:b=d=>hd (by rw [← z]; exact hb))]; exact g
    · refine hR s2 (Moved.trans W.gtrans ((m.mono up).then_heap (Nat.le_succ _) fun b o hb g=>?_) m2) S4
      rw [sb.2 b (fun z:b=d=>hb (by rw [z]; exact List.mem_cons_self))]; exact g
end
section
variable {P:Program} {w:World} {A:Around} {E:Value→Shared→Prop} {s:Shared}
theorem newL (v:Value) {Q1:Value→Shared→Prop} (h:Q1 (.ref s.heap.objs.size) { s with heap:=s.heap.push { cls:=.type "set",dict:=none,data:=.set #[] 0 (.fresh 0 0 (!byTx w)) } }) :
    codeAny (model P w) A (.call (.builtin "set.__new__") ⟨[.type "set",v],[]⟩) (wants Q1 E) s:=by
  refine codeAny_of_tree ?_
  show wpAny _ A.in1 (do checkBuiltinCall "set.__new__" ⟨[.type "set",v],[]⟩; again (.builtin "set.__new__" ⟨[.type "set",v],[]⟩)) _ _ s
  refine wpAny_bind (wpAny_of_eq (F.newCall_set_1 v) (wpAny_pure ⟨plainId_quiet F.plain_set_new _,?_⟩))
  refine codeAny_builtin F.entry_set_new ?_
  rw [Around.under_plainId F.plain_set_new _]
  unfold Builtin.«set.__new__» Builtin.Frozenset.newClass
  have hsub:=sub_set_self
  obtain ⟨hp,g,d,tk,os⟩:=s
  dsimp only
  wp_walk
  refine wpAny_askSetting ?_
  refine wpAny_pure ?_
  dsimp only
  simp only [newObj]
  refine wpAny_bind (wpAny_alloc ?_)
  exact wpAny_pure (wpAny_pure h)
theorem SetL.new {h:Heap} {a:Addr} (g:h.get? a=some { cls:=.type "set",dict:=none,data:=.set #[] 0 (.fresh 0 0 (!byTx w)) }):SetL P w h a []:=by
  refine ⟨_,#[],0,_,g,⟨rfl,rfl,rfl⟩,rfl,fun e he=>by simp at he,⟨[],.nil,List.Perm.refl _⟩,by decide,rfl,⟨fun i j x y _ hx=>by simp [SetTable.fresh] at hx,rfl⟩,?_⟩
  cases byTx w
  · exact .inr rfl
  · exact .inl rfl
set_option maxHeartbeats 6400000 in
theorem yh1 {l:Addr} {its:Array Value} {ns:List Int} {Q:Value→Shared→Prop} (hh:A.handled=none) (hl:s.heap.IsList l its) (hi:IntsAre its.toList ns) (hb:its.size + 1 < scanBound)
    (k:∀ (h':Heap) (tk:Nat),SetL P w h' s.heap.objs.size (qa1 (fun i=>ns.getD i 0) its.size)→(∀ b o,b < s.heap.objs.size→s.heap.get? b=some o→h'.get? b=some o)→Q (.ref s.heap.objs.size) { s with heap:=h',toks:=tk }) :
    wpAny (model P w) A (call (.type "set") [.ref l]) Q E s:=by
  obtain ⟨c0,tl0,c1⟩:=F.called_set.mro
  have c2:=F.called_set.made
  have c3:=F.called_set.sub
  refine wpAny_call (codeAny_of_tree ?_)
  show wpAny _ _ (callAny (.type "set") _) _ _ s
  refine wpAny_pure ⟨?_,?_⟩
  · exact Code.quiet_builtin _ (by decide +kernel)
  refine codeAny_builtin F.entry_type_call ?_
  rw [Around.under_plain (weight_type_call_type "set" [.ref l] []) rfl]
  have c4:=F.called_set.notType
  have c5:=F.called_set.canCreate
  have c6:=F.typeCall_set_1 (.ref l)
  repeat (any_goals first | assumption | wp_step)
  refine codeAny_mono (newL (.ref l) (E:=E) (Q1:=fun v s1=>v=.ref s.heap.objs.size∧s1={ s with heap:=s.heap.push { cls:=.type "set",dict:=none,data:=.set #[] 0 (.fresh 0 0 (!byTx w)) } }) ⟨rfl,rfl⟩) fun r s1 hr=>?_
  cases r with
  | error e=>exact hr
  | ok fl=>
    cases fl with
    | ret v=>
      obtain ⟨rfl,rfl⟩:=hr
      have g1:(s.heap.push { cls:=.type "set",dict:=none,data:=.set #[] 0 (.fresh 0 0 (!byTx w)) }).get? s.heap.objs.size=some { cls:=.type "set",dict:=none,data:=.set #[] 0 (.fresh 0 0 (!byTx w)) }:=Heap.get?_push_size _ rfl
      have c7:Shared.TypeIs { s with heap:=s.heap.push { cls:=.type "set",dict:=none,data:=.set #[] 0 (.fresh 0 0 (!byTx w)) } } (.ref s.heap.objs.size) "set":=⟨_,g1,rfl⟩
      have c8:=F.called_set.init.lookup
      have c9:=F.called_set.init.bind (.ref s.heap.objs.size)
      repeat (any_goals first | assumption | wp_step)
      refine codeAny_mono (codeAny_call_builtin (R:=wants (fun r s2=>r=.none∧∃ h' tk,s2={ s with heap:=h',toks:=tk }∧SetL P w h' s.heap.objs.size (qa1 (fun i=>ns.getD i 0) its.size)∧
          (∀ b o,b < s.heap.objs.size→s.heap.get? b=some o→h'.get? b=some o)) E) F.called_set.init.plain F.entry_set_init (check_set_init_1 c7 ?_)) fun r2 s2 hr2=>?_
      · obtain ⟨ol,gl,cl,nl,dl⟩:=hl
        obtain ⟨qc,qd,qa,qs⟩:=ol
        simp only at cl dl
        subst cl
        subst dl
        have gl':(s.heap.push { cls:=.type "set",dict:=none,data:=.set #[] 0 (.fresh 0 0 (!byTx w)) }).get? l=some { cls:=.type "list",dict:=qd,data:=.seq its nl,slots:=qs }:=Heap.get?_push_of_some _ gl
        have d1:=F.sub_list_set
        have d2:=F.sub_list_frozenset
        have d3:(Value.type "list" == Value.type "dict")=false:=by decide
        have hl1:(s.heap.push { cls:=.type "set",dict:=none,data:=.set #[] 0 (.fresh 0 0 (!byTx w)) }).IsList l its:=⟨_,gl',rfl,nl,rfl⟩
        unfold Builtin.«set.__init__» noKeywords Builtin.Frozenset.updateFrom
        generalize hPI:pyIter=PI
        wp_walk
        subst hPI
        refine wpAny_pyIter_list hl1 ?_
        refine wpAny_bind (wpAny_runValue ?_)
        have lt:l < s.heap.objs.size:=Heap.lt_size gl
        have h3:A.in1.in1.in1.handled=none:=by simp [hh]
        have nI:l≠(s.heap.push { cls:=.type "set",dict:=none,data:=.set #[] 0 (.fresh 0 0 (!byTx w)) }).objs.size:=by
          rw [Heap.size_push]; exact Nat.ne_of_lt (Nat.lt_succ_of_lt lt)
        have nf:s.heap.objs.size∉[(s.heap.push { cls:=.type "set",dict:=none,data:=.set #[] 0 (.fresh 0 0 (!byTx w)) }).objs.size,l]:=by
          rw [Heap.size_push]; simp only [List.mem_cons,List.mem_singleton,List.not_mem_nil,or_false,not_or]
          exact ⟨Nat.ne_of_lt (Nat.lt_succ_self _),Nat.ne_of_gt lt⟩
        have hv:∀ (i:Nat) (v:Value),its[i]?=some v→∃ t,v=.int ((fun i=>ns.getD i 0) i) t:=fun i v z=>PyProof.Rows.IntsAre.int_at hi i v (by rw [Array.getElem?_toList]; exact z)
        refine loopL ((Walks.list h3 _ l nI its).toS) s.heap.objs.size nf (fun i=>ns.getD i 0) hv hb (its.size - 0) 0 _ (by omega) (Nat.zero_le _) ⟨⟨_,Heap.get?_push_size _ rfl,rfl,rfl⟩,(hl1.push _)⟩ ?S0 ?R0
        case S0=>exact SetL.new (Heap.get?_push_of_some _ g1)
        case R0=>
          intro s' m S'
          obtain ⟨h',g',d',tk',os'⟩:=s'
          have eg:g'=s.gens:=m.gens
          have ed:d'=s.drawn:=m.drawn
          have eo:os'=s.os:=m.os
          subst eg
          subst ed
          subst eo
          show wpAny _ _ _ _ _ _
          refine wpAny_pure ?_
          show wpAny _ _ (ret Value.none) _ _ _
          refine wpAny_pure ⟨rfl,h',tk',rfl,S',fun b o lb g=>?_⟩
          have b1:b≠s.heap.objs.size:=Nat.ne_of_lt lb
          have b2:b≠(s.heap.push { cls:=.type "set",dict:=none,data:=.set #[] 0 (.fresh 0 0 (!byTx w)) }).objs.size:=by
            rw [Heap.size_push]; exact Nat.ne_of_lt (Nat.lt_succ_of_lt lb)
          exact m.heap b o (by simp only [List.mem_cons,List.mem_singleton,List.not_mem_nil,or_false,not_or]; exact ⟨b1,b2⟩) (Heap.get?_push_of_some _ (Heap.get?_push_of_some _ g))
      · cases r2 with
        | error e=>exact hr2
        | ok fl2=>
          cases fl2 with
          | ret r=>
            obtain ⟨rfl,h',tk,rfl,S',kp⟩:=hr2
            repeat (any_goals first | assumption | wp_step)
            exact k _ _ S' kp
          | _=>exact hr2.elim
    | _=>exact hr.elim
end
end L2
set_option Elab.async false
set_option linter.all false
set_option maxRecDepth 100000
namespace L2
open PySem PySem.Spec PyProof.Rows
theorem qan:Slot "set_iterator" "__next__" "set_iterator.__next__":=
  .of (owner:="set_iterator") (n:="__next__") (by rw [typeLookup_type,builtinLookup_eq_fast]; kernel_rfl) (by decide +kernel) (by decide +kernel) (by decide +kernel) (by first | exact .inl (by decide +kernel) | exact .inr (by decide +kernel)) (by rw [isSubtype_type]; kernel_rfl)
theorem ybd:entryFor table "set_iterator.__next__" = some Builtin.«set_iterator.__next__»:=entryFor_of_tree (by kernel_rfl)
theorem qbj (v:Value):argsOk "set_iterator.__next__" ⟨[v],[]⟩:=by unfold argsOk; kernel_rfl
theorem qef:entryFor table "set.__iter__" = some Builtin.«frozenset.__iter__»:=
  entryFor_alias (id':="frozenset.__iter__") (by kernel_rfl) (by first | rfl | decide +kernel | (unfold String.splitOn; simp +decide [String.splitOnAux])) (by decide +kernel) (by kernel_rfl)
end L2
set_option Elab.async false
set_option linter.all false
set_option maxRecDepth 100000
namespace L2
open PySem PySem.Spec PyProof.Rows
theorem qfm {M:Model} {A:Around} {E:Value→Shared→Prop} {s:Shared} {n:Nat} {Q:Nat→Shared→Prop} (hn:n≠0) (h:∀ i d,i < n→Q i { s with drawn:=d }):wpAny M A (choose .order n) Q E s:=
  fun Γ p hΓ=>⟨hn,h _ _ (Nat.mod_lt _ (Nat.pos_of_ne_zero hn))⟩
theorem ydp {α:Type}:∀ (xs:List α) (i:Nat) (x:α),xs[i]?=some x→(x :: xs.eraseIdx i).Perm xs
  | [],i,x,h=>by simp at h
  | a :: xs,0,x,h=>by
    have e:a=x:=by simpa using h
    subst e
    exact List.Perm.refl _
  | a :: xs,i + 1,x,h=>by
    have ih:=ydp xs i x (by simpa using h)
    show (x :: a :: xs.eraseIdx i).Perm (a :: xs)
    exact (List.Perm.swap a x _).trans (ih.cons a)
theorem ydy {α:Type} {M:Model} {A:Around} {E:Value→Shared→Prop}:∀ (n:Nat) (xs:List α) (s:Shared) (Q:List α→Shared→Prop),xs.length=n→(∀ ys d,ys.Perm xs→Q ys { s with drawn:=d })→wpAny M A (drawOrder n xs) Q E s
  | 0,xs,s,Q,hl,h=>by
    unfold drawOrder
    have e:xs=[]:=List.length_eq_zero_iff.mp hl
    subst e
    exact wpAny_pure (h [] s.drawn (List.Perm.refl _))
  | n + 1,[],s,Q,hl,h=>by simp at hl
  | n + 1,x :: xs,s,Q,hl,h=>by
    unfold drawOrder
    refine wpAny_bind (qfm (by simp) fun i d hi=>?_)
    have hg:(x :: xs)[i]?=some (x :: xs)[i]:=List.getElem?_eq_getElem hi
    rw [hg]
    dsimp only
    refine wpAny_bind (ydy n _ _ _ (by rw [List.length_eraseIdx]; simp only [if_pos hi]; omega) fun ys d' hp=>?_)
    exact wpAny_pure (h _ d' ((hp.cons _).trans (ydp _ i _ hg)))
theorem qh6 {α:Type} (f:Nat→Nat):∀ (n k:Nat) (xs:List α) (out:Array α),xs.length=n→∃ ys:List α,ys.Perm xs∧(pickOrder.go f n k xs out).toList=out.toList++ys
  | 0,k,xs,out,hl=>⟨[],by rw [List.length_eq_zero_iff.mp hl],by unfold pickOrder.go; simp⟩
  | n + 1,k,xs,out,hl=>by
    have hlt:f k % xs.length < xs.length:=Nat.mod_lt _ (by omega)
    have hg:xs[f k % xs.length]?=some xs[f k % xs.length]:=List.getElem?_eq_getElem hlt
    unfold pickOrder.go
    rw [hg]
    dsimp only
    obtain ⟨ys,hp,e⟩:=qh6 f n (k + 1) (xs.eraseIdx (f k % xs.length)) (out.push xs[f k % xs.length]) (by rw [List.length_eraseIdx,if_pos hlt]; omega)
    refine ⟨xs[f k % xs.length] :: ys,(hp.cons _).trans (ydp _ _ _ hg),?_⟩
    rw [e]
    simp
theorem yey {α:Type} (f:Nat→Nat) (xs:Array α):(pickOrder f xs).toList.Perm xs.toList:=by
  obtain ⟨ys,hp,e⟩:=qh6 f xs.size 0 xs.toList #[] (by simp)
  unfold pickOrder
  rw [e]
  simpa using hp
section
variable {P:Program} {w:World} {A:Around} {E:Value→Shared→Prop} {s:Shared} {a:Addr} {o:Obj} {es:Array (Int×Value)} {ep:Nat} {t:SetTable}
theorem qh5 {Q:Option (Value×Nat)→Shared→Prop} {slot i:Nat} (hb:byTx w=true) (g:s.heap.get? a=some o) (gd:o.data=.set es ep t) (hf:t.fits es.size=true)
    (h:Q (((pickOrder (w.params.setOrder a ep) es).toList.map (·.2))[i]?.map fun v=>(v,slot)) s):wpAny (model P w) A (setNext a slot i ep) Q E s:=by
  unfold setNext
  refine wpAny_bind (wpAny_setState_of g gd hf ?_)
  dsimp only
  unfold setsByText
  refine wpAny_bind (wpAny_bind (wpAny_askSetting (wpAny_pure ?_)))
  have hb':w.params.followText "set-order" = true:=hb
  show wpAny _ _ (if w.params.followText "set-order" = true then _ else _) _ _ _
  rw [if_pos hb',if_neg (by simp)]
  unfold setWalk
  refine wpAny_bind (wpAny_bind (wpAny_setState_of g gd hf ?_))
  dsimp only
  unfold setsByText
  refine wpAny_bind (wpAny_bind (wpAny_askSetting (wpAny_pure ?_)))
  show wpAny _ _ (if w.params.followText "set-order" = true then _ else _) _ _ _
  rw [if_pos hb']
  refine wpAny_bind (wpAny_askSetting (wpAny_pure ?_))
  refine wpAny_pure ?_
  rw [List.getElem?_map,Array.getElem?_toList,Option.map_map] at h
  exact h
theorem next_led {Q:Option (Value×Nat)→Shared→Prop} {slot i:Nat} (hb:byTx w=false) (g:s.heap.get? a=some o) (gd:o.data=.set es ep t) (hf:t.fits es.size=true) (hl:t.led=true) (hp:t.plain=true∨es.size≤1)
    (h:Q (match es[SetTable.below t.place slot]?,t.place[SetTable.below t.place slot]? with | some (_,x),some j=>some (x,j + 1) | _,_=>none) s):wpAny (model P w) A (setNext a slot i ep) Q E s:=by
  unfold setNext
  refine wpAny_bind (wpAny_setState_of g gd hf ?_)
  dsimp only
  unfold setsByText
  refine wpAny_bind (wpAny_bind (wpAny_askSetting (wpAny_pure ?_)))
  have hb':w.params.followText "set-order" = false:=hb
  show wpAny _ _ (if w.params.followText "set-order" = true then _ else _) _ _ _
  rw [if_neg (by rw [hb']; exact Bool.false_ne_true)]
  refine wpAny_ite_split (fun hd=>?_) fun _=>?_
  · exfalso
    have hd':(!t.plain && decide (es.size > 1))=true:=hd
    rw [Bool.and_eq_true,decide_eq_true_eq] at hd'
    rcases hp with hp | hp
    · rw [hp] at hd'; exact absurd hd'.1 (by decide)
    · omega
  · refine wpAny_bind ?_
    refine wpAny_ite_split (fun hd=>?_) fun _=>?_
    · exfalso
      have hd':(!t.led && !es.isEmpty)=true:=hd
      rw [hl] at hd'
      exact absurd hd' (by simp)
    · exact wpAny_pure (wpAny_pure h)
end
end L2
set_option Elab.async false
set_option linter.all false
set_option maxRecDepth 100000
namespace L2
open PySem PySem.Spec PyProof.Rows
theorem ycp:Slot "set_iterator" "__iter__" "set_iterator.__iter__":=
  .of (owner:="set_iterator") (n:="__iter__") (by rw [typeLookup_type,builtinLookup_eq_fast]; kernel_rfl) (by decide +kernel) (by decide +kernel) (by decide +kernel) (by first | exact .inl (by decide +kernel) | exact .inr (by decide +kernel)) (by rw [isSubtype_type]; kernel_rfl)
theorem yd2:entryFor table "set_iterator.__iter__" = some Builtin.«dict_keyiterator.__iter__»:=
  entryFor_alias (id':="dict_keyiterator.__iter__") (by kernel_rfl) (by first | rfl | decide +kernel | (unfold String.splitOn; simp +decide [String.splitOnAux])) (by decide +kernel) (by kernel_rfl)
theorem qen (v:Value):argsOk "set_iterator.__iter__" ⟨[v],[]⟩:=by unfold argsOk; kernel_rfl
def SI (h:Heap) (I:Addr) (f:Value) (i:Nat) (a:Addr) (n ep:Nat):Prop:=h.get? I=some { cls:=.type "set_iterator",dict:=none,data:=.fields #[f,rawInt i,.ref a,rawInt n,rawInt ep],slots:=#[] }
section
variable {P:Program} {w:World} {A:Around} {E:Value→Shared→Prop} {s:Shared}
theorem qf9 {I:Addr} {Q:Value→Shared→Prop} (hT:s.TypeIs (.ref I) "set_iterator") (h:Q (.ref I) s):wpAny (model P w) A (pyIter (.ref I)) Q E s:=by
  refine wpAny_pyIter_slot hT ycp (wpAny_call_entry ycp hT yd2 ?_ (qen _))
  show wpAny _ _ (ret (.ref I)) _ _ s
  exact wpAny_pure ⟨_,rfl,"set_iterator",_,hT,qan.lookup,h⟩
theorem ye2 {Q:Fin→Shared→Prop} (hh:A.handled=none) (h:∀ h' e,(∀ b o,s.heap.get? b=some o→h'.get? b=some o)→(∃ o,h'.get? e=some o∧o.cls=.type "StopIteration")→E (.ref e) { s with heap:=h' }) :
    wpAny (model P w) A (newExc (.type "StopIteration") [] >>= fun e=>(raiseNew e:Sem Fin)) Q E s:=by
  refine wpAny_bind ?_
  simp only [newExc,newTuple]
  refine wpAny_bind (wpAny_newObj_type ?_ (by size_fits))
  refine wpAny_bind (m:=firstArgMember _ _) ?_
  refine wpAny_of_eq (a:=Value.none) (by first | rfl | (simp only [firstArgMember]; rfl)) ?_
  refine wpAny_newObj_type ?_ (by size_fits)
  simp only [raiseNew]
  refine wpAny_bind (wpAny_handled ?_)
  rw [hh]
  refine wpAny_bind (wpAny_pure (wpAny_throw ?_))
  exact h _ _ (fun b o g=>Heap.get?_push_of_some _ (Heap.get?_push_of_some _ g)) ⟨_,Heap.get?_push_size _ rfl,rfl⟩
theorem yd7 {h':Heap} {I:Addr} (k:∀ b o,b≠I→s.heap.get? b=some o→h'.get? b=some o):Moved [I] (fun x y=>y=x) s { s with heap:=h' }:=
  ⟨fun b o hb g=>k b o (fun z=>hb (by rw [z]; exact List.mem_singleton.mpr rfl)) g,rfl,rfl,rfl,Nat.le_refl _⟩
theorem yjd (hh:A.handled=none) {I a:Addr} {o:Obj} {es:Array (Int×Value)} {ep:Nat} {t:SetTable} (nI:a≠I) (gd:o.data=.set es ep t) (hf:t.fits es.size=true) (F:Nat→Nat) (vs:List Value) (hvs:vs.length=es.size)
    (hn:∀ (B:Around) (D:Value→Shared→Prop) (s:Shared) (i:Nat) (Q:Option (Value×Nat)→Shared→Prop),s.heap.get? a=some o→i≤es.size→Q (vs[i]?.map fun v=>(v,F (i + 1))) s→wpAny (model P w) B (setNext a (F i) i ep) Q D s) :
    WalksS P w A I [I,a] [I] (fun x y=>y=x) es.size (fun i v=>vs[i]?=some v) (fun i s=>SI s.heap I (rawInt (F i)) i a es.size ep∧s.heap.get? a=some o) where
  sub:=fun b hb=>by rw [List.mem_singleton] at hb; rw [hb]; exact List.mem_cons_self ..
  grefl:=fun _=>rfl
  gtrans:=fun _ _ _ h1 h2=>h2.trans h1
  frame:=fun i s h' tk st _ k=>⟨k I (by simp) _ st.1,k a (by simp) _ st.2⟩
  item:=fun i s Q E hi st hQ=>by
    obtain ⟨gI,ga⟩:=st
    have hT:s.TypeIs (.ref I) "set_iterator":=⟨_,gI,rfl⟩
    have hv:vs[i]?=some vs[i]:=List.getElem?_eq_getElem (by omega)
    unfold pyNext
    refine wpAny_bind (wpAny_attempt (wpAny_callSpecial?_slot (name:=Str.ofString "__next__") hT qan (wpAny_call_entry qan hT ybd ?_ (qbj _))))
    show wpAny _ _ (fieldsOf (.ref I) >>= _) _ _ s
    refine wpAny_bind (wpAny_fieldsOf gI rfl ?_)
    show wpAny _ _ (setEntries a >>= _) _ _ s
    refine wpAny_bind (wpAny_setEntries_of ga gd hf ?_)
    rw [if_neg (by simp)]
    show wpAny _ _ (setNext a (F i) i ep >>= _) _ _ s
    refine wpAny_bind (hn _ _ s i _ ga (by omega) ?_)
    rw [hv]
    show wpAny _ _ (setField (.ref I) 0 (rawInt (F (i + 1))) >>= _) _ _ s
    refine wpAny_bind (wpAny_setField_rec gI (by simp) fun m1 g1 e1=>?_)
    refine wpAny_bind (wpAny_setField_rec g1 (by simp) fun m2 g2 e2=>?_)
    refine wpAny_pure ⟨_,rfl,wpAny_pure (hQ _ _ hv ⟨?_,?_⟩ (yd7 fun b ob hb g=>(e2.extBut _ _ hb (e1.extBut _ _ hb g))))⟩
    · exact g2
    · exact e2.extBut _ _ nI (e1.extBut _ _ nI ga)
  done:=fun s Q E st hQ=>by
    obtain ⟨gI,ga⟩:=st
    have hT:s.TypeIs (.ref I) "set_iterator":=⟨_,gI,rfl⟩
    have hv:vs[es.size]?=none:=List.getElem?_eq_none (by omega)
    unfold pyNext
    refine wpAny_bind (wpAny_attempt (wpAny_callSpecial?_slot (name:=Str.ofString "__next__") hT qan (wpAny_call_entry qan hT ybd ?_ (qbj _))))
    show wpAny _ _ (fieldsOf (.ref I) >>= _) _ _ s
    refine wpAny_bind (wpAny_fieldsOf gI rfl ?_)
    show wpAny _ _ (setEntries a >>= _) _ _ s
    refine wpAny_bind (wpAny_setEntries_of ga gd hf ?_)
    rw [if_neg (by simp)]
    show wpAny _ _ (setNext a (F es.size) es.size ep >>= _) _ _ s
    refine wpAny_bind (hn _ _ s es.size _ ga (Nat.le_refl _) ?_)
    rw [hv]
    show wpAny _ _ (setField (.ref I) 2 Value.none >>= _) _ _ s
    refine wpAny_bind (wpAny_setField_rec gI (by simp) fun m1 g1 e1=>?_)
    refine ye2 (by first | exact hh | simpa using hh) fun m2 e kp he=>?_
    obtain ⟨ob,go,gc⟩:=he
    refine wpAny_bind (wpAny_isInstance (T:="StopIteration") (b:=true) ⟨ob,go,gc⟩ isSubtype_stop ?_)
    exact wpAny_pure (hQ _ (yd7 fun b ob hb g=>kp b ob (e1.extBut _ _ hb g)))
  self:=fun i s Q E st hQ=>by
    obtain ⟨gI,ga⟩:=st
    exact qf9 ⟨_,gI,rfl⟩ hQ
theorem yh8 (hh:A.handled=none) {I a T:Addr} {o:Obj} {es:Array (Int×Value)} {ep:Nat} {t:SetTable} (nI:a≠I) (nT:T≠I) (gd:o.data=.set es ep t) (hf:t.fits es.size=true) (ps:List Nat) (hps:ps.length=es.size) (hlt:∀ p∈ps,p < es.size) (vs:List Value) (hvs:vs=ps.map fun p=>(es.getD p (0,.none)).2) :
    WalksS P w A I [I,a,T] [I] (fun x y=>y=x) es.size (fun i v=>vs[i]?=some v) (fun i s=>SI s.heap I (.ref T) i a es.size ep∧s.heap.get? a=some o∧s.heap.get? T=some { cls:=.type "tuple",data:=.seq (ps.map fun (p:Nat)=>rawInt p).toArray }) where
  sub:=fun b hb=>by rw [List.mem_singleton] at hb; rw [hb]; exact List.mem_cons_self ..
  grefl:=fun _=>rfl
  gtrans:=fun _ _ _ h1 h2=>h2.trans h1
  frame:=fun i s h' tk st _ k=>⟨k I (by simp) _ st.1,k a (by simp) _ st.2.1,k T (by simp) _ st.2.2⟩
  item:=fun i s Q E hi st hQ=>by
    obtain ⟨gI,ga,gT⟩:=st
    have hT:s.TypeIs (.ref I) "set_iterator":=⟨_,gI,rfl⟩
    have hp:ps[i]?=some ps[i]:=List.getElem?_eq_getElem (by omega)
    have hpl:ps[i] < es.size:=hlt _ (List.getElem_mem _)
    have he:es[ps[i]]?=some es[ps[i]]:=Array.getElem?_eq_getElem hpl
    have hv:vs[i]?=some (es[ps[i]]).2:=by
      rw [hvs,List.getElem?_map,hp,Option.map_some,Array.getD_eq_getD_getElem?,he]
      rfl
    have hpi:(ps.map fun (p:Nat)=>rawInt p).toArray[i]?=some (rawInt ps[i]):=by
      rw [List.getElem?_toArray,List.getElem?_map,hp]; rfl
    unfold pyNext
    refine wpAny_bind (wpAny_attempt (wpAny_callSpecial?_slot (name:=Str.ofString "__next__") hT qan (wpAny_call_entry qan hT ybd ?_ (qbj _))))
    show wpAny _ _ (fieldsOf (.ref I) >>= _) _ _ s
    refine wpAny_bind (wpAny_fieldsOf gI rfl ?_)
    show wpAny _ _ (setEntries a >>= _) _ _ s
    refine wpAny_bind (wpAny_setEntries_of ga gd hf ?_)
    rw [if_neg (by simp)]
    show wpAny _ _ (seqItems? (.ref T) >>= _) _ _ s
    refine wpAny_bind (wpAny_seqItems gT rfl ?_)
    dsimp only
    rw [show ((i:Int)).toNat=i from rfl,hpi]
    show wpAny _ _ (setNextDrawn a ps[i] ep >>= _) _ _ s
    unfold setNextDrawn
    refine wpAny_bind (wpAny_bind (wpAny_setState_of ga gd hf ?_))
    dsimp only
    rw [if_neg (by simp),he]
    refine wpAny_pure ?_
    show wpAny _ _ (setField (.ref I) 1 (rawInt (i + 1)) >>= _) _ _ s
    refine wpAny_bind (wpAny_setField_rec gI (by simp) fun m1 g1 e1=>?_)
    refine wpAny_pure ⟨_,rfl,wpAny_pure (hQ _ _ hv ⟨?_,?_,?_⟩ (yd7 fun b ob hb g=>e1.extBut _ _ hb g))⟩
    · exact g1
    · exact e1.extBut _ _ nI ga
    · exact e1.extBut _ _ nT gT
  done:=fun s Q E st hQ=>by
    obtain ⟨gI,ga,gT⟩:=st
    have hT:s.TypeIs (.ref I) "set_iterator":=⟨_,gI,rfl⟩
    have hpi:(ps.map fun (p:Nat)=>rawInt p).toArray[es.size]?=none:=by
      rw [List.getElem?_toArray]; exact List.getElem?_eq_none (by rw [List.length_map]; omega)
    unfold pyNext
    refine wpAny_bind (wpAny_attempt (wpAny_callSpecial?_slot (name:=Str.ofString "__next__") hT qan (wpAny_call_entry qan hT ybd ?_ (qbj _))))
    show wpAny _ _ (fieldsOf (.ref I) >>= _) _ _ s
    refine wpAny_bind (wpAny_fieldsOf gI rfl ?_)
    show wpAny _ _ (setEntries a >>= _) _ _ s
    refine wpAny_bind (wpAny_setEntries_of ga gd hf ?_)
    rw [if_neg (by simp)]
    show wpAny _ _ (seqItems? (.ref T) >>= _) _ _ s
    refine wpAny_bind (wpAny_seqItems gT rfl ?_)
    dsimp only
    rw [show ((es.size:Int)).toNat=es.size from rfl,hpi]
    show wpAny _ _ (setField (.ref I) 0 (rawInt 0) >>= _) _ _ s
    refine wpAny_bind (wpAny_setField_rec gI (by simp) fun m0 g0 e0=>?_)
    refine wpAny_bind (wpAny_setField_rec g0 (by simp) fun m1 g1 e1=>?_)
    refine ye2 (by first | exact hh | simpa using hh) fun m2 e kp he=>?_
    obtain ⟨ob,go,gc⟩:=he
    refine wpAny_bind (wpAny_isInstance (T:="StopIteration") (b:=true) ⟨ob,go,gc⟩ isSubtype_stop ?_)
    exact wpAny_pure (hQ _ (yd7 fun b ob hb g=>kp b ob (e1.extBut _ _ hb (e0.extBut _ _ hb g))))
  self:=fun i s Q E st hQ=>by
    obtain ⟨gI,ga,gT⟩:=st
    exact qf9 ⟨_,gI,rfl⟩ hQ
end
end L2
set_option Elab.async false
set_option linter.all false
set_option maxRecDepth 100000
namespace L2
open PySem PySem.Spec PyProof.Rows
theorem qiz {t:SetTable} {n:Nat} (h:t.fits n=true):t.place.size=n:=by
  unfold SetTable.fits at h
  rw [Bool.and_eq_true,beq_iff_eq] at h
  exact h.1
def qhd (t:SetTable) (i:Nat):Nat:=if i=0 then 0 else t.place.getD (i - 1) 0 + 1
theorem qf3 {t:SetTable} (hs:Srt t.place) {i:Nat} (hi:i≤t.place.size):SetTable.below t.place (qhd t i)=i:=by
  by_cases h0:i=0
  · subst h0
    exact yhc hs (Nat.zero_le _) (fun k x hk=>absurd hk (Nat.not_lt_zero _)) fun k x _ _=>Nat.zero_le _
  · have hlt:i - 1 < t.place.size:=by omega
    have hg:t.place[i - 1]?=some (t.place.getD (i - 1) 0):=by
      rw [Array.getD_eq_getD_getElem?,Array.getElem?_eq_getElem hlt]; rfl
    have e:qhd t i=t.place.getD (i - 1) 0 + 1:=by unfold qhd; rw [if_neg h0]
    rw [e]
    refine yhc hs hi (fun k x hk hx=>?_) fun k x hk hx=>?_
    · by_cases hk2:k=i - 1
      · subst hk2; rw [hg] at hx; cases hx; omega
      · have:=hs k (i - 1) x _ (by omega) hx hg; omega
    · have:=hs (i - 1) k _ x (by omega) hg hx; omega
section
variable {P:Program} {w:World} {A:Around} {E:Value→Shared→Prop} {s:Shared} {a:Addr} {ks:List Int}
def WalkOf (P:Program) (w:World) (s:Shared) (a:Addr) (ks:List Int) (I:Addr) (h':Heap) (d:Drawn):Prop:=
  ∃ (n:Nat) (fp:List Addr) (vs:List Value) (ns:List Int) (St:Nat→Shared→Prop),n=ks.length∧(∀ B:Around,B.handled=none→WalksS P w B I fp [I] (fun x y=>y=x) n (fun i v=>vs[i]?=some v) St)∧St 0 { s with heap:=h',drawn:=d }∧
    s.heap.objs.size≤I∧(∀ b∈fp,b=a∨s.heap.objs.size≤b)∧(∀ b o,s.heap.get? b=some o→h'.get? b=some o)∧IntsAre vs ns∧ns.Perm ks
theorem iterL {Q:Value→Shared→Prop} (hS:SetL P w s.heap a ks) (k:∀ I h' d,WalkOf P w s a ks I h' d→Q (.ref I) { s with heap:=h',drawn:=d }):wpAny (model P w) A (pyIter (.ref a)) Q E s:=by
  obtain ⟨o,es,ep,t,g,gx,gd,el,⟨ns,hi,hp⟩,hb,hf,ht,hl⟩:=hS
  have hT:s.TypeIs (.ref a) "set":=⟨o,g,gx.1⟩
  have hlen:es.size=ks.length:=by
    have h1:=IntsAre.length hi
    rw [List.length_map,Array.length_toList] at h1
    rw [h1,hp.length_eq]
  have hpl:t.place.size=es.size:=qiz hf
  have ha:a < s.heap.objs.size:=Heap.lt_size g
  refine wpAny_pyIter_slot hT F.slot_set_iter (wpAny_call_entry F.slot_set_iter hT qef ?_ (F.args_set_iter_1 _))
  show wpAny _ _ (Builtin.Frozenset.sizeOf a >>= _) _ _ s
  refine wpAny_bind ?_
  unfold Builtin.Frozenset.sizeOf
  refine wpAny_bind (wpAny_setEntries_of g gd hf ?_)
  refine wpAny_pure ?_
  refine wpAny_bind ?_
  refine wpAny_bind ?_
  refine wpAny_setState_of g gd hf ?_
  dsimp only
  unfold setsByText
  refine wpAny_bind (wpAny_bind (wpAny_askSetting (wpAny_pure ?_)))
  refine wpAny_pure ?_
  dsimp only
  refine wpAny_ite_split (fun hd=>?_) fun hd=>?_
  · refine wpAny_bind (ydy es.size (List.range es.size) s _ (by simp) fun ps d pp=>?_)
    have hpsl:ps.length=es.size:=by rw [pp.length_eq,List.length_range]
    refine wpAny_bind (wpAny_newTuple ?_ (by rw [List.length_map,hpsl]; exact fits_of_scanBound hb))
    have gT:(s.heap.push { cls:=.type "tuple",data:=.seq (ps.map fun (p:Nat)=>rawInt p).toArray }).get? s.heap.objs.size=some { cls:=.type "tuple",data:=.seq (ps.map fun (p:Nat)=>rawInt p).toArray }:=Heap.get?_push_size _ rfl
    have ga:(s.heap.push { cls:=.type "tuple",data:=.seq (ps.map fun (p:Nat)=>rawInt p).toArray }).get? a=some o:=Heap.get?_push_of_some _ g
    refine wpAny_bind (wpAny_setEpoch_of (s:={ s with heap:=s.heap.push { cls:=.type "tuple",data:=.seq (ps.map fun (p:Nat)=>rawInt p).toArray },drawn:=d }) ga gd hf ?_)
    refine wpAny_bind (wpAny_newObj_type ?_ (by size_fits))
    have z1:(s.heap.push { cls:=.type "tuple",data:=.seq (ps.map fun (p:Nat)=>rawInt p).toArray }).objs.size=s.heap.objs.size + 1:=Heap.size_push ..
    have hvp:(ps.map fun p=>(es.getD p (0,.none)).2).Perm (es.toList.map (·.2)):=by
      refine (pp.map _).trans (List.Perm.of_eq ?_)
      refine List.ext_getElem (by simp) fun i h1 h2=>?_
      have hi:i < es.size:=by simpa using h2
      rw [List.getElem_map,List.getElem_map,List.getElem_range,Array.getElem_toList]
      show (es.getD i (0,.none)).2=(es[i]).2
      rw [Array.getD_eq_getD_getElem?,Array.getElem?_eq_getElem hi]
      rfl
    obtain ⟨n2,i2,p2⟩:=ydi hvp hi
    have nI:a≠(s.heap.push { cls:=.type "tuple",data:=.seq (ps.map fun (p:Nat)=>rawInt p).toArray }).objs.size:=by rw [z1]; exact neN (.inl (Nat.lt_succ_of_lt ha))
    have nT:s.heap.objs.size≠(s.heap.push { cls:=.type "tuple",data:=.seq (ps.map fun (p:Nat)=>rawInt p).toArray }).objs.size:=by rw [z1]; exact neN (.inl (Nat.lt_succ_self _))
    refine wpAny_pure ⟨_,rfl,"set_iterator",_,⟨_,Heap.get?_push_size _ rfl,rfl⟩,qan.lookup,k _ _ d ?_⟩
    refine ⟨es.size,_,_,n2,_,hlen,fun B hB=>yh8 hB nI nT gd hf ps hpsl (fun p hp=>List.mem_range.mp (pp.mem_iff.mp hp)) _ rfl,⟨Heap.get?_push_size _ rfl,Heap.get?_push_of_some _ ga,Heap.get?_push_of_some _ gT⟩,by rw [z1]; exact Nat.le_succ _,fun b hb=>?_,fun b ob gb=>Heap.get?_push_of_some _ (Heap.get?_push_of_some _ gb),i2,p2.trans hp⟩
    have hb':b=(s.heap.push { cls:=.type "tuple",data:=.seq (ps.map fun (p:Nat)=>rawInt p).toArray }).objs.size∨b=a∨b=s.heap.objs.size:=by simpa using hb
    rcases hb' with rfl | rfl | rfl
    · exact .inr (by rw [z1]; exact Nat.le_succ _)
    · exact .inl rfl
    · exact .inr (Nat.le_refl _)
  · refine wpAny_bind (wpAny_pure ?_)
    refine wpAny_bind (wpAny_setEpoch_of g gd hf ?_)
    refine wpAny_bind (wpAny_newObj_type ?_ (by size_fits))
    have nI:a≠s.heap.objs.size:=neN (.inl ha)
    have es0:s={ s with drawn:=s.drawn }:=by cases s; rfl
    have fpk:∀ b∈[s.heap.objs.size,a],b=a∨s.heap.objs.size≤b:=fun b hb=>by
      have hb':b=s.heap.objs.size∨b=a:=by simpa using hb
      rcases hb' with rfl | rfl
      · exact .inr (Nat.le_refl _)
      · exact .inl rfl
    refine wpAny_pure ⟨_,rfl,"set_iterator",_,⟨_,Heap.get?_push_size _ rfl,rfl⟩,qan.lookup,?_⟩
    have key:WalkOf P w s a ks s.heap.objs.size (s.heap.push { cls:=.type "set_iterator",data:=.fields #[rawInt 0,rawInt 0,.ref a,rawInt es.size,rawInt ep] }) s.drawn:=by
      by_cases hbt:byTx w=true
      · have hvp:((pickOrder (w.params.setOrder a ep) es).toList.map (·.2)).Perm (es.toList.map (·.2)):=(yey _ es).map _
        obtain ⟨n2,i2,p2⟩:=ydi hvp hi
        refine ⟨es.size,_,(pickOrder (w.params.setOrder a ep) es).toList.map (·.2),n2,_,hlen,fun B hB=>yjd hB nI gd hf (fun _=>0) _ (by rw [hvp.length_eq,List.length_map,Array.length_toList]) fun C D s i Q g1 hi1 q=>qh5 hbt g1 gd hf q,⟨Heap.get?_push_size _ rfl,Heap.get?_push_of_some _ g⟩,Nat.le_refl _,fpk,fun b ob gb=>Heap.get?_push_of_some _ gb,i2,p2.trans hp⟩
      · have hbf:byTx w=false:=eq_false_of_ne_true hbt
        have hled:t.led=true:=hl.resolve_left hbt
        have hpz:t.plain=true∨es.size≤1:=by
          have hd':¬ ((!byTx w && (!t.plain && decide (es.size > 1)))=true):=hd
          rw [hbf] at hd'
          cases hq:t.plain with
          | true=>exact .inl rfl
          | false=>
            right
            rw [hq] at hd'
            simpa using hd'
        refine ⟨es.size,_,es.toList.map (·.2),ns,_,hlen,fun B hB=>yjd hB nI gd hf (qhd t) _ (by rw [List.length_map,Array.length_toList]) fun C D s i Q g1 hi1 q=>next_led hbf g1 gd hf hled hpz ?_,⟨Heap.get?_push_size _ rfl,Heap.get?_push_of_some _ g⟩,Nat.le_refl _,fpk,fun b ob gb=>Heap.get?_push_of_some _ gb,hi,hp⟩
        rw [qf3 ht.1 (by omega)]
        by_cases hlt:i < es.size
        · have e1:es[i]?=some es[i]:=Array.getElem?_eq_getElem hlt
          have e2:t.place[i]?=some (t.place.getD i 0):=by
            rw [Array.getD_eq_getD_getElem?,Array.getElem?_eq_getElem (by omega)]; rfl
          rw [List.getElem?_map,Array.getElem?_toList,e1] at q
          rw [e1,e2]
          exact q
        · have e1:es[i]?=none:=Array.getElem?_eq_none (by omega)
          rw [List.getElem?_map,Array.getElem?_toList,e1] at q
          rw [e1]
          exact q
    have z:=k _ _ _ key
    exact z
end
end L2
set_option Elab.async false
set_option linter.all false
set_option maxRecDepth 100000
namespace L2
open PySem PySem.Spec PyProof.Rows
theorem len_set:typeLookup (.type "set") "__len__" = pure (some (.builtin "set.__len__")):=by rw [typeLookup_type,builtinLookup_eq_fast]; kernel_rfl
section
variable {P:Program} {w:World} {A:Around} {E:Value→Shared→Prop} {s:Shared} {a:Addr} {ks:List Int}
theorem collectL {Q:List Value→Shared→Prop} (hh:A.handled=none) (hS:SetL P w s.heap a ks) (hz:ks.length≤4000)
    (k:∀ vs ns h' d tk,IntsAre vs ns→ns.Perm ks→s.heap.objs.size < h'.objs.size→(∀ b o,s.heap.get? b=some o→h'.get? b=some o)→Q vs { s with heap:=h',drawn:=d,toks:=tk }):wpAny (model P w) A (collect (.ref a)) Q E s:=by
  have hT:s.TypeIs (.ref a) "set":=by
    obtain ⟨o,es,ep,t,g,gx,_⟩:=hS
    exact ⟨o,g,gx.1⟩
  have ha:a < s.heap.objs.size:=by
    obtain ⟨o,es,ep,t,g,gx,_⟩:=hS
    exact Heap.lt_size g
  unfold collect
  refine wpAny_bind (wpAny_runValue (codeAny_builtin F.entry_proto_collect ?_))
  rw [Around.under_plainId F.plain_proto_collect _]
  show wpAny _ A.in1 (newList [] >>= fun l=>again (.builtin "list.__iadd__" ⟨[l,.ref a],[]⟩)) _ _ s
  refine wpAny_bind (wpAny_newObj_type ?_)
  refine wpAny_pure ⟨plainId_quiet F.plain_list_iadd _,?_⟩
  refine codeAny_builtin F.entry_list_iadd ?_
  rw [Around.under_plainId F.plain_list_iadd _]
  show wpAny _ A.in1 (Builtin.List.listExtendWith (.ref s.heap.objs.size) (.ref a) (.ref s.heap.objs.size)) _ _ _
  generalize hH:s.heap.push { cls:=.type "list",data:=.seq ([]:List Value).toArray }=H1
  have g0:H1.get? s.heap.objs.size=some { cls:=.type "list",data:=.seq ([]:List Value).toArray }:=by rw [← hH]; exact Heap.get?_push_size _ rfl
  have z1:H1.objs.size=s.heap.objs.size + 1:=by rw [← hH]; exact Heap.size_push ..
  have kp1:∀ b o,s.heap.get? b=some o→H1.get? b=some o:=fun b o g=>by rw [← hH]; exact Heap.get?_push_of_some _ g
  have hS1:SetL P w H1 a ks:=hS.at fun o g=>kp1 a o g
  have hT1:Shared.TypeIs { s with heap:=H1 } (.ref a) "set":=by
    obtain ⟨o,es,ep,t,g,gx,_⟩:=hS1
    exact ⟨o,g,gx.1⟩
  unfold Builtin.List.listExtendWith
  refine wpAny_bind (wpAny_typeOf hT1 ?_)
  have n1:Builtin.List.listSameRef (.ref s.heap.objs.size) (.ref a)=false:=by
    have:s.heap.objs.size≠a:=neN (.inr ha)
    simp [Builtin.List.listSameRef,this]
  rw [if_neg (by rw [n1]; decide)]
  refine wpAny_bind (iterL (s:={ s with heap:=H1 }) hS1 fun I h' d W=>?_)
  refine wpAny_bind (wpAny_holding ?_)
  have hT2:Shared.TypeIs { s with heap:=h',drawn:=d } (.ref a) "set":=by
    obtain ⟨n,fp,vs,ns,St,e,W1,st,lI,fpk,kp,i2,p2⟩:=W
    obtain ⟨o,g,c⟩:=hT1
    exact ⟨o,kp _ _ g,c⟩
  unfold Builtin.List.listLengthHint
  refine wpAny_bind (wpAny_specialOf hT2 len_set ?_)
  wp_delta
  refine wpAny_bind (wpAny_isInstance (T:="set") (b:=true) hT2 (by rw [isSubtype_type]; kernel_rfl) ?_)
  show wpAny _ A.in1 (typeOf (Value.ref a) >>= _) _ _ _
  refine wpAny_bind (wpAny_typeOf hT2 ?_)
  refine wpAny_pure ?_
  rw [if_pos (by decide)]
  refine wpAny_bind (wpAny_rule ?_)
  obtain ⟨n,fp,vs,ns,St,en,W1,st,lI,fpk,kp,i2,p2⟩:=W
  have lI':s.heap.objs.size + 1≤I:=by rw [← z1]; exact lI
  have hd:s.heap.objs.size∉fp:=fun hm=>by
    rcases fpk _ hm with z | z
    · exact absurd ha (by rw [← z]; exact Nat.lt_irrefl _)
    · have z':s.heap.objs.size + 1≤s.heap.objs.size:=by rw [← z1]; exact z
      exact absurd z' (Nat.not_succ_le_self _)
  have gS:h'.get? s.heap.objs.size=some { cls:=.type "list",data:=.seq ([]:List Value).toArray }:=kp _ _ g0
  refine wpAny_bind ?_
  show wpAny _ _ (updateSeq s.heap.objs.size (·.push .none) >>= fun _=>updateSeq s.heap.objs.size (·.pop)) _ _ _
  refine wpAny_bind (wpAny_updateSeq gS rfl ?_ (by simp) (by simp))
  have gS1:=Heap.get?_update_self (Obj.mapSeq (·.push Value.none)) gS rfl
  refine wpAny_updateSeq gS1 rfl ?_ (by simp; decide) (by simp)
  have gS2:=Heap.get?_update_self (Obj.mapSeq (·.pop)) gS1 rfl
  have oth:∀ b o,b≠s.heap.objs.size→h'.get? b=some o→((h'.update s.heap.objs.size (Obj.mapSeq (·.push Value.none))).update s.heap.objs.size (Obj.mapSeq (·.pop))).get? b=some o:=fun b o hb g=>by
    rw [Heap.get?_update_other _ _ (Ne.symm hb),Heap.get?_update_other _ _ (Ne.symm hb)]
    exact g
  have st2:=(W1 A.in1 (by simpa using hh)).frame 0 _ ((h'.update s.heap.objs.size (Obj.mapSeq (·.push Value.none))).update s.heap.objs.size (Obj.mapSeq (·.pop))) s.toks st (Nat.le_refl _) fun b hb o g=>oth b o (fun z=>hd (z ▸ hb)) g
  have hvl:n≤sizeLine:=by rw [en]; exact qc2 (by omega)
  refine wpAny_pure ⟨plainId_quiet F.plain_extend_loop _,?_⟩
  refine codeAny_extend_loopS (W1 A.in1 (by simpa using hh)) hvl _ hd _ n 0 _ _ _ rfl (Nat.zero_le _) st2 gS2 ⟨rfl,fun j v z=>by simp at z⟩ fun s2 acc c m g2 it=>?_
  show wpAny _ A (load s.heap.objs.size >>= _) _ _ s2
  refine wpAny_bind (wpAny_load g2 ?_)
  have ev:acc.toList=vs:=by
    have hl:acc.size=n:=it.1
    have hvn:vs.length=n:=by
      have h1:=IntsAre.length i2
      rw [h1,p2.length_eq,en]
    refine List.ext_getElem? fun j=>?_
    cases hj:acc.toList[j]? with
    | none=>
      have:=List.getElem?_eq_none_iff.mp hj
      rw [Array.length_toList] at this
      rw [List.getElem?_eq_none (by omega)]
    | some v=>exact (it.2 j v (by rw [← Array.getElem?_toList]; exact hj)).symm
  obtain ⟨h2,g',d2,tk,os⟩:=s2
  have eg:g'=s.gens:=m.gens
  have ed:d2=d:=m.drawn
  have eo:os=s.os:=m.os
  subst eg
  subst ed
  subst eo
  refine wpAny_pure ?_
  show Q acc.toList _
  rw [ev]
  refine k vs ns h2 d2 tk i2 p2 (Heap.lt_size g2) fun b o g=>?_
  have hb:b < s.heap.objs.size:=Heap.lt_size g
  refine m.heap b o (fun z=>?_) (oth b o (neN (.inl hb)) (kp b o (kp1 b o g)))
  have z':b=s.heap.objs.size∨b=I:=by simpa using z
  rcases z' with z | z
  · exact absurd hb (by rw [z]; exact Nat.lt_irrefl _)
  · exact absurd (Nat.lt_of_lt_of_le hb (Nat.le_of_succ_le lI')) (by rw [z]; exact Nat.lt_irrefl _)
end
end L2
set_option Elab.async false
set_option linter.all false
set_option maxRecDepth 100000
namespace L2
open PySem PySem.Spec PyProof.Rows
theorem qe0 (f:Nat→Int) (k:Int):∀ n,k∈qa1 f n↔∃ i,i < n∧f i=k
  | 0=>by
    unfold qa1
    constructor
    · intro h; simp at h
    · rintro ⟨i,h,_⟩; omega
  | n + 1=>by
    have ih:=qe0 f k n
    have e:k∈qa1 f (n + 1)↔k∈qa1 f n∨k=f n:=by
      show k∈(if f n∈qa1 f n then qa1 f n else qa1 f n++[f n])↔_
      split
      · rename_i h
        exact ⟨.inl,fun z=>z.elim id fun z=>z ▸ h⟩
      · rw [List.mem_append,List.mem_singleton]
    rw [e,ih]
    constructor
    · rintro (⟨i,h,z⟩ | z)
      · exact ⟨i,by omega,z⟩
      · exact ⟨n,by omega,z.symm⟩
    · rintro ⟨i,h,z⟩
      by_cases hi:i=n
      · subst hi; exact .inr z.symm
      · exact .inl ⟨i,by omega,z⟩
theorem qdw (f:Nat→Int):∀ n,(qa1 f n).Nodup
  | 0=>List.nodup_nil
  | n + 1=>by
    have ih:=qdw f n
    show (if f n∈qa1 f n then qa1 f n else qa1 f n++[f n]).Nodup
    split
    · exact ih
    · rename_i h
      rw [List.nodup_append]
      exact ⟨ih,by simp,fun x hx y hy z=>h (by rw [← List.mem_singleton.mp hy,← z]; exact hx)⟩
def uniq (ns:List Int):List Int:=qa1 (fun i=>ns.getD i 0) ns.length
theorem yd6 (ns:List Int) (k:Int):k∈uniq ns↔k∈ns:=by
  unfold uniq
  rw [qe0]
  constructor
  · rintro ⟨i,h,z⟩
    rw [List.getD_eq_getElem?_getD,List.getElem?_eq_getElem h] at z
    rw [← z]
    exact List.getElem_mem h
  · intro h
    obtain ⟨i,hi,e⟩:=List.getElem_of_mem h
    exact ⟨i,hi,by rw [List.getD_eq_getElem?_getD,List.getElem?_eq_getElem hi,e]; rfl⟩
theorem ydn (ns:List Int):(uniq ns).Nodup:=qdw _ _
theorem yg1 (ns:List Int):(uniq ns).length≤ns.length:=qds _ _
def SetO (P:Program) (w:World) (a:Addr) (ks:List Int):HO:=.ext fun h=>SetL P w h a ks
section
variable {P:Program} {w:World} {A:Around} {E:Value→Shared→Prop} {s:Shared} {a:Addr} {ks:List Int}
theorem sortedL {Q:Value→Shared→Prop} (hh:A.handled=none) (hS:SetL P w s.heap a ks) (h64:ks.length < 64)
    (k:∀ l h' d tk vs ns e,s.heap.objs.size≤l→h'.get? l=some (seqObj "list" (List.toArray vs) e)→IntsAre vs ns→ns.Perm ks→ns.Pairwise (·≤·)→(∀ b o,s.heap.get? b=some o→h'.get? b=some o)→Q (.ref l) { s with heap:=h',drawn:=d,toks:=tk }) :
    wpAny (model P w) A (call (.builtin "sorted") [.ref a]) Q E s:=by
  refine Calls.call_function_entry kind_sorted plain_sorted entry_sorted (args_sorted1 (.ref a)) ?_
  unfold Builtin.«sorted»
  refine wpAny_bind (m:=checkCount "sorted" 1 1 _) ?_
  refine wpAny_pure ?_
  refine wpAny_bind (collectL (by simpa using hh) hS (by omega) fun vs ns h1 d tk i1 p1 hz kp=>?_)
  have hvl:vs.length=ks.length:=by
    have h1:=IntsAre.length i1
    rw [h1,p1.length_eq]
  refine wpAny_bind (wpAny_newList ?_ (qc2 (by omega)))
  have gL:(h1.push (seqObj "list" vs.toArray 0)).get? h1.objs.size=some (seqObj "list" vs.toArray 0):=Heap.get?_push_size _ rfl
  refine wpAny_bind (wpAny_holding (wpAny_call_entry slot_list_sort ⟨_,gL,rfl⟩ entry_list_sort (list_sort_tree gL i1 (by omega) fun out n2 a1 a2 a3=>⟨_,rfl,?_⟩) (args_list_sort _)))
  obtain ⟨ep,ge⟩:=sortedHeap_at (out:=out) gL
  refine wpAny_pure ⟨_,rfl,k _ _ d tk out.toList n2 ep (Nat.le_of_lt hz) (by simpa using ge) a1 (a2.trans p1) a3 fun b o g=>?_⟩
  have hb:b < h1.objs.size:=Heap.lt_size (kp b o g)
  rw [sortedHeap_old (Nat.ne_of_lt hb) (by rw [show (h1.push (seqObj "list" vs.toArray 0)).objs.size=h1.objs.size + 1 from Heap.size_push ..]; exact Nat.lt_succ_of_lt hb)]
  exact Heap.get?_push_of_some _ (kp b o g)
end
section
variable {X:Cx} {pins:List (Addr×Obj)} {σ:St} {H:Hp} {s:Shared}
theorem Inv.draw (I:Inv X pins σ H s) (d:Drawn):Inv X pins σ H { s with drawn:=d }:=⟨I.ok,I.os,I.bare,I.base,I.loc,I.cell,I.free,I.freeC,I.pin,I.hok,I.len⟩
def rSet (P:Program) (w:World):List V→Hp→VK→Prop:=fun xs H Q=>∃ (l:Addr) (ns:List Int),xs=[.ref l]∧H l=some (.lst (ns.map V.int))∧ns.length≤4000∧∀ p,H p=none→Q (.ref p) (upd H p (SetO P w p (uniq ns)))
theorem qb4 (hc:X.calm=true):ycc X (.type "set") (rSet X.prog X.w):=by
  intro pins s σ H xs us Q I r h
  obtain ⟨l,ns,rfl,hH,h4,q⟩:=h
  cases r with
  | cons r rr=>
    cases rr
    cases r
    obtain ⟨z,its,n,rv,hl,e⟩:=I.lstM hH
    have hil:its.length=ns.length:=by rw [← hl,List.length_map]
    have hf:H s.heap.objs.size=none:=I.hok.fresh (Nat.le_refl _)
    refine yh1 (by simpa using I.ok.hd hc) (its:=its.toArray) (ns:=ns) ⟨_,e,rfl,n,rfl⟩ (by simpa using yhl rv) (by rw [List.size_toArray,hil]; unfold scanBound; omega) fun h' tk S kp=>?_
    have ez:its.toArray.size=ns.length:=by rw [List.size_toArray,hil]
    rw [ez] at S
    refine ⟨.ref s.heap.objs.size,_,I.laid (o:=SetO X.prog X.w s.heap.objs.size (uniq ns)) (t':=tk) (fun b o g=>kp b o (Heap.lt_size g) g) (Nat.le_refl _) ?_,rfl,q _ hf⟩
    refine ⟨S,?_,fun h1 h2 x y=>SetL.at x y⟩
    obtain ⟨o,es,ep,t,g,_⟩:=S
    exact ⟨o,g⟩
def rLenSet (P:Program) (w:World):List V→Hp→VK→Prop:=fun xs H Q=>∃ (p:Addr) (ks:List Int),xs=[.ref p]∧H p=some (SetO P w p ks)∧Q (.int ks.length) H
theorem qb5:ycc X (.builtin "len") (rLenSet X.prog X.w):=by
  intro pins s σ H xs us Q I r h
  obtain ⟨p,ks,rfl,hH,q⟩:=h
  cases r with
  | cons r rr=>
    cases rr
    cases r
    obtain ⟨⟨o,es,ep,t,g,gx,gd,el,⟨ns,hi,hp⟩,hb,hf,ht,hl⟩,_⟩:=I.hok p _ hH
    have hlen:es.size=ks.length:=by
      have h1:=IntsAre.length hi
      rw [List.length_map,Array.length_toList] at h1
      rw [h1,hp.length_eq]
    refine call_len_set g gx gd hf (by unfold scanBound at hb; omega) ?_
    rw [hlen]
    exact ⟨.int ks.length,H,I.tok _,⟨_,rfl⟩,q⟩
def rSortSet (P:Program) (w:World):List V→Hp→VK→Prop:=fun xs H Q=>∃ (p:Addr) (ks:List Int),xs=[.ref p]∧H p=some (SetO P w p ks)∧ks.length < 64∧∀ (l:Addr) (ns:List Int),H l=none→ns.Perm ks→ns.Pairwise (·≤·)→Q (.ref l) (upd H l (.lst (ns.map V.int)))
theorem ydz (hc:X.calm=true):ycc X (.builtin "sorted") (rSortSet X.prog X.w):=by
  intro pins s σ H xs us Q I r h
  obtain ⟨p,ks,rfl,hH,h64,q⟩:=h
  cases r with
  | cons r rr=>
    cases rr
    cases r
    obtain ⟨S,_⟩:=I.hok p _ hH
    refine sortedL (by simpa using I.ok.hd hc) S h64 fun l h' d tk vs ns e hz gl i1 p1 w1 kp=>?_
    have hf:H l=none:=I.hok.fresh hz
    refine ⟨.ref l,_,(I.draw d).laid (o:=.lst (ns.map V.int)) (t':=tk) (fun b o g=>kp b o g) hz ?_,rfl,q l ns hf p1 w1⟩
    exact ⟨qc2 (by rw [List.length_map,p1.length_eq]; omega),vs,e,yft i1,gl⟩
end
end L2
set_option Elab.async false
set_option linter.all false
set_option maxRecDepth 100000
namespace L2
open PySem PySem.Spec PyProof.Rows
theorem yb0:bootBuiltins "set" = some (.type "set"):=by decide +kernel
theorem yd9 {K:PySem.W.Frag} {t1 t2:Bool} {l1 l2:Addr} {xs ys:List V} {g:TG} {tt:TT} {te:TE} {ix:List (Option Nat)} {σ:St} {H:Hp} {QD:Hp→Prop} {D:Addr} (hlen:xs.length=ys.length) (Pv:Nat→Hp→Prop) (h0:Pv 0 (upd H D (.lst [])))
    (hl:∀ i H',Pv i H'→Sq K t1 H' l1 xs∧Sq K t2 H' l2 ys) (stop:∀ H',Pv xs.length H'→QD H')
    (step:∀ i x y p H',xs[i]?=some x→ys[i]?=some y→Pv i H'→H' p=none→g (.ref p) (capS ix σ) (upd H' p (.tup [x,y])) fun σ2 H3=>ya2 (capS ix σ) σ2∧tt σ2 H3 fun b H4=>
      if b=true then te σ2 H4 fun v H5=>∃ zs,H5 D=some (.lst zs)∧zs.length < sizeLine∧Pv (i + 1) (upd H5 D (.lst (zs++[v]))) else Pv (i + 1) H4) :
    ∃ W:Nat→Nat→Hp→Prop,(∃ m,W 0 m (upd H D (.lst [])))∧∀ i m H,W i m H→
      ((Itz K t1 t2 l1 l2).stop i H∧QD H)∨((Itz K t1 t2 l1 l2).go i H∧∃ N:Hp→Prop,(∀ H',N H'→∃ m',m' < m∧W (i + 1) m' H')∧∀ x H',(Itz K t1 t2 l1 l2).yld i H x H'→g x (capS ix σ) H' fun σ2 H2=>ya2 (capS ix σ) σ2∧tt σ2 H2 fun b H3=>
        if b=true then te σ2 H3 fun v H4=>∃ zs,H4 D=some (.lst zs)∧zs.length < sizeLine∧N (upd H4 D (.lst (zs++[v]))) else N H3):=by
  refine yb3 (n:=xs.length) Pv h0 (fun H' p=>⟨?_,stop H' p⟩) fun i H' hi p=>⟨?_,?_⟩
  · obtain ⟨q1,q2⟩:=hl _ H' p
    exact ⟨xs,ys,q1,q2,.inl (by simp)⟩
  · obtain ⟨q1,q2⟩:=hl _ H' p
    exact ⟨xs,ys,_,_,q1,q2,List.getElem?_eq_getElem hi,List.getElem?_eq_getElem (by omega)⟩
  · rintro x H2 ⟨pp,u,v,hp,rfl,rfl,hu⟩
    obtain ⟨q1,q2⟩:=hl _ H' p
    obtain ⟨h1,h2⟩:=hu xs ys q1 q2
    exact step i u v pp H' h1 h2 p hp
end L2
set_option Elab.async false
set_option linter.all false
set_option maxRecDepth 100000
set_option Elab.async false
set_option linter.all false
set_option maxRecDepth 100000
set_option Elab.async false
set_option linter.all false
set_option maxRecDepth 100000
set_option maxHeartbeats 1600000
namespace Mh
open PySem L2 PyProof.Rows
def top (i:Nat):Stmt:=PySem.Challenge.pw_marchmend_k07_harms_looked_at.main.body.getD i (.Pass ⟨0,0,0,0⟩)
def b2i (b:Bool):Int:=if b then 1 else 0
theorem iteB {b:Bool} {A B:Prop} (hb:b=true) (h:A):if b=true then A else B:=by
  rw [if_pos hb]; exact h
theorem iteN {b:Bool} {A B:Prop} (hb:b=false) (h:B):if b=true then A else B:=by
  rw [if_neg (by rw [hb]; exact Bool.false_ne_true)]; exact h
theorem iteD {c:Prop} [Decidable c] {A B:Prop} (hc:c) (h:A):if decide c=true then A else B:=iteB (decide_eq_true hc) h
theorem yb9 {α β:Type} {f:α→β} {l:List α} {i:Nat} {d:β} (h:(l.map f)[i]?=some d):∃ x,l[i]?=some x∧d=f x:=by
  rw [List.getElem?_map] at h
  cases e:l[i]? with
  | none=>rw [e] at h; cases h
  | some x=>rw [e] at h; exact ⟨x,rfl,(Option.some.inj h).symm⟩
structure Hm where
  w:Str
  c:List Int
  r:List V
def tabP:List (Str×List V):=[("stuck",[.str "cell",.str "bit"]),("slow",[.str "cell",.str "bit"]),("forgets",[.str "cell",.str "bit"]),("misreads",[.str "cell",.str "bit"]),("turns",[.str "cell",.str "cell",.str "bit"]),("sets",[.str "cell",.str "cell",.str "bit",.str "bit"]),
  ("keeps",[.str "cell",.str "cell",.str "bit",.str "bit"]),("nowhere",[.str "cell",.str "bit"]),("other",[.str "cell",.str "cell"]),("both",[.str "cell",.str "cell",.str "how"])]
def bitV (v:V):Prop:=∃ b,v=.int (b2i b)
def howV (v:V):Prop:=v=.str "and"∨v=.str "or"
inductive Rest:List Str→List V→Prop
  | nil:Rest [] []
  | bit {v:V} {ns:List Str} {vs:List V}:bitV v→Rest ns vs→Rest ("bit" :: ns) (v :: vs)
  | how {v:V} {ns:List Str} {vs:List V}:howV v→Rest ns vs→Rest ("how" :: ns) (v :: vs)
def yaq (n:Nat) (ns:List Str):List V:=List.replicate n (V.str "cell")++ns.map V.str
def hV (h:Hm):List V:=.str h.w :: (h.c.map V.int++h.r)
structure okH (h:Hm) (ns:List Str):Prop where
  tab:KTD.datumAt h.w tabP=some (yaq h.c.length ns)
  rest:Rest ns h.r
  cl:1≤h.c.length∧h.c.length≤2
  rl:ns.length≤2
  nd:h.c.Nodup
  rg:∀ x∈h.c,0≤x∧x < 64
theorem Rest.len {ns:List Str} {vs:List V} (h:Rest ns vs):vs.length=ns.length:=by
  induction h with
  | nil=>rfl
  | bit _ _ ih=>simp [ih]
  | how _ _ ih=>simp [ih]
theorem okH.len {h:Hm} {ns:List Str} (o:okH h ns):(h.c.map V.int++h.r).length=(yaq h.c.length ns).length:=by
  unfold yaq
  simp [o.rest.len]
section
variable {P:Program} {w:World} {K:PySem.W.Frag} {mg:Str→Option Value} {base:Heap}
def yc4:Sp:=fun vs H Q _=>∃ i,vs=[.int i]∧Q (.bl true) H
abbrev ybr:Stmt:=top 16
theorem qcj:FnScope ["thing"] ["thing"] (yac ybr):=⟨rfl,rfl,rfl,by decide +kernel,rfl,by decide +kernel,by decide +kernel⟩
theorem ygw (B:Bl mg) (F:FnAt K mg "is_whole" ybr ["thing"]):Has P w K mg base 1 "is_whole" ["thing"] yc4:=by
  refine Has.of F qcj (fun vs H Q E h=>?_) (fun f cdv A outer s H vs Q E hr h=>?_)
  · obtain ⟨i,rfl,_⟩:=h
    rfl
  · obtain ⟨i,rfl,k⟩:=h
    have sc:=qcj
    refine ⟨_,(yan (qa9 (qbb (qae yas rfl (B.of rfl) boot_isinstance (yaa (pv 0) (yaa (qa3 (v:=.ty "int") rfl (B.of rfl) boot_int rfl) qac))) (yb5 (pe_not (qae yas rfl (B.of rfl) boot_isinstance (yaa (pv 0) (yaa (qa3 (v:=.ty "bool") rfl (B.of rfl) boot_bool rfl) qac)))))))),?_⟩
    refine ⟨_,rfl,_,_,_,_,rfl,.int i,rfl,_,rfl,iteT ?_⟩
    refine ⟨_,rfl,_,_,_,_,rfl,.int i,rfl,_,rfl,?_⟩
    exact k
def ygb:Sp:=fun vs H Q _=>∃ b,vs=[.int (b2i b)]∧∀ H',Same H H'→Q (.bl true) H'
abbrev qci:Stmt:=top 17
theorem yda:FnScope ["thing"] ["thing"] (yac qci):=⟨rfl,rfl,rfl,by decide +kernel,rfl,by decide +kernel,by decide +kernel⟩
theorem yi1 (ybo:Has P w K mg base 1 "is_whole" ["thing"] yc4) (F:FnAt K mg "is_bit" qci ["thing"]):Has P w K mg base 2 "is_bit" ["thing"] ygb:=by
  refine Has.of F yda (fun vs H Q E h=>?_) (fun f cdv A outer s H vs Q E hr h=>?_)
  · obtain ⟨i,rfl,_⟩:=h
    rfl
  · obtain ⟨b,rfl,k⟩:=h
    have sc:=yda
    refine ⟨_,(yan (qa9 (qbb (yaj ybo hr (yaa (pv 0) qac)) (yb5 (yaz yb1 (pv 0) (yei (yaa yab (yaa yab qac))) (by with_unfolding_all rfl)))))),?_⟩
    refine ⟨_,rfl,_,rfl,_,rfl,iteT ?_⟩
    refine ⟨_,rfl,(by show 2≤sizeLine; decide),fun p hp=>⟨p,_,rfl,.inr (SqT.of qaa),rfl,rfl,?_⟩⟩
    cases b <;> exact k _ (Same.upd (Same.refl _) hp)
def yd1 (K:PySem.W.Frag):Sp:=fun vs H Q _=>∃ x a xs,vs=[.str x,.ref a]∧(∀ H',SqT K H' a xs)∧xs.all yd3=true∧Q (.bl (inV (.str x) xs)) H
abbrev qbe:Stmt:=top 18
theorem qb6:FnScope ["thing","words"] ["thing","words"] (yac qbe):=⟨rfl,rfl,rfl,by decide +kernel,rfl,by decide +kernel,by decide +kernel⟩
theorem yfq (B:Bl mg) (F:FnAt K mg "is_one_of" qbe ["thing","words"]):Has P w K mg base 1 "is_one_of" ["thing","words"] (yd1 K):=by
  refine Has.of F qb6 (fun vs H Q E h=>?_) (fun f cdv A outer s H vs Q E hr h=>?_)
  · obtain ⟨x,a,xs,rfl,_⟩:=h
    rfl
  · obtain ⟨x,a,xs,rfl,hq,hf,k⟩:=h
    have sc:=qb6
    refine ⟨_,(yan (qa9 (qbb (qae yas rfl (B.of rfl) boot_isinstance (yaa (pv 0) (yaa (qa3 (v:=.ty "str") rfl (B.of rfl) boot_str rfl) qac))) (yb5 (yaz yb1 (pv 0) (pv 1) (by with_unfolding_all rfl)))))),?_⟩
    refine ⟨_,rfl,_,_,_,_,rfl,.str x,rfl,_,rfl,iteT ?_⟩
    exact ⟨_,rfl,_,rfl,a,xs,rfl,.inr (hq _),rfl,hf,k⟩
def ye1:Sp:=fun vs H Q _=>∃ x,vs=[.int x]∧0≤x∧x < 64∧Q (.bl true) H
abbrev yb4:Stmt:=top 25
theorem qcy:FnScope ["thing"] ["thing"] (yac yb4):=⟨rfl,rfl,rfl,by decide +kernel,rfl,by decide +kernel,by decide +kernel⟩
theorem yht (qcn:∃ t,mg "MOST_CELLS" = some (.int 64 t)) (ybo:Has P w K mg base 1 "is_whole" ["thing"] yc4) (F:FnAt K mg "is_cell" yb4 ["thing"]):Has P w K mg base 2 "is_cell" ["thing"] ye1:=by
  refine Has.of F qcy (fun vs H Q E h=>?_) (fun f cdv A outer s H vs Q E hr h=>?_)
  · obtain ⟨x,rfl,_⟩:=h
    rfl
  · obtain ⟨x,rfl,h0,h1,k⟩:=h
    have sc:=qcy
    refine ⟨_,(yan (qa9 (qbb (yaj ybo hr (yaa (pv 0) qac)) (qbb (yaz op_ge (pv 0) yab (yak _)) (yb5 (yaz op_lt (pv 0) (ydj qcn) (yak _))))))),?_⟩
    refine ⟨_,rfl,x,rfl,_,rfl,iteT ?_⟩
    refine ⟨_,rfl,_,_,rfl,rfl,_,rfl,iteD (by omega) ?_⟩
    refine ⟨_,rfl,_,_,rfl,rfl,?_⟩
    show Q (.bl (decide (x < 64))) H
    rw [decide_eq_true h1]
    exact k
def PartOk (nm:Str) (v:V):Prop:=(nm="cell"∧∃ x,v=.int x∧0≤x∧x < 64)∨(nm="bit"∧bitV v)∨(nm="how"∧howV v)
def qe2:Sp:=fun vs H Q _=>∃ nm v,vs=[.str nm,v]∧PartOk nm v∧∀ H',Same H H'→Q (.bl true) H'
abbrev yby:Stmt:=top 26
theorem qcw:FnScope ["name","thing"] ["name","thing"] (yac yby):=⟨rfl,rfl,rfl,by decide +kernel,rfl,by decide +kernel,by decide +kernel⟩
theorem qhr (qdr:GTup K mg "JOININGS" [.str "and",.str "or"]) (yed:Has P w K mg base 2 "is_cell" ["thing"] ye1) (qfa:Has P w K mg base 2 "is_bit" ["thing"] ygb) (qc8:Has P w K mg base 1 "is_one_of" ["thing","words"] (yd1 K)) (F:FnAt K mg "is_part" yby ["name","thing"]):Has P w K mg base 3 "is_part" ["name","thing"] qe2:=by
  refine Has.of F qcw (fun vs H Q E h=>?_) (fun f cdv A outer s H vs Q E hr h=>?_)
  · obtain ⟨nm,v,rfl,_⟩:=h
    rfl
  · obtain ⟨nm,v,rfl,hp,k⟩:=h
    have sc:=qcw
    refine ⟨_,(qap (yeq (qbf qbz (pv 0) qah (yak _))
        (yan (qa9 (yaj yed hr (yaa (pv 1) qac))))
        qcm)
      (qap (yeq (qbf qbz (pv 0) qah (yak _))
        (yan (qa9 (yaj qfa hr (yaa (pv 1) qac))))
        qcm)
      (yan (qa9 (yaj qc8 hr (yaa (pv 1) (yaa (yh9 qdr) qac))))))),?_⟩
    rcases hp with ⟨rfl,x,rfl,h0,h1⟩ | ⟨rfl,b,rfl⟩ | ⟨rfl,hv⟩
    · refine ⟨_,rfl,rfl,_,rfl,iteB (by decide +kernel) ?_⟩
      exact ⟨_,rfl,x,rfl,h0,h1,k H (Same.refl H)⟩
    · refine ⟨_,rfl,rfl,_,rfl,iteN (by decide +kernel) ?_⟩
      refine ⟨_,rfl,rfl,_,rfl,iteB (by decide +kernel) ?_⟩
      exact ⟨_,rfl,b,rfl,k⟩
    · refine ⟨_,rfl,rfl,_,rfl,iteN (by decide +kernel) ?_⟩
      refine ⟨_,rfl,rfl,_,rfl,iteN (by decide +kernel) ?_⟩
      rcases hv with rfl | rfl
      · refine ⟨_,rfl,fun a ha=>⟨_,a,_,rfl,ha,by decide,?_⟩⟩
        exact k H (Same.refl H)
      · refine ⟨_,rfl,fun a ha=>⟨_,a,_,rfl,ha,by decide,?_⟩⟩
        exact k H (Same.refl H)
def HAt (H:Hp) (v:V) (h:Hm):Prop:=∃ a,v=.ref a∧H a=some (.tup (hV h))
def yeu:Sp:=fun vs H Q _=>∃ v h ns,vs=[v]∧HAt H v h∧okH h ns∧Q (.bl true) H
abbrev qbp:Stmt:=top 27
theorem ych:FnScope ["thing"] ["thing"] (yac qbp):=⟨rfl,rfl,rfl,by decide +kernel,rfl,by decide +kernel,by decide +kernel⟩
theorem qgr (B:Bl mg) {aP:Addr} (gP:mg "PARTS" = some (.ref aP)) (TP:TabK K aP tabP) (F:FnAt K mg "has_word" qbp ["thing"]):Has P w K mg base 1 "has_word" ["thing"] yeu:=by
  refine Has.of F ych (fun vs H Q E h=>?_) (fun f cdv A outer s H vs Q E hr h=>?_)
  · obtain ⟨v,h,ns,rfl,_⟩:=h
    rfl
  · obtain ⟨v,h,ns,rfl,⟨a,rfl,ha⟩,ok,k⟩:=h
    have sc:=ych
    refine ⟨_,(yan (qa9 (qbb (qae yas rfl (B.of rfl) boot_isinstance (yaa (pv 0) (yaa (qa3 (v:=.ty "tuple") rfl (B.of rfl) boot_tuple rfl) qac))) (qbb (yaz yfo (qae yaf rfl (B.of rfl) boot_len (yaa (pv 0) qac)) yab (yak _)) (qbb (qae yas rfl (B.of rfl) boot_isinstance (yaa (qbt qbl (pv 0) yab (fun _ _=>rfl)) (yaa (qa3 (v:=.ty "str") rfl (B.of rfl) boot_str rfl) qac))) (yb5 (yaz (qg4 (D:=tabP)) (qbt qbl (pv 0) yab (fun _ _=>rfl)) (yau (v:=.ref aP) rfl gP rfl) (by with_unfolding_all rfl)))))))),?_⟩
    refine ⟨_,rfl,_,_,_,_,rfl,.tup ha,rfl,_,rfl,iteT ?_⟩
    refine ⟨_,rfl,a,_,rfl,.inr (SqT.of ha),_,_,rfl,rfl,_,rfl,iteD (by unfold hV; simp; omega) ?_⟩
    refine ⟨_,rfl,a,_,_,_,rfl,rfl,SqT.of ha,yag 0 rfl,_,_,_,_,rfl,.str _,rfl,_,rfl,iteT ?_⟩
    refine ⟨_,rfl,a,_,_,_,rfl,rfl,SqT.of ha,yag 0 rfl,aP,h.w,rfl,rfl,TP,?_⟩
    have e:KTD.inKeys h.w tabP=true:=by rw [← KTD.isSome_datumAt,ok.tab]; rfl
    rw [e]
    exact k
end
end Mh
set_option Elab.async false
set_option linter.all false
set_option maxRecDepth 100000
set_option maxHeartbeats 1600000
namespace Mh
open PySem L2 PyProof.Rows
section
variable {P:Program} {w:World} {K:PySem.W.Frag} {mg:Str→Option Value} {base:Heap}
theorem Rest.get {ns:List Str} {vs:List V} (h:Rest ns vs):∀ {i:Nat} {n:Str} {v:V},ns[i]?=some n→vs[i]?=some v→(n="bit"∧bitV v)∨(n="how"∧howV v):=by
  induction h with
  | nil=>intro i n v h; simp at h
  | bit hb _ ih=>
    intro i n v h1 h2
    cases i with
    | zero=>simp at h1 h2; subst h1 h2; exact .inl ⟨rfl,hb⟩
    | succ i=>simp at h1 h2; exact ih h1 h2
  | how hb _ ih=>
    intro i n v h1 h2
    cases i with
    | zero=>simp at h1 h2; subst h1 h2; exact .inr ⟨rfl,hb⟩
    | succ i=>simp at h1 h2; exact ih h1 h2
theorem okH.cellAt {h:Hm} {ns:List Str} (o:okH h ns) {i:Nat} {x y:V} (hx:(yaq h.c.length ns)[i]?=some x) (hy:(h.c.map V.int++h.r)[i]?=some y) :
    (x=.str "cell"∧∃ c,h.c[i]?=some c∧y=.int c)∨(h.c.length≤i∧((x=.str "bit"∧bitV y)∨(x=.str "how"∧howV y))):=by
  unfold yaq at hx
  by_cases hi:i < h.c.length
  · rw [List.getElem?_append_left (by simpa using hi),List.getElem?_replicate,if_pos hi] at hx
    rw [List.getElem?_append_left (by simpa using hi)] at hy
    obtain ⟨c,hc,rfl⟩:=yb9 hy
    exact .inl ⟨(Option.some.inj hx).symm,c,hc,rfl⟩
  · rw [List.getElem?_append_right (by simpa using Nat.le_of_not_lt hi)] at hx
    rw [List.getElem?_append_right (by simpa using Nat.le_of_not_lt hi)] at hy
    simp only [List.length_replicate,List.length_map] at hx hy
    obtain ⟨n,hn,rfl⟩:=yb9 hx
    rcases o.rest.get hn hy with ⟨rfl,hb⟩ | ⟨rfl,hb⟩
    · exact .inr ⟨Nat.le_of_not_lt hi,.inl ⟨rfl,hb⟩⟩
    · exact .inr ⟨Nat.le_of_not_lt hi,.inr ⟨rfl,hb⟩⟩
theorem okH.partAt {h:Hm} {ns:List Str} (o:okH h ns) {i:Nat} {x y:V} (hx:(yaq h.c.length ns)[i]?=some x) (hy:(h.c.map V.int++h.r)[i]?=some y):∃ nm,x=.str nm∧PartOk nm y:=by
  rcases o.cellAt hx hy with ⟨rfl,c,hc,rfl⟩ | ⟨_,⟨rfl,hb⟩ | ⟨rfl,hb⟩⟩
  · exact ⟨_,rfl,.inl ⟨rfl,c,rfl,o.rg c (List.mem_of_getElem? hc)⟩⟩
  · exact ⟨_,rfl,.inr (.inl ⟨rfl,hb⟩)⟩
  · exact ⟨_,rfl,.inr (.inr ⟨rfl,hb⟩)⟩
theorem qd7 (h:Hm):cutV (hV h) (some 1) none=h.c.map V.int++h.r:=by
  unfold hV
  exact ycy 1
theorem yfi (h:Hm):¬ (HT.sIx (hV h).length 0 (some 1)=0∧HT.sIx (hV h).length (hV h).length none=(hV h).length):=by
  rintro ⟨h0,_⟩
  unfold hV HT.sIx at h0
  simp at h0
def qd1:Sp:=fun vs H Q _=>∃ v h ns,vs=[v]∧HAt H v h∧okH h ns∧∀ H',Same H H'→Q (.bl true) H'
abbrev ybe:Stmt:=top 29
theorem yb6:FnScope ["thing","names"] ["thing"] (yac ybe):=⟨rfl,rfl,rfl,by decide +kernel,rfl,by decide +kernel,by decide +kernel⟩
theorem qf0 (B:Bl mg) (qb9:mg "zip" = none) (yhu:mg "all" = none) {aP:Addr} (gP:mg "PARTS" = some (.ref aP)) (TP:TabK K aP tabP) (yee:Has P w K mg base 3 "is_part" ["name","thing"] qe2) (F:FnAt K mg "has_parts" ybe ["thing"]):Has P w K mg base 4 "has_parts" ["thing"] qd1:=by
  refine Has.of F yb6 (fun vs H Q E h=>?_) (fun f cdv A outer s H vs Q E hr h=>?_)
  · obtain ⟨v,h,ns,rfl,_⟩:=h
    rfl
  · obtain ⟨v,h,ns,rfl,⟨a,rfl,ha⟩,ok,k⟩:=h
    have sc:=yb6
    refine ⟨_,(qap (ybt (i:=1) sc.nd rfl (Or.inl rfl) (qbt (qfx (D:=tabP)) (yau (v:=.ref aP) rfl gP rfl) (qbt qbl (pv 0) yab (fun _ _=>rfl)) (fun _ _=>rfl)))
      (yan (qa9 (qbb (yaz qbz (qae yaf rfl (B.of rfl) boot_len (yaa (pv 0) qac)) (ya9 qbv (qae yaf rfl (B.of rfl) boot_len (yaa (pv 1) qac)) yab) (yak _)) (yb5 (qae (yfv rfl) rfl yhu yf9 (yaa (ybw rfl (ya1 rfl) (M:=["name","part"]) (ix:=[none,none]) (qgc rfl qb9 (yaa (pv 1) (yaa (ybc ycr (pv 0) (qas yab) qa0) qac))) (fun _ _ _ _=>(qfp (K:=K) (n:=2) rfl rfl (yay (yam (i:=0) (show List.Nodup (["name","part"]:List Str) by decide +kernel) rfl (Or.inl rfl)) (yay (yam (i:=1) (show List.Nodup (["name","part"]:List Str) by decide +kernel) rfl (Or.inl rfl)) ycl)))) (fun _ _ _ _=>ycq) (fun _ _ _ _=>(yaj yee hr (yaa (pv 0) (yaa (pv 1) qac))))) qac))))))),?_⟩
    refine ⟨_,rfl,a,_,_,_,rfl,rfl,SqT.of ha,yag 0 rfl,aP,h.w,_,rfl,rfl,TP,ok.tab,fun pn hpn=>?_⟩
    refine ⟨_,rfl,a,_,rfl,.inr (SqT.of ha),_,rfl,pn,_,rfl,.inr (hpn _),_,_,rfl,rfl,rfl,_,rfl,iteD ?_ ?_⟩
    · have:=ok.len
      congr 1
      unfold hV
      rw [List.length_cons,this]
      rfl
    refine ⟨_,rfl,_,rfl,_,rfl,a,_,rfl,SqT.of ha,yfi h,fun q hq=>?_⟩
    rw [qd7]
    have s1:Same H (upd H q (.tup (h.c.map V.int++h.r))):=(Same.refl H).upd hq
    have e1:upd H q (.tup (h.c.map V.int++h.r)) q=some (.tup (h.c.map V.int++h.r)):=qaa
    revert s1 e1
    generalize upd H q (.tup (h.c.map V.int++h.r))=H1
    intro s1 e1
    refine ⟨true,true,pn,q,_,_,rfl,hpn _,SqT.of e1,fun D hD=>?_⟩
    refine yd9 (K:=K) (ok.len.symm) (fun i H'=>Same H1 H'∧H' D=some (.lst ((List.replicate i true).map V.bl))) ⟨(Same.refl H1).upd hD,qaa⟩ ?_ ?_ ?_
    · rintro i H2 ⟨s2,e2⟩
      exact ⟨hpn _,SqT.of (s2 _ _ e1)⟩
    · rintro H2 ⟨s2,e2⟩
      refine ⟨D,_,rfl,e2,?_⟩
      rw [show (List.replicate (yaq h.c.length ns).length true).all id=true by simp]
      exact k _ (s1.trans s2)
    · rintro i x y p H2 hx hy ⟨s2,e2⟩ hp
      obtain ⟨nm,rfl,hpo⟩:=ok.partAt hx hy
      refine ⟨p,_,rfl,SqT.of qaa,rfl,?_⟩
      refine ⟨_,_,rfl,_,_,rfl,rfl,ya2.set (ya2.set (ya2.refl _) rfl) rfl,yes ?_⟩
      refine ⟨_,rfl,_,rfl,nm,y,rfl,hpo,fun H3 s3=>?_⟩
      have s23:Same H2 H3:=((Same.refl H2).upd hp).trans s3
      refine ⟨_,s23 _ _ e2,qbw ?_,(s2.trans s23).at hD,?_⟩
      · have h1:=(List.getElem?_eq_some_iff.mp hx).1
        have h2:=ok.cl
        have h3:=ok.rl
        simp [yaq] at h1 ⊢
        omega
      · rw [qaa,List.replicate_succ',List.map_append]; rfl
end
end Mh
set_option Elab.async false
set_option linter.all false
set_option maxRecDepth 100000
set_option maxHeartbeats 1600000
namespace Mh
open PySem L2 PyProof.Rows
section
variable {P:Program} {w:World} {K:PySem.W.Frag} {mg:Str→Option Value} {base:Heap}
theorem qga {h:Hm} {i:Nat} (hi:h.c.length≤i):h.c.take (i + 1)=h.c.take i:=by
  rw [List.take_of_length_le hi,List.take_of_length_le (by omega)]
def ybp:Sp:=fun vs H Q _=>∃ v h ns,vs=[v]∧HAt H v h∧okH h ns∧∀ D H',Same H H'→H D=none→H' D=some (.lst (h.c.map V.int))→Q (.ref D) H'
abbrev ybn:Stmt:=top 28
theorem yci:FnScope ["harm"] ["harm"] (yac ybn):=⟨rfl,rfl,rfl,by decide +kernel,rfl,by decide +kernel,by decide +kernel⟩
theorem qgq (B:Bl mg) (qb9:mg "zip" = none) {aP:Addr} (gP:mg "PARTS" = some (.ref aP)) (TP:TabK K aP tabP) (F:FnAt K mg "cells_in" ybn ["harm"]):Has P w K mg base 1 "cells_in" ["harm"] ybp:=by
  refine Has.of F yci (fun vs H Q E h=>?_) (fun f cdv A outer s H vs Q E hr h=>?_)
  · obtain ⟨v,h,ns,rfl,_⟩:=h
    rfl
  · obtain ⟨v,h,ns,rfl,⟨a,rfl,ha⟩,ok,k⟩:=h
    have sc:=yci
    refine ⟨_,(yan (qa9 (ybw rfl (ya1 rfl) (M:=["name","part"]) (ix:=[none,none]) (qgc rfl qb9 (yaa (qbt (qfx (D:=tabP)) (yau (v:=.ref aP) rfl gP rfl) (qbt qbl (pv 0) yab (fun _ _=>rfl)) (fun _ _=>rfl)) (yaa (ybc ycr (pv 0) (qas yab) qa0) qac))) (fun _ _ _ _=>(qfp (K:=K) (n:=2) rfl rfl (yay (yam (i:=0) (show List.Nodup (["name","part"]:List Str) by decide +kernel) rfl (Or.inl rfl)) (yay (yam (i:=1) (show List.Nodup (["name","part"]:List Str) by decide +kernel) rfl (Or.inl rfl)) ycl)))) (fun _ _ _ _=>(ydq (qbf qbz (pv 0) qah (yak _)))) (fun _ _ _ _=>(pv 1))))),?_⟩
    refine ⟨_,rfl,a,_,_,_,rfl,rfl,SqT.of ha,yag 0 rfl,aP,h.w,_,rfl,rfl,TP,ok.tab,fun pn hpn=>?_⟩
    refine ⟨_,rfl,_,rfl,a,_,rfl,SqT.of ha,yfi h,fun q hq=>?_⟩
    rw [qd7]
    have s1:Same H (upd H q (.tup (h.c.map V.int++h.r))):=(Same.refl H).upd hq
    have e1:upd H q (.tup (h.c.map V.int++h.r)) q=some (.tup (h.c.map V.int++h.r)):=qaa
    revert s1 e1
    generalize upd H q (.tup (h.c.map V.int++h.r))=H1
    intro s1 e1
    refine ⟨true,true,pn,q,_,_,rfl,hpn _,SqT.of e1,fun D hD=>?_⟩
    refine yd9 (K:=K) (ok.len.symm) (fun i H'=>Same H1 H'∧H' D=some (.lst ((h.c.take i).map V.int))) ⟨(Same.refl H1).upd hD,qaa⟩ ?_ ?_ ?_
    · rintro i H2 ⟨s2,e2⟩
      exact ⟨hpn _,SqT.of (s2 _ _ e1)⟩
    · rintro H2 ⟨s2,e2⟩
      rw [List.take_of_length_le (by simp [yaq])] at e2
      exact k D H2 (s1.trans s2) (s1.free hD) e2
    · rintro i x y p H2 hx hy ⟨s2,e2⟩ hp
      have s3:Same H2 (upd H2 p (.tup [x,y])):=(Same.refl H2).upd hp
      refine ⟨p,_,rfl,SqT.of qaa,rfl,?_⟩
      revert s3
      generalize upd H2 p (.tup [x,y])=H3
      intro s3
      refine ⟨_,_,rfl,_,_,rfl,rfl,ya2.set (ya2.set (ya2.refl _) rfl) rfl,?_⟩
      rcases ok.cellAt hx hy with ⟨rfl,c,hc,rfl⟩ | ⟨hge,hh⟩
      · refine ⟨_,rfl,rfl,_,rfl,iteB (by decide +kernel) ?_⟩
        refine ⟨_,rfl,_,s3 _ _ e2,qbw ?_,(s2.trans s3).at hD,?_⟩
        · have:=ok.cl
          simp
          omega
        · rw [qaa,List.take_add_one,hc]; simp
      · have hxn:∃ nm,x=.str nm∧nm≠"cell":=by
          rcases hh with ⟨rfl,_⟩ | ⟨rfl,_⟩
          · exact ⟨_,rfl,by decide +kernel⟩
          · exact ⟨_,rfl,by decide +kernel⟩
        obtain ⟨nm,rfl,hnm⟩:=hxn
        refine ⟨_,rfl,rfl,_,rfl,iteN (by simpa using hnm) ?_⟩
        refine ⟨s2.trans s3,?_⟩
        rw [qga hge]
        exact s3 _ _ e2
theorem not_take {l:List Int} (h:l.Nodup) {i:Nat} (hi:i < l.length):l[i]∉l.take i:=by
  intro hm
  obtain ⟨j,hj,e⟩:=List.getElem_of_mem hm
  rw [List.getElem_take] at e
  have hj':j < i:=by simp at hj; omega
  have:=(List.nodup_iff_pairwise_ne.mp h)
  exact (List.pairwise_iff_getElem.mp h j i (by omega) hi hj') e
theorem yfy {l:List Int} (h:l.Nodup):∀ i,i≤l.length→qa1 (fun i=>l.getD i 0) i=l.take i
  | 0,_=>rfl
  | i + 1,hi=>by
    show (if l.getD i 0∈qa1 (fun i=>l.getD i 0) i then qa1 (fun i=>l.getD i 0) i else qa1 (fun i=>l.getD i 0) i++[l.getD i 0])=_
    rw [yfy h i (by omega)]
    have e:l.getD i 0=l[i]:=by rw [List.getD_eq_getElem?_getD,List.getElem?_eq_getElem (by omega)]; rfl
    rw [e,if_neg (not_take h (by omega)),List.take_add_one,List.getElem?_eq_getElem (by omega)]
    rfl
theorem yek {l:List Int} (h:l.Nodup):uniq l=l:=by
  unfold uniq
  rw [yfy h _ (Nat.le_refl _),List.take_length]
theorem HAt.same {H H':Hp} {v:V} {h:Hm} (s:Same H H') (x:HAt H v h):HAt H' v h:=by
  obtain ⟨a,rfl,ha⟩:=x
  exact ⟨a,rfl,s _ _ ha⟩
def ye4:Sp:=fun vs H Q _=>∃ v h ns,vs=[v]∧HAt H v h∧okH h ns∧∀ H',Same H H'→Q (.bl true) H'
abbrev qb2:Stmt:=top 30
theorem qcv:FnScope ["thing","cells"] ["thing"] (yac qb2):=⟨rfl,rfl,rfl,by decide +kernel,rfl,by decide +kernel,by decide +kernel⟩
theorem yhp (B:Bl mg) (yca:mg "set" = none) (ydl:Has P w K mg base 1 "has_word" ["thing"] yeu) (qc7:Has P w K mg base 4 "has_parts" ["thing"] qd1) (ya3:Has P w K mg base 1 "cells_in" ["harm"] ybp) (F:FnAt K mg "is_harm" qb2 ["thing"]):Has P w K mg base 5 "is_harm" ["thing"] ye4:=by
  refine Has.of F qcv (fun vs H Q E h=>?_) (fun f cdv A outer s H vs Q E hr h=>?_)
  · obtain ⟨v,h,ns,rfl,_⟩:=h
    rfl
  · obtain ⟨v,h,ns,rfl,hv,ok,k⟩:=h
    have sc:=qcv
    refine ⟨_,(qap (yeq (PW.pt (yie (qdc (qco (yaj ydl hr (yaa (pv 0) qac)))) (qge (qdc (qco (yaj qc7 hr (yaa (pv 0) qac)))))))
        (yan (qa9 qex))
        qcm)
      (qap (ybt (i:=1) sc.nd rfl (Or.inl rfl) (yaj ya3 hr (yaa (pv 0) qac)))
      (yan (qa9 (yaz qbz (qae qb5 rfl (B.of rfl) boot_len (yaa (ybj (qb4 rfl) rfl yca yb0 (yaa (pv 1) qac)) qac)) (qae yaf rfl (B.of rfl) boot_len (yaa (pv 1) qac)) (yak _)))))),?_⟩
    refine ⟨_,rfl,v,h,ns,rfl,hv,ok,_,rfl,iteF ?_⟩
    refine ⟨_,rfl,v,h,ns,rfl,hv,ok,fun H1 s1=>⟨_,rfl,iteF ?_⟩⟩
    refine ⟨_,rfl,v,h,ns,rfl,HAt.same s1 hv,ok,fun D H2 s2 hD e2=>?_⟩
    refine ⟨_,rfl,D,h.c,rfl,e2,by have:=ok.cl; omega,fun p hp=>?_⟩
    refine ⟨p,_,rfl,qaa,?_⟩
    have s3:Same H2 (upd H2 p (SetO P w p (uniq h.c))):=(Same.refl H2).upd hp
    refine ⟨_,rfl,D,_,rfl,.inl (SqL.of (s3 _ _ e2)),rfl,?_⟩
    rw [yek ok.nd,List.length_map,decide_eq_true rfl]
    rw [yek ok.nd] at s3
    exact k _ ((s1.trans s2).trans s3)
end
end Mh
set_option Elab.async false
set_option linter.all false
set_option maxRecDepth 100000
set_option maxHeartbeats 1600000
namespace Mh
open PySem L2 PyProof.Rows
theorem yg9 {l:List Int} (h:l.Nodup):∀ {S:List Int},(∀ x∈l,x∈S)→l.length≤S.length:=by
  induction l with
  | nil=>intro S _; exact Nat.zero_le _
  | cons x l ih=>
    intro S hs
    have hx:=hs x (by simp)
    have hn:=List.nodup_cons.mp h
    have:=ih hn.2 (S:=S.erase x) (fun y hy=>(List.mem_erase_of_ne (fun z=>by subst z; exact hn.1 hy)).mpr (hs y (by simp [hy])))
    rw [List.length_erase_of_mem hx] at this
    have:=List.length_pos_of_mem hx
    simp
    omega
def allC (hs:List Hm):List Int:=hs.flatMap Hm.c
structure okHs (hs:List Hm) (S:List Int):Prop where
  len:hs.length≤3
  ok:∀ h∈hs,∃ ns,okH h ns
  sl:S.length≤3
  mem:∀ h∈hs,∀ c∈h.c,c∈S
structure HsV (H:Hp) (vs:List V) (hs:List Hm):Prop where
  len:vs.length=hs.length
  at_:∀ (i:Nat) (v:V) (h:Hm),vs[i]?=some v→hs[i]?=some h→HAt H v h
theorem HsV.same {H H':Hp} {vs:List V} {hs:List Hm} (s:Same H H') (x:HsV H vs hs):HsV H' vs hs:=⟨x.len,fun i v h a b=>HAt.same s (x.at_ i v h a b)⟩
theorem HsV.get {H:Hp} {vs:List V} {hs:List Hm} (x:HsV H vs hs) {i:Nat} {v:V} (h:vs[i]?=some v):∃ g,hs[i]?=some g∧HAt H v g:=by
  have hi:=(List.getElem?_eq_some_iff.mp h).1
  have e:hs[i]?=some (hs[i]'(by rw [← x.len]; exact hi)):=List.getElem?_eq_getElem _
  exact ⟨_,e,x.at_ i v _ h e⟩
theorem ycd {hs:List Hm} {i:Nat} {h:Hm} (e:hs[i]?=some h):allC (hs.take (i + 1))=allC (hs.take i)++h.c:=by
  unfold allC
  rw [List.take_add_one,e]
  simp
theorem okHs.sub {hs:List Hm} {S:List Int} (o:okHs hs S) {l:List Hm} (hl:∀ h∈l,h∈hs):∀ x∈allC l,x∈S:=by
  intro x hx
  unfold allC at hx
  obtain ⟨h,hh,hc⟩:=List.mem_flatMap.mp hx
  exact o.mem h (hl h hh) x hc
theorem okHs.few {hs:List Hm} {S:List Int} (o:okHs hs S) {l:List Hm} (hl:∀ h∈l,h∈hs):(uniq (allC l)).length≤3:=
  Nat.le_trans (yg9 (ydn _) (fun x hx=>o.sub hl x ((yd6 _ x).mp hx))) o.sl
theorem allC_len {l:List Hm} (h:∀ x∈l,x.c.length≤2):(allC l).length≤2 * l.length:=by
  induction l with
  | nil=>simp [allC]
  | cons a l ih=>
    have h1:=h a (by simp)
    have h2:=ih (fun x hx=>h x (by simp [hx]))
    unfold allC at *
    rw [List.flatMap_cons,List.length_append,List.length_cons]
    omega
theorem okHs.clen {hs:List Hm} {S:List Int} (o:okHs hs S) {l:List Hm} (hl:∀ h∈l,h∈hs):(allC l).length≤2 * l.length:=
  allC_len fun x hx=>by
    obtain ⟨ns,h⟩:=o.ok x (hl x hx)
    exact h.cl.2
theorem qdm {c:Prop} [Decidable c] {A B:Prop} (hc:¬ c) (h:B):if decide c=true then A else B:=iteN (decide_eq_false hc) h
section
variable {P:Program} {w:World} {K:PySem.W.Frag} {mg:Str→Option Value} {base:Heap}
def ycm:Sp:=fun vs H Q _=>∃ L us hs S,vs=[.ref L]∧H L=some (.lst us)∧HsV H us hs∧okHs hs S∧∀ H',Same H H'→Q .non H'
abbrev yax:Stmt:=top 31
theorem qbd:FnScope ["thing","cells","number","harm"] ["thing"] (yac yax):=⟨rfl,rfl,rfl,by decide +kernel,rfl,by decide +kernel,by decide +kernel⟩
theorem qd3 (B:Bl mg) (yca:mg "set" = none) (ycn:∃ t,mg "MOST_HARMS" = some (.int 3 t)) (qcf:∃ t,mg "MOST_UNLIKE" = some (.int 3 t)) (yel:Has P w K mg base 5 "is_harm" ["thing"] ye4) (ya3:Has P w K mg base 1 "cells_in" ["harm"] ybp) (F:FnAt K mg "look_at_harms" yax ["thing"]):Has P w K mg base 6 "look_at_harms" ["thing"] ycm:=by
  refine Has.of F qbd (fun vs H Q E h=>?_) (fun f cdv A outer s H vs Q E hr h=>?_)
  · obtain ⟨L,us,hs,S,rfl,_⟩:=h
    rfl
  · obtain ⟨L,us,hs,S,rfl,hL,hv,ok,k⟩:=h
    have sc:=qbd
    refine ⟨_,(qap (yeq (PW.pt (yie (qdc (qco (qae yas rfl (B.of rfl) boot_isinstance (yaa (pv 0) (yaa (qa3 (v:=.ty "list") rfl (B.of rfl) boot_list rfl) qac))))) (qge (qbf yfo (qae yaf rfl (B.of rfl) boot_len (yaa (pv 0) qac)) (ydj ycn) (yak _)))))
        (yan qff)
        qcm)
      (qap (ybt (i:=1) sc.nd rfl (Or.inl rfl) (ybz qac))
      (yan (qf1 PassesOwn.never rfl (qfl rfl (B.of rfl) (yaa (pv 0) qac)) (qe4 rfl (yay (yam (i:=2) sc.nd rfl (Or.inl rfl)) (yay (yam (i:=3) sc.nd rfl (Or.inl rfl)) ycl)))
        (qap (yeq (qdc (qco (yaj yel hr (yaa (pv 3) qac))))
          (yan qff)
          qcm)
        (qap (qc5 (yew PySem.F.plainAttrs_list PySem.F.slot_list_extend PySem.F.type_list_extend qdj (pv 1) (yaa (yaj ya3 hr (yaa (pv 3) qac)) qac)))
        (yan (yeq (qbf yfo (qae qb5 rfl (B.of rfl) boot_len (yaa (ybj (qb4 rfl) rfl yca yb0 (yaa (pv 1) qac)) qac)) (ydj qcf) (yak _))
          (yan qff)
          qcm)))))))),?_⟩
    refine ⟨_,rfl,_,_,_,_,rfl,.lst hL,rfl,_,rfl,iteF ?_⟩
    refine ⟨_,rfl,L,us,rfl,.inl (SqL.of hL),_,_,rfl,rfl,_,rfl,qdm (by have:=hv.len; have:=ok.len; omega) ?_⟩
    refine ⟨Nat.zero_le _,fun p hp=>?_⟩
    have npL:L≠p:=qag hL hp
    refine ⟨_,rfl,L,us,rfl,SqL.of (by rw [qaf npL]; exact hL),qd6 (xs:=us) (fun i σ H2=>∃ (o2 o3:Option V),σ=[some (.ref L),some (.ref p),o2,o3]∧Same H H2∧H2 p=some (.lst ((allC (hs.take i)).map V.int)))
      ⟨none,none,rfl,(Same.refl H).upd hp,qaa⟩ (fun i σ H2 _ ⟨_,_,_,h,_⟩=>SqL.of (h _ _ hL)) ?_ ?_⟩
    · rintro i x pp σ H2 hx ⟨o2,o3,rfl,s2,e2⟩ hpp
      obtain ⟨g,hg,hat⟩:=hv.get hx
      obtain ⟨ns,og⟩:=ok.ok g (List.mem_of_getElem? hg)
      have sP:Same H2 (upd H2 pp (.tup [.int i,x])):=(Same.refl H2).upd hpp
      refine ⟨pp,_,rfl,SqT.of qaa,rfl,_,_,rfl,_,_,rfl,rfl,?_⟩
      refine ⟨_,rfl,x,g,ns,rfl,HAt.same (s2.trans sP) hat,og,fun H3 s3=>⟨_,rfl,iteF ?_⟩⟩
      have s23:Same H2 H3:=sP.trans s3
      refine ⟨_,rfl,.inl ⟨rfl,_,SqL.of (s23 _ _ e2)⟩,?_⟩
      refine ⟨_,rfl,x,g,ns,rfl,HAt.same (s2.trans s23) hat,og,fun D H4 s4 hD eD=>?_⟩
      have s24:=s23.trans s4
      have hsub:∀ h∈hs.take (i + 1),h∈hs:=fun h hh=>List.mem_of_mem_take hh
      have hlt:(allC (hs.take (i + 1))).length≤6:=by
        have h1:=ok.clen hsub
        have h2:=ok.len
        rw [List.length_take] at h1
        omega
      refine ⟨p,D,_,_,rfl,rfl,s24 _ _ e2,eD,?_,?_⟩
      · rw [← List.length_append,← List.map_append,← ycd hg,List.length_map]
        exact Nat.le_of_lt (qbw (by omega))
      rw [← List.map_append,← ycd hg]
      have s5:Same H (upd H4 p (.lst ((allC (hs.take (i + 1))).map V.int))):=(s2.trans s24).at hp
      have e5:upd H4 p (.lst ((allC (hs.take (i + 1))).map V.int)) p=some (.lst ((allC (hs.take (i + 1))).map V.int)):=qaa
      revert s5 e5
      generalize upd H4 p (.lst ((allC (hs.take (i + 1))).map V.int))=H5
      intro s5 e5
      refine ⟨_,rfl,p,_,rfl,e5,by omega,fun q hq=>?_⟩
      have s6:Same H5 (upd H5 q (SetO P w q (uniq (allC (hs.take (i + 1)))))):=(Same.refl H5).upd hq
      refine ⟨q,_,rfl,qaa,_,_,rfl,rfl,_,rfl,qdm (by have:=ok.few hsub; omega) ?_⟩
      exact ⟨_,_,rfl,s5.trans s6,s6 _ _ e5⟩
    · rintro σ H2 ⟨o2,o3,rfl,s2,e2⟩
      exact k _ s2
end
end Mh
set_option Elab.async false
set_option linter.all false
set_option maxRecDepth 100000
set_option maxHeartbeats 1600000
namespace Mh
open PySem L2 PyProof.Rows
section
variable {P:Program} {w:World} {K:PySem.W.Frag} {mg:Str→Option Value} {base:Heap}
def yc7:Sp:=fun vs H Q _=>∃ L us hs S,vs=[.ref L]∧H L=some (.lst us)∧HsV H us hs∧okHs hs S∧∀ (D:Addr) (ns:List Int) (H':Hp),Same H H'→H D=none→H' D=some (.lst (ns.map V.int))→ns.Perm (uniq (allC hs))→ns.Pairwise (·≤·)→Q (.ref D) H'
abbrev ybq:Stmt:=top 32
theorem qcl:FnScope ["harms","cells","harm"] ["harms"] (yac ybq):=⟨rfl,rfl,rfl,by decide +kernel,rfl,by decide +kernel,by decide +kernel⟩
theorem qgm (B:Bl mg) (yca:mg "set" = none) (qb0:Has P w K mg base 6 "look_at_harms" ["thing"] ycm) (ya3:Has P w K mg base 1 "cells_in" ["harm"] ybp) (F:FnAt K mg "cells_of" ybq ["harms"]):Has P w K mg base 7 "cells_of" ["harms"] yc7:=by
  refine Has.of F qcl (fun vs H Q E h=>?_) (fun f cdv A outer s H vs Q E hr h=>?_)
  · obtain ⟨L,us,hs,S,rfl,_⟩:=h
    rfl
  · obtain ⟨L,us,hs,S,rfl,hL,hv,ok,k⟩:=h
    have sc:=qcl
    refine ⟨_,(qap (qc5 (yaj qb0 hr (yaa (pv 0) qac)))
      (qap (ybt (i:=1) sc.nd rfl (Or.inl rfl) (ybz qac))
      (qap (qf1 PassesOwn.never rfl (qch (pv 0)) (yam (i:=2) sc.nd rfl (Or.inl rfl))
        (yan (qc5 (yew PySem.F.plainAttrs_list PySem.F.slot_list_extend PySem.F.type_list_extend qdj (pv 1) (yaa (yaj ya3 hr (yaa (pv 2) qac)) qac)))))
      (yan (qa9 (qae (ydz rfl) rfl (B.of rfl) qdy (yaa (ybj (qb4 rfl) rfl yca yb0 (yaa (pv 1) qac)) qac))))))),?_⟩
    refine ⟨_,rfl,L,us,hs,S,rfl,hL,hv,ok,fun H1 s1=>?_⟩
    refine ⟨Nat.zero_le _,fun p hp=>?_⟩
    have hp0:H p=none:=s1.free hp
    have npL:L≠p:=qag hL hp0
    refine ⟨_,rfl,L,rfl,⟨us,SqL.of (by rw [qaf npL]; exact s1 _ _ hL)⟩,qd9 (xs:=us) (fun i σ H2=>∃ (o2:Option V),σ=[some (.ref L),some (.ref p),o2]∧Same H H2∧H2 p=some (.lst ((allC (hs.take i)).map V.int)))
      ⟨none,rfl,s1.upd hp,qaa⟩ (fun i σ H2 _ ⟨_,_,h,_⟩=>SqL.of (h _ _ hL)) ?_ ?_⟩
    · rintro i x σ H2 hx ⟨o2,rfl,s2,e2⟩
      obtain ⟨g,hg,hat⟩:=hv.get hx
      obtain ⟨ns,og⟩:=ok.ok g (List.mem_of_getElem? hg)
      refine ⟨_,rfl,.inl ⟨rfl,_,SqL.of e2⟩,?_⟩
      refine ⟨_,rfl,x,g,ns,rfl,HAt.same s2 hat,og,fun D H4 s4 hD eD=>?_⟩
      have hsub:∀ h∈hs.take (i + 1),h∈hs:=fun h hh=>List.mem_of_mem_take hh
      have hlt:(allC (hs.take (i + 1))).length≤6:=by
        have h1:=ok.clen hsub
        have h2:=ok.len
        rw [List.length_take] at h1
        omega
      refine ⟨p,D,_,_,rfl,rfl,s4 _ _ e2,eD,?_,?_⟩
      · rw [← List.length_append,← List.map_append,← ycd hg,List.length_map]
        exact Nat.le_of_lt (qbw (by omega))
      rw [← List.map_append,← ycd hg]
      exact ⟨_,rfl,(s2.trans s4).at hp0,qaa⟩
    · rintro σ H2 ⟨o2,rfl,s2,e2⟩
      rw [hv.len,List.take_length] at e2
      have hc:=ok.clen (l:=hs) (fun h hh=>hh)
      have h3:=ok.len
      refine ⟨_,rfl,p,_,rfl,e2,by omega,fun q hq=>?_⟩
      have s6:Same H2 (upd H2 q (SetO P w q (uniq (allC hs)))):=(Same.refl H2).upd hq
      refine ⟨q,_,rfl,qaa,by have:=ok.few (l:=hs) (fun h hh=>hh); omega,fun l ns hl hpm hso=>?_⟩
      exact k l ns _ ((s2.trans s6).upd hl) ((s2.trans s6).free hl) qaa hpm hso
end
end Mh
set_option Elab.async false
set_option linter.all false
set_option maxRecDepth 100000
set_option maxHeartbeats 1600000
namespace Mh
open PySem L2 PyProof.Rows
theorem tab_ones {s:Str} (h:s="stuck"∨s="slow"∨s="forgets"∨s="misreads"∨s="nowhere"):KTD.datumAt s tabP=some ((["cell","bit"]:List Str).map V.str):=by
  rcases h with rfl | rfl | rfl | rfl | rfl <;> decide +kernel
theorem yi0:KTD.datumAt ("turns" : Str) tabP=some ((["cell","cell","bit"]:List Str).map V.str):=by decide +kernel
theorem tab_sets {s:Str} (h:s="sets"∨s="keeps"):KTD.datumAt s tabP=some ((["cell","cell","bit","bit"]:List Str).map V.str):=by
  rcases h with rfl | rfl <;> decide +kernel
theorem yiw:KTD.datumAt ("other" : Str) tabP=some ((["cell","cell"]:List Str).map V.str):=by decide +kernel
theorem tab_both:KTD.datumAt ("both" : Str) tabP=some ((["cell","cell","how"]:List Str).map V.str):=by decide +kernel
end Mh
set_option Elab.async false
set_option linter.all false
set_option maxRecDepth 100000
set_option maxHeartbeats 1600000
namespace Mh
open PySem L2 PyProof.Rows
def Oks (hs:List Hm):Prop:=∀ h∈hs,∃ ns,okH h ns
end Mh
set_option Elab.async false
set_option linter.all false
set_option maxRecDepth 100000
set_option maxHeartbeats 1600000
set_option Elab.async false
set_option linter.all false
set_option maxRecDepth 100000
set_option maxHeartbeats 1600000
namespace Mh
open PySem L2 PyProof.Rows Mx
def InR (hs:List Hm) (n:Nat):Prop:=∀ h∈hs,∀ c∈h.c,0≤c∧c < n
theorem dS {a b:Str}:decide (V.str a=V.str b)=decide (a=b):=by
  by_cases h:a=b
  · subst h; simp
  · rw [decide_eq_false h,decide_eq_false (fun z=>h (V.str.inj z))]
end Mh
set_option Elab.async false
set_option linter.all false
set_option maxRecDepth 100000
set_option maxHeartbeats 1600000
namespace Mh
open PySem L2 PyProof.Rows Mx
theorem eqS {a s:Str}:(eqV (.str a) (.str s)=true)=(s=a):=by
  show ((a == s)=true)=_
  rw [beq_iff_eq]
  exact propext eq_comm
theorem in2 {s a b:Str}:inV (.str s) [.str a,.str b]=decide (s=a∨s=b):=by
  unfold inV
  rw [Bool.eq_iff_iff]
  simp [eqS]
end Mh
set_option Elab.async false
set_option linter.all false
set_option maxRecDepth 100000
set_option maxHeartbeats 1600000
set_option Elab.async false
set_option linter.all false
set_option maxRecDepth 100000
set_option maxHeartbeats 1600000
set_option Elab.async false
set_option linter.all false
set_option maxRecDepth 100000
set_option maxHeartbeats 1600000
set_option Elab.async false
set_option linter.all false
set_option maxRecDepth 100000
set_option maxHeartbeats 1600000
set_option Elab.async false
set_option linter.all false
set_option maxRecDepth 100000
set_option maxHeartbeats 1600000
set_option Elab.async false
set_option linter.all false
set_option maxRecDepth 100000
set_option maxHeartbeats 1600000
set_option Elab.async false
set_option linter.all false
set_option maxRecDepth 100000
set_option maxHeartbeats 4000000
namespace Mh
open PySem L2 PyProof.Rows Mx
def Dig (ds zs:List Int):Prop:=ds.length=zs.length∧∀ (i:Nat) d z,ds[i]?=some d→zs[i]?=some z→0≤d∧d < z
theorem Dig.get {ds zs:List Int} (h:Dig ds zs) {i:Nat} {z:Int} (hz:zs[i]?=some z):∃ d,ds[i]?=some d∧0≤d∧d < z:=by
  have hi:i < ds.length:=by rw [h.1]; exact (List.getElem?_eq_some_iff.mp hz).1
  exact ⟨ds[i],by simp [hi],h.2 i _ z (by simp [hi]) hz⟩
theorem int_get {ds:List Int} {i:Nat} {v:V} (h:(ds.map V.int)[i]?=some v):∃ d,ds[i]?=some d∧v=.int d:=yb9 h
theorem qdk {ds:List Int} {i:Nat} {d:Int} (h:ds[i]?=some d):(ds.map V.int)[i]?=some (.int d):=by rw [List.getElem?_map,h]; rfl
section
variable {P:Program} {w:World} {K:PySem.W.Frag} {mg:Str→Option Value} {base:Heap}
def qet:Sp:=fun vs H Q _=>∃ c t a zs,vs=[.int c,.int t,.ref a]∧H a=some (.lst (zs.map V.int))∧zs.length≤100∧(∀ z∈zs,0 < z∧z≤1000)∧0≤t∧t≤1000000∧
  ∀ p ds H',Same H H'→H p=none→H' p=some (.lst (ds.map V.int))→Dig ds zs→Q (.ref p) H'
abbrev qba:Stmt:=top 38
theorem qc3:FnScope ["_law_cell","_law_turn","_law_sizes","_law_number","_law_wide","_law_seed","_law_found","_law_k","_law_size"] ["_law_cell","_law_turn","_law_sizes"] (yac qba):=⟨rfl,rfl,rfl,by decide +kernel,rfl,by decide +kernel,by decide +kernel⟩
theorem yhy (B:Bl mg) (F:FnAt K mg "_law_digits" qba ["_law_cell","_law_turn","_law_sizes"]):Has P w K mg base 1 "_law_digits" ["_law_cell","_law_turn","_law_sizes"] qet:=by
  refine Has.of F qc3 (fun vs H Q E h=>?_) (fun f cdv A outer s H vs Q E hr h=>?_)
  · obtain ⟨c,t,a,zs,rfl,_⟩:=h
    rfl
  · obtain ⟨c,t,a,zs,rfl,ha,hl,hz,ht0,ht1,k⟩:=h
    have sc:=qc3
    refine ⟨_,(qap (ybt (i:=3) sc.nd rfl (Or.inl rfl) (qae call_abs rfl (B.of rfl) boot_abs (yaa (pv 0) qac)))
      (qap (ybt (i:=4) sc.nd rfl (Or.inl rfl) (yaz op_ge (pv 3) (ya9 yh3 yab yab) (yak _)))
      (qap (ybt (i:=5) sc.nd rfl (Or.inl rfl) (ya9 qbv (ya9 qc4 (pv 3) yab) (ya9 qg1 yab (pv 1))))
      (qap (ybt (i:=6) sc.nd rfl (Or.inl rfl) (ybz qac))
      (qap (qf1 PassesOwn.never rfl (qfl rfl (B.of rfl) (yaa (pv 2) qac)) (qe4 rfl (yay (yam (i:=7) sc.nd rfl (Or.inl rfl)) (yay (yam (i:=8) sc.nd rfl (Or.inl rfl)) ycl)))
        (yan (yeq (PW.pt (pw_and (qco (pv 4)) (qis (qbf yfo (pv 3) yab (yak _)))))
          (qap (qc5 (yew PySem.F.plainAttrs_list PySem.F.slot_list_append PySem.F.type_list_append qdi (pv 6) (yaa (ya9 qc4 (pv 3) (pv 8)) qac)))
          (yan (ybt (i:=3) sc.nd rfl (Or.inl rfl) (ya9 yjc (pv 3) (pv 8)))))
          (qap (ybt (i:=5) sc.nd rfl (Or.inl rfl) (ya9 qc4 (ya9 yh3 (ya9 qbv (pv 5) (ya9 qg1 yab (ya9 qbv (pv 7) yab))) yab) yab))
          (yan (qc5 (yew PySem.F.plainAttrs_list PySem.F.slot_list_append PySem.F.type_list_append qdi (pv 6) (yaa (ya9 qc4 (ya9 yjc (pv 5) yab) (pv 8)) qac))))))))
      (yan (qa9 (pv 6)))))))),?_⟩
    refine ⟨_,rfl,c,rfl,?_⟩
    refine ⟨_,rfl,10,18,rfl,rfl,⟨by decide,by decide,by decide⟩,_,_,rfl,rfl,?_⟩
    refine ⟨_,rfl,_,_,rfl,rfl,(by show (0:Int) < 2147483647; decide),_,rfl,_,_,rfl,rfl,.inl ⟨by decide,by decide⟩,_,_,rfl,rfl,?_⟩
    refine ⟨Nat.zero_le _,fun p hp=>?_⟩
    generalize hnum:(if c < 0 then -c else c)=num
    generalize hwd:decide ((10:Int) ^ (18:Int).toNat≤num)=wd
    have hs0:0≤num % 2147483647 + 7919 * t:=by have:=Int.emod_nonneg num (show (2147483647:Int)≠0 by decide); omega
    have hs1:num % 2147483647 + 7919 * t < 2 ^ 40:=by have:=Int.emod_lt_of_pos num (show (0:Int) < 2147483647 by decide); omega
    refine ⟨_,rfl,a,_,rfl,SqL.of (by rw [qaf (qag ha hp)]; exact ha),qd6 (xs:=zs.map V.int) (fun i σ H2=>∃ (nu seed:Int) (ds:List Int) (q1 q2:Option V),σ=[some (.int c),some (.int t),some (.ref a),some (.int nu),some (.bl wd),some (.int seed),some (.ref p),q1,q2]∧
      Same H H2∧H2 p=some (.lst (ds.map V.int))∧ds.length=i∧(∀ (j:Nat) d z,ds[j]?=some d→zs[j]?=some z→0≤d∧d < z)∧0≤seed∧seed < 2 ^ 40) ?_ (fun i σ H2 _ ⟨_,_,_,_,_,_,s2,_⟩=>SqL.of (s2 _ _ ha)) ?_ ?_⟩
    · exact ⟨num,_,[],none,none,by rw [← hwd]; rfl,(Same.refl H).upd hp,qaa,rfl,fun j d z h=>by simp at h,hs0,hs1⟩
    · rintro i x pp σ H2 hx ⟨nu,seed,ds,q1,q2,rfl,s2,hp2,hln,hds,hse0,hse1⟩ hpp
      obtain ⟨z,hzi,rfl⟩:=int_get hx
      obtain ⟨hz0,hz1⟩:=hz z (List.mem_of_getElem? hzi)
      have hil:i < zs.length:=(List.getElem?_eq_some_iff.mp hzi).1
      have s3:Same H (upd H2 pp (.tup [.int i,.int z])):=s2.upd hpp
      have hp3:upd H2 pp (.tup [.int i,.int z]) p=some (.lst (ds.map V.int)):=by rw [qaf (qag hp2 hpp)]; exact hp2
      have fin:∀ (d:Int),0≤d→d < z→∀ (j:Nat) d' z',(ds++[d])[j]?=some d'→zs[j]?=some z'→0≤d'∧d' < z':=fun d h0 h1 j d' z' hj hj2=>by
        by_cases hlt:j < ds.length
        · rw [List.getElem?_append_left hlt] at hj
          exact hds j d' z' hj hj2
        · rw [List.getElem?_append_right (by omega)] at hj
          have hj0:j - ds.length=0:=by
            cases q:j - ds.length with
            | zero=>rfl
            | succ n=>rw [q] at hj; simp at hj
          rw [hj0] at hj
          have e1:d=d':=by simpa using hj
          have e2:j=i:=by omega
          subst e1 e2
          rw [hzi] at hj2; cases hj2
          exact ⟨h0,h1⟩
      refine ⟨pp,_,rfl,SqT.of qaa,rfl,_,_,rfl,_,_,rfl,rfl,?_⟩
      refine ⟨_,rfl,wd,rfl,?_⟩
      cases wd with
      | true=>
        refine iteT ⟨_,rfl,_,_,rfl,rfl,_,rfl,?_⟩
        by_cases hn:0 < nu
        · refine iteD hn ?_
          refine ⟨_,rfl,.inl ⟨rfl,_,SqL.of hp3⟩,_,rfl,_,rfl,_,_,rfl,rfl,hz0,p,_,_,rfl,rfl,hp3,qbw (by rw [List.length_map]; omega),?_⟩
          refine ⟨_,rfl,_,rfl,_,_,rfl,rfl,⟨hz0,by omega⟩,?_⟩
          exact ⟨_,seed,ds++[nu % z],_,_,rfl,s3.at hp,by rw [List.map_append]; exact qaa,by simp [hln],fin _ (Int.emod_nonneg _ (by omega)) (Int.emod_lt_of_pos _ hz0),hse0,hse1⟩
        · refine iteN (decide_eq_false hn) ?_
          refine ⟨_,rfl,_,rfl,_,_,rfl,rfl,_,_,rfl,rfl,.inl ⟨by decide,by decide⟩,_,_,rfl,rfl,_,_,rfl,rfl,⟨by decide,by decide,by omega⟩,_,_,rfl,rfl,(by show (0:Int) < 2147483587; decide),?_⟩
          have g0:=Int.emod_nonneg ((seed + 104729 * ((i:Int) + 1)) ^ (2:Int).toNat) (show (2147483587:Int)≠0 by decide)
          have g1:=Int.emod_lt_of_pos ((seed + 104729 * ((i:Int) + 1)) ^ (2:Int).toNat) (show (0:Int) < 2147483587 by decide)
          generalize hse':(seed + 104729 * ((i:Int) + 1)) ^ (2:Int).toNat % 2147483587=seed' at g0 g1
          refine ⟨_,rfl,.inl ⟨rfl,_,SqL.of hp3⟩,_,rfl,_,_,rfl,rfl,⟨by decide,by decide⟩,_,rfl,_,_,rfl,rfl,hz0,p,_,_,rfl,rfl,hp3,qbw (by rw [List.length_map]; omega),?_⟩
          exact ⟨nu,seed',ds++[seed' / 16 % z],_,_,by rw [← hse']; rfl,s3.at hp,by rw [List.map_append,← hse']; exact qaa,by simp [hln],fin _ (Int.emod_nonneg _ (by omega)) (Int.emod_lt_of_pos _ hz0),g0,by omega⟩
      | false=>
        refine iteF (iteF ?_)
        refine ⟨_,rfl,_,rfl,_,_,rfl,rfl,_,_,rfl,rfl,.inl ⟨by decide,by decide⟩,_,_,rfl,rfl,_,_,rfl,rfl,⟨by decide,by decide,by omega⟩,_,_,rfl,rfl,(by show (0:Int) < 2147483587; decide),?_⟩
        have g0:=Int.emod_nonneg ((seed + 104729 * ((i:Int) + 1)) ^ (2:Int).toNat) (show (2147483587:Int)≠0 by decide)
        have g1:=Int.emod_lt_of_pos ((seed + 104729 * ((i:Int) + 1)) ^ (2:Int).toNat) (show (0:Int) < 2147483587 by decide)
        generalize hse':(seed + 104729 * ((i:Int) + 1)) ^ (2:Int).toNat % 2147483587=seed' at g0 g1
        refine ⟨_,rfl,.inl ⟨rfl,_,SqL.of hp3⟩,_,rfl,_,_,rfl,rfl,⟨by decide,by decide⟩,_,rfl,_,_,rfl,rfl,hz0,p,_,_,rfl,rfl,hp3,qbw (by rw [List.length_map]; omega),?_⟩
        exact ⟨nu,seed',ds++[seed' / 16 % z],_,_,by rw [← hse']; rfl,s3.at hp,by rw [List.map_append,← hse']; exact qaa,by simp [hln],fin _ (Int.emod_nonneg _ (by omega)) (Int.emod_lt_of_pos _ hz0),g0,by omega⟩
    · rintro σ H2 ⟨nu,seed,ds,q1,q2,rfl,s2,hp2,hln,hds,_,_⟩
      rw [List.length_map] at hln
      exact ⟨_,rfl,k p ds H2 s2 hp hp2 ⟨hln,hds⟩⟩
end
end Mh
set_option Elab.async false
set_option linter.all false
set_option maxRecDepth 100000
set_option maxHeartbeats 4000000
namespace Mh
open PySem L2 PyProof.Rows Mx
def yap:List Str:=["stuck","slow","forgets","misreads","turns","sets","keeps","nowhere","other","both"]
section
variable {P:Program} {w:World} {K:PySem.W.Frag} {mg:Str→Option Value} {base:Heap}
abbrev qa6:Stmt:=top 37
theorem qct:FnScope ["_law_script","_law_k"] ["_law_script","_law_k"] (yac qa6):=⟨rfl,rfl,rfl,by decide +kernel,rfl,by decide +kernel,by decide +kernel⟩
end
end Mh
set_option Elab.async false
set_option linter.all false
set_option maxRecDepth 100000
set_option maxHeartbeats 4000000
namespace Mh
open PySem L2 PyProof.Rows Mx
theorem bit_of {d:Int} (h0:0≤d) (h1:d < 2):∃ b,d=b2i b:=by
  rcases (by omega:d=0∨d=1) with rfl | rfl
  · exact ⟨false,rfl⟩
  · exact ⟨true,rfl⟩
theorem in5 {s a b c d e:Str}:inV (.str s) (([a,b,c,d,e]:List Str).map V.str)=decide (s=a∨s=b∨s=c∨s=d∨s=e):=by
  unfold inV
  rw [Bool.eq_iff_iff]
  simp [eqS]
theorem qij {s:Str} (h:s∈yap):(s="stuck"∨s="slow"∨s="forgets"∨s="misreads"∨s="nowhere")∨s="turns"∨(s="sets"∨s="keeps")∨s="other"∨s="both":=by
  simp [yap] at h
  rcases h with rfl | rfl | rfl | rfl | rfl | rfl | rfl | rfl | rfl | rfl <;> simp
theorem yfp {ss:List Int} (nd:ss.Nodup) {a:Int} (ha:a∈ss):(ss.filter fun x=>!decide (V.int x=V.int a)).length=ss.length - 1:=by
  induction ss with
  | nil=>simp at ha
  | cons x r ih=>
    obtain ⟨h1,h2⟩:=List.nodup_cons.mp nd
    by_cases hx:x=a
    · subst hx
      have:r.filter (fun y=>!decide (V.int y=V.int x))=r:=List.filter_eq_self.mpr fun y hy=>by
        have:y≠x:=fun z=>h1 (z ▸ hy)
        simp [this]
      rw [List.filter_cons,if_neg (by simp),this]
      simp
    · have ha':a∈r:=by
        rcases List.mem_cons.mp ha with h | h
        · exact absurd h.symm hx
        · exact h
      have hp:=List.length_pos_of_mem ha'
      rw [List.filter_cons,if_pos (by simp [hx]),List.length_cons,ih h2 ha',List.length_cons]
      omega
section
variable {P:Program} {w:World} {K:PySem.W.Frag} {mg:Str→Option Value} {base:Heap}
def okSome (ss:List Int) (n:Int):Prop:=ss.Nodup∧2≤ss.length∧ss.length≤3∧∀ x∈ss,0≤x∧x < n
def yi9:Sp:=fun vs H Q _=>∃ (d S:Addr) (d0 d1 d2 d3 d4:Int) (ss:List Int) (n:Int),vs=[.ref d,.ref S]∧H d=some (.lst [.int d0,.int d1,.int d2,.int d3,.int d4])∧0≤d0∧d0 < 10∧0≤d1∧0≤d2∧0≤d3∧d3 < 2∧0≤d4∧d4 < 2∧
  H S=some (.lst (ss.map V.int))∧okSome ss n∧n≤64∧∀ v h ns H',Same H H'→HAt H' v h→(∀ a,v=.ref a→H a=none)→okH h ns→(∀ c∈h.c,c∈ss)→Q v H'
abbrev qbr:Stmt:=top 39
theorem yd0:FnScope ["_law_d","_law_some","_law_words","_law_word","_law_a","_law_b"] ["_law_d","_law_some"] (yac qbr):=⟨rfl,rfl,rfl,by decide +kernel,rfl,by decide +kernel,by decide +kernel⟩
theorem ok_harm (B:Bl mg) (F:FnAt K mg "_law_harm" qbr ["_law_d","_law_some"]):Has P w K mg base 1 "_law_harm" ["_law_d","_law_some"] yi9:=by
  refine Has.ofQ F yd0 (fun vs H Q E h=>?_) (fun f cdv A outer s H vs Q E hr h=>?_)
  · obtain ⟨d,S,d0,d1,d2,d3,d4,ss,n,rfl,_⟩:=h
    rfl
  · obtain ⟨d,S,d0,d1,d2,d3,d4,ss,n,rfl,hd,a0,a0',a1,a2,a3,a3',a4,a4',hS,⟨nd,l2,l3,hr0⟩,hn,k⟩:=h
    have sc:=yd0
    refine ⟨_,(qat rfl (qad (qam (i:=2) sc.nd rfl (Or.inl rfl) (qje (xs:=yap) (by decide +kernel)))
      (qad (qam (i:=3) sc.nd rfl (Or.inl rfl) (ya7 qal (qab (pv 2)) (ya7 qal (qab (pv 0)) (qab yab) (fun _ _=>rfl)) (fun _ _=>rfl)))
      (qad (qam (i:=4) sc.nd rfl (Or.inr rfl) (ya7 qal (qab (pv 1)) (ybg qc4 (ya7 qal (qab (pv 0)) (qab yab) (fun _ _=>rfl)) (qar yaf rfl (B.of rfl) boot_len (yal (qab (pv 1)) yad))) (fun _ _=>rfl)))
      (qad (qam (i:=5) sc.nd rfl (Or.inl rfl) (ya7 qal (qab (ybw rfl (ya1 rfl) (M:=["_law_cell","_law_a"]) (ix:=[none,some 4]) (qch (pv 1)) (fun _ _ _ _=>(yam (i:=0) (show List.Nodup (["_law_cell","_law_a"]:List Str) by decide +kernel) rfl (Or.inl rfl))) (fun _ _ _ _=>(ydq (qbf yik (pv 0) (pv 1) (yak _)))) (fun _ _ _ _=>(pv 0)))) (ybg qc4 (ya7 qal (qab (pv 0)) (qab yab) (fun _ _=>rfl)) (ybg yg3 (qar yaf rfl (B.of rfl) boot_len (yal (qab (pv 1)) yad)) (qab yab))) (fun _ _=>rfl)))
      (qad (ya5 (yat yb1 (qab (pv 3)) (qe_tstrs (xs:=["stuck","slow","forgets","misreads","nowhere"]) (by decide +kernel)) (by with_unfolding_all rfl))
        (yae (yai (ybk (yal (qab (pv 3)) (yal (qab (pv 4)) (qcb (ya7 qal (qab (pv 0)) (qab yab) (fun _ _=>rfl)) yad))))))
        yar)
      (qad (ya5 (yat qbz (qab (pv 3)) (qab qah) (yak _))
        (yae (yai (ybk (yal (qab (pv 3)) (yal (qab (pv 4)) (yal (qab (pv 5)) (qcb (ya7 qal (qab (pv 0)) (qab yab) (fun _ _=>rfl)) yad)))))))
        yar)
      (qad (ya5 (yat yb1 (qab (pv 3)) (ybk (qao (qab qah) (qao (qab qah) yad))) (by with_unfolding_all rfl))
        (yae (yai (ybk (yal (qab (pv 3)) (yal (qab (pv 4)) (yal (qab (pv 5)) (qcb (ya7 qal (qab (pv 0)) (qab yab) (fun _ _=>rfl)) (qcb (ya7 qal (qab (pv 0)) (qab yab) (fun _ _=>rfl)) yad))))))))
        yar)
      (yae (yai (ya7 qal (qav (qeo (ybk (qao (qab qah) (yal (qab (pv 4)) (yal (qab (pv 5)) yad)))) (qeo (ybk (qao (qab qah) (yal (qab (pv 4)) (yal (qab (pv 5)) (qcb (ya7 qal (qav (qao (qab qah) (qao (qab qah) yad))) (ya7 qal (qab (pv 0)) (qab yab) (fun _ _=>rfl)) (fun _ _=>rfl)) yad))))) yad))) (qcc yeg rfl (B.of rfl) boot_int (qa_cp (qe_cmpR qbz (qab (pv 3)) (qab qah) (yak _)) yad)) (fun _ _=>rfl)))))))))))),?_⟩
    have hsl:10≤sizeLine:=by decide
    refine ⟨hsl,fun wp hwp=>?_⟩
    have s1:Same H (upd H wp (.lst (yap.map V.str))):=(Same.refl H).upd hwp
    have f1:upd H wp (.lst (yap.map V.str)) wp=some (.lst (yap.map V.str)):=qaa
    revert s1 f1
    generalize upd H wp (.lst (yap.map V.str))=H1
    intro s1 f1
    obtain ⟨word,hword⟩:∃ x,yap[d0.toNat]?=some x:=⟨yap[d0.toNat]'(by show d0.toNat < 10; omega),List.getElem?_eq_getElem _⟩
    refine ⟨_,rfl,_,rfl,d,_,_,_,rfl,rfl,SqL.of (s1 _ _ hd),yag 0 rfl,wp,_,_,.str word,rfl,rfl,SqL.of f1,qei a0 (by rw [List.getElem?_map,hword]; rfl),?_⟩
    have hwm:=qij (List.mem_of_getElem? hword)
    -- a
    have hm1:=Int.emod_nonneg d1 (show (ss.length:Int)≠0 by omega)
    have hm1':=Int.emod_lt_of_pos d1 (show (0:Int) < ss.length by omega)
    obtain ⟨a,ha⟩:∃ x,ss[(d1 % (ss.length:Int)).toNat]?=some x:=⟨ss[(d1 % (ss.length:Int)).toNat]'(by omega),List.getElem?_eq_getElem _⟩
    refine ⟨_,rfl,_,rfl,d,_,_,_,rfl,rfl,SqL.of (s1 _ _ hd),yag 1 rfl,_,rfl,S,_,rfl,.inl (SqL.of (s1 _ _ hS)),_,_,rfl,rfl,(by rw [List.length_map]; show (0:Int) < ss.length; omega),S,_,_,.int a,rfl,rfl,SqL.of (s1 _ _ hS),?_,?_⟩
    · rw [List.length_map]
      exact qei hm1 (qdk ha)
    have ham:=List.mem_of_getElem? ha
    -- b
    refine ⟨_,rfl,S,rfl,⟨_,SqL.of (s1 _ _ hS)⟩,fun D hD=>yb3 (n:=ss.length) (fun i H'=>Same H1 H'∧H' D=some (.lst (((ss.take i).filter fun x=>!decide (V.int x=V.int a)).map V.int))) ⟨(Same.refl H1).upd hD,qaa⟩ ?_ ?_⟩
    rotate_left
    · rintro i H2 hi ⟨s2,e2⟩
      have hS2:=s2 _ _ (s1 _ _ hS)
      refine ⟨⟨_,_,SqL.of hS2,by rw [List.getElem?_map,List.getElem?_eq_getElem hi]; rfl⟩,?_⟩
      rintro x H3 ⟨rfl,hx⟩
      obtain ⟨y,hy,rfl⟩:=yb9 (hx _ (SqL.of hS2))
      refine ⟨ya2.set (ya2.refl _) rfl,?_⟩
      refine ⟨_,rfl,_,rfl,rfl,_,rfl,?_⟩
      have hfl:=List.length_filter_le (fun x=>!decide (V.int x=V.int a)) (ss.take i)
      have htl:(ss.take i).length≤ss.length:=by rw [List.length_take]; omega
      rw [List.take_add_one,hy]
      by_cases hya:y=a
      · refine iteN (by simp [hya]) ⟨s2,?_⟩
        rw [e2]; simp [hya]
      · refine iteB (by simp [hya]) ⟨_,rfl,_,e2,qbw (by rw [List.length_map]; omega),s2.at hD,?_⟩
        rw [qaa]; simp [hya]
    rintro H2 ⟨s2,e2⟩
    rw [List.take_length] at e2
    refine ⟨⟨_,SqL.of (s2 _ _ (s1 _ _ hS)),by simp⟩,?_⟩
    have hfl:=yfp nd ham
    have hfm:∀ x∈ss.filter (fun x=>!decide (V.int x=V.int a)),x∈ss∧x≠a:=fun x hx=>by
      obtain ⟨h1,h2⟩:=List.mem_filter.mp hx
      exact ⟨h1,fun z=>by subst z; simp at h2⟩
    revert hfl hfm e2
    generalize ss.filter (fun x=>!decide (V.int x=V.int a))=fs
    intro e2 hfl hfm
    have hm2:=Int.emod_nonneg d2 (show ((ss.length:Int) - 1)≠0 by omega)
    have hm2':=Int.emod_lt_of_pos d2 (show (0:Int) < (ss.length:Int) - 1 by omega)
    obtain ⟨b,hb⟩:∃ x,fs[(d2 % ((ss.length:Int) - 1)).toNat]?=some x:=⟨fs[(d2 % ((ss.length:Int) - 1)).toNat]'(by omega),List.getElem?_eq_getElem _⟩
    have s12:=s1.trans s2
    refine ⟨_,rfl,d,_,_,_,rfl,rfl,SqL.of (s12 _ _ hd),yag 2 rfl,_,rfl,S,_,rfl,.inl (SqL.of (s12 _ _ hS)),_,_,rfl,rfl,_,_,rfl,rfl,(by rw [List.length_map]; show (0:Int) < (ss.length:Int) - 1; omega),D,_,_,.int b,rfl,rfl,SqL.of e2,?_,?_⟩
    · rw [List.length_map]
      exact qei hm2 (qdk hb)
    obtain ⟨hbm,hba⟩:=hfm b (List.mem_of_getElem? hb)
    obtain ⟨x3,rfl⟩:=bit_of a3 a3'
    obtain ⟨x4,rfl⟩:=bit_of a4 a4'
    have ra:=hr0 a ham
    have rb:=hr0 b hbm
    have nab:([a,b]:List Int).Nodup:=by simp [Ne.symm hba]
    have rg1:∀ x∈([a]:List Int),0≤x∧x < 64:=fun x hx=>by rw [List.mem_singleton.mp hx]; exact ⟨ra.1,by omega⟩
    have rg2:∀ x∈([a,b]:List Int),0≤x∧x < 64:=fun x hx=>by
      simp at hx
      rcases hx with rfl | rfl
      · exact ⟨ra.1,by omega⟩
      · exact ⟨rb.1,by omega⟩
    have mm1:∀ c∈([a]:List Int),c∈ss:=fun c hc=>by rw [List.mem_singleton.mp hc]; exact ham
    have mm2:∀ c∈([a,b]:List Int),c∈ss:=fun c hc=>by
      simp at hc
      rcases hc with rfl | rfl
      · exact ham
      · exact hbm
    have bx:∀ x:Bool,bitV (.int (b2i x)):=fun x=>⟨x,rfl⟩
    -- the first sort
    refine ⟨_,rfl,(by show 5≤sizeLine; decide),fun t1 w1=>⟨t1,_,rfl,.inr (SqT.of qaa),rfl,rfl,_,rfl,?_⟩⟩
    rw [in5]
    have s3:Same H2 (upd H2 t1 (.tup ((["stuck","slow","forgets","misreads","nowhere"]:List Str).map V.str))):=(Same.refl H2).upd w1
    revert s3
    generalize upd H2 t1 (.tup ((["stuck","slow","forgets","misreads","nowhere"]:List Str).map V.str))=H3
    intro s3
    have s13:=s12.trans s3
    by_cases c1:word="stuck"∨word="slow"∨word="forgets"∨word="misreads"∨word="nowhere"
    · refine iteD c1 ?_
      refine ⟨_,rfl,_,rfl,_,rfl,d,_,_,_,rfl,rfl,SqL.of (s13 _ _ hd),yag 3 rfl,(by show 3≤sizeLine; decide),fun p hp=>?_⟩
      exact k _ ⟨word,[a],[.int (b2i x3)]⟩ ["bit"] _ (s13.upd hp) ⟨p,rfl,qaa⟩ (fun a e=>by cases e; exact s13.free hp) ⟨tab_ones c1,.bit (bx _) .nil,by simp,by simp,by simp,rg1⟩ mm1
    refine qdm c1 ?_
    refine ⟨_,rfl,rfl,_,rfl,?_⟩
    rw [dS]
    by_cases c2:word="turns"
    · refine iteD c2 ?_
      refine ⟨_,rfl,_,rfl,_,rfl,_,rfl,d,_,_,_,rfl,rfl,SqL.of (s13 _ _ hd),yag 3 rfl,(by show 4≤sizeLine; decide),fun p hp=>?_⟩
      exact k _ ⟨word,[a,b],[.int (b2i x3)]⟩ ["bit"] _ (s13.upd hp) ⟨p,rfl,qaa⟩ (fun a e=>by cases e; exact s13.free hp) ⟨by rw [c2]; exact yi0,.bit (bx _) .nil,by simp,by simp,nab,rg2⟩ mm2
    refine qdm c2 ?_
    refine ⟨_,rfl,(by show 2≤sizeLine; decide),fun t2 w2=>⟨t2,_,rfl,.inr (SqT.of qaa),rfl,rfl,_,rfl,?_⟩⟩
    rw [in2]
    have s4:Same H3 (upd H3 t2 (.tup [.str "sets",.str "keeps"])):=(Same.refl H3).upd w2
    revert s4
    generalize upd H3 t2 (.tup [.str "sets",.str "keeps"])=H4
    intro s4
    have s14:=s13.trans s4
    by_cases c3:word="sets"∨word="keeps"
    · refine iteD c3 ?_
      refine ⟨_,rfl,_,rfl,_,rfl,_,rfl,d,_,_,_,rfl,rfl,SqL.of (s14 _ _ hd),yag 3 rfl,_,rfl,d,_,_,_,rfl,rfl,SqL.of (s14 _ _ hd),yag 4 rfl,(by show 5≤sizeLine; decide),fun p hp=>?_⟩
      exact k _ ⟨word,[a,b],[.int (b2i x3),.int (b2i x4)]⟩ ["bit","bit"] _ (s14.upd hp) ⟨p,rfl,qaa⟩ (fun a e=>by cases e; exact s14.free hp) ⟨tab_sets c3,.bit (bx _) (.bit (bx _) .nil),by simp,by simp,nab,rg2⟩ mm2
    refine qdm c3 ?_
    have c4:word="other"∨word="both":=by
      rcases hwm with h | h | h | h | h
      · exact absurd h c1
      · exact absurd h c2
      · exact absurd h c3
      · exact .inl h
      · exact .inr h
    refine ⟨_,rfl,_,rfl,(by show 3≤sizeLine; decide),fun o1 y1=>?_⟩
    have s5:Same H4 (upd H4 o1 (.tup [.str "other",.int a,.int b])):=(Same.refl H4).upd y1
    have f5:upd H4 o1 (.tup [.str "other",.int a,.int b]) o1=some (.tup [.str "other",.int a,.int b]):=qaa
    revert s5 f5
    generalize upd H4 o1 (.tup [.str "other",.int a,.int b])=H5
    intro s5 f5
    refine ⟨_,rfl,_,rfl,(by show 2≤sizeLine; decide),fun o2 y2=>?_⟩
    have s6:Same H5 (upd H5 o2 (.lst [.str "and",.str "or"])):=(Same.refl H5).upd y2
    have f6:upd H5 o2 (.lst [.str "and",.str "or"]) o2=some (.lst [.str "and",.str "or"]):=qaa
    revert s6 f6
    generalize upd H5 o2 (.lst [.str "and",.str "or"])=H6
    intro s6 f6
    have s16:=(s14.trans s5).trans s6
    obtain ⟨hv,hhv,hho⟩:∃ v,atI [V.str "and",.str "or"] (b2i x3)=some v∧howV v:=by
      cases x3
      · exact ⟨_,rfl,.inl rfl⟩
      · exact ⟨_,rfl,.inr rfl⟩
    refine ⟨_,rfl,d,_,_,_,rfl,rfl,SqL.of (s16 _ _ hd),yag 3 rfl,o2,_,_,hv,rfl,rfl,SqL.of f6,hhv,(by show 4≤sizeLine; decide),fun o3 y3=>?_⟩
    have s7:Same H6 (upd H6 o3 (.tup [.str "both",.int a,.int b,hv])):=(Same.refl H6).upd y3
    have f7:upd H6 o3 (.tup [.str "both",.int a,.int b,hv]) o3=some (.tup [.str "both",.int a,.int b,hv]):=qaa
    revert s7 f7
    generalize upd H6 o3 (.tup [.str "both",.int a,.int b,hv])=H7
    intro s7 f7
    refine ⟨(by show 2≤sizeLine; decide),fun o4 y4=>?_⟩
    have s8:Same H7 (upd H7 o4 (.lst [.ref o1,.ref o3])):=(Same.refl H7).upd y4
    have f8:upd H7 o4 (.lst [.ref o1,.ref o3]) o4=some (.lst [.ref o1,.ref o3]):=qaa
    revert s8 f8
    generalize upd H7 o4 (.lst [.ref o1,.ref o3])=H8
    intro s8 f8
    have s68:=s7.trans s8
    have s18:=s16.trans s68
    refine ⟨_,rfl,rfl,.inr ⟨_,rfl,?_⟩⟩
    rcases c4 with rfl | rfl
    · refine ⟨o4,_,_,_,rfl,rfl,SqL.of f8,yag 0 rfl (by decide +kernel),?_⟩
      exact k _ ⟨"other",[a,b],[]⟩ [] _ s18 ⟨o1,rfl,(s6.trans s68) _ _ f5⟩ (fun a e=>by cases e; exact s14.free y1) ⟨yiw,.nil,by simp,by simp,nab,rg2⟩ mm2
    · refine ⟨o4,_,_,_,rfl,rfl,SqL.of f8,yag 1 rfl (by decide +kernel),?_⟩
      exact k _ ⟨"both",[a,b],[hv]⟩ ["how"] _ s18 ⟨o3,rfl,s8 _ _ f7⟩ (fun a e=>by cases e; exact s16.free y3) ⟨tab_both,.how hho .nil,by simp,by simp,nab,rg2⟩ mm2
end
end Mh
set_option Elab.async false
set_option linter.all false
set_option maxRecDepth 100000
set_option maxHeartbeats 4000000
namespace Mh
open PySem L2 PyProof.Rows Mx
theorem HsV.snoc {H:Hp} {us:List V} {hs:List Hm} {v:V} {h:Hm} (x:HsV H us hs) (hv:HAt H v h):HsV H (us++[v]) (hs++[h]):=by
  refine ⟨by simp [x.len],fun i u g h1 h2=>?_⟩
  by_cases hi:i < us.length
  · rw [List.getElem?_append_left hi] at h1
    rw [List.getElem?_append_left (by rw [← x.len]; exact hi)] at h2
    exact x.at_ i u g h1 h2
  · rw [List.getElem?_append_right (by omega)] at h1
    rw [List.getElem?_append_right (by rw [← x.len]; omega),← x.len] at h2
    cases hj:i - us.length with
    | zero=>rw [hj] at h1 h2; cases h1; cases h2; exact hv
    | succ n=>rw [hj] at h1; simp at h1
theorem take5 {l:List Int} {a:Nat} (h:a + 5≤l.length):(l.drop a).take 5=[l.getD a 0,l.getD (a + 1) 0,l.getD (a + 2) 0,l.getD (a + 3) 0,l.getD (a + 4) 0]:=by
  have g:∀ k,k < l.length→l.getD k 0=l[k]?.getD 0:=fun k _=>List.getD_eq_getElem?_getD ..
  rw [List.drop_eq_getElem_cons (show a < l.length by omega),List.drop_eq_getElem_cons (show a + 1 < l.length by omega),List.drop_eq_getElem_cons (show a + 1 + 1 < l.length by omega),List.drop_eq_getElem_cons (show a + 1 + 1 + 1 < l.length by omega),List.drop_eq_getElem_cons (show a + 1 + 1 + 1 + 1 < l.length by omega)]
  simp only [List.take_succ_cons,List.take_zero,List.getD_eq_getElem?_getD]
  rw [List.getElem?_eq_getElem (show a < l.length by omega),List.getElem?_eq_getElem (show a + 1 < l.length by omega),List.getElem?_eq_getElem (show a + 2 < l.length by omega),List.getElem?_eq_getElem (show a + 3 < l.length by omega),List.getElem?_eq_getElem (show a + 4 < l.length by omega)]
  rfl
theorem qi5 {xs:List V} {a b:Nat}:cutV xs (some (a:Int)) (some (b:Int))=(xs.drop (min a xs.length)).take (min b xs.length - min a xs.length):=by
  unfold cutV
  rw [HT.sIx_nat,HT.sIx_nat]
def qey (ss:List Int) (i:Nat):List Int:=((List.range i).map fun j:Nat=>(j:Int)).filter fun x=>!inV (.int x) (ss.map V.int)
theorem yfl {x:Int} {ss:List Int}:inV (.int x) (ss.map V.int)=decide (x∈ss):=by
  rw [Bool.eq_iff_iff,decide_eq_true_iff]
  unfold inV
  rw [List.any_map,List.any_eq_true]
  constructor
  · rintro ⟨y,hy,h⟩
    have:y=x:=by simpa [eqV] using h
    exact this ▸ hy
  · intro h
    exact ⟨x,h,by simp [eqV]⟩
theorem free_mem {ss:List Int} {n:Nat} {x:Int} (h:x∈qey ss n):0≤x∧x < n∧x∉ss:=by
  obtain ⟨h1,h2⟩:=List.mem_filter.mp h
  obtain ⟨j,hj,rfl⟩:=List.mem_map.mp h1
  have:=List.mem_range.mp hj
  rw [yfl] at h2
  exact ⟨by omega,by omega,by simpa using h2⟩
theorem qji {ss:List Int} {n:Nat} (h:ss.length < n):qey ss n≠[]:=by
  intro e
  have hsub:∀ x∈(List.range n).map (fun j:Nat=>(j:Int)),x∈ss:=fun x hx=>by
    by_cases hm:x∈ss
    · exact hm
    · have:x∈qey ss n:=List.mem_filter.mpr ⟨hx,by rw [yfl]; simp [hm]⟩
      rw [e] at this; cases this
  have nd:((List.range n).map (fun j:Nat=>(j:Int))).Nodup:=by
    rw [List.nodup_iff_pairwise_ne,List.pairwise_map]
    exact List.Pairwise.imp (fun h z=>h (by omega)) List.nodup_range
  have:=yg9 nd hsub
  simp at this
  omega
section
variable {P:Program} {w:World} {K:PySem.W.Frag} {mg:Str→Option Value} {base:Heap}
def yg6:Sp:=fun vs H Q _=>∃ (c t:Int) (n:Nat),vs=[.int c,.int t,.int n,.int 3]∧0≤t∧t≤1000000∧2≤n∧n≤64∧
  ∀ (p:Addr) (us:List V) (hs:List Hm) (S:List Int) (H':Hp),Same H H'→H p=none→H' p=some (.lst us)→HsV H' us hs→okHs hs S→1≤hs.length→InR hs n→Q (.ref p) H'
abbrev ybf:Stmt:=top 40
theorem qdh:FnScope ["_law_cell","_law_turn","_law_size","_law_most","_law_d","_law_some","_law_k","_law_free"] ["_law_cell","_law_turn","_law_size","_law_most"] (yac ybf):=⟨rfl,rfl,rfl,by decide +kernel,rfl,by decide +kernel,by decide +kernel⟩
theorem ok_harms (B:Bl mg) (ybx:Has P w K mg base 1 "_law_digits" ["_law_cell","_law_turn","_law_sizes"] qet) (qgi:Has P w K mg base 1 "_law_harm" ["_law_d","_law_some"] yi9) (F:FnAt K mg "_law_harms" ybf ["_law_cell","_law_turn","_law_size","_law_most"]):Has P w K mg base 2 "_law_harms" ["_law_cell","_law_turn","_law_size","_law_most"] yg6:=by
  refine Has.ofQ F qdh (fun vs H Q E h=>?_) (fun f cdv A outer s H vs Q E hr h=>?_)
  · obtain ⟨c,t,n,rfl,_⟩:=h
    rfl
  · obtain ⟨c,t,n,rfl,t0,t1,n2,n64,k⟩:=h
    have sc:=qdh
    refine ⟨_,(qat rfl (qad (qam (i:=4) sc.nd rfl (Or.inr rfl) (qaq ybx hr (yal (qab (pv 0)) (yal (qab (pv 1)) (yfa (ybg qb7 (qav (yal (qab (pv 3)) (yal (qab (pv 2)) (yal (qab (pv 2)) (yal (qab (pv 2)) yad))))) (ybg yh6 (qav (qao (qab yab) (qao (qab yab) (qao (qab yab) (qao (qab yab) (qao (qab yab) yad)))))) (qab yab))) yad)))))
      (qad (qam (i:=5) sc.nd rfl (Or.inr rfl) (qav (qcb (ya7 qal (qab (pv 4)) (qab yab) (fun _ _=>rfl)) yad)))
      (qad (ydf PassesOwn.never rfl (yhm (yb2 rfl (B.of rfl) (yaa yab qac))) (yam (i:=6) sc.nd rfl (Or.inl rfl))
        (qad (yho (yjf (i:=7) rfl sc.nd rfl (Or.inl rfl) rfl (ya1 rfl) (M:=["_law_one","_law_some"]) (ix:=[none,some 5]) (yb2 rfl (B.of rfl) (yaa (pv 2) qac)) (fun _ _ _ _=>(yam (i:=0) (show List.Nodup (["_law_one","_law_some"]:List Str) by decide +kernel) rfl (Or.inl rfl))) (fun _ _ _ _=>(ydq (qbf (ydc (K:=K) rfl) (pv 0) (pv 1) (by with_unfolding_all rfl)))) (fun _ _ _ _=>(pv 0))))
        (yae (qam (i:=5) sc.nd rfl (Or.inr rfl) (ybg qb7 (qab (pv 5)) (qab (ybc qb3 (ybc qb3 (pv 7) (qas (ya9 qc4 (qbt qal (pv 4) (ya9 qbv yab (pv 6)) (fun _ _=>rfl)) (qae (qi0 rfl) rfl (B.of rfl) boot_max (yaa yab (yaa (qae yaf rfl (B.of rfl) boot_len (yaa (pv 7) qac)) qac))))) qa0) qa0 (qas yab))))))))
      (yae (yai (qab (ybw rfl (ya1 rfl) (M:=["_law_k","_law_some","_law_d"]) (ix:=[none,some 5,some 4]) (yb2 rfl (B.of rfl) (yaa (ya9 qbv yab (qbt qal (pv 4) yab (fun _ _=>rfl))) qac)) (fun _ _ _ _=>(yam (i:=0) (show List.Nodup (["_law_k","_law_some","_law_d"]:List Str) by decide +kernel) rfl (Or.inl rfl))) (fun _ _ _ _=>ycq) (fun _ _ _ _=>(yaj qgi hr (yaa (ybc (sl_listK (K:=K) rfl) (pv 2) (qas (ya9 qbv yab (ya9 qg1 yab (pv 0)))) (qas (ya9 qbv yab (ya9 qg1 yab (pv 0))))) (yaa (pv 1) qac)))))))))))),?_⟩
    refine ⟨_,rfl,_,rfl,_,rfl,_,rfl,_,rfl,_,rfl,(by show 4≤sizeLine; decide),fun p1 v1=>?_⟩
    have s1:Same H (upd H p1 (.lst [.int 3,.int n,.int n,.int n])):=(Same.refl H).upd v1
    have f1:upd H p1 (.lst [.int 3,.int n,.int n,.int n]) p1=some (.lst [.int 3,.int n,.int n,.int n]):=qaa
    revert s1 f1
    generalize upd H p1 (.lst [.int 3,.int n,.int n,.int n])=H1
    intro s1 f1
    refine ⟨(by show 5≤sizeLine; decide),fun p2 v2=>?_⟩
    have s2:Same H1 (upd H1 p2 (.lst [.int 10,.int 6,.int 6,.int 2,.int 2])):=(Same.refl H1).upd v2
    have f2:upd H1 p2 (.lst [.int 10,.int 6,.int 6,.int 2,.int 2]) p2=some (.lst [.int 10,.int 6,.int 6,.int 2,.int 2]):=qaa
    revert s2 f2
    generalize upd H1 p2 (.lst [.int 10,.int 6,.int 6,.int 2,.int 2])=H2
    intro s2 f2
    refine ⟨p2,3,_,rfl,rfl,f2,by decide,by decide,qc2 (by decide),fun p3 v3=>?_⟩
    have s3:Same H2 (upd H2 p3 (.lst (List.replicate (3:Int).toNat [V.int 10,.int 6,.int 6,.int 2,.int 2]).flatten)):=(Same.refl H2).upd v3
    have f3:upd H2 p3 (.lst (List.replicate (3:Int).toNat [V.int 10,.int 6,.int 6,.int 2,.int 2]).flatten) p3=some (.lst (([10,6,6,2,2,10,6,6,2,2,10,6,6,2,2]:List Int).map V.int)):=qaa
    revert s3 f3
    generalize upd H2 p3 (.lst (List.replicate (3:Int).toNat [V.int 10,.int 6,.int 6,.int 2,.int 2]).flatten)=H3
    intro s3 f3
    refine ⟨p1,p3,_,_,rfl,rfl,(s2.trans s3) _ _ f1,f3,qc2 (by simp),fun p4 v4=>?_⟩
    have s13:=(s1.trans s2).trans s3
    refine ⟨c,t,p4,[3,n,n,n,10,6,6,2,2,10,6,6,2,2,10,6,6,2,2],rfl,qaa,by simp,?_,t0,t1,fun dp ds H5 s5 ndp hdp hD=>?_⟩
    · intro z hz
      simp at hz
      omega
    have s15:Same H H5:=(s13.upd v4).trans s5
    clear s5
    have dl:ds.length=19:=hD.1
    obtain ⟨e0,g0,b0,b0'⟩:=hD.get (i:=0) (z:=3) rfl
    obtain ⟨e1,g1,b1,b1'⟩:=hD.get (i:=1) (z:=n) rfl
    refine ⟨_,rfl,dp,_,_,_,rfl,rfl,SqL.of hdp,yag 1 (qdk g1),(by show 1≤sizeLine; decide),fun sp v6=>?_⟩
    have s6:Same H5 (upd H5 sp (.lst [.int e1])):=(Same.refl H5).upd v6
    have f6:upd H5 sp (.lst [.int e1]) sp=some (.lst (([e1]:List Int).map V.int)):=qaa
    revert s6 f6
    generalize upd H5 sp (.lst [.int e1])=H6
    intro s6 f6
    refine ⟨2,rfl,by decide,by decide,qdb (n:=2) (fun i σ H7=>∃ (S:Addr) (ss:List Int) (o6 o7:Option V),σ=[some (.int c),some (.int t),some (.int n),some (.int 3),some (.ref dp),some (.ref S),o6,o7]∧Same H5 H7∧H7 S=some (.lst (ss.map V.int))∧ss.Nodup∧1 + min i 1≤ss.length∧ss.length≤1 + i∧∀ x∈ss,0≤x∧x < n)
      ⟨sp,[e1],none,none,rfl,s6,f6,by simp,by simp,by simp,fun x hx=>by rw [List.mem_singleton.mp hx]; exact ⟨b1,b1'⟩⟩ ?_ ?_⟩
    · rintro i σ H7 hi ⟨S,ss,o6,o7,rfl,s7,hS,nd,l1,l2,hin⟩
      refine ⟨_,rfl,_,rfl,by omega,by omega,fun D hD2=>yb3 (n:=n) (fun j H'=>Same H7 H'∧H' D=some (.lst ((qey ss j).map V.int))) ⟨(Same.refl H7).upd hD2,qaa⟩ ?_ ?_⟩
      rotate_left
      · rintro j H8 hj ⟨s8,e8⟩
        refine ⟨by show j < _; simpa using hj,?_⟩
        rintro x H9 ⟨rfl,rfl⟩
        refine ⟨ya2.set (ya2.refl _) rfl,?_⟩
        refine ⟨_,rfl,_,rfl,S,_,rfl,.inl (SqL.of (s8 _ _ hS)),rfl,by simp [yd3],_,rfl,?_⟩
        have hsn:qey ss (j + 1)=qey ss j++(if (!inV (.int ((0:Int) + (j:Int))) (ss.map V.int))=true then [(0:Int) + (j:Int)] else []):=by
          unfold qey
          rw [List.range_succ,List.map_append,List.filter_append,Int.zero_add]
          congr 1
          simp [List.filter_cons]
        have hll:(qey ss j).length≤j:=by
          unfold qey
          refine Nat.le_trans (List.length_filter_le _ _) ?_
          simp
        rw [hsn]
        cases hb:(!inV (.int ((0:Int) + (j:Int))) (ss.map V.int)) with
        | true=>
          refine iteB (by simpa using hb) ⟨_,rfl,_,e8,qbw (by rw [List.length_map]; omega),s8.at hD2,?_⟩
          rw [qaa,if_pos rfl,List.map_append]
          rfl
        | false=>
          refine iteN (by simpa using hb) ⟨s8,?_⟩
          rw [e8,if_neg (by simp),List.append_nil]
      rintro H8 ⟨s8,e8⟩
      refine ⟨by show _≤_; simp,?_⟩
      obtain ⟨di,gi,ci,ci'⟩:∃ d,ds[2 + i]?=some d∧0≤d∧d < n:=by
        rcases (by omega:i=0∨i=1) with rfl | rfl
        · exact hD.get (i:=2) (z:=n) rfl
        · exact hD.get (i:=3) (z:=n) rfl
      have hm:=@free_mem ss n
      have hsome:=@qji ss n
      revert hm hsome e8
      generalize qey ss n=fs
      intro e8 hm hsome
      have s78:=s7.trans s8
      generalize hM:(if ((fs.map V.int).length:Int) > 1 then ((fs.map V.int).length:Int) else 1)=M
      have hM0:0 < M:=by rw [← hM]; split <;> omega
      have hM1:fs≠[]→M=fs.length:=fun hne=>by
        have:=List.length_pos_iff.mpr hne
        rw [← hM,List.length_map]; split <;> omega
      have q0:=Int.emod_nonneg di (show M≠0 by omega)
      have q1:=Int.emod_lt_of_pos di hM0
      refine ⟨_,rfl,_,rfl,_,rfl,_,rfl,_,_,rfl,rfl,dp,_,_,.int di,rfl,rfl,SqL.of (s78 _ _ hdp),?_,_,rfl,D,_,rfl,.inl (SqL.of e8),_,_,rfl,_,_,rfl,rfl,?_,?_⟩
      · rw [show (2:Int) + ((0:Int) + (i:Int))=((2 + i:Nat):Int) by omega]
        exact yet (qdk gi)
      · show (0:Int) < (if ((fs.map V.int).length:Int) > 1 then ((fs.map V.int).length:Int) else 1)
        rw [hM]; exact hM0
      show ∃ i',V.int (di % (if ((fs.map V.int).length:Int) > 1 then ((fs.map V.int).length:Int) else 1))=.int i'∧_
      rw [hM]
      refine ⟨_,rfl,D,_,rfl,SqL.of e8,fun c1 y1=>?_⟩
      refine ⟨1,rfl,c1,_,rfl,SqL.of qaa,fun c2 y2=>?_⟩
      have ecut:cutV (cutV (fs.map V.int) (some (di % M)) none) none (some 1)=((fs.drop (di % M).toNat).take 1).map V.int:=by
        rw [show di % M=(((di % M).toNat:Nat):Int) by omega,ycy,show (1:Int)=((1:Nat):Int) from rfl,qcg,List.map_take,List.map_drop]
        rfl
      rw [ecut]
      have s9:=((Same.refl H8).upd (o:=.lst (cutV (fs.map V.int) (some (di % M)) none)) y1).upd (o:=.lst (((fs.drop (di % M).toNat).take 1).map V.int)) y2
      have f9:upd (upd H8 c1 (.lst (cutV (fs.map V.int) (some (di % M)) none))) c2 (.lst (((fs.drop (di % M).toNat).take 1).map V.int)) c2=some (.lst (((fs.drop (di % M).toNat).take 1).map V.int)):=qaa
      revert s9 f9
      generalize upd (upd H8 c1 (.lst (cutV (fs.map V.int) (some (di % M)) none))) c2 (.lst (((fs.drop (di % M).toNat).take 1).map V.int))=H9
      intro s9 f9
      refine ⟨S,c2,_,_,rfl,rfl,(s8.trans s9) _ _ hS,f9,qc2 (by simp; omega),fun S2 y3=>?_⟩
      refine ⟨S2,ss++(fs.drop (di % M).toNat).take 1,_,_,rfl,((s7.trans s8).trans s9).upd y3,by rw [List.map_append]; exact qaa,?_,?_,?_,?_⟩
      · rw [List.nodup_append]
        refine ⟨nd,?_,fun x hx y hy z=>?_⟩
        · cases (fs.drop (di % M).toNat) <;> simp
        · subst z
          exact (hm (List.mem_of_mem_drop (List.mem_of_mem_take hy))).2.2 hx
      · rw [List.length_append,List.length_take,List.length_drop]
        by_cases hlt:ss.length < n
        · have hne:=hsome hlt
          have:=hM1 hne
          omega
        · omega
      · rw [List.length_append,List.length_take]; omega
      · intro x hx
        rcases List.mem_append.mp hx with hx | hx
        · exact hin x hx
        · have:=hm (List.mem_of_mem_drop (List.mem_of_mem_take hx))
          exact ⟨this.1,this.2.1⟩
    · rintro σ H7 ⟨S,ss,o6,o7,rfl,s7,hS,nd,l1,l2,hin⟩
      have ok:okSome ss n:=⟨nd,by simpa using l1,by simpa using l2,hin⟩
      refine ⟨_,rfl,dp,_,_,_,rfl,rfl,SqL.of (s7 _ _ hdp),yag 0 (qdk g0),_,_,rfl,rfl,_,rfl,by omega,by omega,fun D hD2=>yb3 (n:=((1:Int) + e0).toNat) (fun j H'=>∃ us hs,Same H7 H'∧H' D=some (.lst us)∧HsV H' us hs∧hs.length=j∧Oks hs∧∀ h∈hs,∀ c∈h.c,c∈ss) ⟨[],[],(Same.refl H7).upd hD2,qaa,⟨rfl,fun i v h a=>by simp at a⟩,rfl,(fun _ h=>nomatch h),(fun _ h=>nomatch h)⟩ ?_ ?_⟩
      · rintro H8 ⟨us,hs,s8,e8,v8,hl8,ok8,hm8⟩
        refine ⟨by show _≤_; simp,?_⟩
        refine k D us hs ss H8 ((s15.trans s7).trans s8) ((s15.trans s7).free hD2) e8 v8 ⟨by omega,ok8,by simpa using l2,hm8⟩ (by omega) ?_
        intro h hh c hc
        exact hin c (hm8 h hh c hc)
      · rintro j H8 hj ⟨us,hs,s8,e8,v8,hl8,ok8,hm8⟩
        refine ⟨by show j < _; simpa using hj,?_⟩
        rintro x H9 ⟨rfl,rfl⟩
        refine ⟨ya2.set (ya2.refl _) rfl,yes ?_⟩
        have hj2:j≤2:=by omega
        refine ⟨_,rfl,_,rfl,_,_,rfl,rfl,.inl ⟨by decide,by decide⟩,_,_,rfl,rfl,_,rfl,_,rfl,_,_,rfl,rfl,.inl ⟨by decide,by decide⟩,_,_,rfl,rfl,_,rfl,dp,_,rfl,SqL.of (s8 _ _ (s7 _ _ hdp)),fun q w1=>?_⟩
        have ecut:cutV (ds.map V.int) (some ((4:Int) + 5 * ((0:Int) + (j:Int)))) (some ((9:Int) + 5 * ((0:Int) + (j:Int))))=[.int (ds.getD (4 + 5 * j) 0),.int (ds.getD (4 + 5 * j + 1) 0),.int (ds.getD (4 + 5 * j + 2) 0),.int (ds.getD (4 + 5 * j + 3) 0),.int (ds.getD (4 + 5 * j + 4) 0)]:=by
          rw [show (4:Int) + 5 * ((0:Int) + (j:Int))=((4 + 5 * j:Nat):Int) by omega,show (9:Int) + 5 * ((0:Int) + (j:Int))=((9 + 5 * j:Nat):Int) by omega,qi5,List.length_map,dl,← List.map_drop,← List.map_take,
            show min (9 + 5 * j) 19 - min (4 + 5 * j) 19=5 by omega,show min (4 + 5 * j) 19=4 + 5 * j by omega,take5 (by omega)]
          rfl
        have dig:∀ (o:Nat) (z:Int),([3,(n:Int),n,n,10,6,6,2,2,10,6,6,2,2,10,6,6,2,2]:List Int)[4 + 5 * j + o]?=some z→0≤ds.getD (4 + 5 * j + o) 0∧ds.getD (4 + 5 * j + o) 0 < z:=fun o z hz=>by
          obtain ⟨d,h1,h2,h3⟩:=hD.get hz
          rw [List.getD_eq_getElem?_getD,h1]
          exact ⟨h2,h3⟩
        have z0:=dig 0 10 (by rcases (by omega:j=0∨j=1∨j=2) with rfl | rfl | rfl <;> rfl)
        have z1:=dig 1 6 (by rcases (by omega:j=0∨j=1∨j=2) with rfl | rfl | rfl <;> rfl)
        have z2:=dig 2 6 (by rcases (by omega:j=0∨j=1∨j=2) with rfl | rfl | rfl <;> rfl)
        have z3:=dig 3 2 (by rcases (by omega:j=0∨j=1∨j=2) with rfl | rfl | rfl <;> rfl)
        have z4:=dig 4 2 (by rcases (by omega:j=0∨j=1∨j=2) with rfl | rfl | rfl <;> rfl)
        have s9:=(Same.refl H9).upd (o:=.lst (cutV (ds.map V.int) (some ((4:Int) + 5 * ((0:Int) + (j:Int)))) (some ((9:Int) + 5 * ((0:Int) + (j:Int)))))) w1
        have f9:=qaa (H:=H9) (a:=q) (o:=.lst (cutV (ds.map V.int) (some ((4:Int) + 5 * ((0:Int) + (j:Int)))) (some ((9:Int) + 5 * ((0:Int) + (j:Int))))))
        revert s9 f9
        generalize hHA:upd H9 q (.lst (cutV (ds.map V.int) (some ((4:Int) + 5 * ((0:Int) + (j:Int)))) (some ((9:Int) + 5 * ((0:Int) + (j:Int))))))=HA
        intro s9 f9
        rw [ecut] at f9
        refine ⟨_,rfl,q,S,_,_,_,_,_,ss,n,rfl,(by first | exact f9 | (rw [hHA]; exact f9)),z0.1,z0.2,z1.1,z2.1,z3.1,z3.2,z4.1,z4.2,(by first | exact s9 _ _ (s8 _ _ hS) | (rw [hHA]; exact s9 _ _ (s8 _ _ hS))),ok,by omega,fun v h ns HB sB hv nv oh hmem=>?_⟩
        have sB':Same HA HB:=by first | exact sB | (rw [hHA] at sB; exact sB)
        have s9B:=s9.trans sB'
        refine ⟨_,s9B _ _ e8,qbw (by have:=v8.len; omega),us++[v],hs++[h],(s8.trans s9B).at hD2,qaa,?_,by simp [hl8],?_,?_⟩
        · have keep:∀ u g,HAt HB u g→HAt (upd HB D (.lst (us++[v]))) u g:=fun u g ⟨a,e,ha⟩=>⟨a,e,by rw [qaf (fun z=>by subst z; rw [s9B _ _ e8] at ha; cases ha)]; exact ha⟩
          have v9:=v8.same s9B
          exact HsV.snoc ⟨v9.len,fun i u g h1 h2=>keep u g (v9.at_ i u g h1 h2)⟩ (keep v h hv)
        · intro g hg
          rcases List.mem_append.mp hg with hg | hg
          · exact ok8 g hg
          · rw [List.mem_singleton.mp hg]; exact ⟨ns,oh⟩
        · intro g hg
          rcases List.mem_append.mp hg with hg | hg
          · exact hm8 g hg
          · rw [List.mem_singleton.mp hg]; exact hmem
end
end Mh
set_option Elab.async false
set_option linter.all false
set_option maxRecDepth 100000
set_option maxHeartbeats 4000000
namespace Mh
open PySem L2 PyProof.Rows Mx
def qdx:PyData→Bool | .int _=>true | _=>false
def bitD:PyData→Bool | .int i=>decide (i=0∨i=1) | _=>false
def oneD (xs:List V):PyData→Bool | .str x=>inV (.str x) xs | _=>false
section
variable {P:Program} {w:World} {K:PySem.W.Frag} {mg:Str→Option Value} {base:Heap}
def ye9:Sp:=fun vs H Q _=>∃ v d,vs=[v]∧AtX H v d∧Q (.bl (qdx d)) H
theorem og_whole (B:Bl mg) (F:FnAt K mg "is_whole" ybr ["thing"]):Has P w K mg base 1 "is_whole" ["thing"] ye9:=by
  refine Has.ofQ F qcj (fun vs H Q E h=>?_) (fun f cdv A outer s H vs Q E hr h=>?_)
  · obtain ⟨v,d,rfl,_⟩:=h
    rfl
  · obtain ⟨v,d,rfl,hv,q⟩:=h
    have sc:=qcj
    refine ⟨_,(qat rfl (yae (yai (qab (qbb (qae yas rfl (B.of rfl) boot_isinstance (yaa (pv 0) (yaa (qa3 (v:=.ty "int") rfl (B.of rfl) boot_int rfl) qac))) (yb5 (pe_not (qae yas rfl (B.of rfl) boot_isinstance (yaa (pv 0) (yaa (qa3 (v:=.ty "bool") rfl (B.of rfl) boot_bool rfl) qac)))))))))),?_⟩
    refine ⟨_,rfl,_,_,_,_,rfl,hv.ty,qih d,_,rfl,?_⟩
    cases hi:isInt d with
    | false=>
      have e:qdx d=false:=by cases d <;> first | rfl | cases hi
      rw [e] at q
      exact iteF q
    | true=>
      refine iteT ⟨_,rfl,_,_,_,_,rfl,hv.ty,kit_bl d,_,rfl,?_⟩
      have e:qdx d=!isBl d:=by cases d <;> first | rfl | cases hi
      rw [e] at q
      exact q
def sg_bit:Sp:=fun vs H Q _=>∃ v d,vs=[v]∧AtX H v d∧∀ H',Same H H'→Q (.bl (bitD d)) H'
theorem og_bit (ybo:Has P w K mg base 1 "is_whole" ["thing"] ye9) (F:FnAt K mg "is_bit" qci ["thing"]):Has P w K mg base 2 "is_bit" ["thing"] sg_bit:=by
  refine Has.ofQ F yda (fun vs H Q E h=>?_) (fun f cdv A outer s H vs Q E hr h=>?_)
  · obtain ⟨v,d,rfl,_⟩:=h
    rfl
  · obtain ⟨v,d,rfl,hv,q⟩:=h
    have sc:=yda
    refine ⟨_,(qat rfl (yae (yai (qab (qbb (yaj ybo hr (yaa (pv 0) qac)) (yb5 (yaz yb1 (pv 0) (yei (yaa yab (yaa yab qac))) (by with_unfolding_all rfl)))))))),?_⟩
    refine ⟨_,rfl,v,d,rfl,hv,_,rfl,?_⟩
    cases hw:qdx d with
    | false=>
      have e:bitD d=false:=by cases d <;> first | rfl | cases hw
      rw [e] at q
      exact iteF (q H (Same.refl H))
    | true=>
      obtain ⟨i,rfl⟩:∃ i,d=.int i:=by cases d <;> first | exact ⟨_,rfl⟩ | cases hw
      have ev:v=.int i:=by
        rcases hv with h | ⟨e,_⟩
        · exact h.intEq
        · cases e
      subst ev
      refine iteT ⟨_,rfl,(by show 2≤sizeLine; decide),fun t ht=>⟨t,_,rfl,.inr (SqT.of qaa),rfl,by decide,?_⟩⟩
      have e:inV (.int i) [.int 0,.int 1]=bitD (.int i):=by
        unfold bitD
        show ((0 == i) || ((1 == i) || false))=_
        rw [Bool.eq_iff_iff,decide_eq_true_eq,Bool.or_false,Bool.or_eq_true,beq_iff_eq,beq_iff_eq]
        constructor
        · rintro (h | h)
          · exact .inl h.symm
          · exact .inr h.symm
        · rintro (h | h)
          · exact .inl h.symm
          · exact .inr h.symm
      show Q (.bl (inV (.int i) [.int 0,.int 1])) _
      rw [e]
      exact q _ ((Same.refl H).upd ht)
def sg_one (K:PySem.W.Frag):Sp:=fun vs H Q _=>∃ v d a xs,vs=[v,.ref a]∧AtX H v d∧(∀ H',SqT K H' a xs)∧xs.all yd3=true∧Q (.bl (oneD xs d)) H
theorem og_one (B:Bl mg) (F:FnAt K mg "is_one_of" qbe ["thing","words"]):Has P w K mg base 1 "is_one_of" ["thing","words"] (sg_one K):=by
  refine Has.ofQ F qb6 (fun vs H Q E h=>?_) (fun f cdv A outer s H vs Q E hr h=>?_)
  · obtain ⟨v,d,a,xs,rfl,_⟩:=h
    rfl
  · obtain ⟨v,d,a,xs,rfl,hv,ha,hx,q⟩:=h
    have sc:=qb6
    refine ⟨_,(qat rfl (yae (yai (qab (qbb (qae yas rfl (B.of rfl) boot_isinstance (yaa (pv 0) (yaa (qa3 (v:=.ty "str") rfl (B.of rfl) boot_str rfl) qac))) (yb5 (yaz yb1 (pv 0) (pv 1) (by with_unfolding_all rfl)))))))),?_⟩
    refine ⟨_,rfl,_,_,_,_,rfl,hv.ty,qdp d,_,rfl,?_⟩
    cases hs:isStr d with
    | false=>
      have e:oneD xs d=false:=by cases d <;> first | rfl | cases hs
      rw [e] at q
      exact iteF q
    | true=>
      obtain ⟨x,rfl⟩:∃ x,d=.str x:=by cases d <;> first | exact ⟨_,rfl⟩ | cases hs
      have ev:v=.str x:=by
        rcases hv with h | ⟨e,_⟩
        · exact h.strEq
        · cases e
      subst ev
      exact iteT ⟨_,rfl,_,rfl,a,xs,rfl,.inr (ha _),rfl,hx,q⟩
def yhs:PyData→Bool | .int i=>decide (0≤i∧i < 64) | _=>false
def yh2:Sp:=fun vs H Q _=>∃ v d,vs=[v]∧AtX H v d∧Q (.bl (yhs d)) H
theorem og_cell (qcn:∃ t,mg "MOST_CELLS" = some (.int 64 t)) (ybo:Has P w K mg base 1 "is_whole" ["thing"] ye9) (F:FnAt K mg "is_cell" yb4 ["thing"]):Has P w K mg base 2 "is_cell" ["thing"] yh2:=by
  refine Has.ofQ F qcy (fun vs H Q E h=>?_) (fun f cdv A outer s H vs Q E hr h=>?_)
  · obtain ⟨v,d,rfl,_⟩:=h
    rfl
  · obtain ⟨v,d,rfl,hv,q⟩:=h
    have sc:=qcy
    refine ⟨_,(qat rfl (yae (yai (qab (qbb (yaj ybo hr (yaa (pv 0) qac)) (qbb (yaz op_ge (pv 0) yab (yak _)) (yb5 (yaz op_lt (pv 0) (ydj qcn) (yak _))))))))),?_⟩
    refine ⟨_,rfl,v,d,rfl,hv,_,rfl,?_⟩
    cases hw:qdx d with
    | false=>
      have e:yhs d=false:=by cases d <;> first | rfl | cases hw
      rw [e] at q
      exact iteF q
    | true=>
      obtain ⟨i,rfl⟩:∃ i,d=.int i:=by cases d <;> first | exact ⟨_,rfl⟩ | cases hw
      have ev:v=.int i:=by
        rcases hv with h | ⟨e,_⟩
        · exact h.intEq
        · cases e
      subst ev
      have e:yhs (.int i)=decide (0≤i∧i < 64):=rfl
      rw [e] at q
      refine iteT ⟨_,rfl,_,_,rfl,rfl,_,rfl,?_⟩
      by_cases h0:0≤i
      · refine iteD h0 ⟨_,rfl,_,_,rfl,rfl,?_⟩
        rw [show decide (0≤i∧i < 64)=decide (i < 64) by simp [h0]] at q
        exact q
      · refine qdm h0 ?_
        rw [decide_eq_false (fun z=>h0 z.1)] at q
        exact q
def ybu (nm:Str) (d:PyData):Bool:=if nm="cell" then yhs d else if nm="bit" then bitD d else oneD [.str "and",.str "or"] d
def yii:Sp:=fun vs H Q _=>∃ nm v d,vs=[.str nm,v]∧AtX H v d∧∀ H',Same H H'→Q (.bl (ybu nm d)) H'
theorem og_part (qdr:GTup K mg "JOININGS" [.str "and",.str "or"]) (yed:Has P w K mg base 2 "is_cell" ["thing"] yh2) (qfa:Has P w K mg base 2 "is_bit" ["thing"] sg_bit) (qc8:Has P w K mg base 1 "is_one_of" ["thing","words"] (sg_one K)) (F:FnAt K mg "is_part" yby ["name","thing"]):Has P w K mg base 3 "is_part" ["name","thing"] yii:=by
  refine Has.ofQ F qcw (fun vs H Q E h=>?_) (fun f cdv A outer s H vs Q E hr h=>?_)
  · obtain ⟨nm,v,d,rfl,_⟩:=h
    rfl
  · obtain ⟨nm,v,d,rfl,hv,q⟩:=h
    have sc:=qcw
    refine ⟨_,(qat rfl (qad (ya5 (yat qbz (qab (pv 0)) (qab qah) (yak _))
        (yae (yai (qaq yed hr (yal (qab (pv 1)) yad))))
        yar)
      (qad (ya5 (yat qbz (qab (pv 0)) (qab qah) (yak _))
        (yae (yai (qaq qfa hr (yal (qab (pv 1)) yad))))
        yar)
      (yae (yai (qaq qc8 hr (yal (qab (pv 1)) (yal (qab (yh9 qdr)) yad)))))))),?_⟩
    unfold ybu at q
    refine ⟨_,rfl,rfl,_,rfl,?_⟩
    by_cases h1:nm="cell"
    · rw [if_pos h1] at q
      exact iteB (by rw [h1]; decide +kernel) ⟨_,rfl,v,d,rfl,hv,q H (Same.refl H)⟩
    · rw [if_neg h1] at q
      refine iteN (by simpa using h1) ⟨_,rfl,rfl,_,rfl,?_⟩
      by_cases h2:nm="bit"
      · rw [if_pos h2] at q
        exact iteB (by rw [h2]; decide +kernel) ⟨_,rfl,v,d,rfl,hv,q⟩
      · rw [if_neg h2] at q
        exact iteN (by simpa using h2) ⟨_,rfl,fun g hg=>⟨v,d,g,_,rfl,hv,hg,by decide,q H (Same.refl H)⟩⟩
def qd4:PyData→Bool | .tuple (.str x :: _)=>KTD.inKeys x tabP | _=>false
def oddD:PyData:=.tuple [.dict [],.int 1]
def AtW (H:Hp) (v:V) (d:PyData):Prop:=AtX H v d∨(d=oddD∧∃ t e,v=.ref t∧H t=some (.tup [.ref e,.int 1])∧H e=some (.dK []))
theorem AtW.same {H H':Hp} {v:V} {d:PyData} (h:AtW H v d) (s:Same H H'):AtW H' v d:=by
  rcases h with h | ⟨e,t,u,ev,h1,h2⟩
  · exact .inl (h.same s)
  · exact .inr ⟨e,t,u,ev,s _ _ h1,s _ _ h2⟩
def yjh:Sp:=fun vs H Q _=>∃ v d,vs=[v]∧AtW H v d∧Q (.bl (qd4 d)) H
theorem og_word (B:Bl mg) {aP:Addr} (gP:mg "PARTS" = some (.ref aP)) (TP:TabK K aP tabP) (F:FnAt K mg "has_word" qbp ["thing"]):Has P w K mg base 1 "has_word" ["thing"] yjh:=by
  refine Has.ofQ F ych (fun vs H Q E h=>?_) (fun f cdv A outer s H vs Q E hr h=>?_)
  · obtain ⟨v,d,rfl,_⟩:=h
    rfl
  · obtain ⟨v,d,rfl,hv,q⟩:=h
    have sc:=ych
    refine ⟨_,(qat rfl (yae (yai (qab (qbb (qae yas rfl (B.of rfl) boot_isinstance (yaa (pv 0) (yaa (qa3 (v:=.ty "tuple") rfl (B.of rfl) boot_tuple rfl) qac))) (qbb (yaz yfo (qae yaf rfl (B.of rfl) boot_len (yaa (pv 0) qac)) yab (yak _)) (qbb (qae yas rfl (B.of rfl) boot_isinstance (yaa (qbt qbl (pv 0) yab (fun _ _=>rfl)) (yaa (qa3 (v:=.ty "str") rfl (B.of rfl) boot_str rfl) qac))) (yb5 (yaz (qg4 (D:=tabP)) (qbt qbl (pv 0) yab (fun _ _=>rfl)) (yau (v:=.ref aP) rfl gP rfl) (by with_unfolding_all rfl)))))))))),?_⟩
    rcases hv with hv | ⟨rfl,t,e,rfl,ht,he⟩
    rotate_left
    · refine ⟨_,rfl,_,_,_,_,rfl,.tup ht,yfk oddD,_,rfl,iteT ⟨_,rfl,t,_,rfl,.inr (SqT.of ht),_,_,rfl,rfl,_,rfl,iteD (by simp) ?_⟩⟩
      exact ⟨_,rfl,t,_,_,_,rfl,rfl,SqT.of ht,yag 0 rfl,_,_,_,_,rfl,AtX.ty (.inr ⟨rfl,e,rfl,he⟩),qdp (.dict []),_,rfl,iteF q⟩
    refine ⟨_,rfl,_,_,_,_,rfl,hv.ty,yfk d,_,rfl,?_⟩
    cases hs:isTup d with
    | false=>
      have e:qd4 d=false:=by cases d <;> first | rfl | cases hs
      rw [e] at q
      exact iteF q
    | true=>
      obtain ⟨ds,rfl⟩:∃ ds,d=.tuple ds:=by cases d <;> first | exact ⟨_,rfl⟩ | cases hs
      have hv':At H v (.tuple ds):=by
        rcases hv with h | ⟨e,_⟩
        · exact h
        · cases e
      obtain ⟨a,vs,rfl,ha,hw⟩:=hv'.tupEq
      refine iteT ⟨_,rfl,a,_,rfl,.inr (SqT.of ha),_,_,rfl,rfl,_,rfl,?_⟩
      cases hw with
      | nil=>exact qdm (by simp) q
      | cons h1 rr=>
        rename_i x d1 xs ds1
        refine iteD (by simp) ?_
        refine ⟨_,rfl,a,_,_,_,rfl,rfl,SqT.of ha,yag 0 rfl,_,_,_,_,rfl,AtX.ty (.inl h1),qdp d1,_,rfl,?_⟩
        cases hs1:isStr d1 with
        | false=>
          have e:qd4 (.tuple (d1 :: ds1))=false:=by cases d1 <;> first | rfl | cases hs1
          rw [e] at q
          exact iteF q
        | true=>
          obtain ⟨o,rfl⟩:∃ o,d1=.str o:=by cases d1 <;> first | exact ⟨_,rfl⟩ | cases hs1
          have:=h1.strEq
          subst this
          exact iteT ⟨_,rfl,a,_,_,_,rfl,rfl,SqT.of ha,yag 0 rfl,aP,o,rfl,rfl,TP,q⟩
end
end Mh
set_option Elab.async false
set_option linter.all false
set_option maxRecDepth 100000
set_option maxHeartbeats 4000000
namespace Mh
open PySem L2 PyProof.Rows Mx
structure okP (h:Hm) (ns:List Str):Prop where
  tab:KTD.datumAt h.w tabP=some (yaq h.c.length ns)
  rest:Rest ns h.r
  cl:1≤h.c.length∧h.c.length≤2
  rl:ns.length≤2
  rg:∀ x∈h.c,0≤x∧x < 64
theorem okP.full {h:Hm} {ns:List Str} (o:okP h ns) (nd:h.c.Nodup):okH h ns:=⟨o.tab,o.rest,o.cl,o.rl,nd,o.rg⟩
theorem okP.len {h:Hm} {ns:List Str} (o:okP h ns):(h.c.map V.int++h.r).length=(yaq h.c.length ns).length:=by
  unfold yaq
  simp [o.rest.len]
theorem okP.cellAt {h:Hm} {ns:List Str} (o:okP h ns) {i:Nat} {x y:V} (hx:(yaq h.c.length ns)[i]?=some x) (hy:(h.c.map V.int++h.r)[i]?=some y) :
    (x=.str "cell"∧∃ c,h.c[i]?=some c∧y=.int c)∨(h.c.length≤i∧((x=.str "bit"∧bitV y)∨(x=.str "how"∧howV y))):=by
  unfold yaq at hx
  by_cases hi:i < h.c.length
  · rw [List.getElem?_append_left (by simpa using hi),List.getElem?_replicate,if_pos hi] at hx
    rw [List.getElem?_append_left (by simpa using hi)] at hy
    obtain ⟨c,hc,rfl⟩:=yb9 hy
    exact .inl ⟨(Option.some.inj hx).symm,c,hc,rfl⟩
  · rw [List.getElem?_append_right (by simpa using Nat.le_of_not_lt hi)] at hx
    rw [List.getElem?_append_right (by simpa using Nat.le_of_not_lt hi)] at hy
    simp only [List.length_replicate,List.length_map] at hx hy
    obtain ⟨n,hn,rfl⟩:=yb9 hx
    rcases o.rest.get hn hy with ⟨rfl,hb⟩ | ⟨rfl,hb⟩
    · exact .inr ⟨Nat.le_of_not_lt hi,.inl ⟨rfl,hb⟩⟩
    · exact .inr ⟨Nat.le_of_not_lt hi,.inr ⟨rfl,hb⟩⟩
section
variable {P:Program} {w:World} {K:PySem.W.Frag} {mg:Str→Option Value} {base:Heap}
def yep:Sp:=fun vs H Q _=>∃ v h ns,vs=[v]∧HAt H v h∧okP h ns∧∀ D H',Same H H'→H D=none→H' D=some (.lst (h.c.map V.int))→Q (.ref D) H'
theorem ygy (B:Bl mg) (qb9:mg "zip" = none) {aP:Addr} (gP:mg "PARTS" = some (.ref aP)) (TP:TabK K aP tabP) (F:FnAt K mg "cells_in" ybn ["harm"]):Has P w K mg base 1 "cells_in" ["harm"] yep:=by
  refine Has.of F yci (fun vs H Q E h=>?_) (fun f cdv A outer s H vs Q E hr h=>?_)
  · obtain ⟨v,h,ns,rfl,_⟩:=h
    rfl
  · obtain ⟨v,h,ns,rfl,⟨a,rfl,ha⟩,ok,k⟩:=h
    have sc:=yci
    refine ⟨_,(yan (qa9 (ybw rfl (ya1 rfl) (M:=["name","part"]) (ix:=[none,none]) (qgc rfl qb9 (yaa (qbt (qfx (D:=tabP)) (yau (v:=.ref aP) rfl gP rfl) (qbt qbl (pv 0) yab (fun _ _=>rfl)) (fun _ _=>rfl)) (yaa (ybc ycr (pv 0) (qas yab) qa0) qac))) (fun _ _ _ _=>(qfp (K:=K) (n:=2) rfl rfl (yay (yam (i:=0) (show List.Nodup (["name","part"]:List Str) by decide +kernel) rfl (Or.inl rfl)) (yay (yam (i:=1) (show List.Nodup (["name","part"]:List Str) by decide +kernel) rfl (Or.inl rfl)) ycl)))) (fun _ _ _ _=>(ydq (qbf qbz (pv 0) qah (yak _)))) (fun _ _ _ _=>(pv 1))))),?_⟩
    refine ⟨_,rfl,a,_,_,_,rfl,rfl,SqT.of ha,yag 0 rfl,aP,h.w,_,rfl,rfl,TP,ok.tab,fun pn hpn=>?_⟩
    refine ⟨_,rfl,_,rfl,a,_,rfl,SqT.of ha,yfi h,fun q hq=>?_⟩
    rw [qd7]
    have s1:Same H (upd H q (.tup (h.c.map V.int++h.r))):=(Same.refl H).upd hq
    have e1:upd H q (.tup (h.c.map V.int++h.r)) q=some (.tup (h.c.map V.int++h.r)):=qaa
    revert s1 e1
    generalize upd H q (.tup (h.c.map V.int++h.r))=H1
    intro s1 e1
    refine ⟨true,true,pn,q,_,_,rfl,hpn _,SqT.of e1,fun D hD=>?_⟩
    refine yd9 (K:=K) (ok.len.symm) (fun i H'=>Same H1 H'∧H' D=some (.lst ((h.c.take i).map V.int))) ⟨(Same.refl H1).upd hD,qaa⟩ ?_ ?_ ?_
    · rintro i H2 ⟨s2,e2⟩
      exact ⟨hpn _,SqT.of (s2 _ _ e1)⟩
    · rintro H2 ⟨s2,e2⟩
      rw [List.take_of_length_le (by simp [yaq])] at e2
      exact k D H2 (s1.trans s2) (s1.free hD) e2
    · rintro i x y p H2 hx hy ⟨s2,e2⟩ hp
      have s3:Same H2 (upd H2 p (.tup [x,y])):=(Same.refl H2).upd hp
      refine ⟨p,_,rfl,SqT.of qaa,rfl,?_⟩
      revert s3
      generalize upd H2 p (.tup [x,y])=H3
      intro s3
      refine ⟨_,_,rfl,_,_,rfl,rfl,ya2.set (ya2.set (ya2.refl _) rfl) rfl,?_⟩
      rcases ok.cellAt hx hy with ⟨rfl,c,hc,rfl⟩ | ⟨hge,hh⟩
      · refine ⟨_,rfl,rfl,_,rfl,iteB (by decide +kernel) ?_⟩
        refine ⟨_,rfl,_,s3 _ _ e2,qbw ?_,(s2.trans s3).at hD,?_⟩
        · have:=ok.cl
          simp
          omega
        · rw [qaa,List.take_add_one,hc]; simp
      · have hxn:∃ nm,x=.str nm∧nm≠"cell":=by
          rcases hh with ⟨rfl,_⟩ | ⟨rfl,_⟩
          · exact ⟨_,rfl,by decide +kernel⟩
          · exact ⟨_,rfl,by decide +kernel⟩
        obtain ⟨nm,rfl,hnm⟩:=hxn
        refine ⟨_,rfl,rfl,_,rfl,iteN (by simpa using hnm) ?_⟩
        refine ⟨s2.trans s3,?_⟩
        rw [qga hge]
        exact s3 _ _ e2
end
def qax (x:Str):Nat:=if x∈[("turns" : Str),"sets","keeps","other","both"] then 2 else 1
theorem qgz {x:Str} (h:KTD.inKeys x tabP=true):∃ ns:List Str,KTD.datumAt x tabP=some (yaq (qax x) ns)∧ns.length≤2∧∀ n∈ns,n="bit"∨n="how":=by
  have:x="stuck"∨x="slow"∨x="forgets"∨x="misreads"∨x="turns"∨x="sets"∨x="keeps"∨x="nowhere"∨x="other"∨x="both":=by
    simpa [tabP,KTD.inKeys] using h
  rcases this with rfl | rfl | rfl | rfl | rfl | rfl | rfl | rfl | rfl | rfl
  · exact ⟨["bit"],by decide +kernel,by decide,by decide +kernel⟩
  · exact ⟨["bit"],by decide +kernel,by decide,by decide +kernel⟩
  · exact ⟨["bit"],by decide +kernel,by decide,by decide +kernel⟩
  · exact ⟨["bit"],by decide +kernel,by decide,by decide +kernel⟩
  · exact ⟨["bit"],by decide +kernel,by decide,by decide +kernel⟩
  · exact ⟨["bit","bit"],by decide +kernel,by decide,by decide +kernel⟩
  · exact ⟨["bit","bit"],by decide +kernel,by decide,by decide +kernel⟩
  · exact ⟨["bit"],by decide +kernel,by decide,by decide +kernel⟩
  · exact ⟨[],by decide +kernel,by decide,by decide +kernel⟩
  · exact ⟨["how"],by decide +kernel,by decide,by decide +kernel⟩
end Mh
set_option Elab.async false
set_option linter.all false
set_option maxRecDepth 100000
set_option maxHeartbeats 4000000
namespace Mh
open PySem L2 PyProof.Rows Mx
def yav:List Str→List PyData→Bool
  | [],[]=>true
  | n :: ns,p :: ps=>ybu n p && yav ns ps
  | _,_=>false
theorem qcx:∀ {nms:List Str} {ps:List PyData},yav nms ps=true→ps.length=nms.length
  | [],[],_=>rfl
  | n :: ns,p :: ps,h=>by
    have h':(ybu n p && yav ns ps)=true:=h
    rw [Bool.and_eq_true] at h'
    rw [List.length_cons,List.length_cons,qcx h'.2]
  | [],_ :: _,h=>by cases h
  | _ :: _,[],h=>by cases h
theorem qe6:∀ {nms:List Str} {ps:List PyData},ps.length=nms.length→yav nms ps=((nms.zip ps).map fun x=>ybu x.1 x.2).all id
  | [],[],_=>rfl
  | n :: ns,p :: ps,h=>by
    show (ybu n p && yav ns ps)=_
    rw [qe6 (nms:=ns) (ps:=ps) (by simpa using h)]
    rfl
  | [],_ :: _,h=>by cases h
  | _ :: _,[],h=>by cases h
def nmL (n:Nat) (ns:List Str):List Str:=List.replicate n ("cell" : Str)++ns
theorem ydt (n:Nat) (ns:List Str):yaq n ns=(nmL n ns).map V.str:=by simp [yaq,nmL]
def intD:PyData→Int | .int i=>i | _=>0
def ya8 (n:Nat) (ps:List PyData):List Int:=(ps.take n).map intD
theorem yja {H:Hp}:∀ {ns:List Str} {ps:List PyData} {ws:List V},(∀ n∈ns,n="bit"∨n="how")→AtAll H ws ps→yav ns ps=true→Rest ns ws
  | [],[],_,_,.nil,_=>.nil
  | n :: ns,p :: ps,_,hn,.cons a r,h=>by
    have h':(ybu n p && yav ns ps)=true:=h
    rw [Bool.and_eq_true] at h'
    have ih:=yja (fun x hx=>hn x (List.mem_cons_of_mem _ hx)) r h'.2
    have hp:=h'.1
    unfold ybu at hp
    rcases hn n (List.mem_cons_self ..) with rfl | rfl
    · rw [if_neg (by decide +kernel),if_pos rfl] at hp
      obtain ⟨i,rfl⟩:∃ i,p=.int i:=by cases p <;> first | exact ⟨_,rfl⟩ | exact absurd hp (by simp [bitD])
      have:=a.intEq
      subst this
      have hi:i=0∨i=1:=of_decide_eq_true hp
      refine .bit ?_ ih
      rcases hi with rfl | rfl
      · exact ⟨false,rfl⟩
      · exact ⟨true,rfl⟩
    · rw [if_neg (by decide +kernel),if_neg (by decide +kernel)] at hp
      obtain ⟨x,rfl⟩:∃ x,p=.str x:=by cases p <;> first | exact ⟨_,rfl⟩ | exact absurd hp (by simp [oneD])
      have:=a.strEq
      subst this
      refine .how ?_ ih
      have h1:inV (.str x) [.str "and",.str "or"]=true:=hp
      have e:∀ {a b:Str},¬ b=a→eqV (V.str a) (V.str b)=false:=fun {a b} h=>by simp [eqV]; exact fun z=>h z.symm
      by_cases h0:x="and"
      · exact .inl (by rw [h0])
      by_cases h2:x="or"
      · exact .inr (by rw [h2])
      exfalso
      revert h1
      simp [inV,e h0,e h2]
  | [],_ :: _,_,_,_,h=>by cases h
  | _ :: _,[],_,_,_,h=>by cases h
theorem qg9 {H:Hp} {ns:List Str} (hn:∀ x∈ns,x="bit"∨x="how"):∀ (n:Nat) {ps:List PyData} {ws:List V},AtAll H ws ps→yav (nmL n ns) ps=true→
    ws=(ya8 n ps).map V.int++ws.drop n∧Rest ns (ws.drop n)∧(ya8 n ps).length=n∧∀ x∈ya8 n ps,0≤x∧x < 64
  | 0,ps,ws,a,h=>⟨rfl,yja hn a h,rfl,fun x hx=>by cases hx⟩
  | n + 1,[],ws,a,h=>by
    have h':yav ("cell" :: nmL n ns) []=true:=h
    cases h'
  | n + 1,p :: ps,_,.cons a r,h=>by
    have h':(ybu "cell" p && yav (nmL n ns) ps)=true:=h
    rw [Bool.and_eq_true] at h'
    obtain ⟨i1,i2,i3,i4⟩:=qg9 hn n r h'.2
    have hp:=h'.1
    unfold ybu at hp
    rw [if_pos rfl] at hp
    obtain ⟨i,rfl⟩:∃ i,p=.int i:=by cases p <;> first | exact ⟨_,rfl⟩ | exact absurd hp (by simp [yhs])
    have:=a.intEq
    subst this
    have hi:0≤i∧i < 64:=of_decide_eq_true hp
    refine ⟨?_,i2,?_,fun x hx=>?_⟩
    · show _=V.int i :: ((ya8 n ps).map V.int++_)
      rw [List.drop_succ_cons,← i1]
    · show (intD (.int i) :: ya8 n ps).length=_
      rw [List.length_cons,i3]
    · have hx':x∈i :: ya8 n ps:=hx
      rcases List.mem_cons.mp hx' with rfl | hx'
      · exact hi
      · exact i4 x hx'
theorem qcr (x:Str):1≤qax x∧qax x≤2:=by
  unfold qax
  split <;> omega
theorem hm_of {H:Hp} {a:Addr} {x:Str} {ps:List PyData} {ws:List V} {ns:List Str} (ha:H a=some (.tup (.str x :: ws))) (hw:AtAll H ws ps) (ht:KTD.datumAt x tabP=some (yaq (qax x) ns)) (hl:ns.length≤2) (hn:∀ n∈ns,n="bit"∨n="how") (hp:yav (nmL (qax x) ns) ps=true) :
    ∃ h,HAt H (.ref a) h∧okP h ns∧h.c=ya8 (qax x) ps:=by
  obtain ⟨i1,i2,i3,i4⟩:=qg9 hn (qax x) hw hp
  have:=qcr x
  refine ⟨⟨x,ya8 (qax x) ps,ws.drop (qax x)⟩,⟨a,rfl,?_⟩,⟨?_,i2,?_,hl,i4⟩,rfl⟩
  · unfold hV
    rw [ha]
    show some (HO.tup (V.str x :: ws))=some (HO.tup (V.str x :: ((ya8 (qax x) ps).map V.int++ws.drop (qax x))))
    rw [← i1]
  · show KTD.datumAt x tabP=some (yaq (ya8 (qax x) ps).length ns)
    rw [i3]
    exact ht
  · show 1≤(ya8 (qax x) ps).length∧(ya8 (qax x) ps).length≤2
    rw [i3]
    exact this
theorem yg1:∀ (c:List Int),c.length≤2→decide ((uniq c).length=c.length)=decide c.Nodup
  | [],_=>by rw [yek List.nodup_nil]; rfl
  | [a],_=>by rw [yek (by simp)]; simp
  | [a,b],_=>by
    by_cases h:a=b
    · subst h
      have e:uniq [a,a]=[a]:=by simp [uniq,qa1]
      rw [e]
      simp
    · have hn:[a,b].Nodup:=by simp [h]
      rw [yek hn,decide_eq_true hn]
      simp
  | _ :: _ :: _ :: _,h=>by simp at h
end Mh
set_option Elab.async false
set_option linter.all false
set_option maxRecDepth 100000
set_option maxHeartbeats 4000000
namespace Mh
open PySem L2 PyProof.Rows Mx
theorem yip (u:V) (ws:List V):cutV (u :: ws) (some 1) none=ws:=ycy 1
theorem tail_ne1 (u:V) (ws:List V):¬ (HT.sIx (u :: ws).length 0 (some 1)=0∧HT.sIx (u :: ws).length (u :: ws).length none=(u :: ws).length):=by
  rintro ⟨h0,_⟩
  unfold HT.sIx at h0
  simp at h0
section
variable {P:Program} {w:World} {K:PySem.W.Frag} {mg:Str→Option Value} {base:Heap}
def qhc:Sp:=fun vs H Q _=>∃ v x ps n ns,vs=[v]∧At H v (.tuple (.str x :: ps))∧KTD.datumAt x tabP=some (yaq n ns)∧n≤2∧ns.length≤2∧∀ H',Same H H'→Q (.bl (yav (nmL n ns) ps)) H'
theorem og_parts (B:Bl mg) (qb9:mg "zip" = none) (yhu:mg "all" = none) {aP:Addr} (gP:mg "PARTS" = some (.ref aP)) (TP:TabK K aP tabP) (yee:Has P w K mg base 3 "is_part" ["name","thing"] yii) (F:FnAt K mg "has_parts" ybe ["thing"]):Has P w K mg base 4 "has_parts" ["thing"] qhc:=by
  refine Has.of F yb6 (fun vs H Q E h=>?_) (fun f cdv A outer s H vs Q E hr h=>?_)
  · obtain ⟨v,x,ps,n,ns,rfl,_⟩:=h
    rfl
  · obtain ⟨v,x,ps,n,ns,rfl,hv,ht,hn2,hl2,k⟩:=h
    obtain ⟨a,vs,rfl,ha,hw⟩:=hv.tupEq
    cases hw with
    | cons h1 hw=>
    rename_i u ws
    have:=h1.strEq
    subst this
    have hwl:=hw.length
    have hnl:(nmL n ns).length=n + ns.length:=by simp [nmL]
    have hnm:(yaq n ns).length=n + ns.length:=by rw [ydt,List.length_map,hnl]
    have sc:=yb6
    refine ⟨_,(qap (ybt (i:=1) sc.nd rfl (Or.inl rfl) (qbt (qfx (D:=tabP)) (yau (v:=.ref aP) rfl gP rfl) (qbt qbl (pv 0) yab (fun _ _=>rfl)) (fun _ _=>rfl)))
      (yan (qa9 (qbb (yaz qbz (qae yaf rfl (B.of rfl) boot_len (yaa (pv 0) qac)) (ya9 qbv (qae yaf rfl (B.of rfl) boot_len (yaa (pv 1) qac)) yab) (yak _)) (yb5 (qae (yfv rfl) rfl yhu yf9 (yaa (ybw rfl (ya1 rfl) (M:=["name","part"]) (ix:=[none,none]) (qgc rfl qb9 (yaa (pv 1) (yaa (ybc ycr (pv 0) (qas yab) qa0) qac))) (fun _ _ _ _=>(qfp (K:=K) (n:=2) rfl rfl (yay (yam (i:=0) (show List.Nodup (["name","part"]:List Str) by decide +kernel) rfl (Or.inl rfl)) (yay (yam (i:=1) (show List.Nodup (["name","part"]:List Str) by decide +kernel) rfl (Or.inl rfl)) ycl)))) (fun _ _ _ _=>ycq) (fun _ _ _ _=>(yaj yee hr (yaa (pv 0) (yaa (pv 1) qac))))) qac))))))),?_⟩
    refine ⟨_,rfl,a,_,_,_,rfl,rfl,SqT.of ha,yag 0 rfl,aP,x,_,rfl,rfl,TP,ht,fun pn hpn=>?_⟩
    refine ⟨_,rfl,a,_,rfl,.inr (SqT.of ha),_,rfl,pn,_,rfl,.inr (hpn _),_,_,rfl,rfl,rfl,_,rfl,?_⟩
    by_cases hlen:ps.length=(nmL n ns).length
    rotate_left
    · refine iteN (decide_eq_false (fun z=>?_)) ?_
      · have:=V.int.inj z
        rw [List.length_cons,hnm] at this
        omega
      · have e:yav (nmL n ns) ps=false:=by
          cases hb:yav (nmL n ns) ps with
          | false=>rfl
          | true=>exact absurd (qcx hb) hlen
        rw [e] at k
        exact k H (Same.refl H)
    refine iteB (decide_eq_true ?_) ?_
    · congr 1
      rw [List.length_cons,hnm]
      omega
    refine ⟨_,rfl,_,rfl,_,rfl,a,_,rfl,SqT.of ha,tail_ne1 _ _,fun q hq=>?_⟩
    rw [yip]
    have s1:Same H (upd H q (.tup ws)):=(Same.refl H).upd hq
    have e1:upd H q (.tup ws) q=some (.tup ws):=qaa
    revert s1 e1
    generalize upd H q (.tup ws)=H1
    intro s1 e1
    refine ⟨true,true,pn,q,_,_,rfl,hpn _,SqT.of e1,fun D hD=>?_⟩
    refine yd9 (K:=K) (xs:=yaq n ns) (ys:=ws) (by omega) (fun i H'=>Same H1 H'∧H' D=some (.lst (((((nmL n ns).zip ps).take i).map fun z=>ybu z.1 z.2).map V.bl))) ⟨(Same.refl H1).upd hD,qaa⟩ ?_ ?_ ?_
    · rintro i H2 ⟨s2,e2⟩
      exact ⟨hpn _,SqT.of (s2 _ _ e1)⟩
    · rintro H2 ⟨s2,e2⟩
      rw [List.take_of_length_le (by rw [List.length_zip]; omega)] at e2
      refine ⟨D,_,rfl,e2,?_⟩
      rw [← qe6 hlen]
      exact k _ (s1.trans s2)
    · rintro i xx y p H2 hx hy ⟨s2,e2⟩ hp
      rw [ydt] at hx
      obtain ⟨nm,hnm',rfl⟩:=yb9 hx
      obtain ⟨dy,hdy,hay⟩:=hw.get hy
      have hi:i < n + ns.length:=by have:=(List.getElem?_eq_some_iff.mp hnm').1; omega
      have s3:Same H2 (upd H2 p (.tup [.str nm,y])):=(Same.refl H2).upd hp
      refine ⟨p,_,rfl,SqT.of qaa,rfl,?_⟩
      refine ⟨_,_,rfl,_,_,rfl,rfl,ya2.set (ya2.set (ya2.refl _) rfl) rfl,yes ?_⟩
      refine ⟨_,rfl,_,rfl,nm,y,dy,rfl,.inl (hay.same ((s1.trans s2).trans s3)),fun H3 s4=>?_⟩
      have s23:Same H2 H3:=s3.trans s4
      refine ⟨_,s23 _ _ e2,qbw ?_,(s2.trans s23).at hD,?_⟩
      · rw [List.length_map,List.length_map,List.length_take]
        omega
      · rw [qaa,List.take_add_one,List.getElem?_zip_eq_some (z:=(nm,dy)) |>.mpr ⟨hnm',hdy⟩]
        simp
def nmOf (x:Str):List Str:=((KTD.datumAt x tabP).getD []).filterMap fun v=>match v with | .str s=>some s | _=>none
theorem yfj {x:Str} {n:Nat} {ns:List Str} (h:KTD.datumAt x tabP=some (yaq n ns)):nmOf x=nmL n ns:=by
  unfold nmOf
  rw [h,ydt]
  show (List.map V.str (nmL n ns)).filterMap _=_
  rw [List.filterMap_map]
  exact List.filterMap_some
def qbk:PyData→Bool
  | .tuple (.str x :: ps)=>KTD.inKeys x tabP && (yav (nmOf x) ps && decide (ya8 (qax x) ps).Nodup)
  | _=>false
def yaw:PyData→List Int
  | .tuple (.str x :: ps)=>ya8 (qax x) ps
  | _=>[]
theorem qfe {d:PyData} (h:qd4 d=true):∃ x ps,d=.tuple (.str x :: ps)∧KTD.inKeys x tabP=true:=by
  match d,h with
  | .tuple (.str x :: ps),h=>exact ⟨x,ps,rfl,h⟩
theorem qfv {d:PyData} (h:qd4 d=false):qbk d=false:=by
  match d with
  | .tuple (.str x :: ps)=>
    have h':KTD.inKeys x tabP=false:=h
    show (KTD.inKeys x tabP && _)=false
    rw [h']
    rfl
  | .tuple []=>rfl
  | .tuple (.none :: _)=>rfl
  | .tuple (.bool _ :: _)=>rfl
  | .tuple (.int _ :: _)=>rfl
  | .tuple (.list _ :: _)=>rfl
  | .tuple (.tuple _ :: _)=>rfl
  | .tuple (.dict _ :: _)=>rfl
  | .none=>rfl
  | .bool _=>rfl
  | .int _=>rfl
  | .str _=>rfl
  | .list _=>rfl
  | .dict _=>rfl
theorem yij {H:Hp} {v:V} {d:PyData} (hv:At H v d) (h:qbk d=true):∃ g ns,HAt H v g∧okH g ns∧g.c=yaw d:=by
  have hw:qd4 d=true:=by
    cases hq:qd4 d with
    | true=>rfl
    | false=>rw [qfv hq] at h; cases h
  obtain ⟨x,ps,rfl,hk⟩:=qfe hw
  have h':(KTD.inKeys x tabP && (yav (nmOf x) ps && decide (ya8 (qax x) ps).Nodup))=true:=h
  rw [Bool.and_eq_true,Bool.and_eq_true] at h'
  obtain ⟨ns,ht,hl,hn⟩:=qgz hk
  obtain ⟨a,vs,rfl,ha,hwa⟩:=hv.tupEq
  cases hwa with
  | cons h1 hwa=>
  have:=h1.strEq
  subst this
  have hp:=h'.2.1
  rw [yfj ht] at hp
  obtain ⟨g,hg,ok,hc⟩:=hm_of ha hwa ht hl hn hp
  exact ⟨g,ns,hg,ok.full (by rw [hc]; exact of_decide_eq_true h'.2.2),hc⟩
def yil:Sp:=fun vs H Q _=>∃ v d,vs=[v]∧AtW H v d∧∀ H',Same H H'→Q (.bl (qbk d)) H'
theorem og_harm (B:Bl mg) (yca:mg "set" = none) (ydl:Has P w K mg base 1 "has_word" ["thing"] yjh) (qc7:Has P w K mg base 4 "has_parts" ["thing"] qhc) (ya3:Has P w K mg base 1 "cells_in" ["harm"] yep) (F:FnAt K mg "is_harm" qb2 ["thing"]):Has P w K mg base 5 "is_harm" ["thing"] yil:=by
  refine Has.of F qcv (fun vs H Q E h=>?_) (fun f cdv A outer s H vs Q E hr h=>?_)
  · obtain ⟨v,d,rfl,_⟩:=h
    rfl
  · obtain ⟨v,d,rfl,hv,k⟩:=h
    have sc:=qcv
    refine ⟨_,(qap (yeq (PW.pt (yie (qdc (qco (yaj ydl hr (yaa (pv 0) qac)))) (qge (qdc (qco (yaj qc7 hr (yaa (pv 0) qac)))))))
        (yan (qa9 qex))
        qcm)
      (qap (ybt (i:=1) sc.nd rfl (Or.inl rfl) (yaj ya3 hr (yaa (pv 0) qac)))
      (yan (qa9 (yaz qbz (qae qb5 rfl (B.of rfl) boot_len (yaa (ybj (qb4 rfl) rfl yca yb0 (yaa (pv 1) qac)) qac)) (qae yaf rfl (B.of rfl) boot_len (yaa (pv 1) qac)) (yak _)))))),?_⟩
    refine ⟨_,rfl,v,d,rfl,hv,_,rfl,?_⟩
    cases hw:qd4 d with
    | false=>
      rw [qfv hw] at k
      exact iteT (iteT (k H (Same.refl H)))
    | true=>
      refine iteF ?_
      obtain ⟨x,ps,rfl,hk⟩:=qfe hw
      have hv':At H v (.tuple (.str x :: ps)):=by
        rcases hv with (h | ⟨e,_⟩) | ⟨e,_⟩
        · exact h
        · cases e
        · cases e
      obtain ⟨ns,ht,hl,hn⟩:=qgz hk
      have eh:qbk (.tuple (.str x :: ps))=(KTD.inKeys x tabP && (yav (nmOf x) ps && decide (ya8 (qax x) ps).Nodup)):=rfl
      rw [eh,hk,yfj ht,Bool.true_and] at k
      refine ⟨_,rfl,v,x,ps,_,ns,rfl,hv',ht,(qcr x).2,hl,fun H1 s1=>⟨_,rfl,?_⟩⟩
      cases hp:yav (nmL (qax x) ns) ps with
      | false=>
        rw [hp] at k
        exact iteB rfl (k H1 s1)
      | true=>
        rw [hp,Bool.true_and] at k
        refine iteN rfl ?_
        obtain ⟨a,vs,rfl,ha,hwa⟩:=(hv'.same s1).tupEq
        cases hwa with
        | cons h1 hwa=>
        have:=h1.strEq
        subst this
        obtain ⟨g,hg,ok,hc⟩:=hm_of ha hwa ht hl hn hp
        refine ⟨_,rfl,_,g,ns,rfl,hg,ok,fun D H2 s2 hD e2=>?_⟩
        refine ⟨_,rfl,D,g.c,rfl,e2,by have:=ok.cl; omega,fun p hp=>?_⟩
        refine ⟨p,_,rfl,qaa,?_⟩
        have s3:Same H2 (upd H2 p (SetO P w p (uniq g.c))):=(Same.refl H2).upd hp
        refine ⟨_,rfl,D,_,rfl,.inl (SqL.of (s3 _ _ e2)),rfl,?_⟩
        rw [← hc,← yg1 g.c ok.cl.2] at k
        have e:decide (V.int ((uniq g.c).length:Int)=V.int ((g.c.map V.int).length:Int))=decide ((uniq g.c).length=g.c.length):=by
          rw [List.length_map]
          apply decide_eq_decide.mpr
          constructor
          · intro z; have:=V.int.inj z; omega
          · intro z; rw [z]
        rw [e]
        exact k _ ((s1.trans s2).trans s3)
end
end Mh
set_option Elab.async false
set_option linter.all false
set_option maxRecDepth 100000
set_option maxHeartbeats 4000000
namespace Mh
open PySem L2 PyProof.Rows Mx
def optN:Option Nat→V | none=>.non | some n=>.int n
def accH (ds:List PyData) (i:Nat):List Int:=(ds.take i).flatMap yaw
def yb7 (ds:List PyData) (i:Nat):Bool:=!(qbk (ds.getD i .none)) || decide (3 < (uniq (accH ds (i + 1))).length)
def qai:PyData→Option (Option Nat)
  | .list ds=>if 3 < ds.length then some none else ((List.range ds.length).find? (yb7 ds)).map some
  | _=>some none
theorem qck {ds:List PyData} {i:Nat} (hl:¬ 3 < ds.length) (hi:i < ds.length) (hb:yb7 ds i=true) (ho:∀ j,j < i→yb7 ds j=false):qai (.list ds)=some (some i):=by
  show (if 3 < ds.length then some none else ((List.range ds.length).find? (yb7 ds)).map some)=_
  rw [if_neg hl,List.find?_range_eq_some.mpr ⟨hb,by simpa using hi,fun j hj=>by rw [ho j hj]; rfl⟩]
  rfl
theorem yc8 {ds:List PyData} (hl:¬ 3 < ds.length) (ho:∀ j,j < ds.length→yb7 ds j=false):qai (.list ds)=none:=by
  show (if 3 < ds.length then some none else ((List.range ds.length).find? (yb7 ds)).map some)=_
  rw [if_neg hl,List.find?_range_eq_none.mpr fun j hj=>by rw [ho j hj]; rfl]
  rfl
theorem qfz {ds:List PyData} {i:Nat} {d:PyData} (h:ds[i]?=some d):accH ds (i + 1)=accH ds i++yaw d:=by
  unfold accH
  rw [List.take_add_one,h,List.flatMap_append]
  simp
def AllW (H:Hp) (us:List V) (ds:List PyData):Prop:=us.length=ds.length∧∀ (i:Nat) x,us[i]?=some x→∃ d,ds[i]?=some d∧AtW H x d
theorem AllW.length {H:Hp} {us:List V} {ds:List PyData} (h:AllW H us ds):us.length=ds.length:=h.1
theorem AllW.get {H:Hp} {us:List V} {ds:List PyData} {i:Nat} {x:V} (h:AllW H us ds) (hx:us[i]?=some x):∃ d,ds[i]?=some d∧AtW H x d:=h.2 i x hx
theorem AllW.of {H:Hp} {us:List V} {ds:List PyData} (h:AtAll H us ds):AllW H us ds:=⟨h.length,fun i x hx=>let ⟨d,h1,h2⟩:=h.get hx; ⟨d,h1,.inl (.inl h2)⟩⟩
def AtY (H:Hp) (v:V) (d:PyData):Prop:=AtX H v d∨∃ ds L us,d=.list ds∧v=.ref L∧H L=some (.lst us)∧AllW H us ds
theorem AllW.same {H H':Hp} {us:List V} {ds:List PyData} (h:AllW H us ds) (s:Same H H'):AllW H' us ds:=⟨h.1,fun i x hx=>let ⟨d,h1,h2⟩:=h.2 i x hx; ⟨d,h1,h2.same s⟩⟩
theorem AtY.same {H H':Hp} {v:V} {d:PyData} (h:AtY H v d) (s:Same H H'):AtY H' v d:=by
  rcases h with h | ⟨ds,L,us,e,ev,h1,h2⟩
  · exact .inl (h.same s)
  · exact .inr ⟨ds,L,us,e,ev,s _ _ h1,h2.same s⟩
theorem AtY.ty {K:PySem.W.Frag} {H:Hp} {v:V} {d:PyData} (h:AtY H v d):TyOf K H v (tyD d):=by
  rcases h with h | ⟨ds,L,us,rfl,rfl,h1,h2⟩
  · exact h.ty
  · exact .lst h1
theorem AtY.lst {H:Hp} {v:V} {ds:List PyData} (h:AtY H v (.list ds)):∃ L us,v=.ref L∧H L=some (.lst us)∧AllW H us ds:=by
  rcases h with (h | ⟨e,_⟩) | ⟨ds',L,us,e,ev,h1,h2⟩
  · obtain ⟨L,us,e,hL,hu⟩:=h.lstEq
    exact ⟨L,us,e,hL,.of hu⟩
  · cases e
  · cases e
    exact ⟨L,us,ev,h1,h2⟩
theorem AtW.good {H:Hp} {v:V} {d:PyData} (h:AtW H v d) (hb:qbk d=true):At H v d:=by
  rcases h with (h | ⟨e,_⟩) | ⟨e,_⟩
  · exact h
  · subst e; cases hb
  · subst e; cases hb
theorem AllW.good {H:Hp}:∀ {us:List V} {ds:List PyData},AllW H us ds→(∀ d∈ds,qbk d=true)→AtAll H us ds
  | [],[],_,_=>.nil
  | u :: us,d :: ds,h,hb=>by
    obtain ⟨d',e,h0⟩:=h.2 0 u rfl
    have e':d=d':=Option.some.inj e
    subst e'
    exact .cons (h0.good (hb d (by simp))) (AllW.good (us:=us) (ds:=ds) ⟨by have:=h.1; simpa using this,fun i x hx=>h.2 (i + 1) x hx⟩ fun x hx=>hb x (by simp [hx]))
  | [],_ :: _,h,_=>by have:=h.1; simp at this
  | _ :: _,[],h,_=>by have:=h.1; simp at this
theorem qcu {d:PyData} (h:qai d=none):∃ ds,d=.list ds∧∀ x∈ds,qbk x=true:=by
  match d,h with
  | .list ds,h=>
    refine ⟨ds,rfl,fun x hx=>?_⟩
    have h':(if 3 < ds.length then some none else ((List.range ds.length).find? (yb7 ds)).map some)=none:=h
    by_cases h3:3 < ds.length
    · rw [if_pos h3] at h'; cases h'
    · rw [if_neg h3,Option.map_eq_none_iff,List.find?_range_eq_none] at h'
      obtain ⟨i,hi,rfl⟩:=List.mem_iff_getElem.mp hx
      have h2:=h' i hi
      unfold yb7 at h2
      rw [List.getD_eq_getElem?_getD,List.getElem?_eq_getElem hi] at h2
      cases hq:qbk ds[i] with
      | true=>rfl
      | false=>simp [hq] at h2
theorem AtY.good {H:Hp} {v:V} {d:PyData} (h:AtY H v d) (hb:qai d=none):AtX H v d:=by
  obtain ⟨ds,rfl,hall⟩:=qcu hb
  obtain ⟨L,us,rfl,hL,hu⟩:=h.lst
  exact .inl (.lst hL (hu.good hall))
section
variable {P:Program} {w:World} {K:PySem.W.Frag} {mg:Str→Option Value} {base:Heap}
def qe9 (C:Addr):Sp:=fun vs H Q E=>∃ v d,vs=[v]∧AtY H v d∧(qai d=none→∀ H',Same H H'→Q .non H')∧(∀ b,qai d=some b→∀ a H',Same H H'→XAt H' a C [("number",optN b)]→E (.ref a) none H')
theorem og_harms {C:Addr} (B:Bl mg) (xH:XInit P w K mg base "NoHarms" C ["self","number"] (sp_x1 C "number")) (yca:mg "set" = none) (ycn:∃ t,mg "MOST_HARMS" = some (.int 3 t)) (qcf:∃ t,mg "MOST_UNLIKE" = some (.int 3 t)) (yel:Has P w K mg base 5 "is_harm" ["thing"] yil) (ya3:Has P w K mg base 1 "cells_in" ["harm"] ybp)
    (F:FnAt K mg "look_at_harms" yax ["thing"]):HasX P w K mg base 6 "look_at_harms" ["thing"] (qe9 C):=by
  refine HasX.of F qbd (fun vs H Q E h=>?_) (fun f cdv A outer s H vs Q E hr h=>?_)
  · obtain ⟨v,d,rfl,_⟩:=h
    rfl
  · obtain ⟨v,d,rfl,hv,q1,q2⟩:=h
    have z1:1≤sizeLine:=by decide
    have sc:=qbd
    refine ⟨_,(qat rfl (qad (ya5 (QW.pt (yfr (qe3 (yct (qar yas rfl (B.of rfl) boot_isinstance (yal (qab (pv 0)) (yal (qab (qa3 (v:=.ty "list") rfl (B.of rfl) boot_list rfl)) yad))))) (qeb (yat yfo (qar yaf rfl (B.of rfl) boot_len (yal (qab (pv 0)) yad)) (qab (ydj ycn)) (yak _)))))
        (yae (yho (qfh (pe_xI xH hr (yaa ycb qac)))))
        yar)
      (qad (qam (i:=1) sc.nd rfl (Or.inl rfl) (qav yad))
      (yae (ydf ygz rfl (yhm (qfl rfl (B.of rfl) (yaa (pv 0) qac))) (qe4 rfl (yay (yam (i:=2) sc.nd rfl (Or.inl rfl)) (yay (yam (i:=3) sc.nd rfl (Or.inl rfl)) ycl)))
        (qad (ya5 (qe3 (yct (qaq yel hr (yal (qab (pv 3)) yad))))
          (yae (yho (qfh (pe_xI xH hr (yaa (pv 2) qac)))))
          yar)
        (qad (qfc (qab (yew PySem.F.plainAttrs_list PySem.F.slot_list_extend PySem.F.type_list_extend qdj (pv 1) (yaa (yaj ya3 hr (yaa (pv 3) qac)) qac))))
        (yae (ya5 (yat yfo (qar qb5 rfl (B.of rfl) boot_len (yga (qcc (qb4 rfl) rfl yca yb0 (yal (qab (pv 1)) yad)) yad)) (qab (ydj qcf)) (yak _))
          (yae (yho (qfh (pe_xI xH hr (yaa (pv 2) qac)))))
          yar))))))))),?_⟩
    have hraise:∀ {H1:Hp} {a:Addr} (b:Option Nat),qai d=some b→Same H H1→H1 a=none→∀ dd H4,XD H4 a C (some dd) [("number",optN b)]→SetX a dd none (upd H1 a (.ext (qb8 a C none))) H4→(∃ a' C' dx,V.ref a=V.ref a'∧XTy K C'∧H4 a'=some (.ext (qb8 a' C' dx))∧E (.ref a') none (upd H4 a' (.ext (yce a' C' dx)))):=fun {H1 a} b hb s1 ha dd H4 x4 s4=>by
      obtain ⟨r1,r2,r3⟩:=raised_x ha x4 s4
      exact ⟨a,C,some dd,rfl,xH.2.2.1.toXTy,r1,q2 b hb a _ (s1.trans r2) r3⟩
    refine ⟨_,rfl,_,_,_,_,rfl,hv.ty,ygm d,_,rfl,?_⟩
    cases hs:isLst d with
    | false=>
      have e:qai d=some none:=by cases d <;> first | rfl | cases hs
      refine iteT (iteT ⟨z1,fun a ha=>⟨a,_,rfl,.inl ⟨rfl,rfl,qaa⟩,fun dd H1 x1 s1=>⟨rfl,?_⟩⟩⟩)
      exact hraise none e (Same.refl H) ha dd H1 x1 s1
    | true=>
      obtain ⟨ds,rfl⟩:∃ ds,d=.list ds:=by cases d <;> first | exact ⟨_,rfl⟩ | cases hs
      obtain ⟨L,us,rfl,hL,hu⟩:=hv.lst
      have hul:=hu.length
      refine iteF ⟨_,rfl,L,us,rfl,.inl (SqL.of hL),_,_,rfl,rfl,_,rfl,?_⟩
      by_cases h3:3 < ds.length
      · have e:qai (.list ds)=some none:=by
          show (if 3 < ds.length then some none else _)=_
          rw [if_pos h3]
        refine iteD (by omega) ⟨z1,fun a ha=>⟨a,_,rfl,.inl ⟨rfl,rfl,qaa⟩,fun dd H1 x1 s1=>⟨rfl,?_⟩⟩⟩
        exact hraise none e (Same.refl H) ha dd H1 x1 s1
      refine qdm (by omega) ?_
      refine ⟨Nat.zero_le _,fun p hp=>?_⟩
      have npL:L≠p:=qag hL hp
      refine ⟨_,rfl,L,us,rfl,SqL.of (by rw [qaf npL]; exact hL),qd6 (xs:=us) (fun i σ H2=>∃ (o2 o3:Option V),σ=[some (.ref L),some (.ref p),o2,o3]∧Same H H2∧H2 p=some (.lst ((accH ds i).map V.int))∧(accH ds i).length≤2 * i∧∀ j,j < i→yb7 ds j=false)
        ⟨none,none,rfl,(Same.refl H).upd hp,qaa,Nat.le_refl _,fun j hj=>absurd hj (by omega)⟩ (fun i σ H2 _ ⟨_,_,_,h,_⟩=>SqL.of (h _ _ hL)) ?_ ?_⟩
      · rintro i x pp σ H2 hx ⟨o2,o3,rfl,s2,e2,l2,ho⟩ hpp
        obtain ⟨dx,hdx,hat⟩:=hu.get hx
        have hil:i < ds.length:=(List.getElem?_eq_some_iff.mp hdx).1
        have hget:ds.getD i .none=dx:=by rw [List.getD_eq_getElem?_getD,hdx]; rfl
        have sP:Same H2 (upd H2 pp (.tup [.int i,x])):=(Same.refl H2).upd hpp
        refine ⟨pp,_,rfl,SqT.of qaa,rfl,_,_,rfl,_,_,rfl,rfl,?_⟩
        refine ⟨_,rfl,x,dx,rfl,hat.same (s2.trans sP),fun H3 s3=>⟨_,rfl,?_⟩⟩
        have s23:Same H2 H3:=sP.trans s3
        cases hb:qbk dx with
        | false=>
          have e:qai (.list ds)=some (some i):=qck h3 hil (by unfold yb7; rw [hget,hb]; rfl) ho
          refine iteT ⟨_,rfl,z1,fun a ha=>⟨a,_,rfl,.inl ⟨rfl,rfl,qaa⟩,fun dd H1 x1 s1=>⟨rfl,?_⟩⟩⟩
          exact hraise (some i) e (s2.trans s23) ha dd H1 x1 s1
        | true=>
          refine iteF ?_
          obtain ⟨g,ns,hg,ok,hc⟩:=yij ((hat.good hb).same (s2.trans s23)) hb
          refine ⟨_,rfl,.inl ⟨rfl,_,SqL.of (s23 _ _ e2)⟩,?_⟩
          refine ⟨_,rfl,x,g,ns,rfl,hg,ok,fun D H4 s4 hD eD=>?_⟩
          have s24:=s23.trans s4
          have hcl:=ok.cl.2
          have ea:accH ds (i + 1)=accH ds i++g.c:=by rw [qfz hdx,hc]
          have hlt:(accH ds (i + 1)).length≤2 * (i + 1):=by rw [ea,List.length_append]; omega
          refine ⟨p,D,_,_,rfl,rfl,s24 _ _ e2,eD,?_,?_⟩
          · rw [List.length_map,List.length_map]
            exact Nat.le_of_lt (qbw (by omega))
          rw [← List.map_append,← ea]
          have s5:Same H (upd H4 p (.lst ((accH ds (i + 1)).map V.int))):=(s2.trans s24).at hp
          have e5:upd H4 p (.lst ((accH ds (i + 1)).map V.int)) p=some (.lst ((accH ds (i + 1)).map V.int)):=qaa
          revert s5 e5
          generalize upd H4 p (.lst ((accH ds (i + 1)).map V.int))=H5
          intro s5 e5
          refine ⟨_,rfl,p,_,rfl,e5,by omega,fun q hq=>?_⟩
          have s6:Same H5 (upd H5 q (SetO P w q (uniq (accH ds (i + 1))))):=(Same.refl H5).upd hq
          refine ⟨q,_,rfl,qaa,_,_,rfl,rfl,_,rfl,?_⟩
          by_cases hu3:3 < (uniq (accH ds (i + 1))).length
          · have e:qai (.list ds)=some (some i):=qck h3 hil (by unfold yb7; rw [hget,hb,decide_eq_true hu3]; rfl) ho
            refine iteD (by omega) ⟨_,rfl,z1,fun a ha=>⟨a,_,rfl,.inl ⟨rfl,rfl,qaa⟩,fun dd H1 x1 s1=>⟨rfl,?_⟩⟩⟩
            exact hraise (some i) e (s5.trans s6) ha dd H1 x1 s1
          · refine qdm (by omega) ⟨_,_,rfl,s5.trans s6,s6 _ _ e5,hlt,fun j hj=>?_⟩
            by_cases ej:j=i
            · subst ej
              unfold yb7
              rw [hget,hb,decide_eq_false hu3]
              rfl
            · exact ho j (by omega)
      · rintro σ H2 ⟨o2,o3,rfl,s2,e2,l2,ho⟩
        exact q1 (yc8 h3 fun j hj=>ho j (by omega)) _ s2
end
end Mh
set_option Elab.async false
set_option linter.all false
set_option maxRecDepth 100000
set_option maxHeartbeats 4000000
namespace Mh
open PySem L2 PyProof.Rows Mx
theorem hs_of {H:Hp}:∀ {us:List V} {ds:List PyData},AtAll H us ds→(∀ d∈ds,qbk d=true)→∃ hs,HsV H us hs∧(∀ h∈hs,∃ ns,okH h ns)∧allC hs=ds.flatMap yaw∧hs.length=ds.length
  | [],[],.nil,_=>⟨[],⟨rfl,fun i v h h1=>by simp at h1⟩,fun h hh=>(by cases hh),rfl,rfl⟩
  | u :: us,d :: ds,.cons a r,hd=>by
    obtain ⟨hs,h1,h2,h3,h4⟩:=hs_of r fun x hx=>hd x (List.mem_cons_of_mem _ hx)
    obtain ⟨g,ns,hg,ok,hc⟩:=yij a (hd d (List.mem_cons_self ..))
    refine ⟨g :: hs,⟨by simp [h1.len],fun i v h e1 e2=>?_⟩,fun h hh=>?_,?_,by simp [h4]⟩
    · cases i with
      | zero=>cases e1; cases e2; exact hg
      | succ i=>exact h1.at_ i v h e1 e2
    · rcases List.mem_cons.mp hh with rfl | hh
      · exact ⟨ns,ok⟩
      · exact h2 h hh
    · unfold allC at h3 ⊢
      rw [List.flatMap_cons,List.flatMap_cons,h3,hc]
def qcz:PyData→List Int | .list ds=>ds.flatMap yaw | _=>[]
theorem ycv {H:Hp} {v:V} {d:PyData} (hv:AtX H v d) (hb:qai d=none):∃ L us hs S,v=.ref L∧H L=some (.lst us)∧HsV H us hs∧okHs hs S∧allC hs=qcz d:=by
  obtain ⟨ds,rfl⟩:∃ ds,d=.list ds:=by cases d <;> first | exact ⟨_,rfl⟩ | cases hb
  have hv':At H v (.list ds):=by
    rcases hv with h | ⟨e,_⟩
    · exact h
    · cases e
  obtain ⟨L,us,rfl,hL,hu⟩:=hv'.lstEq
  have hb':(if 3 < ds.length then some none else ((List.range ds.length).find? (yb7 ds)).map some)=none:=hb
  by_cases h3:3 < ds.length
  · rw [if_pos h3] at hb'; cases hb'
  rw [if_neg h3] at hb'
  have hn:(List.range ds.length).find? (yb7 ds)=none:=by
    cases hz:(List.range ds.length).find? (yb7 ds) with
    | none=>rfl
    | some i=>rw [hz] at hb'; cases hb'
  have hall:=List.find?_range_eq_none.mp hn
  have hbad:∀ i,i < ds.length→yb7 ds i=false:=fun i hi=>by
    have:=hall i hi
    cases hz:yb7 ds i with
    | false=>rfl
    | true=>rw [hz] at this; cases this
  obtain ⟨hs,h1,h2,h4,h5⟩:=hs_of hu fun x hx=>by
    obtain ⟨i,hi⟩:=List.getElem?_of_mem hx
    have hil:=(List.getElem?_eq_some_iff.mp hi).1
    have:=hbad i hil
    unfold yb7 at this
    rw [List.getD_eq_getElem?_getD,hi] at this
    rw [Bool.or_eq_false_iff] at this
    simpa using this.1
  refine ⟨L,us,hs,uniq (allC hs),rfl,hL,h1,⟨by omega,h2,?_,fun h hh c hc=>?_⟩,h4⟩
  · rw [h4]
    cases hz:ds.length with
    | zero=>
      have:ds=[]:=List.length_eq_zero_iff.mp hz
      rw [this]
      decide
    | succ n=>
      have:=hbad n (by omega)
      unfold yb7 at this
      rw [Bool.or_eq_false_iff] at this
      have h6:=of_decide_eq_false this.2
      unfold accH at h6
      rw [List.take_of_length_le (by omega)] at h6
      omega
  · exact (yd6 _ c).mpr (List.mem_flatMap.mpr ⟨h,hh,hc⟩)
section
variable {P:Program} {w:World} {K:PySem.W.Frag} {mg:Str→Option Value} {base:Heap}
def yck (C:Addr):Sp:=fun vs H Q E=>∃ v d,vs=[v]∧AtY H v d∧(qai d=none→∀ (D:Addr) (ns:List Int) (H':Hp),Same H H'→H D=none→H' D=some (.lst (ns.map V.int))→ns.Perm (uniq (qcz d))→ns.Pairwise (·≤·)→Q (.ref D) H')∧(∀ b,qai d=some b→∀ a H',Same H H'→XAt H' a C [("number",optN b)]→E (.ref a) none H')
theorem qgl {C:Addr} (B:Bl mg) (yca:mg "set" = none) (qb0:HasX P w K mg base 6 "look_at_harms" ["thing"] (qe9 C)) (ya3:Has P w K mg base 1 "cells_in" ["harm"] ybp) (F:FnAt K mg "cells_of" ybq ["harms"]):HasX P w K mg base 7 "cells_of" ["harms"] (yck C):=by
  refine HasX.of F qcl (fun vs H Q E h=>?_) (fun f cdv A outer s H vs Q E hr h=>?_)
  · obtain ⟨v,d,rfl,_⟩:=h
    rfl
  · obtain ⟨v,d,rfl,hv0,k,kx⟩:=h
    have sc:=qcl
    refine ⟨_,(qat rfl (qad (qfc (qab (yd5 qb0 passX hr (yaa (pv 0) qac))))
      (qad (qam (i:=1) sc.nd rfl (Or.inl rfl) (qav yad))
      (qad (ydf ygz rfl (ygk (qab (pv 0))) (yam (i:=2) sc.nd rfl (Or.inl rfl))
        (yae (qfc (qab (yew PySem.F.plainAttrs_list PySem.F.slot_list_extend PySem.F.type_list_extend qdj (pv 1) (yaa (yaj ya3 hr (yaa (pv 2) qac)) qac))))))
      (yae (yai (qar (ydz rfl) rfl (B.of rfl) qdy (yga (qcc (qb4 rfl) rfl yca yb0 (yal (qab (pv 1)) yad)) yad)))))))),?_⟩
    refine ⟨_,rfl,v,d,rfl,hv0,fun hb H1 s1=>?_,kx⟩
    obtain ⟨L,us,hs,S,rfl,hL,hv,ok,hA⟩:=ycv (hv0.good hb) hb
    refine ⟨Nat.zero_le _,fun p hp=>?_⟩
    have hp0:H p=none:=s1.free hp
    have npL:L≠p:=qag hL hp0
    refine ⟨_,rfl,L,rfl,⟨us,SqL.of (by rw [qaf npL]; exact s1 _ _ hL)⟩,qd9 (xs:=us) (fun i σ H2=>∃ (o2:Option V),σ=[some (.ref L),some (.ref p),o2]∧Same H H2∧H2 p=some (.lst ((allC (hs.take i)).map V.int)))
      ⟨none,rfl,s1.upd hp,qaa⟩ (fun i σ H2 _ ⟨_,_,h,_⟩=>SqL.of (h _ _ hL)) ?_ ?_⟩
    · rintro i x σ H2 hx ⟨o2,rfl,s2,e2⟩
      obtain ⟨g,hg,hat⟩:=hv.get hx
      obtain ⟨ns,og⟩:=ok.ok g (List.mem_of_getElem? hg)
      refine ⟨_,rfl,.inl ⟨rfl,_,SqL.of e2⟩,?_⟩
      refine ⟨_,rfl,x,g,ns,rfl,HAt.same s2 hat,og,fun D H4 s4 hD eD=>?_⟩
      have hsub:∀ h∈hs.take (i + 1),h∈hs:=fun h hh=>List.mem_of_mem_take hh
      have hlt:(allC (hs.take (i + 1))).length≤6:=by
        have h1:=ok.clen hsub
        have h2:=ok.len
        rw [List.length_take] at h1
        omega
      refine ⟨p,D,_,_,rfl,rfl,s4 _ _ e2,eD,?_,?_⟩
      · rw [← List.length_append,← List.map_append,← ycd hg,List.length_map]
        exact Nat.le_of_lt (qbw (by omega))
      rw [← List.map_append,← ycd hg]
      exact ⟨_,rfl,(s2.trans s4).at hp0,qaa⟩
    · rintro σ H2 ⟨o2,rfl,s2,e2⟩
      rw [hv.len,List.take_length] at e2
      have hc:=ok.clen (l:=hs) (fun h hh=>hh)
      have h3:=ok.len
      refine ⟨_,rfl,p,_,rfl,e2,by omega,fun q hq=>?_⟩
      have s6:Same H2 (upd H2 q (SetO P w q (uniq (allC hs)))):=(Same.refl H2).upd hq
      refine ⟨q,_,rfl,qaa,by have:=ok.few (l:=hs) (fun h hh=>hh); omega,fun l ns hl hpm hso=>?_⟩
      exact k hb l ns _ ((s2.trans s6).upd hl) ((s2.trans s6).free hl) qaa (by rw [← hA]; exact hpm) hso
end
end Mh
set_option Elab.async false
set_option linter.all false
set_option maxRecDepth 100000
set_option maxHeartbeats 4000000
namespace Mh
open PySem L2 PyProof.Rows Mx
theorem boot_VE:bootBuiltins "ValueError" = some (.type "ValueError"):=by decide +kernel
def nms:List Str:=["NoTest","NoText","NoHarms","NoMemory","NoAddress","NoBit","NoOrders","NotSure","NoKind","NoSpares","NoRow","NoName","TooMany"]
def kinds:List Str:=["test","text","harms","memory","address","bit","orders","sure","kind","spares","row","name","many"]
def yc2:List Str:=["test","text","harms","memory","address","bit","orders","sure","kind","spares","row","name"]
def tru (j:Nat):List Bool:=[decide (0=j),decide (1=j),decide (2=j),decide (3=j),decide (4=j),decide (5=j),decide (6=j),decide (7=j),decide (8=j),decide (9=j),decide (10=j),decide (11=j),decide (12=j)]
theorem qic:∀ j,j < 13→(tru j).count true=1∧(tru j)[j]?=some true∧∀ m,m < j→(tru j)[m]?≠some true:=by decide +kernel
theorem qdt {c A B:Prop} [Decidable c] (h:¬ c) (b:B):if c then A else B:=by rw [if_neg h]; exact b
theorem yfm {c A B:Prop} [Decidable c] (h:c) (b:A):if c then A else B:=by rw [if_pos h]; exact b
theorem kinds_at:∀ j,j < 13→atI (yc2.map V.str++[V.str "many"]) (j:Nat)=some (V.str (kinds.getD j "")):=by decide +kernel
section
variable {P:Program} {w:World} {K:PySem.W.Frag} {mg:Str→Option Value} {base:Heap}
def yjg (K:PySem.W.Frag) (c:Nat→Addr):Sp:=fun vs H Q _=>∃ a C fs j,vs=[.ref a]∧XAt H a C fs∧XTy K C∧j < 13∧(∀ i,i < 13→PySem.W.kitOne K (.ref C) (.ref (c i))=some (decide (i=j)))∧PySem.W.kitOne K (.ref C) (.type "ValueError")=some true∧
  ∀ H',Same H H'→Q (.str (kinds.getD j "")) H'
abbrev qbo:Stmt:=top 41
theorem ydx:FnScope ["_law_e","_law_some","_law_names"] ["_law_e"] (yac qbo):=⟨rfl,rfl,rfl,by decide +kernel,rfl,by decide +kernel,by decide +kernel⟩
theorem ok_kind {c:Nat→Addr} (B:Bl mg) (hVE:mg "ValueError" = none) (G:∀ i x,nms[i]?=some x→mg x=some (.ref (c i))) (F:FnAt K mg "_law_kind" qbo ["_law_e"]):Has P w K mg base 1 "_law_kind" ["_law_e"] (yjg K c):=by
  refine Has.of F ydx (fun vs H Q E h=>?_) (fun f cdv A outer s H vs Q E hr h=>?_)
  · obtain ⟨a,C,fs,j,rfl,_⟩:=h
    rfl
  · obtain ⟨a,C,fs,j,rfl,hx,T,hj,hk,hv,k⟩:=h
    have isi:∀ {H':Hp} {q:VK} (i:Nat),i < 13→Same H H'→q (.bl (decide (i=j))) H'→rIsiX K [.ref a,.ref (c i)] H' q:=fun i hi sm hq=>⟨a,C,fs,.ref (c i),_,rfl,.inl ⟨_,rfl⟩,XAt.same sm hx,T,hk i hi,hq⟩
    have sc:=ydx
    refine ⟨_,(qss_lit rfl (qad (qhf (i:=1) sc.nd rfl (Or.inl rfl) (ybz (qdl (qae qa2 rfl (B.of rfl) boot_isinstance (yaa (pv 0) (yaa (yau (v:=.ref (c 0)) rfl (G 0 "NoTest" rfl) rfl) qac))) (qdl (qae qa2 rfl (B.of rfl) boot_isinstance (yaa (pv 0) (yaa (yau (v:=.ref (c 1)) rfl (G 1 "NoText" rfl) rfl) qac))) (qdl (qae qa2 rfl (B.of rfl) boot_isinstance (yaa (pv 0) (yaa (yau (v:=.ref (c 2)) rfl (G 2 "NoHarms" rfl) rfl) qac))) (qdl (qae qa2 rfl (B.of rfl) boot_isinstance (yaa (pv 0) (yaa (yau (v:=.ref (c 3)) rfl (G 3 "NoMemory" rfl) rfl) qac))) qac))))))
      (qad (qhf (i:=1) sc.nd rfl (Or.inl rfl) (ya9 qb7 (pv 1) (ybz (qdl (qae qa2 rfl (B.of rfl) boot_isinstance (yaa (pv 0) (yaa (yau (v:=.ref (c 4)) rfl (G 4 "NoAddress" rfl) rfl) qac))) (qdl (qae qa2 rfl (B.of rfl) boot_isinstance (yaa (pv 0) (yaa (yau (v:=.ref (c 5)) rfl (G 5 "NoBit" rfl) rfl) qac))) (qdl (qae qa2 rfl (B.of rfl) boot_isinstance (yaa (pv 0) (yaa (yau (v:=.ref (c 6)) rfl (G 6 "NoOrders" rfl) rfl) qac))) (qdl (qae qa2 rfl (B.of rfl) boot_isinstance (yaa (pv 0) (yaa (yau (v:=.ref (c 7)) rfl (G 7 "NotSure" rfl) rfl) qac))) qac)))))))
      (qad (qhf (i:=1) sc.nd rfl (Or.inl rfl) (ya9 qb7 (pv 1) (ybz (qdl (qae qa2 rfl (B.of rfl) boot_isinstance (yaa (pv 0) (yaa (yau (v:=.ref (c 8)) rfl (G 8 "NoKind" rfl) rfl) qac))) (qdl (qae qa2 rfl (B.of rfl) boot_isinstance (yaa (pv 0) (yaa (yau (v:=.ref (c 9)) rfl (G 9 "NoSpares" rfl) rfl) qac))) (qdl (qae qa2 rfl (B.of rfl) boot_isinstance (yaa (pv 0) (yaa (yau (v:=.ref (c 10)) rfl (G 10 "NoRow" rfl) rfl) qac))) (qdl (qae qa2 rfl (B.of rfl) boot_isinstance (yaa (pv 0) (yaa (yau (v:=.ref (c 11)) rfl (G 11 "NoName" rfl) rfl) qac))) qac)))))))
      (qad (qhf (i:=1) sc.nd rfl (Or.inl rfl) (ya9 qb7 (pv 1) (ybz (yaa (qae qa2 rfl (B.of rfl) boot_isinstance (yaa (pv 0) (yaa (yau (v:=.ref (c 12)) rfl (G 12 "TooMany" rfl) rfl) qac))) qac))))
      (qad (qs_if (PW.pt (yie (qbf yik (yew PySem.F.plainAttrs_list PySem.F.slot_list_count PySem.F.type_list_count qi1 (pv 1) (yaa qex qac)) yab (yak _)) (qge (qdc (qco (qae qa2 rfl (B.of rfl) boot_isinstance (yaa (pv 0) (yaa (qa3 (v:=.ty "ValueError") rfl hVE boot_VE rfl) qac))))))))
        (yae (qs_ret qah))
        yar)
      (qad (qs_strs (i:=2) (xs:=yc2) sc.nd rfl (Or.inl rfl) (by decide +kernel))
      (yae (qs_ret (qbt qal (ya9 qb7 (pv 2) (ybz (yaa qah qac))) (yew PySem.F.plainAttrs_list PySem.F.slot_list_index PySem.F.type_list_index qia (pv 1) (yaa qex qac)) (fun _ _=>rfl))))))))))),?_⟩
    have z4:4≤sizeLine:=by decide
    have u:∀ {H':Hp} {p q:Addr} {o o':HO},H' p=some o→H' q=none→upd H' q o' p=some o:=fun h1 h2=>by rw [qaf (qag h1 h2)]; exact h1
    refine ⟨_,rfl,⟨a,C,fs,.ref (c 0),_,rfl,.inl ⟨_,rfl⟩,XAt.same ((Same.refl H)) hx,T,hk 0 (by decide),⟨_,rfl,⟨a,C,fs,.ref (c 1),_,rfl,.inl ⟨_,rfl⟩,XAt.same ((Same.refl H)) hx,T,hk 1 (by decide),⟨_,rfl,⟨a,C,fs,.ref (c 2),_,rfl,.inl ⟨_,rfl⟩,XAt.same ((Same.refl H)) hx,T,hk 2 (by decide),⟨_,rfl,⟨a,C,fs,.ref (c 3),_,rfl,.inl ⟨_,rfl⟩,XAt.same ((Same.refl H)) hx,T,hk 3 (by decide),⟨z4,fun p1 f1=>?_⟩⟩⟩⟩⟩⟩⟩⟩⟩
    have s1:Same H _:=(Same.refl H).upd (o:=.lst [.bl (decide (0=j)),.bl (decide (1=j)),.bl (decide (2=j)),.bl (decide (3=j))]) f1
    have a1:upd H p1 (.lst [.bl (decide (0=j)),.bl (decide (1=j)),.bl (decide (2=j)),.bl (decide (3=j))]) p1=some _:=qaa
    revert a1 s1
    generalize upd H p1 (.lst [.bl (decide (0=j)),.bl (decide (1=j)),.bl (decide (2=j)),.bl (decide (3=j))])=H1
    intro s1 a1
    refine ⟨_,rfl,_,rfl,⟨a,C,fs,.ref (c 4),_,rfl,.inl ⟨_,rfl⟩,XAt.same (s1) hx,T,hk 4 (by decide),⟨_,rfl,⟨a,C,fs,.ref (c 5),_,rfl,.inl ⟨_,rfl⟩,XAt.same (s1) hx,T,hk 5 (by decide),⟨_,rfl,⟨a,C,fs,.ref (c 6),_,rfl,.inl ⟨_,rfl⟩,XAt.same (s1) hx,T,hk 6 (by decide),⟨_,rfl,⟨a,C,fs,.ref (c 7),_,rfl,.inl ⟨_,rfl⟩,XAt.same (s1) hx,T,hk 7 (by decide),⟨z4,fun p2 f2=>⟨p1,p2,_,_,rfl,rfl,u a1 f2,qaa,(show 8≤sizeLine by decide),fun p3 f3=>?_⟩⟩⟩⟩⟩⟩⟩⟩⟩⟩
    refine ⟨_,rfl,_,rfl,⟨a,C,fs,.ref (c 8),_,rfl,.inl ⟨_,rfl⟩,XAt.same (((s1.upd f2).upd f3)) hx,T,hk 8 (by decide),⟨_,rfl,⟨a,C,fs,.ref (c 9),_,rfl,.inl ⟨_,rfl⟩,XAt.same (((s1.upd f2).upd f3)) hx,T,hk 9 (by decide),⟨_,rfl,⟨a,C,fs,.ref (c 10),_,rfl,.inl ⟨_,rfl⟩,XAt.same (((s1.upd f2).upd f3)) hx,T,hk 10 (by decide),⟨_,rfl,⟨a,C,fs,.ref (c 11),_,rfl,.inl ⟨_,rfl⟩,XAt.same (((s1.upd f2).upd f3)) hx,T,hk 11 (by decide),⟨z4,fun p4 f4=>⟨p3,p4,_,_,rfl,rfl,u qaa f4,qaa,(show 12≤sizeLine by decide),fun p5 f5=>?_⟩⟩⟩⟩⟩⟩⟩⟩⟩⟩
    refine ⟨_,rfl,_,rfl,⟨a,C,fs,.ref (c 12),_,rfl,.inl ⟨_,rfl⟩,XAt.same (((((s1.upd f2).upd f3).upd f4).upd f5)) hx,T,hk 12 (by decide),⟨(show 1≤sizeLine by decide),fun p6 f6=>⟨p5,p6,_,_,rfl,rfl,u qaa f6,qaa,(show 13≤sizeLine by decide),fun p7 f7=>?_⟩⟩⟩⟩
    have hc:(tru j).count true=1:=(qic j hj).1
    have hq:Same H _:=((((((s1.upd f2).upd f3).upd f4).upd f5).upd f6).upd (o:=.lst ((tru j).map V.bl)) f7)
    refine ⟨_,rfl,.inl ⟨rfl,_,SqL.of qaa⟩,p7,tru j,true,rfl,rfl,qaa,?_⟩
    rw [hc]
    refine ⟨rfl,_,rfl,?_⟩
    refine qdt (by decide) ?_
    refine ⟨_,rfl,a,C,fs,.ty "ValueError",_,rfl,.inr ⟨_,rfl⟩,XAt.same hq hx,T,hv,_,rfl,?_⟩
    refine qdt (by decide) ?_
    refine ⟨(show 12≤sizeLine by decide),fun p8 f8=>?_⟩
    refine ⟨_,rfl,(show 1≤sizeLine by decide),fun p9 f9=>⟨p8,p9,_,_,rfl,rfl,u qaa f9,qaa,(show 13≤sizeLine by decide),fun p10 f10=>?_⟩⟩
    refine ⟨_,rfl,.inl ⟨rfl,_,SqL.of (u (u (u qaa f8) f9) f10)⟩,p7,tru j,true,j,rfl,rfl,u (u (u qaa f8) f9) f10,(qic j hj).2.1,(qic j hj).2.2,?_⟩
    exact ⟨p10,_,_,_,rfl,rfl,SqL.of qaa,kinds_at j hj,k _ (((hq.upd f8).upd f9).upd f10)⟩
end
end Mh
set_option Elab.async false
set_option linter.all false
set_option maxRecDepth 100000
set_option maxHeartbeats 4000000
namespace Mh
open PySem L2 PyProof.Rows Mx
def rnH (f:Int→Int) (h:Hm):Hm:={ h with c:=h.c.map f }
def Nms (kvs:List (Key×V)) (f:Int→Int) (c:Int):Prop:=valV kvs (.inl c)=some (.int (f c))
section
variable {P:Program} {w:World} {K:PySem.W.Frag} {mg:Str→Option Value} {base:Heap}
def ydr:Sp:=fun vs H Q _=>∃ v h ns d kvs f,vs=[v,.ref d]∧HAt H v h∧okH h ns∧H d=some (.dK kvs)∧(∀ c∈h.c,Nms kvs f c)∧∀ a H',Same H H'→H a=none→H' a=some (.tup (hV (rnH f h)))→Q (.ref a) H'
abbrev qcd:Stmt:=top 33
theorem ye5:FnScope ["harm","names","parts","name","part"] ["harm","names"] (yac qcd):=⟨rfl,rfl,rfl,by decide +kernel,rfl,by decide +kernel,by decide +kernel⟩
theorem qhh (B:Bl mg) (qb9:mg "zip" = none) {aP:Addr} (gP:mg "PARTS" = some (.ref aP)) (TP:TabK K aP tabP) (F:FnAt K mg "renamed" qcd ["harm","names"]):Has P w K mg base 1 "renamed" ["harm","names"] ydr:=by
  refine Has.of F ye5 (fun vs H Q E h=>?_) (fun f cdv A outer s H vs Q E hr h=>?_)
  · obtain ⟨v,h,ns,d,kvs,f,rfl,_⟩:=h
    rfl
  · obtain ⟨v,h,ns,d,kvs,f,rfl,⟨a,rfl,ha⟩,ok,hd,hn,k⟩:=h
    have sc:=ye5
    refine ⟨_,(qap (ybt (i:=2) sc.nd rfl (Or.inl rfl) (ybz (yaa (qbt qbl (pv 0) yab (fun _ _=>rfl)) qac)))
      (qap (qf1 PassesOwn.never rfl (qgc rfl qb9 (yaa (qbt (qfx (D:=tabP)) (yau (v:=.ref aP) rfl gP rfl) (qbt qbl (pv 0) yab (fun _ _=>rfl)) (fun _ _=>rfl)) (yaa (ybc ycr (pv 0) (qas yab) qa0) qac))) (qe4 rfl (yay (yam (i:=3) sc.nd rfl (Or.inl rfl)) (yay (yam (i:=4) sc.nd rfl (Or.inl rfl)) ycl)))
        (yan (qc5 (yew PySem.F.plainAttrs_list PySem.F.slot_list_append PySem.F.type_list_append qdi (pv 2) (yaa (pe_ifExp (qbf qbz (pv 3) qah (yak _)) (pe_dget (hu_of hr) (pv 1) (pv 4) (fun _ _=>rfl)) (pv 4)) qac)))))
      (yan (qa9 (ybj qda rfl (B.of rfl) boot_tuple (yaa (pv 2) qac)))))),?_⟩
    have z1:1≤sizeLine:=by decide
    refine ⟨_,rfl,a,_,_,_,rfl,rfl,SqT.of ha,yag 0 rfl,z1,fun p hp=>?_⟩
    generalize hG1:upd H p _=H1
    have s1:Same H H1:=by rw [← hG1]; exact (Same.refl H).upd hp
    have f1:H1 p=some (.lst [.str h.w]):=by rw [← hG1]; exact qaa
    refine ⟨_,rfl,a,_,_,_,rfl,rfl,SqT.of (s1 _ _ ha),yag 0 rfl,aP,h.w,_,rfl,rfl,TP,ok.tab,fun pn hpn=>?_⟩
    refine ⟨_,rfl,_,rfl,a,_,rfl,SqT.of (s1 _ _ ha),yfi h,fun q hq=>?_⟩
    rw [qd7]
    generalize hG2:upd H1 q _=H2
    have s2:Same H1 H2:=by rw [← hG2]; exact (Same.refl H1).upd hq
    have f2:H2 q=some (.tup (h.c.map V.int++h.r)):=by rw [← hG2]; exact qaa
    have npq:q≠p:=fun z=>by subst z; rw [f1] at hq; cases hq
    refine ⟨true,true,pn,q,_,_,rfl,hpn _,SqT.of f2,?_⟩
    have hlen:((h.c.map f).map V.int++h.r).length=(yaq h.c.length ns).length:=by
      have:=ok.len
      simp only [List.length_append,List.length_map] at this ⊢
      exact this
    refine for_zip (K:=K) (ok.len.symm) (fun i σ H'=>∃ q3 q4:Option V,σ=[some (.ref a),some (.ref d),some (.ref p),q3,q4]∧Same H H'∧H' q=some (.tup (h.c.map V.int++h.r))∧H' p=some (.lst (.str h.w :: ((h.c.map f).map V.int++h.r).take i))) ⟨_,_,rfl,s1.trans s2,f2,s2 _ _ f1⟩ (fun i σ H' _ ⟨_,_,_,_,e,_⟩=>⟨hpn _,SqT.of e⟩) ?_ ?_
    · rintro i x y pp σ H3 hx hy ⟨q3,q4,rfl,s3,e3,e4⟩ hpp
      refine ⟨pp,_,rfl,SqT.of qaa,rfl,?_⟩
      have s4:Same H3 (upd H3 pp (.tup [x,y])):=(Same.refl H3).upd hpp
      revert s4
      generalize upd H3 pp (.tup [x,y])=H4
      intro s4
      refine ⟨_,_,rfl,_,_,rfl,rfl,?_⟩
      have hil:i < (yaq h.c.length ns).length:=(List.getElem?_eq_some_iff.mp hx).1
      have hsz:(V.str h.w :: ((h.c.map f).map V.int++h.r).take i).length < 64:=by
        have:=ok.cl
        have:=ok.rl
        have:=ok.rest.len
        simp
        omega
      have fin:∀ v,((h.c.map f).map V.int++h.r)[i]?=some v→∃ q3 q4:Option V,[some (V.ref a),some (V.ref d),some (V.ref p),some x,some y]=[some (.ref a),some (.ref d),some (.ref p),q3,q4]∧Same H (upd H4 p (.lst ((V.str h.w :: ((h.c.map f).map V.int++h.r).take i)++[v])))∧(upd H4 p (.lst ((V.str h.w :: ((h.c.map f).map V.int++h.r).take i)++[v]))) q=some (.tup (h.c.map V.int++h.r))∧(upd H4 p (.lst ((V.str h.w :: ((h.c.map f).map V.int++h.r).take i)++[v]))) p=some (.lst (.str h.w :: ((h.c.map f).map V.int++h.r).take (i + 1))):=fun v hv=>
        ⟨_,_,rfl,(s3.trans s4).at hp,by rw [qaf npq]; exact s4 _ _ e3,by rw [qaa,List.take_add_one,hv]; rfl⟩
      refine ⟨_,rfl,.inl ⟨rfl,_,SqL.of (s4 _ _ e4)⟩,?_⟩
      rcases ok.cellAt hx hy with ⟨rfl,c,hc,rfl⟩ | ⟨hge,hh⟩
      · refine ⟨_,rfl,rfl,_,rfl,iteB (by decide +kernel) ?_⟩
        have hcl:i < h.c.length:=(List.getElem?_eq_some_iff.mp hc).1
        refine ⟨_,rfl,_,rfl,d,.int (f c),rfl,?_,p,_,_,rfl,rfl,s4 _ _ e4,qbw (by omega),fin (.int (f c)) ?_⟩
        · have:=hn c (List.mem_of_getElem? hc)
          unfold Nms at this
          rw [← this]
          exact DGet.k (k:=.inl c) ((s3.trans s4) _ _ hd)
        · rw [List.getElem?_append_left (by simpa using hcl),List.getElem?_map,List.getElem?_map,hc]; rfl
      · have hxn:∃ nm,x=.str nm∧nm≠"cell":=by
          rcases hh with ⟨rfl,_⟩ | ⟨rfl,_⟩
          · exact ⟨_,rfl,by decide +kernel⟩
          · exact ⟨_,rfl,by decide +kernel⟩
        obtain ⟨nm,rfl,hnm⟩:=hxn
        refine ⟨_,rfl,rfl,_,rfl,iteN (by simpa using hnm) ?_⟩
        refine ⟨_,rfl,p,_,_,rfl,rfl,s4 _ _ e4,qbw (by omega),fin y ?_⟩
        rw [List.getElem?_append_right (by simpa using hge)] at hy ⊢
        simpa using hy
    · rintro σ H3 ⟨q3,q4,rfl,s3,e3,e4⟩
      rw [← hlen,List.take_length] at e4
      exact ⟨_,rfl,p,_,rfl,.inl ⟨SqL.of e4,fun l hl=>k l _ (s3.upd hl) (s3.free hl) qaa⟩⟩
end
end Mh
set_option Elab.async false
set_option linter.all false
set_option maxRecDepth 100000
set_option maxHeartbeats 4000000
namespace Mh
open PySem L2 PyProof.Rows Mx
def ownC (hs:List Hm):List Int:=(uniq (allC hs)).mergeSort (fun a b=>decide (a≤b))
theorem ycw (hs:List Hm):(ownC hs).Perm (uniq (allC hs)):=List.mergeSort_perm _ _
theorem own_rise (hs:List Hm):(ownC hs).Pairwise (·≤·):=by
  have:=List.pairwise_mergeSort (le:=fun (a b:Int)=>decide (a≤b)) (fun a b c h1 h2=>by simp at h1 h2 ⊢; omega) (fun a b=>by simp; omega) (uniq (allC hs))
  exact this.imp fun h=>by simpa using h
theorem qha {hs:List Hm} {ns:List Int} (h1:ns.Perm (uniq (allC hs))) (h2:ns.Pairwise (·≤·)):ns=ownC hs:=yi2 (h1.trans (ycw hs).symm) h2 (own_rise hs)
theorem own_nd (hs:List Hm):(ownC hs).Nodup:=(ycw hs).nodup_iff.mpr (ydn _)
theorem ygi {hs:List Hm} {h:Hm} {c:Int} (hh:h∈hs) (hc:c∈h.c):c∈ownC hs:=(ycw hs).mem_iff.mpr ((yd6 _ c).mpr (List.mem_flatMap.mpr ⟨h,hh,hc⟩))
theorem qeq {hs:List Hm} {S:List Int} (ok:okHs hs S):(ownC hs).length≤3:=by
  rw [(ycw hs).length_eq]
  exact ok.few (l:=hs) (fun h hh=>hh)
def plF (own cl:List Int) (c:Int):Int:=cl.getD (own.idxOf c) 0
theorem HsV.upL {H:Hp} {us:List V} {hs:List Hm} {D:Addr} {xs:List V} {o:HO} (x:HsV H us hs) (hD:H D=some (.lst xs)):HsV (L2.upd H D o) us hs:=⟨x.len,fun i v h a b=>by
  obtain ⟨z,e,hz⟩:=x.at_ i v h a b
  exact ⟨z,e,by rw [qaf (fun q=>by subst q; rw [hD] at hz; cases hz)]; exact hz⟩⟩
section
variable {P:Program} {w:World} {K:PySem.W.Frag} {mg:Str→Option Value} {base:Heap}
def yfs:Sp:=fun vs H Q _=>∃ L us hs S Cl cl,vs=[.ref L,.ref Cl]∧H L=some (.lst us)∧HsV H us hs∧okHs hs S∧H Cl=some (.lst ((cl:List Int).map V.int))∧(ownC hs).length≤cl.length∧cl.length≤64∧
  ∀ (D:Addr) (us':List V) (H':Hp),Same H H'→H D=none→H' D=some (.lst us')→HsV H' us' (hs.map (rnH (plF (ownC hs) cl)))→Q (.ref D) H'
abbrev ycg:Stmt:=top 34
theorem qdg:FnScope ["harms","cells","names"] ["harms","cells"] (yac ycg):=⟨rfl,rfl,rfl,by decide +kernel,rfl,by decide +kernel,by decide +kernel⟩
theorem qid (B:Bl mg) (qb9:mg "zip" = none) (ybl:Has P w K mg base 7 "cells_of" ["harms"] yc7) (qej:Has P w K mg base 1 "renamed" ["harm","names"] ydr) (F:FnAt K mg "placed" ycg ["harms","cells"]):Has P w K mg base 8 "placed" ["harms","cells"] yfs:=by
  refine Has.ofQ F qdg (fun vs H Q E h=>?_) (fun f cdv A outer s H vs Q E hr h=>?_)
  · obtain ⟨L,us,hs,S,Cl,cl,rfl,_⟩:=h
    rfl
  · obtain ⟨L,us,hs,S,Cl,cl,rfl,hL,hv,ok,hCl,hlen,hc64,k⟩:=h
    have sc:=qdg
    refine ⟨_,(qat rfl (qad (qam (i:=2) sc.nd rfl (Or.inr rfl) (qab (ye0 rfl rfl (B.of rfl) rfl qb9 (yaa (yaj ybl hr (yaa (pv 0) qac)) (yaa (pv 1) qac)))))
      (yae (yai (qab (ybw rfl (ya1 rfl) (M:=["harm","names"]) (ix:=[none,some 2]) (qch (pv 0)) (fun _ _ _ _=>(yam (i:=0) (show List.Nodup (["harm","names"]:List Str) by decide +kernel) rfl (Or.inl rfl))) (fun _ _ _ _=>ycq) (fun _ _ _ _=>(yaj qej hr (yaa (pv 0) (yaa (pv 1) qac)))))))))),?_⟩
    have o3:=qeq ok
    have hcz:cl.length≤sizeLine:=Nat.le_of_lt (qbw (by omega))
    refine ⟨_,rfl,L,us,hs,S,rfl,hL,hv,ok,fun D0 ns H1 s1 nD0 eD0 hp1 hp2=>?_⟩
    have:=qha hp1 hp2
    subst this
    refine ⟨_,rfl,false,false,D0,Cl,(ownC hs).map Sum.inl,cl.map V.int,rfl,?_,SqL.of (s1 _ _ hCl),by rw [List.length_map]; exact hcz,fun d hd=>?_⟩
    · rw [List.map_map]
      exact SqL.of eD0
    generalize hG2:upd H1 d _=H2
    have s2:Same H1 H2:=by rw [← hG2]; exact (Same.refl H1).upd hd
    have f2:H2 d=some (.dK (dzip ((ownC hs).map Sum.inl) (cl.map V.int) (min ((ownC hs).map (Sum.inl:Int→Key)).length (cl.map V.int).length))):=by rw [← hG2]; exact qaa
    have s12:=s1.trans s2
    have hL2:=s12 _ _ hL
    have hv2:=hv.same s12
    have ndk:((ownC hs).map (Sum.inl:Int→Key)).Nodup:=List.Pairwise.map Sum.inl (fun a b h z=>h (Sum.inl.inj z)) (own_nd hs)
    have hNms:∀ h∈hs,∀ c∈h.c,Nms (dzip ((ownC hs).map Sum.inl) (cl.map V.int) (min ((ownC hs).map (Sum.inl:Int→Key)).length (cl.map V.int).length)) (plF (ownC hs) cl) c:=fun h hh c hc=>by
      have hm:=ygi hh hc
      have hi:(ownC hs).idxOf c < (ownC hs).length:=List.idxOf_lt_length_iff.mpr hm
      have hg:(ownC hs)[(ownC hs).idxOf c]?=some c:=by rw [List.getElem?_eq_getElem hi,List.getElem_idxOf]
      refine yfh ndk _ (by simp; omega) (by simp; omega) ((ownC hs).idxOf c) _ _ (by simp; omega) (by rw [List.getElem?_map,hg]; rfl) ?_
      rw [List.getElem?_map,List.getElem?_eq_getElem (by omega)]
      unfold plF
      rw [List.getD_eq_getElem?_getD,List.getElem?_eq_getElem (by omega)]
      rfl
    refine ⟨_,rfl,L,rfl,⟨_,SqL.of hL2⟩,fun D hD=>yb3 (n:=us.length) (fun i H'=>Same H2 H'∧∃ us',H' D=some (.lst us')∧HsV H' us' ((hs.take i).map (rnH (plF (ownC hs) cl)))) ⟨(Same.refl H2).upd hD,[],qaa,⟨rfl,fun i v h a b=>by simp at a⟩⟩ ?_ ?_⟩
    · rintro H3 ⟨s3,us',e3,hv3⟩
      refine ⟨⟨_,SqL.of (s3 _ _ hL2),Nat.le_refl _⟩,?_⟩
      rw [hv.len,List.take_length] at hv3
      exact k D us' H3 (s12.trans s3) (s12.free hD) e3 hv3
    · rintro i H3 hi ⟨s3,us',e3,hv3⟩
      refine ⟨⟨_,_,SqL.of (s3 _ _ hL2),List.getElem?_eq_getElem hi⟩,?_⟩
      rintro x H4 ⟨rfl,hx⟩
      have hx':=hx _ (SqL.of (s3 _ _ hL2))
      obtain ⟨g,hg,hat⟩:=hv2.get hx'
      have hgm:=List.mem_of_getElem? hg
      obtain ⟨nn,og⟩:=ok.ok g hgm
      refine ⟨ya2.set (ya2.refl _) rfl,yes ?_⟩
      refine ⟨_,rfl,_,rfl,x,g,nn,d,_,plF (ownC hs) cl,rfl,HAt.same s3 hat,og,s3 _ _ f2,hNms g hgm,fun a5 H5 s5 n5 e5=>?_⟩
      have hul:=hv3.len
      rw [List.length_map,List.length_take] at hul
      refine ⟨us',s5 _ _ e3,qbw (by have:=ok.len; omega),(s3.trans s5).at hD,us'++[.ref a5],qaa,?_⟩
      rw [List.take_add_one,hg,List.map_append]
      exact ((hv3.same s5).snoc ⟨a5,rfl,e5⟩).upL (s5 _ _ e3)
end
end Mh
set_option Elab.async false
set_option linter.all false
set_option maxRecDepth 100000
set_option maxHeartbeats 4000000
namespace Mh
open PySem L2 PyProof.Rows Mx
theorem rn_congr {f g:Int→Int} {h:Hm} (e:∀ c∈h.c,f c=g c):rnH f h=rnH g h:=by
  unfold rnH
  rw [List.map_congr_left e]
theorem qin {f g:Int→Int} {hs:List Hm} (e:∀ h∈hs,∀ c∈h.c,f c=g c):hs.map (rnH f)=hs.map (rnH g):=List.map_congr_left fun h hh=>rn_congr (e h hh)
def ixF (own:List Int) (c:Int):Int:=(own.idxOf c:Nat)
section
variable {P:Program} {w:World} {K:PySem.W.Frag} {mg:Str→Option Value} {base:Heap}
def qh9:Sp:=fun vs H Q _=>∃ L us hs S,vs=[.ref L]∧H L=some (.lst us)∧HsV H us hs∧okHs hs S∧
  ∀ (D:Addr) (us':List V) (H':Hp),Same H H'→H D=none→H' D=some (.lst us')→HsV H' us' (hs.map (rnH (ixF (ownC hs))))→Q (.ref D) H'
abbrev ycj:Stmt:=top 35
theorem ydh:FnScope ["harms"] ["harms"] (yac ycj):=⟨rfl,rfl,rfl,by decide +kernel,rfl,by decide +kernel,by decide +kernel⟩
theorem yih (B:Bl mg) (ybl:Has P w K mg base 7 "cells_of" ["harms"] yc7) (ydb:Has P w K mg base 8 "placed" ["harms","cells"] yfs) (F:FnAt K mg "little" ycj ["harms"]):Has P w K mg base 9 "little" ["harms"] qh9:=by
  refine Has.ofQ F ydh (fun vs H Q E h=>?_) (fun f cdv A outer s H vs Q E hr h=>?_)
  · obtain ⟨L,us,hs,S,rfl,_⟩:=h
    rfl
  · obtain ⟨L,us,hs,S,rfl,hL,hv,ok,k⟩:=h
    have sc:=ydh
    refine ⟨_,(qat rfl (yae (yai (qaq ydb hr (yal (qab (pv 0)) (yga (qab (ydv hr.hd rfl (B.of rfl) rfl (B.of rfl) (yaa (qae yaf rfl (B.of rfl) boot_len (yaa (yaj ybl hr (yaa (pv 0) qac)) qac)) qac))) yad)))))),?_⟩
    have o3:=qeq ok
    refine ⟨_,rfl,_,rfl,L,us,hs,S,rfl,hL,hv,ok,fun D0 ns H1 s1 nD0 eD0 hp1 hp2=>?_⟩
    have:=qha hp1 hp2
    subst this
    refine ⟨D0,_,rfl,.inl (SqL.of eD0),(ownC hs).length,by rw [List.length_map],by omega,fun l hl=>?_⟩
    generalize hG2:upd H1 l _=H2
    have s2:Same H1 H2:=by rw [← hG2]; exact (Same.refl H1).upd hl
    have f2:H2 l=some (.lst (((List.range (ownC hs).length).map Int.ofNat).map V.int)):=by
      rw [← hG2]
      refine qaa.trans ?_
      unfold qgg
      rw [List.map_map]
      rfl
    have s12:=s1.trans s2
    refine ⟨L,us,hs,S,l,_,rfl,s12 _ _ hL,hv.same s12,ok,f2,by simp,by simp; omega,fun D us' H3 s3 nD eD hv3=>?_⟩
    refine k D us' H3 (s12.trans s3) (s12.free nD) eD ?_
    rw [← qin (f:=plF (ownC hs) ((List.range (ownC hs).length).map Int.ofNat)) (g:=ixF (ownC hs)) fun h hh c hc=>?_]
    · exact hv3
    · have hi:(ownC hs).idxOf c < (ownC hs).length:=List.idxOf_lt_length_iff.mpr (ygi hh hc)
      unfold plF ixF
      rw [List.getD_eq_getElem?_getD,List.getElem?_map,List.getElem?_range hi]
      rfl
end
end Mh
set_option Elab.async false
set_option linter.all false
set_option maxRecDepth 100000
namespace L2
open PySem PySem.Spec PyProof.Rows
section
variable {X:Cx}
def tInR (te:TE) (ta:TA):TE:=fun σ H Q=>te σ H fun x H1=>ta σ H1 fun vs H2=>∃ i b,x=.int i∧vs=[.int b]∧Q (.bl (decide (0≤i∧i < b))) H2
theorem yhn {e hi:Expr} {te:TE} {ta:TA} {p2 pos pos2:Pos} (hgr:Gl X "range") (hmr:X.mg "range" = none) (he:PE X e te) (ha:PA X [hi] ta)
    (hm:behindInMarks .In (.Call (.Name "range" p2) [hi] [] pos2)=false:=by with_unfolding_all rfl)
    (hs:starEach [hi] X.env=(false,eval hi X.env) :: starEach [] X.env:=by rfl) (hs2:(backTo pos2 (starEach [] X.env)).any (·.1)=false:=by rfl) :
    PE X (.Compare e [.In] [.Call (.Name "range" p2) [hi] [] pos2] pos) (tInR te ta):=by
  intro pins s σ H Q I h
  refine wpAny_Compare1 (thn (he pins s σ H _ I h) fun v0 s0 ⟨x0,H0,I0,r0,q0⟩=>?_) hm
  refine Call_ (ycu I0 hgr hmr boot_range (PyProof.Rows.callWith_type1 (thn (ha pos2 pins s0 σ H0 _ I0 q0) fun us s1 ⟨vs,H1,I1,r1,q1⟩=>?_) hs hs2))
  obtain ⟨i,b,e0,e,q⟩:=q1
  subst e e0
  obtain ⟨tx,rfl⟩:=r0
  cases r1 with
  | cons r1 rr=>
    cases rr
    obtain ⟨u,rfl⟩:=r1
    refine call_range_1 ?_
    have I2:Inv X pins σ H1 { s1 with heap:=s1.heap.push { cls:=.type "range",data:=.fields #[.int 0 s1.toks,.int b u,.int 1 (s1.toks + 1)] },toks:=s1.toks + 1 + 1 }:=I1.kept fun b o e=>Heap.get?_push_of_some _ e
    have hg:(s1.heap.push { cls:=.type "range",data:=.fields #[.int 0 s1.toks,.int b u,.int 1 (s1.toks + 1)] }).get? s1.heap.objs.size=some { cls:=.type "range",data:=.fields #[.int 0 s1.toks,.int b u,.int 1 (s1.toks + 1)] }:=Heap.get?_push_size _ rfl
    refine PySem.SeqRoads2.in_meets ⟨_,hg,rfl⟩ F.slot_range_contains F.entry_range_contains (F.args_range_contains_2 _ _) (qd5 _ 0 b 1 i _ u _ tx) ⟨hg,_,rfl,?_⟩
    rw [qi9]
    exact ⟨.bl _,H1,I2,rfl,q⟩
end
section
variable {X:Cx}
def rUpdate:V→List V→Hp→VK→Prop:=fun x vs H Q=>∃ (a b:Addr) (kvs more:List (Key×V)),x=.ref a∧vs=[.ref b]∧a≠b∧H a=some (.dK kvs)∧H b=some (.dK more)∧kvs.length + more.length≤sizeLine∧Q .non (upd H a (.dK (ybi kvs more)))
theorem qii:MtM X "dict.update" rUpdate:=by
  intro pins s σ H x vs v us Q I rx rv h
  obtain ⟨a,b,kvs,more,rfl,rfl,hab,ha,hb,hl,q⟩:=h
  cases rx
  obtain ⟨u,rfl,ru⟩:=rv.one
  cases ru
  obtain ⟨z1,m1,vs1,r1,dd1⟩:=dk_of I.hok ha
  obtain ⟨z2,m2,vs2,r2,dd2⟩:=dk_of I.hok hb
  have l1:=r1.length
  have l2:=r2.length
  refine call_meetsIn F.slot_dict_update dd1.typeIs F.entry_dict_update (F.args_dict_update_2 _ _) (meets_dict_update (qau X.prog X.w) a b hab m2) ⟨vs1,vs2,dd1,dd2,by omega,fun h' dd1' dd2' sb=>?_⟩
  have he:∃ q,h'.get? a=some q:=let ⟨q,_,_,hq,_⟩:=dd1'; ⟨q,hq⟩
  have hl':(ybi kvs more).length≤sizeLine:=by have:=ycf more kvs; omega
  exact ⟨.non,_,yi8 I (by rw [ha]; exact True.intro) sb he (dk_new hl' m1 (KV.merge r2 r1) dd1'),rfl,q⟩
end
end L2
set_option Elab.async false
set_option linter.all false
set_option maxRecDepth 100000
namespace L2
open PySem PySem.Spec PyProof.Rows
theorem qgd:plainId "sum" = true:=by decide +kernel
theorem qjh (a b:Value):checkBuiltinCall "sum" ⟨[a,b],[]⟩=pure ():=by first | rfl | kernel_rfl
section
variable {P:Program} {w:World} {A:Around} {E:Value→Shared→Prop} {s:Shared}
abbrev IsLs (h:Heap) (a:Addr) (xs:Array Value):Prop:=∃ n dd sl,h.get? a=some { cls:=.type "list",dict:=dd,data:=.seq xs n,slots:=sl }
theorem sumLoop {n l m:Nat} {items:Array Value} {ls:Nat→Addr} {xs:Nat→Array Value} {R:Result→Shared→Prop} (hh:A.handled=none) (hl:l < n) (hm:m=items.size) (hit:∀ i,i < m→items[i]?=some (.ref (ls i))∧ls i < n) (hz:∀ i,i < m→(xs i).size≤100) (hm4:m≤100) :
    ∀ r i (s:Shared) (T:Addr) (acc:Array Value),i + r=m→s.heap.IsListIter n l i→s.heap.IsList l items→IsLs s.heap (n + 1) #[.ref T]→IsLs s.heap T acc→T≠n→T≠n + 1→acc.size≤100 * i→(∀ i,i < m→IsLs s.heap (ls i) (xs i))→
      (∀ h' T',(r=0→T'=T∧∀ o,s.heap.get? T=some o→h'.get? T=some o)→(r≠0→n + 1 < T'∧h'.get? T'=some { cls:=.type "list",data:=.seq (((List.range' i r).map xs).foldl (·++·) acc) })→(∀ b o,b < n→s.heap.get? b=some o→h'.get? b=some o)→R (.ok (.ret (.ref T'))) { s with heap:=h' })→
      codeAny (model P w) A (.builtin "sum.loop" ⟨[.ref n,.ref (n + 1),rawInt 2,rawInt 0],[]⟩) R s:=by
  intro r
  induction r with
  | zero=>
    intro i s T acc hi it hL hs hT n1 n2 ha hx k
    refine codeAny_builtin F.entry_sum_loop ?_
    rw [Around.under_plainId F.plain_sum_loop _]
    show wpAny _ A.in1 (seqItems? (.ref (n + 1)) >>= _) _ _ _
    obtain ⟨nq,dq,sq,gq⟩:=hs
    refine wpAny_bind (wpAny_seqItems gq rfl ?_)
    show wpAny _ A.in1 ((pyNext (.ref n)).tryCatch _ >>= _) _ _ _
    refine wpAny_bind (wpAny_tryCatch (wpAny_pyNext_list_end (by simpa using hh) it hL (by simp; omega) fun h' eb=>?_))
    exact wpAny_pure (k h' T (fun _=>⟨rfl,fun o g=>eb _ _ n1 g⟩) (fun z=>absurd rfl z) fun b o hb g=>eb b o (Nat.ne_of_lt hb) g)
  | succ r ih=>
    intro i s T acc hi it hL hs hT n1 n2 ha hx k
    obtain ⟨hi1,hi2⟩:=hit i (by omega)
    refine codeAny_builtin F.entry_sum_loop ?_
    rw [Around.under_plainId F.plain_sum_loop _]
    show wpAny _ A.in1 (seqItems? (.ref (n + 1)) >>= _) _ _ _
    obtain ⟨nq,dq,sq,gq⟩:=hs
    refine wpAny_bind (wpAny_seqItems gq rfl ?_)
    show wpAny _ A.in1 ((pyNext (.ref n)).tryCatch _ >>= _) _ _ _
    refine wpAny_bind (wpAny_tryCatch (wpAny_pyNext_list_item it hL hi1 fun h1 it1 sb1=>?_))
    show wpAny _ A.in1 ((holding [Value.ref (ls i)] (binaryOp .Add (.ref T) (.ref (ls i)))).attempt >>= _) _ _ _
    refine wpAny_bind (wpAny_attempt (wpAny_holding ?_))
    have up1:∀ b o,b≠n→s.heap.get? b=some o→h1.get? b=some o:=fun b o hb g=>(sb1.2 b hb).trans g
    obtain ⟨nT,dT,sT,gT⟩:=hT
    obtain ⟨nx,dx,sx,gx⟩:=hx i (by omega)
    have gT1:=up1 _ _ n1 gT
    have gx1:=up1 _ _ (Nat.ne_of_lt hi2) gx
    have zx:=hz i (by omega)
    refine concat_meets ⟨_,gT1,rfl⟩ ⟨_,gx1,rfl⟩ noFill_list_add seq_list_add PySem.F.slot_list_add PySem.F.entry_list_add (PySem.F.args_list_add_2 _ _) (list_addW T (ls i) acc (xs i) nT nx dT dx sT sx (by have:(sizeLine:Nat)=16777216:=sizeLine_eq; omega)) ⟨gT1,gx1,?_⟩
    generalize hG2:h1.push { cls:=.type "list",data:=.seq (acc++xs i) }=h2
    have up2:∀ b o,h1.get? b=some o→h2.get? b=some o:=fun b o g=>by rw [← hG2]; exact Heap.get?_push_of_some _ g
    have gN:h2.get? h1.objs.size=some { cls:=.type "list",data:=.seq (acc++xs i) }:=by rw [← hG2]; exact Heap.get?_push_size _ rfl
    clear hG2
    show wpAny _ A.in1 (updateSeq (n + 1) _ >>= _) _ _ _
    have gq2:=up2 _ _ (up1 _ _ (Nat.succ_ne_self n) gq)
    refine wpAny_bind (wpAny_updateSeq gq2 rfl ?_)
    generalize hG3:h2.update (n + 1) _=h3
    have up3:∀ b o,b≠n + 1→h2.get? b=some o→h3.get? b=some o:=fun b o hb g=>by rw [← hG3]; exact (Heap.get?_update_other _ _ (Ne.symm hb)).trans g
    have gq3:∃ nn,h3.get? (n + 1)=some { cls:=.type "list",dict:=dq,data:=.seq #[.ref h1.objs.size] nn,slots:=sq }:=by
      rw [← hG3]
      exact ⟨_,Heap.get?_update_self _ gq2 rfl⟩
    clear hG3
    obtain ⟨nq3,gq3⟩:=gq3
    refine wpAny_bind (wpAny_letGo ?_)
    show wpAny _ A.in1 (updateSeq (n + 1) _ >>= _) _ _ _
    refine wpAny_bind (wpAny_updateSeq gq3 rfl ?_)
    generalize hG4:h3.update (n + 1) _=h4
    have up4:∀ b o,b≠n + 1→h3.get? b=some o→h4.get? b=some o:=fun b o hb g=>by rw [← hG4]; exact (Heap.get?_update_other _ _ (Ne.symm hb)).trans g
    have gq4:∃ nn,h4.get? (n + 1)=some { cls:=.type "list",dict:=dq,data:=.seq #[.ref h1.objs.size] nn,slots:=sq }:=by
      rw [← hG4]
      exact ⟨_,Heap.get?_update_self _ gq3 rfl⟩
    clear hG4
    obtain ⟨nq4,gq4⟩:=gq4
    have szn:n + 1 < h1.objs.size:=Heap.lt_size (up1 _ _ (Nat.succ_ne_self n) gq)
    have up24:∀ b o,b≠n + 1→h2.get? b=some o→h4.get? b=some o:=fun b o hb g=>up4 b o hb (up3 b o hb g)
    have up14:∀ b o,b≠n + 1→h1.get? b=some o→h4.get? b=some o:=fun b o hb g=>up24 b o hb (up2 b o g)
    have up04:∀ b o,b < n→s.heap.get? b=some o→h4.get? b=some o:=fun b o hb g=>up14 b o (Nat.ne_of_lt (Nat.lt_succ_of_lt hb)) (up1 b o (Nat.ne_of_lt hb) g)
    refine wpAny_pure ⟨plainId_quiet F.plain_sum_loop _,?_⟩
    have lsx:∀ j,j < m→IsLs h4 (ls j) (xs j):=fun j hj=>by
      obtain ⟨a1,a2,a3,g⟩:=hx j hj
      exact ⟨a1,a2,a3,up04 _ _ (hit j hj).2 g⟩
    refine ih (i + 1) _ h1.objs.size (acc++xs i) (by omega) ?_ ?_ ⟨_,_,_,gq4⟩ ⟨_,_,_,up24 _ _ (Nat.ne_of_gt szn) gN⟩ (Nat.ne_of_gt (Nat.lt_of_succ_lt szn)) (Nat.ne_of_gt szn) (by rw [Array.size_append]; omega) lsx fun h' T' hT0 hT1 kp=>?_
    · obtain ⟨o,go,gr⟩:=it1
      exact ⟨o,up14 _ _ (Nat.ne_of_lt (Nat.lt_succ_self n)) go,gr⟩
    · obtain ⟨o,go,gr⟩:=hL
      exact ⟨o,up04 _ _ hl go,gr⟩
    · refine k h' T' (fun z=>absurd z (Nat.succ_ne_zero r)) (fun _=>?_) fun b o hb g=>kp b o hb (up04 b o hb g)
      rw [List.range'_succ,List.map_cons,List.foldl_cons]
      by_cases hr:r=0
      · subst hr
        obtain ⟨e,g⟩:=hT0 rfl
        subst e
        exact ⟨szn,g _ (up24 _ _ (Nat.ne_of_gt szn) gN)⟩
      · exact hT1 hr
theorem qhs {l s0 m:Nat} {items:Array Value} {ls:Nat→Addr} {xs:Nat→Array Value} {Q:Value→Shared→Prop} (hh:A.handled=none) (hL:s.heap.IsList l items) (h0:IsLs s.heap s0 #[]) (hm:m=items.size) (hit:∀ i,i < m→items[i]?=some (.ref (ls i))) (hx:∀ i,i < m→IsLs s.heap (ls i) (xs i)) (hz:∀ i,i < m→(xs i).size≤100) (hm4:m≤100)
    (k:∀ h' T',(m=0→T'=s0∧∀ o,s.heap.get? s0=some o→h'.get? s0=some o)→(m≠0→s.heap.objs.size≤T'∧h'.get? T'=some { cls:=.type "list",data:=.seq (((List.range' 0 m).map xs).foldl (·++·) #[]) })→(∀ b o,s.heap.get? b=some o→h'.get? b=some o)→Q (.ref T') { s with heap:=h' }) :
    wpAny (model P w) A (call (.builtin "sum") [.ref l,.ref s0]) Q E s:=by
  refine wpAny_call (codeAny_of_tree ?_)
  show wpAny _ A.in1 (do checkBuiltinCall "sum" ⟨[.ref l,.ref s0],[]⟩; again (.builtin "sum" ⟨[.ref l,.ref s0],[]⟩)) _ _ s
  refine wpAny_bind (wpAny_of_eq (qjh _ _) (wpAny_pure ⟨plainId_quiet qgd _,?_⟩))
  refine codeAny_builtin F.entry_sum ?_
  rw [Around.under_plainId qgd _]
  obtain ⟨n0,d0,sl0,g0⟩:=id h0
  have hT0:s.TypeIs (.ref s0) "list":=⟨_,g0,rfl⟩
  unfold Builtin.sum
  dsimp only
  rw [if_neg (show ¬ ([Value.ref l,Value.ref s0].length + ([]:List (Str×Value)).length > 2) from by simp)]
  refine wpAny_bind (wpAny_of_eq (a:=[some (Value.ref s0)]) (by rfl) ?_)
  dsimp only
  refine wpAny_bind (wpAny_pyIter_list hL ?_)
  generalize hG1:s.heap.push { cls:=.type "list_iterator",data:=.fields #[.ref l,.int 0 0] }=h1
  have up1:∀ b o,s.heap.get? b=some o→h1.get? b=some o:=fun b o g=>by rw [← hG1]; exact Heap.get?_push_of_some _ g
  have it1:h1.IsListIter s.heap.objs.size l 0:=by rw [← hG1]; exact ⟨_,Heap.get?_push_size _ rfl,rfl,rfl⟩
  have z1:h1.objs.size=s.heap.objs.size + 1:=by rw [← hG1]; exact Heap.size_push ..
  clear hG1
  have hT1:Shared.TypeIs { s with heap:=h1 } (.ref s0) "list":=⟨_,up1 _ _ g0,rfl⟩
  refine wpAny_bind (wpAny_pure ?_)
  simp only [List.forIn_cons,List.forIn_nil]
  refine wpAny_bind (wpAny_bind (wpAny_bind (wpAny_isInstance (T:="list") (b:=false) hT1 (by rw [isSubtype_type]; kernel_rfl) ?_)))
  rw [if_neg Bool.false_ne_true]
  refine wpAny_pure ?_
  refine wpAny_bind (wpAny_bind (wpAny_isInstance (T:="list") (b:=false) hT1 (by rw [isSubtype_type]; kernel_rfl) ?_))
  rw [if_neg Bool.false_ne_true]
  refine wpAny_pure ?_
  refine wpAny_bind (wpAny_bind (wpAny_isInstance (T:="list") (b:=false) hT1 (by rw [isSubtype_type]; kernel_rfl) ?_))
  rw [if_neg Bool.false_ne_true]
  refine wpAny_pure (wpAny_pure ?_)
  refine wpAny_bind (wpAny_newList ?_ (show 1≤sizeLine by decide))
  generalize hG2:h1.push _=h2
  have up2:∀ b o,h1.get? b=some o→h2.get? b=some o:=fun b o g=>by rw [← hG2]; exact Heap.get?_push_of_some _ g
  have g2:h2.get? (s.heap.objs.size + 1)=some { cls:=.type "list",data:=.seq #[.ref s0] }:=by rw [← hG2,← z1]; exact Heap.get?_push_size _ rfl
  clear hG2
  have lt0:s0 < s.heap.objs.size:=Heap.lt_size g0
  have ll:l < s.heap.objs.size:=by obtain ⟨o,go,_⟩:=hL; exact Heap.lt_size go
  refine wpAny_pure ⟨plainId_quiet F.plain_sum_loop _,?_⟩
  show codeAny _ A (.builtin "sum.loop" ⟨[.ref s.heap.objs.size,.ref h1.objs.size,rawInt 2,rawInt 0],[]⟩) _ _
  rw [z1]
  refine sumLoop (n:=s.heap.objs.size) (l:=l) (m:=m) (items:=items) (ls:=ls) (xs:=xs) hh ll hm (fun i hi=>⟨hit i hi,?_⟩) hz hm4 m 0 { s with heap:=h2 } s0 #[] (by omega) ?_ ?_ ⟨_,_,_,g2⟩ ⟨_,_,_,up2 _ _ (up1 _ _ g0)⟩ (Nat.ne_of_lt lt0) (Nat.ne_of_lt (Nat.lt_succ_of_lt lt0)) (by simp) (fun i hi=>?_) fun h' T' hA hB kp=>?_
  · obtain ⟨_,_,_,g⟩:=hx i hi
    exact Heap.lt_size g
  · obtain ⟨o,go,gr⟩:=it1
    exact ⟨o,up2 _ _ go,gr⟩
  · obtain ⟨o,go,gr⟩:=hL
    exact ⟨o,up2 _ _ (up1 _ _ go),gr⟩
  · obtain ⟨a1,a2,a3,g⟩:=hx i hi
    exact ⟨a1,a2,a3,up2 _ _ (up1 _ _ g)⟩
  · refine k h' T' (fun z=>⟨(hA z).1,fun o g=>(hA z).2 o (up2 _ _ (up1 _ _ g))⟩) (fun z=>⟨Nat.le_of_lt (Nat.lt_of_succ_lt (hB z).1),(hB z).2⟩) fun b o g=>kp b o (Heap.lt_size g) (up2 _ _ (up1 _ _ g))
end
section
variable {X:Cx}
theorem qf5:∀ (l:List (Array Value)) (acc:Array Value),(l.foldl (·++·) acc).toList=acc.toList++(l.map Array.toList).flatten
  | [],acc=>by simp
  | a :: l,acc=>by rw [List.foldl_cons,qf5 l,Array.toList_append,List.map_cons,List.flatten_cons,List.append_assoc]
def rSumLL:List V→Hp→VK→Prop:=fun vs H Q=>∃ (l s0:Addr) (us:List V) (xss:List (List V)),vs=[.ref l,.ref s0]∧H l=some (.lst us)∧H s0=some (.lst [])∧us.length=xss.length∧us.length≤100∧(∀ (i:Nat) v xs,us[i]?=some v→xss[i]?=some xs→xs.length≤100∧∃ a,v=.ref a∧H a=some (.lst xs))∧(us=[]→Q (.ref s0) H)∧(us≠[]→∀ p,H p=none→Q (.ref p) (upd H p (.lst xss.flatten)))
theorem qev (hc:X.calm=true):ycc X (.builtin "sum") rSumLL:=by
  intro pins s σ H xs us Q I r h
  obtain ⟨l,s0,vs,xss,rfl,hL,h0,hlen,h100,hi,q0,q1⟩:=h
  cases r with
  | cons r rr=>
    cases rr with
    | cons r2 rr=>
      cases rr
      cases r
      cases r2
      obtain ⟨z,its,n,rv,hl,e⟩:=I.lstM hL
      obtain ⟨z0,its0,n0,rv0,hl0,e0⟩:=I.lstM h0
      have hits0:its0=[]:=by cases rv0; rfl
      subst hits0
      -- the lists' addresses and what lies there
      have ax:∀ i:Nat,i < vs.length→∃ (a:Addr) (ys:List Value),its[i]?=some (.ref a)∧(∃ nn,s.heap.get? a=some { cls:=.type "list",data:=.seq ys.toArray nn })∧Vals (xss.getD i []) ys∧ys.length≤100:=fun i hi'=>by
        have h1:vs[i]?=some vs[i]:=List.getElem?_eq_getElem hi'
        have h2:xss[i]?=some (xss[i]'(by omega)):=List.getElem?_eq_getElem _
        obtain ⟨hz,a,ea,ha⟩:=hi i _ _ h1 h2
        obtain ⟨u,hu,ru⟩:=rv.get h1
        rw [ea] at ru
        cases ru
        obtain ⟨z2,ys,n2,rv2,hl2,e2⟩:=I.lstM ha
        refine ⟨a,ys,hu,⟨n2,e2⟩,?_,by omega⟩
        rw [List.getD_eq_getElem?_getD,h2]
        exact rv2
      have hvl:vs.length=its.length:=rv.length
      classical
      let ls:Nat→Addr:=fun i=>if h:i < vs.length then (ax i h).choose else 0
      let xs':Nat→Array Value:=fun i=>if h:i < vs.length then ((ax i h).choose_spec.choose).toArray else #[]
      have hls:∀ i (h:i < vs.length),its[i]?=some (.ref (ls i))∧(∃ nn,s.heap.get? (ls i)=some { cls:=.type "list",data:=.seq (xs' i) nn })∧Vals (xss.getD i []) (xs' i).toList∧(xs' i).size≤100:=fun i h=>by
        have hsp:=(ax i h).choose_spec.choose_spec
        have e1:ls i=(ax i h).choose:=dif_pos h
        have e2:xs' i=((ax i h).choose_spec.choose).toArray:=dif_pos h
        rw [e1,e2]
        simpa using hsp
      refine qhs (s:=s) (l:=l) (s0:=s0) (m:=vs.length) (items:=its.toArray) (ls:=ls) (xs:=xs') (I.ok.hd hc) ⟨_,e,rfl,n,rfl⟩ ⟨_,_,_,e0⟩ (by simp [hvl]) (fun i hi'=>by simpa using (hls i hi').1) (fun i hi'=>by obtain ⟨nn,g⟩:=(hls i hi').2.1; exact ⟨_,_,_,g⟩) (fun i hi'=>(hls i hi').2.2.2) h100 fun h' T' hA hB kp=>?_
      by_cases hm:vs.length=0
      · obtain ⟨eT,_⟩:=hA hm
        subst eT
        exact ⟨.ref T',H,I.kept (t':=s.toks) kp,rfl,q0 (List.length_eq_zero_iff.mp hm)⟩
      · obtain ⟨hT,gT⟩:=hB hm
        have fr:H T'=none:=I.hok.fresh hT
        have hA2:∀ (n:Nat) (k:Nat),n + k=vs.length→Vals (xss.drop k).flatten (((List.range' k n).map xs').map Array.toList).flatten:=by
          intro n
          induction n with
          | zero=>intro k hk; rw [List.drop_eq_nil_of_le (by omega)]; exact .nil
          | succ n ih=>
            intro k hk
            have hk':k < vs.length:=by omega
            have hk2:k < xss.length:=by omega
            rw [List.drop_eq_getElem_cons hk2,List.flatten_cons,List.range'_succ,List.map_cons,List.map_cons,List.flatten_cons]
            refine Vals.append ?_ (ih (k + 1) (by omega))
            have:=(hls k hk').2.2.1
            rwa [List.getD_eq_getElem?_getD,List.getElem?_eq_getElem hk2] at this
        have hv:Vals xss.flatten (((List.range' 0 vs.length).map xs').foldl (·++·) #[]).toList:=by
          rw [qf5]
          exact hA2 vs.length 0 (by omega)
        refine ⟨.ref T',_,I.laid (a:=T') (o:=.lst xss.flatten) (t':=s.toks) kp hT ⟨?_,_,0,hv,by simpa using gT⟩,rfl,q1 (fun e=>hm (by rw [e]; rfl)) _ fr⟩
        have:∀ (l:List (List V)),(∀ x∈l,x.length≤100)→l.flatten.length≤100 * l.length:=by
          intro l
          induction l with
          | nil=>intro _; exact Nat.zero_le _
          | cons x l ih=>intro hx; rw [List.flatten_cons,List.length_append,List.length_cons]; have:=hx x (by simp); have:=ih fun y hy=>hx y (by simp [hy]); omega
        have h2:=this xss fun x hx=>by
          obtain ⟨i,hi2,rfl⟩:=List.mem_iff_getElem.mp hx
          exact (hi i _ _ (List.getElem?_eq_getElem (by omega)) (List.getElem?_eq_getElem hi2)).1
        exact Nat.le_trans h2 (Nat.le_trans (Nat.mul_le_mul_left 100 (by omega:xss.length≤100)) (by decide))
end
end L2
set_option Elab.async false
set_option linter.all false
set_option maxRecDepth 100000
set_option maxHeartbeats 4000000
namespace Mh
open PySem L2 PyProof.Rows Mx
def nmF (f:Str):Str:=if f="c" then "cell" else if f="v" then "bit" else "how"
section
variable {P:Program} {w:World} {K:PySem.W.Frag} {mg:Str→Option Value} {base:Heap}
abbrev ya6:Stmt:=top 42
theorem qcp:FnScope ["_law_thing","_law_form"] ["_law_thing","_law_form"] (yac ya6):=⟨rfl,rfl,rfl,by decide +kernel,rfl,by decide +kernel,by decide +kernel⟩
def yg2:Sp:=fun vs H Q _=>∃ v d f,vs=[v,.str f]∧AtX H v d∧(f="c"∨f="v"∨f="h")∧∀ H',Same H H'→Q (.bl (ybu (nmF f) d)) H'
theorem og_lpart (B:Bl mg) (F:FnAt K mg "_law_is_part" ya6 ["_law_thing","_law_form"]):Has P w K mg base 1 "_law_is_part" ["_law_thing","_law_form"] yg2:=by
  refine Has.ofQ F qcp (fun vs H Q E h=>?_) (fun f cdv A outer s H vs Q E hr h=>?_)
  · obtain ⟨v,d,f,rfl,_⟩:=h
    rfl
  · obtain ⟨v,d,f,rfl,hv,hf,q⟩:=h
    have sc:=qcp
    refine ⟨_,(qat rfl (qad (ya5 (yat qbz (qab (pv 1)) (qab qah) (yak _))
        (yae (yai (qab (qbb (qae yas rfl (B.of rfl) boot_isinstance (yaa (pv 0) (yaa (qa3 (v:=.ty "str") rfl (B.of rfl) boot_str rfl) qac))) (yb5 (yaz yb1 (pv 0) (yei (yaa qah (yaa qah qac))) (by with_unfolding_all rfl)))))))
        yar)
      (qad (ya5 (QW.pt (yfr (qe3 (yct (qar yas rfl (B.of rfl) boot_isinstance (yal (qab (pv 0)) (yal (qab (qa3 (v:=.ty "int") rfl (B.of rfl) boot_int rfl)) yad))))) (qeb (yct (qar yas rfl (B.of rfl) boot_isinstance (yal (qab (pv 0)) (yal (qab (qa3 (v:=.ty "bool") rfl (B.of rfl) boot_bool rfl)) yad)))))))
        (yae (yai (qab qex)))
        yar)
      (yae (yai (qab (yhn rfl (B.of rfl) (pv 0) (yaa (qbt qal (ybz (yaa yab (yaa yab qac))) (ybj yeg rfl (B.of rfl) boot_int (yaa (yaz qbz (pv 1) qah (yak _)) qac)) (fun _ _=>rfl)) qac)))))))),?_⟩
    have iq:∀ {i:Int},d=.int i→v=.int i:=fun {i} e=>by
      subst e
      rcases hv with h | ⟨e,_⟩
      · exact h.intEq
      · cases e
    refine ⟨_,rfl,rfl,_,rfl,?_⟩
    by_cases h1:f="h"
    · have e0:ybu (nmF f) d=oneD [.str "and",.str "or"] d:=by subst h1; rfl
      rw [e0] at q
      refine iteB (by rw [h1]; decide +kernel) ⟨_,rfl,_,_,_,_,rfl,hv.ty,qdp d,_,rfl,?_⟩
      cases hs:isStr d with
      | false=>
        have e:oneD [.str "and",.str "or"] d=false:=by cases d <;> first | rfl | cases hs
        rw [e] at q
        exact iteF (q H (Same.refl H))
      | true=>
        obtain ⟨x,rfl⟩:∃ x,d=.str x:=by cases d <;> first | exact ⟨_,rfl⟩ | cases hs
        have ev:v=.str x:=by
          rcases hv with h | ⟨e,_⟩
          · exact h.strEq
          · cases e
        subst ev
        refine iteT ⟨_,rfl,(by show 2≤sizeLine; decide),fun t ht=>⟨t,_,rfl,.inr (SqT.of qaa),rfl,by decide,?_⟩⟩
        exact q _ ((Same.refl H).upd ht)
    · refine iteN (by simpa using h1) ?_
      have hf2:f="c"∨f="v":=by
        rcases hf with h | h | h
        · exact .inl h
        · exact .inr h
        · exact absurd h h1
      have e0:qdx d=false→ybu (nmF f) d=false:=fun hw=>by
        rcases hf2 with h | h
        · subst h
          show yhs d=false
          clear hv q iq
          cases d <;> first | rfl | cases hw
        · subst h
          show bitD d=false
          clear hv q iq
          cases d <;> first | rfl | cases hw
      have e1:∀ i,ybu (nmF f) (.int i)=decide (0≤i∧i < (if f="v" then 2 else 64)):=fun i=>by
        rcases hf2 with h | h
        · subst h
          rfl
        · subst h
          show decide (i=0∨i=1)=decide (0≤i∧i < 2)
          rw [decide_eq_decide]
          omega
      refine ⟨_,rfl,_,_,_,_,rfl,hv.ty,qih d,_,rfl,?_⟩
      cases hi:isInt d with
      | false=>
        have e:qdx d=false:=by cases d <;> first | rfl | cases hi
        rw [e0 e] at q
        exact iteT (iteT (q H (Same.refl H)))
      | true=>
        refine iteF ⟨_,rfl,_,_,_,_,rfl,hv.ty,kit_bl d,_,rfl,?_⟩
        cases hb:isBl d with
        | true=>
          have e:qdx d=false:=by cases d <;> first | rfl | cases hb
          rw [e0 e] at q
          exact iteT (q H (Same.refl H))
        | false=>
          obtain ⟨i,rfl⟩:∃ i,d=.int i:=by cases d <;> first | exact ⟨_,rfl⟩ | (cases hi; done) | (cases hb; done)
          have ev:=iq rfl
          subst ev
          rw [e1] at q
          refine iteF ⟨_,rfl,(by show 2≤sizeLine; decide),fun t ht=>⟨_,rfl,rfl,.inr ⟨_,rfl,t,_,_,.int (if f="v" then 2 else 64),rfl,rfl,SqL.of qaa,?_,i,(if f="v" then 2 else 64),rfl,rfl,q _ ((Same.refl H).upd ht)⟩⟩⟩
          by_cases h:f="v"
          · subst h; decide +kernel
          · have h':¬ V.str f=V.str "v":=fun z=>h (by injection z)
            rw [if_neg h,decide_eq_false h']
            rfl
end
end Mh
set_option Elab.async false
set_option linter.all false
set_option maxRecDepth 100000
set_option maxHeartbeats 4000000
namespace Mh
open PySem L2 PyProof.Rows Mx
def fm1:List (Key×V):=[(.inr "stuck",.str "cv"),(.inr "slow",.str "cv"),(.inr "forgets",.str "cv"),(.inr "misreads",.str "cv"),(.inr "nowhere",.str "cv"),(.inr "turns",.str "ccv")]
def fm2:List (Key×V):=[(.inr "sets",.str "ccvv"),(.inr "keeps",.str "ccvv"),(.inr "other",.str "cc"),(.inr "both",.str "cch")]
def fm:List (Key×V):=fm1++fm2
theorem fm_is:ybi (ybi [] fm1) (ybi [] fm2)=fm:=by decide +kernel
def ybv (x:Str):Str:=match valV fm (.inr x) with | some (.str f)=>f | _=>"none"
theorem ygv {x:Str} (h:KTD.inKeys x tabP=true):x∈[("stuck" : Str),"slow","forgets","misreads","turns","sets","keeps","nowhere","other","both"]:=by
  simpa [tabP,KTD.inKeys] using h
theorem yhb:∀ x∈[("stuck" : Str),"slow","forgets","misreads","turns","sets","keeps","nowhere","other","both"],valV fm (.inr x)=some (.str (ybv x))∧ybv x≠"none"∧(ybv x).length=(nmOf x).length∧2≤(ybv x).length∧(ybv x).length≤4∧
    (∀ k,k < (ybv x).length→∃ c,(ybv x).cps.toList[k]?=some c∧((⟨#[c]⟩:Str)="c"∨(⟨#[c]⟩:Str)="v"∨(⟨#[c]⟩:Str)="h")∧(nmOf x)[k]?=some (nmF ⟨#[c]⟩))∧
    ∃ c,(ybv x).cps.toList[1]?=some c∧decide ((⟨#[c]⟩:Str)="c")=decide (qax x=2):=by
  have key:∀ x∈[("stuck" : Str),"slow","forgets","misreads","turns","sets","keeps","nowhere","other","both"],valV fm (.inr x)=some (.str (ybv x))∧ybv x≠"none"∧(ybv x).length=(nmOf x).length∧2≤(ybv x).length∧(ybv x).length≤4∧
    (∀ k,k < (ybv x).length→(((⟨#[(ybv x).cps.toList.getD k default]⟩:Str)="c"∨(⟨#[(ybv x).cps.toList.getD k default]⟩:Str)="v"∨(⟨#[(ybv x).cps.toList.getD k default]⟩:Str)="h")∧(nmOf x)[k]?=some (nmF ⟨#[(ybv x).cps.toList.getD k default]⟩)))∧
    decide ((⟨#[(ybv x).cps.toList.getD 1 default]⟩:Str)="c")=decide (qax x=2):=by decide +kernel
  intro x hx
  obtain ⟨a1,a2,a3,a4,a5,a6,a7⟩:=key x hx
  have gt:∀ k,k < (ybv x).length→(ybv x).cps.toList[k]?=some ((ybv x).cps.toList.getD k default):=fun k hk=>by
    have hk':k < (ybv x).cps.toList.length:=by rw [Array.length_toList]; exact hk
    rw [List.getD_eq_getElem?_getD,List.getElem?_eq_getElem hk']
    rfl
  exact ⟨a1,a2,a3,a4,a5,fun k hk=>⟨_,gt k hk,a6 k hk⟩,_,gt 1 (by omega),a7⟩
theorem form_out {x:Str} (h:KTD.inKeys x tabP=false):valV fm (.inr x)=none:=by
  unfold valV
  rw [List.find?_eq_none.mpr]
  · rfl
  · have key:fm.all (fun kv=>match kv.1 with | .inr y=>KTD.inKeys y tabP | _=>false)=true:=by decide +kernel
    intro kv hkv hc
    have h1:=List.all_eq_true.mp key kv hkv
    rw [of_decide_eq_true hc] at h1
    have h2:KTD.inKeys x tabP=true:=h1
    rw [h] at h2
    cases h2
theorem yen:∀ {nms:List Str} {ps:List PyData},ps.length=nms.length→(yav nms ps=true↔∀ k,k < nms.length→ybu (nms.getD k "") (ps.getD k .none)=true)
  | [],[],_=>⟨fun _ k hk=>by simp at hk,fun _=>rfl⟩
  | n :: ns,p :: ps,h=>by
    have ih:=yen (nms:=ns) (ps:=ps) (by simpa using h)
    show (ybu n p && yav ns ps)=true↔_
    rw [Bool.and_eq_true,ih]
    constructor
    · rintro ⟨a,b⟩ k hk
      cases k with
      | zero=>exact a
      | succ k=>exact b k (by simpa using hk)
    · intro a
      exact ⟨a 0 (by simp),fun k hk=>a (k + 1) (by simpa using hk)⟩
  | [],_ :: _,h=>by simp at h
  | _ :: _,[],h=>by simp at h
theorem ye6 {x:Str} {cs:List Int} {r:List V} {i:Int} (hi:i=((1 + cs.length:Nat):Int)):cutV (V.str x :: (cs.map V.int++r)) (some 1) (some i)=cs.map V.int:=by
  subst hi
  have hl:(V.str x :: (cs.map V.int++r)).length=1 + cs.length + r.length:=by simp; omega
  rw [show (1:Int)=((1:Nat):Int) from rfl,qi5,hl,show min (1 + cs.length) (1 + cs.length + r.length) - min 1 (1 + cs.length + r.length)=cs.length by omega,show min 1 (1 + cs.length + r.length)=1 by omega]
  rw [List.drop_succ_cons,List.drop_zero,List.take_append_of_le_length (by simp),List.take_of_length_le (by simp)]
theorem yhe (u:V) (ws:List V) {o:Option Int}:¬ (HT.sIx (u :: ws).length 0 (some 1)=0∧HT.sIx (u :: ws).length (u :: ws).length o=(u :: ws).length):=by
  rintro ⟨h0,_⟩
  unfold HT.sIx at h0
  simp at h0
theorem ite_both {c A B:Prop} [Decidable c] (a:A) (b:B):if c then A else B:=by
  split
  · exact a
  · exact b
section
variable {P:Program} {w:World} {K:PySem.W.Frag} {mg:Str→Option Value} {base:Heap}
abbrev qa7:Stmt:=top 43
theorem qcq:FnScope ["_law_thing","_law_forms","_law_form"] ["_law_thing"] (yac qa7):=⟨rfl,rfl,rfl,by decide +kernel,rfl,by decide +kernel,by decide +kernel⟩
def qd8:Sp:=fun vs H Q _=>∃ v d,vs=[v]∧AtW H v d∧(qbk d=false→∀ H',Same H H'→Q .non H')∧(qbk d=true→∀ (D:Addr) (H':Hp),Same H H'→H D=none→H' D=some (.lst ((yaw d).map V.int))→Q (.ref D) H')
theorem og_lharm (B:Bl mg) (qez:Has P w K mg base 1 "_law_is_part" ["_law_thing","_law_form"] yg2) (F:FnAt K mg "_law_is_harm" qa7 ["_law_thing"]):Has P w K mg base 2 "_law_is_harm" ["_law_thing"] qd8:=by
  refine Has.ofQ F qcq (fun vs H Q E h=>?_) (fun f cdv A outer s H vs Q E hr h=>?_)
  · obtain ⟨v,d,rfl,_⟩:=h
    rfl
  · obtain ⟨v,d,rfl,hv,q1,q2⟩:=h
    have sc:=qcq
    refine ⟨_,(qat rfl (qad (qam (i:=1) sc.nd rfl (Or.inl rfl) (qib (qbs (qab qah) (qab qah) (qbs (qab qah) (qab qah) (qbs (qab qah) (qab qah) (qbs (qab qah) (qab qah) (qbs (qab qah) (qab qah) (qbs (qab qah) (qab qah) qhx)))))) rfl rfl (List.cons_ne_nil _ _) (Nat.le_of_ble_eq_true rfl)))
      (qad (qfc (qe_bm PySem.F.plainAttrs_dict PySem.F.slot_dict_update PySem.F.type_dict_update qii (qab (pv 1)) (qfg (qib (qbs (qab qah) (qab qah) (qbs (qab qah) (qab qah) (qbs (qab qah) (qab qah) (qbs (qab qah) (qab qah) qhx)))) rfl rfl (List.cons_ne_nil _ _) (Nat.le_of_ble_eq_true rfl)) yad)))
      (qad (ya5 (QW.pt (yfr (qe3 (yct (qar yas rfl (B.of rfl) boot_isinstance (yal (qab (pv 0)) (yal (qab (qa3 (v:=.ty "tuple") rfl (B.of rfl) boot_tuple rfl)) yad))))) (yfr (yat qbz (qar yaf rfl (B.of rfl) boot_len (yal (qab (pv 0)) yad)) (qab yab) (yak _)) (qeb (qe3 (yct (qar yas rfl (B.of rfl) boot_isinstance (qcb (ya7 qbl (qab (pv 0)) (qab yab) (fun _ _=>rfl)) (yal (qab (qa3 (v:=.ty "str") rfl (B.of rfl) boot_str rfl)) yad)))))))))
        (yae (yai (qab ycb)))
        yar)
      (qad (qam (i:=2) sc.nd rfl (Or.inr rfl) (qab (pe_dget2 (hu_of hr) (QE.of (qab (pv 1))) (QE.of (ya7 qbl (qab (pv 0)) (qab yab) (fun _ _=>rfl))) (QE.of (qab qah)) ⟨rfl,rfl,rfl,rfl⟩)))
      (qad (ya5 (QW.pt (yfr (yat yik (qar qdz rfl (B.of rfl) boot_len (yal (qab (pv 2)) yad)) (ybg yg3 (qar yaf rfl (B.of rfl) boot_len (yal (qab (pv 0)) yad)) (qab yab)) (yak _)) (qeb (yat qbz (qab (pv 2)) (qab qah) (yak _)))))
        (yae (yai (qab ycb)))
        yar)
      (qad (ya5 (yat (qg6 hr) (qab (ybw rfl (ya1 rfl) (M:=["_law_k","_law_thing","_law_form"]) (ix:=[none,some 0,some 2]) (yb2 rfl (B.of rfl) (yaa (qae qdz rfl (B.of rfl) boot_len (yaa (pv 2) qac)) qac)) (fun _ _ _ _=>(yam (i:=0) (show List.Nodup (["_law_k","_law_thing","_law_form"]:List Str) by decide +kernel) rfl (Or.inl rfl))) (fun _ _ _ _=>(ydq (qdc (qco (yaj qez hr (yaa (qbt (ix_tupK (K:=K) rfl) (pv 1) (ya9 qbv yab (pv 0)) (fun _ _=>rfl)) (yaa (qbt yhg (pv 2) (pv 0) (fun _ _=>rfl)) qac))))))) (fun _ _ _ _=>(pv 0)))) (qav yad) (yak _))
        (yae (yai (qab ycb)))
        yar)
      (qad (ya5 (QW.pt (yig (yat qbz (ya7 yhg (qab (pv 2)) (qab yab) (fun _ _=>rfl)) (qab qah) (yak _)) (qgy (yat qbz (ya7 qbl (qab (pv 0)) (qab yab) (fun _ _=>rfl)) (ya7 qbl (qab (pv 0)) (qab yab) (fun _ _=>rfl)) (yak _)))))
        (yae (yai (qab ycb)))
        yar)
      (yae (yai (qcc qdv rfl (B.of rfl) boot_list (qcb (ydm ycr (qab (pv 0)) (qas yab) (qas (ya9 qbv yab (ybj yeg rfl (B.of rfl) boot_int (yaa (yaz qbz (qbt yhg (pv 2) yab (fun _ _=>rfl)) qah (yak _)) qac))))) yad)))))))))))),?_⟩
    refine fun p hp=>⟨qaa,fm1,rfl,by decide,?_⟩
    have s1:Same H (upd (upd H p (.dK [])) p (.dK (ybi [] fm1))):=fun b o g=>by
      have nb:b≠p:=fun z=>by rw [z,hp] at g; cases g
      rw [qaf nb,qaf nb]; exact g
    have g1:upd (upd H p (.dK [])) p (.dK (ybi [] fm1)) p=some (.dK (ybi [] fm1)):=qaa
    revert s1 g1
    generalize upd (upd H p (.dK [])) p (.dK (ybi [] fm1))=H1
    intro s1 g1
    refine ⟨_,rfl,.inr (.inr (.inl ⟨rfl,.inl ⟨_,g1⟩⟩)),fun p2 hp2=>⟨qaa,fm2,rfl,by decide,p,p2,ybi [] fm1,ybi [] fm2,rfl,rfl,?_,?_,qaa,by decide +kernel,?_⟩⟩
    · intro z
      rw [z,hp2] at g1
      cases g1
    · have np:p≠p2:=fun z=>by rw [z,hp2] at g1; cases g1
      rw [qaf np,qaf np]
      exact g1
    rw [fm_is]
    have s2:Same H (upd (upd (upd H1 p2 (.dK [])) p2 (.dK (ybi [] fm2))) p (.dK fm)):=fun b o g=>by
      have nb:b≠p:=fun z=>by rw [z,hp] at g; cases g
      have nb2:b≠p2:=fun z=>by have:=s1 _ _ g; rw [z,hp2] at this; cases this
      rw [qaf nb,qaf nb2,qaf nb2]
      exact s1 _ _ g
    have g2:upd (upd (upd H1 p2 (.dK [])) p2 (.dK (ybi [] fm2))) p (.dK fm) p=some (.dK fm):=qaa
    revert s2 g2
    generalize upd (upd (upd H1 p2 (.dK [])) p2 (.dK (ybi [] fm2))) p (.dK fm)=H2
    intro s2 g2
    clear g1 s1
    have hv2:=hv.same s2
    rcases hv2 with hv2 | ⟨rfl,t,e,rfl,ht,he⟩
    rotate_left
    · refine ⟨_,rfl,_,_,_,_,rfl,.tup ht,yfk oddD,_,rfl,iteF ⟨_,rfl,t,_,rfl,.inr (SqT.of ht),rfl,_,rfl,iteN (by simp) ?_⟩⟩
      exact ⟨_,rfl,t,_,_,_,rfl,rfl,SqT.of ht,yag 0 rfl,_,_,_,_,rfl,AtX.ty (.inr ⟨rfl,e,rfl,he⟩),qdp (.dict []),_,rfl,iteT (q1 rfl H2 s2)⟩
    refine ⟨_,rfl,_,_,_,_,rfl,hv2.ty,yfk d,_,rfl,?_⟩
    cases hs:isTup d with
    | false=>
      have e:qbk d=false:=by cases d <;> first | rfl | cases hs
      exact iteT (iteT (q1 e H2 s2))
    | true=>
    refine iteF ?_
    obtain ⟨ds,rfl⟩:∃ ds,d=.tuple ds:=by cases d <;> first | exact ⟨_,rfl⟩ | cases hs
    have hv':At H2 v (.tuple ds):=by
      rcases hv2 with h | ⟨e,_⟩
      · exact h
      · cases e
    obtain ⟨a,vs,rfl,ha,hw⟩:=hv'.tupEq
    refine ⟨_,rfl,a,_,rfl,.inr (SqT.of ha),rfl,_,rfl,?_⟩
    cases hw with
    | nil=>exact iteB (by decide +kernel) (iteT (q1 rfl H2 s2))
    | cons h1 rr=>
    rename_i u d1 ws ps
    refine iteN (by simp; omega) ?_
    refine ⟨_,rfl,a,_,_,_,rfl,rfl,SqT.of ha,yag 0 rfl,_,_,_,_,rfl,AtX.ty (.inl h1),qdp d1,_,rfl,?_⟩
    cases hs1:isStr d1 with
    | false=>
      have e:qbk (.tuple (d1 :: ps))=false:=by cases d1 <;> first | rfl | cases hs1
      exact iteT (q1 e H2 s2)
    | true=>
    refine iteF ?_
    obtain ⟨x,rfl⟩:∃ o,d1=.str o:=by cases d1 <;> first | exact ⟨_,rfl⟩ | cases hs1
    have:=h1.strEq
    subst this
    have hpl:=rr.length
    refine ⟨_,rfl,p,rfl,.inl ⟨_,.inl g2⟩,_,rfl,a,_,_,_,rfl,rfl,SqT.of ha,yag 0 rfl,_,DGet.k (k:=.inr x) g2,?_⟩
    cases hk:KTD.inKeys x tabP with
    | false=>
      have e:qbk (.tuple (.str x :: ps))=false:=qfv hk
      rw [form_out hk]
      refine ⟨_,rfl,"none",rfl,by decide +kernel,_,rfl,a,_,rfl,.inr (SqT.of ha),_,_,rfl,rfl,rfl,_,rfl,?_⟩
      refine ite_both (iteT (q1 e H2 s2)) ⟨_,rfl,rfl,_,rfl,?_⟩
      exact iteB (by decide +kernel) (q1 e H2 s2)
    | true=>
    obtain ⟨f1,f2,f3,f4,f5,f6,c1,f7,f8⟩:=yhb x (ygv hk)
    rw [f1]
    have bad:yav (nmOf x) ps=false→qbk (.tuple (.str x :: ps))=false:=fun hq=>by
      show (_ && (yav (nmOf x) ps && _))=false
      rw [hq,Bool.false_and,Bool.and_false]
    refine ⟨_,rfl,ybv x,rfl,qc2 (by omega),_,rfl,a,_,rfl,.inr (SqT.of ha),_,_,rfl,rfl,rfl,_,rfl,?_⟩
    by_cases hln:ps.length=(nmOf x).length
    rotate_left
    · have e:qbk (.tuple (.str x :: ps))=false:=bad (by
        cases hq:yav (nmOf x) ps with
        | true=>exact absurd (qcx hq) hln
        | false=>rfl)
      exact yfm (by simp; omega) (iteT (q1 e H2 s2))
    refine qdt (by simp; omega) ⟨_,rfl,rfl,_,rfl,qdt (by simpa using f2) ?_⟩
    refine ⟨_,rfl,ybv x,rfl,qc2 (by omega),_,rfl,by omega,by omega,fun D hD=>yb3 (n:=(ybv x).length) (fun i H'=>Same H2 H'∧∃ us,H' D=some (.lst us)∧us.length≤i∧(us=[]↔∀ k,k < i→ybu ((nmOf x).getD k "") (ps.getD k .none)=true)) ⟨(Same.refl H2).upd hD,[],qaa,Nat.zero_le _,⟨fun _ k hk=>by omega,fun _=>rfl⟩⟩ ?_ ?_⟩
    rotate_left
    · rintro k H3 hk3 ⟨s3,us,g3,hul,hu⟩
      refine ⟨by show k < _; simpa using hk3,?_⟩
      rintro v H4 ⟨rfl,rfl⟩
      refine ⟨ya2.set (ya2.refl _) rfl,?_⟩
      obtain ⟨c,hc,hcv,hnm⟩:=f6 k hk3
      have hkp:k < ps.length:=by omega
      obtain ⟨wv,hwv,hat⟩:=rr.getD (List.getElem?_eq_getElem hkp)
      have hnm':(nmOf x).getD k "" = nmF ⟨#[c]⟩:=by rw [List.getD_eq_getElem?_getD,hnm]; rfl
      have hpd:ps.getD k .none=ps[k]:=by rw [List.getD_eq_getElem?_getD,List.getElem?_eq_getElem hkp]; rfl
      have hst:∀ P:Nat→Prop,(∀ j,j < k + 1→P j)↔(∀ j,j < k→P j)∧P k:=fun P=>⟨fun h=>⟨fun j hj=>h j (by omega),h k (by omega)⟩,fun h j hj=>by
        rcases Nat.lt_or_ge j k with h' | h'
        · exact h.1 j h'
        · rw [show j=k by omega]; exact h.2⟩
      refine ⟨_,rfl,_,rfl,_,_,rfl,rfl,a,_,_,wv,rfl,rfl,SqT.of (s3 _ _ ha),yag (k + 1) hwv (by omega),_,rfl,_,rfl,_,_,c,rfl,rfl,qc2 (by omega),yag k hc (by omega),wv,_,_,rfl,.inl (hat.same s3),hcv,fun H5 s5=>⟨_,rfl,?_⟩⟩
      rw [hst,hnm',hpd]
      cases hb:ybu (nmF ⟨#[c]⟩) ps[k] with
      | true=>
        refine iteF ⟨s3.trans s5,us,s5 _ _ g3,by omega,?_⟩
        rw [← hu]
        exact ⟨fun h=>⟨h,rfl⟩,fun h=>h.1⟩
      | false=>
        refine iteT ⟨_,rfl,us,s5 _ _ g3,qbw (by omega),(s3.trans s5).at hD,us++[.int (0 + k)],qaa,by simp; omega,?_⟩
        exact ⟨fun h=>by simp at h,fun h=>by cases h.2⟩
    rintro H3 ⟨s3,us,g3,_,hu⟩
    refine ⟨by show _≤_; simp,?_⟩
    refine ⟨Nat.zero_le _,fun q hq=>⟨D,q,us,rfl,rfl,SqL.of ?_,SqL.of qaa,_,rfl,?_⟩⟩
    · have nD:D≠q:=fun z=>by rw [z,hq] at g3; cases g3
      rw [qaf nD]; exact g3
    have s4:Same H2 (upd H3 q (.lst [])):=s3.trans ((Same.refl H3).upd hq)
    revert s4
    generalize upd H3 q (.lst [])=H4
    intro s4
    have s5:=s2.trans s4
    have hpi:=yen (nms:=nmOf x) (ps:=ps) hln
    rw [← f3] at hpi
    by_cases hue:us=[]
    rotate_left
    · have e:qbk (.tuple (.str x :: ps))=false:=bad (by
        cases hq:yav (nmOf x) ps with
        | true=>exact absurd (hu.mpr (hpi.mp hq)) hue
        | false=>rfl)
      exact yfm (by cases us with | nil=>exact absurd rfl hue | cons _ _=>rfl) (q1 e H4 s5)
    refine qdt (by rw [hue]; simp) ?_
    have hpt:yav (nmOf x) ps=true:=hpi.mpr (hu.mp hue)
    obtain ⟨ns,ht,hl,hn⟩:=qgz hk
    have hpt':=hpt
    rw [yfj ht] at hpt'
    obtain ⟨g,⟨a',ea,hg⟩,ok,hc⟩:=hm_of ha rr ht hl hn hpt'
    cases ea
    rw [ha] at hg
    have hws:V.str x :: ws=hV g:=by injection (Option.some.inj hg)
    have hws2:ws=g.c.map V.int++g.r:=(List.cons.inj hws).2
    have hgl:g.c.length=qax x:=by
      have:=qcr x
      rw [hc]; unfold ya8; simp; omega
    have eh:qbk (.tuple (.str x :: ps))=decide g.c.Nodup:=by
      show (KTD.inKeys x tabP && (yav (nmOf x) ps && decide (ya8 (qax x) ps).Nodup))=_
      rw [hk,hpt,hc]; rfl
    have ecl:yaw (.tuple (.str x :: ps))=g.c:=hc.symm
    have ha4:=s4 _ _ ha
    rw [ecl,eh] at q2
    rw [eh] at q1
    subst hws2
    refine ⟨_,rfl,_,_,c1,rfl,rfl,qc2 (by omega),yag 1 f7,rfl,_,rfl,?_⟩
    by_cases h2:qax x=2
    · rw [decide_eq_true h2] at f8
      have f8':=of_decide_eq_true f8
      refine yfm (by rw [f8']; decide +kernel) ?_
      obtain ⟨i,j,hij⟩:∃ i j,g.c=[i,j]:=by
        match g.c,hgl.trans h2 with
        | [i,j],_=>exact ⟨i,j,rfl⟩
      refine ⟨_,rfl,a,_,_,.int i,rfl,rfl,SqT.of ha4,yag 1 (by rw [hij]; rfl),_,rfl,a,_,_,.int j,rfl,rfl,SqT.of ha4,yag 2 (by rw [hij]; rfl),rfl,_,rfl,?_⟩
      by_cases e:i=j
      · exact yfm (by rw [e]; simp) (q1 (by rw [hij,e]; simp) H4 s5)
      · refine qdt (by simpa using e) ?_
        refine ⟨_,rfl,1,rfl,_,rfl,_,_,c1,rfl,rfl,qc2 (by omega),yag 1 f7,rfl,.inr ⟨_,rfl,_,_,rfl,rfl,_,rfl,a,_,rfl,SqT.of ha4,yhe _ _,fun r hr=>⟨r,_,rfl,.inr (SqT.of qaa),fun l hl=>?_⟩⟩⟩
        rw [ye6 (by rw [hij,f8',decide_eq_true rfl]; rfl)] at hl ⊢
        have s6:=(Same.refl H4).upd (o:=.tup (g.c.map V.int)) hr
        exact q2 (by rw [hij]; simpa using e) l _ (s5.trans (s6.trans ((Same.refl _).upd hl))) ((s5.trans s6).free hl) qaa
    · rw [decide_eq_false h2] at f8
      have f8':=of_decide_eq_false f8
      refine qdt (by simpa using f8') ?_
      refine ⟨_,rfl,1,rfl,_,rfl,_,_,c1,rfl,rfl,qc2 (by omega),yag 1 f7,rfl,.inr ⟨_,rfl,_,_,rfl,rfl,_,rfl,a,_,rfl,SqT.of ha4,yhe _ _,fun r hr=>⟨r,_,rfl,.inr (SqT.of qaa),fun l hl=>?_⟩⟩⟩
      have h1c:g.c.length=1:=by have:=qcr x; omega
      rw [ye6 (by rw [h1c,decide_eq_false (show ¬ V.str ⟨#[c1]⟩=V.str "c" from fun z=>f8' (by injection z))]; rfl)] at hl ⊢
      have s6:=(Same.refl H4).upd (o:=.tup (g.c.map V.int)) hr
      have nd:decide g.c.Nodup=true:=by
        match g.c,h1c with
        | [i],_=>simp
      exact q2 nd l _ (s5.trans (s6.trans ((Same.refl _).upd hl))) ((s5.trans s6).free hl) qaa
end
end Mh
set_option Elab.async false
set_option linter.all false
set_option maxRecDepth 100000
set_option maxHeartbeats 4000000
namespace Mh
open PySem L2 PyProof.Rows Mx
theorem ygg {d:PyData} (h:qbk d=true):(yaw d).Nodup∧(yaw d).length≤2:=by
  have hw:qd4 d=true:=by
    cases hq:qd4 d with
    | true=>rfl
    | false=>rw [qfv hq] at h; cases h
  obtain ⟨x,ps,rfl,hk⟩:=qfe hw
  have h':(KTD.inKeys x tabP && (yav (nmOf x) ps && decide (ya8 (qax x) ps).Nodup))=true:=h
  rw [Bool.and_eq_true,Bool.and_eq_true] at h'
  refine ⟨of_decide_eq_true h'.2.2,?_⟩
  have:=qcr x
  show ((ps.take (qax x)).map intD).length≤2
  simp
  omega
theorem cs_next {cs own:List Int} {ds:List PyData} {i:Nat} {dx:PyData} (hdx:ds[i]?=some dx) (nd:cs.Nodup) (hcs:∀ x,x∈cs↔x∈accH ds i) (ho:own=yaw dx) (no:own.Nodup) :
    (cs++own.filter fun y=>decide (y∉cs)).Nodup∧(∀ x,x∈(cs++own.filter fun y=>decide (y∉cs))↔x∈accH ds (i + 1))∧(cs++own.filter fun y=>decide (y∉cs)).length=(uniq (accH ds (i + 1))).length:=by
  have h1:(cs++own.filter fun y=>decide (y∉cs)).Nodup:=List.nodup_append.mpr ⟨nd,no.filter _,fun a ha b hb e=>by
    subst e
    have:=(List.mem_filter.mp hb).2
    exact of_decide_eq_true this ha⟩
  have h2:∀ x,x∈(cs++own.filter fun y=>decide (y∉cs))↔x∈accH ds (i + 1):=fun x=>by
    rw [qfz hdx,List.mem_append,List.mem_append,← hcs x,← ho,List.mem_filter,decide_eq_true_eq]
    by_cases hx:x∈cs
    · simp [hx]
    · simp [hx]
  refine ⟨h1,h2,?_⟩
  exact ((List.perm_ext_iff_of_nodup h1 (ydn _)).mpr fun x=>(h2 x).trans (yd6 _ x).symm).length_eq
theorem all_flat (cs:List Int):(cs.map V.int).all yd3=true:=by
  rw [List.all_eq_true]
  intro v hv
  obtain ⟨i,_,rfl⟩:=List.mem_map.mp hv
  rfl
section
variable {P:Program} {w:World} {K:PySem.W.Frag} {mg:Str→Option Value} {base:Heap}
abbrev qby:Stmt:=top 44
theorem qeg:FnScope ["_law_thing","_law_cells","_law_number","_law_harm_here","_law_own"] ["_law_thing"] (yac qby):=⟨rfl,rfl,rfl,by decide +kernel,rfl,by decide +kernel,by decide +kernel⟩
def qg2:Sp:=fun vs H Q _=>∃ v d,vs=[v]∧AtY H v d∧(qai d=none→∀ H',Same H H'→Q (.str "harms") H')∧(∀ b,qai d=some b→∀ (D:Addr) (H':Hp),Same H H'→H D=none→H' D=some (.lst [optN b])→Q (.ref D) H')
theorem og_due (B:Bl mg) (ybb:Has P w K mg base 2 "_law_is_harm" ["_law_thing"] qd8) (F:FnAt K mg "_law_due" qby ["_law_thing"]):Has P w K mg base 3 "_law_due" ["_law_thing"] qg2:=by
  refine Has.ofQ F qeg (fun vs H Q E h=>?_) (fun f cdv A outer s H vs Q E hr h=>?_)
  · obtain ⟨v,d,rfl,_⟩:=h
    rfl
  · obtain ⟨v,d,rfl,hv,q1,q2⟩:=h
    have z1:1≤sizeLine:=by decide
    have sc:=qeg
    refine ⟨_,(qat rfl (qad (ya5 (QW.pt (yfr (qe3 (yct (qar yas rfl (B.of rfl) boot_isinstance (yal (qab (pv 0)) (yal (qab (qa3 (v:=.ty "list") rfl (B.of rfl) boot_list rfl)) yad))))) (qeb (yat yfo (qar yaf rfl (B.of rfl) boot_len (yal (qab (pv 0)) yad)) (qab yab) (yak _)))))
        (yae (yai (qav (qao (qab ycb) yad))))
        yar)
      (qad (qam (i:=1) sc.nd rfl (Or.inr rfl) (qav yad))
      (qad (ydf PassesOwn.never rfl (yhm (qfl rfl (B.of rfl) (yaa (pv 0) qac))) (qe4 rfl (yay (yam (i:=2) sc.nd rfl (Or.inl rfl)) (yay (yam (i:=3) sc.nd rfl (Or.inl rfl)) ycl)))
        (qad (qam (i:=4) sc.nd rfl (Or.inl rfl) (qaq ybb hr (yal (qab (pv 3)) yad)))
        (qad (ya5 (qt_of (pt_cmp (pc_isN (pv 4))))
          (yae (yai (qav (yal (qab (pv 2)) yad))))
          yar)
        (qad (qam (i:=1) sc.nd rfl (Or.inr rfl) (ybg qb7 (qab (pv 1)) (qab (ybw rfl (ya1 rfl) (M:=["_law_cell","_law_cells"]) (ix:=[none,some 1]) (qch (pv 4)) (fun _ _ _ _=>(yam (i:=0) (show List.Nodup (["_law_cell","_law_cells"]:List Str) by decide +kernel) rfl (Or.inl rfl))) (fun _ _ _ _=>(ydq (qbf (ydc (K:=K) rfl) (pv 0) (pv 1) (by with_unfolding_all rfl)))) (fun _ _ _ _=>(pv 0))))))
        (yae (ya5 (yat yfo (qar yaf rfl (B.of rfl) boot_len (yal (qab (pv 1)) yad)) (qab yab) (yak _))
          (yae (yai (qav (yal (qab (pv 2)) yad))))
          yar))))))
      (yae (yai (qab qah))))))),?_⟩
    refine ⟨_,rfl,_,_,_,_,rfl,hv.ty,ygm d,_,rfl,?_⟩
    cases hs:isLst d with
    | false=>
      have e:qai d=some none:=by cases d <;> first | rfl | cases hs
      exact iteT (iteT ⟨z1,fun a ha=>q2 none e a _ ((Same.refl H).upd ha) ha qaa⟩)
    | true=>
    refine iteF ?_
    obtain ⟨ds,rfl⟩:∃ ds,d=.list ds:=by cases d <;> first | exact ⟨_,rfl⟩ | cases hs
    obtain ⟨L,us,rfl,hL,hu⟩:=hv.lst
    have hul:=hu.length
    refine ⟨_,rfl,L,us,rfl,.inl (SqL.of hL),_,_,rfl,rfl,_,rfl,?_⟩
    by_cases h3:3 < ds.length
    · have e:qai (.list ds)=some none:=by
        show (if 3 < ds.length then some none else _)=_
        rw [if_pos h3]
      exact iteD (by omega) ⟨z1,fun a ha=>q2 none e a _ ((Same.refl H).upd ha) ha qaa⟩
    refine qdm (by omega) ?_
    refine ⟨Nat.zero_le _,fun p hp=>?_⟩
    refine ⟨_,rfl,L,us,rfl,SqL.of ((Same.refl H).upd hp _ _ hL),qd6 (xs:=us) (fun i σ H2=>∃ (c:Addr) (cs:List Int) (o2 o3 o4:Option V),σ=[some (.ref L),some (.ref c),o2,o3,o4]∧Same H H2∧H2 c=some (.lst (cs.map V.int))∧cs.Nodup∧(∀ x,x∈cs↔x∈accH ds i)∧cs.length≤3∧∀ j,j < i→yb7 ds j=false)
      ⟨p,[],none,none,none,rfl,(Same.refl H).upd hp,qaa,List.nodup_nil,by simp [accH],by simp,by simp⟩ (fun i σ H2 _ ⟨_,_,_,_,_,_,h,_⟩=>SqL.of (h _ _ hL)) ?_ ?_⟩
    · rintro i x pp σ H2 hx ⟨c,cs,o2,o3,o4,rfl,s2,gc,nd,hcs,hc3,hok⟩ hpp
      refine ⟨pp,_,rfl,SqT.of qaa,rfl,_,_,rfl,_,_,rfl,rfl,?_⟩
      have sP:Same H2 (upd H2 pp (.tup [.int i,x])):=(Same.refl H2).upd hpp
      revert sP
      generalize upd H2 pp (.tup [.int i,x])=H3
      intro sP
      obtain ⟨dx,hdx,hat⟩:=hu.get hx
      have s3:=s2.trans sP
      have hi:i < ds.length:=(List.getElem?_eq_some_iff.mp hdx).1
      have hgd:ds.getD i .none=dx:=by rw [List.getD_eq_getElem?_getD,hdx]; rfl
      refine ⟨_,rfl,x,dx,rfl,hat.same s3,fun hb H4 s4=>?_,fun hb own H4 s4 hown gown=>?_⟩
      · have s5:=s3.trans s4
        refine ⟨_,rfl,_,rfl,iteT ⟨_,rfl,z1,fun a ha=>q2 (some i) (qck h3 hi ?_ hok) a _ (s5.trans ((Same.refl _).upd ha)) (s5.free ha) qaa⟩⟩
        show (!(qbk (ds.getD i .none)) || _)=true
        rw [hgd,hb]; rfl
      · have s5:=s3.trans s4
        obtain ⟨no,hol⟩:=ygg hb
        obtain ⟨n1,n2,n3⟩:=cs_next hdx nd hcs rfl no
        have gc4:=s4 _ _ (sP _ _ gc)
        refine ⟨_,rfl,_,rfl,iteF ?_⟩
        refine ⟨_,rfl,_,rfl,own,rfl,⟨_,SqL.of gown⟩,fun D hD=>yb3 (n:=(yaw dx).length) (fun k H'=>Same H4 H'∧H' D=some (.lst ((((yaw dx).take k).filter fun y=>decide (y∉cs)).map V.int))) ⟨(Same.refl H4).upd hD,qaa⟩ ?_ ?_⟩
        rotate_left
        · rintro k H5 hk ⟨s6,gD⟩
          refine ⟨⟨_,_,SqL.of (s6 _ _ gown),by rw [List.getElem?_map,List.getElem?_eq_getElem hk]; rfl⟩,?_⟩
          rintro v H6 ⟨rfl,hv⟩
          obtain ⟨y,hy,rfl⟩:=yb9 (hv _ (SqL.of (s6 _ _ gown)))
          refine ⟨ya2.set (ya2.refl _) rfl,?_⟩
          refine ⟨_,rfl,_,rfl,c,_,rfl,.inl (SqL.of (s6 _ _ gc4)),rfl,all_flat cs,_,rfl,?_⟩
          show if (!inV (.int y) (cs.map V.int))=true then _ else _
          rw [yfl]
          have et:((yaw dx).take (k + 1)).filter (fun y=>decide (y∉cs))=((yaw dx).take k).filter (fun y=>decide (y∉cs))++[y].filter (fun y=>decide (y∉cs)):=by rw [List.take_add_one,hy,List.filter_append]; rfl
          by_cases hyc:y∈cs
          · refine qdt (by simp [hyc]) ⟨s6,?_⟩
            rw [et,show [y].filter (fun y=>decide (y∉cs))=[] by rw [List.filter_cons]; simp [hyc],List.append_nil]
            exact gD
          · have hfl:(((yaw dx).take k).filter fun y=>decide (y∉cs)).length≤2:=Nat.le_trans (List.length_filter_le _ _) (by rw [List.length_take]; omega)
            refine yfm (by simp [hyc]) ⟨_,rfl,_,gD,qbw (by rw [List.length_map]; omega),s6.at hD,?_⟩
            rw [qaa,et,show [y].filter (fun y=>decide (y∉cs))=[y] by rw [List.filter_cons]; simp [hyc],List.map_append]
            rfl
        rintro H5 ⟨s6,gD⟩
        rw [List.take_length] at gD
        refine ⟨⟨_,SqL.of (s6 _ _ gown),by simp⟩,?_⟩
        have hfl:((yaw dx).filter fun y=>decide (y∉cs)).length≤2:=Nat.le_trans (List.length_filter_le _ _) hol
        refine ⟨c,D,_,_,rfl,rfl,s6 _ _ gc4,gD,qc2 (by simp only [List.length_map]; omega),fun c2 hc2=>?_⟩
        rw [← List.map_append]
        have s7:=s5.trans (s6.trans ((Same.refl H5).upd (o:=.lst ((cs++(yaw dx).filter fun y=>decide (y∉cs)).map V.int)) hc2))
        have g7:upd H5 c2 (.lst ((cs++(yaw dx).filter fun y=>decide (y∉cs)).map V.int)) c2=some (.lst ((cs++(yaw dx).filter fun y=>decide (y∉cs)).map V.int)):=qaa
        revert s7 g7 n1 n2 n3
        generalize upd H5 c2 (.lst ((cs++(yaw dx).filter fun y=>decide (y∉cs)).map V.int))=H7
        generalize cs++(yaw dx).filter (fun y=>decide (y∉cs))=cs2
        intro n1 n2 n3 s7 g7
        refine ⟨_,rfl,c2,_,rfl,.inl (SqL.of g7),_,_,rfl,rfl,_,rfl,?_⟩
        rw [List.length_map]
        by_cases hq:3 < cs2.length
        · refine iteD (by omega) ⟨_,rfl,z1,fun a ha=>q2 (some i) (qck h3 hi ?_ hok) a _ (s7.trans ((Same.refl _).upd ha)) (s7.free ha) qaa⟩
          show (_ || decide (3 < (uniq (accH ds (i + 1))).length))=true
          rw [← n3,decide_eq_true hq,Bool.or_true]
        · refine qdm (by omega) ⟨c2,cs2,_,_,_,rfl,s7,g7,n1,n2,by omega,fun j hj=>?_⟩
          rcases Nat.lt_or_ge j i with h | h
          · exact hok j h
          · rw [show j=i by omega]
            show (!(qbk (ds.getD i .none)) || decide (3 < (uniq (accH ds (i + 1))).length))=false
            rw [hgd,hb,← n3,decide_eq_false hq]; rfl
    · rintro σ H2 ⟨c,cs,o2,o3,o4,rfl,s2,_,_,_,_,hok⟩
      exact q1 (yc8 h3 fun j hj=>hok j (by omega)) H2 s2
end
end Mh
set_option Elab.async false
set_option linter.all false
set_option maxRecDepth 100000
set_option maxHeartbeats 4000000
namespace Mh
open PySem L2 PyProof.Rows Mx
section
variable {P:Program} {w:World} {K:PySem.W.Frag} {mg:Str→Option Value} {base:Heap}
def yej (C:Addr):Sp:=fun vs H Q E=>∃ v d Cl cl,vs=[v,.ref Cl]∧AtY H v d∧H Cl=some (.lst ((cl:List Int).map V.int))∧cl.length≤64∧(qai d=none→(uniq (qcz d)).length≤cl.length∧∀ v' H',Same H H'→Q v' H')∧(∀ b,qai d=some b→∀ a H',Same H H'→XAt H' a C [("number",optN b)]→E (.ref a) none H')
theorem qik {C:Addr} (B:Bl mg) (qb9:mg "zip" = none) (ybl:HasX P w K mg base 7 "cells_of" ["harms"] (yck C)) (qej:Has P w K mg base 1 "renamed" ["harm","names"] ydr) (F:FnAt K mg "placed" ycg ["harms","cells"]):HasX P w K mg base 8 "placed" ["harms","cells"] (yej C):=by
  refine HasX.of F qdg (fun vs H Q E h=>?_) (fun f cdv A outer s H vs Q E hr h=>?_)
  · obtain ⟨v,d,Cl,cl,rfl,_⟩:=h
    rfl
  · obtain ⟨v,d,Cl,cl,rfl,hv0,hCl,hc64,k,kx⟩:=h
    have hcz:cl.length≤sizeLine:=Nat.le_of_lt (qbw (by omega))
    have sc:=qdg
    refine ⟨_,(qat rfl (qad (qam (i:=2) sc.nd rfl (Or.inr rfl) (qab (ye0 rfl rfl (B.of rfl) rfl qb9 (yaa (yd5 ybl passX hr (yaa (pv 0) qac)) (yaa (pv 1) qac)))))
      (yae (yai (qab (ybw rfl (ya1 rfl) (M:=["harm","names"]) (ix:=[none,some 2]) (qch (pv 0)) (fun _ _ _ _=>(yam (i:=0) (show List.Nodup (["harm","names"]:List Str) by decide +kernel) rfl (Or.inl rfl))) (fun _ _ _ _=>ycq) (fun _ _ _ _=>(yaj qej hr (yaa (pv 0) (yaa (pv 1) qac)))))))))),?_⟩
    refine ⟨_,rfl,v,d,rfl,hv0,fun hb D0 ns H1 s1 nD0 eD0 hp1 hp2=>?_,kx⟩
    obtain ⟨L,us,hs,S,rfl,hL,hv,ok,hA⟩:=ycv (hv0.good hb) hb
    rw [← hA] at hp1 k
    obtain ⟨hlen0,k⟩:=k hb
    have o3:=qeq ok
    have:=qha hp1 hp2
    subst this
    have hlen:(ownC hs).length≤cl.length:=by rw [(ycw hs).length_eq]; exact hlen0
    refine ⟨_,rfl,false,false,D0,Cl,(ownC hs).map Sum.inl,cl.map V.int,rfl,?_,SqL.of (s1 _ _ hCl),by rw [List.length_map]; exact hcz,fun d hd=>?_⟩
    · rw [List.map_map]
      exact SqL.of eD0
    generalize hG2:upd H1 d _=H2
    have s2:Same H1 H2:=by rw [← hG2]; exact (Same.refl H1).upd hd
    have f2:H2 d=some (.dK (dzip ((ownC hs).map Sum.inl) (cl.map V.int) (min ((ownC hs).map (Sum.inl:Int→Key)).length (cl.map V.int).length))):=by rw [← hG2]; exact qaa
    have s12:=s1.trans s2
    have hL2:=s12 _ _ hL
    have hv2:=hv.same s12
    have ndk:((ownC hs).map (Sum.inl:Int→Key)).Nodup:=List.Pairwise.map Sum.inl (fun a b h z=>h (Sum.inl.inj z)) (own_nd hs)
    have hNms:∀ h∈hs,∀ c∈h.c,Nms (dzip ((ownC hs).map Sum.inl) (cl.map V.int) (min ((ownC hs).map (Sum.inl:Int→Key)).length (cl.map V.int).length)) (plF (ownC hs) cl) c:=fun h hh c hc=>by
      have hm:=ygi hh hc
      have hi:(ownC hs).idxOf c < (ownC hs).length:=List.idxOf_lt_length_iff.mpr hm
      have hg:(ownC hs)[(ownC hs).idxOf c]?=some c:=by rw [List.getElem?_eq_getElem hi,List.getElem_idxOf]
      refine yfh ndk _ (by simp; omega) (by simp; omega) ((ownC hs).idxOf c) _ _ (by simp; omega) (by rw [List.getElem?_map,hg]; rfl) ?_
      rw [List.getElem?_map,List.getElem?_eq_getElem (by omega)]
      unfold plF
      rw [List.getD_eq_getElem?_getD,List.getElem?_eq_getElem (by omega)]
      rfl
    refine ⟨_,rfl,L,rfl,⟨_,SqL.of hL2⟩,fun D hD=>yb3 (n:=us.length) (fun i H'=>Same H2 H'∧∃ us',H' D=some (.lst us')∧us'.length=i) ⟨(Same.refl H2).upd hD,[],qaa,rfl⟩ ?_ ?_⟩
    · rintro H3 ⟨s3,us',e3,hv3⟩
      refine ⟨⟨_,SqL.of (s3 _ _ hL2),Nat.le_refl _⟩,?_⟩
      exact k _ H3 (s12.trans s3)
    · rintro i H3 hi ⟨s3,us',e3,hv3⟩
      refine ⟨⟨_,_,SqL.of (s3 _ _ hL2),List.getElem?_eq_getElem hi⟩,?_⟩
      rintro x H4 ⟨rfl,hx⟩
      have hx':=hx _ (SqL.of (s3 _ _ hL2))
      obtain ⟨g,hg,hat⟩:=hv2.get hx'
      have hgm:=List.mem_of_getElem? hg
      obtain ⟨nn,og⟩:=ok.ok g hgm
      refine ⟨ya2.set (ya2.refl _) rfl,yes ?_⟩
      refine ⟨_,rfl,_,rfl,x,g,nn,d,_,plF (ownC hs) cl,rfl,HAt.same s3 hat,og,s3 _ _ f2,hNms g hgm,fun a5 H5 s5 n5 e5=>?_⟩
      have:=hv.len
      exact ⟨us',s5 _ _ e3,qbw (by have:=ok.len; omega),(s3.trans s5).at hD,us'++[.ref a5],qaa,by simp [hv3]⟩
def yfu (C:Addr):Sp:=fun vs H Q E=>∃ v d,vs=[v]∧AtY H v d∧(qai d=none→∀ v' H',Same H H'→Q v' H')∧(∀ b,qai d=some b→∀ a H',Same H H'→XAt H' a C [("number",optN b)]→E (.ref a) none H')
theorem yhx {C:Addr} (B:Bl mg) (ybl:HasX P w K mg base 7 "cells_of" ["harms"] (yck C)) (ydb:HasX P w K mg base 8 "placed" ["harms","cells"] (yej C)) (F:FnAt K mg "little" ycj ["harms"]):HasX P w K mg base 9 "little" ["harms"] (yfu C):=by
  refine HasX.of F ydh (fun vs H Q E h=>?_) (fun f cdv A outer s H vs Q E hr h=>?_)
  · obtain ⟨v,d,rfl,_⟩:=h
    rfl
  · obtain ⟨v,d,rfl,hv0,k,kx⟩:=h
    have sc:=ydh
    refine ⟨_,(qat rfl (yae (yai (qab (yd5 ydb passX hr (yaa (pv 0) (yaa (ydv hr.hd rfl (B.of rfl) rfl (B.of rfl) (yaa (qae yaf rfl (B.of rfl) boot_len (yaa (yd5 ybl passX hr (yaa (pv 0) qac)) qac)) qac)) qac))))))),?_⟩
    refine ⟨_,rfl,_,rfl,v,d,rfl,hv0,fun hb D0 ns H1 s1 nD0 eD0 hp1 hp2=>?_,kx⟩
    obtain ⟨L,us,hs,S,rfl,hL,hv,ok,hA⟩:=ycv (hv0.good hb) hb
    have o3:=qeq ok
    have hpu:=hp1
    rw [← hA] at hp1
    have:=qha hp1 hp2
    subst this
    refine ⟨D0,_,rfl,.inl (SqL.of eD0),(ownC hs).length,by rw [List.length_map],by omega,fun l hl=>?_⟩
    generalize hG2:upd H1 l _=H2
    have s2:Same H1 H2:=by rw [← hG2]; exact (Same.refl H1).upd hl
    have f2:H2 l=some (.lst (((List.range (ownC hs).length).map Int.ofNat).map V.int)):=by
      rw [← hG2]
      refine qaa.trans ?_
      unfold qgg
      rw [List.map_map]
      rfl
    have s12:=s1.trans s2
    refine ⟨.ref L,d,l,_,rfl,hv0.same s12,f2,by simp; omega,fun _=>⟨by rw [← hpu.length_eq]; simp,fun v' H' s'=>k hb v' H' (s12.trans s')⟩,fun b hb'=>by rw [hb] at hb'; cases hb'⟩
end
end Mh
set_option Elab.async false
set_option linter.all false
set_option maxRecDepth 100000
set_option maxHeartbeats 4000000
namespace Mh
open PySem L2 PyProof.Rows Mx
structure KX (K:PySem.W.Frag) (c:Nat→Addr) (cM:Addr) (j:Nat):Prop where
  lt:j < 13
  ty:XTy K (c j)
  one:∀ i,i < 13→PySem.W.kitOne K (.ref (c j)) (.ref (c i))=some (decide (i=j))
  ve:PySem.W.kitOne K (.ref (c j)) (.type "ValueError")=some true
  em:PySem.W.exmOne K (.ref (c j)) (.ref cM)=some true
def optD:Option Nat→PyData | none=>.none | some n=>.int n
theorem yec (H:Hp) (o:Option Nat):At H (optN o) (optD o):=by
  cases o with
  | none=>exact .non
  | some n=>exact .int _
theorem yfb (b:Option Nat):(PyData.list [optD b]).canLay0=true:=by cases b <;> rfl
theorem qf8 (b:Option Nat):(PyData.list [optD b]).depth≤60:=by cases b <;> exact Nat.le_of_ble_eq_true rfl
theorem due_ne (b:Option Nat):PyData.eqv (.list [optD b]) (.str "harms")=false:=by cases b <;> rfl
theorem qel:(PyData.str "harms").canLay0=true:=by decide +kernel
theorem sum_one {l s0:Addr} {us:List V} {xss:List (List V)} {H:Hp} {Q:VK} (hl:H l=some (.lst us)) (h0:H s0=some (.lst [])) (hlen:us.length=xss.length) (h100:us.length≤100)
    (hx:∀ (i:Nat) v xs,us[i]?=some v→xss[i]?=some xs→xs.length≤100∧∃ a,v=.ref a∧H a=some (.lst xs)) (k:∀ p H',Same H H'→H' p=some (.lst xss.flatten)→Q (.ref p) H'):rSumLL [.ref l,.ref s0] H Q:=by
  refine ⟨l,s0,us,xss,rfl,hl,h0,hlen,h100,hx,fun e=>k s0 H (Same.refl H) ?_,fun _ p hp=>k p _ ((Same.refl H).upd hp) qaa⟩
  subst e
  cases xss with
  | nil=>exact h0
  | cons _ _=>simp at hlen
theorem yhi (ds:List PyData):(ds.map fun d=>(yaw d).map V.int).flatten=(ds.flatMap yaw).map V.int:=by
  induction ds with
  | nil=>rfl
  | cons d ds ih=>rw [List.map_cons,List.flatten_cons,ih,List.flatMap_cons,List.map_append]
section
variable {P:Program} {w:World} {K:PySem.W.Frag} {mg:Str→Option Value} {base:Heap}
def FnT (P:Program) (w:World) (K:PySem.W.Frag) (mg:Str→Option Value) (base:Heap) (C:Addr) (x:Str):Prop:=∃ f,mg x=some (.ref f)∧PySem.W.keepIn K (.ref f)=true∧∀ v d H Q E,AtY H v d→
  (qai d=none→∀ r H',Same H H'→Q r H')→(∀ b,qai d=some b→∀ a H',Same H H'→XAt H' a C [("number",optN b)]→E (.ref a) none H')→
  ∃ k fd ps sp,k≤9∧yde K fd ps []∧FnOk P w K mg base (CX1 P w) k f fd ps sp∧sp [v] H Q E
theorem ft_harms {C:Addr} (h:HasX P w K mg base 6 "look_at_harms" ["thing"] (qe9 C)):FnT P w K mg base C "look_at_harms":=by
  obtain ⟨f,fd,h1,h2,h3,h4⟩:=h
  exact ⟨f,h1,h2,fun v d H Q E hv q1 q2=>⟨6,fd,_,_,by decide,h3,h4,v,d,rfl,hv,fun hb H' s=>q1 hb .non H' s,q2⟩⟩
theorem ft_cells {C:Addr} (h:HasX P w K mg base 7 "cells_of" ["harms"] (yck C)):FnT P w K mg base C "cells_of":=by
  obtain ⟨f,fd,h1,h2,h3,h4⟩:=h
  exact ⟨f,h1,h2,fun v d H Q E hv q1 q2=>⟨7,fd,_,_,by decide,h3,h4,v,d,rfl,hv,fun hb D ns H' s _ _ _ _=>q1 hb (.ref D) H' s,q2⟩⟩
theorem yiy {C:Addr} (h:HasX P w K mg base 9 "little" ["harms"] (yfu C)):FnT P w K mg base C "little":=by
  obtain ⟨f,fd,h1,h2,h3,h4⟩:=h
  exact ⟨f,h1,h2,fun v d H Q E hv q1 q2=>⟨9,fd,_,_,by decide,h3,h4,v,d,rfl,hv,q1,q2⟩⟩
def qgj:Sp:=fun vs H Q _=>∃ way:Nat,∃ v d,vs=[.int way,v]∧way < 4∧AtY H v d∧(qai d=none→∀ H',Same H H'→Q (.str "harms") H')∧(∀ b,qai d=some b→∀ (D:Addr) (H':Hp),Same H H'→H D=none→H' D=some (.lst [optN b])→Q (.ref D) H')
abbrev qbn:Stmt:=top 45
theorem qd0:FnScope ["_law_way","_law_thing","_law_caught","_law_cells","_law_e"] ["_law_way","_law_thing"] (yac qbn):=⟨rfl,rfl,rfl,by decide +kernel,rfl,by decide +kernel,by decide +kernel⟩
theorem og_told {c:Nat→Addr} {cM:Addr} (B:Bl mg) (yca:mg "set" = none) (gm:mg "MarchError" = some (.ref cM)) (kx:KX K c cM 2) (xo:XOk K (c 2)) (nf1:NoF K (c 2) "number") (qgt:Has P w K mg base 1 "_law_kind" ["_law_e"] (yjg K c))
    (t0:FnT P w K mg base (c 2) "look_at_harms") (t1:FnT P w K mg base (c 2) "cells_of") (t2:FnT P w K mg base (c 2) "little") (ydb:HasX P w K mg base 8 "placed" ["harms","cells"] (yej (c 2)))
    (ybb:Has P w K mg base 2 "_law_is_harm" ["_law_thing"] qd8) (qce:Has P w K mg base 3 "_law_due" ["_law_thing"] qg2)
    (F:FnAt K mg "_law_told" qbn ["_law_way","_law_thing"]):Has P w K mg base 10 "_law_told" ["_law_way","_law_thing"] qgj:=by
  obtain ⟨f0,g0,k0,t0⟩:=t0
  obtain ⟨f1,g1,k1,t1⟩:=t1
  obtain ⟨f2,g2,k2,t2⟩:=t2
  refine Has.ofQ F qd0 (fun vs H Q E h=>?_) (fun f cdv A outer s H vs Q E hr h=>?_)
  · obtain ⟨way,v,d,rfl,_⟩:=h
    rfl
  · obtain ⟨way,v,d,rfl,hw4,hv,q1,q2⟩:=h
    have z1:1≤sizeLine:=by decide
    have sc:=qd0
    refine ⟨_,(qat rfl (qad (qam (i:=2) sc.nd rfl (Or.inl rfl) (qab ycb))
      (qad (qam (i:=3) sc.nd rfl (Or.inl rfl) (qav (qao (qab yab) (qao (qab yab) (qao (qab yab) yad)))))
      (yi7 (ya5 (QW.pt (yig (yat qbz (qab (pv 0)) (qab yab) (yak _)) (qgy (yat (op_eqD hr) (qaq qce hr (yal (qab (pv 1)) yad)) (qab qah) (yak _)))))
        (yae (qam (i:=3) sc.nd rfl (Or.inl rfl) (ydm qb3 (qab (pv 3)) qa0 (qas (qae qb5 rfl (B.of rfl) boot_len (yaa (ybj (qb4 rfl) rfl yca yb0 (yaa (qae (qev rfl) rfl (B.of rfl) boot_sum (yaa (ybw rfl (ya1 rfl) (M:=["_law_harm_here"]) (ix:=[none]) (qch (pv 1)) (fun _ _ _ _=>(yam (i:=0) (show List.Nodup (["_law_harm_here"]:List Str) by decide +kernel) rfl (Or.inl rfl))) (fun _ _ _ _=>ycq) (fun _ _ _ _=>(yaj ybb hr (yaa (pv 0) qac)))) (yaa (ybz qac) qac))) qac)) qac))))))
        yar)
      (qad (yho (ps_try (iy:=2) (jn:=4) (fun _ _ z=>z) rfl rfl (psx_if (fun _ _ z=>z) (qbf qbz (pv 0) yab (yak _)) (yhd (pex_call (fun _ _ z=>z) ydb hr (yaa (pv 1) (yaa (pv 3) qac)))) (yhd (qiy (fun _ _ z=>z) hr (qbt qal (ybz (yaa (yau (v:=.ref f0) rfl g0 rfl) (yaa (yau (v:=.ref f1) rfl g1 rfl) (yaa (yau (v:=.ref f2) rfl g2 rfl) qac)))) (pv 0) (fun _ _=>rfl)) (yaa (pv 1) qac)))) sc.nd rfl rfl rfl (Or.inl rfl) (by decide) rfl gm))
      (qad (ya5 (qt_of (pt_cmp (pc_isN (pv 2))))
        (yae (yai (qab qah)))
        yar)
      (qad (ya5 (QW.pt (yfr (yat yik (qaq qgt hr (yal (qab (pv 2)) yad)) (qab qah) (yak _)) (qeb (yct (qar yas rfl (B.of rfl) boot_isinstance (qa_at (qab (qjc (pv 2))) (yal (qab (qa3 (v:=.ty "bool") rfl (B.of rfl) boot_bool rfl)) yad)))))))
        (yae (yai (qab qah)))
        yar)
      (yae (yai (qav (qa_at (qab (qjc (pv 2))) yad))))))))))),?_⟩
    refine ⟨(by show 3≤sizeLine; decide),fun Cl0 hCl0=>?_⟩
    have s0:Same H (upd H Cl0 (.lst [.int 1,.int 3,.int 5])):=(Same.refl H).upd hCl0
    have e0:upd H Cl0 (.lst [.int 1,.int 3,.int 5]) Cl0=some (.lst (([1,3,5]:List Int).map V.int)):=qaa
    revert s0 e0
    generalize upd H Cl0 (.lst [.int 1,.int 3,.int 5])=H0
    intro s0 e0
    refine ⟨fun σ H'=>∃ (Cl:Addr) (cl:List Int),σ=[some (.int way),some v,some .non,some (.ref Cl),none]∧Same H H'∧H' Cl=some (.lst (cl.map V.int))∧cl.length≤64∧(way=3→qai d=none→(uniq (qcz d)).length≤cl.length),?_,?_⟩
    · refine ⟨_,rfl,rfl,_,rfl,?_⟩
      by_cases h3:way=3
      rotate_left
      · refine qdt (by simpa using fun z:(way:Int)=3=>h3 (by omega)) ?_
        exact iteF ⟨Cl0,[1,3,5],rfl,s0,e0,by decide,fun z=>absurd z h3⟩
      refine yfm (by subst h3; decide +kernel) ?_
      refine ⟨_,rfl,v,d,rfl,hv.same s0,fun hb H2 s2=>?_,fun b hb D H2 s2 nD eD=>?_⟩
      rotate_left
      · refine ⟨.list [optD b],.str "harms",.lst eD (.cons (yec _ b) .nil),.str _,yfb b,qel,qf8 b,_,rfl,qdt (by rw [due_ne]; exact Bool.false_ne_true) ?_⟩
        exact ⟨Cl0,[1,3,5],rfl,s0.trans s2,s2 _ _ e0,by decide,fun _ z=>by rw [hb] at z; cases z⟩
      refine ⟨.str "harms",.str "harms",.str _,.str _,qel,qel,by decide +kernel,_,rfl,yfm (by decide +kernel) ?_⟩
      obtain ⟨ds,rfl,hall⟩:=qcu hb
      have hvx:=(hv.good hb).same (s0.trans s2)
      obtain ⟨_,_,hs,S,_,_,_,okh,hA⟩:=ycv hvx hb
      have hu3:(uniq (qcz (.list ds))).length≤3:=by
        rw [← hA,← (ycw hs).length_eq]; exact qeq okh
      have hds3:ds.length≤3:=by
        by_cases hq:3 < ds.length
        · have hb':(if 3 < ds.length then some none else _)=none:=hb
          rw [if_pos hq] at hb'; cases hb'
        · omega
      have hv':At H2 v (.list ds):=by
        rcases hvx with h | ⟨e,_⟩
        · exact h
        · cases e
      obtain ⟨L,us,rfl,hL,hu⟩:=hv'.lstEq
      have hul:=hu.length
      refine ⟨_,rfl,_,rfl,L,rfl,⟨_,SqL.of hL⟩,fun D hD=>yb3 (n:=us.length) (fun i H'=>Same H2 H'∧∃ as:List Addr,H' D=some (.lst (as.map V.ref))∧as.length=i∧∀ (j:Nat) a,as[j]?=some a→a≠D∧H' a=some (.lst ((yaw (ds.getD j .none)).map V.int))) ⟨(Same.refl H2).upd hD,[],qaa,rfl,fun j a h=>by simp at h⟩ ?_ ?_⟩
      rotate_left
      · rintro i H3 hi ⟨s3,as,e3,al,ha3⟩
        refine ⟨⟨_,_,SqL.of (s3 _ _ hL),List.getElem?_eq_getElem hi⟩,?_⟩
        rintro x H4 ⟨rfl,hx⟩
        have hx':=hx _ (SqL.of (s3 _ _ hL))
        obtain ⟨dx,hdx,hat⟩:=hu.get hx'
        have hgd:ds.getD i .none=dx:=by rw [List.getD_eq_getElem?_getD,hdx]; rfl
        have hbx:=hall dx (List.mem_of_getElem? hdx)
        refine ⟨ya2.set (ya2.refl _) rfl,yes ?_⟩
        refine ⟨_,rfl,x,dx,rfl,.inl (.inl (hat.same s3)),fun hf=>(by rw [hbx] at hf; cases hf),fun _ own H5 s5 hown gown=>?_⟩
        have no:own≠D:=fun z=>by rw [z,e3] at hown; cases hown
        refine ⟨as.map V.ref,s5 _ _ e3,qbw (by rw [List.length_map]; omega),(s3.trans s5).at hD,as++[own],by rw [qaa,List.map_append]; rfl,by simp [al],fun j a hj=>?_⟩
        rcases Nat.lt_or_ge j as.length with hlt | hge
        · rw [List.getElem?_append_left hlt] at hj
          obtain ⟨h1,h2⟩:=ha3 j a hj
          exact ⟨h1,by rw [qaf h1]; exact s5 _ _ h2⟩
        · rw [List.getElem?_append_right hge] at hj
          have hj0:j - as.length=0:=by
            rcases Nat.eq_zero_or_pos (j - as.length) with h | h
            · exact h
            · rw [List.getElem?_eq_none (by simp; omega)] at hj; cases hj
          rw [hj0] at hj
          have ea:own=a:=Option.some.inj hj
          subst ea
          refine ⟨no,?_⟩
          rw [qaf no,show j=i by omega,hgd]
          exact gown
      rintro H3 ⟨s3,as,e3,al,ha3⟩
      refine ⟨⟨_,SqL.of (s3 _ _ hL),Nat.le_refl _⟩,?_⟩
      refine ⟨Nat.zero_le _,fun z hz=>?_⟩
      have sz:=(Same.refl H3).upd (o:=.lst []) hz
      unfold tNil
      refine sum_one (us:=as.map V.ref) (xss:=ds.map fun d=>(yaw d).map V.int) (sz _ _ e3) qaa (by simp; omega) (by simp; omega) (fun i v xs h1 h2=>?_) fun p H5 s5 g5=>?_
      · obtain ⟨a,h1',rfl⟩:=yb9 h1
        rw [List.getElem?_map,Option.map_eq_some_iff] at h2
        obtain ⟨dx,hdx,rfl⟩:=h2
        have hgd:ds.getD i .none=dx:=by rw [List.getD_eq_getElem?_getD,hdx]; rfl
        have h3:=(ha3 i a h1').2
        rw [hgd] at h3
        have:=(ygg (hall dx (List.mem_of_getElem? hdx))).2
        exact ⟨by rw [List.length_map]; omega,a,rfl,sz _ _ h3⟩
      rw [yhi] at g5
      have h12:(ds.flatMap yaw).length≤4000:=by
        have key:∀ l:List PyData,(∀ x∈l,qbk x=true)→(l.flatMap yaw).length≤2 * l.length:=by
          intro l
          induction l with
          | nil=>intro _; simp
          | cons x l ih=>intro h; rw [List.flatMap_cons,List.length_append,List.length_cons]; have:=(ygg (h x (by simp))).2; have:=ih fun y hy=>h y (by simp [hy]); omega
        have:=key ds hall
        omega
      have s25:=s3.trans (sz.trans s5)
      refine ⟨p,_,rfl,g5,h12,fun q hq=>⟨q,_,rfl,qaa,_,rfl,Cl0,_,rfl,SqL.of (((Same.refl H5).upd hq) _ _ (s25 _ _ (s2 _ _ e0))),fun r hr=>?_⟩⟩
      rw [qcg,← List.map_take]
      refine ⟨r,([1,3,5]:List Int).take (uniq (ds.flatMap yaw)).length,rfl,(s0.trans s2).trans (s25.trans (((Same.refl H5).upd hq).trans ((Same.refl _).upd hr))),qaa,?_,fun _ _=>?_⟩
      · rw [List.length_take]; simp; omega
      · have hu3':(uniq (ds.flatMap yaw)).length≤3:=hu3
        show (uniq (ds.flatMap yaw)).length≤_
        rw [List.length_take]; simp; omega
    rintro σ' H1 ⟨Cl,cl,rfl,s1,gcl,h64,hcl⟩
    have good:qai d=none→∀ H2,Same H1 H2→Q (.str "harms") H2:=fun hb H2 s2=>q1 hb H2 (s1.trans s2)
    refine ⟨_,rfl,rfl,_,rfl,?_⟩
    by_cases h3:way=3
    · refine yfm (by subst h3; decide +kernel) ?_
      refine ⟨_,rfl,_,rfl,v,d,Cl,cl,rfl,hv.same s1,gcl,h64,fun hb=>⟨hcl h3 hb,fun r H2 s2=>?_⟩,fun b hb a H2 s2 xa=>?_⟩
      · exact ⟨_,rfl,_,rfl,iteB (decide_eq_true rfl) (good hb H2 s2)⟩
      · refine ⟨a,rfl,a,c 2,_,rfl,xa,kx.em,?_⟩
        refine ⟨_,rfl,_,rfl,iteN (decide_eq_false (fun z=>by cases z)) ?_⟩
        refine ⟨_,rfl,a,c 2,_,2,rfl,xa,kx.ty,kx.lt,kx.one,kx.ve,fun H3 s3=>?_⟩
        have xa3:=XAt.same s3 xa
        refine ⟨rfl,_,rfl,iteN (by decide +kernel) ?_⟩
        refine ⟨_,rfl,a,c 2,_,_,rfl,xa3,xo,nf1,rfl,_,_,_,false,rfl,AtX.ty (.inl (yec _ b)),by cases b <;> rfl,_,rfl,iteF ?_⟩
        exact ⟨_,rfl,a,c 2,_,_,rfl,xa3,xo,nf1,rfl,z1,fun D hD=>q2 b hb D _ ((s1.trans (s2.trans s3)).upd hD) ((s1.trans (s2.trans s3)).free hD) qaa⟩
    · refine qdt (by simpa using fun z:(way:Int)=3=>h3 (by omega)) ?_
      obtain ⟨fw,hfw,kw,tw⟩:∃ fw,atI [V.ref f0,.ref f1,.ref f2] (way:Int)=some (.ref fw)∧PySem.W.keepIn K (.ref fw)=true∧∀ v d H Q E,AtY H v d→
          (qai d=none→∀ r H',Same H H'→Q r H')→(∀ b,qai d=some b→∀ a H',Same H H'→XAt H' a (c 2) [("number",optN b)]→E (.ref a) none H')→
          ∃ k fd ps sp,k≤9∧yde K fd ps []∧FnOk P w K mg base (CX1 P w) k fw fd ps sp∧sp [v] H Q E:=by
        match way,hw4,h3 with
        | 0,_,_=>exact ⟨f0,rfl,k0,t0⟩
        | 1,_,_=>exact ⟨f1,rfl,k1,t1⟩
        | 2,_,_=>exact ⟨f2,rfl,k2,t2⟩
        | 3,_,h=>exact absurd rfl h
      refine ⟨(by show 3≤sizeLine; decide),fun D hD=>?_⟩
      have s1':Same H1 (upd H1 D (.lst [.ref f0,.ref f1,.ref f2])):=(Same.refl H1).upd hD
      have e1:upd H1 D (.lst [.ref f0,.ref f1,.ref f2]) D=some (.lst [.ref f0,.ref f1,.ref f2]):=qaa
      revert s1' e1
      generalize upd H1 D (.lst [.ref f0,.ref f1,.ref f2])=H1'
      intro s1' e1
      refine ⟨_,rfl,D,_,_,_,rfl,rfl,SqL.of e1,hfw,fw,rfl,kw,_,rfl,?_⟩
      refine tw v d H1' _ _ (hv.same (s1.trans s1')) (fun hb r H2 s2=>?_) (fun b hb a H2 s2 xa=>?_)
      · exact ⟨_,rfl,_,rfl,iteB (decide_eq_true rfl) (good hb H2 (s1'.trans s2))⟩
      · refine ⟨a,rfl,a,c 2,_,rfl,xa,kx.em,?_⟩
        refine ⟨_,rfl,_,rfl,iteN (decide_eq_false (fun z=>by cases z)) ?_⟩
        refine ⟨_,rfl,a,c 2,_,2,rfl,xa,kx.ty,kx.lt,kx.one,kx.ve,fun H3 s3=>?_⟩
        have xa3:=XAt.same s3 xa
        refine ⟨rfl,_,rfl,iteN (by decide +kernel) ?_⟩
        refine ⟨_,rfl,a,c 2,_,_,rfl,xa3,xo,nf1,rfl,_,_,_,false,rfl,AtX.ty (.inl (yec _ b)),by cases b <;> rfl,_,rfl,iteF ?_⟩
        have s13:=s1.trans (s1'.trans (s2.trans s3))
        exact ⟨_,rfl,a,c 2,_,_,rfl,xa3,xo,nf1,rfl,z1,fun D hD=>q2 b hb D _ (s13.upd hD) (s13.free hD) qaa⟩
end
end Mh
set_option Elab.async false
set_option linter.all false
set_option maxRecDepth 100000
set_option maxHeartbeats 4000000
namespace Mh
open PySem L2 PyProof.Rows Mx
def vD:V→PyData | .int i=>.int i | .str x=>.str x | .bl b=>.bool b | _=>.none
def hmD (h:Hm):PyData:=.tuple (.str h.w :: (h.c.map PyData.int++h.r.map vD))
theorem rest_at {H:Hp} {ns:List Str} {vs:List V} (h:Rest ns vs):AtAll H vs (vs.map vD):=by
  induction h with
  | nil=>exact .nil
  | bit hb _ ih=>obtain ⟨b,rfl⟩:=hb; exact .cons (.int _) ih
  | how hb _ ih=>rcases hb with rfl | rfl <;> exact .cons (.str _) ih
theorem qi7 {H:Hp}:∀ (cs:List Int),AtAll H (cs.map V.int) (cs.map PyData.int)
  | []=>.nil
  | c :: cs=>.cons (.int c) (qi7 cs)
theorem hm_at {H:Hp} {v:V} {h:Hm} {ns:List Str} (x:HAt H v h) (ok:okH h ns):At H v (hmD h):=by
  obtain ⟨a,rfl,ha⟩:=x
  exact .tup ha (.cons (.str _) ((qi7 h.c).append (rest_at ok.rest)))
theorem qho {ns:List Str} {vs:List V} (h:Rest ns vs):yav ns (vs.map vD)=true:=by
  induction h with
  | nil=>rfl
  | bit hb _ ih=>
    obtain ⟨b,rfl⟩:=hb
    show (ybu "bit" (.int (b2i b)) && _)=true
    rw [ih]
    cases b <;> decide +kernel
  | how hb _ ih=>
    rcases hb with rfl | rfl
    · show (ybu "how" (.str "and") && _)=true
      rw [ih]
      decide +kernel
    · show (ybu "how" (.str "or") && _)=true
      rw [ih]
      decide +kernel
theorem yeb {ns:List Str} {r:List PyData} (hr:yav ns r=true):∀ (c:List Int),(∀ x∈c,0≤x∧x < 64)→yav (nmL c.length ns) (c.map PyData.int++r)=true
  | [],_=>hr
  | x :: c,h=>by
    show (ybu "cell" (.int x) && yav (nmL c.length ns) (c.map PyData.int++r))=true
    rw [yeb hr c fun y hy=>h y (List.mem_cons_of_mem _ hy),Bool.and_true]
    unfold ybu
    rw [if_pos rfl]
    exact decide_eq_true (h x (List.mem_cons_self ..))
theorem qht {ns:List Str} {r:List V} (h:Rest ns r):∀ n∈ns,n="bit"∨n="how":=by
  induction h with
  | nil=>intro n hn; cases hn
  | bit _ _ ih=>
    intro n hn
    rcases List.mem_cons.mp hn with rfl | hn
    · exact .inl rfl
    · exact ih n hn
  | how _ _ ih=>
    intro n hn
    rcases List.mem_cons.mp hn with rfl | hn
    · exact .inr rfl
    · exact ih n hn
theorem yjb {h:Hm} {ns:List Str} (ok:okH h ns):qax h.w=h.c.length:=by
  have hk:KTD.inKeys h.w tabP=true:=by rw [← KTD.isSome_datumAt,ok.tab]; rfl
  obtain ⟨ns',ht,_,hn'⟩:=qgz hk
  have hrest:=qht ok.rest
  have e:=ht.symm.trans ok.tab
  have e2:=Option.some.inj e
  have cnt:∀ (n:Nat) (ms:List Str),(∀ x∈ms,x="bit"∨x="how")→(yaq n ms).countP (fun v=>decide (v=V.str "cell"))=n:=fun n ms hm=>by
    unfold yaq
    rw [List.countP_append,List.countP_replicate,List.countP_eq_zero.mpr]
    · simp
    · intro v hv
      obtain ⟨x,hx,rfl⟩:=List.mem_map.mp hv
      rcases hm x hx with rfl | rfl <;> decide +kernel
  have h1:=cnt (qax h.w) ns' hn'
  rw [e2,cnt _ ns hrest] at h1
  exact h1.symm
theorem qee {h:Hm} {ns:List Str} (ok:okH h ns):qbk (hmD h)=true∧yaw (hmD h)=h.c:=by
  have hk:KTD.inKeys h.w tabP=true:=by rw [← KTD.isSome_datumAt,ok.tab]; rfl
  have hc:ya8 (qax h.w) (h.c.map PyData.int++h.r.map vD)=h.c:=by
    unfold ya8
    rw [yjb ok,List.take_append_of_le_length (by simp),List.take_of_length_le (by simp),List.map_map]
    simp [Function.comp_def,intD]
  refine ⟨?_,hc⟩
  show (KTD.inKeys h.w tabP && (yav (nmOf h.w) (h.c.map PyData.int++h.r.map vD) && decide (ya8 (qax h.w) (h.c.map PyData.int++h.r.map vD)).Nodup))=true
  rw [hk,hc,yfj ok.tab,yeb (qho ok.rest) h.c ok.rg,decide_eq_true ok.nd]
  rfl
end Mh
set_option Elab.async false
set_option linter.all false
set_option maxRecDepth 100000
set_option maxHeartbeats 4000000
namespace Mh
open PySem L2 PyProof.Rows Mx
theorem HsV.cons {H:Hp} {u:V} {us:List V} {h:Hm} {hs:List Hm} (x:HsV H (u :: us) (h :: hs)):HAt H u h∧HsV H us hs:=
  ⟨x.at_ 0 u h rfl rfl,⟨by have:=x.len; simpa using this,fun i v g h1 h2=>x.at_ (i + 1) v g h1 h2⟩⟩
theorem hs_at {H:Hp}:∀ {us:List V} {hs:List Hm},HsV H us hs→(∀ h∈hs,∃ ns,okH h ns)→AtAll H us (hs.map hmD)
  | [],[],_,_=>.nil
  | u :: us,h :: hs,x,o=>by
    obtain ⟨x1,x2⟩:=x.cons
    obtain ⟨ns,ok⟩:=o h (List.mem_cons_self ..)
    exact .cons (hm_at x1 ok) (hs_at x2 fun g hg=>o g (List.mem_cons_of_mem _ hg))
  | [],_ :: _,x,_=>by have:=x.len; simp at this
  | _ :: _,[],x,_=>by have:=x.len; simp at this
theorem ydo:∀ {hs:List Hm},(∀ h∈hs,∃ ns,okH h ns)→(hs.map hmD).flatMap yaw=allC hs
  | [],_=>rfl
  | h :: hs,o=>by
    obtain ⟨ns,ok⟩:=o h (List.mem_cons_self ..)
    have ih:=ydo (hs:=hs) fun g hg=>o g (List.mem_cons_of_mem _ hg)
    unfold allC at ih ⊢
    rw [List.map_cons,List.flatMap_cons,List.flatMap_cons,ih,(qee ok).2]
theorem hs_good {H:Hp} {L:Addr} {us:List V} {hs:List Hm} {S:List Int} (hL:H L=some (.lst us)) (hv:HsV H us hs) (ok:okHs hs S):At H (.ref L) (.list (hs.map hmD))∧qai (.list (hs.map hmD))=none∧qcz (.list (hs.map hmD))=allC hs:=by
  refine ⟨.lst hL (hs_at hv ok.ok),yc8 (by rw [List.length_map]; have:=ok.len; omega) fun j hj=>?_,ydo ok.ok⟩
  rw [List.length_map] at hj
  unfold yb7
  have e1:(hs.map hmD).getD j .none=hmD hs[j]:=by rw [List.getD_eq_getElem?_getD,List.getElem?_map,List.getElem?_eq_getElem hj]; rfl
  obtain ⟨ns,og⟩:=ok.ok _ (List.getElem_mem hj)
  have e2:accH (hs.map hmD) (j + 1)=allC (hs.take (j + 1)):=by
    unfold accH
    rw [← List.map_take]
    exact ydo fun g hg=>ok.ok g (List.mem_of_mem_take hg)
  rw [e1,(qee og).1,e2,decide_eq_false (by have:=ok.few (l:=hs.take (j + 1)) (fun h hh=>List.mem_of_mem_take hh); omega)]
  rfl
theorem qft {x:Int} (h:0≤x∧x < 64):Sm 0 0 (.int x):=by
  have:∀ n:Nat,n < 64→(PyData.int (n:Int)).showable=true∧PyData.leavesShort 40 (.int (n:Int))=true:=by decide +kernel
  have h1:=this x.toNat (by omega)
  rw [show ((x.toNat:Nat):Int)=x by omega] at h1
  exact ⟨h1.1,by simp [PyData.depth],h1.2,by simp [PyData.bulk]⟩
end Mh
set_option Elab.async false
set_option linter.all false
set_option maxRecDepth 100000
set_option maxHeartbeats 4000000
namespace L2
open PySem PyProof.Rows
section
variable {X:Cx} {K:PySem.W.Frag}
theorem ygl (h:X.K=K):SlR X (rSlT K):=h ▸ ycr
theorem yfc (h:X.K=K):OpR X (binaryOp .Add) (rCatT K):=h ▸ yfn
end
section
variable {K:PySem.W.Frag} {σ:L2.St} {H:Hp} {te tf:TE} {ta:TA} {d:PyData} {ds es:List PyData} {L:List Addr}
theorem qh7 {t:TE} {n:Nat} (h1:Lay L te σ (.tuple ds) H) (hn:LayN t σ n) (hlt:n < ds.length):Lay L (tSl (rSlT K) te qdq (qhw t)) σ (.tuple (ds.take n)) H:=fun hL H1 s Q k=>
  h1 hL H1 s _ fun v H2 s2 a2=>hn H2 _ ⟨n,rfl,by
    obtain ⟨a,vs,rfl,ha,hw⟩:=a2.tupEq
    have hl:=hw.length
    refine ⟨a,vs,rfl,SqT.of (qak _ _ _ _ ha),fun ⟨_,z⟩=>?_,fun p hp=>k _ _ (s2.upd hp) ?_⟩
    · rw [HT.sIx_nat] at z; omega
    rw [qcg]
    exact yds hL (s.trans s2) hp (hw.take n)⟩
theorem ydd {t:TE} {n:Nat} (h1:Lay L te σ (.tuple ds) H) (hn:LayN t σ n) (h0:0 < n) (h2:0 < ds.length):Lay L (tSl (rSlT K) te (qhw t) qdq) σ (.tuple (ds.drop n)) H:=fun hL H1 s Q k=>
  h1 hL H1 s _ fun v H2 s2 a2=>hn H2 _ ⟨n,rfl,by
    obtain ⟨a,vs,rfl,ha,hw⟩:=a2.tupEq
    have hl:=hw.length
    refine ⟨a,vs,rfl,SqT.of (qak _ _ _ _ ha),fun ⟨z,_⟩=>?_,fun p hp=>k _ _ (s2.upd hp) ?_⟩
    · rw [HT.sIx_nat] at z; omega
    rw [ycy]
    exact yds hL (s.trans s2) hp (hw.drop n)⟩
theorem AtAll.dropLast {H:Hp} {vs:List V} {ds:List PyData} (h:AtAll H vs ds):AtAll H vs.dropLast ds.dropLast:=by
  rw [List.dropLast_eq_take,List.dropLast_eq_take,h.length]
  exact h.take _
theorem yh0 (h1:Lay L te σ (.tuple ds) H) (h2:0 < ds.length):Lay L (tSl (rSlT K) te qdq (qhw (tUn (rU fun i=>V.int (-i)) (tC (.int 1))))) σ (.tuple ds.dropLast) H:=fun hL H1 s Q k=>
  h1 hL H1 s _ fun v H2 s2 a2=>⟨1,rfl,-1,rfl,by
    obtain ⟨a,vs,rfl,ha,hw⟩:=a2.tupEq
    have hl:=hw.length
    refine ⟨a,vs,rfl,SqT.of (qak _ _ _ _ ha),fun ⟨_,z⟩=>?_,fun p hp=>k _ _ (s2.upd hp) ?_⟩
    · unfold HT.sIx at z
      simp at z
      omega
    rw [cut_init]
    exact yds hL (s.trans s2) hp hw.dropLast⟩
theorem ycz (h1:Lay L te σ (.tuple ds) H) (h2:Lay L tf σ (.tuple es) H) (hne:ds≠[]) (z:ds.length + es.length≤1000):Lay L (tOp (rCatT K) te tf) σ (.tuple (ds++es)) H:=fun hL H1 s Q k=>
  h1 hL H1 s _ fun v H2 s2 a2=>h2 hL H2 (s.trans s2) _ fun u H3 s3 a3=>by
    obtain ⟨a,vs,rfl,ha,hw⟩:=(a2.same (qa4 s3 L)).tupEq
    obtain ⟨b,us,rfl,hb,hu⟩:=a3.tupEq
    have l1:=hw.length
    have l2:=hu.length
    refine ⟨a,b,vs,us,rfl,rfl,SqT.of (qak _ _ _ _ ha),SqT.of (qak _ _ _ _ hb),fun e=>hne (by rw [e] at l1; exact List.length_eq_zero_iff.mp l1.symm),by rw [l1,l2]; exact Nat.le_trans z (by decide),fun e=>k _ _ (s2.trans s3) ?_,fun _ p hp=>k _ _ ((s2.trans s3).upd hp) (yds hL ((s.trans s2).trans s3) hp (hw.append hu))⟩
    subst e
    have:es=[]:=List.length_eq_zero_iff.mp l2.symm
    subst this
    rw [List.append_nil]
    exact .tup ha hw
theorem qhv (h1:Lay L te σ (.tuple ds) H):Lay L (tCB (fun xs H Q=>∃ p ys,xs=[.ref p]∧(SqL K H p ys∨SqT K H p ys)∧∀ l,H l=none→Q (.ref l) (upd H l (.lst ys))) (qbx te tNil)) σ (.list ds) H:=fun hL H1 s Q k=>
  h1 hL H1 s _ fun v H2 s2 a2=>by
    obtain ⟨a,vs,rfl,ha,hw⟩:=a2.tupEq
    exact ⟨a,vs,rfl,.inr (SqT.of (qak _ _ _ _ ha)),fun p hp=>k _ _ (s2.upd hp) (qdo hL (s.trans s2) hp hw)⟩
theorem qit {t:TE} {i:Int} {j:Nat} {d:PyData} (h1:Lay L te σ (.tuple ds) H) (hn:∀ H1 (Q:VK),Q (.int i) H1→t σ H1 Q) (hd:ds[j]?=some d) (hi:∀ vs:List V,vs.length=ds.length→∀ v,vs[j]?=some v→atI vs i=some v):Lay L (tOp (rIxT K) te t) σ d H:=fun hL H1 s Q k=>
  h1 hL H1 s _ fun v H2 s2 a2=>hn H2 _ (by
    obtain ⟨a,vs,rfl,ha,hw⟩:=a2.tupEq
    obtain ⟨x,hx,hat⟩:=hw.getD hd
    exact ⟨a,vs,i,x,rfl,rfl,SqT.of (qak _ _ _ _ ha),hi vs hw.length x hx,k x H2 s2 hat⟩)
theorem layl_set {i:Nat} {rest:TS} {KK:Ends} (h:LayL [] te σ ds H) (k:∀ a vs H',Same H H'→H' a=some (.lst vs)→AllX H' vs ds→rest KK (σ.set i (some (.ref a))) H'):tSeq (tAsg te (yex i)) rest KK σ H:=
  h (fun b hb=>by cases hb) H (Same.refl H) _ fun a vs H' s' ha hx=>k a vs H' s' (qak _ _ _ _ ha) (hx.same (qak _ _))
end
end L2
namespace Mh
open PySem L2 PyProof.Rows Mx
def qbu:List Str:=["stuck","slow","turns","sets","keeps","other","both","nowhere","misreads","none"]
theorem at_last {vs:List V} {v:V} (h:vs[vs.length - 1]?=some v):atI vs (-1)=some v:=by
  rcases List.eq_nil_or_concat vs with e | ⟨L,b,e⟩
  · subst e; simp at h
  · subst e
    have hb:b=v:=by simpa using h
    subst hb
    simpa using atI_last L b
theorem part_sm {n:Str} {p:PyData} (h:ybu n p=true):Sm 0 8 p:=by
  unfold ybu at h
  split at h
  · match p,h with
    | .int i,h=>exact (qft (of_decide_eq_true h)).mono
  · split at h
    · match p,h with
      | .int i,h=>
        have h':i=0∨i=1:=of_decide_eq_true h
        exact (qft (x:=i) (by omega)).mono
    · match p,h with
      | .str x,h=>
        have h':x="and"∨x="or":=by
          have h2:((eqV (.str "and") (.str x)) || ((eqV (.str "or") (.str x)) || false))=true:=h
          rw [Bool.or_false,Bool.or_eq_true] at h2
          rcases h2 with z | z
          · exact .inl (of_decide_eq_true z).symm
          · exact .inr (of_decide_eq_true z).symm
        rcases h' with e | e <;> rw [e] <;> exact ⟨by decide +kernel,by decide +kernel,by decide +kernel,by decide +kernel⟩
theorem qdn:∀ x∈[("stuck" : Str),"slow","forgets","misreads","turns","sets","keeps","nowhere","other","both","none","Stuck"],Sm 0 8 (.str x):=by
  intro x hx
  have:(PyData.str x).showable=true∧(PyData.str x).depth≤0∧(PyData.str x).leavesShort 40=true∧(PyData.str x).bulk≤8:=by
    revert x
    decide +kernel
  exact this
theorem ygu {d:PyData} (h:qbk d=true):∃ hd,d=.tuple hd∧3≤hd.length∧hd.length≤5∧∀ y∈hd,Sm 0 8 y:=by
  have hw:qd4 d=true:=by
    cases hq:qd4 d with
    | true=>rfl
    | false=>rw [qfv hq] at h; cases h
  obtain ⟨x,ps,rfl,hk⟩:=qfe hw
  have h':(KTD.inKeys x tabP && (yav (nmOf x) ps && decide (ya8 (qax x) ps).Nodup))=true:=h
  rw [Bool.and_eq_true,Bool.and_eq_true] at h'
  have hp:=h'.2.1
  have hl:=qcx hp
  obtain ⟨_,_,f3,f4,f5,_⟩:=yhb x (ygv hk)
  refine ⟨.str x :: ps,rfl,by simp; omega,by simp; omega,fun y hy=>?_⟩
  rcases List.mem_cons.mp hy with rfl | hy
  · refine qdn x ?_
    have:=ygv hk
    simp only [List.mem_cons,List.not_mem_nil,or_false] at this ⊢
    rcases this with h | h | h | h | h | h | h | h | h | h <;> simp [h]
  · obtain ⟨k,hk2,rfl⟩:=List.mem_iff_getElem.mp hy
    have:=(yen hl).mp hp k (by omega)
    rw [List.getD_eq_getElem?_getD (l:=ps),List.getElem?_eq_getElem hk2] at this
    exact part_sm this
def odds (y z:PyData):List PyData:=[.none,.int 64,.int (-1),.bool true,.str "0",.int 2,.str "and",.str "or",.str "xor",.list [.int 0],.int (10 ^ (30:Int).toNat),y,z,.int 63,.int 0,.int 1]
def bend (hd:List PyData) (k:Nat) (x:PyData):PyData:=.tuple (hd.take k++[x]++hd.drop (k + 1))
def yh5 (hd:List PyData):List PyData:=[.tuple ([.str "Stuck"]++hd.drop 1),.tuple ([.none]++hd.drop 1),.list hd,.tuple hd.dropLast,.tuple (hd++[.int 0]),.tuple [],.none,.str "stuck"]
def some2 (hd:List PyData):List PyData:=qbu.map fun w=>.tuple ([.str w]++hd.drop 1)
theorem ygp {y z:PyData} (hy:Sm 0 8 y) (hz:Sm 0 8 z):∀ x∈odds y z,Sm 1 60 x:=by
  have key:∀ x∈[PyData.none,.int 64,.int (-1),.bool true,.str "0",.int 2,.str "and",.str "or",.str "xor",.list [.int 0],.int (10 ^ (30:Int).toNat),.int 63,.int 0,.int 1],x.showable=true∧x.depth≤1∧x.leavesShort 40=true∧x.bulk≤60:=by decide +kernel
  intro x hx
  unfold odds at hx
  simp only [List.mem_cons,List.not_mem_nil,or_false] at hx
  by_cases e1:x=y
  · rw [e1]; exact hy.mono
  by_cases e2:x=z
  · rw [e2]; exact hz.mono
  refine key x ?_
  simp only [List.mem_cons,List.not_mem_nil,or_false]
  rcases hx with h | h | h | h | h | h | h | h | h | h | h | h | h | h | h | h <;> first | exact absurd h e1 | exact absurd h e2 | (rw [h]; simp)
def qf6 (ds:List PyData) (d3:Int):List PyData:=[.list (ds++[.tuple [.str "turns",.int d3,.int ((d3 + 7) % 64),.int 0]]),.list ((List.replicate 4 ds).flatten.take 4),.tuple ds,.none,.dict [],.list (ds++[.none]),.tuple [.str "stuck",.int 0,.int 0],.list [.tuple [.str "stuck",.int 0,.int 0]]]
theorem qfu {ds:List PyData} {d3:Int} (l3:ds.length≤3) (h:∀ x∈ds,Sm 3 1000 x) (m3:0≤d3) (n3:d3 < 64):∀ x∈qf6 ds d3,Sm 8 50000 x∧∀ es,x=.list es→es.length≤4∧∀ e∈es,Sm 3 1000 e:=by
  have ls:∀ {ys:List PyData},(∀ y∈ys,Sm 3 1000 y)→ys.length≤4→Sm 8 50000 (.list ys)∧∀ es,PyData.list ys=.list es→es.length≤4∧∀ e∈es,Sm 3 1000 e:=fun h1 h2=>⟨(Sm.list (n:=4) (D:=3) (B:=1000) h1 h2).mono,fun es e=>by cases e; exact ⟨h2,h1⟩⟩
  have hn:Sm 3 1000 PyData.none:=⟨by decide +kernel,by decide +kernel,by decide +kernel,by decide +kernel⟩
  have h0:Sm 0 0 (.int 0):=qft (by decide)
  have ht:Sm 3 1000 (.tuple [.str "turns",.int d3,.int ((d3 + 7) % 64),.int 0]):=(Sm.tuple (n:=4) (D:=0) (B:=8) (fun y hy=>by
    simp only [List.mem_cons,List.not_mem_nil,or_false] at hy
    rcases hy with rfl | rfl | rfl | rfl
    · exact qdn "turns" (by simp)
    · exact (qft ⟨m3,n3⟩).mono
    · exact (qft (by omega)).mono
    · exact h0.mono) (by simp)).mono
  have hst:Sm 3 1000 (.tuple [.str "stuck",.int 0,.int 0]):=(Sm.tuple (n:=4) (D:=0) (B:=8) (fun y hy=>by
    simp only [List.mem_cons,List.not_mem_nil,or_false] at hy
    rcases hy with rfl | rfl | rfl
    · exact qdn "stuck" (by simp)
    · exact h0.mono
    · exact h0.mono) (by simp)).mono
  intro x hx
  unfold qf6 at hx
  simp only [List.mem_cons,List.not_mem_nil,or_false] at hx
  rcases hx with rfl | rfl | rfl | rfl | rfl | rfl | rfl | rfl
  · refine ls (fun y hy=>?_) (by simp; omega)
    rcases List.mem_append.mp hy with hy | hy
    · exact h y hy
    · rw [List.mem_singleton.mp hy]; exact ht
  · refine ls (fun y hy=>?_) (by rw [List.length_take]; omega)
    obtain ⟨l,hl,hy⟩:=List.mem_flatten.mp (List.mem_of_mem_take hy)
    rw [(List.mem_replicate.mp hl).2] at hy
    exact h y hy
  · exact ⟨(Sm.tuple (n:=4) (D:=3) (B:=1000) h (by omega)).mono,fun es e=>by cases e⟩
  · exact ⟨hn.mono,fun es e=>by cases e⟩
  · exact ⟨⟨by decide +kernel,by decide +kernel,by decide +kernel,by decide +kernel⟩,fun es e=>by cases e⟩
  · refine ls (fun y hy=>?_) (by simp; omega)
    rcases List.mem_append.mp hy with hy | hy
    · exact h y hy
    · rw [List.mem_singleton.mp hy]; exact hn
  · exact ⟨hst.mono,fun es e=>by cases e⟩
  · exact ls (fun y hy=>by rw [List.mem_singleton.mp hy]; exact hst) (by simp)
section
variable {P:Program} {w:World} {K:PySem.W.Frag} {mg:Str→Option Value} {base:Heap}
abbrev qbq:Stmt:=top 46
theorem qd2:FnScope ["_law_harms_here","_law_d","_law_at","_law_harm_here","_law_k","_law_odd","_law_some","_law_words","_law_more","_law_things"] ["_law_harms_here","_law_d"] (yac qbq):=⟨rfl,rfl,rfl,by decide +kernel,rfl,by decide +kernel,by decide +kernel⟩
def yic:Sp:=fun vs H Q _=>∃ v ds d,∃ d0 d1 d2 d3:Int,vs=[v,.ref d]∧At H v (.list ds)∧1≤ds.length∧ds.length≤3∧(∀ x∈ds,qbk x=true)∧H d=some (.lst [.int d0,.int d1,.int d2,.int d3])∧0≤d2∧d2 < 42∧0≤d3∧d3 < 64∧
  ∀ r dd H',Same H H'→AtX H' r dd→Sm 8 50000 dd→(d2 < 34→∃ es,dd=.list es)→(∀ es,dd=.list es→es.length≤4∧∀ e∈es,Sm 3 1000 e)→Q r H'
theorem ok_bent (B:Bl mg) (F:FnAt K mg "_law_bent" qbq ["_law_harms_here","_law_d"]):Has P w K mg base 1 "_law_bent" ["_law_harms_here","_law_d"] yic:=by
  refine Has.ofQ F qd2 (fun vs H Q E h=>?_) (fun f cdv A outer s H vs Q E hr h=>?_)
  · obtain ⟨v,ds,d,d0,d1,d2,d3,rfl,_⟩:=h
    rfl
  · obtain ⟨v,ds,d,d0,d1,d2,d3,rfl,hv,l1,l3,hall,hd,m2,n2,m3,n3,q⟩:=h
    have hsl:(sizeLine:Nat)=16777216:=sizeLine_eq
    obtain ⟨l,ws,rfl,hl,hw⟩:=id hv.lstEq
    have hwl:=hw.length
    have sc:=qd2
    refine ⟨_,(qat rfl (qad (qam (i:=2) sc.nd rfl (Or.inl rfl) (ybg qc4 (ya7 qal (qab (pv 1)) (qab yab) (fun _ _=>rfl)) (qar yaf rfl (B.of rfl) boot_len (yal (qab (pv 0)) yad))))
      (qad (qam (i:=3) sc.nd rfl (Or.inr rfl) (ya7 qal (qab (pv 0)) (qab (pv 2)) (fun _ _=>rfl)))
      (qad (qam (i:=4) sc.nd rfl (Or.inr rfl) (ybg qbv (qab yab) (ybg qc4 (ya7 qal (qab (pv 1)) (qab yab) (fun _ _=>rfl)) (ybg yg3 (qar yaf rfl (B.of rfl) boot_len (yal (qab (pv 3)) yad)) (qab yab)))))
      (qad (qam (i:=5) sc.nd rfl (Or.inl rfl) (qav (qao (qab ycb) (qao (qab yab) (qfg (qab (pe_un qiv yab)) (qao (qab qex) (qao (qab qah) (qao (qab yab) (qao (qab qah) (qao (qab qah) (qao (qab qah) (qek (qav (qao (qab yab) yad)) (yfa (ybg yh3 (qab yab) (qab yab)) (qcb (ya7 qbl (qab (pv 3)) (qab yab) (fun _ _=>rfl)) (qcb (ya7 qbl (qab (pv 3)) (qab (pe_un qiv yab)) (fun _ _=>rfl)) (qao (qab yab) (qao (qab yab) (qao (qab yab) yad))))))))))))))))))
      (qad (yho (yjf (i:=6) rfl sc.nd rfl (Or.inl rfl) rfl (ya1 rfl) (M:=["_law_one","_law_harm_here","_law_k"]) (ix:=[none,some 3,some 4]) (qch (pv 5)) (fun _ _ _ _=>(yam (i:=0) (show List.Nodup (["_law_one","_law_harm_here","_law_k"]:List Str) by decide +kernel) rfl (Or.inl rfl))) (fun _ _ _ _=>ycq) (fun _ _ _ _=>(ya9 (yfc (K:=K) rfl) (ya9 (yfc (K:=K) rfl) (ybc (ygl (K:=K) rfl) (pv 1) qa0 (qas (pv 2))) (yei (yaa (pv 0) qac))) (ybc (ygl (K:=K) rfl) (pv 1) (qas (ya9 qbv (pv 2) yab)) qa0)))))
      (qad (qam (i:=6) sc.nd rfl (Or.inl rfl) (ybg qb7 (qab (pv 6)) (qav (yfa (ybg yfn (ybk (qao (qab qah) yad)) (ydm ycr (qab (pv 3)) (qas yab) qa0)) (yfa (ybg yfn (ybk (qao (qab ycb) yad)) (ydm ycr (qab (pv 3)) (qas yab) qa0)) (yga (qcc qdv rfl (B.of rfl) boot_list (yal (qab (pv 3)) yad)) (qcb (ydm ycr (qab (pv 3)) qa0 (qas (pe_un qiv yab))) (yfa (ybg yfn (qab (pv 3)) (ybk (qao (qab yab) yad))) (qeo (ybk yad) (qao (qab ycb) (qao (qab qah) yad)))))))))))
      (qad (qam (i:=7) sc.nd rfl (Or.inl rfl) (qab (QE.of (qje (xs:=qbu) (by decide +kernel)))))
      (qad (qam (i:=6) sc.nd rfl (Or.inl rfl) (ybg qb7 (qab (pv 6)) (qab (ybw rfl (ya1 rfl) (M:=["_law_word","_law_harm_here"]) (ix:=[none,some 3]) (qch (pv 7)) (fun _ _ _ _=>(yam (i:=0) (show List.Nodup (["_law_word","_law_harm_here"]:List Str) by decide +kernel) rfl (Or.inl rfl))) (fun _ _ _ _=>ycq) (fun _ _ _ _=>(ya9 (yfc (K:=K) rfl) (yei (yaa (pv 0) qac)) (ybc (ygl (K:=K) rfl) (pv 1) (qas yab) qa0)))))))
      (qad (ya5 (yat op_lt (ya7 qal (qab (pv 1)) (qab yab) (fun _ _=>rfl)) (qab yab) (yak _))
        (yae (yai (ybg qb7 (ybg qb7 (ydm qb3 (qab (pv 0)) qa0 (qas (pv 2))) (qav (qcb (ya7 qal (qab (pv 6)) (ya7 qal (qab (pv 1)) (qab yab) (fun _ _=>rfl)) (fun _ _=>rfl)) yad))) (ydm qb3 (qab (pv 0)) (qas (ya9 qbv (pv 2) yab)) qa0))))
        yar)
      (qad (qam (i:=8) sc.nd rfl (Or.inl rfl) (ybg qb7 (qab (pv 0)) (qav (qeo (ybk (qao (qab qah) (qcb (ya7 qal (qab (pv 1)) (qab yab) (fun _ _=>rfl)) (yfa (ybg qc4 (ybg qbv (ya7 qal (qab (pv 1)) (qab yab) (fun _ _=>rfl)) (qab yab)) (qab yab)) (qao (qab yab) yad))))) yad))))
      (qad (qam (i:=9) sc.nd rfl (Or.inl rfl) (qav (yal (qab (pv 8)) (qcb (ydm qb3 (ybg yh6 (qab (pv 0)) (qab yab)) qa0 (qas yab)) (yga (qcc qda rfl (B.of rfl) boot_tuple (yal (qab (pv 0)) yad)) (qao (qab ycb) (qfg (qab qhg) (yfa (ybg qb7 (qab (pv 0)) (qav (qao (qab ycb) yad))) (qeo (ybk (qao (qab qah) (qao (qab yab) (qao (qab yab) yad)))) (qek (qav (qeo (ybk (qao (qab qah) (qao (qab yab) (qao (qab yab) yad)))) yad)) yad))))))))))
      (yae (yai (ya7 qal (qab (pv 9)) (ybg yg3 (ya7 qal (qab (pv 1)) (qab yab) (fun _ _=>rfl)) (qab yab)) (fun _ _=>rfl)))))))))))))))),?_⟩
    refine ⟨_,rfl,d,_,_,_,rfl,rfl,SqL.of hd,yag 0 rfl,_,rfl,l,_,rfl,.inl (SqL.of hl),_,_,rfl,rfl,by omega,?_⟩
    obtain ⟨at',hat',hatl⟩:∃ k:Nat,d0 % (ws.length:Int)=(k:Int)∧k < ds.length:=by
      have h1:=Int.emod_nonneg d0 (b:=(ws.length:Int)) (by omega)
      have h2:=Int.emod_lt_of_pos d0 (b:=(ws.length:Int)) (by omega)
      exact ⟨(d0 % (ws.length:Int)).toNat,by omega,by omega⟩
    show yex 2 (V.int (d0 % (ws.length:Int))) _ _ _
    rw [hat']
    obtain ⟨v0,hv0,hat0⟩:=hw.getD (i:=at') (List.getElem?_eq_getElem hatl)
    obtain ⟨hd',ehd,h3,h5,hsm⟩:=ygu (hall _ (List.getElem_mem hatl))
    rw [ehd] at hat0
    obtain ⟨a,vs,rfl,ha,hwa⟩:=id hat0.tupEq
    have hva:=hwa.length
    refine ⟨_,rfl,_,rfl,l,_,_,_,rfl,rfl,SqL.of hl,yet hv0,?_⟩
    refine ⟨_,rfl,d,_,_,_,rfl,rfl,SqL.of hd,yag 1 rfl,_,rfl,a,_,rfl,.inr (SqT.of ha),_,_,rfl,rfl,_,_,rfl,rfl,by omega,_,_,rfl,rfl,?_⟩
    obtain ⟨k,hk,hk1,hkl⟩:∃ k:Nat,1 + d1 % ((vs.length:Int) - 1)=(k:Int)∧1≤k∧k < hd'.length:=by
      have h1:=Int.emod_nonneg d1 (b:=(vs.length:Int) - 1) (by omega)
      have h2:=Int.emod_lt_of_pos d1 (b:=(vs.length:Int) - 1) (by omega)
      exact ⟨(1 + d1 % ((vs.length:Int) - 1)).toNat,by omega,by omega,by omega⟩
    show yex 4 (V.int (1 + d1 % ((vs.length:Int) - 1))) _ _ _
    rw [hk]
    refine gn ?_
    dsimp only
    have y1:hd'[1]?=some hd'[1]:=List.getElem?_eq_getElem (by omega)
    have yl:hd'[hd'.length - 1]?=some hd'[hd'.length - 1]:=List.getElem?_eq_getElem (by omega)
    refine qgo (d:=.list (odds hd'[1] hd'[hd'.length - 1])) ?_ fun x1 H1 s1 a1=>?_
    · unfold odds
      repeat' (first | exact qdu | exact lay_bl | exact qca | exact ycs | exact lay_neg | exact qay | refine yah ?_ ?_ | refine qbm ?_ | refine qb1 ?_)
      · exact lay_pow ⟨by decide,by decide,by decide⟩
      · exact qit (ya0 rfl (hid0 hat0)) (fun _ _ z=>z) y1 fun vs _ v hv=>yag 1 hv
      · exact qit (ya0 rfl (hid0 hat0)) (fun _ _ z=>⟨1,rfl,z⟩) yl fun vs hl v hv=>at_last (by rw [hl]; exact hv)
    have hat1:=hat0.same s1
    obtain ⟨l6,w6,rfl,hl6,hw6⟩:=id a1.lstEq
    have hw6l:w6.length=16:=hw6.length
    refine ⟨_,rfl,l6,rfl,⟨_,SqL.of hl6⟩,fun D hD=>yb3 (n:=w6.length) (fun i H'=>Same H1 H'∧Bld [] H' D (((odds hd'[1] hd'[hd'.length - 1]).take i).map (bend hd' k))) ⟨(Same.refl H1).upd hD,Bld.new⟩ ?_ ?_⟩
    rotate_left
    · rintro i H3 hi ⟨s3,b3⟩
      refine ⟨⟨_,_,SqL.of (s3 _ _ hl6),List.getElem?_eq_getElem hi⟩,?_⟩
      rintro x H4 ⟨rfl,hx⟩
      obtain ⟨dx,hdx,hax⟩:=hw6.get (hx _ (SqL.of (s3 _ _ hl6)))
      refine ⟨ya2.set (ya2.refl _) rfl,yes ?_⟩
      obtain ⟨us,e3,hus⟩:=id b3
      have hul:=b3.len e3
      rw [List.length_map,List.length_take] at hul
      have old:∀ {v d},At H1 v d→At (yba H4 [D]) v d:=fun {v d} h=>h.same fun b ob e=>by
        rw [qbc (by intro z; rw [List.mem_singleton.mp z,hD] at e; cases e)]
        exact s3 _ _ e
      refine lay_go (L:=[D]) (d:=bend hd' k dx) ?_ (fun b hb=>by rw [List.mem_singleton.mp hb,e3]; intro z; cases z) fun v4 H5 s4 a4=>?_
      · unfold bend
        refine ycz (ycz (qh7 (ya0 rfl (old hat1)) (lay_nv rfl) hkl) (qbm (yah (ya0 rfl (old hax)) qay)) ?_ ?_) (ydd (ya0 rfl (old hat1)) (lay_ns rfl) (by omega) (by omega)) ?_ ?_
        · intro z
          have:=congrArg List.length z
          rw [List.length_take,List.length_nil] at this
          omega
        · simp; omega
        · simp
        · simp; omega
      · refine ⟨us,s4 _ _ e3,qbw (by omega),(s3.trans s4).at hD,?_⟩
        have:=(b3.grow s4).push (s4 _ _ e3) a4
        rw [List.take_add_one,hdx,List.map_append]
        exact this
    rintro H3 ⟨s3,b3⟩
    refine ⟨⟨_,SqL.of (s3 _ _ hl6),Nat.le_refl _⟩,?_⟩
    have a3:=b3.out
    rw [hw6l,List.take_of_length_le (Nat.le_of_ble_eq_true rfl)] at a3
    have s13:=s1.trans s3
    have hat3:=hat1.same s3
    dsimp only
    refine qgo (d:=.list ((odds hd'[1] hd'[hd'.length - 1]).map (bend hd' k)++yh5 hd')) ?_ fun x4 H4 s4 a4=>?_
    · refine yev (ya0 rfl (hid0 a3)) ?_ (Nat.le_of_ble_eq_true rfl)
      unfold yh5
      refine qb1 (yah (ycz (qbm (yah ycs qay)) (ydd (ya0 rfl (hid0 hat3)) yhr (by omega) (by omega)) (by simp) (by simp; omega)) (yah (ycz (qbm (yah qdu qay)) (ydd (ya0 rfl (hid0 hat3)) yhr (by omega) (by omega)) (by simp) (by simp; omega)) (yah (qhv (ya0 rfl (hid0 hat3))) (yah (yh0 (ya0 rfl (hid0 hat3)) (by omega)) (yah (ycz (ya0 rfl (hid0 hat3)) (qbm (yah qca qay)) (fun z=>by rw [z] at h3; simp at h3) (by simp; omega)) (yah (qbm qay) (yah qdu (yah ycs qay))))))))
    have s14:=s13.trans s4
    have hat4:=hat3.same s4
    obtain ⟨l4,w4,rfl,hl4,hw4⟩:=id a4.lstEq
    have hw4l:w4.length=24:=hw4.length
    refine ⟨qc2 (by decide),fun pw hpw=>?_⟩
    have s5:Same H4 (upd H4 pw (.lst (qbu.map V.str))):=(Same.refl H4).upd hpw
    have e5:upd H4 pw (.lst (qbu.map V.str)) pw=some (.lst (qbu.map V.str)):=qaa
    revert s5 e5
    generalize upd H4 pw (.lst (qbu.map V.str))=H5
    intro s5 e5
    have hat5:=hat4.same s5
    have a5:=a4.same s5
    have hwS:qbu.length=10:=rfl
    refine ⟨_,rfl,_,rfl,pw,rfl,⟨_,SqL.of e5⟩,fun D2 hD2=>yb3 (n:=10) (fun i H'=>Same H5 H'∧Bld [] H' D2 ((qbu.take i).map fun w=>.tuple ([.str w]++hd'.drop 1))) ⟨(Same.refl H5).upd hD2,Bld.new⟩ ?_ ?_⟩
    rotate_left
    · rintro i H6 hi ⟨s6,b6⟩
      refine ⟨⟨_,_,SqL.of (s6 _ _ e5),by rw [List.getElem?_map,List.getElem?_eq_getElem (by omega)]; rfl⟩,?_⟩
      rintro x H7 ⟨rfl,hx⟩
      obtain ⟨wd,hwd,rfl⟩:=yb9 (hx _ (SqL.of (s6 _ _ e5)))
      refine ⟨ya2.set (ya2.refl _) rfl,yes ?_⟩
      obtain ⟨us,e6,hus⟩:=id b6
      have hul:=b6.len e6
      rw [List.length_map,List.length_take] at hul
      have old:∀ {v d},At H5 v d→At (yba H7 [D2]) v d:=fun {v d} h=>h.same fun b ob e=>by
        rw [qbc (by intro z; rw [List.mem_singleton.mp z,hD2] at e; cases e)]
        exact s6 _ _ e
      refine lay_go (L:=[D2]) (d:=.tuple ([.str wd]++hd'.drop 1)) ?_ (fun b hb=>by rw [List.mem_singleton.mp hb,e6]; intro z; cases z) fun v8 H8 s8 a8=>?_
      · exact ycz (qbm (yah (ya0 rfl (.str _)) qay)) (ydd (ya0 rfl (old hat5)) yhr (by omega) (by omega)) (by simp) (by simp; omega)
      · refine ⟨us,s8 _ _ e6,qbw (by omega),(s6.trans s8).at hD2,?_⟩
        have:=(b6.grow s8).push (s8 _ _ e6) a8
        rw [List.take_add_one,hwd,List.map_append]
        exact this
    rintro H6 ⟨s6,b6⟩
    refine ⟨⟨_,SqL.of (s6 _ _ e5),Nat.le_refl _⟩,?_⟩
    have a6:=b6.out
    rw [List.take_of_length_le (by omega)] at a6
    have a6':At H6 (.ref D2) (.list (some2 hd')):=a6
    have s16:=s14.trans (s5.trans s6)
    obtain ⟨_,us2,e,hD6,hus2⟩:=a6'.lstEq
    cases e
    have hus2l:us2.length=10:=hus2.length
    refine ⟨l4,D2,_,_,rfl,rfl,s6 _ _ (s5 _ _ hl4),hD6,by omega,fun pz hpz=>?_⟩
    have s7:Same H6 (upd H6 pz (.lst (w4++us2))):=(Same.refl H6).upd hpz
    have e7:upd H6 pz (.lst (w4++us2)) pz=some (.lst (w4++us2)):=qaa
    revert s7 e7
    generalize upd H6 pz (.lst (w4++us2))=H7
    intro s7 e7
    have s17:=s16.trans s7
    have hw7:AtAll H7 (w4++us2) (((odds hd'[1] hd'[hd'.length - 1]).map (bend hd' k)++yh5 hd')++some2 hd'):=((hw4.same (s5.trans (s6.trans s7))).append (hus2.same s7))
    have hd7:=s17 _ _ hd
    have hv7:=hv.same s17
    refine ⟨_,rfl,d,_,_,_,rfl,rfl,SqL.of hd7,yag 2 rfl,_,_,rfl,rfl,_,rfl,?_⟩
    have sm1:Sm 0 8 hd'[1]:=hsm _ (List.getElem_mem _)
    have sml:Sm 0 8 hd'[hd'.length - 1]:=hsm _ (List.getElem_mem _)
    have smd:∀ x∈ds,Sm 3 1000 x:=fun x hx=>by
      obtain ⟨h,e,_,g5,gs⟩:=ygu (hall x hx)
      rw [e]
      exact (Sm.tuple (n:=5) (D:=0) (B:=8) gs g5).mono
    have sma:∀ x∈((odds hd'[1] hd'[hd'.length - 1]).map (bend hd' k)++yh5 hd')++some2 hd',Sm 3 1000 x:=fun x hx=>by
      have tp:∀ {ys:List PyData},(∀ y∈ys,Sm 1 60 y)→ys.length≤8→Sm 3 1000 (.tuple ys):=fun h1 h2=>(Sm.tuple (n:=8) (D:=1) (B:=60) h1 h2).mono
      have sn:Sm 1 60 PyData.none:=(ygp sm1 sml _ (by simp [odds]))
      have s0:Sm 1 60 (.int 0):=(ygp sm1 sml _ (by simp [odds]))
      have hs:∀ y∈hd',Sm 1 60 y:=fun y hy=>(hsm y hy).mono
      have hdr:∀ y∈hd'.drop 1,Sm 1 60 y:=fun y hy=>hs y (List.mem_of_mem_drop hy)
      have h1:∀ {z:PyData},Sm 1 60 z→Sm 3 1000 (.tuple ([z]++hd'.drop 1)):=fun {z} hz=>tp (fun y hy=>by
        rcases List.mem_append.mp hy with hy | hy
        · rw [List.mem_singleton.mp hy]; exact hz
        · exact hdr y hy) (by simp; omega)
      rcases List.mem_append.mp hx with hx | hx
      · rcases List.mem_append.mp hx with hx | hx
        · obtain ⟨z,hz,rfl⟩:=List.mem_map.mp hx
          unfold bend
          refine tp (fun y hy=>?_) (by simp; omega)
          rcases List.mem_append.mp hy with hy | hy
          · rcases List.mem_append.mp hy with hy | hy
            · exact hs y (List.mem_of_mem_take hy)
            · rw [List.mem_singleton.mp hy]; exact ygp sm1 sml z hz
          · exact hs y (List.mem_of_mem_drop hy)
        · unfold yh5 at hx
          simp only [List.mem_cons,List.not_mem_nil,or_false] at hx
          rcases hx with rfl | rfl | rfl | rfl | rfl | rfl | rfl | rfl
          · exact h1 (qdn "Stuck" (by simp)).mono
          · exact h1 sn
          · exact (Sm.list (n:=8) (D:=1) (B:=60) hs (by omega)).mono
          · exact tp (fun y hy=>hs y (by rw [List.dropLast_eq_take] at hy; exact List.mem_of_mem_take hy)) (by simp; omega)
          · refine tp (fun y hy=>?_) (by simp; omega)
            rcases List.mem_append.mp hy with hy | hy
            · exact hs y hy
            · rw [List.mem_singleton.mp hy]; exact s0
          · exact tp (fun y hy=>by cases hy) (by simp)
          · exact sn.mono
          · exact (qdn "stuck" (by simp)).mono
      · obtain ⟨wd,hwd,rfl⟩:=List.mem_map.mp hx
        refine h1 (qdn wd ?_).mono
        have hwd':wd∈[("stuck" : Str),"slow","turns","sets","keeps","other","both","nowhere","misreads","none"]:=hwd
        simp only [List.mem_cons,List.not_mem_nil,or_false] at hwd' ⊢
        rcases hwd' with h | h | h | h | h | h | h | h | h | h <;> simp [h]
    by_cases h34:d2 < 34
    · refine iteD h34 ?_
      obtain ⟨ve,de,hve,hde,hae⟩:=hw7.mem m2 (by show d2 < (34:Int); omega)
      refine lay_ret (d:=.list (ds.take at'++[de]++ds.drop (at' + 1))) ?_ fun r H8 s8 a8=>?_
      · refine yev (yev (qfo (ya0 rfl (hid0 hv7)) (lay_nv rfl)) (qb1 (yah ?_ qay)) ?_) (lay_drop (ya0 rfl (hid0 hv7)) (lay_ns rfl)) ?_
        · exact fun hL H9 s9 Q9 k9=>⟨_,rfl,_,rfl,d,_,_,_,rfl,rfl,SqL.of (s9 _ _ hd7),yag 2 rfl,pz,_,_,_,rfl,rfl,SqL.of (s9 _ _ e7),hve,k9 ve H9 (Same.refl H9) (hid0 (hae.same s9))⟩
        · simp; omega
        · simp; omega
      have hes:∀ y∈ds.take at'++[de]++ds.drop (at' + 1),Sm 3 1000 y:=fun y hy=>by
        rcases List.mem_append.mp hy with hy | hy
        · rcases List.mem_append.mp hy with hy | hy
          · exact smd y (List.mem_of_mem_take hy)
          · rw [List.mem_singleton.mp hy]; exact sma de (List.mem_of_getElem? hde)
        · exact smd y (List.mem_of_mem_drop hy)
      have hel:(ds.take at'++[de]++ds.drop (at' + 1)).length≤3:=by simp; omega
      exact q _ _ _ (s17.trans s8) (.inl a8) ((Sm.list (n:=3) hes hel).mono) (fun _=>⟨_,rfl⟩) fun es e=>by cases e; exact ⟨by omega,hes⟩
    · refine qdm h34 ?_
      unfold tNext
      dsimp only
      refine qgo (d:=.list (ds++[.tuple [.str "turns",.int d3,.int ((d3 + 7) % 64),.int 0]])) ?_ fun x8 H8 s8 a8=>?_
      · refine yev (ya0 rfl (hid0 hv7)) (qb1 (yah (qbm (yah ycs (yah ?_ (yah ?_ (yah qca qay))))) qay)) (by simp; omega)
        · exact fun hL H9 s9 Q9 k9=>⟨_,rfl,d,_,_,_,rfl,rfl,SqL.of (s9 _ _ hd7),yag 3 rfl,k9 _ H9 (Same.refl H9) (.int _)⟩
        · exact fun hL H9 s9 Q9 k9=>⟨_,rfl,d,_,_,_,rfl,rfl,SqL.of (s9 _ _ hd7),yag 3 rfl,_,_,rfl,rfl,_,_,rfl,rfl,(by show (0:Int) < 64; decide),k9 _ H9 (Same.refl H9) (.int _)⟩
      have hv8:=hv7.same s8
      have hd8:=s8 _ _ hd7
      refine layl_set (ds:=qf6 ds d3) ?_ fun a9 vs9 H9 s9 e9 hx9=>?_
      · unfold qf6
        refine layl_lst (qbg (qc6 (ya0 rfl (hid0 a8))) (qbg (qc6 (qfo (n:=4) (qi4 (n:=4) (ya0 rfl (hid0 hv8)) (by decide) (by omega)) yhr)) (qbg (qc6 (qil (ya0 rfl (hid0 hv8)))) (qbg (qc6 qdu) (qbg qig (qbg (qc6 (yev (ya0 rfl (hid0 hv8)) (qb1 (yah qdu qay)) (by simp; omega))) (qbg (qc6 (qbm (yah ycs (yah qca (yah qca qay))))) (qbg (qc6 (qb1 (yah (qbm (yah ycs (yah qca (yah qca qay)))) qay))) qio))))))))
      have hd9:=s9 _ _ hd8
      have hlt:(d2 - 34).toNat < (qf6 ds d3).length:=by show _ < 8; omega
      refine layl_at (L:=[]) (i:=d2 - 34) (layl_var (vs:=vs9) rfl ?_ ?_) (fun H1 s1 Q kq=>⟨_,rfl,d,_,_,_,rfl,rfl,SqL.of (s1 _ _ hd9),yag 2 rfl,_,_,rfl,rfl,kq⟩) (by omega) (by show _ < (8:Int); omega) (List.getElem?_eq_getElem hlt) (fun b hb=>by cases hb) H9 (Same.refl H9) _ fun r H10 s10 a10=>?_
      · rw [qbc (by simp)]; exact e9
      · exact hx9.same fun b o e=>by rw [qbc (by simp)]; exact e
      refine q r _ H10 ((s17.trans s8).trans (s9.trans s10)) (a10.same (qak _ _)) (qfu l3 smd m3 n3 _ (List.getElem_mem hlt)).1 (fun z=>absurd z h34) (qfu l3 smd m3 n3 _ (List.getElem_mem hlt)).2
end
end Mh
set_option Elab.async false
set_option linter.all false
set_option maxRecDepth 100000
set_option maxHeartbeats 4000000
namespace Mh
open PySem L2 PyProof.Rows Mx
section
def LY (te:TE) (σ:L2.St) (H:Hp):Prop:=∀ H1,Same H H1→∀ Q:VK,(∀ v H',Same H1 H'→(∃ d,AtY H' v d)→Q v H')→te σ H1 Q
def LYA (n:Nat) (ta:TA) (σ:L2.St) (H:Hp):Prop:=∀ H1,Same H H1→∀ Q:List V→Hp→Prop,(∀ vs H',Same H1 H'→vs.length=n→(∀ x∈vs,∃ d,AtY H' x d)→Q vs H')→ta σ H1 Q
variable {te:TE} {ta:TA} {σ:L2.St} {H:Hp} {n:Nat}
theorem qfn {d:PyData} (h:Lay [] te σ d H):LY te σ H:=fun H1 s Q k=>h (fun b hb=>by cases hb) H1 s Q fun v H' s' a=>k v H' s' ⟨d,.inl (.inl (a.same (qak _ _)))⟩
theorem lya_nil:LYA 0 tNil σ H:=fun H1 s Q k=>k [] H1 (Same.refl H1) rfl fun x h=>by cases h
theorem ybs (h:LY te σ H) (r:LYA n ta σ H):LYA (n + 1) (qbx te ta) σ H:=fun H1 s Q k=>
  h H1 s _ fun v H2 s2 hv=>r H2 (s.trans s2) _ fun vs H3 s3 hl hvs=>k (v :: vs) H3 (s2.trans s3) (by simp [hl]) fun x hx=>by
    rcases List.mem_cons.mp hx with rfl | hx
    · obtain ⟨d,hd⟩:=hv; exact ⟨d,hd.same s3⟩
    · exact hvs x hx
theorem seq_LYA {K:PySem.W.Frag} {g:TG} {tb rest:TS} {KK:Ends} (h:LYA n ta σ H) (hn:n≤100) (k:∀ lp vs H',Same H H'→H' lp=some (.lst vs)→(∀ x∈vs,∃ d,AtY H' x d)→tSeq (tFor (iList K (tC (.ref lp))) g tb) rest KK σ H'):tSeq (tFor (iList K (tLst ta)) g tb) rest KK σ H:=
  h H (Same.refl H) _ fun vs H1 s1 hl hv=>⟨by rw [hl]; exact qc2 (by omega),fun lp hlp=>k lp vs _ (s1.upd hlp) qaa fun x hx=>let ⟨d,hd⟩:=hv x hx; ⟨d,hd.same ((Same.refl H1).upd hlp)⟩⟩
theorem ly_odd:LY (tLst (qbx (tTup (qbx qjd (qbx (tC (.int 1)) tNil))) tNil)) σ H:=fun H1 s Q k=>by
  refine fun e he=>⟨(by show 2≤sizeLine; decide),fun t ht=>⟨(by show 1≤sizeLine; decide),fun l hl=>k _ _ ?_ ⟨.list [oddD],.inr ⟨[oddD],l,[.ref t],rfl,rfl,qaa,rfl,fun i x hx=>?_⟩⟩⟩⟩
  · exact (((Same.refl H1).upd he).upd ht).upd hl
  · match i,hx with
    | 0,hx=>
      cases hx
      have s1:=((Same.refl (upd H1 e (.dK []))).upd (o:=.tup [.ref e,.int 1]) ht).upd (o:=.lst [.ref t]) hl
      refine ⟨oddD,rfl,.inr ⟨rfl,t,e,rfl,?_,s1 _ _ qaa⟩⟩
      exact ((Same.refl _).upd hl) _ _ qaa
    | i + 1,hx=>simp at hx
theorem qgp {j way:Nat} {v:V} {d:PyData} {Q:Bool→Hp→Prop} {tw:TE} (hw:LayN tw σ way) (hj:σ[j]?=some (some v)) (h4:way < 4) (hv:AtY H v d) (k:∀ H',Same H H'→Q false H') :
    tTest (tOp rNeD (yhh qgj [] E0 (qbx tw (qbx (tVar j) tNil))) (yhh qg2 [] E0 (qbx (tVar j) tNil))) σ H Q:=by
  have e1:(!PyData.eqv (.str "harms") (.str "harms"))=false:=by decide +kernel
  have e2:∀ b,(!PyData.eqv (.list [optD b]) (.list [optD b]))=false:=fun b=>by rw [SeqAt.eqv_refl _ (yfb b)]; rfl
  refine hw _ _ ⟨v,hj,way,v,d,rfl,h4,hv,fun hb H3 s3=>?_,fun b hb D H3 s3 nD eD=>?_⟩
  · refine ⟨v,hj,v,d,rfl,hv.same s3,fun _ H4 s4=>⟨.str "harms",.str "harms",.str _,.str _,qel,qel,by decide +kernel,_,rfl,?_⟩,fun b hb'=>by rw [hb] at hb'; cases hb'⟩
    rw [e1]
    exact k H4 (s3.trans s4)
  · refine ⟨v,hj,v,d,rfl,hv.same s3,fun z=>(by rw [hb] at z; cases z),fun b' hb' D' H4 s4 nD' eD'=>?_⟩
    rw [hb] at hb'
    cases hb'
    refine ⟨.list [optD b],.list [optD b],.lst (s4 _ _ eD) (.cons (yec _ b) .nil),.lst eD' (.cons (yec _ b) .nil),yfb b,yfb b,qf8 b,_,rfl,?_⟩
    rw [e2]
    exact k H4 (s3.trans s4)
end
section
variable {P:Program} {w:World} {K:PySem.W.Frag} {mg:Str→Option Value} {base:Heap}
def qep (K:PySem.W.Frag):Sp:=fun vs H Q _=>∃ (S:Addr) (ns:List Int) (i:Nat),vs=[.ref S,.int i]∧SqL K H S (ns.map V.int)∧∀ c,Q (.int c) H
theorem ygx (B:Bl mg) (F:FnAt K mg "_law_cell_at" qa6 ["_law_script","_law_k"]):Has P w K mg base 1 "_law_cell_at" ["_law_script","_law_k"] (qep K):=by
  refine Has.of F qct (fun vs H Q E h=>?_) (fun f cdv A outer s H vs Q E hr h=>?_)
  · obtain ⟨S,ns,i,rfl,_⟩:=h
    rfl
  · obtain ⟨S,ns,i,rfl,hS,k⟩:=h
    have sc:=qct
    refine ⟨_,(qap (yeq (qbf op_lt (pv 1) (qae yaf rfl (B.of rfl) boot_len (yaa (pv 0) qac)) (yak _))
        (yan (qa9 (qbt qal (pv 0) (pv 1) (fun _ _=>rfl))))
        qcm)
      (yan (qa9 yab))),?_⟩
    refine ⟨_,rfl,_,rfl,S,_,rfl,.inl hS,_,_,rfl,rfl,_,rfl,?_⟩
    by_cases hi:i < ns.length
    · refine iteD (by rw [List.length_map]; omega) ?_
      exact ⟨_,rfl,_,rfl,S,_,_,_,rfl,rfl,hS,yet (qdk (List.getElem?_eq_getElem hi)),k _⟩
    · refine qdm (by rw [List.length_map]; omega) ?_
      exact k 0
def yg4 (K:PySem.W.Frag):Sp:=fun vs H Q _=>∃ (a:Addr) (ns:List Int),vs=[.ref a]∧SqL K H a (ns.map V.int)∧ns.length≤63∧∀ H',Q (.bl true) H'
abbrev yfg:Stmt:=top 47
theorem sc_law:FnScope ["_law_script","_law_size","_law_harms_here","_law_thing","_law_way","_law_k","_law_d","_law_bent_here","_law_good","_law_kept","_law_first","_law_one"] ["_law_script"] (yac yfg):=⟨rfl,rfl,rfl,by decide +kernel,rfl,by decide +kernel,by decide +kernel⟩
theorem ok_law (B:Bl mg) (yb8:Has P w K mg base 1 "_law_cell_at" ["_law_script","_law_k"] (qep K)) (ybx:Has P w K mg base 1 "_law_digits" ["_law_cell","_law_turn","_law_sizes"] qet) (ygc:Has P w K mg base 2 "_law_harms" ["_law_cell","_law_turn","_law_size","_law_most"] yg6)
    (yc6:Has P w K mg base 10 "_law_told" ["_law_way","_law_thing"] qgj) (qce:Has P w K mg base 3 "_law_due" ["_law_thing"] qg2) (ybb:Has P w K mg base 2 "_law_is_harm" ["_law_thing"] qd8) (qeh:Has P w K mg base 1 "_law_bent" ["_law_harms_here","_law_d"] yic)
    {f:Addr} {fd:FuncData} (F:Fun K "law" "law" yfg f fd):FnOk P w K mg base CX0 11 f fd ["_law_script"] (yg4 K):=by
  refine Mx.Fun.okQ F sc_law (fun vs H Q E h=>?_) (fun cdv A outer s H vs Q E hr h=>?_)
  · obtain ⟨a,ns,rfl,_⟩:=h
    rfl
  · obtain ⟨S,ns,rfl,hS,hnl,q⟩:=h
    have hsl:(sizeLine:Nat)=16777216:=sizeLine_eq
    have z1:1≤sizeLine:=by decide
    have sc:=sc_law
    refine ⟨_,(qat rfl (qad (qam (i:=1) sc.nd rfl (Or.inl rfl) (ybg qbv (qab yab) (ya7 ix_seq (qaq ybx hr (yga (qaq yb8 hr (yal (qab (pv 0)) (qao (qab yab) yad))) (qao (qab yab) (qek (qav (qao (qab yab) yad)) yad)))) (qab yab) (fun _ _=>rfl))))
      (qad (qam (i:=2) sc.nd rfl (Or.inl rfl) (qaq ygc hr (yga (qaq yb8 hr (yal (qab (pv 0)) (qao (qab yab) yad))) (qao (qab yab) (yal (qab (pv 1)) (qao (qab yab) yad))))))
      (qad (ydf PassesOwn.never rfl (ygk (qav (qek (qav yad) (yal (qab (pv 2)) (qao (qab ycb) (qeo (ybk yad) (qek (qav (qeo (ybk yad) yad)) (qek (qav (qao (qab qah) yad)) (qao (qab yab) (qek (qav (qeo (ybk (qek (qav (qao (qab qah) yad)) (qao (qab yab) (qao (qab yab) yad)))) yad)) (qek (qav (qeo (ybk (qfg (qab qhg) (qao (qab yab) yad))) yad)) (yfa (ybg yh6 (ydm qb3 (qab (pv 2)) qa0 (qas yab)) (qab yab)) yad)))))))))))) (yam (i:=3) sc.nd rfl (Or.inl rfl))
        (yae (ydf PassesOwn.never rfl (yhm (yb2 rfl (B.of rfl) (yaa yab qac))) (yam (i:=4) sc.nd rfl (Or.inl rfl))
          (yae (ya5 (yat (yix hr) (qaq yc6 hr (yal (qab (pv 4)) (yal (qab (pv 3)) yad))) (qaq qce hr (yal (qab (pv 3)) yad)) (yak _))
            (yae (yai (qab qex)))
            yar)))))
      (qad (ydf PassesOwn.never rfl (yhm (yb2 rfl (B.of rfl) (yaa yab qac))) (yam (i:=5) sc.nd rfl (Or.inl rfl))
        (qad (qam (i:=6) sc.nd rfl (Or.inl rfl) (qaq ybx hr (yga (qaq yb8 hr (yal (qab (pv 0)) (yfa (ybg qbv (qab yab) (qab (pv 5))) yad))) (yal (qab (pv 5)) (qek (qav (qao (qab yab) (qao (qab yab) (qao (qab yab) (qao (qab yab) (qao (qab yab) (qao (qab yab) (qao (qab yab) (qao (qab yab) yad))))))))) yad)))))
        (qad (qam (i:=7) sc.nd rfl (Or.inl rfl) (qaq qeh hr (yal (qab (pv 2)) (qcb (ydm qb3 (qab (pv 6)) qa0 (qas yab)) yad))))
        (qad (qam (i:=8) sc.nd rfl (Or.inl rfl) (qe_mid (qab (qbb (qae yas rfl (B.of rfl) boot_isinstance (yaa (pv 7) (yaa (qa3 (v:=.ty "list") rfl (B.of rfl) boot_list rfl) qac))) (qbb (yaz (qg6 hr) (pv 7) (ybz qac) (yak _)) (yb5 (pe_cmp (pc_notN (yaj ybb hr (yaa (qbt qal (pv 7) yab (fun _ _=>rfl)) qac))))))))))
        (yi7 (ya5 (QW.pt (yig (yat qbz (ya7 qal (qab (pv 6)) (qab yab) (fun _ _=>rfl)) (qab yab) (yak _)) (qgy (qt_valN (qab (pv 8))))))
          (yae (qam (i:=7) sc.nd rfl (Or.inl rfl) (ybg qb7 (qaq qeh hr (qcb (ydm qb3 (qab (pv 7)) qa0 (qas yab)) (qek (qav (qao (qab yab) (qcb (ya7 qal (qab (pv 6)) (qab yab) (fun _ _=>rfl)) (qcb (ya7 qal (qab (pv 6)) (qab yab) (fun _ _=>rfl)) (qcb (ya7 qal (qab (pv 6)) (qab yab) (fun _ _=>rfl)) yad))))) yad))) (ydm qb3 (qab (pv 7)) (qas yab) qa0))))
          yar)
        (qad (qam (i:=9) sc.nd rfl (Or.inl rfl) (qar (qe1 hr) rfl (B.of rfl) boot_repr (yal (qab (pv 7)) yad)))
        (yae (ydf PassesOwn.never rfl (yhm (yb2 rfl (B.of rfl) (yaa yab qac))) (yam (i:=4) sc.nd rfl (Or.inl rfl))
          (yae (ya5 (QW.pt (yfr (yat (yix hr) (qaq yc6 hr (yal (qab (pv 4)) (yal (qab (pv 7)) yad))) (qaq qce hr (yal (qab (pv 7)) yad)) (yak _)) (qeb (yat yik (qar (qe1 hr) rfl (B.of rfl) boot_repr (yal (qab (pv 7)) yad)) (qab (pv 9)) (yak _)))))
            (yae (yai (qab qex)))
            yar))))))))))
      (qad (qam (i:=10) sc.nd rfl (Or.inl rfl) (ya7 qal (qab (pv 2)) (qab yab) (fun _ _=>rfl)))
      (qad (ydf PassesOwn.never rfl (ygk (qav (qeo (ybk (qao (qab qah) (qao (qab yab) (qao (qab yab) yad)))) (yal (qab (pv 10)) (qcb (ydm ycr (qab (pv 10)) qa0 (qas yab)) (yal (qab (pv 10)) yad)))))) (yam (i:=11) sc.nd rfl (Or.inl rfl))
        (qad (qs_asg (qab (pv 11)) (pg_sub (pv 2) yab set_list))
        (yae (ya5 (yat (yix hr) (qaq yc6 hr (qao (qab yab) (yal (qab (pv 2)) yad))) (qaq qce hr (yal (qab (pv 2)) yad)) (yak _))
          (yae (yai (qab qex)))
          yar))))
      (yae (yai (qab qex)))))))))),?_⟩
    refine ⟨_,rfl,S,ns,0,rfl,hS,fun c0=>⟨z1,fun p0 hp0=>?_⟩⟩
    have s0:Same H (upd H p0 (.lst [.int 63])):=(Same.refl H).upd hp0
    have e0:upd H p0 (.lst [.int 63]) p0=some (.lst (([63]:List Int).map V.int)):=qaa
    revert s0 e0
    generalize upd H p0 (.lst [.int 63])=H0
    intro s0 e0
    refine ⟨c0,5,p0,[63],rfl,e0,by decide,by decide,by decide,by decide,fun dp ds0 H1 s1 ndp hdp hD0=>?_⟩
    obtain ⟨x0,hx0,hx1,hx2⟩:=hD0.get (i:=0) (z:=63) rfl
    refine .inl ⟨dp,_,_,.int x0,rfl,rfl,SqL.of hdp,yag 0 (by rw [List.getElem?_map,hx0]; rfl),_,_,rfl,rfl,?_⟩
    have s01:=s0.trans s1
    refine ⟨_,rfl,S,ns,0,rfl,s01.seq hS,fun c1=>⟨_,rfl,c1,0,(2 + x0).toNat,?_,by decide,by decide,by omega,by omega,fun L us hs SS H2 s2 nL eL hvL okL h1L inR=>?_⟩⟩
    · rw [show (((2 + x0).toNat:Nat):Int)=2 + x0 by omega]
      rfl
    have s02:=s01.trans s2
    obtain ⟨hvD,hbD,_⟩:=hs_good eL hvL okL
    obtain ⟨_,eds,hallD⟩:=qcu hbD
    cases eds
    have hds3:(hs.map hmD).length≤3:=by rw [List.length_map]; exact okL.len
    have hds1:1≤(hs.map hmD).length:=by rw [List.length_map]; exact h1L
    have hvd:At H2 (.ref L) (.list (hs.map hmD)):=hvD
    refine gn ?_
    dsimp only
    refine seq_LYA (n:=10) (ybs (qfn (qb1 qay)) (ybs (qfn (ya0 rfl (hid0 hvd))) (ybs (qfn qdu) (ybs (qfn (qbm qay)) (ybs (qfn (qb1 (yah (qbm qay) qay))) (ybs (qfn (qb1 (yah ycs qay))) (ybs (qfn qca) (ybs (qfn (qb1 (yah (qbm (yah (qb1 (yah ycs qay)) (yah qca (yah qca qay)))) qay))) (ybs ly_odd (ybs (qfn (qi4 (n:=3) (qfo (n:=1) (ya0 rfl (hid0 hvd)) yhr) (by decide) (by rw [List.length_take]; omega))) lya_nil)))))))))) (by decide) fun lp vs3 H4 s4 e4 hvs3=>?_
    refine ⟨lp,rfl,⟨_,SqL.of e4⟩,qd9 (xs:=vs3) (fun i σ H'=>∃ o3 o4:Option V,σ=[some (.ref S),some (.int (2 + x0)),some (.ref L),o3,o4,none,none,none,none,none,none,none]∧Same H4 H') ⟨none,none,rfl,Same.refl H4⟩ (fun i σ H' _ ⟨_,_,_,h⟩=>SqL.of (h _ _ e4)) ?_ ?_⟩
    · rintro i x σ H5 hx ⟨o3,o4,rfl,s5⟩
      obtain ⟨dx,hdx⟩:=hvs3 x (List.mem_of_getElem? hx)
      have hx5:=hdx.same s5
      refine ⟨4,rfl,by decide,by decide,qdb (n:=4) (fun j σ H'=>∃ o4:Option V,σ=[some (.ref S),some (.int (2 + x0)),some (.ref L),some x,o4,none,none,none,none,none,none,none]∧Same H5 H') ⟨o4,rfl,Same.refl H5⟩ ?_ ?_⟩
      · rintro j σ H6 hj ⟨o4,rfl,s6⟩
        refine qgp (way:=j) (fun H1 Q k=>⟨_,rfl,by rw [Int.zero_add]; exact k⟩) rfl hj (hx5.same s6) fun H7 s7=>iteF ⟨_,rfl,s6.trans s7⟩
      · rintro σ H6 ⟨o4,rfl,s6⟩
        exact ⟨_,_,rfl,s5.trans s6⟩
    rintro σ H5 ⟨o3,o4,rfl,s5⟩
    have s25:=s4.trans s5
    have s05:=s02.trans s25
    refine ⟨10,rfl,by decide,by decide,qdb (n:=10) (fun j σ H'=>∃ o3 o4 o5 o6 o7 o8 o9:Option V,σ=[some (.ref S),some (.int (2 + x0)),some (.ref L),o3,o4,o5,o6,o7,o8,o9,none,none]∧Same H5 H') ⟨_,_,_,_,_,_,_,rfl,Same.refl H5⟩ ?_ ?_⟩
    · rintro j σ H6 hj ⟨o3,o4,o5,o6,o7,o8,o9,rfl,s6⟩
      refine ⟨_,rfl,_,rfl,_,_,rfl,rfl,S,ns,1 + j,?_,(s05.trans s6).seq hS,fun c=>⟨_,rfl,(by show 8≤sizeLine; decide),fun p1 hp1=>?_⟩⟩
      · show [V.ref S,V.int (1 + (0 + (j:Int)))]=[V.ref S,V.int ((1 + j:Nat):Int)]
        rw [Int.zero_add,Int.natCast_add]; rfl
      generalize hG7:upd H6 p1 _=H7
      have s7:Same H6 H7:=by rw [← hG7]; exact (Same.refl H6).upd hp1
      have e7:H7 p1=some (.lst (([3,4,42,64,3,4,34,3]:List Int).map V.int)):=by rw [← hG7]; exact qaa
      refine ⟨c,0 + j,p1,[3,4,42,64,3,4,34,3],rfl,e7,by decide,by decide,by omega,by omega,fun dp dsx H8 s8 ndp hdp hD=>?_⟩
      obtain ⟨t0,t1,t2,t3,t4,t5,t6,t7,rfl⟩:∃ t0 t1 t2 t3 t4 t5 t6 t7,dsx=[t0,t1,t2,t3,t4,t5,t6,t7]:=by
        match dsx,hD.1 with
        | [t0,t1,t2,t3,t4,t5,t6,t7],_=>exact ⟨_,_,_,_,_,_,_,_,rfl⟩
      have b2:=hD.2 2 t2 42 rfl rfl
      have b3:=hD.2 3 t3 64 rfl rfl
      have b6:=hD.2 6 t6 34 rfl rfl
      refine ⟨_,rfl,_,rfl,4,rfl,dp,_,rfl,SqL.of hdp,fun p2 hp2=>?_⟩
      generalize hG9:upd H8 p2 _=H9
      have s9:Same H8 H9:=by rw [← hG9]; exact (Same.refl H8).upd hp2
      have e9:H9 p2=some (.lst [.int t0,.int t1,.int t2,.int t3]):=by
        rw [← hG9]
        refine qaa.trans ?_
        rw [show cutV (([t0,t1,t2,t3,t4,t5,t6,t7]:List Int).map V.int) none (some 4)=_ from qcg 4]
        rfl
      clear hG9 hG7
      have s69:=s7.trans (s8.trans s9)
      have hv9:=(hvd.same s25).same (s6.trans s69)
      have hdp9:=s9 _ _ hdp
      refine ⟨.ref L,hs.map hmD,p2,t0,t1,t2,t3,rfl,hv9,hds1,hds3,hallD,e9,b2.1,b2.2,b3.1,b3.2,fun r dd HA sA hax hsm hls hes=>?_⟩
      have hdpA:=sA _ _ hdp9
      have s6A:=s69.trans sA
      refine ⟨fun v H'=>∃ b:Bool,v=.bl b∧Same HA H'∧(b=true→∃ e0 er,dd=.list (e0 :: er)∧qbk e0=true),?_,?_⟩
      · refine ⟨_,rfl,_,_,_,_,rfl,hax.ty,ygm dd,_,rfl,?_⟩
        cases hsd:isLst dd with
        | false=>exact iteF ⟨false,rfl,Same.refl HA,fun h=>by cases h⟩
        | true=>
        refine iteT ?_
        obtain ⟨es,rfl⟩:∃ es,dd=.list es:=by clear hax hsm hls hes; cases dd <;> first | exact ⟨_,rfl⟩ | cases hsd
        have hat:At HA r (.list es):=by
          rcases hax with h | ⟨e,_⟩
          · exact h
          · cases e
        obtain ⟨Lb,ub,rfl,hLb,hub⟩:=hat.lstEq
        refine ⟨_,rfl,Nat.zero_le _,fun qq hqq=>?_⟩
        have sB:Same HA (upd HA qq (.lst [])):=(Same.refl HA).upd hqq
        refine ⟨Lb,qq,ub,rfl,rfl,SqL.of (sB _ _ hLb),SqL.of qaa,_,rfl,?_⟩
        cases hub with
        | nil=>exact iteF ⟨false,rfl,sB,fun h=>by cases h⟩
        | cons h1 hr=>
          rename_i u0 e0 ur er
          refine iteT ⟨_,rfl,Lb,_,_,_,rfl,rfl,SqL.of (sB _ _ hLb),yag 0 rfl,u0,e0,rfl,.inl (.inl (h1.same sB)),fun hb HC sC=>⟨_,rfl,sB.trans sC,fun h=>by simp at h⟩,fun hb own HC sC _ _=>⟨_,rfl,sB.trans sC,fun _=>⟨e0,er,rfl,hb⟩⟩⟩
      rintro _ HB ⟨b,rfl,sB,hb0⟩
      refine ⟨fun σ H'=>∃ r' dd',∃ oo:Option V,σ=[some (.ref S),some (.int (2 + x0)),some (.ref L),o3,o4,some (.int (0 + j)),some (.ref dp),some r',some (.bl b),oo,none,none]∧Same HB H'∧AtX H' r' dd'∧Sm 8 50000 dd',?_,?_⟩
      · have hdpB:=sB _ _ hdpA
        have haB:=hax.same sB
        refine ⟨_,rfl,dp,_,_,_,rfl,rfl,SqL.of hdpB,yag 7 rfl,rfl,_,rfl,?_⟩
        by_cases h7:t7=0
        rotate_left
        · exact qdt (by simpa using h7) (iteF ⟨r,dd,_,rfl,Same.refl HB,haB,hsm⟩)
        refine yfm (by rw [h7]; decide +kernel) ⟨_,rfl,_,rfl,?_⟩
        cases b with
        | false=>exact iteF ⟨r,dd,_,rfl,Same.refl HB,haB,hsm⟩
        | true=>
        refine iteT ?_
        obtain ⟨e0,er,rfl,hbe⟩:=hb0 rfl
        have hat:At HB r (.list (e0 :: er)):=by
          rcases haB with h | ⟨e,_⟩
          · exact h
          · cases e
        obtain ⟨Lb,ub,rfl,hLb,hub⟩:=hat.lstEq
        obtain ⟨hel,hesm⟩:=hes _ rfl
        cases hub with
        | cons h1 hr=>
        rename_i u0 ur
        have hrl:=hr.length
        refine ⟨_,rfl,1,rfl,Lb,_,rfl,SqL.of hLb,fun p3 hp3=>?_⟩
        generalize hGC:upd HB p3 _=HC
        have sC:Same HB HC:=by rw [← hGC]; exact (Same.refl HB).upd hp3
        have eC:HC p3=some (.lst [u0]):=by
          rw [← hGC]
          refine qaa.trans ?_
          rw [show cutV (u0 :: ur) none (some 1)=_ from qcg 1]
          rfl
        have hdpC:=sC _ _ hdpB
        refine ⟨_,rfl,dp,_,_,_,rfl,rfl,SqL.of hdpC,yag 5 rfl,_,rfl,dp,_,_,_,rfl,rfl,SqL.of hdpC,yag 6 rfl,_,rfl,dp,_,_,_,rfl,rfl,SqL.of hdpC,yag 3 rfl,(by show 4≤sizeLine; decide),fun p4 hp4=>?_⟩
        generalize hGD:upd HC p4 _=HD
        have sD:Same HC HD:=by rw [← hGD]; exact (Same.refl HC).upd hp4
        have eD:HD p4=some (.lst [.int 0,.int t5,.int t6,.int t3]):=by rw [← hGD]; exact qaa
        refine ⟨.ref p3,[e0],p4,0,t5,t6,t3,rfl,.lst (sD _ _ eC) (.cons (h1.same (sC.trans sD)) .nil),by simp,by simp,fun x hx=>by rw [List.mem_singleton.mp hx]; exact hbe,eD,b6.1,by omega,b3.1,b3.2,fun r2 dd2 HE sE hax2 hsm2 hls2 hes2=>?_⟩
        obtain ⟨es2,rfl⟩:=hls2 b6.2
        obtain ⟨hel2,hesm2⟩:=hes2 _ rfl
        have hat2:At HE r2 (.list es2):=by
          rcases hax2 with h | ⟨e,_⟩
          · exact h
          · cases e
        obtain ⟨L2,u2,rfl,hL2,hu2⟩:=hat2.lstEq
        have hu2l:=hu2.length
        have sBE:=sC.trans (sD.trans sE)
        refine ⟨_,rfl,1,rfl,Lb,_,rfl,SqL.of (sBE _ _ hLb),fun p5 hp5=>?_⟩
        generalize hGF:upd HE p5 _=HF
        have sF:Same HE HF:=by rw [← hGF]; exact (Same.refl HE).upd hp5
        have eF:HF p5=some (.lst ur):=by
          rw [← hGF]
          refine qaa.trans ?_
          rw [show cutV (u0 :: ur) (some 1) none=_ from ycy 1]
          rfl
        simp only [List.length_cons] at hel
        refine ⟨L2,p5,_,_,rfl,rfl,sF _ _ hL2,eF,qc2 (by omega),fun p6 hp6=>?_⟩
        have sG:Same HF (upd HF p6 (.lst (u2++ur))):=(Same.refl HF).upd hp6
        refine ⟨.ref p6,.list (es2++er),_,rfl,(sBE.trans sF).trans sG,.inl (.lst qaa ((hu2.same (sF.trans sG)).append (hr.same ((sBE.trans sF).trans sG)))),?_⟩
        refine (Sm.list (n:=8) (D:=3) (B:=1000) (fun y hy=>?_) (by simp; omega)).mono
        rcases List.mem_append.mp hy with hy | hy
        · exact hesm2 y hy
        · exact hesm y (List.mem_cons_of_mem _ hy)
      · rintro σ HC ⟨r',dd',oo,rfl,sC,haC,smC⟩
        obtain ⟨w1,w2,w3⟩:=smC.shown
        refine ⟨_,rfl,r',dd',rfl,haC,w1,w2,w3,?_⟩
        refine ⟨4,rfl,by decide,by decide,qdb (n:=4) (fun k σ H'=>∃ o4:Option V,σ=[some (.ref S),some (.int (2 + x0)),some (.ref L),o3,o4,some (.int (0 + j)),some (.ref dp),some r',some (.bl b),some (.str dd'.shown),none,none]∧Same HC H') ⟨o4,rfl,Same.refl HC⟩ ?_ ?_⟩
        · rintro k σ HD hk ⟨o4',rfl,sD⟩
          have haD:=haC.same sD
          refine qgp (way:=k) (fun H1 Q k=>⟨_,rfl,by rw [Int.zero_add]; exact k⟩) rfl hk (.inl haD) fun HE sE=>iteF ?_
          refine ⟨_,rfl,r',dd',rfl,haD.same sE,w1,w2,w3,_,rfl,rfl,_,rfl,qdt (by simp) ⟨_,rfl,sD.trans sE⟩⟩
        · rintro σ HD ⟨o4',rfl,sD⟩
          exact ⟨_,_,_,_,_,_,_,rfl,s6.trans (s6A.trans (sB.trans (sC.trans sD)))⟩
    rintro σ H6 ⟨o3,o4,o5,o6,o7,o8,o9,rfl,s6⟩
    have hv6:=hvL.same (s25.trans s6)
    have eL6:=(s25.trans s6) _ _ eL
    obtain ⟨h0,hr0,rfl⟩:∃ h0 hr0,hs=h0 :: hr0:=by
      match hs,h1L with
      | h0 :: hr0,_=>exact ⟨_,_,rfl⟩
    obtain ⟨u0,ur,rfl⟩:∃ u0 ur,us=u0 :: ur:=by
      match us,hvL.len with
      | u0 :: ur,_=>exact ⟨_,_,rfl⟩
    obtain ⟨⟨a0,rfl,ha0⟩,hvr⟩:=hv6.cons
    obtain ⟨ns0,ok0⟩:=okL.ok h0 (List.mem_cons_self ..)
    refine ⟨_,rfl,L,_,_,_,rfl,rfl,SqL.of eL6,yag 0 rfl,?_⟩
    refine gn ?_
    dsimp only
    have c3:3≤(hV h0).length:=by
      obtain ⟨hd,e,g3,_⟩:=ygu (qee ok0).1
      unfold hmD at e
      cases e
      unfold hV
      simp at g3 ⊢
      omega
    refine ⟨(by show 3≤sizeLine; decide),fun ta hta=>⟨_,rfl,_,rfl,1,rfl,a0,_,rfl,SqT.of ((Same.refl H6).upd hta _ _ ha0),fun z=>?_,fun tb htb=>⟨_,rfl,(by show 4≤sizeLine; decide),fun lp hlp=>?_⟩⟩⟩
    · have z2:=z.2
      rw [show (1:Int)=((1:Nat):Int) from rfl,HT.sIx_nat] at z2
      omega
    rw [show cutV (hV h0) none (some 1)=_ from qcg 1] at hlp ⊢
    have e1:(hV h0).take 1=[.str h0.w]:=rfl
    rw [e1] at hlp ⊢
    have sa:Same H6 (upd H6 ta (.tup [.str "stuck",.int 0,.int 2])):=(Same.refl H6).upd hta
    have sb:=(Same.refl (upd H6 ta (.tup [.str "stuck",.int 0,.int 2]))).upd (o:=.tup [.str h0.w]) htb
    have sl:=(Same.refl (upd (upd H6 ta (.tup [.str "stuck",.int 0,.int 2])) tb (.tup [.str h0.w]))).upd (o:=.lst [.ref ta,.ref a0,.ref tb,.ref a0]) hlp
    have gta:=sl _ _ (sb _ _ qaa)
    have gtb:=sl _ _ qaa
    have glp:upd (upd (upd H6 ta (.tup [.str "stuck",.int 0,.int 2])) tb (.tup [.str h0.w])) lp (.lst [.ref ta,.ref a0,.ref tb,.ref a0]) lp=some (.lst [.ref ta,.ref a0,.ref tb,.ref a0]):=qaa
    have s67:=sa.trans (sb.trans sl)
    have nLp:lp≠L:=fun z=>by rw [z] at hlp; have:=(sa.trans sb) _ _ eL6; rw [hlp] at this; cases this
    revert gta gtb glp s67
    generalize upd (upd (upd H6 ta (.tup [.str "stuck",.int 0,.int 2])) tb (.tup [.str h0.w])) lp (.lst [.ref ta,.ref a0,.ref tb,.ref a0])=H7
    intro gta gtb glp s67
    refine ⟨lp,rfl,⟨_,SqL.of glp⟩,qd9 (xs:=[.ref ta,.ref a0,.ref tb,.ref a0]) (fun i σ H'=>∃ (o11:Option V) (xx:V),σ=[some (.ref S),some (.int (2 + x0)),some (.ref L),o3,o4,o5,o6,o7,o8,o9,some (.ref a0),o11]∧H' L=some (.lst (xx :: ur))∧H' lp=some (.lst [.ref ta,.ref a0,.ref tb,.ref a0])∧H' ta=some (.tup [.str "stuck",.int 0,.int 2])∧H' tb=some (.tup [.str h0.w])∧HsV H' (.ref a0 :: ur) (h0 :: hr0)) ⟨none,.ref a0,rfl,s67 _ _ eL6,glp,gta,gtb,hv6.same s67⟩ (fun i σ H' _ ⟨_,_,_,_,h,_⟩=>SqL.of h) ?_ (fun σ H' _=>q H')⟩
    rintro i x σ H8 hx ⟨o11,xx,rfl,g1,g2,g3,g4,g5⟩
    refine gn ?_
    refine ⟨_,rfl,_,rfl,L,_,0,0,rfl,rfl,g1,?_,?_⟩
    · unfold ixN
      rw [if_pos (Int.le_refl 0),if_pos (by simp <;> omega)]
      rfl
    have nta:ta≠L:=fun z=>by rw [z,g1] at g3; cases g3
    have ntb:tb≠L:=fun z=>by rw [z,g1] at g4; cases g4
    have k1:upd H8 L (.lst ((xx :: ur).set 0 x)) L=some (.lst (x :: ur)):=qaa
    have k2:upd H8 L (.lst ((xx :: ur).set 0 x)) lp=some (.lst [.ref ta,.ref a0,.ref tb,.ref a0]):=by rw [qaf nLp]; exact g2
    have k3:upd H8 L (.lst ((xx :: ur).set 0 x)) ta=some (.tup [.str "stuck",.int 0,.int 2]):=by rw [qaf nta]; exact g3
    have k4:upd H8 L (.lst ((xx :: ur).set 0 x)) tb=some (.tup [.str h0.w]):=by rw [qaf ntb]; exact g4
    have k5:HsV (upd H8 L (.lst ((xx :: ur).set 0 x))) (.ref a0 :: ur) (h0 :: hr0):=g5.upL g1
    revert k1 k2 k3 k4 k5
    generalize upd H8 L (.lst ((xx :: ur).set 0 x))=H9
    intro k1 k2 k3 k4 k5
    obtain ⟨y0,y1⟩:=k5.cons
    have hx9:∃ dx,At H9 x dx:=by
      match i,hx with
      | 0,h=>cases h; exact ⟨_,.tup k3 (.cons (.str _) (.cons (.int _) (.cons (.int _) .nil)))⟩
      | 1,h=>cases h; exact ⟨_,hm_at y0 ok0⟩
      | 2,h=>cases h; exact ⟨_,.tup k4 (.cons (.str _) .nil)⟩
      | 3,h=>cases h; exact ⟨_,hm_at y0 ok0⟩
      | i + 4,h=>simp at h
    obtain ⟨dx,hdx⟩:=hx9
    have hr9:=hs_at y1 fun g hg=>okL.ok g (List.mem_cons_of_mem _ hg)
    refine qgp (way:=0) yhr rfl (by decide) (.inl (.inl (.lst k1 (.cons hdx hr9)))) fun HA sA=>iteF ⟨_,x,rfl,sA _ _ k1,sA _ _ k2,sA _ _ k3,sA _ _ k4,k5.same sA⟩
end
end Mh
set_option Elab.async false
set_option linter.all false
set_option maxRecDepth 100000
set_option maxHeartbeats 4000000
namespace Mh
open PySem L2 PyProof.Rows Mx
section
variable {P:Program} {w:World} {K:PySem.W.Frag} {mg:Str→Option Value} {base:Heap}
abbrev qc0:Stmt:=inClass (top 4) 0
theorem yf7:FnScope ["self","number"] ["self","number"] (yac qc0):=⟨rfl,rfl,rfl,by decide +kernel,rfl,by decide +kernel,by decide +kernel⟩
theorem qh4 {f C:Addr} {fd:FuncData} (F:Fun K "__init__" "NoHarms.__init__" qc0 f fd) (c:XOk K C) (n1:NoF K C "number"):FnOk P w K mg base CX0 1 f fd ["self","number"] (sp_x1 C "number"):=by
  refine F.ok yf7 (fun vs H Q E h=>?_) (fun cdv A outer s H vs Q E hr h=>?_)
  · obtain ⟨a,v,rfl,_⟩:=h
    rfl
  · obtain ⟨a,v,rfl,hx,k⟩:=h
    have sc:=yf7
    refine ⟨_,(yan (ps_xfld (pv 0) (pv 1))),?_⟩
    exact ⟨_,rfl,_,rfl,a,C,none,[],rfl,hx,c,n1,by decide,fun d H1 x1 s1=>k d H1 x1 s1⟩
end
end Mh
set_option Elab.async false
set_option linter.all false
set_option maxRecDepth 100000
namespace Mh
open PySem L2 PyProof.Rows
open Mx
theorem yc3 {K:PySem.W.Frag} {a:Addr} {xs:List V} {od:Option Addr} {its:Array Value} {n:Nat} {sl:Array (Option Value)} (h2:K.lookup a=some ⟨.type "tuple",od,.seq its n,sl⟩) (z:its.size≤sizeLine) (r:Vals xs its.toList):∀ H,SqT K H a xs:=
  fun H=>.inr ⟨_,its,n,h2,rfl,rfl,z,r⟩
def xcO (o:Obj) (C:Addr):Option (List Value):=match o with
  | ⟨.type "type",_,.cls cd,sl⟩=>(match cd.mro,sl.toList with
    | .ref D :: bm,[_,_,_,_,some (.builtin n),_]=>if (D == C && n == "ValueError.__new__" && !cd.hasDel && cd.hasDict)=true then some bm else none
    | _,_=>none)
  | _=>none
theorem qi6 {o:Obj} {C:Addr} {bm:List Value} (q:xcO o C=some bm):∃ od cd sl k0 k1 k2 k3 k5,o=⟨.type "type",od,.cls cd,sl⟩∧cd.mro=.ref C :: bm∧sl.toList=[k0,k1,k2,k3,some (.builtin "ValueError.__new__"),k5]∧cd.hasDel=false∧cd.hasDict=true:=by
  unfold xcO at q
  split at q
  · rename_i od cd sl
    split at q
    · rename_i D bm' n k0 k1 k2 k3 n' k5 h1 h2
      split at q
      · rename_i h3
        cases q
        simp only [Bool.and_eq_true,beq_iff_eq,Bool.not_eq_true'] at h3
        obtain ⟨⟨⟨rfl,rfl⟩,h5⟩,h6⟩:=h3
        exact ⟨od,cd,sl,_,_,_,_,_,rfl,h1,h2,h5,h6⟩
      · cases q
    · cases q
  · cases q
theorem ygo {K:PySem.W.Frag} {o:Obj} {C:Addr} {bm:List Value} (l:K.lookup C=some o) (q:xcO o C=some bm) (e:PySem.W.excIn K C bmV "ValueError.__new__" = true):PySem.W.tailIn K bmV bm=true:=by
  obtain ⟨od,cd,sl,k0,k1,k2,k3,k5,rfl,h1,h2,h5,h6⟩:=qi6 q
  unfold PySem.W.excIn at e
  rw [l] at e
  simp only [h1,h2,Bool.and_eq_true] at e
  exact e.1.1.2
theorem xclsB_of {K:PySem.W.Frag} {o:Obj} {C:Addr} {bm:List Value} (l:K.lookup C=some o) (q:xcO o C=some bm) (t:PySem.W.tailIn K bmV bm=true):qde K C=true:=by
  obtain ⟨od,cd,sl,k0,k1,k2,k3,k5,rfl,h1,h2,h5,h6⟩:=qi6 q
  unfold qde
  rw [l]
  simp only [h1,h2,h5,h6,t]
  simp
theorem xok_of {K:PySem.W.Frag} {o:Obj} {C:Addr} {bm:List Value} (l:K.lookup C=some o) (q:xcO o C=some bm) (t:PySem.W.tailIn K bmV bm=true) (ga:PySem.W.findIn K (.ref C) "__getattribute__" = some (some (.builtin "BaseException.__getattribute__"))) (gh:PySem.W.findIn K (.ref C) "__getattr__" = some none)
    (ha:PySem.W.findIn K (.ref C) "__class__" = some (some (.builtin "object.__class__"))) (hn:PySem.W.specialIn K (.builtin "object.__class__") "__get__" = some (some (.builtin "getset_descriptor.__get__"))) (tk:PySem.W.takesIn K (.builtin "object.__class__")=some true) (hm:PySem.W.mroIn K C (.type "object")=some true)
    (sa:PySem.W.findIn K (.ref C) "__setattr__" = some (some (.builtin "object.__setattr__"))):XOk K C:=by
  refine ⟨⟨xclsB_of l q t,ga,gh,?_,ha,hn,tk,hm⟩,sa⟩
  obtain ⟨od,cd,sl,k0,k1,k2,k3,k5,rfl,h1,h2,h5,h6⟩:=qi6 q
  unfold PySem.W.clsIn
  rw [l]
  rfl
theorem qaw {K:PySem.W.Frag} {h:Heap} {mg:Str→Option Value} {x:Str} {st:Stmt} {ps:List Str} {f:Addr} {oc:Value} {od an:Option Addr} {osl:Array (Option Value)} {kV doc pm cdv ct:Value} (X:K.In h) (G:h.Ns mainGlobals mg)
    (a:PySem.W.nsIn K mainGlobals x=some (some (.ref f))) (l:K.lookup f=some ⟨oc,od,.func (PySem.W.fnOf x x (yao st) (qaj st) (yac st) .none kV doc pm an cdv ct),osl⟩) (c:PySem.W.codeIn K cdv x=true) (k:PySem.W.keepIn K (.ref f)=true)
    (hb:∀ (kV doc pm:Value) (an:Option Addr) (cdv ct:Value) (us:List Value),us.length=ps.length→bindArgs (PySem.W.fnOf x x (yao st) (qaj st) (yac st) .none kV doc pm an cdv ct) ⟨us,[]⟩=pure (ps.zip us)):FnAt K mg x st ps:=by
  have F:=qi3 (st:=st) l c k
  exact ⟨f,_,PySem.W.mg_of X G a,F,F.binds hb⟩
set_option maxHeartbeats 0 in
theorem all_mk {l:PySem.W.OpenLaw} {w:World} {K:PySem.W.Frag} {h:Heap} {mg:Str→Option Value} {fa:Addr} (X:K.In h) (G:h.Ns mainGlobals mg) (hfa:mg "law" = some (.ref fa))
    {f0:Addr} {od0 an0:Option Addr} {sl0:Array (Option Value)} {oc0 kV0 dc0 pm0 cd0 ct0:Value}
    (a0:PySem.W.nsIn K mainGlobals "is_whole" = some (some (.ref f0)))
    (l0:K.lookup f0=some ⟨oc0,od0,.func (PySem.W.fnOf "is_whole" "is_whole" (yao ybr) (qaj ybr) (yac ybr) .none kV0 dc0 pm0 an0 cd0 ct0),sl0⟩)
    (c0:PySem.W.codeIn K cd0 "is_whole" = true)
    (k0:PySem.W.keepIn K (.ref f0)=true)
    {f1:Addr} {od1 an1:Option Addr} {sl1:Array (Option Value)} {oc1 kV1 dc1 pm1 cd1 ct1:Value}
    (a1:PySem.W.nsIn K mainGlobals "is_bit" = some (some (.ref f1)))
    (l1:K.lookup f1=some ⟨oc1,od1,.func (PySem.W.fnOf "is_bit" "is_bit" (yao qci) (qaj qci) (yac qci) .none kV1 dc1 pm1 an1 cd1 ct1),sl1⟩)
    (c1:PySem.W.codeIn K cd1 "is_bit" = true)
    (k1:PySem.W.keepIn K (.ref f1)=true)
    {f2:Addr} {od2 an2:Option Addr} {sl2:Array (Option Value)} {oc2 kV2 dc2 pm2 cd2 ct2:Value}
    (a2:PySem.W.nsIn K mainGlobals "is_one_of" = some (some (.ref f2)))
    (l2:K.lookup f2=some ⟨oc2,od2,.func (PySem.W.fnOf "is_one_of" "is_one_of" (yao qbe) (qaj qbe) (yac qbe) .none kV2 dc2 pm2 an2 cd2 ct2),sl2⟩)
    (c2:PySem.W.codeIn K cd2 "is_one_of" = true)
    (k2:PySem.W.keepIn K (.ref f2)=true)
    {f3:Addr} {od3 an3:Option Addr} {sl3:Array (Option Value)} {oc3 kV3 dc3 pm3 cd3 ct3:Value}
    (a3:PySem.W.nsIn K mainGlobals "is_cell" = some (some (.ref f3)))
    (l3:K.lookup f3=some ⟨oc3,od3,.func (PySem.W.fnOf "is_cell" "is_cell" (yao yb4) (qaj yb4) (yac yb4) .none kV3 dc3 pm3 an3 cd3 ct3),sl3⟩)
    (c3:PySem.W.codeIn K cd3 "is_cell" = true)
    (k3:PySem.W.keepIn K (.ref f3)=true)
    {f4:Addr} {od4 an4:Option Addr} {sl4:Array (Option Value)} {oc4 kV4 dc4 pm4 cd4 ct4:Value}
    (a4:PySem.W.nsIn K mainGlobals "is_part" = some (some (.ref f4)))
    (l4:K.lookup f4=some ⟨oc4,od4,.func (PySem.W.fnOf "is_part" "is_part" (yao yby) (qaj yby) (yac yby) .none kV4 dc4 pm4 an4 cd4 ct4),sl4⟩)
    (c4:PySem.W.codeIn K cd4 "is_part" = true)
    (k4:PySem.W.keepIn K (.ref f4)=true)
    {f5:Addr} {od5 an5:Option Addr} {sl5:Array (Option Value)} {oc5 kV5 dc5 pm5 cd5 ct5:Value}
    (a5:PySem.W.nsIn K mainGlobals "has_word" = some (some (.ref f5)))
    (l5:K.lookup f5=some ⟨oc5,od5,.func (PySem.W.fnOf "has_word" "has_word" (yao qbp) (qaj qbp) (yac qbp) .none kV5 dc5 pm5 an5 cd5 ct5),sl5⟩)
    (c5:PySem.W.codeIn K cd5 "has_word" = true)
    (k5:PySem.W.keepIn K (.ref f5)=true)
    {f6:Addr} {od6 an6:Option Addr} {sl6:Array (Option Value)} {oc6 kV6 dc6 pm6 cd6 ct6:Value}
    (a6:PySem.W.nsIn K mainGlobals "cells_in" = some (some (.ref f6)))
    (l6:K.lookup f6=some ⟨oc6,od6,.func (PySem.W.fnOf "cells_in" "cells_in" (yao ybn) (qaj ybn) (yac ybn) .none kV6 dc6 pm6 an6 cd6 ct6),sl6⟩)
    (c6:PySem.W.codeIn K cd6 "cells_in" = true)
    (k6:PySem.W.keepIn K (.ref f6)=true)
    {f7:Addr} {od7 an7:Option Addr} {sl7:Array (Option Value)} {oc7 kV7 dc7 pm7 cd7 ct7:Value}
    (a7:PySem.W.nsIn K mainGlobals "has_parts" = some (some (.ref f7)))
    (l7:K.lookup f7=some ⟨oc7,od7,.func (PySem.W.fnOf "has_parts" "has_parts" (yao ybe) (qaj ybe) (yac ybe) .none kV7 dc7 pm7 an7 cd7 ct7),sl7⟩)
    (c7:PySem.W.codeIn K cd7 "has_parts" = true)
    (k7:PySem.W.keepIn K (.ref f7)=true)
    {f8:Addr} {od8 an8:Option Addr} {sl8:Array (Option Value)} {oc8 kV8 dc8 pm8 cd8 ct8:Value}
    (a8:PySem.W.nsIn K mainGlobals "is_harm" = some (some (.ref f8)))
    (l8:K.lookup f8=some ⟨oc8,od8,.func (PySem.W.fnOf "is_harm" "is_harm" (yao qb2) (qaj qb2) (yac qb2) .none kV8 dc8 pm8 an8 cd8 ct8),sl8⟩)
    (c8:PySem.W.codeIn K cd8 "is_harm" = true)
    (k8:PySem.W.keepIn K (.ref f8)=true)
    {f9:Addr} {od9 an9:Option Addr} {sl9:Array (Option Value)} {oc9 kV9 dc9 pm9 cd9 ct9:Value}
    (a9:PySem.W.nsIn K mainGlobals "look_at_harms" = some (some (.ref f9)))
    (l9:K.lookup f9=some ⟨oc9,od9,.func (PySem.W.fnOf "look_at_harms" "look_at_harms" (yao yax) (qaj yax) (yac yax) .none kV9 dc9 pm9 an9 cd9 ct9),sl9⟩)
    (c9:PySem.W.codeIn K cd9 "look_at_harms" = true)
    (k9:PySem.W.keepIn K (.ref f9)=true)
    {f10:Addr} {od10 an10:Option Addr} {sl10:Array (Option Value)} {oc10 kV10 dc10 pm10 cd10 ct10:Value}
    (a10:PySem.W.nsIn K mainGlobals "cells_of" = some (some (.ref f10)))
    (l10:K.lookup f10=some ⟨oc10,od10,.func (PySem.W.fnOf "cells_of" "cells_of" (yao ybq) (qaj ybq) (yac ybq) .none kV10 dc10 pm10 an10 cd10 ct10),sl10⟩)
    (c10:PySem.W.codeIn K cd10 "cells_of" = true)
    (k10:PySem.W.keepIn K (.ref f10)=true)
    {f11:Addr} {od11 an11:Option Addr} {sl11:Array (Option Value)} {oc11 kV11 dc11 pm11 cd11 ct11:Value}
    (a11:PySem.W.nsIn K mainGlobals "renamed" = some (some (.ref f11)))
    (l11:K.lookup f11=some ⟨oc11,od11,.func (PySem.W.fnOf "renamed" "renamed" (yao qcd) (qaj qcd) (yac qcd) .none kV11 dc11 pm11 an11 cd11 ct11),sl11⟩)
    (c11:PySem.W.codeIn K cd11 "renamed" = true)
    (k11:PySem.W.keepIn K (.ref f11)=true)
    {f12:Addr} {od12 an12:Option Addr} {sl12:Array (Option Value)} {oc12 kV12 dc12 pm12 cd12 ct12:Value}
    (a12:PySem.W.nsIn K mainGlobals "placed" = some (some (.ref f12)))
    (l12:K.lookup f12=some ⟨oc12,od12,.func (PySem.W.fnOf "placed" "placed" (yao ycg) (qaj ycg) (yac ycg) .none kV12 dc12 pm12 an12 cd12 ct12),sl12⟩)
    (c12:PySem.W.codeIn K cd12 "placed" = true)
    (k12:PySem.W.keepIn K (.ref f12)=true)
    {f13:Addr} {od13 an13:Option Addr} {sl13:Array (Option Value)} {oc13 kV13 dc13 pm13 cd13 ct13:Value}
    (a13:PySem.W.nsIn K mainGlobals "little" = some (some (.ref f13)))
    (l13:K.lookup f13=some ⟨oc13,od13,.func (PySem.W.fnOf "little" "little" (yao ycj) (qaj ycj) (yac ycj) .none kV13 dc13 pm13 an13 cd13 ct13),sl13⟩)
    (c13:PySem.W.codeIn K cd13 "little" = true)
    (k13:PySem.W.keepIn K (.ref f13)=true)
    {f14:Addr} {od14 an14:Option Addr} {sl14:Array (Option Value)} {oc14 kV14 dc14 pm14 cd14 ct14:Value}
    (a14:PySem.W.nsIn K mainGlobals "_law_digits" = some (some (.ref f14)))
    (l14:K.lookup f14=some ⟨oc14,od14,.func (PySem.W.fnOf "_law_digits" "_law_digits" (yao qba) (qaj qba) (yac qba) .none kV14 dc14 pm14 an14 cd14 ct14),sl14⟩)
    (c14:PySem.W.codeIn K cd14 "_law_digits" = true)
    (k14:PySem.W.keepIn K (.ref f14)=true)
    {f15:Addr} {od15 an15:Option Addr} {sl15:Array (Option Value)} {oc15 kV15 dc15 pm15 cd15 ct15:Value}
    (a15:PySem.W.nsIn K mainGlobals "_law_harm" = some (some (.ref f15)))
    (l15:K.lookup f15=some ⟨oc15,od15,.func (PySem.W.fnOf "_law_harm" "_law_harm" (yao qbr) (qaj qbr) (yac qbr) .none kV15 dc15 pm15 an15 cd15 ct15),sl15⟩)
    (c15:PySem.W.codeIn K cd15 "_law_harm" = true)
    (k15:PySem.W.keepIn K (.ref f15)=true)
    {f16:Addr} {od16 an16:Option Addr} {sl16:Array (Option Value)} {oc16 kV16 dc16 pm16 cd16 ct16:Value}
    (a16:PySem.W.nsIn K mainGlobals "_law_harms" = some (some (.ref f16)))
    (l16:K.lookup f16=some ⟨oc16,od16,.func (PySem.W.fnOf "_law_harms" "_law_harms" (yao ybf) (qaj ybf) (yac ybf) .none kV16 dc16 pm16 an16 cd16 ct16),sl16⟩)
    (c16:PySem.W.codeIn K cd16 "_law_harms" = true)
    (k16:PySem.W.keepIn K (.ref f16)=true)
    {f17:Addr} {od17 an17:Option Addr} {sl17:Array (Option Value)} {oc17 kV17 dc17 pm17 cd17 ct17:Value}
    (a17:PySem.W.nsIn K mainGlobals "_law_kind" = some (some (.ref f17)))
    (l17:K.lookup f17=some ⟨oc17,od17,.func (PySem.W.fnOf "_law_kind" "_law_kind" (yao qbo) (qaj qbo) (yac qbo) .none kV17 dc17 pm17 an17 cd17 ct17),sl17⟩)
    (c17:PySem.W.codeIn K cd17 "_law_kind" = true)
    (k17:PySem.W.keepIn K (.ref f17)=true)
    {f18:Addr} {od18 an18:Option Addr} {sl18:Array (Option Value)} {oc18 kV18 dc18 pm18 cd18 ct18:Value}
    (a18:PySem.W.nsIn K mainGlobals "_law_cell_at" = some (some (.ref f18)))
    (l18:K.lookup f18=some ⟨oc18,od18,.func (PySem.W.fnOf "_law_cell_at" "_law_cell_at" (yao qa6) (qaj qa6) (yac qa6) .none kV18 dc18 pm18 an18 cd18 ct18),sl18⟩)
    (c18:PySem.W.codeIn K cd18 "_law_cell_at" = true)
    (k18:PySem.W.keepIn K (.ref f18)=true)
    {f19:Addr} {od19 an19:Option Addr} {sl19:Array (Option Value)} {oc19 kV19 dc19 pm19 cd19 ct19:Value}
    (a19:PySem.W.nsIn K mainGlobals "_law_is_part" = some (some (.ref f19)))
    (l19:K.lookup f19=some ⟨oc19,od19,.func (PySem.W.fnOf "_law_is_part" "_law_is_part" (yao ya6) (qaj ya6) (yac ya6) .none kV19 dc19 pm19 an19 cd19 ct19),sl19⟩)
    (c19:PySem.W.codeIn K cd19 "_law_is_part" = true)
    (k19:PySem.W.keepIn K (.ref f19)=true)
    {f20:Addr} {od20 an20:Option Addr} {sl20:Array (Option Value)} {oc20 kV20 dc20 pm20 cd20 ct20:Value}
    (a20:PySem.W.nsIn K mainGlobals "_law_is_harm" = some (some (.ref f20)))
    (l20:K.lookup f20=some ⟨oc20,od20,.func (PySem.W.fnOf "_law_is_harm" "_law_is_harm" (yao qa7) (qaj qa7) (yac qa7) .none kV20 dc20 pm20 an20 cd20 ct20),sl20⟩)
    (c20:PySem.W.codeIn K cd20 "_law_is_harm" = true)
    (k20:PySem.W.keepIn K (.ref f20)=true)
    {f21:Addr} {od21 an21:Option Addr} {sl21:Array (Option Value)} {oc21 kV21 dc21 pm21 cd21 ct21:Value}
    (a21:PySem.W.nsIn K mainGlobals "_law_due" = some (some (.ref f21)))
    (l21:K.lookup f21=some ⟨oc21,od21,.func (PySem.W.fnOf "_law_due" "_law_due" (yao qby) (qaj qby) (yac qby) .none kV21 dc21 pm21 an21 cd21 ct21),sl21⟩)
    (c21:PySem.W.codeIn K cd21 "_law_due" = true)
    (k21:PySem.W.keepIn K (.ref f21)=true)
    {f22:Addr} {od22 an22:Option Addr} {sl22:Array (Option Value)} {oc22 kV22 dc22 pm22 cd22 ct22:Value}
    (a22:PySem.W.nsIn K mainGlobals "_law_told" = some (some (.ref f22)))
    (l22:K.lookup f22=some ⟨oc22,od22,.func (PySem.W.fnOf "_law_told" "_law_told" (yao qbn) (qaj qbn) (yac qbn) .none kV22 dc22 pm22 an22 cd22 ct22),sl22⟩)
    (c22:PySem.W.codeIn K cd22 "_law_told" = true)
    (k22:PySem.W.keepIn K (.ref f22)=true)
    {f23:Addr} {od23 an23:Option Addr} {sl23:Array (Option Value)} {oc23 kV23 dc23 pm23 cd23 ct23:Value}
    (a23:PySem.W.nsIn K mainGlobals "_law_bent" = some (some (.ref f23)))
    (l23:K.lookup f23=some ⟨oc23,od23,.func (PySem.W.fnOf "_law_bent" "_law_bent" (yao qbq) (qaj qbq) (yac qbq) .none kV23 dc23 pm23 an23 cd23 ct23),sl23⟩)
    (c23:PySem.W.codeIn K cd23 "_law_bent" = true)
    (k23:PySem.W.keepIn K (.ref f23)=true)
    {f24:Addr} {od24 an24:Option Addr} {sl24:Array (Option Value)} {oc24 kV24 dc24 pm24 cd24 ct24:Value}
    (a24:PySem.W.nsIn K mainGlobals "law" = some (some (.ref f24)))
    (l24:K.lookup f24=some ⟨oc24,od24,.func (PySem.W.fnOf "law" "law" (yao yfg) (qaj yfg) (yac yfg) .none kV24 dc24 pm24 an24 cd24 ct24),sl24⟩)
    (c24:PySem.W.codeIn K cd24 "law" = true)
    (k24:PySem.W.keepIn K (.ref f24)=true)
    (z0:PySem.W.nsIn K mainGlobals "len" = some none)
    (z1:PySem.W.nsIn K mainGlobals "abs" = some none)
    (z2:PySem.W.nsIn K mainGlobals "max" = some none)
    (z3:PySem.W.nsIn K mainGlobals "min" = some none)
    (z4:PySem.W.nsIn K mainGlobals "repr" = some none)
    (z5:PySem.W.nsIn K mainGlobals "isinstance" = some none)
    (z6:PySem.W.nsIn K mainGlobals "int" = some none)
    (z7:PySem.W.nsIn K mainGlobals "bool" = some none)
    (z8:PySem.W.nsIn K mainGlobals "str" = some none)
    (z9:PySem.W.nsIn K mainGlobals "tuple" = some none)
    (z10:PySem.W.nsIn K mainGlobals "list" = some none)
    (z11:PySem.W.nsIn K mainGlobals "dict" = some none)
    (z12:PySem.W.nsIn K mainGlobals "range" = some none)
    (z13:PySem.W.nsIn K mainGlobals "enumerate" = some none)
    (z14:PySem.W.nsIn K mainGlobals "sorted" = some none)
    (z15:PySem.W.nsIn K mainGlobals "sum" = some none)
    {R0:Addr}
    (RA0:PySem.W.nsIn K mainGlobals "NoTest" = some (some (.ref R0)))
    {R1:Addr}
    (RA1:PySem.W.nsIn K mainGlobals "NoText" = some (some (.ref R1)))
    {R2:Addr}
    (RA2:PySem.W.nsIn K mainGlobals "NoHarms" = some (some (.ref R2)))
    {R3:Addr}
    (RA3:PySem.W.nsIn K mainGlobals "NoMemory" = some (some (.ref R3)))
    {R4:Addr}
    (RA4:PySem.W.nsIn K mainGlobals "NoAddress" = some (some (.ref R4)))
    {R5:Addr}
    (RA5:PySem.W.nsIn K mainGlobals "NoBit" = some (some (.ref R5)))
    {R6:Addr}
    (RA6:PySem.W.nsIn K mainGlobals "NoOrders" = some (some (.ref R6)))
    {R7:Addr}
    (RA7:PySem.W.nsIn K mainGlobals "NotSure" = some (some (.ref R7)))
    {R8:Addr}
    (RA8:PySem.W.nsIn K mainGlobals "NoKind" = some (some (.ref R8)))
    {R9:Addr}
    (RA9:PySem.W.nsIn K mainGlobals "NoSpares" = some (some (.ref R9)))
    {R10:Addr}
    (RA10:PySem.W.nsIn K mainGlobals "NoRow" = some (some (.ref R10)))
    {R11:Addr}
    (RA11:PySem.W.nsIn K mainGlobals "NoName" = some (some (.ref R11)))
    {R12:Addr}
    (RA12:PySem.W.nsIn K mainGlobals "TooMany" = some (some (.ref R12)))
    {RM:Addr}
    (RM_:PySem.W.nsIn K mainGlobals "MarchError" = some (some (.ref RM)))
    {Ro2:Obj} {Rbm:List Value}
    (Rlk2:K.lookup R2=some Ro2)
    (Rq2:xcO Ro2 R2=some Rbm)
    {Ro3:Obj}
    (Rlk3:K.lookup R3=some Ro3)
    (Rq3:xcO Ro3 R3=some Rbm)
    (Rex3:PySem.W.excIn K R3 bmV "ValueError.__new__" = true)
    (Rkp2:PySem.W.keepIn K (.ref R2)=true)
    (Rga2:PySem.W.findIn K (.ref R2) "__getattribute__" = some (some (.builtin "BaseException.__getattribute__")))
    (Rgh2:PySem.W.findIn K (.ref R2) "__getattr__" = some none)
    (Rha2:PySem.W.findIn K (.ref R2) "__class__" = some (some (.builtin "object.__class__")))
    (Rhm2:PySem.W.mroIn K R2 (.type "object")=some true)
    (Rsa2:PySem.W.findIn K (.ref R2) "__setattr__" = some (some (.builtin "object.__setattr__")))
    (Ro0_2:PySem.W.kitOne K (.ref R2) (.ref R0)=some false)
    (Ro1_2:PySem.W.kitOne K (.ref R2) (.ref R1)=some false)
    (Ro2_2:PySem.W.kitOne K (.ref R2) (.ref R2)=some true)
    (Ro3_2:PySem.W.kitOne K (.ref R2) (.ref R3)=some false)
    (Ro4_2:PySem.W.kitOne K (.ref R2) (.ref R4)=some false)
    (Ro5_2:PySem.W.kitOne K (.ref R2) (.ref R5)=some false)
    (Ro6_2:PySem.W.kitOne K (.ref R2) (.ref R6)=some false)
    (Ro7_2:PySem.W.kitOne K (.ref R2) (.ref R7)=some false)
    (Ro8_2:PySem.W.kitOne K (.ref R2) (.ref R8)=some false)
    (Ro9_2:PySem.W.kitOne K (.ref R2) (.ref R9)=some false)
    (Ro10_2:PySem.W.kitOne K (.ref R2) (.ref R10)=some false)
    (Ro11_2:PySem.W.kitOne K (.ref R2) (.ref R11)=some false)
    (Ro12_2:PySem.W.kitOne K (.ref R2) (.ref R12)=some false)
    (Rve2:PySem.W.kitOne K (.ref R2) (.type "ValueError")=some true)
    (Rem2:PySem.W.exmOne K (.ref R2) (.ref RM)=some true)
    (Rn2_0:PySem.W.findIn K (.ref R2) "number" = some none)
    {fI2:Addr} {odI2 anI2:Option Addr} {slI2:Array (Option Value)} {ocI2 kVI2 dcI2 pmI2 cdI2 ctI2:Value}
    (Rhi2:PySem.W.findIn K (.ref R2) "__init__" = some (some (.ref fI2)))
    (Rhf2:PySem.W.isFn K (.ref fI2)=true)
    (RlI2:K.lookup fI2=some ⟨ocI2,odI2,.func (PySem.W.fnOf "__init__" "NoHarms.__init__" (yao qc0) (qaj qc0) (yac qc0) .none kVI2 dcI2 pmI2 anI2 cdI2 ctI2),slI2⟩)
    (RcI2:PySem.W.codeIn K cdI2 "NoHarms.__init__" = true)
    (RkI2:PySem.W.keepIn K (.ref fI2)=true)
    (Rhn:PySem.W.specialIn K (.builtin "object.__class__") "__get__" = some (some (.builtin "getset_descriptor.__get__")))
    (Rtk:PySem.W.takesIn K (.builtin "object.__class__")=some true)
    (RzV:PySem.W.nsIn K mainGlobals "ValueError" = some none)
    (zset:PySem.W.nsIn K mainGlobals "set" = some none)
    (zzip:PySem.W.nsIn K mainGlobals "zip" = some none)
    (zall:PySem.W.nsIn K mainGlobals "all" = some none)
    {w1 w2 w3:Tok}
    (aMC:PySem.W.nsIn K mainGlobals "MOST_CELLS" = some (some (.int 64 w1)))
    (aMH:PySem.W.nsIn K mainGlobals "MOST_HARMS" = some (some (.int 3 w2)))
    (aMU:PySem.W.nsIn K mainGlobals "MOST_UNLIKE" = some (some (.int 3 w3)))
    {tJ:Addr} {uj1 uj2:Tok} {odJ:Option Addr} {nJ:Nat} {slJ:Array (Option Value)}
    (aJ:PySem.W.nsIn K mainGlobals "JOININGS" = some (some (.ref tJ)))
    (lJ:K.lookup tJ=some ⟨.type "tuple",odJ,.seq #[.str "and" uj1,.str "or" uj2] nJ,slJ⟩)
    {tP qp0 qp1 qp2 qp3 qp4 qp5 qp6 qp7 qp8 qp9:Addr} {xp0 xp1 xp2 xp3 xp4 xp5 xp6 xp7 xp8 xp9:Int} {kp0 kp1 kp2 kp3 kp4 kp5 kp6 kp7 kp8 kp9:Tok} {epP:Nat}
    (aP:PySem.W.nsIn K mainGlobals "PARTS" = some (some (.ref tP)))
    (lP:K.lookup tP=some ⟨.type "dict",none,.dict #[⟨xp0,.str "stuck" kp0,.ref qp0⟩,⟨xp1,.str "slow" kp1,.ref qp1⟩,⟨xp2,.str "forgets" kp2,.ref qp2⟩,⟨xp3,.str "misreads" kp3,.ref qp3⟩,⟨xp4,.str "turns" kp4,.ref qp4⟩,⟨xp5,.str "sets" kp5,.ref qp5⟩,⟨xp6,.str "keeps" kp6,.ref qp6⟩,⟨xp7,.str "nowhere" kp7,.ref qp7⟩,⟨xp8,.str "other" kp8,.ref qp8⟩,⟨xp9,.str "both" kp9,.ref qp9⟩] epP,#[]⟩)
    (mP:(tP == sysModules)=false)
    {oqp0:Option Addr} {yp0_0 yp0_1:Tok} {mp0:Nat} {sqp0:Array (Option Value)}
    (tp0:K.lookup qp0=some ⟨.type "tuple",oqp0,.seq #[.str "cell" yp0_0,.str "bit" yp0_1] mp0,sqp0⟩)
    {oqp1:Option Addr} {yp1_0 yp1_1:Tok} {mp1:Nat} {sqp1:Array (Option Value)}
    (tp1:K.lookup qp1=some ⟨.type "tuple",oqp1,.seq #[.str "cell" yp1_0,.str "bit" yp1_1] mp1,sqp1⟩)
    {oqp2:Option Addr} {yp2_0 yp2_1:Tok} {mp2:Nat} {sqp2:Array (Option Value)}
    (tp2:K.lookup qp2=some ⟨.type "tuple",oqp2,.seq #[.str "cell" yp2_0,.str "bit" yp2_1] mp2,sqp2⟩)
    {oqp3:Option Addr} {yp3_0 yp3_1:Tok} {mp3:Nat} {sqp3:Array (Option Value)}
    (tp3:K.lookup qp3=some ⟨.type "tuple",oqp3,.seq #[.str "cell" yp3_0,.str "bit" yp3_1] mp3,sqp3⟩)
    {oqp4:Option Addr} {yp4_0 yp4_1 yp4_2:Tok} {mp4:Nat} {sqp4:Array (Option Value)}
    (tp4:K.lookup qp4=some ⟨.type "tuple",oqp4,.seq #[.str "cell" yp4_0,.str "cell" yp4_1,.str "bit" yp4_2] mp4,sqp4⟩)
    {oqp5:Option Addr} {yp5_0 yp5_1 yp5_2 yp5_3:Tok} {mp5:Nat} {sqp5:Array (Option Value)}
    (tp5:K.lookup qp5=some ⟨.type "tuple",oqp5,.seq #[.str "cell" yp5_0,.str "cell" yp5_1,.str "bit" yp5_2,.str "bit" yp5_3] mp5,sqp5⟩)
    {oqp6:Option Addr} {yp6_0 yp6_1 yp6_2 yp6_3:Tok} {mp6:Nat} {sqp6:Array (Option Value)}
    (tp6:K.lookup qp6=some ⟨.type "tuple",oqp6,.seq #[.str "cell" yp6_0,.str "cell" yp6_1,.str "bit" yp6_2,.str "bit" yp6_3] mp6,sqp6⟩)
    {oqp7:Option Addr} {yp7_0 yp7_1:Tok} {mp7:Nat} {sqp7:Array (Option Value)}
    (tp7:K.lookup qp7=some ⟨.type "tuple",oqp7,.seq #[.str "cell" yp7_0,.str "bit" yp7_1] mp7,sqp7⟩)
    {oqp8:Option Addr} {yp8_0 yp8_1:Tok} {mp8:Nat} {sqp8:Array (Option Value)}
    (tp8:K.lookup qp8=some ⟨.type "tuple",oqp8,.seq #[.str "cell" yp8_0,.str "cell" yp8_1] mp8,sqp8⟩)
    {oqp9:Option Addr} {yp9_0 yp9_1 yp9_2:Tok} {mp9:Nat} {sqp9:Array (Option Value)}
    (tp9:K.lookup qp9=some ⟨.type "tuple",oqp9,.seq #[.str "cell" yp9_0,.str "cell" yp9_1,.str "how" yp9_2] mp9,sqp9⟩) :
    ∃ fd:FuncData,(∀ (s:Shared) (v:Value),BindsTo s fd ⟨[v],[]⟩ [("_law_script",v)])∧∀ base:Heap,K.In base→base.Ns mainGlobals mg→FnOk l.prog w K mg base CX0 11 fa fd ["_law_script"] (yg4 K):=by
  have e:=hfa.symm.trans (PySem.W.mg_of X G a24)
  cases e
  have B:Bl mg:=⟨fun x hx=>by
    unfold ygh at hx
    simp only [List.mem_cons,List.not_mem_nil,or_false] at hx
    rcases hx with rfl | rfl | rfl | rfl | rfl | rfl | rfl | rfl | rfl | rfl | rfl | rfl | rfl | rfl | rfl | rfl
    · exact PySem.W.mg_none_of X G z0
    · exact PySem.W.mg_none_of X G z1
    · exact PySem.W.mg_none_of X G z2
    · exact PySem.W.mg_none_of X G z3
    · exact PySem.W.mg_none_of X G z4
    · exact PySem.W.mg_none_of X G z5
    · exact PySem.W.mg_none_of X G z6
    · exact PySem.W.mg_none_of X G z7
    · exact PySem.W.mg_none_of X G z8
    · exact PySem.W.mg_none_of X G z9
    · exact PySem.W.mg_none_of X G z10
    · exact PySem.W.mg_none_of X G z11
    · exact PySem.W.mg_none_of X G z12
    · exact PySem.W.mg_none_of X G z13
    · exact PySem.W.mg_none_of X G z14
    · exact PySem.W.mg_none_of X G z15⟩
  have hVE:=PySem.W.mg_none_of X G RzV
  have gm:=PySem.W.mg_of X G RM_
  have Rtl:=ygo Rlk3 Rq3 Rex3
  have RX2:=xok_of Rlk2 Rq2 Rtl Rga2 Rgh2 Rha2 Rhn Rtk Rhm2 Rsa2
  have RG:∀ i x,nms[i]?=some x→mg x=some (.ref ((fun i=>([R0,R1,R2,R3,R4,R5,R6,R7,R8,R9,R10,R11,R12]:List Addr).getD i 0) i)):=by
    intro i x hx
    match i,hx with
    | 0,hx=>cases hx; exact PySem.W.mg_of X G RA0
    | 1,hx=>cases hx; exact PySem.W.mg_of X G RA1
    | 2,hx=>cases hx; exact PySem.W.mg_of X G RA2
    | 3,hx=>cases hx; exact PySem.W.mg_of X G RA3
    | 4,hx=>cases hx; exact PySem.W.mg_of X G RA4
    | 5,hx=>cases hx; exact PySem.W.mg_of X G RA5
    | 6,hx=>cases hx; exact PySem.W.mg_of X G RA6
    | 7,hx=>cases hx; exact PySem.W.mg_of X G RA7
    | 8,hx=>cases hx; exact PySem.W.mg_of X G RA8
    | 9,hx=>cases hx; exact PySem.W.mg_of X G RA9
    | 10,hx=>cases hx; exact PySem.W.mg_of X G RA10
    | 11,hx=>cases hx; exact PySem.W.mg_of X G RA11
    | 12,hx=>cases hx; exact PySem.W.mg_of X G RA12
    | i + 13,hx=>cases hx
  have KX2:KX K (fun i=>([R0,R1,R2,R3,R4,R5,R6,R7,R8,R9,R10,R11,R12]:List Addr).getD i 0) RM 2:=by
    refine ⟨by decide,RX2.toXTy,fun i hi=>?_,Rve2,Rem2⟩
    match i,hi with
    | 0,_=>exact Ro0_2
    | 1,_=>exact Ro1_2
    | 2,_=>exact Ro2_2
    | 3,_=>exact Ro3_2
    | 4,_=>exact Ro4_2
    | 5,_=>exact Ro5_2
    | 6,_=>exact Ro6_2
    | 7,_=>exact Ro7_2
    | 8,_=>exact Ro8_2
    | 9,_=>exact Ro9_2
    | 10,_=>exact Ro10_2
    | 11,_=>exact Ro11_2
    | 12,_=>exact Ro12_2
  have yca:mg "set" = none:=PySem.W.mg_none_of X G zset
  have qb9:mg "zip" = none:=PySem.W.mg_none_of X G zzip
  have yhu:mg "all" = none:=PySem.W.mg_none_of X G zall
  have g_MC:∃ t,mg "MOST_CELLS" = some (.int 64 t):=⟨_,PySem.W.mg_of X G aMC⟩
  have g_MH:∃ t,mg "MOST_HARMS" = some (.int 3 t):=⟨_,PySem.W.mg_of X G aMH⟩
  have g_MU:∃ t,mg "MOST_UNLIKE" = some (.int 3 t):=⟨_,PySem.W.mg_of X G aMU⟩
  have g_J:GTup K mg "JOININGS" [.str "and",.str "or"]:=gtup_mk (PySem.W.mg_of X G aJ) lJ (by show 2≤sizeLine; decide) (.cons ⟨_,rfl⟩ (.cons ⟨_,rfl⟩ .nil))
  have gP:=PySem.W.mg_of X G aP
  have sp0:∀ H,SqT K H qp0 [.str "cell",.str "bit"]:=yc3 tp0 (by show 2≤sizeLine; decide) (.cons ⟨_,rfl⟩ (.cons ⟨_,rfl⟩ .nil))
  have sp1:∀ H,SqT K H qp1 [.str "cell",.str "bit"]:=yc3 tp1 (by show 2≤sizeLine; decide) (.cons ⟨_,rfl⟩ (.cons ⟨_,rfl⟩ .nil))
  have sp2:∀ H,SqT K H qp2 [.str "cell",.str "bit"]:=yc3 tp2 (by show 2≤sizeLine; decide) (.cons ⟨_,rfl⟩ (.cons ⟨_,rfl⟩ .nil))
  have sp3:∀ H,SqT K H qp3 [.str "cell",.str "bit"]:=yc3 tp3 (by show 2≤sizeLine; decide) (.cons ⟨_,rfl⟩ (.cons ⟨_,rfl⟩ .nil))
  have sp4:∀ H,SqT K H qp4 [.str "cell",.str "cell",.str "bit"]:=yc3 tp4 (by show 3≤sizeLine; decide) (.cons ⟨_,rfl⟩ (.cons ⟨_,rfl⟩ (.cons ⟨_,rfl⟩ .nil)))
  have sp5:∀ H,SqT K H qp5 [.str "cell",.str "cell",.str "bit",.str "bit"]:=yc3 tp5 (by show 4≤sizeLine; decide) (.cons ⟨_,rfl⟩ (.cons ⟨_,rfl⟩ (.cons ⟨_,rfl⟩ (.cons ⟨_,rfl⟩ .nil))))
  have sp6:∀ H,SqT K H qp6 [.str "cell",.str "cell",.str "bit",.str "bit"]:=yc3 tp6 (by show 4≤sizeLine; decide) (.cons ⟨_,rfl⟩ (.cons ⟨_,rfl⟩ (.cons ⟨_,rfl⟩ (.cons ⟨_,rfl⟩ .nil))))
  have sp7:∀ H,SqT K H qp7 [.str "cell",.str "bit"]:=yc3 tp7 (by show 2≤sizeLine; decide) (.cons ⟨_,rfl⟩ (.cons ⟨_,rfl⟩ .nil))
  have sp8:∀ H,SqT K H qp8 [.str "cell",.str "cell"]:=yc3 tp8 (by show 2≤sizeLine; decide) (.cons ⟨_,rfl⟩ (.cons ⟨_,rfl⟩ .nil))
  have sp9:∀ H,SqT K H qp9 [.str "cell",.str "cell",.str "how"]:=yc3 tp9 (by show 3≤sizeLine; decide) (.cons ⟨_,rfl⟩ (.cons ⟨_,rfl⟩ (.cons ⟨_,rfl⟩ .nil)))
  have TP:TabK K tP tabP:=⟨mP,_,_,_,lP,⟨rfl,rfl,rfl⟩,rfl,(.cons rfl ⟨_,rfl,sp0⟩ (.cons rfl ⟨_,rfl,sp1⟩ (.cons rfl ⟨_,rfl,sp2⟩ (.cons rfl ⟨_,rfl,sp3⟩ (.cons rfl ⟨_,rfl,sp4⟩ (.cons rfl ⟨_,rfl,sp5⟩ (.cons rfl ⟨_,rfl,sp6⟩ (.cons rfl ⟨_,rfl,sp7⟩ (.cons rfl ⟨_,rfl,sp8⟩ (.cons rfl ⟨_,rfl,sp9⟩ .nil))))))))))⟩
  have FI2:=qi3 (st:=qc0) RlI2 RcI2 RkI2
  have F0:FnAt K mg "is_whole" ybr ["thing"]:=qaw X G a0 l0 c0 k0 fun _ _ _ _ _ _ us hl=>match us,hl with | [_],_=>rfl
  have F1:FnAt K mg "is_bit" qci ["thing"]:=qaw X G a1 l1 c1 k1 fun _ _ _ _ _ _ us hl=>match us,hl with | [_],_=>rfl
  have F2:FnAt K mg "is_one_of" qbe ["thing","words"]:=qaw X G a2 l2 c2 k2 fun _ _ _ _ _ _ us hl=>match us,hl with | [_,_],_=>rfl
  have F3:FnAt K mg "is_cell" yb4 ["thing"]:=qaw X G a3 l3 c3 k3 fun _ _ _ _ _ _ us hl=>match us,hl with | [_],_=>rfl
  have F4:FnAt K mg "is_part" yby ["name","thing"]:=qaw X G a4 l4 c4 k4 fun _ _ _ _ _ _ us hl=>match us,hl with | [_,_],_=>rfl
  have F5:FnAt K mg "has_word" qbp ["thing"]:=qaw X G a5 l5 c5 k5 fun _ _ _ _ _ _ us hl=>match us,hl with | [_],_=>rfl
  have F6:FnAt K mg "cells_in" ybn ["harm"]:=qaw X G a6 l6 c6 k6 fun _ _ _ _ _ _ us hl=>match us,hl with | [_],_=>rfl
  have F7:FnAt K mg "has_parts" ybe ["thing"]:=qaw X G a7 l7 c7 k7 fun _ _ _ _ _ _ us hl=>match us,hl with | [_],_=>rfl
  have F8:FnAt K mg "is_harm" qb2 ["thing"]:=qaw X G a8 l8 c8 k8 fun _ _ _ _ _ _ us hl=>match us,hl with | [_],_=>rfl
  have F9:FnAt K mg "look_at_harms" yax ["thing"]:=qaw X G a9 l9 c9 k9 fun _ _ _ _ _ _ us hl=>match us,hl with | [_],_=>rfl
  have F10:FnAt K mg "cells_of" ybq ["harms"]:=qaw X G a10 l10 c10 k10 fun _ _ _ _ _ _ us hl=>match us,hl with | [_],_=>rfl
  have F11:FnAt K mg "renamed" qcd ["harm","names"]:=qaw X G a11 l11 c11 k11 fun _ _ _ _ _ _ us hl=>match us,hl with | [_,_],_=>rfl
  have F12:FnAt K mg "placed" ycg ["harms","cells"]:=qaw X G a12 l12 c12 k12 fun _ _ _ _ _ _ us hl=>match us,hl with | [_,_],_=>rfl
  have F13:FnAt K mg "little" ycj ["harms"]:=qaw X G a13 l13 c13 k13 fun _ _ _ _ _ _ us hl=>match us,hl with | [_],_=>rfl
  have F14:FnAt K mg "_law_digits" qba ["_law_cell","_law_turn","_law_sizes"]:=qaw X G a14 l14 c14 k14 fun _ _ _ _ _ _ us hl=>match us,hl with | [_,_,_],_=>rfl
  have F15:FnAt K mg "_law_harm" qbr ["_law_d","_law_some"]:=qaw X G a15 l15 c15 k15 fun _ _ _ _ _ _ us hl=>match us,hl with | [_,_],_=>rfl
  have F16:FnAt K mg "_law_harms" ybf ["_law_cell","_law_turn","_law_size","_law_most"]:=qaw X G a16 l16 c16 k16 fun _ _ _ _ _ _ us hl=>match us,hl with | [_,_,_,_],_=>rfl
  have F17:FnAt K mg "_law_kind" qbo ["_law_e"]:=qaw X G a17 l17 c17 k17 fun _ _ _ _ _ _ us hl=>match us,hl with | [_],_=>rfl
  have F18:FnAt K mg "_law_cell_at" qa6 ["_law_script","_law_k"]:=qaw X G a18 l18 c18 k18 fun _ _ _ _ _ _ us hl=>match us,hl with | [_,_],_=>rfl
  have F19:FnAt K mg "_law_is_part" ya6 ["_law_thing","_law_form"]:=qaw X G a19 l19 c19 k19 fun _ _ _ _ _ _ us hl=>match us,hl with | [_,_],_=>rfl
  have F20:FnAt K mg "_law_is_harm" qa7 ["_law_thing"]:=qaw X G a20 l20 c20 k20 fun _ _ _ _ _ _ us hl=>match us,hl with | [_],_=>rfl
  have F21:FnAt K mg "_law_due" qby ["_law_thing"]:=qaw X G a21 l21 c21 k21 fun _ _ _ _ _ _ us hl=>match us,hl with | [_],_=>rfl
  have F22:FnAt K mg "_law_told" qbn ["_law_way","_law_thing"]:=qaw X G a22 l22 c22 k22 fun _ _ _ _ _ _ us hl=>match us,hl with | [_,_],_=>rfl
  have F23:FnAt K mg "_law_bent" qbq ["_law_harms_here","_law_d"]:=qaw X G a23 l23 c23 k23 fun _ _ _ _ _ _ us hl=>match us,hl with | [_,_],_=>rfl
  have FL:=qi3 (st:=yfg) l24 c24 k24
  refine ⟨PySem.W.fnOf "law" "law" (yao yfg) (qaj yfg) (yac yfg) .none kV24 dc24 pm24 an24 cd24 ct24,fun s v=>.of_eq rfl,fun base _ _=>?_⟩
  have h0:=ygw (P:=l.prog) (w:=w) (base:=base) B F0
  have h1:=yi1 h0 F1
  have h2:=yfq (P:=l.prog) (w:=w) (base:=base) B F2
  have h3:=yht g_MC h0 F3
  have h4:=qhr g_J h3 h1 h2 F4
  have h5:=qgr (P:=l.prog) (w:=w) (base:=base) B gP TP F5
  have h6:=qgq (P:=l.prog) (w:=w) (base:=base) B qb9 gP TP F6
  have h7:=qf0 B qb9 yhu gP TP h4 F7
  have h8:=yhp B yca h5 h7 h6 F8
  have h9:=qd3 B yca g_MH g_MU h8 h6 F9
  have h10:=qgm B yca h9 h6 F10
  have xH:=(show XInit l.prog w K mg base "NoHarms" R2 ["self","number"] (sp_x1 R2 "number") from ⟨PySem.W.mg_of X G RA2,Rkp2,RX2,_,_,Rhi2,Rhf2,FI2.binds (fun _ _ _ _ _ _ us hl=>match us,hl with | [_,_],_=>rfl),qh4 FI2 RX2 Rn2_0⟩)
  have gw:=og_whole (P:=l.prog) (w:=w) (base:=base) B F0
  have gb:=og_bit gw F1
  have go:=og_one (P:=l.prog) (w:=w) (base:=base) B F2
  have gc:=og_cell g_MC gw F3
  have gp:=og_part g_J gc gb go F4
  have gwd:=og_word (P:=l.prog) (w:=w) (base:=base) B gP TP F5
  have gci:=ygy (P:=l.prog) (w:=w) (base:=base) B qb9 gP TP F6
  have gps:=og_parts B qb9 yhu gP TP gp F7
  have gh:=og_harm B yca gwd gps gci F8
  have gl:=og_harms B xH yca g_MH g_MU gh h6 F9
  have gco:=qgl B yca gl h6 F10
  have h11:=qhh (P:=l.prog) (w:=w) (base:=base) B qb9 gP TP F11
  have h12:=qid B qb9 h10 h11 F12
  have h13:=yih B h10 h12 F13
  have gpl:=qik B qb9 gco h11 F12
  have gli:=yhx B gco gpl F13
  have h14:=yhy (P:=l.prog) (w:=w) (base:=base) B F14
  have h15:=ok_harm (P:=l.prog) (w:=w) (base:=base) B F15
  have h16:=ok_harms B h14 h15 F16
  have h17:=ok_kind (P:=l.prog) (w:=w) (base:=base) (c:=(fun i=>([R0,R1,R2,R3,R4,R5,R6,R7,R8,R9,R10,R11,R12]:List Addr).getD i 0)) B hVE RG F17
  have h18:=ygx (P:=l.prog) (w:=w) (base:=base) B F18
  have h19:=og_lpart (P:=l.prog) (w:=w) (base:=base) B F19
  have h20:=og_lharm B h19 F20
  have h21:=og_due B h20 F21
  have h22:=og_told B yca gm KX2 RX2 Rn2_0 h17 (ft_harms gl) (ft_cells gco) (yiy gli) gpl h20 h21 F22
  have h23:=ok_bent (P:=l.prog) (w:=w) (base:=base) B F23
  exact ok_law B h18 h14 h16 h22 h21 h20 h23 FL
theorem walk {l:PySem.W.OpenLaw} {q:Program} {loose:List Str} {XP:(Str→Option Value)→Heap→Prop} {YP:World→Heap→Prop} {d:DefRec} {K:Params→PySem.W.Frag} (hn:l.most=some 63) (hdf:d.params.defaults=[])
    (hY:∀ (w:World) (h:Heap),YP w h→(K w.params).In h)
    (F:∀ (w:World) (mg:Str→Option Value) (fa:Addr) (h:Heap),(K w.params).In h→h.Ns mainGlobals mg→mg d.name=some (.ref fa)→
      ∃ fd:FuncData,(∀ (s:Shared) (u:Value),BindsTo s fd ⟨[u],[]⟩ [("_law_script",u)])∧∀ base:Heap,(K w.params).In base→base.Ns mainGlobals mg→FnOk l.prog w (K w.params) mg base CX0 11 fa fd ["_law_script"] (yg4 (K w.params))) :
    PySem.W.WalkO q loose XP YP l.row.toRowW d [] (fun f vs=>PySem.call f vs):=
  L2.walk_of (n:=63) (k:=11) (x:="_law_script") (CX:=fun _=>CX0) (sp:=fun w=>yg4 (K w.params)) hn (by decide) hdf ⟨rfl,by decide,by decide,rfl⟩ hY F (fun _ _ a ns hl _ hS=>⟨a,ns,rfl,hS,hl,fun _=>rfl⟩) fun _ _ _ _ _ z=>z
end Mh
def PySem.W.Fast.tw11953025442722858779:Nat:=0
def PySem.W.Fast.tw4953488833350259045:Nat:=0
def PySem.W.Fast.tw14263234226975495263:Nat:=0
def PySem.W.Fast.tw9106310521703234943:Nat:=0
def PySem.W.Fast.tw18370941454692764704:Nat:=0
def PySem.W.Fast.tw3827098791791257633:=PySem.Challenge.pw_marchmend_k07_harms_looked_at
theorem PySem.W.Fast.te3827098791791257633:PySem.Challenge.pw_marchmend_k07_harms_looked_at=PySem.W.Fast.tw3827098791791257633:=rfl
def PySem.W.Fast.tw8668433659310240591:Nat:=0
def PySem.W.Fast.tw17798231349439659367:Nat:=0
def PySem.W.Fast.tw18395663023324384081:Nat:=0
def PySem.W.Fast.tw6101164682981114246:Nat:=0
def PySem.W.Fast.tw573238059155276896:Nat:=0
def PySem.W.Fast.tw13209984349216577668:Nat:=0
def PySem.W.Fast.tw11004942994212761609:Nat:=0
def PySem.W.Fast.tw13570797151257205783:Nat:=0
def PySem.W.Fast.tw17243325354302139976:Nat:=0
def PySem.W.Fast.tw11865317461579763446:Nat:=0
def PySem.W.Fast.tw3526794833034370835:Nat:=0
def PySem.W.Fast.tw7168996128925018381:Nat:=0
def PySem.W.Fast.tw5574143249160406903:Nat:=0
def PySem.W.Fast.tw17412691025172229278:Nat:=0
def PySem.W.Fast.tw5503945704034387590:Nat:=0
def PySem.W.Fast.tw17420764015765931410:Nat:=0
def PySem.W.Fast.tw7053672927124179470:Nat:=0
def PySem.W.Fast.tw13668432264441868393:Nat:=0
def PySem.W.Fast.tw17415650191932798469:Nat:=0
def PySem.W.Fast.tw4451734910245077709:Nat:=0
def PySem.W.Fast.tw14400831975672251459:Nat:=0
def PySem.W.Fast.tw7613823906401534871:Nat:=0
def PySem.W.Fast.tw5535534468636643653:Nat:=0
def PySem.W.Fast.tw9482871253637170734:Nat:=0
def PySem.W.Fast.tw17028223446946108901:Nat:=0
def PySem.W.Fast.tw4953765130100154984:Nat:=0
def PySem.W.Fast.tw14312438735770875739:Nat:=0
def PySem.W.Fast.tw9510411348863115780:Nat:=0
def PySem.W.Fast.tw17730916891747364234:Nat:=0
def PySem.W.Fast.tw5030916212838312389:Nat:=0
def PySem.W.Fast.tw6196709365904846615:Nat:=0
def PySem.W.Fast.tw17309213249023633778:Nat:=0
def PySem.W.Fast.tw5940231273385145443:Nat:=0
def PySem.W.Fast.tw4433691516284736848:Nat:=0
def PySem.W.Fast.tw6547711400936397337:Nat:=0
def PySem.W.Fast.tw14347392100857812304:Nat:=0
def PySem.W.Fast.tw2274978448697820402:Nat:=0
def PySem.W.Fast.tw6779758000868707924:Nat:=0
def PySem.W.Fast.tw5297053015270991060:Nat:=0
def PySem.W.Fast.tw14296325688723384231:Nat:=0
def PySem.W.Fast.tw4220371736650894811:Nat:=0
def PySem.W.Fast.tw4183451074716356106:Nat:=0
def PySem.W.Fast.tw9957652531961894034:Nat:=0
def PySem.W.Fast.tw11360630099413641104:Nat:=0
def PySem.W.Fast.tw17285700903711023969:Nat:=0
def PySem.W.Fast.tw17544498696479038915:Nat:=0
def PySem.W.Fast.tw6450842359864362824:Nat:=0
def PySem.W.Fast.tw11350911548538155770:Nat:=0
def PySem.W.Fast.tw636522348986498515:Nat:=0
def PySem.W.Fast.tw2349136567054133511:Nat:=0
def PySem.W.Fast.tw18179387900361864804:Nat:=0
def PySem.W.Fast.tw11038045349338291294:Nat:=0
def PySem.W.Fast.tw14772114794482935986:Nat:=0
def PySem.W.Fast.tw4368405330997038125:Nat:=0
def PySem.W.Fast.tw7708331823710348774:Nat:=0
def PySem.W.Fast.tw14029414395728531263:Nat:=0
def PySem.W.Fast.tw5571873367347010613:Nat:=0
def PySem.W.Fast.tw10714271656095907484:Nat:=0
def PySem.W.Fast.tw3630856285422856496:Nat:=0
def PySem.W.Fast.tw3589889230758586752:Nat:=0
def PySem.W.Fast.tw12108982442417789424:Nat:=0
def PySem.W.Fast.tw12842268882318567622:Nat:=0
def PySem.W.Fast.tw7775772842887189448:Nat:=0
def PySem.W.Fast.tw16223250886227647008:Nat:=0
def PySem.W.Fast.tw3068011272091521145:Nat:=0
def PySem.W.Fast.tw10652974453309922725:Nat:=0
def PySem.W.Fast.tw15607214709447448676:Nat:=0
def PySem.W.Fast.tw13505965360499176771:Nat:=0
def PySem.W.Fast.tw5247104848277961033:Nat:=0
def PySem.W.Fast.tw4671321666428244130:Nat:=0
def PySem.W.Fast.tw10353676995237973950:Nat:=0
open PySem PySem.W PyProof.Rows
set_option maxRecDepth 100000 in
set_option maxHeartbeats 0 in
theorem PySem.Challenge.cw_marchmend_k07_harms_looked_at_holds : PySem.Challenge.rw_marchmend_k07_harms_looked_at.Holds := by
  w_on; o_law; k_head; (case hw=>w_witness2)
  k_fill
  refine Mh.walk (l:=PySem.Challenge.rw_marchmend_k07_harms_looked_at) rfl rfl (fun w h Y=>PySem.W.kIn_of Y) ?F
  case F=>
    intro w mg fa h KX G hmg
    refine' Mh.all_mk KX G hmg ?a0 ?l0 ?c0 ?k0 ?a1 ?l1 ?c1 ?k1 ?a2 ?l2 ?c2 ?k2 ?a3 ?l3 ?c3 ?k3 ?a4 ?l4 ?c4 ?k4 ?a5 ?l5 ?c5 ?k5 ?a6 ?l6 ?c6 ?k6 ?a7 ?l7 ?c7 ?k7 ?a8 ?l8 ?c8 ?k8 ?a9 ?l9 ?c9 ?k9 ?a10 ?l10 ?c10 ?k10 ?a11 ?l11 ?c11 ?k11 ?a12 ?l12 ?c12 ?k12 ?a13 ?l13 ?c13 ?k13 ?a14 ?l14 ?c14 ?k14 ?a15 ?l15 ?c15 ?k15 ?a16 ?l16 ?c16 ?k16 ?a17 ?l17 ?c17 ?k17 ?a18 ?l18 ?c18 ?k18 ?a19 ?l19 ?c19 ?k19 ?a20 ?l20 ?c20 ?k20 ?a21 ?l21 ?c21 ?k21 ?a22 ?l22 ?c22 ?k22 ?a23 ?l23 ?c23 ?k23 ?a24 ?l24 ?c24 ?k24 ?z0 ?z1 ?z2 ?z3 ?z4 ?z5 ?z6 ?z7 ?z8 ?z9 ?z10 ?z11 ?z12 ?z13 ?z14 ?z15 ?RA0 ?RA1 ?RA2 ?RA3 ?RA4 ?RA5 ?RA6 ?RA7 ?RA8 ?RA9 ?RA10 ?RA11 ?RA12 ?RM_ ?Rlk2 ?Rq2 ?Rlk3 ?Rq3 ?Rex3 ?Rkp2 ?Rga2 ?Rgh2 ?Rha2 ?Rhm2 ?Rsa2 ?Ro0_2 ?Ro1_2 ?Ro2_2 ?Ro3_2 ?Ro4_2 ?Ro5_2 ?Ro6_2 ?Ro7_2 ?Ro8_2 ?Ro9_2 ?Ro10_2 ?Ro11_2 ?Ro12_2 ?Rve2 ?Rem2 ?Rn2_0 ?Rhi2 ?Rhf2 ?RlI2 ?RcI2 ?RkI2 ?Rhn ?Rtk ?RzV ?zset ?zzip ?zall ?aMC ?aMH ?aMU ?aJ ?lJ ?aP ?lP ?mP ?tp0 ?tp1 ?tp2 ?tp3 ?tp4 ?tp5 ?tp6 ?tp7 ?tp8 ?tp9
    (case a0=>k_is)
    (case l0=>k_is)
    (case c0=>k_is)
    (case k0=>k_is)
    (case a1=>k_is)
    (case l1=>k_is)
    (case c1=>k_is)
    (case k1=>k_is)
    (case a2=>k_is)
    (case l2=>k_is)
    (case c2=>k_is)
    (case k2=>k_is)
    (case a3=>k_is)
    (case l3=>k_is)
    (case c3=>k_is)
    (case k3=>k_is)
    (case a4=>k_is)
    (case l4=>k_is)
    (case c4=>k_is)
    (case k4=>k_is)
    (case a5=>k_is)
    (case l5=>k_is)
    (case c5=>k_is)
    (case k5=>k_is)
    (case a6=>k_is)
    (case l6=>k_is)
    (case c6=>k_is)
    (case k6=>k_is)
    (case a7=>k_is)
    (case l7=>k_is)
    (case c7=>k_is)
    (case k7=>k_is)
    (case a8=>k_is)
    (case l8=>k_is)
    (case c8=>k_is)
    (case k8=>k_is)
    (case a9=>k_is)
    (case l9=>k_is)
    (case c9=>k_is)
    (case k9=>k_is)
    (case a10=>k_is)
    (case l10=>k_is)
    (case c10=>k_is)
    (case k10=>k_is)
    (case a11=>k_is)
    (case l11=>k_is)
    (case c11=>k_is)
    (case k11=>k_is)
    (case a12=>k_is)
    (case l12=>k_is)
    (case c12=>k_is)
    (case k12=>k_is)
    (case a13=>k_is)
    (case l13=>k_is)
    (case c13=>k_is)
    (case k13=>k_is)
    (case a14=>k_is)
    (case l14=>k_is)
    (case c14=>k_is)
    (case k14=>k_is)
    (case a15=>k_is)
    (case l15=>k_is)
    (case c15=>k_is)
    (case k15=>k_is)
    (case a16=>k_is)
    (case l16=>k_is)
    (case c16=>k_is)
    (case k16=>k_is)
    (case a17=>k_is)
    (case l17=>k_is)
    (case c17=>k_is)
    (case k17=>k_is)
    (case a18=>k_is)
    (case l18=>k_is)
    (case c18=>k_is)
    (case k18=>k_is)
    (case a19=>k_is)
    (case l19=>k_is)
    (case c19=>k_is)
    (case k19=>k_is)
    (case a20=>k_is)
    (case l20=>k_is)
    (case c20=>k_is)
    (case k20=>k_is)
    (case a21=>k_is)
    (case l21=>k_is)
    (case c21=>k_is)
    (case k21=>k_is)
    (case a22=>k_is)
    (case l22=>k_is)
    (case c22=>k_is)
    (case k22=>k_is)
    (case a23=>k_is)
    (case l23=>k_is)
    (case c23=>k_is)
    (case k23=>k_is)
    (case a24=>k_is)
    (case l24=>k_is)
    (case c24=>k_is)
    (case k24=>k_is)
    (case z0=>k_is)
    (case z1=>k_is)
    (case z2=>k_is)
    (case z3=>k_is)
    (case z4=>k_is)
    (case z5=>k_is)
    (case z6=>k_is)
    (case z7=>k_is)
    (case z8=>k_is)
    (case z9=>k_is)
    (case z10=>k_is)
    (case z11=>k_is)
    (case z12=>k_is)
    (case z13=>k_is)
    (case z14=>k_is)
    (case z15=>k_is)
    (case RA0=>k_is)
    (case RA1=>k_is)
    (case RA2=>k_is)
    (case RA3=>k_is)
    (case RA4=>k_is)
    (case RA5=>k_is)
    (case RA6=>k_is)
    (case RA7=>k_is)
    (case RA8=>k_is)
    (case RA9=>k_is)
    (case RA10=>k_is)
    (case RA11=>k_is)
    (case RA12=>k_is)
    (case RM_=>k_is)
    (case Rlk2=>k_is)
    (case Rq2=>rfl)
    (case Rlk3=>k_is)
    (case Rq3=>rfl)
    (case Rex3=>k_exc)
    (case Rkp2=>k_is)
    (case Rga2=>k_is)
    (case Rgh2=>k_is)
    (case Rha2=>k_is)
    (case Rhm2=>k_is)
    (case Rsa2=>k_is)
    (case Ro0_2=>kit_is)
    (case Ro1_2=>kit_is)
    (case Ro2_2=>kit_is)
    (case Ro3_2=>kit_is)
    (case Ro4_2=>kit_is)
    (case Ro5_2=>kit_is)
    (case Ro6_2=>kit_is)
    (case Ro7_2=>kit_is)
    (case Ro8_2=>kit_is)
    (case Ro9_2=>kit_is)
    (case Ro10_2=>kit_is)
    (case Ro11_2=>kit_is)
    (case Ro12_2=>kit_is)
    (case Rve2=>kit_is)
    (case Rem2=>kts_exm)
    (case Rn2_0=>k_is)
    (case Rhi2=>k_is)
    (case Rhf2=>k_is)
    (case RlI2=>k_is)
    (case RcI2=>k_is)
    (case RkI2=>k_is)
    (case Rhn=>k_is)
    (case Rtk=>k_is)
    (case RzV=>k_is)
    (case zset=>k_is)
    (case zzip=>k_is)
    (case zall=>k_is)
    (case aMC=>k_is)
    (case aMH=>k_is)
    (case aMU=>k_is)
    (case aJ=>k_is)
    (case lJ=>k_is)
    (case aP=>k_is)
    (case lP=>k_is)
    (case mP=>rfl)
    (case tp0=>k_is)
    (case tp1=>k_is)
    (case tp2=>k_is)
    (case tp3=>k_is)
    (case tp4=>k_is)
    (case tp5=>k_is)
    (case tp6=>k_is)
    (case tp7=>k_is)
    (case tp8=>k_is)
    (case tp9=>k_is)
#print axioms PySem.Challenge.cw_marchmend_k07_harms_looked_at_holds
