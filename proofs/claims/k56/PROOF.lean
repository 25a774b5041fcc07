import PyProof.Rows.All
import Wide.All
import OpenK.AllK
import Wide.FinOn
import Lean
import PyProof.EqAt
import PyProof.EqKinds
import PyProof.TupleCall
import PyProof.StrLawsTight
import PyProof.Rows.StrJoin2
import PyProof.Rows.StrSplitJoin
import KE.KTab
import PyProof.ZipIter
import PyProof.Rows.TupIter
import PyProof.Rows.SortWalk
import PyProof.Rows.SortStr
import PyProof.ConsumeWalk
import KE.KRevSl
import KE.KTryMore
import PyProof.NsDelKeeps
import PyProof.NeKinds
import KE.KIntText
import KE.KDictLaws
import PyProof.DictIter
import PyProof.DictWalks
import PyProof.DictItems
import KE.KSortTup
import KE.KDictList
import PyProof.SetKind
import PyProof.SetRoads
import PyProof.Rows.SetFrom
import PyProof.CollectWalk
import PyProof.CollectIter
import PyProof.Rows.SortShell
import PyProof.Rows.MinMaxN
import KE.KNestM
import KE.KLam
import KE.KMinKey
import PyProof.Rows.CallKwBuiltin
import PyProof.DictTruth
import PyProof.MeetsDictList
import KE.KRevIter
import PySem.Challenge.RW_marchmend_k56_words_read
set_option Elab.async false
set_option linter.all false
set_option maxRecDepth 100000
set_option maxHeartbeats 8000000
open List (length_map getElem?_eq_getElem mem_of_getElem? map_append length_append mem_cons_self getElem?_map mem_cons_of_mem size_toArray mem_cons length_take take_length map_cons lookup_cons mem_singleton length_cons mem_map mem_append take_add_one getElem?_append_right getElem?_append_left mem_append_right getD_eq_getElem?_getD take_of_length_le length_range length_zip length_drop all_cons map_drop map_take filter_cons mem_range any_cons replicate_succ getElem_mem getElem?_eq_none mem_of_mem_take getElem?_of_mem append_nil of_mem_zip length_replicate flatten_cons all_eq_true find?_cons not_mem_nil getElem?_range length_filter_le nodup_cons map_nil mem_flatMap flatMap_cons length_nil)
open Nat (le_refl le_trans zero_le ne_of_lt lt_of_lt_of_le lt_irrefl le_succ le_of_not_lt le_of_ble_eq_true ne_of_gt mul_le_mul le_of_lt mul_le_mul_left min_eq_left mul_le_mul_right add_mul one_mul lt_succ_of_lt not_lt_zero)
open PySem.Heap (get?_push_of_some lt_size get?_push_size size_push get?_update_self)
open Array (length_toList getElem?_toList)
open Int (emod_nonneg emod_lt_of_pos zero_add)
namespace L2
open PySem PySem.Spec PyProof.Rows
theorem zl{n:Nat}(h:Nat.ble n 99=true:=by rfl):n<=sizeLine:=le_trans (le_of_ble_eq_true h) (by decide)
abbrev Key:=Sum Int Str
def yj0:Key->Value->Bool
 |.inl k,v=>Value.isInt k v
 |.inr x,v=>Value.isStrOf x v
def keyH(w:World):Key->Int
 |.inl k=>hashInt k
 |.inr x=>hashStr w x
theorem ya6:∀{k:Key}{v:Value},yj0 k v=true->(∃i t,k=Sum.inl i/\v=Value.int i t)\/(∃x t,k=Sum.inr x/\v=Value.str x t)
 |.inl i,v,h=>by
  obtain ⟨t,e⟩:=Value.isInt_shape (k:=i) (v:=v) h
  exact .inl ⟨i,t,rfl,e⟩
 |.inr x,v,h=>by
  obtain ⟨t,e⟩:=Value.isStrOf_shape (x:=x) (v:=v) h
  exact .inr ⟨x,t,rfl,e⟩
theorem qku(i:Int)(t:Tok):yj0 (.inl i) (.int i t)=true:=by simp[yj0,Value.isInt]
theorem qlc(x:Str)(t:Tok):yj0 (.inr x) (.str x t)=true:=by simp[yj0,Value.isStrOf]
theorem key_ll(a b:Int):decide ((Sum.inl a:Key)=Sum.inl b)=(a == b):=by
 by_cases e:a=b
 ·subst e;simp
 ·have h:¬ (Sum.inl a:Key)=Sum.inl b:=λq=>e (Sum.inl.inj q)
  rw[decide_eq_false h]
  exact (beq_eq_false_iff_ne.mpr e).symm
theorem key_rr(a b:Str):decide ((Sum.inr a:Key)=Sum.inr b)=decide (a=b):=by
 by_cases e:a=b
 ·subst e;simp
 ·have h:¬ (Sum.inr a:Key)=Sum.inr b:=λq=>e (Sum.inr.inj q)
  rw[decide_eq_false h,decide_eq_false e]
theorem key_lr(a:Int)(b:Str):decide ((Sum.inl a:Key)=Sum.inr b)=false:=decide_eq_false (λq=>nomatch q)
theorem key_rl(a:Str)(b:Int):decide ((Sum.inr a:Key)=Sum.inl b)=false:=decide_eq_false (λq=>nomatch q)
def qbc(prog:Program)(w:World):PySem.KeyKind prog w Key where
 is:=yj0
 hash:=keyH w
 inj:=λv a b ha hb=>by
  rcases ya6 ha with ⟨i,t,rfl,rfl⟩|⟨x,t,rfl,rfl⟩
  ·rcases ya6 hb with ⟨j,u,rfl,e⟩|⟨y,u,rfl,e⟩
   ·injection e with e1 _;rw[e1]
   ·exact nomatch e
  ·rcases ya6 hb with ⟨j,u,rfl,e⟩|⟨y,u,rfl,e⟩
   ·exact nomatch e
   ·injection e with e1 _;rw[e1]
 byValue:=λk v h=>by
  rcases ya6 h with ⟨i,t,rfl,rfl⟩|⟨x,t,rfl,rfl⟩<;>rfl
 pyHash:=λhv h=>by
  rcases ya6 hv with ⟨i,t,rfl,rfl⟩|⟨x,t,rfl,rfl⟩
  ·exact wpAny_pyHash_int h
  ·exact wpAny_pyHash_str h
 eqBool:=λhu hv h=>by
  rcases ya6 hu with ⟨i,t,rfl,rfl⟩|⟨x,t,rfl,rfl⟩
  ·rcases ya6 hv with ⟨j,u,rfl,rfl⟩|⟨y,u,rfl,rfl⟩
   ·rw[key_ll]at h;exact wpAny_eqBool_int h
   ·rw[key_lr]at h;exact SeqAt.EqAt.int_str i t y u _ _ _ _ h
  ·rcases ya6 hv with ⟨j,u,rfl,rfl⟩|⟨y,u,rfl,rfl⟩
   ·rw[key_rl]at h;exact SeqAt.EqAt.str_int x t j u _ _ _ _ h
   ·rw[key_rr]at h;exact wpAny_eqBool_str h
 «strs»:=λk x t v h=>by
  rcases ya6 h with ⟨i,u,rfl,e⟩|⟨y,u,rfl,e⟩
  ·exact nomatch e
  ·injection e with e1 _
   subst e1
   cases v<;>rfl
theorem qi7(prog:Program)(w:World)(i:Int)(t:Tok):(qbc prog w).is (.inl i) (.int i t)=true:=qku i t
theorem yje(prog:Program)(w:World)(x:Str)(t:Tok):(qbc prog w).is (.inr x) (.str x t)=true:=qlc x t
end L2
namespace L2
open PySem PySem.Spec PyProof.Rows
inductive V where
 |non|bl (b:Bool)|int (i:Int)|str (x:Str)|byt (b:Array UInt8)|flt (b:UInt64)|ref (a:Addr)|ty (n:String)
 deriving DecidableEq
def RelV:V->Value->Prop
 |.non,u=>u=Value.none
 |.bl b,u=>u=Value.bool b
 |.int i,u=>∃t,u=Value.int i t
 |.str x,u=>∃t,u=Value.str x t
 |.byt b,u=>∃t,u=Value.bytes b t
 |.flt b,u=>∃t,u=Value.float b t
 |.ref a,u=>u=Value.ref a
 |.ty n,u=>u=Value.type n
abbrev Vals:List V->List Value->Prop:=Paired RelV
theorem Vals.length{xs:List V}{us:List Value}(r:Vals xs us):xs.length=us.length:=Paired.length r
theorem Vals.get:∀{xs:List V}{us:List Value}{i:Nat}{x:V},Vals xs us->xs[i]?=some x->∃u,us[i]?=some u/\RelV x u
 |_,_,_,_,.nil,e=>by simp at e
 |_,_,0,_,.cons r _,e=>by simp at e;subst e;exact ⟨_,rfl,r⟩
 |_,_,i+1,x,.cons _ t,e=>by
  obtain ⟨u,h1,h2⟩:=Vals.get (i:=i) (x:=x) t (by simpa using e)
  exact ⟨u,by simpa using h1,h2⟩
theorem Vals.set{x:V}{u:Value}(r:RelV x u):∀{xs:List V}{us:List Value} (i:Nat),Vals xs us->Vals (xs.set i x) (us.set i u)
 |_,_,_,.nil=>.nil
 |_,_,0,.cons _ t=>.cons r t
 |_,_,i+1,.cons q t=>.cons q (Vals.set r i t)
theorem Vals.append:∀{xs ys:List V}{us ws:List Value},Vals xs us->Vals ys ws->Vals (xs++ys) (us++ws)
 |_,_,_,_,.nil,s=>s
 |_,_,_,_,.cons r t,s=>.cons r (Vals.append t s)
theorem Vals.take:∀{xs:List V}{us:List Value} (n:Nat),Vals xs us->Vals (xs.take n) (us.take n)
 |_,_,0,_=>.nil
 |_,_,_+1,.nil=>.nil
 |_,_,n+1,.cons r t=>.cons r (Vals.take n t)
theorem Vals.drop:∀{xs:List V}{us:List Value} (n:Nat),Vals xs us->Vals (xs.drop n) (us.drop n)
 |_,_,0,r=>r
 |_,_,_+1,.nil=>.nil
 |_,_,n+1,.cons _ t=>Vals.drop n t
def RelO:Option V->Option Value->Prop
 |some v,some u=>RelV v u
 |none,none=>True
 |_,_=>False
def KV{κ:Type}:List (κ×V)->List (κ×Value)->Prop:=Paired λ(p:κ×V) (q:κ×Value)=>p.1=q.1/\RelV p.2 q.2
def kV:Key->V
 |.inl i=>.int i
 |.inr x=>.str x
inductive HO where
 |lst (xs:List V)
 |tup (xs:List V)
 |dK (kvs:List (Key×V))|dT (kvs:List (List Key×V))
 |set (S:Int->Bool) (n:Nat)
 |ins (C dx:Addr) (fs:List (Str×V))
 |own (x:Addr)
 |xd (fs:List (Str×V))
 |met (f x:Addr)
 |rng (lo hi:Int)
 |frz (o:Obj) (u:HO)
 |tbl (ps:Array Value)
 |ext (φ:Heap->Prop)
abbrev Hp:=Addr->Option HO
def upd(H:Hp)(a:Addr)(o:HO):Hp:=λb=>if b=a then some o else H b
theorem qaa{H:Hp}{a:Addr}{o:HO}:upd H a o a=some o:=by unfold upd;rw[if_pos rfl]
theorem qah{H:Hp}{a b:Addr}{o:HO}(h:b≠a):upd H a o b=H b:=by unfold upd;rw[if_neg h]
theorem qlz{H:Hp}{a:Addr}{o u:HO}:upd (upd H a o) a u=upd H a u:=by
 funext b;unfold upd;split<;>rfl
theorem ne_of{H:Hp}{a b:Addr}{o u:HO}(h:H a=some o)(h':H b=some u)(d:o≠u):a≠b:=by
 intro e;subst e;rw[h]at h';exact d (Option.some.inj h')
theorem yad{H:Hp}{a b:Addr}{o:HO}(h:H a=some o)(h':H b=none):a≠b:=by
 intro e;subst e;rw[h]at h';cases h'
section
variable (P:Program) (w:World)
def qbf(H:Hp)(h:Heap)(a:Addr):HO->Prop
 |.lst xs=>xs.length<=sizeLine/\∃(its:List Value) (n:Nat),Vals xs its/\h.get? a=some { cls:=.type "list",data:=.seq its.toArray n }
 |.tup xs=>xs.length<=sizeLine/\∃its:List Value,Vals xs its/\IsTup h a its.toArray
 |.dK kvs=>kvs.length<=sizeLine/\(a == sysModules)=false/\∃vs,KV kvs vs/\h.DictOf (qbc P w) a vs
 |.dT kvs=>kvs.length<=sizeLine/\(a == sysModules)=false/\∃xs:List (List Key×Addr×Value),
   Paired (λ(p:List Key×V) (q:List Key×Addr×Value)=>p.1=q.1/\H q.2.1=some (.tup (p.1.map kV))/\RelV p.2 q.2.2) kvs xs/\
   ∃o es ep,h.get? a=some o/\o.ExactDict/\o.data=.dict es ep/\es.toList=xs.map (entryOfKey (tupleKind (qbc P w)))/\(xs.map (·.1)).Nodup
 |.set S n=>h.SetOf (intKind P w) a S n
 |.ins C dx fs=>H dx=some (.own a)/\fs.length<=1000/\dx≠a/\h.get? a=some (W.instObj C dx)/\
   ∃mA,h.Ns1 dx mA/\(∀f,RelO (fs.lookup f) (mA f))/\PySem.Within mA (fs.map (·.1))
 |.own _=>∃o,h.get? a=some o
 |.xd fs=>∃mA,h.Ns1 a mA/\∀f,RelO (fs.lookup f) (mA f)
 |.rng lo hi=>∃t u v,h.get? a=some { cls:=.type "range",data:=.fields #[.int lo t,.int hi u,.int 1 v] }
 |.frz o u=>h.get? a=some o/\qbf H h a u
 |.tbl ps=>h.get? a=some { cls:=.none,data:=.fields ps }
 |.met f x=>h.get? a=some (W.methodObj (.ref f) (.ref x))
 |.ext φ=>φ h/\(∃o,h.get? a=some o)/\∀h1 h2:Heap,φ h1->(∀o,h1.get? a=some o->h2.get? a=some o)->φ h2
def HOk(H:Hp)(h:Heap):Prop:=∀a o,H a=some o->qbf P w H h a o
end
section
variable {P:Program}{w:World}{H H':Hp}{h h':Heap}{a:Addr}{o:HO}
theorem qbf.lt(x:qbf P w H h a o):a<h.objs.size:=by
 cases o with
 |lst xs=>obtain ⟨_,_,_,_,e⟩:=x;exact lt_size e
 |tup xs=>obtain ⟨_,_,_,p⟩:=x;exact p.lt
 |dK kvs=>obtain ⟨_,_,_,_,o,_,_,e,_⟩:=x;exact lt_size e
 |dT kvs=>obtain ⟨_,_,_,_,o,_,_,e,_⟩:=x;exact lt_size e
 |set S n=>obtain ⟨o,_,_,_,e,_⟩:=x;exact lt_size e
 |ins C dx fs=>obtain ⟨_,_,_,e,_⟩:=x;exact lt_size e
 |own y=>obtain ⟨_,e⟩:=x;exact lt_size e
 |xd fs=>obtain ⟨_,⟨_,_,_,e,_⟩,_⟩:=x;exact lt_size e
 |rng lo hi=>obtain ⟨_,_,_,e⟩:=x;exact lt_size e
 |frz ob u=>obtain ⟨e,_⟩:=x;exact lt_size e
 |tbl ps=>exact lt_size (show h.get? a=some _ from x)
 |met f y=>exact lt_size (show h.get? a=some _ from x)
 |ext φ=>obtain ⟨_,⟨_,e⟩,_⟩:=x;exact lt_size e
theorem Paired.mapP{α β:Type}{F G:α->β->Prop}:∀{l₁:List α}{l₂:List β},Paired F l₁ l₂->(∀a b,F a b->G a b)->Paired G l₁ l₂
 |_,_,.nil,_=>.nil
 |_,_,.cons r t,f=>.cons (f _ _ r) (Paired.mapP t f)
theorem qbf.stay(x:qbf P w H h a o)(k:∀b u,(b=a\/H b=some (.own a))->h.get? b=some u->h'.get? b=some u)
  (ho:∀b,H b=some (.own a)->H' b=some (.own a)) (ht:∀b xs,H b=some (.tup xs)->H' b=some (.tup xs)):qbf P w H' h' a o:=by
 induction o with
 |lst xs=>obtain ⟨z,its,n,r,e⟩:=x;exact ⟨z,its,n,r,k _ _ (.inl rfl) e⟩
 |tup xs=>obtain ⟨z,its,r,ob,e,c⟩:=x;exact ⟨z,its,r,ob,k _ _ (.inl rfl) e,c⟩
 |dK kvs=>obtain ⟨z,y,vs,r,ob,es,ep,e,c⟩:=x;exact ⟨z,y,vs,r,ob,es,ep,k _ _ (.inl rfl) e,c⟩
 |dT kvs=>
  obtain ⟨z,y,xs,r,ob,es,ep,e,c⟩:=x
  exact ⟨z,y,xs,Paired.mapP r λp q z=>⟨z.1,ht _ _ z.2.1,z.2.2⟩,ob,es,ep,k _ _ (.inl rfl) e,c⟩
 |set S n=>obtain ⟨ob,es,ep,t,e,c⟩:=x;exact ⟨ob,es,ep,t,k _ _ (.inl rfl) e,c⟩
 |ins C dx fs=>
  obtain ⟨d,z,ne,e,mA,⟨od,es,ep,e2,c⟩,r⟩:=x
  exact ⟨ho _ d,z,ne,k _ _ (.inl rfl) e,mA,⟨od,es,ep,k _ _ (.inr d) e2,c⟩,r⟩
 |own y=>obtain ⟨ob,e⟩:=x;exact ⟨ob,k _ _ (.inl rfl) e⟩
 |xd fs=>obtain ⟨mA,⟨od,es,ep,e,c⟩,r⟩:=x;exact ⟨mA,⟨od,es,ep,k _ _ (.inl rfl) e,c⟩,r⟩
 |rng lo hi=>obtain ⟨t,u,v,e⟩:=x;exact ⟨t,u,v,k _ _ (.inl rfl) e⟩
 |frz ob u ih=>obtain ⟨e,q⟩:=x;exact ⟨k _ _ (.inl rfl) e,ih q⟩
 |tbl ps=>
  have e:h.get? a=some { cls:=.none,data:=.fields ps }:=x
  show h'.get? a=some { cls:=.none,data:=.fields ps }
  exact k a _ (.inl rfl) e
 |met f y=>
  have e:h.get? a=some (W.methodObj (.ref f) (.ref y)):=x
  show h'.get? a=some (W.methodObj (.ref f) (.ref y))
  exact k a _ (.inl rfl) e
 |ext φ=>obtain ⟨p,⟨o,e⟩,st⟩:=x;exact ⟨st _ _ p λo q=>k _ _ (.inl rfl) q,⟨o,k _ _ (.inl rfl) e⟩,st⟩
theorem HOk.lt(x:HOk P w H h)(e:H a=some o):a<h.objs.size:=(x a o e).lt
theorem HOk.fresh(x:HOk P w H h)(e:h.objs.size<=a):H a=none:=by
 cases q:H a with
 |none=>rfl
 |some u=>exact absurd (lt_of_lt_of_le (x.lt q) e) (lt_irrefl _)
theorem HOk.kept(x:HOk P w H h)(k:∀b u,h.get? b=some u->h'.get? b=some u):HOk P w H h':=λa o e=>
 (x a o e).stay (λb u _ q=>k b u q) (λ_ q=>q) λ_ _ q=>q
theorem HOk.laid(x:HOk P w H h)(k:∀b u,h.get? b=some u->h'.get? b=some u)(hp:h.objs.size<=a)(new:qbf P w (upd H a o) h' a o):HOk P w (upd H a o) h':=λb u e=>by
 have hn:=x.fresh hp
 by_cases hb:b=a
 ·subst hb;rw[qaa]at e;cases e;exact new
 ·rw[qah hb]at e
  exact (x b u e).stay (λc v _ q=>k c v q) (λc q=>by rw[qah (yad q hn)];exact q) λc xs q=>by rw[qah (yad q hn)];exact q
end
def Rd(H:Hp)(a:Addr)(u:HO):Prop:=H a=some u\/∃o,H a=some (.frz o u)
theorem Rd.ok{P:Program}{w:World}{H:Hp}{h:Heap}{a:Addr}{u:HO}(r:Rd H a u)(x:HOk P w H h):qbf P w H h a u:=by
 rcases r with r|⟨o,r⟩
 ·exact x a u r
 ·obtain ⟨_,q⟩:=x a _ r
  exact q
def Mut:Option HO->Prop
 |some (.lst _)=>True
 |some (.dK _)=>True
 |some (.dT _)=>True
 |some (.set _ _)=>True
 |some (.ins _ _ _)=>True
 |some (.ext _)=>True
 |_=>False
section
variable {P:Program}{w:World}{H:Hp}{h h':Heap}{x e:Addr}{o':HO}
theorem HOk.write(ok:HOk P w H h)(mu:Mut (H x))(he:e=x\/H e=some (.own x))(k:∀b u,b≠e->h.get? b=some u->h'.get? b=some u)(heo:∃u,h'.get? e=some u)
  (new:qbf P w (upd H x o') h' x o'):HOk P w (upd H x o') h':=λb u q=>by
 have nown:∀c y,H c=some (.own y)->c≠x:=λc y r z=>by subst z;rw[r]at mu;exact mu
 have ntup:∀c xs,H c=some (.tup xs)->c≠x:=λc xs r z=>by subst z;rw[r]at mu;exact mu
 by_cases hb:b=x
 ·subst hb;rw[qaa]at q;cases q;exact new
 ·rw[qah hb]at q
  by_cases hbe:b=e
  ·have q':H b=some (.own x):=by
    rcases he with z|z
    ·exact absurd (hbe.trans z) hb
    ·rw[hbe];exact z
   rw[q]at q';cases q'
   obtain ⟨v,hv⟩:=heo
   exact ⟨v,by rw[hbe];exact hv⟩
  ·refine (ok b u q).stay (λc v hc r=>k c v ?_ r) (λc r=>by rw[qah (nown c b r)];exact r) λc xs r=>by rw[qah (ntup c xs r)];exact r
   rcases hc with rfl|hc
   ·exact hbe
   ·rintro rfl
    rcases he with z|z
    ·exact nown c b hc z
    ·rw[hc]at z;cases z;exact hb rfl
end
structure Un(fs ex:List Addr)(H H':Hp)(h h':Heap):Prop where
 keep:∀b o,h.get? b=some o->H b=none->b∉fs->b∉ex->h'.get? b=some o
 slot:∀b o,h.get? b=some o->H b=none->b∈fs->b∉ex->∃sl,h'.get? b=some { o with slots:=sl }
 free:∀b o,h.get? b=some o->H b=none->b∉ex->H' b=none
 there:∀b o,h.get? b=some o->b∉ex->∃o',h'.get? b=some o'
 tups:∀b xs,H b=some (.tup xs)->H' b=some (.tup xs)
 frzs:∀b o u,H b=some (.frz o u)->H' b=some (.frz o u)
 tbls:∀b ps,H b=some (.tbl ps)->∃more,H' b=some (.tbl (ps++more))
section
variable {fs fs' ex ex':List Addr}{H H1 H2:Hp}{h h1 h2 h':Heap}{a x e:Addr}{o:HO}
theorem Un.any(u:Un fs ex H H1 h h1){b:Addr}{ob:Obj}(q:h.get? b=some ob)(n:H b=none)(hx:b∉ex):∃sl,h1.get? b=some { ob with slots:=sl }:=by
 by_cases hb:b∈fs
 ·exact u.slot b ob q n hb hx
 ·exact ⟨ob.slots,u.keep b ob q n hb hx⟩
theorem Un.kept(k:∀b u,h.get? b=some u->h'.get? b=some u):Un fs ex H H h h':=
 ⟨λb ob q _ _ _=>k b ob q,λb ob q _ _ _=>⟨ob.slots,k b ob q⟩,λ_ _ _ n _=>n,λb ob q _=>⟨ob,k b ob q⟩,λ_ _ q=>q,λ_ _ _ q=>q,λ_ ps q=>⟨#[],by rw[q];simp⟩⟩
theorem Un.refl:Un fs ex H H h h:=Un.kept λ_ _ q=>q
theorem Un.laid(k:∀b u,h.get? b=some u->h'.get? b=some u)(hp:h.objs.size<=a)(hn:H a=none):Un fs ex H (upd H a o) h h' where
 keep:=λb u q _ _ _=>k b u q
 slot:=λb u q _ _ _=>⟨u.slots,k b u q⟩
 free:=λb u q n _=>by rw[qah (ne_of_lt (lt_of_lt_of_le (lt_size q) hp))];exact n
 there:=λb u q _=>⟨u,k b u q⟩
 tups:=λb xs q=>by rw[qah (yad q hn)];exact q
 frzs:=λb u xs q=>by rw[qah (yad q hn)];exact q
 tbls:=λb ps q=>⟨#[],by rw[qah (yad q hn),q];simp⟩
theorem Un.write(mu:Mut (H x))(he:e=x\/H e=some (.own x))(k:∀b u,b≠e->h.get? b=some u->h'.get? b=some u)(heo:∃u,h'.get? e=some u):Un fs ex H (upd H x o) h h':=by
 have hx:∀b,H b=none->b≠x:=λb n z=>by subst z;rw[n]at mu;exact mu
 have hb:∀b,H b=none->b≠e:=λb n z=>by
  subst z
  rcases he with r|r
  ·exact hx b n r
  ·rw[n]at r;cases r
 have hm:∀b u,H b=some u->¬ Mut (some u)->b≠x:=λb u q nm z=>by subst z;rw[q]at mu;exact nm mu
 refine ⟨λb u q n _ _=>k b u (hb b n) q,λb u q n _ _=>⟨u.slots,k b u (hb b n) q⟩,λb u q n _=>by rw[qah (hx b n)];exact n,λb u q _=>?_,
  λb xs q=>by rw[qah (hm b _ q λz=>z)];exact q,λb u xs q=>by rw[qah (hm b _ q λz=>z)];exact q,λb ps q=>⟨#[],by rw[qah (hm b _ q λz=>z),q];simp⟩⟩
 by_cases hbe:b=e
 ·subst hbe;exact heo
 ·exact ⟨u,k b u hbe q⟩
end
def trk(h:Heap)(H:Hp):List Addr:=(List.range h.objs.size).filter λa=>(H a).isSome
def hidT(h:Heap)(H:Hp):Heap:=W.hideAll h (trk h H)
theorem yks(h:Heap)(H:Hp):(hidT h H).objs.size=h.objs.size:=W.hideAll_size _ _
theorem hidT_get{h:Heap}{H:Hp}{b:Addr}{o:Obj}(e:h.get? b=some o)(n:H b=none):(hidT h H).get? b=some o:=
 W.hideAll_get _ e λhm=>by
  have q:(H b).isSome=true:=(List.mem_filter.mp hm).2
  rw[n]at q;simp at q
theorem of_hidT{h:Heap}{H:Hp}{b:Addr}{o:Obj}(e:(hidT h H).get? b=some o):h.get? b=some o/\H b=none:=by
 have e':h.get? b=some o:=W.of_hideAll (trk h H) e
 refine ⟨e',?_⟩
 cases q:H b with
 |none=>rfl
 |some x=>
  have hm:b∈trk h H:=List.mem_filter.mpr ⟨mem_range.mpr (lt_size e'),by simp[q]⟩
  have z:(hidT h H).get? b=none:=W.hideAll_none (trk h H) hm
  rw[z]at e;cases e
structure Mod(K:W.Frag)(mg:Str->Option Value)(base:Heap):Prop where
 kin:K.In base
 glob:base.Ns mainGlobals mg
 blt:∃mb,base.Ns builtinsNs mb/\∀x:Str,x≠"__name__"->mb x=bootBuiltins x
 nolimit:base.NoLimit
structure Cx where
 prog:Program
 w:World
 K:W.Frag
 mg:Str->Option Value
 base:Heap
 A:Around
 N:List Str
 s₀:Shared
 H₀:Hp
 env:Env
 outer:List Env
 stack:List Env
 ex:List Addr
 fn:Str->Bool
 calm:Bool
 pn:List (Addr×Obj)
 xe:Value->Shared->Prop
def frs(l:List Env):List Addr:=l.filterMap (·.frame)
abbrev Cx.fs(X:Cx):List Addr:=frs X.outer
def Vis(sc:Scope)(x:Str):Prop:=sc.names.lookup x=some .local\/sc.names.lookup x=some .cell\/sc.names.lookup x=some .free
def Loc(sc:Scope)(x:Str):Prop:=sc.names.lookup x=some .local\/sc.names.lookup x=some .cell
def Look(env:Env)(h:Heap)(m:Str->Option Value)(x:Str)(u:Value):Prop:=
 (env.kindOf x=some .local/\m x=some u)\/((env.kindOf x=some .cell\/env.kindOf x=some .free)/\∃c,env.cells.lookup x=some c/\h.IsCell c (some u))
structure Cx.Ok(X:Cx):Prop where
 mod:Mod X.K X.mg X.base
 kind:X.env.scope.kind=.function
 glob:X.env.globals=mainGlobals
 blt:X.env.builtins=builtinsNs
 above:X.s₀.heap.objs.size<=X.env.locals
 inj:∀x y c,X.env.cells.lookup x=some c->X.env.cells.lookup y=some c->x=y
 has:∀x,(X.env.kindOf x=some .cell\/X.env.kindOf x=some .free)->∃c,X.env.cells.lookup x=some c
 cab:∀x c,X.fn x=true->X.env.cells.lookup x=some c->X.s₀.heap.objs.size<=c
 hd:X.calm=true->X.A.handled=none
 frames:X.A.frames=some X.stack
 stk:X.stack=X.outer\/(X.stack=X.env::X.outer/\X.env.frame=some X.env.locals)
 exf:∀b∈X.ex,b≠X.env.locals/\∀x c,X.env.cells.lookup x=some c->c≠b
 bs:∀b o,X.base.get? b=some o->X.s₀.heap.get? b=some o/\X.H₀ b=none
 bsz:X.base.objs.size<=X.s₀.heap.objs.size
 noex:∀b o,X.base.get? b=some o->b∉X.ex
 exfs:∀b∈X.ex,b∉X.fs
 funs:X.s₀.heap.FunFrames X.base X.outer
 frf:∀b∈X.fs,X.H₀ b=none
structure Inv(X:Cx)(pins:List (Addr×Obj))(σ:List (Option V))(H:Hp)(s:Shared):Prop where
 ok:X.Ok
 os:s.os=X.s₀.os
 bare:AllBare s.gens
 base:Un X.fs X.ex X.H₀ H X.s₀.heap s.heap
 loc:∃m,s.heap.Ns X.env.locals m/\∀(i:Nat) (x:Str) (v:V),X.N[i]?=some x->σ[i]?=some (some v)->Vis X.env.scope x->∃u,RelV v u/\Look X.env s.heap m x u
 cell:∀x c,X.env.cells.lookup x=some c->∃v,s.heap.IsCell c v
 free:H X.env.locals=none
 freeC:∀x c,X.env.cells.lookup x=some c->H c=none
 pin:∀p∈X.pn++pins,s.heap.get? p.1=some p.2/\H p.1=none/\p.1≠X.env.locals/\p.1∉X.fs/\∀v,p.2.data≠.cell v
 hok:HOk X.prog X.w H s.heap
 len:σ.length=X.N.length
section
variable {X:Cx}{pins:List (Addr×Obj)}{σ:List (Option V)}{H H':Hp}{s:Shared}{h':Heap}
theorem Cx.Ok.nofr(ok:X.Ok){b:Addr}{o:Obj}(e:X.base.get? b=some o):b∉X.fs:=λhb=>by
 have:=(ok.funs.mem hb).1
 rw[e]at this;cases this
theorem Inv.bs(I:Inv X pins σ H s):∀b o,X.base.get? b=some o->s.heap.get? b=some o/\H b=none:=λb o e=>
 ⟨I.base.keep b o (I.ok.bs b o e).1 (I.ok.bs b o e).2 (I.ok.nofr e) (I.ok.noex b o e),I.base.free b o (I.ok.bs b o e).1 (I.ok.bs b o e).2 (I.ok.noex b o e)⟩
theorem Inv.bk(I:Inv X pins σ H s):∀b o,X.base.get? b=some o->s.heap.get? b=some o:=λb o e=>(I.bs b o e).1
theorem Inv.mod(I:Inv X pins σ H s):Mod X.K X.mg X.base:=I.ok.mod
theorem Inv.kIn(I:Inv X pins σ H s):X.K.In s.heap:=I.ok.mod.kin.keeps I.bk
theorem Inv.lt(I:Inv X pins σ H s):X.env.locals<s.heap.objs.size:=let ⟨_,hn,_⟩:=I.loc;hn.lt
theorem Inv.sz(I:Inv X pins σ H s):X.s₀.heap.objs.size<=s.heap.objs.size:=le_trans I.ok.above (le_of_lt I.lt)
theorem Inv.nofs(I:Inv X pins σ H s){a:Addr}(h:s.heap.objs.size<=a):a∉X.fs:=λhb=>by
 obtain ⟨_,o,ho,_⟩:=I.ok.funs.mem hb
 exact absurd (lt_of_lt_of_le (lt_size ho) (le_trans I.sz h)) (lt_irrefl _)
theorem Inv.cne(I:Inv X pins σ H s):∀x c,X.env.cells.lookup x=some c->c≠X.env.locals:=λx c e z=>by
 obtain ⟨v,o,ho,hd⟩:=I.cell x c e
 obtain ⟨m,⟨o',es,ep,ho',hd',_⟩,_⟩:=I.loc
 rw[z,ho']at ho;cases ho;rw[hd']at hd;cases hd
theorem Inv.funs(I:Inv X pins σ H s):s.heap.FunFrames X.base X.outer:=by
 have all:∀(l:List Env),(∀b∈frs l,b∈X.fs)->X.s₀.heap.FunFrames X.base l->s.heap.FunFrames X.base l:=by
  intro l
  induction l with
  |nil=>intro _ _;trivial
  |cons env r ih=>
   intro hs hl
   obtain ⟨hk,⟨L,o,hf,hn,ho,hd⟩,hr⟩:=hl
   have hL:L∈X.fs:=hs L (by unfold frs;rw[List.filterMap_cons,hf];exact mem_cons_self)
   obtain ⟨sl,e⟩:=I.base.slot L o ho (I.ok.frf L hL) hL λz=>I.ok.exfs L z hL
   exact ⟨hk,⟨L,_,hf,hn,e,hd⟩,ih (λb hb=>hs b (by unfold frs;rw[List.filterMap_cons,hf];exact mem_cons_of_mem _ hb)) hr⟩
 exact all X.outer (λ_ hb=>hb) I.ok.funs
theorem Inv.stack(I:Inv X pins σ H s):s.heap.FunFrames X.base X.stack:=by
 rcases I.ok.stk with e|⟨e,hf⟩
 ·rw[e];exact I.funs
 ·rw[e]
  obtain ⟨m,hn,_⟩:=I.loc
  refine .cons (by rw[I.ok.kind];decide) hf hn ?_ I.funs
  exact Heap.get?_none_of_le (le_trans I.ok.bsz I.ok.above)
theorem Inv.stkSub(I:Inv X pins σ H s):∀b∈frs X.stack,b∈X.env.locals::X.fs:=λb hb=>by
 rcases I.ok.stk with e|⟨e,hf⟩
 ·rw[e]at hb;exact mem_cons_of_mem _ hb
 ·rw[e]at hb
  unfold frs at hb
  rw[List.filterMap_cons,hf]at hb
  exact hb
theorem Inv.stkFree(I:Inv X pins σ H s):∀b∈frs X.stack,H b=none:=λb hb=>by
 rcases mem_cons.mp (I.stkSub b hb) with e|hb
 ·rw[e];exact I.free
 ·obtain ⟨_,o,ho,_⟩:=I.ok.funs.mem hb
  exact I.base.free b o ho (I.ok.frf b hb) λz=>I.ok.exfs b z hb
theorem Inv.step{g':Array GenState}{t':Nat}{d':Drawn}{ch:List Addr}(I:Inv X pins σ H s)
  (hch:∀b∈ch,(b∈X.ex\/X.s₀.heap.objs.size<=b)/\b≠X.env.locals/\(∀x c,X.env.cells.lookup x=some c->c≠b)/\∀p∈X.pn++pins,p.1≠b)
  (keep:∀b o,b≠X.env.locals->b∉X.fs->b∉ch->s.heap.get? b=some o->H b=none->h'.get? b=some o)
  (slot:∀b o,b≠X.env.locals->b∈X.fs->b∉ch->s.heap.get? b=some o->H b=none->∃sl,h'.get? b=some { o with slots:=sl }) (free:∀b o,b∉ch->s.heap.get? b=some o->H b=none->H' b=none)
  (there:∀b o,b∉ch->s.heap.get? b=some o->∃o',h'.get? b=some o')
  (tups:∀b xs,H b=some (.tup xs)->H' b=some (.tup xs)) (frzs:∀b o u,H b=some (.frz o u)->H' b=some (.frz o u)) (tbls:∀b ps,H b=some (.tbl ps)->∃more,H' b=some (.tbl (ps++more)))
  (ns:∀m,s.heap.Ns X.env.locals m->h'.Ns X.env.locals m) (hok:HOk X.prog X.w H' h') (hg:AllBare g') :
  Inv X pins σ H' { s with heap:=h',gens:=g',drawn:=d',toks:=t' }:=by
 have neL:∀b o,X.s₀.heap.get? b=some o->b≠X.env.locals:=λb o e=>ne_of_lt (lt_of_lt_of_le (lt_size e) I.ok.above)
 have neC:∀b o,X.s₀.heap.get? b=some o->b∉X.ex->b∉ch:=λb o e hx hb=>by
  rcases (hch b hb).1 with z|z
  ·exact hx z
  ·exact absurd (lt_of_lt_of_le (lt_size e) z) (lt_irrefl _)
 have cellK:∀x c,X.env.cells.lookup x=some c->∀v,s.heap.IsCell c v->h'.IsCell c v:=λx c e v ⟨o,ho,hd⟩=>by
  have nch:c∉ch:=λz=>(hch c z).2.2.1 x c e rfl
  by_cases hc:c∈X.fs
  ·obtain ⟨sl,q⟩:=slot c o (I.cne x c e) hc nch ho (I.freeC x c e)
   exact ⟨_,q,hd⟩
  ·exact ⟨o,keep c o (I.cne x c e) hc nch ho (I.freeC x c e),hd⟩
 refine ⟨I.ok,I.os,hg,⟨λb o e n hb hx=>?_,λb o e n hb hx=>?_,λb o e n hx=>?_,λb o e hx=>?_,λb xs e=>tups b xs (I.base.tups b xs e),λb o xs e=>frzs b o xs (I.base.frzs b o xs e),λb ps e=>?_⟩,?_,λx c e=>?_,?_,λx c e=>?_,λp hp=>?_,hok,I.len⟩
 ·exact keep b o (neL b o e) hb (neC b o e hx) (I.base.keep b o e n hb hx) (I.base.free b o e n hx)
 ·obtain ⟨sl,e1⟩:=I.base.slot b o e n hb hx
  obtain ⟨sl',e2⟩:=slot b _ (neL b o e) hb (neC b o e hx) e1 (I.base.free b o e n hx)
  exact ⟨sl',e2⟩
 ·obtain ⟨o',e1⟩:=I.base.there b o e hx
  exact free b o' (neC b o e hx) e1 (I.base.free b o e n hx)
 ·obtain ⟨o',e1⟩:=I.base.there b o e hx
  exact there b o' (neC b o e hx) e1
 ·obtain ⟨m1,e1⟩:=I.base.tbls b ps e
  obtain ⟨m2,e2⟩:=tbls b _ e1
  exact ⟨m1++m2,by rw[e2,Array.append_assoc]⟩
 ·obtain ⟨m,hn,hl⟩:=I.loc
  refine ⟨m,ns m hn,λi x v e1 e2 e3=>?_⟩
  obtain ⟨u,r,l⟩:=hl i x v e1 e2 e3
  refine ⟨u,r,?_⟩
  rcases l with l|⟨k,c,e,z⟩
  ·exact .inl l
  ·exact .inr ⟨k,c,e,cellK x c e _ z⟩
 ·obtain ⟨v,z⟩:=I.cell x c e
  exact ⟨v,cellK x c e v z⟩
 ·obtain ⟨m,⟨o,_,_,ho,_⟩,_⟩:=I.loc
  exact free _ o (λz=>(hch _ z).2.1 rfl) ho I.free
 ·obtain ⟨v,o,ho,hd⟩:=I.cell x c e
  exact free c o (λz=>(hch c z).2.2.1 x c e rfl) ho (I.freeC x c e)
 ·obtain ⟨e,n,ne,nf,d⟩:=I.pin p hp
  have nch:p.1∉ch:=λz=>(hch p.1 z).2.2.2 p hp rfl
  exact ⟨keep p.1 p.2 ne nf nch e n,free p.1 p.2 nch e n,ne,nf,d⟩
theorem Inv.un{t':Nat}(I:Inv X pins σ H s)(u:Un X.fs [] H H' s.heap h')(hok:HOk X.prog X.w H' h'):Inv X pins σ H' { s with heap:=h',toks:=t' }:=by
 obtain ⟨m,⟨o,es,ep,ho,r⟩,_⟩:=id I.loc
 obtain ⟨sl,hL⟩:=u.any ho I.free (by simp)
 exact I.step (g':=s.gens) (d':=s.drawn) (ch:=[]) (λ_ z=>nomatch z) (λb o _ hb _ e n=>u.keep b o e n hb (by simp)) (λb o _ hb _ e n=>u.slot b o e n hb (by simp)) (λb o _ e n=>u.free b o e n (by simp)) (λb o _ e=>u.there b o e (by simp)) u.tups u.frzs u.tbls (λm' hm=>by
  obtain ⟨o',es',ep',ho',r'⟩:=hm
  rw[ho]at ho';cases ho'
  exact ⟨_,es',ep',hL,r'⟩) hok I.bare
theorem Inv.call{g':Array GenState}{t':Nat}{d':Drawn}{ch:List Addr}(I:Inv X pins σ H s)(u:Un (frs X.stack) ch H H' s.heap h')(hok:HOk X.prog X.w H' h')(hg:AllBare g')
  (hch:∀b∈ch,(b∈X.ex\/X.s₀.heap.objs.size<=b)/\b≠X.env.locals/\(∀x c,X.env.cells.lookup x=some c->c≠b)/\∀p∈X.pn++pins,p.1≠b) :
  Inv X pins σ H' { s with heap:=h',gens:=g',drawn:=d',toks:=t' }:=by
 obtain ⟨m,⟨o,es,ep,ho,r⟩,_⟩:=id I.loc
 obtain ⟨sl,hL⟩:=u.any ho I.free λz=>(hch _ z).2.1 rfl
 exact I.step (ch:=ch) hch (λb o hL hb hc e n=>u.keep b o e n (λz=>(mem_cons.mp (I.stkSub b z)).elim hL hb) hc) (λb o _ _ hc e n=>u.any e n hc) (λb o hc e n=>u.free b o e n hc) (λb o hc e=>u.there b o e hc) u.tups u.frzs u.tbls (λm' hm=>by
  obtain ⟨o',es',ep',ho',r'⟩:=hm
  rw[ho]at ho';cases ho'
  exact ⟨_,es',ep',hL,r'⟩) hok hg
theorem Inv.turned{t':Nat}{it:Addr}(I:Inv X pins σ H s)(k:∀b o,b≠it->s.heap.get? b=some o->h'.get? b=some o)(hn:H it=none)(hL:it≠X.env.locals)
  (h1:it∈X.ex\/X.s₀.heap.objs.size<=it) (h2:∀x c,X.env.cells.lookup x=some c->c≠it) (h3:∀p∈X.pn++pins,p.1≠it):Inv X pins σ H { s with heap:=h',toks:=t' }:=by
 have nit:∀b u,H b=some u->b≠it:=λb u e z=>by rw[z,hn]at e;cases e
 refine I.step (g':=s.gens) (d':=s.drawn) (ch:=[it]) (λb hb=>?_) (λb o _ _ hc e _=>k b o (λz=>hc (by simp[z])) e) (λb o _ _ hc e _=>⟨o.slots,k b o (λz=>hc (by simp[z])) e⟩) (λ_ _ _ _ n=>n)
  (λb o hc e=>⟨o,k b o (λz=>hc (by simp[z])) e⟩) (λ_ _ e=>e) (λ_ _ _ e=>e) (λb ps e=>⟨#[],by rw[e];simp⟩) (λm hm=>?_) (λb u e=>?_) I.bare
 ·have e:b=it:=by simpa using hb
  subst e
  exact ⟨h1,hL,h2,h3⟩
 ·obtain ⟨o,es,ep,ho,r⟩:=hm
  exact ⟨o,es,ep,k _ o (Ne.symm hL) ho,r⟩
 ·refine (I.hok b u e).stay (λc v hc q=>k c v ?_ q) (λ_ q=>q) λ_ _ q=>q
  rcases hc with z|z
  ·rw[z];exact nit b u e
  ·exact nit c _ z
theorem Inv.tok(I:Inv X pins σ H s)(t:Nat):Inv X pins σ H { s with toks:=t }:=I.un (h':=s.heap) (t':=t) Un.refl I.hok
theorem Inv.kept{t':Nat}(I:Inv X pins σ H s)(k:∀b u,s.heap.get? b=some u->h'.get? b=some u):Inv X pins σ H { s with heap:=h',toks:=t' }:=I.un (Un.kept k) (I.hok.kept k)
theorem Inv.laid{a:Addr}{o:HO}{t':Nat}(I:Inv X pins σ H s)(k:∀b u,s.heap.get? b=some u->h'.get? b=some u)(hp:s.heap.objs.size<=a)(new:qbf X.prog X.w (upd H a o) h' a o) :
  Inv X pins σ (upd H a o) { s with heap:=h',toks:=t' }:=I.un (Un.laid k hp (I.hok.fresh hp)) (I.hok.laid k hp new)
theorem Inv.write{x e:Addr}{o:HO}{t':Nat}(I:Inv X pins σ H s)(mu:Mut (H x))(he:e=x\/H e=some (.own x))(k:∀b u,b≠e->s.heap.get? b=some u->h'.get? b=some u)(heo:∃u,h'.get? e=some u)
  (new:qbf X.prog X.w (upd H x o) h' x o):Inv X pins σ (upd H x o) { s with heap:=h',toks:=t' }:=I.un (Un.write mu he k heo) (I.hok.write mu he k heo new)
theorem Inv.weak{σ':List (Option V)}(I:Inv X pins σ H s)(hl:σ'.length=σ.length)(w:∀(i:Nat) v,σ'[i]?=some (some v)->σ[i]?=some (some v)):Inv X pins σ' H s:=
 ⟨I.ok,I.os,I.bare,I.base,let ⟨m,hn,hl'⟩:=I.loc;⟨m,hn,λi x v e1 e2 e3=>hl' i x v e1 (w i v e2) e3⟩,I.cell,I.free,I.freeC,I.pin,I.hok,hl.trans I.len⟩
theorem Inv.pins_of{pins':List (Addr×Obj)}(I:Inv X pins σ H s)(h:∀p∈pins',s.heap.get? p.1=some p.2/\H p.1=none/\p.1≠X.env.locals/\p.1∉X.fs/\∀v,p.2.data≠.cell v):Inv X pins' σ H s:=
 ⟨I.ok,I.os,I.bare,I.base,I.loc,I.cell,I.free,I.freeC,λp hp=>(mem_append.mp hp).elim (λz=>I.pin p (List.mem_append_left _ z)) (h p),I.hok,I.len⟩
theorem yjr{N:List Str}(hN:N.Nodup){i j:Nat}{x:Str}(a:N[i]?=some x)(b:N[j]?=some x):i=j:=by
 obtain ⟨h1,e1⟩:=List.getElem?_eq_some_iff.mp a
 obtain ⟨h2,e2⟩:=List.getElem?_eq_some_iff.mp b
 exact (List.getElem_inj hN).mp (e1.trans e2.symm)
theorem qf6{M:Model}{A:Around}{E:Value->Shared->Prop}{i:Nat}{x:Str}{v:V}{u:Value}{Q:Unit->Shared->Prop}(I:Inv X pins σ H s)(hN:X.N.Nodup)(hi:X.N[i]?=some x)(hx:Loc X.env.scope x)(r:RelV v u)
  (h:∀s',Inv X pins (σ.set i (some v)) H s'->(∃a,Heap.SameBut a s.heap s'.heap/\(a=X.env.locals\/X.env.cells.lookup x=some a))->Q () s') (hf:X.fn x=true\/X.env.scope.names.lookup x=some .local:=by first|exact .inl rfl|exact .inr rfl|assumption):wpAny M A (storeName X.env x u) Q E s:=by
 obtain ⟨m,hn,hl⟩:=id I.loc
 have hcls:(X.env.scope.kind == .class||(X.env.scope.kind == .module&&X.env.locals != X.env.globals))=false:=by rw[I.ok.kind];rfl
 have hiσ:i<σ.length:=by rw[I.len];exact (List.getElem?_eq_some_iff.mp hi).1
 have cne:=I.cne
 have tracked:∀{a:Addr}{h':Heap},(∃o,s.heap.get? a=some o/\H a=none)->Heap.SameBut a s.heap h'->HOk X.prog X.w H h':=λ{a h'} ha hs b ob e=>by
  obtain ⟨_,_,hfree⟩:=ha
  refine (I.hok b ob e).stay (λc w' hc q=>(hs.2 c ?_).trans q) (λ_ q=>q) λ_ _ q=>q
  rintro rfl
  rcases hc with rfl|hc
  ·rw[hfree]at e;cases e
  ·rw[hfree]at hc;cases hc
 rcases hx with hk|hk
 ·refine wpAny_storeName_local hk hn (λh' hn' hs=>?_) hcls
  obtain ⟨oL,_,_,hoL,_⟩:=id hn
  refine h _ ⟨I.ok,I.os,I.bare,⟨λb o e n hb hx=>?_,λb o e n hb hx=>?_,I.base.free,λb o e hx=>?_,I.base.tups,I.base.frzs,I.base.tbls⟩,⟨_,hn',λj y v' e1 e2 e3=>?_⟩,λy c e=>?_,I.free,I.freeC,λp hp=>?_,tracked ⟨oL,hoL,I.free⟩ hs,by simpa using I.len⟩ ⟨_,hs,.inl rfl⟩
  ·exact (hs.2 b (ne_of_lt (lt_of_lt_of_le (lt_size e) I.ok.above))).trans (I.base.keep b o e n hb hx)
  ·obtain ⟨sl,e1⟩:=I.base.slot b o e n hb hx
   exact ⟨sl,(hs.2 b (ne_of_lt (lt_of_lt_of_le (lt_size e) I.ok.above))).trans e1⟩
  ·obtain ⟨o',e1⟩:=I.base.there b o e hx
   exact ⟨o',(hs.2 b (ne_of_lt (lt_of_lt_of_le (lt_size e) I.ok.above))).trans e1⟩
  ·by_cases hj:j=i
   ·subst hj
    rw[hi]at e1;cases e1
    rw[List.getElem?_set_self hiσ]at e2
    cases e2
    exact ⟨u,r,.inl ⟨hk,by simp⟩⟩
   ·rw[List.getElem?_set_ne (Ne.symm hj)]at e2
    obtain ⟨u',r',q⟩:=hl j y v' e1 e2 e3
    refine ⟨u',r',?_⟩
    rcases q with ⟨k,e⟩|⟨k,c,e,z⟩
    ·refine .inl ⟨k,?_⟩
     have:y≠x:=λe=>hj (yjr hN e1 (e ▸ hi))
     simp[this,e]
    ·exact .inr ⟨k,c,e,z.sameBut hs (cne y c e)⟩
  ·obtain ⟨w',z⟩:=I.cell y c e
   exact ⟨w',z.sameBut hs (cne y c e)⟩
  ·obtain ⟨e,n,ne,nf,d⟩:=I.pin p hp
   exact ⟨(hs.2 p.1 ne).trans e,n,ne,nf,d⟩
 ·have hfn:X.fn x=true:=by
   rcases hf with z|z
   ·exact z
   ·rw[z]at hk;cases hk
  obtain ⟨c,hc⟩:=I.ok.has x (.inl hk)
  obtain ⟨w',z⟩:=I.cell x c hc
  refine wpAny_storeName_cell I.ok.kind hk hc z (λh' hc' hs=>?_)
  obtain ⟨oc,hoc,hocd⟩:=id z
  refine h { s with heap:=h' } ⟨I.ok,I.os,I.bare,⟨λb o e n hb hx=>?_,λb o e n hb hx=>?_,I.base.free,λb o e hx=>?_,I.base.tups,I.base.frzs,I.base.tbls⟩,⟨m,hn.sameBut hs (Ne.symm (cne x c hc)),λj y v' e1 e2 e3=>?_⟩,λy c' e=>?_,I.free,I.freeC,λp hp=>?_,tracked ⟨oc,hoc,I.freeC x c hc⟩ hs,by simpa using I.len⟩ ⟨c,hs,.inr hc⟩
  ·exact (hs.2 b (ne_of_lt (lt_of_lt_of_le (lt_size e) (I.ok.cab x c hfn hc)))).trans (I.base.keep b o e n hb hx)
  ·obtain ⟨sl,e1⟩:=I.base.slot b o e n hb hx
   exact ⟨sl,(hs.2 b (ne_of_lt (lt_of_lt_of_le (lt_size e) (I.ok.cab x c hfn hc)))).trans e1⟩
  ·obtain ⟨o',e1⟩:=I.base.there b o e hx
   exact ⟨o',(hs.2 b (ne_of_lt (lt_of_lt_of_le (lt_size e) (I.ok.cab x c hfn hc)))).trans e1⟩
  ·by_cases hj:j=i
   ·subst hj
    rw[hi]at e1;cases e1
    rw[List.getElem?_set_self hiσ]at e2
    cases e2
    exact ⟨u,r,.inr ⟨.inl hk,c,hc,hc'⟩⟩
   ·rw[List.getElem?_set_ne (Ne.symm hj)]at e2
    obtain ⟨u',r',q⟩:=hl j y v' e1 e2 e3
    refine ⟨u',r',?_⟩
    rcases q with q|⟨k,c',e,z'⟩
    ·exact .inl q
    ·refine .inr ⟨k,c',e,z'.sameBut hs ?_⟩
     rintro rfl
     exact hj (yjr hN e1 (I.ok.inj _ _ _ e hc ▸ hi))
  ·by_cases hcc:c'=c
   ·subst hcc;exact ⟨_,hc'⟩
   ·obtain ⟨w2,z2⟩:=I.cell y c' e
    exact ⟨w2,z2.sameBut hs hcc⟩
  ·obtain ⟨e,n,ne,nf,d⟩:=I.pin p hp
   refine ⟨(hs.2 p.1 ?_).trans e,n,ne,nf,d⟩
   intro q
   rw[q,hoc]at e
   have q':oc=p.2:=Option.some.inj e
   exact d w' (by rw[<-q'];exact hocd)
theorem qjt{M:Model}{A:Around}{E:Value->Shared->Prop}{i:Nat}{x:Str}{v:V}{u:Value}{Q:Unit->Shared->Prop}(I:Inv X pins σ H s)(hN:X.N.Nodup)(hi:X.N[i]?=some x)(hx:Loc X.env.scope x)(r:RelV v u)
  (h:∀s',Inv X pins (σ.set i (some v)) H s'->Q () s') (hf:X.fn x=true\/X.env.scope.names.lookup x=some .local:=by first|exact .inl rfl|exact .inr rfl|assumption):wpAny M A (storeName X.env x u) Q E s:=
 qf6 I hN hi hx r (λs' I' _=>h s' I') hf
theorem Inv.call'{s':Shared}{ch:List Addr}(I:Inv X pins σ H s)(ho:s'.os=s.os)(u:Un (frs X.stack) ch H H' s.heap s'.heap)(hok:HOk X.prog X.w H' s'.heap)(hg:AllBare s'.gens)
  (hch:∀b∈ch,(b∈X.ex\/X.s₀.heap.objs.size<=b)/\b≠X.env.locals/\(∀x c,X.env.cells.lookup x=some c->c≠b)/\∀p∈X.pn++pins,p.1≠b):Inv X pins σ H' s':=by
 obtain ⟨h',g',d',t',o'⟩:=s'
 have e:o'=s.os:=ho
 subst e
 exact I.call (g':=g') (t':=t') (d':=d') u hok hg hch
end
abbrev XK:=Value->Option Addr->Hp->Prop
abbrev St:=List (Option V)
abbrev VK:=V->Hp->Prop
abbrev TE:=St->Hp->VK->Prop
abbrev TT:=St->Hp->(Bool->Hp->Prop)->Prop
abbrev TA:=St->Hp->(List V->Hp->Prop)->Prop
structure Ends where
 nx:St->Hp->Prop
 rt:VK
 bk:St->Hp->Prop:=λ_ _=>False
 ct:St->Hp->Prop:=λ_ _=>False
abbrev TS:=Ends->St->Hp->Prop
def EP(X:Cx)(pins:List (Addr×Obj))(σ:St)(Q:VK)(u:Value)(s':Shared):Prop:=∃v H',Inv X pins σ H' s'/\RelV v u/\Q v H'
def TP(X:Cx)(pins:List (Addr×Obj))(σ:St)(Q:Bool->Hp->Prop)(b:Bool)(s':Shared):Prop:=∃H',Inv X pins σ H' s'/\Q b H'
def AP(X:Cx)(pins:List (Addr×Obj))(σ:St)(Q:List V->Hp->Prop)(us:List Value)(s':Shared):Prop:=∃vs H',Inv X pins σ H' s'/\Vals vs us/\Q vs H'
def SP(X:Cx)(pins:List (Addr×Obj))(D:Ends)(f:Flow)(s':Shared):Prop:=
 match f with
 |.next=>∃σ' H',Inv X pins σ' H' s'/\D.nx σ' H'
 |.brk=>∃σ' H',Inv X pins σ' H' s'/\D.bk σ' H'
 |.cont=>∃σ' H',Inv X pins σ' H' s'/\D.ct σ' H'
 |.ret u=>∃v σ' H',Inv X pins σ' H' s'/\RelV v u/\D.rt v H'
def PE(X:Cx)(e:Expr)(t:TE):Prop:=
 ∀(pins:List (Addr×Obj)) (s:Shared) (σ:St) (H:Hp) (Q:VK),Inv X pins σ H s->t σ H Q->wpAny (model X.prog X.w) X.A (eval e X.env) (EP X pins σ Q) X.xe s
def PT(X:Cx)(e:Expr)(t:TT):Prop:=
 ∀(pins:List (Addr×Obj)) (s:Shared) (σ:St) (H:Hp) (Q:Bool->Hp->Prop),Inv X pins σ H s->t σ H Q->wpAny (model X.prog X.w) X.A (isTrue e X.env (eval e X.env)) (TP X pins σ Q) X.xe s
def PW(X:Cx)(e:Expr)(t:TT):Prop:=
 ∀(whole:Sem Value) (pins:List (Addr×Obj)) (s:Shared) (σ:St) (H:Hp) (Q:Bool->Hp->Prop),Inv X pins σ H s->t σ H Q->wpAny (model X.prog X.w) X.A (isTrue e X.env whole) (TP X pins σ Q) X.xe s
theorem PW.pt{X:Cx}{e:Expr}{t:TT}(h:PW X e t):PT X e t:=h _
def PA(X:Cx)(es:List Expr)(t:TA):Prop:=
 ∀(pos:Pos) (pins:List (Addr×Obj)) (s:Shared) (σ:St) (H:Hp) (Q:List V->Hp->Prop),Inv X pins σ H s->t σ H Q->wpAny (model X.prog X.w) X.A (spliced (backTo pos (starEach es X.env))) (AP X pins σ Q) X.xe s
def PS(X:Cx)(st:Stmt)(t:TS):Prop:=
 ∀(pins:List (Addr×Obj)) (s:Shared) (σ:St) (H:Hp) (D:Ends),Inv X pins σ H s->t D σ H->wpAny (model X.prog X.w) X.A (exec st X.env) (SP X pins D) X.xe s
def PSs(X:Cx)(st:List Stmt)(t:TS):Prop:=
 ∀(pins:List (Addr×Obj)) (s:Shared) (σ:St) (H:Hp) (D:Ends),Inv X pins σ H s->t D σ H->wpAny (model X.prog X.w) X.A (execs st X.env) (SP X pins D) X.xe s
theorem thn{α:Type}{t:Sem α}{Q Q':α->Shared->Prop}{M:Model}{A:Around}{E:Value->Shared->Prop}{s:Shared}(h:wpAny M A t Q E s)(hQ:∀a s,Q a s->Q' a s):wpAny M A t Q' E s:=wpAny_mono h hQ λ_ _ x=>x
section
variable {X:Cx}
def tVar(i:Nat):TE:=λσ H Q=>∃v,σ[i]?=some (some v)/\Q v H
def tC(v:V):TE:=λ_ H Q=>Q v H
theorem pe_var{i:Nat}{x:Str}{pos:Pos}(hN:X.N[i]?=some x)(hv:Vis X.env.scope x)(hd:(x == ("__debug__" : Str))=false:=by decide)(hcd:(x == ("__classdict__" : Str))=false:=by decide):PE X (.Name x pos) (tVar i):=by
 intro pins s σ H Q I h
 obtain ⟨v,e,h⟩:=h
 obtain ⟨m,hn,hl⟩:=I.loc
 obtain ⟨u,r,l⟩:=hl i x v hN e hv
 have fin:EP X pins σ Q u s:=⟨v,H,I,r,h⟩
 rcases l with ⟨hk,hm⟩|⟨hk,c,hc,hcell⟩
 ·exact wpAny_Name (wpAny_loadName_local I.ok.kind hk hn hm fin) hd
 ·rcases hk with hk|hk
  ·exact wpAny_Name (wpAny_loadName_cell I.ok.kind hk hc hcell fin) hd
  ·exact wpAny_Name (wpAny_loadName_free I.ok.kind hk hc hcell fin hcd) hd
theorem yab{i j pos}:PE X (.Constant (.int i) j pos) (tC (.int i)):=λ_ _ _ H _ I h=>wpAny_Constant_int ⟨.int i,H,I.tok _,⟨_,rfl⟩,h⟩
theorem yjc{b j pos}:PE X (.Constant (.bool b) j pos) (tC (.bl b)):=λ_ _ _ H _ I h=>Constant_bool ⟨.bl b,H,I,rfl,h⟩
theorem qik{j pos}:PE X (.Constant .none j pos) (tC .non):=λ_ _ _ H _ I h=>Constant_none ⟨.non,H,I,rfl,h⟩
theorem yak{x j pos}:PE X (.Constant (.str x) j pos) (tC (.str x)):=λ_ _ _ H _ I h=>Calls.Constant_str ⟨.str x,H,I.tok _,⟨_,rfl⟩,h⟩
def Gl(X:Cx)(x:Str):Prop:=X.env.kindOf x=some .globalImplicit
theorem yi1{E:Value->Shared->Prop}{pins:List (Addr×Obj)}{s:Shared}{σ:St}{H:Hp}{x:Str}{u:Value}{pos:Pos}{Q:Value->Shared->Prop}(I:Inv X pins σ H s)(hg:Gl X x)(hm:X.mg x=some u)(h:Q u s)
  (hd:(x == ("__debug__" : Str))=false:=by decide):wpAny (model X.prog X.w) X.A (eval (.Name x pos) X.env) Q E s:=
 Calls.Name_function_global I.ok.kind hg (Calls.loadGlobal_global (by rw[I.ok.glob];exact I.mod.glob.keeps I.bk) hm h) hd
theorem qc6{E:Value->Shared->Prop}{pins:List (Addr×Obj)}{s:Shared}{σ:St}{H:Hp}{x:Str}{u:Value}{pos:Pos}{Q:Value->Shared->Prop}(I:Inv X pins σ H s)(hg:Gl X x)(hm:X.mg x=none)(hv:bootBuiltins x=some u)(h:Q u s)
  (hn:x≠"__name__":=by decide) (hd:(x == ("__debug__" : Str))=false:=by decide):wpAny (model X.prog X.w) X.A (eval (.Name x pos) X.env) Q E s:=by
 obtain ⟨mb,h1,h2⟩:=I.mod.blt
 exact Calls.Name_function_global I.ok.kind hg (Calls.loadGlobal_builtin (by rw[I.ok.glob];exact I.mod.glob.keeps I.bk) hm (by rw[I.ok.blt];exact h1.keeps I.bk) ((h2 x hn).trans hv) h) hd
theorem yfr{x:Str}{v:V}{u:Value}{pos:Pos}(hg:Gl X x)(hm:X.mg x=some u)(r:RelV v u)(hd:(x == ("__debug__" : Str))=false:=by decide):PE X (.Name x pos) (tC v):=
 λ_ _ _ H _ I h=>yi1 I hg hm ⟨v,H,I,r,h⟩ hd
theorem qbr{x:Str}{v:V}{u:Value}{pos:Pos}(hg:Gl X x)(hm:X.mg x=none)(hv:bootBuiltins x=some u)(r:RelV v u)(hn:x≠"__name__":=by decide)(hd:(x == ("__debug__" : Str))=false:=by decide):PE X (.Name x pos) (tC v):=
 λ_ _ _ H _ I h=>qc6 I hg hm hv ⟨v,H,I,r,h⟩ hn hd
variable {a b:Expr}{ta tb:TE}{pos:Pos}
def PC(X:Cx)(op:CmpOp)(a b:Expr)(t:TE):Prop:=
 ∀(pins:List (Addr×Obj)) (s:Shared) (σ:St) (H:Hp) (Q:VK),Inv X pins σ H s->t σ H Q->
  wpAny (model X.prog X.w) X.A (eval a X.env) (λv s₁=>wpAny (model X.prog X.w) X.A (eval b X.env) (λu s₂=>wpAny (model X.prog X.w) X.A (compareOp op v u) (EP X pins σ Q) X.xe s₂) X.xe s₁) X.xe s
theorem nobehind(b:Expr){op:CmpOp}(h:op≠.In)(h2:op≠.NotIn):behindInMarks op b=false:=by
 have e1:(op == CmpOp.In)=false:=by cases op<;>first|rfl|exact absurd rfl h
 have e2:(op == CmpOp.NotIn)=false:=by cases op<;>first|rfl|exact absurd rfl h2
 cases b<;>simp[behindInMarks,e1,e2]
def tIsN(ta:TE):TE:=λσ H Q=>ta σ H λx H1=>Q (.bl (decide (x=.non))) H1
def tNotN(ta:TE):TE:=λσ H Q=>ta σ H λx H1=>Q (.bl (!decide (x=.non))) H1
theorem RelV.none_iff{x:V}{v:Value}(r:RelV x v):(v == Value.none)=decide (x=.non):=by
 cases x with
 |non=>cases r;rfl
 |bl _=>cases r;rfl
 |int _=>obtain ⟨t,rfl⟩:=r;rfl
 |str _=>obtain ⟨t,rfl⟩:=r;rfl
 |byt _=>obtain ⟨t,rfl⟩:=r;rfl
 |flt _=>obtain ⟨t,rfl⟩:=r;rfl
 |ref _=>cases r;rfl
 |ty _=>cases r;rfl
theorem pc_isN{j pos'}(ha:PE X a ta):PC X .Is a (.Constant .none j pos') (tIsN ta):=by
 intro pins s σ H Q I h
 refine thn (ha pins s σ H _ I h) λv s1 ⟨x,H1,I1,r1,q1⟩=>?_
 exact Constant_none (is_none_gen ⟨.bl _,H1,I1,by rw[r1.none_iff];rfl,q1⟩)
theorem yjd{j pos'}(ha:PE X a ta):PC X .IsNot a (.Constant .none j pos') (tNotN ta):=by
 intro pins s σ H Q I h
 refine thn (ha pins s σ H _ I h) λv s1 ⟨x,H1,I1,r1,q1⟩=>?_
 exact Constant_none (isnot_none_gen ⟨.bl _,H1,I1,by rw[r1.none_iff];rfl,q1⟩)
def tB(t:TE):TT:=λσ H Q=>t σ H λx H1=>∃c,x=.bl c/\Q c H1
theorem qii{op:CmpOp}{t:TE}(h:PC X op a b t)(h1:behindInMarks op b=false:=by first|exact nobehind _ (by decide) (by decide)|rfl):PT X (.Compare a [op] [b] pos) (tB t):=by
 intro pins s σ H Q I hw
 refine wpAny_isTrue_Compare1 (thn (h pins s σ H _ I hw) λv s1 h1=>thn h1 λu s2 h2=>thn h2 λc s3 ⟨x,H1,I1,r1,q1⟩=>?_) h1
 obtain ⟨d,rfl,q⟩:=q1
 cases r1
 exact wpAny_truthy_bool ⟨H1,I1,q⟩
theorem qca{e:Expr}{t:TE}(h:PE X e t)(he:∀whole,isTrue e X.env whole=(do let v <-whole;standAt e.pos;holding [v] (truthy v)):=by intro _;rfl):PT X e (tB t):=by
 intro pins s σ H Q I hw
 refine isTrue_plain (thn (h pins s σ H _ I hw) λv s1 ⟨x,H1,I1,r1,q1⟩=>?_) (he _)
 obtain ⟨d,rfl,q⟩:=q1
 cases r1
 exact wpAny_truthy_bool ⟨H1,I1,q⟩
variable {tA tB':TT}{rest:List Expr}
def tAnd(t u:TT):TT:=λσ H Q=>t σ H λc H1=>if c=true then u σ H1 Q else Q false H1
def tOr(t u:TT):TT:=λσ H Q=>t σ H λc H1=>if c=true then Q true H1 else u σ H1 Q
def tNot(t:TT):TT:=λσ H Q=>t σ H λc H1=>Q (!c) H1
theorem yb4(ha:PT X a tA):PW X (.BoolOp .And [a] pos) tA:=by
 intro wh pins s σ H Q I h
 refine isTrue_and (thn (ha pins s σ H Q I h) λc s1 e=>?_)
 cases c with
 |true=>exact isTrue_and_nil e
 |false=>exact e
theorem qjm(ha:PT X a tA):PW X (.BoolOp .Or [a] pos) tA:=by
 intro wh pins s σ H Q I h
 refine isTrue_or (thn (ha pins s σ H Q I h) λc s1 e=>?_)
 cases c with
 |false=>exact isTrue_or_nil e
 |true=>exact e
theorem yb9(ha:PT X a tA)(hb:PW X (.BoolOp .And (b::rest) pos) tB'):PW X (.BoolOp .And (a::b::rest) pos) (tAnd tA tB'):=by
 intro wh pins s σ H Q I h
 refine isTrue_and (thn (ha pins s σ H _ I h) λc s1 ⟨H1,I1,q1⟩=>?_)
 cases c with
 |true=>exact hb wh pins s1 σ H1 Q I1 q1
 |false=>exact ⟨H1,I1,q1⟩
theorem pw_or(ha:PT X a tA)(hb:PW X (.BoolOp .Or (b::rest) pos) tB'):PW X (.BoolOp .Or (a::b::rest) pos) (tOr tA tB'):=by
 intro wh pins s σ H Q I h
 refine isTrue_or (thn (ha pins s σ H _ I h) λc s1 ⟨H1,I1,q1⟩=>?_)
 cases c with
 |true=>exact ⟨H1,I1,q1⟩
 |false=>exact hb wh pins s1 σ H1 Q I1 q1
theorem yc5(ha:PT X a tA):PT X (.UnaryOp .Not a pos) (tNot tA):=by
 intro pins s σ H Q I h
 exact isTrue_not (ha pins s σ H (λc H1=>Q (!c) H1) I h)
def tAndV(ta tb:TE):TE:=λσ H Q=>ta σ H λx H1=>∃c,x=.bl c/\if c=true then tb σ H1 Q else Q (.bl false) H1
def tOrV(ta tb:TE):TE:=λσ H Q=>ta σ H λx H1=>∃c,x=.bl c/\if c=true then Q (.bl true) H1 else tb σ H1 Q
def tNotV(ta:TE):TE:=λσ H Q=>ta σ H λx H1=>∃c,x=.bl c/\Q (.bl (!c)) H1
theorem yb6{op}{t:TE}(h:PE X a t):PE X (.BoolOp op [a] pos) t:=λpins s σ H Q I hw=>BoolOp_one (h pins s σ H Q I hw)
theorem ybe(ha:PE X a ta)(hb:PE X (.BoolOp .And (b::rest) pos) tb):PE X (.BoolOp .And (a::b::rest) pos) (tAndV ta tb):=by
 intro pins s σ H Q I h
 refine BoolOp_and (thn (ha pins s σ H _ I h) λv s1 ⟨x,H1,I1,r1,q1⟩=>?_)
 obtain ⟨c,rfl,q1⟩:=q1
 cases r1
 refine wpAny_truthy_bool ?_
 cases c with
 |true=>exact hb pins s1 σ H1 Q I1 q1
 |false=>exact ⟨.bl false,H1,I1,rfl,q1⟩
theorem pe_or(ha:PE X a ta)(hb:PE X (.BoolOp .Or (b::rest) pos) tb):PE X (.BoolOp .Or (a::b::rest) pos) (tOrV ta tb):=by
 intro pins s σ H Q I h
 refine BoolOp_or (thn (ha pins s σ H _ I h) λv s1 ⟨x,H1,I1,r1,q1⟩=>?_)
 obtain ⟨c,rfl,q1⟩:=q1
 cases r1
 refine wpAny_truthy_bool ?_
 cases c with
 |false=>exact hb pins s1 σ H1 Q I1 q1
 |true=>exact ⟨.bl true,H1,I1,rfl,q1⟩
theorem pe_not(ha:PE X a ta):PE X (.UnaryOp .Not a pos) (tNotV ta):=by
 intro pins s σ H Q I h
 refine UnaryOp_ (thn (ha pins s σ H _ I h) λv s1 ⟨x,H1,I1,r1,q1⟩=>?_)
 obtain ⟨c,rfl,q1⟩:=q1
 cases r1
 exact not_of (wpAny_truthy_bool ⟨.bl (!c),H1,I1,rfl,q1⟩)
def tIf(t:TT)(ta tb:TE):TE:=λσ H Q=>t σ H λc H1=>if c=true then ta σ H1 Q else tb σ H1 Q
theorem ye7{c:Expr}(hc:PT X c tA)(ha:PE X a ta)(hb:PE X b tb):PE X (.IfExp c a b pos) (tIf tA ta tb):=by
 intro pins s σ H Q I h
 refine wpAny_IfExp (thn (hc pins s σ H _ I h) λd s1 ⟨H1,I1,q1⟩=>?_)
 cases d with
 |true=>exact ha pins s1 σ H1 Q I1 q1
 |false=>exact hb pins s1 σ H1 Q I1 q1
end
def SqL(K:W.Frag)(H:Hp)(a:Addr)(xs:List V):Prop:=
 Rd H a (.lst xs)\/
  ∃(o:Obj) (its:Array Value) (n:Nat),K.lookup a=some o/\o.cls=.type "list"/\o.dict=none/\o.data=.seq its n/\its.size<=sizeLine/\Vals xs its.toList
def SqT(K:W.Frag)(H:Hp)(a:Addr)(xs:List V):Prop:=
 Rd H a (.tup xs)\/
  ∃(o:Obj) (its:Array Value) (n:Nat),K.lookup a=some o/\o.cls=.type "tuple"/\o.data=.seq its n/\its.size<=sizeLine/\Vals xs its.toList
def absV:Value->Option V
 |.none=>some .non
 |.bool b=>some (.bl b)
 |.int i _=>some (.int i)
 |.str x _=>some (.str x)
 |.bytes b _=>some (.byt b)
 |.float b _=>some (.flt b)
 |.ref a=>some (.ref a)
 |.type n=>some (.ty n)
 |_=>none
theorem RelV.abs{x:V}{u:Value}(r:RelV x u):absV u=some x:=by
 cases x with
 |non=>cases r;rfl
 |bl _=>cases r;rfl
 |int _=>obtain ⟨t,rfl⟩:=r;rfl
 |str _=>obtain ⟨t,rfl⟩:=r;rfl
 |byt _=>obtain ⟨t,rfl⟩:=r;rfl
 |flt _=>obtain ⟨t,rfl⟩:=r;rfl
 |ref _=>cases r;rfl
 |ty _=>cases r;rfl
theorem RelV.inj{x y:V}{u:Value}(r:RelV x u)(q:RelV y u):x=y:=Option.some.inj (r.abs.symm.trans q.abs)
theorem Vals.inj:∀{xs ys:List V}{us:List Value},Vals xs us->Vals ys us->xs=ys
 |_,_,_,.nil,.nil=>rfl
 |_,_,_,.cons r t,.cons r' t'=>by rw[r.inj r',Vals.inj t t']
section
variable {X:Cx}{pins:List (Addr×Obj)}{σ:St}{H:Hp}{s:Shared}{a:Addr}{xs ys:List V}
theorem sqlO{K:W.Frag}(h:H a=some (.lst xs)):SqL K H a xs:=.inl (.inl h)
theorem sqtO{K:W.Frag}(h:H a=some (.tup xs)):SqT K H a xs:=.inl (.inl h)
theorem Inv.list(I:Inv X pins σ H s)(h:SqL X.K H a xs):∃its:List Value,Vals xs its/\PlainL s.heap a its.toArray/\xs.length<=sizeLine:=by
 rcases h with h|⟨o,its,n,hk,hc,hd,hs,hz,r⟩
 ·obtain ⟨z,its,n,r,e⟩:=h.ok I.hok
  exact ⟨its,r,⟨_,n,e,rfl,rfl,rfl⟩,z⟩
 ·refine ⟨its.toList,r,⟨o,n,I.kIn a o hk,hc,hd,by simpa using hs⟩,?_⟩
  have e:=r.length
  simp only[length_toList]at e
  omega
theorem Inv.tuple(I:Inv X pins σ H s)(h:SqT X.K H a xs):∃its:List Value,Vals xs its/\IsTup s.heap a its.toArray/\xs.length<=sizeLine:=by
 rcases h with h|⟨o,its,n,hk,hc,hs,hz,r⟩
 ·obtain ⟨z,its,r,p⟩:=h.ok I.hok
  exact ⟨its,r,p,z⟩
 ·refine ⟨its.toList,r,⟨o,I.kIn a o hk,hc,n,by simpa using hs⟩,?_⟩
  have e:=r.length
  simp only[length_toList]at e
  omega
theorem Inv.list_inj(I:Inv X pins σ H s)(h:SqL X.K H a xs)(h':SqL X.K H a ys):xs=ys:=by
 obtain ⟨its,r,⟨o,n,e,_,_,d⟩,_⟩:=I.list h
 obtain ⟨its',r',⟨o',n',e',_,_,d'⟩,_⟩:=I.list h'
 rw[e]at e';cases e'
 rw[d]at d'
 injection d' with d1 _
 have:its=its':=by simpa using congrArg Array.toList d1
 subst this
 exact r.inj r'
theorem Inv.tuple_inj(I:Inv X pins σ H s)(h:SqT X.K H a xs)(h':SqT X.K H a ys):xs=ys:=by
 obtain ⟨its,r,⟨o,e,_,n,d⟩,_⟩:=I.tuple h
 obtain ⟨its',r',⟨o',e',_,n',d'⟩,_⟩:=I.tuple h'
 rw[e]at e';cases e'
 rw[d]at d'
 injection d' with d1 _
 have:its=its':=by simpa using congrArg Array.toList d1
 subst this
 exact r.inj r'
end
abbrev Cx.wish(X:Cx)(E:Value->Shared->Prop):Cx:={ X with xe:=E }
abbrev Cx.nox(X:Cx):Cx:=X.wish λ_ _=>False
theorem Cx.Ok.wish{X:Cx}(ok:X.Ok)(E:Value->Shared->Prop):(X.wish E).Ok:=
 ⟨ok.mod,ok.kind,ok.glob,ok.blt,ok.above,ok.inj,ok.has,ok.cab,ok.hd,ok.frames,ok.stk,ok.exf,ok.bs,ok.bsz,ok.noex,ok.exfs,ok.funs,ok.frf⟩
theorem Cx.Ok.unwish{X:Cx}{E:Value->Shared->Prop}(ok:(X.wish E).Ok):X.Ok:=
 ⟨ok.mod,ok.kind,ok.glob,ok.blt,ok.above,ok.inj,ok.has,ok.cab,ok.hd,ok.frames,ok.stk,ok.exf,ok.bs,ok.bsz,ok.noex,ok.exfs,ok.funs,ok.frf⟩
section
variable {X:Cx}{pins:List (Addr×Obj)}{σ:St}{H:Hp}{s:Shared}{E:Value->Shared->Prop}
theorem Inv.wish(I:Inv X pins σ H s)(E:Value->Shared->Prop):Inv (X.wish E) pins σ H s:=⟨I.ok.wish E,I.os,I.bare,I.base,I.loc,I.cell,I.free,I.freeC,I.pin,I.hok,I.len⟩
theorem Inv.unwish(I:Inv (X.wish E) pins σ H s):Inv X pins σ H s:=⟨I.ok.unwish,I.os,I.bare,I.base,I.loc,I.cell,I.free,I.freeC,I.pin,I.hok,I.len⟩
theorem SP.unwish{D:Ends}{f:Flow}{s':Shared}(h:SP (X.wish E) pins D f s'):SP X pins D f s':=by
 cases f with
 |next=>obtain ⟨σ',H',I,q⟩:=h;exact ⟨σ',H',I.unwish,q⟩
 |brk=>obtain ⟨σ',H',I,q⟩:=h;exact ⟨σ',H',I.unwish,q⟩
 |cont=>obtain ⟨σ',H',I,q⟩:=h;exact ⟨σ',H',I.unwish,q⟩
 |ret u=>obtain ⟨v,σ',H',I,r,q⟩:=h;exact ⟨v,σ',H',I.unwish,r,q⟩
theorem PSs.nox{st:List Stmt}{t:TS}(h:PSs X.nox st t):PSs X st t:=λpins s σ H D I hw=>
 wpAny_mono (h pins s σ H D (I.wish _) hw) (λ_ _ q=>q.unwish) λ_ _ z=>False.elim z
end
section
variable {X:Cx}{st:Stmt}{rest:List Stmt}{t u:TS}{e:Expr}{te:TE}{pos:Pos}
def tNext:TS:=λD σ H=>D.nx σ H
def tSeq(t u:TS):TS:=λD σ H=>t { D with nx:=u D } σ H
theorem yar:PSs X [] tNext:=λ_ _ σ H _ I h=>wpAny_execs_nil ⟨σ,H,I,h⟩
theorem qaj(h1:PS X st t)(h2:PSs X rest u):PSs X (st::rest) (tSeq t u):=by
 intro pins s σ H D I h
 refine wpAny_execs_cons (thn (h1 pins s σ H { D with nx:=u D } I h) λf s1 q=>?_)
 cases f with
 |next=>
  obtain ⟨σ',H',I',q⟩:=q
  exact h2 pins s1 σ' H' D I' q
 |ret v=>exact q
 |brk=>exact q
 |cont=>exact q
theorem qaf(h1:PS X st t):PSs X [st] t:=by
 intro pins s σ H D I h
 refine wpAny_execs_cons (thn (h1 pins s σ H D I h) λf s1 q=>?_)
 cases f with
 |next=>exact wpAny_execs_nil q
 |ret v=>exact q
 |brk=>exact q
 |cont=>exact q
theorem Inv.quiet{pins:List (Addr×Obj)}{σ:St}{H:Hp}{s:Shared}(I:Inv X pins σ H s):interactive X.env=false:=by simp[interactive,I.ok.kind]
def tDrop(te:TE):TS:=λD σ H=>te σ H λ_ H1=>D.nx σ H1
theorem qbi(he:PE X e te)(hs:swapsWith e none pos.line X.env=pure false:=by rfl):PS X (.Expr e pos) (tDrop te):=by
 intro pins s σ H D I h
 exact wpAny_Expr_any (thn (he pins s σ H _ I h) λv s1 ⟨x,H1,I1,r1,q1⟩=>⟨σ,H1,I1,q1⟩) I.quiet hs
def tRet(te:TE):TS:=λD σ H=>te σ H D.rt
theorem qaq(he:PE X e te):PS X (.Return (some e) pos) (tRet te):=by
 intro pins s σ H D I h
 exact wpAny_Return_some (thn (he pins s σ H _ I h) λv s1 ⟨x,H1,I1,r1,q1⟩=>⟨x,σ,H1,I1,r1,q1⟩)
def tRetN:TS:=λD _ H=>D.rt .non H
theorem ps_retN:PS X (.Return none pos) tRetN:=λ_ _ σ H _ I h=>wpAny_Return_none ⟨.non,σ,H,I,rfl,h⟩
def tIfS(c:TT)(t u:TS):TS:=λD σ H=>c σ H λb H1=>if b=true then t D σ H1 else u D σ H1
theorem ybj{c:Expr}{a b:List Stmt}{tc:TT}(hc:PT X c tc)(ha:PSs X a t)(hb:PSs X b u):PS X (.If c a b pos) (tIfS tc t u):=by
 intro pins s σ H D I h
 refine wpAny_If (thn (hc pins s σ H _ I h) λd s1 ⟨H1,I1,q1⟩=>?_)
 cases d with
 |true=>exact ha pins s1 σ H1 D I1 q1
 |false=>exact hb pins s1 σ H1 D I1 q1
def tNever:TS:=λ_ _ _=>False
theorem qbh:PS X st tNever:=λ_ _ _ _ _ _ h=>h.elim
end
abbrev TG:=V->St->Hp->(St->Hp->Prop)->Prop
abbrev TGs:=List V->St->Hp->(St->Hp->Prop)->Prop
def PG(X:Cx)(target:Expr)(t:TG):Prop:=
 ∀(pins:List (Addr×Obj)) (s:Shared) (σ:St) (H:Hp) (v:V) (u:Value) (Q:St->Hp->Prop),Inv X pins σ H s->RelV v u->t v σ H Q->
  wpAny (model X.prog X.w) X.A (assign target X.env u) (λ_ s'=>∃σ' H',Inv X pins σ' H' s'/\Q σ' H') X.xe s
def PGs(X:Cx)(ts:List Expr)(t:TGs):Prop:=
 ∀(pins:List (Addr×Obj)) (s:Shared) (σ:St) (H:Hp) (vs:List V) (us:List Value) (Q:St->Hp->Prop),Inv X pins σ H s->Vals vs us->t vs σ H Q->
  wpAny (model X.prog X.w) X.A (assignInOrder ((assignEach ts X.env).map (·.2)) us) (λ_ s'=>∃σ' H',Inv X pins σ' H' s'/\Q σ' H') X.xe s
abbrev TSet:=V->V->V->Hp->(Hp->Prop)->Prop
def PSet(X:Cx)(t:TSet):Prop:=
 ∀(pins:List (Addr×Obj)) (s:Shared) (σ:St) (H:Hp) (o i v:V) (ov iv u:Value) (Q:Hp->Prop),Inv X pins σ H s->RelV o ov->RelV i iv->RelV v u->t o i v H Q->
  wpAny (model X.prog X.w) X.A (setItem ov iv u) (λ_ s'=>∃H',Inv X pins σ H' s'/\Q H') X.xe s
section
variable {X:Cx}{pos:Pos}
def qf0(i:Nat):TG:=λv σ H Q=>Q (σ.set i (some v)) H
theorem yav{i:Nat}{x:Str}(hN:X.N.Nodup)(hi:X.N[i]?=some x)(hx:Loc X.env.scope x)(hf:X.fn x=true\/X.env.scope.names.lookup x=some .local:=by first|exact .inl rfl|exact .inr rfl|assumption):PG X (.Name x pos) (qf0 i):=by
 intro pins s σ H v u Q I r h
 exact wpAny_assign_Name (qjt I hN hi hx r (λs' I'=>⟨_,H,I',h⟩) hf)
theorem pgn(i:Nat){x:Str}(hN:X.N.Nodup)(hi:X.N[i]?=some x:=by rfl)(hx:Loc X.env.scope x:=by exact Or.inl rfl)(hf:X.fn x=true\/X.env.scope.names.lookup x=some .local:=by first|exact .inl rfl|exact .inr rfl|assumption):PG X (.Name x pos) (qf0 i):=yav hN hi hx hf
def gNil:TGs:=λvs σ H Q=>vs=[]/\Q σ H
def gCons(t:TG)(u:TGs):TGs:=λvs σ H Q=>∃v r,vs=v::r/\t v σ H λσ' H'=>u r σ' H' Q
theorem ybi:PGs X [] gNil:=by
 intro pins s σ H vs us Q I r h
 obtain ⟨e,h⟩:=h
 subst e
 cases r
 exact assignInOrder_nil ⟨σ,H,I,h⟩
theorem qan{e:Expr}{es:List Expr}{t:TG}{u:TGs}(h1:PG X e t)(h2:PGs X es u)
  (hs:(assignEach (e::es) X.env).map (·.2)=assign e X.env::(assignEach es X.env).map (·.2):=by rfl):PGs X (e::es) (gCons t u):=by
 intro pins s σ H vs us Q I r h
 obtain ⟨v,vr,e1,h⟩:=h
 subst e1
 cases r with
 |cons r rr=>
  rw[hs]
  refine assignInOrder_cons (thn (h1 pins s σ H _ _ _ I r h) λ_ s1 ⟨σ1,H1,I1,q1⟩=>?_)
  exact h2 pins s1 σ1 H1 _ _ Q I1 rr q1
def gTup(K:W.Frag)(n:Nat)(t:TGs):TG:=λv σ H Q=>∃a xs,v=.ref a/\SqT K H a xs/\xs.length=n/\t xs σ H Q
theorem qck{es:List Expr}{k:Nat}{t:TGs}{n:Nat}(hc:X.calm=true)(h:PGs X es t)
  (hn:(assignEach es X.env).length=n:=by rfl) (hst:(assignEach es X.env).findIdx? (·.1)=none:=by rfl):PG X (.Tuple es k pos) (gTup X.K n t):=by
 intro pins s σ H v u Q I r hw
 obtain ⟨a,xs,e1,hq,hl,hw⟩:=hw
 subst e1
 cases r
 obtain ⟨its,rv,ht,hz⟩:=I.tuple hq
 refine assign_Tuple_tuple (I.ok.hd hc) ht (by simp[hn,<-hl,rv.length]) hst λh' hx=>?_
 have I1:Inv X pins σ H { s with heap:=h' }:=I.kept (t':=s.toks) λb o e=>hx b o (ne_of_lt (lt_size e)) e
 exact h pins _ σ H xs _ Q I1 (by simpa using rv) hw
def gSub(to ti:TE)(t:TSet):TG:=λv σ H Q=>to σ H λo H1=>ti σ H1 λi H2=>t o i v H2 λH3=>Q σ H3
theorem ql5{o i:Expr}{to ti:TE}{t:TSet}(ho:PE X o to)(hi:PE X i ti)(hs:PSet X t)
  (ha:∀v,assign (.Subscript o i pos) X.env v=(do
   let ov <-holding [v] (eval o X.env)
   let iv <-holding [v,ov] (eval i X.env)
   standAt pos
   holding [v,ov,iv] (setItem ov iv v)
   release [v,ov,iv] []):=by intro _;rfl):PG X (.Subscript o i pos) (gSub to ti t):=by
 intro pins s σ H v u Q I r h
 rw[ha]
 refine wpAny_bind (wpAny_holding (thn (ho pins s σ H _ I h) λov s1 ⟨x,H1,I1,r1,q1⟩=>?_))
 refine wpAny_bind (wpAny_holding (thn (hi pins s1 σ H1 _ I1 q1) λiv s2 ⟨y,H2,I2,r2,q2⟩=>?_))
 refine wpAny_bind (wpAny_standAt (wpAny_bind (wpAny_holding (thn (hs pins s2 σ H2 x y v ov iv u _ I2 r1 r2 r q2) λ_ s3 ⟨H3,I3,q3⟩=>?_))))
 exact wpAny_release ⟨σ,H3,I3,q3⟩
def tAsg(te:TE)(g:TG):TS:=λD σ H=>te σ H λx H1=>g x σ H1 D.nx
theorem qk9{tg e:Expr}{te:TE}{g:TG}(he:PE X e te)(hg:PG X tg g)(hs:swapsWithSole [tg] e pos.line X.env=pure false:=by rfl)(hw:swappedStores [tg] e X.env=pure none:=by rfl)
  (h1:(assignEach [tg] X.env).map (·.2)=[assign tg X.env]:=by rfl):PS X (.Assign [tg] e pos) (tAsg te g):=by
 intro pins s σ H D I h
 refine wpAny_Assign_stores (thn (he pins s σ H _ I h) λv s1 ⟨x,H1,I1,r1,q1⟩=>?_) hs hw
 rw[h1]
 exact thn (hg pins s1 σ H1 x v _ I1 r1 q1) λ_ s2 q=>q
theorem ps_set{i:Nat}{x:Str}{e:Expr}{te:TE}{pos':Pos}(hN:X.N.Nodup)(hi:X.N[i]?=some x)(hx:Loc X.env.scope x)(he:PE X e te)(hs:swapsWith e (some (.Name x pos')) pos.line X.env=pure false:=by rfl)(hf:X.fn x=true\/X.env.scope.names.lookup x=some .local:=by first|exact .inl rfl|exact .inr rfl|assumption) :
  PS X (.Assign [.Name x pos'] e pos) (tAsg te (qf0 i)):=by
 intro pins s σ H D I h
 refine wpAny_Assign_Name (thn (he pins s σ H _ I h) λv s1 ⟨y,H1,I1,r1,q1⟩=>?_) hs
 exact qjt I1 hN hi hx r1 (λs2 I2=>⟨_,H1,I2,q1⟩) hf
theorem pst(i:Nat){x:Str}{e:Expr}{te:TE}{pos':Pos}(hN:X.N.Nodup)(he:PE X e te)(hi:X.N[i]?=some x:=by rfl)(hx:Loc X.env.scope x:=by exact Or.inl rfl)(hs:swapsWith e (some (.Name x pos')) pos.line X.env=pure false:=by rfl)(hf:X.fn x=true\/X.env.scope.names.lookup x=some .local:=by first|exact .inl rfl|exact .inr rfl|assumption):PS X (.Assign [.Name x pos'] e pos) (tAsg te (qf0 i)):=ps_set hN hi hx he hs hf
end
structure It where
 go:Nat->Hp->Prop
 yld:Nat->Hp->V->Hp->Prop
 stop:Nat->Hp->Prop
def FpOk(X:Cx)(pins:List (Addr×Obj))(H:Hp)(b:Addr):Prop:=
 H b=none/\b≠X.env.locals/\b∉X.fs/\(b∈X.ex\/X.s₀.heap.objs.size<=b)/\(∀x c,X.env.cells.lookup x=some c->c≠b)/\∀p∈X.pn++pins,p.1≠b
theorem Inv.fpOk{X:Cx}{pins:List (Addr×Obj)}{σ:St}{H H':Hp}{s:Shared}{b:Addr}(I:Inv X pins σ H s)(hb:s.heap.objs.size<=b)(hn:H' b=none):FpOk X pins H' b:=by
 refine ⟨hn,ne_of_gt (lt_of_lt_of_le I.lt hb),I.nofs hb,.inr (le_trans I.sz hb),λx c e z=>?_,λp hp z=>?_⟩
 ·obtain ⟨v,q⟩:=I.cell x c e
  exact absurd (lt_of_lt_of_le q.lt (by rw[z];exact hb)) (lt_irrefl _)
 ·exact absurd (lt_of_lt_of_le (lt_size (I.pin p hp).1) (by rw[z];exact hb)) (lt_irrefl _)
structure Turn(P:Program)(w:World)(K:W.Frag)(tg:Expr)(J:It)(fp:List Addr)(it:Addr)(tn:Nat->Heap->Prop):Prop where
 mem:it∈fp
 obj:∀i h,tn i h->∀b∈fp,∃o,h.get? b=some o/\∀v,o.data≠.cell v
 keep:∀i h h',tn i h->(∀b∈fp,∀o,h.get? b=some o->h'.get? b=some o)->tn i h'
 item:∀(X:Cx),X.prog=P->X.w=w->X.K=K->X.calm=true->∀(i:Nat) (pins:List (Addr×Obj)) (s:Shared) (σ:St) (H:Hp) (E:Value->Shared->Prop),Inv X pins σ H s->(∀b∈fp,FpOk X pins H b)->tn i s.heap->J.go i H->
  wpAny (model P w) X.A (pyNext (.ref it)) (λr s1=>∃u,r=some u/\
   wpAny (model P w) X.A (letOwnedTupleGo tg (.ref it) u) (λ_ s2=>∃x H',Inv X pins σ H' s2/\RelV x u/\J.yld i H x H'/\tn (i+1) s2.heap/\∀b∈fp,H' b=none) E s1) E s
 done:∀(X:Cx),X.prog=P->X.w=w->X.K=K->X.calm=true->∀(i:Nat) (pins:List (Addr×Obj)) (s:Shared) (σ:St) (H:Hp) (E:Value->Shared->Prop),Inv X pins σ H s->(∀b∈fp,FpOk X pins H b)->tn i s.heap->J.stop i H->
  wpAny (model P w) X.A (pyNext (.ref it)) (λr s1=>r=none/\Inv X pins σ H s1) E s
 self:∀(A:Around) (i:Nat) (s:Shared) (Q:Value->Shared->Prop) (E:Value->Shared->Prop),tn i s.heap->Q (.ref it) s->wpAny (model P w) A (pyIter (.ref it)) Q E s
abbrev TI:=St->Hp->(It->Hp->Prop)->Prop
def PIE(X:Cx)(pins:List (Addr×Obj))(σ:St)(tg:Expr)(R:It->Hp->Prop)(itv:Value)(s2:Shared):Prop:=
 ∃(it:Addr) (fp:List Addr) (tn:Nat->Heap->Prop) (J:It) (H':Hp),itv=.ref it/\Inv X pins σ H' s2/\Turn X.prog X.w X.K tg J fp it tn/\tn 0 s2.heap/\(∀b∈fp,FpOk X pins H' b)/\R J H'
def PI(X:Cx)(tg iter:Expr)(wi:TI):Prop:=
 ∀(pins:List (Addr×Obj)) (s:Shared) (σ:St) (H:Hp) (R:It->Hp->Prop),Inv X pins σ H s->wi σ H R->
  wpAny (model X.prog X.w) X.A (eval iter X.env) (λv s1=>wpAny (model X.prog X.w) X.A (pyIter v) (PIE X pins σ tg R) X.xe s1) X.xe s
theorem go_of{M:Model}{A:Around}{E:Value->Shared->Prop}{s:Shared}{tg:Expr}{it:Addr}{u:Value}{o:Obj}{n:String}{vs:Array Value}{Q:Unit->Shared->Prop}(ho:s.heap.get? it=some o)(hc:o.cls=.type n)(hd:o.data=.fields vs)
    (hn:["enumerate","zip","dict_itemiterator","dict_reverseitemiterator","odict_iterator","itertools.zip_longest","itertools.pairwise"].contains n=false) (hQ:Q () s):wpAny M A (letOwnedTupleGo tg (.ref it) u) Q E s:=by
  unfold letOwnedTupleGo
  cases tg<;>first
    |exact wpAny_pure hQ
    | (cases u<;>first
        |exact wpAny_pure hQ
        | (refine wpAny_bind (wpAny_load ho ?_)
           rw[hc,hd]
           show wpAny M A (if (["enumerate","zip","dict_itemiterator","dict_reverseitemiterator","odict_iterator","itertools.zip_longest","itertools.pairwise"].contains n&&vs[0]? == some (rawInt _))=true then _ else _) Q E s
           rw[if_neg (by intro h;rw[hn,Bool.false_and]at h;cases h)]
           exact wpAny_pure hQ))
def Itl(K:W.Frag)(a:Addr):It:=
 ⟨λi H=>∃xs x,SqL K H a xs/\xs[i]?=some x,λi H x H'=>H'=H/\∀xs,SqL K H a xs->xs[i]?=some x,λi H=>∃xs,SqL K H a xs/\xs.length<=i⟩
def Itr(lo:Int)(n:Nat):It:=⟨λi _=>i<n,λi H x H'=>H'=H/\x=.int (lo+i),λi _=>n<=i⟩
theorem qk2{P:Program}{w:World}{K:W.Frag}{tg:Expr}(a it:Addr):Turn P w K tg (Itl K a) [it] it (λi h=>h.IsListIter it a i) where
 mem:=by simp
 obj:=λi h st b hb=>by
  have e:b=it:=by simpa using hb
  subst e
  obtain ⟨o,e,c,d⟩:=st
  exact ⟨o,e,λv z=>by rw[d]at z;cases z⟩
 keep:=λi h h' st k=>st.at λo e=>k it (by simp) o e
 item:=by
  intro X hP hw hK hc i pins s σ H E I hf st hg
  subst hP hw hK
  obtain ⟨xs,x,hq,hx⟩:=hg
  obtain ⟨its,rv,p,hz⟩:=I.list hq
  obtain ⟨u,hu,ru⟩:=rv.get hx
  obtain ⟨f0,f1,f2,f3,f4,f5⟩:=hf it (by simp)
  refine wpAny_pyNext_list_item st p.isList (x:=u) (by simpa using hu) λh' st' sb=>?_
  have I1:Inv X pins σ H { s with heap:=h' }:=I.turned (t':=s.toks) (λb o hb e=>(sb.2 b hb).trans e) f0 f1 f3 f4 f5
  obtain ⟨o,e,c,d⟩:=id st'
  exact ⟨u,rfl,go_of (s:={ s with heap:=h' }) e c d (by decide) ⟨x,H,I1,ru,⟨rfl,λys hy=>by rw[I.list_inj hy hq];exact hx⟩,st',λb hb=>(hf b hb).1⟩⟩
 done:=by
  intro X hP hw hK hc i pins s σ H E I hf st hg
  subst hP hw hK
  obtain ⟨xs,hq,hx⟩:=hg
  obtain ⟨its,rv,p,hz⟩:=I.list hq
  obtain ⟨f0,f1,f2,f3,f4,f5⟩:=hf it (by simp)
  have hl:=rv.length
  exact wpAny_pyNext_list_end (I.ok.hd hc) st p.isList (by simp;omega) λh' eb=>⟨rfl,I.turned (t':=s.toks) (λb o hb e=>eb b o hb e) f0 f1 f3 f4 f5⟩
 self:=λ_ _ _ _ _ st h=>wpAny_pyIter_listiter st h
theorem qkf{P:Program}{w:World}{K:W.Frag}{tg:Expr}(it:Addr)(lo:Int)(n:Nat):Turn P w K tg (Itr lo n) [it] it (λi h=>IsRangeIter h it (lo+(i:Nat)*1) ((n:Int)-(i:Nat)) 1) where
 mem:=by simp
 obj:=λi h st b hb=>by
  have e:b=it:=by simpa using hb
  subst e
  exact ⟨_,st,λv z=>by
   have z':Data.fields _=Data.cell v:=z
   cases z'⟩
 keep:=λi h h' st k=>k it (by simp) _ st
 item:=by
  intro X hP hw hK hc i pins s σ H E I hf st hg
  subst hP hw hK
  obtain ⟨f0,f1,f2,f3,f4,f5⟩:=hf it (by simp)
  have W:=Walks.range (prog:=X.prog) (w:=X.w) (I.ok.hd hc) it lo 1 n
  refine W.item i s _ _ hg st λv h' tk hv st' kk=>?_
  obtain ⟨t,rfl⟩:=hv
  have I1:Inv X pins σ H { s with heap:=h',toks:=tk }:=I.turned (λb o hb e=>kk b o (by simpa using hb) e) f0 f1 f3 f4 f5
  refine ⟨_,rfl,go_of (s:={ s with heap:=h',toks:=tk }) (n:="range_iterator") st' rfl rfl (by decide) ⟨.int (lo+i),H,I1,⟨t,?_⟩,⟨rfl,rfl⟩,st',λb hb=>(hf b hb).1⟩⟩
  rw[Int.mul_one]
 done:=by
  intro X hP hw hK hc i pins s σ H E I hf st hg
  subst hP hw hK
  obtain ⟨f0,f1,f2,f3,f4,f5⟩:=hf it (by simp)
  exact wpAny_pyNext_range_end (I.ok.hd hc) st (by have:n<=i:=hg;omega) λh' eb=>⟨rfl,I.turned (t':=s.toks) (λb o hb e=>eb b o hb e) f0 f1 f3 f4 f5⟩
 self:=λ_ _ _ _ _ st h=>wpAny_pyIter_rangeiter st h
section
variable {X:Cx}{tg:Expr}
def iList(K:W.Frag)(tl:TE):TI:=λσ H R=>tl σ H λx H1=>∃a,x=.ref a/\(∃xs,SqL K H1 a xs)/\R (Itl K a) H1
theorem qa7{l:Expr}{tl:TE}(hl:PE X l tl):PI X tg l (iList X.K tl):=by
 intro pins s σ H R I h
 refine thn (hl pins s σ H _ I h) λv s1 ⟨x,H1,I1,r1,q1⟩=>?_
 obtain ⟨a,e,⟨xs,hq⟩,q⟩:=q1
 subst e
 cases r1
 obtain ⟨its,rv,p,hz⟩:=I1.list hq
 refine wpAny_pyIter_list p.isList ?_
 refine ⟨s1.heap.objs.size,[s1.heap.objs.size],_,_,H1,rfl,I1.kept (t':=s1.toks) λb o e=>get?_push_of_some _ e,qk2 a _,⟨_,get?_push_size _ rfl,rfl,rfl⟩,λb hb=>?_,q⟩
 have e:b=s1.heap.objs.size:=by simpa using hb
 subst e
 exact I1.fpOk (le_refl _) (I1.hok.fresh (le_refl _))
theorem range_it{pins:List (Addr×Obj)}{σ:St}{H:Hp}{s:Shared}{R:It->Hp->Prop}{E:Value->Shared->Prop}{lo hi:Int}{t u v:Tok}{tk:Nat}(I:Inv X pins σ H s)(h1:-(2 ^ 62)<=lo)(h2:lo<2 ^ 62)(h3:-(2 ^ 62)<=hi)(h4:hi<2 ^ 62)
  (q:R (Itr lo (hi-lo).toNat) H):wpAny (model X.prog X.w) X.A (pyIter (.ref s.heap.objs.size)) (PIE X pins σ tg R) E { s with heap:=s.heap.push { cls:=.type "range",data:=.fields #[.int lo t,.int hi u,.int 1 v] },toks:=tk }:=by
 refine wpAny_pyIter_range (IsRange.new ..) (small_one h1 h2 h3 h4) ?_
 have I1:Inv X pins σ H { s with heap:=s.heap.push { cls:=.type "range",data:=.fields #[.int lo t,.int hi u,.int 1 v] },toks:=tk }:=I.kept λb o e=>get?_push_of_some _ e
 refine ⟨(s.heap.push { cls:=.type "range",data:=.fields #[.int lo t,.int hi u,.int 1 v] }).objs.size,[(s.heap.push { cls:=.type "range",data:=.fields #[.int lo t,.int hi u,.int 1 v] }).objs.size],_,_,H,rfl,
  I1.kept (t':=tk) λb o e=>get?_push_of_some _ e,qkf _ lo (hi-lo).toNat,?_,λb hb=>?_,q⟩
 ·have e1:lo+((0:Nat):Int)*1=lo:=by simp
  have e2:(((hi-lo).toNat:Nat):Int)-((0:Nat):Int)=Builtin.Range.rangeSize lo hi 1:=by rw[rangeSize_one];split<;>omega
  show IsRangeIter _ _ (lo+((0:Nat):Int)*1) ((((hi-lo).toNat:Nat):Int)-((0:Nat):Int)) 1
  rw[e1,e2]
  exact get?_push_size _ rfl
 ·have e:b=(s.heap.push { cls:=.type "range",data:=.fields #[.int lo t,.int hi u,.int 1 v] }).objs.size:=by simpa using hb
  subst e
  exact I1.fpOk (le_refl _) (I1.hok.fresh (le_refl _))
def iRng1(ta:TA):TI:=λσ H R=>ta σ H λvs H1=>∃j:Int,vs=[.int j]/\-(2 ^ 62)<=j/\j<2 ^ 62/\R (Itr 0 j.toNat) H1
theorem qa8{a:Expr}{ta:TA}{p pos:Pos}(hg:Gl X "range")(hm:X.mg "range"=none)(ha:PA X [a] ta)(hs:starEach [a] X.env=[(false,eval a X.env)]:=by rfl):PI X tg (.Call (.Name "range" p) [a] [] pos) (iRng1 ta):=by
 intro pins s σ H R I h
 refine Call_ (qc6 I hg hm boot_range (PyProof.Rows.callWith_type1 (thn (ha pos pins s σ H _ I h) λus s1 ⟨vs,H1,I1,r1,q1⟩=>?_) hs rfl))
 obtain ⟨j,e,q1,q2,q⟩:=q1
 subst e
 cases r1 with
 |cons r rr=>
  cases rr
  obtain ⟨t,rfl⟩:=r
  exact call_range_1 (range_it I1 (by omega) (by omega) q1 q2 (by simpa using q))
def tFor(wi:TI)(g:TG)(tb:TS):TS:=λD σ H=>wi σ H λJ H1=>∃W:Nat->Nat->St->Hp->Prop,(∃m,W 0 m σ H1)/\∀i m σ H,W i m σ H->
 (J.stop i H/\D.nx σ H)\/(J.go i H/\∃N:St->Hp->Prop,(∀σ' H',N σ' H'->∃m',m' < m/\W (i+1) m' σ' H')/\∀x H',J.yld i H x H'->g x σ H' λσ2 H2=>tb { D with nx:=N,ct:=N,bk:=D.nx } σ2 H2)
def qgi(fp:List Addr)(h:Heap):List (Addr×Obj):=fp.filterMap λb=>(h.get? b).map λo=>(b,o)
theorem yb1{fp:List Addr}{h:Heap}{b:Addr}{o:Obj}(hb:b∈fp)(e:h.get? b=some o):(b,o)∈qgi fp h:=List.mem_filterMap.mpr ⟨b,hb,by rw[e];rfl⟩
theorem qlk{fp:List Addr}{h:Heap}{p:Addr×Obj}(hp:p∈qgi fp h):p.1∈fp/\h.get? p.1=some p.2:=by
 obtain ⟨b,hb,e⟩:=List.mem_filterMap.mp hp
 cases q:h.get? b with
 |none=>rw[q]at e;cases e
 |some o=>
  rw[q]at e
  have e':(b,o)=p:=Option.some.inj e
  subst e'
  exact ⟨hb,q⟩
theorem Inv.pinned{pins:List (Addr×Obj)}{σ:St}{H:Hp}{s:Shared}{fp:List Addr}(I:Inv X pins σ H s)(hf:∀b∈fp,FpOk X pins H b)(ho:∀b∈fp,∃o,s.heap.get? b=some o/\∀v,o.data≠.cell v):Inv X (pins++qgi fp s.heap) σ H s:=
 I.pins_of λp hp=>(mem_append.mp hp).elim (λz=>I.pin p (mem_append_right _ z)) λz=>by
  obtain ⟨hb,e⟩:=qlk z
  obtain ⟨f0,f1,f2,_⟩:=hf p.1 hb
  obtain ⟨o,e',d⟩:=ho p.1 hb
  rw[e]at e';cases e'
  exact ⟨e,f0,f1,f2,d⟩
theorem Inv.unpinned{pins pl:List (Addr×Obj)}{σ:St}{H:Hp}{s:Shared}(I:Inv X (pins++pl) σ H s):Inv X pins σ H s:=I.pins_of λp hp=>I.pin p (mem_append_right _ (List.mem_append_left _ hp))
theorem yby{iter:Expr}{body:List Stmt}{wi:TI}{g:TG}{tb:TS}{pos:Pos}(hp:PassesOwn (model X.prog X.w) X.A X.env X.xe)(hc:X.calm=true)(hi:PI X tg iter wi)(hg:PG X tg g)(hb:PSs X body tb)
  (hs:∀x,foldedSetIterable iter X.env x=pure x:=by intro _;rfl):PS X (.For tg iter body [] pos) (tFor wi g tb):=by
 intro pins s σ H D I h
 refine wpAny_For (thn (hi pins s σ H _ I h) λv s1 h1=>thn h1 λitv s2 h2=>?_) hs
 obtain ⟨it,fp,tn,J,H2,e,I2,T,st2,f2,W,⟨m0,w0⟩,turn⟩:=h2
 subst e
 -- what stays true of the iterator's objects through the loop
 have stat:∀{H':Hp},(∀b∈fp,H' b=none)->∀b∈fp,FpOk X pins H' b:=λhn b hb=>⟨hn b hb,(f2 b hb).2⟩
 refine codeAny_forLoop_any (λn s'=>∃i σ' H',Inv X pins σ' H' s'/\tn i s'.heap/\(∀b∈fp,H' b=none)/\W i n σ' H') ?_ m0 ⟨0,σ,H2,I2,st2,λb hb=>(f2 b hb).1,w0⟩
 rintro n s3 ⟨i,σ3,H3,I3,st3,fr3,w3⟩
 rcases turn i n σ3 H3 w3 with ⟨stop,qn⟩|⟨go,N,hN,step⟩
 ·refine wpAny_passesOwn hp (thn (T.done X rfl rfl rfl hc i pins s3 σ3 H3 X.xe I3 (stat fr3) st3 stop) λr s4 ⟨hr,I4⟩=>?_)
  subst hr
  exact wpAny_execs_nil ⟨σ3,H3,I4,qn⟩
 ·refine wpAny_passesOwn hp (thn (T.item X rfl rfl rfl hc i pins s3 σ3 H3 X.xe I3 (stat fr3) st3 go) λr s4 ⟨u,hr,h4⟩=>?_)
  subst hr
  refine wpAny_passesOwn hp (thn h4 λ_ s5 ⟨x,H5,I5,r5,y5,st5,fr5⟩=>?_)
  have I5':=I5.pinned (stat fr5) (T.obj _ _ st5)
  refine wpAny_passesOwn hp (thn (hg _ s5 σ3 H5 x u _ I5' r5 (step x H5 y5)) λ_ s6 ⟨σ6,H6,I6,q6⟩=>?_)
  refine wpAny_passesOwn hp (thn (hb _ s6 σ6 H6 _ I6 q6) λf s7 q7=>?_)
  have again:∀{σ7:St}{H7:Hp},Inv X (pins++qgi fp s5.heap) σ7 H7 s7->N σ7 H7->∃m,m<n/\∃i σ' H',Inv X pins σ' H' s7/\tn i s7.heap/\(∀b∈fp,H' b=none)/\W i m σ' H':=λ{σ7 H7} I7 n7=>by
   obtain ⟨m',hm,w7⟩:=hN σ7 H7 n7
   refine ⟨m',hm,i+1,σ7,H7,I7.unpinned,T.keep _ _ _ st5 λb hb o e=>(I7.pin (b,o) (mem_append_right _ (mem_append_right _ (yb1 hb e)))).1,λb hb=>?_,w7⟩
   obtain ⟨o,e,d⟩:=T.obj _ _ st5 b hb
   exact (I7.pin (b,o) (mem_append_right _ (mem_append_right _ (yb1 hb e)))).2.1
  cases f with
  |next=>obtain ⟨σ7,H7,I7,n7⟩:=q7;exact again I7 n7
  |cont=>obtain ⟨σ7,H7,I7,n7⟩:=q7;exact again I7 n7
  |brk=>obtain ⟨σ7,H7,I7,q7⟩:=q7;exact ⟨σ7,H7,I7.unpinned,q7⟩
  |ret v=>obtain ⟨x7,σ7,H7,I7,r7,q7⟩:=q7;exact ⟨x7,σ7,H7,I7.unpinned,r7,q7⟩
end
theorem yaq{K:W.Frag}{a:Addr}{xs:List V}{g:TG}{tb:TS}{D:Ends}{σ:St}{H:Hp}(Pv:Nat->St->Hp->Prop)(h0:Pv 0 σ H)(hl:∀i σ H,i<=xs.length->Pv i σ H->SqL K H a xs)
  (hs:∀i x σ H,xs[i]?=some x->Pv i σ H->g x σ H λσ2 H2=>tb { D with nx:=Pv (i+1),ct:=Pv (i+1),bk:=D.nx } σ2 H2) (hd:∀σ H,Pv xs.length σ H->D.nx σ H) :
  ∃W:Nat->Nat->St->Hp->Prop,(∃m,W 0 m σ H)/\∀i m σ H,W i m σ H->
   ((Itl K a).stop i H/\D.nx σ H)\/((Itl K a).go i H/\∃N:St->Hp->Prop,(∀σ' H',N σ' H'->∃m',m' < m/\W (i+1) m' σ' H')/\∀x H',(Itl K a).yld i H x H'->g x σ H' λσ2 H2=>tb { D with nx:=N,ct:=N,bk:=D.nx } σ2 H2):=by
 refine ⟨λi m σ H=>m=xs.length-i/\i<=xs.length/\Pv i σ H,⟨xs.length,by simp,zero_le _,h0⟩,?_⟩
 rintro i m σ H ⟨rfl,hi,p⟩
 have q:=hl i σ H hi p
 by_cases hlt:i<xs.length
 ·refine .inr ⟨⟨xs,xs[i],q,by simp[hlt]⟩,Pv (i+1),λσ' H' p'=>⟨xs.length-(i+1),by omega,rfl,hlt,p'⟩,λx H' y=>?_⟩
  obtain ⟨e,y⟩:=y
  subst e
  exact hs i x σ _ (y xs q) p
 ·have e:i=xs.length:=by omega
  subst e
  exact .inl ⟨⟨xs,q,le_refl _⟩,hd σ H p⟩
theorem qbl{lo:Int}{n:Nat}{g:TG}{tb:TS}{D:Ends}{σ:St}{H:Hp}(Pv:Nat->St->Hp->Prop)(h0:Pv 0 σ H)
  (hs:∀i σ H,i<n->Pv i σ H->g (.int (lo+i)) σ H λσ2 H2=>tb { D with nx:=Pv (i+1),ct:=Pv (i+1),bk:=D.nx } σ2 H2) (hd:∀σ H,Pv n σ H->D.nx σ H) :
  ∃W:Nat->Nat->St->Hp->Prop,(∃m,W 0 m σ H)/\∀i m σ H,W i m σ H->
   ((Itr lo n).stop i H/\D.nx σ H)\/((Itr lo n).go i H/\∃N:St->Hp->Prop,(∀σ' H',N σ' H'->∃m',m' < m/\W (i+1) m' σ' H')/\∀x H',(Itr lo n).yld i H x H'->g x σ H' λσ2 H2=>tb { D with nx:=N,ct:=N,bk:=D.nx } σ2 H2):=by
 refine ⟨λi m σ H=>m=n-i/\i<=n/\Pv i σ H,⟨n,by simp,zero_le _,h0⟩,?_⟩
 rintro i m σ H ⟨rfl,hi,p⟩
 by_cases hlt:i<n
 ·refine .inr ⟨hlt,Pv (i+1),λσ' H' p'=>⟨n-(i+1),by omega,rfl,hlt,p'⟩,λx H' y=>?_⟩
  obtain ⟨e,y⟩:=y
  subst e y
  exact hs i σ _ hlt p
 ·have e:i=n:=by omega
  subst e
  exact .inl ⟨le_refl _,hd σ H p⟩
abbrev R2:=V->V->Hp->VK->Prop
def OpR(X:Cx)(f:Value->Value->Sem Value)(r:R2):Prop:=
 ∀(pins:List (Addr×Obj)) (s:Shared) (σ:St) (H:Hp) (x y:V) (v u:Value) (Q:VK),Inv X pins σ H s->RelV x v->RelV y u->r x y H Q->
  wpAny (model X.prog X.w) X.A (f v u) (EP X pins σ Q) X.xe s
def UnR(X:Cx)(f:Value->Sem Value)(r:V->Hp->VK->Prop):Prop:=
 ∀(pins:List (Addr×Obj)) (s:Shared) (σ:St) (H:Hp) (x:V) (v:Value) (Q:VK),Inv X pins σ H s->RelV x v->r x H Q->
  wpAny (model X.prog X.w) X.A (f v) (EP X pins σ Q) X.xe s
def yb7(X:Cx)(f:Value)(r:List V->Hp->VK->Prop):Prop:=
 ∀(pins:List (Addr×Obj)) (s:Shared) (σ:St) (H:Hp) (xs:List V) (us:List Value) (Q:VK),Inv X pins σ H s->Vals xs us->r xs H Q->
  wpAny (model X.prog X.w) X.A (call f us) (EP X pins σ Q) X.xe s
def tOp(r:R2)(ta tb:TE):TE:=λσ H Q=>ta σ H λx H1=>tb σ H1 λy H2=>r x y H2 Q
def tUn(r:V->Hp->VK->Prop)(ta:TE):TE:=λσ H Q=>ta σ H λx H1=>r x H1 Q
def rI(C:Int->Int->Prop)(g:Int->Int->V):R2:=λx y H Q=>∃i j,x=.int i/\y=.int j/\C i j/\Q (g i j) H
def rI0(g:Int->Int->V):R2:=λx y H Q=>∃i j,x=.int i/\y=.int j/\Q (g i j) H
def rU(g:Int->V):V->Hp->VK->Prop:=λx H Q=>∃i,x=.int i/\Q (g i) H
section
variable {X:Cx}{a b c:Expr}{ta tb tc:TE}{pos:Pos}
theorem binT(ha:PE X a ta)(hb:PE X b tb){pins:List (Addr×Obj)}{s:Shared}{σ:St}{H:Hp}{R:V->V->Hp->Prop}(I:Inv X pins σ H s)
  (h:ta σ H λx H1=>tb σ H1 λy H2=>R x y H2) {Q:Value->Shared->Prop}{f:Value->Value->Sem Value}
  (hf:∀v u s2 x y H2,Inv X pins σ H2 s2->RelV x v->RelV y u->R x y H2->wpAny (model X.prog X.w) X.A (f v u) Q X.xe s2) :
  wpAny (model X.prog X.w) X.A (eval a X.env) (λv s₁=>wpAny (model X.prog X.w) X.A (eval b X.env) (λu s₂=>wpAny (model X.prog X.w) X.A (f v u) Q X.xe s₂) X.xe s₁) X.xe s:=by
 refine thn (ha pins s σ H _ I h) λv s1 ⟨x,H1,I1,r1,q1⟩=>?_
 refine thn (hb pins s1 σ H1 _ I1 q1) λu s2 ⟨y,H2,I2,r2,q2⟩=>?_
 exact hf v u s2 x y H2 I2 r1 r2 q2
theorem yau{op:Operator}{r:R2}(ho:OpR X (binaryOp op) r)(ha:PE X a ta)(hb:PE X b tb):PE X (.BinOp a op b pos) (tOp r ta tb):=by
 intro pins s σ H Q I h
 exact wpAny_BinOp (binT ha hb I h λv u s2 x y H2 I2 rx ry q=>ho pins s2 σ H2 x y v u Q I2 rx ry q)
theorem pe_un{op:UnaryOp}{r:V->Hp->VK->Prop}(ho:UnR X (unaryOp op) r)(ha:PE X a ta):PE X (.UnaryOp op a pos) (tUn r ta):=by
 intro pins s σ H Q I h
 exact UnaryOp_ (thn (ha pins s σ H _ I h) λv s1 ⟨x,H1,I1,r1,q1⟩=>ho pins s1 σ H1 x v Q I1 r1 q1)
theorem opI{f:Value->Value->Sem Value}{C:Int->Int->Prop}{g:Int->Int->Int}
  (rule:∀(i j:Int) (t u:Tok) (s:Shared) (Q:Value->Shared->Prop) (E:Value->Shared->Prop),C i j->Q (.int (g i j) s.toks) { s with toks:=s.toks+1 }->wpAny (model X.prog X.w) X.A (f (.int i t) (.int j u)) Q E s) :
  OpR X f (rI C λi j=>.int (g i j)):=by
 intro pins s σ H x y v u Q I rx ry h
 obtain ⟨i,j,rfl,rfl,hc,q⟩:=h
 obtain ⟨t,rfl⟩:=rx
 obtain ⟨t',rfl⟩:=ry
 exact rule i j t t' s _ _ hc ⟨.int (g i j),H,I.tok _,⟨_,rfl⟩,q⟩
theorem opI0{f:Value->Value->Sem Value}{g:Int->Int->Int}
  (rule:∀(i j:Int) (t u:Tok) (s:Shared) (Q:Value->Shared->Prop) (E:Value->Shared->Prop),Q (.int (g i j) s.toks) { s with toks:=s.toks+1 }->wpAny (model X.prog X.w) X.A (f (.int i t) (.int j u)) Q E s) :
  OpR X f (rI0 λi j=>.int (g i j)):=by
 intro pins s σ H x y v u Q I rx ry h
 obtain ⟨i,j,rfl,rfl,q⟩:=h
 obtain ⟨t,rfl⟩:=rx
 obtain ⟨t',rfl⟩:=ry
 exact rule i j t t' s _ _ ⟨.int (g i j),H,I.tok _,⟨_,rfl⟩,q⟩
theorem opB0{f:Value->Value->Sem Value}{g:Int->Int->Bool}
  (rule:∀(i j:Int) (t u:Tok) (s:Shared) (Q:Value->Shared->Prop) (E:Value->Shared->Prop),Q (.bool (g i j)) s->wpAny (model X.prog X.w) X.A (f (.int i t) (.int j u)) Q E s) :
  OpR X f (rI0 λi j=>.bl (g i j)):=by
 intro pins s σ H x y v u Q I rx ry h
 obtain ⟨i,j,rfl,rfl,q⟩:=h
 obtain ⟨t,rfl⟩:=rx
 obtain ⟨t',rfl⟩:=ry
 exact rule i j t t' s _ _ ⟨.bl (g i j),H,I,rfl,q⟩
def CDiv(i j:Int):Prop:=0<j/\j<1073741824
def CPow(i j:Int):Prop:=0<=j/\j<=1000000/\i.natAbs<2 ^ 64
def CMul(i j:Int):Prop:=(-(2 ^ 64)<i/\i<2 ^ 64)\/(-(2 ^ 64)<j/\j<2 ^ 64)
theorem CMul.ok{i j:Int}(h:CMul i j):IntMulOk i j:=by
 rcases h with ⟨h1,h2⟩|⟨h1,h2⟩
 ·exact .of_left (intBits_le_64 h1 h2)
 ·exact .of_right (intBits_le_64 h1 h2)
theorem ya7:OpR X (binaryOp .Add) (rI0 λi j=>.int (i+j)):=opI0 λ_ _ _ _ _ _ _ q=>add_int q
theorem ygu:OpR X (binaryOp .Sub) (rI0 λi j=>.int (i-j)):=opI0 λ_ _ _ _ _ _ _ q=>sub_int q
theorem qch:OpR X (binaryOp .Mult) (rI CMul λi j=>.int (i*j)):=opI λ_ _ _ _ _ _ _ hc q=>mul_int q hc.ok
theorem qfk:OpR X (binaryOp .FloorDiv) (rI CDiv λi j=>.int (i / j)):=opI λi j _ _ _ _ _ hc q=>by
 have h1:(0:Int)<j:=hc.1
 have h2:j<1073741824:=hc.2
 exact floordiv_int (by omega) (by rw[Int.fdiv_eq_ediv_of_nonneg i (by omega)];exact q) (.inl (PyProof.noPylong_small (by omega)))
theorem qbz:OpR X (binaryOp .Mod) (rI (λ_ j=>0<j) λi j=>.int (i % j)):=opI λi j _ _ _ _ _ hc q=>by
 have h1:(0:Int)<j:=hc
 exact mod_int' (by omega) (by rw[Int.fmod_eq_emod_of_nonneg i (by omega)];exact q)
theorem op_pow:OpR X (binaryOp .Pow) (rI CPow λi j=>.int (i ^ j.toNat)):=opI λ_ _ _ _ _ _ _ hc q=>pow_int_small hc.1 hc.2.1 hc.2.2 q
theorem unI{f:Value->Sem Value}{g:Int->Int}
  (rule:∀(i:Int) (t:Tok) (s:Shared) (Q:Value->Shared->Prop) (E:Value->Shared->Prop),Q (.int (g i) s.toks) { s with toks:=s.toks+1 }->wpAny (model X.prog X.w) X.A (f (.int i t)) Q E s) :
  UnR X f (rU λi=>.int (g i)):=by
 intro pins s σ H x v Q I rx h
 obtain ⟨i,rfl,q⟩:=h
 obtain ⟨t,rfl⟩:=rx
 exact rule i t s _ _ ⟨.int (g i),H,I.tok _,⟨_,rfl⟩,q⟩
theorem qjn:UnR X (unaryOp .USub) (rU λi=>.int (-i)):=unI λ_ _ _ _ _ q=>neg_int q
def scal:V->V->Bool
 |.non,.non=>true|.non,.int _=>true|.int _,.non=>true|.non,.bl _=>true|.bl _,.non=>true|.non,.str _=>true|.str _,.non=>true
 |.int _,.int _=>true|.bl _,.bl _=>true|.str _,.str _=>true|.byt _,.byt _=>true
 |.int _,.str _=>true|.str _,.int _=>true|.bl _,.str _=>true|.str _,.bl _=>true
 |_,_=>false
def rEq:R2:=λx y H Q=>scal x y=true/\Q (.bl (decide (x=y))) H
def rNe:R2:=λx y H Q=>scal x y=true/\Q (.bl (!decide (x=y))) H
theorem ykx{i j:Int}:decide (V.int i=V.int j)=(i == j):=by
 rw[Bool.eq_iff_iff]
 simp
theorem dec_bl{i j:Bool}:decide (V.bl i=V.bl j)=(i == j):=by
 rw[Bool.eq_iff_iff]
 simp
theorem yl7{i j:Str}:decide (V.str i=V.str j)=(i == j):=by
 rw[Bool.eq_iff_iff]
 simp
theorem qlf{i j:Array UInt8}:decide (V.byt i=V.byt j)=(i.toList == j.toList):=by
 rw[Bool.eq_iff_iff]
 cases i
 cases j
 simp
theorem qay{pins:List (Addr×Obj)}{σ:St}{H:Hp}{s:Shared}{Q:VK}{k k':Bool}(I:Inv X pins σ H s)(q:Q (.bl k) H)(e:k=k'):EP X pins σ Q (.bool k') s:=by
 subst e
 exact ⟨.bl k,H,I,rfl,q⟩
theorem ya1:OpR X (compareOp .Eq) rEq:=by
 intro pins s σ H x y v u Q I rx ry h
 obtain ⟨hs,q⟩:=h
 cases x with
 |non=>
  cases rx
  cases y with
  |non=>cases ry;exact PySem.EqNone.eq_none_none (qay I q (by simp))
  |bl j=>cases ry;exact PySem.EqNone.eq_none_bool (qay I q (by simp))
  |int j=>obtain ⟨t',rfl⟩:=ry;exact PySem.EqNone.eq_none_int (qay I q (by simp))
  |str j=>obtain ⟨t',rfl⟩:=ry;exact PySem.EqNone.eq_none_str (qay I q (by simp))
  |_=>exact absurd (show false=true from hs) Bool.false_ne_true
 |bl i=>
  cases rx
  cases y with
  |non=>cases ry;exact PySem.EqNone.eq_bool_none (qay I q (by simp))
  |bl j=>cases ry;exact eq_bool (qay I q dec_bl)
  |str j=>obtain ⟨t',rfl⟩:=ry;exact PySem.EqMixed.eq_bool_str (qay I q (by simp))
  |_=>exact absurd (show false=true from hs) Bool.false_ne_true
 |int i=>
  obtain ⟨t,rfl⟩:=rx
  cases y with
  |non=>cases ry;exact PySem.EqNone.eq_int_none (qay I q (by simp))
  |int j=>obtain ⟨t',rfl⟩:=ry;exact eq_int (qay I q ykx)
  |str j=>obtain ⟨t',rfl⟩:=ry;exact PySem.EqMixed.eq_int_str (qay I q (by simp))
  |_=>exact absurd (show false=true from hs) Bool.false_ne_true
 |str i=>
  obtain ⟨t,rfl⟩:=rx
  cases y with
  |non=>cases ry;exact PySem.EqNone.eq_str_none (qay I q (by simp))
  |bl j=>cases ry;exact PySem.EqMixed.eq_str_bool (qay I q (by simp))
  |int j=>obtain ⟨t',rfl⟩:=ry;exact PySem.EqMixed.eq_str_int (qay I q (by simp))
  |str j=>obtain ⟨t',rfl⟩:=ry;exact eq_str (qay I q yl7)
  |_=>exact absurd (show false=true from hs) Bool.false_ne_true
 |byt i=>
  obtain ⟨t,rfl⟩:=rx
  cases y with
  |byt j=>obtain ⟨t',rfl⟩:=ry;exact W.eq_bytes (qay I q qlf)
  |_=>exact absurd (show false=true from hs) Bool.false_ne_true
 |_=>cases y<;>exact absurd (show false=true from hs) Bool.false_ne_true
theorem yiq:OpR X (compareOp .NotEq) rNe:=by
 intro pins s σ H x y v u Q I rx ry h
 obtain ⟨hs,q⟩:=h
 cases x with
 |non=>
  cases rx
  cases y with
  |non=>cases ry;exact PySem.EqNone.ne_none_none (qay I q (by simp))
  |bl j=>cases ry;exact PySem.EqNone.ne_none_bool (qay I q (by simp))
  |int j=>obtain ⟨t',rfl⟩:=ry;exact PySem.EqNone.ne_none_int (qay I q (by simp))
  |str j=>obtain ⟨t',rfl⟩:=ry;exact PySem.EqNone.ne_none_str (qay I q (by simp))
  |_=>exact absurd (show false=true from hs) Bool.false_ne_true
 |bl i=>
  cases rx
  cases y with
  |non=>cases ry;exact PySem.EqNone.ne_bool_none (qay I q (by simp))
  |bl j=>cases ry;exact ne_bool (qay I q (congrArg not dec_bl))
  |str j=>obtain ⟨t',rfl⟩:=ry;exact PySem.EqMixed.ne_bool_str (qay I q (by simp))
  |_=>exact absurd (show false=true from hs) Bool.false_ne_true
 |int i=>
  obtain ⟨t,rfl⟩:=rx
  cases y with
  |non=>cases ry;exact PySem.EqNone.ne_int_none (qay I q (by simp))
  |int j=>obtain ⟨t',rfl⟩:=ry;exact ne_int (qay I q (congrArg not ykx))
  |str j=>obtain ⟨t',rfl⟩:=ry;exact PySem.EqMixed.ne_int_str (qay I q (by simp))
  |_=>exact absurd (show false=true from hs) Bool.false_ne_true
 |str i=>
  obtain ⟨t,rfl⟩:=rx
  cases y with
  |non=>cases ry;exact PySem.EqNone.ne_str_none (qay I q (by simp))
  |bl j=>cases ry;exact PySem.EqMixed.ne_str_bool (qay I q (by simp))
  |int j=>obtain ⟨t',rfl⟩:=ry;exact PySem.EqMixed.ne_str_int (qay I q (by simp))
  |str j=>obtain ⟨t',rfl⟩:=ry;exact ne_str (qay I q (congrArg not yl7))
  |_=>exact absurd (show false=true from hs) Bool.false_ne_true
 |byt i=>
  obtain ⟨t,rfl⟩:=rx
  cases y with
  |byt j=>obtain ⟨t',rfl⟩:=ry;exact W.ne_bytes (qay I q (congrArg not qlf))
  |_=>exact absurd (show false=true from hs) Bool.false_ne_true
 |_=>cases y<;>exact absurd (show false=true from hs) Bool.false_ne_true
theorem op_lt:OpR X (compareOp .Lt) (rI0 λi j=>.bl (decide (i<j))):=opB0 λ_ _ _ _ _ _ _ q=>lt_int q
theorem op_le:OpR X (compareOp .LtE) (rI0 λi j=>.bl (decide (i<=j))):=opB0 λ_ _ _ _ _ _ _ q=>le_int q
theorem yi8:OpR X (compareOp .Gt) (rI0 λi j=>.bl (decide (j<i))):=opB0 λ_ _ _ _ _ _ _ q=>gt_int q
theorem yly:OpR X (compareOp .GtE) (rI0 λi j=>.bl (decide (j<=i))):=opB0 λ_ _ _ _ _ _ _ q=>ge_int q
theorem yaj(b:Expr){op:CmpOp}(h:op≠.In:=by decide)(h2:op≠.NotIn:=by decide):behindInMarks op b=false:=by
 have e1:(op == CmpOp.In)=false:=by cases op<;>first|rfl|exact absurd rfl h
 have e2:(op == CmpOp.NotIn)=false:=by cases op<;>first|rfl|exact absurd rfl h2
 cases b<;>simp[behindInMarks,e1,e2]
theorem qa4{op:CmpOp}{r:R2}(ho:OpR X (compareOp op) r)(ha:PE X a ta)(hb:PE X b tb)(hm:behindInMarks op b=false):PE X (.Compare a [op] [b] pos) (tOp r ta tb):=by
 intro pins s σ H Q I h
 exact wpAny_Compare1 (binT ha hb I h λv u s2 x y H2 I2 rx ry q=>ho pins s2 σ H2 x y v u Q I2 rx ry q) hm
def tTest(t:TE):TT:=λσ H Q=>t σ H λx H'=>∃k,x=.bl k/\Q k H'
theorem yam{op:CmpOp}{r:R2}(ho:OpR X (compareOp op) r)(ha:PE X a ta)(hb:PE X b tb)(hm:behindInMarks op b=false):PT X (.Compare a [op] [b] pos) (tTest (tOp r ta tb)):=by
 intro pins s σ H Q I h
 refine wpAny_isTrue_Compare1 (thn (ha pins s σ H _ I h) λv s1 ⟨x,H1,I1,r1,q1⟩=>thn (hb pins s1 σ H1 _ I1 q1) λu s2 ⟨y,H2,I2,r2,q2⟩=>
  thn (ho pins s2 σ H2 x y v u _ I2 r1 r2 q2) λc s3 ⟨z,H3,I3,r3,k,e,q3⟩=>?_) hm
 subst e
 cases r3
 exact wpAny_truthy_bool ⟨H3,I3,q3⟩
theorem qh0:(sizeLine:Nat)<2 ^ 63:=by rw[sizeLine_eq];decide
theorem yhb{x:V}{us:List Value}(r:Vals [x] us):∃u,us=[u]/\RelV x u:=by
 cases r with
 |cons r1 r2=>cases r2;exact ⟨_,rfl,r1⟩
theorem vals2{x y:V}{us:List Value}(r:Vals [x,y] us):∃u w',us=[u,w']/\RelV x u/\RelV y w':=by
 cases r with
 |cons r1 r2=>
  cases r2 with
  |cons r3 r4=>cases r4;exact ⟨_,_,rfl,r1,r3⟩
theorem call_abs:yb7 X (.builtin "abs") (λxs H Q=>∃i,xs=[.int i]/\Q (.int (if i<0 then -i else i)) H):=by
 intro pins s σ H xs us Q I r h
 obtain ⟨i,rfl,q⟩:=h
 obtain ⟨u,rfl,t,rfl⟩:=yhb r
 exact call_abs_int λu tk=>⟨.int (if i<0 then -i else i),H,I.tok _,⟨_,rfl⟩,q⟩
theorem yih(hc:X.calm=true):yb7 X (.builtin "max") (λxs H Q=>∃i j,xs=[.int i,.int j]/\Q (.int (if j>i then j else i)) H):=by
 intro pins s σ H xs us Q I r h
 obtain ⟨i,j,rfl,q⟩:=h
 obtain ⟨u,w',rfl,⟨t,rfl⟩,⟨t',rfl⟩⟩:=vals2 r
 refine max_two_ints (I.ok.hd hc) λh' tk k=>⟨_,H,I.kept k,?_,q⟩
 by_cases hj:j>i
 ·rw[if_pos hj,if_pos hj];exact ⟨_,rfl⟩
 ·rw[if_neg hj,if_neg hj];exact ⟨_,rfl⟩
theorem yk0(hc:X.calm=true):yb7 X (.builtin "min") (λxs H Q=>∃i j,xs=[.int i,.int j]/\Q (.int (if j<i then j else i)) H):=by
 intro pins s σ H xs us Q I r h
 obtain ⟨i,j,rfl,q⟩:=h
 obtain ⟨u,w',rfl,⟨t,rfl⟩,⟨t',rfl⟩⟩:=vals2 r
 refine min_two_ints (I.ok.hd hc) λh' tk k=>⟨_,H,I.kept k,?_,q⟩
 by_cases hj:j<i
 ·rw[if_pos hj,if_pos hj];exact ⟨_,rfl⟩
 ·rw[if_neg hj,if_neg hj];exact ⟨_,rfl⟩
theorem qig:yb7 X (.type "int") (λxs H Q=>(∃i,xs=[.int i]/\Q (.int i) H)\/∃k,xs=[.bl k]/\Q (.int (if k then 1 else 0)) H):=by
 intro pins s σ H xs us Q I r h
 rcases h with ⟨i,rfl,q⟩|⟨k,rfl,q⟩
 ·obtain ⟨u,rfl,t,rfl⟩:=yhb r
  exact call_int_int ⟨.int i,H,I,⟨_,rfl⟩,q⟩
 ·obtain ⟨u,rfl,r1⟩:=yhb r
  cases r1
  exact call_int_bool ⟨.int (if k then 1 else 0),H,I.tok _,⟨_,rfl⟩,q⟩
theorem yii:yb7 X (.type "str") (λxs H Q=>∃i,xs=[.int i]/\i.natAbs.log2<1920/\Q (.str (toString i)) H):=by
 intro pins s σ H xs us Q I r h
 obtain ⟨i,rfl,hz,q⟩:=h
 obtain ⟨u,rfl,t,rfl⟩:=yhb r
 exact PySem.P.str_of_int hz ⟨.str _,H,I.tok _,⟨_,rfl⟩,q⟩
end
structure ObjM(h:Heap)(x dx C:Addr)(mA:Str->Option Value):Prop where
 obj:h.get? x=some (W.instObj C dx)
 ns:h.Ns1 dx mA
 ne:dx≠x
theorem qkr{h:Heap}{dx:Addr}{mA:Str->Option Value}(n:h.Ns1 dx mA):∃od,h.get? dx=some od/\∀name,W.lookIn name od=some (mA name):=by
 obtain ⟨o,es,ep,ho,hd,hk,_,hm⟩:=n
 refine ⟨o,ho,λname=>?_⟩
 have e:=hm name
 unfold nsFind findBy at e
 rw[<-Array.find?_toList]at e
 unfold W.lookIn
 rw[hd]
 dsimp only
 split
 ·rename_i y q
  rw[q]at e
  exact congrArg some e
 ·rename_i q
  rw[q]at e
  have a:es.toList.any (·.refKey)=false:=by
   rw[List.any_eq_false]
   intro y hy
   obtain ⟨z,t,hkey⟩:=hk y (Array.mem_toList_iff.mp hy)
   simp[DictEntry.refKey,hkey]
  have a':¬ es.toList.any (·.refKey)=true:=by rw[a];exact Bool.false_ne_true
  rw[if_neg a']
  exact congrArg some e
theorem ObjM.look{h:Heap}{x dx C:Addr}{mA:Str->Option Value}(I:ObjM h x dx C mA):∃od,W.InstAt h x (W.instObj C dx) C (some od)/\∀name,W.lookIn name od=some (mA name):=
 let ⟨od,ho,hl⟩:=qkr I.ns
 ⟨od,⟨I.obj,rfl,rfl,ho⟩,hl⟩
section
variable {prog:Program}{w:World}{A:Around}{E:Value->Shared->Prop}{s:Shared}{K:W.Frag}{x dx C f:Addr}{mA:Str->Option Value}{name:Str}{v:Value}
theorem get_map{expr:Bool}{Q:Value->Shared->Prop}(X:K.In s.heap)(I:ObjM s.heap x dx C mA)(hg:W.plainGet K C name=true)(hh:W.hasDictIn K C=true)
  (ha:W.findIn K (.ref C) name=some none) (hv:mA name=some v) (hv':W.handedIn v=true) (h:Q v { s with toks:=s.toks+1 }) :
  wpAny (model prog w) A (getAttr (.ref x) name expr) Q E s:=by
 obtain ⟨od,J,hl⟩:=I.look
 exact W.get_value X J (W.plainGet_of hg).1 (W.findObj_own hh ha rfl (by rw[hl,hv])) hv' h
theorem get_meth{pl:Sem Bool}{Q:Value×List Value->Shared->Prop}(X:K.In s.heap)(I:ObjM s.heap x dx C mA)(hg:W.plainGet K C name=true)
  (hf:W.findIn K (.ref C) name=some (some (.ref f))) (ht:W.isFn K (.ref f)=true) (hv:mA name=none) (h:Q (.ref f,[.ref x]) s) :
  wpAny (model prog w) A (getMethod (.ref x) name pl) Q E s:=by
 obtain ⟨od,J,hl⟩:=I.look
 exact W.method_fn X J (W.plainGet_of hg).1 (W.plainGet_of hg).2 hf (beq_iff_eq.mp ht) (by show (W.lookIn name od).map (·.isSome)=some false;rw[hl,hv];rfl) h
theorem set_map{ns:List Str}{Q:Unit->Shared->Prop}(X:K.In s.heap)(I:ObjM s.heap x dx C mA)
  (hs:W.findIn K (.ref C) "__setattr__"=some (some (.builtin "object.__setattr__"))) (hp:W.plainOver K C=true) (ht:W.takerIn K C name=some none) (hh:W.hasDictIn K C=true)
  (hw:PySem.Within mA ns) (hsz:ns.length<=sizeLine)
  (h:∀h',ObjM h' x dx C (λy=>if y=name then some v else mA y)->Heap.SameBut dx s.heap h'->Q () { s with heap:=h',toks:=s.toks+2 }) :
  wpAny (model prog w) A (setAttr (.ref x) name v) Q E s:=by
 obtain ⟨od,J,hl⟩:=I.look
 refine W.set_plain X J hs (W.osa_open (s:={ s with toks:=s.toks+1 }) (r:=none) X J hp ht λb=>?_)
 obtain ⟨cd,hc,hd'⟩:=W.any_some hh
 have hx:s.heap.get? x=some ⟨.ref C,some dx,.plain,#[]⟩:=I.obj
 refine wpAny_bind (wpAny_pure (wpAny_bind (wpAny_bind (wpAny_loadPart hx (wpAny_bind (W.Looks.here (s:={ s with toks:=s.toks+1 }) (W.looks_clsIn X hc) ?_))))))
 rw[hd']
 refine wpAny_pure (a:=some dx) (wpAny_bind (wpAny_pure (wpAny_bind ?_)))
 refine wpAny_nsSet1 (s:={ s with toks:=s.toks+1 }) I.ns λh' hn2 hs2=>?_
 obtain ⟨oD,esD,epD,hoD,hdD,hcD⟩:=hn2.count (PySem.Within.cons name v hw)
 refine wpAny_bind (wpAny_lookBehind hoD (by rw[hdD];exact pastItsLine_dict (le_trans hcD (by rw[length_cons];omega))) ?_)
 exact wpAny_pure (h _ ⟨(hs2.2 _ (Ne.symm I.ne)).trans I.obj,hn2,I.ne⟩ hs2)
theorem make_map{R:Result->Shared->Prop}{vs:List Value}{kw:List (Str×Value)}(X:K.In s.heap)(hm:W.makesIn K C=true)
  (hi:W.findIn K (.ref C) "__init__"=some (some (.ref f))) (hf:W.typeIn K (.ref f)=some (.type "function"))
  (h:codeAny (model prog w) (A.under (.builtin "type.__call__" ⟨.ref C::vs,kw⟩)) (.call (.ref f) ⟨.ref (s.heap.objs.size+1)::vs,kw⟩) (W.InitBack (s.heap.objs.size+1) R)
   {s with heap:=(s.heap.push W.emptyDict).push (W.instObj C s.heap.objs.size) }) :
  codeAny (model prog w) A (.call (.ref C) ⟨vs,kw⟩) R s:=by
 obtain ⟨hh,g,d,t,os⟩:=s
 exact W.make_core (W.makes_of X hm) (W.looks_findIn X hi) (λself=>W.bind_fn X self hf) (.inl rfl) h
end
def putF(f:Str)(v:V):List (Str×V)->List (Str×V)
 |[]=>[(f,v)]
 | (g,x)::r=>if g=f then (g,v)::r else (g,x)::putF f v r
theorem yfz(f g:Str)(v:V):∀fs:List (Str×V),(putF f v fs).lookup g=if g=f then some v else fs.lookup g
 |[]=>by
  show List.lookup g [(f,v)]=_
  by_cases h:g=f
  ·have hb:(g == f)=true:=beq_iff_eq.mpr h
   simp only[List.lookup,hb,if_pos h]
  ·have hb:(g == f)=false:=beq_eq_false_iff_ne.mpr h
   simp only[List.lookup,hb,if_neg h]
 | (k,x)::r=>by
  have ih:=yfz f g v r
  rw[show putF f v ((k,x)::r)=(if k=f then (k,v)::r else (k,x)::putF f v r) from rfl]
  by_cases hk:k=f
  ·rw[if_pos hk]
   by_cases h:g=k
   ·have hb:(g == k)=true:=beq_iff_eq.mpr h
    simp only[List.lookup,hb,if_pos (h.trans hk)]
   ·have hb:(g == k)=false:=beq_eq_false_iff_ne.mpr h
    simp only[List.lookup,hb,if_neg (λe:g=f=>h (e.trans hk.symm))]
  ·rw[if_neg hk]
   by_cases h:g=k
   ·have hb:(g == k)=true:=beq_iff_eq.mpr h
    simp only[List.lookup,hb,if_neg (λe:g=f=>hk (h.symm.trans e))]
   ·have hb:(g == k)=false:=beq_eq_false_iff_ne.mpr h
    simp only[List.lookup,hb]
    exact ih
theorem qfx(f:Str)(v:V):∀fs:List (Str×V),f∈(putF f v fs).map (·.1)/\∀g,g∈fs.map (·.1)->g∈(putF f v fs).map (·.1)
 |[]=>⟨by simp[putF],λg h=>by simp at h⟩
 | (k,x)::r=>by
  obtain ⟨i1,i2⟩:=qfx f v r
  rw[show putF f v ((k,x)::r)=(if k=f then (k,v)::r else (k,x)::putF f v r) from rfl]
  by_cases hk:k=f
  ·rw[if_pos hk]
   subst hk
   exact ⟨by simp,λg h=>by simpa using h⟩
  ·rw[if_neg hk]
   refine ⟨?_,λg h=>?_⟩
   ·rw[map_cons]
    exact mem_cons_of_mem _ i1
   ·rw[map_cons]at h ⊢
    rcases mem_cons.mp h with e|e
    ·exact mem_cons.mpr (.inl e)
    ·exact mem_cons_of_mem _ (i2 g e)
theorem yf1(f:Str)(v:V):∀fs:List (Str×V),(putF f v fs).length<=fs.length+1
 |[]=>by simp[putF]
 | (k,x)::r=>by
  have ih:=yf1 f v r
  rw[show putF f v ((k,x)::r)=(if k=f then (k,v)::r else (k,x)::putF f v r) from rfl]
  by_cases hk:k=f
  ·rw[if_pos hk,length_cons,length_cons];omega
  ·rw[if_neg hk,length_cons,length_cons];omega
theorem RelO.some_of{v:V}{o:Option Value}(r:RelO (some v) o):∃u,o=some u/\RelV v u:=by
 cases o with
 |none=>exact (show False from r).elim
 |some u=>exact ⟨u,rfl,r⟩
theorem RelO.none_of{o:Option Value}(r:RelO none o):o=none:=by
 cases o with
 |none=>rfl
 |some u=>exact (show False from r).elim
theorem ylf{v:V}{u:Value}(r:RelV v u):W.handedIn u=true:=by
 cases v with
 |non=>cases (show u=Value.none from r);rfl
 |bl b=>cases (show u=Value.bool b from r);rfl
 |int i=>obtain ⟨t,e⟩:=(show ∃t,u=Value.int i t from r);cases e;rfl
 |str x=>obtain ⟨t,e⟩:=(show ∃t,u=Value.str x t from r);cases e;rfl
 |byt b=>obtain ⟨t,e⟩:=(show ∃t,u=Value.bytes b t from r);cases e;rfl
 |flt b=>obtain ⟨t,e⟩:=(show ∃t,u=Value.float b t from r);cases e;rfl
 |ref a=>cases (show u=Value.ref a from r);rfl
 |ty n=>cases (show u=Value.type n from r);rfl
section
variable {P:Program}{w:World}{H H':Hp}{h h':Heap}{a C dx:Addr}{fs fs':List (Str×V)}
theorem yg0(hok:HOk P w H h)(e:H a=some (.ins C dx fs)):∃mA,ObjM h a dx C mA/\(∀f,RelO (fs.lookup f) (mA f))/\PySem.Within mA (fs.map (·.1))/\fs.length<=1000/\H dx=some (.own a):=by
 obtain ⟨d,z,ne,ob,mA,n,r,q⟩:=(show qbf P w H h a (.ins C dx fs) from hok a _ e)
 exact ⟨mA,⟨ob,n,ne⟩,r,q,z,d⟩
end
structure Cls(K:W.Frag)(C:Addr):Prop where
 pg:W.plainGet K C Str.empty=true
 hd:W.hasDictIn K C=true
 po:W.plainOver K C=true
 sa:W.findIn K (.ref C) "__setattr__"=some (some (.builtin "object.__setattr__"))
theorem Cls.get{K:W.Frag}{C:Addr}(c:Cls K C)(f:Str):W.plainGet K C f=true:=c.pg
def qey(K:W.Frag)(C:Addr)(f:Str):Prop:=W.findIn K (.ref C) f=some none
theorem qey.taker{K:W.Frag}{C:Addr}{f:Str}(n:qey K C f):W.takerIn K C f=some none:=by
 unfold W.takerIn
 rw[show W.findIn K (.ref C) f=some none from n]
 rfl
structure Meth(K:W.Frag)(C:Addr)(m:Str)(f:Addr):Prop where
 at_:W.findIn K (.ref C) m=some (some (.ref f))
 fn:W.isFn K (.ref f)=true
 kp:W.keepIn K (.ref f)=true
section
variable {X:Cx}{pins:List (Addr×Obj)}{σ:St}{H:Hp}{s:Shared}{a C dx:Addr}{fs:List (Str×V)}{f:Str}{v:V}{A:Around}{E:Value->Shared->Prop}
theorem qjy{b:Bool}{Q:Value->Shared->Prop}(I:Inv X pins σ H s)(e:H a=some (.ins C dx fs))(c:Cls X.K C)(n:qey X.K C f)(l:fs.lookup f=some v)
  (h:∀u s',Inv X pins σ H s'->RelV v u->Q u s'):wpAny (model X.prog X.w) A (getAttr (.ref a) f b) Q E s:=by
 obtain ⟨mA,O,r,_,_,_⟩:=yg0 I.hok e
 obtain ⟨u,hu,ru⟩:=RelO.some_of (v:=v) (o:=mA f) (by rw[<-l];exact r f)
 exact get_map I.kIn O (c.get f) c.hd n hu (ylf ru) (h u _ (I.tok _) ru)
theorem ygh{m:Str}{g:Addr}{pl:Sem Bool}{Q:Value×List Value->Shared->Prop}(I:Inv X pins σ H s)(e:H a=some (.ins C dx fs))(c:Cls X.K C)(k:Meth X.K C m g)(l:fs.lookup m=none)
  (h:Q (.ref g,[.ref a]) s):wpAny (model X.prog X.w) A (getMethod (.ref a) m pl) Q E s:=by
 obtain ⟨mA,O,r,_,_,_⟩:=yg0 I.hok e
 have hn:mA m=none:=RelO.none_of (by rw[<-l];exact r m)
 exact get_meth I.kIn O (c.get m) k.at_ k.fn hn h
theorem qkl{y:V}{u:Value}{Q:Unit->Shared->Prop}(I:Inv X pins σ H s)(e:H a=some (.ins C dx fs))(c:Cls X.K C)(n:qey X.K C f)(hl:fs.length<1000)(ry:RelV y u)
  (h:∀s',Inv X pins σ (upd H a (.ins C dx (putF f y fs))) s'->Q () s'):wpAny (model X.prog X.w) A (setAttr (.ref a) f u) Q E s:=by
 obtain ⟨mA,O,r,wi,_,ho⟩:=yg0 I.hok e
 have hz:(fs.map (·.1)).length<=sizeLine:=by rw[length_map,sizeLine_eq];omega
 refine set_map I.kIn O c.sa c.po n.taker c.hd wi hz λh' O' sb=>h _ ?_
 have hd:∃o,h'.get? dx=some o:=let ⟨o,_,_,e',_⟩:=O'.ns;⟨o,e'⟩
 refine I.write (x:=a) (e:=dx) (by rw[e];exact True.intro) (.inr ho) (λb q hb z=>(sb.2 b hb).trans z) hd ?_
 refine ⟨by rw[qah O.ne];exact ho,?_,O.ne,O'.obj,_,O'.ns,λg=>?_,λg hg=>?_⟩
 ·have:=yf1 f y fs;omega
 ·show RelO ((putF f y fs).lookup g) (if g=f then some u else mA g)
  rw[yfz]
  by_cases q:g=f
  ·rw[if_pos q,if_pos q];exact ry
  ·rw[if_neg q,if_neg q];exact r g
 ·by_cases q:g=f
  ·rw[q];exact (qfx f y fs).1
  ·refine (qfx f y fs).2 g (wi g λz=>hg ?_)
   show (if g=f then some u else mA g)=none
   rw[if_neg q];exact z
theorem Inv.made(I:Inv X pins σ H s):Inv X pins σ (upd (upd H s.heap.objs.size (.own (s.heap.objs.size+1))) (s.heap.objs.size+1) (.ins C s.heap.objs.size []))
  {s with heap:=(s.heap.push W.emptyDict).push (W.instObj C s.heap.objs.size) }:=by
 have e1:(s.heap.push W.emptyDict).get? s.heap.objs.size=some W.emptyDict:=get?_push_size s.heap rfl
 have e2:((s.heap.push W.emptyDict).push (W.instObj C s.heap.objs.size)).get? (s.heap.objs.size+1)=some (W.instObj C s.heap.objs.size):=by
  have:=get?_push_size (s.heap.push W.emptyDict) (o:=W.instObj C s.heap.objs.size) rfl
  rwa [size_push]at this
 have e3:(s.heap.push W.emptyDict).Ns s.heap.objs.size (λ_=>none):=⟨W.emptyDict,#[],_,e1,rfl,(λe he=>absurd he (by simp)),λ_=>rfl⟩
 have I1:=I.laid (a:=s.heap.objs.size) (o:=.own (s.heap.objs.size+1)) (h':=s.heap.push W.emptyDict) (t':=s.toks) (λb u q=>get?_push_of_some _ q) (le_refl _) ⟨_,e1⟩
 refine I1.laid (a:=s.heap.objs.size+1) (o:=.ins C s.heap.objs.size []) (t':=s.toks) (λb u q=>get?_push_of_some _ q) (Nat.le_of_eq (size_push _ _)) ?_
 have ne:s.heap.objs.size≠s.heap.objs.size+1:=ne_of_lt (Nat.lt_succ_self _)
 refine ⟨by rw[qah ne,qaa],zero_le _,ne,e2,λ_=>none,(Heap.Ns1.of_empty e3).at λo q=>get?_push_of_some _ q,λ_=>True.intro,λy hy=>absurd rfl hy⟩
theorem attr_of{prog:Program}{w:World}{env:Env}{e:Expr}{f:Str}{pos:Pos}{s:Shared}{Q:Value->Shared->Prop}(hb:attributeBase e f env (eval e env)=eval e env)
  (h:wpAny (model prog w) A (eval e env) (λo s₁=>wpAny (model prog w) A (getAttr o f true) Q E s₁) E s):wpAny (model prog w) A (eval (.Attribute e f pos) env) Q E s:=
 Attribute_any_ h (by rw[arm_eval_Attribute,hb])
end
def tFld(K:W.Frag)(ta:TE)(f:Str):TE:=λσ H Q=>ta σ H λx H1=>∃a C dx fs v,x=.ref a/\H1 a=some (.ins C dx fs)/\Cls K C/\qey K C f/\fs.lookup f=some v/\Q v H1
def sFld(K:W.Frag)(ta tv:TE)(f:Str):TS:=λD σ H=>tv σ H λy H1=>ta σ H1 λx H2=>∃a C dx fs,x=.ref a/\H2 a=some (.ins C dx fs)/\Cls K C/\qey K C f/\fs.length<1000/\
 D.nx σ (upd H2 a (.ins C dx (putF f y fs)))
section
variable {X:Cx}{o e value:Expr}{f:Str}{pos pos' tpos:Pos}{ta tv:TE}
theorem pe_fld(he:PE X e ta)(hb:attributeBase e f X.env (eval e X.env)=eval e X.env):PE X (.Attribute e f pos) (tFld X.K ta f):=by
 intro pins s σ H Q I h
 refine attr_of hb (thn (he pins s σ H _ I h) λu s1 ⟨x,H1,I1,rx,a,C,dx,fs,v,ex,ea,c,n,l,q⟩=>?_)
 subst ex
 obtain rfl:u=Value.ref a:=rx
 exact qjy I1 ea c n l λu' s2 I2 ru=>⟨v,H1,I2,ru,q⟩
theorem ps_fld(ha:PE X o ta)(hv:PE X value tv)(hs:swapsWith value (some (.Attribute o f pos')) pos.line X.env=pure false):PS X (.Assign [.Attribute o f pos'] value pos) (sFld X.K ta tv f):=by
 intro pins s σ H D I h
 refine plainObj_wpAny_Assign_Attribute (thn (hv pins s σ H _ I h) λu s1 ⟨y,H1,I1,ry,q⟩=>thn (ha pins s1 σ H1 _ I1 q) λov s2 ⟨x,H2,I2,rx,a,C,dx,fs,ex,ea,c,n,l,q2⟩=>?_) hs
 subst ex
 obtain rfl:ov=Value.ref a:=rx
 exact qkl I2 ea c n l ry λs3 I3=>⟨σ,_,I3,q2⟩
end
section
variable {X:Cx}{pins:List (Addr×Obj)}{σ:St}{H:Hp}{s:Shared}{A:Around}{E:Value->Shared->Prop}{Q:Value->Shared->Prop}{c:Value}{b:Bool}
inductive TyOf(K:W.Frag)(H:Hp):V->Value->Prop where
 |non:TyOf K H .non (.type "NoneType")
 |bl (x:Bool):TyOf K H (.bl x) (.type "bool")
 |int (i:Int):TyOf K H (.int i) (.type "int")
 |str (x:Str):TyOf K H (.str x) (.type "str")
 |flt (x:UInt64):TyOf K H (.flt x) (.type "float")
 |lst {a:Addr}{xs:List V} (e:H a=some (.lst xs)):TyOf K H (.ref a) (.type "list")
 |frz {a:Addr}{o:Obj}{xs:List V} (e:H a=some (.frz o (.lst xs))):TyOf K H (.ref a) (.type "list")
 |tup {a:Addr}{xs:List V} (e:H a=some (.tup xs)):TyOf K H (.ref a) (.type "tuple")
 |dK {a:Addr}{kvs:List (Key×V)} (e:H a=some (.dK kvs)):TyOf K H (.ref a) (.type "dict")
 |dT {a:Addr}{kvs:List (List Key×V)} (e:H a=some (.dT kvs)):TyOf K H (.ref a) (.type "dict")
 |ins {a C dx:Addr}{fs:List (Str×V)} (e:H a=some (.ins C dx fs)) (cl:Cls K C) (ha:W.findIn K (.ref C) "__class__"=some (some (.builtin "object.__class__")))
   (hn:W.specialIn K (.builtin "object.__class__") "__get__"=some (some (.builtin "getset_descriptor.__get__"))) (htk:W.takesIn K (.builtin "object.__class__")=some true)
   (hm:W.mroIn K C (.type "object")=some true):TyOf K H (.ref a) (.ref C)
theorem yl4{x:V}{u t:Value}(I:Inv X pins σ H s)(rx:RelV x u)(ty:TyOf X.K H x t)(e:W.kitOne X.K t c=some b)(h:∀tk,Q (.bool b) { s with toks:=tk }) :
  wpAny (model X.prog X.w) A (call (.builtin "isinstance") [u,c]) Q E s:=by
 cases ty with
 |non=>cases (show u=Value.none from rx);exact W.kia_one W.kitx_none I.kIn True.intro e (λz=>nomatch z) h
 |bl y=>cases (show u=Value.bool y from rx);exact W.kia_one W.kitx_bool I.kIn True.intro e (λz=>nomatch z) h
 |int i=>obtain ⟨t,q⟩:=(show ∃t,u=Value.int i t from rx);cases q;exact W.kia_one W.kitx_int I.kIn True.intro e (λz=>nomatch z) h
 |str y=>obtain ⟨t,q⟩:=(show ∃t,u=Value.str y t from rx);cases q;exact W.kia_one W.kitx_str I.kIn True.intro e (λz=>nomatch z) h
 |flt y=>obtain ⟨t,q⟩:=(show ∃t,u=Value.float y t from rx);cases q;exact W.kia_one W.kitx_float I.kIn True.intro e (λz=>nomatch z) h
 |@lst a xs ea=>
  cases (show u=Value.ref a from rx)
  obtain ⟨_,_,n,_,h1⟩:=(show qbf X.prog X.w H s.heap a (.lst xs) from I.hok a _ ea)
  exact W.kia_one W.kitx_list I.kIn ⟨_,h1,rfl⟩ e (λz=>nomatch z) h
 |@frz a ob xs ea=>
  cases (show u=Value.ref a from rx)
  obtain ⟨_,_,_,n,_,h1⟩:=(show qbf X.prog X.w H s.heap a (.frz ob (.lst xs)) from I.hok a _ ea)
  exact W.kia_one W.kitx_list I.kIn ⟨_,h1,rfl⟩ e (λz=>nomatch z) h
 |@tup a xs ea=>
  cases (show u=Value.ref a from rx)
  obtain ⟨_,_,_,p⟩:=(show qbf X.prog X.w H s.heap a (.tup xs) from I.hok a _ ea)
  obtain ⟨o,h1,h2,_⟩:=p
  exact W.kia_one W.kitx_tuple I.kIn ⟨o,h1,h2⟩ e (λz=>nomatch z) h
 |@dK a kvs ea=>
  cases (show u=Value.ref a from rx)
  obtain ⟨_,_,vs,_,p⟩:=(show qbf X.prog X.w H s.heap a (.dK kvs) from I.hok a _ ea)
  obtain ⟨o,es,ep,h1,h2,_⟩:=p
  exact W.kia_one W.kitx_dict I.kIn ⟨o,h1,h2.1⟩ e (λz=>nomatch z) h
 |@dT a kvs ea=>
  cases (show u=Value.ref a from rx)
  obtain ⟨_,_,xs,_,o,es,ep,h1,h2,_⟩:=(show qbf X.prog X.w H s.heap a (.dT kvs) from I.hok a _ ea)
  exact W.kia_one W.kitx_dict I.kIn ⟨o,h1,h2.1⟩ e (λz=>nomatch z) h
 |@ins a C dx fs ea cl ha hn htk hm=>
  cases (show u=Value.ref a from rx)
  obtain ⟨mA,O,_⟩:=yg0 I.hok ea
  obtain ⟨od,J,_⟩:=O.look
  exact W.kia_one (W.kitx_own (cl.get _) cl.hd ha hn htk hm) I.kIn J e (λz=>nomatch z) h
end
structure Room(k:Nat)(A:Around):Prop where
 hd:A.handled=none
 dp:A.depth+3*k+5<recursionLimit
 un:A.units+16*k+200<cLine
 gd:A.guards=some []
theorem Room.mono{j k:Nat}{A:Around}(r:Room k A)(h:j<=k):Room j A:=⟨r.hd,by have:=r.dp;omega,by have:=r.un;omega,r.gd⟩
theorem Room.deeper{k:Nat}{A:Around}(r:Room (k+1) A)(env:Env):Room k (A.deeper env):=
 ⟨r.hd,by have:=r.dp;show A.depth+1+3*k+5<_;omega,by have:=r.un;show A.units+3+16*k+200<_;omega,r.gd⟩
theorem qkn{A:Around}{C:Addr}{us:List Value}{kw:List (Str×Value)}:(A.under (.builtin "type.__call__" ⟨.ref C::us,kw⟩)).depth=A.depth+1:=by
 first|rfl|simp[Around.under,Code.weight,Code.isCreation,Code.isGuard,Code.isCaller,Code.frames,Code.isFrame,guardIds]
theorem qkj{A:Around}{C:Addr}{us:List Value}{kw:List (Str×Value)}:(A.under (.builtin "type.__call__" ⟨.ref C::us,kw⟩)).units=A.units+1:=by
 first|rfl|simp[Around.under,Code.cUnits,Code.frames,Code.isFrame]
theorem qje{A:Around}{C:Addr}{us:List Value}{kw:List (Str×Value)}:(A.under (.builtin "type.__call__" ⟨.ref C::us,kw⟩)).guards=A.guards:=by
 first|rfl|(unfold Around.under Code.guards;cases A.guards<;>simp[pushGuards,Code.isGuard,guardIds])
theorem Room.make{k:Nat}{A:Around}(r:Room (k+1) A)(C:Addr)(us:List Value)(kw:List (Str×Value)):Room k (A.under (.builtin "type.__call__" ⟨.ref C::us,kw⟩)):=
 ⟨r.hd,by have:=r.dp;rw[qkn];omega,by have:=r.un;rw[qkj];omega,by rw[qje];exact r.gd⟩
theorem Room.depth{k:Nat}{A:Around}(r:Room k A):A.depth<recursionLimit:=by have:=r.dp;omega
theorem Room.units{k:Nat}{A:Around}(r:Room k A):A.units+64<cLine:=by have:=r.un;omega
def tNil:TA:=λ_ H Q=>Q [] H
def qdg(ta:TE)(tr:TA):TA:=λσ H Q=>ta σ H λx H1=>tr σ H1 λxs H2=>Q (x::xs) H2
section
variable {X:Cx}{e:Expr}{es:List Expr}{te:TE}{t:TA}{pos:Pos}
theorem yac:PA X [] tNil:=λ_ _ _ _ H Q I h=>Calls.spliced_nil ⟨[],H,I,.nil,h⟩
theorem yaa(ha:PE X e te)(hr:PA X es t)(hs:starEach (e::es) X.env=(false,eval e X.env)::starEach es X.env:=by rfl):PA X (e::es) (qdg te t):=by
 intro pos pins s σ H Q I h
 rw[hs]
 show wpAny _ _ (spliced ((false,eval e X.env)::backTo pos (starEach es X.env))) _ _ s
 refine Calls.spliced_cons (thn (ha pins s σ H _ I h) λu s1 ⟨x,H1,I1,r1,q1⟩=>?_)
 exact thn (hr pos pins s1 σ H1 _ I1 q1) λus s2 ⟨xs,H2,I2,r2,q2⟩=>⟨x::xs,H2,I2,.cons r1 r2,q2⟩
def tTup(t:TA):TE:=λσ H Q=>t σ H λxs H1=>xs.length<=sizeLine/\∀p,H1 p=none->Q (.ref p) (upd H1 p (.tup xs))
def tLst(t:TA):TE:=λσ H Q=>t σ H λxs H1=>xs.length<=sizeLine/\∀p,H1 p=none->Q (.ref p) (upd H1 p (.lst xs))
theorem ybn{x1}(h:PA X es t):PE X (.Tuple es x1 pos) (tTup t):=by
 intro pins s σ H Q I hq
 refine wpAny_Tuple_spliced (thn (h pos pins s σ H _ I hq) λus s1 ⟨xs,H1,I1,r,z,q⟩=>⟨by rw[<-r.length];exact z,?_⟩)
 have hf:H1 s1.heap.objs.size=none:=I1.hok.fresh (le_refl _)
 refine ⟨.ref s1.heap.objs.size,upd H1 s1.heap.objs.size (.tup xs),I1.laid (t':=s1.toks) (λb u e=>get?_push_of_some _ e) (le_refl _) ?_,rfl,q _ hf⟩
 exact ⟨z,us,r,⟨_,get?_push_size _ rfl,rfl,_,rfl⟩⟩
theorem ycb(h:PA X es t):PE X (.List es pos) (tLst t):=by
 intro pins s σ H Q I hq
 refine wpAny_List_spliced (thn (h pos pins s σ H _ I hq) λus s1 ⟨xs,H1,I1,r,z,q⟩=>⟨by rw[<-r.length];exact z,?_⟩)
 have hf:H1 s1.heap.objs.size=none:=I1.hok.fresh (le_refl _)
 refine ⟨.ref s1.heap.objs.size,upd H1 s1.heap.objs.size (.lst xs),I1.laid (t':=s1.toks) (λb u e=>get?_push_of_some _ e) (le_refl _) ?_,rfl,q _ hf⟩
 exact ⟨z,us,0,r,get?_push_size _ rfl⟩
end
abbrev Sp:=List V->Hp->VK->XK->Prop
abbrev CXT:=List Env->Hp->Shared->XK->Value->Shared->Prop
structure Env0(P:Program)(w:World)(K:W.Frag)(mg:Str->Option Value)(base:Heap)(A:Around)(outer:List Env)(s:Shared)(H:Hp):Prop where
 frames:A.frames=some outer
 mod:Mod K mg base
 bs:∀b o,base.get? b=some o->s.heap.get? b=some o/\H b=none
 bsz:base.objs.size<=s.heap.objs.size
 funs:s.heap.FunFrames base outer
 frf:∀b∈frs outer,H b=none
 hok:HOk P w H s.heap
 bare:AllBare s.gens
def CE(outer:List Env)(P:Program)(w:World)(H:Hp)(s:Shared)(Q:VK)(u:Value)(s':Shared):Prop:=
 ∃v H',s'.os=s.os/\AllBare s'.gens/\Un (frs outer) [] H H' s.heap s'.heap/\HOk P w H' s'.heap/\RelV v u/\Q v H'
def CR(CX:CXT)(outer:List Env)(P:Program)(w:World)(H:Hp)(s:Shared)(Q:VK)(E:XK)(r:Result)(s':Shared):Prop:=
 match r with
 |.ok (.ret u)=>CE outer P w H s Q u s'
 |.ok _=>False
 |.error e=>CX outer H s E e s'
structure FnOk(P:Program)(w:World)(K:W.Frag)(mg:Str->Option Value)(base:Heap)(CX:CXT)(k:Nat)(f:Addr)(fd:FuncData)(ps:List Str)(sp:Sp):Prop where
 len:∀vs H Q E,sp vs H Q E->vs.length=ps.length
 run:∀(A:Around) (outer:List Env) (s:Shared) (H:Hp) (args:Args) (us:List Value) (vs:List V) (Q:VK) (E:XK),Room k A->Env0 P w K mg base A outer s H->BindsTo s fd args (ps.zip us)->Vals vs us->sp vs H Q E->
  codeAny (model P w) A (.call (.ref f) args) (CR CX outer P w H s Q E) s
theorem Env0.make{P:Program}{w:World}{K:W.Frag}{mg:Str->Option Value}{base:Heap}{A:Around}{outer:List Env}{s:Shared}{H:Hp}(e:Env0 P w K mg base A outer s H)(C:Addr)(us:List Value)(kw:List (Str×Value)) :
  Env0 P w K mg base (A.under (.builtin "type.__call__" ⟨.ref C::us,kw⟩)) outer s H:=⟨by first|exact e.frames|(simpa [Around.under,Code.envs,Code.isFrame,pushEnvs] using e.frames),e.mod,e.bs,e.bsz,e.funs,e.frf,e.hok,e.bare⟩
section
variable {X:Cx}{pins:List (Addr×Obj)}{σ:St}{H:Hp}{s s':Shared}
theorem Inv.env0(I:Inv X pins σ H s):Env0 X.prog X.w X.K X.mg X.base X.A X.stack s H:=
 ⟨I.ok.frames,I.ok.mod,I.bs,le_trans I.ok.bsz I.sz,I.stack,I.stkFree,I.hok,I.bare⟩
theorem Inv.after{Q:VK}{u:Value}(I:Inv X pins σ H s)(h:CE X.stack X.prog X.w H s Q u s'):EP X pins σ Q u s':=by
 obtain ⟨v,H',os,bare,un,hok,r,q⟩:=h
 obtain ⟨hh,g,d,t,os'⟩:=s'
 obtain rfl:os'=s.os:=os
 exact ⟨v,H',I.call (h':=hh) (g':=g) (d':=d) (t':=t) (ch:=[]) un hok bare (λb z=>absurd z (by simp)),r,q⟩
end
def tCall(sp:Sp)(dvs:List V)(E:XK)(t:TA):TE:=λσ H Q=>t σ H λvs H1=>sp (vs++dvs) H1 Q E
def tMeth(C:Addr)(m:Str)(sp:Sp)(dvs:List V)(E:XK)(ta:TE)(t:TA):TE:=λσ H Q=>ta σ H λx H1=>∃a dx fs,x=.ref a/\H1 a=some (.ins C dx fs)/\fs.lookup m=none/\
 t σ H1 λvs H2=>sp (x::(vs++dvs)) H2 Q E
def tMake(C:Addr)(sp:Sp)(dvs:List V)(E:XK)(t:TA):TE:=λσ H Q=>t σ H λvs H1=>∀x dx,H1 x=none->H1 dx=none->dx≠x->
 sp (.ref x::(vs++dvs)) (upd (upd H1 dx (.own x)) x (.ins C dx [])) (λv H2=>v=.non/\Q (.ref x) H2) E
def qeb(K:W.Frag)(fd:FuncData)(ps:List Str)(ds:List Value):Prop:=
 ∀(s:Shared) (us:List Value),K.In s.heap->(us++ds).length=ps.length->BindsTo s fd ⟨us,[]⟩ (ps.zip (us++ds))
theorem qeb.all{K:W.Frag}{fd:FuncData}{ps:List Str}(h:∀us:List Value,us.length=ps.length->bindArgs fd ⟨us,[]⟩=pure (ps.zip us)):qeb K fd ps []:=λs us _ hl=>by
 rw[append_nil]at hl ⊢
 exact .of_eq (h us hl)
def yfx(CX:CXT)(X:Cx)(E:XK):Prop:=∀(pins:List (Addr×Obj)) (σ:St) (H:Hp) (s:Shared) (e:Value) (s':Shared),Inv X pins σ H s->CX X.stack H s E e s'->X.xe e s'
section
variable {X:Cx}{CX:CXT}{k:Nat}{f C:Addr}{fd:FuncData}{ps:List Str}{sp:Sp}{dvs:List V}{ds:List Value}{E:XK}{x m:Str}{p pos apos:Pos}{e o:Expr}{es:List Expr}{ta:TE}{t:TA}
theorem qly{pins:List (Addr×Obj)}{σ:St}{H:Hp}{s:Shared}{Q:VK}{us:List Value}{vs:List V}(F:FnOk X.prog X.w X.K X.mg X.base CX k f fd ps sp)(hr:Room k X.A)(hb:qeb X.K fd ps ds)(hd:Vals dvs ds)(hx:yfx CX X E)
  (I:Inv X pins σ H s) (r:Vals vs us) (h:sp (vs++dvs) H Q E):wpAny (model X.prog X.w) X.A (call (.ref f) us) (EP X pins σ Q) X.xe s:=by
 have r2:Vals (vs++dvs) (us++ds):=r.append hd
 have hl:(us++ds).length=ps.length:=by rw[<-r2.length];exact F.len _ _ _ _ h
 refine wpAny_call (codeAny_mono (F.run X.A X.stack s H ⟨us,[]⟩ (us++ds) (vs++dvs) Q E hr I.env0 (hb s us I.kIn hl) r2 h) λr s' hq=>?_)
 cases r with
 |error e=>exact hx pins σ H s e s' I hq
 |ok fl=>
  cases fl with
  |ret u=>exact I.after hq
  |next=>exact False.elim hq
  |brk=>exact False.elim hq
  |cont=>exact False.elim hq
theorem pe_call(F:FnOk X.prog X.w X.K X.mg X.base CX k f fd ps sp)(hr:Room k X.A)(hg:Gl X x)(hm:X.mg x=some (.ref f))(hk:W.keepIn X.K (.ref f)=true)(hb:qeb X.K fd ps ds)(hd:Vals dvs ds)(hx:yfx CX X E)
  (ha:PA X (e::es) t) (hdb:(x == ("__debug__" : Str))=false:=by decide) (he:starEach (e::es) X.env=(false,eval e X.env)::starEach es X.env:=by rfl) (hpl:(backTo pos (starEach es X.env)).any (·.1)=false:=by rfl) :
  PE X (.Call (.Name x p) (e::es) [] pos) (tCall sp dvs E t):=by
 intro pins s σ H Q I h
 refine wpAny_Call_Name_kw (yi1 I hg hm ?_ hdb)
 refine W.callWith_K (h₀:=X.base) I.ok.mod.kin hk (thn (ha pos pins s σ H _ I h) λus s1 ⟨vs,H1,I1,r,q⟩=>⟨I1.kIn,?_⟩) he hpl
 exact qly F hr hb hd hx I1 r q
theorem pe_meth{pl:Sem Bool}(he:PE X o ta)(c:Cls X.K C)(hm:Meth X.K C m f)(F:FnOk X.prog X.w X.K X.mg X.base CX k f fd ps sp)(hr:Room k X.A)(hb:qeb X.K fd ps ds)(hd:Vals dvs ds)(hx:yfx CX X E)(ha:PA X (e::es) t)
  (hst:starEach (e::es) X.env=(false,eval e X.env)::starEach es X.env:=by rfl) (hpl:(backTo pos (starEach es X.env)).any (·.1)=false:=by rfl)
  (ht:eval (.Call (.Attribute o m apos) (e::es) [] pos) X.env=(do
   let ov <-eval o X.env
   standAt apos.atName
   let (f,first) <-holding [ov] (getMethod ov m pl)
   callWith pos f first (backTo pos (starEach (e::es) X.env)) (backToKw pos (keywordEach [] X.env))):=by rfl) :
  PE X (.Call (.Attribute o m apos) (e::es) [] pos) (tMeth C m sp dvs E ta t):=by
 intro pins s σ H Q I h
 refine W.methodCall_KW (pl:=pl) (thn (he pins s σ H _ I h) λu s1 ⟨x,H1,I1,rx,a,dx,fs,ex,ea,l,q⟩=>?_) ht
 subst ex
 obtain rfl:u=Value.ref a:=rx
 refine ygh I1 ea c hm l ?_
 refine W.callWith_K (first:=[.ref a]) (h₀:=X.base) I.ok.mod.kin hm.kp (thn (ha pos pins s1 σ H1 _ I1 q) λus s2 ⟨vs,H2,I2,r,q2⟩=>⟨I2.kIn,?_⟩) hst hpl
 exact qly (us:=.ref a::us) (vs:=.ref a::vs) F hr hb hd hx I2 (.cons rfl r) q2
theorem pe_meth0{pl:Sem Bool}(he:PE X o ta)(c:Cls X.K C)(hm:Meth X.K C m f)(F:FnOk X.prog X.w X.K X.mg X.base CX k f fd ps sp)(hr:Room k X.A)(hb:qeb X.K fd ps ds)(hd:Vals dvs ds)(hx:yfx CX X E)
  (ht:eval (.Call (.Attribute o m apos) [] [] pos) X.env=(do
   let ov <-eval o X.env
   standAt apos.atName
   let (f,first) <-holding [ov] (getMethod ov m pl)
   callWith pos f first (backTo pos (starEach [] X.env)) (backToKw pos (keywordEach [] X.env))):=by rfl) :
  PE X (.Call (.Attribute o m apos) [] [] pos) (tMeth C m sp dvs E ta tNil):=by
 intro pins s σ H Q I h
 refine W.methodCall_KW (pl:=pl) (thn (he pins s σ H _ I h) λu s1 ⟨x,H1,I1,rx,a,dx,fs,ex,ea,l,q⟩=>?_) ht
 subst ex
 obtain rfl:u=Value.ref a:=rx
 refine ygh I1 ea c hm l ?_
 exact W.callWith_K0 (first:=[.ref a]) I1.kIn hm.kp (qly (us:=[.ref a]) (vs:=[.ref a]) F hr hb hd hx I1 (.cons rfl .nil) q)
structure Mk(K:W.Frag)(C f:Addr):Prop where
 makes:W.makesIn K C=true
 init:W.findIn K (.ref C) "__init__"=some (some (.ref f))
 fn:W.isFn K (.ref f)=true
 kp:W.keepIn K (.ref C)=true
theorem run_make{pins:List (Addr×Obj)}{σ:St}{H:Hp}{s:Shared}{Q:VK}{us:List Value}{vs:List V}(M:Mk X.K C f)(F:FnOk X.prog X.w X.K X.mg X.base CX k f fd ps sp)(hr:Room (k+1) X.A)(hb:qeb X.K fd ps ds)(hd:Vals dvs ds)
  (hx:yfx CX X E) (I:Inv X pins σ H s) (r:Vals vs us)
  (h:∀x dx,H x=none->H dx=none->dx≠x->sp (.ref x::(vs++dvs)) (upd (upd H dx (.own x)) x (.ins C dx [])) (λv H2=>v=.non/\Q (.ref x) H2) E) :
  wpAny (model X.prog X.w) X.A (call (.ref C) us) (EP X pins σ Q) X.xe s:=by
 have hq:=h (s.heap.objs.size+1) s.heap.objs.size (I.hok.fresh (le_succ _)) (I.hok.fresh (le_refl _)) (ne_of_lt (Nat.lt_succ_self _))
 have I2:=Inv.made (C:=C) I
 have r2:Vals (V.ref (s.heap.objs.size+1)::(vs++dvs)) (Value.ref (s.heap.objs.size+1)::(us++ds)):=.cons rfl (r.append hd)
 have hl:(Value.ref (s.heap.objs.size+1)::us++ds).length=ps.length:=by
  have e:=r2.length
  rw[F.len _ _ _ _ hq]at e
  exact e.symm
 refine wpAny_call (make_map (f:=f) I.kIn M.makes M.init (beq_iff_eq.mp M.fn) (codeAny_mono (F.run _ X.stack _ _ ⟨Value.ref (s.heap.objs.size+1)::us,[]⟩ (Value.ref (s.heap.objs.size+1)::(us++ds)) _ _ E (hr.make C us [])
  (I2.env0.make C us []) (hb _ (Value.ref (s.heap.objs.size+1)::us) I2.kIn hl) r2 hq) λr s' hq'=>?_))
 cases r with
 |error e=>exact hx pins σ _ _ e s' I2 hq'
 |ok fl=>
  cases fl with
  |ret u=>
   obtain ⟨v,H',I3,rv,ev,q3⟩:=I2.after hq'
   subst ev
   exact ⟨rv,⟨V.ref (s.heap.objs.size+1),H',I3,rfl,q3⟩⟩
  |next=>exact False.elim hq'
  |brk=>exact False.elim hq'
  |cont=>exact False.elim hq'
theorem pe_make(M:Mk X.K C f)(F:FnOk X.prog X.w X.K X.mg X.base CX k f fd ps sp)(hr:Room (k+1) X.A)(hg:Gl X x)(hm:X.mg x=some (.ref C))(hb:qeb X.K fd ps ds)(hd:Vals dvs ds)(hx:yfx CX X E)
  (ha:PA X (e::es) t) (hdb:(x == ("__debug__" : Str))=false:=by decide) (he:starEach (e::es) X.env=(false,eval e X.env)::starEach es X.env:=by rfl) (hpl:(backTo pos (starEach es X.env)).any (·.1)=false:=by rfl) :
  PE X (.Call (.Name x p) (e::es) [] pos) (tMake C sp dvs E t):=by
 intro pins s σ H Q I h
 refine wpAny_Call_Name_kw (yi1 I hg hm ?_ hdb)
 refine W.callWith_K (h₀:=X.base) I.ok.mod.kin M.kp (thn (ha pos pins s σ H _ I h) λus s1 ⟨vs,H1,I1,r,q⟩=>⟨I1.kIn,?_⟩) he hpl
 exact run_make M F hr hb hd hx I1 r q
end
structure FnScope(N P:List Str)(sc:Scope):Prop where
 kind:sc.kind=.function
 co:sc.isCoroutine=false
 gen:sc.isGenerator=false
 nd:N.Nodup
 pre:N.take P.length=P
 par:∀x∈P,sc.names.lookup x=some .local\/sc.names.lookup x=some .cell
 nofree:∀y∈sc.names,y.2≠.free
theorem fsc{N P:List Str}{sc:Scope}(a:sc.kind=.function:=by rfl)(b:sc.isCoroutine=false:=by rfl)(c:sc.isGenerator=false:=by rfl)(d:N.Nodup:=by decide +kernel)(e:N.take P.length=P:=by rfl)(f:∀x∈P,sc.names.lookup x=some .local\/sc.names.lookup x=some .cell:=by decide +kernel)(g:∀y∈sc.names,y.2≠.free:=by decide +kernel):FnScope N P sc:=⟨a,b,c,d,e,f,g⟩
theorem yh1{kindOf:Str->Option NameKind}{x:Str}:∀{binds:List (Str×Value)}{m:Str->Option Value},(∀v,(x,v)∉binds)->bindL kindOf binds m x=m x
 |[],_,_=>rfl
 | (n,v)::r,m,h=>by
  unfold bindL
  rw[yh1 λw hw=>h w (mem_cons_of_mem _ hw)]
  split
  ·have:x≠n:=by rintro rfl;exact h v mem_cons_self
   simp[this]
  ·rfl
theorem yhz{kindOf:Str->Option NameKind}{x:Str}:∀{binds:List (Str×Value)}{m:Str->Option Value},(∀v,(x,v)∉binds)->bindC kindOf binds m x=m x
 |[],_,_=>rfl
 | (n,v)::r,m,h=>by
  unfold bindC
  rw[yhz λw hw=>h w (mem_cons_of_mem _ hw)]
  split
  ·rfl
  ·have:x≠n:=by rintro rfl;exact h v mem_cons_self
   simp[this]
theorem yhy{kindOf:Str->Option NameKind}{x:Str}{v:Value}:∀{P:List Str}{vs:List Value}{i:Nat}{m:Str->Option Value},P.Nodup->P[i]?=some x->vs[i]?=some v->kindOf x=some .local->
  bindL kindOf (P.zip vs) m x=some v
 |[],_,_,_,_,h,_,_=>by simp at h
 |_::_,[],_,_,_,_,h,_=>by simp at h
 |p::P,w::vs,0,m,nd,h1,h2,hk=>by
  simp at h1 h2;subst h1;subst h2
  show bindL kindOf ((p,w)::P.zip vs) m p=_
  unfold bindL
  rw[yh1 λv hv=>(nodup_cons.mp nd).1 (of_mem_zip hv).1,if_pos hk]
  simp
 |p::P,w::vs,i+1,m,nd,h1,h2,hk=>by
  show bindL kindOf ((p,w)::P.zip vs) m x=_
  unfold bindL
  exact yhy (i:=i) (nodup_cons.mp nd).2 (by simpa using h1) (by simpa using h2) hk
theorem yhu{kindOf:Str->Option NameKind}{x:Str}{v:Value}:∀{P:List Str}{vs:List Value}{i:Nat}{m:Str->Option Value},P.Nodup->P[i]?=some x->vs[i]?=some v->kindOf x≠some .local->
  bindC kindOf (P.zip vs) m x=some v
 |[],_,_,_,_,h,_,_=>by simp at h
 |_::_,[],_,_,_,_,h,_=>by simp at h
 |p::P,w::vs,0,m,nd,h1,h2,hk=>by
  simp at h1 h2;subst h1;subst h2
  show bindC kindOf ((p,w)::P.zip vs) m p=_
  unfold bindC
  rw[yhz λv hv=>(nodup_cons.mp nd).1 (of_mem_zip hv).1,if_neg hk]
  simp
 |p::P,w::vs,i+1,m,nd,h1,h2,hk=>by
  show bindC kindOf ((p,w)::P.zip vs) m x=_
  unfold bindC
  exact yhu (i:=i) (nodup_cons.mp nd).2 (by simpa using h1) (by simpa using h2) hk
def qe7(N:List Str)(vs:List V):St:=vs.map some++List.replicate (N.length-vs.length) none
def cxOf(CX:CXT)(P:Program)(w:World)(K:W.Frag)(mg:Str->Option Value)(base:Heap)(N:List Str)(qual:Str)(scope:Scope)(f:Addr)(cd:Value)(A:Around)(outer:List Env)(s:Shared)(H:Hp)(E:XK):Cx where
 prog:=P
 w:=w
 K:=K
 mg:=mg
 base:=base
 A:=A.deeper (envOfC qual scope s.heap.objs.size f cd)
 N:=N
 s₀:=s
 H₀:=H
 env:=envOfC qual scope s.heap.objs.size f cd
 outer:=outer
 stack:=envOfC qual scope s.heap.objs.size f cd::outer
 ex:=[]
 calm:=true
 fn:=λ_=>true
 pn:=[]
 xe:=λe s'=>wpAny (model P w) (A.deeper (envOfC qual scope s.heap.objs.size f cd)) (leaving (envOfC qual scope s.heap.objs.size f cd) e) (λ_ s''=>CX outer H s E e s'') (λe' s''=>CX outer H s E e' s'') s'
theorem qjg{sc:Scope}{n:Nat}{x:Str}(h:sc.names.lookup x=some .cell):∃c,(cellsFrom n sc.names []).lookup x=some c:=by
 have q:=W.cellsFrom_some sc.names n [] (.inl h)
 exact Option.isSome_iff_exists.mp q
theorem yl1{CX:CXT}{P:Program}{w:World}{K:W.Frag}{mg:Str->Option Value}{base:Heap}{N ps:List Str}{qual:Str}{scope:Scope}{f:Addr}{cd:Value}{A:Around}{outer:List Env}{s s1:Shared}{H:Hp}{E:XK}{us:List Value}{vs:List V}
  (S:FnScope N ps scope) (hd:A.handled=none) (e0:Env0 P w K mg base A outer s H) (hl:vs.length=ps.length) (r:Vals vs us)
  (x:InCallC s s.heap.objs.size (bindL (envOfC qual scope s.heap.objs.size f cd).kindOf (ps.zip us) λ_=>none) (cellsFrom (s.heap.objs.size+1) scope.names []) (bindC (envOfC qual scope s.heap.objs.size f cd).kindOf (ps.zip us) λ_=>none) s1) :
  Inv (cxOf CX P w K mg base N qual scope f cd A outer s H E) [] (qe7 N vs) H s1:=by
 have hpl:ps.length<=N.length:=by have:=congrArg List.length S.pre;rw[length_take]at this;omega
 obtain ⟨h1,tk,rfl,hk⟩:=x.done
 have noA:∀b:Addr,b∉(cxOf CX P w K mg base N qual scope f cd A outer s H E).ex:=λb z=>absurd (show b∈([]:List Addr) from z) (by simp)
 refine ⟨⟨e0.mod,S.kind,rfl,rfl,le_refl _,λy z c h1 h2=>?_,λy hy=>?_,λy c _ h=>?_,λ_=>hd,Around.frames_deeper e0.frames,.inr ⟨rfl,rfl⟩,λb z=>absurd z (noA b),e0.bs,e0.bsz,λb _ _=>noA b,λb z=>absurd z (noA b),e0.funs,e0.frf⟩,
  rfl,e0.bare,Un.kept hk,⟨_,x.toInCall.ns,λi y v h1 h2 h3=>?_⟩,λy c h=>⟨_,x.cell y c h⟩,e0.hok.fresh (le_refl _),λy c h=>?_,λp hp=>absurd (show p∈([]:List (Addr×Obj)) from hp) (by simp),e0.hok.kept hk,?_⟩
 ·exact name_of_addr x.apart (PySem.mem_of_lookup h1) (PySem.mem_of_lookup h2)
 ·have hy:scope.names.lookup y=some .cell\/scope.names.lookup y=some .free:=hy
  rcases hy with hy|hy
  ·exact qjg hy
  ·exact absurd rfl (S.nofree _ (PySem.mem_of_lookup hy))
 ·exact le_of_lt (x.above y c (PySem.mem_of_lookup h))
 ·have hi:i<vs.length:=by
   unfold qe7 at h2
   by_cases hi:i<vs.length
   ·exact hi
   ·rw[getElem?_append_right (by simpa using hi)]at h2
    rw[List.getElem?_replicate]at h2
    split at h2<;>cases h2
  have ha:vs[i]?=some v:=by
   unfold qe7 at h2
   rw[getElem?_append_left (by simpa using hi),getElem?_map]at h2
   cases e:vs[i]? with
   |none=>rw[e]at h2;cases h2
   |some a=>rw[e]at h2;cases h2;rfl
  obtain ⟨u,hu,rv⟩:=r.get ha
  have hp:ps[i]?=some y:=by
   rw[<-S.pre,List.getElem?_take_of_lt (by omega)];exact h1
  have ndP:ps.Nodup:=by rw[<-S.pre];exact S.nd.sublist (List.take_sublist _ _)
  refine ⟨u,rv,?_⟩
  rcases S.par y (mem_of_getElem? hp) with k|k
  ·exact .inl ⟨k,yhy ndP hp hu k⟩
  ·obtain ⟨c,e⟩:=qjg (n:=s.heap.objs.size+1) k
   refine .inr ⟨.inl k,c,e,?_⟩
   have q:=x.cell y c e
   rw[yhu ndP hp hu (by show scope.names.lookup y≠_;rw[k];decide)]at q
   exact q
 ·exact e0.hok.fresh (le_of_lt (x.above y c (PySem.mem_of_lookup h)))
 ·unfold qe7
  show _=N.length
  rw[length_append,length_map,length_replicate]
  omega
theorem fn_of{CX:CXT}{P:Program}{w:World}{K:W.Frag}{mg:Str->Option Value}{base:Heap}{k:Nat}{f:Addr}{name qual:Str}{params:Arguments}{body:List Stmt}{scope:Scope}{dV kV doc pm cdv ct oc:Value}{an od:Option Addr}
  {osl:Array (Option Value)}{N ps:List Str}{sp:Sp} (lk:K.lookup f=some ⟨oc,od,.func (W.fnOf name qual params body scope dV kV doc pm an cdv ct),osl⟩) (hcd:W.codeIn K cdv qual=true) (S:FnScope N ps scope)
  (len:∀vs H Q E,sp vs H Q E->vs.length=ps.length)
  (hbody:∀(A:Around) (outer:List Env) (s:Shared) (H:Hp) (vs:List V) (Q:VK) (E:XK),Room k (A.deeper (envOfC qual scope s.heap.objs.size f cdv))->sp vs H Q E->
   ∃t,PSs (cxOf CX P w K mg base N qual scope f cdv A outer s H E) body t/\t { nx:=λ_ H'=>Q .non H',rt:=Q } (qe7 N vs) H) :
  FnOk P w K mg base CX (k+1) f (W.fnOf name qual params body scope dV kV doc pm an cdv ct) ps sp:=by
 refine ⟨len,λA outer s H args us vs Q E hr e0 hb r hsp=>?_⟩
 have hl:=len _ _ _ _ hsp
 have KX:K.In s.heap:=e0.mod.kin.keeps λb o e=>(e0.bs b o e).1
 have lim:s.heap.NoLimit:=e0.mod.nolimit.keeps λb o e=>(e0.bs b o e).1
 have hkind:∀y∈ps.zip us,scope.names.lookup y.1=some .local\/(scope.names.lookup y.1=some .cell/\((cellsFrom (s.heap.objs.size+1) scope.names []).lookup y.1).isSome=true):=λ⟨n,v⟩ hy=>by
  rcases S.par n (of_mem_zip hy).1 with q|q
  ·exact .inl q
  ·exact .inr ⟨q,W.cellsFrom_some _ _ _ (.inl q)⟩
 refine codeAny_call_function hr.depth (KX _ _ lk) rfl S.co S.gen rfl (W.codeRec_of KX hcd) (hb _ _ _ _ ?_)
 refine wpAny_newFunctionEnv_cells S.kind hkind λenv he s1 x=>?_
 subst he
 refine ⟨lim.keeps x.toInCall.keep,codeAny_func ?_⟩
 obtain ⟨t,ht,hq⟩:=hbody A outer s H vs Q E (hr.deeper _) hsp
 have I:Inv (cxOf CX P w K mg base N qual scope f cdv A outer s H E) [] (qe7 N vs) H s1:=yl1 S hr.hd e0 hl r x
 refine wpAny_mono (ht [] s1 (qe7 N vs) H _ I hq) (λfl s' hs=>?_) λe s' hs=>hs
 have fin:∀{σ':St}{H':Hp}{v:V}{u:Value},Inv (cxOf CX P w K mg base N qual scope f cdv A outer s H E) [] σ' H' s'->RelV v u->Q v H'->CE outer P w H s Q u s':=
  λ{σ' H' v u} J rv q=>⟨v,H',J.os,J.bare,J.base,J.hok,rv,q⟩
 cases fl with
 |ret u=>
  obtain ⟨v,σ',H',J,rv,q⟩:=hs
  exact fin J rv q
 |next=>
  obtain ⟨σ',H',J,q⟩:=hs
  exact fin (v:=V.non) (u:=Value.none) J rfl q
 |brk=>
  obtain ⟨_,_,_,q⟩:=hs
  exact False.elim q
 |cont=>
  obtain ⟨_,_,_,q⟩:=hs
  exact False.elim q
section
variable {X:Cx}{x:Str}{p pos:Pos}{e:Expr}{es:List Expr}{t:TA}{id T:String}{r:List V->Hp->VK->Prop}
def tCB(r:List V->Hp->VK->Prop)(t:TA):TE:=λσ H Q=>t σ H λvs H1=>r vs H1 Q
theorem qak(hc:yb7 X (.builtin id) r)(hg:Gl X x)(hm:X.mg x=none)(hv:bootBuiltins x=some (.builtin id))(ha:PA X (e::es) t)(hn:x≠"__name__":=by decide)(hdb:(x == ("__debug__" : Str))=false:=by decide)
  (he:starEach (e::es) X.env=(false,eval e X.env)::starEach es X.env:=by rfl) (hpl:(backTo pos (starEach es X.env)).any (·.1)=false:=by rfl):PE X (.Call (.Name x p) (e::es) [] pos) (tCB r t):=by
 intro pins s σ H Q I h
 refine wpAny_Call_Name_kw (qc6 I hg hm hv ?_ hn hdb)
 exact PyProof.Rows.callWith_builtin1 (thn (ha pos pins s σ H _ I h) λus s1 ⟨vs,H1,I1,r1,q1⟩=>hc pins s1 σ H1 vs us Q I1 r1 q1) he hpl
theorem qcj(hc:yb7 X (.type T) r)(hg:Gl X x)(hm:X.mg x=none)(hv:bootBuiltins x=some (.type T))(ha:PA X (e::es) t)(hn:x≠"__name__":=by decide)(hdb:(x == ("__debug__" : Str))=false:=by decide)
  (he:starEach (e::es) X.env=(false,eval e X.env)::starEach es X.env:=by rfl) (hpl:(backTo pos (starEach es X.env)).any (·.1)=false:=by rfl):PE X (.Call (.Name x p) (e::es) [] pos) (tCB r t):=by
 intro pins s σ H Q I h
 refine wpAny_Call_Name_kw (qc6 I hg hm hv ?_ hn hdb)
 exact PyProof.Rows.callWith_type1 (thn (ha pos pins s σ H _ I h) λus s1 ⟨vs,H1,I1,r1,q1⟩=>hc pins s1 σ H1 vs us Q I1 r1 q1) he hpl
end
end L2
namespace HT
open PySem PyProof.Rows
section
variable {prog:Program}{w:World}{A:Around}{E:Value->Shared->Prop}{s:Shared}
theorem cat_tup{t b:Addr}{vs ws:List Value}{Q:Value->Shared->Prop}(ht:IsTup s.heap t vs.toArray)(hb:IsTup s.heap b ws.toArray)(hv:vs≠[])
  (h1:ws=[]->Q (.ref t) s) (h2:ws≠[]->Q (.ref s.heap.objs.size) { s with heap:=s.heap.push { cls:=.type "tuple",data:=.seq (vs++ws).toArray } })
  (hsz:vs.length+ws.length<=sizeLine):wpAny (model prog w) A (binaryOp .Add (.ref t) (.ref b)) Q E s:=by
 obtain ⟨⟨cls,dd,data,sl⟩,ho,hc,n,hd⟩:=id ht
 obtain ⟨⟨cls2,dd2,data2,sl2⟩,ho2,hc2,n2,hd2⟩:=id hb
 simp only at hc hd hc2 hd2
 subst hc hd hc2 hd2
 have e:vs.toArray++ws.toArray=(vs++ws).toArray:=by simp
 by_cases hw:ws=[]
 ·exact concat_meets ⟨_,ho,rfl⟩ ⟨_,ho2,rfl⟩ noFill_tuple_add seq_tuple_add PySem.F.slot_tuple_add PySem.F.entry_tuple_add (PySem.F.args_tuple_add_2 _ _)
   (tuple_addW1 t b vs.toArray ws.toArray n n2 dd dd2 sl sl2 (by simpa using hv) (by simp[hw])) ⟨ho,ho2,h1 hw⟩
 ·refine concat_meets ⟨_,ho,rfl⟩ ⟨_,ho2,rfl⟩ noFill_tuple_add seq_tuple_add PySem.F.slot_tuple_add PySem.F.entry_tuple_add (PySem.F.args_tuple_add_2 _ _)
   (tuple_addW2 t b vs.toArray ws.toArray n n2 dd dd2 sl sl2 (by simpa using hv) (by simpa using hw) (by rw[size_toArray,size_toArray];exact hsz)) ⟨ho,ho2,?_⟩
  rw[e]
  exact h2 hw
def sIx(n d:Nat):Option Int->Nat
 |none=>d
 |some v=>if v<0 then (v+(n:Int)).toNat else min v.toNat n
theorem sIx_none(n d:Nat):sIx n d none=d:=rfl
theorem sIx_nat(n d k:Nat):sIx n d (some (k:Int))=min k n:=by
 show (if (k:Int)<0 then ((k:Int)+(n:Int)).toNat else min (k:Int).toNat n)=min k n
 rw[if_neg (by omega),Int.toNat_natCast]
theorem sIx_le(n d:Nat)(hd:d<=n)(o:Option Int):sIx n d o<=n:=by
 cases o with
 |none=>exact hd
 |some v=>
  show (if v<0 then (v+(n:Int)).toNat else min v.toNat n)<=n
  by_cases hv:v<0
  ·rw[if_pos hv];omega
  ·rw[if_neg hv];exact Nat.min_le_right _ _
theorem ylb(v:Int)(n d:Nat):(if v<0 then max (v+(n:Int)) 0 else min v (n:Int))=((sIx n d (some v):Nat):Int):=by
 show (if v<0 then max (v+(n:Int)) 0 else min v (n:Int))=(((if v<0 then (v+(n:Int)).toNat else min v.toNat n):Nat):Int)
 by_cases hv:v<0
 ·simp only[if_pos hv];omega
 ·simp only[if_neg hv];omega
theorem qj9(lo hi:Option Int)(n:Nat):Builtin.Slice.sliceAdjust lo hi 1 (n:Int)=(((sIx n 0 lo:Nat):Int),((sIx n n hi:Nat):Int)):=by
 have h1:¬ ((1:Int)<0):=by omega
 unfold Builtin.Slice.sliceAdjust
 simp only[h1,if_false]
 refine Prod.ext ?_ ?_
 ·cases lo with
  |none=>rfl
  |some v=>exact ylb v n 0
 ·cases hi with
  |none=>rfl
  |some v=>exact ylb v n n
theorem ykg(i j:Nat):Builtin.Slice.slicePlaces (i:Int) (j:Int) 1=j-i:=by
 unfold Builtin.Slice.slicePlaces
 have h1:(1:Int)>0:=by omega
 simp only[h1,if_true,Int.ediv_one]
 split<;>omega
theorem qgw{v:Value}{o:Option Int}{Q:Option Int->Shared->Prop}(p:IsPart v o)(h:Q o s):wpAny (model prog w) A (Builtin.Slice.slicePartIndex v) Q E s:=by
 cases p with
 |none=>exact slicePart_none h
 |int i t=>exact slicePart_int h
theorem ye2{sl:Addr}{vl vu:Value}{lo hi:Option Int}{n:Nat}{Q:Int×Int×Nat->Shared->Prop}(hs:s.heap.IsSliceOf sl vl vu .none)(pl:IsPart vl lo)(pu:IsPart vu hi)
  (h:Q (((sIx n 0 lo:Nat):Int),1,sIx n n hi-sIx n 0 lo) s):wpAny (model prog w) A (Builtin.Slice.sliceApplied (.ref sl) (pure (n:Int))) Q E s:=by
 obtain ⟨os,hos,hcs,hds⟩:=id hs
 unfold Builtin.Slice.sliceApplied Builtin.Slice.sliceFields
 refine wpAny_bind (wpAny_bind (wpAny_field hos hds (x:=vl) rfl (wpAny_bind (wpAny_field hos hds (x:=vu) rfl (wpAny_bind (wpAny_field hos hds (x:=.none) rfl (wpAny_pure ?_)))))))
 refine wpAny_bind (slicePart_none ?_)
 show wpAny _ _ (if ((1:Int) == 0)=true then _ else _) _ _ s
 rw[if_neg (by decide)]
 refine wpAny_bind (qgw pl (wpAny_bind (qgw pu (wpAny_bind (wpAny_pure ?_)))))
 show wpAny _ _ (match Builtin.Slice.sliceAdjust lo hi 1 (n:Int) with|(lo,hi)=>pure (lo,(1:Int),Builtin.Slice.slicePlaces lo hi 1)) _ _ s
 rw[qj9 lo hi n]
 show wpAny _ _ (pure (((sIx n 0 lo:Nat):Int),(1:Int),Builtin.Slice.slicePlaces ((sIx n 0 lo:Nat):Int) ((sIx n n hi:Nat):Int) 1)) _ _ s
 rw[ykg]
 exact wpAny_pure h
theorem pick_gen(xs:Array Value)(i k:Nat):((List.range k).filterMap λ(m:Nat)=>xs[((i:Int)+(m:Int)*1).toNat]?).toArray=((xs.toList.drop i).take k).toArray:=by
 have e:(λ(m:Nat)=>xs[((i:Int)+(m:Int)*1).toNat]?)=λm=>xs[i+m]?:=by
  funext m
  have:((i:Int)+(m:Int)*1).toNat=i+m:=by omega
  rw[this]
 rw[e]
 have:=pick_run xs i k
 rw[List.filterMap_map]at this
 have e2:((λx=>xs[x]?) ∘ λx=>i+x)=λm=>xs[i+m]?:=rfl
 rw[e2]at this
 rw[this]
theorem getItem_tuple_cut{t sl:Addr}{items:Array Value}{vl vu:Value}{lo hi:Option Int}{Q:Value->Shared->Prop}(ht:IsTup s.heap t items)(hs:s.heap.IsSliceOf sl vl vu .none)(pl:IsPart vl lo)(pu:IsPart vu hi)
  (hw:¬ (sIx items.size 0 lo=0/\sIx items.size items.size hi=items.size))
  (h:Q (.ref s.heap.objs.size) { s with heap:=s.heap.push { cls:=.type "tuple",data:=.seq ((items.toList.drop (sIx items.size 0 lo)).take (sIx items.size items.size hi-sIx items.size 0 lo)).toArray } })
  (hsz:items.size<=sizeLine):wpAny (model prog w) A (getItem (.ref t) (.ref sl)) Q E s:=by
 have htake:sizeOk (.seq ((items.toList.drop (sIx items.size 0 lo)).take (sIx items.size items.size hi-sIx items.size 0 lo)).toArray):=by
  show ((items.toList.drop (sIx items.size 0 lo)).take (sIx items.size items.size hi-sIx items.size 0 lo)).toArray.size<=sizeLine
  rw[size_toArray,length_take,length_drop,length_toList]
  omega
 have hj:sIx items.size items.size hi<=items.size:=sIx_le _ _ (le_refl _) hi
 obtain ⟨os,hos,hcs,hds⟩:=id hs
 have hTs:s.TypeIs (.ref sl) "slice":=⟨os,hos,hcs⟩
 unfold getItem
 try with_reducible refine wpAny_holding ?_
 first|refine wpAny_bind (wpAny_pure ?_)|skip
 refine wpAny_bind (wpAny_sequenceKey ht.typeIs (by decide) ?_)
 refine wpAny_bind (wpAny_callSpecial?_slot (name:=Str.ofString "__getitem__") ht.typeIs PyProof.Rows.slot_tuple_getitem
  (wpAny_call_entry PyProof.Rows.slot_tuple_getitem ht.typeIs entry_tuple_getitem ?_ (args_tuple_getitem _ _)))
 show wpAny _ _ (Builtin.Tuple.tupleItemsOf (.ref t) >>= _) _ _ s
 refine wpAny_bind (tupleItemsOf_ ht ?_)
 refine wpAny_bind (wpAny_typeOf hTs ?_)
 rw[if_pos (by decide)]
 refine wpAny_bind (ye2 hs pl pu ?_)
 have hno:¬ ((((sIx items.size 0 lo:Nat):Int) == 0&&(1:Int) == 1&&(sIx items.size items.size hi-sIx items.size 0 lo) == items.size)=true):=by
  intro q
  rw[Bool.and_eq_true,Bool.and_eq_true]at q
  have q1:((sIx items.size 0 lo:Nat):Int)=0:=eq_of_beq q.1.1
  have q2:sIx items.size items.size hi-sIx items.size 0 lo=items.size:=eq_of_beq q.2
  exact hw ⟨by omega,by omega⟩
 show wpAny _ _ (if (((sIx items.size 0 lo:Nat):Int) == 0&&(1:Int) == 1&&(sIx items.size items.size hi-sIx items.size 0 lo) == items.size)=true then _ else _) _ _ s
 rw[if_neg hno,pick_gen]
 first
  |exact wpAny_bind (m:=Builtin.Tuple.tupleExact _) (wpAny_newObj_type (wpAny_pure ⟨_,rfl,wpAny_pure h⟩) htake)
  |exact wpAny_bind (m:=Builtin.Tuple.tupleExact _) (wpAny_newObj_type (wpAny_bind (wpAny_pure (wpAny_pure ⟨_,rfl,wpAny_pure h⟩))) htake)
  |exact wpAny_bind (wpAny_bind (m:=Builtin.Tuple.tupleExact _) (wpAny_newObj_type (wpAny_pure (wpAny_pure ⟨_,rfl,wpAny_pure h⟩)) htake))
  |exact wpAny_bind (wpAny_bind (m:=Builtin.Tuple.tupleExact _) (wpAny_newObj_type (wpAny_pure ⟨_,rfl,wpAny_pure h⟩) htake))
end
end HT
namespace L2
open PySem PySem.Spec PyProof.Rows
abbrev TO:=St->Hp->(Option Int->Hp->Prop)->Prop
def PO(X:Cx)(e:Option Expr)(t:TO):Prop:=
 ∀(pins:List (Addr×Obj)) (s:Shared) (σ:St) (H:Hp) (Q:Option Int->Hp->Prop),Inv X pins σ H s->t σ H Q->
  wpAny (model X.prog X.w) X.A (evalPart e X.env) (λu s'=>∃o H',Inv X pins σ H' s'/\IsPart u o/\Q o H') X.xe s
def tNoPart:TO:=λ_ H Q=>Q none H
def tPart(t:TE):TO:=λσ H Q=>t σ H λx H1=>∃i,x=.int i/\Q (some i) H1
theorem qep{ns:List Int}:∀{us:List Value},Vals (ns.map V.int) us->IntsAre us ns:=by
 induction ns with
 |nil=>intro us r;rw[map_nil]at r;cases r;exact .nil
 |cons n ns ih=>
  intro us r
  rw[map_cons]at r
  cases r with
  |cons r1 r2=>
   obtain ⟨t,e⟩:=r1
   subst e
   exact .cons n t (ih r2)
section
variable {X:Cx}{e:Expr}{te:TE}{lo hi:Option Expr}{tl th:TO}{pos p2:Pos}
theorem ybw:PO X none tNoPart:=by
 intro pins s σ H Q I h
 rw[evalPart_none]
 exact wpAny_pure ⟨none,H,I,.none,h⟩
theorem qau(h:PE X e te):PO X (some e) (tPart te):=by
 intro pins s σ H Q I hw
 rw[evalPart_some]
 refine thn (h pins s σ H _ I hw) λu s1 ⟨x,H1,I1,r1,q1⟩=>?_
 obtain ⟨i,rfl,q⟩:=q1
 obtain ⟨t,rfl⟩:=r1
 exact ⟨some i,H1,I1,.int i t,q⟩
def SlR(X:Cx)(r:V->Option Int->Option Int->Hp->VK->Prop):Prop:=
 ∀(pins:List (Addr×Obj)) (s:Shared) (σ:St) (H:Hp) (x:V) (v vl vu:Value) (lo hi:Option Int) (sl:Addr) (Q:VK),Inv X pins σ H s->RelV x v->s.heap.IsSliceOf sl vl vu .none->IsPart vl lo->IsPart vu hi->r x lo hi H Q->
  ∃T id,typeLookup (.type T) "__getitem__"=pure (some (.builtin id))/\s.TypeIs v T/\wpAny (model X.prog X.w) X.A (getItem v (.ref sl)) (EP X pins σ Q) X.xe s
def tSl(r:V->Option Int->Option Int->Hp->VK->Prop)(te:TE)(tl th:TO):TE:=λσ H Q=>te σ H λx H1=>tl σ H1 λl H2=>th σ H2 λu H3=>r x l u H3 Q
theorem qcq{r:V->Option Int->Option Int->Hp->VK->Prop}(hr:SlR X r)(he:PE X e te)(hl:PO X lo tl)(hu:PO X hi th):PE X (.Subscript e (.Slice lo hi none p2) pos) (tSl r te tl th):=by
 intro pins s σ H Q I h
 refine Subscript_ (thn (he pins s σ H _ I h) λv s1 ⟨x,H1,I1,r1,q1⟩=>?_)
 refine wpAny_Slice (thn (hl pins s1 σ H1 _ I1 q1) λvl s2 ⟨l,H2,I2,pl,q2⟩=>thn (hu pins s2 σ H2 _ I2 q2) λvu s3 ⟨u,H3,I3,pu,q3⟩=>?_)
 rw[evalPart_none]
 refine wpAny_pure ?_
 have I4:Inv X pins σ H3 { s3 with heap:=s3.heap.push { cls:=.type "slice",data:=.fields #[vl,vu,.none] } }:=I3.kept (t':=s3.toks) λb ob q=>get?_push_of_some _ q
 obtain ⟨T,id,hT,ht,hg⟩:=hr pins { s3 with heap:=s3.heap.push { cls:=.type "slice",data:=.fields #[vl,vu,.none] } } σ H3 x v vl vu l u s3.heap.objs.size Q I4 r1 (Heap.IsSliceOf.new ..) pl pu q3
 show wpAny (model X.prog X.w) X.A (subscriptTail e (.Slice lo hi none p2) v (.ref s3.heap.objs.size)) (EP X pins σ Q) X.xe { s3 with heap:=s3.heap.push { cls:=.type "slice",data:=.fields #[vl,vu,.none] } }
 exact tail_any (ops:=[.ref s3.heap.objs.size,v]) ht hT hg (by with_unfolding_all rfl)
def cutV(xs:List V)(lo hi:Option Int):List V:=(xs.drop (HT.sIx xs.length 0 lo)).take (HT.sIx xs.length xs.length hi-HT.sIx xs.length 0 lo)
theorem yfh(xs:List V)(lo hi:Option Int):(cutV xs lo hi).length<=xs.length:=by
 unfold cutV
 rw[length_take,length_drop]
 omega
def rSlT(K:W.Frag):V->Option Int->Option Int->Hp->VK->Prop:=λx lo hi H Q=>∃a xs,x=.ref a/\SqT K H a xs/\
 ¬ (HT.sIx xs.length 0 lo=0/\HT.sIx xs.length xs.length hi=xs.length)/\∀p,H p=none->Q (.ref p) (upd H p (.tup (cutV xs lo hi)))
theorem qfn:SlR X (rSlT X.K):=by
 intro pins s σ H x v vl vu lo hi sl Q I rx hs pl pu h
 obtain ⟨a,xs,rfl,hx,hw,q⟩:=h
 cases rx
 obtain ⟨its,r,ht,hz⟩:=I.tuple hx
 have hlen:its.toArray.size=xs.length:=by rw[size_toArray];exact r.length.symm
 refine ⟨"tuple",_,PyProof.Rows.slot_tuple_getitem.lookup,ht.typeIs,?_⟩
 refine HT.getItem_tuple_cut ht hs pl pu (by rw[hlen];exact hw) ?_ (by rw[hlen];exact hz)
 rw[hlen]
 refine ⟨.ref s.heap.objs.size,_,I.laid (t':=s.toks) (o:=.tup (cutV xs lo hi)) (λb ob q=>get?_push_of_some _ q) (le_refl _) ?_,rfl,q _ (I.hok.fresh (le_refl _))⟩
 exact ⟨le_trans (yfh xs lo hi) hz,_,(r.drop (HT.sIx xs.length 0 lo)).take (HT.sIx xs.length xs.length hi-HT.sIx xs.length 0 lo),IsTup.new _ _⟩
def rCatT(K:W.Frag):R2:=λx y H Q=>∃a b xs ys,x=.ref a/\y=.ref b/\SqT K H a xs/\SqT K H b ys/\xs≠[]/\xs.length+ys.length<=sizeLine/\
 (ys=[]->Q (.ref a) H)/\(ys≠[]->∀p,H p=none->Q (.ref p) (upd H p (.tup (xs++ys))))
theorem Vals.nil_iff{xs:List V}{us:List Value}(r:Vals xs us):us=[]↔xs=[]:=by
 cases r with
 |nil=>simp
 |cons _ _=>simp
theorem op_catT:OpR X (binaryOp .Add) (rCatT X.K):=by
 intro pins s σ H x y v u Q I rx ry h
 obtain ⟨a,b,xs,ys,rfl,rfl,ha,hb,hx,hz,q1,q2⟩:=h
 cases rx
 cases ry
 obtain ⟨its,r1,p1,_⟩:=I.tuple ha
 obtain ⟨its2,r2,p2,_⟩:=I.tuple hb
 refine HT.cat_tup p1 p2 (λz=>hx (r1.nil_iff.mp z)) (λz=>⟨.ref a,H,I,rfl,q1 (r2.nil_iff.mp z)⟩) (λz=>?_) (by rw[<-r1.length,<-r2.length];exact hz)
 refine ⟨.ref s.heap.objs.size,_,I.laid (t':=s.toks) (o:=.tup (xs++ys)) (λb ob q=>get?_push_of_some _ q) (le_refl _) ?_,rfl,q2 (λw=>z (r2.nil_iff.mpr w)) _ (I.hok.fresh (le_refl _))⟩
 exact ⟨by rw[length_append];exact hz,_,r1.append r2,IsTup.new _ _⟩
end
def ixN(n:Nat)(i:Int):Option Nat:=if 0<=i then (if i<n then some i.toNat else none) else if -(n:Int)<=i then some (i+n).toNat else none
def atI{α:Type}(xs:List α)(i:Int):Option α:=(ixN xs.length i).bind λj=>xs[j]?
theorem qlv{n:Nat}{i:Int}{j:Nat}(h:ixN n i=some j):seqIndex? i n=some j/\j<n/\-(n:Int)<=i/\i<n:=by
 unfold ixN at h
 by_cases h0:0<=i
 ·rw[if_pos h0]at h
  by_cases h1:i<n
  ·rw[if_pos h1]at h
   have e:i.toNat=j:=Option.some.inj h
   exact ⟨by rw[seqIndex_of h0 h1,e],by omega,by omega,h1⟩
  ·rw[if_neg h1]at h;cases h
 ·rw[if_neg h0]at h
  by_cases h1:-(n:Int)<=i
  ·rw[if_pos h1]at h
   have e:(i+n).toNat=j:=Option.some.inj h
   exact ⟨by rw[seqIndex_neg (by omega) h1,e],by omega,h1,by omega⟩
  ·rw[if_neg h1]at h;cases h
theorem yi6{α:Type}{xs:List α}{i:Int}{v:α}(h:atI xs i=some v):∃j,seqIndex? i xs.length=some j/\xs[j]?=some v/\j<xs.length/\-(xs.length:Int)<=i/\i<xs.length:=by
 unfold atI at h
 cases e:ixN xs.length i with
 |none=>rw[e]at h;cases h
 |some j=>
  rw[e]at h
  obtain ⟨h1,h2,h3,h4⟩:=qlv e
  exact ⟨j,h1,h,h2,h3,h4⟩
theorem ybl{α:Type}{xs:List α}{j:Nat}{v:α}(h:xs[j]?=some v):atI xs (j:Int)=some v:=by
 have hj:j<xs.length:=(List.getElem?_eq_some_iff.mp h).1
 have e:ixN xs.length (j:Int)=some j:=by
  unfold ixN
  rw[if_pos (by omega),if_pos (by omega)];simp
 unfold atI;rw[e];exact h
theorem qjr{α:Type}(xs:List α)(v:α):atI (xs++[v]) (-1)=some v:=by
 have hl:(xs++[v]).length=xs.length+1:=by simp
 have e:ixN (xs++[v]).length (-1)=some xs.length:=by
  unfold ixN
  rw[hl,if_neg (by decide),if_pos (by omega)]
  congr 1
  omega
 unfold atI
 rw[e]
 show (xs++[v])[xs.length]?=some v
 simp
def ykr(b:Expr):Prop:=∀o i,subscripted b false o i=operate [o,i] (getItem o i)
def IxR(X:Cx)(r:R2):Prop:=
 ∀(value slice:Expr) (pins:List (Addr×Obj)) (s:Shared) (σ:St) (H:Hp) (x y:V) (v u:Value) (Q:VK),Inv X pins σ H s->RelV x v->RelV y u->r x y H Q->
  subscripted slice false v u=operate [v,u] (getItem v u)->wpAny (model X.prog X.w) X.A (subscriptTail value slice v u) (EP X pins σ Q) X.xe s
def MtR(X:Cx)(id:String)(r:V->List V->Hp->VK->Prop):Prop:=
 ∀(pins:List (Addr×Obj)) (s:Shared) (σ:St) (H:Hp) (x:V) (xs:List V) (v:Value) (us:List Value) (Q:VK),Inv X pins σ H s->RelV x v->Vals xs us->r x xs H Q->
  wpAny (model X.prog X.w) X.A (call (.builtin id) (v::us)) (EP X pins σ Q) X.xe s
section
variable {X:Cx}{a b:Expr}{ta tb:TE}{pos:Pos}
theorem yan{r:R2}(hr:IxR X r)(ha:PE X a ta)(hb:PE X b tb)(hs:ykr b:=by intro _ _;rfl):PE X (.Subscript a b pos) (tOp r ta tb):=by
 intro pins s σ H Q I h
 exact Subscript_ (binT ha hb I h λv u s2 x y H2 I2 rx ry q=>hr a b pins s2 σ H2 x y v u Q I2 rx ry q (hs _ _))
def rIxL(K:W.Frag):R2:=λx y H Q=>∃p xs i v,x=.ref p/\y=.int i/\SqL K H p xs/\atI xs i=some v/\Q v H
def rIxT(K:W.Frag):R2:=λx y H Q=>∃p xs i v,x=.ref p/\y=.int i/\SqT K H p xs/\atI xs i=some v/\Q v H
def rIxS:R2:=λx y H Q=>∃z i c,x=.str z/\y=.int i/\z.length<=sizeLine/\atI z.cps.toList i=some c/\Q (.str ⟨#[c]⟩) H
theorem qam:IxR X (rIxL X.K):=by
 intro value slice pins s σ H x y v u Q I rx ry h hs
 obtain ⟨p,xs,i,z,rfl,rfl,hq,he,q⟩:=h
 cases rx
 obtain ⟨t,rfl⟩:=ry
 obtain ⟨its,r,pl,hz⟩:=I.list hq
 obtain ⟨j,h1,h2,h3,h4,h5⟩:=yi6 he
 obtain ⟨w,ew,rw'⟩:=r.get h2
 have hl:=r.length
 have hn:=qh0
 have fin:EP X pins σ Q w s:=⟨z,H,I,rw',q⟩
 by_cases h0:0<=i
 ·have hj:i.toNat=j:=by
   rw[seqIndex_of h0 h5]at h1
   exact Option.some.inj h1
  exact item_listR pl.isList h0 (by omega) (by rw[hj];simpa using ew) fin hs
 ·have hj:(i+(its.toArray.size:Int)).toNat=j:=by
   rw[seqIndex_neg (by omega) h4]at h1
   rw[size_toArray,<-hl]
   exact Option.some.inj h1
  exact subscriptTail_builtinR (x:=w) pl.isList.typeIs slot_list_getitem.lookup
   (wpAny_getItem_list_neg (Q:=λr s'=>r=w/\EP X pins σ Q r s') pl.isList (by omega) (by rw[size_toArray]<;>omega) (by omega) (by rw[hj];simpa using ew) ⟨rfl,fin⟩) hs
theorem qai:IxR X (rIxT X.K):=by
 intro value slice pins s σ H x y v u Q I rx ry h hs
 obtain ⟨p,xs,i,z,rfl,rfl,hq,he,q⟩:=h
 cases rx
 obtain ⟨t,rfl⟩:=ry
 obtain ⟨its,r,pl,hz⟩:=I.tuple hq
 obtain ⟨j,h1,h2,h3,h4,h5⟩:=yi6 he
 obtain ⟨w,ew,rw'⟩:=r.get h2
 have hl:=r.length
 have hn:=qh0
 have fin:EP X pins σ Q w s:=⟨z,H,I,rw',q⟩
 exact subscriptTail_builtinR (x:=w) pl.typeIs slot_tuple_getitem.lookup
  (getItem_tuple (j:=j) (Q:=λr s'=>r=w/\EP X pins σ Q r s') pl (by omega) (by omega) (by rw[size_toArray,<-hl];exact h1) (by simpa using ew) ⟨rfl,fin⟩) hs
theorem ix_str:IxR X rIxS:=by
 intro value slice pins s σ H x y v u Q I rx ry h hs
 obtain ⟨z,i,c,rfl,rfl,hz,he,q⟩:=h
 obtain ⟨t,rfl⟩:=rx
 obtain ⟨t',rfl⟩:=ry
 obtain ⟨j,h1,h2,h3,h4,h5⟩:=yi6 he
 have hl:z.cps.toList.length=z.length:=by simp[Str.length]
 rw[hl]at h1 h4 h5
 have hn:=qh0
 exact tail_any (typeIs_str s z t) slot_str_getitem.lookup (getItem_str (c:=c) (by
  have e1:decide (i < -(2 ^ 63:Int))=false:=decide_eq_false (by omega)
  have e2:decide (i≥2 ^ 63)=false:=decide_eq_false (by omega)
  rw[e1,e2,Bool.or_false]) (by rw[h1];simpa using h2) ⟨.str ⟨#[c]⟩,H,I.tok _,⟨_,rfl⟩,q⟩) hs
theorem qkh(its:List Value)(n j:Nat)(u:Value):Obj.mapSeq (·.setIfInBounds j u) { cls:=.type "list",data:=.seq its.toArray n }={ cls:=.type "list",data:=.seq (its.set j u).toArray n }:=by
 simp[Obj.mapSeq]
theorem Inv.lst{pins:List (Addr×Obj)}{σ:St}{H:Hp}{s:Shared}{p:Addr}{xs:List V}(I:Inv X pins σ H s)(h:H p=some (.lst xs)) :
  ∃(its:List Value) (n:Nat),Vals xs its/\s.heap.get? p=some { cls:=.type "list",data:=.seq its.toArray n }/\xs.length<=sizeLine:=by
 obtain ⟨z,its,n,r,e⟩:=I.hok p _ h
 exact ⟨its,n,r,e,z⟩
theorem Inv.lstUpd{pins:List (Addr×Obj)}{σ:St}{H:Hp}{s:Shared}{p:Addr}{xs ys:List V}{its its':List Value}{n n':Nat}{f:Obj->Obj}(I:Inv X pins σ H s)(h:H p=some (.lst xs))
  (ho:s.heap.get? p=some { cls:=.type "list",data:=.seq its.toArray n }) (hf:f { cls:=.type "list",data:=.seq its.toArray n }={ cls:=.type "list",data:=.seq its'.toArray n' }) (r:Vals ys its') (hz:ys.length<=sizeLine) (t:Nat) :
  Inv X pins σ (upd H p (.lst ys)) { s with heap:=s.heap.update p f,toks:=t }:=by
 have e:(s.heap.update p f).get? p=some { cls:=.type "list",data:=.seq its'.toArray n' }:=by
  rw[get?_update_self f ho (by rw[hf]<;>rfl),hf]
 refine I.write (x:=p) (e:=p) (by rw[h];trivial) (.inl rfl) (λb u hb q=>(Heap.get?_update_other _ _ (Ne.symm hb)).trans q) ⟨_,e⟩ ?_
 exact ⟨hz,its',n',r,e⟩
def rSetL:V->V->V->Hp->(Hp->Prop)->Prop:=λo i v H Q=>∃p xs k j,o=.ref p/\i=.int k/\H p=some (.lst xs)/\ixN xs.length k=some j/\Q (upd H p (.lst (xs.set j v)))
theorem qg6:PSet X rSetL:=by
 intro pins s σ H o i v ov iv u Q I ro ri rv h
 obtain ⟨p,xs,k,j,rfl,rfl,hp,hj,q⟩:=h
 cases ro
 obtain ⟨t,rfl⟩:=ri
 obtain ⟨its,n,r,ho,hz⟩:=I.lst hp
 obtain ⟨h1,h2,h3,h4⟩:=qlv hj
 have hl:=r.length
 have hn:=qh0
 have I':Inv X pins σ (upd H p (.lst (xs.set j v))) { s with heap:=s.heap.update p (Obj.mapSeq (·.setIfInBounds j u)) }:=
  I.lstUpd hp ho (qkh its n j u) (r.set rv j) (by rw[List.length_set];exact hz) s.toks
 by_cases h0:0<=k
 ·have hk:k.toNat=j:=by
   rw[seqIndex_of h0 h4]at h1
   exact Option.some.inj h1
  exact W.ki_setAt ho h0 (by omega) (by rw[size_toArray,<-hl];exact h4) (by rw[hk];exact ⟨_,I',q⟩)
 ·have hk:(k+(its.toArray.size:Int)).toNat=j:=by
   rw[seqIndex_neg (by omega) h3]at h1
   rw[size_toArray,<-hl]
   exact Option.some.inj h1
  exact W.ki_setBack ho (by omega) (by rw[size_toArray,<-hl];exact h3) (by omega) (by rw[hk];exact ⟨_,I',q⟩)
theorem qht(lo hi:Option Int)(n:Nat):(sliceBounds lo hi none n).1=((HT.sIx n 0 lo:Nat):Int)/\(sliceBounds lo hi none n).2.1=((HT.sIx n n hi:Nat):Int)/\(sliceBounds lo hi none n).2.2=1:=by
 refine ⟨?_,?_,rfl⟩
 ·cases lo with
  |none=>simp[sliceBounds,HT.sIx]
  |some i=>
   simp only[sliceBounds,HT.sIx,Option.getD_none,show (1:Int)>0 by decide,if_true]
   by_cases h:i<0
   ·simp only[h,if_true]<;>omega
   ·simp only[h,if_false]<;>omega
 ·cases hi with
  |none=>simp[sliceBounds,HT.sIx]
  |some i=>
   simp only[sliceBounds,HT.sIx,Option.getD_none,show (1:Int)>0 by decide,if_true]
   by_cases h:i<0
   ·simp only[h,if_true]<;>omega
   ·simp only[h,if_false]<;>omega
theorem yhj(its:List Value)(lo hi:Option Int):slicePick its.toArray lo hi none=((its.drop (HT.sIx its.length 0 lo)).take (HT.sIx its.length its.length hi-HT.sIx its.length 0 lo)).toArray:=by
 obtain ⟨h1,h2,h3⟩:=qht lo hi its.toArray.size
 unfold slicePick
 rw[h1,h2,h3]
 simp only[sliceRange_one,pick_run,size_toArray]<;>rfl
def rSlL(K:W.Frag):V->Option Int->Option Int->Hp->VK->Prop:=λx lo hi H Q=>∃a xs,x=.ref a/\SqL K H a xs/\∀p,H p=none->Q (.ref p) (upd H p (.lst (cutV xs lo hi)))
theorem qce:SlR X (rSlL X.K):=by
 intro pins s σ H x v vl vu lo hi sl Q I rx hs pl pu h
 obtain ⟨a,xs,rfl,hx,q⟩:=h
 cases rx
 obtain ⟨its,r,ht,hz⟩:=I.list hx
 have hlen:=r.length
 refine ⟨"list",_,slot_list_getitem.lookup,ht.isList.typeIs,?_⟩
 refine wpAny_getItem_list_slice ht.isList hs pl pu .none (by simp) ?_ (by rw[size_toArray]<;>omega)
 rw[yhj,<-hlen]
 refine ⟨.ref s.heap.objs.size,_,I.laid (t':=s.toks) (o:=.lst (cutV xs lo hi)) (λb ob q=>get?_push_of_some _ q) (le_refl _) ?_,rfl,q _ (I.hok.fresh (le_refl _))⟩
 exact ⟨le_trans (yfh xs lo hi) hz,_,0,(r.drop (HT.sIx xs.length 0 lo)).take (HT.sIx xs.length xs.length hi-HT.sIx xs.length 0 lo),get?_push_size _ rfl⟩
def qdp:V->Bool
 |.non=>true
 |.bl _=>true
 |.int _=>true
 |.str _=>true
 |_=>false
def eqV:V->V->Bool
 |.non,.non=>true
 |.bl a,.bl b=>a == b
 |.bl a,.int b=>(if a then 1 else 0) == b
 |.int a,.bl b=>a == (if b then 1 else 0)
 |.int a,.int b=>a == b
 |.str a,.str b=>a == b
 |_,_=>false
theorem eqAt_V{A:Around}{s:Shared}{y x:V}{u v:Value}(ry:RelV y u)(rx:RelV x v)(fy:qdp y=true)(fx:qdp x=true):SeqAt.EqAt A s u v (eqV y x):=by
 cases y with
 |non=>
  cases ry
  cases x with
  |non=>cases rx;exact SeqAt.EqAt.same _
  |bl b=>cases rx;exact SeqAt.EqAt.none_bool b
  |int b=>obtain ⟨t,rfl⟩:=rx;exact SeqAt.EqAt.none_int b t
  |str b=>obtain ⟨t,rfl⟩:=rx;exact SeqAt.EqAt.none_str b t
  |_=>exact absurd (show false=true from fx) Bool.false_ne_true
 |bl a=>
  cases ry
  cases x with
  |non=>cases rx;exact SeqAt.EqAt.bool_none a
  |bl b=>cases rx;exact SeqAt.EqAt.bool_bool a b
  |int b=>obtain ⟨t,rfl⟩:=rx;exact SeqAt.EqAt.bool_int a b t
  |str b=>obtain ⟨t,rfl⟩:=rx;exact SeqAt.EqAt.bool_str a b t
  |_=>exact absurd (show false=true from fx) Bool.false_ne_true
 |int a=>
  obtain ⟨t',rfl⟩:=ry
  cases x with
  |non=>cases rx;exact SeqAt.EqAt.int_none a t'
  |bl b=>cases rx;exact SeqAt.EqAt.int_bool a t' b
  |int b=>obtain ⟨t,rfl⟩:=rx;exact SeqAt.EqAt.int_int a t' b t
  |str b=>obtain ⟨t,rfl⟩:=rx;exact SeqAt.EqAt.int_str a t' b t
  |_=>exact absurd (show false=true from fx) Bool.false_ne_true
 |str a=>
  obtain ⟨t',rfl⟩:=ry
  cases x with
  |non=>cases rx;exact SeqAt.EqAt.str_none a t'
  |bl b=>cases rx;exact SeqAt.EqAt.str_bool a t' b
  |int b=>obtain ⟨t,rfl⟩:=rx;exact SeqAt.EqAt.str_int a t' b t
  |str b=>obtain ⟨t,rfl⟩:=rx;exact SeqAt.EqAt.str_str a t' b t
  |_=>exact absurd (show false=true from fx) Bool.false_ne_true
 |_=>exact absurd (show false=true from fy) Bool.false_ne_true
def eqU(x:V)(u:Value):Bool:=match u with
 |.none=>eqV .non x
 |.bool b=>eqV (.bl b) x
 |.int i _=>eqV (.int i) x
 |.str z _=>eqV (.str z) x
 |_=>false
theorem eqU_of{x y:V}{u:Value}(r:RelV y u)(f:qdp y=true):eqU x u=eqV y x:=by
 cases y with
 |non=>cases r;rfl
 |bl b=>cases r;rfl
 |int i=>obtain ⟨t,rfl⟩:=r;rfl
 |str z=>obtain ⟨t,rfl⟩:=r;rfl
 |_=>exact absurd (show false=true from f) Bool.false_ne_true
theorem yi0{x:V}:∀{xs:List V}{us:List Value},Vals xs us->xs.all qdp=true->us.any (eqU x)=xs.any λy=>eqV y x
 |_,_,.nil,_=>rfl
 |y::xs,u::us,.cons r t,f=>by
  rw[all_cons,Bool.and_eq_true]at f
  rw[any_cons,any_cons,eqU_of r f.1,yi0 t f.2]
theorem yg4{A:Around}{s:Shared}{x:V}{v:Value}(rx:RelV x v)(fx:qdp x=true):∀{xs:List V}{us:List Value},Vals xs us->xs.all qdp=true->∀u∈us,SeqAt.EqAt A s u v (eqU x u)
 |_,_,.nil,_=>λu hu=>by cases hu
 |y::xs,u::us,.cons r t,f=>λu' hu=>by
  rw[all_cons,Bool.and_eq_true]at f
  rcases mem_cons.mp hu with rfl|hu
  ·rw[eqU_of r f.1];exact eqAt_V r rx f.1 fx
  ·exact yg4 rx fx t f.2 u' hu
def inV(x:V)(xs:List V):Bool:=xs.any λy=>eqV y x
def rIn(K:W.Frag)(neg:Bool):R2:=λx y H Q=>∃p xs,y=.ref p/\(SqL K H p xs\/SqT K H p xs)/\qdp x=true/\xs.all qdp=true/\Q (.bl (if neg then !inV x xs else inV x xs)) H
theorem ybg:OpR X (compareOp .In) (rIn X.K false):=by
 intro pins s σ H x y v u Q I rx ry h
 obtain ⟨p,xs,rfl,hq,fx,fs,q⟩:=h
 cases ry
 rcases hq with hq|hq
 ·obtain ⟨its,r,pl,hz⟩:=I.list hq
  refine SeqAt.in_listAt (eqU x) pl.isList (λw hw=>yg4 rx fx r fs w (by simpa using hw)) ⟨.bl _,H,I,rfl,?_⟩
  rw[show its.toArray.any (eqU x)=its.any (eqU x) by simp,yi0 r fs]
  exact q
 ·obtain ⟨its,r,pl,hz⟩:=I.tuple hq
  refine SeqAt.in_tupleAt (eqU x) pl (λw hw=>yg4 rx fx r fs w (by simpa using hw)) ⟨.bl _,H,I,rfl,?_⟩
  rw[show its.toArray.any (eqU x)=its.any (eqU x) by simp,yi0 r fs]
  exact q
theorem yah:yb7 X (.builtin "len") (λxs H Q=>∃p ys,xs=[.ref p]/\(SqL X.K H p ys\/SqT X.K H p ys)/\Q (.int ys.length) H):=by
 intro pins s σ H xs us Q I r h
 obtain ⟨p,ys,rfl,hq,q⟩:=h
 obtain ⟨u,rfl,rx⟩:=yhb r
 cases rx
 have hn:=qh0
 rcases hq with hq|hq
 ·obtain ⟨its,r',pl,hz⟩:=I.list hq
  have hlen:=r'.length
  exact Calls.call_len_list pl.isList (by simp only[size_toArray]<;>omega) ⟨.int ys.length,H,I.tok _,⟨s.toks+1,by rw[size_toArray,hlen]⟩,q⟩
 ·obtain ⟨its,r',pl,hz⟩:=I.tuple hq
  have hlen:=r'.length
  exact len_tuple pl (by simp only[size_toArray]<;>omega) ⟨.int ys.length,H,I.tok _,⟨s.toks+1,by rw[size_toArray,hlen]⟩,q⟩
theorem qcw:yb7 X (.type "list") (λxs H Q=>∃p ys,xs=[.ref p]/\(SqL X.K H p ys\/SqT X.K H p ys)/\∀l,H l=none->Q (.ref l) (upd H l (.lst ys))):=by
 intro pins s σ H xs us Q I r h
 obtain ⟨p,ys,rfl,hq,q⟩:=h
 obtain ⟨u,rfl,rx⟩:=yhb r
 cases rx
 have fin:∀(its:List Value),Vals ys its->ys.length<=sizeLine->∀(h':Heap) (c':Nat),(∀b o',s.heap.get? b=some o'->h'.get? b=some o')->
   h'.get? s.heap.objs.size=some { cls:=.type "list",dict:=none,data:=.seq its.toArray c',slots:=#[] }->EP X pins σ Q (.ref s.heap.objs.size) { s with heap:=h' }:=λits r' hz h' c' kp e=>
  ⟨.ref s.heap.objs.size,_,I.laid (t':=s.toks) kp (le_refl _) (show qbf X.prog X.w _ h' _ (.lst ys) from ⟨hz,its,c',r',e⟩),rfl,q _ (I.hok.fresh (le_refl _))⟩
 rcases hq with hq|hq
 ·obtain ⟨its,r',pl,hz⟩:=I.list hq
  have hlen:=r'.length
  obtain ⟨o,ho,hc,n,hd⟩:=pl.isList
  exact call_list_seq p (.inl rfl) ho hc hd (λh' c' kp e=>fin its r' hz h' c' kp e) (by simp only[size_toArray]<;>omega)
 ·obtain ⟨its,r',pl,hz⟩:=I.tuple hq
  have hlen:=r'.length
  obtain ⟨o,ho,hc,n,hd⟩:=pl
  exact call_list_seq p (.inr rfl) ho hc hd (λh' c' kp e=>fin its r' hz h' c' kp e) (by simp only[size_toArray]<;>omega)
theorem yhd:yb7 X (.type "tuple") (λxs H Q=>∃p ys,xs=[.ref p]/\((SqL X.K H p ys/\∀l,H l=none->Q (.ref l) (upd H l (.tup ys)))\/(SqT X.K H p ys/\Q (.ref p) H))):=by
 intro pins s σ H xs us Q I r h
 obtain ⟨p,ys,rfl,h⟩:=h
 obtain ⟨u,rfl,rx⟩:=yhb r
 cases rx
 rcases h with ⟨hq,q⟩|⟨hq,q⟩
 ·obtain ⟨its,r',pl,hz⟩:=I.list hq
  have hlen:=r'.length
  refine call_tuple_list pl.isList (λh' kp=>?_) (by simp only[size_toArray]<;>omega)
  have I1:Inv X pins σ H { s with heap:=h' }:=I.kept (t':=s.toks) kp
  have I2:Inv X pins σ (upd H h'.objs.size (.tup ys)) { s with heap:=h'.push { cls:=.type "tuple",data:=.seq its.toArray } }:=
   I1.laid (t':=s.toks) (λb o e=>get?_push_of_some _ e) (le_refl _) (show qbf X.prog X.w _ _ _ (.tup ys) from ⟨hz,its,r',IsTup.new _ _⟩)
  exact ⟨.ref h'.objs.size,_,I2,rfl,q _ (I1.hok.fresh (le_refl _))⟩
 ·obtain ⟨its,r',pl,hz⟩:=I.tuple hq
  exact call_tuple_same pl ⟨.ref p,H,I,rfl,q⟩
def tyV(K:W.Frag)(T:String)(x:V)(H:Hp):Prop:=match x with
 |.str _=>T="str"
 |.int _=>T="int"
 |.ref p=>(T="list"/\∃xs,SqL K H p xs)\/(T="tuple"/\∃o,K.lookup p=some o/\o.cls=.type "tuple"/\o.dict=none)\/
   (T="dict"/\((∃kvs,H p=some (.dK kvs))\/∃kvs,H p=some (.dT kvs)))\/(T="set"/\∃S n,H p=some (.set S n))
 |_=>False
theorem tyV_is{pins:List (Addr×Obj)}{σ:St}{H:Hp}{s:Shared}{T:String}{x:V}{v:Value}(I:Inv X pins σ H s)(r:RelV x v)(ty:tyV X.K T x H) :
  s.TypeIs v T/\∀a,v=.ref a->∃ob,s.heap.get? a=some ob/\ob.dict=none:=by
 cases x with
 |str z=>
  obtain ⟨t,rfl⟩:=r
  cases (show T="str" from ty)
  exact ⟨typeIs_str s z t,λ_ e=>nomatch e⟩
 |int i=>
  obtain ⟨t,rfl⟩:=r
  cases (show T="int" from ty)
  exact ⟨typeIs_int s i t,λ_ e=>nomatch e⟩
 |ref p=>
  cases r
  rcases ty with ⟨rfl,xs,hq⟩|⟨rfl,o,hk,hc,hd⟩|⟨rfl,hk⟩|⟨rfl,S,n,hk⟩
  ·obtain ⟨its,_,pl,_⟩:=I.list hq
   refine ⟨pl.isList.typeIs,λa e=>?_⟩
   cases e
   obtain ⟨o,n,e,c,hd,_⟩:=pl
   exact ⟨o,e,hd⟩
  ·refine ⟨⟨o,I.kIn p o hk,hc⟩,λa e=>?_⟩
   cases e
   exact ⟨o,I.kIn _ o hk,hd⟩
  ·have z:∃o,s.heap.get? p=some o/\o.ExactDict:=by
    rcases hk with ⟨kvs,hk⟩|⟨kvs,hk⟩
    ·obtain ⟨_,_,_,_,o,_,_,e,ex,_⟩:=I.hok p _ hk
     exact ⟨o,e,ex⟩
    ·obtain ⟨_,_,_,_,o,_,_,e,ex,_⟩:=I.hok p _ hk
     exact ⟨o,e,ex⟩
   obtain ⟨o,e,ex⟩:=z
   refine ⟨⟨o,e,ex.1⟩,λa e2=>?_⟩
   cases e2
   exact ⟨o,e,ex.2.1⟩
  ·obtain ⟨o,_,_,_,e,ex,_⟩:=I.hok p _ hk
   refine ⟨⟨o,e,ex.1⟩,λa e2=>?_⟩
   cases e2
   exact ⟨o,e,ex.2.1⟩
 |_=>exact False.elim ty
def tBM(K:W.Frag)(T:String)(r:V->List V->Hp->VK->Prop)(to:TE)(t:TA):TE:=λσ H Q=>to σ H λx H1=>tyV K T x H1/\t σ H1 λxs H2=>r x xs H2 Q
variable {o e:Expr}{es:List Expr}{to:TE}{t:TA}{name:Str}{apos cpos:Pos}{T id:String}{r:V->List V->Hp->VK->Prop}
theorem ydf(pa:PlainAttrs T)(slot:Slot T name id)(hty:typeOf (.builtin id)=pure (.type "method_descriptor"))(hm:MtR X id r)(ho:PE X o to)(ha:PA X (e::es) t)
  (hbase:attributeBase o name X.env (eval o X.env)=eval o X.env:=by rfl)
  (hfew:((backTo cpos (starEach (e::es) X.env)).all (λx=>!x.1)&&(backToKw cpos (keywordEach [] X.env)).all (λx=>x.1.isSome)
   && decide ((e::es).length+([]:List Keyword).length+(if ([]:List Keyword).isEmpty then 0 else 1)<30))=true:=by rfl)
  (hline:(apos.endLine == cpos.line)=true:=by rfl) (hs:starEach (e::es) X.env=(false,eval e X.env)::starEach es X.env:=by rfl) (hplain:(backTo cpos (starEach es X.env)).any (·.1)=false:=by rfl) :
  PE X (.Call (.Attribute o name apos) (e::es) [] cpos) (tBM X.K T r to t):=by
 intro pins s σ H Q I h
 refine wpAny_Call_method_late hbase hfew hline rfl (thn (ho pins s σ H _ I h) λv s1 ⟨x,H1,I1,r1,ty,q1⟩=>?_)
 obtain ⟨h1,h2⟩:=tyV_is I1 r1 ty
 refine ⟨T,id,pa,slot,hty,h1,h2,?_⟩
 have hA:=ha cpos pins s1 σ H1 _ I1 q1
 rw[hs]at hA ⊢
 refine Calls.callWith_builtin (by show (false||(backTo cpos (starEach es X.env)).any (·.1))=false;rw[hplain]<;>rfl) (Calls.evalArgs_plain ?_)
 exact thn hA λus s2 ⟨vs,H2,I2,r2,q2⟩=>hm pins s2 σ H2 x vs v us Q I2 r1 r2 q2
end
def MtM(X:Cx)(id:String)(r:V->List V->Hp->VK->Prop):Prop:=
 ∀(pins:List (Addr×Obj)) (s:Shared) (σ:St) (H:Hp) (x:V) (xs:List V) (v:Value) (us:List Value) (Q:VK),Inv X pins σ H s->RelV x v->Vals xs us->r x xs H Q->
  wpAny (model X.prog X.w) X.A (call (.builtin id) (v::us)) (EP X pins σ Q) X.xe s
theorem Vals.one:∀{x:V}{us:List Value},Vals [x] us->∃u,us=[u]/\RelV x u
 |_,_,.cons r .nil=>⟨_,rfl,r⟩
theorem Vals.rep{xs:List V}{us:List Value}(h:Vals xs us):∀k:Nat,Vals (List.replicate k xs).flatten (List.replicate k us).flatten
 |0=>.nil
 |k+1=>by
  rw[replicate_succ,replicate_succ,flatten_cons,flatten_cons]
  exact Vals.append h (Vals.rep h k)
theorem qhy(its:List Value):∀(k:Nat) (acc:List Value),
  List.foldl (λx1 x2=>x1++x2) acc.toArray (List.replicate k its.toArray)=(acc++(List.replicate k its).flatten).toArray
 |0,acc=>by simp
 |k+1,acc=>by
  have e:acc.toArray++its.toArray=(acc++its).toArray:=by simp
  have e2:(acc++its)++(List.replicate k its).flatten=acc++(List.replicate (k+1) its).flatten:=by
   rw[replicate_succ,flatten_cons,List.append_assoc]
  rw[<-e2,<-qhy its k (acc++its),<-e,replicate_succ,List.foldl_cons]
section
variable {X:Cx}{pins:List (Addr×Obj)}{σ:St}{H:Hp}{s:Shared}{l b:Addr}{xs ys zs:List V}
theorem Inv.lset{its its':List Value}{n:Nat}{f:Array Value->Array Value}{t':Nat}(I:Inv X pins σ H s)(hH:H l=some (.lst xs))
  (e:s.heap.get? l=some { cls:=.type "list",data:=.seq its.toArray n }) (hf:f its.toArray=its'.toArray) (hv:Vals ys its') (hz:ys.length<=sizeLine) :
  Inv X pins σ (upd H l (.lst ys)) { s with heap:=s.heap.update l (Obj.mapSeq f),toks:=t' }:=by
 have q:=PySem.IsL.update e f
 rw[hf]at q
 refine I.write (x:=l) (e:=l) (by rw[hH];exact trivial) (.inl rfl) (λb' u hb hu=>(Heap.get?_update_other s.heap (Obj.mapSeq f) (Ne.symm hb)).trans hu) ⟨_,q⟩ ?_
 exact ⟨hz,its',_,hv,q⟩
theorem Inv.lnew{its:List Value}{t':Nat}(I:Inv X pins σ H s)(hv:Vals ys its)(hz:ys.length<=sizeLine) :
  Inv X pins σ (upd H s.heap.objs.size (.lst ys)) { s with heap:=s.heap.push { cls:=.type "list",data:=.seq its.toArray },toks:=t' }:=
 I.laid (λ_ _ q=>get?_push_of_some _ q) (le_refl _) ⟨hz,its,0,hv,get?_push_size _ rfl⟩
theorem Inv.fresh(I:Inv X pins σ H s):H s.heap.objs.size=none:=I.hok.fresh (le_refl _)
theorem Inv.lstM(I:Inv X pins σ H s)(hH:H l=some (.lst xs)):xs.length<=sizeLine/\∃(its:List Value) (n:Nat),Vals xs its/\xs.length=its.length/\s.heap.get? l=some { cls:=.type "list",data:=.seq its.toArray n }:=by
 obtain ⟨z,its,n,r,e⟩:=I.hok l _ hH
 exact ⟨z,its,n,r,r.length,e⟩
theorem qju{n:Nat}(h:n<=sizeLine):Builtin.List.listTooLong n=false:=by
 unfold Builtin.List.listTooLong
 exact decide_eq_false (by omega)
end
section
variable {X:Cx}
def rAppend:V->List V->Hp->VK->Prop:=λx vs H Q=>∃l xs y,x=.ref l/\vs=[y]/\H l=some (.lst xs)/\xs.length<sizeLine/\Q .non (upd H l (.lst (xs++[y])))
theorem qas:MtM X "list.append" rAppend:=by
 intro pins s σ H x vs v us Q I rx rv h
 obtain ⟨l,xs,y,rfl,rfl,hH,hz,q⟩:=h
 cases rx
 obtain ⟨u,rfl,ru⟩:=rv.one
 obtain ⟨z,its,n,r,hl,e⟩:=I.lstM hH
 refine call_meets F.slot_list_append ⟨_,e,rfl⟩ F.entry_list_append (F.args_list_append_2 _ _) (PySem.list_append l its.toArray n u (by rw[size_toArray];omega)) ⟨e,?_⟩
 refine ⟨.non,_,I.lset (its':=its++[u]) hH e (by simp) (r.append (.cons ru .nil)) ?_,rfl,q⟩
 rw[length_append,List.length_singleton]
 omega
def rExtend:V->List V->Hp->VK->Prop:=λx vs H Q=>∃l b xs zs,x=.ref l/\vs=[.ref b]/\H l=some (.lst xs)/\H b=some (.lst zs)/\xs.length+zs.length<=sizeLine/\Q .non (upd H l (.lst (xs++zs)))
theorem yd5:MtM X "list.extend" rExtend:=by
 intro pins s σ H x vs v us Q I rx rv h
 obtain ⟨l,b,xs,zs,rfl,rfl,hH,hB,hz,q⟩:=h
 cases rx
 obtain ⟨u,rfl,ru⟩:=rv.one
 cases ru
 obtain ⟨z,its,n,r,hl,e⟩:=I.lstM hH
 obtain ⟨z2,its2,n2,r2,hl2,e2⟩:=I.lstM hB
 have hsz:its.toArray.size+its2.toArray.size<=sizeLine:=by rw[size_toArray,size_toArray];omega
 have hlong:¬ (!its.toArray.isEmpty&&Builtin.List.listTooLong (its.toArray.size+its2.toArray.size))=true:=by
  rw[qju hsz,Bool.and_false]
  exact Bool.false_ne_true
 refine call_meets F.slot_list_extend ⟨_,e,rfl⟩ F.entry_list_extend (F.args_list_extend_2 _ _)
  (AutoSeq1.list_extend_list_list_0 l its.toArray n b its2.toArray n2 hlong (by rw[size_toArray];omega) (by omega)) ⟨e,e2,?_⟩
 refine ⟨.non,_,I.lset (its':=its++its2) hH e (by simp) (r.append r2) ?_,rfl,q⟩
 rw[length_append]
 omega
def rCat:R2:=λx y H Q=>∃l b xs zs,x=.ref l/\y=.ref b/\H l=some (.lst xs)/\H b=some (.lst zs)/\xs.length+zs.length<=sizeLine/\∀p,H p=none->Q (.ref p) (upd H p (.lst (xs++zs)))
theorem qdb:OpR X (binaryOp .Add) rCat:=by
 intro pins s σ H x y v u Q I rx ry h
 obtain ⟨l,b,xs,zs,rfl,rfl,hH,hB,hz,q⟩:=h
 cases rx
 cases ry
 obtain ⟨z,its,n,r,hl,e⟩:=I.lstM hH
 obtain ⟨z2,its2,n2,r2,hl2,e2⟩:=I.lstM hB
 refine PySem.P.add_list e e2 ?_ (by rw[size_toArray,size_toArray];omega)
 have ea:its.toArray++its2.toArray=(its++its2).toArray:=by simp
 rw[ea]
 exact ⟨.ref _,_,I.lnew (t':=s.toks) (r.append r2) (by rw[length_append];omega),rfl,q _ I.fresh⟩
def rRep:R2:=λx y H Q=>∃l k xs,x=.ref l/\y=.int k/\H l=some (.lst xs)/\-(2 ^ 63)<=k/\k<2 ^ 63/\xs.length*k.toNat<=sizeLine/\
 ∀p,H p=none->Q (.ref p) (upd H p (.lst (List.replicate k.toNat xs).flatten))
theorem len_rep{α:Type}(xs:List α)(k:Nat):(List.replicate k xs).flatten.length=k*xs.length:=by
 induction k with
 |zero=>simp
 |succ k ih=>rw[replicate_succ,flatten_cons,length_append,ih,Nat.succ_mul,Nat.add_comm]
theorem yia:OpR X (binaryOp .Mult) rRep:=by
 intro pins s σ H x y v u Q I rx ry h
 obtain ⟨l,k,xs,rfl,rfl,hH,h1,h2,hz,q⟩:=h
 cases rx
 obtain ⟨t,rfl⟩:=ry
 obtain ⟨z,its,n,r,hl,e⟩:=I.lstM hH
 have hlen:its.toArray.size*k.toNat<=sizeLine:=by rw[size_toArray,<-hl];exact hz
 have hcap:¬ its.toArray.size*k.toNat>(2 ^ 63-1) / 8:=by
  have:(sizeLine:Nat)<=(2 ^ 63-1) / 8:=by decide
  omega
 have hfit:¬ (!Builtin.List.listFitsIndex k)=true:=by
  rw[fitsIndex_both h1 h2]
  exact Bool.false_ne_true
 have hlong:¬ Builtin.List.listTooLong (its.toArray.size*k.toNat)=true:=by
  rw[qju hlen]
  exact Bool.false_ne_true
 have hnew:List.foldl (λx1 x2=>x1++x2) #[] (List.replicate (if its.toArray.isEmpty=true then 0 else k.toNat) its.toArray)=(List.replicate k.toNat its).flatten.toArray:=by
  have f0:∀m:Nat,List.foldl (λx1 x2=>x1++x2) #[] (List.replicate m its.toArray)=(List.replicate m its).flatten.toArray:=λm=>by
   have:=qhy its m []
   rw[List.nil_append]at this
   exact this
  rw[f0]
  cases its with
  |nil=>simp
  |cons a r'=>rw[if_neg (by simp)]
 refine wpAny_binaryOp_repeat_ref (T:="list") (U:="int") (by decide) ⟨_,e,rfl⟩ (λs'=>typeIs_int s' k t) noFill_list_mul F.fills_int_mul F.slot_int_rmul repeat_list F.slot_int_index.lookup
  (call_meets F.slot_int_rmul (typeIs_int s k t) F.entry_int_rmul (F.args_int_rmul_2 _ _) (int___rmul___int_list k t l its.toArray n)
   ⟨e,rfl,⟨_,e,rfl⟩,call_meets F.slot_list_mul ⟨_,e,rfl⟩ F.entry_list_mul (F.args_list_mul_2 _ _) (AutoListH.list___mul___list_int_3 l its.toArray n k t hfit hcap hlong) ⟨e,?_⟩⟩)
 rw[hnew]
 exact ⟨.ref _,_,I.lnew (t':=s.toks) (r.rep k.toNat) (by rw[len_rep,Nat.mul_comm];exact hz),rfl,q _ I.fresh⟩
end
end L2
namespace Att
open PySem PySem.W PySem.Calls PyProof.Rows
theorem qf2{P:Params}{h:Heap}:∀(ns:List Int) (vs:List Value),WellAll P h vs (ns.map WData.int)->IntsAre vs ns:=by
 intro ns
 induction ns with
 |nil=>
  intro vs w
  rw[map_nil]at w
  cases w
  exact .nil
 |cons n ns ih=>
  intro vs w
  rw[map_cons]at w
  cases w with
  |cons a b=>
   cases a
   exact .cons _ _ (ih _ b)
theorem yky{l:OpenLaw}{n:Nat}(hn:l.most=some n){P:Params}{h:Heap}{args:List WData}{vals:List Value}
  (hpre:l.row.toRowW.claim.pre args=true) (hwl:WellAll P h vals args) :
  ∃a vs ns,vals=[Value.ref a]/\args=[WData.list (ns.map WData.int)]/\h.get? a=some { cls:=.type "list",data:=.seq vs.toArray }/\IntsAre vs ns/\ns.length<=n:=by
 have hsh:WShape.hasAll [] args [.list .int]=true:=(pre_splitW hpre).1
 have hc:l.pre.holds [] { args:=args }=true:=(pre_splitW hpre).2
 obtain ⟨d,r,rfl,h1,h2⟩:=hasAllW_cons hsh
 obtain rfl:=hasAllW_nil h2
 obtain ⟨xs,rfl,h3⟩:=hasW_list h1
 obtain ⟨ns,rfl⟩:=items_int h3
 have hlen:ns.length<=n:=by
  unfold OpenLaw.pre at hc
  have h4:(WTm.not (.lt (.lit (.int (n:Int))) (.len (.arg 0)))).holds [] { args:=[.list (ns.map .int)] }=true:=by
   have h4:=(holds_andW hc).1
   rw[hn]at h4
   exact h4
  have h5:=condW_of h4 (w_not (w_lt w_lit (w_len_list (w_arg rfl))))
  rw[length_map]at h5
  refine le_of_not_lt λq=>?_
  have q':(n:Int)<((ns.length:Nat):Int):=by omega
  first
   | (rw[decide_eq_true q']at h5;exact absurd h5 (by decide))
   | (simp at h5;omega)
 cases hwl with
 |cons w1 w2=>
  cases w2
  cases w1 with
  |list ho hall=>exact ⟨_,_,ns,rfl,rfl,ho,qf2 ns _ hall,hlen⟩
theorem yl0(l:OpenLaw)(args:List WData):l.row.toRowW.claim.post args (.bool true) args=true:=
 postW_of (r:=l.row.toRowW) (X:=(true == true))
  (show WShape.has [] (.bool true) .bool=true by first|rfl|decide|simp[WShape.has,WShape.arms,WShape.armsAll])
  (show (WTm.eq .res (.lit (.bool true))).value [] { args:=args,res:=some (.bool true),after:=args }=some (.bool (true == true)) from w_eq_bool (w_res rfl) w_lit) rfl
theorem attach_call{l:OpenLaw}{n:Nat}{q:Program}{loose:List Str}{XP:(Str->Option Value)->Heap->Prop}{YP:World->Heap->Prop}{d:DefRec}
  (hn:l.most=some n) (hdf:d.params.defaults=[])
  (call:∀(w:World) (s₀ s₁:Shared) (mg mb:Str->Option Value) (fa:Addr) (o:Obj) (pm cd doc:Value) (a:Addr) (vs:List Value) (ns:List Int),
   Ground q loose [] XP w s₀ mg mb s₁.heap->YP w s₁.heap->
   s₁.heap.get? fa=some o->o.data=.func (docDef d.name d.params d.body d.scope pm cd doc)->s₁.heap.CodeRec cd d.name->mg d.name=some (.ref fa)->
   s₁.heap.get? a=some { cls:=.type "list",data:=.seq vs.toArray }->IntsAre vs ns->ns.length<=n->s₁.gens=#[]->
   codeAny (model l.prog w) callerA (.call (.ref fa) ⟨[.ref a],[]⟩) (λr s'=>r=.ok (.ret (.bool true))/\OldK s₁.heap s'.heap/\s'.os=s₁.os/\AllBare s'.gens) s₁) :
  WalkO q loose XP YP l.row.toRowW d [] (λf vs=>PySem.call f vs):=by
 intro w s₀ s₁ mg mb G Y fa o pm cd doc dV kV ho hd hcd hD hmg hg args vals as hpre hlay hrd hwl hlo
 obtain rfl:dV=.none:=Dflts.none hD hdf
 obtain rfl:kV=.none:=Dflts.noKw hD
 obtain ⟨a,vs,ns,rfl,rfl,hobj,hints,hlen⟩:=yky hn hpre hwl
 refine enter_call (codeAny_mono (call w s₀ s₁ mg mb fa o pm cd doc a vs ns G Y ho (fd_plain hd) hcd hmg hobj hints hlen hg) λr s' hq=>?_)
 obtain ⟨rfl,h2,h3,h4⟩:=hq
 exact ⟨.inl ⟨.bool true,.bool true,[],rfl,λ_=>rfl,.bool true,yl0 l _,λ_=>⟨List.Pairwise.nil,λ_ hm=>(nomatch hm)⟩⟩,h2,h3,h4⟩
end Att
namespace L2
open PySem PySem.Spec PyProof.Rows
theorem yh4:∀{vs:List Value}{ns:List Int},IntsAre vs ns->Vals (ns.map V.int) vs
 |_,_,.nil=>.nil
 |_,_,.cons n t h=>.cons ⟨t,rfl⟩ (yh4 h)
def Only(H:Hp):Prop:=∀b,H b=none\/∃o xs,H b=some (.frz o (.lst xs))
theorem law_call{P:Program}{w:World}{K:W.Frag}{mg mb:Str->Option Value}{CX:CXT}{k:Nat}{fa a:Addr}{fd:FuncData}{x:Str}{sp:Sp}{s₁:Shared}{vs:List Value}{ns:List Int}
  (KX:K.In s₁.heap) (hns:s₁.heap.Ns mainGlobals mg) (hb:s₁.heap.Ns builtinsNs mb) (hbb:∀x:Str,x≠"__name__"->mb x=bootBuiltins x) (hlim:s₁.heap.NoLimit) (hg:s₁.gens=#[])
  (ha:s₁.heap.get? a=some { cls:=.type "list",data:=.seq vs.toArray }) (hi:IntsAre vs ns) (hl:ns.length<=sizeLine) (hr:Room k callerA)
  (F:∀base:Heap,K.In base->base.Ns mainGlobals mg->FnOk P w K mg base CX k fa fd [x] sp) (hbind:∀(s:Shared) (u:Value),BindsTo s fd ⟨[u],[]⟩ [(x,u)])
  (hsp:∀H:Hp,Only H->SqL K H a (ns.map V.int)->sp [.ref a] H (λv _=>v=.bl true) λ_ _ _=>False)
  (hCX:∀H e s',CX [] H s₁ (λ_ _ _=>False) e s'->False) :
  codeAny (model P w) callerA (.call (.ref fa) ⟨[.ref a],[]⟩) (λr s'=>r=.ok (.ret (.bool true))/\OldK s₁.heap s'.heap/\s'.os=s₁.os/\AllBare s'.gens) s₁:=by
 have rv:=yh4 hi
 have lenV:=hi.length
 -- from an abstract heap in which nothing but the script may be tracked
 have core:∀H:Hp,Only H->SqL K H a (ns.map V.int)->HOk P w H s₁.heap->(∀b,H b≠none->b=a)->(H a≠none->K.lookup a=none)->
   codeAny (model P w) callerA (.call (.ref fa) ⟨[.ref a],[]⟩) (λr s'=>r=.ok (.ret (.bool true))/\OldK s₁.heap s'.heap/\s'.os=s₁.os/\AllBare s'.gens) s₁:=by
  intro H hO hS hok hA hK
  have base_of:∀{b:Addr}{o:Obj},s₁.heap.get? b=some o->H b=none->(hidT s₁.heap H).get? b=some o:=λe n=>hidT_get e n
  have noA:∀{b:Addr}{o:Obj}{es:Array DictEntry}{ep:Nat},s₁.heap.get? b=some o->o.data=.dict es ep->H b=none:=λ{b o es ep} e d=>by
   cases q:H b with
   |none=>rfl
   |some u=>
    have e':b=a:=hA b (by rw[q];simp)
    subst e'
    rw[ha]at e;cases e
    have d':Data.seq vs.toArray _=Data.dict es ep:=d
    cases d'
  have nsK:∀{b:Addr}{m:Str->Option Value},s₁.heap.Ns b m->(hidT s₁.heap H).Ns b m:=λ{b m} ⟨o,es,ep,e,d,r⟩=>⟨o,es,ep,base_of e (noA e d),d,r⟩
  have hKb:K.In (hidT s₁.heap H):=λb o e=>base_of (KX b o e) (by
   cases q:H b with
   |none=>rfl
   |some u=>
    have e':b=a:=hA b (by rw[q];simp)
    subst e'
    rw[hK (by rw[q];simp)]at e;cases e)
  have hM:Mod K mg (hidT s₁.heap H):=⟨hKb,nsK hns,⟨mb,nsK hb,hbb⟩,let ⟨mc,h1,h2⟩:=hlim;⟨mc,nsK h1,h2⟩⟩
  have e0:Env0 P w K mg (hidT s₁.heap H) callerA [] s₁ H:=⟨rfl,hM,λb o e=>of_hidT e,Nat.le_of_eq (yks _ _),trivial,λb hb=>absurd (show b∈([]:List Addr) from hb) (by simp),hok,.of_eq hg⟩
  refine codeAny_mono ((F _ hKb (nsK hns)).run callerA [] s₁ H ⟨[.ref a],[]⟩ [.ref a] [.ref a] _ _ hr e0 (hbind s₁ (.ref a)) (.cons rfl .nil) (hsp H hO hS)) λr s' h=>?_
  cases r with
  |error e=>exact (hCX H e s' h).elim
  |ok fl=>
   cases fl with
   |next=>exact False.elim h
   |brk=>exact False.elim h
   |cont=>exact False.elim h
   |ret u=>
    obtain ⟨v,H',os,bare,un,hok',r',q⟩:=h
    have q':v=.bl true:=q
    subst q'
    obtain rfl:u=Value.bool true:=r'
    refine ⟨rfl,OldK.of_keep λb o e=>?_,os,bare⟩
    cases q:H b with
    |none=>exact un.keep b o e q (by intro z;exact absurd (show b∈([]:List Addr) from z) (by simp)) (by simp)
    |some u=>
     rcases hO b with z|⟨ob,xs,z⟩
     ·rw[q]at z;cases z
     ·have z2:=un.frzs b ob _ z
      obtain ⟨e1,_⟩:=hok b _ z
      obtain ⟨e2,_⟩:=hok' b _ z2
      rw[e]at e1;cases e1
      exact e2
 cases hk:K.lookup a with
 |some o=>
  -- the script is one of the module's own objects
  have e:=KX a o hk
  rw[ha]at e
  cases e
  refine core (λ_=>none) (λ_=>.inl rfl) (.inr ⟨_,vs.toArray,_,hk,rfl,rfl,rfl,by rw[size_toArray,lenV];exact hl,by simpa using rv⟩) (λb u z=>by have z':(none:Option HO)=some u:=z;cases z') (λb z=>absurd rfl z) λz=>absurd rfl z
 |none=>
  refine core (λb=>if b=a then some (.frz { cls:=.type "list",data:=.seq vs.toArray } (.lst (ns.map V.int))) else none) (λb=>?_) (.inl (.inr ⟨{ cls:=.type "list",data:=.seq vs.toArray },if_pos rfl⟩)) (λb u z=>?_) (λb z=>?_) λ_=>hk
  ·by_cases hb:b=a
   ·exact .inr ⟨_,_,if_pos hb⟩
   ·exact .inl (if_neg hb)
  ·by_cases hb:b=a
   ·have z':=(if_pos hb).symm.trans z
    cases z'
    subst hb
    exact ⟨ha,by rw[length_map];exact hl,vs,_,rv,ha⟩
   ·have z':=(if_neg hb).symm.trans z
    cases z'
  ·by_cases hb:b=a
   ·exact hb
   ·exact absurd (if_neg hb) z
theorem walk_of{l:W.OpenLaw}{n k:Nat}{q:Program}{loose:List Str}{XP:(Str->Option Value)->Heap->Prop}{YP:World->Heap->Prop}{d:DefRec}{K:Params->W.Frag}{CX:World->CXT}{sp:World->Sp}{x:Str}
  (hn:l.most=some n) (hn2:n<=sizeLine) (hdf:d.params.defaults=[]) (hr:Room k callerA)
  (hY:∀(w:World) (h:Heap),YP w h->(K w.params).In h)
  (F:∀(w:World) (mg:Str->Option Value) (fa:Addr) (h:Heap),(K w.params).In h->h.Ns mainGlobals mg->mg d.name=some (.ref fa)->
   ∃fd:FuncData,(∀(s:Shared) (u:Value),BindsTo s fd ⟨[u],[]⟩ [(x,u)])/\
    ∀base:Heap,(K w.params).In base->base.Ns mainGlobals mg->FnOk l.prog w (K w.params) mg base (CX w) k fa fd [x] (sp w))
  (hsp:∀(w:World) (H:Hp) (a:Addr) (ns:List Int),ns.length<=n->Only H->SqL (K w.params) H a (ns.map V.int)->sp w [.ref a] H (λv _=>v=.bl true) λ_ _ _=>False)
  (hCX:∀(w:World) (H:Hp) (s:Shared) (e:Value) (s':Shared),CX w [] H s (λ_ _ _=>False) e s'->False) :
  W.WalkO q loose XP YP l.row.toRowW d [] (λf vs=>PySem.call f vs):=by
 refine Att.attach_call hn hdf λw s₀ s₁ mg mb fa o pm cd doc a vs ns G Y ho hd hcd hmg hobj hints hlen hg=>?_
 have KX:=hY w _ Y
 obtain ⟨fd,hb,hF⟩:=F w mg fa _ KX G.T.g hmg
 exact law_call KX G.T.g G.T.b G.T.builtins G.T.nolimit hg hobj hints (le_trans hlen hn2) hr hF hb (λH hO hS=>hsp w H a ns hlen hO hS) λH e s'=>hCX w H s₁ e s'
def qf1(s:Stmt)(j:Nat):Stmt:=match s with
 |.ClassDef _ _ _ body _ _ _ _ _ _ _=>body.getD j (.Pass ⟨0,0,0,0⟩)
 |_=>.Pass ⟨0,0,0,0⟩
def ya2(s:Stmt):Arguments:=match s with
 |.FunctionDef _ a _ _ _ _ _ _ _ _=>a
 |_=>{ posonlyargs:=[],args:=[],vararg:=none,kwonlyargs:=[],kw_defaults:=[],kwarg:=none,defaults:=[] }
def yat(s:Stmt):List Stmt:=match s with
 |.FunctionDef _ _ b _ _ _ _ _ _ _=>b
 |_=>[]
def qac(s:Stmt):Scope:=match s with
 |.FunctionDef _ _ _ _ _ _ sc _ _ _=>sc
 |_=>{ kind:=.function,names:=[],isGenerator:=false,isCoroutine:=false }
abbrev CX0:CXT:=λ_ _ _ _ _ _=>False
abbrev E0:XK:=λ_ _ _=>False
theorem pass0{X:Cx}:yfx CX0 X E0:=λ_ _ _ _ _ _ _ h=>h.elim
structure Fun(K:W.Frag)(x qual:Str)(st:Stmt)(f:Addr)(fd:FuncData):Prop where
 ex:∃(oc:Value) (od:Option Addr) (kV doc pm:Value) (an:Option Addr) (cdv ct:Value) (osl:Array (Option Value)),
  fd=W.fnOf x qual (ya2 st) (yat st) (qac st) .none kV doc pm an cdv ct/\K.lookup f=some ⟨oc,od,.func fd,osl⟩/\W.codeIn K cdv qual=true
 kp:W.keepIn K (.ref f)=true
section
variable {P:Program}{w:World}{K:W.Frag}{mg:Str->Option Value}{base:Heap}
theorem Fun.ok{x qual:Str}{st:Stmt}{f:Addr}{fd:FuncData}{N ps:List Str}{k:Nat}{sp:Sp}(F:Fun K x qual st f fd)(S:FnScope N ps (qac st))(len:∀vs H Q E,sp vs H Q E->vs.length=ps.length)
  (hbody:∀(cdv:Value) (A:Around) (outer:List Env) (s:Shared) (H:Hp) (vs:List V) (Q:VK) (E:XK),Room k (A.deeper (envOfC qual (qac st) s.heap.objs.size f cdv))->sp vs H Q E->
   ∃t,PSs (cxOf CX0 P w K mg base N qual (qac st) f cdv A outer s H E).nox (yat st) t/\t { nx:=λ_ H'=>Q .non H',rt:=Q } (qe7 N vs) H):FnOk P w K mg base CX0 (k+1) f fd ps sp:=by
 obtain ⟨oc,od,kV,doc,pm,an,cdv,ct,osl,rfl,lk,hcd⟩:=F.ex
 refine fn_of lk hcd S len λA outer s H vs Q E hr hsp=>?_
 obtain ⟨t,h,q⟩:=hbody cdv A outer s H vs Q E hr hsp
 exact ⟨t,h.nox,q⟩
theorem Fun.binds{x qual:Str}{st:Stmt}{f:Addr}{fd:FuncData}{ps:List Str}(F:Fun K x qual st f fd)
  (h:∀(kV doc pm:Value) (an:Option Addr) (cdv ct:Value) (us:List Value),us.length=ps.length->bindArgs (W.fnOf x qual (ya2 st) (yat st) (qac st) .none kV doc pm an cdv ct) ⟨us,[]⟩=pure (ps.zip us)):qeb K fd ps []:=by
 obtain ⟨oc,od,kV,doc,pm,an,cdv,ct,osl,rfl,lk,hcd⟩:=F.ex
 exact .all (h kV doc pm an cdv ct)
theorem qcu{x qual:Str}{st:Stmt}{f:Addr}{oc:Value}{od an:Option Addr}{osl:Array (Option Value)}{kV doc pm cdv ct:Value}(l:K.lookup f=some ⟨oc,od,.func (W.fnOf x qual (ya2 st) (yat st) (qac st) .none kV doc pm an cdv ct),osl⟩)
  (c:W.codeIn K cdv qual=true) (k:W.keepIn K (.ref f)=true):Fun K x qual st f (W.fnOf x qual (ya2 st) (yat st) (qac st) .none kV doc pm an cdv ct):=⟨⟨oc,od,kV,doc,pm,an,cdv,ct,osl,rfl,l,c⟩,k⟩
end
theorem hu_of{A:Around}{k:Nat}(hr:Room k A):A.units+1<cLine:=Nat.lt_of_le_of_lt (Nat.add_le_add_left (by decide:1<=64) _) hr.units
section
variable {X:Cx}
theorem pv(i:Nat){x:Str}{pos:Pos}(hN:X.N[i]?=some x:=by rfl)(hv:Vis X.env.scope x:=by first|exact Or.inl rfl|exact Or.inr (Or.inl rfl)|exact Or.inr (Or.inr rfl))(hd:(x == ("__debug__" : Str))=false:=by decide)
  (hcd:(x == ("__classdict__" : Str))=false:=by decide):PE X (.Name x pos) (tVar i):=pe_var hN hv hd hcd
end
theorem iteF{A B:Prop}(h:B):if false=true then A else B:=by
 rw[if_neg Bool.false_ne_true]
 exact h
theorem iteT{A B:Prop}(h:A):if true=true then A else B:=by
 rw[if_pos rfl]
 exact h
def Same(H H':Hp):Prop:=∀b o,H b=some o->H' b=some o
theorem smR(H:Hp):Same H H:=λ_ _ h=>h
theorem Same.trans{H H1 H2:Hp}(a:Same H H1)(b:Same H1 H2):Same H H2:=λc o h=>b c o (a c o h)
theorem Same.free{H H':Hp}(e:Same H H'){l:Addr}(h:H' l=Option.none):H l=Option.none:=by
 cases q:H l with
 |none=>rfl
 |some o=>
  rw[e l o q]at h
  cases h
theorem Same.seq{K:W.Frag}{H H':Hp}{a:Addr}{xs:List V}(e:Same H H')(h:SqL K H a xs):SqL K H' a xs:=by
 rcases h with (h|⟨o,h⟩)|h
 ·exact .inl (.inl (e _ _ h))
 ·exact .inl (.inr ⟨o,e _ _ h⟩)
 ·exact .inr h
mutual
inductive At(H:Hp):V->PyData->Prop
 |non:At H .non .none
 |bl (b:Bool):At H (.bl b) (.bool b)
 |int (i:Int):At H (.int i) (.int i)
 |str (x:Str):At H (.str x) (.str x)
 |lst {a:Addr}{vs:List V}{ds:List PyData}:H a=some (.lst vs)->AtAll H vs ds->At H (.ref a) (.list ds)
 |tup {a:Addr}{vs:List V}{ds:List PyData}:H a=some (.tup vs)->AtAll H vs ds->At H (.ref a) (.tuple ds)
inductive AtAll(H:Hp):List V->List PyData->Prop
 |nil:AtAll H [] []
 |cons {v:V}{d:PyData}{vs:List V}{ds:List PyData}:At H v d->AtAll H vs ds->AtAll H (v::vs) (d::ds)
end
mutual
theorem At.same{H H':Hp}(s:Same H H'):∀{v:V}{d:PyData},At H v d->At H' v d
 |_,_,.non=>.non
 |_,_,.bl b=>.bl b
 |_,_,.int i=>.int i
 |_,_,.str x=>.str x
 |_,_,.lst e t=>.lst (s _ _ e) (AtAll.same s t)
 |_,_,.tup e t=>.tup (s _ _ e) (AtAll.same s t)
theorem AtAll.same{H H':Hp}(s:Same H H'):∀{vs:List V}{ds:List PyData},AtAll H vs ds->AtAll H' vs ds
 |_,_,.nil=>.nil
 |_,_,.cons a b=>.cons (At.same s a) (AtAll.same s b)
end
theorem AtAll.length{H:Hp}:∀{vs:List V}{ds:List PyData},AtAll H vs ds->vs.length=ds.length
 |_,_,.nil=>rfl
 |_,_,.cons _ b=>congrArg (· + 1) b.length
theorem AtAll.get{H:Hp}:∀{vs:List V}{ds:List PyData}{i:Nat}{v:V},AtAll H vs ds->vs[i]?=some v->∃d,ds[i]?=some d/\At H v d
 |_,_,i,_,.nil,h=>by simp at h
 |_,_,0,_,.cons a _,h=>by simp at h;subst h;exact ⟨_,rfl,a⟩
 |_,_,i+1,v,.cons _ b,h=>by
  obtain ⟨d,h1,h2⟩:=AtAll.get (i:=i) (v:=v) b (by simpa using h)
  exact ⟨d,by simpa using h1,h2⟩
theorem AtAll.append{H:Hp}:∀{vs ws:List V}{ds es:List PyData},AtAll H vs ds->AtAll H ws es->AtAll H (vs++ws) (ds++es)
 |_,_,_,_,.nil,h=>h
 |_,_,_,_,.cons a b,h=>.cons a (b.append h)
theorem AtAll.snoc{H:Hp}{vs:List V}{ds:List PyData}{v:V}{d:PyData}(h:AtAll H vs ds)(a:At H v d):AtAll H (vs++[v]) (ds++[d]):=h.append (.cons a .nil)
mutual
theorem At.reads{P:Program}{w:World}{H:Hp}{h:Heap}(ok:HOk P w H h):∀{v:V}{d:PyData}{u:Value},At H v d->RelV v u->∃as,Reads h u d as
 |_,_,_,.non,r=>by cases r;exact ⟨_,.none⟩
 |_,_,_,.bl b,r=>by cases r;exact ⟨_,.bool b⟩
 |_,_,_,.int i,r=>by obtain ⟨t,rfl⟩:=r;exact ⟨_,.int i t⟩
 |_,_,_,.str x,r=>by obtain ⟨t,rfl⟩:=r;exact ⟨_,.str x t⟩
 |_,_,_,.lst e t,r=>by
  cases r
  obtain ⟨z,its,n,rv,ho⟩:=ok _ _ e
  obtain ⟨as,q⟩:=AtAll.reads ok t rv
  exact ⟨_,.list ho rfl rfl (by simpa using q)⟩
 |_,_,_,.tup e t,r=>by
  cases r
  obtain ⟨z,its,rv,o,ho,hc,n,hd⟩:=ok _ _ e
  obtain ⟨as,q⟩:=AtAll.reads ok t rv
  exact ⟨_,.tuple ho hc hd (by simpa using q)⟩
theorem AtAll.reads{P:Program}{w:World}{H:Hp}{h:Heap}(ok:HOk P w H h):∀{vs:List V}{ds:List PyData}{us:List Value},AtAll H vs ds->Vals vs us->∃as,ReadsAll h us ds as
 |_,_,_,.nil,.nil=>⟨_,.nil⟩
 |_,_,_,.cons a b,.cons r s=>by
  obtain ⟨as,q⟩:=At.reads ok a r
  obtain ⟨bs,q2⟩:=AtAll.reads ok b s
  exact ⟨_,.cons q q2⟩
end
mutual
theorem At.noDict{H:Hp}:∀{v:V}{d:PyData},At H v d->d.hasDict=false
 |_,_,.non=>by simp[PyData.hasDict]
 |_,_,.bl b=>by simp[PyData.hasDict]
 |_,_,.int i=>by simp[PyData.hasDict]
 |_,_,.str x=>by simp[PyData.hasDict]
 |_,_,.lst e t=>by simp only[PyData.hasDict];exact AtAll.noDict t
 |_,_,.tup e t=>by simp only[PyData.hasDict];exact AtAll.noDict t
theorem AtAll.noDict{H:Hp}:∀{vs:List V}{ds:List PyData},AtAll H vs ds->PyData.hasDictAll ds=false
 |_,_,.nil=>by simp[PyData.hasDictAll]
 |_,_,.cons a b=>by simp only[PyData.hasDictAll,At.noDict a,AtAll.noDict b,Bool.or_self]
end
section
variable {X:Cx}
def rRepr:List V->Hp->VK->Prop:=λxs H Q=>∃x d,xs=[x]/\At H x d/\d.showable=true/\d.depth<=60/\d.shown.length<=sizeLine/\Q (.str d.shown) H
theorem qh2{k:Nat}(hr:Room k X.A):yb7 X (.builtin "repr") rRepr:=by
 intro pins s σ H xs us Q I r h
 obtain ⟨x,d,rfl,ha,hs,hd,hz,q⟩:=h
 cases r with
 |cons r rr=>
  cases rr
  cases ha with
  |non=>cases r;rw[PyData.shown_none]at q;exact PySem.P.repr_of_none ⟨.str _,H,I.tok _,⟨_,rfl⟩,q⟩
  |bl b=>cases r;rw[PyData.shown_bool]at q;exact PySem.P.repr_of_bool ⟨.str _,H,I.tok _,⟨_,rfl⟩,q⟩
  |int i=>
   obtain ⟨t,rfl⟩:=r
   rw[PyData.shown_int]at q
   simp only[PyData.showable,decide_eq_true_eq]at hs
   exact PySem.P.repr_of_int hs ⟨.str _,H,I.tok _,⟨_,rfl⟩,q⟩
  |str x=>
   obtain ⟨t,rfl⟩:=r
   rw[PyData.shown_str]at q hz
   exact PySem.P.repr_of_str ⟨.str _,H,I.tok _,⟨_,rfl⟩,q⟩ hz
  |lst e t=>
   cases r
   have hA:=At.lst e t
   obtain ⟨as,rd⟩:=hA.reads I.hok (u:=.ref _) rfl
   have hu:=hr.units
   refine repr_of_reads' rd hs (PyData.noDict_hsm hA.noDict) hr.gd (by omega) (λ_ _ z=>z) (λh' u tk hk=>?_) hz
   exact ⟨.str _,H,I.kept hk,⟨_,rfl⟩,q⟩
  |tup e t=>
   cases r
   have hA:=At.tup e t
   obtain ⟨as,rd⟩:=hA.reads I.hok (u:=.ref _) rfl
   have hu:=hr.units
   refine repr_of_reads' rd hs (PyData.noDict_hsm hA.noDict) hr.gd (by omega) (λ_ _ z=>z) (λh' u tk hk=>?_) hz
   exact ⟨.str _,H,I.kept hk,⟨_,rfl⟩,q⟩
end
section
variable {X:Cx}{pins:List (Addr×Obj)}{σ:St}{H:Hp}{s:Shared}{h':Heap}
theorem Inv.turnedL{ch:List Addr}{a:Addr}{o:HO}{t':Nat}(I:Inv X pins σ H s)(k:∀b u,b∉ch->s.heap.get? b=some u->h'.get? b=some u)(hf:∀b∈ch,FpOk X pins H b)
  (hp:s.heap.objs.size<=a) (new:qbf X.prog X.w (upd H a o) h' a o):Inv X pins σ (upd H a o) { s with heap:=h',toks:=t' }:=by
 have hn:H a=none:=I.hok.fresh hp
 have nit:∀b u,H b=some u->b∉ch:=λb u e z=>by rw[(hf b z).1]at e;cases e
 refine I.step (g':=s.gens) (d':=s.drawn) (ch:=ch) (λb hb=>?_) (λb u _ _ hc e _=>k b u hc e) (λb u _ _ hc e _=>⟨u.slots,k b u hc e⟩) (λb u _ e n=>?_)
  (λb u hc e=>⟨u,k b u hc e⟩) (λb xs e=>?_) (λb u xs e=>?_) (λb ps e=>⟨#[],?_⟩) (λm hm=>?_) (λb u e=>?_) I.bare
 ·obtain ⟨_,f1,_,f3,f4,f5⟩:=hf b hb
  exact ⟨f3,f1,f4,f5⟩
 ·rw[qah (ne_of_lt (lt_of_lt_of_le (lt_size e) hp))];exact n
 ·rw[qah (yad e hn)];exact e
 ·rw[qah (yad e hn)];exact e
 ·rw[qah (yad e hn),e];simp
 ·obtain ⟨ob,es,ep,ho,r⟩:=hm
  exact ⟨ob,es,ep,k _ ob (λz=>(hf _ z).2.1 rfl) ho,r⟩
 ·by_cases hb:b=a
  ·subst hb;rw[qaa]at e;cases e;exact new
  ·rw[qah hb]at e
   refine (I.hok b u e).stay (λc v hc q=>k c v ?_ q) (λc q=>by rw[qah (yad q hn)];exact q) λc xs q=>by rw[qah (yad q hn)];exact q
   rcases hc with rfl|hc
   ·exact nit _ u e
   ·exact nit c _ hc
end
def Ite(K:W.Frag)(a:Addr):It:=
 ⟨λi H=>∃xs x,SqL K H a xs/\xs[i]?=some x,λi H x H'=>∃p y,H p=none/\x=.ref p/\H'=upd H p (.tup [.int i,y])/\∀xs,SqL K H a xs->xs[i]?=some y,λi H=>∃xs,SqL K H a xs/\xs.length<=i⟩
theorem ykz{P:Program}{w:World}{K:W.Frag}{es:List Expr}{k:Nat}{tp:Pos}(a e it:Addr)(hne:e≠it) :
  Turn P w K (.Tuple es k tp) (Ite K a) [e,it] e (λi h=>(∃old,IsEnum h e it i old)/\h.IsListIter it a i) where
 mem:=by simp
 obj:=λi h st b hb=>by
  obtain ⟨⟨old,he⟩,o,ho,hc,hd⟩:=st
  have hb':b=e\/b=it:=by simpa using hb
  rcases hb' with rfl|rfl
  ·exact ⟨_,he,λv z=>by
    have z':Data.fields _=Data.cell v:=z
    cases z'⟩
  ·exact ⟨o,ho,λv z=>by rw[hd]at z;cases z⟩
 keep:=λi h h' st kk=>⟨st.1.imp λ_ z=>kk e (by simp) _ z,st.2.at λo z=>kk it (by simp) o z⟩
 item:=by
  intro X hP hw hK hc i pins s σ H E I hf st hg
  subst hP hw hK
  obtain ⟨xs,x,hq,hx⟩:=hg
  obtain ⟨its,rv,p,hz⟩:=I.list hq
  obtain ⟨u,hu,ru⟩:=rv.get hx
  obtain ⟨⟨old,he⟩,hit⟩:=st
  refine wpAny_pyNext_enum_item he hit p.isList (x:=u) (by simpa using hu) hne λh' ho hit' hT hsz hk=>?_
  have hel:e<s.heap.objs.size:=lt_size he
  have hil:it<s.heap.objs.size:=by obtain ⟨_,z,_⟩:=hit;exact lt_size z
  refine ⟨_,rfl,wpAny_letOwnedTupleGo_enum ho λh2 he2 hs2=>?_⟩
  have keep2:∀b ob,b∉[e,it]->s.heap.get? b=some ob->h2.get? b=some ob:=λb ob hb z=>by
   have h1:b≠e:=λq=>hb (by simp[q])
   have h3:b≠it:=λq=>hb (by simp[q])
   exact (hs2.2 b h1).trans (hk b ob h1 h3 z)
  have hT2:h2.get? s.heap.objs.size=some { cls:=.type "tuple",data:=.seq #[.int i s.toks,u] }:=(hs2.2 _ (ne_of_gt hel)).trans hT
  have fresh:H s.heap.objs.size=none:=I.hok.fresh (le_refl _)
  have new:qbf X.prog X.w (upd H s.heap.objs.size (.tup [.int i,x])) h2 s.heap.objs.size (.tup [.int i,x]):=
   ⟨by show 2<=sizeLine;decide,[.int i s.toks,u],.cons ⟨_,rfl⟩ (.cons ru .nil),⟨_,hT2,rfl,_,rfl⟩⟩
  refine ⟨.ref s.heap.objs.size,upd H s.heap.objs.size (.tup [.int i,x]),I.turnedL keep2 hf (le_refl _) new,rfl,⟨_,x,fresh,rfl,rfl,λys hy=>by rw[I.list_inj hy hq];exact hx⟩,⟨⟨_,by simpa using he2⟩,hit'.at λo z=>(hs2.2 it hne.symm).trans z⟩,λb hb=>?_⟩
  rw[qah]
  ·exact (hf b hb).1
  ·have hb':b=e\/b=it:=by simpa using hb
   rcases hb' with rfl|rfl
   ·exact ne_of_lt hel
   ·exact ne_of_lt hil
 done:=by
  intro X hP hw hK hc i pins s σ H E I hf st hg
  subst hP hw hK
  obtain ⟨xs,hq,hx⟩:=hg
  obtain ⟨its,rv,p,hz⟩:=I.list hq
  obtain ⟨⟨old,he⟩,hit⟩:=st
  have hl:=rv.length
  obtain ⟨f0,f1,f2,f3,f4,f5⟩:=hf it (by simp)
  exact wpAny_pyNext_enum_end (I.ok.hd hc) he hit p.isList (by simp;omega) λh' eb=>⟨rfl,I.turned (t':=s.toks) (λb o hb z=>eb b o hb z) f0 f1 f3 f4 f5⟩
 self:=λ_ _ _ _ _ st h=>wpAny_pyIter_enum st.1.choose_spec h
def iEnum(K:W.Frag)(ta:TA):TI:=λσ H R=>ta σ H λvs H1=>∃a xs,vs=[.ref a]/\SqL K H1 a xs/\R (Ite K a) H1
section
variable {X:Cx}
theorem qfl{a:Expr}{ta:TA}{p pos tp:Pos}{es:List Expr}{k:Nat}(hg:Gl X "enumerate")(hm:X.mg "enumerate"=none)(ha:PA X [a] ta)(hs:starEach [a] X.env=[(false,eval a X.env)]:=by rfl) :
  PI X (.Tuple es k tp) (.Call (.Name "enumerate" p) [a] [] pos) (iEnum X.K ta):=by
 intro pins s σ H R I h
 refine Call_ (qc6 I hg hm boot_enumerate (PyProof.Rows.callWith_type1 (thn (ha pos pins s σ H _ I h) λus s1 ⟨vs,H1,I1,r1,q1⟩=>?_) hs rfl))
 obtain ⟨l,xs,e,hq,q⟩:=q1
 subst e
 cases r1 with
 |cons r rr=>
  cases rr
  cases r
  obtain ⟨its,rv,pl,hz⟩:=I1.list hq
  refine call_enumerate_list pl.isList λh' he hit hsz hk=>?_
  refine wpAny_pyIter_enum he ⟨_,[s1.heap.objs.size+1,s1.heap.objs.size],_,Ite X.K l,H1,rfl,I1.kept (t':=s1.toks) hk,ykz l (s1.heap.objs.size+1) s1.heap.objs.size (Nat.succ_ne_self _),⟨⟨_,he⟩,hit⟩,λb hb=>?_,q⟩
  have hb':b=s1.heap.objs.size+1\/b=s1.heap.objs.size:=by simpa using hb
  rcases hb' with rfl|rfl
  ·exact I1.fpOk (le_succ _) (I1.hok.fresh (le_succ _))
  ·exact I1.fpOk (le_refl _) (I1.hok.fresh (le_refl _))
end
theorem qd9{K:W.Frag}{a:Addr}{xs:List V}{g:TG}{tb:TS}{D:Ends}{σ:St}{H:Hp}(Pv:Nat->St->Hp->Prop)(h0:Pv 0 σ H)(hl:∀i σ H,i<=xs.length->Pv i σ H->SqL K H a xs)
  (hs:∀i x p σ H,xs[i]?=some x->Pv i σ H->H p=none->g (.ref p) σ (upd H p (.tup [.int i,x])) λσ2 H2=>tb { D with nx:=Pv (i+1),ct:=Pv (i+1),bk:=D.nx } σ2 H2) (hd:∀σ H,Pv xs.length σ H->D.nx σ H) :
  ∃W:Nat->Nat->St->Hp->Prop,(∃m,W 0 m σ H)/\∀i m σ H,W i m σ H->
   ((Ite K a).stop i H/\D.nx σ H)\/((Ite K a).go i H/\∃N:St->Hp->Prop,(∀σ' H',N σ' H'->∃m',m' < m/\W (i+1) m' σ' H')/\∀x H',(Ite K a).yld i H x H'->g x σ H' λσ2 H2=>tb { D with nx:=N,ct:=N,bk:=D.nx } σ2 H2):=by
 refine ⟨λi m σ H=>m=xs.length-i/\i<=xs.length/\Pv i σ H,⟨xs.length,by simp,zero_le _,h0⟩,?_⟩
 rintro i m σ H ⟨rfl,hi,p⟩
 have q:=hl i σ H hi p
 by_cases hlt:i<xs.length
 ·refine .inr ⟨⟨xs,xs[i],q,by simp[hlt]⟩,Pv (i+1),λσ' H' p'=>⟨xs.length-(i+1),by omega,rfl,hlt,p'⟩,λx H' y=>?_⟩
  obtain ⟨pp,z,hn,e1,e2,y⟩:=y
  subst e1 e2
  exact hs i z pp σ _ (y xs q) p hn
 ·have e:i=xs.length:=by omega
  subst e
  exact .inl ⟨⟨xs,q,le_refl _⟩,hd σ H p⟩
def Its(lo step:Int)(n:Nat):It:=⟨λi _=>i<n,λi H x H'=>H'=H/\x=.int (lo+i*step),λi _=>n<=i⟩
theorem qi1{P:Program}{w:World}{K:W.Frag}{tg:Expr}(it:Addr)(lo c:Int)(n:Nat):Turn P w K tg (Its lo c n) [it] it (λi h=>IsRangeIter h it (lo+(i:Nat)*c) ((n:Int)-(i:Nat)) c) where
 mem:=by simp
 obj:=λi h st b hb=>by
  have e:b=it:=by simpa using hb
  subst e
  exact ⟨_,st,λv z=>by
   have z':Data.fields _=Data.cell v:=z
   cases z'⟩
 keep:=λi h h' st k=>k it (by simp) _ st
 item:=by
  intro X hP hw hK hc i pins s σ H E I hf st hg
  subst hP hw hK
  obtain ⟨f0,f1,f2,f3,f4,f5⟩:=hf it (by simp)
  have W:=Walks.range (prog:=X.prog) (w:=X.w) (I.ok.hd hc) it lo c n
  refine W.item i s _ _ hg st λv h' tk hv st' kk=>?_
  obtain ⟨t,rfl⟩:=hv
  have I1:Inv X pins σ H { s with heap:=h',toks:=tk }:=I.turned (λb o hb e=>kk b o (by simpa using hb) e) f0 f1 f3 f4 f5
  exact ⟨_,rfl,go_of (s:={ s with heap:=h',toks:=tk }) (n:="range_iterator") st' rfl rfl (by decide) ⟨.int (lo+i*c),H,I1,⟨t,rfl⟩,⟨rfl,rfl⟩,st',λb hb=>(hf b hb).1⟩⟩
 done:=by
  intro X hP hw hK hc i pins s σ H E I hf st hg
  subst hP hw hK
  obtain ⟨f0,f1,f2,f3,f4,f5⟩:=hf it (by simp)
  exact wpAny_pyNext_range_end (I.ok.hd hc) st (by have:n<=i:=hg;omega) λh' eb=>⟨rfl,I.turned (t':=s.toks) (λb o hb e=>eb b o hb e) f0 f1 f3 f4 f5⟩
 self:=λ_ _ _ _ _ st h=>wpAny_pyIter_rangeiter st h
def ydz(lo hi c:Int):Nat:=if lo<hi then ((hi-lo-1) / c+1).toNat else 0
def iRng3(ta:TA):TI:=λσ H R=>ta σ H λvs H1=>∃i j c:Int,vs=[.int i,.int j,.int c]/\(-(2 ^ 60)<=i/\i<2 ^ 60/\-(2 ^ 60)<=j/\j<2 ^ 60/\0<c/\c<1073741824)/\R (Its i c (ydz i j c)) H1
theorem yd8{lo hi c:Int}(hc:0<c):Builtin.Range.rangeSize lo hi c=(ydz lo hi c:Int):=by
 have hq:lo<hi->0<=(hi-lo-1) / c:=λh=>Int.ediv_nonneg (by omega) (by omega)
 unfold Builtin.Range.rangeSize ydz
 rw[if_pos (show c>0 from hc)]
 by_cases h:lo<hi
 ·rw[if_pos h,if_pos h]
  have:=hq h
  omega
 ·rw[if_neg h,if_neg h]
  rfl
theorem ylm{lo hi c:Int}(h:-(2 ^ 60)<=lo/\lo<2 ^ 60/\-(2 ^ 60)<=hi/\hi<2 ^ 60/\0<c/\c<1073741824):Builtin.Range.small lo hi c=true:=by
 obtain ⟨h1,h2,h3,h4,h5,h6⟩:=h
 have hs:=yd8 (lo:=lo) (hi:=hi) h5
 have hle:(ydz lo hi c:Int)<=2 ^ 61:=by
  unfold ydz
  by_cases h:lo<hi
  ·rw[if_pos h]
   have a1:(hi-lo-1) / c<=hi-lo-1:=Int.ediv_le_self _ (by omega)
   omega
  ·rw[if_neg h];decide
 unfold Builtin.Range.small
 rw[hs]
 simp only[Builtin.Range.rangeFitsLong,Bool.and_eq_true,Bool.or_eq_true,decide_eq_true_eq,beq_iff_eq,show c>0 from h5,if_true]
 refine ⟨⟨⟨⟨?_,?_⟩,?_⟩,?_⟩,.inr ?_⟩<;>constructor<;>omega
section
variable {X:Cx}{tg:Expr}
theorem qla{a b c:Expr}{ta:TA}{p pos:Pos}(hg:Gl X "range")(hm:X.mg "range"=none)(ha:PA X [a,b,c] ta)(hs:starEach [a,b,c] X.env=(false,eval a X.env)::starEach [b,c] X.env:=by rfl)
  (hs2:(backTo pos (starEach [b,c] X.env)).any (·.1)=false:=by rfl) :
  PI X tg (.Call (.Name "range" p) [a,b,c] [] pos) (iRng3 ta):=by
 intro pins s σ H R I h
 refine Call_ (qc6 I hg hm boot_range (PyProof.Rows.callWith_type1 (thn (ha pos pins s σ H _ I h) λus s1 ⟨vs,H1,I1,r1,q1⟩=>?_) hs hs2))
 obtain ⟨i,j,c,e,hb,q⟩:=q1
 subst e
 cases r1 with
 |cons r rr=>
  cases rr with
  |cons r' rr=>
   cases rr with
   |cons r2 rr=>
    cases rr
    obtain ⟨t,rfl⟩:=r
    obtain ⟨t',rfl⟩:=r'
    obtain ⟨t2,rfl⟩:=r2
    obtain ⟨b1,b2,b3,b4,b5,b6⟩:=id hb
    refine call_range_3 (by omega) ?_ (.inl (PyProof.noPylong_small (by omega)))
    refine wpAny_pyIter_range (IsRange.new ..) (ylm hb) ?_
    have I2:Inv X pins σ H1 { s1 with heap:=s1.heap.push { cls:=.type "range",data:=.fields #[.int i t,.int j t',.int c t2] },toks:=s1.toks }:=I1.kept λb o e=>get?_push_of_some _ e
    refine ⟨(s1.heap.push { cls:=.type "range",data:=.fields #[.int i t,.int j t',.int c t2] }).objs.size,[(s1.heap.push { cls:=.type "range",data:=.fields #[.int i t,.int j t',.int c t2] }).objs.size],_,_,H1,rfl,
     I2.kept (t':=s1.toks) λb o e=>get?_push_of_some _ e,qi1 _ i c (ydz i j c),?_,λb hb=>?_,q⟩
    ·have e1:i+((0:Nat):Int)*c=i:=by simp
     have e2:((ydz i j c:Nat):Int)-((0:Nat):Int)=Builtin.Range.rangeSize i j c:=by rw[yd8 b5];omega
     show IsRangeIter _ _ (i+((0:Nat):Int)*c) (((ydz i j c:Nat):Int)-((0:Nat):Int)) c
     rw[e1,e2]
     exact get?_push_size _ rfl
    ·have e:b=(s1.heap.push { cls:=.type "range",data:=.fields #[.int i t,.int j t',.int c t2] }).objs.size:=by simpa using hb
     subst e
     exact I2.fpOk (le_refl _) (I2.hok.fresh (le_refl _))
end
theorem qj3{lo c:Int}{n:Nat}{g:TG}{tb:TS}{D:Ends}{σ:St}{H:Hp}(Pv:Nat->St->Hp->Prop)(h0:Pv 0 σ H)
  (hs:∀i σ H,i<n->Pv i σ H->g (.int (lo+i*c)) σ H λσ2 H2=>tb { D with nx:=Pv (i+1),ct:=Pv (i+1),bk:=D.nx } σ2 H2) (hd:∀σ H,Pv n σ H->D.nx σ H) :
  ∃W:Nat->Nat->St->Hp->Prop,(∃m,W 0 m σ H)/\∀i m σ H,W i m σ H->
   ((Its lo c n).stop i H/\D.nx σ H)\/((Its lo c n).go i H/\∃N:St->Hp->Prop,(∀σ' H',N σ' H'->∃m',m' < m/\W (i+1) m' σ' H')/\∀x H',(Its lo c n).yld i H x H'->g x σ H' λσ2 H2=>tb { D with nx:=N,ct:=N,bk:=D.nx } σ2 H2):=by
 refine ⟨λi m σ H=>m=n-i/\i<=n/\Pv i σ H,⟨n,by simp,zero_le _,h0⟩,?_⟩
 rintro i m σ H ⟨rfl,hi,p⟩
 by_cases hlt:i<n
 ·refine .inr ⟨hlt,Pv (i+1),λσ' H' p'=>⟨n-(i+1),by omega,rfl,hlt,p'⟩,λx H' y=>?_⟩
  obtain ⟨e,y⟩:=y
  subst e y
  exact hs i σ _ hlt p
 ·have e:i=n:=by omega
  subst e
  exact .inl ⟨le_refl _,hd σ H p⟩
def clOf(cells:List (Str×Addr)):List (Str×NameKind)->List (Str×Addr)->List (Str×Addr)
 |[],cs=>cs
 | (n,k)::r,cs=>if k=.free then clOf cells r ((n,(cells.lookup n).getD 0)::cs) else clOf cells r cs
theorem qb4{scope:Scope}{env:Env}(h:∀x∈scope.names,x.2=.free->∃c,env.cells.lookup x.1=some c):closureFor scope env=pure (clOf env.cells scope.names []):=by
 unfold closureFor
 generalize hn:scope.names=names at h
 suffices hh:∀(l:List (Str×NameKind)) (cs:List (Str×Addr)),(∀x∈l,x.2=.free->∃c,env.cells.lookup x.1=some c)->
   (forIn l cs (λ(x:Str×NameKind) r=>if (x.2 == NameKind.free)=true then (do let a <-cellOf env x.1;pure (ForInStep.yield ((x.1,a)::r))) else pure (ForInStep.yield r)):Sem (List (Str×Addr)))=pure (clOf env.cells l cs) by
  have:=hh names [] h
  simp only[bind_pure]
  exact this
 intro l
 induction l with
 |nil=>intro cs _;rfl
 |cons x l ih=>
  intro cs hl
  obtain ⟨n,k⟩:=x
  rw[List.forIn_cons]
  by_cases hk:k=.free
  ·subst hk
   obtain ⟨c,hc⟩:=hl (n,.free) mem_cons_self rfl
   have e1:cellOf env n=pure c:=by unfold cellOf;rw[hc]
   have ec:clOf env.cells ((n,NameKind.free)::l) cs=clOf env.cells l ((n,c)::cs):=by
    show (if NameKind.free=NameKind.free then _ else _)=_
    rw[if_pos rfl,hc];rfl
   rw[ec]
   simp only[e1,pure_bind,beq_self_eq_true,if_true]
   exact ih _ λy hy=>hl y (mem_cons_of_mem _ hy)
  ·have hb:(k == NameKind.free)=false:=by cases k<;>first|rfl|exact absurd rfl hk
   have ec:clOf env.cells ((n,k)::l) cs=clOf env.cells l cs:=by
    show (if k=NameKind.free then _ else _)=_
    rw[if_neg hk]
   rw[ec]
   simp only[hb,pure_bind,Bool.false_eq_true,if_false]
   exact ih _ λy hy=>hl y (mem_cons_of_mem _ hy)
theorem qb2{cells:List (Str×Addr)}:∀{l:List (Str×NameKind)}{cs:List (Str×Addr)},(∀x∈l,x.2=.free->∃c,cells.lookup x.1=some c)->(∀p∈cs,cells.lookup p.1=some p.2)->∀p∈clOf cells l cs,cells.lookup p.1=some p.2
 |[],_,_,h=>h
 | (n,k)::r,cs,hl,h=>by
  unfold clOf
  split
  ·rename_i hk
   refine qb2 (λx hx=>hl x (mem_cons_of_mem _ hx)) λp hp=>?_
   rcases mem_cons.mp hp with rfl|hp
   ·obtain ⟨c,hc⟩:=hl (n,k) mem_cons_self hk
    show cells.lookup n=some ((cells.lookup n).getD 0)
    have hc':cells.lookup n=some c:=hc
    rw[hc'];rfl
   ·exact h p hp
  ·exact qb2 (λx hx=>hl x (mem_cons_of_mem _ hx)) h
theorem yb0{l:List (Str×Addr)}{x:Str}(h:∃c,(x,c)∈l):∃c,l.lookup x=some c:=by
 obtain ⟨c,h⟩:=h
 induction l with
 |nil=>cases h
 |cons p r ih=>
  obtain ⟨y,d⟩:=p
  by_cases e:(x == y)=true
  ·exact ⟨d,by rw[lookup_cons,e]⟩
  ·have e':(x == y)=false:=by simpa using e
   rcases mem_cons.mp h with q|q
   ·cases q;exact absurd (beq_self_eq_true _) e
   ·obtain ⟨c',z⟩:=ih q
    exact ⟨c',by rw[lookup_cons,e'];exact z⟩
theorem qde{cells:List (Str×Addr)}{x:Str}:∀{l:List (Str×NameKind)}{cs:List (Str×Addr)},((x,NameKind.free)∈l\/∃c,(x,c)∈cs)->∃c,(x,c)∈clOf cells l cs
 |[],_,h=>by
  rcases h with h|h
  ·cases h
  ·exact h
 | (n,k)::r,cs,h=>by
  unfold clOf
  split
  ·rename_i hk
   refine qde ?_
   rcases h with h|⟨c,h⟩
   ·rcases mem_cons.mp h with q|q
    ·cases q;exact .inr ⟨_,mem_cons_self⟩
    ·exact .inl q
   ·exact .inr ⟨c,mem_cons_of_mem _ h⟩
  ·rename_i hk
   refine qde ?_
   rcases h with h|h
   ·rcases mem_cons.mp h with q|q
    ·cases q;exact absurd rfl hk
    ·exact .inl q
   ·exact .inr h
theorem ycw{env:Env}{x:Str}:∀{l:List (Str×NameKind)},l.lookup x=some .free->
  (l.map λ(n,k)=>if (k == NameKind.free&&env.scope.kind == .function&&env.kindOf n == some .cell) then (n,NameKind.cell) else (n,k)).lookup x=some .cell\/
  (l.map λ(n,k)=>if (k == NameKind.free&&env.scope.kind == .function&&env.kindOf n == some .cell) then (n,NameKind.cell) else (n,k)).lookup x=some .free
 |[],h=>by simp at h
 | (n,k)::r,h=>by
  rw[map_cons]
  cases hx:x == n with
  |true=>
   rw[lookup_cons,hx]at h
   cases h
   by_cases hc:(NameKind.free == NameKind.free&&env.scope.kind == .function&&env.kindOf n == some .cell)=true
   ·left;simp only[hc,if_true,lookup_cons,hx]
   ·right;simp only[hc,Bool.false_eq_true,if_false,lookup_cons,hx]
  |false=>
   rw[lookup_cons,hx]at h
   have ih:=ycw (env:=env) (l:=r) h
   by_cases hc:(k == NameKind.free&&env.scope.kind == .function&&env.kindOf n == some .cell)=true
   ·simp only[hc,if_true,lookup_cons,hx];exact ih
   ·simp only[hc,Bool.false_eq_true,if_false,lookup_cons,hx];exact ih
theorem yfu{env:Env}{x:Str}:∀{l:List (Str×NameKind)},(∀y∈l,y.2≠.cell)->
  ((l.map λ(n,k)=>if (k == NameKind.free&&env.scope.kind == .function&&env.kindOf n == some .cell) then (n,NameKind.cell) else (n,k)).lookup x=some .cell\/
  (l.map λ(n,k)=>if (k == NameKind.free&&env.scope.kind == .function&&env.kindOf n == some .cell) then (n,NameKind.cell) else (n,k)).lookup x=some .free)->(x,NameKind.free)∈l
 |[],_,h=>by simp at h
 | (n,k)::r,hn,h=>by
  rw[map_cons]at h
  cases hx:x == n with
  |true=>
   have e:x=n:=by simpa using hx
   subst e
   by_cases hc:(k == NameKind.free&&env.scope.kind == .function&&env.kindOf x == some .cell)=true
   ·have:k=.free:=by
     simp only[Bool.and_eq_true,beq_iff_eq]at hc
     exact hc.1.1
    subst this
    exact mem_cons_self
   ·simp only[hc,Bool.false_eq_true,if_false,lookup_cons,hx,Option.some.injEq]at h
    rcases h with h|h
    ·exact absurd h (hn (x,k) mem_cons_self)
    ·subst h;exact mem_cons_self
  |false=>
   have h':(r.map λ(n,k)=>if (k == NameKind.free&&env.scope.kind == .function&&env.kindOf n == some .cell) then (n,NameKind.cell) else (n,k)).lookup x=some .cell\/
     (r.map λ(n,k)=>if (k == NameKind.free&&env.scope.kind == .function&&env.kindOf n == some .cell) then (n,NameKind.cell) else (n,k)).lookup x=some .free:=by
    by_cases hc:(k == NameKind.free&&env.scope.kind == .function&&env.kindOf n == some .cell)=true
    ·simp only[hc,if_true,lookup_cons,hx]at h;exact h
    ·simp only[hc,Bool.false_eq_true,if_false,lookup_cons,hx]at h;exact h
   exact mem_cons_of_mem _ (yfu (λy hy=>hn y (mem_cons_of_mem _ hy)) h')
def qba(X:Cx)(M:List Str)(scope:Scope)(C:Addr)(fp:List Addr)(s2:Shared)(H2:Hp):Cx:=
 {prog:=X.prog,w:=X.w,K:=X.K,mg:=X.mg,base:=X.base,A:=X.A,N:=M,s₀:=s2,H₀:=H2,env:=compEnvC scope (clOf X.env.cells scope.names []) C X.env,
  outer:=X.stack,stack:=X.stack,ex:=fp,fn:=λ_=>false,calm:=X.calm,pn:=[],xe:=λ_ _=>False }
def capS(ix:List (Option Nat))(σ:St):St:=ix.map λo=>match o with
 |none=>none
 |some j=>(σ[j]?).getD none
structure CompOk(N M:List Str)(ix:List (Option Nat))(sc xs:Scope):Prop where
 kind:sc.kind=.function
 len:M.length=ix.length
 nocell:∀y∈sc.names,y.2≠.cell
 loc:∀y∈sc.names,y.2=.local->sc.names.lookup y.1=some .local
 fr:∀y∈sc.names,y.2=.free->xs.names.lookup y.1=some .cell\/xs.names.lookup y.1=some .free
 cap:∀(i:Nat) (j:Nat),ix[i]?=some (some j)->∃x,M[i]?=some x/\N[j]?=some x/\sc.names.lookup x=some .free
def yiy(N M:List Str)(ix:List (Option Nat))(sc xs:Scope):Bool:=
 decide (sc.kind=.function)&&decide (M.length=ix.length)&&sc.names.all (λy=>decide (y.2≠.cell))&&sc.names.all (λy=>decide (y.2≠.local)||decide (sc.names.lookup y.1=some .local)) &&
 sc.names.all (λy=>decide (y.2≠.free)||decide (xs.names.lookup y.1=some .cell)||decide (xs.names.lookup y.1=some .free)) &&
 (List.range ix.length).all (λi=>match ix[i]? with
  |some (some j)=>match M[i]? with
   |some x=>decide (N[j]?=some x)&&decide (sc.names.lookup x=some .free)
   |none=>false
  |_=>true)
theorem yaw{N M:List Str}{ix:List (Option Nat)}{sc xs:Scope}(h:yiy N M ix sc xs=true):CompOk N M ix sc xs:=by
 unfold yiy at h
 simp only[Bool.and_eq_true,all_eq_true,decide_eq_true_eq,Bool.or_eq_true]at h
 obtain ⟨⟨⟨⟨⟨h1,h2⟩,h3⟩,h4⟩,h5⟩,h6⟩:=h
 refine ⟨h1,h2,h3,λy hy e=>?_,λy hy e=>?_,λi j e=>?_⟩
 ·rcases h4 y hy with q|q
  ·exact absurd e q
  ·exact q
 ·rcases h5 y hy with (q|q)|q
  ·exact absurd e q
  ·exact .inl q
  ·exact .inr q
 ·have hi:i<ix.length:=(List.getElem?_eq_some_iff.mp e).1
  have q:=h6 i (mem_range.mpr hi)
  rw[e]at q
  cases hm:M[i]? with
  |none=>rw[hm]at q;cases q
  |some x=>
   rw[hm]at q
   simp only[Bool.and_eq_true,decide_eq_true_eq]at q
   exact ⟨x,rfl,q.1,q.2⟩
section
variable {X:Cx}
def PTs(X:Cx)(ifs:List Expr)(t:TT):Prop:=
 ∀(pins:List (Addr×Obj)) (s:Shared) (σ:St) (H:Hp) (Q:Bool->Hp->Prop),Inv X pins σ H s->t σ H Q->
  wpAny (model X.prog X.w) X.A (forIn ifs true λc r=>if r=true then do let ok <-isTrue c X.env (eval c X.env);pure (ForInStep.yield ok) else pure (ForInStep.yield r)) (TP X pins σ Q) X.xe s
def tYes:TT:=λ_ H Q=>Q true H
theorem qcr:PTs X [] tYes:=λ_ _ _ H _ I h=>wpAny_tests_nil ⟨H,I,h⟩
theorem yem{c:Expr}{t:TT}(h:PT X c t):PTs X [c] t:=λpins s σ H Q I hq=>wpAny_tests_one (h pins s σ H Q I hq)
end
theorem Un.butNew{fs ex:List Addr}{H H':Hp}{h h1 h2:Heap}{C:Addr}(u:Un fs ex H H' h h1)(hC:h.objs.size<=C)(sb:Heap.SameBut C h1 h2):Un fs ex H H' h h2:=by
 have ne:∀b o,h.get? b=some o->b≠C:=λb o e=>ne_of_lt (lt_of_lt_of_le (lt_size e) hC)
 refine ⟨λb o e n h3 h4=>(sb.2 b (ne b o e)).trans (u.keep b o e n h3 h4),λb o e n h3 h4=>?_,u.free,λb o e h4=>?_,u.tups,u.frzs,u.tbls⟩
 ·obtain ⟨sl,q⟩:=u.slot b o e n h3 h4
  exact ⟨sl,(sb.2 b (ne b o e)).trans q⟩
 ·obtain ⟨o',q⟩:=u.there b o e h4
  exact ⟨o',(sb.2 b (ne b o e)).trans q⟩
section
variable {X:Cx}{pins:List (Addr×Obj)}{σ:St}{H2:Hp}{s2:Shared}{M:List Str}{ix:List (Option Nat)}{scope:Scope}{fp:List Addr}
theorem comp_ok{C:Addr}(I:Inv X pins σ H2 s2)(ck:CompOk X.N M ix scope X.env.scope)(hC:s2.heap.objs.size<=C)(f2:∀b∈fp,FpOk X pins H2 b)(hfp:∀b∈fp,b<s2.heap.objs.size):(qba X M scope C fp s2 H2).Ok:=by
 have hfree:∀x∈scope.names,x.2=.free->∃c,X.env.cells.lookup x.1=some c:=λx hx e=>I.ok.has x.1 (ck.fr x hx e)
 have snd:∀x c,(clOf X.env.cells scope.names []).lookup x=some c->X.env.cells.lookup x=some c:=λx c e=>qb2 (cs:=[]) hfree (by intro p hp;cases hp) (x,c) (PySem.mem_of_lookup e)
 refine ⟨I.ok.mod,ck.kind,I.ok.glob,I.ok.blt,hC,λx y c h1 h2=>I.ok.inj x y c (snd x c h1) (snd y c h2),λx hx=>?_,(by intro x c h;cases h),I.ok.hd,I.ok.frames,.inl rfl,λb hb=>⟨?_,λx c e=>?_⟩,λb o e=>I.bs b o e,
  le_trans I.ok.bsz I.sz,λb o e hb=>?_,λb hb hb2=>?_,I.stack,I.stkFree⟩
 ·exact yb0 (qde (.inl (yfu ck.nocell hx)))
 ·exact ne_of_lt (lt_of_lt_of_le (hfp b hb) hC)
 ·exact (f2 b hb).2.2.2.2.1 x c (snd x c e)
 ·rcases (f2 b hb).2.2.2.1 with z|z
  ·exact I.ok.noex b o e z
  ·exact absurd (lt_of_lt_of_le (lt_size e) (le_trans I.ok.bsz z)) (lt_irrefl _)
 ·obtain ⟨_,n1,n2,_⟩:=f2 b hb
  rcases mem_cons.mp (I.stkSub b hb2) with z|z
  ·exact n1 z
  ·exact n2 z
theorem comp_inv{C D:Addr}{h1:Heap}{tk:Nat}(I:Inv X pins σ H2 s2)(ck:CompOk X.N M ix scope X.env.scope)(hC:s2.heap.objs.size<=C)(hD:s2.heap.objs.size<=D)(hDC:C≠D)(f2:∀b∈fp,FpOk X pins H2 b)(hfp:∀b∈fp,b<s2.heap.objs.size)
  (old:∀b o,s2.heap.get? b=some o->h1.get? b=some o) (hn:h1.Ns C λ_=>none) (hnew:h1.get? D=some { cls:=.type "list",data:=.seq #[] }) :
  Inv (qba X M scope C fp s2 H2) [] (capS ix σ) (upd H2 D (.lst [])) { s2 with heap:=h1,toks:=tk }:=by
 have hfree:∀x∈scope.names,x.2=.free->∃c,X.env.cells.lookup x.1=some c:=λx hx e=>I.ok.has x.1 (ck.fr x hx e)
 have snd:∀x c,(clOf X.env.cells scope.names []).lookup x=some c->X.env.cells.lookup x=some c:=λx c e=>qb2 (cs:=[]) hfree (by intro p hp;cases hp) (x,c) (PySem.mem_of_lookup e)
 have fD:H2 D=none:=I.hok.fresh hD
 refine ⟨comp_ok I ck hC f2 hfp,rfl,I.bare,Un.laid old hD fD,⟨_,hn,λi x v e1 e2 e3=>?_⟩,λx c e=>?_,?_,λx c e=>?_,(by intro p hp;cases hp),I.hok.laid (o:=.lst []) old hD ⟨zero_le _,[],0,.nil,hnew⟩,?_⟩
 ·obtain ⟨j,hj,hv⟩:∃j,ix[i]?=some (some j)/\σ[j]?=some (some v):=by
   unfold capS at e2
   rw[getElem?_map]at e2
   cases q:ix[i]? with
   |none=>rw[q]at e2;cases e2
   |some o=>
    rw[q]at e2
    cases o with
    |none=>cases e2
    |some j=>
     refine ⟨j,rfl,?_⟩
     have e2':(σ[j]?).getD none=some v:=Option.some.inj e2
     cases z:σ[j]? with
     |none=>rw[z]at e2';cases e2'
     |some y=>rw[z]at e2';rw[show y=some v from e2']
  obtain ⟨y,hm,hN,hf⟩:=ck.cap i j hj
  have e1':M[i]?=some x:=e1
  rw[hm]at e1';cases e1'
  obtain ⟨m,hnl,hl⟩:=I.loc
  have hmem:(x,NameKind.free)∈scope.names:=PySem.mem_of_lookup hf
  have hk:=ck.fr _ hmem rfl
  obtain ⟨u,ru,lk⟩:=hl j x v hN hv (hk.elim (λz=>.inr (.inl z)) λz=>.inr (.inr z))
  refine ⟨u,ru,.inr ⟨ycw hf,?_⟩⟩
  rcases lk with ⟨kl,_⟩|⟨_,c,hc,hcell⟩
  ·have kl':X.env.scope.names.lookup x=some .local:=kl
   rcases hk with z|z
   ·rw[z]at kl';cases kl'
   ·rw[z]at kl';cases kl'
  ·obtain ⟨c2,h2⟩:=yb0 (qde (cells:=X.env.cells) (cs:=[]) (.inl hmem))
   have h3:=snd x c2 h2
   rw[hc]at h3;cases h3
   obtain ⟨o,ho,hd⟩:=hcell
   exact ⟨c,h2,o,old c o ho,hd⟩
 ·obtain ⟨v,o,ho,hd⟩:=I.cell x c (snd x c e)
  exact ⟨v,o,old c o ho,hd⟩
 ·show upd H2 D (.lst []) C=none
  rw[qah hDC]
  exact I.hok.fresh hC
 ·show upd H2 D (.lst []) c=none
  obtain ⟨v,z⟩:=I.cell x c (snd x c e)
  rw[qah (ne_of_lt (lt_of_lt_of_le z.lt hD))]
  exact I.freeC x c (snd x c e)
 ·show (capS ix σ).length=M.length
  unfold capS
  rw[length_map,ck.len]
theorem yla{C:Addr}{σ':St}{H':Hp}{s':Shared}{h2:Heap}{pl:List (Addr×Obj)}(I:Inv X pins σ H2 s2)(J:Inv (qba X M scope C fp s2 H2) pl σ' H' s')(f2:∀b∈fp,FpOk X pins H2 b)(sb:Heap.SameBut C s'.heap h2):Inv X pins σ H' { s' with heap:=h2 }:=by
 have hC:s2.heap.objs.size<=C:=J.ok.above
 refine I.call' (s':={ s' with heap:=h2 }) (ch:=fp) J.os (Un.butNew J.base hC sb) (λa o e=>?_) J.bare λb hb=>?_
 ·have fr:H' C=none:=J.free
  refine (J.hok a o e).stay (λc v hc q=>(sb.2 c ?_).trans q) (λ_ q=>q) λ_ _ q=>q
  rintro rfl
  rcases hc with z|z
  ·rw[<-z,fr]at e;cases e
  ·rw[fr]at z;cases z
 ·obtain ⟨_,n1,_,n3,n4,n5⟩:=f2 b hb
  exact ⟨n3,n1,n4,n5⟩
end
def qaw(l l':St):Prop:=l'.length=l.length/\∀(i:Nat) (v:V),l[i]?=some (some v)->l'[i]?=some (some v)
theorem qaw.refl(l:St):qaw l l:=⟨rfl,λ_ _ h=>h⟩
theorem qaw.set{l l':St}{i:Nat}{x:Option V}(h:qaw l l')(hi:l[i]?=some none):qaw l (l'.set i x):=by
 refine ⟨by rw[List.length_set];exact h.1,λj v e=>?_⟩
 by_cases hj:j=i
 ·subst hj;rw[hi]at e;cases e
 ·rw[List.getElem?_set_ne (Ne.symm hj)];exact h.2 j v e
def tComp(wi:TI)(ix:List (Option Nat))(g:TG)(tt:TT)(te:TE):TE:=λσ H Q=>wi σ H λJ H1=>∀D,H1 D=none->∃W:Nat->Nat->Hp->Prop,(∃m,W 0 m (upd H1 D (.lst [])))/\∀i m H,W i m H->
 (J.stop i H/\Q (.ref D) H)\/(J.go i H/\∃N:Hp->Prop,(∀H',N H'->∃m',m' < m/\W (i+1) m' H')/\∀x H',J.yld i H x H'->g x (capS ix σ) H' λσ2 H2=>qaw (capS ix σ) σ2/\tt σ2 H2 λb H3=>
  if b=true then te σ2 H3 λv H4=>∃ys,H4 D=some (.lst ys)/\ys.length<sizeLine/\N (upd H4 D (.lst (ys++[v]))) else N H3)
section
variable {X:Cx}{elt tg iter:Expr}{ifs:List Expr}{scope:Scope}{pos:Pos}{wi:TI}{g:TG}{tt:TT}{te:TE}{M:List Str}{ix:List (Option Nat)}
theorem ykt{pins:List (Addr×Obj)}{σ:St}{H2 H4:Hp}{s2 s4:Shared}{fp:List Addr}{it C D:Addr}{tn:Nat->Heap->Prop}{J:It}{R:Result->Shared->Prop}{QD:Hp->Prop}(I2:Inv X pins σ H2 s2)(hc:X.calm=true)
  (f2:∀b∈fp,FpOk X pins H2 b) (T:Turn X.prog X.w X.K tg J fp it tn)
  (hg:PG (qba X M scope C fp s2 H2) tg g) (ht:PTs (qba X M scope C fp s2 H2) ifs tt) (he:PE (qba X M scope C fp s2 H2) elt te)
  (I4:Inv (qba X M scope C fp s2 H2) [] (capS ix σ) H4 s4) (st4:tn 0 s4.heap) (fr4:∀b∈fp,H4 b=none) (W:Nat->Nat->Hp->Prop) (m0:Nat) (w0:W 0 m0 H4)
  (turn:∀i m H,W i m H->(J.stop i H/\QD H)\/(J.go i H/\∃N:Hp->Prop,(∀H',N H'->∃m',m' < m/\W (i+1) m' H')/\∀x H',J.yld i H x H'->g x (capS ix σ) H' λσ2 H2=>qaw (capS ix σ) σ2/\tt σ2 H2 λb H3=>
   if b=true then te σ2 H3 λv H4=>∃ys,H4 D=some (.lst ys)/\ys.length<sizeLine/\N (upd H4 D (.lst (ys++[v]))) else N H3))
  (fin:∀H' s',Inv (qba X M scope C fp s2 H2) [] (capS ix σ) H' s'->QD H'->R (.ok .next) s') :
  codeAny (model X.prog X.w) X.A (.compLoop (.ListComp elt [⟨tg,iter,ifs,0⟩] scope pos) 0 (.ref it) (.ref D) (compEnvC scope (clOf X.env.cells scope.names []) C X.env)) R s4:=by
 have stat:∀{H':Hp},(∀b∈fp,H' b=none)->∀b∈fp,FpOk (qba X M scope C fp s2 H2) [] H' b:=λ{H'} hn b hb=>
  ⟨hn b hb,(I4.ok.exf b hb).1,I4.ok.exfs b hb,.inl hb,(I4.ok.exf b hb).2,by intro p hp;cases hp⟩
 refine codeAny_loop rfl (λn s'=>∃i H',Inv (qba X M scope C fp s2 H2) [] (capS ix σ) H' s'/\tn i s'.heap/\(∀b∈fp,H' b=none)/\W i n H') ?_ m0 ⟨0,H4,I4,st4,fr4,w0⟩
 rintro n s5 ⟨i,H5,I5,st5,fr5,w5⟩
 show wpAny (model X.prog X.w) X.A ((compTurn (.ListComp elt [⟨tg,iter,ifs,0⟩] scope pos) 0 (.ref it) (.ref D) (compEnvC scope (clOf X.env.cells scope.names []) C X.env)).onRaise (λx=>do noteFrame x (compEnvC scope (clOf X.env.cells scope.names []) C X.env);theTreesLotGoes x)) _ _ s5
 refine wpAny_noted ?_
 rw[compTurn_list]
 refine wpAny_bind (wpAny_standAt (wpAny_bind ?_))
 rcases turn i n H5 w5 with ⟨stop,qn⟩|⟨go,N,hN,step⟩
 ·refine thn (T.done (qba X M scope C fp s2 H2) rfl rfl rfl hc i [] s5 (capS ix σ) H5 _ I5 (stat fr5) st5 stop) λr s6 ⟨hr,I6⟩=>?_
  subst hr
  exact wpAny_pure (fin H5 s6 I6 qn)
 ·refine thn (T.item (qba X M scope C fp s2 H2) rfl rfl rfl hc i [] s5 (capS ix σ) H5 _ I5 (stat fr5) st5 go) λr s6 ⟨u,hr,h6⟩=>?_
  subst hr
  refine wpAny_bind (thn h6 λ_ s7 ⟨x,H7,I7,r7,y7,st7,fr7⟩=>?_)
  have I7':=I7.pinned (stat fr7) (T.obj _ _ st7)
  refine wpAny_bind (wpAny_mono (hg _ s7 (capS ix σ) H7 x u _ I7' r7 (step x H7 y7)) (λ_ s8 ⟨σ8,H8,I8,k8,q8⟩=>?_) λ_ _ z=>False.elim z)
  refine wpAny_bind (wpAny_mono (ht _ s8 σ8 H8 _ I8 q8) (λok s9 ⟨H9,I9,q9⟩=>?_) λ_ _ z=>False.elim z)
  have again:∀{Ha:Hp}{sa:Shared},Inv (qba X M scope C fp s2 H2) ([]++qgi fp s7.heap) σ8 Ha sa->N Ha->∃m,m<n/\∃i H',Inv (qba X M scope C fp s2 H2) [] (capS ix σ) H' sa/\tn i sa.heap/\(∀b∈fp,H' b=none)/\W i m H':=λ{Ha sa} Ia na=>by
   obtain ⟨m',hm,wa⟩:=hN Ha na
   refine ⟨m',hm,i+1,Ha,Ia.unpinned.weak k8.1.symm k8.2,T.keep _ _ _ st7 λb hb o e=>(Ia.pin (b,o) (mem_append_right _ (mem_append_right _ (yb1 hb e)))).1,λb hb=>?_,wa⟩
   obtain ⟨o,e,d⟩:=T.obj _ _ st7 b hb
   exact (Ia.pin (b,o) (mem_append_right _ (mem_append_right _ (yb1 hb e)))).2.1
  cases ok with
  |false=>exact wpAny_pure ⟨rfl,again I9 q9⟩
  |true=>
   refine wpAny_bind (wpAny_bind (wpAny_mono (he _ s9 σ8 H9 _ I9 q9) (λxv s10 ⟨v,H10,I10,r10,ys,hD,hl,q10⟩=>?_) λ_ _ z=>False.elim z))
   refine wpAny_bind (wpAny_mono (qas (X:=qba X M scope C fp s2 H2) _ s10 σ8 H10 (.ref D) [v] (.ref D) [xv] (λ_ H'=>N H') I10 rfl (.cons r10 .nil) ⟨D,ys,v,rfl,rfl,hD,hl,q10⟩) (λ_ s11 ⟨_,H11,I11,_,q11⟩=>?_) λ_ _ z=>False.elim z)
   exact wpAny_pure (wpAny_pure ⟨rfl,again I11 q11⟩)
theorem ygj{pins:List (Addr×Obj)}{σ:St}{H2:Hp}{s2:Shared}{fp:List Addr}{it:Addr}{tn:Nat->Heap->Prop}{J:It}{E:Value->Shared->Prop}{QD:Addr->Hp->Prop}{RR:Value->Addr->Result->Shared->Prop}(I2:Inv X pins σ H2 s2)(hc:X.calm=true)
  (ck:CompOk X.N M ix scope X.env.scope) (f2:∀b∈fp,FpOk X pins H2 b) (T:Turn X.prog X.w X.K tg J fp it tn) (st2:tn 0 s2.heap)
  (hg:∀C fp s2 H2,PG (qba X M scope C fp s2 H2) tg g) (ht:∀C fp s2 H2,PTs (qba X M scope C fp s2 H2) ifs tt) (he:∀C fp s2 H2,PE (qba X M scope C fp s2 H2) elt te)
  (rd:∀D,H2 D=none->∃W:Nat->Nat->Hp->Prop,(∃m,W 0 m (upd H2 D (.lst [])))/\∀i m H,W i m H->
   (J.stop i H/\QD D H)\/(J.go i H/\∃N:Hp->Prop,(∀H',N H'->∃m',m' < m/\W (i+1) m' H')/\∀x H',J.yld i H x H'->g x (capS ix σ) H' λσ2 H2=>qaw (capS ix σ) σ2/\tt σ2 H2 λb H3=>
    if b=true then te σ2 H3 λv H4=>∃ys,H4 D=some (.lst ys)/\ys.length<sizeLine/\N (upd H4 D (.lst (ys++[v]))) else N H3))
  (fin:∀D C H' s',QD D H'->(∃m,s'.heap.Ns C m)->(∀h2,Heap.SameBut C s'.heap h2->Inv X pins σ H' { s' with heap:=h2 })->FpOk X pins H' C->RR (.ref D) C (.ok .next) s') :
  wpAny (model X.prog X.w) X.A (newList []) (λacc s3=>wpAny (model X.prog X.w) X.A (newFunctionEnv scope X.env.globals (clOf X.env.cells scope.names []) [] X.env.qual none .none (some X.env)) (λcenv s4=>
   codeAny (model X.prog X.w) X.A (.compStart (.ListComp elt [⟨tg,iter,ifs,0⟩] scope pos) 0 (.ref it) acc { cenv with scope:=relabel scope X.env }) (RR acc cenv.locals) s4) E s3) E s2:=by
 have hfp:∀b∈fp,b<s2.heap.objs.size:=λb hb=>by obtain ⟨o,e,_⟩:=T.obj 0 _ st2 b hb;exact lt_size e
 refine wpAny_newObj_type (wpAny_newFunctionEnv ck.nocell (by intro y hy;simp at hy) (λh1 hn1 hsb1=>?_) ck.kind)
 dsimp only at hn1 hsb1 ⊢
 generalize hP:s2.heap.push { cls:=.type "list",dict:=none,data:=.seq ([]:List Value).toArray }=hh at hn1 hsb1 ⊢
 have hCz:hh.objs.size=s2.heap.objs.size+1:=by rw[<-hP,size_push]
 have hCD:hh.objs.size≠s2.heap.objs.size:=by omega
 have old:∀b o,s2.heap.get? b=some o->h1.get? b=some o:=λb o e=>by
  have hb:b<s2.heap.objs.size:=lt_size e
  exact hsb1.extBut b o (ne_of_lt (by rw[hCz];exact lt_succ_of_lt hb)) (get?_push_of_some _ (hP ▸ get?_push_of_some _ e))
 have hnew:h1.get? s2.heap.objs.size=some { cls:=.type "list",data:=.seq #[] }:=hsb1.extBut _ _ hCD.symm (get?_push_of_some _ (hP ▸ get?_push_size _ rfl))
 obtain ⟨W,⟨m0,w0⟩,turn⟩:=rd s2.heap.objs.size (I2.hok.fresh (le_refl _))
 have I4:=comp_inv (M:=M) (ix:=ix) (scope:=scope) (fp:=fp) (tk:=s2.toks+([]:List (Str×Value)).length) I2 ck (C:=hh.objs.size) (D:=s2.heap.objs.size) (by omega) (le_refl _) hCD f2 hfp old hn1 hnew
 have st4:tn 0 h1:=T.keep _ _ _ st2 λb _ o e=>old b o e
 have fr4:∀b∈fp,upd H2 s2.heap.objs.size (.lst []) b=none:=λb hb=>by rw[qah (ne_of_lt (hfp b hb))];exact (f2 b hb).1
 have lp:codeAny (model X.prog X.w) X.A (.compLoop (.ListComp elt [⟨tg,iter,ifs,0⟩] scope pos) 0 (.ref it) (.ref s2.heap.objs.size) (compEnvC scope (clOf X.env.cells scope.names []) hh.objs.size X.env)) (RR (.ref s2.heap.objs.size) hh.objs.size) { s2 with heap:=h1,toks:=s2.toks+([]:List (Str×Value)).length }:=by
  refine ykt (QD:=QD s2.heap.objs.size) I2 hc f2 T (hg _ _ _ _) (ht _ _ _ _) (he _ _ _ _) I4 st4 fr4 W m0 w0 turn λH' s' J' q'=>?_
  obtain ⟨m,hm,_⟩:=J'.loc
  exact fin _ _ H' s' q' ⟨m,hm⟩ (λh2 sb=>yla I2 J' f2 sb) (I2.fpOk (by omega) J'.free)
 exact codeAny_compStart_list lp (T.self _ 0 _ _ _ st4 lp)
theorem qbv(hc:X.calm=true)(ck:CompOk X.N M ix scope X.env.scope)(hi:PI X tg iter wi)(hg:∀C fp s2 H2,PG (qba X M scope C fp s2 H2) tg g)(ht:∀C fp s2 H2,PTs (qba X M scope C fp s2 H2) ifs tt)(he:∀C fp s2 H2,PE (qba X M scope C fp s2 H2) elt te)
  (hs:∀x,foldedSetIterable iter X.env x=pure x:=by intro _;rfl):PE X (.ListComp elt [⟨tg,iter,ifs,0⟩] scope pos) (tComp wi ix g tt te):=by
 intro pins s σ H Q I h
 have hfree:∀x∈scope.names,x.2=.free->∃c,X.env.cells.lookup x.1=some c:=λx hx e=>I.ok.has x.1 (ck.fr x hx e)
 rw[eval_ListComp]
 refine wpAny_comprehension_free (use:=none) (cl:=clOf X.env.cells scope.names []) rfl hs (qb4 hfree) ck.kind ck.loc (thn (hi pins s σ H _ I h) λv s1 h1=>thn h1 λitv s2 h2=>?_)
 obtain ⟨it,fp,tn,J,H2,e,I2,T,st2,f2,rd⟩:=h2
 subst e
 refine ygj (QD:=λD H'=>Q (.ref D) H') I2 hc ck f2 T st2 hg ht he rd λD C H' s' q hm hb _=>?_
 obtain ⟨m,hm⟩:=hm
 exact ⟨m,hm,λh2 sb=>⟨.ref D,H',hb h2 sb,rfl,q⟩⟩
def yjw(wi:TI)(ix:List (Option Nat))(g:TG)(tt:TT)(te:TE)(i:Nat):TS:=λD σ H=>tComp wi ix g tt te σ H λx H1=>D.nx (σ.set i (some x)) H1
theorem ps_setC{i:Nat}{x:Str}{pos' spos:Pos}(hsw:swapsWith (.ListComp elt [⟨tg,iter,ifs,0⟩] scope pos) (some (.Name x pos')) spos.line X.env=pure true)(hN:X.N.Nodup)(hix:X.N[i]?=some x)(hx:Loc X.env.scope x)
  (hc:X.calm=true) (ck:CompOk X.N M ix scope X.env.scope) (hi:PI X tg iter wi) (hg:∀C fp s2 H2,PG (qba X M scope C fp s2 H2) tg g) (ht:∀C fp s2 H2,PTs (qba X M scope C fp s2 H2) ifs tt) (he:∀C fp s2 H2,PE (qba X M scope C fp s2 H2) elt te)
  (hs:∀x,foldedSetIterable iter X.env x=pure x:=by intro _;rfl) (hf:X.fn x=true\/X.env.scope.names.lookup x=some .local:=by first|exact .inl rfl|exact .inr rfl|assumption) :
  PS X (.Assign [.Name x pos'] (.ListComp elt [⟨tg,iter,ifs,0⟩] scope pos) spos) (yjw wi ix g tt te i):=by
 intro pins s σ H D0 I h
 have hfree:∀x∈scope.names,x.2=.free->∃c,X.env.cells.lookup x.1=some c:=λx hx e=>I.ok.has x.1 (ck.fr x hx e)
 rw[exec_Assign_Name_used _ _ _ _ hsw]
 refine wpAny_bind (wpAny_standAt (wpAny_bind ?_))
 show wpAny _ X.A (do let _ <-comprehension (.ListComp elt [⟨tg,iter,ifs,0⟩] scope pos) scope X.env _ (newList []) false (eval iter X.env) (some (assign (.Name x pos') X.env))) _ _ s
 refine wpAny_bind (wpAny_mono (wpAny_comprehension_free (use:=some (assign (.Name x pos') X.env)) (Q:=λ_ s'=>SP X pins D0 .next s') (cl:=clOf X.env.cells scope.names []) rfl hs (qb4 hfree) ck.kind ck.loc
  (thn (hi pins s σ H _ I h) λv s1 h1=>thn h1 λitv s2 h2=>?_)) (λ_ s' hq=>wpAny_pure (wpAny_pure hq)) λ_ _ e=>e)
 obtain ⟨it,fp,tn,J,H2,e,I2,T,st2,f2,rd⟩:=h2
 subst e
 refine ygj (QD:=λD H'=>D0.nx (σ.set i (some (.ref D))) H') I2 hc ck f2 T st2 hg ht he rd λD C H' s' q hm hb fpk=>?_
 obtain ⟨m,hm⟩:=hm
 obtain ⟨g0,g1,g2,g3,g4,g5⟩:=fpk
 have I5:Inv X pins σ H' s':=hb s'.heap ⟨rfl,λ_ _=>rfl⟩
 show wpAny (model X.prog X.w) X.A (assign (.Name x pos') X.env (.ref D)) _ _ s'
 refine wpAny_assign_Name (qf6 (v:=.ref D) I5 hN hix hx rfl (λs6 I6 ⟨a,sb,ha⟩=>?_) hf)
 have hCa:C≠a:=by
  rcases ha with ha|ha
  ·rw[ha];exact g1
  ·exact (g4 x a ha).symm
 refine ⟨m,hm.sameBut sb hCa,λh2 sb2=>⟨_,H',I6.turned (t':=s6.toks) (λb o hb e=>(sb2.2 b hb).trans e) g0 g1 g3 g4 g5,q⟩⟩
end
def FnAt(K:W.Frag)(mg:Str->Option Value)(x:Str)(st:Stmt)(ps:List Str):Prop:=∃f fd,mg x=some (.ref f)/\Fun K x x st f fd/\qeb K fd ps []
def Has(P:Program)(w:World)(K:W.Frag)(mg:Str->Option Value)(base:Heap)(k:Nat)(x:Str)(ps:List Str)(sp:Sp):Prop:=
 ∃f fd,mg x=some (.ref f)/\W.keepIn K (.ref f)=true/\qeb K fd ps []/\FnOk P w K mg base CX0 k f fd ps sp
section
variable {P:Program}{w:World}{K:W.Frag}{mg:Str->Option Value}{base:Heap}
theorem Has.of{x:Str}{st:Stmt}{ps N:List Str}{k:Nat}{sp:Sp}(F:FnAt K mg x st ps)(S:FnScope N ps (qac st))(len:∀vs H Q E,sp vs H Q E->vs.length=ps.length)
  (hbody:∀(f:Addr) (cdv:Value) (A:Around) (outer:List Env) (s:Shared) (H:Hp) (vs:List V) (Q:VK) (E:XK),Room k (A.deeper (envOfC x (qac st) s.heap.objs.size f cdv))->sp vs H Q E->
   ∃t,PSs (cxOf CX0 P w K mg base N x (qac st) f cdv A outer s H E).nox (yat st) t/\t { nx:=λ_ H'=>Q .non H',rt:=Q } (qe7 N vs) H):Has P w K mg base (k+1) x ps sp:=by
 obtain ⟨f,fd,h1,h2,h3⟩:=F
 exact ⟨f,fd,h1,h2.kp,h3,h2.ok S len λcdv A outer s H vs Q E hr h=>hbody f cdv A outer s H vs Q E hr h⟩
end
section
variable {X:Cx}
theorem yai{k m:Nat}{x:Str}{ps:List Str}{sp:Sp}{e:Expr}{es:List Expr}{t:TA}{p pos:Pos}(h:Has X.prog X.w X.K X.mg X.base k x ps sp)(hr:Room m X.A)(ha:PA X (e::es) t)(hk:k<=m:=by decide)(hg:Gl X x:=by rfl)
  (hdb:(x == ("__debug__" : Str))=false:=by decide) (he:starEach (e::es) X.env=(false,eval e X.env)::starEach es X.env:=by rfl) (hpl:(backTo pos (starEach es X.env)).any (·.1)=false:=by rfl) :
  PE X (.Call (.Name x p) (e::es) [] pos) (tCall sp [] E0 t):=by
 obtain ⟨f,fd,h1,h2,h3,h4⟩:=h
 exact pe_call h4 (hr.mono hk) hg h1 h2 h3 .nil pass0 ha hdb he hpl
def qhe:List Str:=["len","abs","max","min","repr","isinstance","int","bool","str","tuple","list","dict","range","enumerate","sorted","sum"]
structure Bl(mg:Str->Option Value):Prop where
 all:∀x∈qhe,mg x=none
theorem Bl.of{mg:Str->Option Value}(B:Bl mg){x:Str}(h:qhe.contains x=true):mg x=none:=B.all x (by simpa using h)
def GTup(K:W.Frag)(mg:Str->Option Value)(x:Str)(xs:List V):Prop:=∃a,mg x=some (.ref a)/\∀H,SqT K H a xs
theorem ygz{K:W.Frag}{mg:Str->Option Value}{x:Str}{a:Addr}{xs:List V}{od:Option Addr}{its:Array Value}{n:Nat}{sl:Array (Option Value)}(h1:mg x=some (.ref a))(h2:K.lookup a=some ⟨.type "tuple",od,.seq its n,sl⟩)
  (h3:its.size<=sizeLine) (h4:Vals xs its.toList):GTup K mg x xs:=⟨a,h1,λH=>.inr ⟨_,its,n,h2,rfl,rfl,h3,h4⟩⟩
def tGT(K:W.Frag)(xs:List V):TE:=λ_ H Q=>∀a,(∀H',SqT K H' a xs)->Q (.ref a) H
theorem qha{x:Str}{xs:List V}{pos:Pos}(h:GTup X.K X.mg x xs)(hg:Gl X x:=by rfl)(hd:(x == ("__debug__" : Str))=false:=by decide):PE X (.Name x pos) (tGT X.K xs):=by
 obtain ⟨a,h1,h2⟩:=h
 exact λpins s σ H Q I q=>yfr (v:=.ref a) hg h1 rfl hd pins s σ H Q I (q a h2)
theorem yed{x:Str}{i:Int}{pos:Pos}(h:∃t,X.mg x=some (.int i t))(hg:Gl X x:=by rfl)(hd:(x == ("__debug__" : Str))=false:=by decide):PE X (.Name x pos) (tC (.int i)):=by
 obtain ⟨t,h1⟩:=h
 exact yfr (v:=.int i) hg h1 ⟨t,rfl⟩ hd
def rIsi(K:W.Frag):List V->Hp->VK->Prop:=λxs H Q=>∃x T t b,xs=[x,.ty T]/\TyOf K H x t/\W.kitOne K t (.type T)=some b/\Q (.bl b) H
theorem qbd:yb7 X (.builtin "isinstance") (rIsi X.K):=by
 intro pins s σ H xs us Q I r h
 obtain ⟨x,T,t,b,rfl,ht,hk,q⟩:=h
 cases r with
 |cons r rr=>
  cases rr with
  |cons r' rr=>
   cases rr
   cases r'
   exact yl4 I r ht hk λtk=>⟨.bl b,H,I.tok _,rfl,q⟩
end
def tCut(t u:TS):TS:=λD σ H=>∃R:St->Hp->Prop,t { D with nx:=R } σ H/\∀σ' H',R σ' H'->u D σ' H'
theorem pss_cut{X:Cx}{st:Stmt}{rest:List Stmt}{t u:TS}(h1:PS X st t)(h2:PSs X rest u):PSs X (st::rest) (tCut t u):=by
 intro pins s σ H D I h
 obtain ⟨R,h,hR⟩:=h
 refine wpAny_execs_cons (thn (h1 pins s σ H { D with nx:=R } I h) λf s1 q=>?_)
 cases f with
 |next=>
  obtain ⟨σ',H',I',q⟩:=q
  exact h2 pins s1 σ' H' D I' (hR σ' H' q)
 |ret v=>exact q
 |brk=>exact q
 |cont=>exact q
def tMid(t:TE):TE:=λσ H Q=>∃R:VK,t σ H R/\∀v H',R v H'->Q v H'
theorem pe_mid{X:Cx}{e:Expr}{t:TE}(h:PE X e t):PE X e (tMid t):=by
 intro pins s σ H Q I hw
 obtain ⟨R,h1,h2⟩:=hw
 exact thn (h pins s σ H R I h1) λu s1 ⟨v,H1,I1,r,q⟩=>⟨v,H1,I1,r,h2 v H1 q⟩
theorem Same.upd{H H1:Hp}{p:Addr}{o:HO}(s:Same H H1)(h:H1 p=none):Same H (upd H1 p o):=λb u e=>by
 have e1:=s b u e
 rw[qah (yad e1 h)];exact e1
theorem Same.at{H H1:Hp}{p:Addr}{o:HO}(s:Same H H1)(h:H p=none):Same H (L2.upd H1 p o):=λb u e=>by
 rw[qah (yad e h)];exact s b u e
theorem At.tupEq{H:Hp}{v:V}{ds:List PyData}(h:At H v (.tuple ds)):∃a vs,v=.ref a/\H a=some (.tup vs)/\AtAll H vs ds:=by
 cases h with
 |tup e t=>exact ⟨_,_,rfl,e,t⟩
theorem At.lstEq{H:Hp}{v:V}{ds:List PyData}(h:At H v (.list ds)):∃a vs,v=.ref a/\H a=some (.lst vs)/\AtAll H vs ds:=by
 cases h with
 |lst e t=>exact ⟨_,_,rfl,e,t⟩
theorem At.strEq{H:Hp}{v:V}{x:Str}(h:At H v (.str x)):v=.str x:=by cases h;rfl
theorem At.intEq{H:Hp}{v:V}{x:Int}(h:At H v (.int x)):v=.int x:=by cases h;rfl
def qb0(H:Hp)(L:List Addr):Hp:=λb=>if b∈L then none else H b
theorem qbe(H:Hp)(L:List Addr):Same (qb0 H L) H:=λb o e=>by
 unfold qb0 at e
 split at e
 ·cases e
 ·exact e
theorem qcy{H:Hp}{L:List Addr}{b:Addr}(h:b∉L):qb0 H L b=H b:=by unfold qb0;rw[if_neg h]
theorem qbu{H H':Hp}(s:Same H H')(L:List Addr):Same (qb0 H L) (qb0 H' L):=λb o e=>by
 unfold qb0 at e ⊢
 split at e
 ·cases e
 ·rename_i h;rw[if_neg h];exact s b o e
theorem qlw{H:Hp}{L L':List Addr}(h:∀b∈L,b∈L'):Same (qb0 H L') (qb0 H L):=λb o e=>by
 unfold qb0 at e ⊢
 split at e
 ·cases e
 ·rename_i hn;rw[if_neg λz=>hn (h b z)];exact e
theorem qk1{H:Hp}{L:List Addr}{p:Addr}{o:HO}(h:p∈L):qb0 (upd H p o) L=qb0 H L:=by
 funext b
 unfold qb0
 by_cases hb:b∈L
 ·rw[if_pos hb,if_pos hb]
 ·rw[if_neg hb,if_neg hb,qah]
  rintro rfl
  exact hb h
def Bld(L:List Addr)(H:Hp)(l:Addr)(ds:List PyData):Prop:=∃us,H l=some (.lst us)/\AtAll (qb0 H (l::L)) us ds
theorem Bld.new{L:List Addr}{H:Hp}{l:Addr}:Bld L (upd H l (.lst [])) l []:=⟨[],qaa,.nil⟩
theorem Bld.grow{L:List Addr}{H H':Hp}{l:Addr}{ds:List PyData}(b:Bld L H l ds)(s:Same H H'):Bld L H' l ds:=by
 obtain ⟨us,h1,h2⟩:=b
 exact ⟨us,s _ _ h1,h2.same (qbu s _)⟩
theorem Bld.push{L:List Addr}{H:Hp}{l:Addr}{ds:List PyData}{us:List V}{v:V}{d:PyData}(b:Bld L H l ds)(hu:H l=some (.lst us))(h:At (qb0 H (l::L)) v d):Bld L (upd H l (.lst (us++[v]))) l (ds++[d]):=by
 obtain ⟨us',h1,h2⟩:=b
 rw[hu]at h1;cases h1
 refine ⟨_,qaa,?_⟩
 rw[qk1 mem_cons_self]
 exact h2.snoc h
theorem Bld.len{L:List Addr}{H:Hp}{l:Addr}{ds:List PyData}{us:List V}(b:Bld L H l ds)(hu:H l=some (.lst us)):us.length=ds.length:=by
 obtain ⟨us',h1,h2⟩:=b
 rw[hu]at h1;cases h1
 exact h2.length
theorem Bld.at{L:List Addr}{H:Hp}{l:Addr}{ds:List PyData}(b:Bld L H l ds)(h:l∉L):At (qb0 H L) (.ref l) (.list ds):=by
 obtain ⟨us,h1,h2⟩:=b
 exact .lst (by rw[qcy h];exact h1) (h2.same (qlw λb hb=>mem_cons_of_mem _ hb))
theorem Bld.out{H:Hp}{l:Addr}{ds:List PyData}(b:Bld [] H l ds):At H (.ref l) (.list ds):=(b.at (by simp)).same (qbe _ _)
theorem ydg{n:Nat}(h:n<=100000):n<=sizeLine:=le_trans h (by decide)
theorem qbb{n:Nat}(h:n<=100000):n<sizeLine:=Nat.lt_of_le_of_lt h (by decide)
theorem yae{α:Type}{xs:List α}{i:Int}{v:α}(j:Nat)(h:xs[j]?=some v)(e:i=(j:Int):=by rfl):atI xs i=some v:=by
 rw[e];exact ybl h
theorem atI_int{α:Type}{xs:List α}{i:Int}{v:α}(h0:0<=i)(h:xs[i.toNat]?=some v):atI xs i=some v:=by
 have e:((i.toNat:Nat):Int)=i:=Int.toNat_of_nonneg h0
 rw[<-e];exact ybl h
theorem qbp{J:It}{n:Nat}{g:TG}{tt:TT}{te:TE}{ix:List (Option Nat)}{σ:St}{H:Hp}{QD:Hp->Prop}{D:Addr}(Pv:Nat->Hp->Prop)(h0:Pv 0 (upd H D (.lst [])))(stop:∀H',Pv n H'->J.stop n H'/\QD H')
  (step:∀i H',i<n->Pv i H'->J.go i H'/\∀x H2,J.yld i H' x H2->g x (capS ix σ) H2 λσ2 H3=>qaw (capS ix σ) σ2/\tt σ2 H3 λb H4=>
   if b=true then te σ2 H4 λv H5=>∃ys,H5 D=some (.lst ys)/\ys.length<sizeLine/\Pv (i+1) (upd H5 D (.lst (ys++[v]))) else Pv (i+1) H4) :
  ∃W:Nat->Nat->Hp->Prop,(∃m,W 0 m (upd H D (.lst [])))/\∀i m H,W i m H->
   (J.stop i H/\QD H)\/(J.go i H/\∃N:Hp->Prop,(∀H',N H'->∃m',m' < m/\W (i+1) m' H')/\∀x H',J.yld i H x H'->g x (capS ix σ) H' λσ2 H2=>qaw (capS ix σ) σ2/\tt σ2 H2 λb H3=>
    if b=true then te σ2 H3 λv H4=>∃ys,H4 D=some (.lst ys)/\ys.length<sizeLine/\N (upd H4 D (.lst (ys++[v]))) else N H3):=by
 refine ⟨λi m H=>m=n-i/\i<=n/\Pv i H,⟨n,by simp,zero_le _,h0⟩,?_⟩
 rintro i m H ⟨rfl,hi,p⟩
 by_cases hlt:i<n
 ·obtain ⟨g1,g2⟩:=step i H hlt p
  exact .inr ⟨g1,Pv (i+1),λH' p'=>⟨n-(i+1),by omega,rfl,hlt,p'⟩,g2⟩
 ·have e:i=n:=by omega
  subst e
  exact .inl (stop H p)
theorem yfc{xs:List V}(k:Nat):cutV xs none (some (k:Int))=xs.take k:=by
 unfold cutV
 rw[HT.sIx_none,HT.sIx_nat,List.drop_zero,Nat.sub_zero]
 by_cases h:k<=xs.length
 ·rw[min_eq_left h]
 ·rw[Nat.min_eq_right (by omega),take_length,take_of_length_le (by omega)]
theorem yfb{xs:List V}(k:Nat):cutV xs (some (k:Int)) none=xs.drop k:=by
 unfold cutV
 rw[HT.sIx_none,HT.sIx_nat]
 by_cases h:k<=xs.length
 ·rw[min_eq_left h]
  exact take_of_length_le (by rw[length_drop];exact le_refl _)
 ·rw[Nat.min_eq_right (by omega),List.drop_eq_nil_of_le (show xs.length<=k by omega),List.drop_length];simp
theorem yes{σ:St}{H:Hp}{A B:Hp->Prop}(h:A H):tYes σ H λb H'=>if b=true then A H' else B H':=iteT (B:=B H) h
section
variable {X:Cx}{K:W.Frag}
theorem qd2(h:X.K=K):IxR X (rIxL K):=h ▸ qam
theorem yc6(h:X.K=K):IxR X (rIxT K):=h ▸ qai
theorem qkd(h:X.K=K):OpR X (compareOp .In) (rIn K false):=h ▸ ybg
theorem qlt(h:X.K=K):yb7 X (.builtin "isinstance") (rIsi K):=h ▸ qbd
theorem qip{es:List Expr}{k:Nat}{t:TGs}{n:Nat}{pos:Pos}(h:X.K=K)(hc:X.calm=true)(hh:PGs X es t)
  (hn:(assignEach es X.env).length=n:=by rfl) (hst:(assignEach es X.env).findIdx? (·.1)=none:=by rfl):PG X (.Tuple es k pos) (gTup K n t):=by
 subst h;exact qck hc hh hn hst
end
def rEqD:R2:=λx y H Q=>∃dx dy,At H x dx/\At H y dy/\dx.canLay0=true/\dy.canLay0=true/\dx.depth<=60/\Q (.bl (PyData.eqv dx dy)) H
def rNeD:R2:=λx y H Q=>∃dx dy,At H x dx/\At H y dy/\dx.canLay0=true/\dy.canLay0=true/\dx.depth<=60/\Q (.bl (!PyData.eqv dx dy)) H
section
variable {X:Cx}
theorem ygi{k:Nat}(hr:Room k X.A):OpR X (compareOp .Eq) rEqD:=by
 intro pins s σ H x y v u Q I rx ry h
 obtain ⟨dx,dy,h1,h2,c1,c2,hd,q⟩:=h
 obtain ⟨as,r1⟩:=h1.reads I.hok rx
 obtain ⟨bs,r2⟩:=h2.reads I.hok ry
 have hu:=hr.units
 exact PySem.SeqAt.rcAt_reads r1 r2 c1 c2 (by have:=Nat.min_le_left dx.depth dy.depth;omega) _ _ _ _ ⟨.bl _,H,I,rfl,q⟩
theorem op_neD{k:Nat}(hr:Room k X.A):OpR X (compareOp .NotEq) rNeD:=by
 intro pins s σ H x y v u Q I rx ry h
 obtain ⟨dx,dy,h1,h2,c1,c2,hd,q⟩:=h
 obtain ⟨as,r1⟩:=h1.reads I.hok rx
 obtain ⟨bs,r2⟩:=h2.reads I.hok ry
 have hu:=hr.units
 exact PySem.SeqAt.rcNeAt_reads r1 r2 c1 c2 (by have:=Nat.min_le_left dx.depth dy.depth;omega) _ _ _ _ ⟨.bl _,H,I,rfl,q⟩
end
theorem qbt{n:Nat}:∀{xs:List PyData},(∀x∈xs,x.depth<=n)->PyData.depthAll xs<=n
 |[],_=>by simp[PyData.depthAll]
 |x::xs,h=>by
  have h1:=h x mem_cons_self
  have h2:=qbt (xs:=xs) λy hy=>h y (mem_cons_of_mem _ hy)
  simp only[PyData.depthAll]
  omega
theorem qdd{n:Nat}:∀{xs:List PyData},(∀x∈xs,x.bulk<=n)->PyData.bulkAll xs<=(n+1)*xs.length
 |[],_=>by simp[PyData.bulkAll]
 |x::xs,h=>by
  have h1:=h x mem_cons_self
  have h2:=qdd (xs:=xs) λy hy=>h y (mem_cons_of_mem _ hy)
  simp only[PyData.bulkAll,length_cons,Nat.mul_add]
  omega
theorem qcn{B:Nat}:∀{xs:List PyData},(∀x∈xs,x.leavesShort B=true)->PyData.leavesShortAll B xs=true
 |[],_=>by simp[PyData.leavesShortAll]
 |x::xs,h=>by
  simp only[PyData.leavesShortAll,h x mem_cons_self,qcn (xs:=xs) λy hy=>h y (mem_cons_of_mem _ hy),Bool.and_self]
theorem Vals.bls:∀{bs:List Bool}{us:List Value},Vals (bs.map V.bl) us->us=bs.map Value.bool
 |[],_,.nil=>rfl
 |b::bs,_,.cons r t=>by
  have e:=Vals.bls t
  cases r
  rw[e]
  rfl
end L2
namespace Mx
open PySem L2 PyProof.Rows
section
variable {X:Cx}{es:List Expr}{te:TE}{t:TA}{pos:Pos}
theorem yka{k:Const}{j}(ha:PE X (.Constant k j pos) te)(hr:PA X es t):PA X (.Constant k j pos::es) (qdg te t):=yaa ha hr rfl
theorem qbs{x:Str}(ha:PE X (.Name x pos) te)(hr:PA X es t):PA X (.Name x pos::es) (qdg te t):=yaa ha hr rfl
theorem pa_cl{f xs ks}(ha:PE X (.Call f xs ks pos) te)(hr:PA X es t):PA X (.Call f xs ks pos::es) (qdg te t):=yaa ha hr rfl
def ygq:List Expr->Option (List Str)
 |[]=>some []
 |.Constant (.str x) _ _::r=>(ygq r).map (x :: ·)
 |_=>none
theorem len0{α:Type}{P:List α->Prop}(h:P []):∀us,us.length=0->P us
 |[],_=>h
theorem lenS{α:Type}{n:Nat}{P:List α->Prop}(h:∀a l,l.length=n->P (a::l)):∀us,us.length=n+1->P us
 |a::l,e=>h a l (Nat.succ.inj e)
theorem strsOf1{e:Expr}{r:List Expr}{xs:List Str}(h:ygq (e::r)=some xs):∃x j p ys,e=.Constant (.str x) j p/\ygq r=some ys/\xs=x::ys:=by
 cases e with
 |Constant k j p=>cases k with
  |str x=>
   obtain ⟨ys,hy,rfl⟩:=Option.map_eq_some_iff.mp (show (ygq r).map (x :: ·)=some xs from h)
   exact ⟨x,j,p,ys,rfl,hy,rfl⟩
  |_=>cases h
 |_=>cases h
theorem pa_strs{X:Cx}{es:List Expr}:∀{xs:List Str},ygq es=some xs->PA X es (λ_ H Q=>Q (xs.map V.str) H):=by
 induction es with
 |nil=>
  intro xs h
  cases h
  exact yac
 |cons e r ih=>
  intro xs h
  obtain ⟨x,j,p,ys,rfl,hy,rfl⟩:=strsOf1 h
  exact yka yak (ih hy)
end
structure QS(X:Cx)(st:Stmt)(t:TS):Prop where
 of:PS X st t
structure QSs(X:Cx)(ss:List Stmt)(t:TS):Prop where
 of:PSs X ss t
section
variable {X:Cx}{st:Stmt}{rest a b:List Stmt}{t u:TS}{pos:Pos}{e:Expr}{te:TE}
theorem qa2:QSs X [] tNext:=⟨yar⟩
theorem yaf(h:QS X st t):QSs X [st] t:=⟨qaf h.of⟩
theorem qad(h:QS X st t)(r:QSs X rest u):QSs X (st::rest) (tSeq t u):=⟨qaj h.of r.of⟩
theorem qss_cut(h:QS X st t)(r:QSs X rest u):QSs X (st::rest) (tCut t u):=⟨pss_cut h.of r.of⟩
theorem ylo(h:PS X st t):QS X st t:=⟨h⟩
end
end Mx
namespace L2
open PySem PySem.Spec PyProof.Rows PySem.Builtin PySem.Builtin.Str PySem.StrLaws
theorem Vals.strs:∀{ys:List Str}{us:List Value},Vals (ys.map V.str) us->StrsAre us ys
 |[],_,.nil=>.nil
 |y::ys,_,.cons r t=>by
  obtain ⟨k,rfl⟩:=r
  exact .cons y k (Vals.strs t)
section
variable {X:Cx}
def rJoin:V->List V->Hp->VK->Prop:=λx vs H Q=>∃(sep:Str) (l:Addr) (ys:List Str),x=.str sep/\vs=[.ref l]/\H l=some (.lst (ys.map V.str))/\(ys.map (·.length)).sum+ys.length*sep.length<=16777216/\Q (.str (Str.join sep ys)) H
theorem mt_join:MtM X "str.join" rJoin:=by
 intro pins s σ H x vs v us Q I rx rv h
 obtain ⟨sep,l,ys,rfl,rfl,hH,z,q⟩:=h
 obtain ⟨k,rfl⟩:=rx
 obtain ⟨u,rfl,ru⟩:=rv.one
 cases ru
 obtain ⟨_,its,n,r,hl,e⟩:=I.lstM hH
 refine join_list (items:=its.toArray) ⟨_,e,rfl,n,rfl⟩ r.strs z λt' k'=>?_
 rw[show Txt.join sep ys=Str.join sep ys from glued_eq_join sep ys]
 exact ⟨.str (Str.join sep ys),H,I.tok _,⟨_,rfl⟩,q⟩
end
end L2
namespace L2
open PySem PySem.Spec PyProof.Rows PyProof.Rows.KTD
def TabK(K:W.Frag)(a:Addr)(D:List (Str×List V)):Prop:=
 (a == sysModules)=false/\∃o es ep,K.lookup a=some o/\o.ExactDict/\o.data=.dict es ep/\KTD.Rows (λxs v=>∃p,v=.ref p/\∀H,SqT K H p xs) es.toList D
section
variable {prog:Program}{w:World}{A:Around}{E:Value->Shared->Prop}{s:Shared}{a:Addr}{k:Str}{tk:Tok}{o:Obj}{es:Array DictEntry}{ep:Nat}
theorem yfd{Q:Option Value->Shared->Prop}(g:s.heap.get? a=some o)(gd:o.data=.dict es ep)(ge:(es.toList.all λe=>isExactStrKey e.key)=true)
  (q:Q ((es.toList.find? λe=>e.key.isStr k).map (·.val)) { s with toks:=s.toks+1 }):wpAny (model prog w) A (dictGet a (.str k tk)) Q E s:=by
 obtain ⟨l⟩:=es
 have q2:Q (findBy (λk v=>v.isStr k) ⟨l⟩ k) { s with toks:=s.toks+1 }:=by
  rw[show findBy (λk v=>v.isStr k) (⟨l⟩:Array DictEntry) k=(l.find? λe=>e.key.isStr k).map (·.val) by simp[findBy]]
  exact q
 unfold dictGet
 try with_reducible refine wpAny_holding ?_
 refine wpAny_bind (wpAny_pyHash_str ?_)
 refine wpAny_bind ?_
 refine kt_dictFind_strs (s:={ s with toks:=s.toks+1 }) g gd (by simpa using ge) ?_
 rw[findBy_of_findIdx?]at q2
 revert q2
 cases (⟨l⟩:Array DictEntry).findIdx? λe=>e.key.isStr k with
 |none=>intro q2;exact wpAny_pure q2
 |some i=>intro q2;refine wpAny_bind ?_;exact wpAny_dictEntries (s:={ s with toks:=s.toks+1 }) g gd (wpAny_pure q2)
end
section
variable {X:Cx}{pins:List (Addr×Obj)}{σ:St}{H:Hp}{s:Shared}{a:Addr}{D:List (Str×List V)}
theorem TabK.dict(I:Inv X pins σ H s)(T:TabK X.K a D):s.TypeIs (.ref a) "dict"/\∀b,Value.ref a=.ref b->∃ob,s.heap.get? b=some ob/\ob.dict=none:=by
 obtain ⟨_,o,es,ep,hl,hx,hd,hr⟩:=T
 refine ⟨⟨o,I.kIn a o hl,hx.1⟩,λb e=>?_⟩
 cases e
 exact ⟨o,I.kIn a o hl,hx.2.1⟩
theorem TabK.ask{k:Str}{tk:Tok}{E:Value->Shared->Prop}{A:Around}{Q:Option Value->Shared->Prop}(I:Inv X pins σ H s)(T:TabK X.K a D)
  (h1:∀xs p,datumAt k D=some xs->(∀H,SqT X.K H p xs)->Q (some (.ref p)) { s with toks:=s.toks+1 }) (h2:datumAt k D=none->Q none { s with toks:=s.toks+1 }):wpAny (model X.prog X.w) A (dictGet a (.str k tk)) Q E s:=by
 obtain ⟨_,o,es,ep,hl,hx,hd,hr⟩:=T
 refine yfd (I.kIn a o hl) hd hr.exact ?_
 cases hat:datumAt k D with
 |some xs=>
  obtain ⟨v,hv,p,rfl,hp⟩:=hr.find_some hat
  rw[hv]
  exact h1 xs p hat hp
 |none=>rw[hr.find_none hat];exact h2 hat
def rIxTab(K:W.Frag)(D:List (Str×List V)):R2:=λx y H Q=>∃a k xs,x=.ref a/\y=.str k/\TabK K a D/\datumAt k D=some xs/\∀p,(∀H,SqT K H p xs)->Q (.ref p) H
theorem ix_tab:IxR X (rIxTab X.K D):=by
 intro value slice pins s σ H x y v u Q I rx ry h hs
 obtain ⟨a,k,xs,rfl,rfl,T,hd,q⟩:=h
 cases rx
 obtain ⟨tk,rfl⟩:=ry
 obtain ⟨hsm,o,es,ep,hl,hx,hd2,hr⟩:=id T
 obtain ⟨v,hv,p,rfl,hp⟩:=hr.find_some hd
 have fin:EP X pins σ Q (.ref p) { s with toks:=s.toks+1 }:=⟨.ref p,H,I.tok _,rfl,q p hp⟩
 refine subscriptTail_builtinR (x:=.ref p) (T.dict I).1 slot_dict_getitem.lookup ?_ hs
 unfold getItem
 try with_reducible refine wpAny_holding ?_
 refine wpAny_bind (wpAny_sequenceKey (T.dict I).1 (by decide) ?_)
 refine wpAny_bind (wpAny_callSpecial?_slot (name:=Str.ofString "__getitem__") (T.dict I).1 slot_dict_getitem (wpAny_call_entry slot_dict_getitem (T.dict I).1 entry_dict_getitem ?_ (args_dict_getitem _ _)))
 show wpAny _ _ (dictGet a (.str k tk) >>= _) _ _ _
 refine wpAny_bind (yfd (I.kIn a o hl) hd2 hr.exact ?_)
 rw[hv]
 exact wpAny_pure ⟨_,rfl,wpAny_pure ⟨rfl,fin⟩⟩
def rInTab(K:W.Frag)(D:List (Str×List V)):R2:=λx y H Q=>∃a k,x=.str k/\y=.ref a/\TabK K a D/\Q (.bl (inKeys k D)) H
theorem op_inTab:OpR X (compareOp .In) (rInTab X.K D):=by
 intro pins s σ H x y v u Q I rx ry h
 obtain ⟨a,k,rfl,rfl,T,q⟩:=h
 cases ry
 obtain ⟨tk,rfl⟩:=rx
 show wpAny _ _ (contains (.ref a) (.str k tk) >>= λc=>pure (Value.bool c)) _ _ s
 refine wpAny_bind ?_
 unfold contains
 try with_reducible refine wpAny_holding ?_
 refine wpAny_bind (wpAny_specialOf (T.dict I).1 slot_dict_contains.lookup ?_)
 show wpAny _ _ (if (some (Value.builtin "dict.__contains__") == some Value.none)=true then _ else _) _ _ s
 rw[if_neg (by rw[beq_builtin_none];exact Bool.false_ne_true)]
 refine wpAny_bind (wpAny_callSpecialUnlessNone?_slot (name:=Str.ofString "__contains__") (T.dict I).1 slot_dict_contains (wpAny_call_entry slot_dict_contains (T.dict I).1 entry_dict_contains ?_ (args_dict_contains _ _)))
 show wpAny _ _ (dictGet a (.str k tk) >>= _) _ _ _
 refine wpAny_bind (T.ask I (λxs p hd hp=>?_) λhn=>?_)
 ·have e:inKeys k D=true:=by rw[<-isSome_datumAt,hd];rfl
  rw[e]at q
  show wpAny _ _ (ret (.bool true)) _ _ _
  exact wpAny_pure ⟨_,rfl,wpAny_truthy_bool (wpAny_pure ⟨.bl true,H,I.tok _,rfl,q⟩)⟩
 ·have e:inKeys k D=false:=by rw[<-isSome_datumAt,hn];rfl
  rw[e]at q
  show wpAny _ _ (Builtin.Dict.pendingKey? a (.str k tk) >>= _) _ _ _
  exact wpAny_bind (wpAny_pendingKey_other T.1 (wpAny_pure ⟨_,rfl,wpAny_truthy_bool (wpAny_pure ⟨.bl false,H,I.tok _,rfl,q⟩)⟩))
end
end L2
namespace L2
open PySem PySem.Spec PyProof.Rows
section
variable {X:Cx}
theorem Vals.back:∀{xs:List V}{us:List Value},Vals xs us->∀u∈us,∃v∈xs,RelV v u
 |_,_,.nil,u,h=>nomatch h
 |x::xs,_,.cons r t,u,h=>by
  rcases mem_cons.mp h with rfl|h
  ·exact ⟨x,mem_cons_self ..,r⟩
  ·obtain ⟨v,hv,rv⟩:=Vals.back t u h
   exact ⟨v,mem_cons_of_mem _ hv,rv⟩
end
open Builtin.SmallTypes (nextOf)
def SIt(h:Heap)(tp:Bool)(q l:Addr)(i:Nat):Prop:=if tp then IsTupIter h q l i else h.IsListIter q l i
def SOf(h:Heap)(tp:Bool)(l:Addr)(its:Array Value):Prop:=if tp then IsTup h l its else h.IsList l its
section
variable {prog:Program}{w:World}{A:Around}{E:Value->Shared->Prop}{s:Shared}{q l:Addr}{i:Nat}{its:Array Value}
theorem SIt.at{h h':Heap}{tp:Bool}(x:SIt h tp q l i)(k:∀o,h.get? q=some o->h'.get? q=some o):SIt h' tp q l i:=by
 cases tp with
 |true=>obtain ⟨o,g,r⟩:=x;exact ⟨o,k o g,r⟩
 |false=>obtain ⟨o,g,r⟩:=x;exact ⟨o,k o g,r⟩
theorem SIt.obj{h:Heap}{tp:Bool}(x:SIt h tp q l i):∃o,h.get? q=some o/\∀v,o.data≠.cell v:=by
 cases tp with
 |true=>obtain ⟨o,g,c,d⟩:=x;exact ⟨o,g,λv z=>by rw[d]at z;cases z⟩
 |false=>obtain ⟨o,g,c,d⟩:=x;exact ⟨o,g,λv z=>by rw[d]at z;cases z⟩
theorem SOf.at{h h':Heap}{tp:Bool}(x:SOf h tp l its)(k:∀o,h.get? l=some o->h'.get? l=some o):SOf h' tp l its:=by
 cases tp with
 |true=>obtain ⟨o,g,r⟩:=x;exact ⟨o,k o g,r⟩
 |false=>obtain ⟨o,g,r⟩:=x;exact ⟨o,k o g,r⟩
theorem ydp{tp:Bool}{x:Value}{Q:Value->Shared->Prop}(hq:SIt s.heap tp q l i)(hl:SOf s.heap tp l its)(hx:its[i]?=some x)
  (k:∀h',SIt h' tp q l (i+1)->Heap.SameBut q s.heap h'->Q x { s with heap:=h' }):wpAny (model prog w) A (nextOf (.ref q)) Q E s:=by
 cases tp with
 |false=>exact wpAny_nextOf_list_item hq hl hx k
 |true=>
  have hq':IsTupIter s.heap q l i:=hq
  obtain ⟨o,go,gc,gd⟩:=id hq'
  obtain ⟨ol,gl,_,nl,gdl⟩:=(show IsTup s.heap l its from hl)
  unfold Builtin.SmallTypes.nextOf
  refine wpAny_bind (wpAny_callSpecial?_slot (name:=Str.ofString "__next__") hq'.typeIs slot_tupleiter_next (wpAny_call_entry slot_tupleiter_next hq'.typeIs entry_tupleiter_next ?_ (args_tupleiter_next _)))
  show wpAny _ _ (field (.ref q) 0 >>= _) _ _ s
  refine wpAny_bind (wpAny_field go gd (x:=.ref l) rfl ?_)
  show wpAny _ _ (if (Value.ref l == Value.none)=true then _ else _) _ _ s
  rw[if_neg (by exact Bool.false_ne_true:¬ ((Value.ref l == Value.none)=true))]
  show wpAny _ _ (field (.ref q) 1 >>= _) _ _ s
  refine wpAny_bind (wpAny_field go gd (x:=.int i 0) rfl ?_)
  show wpAny _ _ (seqItems? (.ref l) >>= _) _ _ s
  refine wpAny_bind (wpAny_seqItems gl gdl ?_)
  simp only[Int.toNat_natCast,hx]
  refine wpAny_bind (wpAny_setField go gd (by simp) (wpAny_pure ⟨x,rfl,?_⟩))
  refine wpAny_pure (k _ ?_ (Heap.SameBut.update ..))
  exact ⟨_,get?_update_self _ go (Obj.isFreed_of_fields (Obj.data_mapFields gd _)),(Obj.cls_mapFields ..).trans gc,by rw[Obj.data_mapFields gd];simp[rawInt]⟩
theorem ygm{tp:Bool}{Q:Value->Shared->Prop}(hh:A.handled=none)(hq:SIt s.heap tp q l i)(hl:SOf s.heap tp l its)(hx:its[i]?=none)
  (k:∀h' e,Heap.ExtBut q s.heap h'->(∃o,h'.get? e=some o/\o.cls=.type "StopIteration")->E (.ref e) { s with heap:=h' }):wpAny (model prog w) A (nextOf (.ref q)) Q E s:=by
 cases tp with
 |false=>exact wpAny_nextOf_list_end hh hq hl hx k
 |true=>
  have hq':IsTupIter s.heap q l i:=hq
  obtain ⟨o,go,gc,gd⟩:=id hq'
  obtain ⟨ol,gl,_,nl,gdl⟩:=(show IsTup s.heap l its from hl)
  unfold Builtin.SmallTypes.nextOf
  refine wpAny_bind (wpAny_callSpecial?_slot (name:=Str.ofString "__next__") hq'.typeIs slot_tupleiter_next (wpAny_call_entry slot_tupleiter_next hq'.typeIs entry_tupleiter_next ?_ (args_tupleiter_next _)))
  show wpAny _ _ (field (.ref q) 0 >>= _) _ _ s
  refine wpAny_bind (wpAny_field go gd (x:=.ref l) rfl ?_)
  show wpAny _ _ (if (Value.ref l == Value.none)=true then _ else _) _ _ s
  rw[if_neg (by exact Bool.false_ne_true:¬ ((Value.ref l == Value.none)=true))]
  show wpAny _ _ (field (.ref q) 1 >>= _) _ _ s
  refine wpAny_bind (wpAny_field go gd (x:=.int i 0) rfl ?_)
  show wpAny _ _ (seqItems? (.ref l) >>= _) _ _ s
  refine wpAny_bind (wpAny_seqItems gl gdl ?_)
  simp only[Int.toNat_natCast,hx]
  refine wpAny_bind (wpAny_rule ?_)
  refine wpAny_bind (wpAny_setField go gd (by simp) ?_)
  show wpAny _ _ (newExc (.type "StopIteration") [] >>= _) _ _ _
  refine wpAny_bind ?_
  simp only[newExc,newTuple]
  refine wpAny_bind (wpAny_newObj_type ?_ (by size_fits))
  refine wpAny_bind (m:=firstArgMember _ _) ?_
  refine wpAny_of_eq (a:=Value.none) (by first|rfl|(simp only[firstArgMember];rfl)) ?_
  refine wpAny_newObj_type ?_ (by size_fits)
  simp only[raiseNew]
  refine wpAny_bind (wpAny_handled ?_)
  first|rw[show A.in1.handled=none from hh]|rw[hh]
  refine wpAny_bind (wpAny_pure (wpAny_throw ?_))
  exact k _ _ (((Heap.SameBut.update ..).extBut.push _).push _) ⟨_,get?_push_size _ rfl,rfl⟩
theorem neN{a b:Nat}(h:a<b\/b<a):a≠b:=by omega
theorem zipNext{n l1 l2 k:Nat}{xs ys:Array Value}{x y a b:Value}{t1 t2:Bool}{Q:Value->Shared->Prop}(b1:l1<n)(b2:l2<n)(gz:IsZip s.heap (n+4) (n+2) (n+3) .none)(gi:IsPair s.heap (n+2) (.ref n) (.ref (n+1)))(go:IsPair s.heap (n+3) a b)
  (q1:SIt s.heap t1 n l1 k) (q2:SIt s.heap t2 (n+1) l2 k) (o1:SOf s.heap t1 l1 xs) (o2:SOf s.heap t2 l2 ys) (hx:xs[k]?=some x) (hy:ys[k]?=some y)
  (kk:∀h',IsZip h' (n+4) (n+2) (n+3) (rawInt s.heap.objs.size)->IsPair h' (n+3) x y->SIt h' t1 n l1 (k+1)->SIt h' t2 (n+1) l2 (k+1)->IsPair h' s.heap.objs.size x y->h'.objs.size=s.heap.objs.size+1->
   (∀c o,c≠n+4->c≠n+3->c≠n->c≠n+1->s.heap.get? c=some o->h'.get? c=some o)->Q (.ref s.heap.objs.size) { s with heap:=h' }) :
  wpAny (model prog w) A (Builtin.«zip.__next__» ⟨[.ref (n+4)],[]⟩) (λfin s'=>∃v,fin=.done (.ret v)/\Q v s') E s:=by
 show wpAny _ _ (field (.ref (n+4)) 2 >>= _) _ _ _
 refine wpAny_bind (wpAny_field gz rfl (x:=.bool false) rfl ?_)
 show wpAny _ _ (field (.ref (n+4)) 3 >>= _) _ _ _
 refine wpAny_bind (wpAny_field gz rfl (x:=.ref (n+2)) rfl ?_)
 refine wpAny_bind (wpAny_seqItems gi rfl ?_)
 show wpAny _ _ (Builtin.SmallTypes.ownedTupleIsFree (.ref (n+4)) >>= _) _ _ _
 refine wpAny_bind ?_
 unfold Builtin.SmallTypes.ownedTupleIsFree
 refine wpAny_bind (wpAny_field gz rfl (x:=.none) rfl ?_)
 refine wpAny_pure ?_
 simp only[if_true]
 refine wpAny_bind (wpAny_rule ?_)
 refine wpAny_bind (wpAny_field gz rfl (x:=.ref (n+3)) rfl ?_)
 refine wpAny_bind (wpAny_setField_rec gz (by simp) λm1 gz1 e1=>?_)
 replace gz1:IsZip m1 (n+4) (n+2) (n+3) .ellipsis:=gz1
 refine wpAny_bind ?_
 simp only[List.zipIdx_cons,List.zipIdx_nil,List.forIn_cons,List.forIn_nil]
 refine wpAny_bind (wpAny_bind ?_)
 refine wpAny_onRaise ?_
 show wpAny _ _ (nextOf (.ref n) >>= _) _ _ _
 refine wpAny_bind (ydp (q1.at λo g=>e1.extBut _ _ (neN (by omega)) g) (o1.at λo g=>e1.extBut _ _ (neN (by omega)) g) hx λm2 r1 e2=>?_)
 refine wpAny_pure ?_
 have go2:IsPair m2 (n+3) a b:=e2.extBut _ _ (neN (by omega)) (e1.extBut _ _ (neN (by omega)) go)
 refine wpAny_bind (wpAny_seqItems go2 rfl ?_)
 refine wpAny_bind (wpAny_updateSeq_pair go2 λm3 go3 e3=>?_)
 replace go3:IsPair m3 (n+3) x b:=go3
 refine wpAny_bind (wpAny_letGo ?_)
 refine wpAny_pure ?_
 refine wpAny_bind (wpAny_bind ?_)
 refine wpAny_onRaise ?_
 show wpAny _ _ (nextOf (.ref (n+1)) >>= _) _ _ _
 refine wpAny_bind (ydp (q2.at λo g=>e3.extBut _ _ (neN (by omega)) (e2.extBut _ _ (neN (by omega)) (e1.extBut _ _ (neN (by omega)) g))) (o2.at λo g=>e3.extBut _ _ (neN (by omega)) (e2.extBut _ _ (neN (by omega)) (e1.extBut _ _ (neN (by omega)) g))) hy λm4 r2 e4=>?_)
 refine wpAny_pure ?_
 have go4:IsPair m4 (n+3) x b:=e4.extBut _ _ (neN (by omega)) go3
 refine wpAny_bind (wpAny_seqItems go4 rfl ?_)
 refine wpAny_bind (wpAny_updateSeq_pair go4 λm5 go5 e5=>?_)
 replace go5:IsPair m5 (n+3) x y:=go5
 refine wpAny_bind (wpAny_letGo ?_)
 refine wpAny_pure (wpAny_pure ?_)
 refine wpAny_bind (wpAny_seqItems go5 rfl ?_)
 refine wpAny_bind (wpAny_newTuple ?_)
 have hsz:m5.objs.size=s.heap.objs.size:=by rw[e5.1,e4.1,e3.1,e2.1,e1.1]
 have gz5:IsZip m5 (n+4) (n+2) (n+3) .ellipsis:=e5.extBut _ _ (neN (by omega)) (e4.extBut _ _ (neN (by omega)) (e3.extBut _ _ (neN (by omega)) (e2.extBut _ _ (neN (by omega)) gz1)))
 have keep5:∀c o,c≠n+4->c≠n+3->c≠n->c≠n+1->s.heap.get? c=some o->m5.get? c=some o:=λc o d1 d2 d3 d4 g=>
  e5.extBut _ _ d2 (e4.extBut _ _ d4 (e3.extBut _ _ d2 (e2.extBut _ _ d3 (e1.extBut _ _ d1 g))))
 have r15:SIt m5 t1 n l1 (k+1):=r1.at λo g=>e5.extBut _ _ (neN (by omega)) (e4.extBut _ _ (neN (by omega)) (e3.extBut _ _ (neN (by omega)) g))
 have r25:SIt m5 t2 (n+1) l2 (k+1):=r2.at λo g=>e5.extBut _ _ (neN (by omega)) g
 have lt5:n+4<m5.objs.size:=lt_size gz5
 show wpAny _ _ (Builtin.SmallTypes.ownedTupleHandOut (.ref (n+4)) (.ref m5.objs.size) >>= _) _ _ _
 refine wpAny_bind ?_
 unfold Builtin.SmallTypes.ownedTupleHandOut
 have gz6:IsZip (m5.push { cls:=.type "tuple",data:=.seq #[x,y] }) (n+4) (n+2) (n+3) .ellipsis:=get?_push_of_some _ gz5
 refine wpAny_bind (wpAny_setField_rec gz6 (by simp) λm7 gz7 e7=>?_)
 replace gz7:IsZip m7 (n+4) (n+2) (n+3) (rawInt m5.objs.size):=gz7
 refine wpAny_setField_rec gz7 (by simp) λm8 gz8 e8=>?_
 replace gz8:IsZip m8 (n+4) (n+2) (n+3) (rawInt m5.objs.size):=gz8
 have up:∀c o,c≠n+4->m5.get? c=some o->m8.get? c=some o:=λc o d1 g=>e8.extBut _ _ d1 (e7.extBut _ _ d1 (get?_push_of_some _ g))
 have gt8:IsPair m8 m5.objs.size x y:=e8.extBut _ _ (ne_of_gt lt5) (e7.extBut _ _ (ne_of_gt lt5) (get?_push_size _ rfl))
 have hs8:m8.objs.size=m5.objs.size+1:=by rw[e8.1,e7.1,size_push]
 rw[hsz]at gz8 gt8 hs8
 refine wpAny_pure ⟨_,rfl,?_⟩
 show Q (.ref m5.objs.size) _
 rw[hsz]
 exact kk m8 gz8 (up _ _ (neN (by omega)) go5) (r15.at λo g=>up _ o (neN (by omega)) g) (r25.at λo g=>up _ o (neN (by omega)) g) gt8 hs8 λc o d1 d2 d3 d4 g=>up c o d1 (keep5 c o d1 d2 d3 d4 g)
theorem zipDone{n l1 l2 k:Nat}{xs ys:Array Value}{a b:Value}{t1 t2:Bool}{Q:Fin->Shared->Prop}(hh:A.handled=none)(b1:l1<n)(b2:l2<n)(gz:IsZip s.heap (n+4) (n+2) (n+3) .none)(gi:IsPair s.heap (n+2) (.ref n) (.ref (n+1)))(go:IsPair s.heap (n+3) a b)
  (q1:SIt s.heap t1 n l1 k) (q2:SIt s.heap t2 (n+1) l2 k) (o1:SOf s.heap t1 l1 xs) (o2:SOf s.heap t2 l2 ys) (hend:xs[k]?=none\/ys[k]?=none)
  (kk:∀h' e,(∀c o,c≠n+4->c≠n+3->c≠n->c≠n+1->s.heap.get? c=some o->h'.get? c=some o)->(∃o,h'.get? e=some o/\o.cls=.type "StopIteration")->E (.ref e) { s with heap:=h' }) :
  wpAny (model prog w) A (Builtin.«zip.__next__» ⟨[.ref (n+4)],[]⟩) Q E s:=by
 show wpAny _ _ (field (.ref (n+4)) 2 >>= _) _ _ _
 refine wpAny_bind (wpAny_field gz rfl (x:=.bool false) rfl ?_)
 show wpAny _ _ (field (.ref (n+4)) 3 >>= _) _ _ _
 refine wpAny_bind (wpAny_field gz rfl (x:=.ref (n+2)) rfl ?_)
 refine wpAny_bind (wpAny_seqItems gi rfl ?_)
 show wpAny _ _ (Builtin.SmallTypes.ownedTupleIsFree (.ref (n+4)) >>= _) _ _ _
 refine wpAny_bind ?_
 unfold Builtin.SmallTypes.ownedTupleIsFree
 refine wpAny_bind (wpAny_field gz rfl (x:=.none) rfl ?_)
 refine wpAny_pure ?_
 simp only[if_true]
 refine wpAny_bind (wpAny_rule ?_)
 refine wpAny_bind (wpAny_field gz rfl (x:=.ref (n+3)) rfl ?_)
 refine wpAny_bind (wpAny_setField_rec gz (by simp) λm1 gz1 e1=>?_)
 replace gz1:IsZip m1 (n+4) (n+2) (n+3) .ellipsis:=gz1
 refine wpAny_bind ?_
 simp only[List.zipIdx_cons,List.zipIdx_nil,List.forIn_cons,List.forIn_nil]
 refine wpAny_bind (wpAny_bind ?_)
 refine wpAny_onRaise ?_
 show wpAny _ _ (nextOf (.ref n) >>= _) _ _ _
 have p1:SIt m1 t1 n l1 k:=q1.at λo g=>e1.extBut _ _ (neN (by omega)) g
 have p2:SOf m1 t1 l1 xs:=o1.at λo g=>e1.extBut _ _ (neN (by omega)) g
 cases hx:xs[k]? with
 |none=>
  refine wpAny_bind (ygm hh p1 p2 hx λm2 e g2 he=>?_)
  obtain ⟨oe,hoe,hce⟩:=he
  have gz2:IsZip m2 (n+4) (n+2) (n+3) .ellipsis:=g2 _ _ (neN (by omega)) gz1
  have ne:e≠n+4:=λz=>by subst z;rw[gz2]at hoe;cases hoe;simp at hce
  refine wpAny_setField_rec gz2 (by simp) λm3 _ e3=>?_
  exact kk m3 e (λc o d1 _ d3 _ g=>e3.extBut _ _ d1 (g2 _ _ d3 (e1.extBut _ _ d1 g))) ⟨oe,e3.extBut _ _ ne hoe,hce⟩
 |some x=>
  have hy:ys[k]?=none:=by
   rcases hend with z|z
   ·rw[hx]at z;cases z
   ·exact z
  refine wpAny_bind (ydp p1 p2 hx λm2 r1 e2=>?_)
  refine wpAny_pure ?_
  have go2:IsPair m2 (n+3) a b:=e2.extBut _ _ (neN (by omega)) (e1.extBut _ _ (neN (by omega)) go)
  refine wpAny_bind (wpAny_seqItems go2 rfl ?_)
  refine wpAny_bind (wpAny_updateSeq_pair go2 λm3 go3 e3=>?_)
  refine wpAny_bind (wpAny_letGo ?_)
  refine wpAny_pure ?_
  refine wpAny_bind (wpAny_bind ?_)
  refine wpAny_onRaise ?_
  show wpAny _ _ (nextOf (.ref (n+1)) >>= _) _ _ _
  refine wpAny_bind (ygm hh (q2.at λo g=>e3.extBut _ _ (neN (by omega)) (e2.extBut _ _ (neN (by omega)) (e1.extBut _ _ (neN (by omega)) g))) (o2.at λo g=>e3.extBut _ _ (neN (by omega)) (e2.extBut _ _ (neN (by omega)) (e1.extBut _ _ (neN (by omega)) g))) hy λm4 e g4 he=>?_)
  obtain ⟨oe,hoe,hce⟩:=he
  have gz4:IsZip m4 (n+4) (n+2) (n+3) .ellipsis:=g4 _ _ (neN (by omega)) (e3.extBut _ _ (neN (by omega)) (e2.extBut _ _ (neN (by omega)) gz1))
  have ne:e≠n+4:=λz=>by subst z;rw[gz4]at hoe;cases hoe;simp at hce
  refine wpAny_setField_rec gz4 (by simp) λm5 _ e5=>?_
  exact kk m5 e (λc o d1 d2 d3 d4 g=>e5.extBut _ _ d1 (g4 _ _ d4 (e3.extBut _ _ d2 (e2.extBut _ _ d3 (e1.extBut _ _ d1 g))))) ⟨oe,e5.extBut _ _ ne hoe,hce⟩
def itN(tp:Bool):String:=if tp then "tuple_iterator" else "list_iterator"
theorem iterS{tp:Bool}{Q:Value->Shared->Prop}(hl:SOf s.heap tp l its)(k:Q (.ref s.heap.objs.size) { s with heap:=s.heap.push { cls:=.type (itN tp),data:=.fields #[.ref l,.int 0 0] } }):wpAny (model prog w) A (pyIter (.ref l)) Q E s:=by
 cases tp with
 |true=>exact iter_tuple hl k
 |false=>exact wpAny_pyIter_list hl k
theorem SIt.new{tp:Bool}{h:Heap}:SIt (h.push { cls:=.type (itN tp),data:=.fields #[.ref l,.int 0 0] }) tp h.objs.size l 0:=by
 cases tp with
 |true=>exact ⟨_,get?_push_size _ rfl,rfl,rfl⟩
 |false=>exact ⟨_,get?_push_size _ rfl,rfl,rfl⟩
abbrev zp1(h:Heap)(t1:Bool)(l1:Addr):Heap:=h.push { cls:=.type (itN t1),data:=.fields #[.ref l1,.int 0 0] }
abbrev zp2(h:Heap)(t1 t2:Bool)(l1 l2:Addr):Heap:=(zp1 h t1 l1).push { cls:=.type (itN t2),data:=.fields #[.ref l2,.int 0 0] }
abbrev zp3(h:Heap)(t1 t2:Bool)(l1 l2:Addr):Heap:=(zp2 h t1 t2 l1 l2).push { cls:=.type "tuple",data:=.seq #[.ref h.objs.size,.ref (zp1 h t1 l1).objs.size] }
abbrev zp4(h:Heap)(t1 t2:Bool)(l1 l2:Addr):Heap:=(zp3 h t1 t2 l1 l2).push { cls:=.type "tuple",data:=.seq #[.none,.none] }
abbrev zp5(h:Heap)(t1 t2:Bool)(l1 l2:Addr):Heap:=(zp4 h t1 t2 l1 l2).push { cls:=.type "zip",data:=.fields #[.none,.bool false,.bool false,.ref (zp2 h t1 t2 l1 l2).objs.size,.ref (zp3 h t1 t2 l1 l2).objs.size] }
theorem zipNew(t1 t2:Bool)(l1 l2:Addr)(xs ys:Array Value) :
  Meets (Builtin.«zip.__new__» ⟨[.type "zip",.ref l1,.ref l2],[]⟩) (λ_ R s=>SOf s.heap t1 l1 xs/\SOf s.heap t2 l2 ys/\R (.ok (.ret (.ref (zp4 s.heap t1 t2 l1 l2).objs.size))) { s with heap:=zp5 s.heap t1 t2 l1 l2 }):=
 .of_wp λprog w A R s h=>by
  obtain ⟨hp,g,d,tk,os⟩:=s
  obtain ⟨y1,y2,h⟩:=h
  have hsub:=sub_zip
  have Y1:SOf (Shared.heap ⟨hp,g,d,tk,os⟩) t1 l1 xs:=y1
  have Y2:SOf (Shared.heap ⟨hp.push { cls:=.type (itN t1),data:=.fields #[.ref l1,.int 0 0] },g,d,tk,os⟩) t2 l2 ys:=y2.at λo z=>get?_push_of_some _ z
  wp_walk using iterS Y1,iterS Y2
  exact ⟨_,rfl,h⟩
end
theorem ylx:bootBuiltins "zip"=some (.type "zip"):=by decide +kernel
section
variable {prog:Program}{w:World}{A:Around}{E:Value->Shared->Prop}{s:Shared}
def ZSt(h:Heap)(n:Nat)(t1 t2:Bool)(l1 l2:Addr)(i:Nat):Prop:=
 ∃a b,IsZip h (n+4) (n+2) (n+3) .none/\IsPair h (n+2) (.ref n) (.ref (n+1))/\IsPair h (n+3) a b/\SIt h t1 n l1 i/\SIt h t2 (n+1) l2 i
theorem ql9{t1 t2:Bool}{l1 l2:Addr}{xs ys:Array Value}{Q:Value->Shared->Prop}(y1:SOf s.heap t1 l1 xs)(y2:SOf s.heap t2 l2 ys)
  (k:∀h',ZSt h' s.heap.objs.size t1 t2 l1 l2 0->(∀c o,s.heap.get? c=some o->h'.get? c=some o)->Q (.ref (s.heap.objs.size+4)) { s with heap:=h' }) :
  wpAny (model prog w) A (call (.type "zip") [.ref l1,.ref l2]) Q E s:=by
 refine callType_new F.called_zip (by decide) (F.typeCall_zip_2 _ _) (F.newCall_zip_2 _ _) (λobj=>F.args_object_init_3 obj _ _) F.entry_zip_new (zipNew t1 t2 l1 l2 xs ys) ⟨y1,y2,?_⟩
 have z1:(zp1 s.heap t1 l1).objs.size=s.heap.objs.size+1:=size_push ..
 have z2:(zp2 s.heap t1 t2 l1 l2).objs.size=s.heap.objs.size+2:=by rw[size_push,z1]
 have z3:(zp3 s.heap t1 t2 l1 l2).objs.size=s.heap.objs.size+3:=by rw[size_push,z2]
 have z4:(zp4 s.heap t1 t2 l1 l2).objs.size=s.heap.objs.size+4:=by rw[size_push,z3]
 have u5:∀c o,(zp4 s.heap t1 t2 l1 l2).get? c=some o->(zp5 s.heap t1 t2 l1 l2).get? c=some o:=λc o g=>get?_push_of_some _ g
 have u4:∀c o,(zp3 s.heap t1 t2 l1 l2).get? c=some o->(zp5 s.heap t1 t2 l1 l2).get? c=some o:=λc o g=>u5 c o (get?_push_of_some _ g)
 have u3:∀c o,(zp2 s.heap t1 t2 l1 l2).get? c=some o->(zp5 s.heap t1 t2 l1 l2).get? c=some o:=λc o g=>u4 c o (get?_push_of_some _ g)
 have u2:∀c o,(zp1 s.heap t1 l1).get? c=some o->(zp5 s.heap t1 t2 l1 l2).get? c=some o:=λc o g=>u3 c o (get?_push_of_some _ g)
 have g5:(zp5 s.heap t1 t2 l1 l2).get? (zp4 s.heap t1 t2 l1 l2).objs.size=some _:=get?_push_size _ rfl
 have g4:(zp5 s.heap t1 t2 l1 l2).get? (zp3 s.heap t1 t2 l1 l2).objs.size=some _:=u5 _ _ (get?_push_size _ rfl)
 have g3:(zp5 s.heap t1 t2 l1 l2).get? (zp2 s.heap t1 t2 l1 l2).objs.size=some _:=u4 _ _ (get?_push_size _ rfl)
 have i2:SIt (zp5 s.heap t1 t2 l1 l2) t2 (zp1 s.heap t1 l1).objs.size l2 0:=SIt.new.at λo g=>u3 _ o g
 have i1:SIt (zp5 s.heap t1 t2 l1 l2) t1 s.heap.objs.size l1 0:=SIt.new.at λo g=>u2 _ o g
 show _/\_
 rw[z2,z3,z4]at g5
 rw[z1,z2]at g3
 rw[z3]at g4
 rw[z1]at i2
 rw[z4]
 exact ⟨⟨_,g5,rfl⟩,k _ ⟨_,_,g5,g3,g4,i1,i2⟩ λc o g=>u2 c o (get?_push_of_some _ g)⟩
end
def Sq(K:W.Frag)(tp:Bool)(H:Hp)(l:Addr)(xs:List V):Prop:=if tp then SqT K H l xs else SqL K H l xs
section
variable {X:Cx}{pins:List (Addr×Obj)}{σ:St}{H:Hp}{s:Shared}
theorem Inv.sq{tp:Bool}{l:Addr}{xs:List V}(I:Inv X pins σ H s)(h:Sq X.K tp H l xs):∃its:List Value,Vals xs its/\SOf s.heap tp l its.toArray/\l<s.heap.objs.size:=by
 cases tp with
 |true=>
  obtain ⟨its,r,pl,z⟩:=I.tuple h
  obtain ⟨o,g,_⟩:=id pl
  exact ⟨its,r,pl,lt_size g⟩
 |false=>
  obtain ⟨its,r,pl,z⟩:=I.list h
  obtain ⟨o,g,_⟩:=id pl.isList
  exact ⟨its,r,pl.isList,lt_size g⟩
theorem Inv.sq_inj{tp:Bool}{l:Addr}{xs ys:List V}(I:Inv X pins σ H s)(h:Sq X.K tp H l xs)(h':Sq X.K tp H l ys):xs=ys:=by
 cases tp with
 |true=>exact I.tuple_inj h h'
 |false=>exact I.list_inj h h'
end
section
variable {X:Cx}{pins:List (Addr×Obj)}{σ:St}{H:Hp}{s:Shared}{h':Heap}
theorem Inv.turnedM{ch:List Addr}{t':Nat}(I:Inv X pins σ H s)(k:∀b u,b∉ch->s.heap.get? b=some u->h'.get? b=some u)(hf:∀b∈ch,FpOk X pins H b):Inv X pins σ H { s with heap:=h',toks:=t' }:=by
 have nit:∀b u,H b=some u->b∉ch:=λb u e z=>by rw[(hf b z).1]at e;cases e
 refine I.step (g':=s.gens) (d':=s.drawn) (ch:=ch) (λb hb=>?_) (λb u _ _ hc e _=>k b u hc e) (λb u _ _ hc e _=>⟨u.slots,k b u hc e⟩) (λb u _ e n=>n)
  (λb u hc e=>⟨u,k b u hc e⟩) (λb xs e=>e) (λb u xs e=>e) (λb ps e=>⟨#[],by rw[e];simp⟩) (λm hm=>?_) (λb u e=>?_) I.bare
 ·obtain ⟨_,f1,_,f3,f4,f5⟩:=hf b hb
  exact ⟨f3,f1,f4,f5⟩
 ·obtain ⟨ob,es,ep,ho,r⟩:=hm
  exact ⟨ob,es,ep,k _ ob (λz=>(hf _ z).2.1 rfl) ho,r⟩
 ·refine (I.hok b u e).stay (λc v hc q=>k c v ?_ q) (λc q=>q) λc xs q=>q
  rcases hc with rfl|hc
  ·exact nit _ u e
  ·exact nit c _ hc
end
def Itz(K:W.Frag)(t1 t2:Bool)(l1 l2:Addr):It:=
  ⟨λi H=>∃xs ys x y,Sq K t1 H l1 xs/\Sq K t2 H l2 ys/\xs[i]?=some x/\ys[i]?=some y,
   λi H x H'=>∃p u v,H p=none/\x=.ref p/\H'=upd H p (.tup [u,v])/\∀xs ys,Sq K t1 H l1 xs->Sq K t2 H l2 ys->xs[i]?=some u/\ys[i]?=some v,
   λi H=>∃xs ys,Sq K t1 H l1 xs/\Sq K t2 H l2 ys/\(xs[i]?=none\/ys[i]?=none)⟩
theorem qh3{xs:List V}{us:List Value}{i:Nat}(r:Vals xs us)(h:xs[i]?=none):us[i]?=none:=by
 rw[List.getElem?_eq_none_iff]at h ⊢
 rw[<-r.length]
 exact h
theorem turn_zip{P:Program}{w:World}{K:W.Frag}{es:List Expr}{k:Nat}{tp:Pos}{t1 t2:Bool}(l1 l2 n:Nat)(b1:l1<n)(b2:l2<n) :
  Turn P w K (.Tuple es k tp) (Itz K t1 t2 l1 l2) [n,n+1,n+2,n+3,n+4] (n+4) (λi h=>ZSt h n t1 t2 l1 l2 i) where
 mem:=by simp
 obj:=λi h st b hb=>by
  obtain ⟨x,y,gz,gi,go,q1,q2⟩:=st
  have hb':b=n\/b=n+1\/b=n+2\/b=n+3\/b=n+4:=by simpa using hb
  rcases hb' with rfl|rfl|rfl|rfl|rfl
  ·exact q1.obj
  ·exact q2.obj
  ·exact ⟨_,gi,λv z=>by
    have z':Data.seq _ _=Data.cell v:=z
    cases z'⟩
  ·exact ⟨_,go,λv z=>by
    have z':Data.seq _ _=Data.cell v:=z
    cases z'⟩
  ·exact ⟨_,gz,λv z=>by
    have z':Data.fields _=Data.cell v:=z
    cases z'⟩
 keep:=λi h h' st kk=>by
  obtain ⟨x,y,gz,gi,go,q1,q2⟩:=st
  exact ⟨x,y,kk _ (by simp) _ gz,kk _ (by simp) _ gi,kk _ (by simp) _ go,q1.at λo z=>kk _ (by simp) o z,q2.at λo z=>kk _ (by simp) o z⟩
 item:=by
  intro X hP hw hK hc i pins s σ H E I hf st hg
  subst hP hw hK
  obtain ⟨xs,ys,x,y,hq1,hq2,hx,hy⟩:=hg
  obtain ⟨its1,rv1,so1,_⟩:=I.sq hq1
  obtain ⟨its2,rv2,so2,_⟩:=I.sq hq2
  obtain ⟨u1,hu1,ru1⟩:=rv1.get hx
  obtain ⟨u2,hu2,ru2⟩:=rv2.get hy
  obtain ⟨x0,y0,gz,gi,go,q1,q2⟩:=st
  have lt4:n+4<s.heap.objs.size:=lt_size gz
  have hT:s.TypeIs (.ref (n+4)) "zip":=⟨_,gz,rfl⟩
  unfold pyNext
  refine wpAny_bind (wpAny_attempt (wpAny_callSpecial?_slot (name:=Str.ofString "__next__") hT F.slot_zip_next (wpAny_call_entry F.slot_zip_next hT F.entry_zip_next ?_ (F.args_zip_next_1 _))))
  refine zipNext b1 b2 gz gi go q1 q2 so1 so2 (x:=u1) (y:=u2) (by simpa using hu1) (by simpa using hu2) λh' gz' go' r1 r2 hT' hsz kp=>?_
  refine wpAny_pure ?_
  refine ⟨_,rfl,wpAny_letOwnedTupleGo_zip gz' λh2 gz2 hs2=>?_⟩
  have kp2:∀b ob,b∉[n,n+1,n+2,n+3,n+4]->s.heap.get? b=some ob->h2.get? b=some ob:=λb ob hb z=>by
   have d4:b≠n+4:=λq=>hb (by simp[q])
   have d3:b≠n+3:=λq=>hb (by simp[q])
   have d0:b≠n:=λq=>hb (by simp[q])
   have d1:b≠n+1:=λq=>hb (by simp[q])
   exact (hs2.2 b d4).trans (kp b ob d4 d3 d0 d1 z)
  have up2:∀b ob,b≠n+4->h'.get? b=some ob->h2.get? b=some ob:=λb ob d z=>(hs2.2 b d).trans z
  have hT2:h2.get? s.heap.objs.size=some { cls:=.type "tuple",data:=.seq #[u1,u2] }:=up2 _ _ (ne_of_gt lt4) hT'
  have fresh:H s.heap.objs.size=none:=I.hok.fresh (le_refl _)
  have new:qbf X.prog X.w (upd H s.heap.objs.size (.tup [x,y])) h2 s.heap.objs.size (.tup [x,y]):=⟨by show 2<=sizeLine;decide,[u1,u2],.cons ru1 (.cons ru2 .nil),⟨_,hT2,rfl,_,rfl⟩⟩
  refine ⟨.ref s.heap.objs.size,upd H s.heap.objs.size (.tup [x,y]),I.turnedL kp2 hf (le_refl _) new,rfl,⟨_,x,y,fresh,rfl,rfl,λas bs ha hb=>by rw[I.sq_inj ha hq1,I.sq_inj hb hq2];exact ⟨hx,hy⟩⟩,⟨_,_,gz2,?_,up2 _ _ (neN (by omega)) go',r1.at λo z=>up2 _ o (neN (by omega)) z,r2.at λo z=>up2 _ o (neN (by omega)) z⟩,λb hb=>?_⟩
  ·exact up2 _ _ (neN (by omega)) (kp _ _ (neN (by omega)) (neN (by omega)) (neN (by omega)) (neN (by omega)) gi)
  ·rw[qah]
   ·exact (hf b hb).1
   ·have hb':b=n\/b=n+1\/b=n+2\/b=n+3\/b=n+4:=by simpa using hb
    rcases hb' with rfl|rfl|rfl|rfl|rfl<;>exact neN (by omega)
 done:=by
  intro X hP hw hK hc i pins s σ H E I hf st hg
  subst hP hw hK
  obtain ⟨xs,ys,hq1,hq2,hxy⟩:=hg
  obtain ⟨its1,rv1,so1,_⟩:=I.sq hq1
  obtain ⟨its2,rv2,so2,_⟩:=I.sq hq2
  obtain ⟨x0,y0,gz,gi,go,q1,q2⟩:=st
  have hT:s.TypeIs (.ref (n+4)) "zip":=⟨_,gz,rfl⟩
  have hend:its1.toArray[i]?=none\/its2.toArray[i]?=none:=hxy.imp (λz=>by simpa using qh3 rv1 z) λz=>by simpa using qh3 rv2 z
  unfold pyNext
  refine wpAny_bind (wpAny_attempt (wpAny_callSpecial?_slot (name:=Str.ofString "__next__") hT F.slot_zip_next (wpAny_call_entry F.slot_zip_next hT F.entry_zip_next (zipDone (I.ok.hd hc) b1 b2 gz gi go q1 q2 so1 so2 hend λh' e kp he=>?_) (F.args_zip_next_1 _))))
  obtain ⟨o,ho,hce⟩:=he
  refine wpAny_bind (wpAny_isInstance (T:="StopIteration") (b:=true) ⟨o,ho,hce⟩ isSubtype_stop ?_)
  refine wpAny_pure ⟨rfl,?_⟩
  refine I.turnedM (t':=s.toks) (ch:=[n,n+1,n+2,n+3,n+4]) (λb ob hb z=>?_) hf
  exact kp b ob (λq=>hb (by simp[q])) (λq=>hb (by simp[q])) (λq=>hb (by simp[q])) (λq=>hb (by simp[q])) z
 self:=λ_ _ _ _ _ st h=>by
  obtain ⟨x0,y0,gz,gi,go,q1,q2⟩:=st
  exact wpAny_pyIter_zip gz h
def iZip(K:W.Frag)(ta:TA):TI:=λσ H R=>ta σ H λvs H1=>∃t1 t2 l1 l2 xs ys,vs=[.ref l1,.ref l2]/\Sq K t1 H1 l1 xs/\Sq K t2 H1 l2 ys/\R (Itz K t1 t2 l1 l2) H1
section
variable {X:Cx}
theorem yhq{a b:Expr}{ta:TA}{p pos tp:Pos}{es:List Expr}{k:Nat}(hg:Gl X "zip")(hm:X.mg "zip"=none)(ha:PA X [a,b] ta)(hs:starEach [a,b] X.env=(false,eval a X.env)::starEach [b] X.env:=by rfl)(hp:(backTo pos (starEach [b] X.env)).any (·.1)=false:=by rfl) :
  PI X (.Tuple es k tp) (.Call (.Name "zip" p) [a,b] [] pos) (iZip X.K ta):=by
 intro pins s σ H R I h
 refine Call_ (qc6 I hg hm ylx (PyProof.Rows.callWith_type1 (thn (ha pos pins s σ H _ I h) λus s1 ⟨vs,H1,I1,r1,q1⟩=>?_) hs hp))
 obtain ⟨t1,t2,l1,l2,xs,ys,e,hq1,hq2,q⟩:=q1
 subst e
 cases r1 with
 |cons r rr=>
  cases rr with
  |cons r2 rr=>
   cases rr
   cases r
   cases r2
   obtain ⟨its1,rv1,so1,b1⟩:=I1.sq hq1
   obtain ⟨its2,rv2,so2,b2⟩:=I1.sq hq2
   refine ql9 so1 so2 λh' st kp=>?_
   obtain ⟨x0,y0,gz,gi,go,i1,i2⟩:=id st
   refine wpAny_pyIter_zip gz ⟨_,[s1.heap.objs.size,s1.heap.objs.size+1,s1.heap.objs.size+2,s1.heap.objs.size+3,s1.heap.objs.size+4],_,Itz X.K t1 t2 l1 l2,H1,rfl,I1.kept (t':=s1.toks) kp,turn_zip l1 l2 s1.heap.objs.size b1 b2,st,λb hb=>?_,q⟩
   have hb':s1.heap.objs.size<=b:=by
    have hb':b=s1.heap.objs.size\/b=s1.heap.objs.size+1\/b=s1.heap.objs.size+2\/b=s1.heap.objs.size+3\/b=s1.heap.objs.size+4:=by simpa using hb
    rcases hb' with rfl|rfl|rfl|rfl|rfl
    ·exact le_refl _
    ·exact Nat.le_add_right ..
    ·exact Nat.le_add_right ..
    ·exact Nat.le_add_right ..
    ·exact Nat.le_add_right ..
   exact I1.fpOk hb' (I1.hok.fresh hb')
theorem ylk{K:W.Frag}{t1 t2:Bool}{l1 l2:Addr}{xs ys:List V}{g:TG}{tb:TS}{D:Ends}{σ:St}{H:Hp}(hlen:xs.length=ys.length)(Pv:Nat->St->Hp->Prop)(h0:Pv 0 σ H)(hl:∀i σ H,i<=xs.length->Pv i σ H->Sq K t1 H l1 xs/\Sq K t2 H l2 ys)
  (hs:∀i x y p σ H,xs[i]?=some x->ys[i]?=some y->Pv i σ H->H p=none->g (.ref p) σ (upd H p (.tup [x,y])) λσ2 H2=>tb { D with nx:=Pv (i+1),ct:=Pv (i+1),bk:=D.nx } σ2 H2) (hd:∀σ H,Pv xs.length σ H->D.nx σ H) :
  ∃W:Nat->Nat->St->Hp->Prop,(∃m,W 0 m σ H)/\∀i m σ H,W i m σ H->
   ((Itz K t1 t2 l1 l2).stop i H/\D.nx σ H)\/((Itz K t1 t2 l1 l2).go i H/\∃N:St->Hp->Prop,(∀σ' H',N σ' H'->∃m',m' < m/\W (i+1) m' σ' H')/\∀x H',(Itz K t1 t2 l1 l2).yld i H x H'->g x σ H' λσ2 H2=>tb { D with nx:=N,ct:=N,bk:=D.nx } σ2 H2):=by
 refine ⟨λi m σ H=>m=xs.length-i/\i<=xs.length/\Pv i σ H,⟨xs.length,by simp,zero_le _,h0⟩,?_⟩
 rintro i m σ H ⟨rfl,hi,p⟩
 obtain ⟨q1,q2⟩:=hl i σ H hi p
 by_cases hlt:i<xs.length
 ·refine .inr ⟨⟨xs,ys,_,_,q1,q2,getElem?_eq_getElem hlt,getElem?_eq_getElem (by omega)⟩,Pv (i+1),λσ' H' p'=>⟨xs.length-(i+1),by omega,rfl,hlt,p'⟩,?_⟩
  rintro x H' ⟨pp,u,v,hp,rfl,rfl,hu⟩
  obtain ⟨h1,h2⟩:=hu xs ys q1 q2
  exact hs i u v pp σ H h1 h2 p hp
 ·have e:i=xs.length:=by omega
  subst e
  exact .inl ⟨⟨xs,ys,q1,q2,.inl (by simp)⟩,hd σ H p⟩
theorem qe0:bootBuiltins "sorted"=some (.builtin "sorted"):=by decide +kernel
theorem qh1:∀{us:List Value}{ns:List Int},IntsAre us ns->Vals (ns.map V.int) us
 |_,_,.nil=>.nil
 |_,_,.cons n t r=>.cons ⟨t,rfl⟩ (qh1 r)
theorem qd7:bootBuiltins "all"=some (.builtin "all"):=by decide +kernel
def rAllB:List V->Hp->VK->Prop:=λxs H Q=>∃(l:Addr) (bs:List Bool),xs=[.ref l]/\H l=some (.lst (bs.map V.bl))/\Q (.bl (bs.all id)) H
theorem yl3(bs:List Bool):(List.range bs.length).all (λi=>bs.getD i false)=bs.all id:=by
 rw[Bool.eq_iff_iff,all_eq_true,all_eq_true]
 constructor
 ·intro h b hb
  obtain ⟨i,hi,e⟩:=List.getElem_of_mem hb
  have:=h i (mem_range.mpr hi)
  rw[getD_eq_getElem?_getD,getElem?_eq_getElem hi]at this
  rw[<-e];exact this
 ·intro h i hi
  have hi':=mem_range.mp hi
  rw[getD_eq_getElem?_getD,getElem?_eq_getElem hi']
  exact h _ (getElem_mem hi')
theorem truth_bs{P:Program}{w:World}{A:Around}(bs:List Bool):TruthOf P w A (λi v=>(bs.map Value.bool).toArray[i]?=some v) (λi=>bs.getD i false):=by
 intro i v s Q E hP hQ
 have hP':(bs.map Value.bool)[i]?=some v:=by simpa using hP
 rw[getElem?_map]at hP'
 cases e:bs[i]? with
 |none=>rw[e]at hP';cases hP'
 |some b=>
  rw[e]at hP'
  cases hP'
  have hQ':Q (bs.getD i false) s:=hQ
  rw[getD_eq_getElem?_getD,e]at hQ'
  exact wpAny_truthy_bool hQ'
theorem qd0(hc:X.calm=true):yb7 X (.builtin "all") rAllB:=by
 intro pins s σ H xs us Q I r h
 obtain ⟨l,bs,rfl,hH,q⟩:=h
 cases r with
 |cons r rr=>
  cases rr
  cases r
  obtain ⟨z,its,n,rv,hl,e⟩:=I.lstM hH
  have hi:=rv.bls
  subst hi
  have hlt:l<s.heap.objs.size:=lt_size e
  refine call_all_walk (wpAny_pyIter_list (items:=(bs.map Value.bool).toArray) ⟨_,e,rfl,n,rfl⟩ ⟨_,_,_,_,_,_,_,rfl,Walks.list (by simpa using I.ok.hd hc) s.heap.objs.size l (ne_of_lt hlt) (bs.map Value.bool).toArray,⟨⟨_,get?_push_size _ rfl,rfl,rfl⟩,⟨_,get?_push_of_some _ e,rfl,n,rfl⟩⟩,truth_bs bs,λh' tk hk=>?_⟩)
  rw[size_toArray,length_map,yl3]
  refine ⟨.bl (bs.all id),H,I.kept λb o g=>hk b o ?_ (get?_push_of_some _ g),rfl,q⟩
  intro hb
  rw[mem_singleton]at hb
  exact absurd (lt_size g) (by rw[hb];exact lt_irrefl _)
end
section
variable {κ:Type} [DecidableEq κ]
def valV(kvs:List (κ×V))(k:κ):Option V:=(kvs.find? λkv=>decide (kv.1=k)).map (·.2)
def putK(kvs:List (κ×V))(k:κ)(v:V):List (κ×V):=
 if (kvs.any λkv=>decide (kv.1=k))=true then kvs.map (λkv=>if kv.1=k then (kv.1,v) else kv) else kvs++[(k,v)]
theorem qfa{p:κ×V}{r:List (κ×V)}{k:κ}(e:p.1=k):valV (p::r) k=some p.2:=by simp[valV,find?_cons,e]
theorem ye9{p:κ×V}{r:List (κ×V)}{k:κ}(e:¬ p.1=k):valV (p::r) k=valV r k:=by simp[valV,find?_cons,e]
theorem qjl(k:κ):∀kvs:List (κ×V),(kvs.any λkv=>decide (kv.1=k))=(valV kvs k).isSome
 |[]=>rfl
 |p::r=>by
  rw[any_cons]
  by_cases e:p.1=k
  ·simp only[qfa e,decide_eq_true e,Bool.true_or,Option.isSome_some]
  ·rw[ye9 e,decide_eq_false e,Bool.false_or];exact qjl k r
theorem yff(kvs:List (κ×V))(k:κ)(v:V):(putK kvs k v).length<=kvs.length+1:=by
 unfold putK
 split
 ·rw[length_map];omega
 ·rw[length_append,length_cons,length_nil];omega
theorem putK_new{kvs:List (κ×V)}{k:κ}(v:V)(h:valV kvs k=none):putK kvs k v=kvs++[(k,v)]:=by
 unfold putK
 rw[qjl,h]
 exact if_neg (by decide)
theorem KV.val{kvs:List (κ×V)}{vs:List (κ×Value)}(r:KV kvs vs)(k:κ):RelO (valV kvs k) (valueAt vs k):=by
 unfold KV at r
 induction r with
 |nil=>exact True.intro
 |@cons p q ps qs h t ih=>
  obtain ⟨h1,h2⟩:=h
  by_cases e:p.1=k
  ·have e':q.1=k:=h1.symm.trans e
   have b:valueAt (q::qs) k=some q.2:=by simp[valueAt,find?_cons,e']
   rw[qfa e,b];exact h2
  ·have e':¬ q.1=k:=λz=>e (h1.trans z)
   have b:valueAt (q::qs) k=valueAt qs k:=by simp[valueAt,find?_cons,e']
   rw[ye9 e,b];exact ih
theorem KV.any{kvs:List (κ×V)}{vs:List (κ×Value)}(r:KV kvs vs)(k:κ):(kvs.any λkv=>decide (kv.1=k))=vs.any λkv=>decide (kv.1=k):=by
 unfold KV at r
 induction r with
 |nil=>rfl
 |cons h t ih=>rw[any_cons,any_cons,ih,h.1]
theorem KV.repl{kvs:List (κ×V)}{vs:List (κ×Value)}(r:KV kvs vs)(k:κ){y:V}{u:Value}(ry:RelV y u) :
  KV (kvs.map λkv=>if kv.1=k then (kv.1,y) else kv) (vs.map λkv=>if kv.1=k then (kv.1,u) else kv):=by
 unfold KV at r ⊢
 induction r with
 |nil=>exact .nil
 |@cons p q ps qs h t ih=>
  rw[map_cons,map_cons]
  refine .cons ?_ ih
  obtain ⟨h1,h2⟩:=h
  by_cases e:p.1=k
  ·rw[if_pos e,if_pos (h1.symm.trans e)];exact ⟨h1,ry⟩
  ·rw[if_neg e,if_neg (λz=>e (h1.trans z))];exact ⟨h1,h2⟩
theorem KV.put{kvs:List (κ×V)}{vs:List (κ×Value)}(r:KV kvs vs)(k:κ){y:V}{u:Value}(ry:RelV y u):KV (putK kvs k y) (stored vs k u):=by
 unfold putK stored
 rw[r.any k]
 by_cases e:(vs.any λkv=>decide (kv.1=k))=true
 ·rw[if_pos e,if_pos e];exact r.repl k ry
 ·rw[if_neg e,if_neg e];exact Paired.snoc r ⟨rfl,ry⟩
theorem KV.length{kvs:List (κ×V)}{vs:List (κ×Value)}(r:KV kvs vs):kvs.length=vs.length:=Paired.length r
end
theorem kV_is{P:Program}{w:World}{k:Key}{u:Value}(r:RelV (kV k) u):(qbc P w).is k u=true:=by
 cases k with
 |inl i=>obtain ⟨t,e⟩:=(show ∃t,u=Value.int i t from r);subst e;exact qi7 P w i t
 |inr x=>obtain ⟨t,e⟩:=(show ∃t,u=Value.str x t from r);subst e;exact yje P w x t
theorem yh3{P:Program}{w:World}:∀{ks:List Key}{us:List Value},Vals (ks.map kV) us->ItemsAre (qbc P w) ks us
 |[],_,r=>by rw[map_nil]at r;cases r;exact .nil
 |k::ks,_,r=>by
  rw[map_cons]at r
  cases r with
  |cons h t=>exact .cons (kV_is h) (yh3 t)
abbrev KT(H:Hp):List (List Key×V)->List (List Key×Addr×Value)->Prop:=Paired λp q=>p.1=q.1/\H q.2.1=some (.tup (p.1.map kV))/\RelV p.2 q.2.2
theorem KT.val{H:Hp}{kvs:List (List Key×V)}{xs:List (List Key×Addr×Value)}(r:KT H kvs xs)(k:List Key):RelO (valV kvs k) ((atKey xs k).map (·.2)):=by
 induction r with
 |nil=>exact True.intro
 |@cons p q ps qs h t ih=>
  obtain ⟨h1,_,h2⟩:=h
  by_cases e:p.1=k
  ·have e':q.1=k:=h1.symm.trans e
   have b:atKey (q::qs) k=some q.2:=by simp[atKey,find?_cons,e']
   rw[qfa e,b];exact h2
  ·have e':¬ q.1=k:=λz=>e (h1.trans z)
   have b:atKey (q::qs) k=atKey qs k:=by simp[atKey,find?_cons,e']
   rw[ye9 e,b];exact ih
section
variable {P:Program}{w:World}{H:Hp}{h:Heap}{a:Addr}
theorem rd_of{u:HO}(ok:HOk P w H h)(e:Rd H a u):qbf P w H h a u:=e.ok ok
theorem yku{kvs:List (Key×V)}(ok:HOk P w H h)(e:Rd H a (.dK kvs)):kvs.length<=sizeLine/\(a == sysModules)=false/\∃vs,KV kvs vs/\h.DictOf (qbc P w) a vs:=
 show qbf P w H h a (.dK kvs) from rd_of ok e
theorem dk_of{kvs:List (Key×V)}(ok:HOk P w H h)(e:H a=some (.dK kvs)):kvs.length<=sizeLine/\(a == sysModules)=false/\∃vs,KV kvs vs/\h.DictOf (qbc P w) a vs:=yku ok (.inl e)
theorem key_of{ks:List Key}(ok:HOk P w H h)(e:H a=some (.tup (ks.map kV))):(tupleKind (qbc P w)).is h ks a:=by
 obtain ⟨_,its,r,o,h1,h2,n,h3⟩:=(show qbf P w H h a (.tup (ks.map kV)) from ok a _ e)
 exact ⟨o,its.toArray,n,h1,h2,h3,by simpa using yh3 r⟩
theorem dt_rd{kvs:List (List Key×V)}(ok:HOk P w H h)(e:Rd H a (.dT kvs)):kvs.length<=sizeLine/\(a == sysModules)=false/\
  ∃xs,KT H kvs xs/\h.DictOfH (tupleKind (qbc P w)) a xs:=by
 obtain ⟨z,y,xs,r,o,es,ep,h1,h2,h3,h4,h5⟩:=(show qbf P w H h a (.dT kvs) from rd_of ok e)
 refine ⟨z,y,xs,r,o,es,ep,h1,h2,h3,h4,λx hx=>?_,h5⟩
 have all:∀{l:List (List Key×V)}{m:List (List Key×Addr×Value)},KT H l m->∀x∈m,(tupleKind (qbc P w)).is h x.1 x.2.1:=by
  intro l m q
  induction q with
  |nil=>intro x hx;exact nomatch hx
  |@cons p q ps qs hq t ih=>
   intro x hx
   rcases mem_cons.mp hx with e|hx
   ·subst e
    exact key_of ok (by rw[<-hq.1];exact hq.2.1)
   ·exact ih x hx
 exact all r x hx
end
def DGet(H:Hp)(a:Addr)(y:V)(r:Option V):Prop:=
 (∃kvs k,Rd H a (.dK kvs)/\y=kV k/\r=valV kvs k)\/∃kvs k b,Rd H a (.dT kvs)/\y=.ref b/\H b=some (.tup (k.map kV))/\r=valV kvs k
theorem DGet.k{H:Hp}{a:Addr}{kvs:List (Key×V)}{k:Key}(e:H a=some (.dK kvs)):DGet H a (kV k) (valV kvs k):=.inl ⟨kvs,k,.inl e,rfl,rfl⟩
section
variable {X:Cx}{pins:List (Addr×Obj)}{σ:St}{H:Hp}{s:Shared}{a:Addr}{y v:V}{u r:Value}{o:Option V}{A:Around}{E:Value->Shared->Prop}
theorem Inv.big(I:Inv X pins σ H s):sysModules<s.heap.objs.size:=by
 have h:mainGlobals<s.heap.objs.size:=(I.mod.glob.keeps I.bk).lt
 exact Nat.lt_trans (by decide) h
theorem qlx{Q:Value->Shared->Prop}(hu:A.units+1<cLine)(I:Inv X pins σ H s)(g:DGet H a y (some v))(ry:RelV y u)(h:∀w' s',Inv X pins σ H s'->RelV v w'->Q w' s') :
  wpAny (model X.prog X.w) A (getItem (.ref a) u) Q E s:=by
 rcases g with ⟨kvs,k,e,ey,l⟩|⟨kvs,k,b,e,ey,eb,l⟩
 ·subst ey
  obtain ⟨z,hd,vs,rel,dd⟩:=yku I.hok e
  obtain ⟨w',hw,rw'⟩:=RelO.some_of (v:=v) (o:=valueAt vs k) (by rw[l];exact rel.val k)
  exact wpAny_getItem_of (kV_is ry) dd.mapOf hw (h w' _ (I.tok _) rw')
 ·subst ey
  cases (show u=Value.ref b from ry)
  obtain ⟨z,hd,xs,rel,dd⟩:=dt_rd I.hok e
  obtain ⟨w',hw,rw'⟩:=RelO.some_of (v:=v) (o:=(atKey xs k).map (·.2)) (by rw[l];exact rel.val k)
  obtain ⟨p,hp,hp2⟩:=Option.map_eq_some_iff.mp hw
  refine wpAny_getItem_heap (tupleKind_room_in1 hu) (key_of I.hok eb) dd hp ?_
  rw[hp2]
  exact h w' _ (I.tok _) rw'
theorem qky{h':Heap}{t':Nat}{ob:HO}(I:Inv X pins σ H s)(mu:Mut (H a))(hs:Heap.SameBut a s.heap h')(he:∃q,h'.get? a=some q)(new:qbf X.prog X.w (upd H a ob) h' a ob) :
  Inv X pins σ (upd H a ob) { s with heap:=h',toks:=t' }:=
 I.write (x:=a) (e:=a) mu (.inl rfl) (λb q hb z=>(hs.2 b hb).trans z) he new
theorem dk_new{P:Program}{w:World}{H':Hp}{h':Heap}{kvs:List (Key×V)}{vs:List (Key×Value)}(z:kvs.length<=sizeLine)(hd:(a == sysModules)=false)(rel:KV kvs vs)(dd:h'.DictOf (qbc P w) a vs) :
  qbf P w H' h' a (.dK kvs):=⟨z,hd,vs,rel,dd⟩
end
def NoSl(i:Expr):Prop:=∀ov iv,subscripted i false ov iv=operate [ov,iv] (getItem ov iv)
theorem subD_of{prog:Program}{w:World}{A:Around}{E:Value->Shared->Prop}{s:Shared}{env:Env}{value slice:Expr}{pos:Pos}{T id:String}{Q:Value->Shared->Prop}
  (hl:typeLookup (.type T) "__getitem__"=pure (some (.builtin id))) (hs:NoSl slice)
  (h:wpAny (model prog w) A (eval value env) (λo s₁=>wpAny (model prog w) A (eval slice env) (λi s₂=>s₂.TypeIs o T/\wpAny (model prog w) A (getItem o i) Q E s₂) E s₁) E s) :
  wpAny (model prog w) A (eval (.Subscript value slice pos) env) Q E s:=by
 refine Subscript_ (wpAny_mono h (λo s₁ h₁=>wpAny_mono h₁ (λi s₂ h₂=>?_) λ_ _ x=>x) λ_ _ x=>x)
 obtain ⟨hT,h₂⟩:=h₂
 unfold subscriptTail
 refine wpAny_bind ?_
 rw[getitemInPython_of_ne hT.not_modules]
 refine wpAny_bind (wpAny_specialOf hT hl ?_)
 have fin:wpAny (model prog w) A (subscripted slice false o i) (λr s₃=>wpAny (model prog w) A (letTemporaryGo value o r >>= λ_=>pure r) Q E s₃) E s₂:=by
  rw[hs o i]
  exact wpAny_operating (wpAny_mono h₂ (λr s₃ h₃=>wpAny_bind (wpAny_letTemporaryGo (wpAny_pure h₃))) λ_ _ x=>x)
 first
  |exact wpAny_pure (wpAny_bind fin)
  |exact wpAny_bind (wpAny_pure (wpAny_bind fin))
  |exact wpAny_bind fin
theorem qiy{X:Cx}{pins:List (Addr×Obj)}{σ:St}{H:Hp}{s:Shared}{a:Addr}{y:V}{o:Option V}(I:Inv X pins σ H s)(g:DGet H a y o):s.TypeIs (.ref a) "dict":=by
 rcases g with ⟨kvs,k,e,_,_⟩|⟨kvs,k,b,e,_,_,_⟩
 ·obtain ⟨_,_,vs,_,dd⟩:=yku I.hok e
  exact dd.typeIs
 ·obtain ⟨_,_,xs,_,dd⟩:=dt_rd I.hok e
  exact dd.typeIs
def tDGet(td ty:TE):TE:=λσ H Q=>td σ H λx H1=>ty σ H1 λy H2=>∃a v,x=.ref a/\DGet H2 a y (some v)/\Q v H2
section
variable {X:Cx}{o i e value:Expr}{pos pos' tpos:Pos}{td ty tv:TE}
theorem pe_dget(hu:X.A.units+1<cLine)(ho:PE X o td)(hi:PE X i ty)(hs:NoSl i):PE X (.Subscript o i pos) (tDGet td ty):=by
 intro pins s σ H Q I h
 refine subD_of PySem.F.slot_dict_getitem.lookup hs (thn (ho pins s σ H _ I h) λu s1 ⟨x,H1,I1,rx,q1⟩=>thn (hi pins s1 σ H1 _ I1 q1) λiv s2 ⟨y,H2,I2,ry,a,v,ex,g,q2⟩=>?_)
 subst ex
 obtain rfl:u=Value.ref a:=rx
 exact ⟨qiy I2 g,qlx hu I2 g ry λw' s3 I3 rw'=>⟨v,H2,I3,rw',q2⟩⟩
end
theorem qjo{P:Program}{w:World}{H:Hp}(h:Heap)(hb:sysModules<h.objs.size):qbf P w H (h.push { cls:=.type "dict",data:=.dict #[] }) h.objs.size (.dK []):=
 ⟨zero_le _,beq_eq_false_iff_ne.mpr (Ne.symm (ne_of_lt hb)),[],.nil,Heap.DictOf.new h⟩
def tDNewK:TE:=λ_ H Q=>∀p,H p=none->Q (.ref p) (upd H p (.dK []))
section
variable {X:Cx}{pos:Pos}
theorem pe_dnewK:PE X (.Dict [] [] pos) tDNewK:=λpins s σ H Q I h=>
 wpAny_Dict_empty ⟨.ref s.heap.objs.size,_,I.laid (a:=s.heap.objs.size) (o:=.dK []) (t':=s.toks) (λ_ _ q=>get?_push_of_some _ q) (le_refl _) (qjo s.heap I.big),rfl,h _ (I.hok.fresh (le_refl _))⟩
end
def ylu:List (TE×TE)->St->Hp->(List (V×V)->Hp->Prop)->Prop
 |[],_,H,Q=>Q [] H
 | (tk,tv)::r,σ,H,Q=>tk σ H λx H1=>tv σ H1 λy H2=>ylu r σ H2 λps H3=>Q ((x,y)::ps) H3
abbrev VV:List (V×V)->List (Value×Value)->Prop:=Paired λp q=>RelV p.1 q.1/\RelV p.2 q.2
def PPs(X:Cx)(pos:Pos)(keys:List (Option Expr))(values:List Expr)(trs:List (TE×TE)):Prop:=
 ∀(pins:List (Addr×Obj)) (s:Shared) (σ:St) (H:Hp) (Q:List (V×V)->Hp->Prop),Inv X pins σ H s->ylu trs σ H Q->
  wpAny (model X.prog X.w) X.A (evalPairs (pairTrees keys values X.env pos)) (λvs s'=>∃ps H',Inv X pins σ H' s'/\VV ps vs/\Q ps H') X.xe s
theorem pps_nil{X:Cx}{pos:Pos}:PPs X pos [] [] []:=λpins s σ H Q I h=>pairTrees_nil_walk ⟨[],H,I,.nil,h⟩
theorem pps_cons{X:Cx}{pos:Pos}{k v:Expr}{ks:List (Option Expr)}{vs:List Expr}{tk tv:TE}{trs:List (TE×TE)}(hk:PE X k tk)(hv:PE X v tv)(hr:PPs X pos ks vs trs) :
  PPs X pos (some k::ks) (v::vs) ((tk,tv)::trs):=λpins s σ H Q I h=>
 pairTrees_cons_walk (thn (hk pins s σ H _ I h) λu s1 ⟨x,H1,I1,rx,q1⟩=>thn (hv pins s1 σ H1 _ I1 q1) λw2 s2 ⟨y,H2,I2,ry,q2⟩=>
  thn (hr pins s2 σ H2 _ I2 q2) λws s3 ⟨ps,H3,I3,rel,q3⟩=>⟨(x,y)::ps,H3,I3,.cons ⟨rx,ry⟩ rel,q3⟩)
def qet(kvs more:List (Key×V)):List (Key×V):=more.foldl (λacc kv=>putK acc kv.1 kv.2) kvs
theorem KV.merge:∀{more:List (Key×V)}{rs:List (Key×Value)}{kvs:List (Key×V)}{vs:List (Key×Value)},KV more rs->KV kvs vs->KV (qet kvs more) (merged vs rs):=by
 intro more rs kvs vs r
 unfold KV at r
 induction r generalizing kvs vs with
 |nil=>intro q;exact q
 |@cons p q ps qs h t ih=>
  intro r0
  have e:KV (putK kvs p.1 p.2) (stored vs q.1 q.2):=by
   have:=r0.put p.1 h.2
   rw[<-h.1];exact this
  exact ih e
theorem yd2:∀(more kvs:List (Key×V)),(qet kvs more).length<=kvs.length+more.length
 |[],kvs=>by show kvs.length<=kvs.length+0;omega
 |p::r,kvs=>by
  have h1:=yd2 r (putK kvs p.1 p.2)
  have h2:=yff kvs p.1 p.2
  show (qet (putK kvs p.1 p.2) r).length<=_
  rw[length_cons];omega
theorem ygy{P:Program}{w:World}:∀{kvs:List (Key×V)}{ws:List (Value×Value)},VV (kvs.map λkv=>(kV kv.1,kv.2)) ws->∃rs,Carries (qbc P w) ws rs/\KV kvs rs
 |[],_,r=>by rw[map_nil]at r;cases r;exact ⟨[],True.intro,.nil⟩
 |p::kvs,_,r=>by
  rw[map_cons]at r
  cases r with
  |@cons a b as bs h t=>
   obtain ⟨rs,c,q⟩:=ygy (P:=P) (w:=w) t
   obtain ⟨b1,b2⟩:=b
   exact ⟨(p.1,b2)::rs,⟨kV_is h.1,rfl,c⟩,.cons ⟨rfl,h.2⟩ q⟩
def tDisp(trs:List (TE×TE)):TE:=λσ H Q=>∀p,H p=none->ylu trs σ (upd H p (.dK [])) λps H2=>H2 p=some (.dK [])/\∃kvs:List (Key×V),ps=kvs.map (λkv=>(kV kv.1,kv.2))/\kvs.length<=15/\Q (.ref p) (upd H2 p (.dK (qet [] kvs)))
theorem pe_disp{X:Cx}{pos:Pos}{keys:List (Option Expr)}{values:List Expr}{trs:List (TE×TE)}(h:PPs X pos keys values trs)(hall:keys.all (·.isSome)=true)(hl:keys.length=values.length)(h0:keys≠[])
  (h15:keys.length<=15):PE X (.Dict keys values pos) (tDisp trs):=by
 intro pins s σ H Q I q
 have hn:=I.hok.fresh (le_refl s.heap.objs.size)
 have I1:=I.laid (a:=s.heap.objs.size) (o:=.dK []) (h':=s.heap.push { cls:=.type "dict",data:=.dict #[] }) (t':=s.toks) (λ_ _ q=>get?_push_of_some _ q) (le_refl _) (qjo s.heap I.big)
 refine wpAny_Dict_walk (knd:=qbc X.prog X.w) hall hl h0 h15 (thn (h pins _ σ _ _ I1 (q _ hn)) λws s2 ⟨ps,H2,I2,rel,e,kvs,ep,lk,q2⟩=>?_)
 subst ep
 obtain ⟨rs,c,rk⟩:=ygy (P:=X.prog) (w:=X.w) rel
 obtain ⟨z,hd,vs0,r0,dd⟩:=dk_of I2.hok e
 cases r0
 refine ⟨rs,c,dd,λh' dd' hs=>⟨.ref s.heap.objs.size,_,?_,rfl,q2⟩⟩
 have hz:(qet [] kvs).length<=sizeLine:=by
  have h1:=yd2 kvs []
  rw[length_nil]at h1
  rw[sizeLine_eq];omega
 have he:∃q,h'.get? s.heap.objs.size=some q:=let ⟨q,_,_,hq,_⟩:=dd';⟨q,hq⟩
 exact qky I2 (by rw[e];exact True.intro) hs he (dk_new hz hd (rk.merge .nil) dd')
end L2
namespace Mx
open PySem L2 PyProof.Rows
structure QE(X:Cx)(e:Expr)(t:TE):Prop where
 of:PE X e t
structure QPs(X:Cx)(pos:Pos)(keys:List (Option Expr))(values:List Expr)(trs:List (TE×TE)):Prop where
 of:PPs X pos keys values trs
section
variable {X:Cx}{e o i:Expr}{te td ty:TE}{pos:Pos}
theorem qab(h:PE X e te):QE X e te:=⟨h⟩
theorem qps_nil:QPs X pos [] [] []:=⟨pps_nil⟩
theorem yhc{k v:Expr}{ks:List (Option Expr)}{vs:List Expr}{tk tv:TE}{trs:List (TE×TE)}(hk:QE X k tk)(hv:QE X v tv)(hr:QPs X pos ks vs trs):QPs X pos (some k::ks) (v::vs) ((tk,tv)::trs):=⟨pps_cons hk.of hv.of hr.of⟩
theorem qe_disp{keys:List (Option Expr)}{values:List Expr}{trs:List (TE×TE)}(h:QPs X pos keys values trs)(hall:keys.all (·.isSome)=true)(hl:keys.length=values.length)(h0:keys≠[])(h15:keys.length<=15):QE X (.Dict keys values pos) (tDisp trs):=⟨pe_disp h.of hall hl h0 h15⟩
theorem qe_dget(hu:X.A.units+1<cLine)(ho:QE X o td)(hi:QE X i ty)(hs:NoSl i):QE X (.Subscript o i pos) (tDGet td ty):=⟨pe_dget hu ho.of hi.of hs⟩
theorem qs_setE{i:Nat}{x:Str}{pos':Pos}(hN:X.N.Nodup)(hi:X.N[i]?=some x)(hx:Loc X.env.scope x)(he:QE X e te)(hs:swapsWith e (some (.Name x pos')) pos.line X.env=pure false:=by rfl)(hf:X.fn x=true\/X.env.scope.names.lookup x=some .local:=by first|exact .inl rfl|exact .inr rfl|assumption) :
  QS X (.Assign [.Name x pos'] e pos) (tAsg te (qf0 i)):=⟨ps_set hN hi hx he.of hs hf⟩
theorem qsE(i:Nat){x:Str}{pos':Pos}(hN:X.N.Nodup)(he:QE X e te)(hi:X.N[i]?=some x:=by rfl)(hx:Loc X.env.scope x:=by exact Or.inl rfl)(hs:swapsWith e (some (.Name x pos')) pos.line X.env=pure false:=by rfl)(hf:X.fn x=true\/X.env.scope.names.lookup x=some .local:=by first|exact .inl rfl|exact .inr rfl|assumption):QS X (.Assign [.Name x pos'] e pos) (tAsg te (qf0 i)):=qs_setE hN hi hx he hs hf
theorem qao(he:QE X e te):QS X (.Return (some e) pos) (tRet te):=⟨qaq he.of⟩
structure QT(X:Cx)(e:Expr)(t:TT):Prop where
 of:PT X e t
theorem qt_of{t:TT}(h:PT X e t):QT X e t:=⟨h⟩
theorem ya9{a b:List Stmt}{t u:TS}{c:Expr}{tc:TT}(hc:QT X c tc)(ha:QSs X a t)(hb:QSs X b u):QS X (.If c a b pos) (tIfS tc t u):=⟨ybj hc.of ha.of hb.of⟩
def tTStrs(xs:List Str):TE:=λ_ H Q=>xs.length<=sizeLine/\∀p,H p=none->Q (.ref p) (upd H p (.tup (xs.map V.str)))
theorem qe_tstrs{es:List Expr}{k}{xs:List Str}(h:ygq es=some xs):QE X (.Tuple es k pos) (tTStrs xs):=⟨by
 intro pins s σ H Q I hq
 refine ybn (pa_strs h) pins s σ H Q I ?_
 exact ⟨by rw[length_map];exact hq.1,hq.2⟩⟩
theorem qar{a b:Expr}{ta tb:TE}{op:CmpOp}{r:R2}(ho:OpR X (compareOp op) r)(ha:QE X a ta)(hb:QE X b tb)(hm:behindInMarks op b=false):QT X (.Compare a [op] [b] pos) (tTest (tOp r ta tb)):=⟨yam ho ha.of hb.of hm⟩
theorem qap{a b:Expr}{ta tb:TE}{r:R2}(hr:IxR X r)(ha:QE X a ta)(hb:QE X b tb)(hs:ykr b:=by intro _ _;rfl):QE X (.Subscript a b pos) (tOp r ta tb):=⟨yan hr ha.of hb.of hs⟩
structure QA(X:Cx)(es:List Expr)(t:TA):Prop where
 of:PA X es t
theorem qae:QA X [] tNil:=⟨yac⟩
theorem qat{es:List Expr}{t:TA}(h:QA X es t):QE X (.List es pos) (tLst t):=⟨ycb h.of⟩
theorem qa6{es:List Expr}{k}{t:TA}(h:QA X es t):QE X (.Tuple es k pos) (tTup t):=⟨ybn h.of⟩
end
section
variable {X:Cx}{e a b c:Expr}{es:List Expr}{te ta tb:TE}{t:TA}{tA tB':TT}{pos p:Pos}{x:Str}{rest:List Expr}
theorem ya3{k:Const}{j}(ha:QE X (.Constant k j pos) te)(hr:QA X es t):QA X (.Constant k j pos::es) (qdg te t):=⟨yka ha.of hr.of⟩
theorem yag{x:Str}(ha:QE X (.Name x pos) te)(hr:QA X es t):QA X (.Name x pos::es) (qdg te t):=⟨qbs ha.of hr.of⟩
theorem yh2{f xs ks}(ha:QE X (.Call f xs ks pos) te)(hr:QA X es t):QA X (.Call f xs ks pos::es) (qdg te t):=⟨pa_cl ha.of hr.of⟩
theorem ybd{o i:Expr}(ha:QE X (.Subscript o i pos) te)(hr:QA X es t):QA X (.Subscript o i pos::es) (qdg te t):=⟨yaa ha.of hr.of rfl⟩
theorem yhi{o i:Expr}{op}(ha:QE X (.BinOp o op i pos) te)(hr:QA X es t):QA X (.BinOp o op i pos::es) (qdg te t):=⟨yaa ha.of hr.of rfl⟩
theorem qgc{xs k}(ha:QE X (.Tuple xs k pos) te)(hr:QA X es t):QA X (.Tuple xs k pos::es) (qdg te t):=⟨yaa ha.of hr.of rfl⟩
theorem qa_ls{xs}(ha:QE X (.List xs pos) te)(hr:QA X es t):QA X (.List xs pos::es) (qdg te t):=⟨yaa ha.of hr.of rfl⟩
theorem qa_cp{l o r}(ha:QE X (.Compare l o r pos) te)(hr:QA X es t):QA X (.Compare l o r pos::es) (qdg te t):=⟨yaa ha.of hr.of rfl⟩
theorem qa_lc{l o r}(ha:QE X (.ListComp l o r pos) te)(hr:QA X es t):QA X (.ListComp l o r pos::es) (qdg te t):=⟨yaa ha.of hr.of rfl⟩
theorem qa5{op:Operator}{r:R2}(ho:OpR X (binaryOp op) r)(ha:QE X a ta)(hb:QE X b tb):QE X (.BinOp a op b pos) (tOp r ta tb):=⟨yau ho ha.of hb.of⟩
theorem qi3{op:CmpOp}{r:R2}(ho:OpR X (compareOp op) r)(ha:QE X a ta)(hb:QE X b tb)(hm:behindInMarks op b=false):QE X (.Compare a [op] [b] pos) (tOp r ta tb):=⟨qa4 ho ha.of hb.of hm⟩
theorem qhc(hc:QT X c tA)(ha:QE X a ta)(hb:QE X b tb):QE X (.IfExp c a b pos) (tIf tA ta tb):=⟨ye7 hc.of ha.of hb.of⟩
theorem qe_mid(h:QE X e te):QE X e (tMid te):=⟨pe_mid h.of⟩
structure QW(X:Cx)(e:Expr)(t:TT):Prop where
 of:PW X e t
theorem qdr(ha:QT X a tA):QW X (.BoolOp .And [a] pos) tA:=⟨yb4 ha.of⟩
theorem qli(ha:QT X a tA):QW X (.BoolOp .Or [a] pos) tA:=⟨qjm ha.of⟩
theorem qes(ha:QT X a tA)(hb:QW X (.BoolOp .And (b::rest) pos) tB'):QW X (.BoolOp .And (a::b::rest) pos) (tAnd tA tB'):=⟨yb9 ha.of hb.of⟩
theorem yls(ha:QT X a tA)(hb:QW X (.BoolOp .Or (b::rest) pos) tB'):QW X (.BoolOp .Or (a::b::rest) pos) (tOr tA tB'):=⟨pw_or ha.of hb.of⟩
theorem QW.pt(h:QW X e tA):QT X e tA:=⟨h.of.pt⟩
theorem qgo(ha:QT X a tA):QT X (.UnaryOp .Not a pos) (tNot tA):=⟨yc5 ha.of⟩
theorem qc9{f xs ks}(h:QE X (.Call f xs ks pos) te):QT X (.Call f xs ks pos) (tB te):=⟨qca h.of⟩
variable {id T:String}{r:List V->Hp->VK->Prop}
theorem qa1(hc:yb7 X (.builtin id) r)(hg:Gl X x)(hm:X.mg x=none)(hv:bootBuiltins x=some (.builtin id))(ha:QA X (e::es) t)(hn:x≠"__name__":=by decide)(hdb:(x == ("__debug__" : Str))=false:=by decide)
  (he:starEach (e::es) X.env=(false,eval e X.env)::starEach es X.env:=by rfl) (hpl:(backTo pos (starEach es X.env)).any (·.1)=false:=by rfl):QE X (.Call (.Name x p) (e::es) [] pos) (tCB r t):=⟨qak hc hg hm hv ha.of hn hdb he hpl⟩
theorem yb5(hc:yb7 X (.type T) r)(hg:Gl X x)(hm:X.mg x=none)(hv:bootBuiltins x=some (.type T))(ha:QA X (e::es) t)(hn:x≠"__name__":=by decide)(hdb:(x == ("__debug__" : Str))=false:=by decide)
  (he:starEach (e::es) X.env=(false,eval e X.env)::starEach es X.env:=by rfl) (hpl:(backTo pos (starEach es X.env)).any (·.1)=false:=by rfl):QE X (.Call (.Name x p) (e::es) [] pos) (tCB r t):=⟨qcj hc hg hm hv ha.of hn hdb he hpl⟩
theorem yal{k m:Nat}{ps:List Str}{sp:Sp}(h:Has X.prog X.w X.K X.mg X.base k x ps sp)(hr:Room m X.A)(ha:QA X (e::es) t)(hk:k<=m:=by decide)(hg:Gl X x:=by rfl)
  (hdb:(x == ("__debug__" : Str))=false:=by decide) (he:starEach (e::es) X.env=(false,eval e X.env)::starEach es X.env:=by rfl) (hpl:(backTo pos (starEach es X.env)).any (·.1)=false:=by rfl):QE X (.Call (.Name x p) (e::es) [] pos) (tCall sp [] E0 t):=⟨yai h hr ha.of hk hg hdb he hpl⟩
structure QI(X:Cx)(tg iter:Expr)(wi:TI):Prop where
 of:PI X tg iter wi
theorem qf9{tg iter:Expr}{wi:TI}(h:PI X tg iter wi):QI X tg iter wi:=⟨h⟩
theorem qbn{tg l:Expr}{tl:TE}(h:QE X l tl):QI X tg l (iList X.K tl):=⟨qa7 h.of⟩
theorem ya8{tg iter:Expr}{body:List Stmt}{wi:TI}{g:TG}{tb:TS}(hp:PassesOwn (model X.prog X.w) X.A X.env X.xe)(hc:X.calm=true)(hi:QI X tg iter wi)(hg:PG X tg g)(hb:QSs X body tb)(hs:∀x,foldedSetIterable iter X.env x=pure x:=by intro _;rfl):QS X (.For tg iter body [] pos) (tFor wi g tb):=⟨yby hp hc hi.of hg hb.of hs⟩
theorem qax(he:QE X e te)(hs:swapsWith e none pos.line X.env=pure false:=by rfl):QS X (.Expr e pos) (tDrop te):=⟨qbi he.of hs⟩
theorem qji{tg:Expr}{g:TG}(he:QE X e te)(hg:PG X tg g)(hs:swapsWithSole [tg] e pos.line X.env=pure false:=by rfl)(hw:swappedStores [tg] e X.env=pure none:=by rfl)(h1:(assignEach [tg] X.env).map (·.2)=[assign tg X.env]:=by rfl):QS X (.Assign [tg] e pos) (tAsg te g):=⟨qk9 he.of hg hs hw h1⟩
end
theorem qag{X:Cx}{st:Stmt}{rest ss:List Stmt}{t:TS}(h:ss=st::rest)(p:QSs X (st::rest) t):QSs X ss t:=h ▸ p
section
variable {P:Program}{w:World}{K:W.Frag}{mg:Str->Option Value}{base:Heap}
theorem Has.ofQ{x:Str}{st:Stmt}{ps N:List Str}{k:Nat}{sp:Sp}(F:FnAt K mg x st ps)(S:FnScope N ps (qac st))(len:∀vs H Q E,sp vs H Q E->vs.length=ps.length)
  (hbody:∀(f:Addr) (cdv:Value) (A:Around) (outer:List Env) (s:Shared) (H:Hp) (vs:List V) (Q:VK) (E:XK),Room k (A.deeper (envOfC x (qac st) s.heap.objs.size f cdv))->sp vs H Q E->
   ∃t,QSs (cxOf CX0 P w K mg base N x (qac st) f cdv A outer s H E).nox (yat st) t/\t { nx:=λ_ H'=>Q .non H',rt:=Q } (qe7 N vs) H):Has P w K mg base (k+1) x ps sp:=
 Has.of F S len λf cdv A outer s H vs Q E hr h=>by
  obtain ⟨t,h1,h2⟩:=hbody f cdv A outer s H vs Q E hr h
  exact ⟨t,h1.of,h2⟩
theorem Fun.okQ{x qual:Str}{st:Stmt}{f:Addr}{fd:FuncData}{N ps:List Str}{k:Nat}{sp:Sp}(F:Fun K x qual st f fd)(S:FnScope N ps (qac st))(len:∀vs H Q E,sp vs H Q E->vs.length=ps.length)
  (hbody:∀(cdv:Value) (A:Around) (outer:List Env) (s:Shared) (H:Hp) (vs:List V) (Q:VK) (E:XK),Room k (A.deeper (envOfC qual (qac st) s.heap.objs.size f cdv))->sp vs H Q E->
   ∃t,QSs (cxOf CX0 P w K mg base N qual (qac st) f cdv A outer s H E).nox (yat st) t/\t { nx:=λ_ H'=>Q .non H',rt:=Q } (qe7 N vs) H):FnOk P w K mg base CX0 (k+1) f fd ps sp:=
 F.ok S len λcdv A outer s H vs Q E hr h=>by
  obtain ⟨t,h1,h2⟩:=hbody cdv A outer s H vs Q E hr h
  exact ⟨t,h1.of,h2⟩
end
def ycx(K:W.Frag)(C:Addr)(m qual:Str)(st:Stmt)(ps:List Str):Prop:=∃f fd,Meth K C m f/\Fun K m qual st f fd/\qeb K fd ps []
def HasM(P:Program)(w:World)(K:W.Frag)(mg:Str->Option Value)(base:Heap)(C:Addr)(k:Nat)(m:Str)(ps:List Str)(sp:Sp):Prop:=
 ∃f fd,Meth K C m f/\qeb K fd ps []/\FnOk P w K mg base CX0 k f fd ps sp
def HasI(P:Program)(w:World)(K:W.Frag)(mg:Str->Option Value)(base:Heap)(C:Addr)(k:Nat)(x:Str)(ps:List Str)(sp:Sp):Prop:=
 ∃f fd,mg x=some (.ref C)/\Mk K C f/\qeb K fd ps []/\FnOk P w K mg base CX0 k f fd ps sp
section
variable {P:Program}{w:World}{K:W.Frag}{mg:Str->Option Value}{base:Heap}{C:Addr}
theorem HasM.ofQ{m qual:Str}{st:Stmt}{ps N:List Str}{k:Nat}{sp:Sp}(F:ycx K C m qual st ps)(S:FnScope N ps (qac st))(len:∀vs H Q E,sp vs H Q E->vs.length=ps.length)
  (hbody:∀(f:Addr) (cdv:Value) (A:Around) (outer:List Env) (s:Shared) (H:Hp) (vs:List V) (Q:VK) (E:XK),Room k (A.deeper (envOfC qual (qac st) s.heap.objs.size f cdv))->sp vs H Q E->
   ∃t,QSs (cxOf CX0 P w K mg base N qual (qac st) f cdv A outer s H E).nox (yat st) t/\t { nx:=λ_ H'=>Q .non H',rt:=Q } (qe7 N vs) H):HasM P w K mg base C (k+1) m ps sp:=by
 obtain ⟨f,fd,h1,h2,h3⟩:=F
 exact ⟨f,fd,h1,h3,Mx.Fun.okQ h2 S len λcdv A outer s H vs Q E hr h=>hbody f cdv A outer s H vs Q E hr h⟩
theorem HasI.of{x m:Str}{ps:List Str}{k:Nat}{sp:Sp}{f:Addr}(hm:mg x=some (.ref C))(M:Mk K C f)(u:∀g,Meth K C "__init__" g->g=f)(h:HasM P w K mg base C k "__init__" ps sp):HasI P w K mg base C k x ps sp:=by
 obtain ⟨g,fd,h1,h2,h3⟩:=h
 have:=u g h1
 subst this
 exact ⟨g,fd,hm,M,h2,h3⟩
theorem meth_un{m:Str}{f g:Addr}(a:W.findIn K (.ref C) m=some (some (.ref f)))(b:Meth K C m g):g=f:=by
 have:=b.at_
 rw[a]at this
 cases this
 rfl
end
section
variable {X:Cx}{e o value:Expr}{es:List Expr}{te ta tv:TE}{t:TA}{pos p apos pos':Pos}{C:Addr}{m x f:Str}
theorem qe9{k n:Nat}{ps:List Str}{sp:Sp}{pl:Sem Bool}(c:Cls X.K C)(h:HasM X.prog X.w X.K X.mg X.base C k m ps sp)(hr:Room n X.A)(he:QE X o ta)(ha:QA X (e::es) t)(hk:k<=n:=by decide)
  (hst:starEach (e::es) X.env=(false,eval e X.env)::starEach es X.env:=by rfl) (hpl:(backTo pos (starEach es X.env)).any (·.1)=false:=by rfl)
  (ht:eval (.Call (.Attribute o m apos) (e::es) [] pos) X.env=(do
   let ov <-eval o X.env
   standAt apos.atName
   let (f,first) <-holding [ov] (getMethod ov m pl)
   callWith pos f first (backTo pos (starEach (e::es) X.env)) (backToKw pos (keywordEach [] X.env))):=by rfl) :
  QE X (.Call (.Attribute o m apos) (e::es) [] pos) (tMeth C m sp [] E0 ta t):=by
 obtain ⟨f,fd,h1,h2,h3⟩:=h
 exact ⟨pe_meth (pl:=pl) he.of c h1 h3 (hr.mono hk) h2 .nil pass0 ha.of hst hpl ht⟩
theorem ylg{k n:Nat}{ps:List Str}{sp:Sp}{pl:Sem Bool}(c:Cls X.K C)(h:HasM X.prog X.w X.K X.mg X.base C k m ps sp)(hr:Room n X.A)(he:QE X o ta)(hk:k<=n:=by decide)
  (ht:eval (.Call (.Attribute o m apos) [] [] pos) X.env=(do
   let ov <-eval o X.env
   standAt apos.atName
   let (f,first) <-holding [ov] (getMethod ov m pl)
   callWith pos f first (backTo pos (starEach [] X.env)) (backToKw pos (keywordEach [] X.env))):=by rfl) :
  QE X (.Call (.Attribute o m apos) [] [] pos) (tMeth C m sp [] E0 ta tNil):=by
 obtain ⟨f,fd,h1,h2,h3⟩:=h
 exact ⟨pe_meth0 (pl:=pl) he.of c h1 h3 (hr.mono hk) h2 .nil pass0 ht⟩
theorem qe_makeH{k n:Nat}{ps:List Str}{sp:Sp}(h:HasI X.prog X.w X.K X.mg X.base C k x ps sp)(hr:Room n X.A)(ha:QA X (e::es) t)(hk:k+1<=n:=by decide)(hg:Gl X x:=by rfl)
  (hdb:(x == ("__debug__" : Str))=false:=by decide) (he:starEach (e::es) X.env=(false,eval e X.env)::starEach es X.env:=by rfl) (hpl:(backTo pos (starEach es X.env)).any (·.1)=false:=by rfl) :
  QE X (.Call (.Name x p) (e::es) [] pos) (tMake C sp [] E0 t):=by
 obtain ⟨f,fd,h0,h1,h2,h3⟩:=h
 exact ⟨pe_make h1 h3 (hr.mono hk) hg h0 h2 .nil pass0 ha.of hdb he hpl⟩
theorem yet(he:QE X e ta)(hb:attributeBase e f X.env (eval e X.env)=eval e X.env):QE X (.Attribute e f pos) (tFld X.K ta f):=⟨pe_fld he.of hb⟩
theorem qs_fld(ha:QE X o ta)(hv:QE X value tv)(hs:swapsWith value (some (.Attribute o f pos')) pos.line X.env=pure false):QS X (.Assign [.Attribute o f pos'] value pos) (sFld X.K ta tv f):=⟨ps_fld ha.of hv.of hs⟩
theorem yif{b:Expr}{g:Str}(ha:QE X (.Attribute b g pos) te)(hr:QA X es t):QA X (.Attribute b g pos::es) (qdg te t):=⟨yaa ha.of hr.of rfl⟩
end
end Mx
namespace L2
open PySem PySem.Spec PyProof.Rows
def yef(n:Nat):List V:=(List.range n).map λi:Nat=>V.int i
theorem qko:∀{n:Nat}{acc:Array Value},ItemsOf (λi v=>∃t,v=Value.int (0+(i:Int)*1) t) acc n->Vals (yef n) acc.toList:=by
 intro n acc h
 have go:∀(k:Nat) (l:List Value),(∀(j:Nat) v,l[j]?=some v->∃t,v=Value.int ((k+j:Nat):Int) t)->Vals ((List.range' k l.length).map λi:Nat=>V.int i) l:=by
  intro k l
  induction l generalizing k with
  |nil=>intro _;exact .nil
  |cons v l ih=>
   intro hj
   obtain ⟨t,rfl⟩:=hj 0 v rfl
   rw[length_cons,List.range'_succ,map_cons]
   refine .cons ⟨t,by simp⟩ (ih (k+1) λj v hv=>?_)
   obtain ⟨t,e⟩:=hj (j+1) v (by simpa using hv)
   exact ⟨t,by rw[e];congr 1;omega⟩
 have:=go 0 acc.toList λj v hv=>by
  obtain ⟨t,e⟩:=h.2 j v (by simpa using hv)
  exact ⟨t,by rw[e];congr 1;omega⟩
 have hl:acc.toList.length=n:=by rw[length_toList];exact h.1
 rw[hl]at this
 unfold yef
 rw[List.range_eq_range']
 exact this
section
variable {X:Cx}
def tLR(ta:TA):TE:=λσ H Q=>ta σ H λvs H1=>∃n:Nat,vs=[.int (n:Int)]/\n<=1000/\∀l,H1 l=none->Q (.ref l) (upd H1 l (.lst (yef n)))
theorem qc5{a:Expr}{ta:TA}{p p2 pos pos2:Pos}(hh:X.A.handled=none)(hgl:Gl X "list")(hml:X.mg "list"=none)(hgr:Gl X "range")(hmr:X.mg "range"=none)(ha:PA X [a] ta)
  (hs:starEach [a] X.env=[(false,eval a X.env)]:=by rfl)
  (hs2:starEach [.Call (.Name "range" p2) [a] [] pos2] X.env=[(false,eval (.Call (.Name "range" p2) [a] [] pos2) X.env)]:=by rfl) :
  PE X (.Call (.Name "list" p) [.Call (.Name "range" p2) [a] [] pos2] [] pos) (tLR ta):=by
 intro pins s σ H Q I h
 refine Call_ (qc6 I hgl hml boot_list (PyProof.Rows.callWith_type1 ?_ hs2 rfl))
 rw[hs2]
 show wpAny _ _ (spliced ((false,eval (.Call (.Name "range" p2) [a] [] pos2) X.env)::backTo pos (starEach [] X.env))) _ _ s
 refine Calls.spliced_cons ?_
 refine Call_ (qc6 I hgr hmr boot_range (PyProof.Rows.callWith_type1 (thn (ha pos2 pins s σ H _ I h) λus s1 ⟨vs,H1,I1,r1,q1⟩=>?_) hs rfl))
 obtain ⟨n,e,hn,q⟩:=q1
 subst e
 obtain ⟨u,rfl,r⟩:=yhb r1
 obtain ⟨t,rfl⟩:=r
 refine call_range_1 ?_
 refine Calls.spliced_nil ?_
 have I2:Inv X pins σ H1 { s1 with heap:=s1.heap.push { cls:=.type "range",data:=.fields #[.int 0 s1.toks,.int n t,.int 1 (s1.toks+1)] },toks:=s1.toks+1+1 }:=I1.kept λb o e=>get?_push_of_some _ e
 refine call_list_range (n:=n) hh (IsRange.new ..) (small_one (by omega) (by omega) (by omega) (by omega)) (by rw[rangeSize_one];split<;>omega) (by omega) λh' tk acc' c' kp e hi=>?_
 have r':=qko hi
 have hl:(yef n).length=n:=by simp[yef]
 exact ⟨.ref _,_,I2.laid (t':=tk) kp (le_refl _) (show qbf X.prog X.w _ h' _ (.lst (yef n)) from ⟨by rw[hl];exact le_trans hn (by decide),acc'.toList,c',r',by simpa using e⟩),rfl,q _ (I2.hok.fresh (le_refl _))⟩
def tSl3(K:W.Frag)(te ts:TE):TE:=λσ H Q=>te σ H λx H1=>ts σ H1 λy H2=>∃(a:Addr) (xs:List V) (up:Bool),x=.ref a/\SqL K H2 a xs/\y=.int (if up=true then 1 else -1)/\∀p,H2 p=none->Q (.ref p) (upd H2 p (.lst (if up=true then xs else xs.reverse)))
theorem pick_rev(items:Array Value):slicePick items none none (some (-1))=items.toList.reverse.toArray:=W.krv_pick items
theorem Vals.rev:∀{xs:List V}{us:List Value},Vals xs us->Vals xs.reverse us.reverse
 |[],[],_=>.nil
 |x::xs,u::us,.cons a r=>by
  rw[List.reverse_cons,List.reverse_cons]
  exact Vals.append (Vals.rev r) (.cons a .nil)
theorem yie{e st:Expr}{te ts:TE}{p2 pos:Pos}(he:PE X e te)(hst:PE X st ts):PE X (.Subscript e (.Slice none none (some st) p2) pos) (tSl3 X.K te ts):=by
 intro pins s σ H Q I h
 refine Subscript_ (thn (he pins s σ H _ I h) λv s1 ⟨x,H1,I1,r1,q1⟩=>?_)
 refine wpAny_Slice ?_
 rw[evalPart_none]
 refine wpAny_pure (wpAny_pure ?_)
 rw[evalPart_some]
 refine thn (hst pins s1 σ H1 _ I1 q1) λvs s3 ⟨y,H3,I3,r3,q3⟩=>?_
 obtain ⟨a,xs,up,rfl,hx,hy,q⟩:=q3
 cases r1
 have I4:Inv X pins σ H3 { s3 with heap:=s3.heap.push { cls:=.type "slice",data:=.fields #[.none,.none,vs] } }:=I3.kept (t':=s3.toks) λb ob q=>get?_push_of_some _ q
 obtain ⟨its,r,ht,hz⟩:=I4.list hx
 have hlen:=r.length
 have fin:∀(k:Int) (zs:List V) (us:List Value),y=.int k->k≠0->slicePick its.toArray none none (some k)=us.toArray->Vals zs us->zs.length<=sizeLine->(∀p,H3 p=none->Q (.ref p) (upd H3 p (.lst zs)))->
   wpAny (model X.prog X.w) X.A (subscriptTail e (.Slice none none (some st) p2) (.ref a) (.ref s3.heap.objs.size)) (EP X pins σ Q) X.xe { s3 with heap:=s3.heap.push { cls:=.type "slice",data:=.fields #[.none,.none,vs] } }:=by
  intro k zs us hy hk hp hv hzl q
  subst hy
  obtain ⟨t,rfl⟩:=r3
  refine tail_any (ops:=[.ref a,.ref s3.heap.objs.size]) ht.isList.typeIs slot_list_getitem.lookup ?_ (by with_unfolding_all rfl)
  refine wpAny_getItem_list_slice ht.isList (Heap.IsSliceOf.new ..) .none .none (.int k t) (by simpa using hk) ?_ (by rw[size_toArray]<;>omega)
  rw[hp]
  refine ⟨.ref _,_,I4.laid (t':=s3.toks) (o:=.lst zs) (λb ob q=>get?_push_of_some _ q) (le_refl _) ?_,rfl,q _ (I4.hok.fresh (le_refl _))⟩
  exact ⟨hzl,us,0,hv,get?_push_size _ rfl⟩
 cases up with
 |true=>exact fin 1 xs its hy (by decide) (by show slicePick its.toArray none none none=_;rw[slicePick_all]) r hz q
 |false=>exact fin (-1) xs.reverse its.reverse hy (by decide) (by rw[pick_rev]) (Vals.rev r) (by rw[List.length_reverse];exact hz) q
end
end L2
namespace L2
open PySem PySem.Spec PyProof.Rows PySem.W
section
variable {X:Cx}
def rNeNil(K:W.Frag):R2:=λx y H Q=>∃p q xs,x=.ref p/\y=.ref q/\SqL K H p xs/\SqL K H q []/\Q (.bl (!xs.isEmpty)) H
theorem yjn{k:Nat}(hr:Room k X.A):OpR X (compareOp .NotEq) (rNeNil X.K):=by
 intro pins s σ H x y v u Q I rx ry h
 obtain ⟨p,q,xs,rfl,rfl,hp,hq,qq⟩:=h
 cases rx
 cases ry
 obtain ⟨its,r,pl,hz⟩:=I.list hp
 obtain ⟨its2,r2,pl2,hz2⟩:=I.list hq
 cases r2
 have hu:X.A.units<cLine:=by have:=hu_of hr;omega
 have hl:=r.length
 cases xs with
 |nil=>
  cases r
  exact SeqAt.RcNeAt.lists (e:=λ_=>true) pl.isList pl2.isList rfl hu (λj h1=>by simp at h1) _ _ _ _ ⟨.bl _,H,I,rfl,qq⟩
 |cons a b=>exact SeqAt.RcNeAt.lists_lengths pl.isList pl2.isList (by rw[size_toArray,<-hl];rfl) hu _ _ _ _ ⟨.bl _,H,I,rfl,qq⟩
end
end L2
namespace Mx
open PySem L2 PyProof.Rows
section
variable {X:Cx}{o e:Expr}{es:List Expr}{te to:TE}{t:TA}{pos p2:Pos}
theorem yek{lo hi:Option Expr}{tl th:TO}{r:V->Option Int->Option Int->Hp->VK->Prop}(hr:SlR X r)(he:QE X e te)(hl:PO X lo tl)(hu:PO X hi th):QE X (.Subscript e (.Slice lo hi none p2) pos) (tSl r te tl th):=⟨qcq hr he.of hl hu⟩
theorem yiv{name:Str}{apos cpos:Pos}{T id:String}{r:V->List V->Hp->VK->Prop}(pa:PlainAttrs T)(slot:Slot T name id)(hty:typeOf (.builtin id)=pure (.type "method_descriptor"))(hm:MtR X id r)(ho:QE X o to)(ha:QA X (e::es) t)
  (hbase:attributeBase o name X.env (eval o X.env)=eval o X.env:=by rfl)
  (hfew:((backTo cpos (starEach (e::es) X.env)).all (λx=>!x.1)&&(backToKw cpos (keywordEach [] X.env)).all (λx=>x.1.isSome)
   && decide ((e::es).length+([]:List Keyword).length+(if ([]:List Keyword).isEmpty then 0 else 1)<30))=true:=by rfl)
  (hline:(apos.endLine == cpos.line)=true:=by rfl) (hs:starEach (e::es) X.env=(false,eval e X.env)::starEach es X.env:=by rfl) (hplain:(backTo cpos (starEach es X.env)).any (·.1)=false:=by rfl) :
  QE X (.Call (.Attribute o name apos) (e::es) [] cpos) (tBM X.K T r to t):=⟨ydf pa slot hty hm ho.of ha.of hbase hfew hline hs hplain⟩
end
end Mx
namespace L2
open PySem PyProof.Rows
def Lay(L:List Addr)(te:TE)(σ:L2.St)(d:PyData)(H:Hp):Prop:=(∀b∈L,H b≠none)->∀H1,Same H H1->∀Q:VK,(∀v H',Same H1 H'->At (qb0 H' L) v d->Q v H')->te σ H1 Q
def LayA(L:List Addr)(ta:TA)(σ:L2.St)(ds:List PyData)(H:Hp):Prop:=(∀b∈L,H b≠none)->∀H1,Same H H1->∀Q:List V->Hp->Prop,(∀vs H',Same H1 H'->AtAll (qb0 H' L) vs ds->Q vs H')->ta σ H1 Q
theorem qk7{L:List Addr}{H H1:Hp}{p:Addr}(hL:∀b∈L,H b≠none)(s:Same H H1)(hp:H1 p=none):p∉L:=λz=>by
 cases e:H p with
 |none=>exact hL p z e
 |some o=>rw[s _ _ e]at hp;cases hp
section
variable {K:W.Frag}{σ:L2.St}{H:Hp}{te tf:TE}{ta:TA}{d:PyData}{ds es:List PyData}{L:List Addr}
theorem qfo:LayA L tNil σ [] H:=λhL H1 s Q k=>k [] H1 (smR H1) .nil
theorem qcc(h:Lay L te σ d H)(r:LayA L ta σ ds H):LayA L (qdg te ta) σ (d::ds) H:=λhL H1 s Q k=>
 h hL H1 s _ λv H2 s2 a2=>r hL H2 (s.trans s2) _ λvs H3 s3 a3=>k (v::vs) H3 (s2.trans s3) (.cons (a2.same (qbu s3 L)) a3)
theorem new_tup{H0 H2:Hp}{p:Addr}{vs:List V}(hL:∀b∈L,H0 b≠none)(s:Same H0 H2)(hp:H2 p=none)(a:AtAll (qb0 H2 L) vs ds):At (qb0 (upd H2 p (.tup vs)) L) (.ref p) (.tuple ds):=
 .tup (by rw[qcy (qk7 hL s hp)];exact qaa) (a.same (qbu ((smR H2).upd hp) L))
theorem yiu{H0 H2:Hp}{p:Addr}{vs:List V}(hL:∀b∈L,H0 b≠none)(s:Same H0 H2)(hp:H2 p=none)(a:AtAll (qb0 H2 L) vs ds):At (qb0 (upd H2 p (.lst vs)) L) (.ref p) (.list ds):=
 .lst (by rw[qcy (qk7 hL s hp)];exact qaa) (a.same (qbu ((smR H2).upd hp) L))
theorem yi4(h:LayA L ta σ ds H)(z:ds.length<=1000:=by exact le_of_ble_eq_true rfl):Lay L (tTup ta) σ (.tuple ds) H:=λhL H1 s Q k=>
 h hL H1 s _ λvs H2 s2 a2=>⟨by rw[a2.length];exact le_trans z (by decide),λp hp=>k _ _ (s2.upd hp) (new_tup hL (s.trans s2) hp a2)⟩
theorem ycp(h:LayA L ta σ ds H)(z:ds.length<=1000:=by exact le_of_ble_eq_true rfl):Lay L (tLst ta) σ (.list ds) H:=λhL H1 s Q k=>
 h hL H1 s _ λvs H2 s2 a2=>⟨by rw[a2.length];exact le_trans z (by decide),λp hp=>k _ _ (s2.upd hp) (yiu hL (s.trans s2) hp a2)⟩
theorem ykw:Lay L (tC .non) σ .none H:=λhL H1 s Q k=>k _ H1 (smR H1) .non
theorem lay_bl{b:Bool}:Lay L (tC (.bl b)) σ (.bool b) H:=λhL H1 s Q k=>k _ H1 (smR H1) (.bl b)
theorem qg5{i:Int}:Lay L (tC (.int i)) σ (.int i) H:=λhL H1 s Q k=>k _ H1 (smR H1) (.int i)
theorem yix{x:Str}:Lay L (tC (.str x)) σ (.str x) H:=λhL H1 s Q k=>k _ H1 (smR H1) (.str x)
theorem ylr{i:Int}:Lay L (tUn (rU λi=>V.int (-i)) (tC (.int i))) σ (.int (-i)) H:=λhL H1 s Q k=>⟨i,rfl,k _ H1 (smR H1) (.int _)⟩
theorem yhk{i:Nat}{v:V}(hσ:σ[i]?=some (some v))(h:At (qb0 H L) v d):Lay L (tVar i) σ d H:=λhL H1 s Q k=>⟨v,hσ,k v H1 (smR H1) (h.same (qbu s L))⟩
theorem qf4(h1:Lay L te σ (.list ds) H)(h2:Lay L tf σ (.list es) H)(z:ds.length+es.length<=1000):Lay L (tOp rCat te tf) σ (.list (ds++es)) H:=λhL H1 s Q k=>
 h1 hL H1 s _ λv H2 s2 a2=>h2 hL H2 (s.trans s2) _ λu H3 s3 a3=>by
  obtain ⟨a,vs,rfl,ha,hw⟩:=(a2.same (qbu s3 L)).lstEq
  obtain ⟨b,us,rfl,hb,hu⟩:=a3.lstEq
  exact ⟨a,b,vs,us,rfl,rfl,qbe _ _ _ _ ha,qbe _ _ _ _ hb,by rw[hw.length,hu.length];exact le_trans z (by decide),λp hp=>k _ _ ((s2.trans s3).upd hp) (yiu hL ((s.trans s2).trans s3) hp (hw.append hu))⟩
theorem yij{H:Hp}{vs:List V}{ds:List PyData}(h:AtAll H vs ds):∀n,AtAll H (List.replicate n vs).flatten (List.replicate n ds).flatten
 |0=>.nil
 |n+1=>by
  rw[replicate_succ,replicate_succ,flatten_cons,flatten_cons]
  exact h.append (yij h n)
theorem qfr{n:Nat}(h1:Lay L te σ (.list ds) H)(hn:n<=1000)(z:ds.length*n<=1000):Lay L (tOp rRep te (tC (.int n))) σ (.list (List.replicate n ds).flatten) H:=λhL H1 s Q k=>
 h1 hL H1 s _ λv H2 s2 a2=>by
  obtain ⟨a,vs,rfl,ha,hw⟩:=a2.lstEq
  refine ⟨a,n,vs,rfl,rfl,qbe _ _ _ _ ha,by omega,by omega,by rw[hw.length,Int.toNat_natCast];exact le_trans z (by decide),λp hp=>k _ _ (s2.upd hp) ?_⟩
  rw[Int.toNat_natCast]
  exact yiu hL (s.trans s2) hp (yij hw n)
theorem gn{i:Nat}{v:V}{σ:L2.St}{H:Hp}{Q:L2.St->Hp->Prop}(h:Q (σ.set i (some v)) H):qf0 i v σ H Q:=h
theorem qkw{Q:VK}(h:Lay L te σ d H)(hL:∀b∈L,H b≠none)(k:∀v H',Same H H'->At (qb0 H' L) v d->Q v H'):te σ H Q:=h hL H (smR H) Q k
theorem lay_set{i:Nat}{rest:TS}{KK:Ends}(h:Lay [] te σ d H)(k:∀v H',Same H H'->At H' v d->rest KK (σ.set i (some v)) H'):tSeq (tAsg te (qf0 i)) rest KK σ H:=
 h (λb hb=>by cases hb) H (smR H) _ λv H' s a=>k v H' s (a.same (qbe _ _))
end
end L2
namespace L2
open PySem PySem.Spec PyProof.Rows
theorem yj8{x y:Int}(h0:0<y)(h1:y<=18446744073709551616):Builtin.divisionGoesByPylong x y=false:=by
 have hl:y.natAbs.log2<65:=(Nat.log2_lt (by omega)).mpr (by omega)
 unfold Builtin.divisionGoesByPylong
 have e:decide ((if (y == 0)=true then 0 else y.natAbs.log2 / 30+1)>300)=false:=by
  refine decide_eq_false ?_
  rw[if_neg (by simp;omega)]
  omega
 show (decide ((if (y == 0)=true then 0 else y.natAbs.log2 / 30+1)>300)&&_)=false
 rw[e]
 rfl
section
variable {X:Cx}
def CDivB(_ j:Int):Prop:=0<j/\j<=18446744073709551616
theorem op_fdivB:OpR X (binaryOp .FloorDiv) (rI CDivB λi j=>.int (i / j)):=opI λi j _ _ _ _ _ hc q=>by
 have h1:(0:Int)<j:=hc.1
 exact floordiv_int (by omega) (by rw[Int.fdiv_eq_ediv_of_nonneg i (by omega)];exact q) (.inl (yj8 hc.1 hc.2))
def rSetdef:V->List V->Hp->VK->Prop:=λx vs H Q=>∃(a:Addr) (kvs:List (Key×V)) (k:Key) (v:V),x=.ref a/\vs=[kV k,v]/\H a=some (.dK kvs)/\kvs.length<sizeLine/\
 (∀y,valV kvs k=some y->Q y H)/\(valV kvs k=none->Q v (upd H a (.dK (putK kvs k v))))
theorem qlb:MtM X "dict.setdefault" rSetdef:=by
 intro pins s σ H x vs v us Q I rx rv h
 obtain ⟨a,kvs,k,d,rfl,rfl,ha,hl,q1,q2⟩:=h
 cases rx
 cases rv
 rename_i u us' ru rv'
 obtain ⟨r,rfl,rr⟩:=Vals.one rv'
 obtain ⟨z1,m1,vs1,r1,dd1⟩:=dk_of I.hok ha
 have l1:=r1.length
 have rk:=r1.val k
 refine call_meetsIn F.slot_dict_setdefault dd1.typeIs F.entry_dict_setdefault (F.args_dict_setdefault_3 _ _ _) (kt_meets_setdefault (qbc X.prog X.w) a (kV_is ru) m1 r) ⟨vs1,dd1,by omega,λw' hw=>?_,λhn h' dd' sb=>?_⟩
 ·rw[hw]at rk
  cases hv:valV kvs k with
  |none=>rw[hv]at rk;exact absurd rk (by intro z;cases z)
  |some y=>
   rw[hv]at rk
   exact ⟨y,_,I.tok _,rk,q1 y hv⟩
 ·rw[hn]at rk
  cases hv:valV kvs k with
  |some y=>rw[hv]at rk;exact absurd rk (by intro z;cases z)
  |none=>
   have he:∃q,h'.get? a=some q:=let ⟨q,_,_,hq,_⟩:=dd';⟨q,hq⟩
   have hl':(putK kvs k d).length<=sizeLine:=by have:=yff kvs k d;omega
   exact ⟨d,_,qky I (by rw[ha];exact True.intro) sb he (dk_new hl' m1 (r1.put k rr) dd'),rr,q2 hv⟩
end
section
variable {X:Cx}{pins:List (Addr×Obj)}{σ:St}{H:Hp}{s:Shared}{a:Addr}{kvs:List (Key×V)}
theorem KV.at_{kvs:List (Key×V)}{vs:List (Key×Value)}(r:KV kvs vs):∀{i:Nat},i<kvs.length->∃k v u,kvs[i]?=some (k,v)/\vs[i]?=some (k,u)/\RelV v u:=by
 induction r with
 |nil=>intro i h;exact absurd h (not_lt_zero _)
 |@cons p q l1 l2 h _ ih=>
  intro i hi
  cases i with
  |zero=>exact ⟨p.1,p.2,q.2,rfl,by rw[h.1];rfl,h.2⟩
  |succ i=>exact ih (i:=i) (by simpa using hi)
end
def Srt(xs:Array Nat):Prop:=∀(i j:Nat) (x y:Nat),i<j->xs[i]?=some x->xs[j]?=some y->x<y
theorem yhh(xs:Array Nat)(j:Nat)(hs:Srt xs):∀(fuel lo hi:Nat),hi-lo<=fuel->lo<=hi->hi<=xs.size->(∀k x,k<lo->xs[k]?=some x->x<j)->(∀k x,hi<=k->xs[k]?=some x->j<=x)->
  (∀k x,k<SetTable.below.go xs j fuel lo hi->xs[k]?=some x->x<j)/\(∀k x,SetTable.below.go xs j fuel lo hi<=k->xs[k]?=some x->j<=x)/\SetTable.below.go xs j fuel lo hi<=xs.size
 |0,lo,hi,hf,h1,h2,ha,hb=>by
  have e:lo=hi:=by omega
  subst e
  exact ⟨ha,hb,h2⟩
 |fuel+1,lo,hi,hf,h1,h2,ha,hb=>by
  unfold SetTable.below.go
  by_cases hlt:lo<hi
  ·rw[if_pos hlt]
   have hm:(lo+hi) / 2<xs.size:=by omega
   have hg:xs[(lo+hi) / 2]?=some (xs.getD ((lo+hi) / 2) j):=by
    rw[Array.getD_eq_getD_getElem?,Array.getElem?_eq_getElem hm];rfl
   dsimp only
   by_cases hc:xs.getD ((lo+hi) / 2) j<j
   ·rw[if_pos hc]
    refine yhh xs j hs fuel _ hi (by omega) (by omega) h2 (λk x hk hx=>?_) hb
    by_cases he:k=(lo+hi) / 2
    ·subst he;rw[hg]at hx;cases hx;exact hc
    ·have:=hs k ((lo+hi) / 2) x _ (by omega) hx hg
     omega
   ·rw[if_neg hc]
    refine yhh xs j hs fuel lo _ (by omega) (by omega) (by omega) ha (λk x hk hx=>?_)
    by_cases he:k=(lo+hi) / 2
    ·subst he;rw[hg]at hx;cases hx;omega
    ·have:=hs ((lo+hi) / 2) k _ x (by omega) hg hx
     omega
  ·rw[if_neg hlt]
   have e:lo=hi:=by omega
   subst e
   exact ⟨ha,hb,h2⟩
theorem yju{xs:Array Nat}(j:Nat)(hs:Srt xs):(∀k x,k<SetTable.below xs j->xs[k]?=some x->x<j)/\(∀k x,SetTable.below xs j<=k->xs[k]?=some x->j<=x)/\SetTable.below xs j<=xs.size:=by
 unfold SetTable.below
 refine yhh xs j hs xs.size 0 xs.size (by omega) (zero_le _) (le_refl _) (λk x h=>absurd h (not_lt_zero _)) (λk x h hx=>?_)
 rw[Array.getElem?_eq_none h]at hx;cases hx
theorem yjl{xs:Array Nat}{j n:Nat}(hs:Srt xs)(hn:n<=xs.size)(h1:∀k x,k<n->xs[k]?=some x->x<j)(h2:∀k x,n<=k->xs[k]?=some x->j<=x):SetTable.below xs j=n:=by
 obtain ⟨b1,b2,b3⟩:=yju j hs
 rcases Nat.lt_trichotomy (SetTable.below xs j) n with h|h|h
 ·have hlt:SetTable.below xs j<xs.size:=by omega
  have g:=Array.getElem?_eq_getElem hlt
  have:=h1 _ _ h g
  have:=b2 _ _ (le_refl _) g
  omega
 ·exact h
 ·have hlt:n<xs.size:=by omega
  have g:=Array.getElem?_eq_getElem hlt
  have:=h2 _ _ (le_refl _) g
  have:=b1 _ _ h g
  omega
theorem yid{α:Type}(xs:Array α)(p:Nat)(x:α)(hp:p<=xs.size)(i:Nat):(SetTable.insertAt xs p x)[i]?=if i<p then xs[i]? else if i=p then some x else xs[i-1]?:=by
 unfold SetTable.insertAt
 have e1:((xs.extract 0 p).push x++xs.extract p xs.size).toList=xs.toList.take p++x::xs.toList.drop p:=by
  simp
  exact take_of_length_le (by simp)
 rw[<-getElem?_toList,e1]
 have hl:(xs.toList.take p).length=p:=by rw[length_take,length_toList];omega
 by_cases h1:i<p
 ·rw[if_pos h1,getElem?_append_left (by omega),List.getElem?_take_of_lt h1,getElem?_toList]
 ·rw[if_neg h1,getElem?_append_right (by omega),hl]
  by_cases h2:i=p
  ·rw[if_pos h2,h2,Nat.sub_self];rfl
  ·rw[if_neg h2]
   obtain ⟨d,hd⟩:∃d,i-p=d+1:=⟨i-p-1,by omega⟩
   rw[hd,List.getElem?_cons_succ,List.getElem?_drop,getElem?_toList]
   congr 1
   omega
theorem qkb{xs:Array Nat}{j:Nat}(hs:Srt xs)(hj:xs[SetTable.below xs j]?≠some j):Srt (SetTable.insertAt xs (SetTable.below xs j) j):=by
 obtain ⟨b1,b2,b3⟩:=yju j hs
 have hgt:∀k x,SetTable.below xs j<=k->xs[k]?=some x->j<x:=λk x hk hx=>by
  have h1:=b2 k x hk hx
  by_cases he:x=j
  ·subst he
   by_cases hk2:k=SetTable.below xs x
   ·subst hk2;exact absurd hx hj
   ·have hlt:SetTable.below xs x<xs.size:=by
     have:=(Array.getElem?_eq_some_iff.mp hx).1
     omega
    have g:=Array.getElem?_eq_getElem hlt
    have h2:=hs _ k _ x (by omega) g hx
    have h3:=b2 _ _ (le_refl _) g
    omega
  ·omega
 intro a b x y hab hx hy
 rw[yid _ _ _ b3]at hx hy
 by_cases ha:a<SetTable.below xs j
 ·rw[if_pos ha]at hx
  by_cases hb:b<SetTable.below xs j
  ·rw[if_pos hb]at hy
   exact hs a b x y hab hx hy
  ·rw[if_neg hb]at hy
   have hxj:=b1 a x ha hx
   by_cases hb2:b=SetTable.below xs j
   ·rw[if_pos hb2]at hy;cases hy;exact hxj
   ·rw[if_neg hb2]at hy
    have:=hgt (b-1) y (by omega) hy
    omega
 ·rw[if_neg ha]at hx
  have hb:¬ b<SetTable.below xs j:=by omega
  rw[if_neg hb]at hy
  by_cases ha2:a=SetTable.below xs j
  ·rw[if_pos ha2]at hx
   cases hx
   rw[if_neg (by omega)]at hy
   exact hgt (b-1) y (by omega) hy
  ·rw[if_neg ha2]at hx
   rw[if_neg (by omega)]at hy
   exact hs (a-1) (b-1) x y (by omega) hx hy
theorem yln(n:Nat):Srt (Array.range n):=by
 intro i j x y hij hx hy
 have h1:=(Array.getElem?_eq_some_iff.mp hx).2
 have h2:=(Array.getElem?_eq_some_iff.mp hy).2
 simp at h1 h2
 omega
theorem srt_of{l:List Nat}(h:l.Pairwise (· < ·)):Srt l.toArray:=by
 intro i j x y hij hx hy
 have hx':l[i]?=some x:=by simpa using hx
 have hy':l[j]?=some y:=by simpa using hy
 obtain ⟨hi,e1⟩:=List.getElem?_eq_some_iff.mp hx'
 obtain ⟨hj,e2⟩:=List.getElem?_eq_some_iff.mp hy'
 have:=List.pairwise_iff_getElem.mp h i j hi hj hij
 rw[e1,e2]at this
 exact this
def TOk(t:SetTable):Prop:=Srt t.place/\t.dummies=#[]
theorem qjw(j:Nat):SetTable.has #[] j=false:=by
 unfold SetTable.has
 simp
theorem slot_no{t:SetTable}(h:TOk t)(j:Nat):t.slot j≠.dummy:=by
 unfold SetTable.slot
 rw[h.2,qjw]
 dsimp only
 split
 ·intro z;cases z
 ·simp
theorem yjz{t:SetTable}{j:Nat}(h:t.slot j=.empty):t.place[SetTable.below t.place j]?≠some j:=by
 intro e
 unfold SetTable.slot at h
 dsimp only at h
 rw[if_pos (by rw[e];simp)]at h
 cases h
theorem yg1(t:SetTable)(p:SetTable.Probe):(t.advance p).dummy=p.dummy:=by
 unfold SetTable.advance
 split<;>rfl
theorem qf3{t:SetTable}(ht:TOk t)(f:Nat->Int)(h:Int):∀(fuel:Nat) (p:SetTable.Probe) (j:Nat) (d:Option Nat),p.dummy=none->SetTable.probe.go t f h fuel p=some (.empty j d)->t.slot j=.empty/\d=none
 |0,p,j,d,hp,e=>by
  unfold SetTable.probe.go at e
  cases e
 |fuel+1,p,j,d,hp,e=>by
  unfold SetTable.probe.go at e
  split at e
  ·rename_i hs
   cases e
   exact ⟨hs,hp⟩
  ·rename_i hs
   exact absurd hs (slot_no ht _)
  ·split at e
   ·cases e
   ·exact qf3 ht f h fuel _ j d (by rw[yg1];exact hp) e
theorem yiz{t:SetTable}(ht:TOk t){h:Int}{j:Nat}{b:Bool}(e:t.freeSlot h=some (j,b)):t.slot j=.empty:=by
 unfold SetTable.freeSlot at e
 split at e
 ·rename_i j' d hp
  have hq:SetTable.probe.go t (λ_=>h+1) h (10*SetTable.turns t.mask) (t.probeStart h)=some (.empty j' d):=hp
  obtain ⟨h1,h2⟩:=qf3 ht _ _ _ _ _ _ rfl hq
  subst h2
  cases e
  exact h1
 ·cases e
theorem put_ok{t:SetTable}(ht:TOk t){j:Nat}(h:t.slot j=.empty):TOk (t.put j).1/\(t.put j).1.led=t.led:=by
 refine ⟨⟨qkb ht.1 (yjz h),?_⟩,rfl⟩
 show (if SetTable.has t.dummies j then SetTable.eraseAt t.dummies (SetTable.below t.dummies j) else t.dummies)=#[]
 rw[ht.2,qjw]
 rfl
theorem ydd(t:SetTable)(n:Nat):TOk (t.standIn n)/\(t.standIn n).led=t.led:=⟨⟨yln n,rfl⟩,rfl⟩
theorem yic{t:SetTable}(ht:TOk t)(n:Nat):TOk (t.orStandIn n)/\(t.orStandIn n).led=t.led:=by
 unfold SetTable.orStandIn
 split
 ·exact ⟨ht,rfl⟩
 ·exact ydd t n
theorem yl8{t:SetTable}(ht:TOk t)(es:Array (Int×Value))(h:Int)(x:Value):TOk (layNew t es h x).2.1/\(layNew t es h x).2.1.led=t.led:=by
 unfold layNew
 split
 ·rename_i j b e
  have hp:=put_ok ht (yiz ht e)
  have ho:=yic hp.1 (SetTable.insertAt es (t.put j).2 (h,x)).size
  exact ⟨ho.1,ho.2.trans hp.2⟩
 ·exact ydd t _
theorem qdz{α:Type}(f:Nat->Option α):∀(l:List Nat),l.Pairwise (· < ·)->((l.filterMap λj=>(f j).map (j,·)).map (·.1)).Pairwise (· < ·):=by
 intro l hl
 have hsub:((l.filterMap λj=>(f j).map (j,·)).map (·.1)).Sublist l:=by
  induction l with
  |nil=>exact .slnil
  |cons a l ih=>
   rw[List.filterMap_cons]
   have:=ih (List.pairwise_cons.mp hl).2
   cases f a with
   |none=>exact .cons _ this
   |some b=>exact .cons₂ _ this
 exact hl.sublist hsub
theorem qk8{t t':SetTable}{hs:Array Int}{n:Nat}{o:Array Nat}(e:t.relaid hs n=some (t',o)):TOk t'/\t'.led=t.led:=by
 unfold SetTable.relaid SetTable.laid at e
 cases ho:SetTable.layClean (SetTable.sizeAbove n-1) hs with
 |none=>rw[ho]at e;cases e
 |some owner=>
  rw[ho]at e
  cases e
  refine ⟨⟨srt_of ?_,rfl⟩,rfl⟩
  exact qdz (λj=>owner.getD j none) _ List.pairwise_lt_range
theorem qiw{t:SetTable}(es:Array (Int×Value))(n:Nat):TOk (relayAll t es n).2.1/\(relayAll t es n).2.1.led=t.led:=by
 unfold relayAll
 split
 ·rename_i t' o e
  dsimp only
  split
  ·exact qk8 e
  ·exact ydd t _
 ·exact ydd t _
def byTx(w:World):Bool:=w.params.followText "set-order"
def SetL(P:Program)(w:World)(h:Heap)(a:Addr)(ks:List Int):Prop:=
 ∃o es ep t,h.get? a=some o/\o.ExactSet/\o.data=.set es ep t/\ElemsOf (intKind P w) es.toList/\(∃ns,IntsAre (es.toList.map (·.2)) ns/\ns.Perm ks)/\es.size<scanBound/\t.fits es.size=true/\TOk t/\(byTx w=true\/t.led=true)
theorem ydx{vs' vs:List Value}(p:vs'.Perm vs):∀{ns:List Int},IntsAre vs ns->∃ns',IntsAre vs' ns'/\ns'.Perm ns:=by
 induction p with
 |nil=>intro ns h;exact ⟨ns,h,List.Perm.refl _⟩
 |cons x _ ih=>
  intro ns h
  cases h with
  |cons n t r=>
   obtain ⟨ns',h1,h2⟩:=ih r
   exact ⟨n::ns',.cons n t h1,h2.cons n⟩
 |swap x y l=>
  intro ns h
  cases h with
  |cons n t r=>
   cases r with
   |cons m u r=>exact ⟨m::n::_,.cons m u (.cons n t r),List.Perm.swap ..⟩
 |trans _ _ ih1 ih2=>
  intro ns h
  obtain ⟨n1,a1,b1⟩:=ih2 h
  obtain ⟨n2,a2,b2⟩:=ih1 a1
  exact ⟨n2,a2,b2.trans b1⟩
theorem qhi:∀{vs:List Value}{ns:List Int},IntsAre vs ns->(∀v∈vs,∃n t,v=.int n t/\n∈ns)/\∀n∈ns,∃t,Value.int n t∈vs
 |_,_,.nil=>⟨λv h=>by simp at h,λn h=>by simp at h⟩
 |_,_,.cons n t r=>by
  obtain ⟨h1,h2⟩:=qhi r
  refine ⟨λv hv=>?_,λm hm=>?_⟩
  ·rcases mem_cons.mp hv with rfl|hv
   ·exact ⟨n,t,rfl,mem_cons_self ..⟩
   ·obtain ⟨m,u,e,hm⟩:=h1 v hv
    exact ⟨m,u,e,mem_cons_of_mem _ hm⟩
  ·rcases mem_cons.mp hm with rfl|hm
   ·exact ⟨t,mem_cons_self ..⟩
   ·obtain ⟨u,hu⟩:=h2 m hm
    exact ⟨u,mem_cons_of_mem _ hu⟩
theorem qih:∀{vs:List Value}{ns:List Int} (k:Int) (t:Tok),IntsAre vs ns->IntsAre (vs++[.int k t]) (ns++[k])
 |_,_,k,t,.nil=>.cons k t .nil
 |_,_,k,t,.cons n u r=>.cons n u (qih k t r)
section
variable {P:Program}{w:World}{A:Around}{E:Value->Shared->Prop}{s:Shared}{a:Addr}{ks:List Int}
theorem storeL{o:Obj}{es:Array (Int×Value)}{ep:Nat}{t:SetTable}{es':Array (Int×Value)}{t':SetTable}{ks':List Int}{h:Heap}(g:h.get? a=some o)(gx:o.ExactSet)(gd:o.data=.set es ep t)
  (el:ElemsOf (intKind P w) es'.toList) (hv:∃ns,IntsAre (es'.toList.map (·.2)) ns/\ns.Perm ks') (hb:es'.size<scanBound) (hf:t'.fits es'.size=true) (ht:TOk t') (hl:byTx w=true\/t'.led=true) :
  (h.update a (Obj.putSet es' t')).get? a=some { o with data:=.set es' (ep+1) t' }/\SetL P w (h.update a (Obj.putSet es' t')) a ks':=by
 have hg:(h.update a (Obj.putSet es' t')).get? a=some { o with data:=.set es' (ep+1) t' }:=by
  have z:=get?_update_self (Obj.putSet es' t') g (by rw[putSet_of es' t' gd];rfl)
  rw[putSet_of es' t' gd]at z
  exact z
 exact ⟨hg,_,es',ep+1,t',hg,gx,rfl,el,hv,hb,hf,ht,hl⟩
theorem addL{k:Int}{tk:Tok}{Q:Bool->Shared->Prop}(hS:SetL P w s.heap a ks)(hroom:ks.length+1<scanBound)
  (h:∀b h',Heap.SameBut a s.heap h'->SetL P w h' a (if k∈ks then ks else ks++[k])->Q b { s with heap:=h' }) :
  wpAny (model P w) A (setAddHashed a (.int k tk) ((intKind P w).hash k)) Q E s:=by
 obtain ⟨o,es,ep,t,g,gx,gd,el,⟨ns,hi,hp⟩,hb,hf,ht,hl⟩:=hS
 have hlen:es.size=ks.length:=by
  have h1:=IntsAre.length hi
  rw[length_map,length_toList]at h1
  rw[h1,hp.length_eq]
 have kk:(intKind P w).is k (.int k tk)=true:=intKind_is _ _ _ _
 unfold setAddHashed setAddHashedIn
 refine wpAny_holding (wpAny_bind (wpAny_setState_of g gd hf ?_))
 dsimp only
 rw[byScan_of (knd:=intKind P w) rfl hb el]
 simp only[↓reduceIte]
 unfold setAddByScan
 refine wpAny_bind ?_
 refine wpAny_bind (wpAny_rule ?_)
 refine wpAny_bind (wpAny_setScan_of kk g gd hf el ?_)
 have same:∀m u,(intKind P w).is k (.int m u)=true->m=k:=λm u z=>(intKind P w).inj _ m k (intKind_is _ _ _ _) z
 cases hr:List.findIdx? (λe=>(intKind P w).is k e.2) es.toList with
 |some j=>
  dsimp only
  obtain ⟨hj,hpj,_⟩:=List.findIdx?_eq_some_iff_getElem.mp hr
  have hin:k∈ks:=by
   obtain ⟨m,u,e,hm⟩:=(qhi hi).1 (es.toList[j]).2 (mem_map.mpr ⟨_,getElem_mem hj,rfl⟩)
   rw[e]at hpj
   have:=same m u hpj
   subst this
   exact hp.mem_iff.mp hm
  refine wpAny_pure (wpAny_pure ?_)
  have e:s={ s with heap:=s.heap }:=by cases s;rfl
  have z:=h false s.heap (Heap.SameBut.refl a s.heap) (by rw[if_pos hin];exact ⟨o,es,ep,t,g,gx,gd,el,⟨ns,hi,hp⟩,hb,hf,ht,hl⟩)
  rw[e]
  exact z
 |none=>
  dsimp only
  have hout:k∉ks:=λhin=>by
   obtain ⟨u,hu⟩:=(qhi hi).2 k (hp.mem_iff.mpr hin)
   obtain ⟨e,he,e2⟩:=mem_map.mp hu
   have z:=List.findIdx?_eq_none_iff.mp hr e he
   rw[e2]at z
   rw[show (intKind P w).is k (.int k u)=true from intKind_is _ _ _ _]at z
   cases z
  rw[if_neg hout]at h
  have gw:∀(b:Bool) {s1:Shared}{Q':Unit->Shared->Prop},Q' () s1->wpAny (model P w) A (match b with|true=>rule "set.scan.the-table-gave-way"|false=>pure ()) Q' E s1:=λb s1 Q' z=>by cases b<;>first|exact wpAny_pure z|exact wpAny_rule z
  have pm:=layNew_perm t es ((intKind P w).hash k) (.int k tk)
  have fm:=layNew_fits t es ((intKind P w).hash k) (.int k tk)
  have tm:=yl8 ht es ((intKind P w).hash k) (.int k tk)
  generalize hL:layNew t es ((intKind P w).hash k) (.int k tk)=L at pm fm tm ⊢
  obtain ⟨es1,t1,wasDummy,gave⟩:=L
  dsimp only at pm fm tm ⊢
  rw[Array.toList_push]at pm
  have el1:ElemsOf (intKind P w) es1.toList:=(el.push kk rfl).perm pm
  have hv1:∃ns,IntsAre (es1.toList.map (·.2)) ns/\ns.Perm (ks++[k]):=by
   have q:=pm.map (·.2)
   rw[map_append]at q
   obtain ⟨n1,i1,p1⟩:=ydx q (qih k tk hi)
   exact ⟨n1,i1,p1.trans (hp.append_right [k])⟩
  have sz1:es1.size=ks.length+1:=by
   rw[<-length_toList,pm.length_eq,length_append,length_toList,hlen];rfl
  have hb1:es1.size<scanBound:=by rw[sz1];exact hroom
  refine wpAny_bind (gw _ ?_)
  have tail:∀(t2:SetTable),t2.fits es1.size=true->TOk t2->(byTx w=true\/t2.led=true)->wpAny (model P w) A (do
    storeSet a es1 t2
    if (!wasDummy&&t2.tooFull)=true then do
      (match (relayAll t2 es1 (SetTable.grown es1.size)).2.2 with|true=>rule "set.scan.the-table-gave-way"|false=>pure ())
      storeSet a (relayAll t2 es1 (SetTable.grown es1.size)).1 (relayAll t2 es1 (SetTable.grown es1.size)).2.1
      pure (some true)
     else pure (some true)) (λr s1=>wpAny (model P w) A (match r with|some added=>pure added|none=>setAddHashedIn a (.int k tk) ((intKind P w).hash k) 99999) Q E s1) E s:=by
   intro t2 f2 k2 l2
   refine wpAny_bind (wpAny_storeSet_of g gd ?_ (fits_of_scanBound hb1))
   obtain ⟨g1,S1⟩:=storeL (P:=P) (w:=w) g gx gd el1 hv1 hb1 f2 k2 l2
   have sb1:=Heap.SameBut.update s.heap a (Obj.putSet es1 t2)
   split
   ·have pr:=relayAll_perm t2 es1 (SetTable.grown es1.size)
    have fr:=relayAll_fits t2 es1 (SetTable.grown es1.size)
    have tr:=qiw (t:=t2) es1 (SetTable.grown es1.size)
    generalize hR:relayAll t2 es1 (SetTable.grown es1.size)=R at pr fr tr ⊢
    obtain ⟨es2,t3,gave2⟩:=R
    dsimp only at pr fr tr ⊢
    have sz2:es2.size=es1.size:=by rw[<-length_toList,pr.length_eq,length_toList]
    have hb2:es2.size<scanBound:=by rw[sz2];exact hb1
    refine wpAny_bind (gw _ ?_)
    refine wpAny_bind (wpAny_storeSet_of g1 rfl ?_ (fits_of_scanBound hb2))
    have hv2:∃ns,IntsAre (es2.toList.map (·.2)) ns/\ns.Perm (ks++[k]):=by
     obtain ⟨n1,i1,p1⟩:=hv1
     obtain ⟨n2,i2,p2⟩:=ydx (pr.map (·.2)) i1
     exact ⟨n2,i2,p2.trans p1⟩
    obtain ⟨_,S2⟩:=storeL (P:=P) (w:=w) g1 gx rfl (el1.perm pr) hv2 hb2 fr tr.1 (l2.imp id λz=>tr.2.trans z)
    exact wpAny_pure (wpAny_pure (h true _ (sb1.trans (Heap.SameBut.update _ a _)) S2))
   ·exact wpAny_pure (wpAny_pure (h true _ sb1 S1))
  have l1:byTx w=true\/t1.led=true:=hl.imp id λz=>tm.2.trans z
  split
  ·refine wpAny_bind ?_
   rw[hashByValue_scannable 8 (rfl:(Value.int k tk).scannable=true)]
   refine wpAny_pure ?_
   split
   ·exact tail t1 fm tm.1 l1
   ·exact tail { t1 with plain:=false } (SetTable.fits_plain_off fm) tm.1 l1
  ·refine wpAny_bind (wpAny_pure ?_)
   simp only[↓reduceIte]
   exact tail t1 fm tm.1 l1
end
def qa3(f:Nat->Int):Nat->List Int
 |0=>[]
 |i+1=>if f i∈qa3 f i then qa3 f i else qa3 f i++[f i]
theorem yeh(f:Nat->Int):∀i,(qa3 f i).length<=i
 |0=>le_refl _
 |i+1=>by
  have ih:=yeh f i
  unfold qa3
  split
  ·omega
  ·rw[length_append];show _+1<=_;omega
theorem SetL.at{P:Program}{w:World}{h h':Heap}{a:Addr}{ks:List Int}(x:SetL P w h a ks)(k:∀o,h.get? a=some o->h'.get? a=some o):SetL P w h' a ks:=by
 obtain ⟨o,es,ep,t,g,r⟩:=x
 exact ⟨o,es,ep,t,k o g,r⟩
section
variable {P:Program}{w:World}{A:Around}{R:Result->Shared->Prop}{I:Addr}{fp wr:List Addr}{G:Array GenState->Array GenState->Prop}{n:Nat}{Pv:Nat->Value->Prop}{St:Nat->Shared->Prop}
theorem loopL(W:WalksS P w A.in1 I fp wr G n Pv St)(d:Addr)(hd:d∉fp)(f:Nat->Int)(hf:∀i v,Pv i v->∃t,v=.int (f i) t)(hb:n+1<scanBound):∀(k i:Nat) (s:Shared),n-i=k->i<=n->St i s->SetL P w s.heap d (qa3 f i)->
   (∀s',Moved (d::wr) G s s'->SetL P w s'.heap d (qa3 f n)->R (.ok (.ret .none)) s')->codeAny (model P w) A (.builtin "set.update.loop" ⟨[.ref d,.ref I],[]⟩) R s:=by
 have hw:d∉wr:=λz=>hd (W.sub _ z)
 have up:∀b∈wr,b∈d::wr:=λb z=>mem_cons_of_mem _ z
 intro k
 induction k with
 |zero=>
  intro i s hk hi st hS hR
  have e:i=n:=by omega
  subst e
  refine codeAny_builtin F.entry_set_update_loop ?_
  rw[Around.under_plainId F.plain_set_update_loop _]
  show wpAny _ A.in1 (pyNext (.ref I) >>= _) _ _ _
  refine wpAny_bind (W.done s _ _ st λs' m=>?_)
  show wpAny _ A.in1 (ret Value.none) _ _ _
  exact wpAny_pure (hR s' (m.mono up) (hS.at λo g=>m.heap d o hw g))
 |succ k ih=>
  intro i s hk hi st hS hR
  have hlt:i<n:=by omega
  refine codeAny_builtin F.entry_set_update_loop ?_
  rw[Around.under_plainId F.plain_set_update_loop _]
  show wpAny _ A.in1 (pyNext (.ref I) >>= _) _ _ _
  refine wpAny_bind (W.item i s _ _ hlt st λv s' hP st' m=>?_)
  obtain ⟨t,rfl⟩:=hf i v hP
  have hS':SetL P w s'.heap d (qa3 f i):=hS.at λo g=>m.heap d o hw g
  show wpAny _ A.in1 (holding [Value.int (f i) t] (setAdd d (.int (f i) t)) >>= _) _ _ _
  refine wpAny_bind (wpAny_holding ?_)
  unfold setAdd
  refine wpAny_holding ?_
  refine wpAny_bind ((intKind P w).pyHash (k:=f i) (intKind_is _ _ _ _) ?_)
  have room:(qa3 f i).length+1<scanBound:=by have:=yeh f i;omega
  refine addL (s:={ s' with toks:=s'.toks+1 }) hS' room λb h' sb S2=>?_
  have S3:SetL P w h' d (qa3 f (i+1)):=S2
  refine wpAny_pure ⟨plainId_quiet F.plain_set_update_loop _,?_⟩
  refine ih (i+1) _ (by omega) hlt (W.frame _ s' _ _ st' (le_succ _) λb hb o g=>?_) S3 λs2 m2 S4=>?_
  ·rw[sb.2 b (λz:b=d=>hd (by rw[<-z];exact hb))];exact g
  ·refine hR s2 (Moved.trans W.gtrans ((m.mono up).then_heap (le_succ _) λb o hb g=>?_) m2) S4
   rw[sb.2 b (λz:b=d=>hb (by rw[z];exact mem_cons_self))];exact g
end
section
variable {P:Program}{w:World}{A:Around}{E:Value->Shared->Prop}{s:Shared}
theorem newL(v:Value){Q1:Value->Shared->Prop}(h:Q1 (.ref s.heap.objs.size) { s with heap:=s.heap.push { cls:=.type "set",dict:=none,data:=.set #[] 0 (.fresh 0 0 (!byTx w)) } }) :
  codeAny (model P w) A (.call (.builtin "set.__new__") ⟨[.type "set",v],[]⟩) (wants Q1 E) s:=by
 refine codeAny_of_tree ?_
 show wpAny _ A.in1 (do checkBuiltinCall "set.__new__" ⟨[.type "set",v],[]⟩;again (.builtin "set.__new__" ⟨[.type "set",v],[]⟩)) _ _ s
 refine wpAny_bind (wpAny_of_eq (F.newCall_set_1 v) (wpAny_pure ⟨plainId_quiet F.plain_set_new _,?_⟩))
 refine codeAny_builtin F.entry_set_new ?_
 rw[Around.under_plainId F.plain_set_new _]
 unfold Builtin.«set.__new__» Builtin.Frozenset.newClass
 have hsub:=sub_set_self
 obtain ⟨hp,g,d,tk,os⟩:=s
 dsimp only
 wp_walk
 refine wpAny_askSetting ?_
 refine wpAny_pure ?_
 dsimp only
 simp only[newObj]
 refine wpAny_bind (wpAny_alloc ?_)
 exact wpAny_pure (wpAny_pure h)
theorem SetL.new{h:Heap}{a:Addr}(g:h.get? a=some { cls:=.type "set",dict:=none,data:=.set #[] 0 (.fresh 0 0 (!byTx w)) }):SetL P w h a []:=by
 refine ⟨_,#[],0,_,g,⟨rfl,rfl,rfl⟩,rfl,λe he=>by simp at he,⟨[],.nil,List.Perm.refl _⟩,by decide,rfl,⟨λi j x y _ hx=>by simp[SetTable.fresh]at hx,rfl⟩,?_⟩
 cases byTx w
 ·exact .inr rfl
 ·exact .inl rfl
set_option maxHeartbeats 6400000 in
theorem ql3{l:Addr}{its:Array Value}{ns:List Int}{Q:Value->Shared->Prop}(hh:A.handled=none)(hl:s.heap.IsList l its)(hi:IntsAre its.toList ns)(hb:its.size+1<scanBound)
  (k:∀(h':Heap) (tk:Nat),SetL P w h' s.heap.objs.size (qa3 (λi=>ns.getD i 0) its.size)->(∀b o,b<s.heap.objs.size->s.heap.get? b=some o->h'.get? b=some o)->Q (.ref s.heap.objs.size) { s with heap:=h',toks:=tk }) :
  wpAny (model P w) A (call (.type "set") [.ref l]) Q E s:=by
 obtain ⟨c0,tl0,c1⟩:=F.called_set.mro
 have c2:=F.called_set.made
 have c3:=F.called_set.sub
 refine wpAny_call (codeAny_of_tree ?_)
 show wpAny _ _ (callAny (.type "set") _) _ _ s
 refine wpAny_pure ⟨?_,?_⟩
 ·exact Code.quiet_builtin _ (by decide +kernel)
 refine codeAny_builtin F.entry_type_call ?_
 rw[Around.under_plain (weight_type_call_type "set" [.ref l] []) rfl]
 have c4:=F.called_set.notType
 have c5:=F.called_set.canCreate
 have c6:=F.typeCall_set_1 (.ref l)
 repeat (any_goals first|assumption|wp_step)
 refine codeAny_mono (newL (.ref l) (E:=E) (Q1:=λv s1=>v=.ref s.heap.objs.size/\s1={ s with heap:=s.heap.push { cls:=.type "set",dict:=none,data:=.set #[] 0 (.fresh 0 0 (!byTx w)) } }) ⟨rfl,rfl⟩) λr s1 hr=>?_
 cases r with
 |error e=>exact hr
 |ok fl=>
  cases fl with
  |ret v=>
   obtain ⟨rfl,rfl⟩:=hr
   have g1:(s.heap.push { cls:=.type "set",dict:=none,data:=.set #[] 0 (.fresh 0 0 (!byTx w)) }).get? s.heap.objs.size=some { cls:=.type "set",dict:=none,data:=.set #[] 0 (.fresh 0 0 (!byTx w)) }:=get?_push_size _ rfl
   have c7:Shared.TypeIs { s with heap:=s.heap.push { cls:=.type "set",dict:=none,data:=.set #[] 0 (.fresh 0 0 (!byTx w)) } } (.ref s.heap.objs.size) "set":=⟨_,g1,rfl⟩
   have c8:=F.called_set.init.lookup
   have c9:=F.called_set.init.bind (.ref s.heap.objs.size)
   repeat (any_goals first|assumption|wp_step)
   refine codeAny_mono (codeAny_call_builtin (R:=wants (λr s2=>r=.none/\∃h' tk,s2={ s with heap:=h',toks:=tk }/\SetL P w h' s.heap.objs.size (qa3 (λi=>ns.getD i 0) its.size)/\
     (∀b o,b<s.heap.objs.size->s.heap.get? b=some o->h'.get? b=some o)) E) F.called_set.init.plain F.entry_set_init (check_set_init_1 c7 ?_)) λr2 s2 hr2=>?_
   ·obtain ⟨ol,gl,cl,nl,dl⟩:=hl
    obtain ⟨qc,qd,qa,qs⟩:=ol
    simp only at cl dl
    subst cl
    subst dl
    have gl':(s.heap.push { cls:=.type "set",dict:=none,data:=.set #[] 0 (.fresh 0 0 (!byTx w)) }).get? l=some { cls:=.type "list",dict:=qd,data:=.seq its nl,slots:=qs }:=get?_push_of_some _ gl
    have d1:=F.sub_list_set
    have d2:=F.sub_list_frozenset
    have d3:(Value.type "list" == Value.type "dict")=false:=by decide
    have hl1:(s.heap.push { cls:=.type "set",dict:=none,data:=.set #[] 0 (.fresh 0 0 (!byTx w)) }).IsList l its:=⟨_,gl',rfl,nl,rfl⟩
    unfold Builtin.«set.__init__» noKeywords Builtin.Frozenset.updateFrom
    generalize hPI:pyIter=PI
    wp_walk
    subst hPI
    refine wpAny_pyIter_list hl1 ?_
    refine wpAny_bind (wpAny_runValue ?_)
    have lt:l<s.heap.objs.size:=lt_size gl
    have h3:A.in1.in1.in1.handled=none:=by simp[hh]
    have nI:l≠(s.heap.push { cls:=.type "set",dict:=none,data:=.set #[] 0 (.fresh 0 0 (!byTx w)) }).objs.size:=by
     rw[size_push];exact ne_of_lt (lt_succ_of_lt lt)
    have nf:s.heap.objs.size∉[(s.heap.push { cls:=.type "set",dict:=none,data:=.set #[] 0 (.fresh 0 0 (!byTx w)) }).objs.size,l]:=by
     rw[size_push];simp only[mem_cons,mem_singleton,not_mem_nil,or_false,not_or]
     exact ⟨ne_of_lt (Nat.lt_succ_self _),ne_of_gt lt⟩
    have hv:∀(i:Nat) (v:Value),its[i]?=some v->∃t,v=.int ((λi=>ns.getD i 0) i) t:=λi v z=>PyProof.Rows.IntsAre.int_at hi i v (by rw[getElem?_toList];exact z)
    refine loopL ((Walks.list h3 _ l nI its).toS) s.heap.objs.size nf (λi=>ns.getD i 0) hv hb (its.size-0) 0 _ (by omega) (zero_le _) ⟨⟨_,get?_push_size _ rfl,rfl,rfl⟩,(hl1.push _)⟩ ?S0 ?R0
    case S0=>exact SetL.new (get?_push_of_some _ g1)
    case R0=>
     intro s' m S'
     obtain ⟨h',g',d',tk',os'⟩:=s'
     have eg:g'=s.gens:=m.gens
     have ed:d'=s.drawn:=m.drawn
     have eo:os'=s.os:=m.os
     subst eg
     subst ed
     subst eo
     show wpAny _ _ _ _ _ _
     refine wpAny_pure ?_
     show wpAny _ _ (ret Value.none) _ _ _
     refine wpAny_pure ⟨rfl,h',tk',rfl,S',λb o lb g=>?_⟩
     have b1:b≠s.heap.objs.size:=ne_of_lt lb
     have b2:b≠(s.heap.push { cls:=.type "set",dict:=none,data:=.set #[] 0 (.fresh 0 0 (!byTx w)) }).objs.size:=by
      rw[size_push];exact ne_of_lt (lt_succ_of_lt lb)
     exact m.heap b o (by simp only[mem_cons,mem_singleton,not_mem_nil,or_false,not_or];exact ⟨b1,b2⟩) (get?_push_of_some _ (get?_push_of_some _ g))
   ·cases r2 with
    |error e=>exact hr2
    |ok fl2=>
     cases fl2 with
     |ret r=>
      obtain ⟨rfl,h',tk,rfl,S',kp⟩:=hr2
      repeat (any_goals first|assumption|wp_step)
      exact k _ _ S' kp
     |_=>exact hr2.elim
  |_=>exact hr.elim
end
theorem yao:Slot "set_iterator" "__next__" "set_iterator.__next__":=
 .of (owner:="set_iterator") (n:="__next__") (by rw[typeLookup_type,builtinLookup_eq_fast];kernel_rfl) (by decide +kernel) (by decide +kernel) (by decide +kernel) (by first|exact .inl (by decide +kernel)|exact .inr (by decide +kernel)) (by rw[isSubtype_type];kernel_rfl)
theorem ybh:entryFor table "set_iterator.__next__"=some Builtin.«set_iterator.__next__»:=entryFor_of_tree (by kernel_rfl)
theorem ybk(v:Value):argsOk "set_iterator.__next__" ⟨[v],[]⟩:=by unfold argsOk;kernel_rfl
theorem yfw:entryFor table "set.__iter__"=some Builtin.«frozenset.__iter__»:=
 entryFor_alias (id':="frozenset.__iter__") (by kernel_rfl) (by first|rfl|decide +kernel|(unfold String.splitOn;simp +decide [String.splitOnAux])) (by decide +kernel) (by kernel_rfl)
theorem qg9{M:Model}{A:Around}{E:Value->Shared->Prop}{s:Shared}{n:Nat}{Q:Nat->Shared->Prop}(hn:n≠0)(h:∀i d,i<n->Q i { s with drawn:=d }):wpAny M A (choose .order n) Q E s:=
 λΓ p hΓ=>⟨hn,h _ _ (Nat.mod_lt _ (Nat.pos_of_ne_zero hn))⟩
theorem qem{α:Type}:∀(xs:List α) (i:Nat) (x:α),xs[i]?=some x->(x::xs.eraseIdx i).Perm xs
 |[],i,x,h=>by simp at h
 |a::xs,0,x,h=>by
  have e:a=x:=by simpa using h
  subst e
  exact List.Perm.refl _
 |a::xs,i+1,x,h=>by
  have ih:=qem xs i x (by simpa using h)
  show (x::a::xs.eraseIdx i).Perm (a::xs)
  exact (List.Perm.swap a x _).trans (ih.cons a)
theorem yev{α:Type}{M:Model}{A:Around}{E:Value->Shared->Prop}:∀(n:Nat) (xs:List α) (s:Shared) (Q:List α->Shared->Prop),xs.length=n->(∀ys d,ys.Perm xs->Q ys { s with drawn:=d })->wpAny M A (drawOrder n xs) Q E s
 |0,xs,s,Q,hl,h=>by
  unfold drawOrder
  have e:xs=[]:=List.length_eq_zero_iff.mp hl
  subst e
  exact wpAny_pure (h [] s.drawn (List.Perm.refl _))
 |n+1,[],s,Q,hl,h=>by simp at hl
 |n+1,x::xs,s,Q,hl,h=>by
  unfold drawOrder
  refine wpAny_bind (qg9 (by simp) λi d hi=>?_)
  have hg:(x::xs)[i]?=some (x::xs)[i]:=getElem?_eq_getElem hi
  rw[hg]
  dsimp only
  refine wpAny_bind (yev n _ _ _ (by rw[List.length_eraseIdx];simp only[if_pos hi];omega) λys d' hp=>?_)
  exact wpAny_pure (h _ d' ((hp.cons _).trans (qem _ i _ hg)))
theorem yl2{α:Type}(f:Nat->Nat):∀(n k:Nat) (xs:List α) (out:Array α),xs.length=n->∃ys:List α,ys.Perm xs/\(pickOrder.go f n k xs out).toList=out.toList++ys
 |0,k,xs,out,hl=>⟨[],by rw[List.length_eq_zero_iff.mp hl],by unfold pickOrder.go;simp⟩
 |n+1,k,xs,out,hl=>by
  have hlt:f k % xs.length<xs.length:=Nat.mod_lt _ (by omega)
  have hg:xs[f k % xs.length]?=some xs[f k % xs.length]:=getElem?_eq_getElem hlt
  unfold pickOrder.go
  rw[hg]
  dsimp only
  obtain ⟨ys,hp,e⟩:=yl2 f n (k+1) (xs.eraseIdx (f k % xs.length)) (out.push xs[f k % xs.length]) (by rw[List.length_eraseIdx,if_pos hlt];omega)
  refine ⟨xs[f k % xs.length]::ys,(hp.cons _).trans (qem _ _ _ hg),?_⟩
  rw[e]
  simp
theorem ygb{α:Type}(f:Nat->Nat)(xs:Array α):(pickOrder f xs).toList.Perm xs.toList:=by
 obtain ⟨ys,hp,e⟩:=yl2 f xs.size 0 xs.toList #[] (by simp)
 unfold pickOrder
 rw[e]
 simpa using hp
section
variable {P:Program}{w:World}{A:Around}{E:Value->Shared->Prop}{s:Shared}{a:Addr}{o:Obj}{es:Array (Int×Value)}{ep:Nat}{t:SetTable}
theorem qlo{Q:Option (Value×Nat)->Shared->Prop}{slot i:Nat}(hb:byTx w=true)(g:s.heap.get? a=some o)(gd:o.data=.set es ep t)(hf:t.fits es.size=true)
  (h:Q (((pickOrder (w.params.setOrder a ep) es).toList.map (·.2))[i]?.map λv=>(v,slot)) s):wpAny (model P w) A (setNext a slot i ep) Q E s:=by
 unfold setNext
 refine wpAny_bind (wpAny_setState_of g gd hf ?_)
 dsimp only
 unfold setsByText
 refine wpAny_bind (wpAny_bind (wpAny_askSetting (wpAny_pure ?_)))
 have hb':w.params.followText "set-order"=true:=hb
 show wpAny _ _ (if w.params.followText "set-order"=true then _ else _) _ _ _
 rw[if_pos hb',if_neg (by simp)]
 unfold setWalk
 refine wpAny_bind (wpAny_bind (wpAny_setState_of g gd hf ?_))
 dsimp only
 unfold setsByText
 refine wpAny_bind (wpAny_bind (wpAny_askSetting (wpAny_pure ?_)))
 show wpAny _ _ (if w.params.followText "set-order"=true then _ else _) _ _ _
 rw[if_pos hb']
 refine wpAny_bind (wpAny_askSetting (wpAny_pure ?_))
 refine wpAny_pure ?_
 rw[getElem?_map,getElem?_toList,Option.map_map]at h
 exact h
theorem next_led{Q:Option (Value×Nat)->Shared->Prop}{slot i:Nat}(hb:byTx w=false)(g:s.heap.get? a=some o)(gd:o.data=.set es ep t)(hf:t.fits es.size=true)(hl:t.led=true)(hp:t.plain=true\/es.size<=1)
  (h:Q (match es[SetTable.below t.place slot]?,t.place[SetTable.below t.place slot]? with|some (_,x),some j=>some (x,j+1)|_,_=>none) s):wpAny (model P w) A (setNext a slot i ep) Q E s:=by
 unfold setNext
 refine wpAny_bind (wpAny_setState_of g gd hf ?_)
 dsimp only
 unfold setsByText
 refine wpAny_bind (wpAny_bind (wpAny_askSetting (wpAny_pure ?_)))
 have hb':w.params.followText "set-order"=false:=hb
 show wpAny _ _ (if w.params.followText "set-order"=true then _ else _) _ _ _
 rw[if_neg (by rw[hb'];exact Bool.false_ne_true)]
 refine wpAny_ite_split (λhd=>?_) λ_=>?_
 ·exfalso
  have hd':(!t.plain&&decide (es.size>1))=true:=hd
  rw[Bool.and_eq_true,decide_eq_true_eq]at hd'
  rcases hp with hp|hp
  ·rw[hp]at hd';exact absurd hd'.1 (by decide)
  ·omega
 ·refine wpAny_bind ?_
  refine wpAny_ite_split (λhd=>?_) λ_=>?_
  ·exfalso
   have hd':(!t.led && !es.isEmpty)=true:=hd
   rw[hl]at hd'
   exact absurd hd' (by simp)
  ·exact wpAny_pure (wpAny_pure h)
end
theorem ydb:Slot "set_iterator" "__iter__" "set_iterator.__iter__":=
 .of (owner:="set_iterator") (n:="__iter__") (by rw[typeLookup_type,builtinLookup_eq_fast];kernel_rfl) (by decide +kernel) (by decide +kernel) (by decide +kernel) (by first|exact .inl (by decide +kernel)|exact .inr (by decide +kernel)) (by rw[isSubtype_type];kernel_rfl)
theorem ye6:entryFor table "set_iterator.__iter__"=some Builtin.«dict_keyiterator.__iter__»:=
 entryFor_alias (id':="dict_keyiterator.__iter__") (by kernel_rfl) (by first|rfl|decide +kernel|(unfold String.splitOn;simp +decide [String.splitOnAux])) (by decide +kernel) (by kernel_rfl)
theorem yfn(v:Value):argsOk "set_iterator.__iter__" ⟨[v],[]⟩:=by unfold argsOk;kernel_rfl
def SI(h:Heap)(I:Addr)(f:Value)(i:Nat)(a:Addr)(n ep:Nat):Prop:=h.get? I=some { cls:=.type "set_iterator",dict:=none,data:=.fields #[f,rawInt i,.ref a,rawInt n,rawInt ep],slots:=#[] }
section
variable {P:Program}{w:World}{A:Around}{E:Value->Shared->Prop}{s:Shared}
theorem qio{I:Addr}{Q:Value->Shared->Prop}(hT:s.TypeIs (.ref I) "set_iterator")(h:Q (.ref I) s):wpAny (model P w) A (pyIter (.ref I)) Q E s:=by
 refine wpAny_pyIter_slot hT ydb (wpAny_call_entry ydb hT ye6 ?_ (yfn _))
 show wpAny _ _ (ret (.ref I)) _ _ s
 exact wpAny_pure ⟨_,rfl,"set_iterator",_,hT,yao.lookup,h⟩
theorem ygl{Q:Fin->Shared->Prop}(hh:A.handled=none)(h:∀h' e,(∀b o,s.heap.get? b=some o->h'.get? b=some o)->(∃o,h'.get? e=some o/\o.cls=.type "StopIteration")->E (.ref e) { s with heap:=h' }) :
  wpAny (model P w) A (newExc (.type "StopIteration") [] >>= λe=>(raiseNew e:Sem Fin)) Q E s:=by
 refine wpAny_bind ?_
 simp only[newExc,newTuple]
 refine wpAny_bind (wpAny_newObj_type ?_ (by size_fits))
 refine wpAny_bind (m:=firstArgMember _ _) ?_
 refine wpAny_of_eq (a:=Value.none) (by first|rfl|(simp only[firstArgMember];rfl)) ?_
 refine wpAny_newObj_type ?_ (by size_fits)
 simp only[raiseNew]
 refine wpAny_bind (wpAny_handled ?_)
 rw[hh]
 refine wpAny_bind (wpAny_pure (wpAny_throw ?_))
 exact h _ _ (λb o g=>get?_push_of_some _ (get?_push_of_some _ g)) ⟨_,get?_push_size _ rfl,rfl⟩
theorem ye8{h':Heap}{I:Addr}(k:∀b o,b≠I->s.heap.get? b=some o->h'.get? b=some o):Moved [I] (λx y=>y=x) s { s with heap:=h' }:=
 ⟨λb o hb g=>k b o (λz=>hb (by rw[z];exact mem_singleton.mpr rfl)) g,rfl,rfl,rfl,le_refl _⟩
theorem qks(hh:A.handled=none){I a:Addr}{o:Obj}{es:Array (Int×Value)}{ep:Nat}{t:SetTable}(nI:a≠I)(gd:o.data=.set es ep t)(hf:t.fits es.size=true)(F:Nat->Nat)(vs:List Value)(hvs:vs.length=es.size)
  (hn:∀(B:Around) (D:Value->Shared->Prop) (s:Shared) (i:Nat) (Q:Option (Value×Nat)->Shared->Prop),s.heap.get? a=some o->i<=es.size->Q (vs[i]?.map λv=>(v,F (i+1))) s->wpAny (model P w) B (setNext a (F i) i ep) Q D s) :
  WalksS P w A I [I,a] [I] (λx y=>y=x) es.size (λi v=>vs[i]?=some v) (λi s=>SI s.heap I (rawInt (F i)) i a es.size ep/\s.heap.get? a=some o) where
 sub:=λb hb=>by rw[mem_singleton]at hb;rw[hb];exact mem_cons_self ..
 grefl:=λ_=>rfl
 gtrans:=λ_ _ _ h1 h2=>h2.trans h1
 frame:=λi s h' tk st _ k=>⟨k I (by simp) _ st.1,k a (by simp) _ st.2⟩
 item:=λi s Q E hi st hQ=>by
  obtain ⟨gI,ga⟩:=st
  have hT:s.TypeIs (.ref I) "set_iterator":=⟨_,gI,rfl⟩
  have hv:vs[i]?=some vs[i]:=getElem?_eq_getElem (by omega)
  unfold pyNext
  refine wpAny_bind (wpAny_attempt (wpAny_callSpecial?_slot (name:=Str.ofString "__next__") hT yao (wpAny_call_entry yao hT ybh ?_ (ybk _))))
  show wpAny _ _ (fieldsOf (.ref I) >>= _) _ _ s
  refine wpAny_bind (wpAny_fieldsOf gI rfl ?_)
  show wpAny _ _ (setEntries a >>= _) _ _ s
  refine wpAny_bind (wpAny_setEntries_of ga gd hf ?_)
  rw[if_neg (by simp)]
  show wpAny _ _ (setNext a (F i) i ep >>= _) _ _ s
  refine wpAny_bind (hn _ _ s i _ ga (by omega) ?_)
  rw[hv]
  show wpAny _ _ (setField (.ref I) 0 (rawInt (F (i+1))) >>= _) _ _ s
  refine wpAny_bind (wpAny_setField_rec gI (by simp) λm1 g1 e1=>?_)
  refine wpAny_bind (wpAny_setField_rec g1 (by simp) λm2 g2 e2=>?_)
  refine wpAny_pure ⟨_,rfl,wpAny_pure (hQ _ _ hv ⟨?_,?_⟩ (ye8 λb ob hb g=>(e2.extBut _ _ hb (e1.extBut _ _ hb g))))⟩
  ·exact g2
  ·exact e2.extBut _ _ nI (e1.extBut _ _ nI ga)
 done:=λs Q E st hQ=>by
  obtain ⟨gI,ga⟩:=st
  have hT:s.TypeIs (.ref I) "set_iterator":=⟨_,gI,rfl⟩
  have hv:vs[es.size]?=none:=getElem?_eq_none (by omega)
  unfold pyNext
  refine wpAny_bind (wpAny_attempt (wpAny_callSpecial?_slot (name:=Str.ofString "__next__") hT yao (wpAny_call_entry yao hT ybh ?_ (ybk _))))
  show wpAny _ _ (fieldsOf (.ref I) >>= _) _ _ s
  refine wpAny_bind (wpAny_fieldsOf gI rfl ?_)
  show wpAny _ _ (setEntries a >>= _) _ _ s
  refine wpAny_bind (wpAny_setEntries_of ga gd hf ?_)
  rw[if_neg (by simp)]
  show wpAny _ _ (setNext a (F es.size) es.size ep >>= _) _ _ s
  refine wpAny_bind (hn _ _ s es.size _ ga (le_refl _) ?_)
  rw[hv]
  show wpAny _ _ (setField (.ref I) 2 Value.none >>= _) _ _ s
  refine wpAny_bind (wpAny_setField_rec gI (by simp) λm1 g1 e1=>?_)
  refine ygl (by first|exact hh|simpa using hh) λm2 e kp he=>?_
  obtain ⟨ob,go,gc⟩:=he
  refine wpAny_bind (wpAny_isInstance (T:="StopIteration") (b:=true) ⟨ob,go,gc⟩ isSubtype_stop ?_)
  exact wpAny_pure (hQ _ (ye8 λb ob hb g=>kp b ob (e1.extBut _ _ hb g)))
 self:=λi s Q E st hQ=>by
  obtain ⟨gI,ga⟩:=st
  exact qio ⟨_,gI,rfl⟩ hQ
theorem qkx(hh:A.handled=none){I a T:Addr}{o:Obj}{es:Array (Int×Value)}{ep:Nat}{t:SetTable}(nI:a≠I)(nT:T≠I)(gd:o.data=.set es ep t)(hf:t.fits es.size=true)(ps:List Nat)(hps:ps.length=es.size)(hlt:∀p∈ps,p<es.size)(vs:List Value)(hvs:vs=ps.map λp=>(es.getD p (0,.none)).2) :
  WalksS P w A I [I,a,T] [I] (λx y=>y=x) es.size (λi v=>vs[i]?=some v) (λi s=>SI s.heap I (.ref T) i a es.size ep/\s.heap.get? a=some o/\s.heap.get? T=some { cls:=.type "tuple",data:=.seq (ps.map λ(p:Nat)=>rawInt p).toArray }) where
 sub:=λb hb=>by rw[mem_singleton]at hb;rw[hb];exact mem_cons_self ..
 grefl:=λ_=>rfl
 gtrans:=λ_ _ _ h1 h2=>h2.trans h1
 frame:=λi s h' tk st _ k=>⟨k I (by simp) _ st.1,k a (by simp) _ st.2.1,k T (by simp) _ st.2.2⟩
 item:=λi s Q E hi st hQ=>by
  obtain ⟨gI,ga,gT⟩:=st
  have hT:s.TypeIs (.ref I) "set_iterator":=⟨_,gI,rfl⟩
  have hp:ps[i]?=some ps[i]:=getElem?_eq_getElem (by omega)
  have hpl:ps[i]<es.size:=hlt _ (getElem_mem _)
  have he:es[ps[i]]?=some es[ps[i]]:=Array.getElem?_eq_getElem hpl
  have hv:vs[i]?=some (es[ps[i]]).2:=by
   rw[hvs,getElem?_map,hp,Option.map_some,Array.getD_eq_getD_getElem?,he]
   rfl
  have hpi:(ps.map λ(p:Nat)=>rawInt p).toArray[i]?=some (rawInt ps[i]):=by
   rw[List.getElem?_toArray,getElem?_map,hp];rfl
  unfold pyNext
  refine wpAny_bind (wpAny_attempt (wpAny_callSpecial?_slot (name:=Str.ofString "__next__") hT yao (wpAny_call_entry yao hT ybh ?_ (ybk _))))
  show wpAny _ _ (fieldsOf (.ref I) >>= _) _ _ s
  refine wpAny_bind (wpAny_fieldsOf gI rfl ?_)
  show wpAny _ _ (setEntries a >>= _) _ _ s
  refine wpAny_bind (wpAny_setEntries_of ga gd hf ?_)
  rw[if_neg (by simp)]
  show wpAny _ _ (seqItems? (.ref T) >>= _) _ _ s
  refine wpAny_bind (wpAny_seqItems gT rfl ?_)
  dsimp only
  rw[show ((i:Int)).toNat=i from rfl,hpi]
  show wpAny _ _ (setNextDrawn a ps[i] ep >>= _) _ _ s
  unfold setNextDrawn
  refine wpAny_bind (wpAny_bind (wpAny_setState_of ga gd hf ?_))
  dsimp only
  rw[if_neg (by simp),he]
  refine wpAny_pure ?_
  show wpAny _ _ (setField (.ref I) 1 (rawInt (i+1)) >>= _) _ _ s
  refine wpAny_bind (wpAny_setField_rec gI (by simp) λm1 g1 e1=>?_)
  refine wpAny_pure ⟨_,rfl,wpAny_pure (hQ _ _ hv ⟨?_,?_,?_⟩ (ye8 λb ob hb g=>e1.extBut _ _ hb g))⟩
  ·exact g1
  ·exact e1.extBut _ _ nI ga
  ·exact e1.extBut _ _ nT gT
 done:=λs Q E st hQ=>by
  obtain ⟨gI,ga,gT⟩:=st
  have hT:s.TypeIs (.ref I) "set_iterator":=⟨_,gI,rfl⟩
  have hpi:(ps.map λ(p:Nat)=>rawInt p).toArray[es.size]?=none:=by
   rw[List.getElem?_toArray];exact getElem?_eq_none (by rw[length_map];omega)
  unfold pyNext
  refine wpAny_bind (wpAny_attempt (wpAny_callSpecial?_slot (name:=Str.ofString "__next__") hT yao (wpAny_call_entry yao hT ybh ?_ (ybk _))))
  show wpAny _ _ (fieldsOf (.ref I) >>= _) _ _ s
  refine wpAny_bind (wpAny_fieldsOf gI rfl ?_)
  show wpAny _ _ (setEntries a >>= _) _ _ s
  refine wpAny_bind (wpAny_setEntries_of ga gd hf ?_)
  rw[if_neg (by simp)]
  show wpAny _ _ (seqItems? (.ref T) >>= _) _ _ s
  refine wpAny_bind (wpAny_seqItems gT rfl ?_)
  dsimp only
  rw[show ((es.size:Int)).toNat=es.size from rfl,hpi]
  show wpAny _ _ (setField (.ref I) 0 (rawInt 0) >>= _) _ _ s
  refine wpAny_bind (wpAny_setField_rec gI (by simp) λm0 g0 e0=>?_)
  refine wpAny_bind (wpAny_setField_rec g0 (by simp) λm1 g1 e1=>?_)
  refine ygl (by first|exact hh|simpa using hh) λm2 e kp he=>?_
  obtain ⟨ob,go,gc⟩:=he
  refine wpAny_bind (wpAny_isInstance (T:="StopIteration") (b:=true) ⟨ob,go,gc⟩ isSubtype_stop ?_)
  exact wpAny_pure (hQ _ (ye8 λb ob hb g=>kp b ob (e1.extBut _ _ hb (e0.extBut _ _ hb g))))
 self:=λi s Q E st hQ=>by
  obtain ⟨gI,ga,gT⟩:=st
  exact qio ⟨_,gI,rfl⟩ hQ
end
theorem ylq{t:SetTable}{n:Nat}(h:t.fits n=true):t.place.size=n:=by
 unfold SetTable.fits at h
 rw[Bool.and_eq_true,beq_iff_eq]at h
 exact h.1
def yjp(t:SetTable)(i:Nat):Nat:=if i=0 then 0 else t.place.getD (i-1) 0+1
theorem qia{t:SetTable}(hs:Srt t.place){i:Nat}(hi:i<=t.place.size):SetTable.below t.place (yjp t i)=i:=by
 by_cases h0:i=0
 ·subst h0
  exact yjl hs (zero_le _) (λk x hk=>absurd hk (not_lt_zero _)) λk x _ _=>zero_le _
 ·have hlt:i-1<t.place.size:=by omega
  have hg:t.place[i-1]?=some (t.place.getD (i-1) 0):=by
   rw[Array.getD_eq_getD_getElem?,Array.getElem?_eq_getElem hlt];rfl
  have e:yjp t i=t.place.getD (i-1) 0+1:=by unfold yjp;rw[if_neg h0]
  rw[e]
  refine yjl hs hi (λk x hk hx=>?_) λk x hk hx=>?_
  ·by_cases hk2:k=i-1
   ·subst hk2;rw[hg]at hx;cases hx;omega
   ·have:=hs k (i-1) x _ (by omega) hx hg;omega
  ·have:=hs (i-1) k _ x (by omega) hg hx;omega
section
variable {P:Program}{w:World}{A:Around}{E:Value->Shared->Prop}{s:Shared}{a:Addr}{ks:List Int}
def WalkOf(P:Program)(w:World)(s:Shared)(a:Addr)(ks:List Int)(I:Addr)(h':Heap)(d:Drawn):Prop:=
 ∃(n:Nat) (fp:List Addr) (vs:List Value) (ns:List Int) (St:Nat->Shared->Prop),n=ks.length/\(∀B:Around,B.handled=none->WalksS P w B I fp [I] (λx y=>y=x) n (λi v=>vs[i]?=some v) St)/\St 0 { s with heap:=h',drawn:=d }/\
  s.heap.objs.size<=I/\(∀b∈fp,b=a\/s.heap.objs.size<=b)/\(∀b o,s.heap.get? b=some o->h'.get? b=some o)/\IntsAre vs ns/\ns.Perm ks
theorem iterL{Q:Value->Shared->Prop}(hS:SetL P w s.heap a ks)(k:∀I h' d,WalkOf P w s a ks I h' d->Q (.ref I) { s with heap:=h',drawn:=d }):wpAny (model P w) A (pyIter (.ref a)) Q E s:=by
 obtain ⟨o,es,ep,t,g,gx,gd,el,⟨ns,hi,hp⟩,hb,hf,ht,hl⟩:=hS
 have hT:s.TypeIs (.ref a) "set":=⟨o,g,gx.1⟩
 have hlen:es.size=ks.length:=by
  have h1:=IntsAre.length hi
  rw[length_map,length_toList]at h1
  rw[h1,hp.length_eq]
 have hpl:t.place.size=es.size:=ylq hf
 have ha:a<s.heap.objs.size:=lt_size g
 refine wpAny_pyIter_slot hT F.slot_set_iter (wpAny_call_entry F.slot_set_iter hT yfw ?_ (F.args_set_iter_1 _))
 show wpAny _ _ (Builtin.Frozenset.sizeOf a >>= _) _ _ s
 refine wpAny_bind ?_
 unfold Builtin.Frozenset.sizeOf
 refine wpAny_bind (wpAny_setEntries_of g gd hf ?_)
 refine wpAny_pure ?_
 refine wpAny_bind ?_
 refine wpAny_bind ?_
 refine wpAny_setState_of g gd hf ?_
 dsimp only
 unfold setsByText
 refine wpAny_bind (wpAny_bind (wpAny_askSetting (wpAny_pure ?_)))
 refine wpAny_pure ?_
 dsimp only
 refine wpAny_ite_split (λhd=>?_) λhd=>?_
 ·refine wpAny_bind (yev es.size (List.range es.size) s _ (by simp) λps d pp=>?_)
  have hpsl:ps.length=es.size:=by rw[pp.length_eq,length_range]
  refine wpAny_bind (wpAny_newTuple ?_ (by rw[length_map,hpsl];exact fits_of_scanBound hb))
  have gT:(s.heap.push { cls:=.type "tuple",data:=.seq (ps.map λ(p:Nat)=>rawInt p).toArray }).get? s.heap.objs.size=some { cls:=.type "tuple",data:=.seq (ps.map λ(p:Nat)=>rawInt p).toArray }:=get?_push_size _ rfl
  have ga:(s.heap.push { cls:=.type "tuple",data:=.seq (ps.map λ(p:Nat)=>rawInt p).toArray }).get? a=some o:=get?_push_of_some _ g
  refine wpAny_bind (wpAny_setEpoch_of (s:={ s with heap:=s.heap.push { cls:=.type "tuple",data:=.seq (ps.map λ(p:Nat)=>rawInt p).toArray },drawn:=d }) ga gd hf ?_)
  refine wpAny_bind (wpAny_newObj_type ?_ (by size_fits))
  have z1:(s.heap.push { cls:=.type "tuple",data:=.seq (ps.map λ(p:Nat)=>rawInt p).toArray }).objs.size=s.heap.objs.size+1:=size_push ..
  have hvp:(ps.map λp=>(es.getD p (0,.none)).2).Perm (es.toList.map (·.2)):=by
   refine (pp.map _).trans (List.Perm.of_eq ?_)
   refine List.ext_getElem (by simp) λi h1 h2=>?_
   have hi:i<es.size:=by simpa using h2
   rw[List.getElem_map,List.getElem_map,List.getElem_range,Array.getElem_toList]
   show (es.getD i (0,.none)).2=(es[i]).2
   rw[Array.getD_eq_getD_getElem?,Array.getElem?_eq_getElem hi]
   rfl
  obtain ⟨n2,i2,p2⟩:=ydx hvp hi
  have nI:a≠(s.heap.push { cls:=.type "tuple",data:=.seq (ps.map λ(p:Nat)=>rawInt p).toArray }).objs.size:=by rw[z1];exact neN (.inl (lt_succ_of_lt ha))
  have nT:s.heap.objs.size≠(s.heap.push { cls:=.type "tuple",data:=.seq (ps.map λ(p:Nat)=>rawInt p).toArray }).objs.size:=by rw[z1];exact neN (.inl (Nat.lt_succ_self _))
  refine wpAny_pure ⟨_,rfl,"set_iterator",_,⟨_,get?_push_size _ rfl,rfl⟩,yao.lookup,k _ _ d ?_⟩
  refine ⟨es.size,_,_,n2,_,hlen,λB hB=>qkx hB nI nT gd hf ps hpsl (λp hp=>mem_range.mp (pp.mem_iff.mp hp)) _ rfl,⟨get?_push_size _ rfl,get?_push_of_some _ ga,get?_push_of_some _ gT⟩,by rw[z1];exact le_succ _,λb hb=>?_,λb ob gb=>get?_push_of_some _ (get?_push_of_some _ gb),i2,p2.trans hp⟩
  have hb':b=(s.heap.push { cls:=.type "tuple",data:=.seq (ps.map λ(p:Nat)=>rawInt p).toArray }).objs.size\/b=a\/b=s.heap.objs.size:=by simpa using hb
  rcases hb' with rfl|rfl|rfl
  ·exact .inr (by rw[z1];exact le_succ _)
  ·exact .inl rfl
  ·exact .inr (le_refl _)
 ·refine wpAny_bind (wpAny_pure ?_)
  refine wpAny_bind (wpAny_setEpoch_of g gd hf ?_)
  refine wpAny_bind (wpAny_newObj_type ?_ (by size_fits))
  have nI:a≠s.heap.objs.size:=neN (.inl ha)
  have es0:s={ s with drawn:=s.drawn }:=by cases s;rfl
  have fpk:∀b∈[s.heap.objs.size,a],b=a\/s.heap.objs.size<=b:=λb hb=>by
   have hb':b=s.heap.objs.size\/b=a:=by simpa using hb
   rcases hb' with rfl|rfl
   ·exact .inr (le_refl _)
   ·exact .inl rfl
  refine wpAny_pure ⟨_,rfl,"set_iterator",_,⟨_,get?_push_size _ rfl,rfl⟩,yao.lookup,?_⟩
  have key:WalkOf P w s a ks s.heap.objs.size (s.heap.push { cls:=.type "set_iterator",data:=.fields #[rawInt 0,rawInt 0,.ref a,rawInt es.size,rawInt ep] }) s.drawn:=by
   by_cases hbt:byTx w=true
   ·have hvp:((pickOrder (w.params.setOrder a ep) es).toList.map (·.2)).Perm (es.toList.map (·.2)):=(ygb _ es).map _
    obtain ⟨n2,i2,p2⟩:=ydx hvp hi
    refine ⟨es.size,_,(pickOrder (w.params.setOrder a ep) es).toList.map (·.2),n2,_,hlen,λB hB=>qks hB nI gd hf (λ_=>0) _ (by rw[hvp.length_eq,length_map,length_toList]) λC D s i Q g1 hi1 q=>qlo hbt g1 gd hf q,⟨get?_push_size _ rfl,get?_push_of_some _ g⟩,le_refl _,fpk,λb ob gb=>get?_push_of_some _ gb,i2,p2.trans hp⟩
   ·have hbf:byTx w=false:=eq_false_of_ne_true hbt
    have hled:t.led=true:=hl.resolve_left hbt
    have hpz:t.plain=true\/es.size<=1:=by
     have hd':¬ ((!byTx w&&(!t.plain&&decide (es.size>1)))=true):=hd
     rw[hbf]at hd'
     cases hq:t.plain with
     |true=>exact .inl rfl
     |false=>
      right
      rw[hq]at hd'
      simpa using hd'
    refine ⟨es.size,_,es.toList.map (·.2),ns,_,hlen,λB hB=>qks hB nI gd hf (yjp t) _ (by rw[length_map,length_toList]) λC D s i Q g1 hi1 q=>next_led hbf g1 gd hf hled hpz ?_,⟨get?_push_size _ rfl,get?_push_of_some _ g⟩,le_refl _,fpk,λb ob gb=>get?_push_of_some _ gb,hi,hp⟩
    rw[qia ht.1 (by omega)]
    by_cases hlt:i<es.size
    ·have e1:es[i]?=some es[i]:=Array.getElem?_eq_getElem hlt
     have e2:t.place[i]?=some (t.place.getD i 0):=by
      rw[Array.getD_eq_getD_getElem?,Array.getElem?_eq_getElem (by omega)];rfl
     rw[getElem?_map,getElem?_toList,e1]at q
     rw[e1,e2]
     exact q
    ·have e1:es[i]?=none:=Array.getElem?_eq_none (by omega)
     rw[getElem?_map,getElem?_toList,e1]at q
     rw[e1]
     exact q
  have z:=k _ _ _ key
  exact z
theorem len_set:typeLookup (.type "set") "__len__"=pure (some (.builtin "set.__len__")):=by rw[typeLookup_type,builtinLookup_eq_fast];kernel_rfl
theorem collectL{Q:List Value->Shared->Prop}(hh:A.handled=none)(hS:SetL P w s.heap a ks)(hz:ks.length<=4000)
  (k:∀vs ns h' d tk,IntsAre vs ns->ns.Perm ks->s.heap.objs.size<h'.objs.size->(∀b o,s.heap.get? b=some o->h'.get? b=some o)->Q vs { s with heap:=h',drawn:=d,toks:=tk }):wpAny (model P w) A (collect (.ref a)) Q E s:=by
 have hT:s.TypeIs (.ref a) "set":=by
  obtain ⟨o,es,ep,t,g,gx,_⟩:=hS
  exact ⟨o,g,gx.1⟩
 have ha:a<s.heap.objs.size:=by
  obtain ⟨o,es,ep,t,g,gx,_⟩:=hS
  exact lt_size g
 unfold collect
 refine wpAny_bind (wpAny_runValue (codeAny_builtin F.entry_proto_collect ?_))
 rw[Around.under_plainId F.plain_proto_collect _]
 show wpAny _ A.in1 (newList [] >>= λl=>again (.builtin "list.__iadd__" ⟨[l,.ref a],[]⟩)) _ _ s
 refine wpAny_bind (wpAny_newObj_type ?_)
 refine wpAny_pure ⟨plainId_quiet F.plain_list_iadd _,?_⟩
 refine codeAny_builtin F.entry_list_iadd ?_
 rw[Around.under_plainId F.plain_list_iadd _]
 show wpAny _ A.in1 (Builtin.List.listExtendWith (.ref s.heap.objs.size) (.ref a) (.ref s.heap.objs.size)) _ _ _
 generalize hH:s.heap.push { cls:=.type "list",data:=.seq ([]:List Value).toArray }=H1
 have g0:H1.get? s.heap.objs.size=some { cls:=.type "list",data:=.seq ([]:List Value).toArray }:=by rw[<-hH];exact get?_push_size _ rfl
 have z1:H1.objs.size=s.heap.objs.size+1:=by rw[<-hH];exact size_push ..
 have kp1:∀b o,s.heap.get? b=some o->H1.get? b=some o:=λb o g=>by rw[<-hH];exact get?_push_of_some _ g
 have hS1:SetL P w H1 a ks:=hS.at λo g=>kp1 a o g
 have hT1:Shared.TypeIs { s with heap:=H1 } (.ref a) "set":=by
  obtain ⟨o,es,ep,t,g,gx,_⟩:=hS1
  exact ⟨o,g,gx.1⟩
 unfold Builtin.List.listExtendWith
 refine wpAny_bind (wpAny_typeOf hT1 ?_)
 have n1:Builtin.List.listSameRef (.ref s.heap.objs.size) (.ref a)=false:=by
  have:s.heap.objs.size≠a:=neN (.inr ha)
  simp[Builtin.List.listSameRef,this]
 rw[if_neg (by rw[n1];decide)]
 refine wpAny_bind (iterL (s:={ s with heap:=H1 }) hS1 λI h' d W=>?_)
 refine wpAny_bind (wpAny_holding ?_)
 have hT2:Shared.TypeIs { s with heap:=h',drawn:=d } (.ref a) "set":=by
  obtain ⟨n,fp,vs,ns,St,e,W1,st,lI,fpk,kp,i2,p2⟩:=W
  obtain ⟨o,g,c⟩:=hT1
  exact ⟨o,kp _ _ g,c⟩
 unfold Builtin.List.listLengthHint
 refine wpAny_bind (wpAny_specialOf hT2 len_set ?_)
 wp_delta
 refine wpAny_bind (wpAny_isInstance (T:="set") (b:=true) hT2 (by rw[isSubtype_type];kernel_rfl) ?_)
 show wpAny _ A.in1 (typeOf (Value.ref a) >>= _) _ _ _
 refine wpAny_bind (wpAny_typeOf hT2 ?_)
 refine wpAny_pure ?_
 rw[if_pos (by decide)]
 refine wpAny_bind (wpAny_rule ?_)
 obtain ⟨n,fp,vs,ns,St,en,W1,st,lI,fpk,kp,i2,p2⟩:=W
 have lI':s.heap.objs.size+1<=I:=by rw[<-z1];exact lI
 have hd:s.heap.objs.size∉fp:=λhm=>by
  rcases fpk _ hm with z|z
  ·exact absurd ha (by rw[<-z];exact lt_irrefl _)
  ·have z':s.heap.objs.size+1<=s.heap.objs.size:=by rw[<-z1];exact z
   exact absurd z' (Nat.not_succ_le_self _)
 have gS:h'.get? s.heap.objs.size=some { cls:=.type "list",data:=.seq ([]:List Value).toArray }:=kp _ _ g0
 refine wpAny_bind ?_
 show wpAny _ _ (updateSeq s.heap.objs.size (·.push .none) >>= λ_=>updateSeq s.heap.objs.size (·.pop)) _ _ _
 refine wpAny_bind (wpAny_updateSeq gS rfl ?_ (by simp) (by simp))
 have gS1:=get?_update_self (Obj.mapSeq (·.push Value.none)) gS rfl
 refine wpAny_updateSeq gS1 rfl ?_ (by simp;decide) (by simp)
 have gS2:=get?_update_self (Obj.mapSeq (·.pop)) gS1 rfl
 have oth:∀b o,b≠s.heap.objs.size->h'.get? b=some o->((h'.update s.heap.objs.size (Obj.mapSeq (·.push Value.none))).update s.heap.objs.size (Obj.mapSeq (·.pop))).get? b=some o:=λb o hb g=>by
  rw[Heap.get?_update_other _ _ (Ne.symm hb),Heap.get?_update_other _ _ (Ne.symm hb)]
  exact g
 have st2:=(W1 A.in1 (by simpa using hh)).frame 0 _ ((h'.update s.heap.objs.size (Obj.mapSeq (·.push Value.none))).update s.heap.objs.size (Obj.mapSeq (·.pop))) s.toks st (le_refl _) λb hb o g=>oth b o (λz=>hd (z ▸ hb)) g
 have hvl:n<=sizeLine:=by rw[en];exact ydg (by omega)
 refine wpAny_pure ⟨plainId_quiet F.plain_extend_loop _,?_⟩
 refine codeAny_extend_loopS (W1 A.in1 (by simpa using hh)) hvl _ hd _ n 0 _ _ _ rfl (zero_le _) st2 gS2 ⟨rfl,λj v z=>by simp at z⟩ λs2 acc c m g2 it=>?_
 show wpAny _ A (load s.heap.objs.size >>= _) _ _ s2
 refine wpAny_bind (wpAny_load g2 ?_)
 have ev:acc.toList=vs:=by
  have hl:acc.size=n:=it.1
  have hvn:vs.length=n:=by
   have h1:=IntsAre.length i2
   rw[h1,p2.length_eq,en]
  refine List.ext_getElem? λj=>?_
  cases hj:acc.toList[j]? with
  |none=>
   have:=List.getElem?_eq_none_iff.mp hj
   rw[length_toList]at this
   rw[getElem?_eq_none (by omega)]
  |some v=>exact (it.2 j v (by rw[<-getElem?_toList];exact hj)).symm
 obtain ⟨h2,g',d2,tk,os⟩:=s2
 have eg:g'=s.gens:=m.gens
 have ed:d2=d:=m.drawn
 have eo:os=s.os:=m.os
 subst eg
 subst ed
 subst eo
 refine wpAny_pure ?_
 show Q acc.toList _
 rw[ev]
 refine k vs ns h2 d2 tk i2 p2 (lt_size g2) λb o g=>?_
 have hb:b<s.heap.objs.size:=lt_size g
 refine m.heap b o (λz=>?_) (oth b o (neN (.inl hb)) (kp b o (kp1 b o g)))
 have z':b=s.heap.objs.size\/b=I:=by simpa using z
 rcases z' with z|z
 ·exact absurd hb (by rw[z];exact lt_irrefl _)
 ·exact absurd (lt_of_lt_of_le hb (Nat.le_of_succ_le lI')) (by rw[z];exact lt_irrefl _)
theorem qgr(f:Nat->Int)(k:Int):∀n,k∈qa3 f n↔∃i,i<n/\f i=k
 |0=>by
  unfold qa3
  constructor
  ·intro h;simp at h
  ·rintro ⟨i,h,_⟩;omega
 |n+1=>by
  have ih:=qgr f k n
  have e:k∈qa3 f (n+1)↔k∈qa3 f n\/k=f n:=by
   show k∈(if f n∈qa3 f n then qa3 f n else qa3 f n++[f n])↔_
   split
   ·rename_i h
    exact ⟨.inl,λz=>z.elim id λz=>z ▸ h⟩
   ·rw[mem_append,mem_singleton]
  rw[e,ih]
  constructor
  ·rintro (⟨i,h,z⟩|z)
   ·exact ⟨i,by omega,z⟩
   ·exact ⟨n,by omega,z.symm⟩
  ·rintro ⟨i,h,z⟩
   by_cases hi:i=n
   ·subst hi;exact .inr z.symm
   ·exact .inl ⟨i,by omega,z⟩
theorem qeu(f:Nat->Int):∀n,(qa3 f n).Nodup
 |0=>List.nodup_nil
 |n+1=>by
  have ih:=qeu f n
  show (if f n∈qa3 f n then qa3 f n else qa3 f n++[f n]).Nodup
  split
  ·exact ih
  ·rename_i h
   rw[List.nodup_append]
   exact ⟨ih,by simp,λx hx y hy z=>h (by rw[<-mem_singleton.mp hy,<-z];exact hx)⟩
def uniq(ns:List Int):List Int:=qa3 (λi=>ns.getD i 0) ns.length
theorem yg7(ns:List Int)(k:Int):k∈uniq ns↔k∈ns:=by
 unfold uniq
 rw[qgr]
 constructor
 ·rintro ⟨i,h,z⟩
  rw[getD_eq_getElem?_getD,getElem?_eq_getElem h]at z
  rw[<-z]
  exact getElem_mem h
 ·intro h
  obtain ⟨i,hi,e⟩:=List.getElem_of_mem h
  exact ⟨i,hi,by rw[getD_eq_getElem?_getD,getElem?_eq_getElem hi,e];rfl⟩
theorem qj4(ns:List Int):(uniq ns).Nodup:=qeu _ _
theorem uniq_len(ns:List Int):(uniq ns).length<=ns.length:=yeh _ _
def SetO(P:Program)(w:World)(a:Addr)(ks:List Int):HO:=.ext λh=>SetL P w h a ks
theorem sortedL{Q:Value->Shared->Prop}(hh:A.handled=none)(hS:SetL P w s.heap a ks)(h64:ks.length<64)
  (k:∀l h' d tk vs ns e,s.heap.objs.size<=l->h'.get? l=some (seqObj "list" (List.toArray vs) e)->IntsAre vs ns->ns.Perm ks->ns.Pairwise (·<=·)->(∀b o,s.heap.get? b=some o->h'.get? b=some o)->Q (.ref l) { s with heap:=h',drawn:=d,toks:=tk }) :
  wpAny (model P w) A (call (.builtin "sorted") [.ref a]) Q E s:=by
 refine Calls.call_function_entry kind_sorted plain_sorted entry_sorted (args_sorted1 (.ref a)) ?_
 unfold Builtin.«sorted»
 refine wpAny_bind (m:=checkCount "sorted" 1 1 _) ?_
 refine wpAny_pure ?_
 refine wpAny_bind (collectL (by simpa using hh) hS (by omega) λvs ns h1 d tk i1 p1 hz kp=>?_)
 have hvl:vs.length=ks.length:=by
  have h1:=IntsAre.length i1
  rw[h1,p1.length_eq]
 refine wpAny_bind (wpAny_newList ?_ (ydg (by omega)))
 have gL:(h1.push (seqObj "list" vs.toArray 0)).get? h1.objs.size=some (seqObj "list" vs.toArray 0):=get?_push_size _ rfl
 refine wpAny_bind (wpAny_holding (wpAny_call_entry slot_list_sort ⟨_,gL,rfl⟩ entry_list_sort (list_sort_tree gL i1 (by omega) λout n2 a1 a2 a3=>⟨_,rfl,?_⟩) (args_list_sort _)))
 obtain ⟨ep,ge⟩:=sortedHeap_at (out:=out) gL
 refine wpAny_pure ⟨_,rfl,k _ _ d tk out.toList n2 ep (le_of_lt hz) (by simpa using ge) a1 (a2.trans p1) a3 λb o g=>?_⟩
 have hb:b<h1.objs.size:=lt_size (kp b o g)
 rw[sortedHeap_old (ne_of_lt hb) (by rw[show (h1.push (seqObj "list" vs.toArray 0)).objs.size=h1.objs.size+1 from size_push ..];exact lt_succ_of_lt hb)]
 exact get?_push_of_some _ (kp b o g)
end
section
variable {X:Cx}{pins:List (Addr×Obj)}{σ:St}{H:Hp}{s:Shared}
theorem Inv.draw(I:Inv X pins σ H s)(d:Drawn):Inv X pins σ H { s with drawn:=d }:=⟨I.ok,I.os,I.bare,I.base,I.loc,I.cell,I.free,I.freeC,I.pin,I.hok,I.len⟩
def rSet(P:Program)(w:World):List V->Hp->VK->Prop:=λxs H Q=>∃(l:Addr) (ns:List Int),xs=[.ref l]/\H l=some (.lst (ns.map V.int))/\ns.length<=4000/\∀p,H p=none->Q (.ref p) (upd H p (SetO P w p (uniq ns)))
theorem ydy(hc:X.calm=true):yb7 X (.type "set") (rSet X.prog X.w):=by
 intro pins s σ H xs us Q I r h
 obtain ⟨l,ns,rfl,hH,h4,q⟩:=h
 cases r with
 |cons r rr=>
  cases rr
  cases r
  obtain ⟨z,its,n,rv,hl,e⟩:=I.lstM hH
  have hil:its.length=ns.length:=by rw[<-hl,length_map]
  have hf:H s.heap.objs.size=none:=I.hok.fresh (le_refl _)
  refine ql3 (by simpa using I.ok.hd hc) (its:=its.toArray) (ns:=ns) ⟨_,e,rfl,n,rfl⟩ (by simpa using qep rv) (by rw[size_toArray,hil];unfold scanBound;omega) λh' tk S kp=>?_
  have ez:its.toArray.size=ns.length:=by rw[size_toArray,hil]
  rw[ez]at S
  refine ⟨.ref s.heap.objs.size,_,I.laid (o:=SetO X.prog X.w s.heap.objs.size (uniq ns)) (t':=tk) (λb o g=>kp b o (lt_size g) g) (le_refl _) ?_,rfl,q _ hf⟩
  refine ⟨S,?_,λh1 h2 x y=>SetL.at x y⟩
  obtain ⟨o,es,ep,t,g,_⟩:=S
  exact ⟨o,g⟩
def rLenSet(P:Program)(w:World):List V->Hp->VK->Prop:=λxs H Q=>∃(p:Addr) (ks:List Int),xs=[.ref p]/\H p=some (SetO P w p ks)/\Q (.int ks.length) H
theorem qfi:yb7 X (.builtin "len") (rLenSet X.prog X.w):=by
 intro pins s σ H xs us Q I r h
 obtain ⟨p,ks,rfl,hH,q⟩:=h
 cases r with
 |cons r rr=>
  cases rr
  cases r
  obtain ⟨⟨o,es,ep,t,g,gx,gd,el,⟨ns,hi,hp⟩,hb,hf,ht,hl⟩,_⟩:=I.hok p _ hH
  have hlen:es.size=ks.length:=by
   have h1:=IntsAre.length hi
   rw[length_map,length_toList]at h1
   rw[h1,hp.length_eq]
  refine call_len_set g gx gd hf (by unfold scanBound at hb;omega) ?_
  rw[hlen]
  exact ⟨.int ks.length,H,I.tok _,⟨_,rfl⟩,q⟩
def rSortSet(P:Program)(w:World):List V->Hp->VK->Prop:=λxs H Q=>∃(p:Addr) (ks:List Int),xs=[.ref p]/\H p=some (SetO P w p ks)/\ks.length<64/\∀(l:Addr) (ns:List Int),H l=none->ns.Perm ks->ns.Pairwise (·<=·)->Q (.ref l) (upd H l (.lst (ns.map V.int)))
theorem yer(hc:X.calm=true):yb7 X (.builtin "sorted") (rSortSet X.prog X.w):=by
 intro pins s σ H xs us Q I r h
 obtain ⟨p,ks,rfl,hH,h64,q⟩:=h
 cases r with
 |cons r rr=>
  cases rr
  cases r
  obtain ⟨S,_⟩:=I.hok p _ hH
  refine sortedL (by simpa using I.ok.hd hc) S h64 λl h' d tk vs ns e hz gl i1 p1 w1 kp=>?_
  have hf:H l=none:=I.hok.fresh hz
  refine ⟨.ref l,_,(I.draw d).laid (o:=.lst (ns.map V.int)) (t':=tk) (λb o g=>kp b o g) hz ?_,rfl,q l ns hf p1 w1⟩
  exact ⟨ydg (by rw[length_map,p1.length_eq];omega),vs,e,qh1 i1,gl⟩
end
theorem yd0:bootBuiltins "set"=some (.type "set"):=by decide +kernel
theorem yhf{K:W.Frag}{t1 t2:Bool}{l1 l2:Addr}{xs ys:List V}{g:TG}{tt:TT}{te:TE}{ix:List (Option Nat)}{σ:St}{H:Hp}{QD:Hp->Prop}{D:Addr}(hlen:xs.length=ys.length)(Pv:Nat->Hp->Prop)(h0:Pv 0 (upd H D (.lst [])))
  (hl:∀i H',Pv i H'->Sq K t1 H' l1 xs/\Sq K t2 H' l2 ys) (stop:∀H',Pv xs.length H'->QD H')
  (step:∀i x y p H',xs[i]?=some x->ys[i]?=some y->Pv i H'->H' p=none->g (.ref p) (capS ix σ) (upd H' p (.tup [x,y])) λσ2 H3=>qaw (capS ix σ) σ2/\tt σ2 H3 λb H4=>
   if b=true then te σ2 H4 λv H5=>∃zs,H5 D=some (.lst zs)/\zs.length<sizeLine/\Pv (i+1) (upd H5 D (.lst (zs++[v]))) else Pv (i+1) H4) :
  ∃W:Nat->Nat->Hp->Prop,(∃m,W 0 m (upd H D (.lst [])))/\∀i m H,W i m H->
   ((Itz K t1 t2 l1 l2).stop i H/\QD H)\/((Itz K t1 t2 l1 l2).go i H/\∃N:Hp->Prop,(∀H',N H'->∃m',m' < m/\W (i+1) m' H')/\∀x H',(Itz K t1 t2 l1 l2).yld i H x H'->g x (capS ix σ) H' λσ2 H2=>qaw (capS ix σ) σ2/\tt σ2 H2 λb H3=>
    if b=true then te σ2 H3 λv H4=>∃zs,H4 D=some (.lst zs)/\zs.length<sizeLine/\N (upd H4 D (.lst (zs++[v]))) else N H3):=by
 refine qbp (n:=xs.length) Pv h0 (λH' p=>⟨?_,stop H' p⟩) λi H' hi p=>⟨?_,?_⟩
 ·obtain ⟨q1,q2⟩:=hl _ H' p
  exact ⟨xs,ys,q1,q2,.inl (by simp)⟩
 ·obtain ⟨q1,q2⟩:=hl _ H' p
  exact ⟨xs,ys,_,_,q1,q2,getElem?_eq_getElem hi,getElem?_eq_getElem (by omega)⟩
 ·rintro x H2 ⟨pp,u,v,hp,rfl,rfl,hu⟩
  obtain ⟨q1,q2⟩:=hl _ H' p
  obtain ⟨h1,h2⟩:=hu xs ys q1 q2
  exact step i u v pp H' h1 h2 p hp
section
variable {X:Cx}
def rMinL:List V->Hp->VK->Prop:=λxs H Q=>∃(l:Addr) (ns:List Int),xs=[.ref l]/\H l=some (.lst (ns.map V.int))/\0<ns.length/\∀M,M∈ns->(∀a∈ns,M<=a)->Q (.int M) H
def rMaxL:List V->Hp->VK->Prop:=λxs H Q=>∃(l:Addr) (ns:List Int),xs=[.ref l]/\H l=some (.lst (ns.map V.int))/\0<ns.length/\∀M,M∈ns->(∀a∈ns,a<=M)->Q (.int M) H
theorem qij(hc:X.calm=true):yb7 X (.builtin "min") rMinL:=by
 intro pins s σ H xs us Q I r h
 obtain ⟨l,ns,rfl,hH,hne,q⟩:=h
 cases r with
 |cons r rr=>
  cases rr
  cases r
  obtain ⟨z,its,n,rv,hl,e⟩:=I.lstM hH
  have hi:IntsAre its ns:=qep rv
  obtain ⟨ys,e2⟩:=hi.allInts.items
  have hns:ns=ys.toList.map (·.1):=by rw[<-hi.numsOf,<-nums_intItems,<-e2]
  have hsz:0<ys.size:=by
   have h3:=hne;rw[hns,length_map,length_toList]at h3;exact h3
  have hl':s.heap.IsList l its.toArray:=⟨_,e,rfl,n,rfl⟩
  rw[e2]at hl'
  refine min_intList (I.ok.hd hc) hl' hsz λv h' tk hv hk=>?_
  obtain ⟨t,rfl⟩:=intItems_at hv
  obtain ⟨h1,h2⟩:=argBest_lt (numAt ys) (ys.size-1)
  refine ⟨.int _,H,I.kept hk,⟨_,rfl⟩,q _ ?_ λa ha=>?_⟩
  ·rw[hns,numAt_eq];exact getD_mem (by rw[length_map,length_toList];omega)
  ·rw[hns]at ha
   obtain ⟨j,hj,rfl⟩:=mem_getD ha
   rw[length_map,length_toList]at hj
   rw[<-numAt_eq];exact h2 j (by omega)
theorem qin(hc:X.calm=true):yb7 X (.builtin "max") rMaxL:=by
 intro pins s σ H xs us Q I r h
 obtain ⟨l,ns,rfl,hH,hne,q⟩:=h
 cases r with
 |cons r rr=>
  cases rr
  cases r
  obtain ⟨z,its,n,rv,hl,e⟩:=I.lstM hH
  have hi:IntsAre its ns:=qep rv
  obtain ⟨ys,e2⟩:=hi.allInts.items
  have hns:ns=ys.toList.map (·.1):=by rw[<-hi.numsOf,<-nums_intItems,<-e2]
  have hsz:0<ys.size:=by
   have h3:=hne;rw[hns,length_map,length_toList]at h3;exact h3
  have hl':s.heap.IsList l its.toArray:=⟨_,e,rfl,n,rfl⟩
  rw[e2]at hl'
  refine max_intList (I.ok.hd hc) hl' hsz λv h' tk hv hk=>?_
  obtain ⟨t,rfl⟩:=intItems_at hv
  obtain ⟨h1,h2⟩:=argBest_gt (numAt ys) (ys.size-1)
  refine ⟨.int _,H,I.kept hk,⟨_,rfl⟩,q _ ?_ λa ha=>?_⟩
  ·rw[hns,numAt_eq];exact getD_mem (by rw[length_map,length_toList];omega)
  ·rw[hns]at ha
   obtain ⟨j,hj,rfl⟩:=mem_getD ha
   rw[length_map,length_toList]at hj
   rw[<-numAt_eq];exact h2 j (by omega)
def dOf:V->PyData
 |.non=>.none
 |.bl b=>.bool b
 |.int i=>.int i
 |.str s=>.str s
 |_=>.none
theorem flat_at{H:Hp}:∀{v:V},qdp v=true->At H v (dOf v)
 |.non,_=>.non
 |.bl b,_=>.bl b
 |.int i,_=>.int i
 |.str s,_=>.str s
theorem qe8{H:Hp}:∀{vs:List V},vs.all qdp=true->AtAll H vs (vs.map dOf)
 |[],_=>.nil
 |v::vs,h=>by
  rw[all_cons,Bool.and_eq_true]at h
  exact .cons (flat_at h.1) (qe8 h.2)
theorem qfd:∀{vs:List V},vs.all qdp=true->PyData.depthAll (vs.map dOf)<=1
 |[],_=>by simp[PyData.depthAll]
 |v::vs,h=>by
  rw[all_cons,Bool.and_eq_true]at h
  have ih:=qfd h.2
  have h1:(dOf v).depth<=1:=by
   cases v<;>first|simp[dOf,PyData.depth]|(simp[qdp]at h)
  simp only[map_cons,PyData.depthAll]
  omega
def Fl(xs:List V):Prop:=xs.all qdp=true/\PyData.canLayAll0 (xs.map dOf)=true
def tEq(H:Hp)(xs:List V):V->Bool
 |.ref a=>match H a with|some (.tup ys)=>PyData.eqvAll (ys.map dOf) (xs.map dOf)|_=>false
 |_=>false
def tEqU(H:Hp)(xs:List V):Value->Bool
 |.ref a=>match H a with|some (.tup ys)=>PyData.eqvAll (ys.map dOf) (xs.map dOf)|_=>false
 |_=>false
theorem yk7{H:Hp}{xs:List V}:∀{us:List V}{vs:List Value},Vals us vs->(∀v∈us,∃a,v=.ref a)->vs.any (tEqU H xs)=us.any (tEq H xs)
 |_,_,.nil,_=>rfl
 |u::us,_,.cons r t,h=>by
  obtain ⟨a,rfl⟩:=h u (by simp)
  cases r
  rw[any_cons,any_cons,yk7 t (λv hv=>h v (by simp[hv]))]
  rfl
def rInT:R2:=λx y H Q=>∃q xs p us,x=.ref q/\H q=some (.tup xs)/\Fl xs/\y=.ref p/\H p=some (.lst us)/\(∀v∈us,∃a ys,v=.ref a/\H a=some (.tup ys)/\Fl ys)/\Q (.bl (us.any (tEq H xs))) H
theorem op_inT{k:Nat}(hr:Room k X.A):OpR X (compareOp .In) rInT:=by
 intro pins s σ H x y v u Q I rx ry h
 obtain ⟨q,xs,p,us,rfl,hq,fx,rfl,hp,hus,k⟩:=h
 cases rx
 cases ry
 obtain ⟨its,r,pl,hz⟩:=I.list (sqlO hp)
 have hu:=hr.units
 obtain ⟨as,rx⟩:=(At.tup hq (qe8 fx.1)).reads I.hok (u:=.ref q) rfl
 refine SeqAt.in_listAt (tEqU H xs) pl.isList (λw hw=>?_) ⟨.bl _,H,I,rfl,?_⟩
 ·obtain ⟨v,hv,rv⟩:=r.back w (by simpa using hw)
  obtain ⟨a,ys,rfl,ha,fy⟩:=hus v hv
  cases rv
  obtain ⟨bs,ry⟩:=(At.tup ha (qe8 fy.1)).reads I.hok (u:=.ref a) rfl
  have e:tEqU H xs (.ref a)=PyData.eqv (.tuple (ys.map dOf)) (.tuple (xs.map dOf)):=by
   unfold tEqU
   dsimp only
   rw[ha]
   simp[PyData.eqv]
  rw[e]
  refine PySem.SeqAt.eqAt_reads _ _ _ _ _ _ _ _ ry rx fy.2 fx.2 ?_
  have h1:=qfd fy.1
  have h2:=Nat.min_le_left (PyData.tuple (ys.map dOf)).depth (PyData.tuple (xs.map dOf)).depth
  have h3:(PyData.tuple (ys.map dOf)).depth<=2:=by
   simp only[PyData.depth]
   omega
  show X.A.units+1+_<_
  omega
 ·rw[show its.toArray.any (tEqU H xs)=its.any (tEqU H xs) by simp,yk7 r (λv hv=>by obtain ⟨a,_,e,_⟩:=hus v hv;exact ⟨a,e⟩)]
  exact k
end
end L2
namespace L2
open PySem PySem.Spec PyProof.Rows PySem.W
section
variable {X:Cx}
def vwV(v a:Addr):HO:=.ext λh=>h.IsValuesView v a
def tVals(to:TE):TE:=λσ H Q=>to σ H λx H1=>∃a kvs,x=.ref a/\Rd H1 a (.dK kvs)/\∀v,H1 v=none->Q (.ref v) (upd H1 v (vwV v a))
theorem qlh{o:Expr}{to:TE}{apos cpos:Pos}(ho:PE X o to)(hbase:attributeBase o "values" X.env (eval o X.env)=eval o X.env:=by rfl)(hline:(apos.endLine == cpos.line)=true:=by rfl) :
  PE X (.Call (.Attribute o "values" apos) [] [] cpos) (tVals to):=by
 intro pins s σ H Q I h
 refine wpAny_Call_method0_late hbase hline (thn (ho pins s σ H _ I h) λv s1 ⟨x,H1,I1,r1,a,kvs,e,hr,q⟩=>?_)
 subst e
 cases r1
 obtain ⟨z1,m1,vs1,r2,dd1⟩:=yku I1.hok hr
 refine ⟨"dict","dict.values",PySem.F.plainAttrs_dict,PySem.F.slot_dict_values,PySem.F.type_dict_values,dd1.typeIs,λb eb=>?_,?_⟩
 ·cases eb
  obtain ⟨ob,es,ep,e1,e2,_⟩:=dd1
  exact ⟨ob,e1,e2.2.1⟩
 ·refine Calls.callWith_builtin rfl (PySem.evalArgs_none (call_meetsIn F.slot_dict_values dd1.typeIs F.entry_dict_values (F.args_dict_values_1 _) (meets_dict_values (qbc X.prog X.w) a m1) ⟨⟨vs1,dd1⟩,?_⟩))
  exact ⟨.ref s1.heap.objs.size,_,I1.laid (a:=s1.heap.objs.size) (o:=vwV s1.heap.objs.size a) (t':=s1.toks) (λ_ _ q=>get?_push_of_some _ q) (le_refl _) ⟨⟨_,get?_push_size _ rfl,rfl,rfl⟩,⟨_,get?_push_size _ rfl⟩,λ_ _ ⟨o,ho,r⟩ k=>⟨o,k o ho,r⟩⟩,rfl,q _ (I1.hok.fresh (le_refl _))⟩
theorem KV.vals:∀{kvs:List (Key×V)}{vs:List (Key×Value)},KV kvs vs->Vals (kvs.map (·.2)) (vs.map (·.2))
 |_,_,.nil=>.nil
 |_,_,.cons r t=>.cons r.2 (KV.vals t)
def rListV:List V->Hp->VK->Prop:=λxs H Q=>∃(v a:Addr) (kvs:List (Key×V)),xs=[.ref v]/\H v=some (vwV v a)/\Rd H a (.dK kvs)/\∀p,H p=none->Q (.ref p) (upd H p (.lst (kvs.map (·.2))))
theorem yj2(hc:X.calm=true):yb7 X (.type "list") rListV:=by
 intro pins s σ H xs us Q I r h
 obtain ⟨v,a,kvs,rfl,hv,ha,q⟩:=h
 cases r with
 |cons r rr=>
  cases rr
  cases r
  obtain ⟨z1,m1,vs1,r1,dd1⟩:=yku I.hok ha
  obtain ⟨ep,dat⟩:=dd1.dictAt
  obtain ⟨iv,_⟩:=(show qbf X.prog X.w H s.heap v (vwV v a) from I.hok v _ hv)
  have hl:=r1.length
  refine kdl_call (kdl_values (knd:=qbc X.prog X.w) (kvs:=vs1) (ep:=ep)) (I.ok.hd hc) ⟨iv,dat⟩ (by omega) λh' tk acc c kp hD hacc=>?_
  have ev:acc.toList=vs1.map (·.2):=kdl_vals_eq acc.toList (by rw[length_toList];exact hacc.1) λj v e=>hacc.2 j v (by rw[<-getElem?_toList];exact e)
  have ea:acc=(vs1.map (·.2)).toArray:=by rw[<-ev]
  subst ea
  exact ⟨.ref s.heap.objs.size,_,I.laid (o:=.lst (kvs.map (·.2))) (t':=tk) kp (le_refl _) ⟨by rw[length_map];omega,vs1.map (·.2),c,r1.vals,hD⟩,rfl,q _ (I.hok.fresh (le_refl _))⟩
end
end L2
namespace L2
open PySem PySem.Spec PyProof.Rows Mx
def forB(s:Stmt):List Stmt:=match s with
 |.For _ _ b _ _=>b
 |_=>[]
def sub:List Nat->List Stmt->List Stmt
 |[],b=>b
 |[j],b=>b.drop j
 |k::l,b=>match b.drop k with
  |s::_=>sub l (forB s)
  |[]=>[]
theorem cutA(l:List Nat){X:Cx}{body:List Stmt}{G:TS->Prop}(p:{t:TS // QSs X (sub l body) t})(h:let q:=p;∃t,QSs X body t/\G t):∃t,QSs X body t/\G t:=h
end L2
namespace Mh
open PySem L2 PyProof.Rows
def top(i:Nat):Stmt:=PySem.Challenge.pw_marchmend_k56_words_read.main.body.getD i (.Pass ⟨0,0,0,0⟩)
def b2i(b:Bool):Int:=if b then 1 else 0
theorem iteB{b:Bool}{A B:Prop}(hb:b=true)(h:A):if b=true then A else B:=by
 rw[if_pos hb];exact h
theorem iteN{b:Bool}{A B:Prop}(hb:b=false)(h:B):if b=true then A else B:=by
 rw[if_neg (by rw[hb];exact Bool.false_ne_true)];exact h
theorem iteD{c:Prop}[Decidable c]{A B:Prop}(hc:c)(h:A):if decide c=true then A else B:=iteB (decide_eq_true hc) h
theorem qaz{α β:Type}{f:α->β}{l:List α}{i:Nat}{d:β}(h:(l.map f)[i]?=some d):∃x,l[i]?=some x/\d=f x:=by
 rw[getElem?_map]at h
 cases e:l[i]? with
 |none=>rw[e]at h;cases h
 |some x=>rw[e]at h;exact ⟨x,rfl,(Option.some.inj h).symm⟩
structure Hm where
 w:Str
 c:List Int
 r:List V
def tabP:List (Str×List V):=[("stuck",[.str "cell",.str "bit"]),("slow",[.str "cell",.str "bit"]),("forgets",[.str "cell",.str "bit"]),("misreads",[.str "cell",.str "bit"]),("turns",[.str "cell",.str "cell",.str "bit"]),("sets",[.str "cell",.str "cell",.str "bit",.str "bit"]),
 ("keeps",[.str "cell",.str "cell",.str "bit",.str "bit"]),("nowhere",[.str "cell",.str "bit"]),("other",[.str "cell",.str "cell"]),("both",[.str "cell",.str "cell",.str "how"])]
def bitV(v:V):Prop:=∃b,v=.int (b2i b)
def howV(v:V):Prop:=v=.str "and"\/v=.str "or"
inductive Rest:List Str->List V->Prop
 |nil:Rest [] []
 |bit {v:V}{ns:List Str}{vs:List V}:bitV v->Rest ns vs->Rest ("bit" :: ns) (v::vs)
 |how {v:V}{ns:List Str}{vs:List V}:howV v->Rest ns vs->Rest ("how" :: ns) (v::vs)
def qb7(n:Nat)(ns:List Str):List V:=List.replicate n (V.str "cell")++ns.map V.str
def hV(h:Hm):List V:=.str h.w::(h.c.map V.int++h.r)
structure okH(h:Hm)(ns:List Str):Prop where
 tab:KTD.datumAt h.w tabP=some (qb7 h.c.length ns)
 rest:Rest ns h.r
 cl:1<=h.c.length/\h.c.length<=2
 rl:ns.length<=2
 nd:h.c.Nodup
 rg:∀x∈h.c,0<=x/\x<64
theorem Rest.len{ns:List Str}{vs:List V}(h:Rest ns vs):vs.length=ns.length:=by
 induction h with
 |nil=>rfl
 |bit _ _ ih=>simp[ih]
 |how _ _ ih=>simp[ih]
theorem okH.len{h:Hm}{ns:List Str}(o:okH h ns):(h.c.map V.int++h.r).length=(qb7 h.c.length ns).length:=by
 unfold qb7
 simp[o.rest.len]
section
variable {P:Program}{w:World}{K:W.Frag}{mg:Str->Option Value}{base:Heap}
def ybt:Sp:=λvs H Q _=>∃i,vs=[.int i]/\Q (.bl true) H
abbrev qee:Stmt:=top 14
theorem yfk:FnScope ["thing"] ["thing"] (qac qee):=fsc
theorem yit(B:Bl mg)(F:FnAt K mg "is_whole" qee ["thing"]):Has P w K mg base 1 "is_whole" ["thing"] ybt:=by
 refine Has.of F yfk (λvs H Q E h=>?_) (λ_ _ _ _ _ H vs Q E hr h=>?_)
 ·obtain ⟨i,rfl,_⟩:=h
  rfl
 ·obtain ⟨i,rfl,k⟩:=h
  have sc:=yfk
  refine ⟨_,(qaf (qaq (ybe (qak qbd rfl (B.of rfl) boot_isinstance (yaa (pv 0) (yaa (qbr (v:=.ty "int") rfl (B.of rfl) boot_int rfl) yac))) (yb6 (pe_not (qak qbd rfl (B.of rfl) boot_isinstance (yaa (pv 0) (yaa (qbr (v:=.ty "bool") rfl (B.of rfl) boot_bool rfl) yac)))))))),?_⟩
  refine ⟨_,rfl,_,_,_,_,rfl,.int i,rfl,_,rfl,iteT ?_⟩
  refine ⟨_,rfl,_,_,_,_,rfl,.int i,rfl,_,rfl,?_⟩
  exact k
def qcz:Sp:=λvs H Q _=>∃b,vs=[.int (b2i b)]/\∀H',Same H H'->Q (.bl true) H'
abbrev qhg:Stmt:=top 15
theorem yhn:FnScope ["thing"] ["thing"] (qac qhg):=fsc
theorem yl9(qa9:Has P w K mg base 1 "is_whole" ["thing"] ybt)(F:FnAt K mg "is_bit" qhg ["thing"]):Has P w K mg base 2 "is_bit" ["thing"] qcz:=by
 refine Has.of F yhn (λvs H Q E h=>?_) (λ_ _ _ _ _ H vs Q E hr h=>?_)
 ·obtain ⟨i,rfl,_⟩:=h
  rfl
 ·obtain ⟨b,rfl,k⟩:=h
  have sc:=yhn
  refine ⟨_,(qaf (qaq (ybe (yai qa9 hr (yaa (pv 0) yac)) (yb6 (qa4 ybg (pv 0) (ybn (yaa yab (yaa yab yac))) (by with_unfolding_all rfl)))))),?_⟩
  refine ⟨_,rfl,_,rfl,_,rfl,iteT ?_⟩
  refine ⟨_,rfl,zl,λp hp=>⟨p,_,rfl,.inr (sqtO qaa),rfl,rfl,?_⟩⟩
  cases b<;>exact k _ (Same.upd (smR _) hp)
def ybv(K:W.Frag):Sp:=λvs H Q _=>∃x a xs,vs=[.str x,.ref a]/\(∀H',SqT K H' a xs)/\xs.all qdp=true/\Q (.bl (inV (.str x) xs)) H
abbrev qds:Stmt:=top 16
theorem qex:FnScope ["thing","words"] ["thing","words"] (qac qds):=fsc
theorem qhq(B:Bl mg)(F:FnAt K mg "is_one_of" qds ["thing","words"]):Has P w K mg base 1 "is_one_of" ["thing","words"] (ybv K):=by
 refine Has.of F qex (λvs H Q E h=>?_) (λ_ _ _ _ _ H vs Q E hr h=>?_)
 ·obtain ⟨x,a,xs,rfl,_⟩:=h
  rfl
 ·obtain ⟨x,a,xs,rfl,hq,hf,k⟩:=h
  have sc:=qex
  refine ⟨_,(qaf (qaq (ybe (qak qbd rfl (B.of rfl) boot_isinstance (yaa (pv 0) (yaa (qbr (v:=.ty "str") rfl (B.of rfl) boot_str rfl) yac))) (yb6 (qa4 ybg (pv 0) (pv 1) (by with_unfolding_all rfl)))))),?_⟩
  refine ⟨_,rfl,_,_,_,_,rfl,.str x,rfl,_,rfl,iteT ?_⟩
  exact ⟨_,rfl,_,rfl,a,xs,rfl,.inr (hq _),rfl,hf,k⟩
def qgh:Sp:=λvs H Q _=>∃x,vs=[.int x]/\0<=x/\x<64/\Q (.bl true) H
abbrev qfp:Stmt:=top 29
theorem qgt:FnScope ["thing"] ["thing"] (qac qfp):=fsc
theorem qkk(qc1:∃t,mg "MOST_CELLS"=some (.int 64 t))(qa9:Has P w K mg base 1 "is_whole" ["thing"] ybt)(F:FnAt K mg "is_cell" qfp ["thing"]):Has P w K mg base 2 "is_cell" ["thing"] qgh:=by
 refine Has.of F qgt (λvs H Q E h=>?_) (λ_ _ _ _ _ H vs Q E hr h=>?_)
 ·obtain ⟨x,rfl,_⟩:=h
  rfl
 ·obtain ⟨x,rfl,h0,h1,k⟩:=h
  have sc:=qgt
  refine ⟨_,(qaf (qaq (ybe (yai qa9 hr (yaa (pv 0) yac)) (ybe (qa4 yly (pv 0) yab (yaj _)) (yb6 (qa4 op_lt (pv 0) (yed qc1) (yaj _))))))),?_⟩
  refine ⟨_,rfl,x,rfl,_,rfl,iteT ?_⟩
  refine ⟨_,rfl,_,_,rfl,rfl,_,rfl,iteD (by omega) ?_⟩
  refine ⟨_,rfl,_,_,rfl,rfl,?_⟩
  show Q (.bl (decide (x<64))) H
  rw[decide_eq_true h1]
  exact k
def PartOk(nm:Str)(v:V):Prop:=(nm="cell"/\∃x,v=.int x/\0<=x/\x<64)\/(nm="bit"/\bitV v)\/(nm="how"/\howV v)
def qgn:Sp:=λvs H Q _=>∃nm v,vs=[.str nm,v]/\PartOk nm v/\∀H',Same H H'->Q (.bl true) H'
abbrev qf7:Stmt:=top 30
theorem qgj:FnScope ["name","thing"] ["name","thing"] (qac qf7):=fsc
theorem qj1(yj9:GTup K mg "JOININGS" [.str "and",.str "or"])(ykq:Has P w K mg base 2 "is_cell" ["thing"] qgh)(ycl:Has P w K mg base 2 "is_bit" ["thing"] qcz)(qbj:Has P w K mg base 1 "is_one_of" ["thing","words"] (ybv K))(F:FnAt K mg "is_part" qf7 ["name","thing"]):Has P w K mg base 3 "is_part" ["name","thing"] qgn:=by
 refine Has.of F qgj (λvs H Q E h=>?_) (λ_ _ _ _ _ H vs Q E hr h=>?_)
 ·obtain ⟨nm,v,rfl,_⟩:=h
  rfl
 ·obtain ⟨nm,v,rfl,hp,k⟩:=h
  have sc:=qgj
  refine ⟨_,(qaj (ybj (yam ya1 (pv 0) yak (yaj _))
    (qaf (qaq (yai ykq hr (yaa (pv 1) yac))))
    yar)
   (qaj (ybj (yam ya1 (pv 0) yak (yaj _))
    (qaf (qaq (yai ycl hr (yaa (pv 1) yac))))
    yar)
   (qaf (qaq (yai qbj hr (yaa (pv 1) (yaa (qha yj9) yac))))))),?_⟩
  rcases hp with ⟨rfl,x,rfl,h0,h1⟩|⟨rfl,b,rfl⟩|⟨rfl,hv⟩
  ·refine ⟨_,rfl,rfl,_,rfl,iteB (by decide +kernel) ?_⟩
   exact ⟨_,rfl,x,rfl,h0,h1,k H (smR H)⟩
  ·refine ⟨_,rfl,rfl,_,rfl,iteN (by decide +kernel) ?_⟩
   refine ⟨_,rfl,rfl,_,rfl,iteB (by decide +kernel) ?_⟩
   exact ⟨_,rfl,b,rfl,k⟩
  ·refine ⟨_,rfl,rfl,_,rfl,iteN (by decide +kernel) ?_⟩
   refine ⟨_,rfl,rfl,_,rfl,iteN (by decide +kernel) ?_⟩
   rcases hv with rfl|rfl
   ·refine ⟨_,rfl,λa ha=>⟨_,a,_,rfl,ha,by decide,?_⟩⟩
    exact k H (smR H)
   ·refine ⟨_,rfl,λa ha=>⟨_,a,_,rfl,ha,by decide,?_⟩⟩
    exact k H (smR H)
def HAt(H:Hp)(v:V)(h:Hm):Prop:=∃a,v=.ref a/\H a=some (.tup (hV h))
def yf2:Sp:=λvs H Q _=>∃v h ns,vs=[v]/\HAt H v h/\okH h ns/\Q (.bl true) H
abbrev yei:Stmt:=top 31
theorem yfq:FnScope ["thing"] ["thing"] (qac yei):=fsc
theorem yip(B:Bl mg){aP:Addr}(gP:mg "PARTS"=some (.ref aP))(TP:TabK K aP tabP)(F:FnAt K mg "has_word" yei ["thing"]):Has P w K mg base 1 "has_word" ["thing"] yf2:=by
 refine Has.of F yfq (λvs H Q E h=>?_) (λ_ _ _ _ _ H vs Q E hr h=>?_)
 ·obtain ⟨v,h,ns,rfl,_⟩:=h
  rfl
 ·obtain ⟨v,h,ns,rfl,⟨a,rfl,ha⟩,ok,k⟩:=h
  have sc:=yfq
  refine ⟨_,(qaf (qaq (ybe (qak qbd rfl (B.of rfl) boot_isinstance (yaa (pv 0) (yaa (qbr (v:=.ty "tuple") rfl (B.of rfl) boot_tuple rfl) yac))) (ybe (qa4 yi8 (qak yah rfl (B.of rfl) boot_len (yaa (pv 0) yac)) yab (yaj _)) (ybe (qak qbd rfl (B.of rfl) boot_isinstance (yaa (yan qai (pv 0) yab) (yaa (qbr (v:=.ty "str") rfl (B.of rfl) boot_str rfl) yac))) (yb6 (qa4 (op_inTab (D:=tabP)) (yan qai (pv 0) yab) (yfr (v:=.ref aP) rfl gP rfl) (by with_unfolding_all rfl)))))))),?_⟩
  refine ⟨_,rfl,_,_,_,_,rfl,.tup ha,rfl,_,rfl,iteT ?_⟩
  refine ⟨_,rfl,a,_,rfl,.inr (sqtO ha),_,_,rfl,rfl,_,rfl,iteD (by unfold hV;simp;omega) ?_⟩
  refine ⟨_,rfl,a,_,_,_,rfl,rfl,sqtO ha,yae 0 rfl,_,_,_,_,rfl,.str _,rfl,_,rfl,iteT ?_⟩
  refine ⟨_,rfl,a,_,_,_,rfl,rfl,sqtO ha,yae 0 rfl,aP,h.w,rfl,rfl,TP,?_⟩
  have e:KTD.inKeys h.w tabP=true:=by rw[<-KTD.isSome_datumAt,ok.tab];rfl
  rw[e]
  exact k
theorem Rest.get{ns:List Str}{vs:List V}(h:Rest ns vs):∀{i:Nat}{n:Str}{v:V},ns[i]?=some n->vs[i]?=some v->(n="bit"/\bitV v)\/(n="how"/\howV v):=by
 induction h with
 |nil=>intro i n v h;simp at h
 |bit hb _ ih=>
  intro i n v h1 h2
  cases i with
  |zero=>simp at h1 h2;subst h1 h2;exact .inl ⟨rfl,hb⟩
  |succ i=>simp at h1 h2;exact ih h1 h2
 |how hb _ ih=>
  intro i n v h1 h2
  cases i with
  |zero=>simp at h1 h2;subst h1 h2;exact .inr ⟨rfl,hb⟩
  |succ i=>simp at h1 h2;exact ih h1 h2
theorem okH.cellAt{h:Hm}{ns:List Str}(o:okH h ns){i:Nat}{x y:V}(hx:(qb7 h.c.length ns)[i]?=some x)(hy:(h.c.map V.int++h.r)[i]?=some y) :
  (x=.str "cell"/\∃c,h.c[i]?=some c/\y=.int c)\/(h.c.length<=i/\((x=.str "bit"/\bitV y)\/(x=.str "how"/\howV y))):=by
 unfold qb7 at hx
 by_cases hi:i<h.c.length
 ·rw[getElem?_append_left (by simpa using hi),List.getElem?_replicate,if_pos hi]at hx
  rw[getElem?_append_left (by simpa using hi)]at hy
  obtain ⟨c,hc,rfl⟩:=qaz hy
  exact .inl ⟨(Option.some.inj hx).symm,c,hc,rfl⟩
 ·rw[getElem?_append_right (by simpa using le_of_not_lt hi)]at hx
  rw[getElem?_append_right (by simpa using le_of_not_lt hi)]at hy
  simp only[length_replicate,length_map]at hx hy
  obtain ⟨n,hn,rfl⟩:=qaz hx
  rcases o.rest.get hn hy with ⟨rfl,hb⟩|⟨rfl,hb⟩
  ·exact .inr ⟨le_of_not_lt hi,.inl ⟨rfl,hb⟩⟩
  ·exact .inr ⟨le_of_not_lt hi,.inr ⟨rfl,hb⟩⟩
theorem okH.partAt{h:Hm}{ns:List Str}(o:okH h ns){i:Nat}{x y:V}(hx:(qb7 h.c.length ns)[i]?=some x)(hy:(h.c.map V.int++h.r)[i]?=some y):∃nm,x=.str nm/\PartOk nm y:=by
 rcases o.cellAt hx hy with ⟨rfl,c,hc,rfl⟩|⟨_,⟨rfl,hb⟩|⟨rfl,hb⟩⟩
 ·exact ⟨_,rfl,.inl ⟨rfl,c,rfl,o.rg c (mem_of_getElem? hc)⟩⟩
 ·exact ⟨_,rfl,.inr (.inl ⟨rfl,hb⟩)⟩
 ·exact ⟨_,rfl,.inr (.inr ⟨rfl,hb⟩)⟩
theorem yg9(h:Hm):cutV (hV h) (some 1) none=h.c.map V.int++h.r:=by
 unfold hV
 exact yfb 1
theorem yi2(h:Hm):¬ (HT.sIx (hV h).length 0 (some 1)=0/\HT.sIx (hV h).length (hV h).length none=(hV h).length):=by
 rintro ⟨h0,_⟩
 unfold hV HT.sIx at h0
 simp at h0
def yez:Sp:=λvs H Q _=>∃v h ns,vs=[v]/\HAt H v h/\okH h ns/\∀H',Same H H'->Q (.bl true) H'
abbrev qdu:Stmt:=top 33
theorem qev:FnScope ["thing","names"] ["thing"] (qac qdu):=fsc
theorem yig(B:Bl mg)(yep:mg "zip"=none)(ye5:mg "all"=none){aP:Addr}(gP:mg "PARTS"=some (.ref aP))(TP:TabK K aP tabP)(yli:Has P w K mg base 3 "is_part" ["name","thing"] qgn)(F:FnAt K mg "has_parts" qdu ["thing"]):Has P w K mg base 4 "has_parts" ["thing"] yez:=by
 refine Has.of F qev (λvs H Q E h=>?_) (λ_ _ _ _ _ H vs Q E hr h=>?_)
 ·obtain ⟨v,h,ns,rfl,_⟩:=h
  rfl
 ·obtain ⟨v,h,ns,rfl,⟨a,rfl,ha⟩,ok,k⟩:=h
  have sc:=qev
  refine ⟨_,(qaj (pst 1 sc.nd (yan (ix_tab (D:=tabP)) (yfr (v:=.ref aP) rfl gP rfl) (yan qai (pv 0) yab)))
   (qaf (qaq (ybe (qa4 ya1 (qak yah rfl (B.of rfl) boot_len (yaa (pv 0) yac)) (yau ya7 (qak yah rfl (B.of rfl) boot_len (yaa (pv 1) yac)) yab) (yaj _)) (yb6 (qak (qd0 rfl) rfl ye5 qd7 (yaa (qbv rfl (yaw rfl) (M:=["name","part"]) (ix:=[none,none]) (yhq rfl yep (yaa (pv 1) (yaa (qcq qfn (pv 0) (qau yab) ybw) yac))) (λ_ _ _ _=>(qip (K:=K) (n:=2) rfl rfl (qan (yav (i:=0) (show List.Nodup (["name","part"]:List Str) by decide +kernel) rfl (Or.inl rfl)) (qan (yav (i:=1) (show List.Nodup (["name","part"]:List Str) by decide +kernel) rfl (Or.inl rfl)) ybi)))) (λ_ _ _ _=>qcr) (λ_ _ _ _=>(yai yli hr (yaa (pv 0) (yaa (pv 1) yac))))) yac))))))),?_⟩
  refine ⟨_,rfl,a,_,_,_,rfl,rfl,sqtO ha,yae 0 rfl,aP,h.w,_,rfl,rfl,TP,ok.tab,λpn hpn=>?_⟩
  refine ⟨_,rfl,a,_,rfl,.inr (sqtO ha),_,rfl,pn,_,rfl,.inr (hpn _),_,_,rfl,rfl,rfl,_,rfl,iteD ?_ ?_⟩
  ·have:=ok.len
   congr 1
   unfold hV
   rw[length_cons,this]
   rfl
  refine ⟨_,rfl,_,rfl,_,rfl,a,_,rfl,sqtO ha,yi2 h,λq hq=>?_⟩
  rw[yg9]
  have s1:Same H (upd H q (.tup (h.c.map V.int++h.r))):=(smR H).upd hq
  have e1:=@qaa H q (.tup (h.c.map V.int++h.r))
  revert s1 e1
  generalize upd H q _=H1
  intro s1 e1
  refine ⟨true,true,pn,q,_,_,rfl,hpn _,sqtO e1,λD hD=>?_⟩
  refine yhf (K:=K) (ok.len.symm) (λi H'=>Same H1 H'/\H' D=some (.lst ((List.replicate i true).map V.bl))) ⟨(smR H1).upd hD,qaa⟩ ?_ ?_ ?_
  ·rintro i H2 ⟨s2,e2⟩
   exact ⟨hpn _,sqtO (s2 _ _ e1)⟩
  ·rintro H2 ⟨s2,e2⟩
   refine ⟨D,_,rfl,e2,?_⟩
   rw[show (List.replicate (qb7 h.c.length ns).length true).all id=true by simp]
   exact k _ (s1.trans s2)
  ·rintro i x y p H2 hx hy ⟨s2,e2⟩ hp
   obtain ⟨nm,rfl,hpo⟩:=ok.partAt hx hy
   refine ⟨p,_,rfl,sqtO qaa,rfl,?_⟩
   refine ⟨_,_,rfl,_,_,rfl,rfl,qaw.set (qaw.set (qaw.refl _) rfl) rfl,yes ?_⟩
   refine ⟨_,rfl,_,rfl,nm,y,rfl,hpo,λH3 s3=>?_⟩
   have s23:Same H2 H3:=((smR H2).upd hp).trans s3
   refine ⟨_,s23 _ _ e2,qbb ?_,(s2.trans s23).at hD,?_⟩
   ·have h1:=(List.getElem?_eq_some_iff.mp hx).1
    have h2:=ok.cl
    have h3:=ok.rl
    simp[qb7]at h1 ⊢
    omega
   ·rw[qaa,List.replicate_succ',map_append];rfl
theorem yk2{h:Hm}{i:Nat}(hi:h.c.length<=i):h.c.take (i+1)=h.c.take i:=by
 rw[take_of_length_le hi,take_of_length_le (by omega)]
def ycr:Sp:=λvs H Q _=>∃v h ns,vs=[v]/\HAt H v h/\okH h ns/\∀D H',Same H H'->H D=none->H' D=some (.lst (h.c.map V.int))->Q (.ref D) H'
abbrev yeo:Stmt:=top 32
theorem qfu:FnScope ["harm"] ["harm"] (qac yeo):=fsc
theorem qi2(B:Bl mg)(yep:mg "zip"=none){aP:Addr}(gP:mg "PARTS"=some (.ref aP))(TP:TabK K aP tabP)(F:FnAt K mg "cells_in" yeo ["harm"]):Has P w K mg base 1 "cells_in" ["harm"] ycr:=by
 refine Has.of F qfu (λvs H Q E h=>?_) (λ_ _ _ _ _ H vs Q E hr h=>?_)
 ·obtain ⟨v,h,ns,rfl,_⟩:=h
  rfl
 ·obtain ⟨v,h,ns,rfl,⟨a,rfl,ha⟩,ok,k⟩:=h
  have sc:=qfu
  refine ⟨_,(qaf (qaq (qbv rfl (yaw rfl) (M:=["name","part"]) (ix:=[none,none]) (yhq rfl yep (yaa (yan (ix_tab (D:=tabP)) (yfr (v:=.ref aP) rfl gP rfl) (yan qai (pv 0) yab)) (yaa (qcq qfn (pv 0) (qau yab) ybw) yac))) (λ_ _ _ _=>(qip (K:=K) (n:=2) rfl rfl (qan (yav (i:=0) (show List.Nodup (["name","part"]:List Str) by decide +kernel) rfl (Or.inl rfl)) (qan (yav (i:=1) (show List.Nodup (["name","part"]:List Str) by decide +kernel) rfl (Or.inl rfl)) ybi)))) (λ_ _ _ _=>(yem (yam ya1 (pv 0) yak (yaj _)))) (λ_ _ _ _=>(pv 1))))),?_⟩
  refine ⟨_,rfl,a,_,_,_,rfl,rfl,sqtO ha,yae 0 rfl,aP,h.w,_,rfl,rfl,TP,ok.tab,λpn hpn=>?_⟩
  refine ⟨_,rfl,_,rfl,a,_,rfl,sqtO ha,yi2 h,λq hq=>?_⟩
  rw[yg9]
  have s1:Same H (upd H q (.tup (h.c.map V.int++h.r))):=(smR H).upd hq
  have e1:=@qaa H q (.tup (h.c.map V.int++h.r))
  revert s1 e1
  generalize upd H q _=H1
  intro s1 e1
  refine ⟨true,true,pn,q,_,_,rfl,hpn _,sqtO e1,λD hD=>?_⟩
  refine yhf (K:=K) (ok.len.symm) (λi H'=>Same H1 H'/\H' D=some (.lst ((h.c.take i).map V.int))) ⟨(smR H1).upd hD,qaa⟩ ?_ ?_ ?_
  ·rintro i H2 ⟨s2,e2⟩
   exact ⟨hpn _,sqtO (s2 _ _ e1)⟩
  ·rintro H2 ⟨s2,e2⟩
   rw[take_of_length_le (by simp[qb7])]at e2
   exact k D H2 (s1.trans s2) (s1.free hD) e2
  ·rintro i x y p H2 hx hy ⟨s2,e2⟩ hp
   have s3:Same H2 (upd H2 p (.tup [x,y])):=(smR H2).upd hp
   refine ⟨p,_,rfl,sqtO qaa,rfl,?_⟩
   revert s3
   generalize upd H2 p _=H3
   intro s3
   refine ⟨_,_,rfl,_,_,rfl,rfl,qaw.set (qaw.set (qaw.refl _) rfl) rfl,?_⟩
   rcases ok.cellAt hx hy with ⟨rfl,c,hc,rfl⟩|⟨hge,hh⟩
   ·refine ⟨_,rfl,rfl,_,rfl,iteB (by decide +kernel) ?_⟩
    refine ⟨_,rfl,_,s3 _ _ e2,qbb ?_,(s2.trans s3).at hD,?_⟩
    ·have:=ok.cl
     simp
     omega
    ·rw[qaa,take_add_one,hc];simp
   ·have hxn:∃nm,x=.str nm/\nm≠"cell":=by
     rcases hh with ⟨rfl,_⟩|⟨rfl,_⟩
     ·exact ⟨_,rfl,by decide +kernel⟩
     ·exact ⟨_,rfl,by decide +kernel⟩
    obtain ⟨nm,rfl,hnm⟩:=hxn
    refine ⟨_,rfl,rfl,_,rfl,iteN (by simpa using hnm) ?_⟩
    refine ⟨s2.trans s3,?_⟩
    rw[yk2 hge]
    exact s3 _ _ e2
theorem not_take{l:List Int}(h:l.Nodup){i:Nat}(hi:i<l.length):l[i]∉l.take i:=by
 intro hm
 obtain ⟨j,hj,e⟩:=List.getElem_of_mem hm
 rw[List.getElem_take]at e
 have hj':j<i:=by simp at hj;omega
 have:=(List.nodup_iff_pairwise_ne.mp h)
 exact (List.pairwise_iff_getElem.mp h j i (by omega) hi hj') e
theorem qho{l:List Int}(h:l.Nodup):∀i,i<=l.length->qa3 (λi=>l.getD i 0) i=l.take i
 |0,_=>rfl
 |i+1,hi=>by
  show (if l.getD i 0∈qa3 (λi=>l.getD i 0) i then qa3 (λi=>l.getD i 0) i else qa3 (λi=>l.getD i 0) i++[l.getD i 0])=_
  rw[qho h i (by omega)]
  have e:l.getD i 0=l[i]:=by rw[getD_eq_getElem?_getD,getElem?_eq_getElem (by omega)];rfl
  rw[e,if_neg (not_take h (by omega)),take_add_one,getElem?_eq_getElem (by omega)]
  rfl
theorem yko{l:List Int}(h:l.Nodup):uniq l=l:=by
 unfold uniq
 rw[qho h _ (le_refl _),take_length]
theorem HAt.same{H H':Hp}{v:V}{h:Hm}(s:Same H H')(x:HAt H v h):HAt H' v h:=by
 obtain ⟨a,rfl,ha⟩:=x
 exact ⟨a,rfl,s _ _ ha⟩
def qgv:Sp:=λvs H Q _=>∃v h ns,vs=[v]/\HAt H v h/\okH h ns/\∀H',Same H H'->Q (.bl true) H'
abbrev yf5:Stmt:=top 34
theorem ygx:FnScope ["thing","cells"] ["thing"] (qac yf5):=fsc
theorem ykl(B:Bl mg)(qe2:mg "set"=none)(qjz:Has P w K mg base 1 "has_word" ["thing"] yf2)(qiz:Has P w K mg base 4 "has_parts" ["thing"] yez)(qcg:Has P w K mg base 1 "cells_in" ["harm"] ycr)(F:FnAt K mg "is_harm" yf5 ["thing"]):Has P w K mg base 5 "is_harm" ["thing"] qgv:=by
 refine Has.of F ygx (λvs H Q E h=>?_) (λ_ _ _ _ _ H vs Q E hr h=>?_)
 ·obtain ⟨v,h,ns,rfl,_⟩:=h
  rfl
 ·obtain ⟨v,h,ns,rfl,hv,ok,k⟩:=h
  have sc:=ygx
  refine ⟨_,(qaj (ybj (PW.pt (pw_or (yc5 (qca (yai qjz hr (yaa (pv 0) yac)))) (qjm (yc5 (qca (yai qiz hr (yaa (pv 0) yac)))))))
    (qaf (qaq yjc))
    yar)
   (qaj (pst 1 sc.nd (yai qcg hr (yaa (pv 0) yac)))
   (qaf (qaq (qa4 ya1 (qak qfi rfl (B.of rfl) boot_len (yaa (qcj (ydy rfl) rfl qe2 yd0 (yaa (pv 1) yac)) yac)) (qak yah rfl (B.of rfl) boot_len (yaa (pv 1) yac)) (yaj _)))))),?_⟩
  refine ⟨_,rfl,v,h,ns,rfl,hv,ok,_,rfl,iteF ?_⟩
  refine ⟨_,rfl,v,h,ns,rfl,hv,ok,λH1 s1=>⟨_,rfl,iteF ?_⟩⟩
  refine ⟨_,rfl,v,h,ns,rfl,HAt.same s1 hv,ok,λD H2 s2 hD e2=>?_⟩
  refine ⟨_,rfl,D,h.c,rfl,e2,by have:=ok.cl;omega,λp hp=>?_⟩
  refine ⟨p,_,rfl,qaa,?_⟩
  have s3:Same H2 (upd H2 p (SetO P w p (uniq h.c))):=(smR H2).upd hp
  refine ⟨_,rfl,D,_,rfl,.inl (sqlO (s3 _ _ e2)),rfl,?_⟩
  rw[yko ok.nd,length_map,decide_eq_true rfl]
  rw[yko ok.nd]at s3
  exact k _ ((s1.trans s2).trans s3)
theorem nodup_le{l:List Int}(h:l.Nodup):∀{S:List Int},(∀x∈l,x∈S)->l.length<=S.length:=by
 induction l with
 |nil=>intro S _;exact zero_le _
 |cons x l ih=>
  intro S hs
  have hx:=hs x (by simp)
  have hn:=nodup_cons.mp h
  have:=ih hn.2 (S:=S.erase x) (λy hy=>(List.mem_erase_of_ne (λz=>by subst z;exact hn.1 hy)).mpr (hs y (by simp[hy])))
  rw[List.length_erase_of_mem hx]at this
  have:=List.length_pos_of_mem hx
  simp
  omega
def allC(hs:List Hm):List Int:=hs.flatMap Hm.c
structure okHs(hs:List Hm)(S:List Int):Prop where
 len:hs.length<=3
 ok:∀h∈hs,∃ns,okH h ns
 sl:S.length<=3
 mem:∀h∈hs,∀c∈h.c,c∈S
structure HsV(H:Hp)(vs:List V)(hs:List Hm):Prop where
 len:vs.length=hs.length
 at_:∀(i:Nat) (v:V) (h:Hm),vs[i]?=some v->hs[i]?=some h->HAt H v h
theorem HsV.same{H H':Hp}{vs:List V}{hs:List Hm}(s:Same H H')(x:HsV H vs hs):HsV H' vs hs:=⟨x.len,λi v h a b=>HAt.same s (x.at_ i v h a b)⟩
theorem HsV.get{H:Hp}{vs:List V}{hs:List Hm}(x:HsV H vs hs){i:Nat}{v:V}(h:vs[i]?=some v):∃g,hs[i]?=some g/\HAt H v g:=by
 have hi:=(List.getElem?_eq_some_iff.mp h).1
 have e:hs[i]?=some (hs[i]'(by rw[<-x.len];exact hi)):=getElem?_eq_getElem _
 exact ⟨_,e,x.at_ i v _ h e⟩
theorem yck{hs:List Hm}{i:Nat}{h:Hm}(e:hs[i]?=some h):allC (hs.take (i+1))=allC (hs.take i)++h.c:=by
 unfold allC
 rw[take_add_one,e]
 simp
theorem okHs.sub{hs:List Hm}{S:List Int}(o:okHs hs S){l:List Hm}(hl:∀h∈l,h∈hs):∀x∈allC l,x∈S:=by
 intro x hx
 unfold allC at hx
 obtain ⟨h,hh,hc⟩:=mem_flatMap.mp hx
 exact o.mem h (hl h hh) x hc
theorem okHs.few{hs:List Hm}{S:List Int}(o:okHs hs S){l:List Hm}(hl:∀h∈l,h∈hs):(uniq (allC l)).length<=3:=
 le_trans (nodup_le (qj4 _) (λx hx=>o.sub hl x ((yg7 _ x).mp hx))) o.sl
theorem allC_len{l:List Hm}(h:∀x∈l,x.c.length<=2):(allC l).length<=2*l.length:=by
 induction l with
 |nil=>simp[allC]
 |cons a l ih=>
  have h1:=h a (by simp)
  have h2:=ih (λx hx=>h x (by simp[hx]))
  unfold allC at *
  rw[flatMap_cons,length_append,length_cons]
  omega
theorem okHs.clen{hs:List Hm}{S:List Int}(o:okHs hs S){l:List Hm}(hl:∀h∈l,h∈hs):(allC l).length<=2*l.length:=
 allC_len λx hx=>by
  obtain ⟨ns,h⟩:=o.ok x (hl x hx)
  exact h.cl.2
theorem ya4{c:Prop}[Decidable c]{A B:Prop}(hc:¬ c)(h:B):if decide c=true then A else B:=iteN (decide_eq_false hc) h
def qcs:Sp:=λvs H Q _=>∃L us hs S,vs=[.ref L]/\H L=some (.lst us)/\HsV H us hs/\okHs hs S/\∀H',Same H H'->Q .non H'
abbrev qb5:Stmt:=top 35
theorem ycs:FnScope ["thing","cells","number","harm"] ["thing"] (qac qb5):=fsc
theorem qe3(B:Bl mg)(qe2:mg "set"=none)(yht:∃t,mg "MOST_HARMS"=some (.int 3 t))(qgz:∃t,mg "MOST_UNLIKE"=some (.int 3 t))(ylp:Has P w K mg base 5 "is_harm" ["thing"] qgv)(qcg:Has P w K mg base 1 "cells_in" ["harm"] ycr)(F:FnAt K mg "look_at_harms" qb5 ["thing"]):Has P w K mg base 6 "look_at_harms" ["thing"] qcs:=by
 refine Has.of F ycs (λvs H Q E h=>?_) (λ_ _ _ _ _ H vs Q E hr h=>?_)
 ·obtain ⟨L,us,hs,S,rfl,_⟩:=h
  rfl
 ·obtain ⟨L,us,hs,S,rfl,hL,hv,ok,k⟩:=h
  have sc:=ycs
  refine ⟨_,(qaj (ybj (PW.pt (pw_or (yc5 (qca (qak qbd rfl (B.of rfl) boot_isinstance (yaa (pv 0) (yaa (qbr (v:=.ty "list") rfl (B.of rfl) boot_list rfl) yac))))) (qjm (yam yi8 (qak yah rfl (B.of rfl) boot_len (yaa (pv 0) yac)) (yed yht) (yaj _)))))
    (qaf qbh)
    yar)
   (qaj (pst 1 sc.nd (ycb yac))
   (qaf (yby PassesOwn.never rfl (qfl rfl (B.of rfl) (yaa (pv 0) yac)) (qck rfl (qan (pgn 2 sc.nd) (qan (pgn 3 sc.nd) ybi)))
    (qaj (ybj (yc5 (qca (yai ylp hr (yaa (pv 3) yac))))
     (qaf qbh)
     yar)
    (qaj (qbi (ydf PySem.F.plainAttrs_list PySem.F.slot_list_extend PySem.F.type_list_extend yd5 (pv 1) (yaa (yai qcg hr (yaa (pv 3) yac)) yac)))
    (qaf (ybj (yam yi8 (qak qfi rfl (B.of rfl) boot_len (yaa (qcj (ydy rfl) rfl qe2 yd0 (yaa (pv 1) yac)) yac)) (yed qgz) (yaj _))
     (qaf qbh)
     yar)))))))),?_⟩
  refine ⟨_,rfl,_,_,_,_,rfl,.lst hL,rfl,_,rfl,iteF ?_⟩
  refine ⟨_,rfl,L,us,rfl,.inl (sqlO hL),_,_,rfl,rfl,_,rfl,ya4 (by have:=hv.len;have:=ok.len;omega) ?_⟩
  refine ⟨zero_le _,λp hp=>?_⟩
  have npL:L≠p:=yad hL hp
  refine ⟨_,rfl,L,us,rfl,sqlO (by rw[qah npL];exact hL),qd9 (xs:=us) (λi σ H2=>∃(o2 o3:Option V),σ=[some (.ref L),some (.ref p),o2,o3]/\Same H H2/\H2 p=some (.lst ((allC (hs.take i)).map V.int)))
   ⟨none,none,rfl,(smR H).upd hp,qaa⟩ (λi σ H2 _ ⟨_,_,_,h,_⟩=>sqlO (h _ _ hL)) ?_ ?_⟩
  ·rintro i x pp σ H2 hx ⟨o2,o3,rfl,s2,e2⟩ hpp
   obtain ⟨g,hg,hat⟩:=hv.get hx
   obtain ⟨ns,og⟩:=ok.ok g (mem_of_getElem? hg)
   have sP:Same H2 (upd H2 pp (.tup [.int i,x])):=(smR H2).upd hpp
   refine ⟨pp,_,rfl,sqtO qaa,rfl,_,_,rfl,_,_,rfl,rfl,?_⟩
   refine ⟨_,rfl,x,g,ns,rfl,HAt.same (s2.trans sP) hat,og,λH3 s3=>⟨_,rfl,iteF ?_⟩⟩
   have s23:Same H2 H3:=sP.trans s3
   refine ⟨_,rfl,.inl ⟨rfl,_,sqlO (s23 _ _ e2)⟩,?_⟩
   refine ⟨_,rfl,x,g,ns,rfl,HAt.same (s2.trans s23) hat,og,λD H4 s4 hD eD=>?_⟩
   have s24:=s23.trans s4
   have hsub:∀h∈hs.take (i+1),h∈hs:=λh hh=>mem_of_mem_take hh
   have hlt:(allC (hs.take (i+1))).length<=6:=by
    have h1:=ok.clen hsub
    have h2:=ok.len
    rw[length_take]at h1
    omega
   refine ⟨p,D,_,_,rfl,rfl,s24 _ _ e2,eD,?_,?_⟩
   ·rw[<-length_append,<-map_append,<-yck hg,length_map]
    exact le_of_lt (qbb (by omega))
   rw[<-map_append,<-yck hg]
   have s5:Same H (upd H4 p (.lst ((allC (hs.take (i+1))).map V.int))):=(s2.trans s24).at hp
   have e5:=@qaa H4 p (.lst ((allC (hs.take (i+1))).map V.int))
   revert s5 e5
   generalize upd H4 p _=H5
   intro s5 e5
   refine ⟨_,rfl,p,_,rfl,e5,by omega,λq hq=>?_⟩
   have s6:Same H5 (upd H5 q (SetO P w q (uniq (allC (hs.take (i+1)))))):=(smR H5).upd hq
   refine ⟨q,_,rfl,qaa,_,_,rfl,rfl,_,rfl,ya4 (by have:=ok.few hsub;omega) ?_⟩
   exact ⟨_,_,rfl,s5.trans s6,s6 _ _ e5⟩
  ·rintro σ H2 ⟨o2,o3,rfl,s2,e2⟩
   exact k _ s2
def qgb:Sp:=λvs H Q _=>∃L us hs S,vs=[.ref L]/\H L=some (.lst us)/\HsV H us hs/\okHs hs S/\∀(D:Addr) (ns:List Int) (H':Hp),Same H H'->H D=none->H' D=some (.lst (ns.map V.int))->ns.Perm (uniq (allC hs))->ns.Pairwise (·<=·)->Q (.ref D) H'
abbrev qek:Stmt:=top 36
theorem qft:FnScope ["harms","cells","harm"] ["harms"] (qac qek):=fsc
theorem qiv(B:Bl mg)(qe2:mg "set"=none)(yfe:Has P w K mg base 6 "look_at_harms" ["thing"] qcs)(qcg:Has P w K mg base 1 "cells_in" ["harm"] ycr)(F:FnAt K mg "cells_of" qek ["harms"]):Has P w K mg base 7 "cells_of" ["harms"] qgb:=by
 refine Has.of F qft (λvs H Q E h=>?_) (λ_ _ _ _ _ H vs Q E hr h=>?_)
 ·obtain ⟨L,us,hs,S,rfl,_⟩:=h
  rfl
 ·obtain ⟨L,us,hs,S,rfl,hL,hv,ok,k⟩:=h
  have sc:=qft
  refine ⟨_,(qaj (qbi (yai yfe hr (yaa (pv 0) yac)))
   (qaj (pst 1 sc.nd (ycb yac))
   (qaj (yby PassesOwn.never rfl (qa7 (pv 0)) (pgn 2 sc.nd)
    (qaf (qbi (ydf PySem.F.plainAttrs_list PySem.F.slot_list_extend PySem.F.type_list_extend yd5 (pv 1) (yaa (yai qcg hr (yaa (pv 2) yac)) yac)))))
   (qaf (qaq (qak (yer rfl) rfl (B.of rfl) qe0 (yaa (qcj (ydy rfl) rfl qe2 yd0 (yaa (pv 1) yac)) yac))))))),?_⟩
  refine ⟨_,rfl,L,us,hs,S,rfl,hL,hv,ok,λH1 s1=>?_⟩
  refine ⟨zero_le _,λp hp=>?_⟩
  have hp0:H p=none:=s1.free hp
  have npL:L≠p:=yad hL hp0
  refine ⟨_,rfl,L,rfl,⟨us,sqlO (by rw[qah npL];exact s1 _ _ hL)⟩,yaq (xs:=us) (λi σ H2=>∃(o2:Option V),σ=[some (.ref L),some (.ref p),o2]/\Same H H2/\H2 p=some (.lst ((allC (hs.take i)).map V.int)))
   ⟨none,rfl,s1.upd hp,qaa⟩ (λi σ H2 _ ⟨_,_,h,_⟩=>sqlO (h _ _ hL)) ?_ ?_⟩
  ·rintro i x σ H2 hx ⟨o2,rfl,s2,e2⟩
   obtain ⟨g,hg,hat⟩:=hv.get hx
   obtain ⟨ns,og⟩:=ok.ok g (mem_of_getElem? hg)
   refine ⟨_,rfl,.inl ⟨rfl,_,sqlO e2⟩,?_⟩
   refine ⟨_,rfl,x,g,ns,rfl,HAt.same s2 hat,og,λD H4 s4 hD eD=>?_⟩
   have hsub:∀h∈hs.take (i+1),h∈hs:=λh hh=>mem_of_mem_take hh
   have hlt:(allC (hs.take (i+1))).length<=6:=by
    have h1:=ok.clen hsub
    have h2:=ok.len
    rw[length_take]at h1
    omega
   refine ⟨p,D,_,_,rfl,rfl,s4 _ _ e2,eD,?_,?_⟩
   ·rw[<-length_append,<-map_append,<-yck hg,length_map]
    exact le_of_lt (qbb (by omega))
   rw[<-map_append,<-yck hg]
   exact ⟨_,rfl,(s2.trans s4).at hp0,qaa⟩
  ·rintro σ H2 ⟨o2,rfl,s2,e2⟩
   rw[hv.len,take_length]at e2
   have hc:=ok.clen (l:=hs) (λh hh=>hh)
   have h3:=ok.len
   refine ⟨_,rfl,p,_,rfl,e2,by omega,λq hq=>?_⟩
   have s6:Same H2 (upd H2 q (SetO P w q (uniq (allC hs)))):=(smR H2).upd hq
   refine ⟨q,_,rfl,qaa,by have:=ok.few (l:=hs) (λh hh=>hh);omega,λl ns hl hpm hso=>?_⟩
   exact k l ns _ ((s2.trans s6).upd hl) ((s2.trans s6).free hl) qaa hpm hso
def Hm.cell(h:Hm)(i:Nat):Int:=h.c.getD i 0
def Hm.bit(h:Hm)(i:Nat):Int:=match h.r.getD i .non with|.int v=>v|_=>0
theorem yg6{vs:List V}(h:Rest ["bit"] vs):∃b,vs=[.int (b2i b)]:=by
 cases h with
 |bit hb h=>
  cases h
  obtain ⟨b,rfl⟩:=hb
  exact ⟨b,rfl⟩
theorem qlg{vs:List V}(h:Rest ["bit","bit"] vs):∃b c,vs=[.int (b2i b),.int (b2i c)]:=by
 cases h with
 |bit hb h=>
  obtain ⟨b,rfl⟩:=hb
  obtain ⟨c,rfl⟩:=yg6 h
  exact ⟨b,c,rfl⟩
theorem rest_how{vs:List V}(h:Rest ["how"] vs):∃v,vs=[v]/\howV v:=by
 cases h with
 |how hb h=>
  cases h
  exact ⟨_,rfl,hb⟩
theorem map_str{ns ms:List Str}(h:ns.map V.str=ms.map V.str):ns=ms:=List.map_inj_right (λ_ _ e=>V.str.inj e) |>.mp h
theorem ybq{h:Hm}{ns:List Str}(o:okH h ns):(∃a,h.c=[a])\/∃a b,h.c=[a,b]:=by
 obtain ⟨h1,h2⟩:=o.cl
 match hc:h.c with
 |[]=>rw[hc]at h1;simp at h1
 |[a]=>exact .inl ⟨a,rfl⟩
 |[a,b]=>exact .inr ⟨a,b,rfl⟩
 |_::_::_::_=>rw[hc]at h2;simp at h2
theorem qjx{h:Hm}{ns N:List Str}(o:okH h ns)(hw:KTD.datumAt h.w tabP=some (N.map V.str)):List.replicate h.c.length ("cell" : Str)++ns=N:=by
 have e:=Option.some.inj (o.tab.symm.trans hw)
 unfold qb7 at e
 apply map_str
 rw[<-e,map_append,List.map_replicate]
theorem qfm:("cell" : Str)≠"bit":=by decide +kernel
theorem qi5:("cell" : Str)≠"how":=by decide +kernel
theorem okH.s1{h:Hm}{ns:List Str}(o:okH h ns)(hw:KTD.datumAt h.w tabP=some ((["cell","bit"]:List Str).map V.str)):∃a b,h.c=[a]/\h.r=[.int (b2i b)]:=by
 have e:=qjx o hw
 have hr:=o.rest
 rcases ybq o with ⟨a,hc⟩|⟨a,b,hc⟩
 ·rw[hc]at e
  obtain ⟨_,rfl⟩:=List.cons.inj e
  obtain ⟨b,hb⟩:=yg6 hr
  exact ⟨a,b,hc,hb⟩
 ·rw[hc]at e
  exact absurd (List.cons.inj (List.cons.inj e).2).1 qfm
theorem okH.c2{h:Hm}{ns N:List Str}(o:okH h ns)(hw:KTD.datumAt h.w tabP=some ((("cell" : Str)::("cell" : Str)::N:List Str).map V.str))(hN:∀n∈ns,n≠"cell"):∃a b,h.c=[a,b]/\ns=N:=by
 have e:=qjx o hw
 rcases ybq o with ⟨a,hc⟩|⟨a,b,hc⟩
 ·rw[hc]at e
  have e2:=(List.cons.inj e).2
  exact absurd rfl (hN "cell" (by show ("cell" : Str)∈ns;rw[show ns=("cell" : Str)::N from e2];simp))
 ·rw[hc]at e
  exact ⟨a,b,hc,(List.cons.inj (List.cons.inj e).2).2⟩
theorem Rest.nocell{ns:List Str}{vs:List V}(h:Rest ns vs):∀n∈ns,n≠"cell":=by
 induction h with
 |nil=>intro n h;simp at h
 |bit _ _ ih=>
  intro n hn
  rcases mem_cons.mp hn with rfl|hn
  ·exact qfm.symm
  ·exact ih n hn
 |how _ _ ih=>
  intro n hn
  rcases mem_cons.mp hn with rfl|hn
  ·exact qi5.symm
  ·exact ih n hn
theorem okH.sTurns{h:Hm}{ns:List Str}(o:okH h ns)(hw:KTD.datumAt h.w tabP=some ((["cell","cell","bit"]:List Str).map V.str)):∃a b x,h.c=[a,b]/\h.r=[.int (b2i x)]:=by
 obtain ⟨a,b,hc,rfl⟩:=o.c2 hw o.rest.nocell
 obtain ⟨x,hx⟩:=yg6 o.rest
 exact ⟨a,b,x,hc,hx⟩
theorem okH.sSets{h:Hm}{ns:List Str}(o:okH h ns)(hw:KTD.datumAt h.w tabP=some ((["cell","cell","bit","bit"]:List Str).map V.str)):∃a b x y,h.c=[a,b]/\h.r=[.int (b2i x),.int (b2i y)]:=by
 obtain ⟨a,b,hc,rfl⟩:=o.c2 hw o.rest.nocell
 obtain ⟨x,y,hx⟩:=qlg o.rest
 exact ⟨a,b,x,y,hc,hx⟩
theorem okH.sOther{h:Hm}{ns:List Str}(o:okH h ns)(hw:KTD.datumAt h.w tabP=some ((["cell","cell"]:List Str).map V.str)):∃a b,h.c=[a,b]/\h.r=[]:=by
 obtain ⟨a,b,hc,rfl⟩:=o.c2 hw o.rest.nocell
 have:=o.rest
 cases hr:h.r with
 |nil=>exact ⟨a,b,hc,rfl⟩
 |cons v l=>rw[hr]at this;cases this
theorem okH.sBoth{h:Hm}{ns:List Str}(o:okH h ns)(hw:KTD.datumAt h.w tabP=some ((["cell","cell","how"]:List Str).map V.str)):∃a b v,h.c=[a,b]/\h.r=[v]/\howV v:=by
 obtain ⟨a,b,hc,rfl⟩:=o.c2 hw o.rest.nocell
 obtain ⟨v,hv,hw⟩:=rest_how o.rest
 exact ⟨a,b,v,hc,hv,hw⟩
theorem okH.at1{h:Hm}{ns:List Str}(o:okH h ns):(hV h)[1]?=some (.int (h.cell 0)):=by
 rcases ybq o with ⟨a,hc⟩|⟨a,b,hc⟩<;>(unfold hV Hm.cell;rw[hc];rfl)
theorem yax{s:Str}(h:s="stuck"\/s="slow"\/s="forgets"\/s="misreads"\/s="nowhere"):KTD.datumAt s tabP=some ((["cell","bit"]:List Str).map V.str):=by
 rcases h with rfl|rfl|rfl|rfl|rfl<;>decide +kernel
theorem qda:KTD.datumAt ("turns" : Str) tabP=some ((["cell","cell","bit"]:List Str).map V.str):=by decide +kernel
theorem ybm{s:Str}(h:s="sets"\/s="keeps"):KTD.datumAt s tabP=some ((["cell","cell","bit","bit"]:List Str).map V.str):=by
 rcases h with rfl|rfl<;>decide +kernel
theorem qcl:KTD.datumAt ("other" : Str) tabP=some ((["cell","cell"]:List Str).map V.str):=by decide +kernel
theorem qcd:KTD.datumAt ("both" : Str) tabP=some ((["cell","cell","how"]:List Str).map V.str):=by decide +kernel
def yay(cell:Int)(h:Hm):Bool:=h.w == "stuck" && h.cell 0 == cell
def ybo(hs:List Hm)(cell:Int):Option Int:=(hs.find? (yay cell)).map (λh=>h.bit 0)
def optI:Option Int->V
 |none=>.non
 |some b=>.int b
def putM(hs:List Hm)(cs:List Int)(cell bit:Int):List Int:=if (ybo hs cell).isNone then cs.set cell.toNat bit else cs
theorem qc7{α:Type}{p:α->Bool}{l:List α}{i:Nat}{x:α}(h0:(l.take i).find? p=none)(hx:l[i]?=some x) :
  (p x=true->l.find? p=some x)/\(p x=false->(l.take (i+1)).find? p=none):=by
 constructor
 ·intro hp
  have hi:=(List.getElem?_eq_some_iff.mp hx).1
  have e:l=l.take i++x::l.drop (i+1):=by
   have:=List.getElem_cons_drop (as:=l) (i:=i) hi
   rw[(List.getElem?_eq_some_iff.mp hx).2]at this
   rw[this,List.take_append_drop]
  rw[e,List.find?_append,h0]
  simp[hp]
 ·intro hp
  rw[take_add_one,hx,List.find?_append,h0]
  simp[hp]
def Oks(hs:List Hm):Prop:=∀h∈hs,∃ns,okH h ns
def yc8:Sp:=λvs H Q _=>∃L us hs cell,vs=[.ref L,.int cell]/\H L=some (.lst us)/\HsV H us hs/\Oks hs/\Q (optI (ybo hs cell)) H
abbrev qdw:Stmt:=top 38
theorem yew:FnScope ["harms","cell","harm"] ["harms","cell"] (qac qdw):=fsc
theorem qhx(F:FnAt K mg "stuck_bit" qdw ["harms","cell"]):Has P w K mg base 1 "stuck_bit" ["harms","cell"] yc8:=by
 refine Has.of F yew (λvs H Q E h=>?_) (λ_ _ _ _ _ H vs Q E hr h=>?_)
 ·obtain ⟨L,us,hs,cell,rfl,_⟩:=h
  rfl
 ·obtain ⟨L,us,hs,cell,rfl,hL,hv,ok,k⟩:=h
  have sc:=yew
  refine ⟨_,(qaj (yby PassesOwn.never rfl (qa7 (pv 0)) (pgn 2 sc.nd)
    (qaf (ybj (PW.pt (yb9 (yam ya1 (yan qai (pv 2) yab) yak (yaj _)) (yb4 (yam ya1 (yan qai (pv 2) yab) (pv 1) (yaj _)))))
     (qaf (qaq (yan qai (pv 2) yab)))
     yar)))
   (qaf (qaq qik))),?_⟩
  refine ⟨_,rfl,L,rfl,⟨us,sqlO hL⟩,yaq (xs:=us) (λi σ H2=>∃(o2:Option V),σ=[some (.ref L),some (.int cell),o2]/\H2=H/\(hs.take i).find? (yay cell)=none)
   ⟨none,rfl,rfl,rfl⟩ (λi σ H2 _ ⟨_,_,h,_⟩=>by subst h;exact sqlO hL) ?_ ?_⟩
  ·rintro i x σ H2 hx ⟨o2,rfl,rfl,hn⟩
   obtain ⟨g,hg,a,rfl,ha⟩:=hv.get hx
   obtain ⟨ns,og⟩:=ok g (mem_of_getElem? hg)
   obtain ⟨f1,f2⟩:=qc7 hn hg
   refine ⟨_,rfl,a,_,_,_,rfl,rfl,sqtO ha,yae 0 rfl,rfl,_,rfl,?_⟩
   by_cases hw:g.w="stuck"
   ·refine iteB (by rw[decide_eq_true_iff];exact congrArg V.str hw) ?_
    refine ⟨_,rfl,a,_,_,_,rfl,rfl,sqtO ha,yae 1 og.at1,_,rfl,rfl,_,rfl,?_⟩
    by_cases hc:g.cell 0=cell
    ·refine iteB (by rw[decide_eq_true_iff];exact congrArg V.int hc) ?_
     obtain ⟨c,b,ec,er⟩:=og.s1 (yax (.inl hw))
     refine ⟨_,rfl,a,_,_,_,rfl,rfl,sqtO ha,yae 2 (show (hV g)[2]?=some (.int (g.bit 0)) by unfold hV Hm.bit;rw[ec,er];rfl),?_⟩
     have:=f1 (by unfold yay;rw[hw,hc];simp)
     unfold ybo at k
     rw[this]at k
     exact k
    ·refine iteN (by rw[decide_eq_false_iff_not];intro z;exact hc (V.int.inj z)) ?_
     exact ⟨_,rfl,rfl,f2 (by unfold yay;simp[hc])⟩
   ·refine iteN (by rw[decide_eq_false_iff_not];intro z;exact hw (V.str.inj z)) ?_
    exact ⟨_,rfl,rfl,f2 (by unfold yay;simp[hw])⟩
  ·rintro σ H2 ⟨o2,rfl,rfl,hn⟩
   rw[hv.len,take_length]at hn
   unfold ybo at k
   rw[hn]at k
   exact k
def rd(cs:List Int)(c:Int):Int:=cs.getD c.toNat 0
theorem yco{cs:List Int}{c:Int}(h0:0<=c)(h1:c<cs.length):atI (cs.map V.int) c=some (.int (rd cs c)):=by
 refine atI_int h0 ?_
 have:c.toNat<cs.length:=by omega
 unfold rd
 rw[getElem?_map,getD_eq_getElem?_getD,getElem?_eq_getElem this]
 rfl
theorem qll{n:Nat}{c:Int}(h0:0<=c)(h1:c<n):ixN n c=some c.toNat:=by
 unfold ixN
 rw[if_pos h0,if_pos h1]
theorem HAt.upd{H:Hp}{C:Addr}{xs ys:List V}{v:V}{h:Hm}(x:HAt H v h)(hC:H C=some (.lst xs)):HAt (upd H C (.lst ys)) v h:=by
 obtain ⟨a,rfl,ha⟩:=x
 exact ⟨a,rfl,by rw[qah (λz=>by subst z;rw[hC]at ha;cases ha)];exact ha⟩
theorem HsV.upd{H:Hp}{C:Addr}{xs ys us:List V}{hs:List Hm}(x:HsV H us hs)(hC:H C=some (.lst xs)):HsV (L2.upd H C (.lst ys)) us hs:=⟨x.len,λi v h a b=>HAt.upd (x.at_ i v h a b) hC⟩
theorem upd_id{H:Hp}{C:Addr}{o:HO}(h:H C=some o):upd H C o=H:=by
 funext b
 by_cases e:b=C
 ·subst e;rw[qaa,h]
 ·rw[qah e]
theorem map_set(cs:List Int)(i:Nat)(b:Int):(cs.map V.int).set i (.int b)=(cs.set i b).map V.int:=by rw[List.map_set]
theorem ybz(hs:List Hm)(cs:List Int)(c b:Int):(putM hs cs c b).length=cs.length:=by
 unfold putM
 split<;>simp
structure Mem(H:Hp)(L C:Addr)(us:List V)(hs:List Hm)(cs:List Int):Prop where
 ne:L≠C
 hl:H L=some (.lst us)
 hv:HsV H us hs
 ok:Oks hs
 hc:H C=some (.lst (cs.map V.int))
theorem Mem.upd{H:Hp}{L C:Addr}{us:List V}{hs:List Hm}{cs:List Int}(m:Mem H L C us hs cs)(ds:List Int):Mem (L2.upd H C (.lst (ds.map V.int))) L C us hs ds:=
 ⟨m.ne,by rw[qah m.ne];exact m.hl,m.hv.upd m.hc,m.ok,qaa⟩
theorem Mem.same{H H':Hp}{L C:Addr}{us:List V}{hs:List Hm}{cs:List Int}(s:Same H H')(m:Mem H L C us hs cs):Mem H' L C us hs cs:=
 ⟨m.ne,s _ _ m.hl,m.hv.same s,m.ok,s _ _ m.hc⟩
def qhv:Sp:=λvs H Q _=>∃L C us hs cs cell bit,vs=[.ref L,.ref C,.int cell,.int bit]/\Mem H L C us hs cs/\0<=cell/\cell<cs.length/\Q .non (upd H C (.lst ((putM hs cs cell bit).map V.int)))
abbrev s_put:Stmt:=top 39
theorem sc_put:FnScope ["harms","cells","cell","bit"] ["harms","cells","cell","bit"] (qac s_put):=fsc
theorem ok_put(qdq:Has P w K mg base 1 "stuck_bit" ["harms","cell"] yc8)(F:FnAt K mg "put" s_put ["harms","cells","cell","bit"]):Has P w K mg base 2 "put" ["harms","cells","cell","bit"] qhv:=by
 refine Has.of F sc_put (λvs H Q E h=>?_) (λ_ _ _ _ _ H vs Q E hr h=>?_)
 ·obtain ⟨L,C,us,hs,cs,cell,bit,rfl,_⟩:=h
  rfl
 ·obtain ⟨L,C,us,hs,cs,cell,bit,rfl,m,h0,h1,k⟩:=h
  have sc:=sc_put
  refine ⟨_,(qaf (ybj (qii (pc_isN (yai qdq hr (yaa (pv 0) (yaa (pv 2) yac)))))
    (qaf (qk9 (pv 3) (ql5 (pv 1) (pv 2) qg6)))
    yar)),?_⟩
  refine ⟨_,rfl,_,rfl,L,us,hs,cell,rfl,m.hl,m.hv,m.ok,?_⟩
  unfold putM at k
  cases e:ybo hs cell with
  |none=>
   rw[e]at k
   refine ⟨_,rfl,iteT ?_⟩
   refine ⟨_,rfl,_,rfl,_,rfl,C,_,cell,_,rfl,rfl,m.hc,qll h0 (by simpa using h1),?_⟩
   rw[map_set]
   exact k
  |some b=>
   rw[e]at k
   refine ⟨_,rfl,iteF ?_⟩
   rw[if_neg (by simp),upd_id m.hc]at k
   exact k
end
end Mh
namespace Mh
open PySem L2 PyProof.Rows Mx
def stkN(hs:List Hm)(cs:List Int):Nat->List Int
 |0=>cs
 |n+1=>match ybo hs n with|some b=>(stkN hs cs n).set n b|none=>stkN hs cs n
theorem ydc(hs:List Hm)(cs:List Int):∀n,(stkN hs cs n).length=cs.length
 |0=>rfl
 |n+1=>by
  have ih:=ydc hs cs n
  unfold stkN
  split<;>simp[ih]
def ydu(hs:List Hm)(cs:List Int)(h:Hm):List Int:=if h.w="keeps"/\rd cs (h.cell 0)=h.bit 0 then putM hs cs (h.cell 1) (h.bit 1) else cs
theorem yiw(hs:List Hm)(cs:List Int)(h:Hm):(ydu hs cs h).length=cs.length:=by
 unfold ydu
 split
 ·exact ybz _ _ _ _
 ·rfl
def yfj(hs:List Hm)(l:List Hm)(cs:List Int):List Int:=l.foldl (ydu hs) cs
theorem qfy(hs:List Hm)(l:List Hm)(cs:List Int):(yfj hs l cs).length=cs.length:=by
 induction l generalizing cs with
 |nil=>rfl
 |cons a l ih=>exact (ih _).trans (yiw _ _ _)
theorem ybf{α β:Type}(f:β->α->β)(b:β){l:List α}{i:Nat}{x:α}(h:l[i]?=some x):(l.take (i+1)).foldl f b=f ((l.take i).foldl f b) x:=by
 rw[take_add_one,h,List.foldl_append]
 rfl
def yas(hs:List Hm)(cs:List Int):List Int:=yfj hs hs (stkN hs cs cs.length)
theorem yfp(hs:List Hm)(cs:List Int):(yas hs cs).length=cs.length:=(qfy _ _ _).trans (ydc _ _ _)
def InR(hs:List Hm)(n:Nat):Prop:=∀h∈hs,∀c∈h.c,0<=c/\c<n
theorem InR.c0{hs:List Hm}{n:Nat}(r:InR hs n){h:Hm}(hh:h∈hs){ns:List Str}(o:okH h ns):0<=h.cell 0/\h.cell 0<n:=by
 refine r h hh _ ?_
 rcases ybq o with ⟨a,hc⟩|⟨a,b,hc⟩<;>(unfold Hm.cell;rw[hc];simp)
theorem InR.c1{hs:List Hm}{n:Nat}(r:InR hs n){h:Hm}(hh:h∈hs){a b:Int}(hc:h.c=[a,b]):0<=h.cell 1/\h.cell 1<n:=by
 refine r h hh _ ?_
 unfold Hm.cell
 rw[hc]
 simp
theorem qfg{h:Hm}{a b:Int}{l:List V}(hc:h.c=[a,b])(hr:h.r=l):hV h=.str h.w :: .int (h.cell 0) :: .int (h.cell 1)::l:=by
 unfold hV Hm.cell
 rw[hc,hr]
 rfl
theorem dS{a b:Str}:decide (V.str a=V.str b)=decide (a=b):=by
 by_cases h:a=b
 ·subst h;simp
 ·rw[decide_eq_false h,decide_eq_false (λz=>h (V.str.inj z))]
theorem dI{a b:Int}:decide (V.int a=V.int b)=decide (a=b):=by
 by_cases h:a=b
 ·subst h;simp
 ·rw[decide_eq_false h,decide_eq_false (λz=>h (V.int.inj z))]
section
variable {P:Program}{w:World}{K:W.Frag}{mg:Str->Option Value}{base:Heap}
def yh7:Sp:=λvs H Q _=>∃L C us hs cs,vs=[.ref L,.ref C]/\Mem H L C us hs cs/\InR hs cs.length/\cs.length<=64/\Q .non (upd H C (.lst ((yas hs cs).map V.int)))
abbrev yhg:Stmt:=top 40
theorem yil:FnScope ["harms","cells","cell","bit","harm"] ["harms","cells"] (qac yhg):=fsc
theorem yk6(B:Bl mg)(qdq:Has P w K mg base 1 "stuck_bit" ["harms","cell"] yc8)(qjd:Has P w K mg base 2 "put" ["harms","cells","cell","bit"] qhv)(F:FnAt K mg "settle" yhg ["harms","cells"]):Has P w K mg base 3 "settle" ["harms","cells"] yh7:=by
 refine Has.of F yil (λvs H Q E h=>?_) (λ_ _ _ _ _ H vs Q E hr h=>?_)
 ·obtain ⟨L,C,us,hs,cs,rfl,_⟩:=h
  rfl
 ·obtain ⟨L,C,us,hs,cs,rfl,m,hi,hcl,k⟩:=h
  have sc:=yil
  refine ⟨_,(qaj (yby PassesOwn.never rfl (qa8 rfl (B.of rfl) (yaa (qak yah rfl (B.of rfl) boot_len (yaa (pv 1) yac)) yac)) (pgn 2 sc.nd)
    (qaj (pst 3 sc.nd (yai qdq hr (yaa (pv 0) (yaa (pv 2) yac))))
    (qaf (ybj (qii (yjd (pv 3)))
     (qaf (qk9 (pv 3) (ql5 (pv 1) (pv 2) qg6)))
     yar))))
   (qaf (yby PassesOwn.never rfl (qa7 (pv 0)) (pgn 4 sc.nd)
    (qaf (ybj (PW.pt (yb9 (yam ya1 (yan qai (pv 4) yab) yak (yaj _)) (yb4 (yam ya1 (yan qam (pv 1) (yan qai (pv 4) yab)) (yan qai (pv 4) yab) (yaj _)))))
     (qaf (qbi (yai qjd hr (qbs (pv 0) (qbs (pv 1) (yaa (yan qai (pv 4) yab) (yaa (yan qai (pv 4) yab) yac)))))))
     yar))))),?_⟩
  refine ⟨_,rfl,C,_,rfl,.inl (sqlO m.hc),cs.length,(by rw[length_map]),(by omega),(by omega),qbl (n:=cs.length) (λi σ H2=>∃(o2 o3:Option V),σ=[some (.ref L),some (.ref C),o2,o3,none]/\H2=upd H C (.lst ((stkN hs cs i).map V.int)))
   ⟨none,none,rfl,(upd_id m.hc).symm⟩ ?_ ?_⟩
  ·rintro i σ H2 hlt ⟨o2,o3,rfl,rfl⟩
   have m2:=m.upd (stkN hs cs i)
   rw[zero_add]
   refine ⟨_,rfl,_,rfl,L,us,hs,i,rfl,m2.hl,m2.hv,m2.ok,?_⟩
   cases e:ybo hs i with
   |none=>
    refine ⟨_,rfl,_,rfl,iteF ?_⟩
    exact ⟨_,_,rfl,by rw[stkN,e]⟩
   |some b=>
    refine ⟨_,rfl,_,rfl,iteT ?_⟩
    refine ⟨_,rfl,_,rfl,_,rfl,C,_,i,_,rfl,rfl,m2.hc,qll (by omega) (by rw[length_map,ydc];omega),?_⟩
    refine ⟨_,_,rfl,?_⟩
    rw[show optI (some b)=V.int b from rfl,map_set,qlz,stkN,e]
    rfl
  ·rintro σ H2 ⟨o2,o3,rfl,rfl⟩
   have m2:=m.upd (stkN hs cs cs.length)
   refine ⟨_,rfl,L,rfl,⟨us,sqlO m2.hl⟩,yaq (xs:=us) (λi σ H2=>∃(o4:Option V),σ=[some (.ref L),some (.ref C),o2,o3,o4]/\H2=upd H C (.lst ((yfj hs (hs.take i) (stkN hs cs cs.length)).map V.int)))
    ⟨none,rfl,rfl⟩ (λi σ H2 _ ⟨_,_,h⟩=>by subst h;exact sqlO (by rw[qah m.ne];exact m.hl)) ?_ ?_⟩
   ·rintro i x σ H2 hx ⟨o4,rfl,rfl⟩
    have hlen:=(qfy hs (hs.take i) (stkN hs cs cs.length)).trans (ydc hs cs cs.length)
    have m3:=m.upd (yfj hs (hs.take i) (stkN hs cs cs.length))
    have step:∀g,hs[i]?=some g->yfj hs (hs.take (i+1)) (stkN hs cs cs.length)=ydu hs (yfj hs (hs.take i) (stkN hs cs cs.length)) g:=λg hg=>ybf _ _ hg
    revert hlen m3 step
    generalize yfj hs (hs.take i) (stkN hs cs cs.length)=ds
    intro hlen m3 step
    obtain ⟨g,hg,a,rfl,ha⟩:=m3.hv.get hx
    have hgm:=mem_of_getElem? hg
    obtain ⟨ns,og⟩:=m.ok g hgm
    rw[step g hg]
    unfold ydu
    refine ⟨_,rfl,a,_,_,_,rfl,rfl,sqtO ha,yae 0 rfl,rfl,_,rfl,?_⟩
    rw[dS]
    by_cases hw:g.w="keeps"
    ·refine iteB (decide_eq_true hw) ?_
     obtain ⟨c1,c2,x1,x2,ec,er⟩:=og.sSets (ybm (.inr hw))
     have hb0:g.bit 0=b2i x1:=by unfold Hm.bit;rw[er];rfl
     have hb1:g.bit 1=b2i x2:=by unfold Hm.bit;rw[er];rfl
     rw[<-hb0,<-hb1]at er
     have ht:=qfg ec er
     have c0:=hi.c0 hgm og
     have c1:=hi.c1 hgm ec
     rw[ht]at ha
     refine ⟨_,rfl,_,rfl,a,_,_,_,rfl,rfl,sqtO ha,yae 1 rfl,C,_,_,_,rfl,rfl,sqlO m3.hc,yco c0.1 (by omega),?_⟩
     refine ⟨_,rfl,a,_,_,_,rfl,rfl,sqtO ha,yae 3 rfl,rfl,_,rfl,?_⟩
     rw[dI]
     by_cases hb:rd ds (g.cell 0)=g.bit 0
     ·refine iteB (decide_eq_true hb) ?_
      refine ⟨_,rfl,_,rfl,_,rfl,a,_,_,_,rfl,rfl,sqtO ha,yae 2 rfl,_,rfl,a,_,_,_,rfl,rfl,sqtO ha,yae 4 rfl,L,C,us,hs,ds,g.cell 1,g.bit 1,rfl,m3,c1.1,by omega,?_⟩
      rw[qlz,if_pos ⟨hw,hb⟩]
      exact ⟨_,rfl,rfl⟩
     ·refine iteN (decide_eq_false hb) ?_
      rw[if_neg (λz=>hb z.2)]
      exact ⟨_,rfl,rfl⟩
    ·refine iteN (decide_eq_false hw) ?_
     rw[if_neg (λz=>hw z.1)]
     exact ⟨_,rfl,rfl⟩
   ·rintro σ H2 ⟨o4,rfl,rfl⟩
    rw[m.hv.len,take_length]
    exact k
structure UpC(H:Hp)(C:Addr)(ds:List Int)(H':Hp):Prop where
 st:∀b u,b≠C->H b=some u->H' b=some u
 at_:H' C=some (.lst (ds.map V.int))
theorem UpC.same{H H' H2:Hp}{C:Addr}{ds:List Int}(u:UpC H C ds H')(s:Same H' H2):UpC H C ds H2:=⟨λb o h e=>s _ _ (u.st b o h e),s _ _ u.at_⟩
theorem UpC.trans{H H' H2:Hp}{C:Addr}{ds es:List Int}(u:UpC H C ds H')(v:UpC H' C es H2):UpC H C es H2:=⟨λb o h e=>v.st b o h (u.st b o h e),v.at_⟩
theorem UpC.of{H H':Hp}{C:Addr}{cs:List Int}(s:Same H H')(h:H C=some (.lst (cs.map V.int))):UpC H C cs H':=⟨λb o _ e=>s _ _ e,s _ _ h⟩
theorem UpC.put{H:Hp}{C:Addr}{ds:List Int}:UpC H C ds (upd H C (.lst (ds.map V.int))):=⟨λb o h e=>by rw[qah h];exact e,qaa⟩
theorem UpC.hat{H H':Hp}{C:Addr}{cs ds:List Int}{v:V}{h:Hm}(u:UpC H C ds H')(hc:H C=some (.lst (cs.map V.int)))(x:HAt H v h):HAt H' v h:=by
 obtain ⟨a,rfl,ha⟩:=x
 exact ⟨a,rfl,u.st a _ (λz=>by subst z;rw[hc]at ha;cases ha) ha⟩
theorem Mem.upC{H H':Hp}{L C:Addr}{us:List V}{hs:List Hm}{cs ds:List Int}(m:Mem H L C us hs cs)(u:UpC H C ds H'):Mem H' L C us hs ds:=
 ⟨m.ne,u.st _ _ m.ne m.hl,⟨m.hv.len,λi v h a b=>u.hat m.hc (m.hv.at_ i v h a b)⟩,m.ok,u.at_⟩
def ycv(a:Int)(h:Hm):Bool:=decide ((h.w="nowhere"\/h.w="other"\/h.w="both")/\h.cell 0=a)
def ybc(hs:List Hm)(a:Int):Option Hm:=hs.find? (ycv a)
def OpH(H:Hp)(v:V):Option Hm->Prop
 |none=>v=.non
 |some h=>HAt H v h
theorem eqS{a s:Str}:(eqV (.str a) (.str s)=true)=(s=a):=by
 show ((a == s)=true)=_
 rw[beq_iff_eq]
 exact propext eq_comm
theorem in3{s a b c:Str}:inV (.str s) [.str a,.str b,.str c]=decide (s=a\/s=b\/s=c):=by
 unfold inV
 rw[Bool.eq_iff_iff]
 simp[eqS]
theorem in2{s a b:Str}:inV (.str s) [.str a,.str b]=decide (s=a\/s=b):=by
 unfold inV
 rw[Bool.eq_iff_iff]
 simp[eqS]
def qbk:Sp:=λvs H Q _=>∃L us hs a,vs=[.ref L,.int a]/\H L=some (.lst us)/\HsV H us hs/\Oks hs/\∀v H',Same H H'->OpH H v (ybc hs a)->Q v H'
abbrev ybs:Stmt:=top 41
theorem yca:FnScope ["harms","address","harm"] ["harms","address"] (qac ybs):=fsc
theorem qd6(F:FnAt K mg "harm_of_address" ybs ["harms","address"]):Has P w K mg base 1 "harm_of_address" ["harms","address"] qbk:=by
 refine Has.of F yca (λvs H Q E h=>?_) (λ_ _ _ _ _ H vs Q E hr h=>?_)
 ·obtain ⟨L,us,hs,a,rfl,_⟩:=h
  rfl
 ·obtain ⟨L,us,hs,ad,rfl,hL,hv,ok,k⟩:=h
  have sc:=yca
  refine ⟨_,(qaj (yby PassesOwn.never rfl (qa7 (pv 0)) (pgn 2 sc.nd)
    (qaf (ybj (PW.pt (yb9 (yam ybg (yan qai (pv 2) yab) (ybn (yaa yak (yaa yak (yaa yak yac)))) (by with_unfolding_all rfl)) (yb4 (yam ya1 (yan qai (pv 2) yab) (pv 1) (yaj _)))))
     (qaf (qaq (pv 2)))
     yar)))
   (qaf (qaq qik))),?_⟩
  refine ⟨_,rfl,L,rfl,⟨us,sqlO hL⟩,yaq (xs:=us) (λi σ H2=>∃(o2:Option V),σ=[some (.ref L),some (.int ad),o2]/\Same H H2/\(hs.take i).find? (ycv ad)=none)
   ⟨none,rfl,smR H,rfl⟩ (λi σ H2 _ ⟨_,_,h,_⟩=>sqlO (h _ _ hL)) ?_ ?_⟩
  ·rintro i x σ H2 hx ⟨o2,rfl,s2,hn⟩
   obtain ⟨g,hg,hat⟩:=hv.get hx
   obtain ⟨a,rfl,ha⟩:=id hat
   obtain ⟨ns,og⟩:=ok g (mem_of_getElem? hg)
   obtain ⟨f1,f2⟩:=qc7 hn hg
   have ha2:=s2 _ _ ha
   refine ⟨_,rfl,a,_,_,_,rfl,rfl,sqtO ha2,yae 0 rfl,zl,λp hp=>⟨p,_,rfl,.inr (sqtO qaa),rfl,rfl,_,rfl,?_⟩⟩
   rw[in3]
   have s3:Same H (upd H2 p (.tup [.str "nowhere",.str "other",.str "both"])):=s2.upd hp
   revert s3
   generalize upd H2 p _=H3
   intro s3
   by_cases hw:g.w="nowhere"\/g.w="other"\/g.w="both"
   ·refine iteD hw ?_
    refine ⟨_,rfl,a,_,_,_,rfl,rfl,sqtO (s3 _ _ ha),yae 1 og.at1,_,rfl,rfl,_,rfl,?_⟩
    rw[dI]
    by_cases hc:g.cell 0=ad
    ·refine iteD hc ?_
     refine ⟨_,rfl,k _ _ s3 ?_⟩
     unfold ybc
     rw[f1 (decide_eq_true ⟨hw,hc⟩)]
     exact hat
    ·refine ya4 hc ?_
     exact ⟨_,rfl,s3,f2 (decide_eq_false (λz=>hc z.2))⟩
   ·refine ya4 hw ?_
    exact ⟨_,rfl,s3,f2 (decide_eq_false (λz=>hw z.1))⟩
  ·rintro σ H2 ⟨o2,rfl,s2,hn⟩
   rw[hv.len,take_length]at hn
   refine k _ _ s2 ?_
   unfold ybc
   rw[hn]
   rfl
def yba(o:Option Hm)(a:Int):List Int:=
 match o with
 |none=>[a]
 |some h=>if h.w="nowhere" then [] else if h.w="other" then [h.cell 1] else [a,h.cell 1]
theorem ybp{hs:List Hm}{a:Int}{h:Hm}(e:ybc hs a=some h):h∈hs/\(h.w="nowhere"\/h.w="other"\/h.w="both")/\h.cell 0=a:=
 ⟨List.mem_of_find?_eq_some e,of_decide_eq_true (List.find?_some (p:=ycv a) e)⟩
def qbx:Sp:=λvs H Q _=>∃v o a,vs=[v,.int a]/\OpH H v o/\(∀h,o=some h->(h.w="nowhere"\/h.w="other"\/h.w="both")/\∃ns,okH h ns)/\∀D H',Same H H'->H D=none->H' D=some (.lst ((yba o a).map V.int))->Q (.ref D) H'
abbrev qb3:Stmt:=top 42
theorem qcv:FnScope ["harm","address"] ["harm","address"] (qac qb3):=fsc
theorem ye3(F:FnAt K mg "reached_cells" qb3 ["harm","address"]):Has P w K mg base 1 "reached_cells" ["harm","address"] qbx:=by
 refine Has.of F qcv (λvs H Q E h=>?_) (λ_ _ _ _ _ H vs Q E hr h=>?_)
 ·obtain ⟨v,o,a,rfl,_⟩:=h
  rfl
 ·obtain ⟨v,o,ad,rfl,ho,hk,k⟩:=h
  have sc:=qcv
  refine ⟨_,(qaj (ybj (qii (pc_isN (pv 0)))
    (qaf (qaq (ycb (yaa (pv 1) yac))))
    yar)
   (qaj (ybj (yam ya1 (yan qai (pv 0) yab) yak (yaj _))
    (qaf (qaq (ycb yac)))
    yar)
   (qaj (ybj (yam ya1 (yan qai (pv 0) yab) yak (yaj _))
    (qaf (qaq (ycb (yaa (yan qai (pv 0) yab) yac))))
    yar)
   (qaf (qaq (ycb (yaa (pv 1) (yaa (yan qai (pv 0) yab) yac)))))))),?_⟩
  cases o with
  |none=>
   cases ho
   refine ⟨_,rfl,_,rfl,iteT ?_⟩
   refine ⟨_,rfl,zl,λp hp=>?_⟩
   exact k p _ ((smR H).upd hp) hp qaa
  |some g=>
   obtain ⟨a,rfl,ha⟩:=ho
   obtain ⟨hw,ns,og⟩:=hk g rfl
   refine ⟨_,rfl,_,rfl,iteF ?_⟩
   refine ⟨_,rfl,a,_,_,_,rfl,rfl,sqtO ha,yae 0 rfl,rfl,_,rfl,?_⟩
   rw[dS]
   by_cases h1:g.w="nowhere"
   ·refine iteD h1 ?_
    refine ⟨zero_le _,λp hp=>k p _ ((smR H).upd hp) hp ?_⟩
    rw[qaa]
    unfold yba
    simp[h1]
   refine ya4 h1 ?_
   refine ⟨_,rfl,a,_,_,_,rfl,rfl,sqtO ha,yae 0 rfl,rfl,_,rfl,?_⟩
   rw[dS]
   by_cases h2:g.w="other"
   ·refine iteD h2 ?_
    obtain ⟨c1,c2,ec,er⟩:=og.sOther (h2 ▸ qcl)
    rw[qfg ec er]at ha
    refine ⟨_,rfl,a,_,_,_,rfl,rfl,sqtO ha,yae 2 rfl,zl,λp hp=>k p _ ((smR H).upd hp) hp ?_⟩
    rw[qaa]
    unfold yba
    dsimp only
    rw[if_neg h1,if_pos h2]
    rfl
   refine ya4 h2 ?_
   have h3:g.w="both":=by
    rcases hw with h|h|h
    ·exact absurd h h1
    ·exact absurd h h2
    ·exact h
   obtain ⟨c1,c2,v,ec,er,_⟩:=og.sBoth (h3 ▸ qcd)
   rw[qfg ec er]at ha
   refine ⟨_,rfl,_,rfl,a,_,_,_,rfl,rfl,sqtO ha,yae 2 rfl,zl,λp hp=>k p _ ((smR H).upd hp) hp ?_⟩
   rw[qaa]
   unfold yba
   simp[h1,h2]
def isOdd(cell held:Int)(h:Hm):Bool:=decide ((h.w="forgets"\/h.w="misreads")/\h.cell 0=cell/\h.bit 0=held)
def ycg(hs:List Hm)(cs:List Int)(cell:Int):Int×List Int:=
 match hs.find? (isOdd cell (rd cs cell)) with
 |none=>(rd cs cell,cs)
 |some h=>(if h.w="forgets" then rd cs cell else rd (putM hs cs cell (1-rd cs cell)) cell,putM hs cs cell (1-rd cs cell))
theorem qkt(hs:List Hm)(cs:List Int)(c:Int):(ycg hs cs c).2.length=cs.length:=by
 unfold ycg
 split
 ·rfl
 ·exact ybz _ _ _ _
theorem qh6{h:Hm}{a:Int}{b:Bool}(hc:h.c=[a])(hr:h.r=[.int (b2i b)]):hV h=[.str h.w,.int (h.cell 0),.int (h.bit 0)]:=by
 unfold hV Hm.cell Hm.bit
 rw[hc,hr]
 rfl
def qe1:Sp:=λvs H Q _=>∃L C us hs cs cell,vs=[.ref L,.ref C,.int cell]/\Mem H L C us hs cs/\0<=cell/\cell<cs.length/\∀H',UpC H C (ycg hs cs cell).2 H'->Q (.int (ycg hs cs cell).1) H'
abbrev qdt:Stmt:=top 43
theorem qez:FnScope ["harms","cells","cell","held","harm"] ["harms","cells","cell"] (qac qdt):=fsc
theorem yhw(qjd:Has P w K mg base 2 "put" ["harms","cells","cell","bit"] qhv)(F:FnAt K mg "read_cell" qdt ["harms","cells","cell"]):Has P w K mg base 3 "read_cell" ["harms","cells","cell"] qe1:=by
 refine Has.of F qez (λvs H Q E h=>?_) (λ_ _ _ _ _ H vs Q E hr h=>?_)
 ·obtain ⟨L,C,us,hs,cs,cell,rfl,_⟩:=h
  rfl
 ·obtain ⟨L,C,us,hs,cs,cell,rfl,m,h0,h1,k⟩:=h
  have sc:=qez
  refine ⟨_,(qaj (pst 3 sc.nd (yan qam (pv 1) (pv 2)))
   (qaj (yby PassesOwn.never rfl (qa7 (pv 0)) (pgn 4 sc.nd)
    (qaf (ybj (PW.pt (yb9 (yam ybg (yan qai (pv 4) yab) (ybn (yaa yak (yaa yak yac))) (by with_unfolding_all rfl)) (yb9 (yam ya1 (yan qai (pv 4) yab) (pv 2) (yaj _)) (yb4 (yam ya1 (yan qai (pv 4) yab) (pv 3) (yaj _))))))
     (qaj (qbi (yai qjd hr (qbs (pv 0) (qbs (pv 1) (qbs (pv 2) (yaa (yau ygu yab (pv 3)) yac))))))
     (qaf (qaq (ye7 (yam ya1 (yan qai (pv 4) yab) yak (yaj _)) (pv 3) (yan qam (pv 1) (pv 2))))))
     yar)))
   (qaf (qaq (pv 3))))),?_⟩
  refine ⟨_,rfl,_,rfl,C,_,_,_,rfl,rfl,sqlO m.hc,yco h0 h1,?_⟩
  refine ⟨_,rfl,L,rfl,⟨us,sqlO m.hl⟩,yaq (xs:=us) (λi σ H2=>∃(o2:Option V),σ=[some (.ref L),some (.ref C),some (.int cell),some (.int (rd cs cell)),o2]/\Same H H2/\(hs.take i).find? (isOdd cell (rd cs cell))=none)
   ⟨none,rfl,smR H,rfl⟩ (λi σ H2 _ ⟨_,_,h,_⟩=>sqlO (h _ _ m.hl)) ?_ ?_⟩
  ·rintro i x σ H2 hx ⟨o2,rfl,s2,hn⟩
   obtain ⟨g,hg,a,rfl,ha⟩:=m.hv.get hx
   obtain ⟨ns,og⟩:=m.ok g (mem_of_getElem? hg)
   obtain ⟨f1,f2⟩:=qc7 hn hg
   refine ⟨_,rfl,a,_,_,_,rfl,rfl,sqtO (s2 _ _ ha),yae 0 rfl,zl,λp hp=>⟨p,_,rfl,.inr (sqtO qaa),rfl,rfl,_,rfl,?_⟩⟩
   rw[in2]
   have s3:Same H (upd H2 p (.tup [.str "forgets",.str "misreads"])):=s2.upd hp
   revert s3
   generalize upd H2 p _=H3
   intro s3
   by_cases hw:g.w="forgets"\/g.w="misreads"
   ·refine iteD hw ?_
    obtain ⟨c,b,ec,er⟩:=og.s1 (yax (by rcases hw with h|h<;>simp[h]))
    rw[qh6 ec er]at ha
    have ha3:=s3 _ _ ha
    refine ⟨_,rfl,a,_,_,_,rfl,rfl,sqtO ha3,yae 1 rfl,_,rfl,rfl,_,rfl,?_⟩
    rw[dI]
    by_cases hc:g.cell 0=cell
    ·refine iteD hc ?_
     refine ⟨_,rfl,a,_,_,_,rfl,rfl,sqtO ha3,yae 2 rfl,_,rfl,rfl,_,rfl,?_⟩
     rw[dI]
     by_cases hb:g.bit 0=rd cs cell
     ·refine iteD hb ?_
      have e:=f1 (decide_eq_true ⟨hw,hc,hb⟩)
      unfold ycg at k
      rw[e]at k
      have m3:=m.same s3
      refine ⟨_,rfl,_,rfl,_,rfl,_,rfl,_,_,rfl,rfl,L,C,us,hs,cs,cell,1-rd cs cell,rfl,m3,h0,h1,?_⟩
      have u3:UpC H3 C (putM hs cs cell (1-rd cs cell)) (upd H3 C (.lst ((putM hs cs cell (1-rd cs cell)).map V.int))):=UpC.put
      have ha4:upd H3 C (.lst ((putM hs cs cell (1-rd cs cell)).map V.int)) a=_:=u3.st a _ (λz=>by subst z;rw[m3.hc]at ha3;cases ha3) ha3
      have u4:=(UpC.of s3 m.hc).trans u3
      revert u3 u4 ha4
      generalize upd H3 C _=H4
      intro u3 ha4 u4
      refine ⟨_,rfl,a,_,_,_,rfl,rfl,sqtO ha4,yae 0 rfl,rfl,_,rfl,?_⟩
      rw[dS]
      by_cases hf:g.w="forgets"
      ·refine iteD hf ?_
       have:=k H4 u4
       dsimp only at this
       rw[if_pos hf]at this
       exact ⟨_,rfl,this⟩
      ·refine ya4 hf ?_
       have:=k H4 u4
       dsimp only at this
       rw[if_neg hf]at this
       exact ⟨_,rfl,_,rfl,C,_,_,_,rfl,rfl,sqlO u4.at_,yco h0 (by rw[ybz];exact h1),this⟩
     ·refine ya4 hb ?_
      exact ⟨_,rfl,s3,f2 (decide_eq_false (λz=>hb z.2.2))⟩
    ·refine ya4 hc ?_
     exact ⟨_,rfl,s3,f2 (decide_eq_false (λz=>hc z.2.1))⟩
   ·refine ya4 hw ?_
    exact ⟨_,rfl,s3,f2 (decide_eq_false (λz=>hw z.1))⟩
  ·rintro σ H2 ⟨o2,rfl,s2,hn⟩
   rw[m.hv.len,take_length]at hn
   unfold ycg at k
   rw[hn]at k
   exact ⟨_,rfl,k H2 (UpC.of s2 m.hc)⟩
end
def ya0(hs:List Hm):List Int->List Int->List Int×List Int
 |[],cs=>([],cs)
 |c::l,cs=>((ycg hs cs c).1::(ya0 hs l (ycg hs cs c).2).1,(ya0 hs l (ycg hs cs c).2).2)
theorem qdf(hs:List Hm):∀(l cs:List Int),(ya0 hs l cs).2.length=cs.length
 |[],_=>rfl
 |c::l,cs=>(qdf hs l _).trans (qkt hs cs c)
theorem ycf(hs:List Hm):∀(l cs:List Int),(ya0 hs l cs).1.length=l.length
 |[],_=>rfl
 |c::l,cs=>congrArg (· + 1) (ycf hs l _)
theorem ydw(hs:List Hm)(c:Int):∀(l cs:List Int),ya0 hs (l++[c]) cs=((ya0 hs l cs).1++[(ycg hs (ya0 hs l cs).2 c).1],(ycg hs (ya0 hs l cs).2 c).2)
 |[],cs=>rfl
 |d::l,cs=>by
  have ih:=ydw hs c l (ycg hs cs d).2
  show (_::(ya0 hs (l++[c]) _).1,(ya0 hs (l++[c]) _).2)=_
  rw[ih]
  rfl
def loI(a b:Int):Int:=if a<=b then a else b
def hiI(a b:Int):Int:=if a<=b then b else a
theorem lo_of{a b M:Int}(h:M∈[a,b])(h2:∀x∈[a,b],M<=x):M=loI a b:=by
 have h3:=h2 a (by simp)
 have h4:=h2 b (by simp)
 simp at h
 unfold loI
 split<;>omega
theorem hi_of{a b M:Int}(h:M∈[a,b])(h2:∀x∈[a,b],x<=M):M=hiI a b:=by
 have h3:=h2 a (by simp)
 have h4:=h2 b (by simp)
 simp at h
 unfold hiI
 split<;>omega
def isAnd(o:Option Hm):Prop:=∃h,o=some h/\h.r=[.str "and"]
open Classical in
noncomputable def qg0(o:Option Hm):List Int->Int
 |[]=>match o with|some h=>h.bit 0|none=>0
 |[b]=>b
 |b::c::_=>if isAnd o then loI b c else hiI b c
noncomputable def ydi(hs:List Hm)(cs:List Int)(a:Int):Int×List Int:=
 (qg0 (ybc hs a) (ya0 hs (yba (ybc hs a) a) cs).1,(ya0 hs (yba (ybc hs a) a) cs).2)
theorem OpH.same{H H':Hp}(s:Same H H'){v:V}:∀{o:Option Hm},OpH H v o->OpH H' v o
 |none,h=>h
 |some _,h=>HAt.same s h
theorem UpC.new{H H':Hp}{C p:Addr}{ds:List Int}{o:HO}(u:UpC H C ds H')(hp:H p=none)(hne:C≠p):UpC H C ds (upd H' p o):=
 ⟨λb x h e=>by
  rw[qah (λz=>by subst z;rw[hp]at e;cases e)]
  exact u.st b x h e,by rw[qah hne];exact u.at_⟩
theorem yg2{hs:List Hm}{n:Nat}(r:InR hs n)(ok:Oks hs){a:Int}(h0:0<=a)(h1:a<n):∀c∈yba (ybc hs a) a,0<=c/\c<n:=by
 intro c hc
 unfold yba at hc
 cases e:ybc hs a with
 |none=>
  rw[e]at hc
  simp at hc
  subst hc
  exact ⟨h0,h1⟩
 |some h=>
  rw[e]at hc
  obtain ⟨hm,hw,_⟩:=ybp e
  obtain ⟨ns,o⟩:=ok h hm
  dsimp only at hc
  by_cases w1:h.w="nowhere"
  ·rw[if_pos w1]at hc;simp at hc
  rw[if_neg w1]at hc
  by_cases w2:h.w="other"
  ·rw[if_pos w2]at hc
   obtain ⟨c1,c2,ec,_⟩:=o.sOther (w2 ▸ qcl)
   simp at hc
   subst hc
   exact r.c1 hm ec
  ·rw[if_neg w2]at hc
   have h3:h.w="both":=by
    rcases hw with h|h|h
    ·exact absurd h w1
    ·exact absurd h w2
    ·exact h
   obtain ⟨c1,c2,v,ec,_⟩:=o.sBoth (h3 ▸ qcd)
   simp at hc
   rcases hc with rfl|rfl
   ·exact ⟨h0,h1⟩
   ·exact r.c1 hm ec
theorem yhm{o:Option Hm}{a:Int}:(yba o a).length<=2:=by
 unfold yba
 split
 ·simp
 ·split
  ·simp
  ·split<;>simp
section
variable {P:Program}{w:World}{K:W.Frag}{mg:Str->Option Value}{base:Heap}
def qgm:Sp:=λvs H Q _=>∃L C us hs cs a,vs=[.ref L,.ref C,.int a]/\Mem H L C us hs cs/\InR hs cs.length/\0<=a/\a<cs.length/\∀H',UpC H C (ydi hs cs a).2 H'->Q (.int (ydi hs cs a).1) H'
abbrev qf5:Stmt:=top 44
theorem ygs:FnScope ["harms","cells","address","harm","bits","cell"] ["harms","cells","address"] (qac qf5):=fsc
theorem yki(B:Bl mg)(ybr:Has P w K mg base 1 "harm_of_address" ["harms","address"] qbk)(qb6:Has P w K mg base 1 "reached_cells" ["harm","address"] qbx)(yio:Has P w K mg base 3 "read_cell" ["harms","cells","cell"] qe1)(F:FnAt K mg "read_at" qf5 ["harms","cells","address"]):Has P w K mg base 4 "read_at" ["harms","cells","address"] qgm:=by
 refine Has.of F ygs (λvs H Q E h=>?_) (λ_ _ _ _ _ H vs Q E hr h=>?_)
 ·obtain ⟨L,C,us,hs,cs,a,rfl,_⟩:=h
  rfl
 ·obtain ⟨L,C,us,hs,cs,ad,rfl,m,hi,h0,h1,k⟩:=h
  have sc:=ygs
  refine ⟨_,(qaj (pst 3 sc.nd (yai ybr hr (yaa (pv 0) (yaa (pv 2) yac))))
   (qaj (pst 4 sc.nd (ycb yac))
   (qaj (yby PassesOwn.never rfl (qa7 (yai qb6 hr (yaa (pv 3) (yaa (pv 2) yac)))) (pgn 5 sc.nd)
    (qaf (qbi (ydf PySem.F.plainAttrs_list PySem.F.slot_list_append PySem.F.type_list_append qas (pv 4) (yaa (yai yio hr (yaa (pv 0) (yaa (pv 1) (yaa (pv 5) yac)))) yac)))))
   (qaj (ybj (yam ya1 (qak yah rfl (B.of rfl) boot_len (yaa (pv 4) yac)) yab (yaj _))
    (qaf (qaq (yan qai (pv 3) yab)))
    yar)
   (qaj (ybj (yam ya1 (qak yah rfl (B.of rfl) boot_len (yaa (pv 4) yac)) yab (yaj _))
    (qaf (qaq (yan qam (pv 4) yab)))
    yar)
   (qaf (qaq (ye7 (yam ya1 (yan qai (pv 3) yab) yak (yaj _)) (qak (qij rfl) rfl (B.of rfl) boot_min (yaa (pv 4) yac)) (qak (qin rfl) rfl (B.of rfl) boot_max (yaa (pv 4) yac)))))))))),?_⟩
  refine ⟨_,rfl,_,rfl,L,us,hs,ad,rfl,m.hl,m.hv,m.ok,λv H1 s1 hv=>?_⟩
  refine ⟨zero_le _,λp hp=>?_⟩
  have hp0:H p=none:=s1.free hp
  have nCp:C≠p:=yad m.hc hp0
  have s2:Same H (upd H1 p (.lst [])):=s1.upd hp
  have e2:=@qaa H1 p (.lst [])
  revert s2 e2
  generalize upd H1 p _=H2
  intro s2 e2
  have kp:∀h,ybc hs ad=some h->(h.w="nowhere"\/h.w="other"\/h.w="both")/\∃ns,okH h ns:=λh e=>⟨(ybp e).2.1,m.ok h (ybp e).1⟩
  refine ⟨_,rfl,_,rfl,v,ybc hs ad,ad,rfl,hv.same s2,kp,λD H3 s3 hD eD=>?_⟩
  have hD0:H D=none:=s2.free hD
  have nCD:C≠D:=yad m.hc hD0
  have npD:p≠D:=yad e2 hD
  have hin:=yg2 hi m.ok h0 h1
  have hrl:=yhm (o:=ybc hs ad) (a:=ad)
  unfold ydi at k
  revert k hin hrl eD
  generalize hrc:yba (ybc hs ad) ad=rc
  intro k eD hin hrl
  refine ⟨D,rfl,⟨_,sqlO eD⟩,yaq (xs:=rc.map V.int) (λi σ H4=>∃(o5:Option V),σ=[some (.ref L),some (.ref C),some (.int ad),some v,some (.ref p),o5]/\UpC H C (ya0 hs (rc.take i) cs).2 H4/\H4 p=some (.lst ((ya0 hs (rc.take i) cs).1.map V.int))/\H4 D=some (.lst (rc.map V.int)))
   ⟨none,rfl,UpC.of (s2.trans s3) m.hc,s3 _ _ e2,eD⟩ (λi σ H4 _ ⟨_,_,_,_,h⟩=>sqlO h) ?_ ?_⟩
  ·rintro i x σ H4 hx ⟨o5,rfl,u4,e4,d4⟩
   obtain ⟨c,hc,rfl⟩:=qaz hx
   have hci:=hin c (mem_of_getElem? hc)
   have hil:=(List.getElem?_eq_some_iff.mp hc).1
   have m4:=m.upC u4
   refine ⟨_,rfl,.inl ⟨rfl,_,sqlO e4⟩,_,rfl,_,rfl,_,rfl,L,C,us,hs,_,c,rfl,m4,hci.1,by rw[qdf];exact hci.2,λH5 u5=>?_⟩
   refine ⟨p,_,_,rfl,rfl,u5.st p _ nCp.symm e4,qbb (by rw[length_map,ycf,length_take];omega),?_⟩
   have es:ya0 hs (rc.take (i+1)) cs=((ya0 hs (rc.take i) cs).1++[(ycg hs (ya0 hs (rc.take i) cs).2 c).1],(ycg hs (ya0 hs (rc.take i) cs).2 c).2):=by rw[take_add_one,hc];exact ydw hs c (rc.take i) cs
   refine ⟨_,rfl,?_,?_,?_⟩
   ·rw[es]
    exact (u4.trans u5).new hp0 nCp
   ·rw[es,qaa];simp
   ·rw[qah npD.symm];exact u5.st D _ nCD.symm d4
  ·rintro σ H4 ⟨o5,rfl,u4,e4,d4⟩
   rw[length_map,take_length]at u4 e4
   have k:=k H4 u4
   have hfl:=ycf hs rc cs
   revert k e4 hfl
   generalize (ya0 hs rc cs).1=r1
   intro e4 k hfl
   have hO:OpH H4 v (ybc hs ad):=by
    cases e:ybc hs ad with
    |none=>rw[e]at hv;exact hv
    |some h=>rw[e]at hv;exact u4.hat m.hc hv
   refine ⟨_,rfl,p,_,rfl,.inl (sqlO e4),rfl,_,rfl,?_⟩
   rw[dI]
   match r1,k,e4,hfl with
   |[],k,e4,hfl=>
    refine iteD (by simp) ?_
    cases e:ybc hs ad with
    |none=>rw[e]at hrc;subst hrc;simp[yba]at hfl
    |some h=>
     obtain ⟨hw,ns,oh⟩:=kp h e
     rw[e]at hO k hrc
     obtain ⟨a,rfl,ha⟩:=hO
     have hn:h.w="nowhere":=by
      by_cases w1:h.w="nowhere"
      ·exact w1
      unfold yba at hrc
      dsimp only at hrc
      rw[if_neg w1]at hrc
      by_cases w2:h.w="other"
      ·rw[if_pos w2]at hrc;subst hrc;simp at hfl
      ·rw[if_neg w2]at hrc;subst hrc;simp at hfl
     obtain ⟨c,b,ec,er⟩:=oh.s1 (yax (by simp[hn]))
     rw[qh6 ec er]at ha
     exact ⟨_,rfl,a,_,_,_,rfl,rfl,sqtO ha,yae 2 rfl,k⟩
   |[b],k,e4,hfl=>
    refine ya4 (by simp) ?_
    refine ⟨_,rfl,p,_,rfl,.inl (sqlO e4),rfl,_,rfl,?_⟩
    rw[dI]
    refine iteD (by simp) ?_
    exact ⟨_,rfl,p,_,_,_,rfl,rfl,sqlO e4,yae 0 rfl,k⟩
   |[b,c],k,e4,hfl=>
    refine ya4 (by simp) ?_
    refine ⟨_,rfl,p,_,rfl,.inl (sqlO e4),rfl,_,rfl,?_⟩
    rw[dI]
    refine ya4 (by simp) ?_
    cases e:ybc hs ad with
    |none=>rw[e]at hrc;subst hrc;simp[yba]at hfl
    |some h=>
     obtain ⟨hw,ns,oh⟩:=kp h e
     rw[e]at hO k hrc
     obtain ⟨a,rfl,ha⟩:=hO
     have hb:h.w="both":=by
      unfold yba at hrc
      dsimp only at hrc
      rcases hw with w|w|w
      ·rw[if_pos w]at hrc;subst hrc;simp at hfl
      ·by_cases w1:h.w="nowhere"
       ·rw[if_pos w1]at hrc;subst hrc;simp at hfl
       ·rw[if_neg w1,if_pos w]at hrc;subst hrc;simp at hfl
      ·exact w
     obtain ⟨c1,c2,u,ec,er,hu⟩:=oh.sBoth (hb ▸ qcd)
     rw[qfg ec er]at ha
     refine ⟨_,rfl,a,_,_,_,rfl,rfl,sqtO ha,yae 3 rfl,?_⟩
     rcases hu with rfl|rfl
     ·refine ⟨rfl,_,rfl,iteB (by decide +kernel) ?_⟩
      refine ⟨_,rfl,p,_,rfl,e4,by simp,λM h1 h2=>?_⟩
      rw[lo_of h1 h2]
      have:qg0 (some h) [b,c]=loI b c:=by
       unfold qg0
       dsimp only
       exact if_pos ⟨h,rfl,er⟩
      rw[<-this]
      exact k
     ·refine ⟨rfl,_,rfl,iteN (by decide +kernel) ?_⟩
      refine ⟨_,rfl,p,_,rfl,e4,by simp,λM h1 h2=>?_⟩
      rw[hi_of h1 h2]
      have:qg0 (some h) [b,c]=hiI b c:=by
       unfold qg0
       dsimp only
       refine if_neg ?_
       rintro ⟨h',e1,e2⟩
       cases e1
       rw[er]at e2
       have:=V.str.inj (List.cons.inj e2).1
       exact absurd this (by decide +kernel)
      rw[<-this]
      exact k
   |_::_::_::_,k,e4,hfl=>simp at hfl;omega
def yct(cs:List Int)(cell:Int)(h:Hm):Bool:=decide (h.w="keeps"/\h.cell 1=cell/\rd cs (h.cell 0)=h.bit 0)
def yd9(hs:List Hm)(cs:List Int)(cell bit:Int):Int:=match hs.find? (yct cs cell) with|some h=>h.bit 1|none=>bit
def qga(hs:List Hm)(cell:Int)(cs:List Int)(h:Hm):List Int:=
 if (h.w="turns"\/h.w="sets"\/h.w="keeps")/\h.cell 0=cell/\h.bit 0=rd cs cell then putM hs cs (h.cell 1) (if h.w="turns" then 1-rd cs (h.cell 1) else h.bit 1) else cs
theorem qkc(hs:List Hm)(c:Int)(cs:List Int)(h:Hm):(qga hs c cs h).length=cs.length:=by
 unfold qga
 split
 ·exact ybz _ _ _ _
 ·rfl
def actN(hs l:List Hm)(cell:Int)(cs:List Int):List Int:=l.foldl (qga hs cell) cs
theorem yg8(hs l:List Hm)(c:Int)(cs:List Int):(actN hs l c cs).length=cs.length:=by
 induction l generalizing cs with
 |nil=>rfl
 |cons a l ih=>exact (ih _).trans (qkc _ _ _ _)
theorem yf0{h:Hm}{a b:Int}{x y:Bool}(hc:h.c=[a,b])(hr:h.r=[.int (b2i x),.int (b2i y)]):hV h=[.str h.w,.int (h.cell 0),.int (h.cell 1),.int (h.bit 0),.int (h.bit 1)]:=by
 unfold hV Hm.cell Hm.bit
 rw[hc,hr]
 rfl
theorem qjq{h:Hm}{a b:Int}{x:Bool}(hc:h.c=[a,b])(hr:h.r=[.int (b2i x)]):hV h=[.str h.w,.int (h.cell 0),.int (h.cell 1),.int (h.bit 0)]:=by
 unfold hV Hm.cell Hm.bit
 rw[hc,hr]
 rfl
def qfz:Sp:=λvs H Q _=>∃L C us hs cs cell bit,vs=[.ref L,.ref C,.int cell,.int bit]/\Mem H L C us hs cs/\InR hs cs.length/\Q (.int (yd9 hs cs cell bit)) H
abbrev qei:Stmt:=top 46
theorem qf8:FnScope ["harms","cells","cell","bit","harm"] ["harms","cells","cell","bit"] (qac qei):=fsc
theorem yja(F:FnAt K mg "kept_bit" qei ["harms","cells","cell","bit"]):Has P w K mg base 1 "kept_bit" ["harms","cells","cell","bit"] qfz:=by
 refine Has.of F qf8 (λvs H Q E h=>?_) (λ_ _ _ _ _ H vs Q E hr h=>?_)
 ·obtain ⟨L,C,us,hs,cs,cell,bit,rfl,_⟩:=h
  rfl
 ·obtain ⟨L,C,us,hs,cs,cell,bit,rfl,m,hi,k⟩:=h
  have sc:=qf8
  refine ⟨_,(qaj (yby PassesOwn.never rfl (qa7 (pv 0)) (pgn 4 sc.nd)
    (qaf (ybj (PW.pt (yb9 (yam ya1 (yan qai (pv 4) yab) yak (yaj _)) (yb9 (yam ya1 (yan qai (pv 4) yab) (pv 2) (yaj _)) (yb4 (yam ya1 (yan qam (pv 1) (yan qai (pv 4) yab)) (yan qai (pv 4) yab) (yaj _))))))
     (qaf (qaq (yan qai (pv 4) yab)))
     yar)))
   (qaf (qaq (pv 3)))),?_⟩
  refine ⟨_,rfl,L,rfl,⟨us,sqlO m.hl⟩,yaq (xs:=us) (λi σ H2=>∃(o2:Option V),σ=[some (.ref L),some (.ref C),some (.int cell),some (.int bit),o2]/\H2=H/\(hs.take i).find? (yct cs cell)=none)
   ⟨none,rfl,rfl,rfl⟩ (λi σ H2 _ ⟨_,_,h,_⟩=>by subst h;exact sqlO m.hl) ?_ ?_⟩
  ·rintro i x σ H2 hx ⟨o2,rfl,rfl,hn⟩
   obtain ⟨g,hg,a,rfl,ha⟩:=m.hv.get hx
   have hgm:=mem_of_getElem? hg
   obtain ⟨ns,og⟩:=m.ok g hgm
   obtain ⟨f1,f2⟩:=qc7 hn hg
   refine ⟨_,rfl,a,_,_,_,rfl,rfl,sqtO ha,yae 0 rfl,rfl,_,rfl,?_⟩
   rw[dS]
   by_cases hw:g.w="keeps"
   ·refine iteD hw ?_
    obtain ⟨c1,c2,x1,x2,ec,er⟩:=og.sSets (ybm (.inr hw))
    rw[yf0 ec er]at ha
    have c0:=hi.c0 hgm og
    refine ⟨_,rfl,a,_,_,_,rfl,rfl,sqtO ha,yae 2 rfl,_,rfl,rfl,_,rfl,?_⟩
    rw[dI]
    by_cases hc:g.cell 1=cell
    ·refine iteD hc ?_
     refine ⟨_,rfl,_,rfl,a,_,_,_,rfl,rfl,sqtO ha,yae 1 rfl,C,_,_,_,rfl,rfl,sqlO m.hc,yco c0.1 c0.2,?_⟩
     refine ⟨_,rfl,a,_,_,_,rfl,rfl,sqtO ha,yae 3 rfl,rfl,_,rfl,?_⟩
     rw[dI]
     by_cases hb:rd cs (g.cell 0)=g.bit 0
     ·refine iteD hb ?_
      refine ⟨_,rfl,a,_,_,_,rfl,rfl,sqtO ha,yae 4 rfl,?_⟩
      unfold yd9 at k
      rw[f1 (decide_eq_true ⟨hw,hc,hb⟩)]at k
      exact k
     ·refine ya4 hb ?_
      exact ⟨_,rfl,rfl,f2 (decide_eq_false (λz=>hb z.2.2))⟩
    ·refine ya4 hc ?_
     exact ⟨_,rfl,rfl,f2 (decide_eq_false (λz=>hc z.2.1))⟩
   ·refine ya4 hw ?_
    exact ⟨_,rfl,rfl,f2 (decide_eq_false (λz=>hw z.1))⟩
  ·rintro σ H2 ⟨o2,rfl,rfl,hn⟩
   rw[m.hv.len,take_length]at hn
   unfold yd9 at k
   rw[hn]at k
   exact ⟨_,rfl,k⟩
def ycu:Sp:=λvs H Q _=>∃L C us hs cs cell,vs=[.ref L,.ref C,.int cell]/\Mem H L C us hs cs/\InR hs cs.length/\0<=cell/\cell<cs.length/\∀H',UpC H C (actN hs hs cell cs) H'->Q .non H'
abbrev yb3:Stmt:=top 47
theorem qct:FnScope ["harms","cells","cell","harm"] ["harms","cells","cell"] (qac yb3):=fsc
theorem qe4(qjd:Has P w K mg base 2 "put" ["harms","cells","cell","bit"] qhv)(F:FnAt K mg "act_on_others" yb3 ["harms","cells","cell"]):Has P w K mg base 3 "act_on_others" ["harms","cells","cell"] ycu:=by
 refine Has.of F qct (λvs H Q E h=>?_) (λ_ _ _ _ _ H vs Q E hr h=>?_)
 ·obtain ⟨L,C,us,hs,cs,cell,rfl,_⟩:=h
  rfl
 ·obtain ⟨L,C,us,hs,cs,cell,rfl,m,hi,h0,h1,k⟩:=h
  have sc:=qct
  refine ⟨_,(qaf (yby PassesOwn.never rfl (qa7 (pv 0)) (pgn 3 sc.nd)
    (qaf (ybj (PW.pt (yb9 (yam ybg (yan qai (pv 3) yab) (ybn (yaa yak (yaa yak (yaa yak yac)))) (by with_unfolding_all rfl)) (yb9 (yam ya1 (yan qai (pv 3) yab) (pv 2) (yaj _)) (yb4 (yam ya1 (yan qai (pv 3) yab) (yan qam (pv 1) (pv 2)) (yaj _))))))
     (qaf (qbi (yai qjd hr (qbs (pv 0) (qbs (pv 1) (yaa (yan qai (pv 3) yab) (yaa (ye7 (yam ya1 (yan qai (pv 3) yab) yak (yaj _)) (yau ygu yab (yan qam (pv 1) (yan qai (pv 3) yab))) (yan qai (pv 3) yab)) yac)))))))
     yar)))),?_⟩
  refine ⟨_,rfl,L,rfl,⟨us,sqlO m.hl⟩,yaq (xs:=us) (λi σ H2=>∃(o2:Option V),σ=[some (.ref L),some (.ref C),some (.int cell),o2]/\UpC H C (actN hs (hs.take i) cell cs) H2)
   ⟨none,rfl,UpC.of (smR H) m.hc⟩ (λi σ H2 _ ⟨_,_,u⟩=>sqlO (u.st _ _ m.ne m.hl)) ?_ ?_⟩
  ·rintro i x σ H2 hx ⟨o2,rfl,u2⟩
   have m2:=m.upC u2
   have hlen:=yg8 hs (hs.take i) cell cs
   have step:∀g,hs[i]?=some g->actN hs (hs.take (i+1)) cell cs=qga hs cell (actN hs (hs.take i) cell cs) g:=λg hg=>ybf _ _ hg
   revert u2 m2 hlen step
   generalize actN hs (hs.take i) cell cs=ds
   intro u2 m2 hlen step
   obtain ⟨g,hg,a,rfl,ha⟩:=m2.hv.get hx
   have hgm:=mem_of_getElem? hg
   obtain ⟨ns,og⟩:=m.ok g hgm
   rw[step g hg]
   unfold qga
   refine ⟨_,rfl,a,_,_,_,rfl,rfl,sqtO ha,yae 0 rfl,zl,λp hp=>⟨p,_,rfl,.inr (sqtO qaa),rfl,rfl,_,rfl,?_⟩⟩
   rw[in3]
   have s3:Same H2 (upd H2 p (.tup [.str "turns",.str "sets",.str "keeps"])):=(smR H2).upd hp
   revert s3
   generalize upd H2 p _=H3
   intro s3
   have u3:=u2.same s3
   have m3:=m2.same s3
   have ha3:=s3 _ _ ha
   by_cases hw:g.w="turns"\/g.w="sets"\/g.w="keeps"
   ·refine iteD hw ?_
    have two:∃a b l,g.c=[a,b]/\hV g=.str g.w :: .int (g.cell 0) :: .int (g.cell 1) :: .int (g.bit 0)::l/\(g.w≠"turns"->l=[.int (g.bit 1)]):=by
     rcases hw with hw|hw
     ·obtain ⟨a,b,x,ec,er⟩:=og.sTurns (hw ▸ qda)
      exact ⟨a,b,[],ec,qjq ec er,λz=>absurd hw z⟩
     ·obtain ⟨a,b,x,y,ec,er⟩:=og.sSets (ybm hw)
      exact ⟨a,b,_,ec,yf0 ec er,λ_=>rfl⟩
    obtain ⟨a1,b1,l,ec,ht,hl⟩:=two
    rw[ht]at ha3
    have c1:=hi.c1 hgm ec
    refine ⟨_,rfl,a,_,_,_,rfl,rfl,sqtO ha3,yae 1 rfl,_,rfl,rfl,_,rfl,?_⟩
    rw[dI]
    by_cases hc:g.cell 0=cell
    ·refine iteD hc ?_
     refine ⟨_,rfl,a,_,_,_,rfl,rfl,sqtO ha3,yae 3 rfl,_,rfl,_,rfl,C,_,_,_,rfl,rfl,sqlO m3.hc,yco h0 (by omega),rfl,_,rfl,?_⟩
     rw[dI]
     by_cases hb:g.bit 0=rd ds cell
     ·refine iteD hb ?_
      rw[if_pos ⟨hw,hc,hb⟩]
      have fin:∀bit,(∃o2,[some (V.ref L),some (.ref C),some (.int cell),some (.ref a)]=[some (V.ref L),some (.ref C),some (.int cell),o2]/\UpC H C (putM hs ds (g.cell 1) bit) (upd H3 C (.lst ((putM hs ds (g.cell 1) bit).map V.int)))):=λbit=>⟨_,rfl,u3.trans UpC.put⟩
      refine ⟨_,rfl,_,rfl,_,rfl,a,_,_,_,rfl,rfl,sqtO ha3,yae 2 rfl,_,rfl,a,_,_,_,rfl,rfl,sqtO ha3,yae 0 rfl,rfl,_,rfl,?_⟩
      rw[dS]
      by_cases ht:g.w="turns"
      ·refine iteD ht ?_
       rw[if_pos ht]
       refine ⟨_,rfl,_,rfl,a,_,_,_,rfl,rfl,sqtO ha3,yae 2 rfl,C,_,_,_,rfl,rfl,sqlO m3.hc,yco c1.1 (by omega),_,_,rfl,rfl,L,C,us,hs,ds,g.cell 1,_,rfl,m3,c1.1,by omega,?_⟩
       exact fin _
      ·refine ya4 ht ?_
       rw[if_neg ht]
       rw[hl ht]at ha3
       refine ⟨_,rfl,a,_,_,_,rfl,rfl,sqtO ha3,yae 4 rfl,L,C,us,hs,ds,g.cell 1,_,rfl,m3,c1.1,by omega,?_⟩
       exact fin _
     ·refine ya4 hb ?_
      rw[if_neg (λz=>hb z.2.2)]
      exact ⟨_,rfl,u3⟩
    ·refine ya4 hc ?_
     rw[if_neg (λz=>hc z.2.1)]
     exact ⟨_,rfl,u3⟩
   ·refine ya4 hw ?_
    rw[if_neg (λz=>hw z.1)]
    exact ⟨_,rfl,u3⟩
  ·rintro σ H2 ⟨o2,rfl,u2⟩
   rw[m.hv.len,take_length]at u2
   exact k H2 u2
theorem yc2{s:Str}{x:List V}:∀{D:List (Str×List V)},KTD.datumAt s D=some x->s∈D.map (·.1)
 |[],h=>by simp[KTD.datumAt]at h
 | (k,y)::D,h=>by
  unfold KTD.datumAt at h
  by_cases e:s=k
  ·subst e;simp
  ·simp[e]at h
   have:=yc2 h
   simp at this ⊢
   exact .inr this
theorem qg1:∀s∈tabP.map (·.1),PyData.canLay0 (.str s)=true:=by decide +kernel
theorem Rest.fl{ns:List Str}{vs:List V}(h:Rest ns vs):Fl vs:=by
 induction h with
 |nil=>exact ⟨rfl,rfl⟩
 |bit hb _ ih=>
  obtain ⟨b,rfl⟩:=hb
  exact ⟨by rw[all_cons];exact ih.1,by simpa [PyData.canLayAll0,dOf,PyData.canLay0] using ih.2⟩
 |how hb _ ih=>
  have e:PyData.canLay0 (.str "and")=true/\PyData.canLay0 (.str "or")=true:=by decide +kernel
  rcases hb with rfl|rfl
  ·exact ⟨by rw[all_cons];exact ih.1,by simp only[map_cons,PyData.canLayAll0,dOf,e.1,Bool.true_and];exact ih.2⟩
  ·exact ⟨by rw[all_cons];exact ih.1,by simp only[map_cons,PyData.canLayAll0,dOf,e.2,Bool.true_and];exact ih.2⟩
theorem fl_ints(l:List Int){vs:List V}(h:Fl vs):Fl (l.map V.int++vs):=by
 induction l with
 |nil=>exact h
 |cons a l ih=>exact ⟨by show (V.int a::(l.map V.int++vs)).all qdp=true;rw[all_cons];exact ih.1,by simpa [PyData.canLayAll0,dOf,PyData.canLay0] using ih.2⟩
theorem okH.fl{h:Hm}{ns:List Str}(o:okH h ns):Fl (hV h):=by
 have f:=fl_ints h.c o.rest.fl
 unfold hV
 refine ⟨by rw[all_cons];exact f.1,?_⟩
 simp only[map_cons,PyData.canLayAll0,dOf,qg1 _ (yc2 o.tab),Bool.true_and]
 exact f.2
def ygp(cell bit:Int)(h:Hm):Bool:=decide (h.w="slow"/\h.cell 0=cell/\h.bit 0=bit)
theorem ylj{h:Hm}{ns:List Str}(o:okH h ns)(cell bit:Int):PyData.eqvAll ((hV h).map dOf) (([.str "slow",.int cell,.int bit]:List V).map dOf)=ygp cell bit h:=by
 unfold ygp
 by_cases hw:h.w="slow"
 ·obtain ⟨a,b,ec,er⟩:=o.s1 (yax (by simp[hw]))
  rw[qh6 ec er,hw,Bool.eq_iff_iff]
  simp[PyData.eqvAll,PyData.eqv,dOf]
 ·rw[decide_eq_false (λz=>hw z.1)]
  unfold hV
  simp[PyData.eqvAll,PyData.eqv,dOf,hw]
theorem HsV.any{H:Hp}{us:List V}{hs:List Hm}(x:HsV H us hs){f:V->Bool}{g:Hm->Bool}(e:∀h∈hs,∀v,HAt H v h->f v=g h):us.any f=hs.any g:=by
 rw[Bool.eq_iff_iff,List.any_eq_true,List.any_eq_true]
 constructor
 ·rintro ⟨v,hv,hf⟩
  obtain ⟨i,hi⟩:=getElem?_of_mem hv
  obtain ⟨h,hh,ha⟩:=x.get hi
  exact ⟨h,mem_of_getElem? hh,by rw[<-e h (mem_of_getElem? hh) v ha];exact hf⟩
 ·rintro ⟨h,hh,hg⟩
  obtain ⟨i,hi⟩:=getElem?_of_mem hh
  have hil:i<us.length:=by rw[x.len];exact (List.getElem?_eq_some_iff.mp hi).1
  have ha:=x.at_ i _ h (getElem?_eq_getElem hil) hi
  exact ⟨_,getElem_mem hil,by rw[e h hh _ ha];exact hg⟩
theorem HsV.tups{H:Hp}{us:List V}{hs:List Hm}(x:HsV H us hs)(ok:Oks hs):∀v∈us,∃a ys,v=.ref a/\H a=some (.tup ys)/\Fl ys:=by
 intro v hv
 obtain ⟨i,hi⟩:=getElem?_of_mem hv
 obtain ⟨h,hh,a,rfl,ha⟩:=x.get hi
 obtain ⟨ns,o⟩:=ok h (mem_of_getElem? hh)
 exact ⟨a,_,rfl,ha,o.fl⟩
theorem qk0(cell bit:Int):Fl [.str "slow",.int cell,.int bit]:=by
 have e:PyData.canLay0 (.str "slow")=true:=by decide +kernel
 exact ⟨rfl,by simp only[map_cons,map_nil,PyData.canLayAll0,dOf,e];rfl⟩
def qhj(hs:List Hm)(cs:List Int)(cell bit:Int):Bool:=decide (rd cs cell≠bit)&&hs.any (ygp cell bit)
def ygv:Sp:=λvs H Q _=>∃L C us hs cs cell bit,vs=[.ref L,.ref C,.int cell,.int bit]/\Mem H L C us hs cs/\0<=cell/\cell<cs.length/\∀H',Same H H'->Q (.bl (qhj hs cs cell bit)) H'
abbrev yf8:Stmt:=top 45
theorem ygr:FnScope ["harms","cells","cell","bit"] ["harms","cells","cell","bit"] (qac yf8):=fsc
theorem qj0(F:FnAt K mg "is_slow" yf8 ["harms","cells","cell","bit"]):Has P w K mg base 1 "is_slow" ["harms","cells","cell","bit"] ygv:=by
 refine Has.of F ygr (λvs H Q E h=>?_) (λ_ _ _ _ _ H vs Q E hr h=>?_)
 ·obtain ⟨L,C,us,hs,cs,cell,bit,rfl,_⟩:=h
  rfl
 ·obtain ⟨L,C,us,hs,cs,cell,bit,rfl,m,h0,h1,k⟩:=h
  have sc:=ygr
  refine ⟨_,(qaf (qaq (ybe (qa4 yiq (yan qam (pv 1) (pv 2)) (pv 3) (yaj _)) (yb6 (qa4 (op_inT hr) (ybn (yaa yak (yaa (pv 2) (yaa (pv 3) yac)))) (pv 0) (by with_unfolding_all rfl)))))),?_⟩
  refine ⟨_,rfl,_,rfl,C,_,_,_,rfl,rfl,sqlO m.hc,yco h0 h1,_,rfl,rfl,_,rfl,?_⟩
  rw[dI]
  unfold qhj at k
  by_cases hb:rd cs cell=bit
  ·refine iteN (by simp[hb]) ?_
   have:=k H (smR H)
   simp[hb]at this
   exact this
  ·refine iteB (by simp[hb]) ?_
   refine ⟨_,rfl,_,rfl,zl,λp hp=>⟨_,rfl,?_⟩⟩
   have s2:Same H (upd H p (.tup [.str "slow",.int cell,.int bit])):=(smR H).upd hp
   have e2:=@qaa H p (.tup [.str "slow",.int cell,.int bit])
   revert s2 e2
   generalize upd H p _=H2
   intro s2 e2
   have m2:=m.same s2
   refine ⟨p,_,L,us,rfl,e2,qk0 _ _,rfl,m2.hl,m2.hv.tups m2.ok,?_⟩
   rw[m2.hv.any (g:=ygp cell bit) (λh hh v hv=>by
    obtain ⟨a,rfl,ha⟩:=hv
    obtain ⟨ns,o⟩:=m2.ok h hh
    unfold tEq
    dsimp only
    rw[ha]
    exact ylj o cell bit)]
   have:=k H2 s2
   simp[hb]at this
   exact this
def qfq(hs:List Hm)(cs:List Int)(cell bit:Int):List Int:=
 if qhj hs cs cell bit=true then cs
 else if rd (putM hs cs cell (yd9 hs cs cell bit)) cell=rd cs cell then putM hs cs cell (yd9 hs cs cell bit)
 else actN hs hs cell (putM hs cs cell (yd9 hs cs cell bit))
theorem ykf(hs:List Hm)(cs:List Int)(c b:Int):(qfq hs cs c b).length=cs.length:=by
 unfold qfq
 split
 ·rfl
 ·split
  ·exact ybz _ _ _ _
  ·exact (yg8 _ _ _ _).trans (ybz _ _ _ _)
def qdo(hs:List Hm)(bit:Int)(l cs:List Int):List Int:=l.foldl (λcs c=>qfq hs cs c bit) cs
theorem ydn(hs:List Hm)(b:Int)(l cs:List Int):(qdo hs b l cs).length=cs.length:=by
 induction l generalizing cs with
 |nil=>rfl
 |cons a l ih=>exact (ih _).trans (ykf _ _ _ _)
def qen(hs:List Hm)(cs:List Int)(a bit:Int):List Int:=qdo hs bit (yba (ybc hs a) a) cs
def yd7:Sp:=λvs H Q _=>∃L C us hs cs cell bit,vs=[.ref L,.ref C,.int cell,.int bit]/\Mem H L C us hs cs/\InR hs cs.length/\0<=cell/\cell<cs.length/\∀H',UpC H C (qfq hs cs cell bit) H'->Q .non H'
abbrev qcx:Stmt:=top 48
theorem yd3:FnScope ["harms","cells","cell","bit","held"] ["harms","cells","cell","bit"] (qac qcx):=fsc
theorem qg7(qlj:Has P w K mg base 1 "is_slow" ["harms","cells","cell","bit"] ygv)(qjd:Has P w K mg base 2 "put" ["harms","cells","cell","bit"] qhv)(qki:Has P w K mg base 1 "kept_bit" ["harms","cells","cell","bit"] qfz)(qfh:Has P w K mg base 3 "act_on_others" ["harms","cells","cell"] ycu)(F:FnAt K mg "write_cell" qcx ["harms","cells","cell","bit"]):Has P w K mg base 4 "write_cell" ["harms","cells","cell","bit"] yd7:=by
 refine Has.of F yd3 (λvs H Q E h=>?_) (λ_ _ _ _ _ H vs Q E hr h=>?_)
 ·obtain ⟨L,C,us,hs,cs,cell,bit,rfl,_⟩:=h
  rfl
 ·obtain ⟨L,C,us,hs,cs,cell,bit,rfl,m,hi,h0,h1,k⟩:=h
  have sc:=yd3
  refine ⟨_,(qaj (ybj (qca (yai qlj hr (qbs (pv 0) (qbs (pv 1) (qbs (pv 2) (qbs (pv 3) yac))))))
    (qaf ps_retN)
    yar)
   (qaj (pst 4 sc.nd (yan qam (pv 1) (pv 2)))
   (qaj (qbi (yai qjd hr (qbs (pv 0) (qbs (pv 1) (qbs (pv 2) (pa_cl (yai qki hr (qbs (pv 0) (qbs (pv 1) (qbs (pv 2) (qbs (pv 3) yac))))) yac))))))
   (qaf (ybj (yam yiq (yan qam (pv 1) (pv 2)) (pv 4) (yaj _))
    (qaf (qbi (yai qfh hr (yaa (pv 0) (yaa (pv 1) (yaa (pv 2) yac))))))
    yar))))),?_⟩
  refine ⟨_,rfl,_,rfl,_,rfl,_,rfl,L,C,us,hs,cs,cell,bit,rfl,m,h0,h1,λH1 s1=>⟨_,rfl,?_⟩⟩
  unfold qfq at k
  by_cases hsl:qhj hs cs cell bit=true
  ·refine iteB hsl ?_
   rw[if_pos hsl]at k
   exact k H1 (UpC.of s1 m.hc)
  refine iteN (by simpa using hsl) ?_
  rw[if_neg hsl]at k
  have m1:=m.same s1
  refine ⟨_,rfl,_,rfl,C,_,_,_,rfl,rfl,sqlO m1.hc,yco h0 h1,?_⟩
  refine ⟨_,rfl,_,rfl,_,rfl,_,rfl,_,rfl,_,rfl,_,rfl,L,C,us,hs,cs,cell,bit,rfl,m1,hi,?_⟩
  refine ⟨L,C,us,hs,cs,cell,_,rfl,m1,h0,h1,?_⟩
  have hl:=ybz hs cs cell (yd9 hs cs cell bit)
  revert k hl
  generalize putM hs cs cell (yd9 hs cs cell bit)=ds
  intro k hl
  have u2:UpC H1 C ds (upd H1 C (.lst (ds.map V.int))):=UpC.put
  revert u2
  generalize upd H1 C _=H2
  intro u2
  have u:UpC H C ds H2:=(UpC.of s1 m.hc).trans u2
  have m2:=m.upC u
  refine ⟨_,rfl,_,rfl,C,_,_,_,rfl,rfl,sqlO m2.hc,yco h0 (by omega),_,rfl,rfl,_,rfl,?_⟩
  rw[dI]
  by_cases hb:rd ds cell=rd cs cell
  ·refine iteN (by simp[hb]) ?_
   rw[if_pos hb]at k
   exact k H2 u
  ·refine iteB (by simp[hb]) ?_
   rw[if_neg hb]at k
   refine ⟨_,rfl,_,rfl,_,rfl,L,C,us,hs,ds,cell,rfl,m2,by rw[hl];exact hi,h0,by omega,λH3 u3=>?_⟩
   exact k H3 (u.trans u3)
def yf3:Sp:=λvs H Q _=>∃L C us hs cs a bit,vs=[.ref L,.ref C,.int a,.int bit]/\Mem H L C us hs cs/\InR hs cs.length/\0<=a/\a<cs.length/\∀H',UpC H C (qen hs cs a bit) H'->Q .non H'
abbrev yee:Stmt:=top 49
theorem yfs:FnScope ["harms","cells","address","bit","cell"] ["harms","cells","address","bit"] (qac yee):=fsc
theorem qiu(ybr:Has P w K mg base 1 "harm_of_address" ["harms","address"] qbk)(qb6:Has P w K mg base 1 "reached_cells" ["harm","address"] qbx)(yh5:Has P w K mg base 4 "write_cell" ["harms","cells","cell","bit"] yd7)(F:FnAt K mg "write_at" yee ["harms","cells","address","bit"]):Has P w K mg base 5 "write_at" ["harms","cells","address","bit"] yf3:=by
 refine Has.of F yfs (λvs H Q E h=>?_) (λ_ _ _ _ _ H vs Q E hr h=>?_)
 ·obtain ⟨L,C,us,hs,cs,a,bit,rfl,_⟩:=h
  rfl
 ·obtain ⟨L,C,us,hs,cs,ad,bit,rfl,m,hi,h0,h1,k⟩:=h
  have sc:=yfs
  refine ⟨_,(qaf (yby PassesOwn.never rfl (qa7 (yai qb6 hr (yaa (yai ybr hr (yaa (pv 0) (yaa (pv 2) yac))) (yaa (pv 2) yac)))) (pgn 4 sc.nd)
    (qaf (qbi (yai yh5 hr (qbs (pv 0) (qbs (pv 1) (qbs (pv 4) (qbs (pv 3) yac))))))))),?_⟩
  refine ⟨_,rfl,_,rfl,L,us,hs,ad,rfl,m.hl,m.hv,m.ok,λv H1 s1 hv=>?_⟩
  have kp:∀h,ybc hs ad=some h->(h.w="nowhere"\/h.w="other"\/h.w="both")/\∃ns,okH h ns:=λh e=>⟨(ybp e).2.1,m.ok h (ybp e).1⟩
  refine ⟨_,rfl,v,ybc hs ad,ad,rfl,hv.same s1,kp,λD H3 s3 hD eD=>?_⟩
  have hD0:H D=none:=s1.free hD
  have nCD:C≠D:=yad m.hc hD0
  have hin:=yg2 hi m.ok h0 h1
  unfold qen at k
  revert k hin eD
  generalize hrc:yba (ybc hs ad) ad=rc
  intro k eD hin
  refine ⟨D,rfl,⟨_,sqlO eD⟩,yaq (xs:=rc.map V.int) (λi σ H4=>∃(o5:Option V),σ=[some (.ref L),some (.ref C),some (.int ad),some (.int bit),o5]/\UpC H C (qdo hs bit (rc.take i) cs) H4/\H4 D=some (.lst (rc.map V.int)))
   ⟨none,rfl,UpC.of (s1.trans s3) m.hc,eD⟩ (λi σ H4 _ ⟨_,_,_,h⟩=>sqlO h) ?_ ?_⟩
  ·rintro i x σ H4 hx ⟨o5,rfl,u4,d4⟩
   obtain ⟨c,hc,rfl⟩:=qaz hx
   have hci:=hin c (mem_of_getElem? hc)
   have m4:=m.upC u4
   have hl:=ydn hs bit (rc.take i) cs
   refine ⟨_,rfl,_,rfl,_,rfl,_,rfl,L,C,us,hs,_,c,bit,rfl,m4,by rw[hl];exact hi,hci.1,by rw[hl];exact hci.2,λH5 u5=>?_⟩
   refine ⟨_,rfl,?_,u5.st D _ nCD.symm d4⟩
   unfold qdo
   rw[ybf _ _ hc]
   exact u4.trans u5
  ·rintro σ H4 ⟨o5,rfl,u4,d4⟩
   rw[length_map,take_length]at u4
   exact k H4 u4
def bits(cs:List Int):Prop:=∀c∈cs,∃b,c=b2i b
def qgl:Sp:=λvs H Q _=>∃n:Int,vs=[.int n]/\1<=n/\n<=64/\Q (.bl true) H
abbrev qfe:Stmt:=top 51
theorem ygo:FnScope ["thing"] ["thing"] (qac qfe):=fsc
theorem yjx(qc1:∃t,mg "MOST_CELLS"=some (.int 64 t))(qa9:Has P w K mg base 1 "is_whole" ["thing"] ybt)(F:FnAt K mg "is_size" qfe ["thing"]):Has P w K mg base 2 "is_size" ["thing"] qgl:=by
 refine Has.of F ygo (λvs H Q E h=>?_) (λ_ _ _ _ _ H vs Q E hr h=>?_)
 ·obtain ⟨x,rfl,_⟩:=h
  rfl
 ·obtain ⟨x,rfl,h0,h1,k⟩:=h
  have sc:=ygo
  refine ⟨_,(qaf (qaq (ybe (yai qa9 hr (yaa (pv 0) yac)) (ybe (qa4 yly (pv 0) yab (yaj _)) (yb6 (qa4 op_le (pv 0) (yed qc1) (yaj _))))))),?_⟩
  refine ⟨_,rfl,x,rfl,_,rfl,iteT ?_⟩
  refine ⟨_,rfl,_,_,rfl,rfl,_,rfl,iteD (by omega) ?_⟩
  refine ⟨_,rfl,_,_,rfl,rfl,?_⟩
  show Q (.bl (decide (x<=64))) H
  rw[decide_eq_true h1]
  exact k
def qc2:Sp:=λvs H Q _=>∃C cs,vs=[.ref C,.int (cs.length:Nat)]/\H C=some (.lst (cs.map V.int))/\bits cs/\cs.length<=64/\∀H',Same H H'->Q (.bl true) H'
abbrev yce:Stmt:=top 52
theorem yc7:FnScope ["thing","size"] ["thing","size"] (qac yce):=fsc
theorem yf4(B:Bl mg)(ye5:mg "all"=none)(ycl:Has P w K mg base 2 "is_bit" ["thing"] qcz)(F:FnAt K mg "are_contents" yce ["thing","size"]):Has P w K mg base 3 "are_contents" ["thing","size"] qc2:=by
 refine Has.of F yc7 (λvs H Q E h=>?_) (λ_ _ _ _ _ H vs Q E hr h=>?_)
 ·obtain ⟨C,cs,rfl,_⟩:=h
  rfl
 ·obtain ⟨C,cs,rfl,hC,hb,hl,k⟩:=h
  have sc:=yc7
  refine ⟨_,(qaf (qaq (ybe (qak qbd rfl (B.of rfl) boot_isinstance (yaa (pv 0) (yaa (qbr (v:=.ty "list") rfl (B.of rfl) boot_list rfl) yac))) (ybe (qa4 ya1 (qak yah rfl (B.of rfl) boot_len (yaa (pv 0) yac)) (pv 1) (yaj _)) (yb6 (qak (qd0 rfl) rfl ye5 qd7 (yaa (qbv rfl (yaw rfl) (M:=["part"]) (ix:=[none]) (qa7 (pv 0)) (λ_ _ _ _=>(yav (i:=0) (show List.Nodup (["part"]:List Str) by decide +kernel) rfl (Or.inl rfl))) (λ_ _ _ _=>qcr) (λ_ _ _ _=>(yai ycl hr (yaa (pv 0) yac)))) yac))))))),?_⟩
  refine ⟨_,rfl,_,_,_,_,rfl,.lst hC,rfl,_,rfl,iteT ?_⟩
  refine ⟨_,rfl,C,_,rfl,.inl (sqlO hC),_,rfl,rfl,_,rfl,iteD (by rw[length_map]) ?_⟩
  refine ⟨_,rfl,C,rfl,⟨_,sqlO hC⟩,λD hD=>qbp (n:=cs.length) (λi H'=>Same H H'/\H' D=some (.lst ((List.replicate i true).map V.bl))) ⟨(smR H).upd hD,qaa⟩ ?_ ?_⟩
  ·rintro H3 ⟨s3,e3⟩
   refine ⟨⟨_,sqlO (s3 _ _ hC),by simp⟩,?_⟩
   refine ⟨D,_,rfl,e3,?_⟩
   rw[show (List.replicate cs.length true).all id=true by simp]
   exact k _ s3
  ·rintro i H3 hi ⟨s3,e3⟩
   refine ⟨⟨_,_,sqlO (s3 _ _ hC),by rw[getElem?_map,getElem?_eq_getElem hi];rfl⟩,?_⟩
   rintro x H4 ⟨rfl,hx⟩
   obtain ⟨c,hc,rfl⟩:=qaz (hx _ (sqlO (s3 _ _ hC)))
   obtain ⟨b,rfl⟩:=hb c (mem_of_getElem? hc)
   refine ⟨qaw.set (qaw.refl _) rfl,yes ?_⟩
   refine ⟨_,rfl,b,rfl,λH5 s5=>?_⟩
   refine ⟨_,s5 _ _ e3,qbb (by rw[length_map,length_replicate];omega),(s3.trans s5).at hD,?_⟩
   rw[qaa,List.replicate_succ',map_append];rfl
def ycj:Sp:=λvs H Q _=>∃L us hs S C cs,vs=[.int (cs.length:Nat),.ref L,.ref C]/\H L=some (.lst us)/\HsV H us hs/\okHs hs S/\InR hs cs.length/\H C=some (.lst (cs.map V.int))/\bits cs/\1<=cs.length/\cs.length<=64/\∀H',Same H H'->Q .non H'
abbrev qbw:Stmt:=top 53
theorem qci:FnScope ["size","harms","contents","cells"] ["size","harms","contents"] (qac qbw):=fsc
theorem qef(B:Bl mg)(qka:Has P w K mg base 7 "cells_of" ["harms"] qgb)(ylc:Has P w K mg base 2 "is_size" ["thing"] qgl)(ygg:Has P w K mg base 3 "are_contents" ["thing","size"] qc2)(F:FnAt K mg "look_at_memory" qbw ["size","harms","contents"]):Has P w K mg base 8 "look_at_memory" ["size","harms","contents"] ycj:=by
 refine Has.of F qci (λvs H Q E h=>?_) (λ_ _ _ _ _ H vs Q E hr h=>?_)
 ·obtain ⟨L,us,hs,S,C,cs,rfl,_⟩:=h
  rfl
 ·obtain ⟨L,us,hs,S,C,cs,rfl,hL,hv,ok,hi,hC,hb,hl1,hl2,k⟩:=h
  have sc:=qci
  refine ⟨_,(qaj (pst 3 sc.nd (yai qka hr (yaa (pv 1) yac)))
   (qaj (ybj (yc5 (qca (yai ylc hr (yaa (pv 0) yac))))
    (qaf qbh)
    yar)
   (qaj (ybj (PW.pt (yb9 (yam yi8 (qak yah rfl (B.of rfl) boot_len (yaa (pv 3) yac)) yab (yaj _)) (yb4 (yam yly (yan qam (pv 3) (pe_un qjn yab)) (pv 0) (yaj _)))))
    (qaf qbh)
    yar)
   (qaf (ybj (yc5 (qca (yai ygg hr (yaa (pv 2) (yaa (pv 0) yac)))))
    (qaf qbh)
    yar))))),?_⟩
  refine ⟨_,rfl,L,us,hs,S,rfl,hL,hv,ok,λD ns H1 s1 hD eD hpm hso=>?_⟩
  refine ⟨_,rfl,_,rfl,by omega,by omega,_,rfl,iteF ?_⟩
  refine ⟨_,rfl,D,_,rfl,.inl (sqlO eD),_,_,rfl,rfl,_,rfl,?_⟩
  have fin:∀(b:Bool),b=true->if (!b)=true then False else True:=by intro b hb;subst hb;simp
  by_cases hn:0<ns.length
  ·refine iteD (by rw[length_map];omega) ?_
   obtain ⟨x,hx⟩:∃x,ns=ns.dropLast++[x]:=⟨ns.getLast (by intro z;rw[z]at hn;simp at hn),(List.dropLast_concat_getLast _).symm⟩
   have hxm:x∈allC hs:=(yg7 _ x).mp (hpm.mem_iff.mp (by rw[hx];simp))
   have hx2:x<cs.length:=by
    unfold allC at hxm
    obtain ⟨h,hh,hc⟩:=mem_flatMap.mp hxm
    exact (hi h hh x hc).2
   refine ⟨_,rfl,_,rfl,D,_,_,_,rfl,rfl,sqlO eD,(show atI (ns.map V.int) (-1)=some (.int x) by rw[hx,map_append];exact qjr _ _),_,rfl,_,_,rfl,rfl,_,rfl,ya4 (by omega) ?_⟩
   refine ⟨_,rfl,_,rfl,C,cs,rfl,s1 _ _ hC,hb,hl2,λH2 s2=>⟨_,rfl,iteF ?_⟩⟩
   exact k _ (s1.trans s2)
  ·refine ya4 (by rw[length_map];omega) ?_
   refine ⟨_,rfl,_,rfl,C,cs,rfl,s1 _ _ hC,hb,hl2,λH2 s2=>⟨_,rfl,iteF ?_⟩⟩
   exact k _ (s1.trans s2)
def Dig(ds zs:List Int):Prop:=ds.length=zs.length/\∀(i:Nat) d z,ds[i]?=some d->zs[i]?=some z->0<=d/\d<z
theorem Dig.get{ds zs:List Int}(h:Dig ds zs){i:Nat}{z:Int}(hz:zs[i]?=some z):∃d,ds[i]?=some d/\0<=d/\d<z:=by
 have hi:i<ds.length:=by rw[h.1];exact (List.getElem?_eq_some_iff.mp hz).1
 exact ⟨ds[i],by simp[hi],h.2 i _ z (by simp[hi]) hz⟩
theorem ylv{ds:List Int}{i:Nat}{v:V}(h:(ds.map V.int)[i]?=some v):∃d,ds[i]?=some d/\v=.int d:=qaz h
theorem yeg{ds:List Int}{i:Nat}{d:Int}(h:ds[i]?=some d):(ds.map V.int)[i]?=some (.int d):=by rw[getElem?_map,h];rfl
def qib:Sp:=λvs H Q _=>∃c t a zs,vs=[.int c,.int t,.ref a]/\H a=some (.lst (zs.map V.int))/\zs.length<=130/\(∀z∈zs,0<z/\z<=18446744073709551616)/\0<=t/\t<=1000000/\
 ∀p ds H',Same H H'->H p=none->H' p=some (.lst (ds.map V.int))->Dig ds zs->Q (.ref p) H'
abbrev qcp:Stmt:=top 70
theorem qdj:FnScope ["_law_cell","_law_turn","_law_sizes","_law_number","_law_wide","_law_seed","_law_found","_law_k","_law_size"] ["_law_cell","_law_turn","_law_sizes"] (qac qcp):=fsc
theorem ql2(B:Bl mg)(F:FnAt K mg "_law_digits" qcp ["_law_cell","_law_turn","_law_sizes"]):Has P w K mg base 1 "_law_digits" ["_law_cell","_law_turn","_law_sizes"] qib:=by
 refine Has.of F qdj (λvs H Q E h=>?_) (λ_ _ _ _ _ H vs Q E hr h=>?_)
 ·obtain ⟨c,t,a,zs,rfl,_⟩:=h
  rfl
 ·obtain ⟨c,t,a,zs,rfl,ha,hl,hz,ht0,ht1,k⟩:=h
  have sc:=qdj
  refine ⟨_,(qaj (pst 3 sc.nd (qak call_abs rfl (B.of rfl) boot_abs (yaa (pv 0) yac)))
   (qaj (pst 4 sc.nd (qa4 yly (pv 3) (yau op_pow yab yab) (yaj _)))
   (qaj (pst 5 sc.nd (yau ya7 (yau qbz (pv 3) yab) (yau qch yab (pv 1))))
   (qaj (pst 6 sc.nd (ycb yac))
   (qaj (yby PassesOwn.never rfl (qfl rfl (B.of rfl) (yaa (pv 2) yac)) (qck rfl (qan (pgn 7 sc.nd) (qan (pgn 8 sc.nd) ybi)))
    (qaf (ybj (PW.pt (yb9 (qca (pv 4)) (yb4 (yam yi8 (pv 3) yab (yaj _)))))
     (qaj (qbi (ydf PySem.F.plainAttrs_list PySem.F.slot_list_append PySem.F.type_list_append qas (pv 6) (yaa (yau qbz (pv 3) (pv 8)) yac)))
     (qaf (pst 3 sc.nd (yau op_fdivB (pv 3) (pv 8)))))
     (qaj (pst 5 sc.nd (yau qbz (yau op_pow (yau ya7 (pv 5) (yau qch yab (yau ya7 (pv 7) yab))) yab) yab))
     (qaf (qbi (ydf PySem.F.plainAttrs_list PySem.F.slot_list_append PySem.F.type_list_append qas (pv 6) (yaa (yau qbz (yau qfk (pv 5) yab) (pv 8)) yac))))))))
   (qaf (qaq (pv 6)))))))),?_⟩
  refine ⟨_,rfl,c,rfl,?_⟩
  refine ⟨_,rfl,10,18,rfl,rfl,⟨by decide,by decide,by decide⟩,_,_,rfl,rfl,?_⟩
  refine ⟨_,rfl,_,_,rfl,rfl,(by show (0:Int)<2147483647;decide),_,rfl,_,_,rfl,rfl,.inl ⟨by decide,by decide⟩,_,_,rfl,rfl,?_⟩
  refine ⟨zero_le _,λp hp=>?_⟩
  generalize hnum:(if c<0 then -c else c)=num
  generalize hwd:decide ((10:Int) ^ (18:Int).toNat<=num)=wd
  have hs0:0<=num % 2147483647+7919*t:=by have:=emod_nonneg num (show (2147483647:Int)≠0 by decide);omega
  have hs1:num % 2147483647+7919*t<2 ^ 40:=by have:=emod_lt_of_pos num (show (0:Int)<2147483647 by decide);omega
  refine ⟨_,rfl,a,_,rfl,sqlO (by rw[qah (yad ha hp)];exact ha),qd9 (xs:=zs.map V.int) (λi σ H2=>∃(nu seed:Int) (ds:List Int) (q1 q2:Option V),σ=[some (.int c),some (.int t),some (.ref a),some (.int nu),some (.bl wd),some (.int seed),some (.ref p),q1,q2]/\
   Same H H2/\H2 p=some (.lst (ds.map V.int))/\ds.length=i/\(∀(j:Nat) d z,ds[j]?=some d->zs[j]?=some z->0<=d/\d<z)/\0<=seed/\seed<2 ^ 40) ?_ (λi σ H2 _ ⟨_,_,_,_,_,_,s2,_⟩=>sqlO (s2 _ _ ha)) ?_ ?_⟩
  ·exact ⟨num,_,[],none,none,by rw[<-hwd];rfl,(smR H).upd hp,qaa,rfl,λj d z h=>by simp at h,hs0,hs1⟩
  ·rintro i x pp σ H2 hx ⟨nu,seed,ds,q1,q2,rfl,s2,hp2,hln,hds,hse0,hse1⟩ hpp
   obtain ⟨z,hzi,rfl⟩:=ylv hx
   obtain ⟨hz0,hz1⟩:=hz z (mem_of_getElem? hzi)
   have hil:i<zs.length:=(List.getElem?_eq_some_iff.mp hzi).1
   have s3:Same H (upd H2 pp (.tup [.int i,.int z])):=s2.upd hpp
   have hp3:upd H2 pp (.tup [.int i,.int z]) p=some (.lst (ds.map V.int)):=by rw[qah (yad hp2 hpp)];exact hp2
   have fin:∀(d:Int),0<=d->d<z->∀(j:Nat) d' z',(ds++[d])[j]?=some d'->zs[j]?=some z'->0<=d'/\d' < z':=λd h0 h1 j d' z' hj hj2=>by
    by_cases hlt:j<ds.length
    ·rw[getElem?_append_left hlt]at hj
     exact hds j d' z' hj hj2
    ·rw[getElem?_append_right (by omega)]at hj
     have hj0:j-ds.length=0:=by
      cases q:j-ds.length with
      |zero=>rfl
      |succ n=>rw[q]at hj;simp at hj
     rw[hj0]at hj
     have e1:d=d':=by simpa using hj
     have e2:j=i:=by omega
     subst e1 e2
     rw[hzi]at hj2;cases hj2
     exact ⟨h0,h1⟩
   refine ⟨pp,_,rfl,sqtO qaa,rfl,_,_,rfl,_,_,rfl,rfl,?_⟩
   refine ⟨_,rfl,wd,rfl,?_⟩
   cases wd with
   |true=>
    refine iteT ⟨_,rfl,_,_,rfl,rfl,_,rfl,?_⟩
    by_cases hn:0<nu
    ·refine iteD hn ?_
     refine ⟨_,rfl,.inl ⟨rfl,_,sqlO hp3⟩,_,rfl,_,rfl,_,_,rfl,rfl,hz0,p,_,_,rfl,rfl,hp3,qbb (by rw[length_map];omega),?_⟩
     refine ⟨_,rfl,_,rfl,_,_,rfl,rfl,⟨hz0,hz1⟩,?_⟩
     exact ⟨_,seed,ds++[nu % z],_,_,rfl,s3.at hp,by rw[map_append];exact qaa,by simp[hln],fin _ (emod_nonneg _ (by omega)) (emod_lt_of_pos _ hz0),hse0,hse1⟩
    ·refine iteN (decide_eq_false hn) ?_
     refine ⟨_,rfl,_,rfl,_,_,rfl,rfl,_,_,rfl,rfl,.inl ⟨by decide,by decide⟩,_,_,rfl,rfl,_,_,rfl,rfl,⟨by decide,by decide,by omega⟩,_,_,rfl,rfl,(by show (0:Int)<2147483587;decide),?_⟩
     have g0:=emod_nonneg ((seed+104729*((i:Int)+1)) ^ (2:Int).toNat) (show (2147483587:Int)≠0 by decide)
     have g1:=emod_lt_of_pos ((seed+104729*((i:Int)+1)) ^ (2:Int).toNat) (show (0:Int)<2147483587 by decide)
     generalize hse':(seed+104729*((i:Int)+1)) ^ (2:Int).toNat % 2147483587=seed' at g0 g1
     refine ⟨_,rfl,.inl ⟨rfl,_,sqlO hp3⟩,_,rfl,_,_,rfl,rfl,⟨by decide,by decide⟩,_,rfl,_,_,rfl,rfl,hz0,p,_,_,rfl,rfl,hp3,qbb (by rw[length_map];omega),?_⟩
     exact ⟨nu,seed',ds++[seed' / 16 % z],_,_,by rw[<-hse'];rfl,s3.at hp,by rw[map_append,<-hse'];exact qaa,by simp[hln],fin _ (emod_nonneg _ (by omega)) (emod_lt_of_pos _ hz0),g0,by omega⟩
   |false=>
    refine iteF (iteF ?_)
    refine ⟨_,rfl,_,rfl,_,_,rfl,rfl,_,_,rfl,rfl,.inl ⟨by decide,by decide⟩,_,_,rfl,rfl,_,_,rfl,rfl,⟨by decide,by decide,by omega⟩,_,_,rfl,rfl,(by show (0:Int)<2147483587;decide),?_⟩
    have g0:=emod_nonneg ((seed+104729*((i:Int)+1)) ^ (2:Int).toNat) (show (2147483587:Int)≠0 by decide)
    have g1:=emod_lt_of_pos ((seed+104729*((i:Int)+1)) ^ (2:Int).toNat) (show (0:Int)<2147483587 by decide)
    generalize hse':(seed+104729*((i:Int)+1)) ^ (2:Int).toNat % 2147483587=seed' at g0 g1
    refine ⟨_,rfl,.inl ⟨rfl,_,sqlO hp3⟩,_,rfl,_,_,rfl,rfl,⟨by decide,by decide⟩,_,rfl,_,_,rfl,rfl,hz0,p,_,_,rfl,rfl,hp3,qbb (by rw[length_map];omega),?_⟩
    exact ⟨nu,seed',ds++[seed' / 16 % z],_,_,by rw[<-hse'];rfl,s3.at hp,by rw[map_append,<-hse'];exact qaa,by simp[hln],fin _ (emod_nonneg _ (by omega)) (emod_lt_of_pos _ hz0),g0,by omega⟩
  ·rintro σ H2 ⟨nu,seed,ds,q1,q2,rfl,s2,hp2,hln,hds,_,_⟩
   rw[length_map]at hln
   exact ⟨_,rfl,k p ds H2 s2 hp hp2 ⟨hln,hds⟩⟩
end
def fsM(L Cc:Addr):List (Str×V):=[("harms",.ref L),("cells",.ref Cc)]
structure CM(K:W.Frag)(C:Addr):Prop where
 c:Cls K C
 nh:qey K C "harms"
 nc:qey K C "cells"
structure MemO(H:Hp)(C m L Cc:Addr)(us:List V)(hs:List Hm)(cs:List Int):Prop where
 o:∃dx,H m=some (.ins C dx (fsM L Cc))
 m:Mem H L Cc us hs cs
theorem lk_h{L Cc:Addr}:(fsM L Cc).lookup ("harms" : Str)=some (V.ref L):=by
 unfold fsM
 rw[lookup_cons,show (("harms" : Str) == "harms")=true by decide +kernel]
theorem lk_c{L Cc:Addr}:(fsM L Cc).lookup ("cells" : Str)=some (V.ref Cc):=by
 unfold fsM
 rw[lookup_cons,show (("cells" : Str) == "harms")=false by decide +kernel,lookup_cons,show (("cells" : Str) == "cells")=true by decide +kernel]
theorem lk_n{L Cc:Addr}{f:Str}(h1:(f == ("harms" : Str))=false:=by decide +kernel)(h2:(f == ("cells" : Str))=false:=by decide +kernel):(fsM L Cc).lookup f=none:=by
 unfold fsM
 rw[lookup_cons,h1,lookup_cons,h2]
 rfl
section
variable {P:Program}{w:World}{K:W.Frag}{mg:Str->Option Value}{base:Heap}{C:Addr}
def yfg(C:Addr):Sp:=λvs H Q _=>∃m L Cc us hs cs a,vs=[.ref m,.int a]/\MemO H C m L Cc us hs cs/\0<=a/\a<cs.length/\Q .non H
abbrev qal:Stmt:=qf1 (top 55) 1
theorem qbg:FnScope ["self","address"] ["self","address"] (qac qal):=fsc
theorem qkp(B:Bl mg)(cm:CM K C)(qa9:Has P w K mg base 1 "is_whole" ["thing"] ybt)(F:ycx K C "look_at_address" "Memory.look_at_address" qal ["self","address"]):HasM P w K mg base C 2 "look_at_address" ["self","address"] (yfg C):=by
 refine HasM.ofQ F qbg (λvs H Q E h=>?_) (λ_ _ _ _ _ H vs Q E hr h=>?_)
 ·obtain ⟨m,L,Cc,us,hs,cs,a,rfl,_⟩:=h
  rfl
 ·obtain ⟨m,L,Cc,us,hs,cs,a,rfl,⟨⟨dx,ho⟩,mm⟩,h0,h1,k⟩:=h
  have sc:=qbg
  refine ⟨_,qag rfl (yaf (ya9 (QW.pt (yls (qgo (qc9 (yal qa9 hr (yag (qab (pv 1)) qae)))) (yls (qar op_lt (qab (pv 1)) (qab yab) (yaj _)) (qli (qar yly (qab (pv 1)) (qa1 yah rfl (B.of rfl) boot_len (yif (yet (qab (pv 0)) rfl) qae)) (yaj _))))))
    (yaf (ylo qbh))
    qa2)),?_⟩
  refine ⟨_,rfl,a,rfl,_,rfl,iteN rfl ?_⟩
  refine ⟨_,rfl,_,_,rfl,rfl,_,rfl,ya4 (by omega) ?_⟩
  refine ⟨_,rfl,_,rfl,m,C,dx,_,_,rfl,ho,cm.c,cm.nc,lk_c,Cc,_,rfl,.inl (sqlO mm.hc),_,_,rfl,rfl,_,rfl,ya4 (by rw[length_map];omega) ?_⟩
  exact k
def yik(C:Addr):Sp:=λvs H Q _=>∃m L Cc us hs cs a,vs=[.ref m,.int a]/\MemO H C m L Cc us hs cs/\InR hs cs.length/\0<=a/\a<cs.length/\∀H',UpC H Cc (ydi hs cs a).2 H'->Q (.int (ydi hs cs a).1) H'
abbrev qa0:Stmt:=qf1 (top 55) 2
theorem ydh:FnScope ["self","address"] ["self","address"] (qac qa0):=fsc
theorem qlu(cm:CM K C)(yen:HasM P w K mg base C 2 "look_at_address" ["self","address"] (yfg C))(qle:Has P w K mg base 4 "read_at" ["harms","cells","address"] qgm)(F:ycx K C "read" "Memory.read" qa0 ["self","address"]):HasM P w K mg base C 5 "read" ["self","address"] (yik C):=by
 refine HasM.ofQ F ydh (λvs H Q E h=>?_) (λ_ _ _ _ _ H vs Q E hr h=>?_)
 ·obtain ⟨m,L,Cc,us,hs,cs,a,rfl,_⟩:=h
  rfl
 ·obtain ⟨m,L,Cc,us,hs,cs,a,rfl,mo,hi,h0,h1,k⟩:=h
  obtain ⟨⟨dx,ho⟩,mm⟩:=id mo
  have sc:=ydh
  refine ⟨_,qag rfl (qad (qax (qe9 cm.c yen hr (qab (pv 0)) (yag (qab (pv 1)) qae)))
   (yaf (qao (yal qle hr (yif (yet (qab (pv 0)) rfl) (yif (yet (qab (pv 0)) rfl) (yag (qab (pv 1)) qae))))))),?_⟩
  refine ⟨_,rfl,m,dx,_,rfl,ho,lk_n,_,rfl,m,L,Cc,us,hs,cs,a,rfl,mo,h0,h1,?_⟩
  refine ⟨_,rfl,m,C,dx,_,_,rfl,ho,cm.c,cm.nh,lk_h,_,rfl,m,C,dx,_,_,rfl,ho,cm.c,cm.nc,lk_c,_,rfl,L,Cc,us,hs,cs,a,rfl,mm,hi,h0,h1,k⟩
def ydl:Sp:=λvs H Q _=>∃b,vs=[.int (b2i b)]/\∀H',Same H H'->Q .non H'
abbrev ycq:Stmt:=top 54
theorem qdi:FnScope ["thing"] ["thing"] (qac ycq):=fsc
theorem qgg(ycl:Has P w K mg base 2 "is_bit" ["thing"] qcz)(F:FnAt K mg "look_at_bit" ycq ["thing"]):Has P w K mg base 3 "look_at_bit" ["thing"] ydl:=by
 refine Has.ofQ F qdi (λvs H Q E h=>?_) (λ_ _ _ _ _ H vs Q E hr h=>?_)
 ·obtain ⟨b,rfl,_⟩:=h
  rfl
 ·obtain ⟨b,rfl,k⟩:=h
  have sc:=qdi
  refine ⟨_,qag rfl (yaf (ya9 (qgo (qc9 (yal ycl hr (yag (qab (pv 0)) qae))))
    (yaf (ylo qbh))
    qa2)),?_⟩
  exact ⟨_,rfl,b,rfl,λH' s'=>⟨_,rfl,iteN rfl (k H' s')⟩⟩
def qgk(C:Addr):Sp:=λvs H Q _=>∃m L Cc us hs cs a b,vs=[.ref m,.int a,.int (b2i b)]/\MemO H C m L Cc us hs cs/\InR hs cs.length/\0<=a/\a<cs.length/\∀H',UpC H Cc (qen hs cs a (b2i b)) H'->Q .non H'
abbrev qav:Stmt:=qf1 (top 55) 3
theorem yc9:FnScope ["self","address","bit"] ["self","address","bit"] (qac qav):=fsc
theorem yj5(cm:CM K C)(yen:HasM P w K mg base C 2 "look_at_address" ["self","address"] (yfg C))(qhh:Has P w K mg base 3 "look_at_bit" ["thing"] ydl)(qj8:Has P w K mg base 5 "write_at" ["harms","cells","address","bit"] yf3)(F:ycx K C "write" "Memory.write" qav ["self","address","bit"]):HasM P w K mg base C 6 "write" ["self","address","bit"] (qgk C):=by
 refine HasM.ofQ F yc9 (λvs H Q E h=>?_) (λ_ _ _ _ _ H vs Q E hr h=>?_)
 ·obtain ⟨m,L,Cc,us,hs,cs,a,b,rfl,_⟩:=h
  rfl
 ·obtain ⟨m,L,Cc,us,hs,cs,a,b,rfl,mo,hi,h0,h1,k⟩:=h
  obtain ⟨⟨dx,ho⟩,mm⟩:=id mo
  have sc:=yc9
  refine cutA [1] ⟨_,qag rfl (qad (qax (yal qhh hr (yag (qab (pv 2)) qae))) (yaf (qax (yal qj8 hr (yif (yet (qab (pv 0)) rfl) (yif (yet (qab (pv 0)) rfl) (yag (qab (pv 1)) (yag (qab (pv 2)) qae))))))))⟩ ?_
  intro c1
  refine ⟨_,qag rfl (qad (qax (qe9 cm.c yen hr (qab (pv 0)) (yag (qab (pv 1)) qae))) c1.2),?_⟩
  refine ⟨_,rfl,m,dx,_,rfl,ho,lk_n,_,rfl,m,L,Cc,us,hs,cs,a,rfl,mo,h0,h1,?_⟩
  refine ⟨_,rfl,b,rfl,λH1 s1=>?_⟩
  have ho1:=s1 _ _ ho
  refine ⟨_,rfl,m,C,dx,_,_,rfl,ho1,cm.c,cm.nh,lk_h,_,rfl,m,C,dx,_,_,rfl,ho1,cm.c,cm.nc,lk_c,_,rfl,_,rfl,L,Cc,us,hs,cs,a,_,rfl,mm.same s1,hi,h0,h1,λH2 u2=>?_⟩
  exact k H2 ((UpC.of s1 mm.hc).trans u2)
def yhr(C:Addr):Sp:=λvs H Q _=>∃m L Cc us hs cs,vs=[.ref m]/\MemO H C m L Cc us hs cs/\Q (.int (cs.length:Nat)) H
abbrev yaz:Stmt:=qf1 (top 55) 5
theorem qdm:FnScope ["self"] ["self"] (qac yaz):=fsc
theorem yk4(B:Bl mg)(cm:CM K C)(F:ycx K C "size" "Memory.size" yaz ["self"]):HasM P w K mg base C 1 "size" ["self"] (yhr C):=by
 refine HasM.ofQ F qdm (λvs H Q E h=>?_) (λ_ _ _ _ _ H vs Q E hr h=>?_)
 ·obtain ⟨m,L,Cc,us,hs,cs,rfl,_⟩:=h
  rfl
 ·obtain ⟨m,L,Cc,us,hs,cs,rfl,⟨⟨dx,ho⟩,mm⟩,k⟩:=h
  have sc:=qdm
  refine ⟨_,qag rfl (yaf (qao (qa1 yah rfl (B.of rfl) boot_len (yif (yet (qab (pv 0)) rfl) qae)))),?_⟩
  refine ⟨_,rfl,m,C,dx,_,_,rfl,ho,cm.c,cm.nc,lk_c,Cc,_,rfl,.inl (sqlO mm.hc),?_⟩
  rw[length_map]
  exact k
def yib(C:Addr):Sp:=λvs H Q _=>∃(x dx L0 C0:Addr) (us:List V) (hs:List Hm) (S cs:List Int),vs=[.ref x,.int (cs.length:Nat),.ref L0,.ref C0]/\H x=some (.ins C dx [])/\H L0=some (.lst us)/\HsV H us hs/\okHs hs S/\InR hs cs.length/\H C0=some (.lst (cs.map V.int))/\bits cs/\1<=cs.length/\cs.length<=64/\
 ∀(L Cc:Addr) (H':Hp),(∀b u,b≠x->H b=some u->H' b=some u)->H L=none->H Cc=none->MemO H' C x L Cc us hs (yas hs cs)->Q .non H'
abbrev yap:Stmt:=qf1 (top 55) 0
theorem qcb:FnScope ["self","size","harms","contents"] ["self","size","harms","contents"] (qac yap):=fsc
theorem qlm(B:Bl mg)(cm:CM K C)(qe6:Has P w K mg base 8 "look_at_memory" ["size","harms","contents"] ycj)(h_settle:Has P w K mg base 3 "settle" ["harms","cells"] yh7)(F:ycx K C "__init__" "Memory.__init__" yap ["self","size","harms","contents"]):HasM P w K mg base C 9 "__init__" ["self","size","harms","contents"] (yib C):=by
 refine HasM.ofQ F qcb (λvs H Q E h=>?_) (λ_ _ _ _ _ H vs Q E hr h=>?_)
 ·obtain ⟨x,dx,L0,C0,us,hs,S,cs,rfl,_⟩:=h
  rfl
 ·obtain ⟨x,dx,L0,C0,us,hs,S,cs,rfl,hx,hL,hv,ok,hi,hC,hb,l1,l64,k⟩:=h
  have sc:=qcb
  refine cutA [1] ⟨_,qag rfl (qad (qs_fld (qab (pv 0)) (yb5 qcw rfl (B.of rfl) boot_list (yag (qab (pv 2)) qae)) rfl) (qad (qs_fld (qab (pv 0)) (yb5 qcw rfl (B.of rfl) boot_list (yag (qab (pv 3)) qae)) rfl) (yaf (qax (yal h_settle hr (yif (yet (qab (pv 0)) rfl) (yif (yet (qab (pv 0)) rfl) qae)))))))⟩ ?_
  intro c1
  refine ⟨_,qag rfl (qad (qax (yal qe6 hr (yag (qab (pv 1)) (yag (qab (pv 2)) (yag (qab (pv 3)) qae))))) c1.2),?_⟩
  refine ⟨_,rfl,_,rfl,_,rfl,L0,us,hs,S,C0,cs,rfl,hL,hv,ok,hi,hC,hb,l1,l64,λH1 s1=>?_⟩
  refine ⟨_,rfl,L0,_,rfl,.inl (sqlO (s1 _ _ hL)),λL n1=>?_⟩
  have s2:Same H1 (upd H1 L (.lst us)):=(smR H1).upd n1
  have f2:=@qaa H1 L (.lst us)
  revert s2 f2
  generalize upd H1 L _=H2
  intro s2 f2
  have s12:=s1.trans s2
  refine ⟨_,rfl,x,C,dx,_,rfl,s12 _ _ hx,cm.c,cm.nh,by simp,?_⟩
  have nLx:L≠x:=λz=>by subst z;rw[s1 _ _ hx]at n1;cases n1
  have u3:∀b u,b≠x->H2 b=some u->upd H2 x (.ins C dx (putF "harms" (.ref L) [])) b=some u:=λb u h e=>by rw[qah h];exact e
  have f3:upd H2 x (.ins C dx (putF "harms" (.ref L) [])) x=some (.ins C dx [("harms",.ref L)]):=qaa
  revert u3 f3
  generalize upd H2 x _=H3
  intro u3 f3
  have nx:∀{b:Addr}{xs:List V},H b=some (.lst xs)->b≠x:=λe z=>by subst z;rw[hx]at e;cases e
  refine ⟨_,rfl,C0,_,rfl,.inl (sqlO (u3 _ _ (nx hC) (s12 _ _ hC))),λCc n4=>?_⟩
  have nCx:Cc≠x:=λz=>by subst z;rw[f3]at n4;cases n4
  have nLC:L≠Cc:=λz=>by subst z;rw[u3 _ _ nLx f2]at n4;cases n4
  have s4:Same H3 (upd H3 Cc (.lst (cs.map V.int))):=(smR H3).upd n4
  have f4:=@qaa H3 Cc (.lst (cs.map V.int))
  revert s4 f4
  generalize upd H3 Cc _=H4
  intro s4 f4
  refine ⟨_,rfl,x,C,dx,_,rfl,s4 _ _ f3,cm.c,cm.nc,by simp,?_⟩
  have u5:∀b u,b≠x->H4 b=some u->upd H4 x (.ins C dx (putF "cells" (.ref Cc) [("harms",.ref L)])) b=some u:=λb u h e=>by rw[qah h];exact e
  have f5:upd H4 x (.ins C dx (putF "cells" (.ref Cc) [("harms",.ref L)])) x=some (.ins C dx (fsM L Cc)):=by
   rw[qaa]
   have:putF "cells" (V.ref Cc) [("harms",.ref L)]=fsM L Cc:=by
    unfold fsM putF
    rw[if_neg (by decide +kernel)]
    rfl
   rw[this]
  revert u5 f5
  generalize upd H4 x _=H5
  intro u5 f5
  have hc0:H Cc=none:=by
   cases e:H Cc with
   |none=>rfl
   |some u=>have:=u3 _ _ nCx (s12 _ _ e);rw[n4]at this;cases this
  have hl0:H L=none:=s1.free n1
  have up:∀b u,b≠x->H b=some u->H5 b=some u:=λb u h e=>u5 _ _ h (s4 _ _ (u3 _ _ h (s12 _ _ e)))
  have m5:Mem H5 L Cc us hs cs:=⟨nLC,u5 _ _ nLx (s4 _ _ (u3 _ _ nLx f2)),⟨hv.len,λi v h a b=>by
   obtain ⟨z,e,hz⟩:=hv.at_ i v h a b
   exact ⟨z,e,up _ _ (λq=>by subst q;rw[hx]at hz;cases hz) hz⟩⟩,ok.ok,u5 _ _ nCx f4⟩
  refine ⟨_,rfl,x,C,dx,_,_,rfl,f5,cm.c,cm.nh,lk_h,_,rfl,x,C,dx,_,_,rfl,f5,cm.c,cm.nc,lk_c,L,Cc,us,hs,cs,rfl,m5,hi,l64,?_⟩
  refine k L Cc _ (λb u h e=>?_) hl0 hc0 ⟨⟨dx,?_⟩,m5.upd _⟩
  ·rw[qah (λz=>by subst z;rw[hc0]at e;cases e)]
   exact up b u h e
  ·rw[qah (λz=>nCx z.symm)]
   exact f5
end
def fl1(v:V):Prop:=(∃i,v=.int i)\/∃s,v=.str s
theorem yh0{H:Hp}:∀{l vs:List V},(∀x∈l,fl1 x)->AtAll H vs (l.map dOf)->vs=l
 |[],_,_,h=>by cases h;rfl
 |x::l,_,hf,h=>by
  cases h with
  |cons a r=>
   have ih:=yh0 (λy hy=>hf y (mem_cons_of_mem _ hy)) r
   rw[ih]
   rcases hf x (mem_cons_self ..) with ⟨i,rfl⟩|⟨s,rfl⟩
   ·rw[a.intEq]
   ·rw[a.strEq]
theorem hat_of{H:Hp}{v:V}{h:Hm}(hf:∀x∈h.r,fl1 x)(a:At H v (.tuple ((hV h).map dOf))):HAt H v h:=by
 obtain ⟨t,vs,rfl,ht,hw⟩:=a.tupEq
 refine ⟨t,rfl,?_⟩
 rw[ht,yh0 (l:=hV h) (λx hx=>?_) hw]
 unfold hV at hx
 rcases mem_cons.mp hx with rfl|hx
 ·exact .inr ⟨_,rfl⟩
 ·rcases mem_append.mp hx with hx|hx
  ·obtain ⟨c,_,rfl⟩:=mem_map.mp hx
   exact .inl ⟨_,rfl⟩
  ·exact hf x hx
def hD(h:Hm):PyData:=.tuple ((hV h).map dOf)
theorem ykv{H:Hp}:∀{us:List V}{hs:List Hm},(∀h∈hs,∀x∈h.r,fl1 x)->AtAll H us (hs.map hD)->HsV H us hs
 |us,hs,hf,h=>by
  refine ⟨by rw[h.length,length_map],λi v g h1 h2=>?_⟩
  obtain ⟨d,hd,ha⟩:=h.get h1
  rw[getElem?_map,h2]at hd
  cases hd
  exact hat_of (hf g (mem_of_getElem? h2)) ha
def ones(a v:Int):List Hm:=[⟨"stuck",[a],[.int v]⟩,⟨"slow",[a],[.int v]⟩,⟨"forgets",[a],[.int v]⟩,⟨"misreads",[a],[.int v]⟩,⟨"nowhere",[a],[.int v]⟩]
def twos(a b u v:Int):List Hm:=[⟨"turns",[a,b],[.int u]⟩,⟨"sets",[a,b],[.int u,.int v]⟩,⟨"keeps",[a,b],[.int u,.int v]⟩,⟨"other",[a,b],[]⟩]
def oneB(a b:Int)(u:Int):Hm:=⟨"both",[a,b],[.str (if u=0 then "and" else "or")]⟩
def qke(n:Int)(h:Hm):Prop:=(∃ns,okH h ns)/\∀c∈h.c,0<=c/\c<n
theorem yk3{n a v:Int}(h0:0<=a)(h1:a<n)(hn:n<=64)(hv:bitV (.int v)):∀h∈ones a v,qke n h:=by
 have rg:∀x∈([a]:List Int),0<=x/\x<64:=λx hx=>by rw[mem_singleton.mp hx];omega
 have rn:∀x∈([a]:List Int),0<=x/\x<n:=λx hx=>by rw[mem_singleton.mp hx];omega
 intro h hh
 unfold ones at hh
 simp only[mem_cons,not_mem_nil,or_false]at hh
 rcases hh with rfl|rfl|rfl|rfl|rfl
 ·exact ⟨⟨["bit"],yax (by simp),.bit hv .nil,by simp,by simp,by simp,rg⟩,rn⟩
 ·exact ⟨⟨["bit"],yax (by simp),.bit hv .nil,by simp,by simp,by simp,rg⟩,rn⟩
 ·exact ⟨⟨["bit"],yax (by simp),.bit hv .nil,by simp,by simp,by simp,rg⟩,rn⟩
 ·exact ⟨⟨["bit"],yax (by simp),.bit hv .nil,by simp,by simp,by simp,rg⟩,rn⟩
 ·exact ⟨⟨["bit"],yax (by simp),.bit hv .nil,by simp,by simp,by simp,rg⟩,rn⟩
theorem yk8{n a b u v:Int}(h0:0<=a)(h1:a<n)(h2:0<=b)(h3:b<n)(hne:a≠b)(hn:n<=64)(hu:bitV (.int u))(hv:bitV (.int v)):∀h∈twos a b u v++[oneB a b u],qke n h:=by
 have rg:∀x∈([a,b]:List Int),0<=x/\x<64:=λx hx=>by
  simp at hx
  rcases hx with rfl|rfl<;>omega
 have rn:∀x∈([a,b]:List Int),0<=x/\x<n:=λx hx=>by
  simp at hx
  rcases hx with rfl|rfl<;>omega
 have nd:([a,b]:List Int).Nodup:=by simp[hne]
 intro h hh
 unfold twos at hh
 simp only[List.cons_append,List.nil_append,mem_cons,not_mem_nil,or_false]at hh
 rcases hh with rfl|rfl|rfl|rfl|rfl
 ·exact ⟨⟨["bit"],qda,.bit hu .nil,by simp,by simp,nd,rg⟩,rn⟩
 ·exact ⟨⟨["bit","bit"],ybm (.inl rfl),.bit hu (.bit hv .nil),by simp,by simp,nd,rg⟩,rn⟩
 ·exact ⟨⟨["bit","bit"],ybm (.inr rfl),.bit hu (.bit hv .nil),by simp,by simp,nd,rg⟩,rn⟩
 ·exact ⟨⟨[],qcl,.nil,by simp,by simp,nd,rg⟩,rn⟩
 ·refine ⟨⟨["how"],qcd,.how ?_ .nil,⟨le_of_ble_eq_true rfl,le_of_ble_eq_true rfl⟩,by simp,nd,rg⟩,rn⟩
  unfold howV
  by_cases e:u=0
  ·rw[if_pos e];exact .inl rfl
  ·rw[if_neg e];exact .inr rfl
theorem qkm{n a k:Int}(h0:0<=a)(h1:a<n)(k1:1<=k)(k2:k<n):(a+k) % n≠a/\0<=(a+k) % n/\(a+k) % n<n:=by
 have hp:(0:Int)<n:=by omega
 refine ⟨?_,emod_nonneg _ (by omega),emod_lt_of_pos _ hp⟩
 by_cases h:a+k<n
 ·rw[Int.emod_eq_of_lt (by omega) h];omega
 ·rw[show a+k=(a+k-n)+n by omega,Int.add_emod_right,Int.emod_eq_of_lt (by omega) (by omega)];omega
theorem bit_of{d:Int}(h0:0<=d)(h1:d<2):∃b,d=b2i b:=by
 rcases (by omega:d=0\/d=1) with rfl|rfl
 ·exact ⟨false,rfl⟩
 ·exact ⟨true,rfl⟩
theorem HsV.upL{H:Hp}{us:List V}{hs:List Hm}{D:Addr}{xs:List V}{o:HO}(x:HsV H us hs)(hD:H D=some (.lst xs)):HsV (L2.upd H D o) us hs:=⟨x.len,λi v h a b=>by
 obtain ⟨z,e,hz⟩:=x.at_ i v h a b
 exact ⟨z,e,by rw[qah (λq=>by subst q;rw[hD]at hz;cases hz)];exact hz⟩⟩
theorem HsV.snoc{H:Hp}{us:List V}{hs:List Hm}{v:V}{h:Hm}(x:HsV H us hs)(hv:HAt H v h):HsV H (us++[v]) (hs++[h]):=by
 refine ⟨by simp[x.len],λi v' h' a b=>?_⟩
 by_cases hi:i<us.length
 ·rw[getElem?_append_left hi]at a
  rw[getElem?_append_left (by rw[<-x.len];exact hi)]at b
  exact x.at_ i v' h' a b
 ·have hi':i=us.length:=by
   have:=(List.getElem?_eq_some_iff.mp a).1
   simp at this
   omega
  subst hi'
  rw[getElem?_append_right (le_refl _)]at a
  rw[x.len,getElem?_append_right (le_refl _)]at b
  simp at a b
  subst a b
  exact hv
theorem rest_fl{ns:List Str}{rr:List V}(re:Rest ns rr):∀x∈rr,fl1 x:=by
 induction re with
 |nil=>intro x hx;cases hx
 |bit hb _ ih=>
  obtain ⟨b,rfl⟩:=hb
  intro x hx
  rcases mem_cons.mp hx with rfl|hx
  ·exact .inl ⟨_,rfl⟩
  ·exact ih x hx
 |how hb _ ih=>
  intro x hx
  rcases mem_cons.mp hx with rfl|hx
  ·rcases hb with rfl|rfl<;>exact .inr ⟨_,rfl⟩
  ·exact ih x hx
theorem fr(h:Hm)(o:∃ns,okH h ns):∀x∈h.r,fl1 x:=by
 obtain ⟨ns,o⟩:=o
 exact rest_fl o.rest
theorem lay_c{te:TE}{ta:TA}{σ:L2.St}{H:Hp}{d:PyData}{Q:List V->Hp->Prop}(h:Lay [] te σ d H)(k:∀v H',Same H H'->At H' v d->ta σ H' λvs H2=>Q (v::vs) H2):qdg te ta σ H Q:=
 h (λb hb=>by cases hb) H (smR H) _ λv H' s a=>k v H' s (a.same (qbe _ _))
section
variable {P:Program}{w:World}{K:W.Frag}{mg:Str->Option Value}{base:Heap}
def qjk:Sp:=λvs H Q _=>∃(D:Addr) (d0 d1 d2 d3 d4:Int) (n:Int),vs=[.ref D,.int n]/\H D=some (.lst [.int d0,.int d1,.int d2,.int d3,.int d4])/\0<=d0/\0<=d1/\0<=d2/\0<=d3/\d3<2/\0<=d4/\d4<2/\1<=n/\n<=64/\
 ∀v h H',Same H H'->HAt H' v h->qke n h->Q v H'
abbrev ydt:Stmt:=top 78
theorem yex:FnScope ["_law_d","_law_size","_law_a","_law_b","_law_u","_law_v","_law_some"] ["_law_d","_law_size"] (qac ydt):=fsc
theorem ok_lharm(B:Bl mg)(F:FnAt K mg "_law_harm" ydt ["_law_d","_law_size"]):Has P w K mg base 1 "_law_harm" ["_law_d","_law_size"] qjk:=by
 refine Has.ofQ F yex (λvs H Q E h=>?_) (λ_ _ _ _ _ H vs Q E hr h=>?_)
 ·obtain ⟨D,d0,d1,d2,d3,d4,n,rfl,_⟩:=h
  rfl
 ·obtain ⟨D,d0,d1,d2,d3,d4,n,rfl,hDD,p0,p1,p2,p3,q3,p4,q4,n1,n64,k⟩:=h
  have sc:=yex
  refine ⟨_,(qag rfl (qad (qsE 2 sc.nd (qa5 qbz (qap qam (qab (pv 0)) (qab yab)) (qab (pv 1))))
   (qad (qsE 3 sc.nd (qa5 qbz (qa5 ya7 (qa5 ya7 (qab (pv 2)) (qab yab)) (qa5 qbz (qap qam (qab (pv 0)) (qab yab)) (qa1 (yih rfl) rfl (B.of rfl) boot_max (ya3 (qab yab) (yhi (qa5 ygu (qab (pv 1)) (qab yab)) qae))))) (qab (pv 1))))
   (qad (qsE 4 sc.nd (qap qam (qab (pv 0)) (qab yab)))
   (qad (qsE 5 sc.nd (qap qam (qab (pv 0)) (qab yab)))
   (qad (qsE 6 sc.nd (qat (qgc (qa6 (ya3 (qab yak) (yag (qab (pv 2)) (yag (qab (pv 5)) qae)))) (qgc (qa6 (ya3 (qab yak) (yag (qab (pv 2)) (yag (qab (pv 5)) qae)))) (qgc (qa6 (ya3 (qab yak) (yag (qab (pv 2)) (yag (qab (pv 5)) qae)))) (qgc (qa6 (ya3 (qab yak) (yag (qab (pv 2)) (yag (qab (pv 5)) qae)))) (qgc (qa6 (ya3 (qab yak) (yag (qab (pv 2)) (yag (qab (pv 5)) qae)))) qae)))))))
   (qss_cut (ya9 (qar yi8 (qab (pv 1)) (qab yab) (yaj _))
    (qad (qsE 6 sc.nd (qa5 qdb (qab (pv 6)) (qat (qgc (qa6 (ya3 (qab yak) (yag (qab (pv 2)) (yag (qab (pv 3)) (yag (qab (pv 4)) qae))))) (qgc (qa6 (ya3 (qab yak) (yag (qab (pv 2)) (yag (qab (pv 3)) (yag (qab (pv 4)) (yag (qab (pv 5)) qae)))))) (qgc (qa6 (ya3 (qab yak) (yag (qab (pv 2)) (yag (qab (pv 3)) (yag (qab (pv 4)) (yag (qab (pv 5)) qae)))))) (qgc (qa6 (ya3 (qab yak) (yag (qab (pv 2)) (yag (qab (pv 3)) qae)))) qae)))))))
    (yaf (qax (yiv PySem.F.plainAttrs_list PySem.F.slot_list_append PySem.F.type_list_append qas (qab (pv 6)) (qgc (qa6 (ya3 (qab yak) (yag (qab (pv 2)) (yag (qab (pv 3)) (ybd (qap qam (qat (ya3 (qab yak) (ya3 (qab yak) qae))) (qab (pv 4))) qae))))) qae)))))
    qa2)
   (yaf (qao (qap qam (qab (pv 6)) (qa5 qbz (qap qam (qab (pv 0)) (qab yab)) (qa1 yah rfl (B.of rfl) boot_len (yag (qab (pv 6)) qae))))))))))))),?_⟩
  have a0:=emod_nonneg d1 (b:=n) (by omega)
  have a1:=emod_lt_of_pos d1 (b:=n) (by omega)
  refine ⟨_,rfl,D,_,_,_,rfl,rfl,sqlO hDD,yae 1 rfl,_,rfl,_,_,rfl,rfl,by omega,?_⟩
  refine gn ?_
  dsimp only
  obtain ⟨a,ha⟩:∃a,d1 % n=a:=⟨_,rfl⟩
  rw[ha]at a0 a1 ⊢
  refine ⟨_,rfl,_,_,rfl,rfl,_,rfl,D,_,_,_,rfl,rfl,sqlO hDD,yae 2 rfl,_,rfl,_,_,rfl,rfl,_,_,rfl,_,_,rfl,rfl,(by show (0:Int)<(if n-1>1 then n-1 else 1);split<;>omega),_,_,rfl,rfl,_,rfl,_,_,rfl,rfl,by omega,?_⟩
  show qf0 3 (V.int ((a+1+d2 % (if n-1>1 then n-1 else 1)) % n)) _ _ _
  obtain ⟨b,hb,hb2⟩:∃b,(a+1+d2 % (if n-1>1 then n-1 else 1)) % n=b/\(1<n->a≠b/\0<=b/\b<n):=by
   refine ⟨_,rfl,λhn1=>?_⟩
   have e:(if n-1>1 then n-1 else 1)=n-1:=by split<;>omega
   rw[e]
   have m0:=emod_nonneg d2 (b:=n-1) (by omega)
   have m1:=emod_lt_of_pos d2 (b:=n-1) (by omega)
   rw[show a+1+d2 % (n-1)=a+(1+d2 % (n-1)) by omega]
   obtain ⟨h1,h2,h3⟩:=qkm (k:=1+d2 % (n-1)) a0 a1 (by omega) (by omega)
   exact ⟨λz=>h1 z.symm,h2,h3⟩
  rw[hb]
  refine gn ?_
  dsimp only
  refine ⟨_,rfl,D,_,_,_,rfl,rfl,sqlO hDD,yae 3 rfl,?_⟩
  refine ⟨_,rfl,D,_,_,_,rfl,rfl,sqlO hDD,yae 4 rfl,?_⟩
  refine gn ?_
  dsimp only
  have bu:bitV (.int d3):=by obtain ⟨b,rfl⟩:=bit_of p3 q3;exact ⟨b,rfl⟩
  have bv:bitV (.int d4):=by obtain ⟨b,rfl⟩:=bit_of p4 q4;exact ⟨b,rfl⟩
  have g1:=yk3 a0 a1 n64 bv
  have ia:At H (.int a) (.int a):=.int _
  have iv:At H (.int d4) (.int d4):=.int _
  refine lay_set (d:=.list ((ones a d4).map hD)) ?_ λx1 H1 s1 x1a=>?_
  ·show Lay [] _ _ (.list [.tuple [.str "stuck",.int a,.int d4],.tuple [.str "slow",.int a,.int d4],.tuple [.str "forgets",.int a,.int d4],.tuple [.str "misreads",.int a,.int d4],.tuple [.str "nowhere",.int a,.int d4]]) _
   repeat' (first|exact ykw|exact lay_bl|exact qg5|exact yix|exact ylr|exact qfo|refine qcc ?_ ?_|refine yi4 ?_|refine ycp ?_|exact yhk rfl (.int _))
  -- behind the second sort
  refine ⟨λσ' HX=>∃(p:Addr) (us:List V) (hs:List Hm),σ'=[some (.ref D),some (.int n),some (.int a),some (.int b),some (.int d3),some (.int d4),some (.ref p)]/\Same H HX/\HX p=some (.lst us)/\HsV HX us hs/\1<=hs.length/\hs.length<=10/\∀h∈hs,qke n h,?_,?_⟩
  ·refine ⟨_,rfl,_,_,rfl,rfl,_,rfl,?_⟩
   by_cases hn1:1<n
   ·refine iteB (decide_eq_true hn1) ?_
    obtain ⟨hne,b0,b1⟩:=hb2 hn1
    have g2:=yk8 a0 a1 b0 b1 hne n64 bu bv
    refine ⟨_,rfl,?_⟩
    refine qkw (L:=[]) (d:=.list ((twos a b d3 d4).map hD)) ?_ (λb hb=>by cases hb) λx2 H2 s2 x2a=>?_
    ·show Lay [] _ _ (.list [.tuple [.str "turns",.int a,.int b,.int d3],.tuple [.str "sets",.int a,.int b,.int d3,.int d4],.tuple [.str "keeps",.int a,.int b,.int d3,.int d4],.tuple [.str "other",.int a,.int b]]) _
     repeat' (first|exact ykw|exact lay_bl|exact qg5|exact yix|exact ylr|exact qfo|refine qcc ?_ ?_|refine yi4 ?_|refine ycp ?_|exact yhk rfl (.int _))
    obtain ⟨q,ys,rfl,hq,hwq⟩:=(x2a.same (qbe _ _)).lstEq
    obtain ⟨p1,us1,rfl,hp1,hw1⟩:=(x1a.same s2).lstEq
    have l1:us1.length=5:=hw1.length
    have l2:ys.length=4:=hwq.length
    refine ⟨p1,q,us1,ys,rfl,rfl,hp1,hq,ydg (by omega),λp hp=>?_⟩
    have nH:H p=none:=(s1.trans s2).free hp
    have hw:AtAll H2 (us1++ys) ((ones a d4++twos a b d3 d4).map hD):=by rw[map_append];exact hw1.append hwq
    have hv2:=ykv (hs:=ones a d4++twos a b d3 d4) (λh hh=>fr h (by
     rcases mem_append.mp hh with hh|hh
     ·exact (g1 h hh).1
     ·exact (g2 h (List.mem_append_left _ hh)).1)) hw
    generalize hG3:upd H2 p _=H3
    have s3:Same H2 H3:=by rw[<-hG3];exact (smR H2).upd hp
    have f3:H3 p=some (.lst (us1++ys)):=by rw[<-hG3];exact qaa
    clear hG3
    refine gn ?_
    dsimp only
    refine ⟨_,rfl,.inl ⟨rfl,_,sqlO f3⟩,?_⟩
    refine lay_c (d:=hD (oneB a b d3)) ?_ λv4 H4 s4 a4=>?_
    ·show Lay [] _ _ (.tuple [.str "both",.int a,.int b,.str (if d3=0 then "and" else "or")]) _
     refine yi4 (qcc yix (qcc (yhk rfl (.int _)) (qcc (yhk rfl (.int _)) (qcc ?_ qfo))))
     have hix:atI [V.str "and",.str "or"] d3=some (.str (if d3=0 then "and" else "or")):=by
      rcases (by omega:d3=0\/d3=1) with rfl|rfl<;>rfl
     exact λhL H7 s7 Q7 k7=>⟨zl,λq hq=>⟨_,rfl,q,_,_,_,rfl,rfl,sqlO qaa,hix,k7 _ _ ((smR H7).upd hq) (.str _)⟩⟩
    ·have hat:HAt H4 v4 (oneB a b d3):=hat_of (fr _ (g2 _ (by simp)).1) a4
     refine ⟨p,us1++ys,v4,rfl,rfl,s4 _ _ f3,qbb (by rw[length_append];omega),?_⟩
     refine ⟨p,us1++ys++[v4],(ones a d4++twos a b d3 d4)++[oneB a b d3],rfl,(((s1.trans s2).trans s3).trans s4).at nH,qaa,((hv2.same (s3.trans s4)).snoc hat).upL (s4 _ _ f3),le_of_ble_eq_true rfl,le_of_ble_eq_true rfl,λh hh=>?_⟩
     rw[List.append_assoc]at hh
     rcases mem_append.mp hh with hh|hh
     ·exact g1 h hh
     ·exact g2 h hh
   ·refine iteN (decide_eq_false hn1) ?_
    obtain ⟨p,us,rfl,hp,hw⟩:=x1a.lstEq
    exact ⟨p,us,ones a d4,rfl,s1,hp,ykv (λh hh=>fr h (g1 h hh).1) hw,le_of_ble_eq_true rfl,le_of_ble_eq_true rfl,g1⟩
  ·rintro σ1 HX ⟨p,us,hs,rfl,sX,eX,hvX,l1,l10,hg⟩
   have hul:=hvX.len
   have hDX:=sX _ _ hDD
   obtain ⟨j,hj,hjl⟩:∃j:Nat,d0 % (us.length:Int)=(j:Int)/\j<us.length:=by
    have h1:=emod_nonneg d0 (b:=(us.length:Int)) (by omega)
    have h2:=emod_lt_of_pos d0 (b:=(us.length:Int)) (by omega)
    exact ⟨(d0 % (us.length:Int)).toNat,by omega,by omega⟩
   have hgj:hs[j]?=some (hs[j]'(by omega)):=getElem?_eq_getElem _
   refine ⟨_,rfl,_,rfl,D,_,_,_,rfl,rfl,sqlO hDX,yae 0 rfl,_,rfl,p,_,rfl,.inl (sqlO eX),_,_,rfl,rfl,(by show (0:Int)<(us.length:Int);omega),p,us,_,us[j],rfl,rfl,sqlO eX,?_,k _ _ HX sX (hvX.at_ j _ _ (getElem?_eq_getElem hjl) hgj) (hg _ (mem_of_getElem? hgj))⟩
   show atI us (d0 % (us.length:Int))=_
   rw[hj]
   exact ybl (getElem?_eq_getElem hjl)
theorem in5{s a b c d e:Str}:inV (.str s) (([a,b,c,d,e]:List Str).map V.str)=decide (s=a\/s=b\/s=c\/s=d\/s=e):=by
 unfold inV
 rw[Bool.eq_iff_iff]
 simp[eqS]
theorem qma{h:Hm}{ns:List Str}(o:okH h ns):(h.w="stuck"\/h.w="slow"\/h.w="forgets"\/h.w="misreads"\/h.w="nowhere")\/h.w="turns"\/(h.w="sets"\/h.w="keeps")\/h.w="other"\/h.w="both":=by
 have hk:KTD.inKeys h.w tabP=true:=by rw[<-KTD.isSome_datumAt,o.tab];rfl
 have:h.w="stuck"\/h.w="slow"\/h.w="forgets"\/h.w="misreads"\/h.w="turns"\/h.w="sets"\/h.w="keeps"\/h.w="nowhere"\/h.w="other"\/h.w="both":=by
  simpa [tabP,KTD.inKeys] using hk
 rcases this with e|e|e|e|e|e|e|e|e|e
 ·exact .inl (.inl e)
 ·exact .inl (.inr (.inl e))
 ·exact .inl (.inr (.inr (.inl e)))
 ·exact .inl (.inr (.inr (.inr (.inl e))))
 ·exact .inr (.inl e)
 ·exact .inr (.inr (.inl (.inl e)))
 ·exact .inr (.inr (.inl (.inr e)))
 ·exact .inl (.inr (.inr (.inr (.inr e))))
 ·exact .inr (.inr (.inr (.inl e)))
 ·exact .inr (.inr (.inr (.inr e)))
def two5:List Str:=["turns","sets","keeps","other","both"]
theorem two_is{h:Hm}{ns:List Str}(o:okH h ns):inV (.str h.w) (two5.map V.str)=decide (h.c.length=2):=by
 unfold two5
 rw[in5]
 rcases qma o with hw|hw|hw|hw|hw
 ·obtain ⟨a,b,hc,_⟩:=o.s1 (yax hw)
  rw[show h.c.length=1 by rw[hc];rfl]
  rcases hw with hw|hw|hw|hw|hw<;>rw[hw]<;>decide +kernel
 ·obtain ⟨a,b,x,hc,_⟩:=o.sTurns (by rw[hw];exact qda)
  rw[show h.c.length=2 by rw[hc];rfl,hw];decide +kernel
 ·obtain ⟨a,b,x,y,hc,_⟩:=o.sSets (ybm hw)
  rw[show h.c.length=2 by rw[hc];rfl]
  rcases hw with hw|hw<;>rw[hw]<;>decide +kernel
 ·obtain ⟨a,b,hc,_⟩:=o.sOther (by rw[hw];exact qcl)
  rw[show h.c.length=2 by rw[hc];rfl,hw];decide +kernel
 ·obtain ⟨a,b,v,hc,_⟩:=o.sBoth (by rw[hw];exact qcd)
  rw[show h.c.length=2 by rw[hc];rfl,hw];decide +kernel
theorem qkq{hs:List Hm}(o:Oks hs):(allC hs).length<=2*hs.length:=by
 induction hs with
 |nil=>simp[allC]
 |cons h hs ih=>
  have:=ih λg hg=>o g (mem_cons_of_mem _ hg)
  obtain ⟨ns,oh⟩:=o h (mem_cons_self ..)
  have hc:=oh.cl
  unfold allC at this ⊢
  rw[flatMap_cons,length_append,length_cons]
  omega
def qh5:Sp:=λvs H Q _=>∃L us hs,vs=[.ref L]/\H L=some (.lst us)/\HsV H us hs/\Oks hs/\hs.length<=4/\∀(D:Addr) (ns:List Int) (H':Hp),Same H H'->H D=none->H' D=some (.lst (ns.map V.int))->ns.Perm (uniq (allC hs))->ns.Pairwise (·<=·)->Q (.ref D) H'
abbrev yc3:Stmt:=top 79
theorem qdy:FnScope ["_law_harms_here","_law_found","_law_harm_here"] ["_law_harms_here"] (qac yc3):=fsc
theorem yle(B:Bl mg)(qe2:mg "set"=none)(F:FnAt K mg "_law_cells" yc3 ["_law_harms_here"]):Has P w K mg base 1 "_law_cells" ["_law_harms_here"] qh5:=by
 refine Has.ofQ F qdy (λvs H Q E h=>?_) (λ_ _ _ _ _ H vs Q E hr h=>?_)
 ·obtain ⟨L,us,hs,rfl,_⟩:=h
  rfl
 ·obtain ⟨L,us,hs,rfl,hL,hv,ok,h4,k⟩:=h
  have sc:=qdy
  refine ⟨_,(qag rfl (qad (qsE 1 sc.nd (qat qae))
   (qad (ya8 PassesOwn.never rfl (qbn (qab (pv 0))) (pgn 2 sc.nd)
    (qad (qax (yiv PySem.F.plainAttrs_list PySem.F.slot_list_append PySem.F.type_list_append qas (qab (pv 1)) (ybd (qap qai (qab (pv 2)) (qab yab)) qae)))
    (yaf (ya9 (qar ybg (qap qai (qab (pv 2)) (qab yab)) (qe_tstrs (xs:=["turns","sets","keeps","other","both"]) (by decide +kernel)) (by with_unfolding_all rfl))
     (yaf (qax (yiv PySem.F.plainAttrs_list PySem.F.slot_list_append PySem.F.type_list_append qas (qab (pv 1)) (ybd (qap qai (qab (pv 2)) (qab yab)) qae))))
     qa2))))
   (yaf (qao (qa1 (yer rfl) rfl (B.of rfl) qe0 (yh2 (yb5 (ydy rfl) rfl qe2 yd0 (yag (qab (pv 1)) qae)) qae))))))),?_⟩
  have z5:5<=sizeLine:=by decide
  have al:∀i,(allC (hs.take i)).length<=8:=λi=>by
   have h1:=qkq (hs:=hs.take i) λh hh=>ok h (mem_of_mem_take hh)
   rw[length_take]at h1
   omega
  refine ⟨zero_le _,λp hp=>?_⟩
  generalize hG1:upd H p _=H1
  have s1:Same H H1:=by rw[<-hG1];exact (smR H).upd hp
  have f1:H1 p=some (.lst []):=by rw[<-hG1];exact qaa
  clear hG1
  refine ⟨_,rfl,L,rfl,⟨us,sqlO (s1 _ _ hL)⟩,yaq (xs:=us) (λi σ H2=>∃(o2:Option V),σ=[some (.ref L),some (.ref p),o2]/\Same H H2/\H2 p=some (.lst ((allC (hs.take i)).map V.int)))
   ⟨none,rfl,s1,f1⟩ (λi σ H2 _ ⟨_,_,h,_⟩=>sqlO (h _ _ hL)) ?_ ?_⟩
  ·rintro i x σ H2 hx ⟨o2,rfl,s2,e2⟩
   obtain ⟨g,hg,hat⟩:=hv.get hx
   obtain ⟨nn,og⟩:=ok g (mem_of_getElem? hg)
   obtain ⟨a,rfl,ha⟩:=HAt.same s2 hat
   have ali:=al i
   refine ⟨_,rfl,.inl ⟨rfl,_,sqlO e2⟩,?_⟩
   refine ⟨_,rfl,a,_,_,_,rfl,rfl,sqtO ha,yae 1 og.at1,p,_,_,rfl,rfl,e2,qbb (by rw[length_map];omega),?_⟩
   have nap:a≠p:=λz=>by subst z;rw[e2]at ha;cases ha
   generalize hG3:upd H2 p _=H3
   have s3:Same H H3:=by rw[<-hG3];exact s2.at hp
   have f3:H3 p=some (.lst ((allC (hs.take i)).map V.int++[.int (g.cell 0)])):=by rw[<-hG3];exact qaa
   have ha3:H3 a=some (.tup (hV g)):=by rw[<-hG3,qah nap];exact ha
   clear hG3
   refine ⟨_,rfl,a,_,_,_,rfl,rfl,sqtO ha3,yae 0 rfl,z5,λt ht=>?_⟩
   have s4:Same H3 (upd H3 t (.tup (two5.map V.str))):=(smR H3).upd ht
   refine ⟨t,two5.map V.str,rfl,.inr (sqtO qaa),rfl,rfl,_,rfl,?_⟩
   generalize hG4:upd H3 t _=H4
   have s4:Same H3 H4:=by rw[<-hG4];exact s4
   clear hG4
   rcases ybq og with ⟨c,hc⟩|⟨c,c2,hc⟩
   ·refine iteN (by show inV _ _=false;rw[two_is og,hc];rfl) ?_
    refine ⟨_,rfl,s3.trans s4,?_⟩
    rw[s4 _ _ f3,yck hg,hc,map_append]
    unfold Hm.cell
    rw[hc]
    rfl
   ·refine iteB (by show inV _ _=true;rw[two_is og,hc];rfl) ?_
    have h2:(hV g)[2]?=some (.int c2):=by unfold hV;rw[hc];rfl
    refine ⟨_,rfl,.inl ⟨rfl,_,sqlO (s4 _ _ f3)⟩,?_⟩
    refine ⟨_,rfl,a,_,_,_,rfl,rfl,sqtO (s4 _ _ ha3),yae 2 h2,p,_,_,rfl,rfl,s4 _ _ f3,qbb (by rw[length_append,length_map];simp;omega),?_⟩
    refine ⟨_,rfl,(s3.trans s4).at hp,?_⟩
    rw[qaa,yck hg,hc,map_append]
    unfold Hm.cell
    rw[hc]
    simp
  ·rintro σ H2 ⟨o2,rfl,s2,e2⟩
   rw[hv.len,take_length]at e2
   have a8:=qkq ok
   have u8:=uniq_len (allC hs)
   refine ⟨_,rfl,p,_,rfl,e2,by omega,λq hq=>?_⟩
   have s6:Same H2 (upd H2 q (SetO P w q (uniq (allC hs)))):=(smR H2).upd hq
   refine ⟨q,_,rfl,qaa,by omega,λl ns hl hpm hso=>?_⟩
   exact k l ns _ ((s2.trans s6).upd hl) ((s2.trans s6).free hl) qaa hpm hso
theorem take5{l:List Int}{a:Nat}(h:a+5<=l.length):(l.drop a).take 5=[l.getD a 0,l.getD (a+1) 0,l.getD (a+2) 0,l.getD (a+3) 0,l.getD (a+4) 0]:=by
 have g:∀k,k<l.length->l.getD k 0=l[k]?.getD 0:=λk _=>getD_eq_getElem?_getD ..
 rw[List.drop_eq_getElem_cons (show a<l.length by omega),List.drop_eq_getElem_cons (show a+1<l.length by omega),List.drop_eq_getElem_cons (show a+1+1<l.length by omega),List.drop_eq_getElem_cons (show a+1+1+1<l.length by omega),List.drop_eq_getElem_cons (show a+1+1+1+1<l.length by omega)]
 simp only[List.take_succ_cons,List.take_zero,getD_eq_getElem?_getD]
 rw[getElem?_eq_getElem (show a<l.length by omega),getElem?_eq_getElem (show a+1<l.length by omega),getElem?_eq_getElem (show a+2<l.length by omega),getElem?_eq_getElem (show a+3<l.length by omega),getElem?_eq_getElem (show a+4<l.length by omega)]
 rfl
theorem qfw{xs:List V}{a b:Nat}:cutV xs (some (a:Int)) (some (b:Int))=(xs.drop (min a xs.length)).take (min b xs.length-min a xs.length):=by
 unfold cutV
 rw[HT.sIx_nat,HT.sIx_nat]
def dg16:List Int:=[4,20,64,64,2,2,20,64,64,2,2,20,64,64,2,2]
theorem dg_at{ds:List Int}(h:Dig ds dg16){i:Nat}(hi:i<3):ds.length=16/\0<=ds.getD (1+5*i) 0/\0<=ds.getD (1+5*i+1) 0/\0<=ds.getD (1+5*i+2) 0/\(0<=ds.getD (1+5*i+3) 0/\ds.getD (1+5*i+3) 0<2)/\0<=ds.getD (1+5*i+4) 0/\ds.getD (1+5*i+4) 0<2:=by
 have g:∀{j:Nat}{z:Int},dg16[j]?=some z->0<=ds.getD j 0/\ds.getD j 0<z:=λ{j z} hz=>by
  obtain ⟨d,h1,h2,h3⟩:=h.get hz
  rw[getD_eq_getElem?_getD,h1]
  exact ⟨h2,h3⟩
 refine ⟨h.1,?_⟩
 rcases (by omega:i=0\/i=1\/i=2) with rfl|rfl|rfl
 ·exact ⟨(g (j:=1) rfl).1,(g (j:=2) rfl).1,(g (j:=3) rfl).1,g (j:=4) rfl,(g (j:=5) rfl).1,(g (j:=5) rfl).2⟩
 ·exact ⟨(g (j:=6) rfl).1,(g (j:=7) rfl).1,(g (j:=8) rfl).1,g (j:=9) rfl,(g (j:=10) rfl).1,(g (j:=10) rfl).2⟩
 ·exact ⟨(g (j:=11) rfl).1,(g (j:=12) rfl).1,(g (j:=13) rfl).1,g (j:=14) rfl,(g (j:=15) rfl).1,(g (j:=15) rfl).2⟩
def qie:Sp:=λvs H Q _=>∃(D:Addr) (ds:List Int) (n:Int),vs=[.ref D,.int n]/\H D=some (.lst (ds.map V.int))/\Dig ds dg16/\1<=n/\n<=64/\∀(p:Addr) (us:List V) (hs:List Hm) (S:List Int) (H':Hp),Same H H'->H p=none->H' p=some (.lst us)->HsV H' us hs->okHs hs S->(∀h∈hs,qke n h)->Q (.ref p) H'
abbrev qc4:Stmt:=top 80
theorem yd4:FnScope ["_law_d","_law_size","_law_harms_here","_law_k","_law_more"] ["_law_d","_law_size"] (qac qc4):=fsc
theorem ylt(B:Bl mg)(yir:Has P w K mg base 1 "_law_harm" ["_law_d","_law_size"] qjk)(qhw:Has P w K mg base 1 "_law_cells" ["_law_harms_here"] qh5)(F:FnAt K mg "_law_harms" qc4 ["_law_d","_law_size"]):Has P w K mg base 2 "_law_harms" ["_law_d","_law_size"] qie:=by
 refine Has.ofQ F yd4 (λvs H Q E h=>?_) (λ_ _ _ _ _ H vs Q E hr h=>?_)
 ·obtain ⟨D,ds,n,rfl,_⟩:=h
  rfl
 ·obtain ⟨D,ds,n,rfl,hD,hdg,n1,n64,k⟩:=h
  have sc:=yd4
  refine ⟨_,(qag rfl (qad (qsE 2 sc.nd (qat qae))
   (qad (ya8 PassesOwn.never rfl (qf9 (qa8 rfl (B.of rfl) (yaa (yan qam (pv 0) yab) yac))) (pgn 3 sc.nd)
    (qad (qsE 4 sc.nd (qa5 qdb (qab (pv 2)) (qat (yh2 (yal yir hr (ybd (yek qce (qab (pv 0)) (qau (yau ya7 yab (yau qch yab (pv 3)))) (qau (yau ya7 yab (yau qch yab (pv 3))))) (yag (qab (pv 1)) qae))) qae))))
    (yaf (ya9 (qar op_lt (qa1 yah rfl (B.of rfl) boot_len (yh2 (yal qhw hr (yag (qab (pv 4)) qae)) qae)) (qab yab) (yaj _))
     (yaf (qsE 2 sc.nd (qab (pv 4))))
     qa2))))
   (yaf (qao (qab (pv 2))))))),?_⟩
  have z1:1<=sizeLine:=by decide
  obtain ⟨d0,g0,m0,m4⟩:=hdg.get (i:=0) (z:=4) rfl
  obtain ⟨nn,hnn⟩:∃nn:Nat,d0=(nn:Int):=⟨d0.toNat,by omega⟩
  subst hnn
  refine ⟨zero_le _,λp0 hp0=>?_⟩
  generalize hG1:upd H p0 _=H1
  have s1:Same H H1:=by rw[<-hG1];exact (smR H).upd hp0
  have f1:H1 p0=some (.lst []):=by rw[<-hG1];exact qaa
  clear hG1
  refine ⟨_,rfl,D,_,_,_,rfl,rfl,sqlO (s1 _ _ hD),yae 0 (yeg g0),nn,rfl,by omega,by omega,qbl (n:=nn) (λi σ H2=>∃(p:Addr) (us:List V) (hs:List Hm) (S:List Int) (o3 o4:Option V),σ=[some (.ref D),some (.int n),some (.ref p),o3,o4]/\Same H H2/\H p=none/\H2 p=some (.lst us)/\HsV H2 us hs/\hs.length<=i/\okHs hs S/\∀h∈hs,qke n h)
   ⟨p0,[],[],[],_,_,rfl,s1,hp0,f1,⟨rfl,λi v h a b=>by simp at a⟩,by simp,⟨by simp,(λ_ h=>nomatch h),by simp,(λ_ h=>nomatch h)⟩,(λ_ h=>nomatch h)⟩ ?_ ?_⟩
  ·rintro i σ H2 hi ⟨p,us,hs,S,o3,o4,rfl,s2,np,e2,hv,hl,ok,hg⟩
   obtain ⟨dl,q0,q1,q2,q3,q4⟩:=dg_at hdg (i:=i) (by omega)
   have cm5:CMul 5 (0+(i:Int)):=.inl ⟨by decide,by decide⟩
   refine ⟨_,rfl,_,rfl,_,rfl,_,_,rfl,rfl,cm5,_,_,rfl,rfl,((1+5*i:Nat):Int),congrArg V.int (by show (1:Int)+5*(0+(i:Int))=_;omega),_,rfl,_,_,rfl,rfl,cm5,_,_,rfl,rfl,((6+5*i:Nat):Int),congrArg V.int (by show (6:Int)+5*(0+(i:Int))=_;omega),D,_,rfl,sqlO (s2 _ _ hD),λq hq=>?_⟩
   have ecut:cutV (ds.map V.int) (some ((1+5*i:Nat):Int)) (some ((6+5*i:Nat):Int))=[V.int (ds.getD (1+5*i) 0),.int (ds.getD (1+5*i+1) 0),.int (ds.getD (1+5*i+2) 0),.int (ds.getD (1+5*i+3) 0),.int (ds.getD (1+5*i+4) 0)]:=by
    rw[qfw,length_map,dl,show min (6+5*i) 16-min (1+5*i) 16=5 by omega,show min (1+5*i) 16=1+5*i by omega,<-map_drop,<-map_take,take5 (by omega)]
    rfl
   rw[ecut]
   generalize hG3:upd H2 q _=H3
   have s3:Same H2 H3:=by rw[<-hG3];exact (smR H2).upd hq
   have f3:H3 q=some (.lst [V.int (ds.getD (1+5*i) 0),.int (ds.getD (1+5*i+1) 0),.int (ds.getD (1+5*i+2) 0),.int (ds.getD (1+5*i+3) 0),.int (ds.getD (1+5*i+4) 0)]):=by rw[<-hG3];exact qaa
   clear hG3 ecut
   refine ⟨_,rfl,q,_,_,_,_,_,n,rfl,f3,q0,q1,q2,q3.1,q3.2,q4.1,q4.2,n1,n64,λv h H4 s4 hat hgd=>?_⟩
   refine ⟨z1,λb hb=>?_⟩
   generalize hG5:upd H4 b _=H5
   have s5:Same H4 H5:=by rw[<-hG5];exact (smR H4).upd hb
   have f5:H5 b=some (.lst [v]):=by rw[<-hG5];exact qaa
   clear hG5
   have s25:=(s3.trans s4).trans s5
   have hul:=hv.len
   refine ⟨p,b,us,_,rfl,rfl,s25 _ _ e2,f5,ydg (by simp;omega),λp2 hp2=>?_⟩
   generalize hG6:upd H5 p2 _=H6
   have s6:Same H5 H6:=by rw[<-hG6];exact (smR H5).upd hp2
   have f6:H6 p2=some (.lst (us++[v])):=by rw[<-hG6];exact qaa
   clear hG6
   have s26:=s25.trans s6
   have np2:H p2=none:=(s2.trans s25).free hp2
   have hv6:HsV H6 (us++[v]) (hs++[h]):=(hv.same s26).snoc (HAt.same (s5.trans s6) hat)
   have oks6:Oks (hs++[h]):=λg hg'=>by
    rcases mem_append.mp hg' with hg'|hg'
    ·exact ok.ok g hg'
    ·rw[mem_singleton.mp hg'];exact hgd.1
   refine gn ?_
   dsimp only
   refine ⟨_,rfl,p2,_,_,rfl,f6,hv6,oks6,by simp;omega,λDD ns H7 s7 nDD eDD hpm hso=>?_⟩
   refine ⟨DD,_,rfl,.inl (sqlO eDD),_,_,rfl,rfl,_,rfl,?_⟩
   have s27:=s26.trans s7
   by_cases h4:ns.length<4
   ·refine iteB (decide_eq_true (by rw[length_map];omega)) ?_
    refine ⟨_,rfl,p2,us++[v],hs++[h],ns,_,_,rfl,s2.trans s27,np2,s7 _ _ f6,hv6.same s7,by simp;omega,⟨by simp;omega,oks6,by omega,λg hg' c hc=>?_⟩,λg hg'=>?_⟩
    ·exact hpm.mem_iff.mpr ((yg7 _ c).mpr (mem_flatMap.mpr ⟨g,hg',hc⟩))
    ·rcases mem_append.mp hg' with hg'|hg'
     ·exact hg g hg'
     ·rw[mem_singleton.mp hg'];exact hgd
   ·refine iteN (decide_eq_false (by rw[length_map];omega)) ?_
    exact ⟨p,us,hs,S,_,_,rfl,s2.trans s27,np,s27 _ _ e2,hv.same s27,by omega,ok,hg⟩
  ·rintro σ H2 ⟨p,us,hs,S,o3,o4,rfl,s2,np,e2,hv,hl,ok,hg⟩
   exact ⟨_,rfl,k p us hs S H2 s2 np e2 hv ok hg⟩
abbrev Stp:=Bool×Bool
abbrev Elm:=Str×List Stp
def ydo(w:Bool):Str:=if w then "w" else "r"
def ycm(s:Stp):PyData:=.tuple [.str (ydo s.1),.int (b2i s.2)]
def qea(e:Elm):PyData:=.tuple [.str e.1,.list (e.2.map ycm)]
def ygc(T:List Elm):PyData:=.list (T.map qea)
def okO(o:Str):Prop:=o="up"\/o="down"\/o="any"
def okE(e:Elm):Prop:=okO e.1/\1<=e.2.length/\e.2.length<=6
def okT(T:List Elm):Prop:=1<=T.length/\T.length<=8/\∀e∈T,okE e
theorem qir{H:Hp}{v:V}{s:Stp}(h:At H v (ycm s)):∃a,v=.ref a/\H a=some (.tup [.str (ydo s.1),.int (b2i s.2)]):=by
 obtain ⟨a,vs,rfl,h1,h2⟩:=h.tupEq
 cases h2 with
 |cons x r=>
  cases r with
  |cons y r=>
   cases r
   rw[x.strEq,y.intEq]at h1
   exact ⟨a,rfl,h1⟩
theorem yej{H:Hp}{v:V}{e:Elm}(h:At H v (qea e)):∃a l ws,v=.ref a/\H a=some (.tup [.str e.1,.ref l])/\H l=some (.lst ws)/\AtAll H ws (e.2.map ycm):=by
 obtain ⟨a,vs,rfl,h1,h2⟩:=h.tupEq
 cases h2 with
 |cons x r=>
  cases r with
  |cons y r=>
   cases r
   obtain ⟨l,ws,rfl,h3,h4⟩:=y.lstEq
   rw[x.strEq]at h1
   exact ⟨a,l,ws,rfl,h1,h3,h4⟩
theorem qja(b:Bool):inV (.str (ydo b)) [.str "r",.str "w"]=true:=by cases b<;>decide +kernel
theorem ykm{o:Str}(h:okO o):inV (.str o) [.str "up",.str "down",.str "any"]=true:=by
 rcases h with rfl|rfl|rfl<;>decide +kernel
def qeh:Sp:=λvs H Q _=>∃a u v,vs=[.ref a]/\H a=some (.tup [u,v])/\Q (.bl true) H
abbrev yfv:Stmt:=top 17
theorem qgx:FnScope ["thing"] ["thing"] (qac yfv):=fsc
theorem yj4(B:Bl mg)(F:FnAt K mg "is_pair" yfv ["thing"]):Has P w K mg base 1 "is_pair" ["thing"] qeh:=by
 refine Has.of F qgx (λvs H Q E h=>?_) (λ_ _ _ _ _ H vs Q E hr h=>?_)
 ·obtain ⟨a,u,v,rfl,_⟩:=h
  rfl
 ·obtain ⟨a,u,v,rfl,ha,k⟩:=h
  have sc:=qgx
  refine ⟨_,(qaf (qaq (ybe (qak qbd rfl (B.of rfl) boot_isinstance (yaa (pv 0) (yaa (qbr (v:=.ty "tuple") rfl (B.of rfl) boot_tuple rfl) yac))) (yb6 (qa4 ya1 (qak yah rfl (B.of rfl) boot_len (yaa (pv 0) yac)) yab (yaj _)))))),?_⟩
  refine ⟨_,rfl,_,_,_,_,rfl,.tup ha,rfl,_,rfl,iteT ?_⟩
  exact ⟨_,rfl,a,_,rfl,.inr (sqtO ha),rfl,k⟩
def qc3:Sp:=λvs H Q _=>∃a xs n,vs=[.ref a,.int n]/\H a=some (.lst xs)/\0<xs.length/\(xs.length:Int)<=n/\Q (.bl true) H
abbrev ydm:Stmt:=top 18
theorem qeq:FnScope ["thing","most"] ["thing","most"] (qac ydm):=fsc
theorem qh8(B:Bl mg)(F:FnAt K mg "is_filled" ydm ["thing","most"]):Has P w K mg base 1 "is_filled" ["thing","most"] qc3:=by
 refine Has.of F qeq (λvs H Q E h=>?_) (λ_ _ _ _ _ H vs Q E hr h=>?_)
 ·obtain ⟨a,xs,n,rfl,_⟩:=h
  rfl
 ·obtain ⟨a,xs,n,rfl,ha,h1,h2,k⟩:=h
  have sc:=qeq
  refine ⟨_,(qaf (qaq (ybe (qak qbd rfl (B.of rfl) boot_isinstance (yaa (pv 0) (yaa (qbr (v:=.ty "list") rfl (B.of rfl) boot_list rfl) yac))) (ybe (qa4 yi8 (qak yah rfl (B.of rfl) boot_len (yaa (pv 0) yac)) yab (yaj _)) (yb6 (qa4 op_le (qak yah rfl (B.of rfl) boot_len (yaa (pv 0) yac)) (pv 1) (yaj _))))))),?_⟩
  refine ⟨_,rfl,_,_,_,_,rfl,.lst ha,rfl,_,rfl,iteT ?_⟩
  refine ⟨_,rfl,a,_,rfl,.inl (sqlO ha),_,_,rfl,rfl,_,rfl,iteD (by omega) ?_⟩
  refine ⟨_,rfl,a,_,rfl,.inl (sqlO ha),_,rfl,_,_,rfl,rfl,?_⟩
  show Q (.bl (decide ((xs.length:Int)<=n))) H
  rw[decide_eq_true h2]
  exact k
def ygk:Sp:=λvs H Q _=>∃v s,vs=[v]/\At H v (ycm s)/\∀H',Same H H'->Q (.bl true) H'
abbrev qfv:Stmt:=top 19
theorem ygt:FnScope ["thing"] ["thing"] (qac qfv):=fsc
theorem qj2(yfl:GTup K mg "LETTERS" [.str "r",.str "w"])(yf6:Has P w K mg base 1 "is_pair" ["thing"] qeh)(qbj:Has P w K mg base 1 "is_one_of" ["thing","words"] (ybv K))
  (ycl:Has P w K mg base 2 "is_bit" ["thing"] qcz) (F:FnAt K mg "is_step" qfv ["thing"]):Has P w K mg base 3 "is_step" ["thing"] ygk:=by
 refine Has.of F ygt (λvs H Q E h=>?_) (λ_ _ _ _ _ H vs Q E hr h=>?_)
 ·obtain ⟨v,s,rfl,_⟩:=h
  rfl
 ·obtain ⟨v,⟨sw,sb⟩,rfl,hv,k⟩:=h
  obtain ⟨a,rfl,ha⟩:=qir hv
  have sc:=ygt
  refine ⟨_,(qaf (qaq (ybe (yai yf6 hr (yaa (pv 0) yac)) (ybe (yai qbj hr (yaa (yan qai (pv 0) yab) (yaa (qha yfl) yac))) (yb6 (yai ycl hr (yaa (yan qai (pv 0) yab) yac))))))),?_⟩
  refine ⟨_,rfl,a,_,_,rfl,ha,_,rfl,iteT ?_⟩
  refine ⟨_,rfl,a,_,_,_,rfl,rfl,sqtO ha,rfl,λaL hL=>⟨ydo sw,aL,_,rfl,hL,rfl,_,rfl,iteB (qja sw) ?_⟩⟩
  exact ⟨_,rfl,a,_,_,_,rfl,rfl,sqtO ha,rfl,sb,rfl,k⟩
def ye1:Sp:=λvs H Q _=>∃v e,vs=[v]/\At H v (qea e)/\okE e/\Q (.bl true) H
abbrev ydq:Stmt:=top 20
theorem qer:FnScope ["thing"] ["thing"] (qac ydq):=fsc
theorem qim(qg8:GTup K mg "ORDERS" [.str "up",.str "down",.str "any"])(qej:∃t,mg "MOST_IN_ELEMENT"=some (.int 6 t))(yf6:Has P w K mg base 1 "is_pair" ["thing"] qeh)
  (qbj:Has P w K mg base 1 "is_one_of" ["thing","words"] (ybv K)) (ydv:Has P w K mg base 1 "is_filled" ["thing","most"] qc3) (F:FnAt K mg "is_framed" ydq ["thing"]):Has P w K mg base 2 "is_framed" ["thing"] ye1:=by
 refine Has.of F qer (λvs H Q E h=>?_) (λ_ _ _ _ _ H vs Q E hr h=>?_)
 ·obtain ⟨v,s,rfl,_⟩:=h
  rfl
 ·obtain ⟨v,e,rfl,hv,⟨h1,h2,h3⟩,k⟩:=h
  obtain ⟨a,l,ws,rfl,ha,hl,hw⟩:=yej hv
  have hlen:=hw.length
  rw[length_map]at hlen
  have sc:=qer
  refine ⟨_,(qaf (qaq (ybe (yai yf6 hr (yaa (pv 0) yac)) (ybe (yai qbj hr (yaa (yan qai (pv 0) yab) (yaa (qha qg8) yac))) (yb6 (yai ydv hr (yaa (yan qai (pv 0) yab) (yaa (yed qej) yac)))))))),?_⟩
  refine ⟨_,rfl,a,_,_,rfl,ha,_,rfl,iteT ?_⟩
  refine ⟨_,rfl,a,_,_,_,rfl,rfl,sqtO ha,rfl,λaL hL=>⟨e.1,aL,_,rfl,hL,rfl,_,rfl,iteB (ykm h1) ?_⟩⟩
  exact ⟨_,rfl,a,_,_,_,rfl,rfl,sqtO ha,rfl,l,ws,6,rfl,hl,by omega,by omega,k⟩
def qb9:Sp:=λvs H Q _=>∃n v e,vs=[.int n,v]/\At H v (qea e)/\okE e/\∀H',Same H H'->Q .non H'
abbrev qbq:Stmt:=top 21
theorem qb8:FnScope ["number","thing","place","step"] ["number","thing"] (qac qbq):=fsc
theorem qd3(B:Bl mg)(yi9:Has P w K mg base 2 "is_framed" ["thing"] ye1)(ql8:Has P w K mg base 3 "is_step" ["thing"] ygk)(F:FnAt K mg "look_at_element" qbq ["number","thing"]) :
  Has P w K mg base 4 "look_at_element" ["number","thing"] qb9:=by
 refine Has.of F qb8 (λvs H Q E h=>?_) (λ_ _ _ _ _ H vs Q E hr h=>?_)
 ·obtain ⟨n,v,s,rfl,_⟩:=h
  rfl
 ·obtain ⟨n,v,e,rfl,hv,he,k⟩:=h
  obtain ⟨a,l,ws,rfl,ha,hl,hw⟩:=yej hv
  have sc:=qb8
  refine ⟨_,(qaj (ybj (yc5 (qca (yai yi9 hr (yaa (pv 1) yac))))
    (qaf qbh)
    yar)
   (qaf (yby PassesOwn.never rfl (qfl rfl (B.of rfl) (yaa (yan qai (pv 1) yab) yac)) (qck rfl (qan (pgn 2 sc.nd) (qan (pgn 3 sc.nd) ybi)))
    (qaf (ybj (yc5 (qca (yai ql8 hr (yaa (pv 3) yac))))
     (qaf qbh)
     yar))))),?_⟩
  refine ⟨_,rfl,_,e,rfl,hv,he,true,rfl,iteF ?_⟩
  refine ⟨_,rfl,a,_,_,_,rfl,rfl,sqtO ha,rfl,l,ws,rfl,sqlO hl,qd9 (xs:=ws) (λi σ H2=>∃p q,σ=[some (.int n),some (.ref a),p,q]/\Same H H2) ⟨none,none,rfl,smR _⟩
   (λi σ H2 _ ⟨_,_,_,s2⟩=>sqlO (s2 _ _ hl)) ?_ (λσ H2 ⟨_,_,_,s2⟩=>k H2 s2)⟩
  rintro i x p σ H2 hx ⟨_,_,rfl,s2⟩ hp
  obtain ⟨d,hd,hat⟩:=hw.get hx
  rw[getElem?_map]at hd
  cases es:e.2[i]? with
  |none=>rw[es]at hd;cases hd
  |some st=>
   rw[es]at hd
   cases hd
   have s3:Same H (upd H2 p (.tup [.int i,x])):=s2.upd hp
   refine ⟨p,_,rfl,sqtO qaa,rfl,_,_,rfl,_,_,rfl,rfl,?_⟩
   refine ⟨_,rfl,x,st,rfl,hat.same s3,λH3 s4=>⟨true,rfl,iteF ⟨_,_,rfl,s3.trans s4⟩⟩⟩
def qc8:Sp:=λvs H Q _=>∃v T,vs=[v]/\At H v (ygc T)/\okT T/\∀H',Same H H'->Q .non H'
abbrev ycd:Stmt:=top 22
theorem yc4:FnScope ["thing","number","element"] ["thing"] (qac ycd):=fsc
theorem yf7(B:Bl mg)(qgd:∃t,mg "MOST_IN_TEST"=some (.int 8 t))(ydv:Has P w K mg base 1 "is_filled" ["thing","most"] qc3)(qel:Has P w K mg base 4 "look_at_element" ["number","thing"] qb9)
  (F:FnAt K mg "look_at_test" ycd ["thing"]):Has P w K mg base 5 "look_at_test" ["thing"] qc8:=by
 refine Has.of F yc4 (λvs H Q E h=>?_) (λ_ _ _ _ _ H vs Q E hr h=>?_)
 ·obtain ⟨v,s,rfl,_⟩:=h
  rfl
 ·obtain ⟨v,T,rfl,hv,⟨h1,h2,h3⟩,k⟩:=h
  obtain ⟨l,ws,rfl,hl,hw⟩:=hv.lstEq
  have hlen:=hw.length
  rw[length_map]at hlen
  have sc:=yc4
  refine ⟨_,(qaj (ybj (yc5 (qca (yai ydv hr (yaa (pv 0) (yaa (yed qgd) yac)))))
    (qaf qbh)
    yar)
   (qaf (yby PassesOwn.never rfl (qfl rfl (B.of rfl) (yaa (pv 0) yac)) (qck rfl (qan (pgn 1 sc.nd) (qan (pgn 2 sc.nd) ybi)))
    (qaf (qbi (yai qel hr (yaa (pv 1) (yaa (pv 2) yac)))))))),?_⟩
  refine ⟨_,rfl,l,ws,8,rfl,hl,by omega,by omega,true,rfl,iteF ?_⟩
  refine ⟨_,rfl,l,ws,rfl,sqlO hl,qd9 (xs:=ws) (λi σ H2=>∃p q,σ=[some (.ref l),p,q]/\Same H H2) ⟨none,none,rfl,smR _⟩
   (λi σ H2 _ ⟨_,_,_,s2⟩=>sqlO (s2 _ _ hl)) ?_ (λσ H2 ⟨_,_,_,s2⟩=>k H2 s2)⟩
  rintro i x p σ H2 hx ⟨_,_,rfl,s2⟩ hp
  obtain ⟨d,hd,hat⟩:=hw.get hx
  rw[getElem?_map]at hd
  cases es:T[i]? with
  |none=>rw[es]at hd;cases hd
  |some e=>
   rw[es]at hd
   cases hd
   have s3:Same H (upd H2 p (.tup [.int i,x])):=s2.upd hp
   refine ⟨p,_,rfl,sqtO qaa,rfl,_,_,rfl,_,_,rfl,rfl,?_⟩
   exact ⟨_,rfl,_,rfl,_,x,e,rfl,hat.same s3,h3 e (mem_of_getElem? es),λH3 s4=>⟨_,_,rfl,s3.trans s4⟩⟩
def okU(o:Str):Prop:=o="up"\/o="down"
structure OrdOk(T:List Elm)(os:List Str):Prop where
 len:os.length=T.length
 at_:∀(i:Nat) e o,T[i]?=some e->os[i]?=some o->okU o/\(e.1="any"\/e.1=o)
theorem yl5{o:Str}(h:okU o):inV (.str o) [.str "up",.str "down"]=true:=by
 rcases h with rfl|rfl<;>decide +kernel
theorem in_any{a o:Str}(h:a="any"\/a=o):inV (.str a) [.str "any",.str o]=true:=by
 rw[in2]
 exact decide_eq_true h
def qc0:Sp:=λvs H Q _=>∃v e o,vs=[v,.str o]/\At H v (qea e)/\okU o/\(e.1="any"\/e.1=o)/\∀H',Same H H'->Q (.bl true) H'
abbrev qcf:Stmt:=top 58
theorem ycy:FnScope ["element","thing"] ["element","thing"] (qac qcf):=fsc
theorem qfs(qi8:GTup K mg "TAKEN" [.str "up",.str "down"])(qbj:Has P w K mg base 1 "is_one_of" ["thing","words"] (ybv K))(F:FnAt K mg "is_order_for" qcf ["element","thing"]):Has P w K mg base 2 "is_order_for" ["element","thing"] qc0:=by
 refine Has.of F ycy (λvs H Q E h=>?_) (λ_ _ _ _ _ H vs Q E hr h=>?_)
 ·obtain ⟨v,e,o,rfl,_⟩:=h
  rfl
 ·obtain ⟨v,e,o,rfl,hv,ho,he,k⟩:=h
  obtain ⟨a,l,ws,rfl,ha,hl,hw⟩:=yej hv
  have sc:=ycy
  refine ⟨_,(qaf (qaq (ybe (yai qbj hr (yaa (pv 1) (yaa (qha qi8) yac))) (yb6 (qa4 ybg (yan qai (pv 0) yab) (ybn (yaa yak (yaa (pv 1) yac))) (by with_unfolding_all rfl)))))),?_⟩
  refine ⟨_,rfl,λaT hT=>⟨o,aT,_,rfl,hT,rfl,_,rfl,iteB (yl5 ho) ?_⟩⟩
  refine ⟨_,rfl,a,_,_,_,rfl,rfl,sqtO ha,yae 0 rfl,_,rfl,zl,λp hp=>⟨p,_,rfl,.inr (sqtO qaa),rfl,rfl,?_⟩⟩
  show Q (.bl (inV (.str e.1) [.str "any",.str o])) _
  rw[in_any he]
  exact k _ ((smR H).upd hp)
def yea:Sp:=λvs H Q _=>∃t O T os,vs=[.ref t,.ref O]/\At H (.ref t) (ygc T)/\okT T/\H O=some (.lst (os.map V.str))/\OrdOk T os/\∀H',Same H H'->Q (.bl true) H'
abbrev yda:Stmt:=top 59
theorem yd1:FnScope ["test","thing"] ["test","thing"] (qac yda):=fsc
theorem qhk(B:Bl mg)(yep:mg "zip"=none)(ye5:mg "all"=none)(qge:Has P w K mg base 2 "is_order_for" ["element","thing"] qc0)(F:FnAt K mg "are_orders" yda ["test","thing"]):Has P w K mg base 3 "are_orders" ["test","thing"] yea:=by
 refine Has.of F yd1 (λvs H Q E h=>?_) (λ_ _ _ _ _ H vs Q E hr h=>?_)
 ·obtain ⟨t,O,T,os,rfl,_⟩:=h
  rfl
 ·obtain ⟨t,O,T,os,rfl,ht,okt,hO,oo,k⟩:=h
  obtain ⟨l,ws,hre,hl,hw⟩:=ht.lstEq
  cases hre
  have hwl:ws.length=T.length:=by have:=hw.length;rw[length_map]at this;exact this
  have hT8:=okt.2.1
  have sc:=yd1
  refine ⟨_,(qaj (ybj (PW.pt (pw_or (yc5 (qca (qak qbd rfl (B.of rfl) boot_isinstance (yaa (pv 1) (yaa (qbr (v:=.ty "list") rfl (B.of rfl) boot_list rfl) yac))))) (qjm (yam yiq (qak yah rfl (B.of rfl) boot_len (yaa (pv 1) yac)) (qak yah rfl (B.of rfl) boot_len (yaa (pv 0) yac)) (yaj _)))))
    (qaf (qaq yjc))
    yar)
   (qaf (qaq (qak (qd0 rfl) rfl ye5 qd7 (yaa (qbv rfl (yaw rfl) (M:=["element","order"]) (ix:=[none,none]) (yhq rfl yep (yaa (pv 0) (yaa (pv 1) yac))) (λ_ _ _ _=>(qip (K:=K) (n:=2) rfl rfl (qan (yav (i:=0) (show List.Nodup (["element","order"]:List Str) by decide +kernel) rfl (Or.inl rfl)) (qan (yav (i:=1) (show List.Nodup (["element","order"]:List Str) by decide +kernel) rfl (Or.inl rfl)) ybi)))) (λ_ _ _ _=>qcr) (λ_ _ _ _=>(yai qge hr (yaa (pv 0) (yaa (pv 1) yac))))) yac))))),?_⟩
  refine ⟨_,rfl,_,_,_,_,rfl,.lst hO,rfl,_,rfl,iteF ?_⟩
  refine ⟨_,rfl,O,_,rfl,.inl (sqlO hO),_,rfl,t,_,rfl,.inl (sqlO hl),rfl,_,rfl,iteN (by rw[length_map,oo.len,hwl];simp) ?_⟩
  refine ⟨_,rfl,_,rfl,false,false,t,O,ws,os.map V.str,rfl,sqlO hl,sqlO hO,λD hD=>?_⟩
  refine yhf (K:=K) (xs:=ws) (ys:=os.map V.str) (by rw[length_map,oo.len];exact hwl) (λi H'=>Same H H'/\H' D=some (.lst ((List.replicate i true).map V.bl))) ⟨(smR H).upd hD,qaa⟩ ?_ ?_ ?_
  ·rintro i H2 ⟨s2,e2⟩
   exact ⟨sqlO (s2 _ _ hl),sqlO (s2 _ _ hO)⟩
  ·rintro H2 ⟨s2,e2⟩
   refine ⟨D,_,rfl,e2,?_⟩
   rw[show (List.replicate ws.length true).all id=true by simp]
   exact k _ s2
  ·rintro i x y p H2 hx hy ⟨s2,e2⟩ hp
   obtain ⟨d,hd,hat⟩:=hw.get hx
   obtain ⟨e,he,rfl⟩:=qaz hd
   obtain ⟨o,ho,rfl⟩:=qaz hy
   obtain ⟨ou,oe⟩:=oo.at_ i e o he ho
   refine ⟨p,_,rfl,sqtO qaa,rfl,?_⟩
   refine ⟨_,_,rfl,_,_,rfl,rfl,qaw.set (qaw.set (qaw.refl _) rfl) rfl,yes ?_⟩
   have s3:=s2.upd (o:=.tup [x,.str o]) hp
   refine ⟨_,rfl,_,rfl,x,e,o,rfl,hat.same s3,ou,oe,λH3 s4=>?_⟩
   have s23:Same H2 H3:=((smR H2).upd hp).trans s4
   have hi:=(List.getElem?_eq_some_iff.mp hx).1
   refine ⟨_,s23 _ _ e2,qbb (by rw[length_map,length_replicate];omega),(s2.trans s23).at hD,?_⟩
   rw[qaa,List.replicate_succ',map_append];rfl
end
end Mh
namespace L2
open PySem PySem.Spec PyProof.Rows
section
variable {X:Cx}{pins:List (Addr×Obj)}{σ:St}{H:Hp}{s:Shared}{a:Addr}{kvs:List (List Key×V)}
theorem KT.at_{xs:List (List Key×Addr×Value)}(r:KT H kvs xs):∀{i:Nat},i<kvs.length->∃k v b u,kvs[i]?=some (k,v)/\xs[i]?=some (k,b,u)/\H b=some (.tup (k.map kV)):=by
 induction r with
 |nil=>intro i h;exact absurd h (not_lt_zero _)
 |@cons p q l1 l2 h _ ih=>
  intro i hi
  cases i with
  |zero=>exact ⟨p.1,p.2,q.2.1,q.2.2,rfl,by rw[h.1];rfl,h.2.1⟩
  |succ i=>exact ih (i:=i) (by simpa using hi)
end
end L2
namespace L2
open PySem PySem.Spec PyProof.Rows PySem.W
section
variable {prog:Program}{w:World}{A:Around}{E:Value->Shared->Prop}{s:Shared}
theorem rev_hint{r:Addr}{Q:Bool->Shared->Prop}(hT:s.TypeIs (.ref r) "list_reverseiterator")(h:Q false s):wpAny (model prog w) A (Builtin.List.listLengthHint (.ref r)) Q E s:=by
 unfold Builtin.List.listLengthHint
 refine wpAny_bind (wpAny_specialOf hT (r:=none) (by rw[typeLookup_type,builtinLookup_eq_fast];kernel_rfl) ?_)
 refine wpAny_ite_split (λhab=>absurd hab (by decide)) (λ_=>?_)
 refine wpAny_ite_split (λhab=>absurd hab (by decide)) (λ_=>?_)
 refine wpAny_bind (wpAny_specialOf hT (r:=some (.builtin "list_reverseiterator.__length_hint__")) (by rw[typeLookup_type,builtinLookup_eq_fast];kernel_rfl) ?_)
 generalize hid:("list_reverseiterator.__length_hint__" : String)=id0
 wp_delta
 rw[show splitId id0=some ("list_reverseiterator","__length_hint__") from by subst hid;decide +kernel]
 subst hid
 refine wpAny_bind (wpAny_isInstance (T:="list_reverseiterator") (b:=true) hT (by rw[isSubtype_type];kernel_rfl) ?_)
 refine wpAny_ite_split (λhab=>absurd hab (by decide)) (λ_=>?_)
 refine wpAny_ite_split (λ_=>?_) (λhab=>absurd (by decide +kernel) hab)
 refine wpAny_ite_split (λhab=>absurd hab (by decide +kernel)) (λ_=>?_)
 exact wpAny_pure h
theorem rev_call{r l:Addr}{items:Array Value}{Q:Value->Shared->Prop}(hh:A.handled=none)(hit:s.heap.IsRevIter r l ((items.size:Int)-1))(hl:s.heap.IsList l items)(hne:l≠r)(hn:items.size<=sizeLine)
  (hQ:∀h' tk acc' c',(∀b o,b≠r->s.heap.get? b=some o->h'.get? b=some o)->h'.get? s.heap.objs.size=some { cls:=.type "list",dict:=none,data:=.seq acc' c',slots:=#[] }->ItemsOf (λi v=>items[items.size-1-i]?=some v) acc' items.size->Q (.ref s.heap.objs.size) { s with heap:=h',toks:=tk }) :
  wpAny (model prog w) A (call (.type "list") [.ref r]) Q E s:=by
 refine callType_codes (Q₁:=λobj s₁=>obj=.ref s.heap.objs.size/\s₁={ s with heap:=s.heap.push { cls:=.type "list",data:=.seq #[] } }) PySem.F.called_list (PySem.F.typeCall_list_1 _) PySem.F.entry_list_init
  (code_list_new _ ⟨rfl,rfl⟩) λobj s₁ h₁=>?_
 obtain ⟨rfl,rfl⟩:=h₁
 generalize hS0:s.heap.objs.size=S at *
 have hS:(s.heap.push { cls:=.type "list",data:=.seq #[] }).get? S=some { cls:=.type "list",data:=.seq #[] }:=by rw[<-hS0];exact get?_push_size _ rfl
 have old:∀b o,s.heap.get? b=some o->(s.heap.push { cls:=.type "list",data:=.seq #[] }).get? b=some o:=λb o e=>get?_push_of_some _ e
 obtain ⟨ro,hro,hrc,hrd⟩:=hit
 obtain ⟨lo,hlo,hlc⟩:=hl
 have rS:S≠r:=by rw[<-hS0];exact ne_of_gt (lt_size hro)
 have lS:S≠l:=by rw[<-hS0];exact ne_of_gt (lt_size hlo)
 refine ⟨⟨_,hS,rfl⟩,PySem.F.args_list_init_2 _ _,?_⟩
 show wpAny _ _ (do let old <-Builtin.List.listItems (.ref S);Builtin.List.listUpdate (.ref S) (λ_=>#[]);letGo old.toList.reverse;Builtin.List.listExtendWith (.ref S) (.ref r) .none) _ _ _
 refine wpAny_bind ?_
 unfold Builtin.List.listItems
 refine wpAny_bind (wpAny_seqItems hS rfl (wpAny_pure ?_))
 show wpAny _ _ (updateSeq S (λ_=>#[]) >>= λ_=>letGo (#[]:Array Value).toList.reverse >>= λ_=>Builtin.List.listExtendWith (.ref S) (.ref r) .none) _ _ _
 refine wpAny_bind (wpAny_updateSeq hS rfl ?_)
 have hS₂:=get?_update_self (Obj.mapSeq (λ_=>(#[]:Array Value))) hS rfl
 have oth:∀b o,b≠S->(s.heap.push { cls:=.type "list",data:=.seq #[] }).get? b=some o->((s.heap.push { cls:=.type "list",data:=.seq #[] }).update S (Obj.mapSeq (λ_=>(#[]:Array Value)))).get? b=some o:=
  λb o hb e=>(Heap.get?_update_other _ _ (Ne.symm hb)).trans e
 refine wpAny_bind (wpAny_letGo ?_)
 revert hS₂ oth
 generalize (s.heap.push { cls:=.type "list",data:=.seq #[] }).update S (Obj.mapSeq (λ_=>(#[]:Array Value)))=h2
 intro hS₂ oth
 have hr2:=oth r ro rS.symm (old _ _ hro)
 have hl2:=oth l lo lS.symm (old _ _ hlo)
 have hit2:h2.IsRevIter r l ((items.size:Int)-1):=⟨ro,hr2,hrc,hrd⟩
 unfold Builtin.List.listExtendWith
 refine wpAny_bind (wpAny_typeOf (T:="list_reverseiterator") ⟨ro,hr2,hrc⟩ ?_)
 have h1:Builtin.List.listSameRef (.ref S) (.ref r)=false:=by simp[Builtin.List.listSameRef,rS]
 simp only[h1,show (Value.type "list_reverseiterator" == Value.type "list")=false from by decide,show (Value.type "list_reverseiterator" == Value.type "tuple")=false from by decide,Bool.or_false,Bool.false_eq_true,if_false]
 refine wpAny_bind (wpAny_pyIter_revIter (s:={ s with heap:=h2 }) hit2 ?_)
 refine wpAny_bind (wpAny_holding (rev_hint ⟨ro,hr2,hrc⟩ ?_))
 refine wpAny_ite_split (λhab=>absurd hab (by decide +kernel)) (λ_=>wpAny_pure ⟨plainId_quiet PySem.F.plain_extend_loop _,?_⟩)
 have W:=Walks.listRev (prog:=prog) (w:=w) (A:=A.in1.in1) (by simpa using hh) r l hne items
 refine codeAny_extend_loopS W.toS hn S (by simp[rS,lS]) .none items.size 0 _ #[] _ rfl (zero_le _) ⟨zero_le _,by simpa using hit2,lo,hl2,hlc⟩ hS₂ (ItemsOf.nil _) λs' acc' c' hm hS' hacc=>?_
 rw[Moved.eq_with hm]
 refine ⟨rfl,hQ s'.heap s'.toks acc' c' (λb o hb e=>hm.heap b o (λhmem=>?_) (oth b o (by rw[<-hS0];exact ne_of_lt (lt_size e)) (old b o e))) hS' hacc⟩
 rcases mem_cons.mp hmem with e'|hmem
 ·rw[e',<-hS0]at e;exact lt_irrefl _ (lt_size e)
 ·exact hb (mem_singleton.mp hmem)
end
theorem ylw{items acc:Array Value}(h:ItemsOf (λi v=>items[items.size-1-i]?=some v) acc items.size):acc.toList=items.toList.reverse:=by
 apply List.ext_getElem?
 intro i
 by_cases hi:i<items.size
 ·have ha:i<acc.size:=by rw[h.1];exact hi
  have:=h.2 i acc[i] (Array.getElem?_eq_getElem ha)
  rw[List.getElem?_reverse (by simpa using hi),getElem?_toList,getElem?_toList,length_toList,this]
  exact Array.getElem?_eq_getElem ha
 ·rw[getElem?_eq_none (by rw[length_toList,h.1];omega),getElem?_eq_none (by rw[List.length_reverse,length_toList];omega)]
section
variable {X:Cx}
def tLRev(K:W.Frag)(ta:TA):TE:=λσ H Q=>ta σ H λvs H1=>∃(l:Addr) (xs:List V),vs=[.ref l]/\SqL K H1 l xs/\∀p,H1 p=none->Q (.ref p) (upd H1 p (.lst xs.reverse))
theorem qj5{a:Expr}{ta:TA}{p p2 pos pos2:Pos}(hh:X.A.handled=none)(hgl:Gl X "list")(hml:X.mg "list"=none)(hgr:Gl X "reversed")(hmr:X.mg "reversed"=none)(ha:PA X [a] ta)
  (hs:starEach [a] X.env=[(false,eval a X.env)]:=by rfl)
  (hs2:starEach [.Call (.Name "reversed" p2) [a] [] pos2] X.env=[(false,eval (.Call (.Name "reversed" p2) [a] [] pos2) X.env)]:=by rfl) :
  PE X (.Call (.Name "list" p) [.Call (.Name "reversed" p2) [a] [] pos2] [] pos) (tLRev X.K ta):=by
 intro pins s σ H Q I h
 refine Call_ (qc6 I hgl hml boot_list (PyProof.Rows.callWith_type1 ?_ hs2 rfl))
 rw[hs2]
 show wpAny _ _ (spliced ((false,eval (.Call (.Name "reversed" p2) [a] [] pos2) X.env)::backTo pos (starEach [] X.env))) _ _ s
 refine Calls.spliced_cons ?_
 refine Call_ (qc6 I hgr hmr boot_reversed (PyProof.Rows.callWith_type1 (thn (ha pos2 pins s σ H _ I h) λus s1 ⟨vs,H1,I1,r1,q1⟩=>?_) hs rfl))
 obtain ⟨l,xs,e,hl,q⟩:=q1
 subst e
 obtain ⟨u,rfl,r⟩:=yhb r1
 cases r
 obtain ⟨its,rv,il,hz⟩:=I1.list hl
 refine call_reversed_list il.isList ?_
 refine Calls.spliced_nil ?_
 have I2:Inv X pins σ H1 { s1 with heap:=s1.heap.push (revObj l ((its.toArray.size:Int)-1)) }:=I1.kept (t':=s1.toks) λb o e=>get?_push_of_some _ e
 obtain ⟨lo,hlo,hlr⟩:=id il.isList
 have lt:l<s1.heap.objs.size:=lt_size hlo
 have fr:H1 s1.heap.objs.size=none:=I1.hok.fresh (le_refl _)
 refine rev_call (s:={ s1 with heap:=s1.heap.push (revObj l ((its.toArray.size:Int)-1)) }) (r:=s1.heap.objs.size) (l:=l) (items:=its.toArray) hh ⟨_,get?_push_size _ rfl,rfl,rfl⟩ ⟨lo,get?_push_of_some _ hlo,hlr⟩ (ne_of_lt lt) (by have:=rv.length;simp;omega) λh' tk acc' c' kp e hi=>?_
 have ea:=ylw hi
 have hzz:(s1.heap.push (revObj l ((its.toArray.size:Int)-1))).objs.size=s1.heap.objs.size+1:=size_push ..
 have I3:=I1.laid (a:=(s1.heap.push (revObj l ((its.toArray.size:Int)-1))).objs.size) (h':=h') (o:=.lst xs.reverse) (t':=tk) (λb o g=>kp b o (ne_of_lt (lt_size g)) (get?_push_of_some _ g)) (by rw[hzz];exact le_succ _)
  (show qbf X.prog X.w _ h' _ (.lst xs.reverse) from ⟨by rw[List.length_reverse];have:=rv.length;omega,acc'.toList,c',by rw[ea];simpa using rv.rev,by simpa using e⟩)
 exact ⟨.ref _,_,I3,rfl,q _ (I1.hok.fresh (by rw[hzz];exact le_succ _))⟩
end
end L2
namespace Mh
open PySem L2 PyProof.Rows Mx
def ygf(n:Nat):List Int:=(List.range n).map Int.ofNat
def qdx(wd i k:Nat):List Int:=(List.range (min wd (i-k*wd))).map λb=>((k*wd+b:Nat):Int)
def yhs(wd k:Nat):List Int:=(List.range wd).map λb=>((k*wd+b:Nat):Int)
def kvO:Nat->List Addr->List (Key×V)
 |_,[]=>[]
 |o,r::rs=>((Sum.inl (o:Int):Key),V.ref r)::kvO (o+1) rs
theorem qhl:∀(rs:List Addr) (o q:Nat),valV (kvO o rs) (Sum.inl ((o+q:Nat):Int))=rs[q]?.map V.ref
 |[],_,_=>rfl
 |r::rs,o,0=>qfa (p:=((Sum.inl (o:Int):Key),V.ref r)) rfl
 |r::rs,o,q+1=>by
  have:=qhl rs (o+1) q
  rw[show o+1+q=o+(q+1) by omega]at this
  rw[List.getElem?_cons_succ,<-this]
  exact ye9 (p:=((Sum.inl (o:Int):Key),V.ref r)) λz=>by have:=Sum.inl.inj z;omega
theorem yjg:∀(rs:List Addr) (o:Nat) (r:Addr),kvO o rs++[((Sum.inl ((o+rs.length:Nat):Int):Key),V.ref r)]=kvO o (rs++[r])
 |[],o,r=>rfl
 |x::rs,o,r=>by
  have:=yjg rs (o+1) r
  rw[show o+1+rs.length=o+(x::rs).length by rw[length_cons];omega]at this
  rw[List.cons_append]
  show _=_::kvO (o+1) (rs++[r])
  rw[<-this]
  rfl
theorem ylh:∀(rs:List Addr) (o:Nat),(kvO o rs).map (·.2)=rs.map V.ref
 |[],_=>rfl
 |r::rs,o=>by rw[map_cons,<-ylh rs (o+1)];rfl
theorem qk5:∀(rs:List Addr) (o:Nat),(kvO o rs).length=rs.length
 |[],_=>rfl
 |r::rs,o=>by rw[length_cons,<-qk5 rs (o+1)];rfl
theorem qkg(n:Nat)(f:Nat->Int):(List.range (n+1)).map f=(List.range n).map f++[f n]:=by rw[List.range_succ,map_append];rfl
theorem qil{wd i k q:Nat}(h:k≠q)(hq:q*wd<=i)(hq2:i<(q+1)*wd)(hk:k*wd<i):qdx wd (i+1) k=qdx wd i k:=by
 have:k<q:=by
  refine Nat.lt_of_le_of_ne (le_of_not_lt λz=>?_) h
  have:=mul_le_mul_right wd (show q+1<=k from z)
  omega
 have:=mul_le_mul_right wd (show k+1<=q from this)
 rw[add_mul,one_mul]at this
 unfold qdx
 rw[min_eq_left (by omega),min_eq_left (by omega)]
theorem qhs{wd i q:Nat}(hq:q*wd<=i)(hq2:i<(q+1)*wd):qdx wd (i+1) q=qdx wd i q++[(i:Int)]:=by
 rw[add_mul,one_mul]at hq2
 unfold qdx
 rw[Nat.min_eq_right (by omega),Nat.min_eq_right (by omega),show i+1-q*wd=(i-q*wd)+1 by omega,qkg,show q*wd+(i-q*wd)=i by omega]
theorem part_all{wd W k:Nat}(h:k<W):qdx wd (W*wd) k=yhs wd k:=by
 have:=mul_le_mul_right wd (show k+1<=W from h)
 rw[add_mul,one_mul]at this
 unfold qdx yhs
 rw[min_eq_left (by omega)]
theorem part_len{wd i k:Nat}:(qdx wd i k).length<=wd:=by unfold qdx;rw[length_map,length_range];omega
section
variable {P:Program}{w:World}{K:W.Frag}{mg:Str->Option Value}{base:Heap}
def qh7:Sp:=λvs H Q _=>∃(C:Addr) (W wd:Nat),vs=[.ref C,.int (wd:Nat)]/\H C=some (.lst ((ygf (W*wd)).map V.int))/\1<=wd/\wd<=4/\W<=16/\
 ∀(D:Addr) (rs:List Addr) (H':Hp),Same H H'->H D=none->H' D=some (.lst (rs.map V.ref))->rs.length=W->(∀k r,rs[k]?=some r->H' r=some (.lst ((yhs wd k).map V.int))/\H r=none/\r≠D)->Q (.ref D) H'
abbrev qby:Stmt:=top 61
theorem ych:FnScope ["cells","width","found","place","cell"] ["cells","width"] (qac qby):=fsc
theorem ql6(B:Bl mg)(F:FnAt K mg "places_by_word" qby ["cells","width"]):Has P w K mg base 1 "places_by_word" ["cells","width"] qh7:=by
 refine Has.ofQ F ych (λvs H Q E h=>?_) (λ_ _ _ _ _ H vs Q E hr h=>?_)
 ·obtain ⟨C,W,wd,rfl,_⟩:=h
  rfl
 ·obtain ⟨C,W,wd,rfl,hC,w1,w4,hW,k⟩:=h
  have sc:=ych
  refine cutA [1] ⟨_,qag rfl (qad (ya8 PassesOwn.never rfl (qf9 (qfl rfl (B.of rfl) (yaa (pv 0) yac))) (qck rfl (qan (pgn 3 sc.nd) (qan (pgn 4 sc.nd) ybi)))
    (yaf (qax (qab (ydf PySem.F.plainAttrs_list PySem.F.slot_list_append PySem.F.type_list_append qas (ydf PySem.F.plainAttrs_dict PySem.F.slot_dict_setdefault PySem.F.type_dict_setdefault qlb (pv 2) (yaa (yau qfk (pv 4) (pv 1)) (yaa (ycb yac) yac))) (yaa (pv 3) yac)))))) (yaf (qao (qab (qcj (yj2 rfl) rfl (B.of rfl) boot_list (yaa (qlh (pv 2)) yac))))))⟩ ?_
  intro c1
  refine ⟨_,qag rfl (qad (qsE 2 sc.nd (qab pe_dnewK)) c1.2),?_⟩
  have hn:(ygf (W*wd)).length=W*wd:=by unfold ygf;rw[length_map,length_range]
  have hWw:W*wd<=64:=mul_le_mul hW w4
  refine λp hp=>?_
  refine ⟨_,rfl,C,_,rfl,sqlO (by rw[qah (yad hC hp)];exact hC),qd9 (xs:=(ygf (W*wd)).map V.int) (λi σ H2=>∃(o1 o2:Option V) (rs:List Addr),σ=[some (.ref C),some (.int wd),some (.ref p),o1,o2]/\Same H H2/\H2 p=some (.dK (kvO 0 rs))/\(∀k,k<rs.length↔k*wd<i)/\rs.Nodup/\∀k r,rs[k]?=some r->H2 r=some (.lst ((qdx wd i k).map V.int))/\H r=none)
   ⟨none,none,[],rfl,(smR H).upd hp,qaa,(λk=>by simp),List.nodup_nil,λk r h=>by simp at h⟩ (λi σ H2 _ ⟨_,_,_,_,s2,_⟩=>sqlO (s2 _ _ hC)) ?_ ?_⟩
  ·rintro i x pp σ H2 hx ⟨o1,o2,rs,rfl,s2,hp2,hl,nd,hrow⟩ hpp
   obtain ⟨c,hc,rfl⟩:=qaz hx
   have hi:i<W*wd:=by have:=(List.getElem?_eq_some_iff.mp hc).1;omega
   have ec:c=(i:Int):=by
    unfold ygf at hc
    rw[getElem?_map,getElem?_range hi]at hc
    exact (Option.some.inj hc).symm
   subst ec
   have sP:=(smR H2).upd (o:=.tup [V.int i,.int i]) hpp
   refine ⟨pp,_,rfl,sqtO qaa,rfl,_,_,rfl,_,_,rfl,rfl,?_⟩
   revert sP
   generalize upd H2 pp _=H3
   intro sP
   have hp3:=sP _ _ hp2
   have hdv:(i:Int) / (wd:Int)=((0+i / wd:Nat):Int):=by rw[Nat.zero_add];rfl
   generalize hqd:i / wd=q at hdv
   have hq1:q*wd<=i:=by rw[<-hqd];exact Nat.div_mul_le_self i wd
   have hq2:i<(q+1)*wd:=by rw[<-hqd,Nat.mul_comm];exact Nat.lt_mul_div_succ i w1
   have rs64:rs.length<=64:=le_of_not_lt λz=>by
    have:=(hl 64).mp z
    have:=mul_le_mul_left 64 w1
    omega
   refine ⟨_,rfl,.inr (.inr (.inl ⟨rfl,.inl ⟨_,hp3⟩⟩)),_,rfl,_,rfl,_,_,rfl,rfl,⟨by omega,by omega⟩,zero_le _,λz nz=>?_⟩
   have hpz:p≠z:=yad hp3 nz
   have s3:=s2.trans sP
   refine ⟨p,kvO 0 rs,.inl ((0+q:Nat):Int),.ref z,rfl,(by show [V.int ((i:Int) / (wd:Int)),V.ref z]=_;rw[hdv];rfl),by rw[qah hpz];exact hp3,qbb (by rw[qk5];omega),λy hy=>?_,λhno=>?_⟩
   ·rw[qhl]at hy
    obtain ⟨r,hr,rfl⟩:∃r,rs[q]?=some r/\y=.ref r:=by
     cases e:rs[q]? with
     |none=>rw[e]at hy;cases hy
     |some r=>rw[e]at hy;exact ⟨r,rfl,(Option.some.inj hy).symm⟩
    obtain ⟨e2,e3⟩:=hrow q r hr
    have hr3:upd H3 z (.lst []) r=some (.lst ((qdx wd i q).map V.int)):=by rw[qah (yad (sP _ _ e2) nz)];exact sP _ _ e2
    have hpr:p≠r:=λx=>by rw[x,e2]at hp2;cases hp2
    refine ⟨.inl ⟨rfl,_,sqlO hr3⟩,_,rfl,r,_,_,rfl,rfl,hr3,qbb (by rw[length_map];have:=part_len (wd:=wd) (i:=i) (k:=q);omega),?_⟩
    refine ⟨_,_,rs,rfl,(s3.upd nz).at e3,by rw[qah hpr,qah hpz];exact hp3,λk=>?_,nd,λk r' hk=>?_⟩
    ·rw[hl k]
     have hqi:q*wd<i:=(hl q).mp (List.getElem?_eq_some_iff.mp hr).1
     constructor
     ·omega
     ·intro h
      refine Nat.lt_of_le_of_ne (by omega) λz=>?_
      have h1:k<q+1:=Nat.lt_of_mul_lt_mul_right (a:=wd) (by rw[z];exact hq2)
      have h2:q<k:=Nat.lt_of_mul_lt_mul_right (a:=wd) (by rw[z];exact hqi)
      omega
    ·obtain ⟨f2,f3⟩:=hrow k r' hk
     by_cases hkq:k=q
     ·subst hkq
      rw[hr]at hk;cases hk
      refine ⟨?_,e3⟩
      rw[qaa,qhs hq1 hq2,map_append]
      rfl
     ·have hne:r'≠r:=λx=>by
       rw[x]at hk
       exact hkq ((List.getElem?_inj (List.getElem?_eq_some_iff.mp hk).1 nd).mp (hk.trans hr.symm))
      refine ⟨?_,f3⟩
      rw[qah hne,qah (yad (sP _ _ f2) nz),qil hkq hq1 hq2 ((hl k).mp (List.getElem?_eq_some_iff.mp hk).1)]
      exact sP _ _ f2
   ·rw[qhl]at hno
    have hlen:rs.length<=q:=by
     cases e:rs[q]? with
     |none=>exact List.getElem?_eq_none_iff.mp e
     |some r=>rw[e]at hno;cases hno
    have hqi:q*wd=i:=Nat.le_antisymm hq1 (le_of_not_lt λz=>by have:=(hl q).mpr z;omega)
    have hlq:rs.length=q:=Nat.le_antisymm hlen (le_of_not_lt λz=>by
     have h1:=Nat.mul_lt_mul_of_pos_right z w1
     have:=(hl rs.length).mpr (by omega)
     omega)
    have ep:putK (kvO 0 rs) (.inl ((0+q:Nat):Int)) (.ref z)=kvO 0 (rs++[z]):=by
     rw[putK_new _ (by rw[qhl];exact hno),<-yjg rs 0 z,hlq]
    have nzH:H z=none:=s3.free nz
    rw[ep]
    have hz3:upd (upd H3 z (.lst [])) p (.dK (kvO 0 (rs++[z]))) z=some (.lst []):=by rw[qah hpz.symm];exact qaa
    refine ⟨.inl ⟨rfl,_,sqlO hz3⟩,_,rfl,z,_,_,rfl,rfl,hz3,qbb (by simp),?_⟩
    have nin:z∉rs:=λhm=>by
     obtain ⟨k,hk⟩:=getElem?_of_mem hm
     have:=sP _ _ (hrow k z hk).1
     rw[nz]at this;cases this
    refine ⟨_,_,rs++[z],rfl,((s3.upd nz).at hp).at nzH,by rw[qah hpz,qaa],λk=>?_,?_,λk r' hk=>?_⟩
    ·rw[length_append,List.length_singleton,hlq]
     constructor
     ·intro h
      have:=mul_le_mul_right wd (show k<=q by omega)
      omega
     ·intro h
      exact Nat.lt_of_mul_lt_mul_right (a:=wd) (lt_of_lt_of_le h (by rw[add_mul,one_mul];omega))
    ·rw[List.nodup_append]
     exact ⟨nd,by simp,λa ha b hb=>by rw[mem_singleton.mp hb];exact λx=>nin (x ▸ ha)⟩
    ·by_cases hkq:k=q
     ·subst hkq
      rw[getElem?_append_right (by omega),hlq,Nat.sub_self]at hk
      cases hk
      refine ⟨?_,nzH⟩
      rw[qaa,qhs hq1 hq2]
      have:qdx wd i k=[]:=by unfold qdx;rw[hqi,Nat.sub_self,Nat.min_zero];rfl
      rw[this]
      rfl
     ·have hkl:k<rs.length:=by
       have:=(List.getElem?_eq_some_iff.mp hk).1
       rw[length_append,List.length_singleton]at this
       omega
      rw[getElem?_append_left hkl]at hk
      obtain ⟨f2,f3⟩:=hrow k r' hk
      have f4:=sP _ _ f2
      refine ⟨?_,f3⟩
      rw[qah (yad f4 nz),qah (λx=>by rw[x,hp3]at f4;cases f4),qah (yad f4 nz),qil hkq hq1 hq2 ((hl k).mp hkl)]
      exact f4
  ·rintro σ H2 ⟨o1,o2,rs,rfl,s2,hp2,hl,nd,hrow⟩
   rw[length_map,hn]at hl hrow
   have hlW:rs.length=W:=by
    refine Nat.le_antisymm (le_of_not_lt λz=>?_) (le_of_not_lt λz=>?_)
    ·have:=(hl W).mp z
     omega
    ·have:=(hl rs.length).mpr (Nat.mul_lt_mul_of_pos_right z w1)
     omega
   refine ⟨_,rfl,p,_,rfl,.inl hp2,λv nv=>?_⟩
   have sv:=(smR H2).upd (o:=vwV v p) nv
   refine ⟨v,p,_,rfl,qaa,.inl (sv _ _ hp2),λD nD=>?_⟩
   have sD:=sv.upd (o:=.lst ((kvO 0 rs).map (·.2))) nD
   refine k D rs _ (s2.trans sD) ((s2.trans sv).free nD) (by rw[qaa,ylh]) hlW λk r hk=>?_
   obtain ⟨f2,f3⟩:=hrow k r hk
   have hkl:=(List.getElem?_eq_some_iff.mp hk).1
   rw[part_all (by omega)]at f2
   exact ⟨sD _ _ f2,f3,λx=>by have:=sv _ _ f2;rw[x,nD]at this;cases this⟩
def chAt(s:Str)(i:Nat):Str:=⟨#[s.cps.toList.getD i 0]⟩
theorem ch_at{s:Str}{i:Nat}(h:i<s.length):atI s.cps.toList (i:Int)=some (s.cps.toList.getD i 0):=by
 have hl:i<s.cps.toList.length:=by rw[length_toList];exact h
 refine ybl ?_
 rw[getD_eq_getElem?_getD,getElem?_eq_getElem hl]
 rfl
def onS(s:Str)(b:Nat)(st:Stp):Stp:=if V.str (chAt s b)=V.str "0" then st else (st.1,!st.2)
abbrev Dg:=Int×Stp
def DoAt(H:Hp)(v:V)(d:Dg):Prop:=∃p q,v=.ref p/\H p=some (.tup [.int d.1,.ref q])/\H q=some (.tup [.str (ydo d.2.1),.int (b2i d.2.2)])
structure DosAt(H:Hp)(us:List V)(ds:List Dg):Prop where
 len:us.length=ds.length
 at_:∀(i:Nat) (v:V) (d:Dg),us[i]?=some v->ds[i]?=some d->DoAt H v d
theorem DoAt.kt{H H':Hp}{v:V}{d:Dg}(h:DoAt H v d)(s:∀b t,H b=some (.tup t)->H' b=some (.tup t)):DoAt H' v d:=by
 obtain ⟨p,q,e,h1,h2⟩:=h
 exact ⟨p,q,e,s _ _ h1,s _ _ h2⟩
theorem DosAt.kt{H H':Hp}{us:List V}{ds:List Dg}(h:DosAt H us ds)(s:∀b t,H b=some (.tup t)->H' b=some (.tup t)):DosAt H' us ds:=⟨h.len,λi v d a b=>(h.at_ i v d a b).kt s⟩
theorem DosAt.put{H:Hp}{us:List V}{ds:List Dg}{D:Addr}{xs:List V}{o:HO}(h:DosAt H us ds)(hD:H D=some (.lst xs)):DosAt (upd H D o) us ds:=h.kt λb t e=>by
 rw[qah (λz=>by rw[z,hD]at e;cases e)]
 exact e
theorem DosAt.app{H:Hp}{us vs:List V}{ds es:List Dg}(h:DosAt H us ds)(g:DosAt H vs es):DosAt H (us++vs) (ds++es):=by
 refine ⟨by rw[length_append,length_append,h.len,g.len],λi v d a b=>?_⟩
 by_cases hi:i<us.length
 ·rw[getElem?_append_left hi]at a
  rw[getElem?_append_left (by rw[<-h.len];exact hi)]at b
  exact h.at_ i v d a b
 ·rw[getElem?_append_right (by omega)]at a
  rw[getElem?_append_right (by rw[<-h.len];omega),<-h.len]at b
  exact g.at_ _ v d a b
theorem DosAt.nil{H:Hp}:DosAt H [] []:=⟨rfl,λi v d a=>by simp at a⟩
theorem DosAt.one{H:Hp}{v:V}{d:Dg}(h:DoAt H v d):DosAt H [v] [d]:=⟨rfl,λi v' d' a b=>by
 cases i with
 |zero=>cases a;cases b;exact h
 |succ i=>simp at a⟩
def qgp:Sp:=λvs H Q _=>∃(a:Addr) (st:Stp) (bg:Str) (b:Nat),vs=[.ref a,.str bg,.int (b:Nat)]/\H a=some (.tup [.str (ydo st.1),.int (b2i st.2)])/\b<bg.length/\bg.length<=8/\
 ∀r H',Same H H'->H' r=some (.tup [.str (ydo (onS bg b st).1),.int (b2i (onS bg b st).2)])->Q (.ref r) H'
abbrev yfy:Stmt:=top 62
theorem qgu:FnScope ["step","background","bit"] ["step","background","bit"] (qac yfy):=fsc
theorem ykj(F:FnAt K mg "step_on" yfy ["step","background","bit"]):Has P w K mg base 1 "step_on" ["step","background","bit"] qgp:=by
 refine Has.ofQ F qgu (λvs H Q E h=>?_) (λ_ _ _ _ _ H vs Q E hr h=>?_)
 ·obtain ⟨a,st,bg,b,rfl,_⟩:=h
  rfl
 ·obtain ⟨a,st,bg,b,rfl,ha,hb,h8,k⟩:=h
  have sc:=qgu
  refine ⟨_,qag rfl (yaf (qao (qhc (qar ya1 (qap ix_str (qab (pv 1)) (qab (pv 2))) (qab yak) (yaj _)) (qab (pv 0)) (qa6 (ybd (qap qai (qab (pv 0)) (qab yab)) (yhi (qa5 ygu (qab yab) (qap qai (qab (pv 0)) (qab yab))) qae)))))),?_⟩
  refine ⟨_,rfl,_,rfl,_,_,_,rfl,rfl,ydg (by omega),ch_at hb,rfl,_,rfl,?_⟩
  by_cases h0:V.str (chAt bg b)=V.str "0"
  ·have e:onS bg b st=st:=by unfold onS;rw[if_pos h0]
   rw[e]at k
   exact iteD h0 ⟨_,rfl,k a H (smR H) ha⟩
  ·have e:onS bg b st=(st.1,!st.2):=by unfold onS;rw[if_neg h0]
   rw[e]at k
   refine ya4 h0 ⟨_,rfl,a,_,_,_,rfl,rfl,sqtO ha,rfl,_,rfl,a,_,_,_,rfl,rfl,sqtO ha,rfl,_,_,rfl,rfl,zl,λr nr=>?_⟩
   refine k r _ ((smR H).upd nr) ?_
   rw[qaa]
   cases st.2<;>rfl
theorem twice2{S A:Addr->Hp->Prop}{Q:Prop}(main:(∀L H,S L H->A L H)->Q)(st:∀L H,S L H->A L H):Q:=main st
def wOrd(W:Nat)(up:Bool):List Nat:=if up then List.range W else (List.range W).reverse
def wDo(wd:Nat)(bg:Str)(ss:List Stp)(k:Nat):List Dg:=ss.flatMap λst=>(List.range wd).map λb=>(((k*wd+b:Nat):Int),onS bg b st)
def wDos(W wd:Nat)(bg:Str)(up:Bool)(ss:List Stp):List Dg:=(wOrd W up).flatMap (wDo wd bg ss)
theorem ya5{α β:Type}{f:α->List β}{c:Nat}:∀{l:List α},(∀x∈l,(f x).length<=c)->(l.flatMap f).length<=c*l.length
 |[],_=>zero_le _
 |x::l,h=>by
  have h1:=h x (by simp)
  have h2:=ya5 (l:=l) λy hy=>h y (by simp[hy])
  rw[flatMap_cons,length_append,length_cons,Nat.mul_add,Nat.mul_one]
  omega
theorem yhl{wd:Nat}{bg:Str}{ss:List Stp}{k:Nat}:(wDo wd bg ss k).length<=wd*ss.length:=ya5 λst _=>by rw[length_map,length_range];exact le_refl _
def ygn:Sp:=λvs H Q _=>∃(C S:Addr) (W wd:Nat) (bg o:Str) (up:Bool) (ws:List V) (ss:List Stp),vs=[.ref C,.int (wd:Nat),.str bg,.str o,.ref S]/\H C=some (.lst ((ygf (W*wd)).map V.int))/\1<=wd/\wd<=4/\W<=16/\wd<=bg.length/\bg.length<=8/\up=decide (V.str o=V.str "up")/\H S=some (.lst ws)/\AtAll H ws (ss.map ycm)/\ss.length<=6/\
 ∀(D:Addr) (us:List V) (H':Hp),Same H H'->H D=none->H' D=some (.lst us)->DosAt H' us (wDos W wd bg up ss)->Q (.ref D) H'
abbrev ycn:Stmt:=top 63
theorem qdl:FnScope ["cells","width","background","order","steps","words","doings","places","step"] ["cells","width","background","order","steps"] (qac ycn):=fsc
theorem yj7(B:Bl mg)(z_rev:mg "reversed"=none)(ye4:Has P w K mg base 1 "places_by_word" ["cells","width"] qh7)(yll:Has P w K mg base 1 "step_on" ["step","background","bit"] qgp)(F:FnAt K mg "word_doings" ycn ["cells","width","background","order","steps"]):Has P w K mg base 2 "word_doings" ["cells","width","background","order","steps"] ygn:=by
 refine Has.ofQ F qdl (λvs H Q E h=>?_) (λ_ _ _ _ _ H vs Q E hr h=>?_)
 ·obtain ⟨C,S,W,wd,bg,o,up,ws,ss,rfl,_⟩:=h
  rfl
 ·obtain ⟨C,S,W,wd,bg,o,up,ws,ss,rfl,hC,w1,w4,hW,hb,h8,hup,hS,hws,s6,k⟩:=h
  have sc:=qdl
  refine cutA [2] ⟨_,qag rfl (qad (ya8 PassesOwn.never rfl (qbn (qhc (qar ya1 (qab (pv 3)) (qab yak) (yaj _)) (qab (pv 5)) (qab (qj5 hr.hd rfl (B.of rfl) rfl z_rev (yaa (pv 5) yac))))) (pgn 7 sc.nd)
    (yaf (ya8 PassesOwn.never rfl (qbn (qab (pv 4))) (yav (i:=8) sc.nd rfl (Or.inr rfl))
     (yaf (qax (qab (ydf PySem.F.plainAttrs_list PySem.F.slot_list_extend PySem.F.type_list_extend yd5 (pv 6) (yaa (qbv rfl (yaw rfl) (M:=["place","step","background","width","cells"]) (ix:=[none,some 8,some 2,some 1,some 0]) (qa7 (pv 7)) (λ_ _ _ _=>(yav (i:=0) (show List.Nodup (["place","step","background","width","cells"]:List Str) by decide +kernel) rfl (Or.inl rfl))) (λ_ _ _ _=>qcr) (λ_ _ _ _=>(ybn (yaa (pv 0) (yaa (yai yll hr (yaa (pv 1) (yaa (pv 2) (yaa (yau qbz (yan (qd2 (K:=K) rfl) (pv 4) (pv 0)) (pv 3)) yac)))) yac))))) yac)))))))) (yaf (qao (qab (pv 6)))))⟩ ?_
  intro c1
  refine ⟨_,qag rfl (qad (qsE 5 sc.nd (yal ye4 hr (yag (qab (pv 0)) (yag (qab (pv 1)) qae)))) (qad (qsE 6 sc.nd (qat qae)) c1.2)),?_⟩
  refine ⟨_,rfl,_,rfl,C,W,wd,rfl,hC,w1,w4,hW,λD0 rs H1 s1 nD0 eD0 hrl hrow=>gn ?_⟩
  refine ⟨zero_le _,λp hp=>gn ?_⟩
  have sp1:=(smR H1).upd (o:=.lst []) hp
  have f2:=@qaa H1 p (.lst [])
  have hp0:H p=none:=s1.free hp
  revert sp1 f2
  generalize upd H1 p _=H2
  intro sp1 f2
  have s2:=s1.trans sp1
  refine' twice2 (S:=λL H3=>L≠p/\Same H2 H3/\H3 L=some (.lst ((if up then rs else rs.reverse).map V.ref))) (λst=>?main) ?st
  case main=>
   refine ⟨_,rfl,rfl,_,rfl,?_⟩
   cases hu:up with
   |false=>
    refine iteN (by rw[<-hup,hu]) ⟨_,rfl,D0,_,rfl,sqlO (sp1 _ _ eD0),λL nL=>?_⟩
    have hS1:L≠p/\Same H2 (upd H2 L (.lst (rs.map V.ref).reverse))/\upd H2 L (.lst (rs.map V.ref).reverse) L=some (.lst ((if up then rs else rs.reverse).map V.ref)):=⟨(yad f2 nL).symm,(smR H2).upd nL,by rw[qaa,hu,<-List.map_reverse];rfl⟩
    revert hS1
    generalize upd H2 L _=H3
    intro hS1
    exact st L H3 hS1
   |true=>exact iteB (by rw[<-hup,hu]) ⟨_,rfl,st D0 H2 ⟨yad eD0 hp,smR _,by rw[hu];exact sp1 _ _ eD0⟩⟩
  rintro L H3 ⟨nLp,s3,eL⟩
  generalize hrl':(if up then rs else rs.reverse)=rl at eL
  have hrk:∀i r,rl[i]?=some r->∃kk,(wOrd W up)[i]?=some kk/\H1 r=some (.lst ((yhs wd kk).map V.int)):=λi r h=>by
   rw[<-hrl']at h
   unfold wOrd
   cases up with
   |true=>
    have hi:=(List.getElem?_eq_some_iff.mp h).1
    exact ⟨i,by rw[if_pos rfl,getElem?_range (by rw[<-hrl];exact hi)],(hrow i r h).1⟩
   |false=>
    have hi:i<rs.length:=by have:=(List.getElem?_eq_some_iff.mp h).1;simpa using this
    have h':rs[rs.length-1-i]?=some r:=by
     have:=h
     rw[if_neg Bool.false_ne_true,List.getElem?_reverse hi]at this
     exact this
    refine ⟨rs.length-1-i,?_,(hrow _ r h').1⟩
    rw[if_neg Bool.false_ne_true,List.getElem?_reverse (by rw[length_range,<-hrl];exact hi),length_range,<-hrl,getElem?_range (by omega)]
  have rll:rl.length=W:=by rw[<-hrl',<-hrl];cases up<;>simp
  have wol:(wOrd W up).length=W:=by unfold wOrd;cases up<;>simp
  have s23:=s2.trans s3
  have ls:=hws.length
  rw[length_map]at ls
  refine ⟨L,rfl,⟨_,sqlO eL⟩,yaq (xs:=rl.map V.ref) (λi σ H4=>∃(us:List V) (o1 o2:Option V),σ=[some (.ref C),some (.int wd),some (.str bg),some (.str o),some (.ref S),some (.ref D0),some (.ref p),o1,o2]/\(∀b u,b≠p->H3 b=some u->H4 b=some u)/\H4 p=some (.lst us)/\DosAt H4 us (((wOrd W up).take i).flatMap (wDo wd bg ss))) ⟨[],none,none,rfl,λb u _ e=>e,s3 _ _ f2,DosAt.nil⟩ (λi σ H4 _ ⟨_,_,_,_,s4,_⟩=>sqlO (s4 _ _ nLp eL)) ?_ ?_⟩
  ·rintro i x σ H4 hx ⟨us,o1,o2,rfl,s4,e4,d4⟩
   obtain ⟨r,hr,rfl⟩:=qaz hx
   obtain ⟨kk,hkk,hr1⟩:=hrk i r hr
   have hi:i<W:=by have:=(List.getElem?_eq_some_iff.mp hr).1;omega
   have hkW:kk<W:=by
    have hm:=mem_of_getElem? hkk
    unfold wOrd at hm
    cases up<;>simpa using hm
   have nrp:r≠p:=yad hr1 hp
   have hr3:=s3 _ _ (sp1 _ _ hr1)
   have ne0:∀{b:Addr}{u:HO},H b=some u->b≠p:=λ{b u} e=>yad e hp0
   have al:(((wOrd W up).take i).flatMap (wDo wd bg ss)).length<=24*i:=by
    refine le_trans (ya5 (c:=24) λx _=>le_trans yhl (mul_le_mul w4 s6)) ?_
    rw[length_take]
    exact mul_le_mul_left _ (Nat.min_le_left _ _)
   refine gn ?_
   refine ⟨_,rfl,S,rfl,⟨_,sqlO (s4 _ _ (ne0 hS) (s23 _ _ hS))⟩,yaq (xs:=ws) (λj σ H5=>∃(us:List V) (o2:Option V),σ=[some (.ref C),some (.int wd),some (.str bg),some (.str o),some (.ref S),some (.ref D0),some (.ref p),some (.ref r),o2]/\(∀b u,b≠p->H3 b=some u->H5 b=some u)/\H5 p=some (.lst us)/\DosAt H5 us (((wOrd W up).take i).flatMap (wDo wd bg ss)++(ss.take j).flatMap λst=>(List.range wd).map λb=>(((kk*wd+b:Nat):Int),onS bg b st))) ⟨us,_,rfl,s4,e4,by rw[List.take_zero,List.flatMap_nil,append_nil];exact d4⟩ (λj σ H5 _ ⟨_,_,_,s5,_⟩=>sqlO (s5 _ _ (ne0 hS) (s23 _ _ hS))) ?_ ?_⟩
   ·rintro j x σ H5 hx ⟨us,o2,rfl,s5,e5,d5⟩
    obtain ⟨dd,hdd,hat⟩:=hws.get hx
    obtain ⟨st,hst,rfl⟩:=qaz hdd
    obtain ⟨a,rfl,ha⟩:=qir hat
    have hj:j<ss.length:=(List.getElem?_eq_some_iff.mp hst).1
    have hC5:=s5 _ _ (ne0 hC) (s23 _ _ hC)
    have ha5:=s5 _ _ (ne0 ha) (s23 _ _ ha)
    have hr5:=s5 _ _ nrp hr3
    have wl:((yhs wd kk).map V.int).length=wd:=by unfold yhs;rw[length_map,length_map,length_range]
    have ul:us.length<=24*i+4*j:=by
     rw[d5.len,length_append]
     have h2:((ss.take j).flatMap λst=>(List.range wd).map λb=>(((kk*wd+b:Nat):Int),onS bg b st)).length<=4*j:=by
      refine le_trans (ya5 (c:=4) λx _=>(by rw[length_map,length_range];exact w4)) ?_
      rw[length_take]
      exact mul_le_mul_left _ (Nat.min_le_left _ _)
     omega
    refine gn ?_
    refine ⟨_,rfl,.inl ⟨rfl,_,sqlO e5⟩,?_⟩
    refine ⟨_,rfl,r,rfl,⟨_,sqlO hr5⟩,λD nD=>qbp (n:=wd) (λb H6=>Same H5 H6/\∃vs,H6 D=some (.lst vs)/\DosAt H6 vs ((List.range b).map λb=>(((kk*wd+b:Nat):Int),onS bg b st))) ⟨(smR H5).upd nD,[],qaa,DosAt.nil⟩ ?_ ?_⟩
    rotate_left
    ·rintro b H6 hb6 ⟨s6',vs,e6,d6⟩
     have hr6:=sqlO (K:=K) (s6' _ _ hr5)
     have hwb:((yhs wd kk).map V.int)[b]?=some (.int ((kk*wd+b:Nat):Int)):=by
      unfold yhs
      rw[getElem?_map,getElem?_map,getElem?_range hb6]
      rfl
     refine ⟨⟨_,_,hr6,hwb⟩,?_⟩
     rintro y H7 ⟨rfl,hy⟩
     have hy:=hy _ hr6
     rw[hwb]at hy
     cases hy
     have hkb:kk*wd+b<W*wd:=by
      have:=mul_le_mul_right wd (show kk+1<=W from hkW)
      rw[add_mul,one_mul]at this
      omega
     have hcb:((ygf (W*wd)).map V.int)[kk*wd+b]?=some (.int ((kk*wd+b:Nat):Int)):=by
      unfold ygf
      rw[getElem?_map,getElem?_map,getElem?_range hkb]
      rfl
     have hmd:(((kk*wd+b:Nat):Int) % (wd:Int))=((b:Nat):Int):=by
      have:(kk*wd+b) % wd=b:=by rw[Nat.add_comm,Nat.add_mul_mod_self_right,Nat.mod_eq_of_lt hb6]
      rw[<-Int.natCast_emod,this]
     refine ⟨qaw.set (qaw.refl _) rfl,yes ?_⟩
     refine ⟨_,rfl,_,rfl,_,rfl,_,rfl,_,rfl,C,_,_,_,rfl,rfl,sqlO (s6' _ _ hC5),ybl hcb,_,rfl,_,_,rfl,rfl,by omega,a,st,bg,b,(by show [V.ref a,V.str bg,V.int (((kk*wd+b:Nat):Int) % (wd:Int))]=_;rw[hmd]),s6' _ _ ha5,by omega,h8,λq H8 s8 hq=>⟨zl,λt nt=>?_⟩⟩
     have s78:=s8.upd (o:=.tup [.int ((kk*wd+b:Nat):Int),.ref q]) nt
     have e8:=s78 _ _ e6
     have vl:vs.length=b:=by rw[d6.len,length_map,length_range]
     refine ⟨_,e8,qbb (by omega),(s6'.trans s78).at nD,vs++[.ref t],qaa,?_⟩
     rw[List.range_succ,map_append]
     refine DosAt.put (xs:=vs) ((d6.kt λb t e=>s78 _ _ e).app (DosAt.one ⟨t,q,rfl,qaa,?_⟩)) e8
     exact ((smR H8).upd nt) _ _ hq
    rintro H6 ⟨s6',vs,e6,d6⟩
    refine ⟨⟨_,sqlO (s6' _ _ hr5),by rw[wl];exact le_refl _⟩,?_⟩
    have vl:vs.length=wd:=by rw[d6.len,length_map,length_range]
    have nDp:D≠p:=(yad e5 nD).symm
    refine ⟨p,D,us,vs,rfl,rfl,s6' _ _ e5,e6,ydg (by omega),?_⟩
    refine ⟨us++vs,_,rfl,λb u hb e=>by rw[qah hb];exact s6' _ _ (s5 b u hb e),qaa,?_⟩
    rw[take_add_one,hst,List.flatMap_append,<-List.append_assoc]
    refine DosAt.put (xs:=us) ((d5.kt λb t e=>s6' _ _ e).app ?_) (s6' _ _ e5)
    rw[show (some st).toList=[st] from rfl,flatMap_cons,List.flatMap_nil,append_nil]
    exact d6
   ·rintro σ H5 ⟨us,o2,rfl,s5,e5,d5⟩
    rw[ls,take_length]at d5
    refine ⟨us,_,_,rfl,s5,e5,?_⟩
    rw[take_add_one,hkk,List.flatMap_append]
    rw[show (some kk).toList=[kk] from rfl,flatMap_cons,List.flatMap_nil,append_nil]
    exact d5
  ·rintro σ H4 ⟨us,o1,o2,rfl,s4,e4,d4⟩
   rw[length_map,rll,take_of_length_le (by rw[wol];exact le_refl _)]at d4
   exact ⟨_,rfl,k p us H4 (λb u e=>s4 b u (yad e hp0) (s23 _ _ e)) hp0 e4 d4⟩
end
def qit(cs:List Int):PyData:=.list (cs.map PyData.int)
theorem qjs{H:Hp}:∀(cs:List Int),AtAll H (cs.map V.int) (cs.map PyData.int)
 |[]=>.nil
 |c::r=>.cons (.int c) (qjs r)
theorem yi3{H:Hp}{p:Addr}{cs:List Int}(h:H p=some (.lst (cs.map V.int))):At H (.ref p) (qit cs):=.lst h (qjs cs)
theorem yjt:∀(cs:List Int),PyData.canLayAll0 (cs.map PyData.int)=true
 |[]=>rfl
 |c::r=>by show (true&&_)=true;rw[yjt r];rfl
theorem yh6(cs:List Int):(qit cs).canLay0=true:=yjt cs
theorem qj7(cs:List Int):(qit cs).depth<=10:=by
 have:=qbt (n:=1) (xs:=cs.map PyData.int) λx hx=>by
  obtain ⟨h,hh,rfl⟩:=mem_map.mp hx
  simp[PyData.depth]
 simp only[qit,PyData.depth]
 omega
theorem MemO.upC{H H':Hp}{K m L C:Addr}{us:List V}{hs:List Hm}{cs ds:List Int}(x:MemO H K m L C us hs cs)(u:UpC H C ds H'):MemO H' K m L C us hs ds:=by
 obtain ⟨⟨dx,ho⟩,mm⟩:=x
 exact ⟨⟨dx,u.st _ _ (λz=>by subst z;rw[mm.hc]at ho;cases ho) ho⟩,mm.upC u⟩
theorem MemO.same{H H':Hp}{K m L C:Addr}{us:List V}{hs:List Hm}{cs:List Int}(x:MemO H K m L C us hs cs)(s:Same H H'):MemO H' K m L C us hs cs:=by
 obtain ⟨⟨dx,ho⟩,mm⟩:=x
 exact ⟨⟨dx,s _ _ ho⟩,mm.same s⟩
theorem ykd(hs:List Hm)(cs:List Int)(a:Int):(ydi hs cs a).2.length=cs.length:=qdf _ _ _
theorem qjb(hs:List Hm)(cs:List Int)(a b:Int):(qen hs cs a b).length=cs.length:=ydn _ _ _ _
noncomputable def qhf(hs:List Hm)(q:List Int×List Int)(d:Dg):List Int×List Int:=if d.2.1=true then (q.1,qen hs q.2 d.1 (b2i d.2.2)) else (q.1++[(ydi hs q.2 d.1).1],(ydi hs q.2 d.1).2)
noncomputable def dRun(hs:List Hm)(ds:List Dg)(q:List Int×List Int):List Int×List Int:=ds.foldl (qhf hs) q
theorem qls(hs:List Hm)(q:List Int×List Int)(d:Dg):(qhf hs q d).2.length=q.2.length/\(qhf hs q d).1.length<=q.1.length+1:=by
 unfold qhf
 split
 ·exact ⟨qjb _ _ _ _,le_succ _⟩
 ·exact ⟨ykd _ _ _,by rw[length_append];exact le_refl _⟩
theorem yb8(hs:List Hm):∀(ds:List Dg) (q:List Int×List Int),(dRun hs ds q).2.length=q.2.length/\(dRun hs ds q).1.length<=q.1.length+ds.length
 |[],q=>⟨rfl,le_refl _⟩
 |d::ds,q=>by
  obtain ⟨a,b⟩:=yb8 hs ds (qhf hs q d)
  obtain ⟨c,e⟩:=qls hs q d
  exact ⟨a.trans c,le_trans b (by rw[length_cons];omega)⟩
theorem yho{hs:List Hm}{ds:List Dg}{q:List Int×List Int}{j:Nat}{d:Dg}(h:ds[j]?=some d):dRun hs (ds.take (j+1)) q=qhf hs (dRun hs (ds.take j) q) d:=by
 unfold dRun
 rw[take_add_one,h,List.foldl_append]
 rfl
section
variable {P:Program}{w:World}{K:W.Frag}{mg:Str->Option Value}{base:Heap}{C:Addr}
def yfo(C:Addr):Sp:=λvs H Q _=>∃(m Dd L Cc:Addr) (us uu:List V) (hs:List Hm) (cs:List Int) (ds:List Dg),vs=[.ref m,.ref Dd]/\MemO H C m L Cc us hs cs/\InR hs cs.length/\H Dd=some (.lst uu)/\DosAt H uu ds/\(∀d∈ds,0<=d.1/\d.1<cs.length)/\ds.length<=1000/\Dd≠Cc/\
 ∀(D:Addr) (H':Hp),UpC H Cc (dRun hs ds ([],cs)).2 H'->H D=none->H' D=some (.lst ((dRun hs ds ([],cs)).1.map V.int))->Q (.ref D) H'
abbrev qed:Stmt:=top 67
theorem yf9:FnScope ["memory","doings","told","address","step"] ["memory","doings"] (qac qed):=fsc
theorem qi9(cm:CM K C)(qjc:HasM P w K mg base C 5 "read" ["self","address"] (yik C))(qg2:HasM P w K mg base C 6 "write" ["self","address","bit"] (qgk C))(F:FnAt K mg "reads_by" qed ["memory","doings"]):Has P w K mg base 7 "reads_by" ["memory","doings"] (yfo C):=by
 refine Has.ofQ F yf9 (λvs H Q E h=>?_) (λ_ _ _ _ _ H vs Q E hr h=>?_)
 ·obtain ⟨m,Dd,L,Cc,us,uu,hs,cs,ds,rfl,_⟩:=h
  rfl
 ·obtain ⟨m,Dd,L,Cc,us,uu,hs,cs,ds,rfl,mo,ir,hDd,dos,rng,dl,nDC,k⟩:=h
  have sc:=yf9
  refine cutA [1] ⟨_,qag rfl (qad (ya8 PassesOwn.never rfl (qbn (qab (pv 1))) (qck rfl (qan (pgn 3 sc.nd) (qan (pgn 4 sc.nd) ybi)))
    (yaf (ya9 (qar ya1 (qap qai (qab (pv 4)) (qab yab)) (qab yak) (yaj _))
     (yaf (qax (qe9 cm.c qg2 hr (qab (pv 0)) (yag (qab (pv 3)) (ybd (qap qai (qab (pv 4)) (qab yab)) qae)))))
     (yaf (qax (qab (ydf PySem.F.plainAttrs_list PySem.F.slot_list_append PySem.F.type_list_append qas (pv 2) (yaa (QE.of (qe9 cm.c qjc hr (qab (pv 0)) (yag (qab (pv 3)) qae))) yac)))))))) (yaf (qao (qab (pv 2)))))⟩ ?_
  intro c1
  refine ⟨_,qag rfl (qad (qsE 2 sc.nd (qat qae)) c1.2),?_⟩
  refine ⟨zero_le _,λD hD=>gn ?_⟩
  have nD:D≠Cc:=(yad mo.m.hc hD).symm
  have s0:=(smR H).upd (o:=.lst []) hD
  have f0:=@qaa H D (.lst [])
  revert s0 f0
  generalize upd H D _=H0
  intro s0 f0
  have nDd:Dd≠D:=yad hDd hD
  refine ⟨_,rfl,Dd,rfl,⟨_,sqlO (s0 _ _ hDd)⟩,yaq (xs:=uu) (λj σ H2=>∃(o1 o2:Option V),σ=[some (.ref m),some (.ref Dd),some (.ref D),o1,o2]/\UpC H Cc (dRun hs (ds.take j) ([],cs)).2 H2/\H2 D=some (.lst ((dRun hs (ds.take j) ([],cs)).1.map V.int)))
   ⟨none,none,rfl,UpC.of s0 mo.m.hc,f0⟩ (λj σ H2 _ ⟨_,_,_,u2,_⟩=>sqlO (u2.st _ _ nDC hDd)) ?_ ?_⟩
  ·rintro j x σ H2 hx ⟨o1,o2,rfl,u2,e2⟩
   have hj:=(List.getElem?_eq_some_iff.mp hx).1
   have hd:ds[j]?=some (ds[j]'(by rw[<-dos.len];exact hj)):=getElem?_eq_getElem _
   generalize ds[j]'(by rw[<-dos.len];exact hj)=d at hd
   obtain ⟨p,q,rfl,hp,hq⟩:=dos.at_ j x d hx hd
   have hst:=yho (hs:=hs) (q:=([],cs)) hd
   have hlen:=yb8 hs (ds.take j) ([],cs)
   have hlt:(ds.take j).length<=1000:=by rw[length_take];omega
   have m2:=mo.upC u2
   obtain ⟨r0,r1⟩:=rng d (mem_of_getElem? hd)
   generalize dRun hs (ds.take j) ([],cs)=st at *
   obtain ⟨l2,l1⟩:=hlen
   have l2:st.2.length=cs.length:=l2
   have l1:st.1.length<=1000:=by have:st.1.length<=0+(ds.take j).length:=l1;omega
   have np:p≠Cc:=λz=>by have:=mo.m.hc;rw[<-z,hp]at this;cases this
   have nq:q≠Cc:=λz=>by have:=mo.m.hc;rw[<-z,hq]at this;cases this
   have hp2:=u2.st _ _ np hp
   have hq2:=u2.st _ _ nq hq
   obtain ⟨⟨dx,ho⟩,_⟩:=id m2
   refine ⟨p,_,rfl,sqtO hp2,rfl,_,_,rfl,_,_,rfl,rfl,?_⟩
   refine ⟨_,rfl,q,_,_,_,rfl,rfl,sqtO hq2,yae 0 rfl,rfl,_,rfl,?_⟩
   rw[hst]
   unfold qhf
   cases hw:d.2.1 with
   |true=>
    refine iteB (by decide +kernel) ?_
    refine ⟨_,rfl,m,dx,_,rfl,ho,lk_n,_,rfl,_,rfl,q,_,_,_,rfl,rfl,sqtO hq2,yae 1 rfl,m,L,Cc,us,hs,_,d.1,d.2.2,rfl,m2,by rw[l2];exact ir,r0,by rw[l2];exact r1,λH3 u3=>?_⟩
    rw[if_pos rfl]
    exact ⟨_,_,rfl,u2.trans u3,u3.st _ _ nD e2⟩
   |false=>
    refine iteN (by decide +kernel) ?_
    refine ⟨_,rfl,.inl ⟨rfl,_,sqlO e2⟩,_,rfl,m,dx,_,rfl,ho,lk_n,_,rfl,m,L,Cc,us,hs,_,d.1,rfl,m2,by rw[l2];exact ir,r0,by rw[l2];exact r1,λH3 u3=>?_⟩
    have e3:=u3.st _ _ nD e2
    refine ⟨D,_,_,rfl,rfl,e3,qbb (by rw[length_map];omega),?_⟩
    rw[if_neg Bool.false_ne_true]
    exact ⟨_,_,rfl,(u2.trans u3).new hD nD.symm,by rw[qaa,map_append];rfl⟩
  ·rintro σ H2 ⟨o1,o2,rfl,u2,e2⟩
   rw[dos.len,take_length]at u2 e2
   exact ⟨_,rfl,k D H2 u2 hD e2⟩
end
mutual
theorem At_kt{H H':Hp}(s:∀b u,H b=some u->(∃t,u=.tup t)\/(∃l,u=.lst l)->H' b=some u):∀{v:V}{d:PyData},At H v d->At H' v d
 |_,_,.non=>.non
 |_,_,.bl b=>.bl b
 |_,_,.int i=>.int i
 |_,_,.str x=>.str x
 |_,_,.lst e h=>.lst (s _ _ e (.inr ⟨_,rfl⟩)) (qd1 s h)
 |_,_,.tup e h=>.tup (s _ _ e (.inl ⟨_,rfl⟩)) (qd1 s h)
theorem qd1{H H':Hp}(s:∀b u,H b=some u->(∃t,u=.tup t)\/(∃l,u=.lst l)->H' b=some u):∀{vs:List V}{ds:List PyData},AtAll H vs ds->AtAll H' vs ds
 |_,_,.nil=>.nil
 |_,_,.cons x r=>.cons (At_kt s x) (qd1 s r)
end
structure OsAt(H:Hp)(O:Addr)(oa:List Addr)(oss:List (List Str)):Prop where
 l:H O=some (.lst (oa.map V.ref))
 len:oa.length=oss.length
 at_:∀(k:Nat) (a:Addr) (os:List Str),oa[k]?=some a->oss[k]?=some os->H a=some (.lst (os.map V.str))
theorem OsAt.same{H H':Hp}{O:Addr}{oa:List Addr}{oss:List (List Str)}(h:OsAt H O oa oss)(s:Same H H'):OsAt H' O oa oss:=⟨s _ _ h.l,h.len,λk a os x y=>s _ _ (h.at_ k a os x y)⟩
theorem OsAt.get{H:Hp}{O:Addr}{oa:List Addr}{oss:List (List Str)}(h:OsAt H O oa oss){k:Nat}{v:V}(hv:(oa.map V.ref)[k]?=some v):∃a os,v=.ref a/\oss[k]?=some os/\H a=some (.lst (os.map V.str)):=by
 obtain ⟨a,ha,rfl⟩:=qaz hv
 have hk:k<oss.length:=by rw[<-h.len];exact (List.getElem?_eq_some_iff.mp ha).1
 exact ⟨a,_,rfl,getElem?_eq_getElem hk,h.at_ k a _ ha (getElem?_eq_getElem hk)⟩
section
variable {P:Program}{w:World}{K:W.Frag}{mg:Str->Option Value}{base:Heap}{C:Addr}
def qfc(r:V):Sp:=λvs H Q _=>∃(t Bk O:Addr) (T:List Elm) (bgs:List Str) (oa:List Addr) (oss:List (List Str)),vs=[.ref t,.ref Bk,.ref O]/\At H (.ref t) (ygc T)/\okT T/\H Bk=some (.lst (bgs.map V.str))/\OsAt H O oa oss/\(∀os∈oss,OrdOk T os)/\oss.length=bgs.length/\bgs.length<=8/\∀H',Same H H'->Q r H'
abbrev ybu:Stmt:=top 64
theorem ycc:FnScope ["test","backgrounds","thing"] ["test","backgrounds","thing"] (qac ybu):=fsc
theorem ok_aword(B:Bl mg)(ye5:mg "all"=none)(yh9:Has P w K mg base 3 "are_orders" ["test","thing"] yea)(F:FnAt K mg "are_word_orders" ybu ["test","backgrounds","thing"]):Has P w K mg base 4 "are_word_orders" ["test","backgrounds","thing"] (qfc (.bl true)):=by
 refine Has.ofQ F ycc (λvs H Q E h=>?_) (λ_ _ _ _ _ H vs Q E hr h=>?_)
 ·obtain ⟨t,Bk,O,T,bgs,oa,oss,rfl,_⟩:=h
  rfl
 ·obtain ⟨t,Bk,O,T,bgs,oa,oss,rfl,ht,okt,hB,os,oo,hl,h8,k⟩:=h
  have sc:=ycc
  refine ⟨_,qag rfl (qad (ya9 (QW.pt (yls (qgo (qc9 (qa1 qbd rfl (B.of rfl) boot_isinstance (yag (qab (pv 2)) (yag (qab (qbr (v:=.ty "list") rfl (B.of rfl) boot_list rfl)) qae))))) (qli (qar yiq (qa1 yah rfl (B.of rfl) boot_len (yag (qab (pv 2)) qae)) (qa1 yah rfl (B.of rfl) boot_len (yag (qab (pv 1)) qae)) (yaj _)))))
    (yaf (qao (qab yjc)))
    qa2)
   (yaf (qao (qa1 (qd0 rfl) rfl ye5 qd7 (qa_lc (qab (qbv rfl (yaw rfl) (M:=["part","test"]) (ix:=[none,some 0]) (qa7 (pv 2)) (λ_ _ _ _=>(yav (i:=0) (show List.Nodup (["part","test"]:List Str) by decide +kernel) rfl (Or.inl rfl))) (λ_ _ _ _=>qcr) (λ_ _ _ _=>(yai yh9 hr (yaa (pv 1) (yaa (pv 0) yac)))))) qae))))),?_⟩
  refine ⟨_,rfl,_,_,_,_,rfl,.lst os.l,rfl,_,rfl,iteF ?_⟩
  refine ⟨_,rfl,O,_,rfl,.inl (sqlO os.l),_,rfl,Bk,_,rfl,.inl (sqlO hB),rfl,_,rfl,iteN (by rw[length_map,length_map,os.len,hl];simp) ?_⟩
  refine ⟨_,rfl,O,rfl,⟨_,sqlO os.l⟩,λD hD=>qbp (n:=oa.length) (λi H'=>Same H H'/\H' D=some (.lst ((List.replicate i true).map V.bl))) ⟨(smR H).upd hD,qaa⟩ ?_ ?_⟩
  ·rintro H2 ⟨s2,e2⟩
   refine ⟨⟨_,sqlO (s2 _ _ os.l),by rw[length_map];exact le_refl _⟩,D,_,rfl,e2,?_⟩
   rw[show (List.replicate oa.length true).all id=true by simp]
   exact k _ s2
  ·rintro i H2 hi ⟨s2,e2⟩
   have hl2:=sqlO (K:=K) (s2 _ _ os.l)
   have hoi:(oa.map V.ref)[i]?=some (.ref oa[i]):=by rw[getElem?_map,getElem?_eq_getElem hi];rfl
   refine ⟨⟨_,_,hl2,hoi⟩,?_⟩
   rintro y H3 ⟨rfl,hy⟩
   obtain ⟨a,oz,rfl,hoz,ha⟩:=os.get (hy _ hl2)
   refine ⟨qaw.set (qaw.refl _) rfl,yes ?_⟩
   refine ⟨_,rfl,_,rfl,t,a,T,oz,rfl,ht.same s2,okt,s2 _ _ ha,oo oz (mem_of_getElem? hoz),λH4 s4=>?_⟩
   have hi8:i<8:=by have:=os.len;omega
   refine ⟨_,s4 _ _ e2,qbb (by rw[length_map,length_replicate];omega),(s2.trans s4).at hD,?_⟩
   rw[qaa,List.replicate_succ',map_append];rfl
abbrev ybb:Stmt:=top 65
theorem qbo:FnScope ["test","backgrounds","thing"] ["test","backgrounds","thing"] (qac ybb):=fsc
theorem ok_lword(yec:Has P w K mg base 4 "are_word_orders" ["test","backgrounds","thing"] (qfc (.bl true)))(F:FnAt K mg "look_at_word_orders" ybb ["test","backgrounds","thing"]):Has P w K mg base 5 "look_at_word_orders" ["test","backgrounds","thing"] (qfc .non):=by
 refine Has.ofQ F qbo (λvs H Q E h=>?_) (λ_ _ _ _ _ H vs Q E hr h=>?_)
 ·obtain ⟨t,Bk,O,T,bgs,oa,oss,rfl,_⟩:=h
  rfl
 ·obtain ⟨t,Bk,O,T,bgs,oa,oss,rfl,ht,okt,hB,os,oo,hl,h8,k⟩:=h
  have sc:=qbo
  refine ⟨_,qag rfl (yaf (ya9 (qgo (qc9 (yal yec hr (yag (qab (pv 0)) (yag (qab (pv 1)) (yag (qab (pv 2)) qae))))))
    (yaf (ylo qbh))
    qa2)),?_⟩
  exact ⟨_,rfl,_,rfl,_,rfl,t,Bk,O,T,bgs,oa,oss,rfl,ht,okt,hB,os,oo,hl,h8,λH1 s1=>⟨_,rfl,iteF (k H1 s1)⟩⟩
def qgs:Sp:=λvs H Q _=>∃a b:Nat,vs=[.int (a:Nat),.int (b:Nat)]/\a<=100/\b<=100/\Q (.int ((a*b:Nat):Int)) H
abbrev yga:Stmt:=top 66
theorem qgq:FnScope ["words","width"] ["words","width"] (qac yga):=fsc
theorem yj6(qa9:Has P w K mg base 1 "is_whole" ["thing"] ybt)(F:FnAt K mg "bits_in" yga ["words","width"]):Has P w K mg base 2 "bits_in" ["words","width"] qgs:=by
 refine Has.ofQ F qgq (λvs H Q E h=>?_) (λ_ _ _ _ _ H vs Q E hr h=>?_)
 ·obtain ⟨a,b,rfl,_⟩:=h
  rfl
 ·obtain ⟨a,b,rfl,ha,hb,k⟩:=h
  have sc:=qgq
  refine ⟨_,qag rfl (yaf (qao (qhc (QW.pt (qes (qc9 (yal qa9 hr (yag (qab (pv 0)) qae))) (qdr (qc9 (yal qa9 hr (yag (qab (pv 1)) qae)))))) (qa5 qch (qab (pv 0)) (qab (pv 1))) (qab qik)))),?_⟩
  refine ⟨_,rfl,_,rfl,_,rfl,iteT ⟨_,rfl,_,rfl,_,rfl,iteT ?_⟩⟩
  refine ⟨_,rfl,_,rfl,_,_,rfl,rfl,.inl ⟨by omega,by omega⟩,?_⟩
  show Q (V.int ((a:Int)*(b:Int))) H
  rw[<-Int.natCast_mul]
  exact k
noncomputable def qix(W wd:Nat)(hs:List Hm)(bg:Str)(q:List Int×List Int)(z:Elm×Str):List Int×List Int:=(q.1++(dRun hs (wDos W wd bg (decide (V.str z.2=V.str "up")) z.1.2) ([],q.2)).1,(dRun hs (wDos W wd bg (decide (V.str z.2=V.str "up")) z.1.2) ([],q.2)).2)
noncomputable def bRun(W wd:Nat)(hs:List Hm)(bg:Str)(zs:List (Elm×Str))(q:List Int×List Int):List Int×List Int:=zs.foldl (qix W wd hs bg) q
noncomputable def wRun(W wd:Nat)(hs:List Hm)(T:List Elm)(ys:List (Str×List Str))(q:List Int×List Int):List Int×List Int:=ys.foldl (λq y=>bRun W wd hs y.1 (T.zip y.2) q) q
theorem qjf(W:Nat)(up:Bool):(wOrd W up).length=W:=by unfold wOrd;cases up<;>simp
theorem qln{W k:Nat}{up:Bool}(h:k∈wOrd W up):k<W:=by unfold wOrd at h;cases up<;>simpa using h
theorem yhe{W wd:Nat}{bg:Str}{up:Bool}{ss:List Stp}(hW:W<=16)(hw:wd<=4)(h6:ss.length<=6):(wDos W wd bg up ss).length<=384:=by
 refine le_trans (ya5 (c:=24) λx _=>le_trans yhl (mul_le_mul hw h6)) ?_
 rw[qjf]
 omega
theorem wDos_in{W wd:Nat}{bg:Str}{up:Bool}{ss:List Stp}{d:Dg}(h:d∈wDos W wd bg up ss):0<=d.1/\d.1<((W*wd:Nat):Int):=by
 obtain ⟨k,hk,h⟩:=mem_flatMap.mp h
 obtain ⟨st,_,h⟩:=mem_flatMap.mp h
 obtain ⟨b,hb,rfl⟩:=mem_map.mp h
 have hb:=mem_range.mp hb
 have:=mul_le_mul_right wd (show k+1<=W from qln hk)
 rw[add_mul,one_mul]at this
 exact ⟨Int.natCast_nonneg _,by show ((k*wd+b:Nat):Int)<_;omega⟩
theorem qlr{W wd:Nat}{hs:List Hm}{bg:Str}{q:List Int×List Int}{z:Elm×Str}(hW:W<=16)(hw:wd<=4)(h6:z.1.2.length<=6):(qix W wd hs bg q z).2.length=q.2.length/\(qix W wd hs bg q z).1.length<=q.1.length+384:=by
 obtain ⟨a,b⟩:=yb8 hs (wDos W wd bg (decide (V.str z.2=V.str "up")) z.1.2) ([],q.2)
 have:=yhe (bg:=bg) (up:=decide (V.str z.2=V.str "up")) hW hw h6
 have b:(dRun hs (wDos W wd bg (decide (V.str z.2=V.str "up")) z.1.2) ([],q.2)).1.length<=0+_:=b
 exact ⟨a,by show (q.1++_).length<=_;rw[length_append];omega⟩
theorem yfa{W wd:Nat}{hs:List Hm}{bg:Str}(hW:W<=16)(hw:wd<=4):∀(zs:List (Elm×Str)) (q:List Int×List Int),(∀z∈zs,z.1.2.length<=6)->(bRun W wd hs bg zs q).2.length=q.2.length/\(bRun W wd hs bg zs q).1.length<=q.1.length+384*zs.length
 |[],q,_=>⟨rfl,le_refl _⟩
 |z::zs,q,h=>by
  obtain ⟨a,b⟩:=yfa hW hw zs (qix W wd hs bg q z) λy hy=>h y (mem_cons_of_mem _ hy)
  obtain ⟨c,e⟩:=qlr (hs:=hs) (bg:=bg) (q:=q) hW hw (h z mem_cons_self)
  exact ⟨a.trans c,le_trans b (by rw[length_cons];omega)⟩
theorem qfb{W wd:Nat}{hs:List Hm}{T:List Elm}(hW:W<=16)(hw:wd<=4)(okt:okT T):∀(ys:List (Str×List Str)) (q:List Int×List Int),(wRun W wd hs T ys q).2.length=q.2.length/\(wRun W wd hs T ys q).1.length<=q.1.length+3072*ys.length
 |[],q=>⟨rfl,le_refl _⟩
 |y::ys,q=>by
  obtain ⟨a,b⟩:=qfb hW hw okt ys (bRun W wd hs y.1 (T.zip y.2) q)
  obtain ⟨c,e⟩:=yfa (hs:=hs) (bg:=y.1) hW hw (T.zip y.2) q λz hz=>(okt.2.2 z.1 (of_mem_zip hz).1).2.2
  have:(T.zip y.2).length<=8:=by rw[length_zip];have:=okt.2.1;omega
  exact ⟨a.trans c,le_trans b (by rw[length_cons];omega)⟩
theorem yg5{α β:Type}{l:List α}{m:List β}{i:Nat}{a:α}{b:β}(h1:l[i]?=some a)(h2:m[i]?=some b):(l.zip m)[i]?=some (a,b):=by rw[List.getElem?_zip_eq_some];exact ⟨h1,h2⟩
def qhr:Sp:=λvs H Q _=>∃(t Bk O L0 C0:Addr) (T:List Elm) (W wd:Nat) (bgs:List Str) (oa:List Addr) (oss:List (List Str)) (us:List V) (hs:List Hm) (S cs:List Int),vs=[.ref t,.int (wd:Nat),.ref Bk,.int (W:Nat),.ref L0,.ref C0,.ref O]/\At H (.ref t) (ygc T)/\okT T/\H Bk=some (.lst (bgs.map V.str))/\OsAt H O oa oss/\(∀os∈oss,OrdOk T os)/\oss.length=bgs.length/\bgs.length<=8/\(∀bg∈bgs,wd<=bg.length/\bg.length<=8)/\
 1<=wd/\wd<=4/\1<=W/\W<=16/\cs.length=W*wd/\H L0=some (.lst us)/\HsV H us hs/\okHs hs S/\InR hs cs.length/\H C0=some (.lst (cs.map V.int))/\bits cs/\
 ∀(D:Addr) (H':Hp),Same H H'->H D=none->H' D=some (.lst ((wRun W wd hs T (bgs.zip oss) ([],yas hs cs)).1.map V.int))->Q (.ref D) H'
abbrev qcm:Stmt:=top 68
theorem ydj:FnScope ["test","width","backgrounds","words","harms","contents","orders","memory","cells","told","background","taken","element","order"] ["test","width","backgrounds","words","harms","contents","orders"] (qac qcm):=fsc
theorem ql4(B:Bl mg)(yep:mg "zip"=none)(cm:CM K C)(qgf:Has P w K mg base 5 "look_at_test" ["thing"] qc8)(qk3:Has P w K mg base 2 "bits_in" ["words","width"] qgs)(qfj:HasI P w K mg base C 9 "Memory" ["self","size","harms","contents"] (yib C))(yc0:Has P w K mg base 5 "look_at_word_orders" ["test","backgrounds","thing"] (qfc .non))(yis:HasM P w K mg base C 1 "size" ["self"] (yhr C))
  (ykh:Has P w K mg base 7 "reads_by" ["memory","doings"] (yfo C)) (qg4:Has P w K mg base 2 "word_doings" ["cells","width","background","order","steps"] ygn) (F:FnAt K mg "words_reads" qcm ["test","width","backgrounds","words","harms","contents","orders"]):Has P w K mg base 11 "words_reads" ["test","width","backgrounds","words","harms","contents","orders"] qhr:=by
 refine Has.ofQ F ydj (λvs H Q E h=>?_) (λ_ _ _ _ _ H vs Q E hr h=>?_)
 ·obtain ⟨t,Bk,O,L0,C0,T,W,wd,bgs,oa,oss,us,hs,S,cs,rfl,_⟩:=h
  rfl
 ·obtain ⟨t,Bk,O,L0,C0,T,W,wd,bgs,oa,oss,us,hs,S,cs,rfl,ht,okt,hB,os,oo,hl,h8,hbl,w1,w4,W1,W16,hcl,hL,hv,ok,ir,hC0,hb,k⟩:=h
  have sc:=ydj
  refine cutA [5] ⟨_,qag rfl (qad (ya8 PassesOwn.never rfl (qf9 (yhq rfl yep (yaa (pv 2) (yaa (pv 6) yac)))) (qck rfl (qan (pgn 10 sc.nd) (qan (pgn 11 sc.nd) ybi)))
    (yaf (ya8 PassesOwn.never rfl (qf9 (yhq rfl yep (yaa (pv 0) (yaa (pv 11) yac)))) (qck rfl (qan (pgn 12 sc.nd) (qan (pgn 13 sc.nd) ybi)))
     (yaf (qax (qab (ydf PySem.F.plainAttrs_list PySem.F.slot_list_extend PySem.F.type_list_extend yd5 (pv 9) (yaa (yai ykh hr (yaa (pv 7) (yaa (yai qg4 hr (qbs (pv 8) (qbs (pv 1) (qbs (pv 10) (qbs (pv 13) (yaa (yan qai (pv 12) yab) yac)))))) yac))) yac)))))))) (yaf (qao (qab (pv 9)))))⟩ ?_
  intro c1
  refine cutA [2] ⟨_,qag rfl (qad (qax (yal yc0 hr (yag (qab (pv 0)) (yag (qab (pv 2)) (yag (qab (pv 6)) qae))))) (qad (qsE 8 sc.nd (qab (qc5 hr.hd rfl (B.of rfl) rfl (B.of rfl) (yaa (QE.of (ylg cm.c yis hr (qab (pv 7)))) yac)))) (qad (qsE 9 sc.nd (qat qae)) c1.2)))⟩ ?_
  intro c2
  refine ⟨_,qag rfl (qad (qax (yal qgf hr (yag (qab (pv 0)) qae))) (qad (qsE 7 sc.nd (qe_makeH qfj hr (yh2 (yal qk3 hr (yag (qab (pv 3)) (yag (qab (pv 1)) qae))) (yag (qab (pv 4)) (yag (qab (pv 5)) qae))))) c2.2)),?_⟩
  refine ⟨_,rfl,_,T,rfl,ht,okt,λH1 s1=>?_⟩
  refine ⟨_,rfl,_,rfl,W,wd,rfl,by omega,by omega,_,rfl,_,rfl,?_⟩
  intro x dx nx ndx nxd
  have sD:=((smR H1).upd (o:=.own x) ndx).upd (o:=.ins C dx []) (p:=x) (by rw[qah (λz=>nxd z.symm)];exact nx)
  have fD:upd (upd H1 dx (.own x)) x (.ins C dx []) x=some (.ins C dx []):=qaa
  revert sD fD
  generalize upd (upd H1 dx (.own x)) x (.ins C dx [])=HD
  intro sD fD
  have s1D:=s1.trans sD
  have hn:cs.length<=64:=by rw[hcl];exact mul_le_mul W16 w4
  refine ⟨x,dx,L0,C0,us,hs,S,cs,(by rw[hcl];rfl),fD,s1D _ _ hL,hv.same s1D,ok,ir,s1D _ _ hC0,hb,by rw[hcl];exact mul_le_mul W1 w1,hn,λL Cc HE stE nL nCc mo=>⟨rfl,gn ?_⟩⟩
  have sE:Same H HE:=λb u e=>stE b u (λz=>by subst z;have:=s1 _ _ e;rw[nx]at this;cases this) (s1D _ _ e)
  refine ⟨_,rfl,_,rfl,_,rfl,t,Bk,O,T,bgs,oa,oss,rfl,ht.same sE,okt,sE _ _ hB,os.same sE,oo,hl,h8,λH3 s3=>?_⟩
  have s03:=sE.trans s3
  have nC:H Cc=none:=s1D.free nCc
  have hsl:=yfp hs cs
  have m3:=mo.same s3
  obtain ⟨⟨dx3,ho3⟩,_⟩:=id m3
  refine ⟨_,rfl,x,dx3,_,rfl,ho3,lk_n,x,L,Cc,us,hs,_,rfl,m3,?_⟩
  refine ⟨(yas hs cs).length,rfl,by omega,λCe nCe=>gn ?_⟩
  have s4:=(smR H3).upd (o:=.lst (yef (yas hs cs).length)) nCe
  have f4:upd H3 Ce (.lst (yef (yas hs cs).length)) Ce=some (.lst ((ygf (W*wd)).map V.int)):=by
   rw[qaa,hsl,hcl]
   unfold yef ygf
   rw[List.map_map]
   rfl
  revert s4 f4
  generalize upd H3 Ce _=H4
  intro s4 f4
  refine ⟨zero_le _,λD nD=>gn ?_⟩
  have s5:=(smR H4).upd (o:=.lst []) nD
  have f5:=@qaa H4 D (.lst [])
  revert s5 f5
  generalize upd H4 D _=H5
  intro s5 f5
  have s35:=s4.trans s5
  have s05:=s03.trans s35
  have m4:=m3.same s4
  have s04:=s03.trans s4
  have nDC:D≠Cc:=(yad m4.m.hc nD).symm
  have nDH:H D=none:=s04.free nD
  have nCeC:Ce≠Cc:=(yad m3.m.hc nCe).symm
  have ol:(oa.map V.ref).length=bgs.length:=by rw[length_map,os.len,hl]
  have H0C:∀{b:Addr}{u:HO},H b=some u->b≠Cc:=λ{b u} e=>yad e nC
  have lW:=λi=>qfb (hs:=hs) W16 w4 okt ((bgs.zip oss).take i) ([],yas hs cs)
  have lz:∀i,((bgs.zip oss).take i).length<=8:=λi=>by rw[length_take,length_zip];omega
  obtain ⟨_,ws,hre,hlt,hwt⟩:=ht.lstEq
  cases hre
  have wl:ws.length=T.length:=by have:=hwt.length;rw[length_map]at this;exact this
  refine ⟨_,rfl,_,rfl,false,false,Bk,O,bgs.map V.str,oa.map V.ref,rfl,sqlO (s05 _ _ hB),sqlO (s05 _ _ os.l),ylk (K:=K) (by rw[length_map,ol]) (λi σ H6=>∃(q1 q2 q3 q4:Option V),σ=[some (.ref t),some (.int wd),some (.ref Bk),some (.int W),some (.ref L0),some (.ref C0),some (.ref O),some (.ref x),some (.ref Ce),some (.ref D),q1,q2,q3,q4]/\UpC H4 Cc (wRun W wd hs T ((bgs.zip oss).take i) ([],yas hs cs)).2 H6/\H6 D=some (.lst ((wRun W wd hs T ((bgs.zip oss).take i) ([],yas hs cs)).1.map V.int)))
   ⟨none,none,none,none,rfl,UpC.of s5 m4.m.hc,f5⟩ (λi σ H6 _ ⟨_,_,_,_,_,u6,_⟩=>⟨sqlO (u6.st _ _ (H0C hB) (s04 _ _ hB)),sqlO (u6.st _ _ (H0C os.l) (s04 _ _ os.l))⟩) ?_ ?_⟩
  ·rintro i xb yb pp σ H6 hxb hyb ⟨q1,q2,q3,q4,rfl,u6,e6⟩ hpp
   obtain ⟨bg,hbg,rfl⟩:=qaz hxb
   obtain ⟨a,oz,rfl,hoz,ha⟩:=os.get hyb
   have oz_ok:=oo oz (mem_of_getElem? hoz)
   obtain ⟨b1,b8⟩:=hbl bg (mem_of_getElem? hbg)
   have hst:wRun W wd hs T ((bgs.zip oss).take (i+1)) ([],yas hs cs)=bRun W wd hs bg (T.zip oz) (wRun W wd hs T ((bgs.zip oss).take i) ([],yas hs cs)):=ybf _ _ (yg5 hbg hoz)
   have hlen:=lW i
   have hz8:=lz i
   rw[hst]
   clear hst
   generalize wRun W wd hs T ((bgs.zip oss).take i) ([],yas hs cs)=st at *
   obtain ⟨l2,l1⟩:=hlen
   have l2:st.2.length=W*wd:=by have:st.2.length=(yas hs cs).length:=l2;rw[this,hsl,hcl]
   have l1:st.1.length<=30000:=by have:st.1.length<=0+3072*((bgs.zip oss).take i).length:=l1;omega
   refine ⟨pp,_,rfl,sqtO qaa,rfl,_,_,rfl,_,_,rfl,rfl,?_⟩
   have s7:=(smR H6).upd (o:=.tup [V.str bg,.ref a]) hpp
   revert s7
   generalize upd H6 pp _=H7
   intro s7
   have u7:=u6.same s7
   have ozl:(oz.map V.str).length=ws.length:=by rw[length_map,oz_ok.len,wl]
   have hz6:∀z∈T.zip oz,z.1.2.length<=6:=λz hz=>(okt.2.2 z.1 (of_mem_zip hz).1).2.2
   refine ⟨_,rfl,_,rfl,false,false,t,a,ws,oz.map V.str,rfl,sqlO (u7.st _ _ (H0C hlt) (s04 _ _ hlt)),sqlO (u7.st _ _ (H0C ha) (s04 _ _ ha)),ylk (K:=K) ozl.symm (λj σ H8=>∃(q3 q4:Option V),σ=[some (.ref t),some (.int wd),some (.ref Bk),some (.int W),some (.ref L0),some (.ref C0),some (.ref O),some (.ref x),some (.ref Ce),some (.ref D),some (.str bg),some (.ref a),q3,q4]/\UpC H4 Cc (bRun W wd hs bg ((T.zip oz).take j) st).2 H8/\H8 D=some (.lst ((bRun W wd hs bg ((T.zip oz).take j) st).1.map V.int)))
    ⟨_,_,rfl,u7,s7 _ _ e6⟩ (λj σ H8 _ ⟨_,_,_,u8,_⟩=>⟨sqlO (u8.st _ _ (H0C hlt) (s04 _ _ hlt)),sqlO (u8.st _ _ (H0C ha) (s04 _ _ ha))⟩) ?_ ?_⟩
   ·rintro j xe yo pq σ H8 hxe hyo ⟨q3,q4,rfl,u8,e8⟩ hpq
    obtain ⟨de,hde,hat⟩:=hwt.get hxe
    obtain ⟨e,he,rfl⟩:=qaz hde
    obtain ⟨o,ho,rfl⟩:=qaz hyo
    obtain ⟨ea,el,sw,rfl,hea,hel,hsw⟩:=yej hat
    have h6:=(okt.2.2 e (mem_of_getElem? he)).2.2
    have hst:bRun W wd hs bg ((T.zip oz).take (j+1)) st=qix W wd hs bg (bRun W wd hs bg ((T.zip oz).take j) st) (e,o):=ybf _ _ (yg5 he ho)
    have hlen:=yfa (hs:=hs) (bg:=bg) W16 w4 ((T.zip oz).take j) st λz hz=>hz6 z (mem_of_mem_take hz)
    have hzl:((T.zip oz).take j).length<=8:=by rw[length_take,length_zip];have:=okt.2.1;omega
    rw[hst]
    clear hst
    generalize bRun W wd hs bg ((T.zip oz).take j) st=sv at *
    obtain ⟨v2,v1⟩:=hlen
    refine ⟨pq,_,rfl,sqtO qaa,rfl,_,_,rfl,_,_,rfl,rfl,?_⟩
    have s9:=(smR H8).upd (o:=.tup [V.ref ea,.str o]) hpq
    revert s9
    generalize upd H8 pq _=H9
    intro s9
    have u9:=u8.same s9
    have e9:=s9 _ _ e8
    have ln:∀{b:Addr}{u:HO},H b=some u->H9 b=some u:=λ{b u} e=>u9.st _ _ (H0C e) (s04 _ _ e)
    refine ⟨_,rfl,.inl ⟨rfl,_,sqlO e9⟩,?_⟩
    refine ⟨_,rfl,_,rfl,_,rfl,_,rfl,_,rfl,_,rfl,ea,_,_,_,rfl,rfl,sqtO (ln hea),yae 1 rfl,Ce,el,W,wd,bg,o,_,sw,e.2,rfl,u9.st _ _ nCeC f4,w1,w4,W16,b1,b8,rfl,ln hel,(qd1 (H':=H9) (λb u e h=>ln e) hsw),h6,λD2 uu HA sA nD2 eD2 dos=>?_⟩
    have mA:=(m4.upC u9).same sA
    have nD2C:D2≠Cc:=(yad ((m4.upC u9).m.hc) nD2).symm
    refine ⟨x,D2,L,Cc,us,uu,hs,sv.2,_,rfl,mA,by rw[v2,l2,<-hcl];exact ir,eD2,dos,λd hd=>by rw[v2,l2];exact wDos_in hd,le_trans (yhe W16 w4 h6) (by decide),nD2C,λD3 HB uB nD3 eD3=>?_⟩
    have eB:=uB.st _ _ nDC (sA _ _ e9)
    have d3:=yb8 hs (wDos W wd bg (decide (V.str o=V.str "up")) e.2) ([],sv.2)
    have d4:=yhe (bg:=bg) (up:=decide (V.str o=V.str "up")) W16 w4 h6
    refine ⟨D,D3,_,_,rfl,rfl,eB,eD3,ydg (by rw[length_map,length_map];have:(dRun hs (wDos W wd bg (decide (V.str o=V.str "up")) e.2) ([],sv.2)).1.length<=0+_:=d3.2;omega),?_⟩
    refine ⟨_,_,rfl,((u9.same sA).trans uB).new nD nDC.symm,?_⟩
    rw[qaa,<-map_append]
    rfl
   ·rintro σ H8 ⟨q3,q4,rfl,u8,e8⟩
    rw[take_of_length_le (by rw[length_zip];have:=oz_ok.len;omega)]at u8 e8
    exact ⟨_,_,_,_,rfl,u8,e8⟩
  ·rintro σ H6 ⟨q1,q2,q3,q4,rfl,u6,e6⟩
   rw[length_map,take_of_length_le (by rw[length_zip];omega)]at e6
   exact ⟨_,rfl,k D H6 (λb u e=>u6.st b u (H0C e) (s04 _ _ e)) nDH e6⟩
end
end Mh
namespace L2
open PySem PySem.Spec PyProof.Rows PySem.W
def rCatH:R2:=λx y H Q=>∃a b xs ys,x=.ref a/\y=.ref b/\H a=some (.tup xs)/\H b=some (.tup ys)/\xs.length+ys.length<=sizeLine/\∀r H',Same H H'->H' r=some (.tup (xs++ys))->Q (.ref r) H'
section
variable {X:Cx}
theorem yfi:OpR X (binaryOp .Add) rCatH:=by
 intro pins s σ H x y v u Q I rx ry h
 obtain ⟨a,b,xs,ys,rfl,rfl,ha,hb,hz,q⟩:=h
 cases rx
 cases ry
 obtain ⟨its,r1,p1,_⟩:=I.tuple (sqtO ha)
 obtain ⟨its2,r2,p2,_⟩:=I.tuple (sqtO hb)
 by_cases hx:xs=[]
 ·obtain ⟨⟨cls,dd,data,sl⟩,ho,hc,n,hd⟩:=id p1
  obtain ⟨⟨cls2,dd2,data2,sl2⟩,ho2,hc2,n2,hd2⟩:=id p2
  simp only at hc hd hc2 hd2
  subst hc hd hc2 hd2
  exact concat_meets ⟨_,ho,rfl⟩ ⟨_,ho2,rfl⟩ noFill_tuple_add seq_tuple_add PySem.F.slot_tuple_add PySem.F.entry_tuple_add (PySem.F.args_tuple_add_2 _ _)
   (tuple_addW0 a b its.toArray its2.toArray n n2 dd dd2 sl sl2 (by rw[r1.nil_iff.mpr hx];rfl)) ⟨ho,ho2,.ref b,H,I,rfl,q b H (smR H) (by rw[hx];exact hb)⟩
 ·exact op_catT pins s σ H (.ref a) (.ref b) _ _ Q I rfl rfl ⟨a,b,xs,ys,rfl,rfl,sqtO ha,sqtO hb,hx,hz,λe=>q a H (smR H) (by rw[e,append_nil];exact ha),λ_ p hp=>q p _ ((smR H).upd hp) qaa⟩
end
end L2
namespace Mh
open PySem L2 PyProof.Rows Mx
theorem qi6{X:Cx}{K:W.Frag}(h:X.K=K):SlR X (rSlT K):=h ▸ qfn
theorem qhu{h:Hm}{ns:List Str}(o:okH h ns):cutV (hV h) none (some 2)=[.str h.w,.int (h.cell 0)]:=by
 rcases ybq o with ⟨a,hc⟩|⟨a,b,hc⟩
 ·unfold hV Hm.cell cutV;rw[hc,HT.sIx_none,show (some 2:Option Int)=some ((2:Nat):Int) from rfl,HT.sIx_nat];simp
 ·unfold hV Hm.cell cutV;rw[hc,HT.sIx_none,show (some 2:Option Int)=some ((2:Nat):Int) from rfl,HT.sIx_nat];simp
theorem hV_long{h:Hm}{ns:List Str}(o:okH h ns):3<=(hV h).length:=by
 have h2:=o.rest.len
 have hm:=yc2 o.tab
 have h3:∀s∈tabP.map (·.1),∀x,KTD.datumAt s tabP=some x->2<=x.length:=by
  intro s hs x hx
  have:∀s∈tabP.map (·.1),∃x,KTD.datumAt s tabP=some x/\2<=x.length:=by
   intro s hs
   simp[tabP]at hs
   rcases hs with rfl|rfl|rfl|rfl|rfl|rfl|rfl|rfl|rfl|rfl
   ·exact ⟨_,yax (by simp),by simp⟩
   ·exact ⟨_,yax (by simp),by simp⟩
   ·exact ⟨_,yax (by simp),by simp⟩
   ·exact ⟨_,yax (by simp),by simp⟩
   ·exact ⟨_,qda,by simp⟩
   ·exact ⟨_,ybm (by simp),by simp⟩
   ·exact ⟨_,ybm (by simp),by simp⟩
   ·exact ⟨_,yax (by simp),by simp⟩
   ·exact ⟨_,qcl,by simp⟩
   ·exact ⟨_,qcd,by simp⟩
  obtain ⟨y,hy,hl⟩:=this s hs
  rw[hy]at hx
  cases hx
  exact hl
 have h4:=h3 h.w hm _ o.tab
 unfold qb7 at h4
 unfold hV
 simp at h4 ⊢
 omega
theorem qjp{h:Hm}{ns:List Str}(o:okH h ns):¬ (HT.sIx (hV h).length 0 none=0/\HT.sIx (hV h).length (hV h).length (some 2)=(hV h).length):=by
 rintro ⟨_,h2⟩
 rw[show (some 2:Option Int)=some ((2:Nat):Int) from rfl,HT.sIx_nat]at h2
 have:=hV_long o
 omega
theorem qic(h:Hm)(cell:Int):PyData.eqv (.tuple [.str h.w,.int (h.cell 0)]) (.tuple [.str "stuck",.int cell])=yay cell h:=by
 unfold yay
 simp[PyData.eqv,PyData.eqvAll]
theorem yhx(cell:Int):(PyData.tuple [.str "stuck",.int cell]).canLay0=true:=by
 have e:PyData.canLay0 (.str "stuck")=true:=by decide +kernel
 simp only[PyData.canLay0,PyData.canLayAll0,Bool.and_true]
 exact e
structure Hld(K:W.Frag)(H:Hp)(L A:Addr)(us:List V)(hs:List Hm)(cs:List Int):Prop where
 hl:H L=some (.lst us)
 hv:HsV H us hs
 ok:Oks hs
 h3:hs.length<=3
 t:H A=some (.tup (cs.map V.int))
 n:cs.length<=64
theorem Hld.same{K:W.Frag}{H H':Hp}{L A:Addr}{us:List V}{hs:List Hm}{cs:List Int}(h:Hld K H L A us hs cs)(s:Same H H'):Hld K H' L A us hs cs:=⟨s _ _ h.hl,h.hv.same s,h.ok,h.h3,s _ _ h.t,h.n⟩
theorem Hld.to{K:W.Frag}{H H':Hp}{L A B:Addr}{us:List V}{hs:List Hm}{cs ds:List Int}(h:Hld K H L A us hs cs)(s:Same H H')(t:H' B=some (.tup (ds.map V.int)))(e:ds.length=cs.length):Hld K H' L B us hs ds:=⟨s _ _ h.hl,h.hv.same s,h.ok,h.h3,t,by rw[e];exact h.n⟩
theorem ykn(hs:List Hm)(cell:Int):(ybo hs cell).isNone=(hs.filter (yay cell)).isEmpty:=by
 unfold ybo
 rw[Option.isNone_map,<-List.head?_filter]
 cases hs.filter (yay cell)<;>rfl
theorem set_cut{cs:List Int}{c:Int}(b:Int)(h0:0<=c)(h1:c<cs.length):(cs.map V.int).take c.toNat++[V.int b]++(cs.map V.int).drop (c.toNat+1)=(cs.set c.toNat b).map V.int:=by
 rw[List.set_eq_take_append_cons_drop,if_pos (by omega),map_append,map_cons,map_take,map_drop,List.append_assoc]
 rfl
section
variable {P:Program}{w:World}{K:W.Frag}{mg:Str->Option Value}{base:Heap}
def qg3(K:W.Frag):Sp:=λvs H Q _=>∃L A us hs cs cell bit,vs=[.ref L,.ref A,.int cell,.int bit]/\Hld K H L A us hs cs/\0<=cell/\cell<cs.length/\∀r H',Same H H'->H' r=some (.tup ((putM hs cs cell bit).map V.int))->Q (.ref r) H'
abbrev yel:Stmt:=top 71
theorem yfm:FnScope ["_law_harms_here","_law_held","_law_cell","_law_bit_here"] ["_law_harms_here","_law_held","_law_cell","_law_bit_here"] (qac yel):=fsc
theorem ok_tput(F:FnAt K mg "_law_put" yel ["_law_harms_here","_law_held","_law_cell","_law_bit_here"]):Has P w K mg base 1 "_law_put" ["_law_harms_here","_law_held","_law_cell","_law_bit_here"] (qg3 K):=by
 refine Has.ofQ F yfm (λvs H Q E h=>?_) (λf cdv A0 outer s H vs Q E hr h=>?_)
 ·obtain ⟨L,A,us,hs,cs,cell,bit,rfl,_⟩:=h
  rfl
 ·obtain ⟨L,A,us,hs,cs,cell,bit,rfl,m,h0,h1,k⟩:=h
  have sc:=yfm
  refine ⟨_,qag rfl (qad (ya9 (qar (yjn hr) (qab (qbv rfl (yaw rfl) (M:=["_law_harm_here","_law_cell"]) (ix:=[none,some 2]) (qa7 (pv 0)) (λ_ _ _ _=>(yav (i:=0) (show List.Nodup (["_law_harm_here","_law_cell"]:List Str) by decide +kernel) rfl (Or.inl rfl))) (λ_ _ _ _=>(yem (yam (ygi hr) (qcq (qi6 (K:=K) rfl) (pv 0) ybw (qau yab)) (ybn (yaa yak (yaa (pv 1) yac))) (yaj _)))) (λ_ _ _ _=>(pv 0)))) (qat qae) (yaj _))
    (yaf (qao (qab (pv 1))))
    qa2)
   (yaf (qao (qa5 yfi (qa5 yfi (yek qfn (qab (pv 1)) ybw (qau (pv 2))) (qa6 (yag (qab (pv 3)) qae))) (yek qfn (qab (pv 1)) (qau (yau ya7 (pv 2) yab)) ybw))))),?_⟩
  refine ⟨_,rfl,L,rfl,⟨us,sqlO m.hl⟩,λD hD=>qbp (n:=us.length) (λi H'=>Same H H'/\∃ys,H' D=some (.lst ys)/\ys.length=((hs.take i).filter (yay cell)).length) ⟨(smR H).upd hD,[],qaa,rfl⟩ ?_ ?_⟩
  ·rintro H2 ⟨s2,ys,e2,l2⟩
   rw[m.hv.len,take_length]at l2
   refine ⟨⟨_,sqlO (s2 _ _ m.hl),by simp⟩,?_⟩
   refine ⟨zero_le _,λz nz=>⟨D,z,ys,rfl,rfl,sqlO (((smR H2).upd nz) _ _ e2),sqlO qaa,_,rfl,?_⟩⟩
   have s3:=s2.upd (o:=.lst []) nz
   revert s3
   generalize upd H2 z _=H3
   intro s3
   have hy:ys.isEmpty=(ybo hs cell).isNone:=by
    rw[ykn]
    cases ys with
    |nil=>cases hf:hs.filter (yay cell) with
     |nil=>rfl
     |cons a b=>rw[hf]at l2;cases l2
    |cons a b=>cases hf:hs.filter (yay cell) with
     |nil=>rw[hf]at l2;cases l2
     |cons a b=>rfl
   rw[hy]
   cases hn:(ybo hs cell).isNone with
   |false=>
    refine iteB rfl ⟨_,rfl,k A H3 s3 ?_⟩
    unfold putM
    rw[if_neg (by rw[hn];exact Bool.false_ne_true)]
    exact s3 _ _ m.t
   |true=>
    refine iteN rfl ?_
    have ep:putM hs cs cell bit=cs.set cell.toNat bit:=by unfold putM;rw[if_pos hn]
    rw[ep,<-set_cut bit h0 h1]at k
    have ec:(some cell:Option Int)=some ((cell.toNat:Nat):Int):=by congr 1;omega
    have ed:(some (cell+1):Option Int)=some ((cell.toNat+1:Nat):Int):=by congr 1;omega
    have m3:=m.same s3
    have hn64:=m.n
    refine ⟨_,rfl,_,rfl,_,rfl,A,_,rfl,sqtO m3.t,?_,λp np=>?_⟩
    ·rintro ⟨_,h2⟩
     rw[ec,HT.sIx_nat,length_map]at h2
     omega
    have sp:=(smR H3).upd (o:=.tup (cutV (cs.map V.int) none (some cell))) np
    have fp:upd H3 p (.tup (cutV (cs.map V.int) none (some cell))) p=some (.tup ((cs.map V.int).take cell.toNat)):=by rw[qaa,ec,yfc]
    revert sp fp
    generalize upd H3 p _=H4
    intro sp fp
    refine ⟨_,rfl,zl,λb nb=>?_⟩
    have sb:=(smR H4).upd (o:=.tup [.int bit]) nb
    have fb:=@qaa H4 b (.tup [.int bit])
    revert sb fb
    generalize upd H4 b _=H5
    intro sb fb
    refine ⟨p,b,_,_,rfl,rfl,sb _ _ fp,fb,ydg (by rw[length_take,length_map,List.length_singleton];omega),λc H6 sc tc=>?_⟩
    have s36:=(sp.trans sb).trans sc
    refine ⟨_,rfl,_,rfl,_,_,rfl,rfl,_,rfl,A,_,rfl,sqtO (s36 _ _ m3.t),?_,λd nd=>?_⟩
    ·rintro ⟨h2,_⟩
     rw[ed,HT.sIx_nat,length_map]at h2
     omega
    have sd:=(smR H6).upd (o:=.tup (cutV (cs.map V.int) (some (cell+1)) none)) nd
    have fd:upd H6 d (.tup (cutV (cs.map V.int) (some (cell+1)) none)) d=some (.tup ((cs.map V.int).drop (cell.toNat+1))):=by rw[qaa,ed,yfb]
    revert sd fd
    generalize upd H6 d _=H7
    intro sd fd
    refine ⟨c,d,_,_,rfl,rfl,sd _ _ tc,fd,ydg (by simp;omega),λr H8 s8 t8=>k r H8 (((s3.trans s36).trans sd).trans s8) t8⟩
  ·rintro i H2 hi ⟨s2,ys,e2,l2⟩
   refine ⟨⟨_,_,sqlO (s2 _ _ m.hl),by rw[getElem?_eq_getElem hi]⟩,?_⟩
   rintro x H3 ⟨rfl,hx⟩
   obtain ⟨g,hg,a,rfl,ha⟩:=m.hv.get (hx _ (sqlO (s2 _ _ m.hl)))
   obtain ⟨ns,og⟩:=m.ok g (mem_of_getElem? hg)
   have ha2:=s2 _ _ ha
   refine ⟨qaw.set (qaw.refl _) rfl,?_⟩
   refine ⟨_,rfl,_,rfl,a,_,rfl,sqtO ha2,qjp og,λq hq=>?_⟩
   rw[qhu og]
   have s4:Same H3 (upd H3 q (.tup [.str g.w,.int (g.cell 0)])):=(smR H3).upd hq
   have e4:=@qaa H3 q (.tup [.str g.w,.int (g.cell 0)])
   revert s4 e4
   generalize upd H3 q _=H4
   intro s4 e4
   refine ⟨_,rfl,zl,λr hr2=>?_⟩
   have s5:Same H4 (upd H4 r (.tup [.str "stuck",.int cell])):=(smR H4).upd hr2
   have e5:=@qaa H4 r (.tup [.str "stuck",.int cell])
   revert s5 e5
   generalize upd H4 r _=H5
   intro s5 e5
   have s35:=s4.trans s5
   refine ⟨_,_,.tup (s5 _ _ e4) (.cons (.str _) (.cons (.int _) .nil)),.tup e5 (.cons (.str _) (.cons (.int _) .nil)),?_,yhx cell,by simp[PyData.depth,PyData.depthAll],_,rfl,?_⟩
   ·simp[PyData.canLay0,PyData.canLayAll0]
    exact qg1 _ (yc2 og.tab)
   rw[qic]
   rw[take_add_one,hg]
   have hil:i<3:=by have:=m.hv.len;have:=m.h3;omega
   cases hst:yay cell g with
   |true=>
    have l3:ys.length<=3:=by rw[l2];exact le_trans (length_filter_le _ _) (by rw[length_take];omega)
    refine iteT ⟨_,rfl,ys,s35 _ _ e2,qbb (by omega),(s2.trans s35).at hD,_,qaa,?_⟩
    ·rw[length_append,l2,List.filter_append,length_append]
     simp[hst]
   |false=>
    refine iteF ⟨s2.trans s35,ys,s35 _ _ e2,?_⟩
    rw[l2,List.filter_append,length_append]
    simp[hst]
theorem odd_eqv(g:Hm)(cell held:Int):PyData.eqv (.tuple [.int (g.cell 0),.int (g.bit 0)]) (.tuple [.int cell,.int held])=decide (g.cell 0=cell/\g.bit 0=held):=by
 rw[Bool.eq_iff_iff]
 simp[PyData.eqv,PyData.eqvAll]
def PrAt(K:W.Frag)(H:Hp)(r:Addr)(cs:List Int)(v:V):Prop:=∃B,H r=some (.tup [.ref B,v])/\H B=some (.tup (cs.map V.int))
def ykp(K:W.Frag):Sp:=λvs H Q _=>∃L A us hs cs cell,vs=[.ref L,.ref A,.int cell]/\Hld K H L A us hs cs/\0<=cell/\cell<cs.length/\∀r H',Same H H'->PrAt K H' r (ycg hs cs cell).2 (.int (ycg hs cs cell).1)->Q (.ref r) H'
abbrev yds:Stmt:=top 73
theorem yey:FnScope ["_law_harms_here","_law_held","_law_cell","_law_harm_here","_law_later"] ["_law_harms_here","_law_held","_law_cell"] (qac yds):=fsc
theorem ok_look(qb1:Has P w K mg base 1 "_law_put" ["_law_harms_here","_law_held","_law_cell","_law_bit_here"] (qg3 K))(B:Bl mg)(F:FnAt K mg "_law_look" yds ["_law_harms_here","_law_held","_law_cell"]):Has P w K mg base 2 "_law_look" ["_law_harms_here","_law_held","_law_cell"] (ykp K):=by
 refine Has.ofQ F yey (λvs H Q E h=>?_) (λf cdv A0 outer s H vs Q E hr h=>?_)
 ·obtain ⟨L,A,us,hs,cs,cell,rfl,_⟩:=h
  rfl
 ·obtain ⟨L,A,us,hs,cs,cell,rfl,m,h0,h1,k⟩:=h
  have sc:=yey
  refine ⟨_,qag rfl (qad (ya8 PassesOwn.never rfl (qbn (qab (pv 0))) (pgn 3 sc.nd)
    (yaf (ya9 (QW.pt (qes (qar ybg (qap qai (qab (pv 3)) (qab yab)) (qa6 (ya3 (qab yak) (ya3 (qab yak) qae))) (by with_unfolding_all rfl)) (qdr (qar (ygi hr) (yek qfn (qab (pv 3)) (qau yab) ybw) (qa6 (yag (qab (pv 2)) (ybd (qap qai (qab (pv 1)) (qab (pv 2))) qae))) (yaj _)))))
     (qad (qsE 4 sc.nd (yal qb1 hr (yag (qab (pv 0)) (yag (qab (pv 1)) (yag (qab (pv 2)) (yhi (qa5 ygu (qab yab) (qap qai (qab (pv 1)) (qab (pv 2)))) qae))))))
     (yaf (qao (qa6 (yag (qab (pv 4)) (ybd (qap qam (qat (ybd (qap qai (qab (pv 1)) (qab (pv 2))) (ybd (qap qai (qab (pv 4)) (qab (pv 2))) qae))) (yb5 qig rfl (B.of rfl) boot_int (qa_cp (qi3 ya1 (qap qai (qab (pv 3)) (qab yab)) (qab yak) (yaj _)) qae))) qae))))))
     qa2)))
   (yaf (qao (qa6 (yag (qab (pv 1)) (ybd (qap qai (qab (pv 1)) (qab (pv 2))) qae)))))),?_⟩
  have z2:2<=sizeLine:=by decide
  refine ⟨_,rfl,L,rfl,⟨us,sqlO m.hl⟩,yaq (xs:=us) (λi σ H2=>∃(o3 o4:Option V),σ=[some (.ref L),some (.ref A),some (.int cell),o3,o4]/\Same H H2/\(hs.take i).find? (isOdd cell (rd cs cell))=none)
   ⟨none,none,rfl,smR H,rfl⟩ (λi σ H2 _ ⟨_,_,_,h,_⟩=>sqlO (h _ _ m.hl)) ?_ ?_⟩
  ·rintro i x σ H2 hx ⟨o3,o4,rfl,s2,hn⟩
   obtain ⟨g,hg,a,rfl,ha⟩:=m.hv.get hx
   obtain ⟨ns,og⟩:=m.ok g (mem_of_getElem? hg)
   obtain ⟨f1,f2⟩:=qc7 hn hg
   refine gn ?_
   refine ⟨_,rfl,a,_,_,_,rfl,rfl,sqtO (s2 _ _ ha),yae 0 rfl,z2,λp hp=>⟨p,_,rfl,.inr (sqtO qaa),rfl,rfl,_,rfl,?_⟩⟩
   rw[in2]
   have s3:Same H (upd H2 p (.tup [.str "forgets",.str "misreads"])):=s2.upd hp
   revert s3
   generalize upd H2 p _=H3
   intro s3
   by_cases hw:g.w="forgets"\/g.w="misreads"
   ·refine iteD hw ?_
    obtain ⟨c,b,ec,er⟩:=og.s1 (yax (by rcases hw with h|h<;>simp[h]))
    have ha3:=s3 _ _ ha
    have hcut:cutV (hV g) (some 1) none=[.int (g.cell 0),.int (g.bit 0)]:=by
     rw[yg9];unfold Hm.cell Hm.bit;rw[ec,er];rfl
    refine ⟨_,rfl,_,rfl,a,_,rfl,sqtO ha3,yi2 g,λq hq=>?_⟩
    rw[hcut]
    have s5:Same H3 (upd H3 q (.tup [.int (g.cell 0),.int (g.bit 0)])):=(smR H3).upd hq
    have e5:=@qaa H3 q (.tup [.int (g.cell 0),.int (g.bit 0)])
    revert s5 e5
    generalize upd H3 q _=H5
    intro s5 e5
    have m5:=m.same (s3.trans s5)
    refine ⟨_,rfl,_,rfl,_,rfl,A,_,_,_,rfl,rfl,sqtO m5.t,yco h0 h1,z2,λr hr2=>?_⟩
    have s6:Same H5 (upd H5 r (.tup [.int cell,.int (rd cs cell)])):=(smR H5).upd hr2
    have e6:=@qaa H5 r (.tup [.int cell,.int (rd cs cell)])
    revert s6 e6
    generalize upd H5 r _=H6
    intro s6 e6
    have s06:=(s3.trans s5).trans s6
    refine ⟨_,_,.tup (s6 _ _ e5) (.cons (.int _) (.cons (.int _) .nil)),.tup e6 (.cons (.int _) (.cons (.int _) .nil)),rfl,rfl,by simp[PyData.depth,PyData.depthAll],_,rfl,?_⟩
    rw[odd_eqv]
    by_cases hc:g.cell 0=cell/\g.bit 0=rd cs cell
    ·refine iteD hc ?_
     have e:=f1 (decide_eq_true ⟨hw,hc⟩)
     unfold ycg at k
     rw[e]at k
     have m6:=m.same s06
     refine ⟨_,rfl,_,rfl,_,rfl,_,rfl,_,rfl,A,_,_,_,rfl,rfl,sqtO m6.t,yco h0 h1,_,_,rfl,rfl,L,A,us,hs,cs,cell,1-rd cs cell,rfl,m6,h0,h1,λB7 H7 s7 t7=>gn ?_⟩
     have m7:=m6.same s7
     refine ⟨_,rfl,_,rfl,_,rfl,A,_,_,_,rfl,rfl,sqtO m7.t,yco h0 h1,_,rfl,_,rfl,B7,_,_,_,rfl,rfl,sqtO t7,yco h0 (by rw[ybz];exact h1),z2,λy ny=>?_⟩
     have s8:=(smR H7).upd (o:=.lst [.int (rd cs cell),.int (rd (putM hs cs cell (1-rd cs cell)) cell)]) ny
     have e8:upd H7 y (.lst [.int (rd cs cell),.int (rd (putM hs cs cell (1-rd cs cell)) cell)]) y=some _:=qaa
     revert s8 e8
     generalize upd H7 y _=H8
     intro s8 e8
     have s08:=(s06.trans s7).trans s8
     refine ⟨_,rfl,a,_,_,_,rfl,rfl,sqtO (s08 _ _ ha),yae 0 rfl,rfl,.inr ⟨_,rfl,?_⟩⟩
     rw[dS]
     have fin:∀v,v=V.int (if g.w="forgets" then rd cs cell else rd (putM hs cs cell (1-rd cs cell)) cell)->∀r,H8 r=none->Q (.ref r) (upd H8 r (.tup [.ref B7,v])):=λv hv r nr=>k r _ (s08.upd nr) ⟨B7,by rw[qaa,hv],((smR H8).upd nr) _ _ (s8 _ _ t7)⟩
     by_cases hf:g.w="misreads"
     ·rw[decide_eq_true hf]
      exact ⟨y,_,_,_,rfl,rfl,sqlO e8,yae 1 rfl,z2,fin _ (by rw[if_neg (by rw[hf];decide +kernel)])⟩
     ·rw[decide_eq_false hf]
      exact ⟨y,_,_,_,rfl,rfl,sqlO e8,yae 0 rfl,z2,fin _ (by rw[if_pos (hw.resolve_right hf)])⟩
    ·exact ya4 hc ⟨_,_,rfl,s06,f2 (decide_eq_false λz=>hc z.2)⟩
   ·exact ya4 hw ⟨_,_,rfl,s3,f2 (decide_eq_false λz=>hw z.1)⟩
  ·rintro σ H2 ⟨o3,o4,rfl,s2,hn⟩
   rw[m.hv.len,take_length]at hn
   unfold ycg at k
   rw[hn]at k
   have m2:=m.same s2
   refine ⟨_,rfl,_,rfl,_,rfl,A,_,_,_,rfl,rfl,sqtO m2.t,yco h0 h1,z2,λr nr=>?_⟩
   exact k r _ (s2.upd nr) ⟨A,qaa,((smR H2).upd nr) _ _ m2.t⟩
theorem ql1(hs:List Hm)(cs:List Int)(cell bit:Int):((hs.filter (yct cs cell)).map (λh=>V.int (h.bit 1))++[V.int bit])[0]?=some (.int (yd9 hs cs cell bit)):=by
 unfold yd9
 rw[<-List.head?_filter]
 cases hs.filter (yct cs cell)<;>rfl
theorem kept_eqv(g:Hm)(x cell:Int):PyData.eqv (.tuple [.int (g.cell 1),.int x]) (.tuple [.int cell,.int (g.bit 0)])=decide (g.cell 1=cell/\x=g.bit 0):=by
 rw[Bool.eq_iff_iff]
 simp[PyData.eqv,PyData.eqvAll]
theorem yi5{H:Hp}:∀(cs:List Int),AtAll H (cs.map V.int) (cs.map PyData.int)
 |[]=>.nil
 |c::cs=>.cons (.int c) (yi5 cs)
theorem tup_at{H:Hp}{p:Addr}{cs:List Int}(h:H p=some (.tup (cs.map V.int))):At H (.ref p) (.tuple (cs.map PyData.int)):=.tup h (yi5 cs)
theorem qk4:∀(cs:List Int),PyData.canLayAll0 (cs.map PyData.int)=true
 |[]=>rfl
 |c::cs=>by simp only[map_cons,PyData.canLayAll0,PyData.canLay0,Bool.true_and];exact qk4 cs
theorem yjv(cs:List Int):(PyData.tuple (cs.map PyData.int)).canLay0=true:=qk4 cs
theorem qif(cs:List Int):(PyData.tuple (cs.map PyData.int)).depth<=60:=by
 have:PyData.depthAll (cs.map PyData.int)<=1:=qbt λx hx=>by
  obtain ⟨h,_,rfl⟩:=mem_map.mp hx
  simp[PyData.depth]
 simp only[PyData.depth]
 omega
theorem yjo:∀(as bs:List Int),PyData.eqvAll (as.map PyData.int) (bs.map PyData.int)=decide (as=bs)
 |[],[]=>rfl
 |[],_::_=>rfl
 |_::_,[]=>rfl
 |a::as,b::bs=>by
  simp only[map_cons,PyData.eqvAll,yjo as bs]
  rw[Bool.eq_iff_iff]
  simp[PyData.eqv]
theorem tup_eqv(as bs:List Int):PyData.eqv (.tuple (as.map PyData.int)) (.tuple (bs.map PyData.int))=decide (as=bs):=by
 show PyData.eqvAll _ _=_
 exact yjo as bs
theorem set_rd{cs:List Int}{c:Int}:cs.set c.toNat (rd cs c)=cs:=by
 apply List.ext_getElem?
 intro i
 rw[List.getElem?_set]
 by_cases h:c.toNat=i
 ·subst h
  rw[if_pos rfl]
  unfold rd
  by_cases hl:c.toNat<cs.length
  ·rw[if_pos hl,getD_eq_getElem?_getD,getElem?_eq_getElem hl];rfl
  ·rw[if_neg hl,getElem?_eq_none (by omega)]
 ·rw[if_neg h]
theorem twice{S A:Hp->Prop}{Q:Prop}(main:(∀H,S H->A H)->Q)(st2:∀H,S H->A H):Q:=main st2
theorem yjk{hs:List Hm}{cs:List Int}{c v:Int}(h0:0<=c)(h1:c<cs.length):putM hs cs c v=cs↔rd (putM hs cs c v) c=rd cs c:=by
 constructor
 ·intro e;rw[e]
 ·intro e
  unfold putM at e ⊢
  split at e
  ·rename_i h
   rw[if_pos h]
   have e2:v=rd cs c:=by
    rw[<-e];unfold rd
    rw[getD_eq_getElem?_getD,List.getElem?_set_self (by omega)];rfl
   rw[e2]
   exact set_rd
  ·rename_i h
   rw[if_neg h]
def qhn(K:W.Frag):Sp:=λvs H Q _=>∃L A us hs cs cell bit,vs=[.ref L,.ref A,.int cell,.int bit]/\Hld K H L A us hs cs/\InR hs cs.length/\0<=cell/\cell<cs.length/\∀r H',Same H H'->H' r=some (.tup ((qfq hs cs cell bit).map V.int))->Q (.ref r) H'
abbrev yc1:Stmt:=top 72
theorem qd8:FnScope ["_law_harms_here","_law_held","_law_cell","_law_bit_here","_law_kept","_law_later","_law_harm_here"] ["_law_harms_here","_law_held","_law_cell","_law_bit_here"] (qac yc1):=fsc
theorem qlp(qb1:Has P w K mg base 1 "_law_put" ["_law_harms_here","_law_held","_law_cell","_law_bit_here"] (qg3 K))(F:FnAt K mg "_law_write" yc1 ["_law_harms_here","_law_held","_law_cell","_law_bit_here"]):Has P w K mg base 2 "_law_write" ["_law_harms_here","_law_held","_law_cell","_law_bit_here"] (qhn K):=by
 refine Has.ofQ F qd8 (λvs H Q E h=>?_) (λf cdv A0 outer s H vs Q E hr h=>?_)
 ·obtain ⟨L,A,us,hs,cs,cell,bit,rfl,_⟩:=h
  rfl
 ·obtain ⟨L,A,us,hs,cs,cell,bit,rfl,m,hi,h0,h1,k⟩:=h
  have sc:=qd8
  refine cutA [4] ⟨_,qag rfl (qad (ya8 PassesOwn.never rfl (qbn (qab (pv 0))) (pgn 6 sc.nd)
    (yaf (ya9 (QW.pt (qes (qar ybg (qap qai (qab (pv 6)) (qab yab)) (qa6 (ya3 (qab yak) (ya3 (qab yak) (ya3 (qab yak) qae)))) (by with_unfolding_all rfl)) (qes (qar ya1 (qap qai (qab (pv 6)) (qab yab)) (qab (pv 2)) (yaj _)) (qdr (qar ya1 (qap qai (qab (pv 6)) (qab yab)) (qap qai (qab (pv 5)) (qab (pv 2))) (yaj _))))))
     (yaf (qsE 5 sc.nd (yal qb1 hr (yag (qab (pv 0)) (yag (qab (pv 5)) (ybd (qap qai (qab (pv 6)) (qab yab)) (ybd (qap qai (qa5 yfi (yek qfn (qab (pv 6)) (qau yab) ybw) (qa6 (yhi (qa5 ygu (qab yab) (qap qai (qab (pv 5)) (qap qai (qab (pv 6)) (qab yab)))) qae))) (qab yab)) qae)))))))
     qa2))) (yaf (qao (qab (pv 5)))))⟩ ?_
  intro c1
  refine cutA [2] ⟨_,qag rfl (qad (qsE 5 sc.nd (yal qb1 hr (yag (qab (pv 0)) (yag (qab (pv 1)) (yag (qab (pv 2)) (ybd (qap qam (qa5 qdb (qab (pv 4)) (qat (yag (qab (pv 3)) qae))) (qab yab)) qae)))))) (qad (ya9 (qar (ygi hr) (qab (pv 5)) (qab (pv 1)) (yaj _))
    (yaf (qao (qab (pv 1))))
    qa2) c1.2))⟩ ?_
  intro c2
  refine cutA [1] ⟨_,qag rfl (qad (ylo (ps_setC (i:=4) rfl sc.nd rfl (Or.inl rfl) rfl (yaw rfl) (M:=["_law_harm_here","_law_cell","_law_held"]) (ix:=[none,some 2,some 1]) (qa7 (pv 0)) (λ_ _ _ _=>(yav (i:=0) (show List.Nodup (["_law_harm_here","_law_cell","_law_held"]:List Str) by decide +kernel) rfl (Or.inl rfl))) (λ_ _ _ _=>(yem (PW.pt (yb9 (yam ya1 (yan (yc6 (K:=K) rfl) (pv 0) yab) yak (yaj _)) (yb4 (yam (ygi hr) (yau yfi (qcq (qi6 (K:=K) rfl) (pv 0) (qau yab) (qau yab)) (ybn (yaa (yan (yc6 (K:=K) rfl) (pv 2) (yan (yc6 (K:=K) rfl) (pv 0) yab)) yac))) (ybn (yaa (pv 1) (yaa (yan (yc6 (K:=K) rfl) (pv 0) yab) yac))) (yaj _))))))) (λ_ _ _ _=>(yan (yc6 (K:=K) rfl) (pv 0) yab)))) c2.2)⟩ ?_
  intro c3
  refine ⟨_,qag rfl (qad (ya9 (QW.pt (qes (qar yiq (qap qai (qab (pv 1)) (qab (pv 2))) (qab (pv 3)) (yaj _)) (qdr (qar (op_inT hr) (qa6 (ya3 (qab yak) (yag (qab (pv 2)) (yag (qab (pv 3)) qae)))) (qab (pv 0)) (by with_unfolding_all rfl)))))
    (yaf (qao (qab (pv 1))))
    qa2) c3.2),?_⟩
  have z2:2<=sizeLine:=by decide
  unfold qfq at k
  refine' twice (S:=λH'=>Same H H'/\qhj hs cs cell bit=false) (λst=>?main) ?st
  case main=>
   refine ⟨_,rfl,_,rfl,A,_,_,_,rfl,rfl,sqtO m.t,yco h0 h1,_,rfl,rfl,_,rfl,?_⟩
   rw[dI]
   by_cases hb:¬ rd cs cell=bit
   ·refine iteB (by simp[hb]) ?_
    refine ⟨_,rfl,_,rfl,zl,λp hp=>⟨_,rfl,?_⟩⟩
    have s3:Same H (upd H p (.tup [.str "slow",.int cell,.int bit])):=(smR H).upd hp
    have e3:=@qaa H p (.tup [.str "slow",.int cell,.int bit])
    revert s3 e3
    generalize upd H p _=H3
    intro s3 e3
    have m3:=m.same s3
    refine ⟨p,_,L,us,rfl,e3,qk0 _ _,rfl,m3.hl,m3.hv.tups m3.ok,_,rfl,?_⟩
    rw[m3.hv.any (g:=ygp cell bit) (λh hh v hv=>by
     obtain ⟨a,rfl,ha⟩:=hv
     obtain ⟨ns,o⟩:=m3.ok h hh
     unfold tEq
     dsimp only
     rw[ha]
     exact ylj o cell bit)]
    cases ha:hs.any (ygp cell bit) with
    |false=>exact iteF (st H3 ⟨s3,by unfold qhj;simp[ha]⟩)
    |true=>
     have hsl:qhj hs cs cell bit=true:=by unfold qhj;simp[hb,ha]
     rw[if_pos hsl]at k
     exact iteT ⟨_,rfl,k A H3 s3 (s3 _ _ m.t)⟩
   ·have hb:=Classical.not_not.mp hb
    exact iteN (by simp[hb]) (st H ⟨smR H,by unfold qhj;simp[hb]⟩)
  rintro H1 ⟨s1,hns⟩
  rw[if_neg (by rw[hns];exact Bool.false_ne_true)]at k
  have m1:=m.same s1
  refine ⟨_,rfl,L,rfl,⟨us,sqlO m1.hl⟩,λD hD=>qbp (n:=us.length) (λi H'=>Same H1 H'/\H' D=some (.lst (((hs.take i).filter (yct cs cell)).map (λh=>V.int (h.bit 1))))) ⟨(smR H1).upd hD,qaa⟩ ?_ ?_⟩
  ·rintro H2 ⟨s2,e2⟩
   rw[m.hv.len,take_length]at e2
   refine ⟨⟨_,sqlO (s2 _ _ m1.hl),by simp⟩,?_⟩
   have hfl:=length_filter_le (yct cs cell) hs
   have h3:=m.h3
   refine gn ?_
   refine ⟨_,rfl,_,rfl,_,rfl,_,rfl,_,rfl,zl,λp hp=>?_⟩
   have s4:Same H2 (upd H2 p (.lst [.int bit])):=(smR H2).upd hp
   have p4:=@qaa H2 p (.lst [.int bit])
   revert s4 p4
   generalize upd H2 p _=H4
   intro s4 p4
   refine ⟨D,p,_,_,rfl,rfl,s4 _ _ e2,p4,le_of_lt (qbb (by simp;omega)),λq hq=>?_⟩
   have s5:Same H4 (upd H4 q (.lst ((hs.filter (yct cs cell)).map (λh=>V.int (h.bit 1))++[.int bit]))):=(smR H4).upd hq
   have e5:upd H4 q (.lst ((hs.filter (yct cs cell)).map (λh=>V.int (h.bit 1))++[.int bit])) q=some _:=qaa
   revert s5 e5
   generalize upd H4 q _=H5
   intro s5 e5
   have s05:=((s1.trans s2).trans s4).trans s5
   refine ⟨q,_,_,_,rfl,rfl,sqlO e5,yae 0 (ql1 hs cs cell bit),L,A,us,hs,cs,cell,yd9 hs cs cell bit,rfl,m.same s05,h0,h1,λB6 H6 s6 t6=>gn ?_⟩
   have s06:=s05.trans s6
   have m6:=m.same s06
   have hpl:=ybz hs cs cell (yd9 hs cs cell bit)
   refine ⟨_,rfl,_,rfl,_,_,tup_at t6,tup_at m6.t,yjv _,yjv _,qif _,_,rfl,?_⟩
   rw[tup_eqv]
   by_cases he:putM hs cs cell (yd9 hs cs cell bit)=cs
   ·rw[if_pos ((yjk h0 h1).mp he),he]at k
    exact iteD he ⟨_,rfl,k A H6 s06 m6.t⟩
   ·refine ya4 he ?_
    rw[if_neg λz=>he ((yjk h0 h1).mpr z)]at k
    revert k t6 hpl
    generalize putM hs cs cell (yd9 hs cs cell bit)=ds
    intro k t6 hpl
    refine ⟨_,rfl,L,rfl,⟨us,sqlO m6.hl⟩,yaq (xs:=us) (λi σ H7=>∃(B7:Addr) (o6:Option V),σ=[some (.ref L),some (.ref A),some (.int cell),some (.int bit),some (.ref D),some (.ref B7),o6]/\Same H6 H7/\H7 B7=some (.tup ((actN hs (hs.take i) cell ds).map V.int)))
     ⟨B6,_,rfl,smR H6,t6⟩ (λi σ H7 _ ⟨_,_,_,s7,_⟩=>sqlO (s7 _ _ m6.hl)) ?_ ?_⟩
    ·rintro i x σ H7 hx ⟨B7,o6,rfl,s7,t7⟩
     have hlen:=yg8 hs (hs.take i) cell ds
     have step:∀g,hs[i]?=some g->actN hs (hs.take (i+1)) cell ds=qga hs cell (actN hs (hs.take i) cell ds) g:=λg hg=>ybf _ _ hg
     revert t7 hlen step
     generalize actN hs (hs.take i) cell ds=es
     intro t7 hlen step
     have m7:=m6.to s7 t7 (hlen.trans hpl)
     obtain ⟨g,hg,a,rfl,ha⟩:=m7.hv.get hx
     have hgm:=mem_of_getElem? hg
     obtain ⟨ns,og⟩:=m.ok g hgm
     rw[step g hg]
     unfold qga
     refine gn ?_
     refine ⟨_,rfl,a,_,_,_,rfl,rfl,sqtO ha,yae 0 rfl,zl,λp hp=>⟨p,_,rfl,.inr (sqtO qaa),rfl,rfl,_,rfl,?_⟩⟩
     rw[in3]
     have s8:Same H7 (upd H7 p (.tup [.str "turns",.str "sets",.str "keeps"])):=(smR H7).upd hp
     revert s8
     generalize upd H7 p _=H8
     intro s8
     have m8:=m7.same s8
     have ha8:=s8 _ _ ha
     have s68:=s7.trans s8
     have hel:es.length=cs.length:=hlen.trans hpl
     by_cases hw:g.w="turns"\/g.w="sets"\/g.w="keeps"
     ·refine iteD hw ?_
      have two:∃a b l,g.c=[a,b]/\hV g=.str g.w :: .int (g.cell 0) :: .int (g.cell 1) :: .int (g.bit 0)::l/\((g.w="turns"/\l=[])\/(g.w≠"turns"/\l=[.int (g.bit 1)])):=by
       rcases hw with hw|hw
       ·obtain ⟨a,b,x,ec,er⟩:=og.sTurns (hw ▸ qda)
        exact ⟨a,b,[],ec,qjq ec er,.inl ⟨hw,rfl⟩⟩
       ·obtain ⟨a,b,x,y,ec,er⟩:=og.sSets (ybm hw)
        exact ⟨a,b,_,ec,yf0 ec er,.inr ⟨by rcases hw with h|h<;>rw[h]<;>decide +kernel,rfl⟩⟩
      obtain ⟨a1,b1,l,ec,ht,hll⟩:=two
      rw[ht]at ha8
      have c1:=hi.c1 hgm ec
      refine ⟨_,rfl,a,_,_,_,rfl,rfl,sqtO ha8,yae 1 rfl,_,rfl,rfl,_,rfl,?_⟩
      rw[dI]
      by_cases hc:g.cell 0=cell
      ·refine iteD hc ?_
       refine ⟨_,rfl,a,_,_,_,rfl,rfl,sqtO ha8,yae 3 rfl,_,rfl,_,rfl,B7,_,_,_,rfl,rfl,sqtO m8.t,yco h0 (by omega),rfl,_,rfl,?_⟩
       rw[dI]
       by_cases hb2:g.bit 0=rd es cell
       ·refine iteD hb2 ?_
        rw[if_pos ⟨hw,hc,hb2⟩]
        refine ⟨_,rfl,_,rfl,_,rfl,a,_,_,_,rfl,rfl,sqtO ha8,yae 2 rfl,?_⟩
        refine ⟨_,rfl,_,rfl,a,_,rfl,sqtO ha8,?_,λq hq=>?_⟩
        ·rintro ⟨h2,_⟩
         rw[show (some 4:Option Int)=some ((4:Nat):Int) from rfl,HT.sIx_nat]at h2
         simp at h2
        have e9:upd H8 q (.tup (cutV (.str g.w :: .int (g.cell 0) :: .int (g.cell 1) :: .int (g.bit 0)::l) (some 4) none)) q=some (.tup l):=by rw[qaa,show (some 4:Option Int)=some ((4:Nat):Int) from rfl,yfb];rfl
        have s9:=(smR H8).upd (o:=.tup (cutV (.str g.w :: .int (g.cell 0) :: .int (g.cell 1) :: .int (g.bit 0)::l) (some 4) none)) hq
        revert s9 e9
        generalize upd H8 q _=H9
        intro e9 s9
        refine ⟨_,rfl,_,rfl,a,_,_,_,rfl,rfl,sqtO (s9 _ _ ha8),yae 2 rfl,B7,_,_,_,rfl,rfl,sqtO (s9 _ _ m8.t),yco c1.1 (by omega),_,_,rfl,rfl,zl,λy ny=>?_⟩
        have s10:=(smR H9).upd (o:=.tup [.int (1-rd es (g.cell 1))]) ny
        refine ⟨q,y,_,_,rfl,rfl,s10 _ _ e9,qaa,ydg (by rcases hll with ⟨_,rfl⟩|⟨_,rfl⟩<;>simp),λz H11 s11 t11=>?_⟩
        have s811:=(s9.trans s10).trans s11
        have hz0:atI (l++[V.int (1-rd es (g.cell 1))]) 0=some (.int (if g.w="turns" then 1-rd es (g.cell 1) else g.bit 1)):=by
         rcases hll with ⟨h,rfl⟩|⟨h,rfl⟩
         ·rw[if_pos h];exact yae 0 rfl
         ·rw[if_neg h];exact yae 0 rfl
        refine ⟨z,_,_,_,rfl,rfl,sqtO t11,hz0,L,B7,us,hs,es,g.cell 1,_,rfl,m8.same s811,c1.1,by omega,λr12 H12 s12 t12=>?_⟩
        exact ⟨r12,_,rfl,(s68.trans s811).trans s12,t12⟩
       ·refine ya4 hb2 ?_
        rw[if_neg (λz=>hb2 z.2.2)]
        exact ⟨B7,_,rfl,s68,m8.t⟩
      ·refine ya4 hc ?_
       rw[if_neg (λz=>hc z.2.1)]
       exact ⟨B7,_,rfl,s68,m8.t⟩
     ·refine ya4 hw ?_
      rw[if_neg (λz=>hw z.1)]
      exact ⟨B7,_,rfl,s68,m8.t⟩
    ·rintro σ H7 ⟨B7,o6,rfl,s7,t7⟩
     rw[m.hv.len,take_length]at t7
     exact ⟨_,rfl,k B7 H7 (s06.trans s7) t7⟩
  ·rintro i H2 hi2 ⟨s2,e2⟩
   refine ⟨⟨_,_,sqlO (s2 _ _ m1.hl),by rw[getElem?_eq_getElem hi2]⟩,?_⟩
   rintro x H3 ⟨rfl,hx⟩
   obtain ⟨g,hg,a,rfl,ha⟩:=m1.hv.get (hx _ (sqlO (s2 _ _ m1.hl)))
   have hgm:=mem_of_getElem? hg
   obtain ⟨ns,og⟩:=m.ok g hgm
   have ha2:=s2 _ _ ha
   have hi3:i<3:=by have:=m.hv.len;have:=m.h3;omega
   refine ⟨qaw.set (qaw.refl _) rfl,?_⟩
   rw[take_add_one,hg]
   have no:∀H',Same H3 H'->yct cs cell g=false->Same H1 H'/\H' D=some (.lst ((((hs.take i)++(some g).toList).filter (yct cs cell)).map (λh=>V.int (h.bit 1)))):=λH' s' ho=>by
    refine ⟨s2.trans s',?_⟩
    simp[ho]
    simpa using s' _ _ e2
   refine ⟨_,rfl,a,_,_,_,rfl,rfl,sqtO ha2,yae 0 rfl,rfl,_,rfl,?_⟩
   rw[dS]
   by_cases hw:g.w="keeps"
   ·refine iteD hw ?_
    obtain ⟨c1,c2,x1,x2,ec,er⟩:=og.sSets (ybm (.inr hw))
    rw[yf0 ec er]at ha2
    have c0:=hi.c0 hgm og
    refine ⟨_,rfl,_,rfl,_,rfl,a,_,rfl,sqtO ha2,?_,λq hq=>?_⟩
    ·rintro ⟨h2,_⟩
     rw[show (some 2:Option Int)=some ((2:Nat):Int) from rfl,HT.sIx_nat]at h2
     simp at h2
    have e4:upd H3 q (.tup (cutV [.str g.w,.int (g.cell 0),.int (g.cell 1),.int (g.bit 0),.int (g.bit 1)] (some 2) (some 3))) q=some (.tup [.int (g.cell 1)]):=by rw[qaa];rfl
    have s4:=(smR H3).upd (o:=.tup (cutV [.str g.w,.int (g.cell 0),.int (g.cell 1),.int (g.bit 0),.int (g.bit 1)] (some 2) (some 3))) hq
    revert s4 e4
    generalize upd H3 q _=H4
    intro e4 s4
    refine ⟨_,rfl,_,rfl,a,_,_,_,rfl,rfl,sqtO (s4 _ _ ha2),yae 1 rfl,A,_,_,_,rfl,rfl,sqtO (s4 _ _ (s2 _ _ m1.t)),yco c0.1 c0.2,zl,λy ny=>?_⟩
    have s5:=(smR H4).upd (o:=.tup [.int (rd cs (g.cell 0))]) ny
    refine ⟨q,y,_,_,rfl,rfl,s5 _ _ e4,qaa,ydg (by simp),λz H6 s6 t6=>?_⟩
    have s36:=(s4.trans s5).trans s6
    refine ⟨_,rfl,_,rfl,a,_,_,_,rfl,rfl,sqtO (s36 _ _ ha2),yae 3 rfl,z2,λu nu=>?_⟩
    have s7:=(smR H6).upd (o:=.tup [.int cell,.int (g.bit 0)]) nu
    have s37:=s36.trans s7
    refine ⟨_,_,.tup (s7 _ _ t6) (.cons (.int _) (.cons (.int _) .nil)),.tup qaa (.cons (.int _) (.cons (.int _) .nil)),rfl,rfl,by simp[PyData.depth,PyData.depthAll],_,rfl,?_⟩
    rw[kept_eqv]
    by_cases hc:g.cell 1=cell/\rd cs (g.cell 0)=g.bit 0
    ·refine iteD hc ?_
     have ho:yct cs cell g=true:=decide_eq_true ⟨hw,hc⟩
     refine ⟨_,rfl,a,_,_,_,rfl,rfl,sqtO (s37 _ _ ha2),yae 4 rfl,_,s37 _ _ e2,qbb ?_,(s2.trans s37).at hD,?_⟩
     ·have:=length_filter_le (yct cs cell) (hs.take i)
      simp at this ⊢
      omega
     ·rw[qaa];simp[ho]
    ·exact ya4 hc (no _ s37 (decide_eq_false λz=>hc z.2))
   ·exact ya4 hw (no _ (smR _) (decide_eq_false λz=>hw z.1))
def bitS(s:Str)(b:Nat)(st:Stp):Stp:=if chAt s b="1" then (st.1,!st.2) else st
def qkz:Sp:=λvs H Q _=>∃(a:Addr) (st:Stp) (bg:Str) (b:Nat),vs=[.ref a,.str (chAt bg b)]/\H a=some (.tup [.str (ydo st.1),.int (b2i st.2)])/\
 ∀r H',Same H H'->H' r=some (.tup [.str (ydo (bitS bg b st).1),.int (b2i (bitS bg b st).2)])->Q (.ref r) H'
abbrev qec:Stmt:=top 83
theorem yft:FnScope ["_law_step_here","_law_figure"] ["_law_step_here","_law_figure"] (qac qec):=fsc
theorem ok_lbit(B:Bl mg)(F:FnAt K mg "_law_bit" qec ["_law_step_here","_law_figure"]):Has P w K mg base 1 "_law_bit" ["_law_step_here","_law_figure"] qkz:=by
 refine Has.ofQ F yft (λvs H Q E h=>?_) (λ_ _ _ _ _ H vs Q E hr h=>?_)
 ·obtain ⟨a,st,bg,b,rfl,_⟩:=h
  rfl
 ·obtain ⟨a,st,bg,b,rfl,ha,k⟩:=h
  have sc:=yft
  refine ⟨_,qag rfl (yaf (qao (qa6 (ybd (qap qai (qab (pv 0)) (qab yab)) (yhi (qa5 qbz (qa5 ya7 (qap qai (qab (pv 0)) (qab yab)) (yb5 qig rfl (B.of rfl) boot_int (qa_cp (qi3 ya1 (qab (pv 1)) (qab yak) (yaj _)) qae))) (qab yab)) qae))))),?_⟩
  refine ⟨_,rfl,a,_,_,_,rfl,rfl,sqtO ha,rfl,_,rfl,a,_,_,_,rfl,rfl,sqtO ha,rfl,_,rfl,rfl,.inr ⟨_,rfl,?_⟩⟩
  rw[dS]
  unfold bitS at k
  by_cases h1:chAt bg b="1"
  ·rw[if_pos h1]at k
   rw[decide_eq_true h1]
   refine ⟨_,_,rfl,rfl,_,_,rfl,rfl,(by show (0:Int)<2;decide),zl,λr nr=>k r _ ((smR H).upd nr) ?_⟩
   rw[qaa]
   cases st.2<;>rfl
  ·rw[if_neg h1]at k
   rw[decide_eq_false h1]
   refine ⟨_,_,rfl,rfl,_,_,rfl,rfl,(by show (0:Int)<2;decide),zl,λr nr=>k r _ ((smR H).upd nr) ?_⟩
   rw[qaa]
   cases st.2<;>rfl
def qjh:Sp:=λvs H Q _=>∃(n:Nat) (o:Str),vs=[.int (n:Nat),.str o]/\n<=100/\∀D H',Same H H'->H D=none->H' D=some (.lst (((wOrd n (decide (V.str o=V.str "up"))).map Int.ofNat).map V.int))->Q (.ref D) H'
theorem qjv(n:Nat)(up:Bool):((wOrd n up).map Int.ofNat).map V.int=if up=true then yef n else (yef n).reverse:=by
 unfold wOrd yef
 cases up
 ·rw[if_neg Bool.false_ne_true,if_neg Bool.false_ne_true,List.map_reverse,List.map_reverse,List.map_map]
  rfl
 ·rw[if_pos rfl,if_pos rfl,List.map_map]
  rfl
abbrev ybx:Stmt:=top 77
theorem yci:FnScope ["_law_many","_law_order"] ["_law_many","_law_order"] (qac ybx):=fsc
theorem ok_laddr(B:Bl mg)(F:FnAt K mg "_law_addresses" ybx ["_law_many","_law_order"]):Has P w K mg base 1 "_law_addresses" ["_law_many","_law_order"] qjh:=by
 refine Has.ofQ F yci (λvs H Q E h=>?_) (λ_ _ _ _ _ H vs Q E hr h=>?_)
 ·obtain ⟨n,o,rfl,_⟩:=h
  rfl
 ·obtain ⟨n,o,rfl,hn,k⟩:=h
  have sc:=yci
  refine ⟨_,qag rfl (qad (ya9 (qar ya1 (qab (pv 1)) (qab yak) (yaj _))
    (yaf (qao (qab (qc5 hr.hd rfl (B.of rfl) rfl (B.of rfl) (yaa (pv 0) yac)))))
    qa2)
   (yaf (qao (qab (yie (qc5 hr.hd rfl (B.of rfl) rfl (B.of rfl) (yaa (pv 0) yac)) (pe_un qjn yab)))))),?_⟩
  refine ⟨_,rfl,rfl,_,rfl,?_⟩
  by_cases h:V.str o=V.str "up"
  ·refine iteD h ⟨_,rfl,n,rfl,by omega,λD nD=>k D _ ((smR H).upd nD) nD ?_⟩
   rw[qaa,qjv,decide_eq_true h,if_pos rfl]
  ·refine ya4 h ⟨_,rfl,n,rfl,by omega,λD nD=>?_⟩
   refine ⟨1,rfl,D,_,false,rfl,sqlO qaa,rfl,λp np=>?_⟩
   have s1:=(smR H).upd (o:=.lst (yef n)) nD
   refine k p _ (s1.upd np) (s1.free np) ?_
   rw[qaa,qjv,decide_eq_false h]
theorem qhd{h:Hm}{ns:List Str}(o:okH h ns)(hw:h.w="nowhere"\/h.w="other"\/h.w="both"):∃x l,hV h=.str h.w :: .int (h.cell 0) :: .int x::l/\(h.w="nowhere"->x=h.bit 0)/\(h.w≠"nowhere"->x=h.cell 1):=by
 rcases hw with hw|hw|hw
 ·obtain ⟨c,b,ec,er⟩:=o.s1 (yax (by simp[hw]))
  exact ⟨_,_,qh6 ec er,λ_=>rfl,λz=>absurd hw z⟩
 ·obtain ⟨c1,c2,ec,er⟩:=o.sOther (hw ▸ qcl)
  exact ⟨_,_,qfg ec er,λz=>absurd (hw.symm.trans z) (by decide +kernel),λ_=>rfl⟩
 ·obtain ⟨c1,c2,u,ec,er,hu⟩:=o.sBoth (hw ▸ qcd)
  exact ⟨_,_,qfg ec er,λz=>absurd (hw.symm.trans z) (by decide +kernel),λ_=>rfl⟩
noncomputable def lsM(hs:List Hm)(cs:List Int)(ad:Int)(st:Stp):V×List Int:=if st.1=true then (.non,qen hs cs ad (b2i st.2)) else (.int (ydi hs cs ad).1,(ydi hs cs ad).2)
theorem yh8(l:List Int):PyData.eqv (.list (l.map PyData.int)) (.list [])=l.isEmpty:=by
 cases l<;>simp[PyData.eqv,PyData.eqvAll]
def yjm(K:W.Frag):Sp:=λvs H Q _=>∃L A us hs cs ad sa st,vs=[.ref L,.ref A,.int ad,.ref sa]/\Hld K H L A us hs cs/\InR hs cs.length/\0<=ad/\ad<cs.length/\H sa=some (.tup [.str (ydo st.1),.int (b2i st.2)])/\∀r H',Same H H'->PrAt K H' r (lsM hs cs ad st).2 (lsM hs cs ad st).1->Q (.ref r) H'
abbrev qdn:Stmt:=top 74
theorem yeu:FnScope ["_law_harms_here","_law_held","_law_address","_law_step_here","_law_own","_law_cells_here","_law_harm_here","_law_bits","_law_cell","_law_bit_here"] ["_law_harms_here","_law_held","_law_address","_law_step_here"] (qac qdn):=fsc
theorem ok_lstep(B:Bl mg)(yhp:Has P w K mg base 2 "_law_write" ["_law_harms_here","_law_held","_law_cell","_law_bit_here"] (qhn K))(yi7:Has P w K mg base 2 "_law_look" ["_law_harms_here","_law_held","_law_cell"] (ykp K))(F:FnAt K mg "_law_step" qdn ["_law_harms_here","_law_held","_law_address","_law_step_here"]):Has P w K mg base 3 "_law_step" ["_law_harms_here","_law_held","_law_address","_law_step_here"] (yjm K):=by
 refine Has.ofQ F yeu (λvs H Q E h=>?_) (λf cdv A0 outer s H vs Q E hr h=>?_)
 ·obtain ⟨L,A,us,hs,cs,ad,sa,st,rfl,_⟩:=h
  rfl
 ·obtain ⟨L,A,us,hs,cs,ad,sa,st,rfl,m,hi,h0,h1,hsa,k⟩:=h
  have sc:=yeu
  refine cutA [7] ⟨_,qag rfl (qad (ya9 (QW.pt (qes (qar ya1 (qa1 yah rfl (B.of rfl) boot_len (yag (qab (pv 7)) qae)) (qab yab) (yaj _)) (qdr (qar ya1 (qap qai (qap qam (qab (pv 4)) (qab yab)) (qab yab)) (qab yak) (yaj _)))))
    (yaf (qao (qa6 (yag (qab (pv 1)) (yh2 (qa1 (qin rfl) rfl (B.of rfl) boot_max (yag (qab (pv 7)) qae)) qae)))))
    qa2) (yaf (qao (qa6 (yag (qab (pv 1)) (yh2 (qa1 (qij rfl) rfl (B.of rfl) boot_min (yag (qab (pv 7)) qae)) qae))))))⟩ ?_
  intro c1
  refine cutA [6] ⟨_,qag rfl (qad (ya9 (qar (ygi hr) (qab (pv 5)) (qat qae) (yaj _))
    (yaf (qao (qa6 (yag (qab (pv 1)) (ybd (qap qai (qap qam (qab (pv 4)) (qab yab)) (qab yab)) qae)))))
    qa2) c1.2)⟩ ?_
  intro c2
  refine cutA [4] ⟨_,qag rfl (qad (ya8 PassesOwn.never rfl (qbn (qab (pv 5))) (pgn 8 sc.nd)
    (yaf (ya9 (qar ya1 (qap qai (qab (pv 3)) (qab yab)) (qab yak) (yaj _))
     (yaf (qsE 1 sc.nd (yal yhp hr (yag (qab (pv 0)) (yag (qab (pv 1)) (yag (qab (pv 8)) (ybd (qap qai (qab (pv 3)) (qab yab)) qae)))))))
     (qad (qji (yal yi7 hr (yag (qab (pv 0)) (yag (qab (pv 1)) (yag (qab (pv 8)) qae)))) (qck rfl (qan (pgn 1 sc.nd) (qan (pgn 9 sc.nd) ybi))))
     (yaf (qax (yiv PySem.F.plainAttrs_list PySem.F.slot_list_append PySem.F.type_list_append qas (qab (pv 7)) (yag (qab (pv 9)) qae)))))))) (qad (ya9 (qar ya1 (qap qai (qab (pv 3)) (qab yab)) (qab yak) (yaj _))
    (yaf (qao (qa6 (yag (qab (pv 1)) (ya3 (qab qik) qae)))))
    qa2) c2.2))⟩ ?_
  intro c3
  refine cutA [2] ⟨_,qag rfl (qad (ya8 PassesOwn.never rfl (qbn (qab (pv 4))) (pgn 6 sc.nd)
    (yaf (qsE 5 sc.nd (qe_dget (hu_of hr) (qe_disp (yhc (qab yak) (qat qae) (yhc (qab yak) (qat (ybd (qap qai (qab (pv 6)) (qab yab)) qae)) (yhc (qab yak) (qat (yag (qab (pv 2)) (ybd (qap qai (qab (pv 6)) (qab yab)) qae))) qps_nil))) rfl rfl (List.cons_ne_nil _ _) (le_of_ble_eq_true rfl)) (qap qai (qab (pv 6)) (qab yab)) (λ_ _=>rfl))))) (qad (qsE 7 sc.nd (qat qae)) c3.2))⟩ ?_
  intro c4
  refine ⟨_,qag rfl (qad (qsE 4 sc.nd (yek qce (qab (qbv rfl (yaw rfl) (M:=["_law_harm_here","_law_address"]) (ix:=[none,some 2]) (qa7 (pv 0)) (λ_ _ _ _=>(yav (i:=0) (show List.Nodup (["_law_harm_here","_law_address"]:List Str) by decide +kernel) rfl (Or.inl rfl))) (λ_ _ _ _=>(yem (PW.pt (yb9 (yam (qkd (K:=K) rfl) (yan (yc6 (K:=K) rfl) (pv 0) yab) (ybn (yaa yak (yaa yak (yaa yak yac)))) (by with_unfolding_all rfl)) (yb4 (yam ya1 (yan (yc6 (K:=K) rfl) (pv 0) yab) (pv 1) (yaj _))))))) (λ_ _ _ _=>(pv 0)))) ybw (qau yab))) (qad (qsE 5 sc.nd (qat (yag (qab (pv 2)) qae))) c4.2)),?_⟩
  have z1:1<=sizeLine:=by decide
  have z2:2<=sizeLine:=by decide
  have hin:=yg2 hi m.ok h0 h1
  have hrl:=yhm (o:=ybc hs ad) (a:=ad)
  refine ⟨_,rfl,L,rfl,⟨us,sqlO m.hl⟩,λD hD=>qbp (n:=us.length) (λi H'=>Same H H'/\∃vs,H' D=some (.lst vs)/\HsV H' vs ((hs.take i).filter (ycv ad))) ⟨(smR H).upd hD,[],qaa,⟨rfl,λi v h a=>by simp at a⟩⟩ ?_ ?_⟩
  rotate_left
  ·rintro i H2 hi2 ⟨s2,vs,e2,v2⟩
   refine ⟨⟨_,_,sqlO (s2 _ _ m.hl),by rw[getElem?_eq_getElem hi2]⟩,?_⟩
   rintro x H3 ⟨rfl,hx⟩
   obtain ⟨g,hg,a,rfl,ha⟩:=m.hv.get (hx _ (sqlO (s2 _ _ m.hl)))
   have hgm:=mem_of_getElem? hg
   obtain ⟨ns,og⟩:=m.ok g hgm
   have ha2:=s2 _ _ ha
   refine ⟨qaw.set (qaw.refl _) rfl,?_⟩
   rw[take_add_one,hg]
   refine ⟨_,rfl,a,_,_,_,rfl,rfl,sqtO ha2,yae 0 rfl,zl,λp hp=>⟨p,_,rfl,.inr (sqtO qaa),rfl,rfl,_,rfl,?_⟩⟩
   rw[in3]
   have s4:Same H3 (upd H3 p (.tup [.str "nowhere",.str "other",.str "both"])):=(smR H3).upd hp
   revert s4
   generalize upd H3 p _=H4
   intro s4
   have no:ycv ad g=false->Same H H4/\∃vs,H4 D=some (.lst vs)/\HsV H4 vs (((hs.take i)++(some g).toList).filter (ycv ad)):=λho=>by
    refine ⟨s2.trans s4,vs,s4 _ _ e2,?_⟩
    simp[ho]
    simpa using v2.same s4
   by_cases hw:g.w="nowhere"\/g.w="other"\/g.w="both"
   ·refine iteD hw ?_
    obtain ⟨x,l,ht,_,_⟩:=qhd og hw
    have ha4:=s4 _ _ ha2
    have ha5:=ha4
    rw[ht]at ha5
    refine ⟨_,rfl,a,_,_,_,rfl,rfl,sqtO ha5,yae 1 rfl,_,rfl,rfl,_,rfl,?_⟩
    rw[dI]
    by_cases hc:g.cell 0=ad
    ·refine iteD hc ?_
     have ho:ycv ad g=true:=decide_eq_true ⟨hw,hc⟩
     have hvl:=v2.len
     have hfl:=length_filter_le (ycv ad) (hs.take i)
     have htl:(hs.take i).length<=hs.length:=by rw[length_take];omega
     have h3:=m.h3
     refine ⟨_,rfl,_,s4 _ _ e2,qbb (by omega),(s2.trans s4).at hD,_,qaa,?_⟩
     rw[List.filter_append,show ((some g).toList).filter (ycv ad)=[g] by simp[ho]]
     have v4:HsV (upd H4 D (.lst (vs++[.ref a]))) vs ((hs.take i).filter (ycv ad)):=⟨hvl,λj v h h1 h2=>by
      obtain ⟨b,rfl,hb⟩:=(v2.same s4).at_ j v h h1 h2
      exact ⟨b,rfl,by rw[qah (λz=>by subst z;rw[s4 _ _ e2]at hb;cases hb)];exact hb⟩⟩
     exact v4.snoc ⟨a,rfl,by rw[qah (yad ha hD)];exact ha4⟩
    ·exact ya4 hc (no (decide_eq_false λz=>hc z.2))
   ·exact ya4 hw (no (decide_eq_false λz=>hw z.1))
  rintro H2 ⟨s2,vs,e2,v2⟩
  rw[m.hv.len,take_length]at v2
  refine ⟨⟨_,sqlO (s2 _ _ m.hl),by simp⟩,?_⟩
  refine ⟨_,rfl,D,_,rfl,sqlO e2,λD1 n1=>gn ?_⟩
  rw[show (some 1:Option Int)=some ((1:Nat):Int) from rfl,yfc]
  have hw1:(ybc hs ad=none/\vs.take 1=[])\/∃g a,ybc hs ad=some g/\vs.take 1=[.ref a]/\H2 a=some (.tup (hV g)):=by
   have hao:ybc hs ad=(hs.filter (ycv ad)).head?:=by unfold ybc;rw[List.head?_filter]
   rw[hao]
   cases hf:hs.filter (ycv ad) with
   |nil=>
    rw[hf]at v2
    cases vs with
    |nil=>exact .inl ⟨rfl,rfl⟩
    |cons a b=>have:=v2.len;simp at this
   |cons g fl=>
    rw[hf]at v2
    cases vs with
    |nil=>have:=v2.len;simp at this
    |cons v0 vr=>
     obtain ⟨a,rfl,ha⟩:=v2.at_ 0 v0 g rfl rfl
     exact .inr ⟨g,a,rfl,rfl,ha⟩
  generalize vs.take 1=w1 at hw1
  have s3:=(smR H2).upd (o:=.lst w1) n1
  have f3:=@qaa H2 D1 (.lst w1)
  revert s3 f3
  generalize upd H2 D1 _=H3
  intro s3 f3
  refine ⟨_,rfl,z1,λc0 nc0=>gn ?_⟩
  have s4:=(smR H3).upd (o:=.lst [.int ad]) nc0
  have f4:=@qaa H3 c0 (.lst [.int ad])
  revert s4 f4
  generalize upd H3 c0 _=H4
  intro s4 f4
  have s34:=s3.trans s4
  have s14:=s2.trans s34
  refine ⟨_,rfl,D1,rfl,⟨_,sqlO (s4 _ _ f3)⟩,yaq (xs:=w1) (λi σ H5=>∃(c:Addr) (o6:Option V),σ=[some (.ref L),some (.ref A),some (.int ad),some (.ref sa),some (.ref D1),some (.ref c),o6,none,none,none]/\Same H4 H5/\H5 c=some (.lst ((if i=0 then [ad] else yba (ybc hs ad) ad).map V.int)))
   ⟨c0,none,rfl,smR H4,f4⟩ (λi σ H5 _ ⟨_,_,_,s5,_⟩=>sqlO (s5 _ _ (s4 _ _ f3))) ?_ ?_⟩
  ·rintro i y σ H5 hy ⟨c,o6,rfl,s5,c5⟩
   obtain ⟨e,rfl⟩|⟨g,a,hag,rfl,ha⟩:=hw1
   ·simp at hy
   obtain rfl:i=0:=by cases i with
    |zero=>rfl
    |succ i=>simp at hy
   cases hy
   obtain ⟨hgm,hw,_⟩:=ybp hag
   obtain ⟨ns,og⟩:=m.ok g hgm
   obtain ⟨x,l,ht,hx1,hx2⟩:=qhd og hw
   have ha5:=s5 _ _ (s34 _ _ ha)
   rw[ht]at ha5
   refine gn ?_
   intro q hq
   have s6:Same H5 (upd H5 q (.dK [])):=(smR H5).upd hq
   have q6:=@qaa H5 q (.dK [])
   revert s6 q6
   generalize upd H5 q _=H6
   intro s6 q6
   refine ⟨zero_le _,λl1 y1=>?_⟩
   have s7:Same H6 (upd H6 l1 (.lst [])):=(smR H6).upd y1
   have f7:=@qaa H6 l1 (.lst [])
   revert s7 f7
   generalize upd H6 l1 _=H7
   intro s7 f7
   have s57:=s6.trans s7
   refine ⟨_,rfl,a,_,_,_,rfl,rfl,sqtO (s57 _ _ ha5),yae 2 rfl,z1,λl2 y2=>?_⟩
   have s8:Same H7 (upd H7 l2 (.lst [.int x])):=(smR H7).upd y2
   have f8:=@qaa H7 l2 (.lst [.int x])
   revert s8 f8
   generalize upd H7 l2 _=H8
   intro s8 f8
   have s58:=s57.trans s8
   refine ⟨_,rfl,_,rfl,a,_,_,_,rfl,rfl,sqtO (s58 _ _ ha5),yae 2 rfl,z2,λl3 y3=>?_⟩
   have s9:Same H8 (upd H8 l3 (.lst [.int ad,.int x])):=(smR H8).upd y3
   have f9:=@qaa H8 l3 (.lst [.int ad,.int x])
   revert s9 f9
   generalize upd H8 l3 _=H9
   intro s9 f9
   have s59:=s58.trans s9
   have q9:=s9 _ _ (s8 _ _ (s7 _ _ q6))
   refine ⟨q9,[(.inr "nowhere",.ref l1),(.inr "other",.ref l2),(.inr "both",.ref l3)],rfl,by simp,?_⟩
   have s10:Same H5 (upd H9 q (.dK (qet [] [(.inr "nowhere",.ref l1),(.inr "other",.ref l2),(.inr "both",.ref l3)]))):=λb o hb=>by rw[qah (yad hb hq)];exact s59 _ _ hb
   have q10:=@qaa H9 q (.dK (qet [] [(.inr "nowhere",.ref l1),(.inr "other",.ref l2),(.inr "both",.ref l3)]))
   have nl:∀{b:Addr}{xs:List V},H9 b=some (.lst xs)->upd H9 q (.dK (qet [] [(.inr "nowhere",.ref l1),(.inr "other",.ref l2),(.inr "both",.ref l3)])) b=some (.lst xs):=λhb=>by rw[qah (λz=>by subst z;rw[q9]at hb;cases hb)];exact hb
   have g1:=nl (s9 _ _ (s8 _ _ f7))
   have g2:=nl (s9 _ _ f8)
   have g3:=nl f9
   clear nl
   revert s10 q10 g1 g2 g3
   generalize upd H9 q _=H10
   intro s10 q10 g1 g2 g3
   refine ⟨_,rfl,a,_,_,_,rfl,rfl,sqtO (s10 _ _ ha5),yae 0 rfl,?_⟩
   rw[if_neg (Nat.succ_ne_zero 0),hag]
   have n1:g.w≠"nowhere"->yba (some g) ad=if g.w="other" then [x] else [ad,x]:=λn=>by unfold yba;dsimp only;rw[if_neg n,hx2 n]
   rcases hw with hw|hw|hw
   ·refine ⟨q,.ref l1,rfl,?_,l1,_,rfl,s5.trans s10,?_⟩
    ·rw[hw]
     exact DGet.k (k:=Sum.inr "nowhere") q10
    ·have:yba (some g) ad=[]:=by unfold yba;simp[hw]
     rw[this]
     exact g1
   ·refine ⟨q,.ref l2,rfl,?_,l2,_,rfl,s5.trans s10,?_⟩
    ·rw[hw]
     exact DGet.k (k:=Sum.inr "other") q10
    ·rw[n1 λz=>absurd (hw.symm.trans z) (by decide +kernel),if_pos hw]
     exact g2
   ·refine ⟨q,.ref l3,rfl,?_,l3,_,rfl,s5.trans s10,?_⟩
    ·rw[hw]
     exact DGet.k (k:=Sum.inr "both") q10
    ·rw[n1 λz=>absurd (hw.symm.trans z) (by decide +kernel),if_neg λz=>absurd (hw.symm.trans z) (by decide +kernel)]
     exact g3
  ·rintro σ H5 ⟨c,o6,rfl,s5,c5⟩
   have c5:H5 c=some (.lst ((yba (ybc hs ad) ad).map V.int)):=by
    rw[c5]
    obtain ⟨e,rfl⟩|⟨g,a,hag,rfl,ha⟩:=hw1
    ·rw[e];rfl
    ·rfl
   have s15:=s14.trans s5
   refine ⟨zero_le _,λp hp=>gn ?_⟩
   have s6:=(smR H5).upd (o:=.lst []) hp
   have f6:=@qaa H5 p (.lst [])
   revert s6 f6
   generalize upd H5 p _=H6
   intro s6 f6
   have s16:=s15.trans s6
   have c6:=s6 _ _ c5
   have hpH:H p=none:=s15.free hp
   have ncp:c≠p:=yad c5 hp
   obtain ⟨wr,bt⟩:=st
   cases wr with
   |true=>
    have hsa:H sa=some (.tup [.str (ydo true),.int (b2i bt)]):=hsa
    have k:∀r H',Same H H'->PrAt K H' r (qdo hs (b2i bt) (yba (ybc hs ad) ad) cs) .non->Q (.ref r) H':=k
    revert k hin c6
    generalize yba (ybc hs ad) ad=rc
    intro hin c6 k
    refine ⟨_,rfl,c,rfl,⟨_,sqlO c6⟩,yaq (xs:=rc.map V.int) (λi σ H7=>∃(Bb:Addr) (o8:Option V),σ=[some (.ref L),some (.ref Bb),some (.int ad),some (.ref sa),some (.ref D1),some (.ref c),o6,some (.ref p),o8,none]/\Same H6 H7/\H7 Bb=some (.tup ((qdo hs (b2i bt) (rc.take i) cs).map V.int)))
     ⟨A,none,rfl,smR H6,s16 _ _ m.t⟩ (λi σ H7 _ ⟨_,_,_,s7,_⟩=>sqlO (s7 _ _ c6)) ?_ ?_⟩
    ·rintro i y σ H7 hy ⟨Bb,o8,rfl,s7,t7⟩
     obtain ⟨ce,hce,rfl⟩:=qaz hy
     have hci:=hin ce (mem_of_getElem? hce)
     have hl:=ydn hs (b2i bt) (rc.take i) cs
     have s17:=s16.trans s7
     have m7:=m.to s17 t7 hl
     have w7:=s17 _ _ hsa
     refine gn ?_
     refine ⟨_,rfl,sa,_,_,_,rfl,rfl,sqtO w7,yae 0 rfl,rfl,_,rfl,iteB (by decide +kernel) ?_⟩
     refine ⟨_,rfl,_,rfl,_,rfl,_,rfl,sa,_,_,_,rfl,rfl,sqtO w7,yae 1 rfl,L,Bb,us,hs,_,ce,b2i bt,rfl,m7,by rw[hl];exact hi,hci.1,by rw[hl];exact hci.2,λB8 H8 s8 t8=>?_⟩
     refine ⟨B8,_,rfl,s7.trans s8,?_⟩
     unfold qdo at t8 ⊢
     rw[ybf _ _ hce]
     exact t8
    ·rintro σ H7 ⟨Bb,o8,rfl,s7,t7⟩
     rw[length_map,take_length]at t7
     have s17:=s16.trans s7
     refine ⟨_,rfl,sa,_,_,_,rfl,rfl,sqtO (s17 _ _ hsa),yae 0 rfl,rfl,_,rfl,iteB (by decide +kernel) ?_⟩
     refine ⟨_,rfl,z2,λr nr=>?_⟩
     exact k r _ (s17.upd nr) ⟨Bb,qaa,((smR H7).upd nr) _ _ t7⟩
   |false=>
    have hsa:H sa=some (.tup [.str (ydo false),.int (b2i bt)]):=hsa
    have k:∀r H',Same H H'->PrAt K H' r (ya0 hs (yba (ybc hs ad) ad) cs).2 (.int (qg0 (ybc hs ad) (ya0 hs (yba (ybc hs ad) ad) cs).1))->Q (.ref r) H':=k
    revert k hin c6 hrl
    generalize hrc:yba (ybc hs ad) ad=rc
    intro hin hrl c6 k
    have kp:∀{b:Addr}{u:HO}{H7:Hp},(∀b u,b≠p->H6 b=some u->H7 b=some u)->H b=some u->H7 b=some u:=λ{b u H7} s7 e=>s7 _ _ (yad e hpH) (s16 _ _ e)
    refine ⟨_,rfl,c,rfl,⟨_,sqlO c6⟩,yaq (xs:=rc.map V.int) (λi σ H7=>∃(Bb:Addr) (o8 o9:Option V),σ=[some (.ref L),some (.ref Bb),some (.int ad),some (.ref sa),some (.ref D1),some (.ref c),o6,some (.ref p),o8,o9]/\(∀b u,b≠p->H6 b=some u->H7 b=some u)/\H7 p=some (.lst ((ya0 hs (rc.take i) cs).1.map V.int))/\H7 Bb=some (.tup ((ya0 hs (rc.take i) cs).2.map V.int)))
     ⟨A,none,none,rfl,λb u _ e=>e,f6,s16 _ _ m.t⟩ (λi σ H7 _ ⟨_,_,_,_,s7,_⟩=>sqlO (s7 _ _ ncp c6)) ?_ ?_⟩
    ·rintro i y σ H7 hy ⟨Bb,o8,o9,rfl,s7,e7,t7⟩
     obtain ⟨ce,hce,rfl⟩:=qaz hy
     have hci:=hin ce (mem_of_getElem? hce)
     have hl:=qdf hs (rc.take i) cs
     have s17:Same H H7:=λb u e=>kp s7 e
     have m7:=m.to s17 t7 hl
     have w7:=s17 _ _ hsa
     refine gn ?_
     refine ⟨_,rfl,sa,_,_,_,rfl,rfl,sqtO w7,yae 0 rfl,rfl,_,rfl,iteN (by decide +kernel) ?_⟩
     refine ⟨_,rfl,_,rfl,_,rfl,L,Bb,us,hs,_,ce,rfl,m7,hci.1,by rw[hl];exact hci.2,λr8 H8 s8 ⟨B8,r8e,t8⟩=>?_⟩
     have es:ya0 hs (rc.take (i+1)) cs=((ya0 hs (rc.take i) cs).1++[(ycg hs (ya0 hs (rc.take i) cs).2 ce).1],(ycg hs (ya0 hs (rc.take i) cs).2 ce).2):=by rw[take_add_one,hce];exact ydw hs ce (rc.take i) cs
     have e8:=s8 _ _ e7
     refine ⟨r8,_,rfl,sqtO r8e,rfl,_,_,rfl,_,_,rfl,rfl,gn ?_⟩
     refine ⟨_,rfl,.inl ⟨rfl,_,sqlO e8⟩,_,rfl,p,_,_,rfl,rfl,e8,qbb (by rw[length_map,ycf,length_take];omega),?_⟩
     rw[es]
     refine ⟨B8,_,_,rfl,λb u hb e=>by rw[qah hb];exact s8 _ _ (s7 b u hb e),by rw[qaa,map_append];rfl,?_⟩
     rw[qah (λz=>by rw[z,e8]at t8;cases t8)]
     exact t8
    ·rintro σ H7 ⟨Bb,o8,o9,rfl,s7,e7,t7⟩
     rw[length_map,take_length]at t7 e7
     have s17:Same H H7:=λb u e=>kp s7 e
     have c7:=s7 _ _ ncp c6
     have nDp:D1≠p:=yad (s5 _ _ (s4 _ _ f3)) hp
     have d7:=s7 _ _ nDp (s6 _ _ (s5 _ _ (s4 _ _ f3)))
     have hfl:=ycf hs rc cs
     have own7:∀g a,H2 a=some (.tup (hV g))->H7 a=some (.tup (hV g)):=λg a ha=>by
      have h5:=s5 _ _ (s34 _ _ ha)
      exact s7 _ _ (yad h5 hp) (s6 _ _ h5)
     refine ⟨_,rfl,sa,_,_,_,rfl,rfl,sqtO (s17 _ _ hsa),yae 0 rfl,rfl,_,rfl,iteN (by decide +kernel) ?_⟩
     have fin:∀H8 v,Same H7 H8->v=V.int (qg0 (ybc hs ad) (ya0 hs rc cs).1)->∀r,H8 r=none->Q (.ref r) (upd H8 r (.tup [.ref Bb,v])):=λH8 v s8 hv r nr=>k r _ ((s17.trans s8).upd nr) ⟨Bb,by rw[qaa,hv],((smR H8).upd nr) _ _ (s8 _ _ t7)⟩
     revert fin e7 hfl
     generalize (ya0 hs rc cs).1=r1
     intro e7 hfl fin
     refine ⟨_,rfl,zero_le _,λz hz=>?_⟩
     have s8:=(smR H7).upd (o:=.lst []) hz
     have q8:=@qaa H7 z (.lst [])
     revert s8 q8
     generalize upd H7 z _=H8
     intro s8 q8
     refine ⟨_,_,.lst (s8 _ _ c7) (yi5 rc),.lst q8 .nil,yh6 rc,rfl,qif rc,_,rfl,?_⟩
     rw[yh8]
     have e8:=s8 _ _ e7
     have d8:=s8 _ _ d7
     obtain ⟨e,rfl⟩|⟨g,a,hag,rfl,ha⟩:=hw1
     ·rw[e]at hrc fin
      subst hrc
      refine iteN rfl ?_
      obtain ⟨b,rfl⟩:∃b,r1=[b]:=by
       cases r1 with
       |nil=>simp[yba]at hfl
       |cons b l=>cases l with
        |nil=>exact ⟨b,rfl⟩
        |cons _ _=>simp[yba]at hfl
      refine ⟨_,rfl,p,_,rfl,.inl (sqlO e8),rfl,_,rfl,?_⟩
      rw[dI]
      refine ya4 (by simp) ⟨_,rfl,_,rfl,p,_,rfl,e8,by simp,λM h1 h2=>⟨z2,λr nr=>?_⟩⟩
      exact fin H8 _ s8 (by rw[mem_singleton.mp h1];rfl) r nr
     ·obtain ⟨hgm,hw,_⟩:=ybp hag
      obtain ⟨ns,og⟩:=m.ok g hgm
      have ha8:=s8 _ _ (own7 g a ha)
      rw[hag]at hrc fin
      rcases hw with hw|hw|hw
      ·obtain ⟨x,l,ht,hx1,hx2⟩:=qhd og (.inl hw)
       have:yba (some g) ad=[]:=by unfold yba;simp[hw]
       rw[this]at hrc
       subst hrc
       obtain rfl:r1=[]:=List.eq_nil_of_length_eq_zero hfl
       rw[ht]at ha8
       refine iteT ⟨_,rfl,_,rfl,D1,_,_,_,rfl,rfl,sqlO d8,yae 0 rfl,a,_,_,_,rfl,rfl,sqtO ha8,yae 2 rfl,z2,λr nr=>?_⟩
       exact fin H8 _ s8 (by rw[hx1 hw];rfl) r nr
      ·have:yba (some g) ad=[g.cell 1]:=by unfold yba;dsimp only;rw[if_neg (λz=>absurd (hw.symm.trans z) (by decide +kernel)),if_pos hw]
       rw[this]at hrc
       subst hrc
       refine iteN rfl ?_
       obtain ⟨b,rfl⟩:∃b,r1=[b]:=by
        cases r1 with
        |nil=>simp at hfl
        |cons b l=>cases l with
         |nil=>exact ⟨b,rfl⟩
         |cons _ _=>simp at hfl
       refine ⟨_,rfl,p,_,rfl,.inl (sqlO e8),rfl,_,rfl,?_⟩
       rw[dI]
       refine ya4 (by simp) ⟨_,rfl,_,rfl,p,_,rfl,e8,by simp,λM h1 h2=>⟨z2,λr nr=>?_⟩⟩
       exact fin H8 _ s8 (by rw[mem_singleton.mp h1];rfl) r nr
      ·have:yba (some g) ad=[ad,g.cell 1]:=by unfold yba;dsimp only;rw[if_neg (λz=>absurd (hw.symm.trans z) (by decide +kernel)),if_neg (λz=>absurd (hw.symm.trans z) (by decide +kernel))]
       rw[this]at hrc
       subst hrc
       refine iteN rfl ?_
       obtain ⟨b,b2,rfl⟩:∃b b2,r1=[b,b2]:=by
        cases r1 with
        |nil=>simp at hfl
        |cons b l=>cases l with
         |nil=>simp at hfl
         |cons b2 l=>cases l with
          |nil=>exact ⟨b,b2,rfl⟩
          |cons _ _=>simp at hfl
       obtain ⟨c1',c2',u,ec,er,hu⟩:=og.sBoth (hw ▸ qcd)
       rw[qfg ec er]at ha8
       refine ⟨_,rfl,p,_,rfl,.inl (sqlO e8),rfl,_,rfl,?_⟩
       rw[dI]
       refine iteD (by simp) ⟨_,rfl,D1,_,_,_,rfl,rfl,sqlO d8,yae 0 rfl,a,_,_,_,rfl,rfl,sqtO ha8,yae 3 rfl,?_⟩
       rcases hu with rfl|rfl
       ·refine ⟨rfl,_,rfl,iteN (by decide +kernel) ⟨_,rfl,_,rfl,p,_,rfl,e8,by simp,λM h1 h2=>⟨z2,λr nr=>?_⟩⟩⟩
        refine fin H8 _ s8 ?_ r nr
        rw[lo_of h1 h2]
        unfold qg0
        dsimp only
        rw[if_pos ⟨g,rfl,er⟩]
       ·refine ⟨rfl,_,rfl,iteB (by decide +kernel) ⟨_,rfl,_,rfl,p,_,rfl,e8,by simp,λM h1 h2=>⟨z2,λr nr=>?_⟩⟩⟩
        refine fin H8 _ s8 ?_ r nr
        rw[hi_of h1 h2]
        unfold qg0
        dsimp only
        rw[if_neg]
        rintro ⟨h',e1,e2⟩
        cases e1
        rw[er]at e2
        have:=V.str.inj (List.cons.inj e2).1
        exact absurd this (by decide +kernel)
theorem yjq(hs:List Hm)(cs:List Int):∀n j:Nat,(stkN hs cs n)[j]?=if j<n then cs[j]?.map (λc=>(ybo hs (j:Int)).getD c) else cs[j]?
 |0,j=>(if_neg (not_lt_zero j)).symm
 |n+1,j=>by
  have ih:=yjq hs cs n j
  unfold stkN
  cases hb:ybo hs (n:Int) with
  |none=>
   dsimp only
   rw[ih]
   by_cases h:j<n
   ·rw[if_pos h,if_pos (by omega)]
   ·rw[if_neg h]
    by_cases h2:j<n+1
    ·obtain rfl:j=n:=by omega
     rw[if_pos h2,hb]
     simp
    ·rw[if_neg h2]
  |some b=>
   dsimp only
   rw[List.getElem?_set,ydc]
   by_cases h:n=j
   ·subst h
    rw[if_pos rfl,if_pos (Nat.lt_succ_self n),hb]
    by_cases h3:n<cs.length
    ·rw[if_pos h3,getElem?_eq_getElem h3];rfl
    ·rw[if_neg h3,getElem?_eq_none (by omega)];rfl
   ·rw[if_neg h,ih]
    by_cases h2:j<n
    ·rw[if_pos h2,if_pos (by omega)]
    ·rw[if_neg h2,if_neg (by omega)]
theorem qj6(hs:List Hm)(j c:Int):((hs.filter (yay j)).map (λh=>V.int (h.bit 0))++[V.int c]).take 1=[V.int ((ybo hs j).getD c)]:=by
 unfold ybo
 rw[<-List.head?_filter]
 cases hs.filter (yay j)<;>rfl
def qhp:Sp:=λvs H Q _=>∃(L C:Addr) (us:List V) (hs:List Hm) (cs:List Int),vs=[.ref L,.ref C]/\H L=some (.lst us)/\HsV H us hs/\Oks hs/\hs.length<=3/\InR hs cs.length/\H C=some (.lst (cs.map V.int))/\cs.length<=64/\∀r H',Same H H'->H' r=some (.tup ((yas hs cs).map V.int))->Q (.ref r) H'
abbrev qdc:Stmt:=top 75
theorem qd5:FnScope ["_law_harms_here","_law_contents_here","_law_held","_law_cell","_law_harm_here"] ["_law_harms_here","_law_contents_here"] (qac qdc):=fsc
theorem yl6(B:Bl mg)(qb1:Has P w K mg base 1 "_law_put" ["_law_harms_here","_law_held","_law_cell","_law_bit_here"] (qg3 K))(F:FnAt K mg "_law_first" qdc ["_law_harms_here","_law_contents_here"]):Has P w K mg base 2 "_law_first" ["_law_harms_here","_law_contents_here"] qhp:=by
 refine Has.ofQ F qd5 (λvs H Q E h=>?_) (λf cdv A0 outer s H vs Q E hr h=>?_)
 ·obtain ⟨L,C,us,hs,cs,rfl,_⟩:=h
  rfl
 ·obtain ⟨L,C,us,hs,cs,rfl,hL,hv,ok,h3,hi,hC,hn,k⟩:=h
  have sc:=qd5
  refine cutA [2] ⟨_,qag rfl (qad (ya8 PassesOwn.never rfl (qbn (qab (pv 0))) (pgn 4 sc.nd)
    (yaf (ya9 (QW.pt (qes (qar ya1 (qap qai (qab (pv 4)) (qab yab)) (qab yak) (yaj _)) (qdr (qar ya1 (qap qai (qab (pv 2)) (qap qai (qab (pv 4)) (qab yab))) (qap qai (qab (pv 4)) (qab yab)) (yaj _)))))
     (yaf (qsE 2 sc.nd (yal qb1 hr (yag (qab (pv 0)) (yag (qab (pv 2)) (ybd (qap qai (qab (pv 4)) (qab yab)) (ybd (qap qai (qab (pv 4)) (qab yab)) qae)))))))
     qa2))) (yaf (qao (qab (pv 2)))))⟩ ?_
  intro c1
  refine cutA [1] ⟨_,qag rfl (qad (ya8 PassesOwn.never rfl (qf9 (qa8 rfl (B.of rfl) (yaa (qak yah rfl (B.of rfl) boot_len (yaa (pv 1) yac)) yac))) (yav (i:=3) sc.nd rfl (Or.inr rfl))
    (yaf (qsE 2 sc.nd (qa5 yfi (qab (pv 2)) (yb5 yhd rfl (B.of rfl) boot_tuple (ybd (yek qce (qa5 qdb (qab (qbv rfl (yaw rfl) (M:=["_law_harm_here","_law_cell"]) (ix:=[none,some 3]) (qa7 (pv 0)) (λ_ _ _ _=>(yav (i:=0) (show List.Nodup (["_law_harm_here","_law_cell"]:List Str) by decide +kernel) rfl (Or.inl rfl))) (λ_ _ _ _=>(yem (yam (ygi hr) (qcq (qi6 (K:=K) rfl) (pv 0) ybw (qau yab)) (ybn (yaa yak (yaa (pv 1) yac))) (yaj _)))) (λ_ _ _ _=>(yan (yc6 (K:=K) rfl) (pv 0) yab)))) (qat (ybd (qap qam (qab (pv 1)) (qab (pv 3))) qae))) ybw (qau yab)) qae)))))) c1.2)⟩ ?_
  intro c2
  refine ⟨_,qag rfl (qad (qsE 2 sc.nd (qa6 qae)) c2.2),?_⟩
  have z1:1<=sizeLine:=by decide
  have z2:2<=sizeLine:=by decide
  have ul:=hv.len
  refine ⟨zero_le _,λA nA=>gn ?_⟩
  have s1:=(smR H).upd (o:=.tup []) nA
  have f1:=@qaa H A (.tup [])
  revert s1 f1
  generalize upd H A _=H1
  intro s1 f1
  have gl:=ydc hs cs cs.length
  have gg:=yjq hs cs cs.length
  refine ⟨_,rfl,C,_,rfl,.inl (sqlO (s1 _ _ hC)),cs.length,(by rw[length_map]),(by omega),(by omega),qbl (n:=cs.length) (λi σ H2=>∃(Bb:Addr) (o3:Option V),σ=[some (.ref L),some (.ref C),some (.ref Bb),o3,none]/\Same H H2/\H2 Bb=some (.tup (((stkN hs cs cs.length).take i).map V.int)))
   ⟨A,none,rfl,s1,f1⟩ ?_ ?_⟩
  ·rintro i σ H2 hlt ⟨Bb,o3,rfl,s2,t2⟩
   rw[zero_add]
   refine gn ?_
   refine ⟨_,rfl,_,rfl,L,rfl,⟨us,sqlO (s2 _ _ hL)⟩,λD hD=>qbp (n:=us.length) (λj H'=>Same H2 H'/\H' D=some (.lst (((hs.take j).filter (yay i)).map (λh=>V.int (h.bit 0))))) ⟨(smR H2).upd hD,qaa⟩ ?_ ?_⟩
   ·rintro H3 ⟨s3,e3⟩
    rw[ul,take_length]at e3
    refine ⟨⟨_,sqlO (s3 _ _ (s2 _ _ hL)),by simp⟩,?_⟩
    have hfl:=length_filter_le (yay i) hs
    have hci:(cs.map V.int)[i]?=some (.int (cs[i]'hlt)):=by rw[getElem?_map,getElem?_eq_getElem hlt];rfl
    refine ⟨_,rfl,_,rfl,C,_,_,_,rfl,rfl,sqlO (s3 _ _ (s2 _ _ hC)),ybl hci,z1,λp hp=>?_⟩
    have s4:=(smR H3).upd (o:=.lst [V.int (cs[i]'hlt)]) hp
    have p4:=@qaa H3 p (.lst [V.int (cs[i]'hlt)])
    revert s4 p4
    generalize upd H3 p _=H4
    intro s4 p4
    refine ⟨D,p,_,_,rfl,rfl,s4 _ _ e3,p4,le_of_lt (qbb (by simp;omega)),λq hq=>?_⟩
    have s5:=(smR H4).upd (o:=.lst ((hs.filter (yay i)).map (λh=>V.int (h.bit 0))++[V.int (cs[i]'hlt)])) hq
    have e5:upd H4 q (.lst ((hs.filter (yay i)).map (λh=>V.int (h.bit 0))++[V.int (cs[i]'hlt)])) q=some _:=qaa
    revert s5 e5
    generalize upd H4 q _=H5
    intro s5 e5
    refine ⟨_,rfl,q,_,rfl,sqlO e5,λy ny=>?_⟩
    rw[show (some 1:Option Int)=some ((1:Nat):Int) from rfl,yfc,qj6]
    have s6:=(smR H5).upd (o:=.lst [V.int ((ybo hs i).getD (cs[i]'hlt))]) ny
    have e6:upd H5 y (.lst [V.int ((ybo hs i).getD (cs[i]'hlt))]) y=some _:=qaa
    revert s6 e6
    generalize upd H5 y _=H6
    intro s6 e6
    refine ⟨y,_,rfl,.inl ⟨sqlO e6,λl nl=>?_⟩⟩
    have s7:=(smR H6).upd (o:=.tup [V.int ((ybo hs i).getD (cs[i]'hlt))]) nl
    have s27:=(((s3.trans s4).trans s5).trans s6).trans s7
    refine ⟨Bb,l,_,_,rfl,rfl,s27 _ _ t2,qaa,ydg (by simp;omega),λr H8 s8 t8=>?_⟩
    refine ⟨r,_,rfl,(s2.trans s27).trans s8,?_⟩
    rw[t8,take_add_one,gg i,if_pos hlt,getElem?_eq_getElem hlt,map_append]
    rfl
   ·rintro j H3 hj ⟨s3,e3⟩
    have hL3:=s3 _ _ (s2 _ _ hL)
    refine ⟨⟨_,_,sqlO hL3,by rw[getElem?_eq_getElem hj]⟩,?_⟩
    rintro x H4 ⟨rfl,hx⟩
    obtain ⟨g,hg,a,rfl,ha⟩:=hv.get (hx _ (sqlO hL3))
    obtain ⟨ns,og⟩:=ok g (mem_of_getElem? hg)
    have ha2:=s3 _ _ (s2 _ _ ha)
    refine ⟨qaw.set (qaw.refl _) rfl,?_⟩
    refine ⟨_,rfl,_,rfl,a,_,rfl,sqtO ha2,qjp og,λq hq=>?_⟩
    rw[qhu og]
    have s4:=(smR H4).upd (o:=.tup [.str g.w,.int (g.cell 0)]) hq
    have e4:=@qaa H4 q (.tup [.str g.w,.int (g.cell 0)])
    revert s4 e4
    generalize upd H4 q _=H5
    intro s4 e4
    refine ⟨_,rfl,z2,λr hr2=>?_⟩
    have s5:=(smR H5).upd (o:=.tup [.str "stuck",.int i]) hr2
    have e5:=@qaa H5 r (.tup [.str "stuck",.int i])
    revert s5 e5
    generalize upd H5 r _=H6
    intro s5 e5
    have s46:=s4.trans s5
    refine ⟨_,_,.tup (s5 _ _ e4) (.cons (.str _) (.cons (.int _) .nil)),.tup e5 (.cons (.str _) (.cons (.int _) .nil)),?_,yhx i,by simp[PyData.depth,PyData.depthAll],_,rfl,?_⟩
    ·simp[PyData.canLay0,PyData.canLayAll0]
     exact qg1 _ (yc2 og.tab)
    rw[qic,take_add_one,hg]
    cases hst:yay i g with
    |true=>
     have hw:g.w="stuck":=by unfold yay at hst;simp at hst;exact hst.1
     obtain ⟨c,b,ec,er⟩:=og.s1 (yax (by simp[hw]))
     have ha6:=s46 _ _ ha2
     rw[qh6 ec er]at ha6
     refine iteT ⟨_,rfl,a,_,_,_,rfl,rfl,sqtO ha6,yae 2 rfl,_,s46 _ _ e3,qbb ?_,(s3.trans s46).at hD,?_⟩
     ·have:=length_filter_le (yay i) (hs.take j)
      simp at this ⊢
      omega
     ·rw[qaa];simp[hst]
    |false=>
     refine iteF ⟨s3.trans s46,?_⟩
     simp[hst]
     simpa using s46 _ _ e3
  ·rintro σ H2 ⟨Bb,o3,rfl,s2,t2⟩
   rw[take_of_length_le (by rw[gl];exact le_refl _)]at t2
   clear gg
   unfold yas at k
   revert k t2 gl
   generalize stkN hs cs cs.length=ds
   intro k gl t2
   have hL2:=s2 _ _ hL
   refine ⟨_,rfl,L,rfl,⟨us,sqlO hL2⟩,yaq (xs:=us) (λi σ H3=>∃(B3:Addr) (o4:Option V),σ=[some (.ref L),some (.ref C),some (.ref B3),o3,o4]/\Same H2 H3/\H3 B3=some (.tup ((yfj hs (hs.take i) ds).map V.int)))
    ⟨Bb,none,rfl,smR H2,t2⟩ (λi σ H3 _ ⟨_,_,_,s3,_⟩=>sqlO (s3 _ _ hL2)) ?_ ?_⟩
   ·rintro i x σ H3 hx ⟨B3,o4,rfl,s3,t3⟩
    have hlen:=qfy hs (hs.take i) ds
    have step:∀g,hs[i]?=some g->yfj hs (hs.take (i+1)) ds=ydu hs (yfj hs (hs.take i) ds) g:=λg hg=>ybf _ _ hg
    revert hlen step t3
    generalize yfj hs (hs.take i) ds=es
    intro t3 hlen step
    have s03:=s2.trans s3
    obtain ⟨g,hg,a,rfl,ha⟩:=(hv.same s03).get hx
    have hgm:=mem_of_getElem? hg
    obtain ⟨ns,og⟩:=ok g hgm
    rw[step g hg]
    unfold ydu
    refine gn ?_
    refine ⟨_,rfl,a,_,_,_,rfl,rfl,sqtO ha,yae 0 rfl,rfl,_,rfl,?_⟩
    rw[dS]
    by_cases hw:g.w="keeps"
    ·refine iteD hw ?_
     obtain ⟨c1,c2,x1,x2,ec,er⟩:=og.sSets (ybm (.inr hw))
     have c0:=hi.c0 hgm og
     have c1:=hi.c1 hgm ec
     rw[yf0 ec er]at ha
     refine ⟨_,rfl,_,rfl,a,_,_,_,rfl,rfl,sqtO ha,yae 1 rfl,B3,_,_,_,rfl,rfl,sqtO t3,yco c0.1 (by omega),?_⟩
     refine ⟨_,rfl,a,_,_,_,rfl,rfl,sqtO ha,yae 3 rfl,rfl,_,rfl,?_⟩
     rw[dI]
     by_cases hb:rd es (g.cell 0)=g.bit 0
     ·refine iteD hb ?_
      refine ⟨_,rfl,_,rfl,_,rfl,a,_,_,_,rfl,rfl,sqtO ha,yae 2 rfl,_,rfl,a,_,_,_,rfl,rfl,sqtO ha,yae 4 rfl,L,B3,us,hs,es,g.cell 1,g.bit 1,rfl,⟨s3 _ _ hL2,hv.same s03,ok,h3,t3,by omega⟩,c1.1,by omega,λr H4 s4 t4=>?_⟩
      rw[if_pos ⟨hw,hb⟩]
      exact ⟨r,_,rfl,s3.trans s4,t4⟩
     ·refine ya4 hb ?_
      rw[if_neg (λz=>hb z.2)]
      exact ⟨B3,_,rfl,s3,t3⟩
    ·refine ya4 hw ?_
     rw[if_neg (λz=>hw z.1)]
     exact ⟨B3,_,rfl,s3,t3⟩
   ·rintro σ H3 ⟨B3,o4,rfl,s3,t3⟩
    rw[ul,take_length]at t3
    exact ⟨_,rfl,k B3 H3 (s2.trans s3) t3⟩
def WdAt(H:Hp)(r:Addr)(k wd:Nat):Prop:=∃ts:List V,H r=some (.lst ts)/\ts.length=wd/\∀(b:Nat) (t:V),ts[b]?=some t->∃a,t=.ref a/\H a=some (.tup [.int ((k*wd+b:Nat):Int),.int (b:Nat)])
theorem WdAt.kp{H H':Hp}{p r:Addr}{k wd:Nat}(h:WdAt H r k wd)(n:∀xs,H p≠some (.tup xs))(np:r≠p)(s:∀b u,b≠p->H b=some u->H' b=some u):WdAt H' r k wd:=by
 obtain ⟨ts,e,l,g⟩:=h
 refine ⟨ts,s _ _ np e,l,λb t ht=>?_⟩
 obtain ⟨a,rfl,ha⟩:=g b t ht
 exact ⟨a,rfl,s _ _ (λz=>n _ (z ▸ ha)) ha⟩
structure RwAt(H:Hp)(R:Addr)(ra:List Addr)(ks:List Nat)(wd:Nat):Prop where
 l:H R=some (.lst (ra.map V.ref))
 len:ra.length=ks.length
 at_:∀(i:Nat) (r:Addr) (k:Nat),ra[i]?=some r->ks[i]?=some k->WdAt H r k wd
def Fig(bg:Str)(wd:Nat):Prop:=∀b,b<wd->chAt bg b="0"\/chAt bg b="1"
theorem bit_on{bg:Str}{wd b:Nat}{st:Stp}(f:Fig bg wd)(hb:b<wd):bitS bg b st=onS bg b st:=by
 unfold bitS onS
 rcases f b hb with h|h
 ·rw[h,if_neg (by decide +kernel),if_pos rfl]
 ·rw[h,if_pos rfl,if_neg (by decide +kernel)]
def stDo(wd:Nat)(bg:Str)(k:Nat)(st:Stp):List Dg:=(List.range wd).map λb=>(((k*wd+b:Nat):Int),onS bg b st)
theorem dRun_app(hs:List Hm)(a b:List Dg)(q:List Int×List Int):dRun hs (a++b) q=dRun hs b (dRun hs a q):=List.foldl_append
theorem qid{α:Type}{f:α->List Dg}{l:List α}{i:Nat}{x:α}(hs:List Hm)(q:List Int×List Int)(h:l[i]?=some x):dRun hs ((l.take (i+1)).flatMap f) q=dRun hs (f x) (dRun hs ((l.take i).flatMap f) q):=by
 rw[take_add_one,h,List.flatMap_append,dRun_app]
 congr 1
 exact append_nil _
theorem ls_cases(hs:List Hm)(q:List Int×List Int)(ad:Int)(st:Stp):(∃ds,lsM hs q.2 ad st=(.non,ds)/\qhf hs q (ad,st)=(q.1,ds))\/∃v ds,lsM hs q.2 ad st=(.int v,ds)/\qhf hs q (ad,st)=(q.1++[v],ds):=by
 obtain ⟨w,b⟩:=st
 cases w
 ·exact .inr ⟨_,_,rfl,rfl⟩
 ·exact .inl ⟨_,rfl,rfl⟩
def qjj(K:W.Frag):Sp:=λvs H Q _=>∃(L A S R:Addr) (us ws:List V) (hs:List Hm) (cs:List Int) (ss:List Stp) (ra:List Addr) (ks:List Nat) (wd W:Nat) (bg:Str),vs=[.ref L,.ref A,.ref S,.ref R,.str bg]/\Hld K H L A us hs cs/\InR hs cs.length/\H S=some (.lst ws)/\AtAll H ws (ss.map ycm)/\ss.length<=6/\RwAt H R ra ks wd/\(∀k∈ks,k<W)/\ks.length<=16/\cs.length=W*wd/\wd<=4/\wd<=bg.length/\bg.length<=8/\Fig bg wd/\
 ∀r Bb p b H',Same H H'->H' r=some (.tup [.ref Bb,.ref p,.bl b])->H' Bb=some (.tup ((dRun hs (ks.flatMap (wDo wd bg ss)) ([],cs)).2.map V.int))->H' p=some (.lst ((dRun hs (ks.flatMap (wDo wd bg ss)) ([],cs)).1.map V.int))->Q (.ref r) H'
abbrev ydr:Stmt:=top 84
theorem yeq:FnScope ["_law_harms_here","_law_held","_law_steps","_law_words","_law_background","_law_heard","_law_wrong","_law_word","_law_step_here","_law_place","_law_bit_here","_law_here","_law_one"] ["_law_harms_here","_law_held","_law_steps","_law_words","_law_background"] (qac ydr):=fsc
theorem ok_lover(B:Bl mg)(ykk:Has P w K mg base 1 "_law_bit" ["_law_step_here","_law_figure"] qkz)(qiq:Has P w K mg base 3 "_law_step" ["_law_harms_here","_law_held","_law_address","_law_step_here"] (yjm K))(F:FnAt K mg "_law_over" ydr ["_law_harms_here","_law_held","_law_steps","_law_words","_law_background"]):Has P w K mg base 4 "_law_over" ["_law_harms_here","_law_held","_law_steps","_law_words","_law_background"] (qjj K):=by
 refine Has.ofQ F yeq (λvs H Q E h=>?_) (λf cdv A0 outer s H vs Q E hr h=>?_)
 ·obtain ⟨L,A,S,R,us,ws,hs,cs,ss,ra,ks,wd,W,bg,rfl,_⟩:=h
  rfl
 ·obtain ⟨L,A,S,R,us,ws,hs,cs,ss,ra,ks,wd,W,bg,rfl,m,hi,hS,hws,s6,rw_,kW,k16,hcl,w4,b1,b8,fg,k⟩:=h
  have sc:=yeq
  refine cutA [2] ⟨_,qag rfl (qad (ya8 PassesOwn.never rfl (qbn (qab (pv 3))) (pgn 7 sc.nd)
    (yaf (ya8 PassesOwn.never rfl (qbn (qab (pv 2))) (pgn 8 sc.nd)
     (yaf (ya8 PassesOwn.never rfl (qbn (qab (pv 7))) (qck rfl (qan (pgn 9 sc.nd) (qan (pgn 10 sc.nd) ybi)))
      (qad (qsE 11 sc.nd (yal ykk hr (yag (qab (pv 8)) (ybd (qap ix_str (qab (pv 4)) (qab (pv 10))) qae))))
      (qad (qji (yal qiq hr (yag (qab (pv 0)) (yag (qab (pv 1)) (yag (qab (pv 9)) (yag (qab (pv 11)) qae))))) (qck rfl (qan (pgn 1 sc.nd) (qan (pgn 12 sc.nd) ybi))))
      (yaf (ya9 (qt_of (qii (yjd (pv 12))))
       (qad (qax (yiv PySem.F.plainAttrs_list PySem.F.slot_list_append PySem.F.type_list_append qas (qab (pv 5)) (yag (qab (pv 12)) qae)))
       (yaf (qsE 6 sc.nd (qe_mid (qab (pe_or (pv 6) (yb6 (qa4 yiq (pv 12) (yan qai (pv 11) yab) (yaj _)))))))))
       qa2))))))))) (yaf (qao (qa6 (yag (qab (pv 1)) (yag (qab (pv 5)) (yag (qab (pv 6)) qae)))))))⟩ ?_
  intro c1
  refine ⟨_,qag rfl (qad (qsE 5 sc.nd (qat qae)) (qad (qsE 6 sc.nd (qab yjc)) c1.2)),?_⟩
  have ls:=hws.length
  rw[length_map]at ls
  refine ⟨zero_le _,λp hp=>gn ?_⟩
  have s1:=(smR H).upd (o:=.lst []) hp
  have f1:=@qaa H p (.lst [])
  revert s1 f1
  generalize upd H p _=H1
  intro s1 f1
  have kp:∀{b:Addr}{u:HO}{H7:Hp},(∀b u,b≠p->H1 b=some u->H7 b=some u)->H b=some u->H7 b=some u:=λ{b u H7} s7 e=>s7 _ _ (yad e hp) (s1 _ _ e)
  have n1:∀xs,H1 p≠some (.tup xs):=λxs e=>by rw[f1]at e;cases e
  have dl:=λds=>yb8 hs ds ([],cs)
  refine gn ?_
  refine ⟨_,rfl,R,rfl,⟨_,sqlO (s1 _ _ rw_.l)⟩,yaq (xs:=ra.map V.ref) (λi σ H2=>∃(Bb:Addr) (bw:Bool) (o7 o8 o9 o10 o11 o12:Option V),σ=[some (.ref L),some (.ref Bb),some (.ref S),some (.ref R),some (.str bg),some (.ref p),some (.bl bw),o7,o8,o9,o10,o11,o12]/\(∀b u,b≠p->H1 b=some u->H2 b=some u)/\H2 Bb=some (.tup ((dRun hs ((ks.take i).flatMap (wDo wd bg ss)) ([],cs)).2.map V.int))/\H2 p=some (.lst ((dRun hs ((ks.take i).flatMap (wDo wd bg ss)) ([],cs)).1.map V.int)))
   ⟨A,false,none,none,none,none,none,none,rfl,λb u _ e=>e,s1 _ _ m.t,f1⟩ (λi σ H2 _ ⟨_,_,_,_,_,_,_,_,_,s2,_⟩=>sqlO (kp s2 rw_.l)) ?_ ?_⟩
  ·rintro i x σ H2 hx ⟨Bb,bw,o7,o8,o9,o10,o11,o12,rfl,s2,t2,e2⟩
   obtain ⟨r,hr',rfl⟩:=qaz hx
   have hik:i<ks.length:=by have:=(List.getElem?_eq_some_iff.mp hr').1;rw[rw_.len]at this;exact this
   have hk:=getElem?_eq_getElem hik
   generalize ks[i]'hik=kk at hk
   have hkW:=kW kk (mem_of_getElem? hk)
   obtain ⟨ts,hr0,tl,tg⟩:=rw_.at_ i r kk hr' hk
   have hst:=qid (f:=wDo wd bg ss) hs ([],cs) hk
   have hlen:=dl ((ks.take i).flatMap (wDo wd bg ss))
   have al:((ks.take i).flatMap (wDo wd bg ss)).length<=24*16:=by
    refine le_trans (ya5 (c:=24) λx _=>le_trans yhl (mul_le_mul w4 s6)) ?_
    rw[length_take]
    exact mul_le_mul_left _ (by omega)
   rw[hst]
   clear hst
   generalize dRun hs ((ks.take i).flatMap (wDo wd bg ss)) ([],cs)=q0 at *
   obtain ⟨l2,l1⟩:=hlen
   have l2:q0.2.length=cs.length:=l2
   have l1:q0.1.length<=384:=by have:q0.1.length<=0+_:=l1;omega
   refine gn ?_
   refine ⟨_,rfl,S,rfl,⟨_,sqlO (kp s2 hS)⟩,yaq (xs:=ws) (λj σ H3=>∃(Bb:Addr) (bw:Bool) (o8 o9 o10 o11 o12:Option V),σ=[some (.ref L),some (.ref Bb),some (.ref S),some (.ref R),some (.str bg),some (.ref p),some (.bl bw),some (.ref r),o8,o9,o10,o11,o12]/\(∀b u,b≠p->H1 b=some u->H3 b=some u)/\H3 Bb=some (.tup ((dRun hs ((ss.take j).flatMap (stDo wd bg kk)) q0).2.map V.int))/\H3 p=some (.lst ((dRun hs ((ss.take j).flatMap (stDo wd bg kk)) q0).1.map V.int)))
    ⟨Bb,bw,_,_,_,_,_,rfl,s2,t2,e2⟩ (λj σ H3 _ ⟨_,_,_,_,_,_,_,_,s3,_⟩=>sqlO (kp s3 hS)) ?_ ?_⟩
   ·rintro j y σ H3 hy ⟨Bb,bw,o8,o9,o10,o11,o12,rfl,s3,t3,e3⟩
    obtain ⟨dd,hdd,hat⟩:=hws.get hy
    obtain ⟨st,hstp,rfl⟩:=qaz hdd
    obtain ⟨a,rfl,ha⟩:=qir hat
    have hj:j<ss.length:=(List.getElem?_eq_some_iff.mp hstp).1
    have hst:=qid (f:=stDo wd bg kk) hs q0 hstp
    have hlen:=yb8 hs ((ss.take j).flatMap (stDo wd bg kk)) q0
    have al2:((ss.take j).flatMap (stDo wd bg kk)).length<=4*6:=by
     refine le_trans (ya5 (c:=4) λx _=>(by unfold stDo;rw[length_map,length_range];exact w4)) ?_
     rw[length_take]
     exact mul_le_mul_left _ (by omega)
    rw[hst]
    clear hst
    generalize dRun hs ((ss.take j).flatMap (stDo wd bg kk)) q0=q1 at *
    obtain ⟨m2,m1⟩:=hlen
    refine gn ?_
    refine ⟨_,rfl,r,rfl,⟨_,sqlO (kp s3 hr0)⟩,yaq (xs:=ts) (λb σ H4=>∃(Bb:Addr) (bw:Bool) (o9 o10 o11 o12:Option V),σ=[some (.ref L),some (.ref Bb),some (.ref S),some (.ref R),some (.str bg),some (.ref p),some (.bl bw),some (.ref r),some (.ref a),o9,o10,o11,o12]/\(∀b u,b≠p->H1 b=some u->H4 b=some u)/\H4 Bb=some (.tup ((dRun hs ((stDo wd bg kk st).take b) q1).2.map V.int))/\H4 p=some (.lst ((dRun hs ((stDo wd bg kk st).take b) q1).1.map V.int)))
     ⟨Bb,bw,_,_,_,_,rfl,s3,t3,e3⟩ (λj σ H4 _ ⟨_,_,_,_,_,_,_,s4,_⟩=>sqlO (kp s4 hr0)) ?_ ?_⟩
    ·rintro b z σ H4 hz ⟨Bb,bw,o9,o10,o11,o12,rfl,s4,t4,e4⟩
     obtain ⟨ta,rfl,hta⟩:=tg b z hz
     have hb:b<wd:=by have:=(List.getElem?_eq_some_iff.mp hz).1;omega
     have hd:(stDo wd bg kk st)[b]?=some (((kk*wd+b:Nat):Int),onS bg b st):=by
      unfold stDo
      rw[getElem?_map,getElem?_range hb]
      rfl
     have hst:=yho (hs:=hs) (q:=q1) hd
     have hlen:=yb8 hs ((stDo wd bg kk st).take b) q1
     have al3:((stDo wd bg kk st).take b).length<=4:=by rw[length_take];omega
     rw[hst]
     clear hst
     generalize dRun hs ((stDo wd bg kk st).take b) q1=q2 at *
     obtain ⟨n2,n1'⟩:=hlen
     have hkb:kk*wd+b<cs.length:=by
      have:=mul_le_mul_right wd (show kk+1<=W from hkW)
      rw[add_mul,one_mul]at this
      omega
     have s04:Same H H4:=λb u e=>kp s4 e
     refine ⟨ta,_,rfl,sqtO (s04 _ _ hta),rfl,_,_,rfl,_,_,rfl,rfl,gn ?_⟩
     refine ⟨_,rfl,_,rfl,_,rfl,_,_,_,rfl,rfl,ydg (by omega),ch_at (by omega),a,st,bg,b,rfl,s04 _ _ ha,λab H5 s5 tb=>gn ?_⟩
     rw[bit_on fg hb]at tb
     have s05:=s04.trans s5
     have cl2:q2.2.length=cs.length:=by rw[n2,m2,l2]
     have m5:=m.to s05 (s5 _ _ t4) cl2
     refine ⟨_,rfl,_,rfl,_,rfl,_,rfl,L,Bb,us,hs,q2.2,_,ab,onS bg b st,rfl,m5,by rw[cl2];exact hi,Int.natCast_nonneg _,by rw[cl2];omega,tb,λr6 H6 s6' ⟨B6,r6e,t6⟩=>?_⟩
     refine ⟨r6,_,rfl,sqtO r6e,rfl,_,_,rfl,_,_,rfl,rfl,gn ?_⟩
     have s46:∀b u,b≠p->H1 b=some u->H6 b=some u:=λb u hb e=>s6' _ _ (s5 _ _ (s4 b u hb e))
     have e6:=s6' _ _ (s5 _ _ e4)
     have h6:=s6' _ _ tb
     rcases ls_cases hs q2 ((kk*wd+b:Nat):Int) (onS bg b st) with ⟨ds,g1,g2⟩|⟨v,ds,g1,g2⟩
     ·rw[g1]at r6e t6
      rw[g1,g2]
      refine ⟨_,rfl,_,rfl,iteF ?_⟩
      exact ⟨B6,bw,_,_,_,_,rfl,s46,t6,e6⟩
     ·rw[g1]at r6e t6
      rw[g1,g2]
      refine ⟨_,rfl,_,rfl,iteT ?_⟩
      refine ⟨_,rfl,.inl ⟨rfl,_,sqlO e6⟩,_,rfl,p,_,_,rfl,rfl,e6,qbb (by rw[length_map];omega),gn ?_⟩
      have nbp:ab≠p:=λz=>by rw[z,e6]at h6;cases h6
      have h7:upd H6 p (.lst (q2.1.map V.int++[.int v])) ab=some (.tup [.str (ydo (onS bg b st).1),.int (b2i (onS bg b st).2)]):=by rw[qah nbp];exact h6
      refine ⟨λy H'=>(∃b,y=.bl b)/\H'=upd H6 p (.lst (q2.1.map V.int++[.int v])),?_,?_⟩
      ·refine ⟨_,rfl,bw,rfl,?_⟩
       cases bw with
       |true=>exact iteT ⟨⟨_,rfl⟩,rfl⟩
       |false=>exact iteF ⟨_,rfl,_,rfl,ab,_,_,_,rfl,rfl,sqtO h7,yae 1 rfl,rfl,⟨_,rfl⟩,rfl⟩
      ·rintro _ _ ⟨⟨b',rfl⟩,rfl⟩
       refine ⟨B6,b',_,_,_,_,rfl,λb u hb e=>by rw[qah hb];exact s46 b u hb e,?_,by rw[qaa,map_append];rfl⟩
       rw[qah (λz=>by rw[z,e6]at t6;cases t6)]
       exact t6
    ·rintro σ H4 ⟨Bb,bw,o9,o10,o11,o12,rfl,s4,t4,e4⟩
     have:(stDo wd bg kk st).length=wd:=by unfold stDo;rw[length_map,length_range]
     rw[tl,take_of_length_le (by omega)]at t4 e4
     exact ⟨Bb,bw,_,_,_,_,_,rfl,s4,t4,e4⟩
   ·rintro σ H3 ⟨Bb,bw,o8,o9,o10,o11,o12,rfl,s3,t3,e3⟩
    rw[ls,take_length]at t3 e3
    exact ⟨Bb,bw,_,_,_,_,_,_,rfl,s3,t3,e3⟩
  ·rintro σ H2 ⟨Bb,bw,o7,o8,o9,o10,o11,o12,rfl,s2,t2,e2⟩
   rw[length_map,rw_.len,take_length]at t2 e2
   refine ⟨_,rfl,_,rfl,_,rfl,zl,λr nr=>?_⟩
   have s3:=(smR H2).upd (o:=.tup [.ref Bb,.ref p,.bl bw]) nr
   exact k r Bb p bw _ (λb u e=>s3 _ _ (kp s2 e)) qaa (s3 _ _ t2) (s3 _ _ e2)
end
end Mh
namespace L2
open PySem PySem.Spec PyProof.Rows PySem.W
theorem yk1{acc:List (Str×Addr)}:∀{l:List (Str×NameKind)}{n:Nat},l.filter (λy=>y.2 == .cell)=[]->cellsFrom n l acc=acc
 |[],_,_=>rfl
 | (x,k)::r,n,h=>by
  unfold cellsFrom
  cases hk:k == NameKind.cell with
  |true=>rw[filter_cons,hk]at h;cases h
  |false=>rw[filter_cons,hk]at h;exact yk1 h
theorem cf_one{z:Str}{acc:List (Str×Addr)}:∀{l:List (Str×NameKind)}{n:Nat},l.filter (λy=>y.2 == .cell)=[(z,.cell)]->cellsFrom n l acc=(z,n)::acc
 |[],_,h=>by cases h
 | (x,k)::r,n,h=>by
  unfold cellsFrom
  cases hk:k == NameKind.cell with
  |true=>
   rw[filter_cons,hk]at h
   obtain ⟨h1,h2⟩:=List.cons.inj h
   cases h1
   exact yk1 h2
  |false=>rw[filter_cons,hk]at h;exact cf_one h
theorem qkv:∀{l:List (Str×NameKind)}{h:Heap},l.filter (λy=>y.2 == .cell)=[]->pushCells h l=h
 |[],_,_=>rfl
 | (x,k)::r,n,h=>by
  unfold pushCells
  cases hk:k == NameKind.cell with
  |true=>rw[filter_cons,hk]at h;cases h
  |false=>rw[filter_cons,hk]at h;exact qkv h
theorem pc_one{z:Str}:∀{l:List (Str×NameKind)}{h:Heap},l.filter (λy=>y.2 == .cell)=[(z,.cell)]->pushCells h l=h.push { cls:=.type "cell",data:=.cell none }
 |[],_,h=>by cases h
 | (x,k)::r,n,h=>by
  unfold pushCells
  cases hk:k == NameKind.cell with
  |true=>
   rw[filter_cons,hk]at h
   exact qkv (List.cons.inj h).2
  |false=>rw[filter_cons,hk]at h;exact pc_one h
theorem qew{env:Env}{x z:Str}(hz:x≠z):∀{l:List (Str×NameKind)},(∀y∈l,y.2=.cell->y.1=z)->
  ((l.map λ(n,k)=>if (k == NameKind.free&&env.scope.kind == .function&&env.kindOf n == some .cell) then (n,NameKind.cell) else (n,k)).lookup x=some .cell\/
  (l.map λ(n,k)=>if (k == NameKind.free&&env.scope.kind == .function&&env.kindOf n == some .cell) then (n,NameKind.cell) else (n,k)).lookup x=some .free)->(x,NameKind.free)∈l
 |[],_,h=>by simp at h
 | (n,k)::r,hn,h=>by
  rw[map_cons]at h
  cases hx:x == n with
  |true=>
   have e:x=n:=by simpa using hx
   subst e
   by_cases hc:(k == NameKind.free&&env.scope.kind == .function&&env.kindOf x == some .cell)=true
   ·have:k=.free:=by
     simp only[Bool.and_eq_true,beq_iff_eq]at hc
     exact hc.1.1
    subst this
    exact mem_cons_self
   ·simp only[hc,Bool.false_eq_true,if_false,lookup_cons,hx,Option.some.injEq]at h
    rcases h with h|h
    ·exact absurd (hn (x,k) mem_cons_self h) hz
    ·subst h;exact mem_cons_self
  |false=>
   have h':(r.map λ(n,k)=>if (k == NameKind.free&&env.scope.kind == .function&&env.kindOf n == some .cell) then (n,NameKind.cell) else (n,k)).lookup x=some .cell\/
     (r.map λ(n,k)=>if (k == NameKind.free&&env.scope.kind == .function&&env.kindOf n == some .cell) then (n,NameKind.cell) else (n,k)).lookup x=some .free:=by
    by_cases hc:(k == NameKind.free&&env.scope.kind == .function&&env.kindOf n == some .cell)=true
    ·simp only[hc,if_true,lookup_cons,hx]at h;exact h
    ·simp only[hc,Bool.false_eq_true,if_false,lookup_cons,hx]at h;exact h
   exact mem_cons_of_mem _ (qew hz (λy hy=>hn y (mem_cons_of_mem _ hy)) h')
def cxCN(X:Cx)(M:List Str)(scope:Scope)(z:Str)(C:Addr)(fp:List Addr)(s2:Shared)(H2:Hp):Cx:=
 {prog:=X.prog,w:=X.w,K:=X.K,mg:=X.mg,base:=X.base,A:=X.A,N:=M,s₀:=s2,H₀:=H2,env:=compEnvC scope ((z,C+1)::clOf X.env.cells scope.names []) C X.env,
  outer:=X.stack,stack:=X.stack,ex:=fp,fn:=λx=>x == z,calm:=X.calm,pn:=[],xe:=λ_ _=>False }
structure CompOkN(N M:List Str)(ix:List (Option Nat))(sc xs:Scope)(z:Str):Prop where
 kind:sc.kind=.function
 len:M.length=ix.length
 cell:sc.names.filter (λy=>y.2 == .cell)=[(z,.cell)]
 at_:sc.names.lookup z=some .cell
 loc:∀y∈sc.names,y.2=.local->sc.names.lookup y.1=some .local
 fr:∀y∈sc.names,y.2=.free->xs.names.lookup y.1=some .cell\/xs.names.lookup y.1=some .free
 cap:∀(i:Nat) (j:Nat),ix[i]?=some (some j)->∃x,M[i]?=some x/\N[j]?=some x/\sc.names.lookup x=some .free
theorem ykc{N M:List Str}{ix:List (Option Nat)}{sc xs:Scope}{z:Str}(h:yiy N M ix { sc with names:=sc.names.map λy=>if y.2=.cell then (y.1,.local) else y } xs=true)(hc:sc.names.filter (λy=>y.2 == .cell)=[(z,.cell)])(hz:sc.names.lookup z=some .cell)
  (hl:sc.names.all (λy=>decide (y.2≠.local)||decide (sc.names.lookup y.1=some .local))=true) (hf:sc.names.all (λy=>decide (y.2≠.free)||decide (sc.names.lookup y.1=some .free))=true) (hcp:(List.range ix.length).all (λi=>match ix[i]?,M[i]? with|some (some _),some x=>decide (sc.names.lookup x=some .free)|_,_=>true)=true):CompOkN N M ix sc xs z:=by
 have o:=yaw h
 refine ⟨o.kind,o.len,hc,hz,λy hy e=>?_,λy hy e=>o.fr y (mem_map.mpr ⟨y,hy,by rw[if_neg (by rw[e];decide)]⟩) e,λi j e=>?_⟩
 ·have:=all_eq_true.mp hl y hy
  simpa [e] using this
 ·obtain ⟨x,h1,h2,_⟩:=o.cap i j e
  have hi:i<ix.length:=(List.getElem?_eq_some_iff.mp e).1
  have q:=all_eq_true.mp hcp i (mem_range.mpr hi)
  rw[e,h1]at q
  exact ⟨x,h1,h2,of_decide_eq_true q⟩
theorem qeo{z x:Str}{n c:Addr}{cl:List (Str×Addr)}(e:((z,n)::cl).lookup x=some c):(x=z/\c=n)\/(x≠z/\cl.lookup x=some c):=by
 rw[lookup_cons]at e
 cases hx:x == z with
 |true=>rw[hx]at e;cases e;exact .inl ⟨by simpa using hx,rfl⟩
 |false=>rw[hx]at e;exact .inr ⟨by simpa using hx,e⟩
theorem cn_old{z x:Str}{n c:Addr}{cl:List (Str×Addr)}(h:x≠z)(e:cl.lookup x=some c):((z,n)::cl).lookup x=some c:=by
 rw[lookup_cons,beq_eq_false_iff_ne.mpr h]
 exact e
section
variable {X:Cx}{pins:List (Addr×Obj)}{σ:St}{H2:Hp}{s2:Shared}{M:List Str}{ix:List (Option Nat)}{scope:Scope}{fp:List Addr}{z:Str}
theorem comp_okN{C:Addr}(I:Inv X pins σ H2 s2)(ck:CompOkN X.N M ix scope X.env.scope z)(hC:s2.heap.objs.size<=C)(f2:∀b∈fp,FpOk X pins H2 b)(hfp:∀b∈fp,b<s2.heap.objs.size):(cxCN X M scope z C fp s2 H2).Ok:=by
 have hfree:∀x∈scope.names,x.2=.free->∃c,X.env.cells.lookup x.1=some c:=λx hx e=>I.ok.has x.1 (ck.fr x hx e)
 have snd:∀x c,(clOf X.env.cells scope.names []).lookup x=some c->X.env.cells.lookup x=some c:=λx c e=>qb2 (cs:=[]) hfree (by intro p hp;cases hp) (x,c) (PySem.mem_of_lookup e)
 have lt:∀x c,(clOf X.env.cells scope.names []).lookup x=some c->c<s2.heap.objs.size:=λx c e=>by
  obtain ⟨v,q⟩:=I.cell x c (snd x c e)
  exact q.lt
 have only:∀y∈scope.names,y.2=.cell->y.1=z:=λy hy e=>by
  have:y∈scope.names.filter (λy=>y.2 == .cell):=List.mem_filter.mpr ⟨hy,by rw[e];rfl⟩
  rw[ck.cell]at this
  rw[mem_singleton.mp this]
 refine ⟨I.ok.mod,ck.kind,I.ok.glob,I.ok.blt,hC,λx y c h1 h2=>?_,λx hx=>?_,λx c h e=>?_,I.ok.hd,I.ok.frames,.inl rfl,λb hb=>⟨?_,λx c e=>?_⟩,λb o e=>I.bs b o e,
  le_trans I.ok.bsz I.sz,λb o e hb=>?_,λb hb hb2=>?_,I.stack,I.stkFree⟩
 ·rcases qeo h1 with ⟨e1,e2⟩|⟨_,e1⟩<;>rcases qeo h2 with ⟨g1,g2⟩|⟨_,g1⟩
  ·rw[e1,g1]
  ·have:=lt y c g1;rw[e2]at this;exact absurd (lt_of_lt_of_le this hC) (Nat.not_lt.mpr (le_succ C))
  ·have:=lt x c e1;rw[g2]at this;exact absurd (lt_of_lt_of_le this hC) (Nat.not_lt.mpr (le_succ C))
  ·exact I.ok.inj x y c (snd x c e1) (snd y c g1)
 ·by_cases hz:x=z
  ·exact ⟨C+1,by rw[hz];show ((z,C+1)::_).lookup z=_;rw[lookup_cons,beq_self_eq_true]⟩
  ·obtain ⟨c,hc⟩:=yb0 (qde (cells:=X.env.cells) (cs:=[]) (.inl (qew hz only hx)))
   exact ⟨c,cn_old hz hc⟩
 ·rcases qeo e with ⟨_,e2⟩|⟨e1,_⟩
  ·rw[e2];exact Nat.le_succ_of_le hC
  ·exact absurd (beq_iff_eq.mp (show (x == z)=true from h)) e1
 ·exact ne_of_lt (lt_of_lt_of_le (hfp b hb) hC)
 ·rcases qeo e with ⟨_,e2⟩|⟨_,e1⟩
  ·rw[e2];exact ne_of_gt (lt_succ_of_lt (lt_of_lt_of_le (hfp b hb) hC))
  ·exact (f2 b hb).2.2.2.2.1 x c (snd x c e1)
 ·rcases (f2 b hb).2.2.2.1 with z|z
  ·exact I.ok.noex b o e z
  ·exact absurd (lt_of_lt_of_le (lt_size e) (le_trans I.ok.bsz z)) (lt_irrefl _)
 ·obtain ⟨_,n1,n2,_⟩:=f2 b hb
  rcases mem_cons.mp (I.stkSub b hb2) with z|z
  ·exact n1 z
  ·exact n2 z
theorem qlq{C D:Addr}{h1:Heap}{tk:Nat}(I:Inv X pins σ H2 s2)(ck:CompOkN X.N M ix scope X.env.scope z)(hC:s2.heap.objs.size<=C)(hD:s2.heap.objs.size<=D)(hDC:C≠D)(f2:∀b∈fp,FpOk X pins H2 b)(hfp:∀b∈fp,b<s2.heap.objs.size)
  (old:∀b o,s2.heap.get? b=some o->h1.get? b=some o) (hn:h1.Ns C λ_=>none) (hnew:h1.get? D=some { cls:=.type "list",data:=.seq #[] }) (hcl:h1.IsCell (C+1) none) (hCD:C+1≠D) :
  Inv (cxCN X M scope z C fp s2 H2) [] (capS ix σ) (upd H2 D (.lst [])) { s2 with heap:=h1,toks:=tk }:=by
 have hfree:∀x∈scope.names,x.2=.free->∃c,X.env.cells.lookup x.1=some c:=λx hx e=>I.ok.has x.1 (ck.fr x hx e)
 have snd:∀x c,(clOf X.env.cells scope.names []).lookup x=some c->X.env.cells.lookup x=some c:=λx c e=>qb2 (cs:=[]) hfree (by intro p hp;cases hp) (x,c) (PySem.mem_of_lookup e)
 have fD:H2 D=none:=I.hok.fresh hD
 refine ⟨comp_okN I ck hC f2 hfp,rfl,I.bare,Un.laid old hD fD,⟨_,hn,λi x v e1 e2 e3=>?_⟩,λx c e=>?_,?_,λx c e=>?_,(by intro p hp;cases hp),I.hok.laid (o:=.lst []) old hD ⟨zero_le _,[],0,.nil,hnew⟩,?_⟩
 ·obtain ⟨j,hj,hv⟩:∃j,ix[i]?=some (some j)/\σ[j]?=some (some v):=by
   unfold capS at e2
   rw[getElem?_map]at e2
   cases q:ix[i]? with
   |none=>rw[q]at e2;cases e2
   |some o=>
    rw[q]at e2
    cases o with
    |none=>cases e2
    |some j=>
     refine ⟨j,rfl,?_⟩
     have e2':(σ[j]?).getD none=some v:=Option.some.inj e2
     cases z:σ[j]? with
     |none=>rw[z]at e2';cases e2'
     |some y=>rw[z]at e2';rw[show y=some v from e2']
  obtain ⟨y,hm,hN,hf⟩:=ck.cap i j hj
  have e1':M[i]?=some x:=e1
  rw[hm]at e1';cases e1'
  obtain ⟨m,hnl,hl⟩:=I.loc
  have hmem:(x,NameKind.free)∈scope.names:=PySem.mem_of_lookup hf
  have hk:=ck.fr _ hmem rfl
  obtain ⟨u,ru,lk⟩:=hl j x v hN hv (hk.elim (λz=>.inr (.inl z)) λz=>.inr (.inr z))
  refine ⟨u,ru,.inr ⟨ycw hf,?_⟩⟩
  rcases lk with ⟨kl,_⟩|⟨_,c,hc,hcell⟩
  ·have kl':X.env.scope.names.lookup x=some .local:=kl
   rcases hk with z|z
   ·rw[z]at kl';cases kl'
   ·rw[z]at kl';cases kl'
  ·obtain ⟨c2,h2⟩:=yb0 (qde (cells:=X.env.cells) (cs:=[]) (.inl hmem))
   have h3:=snd x c2 h2
   rw[hc]at h3;cases h3
   obtain ⟨o,ho,hd⟩:=hcell
   exact ⟨c,cn_old (λq=>by rw[q,ck.at_]at hf;cases hf) h2,o,old c o ho,hd⟩
 ·rcases qeo e with ⟨_,rfl⟩|⟨_,e⟩
  ·exact ⟨none,hcl⟩
  ·obtain ⟨v,o,ho,hd⟩:=I.cell x c (snd x c e)
   exact ⟨v,o,old c o ho,hd⟩
 ·show upd H2 D (.lst []) C=none
  rw[qah hDC]
  exact I.hok.fresh hC
 ·show upd H2 D (.lst []) c=none
  rcases qeo e with ⟨_,rfl⟩|⟨_,e⟩
  ·rw[qah hCD]
   exact I.hok.fresh (by omega)
  obtain ⟨v,z⟩:=I.cell x c (snd x c e)
  rw[qah (ne_of_lt (lt_of_lt_of_le z.lt hD))]
  exact I.freeC x c (snd x c e)
 ·show (capS ix σ).length=M.length
  unfold capS
  rw[length_map,ck.len]
theorem ykb{C:Addr}{σ':St}{H':Hp}{s':Shared}{h2:Heap}{pl:List (Addr×Obj)}(I:Inv X pins σ H2 s2)(J:Inv (cxCN X M scope z C fp s2 H2) pl σ' H' s')(f2:∀b∈fp,FpOk X pins H2 b)(sb:Heap.SameBut C s'.heap h2):Inv X pins σ H' { s' with heap:=h2 }:=by
 have hC:s2.heap.objs.size<=C:=J.ok.above
 refine I.call' (s':={ s' with heap:=h2 }) (ch:=fp) J.os (Un.butNew J.base hC sb) (λa o e=>?_) J.bare λb hb=>?_
 ·have fr:H' C=none:=J.free
  refine (J.hok a o e).stay (λc v hc q=>(sb.2 c ?_).trans q) (λ_ q=>q) λ_ _ q=>q
  rintro rfl
  rcases hc with z|z
  ·rw[<-z,fr]at e;cases e
  ·rw[fr]at z;cases z
 ·obtain ⟨_,n1,_,n3,n4,n5⟩:=f2 b hb
  exact ⟨n3,n1,n4,n5⟩
end
section
variable {X:Cx}{elt tg iter:Expr}{ifs:List Expr}{scope:Scope}{pos:Pos}{wi:TI}{g:TG}{tt:TT}{te:TE}{M:List Str}{ix:List (Option Nat)}{z:Str}
theorem yj3{pins:List (Addr×Obj)}{σ:St}{H2 H4:Hp}{s2 s4:Shared}{fp:List Addr}{it C D:Addr}{tn:Nat->Heap->Prop}{J:It}{R:Result->Shared->Prop}{QD:Hp->Prop}(I2:Inv X pins σ H2 s2)(hc:X.calm=true)
  (f2:∀b∈fp,FpOk X pins H2 b) (T:Turn X.prog X.w X.K tg J fp it tn)
  (hg:PG (cxCN X M scope z C fp s2 H2) tg g) (ht:PTs (cxCN X M scope z C fp s2 H2) ifs tt) (he:PE (cxCN X M scope z C fp s2 H2) elt te)
  (I4:Inv (cxCN X M scope z C fp s2 H2) [] (capS ix σ) H4 s4) (st4:tn 0 s4.heap) (fr4:∀b∈fp,H4 b=none) (W:Nat->Nat->Hp->Prop) (m0:Nat) (w0:W 0 m0 H4)
  (turn:∀i m H,W i m H->(J.stop i H/\QD H)\/(J.go i H/\∃N:Hp->Prop,(∀H',N H'->∃m',m' < m/\W (i+1) m' H')/\∀x H',J.yld i H x H'->g x (capS ix σ) H' λσ2 H2=>qaw (capS ix σ) σ2/\tt σ2 H2 λb H3=>
   if b=true then te σ2 H3 λv H4=>∃ys,H4 D=some (.lst ys)/\ys.length<sizeLine/\N (upd H4 D (.lst (ys++[v]))) else N H3))
  (fin:∀H' s',Inv (cxCN X M scope z C fp s2 H2) [] (capS ix σ) H' s'->QD H'->R (.ok .next) s') :
  codeAny (model X.prog X.w) X.A (.compLoop (.ListComp elt [⟨tg,iter,ifs,0⟩] scope pos) 0 (.ref it) (.ref D) (compEnvC scope ((z,C+1)::clOf X.env.cells scope.names []) C X.env)) R s4:=by
 have stat:∀{H':Hp},(∀b∈fp,H' b=none)->∀b∈fp,FpOk (cxCN X M scope z C fp s2 H2) [] H' b:=λ{H'} hn b hb=>
  ⟨hn b hb,(I4.ok.exf b hb).1,I4.ok.exfs b hb,.inl hb,(I4.ok.exf b hb).2,by intro p hp;cases hp⟩
 refine codeAny_loop rfl (λn s'=>∃i H',Inv (cxCN X M scope z C fp s2 H2) [] (capS ix σ) H' s'/\tn i s'.heap/\(∀b∈fp,H' b=none)/\W i n H') ?_ m0 ⟨0,H4,I4,st4,fr4,w0⟩
 rintro n s5 ⟨i,H5,I5,st5,fr5,w5⟩
 show wpAny (model X.prog X.w) X.A ((compTurn (.ListComp elt [⟨tg,iter,ifs,0⟩] scope pos) 0 (.ref it) (.ref D) (compEnvC scope ((z,C+1)::clOf X.env.cells scope.names []) C X.env)).onRaise (λx=>do noteFrame x (compEnvC scope ((z,C+1)::clOf X.env.cells scope.names []) C X.env);theTreesLotGoes x)) _ _ s5
 refine wpAny_noted ?_
 rw[compTurn_list]
 refine wpAny_bind (wpAny_standAt (wpAny_bind ?_))
 rcases turn i n H5 w5 with ⟨stop,qn⟩|⟨go,N,hN,step⟩
 ·refine thn (T.done (cxCN X M scope z C fp s2 H2) rfl rfl rfl hc i [] s5 (capS ix σ) H5 _ I5 (stat fr5) st5 stop) λr s6 ⟨hr,I6⟩=>?_
  subst hr
  exact wpAny_pure (fin H5 s6 I6 qn)
 ·refine thn (T.item (cxCN X M scope z C fp s2 H2) rfl rfl rfl hc i [] s5 (capS ix σ) H5 _ I5 (stat fr5) st5 go) λr s6 ⟨u,hr,h6⟩=>?_
  subst hr
  refine wpAny_bind (thn h6 λ_ s7 ⟨x,H7,I7,r7,y7,st7,fr7⟩=>?_)
  have I7':=I7.pinned (stat fr7) (T.obj _ _ st7)
  refine wpAny_bind (wpAny_mono (hg _ s7 (capS ix σ) H7 x u _ I7' r7 (step x H7 y7)) (λ_ s8 ⟨σ8,H8,I8,k8,q8⟩=>?_) λ_ _ z=>False.elim z)
  refine wpAny_bind (wpAny_mono (ht _ s8 σ8 H8 _ I8 q8) (λok s9 ⟨H9,I9,q9⟩=>?_) λ_ _ z=>False.elim z)
  have again:∀{Ha:Hp}{sa:Shared},Inv (cxCN X M scope z C fp s2 H2) ([]++qgi fp s7.heap) σ8 Ha sa->N Ha->∃m,m<n/\∃i H',Inv (cxCN X M scope z C fp s2 H2) [] (capS ix σ) H' sa/\tn i sa.heap/\(∀b∈fp,H' b=none)/\W i m H':=λ{Ha sa} Ia na=>by
   obtain ⟨m',hm,wa⟩:=hN Ha na
   refine ⟨m',hm,i+1,Ha,Ia.unpinned.weak k8.1.symm k8.2,T.keep _ _ _ st7 λb hb o e=>(Ia.pin (b,o) (mem_append_right _ (mem_append_right _ (yb1 hb e)))).1,λb hb=>?_,wa⟩
   obtain ⟨o,e,d⟩:=T.obj _ _ st7 b hb
   exact (Ia.pin (b,o) (mem_append_right _ (mem_append_right _ (yb1 hb e)))).2.1
  cases ok with
  |false=>exact wpAny_pure ⟨rfl,again I9 q9⟩
  |true=>
   refine wpAny_bind (wpAny_bind (wpAny_mono (he _ s9 σ8 H9 _ I9 q9) (λxv s10 ⟨v,H10,I10,r10,ys,hD,hl,q10⟩=>?_) λ_ _ z=>False.elim z))
   refine wpAny_bind (wpAny_mono (qas (X:=cxCN X M scope z C fp s2 H2) _ s10 σ8 H10 (.ref D) [v] (.ref D) [xv] (λ_ H'=>N H') I10 rfl (.cons r10 .nil) ⟨D,ys,v,rfl,rfl,hD,hl,q10⟩) (λ_ s11 ⟨_,H11,I11,_,q11⟩=>?_) λ_ _ z=>False.elim z)
   exact wpAny_pure (wpAny_pure ⟨rfl,again I11 q11⟩)
theorem yjb{pins:List (Addr×Obj)}{σ:St}{H2:Hp}{s2:Shared}{fp:List Addr}{it:Addr}{tn:Nat->Heap->Prop}{J:It}{E:Value->Shared->Prop}{QD:Addr->Hp->Prop}{RR:Value->Addr->Result->Shared->Prop}(I2:Inv X pins σ H2 s2)(hc:X.calm=true)
  (ck:CompOkN X.N M ix scope X.env.scope z) (f2:∀b∈fp,FpOk X pins H2 b) (T:Turn X.prog X.w X.K tg J fp it tn) (st2:tn 0 s2.heap)
  (hg:∀C fp s2 H2,PG (cxCN X M scope z C fp s2 H2) tg g) (ht:∀C fp s2 H2,PTs (cxCN X M scope z C fp s2 H2) ifs tt) (he:∀C fp s2 H2,PE (cxCN X M scope z C fp s2 H2) elt te)
  (rd:∀D,H2 D=none->∃W:Nat->Nat->Hp->Prop,(∃m,W 0 m (upd H2 D (.lst [])))/\∀i m H,W i m H->
   (J.stop i H/\QD D H)\/(J.go i H/\∃N:Hp->Prop,(∀H',N H'->∃m',m' < m/\W (i+1) m' H')/\∀x H',J.yld i H x H'->g x (capS ix σ) H' λσ2 H2=>qaw (capS ix σ) σ2/\tt σ2 H2 λb H3=>
    if b=true then te σ2 H3 λv H4=>∃ys,H4 D=some (.lst ys)/\ys.length<sizeLine/\N (upd H4 D (.lst (ys++[v]))) else N H3))
  (fin:∀D C H' s',QD D H'->(∃m,s'.heap.Ns C m)->(∀h2,Heap.SameBut C s'.heap h2->Inv X pins σ H' { s' with heap:=h2 })->FpOk X pins H' C->RR (.ref D) C (.ok .next) s') :
  wpAny (model X.prog X.w) X.A (newList []) (λacc s3=>wpAny (model X.prog X.w) X.A (newFunctionEnv scope X.env.globals (clOf X.env.cells scope.names []) [] X.env.qual none .none (some X.env)) (λcenv s4=>
   codeAny (model X.prog X.w) X.A (.compStart (.ListComp elt [⟨tg,iter,ifs,0⟩] scope pos) 0 (.ref it) acc { cenv with scope:=relabel scope X.env }) (RR acc cenv.locals) s4) E s3) E s2:=by
 have hfp:∀b∈fp,b<s2.heap.objs.size:=λb hb=>by obtain ⟨o,e,_⟩:=T.obj 0 _ st2 b hb;exact lt_size e
 refine wpAny_newObj_type ?_
 generalize hP:s2.heap.push { cls:=.type "list",dict:=none,data:=.seq ([]:List Value).toArray }=hh
 have hCz:hh.objs.size=s2.heap.objs.size+1:=by rw[<-hP,size_push]
 have hCD:hh.objs.size≠s2.heap.objs.size:=by omega
 simp only[newFunctionEnv,Option.isSome_some,if_true]
 refine wpAny_bind (wpAny_alloc ?_)
 refine wpAny_bind (wpAny_layCells _ (λname kind cells=>by cases hkc:kind == NameKind.cell<;>simp[hkc]) _ _ _ _ ?_)
 rw[show ({ s2 with heap:=hh.push { cls:=.type "dict",data:=.dict #[] } }:Shared).heap.objs.size=hh.objs.size+1 from size_push ..,cf_one ck.cell,pc_one ck.cell,List.forIn_nil]
 refine wpAny_bind (wpAny_pure (wpAny_pure ?_))
 dsimp only
 generalize h1e:(hh.push { cls:=.type "dict",data:=.dict #[] }).push { cls:=.type "cell",data:=.cell none }=h1
 have old:∀b o,s2.heap.get? b=some o->h1.get? b=some o:=λb o e=>by
  rw[<-h1e,<-hP]
  exact get?_push_of_some _ (get?_push_of_some _ (get?_push_of_some _ e))
 have hnew:h1.get? s2.heap.objs.size=some { cls:=.type "list",data:=.seq #[] }:=by
  rw[<-h1e,<-hP]
  exact get?_push_of_some _ (get?_push_of_some _ (get?_push_size _ rfl))
 have hn1:h1.Ns hh.objs.size λ_=>none:=by
  rw[<-h1e]
  exact (Heap.Ns.new hh (.type "dict")).keeps λb o e=>get?_push_of_some _ e
 have hcl:h1.IsCell (hh.objs.size+1) none:=by
  rw[<-h1e,<-size_push hh { cls:=.type "dict",data:=.dict #[] }]
  exact ⟨_,get?_push_size _ rfl,rfl⟩
 obtain ⟨W,⟨m0,w0⟩,turn⟩:=rd s2.heap.objs.size (I2.hok.fresh (le_refl _))
 have I4:=qlq (M:=M) (ix:=ix) (scope:=scope) (fp:=fp) (tk:=s2.toks) I2 ck (C:=hh.objs.size) (D:=s2.heap.objs.size) (by omega) (le_refl _) hCD f2 hfp old hn1 hnew hcl (ne_of_gt (by rw[hCz];omega))
 have st4:tn 0 h1:=T.keep _ _ _ st2 λb _ o e=>old b o e
 have fr4:∀b∈fp,upd H2 s2.heap.objs.size (.lst []) b=none:=λb hb=>by rw[qah (ne_of_lt (hfp b hb))];exact (f2 b hb).1
 have lp:codeAny (model X.prog X.w) X.A (.compLoop (.ListComp elt [⟨tg,iter,ifs,0⟩] scope pos) 0 (.ref it) (.ref s2.heap.objs.size) (compEnvC scope ((z,hh.objs.size+1)::clOf X.env.cells scope.names []) hh.objs.size X.env)) (RR (.ref s2.heap.objs.size) hh.objs.size) { s2 with heap:=h1,toks:=s2.toks }:=by
  refine yj3 (QD:=QD s2.heap.objs.size) I2 hc f2 T (hg _ _ _ _) (ht _ _ _ _) (he _ _ _ _) I4 st4 fr4 W m0 w0 turn λH' s' J' q'=>?_
  obtain ⟨m,hm,_⟩:=J'.loc
  exact fin _ _ H' s' q' ⟨m,hm⟩ (λh2 sb=>ykb I2 J' f2 sb) (I2.fpOk (by omega) J'.free)
 exact codeAny_compStart_list lp (T.self _ 0 _ _ _ st4 lp)
theorem ps_setCN{i:Nat}{x:Str}{pos' spos:Pos}(hsw:swapsWith (.ListComp elt [⟨tg,iter,ifs,0⟩] scope pos) (some (.Name x pos')) spos.line X.env=pure true)(hN:X.N.Nodup)(hix:X.N[i]?=some x)(hx:Loc X.env.scope x)
  (hc:X.calm=true) (ck:CompOkN X.N M ix scope X.env.scope z) (hi:PI X tg iter wi) (hg:∀C fp s2 H2,PG (cxCN X M scope z C fp s2 H2) tg g) (ht:∀C fp s2 H2,PTs (cxCN X M scope z C fp s2 H2) ifs tt) (he:∀C fp s2 H2,PE (cxCN X M scope z C fp s2 H2) elt te)
  (hs:∀x,foldedSetIterable iter X.env x=pure x:=by intro _;rfl) (hf:X.fn x=true\/X.env.scope.names.lookup x=some .local:=by first|exact .inl rfl|exact .inr rfl|assumption) :
  PS X (.Assign [.Name x pos'] (.ListComp elt [⟨tg,iter,ifs,0⟩] scope pos) spos) (yjw wi ix g tt te i):=by
 intro pins s σ H D0 I h
 have hfree:∀x∈scope.names,x.2=.free->∃c,X.env.cells.lookup x.1=some c:=λx hx e=>I.ok.has x.1 (ck.fr x hx e)
 rw[exec_Assign_Name_used _ _ _ _ hsw]
 refine wpAny_bind (wpAny_standAt (wpAny_bind ?_))
 show wpAny _ X.A (do let _ <-comprehension (.ListComp elt [⟨tg,iter,ifs,0⟩] scope pos) scope X.env _ (newList []) false (eval iter X.env) (some (assign (.Name x pos') X.env))) _ _ s
 refine wpAny_bind (wpAny_mono (wpAny_comprehension_free (use:=some (assign (.Name x pos') X.env)) (Q:=λ_ s'=>SP X pins D0 .next s') (cl:=clOf X.env.cells scope.names []) rfl hs (qb4 hfree) ck.kind ck.loc
  (thn (hi pins s σ H _ I h) λv s1 h1=>thn h1 λitv s2 h2=>?_)) (λ_ s' hq=>wpAny_pure (wpAny_pure hq)) λ_ _ e=>e)
 obtain ⟨it,fp,tn,J,H2,e,I2,T,st2,f2,rd⟩:=h2
 subst e
 refine yjb (QD:=λD H'=>D0.nx (σ.set i (some (.ref D))) H') I2 hc ck f2 T st2 hg ht he rd λD C H' s' q hm hb fpk=>?_
 obtain ⟨m,hm⟩:=hm
 obtain ⟨g0,g1,g2,g3,g4,g5⟩:=fpk
 have I5:Inv X pins σ H' s':=hb s'.heap ⟨rfl,λ_ _=>rfl⟩
 show wpAny (model X.prog X.w) X.A (assign (.Name x pos') X.env (.ref D)) _ _ s'
 refine wpAny_assign_Name (qf6 (v:=.ref D) I5 hN hix hx rfl (λs6 I6 ⟨a,sb,ha⟩=>?_) hf)
 have hCa:C≠a:=by
  rcases ha with ha|ha
  ·rw[ha];exact g1
  ·exact (g4 x a ha).symm
 refine ⟨m,hm.sameBut sb hCa,λh2 sb2=>⟨_,H',I6.turned (t':=s6.toks) (λb o hb e=>(sb2.2 b hb).trans e) g0 g1 g3 g4 g5,q⟩⟩
end
end L2
namespace Mh
open PySem L2 PyProof.Rows Mx
theorem WdAt.same{H H':Hp}{r:Addr}{k wd:Nat}(h:WdAt H r k wd)(s:Same H H'):WdAt H' r k wd:=by
 obtain ⟨ts,e,l,g⟩:=h
 refine ⟨ts,s _ _ e,l,λb t ht=>?_⟩
 obtain ⟨a,rfl,ha⟩:=g b t ht
 exact ⟨a,rfl,s _ _ ha⟩
section
variable {P:Program}{w:World}{K:W.Frag}{mg:Str->Option Value}{base:Heap}
def ql7(K:W.Frag):Sp:=λvs H Q _=>∃(t Bk O L0 C0:Addr) (T:List Elm) (W wd:Nat) (bgs:List Str) (oa:List Addr) (oss:List (List Str)) (us:List V) (hs:List Hm) (cs:List Int),vs=[.ref t,.int (wd:Nat),.ref Bk,.int (W:Nat),.ref L0,.ref C0,.ref O]/\At H (.ref t) (ygc T)/\okT T/\H Bk=some (.lst (bgs.map V.str))/\OsAt H O oa oss/\(∀os∈oss,os.length=T.length)/\oss.length=bgs.length/\bgs.length<=8/\(∀bg∈bgs,wd<=bg.length/\bg.length<=8/\Fig bg wd)/\
 1<=wd/\wd<=4/\1<=W/\W<=16/\cs.length=W*wd/\H L0=some (.lst us)/\HsV H us hs/\Oks hs/\hs.length<=3/\InR hs cs.length/\H C0=some (.lst (cs.map V.int))/\
 ∀(D:Addr) (H':Hp),Same H H'->H' D=some (.lst ((wRun W wd hs T (bgs.zip oss) ([],yas hs cs)).1.map V.int))->Q (.ref D) H'
abbrev qeg:Stmt:=top 85
theorem qff:FnScope ["_law_test_here","_law_width","_law_backgrounds_here","_law_words","_law_harms_here","_law_contents_here","_law_orders_here","_law_held","_law_found","_law_k","_law_j","_law_some","_law_rows","_law_heard","_law_wrong"] ["_law_test_here","_law_width","_law_backgrounds_here","_law_words","_law_harms_here","_law_contents_here","_law_orders_here"] (qac qeg):=fsc
theorem ok_ldue(B:Bl mg)(yhv:Has P w K mg base 2 "_law_first" ["_law_harms_here","_law_contents_here"] qhp)(qe5:Has P w K mg base 1 "_law_addresses" ["_law_many","_law_order"] qjh)(qi4:Has P w K mg base 4 "_law_over" ["_law_harms_here","_law_held","_law_steps","_law_words","_law_background"] (qjj K))(F:FnAt K mg "_law_due" qeg ["_law_test_here","_law_width","_law_backgrounds_here","_law_words","_law_harms_here","_law_contents_here","_law_orders_here"]):Has P w K mg base 5 "_law_due" ["_law_test_here","_law_width","_law_backgrounds_here","_law_words","_law_harms_here","_law_contents_here","_law_orders_here"] (ql7 K):=by
 refine Has.ofQ F qff (λvs H Q E h=>?_) (λf cdv A0 outer s H vs Q E hr h=>?_)
 ·obtain ⟨t,Bk,O,L0,C0,T,W,wd,bgs,oa,oss,us,hs,cs,rfl,_⟩:=h
  rfl
 ·obtain ⟨t,Bk,O,L0,C0,T,W,wd,bgs,oa,oss,us,hs,cs,rfl,ht,okt,hB,os,oo,hl,h8,hbl,w1,w4,W1,W16,hcl,hL,hv,ok,h3,ir,hC0,k⟩:=h
  have sc:=qff
  refine ⟨_,(qag rfl (qad (qsE 7 sc.nd (yal yhv hr (yag (qab (pv 4)) (yag (qab (pv 5)) qae))))
   (qad (qsE 8 sc.nd (qat qae))
   (qad (ya8 PassesOwn.never rfl (qf9 (qa8 rfl (B.of rfl) (yaa (qak yah rfl (B.of rfl) boot_len (yaa (pv 2) yac)) yac))) (pgn 9 sc.nd)
    (yaf (ya8 PassesOwn.never rfl (qf9 (qa8 rfl (B.of rfl) (yaa (qak yah rfl (B.of rfl) boot_len (yaa (pv 0) yac)) yac))) (pgn 10 sc.nd)
     (qad (qsE 11 sc.nd (yal qe5 hr (yag (qab (pv 3)) (ybd (qap qam (qap qam (qab (pv 6)) (qab (pv 9))) (qab (pv 10))) qae))))
     (qad (ylo (ps_setCN (z:="_law_word") (i:=12) rfl sc.nd rfl (Or.inl rfl) rfl (ykc rfl rfl rfl rfl rfl rfl) (M:=["_law_word","_law_width"]) (ix:=[none,some 1]) (qa7 (pv 11)) (λ_ _ _ _=>(yav (i:=0) (show List.Nodup (["_law_word","_law_width"]:List Str) by decide +kernel) rfl (Or.inr rfl))) (λ_ _ _ _=>qcr) (λ_ _ _ _=>(qbv rfl (yaw rfl) (M:=["_law_bit_here","_law_word","_law_width"]) (ix:=[none,some 0,some 1]) (qa8 rfl (B.of rfl) (yaa (pv 1) yac)) (λ_ _ _ _=>(yav (i:=0) (show List.Nodup (["_law_bit_here","_law_word","_law_width"]:List Str) by decide +kernel) rfl (Or.inl rfl))) (λ_ _ _ _=>qcr) (λ_ _ _ _=>(ybn (yaa (yau ya7 (yau qch (pv 1) (pv 2)) (pv 0)) (yaa (pv 0) yac))))))))
     (qad (qji (yal qi4 hr (yag (qab (pv 4)) (yag (qab (pv 7)) (ybd (qap qai (qap qam (qab (pv 0)) (qab (pv 10))) (qab yab)) (yag (qab (pv 12)) (ybd (qap qam (qab (pv 2)) (qab (pv 9))) qae)))))) (qck rfl (qan (pgn 7 sc.nd) (qan (pgn 13 sc.nd) (qan (pgn 14 sc.nd) ybi)))))
     (yaf (qsE 8 sc.nd (qa5 qdb (qab (pv 8)) (qab (pv 13)))))))))))
   (yaf (qao (qab (pv 8)))))))),?_⟩
  have z2:2<=sizeLine:=by decide
  have hn:cs.length<=64:=by rw[hcl];exact mul_le_mul W16 w4
  obtain ⟨_,ws,hre,hlt,hwt⟩:=ht.lstEq
  cases hre
  have wl:ws.length=T.length:=by have:=hwt.length;rw[length_map]at this;exact this
  have ol:oa.length=oss.length:=os.len
  refine ⟨_,rfl,_,rfl,L0,C0,us,hs,cs,rfl,hL,hv,ok,h3,ir,hC0,hn,λA H1 s1 t1=>gn ?_⟩
  refine ⟨zero_le _,λD nD=>gn ?_⟩
  have s2:=s1.upd (o:=.lst []) nD
  have t2:upd H1 D (.lst []) A=some (.tup ((yas hs cs).map V.int)):=by rw[qah (yad t1 nD)];exact t1
  have f2:=@qaa H1 D (.lst [])
  revert s2 t2 f2
  generalize upd H1 D _=H2
  intro s2 t2 f2
  have lW:=λi=>qfb (hs:=hs) W16 w4 okt ((bgs.zip oss).take i) ([],yas hs cs)
  have lz:∀i,((bgs.zip oss).take i).length<=8:=λi=>by rw[length_take,length_zip];omega
  have hsl:=yfp hs cs
  refine ⟨_,rfl,Bk,_,rfl,.inl (sqlO (s2 _ _ hB)),bgs.length,(by rw[length_map]),(by omega),(by omega),qbl (n:=bgs.length) (λi σ H3=>∃(A D:Addr) (o9 o10 o11 o12 o13 o14:Option V),σ=[some (.ref t),some (.int wd),some (.ref Bk),some (.int W),some (.ref L0),some (.ref C0),some (.ref O),some (.ref A),some (.ref D),o9,o10,o11,o12,o13,o14]/\Same H H3/\H3 A=some (.tup ((wRun W wd hs T ((bgs.zip oss).take i) ([],yas hs cs)).2.map V.int))/\H3 D=some (.lst ((wRun W wd hs T ((bgs.zip oss).take i) ([],yas hs cs)).1.map V.int)))
   ⟨A,D,none,none,none,none,none,none,rfl,s2,t2,f2⟩ ?_ ?_⟩
  ·rintro i σ H3 hi ⟨A,D,o9,o10,o11,o12,o13,o14,rfl,s3,t3,e3⟩
   rw[zero_add]
   have hbg:=getElem?_eq_getElem hi
   generalize bgs[i]'hi=bg at hbg
   have hio:i<oss.length:=by omega
   have hoz:=getElem?_eq_getElem hio
   generalize oss[i]'hio=oz at hoz
   have hia:i<oa.length:=by omega
   have hoa:=getElem?_eq_getElem hia
   generalize oa[i]'hia=a at hoa
   obtain ⟨a',oz',haa,hoz',ha⟩:=os.get (show (oa.map V.ref)[i]?=some (.ref a) by rw[getElem?_map,hoa];rfl)
   cases haa
   rw[hoz]at hoz'
   cases hoz'
   have ozl:=oo oz (mem_of_getElem? hoz)
   obtain ⟨b1,b8,fg⟩:=hbl bg (mem_of_getElem? hbg)
   have hst:wRun W wd hs T ((bgs.zip oss).take (i+1)) ([],yas hs cs)=bRun W wd hs bg (T.zip oz) (wRun W wd hs T ((bgs.zip oss).take i) ([],yas hs cs)):=ybf _ _ (yg5 hbg hoz)
   have hlen:=lW i
   have hz8:=lz i
   rw[hst]
   clear hst
   generalize wRun W wd hs T ((bgs.zip oss).take i) ([],yas hs cs)=st at *
   obtain ⟨l2,l1⟩:=hlen
   have l2:st.2.length=W*wd:=by have:st.2.length=(yas hs cs).length:=l2;rw[this,hsl,hcl]
   have l1:st.1.length<=30000:=by have:st.1.length<=0+3072*((bgs.zip oss).take i).length:=l1;omega
   have hz6:∀z∈T.zip oz,z.1.2.length<=6:=λz hz=>(okt.2.2 z.1 (of_mem_zip hz).1).2.2
   refine gn ?_
   refine ⟨_,rfl,t,_,rfl,.inl (sqlO (s3 _ _ hlt)),T.length,(by rw[wl]),(by have:=okt.2.1;omega),(by have:=okt.2.1;omega),qbl (n:=T.length) (λj σ H4=>∃(A D:Addr) (o10 o11 o12 o13 o14:Option V),σ=[some (.ref t),some (.int wd),some (.ref Bk),some (.int W),some (.ref L0),some (.ref C0),some (.ref O),some (.ref A),some (.ref D),some (.int i),o10,o11,o12,o13,o14]/\Same H H4/\H4 A=some (.tup ((bRun W wd hs bg ((T.zip oz).take j) st).2.map V.int))/\H4 D=some (.lst ((bRun W wd hs bg ((T.zip oz).take j) st).1.map V.int)))
    ⟨A,D,_,_,_,_,_,rfl,s3,t3,e3⟩ ?_ ?_⟩
   ·rintro j σ H4 hj ⟨A,D,o10,o11,o12,o13,o14,rfl,s4,t4,e4⟩
    rw[zero_add]
    have he:=getElem?_eq_getElem hj
    generalize T[j]'hj=e at he
    have hjo:j<oz.length:=by omega
    have ho:=getElem?_eq_getElem hjo
    generalize oz[j]'hjo=o at ho
    have hjw:j<ws.length:=by omega
    have hxe:=getElem?_eq_getElem hjw
    generalize ws[j]'hjw=xe at hxe
    obtain ⟨de,hde,hat⟩:=hwt.get hxe
    obtain ⟨e',he',rfl⟩:=qaz hde
    rw[he]at he'
    cases he'
    obtain ⟨ea,el,sw,rfl,hea,hel,hsw⟩:=yej hat
    have h6:=(okt.2.2 e (mem_of_getElem? he)).2.2
    have hst:bRun W wd hs bg ((T.zip oz).take (j+1)) st=qix W wd hs bg (bRun W wd hs bg ((T.zip oz).take j) st) (e,o):=ybf _ _ (yg5 he ho)
    have hlen:=yfa (hs:=hs) (bg:=bg) W16 w4 ((T.zip oz).take j) st λz hz=>hz6 z (mem_of_mem_take hz)
    have hzl:((T.zip oz).take j).length<=8:=by rw[length_take,length_zip];have:=okt.2.1;omega
    rw[hst]
    clear hst
    generalize bRun W wd hs bg ((T.zip oz).take j) st=sv at *
    obtain ⟨v2,v1⟩:=hlen
    refine gn ?_
    refine ⟨_,rfl,_,rfl,_,rfl,O,_,_,_,rfl,rfl,sqlO (s4 _ _ os.l),ybl (by rw[getElem?_map,hoa];rfl),_,rfl,a,_,_,_,rfl,rfl,sqlO (s4 _ _ ha),ybl (by rw[getElem?_map,ho];rfl),W,o,rfl,by omega,λDd H5 s5 nDd e5=>gn ?_⟩
    have ks16:(wOrd W (decide (V.str o=V.str "up"))).length<=16:=by rw[qjf];exact W16
    have ksW:∀k∈wOrd W (decide (V.str o=V.str "up")),k<W:=λk hk=>qln hk
    have hbs:qix W wd hs bg sv (e,o)=(sv.1++(dRun hs ((wOrd W (decide (V.str o=V.str "up"))).flatMap (wDo wd bg e.2)) ([],sv.2)).1,(dRun hs ((wOrd W (decide (V.str o=V.str "up"))).flatMap (wDo wd bg e.2)) ([],sv.2)).2):=rfl
    rw[hbs]
    clear hbs
    generalize wOrd W (decide (V.str o=V.str "up"))=ks at *
    have s05:=s4.trans s5
    refine ⟨_,rfl,Dd,rfl,⟨_,sqlO e5⟩,λR nR=>qbp (n:=ks.length) (λc H6=>Same H5 H6/\∃ra:List Addr,H6 R=some (.lst (ra.map V.ref))/\ra.length=c/\(∀r∈ra,r≠R)/\∀(x:Nat) (r:Addr) (k:Nat),ra[x]?=some r->ks[x]?=some k->WdAt H6 r k wd) ⟨(smR H5).upd nR,[],qaa,rfl,(by simp),λx r k h=>by simp at h⟩ ?_ ?_⟩
    rotate_left
    ·rintro c H6 hc ⟨s6,ra,e6,rl,rn,rg⟩
     have e56:=s6 _ _ e5
     have hkc:=getElem?_eq_getElem hc
     generalize ks[c]'hc=kk at hkc
     have hkW:=ksW kk (mem_of_getElem? hkc)
     have hvc:(((ks.map Int.ofNat).map V.int))[c]?=some (.int (kk:Nat)):=by rw[getElem?_map,getElem?_map,hkc];rfl
     refine ⟨⟨_,_,sqlO e56,hvc⟩,?_⟩
     rintro y H7 ⟨rfl,hy⟩
     have hy:=hy _ (sqlO e56)
     rw[hvc]at hy
     cases hy
     refine ⟨qaw.set (qaw.refl _) rfl,yes ?_⟩
     refine ⟨_,rfl,wd,rfl,by omega,by omega,λD2 nD2=>qbp (n:=wd) (λb H8=>Same H7 H8/\∃ts:List V,H8 D2=some (.lst ts)/\ts.length=b/\∀(x:Nat) (u:V),ts[x]?=some u->∃a,u=.ref a/\H8 a=some (.tup [.int ((kk*wd+x:Nat):Int),.int (x:Nat)])) ⟨(smR H7).upd nD2,[],qaa,rfl,λx u h=>by simp at h⟩ ?_ ?_⟩
     ·rintro H8 ⟨s8,ts,e8,tl,tg⟩
      refine ⟨by show _<=_;simp,?_⟩
      have nD2R:D2≠R:=(yad e6 nD2).symm
      have n8:∀xs,H8 R≠some (.tup xs):=λxs h=>by rw[s8 _ _ e6]at h;cases h
      refine ⟨_,s8 _ _ e6,qbb (by rw[length_map];omega),(s6.trans s8).at nR,ra++[D2],by rw[qaa,map_append];rfl,by rw[length_append,rl];rfl,λr hr=>?_,λx r k hx hk=>?_⟩
      ·rcases mem_append.mp hr with h|h
       ·exact rn r h
       ·rw[mem_singleton.mp h];exact nD2R
      by_cases hxc:x<ra.length
      ·rw[getElem?_append_left hxc]at hx
       have hw:=(rg x r k hx hk).same s8
       exact hw.kp n8 (rn r (mem_of_getElem? hx)) λb u hb e=>by rw[qah hb];exact e
      ·rw[getElem?_append_right (by omega)]at hx
       have:x-ra.length=0:=by
        cases h:x-ra.length with
        |zero=>rfl
        |succ n=>rw[h]at hx;simp at hx
       rw[this]at hx
       cases hx
       obtain rfl:x=c:=by omega
       rw[hkc]at hk
       cases hk
       exact (WdAt.kp ⟨ts,e8,tl,tg⟩ n8 nD2R λb u hb e=>by rw[qah hb];exact e)
     ·rintro b H8 hb ⟨s8,ts,e8,tl,tg⟩
      refine ⟨by show b<_;simpa using hb,?_⟩
      rintro x' H9 ⟨rfl,rfl⟩
      refine ⟨qaw.set (qaw.refl _) rfl,yes ?_⟩
      rw[zero_add]
      refine ⟨_,rfl,_,rfl,_,_,rfl,rfl,.inl ⟨by omega,by omega⟩,_,rfl,_,_,rfl,rfl,_,rfl,z2,λta nta=>?_⟩
      have s9:=(smR H9).upd (o:=.tup [.int ((kk:Int)*(wd:Int)+(b:Int)),.int b]) nta
      have e9:=s9 _ _ e8
      refine ⟨_,e9,qbb (by omega),(s8.trans s9).at nD2,ts++[.ref ta],qaa,by rw[length_append,tl];rfl,λx u hx=>?_⟩
      by_cases hxb:x<ts.length
      ·rw[getElem?_append_left hxb]at hx
       obtain ⟨a,rfl,ha⟩:=tg x u hx
       have ha9:=s9 _ _ ha
       exact ⟨a,rfl,by rw[qah (λz=>by rw[z,e9]at ha9;cases ha9)];exact ha9⟩
      ·rw[getElem?_append_right (by omega)]at hx
       have:x-ts.length=0:=by
        cases h:x-ts.length with
        |zero=>rfl
        |succ n=>rw[h]at hx;simp at hx
       rw[this]at hx
       cases hx
       obtain rfl:x=b:=by omega
       have ht9:upd H9 ta (.tup [.int ((kk:Int)*(wd:Int)+(x:Int)),.int x]) ta=some (.tup [.int ((kk*wd+x:Nat):Int),.int (x:Nat)]):=by rw[qaa];congr 4
       exact ⟨ta,rfl,by rw[qah (yad e8 nta).symm];exact ht9⟩
    rintro H6 ⟨s6,ra,e6,rl,rn,rg⟩
    refine ⟨⟨_,sqlO (s6 _ _ e5),by simp⟩,gn ?_⟩
    have s06:=s05.trans s6
    have s46:=s5.trans s6
    have svl:sv.2.length=W*wd:=by rw[v2,l2]
    refine ⟨_,rfl,_,rfl,_,rfl,_,rfl,t,_,_,_,rfl,rfl,sqlO (s06 _ _ hlt),ybl hxe,ea,_,_,_,rfl,rfl,sqtO (s06 _ _ hea),yae 1 rfl,_,rfl,_,rfl,_,rfl,Bk,_,_,_,rfl,rfl,sqlO (s06 _ _ hB),ybl (by rw[getElem?_map,hbg];rfl),L0,A,el,R,us,sw,hs,sv.2,e.2,ra,ks,wd,W,bg,rfl,⟨s06 _ _ hL,hv.same s06,ok,h3,s46 _ _ t4,by omega⟩,by rw[svl,<-hcl];exact ir,s06 _ _ hel,(qd1 (H':=H6) (λb u e h=>s06 _ _ e) hsw),h6,⟨e6,rl,rg⟩,ksW,ks16,svl,w4,b1,b8,fg,λr7 B7 p7 b7 H7 s7 r7e t7 e7=>?_⟩
    refine ⟨r7,_,rfl,sqtO r7e,rfl,_,_,rfl,_,_,rfl,_,_,rfl,rfl,gn ?_⟩
    have e47:=s7 _ _ (s46 _ _ e4)
    refine ⟨_,rfl,_,rfl,D,p7,_,_,rfl,rfl,e47,e7,ydg ?_,λq nq=>?_⟩
    ·have d3:=(yb8 hs (ks.flatMap (wDo wd bg e.2)) ([],sv.2)).2
     have d4:(ks.flatMap (wDo wd bg e.2)).length<=24*16:=le_trans (ya5 (c:=24) λx _=>le_trans yhl (mul_le_mul w4 h6)) (mul_le_mul_left _ ks16)
     rw[length_nil,Nat.zero_add]at d3
     rw[length_map,length_map]
     omega
    ·refine ⟨B7,q,_,_,_,_,_,rfl,(s06.trans s7).upd nq,?_,by rw[qaa,<-map_append]⟩
     rw[qah (yad t7 nq)]
     exact t7
   ·rintro σ H4 ⟨A,D,o10,o11,o12,o13,o14,rfl,s4,t4,e4⟩
    rw[take_of_length_le (by rw[length_zip];omega)]at t4 e4
    exact ⟨A,D,_,_,_,_,_,_,rfl,s4,t4,e4⟩
  ·rintro σ H3 ⟨A,D,o9,o10,o11,o12,o13,o14,rfl,s3,t3,e3⟩
   rw[take_of_length_le (by rw[length_zip];omega)]at e3
   exact ⟨_,rfl,k D H3 s3 e3⟩
def kv:Option Bool->V
 |none=>.non
 |some b=>.int (b2i b)
theorem yg3(n:Int):n % 2=b2i (decide (n % 2=1)):=by
 by_cases h:n % 2=1
 ·simp[b2i,h]
 ·have h0:=emod_nonneg n (show (2:Int)≠0 by decide)
  have h1:=emod_lt_of_pos n (show (0:Int)<2 by decide)
  simp only[b2i,h,decide_false]
  show n % 2=0
  omega
theorem order_of{d:Int}(h0:0<=d)(h1:d<3):∃o,okO o/\atI [V.str "up",.str "down",.str "any"] d=some (.str o):=by
 have h:d=0\/d=1\/d=2:=by omega
 rcases h with rfl|rfl|rfl
 ·exact ⟨_,.inl rfl,rfl⟩
 ·exact ⟨_,.inr (.inl rfl),rfl⟩
 ·exact ⟨_,.inr (.inr rfl),rfl⟩
structure D7(ds:List Int)(m:Nat):Prop where
 m1:1<=m
 m4:m<=4
 len:7*m+1<=ds.length
 pos:∀d∈ds,0<=d
 ord:∀k,k<m->∃d,ds[7*k+1]?=some d/\d<18
theorem D7.get{ds:List Int}{m:Nat}(h:D7 ds m){i:Nat}(hi:i<7*m+1):∃d,ds[i]?=some d/\0<=d:=by
 have hl:i<ds.length:=lt_of_lt_of_le hi h.len
 exact ⟨ds[i],getElem?_eq_getElem hl,h.pos _ (getElem_mem hl)⟩
theorem D7.cut{ds:List Int}{m:Nat}(h:D7 ds m){k:Nat}(hk:k<m){r:Int}(r0:0<=r)(r3:r<3):∃ps:List Int,cutV (ds.map V.int) (some (7*(k:Int)+2)) (some (7*(k:Int)+3+r))=ps.map V.int/\1<=ps.length/\ps.length<=3/\∀p∈ps,0<=p:=by
 have hl:=h.len
 refine ⟨(ds.drop (7*k+2)).take (1+r.toNat),?_,?_,?_,λp hp=>h.pos p (List.mem_of_mem_drop (mem_of_mem_take hp))⟩
 ·unfold cutV
  have e1:HT.sIx (ds.map V.int).length 0 (some (7*(k:Int)+2))=7*k+2:=by
   rw[length_map]
   unfold HT.sIx
   dsimp only
   rw[if_neg (by omega)]
   omega
  have e2:HT.sIx (ds.map V.int).length (ds.map V.int).length (some (7*(k:Int)+3+r))=7*k+3+r.toNat:=by
   rw[length_map]
   unfold HT.sIx
   dsimp only
   rw[if_neg (by omega)]
   omega
  rw[e1,e2,show 7*k+3+r.toNat-(7*k+2)=1+r.toNat by omega,<-map_drop,<-map_take]
 ·rw[length_take,length_drop];omega
 ·rw[length_take,length_drop];omega
def ok3(T:List Elm):Prop:=∀e∈T,e.2.length<=3
def yjs:Sp:=λvs H Q _=>∃(a:Addr) (ds:List Int) (m:Nat),vs=[.ref a,.int m]/\H a=some (.lst (ds.map V.int))/\D7 ds m/\
 ∀p T H',Same H H'->H p=none->At H' (.ref p) (ygc T)->okT T->ok3 T->T.length<=m->Q (.ref p) H'
abbrev qdv:Stmt:=top 81
theorem ye0:FnScope ["_law_d","_law_most","_law_known","_law_test_here","_law_k","_law_steps","_law_step_here"] ["_law_d","_law_most"] (qac qdv):=fsc
theorem ok_test7(B:Bl mg)(F:FnAt K mg "_law_test" qdv ["_law_d","_law_most"]):Has P w K mg base 1 "_law_test" ["_law_d","_law_most"] yjs:=by
 refine Has.ofQ F ye0 (λvs H Q E h=>?_) (λ_ _ _ _ _ H vs Q E hr h=>?_)
 ·obtain ⟨a,ds,m,rfl,_⟩:=h
  rfl
 ·obtain ⟨a,ds,m,rfl,ha,d7,k⟩:=h
  have sc:=ye0
  refine ⟨_,(qag rfl (qad (qsE 2 sc.nd (qab qik))
   (qad (qsE 3 sc.nd (qat qae))
   (qad (ya8 PassesOwn.never rfl (qf9 (qa8 rfl (B.of rfl) (yaa (yau ya7 yab (yau qbz (yan qam (pv 0) yab) (pv 1))) yac))) (pgn 4 sc.nd)
    (qad (qsE 5 sc.nd (qat qae))
    (qad (ya8 PassesOwn.never rfl (qbn (qab (qcq qce (pv 0) (qau (yau ya7 (yau qch yab (pv 4)) yab)) (qau (yau ya7 (yau ya7 (yau qch yab (pv 4)) yab) (yau qbz (yan qam (pv 0) (yau ya7 (yau qch yab (pv 4)) yab)) yab)))))) (pgn 6 sc.nd)
     (yaf (ya9 (QW.pt (qes (qt_of (qii (yjd (pv 2)))) (qdr (qar ya1 (qa5 qbz (qab (pv 6)) (qab yab)) (qab yab) (yaj _)))))
      (yaf (qax (qab (ydf PySem.F.plainAttrs_list PySem.F.slot_list_append PySem.F.type_list_append qas (pv 5) (yaa (ybn (yaa yak (yaa (pv 2) yac))) yac)))))
      (qad (qsE 2 sc.nd (qa5 qbz (qa5 qfk (qab (pv 6)) (qab yab)) (qab yab)))
      (yaf (qax (qab (ydf PySem.F.plainAttrs_list PySem.F.slot_list_append PySem.F.type_list_append qas (pv 5) (yaa (ybn (yaa yak (yaa (pv 2) yac))) yac)))))))))
    (yaf (qax (qab (ydf PySem.F.plainAttrs_list PySem.F.slot_list_append PySem.F.type_list_append qas (pv 3) (yaa (ybn (yaa (yan qam (ycb (yaa yak (yaa yak (yaa yak yac)))) (yau qfk (yan qam (pv 0) (yau ya7 (yau qch yab (pv 4)) yab)) yab)) (yaa (pv 5) yac))) yac))))))))
   (yaf (qao (qab (pv 3)))))))),?_⟩
  have m1:=d7.m1
  have m4:=d7.m4
  obtain ⟨d0,g0,p0⟩:=d7.get (i:=0) (by omega)
  refine ⟨zero_le _,λp hp=>?_⟩
  have ha1:upd H p (.lst []) a=some (.lst (ds.map V.int)):=by rw[qah (yad ha hp)];exact ha
  have hn:∃n:Nat,(1:Int)+d0 % (m:Int)=(n:Int)/\n<=m/\1<=n:=⟨1+(d0 % (m:Int)).toNat,by have:=emod_nonneg d0 (b:=(m:Int)) (by omega);omega,by have:=emod_lt_of_pos d0 (b:=(m:Int)) (by omega);omega,by omega⟩
  obtain ⟨n,en,nm,n1⟩:=hn
  refine ⟨_,rfl,a,_,_,_,rfl,rfl,sqlO ha1,yae 0 (yeg g0),_,rfl,_,_,rfl,rfl,(by show (0:Int)<(m:Int);omega),_,_,rfl,rfl,n,(by show [V.int (1+d0 % (m:Int))]=_;rw[en]),by omega,by omega,?_⟩
  refine qbl (n:=n) (λi σ H2=>∃(kn:Option Bool) (T:List Elm) (q4 q5 q6:Option V),σ=[some (.ref a),some (.int m),some (kv kn),some (.ref p),q4,q5,q6]/\Same H H2/\Bld [] H2 p (T.map qea)/\(∀e∈T,okE e/\e.2.length<=3)/\T.length=i)
   ⟨none,[],none,none,none,rfl,(smR H).upd hp,Bld.new,(by intro e he;cases he),rfl⟩ ?_ ?_
  ·rintro i σ H2 hi ⟨kn,T,q4,q5,q6,rfl,s2,bT,okT',hTl⟩
   rw[zero_add]
   obtain ⟨d1,g1,l18⟩:=d7.ord i (by omega)
   have p1:0<=d1:=d7.pos d1 (mem_of_getElem? g1)
   refine ⟨zero_le _,λl hl=>?_⟩
   have ha2:H2 a=some (.lst (ds.map V.int)):=s2 _ _ ha
   have ha3:upd H2 l (.lst []) a=some (.lst (ds.map V.int)):=by rw[qah (yad ha2 hl)];exact ha2
   obtain ⟨ps,eps,pl0,pl1,hps⟩:=d7.cut (k:=i) (by omega) (r:=d1 % 3) (by omega) (by omega)
   refine ⟨_,rfl,_,rfl,_,_,rfl,rfl,.inl (by omega),_,_,rfl,rfl,_,rfl,_,rfl,_,_,rfl,rfl,.inl (by omega),_,_,rfl,rfl,_,rfl,_,rfl,_,_,rfl,rfl,.inl (by omega),_,_,rfl,rfl,a,_,_,_,rfl,rfl,sqlO ha3,yae (7*i+1) (yeg g1) (by omega),_,_,rfl,rfl,(by show (0:Int)<3;decide),_,_,rfl,rfl,_,rfl,a,_,rfl,sqlO ha3,λsp hsp=>?_⟩
   generalize hE:upd (upd H2 l (.lst [])) sp _=HE
   have sE:Same H2 HE:=by rw[<-hE];exact ((smR H2).upd hl).upd hsp
   have hEsp:HE sp=some (.lst (ps.map V.int)):=by rw[<-hE];exact qaa.trans (congrArg (λz=>some (HO.lst z)) eps)
   have hEl:HE l=some (.lst []):=by rw[<-hE,qah (yad qaa hsp)];exact qaa
   have nlp:l≠p:=(yad bT.choose_spec.1 hl).symm
   have nlsp:l≠sp:=yad (o:=.lst []) qaa hsp
   have nsp:H2 sp=none:=by
    have:=hsp;rw[qah nlsp.symm]at this;exact this
   refine ⟨sp,rfl,⟨_,sqlO hEsp⟩,yaq (xs:=ps.map V.int) (λj σ H3=>∃(kn:Option Bool) (ss:List Stp) (q6:Option V),σ=[some (.ref a),some (.int m),some (kv kn),some (.ref p),some (.int i),some (.ref l),q6]/\
    Same H2 H3/\H3 sp=some (.lst (ps.map V.int))/\Bld [p] H3 l (ss.map ycm)/\ss.length=j) ⟨kn,[],q6,rfl,sE,hEsp,⟨[],hEl,.nil⟩,rfl⟩ (λj σ H3 _ ⟨_,_,_,_,_,h,_⟩=>sqlO h) ?_ ?_⟩
   ·rintro j x σ H3 hx ⟨kn,ss,q6,rfl,s3,hsp3,bS,hsl⟩
    obtain ⟨pk,hpk,rfl⟩:=ylv hx
    have hjl:j<ps.length:=(List.getElem?_eq_some_iff.mp hpk).1
    have put:∀{q:Addr} (sw sb:Bool) (kn':Option Bool) {o:HO}{vk:V},H3 q=none->vk=kv kn'->o=.tup [.str (ydo sw),.int (b2i sb)]->∃ys,upd H3 q o l=some (.lst ys)/\ys.length<sizeLine/\∃(kn2:Option Bool) (ss2:List Stp) (q6:Option V),[some (V.ref a),some (.int m),some vk,some (.ref p),some (.int i),some (.ref l),some (.int pk)]=[some (.ref a),some (.int m),some (kv kn2),some (.ref p),some (.int i),some (.ref l),q6]/\
     Same H2 (upd (upd H3 q o) l (.lst (ys++[.ref q])))/\upd (upd H3 q o) l (.lst (ys++[.ref q])) sp=some (.lst (ps.map V.int))/\Bld [p] (upd (upd H3 q o) l (.lst (ys++[.ref q]))) l (ss2.map ycm)/\ss2.length=j+1:=λ{q} sw sb kn' {o vk} hq hvk ho=>by
     subst hvk
     have s4:Same H3 (upd H3 q o):=(smR H3).upd hq
     have hq':upd H3 q o q=some (.tup [.str (ydo sw),.int (b2i sb)]):=by rw[qaa,ho]
     revert s4 hq'
     generalize upd H3 q o=H4
     intro s4 hq'
     have bS4:=bS.grow s4
     obtain ⟨us,hus,_⟩:=id bS4
     have hul:=bS4.len hus
     rw[length_map]at hul
     have nql:q≠l:=ne_of hq' hus (by intro z;cases z)
     have nqp:q≠p:=ne_of hq' ((bT.grow (s3.trans s4)).choose_spec.1) (by intro z;cases z)
     refine ⟨us,hus,qbb (by omega),kn',ss++[(sw,sb)],_,rfl,(s3.trans s4).at hl,?_,?_,by simp[hsl]⟩
     ·rw[qah nlsp.symm]
      exact s4 _ _ hsp3
     ·rw[map_append]
      exact bS4.push hus (.tup (by rw[qcy (by simp[nql,nqp])];exact hq') (.cons (.str _) (.cons (.int _) .nil)))
    obtain ⟨us0,hus0,_⟩:=id bS
    have z2:(2:Nat)<=sizeLine:=by decide
    have e2:V.int (pk / 2 % 2)=kv (some (decide (pk / 2 % 2=1))):=congrArg V.int (yg3 _)
    refine ⟨_,rfl,_,rfl,?_⟩
    cases kn with
    |none=>
     refine iteN (by simp[kv]) (iteF ?_)
     refine ⟨_,rfl,_,_,rfl,rfl,⟨by decide,by decide⟩,_,_,rfl,rfl,(by show (0:Int)<2;decide),?_⟩
     refine ⟨_,rfl,.inl ⟨rfl,_,sqlO hus0⟩,_,rfl,z2,λq hq=>?_⟩
     obtain ⟨ys,h1,h2,h3⟩:=put true (decide (pk / 2 % 2=1)) _ hq e2 (by rw[<-yg3])
     exact ⟨l,ys,.ref q,rfl,rfl,h1,h2,h3⟩
    |some kb=>
     refine iteB (by simp[kv]) ⟨_,rfl,_,_,rfl,rfl,(by show (0:Int)<2;decide),rfl,_,rfl,?_⟩
     by_cases h0:pk % 2=0
     ·refine iteB (by show decide (V.int (pk % 2)=.int 0)=true;rw[h0];rfl) ?_
      refine ⟨_,rfl,.inl ⟨rfl,_,sqlO hus0⟩,_,rfl,z2,λq hq=>?_⟩
      obtain ⟨ys,h1,h2,h3⟩:=put false kb (some kb) hq rfl rfl
      exact ⟨l,ys,.ref q,rfl,rfl,h1,h2,h3⟩
     ·refine iteN (decide_eq_false (λz=>h0 (V.int.inj z))) ?_
      refine ⟨_,rfl,_,_,rfl,rfl,⟨by decide,by decide⟩,_,_,rfl,rfl,(by show (0:Int)<2;decide),?_⟩
      refine ⟨_,rfl,.inl ⟨rfl,_,sqlO hus0⟩,_,rfl,z2,λq hq=>?_⟩
      obtain ⟨ys,h1,h2,h3⟩:=put true (decide (pk / 2 % 2=1)) _ hq e2 (by rw[<-yg3])
      exact ⟨l,ys,.ref q,rfl,rfl,h1,h2,h3⟩
   ·rintro σ H3 ⟨kn3,ss,q6,rfl,s3,hsp3,bS,hsl⟩
    rw[length_map]at hsl
    have bT3:=bT.grow s3
    obtain ⟨ws,hws,_⟩:=id bT3
    have hwl:=bT3.len hws
    rw[length_map]at hwl
    obtain ⟨o,ho,hat⟩:=order_of (show 0<=d1 / 6 by omega) (show d1 / 6<3 by omega)
    refine ⟨_,rfl,.inl ⟨rfl,_,sqlO hws⟩,zl,λr hr=>?_⟩
    have hd3:upd H3 r (.lst [.str "up",.str "down",.str "any"]) a=some (.lst (ds.map V.int)):=by rw[qah (yad (s3 _ _ ha2) hr)];exact s3 _ _ ha2
    refine ⟨_,rfl,_,rfl,_,_,rfl,rfl,.inl (by omega),_,_,rfl,rfl,a,_,_,_,rfl,rfl,sqlO hd3,yae (7*i+1) (yeg g1) (by omega),_,_,rfl,rfl,⟨by decide,by decide⟩,r,_,_,_,rfl,rfl,sqlO qaa,hat,_,rfl,zl,λe he=>?_⟩
    generalize hF:upd H3 r (.lst [.str "up",.str "down",.str "any"])=HF at he hd3
    have sF:Same H3 HF:=by rw[<-hF];exact (smR H3).upd hr
    have sG:Same H3 (upd HF e (.tup [.str o,.ref l])):=sF.upd he
    have hws2:=sG _ _ hws
    have nep:e≠p:=(yad (sF _ _ hws) he).symm
    refine ⟨p,ws,.ref e,rfl,rfl,hws2,qbb (by omega),?_⟩
    refine ⟨kn3,T++[(o,ss)],_,_,_,rfl,(s2.trans (s3.trans sG)).at hp,?_,?_,by simp[hTl]⟩
    ·rw[map_append]
     refine (bT3.grow sG).push hws2 (.tup (by rw[qcy (by simp[nep])];exact qaa) (.cons (.str _) (.cons ?_ .nil)))
     exact (bS.at (by simp[nlp])).same (qbu sG _)
    ·intro e2 he2
     rcases mem_append.mp he2 with h|h
     ·exact okT' e2 h
     ·have:e2=(o,ss):=by simpa using h
      subst this
      exact ⟨⟨ho,by show 1<=ss.length;omega,by show ss.length<=6;omega⟩,by show ss.length<=3;omega⟩
  ·rintro σ H2 ⟨kn,T,q4,q5,q6,rfl,s2,bT,okT',hTl⟩
   exact ⟨_,rfl,k p T H2 s2 hp bT.out ⟨by omega,by omega,λe he=>(okT' e he).1⟩ (λe he=>(okT' e he).2) (by omega)⟩
abbrev okS(s:Str):Prop:=PyData.strOk s=true
theorem fig_len(z:Int):(((toString (z % 2):String):Str)).length=1:=by
 have h0:=emod_nonneg z (show (2:Int)≠0 by decide)
 have h1:=emod_lt_of_pos z (show (0:Int)<2 by decide)
 generalize z % 2=r at h0 h1
 rcases (by omega:r=0\/r=1) with rfl|rfl<;>decide +kernel
theorem fig_log(z:Int):(z % 2).natAbs.log2<1920:=by
 have h0:=emod_nonneg z (show (2:Int)≠0 by decide)
 have h1:=emod_lt_of_pos z (show (0:Int)<2 by decide)
 generalize z % 2=r at h0 h1
 rcases (by omega:r=0\/r=1) with rfl|rfl<;>decide +kernel
theorem yjj:∀{ss:List Str},(∀s∈ss,s.length=1)->(ss.map (·.length)).sum=ss.length
 |[],_=>rfl
 |s::r,h=>by
  have:=yjj (ss:=r) λx hx=>h x (mem_cons_of_mem _ hx)
  simp only[map_cons,List.sum_cons,length_cons,h s (mem_cons_self ..)]at this ⊢
  omega
theorem e0:("" : Str).length=0:=by decide +kernel
theorem qh9:∀{ss:List Str},(∀s∈ss,s.length=1)->(Str.join "" ss).length=ss.length
 |[],_=>by decide +kernel
 |[s],h=>h s (mem_cons_self ..)
 |s::t::r,h=>by
  have:=qh9 (ss:=t::r) λx hx=>h x (mem_cons_of_mem _ hx)
  show (s++""++Str.join "" (t::r)).length=_
  rw[Str.length_append,Str.length_append,this,h s (mem_cons_self ..),e0]
  simp only[length_cons]
  omega
def Figs(s:Str):Prop:=∀c∈s.cps.toList,c=48\/c=49
theorem Figs.at{s:Str}(h:Figs s){n:Nat}(hn:n<=s.length):Fig s n:=λb hb=>by
 have hl:b<s.cps.toList.length:=by rw[length_toList];exact lt_of_lt_of_le hb hn
 have e:s.cps.toList.getD b 0=s.cps.toList[b]:=by rw[getD_eq_getElem?_getD,getElem?_eq_getElem hl];rfl
 unfold chAt
 rw[e]
 rcases h _ (getElem_mem hl) with h|h
 ·rw[h];exact .inl (by decide +kernel)
 ·rw[h];exact .inr (by decide +kernel)
theorem Figs.app{s t:Str}(h:Figs s)(g:Figs t):Figs (s++t):=λc hc=>by
 rw[Str.cps_append,Array.toList_append,mem_append]at hc
 exact hc.elim (h c) (g c)
theorem Figs.join{ss:List Str}:(∀s∈ss,Figs s)->Figs (Str.join "" ss):=by
 induction ss with
 |nil=>intro _;unfold Figs;decide +kernel
 |cons s r ih=>
  intro h
  cases r with
  |nil=>exact h s (mem_cons_self ..)
  |cons t r=>
   have:=ih λx hx=>h x (mem_cons_of_mem _ hx)
   show Figs (s++""++Str.join "" (t::r))
   exact ((h s (mem_cons_self ..)).app (by unfold Figs;decide +kernel)).app this
theorem figs_one(z:Int):Figs ((toString (z % 2):String):Str):=by
 have h0:=emod_nonneg z (show (2:Int)≠0 by decide)
 have h1:=emod_lt_of_pos z (show (0:Int)<2 by decide)
 generalize z % 2=r at h0 h1
 unfold Figs
 rcases (by omega:r=0\/r=1) with rfl|rfl<;>decide +kernel
theorem qld{s t:Str}(h:okS s)(g:okS t):okS (s++t):=by
 unfold okS PyData.strOk at *
 rw[Str.cps_append,Array.all_append,h,g]
 rfl
theorem okS_join{ss:List Str}:(∀s∈ss,okS s)->okS (Str.join "" ss):=by
 induction ss with
 |nil=>intro _;decide +kernel
 |cons s r ih=>
  intro h
  cases r with
  |nil=>exact h s (mem_cons_self ..)
  |cons t r=>
   have:=ih λx hx=>h x (mem_cons_of_mem _ hx)
   show okS (s++""++Str.join "" (t::r))
   exact qld (qld (h s (mem_cons_self ..)) (by decide +kernel)) this
theorem okS_fig(z:Int):okS ((toString (z % 2):String):Str):=by
 have h0:=emod_nonneg z (show (2:Int)≠0 by decide)
 have h1:=emod_lt_of_pos z (show (0:Int)<2 by decide)
 generalize z % 2=r at h0 h1
 rcases (by omega:r=0\/r=1) with rfl|rfl<;>decide +kernel
def figG(f:Nat->Int)(n:Nat):List Str:=(List.range n).map λb:Nat=>((toString (f b % 2):String):Str)
theorem figG_is(f:Nat->Int)(n:Nat):(figG f n).length=n/\∀s∈figG f n,s.length=1/\okS s/\Figs s:=by
 refine ⟨by simp[figG],λs hs=>?_⟩
 obtain ⟨b,_,rfl⟩:=mem_map.mp hs
 exact ⟨fig_len _,okS_fig _,figs_one _⟩
theorem ylz(f:Nat->Int)(n:Nat):figG f (n+1)=figG f n++[((toString (f n % 2):String):Str)]:=by
 simp[figG,List.range_succ]
def qdk:Sp:=λvs H Q _=>∃(d:Addr) (ds:List Int) (n m:Nat),vs=[.ref d,.int n]/\H d=some (.lst (ds.map V.int))/\ds.length=5/\ds[0]?=some (m:Int)/\m<4/\1<=n/\n<=4/\
 ∀(p:Addr) (ss:List Str) (H':Hp),Same H H'->H p=none->H' p=some (.lst (ss.map V.str))->1<=ss.length->ss.length<=4->(∀s∈ss,s.length=n/\okS s/\Figs s)->Q (.ref p) H'
abbrev qbm:Stmt:=top 82
theorem yb2:FnScope ["_law_d","_law_width","_law_found","_law_k"] ["_law_d","_law_width"] (qac qbm):=fsc
theorem ygd(B:Bl mg)(F:FnAt K mg "_law_backgrounds" qbm ["_law_d","_law_width"]):Has P w K mg base 1 "_law_backgrounds" ["_law_d","_law_width"] qdk:=by
 refine Has.of F yb2 (λvs H Q E h=>?_) (λ_ _ _ _ _ H vs Q E hr h=>?_)
 ·obtain ⟨d,ds,n,m,rfl,_⟩:=h
  rfl
 ·obtain ⟨d,ds,n,m,rfl,hd,hl5,hm,hm4,h1,h4,k⟩:=h
  have sc:=yb2
  refine ⟨_,(qaj (pst 2 sc.nd (ycb yac))
   (qaj (yby PassesOwn.never rfl (qa8 rfl (B.of rfl) (yaa (yau ya7 yab (yan qam (pv 0) yab)) yac)) (yav (i:=3) sc.nd rfl (Or.inr rfl))
    (qaf (qbi (ydf PySem.F.plainAttrs_list PySem.F.slot_list_append PySem.F.type_list_append qas (pv 2) (yaa (ydf PySem.F.plainAttrs_str PySem.F.slot_str_join PySem.F.type_str_join mt_join yak (yaa (qbv rfl (yaw rfl) (M:=["_law_bit_here","_law_d","_law_k"]) (ix:=[none,some 0,some 3]) (qa8 rfl (B.of rfl) (yaa (pv 1) yac)) (λ_ _ _ _=>(yav (i:=0) (show List.Nodup (["_law_bit_here","_law_d","_law_k"]:List Str) by decide +kernel) rfl (Or.inl rfl))) (λ_ _ _ _=>qcr) (λ_ _ _ _=>(qcj yii rfl (B.of rfl) boot_str (yaa (yau qbz (yau qfk (yan (qd2 (K:=K) rfl) (pv 1) (yau ya7 yab (pv 2))) (yan (qd2 (K:=K) rfl) (ycb (yka yab (yka yab (yka yab (yka yab yac))))) (pv 0))) yab) yac)))) yac)) yac)))))
   (qaf (qaq (pv 2))))),?_⟩
  refine ⟨zero_le _,λp hp=>?_⟩
  have s0:Same H (upd H p (.lst [])):=(smR H).upd hp
  have p0:=@qaa H p (.lst [])
  revert s0 p0
  generalize upd H p _=H1
  intro s0 p0
  refine ⟨_,rfl,d,_,_,_,rfl,rfl,sqlO (s0 _ _ hd),yae 0 (by rw[getElem?_map,hm];rfl),_,_,rfl,rfl,_,rfl,by omega,by omega,?_⟩
  rw[show ((1:Int)+(m:Int)).toNat=m+1 by omega]
  refine qbl (n:=m+1) (λj σ H2=>∃(o:Option V) (ss:List Str),σ=[some (.ref d),some (.int n),some (.ref p),o]/\Same H H2/\H2 p=some (.lst (ss.map V.str))/\ss.length=j/\∀s∈ss,s.length=n/\okS s/\Figs s) ⟨none,[],rfl,s0,p0,rfl,by simp⟩ ?_ ?_
  ·rintro j σ H2 hj ⟨o,ss,rfl,s2,e2,l2,a2⟩
   obtain ⟨x,hx⟩:∃x,ds[1+j]?=some x:=⟨ds[1+j]'(by omega),by simp[show 1+j<ds.length by omega]⟩
   refine ⟨_,rfl,.inl ⟨rfl,_,sqlO e2⟩,?_⟩
   refine ⟨rfl,_,rfl,_,rfl,by omega,by omega,λD hD=>qbp (n:=n) (λi H'=>Same H2 H'/\H' D=some (.lst ((figG (λb=>x / (2:Int) ^ b) i).map V.str))) ⟨(smR H2).upd hD,qaa⟩ ?_ ?_⟩
   ·rintro H3 ⟨s3,e3⟩
    obtain ⟨g1,g2⟩:=figG_is (λb=>x / (2:Int) ^ b) n
    refine ⟨by show _<=_;simp,_,D,figG (λb=>x / (2:Int) ^ b) n,rfl,rfl,e3,?_,?_⟩
    ·rw[yjj (λs hs=>(g2 s hs).1),e0,g1]
     omega
    ·refine ⟨p,_,_,rfl,rfl,s3 _ _ e2,qbb (by simp;omega),?_⟩
     refine ⟨_,ss++[Str.join "" (figG (λb=>x / (2:Int) ^ b) n)],rfl,(s2.trans s3).at hp,?_,by simp[l2],?_⟩
     ·rw[qaa,map_append]
      rfl
     ·intro s hs
      rcases mem_append.mp hs with hs|hs
      ·exact a2 s hs
      ·rw[mem_singleton.mp hs]
       exact ⟨by rw[qh9 (λs hs=>(g2 s hs).1),g1],okS_join λs hs=>(g2 s hs).2.1,Figs.join λs hs=>(g2 s hs).2.2⟩
   ·rintro i H3 hi ⟨s3,e3⟩
    refine ⟨by show i<_;simpa using hi,?_⟩
    rintro x' H4 ⟨rfl,rfl⟩
    have hi4:i=0\/i=1\/i=2\/i=3:=by omega
    have hp2:atI [V.int 1,.int 2,.int 4,.int 8] ((0:Int)+(i:Int))=some (.int ((2:Int) ^ i)):=by rcases hi4 with rfl|rfl|rfl|rfl<;>rfl
    have hpw:(0:Int)<2 ^ i/\(2:Int) ^ i<1073741824:=by rcases hi4 with rfl|rfl|rfl|rfl<;>decide
    refine ⟨qaw.set (qaw.refl _) rfl,yes ?_⟩
    refine ⟨_,rfl,_,rfl,_,_,rfl,rfl,d,_,_,.int x,rfl,rfl,sqlO (s3 _ _ (s2 _ _ hd)),(by rw[show (1:Int)+(0+(j:Int))=((1+j:Nat):Int) by omega];exact ybl (by rw[getElem?_map,hx];rfl)),?_⟩
    refine ⟨zl,λy hy=>?_⟩
    refine ⟨_,rfl,y,_,_,_,rfl,rfl,sqlO qaa,hp2,_,_,rfl,rfl,hpw,_,_,rfl,rfl,(by show (0:Int)<2;decide),_,rfl,fig_log _,?_⟩
    have s4:=s3.upd (o:=.lst [V.int 1,.int 2,.int 4,.int 8]) hy
    have e4:upd H4 y (.lst [V.int 1,.int 2,.int 4,.int 8]) D=some (.lst ((figG (λb=>x / (2:Int) ^ b) i).map V.str)):=by rw[qah (yad e3 hy)];exact e3
    refine ⟨_,e4,qbb (by simp[figG];omega),s4.at hD,?_⟩
    rw[qaa,ylz,map_append]
    rfl
  ·rintro σ H2 ⟨o,ss,rfl,s2,e2,l2,a2⟩
   exact ⟨_,rfl,k p ss H2 s2 hp e2 (by omega) (by omega) a2⟩
theorem up_down(d:Int):∃o:Str,okU o/\atI [V.str "up",.str "down"] (d % 2)=some (.str o):=by
 have h:d % 2=0\/d % 2=1:=by omega
 rcases h with h|h<;>rw[h]
 ·exact ⟨_,.inl rfl,rfl⟩
 ·exact ⟨_,.inr rfl,rfl⟩
def ygw:Sp:=λvs H Q _=>∃(t d:Addr) (T:List Elm) (ds:List Int) (m:Nat),vs=[.ref t,.ref d,.int m]/\At H (.ref t) (ygc T)/\okT T/\T.length<=3/\H d=some (.lst (ds.map V.int))/\ds.length=12/\m<=4/\
 ∀(O:Addr) (oa:List Addr) (oss:List (List Str)) (H':Hp),Same H H'->H O=none->OsAt H' O oa oss->oss.length=m->(∀os∈oss,OrdOk T os)->Q (.ref O) H'
abbrev qco:Stmt:=top 86
theorem qdh:FnScope ["_law_test_here","_law_d","_law_many","_law_found","_law_k","_law_j"] ["_law_test_here","_law_d","_law_many"] (qac qco):=fsc
theorem yke(B:Bl mg)(F:FnAt K mg "_law_orders" qco ["_law_test_here","_law_d","_law_many"]):Has P w K mg base 1 "_law_orders" ["_law_test_here","_law_d","_law_many"] ygw:=by
 refine Has.ofQ F qdh (λvs H Q E h=>?_) (λf cdv A0 outer s H vs Q E hr h=>?_)
 ·obtain ⟨t,d,T,ds,m,rfl,_⟩:=h
  rfl
 ·obtain ⟨t,d,T,ds,m,rfl,ht,okt,t3,hd,d12,m4,k⟩:=h
  have sc:=qdh
  refine cutA [1] ⟨_,qag rfl (qad (ya8 PassesOwn.never rfl (qf9 (qa8 rfl (B.of rfl) (yaa (pv 2) yac))) (yav (i:=4) sc.nd rfl (Or.inr rfl))
    (qad (qax (yiv PySem.F.plainAttrs_list PySem.F.slot_list_append PySem.F.type_list_append qas (qab (pv 3)) (qa_lc (qab (qbv rfl (yaw rfl) (M:=["_law_j","_law_d","_law_k"]) (ix:=[none,some 1,some 4]) (qa8 rfl (B.of rfl) (yaa (qak yah rfl (B.of rfl) boot_len (yaa (pv 0) yac)) yac)) (λ_ _ _ _=>(yav (i:=0) (show List.Nodup (["_law_j","_law_d","_law_k"]:List Str) by decide +kernel) rfl (Or.inl rfl))) (λ_ _ _ _=>qcr) (λ_ _ _ _=>(yan (qd2 (K:=K) rfl) (ycb (yaa yak (yaa yak yac))) (yau qbz (yan (qd2 (K:=K) rfl) (pv 1) (yau ya7 (yau qch yab (pv 2)) (pv 0))) yab))))) qae)))
    (yaf (ya8 PassesOwn.never rfl (qf9 (qa8 rfl (B.of rfl) (yaa (qak yah rfl (B.of rfl) boot_len (yaa (pv 0) yac)) yac))) (pgn 5 sc.nd)
     (yaf (ya9 (qar yiq (qap qai (qap qam (qab (pv 0)) (qab (pv 5))) (qab yab)) (qab yak) (yaj _))
      (yaf (qji (qap qai (qap qam (qab (pv 0)) (qab (pv 5))) (qab yab)) (ql5 (yan qam (pv 3) (pe_un qjn yab)) (pv 5) qg6)))
      qa2)))))) (yaf (qao (qab (pv 3)))))⟩ ?_
  intro c1
  refine ⟨_,qag rfl (qad (qsE 3 sc.nd (qat qae)) c1.2),?_⟩
  obtain ⟨_,ws,hre,hlt,hwt⟩:=ht.lstEq
  cases hre
  have wl:ws.length=T.length:=by have:=hwt.length;rw[length_map]at this;exact this
  have el:∀j,j<T.length->∃e ea l,T[j]?=some e/\ws[j]?=some (.ref ea)/\H ea=some (.tup [.str e.1,.ref l])/\okO e.1:=λj hj=>by
   have he:=getElem?_eq_getElem hj
   have hjw:j<ws.length:=by omega
   have hxe:=getElem?_eq_getElem hjw
   obtain ⟨de,hde,hat⟩:=hwt.get hxe
   obtain ⟨e',he',rfl⟩:=qaz hde
   rw[he]at he'
   obtain ⟨ea,l,sw,h1,h2,_⟩:=yej hat
   rw[h1]at hxe
   cases he'
   exact ⟨_,ea,l,he,hxe,h2,(okt.2.2 _ (mem_of_getElem? he)).1⟩
  refine ⟨zero_le _,λO hO=>gn ?_⟩
  have s1:=(smR H).upd (o:=.lst []) hO
  have f1:=@qaa H O (.lst [])
  revert s1 f1
  generalize upd H O _=H1
  intro s1 f1
  refine ⟨_,rfl,m,rfl,by omega,by omega,qbl (n:=m) (λi σ H2=>∃(o4 o5:Option V) (oa:List Addr) (oss:List (List Str)),σ=[some (.ref t),some (.ref d),some (.int m),some (.ref O),o4,o5]/\Same H H2/\OsAt H2 O oa oss/\oss.length=i/\(∀a∈oa,a≠O)/\∀os∈oss,OrdOk T os)
   ⟨none,none,[],[],rfl,s1,⟨f1,rfl,λk a os h=>by simp at h⟩,rfl,by simp,by simp⟩ ?_ ?_⟩
  ·rintro i σ H2 hi ⟨o4,o5,oa,oss,rfl,s2,osa,ol,on,oo⟩
   rw[zero_add]
   have lo:oa.length=i:=by rw[osa.len,ol]
   refine gn ?_
   refine ⟨_,rfl,.inl ⟨rfl,_,sqlO osa.l⟩,?_⟩
   refine ⟨_,rfl,t,_,rfl,.inl (sqlO (s2 _ _ hlt)),T.length,(by rw[wl]),by omega,by omega,λD nD=>qbp (n:=T.length) (λj H3=>Same H2 H3/\∃os:List Str,H3 D=some (.lst (os.map V.str))/\os.length=j/\∀o∈os,okU o) ⟨(smR H2).upd nD,[],qaa,rfl,by simp⟩ ?_ ?_⟩
   rotate_left
   ·rintro j H3 hj ⟨s3,os,e3,l3,u3⟩
    refine ⟨by show j<_;simpa using hj,?_⟩
    rintro x H4 ⟨rfl,rfl⟩
    have hdj:(ds.map V.int)[3*i+j]?=some (.int (ds[3*i+j]'(by omega))):=by rw[getElem?_map,getElem?_eq_getElem (by omega)];rfl
    generalize ds[3*i+j]'(by omega)=dj at hdj
    obtain ⟨o,hou,ho⟩:=up_down dj
    refine ⟨qaw.set (qaw.refl _) rfl,yes ?_⟩
    refine ⟨zl,λr nr=>?_⟩
    have s4:=(smR H4).upd (o:=.lst [.str "up",.str "down"]) nr
    have e4:=s4 _ _ e3
    refine ⟨_,rfl,_,rfl,_,_,rfl,rfl,.inl (by omega),_,rfl,_,_,rfl,rfl,d,_,_,_,rfl,rfl,sqlO (s4 _ _ (s3 _ _ (s2 _ _ hd))),(by rw[show (3:Int)*(i:Int)+(0+(j:Int))=((3*i+j:Nat):Int) by omega];exact ybl hdj),_,_,rfl,rfl,(by show (0:Int)<2;decide),r,_,_,_,rfl,rfl,sqlO qaa,ho,?_⟩
    refine ⟨_,e4,qbb (by rw[length_map];omega),(s3.trans s4).at nD,os++[o],by rw[qaa,map_append];rfl,by rw[length_append,l3];rfl,λx hx=>?_⟩
    rcases mem_append.mp hx with h|h
    ·exact u3 x h
    ·rw[mem_singleton.mp h];exact hou
   rintro H3 ⟨s3,os,e3,l3,u3⟩
   refine ⟨by show _<=_;simp,?_⟩
   have nDO:D≠O:=(yad osa.l nD).symm
   have nDa:∀a∈oa,a≠D:=λa ha z=>by
    obtain ⟨x,hx⟩:=getElem?_of_mem ha
    have hxo:x<oss.length:=by rw[<-osa.len];exact (List.getElem?_eq_some_iff.mp hx).1
    have:=osa.at_ x a _ hx (getElem?_eq_getElem hxo)
    rw[z,nD]at this
    cases this
   refine ⟨O,_,_,rfl,rfl,s3 _ _ osa.l,qbb (by rw[length_map];omega),gn ?_⟩
   have hO4:upd H3 O (.lst (oa.map V.ref++[.ref D])) O=some (.lst ((oa++[D]).map V.ref)):=by rw[qaa,map_append];rfl
   have k4:∀b u,b≠O->H3 b=some u->upd H3 O (.lst (oa.map V.ref++[.ref D])) b=some u:=λb u hb e=>by rw[qah hb];exact e
   revert hO4 k4
   generalize upd H3 O _=H4
   intro hO4 k4
   have s4:Same H H4:=λb u e=>k4 _ _ (yad e hO) (s3 _ _ (s2 _ _ e))
   have nDH:H D=none:=s2.free nD
   have osa4:∀(x:Nat) (a:Addr) (os':List Str),oa[x]?=some a->oss[x]?=some os'->H4 a=some (.lst (os'.map V.str)):=λx a os' h1 h2=>k4 _ _ (on a (mem_of_getElem? h1)) (s3 _ _ (osa.at_ x a os' h1 h2))
   refine ⟨_,rfl,t,_,rfl,.inl (sqlO (s4 _ _ hlt)),T.length,(by rw[wl]),by omega,by omega,qbl (n:=T.length) (λj σ H5=>∃(o5:Option V) (os:List Str),σ=[some (.ref t),some (.ref d),some (.int m),some (.ref O),some (.int i),o5]/\(∀b u,b≠D->H4 b=some u->H5 b=some u)/\H5 D=some (.lst (os.map V.str))/\os.length=T.length/\(∀o∈os,okU o)/\∀(x:Nat) e o,x<j->T[x]?=some e->os[x]?=some o->(e.1="any"\/e.1=o))
    ⟨_,os,rfl,λb u _ e=>e,k4 _ _ nDO e3,l3,u3,λx e o h=>absurd h (not_lt_zero x)⟩ ?_ ?_⟩
   ·rintro j σ H5 hj ⟨o5,os,rfl,s5,e5,l5,u5,g5⟩
    rw[zero_add]
    obtain ⟨e,ea,l,he,hwe,hea,oke⟩:=el j hj
    have s05:Same H H5:=λb u e=>s5 _ _ (yad e nDH) (s4 _ _ e)
    have ea5:=s05 _ _ hea
    refine gn ?_
    refine ⟨_,rfl,_,rfl,t,_,_,_,rfl,rfl,sqlO (s05 _ _ hlt),ybl hwe,ea,_,_,_,rfl,rfl,sqtO ea5,yae 0 rfl,rfl,_,rfl,?_⟩
    rw[dS]
    by_cases hany:e.1="any"
    ·refine iteN (by rw[decide_eq_true hany];rfl) ⟨_,os,rfl,s5,e5,l5,u5,λx e' o' hx h1 h2=>?_⟩
     by_cases hxj:x=j
     ·rw[hxj,he]at h1
      cases h1
      exact .inl hany
     ·exact g5 x e' o' (by omega) h1 h2
    ·refine iteB (by rw[decide_eq_false hany];rfl) ?_
     have hOj:atI ((oa++[D]).map V.ref) (-1)=some (.ref D):=by
      rw[map_append];exact qjr _ _
     refine ⟨_,rfl,_,rfl,t,_,_,_,rfl,rfl,sqlO (s05 _ _ hlt),ybl hwe,ea,_,_,_,rfl,rfl,sqtO ea5,yae 0 rfl,?_⟩
     refine ⟨_,rfl,_,rfl,O,_,_,_,rfl,rfl,sqlO (s5 _ _ nDO.symm hO4),hOj,_,rfl,D,_,j,_,rfl,rfl,e5,qll (by omega) (by rw[length_map];omega),?_⟩
     refine ⟨_,os.set j e.1,rfl,λb u hb e=>by rw[qah hb];exact s5 b u hb e,by rw[qaa,List.map_set];rfl,by rw[List.length_set];exact l5,λo ho=>?_,λx e' o' hx h1 h2=>?_⟩
     ·rcases List.mem_or_eq_of_mem_set ho with h|h
      ·exact u5 o h
      ·rw[h];rcases oke with h|h|h
       ·exact .inl h
       ·exact .inr h
       ·exact absurd h hany
     ·by_cases hxj:x=j
      ·rw[hxj,he]at h1
       cases h1
       rw[hxj,List.getElem?_set_self (by omega)]at h2
       exact .inr (Option.some.inj h2)
      ·rw[List.getElem?_set_ne (Ne.symm hxj)]at h2
       exact g5 x e' o' (by omega) h1 h2
   ·rintro σ H5 ⟨o5,os,rfl,s5,e5,l5,u5,g5⟩
    refine ⟨_,_,oa++[D],oss++[os],rfl,λb u e=>s5 _ _ (yad e nDH) (s4 _ _ e),⟨s5 _ _ nDO.symm hO4,by rw[length_append,length_append,osa.len];rfl,λx a os' h1 h2=>?_⟩,by rw[length_append,ol];rfl,λa ha=>?_,λos' h=>?_⟩
    ·by_cases hx:x<oa.length
     ·rw[getElem?_append_left hx]at h1
      rw[getElem?_append_left (by rw[<-osa.len];exact hx)]at h2
      exact s5 _ _ (nDa a (mem_of_getElem? h1)) (osa4 x a os' h1 h2)
     ·rw[getElem?_append_right (by omega)]at h1
      rw[getElem?_append_right (by rw[<-osa.len];omega),<-osa.len]at h2
      have:x-oa.length=0:=by
       cases h:x-oa.length with
       |zero=>rfl
       |succ n=>rw[h]at h1;simp at h1
      rw[this]at h1 h2
      cases h1
      cases h2
      exact e5
    ·rcases mem_append.mp ha with h|h
     ·exact on a h
     ·rw[mem_singleton.mp h];exact nDO
    ·rcases mem_append.mp h with h|h
     ·exact oo os' h
     ·rw[mem_singleton.mp h]
      exact ⟨l5,λx e o h1 h2=>⟨u5 o (mem_of_getElem? h2),g5 x e o (List.getElem?_eq_some_iff.mp h1).1 h1 h2⟩⟩
  ·rintro σ H2 ⟨o4,o5,oa,oss,rfl,s2,osa,ol,on,oo⟩
   exact ⟨_,rfl,k O oa oss H2 s2 hO osa ol oo⟩
theorem HsV.data{H:Hp}:∀{us:List V}{hs:List Hm},HsV H us hs->Oks hs->AtAll H us (hs.map hD)
 |[],[],_,_=>.nil
 |[],_::_,x,_=>by have:=x.len;simp at this
 |_::_,[],x,_=>by have:=x.len;simp at this
 |u::us,h::hs,x,ok=>by
  obtain ⟨a,rfl,ha⟩:=x.at_ 0 u h rfl rfl
  obtain ⟨ns,o⟩:=ok h (mem_cons_self ..)
  refine .cons (.tup ha (qe8 o.fl.1)) (HsV.data ⟨by have:=x.len;simpa using this,λi v g h1 h2=>x.at_ (i+1) v g (by simpa using h1) (by simpa using h2)⟩ λg hg=>ok g (mem_cons_of_mem _ hg))
theorem yde(s:Stp):(ycm s).showable=true/\(ycm s).depth<=1/\(ycm s).leavesShort 13=true/\(ycm s).bulk<=3/\(ycm s).canLay0=true:=by
 obtain ⟨w,b⟩:=s
 cases w<;>cases b<;>exact ⟨by decide +kernel,by decide +kernel,by decide +kernel,by decide +kernel,by decide +kernel⟩
theorem qi0{o:Str}(h:okO o):(PyData.str o).leavesShort 13=true/\(PyData.str o).bulk<=4:=by
 rcases h with rfl|rfl|rfl<;>exact ⟨by decide +kernel,by decide +kernel⟩
theorem yjy{e:Elm}(h:okE e):(qea e).showable=true/\(qea e).depth<=3/\(qea e).leavesShort 13=true/\(qea e).bulk<=40:=by
 obtain ⟨o,ss⟩:=e
 obtain ⟨h1,h2,h3⟩:=h
 obtain ⟨o1,o2⟩:=qi0 h1
 have hm:∀x∈ss.map ycm,∃s,x=ycm s:=λx hx=>by obtain ⟨s,_,rfl⟩:=mem_map.mp hx;exact ⟨s,rfl⟩
 refine ⟨?_,?_,?_,?_⟩
 ·simp only[qea,PyData.showable,PyData.showableAll,Bool.true_and,Bool.and_true]
  exact Spec.showableAll_of λx hx=>by obtain ⟨s,rfl⟩:=hm x hx;exact (yde s).1
 ·have:=qbt (n:=1) (xs:=ss.map ycm) λx hx=>by obtain ⟨s,rfl⟩:=hm x hx;exact (yde s).2.1
  simp only[qea,PyData.depth,PyData.depthAll]
  omega
 ·have:=qcn (B:=13) (xs:=ss.map ycm) λx hx=>by obtain ⟨s,rfl⟩:=hm x hx;exact (yde s).2.2.1
  show PyData.leavesShort 13 (.tuple [.str o,.list (ss.map ycm)])=true
  unfold PyData.leavesShort PyData.leavesShortAll
  rw[o1]
  unfold PyData.leavesShortAll PyData.leavesShort
  rw[this]
  rfl
 ·have:=qdd (n:=3) (xs:=ss.map ycm) λx hx=>by obtain ⟨s,rfl⟩:=hm x hx;exact (yde s).2.2.2.1
  rw[length_map]at this
  have h3':ss.length<=6:=h3
  have o2':PyData.bulk (.str o)<=4:=o2
  simp only[qea,PyData.bulk,PyData.bulkAll]at o2' ⊢
  omega
structure Sh(d:PyData)(k n:Nat):Prop where
 sh:d.showable=true
 dp:d.depth<=k
 ls:d.leavesShort 13=true
 bk:d.bulk<=n
theorem Sh.mono{d:PyData}{k n k' n':Nat}(h:Sh d k n)(hk:k<=k')(hn:n<=n'):Sh d k' n':=⟨h.sh,le_trans h.dp hk,h.ls,le_trans h.bk hn⟩
theorem Sh.list{ds:List PyData}{k n:Nat}(h:∀d∈ds,Sh d k n):Sh (.list ds) (k+1) ((n+1)*ds.length):=by
 refine ⟨?_,?_,?_,?_⟩
 ·simp only[PyData.showable]
  exact Spec.showableAll_of λx hx=>(h x hx).sh
 ·have:=qbt (n:=k) (xs:=ds) λx hx=>(h x hx).dp
  simp only[PyData.depth]
  omega
 ·unfold PyData.leavesShort
  exact qcn λx hx=>(h x hx).ls
 ·have:=qdd (n:=n) (xs:=ds) λx hx=>(h x hx).bk
  simp only[PyData.bulk]
  exact this
theorem Sh.tuple{ds:List PyData}{k n:Nat}(h:∀d∈ds,Sh d k n):Sh (.tuple ds) (k+1) ((n+1)*ds.length):=by
 refine ⟨?_,?_,?_,?_⟩
 ·simp only[PyData.showable]
  exact Spec.showableAll_of λx hx=>(h x hx).sh
 ·have:=qbt (n:=k) (xs:=ds) λx hx=>(h x hx).dp
  simp only[PyData.depth]
  omega
 ·unfold PyData.leavesShort
  exact qcn λx hx=>(h x hx).ls
 ·have:=qdd (n:=n) (xs:=ds) λx hx=>(h x hx).bk
  simp only[PyData.bulk]
  exact this
theorem Sh.fits{d:PyData}{k n:Nat}(h:Sh d k n)(hk:k<=60:=by decide)(hn:n<=2 ^ 20:=by decide):d.showable=true/\d.depth<=60/\d.shown.length<=sizeLine:=
 ⟨h.sh,le_trans h.dp hk,PyData.shown_fits_bulk (B:=13) (by decide) (by decide) h.ls (le_trans h.bk hn)⟩
theorem sh_int{i:Int}(h0:0<=i)(h1:i<64):Sh (.int i) 1 0:=by
 have go:∀n:Fin 64,(PyData.int (n.val:Nat)).leavesShort 13=true/\(PyData.int (n.val:Nat)).showable=true:=by decide +kernel
 obtain ⟨n,rfl⟩:=Int.eq_ofNat_of_zero_le h0
 obtain ⟨g1,g2⟩:=go ⟨n,by omega⟩
 exact ⟨g2,by simp[PyData.depth],g1,le_refl _⟩
theorem sh_bit{i:Int}(h:∃b,i=b2i b):Sh (.int i) 1 0:=by
 obtain ⟨b,rfl⟩:=h
 cases b<;>exact sh_int (by decide) (by decide)
theorem yjh{x:Str}(h:x.cps.toList.all (λc=>decide (c<16 ^ 8))=true)(hl:x.cps.size<=20):Sh (.str x) 1 20:=⟨rfl,by simp[PyData.depth],h,hl⟩
theorem qgy{k:Str}{x:List V}:∀{D:List (Str×List V)},KTD.datumAt k D=some x->k∈D.map Prod.fst
 |[],h=>by simp[KTD.datumAt]at h
 | (y,d)::D,h=>by
  unfold KTD.datumAt at h
  split at h
  ·rename_i hk
   rw[of_decide_eq_true hk]
   exact mem_cons_self ..
  ·exact mem_cons_of_mem _ (qgy h)
theorem sh_word{h:Hm}{ns:List Str}(o:okH h ns):Sh (.str h.w) 1 20:=by
 have hm:=qgy o.tab
 have go:∀s∈tabP.map Prod.fst,s.cps.toList.all (λc=>decide (c<16 ^ 8))=true/\s.cps.size<=20:=by decide +kernel
 obtain ⟨g1,g2⟩:=go _ hm
 exact yjh g1 g2
theorem sh_rest{ns:List Str}{vs:List V}(h:Rest ns vs):∀v∈vs,Sh (dOf v) 1 20:=by
 induction h with
 |nil=>intro v hv;cases hv
 |bit hb _ ih=>
  intro v hv
  rcases mem_cons.mp hv with rfl|hv
  ·obtain ⟨b,rfl⟩:=hb
   exact (sh_bit ⟨b,rfl⟩).mono (le_refl _) (by decide)
  ·exact ih v hv
 |how hb _ ih=>
  intro v hv
  rcases mem_cons.mp hv with rfl|hv
  ·rcases hb with rfl|rfl<;>exact yjh (by decide +kernel) (by decide +kernel)
  ·exact ih v hv
theorem sh_harm{h:Hm}{ns:List Str}(o:okH h ns):Sh (hD h) 2 105:=by
 have hl:((hV h).map dOf).length<=5:=by
  rw[length_map]
  unfold hV
  rw[length_cons,length_append,length_map,o.rest.len]
  have:=o.cl.2
  have:=o.rl
  omega
 refine (Sh.tuple (k:=1) (n:=20) (ds:=(hV h).map dOf) λd hd=>?_).mono (le_refl _) (le_trans (mul_le_mul_left _ hl) (by decide))
 obtain ⟨v,hv,rfl⟩:=mem_map.mp hd
 unfold hV at hv
 rcases mem_cons.mp hv with rfl|hv
 ·exact sh_word o
 ·rcases mem_append.mp hv with hv|hv
  ·obtain ⟨c,hc,rfl⟩:=mem_map.mp hv
   obtain ⟨c0,c1⟩:=o.rg c hc
   exact (sh_int c0 c1).mono (le_refl _) (by decide)
  ·exact sh_rest o.rest v hv
theorem sh_harms{hs:List Hm}(ok:Oks hs)(hl:hs.length<=3):Sh (.list (hs.map hD)) 3 400:=
 (Sh.list (k:=2) (n:=105) (ds:=hs.map hD) λd hd=>by
  obtain ⟨h,hh,rfl⟩:=mem_map.mp hd
  obtain ⟨ns,o⟩:=ok h hh
  exact sh_harm o).mono (le_refl _) (by rw[length_map];exact le_trans (mul_le_mul_left _ hl) (by decide))
theorem sh_bits{cs:List Int}(h:bits cs){n:Nat}(hl:cs.length<=n):Sh (qit cs) 2 n:=
 (Sh.list (k:=1) (n:=0) (ds:=cs.map PyData.int) λd hd=>by
  obtain ⟨c,hc,rfl⟩:=mem_map.mp hd
  exact sh_bit (h c hc)).mono (le_refl _) (by rw[length_map];omega)
def yge(os:List Str):PyData:=.list (os.map PyData.str)
theorem yk5{H:Hp}{p:Addr}{os:List Str}(h:H p=some (.lst (os.map V.str))):At H (.ref p) (yge os):=by
 refine .lst h ?_
 clear h
 induction os with
 |nil=>exact .nil
 |cons o r ih=>exact .cons (.str o) ih
theorem qk6{T:List Elm}{os:List Str}(okt:okT T)(h:OrdOk T os):Sh (yge os) 2 200:=by
 have h8:=okt.2.1
 refine (Sh.list (k:=1) (n:=20) (ds:=os.map PyData.str) λd hd=>?_).mono (le_refl _) (by rw[length_map,h.len];omega)
 obtain ⟨o,ho,rfl⟩:=mem_map.mp hd
 obtain ⟨i,hi,rfl⟩:=List.getElem_of_mem ho
 have hT:i<T.length:=by rw[<-h.len];exact hi
 have:=(h.at_ i T[i] os[i] (getElem?_eq_getElem hT) (getElem?_eq_getElem hi)).1
 rcases this with e|e<;>rw[e]<;>exact yjh (by decide +kernel) (by decide +kernel)
theorem sh_test{T:List Elm}(okt:okT T):Sh (ygc T) 4 400:=by
 have h8:=okt.2.1
 refine (Sh.list (k:=3) (n:=40) (ds:=T.map qea) λd hd=>?_).mono (le_refl _) (by rw[length_map];omega)
 obtain ⟨e,he,rfl⟩:=mem_map.mp hd
 obtain ⟨g1,g2,g3,g4⟩:=yjy (okt.2.2 e he)
 exact ⟨g1,g2,g3,g4⟩
theorem sh_figs{s:Str}(f:Figs s)(hl:s.length<=20):Sh (.str s) 1 20:=yjh (all_eq_true.mpr λc hc=>decide_eq_true (by rcases f c hc with h|h<;>rw[h]<;>decide)) hl
theorem sh_bgs{bgs:List Str}(h:∀s∈bgs,Figs s/\s.length<=8)(hl:bgs.length<=4):Sh (yge bgs) 2 200:=
 (Sh.list (k:=1) (n:=20) (ds:=bgs.map PyData.str) λd hd=>by
  obtain ⟨s,hs,rfl⟩:=mem_map.mp hd
  exact sh_figs (h s hs).1 (le_trans (h s hs).2 (by decide))).mono (le_refl _) (by rw[length_map];omega)
theorem sh_oss{T:List Elm}{oss:List (List Str)}(okt:okT T)(h:∀os∈oss,OrdOk T os)(hl:oss.length<=4):Sh (.list (oss.map yge)) 3 1000:=
 (Sh.list (k:=2) (n:=200) (ds:=oss.map yge) λd hd=>by
  obtain ⟨os,ho,rfl⟩:=mem_map.mp hd
  exact qk6 okt (h os ho)).mono (le_refl _) (by rw[length_map];omega)
def allW(T:List Elm)(bgs:List Str)(hs:List Hm)(cs:List Int)(oss:List (List Str)):PyData:=.list [ygc T,yge bgs,.list (hs.map hD),qit cs,.list (oss.map yge)]
theorem sh_allW{T:List Elm}{bgs:List Str}{hs:List Hm}{cs:List Int}{oss:List (List Str)}(okt:okT T)(hb:∀s∈bgs,Figs s/\s.length<=8)(hl:bgs.length<=4)(ok:Oks hs)(h3:hs.length<=3)(hc:bits cs)(h64:cs.length<=64)(ho:∀os∈oss,OrdOk T os)(hol:oss.length<=4):Sh (allW T bgs hs cs oss) 5 5005:=
 (Sh.list (k:=4) (n:=1000) (ds:=[ygc T,yge bgs,.list (hs.map hD),qit cs,.list (oss.map yge)]) λd hd=>by
  simp only[mem_cons,not_mem_nil,or_false]at hd
  rcases hd with rfl|rfl|rfl|rfl|rfl
  ·exact (sh_test okt).mono (by decide) (by decide)
  ·exact (sh_bgs hb hl).mono (by decide) (by decide)
  ·exact (sh_harms ok h3).mono (by decide) (by decide)
  ·exact (sh_bits hc h64).mono (by decide) (by decide)
  ·exact (sh_oss okt ho hol).mono (by decide) (by decide)).mono (le_refl _) (by show (1000+1)*5<=5005;decide)
theorem oss_at{H:Hp}:∀{oa:List Addr}{oss:List (List Str)},oa.length=oss.length->(∀(k:Nat) (a:Addr) (os:List Str),oa[k]?=some a->oss[k]?=some os->H a=some (.lst (os.map V.str)))->AtAll H (oa.map V.ref) (oss.map yge)
 |[],[],_,_=>.nil
 |[],_::_,h,_=>by simp at h
 |_::_,[],h,_=>by simp at h
 |a::oa,os::oss,h,g=>.cons (yk5 (g 0 a os rfl rfl)) (oss_at (by simpa using h) λk a' os' h1 h2=>g (k+1) a' os' h1 h2)
theorem yji{ds a b:List Int}(h:Dig ds (a++b)):Dig (ds.drop a.length) b:=by
 refine ⟨by rw[length_drop,h.1,length_append];omega,λi d z h1 h2=>h.2 (a.length+i) d z ?_ ?_⟩
 ·rw[List.getElem?_drop]at h1;exact h1
 ·rw[getElem?_append_right (by omega),Nat.add_sub_cancel_left];exact h2
theorem dig_take{ds a b:List Int}(h:Dig ds (a++b)):Dig (ds.take a.length) a:=by
 refine ⟨by rw[length_take,h.1,length_append];omega,λi d z h1 h2=>h.2 i d z ?_ ?_⟩
 ·rw[List.getElem?_take]at h1
  split at h1
  ·exact h1
  ·cases h1
 ·rw[getElem?_append_left (List.getElem?_eq_some_iff.mp h2).1];exact h2
theorem ql0{H:Hp}:∀{us:List V}{zs:List Int},AtAll H us (zs.map PyData.int)->us=zs.map V.int
 |[],[],.nil=>rfl
 |u::us,z::zs,.cons a r=>by rw[ql0 r,a.intEq];rfl
theorem yim{H:Hp}{v:V}{zs:List Int}(h:At H v (.list (zs.map PyData.int))):∃a,v=.ref a/\H a=some (.lst (zs.map V.int)):=by
 obtain ⟨a,us,rfl,ha,hu⟩:=h.lstEq
 exact ⟨a,rfl,by rw[ha,ql0 hu]⟩
theorem Dig.pos{ds zs:List Int}(h:Dig ds zs):∀d∈ds,0<=d:=λd hd=>by
 obtain ⟨i,hi⟩:=getElem?_of_mem hd
 have hl:i<zs.length:=by rw[<-h.1];exact (List.getElem?_eq_some_iff.mp hi).1
 exact (h.2 i d _ hi (getElem?_eq_getElem hl)).1
def dgT:List Int:=[3]++(List.replicate 3 ([18]++List.replicate 6 4)).flatten++List.replicate 12 2
def dgE:List Int:=[4,6,4,16,16,16,16]++(dg16++List.replicate 24 2)
theorem D7.of{ds:List Int}(h:Dig ds dgT):D7 ds 3:=by
 refine ⟨by decide,by decide,by rw[h.1];decide,h.pos,λk hk=>?_⟩
 have:k=0\/k=1\/k=2:=by omega
 rcases this with rfl|rfl|rfl
 ·obtain ⟨d,g,_,l⟩:=h.get (i:=1) (z:=18) rfl
  exact ⟨d,g,l⟩
 ·obtain ⟨d,g,_,l⟩:=h.get (i:=8) (z:=18) rfl
  exact ⟨d,g,l⟩
 ·obtain ⟨d,g,_,l⟩:=h.get (i:=15) (z:=18) rfl
  exact ⟨d,g,l⟩
def yin:Sp:=λvs H Q _=>∃(A:Addr) (a b t:Int),vs=[.ref A,.int t]/\H A=some (.lst [.int a,.int b])/\0<=t/\t<=1000/\∀H',Same H H'->Q (.bl true) H'
abbrev ycz:Stmt:=top 87
theorem yd6:FnScope ["_law_cells_here","_law_turn","_law_d","_law_test_here","_law_e","_law_width","_law_words","_law_backgrounds_here","_law_harms_here","_law_contents_here","_law_orders_here","_law_kept","_law_some","_law_due_here","_law_found"] ["_law_cells_here","_law_turn"] (qac ycz):=fsc
theorem yk9(B:Bl mg)(qd4:Has P w K mg base 1 "_law_digits" ["_law_cell","_law_turn","_law_sizes"] qib)(qis:Has P w K mg base 1 "_law_test" ["_law_d","_law_most"] yjs)(yeb:Has P w K mg base 1 "_law_backgrounds" ["_law_d","_law_width"] qdk)(qh4:Has P w K mg base 2 "_law_harms" ["_law_d","_law_size"] qie)(qhm:Has P w K mg base 1 "_law_orders" ["_law_test_here","_law_d","_law_many"] ygw)
  (yj1:Has P w K mg base 5 "_law_due" ["_law_test_here","_law_width","_law_backgrounds_here","_law_words","_law_harms_here","_law_contents_here","_law_orders_here"] (ql7 K)) (yha:Has P w K mg base 11 "words_reads" ["test","width","backgrounds","words","harms","contents","orders"] qhr) (F:FnAt K mg "_law_right" ycz ["_law_cells_here","_law_turn"]):Has P w K mg base 12 "_law_right" ["_law_cells_here","_law_turn"] yin:=by
 refine Has.ofQ F yd6 (λvs H Q E h=>?_) (λ_ _ _ _ _ H vs Q E hr h=>?_)
 ·obtain ⟨A,a,b,t,rfl,_⟩:=h
  rfl
 ·obtain ⟨A,a,b,t,rfl,hA,t0,t1,k⟩:=h
  have sc:=yd6
  refine cutA [10,2] ⟨_,qag rfl (qad (ya9 (QW.pt (yls (qgo (qc9 (qa1 qbd rfl (B.of rfl) boot_isinstance (yag (qab (pv 14)) (yag (qab (qbr (v:=.ty "list") rfl (B.of rfl) boot_list rfl)) qae))))) (yls (qar (op_neD hr) (qab (pv 14)) (qab (pv 13)) (yaj _)) (qli (qar (yjn hr) (qab (qbv rfl (yaw rfl) (M:=["_law_bit_here"]) (ix:=[none]) (qa7 (pv 14)) (λ_ _ _ _=>(yav (i:=0) (show List.Nodup (["_law_bit_here"]:List Str) by decide +kernel) rfl (Or.inl rfl))) (λ_ _ _ _=>(yem (qca (qak (qlt (K:=K) rfl) rfl (B.of rfl) boot_isinstance (yaa (pv 0) (yaa (qbr (v:=.ty "bool") rfl (B.of rfl) boot_bool rfl) yac)))))) (λ_ _ _ _=>(pv 0)))) (qat qae) (yaj _))))))
    (yaf (qao (qab yjc)))
    qa2) (yaf (qax (yiv PySem.F.plainAttrs_list PySem.F.slot_list_append PySem.F.type_list_append qas (qab (pv 14)) (ya3 (qab yab) qae)))))⟩ ?_
  intro c1
  refine cutA [10,1] ⟨_,qag rfl (qad (qsE 14 sc.nd (yal yha hr (yag (qab (pv 3)) (yag (qab (pv 5)) (yh2 (yb5 qcw rfl (B.of rfl) boot_list (yag (qab (pv 12)) qae)) (yag (qab (pv 6)) (yag (qab (pv 8)) (yag (qab (pv 9)) (yag (qab (pv 10)) qae))))))))) c1.2)⟩ ?_
  intro c2
  refine cutA [10,0] ⟨_,qag rfl (qad (qsE 13 sc.nd (yal yj1 hr (yag (qab (pv 3)) (yag (qab (pv 5)) (yag (qab (pv 12)) (yag (qab (pv 6)) (yag (qab (pv 8)) (yag (qab (pv 9)) (yag (qab (pv 10)) qae))))))))) c2.2)⟩ ?_
  intro c3
  refine cutA [11] ⟨_,qag rfl (yaf (qao (qi3 ya1 (qa1 (qh2 hr) rfl (B.of rfl) boot_repr (qa_ls (qat (yag (qab (pv 3)) (yag (qab (pv 7)) (yag (qab (pv 8)) (yag (qab (pv 9)) (yag (qab (pv 10)) qae)))))) qae)) (qab (pv 11)) (yaj _))))⟩ ?_
  intro c4
  refine cutA [10] ⟨_,qag rfl (qad (ya8 PassesOwn.never rfl (qbn (qat (yag (qab (pv 7)) (ybd (qab (yie (pv 7) (pe_un qjn yab))) (yag (qab (pv 7)) qae))))) (pgn 12 sc.nd)
    c3.2) c4.2)⟩ ?_
  intro c5
  refine cutA [9] ⟨_,qag rfl (qad (qsE 11 sc.nd (qa1 (qh2 hr) rfl (B.of rfl) boot_repr (qa_ls (qat (yag (qab (pv 3)) (yag (qab (pv 7)) (yag (qab (pv 8)) (yag (qab (pv 9)) (yag (qab (pv 10)) qae)))))) qae))) c5.2)⟩ ?_
  intro c6
  refine cutA [8] ⟨_,qag rfl (qad (qsE 10 sc.nd (yal qhm hr (yag (qab (pv 3)) (ybd (yek qce (qab (pv 2)) (qau yab) ybw) (yh2 (qa1 yah rfl (B.of rfl) boot_len (yag (qab (pv 7)) qae)) qae))))) c6.2)⟩ ?_
  intro c7
  refine cutA [7] ⟨_,qag rfl (qad (qsE 9 sc.nd (yek qce (qab (pv 4)) (qau yab) (qau (yau ya7 yab (yau qch (pv 6) (pv 5)))))) c7.2)⟩ ?_
  intro c8
  refine cutA [6] ⟨_,qag rfl (qad (qsE 8 sc.nd (yal qh4 hr (ybd (yek qce (qab (pv 4)) (qau yab) (qau yab)) (yhi (qa5 qch (qab (pv 6)) (qab (pv 5))) qae)))) c8.2)⟩ ?_
  intro c9
  refine cutA [5] ⟨_,qag rfl (qad (qsE 7 sc.nd (yal yeb hr (ybd (yek qce (qab (pv 4)) (qau yab) (qau yab)) (yag (qab (pv 5)) qae)))) c9.2)⟩ ?_
  intro c10
  refine cutA [2] ⟨_,qag rfl (qad (qsE 4 sc.nd (yal qd4 hr (ybd (qap qam (qab (pv 0)) (qab yab)) (yhi (qa5 ya7 (qab (pv 1)) (qab yab)) (yhi (qa5 qdb (qa5 qdb (qat (ya3 (qab yab) (ya3 (qab yab) (ya3 (qab yab) (ya3 (qab yab) (ya3 (qab yab) (ya3 (qab yab) (ya3 (qab yab) (ya3 (qab yab) qae))))))))) (qa5 yia (qat (ya3 (qab yab) (ya3 (qab yab) (ya3 (qab yab) (ya3 (qab yab) (ya3 (qab yab) qae)))))) (qab yab))) (qa5 yia (qat (ya3 (qab yab) qae)) (qab yab))) qae))))) (qad (qsE 5 sc.nd (qa5 ya7 (qab yab) (qap qam (qab (pv 4)) (qab yab)))) (qad (qsE 6 sc.nd (qa5 ya7 (qab yab) (qap qam (qab (pv 4)) (qab yab)))) c10.2)))⟩ ?_
  intro c11
  refine ⟨_,qag rfl (qad (qsE 2 sc.nd (yal qd4 hr (ybd (qap qam (qab (pv 0)) (qab yab)) (yag (qab (pv 1)) (yhi (qa5 qdb (qa5 qdb (qat (ya3 (qab yab) qae)) (qa5 yia (qa5 qdb (qat (ya3 (qab yab) qae)) (qa5 yia (qat (ya3 (qab yab) qae)) (qab yab))) (qab yab))) (qa5 yia (qat (ya3 (qab yab) qae)) (qab yab))) qae))))) (qad (qsE 3 sc.nd (yal qis hr (yag (qab (pv 2)) (ya3 (qab yab) qae)))) c11.2)),?_⟩
  have nL:∀{H:Hp},∀b∈([]:List Addr),H b≠none:=λb hb=>by cases hb
  refine ⟨_,rfl,A,_,_,_,rfl,rfl,sqlO hA,yae 0 rfl,_,rfl,qkw (L:=[]) (d:=.list (dgT.map PyData.int)) ?_ nL λvz K6 s6 a6=>?_⟩
  ·have:(dgT.map PyData.int)=(([3]:List Int).map PyData.int++(List.replicate 3 (([18]:List Int).map PyData.int++(List.replicate 6 (([4]:List Int).map PyData.int)).flatten)).flatten)++(List.replicate 12 (([2]:List Int).map PyData.int)).flatten:=rfl
   rw[this]
   refine qf4 (qf4 (ycp ?_) (qfr (n:=3) (qf4 (ycp ?_) (qfr (n:=6) (ycp ?_) (by decide) (by decide)) (by decide)) (by decide) (by decide)) (by decide)) (qfr (n:=12) (ycp ?_) (by decide) (by decide)) (by decide)
   all_goals repeat' (first|exact qg5|exact qfo|refine qcc ?_ ?_)
  obtain ⟨p6,rfl,u6⟩:=yim (a6.same (qbe _ _))
  refine ⟨a,t,p6,dgT,rfl,u6,by decide,by decide,by omega,by omega,λdp ds H1 s1 ndp hdp hD=>gn ?_⟩
  have s01:=s6.trans s1
  clear a6 u6
  refine ⟨_,rfl,dp,ds,3,rfl,hdp,D7.of hD,λtp T H2 s2 ntp ht okt _ t3=>gn ?_⟩
  have s02:=s01.trans s2
  refine ⟨_,rfl,A,_,_,_,rfl,rfl,sqlO (s02 _ _ hA),yae 1 rfl,_,rfl,_,_,rfl,rfl,qkw (L:=[]) (d:=.list (dgE.map PyData.int)) ?_ nL λvz K7 s7 a7=>?_⟩
  ·have:(dgE.map PyData.int)=(([4,6,4,16,16,16,16,4]:List Int).map PyData.int++(List.replicate 3 (([20,64,64,2,2]:List Int).map PyData.int)).flatten)++(List.replicate 24 (([2]:List Int).map PyData.int)).flatten:=rfl
   rw[this]
   refine qf4 (qf4 (ycp ?_) (qfr (n:=3) (ycp ?_) (by decide) (by decide)) (by decide)) (qfr (n:=24) (ycp ?_) (by decide) (by decide)) (by decide)
   all_goals repeat' (first|exact qg5|exact qfo|refine qcc ?_ ?_)
  obtain ⟨p7,rfl,u7⟩:=yim (a7.same (qbe _ _))
  refine ⟨b,t+9,p7,dgE,rfl,u7,by decide,by decide,by omega,by omega,λep es H3 s3' nep hep hE=>gn ?_⟩
  have s3:=s7.trans s3'
  have s03:=s02.trans s3
  clear a7 u7
  obtain ⟨e0,g0,b0,b0'⟩:=hE.get (i:=0) (z:=4) rfl
  obtain ⟨e1,g1,b1,b1'⟩:=hE.get (i:=1) (z:=6) rfl
  obtain ⟨e2,g2,b2,b2'⟩:=hE.get (i:=2) (z:=4) rfl
  have el:es.length=47:=hE.1
  refine ⟨_,rfl,ep,_,_,_,rfl,rfl,sqlO hep,yae 0 (yeg g0),_,_,rfl,rfl,?_⟩
  obtain ⟨wd,hwd,w1,w4⟩:∃wd:Nat,1+e0=(wd:Int)/\1<=wd/\wd<=4:=⟨(1+e0).toNat,by omega,by omega,by omega⟩
  show qf0 5 (V.int (1+e0)) _ _ _
  rw[hwd]
  refine gn ?_
  refine ⟨_,rfl,ep,_,_,_,rfl,rfl,sqlO hep,yae 1 (yeg g1),_,_,rfl,rfl,?_⟩
  obtain ⟨W,hW,W1,W6⟩:∃W:Nat,1+e1=(W:Int)/\1<=W/\W<=6:=⟨(1+e1).toNat,by omega,by omega,by omega⟩
  show qf0 6 (V.int (1+e1)) _ _ _
  rw[hW]
  refine gn ?_
  have n24:W*wd<=24:=mul_le_mul W6 w4
  have n1:1<=W*wd:=mul_le_mul W1 w1
  -- the backgrounds
  refine ⟨_,rfl,_,rfl,_,rfl,ep,_,rfl,sqlO hep,λq1 w1'=>?_⟩
  rw[show (2:Int)=((2:Nat):Int) from rfl,show (7:Int)=((7:Nat):Int) from rfl,qfw,length_map,el,<-map_drop,<-map_take]
  generalize hG4:upd H3 q1 _=H4
  have s4:Same H3 H4:=by rw[<-hG4];exact (smR H3).upd w1'
  have f4:H4 q1=some (.lst (((es.drop 2).take 5).map V.int)):=by rw[<-hG4];exact qaa
  clear hG4
  have hm:((es.drop 2).take 5)[0]?=some ((e2.toNat:Nat):Int):=by
   rw[List.getElem?_take,if_pos (by decide),List.getElem?_drop,Int.toNat_of_nonneg b2];exact g2
  refine ⟨_,rfl,q1,_,wd,e2.toNat,rfl,f4,by rw[length_take,length_drop];omega,hm,by omega,w1,w4,λBk bgs H5 s5 nBk hB bl1 bl4 hbg=>gn ?_⟩
  have s35:=s4.trans s5
  -- the harms
  refine ⟨_,rfl,_,rfl,_,rfl,ep,_,rfl,sqlO (s35 _ _ hep),λq2 w2'=>?_⟩
  rw[show (7:Int)=((7:Nat):Int) from rfl,show (23:Int)=((23:Nat):Int) from rfl,qfw,length_map,el,<-map_drop,<-map_take]
  generalize hG6:upd H5 q2 _=H6
  have s6:Same H5 H6:=by rw[<-hG6];exact (smR H5).upd w2'
  have f6:H6 q2=some (.lst (((es.drop 7).take 16).map V.int)):=by rw[<-hG6];exact qaa
  clear hG6
  have hD7:Dig (es.drop 7) (dg16++List.replicate 24 2):=yji (a:=[4,6,4,16,16,16,16]) hE
  have hD16:Dig ((es.drop 7).take 16) dg16:=dig_take (a:=dg16) hD7
  have hD23:Dig (es.drop 23) (List.replicate 24 2):=by
   have:=yji (a:=dg16) hD7
   rw[List.drop_drop]at this
   exact this
  have mulc:((W:Nat):Int)*((wd:Nat):Int)=((W*wd:Nat):Int):=(Int.natCast_mul W wd).symm
  refine ⟨_,rfl,_,rfl,_,_,rfl,rfl,.inl ⟨by omega,by omega⟩,q2,_,((W*wd:Nat):Int),?_,f6,hD16,by omega,by omega,λL us hs S H7 s7 nL' hL hv ok hgood=>gn ?_⟩
  ·show [V.ref q2,V.int (((W:Nat):Int)*((wd:Nat):Int))]=_
   rw[mulc]
  have s37:=(s35.trans s6).trans s7
  have ir:InR hs (W*wd):=λh hh c hc=>(hgood h hh).2 c hc
  have h3:=ok.len
  -- the contents
  refine ⟨_,rfl,_,rfl,_,rfl,_,rfl,_,_,rfl,rfl,.inl ⟨by omega,by omega⟩,_,_,rfl,rfl,_,rfl,ep,_,rfl,sqlO (s37 _ _ hep),λC0 nC0=>gn ?_⟩
  rw[show (23:Int)+((W:Nat):Int)*((wd:Nat):Int)=((23+W*wd:Nat):Int) by rw[mulc];omega,show (23:Int)=((23:Nat):Int) from rfl,qfw,length_map,el,min_eq_left (show 23+W*wd<=47 by omega),min_eq_left (show 23<=47 by decide),Nat.add_sub_cancel_left,<-map_drop,<-map_take]
  obtain ⟨cs,hcs⟩:∃cs,(es.drop 23).take (W*wd)=cs:=⟨_,rfl⟩
  have hcl:cs.length=W*wd:=by rw[<-hcs,length_take,length_drop];omega
  have hb:bits cs:=λc hc=>by
   rw[<-hcs]at hc
   obtain ⟨i,hi⟩:=getElem?_of_mem (mem_of_mem_take hc)
   have hl:i<(List.replicate 24 (2:Int)).length:=by rw[<-hD23.1];exact (List.getElem?_eq_some_iff.mp hi).1
   have hz:(List.replicate 24 (2:Int))[i]?=some 2:=by rw[List.getElem?_replicate,if_pos (by rw[length_replicate]at hl;exact hl)]
   obtain ⟨d0,d1⟩:=hD23.2 i c 2 hi hz
   have:c=0\/c=1:=by omega
   rcases this with rfl|rfl
   ·exact ⟨false,rfl⟩
   ·exact ⟨true,rfl⟩
  rw[hcs]
  generalize hG8:upd H7 C0 _=H8
  have s8:Same H7 H8:=by rw[<-hG8];exact (smR H7).upd nC0
  have hC8:H8 C0=some (.lst (cs.map V.int)):=by rw[<-hG8];exact qaa
  clear hG8 hcs
  have s38:=s37.trans s8
  have s28:=s3.trans s38
  have s08:=s02.trans s28
  -- the orders
  refine ⟨_,rfl,_,rfl,_,rfl,dp,_,rfl,sqlO ((s2.trans s28) _ _ hdp),λq3 w3'=>?_⟩
  rw[show (22:Int)=((22:Nat):Int) from rfl,yfb,<-map_drop]
  generalize hG9:upd H8 q3 _=H9
  have s9:Same H8 H9:=by rw[<-hG9];exact (smR H8).upd w3'
  have f9:H9 q3=some (.lst ((ds.drop 22).map V.int)):=by rw[<-hG9];exact qaa
  clear hG9
  have s59:=((s6.trans s7).trans s8).trans s9
  refine ⟨_,rfl,Bk,_,rfl,.inl (sqlO (s59 _ _ hB)),tp,q3,T,ds.drop 22,bgs.length,(by rw[length_map];rfl),ht.same (s28.trans s9),okt,t3,f9,by rw[length_drop,hD.1];rfl,bl4,λO oa oss HA sA nO osa ol oo=>gn ?_⟩
  have s5A:=s59.trans sA
  have s7A:=(s8.trans s9).trans sA
  have s0A:=(s08.trans s9).trans sA
  have htA:=ht.same ((s28.trans s9).trans sA)
  have hBA:=s5A _ _ hB
  have hLA:=s7A _ _ hL
  have hvA:=hv.same s7A
  have hCA:=(s9.trans sA) _ _ hC8
  have bgf:∀s∈bgs,Figs s/\s.length<=8:=λs hs=>⟨(hbg s hs).2.2,by have:=(hbg s hs).1;omega⟩
  obtain ⟨a1,a2,a3⟩:=(sh_allW okt bgf bl4 ok.ok h3 hb (by omega) oo (by omega)).fits
  have dat:∀{H':Hp}{p:Addr},Same HA H'->H' p=some (.lst [.ref tp,.ref Bk,.ref L,.ref C0,.ref O])->At H' (.ref p) (allW T bgs hs cs oss):=λs hp=>.lst hp (.cons (htA.same s) (.cons (yk5 (s _ _ hBA)) (.cons (.lst (s _ _ hLA) ((hvA.same s).data ok.ok)) (.cons (yi3 (s _ _ hCA)) (.cons (.lst (s _ _ osa.l) (oss_at osa.len (osa.same s).at_)) .nil)))))
  have z5:5<=sizeLine:=by decide
  refine ⟨_,rfl,_,rfl,_,rfl,_,rfl,_,rfl,z5,λy1 ny1=>?_⟩
  generalize hGB:upd HA y1 _=HB
  have sB:Same HA HB:=by rw[<-hGB];exact (smR HA).upd ny1
  have fB:HB y1=some (.lst [V.ref tp,.ref Bk,.ref L,.ref C0,.ref O]):=by rw[<-hGB];exact qaa
  clear hGB
  refine ⟨_,_,rfl,dat sB fB,a1,a2,a3,gn ?_⟩
  -- three times
  refine ⟨_,rfl,_,rfl,1,rfl,Bk,_,false,rfl,sqlO (sB _ _ hBA),rfl,λBr nBr=>?_⟩
  rw[if_neg Bool.false_ne_true,<-List.map_reverse]
  generalize hGC:upd HB Br _=HC
  have sC:Same HB HC:=by rw[<-hGC];exact (smR HB).upd nBr
  have fC:HC Br=some (.lst (bgs.reverse.map V.str)):=by rw[<-hGC];exact qaa
  clear hGC
  refine ⟨_,rfl,zl,λLi nLi=>?_⟩
  generalize hGD:upd HC Li _=HD
  have sD:Same HC HD:=by rw[<-hGD];exact (smR HC).upd nLi
  have fD:HD Li=some (.lst [.ref Bk,.ref Br,.ref Bk]):=by rw[<-hGD];exact qaa
  clear hGD
  have sAD:=(sB.trans sC).trans sD
  have each:∀v∈([V.ref Bk,.ref Br,.ref Bk]:List V),∃(x:Addr) (bs:List Str),v=.ref x/\HD x=some (.lst (bs.map V.str))/\bs.length=bgs.length/\∀s∈bs,s∈bgs:=λv hv=>by
   simp only[mem_cons,not_mem_nil,or_false]at hv
   rcases hv with rfl|rfl|rfl
   ·exact ⟨Bk,bgs,rfl,sAD _ _ hBA,rfl,λs h=>h⟩
   ·exact ⟨Br,bgs.reverse,rfl,sD _ _ fC,List.length_reverse,λs h=>List.mem_reverse.mp h⟩
   ·exact ⟨Bk,bgs,rfl,sAD _ _ hBA,rfl,λs h=>h⟩
  refine ⟨Li,rfl,⟨_,sqlO fD⟩,yaq (xs:=[V.ref Bk,.ref Br,.ref Bk]) (λi σ H2=>∃(o12 o13 o14:Option V),σ=[some (.ref A),some (.int t),some (.ref dp),some (.ref tp),some (.ref ep),some (.int wd),some (.int W),some (.ref Bk),some (.ref L),some (.ref C0),some (.ref O),some (.str (allW T bgs hs cs oss).shown),o12,o13,o14]/\Same HD H2)
   ⟨none,none,none,rfl,smR HD⟩ (λi σ H2 _ ⟨_,_,_,_,s2⟩=>sqlO (s2 _ _ fD)) ?_ ?_⟩
  ·rintro i y σ H2' hy ⟨o12,o13,o14,rfl,sE⟩
   obtain ⟨x,bs,rfl,hx,xl,xm⟩:=each y (mem_of_getElem? hy)
   have sF:=sAD.trans sE
   have hbl:∀bg∈bs,wd<=bg.length/\bg.length<=8:=λbg h=>by have:=(hbg bg (xm bg h)).1;omega
   refine gn ?_
   refine ⟨_,rfl,_,rfl,_,rfl,_,rfl,_,rfl,_,rfl,_,rfl,tp,x,O,L,C0,T,W,wd,bs,oa,oss,us,hs,cs,rfl,htA.same sF,okt,sE _ _ hx,osa.same sF,λos h=>(oo os h).len,by omega,by omega,λbg h=>⟨(hbl bg h).1,(hbl bg h).2,(hbg bg (xm bg h)).2.2.at (hbl bg h).1⟩,w1,w4,W1,by omega,hcl,sF _ _ hLA,hvA.same sF,ok.ok,h3,by rw[hcl];exact ir,sF _ _ hCA,λD1 Ha sa ea=>gn ?_⟩
   have sG:=sF.trans sa
   refine ⟨_,rfl,_,rfl,_,rfl,x,_,rfl,.inl (sqlO ((sE.trans sa) _ _ hx)),λlb nlb=>?_⟩
   generalize hGb:upd Ha lb _=Hb
   have sb:Same Ha Hb:=by rw[<-hGb];exact (smR Ha).upd nlb
   have fb:Hb lb=some (.lst (bs.map V.str)):=by rw[<-hGb];exact qaa
   clear hGb
   have sH:=sG.trans sb
   refine ⟨_,rfl,_,rfl,_,rfl,_,rfl,tp,lb,O,L,C0,T,W,wd,bs,oa,oss,us,hs,S,cs,rfl,htA.same sH,okt,fb,osa.same sH,oo,by omega,by omega,hbl,w1,w4,W1,by omega,hcl,sH _ _ hLA,hvA.same sH,ok,by rw[hcl];exact ir,sH _ _ hCA,hb,λD2 Hc sc' nD2 eD2=>gn ?_⟩
   have wl:=(qfb (hs:=hs) (W:=W) (wd:=wd) (by omega) w4 okt (bs.zip oss) ([],yas hs cs)).2
   have zl:(bs.zip oss).length<=4:=by rw[length_zip];omega
   rw[length_nil,Nat.zero_add]at wl
   have eD1:=(sb.trans sc') _ _ ea
   revert eD2 eD1 wl
   generalize (wRun W wd hs T (bs.zip oss) ([],yas hs cs)).1=fo
   intro eD2 wl eD1
   refine ⟨_,rfl,_,_,_,_,rfl,.lst eD2,rfl,_,rfl,iteF ?_⟩
   have hlay:=yh6 fo
   refine ⟨_,rfl,_,rfl,_,_,yi3 eD2,yi3 eD1,hlay,hlay,le_trans (qj7 _) (by decide),_,rfl,iteN (by rw[SeqAt.eqv_refl _ hlay];rfl) ?_⟩
   refine ⟨_,rfl,D2,rfl,⟨_,sqlO eD2⟩,λDc nDc=>qbp (n:=fo.length) (λi H'=>Same Hc H'/\H' Dc=some (.lst [])) ⟨(smR Hc).upd nDc,qaa⟩ ?_ ?_⟩
   ·rintro Hd ⟨sd,ed⟩
    refine ⟨⟨_,sqlO (sd _ _ eD2),by simp⟩,?_⟩
    refine ⟨zero_le _,λz nz=>⟨Dc,z,[],rfl,rfl,sqlO (((smR Hd).upd nz) _ _ ed),sqlO qaa,_,rfl,iteF ?_⟩⟩
    have e3:upd Hd z (.lst []) D2=some (.lst (fo.map V.int)):=((smR Hd).upd nz) _ _ (sd _ _ eD2)
    refine ⟨_,rfl,.inl ⟨rfl,_,sqlO e3⟩,D2,_,_,rfl,rfl,e3,qbb (by rw[length_map];omega),?_⟩
    exact ⟨_,_,_,rfl,(sE.trans (sa.trans (sb.trans ((sc'.trans sd).upd nz)))).at ((sE.trans (sa.trans sb)).free nD2)⟩
   ·rintro j Hd hj ⟨sd,ed⟩
    refine ⟨⟨_,_,sqlO (sd _ _ eD2),by rw[getElem?_map,getElem?_eq_getElem hj];rfl⟩,?_⟩
    rintro u He ⟨rfl,hu⟩
    obtain ⟨v,hv',rfl⟩:=qaz (hu _ (sqlO (sd _ _ eD2)))
    refine ⟨qaw.set (qaw.refl _) rfl,?_⟩
    refine ⟨_,rfl,_,_,_,_,rfl,.int _,rfl,_,rfl,iteF ⟨sd,ed⟩⟩
  ·rintro σ H2' ⟨o12,o13,o14,rfl,sE⟩
   refine ⟨_,rfl,_,rfl,_,rfl,_,rfl,_,rfl,z5,λy9 ny9=>?_⟩
   generalize hGz:upd H2' y9 _=Hz
   have sz:Same H2' Hz:=by rw[<-hGz];exact (smR H2').upd ny9
   have fz:Hz y9=some (.lst [V.ref tp,.ref Bk,.ref L,.ref C0,.ref O]):=by rw[<-hGz];exact qaa
   clear hGz
   have sAz:=(sAD.trans sE).trans sz
   refine ⟨_,_,rfl,dat sAz fz,a1,a2,a3,_,rfl,rfl,?_⟩
   have hk:=k Hz (s0A.trans sAz)
   simpa using hk
theorem cells3{ns:List Int}{at':Int}(h:0<=at'):∃ms:List Int,cutV (ns.map V.int) (some at') (some (at' + 3))=ms.map V.int/\ms.length<=3:=by
 rw[show at'=((at'.toNat:Nat):Int) by omega,show ((at'.toNat:Nat):Int)+3=((at'.toNat+3:Nat):Int) by omega,qfw,length_map]
 refine ⟨(ns.drop (min at'.toNat ns.length)).take (min (at'.toNat+3) ns.length-min at'.toNat ns.length),by rw[map_take,map_drop],?_⟩
 rw[length_take]
 omega
theorem two_of{ms:List Int}:∃a b:Int,cutV ((ms++[1,2]).map V.int) none (some 2)=[V.int a,.int b]:=by
 rw[show (2:Int)=((2:Nat):Int) from rfl,yfc,<-map_take]
 match ms with
 |[]=>exact ⟨_,_,rfl⟩
 |[a]=>exact ⟨_,_,rfl⟩
 |a::b::_=>exact ⟨_,_,rfl⟩
def yjf(K:W.Frag):Sp:=λvs H Q _=>∃(a:Addr) (ns:List Int),vs=[.ref a]/\SqL K H a (ns.map V.int)/\ns.length<=63/\∀H',Q (.bl true) H'
abbrev qhb:Stmt:=top 88
theorem sc_law:FnScope ["_law_script","_law_at"] ["_law_script"] (qac qhb):=fsc
theorem ok_law(B:Bl mg)(qhz:Has P w K mg base 12 "_law_right" ["_law_cells_here","_law_turn"] yin){f:Addr}{fd:FuncData}(F:Fun K "law" "law" qhb f fd):FnOk P w K mg base CX0 13 f fd ["_law_script"] (yjf K):=by
 refine Mx.Fun.okQ F sc_law (λvs H Q E h=>?_) (λcdv A outer s H vs Q E hr h=>?_)
 ·obtain ⟨a,ns,rfl,_⟩:=h
  rfl
 ·obtain ⟨a,ns,rfl,hS,hnl,k⟩:=h
  have sc:=sc_law
  refine ⟨_,qag rfl (qad (ya8 PassesOwn.never rfl (qf9 (qla rfl (B.of rfl) (yaa yab (yaa (qak (yih rfl) rfl (B.of rfl) boot_max (yaa yab (yaa (qak (yk0 rfl) rfl (B.of rfl) boot_min (yaa (qak yah rfl (B.of rfl) boot_len (yaa (pv 0) yac)) (yaa yab yac))) yac))) (yaa yab yac))))) (pgn 1 sc.nd)
    (yaf (ya9 (qgo (qc9 (yal qhz hr (ybd (yek qce (qa5 qdb (yek qce (qab (pv 0)) (qau (pv 1)) (qau (yau ya7 (pv 1) yab))) (qat (ya3 (qab yab) (ya3 (qab yab) qae)))) ybw (qau yab)) (yag (qab (pv 1)) qae)))))
     (yaf (qao (qab yjc)))
     qa2)))
   (yaf (qao (qab yjc)))),?_⟩
  have z3:2<=sizeLine:=by decide
  refine ⟨_,rfl,a,_,rfl,.inl hS,_,_,rfl,_,_,rfl,_,_,_,rfl,?_,?_⟩
  ·simp only[length_map]
   refine ⟨by decide,by decide,?_,?_,by decide,by decide⟩<;>split<;>split<;>omega
  refine qj3 (λi σ H2=>∃q1:Option V,σ=[some (.ref a),q1]/\Same H H2) ⟨none,rfl,smR H⟩ ?_ ?_
  ·rintro i σ H2 hi ⟨q1,rfl,s2⟩
   generalize hat:(0:Int)+(i:Int)*3=at'
   have hat0:0<=at':=by omega
   have hat1:at'<=1000:=by
    have h24:(if (if 24<((ns.map V.int).length:Int) then 24 else ((ns.map V.int).length:Int))>1 then (if 24<((ns.map V.int).length:Int) then 24 else ((ns.map V.int).length:Int)) else 1)<=24:=by split<;>split<;>omega
    unfold ydz at hi
    generalize (if (if 24<((ns.map V.int).length:Int) then 24 else ((ns.map V.int).length:Int))>1 then (if 24<((ns.map V.int).length:Int) then 24 else ((ns.map V.int).length:Int)) else 1)=X at hi h24
    split at hi<;>omega
   obtain ⟨ms,hms,hml⟩:=cells3 (ns:=ns) hat0
   refine ⟨_,rfl,_,rfl,_,rfl,_,rfl,_,_,rfl,rfl,_,rfl,a,_,rfl,s2.seq hS,λc1 h1=>?_⟩
   rw[hms]
   generalize hG3:upd H2 c1 _=H3
   have s3:Same H2 H3:=by rw[<-hG3];exact (smR H2).upd h1
   have f3:H3 c1=some (.lst (ms.map V.int)):=by rw[<-hG3];exact qaa
   clear hG3
   refine ⟨z3,λc2 h2=>?_⟩
   generalize hG4:upd H3 c2 _=H4
   have s4:Same H3 H4:=by rw[<-hG4];exact (smR H3).upd h2
   have f4:H4 c2=some (.lst (([1,2]:List Int).map V.int)):=by rw[<-hG4];exact qaa
   clear hG4
   refine ⟨c1,c2,_,_,rfl,rfl,s4 _ _ f3,f4,ydg (by simp;omega),λc3 h3=>?_⟩
   generalize hG5:upd H4 c3 _=H5
   have s5:Same H4 H5:=by rw[<-hG5];exact (smR H4).upd h3
   have f5:H5 c3=some (.lst ((ms++[1,2]).map V.int)):=by rw[<-hG5,map_append];exact qaa
   clear hG5
   refine ⟨2,rfl,c3,_,rfl,sqlO f5,λc4 h4=>?_⟩
   obtain ⟨x,y,e3⟩:=two_of (ms:=ms)
   rw[e3]
   generalize hG6:upd H5 c4 _=H6
   have s6:Same H5 H6:=by rw[<-hG6];exact (smR H5).upd h4
   have f6:H6 c4=some (.lst [.int x,.int y]):=by rw[<-hG6];exact qaa
   clear hG6
   refine ⟨_,rfl,c4,x,y,at',rfl,f6,hat0,hat1,λH7 s7=>⟨_,rfl,iteN rfl ?_⟩⟩
   exact ⟨_,rfl,((s2.trans s3).trans (s4.trans s5)).trans (s6.trans s7)⟩
  ·rintro σ H2 ⟨q1,rfl,s2⟩
   exact k _
end
end Mh
namespace Mh
open PySem L2 PyProof.Rows
open Mx
theorem ydk{K:W.Frag}{a:Addr}{xs:List V}{od:Option Addr}{its:Array Value}{n:Nat}{sl:Array (Option Value)}(h2:K.lookup a=some ⟨.type "tuple",od,.seq its n,sl⟩)(z:its.size<=sizeLine)(r:Vals xs its.toList):∀H,SqT K H a xs:=
 λH=>.inr ⟨_,its,n,h2,rfl,rfl,z,r⟩
theorem fnAt_mk{K:W.Frag}{h:Heap}{mg:Str->Option Value}{x:Str}{st:Stmt}{ps:List Str}{f:Addr}{oc:Value}{od an:Option Addr}{osl:Array (Option Value)}{kV doc pm cdv ct:Value}(X:K.In h)(G:h.Ns mainGlobals mg)
  (a:W.nsIn K mainGlobals x=some (some (.ref f))) (l:K.lookup f=some ⟨oc,od,.func (W.fnOf x x (ya2 st) (yat st) (qac st) .none kV doc pm an cdv ct),osl⟩) (c:W.codeIn K cdv x=true) (k:W.keepIn K (.ref f)=true)
  (hb:∀(kV doc pm:Value) (an:Option Addr) (cdv ct:Value) (us:List Value),us.length=ps.length->bindArgs (W.fnOf x x (ya2 st) (yat st) (qac st) .none kV doc pm an cdv ct) ⟨us,[]⟩=pure (ps.zip us)):FnAt K mg x st ps:=by
 have F:=qcu (st:=st) l c k
 exact ⟨f,_,W.mg_of X G a,F,F.binds hb⟩
def FnP(K:W.Frag)(x:Str)(st:Stmt):Prop:=∃(f:Addr) (oc:Value) (od an:Option Addr) (sl:Array (Option Value)) (kV dc pm cd ct:Value),W.nsIn K mainGlobals x=some (some (.ref f))/\K.lookup f=some ⟨oc,od,.func (W.fnOf x x (ya2 st) (yat st) (qac st) .none kV dc pm an cd ct),sl⟩/\W.codeIn K cd x=true/\W.keepIn K (.ref f)=true
theorem FnP.at{K:W.Frag}{h:Heap}{mg:Str->Option Value}{x:Str}{st:Stmt}{ps:List Str}(p:FnP K x st)(X:K.In h)(G:h.Ns mainGlobals mg)
  (hb:∀(kV doc pm:Value) (an:Option Addr) (cdv ct:Value) (us:List Value),us.length=ps.length->bindArgs (W.fnOf x x (ya2 st) (yat st) (qac st) .none kV doc pm an cdv ct) ⟨us,[]⟩=pure (ps.zip us)):FnAt K mg x st ps:=by
 obtain ⟨f,oc,od,an,sl,kV,dc,pm,cd,ct,a,l,c,k⟩:=p
 exact fnAt_mk X G a l c k hb
theorem FnP.a1{K:W.Frag}{h:Heap}{mg:Str->Option Value}{x:Str}{st:Stmt}{a0:Str}(p:FnP K x st)(X:K.In h)(G:h.Ns mainGlobals mg)
  (hb:∀(kV doc pm:Value) (an:Option Addr) (cdv ct u0:Value),bindArgs (W.fnOf x x (ya2 st) (yat st) (qac st) .none kV doc pm an cdv ct) ⟨[u0],[]⟩=pure ([a0].zip [u0]):=by intros;rfl):FnAt K mg x st [a0]:=p.at X G λ_ _ _ _ _ _=>lenS λ_=>len0 (hb ..)
theorem FnP.a2{K:W.Frag}{h:Heap}{mg:Str->Option Value}{x:Str}{st:Stmt}{a0 a1:Str}(p:FnP K x st)(X:K.In h)(G:h.Ns mainGlobals mg)
  (hb:∀(kV doc pm:Value) (an:Option Addr) (cdv ct u0 u1:Value),bindArgs (W.fnOf x x (ya2 st) (yat st) (qac st) .none kV doc pm an cdv ct) ⟨[u0,u1],[]⟩=pure ([a0,a1].zip [u0,u1]):=by intros;rfl):FnAt K mg x st [a0,a1]:=p.at X G λ_ _ _ _ _ _=>lenS λ_=>lenS λ_=>len0 (hb ..)
theorem FnP.a3{K:W.Frag}{h:Heap}{mg:Str->Option Value}{x:Str}{st:Stmt}{a0 a1 a2:Str}(p:FnP K x st)(X:K.In h)(G:h.Ns mainGlobals mg)
  (hb:∀(kV doc pm:Value) (an:Option Addr) (cdv ct u0 u1 u2:Value),bindArgs (W.fnOf x x (ya2 st) (yat st) (qac st) .none kV doc pm an cdv ct) ⟨[u0,u1,u2],[]⟩=pure ([a0,a1,a2].zip [u0,u1,u2]):=by intros;rfl):FnAt K mg x st [a0,a1,a2]:=p.at X G λ_ _ _ _ _ _=>lenS λ_=>lenS λ_=>lenS λ_=>len0 (hb ..)
theorem FnP.a4{K:W.Frag}{h:Heap}{mg:Str->Option Value}{x:Str}{st:Stmt}{a0 a1 a2 a3:Str}(p:FnP K x st)(X:K.In h)(G:h.Ns mainGlobals mg)
  (hb:∀(kV doc pm:Value) (an:Option Addr) (cdv ct u0 u1 u2 u3:Value),bindArgs (W.fnOf x x (ya2 st) (yat st) (qac st) .none kV doc pm an cdv ct) ⟨[u0,u1,u2,u3],[]⟩=pure ([a0,a1,a2,a3].zip [u0,u1,u2,u3]):=by intros;rfl):FnAt K mg x st [a0,a1,a2,a3]:=p.at X G λ_ _ _ _ _ _=>lenS λ_=>lenS λ_=>lenS λ_=>lenS λ_=>len0 (hb ..)
theorem FnP.a5{K:W.Frag}{h:Heap}{mg:Str->Option Value}{x:Str}{st:Stmt}{a0 a1 a2 a3 a4:Str}(p:FnP K x st)(X:K.In h)(G:h.Ns mainGlobals mg)
  (hb:∀(kV doc pm:Value) (an:Option Addr) (cdv ct u0 u1 u2 u3 u4:Value),bindArgs (W.fnOf x x (ya2 st) (yat st) (qac st) .none kV doc pm an cdv ct) ⟨[u0,u1,u2,u3,u4],[]⟩=pure ([a0,a1,a2,a3,a4].zip [u0,u1,u2,u3,u4]):=by intros;rfl):FnAt K mg x st [a0,a1,a2,a3,a4]:=p.at X G λ_ _ _ _ _ _=>lenS λ_=>lenS λ_=>lenS λ_=>lenS λ_=>lenS λ_=>len0 (hb ..)
theorem FnP.a7{K:W.Frag}{h:Heap}{mg:Str->Option Value}{x:Str}{st:Stmt}{a0 a1 a2 a3 a4 a5 a6:Str}(p:FnP K x st)(X:K.In h)(G:h.Ns mainGlobals mg)
  (hb:∀(kV doc pm:Value) (an:Option Addr) (cdv ct u0 u1 u2 u3 u4 u5 u6:Value),bindArgs (W.fnOf x x (ya2 st) (yat st) (qac st) .none kV doc pm an cdv ct) ⟨[u0,u1,u2,u3,u4,u5,u6],[]⟩=pure ([a0,a1,a2,a3,a4,a5,a6].zip [u0,u1,u2,u3,u4,u5,u6]):=by intros;rfl):FnAt K mg x st [a0,a1,a2,a3,a4,a5,a6]:=p.at X G λ_ _ _ _ _ _=>lenS λ_=>lenS λ_=>lenS λ_=>lenS λ_=>lenS λ_=>lenS λ_=>lenS λ_=>len0 (hb ..)
set_option maxHeartbeats 0 in
theorem all_mk{l:W.OpenLaw}{w:World}{K:W.Frag}{h:Heap}{mg:Str->Option Value}{fa:Addr}(X:K.In h)(G:h.Ns mainGlobals mg)(hfa:mg "law"=some (.ref fa))
  (p0:FnP K "is_whole" qee)
  (p1:FnP K "is_bit" qhg)
  (p2:FnP K "is_one_of" qds)
  (p3:FnP K "is_cell" qfp)
  (p4:FnP K "is_part" qf7)
  (p5:FnP K "has_word" yei)
  (p6:FnP K "cells_in" yeo)
  (p7:FnP K "has_parts" qdu)
  (p8:FnP K "is_harm" yf5)
  (p9:FnP K "look_at_harms" qb5)
  (p10:FnP K "cells_of" qek)
  (p11:FnP K "stuck_bit" qdw)
  (p12:FnP K "put" s_put)
  (p13:FnP K "settle" yhg)
  (p14:FnP K "harm_of_address" ybs)
  (p15:FnP K "reached_cells" qb3)
  (p16:FnP K "read_cell" qdt)
  (p17:FnP K "read_at" qf5)
  (p18:FnP K "is_slow" yf8)
  (p19:FnP K "kept_bit" qei)
  (p20:FnP K "act_on_others" yb3)
  (p21:FnP K "write_cell" qcx)
  (p22:FnP K "write_at" yee)
  (p23:FnP K "is_size" qfe)
  (p24:FnP K "are_contents" yce)
  (p25:FnP K "look_at_memory" qbw)
  (p26:FnP K "look_at_bit" ycq)
  (p27:FnP K "is_pair" yfv)
  (p28:FnP K "is_filled" ydm)
  (p29:FnP K "is_step" qfv)
  (p30:FnP K "is_framed" ydq)
  (p31:FnP K "look_at_element" qbq)
  (p32:FnP K "look_at_test" ycd)
  (p33:FnP K "is_order_for" qcf)
  (p34:FnP K "are_orders" yda)
  (p35:FnP K "places_by_word" qby)
  (p36:FnP K "step_on" yfy)
  (p37:FnP K "word_doings" ycn)
  (p38:FnP K "are_word_orders" ybu)
  (p39:FnP K "look_at_word_orders" ybb)
  (p40:FnP K "bits_in" yga)
  (p41:FnP K "reads_by" qed)
  (p42:FnP K "words_reads" qcm)
  (p43:FnP K "_law_digits" qcp)
  (p44:FnP K "_law_put" yel)
  (p45:FnP K "_law_write" yc1)
  (p46:FnP K "_law_look" yds)
  (p47:FnP K "_law_step" qdn)
  (p48:FnP K "_law_first" qdc)
  (p49:FnP K "_law_addresses" ybx)
  (p50:FnP K "_law_harm" ydt)
  (p51:FnP K "_law_cells" yc3)
  (p52:FnP K "_law_harms" qc4)
  (p53:FnP K "_law_test" qdv)
  (p54:FnP K "_law_backgrounds" qbm)
  (p55:FnP K "_law_bit" qec)
  (p56:FnP K "_law_over" ydr)
  (p57:FnP K "_law_due" qeg)
  (p58:FnP K "_law_orders" qco)
  (p59:FnP K "_law_right" ycz)
  {f60:Addr}{od60 an60:Option Addr}{sl60:Array (Option Value)}{oc60 kV60 dc60 pm60 cd60 ct60:Value}
  (a60:W.nsIn K mainGlobals "law"=some (some (.ref f60)))
  (l60:K.lookup f60=some ⟨oc60,od60,.func (W.fnOf "law" "law" (ya2 qhb) (yat qhb) (qac qhb) .none kV60 dc60 pm60 an60 cd60 ct60),sl60⟩)
  (c60:W.codeIn K cd60 "law"=true)
  (k60:W.keepIn K (.ref f60)=true)
  (zz:∀x∈qhe,W.nsIn K mainGlobals x=some none)
  (zset:W.nsIn K mainGlobals "set"=some none)
  (zzip:W.nsIn K mainGlobals "zip"=some none)
  (zall:W.nsIn K mainGlobals "all"=some none)
  {w1 w2 w3:Tok}
  (aMC:W.nsIn K mainGlobals "MOST_CELLS"=some (some (.int 64 w1)))
  (aMH:W.nsIn K mainGlobals "MOST_HARMS"=some (some (.int 3 w2)))
  (aMU:W.nsIn K mainGlobals "MOST_UNLIKE"=some (some (.int 3 w3)))
  {tJ:Addr}{uj1 uj2:Tok}{odJ:Option Addr}{nJ:Nat}{slJ:Array (Option Value)}
  (aJ:W.nsIn K mainGlobals "JOININGS"=some (some (.ref tJ)))
  (lJ:K.lookup tJ=some ⟨.type "tuple",odJ,.seq #[.str "and" uj1,.str "or" uj2] nJ,slJ⟩)
  {tP qp0 qp1 qp2 qp3 qp4 qp5 qp6 qp7 qp8 qp9:Addr}{xp0 xp1 xp2 xp3 xp4 xp5 xp6 xp7 xp8 xp9:Int}{kp0 kp1 kp2 kp3 kp4 kp5 kp6 kp7 kp8 kp9:Tok}{epP:Nat}
  (aP:W.nsIn K mainGlobals "PARTS"=some (some (.ref tP)))
  (lP:K.lookup tP=some ⟨.type "dict",none,.dict #[⟨xp0,.str "stuck" kp0,.ref qp0⟩,⟨xp1,.str "slow" kp1,.ref qp1⟩,⟨xp2,.str "forgets" kp2,.ref qp2⟩,⟨xp3,.str "misreads" kp3,.ref qp3⟩,⟨xp4,.str "turns" kp4,.ref qp4⟩,⟨xp5,.str "sets" kp5,.ref qp5⟩,⟨xp6,.str "keeps" kp6,.ref qp6⟩,⟨xp7,.str "nowhere" kp7,.ref qp7⟩,⟨xp8,.str "other" kp8,.ref qp8⟩,⟨xp9,.str "both" kp9,.ref qp9⟩] epP,#[]⟩)
  (mP:(tP == sysModules)=false)
  {oqp0:Option Addr}{yp0_0 yp0_1:Tok}{mp0:Nat}{sqp0:Array (Option Value)}
  (tp0:K.lookup qp0=some ⟨.type "tuple",oqp0,.seq #[.str "cell" yp0_0,.str "bit" yp0_1] mp0,sqp0⟩)
  {oqp1:Option Addr}{yp1_0 yp1_1:Tok}{mp1:Nat}{sqp1:Array (Option Value)}
  (tp1:K.lookup qp1=some ⟨.type "tuple",oqp1,.seq #[.str "cell" yp1_0,.str "bit" yp1_1] mp1,sqp1⟩)
  {oqp2:Option Addr}{yp2_0 yp2_1:Tok}{mp2:Nat}{sqp2:Array (Option Value)}
  (tp2:K.lookup qp2=some ⟨.type "tuple",oqp2,.seq #[.str "cell" yp2_0,.str "bit" yp2_1] mp2,sqp2⟩)
  {oqp3:Option Addr}{yp3_0 yp3_1:Tok}{mp3:Nat}{sqp3:Array (Option Value)}
  (tp3:K.lookup qp3=some ⟨.type "tuple",oqp3,.seq #[.str "cell" yp3_0,.str "bit" yp3_1] mp3,sqp3⟩)
  {oqp4:Option Addr}{yp4_0 yp4_1 yp4_2:Tok}{mp4:Nat}{sqp4:Array (Option Value)}
  (tp4:K.lookup qp4=some ⟨.type "tuple",oqp4,.seq #[.str "cell" yp4_0,.str "cell" yp4_1,.str "bit" yp4_2] mp4,sqp4⟩)
  {oqp5:Option Addr}{yp5_0 yp5_1 yp5_2 yp5_3:Tok}{mp5:Nat}{sqp5:Array (Option Value)}
  (tp5:K.lookup qp5=some ⟨.type "tuple",oqp5,.seq #[.str "cell" yp5_0,.str "cell" yp5_1,.str "bit" yp5_2,.str "bit" yp5_3] mp5,sqp5⟩)
  {oqp6:Option Addr}{yp6_0 yp6_1 yp6_2 yp6_3:Tok}{mp6:Nat}{sqp6:Array (Option Value)}
  (tp6:K.lookup qp6=some ⟨.type "tuple",oqp6,.seq #[.str "cell" yp6_0,.str "cell" yp6_1,.str "bit" yp6_2,.str "bit" yp6_3] mp6,sqp6⟩)
  {oqp7:Option Addr}{yp7_0 yp7_1:Tok}{mp7:Nat}{sqp7:Array (Option Value)}
  (tp7:K.lookup qp7=some ⟨.type "tuple",oqp7,.seq #[.str "cell" yp7_0,.str "bit" yp7_1] mp7,sqp7⟩)
  {oqp8:Option Addr}{yp8_0 yp8_1:Tok}{mp8:Nat}{sqp8:Array (Option Value)}
  (tp8:K.lookup qp8=some ⟨.type "tuple",oqp8,.seq #[.str "cell" yp8_0,.str "cell" yp8_1] mp8,sqp8⟩)
  {oqp9:Option Addr}{yp9_0 yp9_1 yp9_2:Tok}{mp9:Nat}{sqp9:Array (Option Value)}
  (tp9:K.lookup qp9=some ⟨.type "tuple",oqp9,.seq #[.str "cell" yp9_0,.str "cell" yp9_1,.str "how" yp9_2] mp9,sqp9⟩)
  (zrv:W.nsIn K mainGlobals "reversed"=some none)
  {tO:Addr}{u1 u2 u3:Tok}{odO:Option Addr}{nO:Nat}{slO:Array (Option Value)}
  (aO:W.nsIn K mainGlobals "ORDERS"=some (some (.ref tO)))
  (lO:K.lookup tO=some ⟨.type "tuple",odO,.seq #[.str "up" u1,.str "down" u2,.str "any" u3] nO,slO⟩)
  {tL:Addr}{v1 v2:Tok}{odL:Option Addr}{nL:Nat}{slL:Array (Option Value)}
  (aL:W.nsIn K mainGlobals "LETTERS"=some (some (.ref tL)))
  (lL:K.lookup tL=some ⟨.type "tuple",odL,.seq #[.str "r" v1,.str "w" v2] nL,slL⟩)
  {tK:Addr}{g1 g2:Tok}{odK:Option Addr}{nK:Nat}{slK:Array (Option Value)}
  (aK:W.nsIn K mainGlobals "TAKEN"=some (some (.ref tK)))
  (lK:K.lookup tK=some ⟨.type "tuple",odK,.seq #[.str "up" g1,.str "down" g2] nK,slK⟩)
  {w4 w5:Tok}
  (aT:W.nsIn K mainGlobals "MOST_IN_TEST"=some (some (.int 8 w4)))
  (aE:W.nsIn K mainGlobals "MOST_IN_ELEMENT"=some (some (.int 6 w5)))
  {C0:Addr}
  (ca0:W.nsIn K mainGlobals "Memory"=some (some (.ref C0)))
  (cp0:W.plainGet K C0 Str.empty=true)
  (cd0_:W.hasDictIn K C0=true)
  (co0:W.plainOver K C0=true)
  (cs0:W.findIn K (.ref C0) "__setattr__"=some (some (.builtin "object.__setattr__")))
  (cf0_0:W.findIn K (.ref C0) "harms"=some none)
  (cf0_1:W.findIn K (.ref C0) "cells"=some none)
  (cm0_:W.makesIn K C0=true)
  (ck0:W.keepIn K (.ref C0)=true)
  {fm0_0:Addr}{odm0_0 anm0_0:Option Addr}{slm0_0:Array (Option Value)}{ocm0_0 kVm0_0 dcm0_0 pmm0_0 cdm0_0 ctm0_0:Value}
  (am0_0:W.findIn K (.ref C0) "__init__"=some (some (.ref fm0_0)))
  (lm0_0:K.lookup fm0_0=some ⟨ocm0_0,odm0_0,.func (W.fnOf "__init__" "Memory.__init__" (ya2 yap) (yat yap) (qac yap) .none kVm0_0 dcm0_0 pmm0_0 anm0_0 cdm0_0 ctm0_0),slm0_0⟩)
  (cm0_0:W.codeIn K cdm0_0 "Memory.__init__"=true)
  (im0_0:W.isFn K (.ref fm0_0)=true)
  (km0_0:W.keepIn K (.ref fm0_0)=true)
  {fm0_1:Addr}{odm0_1 anm0_1:Option Addr}{slm0_1:Array (Option Value)}{ocm0_1 kVm0_1 dcm0_1 pmm0_1 cdm0_1 ctm0_1:Value}
  (am0_1:W.findIn K (.ref C0) "look_at_address"=some (some (.ref fm0_1)))
  (lm0_1:K.lookup fm0_1=some ⟨ocm0_1,odm0_1,.func (W.fnOf "look_at_address" "Memory.look_at_address" (ya2 qal) (yat qal) (qac qal) .none kVm0_1 dcm0_1 pmm0_1 anm0_1 cdm0_1 ctm0_1),slm0_1⟩)
  (cm0_1:W.codeIn K cdm0_1 "Memory.look_at_address"=true)
  (im0_1:W.isFn K (.ref fm0_1)=true)
  (km0_1:W.keepIn K (.ref fm0_1)=true)
  {fm0_2:Addr}{odm0_2 anm0_2:Option Addr}{slm0_2:Array (Option Value)}{ocm0_2 kVm0_2 dcm0_2 pmm0_2 cdm0_2 ctm0_2:Value}
  (am0_2:W.findIn K (.ref C0) "read"=some (some (.ref fm0_2)))
  (lm0_2:K.lookup fm0_2=some ⟨ocm0_2,odm0_2,.func (W.fnOf "read" "Memory.read" (ya2 qa0) (yat qa0) (qac qa0) .none kVm0_2 dcm0_2 pmm0_2 anm0_2 cdm0_2 ctm0_2),slm0_2⟩)
  (cm0_2:W.codeIn K cdm0_2 "Memory.read"=true)
  (im0_2:W.isFn K (.ref fm0_2)=true)
  (km0_2:W.keepIn K (.ref fm0_2)=true)
  {fm0_3:Addr}{odm0_3 anm0_3:Option Addr}{slm0_3:Array (Option Value)}{ocm0_3 kVm0_3 dcm0_3 pmm0_3 cdm0_3 ctm0_3:Value}
  (am0_3:W.findIn K (.ref C0) "write"=some (some (.ref fm0_3)))
  (lm0_3:K.lookup fm0_3=some ⟨ocm0_3,odm0_3,.func (W.fnOf "write" "Memory.write" (ya2 qav) (yat qav) (qac qav) .none kVm0_3 dcm0_3 pmm0_3 anm0_3 cdm0_3 ctm0_3),slm0_3⟩)
  (cm0_3:W.codeIn K cdm0_3 "Memory.write"=true)
  (im0_3:W.isFn K (.ref fm0_3)=true)
  (km0_3:W.keepIn K (.ref fm0_3)=true)
  {fm0_4:Addr}{odm0_4 anm0_4:Option Addr}{slm0_4:Array (Option Value)}{ocm0_4 kVm0_4 dcm0_4 pmm0_4 cdm0_4 ctm0_4:Value}
  (am0_4:W.findIn K (.ref C0) "size"=some (some (.ref fm0_4)))
  (lm0_4:K.lookup fm0_4=some ⟨ocm0_4,odm0_4,.func (W.fnOf "size" "Memory.size" (ya2 yaz) (yat yaz) (qac yaz) .none kVm0_4 dcm0_4 pmm0_4 anm0_4 cdm0_4 ctm0_4),slm0_4⟩)
  (cm0_4:W.codeIn K cdm0_4 "Memory.size"=true)
  (im0_4:W.isFn K (.ref fm0_4)=true)
  (km0_4:W.keepIn K (.ref fm0_4)=true) :
  ∃fd:FuncData,(∀(s:Shared) (v:Value),BindsTo s fd ⟨[v],[]⟩ [("_law_script",v)])/\∀base:Heap,K.In base->base.Ns mainGlobals mg->FnOk l.prog w K mg base CX0 13 fa fd ["_law_script"] (yjf K):=by
 have e:=hfa.symm.trans (W.mg_of X G a60)
 cases e
 have B:Bl mg:=⟨λx hx=>W.mg_none_of X G (zz x hx)⟩
 have qe2:mg "set"=none:=W.mg_none_of X G zset
 have yep:mg "zip"=none:=W.mg_none_of X G zzip
 have ye5:mg "all"=none:=W.mg_none_of X G zall
 have g_MC:∃t,mg "MOST_CELLS"=some (.int 64 t):=⟨_,W.mg_of X G aMC⟩
 have g_MH:∃t,mg "MOST_HARMS"=some (.int 3 t):=⟨_,W.mg_of X G aMH⟩
 have g_MU:∃t,mg "MOST_UNLIKE"=some (.int 3 t):=⟨_,W.mg_of X G aMU⟩
 have g_J:GTup K mg "JOININGS" [.str "and",.str "or"]:=ygz (W.mg_of X G aJ) lJ zl (.cons ⟨_,rfl⟩ (.cons ⟨_,rfl⟩ .nil))
 have gP:=W.mg_of X G aP
 have sp0:∀H,SqT K H qp0 [.str "cell",.str "bit"]:=ydk tp0 zl (.cons ⟨_,rfl⟩ (.cons ⟨_,rfl⟩ .nil))
 have sp1:∀H,SqT K H qp1 [.str "cell",.str "bit"]:=ydk tp1 zl (.cons ⟨_,rfl⟩ (.cons ⟨_,rfl⟩ .nil))
 have sp2:∀H,SqT K H qp2 [.str "cell",.str "bit"]:=ydk tp2 zl (.cons ⟨_,rfl⟩ (.cons ⟨_,rfl⟩ .nil))
 have sp3:∀H,SqT K H qp3 [.str "cell",.str "bit"]:=ydk tp3 zl (.cons ⟨_,rfl⟩ (.cons ⟨_,rfl⟩ .nil))
 have sp4:∀H,SqT K H qp4 [.str "cell",.str "cell",.str "bit"]:=ydk tp4 zl (.cons ⟨_,rfl⟩ (.cons ⟨_,rfl⟩ (.cons ⟨_,rfl⟩ .nil)))
 have sp5:∀H,SqT K H qp5 [.str "cell",.str "cell",.str "bit",.str "bit"]:=ydk tp5 zl (.cons ⟨_,rfl⟩ (.cons ⟨_,rfl⟩ (.cons ⟨_,rfl⟩ (.cons ⟨_,rfl⟩ .nil))))
 have sp6:∀H,SqT K H qp6 [.str "cell",.str "cell",.str "bit",.str "bit"]:=ydk tp6 zl (.cons ⟨_,rfl⟩ (.cons ⟨_,rfl⟩ (.cons ⟨_,rfl⟩ (.cons ⟨_,rfl⟩ .nil))))
 have sp7:∀H,SqT K H qp7 [.str "cell",.str "bit"]:=ydk tp7 zl (.cons ⟨_,rfl⟩ (.cons ⟨_,rfl⟩ .nil))
 have sp8:∀H,SqT K H qp8 [.str "cell",.str "cell"]:=ydk tp8 zl (.cons ⟨_,rfl⟩ (.cons ⟨_,rfl⟩ .nil))
 have sp9:∀H,SqT K H qp9 [.str "cell",.str "cell",.str "how"]:=ydk tp9 zl (.cons ⟨_,rfl⟩ (.cons ⟨_,rfl⟩ (.cons ⟨_,rfl⟩ .nil)))
 have TP:TabK K tP tabP:=⟨mP,_,_,_,lP,⟨rfl,rfl,rfl⟩,rfl,(.cons rfl ⟨_,rfl,sp0⟩ (.cons rfl ⟨_,rfl,sp1⟩ (.cons rfl ⟨_,rfl,sp2⟩ (.cons rfl ⟨_,rfl,sp3⟩ (.cons rfl ⟨_,rfl,sp4⟩ (.cons rfl ⟨_,rfl,sp5⟩ (.cons rfl ⟨_,rfl,sp6⟩ (.cons rfl ⟨_,rfl,sp7⟩ (.cons rfl ⟨_,rfl,sp8⟩ (.cons rfl ⟨_,rfl,sp9⟩ .nil))))))))))⟩
 have cm:CM K C0:=⟨⟨cp0,cd0_,co0,cs0⟩,cf0_0,cf0_1⟩
 have z_rev:mg "reversed"=none:=W.mg_none_of X G zrv
 have qg8:GTup K mg "ORDERS" [.str "up",.str "down",.str "any"]:=ygz (W.mg_of X G aO) lO zl (.cons ⟨_,rfl⟩ (.cons ⟨_,rfl⟩ (.cons ⟨_,rfl⟩ .nil)))
 have yfl:GTup K mg "LETTERS" [.str "r",.str "w"]:=ygz (W.mg_of X G aL) lL zl (.cons ⟨_,rfl⟩ (.cons ⟨_,rfl⟩ .nil))
 have qi8:GTup K mg "TAKEN" [.str "up",.str "down"]:=ygz (W.mg_of X G aK) lK zl (.cons ⟨_,rfl⟩ (.cons ⟨_,rfl⟩ .nil))
 have g_T:∃t,mg "MOST_IN_TEST"=some (.int 8 t):=⟨_,W.mg_of X G aT⟩
 have g_E:∃t,mg "MOST_IN_ELEMENT"=some (.int 6 t):=⟨_,W.mg_of X G aE⟩
 have FL:=qcu (st:=qhb) l60 c60 k60
 refine ⟨W.fnOf "law" "law" (ya2 qhb) (yat qhb) (qac qhb) .none kV60 dc60 pm60 an60 cd60 ct60,λs v=>.of_eq rfl,λbase _ _=>?_⟩
 have M0___init__:ycx K C0 "__init__" "Memory.__init__" yap ["self","size","harms","contents"]:=⟨fm0_0,_,⟨am0_0,im0_0,km0_0⟩,qcu (st:=yap) lm0_0 cm0_0 km0_0,Fun.binds (qcu (st:=yap) lm0_0 cm0_0 km0_0) λ_ _ _ _ _ _=>lenS λ_=>lenS λ_=>lenS λ_=>lenS λ_=>len0 rfl⟩
 have M0_look_at_address:ycx K C0 "look_at_address" "Memory.look_at_address" qal ["self","address"]:=⟨fm0_1,_,⟨am0_1,im0_1,km0_1⟩,qcu (st:=qal) lm0_1 cm0_1 km0_1,Fun.binds (qcu (st:=qal) lm0_1 cm0_1 km0_1) λ_ _ _ _ _ _=>lenS λ_=>lenS λ_=>len0 rfl⟩
 have M0_read:ycx K C0 "read" "Memory.read" qa0 ["self","address"]:=⟨fm0_2,_,⟨am0_2,im0_2,km0_2⟩,qcu (st:=qa0) lm0_2 cm0_2 km0_2,Fun.binds (qcu (st:=qa0) lm0_2 cm0_2 km0_2) λ_ _ _ _ _ _=>lenS λ_=>lenS λ_=>len0 rfl⟩
 have M0_write:ycx K C0 "write" "Memory.write" qav ["self","address","bit"]:=⟨fm0_3,_,⟨am0_3,im0_3,km0_3⟩,qcu (st:=qav) lm0_3 cm0_3 km0_3,Fun.binds (qcu (st:=qav) lm0_3 cm0_3 km0_3) λ_ _ _ _ _ _=>lenS λ_=>lenS λ_=>lenS λ_=>len0 rfl⟩
 have M0_size:ycx K C0 "size" "Memory.size" yaz ["self"]:=⟨fm0_4,_,⟨am0_4,im0_4,km0_4⟩,qcu (st:=yaz) lm0_4 cm0_4 km0_4,Fun.binds (qcu (st:=yaz) lm0_4 cm0_4 km0_4) λ_ _ _ _ _ _=>lenS λ_=>len0 rfl⟩
 have h0:=yit (P:=l.prog) (w:=w) (base:=base) B (p0.a1 X G)
 have h1:=yl9 h0 (p1.a1 X G)
 have h2:=qhq (P:=l.prog) (w:=w) (base:=base) B (p2.a2 X G)
 have h3:=qkk g_MC h0 (p3.a1 X G)
 have h4:=qj1 g_J h3 h1 h2 (p4.a2 X G)
 have h5:=yip (P:=l.prog) (w:=w) (base:=base) B gP TP (p5.a1 X G)
 have h6:=qi2 (P:=l.prog) (w:=w) (base:=base) B yep gP TP (p6.a1 X G)
 have h7:=yig B yep ye5 gP TP h4 (p7.a1 X G)
 have h8:=ykl B qe2 h5 h7 h6 (p8.a1 X G)
 have h9:=qe3 B qe2 g_MH g_MU h8 h6 (p9.a1 X G)
 have h10:=qiv B qe2 h9 h6 (p10.a1 X G)
 have h11:=qhx (P:=l.prog) (w:=w) (base:=base) (p11.a2 X G)
 have h12:=ok_put h11 (p12.a4 X G)
 have h13:=yk6 B h11 h12 (p13.a2 X G)
 have h14:=qd6 (P:=l.prog) (w:=w) (base:=base) (p14.a2 X G)
 have h15:=ye3 (P:=l.prog) (w:=w) (base:=base) (p15.a2 X G)
 have h16:=yhw h12 (p16.a3 X G)
 have h17:=yki B h14 h15 h16 (p17.a3 X G)
 have h18:=qj0 (P:=l.prog) (w:=w) (base:=base) (p18.a4 X G)
 have h19:=yja (P:=l.prog) (w:=w) (base:=base) (p19.a4 X G)
 have h20:=qe4 h12 (p20.a3 X G)
 have h21:=qg7 h18 h12 h19 h20 (p21.a4 X G)
 have h22:=qiu h14 h15 h21 (p22.a4 X G)
 have h23:=yjx g_MC h0 (p23.a1 X G)
 have h24:=yf4 B ye5 h1 (p24.a2 X G)
 have h25:=qef B h10 h23 h24 (p25.a3 X G)
 have h26:=qgg h1 (p26.a1 X G)
 have yen:=qkp B cm h0 M0_look_at_address
 have qjc:=qlu cm yen h17 M0_read
 have qg2:=yj5 cm yen h26 h22 M0_write
 have yis:=yk4 (P:=l.prog) (w:=w) (base:=base) B cm M0_size
 have hm_init:=qlm B cm h25 h13 M0___init__
 have qfj:=HasI.of (x:="Memory") (m:="Memory") (W.mg_of X G ca0) ⟨cm0_,am0_0,im0_0,ck0⟩ (λg h=>meth_un am0_0 h) hm_init
 have h27:=yj4 (P:=l.prog) (w:=w) (base:=base) B (p27.a1 X G)
 have h28:=qh8 (P:=l.prog) (w:=w) (base:=base) B (p28.a2 X G)
 have h29:=qj2 yfl h27 h2 h1 (p29.a1 X G)
 have h30:=qim qg8 g_E h27 h2 h28 (p30.a1 X G)
 have h31:=qd3 B h30 h29 (p31.a2 X G)
 have h32:=yf7 B g_T h28 h31 (p32.a1 X G)
 have h33:=qfs qi8 h2 (p33.a2 X G)
 have h34:=qhk B yep ye5 h33 (p34.a2 X G)
 have h35:=ql6 (P:=l.prog) (w:=w) (base:=base) B (p35.a2 X G)
 have h36:=ykj (P:=l.prog) (w:=w) (base:=base) (p36.a3 X G)
 have h37:=yj7 B z_rev h35 h36 (p37.a5 X G)
 have h38:=ok_aword B ye5 h34 (p38.a3 X G)
 have h39:=ok_lword h38 (p39.a3 X G)
 have h40:=yj6 h0 (p40.a2 X G)
 have h41:=qi9 cm qjc qg2 (p41.a2 X G)
 have h42:=ql4 B yep cm h32 h40 qfj h39 yis h41 h37 (p42.a7 X G)
 have h43:=ql2 (P:=l.prog) (w:=w) (base:=base) B (p43.a3 X G)
 have h44:=ok_tput (P:=l.prog) (w:=w) (base:=base) (p44.a4 X G)
 have h45:=qlp h44 (p45.a4 X G)
 have h46:=ok_look h44 B (p46.a3 X G)
 have h47:=ok_lstep B h45 h46 (p47.a4 X G)
 have h48:=yl6 B h44 (p48.a2 X G)
 have h49:=ok_laddr (P:=l.prog) (w:=w) (base:=base) B (p49.a2 X G)
 have h50:=ok_lharm (P:=l.prog) (w:=w) (base:=base) B (p50.a2 X G)
 have h51:=yle (P:=l.prog) (w:=w) (base:=base) B qe2 (p51.a1 X G)
 have h52:=ylt B h50 h51 (p52.a2 X G)
 have h53:=ok_test7 (P:=l.prog) (w:=w) (base:=base) B (p53.a2 X G)
 have h54:=ygd (P:=l.prog) (w:=w) (base:=base) B (p54.a2 X G)
 have h55:=ok_lbit (P:=l.prog) (w:=w) (base:=base) B (p55.a2 X G)
 have h56:=ok_lover B h55 h47 (p56.a5 X G)
 have h57:=ok_ldue B h48 h49 h56 (p57.a7 X G)
 have h58:=yke (P:=l.prog) (w:=w) (base:=base) B (p58.a3 X G)
 have h59:=yk9 B h43 h53 h54 h52 h58 h57 h42 (p59.a2 X G)
 exact ok_law B h59 FL
theorem walk{l:W.OpenLaw}{q:Program}{loose:List Str}{XP:(Str->Option Value)->Heap->Prop}{YP:World->Heap->Prop}{d:DefRec}{K:Params->W.Frag}(hn:l.most=some 63)(hdf:d.params.defaults=[])
  (hY:∀(w:World) (h:Heap),YP w h->(K w.params).In h)
  (F:∀(w:World) (mg:Str->Option Value) (fa:Addr) (h:Heap),(K w.params).In h->h.Ns mainGlobals mg->mg d.name=some (.ref fa)->
   ∃fd:FuncData,(∀(s:Shared) (u:Value),BindsTo s fd ⟨[u],[]⟩ [("_law_script",u)])/\∀base:Heap,(K w.params).In base->base.Ns mainGlobals mg->FnOk l.prog w (K w.params) mg base CX0 13 fa fd ["_law_script"] (yjf (K w.params))) :
  W.WalkO q loose XP YP l.row.toRowW d [] (λf vs=>PySem.call f vs):=
 L2.walk_of (n:=63) (k:=13) (x:="_law_script") (CX:=λ_=>CX0) (sp:=λw=>yjf (K w.params)) hn (by decide) hdf ⟨rfl,by decide,by decide,rfl⟩ hY F (λ_ _ a ns hl _ hS=>⟨a,ns,rfl,hS,hl,λ_=>rfl⟩) λ_ _ _ _ _ z=>z
end Mh
namespace PySem.W.Fast
def tw16645406170251390280:=0
def tw8290041980788476088:=0
def tw9289590024311711992:=0
def tw737851761133522969:=0
def tw7715648174146060084:=0
def tw14120306363820955805:=0
def tw17254869741152366616:=PySem.Challenge.pw_marchmend_k56_words_read
theorem te17254869741152366616:PySem.Challenge.pw_marchmend_k56_words_read=tw17254869741152366616:=rfl
def tw10474664048320162597:=0
def tw3722521063842932653:=0
def tw15645841087551577316:=0
def tw819270447659652458:=0
def tw4413442822916503769:=0
def tw1494165157816935363:=0
def tw17466581605944750572:=0
def tw14206583899067995156:=0
def tw10870750993376667832:=0
def tw6333475786233373045:=0
def tw13953813390768140113:=0
def tw11354327006569114549:=0
def tw14223684377987725273:=0
def tw14311237864782047829:=0
def tw14955834382371930980:=0
def tw16605626023125846288:=0
def tw10855123496937929138:=0
def tw1956133884675299208:=0
def tw2400491836870930930:=0
def tw411810970440743219:=0
def tw17815720817025285979:=0
def tw12007190863098625067:=0
def tw1859267245013189976:=0
def tw5874139252998809911:=0
def tw14522498298591712555:=0
def tw11209746590224628227:=0
def tw7128424550999799940:=0
def tw11992100149906618527:=0
def tw11335013856349446483:=0
def tw3152383548286660094:=0
def tw11832854800996134038:=0
def tw6716940763823355699:=0
def tw18025316872265628385:=0
def tw2759651088700604724:=0
def tw4888385620707131171:=0
def tw9247942893431207480:=0
def tw8688967466883912635:=0
def tw10830186106166482598:=0
def tw2618447252999156263:=0
def tw16002342417727502128:=0
def tw14170180010473582536:=0
def tw15803656031285738698:=0
def tw5141121898389723620:=0
def tw10244408136376800824:=0
def tw2506440538683618864:=0
def tw12131242058850539848:=0
def tw16561073073177641483:=0
def tw7391128375557799591:=0
def tw11615917618167892030:=0
def tw7601755037892041842:=0
def tw16492918560616813244:=0
def tw14367346590239271724:=0
def tw4069924985130804634:=0
def tw15098787022250759277:=0
def tw9946779587615103192:=0
def tw10776471460664191317:=0
def tw13640956531701735006:=0
def tw7355108281407522730:=0
def tw16967658662004100295:=0
def tw15599644483002985448:=0
def tw16092969279766752012:=0
def tw15056969353133104378:=0
def tw9172057600140252456:=0
def tw13969112117638525084:=0
def tw12668734648713774613:=0
def tw16587848780716019833:=0
def tw15757936218024139287:=0
def tw17098993439288413899:=0
def tw17385565580670199759:=0
def tw17469873354230062151:=0
def tw9585223771566470199:=0
def tw697083614881468661:=0
def tw3430447685476132427:=0
def tw8120844633468287932:=0
def tw4734303440298108294:=0
def tw4842605490490035131:=0
def tw10280698404461362737:=0
def tw988475895637190680:=0
def tw7537790742299440008:=0
def tw8585874897775268376:=0
def tw7688582989009831099:=0
def tw11527479701995077780:=0
def tw11311835230475584683:=0
def tw18044705520634837396:=0
def tw14932798931581161454:=0
def tw8519888809385584941:=0
def tw6545589059508285693:=0
def tw2369990527957094225:=0
def tw11236189707249389351:=0
def tw2951513534632499240:=0
def tw6072176436340012427:=0
def tw16983034942299972488:=0
def tw3206101373033298228:=0
def tw15724465570910697919:=0
def tw8446406305457596897:=0
def tw7668597013849248828:=0
def tw12444828145321373849:=0
def tw8764001389860029307:=0
def tw14210716903133961851:=0
def tw16087485769894214717:=0
def tw3357076102755596908:=0
def tw15564222615779221325:=0
def tw16832885518718405470:=0
def tw4498596314184513752:=0
def tw153143490920382604:=0
def tw457148130627157495:=0
def tw6284451076928258970:=0
def tw1141830768601520045:=0
def tw5314280767383587149:=0
def tw1652420816880205170:=0
def tw18201597500685037800:=0
def tw2385008638274788823:=0
def tw14099960119484881240:=0
def tw1393155594117455945:=0
def tw5207573955860699288:=0
def tw2297240258940949863:=0
def tw9734212037814214452:=0
def tw4890848484682585652:=0
def tw2067109263009743956:=0
def tw17971092010734421500:=0
def tw10505672239464934500:=0
def tw8085154124390330940:=0
end PySem.W.Fast
open PySem PySem.W PyProof.Rows
set_option maxRecDepth 100000 in
set_option maxHeartbeats 0 in
theorem PySem.Challenge.cw_marchmend_k56_words_read_holds : PySem.Challenge.rw_marchmend_k56_words_read.Holds := by
  w_on; o_law; k_head; (case hw=>w_witness2)
  k_fill
  refine Mh.walk (l:=PySem.Challenge.rw_marchmend_k56_words_read) rfl rfl (fun w h Y=>PySem.W.kIn_of Y) ?F
  case F=>
    intro w mg fa h KX G hmg
    refine' Mh.all_mk KX G hmg ?p0 ?p1 ?p2 ?p3 ?p4 ?p5 ?p6 ?p7 ?p8 ?p9 ?p10 ?p11 ?p12 ?p13 ?p14 ?p15 ?p16 ?p17 ?p18 ?p19 ?p20 ?p21 ?p22 ?p23 ?p24 ?p25 ?p26 ?p27 ?p28 ?p29 ?p30 ?p31 ?p32 ?p33 ?p34 ?p35 ?p36 ?p37 ?p38 ?p39 ?p40 ?p41 ?p42 ?p43 ?p44 ?p45 ?p46 ?p47 ?p48 ?p49 ?p50 ?p51 ?p52 ?p53 ?p54 ?p55 ?p56 ?p57 ?p58 ?p59 ?a60 ?l60 ?c60 ?k60 ?zz ?zset ?zzip ?zall ?aMC ?aMH ?aMU ?aJ ?lJ ?aP ?lP ?mP ?tp0 ?tp1 ?tp2 ?tp3 ?tp4 ?tp5 ?tp6 ?tp7 ?tp8 ?tp9 ?zrv ?aO ?lO ?aL ?lL ?aK ?lK ?aT ?aE ?ca0 ?cp0 ?cd0_ ?co0 ?cs0 ?cf0_0 ?cf0_1 ?cm0_ ?ck0 ?am0_0 ?lm0_0 ?cm0_0 ?im0_0 ?km0_0 ?am0_1 ?lm0_1 ?cm0_1 ?im0_1 ?km0_1 ?am0_2 ?lm0_2 ?cm0_2 ?im0_2 ?km0_2 ?am0_3 ?lm0_3 ?cm0_3 ?im0_3 ?km0_3 ?am0_4 ?lm0_4 ?cm0_4 ?im0_4 ?km0_4
    (case p0|p1|p2|p3|p4|p5|p6|p7|p8|p9|p10|p11|p12|p13|p14|p15|p16|p17|p18|p19|p20|p21|p22|p23|p24|p25|p26|p27|p28|p29|p30|p31|p32|p33|p34|p35|p36|p37|p38|p39|p40|p41|p42|p43|p44|p45|p46|p47|p48|p49|p50|p51|p52|p53|p54|p55|p56|p57|p58|p59=>exact ⟨_,_,_,_,_,_,_,_,_,_,by k_is,by k_is,by k_is,by k_is⟩)
    (case a60|l60|c60|k60=>k_is)
    (case zz=>intro x hx; unfold L2.qhe at hx; simp only [List.mem_cons,List.not_mem_nil,or_false] at hx; rcases hx with rfl | rfl | rfl | rfl | rfl | rfl | rfl | rfl | rfl | rfl | rfl | rfl | rfl | rfl | rfl | rfl <;> k_is)
    (case zset|zzip|zall|aMC|aMH|aMU|aJ|lJ|aP|lP=>k_is)
    (case mP=>rfl)
    (case tp0|tp1|tp2|tp3|tp4|tp5|tp6|tp7|tp8|tp9|zrv|aO|lO|aL|lL|aK|lK|aT|aE|ca0|cp0|cd0_|co0|cs0|cf0_0|cf0_1|cm0_|ck0|am0_0|lm0_0|cm0_0|im0_0|km0_0|am0_1|lm0_1|cm0_1|im0_1|km0_1|am0_2|lm0_2|cm0_2|im0_2|km0_2|am0_3|lm0_3|cm0_3|im0_3|km0_3|am0_4|lm0_4|cm0_4|im0_4|km0_4=>k_is)
#print axioms PySem.Challenge.cw_marchmend_k56_words_read_holds
