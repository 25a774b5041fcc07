import PyProof.Rows.All
import Wide.All
import OpenK.AllK
import Wide.FinOn
import Lean
import PyProof.EqAt
import PyProof.EqKinds
import PyProof.TupleCall
import PyProof.StrLawsTight
import PyProof.Rows.StrJoin2
import PyProof.Rows.StrSplitJoin
import KE.KTab
import PyProof.ZipIter
import PyProof.Rows.TupIter
import PyProof.Rows.SortWalk
import PyProof.Rows.SortStr
import PyProof.ConsumeWalk
import KE.KRevSl
import KE.KTryMore
import PyProof.NsDelKeeps
import PyProof.NeKinds
import KE.KIntText
import KE.KDictLaws
import PyProof.DictIter
import PyProof.DictWalks
import PyProof.DictItems
import KE.KSortTup
import KE.KDictList
import PyProof.SetKind
import PyProof.SetRoads
import PyProof.Rows.SetFrom
import PyProof.CollectWalk
import PyProof.CollectIter
import PyProof.Rows.SortShell
import PyProof.Rows.MinMaxN
import KE.KNestM
import KE.KLam
import KE.KMinKey
import PyProof.Rows.CallKwBuiltin
import PyProof.DictTruth
import PyProof.MeetsDictList
import KE.KRevIter
import KE.RegKTryMore
import PySem.Challenge.RW_marchmend_k36_no_orders_named
set_option Elab.async false
set_option linter.all false
set_option maxRecDepth 100000
set_option maxHeartbeats 8000000
open List (length_map getElem?_eq_getElem map_append length_append mem_cons size_toArray mem_singleton length_cons mem_map mem_cons_of_mem getElem?_map mem_of_getElem? lookup_cons mem_cons_self mem_append length_take take_add_one map_cons getD_eq_getElem?_getD getElem?_append_right length_drop getElem?_append_left take_length take_of_length_le length_nil mem_append_right append_nil not_mem_nil mem_range map_nil any_cons find?_cons nodup_cons replicate_succ getElem_mem map_map flatten_cons mem_flatMap flatMap_cons getElem?_set_ne length_set append_assoc forIn_cons getElem_map nodup_nil flatMap_append getElem?_of_mem mem_map_of_mem of_mem_zip all_cons nil_append map_drop forIn_nil length_zip)
open Nat (le_refl ne_of_lt zero_le le_trans lt_of_lt_of_le lt_irrefl ne_of_gt le_succ le_of_not_lt not_lt_zero lt_succ_of_lt le_of_lt)
open PySem.Heap (lt_size get?_push_of_some get?_push_size size_push get?_update_self get?_update_other)
open Array (length_toList getElem?_toList)
open Int (toNat_natCast emod_nonneg emod_lt_of_pos zero_add)
namespace L2
open PySem PySem.Spec PyProof.Rows
theorem zl{n:Nat}(h:Nat.ble n 99=true:=by rfl):n<=sizeLine:=le_trans (Nat.le_of_ble_eq_true h) (by decide)
abbrev Key:=Sum Int Str
def ykm:Key->Value->Bool
 |.inl k,v=>Value.isInt k v
 |.inr x,v=>Value.isStrOf x v
def keyH(w:World):Key->Int
 |.inl k=>hashInt k
 |.inr x=>hashStr w x
theorem qa7:∀{k:Key}{v:Value},ykm k v=true->(∃i t,k=Sum.inl i/\v=Value.int i t)\/(∃x t,k=Sum.inr x/\v=Value.str x t)
 |.inl i,v,h=>by
  obtain ⟨t,e⟩:=Value.isInt_shape (k:=i) (v:=v) h
  exact .inl ⟨i,t,rfl,e⟩
 |.inr x,v,h=>by
  obtain ⟨t,e⟩:=Value.isStrOf_shape (x:=x) (v:=v) h
  exact .inr ⟨x,t,rfl,e⟩
theorem qmf(i:Int)(t:Tok):ykm (.inl i) (.int i t)=true:=by simp[ykm,Value.isInt]
theorem ymm(x:Str)(t:Tok):ykm (.inr x) (.str x t)=true:=by simp[ykm,Value.isStrOf]
theorem key_ll(a b:Int):decide ((Sum.inl a:Key)=Sum.inl b)=(a == b):=by
 by_cases e:a=b
 ·subst e;simp
 ·have h:¬ (Sum.inl a:Key)=Sum.inl b:=λq=>e (Sum.inl.inj q)
  rw[decide_eq_false h]
  exact (beq_eq_false_iff_ne.mpr e).symm
theorem key_rr(a b:Str):decide ((Sum.inr a:Key)=Sum.inr b)=decide (a=b):=by
 by_cases e:a=b
 ·subst e;simp
 ·have h:¬ (Sum.inr a:Key)=Sum.inr b:=λq=>e (Sum.inr.inj q)
  rw[decide_eq_false h,decide_eq_false e]
theorem key_lr(a:Int)(b:Str):decide ((Sum.inl a:Key)=Sum.inr b)=false:=decide_eq_false (λq=>nomatch q)
theorem key_rl(a:Str)(b:Int):decide ((Sum.inr a:Key)=Sum.inl b)=false:=decide_eq_false (λq=>nomatch q)
def yat(prog:Program)(w:World):PySem.KeyKind prog w Key where
 is:=ykm
 hash:=keyH w
 inj:=λv a b ha hb=>by
  rcases qa7 ha with ⟨i,t,rfl,rfl⟩|⟨x,t,rfl,rfl⟩
  ·rcases qa7 hb with ⟨j,u,rfl,e⟩|⟨y,u,rfl,e⟩
   ·injection e with e1 _;rw[e1]
   ·exact nomatch e
  ·rcases qa7 hb with ⟨j,u,rfl,e⟩|⟨y,u,rfl,e⟩
   ·exact nomatch e
   ·injection e with e1 _;rw[e1]
 byValue:=λk v h=>by
  rcases qa7 h with ⟨i,t,rfl,rfl⟩|⟨x,t,rfl,rfl⟩<;>rfl
 pyHash:=λhv h=>by
  rcases qa7 hv with ⟨i,t,rfl,rfl⟩|⟨x,t,rfl,rfl⟩
  ·exact wpAny_pyHash_int h
  ·exact wpAny_pyHash_str h
 eqBool:=λhu hv h=>by
  rcases qa7 hu with ⟨i,t,rfl,rfl⟩|⟨x,t,rfl,rfl⟩
  ·rcases qa7 hv with ⟨j,u,rfl,rfl⟩|⟨y,u,rfl,rfl⟩
   ·rw[key_ll]at h;exact wpAny_eqBool_int h
   ·rw[key_lr]at h;exact SeqAt.EqAt.int_str i t y u _ _ _ _ h
  ·rcases qa7 hv with ⟨j,u,rfl,rfl⟩|⟨y,u,rfl,rfl⟩
   ·rw[key_rl]at h;exact SeqAt.EqAt.str_int x t j u _ _ _ _ h
   ·rw[key_rr]at h;exact wpAny_eqBool_str h
 «strs»:=λk x t v h=>by
  rcases qa7 h with ⟨i,u,rfl,e⟩|⟨y,u,rfl,e⟩
  ·exact nomatch e
  ·injection e with e1 _
   subst e1
   cases v<;>rfl
theorem yiw(prog:Program)(w:World)(i:Int)(t:Tok):(yat prog w).is (.inl i) (.int i t)=true:=qmf i t
theorem qi1(prog:Program)(w:World)(x:Str)(t:Tok):(yat prog w).is (.inr x) (.str x t)=true:=ymm x t
end L2
namespace L2
open PySem PySem.Spec PyProof.Rows
inductive V where
 |non|bl (b:Bool)|int (i:Int)|str (x:Str)|byt (b:Array UInt8)|flt (b:UInt64)|ref (a:Addr)|ty (n:String)
 deriving DecidableEq
def RelV:V->Value->Prop
 |.non,u=>u=Value.none
 |.bl b,u=>u=Value.bool b
 |.int i,u=>∃t,u=Value.int i t
 |.str x,u=>∃t,u=Value.str x t
 |.byt b,u=>∃t,u=Value.bytes b t
 |.flt b,u=>∃t,u=Value.float b t
 |.ref a,u=>u=Value.ref a
 |.ty n,u=>u=Value.type n
abbrev Vals:List V->List Value->Prop:=Paired RelV
theorem Vals.length{xs:List V}{us:List Value}(r:Vals xs us):xs.length=us.length:=Paired.length r
theorem Vals.get:∀{xs:List V}{us:List Value}{i:Nat}{x:V},Vals xs us->xs[i]?=some x->∃u,us[i]?=some u/\RelV x u
 |_,_,_,_,.nil,e=>by simp at e
 |_,_,0,_,.cons r _,e=>by simp at e;subst e;exact ⟨_,rfl,r⟩
 |_,_,i+1,x,.cons _ t,e=>by
  obtain ⟨u,h1,h2⟩:=Vals.get (i:=i) (x:=x) t (by simpa using e)
  exact ⟨u,by simpa using h1,h2⟩
theorem Vals.set{x:V}{u:Value}(r:RelV x u):∀{xs:List V}{us:List Value} (i:Nat),Vals xs us->Vals (xs.set i x) (us.set i u)
 |_,_,_,.nil=>.nil
 |_,_,0,.cons _ t=>.cons r t
 |_,_,i+1,.cons q t=>.cons q (Vals.set r i t)
theorem Vals.append:∀{xs ys:List V}{us ws:List Value},Vals xs us->Vals ys ws->Vals (xs++ys) (us++ws)
 |_,_,_,_,.nil,s=>s
 |_,_,_,_,.cons r t,s=>.cons r (Vals.append t s)
theorem Vals.take:∀{xs:List V}{us:List Value} (n:Nat),Vals xs us->Vals (xs.take n) (us.take n)
 |_,_,0,_=>.nil
 |_,_,_+1,.nil=>.nil
 |_,_,n+1,.cons r t=>.cons r (Vals.take n t)
theorem Vals.drop:∀{xs:List V}{us:List Value} (n:Nat),Vals xs us->Vals (xs.drop n) (us.drop n)
 |_,_,0,r=>r
 |_,_,_+1,.nil=>.nil
 |_,_,n+1,.cons _ t=>Vals.drop n t
def RelO:Option V->Option Value->Prop
 |some v,some u=>RelV v u
 |none,none=>True
 |_,_=>False
def KV{κ:Type}:List (κ×V)->List (κ×Value)->Prop:=Paired λ(p:κ×V) (q:κ×Value)=>p.1=q.1/\RelV p.2 q.2
def kV:Key->V
 |.inl i=>.int i
 |.inr x=>.str x
inductive HO where
 |lst (xs:List V)
 |tup (xs:List V)
 |dK (kvs:List (Key×V))|dT (kvs:List (List Key×V))
 |set (S:Int->Bool) (n:Nat)
 |ins (C dx:Addr) (fs:List (Str×V))
 |own (x:Addr)
 |xd (fs:List (Str×V))
 |met (f x:Addr)
 |rng (lo hi:Int)
 |frz (o:Obj) (u:HO)
 |tbl (ps:Array Value)
 |ext (φ:Heap->Prop)
abbrev Hp:=Addr->Option HO
def upd(H:Hp)(a:Addr)(o:HO):Hp:=λb=>if b=a then some o else H b
theorem yaa{H:Hp}{a:Addr}{o:HO}:upd H a o a=some o:=by unfold upd;rw[if_pos rfl]
theorem qag{H:Hp}{a b:Addr}{o:HO}(h:b≠a):upd H a o b=H b:=by unfold upd;rw[if_neg h]
theorem upd_upd{H:Hp}{a:Addr}{o u:HO}:upd (upd H a o) a u=upd H a u:=by
 funext b;unfold upd;split<;>rfl
theorem ne_of{H:Hp}{a b:Addr}{o u:HO}(h:H a=some o)(h':H b=some u)(d:o≠u):a≠b:=by
 intro e;subst e;rw[h]at h';exact d (Option.some.inj h')
theorem qae{H:Hp}{a b:Addr}{o:HO}(h:H a=some o)(h':H b=none):a≠b:=by
 intro e;subst e;rw[h]at h';cases h'
section
variable (P:Program) (w:World)
def yay(H:Hp)(h:Heap)(a:Addr):HO->Prop
 |.lst xs=>xs.length<=sizeLine/\∃(its:List Value) (n:Nat),Vals xs its/\h.get? a=some { cls:=.type "list",data:=.seq its.toArray n }
 |.tup xs=>xs.length<=sizeLine/\∃its:List Value,Vals xs its/\IsTup h a its.toArray
 |.dK kvs=>kvs.length<=sizeLine/\(a == sysModules)=false/\∃vs,KV kvs vs/\h.DictOf (yat P w) a vs
 |.dT kvs=>kvs.length<=sizeLine/\(a == sysModules)=false/\∃xs:List (List Key×Addr×Value),
   Paired (λ(p:List Key×V) (q:List Key×Addr×Value)=>p.1=q.1/\H q.2.1=some (.tup (p.1.map kV))/\RelV p.2 q.2.2) kvs xs/\
   ∃o es ep,h.get? a=some o/\o.ExactDict/\o.data=.dict es ep/\es.toList=xs.map (entryOfKey (tupleKind (yat P w)))/\(xs.map (·.1)).Nodup
 |.set S n=>h.SetOf (intKind P w) a S n
 |.ins C dx fs=>H dx=some (.own a)/\fs.length<=1000/\dx≠a/\h.get? a=some (W.instObj C dx)/\
   ∃mA,h.Ns1 dx mA/\(∀f,RelO (fs.lookup f) (mA f))/\PySem.Within mA (fs.map (·.1))
 |.own _=>∃o,h.get? a=some o
 |.xd fs=>∃mA,h.Ns1 a mA/\∀f,RelO (fs.lookup f) (mA f)
 |.rng lo hi=>∃t u v,h.get? a=some { cls:=.type "range",data:=.fields #[.int lo t,.int hi u,.int 1 v] }
 |.frz o u=>h.get? a=some o/\yay H h a u
 |.tbl ps=>h.get? a=some { cls:=.none,data:=.fields ps }
 |.met f x=>h.get? a=some (W.methodObj (.ref f) (.ref x))
 |.ext φ=>φ h/\(∃o,h.get? a=some o)/\∀h1 h2:Heap,φ h1->(∀o,h1.get? a=some o->h2.get? a=some o)->φ h2
def HOk(H:Hp)(h:Heap):Prop:=∀a o,H a=some o->yay P w H h a o
end
section
variable {P:Program}{w:World}{H H':Hp}{h h':Heap}{a:Addr}{o:HO}
theorem yay.lt(x:yay P w H h a o):a<h.objs.size:=by
 cases o with
 |lst xs=>obtain ⟨_,_,_,_,e⟩:=x;exact lt_size e
 |tup xs=>obtain ⟨_,_,_,p⟩:=x;exact p.lt
 |dK kvs=>obtain ⟨_,_,_,_,o,_,_,e,_⟩:=x;exact lt_size e
 |dT kvs=>obtain ⟨_,_,_,_,o,_,_,e,_⟩:=x;exact lt_size e
 |set S n=>obtain ⟨o,_,_,_,e,_⟩:=x;exact lt_size e
 |ins C dx fs=>obtain ⟨_,_,_,e,_⟩:=x;exact lt_size e
 |own y=>obtain ⟨_,e⟩:=x;exact lt_size e
 |xd fs=>obtain ⟨_,⟨_,_,_,e,_⟩,_⟩:=x;exact lt_size e
 |rng lo hi=>obtain ⟨_,_,_,e⟩:=x;exact lt_size e
 |frz ob u=>obtain ⟨e,_⟩:=x;exact lt_size e
 |tbl ps=>exact lt_size (show h.get? a=some _ from x)
 |met f y=>exact lt_size (show h.get? a=some _ from x)
 |ext φ=>obtain ⟨_,⟨_,e⟩,_⟩:=x;exact lt_size e
theorem Paired.mapP{α β:Type}{F G:α->β->Prop}:∀{l₁:List α}{l₂:List β},Paired F l₁ l₂->(∀a b,F a b->G a b)->Paired G l₁ l₂
 |_,_,.nil,_=>.nil
 |_,_,.cons r t,f=>.cons (f _ _ r) (Paired.mapP t f)
theorem yay.stay(x:yay P w H h a o)(k:∀b u,(b=a\/H b=some (.own a))->h.get? b=some u->h'.get? b=some u)
  (ho:∀b,H b=some (.own a)->H' b=some (.own a)) (ht:∀b xs,H b=some (.tup xs)->H' b=some (.tup xs)):yay P w H' h' a o:=by
 induction o with
 |lst xs=>obtain ⟨z,its,n,r,e⟩:=x;exact ⟨z,its,n,r,k _ _ (.inl rfl) e⟩
 |tup xs=>obtain ⟨z,its,r,ob,e,c⟩:=x;exact ⟨z,its,r,ob,k _ _ (.inl rfl) e,c⟩
 |dK kvs=>obtain ⟨z,y,vs,r,ob,es,ep,e,c⟩:=x;exact ⟨z,y,vs,r,ob,es,ep,k _ _ (.inl rfl) e,c⟩
 |dT kvs=>
  obtain ⟨z,y,xs,r,ob,es,ep,e,c⟩:=x
  exact ⟨z,y,xs,Paired.mapP r λp q z=>⟨z.1,ht _ _ z.2.1,z.2.2⟩,ob,es,ep,k _ _ (.inl rfl) e,c⟩
 |set S n=>obtain ⟨ob,es,ep,t,e,c⟩:=x;exact ⟨ob,es,ep,t,k _ _ (.inl rfl) e,c⟩
 |ins C dx fs=>
  obtain ⟨d,z,ne,e,mA,⟨od,es,ep,e2,c⟩,r⟩:=x
  exact ⟨ho _ d,z,ne,k _ _ (.inl rfl) e,mA,⟨od,es,ep,k _ _ (.inr d) e2,c⟩,r⟩
 |own y=>obtain ⟨ob,e⟩:=x;exact ⟨ob,k _ _ (.inl rfl) e⟩
 |xd fs=>obtain ⟨mA,⟨od,es,ep,e,c⟩,r⟩:=x;exact ⟨mA,⟨od,es,ep,k _ _ (.inl rfl) e,c⟩,r⟩
 |rng lo hi=>obtain ⟨t,u,v,e⟩:=x;exact ⟨t,u,v,k _ _ (.inl rfl) e⟩
 |frz ob u ih=>obtain ⟨e,q⟩:=x;exact ⟨k _ _ (.inl rfl) e,ih q⟩
 |tbl ps=>
  have e:h.get? a=some { cls:=.none,data:=.fields ps }:=x
  show h'.get? a=some { cls:=.none,data:=.fields ps }
  exact k a _ (.inl rfl) e
 |met f y=>
  have e:h.get? a=some (W.methodObj (.ref f) (.ref y)):=x
  show h'.get? a=some (W.methodObj (.ref f) (.ref y))
  exact k a _ (.inl rfl) e
 |ext φ=>obtain ⟨p,⟨o,e⟩,st⟩:=x;exact ⟨st _ _ p λo q=>k _ _ (.inl rfl) q,⟨o,k _ _ (.inl rfl) e⟩,st⟩
theorem HOk.lt(x:HOk P w H h)(e:H a=some o):a<h.objs.size:=(x a o e).lt
theorem HOk.fresh(x:HOk P w H h)(e:h.objs.size<=a):H a=none:=by
 cases q:H a with
 |none=>rfl
 |some u=>exact absurd (lt_of_lt_of_le (x.lt q) e) (lt_irrefl _)
theorem HOk.kept(x:HOk P w H h)(k:∀b u,h.get? b=some u->h'.get? b=some u):HOk P w H h':=λa o e=>
 (x a o e).stay (λb u _ q=>k b u q) (λ_ q=>q) λ_ _ q=>q
theorem HOk.laid(x:HOk P w H h)(k:∀b u,h.get? b=some u->h'.get? b=some u)(hp:h.objs.size<=a)(new:yay P w (upd H a o) h' a o):HOk P w (upd H a o) h':=λb u e=>by
 have hn:=x.fresh hp
 by_cases hb:b=a
 ·subst hb;rw[yaa]at e;cases e;exact new
 ·rw[qag hb]at e
  exact (x b u e).stay (λc v _ q=>k c v q) (λc q=>by rw[qag (qae q hn)];exact q) λc xs q=>by rw[qag (qae q hn)];exact q
end
def Rd(H:Hp)(a:Addr)(u:HO):Prop:=H a=some u\/∃o,H a=some (.frz o u)
theorem Rd.ok{P:Program}{w:World}{H:Hp}{h:Heap}{a:Addr}{u:HO}(r:Rd H a u)(x:HOk P w H h):yay P w H h a u:=by
 rcases r with r|⟨o,r⟩
 ·exact x a u r
 ·obtain ⟨_,q⟩:=x a _ r
  exact q
def Mut:Option HO->Prop
 |some (.lst _)=>True
 |some (.dK _)=>True
 |some (.dT _)=>True
 |some (.set _ _)=>True
 |some (.ins _ _ _)=>True
 |some (.ext _)=>True
 |_=>False
section
variable {P:Program}{w:World}{H:Hp}{h h':Heap}{x e:Addr}{o':HO}
theorem HOk.write(ok:HOk P w H h)(mu:Mut (H x))(he:e=x\/H e=some (.own x))(k:∀b u,b≠e->h.get? b=some u->h'.get? b=some u)(heo:∃u,h'.get? e=some u)
  (new:yay P w (upd H x o') h' x o'):HOk P w (upd H x o') h':=λb u q=>by
 have nown:∀c y,H c=some (.own y)->c≠x:=λc y r z=>by subst z;rw[r]at mu;exact mu
 have ntup:∀c xs,H c=some (.tup xs)->c≠x:=λc xs r z=>by subst z;rw[r]at mu;exact mu
 by_cases hb:b=x
 ·subst hb;rw[yaa]at q;cases q;exact new
 ·rw[qag hb]at q
  by_cases hbe:b=e
  ·have q':H b=some (.own x):=by
    rcases he with z|z
    ·exact absurd (hbe.trans z) hb
    ·rw[hbe];exact z
   rw[q]at q';cases q'
   obtain ⟨v,hv⟩:=heo
   exact ⟨v,by rw[hbe];exact hv⟩
  ·refine (ok b u q).stay (λc v hc r=>k c v ?_ r) (λc r=>by rw[qag (nown c b r)];exact r) λc xs r=>by rw[qag (ntup c xs r)];exact r
   rcases hc with rfl|hc
   ·exact hbe
   ·rintro rfl
    rcases he with z|z
    ·exact nown c b hc z
    ·rw[hc]at z;cases z;exact hb rfl
end
structure Un(fs ex:List Addr)(H H':Hp)(h h':Heap):Prop where
 keep:∀b o,h.get? b=some o->H b=none->b∉fs->b∉ex->h'.get? b=some o
 slot:∀b o,h.get? b=some o->H b=none->b∈fs->b∉ex->∃sl,h'.get? b=some { o with slots:=sl }
 free:∀b o,h.get? b=some o->H b=none->b∉ex->H' b=none
 there:∀b o,h.get? b=some o->b∉ex->∃o',h'.get? b=some o'
 tups:∀b xs,H b=some (.tup xs)->H' b=some (.tup xs)
 frzs:∀b o u,H b=some (.frz o u)->H' b=some (.frz o u)
 tbls:∀b ps,H b=some (.tbl ps)->∃more,H' b=some (.tbl (ps++more))
section
variable {fs fs' ex ex':List Addr}{H H1 H2:Hp}{h h1 h2 h':Heap}{a x e:Addr}{o:HO}
theorem Un.any(u:Un fs ex H H1 h h1){b:Addr}{ob:Obj}(q:h.get? b=some ob)(n:H b=none)(hx:b∉ex):∃sl,h1.get? b=some { ob with slots:=sl }:=by
 by_cases hb:b∈fs
 ·exact u.slot b ob q n hb hx
 ·exact ⟨ob.slots,u.keep b ob q n hb hx⟩
theorem Un.kept(k:∀b u,h.get? b=some u->h'.get? b=some u):Un fs ex H H h h':=
 ⟨λb ob q _ _ _=>k b ob q,λb ob q _ _ _=>⟨ob.slots,k b ob q⟩,λ_ _ _ n _=>n,λb ob q _=>⟨ob,k b ob q⟩,λ_ _ q=>q,λ_ _ _ q=>q,λ_ ps q=>⟨#[],by rw[q];simp⟩⟩
theorem Un.refl:Un fs ex H H h h:=Un.kept λ_ _ q=>q
theorem Un.laid(k:∀b u,h.get? b=some u->h'.get? b=some u)(hp:h.objs.size<=a)(hn:H a=none):Un fs ex H (upd H a o) h h' where
 keep:=λb u q _ _ _=>k b u q
 slot:=λb u q _ _ _=>⟨u.slots,k b u q⟩
 free:=λb u q n _=>by rw[qag (ne_of_lt (lt_of_lt_of_le (lt_size q) hp))];exact n
 there:=λb u q _=>⟨u,k b u q⟩
 tups:=λb xs q=>by rw[qag (qae q hn)];exact q
 frzs:=λb u xs q=>by rw[qag (qae q hn)];exact q
 tbls:=λb ps q=>⟨#[],by rw[qag (qae q hn),q];simp⟩
theorem Un.write(mu:Mut (H x))(he:e=x\/H e=some (.own x))(k:∀b u,b≠e->h.get? b=some u->h'.get? b=some u)(heo:∃u,h'.get? e=some u):Un fs ex H (upd H x o) h h':=by
 have hx:∀b,H b=none->b≠x:=λb n z=>by subst z;rw[n]at mu;exact mu
 have hb:∀b,H b=none->b≠e:=λb n z=>by
  subst z
  rcases he with r|r
  ·exact hx b n r
  ·rw[n]at r;cases r
 have hm:∀b u,H b=some u->¬ Mut (some u)->b≠x:=λb u q nm z=>by subst z;rw[q]at mu;exact nm mu
 refine ⟨λb u q n _ _=>k b u (hb b n) q,λb u q n _ _=>⟨u.slots,k b u (hb b n) q⟩,λb u q n _=>by rw[qag (hx b n)];exact n,λb u q _=>?_,
  λb xs q=>by rw[qag (hm b _ q λz=>z)];exact q,λb u xs q=>by rw[qag (hm b _ q λz=>z)];exact q,λb ps q=>⟨#[],by rw[qag (hm b _ q λz=>z),q];simp⟩⟩
 by_cases hbe:b=e
 ·subst hbe;exact heo
 ·exact ⟨u,k b u hbe q⟩
end
def trk(h:Heap)(H:Hp):List Addr:=(List.range h.objs.size).filter λa=>(H a).isSome
def hidT(h:Heap)(H:Hp):Heap:=W.hideAll h (trk h H)
theorem qk6(h:Heap)(H:Hp):(hidT h H).objs.size=h.objs.size:=W.hideAll_size _ _
theorem hidT_get{h:Heap}{H:Hp}{b:Addr}{o:Obj}(e:h.get? b=some o)(n:H b=none):(hidT h H).get? b=some o:=
 W.hideAll_get _ e λhm=>by
  have q:(H b).isSome=true:=(List.mem_filter.mp hm).2
  rw[n]at q;simp at q
theorem of_hidT{h:Heap}{H:Hp}{b:Addr}{o:Obj}(e:(hidT h H).get? b=some o):h.get? b=some o/\H b=none:=by
 have e':h.get? b=some o:=W.of_hideAll (trk h H) e
 refine ⟨e',?_⟩
 cases q:H b with
 |none=>rfl
 |some x=>
  have hm:b∈trk h H:=List.mem_filter.mpr ⟨mem_range.mpr (lt_size e'),by simp[q]⟩
  have z:(hidT h H).get? b=none:=W.hideAll_none (trk h H) hm
  rw[z]at e;cases e
structure Mod(K:W.Frag)(mg:Str->Option Value)(base:Heap):Prop where
 kin:K.In base
 glob:base.Ns mainGlobals mg
 blt:∃mb,base.Ns builtinsNs mb/\∀x:Str,x≠"__name__"->mb x=bootBuiltins x
 nolimit:base.NoLimit
structure Cx where
 prog:Program
 w:World
 K:W.Frag
 mg:Str->Option Value
 base:Heap
 A:Around
 N:List Str
 s₀:Shared
 H₀:Hp
 env:Env
 outer:List Env
 stack:List Env
 ex:List Addr
 fn:Str->Bool
 calm:Bool
 pn:List (Addr×Obj)
 xe:Value->Shared->Prop
def frs(l:List Env):List Addr:=l.filterMap (·.frame)
abbrev Cx.fs(X:Cx):List Addr:=frs X.outer
def Vis(sc:Scope)(x:Str):Prop:=sc.names.lookup x=some .local\/sc.names.lookup x=some .cell\/sc.names.lookup x=some .free
def Loc(sc:Scope)(x:Str):Prop:=sc.names.lookup x=some .local\/sc.names.lookup x=some .cell
def Look(env:Env)(h:Heap)(m:Str->Option Value)(x:Str)(u:Value):Prop:=
 (env.kindOf x=some .local/\m x=some u)\/((env.kindOf x=some .cell\/env.kindOf x=some .free)/\∃c,env.cells.lookup x=some c/\h.IsCell c (some u))
structure Cx.Ok(X:Cx):Prop where
 mod:Mod X.K X.mg X.base
 kind:X.env.scope.kind=.function
 glob:X.env.globals=mainGlobals
 blt:X.env.builtins=builtinsNs
 above:X.s₀.heap.objs.size<=X.env.locals
 inj:∀x y c,X.env.cells.lookup x=some c->X.env.cells.lookup y=some c->x=y
 has:∀x,(X.env.kindOf x=some .cell\/X.env.kindOf x=some .free)->∃c,X.env.cells.lookup x=some c
 cab:∀x c,X.fn x=true->X.env.cells.lookup x=some c->X.s₀.heap.objs.size<=c
 hd:X.calm=true->X.A.handled=none
 frames:X.A.frames=some X.stack
 stk:X.stack=X.outer\/(X.stack=X.env::X.outer/\X.env.frame=some X.env.locals)
 exf:∀b∈X.ex,b≠X.env.locals/\∀x c,X.env.cells.lookup x=some c->c≠b
 bs:∀b o,X.base.get? b=some o->X.s₀.heap.get? b=some o/\X.H₀ b=none
 bsz:X.base.objs.size<=X.s₀.heap.objs.size
 noex:∀b o,X.base.get? b=some o->b∉X.ex
 exfs:∀b∈X.ex,b∉X.fs
 funs:X.s₀.heap.FunFrames X.base X.outer
 frf:∀b∈X.fs,X.H₀ b=none
structure Inv(X:Cx)(pins:List (Addr×Obj))(σ:List (Option V))(H:Hp)(s:Shared):Prop where
 ok:X.Ok
 os:s.os=X.s₀.os
 bare:AllBare s.gens
 base:Un X.fs X.ex X.H₀ H X.s₀.heap s.heap
 loc:∃m,s.heap.Ns X.env.locals m/\∀(i:Nat) (x:Str) (v:V),X.N[i]?=some x->σ[i]?=some (some v)->Vis X.env.scope x->∃u,RelV v u/\Look X.env s.heap m x u
 cell:∀x c,X.env.cells.lookup x=some c->∃v,s.heap.IsCell c v
 free:H X.env.locals=none
 freeC:∀x c,X.env.cells.lookup x=some c->H c=none
 pin:∀p∈X.pn++pins,s.heap.get? p.1=some p.2/\H p.1=none/\p.1≠X.env.locals/\p.1∉X.fs/\∀v,p.2.data≠.cell v
 hok:HOk X.prog X.w H s.heap
 len:σ.length=X.N.length
section
variable {X:Cx}{pins:List (Addr×Obj)}{σ:List (Option V)}{H H':Hp}{s:Shared}{h':Heap}
theorem Cx.Ok.nofr(ok:X.Ok){b:Addr}{o:Obj}(e:X.base.get? b=some o):b∉X.fs:=λhb=>by
 have:=(ok.funs.mem hb).1
 rw[e]at this;cases this
theorem Inv.bs(I:Inv X pins σ H s):∀b o,X.base.get? b=some o->s.heap.get? b=some o/\H b=none:=λb o e=>
 ⟨I.base.keep b o (I.ok.bs b o e).1 (I.ok.bs b o e).2 (I.ok.nofr e) (I.ok.noex b o e),I.base.free b o (I.ok.bs b o e).1 (I.ok.bs b o e).2 (I.ok.noex b o e)⟩
theorem Inv.bk(I:Inv X pins σ H s):∀b o,X.base.get? b=some o->s.heap.get? b=some o:=λb o e=>(I.bs b o e).1
theorem Inv.mod(I:Inv X pins σ H s):Mod X.K X.mg X.base:=I.ok.mod
theorem Inv.kIn(I:Inv X pins σ H s):X.K.In s.heap:=I.ok.mod.kin.keeps I.bk
theorem Inv.lt(I:Inv X pins σ H s):X.env.locals<s.heap.objs.size:=let ⟨_,hn,_⟩:=I.loc;hn.lt
theorem Inv.sz(I:Inv X pins σ H s):X.s₀.heap.objs.size<=s.heap.objs.size:=le_trans I.ok.above (le_of_lt I.lt)
theorem Inv.nofs(I:Inv X pins σ H s){a:Addr}(h:s.heap.objs.size<=a):a∉X.fs:=λhb=>by
 obtain ⟨_,o,ho,_⟩:=I.ok.funs.mem hb
 exact absurd (lt_of_lt_of_le (lt_size ho) (le_trans I.sz h)) (lt_irrefl _)
theorem Inv.cne(I:Inv X pins σ H s):∀x c,X.env.cells.lookup x=some c->c≠X.env.locals:=λx c e z=>by
 obtain ⟨v,o,ho,hd⟩:=I.cell x c e
 obtain ⟨m,⟨o',es,ep,ho',hd',_⟩,_⟩:=I.loc
 rw[z,ho']at ho;cases ho;rw[hd']at hd;cases hd
theorem Inv.funs(I:Inv X pins σ H s):s.heap.FunFrames X.base X.outer:=by
 have all:∀(l:List Env),(∀b∈frs l,b∈X.fs)->X.s₀.heap.FunFrames X.base l->s.heap.FunFrames X.base l:=by
  intro l
  induction l with
  |nil=>intro _ _;trivial
  |cons env r ih=>
   intro hs hl
   obtain ⟨hk,⟨L,o,hf,hn,ho,hd⟩,hr⟩:=hl
   have hL:L∈X.fs:=hs L (by unfold frs;rw[List.filterMap_cons,hf];exact mem_cons_self)
   obtain ⟨sl,e⟩:=I.base.slot L o ho (I.ok.frf L hL) hL λz=>I.ok.exfs L z hL
   exact ⟨hk,⟨L,_,hf,hn,e,hd⟩,ih (λb hb=>hs b (by unfold frs;rw[List.filterMap_cons,hf];exact mem_cons_of_mem _ hb)) hr⟩
 exact all X.outer (λ_ hb=>hb) I.ok.funs
theorem Inv.stack(I:Inv X pins σ H s):s.heap.FunFrames X.base X.stack:=by
 rcases I.ok.stk with e|⟨e,hf⟩
 ·rw[e];exact I.funs
 ·rw[e]
  obtain ⟨m,hn,_⟩:=I.loc
  refine .cons (by rw[I.ok.kind];decide) hf hn ?_ I.funs
  exact Heap.get?_none_of_le (le_trans I.ok.bsz I.ok.above)
theorem Inv.stkSub(I:Inv X pins σ H s):∀b∈frs X.stack,b∈X.env.locals::X.fs:=λb hb=>by
 rcases I.ok.stk with e|⟨e,hf⟩
 ·rw[e]at hb;exact mem_cons_of_mem _ hb
 ·rw[e]at hb
  unfold frs at hb
  rw[List.filterMap_cons,hf]at hb
  exact hb
theorem Inv.stkFree(I:Inv X pins σ H s):∀b∈frs X.stack,H b=none:=λb hb=>by
 rcases mem_cons.mp (I.stkSub b hb) with e|hb
 ·rw[e];exact I.free
 ·obtain ⟨_,o,ho,_⟩:=I.ok.funs.mem hb
  exact I.base.free b o ho (I.ok.frf b hb) λz=>I.ok.exfs b z hb
theorem Inv.step{g':Array GenState}{t':Nat}{d':Drawn}{ch:List Addr}(I:Inv X pins σ H s)
  (hch:∀b∈ch,(b∈X.ex\/X.s₀.heap.objs.size<=b)/\b≠X.env.locals/\(∀x c,X.env.cells.lookup x=some c->c≠b)/\∀p∈X.pn++pins,p.1≠b)
  (keep:∀b o,b≠X.env.locals->b∉X.fs->b∉ch->s.heap.get? b=some o->H b=none->h'.get? b=some o)
  (slot:∀b o,b≠X.env.locals->b∈X.fs->b∉ch->s.heap.get? b=some o->H b=none->∃sl,h'.get? b=some { o with slots:=sl }) (free:∀b o,b∉ch->s.heap.get? b=some o->H b=none->H' b=none)
  (there:∀b o,b∉ch->s.heap.get? b=some o->∃o',h'.get? b=some o')
  (tups:∀b xs,H b=some (.tup xs)->H' b=some (.tup xs)) (frzs:∀b o u,H b=some (.frz o u)->H' b=some (.frz o u)) (tbls:∀b ps,H b=some (.tbl ps)->∃more,H' b=some (.tbl (ps++more)))
  (ns:∀m,s.heap.Ns X.env.locals m->h'.Ns X.env.locals m) (hok:HOk X.prog X.w H' h') (hg:AllBare g') :
  Inv X pins σ H' { s with heap:=h',gens:=g',drawn:=d',toks:=t' }:=by
 have neL:∀b o,X.s₀.heap.get? b=some o->b≠X.env.locals:=λb o e=>ne_of_lt (lt_of_lt_of_le (lt_size e) I.ok.above)
 have neC:∀b o,X.s₀.heap.get? b=some o->b∉X.ex->b∉ch:=λb o e hx hb=>by
  rcases (hch b hb).1 with z|z
  ·exact hx z
  ·exact absurd (lt_of_lt_of_le (lt_size e) z) (lt_irrefl _)
 have cellK:∀x c,X.env.cells.lookup x=some c->∀v,s.heap.IsCell c v->h'.IsCell c v:=λx c e v ⟨o,ho,hd⟩=>by
  have nch:c∉ch:=λz=>(hch c z).2.2.1 x c e rfl
  by_cases hc:c∈X.fs
  ·obtain ⟨sl,q⟩:=slot c o (I.cne x c e) hc nch ho (I.freeC x c e)
   exact ⟨_,q,hd⟩
  ·exact ⟨o,keep c o (I.cne x c e) hc nch ho (I.freeC x c e),hd⟩
 refine ⟨I.ok,I.os,hg,⟨λb o e n hb hx=>?_,λb o e n hb hx=>?_,λb o e n hx=>?_,λb o e hx=>?_,λb xs e=>tups b xs (I.base.tups b xs e),λb o xs e=>frzs b o xs (I.base.frzs b o xs e),λb ps e=>?_⟩,?_,λx c e=>?_,?_,λx c e=>?_,λp hp=>?_,hok,I.len⟩
 ·exact keep b o (neL b o e) hb (neC b o e hx) (I.base.keep b o e n hb hx) (I.base.free b o e n hx)
 ·obtain ⟨sl,e1⟩:=I.base.slot b o e n hb hx
  obtain ⟨sl',e2⟩:=slot b _ (neL b o e) hb (neC b o e hx) e1 (I.base.free b o e n hx)
  exact ⟨sl',e2⟩
 ·obtain ⟨o',e1⟩:=I.base.there b o e hx
  exact free b o' (neC b o e hx) e1 (I.base.free b o e n hx)
 ·obtain ⟨o',e1⟩:=I.base.there b o e hx
  exact there b o' (neC b o e hx) e1
 ·obtain ⟨m1,e1⟩:=I.base.tbls b ps e
  obtain ⟨m2,e2⟩:=tbls b _ e1
  exact ⟨m1++m2,by rw[e2,Array.append_assoc]⟩
 ·obtain ⟨m,hn,hl⟩:=I.loc
  refine ⟨m,ns m hn,λi x v e1 e2 e3=>?_⟩
  obtain ⟨u,r,l⟩:=hl i x v e1 e2 e3
  refine ⟨u,r,?_⟩
  rcases l with l|⟨k,c,e,z⟩
  ·exact .inl l
  ·exact .inr ⟨k,c,e,cellK x c e _ z⟩
 ·obtain ⟨v,z⟩:=I.cell x c e
  exact ⟨v,cellK x c e v z⟩
 ·obtain ⟨m,⟨o,_,_,ho,_⟩,_⟩:=I.loc
  exact free _ o (λz=>(hch _ z).2.1 rfl) ho I.free
 ·obtain ⟨v,o,ho,hd⟩:=I.cell x c e
  exact free c o (λz=>(hch c z).2.2.1 x c e rfl) ho (I.freeC x c e)
 ·obtain ⟨e,n,ne,nf,d⟩:=I.pin p hp
  have nch:p.1∉ch:=λz=>(hch p.1 z).2.2.2 p hp rfl
  exact ⟨keep p.1 p.2 ne nf nch e n,free p.1 p.2 nch e n,ne,nf,d⟩
theorem Inv.un{t':Nat}(I:Inv X pins σ H s)(u:Un X.fs [] H H' s.heap h')(hok:HOk X.prog X.w H' h'):Inv X pins σ H' { s with heap:=h',toks:=t' }:=by
 obtain ⟨m,⟨o,es,ep,ho,r⟩,_⟩:=id I.loc
 obtain ⟨sl,hL⟩:=u.any ho I.free (by simp)
 exact I.step (g':=s.gens) (d':=s.drawn) (ch:=[]) (λ_ z=>nomatch z) (λb o _ hb _ e n=>u.keep b o e n hb (by simp)) (λb o _ hb _ e n=>u.slot b o e n hb (by simp)) (λb o _ e n=>u.free b o e n (by simp)) (λb o _ e=>u.there b o e (by simp)) u.tups u.frzs u.tbls (λm' hm=>by
  obtain ⟨o',es',ep',ho',r'⟩:=hm
  rw[ho]at ho';cases ho'
  exact ⟨_,es',ep',hL,r'⟩) hok I.bare
theorem Inv.call{g':Array GenState}{t':Nat}{d':Drawn}{ch:List Addr}(I:Inv X pins σ H s)(u:Un (frs X.stack) ch H H' s.heap h')(hok:HOk X.prog X.w H' h')(hg:AllBare g')
  (hch:∀b∈ch,(b∈X.ex\/X.s₀.heap.objs.size<=b)/\b≠X.env.locals/\(∀x c,X.env.cells.lookup x=some c->c≠b)/\∀p∈X.pn++pins,p.1≠b) :
  Inv X pins σ H' { s with heap:=h',gens:=g',drawn:=d',toks:=t' }:=by
 obtain ⟨m,⟨o,es,ep,ho,r⟩,_⟩:=id I.loc
 obtain ⟨sl,hL⟩:=u.any ho I.free λz=>(hch _ z).2.1 rfl
 exact I.step (ch:=ch) hch (λb o hL hb hc e n=>u.keep b o e n (λz=>(mem_cons.mp (I.stkSub b z)).elim hL hb) hc) (λb o _ _ hc e n=>u.any e n hc) (λb o hc e n=>u.free b o e n hc) (λb o hc e=>u.there b o e hc) u.tups u.frzs u.tbls (λm' hm=>by
  obtain ⟨o',es',ep',ho',r'⟩:=hm
  rw[ho]at ho';cases ho'
  exact ⟨_,es',ep',hL,r'⟩) hok hg
theorem Inv.turned{t':Nat}{it:Addr}(I:Inv X pins σ H s)(k:∀b o,b≠it->s.heap.get? b=some o->h'.get? b=some o)(hn:H it=none)(hL:it≠X.env.locals)
  (h1:it∈X.ex\/X.s₀.heap.objs.size<=it) (h2:∀x c,X.env.cells.lookup x=some c->c≠it) (h3:∀p∈X.pn++pins,p.1≠it):Inv X pins σ H { s with heap:=h',toks:=t' }:=by
 have nit:∀b u,H b=some u->b≠it:=λb u e z=>by rw[z,hn]at e;cases e
 refine I.step (g':=s.gens) (d':=s.drawn) (ch:=[it]) (λb hb=>?_) (λb o _ _ hc e _=>k b o (λz=>hc (by simp[z])) e) (λb o _ _ hc e _=>⟨o.slots,k b o (λz=>hc (by simp[z])) e⟩) (λ_ _ _ _ n=>n)
  (λb o hc e=>⟨o,k b o (λz=>hc (by simp[z])) e⟩) (λ_ _ e=>e) (λ_ _ _ e=>e) (λb ps e=>⟨#[],by rw[e];simp⟩) (λm hm=>?_) (λb u e=>?_) I.bare
 ·have e:b=it:=by simpa using hb
  subst e
  exact ⟨h1,hL,h2,h3⟩
 ·obtain ⟨o,es,ep,ho,r⟩:=hm
  exact ⟨o,es,ep,k _ o (Ne.symm hL) ho,r⟩
 ·refine (I.hok b u e).stay (λc v hc q=>k c v ?_ q) (λ_ q=>q) λ_ _ q=>q
  rcases hc with z|z
  ·rw[z];exact nit b u e
  ·exact nit c _ z
theorem Inv.tok(I:Inv X pins σ H s)(t:Nat):Inv X pins σ H { s with toks:=t }:=I.un (h':=s.heap) (t':=t) Un.refl I.hok
theorem Inv.kept{t':Nat}(I:Inv X pins σ H s)(k:∀b u,s.heap.get? b=some u->h'.get? b=some u):Inv X pins σ H { s with heap:=h',toks:=t' }:=I.un (Un.kept k) (I.hok.kept k)
theorem Inv.laid{a:Addr}{o:HO}{t':Nat}(I:Inv X pins σ H s)(k:∀b u,s.heap.get? b=some u->h'.get? b=some u)(hp:s.heap.objs.size<=a)(new:yay X.prog X.w (upd H a o) h' a o) :
  Inv X pins σ (upd H a o) { s with heap:=h',toks:=t' }:=I.un (Un.laid k hp (I.hok.fresh hp)) (I.hok.laid k hp new)
theorem Inv.write{x e:Addr}{o:HO}{t':Nat}(I:Inv X pins σ H s)(mu:Mut (H x))(he:e=x\/H e=some (.own x))(k:∀b u,b≠e->s.heap.get? b=some u->h'.get? b=some u)(heo:∃u,h'.get? e=some u)
  (new:yay X.prog X.w (upd H x o) h' x o):Inv X pins σ (upd H x o) { s with heap:=h',toks:=t' }:=I.un (Un.write mu he k heo) (I.hok.write mu he k heo new)
theorem Inv.weak{σ':List (Option V)}(I:Inv X pins σ H s)(hl:σ'.length=σ.length)(w:∀(i:Nat) v,σ'[i]?=some (some v)->σ[i]?=some (some v)):Inv X pins σ' H s:=
 ⟨I.ok,I.os,I.bare,I.base,let ⟨m,hn,hl'⟩:=I.loc;⟨m,hn,λi x v e1 e2 e3=>hl' i x v e1 (w i v e2) e3⟩,I.cell,I.free,I.freeC,I.pin,I.hok,hl.trans I.len⟩
theorem Inv.pins_of{pins':List (Addr×Obj)}(I:Inv X pins σ H s)(h:∀p∈pins',s.heap.get? p.1=some p.2/\H p.1=none/\p.1≠X.env.locals/\p.1∉X.fs/\∀v,p.2.data≠.cell v):Inv X pins' σ H s:=
 ⟨I.ok,I.os,I.bare,I.base,I.loc,I.cell,I.free,I.freeC,λp hp=>(mem_append.mp hp).elim (λz=>I.pin p (List.mem_append_left _ z)) (h p),I.hok,I.len⟩
theorem qg3{N:List Str}(hN:N.Nodup){i j:Nat}{x:Str}(a:N[i]?=some x)(b:N[j]?=some x):i=j:=by
 obtain ⟨h1,e1⟩:=List.getElem?_eq_some_iff.mp a
 obtain ⟨h2,e2⟩:=List.getElem?_eq_some_iff.mp b
 exact (List.getElem_inj hN).mp (e1.trans e2.symm)
theorem yh5{M:Model}{A:Around}{E:Value->Shared->Prop}{i:Nat}{x:Str}{v:V}{u:Value}{Q:Unit->Shared->Prop}(I:Inv X pins σ H s)(hN:X.N.Nodup)(hi:X.N[i]?=some x)(hx:Loc X.env.scope x)(r:RelV v u)
  (h:∀s',Inv X pins (σ.set i (some v)) H s'->(∃a,Heap.SameBut a s.heap s'.heap/\(a=X.env.locals\/X.env.cells.lookup x=some a))->Q () s') (hf:X.fn x=true\/X.env.scope.names.lookup x=some .local:=by first|exact .inl rfl|exact .inr rfl|assumption):wpAny M A (storeName X.env x u) Q E s:=by
 obtain ⟨m,hn,hl⟩:=id I.loc
 have hcls:(X.env.scope.kind == .class||(X.env.scope.kind == .module&&X.env.locals != X.env.globals))=false:=by rw[I.ok.kind];rfl
 have hiσ:i<σ.length:=by rw[I.len];exact (List.getElem?_eq_some_iff.mp hi).1
 have cne:=I.cne
 have tracked:∀{a:Addr}{h':Heap},(∃o,s.heap.get? a=some o/\H a=none)->Heap.SameBut a s.heap h'->HOk X.prog X.w H h':=λ{a h'} ha hs b ob e=>by
  obtain ⟨_,_,hfree⟩:=ha
  refine (I.hok b ob e).stay (λc w' hc q=>(hs.2 c ?_).trans q) (λ_ q=>q) λ_ _ q=>q
  rintro rfl
  rcases hc with rfl|hc
  ·rw[hfree]at e;cases e
  ·rw[hfree]at hc;cases hc
 rcases hx with hk|hk
 ·refine wpAny_storeName_local hk hn (λh' hn' hs=>?_) hcls
  obtain ⟨oL,_,_,hoL,_⟩:=id hn
  refine h _ ⟨I.ok,I.os,I.bare,⟨λb o e n hb hx=>?_,λb o e n hb hx=>?_,I.base.free,λb o e hx=>?_,I.base.tups,I.base.frzs,I.base.tbls⟩,⟨_,hn',λj y v' e1 e2 e3=>?_⟩,λy c e=>?_,I.free,I.freeC,λp hp=>?_,tracked ⟨oL,hoL,I.free⟩ hs,by simpa using I.len⟩ ⟨_,hs,.inl rfl⟩
  ·exact (hs.2 b (ne_of_lt (lt_of_lt_of_le (lt_size e) I.ok.above))).trans (I.base.keep b o e n hb hx)
  ·obtain ⟨sl,e1⟩:=I.base.slot b o e n hb hx
   exact ⟨sl,(hs.2 b (ne_of_lt (lt_of_lt_of_le (lt_size e) I.ok.above))).trans e1⟩
  ·obtain ⟨o',e1⟩:=I.base.there b o e hx
   exact ⟨o',(hs.2 b (ne_of_lt (lt_of_lt_of_le (lt_size e) I.ok.above))).trans e1⟩
  ·by_cases hj:j=i
   ·subst hj
    rw[hi]at e1;cases e1
    rw[List.getElem?_set_self hiσ]at e2
    cases e2
    exact ⟨u,r,.inl ⟨hk,by simp⟩⟩
   ·rw[getElem?_set_ne (Ne.symm hj)]at e2
    obtain ⟨u',r',q⟩:=hl j y v' e1 e2 e3
    refine ⟨u',r',?_⟩
    rcases q with ⟨k,e⟩|⟨k,c,e,z⟩
    ·refine .inl ⟨k,?_⟩
     have:y≠x:=λe=>hj (qg3 hN e1 (e ▸ hi))
     simp[this,e]
    ·exact .inr ⟨k,c,e,z.sameBut hs (cne y c e)⟩
  ·obtain ⟨w',z⟩:=I.cell y c e
   exact ⟨w',z.sameBut hs (cne y c e)⟩
  ·obtain ⟨e,n,ne,nf,d⟩:=I.pin p hp
   exact ⟨(hs.2 p.1 ne).trans e,n,ne,nf,d⟩
 ·have hfn:X.fn x=true:=by
   rcases hf with z|z
   ·exact z
   ·rw[z]at hk;cases hk
  obtain ⟨c,hc⟩:=I.ok.has x (.inl hk)
  obtain ⟨w',z⟩:=I.cell x c hc
  refine wpAny_storeName_cell I.ok.kind hk hc z (λh' hc' hs=>?_)
  obtain ⟨oc,hoc,hocd⟩:=id z
  refine h { s with heap:=h' } ⟨I.ok,I.os,I.bare,⟨λb o e n hb hx=>?_,λb o e n hb hx=>?_,I.base.free,λb o e hx=>?_,I.base.tups,I.base.frzs,I.base.tbls⟩,⟨m,hn.sameBut hs (Ne.symm (cne x c hc)),λj y v' e1 e2 e3=>?_⟩,λy c' e=>?_,I.free,I.freeC,λp hp=>?_,tracked ⟨oc,hoc,I.freeC x c hc⟩ hs,by simpa using I.len⟩ ⟨c,hs,.inr hc⟩
  ·exact (hs.2 b (ne_of_lt (lt_of_lt_of_le (lt_size e) (I.ok.cab x c hfn hc)))).trans (I.base.keep b o e n hb hx)
  ·obtain ⟨sl,e1⟩:=I.base.slot b o e n hb hx
   exact ⟨sl,(hs.2 b (ne_of_lt (lt_of_lt_of_le (lt_size e) (I.ok.cab x c hfn hc)))).trans e1⟩
  ·obtain ⟨o',e1⟩:=I.base.there b o e hx
   exact ⟨o',(hs.2 b (ne_of_lt (lt_of_lt_of_le (lt_size e) (I.ok.cab x c hfn hc)))).trans e1⟩
  ·by_cases hj:j=i
   ·subst hj
    rw[hi]at e1;cases e1
    rw[List.getElem?_set_self hiσ]at e2
    cases e2
    exact ⟨u,r,.inr ⟨.inl hk,c,hc,hc'⟩⟩
   ·rw[getElem?_set_ne (Ne.symm hj)]at e2
    obtain ⟨u',r',q⟩:=hl j y v' e1 e2 e3
    refine ⟨u',r',?_⟩
    rcases q with q|⟨k,c',e,z'⟩
    ·exact .inl q
    ·refine .inr ⟨k,c',e,z'.sameBut hs ?_⟩
     rintro rfl
     exact hj (qg3 hN e1 (I.ok.inj _ _ _ e hc ▸ hi))
  ·by_cases hcc:c'=c
   ·subst hcc;exact ⟨_,hc'⟩
   ·obtain ⟨w2,z2⟩:=I.cell y c' e
    exact ⟨w2,z2.sameBut hs hcc⟩
  ·obtain ⟨e,n,ne,nf,d⟩:=I.pin p hp
   refine ⟨(hs.2 p.1 ?_).trans e,n,ne,nf,d⟩
   intro q
   rw[q,hoc]at e
   have q':oc=p.2:=Option.some.inj e
   exact d w' (by rw[<-q'];exact hocd)
theorem ye3{M:Model}{A:Around}{E:Value->Shared->Prop}{i:Nat}{x:Str}{v:V}{u:Value}{Q:Unit->Shared->Prop}(I:Inv X pins σ H s)(hN:X.N.Nodup)(hi:X.N[i]?=some x)(hx:Loc X.env.scope x)(r:RelV v u)
  (h:∀s',Inv X pins (σ.set i (some v)) H s'->Q () s') (hf:X.fn x=true\/X.env.scope.names.lookup x=some .local:=by first|exact .inl rfl|exact .inr rfl|assumption):wpAny M A (storeName X.env x u) Q E s:=
 yh5 I hN hi hx r (λs' I' _=>h s' I') hf
theorem Inv.call'{s':Shared}{ch:List Addr}(I:Inv X pins σ H s)(ho:s'.os=s.os)(u:Un (frs X.stack) ch H H' s.heap s'.heap)(hok:HOk X.prog X.w H' s'.heap)(hg:AllBare s'.gens)
  (hch:∀b∈ch,(b∈X.ex\/X.s₀.heap.objs.size<=b)/\b≠X.env.locals/\(∀x c,X.env.cells.lookup x=some c->c≠b)/\∀p∈X.pn++pins,p.1≠b):Inv X pins σ H' s':=by
 obtain ⟨h',g',d',t',o'⟩:=s'
 have e:o'=s.os:=ho
 subst e
 exact I.call (g':=g') (t':=t') (d':=d') u hok hg hch
end
abbrev XK:=Value->Option Addr->Hp->Prop
abbrev St:=List (Option V)
abbrev VK:=V->Hp->Prop
abbrev TE:=St->Hp->VK->Prop
abbrev TT:=St->Hp->(Bool->Hp->Prop)->Prop
abbrev TA:=St->Hp->(List V->Hp->Prop)->Prop
structure Ends where
 nx:St->Hp->Prop
 rt:VK
 bk:St->Hp->Prop:=λ_ _=>False
 ct:St->Hp->Prop:=λ_ _=>False
abbrev TS:=Ends->St->Hp->Prop
def EP(X:Cx)(pins:List (Addr×Obj))(σ:St)(Q:VK)(u:Value)(s':Shared):Prop:=∃v H',Inv X pins σ H' s'/\RelV v u/\Q v H'
def TP(X:Cx)(pins:List (Addr×Obj))(σ:St)(Q:Bool->Hp->Prop)(b:Bool)(s':Shared):Prop:=∃H',Inv X pins σ H' s'/\Q b H'
def AP(X:Cx)(pins:List (Addr×Obj))(σ:St)(Q:List V->Hp->Prop)(us:List Value)(s':Shared):Prop:=∃vs H',Inv X pins σ H' s'/\Vals vs us/\Q vs H'
def SP(X:Cx)(pins:List (Addr×Obj))(D:Ends)(f:Flow)(s':Shared):Prop:=
 match f with
 |.next=>∃σ' H',Inv X pins σ' H' s'/\D.nx σ' H'
 |.brk=>∃σ' H',Inv X pins σ' H' s'/\D.bk σ' H'
 |.cont=>∃σ' H',Inv X pins σ' H' s'/\D.ct σ' H'
 |.ret u=>∃v σ' H',Inv X pins σ' H' s'/\RelV v u/\D.rt v H'
def PE(X:Cx)(e:Expr)(t:TE):Prop:=
 ∀(pins:List (Addr×Obj)) (s:Shared) (σ:St) (H:Hp) (Q:VK),Inv X pins σ H s->t σ H Q->wpAny (model X.prog X.w) X.A (eval e X.env) (EP X pins σ Q) X.xe s
def PT(X:Cx)(e:Expr)(t:TT):Prop:=
 ∀(pins:List (Addr×Obj)) (s:Shared) (σ:St) (H:Hp) (Q:Bool->Hp->Prop),Inv X pins σ H s->t σ H Q->wpAny (model X.prog X.w) X.A (isTrue e X.env (eval e X.env)) (TP X pins σ Q) X.xe s
def PW(X:Cx)(e:Expr)(t:TT):Prop:=
 ∀(whole:Sem Value) (pins:List (Addr×Obj)) (s:Shared) (σ:St) (H:Hp) (Q:Bool->Hp->Prop),Inv X pins σ H s->t σ H Q->wpAny (model X.prog X.w) X.A (isTrue e X.env whole) (TP X pins σ Q) X.xe s
theorem PW.pt{X:Cx}{e:Expr}{t:TT}(h:PW X e t):PT X e t:=h _
def PA(X:Cx)(es:List Expr)(t:TA):Prop:=
 ∀(pos:Pos) (pins:List (Addr×Obj)) (s:Shared) (σ:St) (H:Hp) (Q:List V->Hp->Prop),Inv X pins σ H s->t σ H Q->wpAny (model X.prog X.w) X.A (spliced (backTo pos (starEach es X.env))) (AP X pins σ Q) X.xe s
def PS(X:Cx)(st:Stmt)(t:TS):Prop:=
 ∀(pins:List (Addr×Obj)) (s:Shared) (σ:St) (H:Hp) (D:Ends),Inv X pins σ H s->t D σ H->wpAny (model X.prog X.w) X.A (exec st X.env) (SP X pins D) X.xe s
def PSs(X:Cx)(st:List Stmt)(t:TS):Prop:=
 ∀(pins:List (Addr×Obj)) (s:Shared) (σ:St) (H:Hp) (D:Ends),Inv X pins σ H s->t D σ H->wpAny (model X.prog X.w) X.A (execs st X.env) (SP X pins D) X.xe s
theorem thn{α:Type}{t:Sem α}{Q Q':α->Shared->Prop}{M:Model}{A:Around}{E:Value->Shared->Prop}{s:Shared}(h:wpAny M A t Q E s)(hQ:∀a s,Q a s->Q' a s):wpAny M A t Q' E s:=wpAny_mono h hQ λ_ _ x=>x
section
variable {X:Cx}
def tVar(i:Nat):TE:=λσ H Q=>∃v,σ[i]?=some (some v)/\Q v H
def tC(v:V):TE:=λ_ H Q=>Q v H
theorem pe_var{i:Nat}{x:Str}{pos:Pos}(hN:X.N[i]?=some x)(hv:Vis X.env.scope x)(hd:(x == ("__debug__" : Str))=false:=by decide)(hcd:(x == ("__classdict__" : Str))=false:=by decide):PE X (.Name x pos) (tVar i):=by
 intro pins s σ H Q I h
 obtain ⟨v,e,h⟩:=h
 obtain ⟨m,hn,hl⟩:=I.loc
 obtain ⟨u,r,l⟩:=hl i x v hN e hv
 have fin:EP X pins σ Q u s:=⟨v,H,I,r,h⟩
 rcases l with ⟨hk,hm⟩|⟨hk,c,hc,hcell⟩
 ·exact wpAny_Name (wpAny_loadName_local I.ok.kind hk hn hm fin) hd
 ·rcases hk with hk|hk
  ·exact wpAny_Name (wpAny_loadName_cell I.ok.kind hk hc hcell fin) hd
  ·exact wpAny_Name (wpAny_loadName_free I.ok.kind hk hc hcell fin hcd) hd
theorem yad{i j pos}:PE X (.Constant (.int i) j pos) (tC (.int i)):=λ_ _ _ H _ I h=>wpAny_Constant_int ⟨.int i,H,I.tok _,⟨_,rfl⟩,h⟩
theorem qf8{b j pos}:PE X (.Constant (.bool b) j pos) (tC (.bl b)):=λ_ _ _ H _ I h=>Constant_bool ⟨.bl b,H,I,rfl,h⟩
theorem qa6{j pos}:PE X (.Constant .none j pos) (tC .non):=λ_ _ _ H _ I h=>Constant_none ⟨.non,H,I,rfl,h⟩
theorem qak{x j pos}:PE X (.Constant (.str x) j pos) (tC (.str x)):=λ_ _ _ H _ I h=>Calls.Constant_str ⟨.str x,H,I.tok _,⟨_,rfl⟩,h⟩
def Gl(X:Cx)(x:Str):Prop:=X.env.kindOf x=some .globalImplicit
theorem ydu{E:Value->Shared->Prop}{pins:List (Addr×Obj)}{s:Shared}{σ:St}{H:Hp}{x:Str}{u:Value}{pos:Pos}{Q:Value->Shared->Prop}(I:Inv X pins σ H s)(hg:Gl X x)(hm:X.mg x=some u)(h:Q u s)
  (hd:(x == ("__debug__" : Str))=false:=by decide):wpAny (model X.prog X.w) X.A (eval (.Name x pos) X.env) Q E s:=
 Calls.Name_function_global I.ok.kind hg (Calls.loadGlobal_global (by rw[I.ok.glob];exact I.mod.glob.keeps I.bk) hm h) hd
theorem yc3{E:Value->Shared->Prop}{pins:List (Addr×Obj)}{s:Shared}{σ:St}{H:Hp}{x:Str}{u:Value}{pos:Pos}{Q:Value->Shared->Prop}(I:Inv X pins σ H s)(hg:Gl X x)(hm:X.mg x=none)(hv:bootBuiltins x=some u)(h:Q u s)
  (hn:x≠"__name__":=by decide) (hd:(x == ("__debug__" : Str))=false:=by decide):wpAny (model X.prog X.w) X.A (eval (.Name x pos) X.env) Q E s:=by
 obtain ⟨mb,h1,h2⟩:=I.mod.blt
 exact Calls.Name_function_global I.ok.kind hg (Calls.loadGlobal_builtin (by rw[I.ok.glob];exact I.mod.glob.keeps I.bk) hm (by rw[I.ok.blt];exact h1.keeps I.bk) ((h2 x hn).trans hv) h) hd
theorem qbm{x:Str}{v:V}{u:Value}{pos:Pos}(hg:Gl X x)(hm:X.mg x=some u)(r:RelV v u)(hd:(x == ("__debug__" : Str))=false:=by decide):PE X (.Name x pos) (tC v):=
 λ_ _ _ H _ I h=>ydu I hg hm ⟨v,H,I,r,h⟩ hd
theorem qbl{x:Str}{v:V}{u:Value}{pos:Pos}(hg:Gl X x)(hm:X.mg x=none)(hv:bootBuiltins x=some u)(r:RelV v u)(hn:x≠"__name__":=by decide)(hd:(x == ("__debug__" : Str))=false:=by decide):PE X (.Name x pos) (tC v):=
 λ_ _ _ H _ I h=>yc3 I hg hm hv ⟨v,H,I,r,h⟩ hn hd
variable {a b:Expr}{ta tb:TE}{pos:Pos}
def PC(X:Cx)(op:CmpOp)(a b:Expr)(t:TE):Prop:=
 ∀(pins:List (Addr×Obj)) (s:Shared) (σ:St) (H:Hp) (Q:VK),Inv X pins σ H s->t σ H Q->
  wpAny (model X.prog X.w) X.A (eval a X.env) (λv s₁=>wpAny (model X.prog X.w) X.A (eval b X.env) (λu s₂=>wpAny (model X.prog X.w) X.A (compareOp op v u) (EP X pins σ Q) X.xe s₂) X.xe s₁) X.xe s
theorem qjo(b:Expr){op:CmpOp}(h:op≠.In)(h2:op≠.NotIn):behindInMarks op b=false:=by
 have e1:(op == CmpOp.In)=false:=by cases op<;>first|rfl|exact absurd rfl h
 have e2:(op == CmpOp.NotIn)=false:=by cases op<;>first|rfl|exact absurd rfl h2
 cases b<;>simp[behindInMarks,e1,e2]
def tIsN(ta:TE):TE:=λσ H Q=>ta σ H λx H1=>Q (.bl (decide (x=.non))) H1
def tNotN(ta:TE):TE:=λσ H Q=>ta σ H λx H1=>Q (.bl (!decide (x=.non))) H1
theorem RelV.none_iff{x:V}{v:Value}(r:RelV x v):(v == Value.none)=decide (x=.non):=by
 cases x with
 |non=>cases r;rfl
 |bl _=>cases r;rfl
 |int _=>obtain ⟨t,rfl⟩:=r;rfl
 |str _=>obtain ⟨t,rfl⟩:=r;rfl
 |byt _=>obtain ⟨t,rfl⟩:=r;rfl
 |flt _=>obtain ⟨t,rfl⟩:=r;rfl
 |ref _=>cases r;rfl
 |ty _=>cases r;rfl
theorem qfm{j pos'}(ha:PE X a ta):PC X .Is a (.Constant .none j pos') (tIsN ta):=by
 intro pins s σ H Q I h
 refine thn (ha pins s σ H _ I h) λv s1 ⟨x,H1,I1,r1,q1⟩=>?_
 exact Constant_none (is_none_gen ⟨.bl _,H1,I1,by rw[r1.none_iff];rfl,q1⟩)
theorem qhf{j pos'}(ha:PE X a ta):PC X .IsNot a (.Constant .none j pos') (tNotN ta):=by
 intro pins s σ H Q I h
 refine thn (ha pins s σ H _ I h) λv s1 ⟨x,H1,I1,r1,q1⟩=>?_
 exact Constant_none (isnot_none_gen ⟨.bl _,H1,I1,by rw[r1.none_iff];rfl,q1⟩)
def tB(t:TE):TT:=λσ H Q=>t σ H λx H1=>∃c,x=.bl c/\Q c H1
theorem pe_cmp{op:CmpOp}{t:TE}(h:PC X op a b t)(h1:behindInMarks op b=false:=by first|exact qjo _ (by decide) (by decide)|rfl):PE X (.Compare a [op] [b] pos) t:=λpins s σ H Q I hw=>wpAny_Compare1 (h pins s σ H Q I hw) h1
theorem qc2{op:CmpOp}{t:TE}(h:PC X op a b t)(h1:behindInMarks op b=false:=by first|exact qjo _ (by decide) (by decide)|rfl):PT X (.Compare a [op] [b] pos) (tB t):=by
 intro pins s σ H Q I hw
 refine wpAny_isTrue_Compare1 (thn (h pins s σ H _ I hw) λv s1 h1=>thn h1 λu s2 h2=>thn h2 λc s3 ⟨x,H1,I1,r1,q1⟩=>?_) h1
 obtain ⟨d,rfl,q⟩:=q1
 cases r1
 exact wpAny_truthy_bool ⟨H1,I1,q⟩
theorem yeu{e:Expr}{t:TE}(h:PE X e t)(he:∀whole,isTrue e X.env whole=(do let v <-whole;standAt e.pos;holding [v] (truthy v)):=by intro _;rfl):PT X e (tB t):=by
 intro pins s σ H Q I hw
 refine isTrue_plain (thn (h pins s σ H _ I hw) λv s1 ⟨x,H1,I1,r1,q1⟩=>?_) (he _)
 obtain ⟨d,rfl,q⟩:=q1
 cases r1
 exact wpAny_truthy_bool ⟨H1,I1,q⟩
variable {tA tB':TT}{rest:List Expr}
def tAnd(t u:TT):TT:=λσ H Q=>t σ H λc H1=>if c=true then u σ H1 Q else Q false H1
def tOr(t u:TT):TT:=λσ H Q=>t σ H λc H1=>if c=true then Q true H1 else u σ H1 Q
def tNot(t:TT):TT:=λσ H Q=>t σ H λc H1=>Q (!c) H1
theorem qi4(ha:PT X a tA):PW X (.BoolOp .And [a] pos) tA:=by
 intro wh pins s σ H Q I h
 refine isTrue_and (thn (ha pins s σ H Q I h) λc s1 e=>?_)
 cases c with
 |true=>exact isTrue_and_nil e
 |false=>exact e
theorem ymj(ha:PT X a tA):PW X (.BoolOp .Or [a] pos) tA:=by
 intro wh pins s σ H Q I h
 refine isTrue_or (thn (ha pins s σ H Q I h) λc s1 e=>?_)
 cases c with
 |false=>exact isTrue_or_nil e
 |true=>exact e
theorem ql8(ha:PT X a tA)(hb:PW X (.BoolOp .And (b::rest) pos) tB'):PW X (.BoolOp .And (a::b::rest) pos) (tAnd tA tB'):=by
 intro wh pins s σ H Q I h
 refine isTrue_and (thn (ha pins s σ H _ I h) λc s1 ⟨H1,I1,q1⟩=>?_)
 cases c with
 |true=>exact hb wh pins s1 σ H1 Q I1 q1
 |false=>exact ⟨H1,I1,q1⟩
theorem pw_or(ha:PT X a tA)(hb:PW X (.BoolOp .Or (b::rest) pos) tB'):PW X (.BoolOp .Or (a::b::rest) pos) (tOr tA tB'):=by
 intro wh pins s σ H Q I h
 refine isTrue_or (thn (ha pins s σ H _ I h) λc s1 ⟨H1,I1,q1⟩=>?_)
 cases c with
 |true=>exact ⟨H1,I1,q1⟩
 |false=>exact hb wh pins s1 σ H1 Q I1 q1
theorem qgg(ha:PT X a tA):PT X (.UnaryOp .Not a pos) (tNot tA):=by
 intro pins s σ H Q I h
 exact isTrue_not (ha pins s σ H (λc H1=>Q (!c) H1) I h)
def tAndV(ta tb:TE):TE:=λσ H Q=>ta σ H λx H1=>∃c,x=.bl c/\if c=true then tb σ H1 Q else Q (.bl false) H1
def tNotV(ta:TE):TE:=λσ H Q=>ta σ H λx H1=>∃c,x=.bl c/\Q (.bl (!c)) H1
theorem qbx{op}{t:TE}(h:PE X a t):PE X (.BoolOp op [a] pos) t:=λpins s σ H Q I hw=>BoolOp_one (h pins s σ H Q I hw)
theorem qa8(ha:PE X a ta)(hb:PE X (.BoolOp .And (b::rest) pos) tb):PE X (.BoolOp .And (a::b::rest) pos) (tAndV ta tb):=by
 intro pins s σ H Q I h
 refine BoolOp_and (thn (ha pins s σ H _ I h) λv s1 ⟨x,H1,I1,r1,q1⟩=>?_)
 obtain ⟨c,rfl,q1⟩:=q1
 cases r1
 refine wpAny_truthy_bool ?_
 cases c with
 |true=>exact hb pins s1 σ H1 Q I1 q1
 |false=>exact ⟨.bl false,H1,I1,rfl,q1⟩
theorem pe_not(ha:PE X a ta):PE X (.UnaryOp .Not a pos) (tNotV ta):=by
 intro pins s σ H Q I h
 refine UnaryOp_ (thn (ha pins s σ H _ I h) λv s1 ⟨x,H1,I1,r1,q1⟩=>?_)
 obtain ⟨c,rfl,q1⟩:=q1
 cases r1
 exact not_of (wpAny_truthy_bool ⟨.bl (!c),H1,I1,rfl,q1⟩)
def tIf(t:TT)(ta tb:TE):TE:=λσ H Q=>t σ H λc H1=>if c=true then ta σ H1 Q else tb σ H1 Q
theorem yjj{c:Expr}(hc:PT X c tA)(ha:PE X a ta)(hb:PE X b tb):PE X (.IfExp c a b pos) (tIf tA ta tb):=by
 intro pins s σ H Q I h
 refine wpAny_IfExp (thn (hc pins s σ H _ I h) λd s1 ⟨H1,I1,q1⟩=>?_)
 cases d with
 |true=>exact ha pins s1 σ H1 Q I1 q1
 |false=>exact hb pins s1 σ H1 Q I1 q1
end
def SqL(K:W.Frag)(H:Hp)(a:Addr)(xs:List V):Prop:=
 Rd H a (.lst xs)\/
  ∃(o:Obj) (its:Array Value) (n:Nat),K.lookup a=some o/\o.cls=.type "list"/\o.dict=none/\o.data=.seq its n/\its.size<=sizeLine/\Vals xs its.toList
def SqT(K:W.Frag)(H:Hp)(a:Addr)(xs:List V):Prop:=
 Rd H a (.tup xs)\/
  ∃(o:Obj) (its:Array Value) (n:Nat),K.lookup a=some o/\o.cls=.type "tuple"/\o.data=.seq its n/\its.size<=sizeLine/\Vals xs its.toList
def absV:Value->Option V
 |.none=>some .non
 |.bool b=>some (.bl b)
 |.int i _=>some (.int i)
 |.str x _=>some (.str x)
 |.bytes b _=>some (.byt b)
 |.float b _=>some (.flt b)
 |.ref a=>some (.ref a)
 |.type n=>some (.ty n)
 |_=>none
theorem RelV.abs{x:V}{u:Value}(r:RelV x u):absV u=some x:=by
 cases x with
 |non=>cases r;rfl
 |bl _=>cases r;rfl
 |int _=>obtain ⟨t,rfl⟩:=r;rfl
 |str _=>obtain ⟨t,rfl⟩:=r;rfl
 |byt _=>obtain ⟨t,rfl⟩:=r;rfl
 |flt _=>obtain ⟨t,rfl⟩:=r;rfl
 |ref _=>cases r;rfl
 |ty _=>cases r;rfl
theorem RelV.inj{x y:V}{u:Value}(r:RelV x u)(q:RelV y u):x=y:=Option.some.inj (r.abs.symm.trans q.abs)
theorem Vals.inj:∀{xs ys:List V}{us:List Value},Vals xs us->Vals ys us->xs=ys
 |_,_,_,.nil,.nil=>rfl
 |_,_,_,.cons r t,.cons r' t'=>by rw[r.inj r',Vals.inj t t']
section
variable {X:Cx}{pins:List (Addr×Obj)}{σ:St}{H:Hp}{s:Shared}{a:Addr}{xs ys:List V}
theorem sqlO{K:W.Frag}(h:H a=some (.lst xs)):SqL K H a xs:=.inl (.inl h)
theorem sqtO{K:W.Frag}(h:H a=some (.tup xs)):SqT K H a xs:=.inl (.inl h)
theorem Inv.list(I:Inv X pins σ H s)(h:SqL X.K H a xs):∃its:List Value,Vals xs its/\PlainL s.heap a its.toArray/\xs.length<=sizeLine:=by
 rcases h with h|⟨o,its,n,hk,hc,hd,hs,hz,r⟩
 ·obtain ⟨z,its,n,r,e⟩:=h.ok I.hok
  exact ⟨its,r,⟨_,n,e,rfl,rfl,rfl⟩,z⟩
 ·refine ⟨its.toList,r,⟨o,n,I.kIn a o hk,hc,hd,by simpa using hs⟩,?_⟩
  have e:=r.length
  simp only[length_toList]at e
  omega
theorem Inv.tuple(I:Inv X pins σ H s)(h:SqT X.K H a xs):∃its:List Value,Vals xs its/\IsTup s.heap a its.toArray/\xs.length<=sizeLine:=by
 rcases h with h|⟨o,its,n,hk,hc,hs,hz,r⟩
 ·obtain ⟨z,its,r,p⟩:=h.ok I.hok
  exact ⟨its,r,p,z⟩
 ·refine ⟨its.toList,r,⟨o,I.kIn a o hk,hc,n,by simpa using hs⟩,?_⟩
  have e:=r.length
  simp only[length_toList]at e
  omega
theorem Inv.list_inj(I:Inv X pins σ H s)(h:SqL X.K H a xs)(h':SqL X.K H a ys):xs=ys:=by
 obtain ⟨its,r,⟨o,n,e,_,_,d⟩,_⟩:=I.list h
 obtain ⟨its',r',⟨o',n',e',_,_,d'⟩,_⟩:=I.list h'
 rw[e]at e';cases e'
 rw[d]at d'
 injection d' with d1 _
 have:its=its':=by simpa using congrArg Array.toList d1
 subst this
 exact r.inj r'
theorem Inv.tuple_inj(I:Inv X pins σ H s)(h:SqT X.K H a xs)(h':SqT X.K H a ys):xs=ys:=by
 obtain ⟨its,r,⟨o,e,_,n,d⟩,_⟩:=I.tuple h
 obtain ⟨its',r',⟨o',e',_,n',d'⟩,_⟩:=I.tuple h'
 rw[e]at e';cases e'
 rw[d]at d'
 injection d' with d1 _
 have:its=its':=by simpa using congrArg Array.toList d1
 subst this
 exact r.inj r'
end
abbrev Cx.wish(X:Cx)(E:Value->Shared->Prop):Cx:={ X with xe:=E }
abbrev Cx.nox(X:Cx):Cx:=X.wish λ_ _=>False
theorem Cx.Ok.wish{X:Cx}(ok:X.Ok)(E:Value->Shared->Prop):(X.wish E).Ok:=
 ⟨ok.mod,ok.kind,ok.glob,ok.blt,ok.above,ok.inj,ok.has,ok.cab,ok.hd,ok.frames,ok.stk,ok.exf,ok.bs,ok.bsz,ok.noex,ok.exfs,ok.funs,ok.frf⟩
theorem Cx.Ok.unwish{X:Cx}{E:Value->Shared->Prop}(ok:(X.wish E).Ok):X.Ok:=
 ⟨ok.mod,ok.kind,ok.glob,ok.blt,ok.above,ok.inj,ok.has,ok.cab,ok.hd,ok.frames,ok.stk,ok.exf,ok.bs,ok.bsz,ok.noex,ok.exfs,ok.funs,ok.frf⟩
section
variable {X:Cx}{pins:List (Addr×Obj)}{σ:St}{H:Hp}{s:Shared}{E:Value->Shared->Prop}
theorem Inv.wish(I:Inv X pins σ H s)(E:Value->Shared->Prop):Inv (X.wish E) pins σ H s:=⟨I.ok.wish E,I.os,I.bare,I.base,I.loc,I.cell,I.free,I.freeC,I.pin,I.hok,I.len⟩
theorem Inv.unwish(I:Inv (X.wish E) pins σ H s):Inv X pins σ H s:=⟨I.ok.unwish,I.os,I.bare,I.base,I.loc,I.cell,I.free,I.freeC,I.pin,I.hok,I.len⟩
theorem SP.unwish{D:Ends}{f:Flow}{s':Shared}(h:SP (X.wish E) pins D f s'):SP X pins D f s':=by
 cases f with
 |next=>obtain ⟨σ',H',I,q⟩:=h;exact ⟨σ',H',I.unwish,q⟩
 |brk=>obtain ⟨σ',H',I,q⟩:=h;exact ⟨σ',H',I.unwish,q⟩
 |cont=>obtain ⟨σ',H',I,q⟩:=h;exact ⟨σ',H',I.unwish,q⟩
 |ret u=>obtain ⟨v,σ',H',I,r,q⟩:=h;exact ⟨v,σ',H',I.unwish,r,q⟩
theorem PSs.nox{st:List Stmt}{t:TS}(h:PSs X.nox st t):PSs X st t:=λpins s σ H D I hw=>
 wpAny_mono (h pins s σ H D (I.wish _) hw) (λ_ _ q=>q.unwish) λ_ _ z=>False.elim z
end
section
variable {X:Cx}{st:Stmt}{rest:List Stmt}{t u:TS}{e:Expr}{te:TE}{pos:Pos}
def tNext:TS:=λD σ H=>D.nx σ H
def tSeq(t u:TS):TS:=λD σ H=>t { D with nx:=u D } σ H
theorem yeo:PSs X [] tNext:=λ_ _ σ H _ I h=>wpAny_execs_nil ⟨σ,H,I,h⟩
theorem ya5(h1:PS X st t)(h2:PSs X rest u):PSs X (st::rest) (tSeq t u):=by
 intro pins s σ H D I h
 refine wpAny_execs_cons (thn (h1 pins s σ H { D with nx:=u D } I h) λf s1 q=>?_)
 cases f with
 |next=>
  obtain ⟨σ',H',I',q⟩:=q
  exact h2 pins s1 σ' H' D I' q
 |ret v=>exact q
 |brk=>exact q
 |cont=>exact q
theorem qax(h1:PS X st t):PSs X [st] t:=by
 intro pins s σ H D I h
 refine wpAny_execs_cons (thn (h1 pins s σ H D I h) λf s1 q=>?_)
 cases f with
 |next=>exact wpAny_execs_nil q
 |ret v=>exact q
 |brk=>exact q
 |cont=>exact q
theorem Inv.quiet{pins:List (Addr×Obj)}{σ:St}{H:Hp}{s:Shared}(I:Inv X pins σ H s):interactive X.env=false:=by simp[interactive,I.ok.kind]
def tDrop(te:TE):TS:=λD σ H=>te σ H λ_ H1=>D.nx σ H1
theorem yik(he:PE X e te)(hs:swapsWith e none pos.line X.env=pure false:=by rfl):PS X (.Expr e pos) (tDrop te):=by
 intro pins s σ H D I h
 exact wpAny_Expr_any (thn (he pins s σ H _ I h) λv s1 ⟨x,H1,I1,r1,q1⟩=>⟨σ,H1,I1,q1⟩) I.quiet hs
def tRet(te:TE):TS:=λD σ H=>te σ H D.rt
theorem yb6(he:PE X e te):PS X (.Return (some e) pos) (tRet te):=by
 intro pins s σ H D I h
 exact wpAny_Return_some (thn (he pins s σ H _ I h) λv s1 ⟨x,H1,I1,r1,q1⟩=>⟨x,σ,H1,I1,r1,q1⟩)
def tRetN:TS:=λD _ H=>D.rt .non H
theorem ps_retN:PS X (.Return none pos) tRetN:=λ_ _ σ H _ I h=>wpAny_Return_none ⟨.non,σ,H,I,rfl,h⟩
def tIfS(c:TT)(t u:TS):TS:=λD σ H=>c σ H λb H1=>if b=true then t D σ H1 else u D σ H1
theorem yie{c:Expr}{a b:List Stmt}{tc:TT}(hc:PT X c tc)(ha:PSs X a t)(hb:PSs X b u):PS X (.If c a b pos) (tIfS tc t u):=by
 intro pins s σ H D I h
 refine wpAny_If (thn (hc pins s σ H _ I h) λd s1 ⟨H1,I1,q1⟩=>?_)
 cases d with
 |true=>exact ha pins s1 σ H1 D I1 q1
 |false=>exact hb pins s1 σ H1 D I1 q1
def tNever:TS:=λ_ _ _=>False
theorem yeb:PS X st tNever:=λ_ _ _ _ _ _ h=>h.elim
end
abbrev TG:=V->St->Hp->(St->Hp->Prop)->Prop
abbrev TGs:=List V->St->Hp->(St->Hp->Prop)->Prop
def PG(X:Cx)(target:Expr)(t:TG):Prop:=
 ∀(pins:List (Addr×Obj)) (s:Shared) (σ:St) (H:Hp) (v:V) (u:Value) (Q:St->Hp->Prop),Inv X pins σ H s->RelV v u->t v σ H Q->
  wpAny (model X.prog X.w) X.A (assign target X.env u) (λ_ s'=>∃σ' H',Inv X pins σ' H' s'/\Q σ' H') X.xe s
def PGs(X:Cx)(ts:List Expr)(t:TGs):Prop:=
 ∀(pins:List (Addr×Obj)) (s:Shared) (σ:St) (H:Hp) (vs:List V) (us:List Value) (Q:St->Hp->Prop),Inv X pins σ H s->Vals vs us->t vs σ H Q->
  wpAny (model X.prog X.w) X.A (assignInOrder ((assignEach ts X.env).map (·.2)) us) (λ_ s'=>∃σ' H',Inv X pins σ' H' s'/\Q σ' H') X.xe s
abbrev TSet:=V->V->V->Hp->(Hp->Prop)->Prop
def PSet(X:Cx)(t:TSet):Prop:=
 ∀(pins:List (Addr×Obj)) (s:Shared) (σ:St) (H:Hp) (o i v:V) (ov iv u:Value) (Q:Hp->Prop),Inv X pins σ H s->RelV o ov->RelV i iv->RelV v u->t o i v H Q->
  wpAny (model X.prog X.w) X.A (setItem ov iv u) (λ_ s'=>∃H',Inv X pins σ H' s'/\Q H') X.xe s
section
variable {X:Cx}{pos:Pos}
def yf3(i:Nat):TG:=λv σ H Q=>Q (σ.set i (some v)) H
theorem qaz{i:Nat}{x:Str}(hN:X.N.Nodup)(hi:X.N[i]?=some x)(hx:Loc X.env.scope x)(hf:X.fn x=true\/X.env.scope.names.lookup x=some .local:=by first|exact .inl rfl|exact .inr rfl|assumption):PG X (.Name x pos) (yf3 i):=by
 intro pins s σ H v u Q I r h
 exact wpAny_assign_Name (ye3 I hN hi hx r (λs' I'=>⟨_,H,I',h⟩) hf)
theorem pgn(i:Nat){x:Str}(hN:X.N.Nodup)(hi:X.N[i]?=some x:=by rfl)(hx:Loc X.env.scope x:=by exact Or.inl rfl)(hf:X.fn x=true\/X.env.scope.names.lookup x=some .local:=by first|exact .inl rfl|exact .inr rfl|assumption):PG X (.Name x pos) (yf3 i):=qaz hN hi hx hf
def gNil:TGs:=λvs σ H Q=>vs=[]/\Q σ H
def gCons(t:TG)(u:TGs):TGs:=λvs σ H Q=>∃v r,vs=v::r/\t v σ H λσ' H'=>u r σ' H' Q
theorem ya9:PGs X [] gNil:=by
 intro pins s σ H vs us Q I r h
 obtain ⟨e,h⟩:=h
 subst e
 cases r
 exact assignInOrder_nil ⟨σ,H,I,h⟩
theorem yaj{e:Expr}{es:List Expr}{t:TG}{u:TGs}(h1:PG X e t)(h2:PGs X es u)
  (hs:(assignEach (e::es) X.env).map (·.2)=assign e X.env::(assignEach es X.env).map (·.2):=by rfl):PGs X (e::es) (gCons t u):=by
 intro pins s σ H vs us Q I r h
 obtain ⟨v,vr,e1,h⟩:=h
 subst e1
 cases r with
 |cons r rr=>
  rw[hs]
  refine assignInOrder_cons (thn (h1 pins s σ H _ _ _ I r h) λ_ s1 ⟨σ1,H1,I1,q1⟩=>?_)
  exact h2 pins s1 σ1 H1 _ _ Q I1 rr q1
def gTup(K:W.Frag)(n:Nat)(t:TGs):TG:=λv σ H Q=>∃a xs,v=.ref a/\SqT K H a xs/\xs.length=n/\t xs σ H Q
theorem qcs{es:List Expr}{k:Nat}{t:TGs}{n:Nat}(hc:X.calm=true)(h:PGs X es t)
  (hn:(assignEach es X.env).length=n:=by rfl) (hst:(assignEach es X.env).findIdx? (·.1)=none:=by rfl):PG X (.Tuple es k pos) (gTup X.K n t):=by
 intro pins s σ H v u Q I r hw
 obtain ⟨a,xs,e1,hq,hl,hw⟩:=hw
 subst e1
 cases r
 obtain ⟨its,rv,ht,hz⟩:=I.tuple hq
 refine assign_Tuple_tuple (I.ok.hd hc) ht (by simp[hn,<-hl,rv.length]) hst λh' hx=>?_
 have I1:Inv X pins σ H { s with heap:=h' }:=I.kept (t':=s.toks) λb o e=>hx b o (ne_of_lt (lt_size e)) e
 exact h pins _ σ H xs _ Q I1 (by simpa using rv) hw
def gSub(to ti:TE)(t:TSet):TG:=λv σ H Q=>to σ H λo H1=>ti σ H1 λi H2=>t o i v H2 λH3=>Q σ H3
theorem ylc{o i:Expr}{to ti:TE}{t:TSet}(ho:PE X o to)(hi:PE X i ti)(hs:PSet X t)
  (ha:∀v,assign (.Subscript o i pos) X.env v=(do
   let ov <-holding [v] (eval o X.env)
   let iv <-holding [v,ov] (eval i X.env)
   standAt pos
   holding [v,ov,iv] (setItem ov iv v)
   release [v,ov,iv] []):=by intro _;rfl):PG X (.Subscript o i pos) (gSub to ti t):=by
 intro pins s σ H v u Q I r h
 rw[ha]
 refine wpAny_bind (wpAny_holding (thn (ho pins s σ H _ I h) λov s1 ⟨x,H1,I1,r1,q1⟩=>?_))
 refine wpAny_bind (wpAny_holding (thn (hi pins s1 σ H1 _ I1 q1) λiv s2 ⟨y,H2,I2,r2,q2⟩=>?_))
 refine wpAny_bind (wpAny_standAt (wpAny_bind (wpAny_holding (thn (hs pins s2 σ H2 x y v ov iv u _ I2 r1 r2 r q2) λ_ s3 ⟨H3,I3,q3⟩=>?_))))
 exact wpAny_release ⟨σ,H3,I3,q3⟩
def tAsg(te:TE)(g:TG):TS:=λD σ H=>te σ H λx H1=>g x σ H1 D.nx
theorem ps_asg{tg e:Expr}{te:TE}{g:TG}(he:PE X e te)(hg:PG X tg g)(hs:swapsWithSole [tg] e pos.line X.env=pure false:=by rfl)(hw:swappedStores [tg] e X.env=pure none:=by rfl)
  (h1:(assignEach [tg] X.env).map (·.2)=[assign tg X.env]:=by rfl):PS X (.Assign [tg] e pos) (tAsg te g):=by
 intro pins s σ H D I h
 refine wpAny_Assign_stores (thn (he pins s σ H _ I h) λv s1 ⟨x,H1,I1,r1,q1⟩=>?_) hs hw
 rw[h1]
 exact thn (hg pins s1 σ H1 x v _ I1 r1 q1) λ_ s2 q=>q
theorem ql1{i:Nat}{x:Str}{e:Expr}{te:TE}{pos':Pos}(hN:X.N.Nodup)(hi:X.N[i]?=some x)(hx:Loc X.env.scope x)(he:PE X e te)(hs:swapsWith e (some (.Name x pos')) pos.line X.env=pure false:=by rfl)(hf:X.fn x=true\/X.env.scope.names.lookup x=some .local:=by first|exact .inl rfl|exact .inr rfl|assumption) :
  PS X (.Assign [.Name x pos'] e pos) (tAsg te (yf3 i)):=by
 intro pins s σ H D I h
 refine wpAny_Assign_Name (thn (he pins s σ H _ I h) λv s1 ⟨y,H1,I1,r1,q1⟩=>?_) hs
 exact ye3 I1 hN hi hx r1 (λs2 I2=>⟨_,H1,I2,q1⟩) hf
theorem pst(i:Nat){x:Str}{e:Expr}{te:TE}{pos':Pos}(hN:X.N.Nodup)(he:PE X e te)(hi:X.N[i]?=some x:=by rfl)(hx:Loc X.env.scope x:=by exact Or.inl rfl)(hs:swapsWith e (some (.Name x pos')) pos.line X.env=pure false:=by rfl)(hf:X.fn x=true\/X.env.scope.names.lookup x=some .local:=by first|exact .inl rfl|exact .inr rfl|assumption):PS X (.Assign [.Name x pos'] e pos) (tAsg te (yf3 i)):=ql1 hN hi hx he hs hf
end
structure It where
 go:Nat->Hp->Prop
 yld:Nat->Hp->V->Hp->Prop
 stop:Nat->Hp->Prop
def FpOk(X:Cx)(pins:List (Addr×Obj))(H:Hp)(b:Addr):Prop:=
 H b=none/\b≠X.env.locals/\b∉X.fs/\(b∈X.ex\/X.s₀.heap.objs.size<=b)/\(∀x c,X.env.cells.lookup x=some c->c≠b)/\∀p∈X.pn++pins,p.1≠b
theorem Inv.fpOk{X:Cx}{pins:List (Addr×Obj)}{σ:St}{H H':Hp}{s:Shared}{b:Addr}(I:Inv X pins σ H s)(hb:s.heap.objs.size<=b)(hn:H' b=none):FpOk X pins H' b:=by
 refine ⟨hn,ne_of_gt (lt_of_lt_of_le I.lt hb),I.nofs hb,.inr (le_trans I.sz hb),λx c e z=>?_,λp hp z=>?_⟩
 ·obtain ⟨v,q⟩:=I.cell x c e
  exact absurd (lt_of_lt_of_le q.lt (by rw[z];exact hb)) (lt_irrefl _)
 ·exact absurd (lt_of_lt_of_le (lt_size (I.pin p hp).1) (by rw[z];exact hb)) (lt_irrefl _)
structure Turn(P:Program)(w:World)(K:W.Frag)(tg:Expr)(J:It)(fp:List Addr)(it:Addr)(tn:Nat->Heap->Prop):Prop where
 mem:it∈fp
 obj:∀i h,tn i h->∀b∈fp,∃o,h.get? b=some o/\∀v,o.data≠.cell v
 keep:∀i h h',tn i h->(∀b∈fp,∀o,h.get? b=some o->h'.get? b=some o)->tn i h'
 item:∀(X:Cx),X.prog=P->X.w=w->X.K=K->X.calm=true->∀(i:Nat) (pins:List (Addr×Obj)) (s:Shared) (σ:St) (H:Hp) (E:Value->Shared->Prop),Inv X pins σ H s->(∀b∈fp,FpOk X pins H b)->tn i s.heap->J.go i H->
  wpAny (model P w) X.A (pyNext (.ref it)) (λr s1=>∃u,r=some u/\
   wpAny (model P w) X.A (letOwnedTupleGo tg (.ref it) u) (λ_ s2=>∃x H',Inv X pins σ H' s2/\RelV x u/\J.yld i H x H'/\tn (i+1) s2.heap/\∀b∈fp,H' b=none) E s1) E s
 done:∀(X:Cx),X.prog=P->X.w=w->X.K=K->X.calm=true->∀(i:Nat) (pins:List (Addr×Obj)) (s:Shared) (σ:St) (H:Hp) (E:Value->Shared->Prop),Inv X pins σ H s->(∀b∈fp,FpOk X pins H b)->tn i s.heap->J.stop i H->
  wpAny (model P w) X.A (pyNext (.ref it)) (λr s1=>r=none/\Inv X pins σ H s1) E s
 self:∀(A:Around) (i:Nat) (s:Shared) (Q:Value->Shared->Prop) (E:Value->Shared->Prop),tn i s.heap->Q (.ref it) s->wpAny (model P w) A (pyIter (.ref it)) Q E s
abbrev TI:=St->Hp->(It->Hp->Prop)->Prop
def PIE(X:Cx)(pins:List (Addr×Obj))(σ:St)(tg:Expr)(R:It->Hp->Prop)(itv:Value)(s2:Shared):Prop:=
 ∃(it:Addr) (fp:List Addr) (tn:Nat->Heap->Prop) (J:It) (H':Hp),itv=.ref it/\Inv X pins σ H' s2/\Turn X.prog X.w X.K tg J fp it tn/\tn 0 s2.heap/\(∀b∈fp,FpOk X pins H' b)/\R J H'
def PI(X:Cx)(tg iter:Expr)(wi:TI):Prop:=
 ∀(pins:List (Addr×Obj)) (s:Shared) (σ:St) (H:Hp) (R:It->Hp->Prop),Inv X pins σ H s->wi σ H R->
  wpAny (model X.prog X.w) X.A (eval iter X.env) (λv s1=>wpAny (model X.prog X.w) X.A (pyIter v) (PIE X pins σ tg R) X.xe s1) X.xe s
theorem go_of{M:Model}{A:Around}{E:Value->Shared->Prop}{s:Shared}{tg:Expr}{it:Addr}{u:Value}{o:Obj}{n:String}{vs:Array Value}{Q:Unit->Shared->Prop}(ho:s.heap.get? it=some o)(hc:o.cls=.type n)(hd:o.data=.fields vs)
    (hn:["enumerate","zip","dict_itemiterator","dict_reverseitemiterator","odict_iterator","itertools.zip_longest","itertools.pairwise"].contains n=false) (hQ:Q () s):wpAny M A (letOwnedTupleGo tg (.ref it) u) Q E s:=by
  unfold letOwnedTupleGo
  cases tg<;>first
    |exact wpAny_pure hQ
    | (cases u<;>first
        |exact wpAny_pure hQ
        | (refine wpAny_bind (wpAny_load ho ?_)
           rw[hc,hd]
           show wpAny M A (if (["enumerate","zip","dict_itemiterator","dict_reverseitemiterator","odict_iterator","itertools.zip_longest","itertools.pairwise"].contains n&&vs[0]? == some (rawInt _))=true then _ else _) Q E s
           rw[if_neg (by intro h;rw[hn,Bool.false_and]at h;cases h)]
           exact wpAny_pure hQ))
def Itl(K:W.Frag)(a:Addr):It:=
 ⟨λi H=>∃xs x,SqL K H a xs/\xs[i]?=some x,λi H x H'=>H'=H/\∀xs,SqL K H a xs->xs[i]?=some x,λi H=>∃xs,SqL K H a xs/\xs.length<=i⟩
def Itr(lo:Int)(n:Nat):It:=⟨λi _=>i<n,λi H x H'=>H'=H/\x=.int (lo+i),λi _=>n<=i⟩
theorem qmj{P:Program}{w:World}{K:W.Frag}{tg:Expr}(a it:Addr):Turn P w K tg (Itl K a) [it] it (λi h=>h.IsListIter it a i) where
 mem:=by simp
 obj:=λi h st b hb=>by
  have e:b=it:=by simpa using hb
  subst e
  obtain ⟨o,e,c,d⟩:=st
  exact ⟨o,e,λv z=>by rw[d]at z;cases z⟩
 keep:=λi h h' st k=>st.at λo e=>k it (by simp) o e
 item:=by
  intro X hP hw hK hc i pins s σ H E I hf st hg
  subst hP hw hK
  obtain ⟨xs,x,hq,hx⟩:=hg
  obtain ⟨its,rv,p,hz⟩:=I.list hq
  obtain ⟨u,hu,ru⟩:=rv.get hx
  obtain ⟨f0,f1,f2,f3,f4,f5⟩:=hf it (by simp)
  refine wpAny_pyNext_list_item st p.isList (x:=u) (by simpa using hu) λh' st' sb=>?_
  have I1:Inv X pins σ H { s with heap:=h' }:=I.turned (t':=s.toks) (λb o hb e=>(sb.2 b hb).trans e) f0 f1 f3 f4 f5
  obtain ⟨o,e,c,d⟩:=id st'
  exact ⟨u,rfl,go_of (s:={ s with heap:=h' }) e c d (by decide) ⟨x,H,I1,ru,⟨rfl,λys hy=>by rw[I.list_inj hy hq];exact hx⟩,st',λb hb=>(hf b hb).1⟩⟩
 done:=by
  intro X hP hw hK hc i pins s σ H E I hf st hg
  subst hP hw hK
  obtain ⟨xs,hq,hx⟩:=hg
  obtain ⟨its,rv,p,hz⟩:=I.list hq
  obtain ⟨f0,f1,f2,f3,f4,f5⟩:=hf it (by simp)
  have hl:=rv.length
  exact wpAny_pyNext_list_end (I.ok.hd hc) st p.isList (by simp;omega) λh' eb=>⟨rfl,I.turned (t':=s.toks) (λb o hb e=>eb b o hb e) f0 f1 f3 f4 f5⟩
 self:=λ_ _ _ _ _ st h=>wpAny_pyIter_listiter st h
theorem ykk{P:Program}{w:World}{K:W.Frag}{tg:Expr}(it:Addr)(lo:Int)(n:Nat):Turn P w K tg (Itr lo n) [it] it (λi h=>IsRangeIter h it (lo+(i:Nat)*1) ((n:Int)-(i:Nat)) 1) where
 mem:=by simp
 obj:=λi h st b hb=>by
  have e:b=it:=by simpa using hb
  subst e
  exact ⟨_,st,λv z=>by
   have z':Data.fields _=Data.cell v:=z
   cases z'⟩
 keep:=λi h h' st k=>k it (by simp) _ st
 item:=by
  intro X hP hw hK hc i pins s σ H E I hf st hg
  subst hP hw hK
  obtain ⟨f0,f1,f2,f3,f4,f5⟩:=hf it (by simp)
  have W:=Walks.range (prog:=X.prog) (w:=X.w) (I.ok.hd hc) it lo 1 n
  refine W.item i s _ _ hg st λv h' tk hv st' kk=>?_
  obtain ⟨t,rfl⟩:=hv
  have I1:Inv X pins σ H { s with heap:=h',toks:=tk }:=I.turned (λb o hb e=>kk b o (by simpa using hb) e) f0 f1 f3 f4 f5
  refine ⟨_,rfl,go_of (s:={ s with heap:=h',toks:=tk }) (n:="range_iterator") st' rfl rfl (by decide) ⟨.int (lo+i),H,I1,⟨t,?_⟩,⟨rfl,rfl⟩,st',λb hb=>(hf b hb).1⟩⟩
  rw[Int.mul_one]
 done:=by
  intro X hP hw hK hc i pins s σ H E I hf st hg
  subst hP hw hK
  obtain ⟨f0,f1,f2,f3,f4,f5⟩:=hf it (by simp)
  exact wpAny_pyNext_range_end (I.ok.hd hc) st (by have:n<=i:=hg;omega) λh' eb=>⟨rfl,I.turned (t':=s.toks) (λb o hb e=>eb b o hb e) f0 f1 f3 f4 f5⟩
 self:=λ_ _ _ _ _ st h=>wpAny_pyIter_rangeiter st h
section
variable {X:Cx}{tg:Expr}
def iList(K:W.Frag)(tl:TE):TI:=λσ H R=>tl σ H λx H1=>∃a,x=.ref a/\(∃xs,SqL K H1 a xs)/\R (Itl K a) H1
theorem yck{l:Expr}{tl:TE}(hl:PE X l tl):PI X tg l (iList X.K tl):=by
 intro pins s σ H R I h
 refine thn (hl pins s σ H _ I h) λv s1 ⟨x,H1,I1,r1,q1⟩=>?_
 obtain ⟨a,e,⟨xs,hq⟩,q⟩:=q1
 subst e
 cases r1
 obtain ⟨its,rv,p,hz⟩:=I1.list hq
 refine wpAny_pyIter_list p.isList ?_
 refine ⟨s1.heap.objs.size,[s1.heap.objs.size],_,_,H1,rfl,I1.kept (t':=s1.toks) λb o e=>get?_push_of_some _ e,qmj a _,⟨_,get?_push_size _ rfl,rfl,rfl⟩,λb hb=>?_,q⟩
 have e:b=s1.heap.objs.size:=by simpa using hb
 subst e
 exact I1.fpOk (le_refl _) (I1.hok.fresh (le_refl _))
theorem range_it{pins:List (Addr×Obj)}{σ:St}{H:Hp}{s:Shared}{R:It->Hp->Prop}{E:Value->Shared->Prop}{lo hi:Int}{t u v:Tok}{tk:Nat}(I:Inv X pins σ H s)(h1:-(2 ^ 62)<=lo)(h2:lo<2 ^ 62)(h3:-(2 ^ 62)<=hi)(h4:hi<2 ^ 62)
  (q:R (Itr lo (hi-lo).toNat) H):wpAny (model X.prog X.w) X.A (pyIter (.ref s.heap.objs.size)) (PIE X pins σ tg R) E { s with heap:=s.heap.push { cls:=.type "range",data:=.fields #[.int lo t,.int hi u,.int 1 v] },toks:=tk }:=by
 refine wpAny_pyIter_range (IsRange.new ..) (small_one h1 h2 h3 h4) ?_
 have I1:Inv X pins σ H { s with heap:=s.heap.push { cls:=.type "range",data:=.fields #[.int lo t,.int hi u,.int 1 v] },toks:=tk }:=I.kept λb o e=>get?_push_of_some _ e
 refine ⟨(s.heap.push { cls:=.type "range",data:=.fields #[.int lo t,.int hi u,.int 1 v] }).objs.size,[(s.heap.push { cls:=.type "range",data:=.fields #[.int lo t,.int hi u,.int 1 v] }).objs.size],_,_,H,rfl,
  I1.kept (t':=tk) λb o e=>get?_push_of_some _ e,ykk _ lo (hi-lo).toNat,?_,λb hb=>?_,q⟩
 ·have e1:lo+((0:Nat):Int)*1=lo:=by simp
  have e2:(((hi-lo).toNat:Nat):Int)-((0:Nat):Int)=Builtin.Range.rangeSize lo hi 1:=by rw[rangeSize_one];split<;>omega
  show IsRangeIter _ _ (lo+((0:Nat):Int)*1) ((((hi-lo).toNat:Nat):Int)-((0:Nat):Int)) 1
  rw[e1,e2]
  exact get?_push_size _ rfl
 ·have e:b=(s.heap.push { cls:=.type "range",data:=.fields #[.int lo t,.int hi u,.int 1 v] }).objs.size:=by simpa using hb
  subst e
  exact I1.fpOk (le_refl _) (I1.hok.fresh (le_refl _))
def iRng1(ta:TA):TI:=λσ H R=>ta σ H λvs H1=>∃j:Int,vs=[.int j]/\-(2 ^ 62)<=j/\j<2 ^ 62/\R (Itr 0 j.toNat) H1
theorem qby{a:Expr}{ta:TA}{p pos:Pos}(hg:Gl X "range")(hm:X.mg "range"=none)(ha:PA X [a] ta)(hs:starEach [a] X.env=[(false,eval a X.env)]:=by rfl):PI X tg (.Call (.Name "range" p) [a] [] pos) (iRng1 ta):=by
 intro pins s σ H R I h
 refine Call_ (yc3 I hg hm boot_range (PyProof.Rows.callWith_type1 (thn (ha pos pins s σ H _ I h) λus s1 ⟨vs,H1,I1,r1,q1⟩=>?_) hs rfl))
 obtain ⟨j,e,q1,q2,q⟩:=q1
 subst e
 cases r1 with
 |cons r rr=>
  cases rr
  obtain ⟨t,rfl⟩:=r
  exact call_range_1 (range_it I1 (by omega) (by omega) q1 q2 (by simpa using q))
def tFor(wi:TI)(g:TG)(tb:TS):TS:=λD σ H=>wi σ H λJ H1=>∃W:Nat->Nat->St->Hp->Prop,(∃m,W 0 m σ H1)/\∀i m σ H,W i m σ H->
 (J.stop i H/\D.nx σ H)\/(J.go i H/\∃N:St->Hp->Prop,(∀σ' H',N σ' H'->∃m',m' < m/\W (i+1) m' σ' H')/\∀x H',J.yld i H x H'->g x σ H' λσ2 H2=>tb { D with nx:=N,ct:=N,bk:=D.nx } σ2 H2)
def yhj(fp:List Addr)(h:Heap):List (Addr×Obj):=fp.filterMap λb=>(h.get? b).map λo=>(b,o)
theorem qdl{fp:List Addr}{h:Heap}{b:Addr}{o:Obj}(hb:b∈fp)(e:h.get? b=some o):(b,o)∈yhj fp h:=List.mem_filterMap.mpr ⟨b,hb,by rw[e];rfl⟩
theorem yl7{fp:List Addr}{h:Heap}{p:Addr×Obj}(hp:p∈yhj fp h):p.1∈fp/\h.get? p.1=some p.2:=by
 obtain ⟨b,hb,e⟩:=List.mem_filterMap.mp hp
 cases q:h.get? b with
 |none=>rw[q]at e;cases e
 |some o=>
  rw[q]at e
  have e':(b,o)=p:=Option.some.inj e
  subst e'
  exact ⟨hb,q⟩
theorem Inv.pinned{pins:List (Addr×Obj)}{σ:St}{H:Hp}{s:Shared}{fp:List Addr}(I:Inv X pins σ H s)(hf:∀b∈fp,FpOk X pins H b)(ho:∀b∈fp,∃o,s.heap.get? b=some o/\∀v,o.data≠.cell v):Inv X (pins++yhj fp s.heap) σ H s:=
 I.pins_of λp hp=>(mem_append.mp hp).elim (λz=>I.pin p (mem_append_right _ z)) λz=>by
  obtain ⟨hb,e⟩:=yl7 z
  obtain ⟨f0,f1,f2,_⟩:=hf p.1 hb
  obtain ⟨o,e',d⟩:=ho p.1 hb
  rw[e]at e';cases e'
  exact ⟨e,f0,f1,f2,d⟩
theorem Inv.unpinned{pins pl:List (Addr×Obj)}{σ:St}{H:Hp}{s:Shared}(I:Inv X (pins++pl) σ H s):Inv X pins σ H s:=I.pins_of λp hp=>I.pin p (mem_append_right _ (List.mem_append_left _ hp))
theorem ps_for{iter:Expr}{body:List Stmt}{wi:TI}{g:TG}{tb:TS}{pos:Pos}(hp:PassesOwn (model X.prog X.w) X.A X.env X.xe)(hc:X.calm=true)(hi:PI X tg iter wi)(hg:PG X tg g)(hb:PSs X body tb)
  (hs:∀x,foldedSetIterable iter X.env x=pure x:=by intro _;rfl):PS X (.For tg iter body [] pos) (tFor wi g tb):=by
 intro pins s σ H D I h
 refine wpAny_For (thn (hi pins s σ H _ I h) λv s1 h1=>thn h1 λitv s2 h2=>?_) hs
 obtain ⟨it,fp,tn,J,H2,e,I2,T,st2,f2,W,⟨m0,w0⟩,turn⟩:=h2
 subst e
 -- what stays true of the iterator's objects through the loop
 have stat:∀{H':Hp},(∀b∈fp,H' b=none)->∀b∈fp,FpOk X pins H' b:=λhn b hb=>⟨hn b hb,(f2 b hb).2⟩
 refine codeAny_forLoop_any (λn s'=>∃i σ' H',Inv X pins σ' H' s'/\tn i s'.heap/\(∀b∈fp,H' b=none)/\W i n σ' H') ?_ m0 ⟨0,σ,H2,I2,st2,λb hb=>(f2 b hb).1,w0⟩
 rintro n s3 ⟨i,σ3,H3,I3,st3,fr3,w3⟩
 rcases turn i n σ3 H3 w3 with ⟨stop,qn⟩|⟨go,N,hN,step⟩
 ·refine wpAny_passesOwn hp (thn (T.done X rfl rfl rfl hc i pins s3 σ3 H3 X.xe I3 (stat fr3) st3 stop) λr s4 ⟨hr,I4⟩=>?_)
  subst hr
  exact wpAny_execs_nil ⟨σ3,H3,I4,qn⟩
 ·refine wpAny_passesOwn hp (thn (T.item X rfl rfl rfl hc i pins s3 σ3 H3 X.xe I3 (stat fr3) st3 go) λr s4 ⟨u,hr,h4⟩=>?_)
  subst hr
  refine wpAny_passesOwn hp (thn h4 λ_ s5 ⟨x,H5,I5,r5,y5,st5,fr5⟩=>?_)
  have I5':=I5.pinned (stat fr5) (T.obj _ _ st5)
  refine wpAny_passesOwn hp (thn (hg _ s5 σ3 H5 x u _ I5' r5 (step x H5 y5)) λ_ s6 ⟨σ6,H6,I6,q6⟩=>?_)
  refine wpAny_passesOwn hp (thn (hb _ s6 σ6 H6 _ I6 q6) λf s7 q7=>?_)
  have again:∀{σ7:St}{H7:Hp},Inv X (pins++yhj fp s5.heap) σ7 H7 s7->N σ7 H7->∃m,m<n/\∃i σ' H',Inv X pins σ' H' s7/\tn i s7.heap/\(∀b∈fp,H' b=none)/\W i m σ' H':=λ{σ7 H7} I7 n7=>by
   obtain ⟨m',hm,w7⟩:=hN σ7 H7 n7
   refine ⟨m',hm,i+1,σ7,H7,I7.unpinned,T.keep _ _ _ st5 λb hb o e=>(I7.pin (b,o) (mem_append_right _ (mem_append_right _ (qdl hb e)))).1,λb hb=>?_,w7⟩
   obtain ⟨o,e,d⟩:=T.obj _ _ st5 b hb
   exact (I7.pin (b,o) (mem_append_right _ (mem_append_right _ (qdl hb e)))).2.1
  cases f with
  |next=>obtain ⟨σ7,H7,I7,n7⟩:=q7;exact again I7 n7
  |cont=>obtain ⟨σ7,H7,I7,n7⟩:=q7;exact again I7 n7
  |brk=>obtain ⟨σ7,H7,I7,q7⟩:=q7;exact ⟨σ7,H7,I7.unpinned,q7⟩
  |ret v=>obtain ⟨x7,σ7,H7,I7,r7,q7⟩:=q7;exact ⟨x7,σ7,H7,I7.unpinned,r7,q7⟩
end
theorem qb3{K:W.Frag}{a:Addr}{xs:List V}{g:TG}{tb:TS}{D:Ends}{σ:St}{H:Hp}(Pv:Nat->St->Hp->Prop)(h0:Pv 0 σ H)(hl:∀i σ H,i<=xs.length->Pv i σ H->SqL K H a xs)
  (hs:∀i x σ H,xs[i]?=some x->Pv i σ H->g x σ H λσ2 H2=>tb { D with nx:=Pv (i+1),ct:=Pv (i+1),bk:=D.nx } σ2 H2) (hd:∀σ H,Pv xs.length σ H->D.nx σ H) :
  ∃W:Nat->Nat->St->Hp->Prop,(∃m,W 0 m σ H)/\∀i m σ H,W i m σ H->
   ((Itl K a).stop i H/\D.nx σ H)\/((Itl K a).go i H/\∃N:St->Hp->Prop,(∀σ' H',N σ' H'->∃m',m' < m/\W (i+1) m' σ' H')/\∀x H',(Itl K a).yld i H x H'->g x σ H' λσ2 H2=>tb { D with nx:=N,ct:=N,bk:=D.nx } σ2 H2):=by
 refine ⟨λi m σ H=>m=xs.length-i/\i<=xs.length/\Pv i σ H,⟨xs.length,by simp,zero_le _,h0⟩,?_⟩
 rintro i m σ H ⟨rfl,hi,p⟩
 have q:=hl i σ H hi p
 by_cases hlt:i<xs.length
 ·refine .inr ⟨⟨xs,xs[i],q,by simp[hlt]⟩,Pv (i+1),λσ' H' p'=>⟨xs.length-(i+1),by omega,rfl,hlt,p'⟩,λx H' y=>?_⟩
  obtain ⟨e,y⟩:=y
  subst e
  exact hs i x σ _ (y xs q) p
 ·have e:i=xs.length:=by omega
  subst e
  exact .inl ⟨⟨xs,q,le_refl _⟩,hd σ H p⟩
theorem ycl{lo:Int}{n:Nat}{g:TG}{tb:TS}{D:Ends}{σ:St}{H:Hp}(Pv:Nat->St->Hp->Prop)(h0:Pv 0 σ H)
  (hs:∀i σ H,i<n->Pv i σ H->g (.int (lo+i)) σ H λσ2 H2=>tb { D with nx:=Pv (i+1),ct:=Pv (i+1),bk:=D.nx } σ2 H2) (hd:∀σ H,Pv n σ H->D.nx σ H) :
  ∃W:Nat->Nat->St->Hp->Prop,(∃m,W 0 m σ H)/\∀i m σ H,W i m σ H->
   ((Itr lo n).stop i H/\D.nx σ H)\/((Itr lo n).go i H/\∃N:St->Hp->Prop,(∀σ' H',N σ' H'->∃m',m' < m/\W (i+1) m' σ' H')/\∀x H',(Itr lo n).yld i H x H'->g x σ H' λσ2 H2=>tb { D with nx:=N,ct:=N,bk:=D.nx } σ2 H2):=by
 refine ⟨λi m σ H=>m=n-i/\i<=n/\Pv i σ H,⟨n,by simp,zero_le _,h0⟩,?_⟩
 rintro i m σ H ⟨rfl,hi,p⟩
 by_cases hlt:i<n
 ·refine .inr ⟨hlt,Pv (i+1),λσ' H' p'=>⟨n-(i+1),by omega,rfl,hlt,p'⟩,λx H' y=>?_⟩
  obtain ⟨e,y⟩:=y
  subst e y
  exact hs i σ _ hlt p
 ·have e:i=n:=by omega
  subst e
  exact .inl ⟨le_refl _,hd σ H p⟩
abbrev R2:=V->V->Hp->VK->Prop
def OpR(X:Cx)(f:Value->Value->Sem Value)(r:R2):Prop:=
 ∀(pins:List (Addr×Obj)) (s:Shared) (σ:St) (H:Hp) (x y:V) (v u:Value) (Q:VK),Inv X pins σ H s->RelV x v->RelV y u->r x y H Q->
  wpAny (model X.prog X.w) X.A (f v u) (EP X pins σ Q) X.xe s
def UnR(X:Cx)(f:Value->Sem Value)(r:V->Hp->VK->Prop):Prop:=
 ∀(pins:List (Addr×Obj)) (s:Shared) (σ:St) (H:Hp) (x:V) (v:Value) (Q:VK),Inv X pins σ H s->RelV x v->r x H Q->
  wpAny (model X.prog X.w) X.A (f v) (EP X pins σ Q) X.xe s
def ycs(X:Cx)(f:Value)(r:List V->Hp->VK->Prop):Prop:=
 ∀(pins:List (Addr×Obj)) (s:Shared) (σ:St) (H:Hp) (xs:List V) (us:List Value) (Q:VK),Inv X pins σ H s->Vals xs us->r xs H Q->
  wpAny (model X.prog X.w) X.A (call f us) (EP X pins σ Q) X.xe s
def tOp(r:R2)(ta tb:TE):TE:=λσ H Q=>ta σ H λx H1=>tb σ H1 λy H2=>r x y H2 Q
def tUn(r:V->Hp->VK->Prop)(ta:TE):TE:=λσ H Q=>ta σ H λx H1=>r x H1 Q
def rI(C:Int->Int->Prop)(g:Int->Int->V):R2:=λx y H Q=>∃i j,x=.int i/\y=.int j/\C i j/\Q (g i j) H
def rI0(g:Int->Int->V):R2:=λx y H Q=>∃i j,x=.int i/\y=.int j/\Q (g i j) H
def rU(g:Int->V):V->Hp->VK->Prop:=λx H Q=>∃i,x=.int i/\Q (g i) H
section
variable {X:Cx}{a b c:Expr}{ta tb tc:TE}{pos:Pos}
theorem binT(ha:PE X a ta)(hb:PE X b tb){pins:List (Addr×Obj)}{s:Shared}{σ:St}{H:Hp}{R:V->V->Hp->Prop}(I:Inv X pins σ H s)
  (h:ta σ H λx H1=>tb σ H1 λy H2=>R x y H2) {Q:Value->Shared->Prop}{f:Value->Value->Sem Value}
  (hf:∀v u s2 x y H2,Inv X pins σ H2 s2->RelV x v->RelV y u->R x y H2->wpAny (model X.prog X.w) X.A (f v u) Q X.xe s2) :
  wpAny (model X.prog X.w) X.A (eval a X.env) (λv s₁=>wpAny (model X.prog X.w) X.A (eval b X.env) (λu s₂=>wpAny (model X.prog X.w) X.A (f v u) Q X.xe s₂) X.xe s₁) X.xe s:=by
 refine thn (ha pins s σ H _ I h) λv s1 ⟨x,H1,I1,r1,q1⟩=>?_
 refine thn (hb pins s1 σ H1 _ I1 q1) λu s2 ⟨y,H2,I2,r2,q2⟩=>?_
 exact hf v u s2 x y H2 I2 r1 r2 q2
theorem ybb{op:Operator}{r:R2}(ho:OpR X (binaryOp op) r)(ha:PE X a ta)(hb:PE X b tb):PE X (.BinOp a op b pos) (tOp r ta tb):=by
 intro pins s σ H Q I h
 exact wpAny_BinOp (binT ha hb I h λv u s2 x y H2 I2 rx ry q=>ho pins s2 σ H2 x y v u Q I2 rx ry q)
theorem pe_un{op:UnaryOp}{r:V->Hp->VK->Prop}(ho:UnR X (unaryOp op) r)(ha:PE X a ta):PE X (.UnaryOp op a pos) (tUn r ta):=by
 intro pins s σ H Q I h
 exact UnaryOp_ (thn (ha pins s σ H _ I h) λv s1 ⟨x,H1,I1,r1,q1⟩=>ho pins s1 σ H1 x v Q I1 r1 q1)
theorem opI{f:Value->Value->Sem Value}{C:Int->Int->Prop}{g:Int->Int->Int}
  (rule:∀(i j:Int) (t u:Tok) (s:Shared) (Q:Value->Shared->Prop) (E:Value->Shared->Prop),C i j->Q (.int (g i j) s.toks) { s with toks:=s.toks+1 }->wpAny (model X.prog X.w) X.A (f (.int i t) (.int j u)) Q E s) :
  OpR X f (rI C λi j=>.int (g i j)):=by
 intro pins s σ H x y v u Q I rx ry h
 obtain ⟨i,j,rfl,rfl,hc,q⟩:=h
 obtain ⟨t,rfl⟩:=rx
 obtain ⟨t',rfl⟩:=ry
 exact rule i j t t' s _ _ hc ⟨.int (g i j),H,I.tok _,⟨_,rfl⟩,q⟩
theorem opI0{f:Value->Value->Sem Value}{g:Int->Int->Int}
  (rule:∀(i j:Int) (t u:Tok) (s:Shared) (Q:Value->Shared->Prop) (E:Value->Shared->Prop),Q (.int (g i j) s.toks) { s with toks:=s.toks+1 }->wpAny (model X.prog X.w) X.A (f (.int i t) (.int j u)) Q E s) :
  OpR X f (rI0 λi j=>.int (g i j)):=by
 intro pins s σ H x y v u Q I rx ry h
 obtain ⟨i,j,rfl,rfl,q⟩:=h
 obtain ⟨t,rfl⟩:=rx
 obtain ⟨t',rfl⟩:=ry
 exact rule i j t t' s _ _ ⟨.int (g i j),H,I.tok _,⟨_,rfl⟩,q⟩
theorem opB0{f:Value->Value->Sem Value}{g:Int->Int->Bool}
  (rule:∀(i j:Int) (t u:Tok) (s:Shared) (Q:Value->Shared->Prop) (E:Value->Shared->Prop),Q (.bool (g i j)) s->wpAny (model X.prog X.w) X.A (f (.int i t) (.int j u)) Q E s) :
  OpR X f (rI0 λi j=>.bl (g i j)):=by
 intro pins s σ H x y v u Q I rx ry h
 obtain ⟨i,j,rfl,rfl,q⟩:=h
 obtain ⟨t,rfl⟩:=rx
 obtain ⟨t',rfl⟩:=ry
 exact rule i j t t' s _ _ ⟨.bl (g i j),H,I,rfl,q⟩
def CDiv(i j:Int):Prop:=0<j/\j<1073741824
def CPow(i j:Int):Prop:=0<=j/\j<=1000000/\i.natAbs<2 ^ 64
def CMul(i j:Int):Prop:=(-(2 ^ 64)<i/\i<2 ^ 64)\/(-(2 ^ 64)<j/\j<2 ^ 64)
theorem CMul.ok{i j:Int}(h:CMul i j):IntMulOk i j:=by
 rcases h with ⟨h1,h2⟩|⟨h1,h2⟩
 ·exact .of_left (intBits_le_64 h1 h2)
 ·exact .of_right (intBits_le_64 h1 h2)
theorem yc4:OpR X (binaryOp .Add) (rI0 λi j=>.int (i+j)):=opI0 λ_ _ _ _ _ _ _ q=>add_int q
theorem yjc:OpR X (binaryOp .Sub) (rI0 λi j=>.int (i-j)):=opI0 λ_ _ _ _ _ _ _ q=>sub_int q
theorem qgb:OpR X (binaryOp .Mult) (rI CMul λi j=>.int (i*j)):=opI λ_ _ _ _ _ _ _ hc q=>mul_int q hc.ok
theorem yis:OpR X (binaryOp .FloorDiv) (rI CDiv λi j=>.int (i / j)):=opI λi j _ _ _ _ _ hc q=>by
 have h1:(0:Int)<j:=hc.1
 have h2:j<1073741824:=hc.2
 exact floordiv_int (by omega) (by rw[Int.fdiv_eq_ediv_of_nonneg i (by omega)];exact q) (.inl (PyProof.noPylong_small (by omega)))
theorem qb2:OpR X (binaryOp .Mod) (rI (λ_ j=>0<j) λi j=>.int (i % j)):=opI λi j _ _ _ _ _ hc q=>by
 have h1:(0:Int)<j:=hc
 exact mod_int' (by omega) (by rw[Int.fmod_eq_emod_of_nonneg i (by omega)];exact q)
theorem op_pow:OpR X (binaryOp .Pow) (rI CPow λi j=>.int (i ^ j.toNat)):=opI λ_ _ _ _ _ _ _ hc q=>pow_int_small hc.1 hc.2.1 hc.2.2 q
theorem unI{f:Value->Sem Value}{g:Int->Int}
  (rule:∀(i:Int) (t:Tok) (s:Shared) (Q:Value->Shared->Prop) (E:Value->Shared->Prop),Q (.int (g i) s.toks) { s with toks:=s.toks+1 }->wpAny (model X.prog X.w) X.A (f (.int i t)) Q E s) :
  UnR X f (rU λi=>.int (g i)):=by
 intro pins s σ H x v Q I rx h
 obtain ⟨i,rfl,q⟩:=h
 obtain ⟨t,rfl⟩:=rx
 exact rule i t s _ _ ⟨.int (g i),H,I.tok _,⟨_,rfl⟩,q⟩
theorem un_neg:UnR X (unaryOp .USub) (rU λi=>.int (-i)):=unI λ_ _ _ _ _ q=>neg_int q
def scal:V->V->Bool
 |.non,.non=>true|.non,.int _=>true|.int _,.non=>true|.non,.bl _=>true|.bl _,.non=>true|.non,.str _=>true|.str _,.non=>true
 |.int _,.int _=>true|.bl _,.bl _=>true|.str _,.str _=>true|.byt _,.byt _=>true
 |.int _,.str _=>true|.str _,.int _=>true|.bl _,.str _=>true|.str _,.bl _=>true
 |_,_=>false
def rEq:R2:=λx y H Q=>scal x y=true/\Q (.bl (decide (x=y))) H
def rNe:R2:=λx y H Q=>scal x y=true/\Q (.bl (!decide (x=y))) H
theorem yly{i j:Int}:decide (V.int i=V.int j)=(i == j):=by
 rw[Bool.eq_iff_iff]
 simp
theorem dec_bl{i j:Bool}:decide (V.bl i=V.bl j)=(i == j):=by
 rw[Bool.eq_iff_iff]
 simp
theorem qmq{i j:Str}:decide (V.str i=V.str j)=(i == j):=by
 rw[Bool.eq_iff_iff]
 simp
theorem qmp{i j:Array UInt8}:decide (V.byt i=V.byt j)=(i.toList == j.toList):=by
 rw[Bool.eq_iff_iff]
 cases i
 cases j
 simp
theorem qa0{pins:List (Addr×Obj)}{σ:St}{H:Hp}{s:Shared}{Q:VK}{k k':Bool}(I:Inv X pins σ H s)(q:Q (.bl k) H)(e:k=k'):EP X pins σ Q (.bool k') s:=by
 subst e
 exact ⟨.bl k,H,I,rfl,q⟩
theorem ya6:OpR X (compareOp .Eq) rEq:=by
 intro pins s σ H x y v u Q I rx ry h
 obtain ⟨hs,q⟩:=h
 cases x with
 |non=>
  cases rx
  cases y with
  |non=>cases ry;exact PySem.EqNone.eq_none_none (qa0 I q (by simp))
  |bl j=>cases ry;exact PySem.EqNone.eq_none_bool (qa0 I q (by simp))
  |int j=>obtain ⟨t',rfl⟩:=ry;exact PySem.EqNone.eq_none_int (qa0 I q (by simp))
  |str j=>obtain ⟨t',rfl⟩:=ry;exact PySem.EqNone.eq_none_str (qa0 I q (by simp))
  |_=>exact absurd (show false=true from hs) Bool.false_ne_true
 |bl i=>
  cases rx
  cases y with
  |non=>cases ry;exact PySem.EqNone.eq_bool_none (qa0 I q (by simp))
  |bl j=>cases ry;exact eq_bool (qa0 I q dec_bl)
  |str j=>obtain ⟨t',rfl⟩:=ry;exact PySem.EqMixed.eq_bool_str (qa0 I q (by simp))
  |_=>exact absurd (show false=true from hs) Bool.false_ne_true
 |int i=>
  obtain ⟨t,rfl⟩:=rx
  cases y with
  |non=>cases ry;exact PySem.EqNone.eq_int_none (qa0 I q (by simp))
  |int j=>obtain ⟨t',rfl⟩:=ry;exact eq_int (qa0 I q yly)
  |str j=>obtain ⟨t',rfl⟩:=ry;exact PySem.EqMixed.eq_int_str (qa0 I q (by simp))
  |_=>exact absurd (show false=true from hs) Bool.false_ne_true
 |str i=>
  obtain ⟨t,rfl⟩:=rx
  cases y with
  |non=>cases ry;exact PySem.EqNone.eq_str_none (qa0 I q (by simp))
  |bl j=>cases ry;exact PySem.EqMixed.eq_str_bool (qa0 I q (by simp))
  |int j=>obtain ⟨t',rfl⟩:=ry;exact PySem.EqMixed.eq_str_int (qa0 I q (by simp))
  |str j=>obtain ⟨t',rfl⟩:=ry;exact eq_str (qa0 I q qmq)
  |_=>exact absurd (show false=true from hs) Bool.false_ne_true
 |byt i=>
  obtain ⟨t,rfl⟩:=rx
  cases y with
  |byt j=>obtain ⟨t',rfl⟩:=ry;exact W.eq_bytes (qa0 I q qmp)
  |_=>exact absurd (show false=true from hs) Bool.false_ne_true
 |_=>cases y<;>exact absurd (show false=true from hs) Bool.false_ne_true
theorem yhw:OpR X (compareOp .NotEq) rNe:=by
 intro pins s σ H x y v u Q I rx ry h
 obtain ⟨hs,q⟩:=h
 cases x with
 |non=>
  cases rx
  cases y with
  |non=>cases ry;exact PySem.EqNone.ne_none_none (qa0 I q (by simp))
  |bl j=>cases ry;exact PySem.EqNone.ne_none_bool (qa0 I q (by simp))
  |int j=>obtain ⟨t',rfl⟩:=ry;exact PySem.EqNone.ne_none_int (qa0 I q (by simp))
  |str j=>obtain ⟨t',rfl⟩:=ry;exact PySem.EqNone.ne_none_str (qa0 I q (by simp))
  |_=>exact absurd (show false=true from hs) Bool.false_ne_true
 |bl i=>
  cases rx
  cases y with
  |non=>cases ry;exact PySem.EqNone.ne_bool_none (qa0 I q (by simp))
  |bl j=>cases ry;exact ne_bool (qa0 I q (congrArg not dec_bl))
  |str j=>obtain ⟨t',rfl⟩:=ry;exact PySem.EqMixed.ne_bool_str (qa0 I q (by simp))
  |_=>exact absurd (show false=true from hs) Bool.false_ne_true
 |int i=>
  obtain ⟨t,rfl⟩:=rx
  cases y with
  |non=>cases ry;exact PySem.EqNone.ne_int_none (qa0 I q (by simp))
  |int j=>obtain ⟨t',rfl⟩:=ry;exact ne_int (qa0 I q (congrArg not yly))
  |str j=>obtain ⟨t',rfl⟩:=ry;exact PySem.EqMixed.ne_int_str (qa0 I q (by simp))
  |_=>exact absurd (show false=true from hs) Bool.false_ne_true
 |str i=>
  obtain ⟨t,rfl⟩:=rx
  cases y with
  |non=>cases ry;exact PySem.EqNone.ne_str_none (qa0 I q (by simp))
  |bl j=>cases ry;exact PySem.EqMixed.ne_str_bool (qa0 I q (by simp))
  |int j=>obtain ⟨t',rfl⟩:=ry;exact PySem.EqMixed.ne_str_int (qa0 I q (by simp))
  |str j=>obtain ⟨t',rfl⟩:=ry;exact ne_str (qa0 I q (congrArg not qmq))
  |_=>exact absurd (show false=true from hs) Bool.false_ne_true
 |byt i=>
  obtain ⟨t,rfl⟩:=rx
  cases y with
  |byt j=>obtain ⟨t',rfl⟩:=ry;exact W.ne_bytes (qa0 I q (congrArg not qmp))
  |_=>exact absurd (show false=true from hs) Bool.false_ne_true
 |_=>cases y<;>exact absurd (show false=true from hs) Bool.false_ne_true
theorem op_lt:OpR X (compareOp .Lt) (rI0 λi j=>.bl (decide (i<j))):=opB0 λ_ _ _ _ _ _ _ q=>lt_int q
theorem op_le:OpR X (compareOp .LtE) (rI0 λi j=>.bl (decide (i<=j))):=opB0 λ_ _ _ _ _ _ _ q=>le_int q
theorem qhp:OpR X (compareOp .Gt) (rI0 λi j=>.bl (decide (j<i))):=opB0 λ_ _ _ _ _ _ _ q=>gt_int q
theorem qkb:OpR X (compareOp .GtE) (rI0 λi j=>.bl (decide (j<=i))):=opB0 λ_ _ _ _ _ _ _ q=>ge_int q
theorem yai(b:Expr){op:CmpOp}(h:op≠.In:=by decide)(h2:op≠.NotIn:=by decide):behindInMarks op b=false:=by
 have e1:(op == CmpOp.In)=false:=by cases op<;>first|rfl|exact absurd rfl h
 have e2:(op == CmpOp.NotIn)=false:=by cases op<;>first|rfl|exact absurd rfl h2
 cases b<;>simp[behindInMarks,e1,e2]
theorem ya4{op:CmpOp}{r:R2}(ho:OpR X (compareOp op) r)(ha:PE X a ta)(hb:PE X b tb)(hm:behindInMarks op b=false):PE X (.Compare a [op] [b] pos) (tOp r ta tb):=by
 intro pins s σ H Q I h
 exact wpAny_Compare1 (binT ha hb I h λv u s2 x y H2 I2 rx ry q=>ho pins s2 σ H2 x y v u Q I2 rx ry q) hm
def tTest(t:TE):TT:=λσ H Q=>t σ H λx H'=>∃k,x=.bl k/\Q k H'
theorem qb1{op:CmpOp}{r:R2}(ho:OpR X (compareOp op) r)(ha:PE X a ta)(hb:PE X b tb)(hm:behindInMarks op b=false):PT X (.Compare a [op] [b] pos) (tTest (tOp r ta tb)):=by
 intro pins s σ H Q I h
 refine wpAny_isTrue_Compare1 (thn (ha pins s σ H _ I h) λv s1 ⟨x,H1,I1,r1,q1⟩=>thn (hb pins s1 σ H1 _ I1 q1) λu s2 ⟨y,H2,I2,r2,q2⟩=>
  thn (ho pins s2 σ H2 x y v u _ I2 r1 r2 q2) λc s3 ⟨z,H3,I3,r3,k,e,q3⟩=>?_) hm
 subst e
 cases r3
 exact wpAny_truthy_bool ⟨H3,I3,q3⟩
theorem qjk:(sizeLine:Nat)<2 ^ 63:=by rw[sizeLine_eq];decide
theorem yhm{x:V}{us:List Value}(r:Vals [x] us):∃u,us=[u]/\RelV x u:=by
 cases r with
 |cons r1 r2=>cases r2;exact ⟨_,rfl,r1⟩
theorem call_abs:ycs X (.builtin "abs") (λxs H Q=>∃i,xs=[.int i]/\Q (.int (if i<0 then -i else i)) H):=by
 intro pins s σ H xs us Q I r h
 obtain ⟨i,rfl,q⟩:=h
 obtain ⟨u,rfl,t,rfl⟩:=yhm r
 exact call_abs_int λu tk=>⟨.int (if i<0 then -i else i),H,I.tok _,⟨_,rfl⟩,q⟩
theorem ymv:ycs X (.type "int") (λxs H Q=>(∃i,xs=[.int i]/\Q (.int i) H)\/∃k,xs=[.bl k]/\Q (.int (if k then 1 else 0)) H):=by
 intro pins s σ H xs us Q I r h
 rcases h with ⟨i,rfl,q⟩|⟨k,rfl,q⟩
 ·obtain ⟨u,rfl,t,rfl⟩:=yhm r
  exact call_int_int ⟨.int i,H,I,⟨_,rfl⟩,q⟩
 ·obtain ⟨u,rfl,r1⟩:=yhm r
  cases r1
  exact call_int_bool ⟨.int (if k then 1 else 0),H,I.tok _,⟨_,rfl⟩,q⟩
end
structure ObjM(h:Heap)(x dx C:Addr)(mA:Str->Option Value):Prop where
 obj:h.get? x=some (W.instObj C dx)
 ns:h.Ns1 dx mA
 ne:dx≠x
theorem qmd{h:Heap}{dx:Addr}{mA:Str->Option Value}(n:h.Ns1 dx mA):∃od,h.get? dx=some od/\∀name,W.lookIn name od=some (mA name):=by
 obtain ⟨o,es,ep,ho,hd,hk,_,hm⟩:=n
 refine ⟨o,ho,λname=>?_⟩
 have e:=hm name
 unfold nsFind findBy at e
 rw[<-Array.find?_toList]at e
 unfold W.lookIn
 rw[hd]
 dsimp only
 split
 ·rename_i y q
  rw[q]at e
  exact congrArg some e
 ·rename_i q
  rw[q]at e
  have a:es.toList.any (·.refKey)=false:=by
   rw[List.any_eq_false]
   intro y hy
   obtain ⟨z,t,hkey⟩:=hk y (Array.mem_toList_iff.mp hy)
   simp[DictEntry.refKey,hkey]
  have a':¬ es.toList.any (·.refKey)=true:=by rw[a];exact Bool.false_ne_true
  rw[if_neg a']
  exact congrArg some e
theorem ObjM.look{h:Heap}{x dx C:Addr}{mA:Str->Option Value}(I:ObjM h x dx C mA):∃od,W.InstAt h x (W.instObj C dx) C (some od)/\∀name,W.lookIn name od=some (mA name):=
 let ⟨od,ho,hl⟩:=qmd I.ns
 ⟨od,⟨I.obj,rfl,rfl,ho⟩,hl⟩
section
variable {prog:Program}{w:World}{A:Around}{E:Value->Shared->Prop}{s:Shared}{K:W.Frag}{x dx C f:Addr}{mA:Str->Option Value}{name:Str}{v:Value}
theorem get_map{expr:Bool}{Q:Value->Shared->Prop}(X:K.In s.heap)(I:ObjM s.heap x dx C mA)(hg:W.plainGet K C name=true)(hh:W.hasDictIn K C=true)
  (ha:W.findIn K (.ref C) name=some none) (hv:mA name=some v) (hv':W.handedIn v=true) (h:Q v { s with toks:=s.toks+1 }) :
  wpAny (model prog w) A (getAttr (.ref x) name expr) Q E s:=by
 obtain ⟨od,J,hl⟩:=I.look
 exact W.get_value X J (W.plainGet_of hg).1 (W.findObj_own hh ha rfl (by rw[hl,hv])) hv' h
theorem get_meth{pl:Sem Bool}{Q:Value×List Value->Shared->Prop}(X:K.In s.heap)(I:ObjM s.heap x dx C mA)(hg:W.plainGet K C name=true)
  (hf:W.findIn K (.ref C) name=some (some (.ref f))) (ht:W.isFn K (.ref f)=true) (hv:mA name=none) (h:Q (.ref f,[.ref x]) s) :
  wpAny (model prog w) A (getMethod (.ref x) name pl) Q E s:=by
 obtain ⟨od,J,hl⟩:=I.look
 exact W.method_fn X J (W.plainGet_of hg).1 (W.plainGet_of hg).2 hf (beq_iff_eq.mp ht) (by show (W.lookIn name od).map (·.isSome)=some false;rw[hl,hv];rfl) h
theorem set_map{ns:List Str}{Q:Unit->Shared->Prop}(X:K.In s.heap)(I:ObjM s.heap x dx C mA)
  (hs:W.findIn K (.ref C) "__setattr__"=some (some (.builtin "object.__setattr__"))) (hp:W.plainOver K C=true) (ht:W.takerIn K C name=some none) (hh:W.hasDictIn K C=true)
  (hw:PySem.Within mA ns) (hsz:ns.length<=sizeLine)
  (h:∀h',ObjM h' x dx C (λy=>if y=name then some v else mA y)->Heap.SameBut dx s.heap h'->Q () { s with heap:=h',toks:=s.toks+2 }) :
  wpAny (model prog w) A (setAttr (.ref x) name v) Q E s:=by
 obtain ⟨od,J,hl⟩:=I.look
 refine W.set_plain X J hs (W.osa_open (s:={ s with toks:=s.toks+1 }) (r:=none) X J hp ht λb=>?_)
 obtain ⟨cd,hc,hd'⟩:=W.any_some hh
 have hx:s.heap.get? x=some ⟨.ref C,some dx,.plain,#[]⟩:=I.obj
 refine wpAny_bind (wpAny_pure (wpAny_bind (wpAny_bind (wpAny_loadPart hx (wpAny_bind (W.Looks.here (s:={ s with toks:=s.toks+1 }) (W.looks_clsIn X hc) ?_))))))
 rw[hd']
 refine wpAny_pure (a:=some dx) (wpAny_bind (wpAny_pure (wpAny_bind ?_)))
 refine wpAny_nsSet1 (s:={ s with toks:=s.toks+1 }) I.ns λh' hn2 hs2=>?_
 obtain ⟨oD,esD,epD,hoD,hdD,hcD⟩:=hn2.count (PySem.Within.cons name v hw)
 refine wpAny_bind (wpAny_lookBehind hoD (by rw[hdD];exact pastItsLine_dict (le_trans hcD (by rw[length_cons];omega))) ?_)
 exact wpAny_pure (h _ ⟨(hs2.2 _ (Ne.symm I.ne)).trans I.obj,hn2,I.ne⟩ hs2)
theorem make_map{R:Result->Shared->Prop}{vs:List Value}{kw:List (Str×Value)}(X:K.In s.heap)(hm:W.makesIn K C=true)
  (hi:W.findIn K (.ref C) "__init__"=some (some (.ref f))) (hf:W.typeIn K (.ref f)=some (.type "function"))
  (h:codeAny (model prog w) (A.under (.builtin "type.__call__" ⟨.ref C::vs,kw⟩)) (.call (.ref f) ⟨.ref (s.heap.objs.size+1)::vs,kw⟩) (W.InitBack (s.heap.objs.size+1) R)
   {s with heap:=(s.heap.push W.emptyDict).push (W.instObj C s.heap.objs.size) }) :
  codeAny (model prog w) A (.call (.ref C) ⟨vs,kw⟩) R s:=by
 obtain ⟨hh,g,d,t,os⟩:=s
 exact W.make_core (W.makes_of X hm) (W.looks_findIn X hi) (λself=>W.bind_fn X self hf) (.inl rfl) h
end
def putF(f:Str)(v:V):List (Str×V)->List (Str×V)
 |[]=>[(f,v)]
 | (g,x)::r=>if g=f then (g,v)::r else (g,x)::putF f v r
theorem qdx(f g:Str)(v:V):∀fs:List (Str×V),(putF f v fs).lookup g=if g=f then some v else fs.lookup g
 |[]=>by
  show List.lookup g [(f,v)]=_
  by_cases h:g=f
  ·have hb:(g == f)=true:=beq_iff_eq.mpr h
   simp only[List.lookup,hb,if_pos h]
  ·have hb:(g == f)=false:=beq_eq_false_iff_ne.mpr h
   simp only[List.lookup,hb,if_neg h]
 | (k,x)::r=>by
  have ih:=qdx f g v r
  rw[show putF f v ((k,x)::r)=(if k=f then (k,v)::r else (k,x)::putF f v r) from rfl]
  by_cases hk:k=f
  ·rw[if_pos hk]
   by_cases h:g=k
   ·have hb:(g == k)=true:=beq_iff_eq.mpr h
    simp only[List.lookup,hb,if_pos (h.trans hk)]
   ·have hb:(g == k)=false:=beq_eq_false_iff_ne.mpr h
    simp only[List.lookup,hb,if_neg (λe:g=f=>h (e.trans hk.symm))]
  ·rw[if_neg hk]
   by_cases h:g=k
   ·have hb:(g == k)=true:=beq_iff_eq.mpr h
    simp only[List.lookup,hb,if_neg (λe:g=f=>hk (h.symm.trans e))]
   ·have hb:(g == k)=false:=beq_eq_false_iff_ne.mpr h
    simp only[List.lookup,hb]
    exact ih
theorem qdc(f:Str)(v:V):∀fs:List (Str×V),f∈(putF f v fs).map (·.1)/\∀g,g∈fs.map (·.1)->g∈(putF f v fs).map (·.1)
 |[]=>⟨by simp[putF],λg h=>by simp at h⟩
 | (k,x)::r=>by
  obtain ⟨i1,i2⟩:=qdc f v r
  rw[show putF f v ((k,x)::r)=(if k=f then (k,v)::r else (k,x)::putF f v r) from rfl]
  by_cases hk:k=f
  ·rw[if_pos hk]
   subst hk
   exact ⟨by simp,λg h=>by simpa using h⟩
  ·rw[if_neg hk]
   refine ⟨?_,λg h=>?_⟩
   ·rw[map_cons]
    exact mem_cons_of_mem _ i1
   ·rw[map_cons]at h ⊢
    rcases mem_cons.mp h with e|e
    ·exact mem_cons.mpr (.inl e)
    ·exact mem_cons_of_mem _ (i2 g e)
theorem ydv(f:Str)(v:V):∀fs:List (Str×V),(putF f v fs).length<=fs.length+1
 |[]=>by simp[putF]
 | (k,x)::r=>by
  have ih:=ydv f v r
  rw[show putF f v ((k,x)::r)=(if k=f then (k,v)::r else (k,x)::putF f v r) from rfl]
  by_cases hk:k=f
  ·rw[if_pos hk,length_cons,length_cons];omega
  ·rw[if_neg hk,length_cons,length_cons];omega
theorem RelO.some_of{v:V}{o:Option Value}(r:RelO (some v) o):∃u,o=some u/\RelV v u:=by
 cases o with
 |none=>exact (show False from r).elim
 |some u=>exact ⟨u,rfl,r⟩
theorem RelO.none_of{o:Option Value}(r:RelO none o):o=none:=by
 cases o with
 |none=>rfl
 |some u=>exact (show False from r).elim
theorem yk6{v:V}{u:Value}(r:RelV v u):W.handedIn u=true:=by
 cases v with
 |non=>cases (show u=Value.none from r);rfl
 |bl b=>cases (show u=Value.bool b from r);rfl
 |int i=>obtain ⟨t,e⟩:=(show ∃t,u=Value.int i t from r);cases e;rfl
 |str x=>obtain ⟨t,e⟩:=(show ∃t,u=Value.str x t from r);cases e;rfl
 |byt b=>obtain ⟨t,e⟩:=(show ∃t,u=Value.bytes b t from r);cases e;rfl
 |flt b=>obtain ⟨t,e⟩:=(show ∃t,u=Value.float b t from r);cases e;rfl
 |ref a=>cases (show u=Value.ref a from r);rfl
 |ty n=>cases (show u=Value.type n from r);rfl
section
variable {P:Program}{w:World}{H H':Hp}{h h':Heap}{a C dx:Addr}{fs fs':List (Str×V)}
theorem qgr(hok:HOk P w H h)(e:H a=some (.ins C dx fs)):∃mA,ObjM h a dx C mA/\(∀f,RelO (fs.lookup f) (mA f))/\PySem.Within mA (fs.map (·.1))/\fs.length<=1000/\H dx=some (.own a):=by
 obtain ⟨d,z,ne,ob,mA,n,r,q⟩:=(show yay P w H h a (.ins C dx fs) from hok a _ e)
 exact ⟨mA,⟨ob,n,ne⟩,r,q,z,d⟩
end
structure Cls(K:W.Frag)(C:Addr):Prop where
 pg:W.plainGet K C Str.empty=true
 hd:W.hasDictIn K C=true
 po:W.plainOver K C=true
 sa:W.findIn K (.ref C) "__setattr__"=some (some (.builtin "object.__setattr__"))
theorem Cls.get{K:W.Frag}{C:Addr}(c:Cls K C)(f:Str):W.plainGet K C f=true:=c.pg
def yc9(K:W.Frag)(C:Addr)(f:Str):Prop:=W.findIn K (.ref C) f=some none
theorem yc9.taker{K:W.Frag}{C:Addr}{f:Str}(n:yc9 K C f):W.takerIn K C f=some none:=by
 unfold W.takerIn
 rw[show W.findIn K (.ref C) f=some none from n]
 rfl
structure Meth(K:W.Frag)(C:Addr)(m:Str)(f:Addr):Prop where
 at_:W.findIn K (.ref C) m=some (some (.ref f))
 fn:W.isFn K (.ref f)=true
 kp:W.keepIn K (.ref f)=true
section
variable {X:Cx}{pins:List (Addr×Obj)}{σ:St}{H:Hp}{s:Shared}{a C dx:Addr}{fs:List (Str×V)}{f:Str}{v:V}{A:Around}{E:Value->Shared->Prop}
theorem ykn{b:Bool}{Q:Value->Shared->Prop}(I:Inv X pins σ H s)(e:H a=some (.ins C dx fs))(c:Cls X.K C)(n:yc9 X.K C f)(l:fs.lookup f=some v)
  (h:∀u s',Inv X pins σ H s'->RelV v u->Q u s'):wpAny (model X.prog X.w) A (getAttr (.ref a) f b) Q E s:=by
 obtain ⟨mA,O,r,_,_,_⟩:=qgr I.hok e
 obtain ⟨u,hu,ru⟩:=RelO.some_of (v:=v) (o:=mA f) (by rw[<-l];exact r f)
 exact get_map I.kIn O (c.get f) c.hd n hu (yk6 ru) (h u _ (I.tok _) ru)
theorem ygo{m:Str}{g:Addr}{pl:Sem Bool}{Q:Value×List Value->Shared->Prop}(I:Inv X pins σ H s)(e:H a=some (.ins C dx fs))(c:Cls X.K C)(k:Meth X.K C m g)(l:fs.lookup m=none)
  (h:Q (.ref g,[.ref a]) s):wpAny (model X.prog X.w) A (getMethod (.ref a) m pl) Q E s:=by
 obtain ⟨mA,O,r,_,_,_⟩:=qgr I.hok e
 have hn:mA m=none:=RelO.none_of (by rw[<-l];exact r m)
 exact get_meth I.kIn O (c.get m) k.at_ k.fn hn h
theorem qkf{y:V}{u:Value}{Q:Unit->Shared->Prop}(I:Inv X pins σ H s)(e:H a=some (.ins C dx fs))(c:Cls X.K C)(n:yc9 X.K C f)(hl:fs.length<1000)(ry:RelV y u)
  (h:∀s',Inv X pins σ (upd H a (.ins C dx (putF f y fs))) s'->Q () s'):wpAny (model X.prog X.w) A (setAttr (.ref a) f u) Q E s:=by
 obtain ⟨mA,O,r,wi,_,ho⟩:=qgr I.hok e
 have hz:(fs.map (·.1)).length<=sizeLine:=by rw[length_map,sizeLine_eq];omega
 refine set_map I.kIn O c.sa c.po n.taker c.hd wi hz λh' O' sb=>h _ ?_
 have hd:∃o,h'.get? dx=some o:=let ⟨o,_,_,e',_⟩:=O'.ns;⟨o,e'⟩
 refine I.write (x:=a) (e:=dx) (by rw[e];exact True.intro) (.inr ho) (λb q hb z=>(sb.2 b hb).trans z) hd ?_
 refine ⟨by rw[qag O.ne];exact ho,?_,O.ne,O'.obj,_,O'.ns,λg=>?_,λg hg=>?_⟩
 ·have:=ydv f y fs;omega
 ·show RelO ((putF f y fs).lookup g) (if g=f then some u else mA g)
  rw[qdx]
  by_cases q:g=f
  ·rw[if_pos q,if_pos q];exact ry
  ·rw[if_neg q,if_neg q];exact r g
 ·by_cases q:g=f
  ·rw[q];exact (qdc f y fs).1
  ·refine (qdc f y fs).2 g (wi g λz=>hg ?_)
   show (if g=f then some u else mA g)=none
   rw[if_neg q];exact z
theorem Inv.made(I:Inv X pins σ H s):Inv X pins σ (upd (upd H s.heap.objs.size (.own (s.heap.objs.size+1))) (s.heap.objs.size+1) (.ins C s.heap.objs.size []))
  {s with heap:=(s.heap.push W.emptyDict).push (W.instObj C s.heap.objs.size) }:=by
 have e1:(s.heap.push W.emptyDict).get? s.heap.objs.size=some W.emptyDict:=get?_push_size s.heap rfl
 have e2:((s.heap.push W.emptyDict).push (W.instObj C s.heap.objs.size)).get? (s.heap.objs.size+1)=some (W.instObj C s.heap.objs.size):=by
  have:=get?_push_size (s.heap.push W.emptyDict) (o:=W.instObj C s.heap.objs.size) rfl
  rwa [size_push]at this
 have e3:(s.heap.push W.emptyDict).Ns s.heap.objs.size (λ_=>none):=⟨W.emptyDict,#[],_,e1,rfl,(λe he=>absurd he (by simp)),λ_=>rfl⟩
 have I1:=I.laid (a:=s.heap.objs.size) (o:=.own (s.heap.objs.size+1)) (h':=s.heap.push W.emptyDict) (t':=s.toks) (λb u q=>get?_push_of_some _ q) (le_refl _) ⟨_,e1⟩
 refine I1.laid (a:=s.heap.objs.size+1) (o:=.ins C s.heap.objs.size []) (t':=s.toks) (λb u q=>get?_push_of_some _ q) (Nat.le_of_eq (size_push _ _)) ?_
 have ne:s.heap.objs.size≠s.heap.objs.size+1:=ne_of_lt (Nat.lt_succ_self _)
 refine ⟨by rw[qag ne,yaa],zero_le _,ne,e2,λ_=>none,(Heap.Ns1.of_empty e3).at λo q=>get?_push_of_some _ q,λ_=>True.intro,λy hy=>absurd rfl hy⟩
theorem attr_of{prog:Program}{w:World}{env:Env}{e:Expr}{f:Str}{pos:Pos}{s:Shared}{Q:Value->Shared->Prop}(hb:attributeBase e f env (eval e env)=eval e env)
  (h:wpAny (model prog w) A (eval e env) (λo s₁=>wpAny (model prog w) A (getAttr o f true) Q E s₁) E s):wpAny (model prog w) A (eval (.Attribute e f pos) env) Q E s:=
 Attribute_any_ h (by rw[arm_eval_Attribute,hb])
end
def tFld(K:W.Frag)(ta:TE)(f:Str):TE:=λσ H Q=>ta σ H λx H1=>∃a C dx fs v,x=.ref a/\H1 a=some (.ins C dx fs)/\Cls K C/\yc9 K C f/\fs.lookup f=some v/\Q v H1
def sFld(K:W.Frag)(ta tv:TE)(f:Str):TS:=λD σ H=>tv σ H λy H1=>ta σ H1 λx H2=>∃a C dx fs,x=.ref a/\H2 a=some (.ins C dx fs)/\Cls K C/\yc9 K C f/\fs.length<1000/\
 D.nx σ (upd H2 a (.ins C dx (putF f y fs)))
section
variable {X:Cx}{o e value:Expr}{f:Str}{pos pos' tpos:Pos}{ta tv:TE}
theorem pe_fld(he:PE X e ta)(hb:attributeBase e f X.env (eval e X.env)=eval e X.env):PE X (.Attribute e f pos) (tFld X.K ta f):=by
 intro pins s σ H Q I h
 refine attr_of hb (thn (he pins s σ H _ I h) λu s1 ⟨x,H1,I1,rx,a,C,dx,fs,v,ex,ea,c,n,l,q⟩=>?_)
 subst ex
 obtain rfl:u=Value.ref a:=rx
 exact ykn I1 ea c n l λu' s2 I2 ru=>⟨v,H1,I2,ru,q⟩
theorem ps_fld(ha:PE X o ta)(hv:PE X value tv)(hs:swapsWith value (some (.Attribute o f pos')) pos.line X.env=pure false):PS X (.Assign [.Attribute o f pos'] value pos) (sFld X.K ta tv f):=by
 intro pins s σ H D I h
 refine plainObj_wpAny_Assign_Attribute (thn (hv pins s σ H _ I h) λu s1 ⟨y,H1,I1,ry,q⟩=>thn (ha pins s1 σ H1 _ I1 q) λov s2 ⟨x,H2,I2,rx,a,C,dx,fs,ex,ea,c,n,l,q2⟩=>?_) hs
 subst ex
 obtain rfl:ov=Value.ref a:=rx
 exact qkf I2 ea c n l ry λs3 I3=>⟨σ,_,I3,q2⟩
end
section
variable {X:Cx}{pins:List (Addr×Obj)}{σ:St}{H:Hp}{s:Shared}{A:Around}{E:Value->Shared->Prop}{Q:Value->Shared->Prop}{c:Value}{b:Bool}
inductive TyOf(K:W.Frag)(H:Hp):V->Value->Prop where
 |non:TyOf K H .non (.type "NoneType")
 |bl (x:Bool):TyOf K H (.bl x) (.type "bool")
 |int (i:Int):TyOf K H (.int i) (.type "int")
 |str (x:Str):TyOf K H (.str x) (.type "str")
 |flt (x:UInt64):TyOf K H (.flt x) (.type "float")
 |lst {a:Addr}{xs:List V} (e:H a=some (.lst xs)):TyOf K H (.ref a) (.type "list")
 |frz {a:Addr}{o:Obj}{xs:List V} (e:H a=some (.frz o (.lst xs))):TyOf K H (.ref a) (.type "list")
 |tup {a:Addr}{xs:List V} (e:H a=some (.tup xs)):TyOf K H (.ref a) (.type "tuple")
 |dK {a:Addr}{kvs:List (Key×V)} (e:H a=some (.dK kvs)):TyOf K H (.ref a) (.type "dict")
 |dT {a:Addr}{kvs:List (List Key×V)} (e:H a=some (.dT kvs)):TyOf K H (.ref a) (.type "dict")
 |ins {a C dx:Addr}{fs:List (Str×V)} (e:H a=some (.ins C dx fs)) (cl:Cls K C) (ha:W.findIn K (.ref C) "__class__"=some (some (.builtin "object.__class__")))
   (hn:W.specialIn K (.builtin "object.__class__") "__get__"=some (some (.builtin "getset_descriptor.__get__"))) (htk:W.takesIn K (.builtin "object.__class__")=some true)
   (hm:W.mroIn K C (.type "object")=some true):TyOf K H (.ref a) (.ref C)
theorem qmt{x:V}{u t:Value}(I:Inv X pins σ H s)(rx:RelV x u)(ty:TyOf X.K H x t)(e:W.kitOne X.K t c=some b)(h:∀tk,Q (.bool b) { s with toks:=tk }) :
  wpAny (model X.prog X.w) A (call (.builtin "isinstance") [u,c]) Q E s:=by
 cases ty with
 |non=>cases (show u=Value.none from rx);exact W.kia_one W.kitx_none I.kIn True.intro e (λz=>nomatch z) h
 |bl y=>cases (show u=Value.bool y from rx);exact W.kia_one W.kitx_bool I.kIn True.intro e (λz=>nomatch z) h
 |int i=>obtain ⟨t,q⟩:=(show ∃t,u=Value.int i t from rx);cases q;exact W.kia_one W.kitx_int I.kIn True.intro e (λz=>nomatch z) h
 |str y=>obtain ⟨t,q⟩:=(show ∃t,u=Value.str y t from rx);cases q;exact W.kia_one W.kitx_str I.kIn True.intro e (λz=>nomatch z) h
 |flt y=>obtain ⟨t,q⟩:=(show ∃t,u=Value.float y t from rx);cases q;exact W.kia_one W.kitx_float I.kIn True.intro e (λz=>nomatch z) h
 |@lst a xs ea=>
  cases (show u=Value.ref a from rx)
  obtain ⟨_,_,n,_,h1⟩:=(show yay X.prog X.w H s.heap a (.lst xs) from I.hok a _ ea)
  exact W.kia_one W.kitx_list I.kIn ⟨_,h1,rfl⟩ e (λz=>nomatch z) h
 |@frz a ob xs ea=>
  cases (show u=Value.ref a from rx)
  obtain ⟨_,_,_,n,_,h1⟩:=(show yay X.prog X.w H s.heap a (.frz ob (.lst xs)) from I.hok a _ ea)
  exact W.kia_one W.kitx_list I.kIn ⟨_,h1,rfl⟩ e (λz=>nomatch z) h
 |@tup a xs ea=>
  cases (show u=Value.ref a from rx)
  obtain ⟨_,_,_,p⟩:=(show yay X.prog X.w H s.heap a (.tup xs) from I.hok a _ ea)
  obtain ⟨o,h1,h2,_⟩:=p
  exact W.kia_one W.kitx_tuple I.kIn ⟨o,h1,h2⟩ e (λz=>nomatch z) h
 |@dK a kvs ea=>
  cases (show u=Value.ref a from rx)
  obtain ⟨_,_,vs,_,p⟩:=(show yay X.prog X.w H s.heap a (.dK kvs) from I.hok a _ ea)
  obtain ⟨o,es,ep,h1,h2,_⟩:=p
  exact W.kia_one W.kitx_dict I.kIn ⟨o,h1,h2.1⟩ e (λz=>nomatch z) h
 |@dT a kvs ea=>
  cases (show u=Value.ref a from rx)
  obtain ⟨_,_,xs,_,o,es,ep,h1,h2,_⟩:=(show yay X.prog X.w H s.heap a (.dT kvs) from I.hok a _ ea)
  exact W.kia_one W.kitx_dict I.kIn ⟨o,h1,h2.1⟩ e (λz=>nomatch z) h
 |@ins a C dx fs ea cl ha hn htk hm=>
  cases (show u=Value.ref a from rx)
  obtain ⟨mA,O,_⟩:=qgr I.hok ea
  obtain ⟨od,J,_⟩:=O.look
  exact W.kia_one (W.kitx_own (cl.get _) cl.hd ha hn htk hm) I.kIn J e (λz=>nomatch z) h
end
structure Room(k:Nat)(A:Around):Prop where
 hd:A.handled=none
 dp:A.depth+3*k+5<recursionLimit
 un:A.units+16*k+200<cLine
 gd:A.guards=some []
theorem Room.mono{j k:Nat}{A:Around}(r:Room k A)(h:j<=k):Room j A:=⟨r.hd,by have:=r.dp;omega,by have:=r.un;omega,r.gd⟩
theorem Room.deeper{k:Nat}{A:Around}(r:Room (k+1) A)(env:Env):Room k (A.deeper env):=
 ⟨r.hd,by have:=r.dp;show A.depth+1+3*k+5<_;omega,by have:=r.un;show A.units+3+16*k+200<_;omega,r.gd⟩
theorem qkj{A:Around}{C:Addr}{us:List Value}{kw:List (Str×Value)}:(A.under (.builtin "type.__call__" ⟨.ref C::us,kw⟩)).depth=A.depth+1:=by
 first|rfl|simp[Around.under,Code.weight,Code.isCreation,Code.isGuard,Code.isCaller,Code.frames,Code.isFrame,guardIds]
theorem qkh{A:Around}{C:Addr}{us:List Value}{kw:List (Str×Value)}:(A.under (.builtin "type.__call__" ⟨.ref C::us,kw⟩)).units=A.units+1:=by
 first|rfl|simp[Around.under,Code.cUnits,Code.frames,Code.isFrame]
theorem qiv{A:Around}{C:Addr}{us:List Value}{kw:List (Str×Value)}:(A.under (.builtin "type.__call__" ⟨.ref C::us,kw⟩)).guards=A.guards:=by
 first|rfl|(unfold Around.under Code.guards;cases A.guards<;>simp[pushGuards,Code.isGuard,guardIds])
theorem Room.make{k:Nat}{A:Around}(r:Room (k+1) A)(C:Addr)(us:List Value)(kw:List (Str×Value)):Room k (A.under (.builtin "type.__call__" ⟨.ref C::us,kw⟩)):=
 ⟨r.hd,by have:=r.dp;rw[qkj];omega,by have:=r.un;rw[qkh];omega,by rw[qiv];exact r.gd⟩
theorem Room.depth{k:Nat}{A:Around}(r:Room k A):A.depth<recursionLimit:=by have:=r.dp;omega
theorem Room.units{k:Nat}{A:Around}(r:Room k A):A.units+64<cLine:=by have:=r.un;omega
def tNil:TA:=λ_ H Q=>Q [] H
def ydm(ta:TE)(tr:TA):TA:=λσ H Q=>ta σ H λx H1=>tr σ H1 λxs H2=>Q (x::xs) H2
section
variable {X:Cx}{e:Expr}{es:List Expr}{te:TE}{t:TA}{pos:Pos}
theorem yae:PA X [] tNil:=λ_ _ _ _ H Q I h=>Calls.spliced_nil ⟨[],H,I,.nil,h⟩
theorem qab(ha:PE X e te)(hr:PA X es t)(hs:starEach (e::es) X.env=(false,eval e X.env)::starEach es X.env:=by rfl):PA X (e::es) (ydm te t):=by
 intro pos pins s σ H Q I h
 rw[hs]
 show wpAny _ _ (spliced ((false,eval e X.env)::backTo pos (starEach es X.env))) _ _ s
 refine Calls.spliced_cons (thn (ha pins s σ H _ I h) λu s1 ⟨x,H1,I1,r1,q1⟩=>?_)
 exact thn (hr pos pins s1 σ H1 _ I1 q1) λus s2 ⟨xs,H2,I2,r2,q2⟩=>⟨x::xs,H2,I2,.cons r1 r2,q2⟩
def tTup(t:TA):TE:=λσ H Q=>t σ H λxs H1=>xs.length<=sizeLine/\∀p,H1 p=none->Q (.ref p) (upd H1 p (.tup xs))
def tLst(t:TA):TE:=λσ H Q=>t σ H λxs H1=>xs.length<=sizeLine/\∀p,H1 p=none->Q (.ref p) (upd H1 p (.lst xs))
theorem ybu{x1}(h:PA X es t):PE X (.Tuple es x1 pos) (tTup t):=by
 intro pins s σ H Q I hq
 refine wpAny_Tuple_spliced (thn (h pos pins s σ H _ I hq) λus s1 ⟨xs,H1,I1,r,z,q⟩=>⟨by rw[<-r.length];exact z,?_⟩)
 have hf:H1 s1.heap.objs.size=none:=I1.hok.fresh (le_refl _)
 refine ⟨.ref s1.heap.objs.size,upd H1 s1.heap.objs.size (.tup xs),I1.laid (t':=s1.toks) (λb u e=>get?_push_of_some _ e) (le_refl _) ?_,rfl,q _ hf⟩
 exact ⟨z,us,r,⟨_,get?_push_size _ rfl,rfl,_,rfl⟩⟩
theorem qc3(h:PA X es t):PE X (.List es pos) (tLst t):=by
 intro pins s σ H Q I hq
 refine wpAny_List_spliced (thn (h pos pins s σ H _ I hq) λus s1 ⟨xs,H1,I1,r,z,q⟩=>⟨by rw[<-r.length];exact z,?_⟩)
 have hf:H1 s1.heap.objs.size=none:=I1.hok.fresh (le_refl _)
 refine ⟨.ref s1.heap.objs.size,upd H1 s1.heap.objs.size (.lst xs),I1.laid (t':=s1.toks) (λb u e=>get?_push_of_some _ e) (le_refl _) ?_,rfl,q _ hf⟩
 exact ⟨z,us,0,r,get?_push_size _ rfl⟩
end
abbrev Sp:=List V->Hp->VK->XK->Prop
abbrev CXT:=List Env->Hp->Shared->XK->Value->Shared->Prop
structure Env0(P:Program)(w:World)(K:W.Frag)(mg:Str->Option Value)(base:Heap)(A:Around)(outer:List Env)(s:Shared)(H:Hp):Prop where
 frames:A.frames=some outer
 mod:Mod K mg base
 bs:∀b o,base.get? b=some o->s.heap.get? b=some o/\H b=none
 bsz:base.objs.size<=s.heap.objs.size
 funs:s.heap.FunFrames base outer
 frf:∀b∈frs outer,H b=none
 hok:HOk P w H s.heap
 bare:AllBare s.gens
def CE(outer:List Env)(P:Program)(w:World)(H:Hp)(s:Shared)(Q:VK)(u:Value)(s':Shared):Prop:=
 ∃v H',s'.os=s.os/\AllBare s'.gens/\Un (frs outer) [] H H' s.heap s'.heap/\HOk P w H' s'.heap/\RelV v u/\Q v H'
def CR(CX:CXT)(outer:List Env)(P:Program)(w:World)(H:Hp)(s:Shared)(Q:VK)(E:XK)(r:Result)(s':Shared):Prop:=
 match r with
 |.ok (.ret u)=>CE outer P w H s Q u s'
 |.ok _=>False
 |.error e=>CX outer H s E e s'
structure FnOk(P:Program)(w:World)(K:W.Frag)(mg:Str->Option Value)(base:Heap)(CX:CXT)(k:Nat)(f:Addr)(fd:FuncData)(ps:List Str)(sp:Sp):Prop where
 len:∀vs H Q E,sp vs H Q E->vs.length=ps.length
 run:∀(A:Around) (outer:List Env) (s:Shared) (H:Hp) (args:Args) (us:List Value) (vs:List V) (Q:VK) (E:XK),Room k A->Env0 P w K mg base A outer s H->BindsTo s fd args (ps.zip us)->Vals vs us->sp vs H Q E->
  codeAny (model P w) A (.call (.ref f) args) (CR CX outer P w H s Q E) s
theorem Env0.make{P:Program}{w:World}{K:W.Frag}{mg:Str->Option Value}{base:Heap}{A:Around}{outer:List Env}{s:Shared}{H:Hp}(e:Env0 P w K mg base A outer s H)(C:Addr)(us:List Value)(kw:List (Str×Value)) :
  Env0 P w K mg base (A.under (.builtin "type.__call__" ⟨.ref C::us,kw⟩)) outer s H:=⟨by first|exact e.frames|(simpa [Around.under,Code.envs,Code.isFrame,pushEnvs] using e.frames),e.mod,e.bs,e.bsz,e.funs,e.frf,e.hok,e.bare⟩
section
variable {X:Cx}{pins:List (Addr×Obj)}{σ:St}{H:Hp}{s s':Shared}
theorem Inv.env0(I:Inv X pins σ H s):Env0 X.prog X.w X.K X.mg X.base X.A X.stack s H:=
 ⟨I.ok.frames,I.ok.mod,I.bs,le_trans I.ok.bsz I.sz,I.stack,I.stkFree,I.hok,I.bare⟩
theorem Inv.after{Q:VK}{u:Value}(I:Inv X pins σ H s)(h:CE X.stack X.prog X.w H s Q u s'):EP X pins σ Q u s':=by
 obtain ⟨v,H',os,bare,un,hok,r,q⟩:=h
 obtain ⟨hh,g,d,t,os'⟩:=s'
 obtain rfl:os'=s.os:=os
 exact ⟨v,H',I.call (h':=hh) (g':=g) (d':=d) (t':=t) (ch:=[]) un hok bare (λb z=>absurd z (by simp)),r,q⟩
end
def tCall(sp:Sp)(dvs:List V)(E:XK)(t:TA):TE:=λσ H Q=>t σ H λvs H1=>sp (vs++dvs) H1 Q E
def tMeth(C:Addr)(m:Str)(sp:Sp)(dvs:List V)(E:XK)(ta:TE)(t:TA):TE:=λσ H Q=>ta σ H λx H1=>∃a dx fs,x=.ref a/\H1 a=some (.ins C dx fs)/\fs.lookup m=none/\
 t σ H1 λvs H2=>sp (x::(vs++dvs)) H2 Q E
def tMake(C:Addr)(sp:Sp)(dvs:List V)(E:XK)(t:TA):TE:=λσ H Q=>t σ H λvs H1=>∀x dx,H1 x=none->H1 dx=none->dx≠x->
 sp (.ref x::(vs++dvs)) (upd (upd H1 dx (.own x)) x (.ins C dx [])) (λv H2=>v=.non/\Q (.ref x) H2) E
def yc6(K:W.Frag)(fd:FuncData)(ps:List Str)(ds:List Value):Prop:=
 ∀(s:Shared) (us:List Value),K.In s.heap->(us++ds).length=ps.length->BindsTo s fd ⟨us,[]⟩ (ps.zip (us++ds))
theorem yc6.all{K:W.Frag}{fd:FuncData}{ps:List Str}(h:∀us:List Value,us.length=ps.length->bindArgs fd ⟨us,[]⟩=pure (ps.zip us)):yc6 K fd ps []:=λs us _ hl=>by
 rw[append_nil]at hl ⊢
 exact .of_eq (h us hl)
def qd8(CX:CXT)(X:Cx)(E:XK):Prop:=∀(pins:List (Addr×Obj)) (σ:St) (H:Hp) (s:Shared) (e:Value) (s':Shared),Inv X pins σ H s->CX X.stack H s E e s'->X.xe e s'
section
variable {X:Cx}{CX:CXT}{k:Nat}{f C:Addr}{fd:FuncData}{ps:List Str}{sp:Sp}{dvs:List V}{ds:List Value}{E:XK}{x m:Str}{p pos apos:Pos}{e o:Expr}{es:List Expr}{ta:TE}{t:TA}
theorem yk1{pins:List (Addr×Obj)}{σ:St}{H:Hp}{s:Shared}{Q:VK}{us:List Value}{vs:List V}(F:FnOk X.prog X.w X.K X.mg X.base CX k f fd ps sp)(hr:Room k X.A)(hb:yc6 X.K fd ps ds)(hd:Vals dvs ds)(hx:qd8 CX X E)
  (I:Inv X pins σ H s) (r:Vals vs us) (h:sp (vs++dvs) H Q E):wpAny (model X.prog X.w) X.A (call (.ref f) us) (EP X pins σ Q) X.xe s:=by
 have r2:Vals (vs++dvs) (us++ds):=r.append hd
 have hl:(us++ds).length=ps.length:=by rw[<-r2.length];exact F.len _ _ _ _ h
 refine wpAny_call (codeAny_mono (F.run X.A X.stack s H ⟨us,[]⟩ (us++ds) (vs++dvs) Q E hr I.env0 (hb s us I.kIn hl) r2 h) λr s' hq=>?_)
 cases r with
 |error e=>exact hx pins σ H s e s' I hq
 |ok fl=>
  cases fl with
  |ret u=>exact I.after hq
  |next=>exact False.elim hq
  |brk=>exact False.elim hq
  |cont=>exact False.elim hq
theorem ql3(F:FnOk X.prog X.w X.K X.mg X.base CX k f fd ps sp)(hr:Room k X.A)(hg:Gl X x)(hm:X.mg x=some (.ref f))(hk:W.keepIn X.K (.ref f)=true)(hb:yc6 X.K fd ps ds)(hd:Vals dvs ds)(hx:qd8 CX X E)
  (ha:PA X (e::es) t) (hdb:(x == ("__debug__" : Str))=false:=by decide) (he:starEach (e::es) X.env=(false,eval e X.env)::starEach es X.env:=by rfl) (hpl:(backTo pos (starEach es X.env)).any (·.1)=false:=by rfl) :
  PE X (.Call (.Name x p) (e::es) [] pos) (tCall sp dvs E t):=by
 intro pins s σ H Q I h
 refine wpAny_Call_Name_kw (ydu I hg hm ?_ hdb)
 refine W.callWith_K (h₀:=X.base) I.ok.mod.kin hk (thn (ha pos pins s σ H _ I h) λus s1 ⟨vs,H1,I1,r,q⟩=>⟨I1.kIn,?_⟩) he hpl
 exact yk1 F hr hb hd hx I1 r q
theorem pe_meth{pl:Sem Bool}(he:PE X o ta)(c:Cls X.K C)(hm:Meth X.K C m f)(F:FnOk X.prog X.w X.K X.mg X.base CX k f fd ps sp)(hr:Room k X.A)(hb:yc6 X.K fd ps ds)(hd:Vals dvs ds)(hx:qd8 CX X E)(ha:PA X (e::es) t)
  (hst:starEach (e::es) X.env=(false,eval e X.env)::starEach es X.env:=by rfl) (hpl:(backTo pos (starEach es X.env)).any (·.1)=false:=by rfl)
  (ht:eval (.Call (.Attribute o m apos) (e::es) [] pos) X.env=(do
   let ov <-eval o X.env
   standAt apos.atName
   let (f,first) <-holding [ov] (getMethod ov m pl)
   callWith pos f first (backTo pos (starEach (e::es) X.env)) (backToKw pos (keywordEach [] X.env))):=by rfl) :
  PE X (.Call (.Attribute o m apos) (e::es) [] pos) (tMeth C m sp dvs E ta t):=by
 intro pins s σ H Q I h
 refine W.methodCall_KW (pl:=pl) (thn (he pins s σ H _ I h) λu s1 ⟨x,H1,I1,rx,a,dx,fs,ex,ea,l,q⟩=>?_) ht
 subst ex
 obtain rfl:u=Value.ref a:=rx
 refine ygo I1 ea c hm l ?_
 refine W.callWith_K (first:=[.ref a]) (h₀:=X.base) I.ok.mod.kin hm.kp (thn (ha pos pins s1 σ H1 _ I1 q) λus s2 ⟨vs,H2,I2,r,q2⟩=>⟨I2.kIn,?_⟩) hst hpl
 exact yk1 (us:=.ref a::us) (vs:=.ref a::vs) F hr hb hd hx I2 (.cons rfl r) q2
theorem pe_meth0{pl:Sem Bool}(he:PE X o ta)(c:Cls X.K C)(hm:Meth X.K C m f)(F:FnOk X.prog X.w X.K X.mg X.base CX k f fd ps sp)(hr:Room k X.A)(hb:yc6 X.K fd ps ds)(hd:Vals dvs ds)(hx:qd8 CX X E)
  (ht:eval (.Call (.Attribute o m apos) [] [] pos) X.env=(do
   let ov <-eval o X.env
   standAt apos.atName
   let (f,first) <-holding [ov] (getMethod ov m pl)
   callWith pos f first (backTo pos (starEach [] X.env)) (backToKw pos (keywordEach [] X.env))):=by rfl) :
  PE X (.Call (.Attribute o m apos) [] [] pos) (tMeth C m sp dvs E ta tNil):=by
 intro pins s σ H Q I h
 refine W.methodCall_KW (pl:=pl) (thn (he pins s σ H _ I h) λu s1 ⟨x,H1,I1,rx,a,dx,fs,ex,ea,l,q⟩=>?_) ht
 subst ex
 obtain rfl:u=Value.ref a:=rx
 refine ygo I1 ea c hm l ?_
 exact W.callWith_K0 (first:=[.ref a]) I1.kIn hm.kp (yk1 (us:=[.ref a]) (vs:=[.ref a]) F hr hb hd hx I1 (.cons rfl .nil) q)
structure Mk(K:W.Frag)(C f:Addr):Prop where
 makes:W.makesIn K C=true
 init:W.findIn K (.ref C) "__init__"=some (some (.ref f))
 fn:W.isFn K (.ref f)=true
 kp:W.keepIn K (.ref C)=true
theorem run_make{pins:List (Addr×Obj)}{σ:St}{H:Hp}{s:Shared}{Q:VK}{us:List Value}{vs:List V}(M:Mk X.K C f)(F:FnOk X.prog X.w X.K X.mg X.base CX k f fd ps sp)(hr:Room (k+1) X.A)(hb:yc6 X.K fd ps ds)(hd:Vals dvs ds)
  (hx:qd8 CX X E) (I:Inv X pins σ H s) (r:Vals vs us)
  (h:∀x dx,H x=none->H dx=none->dx≠x->sp (.ref x::(vs++dvs)) (upd (upd H dx (.own x)) x (.ins C dx [])) (λv H2=>v=.non/\Q (.ref x) H2) E) :
  wpAny (model X.prog X.w) X.A (call (.ref C) us) (EP X pins σ Q) X.xe s:=by
 have hq:=h (s.heap.objs.size+1) s.heap.objs.size (I.hok.fresh (le_succ _)) (I.hok.fresh (le_refl _)) (ne_of_lt (Nat.lt_succ_self _))
 have I2:=Inv.made (C:=C) I
 have r2:Vals (V.ref (s.heap.objs.size+1)::(vs++dvs)) (Value.ref (s.heap.objs.size+1)::(us++ds)):=.cons rfl (r.append hd)
 have hl:(Value.ref (s.heap.objs.size+1)::us++ds).length=ps.length:=by
  have e:=r2.length
  rw[F.len _ _ _ _ hq]at e
  exact e.symm
 refine wpAny_call (make_map (f:=f) I.kIn M.makes M.init (beq_iff_eq.mp M.fn) (codeAny_mono (F.run _ X.stack _ _ ⟨Value.ref (s.heap.objs.size+1)::us,[]⟩ (Value.ref (s.heap.objs.size+1)::(us++ds)) _ _ E (hr.make C us [])
  (I2.env0.make C us []) (hb _ (Value.ref (s.heap.objs.size+1)::us) I2.kIn hl) r2 hq) λr s' hq'=>?_))
 cases r with
 |error e=>exact hx pins σ _ _ e s' I2 hq'
 |ok fl=>
  cases fl with
  |ret u=>
   obtain ⟨v,H',I3,rv,ev,q3⟩:=I2.after hq'
   subst ev
   exact ⟨rv,⟨V.ref (s.heap.objs.size+1),H',I3,rfl,q3⟩⟩
  |next=>exact False.elim hq'
  |brk=>exact False.elim hq'
  |cont=>exact False.elim hq'
theorem pe_make(M:Mk X.K C f)(F:FnOk X.prog X.w X.K X.mg X.base CX k f fd ps sp)(hr:Room (k+1) X.A)(hg:Gl X x)(hm:X.mg x=some (.ref C))(hb:yc6 X.K fd ps ds)(hd:Vals dvs ds)(hx:qd8 CX X E)
  (ha:PA X (e::es) t) (hdb:(x == ("__debug__" : Str))=false:=by decide) (he:starEach (e::es) X.env=(false,eval e X.env)::starEach es X.env:=by rfl) (hpl:(backTo pos (starEach es X.env)).any (·.1)=false:=by rfl) :
  PE X (.Call (.Name x p) (e::es) [] pos) (tMake C sp dvs E t):=by
 intro pins s σ H Q I h
 refine wpAny_Call_Name_kw (ydu I hg hm ?_ hdb)
 refine W.callWith_K (h₀:=X.base) I.ok.mod.kin M.kp (thn (ha pos pins s σ H _ I h) λus s1 ⟨vs,H1,I1,r,q⟩=>⟨I1.kIn,?_⟩) he hpl
 exact run_make M F hr hb hd hx I1 r q
end
structure FnScope(N P:List Str)(sc:Scope):Prop where
 kind:sc.kind=.function
 co:sc.isCoroutine=false
 gen:sc.isGenerator=false
 nd:N.Nodup
 pre:N.take P.length=P
 par:∀x∈P,sc.names.lookup x=some .local\/sc.names.lookup x=some .cell
 nofree:∀y∈sc.names,y.2≠.free
theorem fsc{N P:List Str}{sc:Scope}(a:sc.kind=.function:=by rfl)(b:sc.isCoroutine=false:=by rfl)(c:sc.isGenerator=false:=by rfl)(d:N.Nodup:=by decide +kernel)(e:N.take P.length=P:=by rfl)(f:∀x∈P,sc.names.lookup x=some .local\/sc.names.lookup x=some .cell:=by decide +kernel)(g:∀y∈sc.names,y.2≠.free:=by decide +kernel):FnScope N P sc:=⟨a,b,c,d,e,f,g⟩
theorem yh0{kindOf:Str->Option NameKind}{x:Str}:∀{binds:List (Str×Value)}{m:Str->Option Value},(∀v,(x,v)∉binds)->bindL kindOf binds m x=m x
 |[],_,_=>rfl
 | (n,v)::r,m,h=>by
  unfold bindL
  rw[yh0 λw hw=>h w (mem_cons_of_mem _ hw)]
  split
  ·have:x≠n:=by rintro rfl;exact h v mem_cons_self
   simp[this]
  ·rfl
theorem yhh{kindOf:Str->Option NameKind}{x:Str}:∀{binds:List (Str×Value)}{m:Str->Option Value},(∀v,(x,v)∉binds)->bindC kindOf binds m x=m x
 |[],_,_=>rfl
 | (n,v)::r,m,h=>by
  unfold bindC
  rw[yhh λw hw=>h w (mem_cons_of_mem _ hw)]
  split
  ·rfl
  ·have:x≠n:=by rintro rfl;exact h v mem_cons_self
   simp[this]
theorem qho{kindOf:Str->Option NameKind}{x:Str}{v:Value}:∀{P:List Str}{vs:List Value}{i:Nat}{m:Str->Option Value},P.Nodup->P[i]?=some x->vs[i]?=some v->kindOf x=some .local->
  bindL kindOf (P.zip vs) m x=some v
 |[],_,_,_,_,h,_,_=>by simp at h
 |_::_,[],_,_,_,_,h,_=>by simp at h
 |p::P,w::vs,0,m,nd,h1,h2,hk=>by
  simp at h1 h2;subst h1;subst h2
  show bindL kindOf ((p,w)::P.zip vs) m p=_
  unfold bindL
  rw[yh0 λv hv=>(nodup_cons.mp nd).1 (of_mem_zip hv).1,if_pos hk]
  simp
 |p::P,w::vs,i+1,m,nd,h1,h2,hk=>by
  show bindL kindOf ((p,w)::P.zip vs) m x=_
  unfold bindL
  exact qho (i:=i) (nodup_cons.mp nd).2 (by simpa using h1) (by simpa using h2) hk
theorem qh6{kindOf:Str->Option NameKind}{x:Str}{v:Value}:∀{P:List Str}{vs:List Value}{i:Nat}{m:Str->Option Value},P.Nodup->P[i]?=some x->vs[i]?=some v->kindOf x≠some .local->
  bindC kindOf (P.zip vs) m x=some v
 |[],_,_,_,_,h,_,_=>by simp at h
 |_::_,[],_,_,_,_,h,_=>by simp at h
 |p::P,w::vs,0,m,nd,h1,h2,hk=>by
  simp at h1 h2;subst h1;subst h2
  show bindC kindOf ((p,w)::P.zip vs) m p=_
  unfold bindC
  rw[yhh λv hv=>(nodup_cons.mp nd).1 (of_mem_zip hv).1,if_neg hk]
  simp
 |p::P,w::vs,i+1,m,nd,h1,h2,hk=>by
  show bindC kindOf ((p,w)::P.zip vs) m x=_
  unfold bindC
  exact qh6 (i:=i) (nodup_cons.mp nd).2 (by simpa using h1) (by simpa using h2) hk
def qd9(N:List Str)(vs:List V):St:=vs.map some++List.replicate (N.length-vs.length) none
def cxOf(CX:CXT)(P:Program)(w:World)(K:W.Frag)(mg:Str->Option Value)(base:Heap)(N:List Str)(qual:Str)(scope:Scope)(f:Addr)(cd:Value)(A:Around)(outer:List Env)(s:Shared)(H:Hp)(E:XK):Cx where
 prog:=P
 w:=w
 K:=K
 mg:=mg
 base:=base
 A:=A.deeper (envOfC qual scope s.heap.objs.size f cd)
 N:=N
 s₀:=s
 H₀:=H
 env:=envOfC qual scope s.heap.objs.size f cd
 outer:=outer
 stack:=envOfC qual scope s.heap.objs.size f cd::outer
 ex:=[]
 calm:=true
 fn:=λ_=>true
 pn:=[]
 xe:=λe s'=>wpAny (model P w) (A.deeper (envOfC qual scope s.heap.objs.size f cd)) (leaving (envOfC qual scope s.heap.objs.size f cd) e) (λ_ s''=>CX outer H s E e s'') (λe' s''=>CX outer H s E e' s'') s'
theorem qjw{sc:Scope}{n:Nat}{x:Str}(h:sc.names.lookup x=some .cell):∃c,(cellsFrom n sc.names []).lookup x=some c:=by
 have q:=W.cellsFrom_some sc.names n [] (.inl h)
 exact Option.isSome_iff_exists.mp q
theorem qlx{CX:CXT}{P:Program}{w:World}{K:W.Frag}{mg:Str->Option Value}{base:Heap}{N ps:List Str}{qual:Str}{scope:Scope}{f:Addr}{cd:Value}{A:Around}{outer:List Env}{s s1:Shared}{H:Hp}{E:XK}{us:List Value}{vs:List V}
  (S:FnScope N ps scope) (hd:A.handled=none) (e0:Env0 P w K mg base A outer s H) (hl:vs.length=ps.length) (r:Vals vs us)
  (x:InCallC s s.heap.objs.size (bindL (envOfC qual scope s.heap.objs.size f cd).kindOf (ps.zip us) λ_=>none) (cellsFrom (s.heap.objs.size+1) scope.names []) (bindC (envOfC qual scope s.heap.objs.size f cd).kindOf (ps.zip us) λ_=>none) s1) :
  Inv (cxOf CX P w K mg base N qual scope f cd A outer s H E) [] (qd9 N vs) H s1:=by
 have hpl:ps.length<=N.length:=by have:=congrArg List.length S.pre;rw[length_take]at this;omega
 obtain ⟨h1,tk,rfl,hk⟩:=x.done
 have noA:∀b:Addr,b∉(cxOf CX P w K mg base N qual scope f cd A outer s H E).ex:=λb z=>absurd (show b∈([]:List Addr) from z) (by simp)
 refine ⟨⟨e0.mod,S.kind,rfl,rfl,le_refl _,λy z c h1 h2=>?_,λy hy=>?_,λy c _ h=>?_,λ_=>hd,Around.frames_deeper e0.frames,.inr ⟨rfl,rfl⟩,λb z=>absurd z (noA b),e0.bs,e0.bsz,λb _ _=>noA b,λb z=>absurd z (noA b),e0.funs,e0.frf⟩,
  rfl,e0.bare,Un.kept hk,⟨_,x.toInCall.ns,λi y v h1 h2 h3=>?_⟩,λy c h=>⟨_,x.cell y c h⟩,e0.hok.fresh (le_refl _),λy c h=>?_,λp hp=>absurd (show p∈([]:List (Addr×Obj)) from hp) (by simp),e0.hok.kept hk,?_⟩
 ·exact name_of_addr x.apart (PySem.mem_of_lookup h1) (PySem.mem_of_lookup h2)
 ·have hy:scope.names.lookup y=some .cell\/scope.names.lookup y=some .free:=hy
  rcases hy with hy|hy
  ·exact qjw hy
  ·exact absurd rfl (S.nofree _ (PySem.mem_of_lookup hy))
 ·exact le_of_lt (x.above y c (PySem.mem_of_lookup h))
 ·have hi:i<vs.length:=by
   unfold qd9 at h2
   by_cases hi:i<vs.length
   ·exact hi
   ·rw[getElem?_append_right (by simpa using hi)]at h2
    rw[List.getElem?_replicate]at h2
    split at h2<;>cases h2
  have ha:vs[i]?=some v:=by
   unfold qd9 at h2
   rw[getElem?_append_left (by simpa using hi),getElem?_map]at h2
   cases e:vs[i]? with
   |none=>rw[e]at h2;cases h2
   |some a=>rw[e]at h2;cases h2;rfl
  obtain ⟨u,hu,rv⟩:=r.get ha
  have hp:ps[i]?=some y:=by
   rw[<-S.pre,List.getElem?_take_of_lt (by omega)];exact h1
  have ndP:ps.Nodup:=by rw[<-S.pre];exact S.nd.sublist (List.take_sublist _ _)
  refine ⟨u,rv,?_⟩
  rcases S.par y (mem_of_getElem? hp) with k|k
  ·exact .inl ⟨k,qho ndP hp hu k⟩
  ·obtain ⟨c,e⟩:=qjw (n:=s.heap.objs.size+1) k
   refine .inr ⟨.inl k,c,e,?_⟩
   have q:=x.cell y c e
   rw[qh6 ndP hp hu (by show scope.names.lookup y≠_;rw[k];decide)]at q
   exact q
 ·exact e0.hok.fresh (le_of_lt (x.above y c (PySem.mem_of_lookup h)))
 ·unfold qd9
  show _=N.length
  rw[length_append,length_map,List.length_replicate]
  omega
theorem fn_of{CX:CXT}{P:Program}{w:World}{K:W.Frag}{mg:Str->Option Value}{base:Heap}{k:Nat}{f:Addr}{name qual:Str}{params:Arguments}{body:List Stmt}{scope:Scope}{dV kV doc pm cdv ct oc:Value}{an od:Option Addr}
  {osl:Array (Option Value)}{N ps:List Str}{sp:Sp} (lk:K.lookup f=some ⟨oc,od,.func (W.fnOf name qual params body scope dV kV doc pm an cdv ct),osl⟩) (hcd:W.codeIn K cdv qual=true) (S:FnScope N ps scope)
  (len:∀vs H Q E,sp vs H Q E->vs.length=ps.length)
  (hbody:∀(A:Around) (outer:List Env) (s:Shared) (H:Hp) (vs:List V) (Q:VK) (E:XK),Room k (A.deeper (envOfC qual scope s.heap.objs.size f cdv))->sp vs H Q E->
   ∃t,PSs (cxOf CX P w K mg base N qual scope f cdv A outer s H E) body t/\t { nx:=λ_ H'=>Q .non H',rt:=Q } (qd9 N vs) H) :
  FnOk P w K mg base CX (k+1) f (W.fnOf name qual params body scope dV kV doc pm an cdv ct) ps sp:=by
 refine ⟨len,λA outer s H args us vs Q E hr e0 hb r hsp=>?_⟩
 have hl:=len _ _ _ _ hsp
 have KX:K.In s.heap:=e0.mod.kin.keeps λb o e=>(e0.bs b o e).1
 have lim:s.heap.NoLimit:=e0.mod.nolimit.keeps λb o e=>(e0.bs b o e).1
 have hkind:∀y∈ps.zip us,scope.names.lookup y.1=some .local\/(scope.names.lookup y.1=some .cell/\((cellsFrom (s.heap.objs.size+1) scope.names []).lookup y.1).isSome=true):=λ⟨n,v⟩ hy=>by
  rcases S.par n (of_mem_zip hy).1 with q|q
  ·exact .inl q
  ·exact .inr ⟨q,W.cellsFrom_some _ _ _ (.inl q)⟩
 refine codeAny_call_function hr.depth (KX _ _ lk) rfl S.co S.gen rfl (W.codeRec_of KX hcd) (hb _ _ _ _ ?_)
 refine wpAny_newFunctionEnv_cells S.kind hkind λenv he s1 x=>?_
 subst he
 refine ⟨lim.keeps x.toInCall.keep,codeAny_func ?_⟩
 obtain ⟨t,ht,hq⟩:=hbody A outer s H vs Q E (hr.deeper _) hsp
 have I:Inv (cxOf CX P w K mg base N qual scope f cdv A outer s H E) [] (qd9 N vs) H s1:=qlx S hr.hd e0 hl r x
 refine wpAny_mono (ht [] s1 (qd9 N vs) H _ I hq) (λfl s' hs=>?_) λe s' hs=>hs
 have fin:∀{σ':St}{H':Hp}{v:V}{u:Value},Inv (cxOf CX P w K mg base N qual scope f cdv A outer s H E) [] σ' H' s'->RelV v u->Q v H'->CE outer P w H s Q u s':=
  λ{σ' H' v u} J rv q=>⟨v,H',J.os,J.bare,J.base,J.hok,rv,q⟩
 cases fl with
 |ret u=>
  obtain ⟨v,σ',H',J,rv,q⟩:=hs
  exact fin J rv q
 |next=>
  obtain ⟨σ',H',J,q⟩:=hs
  exact fin (v:=V.non) (u:=Value.none) J rfl q
 |brk=>
  obtain ⟨_,_,_,q⟩:=hs
  exact False.elim q
 |cont=>
  obtain ⟨_,_,_,q⟩:=hs
  exact False.elim q
section
variable {X:Cx}{x:Str}{p pos:Pos}{e:Expr}{es:List Expr}{t:TA}{id T:String}{r:List V->Hp->VK->Prop}
def tCB(r:List V->Hp->VK->Prop)(t:TA):TE:=λσ H Q=>t σ H λvs H1=>r vs H1 Q
theorem qan(hc:ycs X (.builtin id) r)(hg:Gl X x)(hm:X.mg x=none)(hv:bootBuiltins x=some (.builtin id))(ha:PA X (e::es) t)(hn:x≠"__name__":=by decide)(hdb:(x == ("__debug__" : Str))=false:=by decide)
  (he:starEach (e::es) X.env=(false,eval e X.env)::starEach es X.env:=by rfl) (hpl:(backTo pos (starEach es X.env)).any (·.1)=false:=by rfl):PE X (.Call (.Name x p) (e::es) [] pos) (tCB r t):=by
 intro pins s σ H Q I h
 refine wpAny_Call_Name_kw (yc3 I hg hm hv ?_ hn hdb)
 exact PyProof.Rows.callWith_builtin1 (thn (ha pos pins s σ H _ I h) λus s1 ⟨vs,H1,I1,r1,q1⟩=>hc pins s1 σ H1 vs us Q I1 r1 q1) he hpl
theorem yfy(hc:ycs X (.type T) r)(hg:Gl X x)(hm:X.mg x=none)(hv:bootBuiltins x=some (.type T))(ha:PA X (e::es) t)(hn:x≠"__name__":=by decide)(hdb:(x == ("__debug__" : Str))=false:=by decide)
  (he:starEach (e::es) X.env=(false,eval e X.env)::starEach es X.env:=by rfl) (hpl:(backTo pos (starEach es X.env)).any (·.1)=false:=by rfl):PE X (.Call (.Name x p) (e::es) [] pos) (tCB r t):=by
 intro pins s σ H Q I h
 refine wpAny_Call_Name_kw (yc3 I hg hm hv ?_ hn hdb)
 exact PyProof.Rows.callWith_type1 (thn (ha pos pins s σ H _ I h) λus s1 ⟨vs,H1,I1,r1,q1⟩=>hc pins s1 σ H1 vs us Q I1 r1 q1) he hpl
end
end L2
namespace HT
open PySem PyProof.Rows
section
variable {prog:Program}{w:World}{A:Around}{E:Value->Shared->Prop}{s:Shared}
theorem cat_tup{t b:Addr}{vs ws:List Value}{Q:Value->Shared->Prop}(ht:IsTup s.heap t vs.toArray)(hb:IsTup s.heap b ws.toArray)(hv:vs≠[])
  (h1:ws=[]->Q (.ref t) s) (h2:ws≠[]->Q (.ref s.heap.objs.size) { s with heap:=s.heap.push { cls:=.type "tuple",data:=.seq (vs++ws).toArray } })
  (hsz:vs.length+ws.length<=sizeLine):wpAny (model prog w) A (binaryOp .Add (.ref t) (.ref b)) Q E s:=by
 obtain ⟨⟨cls,dd,data,sl⟩,ho,hc,n,hd⟩:=id ht
 obtain ⟨⟨cls2,dd2,data2,sl2⟩,ho2,hc2,n2,hd2⟩:=id hb
 simp only at hc hd hc2 hd2
 subst hc hd hc2 hd2
 have e:vs.toArray++ws.toArray=(vs++ws).toArray:=by simp
 by_cases hw:ws=[]
 ·exact concat_meets ⟨_,ho,rfl⟩ ⟨_,ho2,rfl⟩ noFill_tuple_add seq_tuple_add PySem.F.slot_tuple_add PySem.F.entry_tuple_add (PySem.F.args_tuple_add_2 _ _)
   (tuple_addW1 t b vs.toArray ws.toArray n n2 dd dd2 sl sl2 (by simpa using hv) (by simp[hw])) ⟨ho,ho2,h1 hw⟩
 ·refine concat_meets ⟨_,ho,rfl⟩ ⟨_,ho2,rfl⟩ noFill_tuple_add seq_tuple_add PySem.F.slot_tuple_add PySem.F.entry_tuple_add (PySem.F.args_tuple_add_2 _ _)
   (tuple_addW2 t b vs.toArray ws.toArray n n2 dd dd2 sl sl2 (by simpa using hv) (by simpa using hw) (by rw[size_toArray,size_toArray];exact hsz)) ⟨ho,ho2,?_⟩
  rw[e]
  exact h2 hw
def sIx(n d:Nat):Option Int->Nat
 |none=>d
 |some v=>if v<0 then (v+(n:Int)).toNat else min v.toNat n
theorem sIx_none(n d:Nat):sIx n d none=d:=rfl
theorem sIx_nat(n d k:Nat):sIx n d (some (k:Int))=min k n:=by
 show (if (k:Int)<0 then ((k:Int)+(n:Int)).toNat else min (k:Int).toNat n)=min k n
 rw[if_neg (by omega),toNat_natCast]
theorem sIx_le(n d:Nat)(hd:d<=n)(o:Option Int):sIx n d o<=n:=by
 cases o with
 |none=>exact hd
 |some v=>
  show (if v<0 then (v+(n:Int)).toNat else min v.toNat n)<=n
  by_cases hv:v<0
  ·rw[if_pos hv];omega
  ·rw[if_neg hv];exact Nat.min_le_right _ _
theorem ykp(v:Int)(n d:Nat):(if v<0 then max (v+(n:Int)) 0 else min v (n:Int))=((sIx n d (some v):Nat):Int):=by
 show (if v<0 then max (v+(n:Int)) 0 else min v (n:Int))=(((if v<0 then (v+(n:Int)).toNat else min v.toNat n):Nat):Int)
 by_cases hv:v<0
 ·simp only[if_pos hv];omega
 ·simp only[if_neg hv];omega
theorem yj8(lo hi:Option Int)(n:Nat):Builtin.Slice.sliceAdjust lo hi 1 (n:Int)=(((sIx n 0 lo:Nat):Int),((sIx n n hi:Nat):Int)):=by
 have h1:¬ ((1:Int)<0):=by omega
 unfold Builtin.Slice.sliceAdjust
 simp only[h1,if_false]
 refine Prod.ext ?_ ?_
 ·cases lo with
  |none=>rfl
  |some v=>exact ykp v n 0
 ·cases hi with
  |none=>rfl
  |some v=>exact ykp v n n
theorem qkd(i j:Nat):Builtin.Slice.slicePlaces (i:Int) (j:Int) 1=j-i:=by
 unfold Builtin.Slice.slicePlaces
 have h1:(1:Int)>0:=by omega
 simp only[h1,if_true,Int.ediv_one]
 split<;>omega
theorem qgk{v:Value}{o:Option Int}{Q:Option Int->Shared->Prop}(p:IsPart v o)(h:Q o s):wpAny (model prog w) A (Builtin.Slice.slicePartIndex v) Q E s:=by
 cases p with
 |none=>exact slicePart_none h
 |int i t=>exact slicePart_int h
theorem qe3{sl:Addr}{vl vu:Value}{lo hi:Option Int}{n:Nat}{Q:Int×Int×Nat->Shared->Prop}(hs:s.heap.IsSliceOf sl vl vu .none)(pl:IsPart vl lo)(pu:IsPart vu hi)
  (h:Q (((sIx n 0 lo:Nat):Int),1,sIx n n hi-sIx n 0 lo) s):wpAny (model prog w) A (Builtin.Slice.sliceApplied (.ref sl) (pure (n:Int))) Q E s:=by
 obtain ⟨os,hos,hcs,hds⟩:=id hs
 unfold Builtin.Slice.sliceApplied Builtin.Slice.sliceFields
 refine wpAny_bind (wpAny_bind (wpAny_field hos hds (x:=vl) rfl (wpAny_bind (wpAny_field hos hds (x:=vu) rfl (wpAny_bind (wpAny_field hos hds (x:=.none) rfl (wpAny_pure ?_)))))))
 refine wpAny_bind (slicePart_none ?_)
 show wpAny _ _ (if ((1:Int) == 0)=true then _ else _) _ _ s
 rw[if_neg (by decide)]
 refine wpAny_bind (qgk pl (wpAny_bind (qgk pu (wpAny_bind (wpAny_pure ?_)))))
 show wpAny _ _ (match Builtin.Slice.sliceAdjust lo hi 1 (n:Int) with|(lo,hi)=>pure (lo,(1:Int),Builtin.Slice.slicePlaces lo hi 1)) _ _ s
 rw[yj8 lo hi n]
 show wpAny _ _ (pure (((sIx n 0 lo:Nat):Int),(1:Int),Builtin.Slice.slicePlaces ((sIx n 0 lo:Nat):Int) ((sIx n n hi:Nat):Int) 1)) _ _ s
 rw[qkd]
 exact wpAny_pure h
theorem pick_gen(xs:Array Value)(i k:Nat):((List.range k).filterMap λ(m:Nat)=>xs[((i:Int)+(m:Int)*1).toNat]?).toArray=((xs.toList.drop i).take k).toArray:=by
 have e:(λ(m:Nat)=>xs[((i:Int)+(m:Int)*1).toNat]?)=λm=>xs[i+m]?:=by
  funext m
  have:((i:Int)+(m:Int)*1).toNat=i+m:=by omega
  rw[this]
 rw[e]
 have:=pick_run xs i k
 rw[List.filterMap_map]at this
 have e2:((λx=>xs[x]?) ∘ λx=>i+x)=λm=>xs[i+m]?:=rfl
 rw[e2]at this
 rw[this]
theorem getItem_tuple_cut{t sl:Addr}{items:Array Value}{vl vu:Value}{lo hi:Option Int}{Q:Value->Shared->Prop}(ht:IsTup s.heap t items)(hs:s.heap.IsSliceOf sl vl vu .none)(pl:IsPart vl lo)(pu:IsPart vu hi)
  (hw:¬ (sIx items.size 0 lo=0/\sIx items.size items.size hi=items.size))
  (h:Q (.ref s.heap.objs.size) { s with heap:=s.heap.push { cls:=.type "tuple",data:=.seq ((items.toList.drop (sIx items.size 0 lo)).take (sIx items.size items.size hi-sIx items.size 0 lo)).toArray } })
  (hsz:items.size<=sizeLine):wpAny (model prog w) A (getItem (.ref t) (.ref sl)) Q E s:=by
 have htake:sizeOk (.seq ((items.toList.drop (sIx items.size 0 lo)).take (sIx items.size items.size hi-sIx items.size 0 lo)).toArray):=by
  show ((items.toList.drop (sIx items.size 0 lo)).take (sIx items.size items.size hi-sIx items.size 0 lo)).toArray.size<=sizeLine
  rw[size_toArray,length_take,length_drop,length_toList]
  omega
 have hj:sIx items.size items.size hi<=items.size:=sIx_le _ _ (le_refl _) hi
 obtain ⟨os,hos,hcs,hds⟩:=id hs
 have hTs:s.TypeIs (.ref sl) "slice":=⟨os,hos,hcs⟩
 unfold getItem
 try with_reducible refine wpAny_holding ?_
 first|refine wpAny_bind (wpAny_pure ?_)|skip
 refine wpAny_bind (wpAny_sequenceKey ht.typeIs (by decide) ?_)
 refine wpAny_bind (wpAny_callSpecial?_slot (name:=Str.ofString "__getitem__") ht.typeIs PyProof.Rows.slot_tuple_getitem
  (wpAny_call_entry PyProof.Rows.slot_tuple_getitem ht.typeIs entry_tuple_getitem ?_ (args_tuple_getitem _ _)))
 show wpAny _ _ (Builtin.Tuple.tupleItemsOf (.ref t) >>= _) _ _ s
 refine wpAny_bind (tupleItemsOf_ ht ?_)
 refine wpAny_bind (wpAny_typeOf hTs ?_)
 rw[if_pos (by decide)]
 refine wpAny_bind (qe3 hs pl pu ?_)
 have hno:¬ ((((sIx items.size 0 lo:Nat):Int) == 0&&(1:Int) == 1&&(sIx items.size items.size hi-sIx items.size 0 lo) == items.size)=true):=by
  intro q
  rw[Bool.and_eq_true,Bool.and_eq_true]at q
  have q1:((sIx items.size 0 lo:Nat):Int)=0:=eq_of_beq q.1.1
  have q2:sIx items.size items.size hi-sIx items.size 0 lo=items.size:=eq_of_beq q.2
  exact hw ⟨by omega,by omega⟩
 show wpAny _ _ (if (((sIx items.size 0 lo:Nat):Int) == 0&&(1:Int) == 1&&(sIx items.size items.size hi-sIx items.size 0 lo) == items.size)=true then _ else _) _ _ s
 rw[if_neg hno,pick_gen]
 first
  |exact wpAny_bind (m:=Builtin.Tuple.tupleExact _) (wpAny_newObj_type (wpAny_pure ⟨_,rfl,wpAny_pure h⟩) htake)
  |exact wpAny_bind (m:=Builtin.Tuple.tupleExact _) (wpAny_newObj_type (wpAny_bind (wpAny_pure (wpAny_pure ⟨_,rfl,wpAny_pure h⟩))) htake)
  |exact wpAny_bind (wpAny_bind (m:=Builtin.Tuple.tupleExact _) (wpAny_newObj_type (wpAny_pure (wpAny_pure ⟨_,rfl,wpAny_pure h⟩)) htake))
  |exact wpAny_bind (wpAny_bind (m:=Builtin.Tuple.tupleExact _) (wpAny_newObj_type (wpAny_pure ⟨_,rfl,wpAny_pure h⟩) htake))
end
end HT
namespace L2
open PySem PySem.Spec PyProof.Rows
abbrev TO:=St->Hp->(Option Int->Hp->Prop)->Prop
def PO(X:Cx)(e:Option Expr)(t:TO):Prop:=
 ∀(pins:List (Addr×Obj)) (s:Shared) (σ:St) (H:Hp) (Q:Option Int->Hp->Prop),Inv X pins σ H s->t σ H Q->
  wpAny (model X.prog X.w) X.A (evalPart e X.env) (λu s'=>∃o H',Inv X pins σ H' s'/\IsPart u o/\Q o H') X.xe s
def yi2:TO:=λ_ H Q=>Q none H
def tPart(t:TE):TO:=λσ H Q=>t σ H λx H1=>∃i,x=.int i/\Q (some i) H1
theorem ydi{ns:List Int}:∀{us:List Value},Vals (ns.map V.int) us->IntsAre us ns:=by
 induction ns with
 |nil=>intro us r;rw[map_nil]at r;cases r;exact .nil
 |cons n ns ih=>
  intro us r
  rw[map_cons]at r
  cases r with
  |cons r1 r2=>
   obtain ⟨t,e⟩:=r1
   subst e
   exact .cons n t (ih r2)
section
variable {X:Cx}{e:Expr}{te:TE}{lo hi:Option Expr}{tl th:TO}{pos p2:Pos}
theorem yb8:PO X none yi2:=by
 intro pins s σ H Q I h
 rw[evalPart_none]
 exact wpAny_pure ⟨none,H,I,.none,h⟩
theorem qbh(h:PE X e te):PO X (some e) (tPart te):=by
 intro pins s σ H Q I hw
 rw[evalPart_some]
 refine thn (h pins s σ H _ I hw) λu s1 ⟨x,H1,I1,r1,q1⟩=>?_
 obtain ⟨i,rfl,q⟩:=q1
 obtain ⟨t,rfl⟩:=r1
 exact ⟨some i,H1,I1,.int i t,q⟩
def SlR(X:Cx)(r:V->Option Int->Option Int->Hp->VK->Prop):Prop:=
 ∀(pins:List (Addr×Obj)) (s:Shared) (σ:St) (H:Hp) (x:V) (v vl vu:Value) (lo hi:Option Int) (sl:Addr) (Q:VK),Inv X pins σ H s->RelV x v->s.heap.IsSliceOf sl vl vu .none->IsPart vl lo->IsPart vu hi->r x lo hi H Q->
  ∃T id,typeLookup (.type T) "__getitem__"=pure (some (.builtin id))/\s.TypeIs v T/\wpAny (model X.prog X.w) X.A (getItem v (.ref sl)) (EP X pins σ Q) X.xe s
def tSl(r:V->Option Int->Option Int->Hp->VK->Prop)(te:TE)(tl th:TO):TE:=λσ H Q=>te σ H λx H1=>tl σ H1 λl H2=>th σ H2 λu H3=>r x l u H3 Q
theorem qdk{r:V->Option Int->Option Int->Hp->VK->Prop}(hr:SlR X r)(he:PE X e te)(hl:PO X lo tl)(hu:PO X hi th):PE X (.Subscript e (.Slice lo hi none p2) pos) (tSl r te tl th):=by
 intro pins s σ H Q I h
 refine Subscript_ (thn (he pins s σ H _ I h) λv s1 ⟨x,H1,I1,r1,q1⟩=>?_)
 refine wpAny_Slice (thn (hl pins s1 σ H1 _ I1 q1) λvl s2 ⟨l,H2,I2,pl,q2⟩=>thn (hu pins s2 σ H2 _ I2 q2) λvu s3 ⟨u,H3,I3,pu,q3⟩=>?_)
 rw[evalPart_none]
 refine wpAny_pure ?_
 have I4:Inv X pins σ H3 { s3 with heap:=s3.heap.push { cls:=.type "slice",data:=.fields #[vl,vu,.none] } }:=I3.kept (t':=s3.toks) λb ob q=>get?_push_of_some _ q
 obtain ⟨T,id,hT,ht,hg⟩:=hr pins { s3 with heap:=s3.heap.push { cls:=.type "slice",data:=.fields #[vl,vu,.none] } } σ H3 x v vl vu l u s3.heap.objs.size Q I4 r1 (Heap.IsSliceOf.new ..) pl pu q3
 show wpAny (model X.prog X.w) X.A (subscriptTail e (.Slice lo hi none p2) v (.ref s3.heap.objs.size)) (EP X pins σ Q) X.xe { s3 with heap:=s3.heap.push { cls:=.type "slice",data:=.fields #[vl,vu,.none] } }
 exact tail_any (ops:=[.ref s3.heap.objs.size,v]) ht hT hg (by with_unfolding_all rfl)
def cutV(xs:List V)(lo hi:Option Int):List V:=(xs.drop (HT.sIx xs.length 0 lo)).take (HT.sIx xs.length xs.length hi-HT.sIx xs.length 0 lo)
theorem yfv(xs:List V)(lo hi:Option Int):(cutV xs lo hi).length<=xs.length:=by
 unfold cutV
 rw[length_take,length_drop]
 omega
def rSlT(K:W.Frag):V->Option Int->Option Int->Hp->VK->Prop:=λx lo hi H Q=>∃a xs,x=.ref a/\SqT K H a xs/\
 ¬ (HT.sIx xs.length 0 lo=0/\HT.sIx xs.length xs.length hi=xs.length)/\∀p,H p=none->Q (.ref p) (upd H p (.tup (cutV xs lo hi)))
theorem ykt:SlR X (rSlT X.K):=by
 intro pins s σ H x v vl vu lo hi sl Q I rx hs pl pu h
 obtain ⟨a,xs,rfl,hx,hw,q⟩:=h
 cases rx
 obtain ⟨its,r,ht,hz⟩:=I.tuple hx
 have hlen:its.toArray.size=xs.length:=by rw[size_toArray];exact r.length.symm
 refine ⟨"tuple",_,PyProof.Rows.slot_tuple_getitem.lookup,ht.typeIs,?_⟩
 refine HT.getItem_tuple_cut ht hs pl pu (by rw[hlen];exact hw) ?_ (by rw[hlen];exact hz)
 rw[hlen]
 refine ⟨.ref s.heap.objs.size,_,I.laid (t':=s.toks) (o:=.tup (cutV xs lo hi)) (λb ob q=>get?_push_of_some _ q) (le_refl _) ?_,rfl,q _ (I.hok.fresh (le_refl _))⟩
 exact ⟨le_trans (yfv xs lo hi) hz,_,(r.drop (HT.sIx xs.length 0 lo)).take (HT.sIx xs.length xs.length hi-HT.sIx xs.length 0 lo),IsTup.new _ _⟩
def rCatT(K:W.Frag):R2:=λx y H Q=>∃a b xs ys,x=.ref a/\y=.ref b/\SqT K H a xs/\SqT K H b ys/\xs≠[]/\xs.length+ys.length<=sizeLine/\
 (ys=[]->Q (.ref a) H)/\(ys≠[]->∀p,H p=none->Q (.ref p) (upd H p (.tup (xs++ys))))
theorem Vals.nil_iff{xs:List V}{us:List Value}(r:Vals xs us):us=[]↔xs=[]:=by
 cases r with
 |nil=>simp
 |cons _ _=>simp
theorem op_catT:OpR X (binaryOp .Add) (rCatT X.K):=by
 intro pins s σ H x y v u Q I rx ry h
 obtain ⟨a,b,xs,ys,rfl,rfl,ha,hb,hx,hz,q1,q2⟩:=h
 cases rx
 cases ry
 obtain ⟨its,r1,p1,_⟩:=I.tuple ha
 obtain ⟨its2,r2,p2,_⟩:=I.tuple hb
 refine HT.cat_tup p1 p2 (λz=>hx (r1.nil_iff.mp z)) (λz=>⟨.ref a,H,I,rfl,q1 (r2.nil_iff.mp z)⟩) (λz=>?_) (by rw[<-r1.length,<-r2.length];exact hz)
 refine ⟨.ref s.heap.objs.size,_,I.laid (t':=s.toks) (o:=.tup (xs++ys)) (λb ob q=>get?_push_of_some _ q) (le_refl _) ?_,rfl,q2 (λw=>z (r2.nil_iff.mpr w)) _ (I.hok.fresh (le_refl _))⟩
 exact ⟨by rw[length_append];exact hz,_,r1.append r2,IsTup.new _ _⟩
end
def ixN(n:Nat)(i:Int):Option Nat:=if 0<=i then (if i<n then some i.toNat else none) else if -(n:Int)<=i then some (i+n).toNat else none
def atI{α:Type}(xs:List α)(i:Int):Option α:=(ixN xs.length i).bind λj=>xs[j]?
theorem qk1{n:Nat}{i:Int}{j:Nat}(h:ixN n i=some j):seqIndex? i n=some j/\j<n/\-(n:Int)<=i/\i<n:=by
 unfold ixN at h
 by_cases h0:0<=i
 ·rw[if_pos h0]at h
  by_cases h1:i<n
  ·rw[if_pos h1]at h
   have e:i.toNat=j:=Option.some.inj h
   exact ⟨by rw[seqIndex_of h0 h1,e],by omega,by omega,h1⟩
  ·rw[if_neg h1]at h;cases h
 ·rw[if_neg h0]at h
  by_cases h1:-(n:Int)<=i
  ·rw[if_pos h1]at h
   have e:(i+n).toNat=j:=Option.some.inj h
   exact ⟨by rw[seqIndex_neg (by omega) h1,e],by omega,h1,by omega⟩
  ·rw[if_neg h1]at h;cases h
theorem yl9{α:Type}{xs:List α}{i:Int}{v:α}(h:atI xs i=some v):∃j,seqIndex? i xs.length=some j/\xs[j]?=some v/\j<xs.length/\-(xs.length:Int)<=i/\i<xs.length:=by
 unfold atI at h
 cases e:ixN xs.length i with
 |none=>rw[e]at h;cases h
 |some j=>
  rw[e]at h
  obtain ⟨h1,h2,h3,h4⟩:=qk1 e
  exact ⟨j,h1,h,h2,h3,h4⟩
theorem qbj{α:Type}{xs:List α}{j:Nat}{v:α}(h:xs[j]?=some v):atI xs (j:Int)=some v:=by
 have hj:j<xs.length:=(List.getElem?_eq_some_iff.mp h).1
 have e:ixN xs.length (j:Int)=some j:=by
  unfold ixN
  rw[if_pos (by omega),if_pos (by omega)];simp
 unfold atI;rw[e];exact h
def qm0(b:Expr):Prop:=∀o i,subscripted b false o i=operate [o,i] (getItem o i)
def IxR(X:Cx)(r:R2):Prop:=
 ∀(value slice:Expr) (pins:List (Addr×Obj)) (s:Shared) (σ:St) (H:Hp) (x y:V) (v u:Value) (Q:VK),Inv X pins σ H s->RelV x v->RelV y u->r x y H Q->
  subscripted slice false v u=operate [v,u] (getItem v u)->wpAny (model X.prog X.w) X.A (subscriptTail value slice v u) (EP X pins σ Q) X.xe s
def MtR(X:Cx)(id:String)(r:V->List V->Hp->VK->Prop):Prop:=
 ∀(pins:List (Addr×Obj)) (s:Shared) (σ:St) (H:Hp) (x:V) (xs:List V) (v:Value) (us:List Value) (Q:VK),Inv X pins σ H s->RelV x v->Vals xs us->r x xs H Q->
  wpAny (model X.prog X.w) X.A (call (.builtin id) (v::us)) (EP X pins σ Q) X.xe s
section
variable {X:Cx}{a b:Expr}{ta tb:TE}{pos:Pos}
theorem qbe{r:R2}(hr:IxR X r)(ha:PE X a ta)(hb:PE X b tb)(hs:qm0 b:=by intro _ _;rfl):PE X (.Subscript a b pos) (tOp r ta tb):=by
 intro pins s σ H Q I h
 exact Subscript_ (binT ha hb I h λv u s2 x y H2 I2 rx ry q=>hr a b pins s2 σ H2 x y v u Q I2 rx ry q (hs _ _))
def rIxL(K:W.Frag):R2:=λx y H Q=>∃p xs i v,x=.ref p/\y=.int i/\SqL K H p xs/\atI xs i=some v/\Q v H
def rIxT(K:W.Frag):R2:=λx y H Q=>∃p xs i v,x=.ref p/\y=.int i/\SqT K H p xs/\atI xs i=some v/\Q v H
theorem qal:IxR X (rIxL X.K):=by
 intro value slice pins s σ H x y v u Q I rx ry h hs
 obtain ⟨p,xs,i,z,rfl,rfl,hq,he,q⟩:=h
 cases rx
 obtain ⟨t,rfl⟩:=ry
 obtain ⟨its,r,pl,hz⟩:=I.list hq
 obtain ⟨j,h1,h2,h3,h4,h5⟩:=yl9 he
 obtain ⟨w,ew,rw'⟩:=r.get h2
 have hl:=r.length
 have hn:=qjk
 have fin:EP X pins σ Q w s:=⟨z,H,I,rw',q⟩
 by_cases h0:0<=i
 ·have hj:i.toNat=j:=by
   rw[seqIndex_of h0 h5]at h1
   exact Option.some.inj h1
  exact item_listR pl.isList h0 (by omega) (by rw[hj];simpa using ew) fin hs
 ·have hj:(i+(its.toArray.size:Int)).toNat=j:=by
   rw[seqIndex_neg (by omega) h4]at h1
   rw[size_toArray,<-hl]
   exact Option.some.inj h1
  exact subscriptTail_builtinR (x:=w) pl.isList.typeIs slot_list_getitem.lookup
   (wpAny_getItem_list_neg (Q:=λr s'=>r=w/\EP X pins σ Q r s') pl.isList (by omega) (by rw[size_toArray]<;>omega) (by omega) (by rw[hj];simpa using ew) ⟨rfl,fin⟩) hs
theorem yam:IxR X (rIxT X.K):=by
 intro value slice pins s σ H x y v u Q I rx ry h hs
 obtain ⟨p,xs,i,z,rfl,rfl,hq,he,q⟩:=h
 cases rx
 obtain ⟨t,rfl⟩:=ry
 obtain ⟨its,r,pl,hz⟩:=I.tuple hq
 obtain ⟨j,h1,h2,h3,h4,h5⟩:=yl9 he
 obtain ⟨w,ew,rw'⟩:=r.get h2
 have hl:=r.length
 have hn:=qjk
 have fin:EP X pins σ Q w s:=⟨z,H,I,rw',q⟩
 exact subscriptTail_builtinR (x:=w) pl.typeIs slot_tuple_getitem.lookup
  (getItem_tuple (j:=j) (Q:=λr s'=>r=w/\EP X pins σ Q r s') pl (by omega) (by omega) (by rw[size_toArray,<-hl];exact h1) (by simpa using ew) ⟨rfl,fin⟩) hs
theorem qj8(its:List Value)(n j:Nat)(u:Value):Obj.mapSeq (·.setIfInBounds j u) { cls:=.type "list",data:=.seq its.toArray n }={ cls:=.type "list",data:=.seq (its.set j u).toArray n }:=by
 simp[Obj.mapSeq]
theorem Inv.lst{pins:List (Addr×Obj)}{σ:St}{H:Hp}{s:Shared}{p:Addr}{xs:List V}(I:Inv X pins σ H s)(h:H p=some (.lst xs)) :
  ∃(its:List Value) (n:Nat),Vals xs its/\s.heap.get? p=some { cls:=.type "list",data:=.seq its.toArray n }/\xs.length<=sizeLine:=by
 obtain ⟨z,its,n,r,e⟩:=I.hok p _ h
 exact ⟨its,n,r,e,z⟩
theorem Inv.lstUpd{pins:List (Addr×Obj)}{σ:St}{H:Hp}{s:Shared}{p:Addr}{xs ys:List V}{its its':List Value}{n n':Nat}{f:Obj->Obj}(I:Inv X pins σ H s)(h:H p=some (.lst xs))
  (ho:s.heap.get? p=some { cls:=.type "list",data:=.seq its.toArray n }) (hf:f { cls:=.type "list",data:=.seq its.toArray n }={ cls:=.type "list",data:=.seq its'.toArray n' }) (r:Vals ys its') (hz:ys.length<=sizeLine) (t:Nat) :
  Inv X pins σ (upd H p (.lst ys)) { s with heap:=s.heap.update p f,toks:=t }:=by
 have e:(s.heap.update p f).get? p=some { cls:=.type "list",data:=.seq its'.toArray n' }:=by
  rw[get?_update_self f ho (by rw[hf]<;>rfl),hf]
 refine I.write (x:=p) (e:=p) (by rw[h];trivial) (.inl rfl) (λb u hb q=>(get?_update_other _ _ (Ne.symm hb)).trans q) ⟨_,e⟩ ?_
 exact ⟨hz,its',n',r,e⟩
def rSetL:V->V->V->Hp->(Hp->Prop)->Prop:=λo i v H Q=>∃p xs k j,o=.ref p/\i=.int k/\H p=some (.lst xs)/\ixN xs.length k=some j/\Q (upd H p (.lst (xs.set j v)))
theorem qgw:PSet X rSetL:=by
 intro pins s σ H o i v ov iv u Q I ro ri rv h
 obtain ⟨p,xs,k,j,rfl,rfl,hp,hj,q⟩:=h
 cases ro
 obtain ⟨t,rfl⟩:=ri
 obtain ⟨its,n,r,ho,hz⟩:=I.lst hp
 obtain ⟨h1,h2,h3,h4⟩:=qk1 hj
 have hl:=r.length
 have hn:=qjk
 have I':Inv X pins σ (upd H p (.lst (xs.set j v))) { s with heap:=s.heap.update p (Obj.mapSeq (·.setIfInBounds j u)) }:=
  I.lstUpd hp ho (qj8 its n j u) (r.set rv j) (by rw[length_set];exact hz) s.toks
 by_cases h0:0<=k
 ·have hk:k.toNat=j:=by
   rw[seqIndex_of h0 h4]at h1
   exact Option.some.inj h1
  exact W.ki_setAt ho h0 (by omega) (by rw[size_toArray,<-hl];exact h4) (by rw[hk];exact ⟨_,I',q⟩)
 ·have hk:(k+(its.toArray.size:Int)).toNat=j:=by
   rw[seqIndex_neg (by omega) h3]at h1
   rw[size_toArray,<-hl]
   exact Option.some.inj h1
  exact W.ki_setBack ho (by omega) (by rw[size_toArray,<-hl];exact h3) (by omega) (by rw[hk];exact ⟨_,I',q⟩)
theorem qhz(lo hi:Option Int)(n:Nat):(sliceBounds lo hi none n).1=((HT.sIx n 0 lo:Nat):Int)/\(sliceBounds lo hi none n).2.1=((HT.sIx n n hi:Nat):Int)/\(sliceBounds lo hi none n).2.2=1:=by
 refine ⟨?_,?_,rfl⟩
 ·cases lo with
  |none=>simp[sliceBounds,HT.sIx]
  |some i=>
   simp only[sliceBounds,HT.sIx,Option.getD_none,show (1:Int)>0 by decide,if_true]
   by_cases h:i<0
   ·simp only[h,if_true]<;>omega
   ·simp only[h,if_false]<;>omega
 ·cases hi with
  |none=>simp[sliceBounds,HT.sIx]
  |some i=>
   simp only[sliceBounds,HT.sIx,Option.getD_none,show (1:Int)>0 by decide,if_true]
   by_cases h:i<0
   ·simp only[h,if_true]<;>omega
   ·simp only[h,if_false]<;>omega
theorem ygs(its:List Value)(lo hi:Option Int):slicePick its.toArray lo hi none=((its.drop (HT.sIx its.length 0 lo)).take (HT.sIx its.length its.length hi-HT.sIx its.length 0 lo)).toArray:=by
 obtain ⟨h1,h2,h3⟩:=qhz lo hi its.toArray.size
 unfold slicePick
 rw[h1,h2,h3]
 simp only[sliceRange_one,pick_run,size_toArray]<;>rfl
def rSlL(K:W.Frag):V->Option Int->Option Int->Hp->VK->Prop:=λx lo hi H Q=>∃a xs,x=.ref a/\SqL K H a xs/\∀p,H p=none->Q (.ref p) (upd H p (.lst (cutV xs lo hi)))
theorem yci:SlR X (rSlL X.K):=by
 intro pins s σ H x v vl vu lo hi sl Q I rx hs pl pu h
 obtain ⟨a,xs,rfl,hx,q⟩:=h
 cases rx
 obtain ⟨its,r,ht,hz⟩:=I.list hx
 have hlen:=r.length
 refine ⟨"list",_,slot_list_getitem.lookup,ht.isList.typeIs,?_⟩
 refine wpAny_getItem_list_slice ht.isList hs pl pu .none (by simp) ?_ (by rw[size_toArray]<;>omega)
 rw[ygs,<-hlen]
 refine ⟨.ref s.heap.objs.size,_,I.laid (t':=s.toks) (o:=.lst (cutV xs lo hi)) (λb ob q=>get?_push_of_some _ q) (le_refl _) ?_,rfl,q _ (I.hok.fresh (le_refl _))⟩
 exact ⟨le_trans (yfv xs lo hi) hz,_,0,(r.drop (HT.sIx xs.length 0 lo)).take (HT.sIx xs.length xs.length hi-HT.sIx xs.length 0 lo),get?_push_size _ rfl⟩
def qdw:V->Bool
 |.non=>true
 |.bl _=>true
 |.int _=>true
 |.str _=>true
 |_=>false
def eqV:V->V->Bool
 |.non,.non=>true
 |.bl a,.bl b=>a == b
 |.bl a,.int b=>(if a then 1 else 0) == b
 |.int a,.bl b=>a == (if b then 1 else 0)
 |.int a,.int b=>a == b
 |.str a,.str b=>a == b
 |_,_=>false
theorem eqAt_V{A:Around}{s:Shared}{y x:V}{u v:Value}(ry:RelV y u)(rx:RelV x v)(fy:qdw y=true)(fx:qdw x=true):SeqAt.EqAt A s u v (eqV y x):=by
 cases y with
 |non=>
  cases ry
  cases x with
  |non=>cases rx;exact SeqAt.EqAt.same _
  |bl b=>cases rx;exact SeqAt.EqAt.none_bool b
  |int b=>obtain ⟨t,rfl⟩:=rx;exact SeqAt.EqAt.none_int b t
  |str b=>obtain ⟨t,rfl⟩:=rx;exact SeqAt.EqAt.none_str b t
  |_=>exact absurd (show false=true from fx) Bool.false_ne_true
 |bl a=>
  cases ry
  cases x with
  |non=>cases rx;exact SeqAt.EqAt.bool_none a
  |bl b=>cases rx;exact SeqAt.EqAt.bool_bool a b
  |int b=>obtain ⟨t,rfl⟩:=rx;exact SeqAt.EqAt.bool_int a b t
  |str b=>obtain ⟨t,rfl⟩:=rx;exact SeqAt.EqAt.bool_str a b t
  |_=>exact absurd (show false=true from fx) Bool.false_ne_true
 |int a=>
  obtain ⟨t',rfl⟩:=ry
  cases x with
  |non=>cases rx;exact SeqAt.EqAt.int_none a t'
  |bl b=>cases rx;exact SeqAt.EqAt.int_bool a t' b
  |int b=>obtain ⟨t,rfl⟩:=rx;exact SeqAt.EqAt.int_int a t' b t
  |str b=>obtain ⟨t,rfl⟩:=rx;exact SeqAt.EqAt.int_str a t' b t
  |_=>exact absurd (show false=true from fx) Bool.false_ne_true
 |str a=>
  obtain ⟨t',rfl⟩:=ry
  cases x with
  |non=>cases rx;exact SeqAt.EqAt.str_none a t'
  |bl b=>cases rx;exact SeqAt.EqAt.str_bool a t' b
  |int b=>obtain ⟨t,rfl⟩:=rx;exact SeqAt.EqAt.str_int a t' b t
  |str b=>obtain ⟨t,rfl⟩:=rx;exact SeqAt.EqAt.str_str a t' b t
  |_=>exact absurd (show false=true from fx) Bool.false_ne_true
 |_=>exact absurd (show false=true from fy) Bool.false_ne_true
def eqU(x:V)(u:Value):Bool:=match u with
 |.none=>eqV .non x
 |.bool b=>eqV (.bl b) x
 |.int i _=>eqV (.int i) x
 |.str z _=>eqV (.str z) x
 |_=>false
theorem eqU_of{x y:V}{u:Value}(r:RelV y u)(f:qdw y=true):eqU x u=eqV y x:=by
 cases y with
 |non=>cases r;rfl
 |bl b=>cases r;rfl
 |int i=>obtain ⟨t,rfl⟩:=r;rfl
 |str z=>obtain ⟨t,rfl⟩:=r;rfl
 |_=>exact absurd (show false=true from f) Bool.false_ne_true
theorem yfq{x:V}:∀{xs:List V}{us:List Value},Vals xs us->xs.all qdw=true->us.any (eqU x)=xs.any λy=>eqV y x
 |_,_,.nil,_=>rfl
 |y::xs,u::us,.cons r t,f=>by
  rw[all_cons,Bool.and_eq_true]at f
  rw[any_cons,any_cons,eqU_of r f.1,yfq t f.2]
theorem yd8{A:Around}{s:Shared}{x:V}{v:Value}(rx:RelV x v)(fx:qdw x=true):∀{xs:List V}{us:List Value},Vals xs us->xs.all qdw=true->∀u∈us,SeqAt.EqAt A s u v (eqU x u)
 |_,_,.nil,_=>λu hu=>by cases hu
 |y::xs,u::us,.cons r t,f=>λu' hu=>by
  rw[all_cons,Bool.and_eq_true]at f
  rcases mem_cons.mp hu with rfl|hu
  ·rw[eqU_of r f.1];exact eqAt_V r rx f.1 fx
  ·exact yd8 rx fx t f.2 u' hu
def inV(x:V)(xs:List V):Bool:=xs.any λy=>eqV y x
def rIn(K:W.Frag)(neg:Bool):R2:=λx y H Q=>∃p xs,y=.ref p/\(SqL K H p xs\/SqT K H p xs)/\qdw x=true/\xs.all qdw=true/\Q (.bl (if neg then !inV x xs else inV x xs)) H
theorem ybw:OpR X (compareOp .In) (rIn X.K false):=by
 intro pins s σ H x y v u Q I rx ry h
 obtain ⟨p,xs,rfl,hq,fx,fs,q⟩:=h
 cases ry
 rcases hq with hq|hq
 ·obtain ⟨its,r,pl,hz⟩:=I.list hq
  refine SeqAt.in_listAt (eqU x) pl.isList (λw hw=>yd8 rx fx r fs w (by simpa using hw)) ⟨.bl _,H,I,rfl,?_⟩
  rw[show its.toArray.any (eqU x)=its.any (eqU x) by simp,yfq r fs]
  exact q
 ·obtain ⟨its,r,pl,hz⟩:=I.tuple hq
  refine SeqAt.in_tupleAt (eqU x) pl (λw hw=>yd8 rx fx r fs w (by simpa using hw)) ⟨.bl _,H,I,rfl,?_⟩
  rw[show its.toArray.any (eqU x)=its.any (eqU x) by simp,yfq r fs]
  exact q
theorem qh3:OpR X (compareOp .NotIn) (rIn X.K true):=by
 intro pins s σ H x y v u Q I rx ry h
 obtain ⟨p,xs,rfl,hq,fx,fs,q⟩:=h
 cases ry
 rcases hq with hq|hq
 ·obtain ⟨its,r,pl,hz⟩:=I.list hq
  refine SeqAt.notIn_listAt (eqU x) pl.isList (λw hw=>yd8 rx fx r fs w (by simpa using hw)) ⟨.bl _,H,I,rfl,?_⟩
  rw[show its.toArray.any (eqU x)=its.any (eqU x) by simp,yfq r fs]
  exact q
 ·obtain ⟨its,r,pl,hz⟩:=I.tuple hq
  refine SeqAt.notIn_tupleAt (eqU x) pl (λw hw=>yd8 rx fx r fs w (by simpa using hw)) ⟨.bl _,H,I,rfl,?_⟩
  rw[show its.toArray.any (eqU x)=its.any (eqU x) by simp,yfq r fs]
  exact q
theorem qai:ycs X (.builtin "len") (λxs H Q=>∃p ys,xs=[.ref p]/\(SqL X.K H p ys\/SqT X.K H p ys)/\Q (.int ys.length) H):=by
 intro pins s σ H xs us Q I r h
 obtain ⟨p,ys,rfl,hq,q⟩:=h
 obtain ⟨u,rfl,rx⟩:=yhm r
 cases rx
 have hn:=qjk
 rcases hq with hq|hq
 ·obtain ⟨its,r',pl,hz⟩:=I.list hq
  have hlen:=r'.length
  exact Calls.call_len_list pl.isList (by simp only[size_toArray]<;>omega) ⟨.int ys.length,H,I.tok _,⟨s.toks+1,by rw[size_toArray,hlen]⟩,q⟩
 ·obtain ⟨its,r',pl,hz⟩:=I.tuple hq
  have hlen:=r'.length
  exact len_tuple pl (by simp only[size_toArray]<;>omega) ⟨.int ys.length,H,I.tok _,⟨s.toks+1,by rw[size_toArray,hlen]⟩,q⟩
theorem ybx:ycs X (.type "list") (λxs H Q=>∃p ys,xs=[.ref p]/\(SqL X.K H p ys\/SqT X.K H p ys)/\∀l,H l=none->Q (.ref l) (upd H l (.lst ys))):=by
 intro pins s σ H xs us Q I r h
 obtain ⟨p,ys,rfl,hq,q⟩:=h
 obtain ⟨u,rfl,rx⟩:=yhm r
 cases rx
 have fin:∀(its:List Value),Vals ys its->ys.length<=sizeLine->∀(h':Heap) (c':Nat),(∀b o',s.heap.get? b=some o'->h'.get? b=some o')->
   h'.get? s.heap.objs.size=some { cls:=.type "list",dict:=none,data:=.seq its.toArray c',slots:=#[] }->EP X pins σ Q (.ref s.heap.objs.size) { s with heap:=h' }:=λits r' hz h' c' kp e=>
  ⟨.ref s.heap.objs.size,_,I.laid (t':=s.toks) kp (le_refl _) (show yay X.prog X.w _ h' _ (.lst ys) from ⟨hz,its,c',r',e⟩),rfl,q _ (I.hok.fresh (le_refl _))⟩
 rcases hq with hq|hq
 ·obtain ⟨its,r',pl,hz⟩:=I.list hq
  have hlen:=r'.length
  obtain ⟨o,ho,hc,n,hd⟩:=pl.isList
  exact call_list_seq p (.inl rfl) ho hc hd (λh' c' kp e=>fin its r' hz h' c' kp e) (by simp only[size_toArray]<;>omega)
 ·obtain ⟨its,r',pl,hz⟩:=I.tuple hq
  have hlen:=r'.length
  obtain ⟨o,ho,hc,n,hd⟩:=pl
  exact call_list_seq p (.inr rfl) ho hc hd (λh' c' kp e=>fin its r' hz h' c' kp e) (by simp only[size_toArray]<;>omega)
theorem qbo:ycs X (.type "tuple") (λxs H Q=>∃p ys,xs=[.ref p]/\((SqL X.K H p ys/\∀l,H l=none->Q (.ref l) (upd H l (.tup ys)))\/(SqT X.K H p ys/\Q (.ref p) H))):=by
 intro pins s σ H xs us Q I r h
 obtain ⟨p,ys,rfl,h⟩:=h
 obtain ⟨u,rfl,rx⟩:=yhm r
 cases rx
 rcases h with ⟨hq,q⟩|⟨hq,q⟩
 ·obtain ⟨its,r',pl,hz⟩:=I.list hq
  have hlen:=r'.length
  refine call_tuple_list pl.isList (λh' kp=>?_) (by simp only[size_toArray]<;>omega)
  have I1:Inv X pins σ H { s with heap:=h' }:=I.kept (t':=s.toks) kp
  have I2:Inv X pins σ (upd H h'.objs.size (.tup ys)) { s with heap:=h'.push { cls:=.type "tuple",data:=.seq its.toArray } }:=
   I1.laid (t':=s.toks) (λb o e=>get?_push_of_some _ e) (le_refl _) (show yay X.prog X.w _ _ _ (.tup ys) from ⟨hz,its,r',IsTup.new _ _⟩)
  exact ⟨.ref h'.objs.size,_,I2,rfl,q _ (I1.hok.fresh (le_refl _))⟩
 ·obtain ⟨its,r',pl,hz⟩:=I.tuple hq
  exact call_tuple_same pl ⟨.ref p,H,I,rfl,q⟩
def tyV(K:W.Frag)(T:String)(x:V)(H:Hp):Prop:=match x with
 |.str _=>T="str"
 |.int _=>T="int"
 |.ref p=>(T="list"/\∃xs,SqL K H p xs)\/(T="tuple"/\∃o,K.lookup p=some o/\o.cls=.type "tuple"/\o.dict=none)\/
   (T="dict"/\((∃kvs,H p=some (.dK kvs))\/∃kvs,H p=some (.dT kvs)))\/(T="set"/\∃S n,H p=some (.set S n))
 |_=>False
theorem tyV_is{pins:List (Addr×Obj)}{σ:St}{H:Hp}{s:Shared}{T:String}{x:V}{v:Value}(I:Inv X pins σ H s)(r:RelV x v)(ty:tyV X.K T x H) :
  s.TypeIs v T/\∀a,v=.ref a->∃ob,s.heap.get? a=some ob/\ob.dict=none:=by
 cases x with
 |str z=>
  obtain ⟨t,rfl⟩:=r
  cases (show T="str" from ty)
  exact ⟨typeIs_str s z t,λ_ e=>nomatch e⟩
 |int i=>
  obtain ⟨t,rfl⟩:=r
  cases (show T="int" from ty)
  exact ⟨typeIs_int s i t,λ_ e=>nomatch e⟩
 |ref p=>
  cases r
  rcases ty with ⟨rfl,xs,hq⟩|⟨rfl,o,hk,hc,hd⟩|⟨rfl,hk⟩|⟨rfl,S,n,hk⟩
  ·obtain ⟨its,_,pl,_⟩:=I.list hq
   refine ⟨pl.isList.typeIs,λa e=>?_⟩
   cases e
   obtain ⟨o,n,e,c,hd,_⟩:=pl
   exact ⟨o,e,hd⟩
  ·refine ⟨⟨o,I.kIn p o hk,hc⟩,λa e=>?_⟩
   cases e
   exact ⟨o,I.kIn _ o hk,hd⟩
  ·have z:∃o,s.heap.get? p=some o/\o.ExactDict:=by
    rcases hk with ⟨kvs,hk⟩|⟨kvs,hk⟩
    ·obtain ⟨_,_,_,_,o,_,_,e,ex,_⟩:=I.hok p _ hk
     exact ⟨o,e,ex⟩
    ·obtain ⟨_,_,_,_,o,_,_,e,ex,_⟩:=I.hok p _ hk
     exact ⟨o,e,ex⟩
   obtain ⟨o,e,ex⟩:=z
   refine ⟨⟨o,e,ex.1⟩,λa e2=>?_⟩
   cases e2
   exact ⟨o,e,ex.2.1⟩
  ·obtain ⟨o,_,_,_,e,ex,_⟩:=I.hok p _ hk
   refine ⟨⟨o,e,ex.1⟩,λa e2=>?_⟩
   cases e2
   exact ⟨o,e,ex.2.1⟩
 |_=>exact False.elim ty
def tBM0(K:W.Frag)(T:String)(r:V->List V->Hp->VK->Prop)(to:TE):TE:=λσ H Q=>to σ H λx H1=>tyV K T x H1/\r x [] H1 Q
def tBM(K:W.Frag)(T:String)(r:V->List V->Hp->VK->Prop)(to:TE)(t:TA):TE:=λσ H Q=>to σ H λx H1=>tyV K T x H1/\t σ H1 λxs H2=>r x xs H2 Q
variable {o e:Expr}{es:List Expr}{to:TE}{t:TA}{name:Str}{apos cpos:Pos}{T id:String}{r:V->List V->Hp->VK->Prop}
theorem pe_bm0(pa:PlainAttrs T)(slot:Slot T name id)(hty:typeOf (.builtin id)=pure (.type "method_descriptor"))(hm:MtR X id r)(ho:PE X o to)
  (hbase:attributeBase o name X.env (eval o X.env)=eval o X.env:=by rfl) (hline:(apos.endLine == cpos.line)=true:=by rfl):PE X (.Call (.Attribute o name apos) [] [] cpos) (tBM0 X.K T r to):=by
 intro pins s σ H Q I h
 refine wpAny_Call_method0_late hbase hline (thn (ho pins s σ H _ I h) λv s1 ⟨x,H1,I1,r1,ty,q1⟩=>?_)
 obtain ⟨h1,h2⟩:=tyV_is I1 r1 ty
 exact ⟨T,id,pa,slot,hty,h1,h2,Calls.callWith_builtin rfl (PySem.evalArgs_none (hm pins s1 σ H1 x [] v [] Q I1 r1 .nil q1))⟩
theorem qdd(pa:PlainAttrs T)(slot:Slot T name id)(hty:typeOf (.builtin id)=pure (.type "method_descriptor"))(hm:MtR X id r)(ho:PE X o to)(ha:PA X (e::es) t)
  (hbase:attributeBase o name X.env (eval o X.env)=eval o X.env:=by rfl)
  (hfew:((backTo cpos (starEach (e::es) X.env)).all (λx=>!x.1)&&(backToKw cpos (keywordEach [] X.env)).all (λx=>x.1.isSome)
   && decide ((e::es).length+([]:List Keyword).length+(if ([]:List Keyword).isEmpty then 0 else 1)<30))=true:=by rfl)
  (hline:(apos.endLine == cpos.line)=true:=by rfl) (hs:starEach (e::es) X.env=(false,eval e X.env)::starEach es X.env:=by rfl) (hplain:(backTo cpos (starEach es X.env)).any (·.1)=false:=by rfl) :
  PE X (.Call (.Attribute o name apos) (e::es) [] cpos) (tBM X.K T r to t):=by
 intro pins s σ H Q I h
 refine wpAny_Call_method_late hbase hfew hline rfl (thn (ho pins s σ H _ I h) λv s1 ⟨x,H1,I1,r1,ty,q1⟩=>?_)
 obtain ⟨h1,h2⟩:=tyV_is I1 r1 ty
 refine ⟨T,id,pa,slot,hty,h1,h2,?_⟩
 have hA:=ha cpos pins s1 σ H1 _ I1 q1
 rw[hs]at hA ⊢
 refine Calls.callWith_builtin (by show (false||(backTo cpos (starEach es X.env)).any (·.1))=false;rw[hplain]<;>rfl) (Calls.evalArgs_plain ?_)
 exact thn hA λus s2 ⟨vs,H2,I2,r2,q2⟩=>hm pins s2 σ H2 x vs v us Q I2 r1 r2 q2
end
def MtM(X:Cx)(id:String)(r:V->List V->Hp->VK->Prop):Prop:=
 ∀(pins:List (Addr×Obj)) (s:Shared) (σ:St) (H:Hp) (x:V) (xs:List V) (v:Value) (us:List Value) (Q:VK),Inv X pins σ H s->RelV x v->Vals xs us->r x xs H Q->
  wpAny (model X.prog X.w) X.A (call (.builtin id) (v::us)) (EP X pins σ Q) X.xe s
theorem Vals.one:∀{x:V}{us:List Value},Vals [x] us->∃u,us=[u]/\RelV x u
 |_,_,.cons r .nil=>⟨_,rfl,r⟩
theorem Vals.zero:∀{us:List Value},Vals [] us->us=[]
 |_,.nil=>rfl
theorem Vals.dropLast{xs:List V}{us:List Value}(h:Vals xs us):Vals xs.dropLast us.dropLast:=by
 induction h with
 |nil=>exact .nil
 |cons r t ih=>
  cases t with
  |nil=>exact .nil
  |cons q t'=>exact .cons r ih
theorem Vals.rep{xs:List V}{us:List Value}(h:Vals xs us):∀k:Nat,Vals (List.replicate k xs).flatten (List.replicate k us).flatten
 |0=>.nil
 |k+1=>by
  rw[replicate_succ,replicate_succ,flatten_cons,flatten_cons]
  exact Vals.append h (Vals.rep h k)
theorem yka{α:Type}(l:List α):l.eraseIdx (l.length-1)=l.dropLast:=by
 induction l with
 |nil=>rfl
 |cons a r ih=>
  cases r with
  |nil=>rfl
  |cons b r=>
   have e:(a::b::r).length-1=((b::r).length-1)+1:=by
    have h1:(a::b::r).length=r.length+2:=rfl
    have h2:(b::r).length=r.length+1:=rfl
    omega
   rw[e,List.eraseIdx_cons_succ,ih]
   all_goals rfl
theorem yhx(its:List Value):∀(k:Nat) (acc:List Value),
  List.foldl (λx1 x2=>x1++x2) acc.toArray (List.replicate k its.toArray)=(acc++(List.replicate k its).flatten).toArray
 |0,acc=>by simp
 |k+1,acc=>by
  have e:acc.toArray++its.toArray=(acc++its).toArray:=by simp
  have e2:(acc++its)++(List.replicate k its).flatten=acc++(List.replicate (k+1) its).flatten:=by
   rw[replicate_succ,flatten_cons,append_assoc]
  rw[<-e2,<-yhx its k (acc++its),<-e,replicate_succ,List.foldl_cons]
section
variable {X:Cx}{pins:List (Addr×Obj)}{σ:St}{H:Hp}{s:Shared}{l b:Addr}{xs ys zs:List V}
theorem Inv.lset{its its':List Value}{n:Nat}{f:Array Value->Array Value}{t':Nat}(I:Inv X pins σ H s)(hH:H l=some (.lst xs))
  (e:s.heap.get? l=some { cls:=.type "list",data:=.seq its.toArray n }) (hf:f its.toArray=its'.toArray) (hv:Vals ys its') (hz:ys.length<=sizeLine) :
  Inv X pins σ (upd H l (.lst ys)) { s with heap:=s.heap.update l (Obj.mapSeq f),toks:=t' }:=by
 have q:=PySem.IsL.update e f
 rw[hf]at q
 refine I.write (x:=l) (e:=l) (by rw[hH];exact trivial) (.inl rfl) (λb' u hb hu=>(get?_update_other s.heap (Obj.mapSeq f) (Ne.symm hb)).trans hu) ⟨_,q⟩ ?_
 exact ⟨hz,its',_,hv,q⟩
theorem Inv.lnew{its:List Value}{t':Nat}(I:Inv X pins σ H s)(hv:Vals ys its)(hz:ys.length<=sizeLine) :
  Inv X pins σ (upd H s.heap.objs.size (.lst ys)) { s with heap:=s.heap.push { cls:=.type "list",data:=.seq its.toArray },toks:=t' }:=
 I.laid (λ_ _ q=>get?_push_of_some _ q) (le_refl _) ⟨hz,its,0,hv,get?_push_size _ rfl⟩
theorem Inv.fresh(I:Inv X pins σ H s):H s.heap.objs.size=none:=I.hok.fresh (le_refl _)
theorem Inv.lstM(I:Inv X pins σ H s)(hH:H l=some (.lst xs)):xs.length<=sizeLine/\∃(its:List Value) (n:Nat),Vals xs its/\xs.length=its.length/\s.heap.get? l=some { cls:=.type "list",data:=.seq its.toArray n }:=by
 obtain ⟨z,its,n,r,e⟩:=I.hok l _ hH
 exact ⟨z,its,n,r,r.length,e⟩
theorem qjg{n:Nat}(h:n<=sizeLine):Builtin.List.listTooLong n=false:=by
 unfold Builtin.List.listTooLong
 exact decide_eq_false (by omega)
end
section
variable {X:Cx}
def rAppend:V->List V->Hp->VK->Prop:=λx vs H Q=>∃l xs y,x=.ref l/\vs=[y]/\H l=some (.lst xs)/\xs.length<sizeLine/\Q .non (upd H l (.lst (xs++[y])))
theorem ya7:MtM X "list.append" rAppend:=by
 intro pins s σ H x vs v us Q I rx rv h
 obtain ⟨l,xs,y,rfl,rfl,hH,hz,q⟩:=h
 cases rx
 obtain ⟨u,rfl,ru⟩:=rv.one
 obtain ⟨z,its,n,r,hl,e⟩:=I.lstM hH
 refine call_meets F.slot_list_append ⟨_,e,rfl⟩ F.entry_list_append (F.args_list_append_2 _ _) (PySem.list_append l its.toArray n u (by rw[size_toArray];omega)) ⟨e,?_⟩
 refine ⟨.non,_,I.lset (its':=its++[u]) hH e (by simp) (r.append (.cons ru .nil)) ?_,rfl,q⟩
 rw[length_append,List.length_singleton]
 omega
def rExtend:V->List V->Hp->VK->Prop:=λx vs H Q=>∃l b xs zs,x=.ref l/\vs=[.ref b]/\H l=some (.lst xs)/\H b=some (.lst zs)/\xs.length+zs.length<=sizeLine/\Q .non (upd H l (.lst (xs++zs)))
theorem qfk:MtM X "list.extend" rExtend:=by
 intro pins s σ H x vs v us Q I rx rv h
 obtain ⟨l,b,xs,zs,rfl,rfl,hH,hB,hz,q⟩:=h
 cases rx
 obtain ⟨u,rfl,ru⟩:=rv.one
 cases ru
 obtain ⟨z,its,n,r,hl,e⟩:=I.lstM hH
 obtain ⟨z2,its2,n2,r2,hl2,e2⟩:=I.lstM hB
 have hsz:its.toArray.size+its2.toArray.size<=sizeLine:=by rw[size_toArray,size_toArray];omega
 have hlong:¬ (!its.toArray.isEmpty&&Builtin.List.listTooLong (its.toArray.size+its2.toArray.size))=true:=by
  rw[qjg hsz,Bool.and_false]
  exact Bool.false_ne_true
 refine call_meets F.slot_list_extend ⟨_,e,rfl⟩ F.entry_list_extend (F.args_list_extend_2 _ _)
  (AutoSeq1.list_extend_list_list_0 l its.toArray n b its2.toArray n2 hlong (by rw[size_toArray];omega) (by omega)) ⟨e,e2,?_⟩
 refine ⟨.non,_,I.lset (its':=its++its2) hH e (by simp) (r.append r2) ?_,rfl,q⟩
 rw[length_append]
 omega
def rPop:V->List V->Hp->VK->Prop:=λx vs H Q=>∃l xs y,x=.ref l/\vs=[]/\H l=some (.lst xs)/\xs[xs.length-1]?=some y/\Q y (upd H l (.lst xs.dropLast))
theorem mt_pop:MtM X "list.pop" rPop:=by
 intro pins s σ H x vs v us Q I rx rv h
 obtain ⟨l,xs,y,rfl,rfl,hH,hy,q⟩:=h
 cases rx
 have hus:=rv.zero
 subst hus
 obtain ⟨z,its,n,r,hl,e⟩:=I.lstM hH
 obtain ⟨u,hu,ru⟩:=r.get hy
 have hy':its.toArray[its.toArray.size-1]?=some u:=by
  show its.toArray[its.length-1]?=some u
  rw[<-getElem?_toList,<-hl]
  exact hu
 refine call_meets F.slot_list_pop ⟨_,e,rfl⟩ F.entry_list_pop (F.args_list_pop_1 _) (MeetsSeq.list_pop_last l its.toArray n u hy' (by rw[size_toArray];omega)) ⟨e,?_⟩
 refine ⟨y,_,I.lset (its':=its.dropLast) hH e ?_ r.dropLast ?_,ru,q⟩
 ·show its.toArray.eraseIdxIfInBounds (its.toArray.size-1)=its.dropLast.toArray
  rw[size_toArray,List.eraseIdxIfInBounds_toArray,yka]
 ·rw[List.length_dropLast]
  omega
def rCat:R2:=λx y H Q=>∃l b xs zs,x=.ref l/\y=.ref b/\H l=some (.lst xs)/\H b=some (.lst zs)/\xs.length+zs.length<=sizeLine/\∀p,H p=none->Q (.ref p) (upd H p (.lst (xs++zs)))
theorem yca:OpR X (binaryOp .Add) rCat:=by
 intro pins s σ H x y v u Q I rx ry h
 obtain ⟨l,b,xs,zs,rfl,rfl,hH,hB,hz,q⟩:=h
 cases rx
 cases ry
 obtain ⟨z,its,n,r,hl,e⟩:=I.lstM hH
 obtain ⟨z2,its2,n2,r2,hl2,e2⟩:=I.lstM hB
 refine PySem.P.add_list e e2 ?_ (by rw[size_toArray,size_toArray];omega)
 have ea:its.toArray++its2.toArray=(its++its2).toArray:=by simp
 rw[ea]
 exact ⟨.ref _,_,I.lnew (t':=s.toks) (r.append r2) (by rw[length_append];omega),rfl,q _ I.fresh⟩
def rRep:R2:=λx y H Q=>∃l k xs,x=.ref l/\y=.int k/\H l=some (.lst xs)/\-(2 ^ 63)<=k/\k<2 ^ 63/\xs.length*k.toNat<=sizeLine/\
 ∀p,H p=none->Q (.ref p) (upd H p (.lst (List.replicate k.toNat xs).flatten))
theorem len_rep{α:Type}(xs:List α)(k:Nat):(List.replicate k xs).flatten.length=k*xs.length:=by
 induction k with
 |zero=>simp
 |succ k ih=>rw[replicate_succ,flatten_cons,length_append,ih,Nat.succ_mul,Nat.add_comm]
theorem yjn:OpR X (binaryOp .Mult) rRep:=by
 intro pins s σ H x y v u Q I rx ry h
 obtain ⟨l,k,xs,rfl,rfl,hH,h1,h2,hz,q⟩:=h
 cases rx
 obtain ⟨t,rfl⟩:=ry
 obtain ⟨z,its,n,r,hl,e⟩:=I.lstM hH
 have hlen:its.toArray.size*k.toNat<=sizeLine:=by rw[size_toArray,<-hl];exact hz
 have hcap:¬ its.toArray.size*k.toNat>(2 ^ 63-1) / 8:=by
  have:(sizeLine:Nat)<=(2 ^ 63-1) / 8:=by decide
  omega
 have hfit:¬ (!Builtin.List.listFitsIndex k)=true:=by
  rw[fitsIndex_both h1 h2]
  exact Bool.false_ne_true
 have hlong:¬ Builtin.List.listTooLong (its.toArray.size*k.toNat)=true:=by
  rw[qjg hlen]
  exact Bool.false_ne_true
 have hnew:List.foldl (λx1 x2=>x1++x2) #[] (List.replicate (if its.toArray.isEmpty=true then 0 else k.toNat) its.toArray)=(List.replicate k.toNat its).flatten.toArray:=by
  have f0:∀m:Nat,List.foldl (λx1 x2=>x1++x2) #[] (List.replicate m its.toArray)=(List.replicate m its).flatten.toArray:=λm=>by
   have:=yhx its m []
   rw[nil_append]at this
   exact this
  rw[f0]
  cases its with
  |nil=>simp
  |cons a r'=>rw[if_neg (by simp)]
 refine wpAny_binaryOp_repeat_ref (T:="list") (U:="int") (by decide) ⟨_,e,rfl⟩ (λs'=>typeIs_int s' k t) noFill_list_mul F.fills_int_mul F.slot_int_rmul repeat_list F.slot_int_index.lookup
  (call_meets F.slot_int_rmul (typeIs_int s k t) F.entry_int_rmul (F.args_int_rmul_2 _ _) (int___rmul___int_list k t l its.toArray n)
   ⟨e,rfl,⟨_,e,rfl⟩,call_meets F.slot_list_mul ⟨_,e,rfl⟩ F.entry_list_mul (F.args_list_mul_2 _ _) (AutoListH.list___mul___list_int_3 l its.toArray n k t hfit hcap hlong) ⟨e,?_⟩⟩)
 rw[hnew]
 exact ⟨.ref _,_,I.lnew (t':=s.toks) (r.rep k.toNat) (by rw[len_rep,Nat.mul_comm];exact hz),rfl,q _ I.fresh⟩
end
end L2
namespace Att
open PySem PySem.W PySem.Calls PyProof.Rows
theorem yf1{P:Params}{h:Heap}:∀(ns:List Int) (vs:List Value),WellAll P h vs (ns.map WData.int)->IntsAre vs ns:=by
 intro ns
 induction ns with
 |nil=>
  intro vs w
  rw[map_nil]at w
  cases w
  exact .nil
 |cons n ns ih=>
  intro vs w
  rw[map_cons]at w
  cases w with
  |cons a b=>
   cases a
   exact .cons _ _ (ih _ b)
theorem qln{l:OpenLaw}{n:Nat}(hn:l.most=some n){P:Params}{h:Heap}{args:List WData}{vals:List Value}
  (hpre:l.row.toRowW.claim.pre args=true) (hwl:WellAll P h vals args) :
  ∃a vs ns,vals=[Value.ref a]/\args=[WData.list (ns.map WData.int)]/\h.get? a=some { cls:=.type "list",data:=.seq vs.toArray }/\IntsAre vs ns/\ns.length<=n:=by
 have hsh:WShape.hasAll [] args [.list .int]=true:=(pre_splitW hpre).1
 have hc:l.pre.holds [] { args:=args }=true:=(pre_splitW hpre).2
 obtain ⟨d,r,rfl,h1,h2⟩:=hasAllW_cons hsh
 obtain rfl:=hasAllW_nil h2
 obtain ⟨xs,rfl,h3⟩:=hasW_list h1
 obtain ⟨ns,rfl⟩:=items_int h3
 have hlen:ns.length<=n:=by
  unfold OpenLaw.pre at hc
  have h4:(WTm.not (.lt (.lit (.int (n:Int))) (.len (.arg 0)))).holds [] { args:=[.list (ns.map .int)] }=true:=by
   have h4:=(holds_andW hc).1
   rw[hn]at h4
   exact h4
  have h5:=condW_of h4 (w_not (w_lt w_lit (w_len_list (w_arg rfl))))
  rw[length_map]at h5
  refine le_of_not_lt λq=>?_
  have q':(n:Int)<((ns.length:Nat):Int):=by omega
  first
   | (rw[decide_eq_true q']at h5;exact absurd h5 (by decide))
   | (simp at h5;omega)
 cases hwl with
 |cons w1 w2=>
  cases w2
  cases w1 with
  |list ho hall=>exact ⟨_,_,ns,rfl,rfl,ho,yf1 ns _ hall,hlen⟩
theorem ymz(l:OpenLaw)(args:List WData):l.row.toRowW.claim.post args (.bool true) args=true:=
 postW_of (r:=l.row.toRowW) (X:=(true == true))
  (show WShape.has [] (.bool true) .bool=true by first|rfl|decide|simp[WShape.has,WShape.arms,WShape.armsAll])
  (show (WTm.eq .res (.lit (.bool true))).value [] { args:=args,res:=some (.bool true),after:=args }=some (.bool (true == true)) from w_eq_bool (w_res rfl) w_lit) rfl
theorem attach_call{l:OpenLaw}{n:Nat}{q:Program}{loose:List Str}{XP:(Str->Option Value)->Heap->Prop}{YP:World->Heap->Prop}{d:DefRec}
  (hn:l.most=some n) (hdf:d.params.defaults=[])
  (call:∀(w:World) (s₀ s₁:Shared) (mg mb:Str->Option Value) (fa:Addr) (o:Obj) (pm cd doc:Value) (a:Addr) (vs:List Value) (ns:List Int),
   Ground q loose [] XP w s₀ mg mb s₁.heap->YP w s₁.heap->
   s₁.heap.get? fa=some o->o.data=.func (docDef d.name d.params d.body d.scope pm cd doc)->s₁.heap.CodeRec cd d.name->mg d.name=some (.ref fa)->
   s₁.heap.get? a=some { cls:=.type "list",data:=.seq vs.toArray }->IntsAre vs ns->ns.length<=n->s₁.gens=#[]->
   codeAny (model l.prog w) callerA (.call (.ref fa) ⟨[.ref a],[]⟩) (λr s'=>r=.ok (.ret (.bool true))/\OldK s₁.heap s'.heap/\s'.os=s₁.os/\AllBare s'.gens) s₁) :
  WalkO q loose XP YP l.row.toRowW d [] (λf vs=>PySem.call f vs):=by
 intro w s₀ s₁ mg mb G Y fa o pm cd doc dV kV ho hd hcd hD hmg hg args vals as hpre hlay hrd hwl hlo
 obtain rfl:dV=.none:=Dflts.none hD hdf
 obtain rfl:kV=.none:=Dflts.noKw hD
 obtain ⟨a,vs,ns,rfl,rfl,hobj,hints,hlen⟩:=qln hn hpre hwl
 refine enter_call (codeAny_mono (call w s₀ s₁ mg mb fa o pm cd doc a vs ns G Y ho (fd_plain hd) hcd hmg hobj hints hlen hg) λr s' hq=>?_)
 obtain ⟨rfl,h2,h3,h4⟩:=hq
 exact ⟨.inl ⟨.bool true,.bool true,[],rfl,λ_=>rfl,.bool true,ymz l _,λ_=>⟨List.Pairwise.nil,λ_ hm=>(nomatch hm)⟩⟩,h2,h3,h4⟩
end Att
namespace L2
open PySem PySem.Spec PyProof.Rows
theorem qhx:∀{vs:List Value}{ns:List Int},IntsAre vs ns->Vals (ns.map V.int) vs
 |_,_,.nil=>.nil
 |_,_,.cons n t h=>.cons ⟨t,rfl⟩ (qhx h)
def Only(H:Hp):Prop:=∀b,H b=none\/∃o xs,H b=some (.frz o (.lst xs))
theorem law_call{P:Program}{w:World}{K:W.Frag}{mg mb:Str->Option Value}{CX:CXT}{k:Nat}{fa a:Addr}{fd:FuncData}{x:Str}{sp:Sp}{s₁:Shared}{vs:List Value}{ns:List Int}
  (KX:K.In s₁.heap) (hns:s₁.heap.Ns mainGlobals mg) (hb:s₁.heap.Ns builtinsNs mb) (hbb:∀x:Str,x≠"__name__"->mb x=bootBuiltins x) (hlim:s₁.heap.NoLimit) (hg:s₁.gens=#[])
  (ha:s₁.heap.get? a=some { cls:=.type "list",data:=.seq vs.toArray }) (hi:IntsAre vs ns) (hl:ns.length<=sizeLine) (hr:Room k callerA)
  (F:∀base:Heap,K.In base->base.Ns mainGlobals mg->FnOk P w K mg base CX k fa fd [x] sp) (hbind:∀(s:Shared) (u:Value),BindsTo s fd ⟨[u],[]⟩ [(x,u)])
  (hsp:∀H:Hp,Only H->SqL K H a (ns.map V.int)->sp [.ref a] H (λv _=>v=.bl true) λ_ _ _=>False)
  (hCX:∀H e s',CX [] H s₁ (λ_ _ _=>False) e s'->False) :
  codeAny (model P w) callerA (.call (.ref fa) ⟨[.ref a],[]⟩) (λr s'=>r=.ok (.ret (.bool true))/\OldK s₁.heap s'.heap/\s'.os=s₁.os/\AllBare s'.gens) s₁:=by
 have rv:=qhx hi
 have lenV:=hi.length
 -- from an abstract heap in which nothing but the script may be tracked
 have core:∀H:Hp,Only H->SqL K H a (ns.map V.int)->HOk P w H s₁.heap->(∀b,H b≠none->b=a)->(H a≠none->K.lookup a=none)->
   codeAny (model P w) callerA (.call (.ref fa) ⟨[.ref a],[]⟩) (λr s'=>r=.ok (.ret (.bool true))/\OldK s₁.heap s'.heap/\s'.os=s₁.os/\AllBare s'.gens) s₁:=by
  intro H hO hS hok hA hK
  have base_of:∀{b:Addr}{o:Obj},s₁.heap.get? b=some o->H b=none->(hidT s₁.heap H).get? b=some o:=λe n=>hidT_get e n
  have noA:∀{b:Addr}{o:Obj}{es:Array DictEntry}{ep:Nat},s₁.heap.get? b=some o->o.data=.dict es ep->H b=none:=λ{b o es ep} e d=>by
   cases q:H b with
   |none=>rfl
   |some u=>
    have e':b=a:=hA b (by rw[q];simp)
    subst e'
    rw[ha]at e;cases e
    have d':Data.seq vs.toArray _=Data.dict es ep:=d
    cases d'
  have nsK:∀{b:Addr}{m:Str->Option Value},s₁.heap.Ns b m->(hidT s₁.heap H).Ns b m:=λ{b m} ⟨o,es,ep,e,d,r⟩=>⟨o,es,ep,base_of e (noA e d),d,r⟩
  have hKb:K.In (hidT s₁.heap H):=λb o e=>base_of (KX b o e) (by
   cases q:H b with
   |none=>rfl
   |some u=>
    have e':b=a:=hA b (by rw[q];simp)
    subst e'
    rw[hK (by rw[q];simp)]at e;cases e)
  have hM:Mod K mg (hidT s₁.heap H):=⟨hKb,nsK hns,⟨mb,nsK hb,hbb⟩,let ⟨mc,h1,h2⟩:=hlim;⟨mc,nsK h1,h2⟩⟩
  have e0:Env0 P w K mg (hidT s₁.heap H) callerA [] s₁ H:=⟨rfl,hM,λb o e=>of_hidT e,Nat.le_of_eq (qk6 _ _),trivial,λb hb=>absurd (show b∈([]:List Addr) from hb) (by simp),hok,.of_eq hg⟩
  refine codeAny_mono ((F _ hKb (nsK hns)).run callerA [] s₁ H ⟨[.ref a],[]⟩ [.ref a] [.ref a] _ _ hr e0 (hbind s₁ (.ref a)) (.cons rfl .nil) (hsp H hO hS)) λr s' h=>?_
  cases r with
  |error e=>exact (hCX H e s' h).elim
  |ok fl=>
   cases fl with
   |next=>exact False.elim h
   |brk=>exact False.elim h
   |cont=>exact False.elim h
   |ret u=>
    obtain ⟨v,H',os,bare,un,hok',r',q⟩:=h
    have q':v=.bl true:=q
    subst q'
    obtain rfl:u=Value.bool true:=r'
    refine ⟨rfl,OldK.of_keep λb o e=>?_,os,bare⟩
    cases q:H b with
    |none=>exact un.keep b o e q (by intro z;exact absurd (show b∈([]:List Addr) from z) (by simp)) (by simp)
    |some u=>
     rcases hO b with z|⟨ob,xs,z⟩
     ·rw[q]at z;cases z
     ·have z2:=un.frzs b ob _ z
      obtain ⟨e1,_⟩:=hok b _ z
      obtain ⟨e2,_⟩:=hok' b _ z2
      rw[e]at e1;cases e1
      exact e2
 cases hk:K.lookup a with
 |some o=>
  -- the script is one of the module's own objects
  have e:=KX a o hk
  rw[ha]at e
  cases e
  refine core (λ_=>none) (λ_=>.inl rfl) (.inr ⟨_,vs.toArray,_,hk,rfl,rfl,rfl,by rw[size_toArray,lenV];exact hl,by simpa using rv⟩) (λb u z=>by have z':(none:Option HO)=some u:=z;cases z') (λb z=>absurd rfl z) λz=>absurd rfl z
 |none=>
  refine core (λb=>if b=a then some (.frz { cls:=.type "list",data:=.seq vs.toArray } (.lst (ns.map V.int))) else none) (λb=>?_) (.inl (.inr ⟨{ cls:=.type "list",data:=.seq vs.toArray },if_pos rfl⟩)) (λb u z=>?_) (λb z=>?_) λ_=>hk
  ·by_cases hb:b=a
   ·exact .inr ⟨_,_,if_pos hb⟩
   ·exact .inl (if_neg hb)
  ·by_cases hb:b=a
   ·have z':=(if_pos hb).symm.trans z
    cases z'
    subst hb
    exact ⟨ha,by rw[length_map];exact hl,vs,_,rv,ha⟩
   ·have z':=(if_neg hb).symm.trans z
    cases z'
  ·by_cases hb:b=a
   ·exact hb
   ·exact absurd (if_neg hb) z
theorem walk_of{l:W.OpenLaw}{n k:Nat}{q:Program}{loose:List Str}{XP:(Str->Option Value)->Heap->Prop}{YP:World->Heap->Prop}{d:DefRec}{K:Params->W.Frag}{CX:World->CXT}{sp:World->Sp}{x:Str}
  (hn:l.most=some n) (hn2:n<=sizeLine) (hdf:d.params.defaults=[]) (hr:Room k callerA)
  (hY:∀(w:World) (h:Heap),YP w h->(K w.params).In h)
  (F:∀(w:World) (mg:Str->Option Value) (fa:Addr) (h:Heap),(K w.params).In h->h.Ns mainGlobals mg->mg d.name=some (.ref fa)->
   ∃fd:FuncData,(∀(s:Shared) (u:Value),BindsTo s fd ⟨[u],[]⟩ [(x,u)])/\
    ∀base:Heap,(K w.params).In base->base.Ns mainGlobals mg->FnOk l.prog w (K w.params) mg base (CX w) k fa fd [x] (sp w))
  (hsp:∀(w:World) (H:Hp) (a:Addr) (ns:List Int),ns.length<=n->Only H->SqL (K w.params) H a (ns.map V.int)->sp w [.ref a] H (λv _=>v=.bl true) λ_ _ _=>False)
  (hCX:∀(w:World) (H:Hp) (s:Shared) (e:Value) (s':Shared),CX w [] H s (λ_ _ _=>False) e s'->False) :
  W.WalkO q loose XP YP l.row.toRowW d [] (λf vs=>PySem.call f vs):=by
 refine Att.attach_call hn hdf λw s₀ s₁ mg mb fa o pm cd doc a vs ns G Y ho hd hcd hmg hobj hints hlen hg=>?_
 have KX:=hY w _ Y
 obtain ⟨fd,hb,hF⟩:=F w mg fa _ KX G.T.g hmg
 exact law_call KX G.T.g G.T.b G.T.builtins G.T.nolimit hg hobj hints (le_trans hlen hn2) hr hF hb (λH hO hS=>hsp w H a ns hlen hO hS) λH e s'=>hCX w H s₁ e s'
def ybz(s:Stmt)(j:Nat):Stmt:=match s with
 |.ClassDef _ _ _ body _ _ _ _ _ _ _=>body.getD j (.Pass ⟨0,0,0,0⟩)
 |_=>.Pass ⟨0,0,0,0⟩
def yav(s:Stmt):Arguments:=match s with
 |.FunctionDef _ a _ _ _ _ _ _ _ _=>a
 |_=>{ posonlyargs:=[],args:=[],vararg:=none,kwonlyargs:=[],kw_defaults:=[],kwarg:=none,defaults:=[] }
def qar(s:Stmt):List Stmt:=match s with
 |.FunctionDef _ _ b _ _ _ _ _ _ _=>b
 |_=>[]
def qac(s:Stmt):Scope:=match s with
 |.FunctionDef _ _ _ _ _ _ sc _ _ _=>sc
 |_=>{ kind:=.function,names:=[],isGenerator:=false,isCoroutine:=false }
abbrev CX0:CXT:=λ_ _ _ _ _ _=>False
abbrev E0:XK:=λ_ _ _=>False
theorem pass0{X:Cx}:qd8 CX0 X E0:=λ_ _ _ _ _ _ _ h=>h.elim
structure Fun(K:W.Frag)(x qual:Str)(st:Stmt)(f:Addr)(fd:FuncData):Prop where
 ex:∃(oc:Value) (od:Option Addr) (kV doc pm:Value) (an:Option Addr) (cdv ct:Value) (osl:Array (Option Value)),
  fd=W.fnOf x qual (yav st) (qar st) (qac st) .none kV doc pm an cdv ct/\K.lookup f=some ⟨oc,od,.func fd,osl⟩/\W.codeIn K cdv qual=true
 kp:W.keepIn K (.ref f)=true
section
variable {P:Program}{w:World}{K:W.Frag}{mg:Str->Option Value}{base:Heap}
theorem Fun.ok{x qual:Str}{st:Stmt}{f:Addr}{fd:FuncData}{N ps:List Str}{k:Nat}{sp:Sp}(F:Fun K x qual st f fd)(S:FnScope N ps (qac st))(len:∀vs H Q E,sp vs H Q E->vs.length=ps.length)
  (hbody:∀(cdv:Value) (A:Around) (outer:List Env) (s:Shared) (H:Hp) (vs:List V) (Q:VK) (E:XK),Room k (A.deeper (envOfC qual (qac st) s.heap.objs.size f cdv))->sp vs H Q E->
   ∃t,PSs (cxOf CX0 P w K mg base N qual (qac st) f cdv A outer s H E).nox (qar st) t/\t { nx:=λ_ H'=>Q .non H',rt:=Q } (qd9 N vs) H):FnOk P w K mg base CX0 (k+1) f fd ps sp:=by
 obtain ⟨oc,od,kV,doc,pm,an,cdv,ct,osl,rfl,lk,hcd⟩:=F.ex
 refine fn_of lk hcd S len λA outer s H vs Q E hr hsp=>?_
 obtain ⟨t,h,q⟩:=hbody cdv A outer s H vs Q E hr hsp
 exact ⟨t,h.nox,q⟩
theorem Fun.binds{x qual:Str}{st:Stmt}{f:Addr}{fd:FuncData}{ps:List Str}(F:Fun K x qual st f fd)
  (h:∀(kV doc pm:Value) (an:Option Addr) (cdv ct:Value) (us:List Value),us.length=ps.length->bindArgs (W.fnOf x qual (yav st) (qar st) (qac st) .none kV doc pm an cdv ct) ⟨us,[]⟩=pure (ps.zip us)):yc6 K fd ps []:=by
 obtain ⟨oc,od,kV,doc,pm,an,cdv,ct,osl,rfl,lk,hcd⟩:=F.ex
 exact .all (h kV doc pm an cdv ct)
theorem qba{x qual:Str}{st:Stmt}{f:Addr}{oc:Value}{od an:Option Addr}{osl:Array (Option Value)}{kV doc pm cdv ct:Value}(l:K.lookup f=some ⟨oc,od,.func (W.fnOf x qual (yav st) (qar st) (qac st) .none kV doc pm an cdv ct),osl⟩)
  (c:W.codeIn K cdv qual=true) (k:W.keepIn K (.ref f)=true):Fun K x qual st f (W.fnOf x qual (yav st) (qar st) (qac st) .none kV doc pm an cdv ct):=⟨⟨oc,od,kV,doc,pm,an,cdv,ct,osl,rfl,l,c⟩,k⟩
end
theorem ym0{A:Around}{k:Nat}(hr:Room k A):A.units+1<cLine:=Nat.lt_of_le_of_lt (Nat.add_le_add_left (by decide:1<=64) _) hr.units
section
variable {X:Cx}
theorem pv(i:Nat){x:Str}{pos:Pos}(hN:X.N[i]?=some x:=by rfl)(hv:Vis X.env.scope x:=by first|exact Or.inl rfl|exact Or.inr (Or.inl rfl)|exact Or.inr (Or.inr rfl))(hd:(x == ("__debug__" : Str))=false:=by decide)
  (hcd:(x == ("__classdict__" : Str))=false:=by decide):PE X (.Name x pos) (tVar i):=pe_var hN hv hd hcd
end
theorem iteF{A B:Prop}(h:B):if false=true then A else B:=by
 rw[if_neg Bool.false_ne_true]
 exact h
theorem iteT{A B:Prop}(h:A):if true=true then A else B:=by
 rw[if_pos rfl]
 exact h
def Same(H H':Hp):Prop:=∀b o,H b=some o->H' b=some o
theorem smR(H:Hp):Same H H:=λ_ _ h=>h
theorem Same.trans{H H1 H2:Hp}(a:Same H H1)(b:Same H1 H2):Same H H2:=λc o h=>b c o (a c o h)
theorem Same.free{H H':Hp}(e:Same H H'){l:Addr}(h:H' l=Option.none):H l=Option.none:=by
 cases q:H l with
 |none=>rfl
 |some o=>
  rw[e l o q]at h
  cases h
theorem Same.seq{K:W.Frag}{H H':Hp}{a:Addr}{xs:List V}(e:Same H H')(h:SqL K H a xs):SqL K H' a xs:=by
 rcases h with (h|⟨o,h⟩)|h
 ·exact .inl (.inl (e _ _ h))
 ·exact .inl (.inr ⟨o,e _ _ h⟩)
 ·exact .inr h
mutual
inductive At(H:Hp):V->PyData->Prop
 |non:At H .non .none
 |bl (b:Bool):At H (.bl b) (.bool b)
 |int (i:Int):At H (.int i) (.int i)
 |str (x:Str):At H (.str x) (.str x)
 |lst {a:Addr}{vs:List V}{ds:List PyData}:H a=some (.lst vs)->AtAll H vs ds->At H (.ref a) (.list ds)
 |tup {a:Addr}{vs:List V}{ds:List PyData}:H a=some (.tup vs)->AtAll H vs ds->At H (.ref a) (.tuple ds)
inductive AtAll(H:Hp):List V->List PyData->Prop
 |nil:AtAll H [] []
 |cons {v:V}{d:PyData}{vs:List V}{ds:List PyData}:At H v d->AtAll H vs ds->AtAll H (v::vs) (d::ds)
end
mutual
theorem At.same{H H':Hp}(s:Same H H'):∀{v:V}{d:PyData},At H v d->At H' v d
 |_,_,.non=>.non
 |_,_,.bl b=>.bl b
 |_,_,.int i=>.int i
 |_,_,.str x=>.str x
 |_,_,.lst e t=>.lst (s _ _ e) (AtAll.same s t)
 |_,_,.tup e t=>.tup (s _ _ e) (AtAll.same s t)
theorem AtAll.same{H H':Hp}(s:Same H H'):∀{vs:List V}{ds:List PyData},AtAll H vs ds->AtAll H' vs ds
 |_,_,.nil=>.nil
 |_,_,.cons a b=>.cons (At.same s a) (AtAll.same s b)
end
theorem AtAll.length{H:Hp}:∀{vs:List V}{ds:List PyData},AtAll H vs ds->vs.length=ds.length
 |_,_,.nil=>rfl
 |_,_,.cons _ b=>congrArg (· + 1) b.length
theorem AtAll.get{H:Hp}:∀{vs:List V}{ds:List PyData}{i:Nat}{v:V},AtAll H vs ds->vs[i]?=some v->∃d,ds[i]?=some d/\At H v d
 |_,_,i,_,.nil,h=>by simp at h
 |_,_,0,_,.cons a _,h=>by simp at h;subst h;exact ⟨_,rfl,a⟩
 |_,_,i+1,v,.cons _ b,h=>by
  obtain ⟨d,h1,h2⟩:=AtAll.get (i:=i) (v:=v) b (by simpa using h)
  exact ⟨d,by simpa using h1,h2⟩
theorem AtAll.getD{H:Hp}:∀{vs:List V}{ds:List PyData}{i:Nat}{d:PyData},AtAll H vs ds->ds[i]?=some d->∃v,vs[i]?=some v/\At H v d
 |_,_,i,_,.nil,h=>by simp at h
 |_,_,0,_,.cons a _,h=>by simp at h;subst h;exact ⟨_,rfl,a⟩
 |_,_,i+1,v,.cons _ b,h=>by
  obtain ⟨d,h1,h2⟩:=AtAll.getD (i:=i) (d:=v) b (by simpa using h)
  exact ⟨d,by simpa using h1,h2⟩
theorem AtAll.append{H:Hp}:∀{vs ws:List V}{ds es:List PyData},AtAll H vs ds->AtAll H ws es->AtAll H (vs++ws) (ds++es)
 |_,_,_,_,.nil,h=>h
 |_,_,_,_,.cons a b,h=>.cons a (b.append h)
theorem AtAll.take{H:Hp}:∀{vs:List V}{ds:List PyData} (n:Nat),AtAll H vs ds->AtAll H (vs.take n) (ds.take n)
 |_,_,0,_=>.nil
 |_,_,_+1,.nil=>.nil
 |_,_,n+1,.cons a b=>.cons a (b.take n)
theorem AtAll.drop{H:Hp}:∀{vs:List V}{ds:List PyData} (n:Nat),AtAll H vs ds->AtAll H (vs.drop n) (ds.drop n)
 |_,_,0,h=>h
 |_,_,_+1,.nil=>.nil
 |_,_,n+1,.cons _ b=>b.drop n
theorem AtAll.snoc{H:Hp}{vs:List V}{ds:List PyData}{v:V}{d:PyData}(h:AtAll H vs ds)(a:At H v d):AtAll H (vs++[v]) (ds++[d]):=h.append (.cons a .nil)
mutual
theorem At.reads{P:Program}{w:World}{H:Hp}{h:Heap}(ok:HOk P w H h):∀{v:V}{d:PyData}{u:Value},At H v d->RelV v u->∃as,Reads h u d as
 |_,_,_,.non,r=>by cases r;exact ⟨_,.none⟩
 |_,_,_,.bl b,r=>by cases r;exact ⟨_,.bool b⟩
 |_,_,_,.int i,r=>by obtain ⟨t,rfl⟩:=r;exact ⟨_,.int i t⟩
 |_,_,_,.str x,r=>by obtain ⟨t,rfl⟩:=r;exact ⟨_,.str x t⟩
 |_,_,_,.lst e t,r=>by
  cases r
  obtain ⟨z,its,n,rv,ho⟩:=ok _ _ e
  obtain ⟨as,q⟩:=AtAll.reads ok t rv
  exact ⟨_,.list ho rfl rfl (by simpa using q)⟩
 |_,_,_,.tup e t,r=>by
  cases r
  obtain ⟨z,its,rv,o,ho,hc,n,hd⟩:=ok _ _ e
  obtain ⟨as,q⟩:=AtAll.reads ok t rv
  exact ⟨_,.tuple ho hc hd (by simpa using q)⟩
theorem AtAll.reads{P:Program}{w:World}{H:Hp}{h:Heap}(ok:HOk P w H h):∀{vs:List V}{ds:List PyData}{us:List Value},AtAll H vs ds->Vals vs us->∃as,ReadsAll h us ds as
 |_,_,_,.nil,.nil=>⟨_,.nil⟩
 |_,_,_,.cons a b,.cons r s=>by
  obtain ⟨as,q⟩:=At.reads ok a r
  obtain ⟨bs,q2⟩:=AtAll.reads ok b s
  exact ⟨_,.cons q q2⟩
end
mutual
theorem At.noDict{H:Hp}:∀{v:V}{d:PyData},At H v d->d.hasDict=false
 |_,_,.non=>by simp[PyData.hasDict]
 |_,_,.bl b=>by simp[PyData.hasDict]
 |_,_,.int i=>by simp[PyData.hasDict]
 |_,_,.str x=>by simp[PyData.hasDict]
 |_,_,.lst e t=>by simp only[PyData.hasDict];exact AtAll.noDict t
 |_,_,.tup e t=>by simp only[PyData.hasDict];exact AtAll.noDict t
theorem AtAll.noDict{H:Hp}:∀{vs:List V}{ds:List PyData},AtAll H vs ds->PyData.hasDictAll ds=false
 |_,_,.nil=>by simp[PyData.hasDictAll]
 |_,_,.cons a b=>by simp only[PyData.hasDictAll,At.noDict a,AtAll.noDict b,Bool.or_self]
end
section
variable {X:Cx}
def rRepr:List V->Hp->VK->Prop:=λxs H Q=>∃x d,xs=[x]/\At H x d/\d.showable=true/\d.depth<=60/\d.shown.length<=sizeLine/\Q (.str d.shown) H
theorem qh5{k:Nat}(hr:Room k X.A):ycs X (.builtin "repr") rRepr:=by
 intro pins s σ H xs us Q I r h
 obtain ⟨x,d,rfl,ha,hs,hd,hz,q⟩:=h
 cases r with
 |cons r rr=>
  cases rr
  cases ha with
  |non=>cases r;rw[PyData.shown_none]at q;exact PySem.P.repr_of_none ⟨.str _,H,I.tok _,⟨_,rfl⟩,q⟩
  |bl b=>cases r;rw[PyData.shown_bool]at q;exact PySem.P.repr_of_bool ⟨.str _,H,I.tok _,⟨_,rfl⟩,q⟩
  |int i=>
   obtain ⟨t,rfl⟩:=r
   rw[PyData.shown_int]at q
   simp only[PyData.showable,decide_eq_true_eq]at hs
   exact PySem.P.repr_of_int hs ⟨.str _,H,I.tok _,⟨_,rfl⟩,q⟩
  |str x=>
   obtain ⟨t,rfl⟩:=r
   rw[PyData.shown_str]at q hz
   exact PySem.P.repr_of_str ⟨.str _,H,I.tok _,⟨_,rfl⟩,q⟩ hz
  |lst e t=>
   cases r
   have hA:=At.lst e t
   obtain ⟨as,rd⟩:=hA.reads I.hok (u:=.ref _) rfl
   have hu:=hr.units
   refine repr_of_reads' rd hs (PyData.noDict_hsm hA.noDict) hr.gd (by omega) (λ_ _ z=>z) (λh' u tk hk=>?_) hz
   exact ⟨.str _,H,I.kept hk,⟨_,rfl⟩,q⟩
  |tup e t=>
   cases r
   have hA:=At.tup e t
   obtain ⟨as,rd⟩:=hA.reads I.hok (u:=.ref _) rfl
   have hu:=hr.units
   refine repr_of_reads' rd hs (PyData.noDict_hsm hA.noDict) hr.gd (by omega) (λ_ _ z=>z) (λh' u tk hk=>?_) hz
   exact ⟨.str _,H,I.kept hk,⟨_,rfl⟩,q⟩
end
section
variable {X:Cx}{pins:List (Addr×Obj)}{σ:St}{H:Hp}{s:Shared}{h':Heap}
theorem Inv.turnedL{ch:List Addr}{a:Addr}{o:HO}{t':Nat}(I:Inv X pins σ H s)(k:∀b u,b∉ch->s.heap.get? b=some u->h'.get? b=some u)(hf:∀b∈ch,FpOk X pins H b)
  (hp:s.heap.objs.size<=a) (new:yay X.prog X.w (upd H a o) h' a o):Inv X pins σ (upd H a o) { s with heap:=h',toks:=t' }:=by
 have hn:H a=none:=I.hok.fresh hp
 have nit:∀b u,H b=some u->b∉ch:=λb u e z=>by rw[(hf b z).1]at e;cases e
 refine I.step (g':=s.gens) (d':=s.drawn) (ch:=ch) (λb hb=>?_) (λb u _ _ hc e _=>k b u hc e) (λb u _ _ hc e _=>⟨u.slots,k b u hc e⟩) (λb u _ e n=>?_)
  (λb u hc e=>⟨u,k b u hc e⟩) (λb xs e=>?_) (λb u xs e=>?_) (λb ps e=>⟨#[],?_⟩) (λm hm=>?_) (λb u e=>?_) I.bare
 ·obtain ⟨_,f1,_,f3,f4,f5⟩:=hf b hb
  exact ⟨f3,f1,f4,f5⟩
 ·rw[qag (ne_of_lt (lt_of_lt_of_le (lt_size e) hp))];exact n
 ·rw[qag (qae e hn)];exact e
 ·rw[qag (qae e hn)];exact e
 ·rw[qag (qae e hn),e];simp
 ·obtain ⟨ob,es,ep,ho,r⟩:=hm
  exact ⟨ob,es,ep,k _ ob (λz=>(hf _ z).2.1 rfl) ho,r⟩
 ·by_cases hb:b=a
  ·subst hb;rw[yaa]at e;cases e;exact new
  ·rw[qag hb]at e
   refine (I.hok b u e).stay (λc v hc q=>k c v ?_ q) (λc q=>by rw[qag (qae q hn)];exact q) λc xs q=>by rw[qag (qae q hn)];exact q
   rcases hc with rfl|hc
   ·exact nit _ u e
   ·exact nit c _ hc
end
def Ite(K:W.Frag)(a:Addr):It:=
 ⟨λi H=>∃xs x,SqL K H a xs/\xs[i]?=some x,λi H x H'=>∃p y,H p=none/\x=.ref p/\H'=upd H p (.tup [.int i,y])/\∀xs,SqL K H a xs->xs[i]?=some y,λi H=>∃xs,SqL K H a xs/\xs.length<=i⟩
theorem qm1{P:Program}{w:World}{K:W.Frag}{es:List Expr}{k:Nat}{tp:Pos}(a e it:Addr)(hne:e≠it) :
  Turn P w K (.Tuple es k tp) (Ite K a) [e,it] e (λi h=>(∃old,IsEnum h e it i old)/\h.IsListIter it a i) where
 mem:=by simp
 obj:=λi h st b hb=>by
  obtain ⟨⟨old,he⟩,o,ho,hc,hd⟩:=st
  have hb':b=e\/b=it:=by simpa using hb
  rcases hb' with rfl|rfl
  ·exact ⟨_,he,λv z=>by
    have z':Data.fields _=Data.cell v:=z
    cases z'⟩
  ·exact ⟨o,ho,λv z=>by rw[hd]at z;cases z⟩
 keep:=λi h h' st kk=>⟨st.1.imp λ_ z=>kk e (by simp) _ z,st.2.at λo z=>kk it (by simp) o z⟩
 item:=by
  intro X hP hw hK hc i pins s σ H E I hf st hg
  subst hP hw hK
  obtain ⟨xs,x,hq,hx⟩:=hg
  obtain ⟨its,rv,p,hz⟩:=I.list hq
  obtain ⟨u,hu,ru⟩:=rv.get hx
  obtain ⟨⟨old,he⟩,hit⟩:=st
  refine wpAny_pyNext_enum_item he hit p.isList (x:=u) (by simpa using hu) hne λh' ho hit' hT hsz hk=>?_
  have hel:e<s.heap.objs.size:=lt_size he
  have hil:it<s.heap.objs.size:=by obtain ⟨_,z,_⟩:=hit;exact lt_size z
  refine ⟨_,rfl,wpAny_letOwnedTupleGo_enum ho λh2 he2 hs2=>?_⟩
  have keep2:∀b ob,b∉[e,it]->s.heap.get? b=some ob->h2.get? b=some ob:=λb ob hb z=>by
   have h1:b≠e:=λq=>hb (by simp[q])
   have h3:b≠it:=λq=>hb (by simp[q])
   exact (hs2.2 b h1).trans (hk b ob h1 h3 z)
  have hT2:h2.get? s.heap.objs.size=some { cls:=.type "tuple",data:=.seq #[.int i s.toks,u] }:=(hs2.2 _ (ne_of_gt hel)).trans hT
  have fresh:H s.heap.objs.size=none:=I.hok.fresh (le_refl _)
  have new:yay X.prog X.w (upd H s.heap.objs.size (.tup [.int i,x])) h2 s.heap.objs.size (.tup [.int i,x]):=
   ⟨by show 2<=sizeLine;decide,[.int i s.toks,u],.cons ⟨_,rfl⟩ (.cons ru .nil),⟨_,hT2,rfl,_,rfl⟩⟩
  refine ⟨.ref s.heap.objs.size,upd H s.heap.objs.size (.tup [.int i,x]),I.turnedL keep2 hf (le_refl _) new,rfl,⟨_,x,fresh,rfl,rfl,λys hy=>by rw[I.list_inj hy hq];exact hx⟩,⟨⟨_,by simpa using he2⟩,hit'.at λo z=>(hs2.2 it hne.symm).trans z⟩,λb hb=>?_⟩
  rw[qag]
  ·exact (hf b hb).1
  ·have hb':b=e\/b=it:=by simpa using hb
   rcases hb' with rfl|rfl
   ·exact ne_of_lt hel
   ·exact ne_of_lt hil
 done:=by
  intro X hP hw hK hc i pins s σ H E I hf st hg
  subst hP hw hK
  obtain ⟨xs,hq,hx⟩:=hg
  obtain ⟨its,rv,p,hz⟩:=I.list hq
  obtain ⟨⟨old,he⟩,hit⟩:=st
  have hl:=rv.length
  obtain ⟨f0,f1,f2,f3,f4,f5⟩:=hf it (by simp)
  exact wpAny_pyNext_enum_end (I.ok.hd hc) he hit p.isList (by simp;omega) λh' eb=>⟨rfl,I.turned (t':=s.toks) (λb o hb z=>eb b o hb z) f0 f1 f3 f4 f5⟩
 self:=λ_ _ _ _ _ st h=>wpAny_pyIter_enum st.1.choose_spec h
def iEnum(K:W.Frag)(ta:TA):TI:=λσ H R=>ta σ H λvs H1=>∃a xs,vs=[.ref a]/\SqL K H1 a xs/\R (Ite K a) H1
section
variable {X:Cx}
theorem qct{a:Expr}{ta:TA}{p pos tp:Pos}{es:List Expr}{k:Nat}(hg:Gl X "enumerate")(hm:X.mg "enumerate"=none)(ha:PA X [a] ta)(hs:starEach [a] X.env=[(false,eval a X.env)]:=by rfl) :
  PI X (.Tuple es k tp) (.Call (.Name "enumerate" p) [a] [] pos) (iEnum X.K ta):=by
 intro pins s σ H R I h
 refine Call_ (yc3 I hg hm boot_enumerate (PyProof.Rows.callWith_type1 (thn (ha pos pins s σ H _ I h) λus s1 ⟨vs,H1,I1,r1,q1⟩=>?_) hs rfl))
 obtain ⟨l,xs,e,hq,q⟩:=q1
 subst e
 cases r1 with
 |cons r rr=>
  cases rr
  cases r
  obtain ⟨its,rv,pl,hz⟩:=I1.list hq
  refine call_enumerate_list pl.isList λh' he hit hsz hk=>?_
  refine wpAny_pyIter_enum he ⟨_,[s1.heap.objs.size+1,s1.heap.objs.size],_,Ite X.K l,H1,rfl,I1.kept (t':=s1.toks) hk,qm1 l (s1.heap.objs.size+1) s1.heap.objs.size (Nat.succ_ne_self _),⟨⟨_,he⟩,hit⟩,λb hb=>?_,q⟩
  have hb':b=s1.heap.objs.size+1\/b=s1.heap.objs.size:=by simpa using hb
  rcases hb' with rfl|rfl
  ·exact I1.fpOk (le_succ _) (I1.hok.fresh (le_succ _))
  ·exact I1.fpOk (le_refl _) (I1.hok.fresh (le_refl _))
theorem ycd{K:W.Frag}{a:Addr}{xs:List V}{g:TG}{tb:TS}{D:Ends}{σ:St}{H:Hp}(Pv:Nat->St->Hp->Prop)(h0:Pv 0 σ H)(hl:∀i σ H,i<=xs.length->Pv i σ H->SqL K H a xs)
  (hs:∀i x p σ H,xs[i]?=some x->Pv i σ H->H p=none->g (.ref p) σ (upd H p (.tup [.int i,x])) λσ2 H2=>tb { D with nx:=Pv (i+1),ct:=Pv (i+1),bk:=D.nx } σ2 H2) (hd:∀σ H,Pv xs.length σ H->D.nx σ H) :
  ∃W:Nat->Nat->St->Hp->Prop,(∃m,W 0 m σ H)/\∀i m σ H,W i m σ H->
   ((Ite K a).stop i H/\D.nx σ H)\/((Ite K a).go i H/\∃N:St->Hp->Prop,(∀σ' H',N σ' H'->∃m',m' < m/\W (i+1) m' σ' H')/\∀x H',(Ite K a).yld i H x H'->g x σ H' λσ2 H2=>tb { D with nx:=N,ct:=N,bk:=D.nx } σ2 H2):=by
 refine ⟨λi m σ H=>m=xs.length-i/\i<=xs.length/\Pv i σ H,⟨xs.length,by simp,zero_le _,h0⟩,?_⟩
 rintro i m σ H ⟨rfl,hi,p⟩
 have q:=hl i σ H hi p
 by_cases hlt:i<xs.length
 ·refine .inr ⟨⟨xs,xs[i],q,by simp[hlt]⟩,Pv (i+1),λσ' H' p'=>⟨xs.length-(i+1),by omega,rfl,hlt,p'⟩,λx H' y=>?_⟩
  obtain ⟨pp,z,hn,e1,e2,y⟩:=y
  subst e1 e2
  exact hs i z pp σ _ (y xs q) p hn
 ·have e:i=xs.length:=by omega
  subst e
  exact .inl ⟨⟨xs,q,le_refl _⟩,hd σ H p⟩
def clOf(cells:List (Str×Addr)):List (Str×NameKind)->List (Str×Addr)->List (Str×Addr)
 |[],cs=>cs
 | (n,k)::r,cs=>if k=.free then clOf cells r ((n,(cells.lookup n).getD 0)::cs) else clOf cells r cs
theorem ydf{scope:Scope}{env:Env}(h:∀x∈scope.names,x.2=.free->∃c,env.cells.lookup x.1=some c):closureFor scope env=pure (clOf env.cells scope.names []):=by
 unfold closureFor
 generalize hn:scope.names=names at h
 suffices hh:∀(l:List (Str×NameKind)) (cs:List (Str×Addr)),(∀x∈l,x.2=.free->∃c,env.cells.lookup x.1=some c)->
   (forIn l cs (λ(x:Str×NameKind) r=>if (x.2 == NameKind.free)=true then (do let a <-cellOf env x.1;pure (ForInStep.yield ((x.1,a)::r))) else pure (ForInStep.yield r)):Sem (List (Str×Addr)))=pure (clOf env.cells l cs) by
  have:=hh names [] h
  simp only[bind_pure]
  exact this
 intro l
 induction l with
 |nil=>intro cs _;rfl
 |cons x l ih=>
  intro cs hl
  obtain ⟨n,k⟩:=x
  rw[forIn_cons]
  by_cases hk:k=.free
  ·subst hk
   obtain ⟨c,hc⟩:=hl (n,.free) mem_cons_self rfl
   have e1:cellOf env n=pure c:=by unfold cellOf;rw[hc]
   have ec:clOf env.cells ((n,NameKind.free)::l) cs=clOf env.cells l ((n,c)::cs):=by
    show (if NameKind.free=NameKind.free then _ else _)=_
    rw[if_pos rfl,hc];rfl
   rw[ec]
   simp only[e1,pure_bind,beq_self_eq_true,if_true]
   exact ih _ λy hy=>hl y (mem_cons_of_mem _ hy)
  ·have hb:(k == NameKind.free)=false:=by cases k<;>first|rfl|exact absurd rfl hk
   have ec:clOf env.cells ((n,k)::l) cs=clOf env.cells l cs:=by
    show (if k=NameKind.free then _ else _)=_
    rw[if_neg hk]
   rw[ec]
   simp only[hb,pure_bind,Bool.false_eq_true,if_false]
   exact ih _ λy hy=>hl y (mem_cons_of_mem _ hy)
theorem ydh{cells:List (Str×Addr)}:∀{l:List (Str×NameKind)}{cs:List (Str×Addr)},(∀x∈l,x.2=.free->∃c,cells.lookup x.1=some c)->(∀p∈cs,cells.lookup p.1=some p.2)->∀p∈clOf cells l cs,cells.lookup p.1=some p.2
 |[],_,_,h=>h
 | (n,k)::r,cs,hl,h=>by
  unfold clOf
  split
  ·rename_i hk
   refine ydh (λx hx=>hl x (mem_cons_of_mem _ hx)) λp hp=>?_
   rcases mem_cons.mp hp with rfl|hp
   ·obtain ⟨c,hc⟩:=hl (n,k) mem_cons_self hk
    show cells.lookup n=some ((cells.lookup n).getD 0)
    have hc':cells.lookup n=some c:=hc
    rw[hc'];rfl
   ·exact h p hp
  ·exact ydh (λx hx=>hl x (mem_cons_of_mem _ hx)) h
theorem yd2{l:List (Str×Addr)}{x:Str}(h:∃c,(x,c)∈l):∃c,l.lookup x=some c:=by
 obtain ⟨c,h⟩:=h
 induction l with
 |nil=>cases h
 |cons p r ih=>
  obtain ⟨y,d⟩:=p
  by_cases e:(x == y)=true
  ·exact ⟨d,by rw[lookup_cons,e]⟩
  ·have e':(x == y)=false:=by simpa using e
   rcases mem_cons.mp h with q|q
   ·cases q;exact absurd (beq_self_eq_true _) e
   ·obtain ⟨c',z⟩:=ih q
    exact ⟨c',by rw[lookup_cons,e'];exact z⟩
theorem qe5{cells:List (Str×Addr)}{x:Str}:∀{l:List (Str×NameKind)}{cs:List (Str×Addr)},((x,NameKind.free)∈l\/∃c,(x,c)∈cs)->∃c,(x,c)∈clOf cells l cs
 |[],_,h=>by
  rcases h with h|h
  ·cases h
  ·exact h
 | (n,k)::r,cs,h=>by
  unfold clOf
  split
  ·rename_i hk
   refine qe5 ?_
   rcases h with h|⟨c,h⟩
   ·rcases mem_cons.mp h with q|q
    ·cases q;exact .inr ⟨_,mem_cons_self⟩
    ·exact .inl q
   ·exact .inr ⟨c,mem_cons_of_mem _ h⟩
  ·rename_i hk
   refine qe5 ?_
   rcases h with h|h
   ·rcases mem_cons.mp h with q|q
    ·cases q;exact absurd rfl hk
    ·exact .inl q
   ·exact .inr h
theorem yex{env:Env}{x:Str}:∀{l:List (Str×NameKind)},l.lookup x=some .free->
  (l.map λ(n,k)=>if (k == NameKind.free&&env.scope.kind == .function&&env.kindOf n == some .cell) then (n,NameKind.cell) else (n,k)).lookup x=some .cell\/
  (l.map λ(n,k)=>if (k == NameKind.free&&env.scope.kind == .function&&env.kindOf n == some .cell) then (n,NameKind.cell) else (n,k)).lookup x=some .free
 |[],h=>by simp at h
 | (n,k)::r,h=>by
  rw[map_cons]
  cases hx:x == n with
  |true=>
   rw[lookup_cons,hx]at h
   cases h
   by_cases hc:(NameKind.free == NameKind.free&&env.scope.kind == .function&&env.kindOf n == some .cell)=true
   ·left;simp only[hc,if_true,lookup_cons,hx]
   ·right;simp only[hc,Bool.false_eq_true,if_false,lookup_cons,hx]
  |false=>
   rw[lookup_cons,hx]at h
   have ih:=yex (env:=env) (l:=r) h
   by_cases hc:(k == NameKind.free&&env.scope.kind == .function&&env.kindOf n == some .cell)=true
   ·simp only[hc,if_true,lookup_cons,hx];exact ih
   ·simp only[hc,Bool.false_eq_true,if_false,lookup_cons,hx];exact ih
theorem yfz{env:Env}{x:Str}:∀{l:List (Str×NameKind)},(∀y∈l,y.2≠.cell)->
  ((l.map λ(n,k)=>if (k == NameKind.free&&env.scope.kind == .function&&env.kindOf n == some .cell) then (n,NameKind.cell) else (n,k)).lookup x=some .cell\/
  (l.map λ(n,k)=>if (k == NameKind.free&&env.scope.kind == .function&&env.kindOf n == some .cell) then (n,NameKind.cell) else (n,k)).lookup x=some .free)->(x,NameKind.free)∈l
 |[],_,h=>by simp at h
 | (n,k)::r,hn,h=>by
  rw[map_cons]at h
  cases hx:x == n with
  |true=>
   have e:x=n:=by simpa using hx
   subst e
   by_cases hc:(k == NameKind.free&&env.scope.kind == .function&&env.kindOf x == some .cell)=true
   ·have:k=.free:=by
     simp only[Bool.and_eq_true,beq_iff_eq]at hc
     exact hc.1.1
    subst this
    exact mem_cons_self
   ·simp only[hc,Bool.false_eq_true,if_false,lookup_cons,hx,Option.some.injEq]at h
    rcases h with h|h
    ·exact absurd h (hn (x,k) mem_cons_self)
    ·subst h;exact mem_cons_self
  |false=>
   have h':(r.map λ(n,k)=>if (k == NameKind.free&&env.scope.kind == .function&&env.kindOf n == some .cell) then (n,NameKind.cell) else (n,k)).lookup x=some .cell\/
     (r.map λ(n,k)=>if (k == NameKind.free&&env.scope.kind == .function&&env.kindOf n == some .cell) then (n,NameKind.cell) else (n,k)).lookup x=some .free:=by
    by_cases hc:(k == NameKind.free&&env.scope.kind == .function&&env.kindOf n == some .cell)=true
    ·simp only[hc,if_true,lookup_cons,hx]at h;exact h
    ·simp only[hc,Bool.false_eq_true,if_false,lookup_cons,hx]at h;exact h
   exact mem_cons_of_mem _ (yfz (λy hy=>hn y (mem_cons_of_mem _ hy)) h')
def yba(X:Cx)(M:List Str)(scope:Scope)(C:Addr)(fp:List Addr)(s2:Shared)(H2:Hp):Cx:=
 {prog:=X.prog,w:=X.w,K:=X.K,mg:=X.mg,base:=X.base,A:=X.A,N:=M,s₀:=s2,H₀:=H2,env:=compEnvC scope (clOf X.env.cells scope.names []) C X.env,
  outer:=X.stack,stack:=X.stack,ex:=fp,fn:=λ_=>false,calm:=X.calm,pn:=[],xe:=λ_ _=>False }
def capS(ix:List (Option Nat))(σ:St):St:=ix.map λo=>match o with
 |none=>none
 |some j=>(σ[j]?).getD none
structure CompOk(N M:List Str)(ix:List (Option Nat))(sc xs:Scope):Prop where
 kind:sc.kind=.function
 len:M.length=ix.length
 nocell:∀y∈sc.names,y.2≠.cell
 loc:∀y∈sc.names,y.2=.local->sc.names.lookup y.1=some .local
 fr:∀y∈sc.names,y.2=.free->xs.names.lookup y.1=some .cell\/xs.names.lookup y.1=some .free
 cap:∀(i:Nat) (j:Nat),ix[i]?=some (some j)->∃x,M[i]?=some x/\N[j]?=some x/\sc.names.lookup x=some .free
def qkv(N M:List Str)(ix:List (Option Nat))(sc xs:Scope):Bool:=
 decide (sc.kind=.function)&&decide (M.length=ix.length)&&sc.names.all (λy=>decide (y.2≠.cell))&&sc.names.all (λy=>decide (y.2≠.local)||decide (sc.names.lookup y.1=some .local)) &&
 sc.names.all (λy=>decide (y.2≠.free)||decide (xs.names.lookup y.1=some .cell)||decide (xs.names.lookup y.1=some .free)) &&
 (List.range ix.length).all (λi=>match ix[i]? with
  |some (some j)=>match M[i]? with
   |some x=>decide (N[j]?=some x)&&decide (sc.names.lookup x=some .free)
   |none=>false
  |_=>true)
theorem yax{N M:List Str}{ix:List (Option Nat)}{sc xs:Scope}(h:qkv N M ix sc xs=true):CompOk N M ix sc xs:=by
 unfold qkv at h
 simp only[Bool.and_eq_true,List.all_eq_true,decide_eq_true_eq,Bool.or_eq_true]at h
 obtain ⟨⟨⟨⟨⟨h1,h2⟩,h3⟩,h4⟩,h5⟩,h6⟩:=h
 refine ⟨h1,h2,h3,λy hy e=>?_,λy hy e=>?_,λi j e=>?_⟩
 ·rcases h4 y hy with q|q
  ·exact absurd e q
  ·exact q
 ·rcases h5 y hy with (q|q)|q
  ·exact absurd e q
  ·exact .inl q
  ·exact .inr q
 ·have hi:i<ix.length:=(List.getElem?_eq_some_iff.mp e).1
  have q:=h6 i (mem_range.mpr hi)
  rw[e]at q
  cases hm:M[i]? with
  |none=>rw[hm]at q;cases q
  |some x=>
   rw[hm]at q
   simp only[Bool.and_eq_true,decide_eq_true_eq]at q
   exact ⟨x,rfl,q.1,q.2⟩
def PTs(X:Cx)(ifs:List Expr)(t:TT):Prop:=
 ∀(pins:List (Addr×Obj)) (s:Shared) (σ:St) (H:Hp) (Q:Bool->Hp->Prop),Inv X pins σ H s->t σ H Q->
  wpAny (model X.prog X.w) X.A (forIn ifs true λc r=>if r=true then do let ok <-isTrue c X.env (eval c X.env);pure (ForInStep.yield ok) else pure (ForInStep.yield r)) (TP X pins σ Q) X.xe s
def tYes:TT:=λ_ H Q=>Q true H
theorem ych:PTs X [] tYes:=λ_ _ _ H _ I h=>wpAny_tests_nil ⟨H,I,h⟩
theorem qen{c:Expr}{t:TT}(h:PT X c t):PTs X [c] t:=λpins s σ H Q I hq=>wpAny_tests_one (h pins s σ H Q I hq)
end
theorem Un.butNew{fs ex:List Addr}{H H':Hp}{h h1 h2:Heap}{C:Addr}(u:Un fs ex H H' h h1)(hC:h.objs.size<=C)(sb:Heap.SameBut C h1 h2):Un fs ex H H' h h2:=by
 have ne:∀b o,h.get? b=some o->b≠C:=λb o e=>ne_of_lt (lt_of_lt_of_le (lt_size e) hC)
 refine ⟨λb o e n h3 h4=>(sb.2 b (ne b o e)).trans (u.keep b o e n h3 h4),λb o e n h3 h4=>?_,u.free,λb o e h4=>?_,u.tups,u.frzs,u.tbls⟩
 ·obtain ⟨sl,q⟩:=u.slot b o e n h3 h4
  exact ⟨sl,(sb.2 b (ne b o e)).trans q⟩
 ·obtain ⟨o',q⟩:=u.there b o e h4
  exact ⟨o',(sb.2 b (ne b o e)).trans q⟩
section
variable {X:Cx}{pins:List (Addr×Obj)}{σ:St}{H2:Hp}{s2:Shared}{M:List Str}{ix:List (Option Nat)}{scope:Scope}{fp:List Addr}
theorem comp_ok{C:Addr}(I:Inv X pins σ H2 s2)(ck:CompOk X.N M ix scope X.env.scope)(hC:s2.heap.objs.size<=C)(f2:∀b∈fp,FpOk X pins H2 b)(hfp:∀b∈fp,b<s2.heap.objs.size):(yba X M scope C fp s2 H2).Ok:=by
 have hfree:∀x∈scope.names,x.2=.free->∃c,X.env.cells.lookup x.1=some c:=λx hx e=>I.ok.has x.1 (ck.fr x hx e)
 have snd:∀x c,(clOf X.env.cells scope.names []).lookup x=some c->X.env.cells.lookup x=some c:=λx c e=>ydh (cs:=[]) hfree (by intro p hp;cases hp) (x,c) (PySem.mem_of_lookup e)
 refine ⟨I.ok.mod,ck.kind,I.ok.glob,I.ok.blt,hC,λx y c h1 h2=>I.ok.inj x y c (snd x c h1) (snd y c h2),λx hx=>?_,(by intro x c h;cases h),I.ok.hd,I.ok.frames,.inl rfl,λb hb=>⟨?_,λx c e=>?_⟩,λb o e=>I.bs b o e,
  le_trans I.ok.bsz I.sz,λb o e hb=>?_,λb hb hb2=>?_,I.stack,I.stkFree⟩
 ·exact yd2 (qe5 (.inl (yfz ck.nocell hx)))
 ·exact ne_of_lt (lt_of_lt_of_le (hfp b hb) hC)
 ·exact (f2 b hb).2.2.2.2.1 x c (snd x c e)
 ·rcases (f2 b hb).2.2.2.1 with z|z
  ·exact I.ok.noex b o e z
  ·exact absurd (lt_of_lt_of_le (lt_size e) (le_trans I.ok.bsz z)) (lt_irrefl _)
 ·obtain ⟨_,n1,n2,_⟩:=f2 b hb
  rcases mem_cons.mp (I.stkSub b hb2) with z|z
  ·exact n1 z
  ·exact n2 z
theorem comp_inv{C D:Addr}{h1:Heap}{tk:Nat}(I:Inv X pins σ H2 s2)(ck:CompOk X.N M ix scope X.env.scope)(hC:s2.heap.objs.size<=C)(hD:s2.heap.objs.size<=D)(hDC:C≠D)(f2:∀b∈fp,FpOk X pins H2 b)(hfp:∀b∈fp,b<s2.heap.objs.size)
  (old:∀b o,s2.heap.get? b=some o->h1.get? b=some o) (hn:h1.Ns C λ_=>none) (hnew:h1.get? D=some { cls:=.type "list",data:=.seq #[] }) :
  Inv (yba X M scope C fp s2 H2) [] (capS ix σ) (upd H2 D (.lst [])) { s2 with heap:=h1,toks:=tk }:=by
 have hfree:∀x∈scope.names,x.2=.free->∃c,X.env.cells.lookup x.1=some c:=λx hx e=>I.ok.has x.1 (ck.fr x hx e)
 have snd:∀x c,(clOf X.env.cells scope.names []).lookup x=some c->X.env.cells.lookup x=some c:=λx c e=>ydh (cs:=[]) hfree (by intro p hp;cases hp) (x,c) (PySem.mem_of_lookup e)
 have fD:H2 D=none:=I.hok.fresh hD
 refine ⟨comp_ok I ck hC f2 hfp,rfl,I.bare,Un.laid old hD fD,⟨_,hn,λi x v e1 e2 e3=>?_⟩,λx c e=>?_,?_,λx c e=>?_,(by intro p hp;cases hp),I.hok.laid (o:=.lst []) old hD ⟨zero_le _,[],0,.nil,hnew⟩,?_⟩
 ·obtain ⟨j,hj,hv⟩:∃j,ix[i]?=some (some j)/\σ[j]?=some (some v):=by
   unfold capS at e2
   rw[getElem?_map]at e2
   cases q:ix[i]? with
   |none=>rw[q]at e2;cases e2
   |some o=>
    rw[q]at e2
    cases o with
    |none=>cases e2
    |some j=>
     refine ⟨j,rfl,?_⟩
     have e2':(σ[j]?).getD none=some v:=Option.some.inj e2
     cases z:σ[j]? with
     |none=>rw[z]at e2';cases e2'
     |some y=>rw[z]at e2';rw[show y=some v from e2']
  obtain ⟨y,hm,hN,hf⟩:=ck.cap i j hj
  have e1':M[i]?=some x:=e1
  rw[hm]at e1';cases e1'
  obtain ⟨m,hnl,hl⟩:=I.loc
  have hmem:(x,NameKind.free)∈scope.names:=PySem.mem_of_lookup hf
  have hk:=ck.fr _ hmem rfl
  obtain ⟨u,ru,lk⟩:=hl j x v hN hv (hk.elim (λz=>.inr (.inl z)) λz=>.inr (.inr z))
  refine ⟨u,ru,.inr ⟨yex hf,?_⟩⟩
  rcases lk with ⟨kl,_⟩|⟨_,c,hc,hcell⟩
  ·have kl':X.env.scope.names.lookup x=some .local:=kl
   rcases hk with z|z
   ·rw[z]at kl';cases kl'
   ·rw[z]at kl';cases kl'
  ·obtain ⟨c2,h2⟩:=yd2 (qe5 (cells:=X.env.cells) (cs:=[]) (.inl hmem))
   have h3:=snd x c2 h2
   rw[hc]at h3;cases h3
   obtain ⟨o,ho,hd⟩:=hcell
   exact ⟨c,h2,o,old c o ho,hd⟩
 ·obtain ⟨v,o,ho,hd⟩:=I.cell x c (snd x c e)
  exact ⟨v,o,old c o ho,hd⟩
 ·show upd H2 D (.lst []) C=none
  rw[qag hDC]
  exact I.hok.fresh hC
 ·show upd H2 D (.lst []) c=none
  obtain ⟨v,z⟩:=I.cell x c (snd x c e)
  rw[qag (ne_of_lt (lt_of_lt_of_le z.lt hD))]
  exact I.freeC x c (snd x c e)
 ·show (capS ix σ).length=M.length
  unfold capS
  rw[length_map,ck.len]
theorem ymx{C:Addr}{σ':St}{H':Hp}{s':Shared}{h2:Heap}{pl:List (Addr×Obj)}(I:Inv X pins σ H2 s2)(J:Inv (yba X M scope C fp s2 H2) pl σ' H' s')(f2:∀b∈fp,FpOk X pins H2 b)(sb:Heap.SameBut C s'.heap h2):Inv X pins σ H' { s' with heap:=h2 }:=by
 have hC:s2.heap.objs.size<=C:=J.ok.above
 refine I.call' (s':={ s' with heap:=h2 }) (ch:=fp) J.os (Un.butNew J.base hC sb) (λa o e=>?_) J.bare λb hb=>?_
 ·have fr:H' C=none:=J.free
  refine (J.hok a o e).stay (λc v hc q=>(sb.2 c ?_).trans q) (λ_ q=>q) λ_ _ q=>q
  rintro rfl
  rcases hc with z|z
  ·rw[<-z,fr]at e;cases e
  ·rw[fr]at z;cases z
 ·obtain ⟨_,n1,_,n3,n4,n5⟩:=f2 b hb
  exact ⟨n3,n1,n4,n5⟩
end
def qa4(l l':St):Prop:=l'.length=l.length/\∀(i:Nat) (v:V),l[i]?=some (some v)->l'[i]?=some (some v)
theorem qa4.refl(l:St):qa4 l l:=⟨rfl,λ_ _ h=>h⟩
theorem qa4.set{l l':St}{i:Nat}{x:Option V}(h:qa4 l l')(hi:l[i]?=some none):qa4 l (l'.set i x):=by
 refine ⟨by rw[length_set];exact h.1,λj v e=>?_⟩
 by_cases hj:j=i
 ·subst hj;rw[hi]at e;cases e
 ·rw[getElem?_set_ne (Ne.symm hj)];exact h.2 j v e
def tComp(wi:TI)(ix:List (Option Nat))(g:TG)(tt:TT)(te:TE):TE:=λσ H Q=>wi σ H λJ H1=>∀D,H1 D=none->∃W:Nat->Nat->Hp->Prop,(∃m,W 0 m (upd H1 D (.lst [])))/\∀i m H,W i m H->
 (J.stop i H/\Q (.ref D) H)\/(J.go i H/\∃N:Hp->Prop,(∀H',N H'->∃m',m' < m/\W (i+1) m' H')/\∀x H',J.yld i H x H'->g x (capS ix σ) H' λσ2 H2=>qa4 (capS ix σ) σ2/\tt σ2 H2 λb H3=>
  if b=true then te σ2 H3 λv H4=>∃ys,H4 D=some (.lst ys)/\ys.length<sizeLine/\N (upd H4 D (.lst (ys++[v]))) else N H3)
section
variable {X:Cx}{elt tg iter:Expr}{ifs:List Expr}{scope:Scope}{pos:Pos}{wi:TI}{g:TG}{tt:TT}{te:TE}{M:List Str}{ix:List (Option Nat)}
theorem qmg{pins:List (Addr×Obj)}{σ:St}{H2 H4:Hp}{s2 s4:Shared}{fp:List Addr}{it C D:Addr}{tn:Nat->Heap->Prop}{J:It}{R:Result->Shared->Prop}{QD:Hp->Prop}(I2:Inv X pins σ H2 s2)(hc:X.calm=true)
  (f2:∀b∈fp,FpOk X pins H2 b) (T:Turn X.prog X.w X.K tg J fp it tn)
  (hg:PG (yba X M scope C fp s2 H2) tg g) (ht:PTs (yba X M scope C fp s2 H2) ifs tt) (he:PE (yba X M scope C fp s2 H2) elt te)
  (I4:Inv (yba X M scope C fp s2 H2) [] (capS ix σ) H4 s4) (st4:tn 0 s4.heap) (fr4:∀b∈fp,H4 b=none) (W:Nat->Nat->Hp->Prop) (m0:Nat) (w0:W 0 m0 H4)
  (turn:∀i m H,W i m H->(J.stop i H/\QD H)\/(J.go i H/\∃N:Hp->Prop,(∀H',N H'->∃m',m' < m/\W (i+1) m' H')/\∀x H',J.yld i H x H'->g x (capS ix σ) H' λσ2 H2=>qa4 (capS ix σ) σ2/\tt σ2 H2 λb H3=>
   if b=true then te σ2 H3 λv H4=>∃ys,H4 D=some (.lst ys)/\ys.length<sizeLine/\N (upd H4 D (.lst (ys++[v]))) else N H3))
  (fin:∀H' s',Inv (yba X M scope C fp s2 H2) [] (capS ix σ) H' s'->QD H'->R (.ok .next) s') :
  codeAny (model X.prog X.w) X.A (.compLoop (.ListComp elt [⟨tg,iter,ifs,0⟩] scope pos) 0 (.ref it) (.ref D) (compEnvC scope (clOf X.env.cells scope.names []) C X.env)) R s4:=by
 have stat:∀{H':Hp},(∀b∈fp,H' b=none)->∀b∈fp,FpOk (yba X M scope C fp s2 H2) [] H' b:=λ{H'} hn b hb=>
  ⟨hn b hb,(I4.ok.exf b hb).1,I4.ok.exfs b hb,.inl hb,(I4.ok.exf b hb).2,by intro p hp;cases hp⟩
 refine codeAny_loop rfl (λn s'=>∃i H',Inv (yba X M scope C fp s2 H2) [] (capS ix σ) H' s'/\tn i s'.heap/\(∀b∈fp,H' b=none)/\W i n H') ?_ m0 ⟨0,H4,I4,st4,fr4,w0⟩
 rintro n s5 ⟨i,H5,I5,st5,fr5,w5⟩
 show wpAny (model X.prog X.w) X.A ((compTurn (.ListComp elt [⟨tg,iter,ifs,0⟩] scope pos) 0 (.ref it) (.ref D) (compEnvC scope (clOf X.env.cells scope.names []) C X.env)).onRaise (λx=>do noteFrame x (compEnvC scope (clOf X.env.cells scope.names []) C X.env);theTreesLotGoes x)) _ _ s5
 refine wpAny_noted ?_
 rw[compTurn_list]
 refine wpAny_bind (wpAny_standAt (wpAny_bind ?_))
 rcases turn i n H5 w5 with ⟨stop,qn⟩|⟨go,N,hN,step⟩
 ·refine thn (T.done (yba X M scope C fp s2 H2) rfl rfl rfl hc i [] s5 (capS ix σ) H5 _ I5 (stat fr5) st5 stop) λr s6 ⟨hr,I6⟩=>?_
  subst hr
  exact wpAny_pure (fin H5 s6 I6 qn)
 ·refine thn (T.item (yba X M scope C fp s2 H2) rfl rfl rfl hc i [] s5 (capS ix σ) H5 _ I5 (stat fr5) st5 go) λr s6 ⟨u,hr,h6⟩=>?_
  subst hr
  refine wpAny_bind (thn h6 λ_ s7 ⟨x,H7,I7,r7,y7,st7,fr7⟩=>?_)
  have I7':=I7.pinned (stat fr7) (T.obj _ _ st7)
  refine wpAny_bind (wpAny_mono (hg _ s7 (capS ix σ) H7 x u _ I7' r7 (step x H7 y7)) (λ_ s8 ⟨σ8,H8,I8,k8,q8⟩=>?_) λ_ _ z=>False.elim z)
  refine wpAny_bind (wpAny_mono (ht _ s8 σ8 H8 _ I8 q8) (λok s9 ⟨H9,I9,q9⟩=>?_) λ_ _ z=>False.elim z)
  have again:∀{Ha:Hp}{sa:Shared},Inv (yba X M scope C fp s2 H2) ([]++yhj fp s7.heap) σ8 Ha sa->N Ha->∃m,m<n/\∃i H',Inv (yba X M scope C fp s2 H2) [] (capS ix σ) H' sa/\tn i sa.heap/\(∀b∈fp,H' b=none)/\W i m H':=λ{Ha sa} Ia na=>by
   obtain ⟨m',hm,wa⟩:=hN Ha na
   refine ⟨m',hm,i+1,Ha,Ia.unpinned.weak k8.1.symm k8.2,T.keep _ _ _ st7 λb hb o e=>(Ia.pin (b,o) (mem_append_right _ (mem_append_right _ (qdl hb e)))).1,λb hb=>?_,wa⟩
   obtain ⟨o,e,d⟩:=T.obj _ _ st7 b hb
   exact (Ia.pin (b,o) (mem_append_right _ (mem_append_right _ (qdl hb e)))).2.1
  cases ok with
  |false=>exact wpAny_pure ⟨rfl,again I9 q9⟩
  |true=>
   refine wpAny_bind (wpAny_bind (wpAny_mono (he _ s9 σ8 H9 _ I9 q9) (λxv s10 ⟨v,H10,I10,r10,ys,hD,hl,q10⟩=>?_) λ_ _ z=>False.elim z))
   refine wpAny_bind (wpAny_mono (ya7 (X:=yba X M scope C fp s2 H2) _ s10 σ8 H10 (.ref D) [v] (.ref D) [xv] (λ_ H'=>N H') I10 rfl (.cons r10 .nil) ⟨D,ys,v,rfl,rfl,hD,hl,q10⟩) (λ_ s11 ⟨_,H11,I11,_,q11⟩=>?_) λ_ _ z=>False.elim z)
   exact wpAny_pure (wpAny_pure ⟨rfl,again I11 q11⟩)
theorem qgc{pins:List (Addr×Obj)}{σ:St}{H2:Hp}{s2:Shared}{fp:List Addr}{it:Addr}{tn:Nat->Heap->Prop}{J:It}{E:Value->Shared->Prop}{QD:Addr->Hp->Prop}{RR:Value->Addr->Result->Shared->Prop}(I2:Inv X pins σ H2 s2)(hc:X.calm=true)
  (ck:CompOk X.N M ix scope X.env.scope) (f2:∀b∈fp,FpOk X pins H2 b) (T:Turn X.prog X.w X.K tg J fp it tn) (st2:tn 0 s2.heap)
  (hg:∀C fp s2 H2,PG (yba X M scope C fp s2 H2) tg g) (ht:∀C fp s2 H2,PTs (yba X M scope C fp s2 H2) ifs tt) (he:∀C fp s2 H2,PE (yba X M scope C fp s2 H2) elt te)
  (rd:∀D,H2 D=none->∃W:Nat->Nat->Hp->Prop,(∃m,W 0 m (upd H2 D (.lst [])))/\∀i m H,W i m H->
   (J.stop i H/\QD D H)\/(J.go i H/\∃N:Hp->Prop,(∀H',N H'->∃m',m' < m/\W (i+1) m' H')/\∀x H',J.yld i H x H'->g x (capS ix σ) H' λσ2 H2=>qa4 (capS ix σ) σ2/\tt σ2 H2 λb H3=>
    if b=true then te σ2 H3 λv H4=>∃ys,H4 D=some (.lst ys)/\ys.length<sizeLine/\N (upd H4 D (.lst (ys++[v]))) else N H3))
  (fin:∀D C H' s',QD D H'->(∃m,s'.heap.Ns C m)->(∀h2,Heap.SameBut C s'.heap h2->Inv X pins σ H' { s' with heap:=h2 })->FpOk X pins H' C->RR (.ref D) C (.ok .next) s') :
  wpAny (model X.prog X.w) X.A (newList []) (λacc s3=>wpAny (model X.prog X.w) X.A (newFunctionEnv scope X.env.globals (clOf X.env.cells scope.names []) [] X.env.qual none .none (some X.env)) (λcenv s4=>
   codeAny (model X.prog X.w) X.A (.compStart (.ListComp elt [⟨tg,iter,ifs,0⟩] scope pos) 0 (.ref it) acc { cenv with scope:=relabel scope X.env }) (RR acc cenv.locals) s4) E s3) E s2:=by
 have hfp:∀b∈fp,b<s2.heap.objs.size:=λb hb=>by obtain ⟨o,e,_⟩:=T.obj 0 _ st2 b hb;exact lt_size e
 refine wpAny_newObj_type (wpAny_newFunctionEnv ck.nocell (by intro y hy;simp at hy) (λh1 hn1 hsb1=>?_) ck.kind)
 dsimp only at hn1 hsb1 ⊢
 generalize hP:s2.heap.push { cls:=.type "list",dict:=none,data:=.seq ([]:List Value).toArray }=hh at hn1 hsb1 ⊢
 have hCz:hh.objs.size=s2.heap.objs.size+1:=by rw[<-hP,size_push]
 have hCD:hh.objs.size≠s2.heap.objs.size:=by omega
 have old:∀b o,s2.heap.get? b=some o->h1.get? b=some o:=λb o e=>by
  have hb:b<s2.heap.objs.size:=lt_size e
  exact hsb1.extBut b o (ne_of_lt (by rw[hCz];exact lt_succ_of_lt hb)) (get?_push_of_some _ (hP ▸ get?_push_of_some _ e))
 have hnew:h1.get? s2.heap.objs.size=some { cls:=.type "list",data:=.seq #[] }:=hsb1.extBut _ _ hCD.symm (get?_push_of_some _ (hP ▸ get?_push_size _ rfl))
 obtain ⟨W,⟨m0,w0⟩,turn⟩:=rd s2.heap.objs.size (I2.hok.fresh (le_refl _))
 have I4:=comp_inv (M:=M) (ix:=ix) (scope:=scope) (fp:=fp) (tk:=s2.toks+([]:List (Str×Value)).length) I2 ck (C:=hh.objs.size) (D:=s2.heap.objs.size) (by omega) (le_refl _) hCD f2 hfp old hn1 hnew
 have st4:tn 0 h1:=T.keep _ _ _ st2 λb _ o e=>old b o e
 have fr4:∀b∈fp,upd H2 s2.heap.objs.size (.lst []) b=none:=λb hb=>by rw[qag (ne_of_lt (hfp b hb))];exact (f2 b hb).1
 have lp:codeAny (model X.prog X.w) X.A (.compLoop (.ListComp elt [⟨tg,iter,ifs,0⟩] scope pos) 0 (.ref it) (.ref s2.heap.objs.size) (compEnvC scope (clOf X.env.cells scope.names []) hh.objs.size X.env)) (RR (.ref s2.heap.objs.size) hh.objs.size) { s2 with heap:=h1,toks:=s2.toks+([]:List (Str×Value)).length }:=by
  refine qmg (QD:=QD s2.heap.objs.size) I2 hc f2 T (hg _ _ _ _) (ht _ _ _ _) (he _ _ _ _) I4 st4 fr4 W m0 w0 turn λH' s' J' q'=>?_
  obtain ⟨m,hm,_⟩:=J'.loc
  exact fin _ _ H' s' q' ⟨m,hm⟩ (λh2 sb=>ymx I2 J' f2 sb) (I2.fpOk (by omega) J'.free)
 exact codeAny_compStart_list lp (T.self _ 0 _ _ _ st4 lp)
theorem ybr(hc:X.calm=true)(ck:CompOk X.N M ix scope X.env.scope)(hi:PI X tg iter wi)(hg:∀C fp s2 H2,PG (yba X M scope C fp s2 H2) tg g)(ht:∀C fp s2 H2,PTs (yba X M scope C fp s2 H2) ifs tt)(he:∀C fp s2 H2,PE (yba X M scope C fp s2 H2) elt te)
  (hs:∀x,foldedSetIterable iter X.env x=pure x:=by intro _;rfl):PE X (.ListComp elt [⟨tg,iter,ifs,0⟩] scope pos) (tComp wi ix g tt te):=by
 intro pins s σ H Q I h
 have hfree:∀x∈scope.names,x.2=.free->∃c,X.env.cells.lookup x.1=some c:=λx hx e=>I.ok.has x.1 (ck.fr x hx e)
 rw[eval_ListComp]
 refine wpAny_comprehension_free (use:=none) (cl:=clOf X.env.cells scope.names []) rfl hs (ydf hfree) ck.kind ck.loc (thn (hi pins s σ H _ I h) λv s1 h1=>thn h1 λitv s2 h2=>?_)
 obtain ⟨it,fp,tn,J,H2,e,I2,T,st2,f2,rd⟩:=h2
 subst e
 refine qgc (QD:=λD H'=>Q (.ref D) H') I2 hc ck f2 T st2 hg ht he rd λD C H' s' q hm hb _=>?_
 obtain ⟨m,hm⟩:=hm
 exact ⟨m,hm,λh2 sb=>⟨.ref D,H',hb h2 sb,rfl,q⟩⟩
def tCompSet(wi:TI)(ix:List (Option Nat))(g:TG)(tt:TT)(te:TE)(i:Nat):TS:=λD σ H=>tComp wi ix g tt te σ H λx H1=>D.nx (σ.set i (some x)) H1
theorem qi3{i:Nat}{x:Str}{pos' spos:Pos}(hsw:swapsWith (.ListComp elt [⟨tg,iter,ifs,0⟩] scope pos) (some (.Name x pos')) spos.line X.env=pure true)(hN:X.N.Nodup)(hix:X.N[i]?=some x)(hx:Loc X.env.scope x)
  (hc:X.calm=true) (ck:CompOk X.N M ix scope X.env.scope) (hi:PI X tg iter wi) (hg:∀C fp s2 H2,PG (yba X M scope C fp s2 H2) tg g) (ht:∀C fp s2 H2,PTs (yba X M scope C fp s2 H2) ifs tt) (he:∀C fp s2 H2,PE (yba X M scope C fp s2 H2) elt te)
  (hs:∀x,foldedSetIterable iter X.env x=pure x:=by intro _;rfl) (hf:X.fn x=true\/X.env.scope.names.lookup x=some .local:=by first|exact .inl rfl|exact .inr rfl|assumption) :
  PS X (.Assign [.Name x pos'] (.ListComp elt [⟨tg,iter,ifs,0⟩] scope pos) spos) (tCompSet wi ix g tt te i):=by
 intro pins s σ H D0 I h
 have hfree:∀x∈scope.names,x.2=.free->∃c,X.env.cells.lookup x.1=some c:=λx hx e=>I.ok.has x.1 (ck.fr x hx e)
 rw[exec_Assign_Name_used _ _ _ _ hsw]
 refine wpAny_bind (wpAny_standAt (wpAny_bind ?_))
 show wpAny _ X.A (do let _ <-comprehension (.ListComp elt [⟨tg,iter,ifs,0⟩] scope pos) scope X.env _ (newList []) false (eval iter X.env) (some (assign (.Name x pos') X.env))) _ _ s
 refine wpAny_bind (wpAny_mono (wpAny_comprehension_free (use:=some (assign (.Name x pos') X.env)) (Q:=λ_ s'=>SP X pins D0 .next s') (cl:=clOf X.env.cells scope.names []) rfl hs (ydf hfree) ck.kind ck.loc
  (thn (hi pins s σ H _ I h) λv s1 h1=>thn h1 λitv s2 h2=>?_)) (λ_ s' hq=>wpAny_pure (wpAny_pure hq)) λ_ _ e=>e)
 obtain ⟨it,fp,tn,J,H2,e,I2,T,st2,f2,rd⟩:=h2
 subst e
 refine qgc (QD:=λD H'=>D0.nx (σ.set i (some (.ref D))) H') I2 hc ck f2 T st2 hg ht he rd λD C H' s' q hm hb fpk=>?_
 obtain ⟨m,hm⟩:=hm
 obtain ⟨g0,g1,g2,g3,g4,g5⟩:=fpk
 have I5:Inv X pins σ H' s':=hb s'.heap ⟨rfl,λ_ _=>rfl⟩
 show wpAny (model X.prog X.w) X.A (assign (.Name x pos') X.env (.ref D)) _ _ s'
 refine wpAny_assign_Name (yh5 (v:=.ref D) I5 hN hix hx rfl (λs6 I6 ⟨a,sb,ha⟩=>?_) hf)
 have hCa:C≠a:=by
  rcases ha with ha|ha
  ·rw[ha];exact g1
  ·exact (g4 x a ha).symm
 refine ⟨m,hm.sameBut sb hCa,λh2 sb2=>⟨_,H',I6.turned (t':=s6.toks) (λb o hb e=>(sb2.2 b hb).trans e) g0 g1 g3 g4 g5,q⟩⟩
end
def FnAt(K:W.Frag)(mg:Str->Option Value)(x:Str)(st:Stmt)(ps:List Str):Prop:=∃f fd,mg x=some (.ref f)/\Fun K x x st f fd/\yc6 K fd ps []
def Has(P:Program)(w:World)(K:W.Frag)(mg:Str->Option Value)(base:Heap)(k:Nat)(x:Str)(ps:List Str)(sp:Sp):Prop:=
 ∃f fd,mg x=some (.ref f)/\W.keepIn K (.ref f)=true/\yc6 K fd ps []/\FnOk P w K mg base CX0 k f fd ps sp
section
variable {P:Program}{w:World}{K:W.Frag}{mg:Str->Option Value}{base:Heap}
theorem Has.of{x:Str}{st:Stmt}{ps N:List Str}{k:Nat}{sp:Sp}(F:FnAt K mg x st ps)(S:FnScope N ps (qac st))(len:∀vs H Q E,sp vs H Q E->vs.length=ps.length)
  (hbody:∀(f:Addr) (cdv:Value) (A:Around) (outer:List Env) (s:Shared) (H:Hp) (vs:List V) (Q:VK) (E:XK),Room k (A.deeper (envOfC x (qac st) s.heap.objs.size f cdv))->sp vs H Q E->
   ∃t,PSs (cxOf CX0 P w K mg base N x (qac st) f cdv A outer s H E).nox (qar st) t/\t { nx:=λ_ H'=>Q .non H',rt:=Q } (qd9 N vs) H):Has P w K mg base (k+1) x ps sp:=by
 obtain ⟨f,fd,h1,h2,h3⟩:=F
 exact ⟨f,fd,h1,h2.kp,h3,h2.ok S len λcdv A outer s H vs Q E hr h=>hbody f cdv A outer s H vs Q E hr h⟩
end
section
variable {X:Cx}
theorem qam{k m:Nat}{x:Str}{ps:List Str}{sp:Sp}{e:Expr}{es:List Expr}{t:TA}{p pos:Pos}(h:Has X.prog X.w X.K X.mg X.base k x ps sp)(hr:Room m X.A)(ha:PA X (e::es) t)(hk:k<=m:=by decide)(hg:Gl X x:=by rfl)
  (hdb:(x == ("__debug__" : Str))=false:=by decide) (he:starEach (e::es) X.env=(false,eval e X.env)::starEach es X.env:=by rfl) (hpl:(backTo pos (starEach es X.env)).any (·.1)=false:=by rfl) :
  PE X (.Call (.Name x p) (e::es) [] pos) (tCall sp [] E0 t):=by
 obtain ⟨f,fd,h1,h2,h3,h4⟩:=h
 exact ql3 h4 (hr.mono hk) hg h1 h2 h3 .nil pass0 ha hdb he hpl
def ygr:List Str:=["len","abs","max","min","repr","isinstance","int","bool","str","tuple","list","dict","range","enumerate","sorted","sum"]
structure Bl(mg:Str->Option Value):Prop where
 all:∀x∈ygr,mg x=none
theorem Bl.of{mg:Str->Option Value}(B:Bl mg){x:Str}(h:ygr.contains x=true):mg x=none:=B.all x (by simpa using h)
def GTup(K:W.Frag)(mg:Str->Option Value)(x:Str)(xs:List V):Prop:=∃a,mg x=some (.ref a)/\∀H,SqT K H a xs
theorem qhg{K:W.Frag}{mg:Str->Option Value}{x:Str}{a:Addr}{xs:List V}{od:Option Addr}{its:Array Value}{n:Nat}{sl:Array (Option Value)}(h1:mg x=some (.ref a))(h2:K.lookup a=some ⟨.type "tuple",od,.seq its n,sl⟩)
  (h3:its.size<=sizeLine) (h4:Vals xs its.toList):GTup K mg x xs:=⟨a,h1,λH=>.inr ⟨_,its,n,h2,rfl,rfl,h3,h4⟩⟩
def tGT(K:W.Frag)(xs:List V):TE:=λ_ H Q=>∀a,(∀H',SqT K H' a xs)->Q (.ref a) H
theorem yg9{x:Str}{xs:List V}{pos:Pos}(h:GTup X.K X.mg x xs)(hg:Gl X x:=by rfl)(hd:(x == ("__debug__" : Str))=false:=by decide):PE X (.Name x pos) (tGT X.K xs):=by
 obtain ⟨a,h1,h2⟩:=h
 exact λpins s σ H Q I q=>qbm (v:=.ref a) hg h1 rfl hd pins s σ H Q I (q a h2)
theorem qes{x:Str}{i:Int}{pos:Pos}(h:∃t,X.mg x=some (.int i t))(hg:Gl X x:=by rfl)(hd:(x == ("__debug__" : Str))=false:=by decide):PE X (.Name x pos) (tC (.int i)):=by
 obtain ⟨t,h1⟩:=h
 exact qbm (v:=.int i) hg h1 ⟨t,rfl⟩ hd
def rIsi(K:W.Frag):List V->Hp->VK->Prop:=λxs H Q=>∃x T t b,xs=[x,.ty T]/\TyOf K H x t/\W.kitOne K t (.type T)=some b/\Q (.bl b) H
theorem qbb:ycs X (.builtin "isinstance") (rIsi X.K):=by
 intro pins s σ H xs us Q I r h
 obtain ⟨x,T,t,b,rfl,ht,hk,q⟩:=h
 cases r with
 |cons r rr=>
  cases rr with
  |cons r' rr=>
   cases rr
   cases r'
   exact qmt I r ht hk λtk=>⟨.bl b,H,I.tok _,rfl,q⟩
end
def tCut(t u:TS):TS:=λD σ H=>∃R:St->Hp->Prop,t { D with nx:=R } σ H/\∀σ' H',R σ' H'->u D σ' H'
theorem pss_cut{X:Cx}{st:Stmt}{rest:List Stmt}{t u:TS}(h1:PS X st t)(h2:PSs X rest u):PSs X (st::rest) (tCut t u):=by
 intro pins s σ H D I h
 obtain ⟨R,h,hR⟩:=h
 refine wpAny_execs_cons (thn (h1 pins s σ H { D with nx:=R } I h) λf s1 q=>?_)
 cases f with
 |next=>
  obtain ⟨σ',H',I',q⟩:=q
  exact h2 pins s1 σ' H' D I' (hR σ' H' q)
 |ret v=>exact q
 |brk=>exact q
 |cont=>exact q
def tMid(t:TE):TE:=λσ H Q=>∃R:VK,t σ H R/\∀v H',R v H'->Q v H'
theorem pe_mid{X:Cx}{e:Expr}{t:TE}(h:PE X e t):PE X e (tMid t):=by
 intro pins s σ H Q I hw
 obtain ⟨R,h1,h2⟩:=hw
 exact thn (h pins s σ H R I h1) λu s1 ⟨v,H1,I1,r,q⟩=>⟨v,H1,I1,r,h2 v H1 q⟩
theorem Same.upd{H H1:Hp}{p:Addr}{o:HO}(s:Same H H1)(h:H1 p=none):Same H (upd H1 p o):=λb u e=>by
 have e1:=s b u e
 rw[qag (qae e1 h)];exact e1
theorem Same.at{H H1:Hp}{p:Addr}{o:HO}(s:Same H H1)(h:H p=none):Same H (L2.upd H1 p o):=λb u e=>by
 rw[qag (qae e h)];exact s b u e
theorem At.tupEq{H:Hp}{v:V}{ds:List PyData}(h:At H v (.tuple ds)):∃a vs,v=.ref a/\H a=some (.tup vs)/\AtAll H vs ds:=by
 cases h with
 |tup e t=>exact ⟨_,_,rfl,e,t⟩
theorem At.lstEq{H:Hp}{v:V}{ds:List PyData}(h:At H v (.list ds)):∃a vs,v=.ref a/\H a=some (.lst vs)/\AtAll H vs ds:=by
 cases h with
 |lst e t=>exact ⟨_,_,rfl,e,t⟩
theorem At.strEq{H:Hp}{v:V}{x:Str}(h:At H v (.str x)):v=.str x:=by cases h;rfl
theorem At.intEq{H:Hp}{v:V}{x:Int}(h:At H v (.int x)):v=.int x:=by cases h;rfl
def ybh(H:Hp)(L:List Addr):Hp:=λb=>if b∈L then none else H b
theorem qa1(H:Hp)(L:List Addr):Same (ybh H L) H:=λb o e=>by
 unfold ybh at e
 split at e
 ·cases e
 ·exact e
theorem yb4{H:Hp}{L:List Addr}{b:Addr}(h:b∉L):ybh H L b=H b:=by unfold ybh;rw[if_neg h]
theorem qbs{H H':Hp}(s:Same H H')(L:List Addr):Same (ybh H L) (ybh H' L):=λb o e=>by
 unfold ybh at e ⊢
 split at e
 ·cases e
 ·rename_i h;rw[if_neg h];exact s b o e
theorem yla{H:Hp}{L L':List Addr}(h:∀b∈L,b∈L'):Same (ybh H L') (ybh H L):=λb o e=>by
 unfold ybh at e ⊢
 split at e
 ·cases e
 ·rename_i hn;rw[if_neg λz=>hn (h b z)];exact e
theorem qlt{H:Hp}{L:List Addr}{p:Addr}{o:HO}(h:p∈L):ybh (upd H p o) L=ybh H L:=by
 funext b
 unfold ybh
 by_cases hb:b∈L
 ·rw[if_pos hb,if_pos hb]
 ·rw[if_neg hb,if_neg hb,qag]
  rintro rfl
  exact hb h
def Bld(L:List Addr)(H:Hp)(l:Addr)(ds:List PyData):Prop:=∃us,H l=some (.lst us)/\AtAll (ybh H (l::L)) us ds
theorem Bld.new{L:List Addr}{H:Hp}{l:Addr}:Bld L (upd H l (.lst [])) l []:=⟨[],yaa,.nil⟩
theorem Bld.grow{L:List Addr}{H H':Hp}{l:Addr}{ds:List PyData}(b:Bld L H l ds)(s:Same H H'):Bld L H' l ds:=by
 obtain ⟨us,h1,h2⟩:=b
 exact ⟨us,s _ _ h1,h2.same (qbs s _)⟩
theorem Bld.push{L:List Addr}{H:Hp}{l:Addr}{ds:List PyData}{us:List V}{v:V}{d:PyData}(b:Bld L H l ds)(hu:H l=some (.lst us))(h:At (ybh H (l::L)) v d):Bld L (upd H l (.lst (us++[v]))) l (ds++[d]):=by
 obtain ⟨us',h1,h2⟩:=b
 rw[hu]at h1;cases h1
 refine ⟨_,yaa,?_⟩
 rw[qlt mem_cons_self]
 exact h2.snoc h
theorem Bld.len{L:List Addr}{H:Hp}{l:Addr}{ds:List PyData}{us:List V}(b:Bld L H l ds)(hu:H l=some (.lst us)):us.length=ds.length:=by
 obtain ⟨us',h1,h2⟩:=b
 rw[hu]at h1;cases h1
 exact h2.length
theorem Bld.at{L:List Addr}{H:Hp}{l:Addr}{ds:List PyData}(b:Bld L H l ds)(h:l∉L):At (ybh H L) (.ref l) (.list ds):=by
 obtain ⟨us,h1,h2⟩:=b
 exact .lst (by rw[yb4 h];exact h1) (h2.same (yla λb hb=>mem_cons_of_mem _ hb))
theorem Bld.out{H:Hp}{l:Addr}{ds:List PyData}(b:Bld [] H l ds):At H (.ref l) (.list ds):=(b.at (by simp)).same (qa1 _ _)
theorem qil{n:Nat}(h:n<=100000):n<=sizeLine:=le_trans h (by decide)
theorem ybe{n:Nat}(h:n<=100000):n<sizeLine:=Nat.lt_of_le_of_lt h (by decide)
theorem yaq{α:Type}{xs:List α}{i:Int}{v:α}(j:Nat)(h:xs[j]?=some v)(e:i=(j:Int):=by rfl):atI xs i=some v:=by
 rw[e];exact qbj h
theorem ylw{α:Type}{xs:List α}{i:Int}{v:α}(h0:0<=i)(h:xs[i.toNat]?=some v):atI xs i=some v:=by
 have e:((i.toNat:Nat):Int)=i:=Int.toNat_of_nonneg h0
 rw[<-e];exact qbj h
theorem yby{J:It}{n:Nat}{g:TG}{tt:TT}{te:TE}{ix:List (Option Nat)}{σ:St}{H:Hp}{QD:Hp->Prop}{D:Addr}(Pv:Nat->Hp->Prop)(h0:Pv 0 (upd H D (.lst [])))(stop:∀H',Pv n H'->J.stop n H'/\QD H')
  (step:∀i H',i<n->Pv i H'->J.go i H'/\∀x H2,J.yld i H' x H2->g x (capS ix σ) H2 λσ2 H3=>qa4 (capS ix σ) σ2/\tt σ2 H3 λb H4=>
   if b=true then te σ2 H4 λv H5=>∃ys,H5 D=some (.lst ys)/\ys.length<sizeLine/\Pv (i+1) (upd H5 D (.lst (ys++[v]))) else Pv (i+1) H4) :
  ∃W:Nat->Nat->Hp->Prop,(∃m,W 0 m (upd H D (.lst [])))/\∀i m H,W i m H->
   (J.stop i H/\QD H)\/(J.go i H/\∃N:Hp->Prop,(∀H',N H'->∃m',m' < m/\W (i+1) m' H')/\∀x H',J.yld i H x H'->g x (capS ix σ) H' λσ2 H2=>qa4 (capS ix σ) σ2/\tt σ2 H2 λb H3=>
    if b=true then te σ2 H3 λv H4=>∃ys,H4 D=some (.lst ys)/\ys.length<sizeLine/\N (upd H4 D (.lst (ys++[v]))) else N H3):=by
 refine ⟨λi m H=>m=n-i/\i<=n/\Pv i H,⟨n,by simp,zero_le _,h0⟩,?_⟩
 rintro i m H ⟨rfl,hi,p⟩
 by_cases hlt:i<n
 ·obtain ⟨g1,g2⟩:=step i H hlt p
  exact .inr ⟨g1,Pv (i+1),λH' p'=>⟨n-(i+1),by omega,rfl,hlt,p'⟩,g2⟩
 ·have e:i=n:=by omega
  subst e
  exact .inl (stop H p)
theorem qjn{xs:List V}(k:Nat):cutV xs none (some (k:Int))=xs.take k:=by
 unfold cutV
 rw[HT.sIx_none,HT.sIx_nat,List.drop_zero,Nat.sub_zero]
 by_cases h:k<=xs.length
 ·rw[Nat.min_eq_left h]
 ·rw[Nat.min_eq_right (by omega),take_length,take_of_length_le (by omega)]
theorem qec{xs:List V}(k:Nat):cutV xs (some (k:Int)) none=xs.drop k:=by
 unfold cutV
 rw[HT.sIx_none,HT.sIx_nat]
 by_cases h:k<=xs.length
 ·rw[Nat.min_eq_left h]
  exact take_of_length_le (by rw[length_drop];exact le_refl _)
 ·rw[Nat.min_eq_right (by omega),List.drop_eq_nil_of_le (show xs.length<=k by omega),List.drop_length];simp
theorem yes{σ:St}{H:Hp}{A B:Hp->Prop}(h:A H):tYes σ H λb H'=>if b=true then A H' else B H':=iteT (B:=B H) h
section
variable {X:Cx}{K:W.Frag}
theorem ix_listK(h:X.K=K):IxR X (rIxL K):=h ▸ qal
theorem qie(h:X.K=K):IxR X (rIxT K):=h ▸ yam
theorem ygb(h:X.K=K):OpR X (compareOp .In) (rIn K false):=h ▸ ybw
theorem yhe(h:X.K=K):OpR X (compareOp .NotIn) (rIn K true):=h ▸ qh3
theorem qel{es:List Expr}{k:Nat}{t:TGs}{n:Nat}{pos:Pos}(h:X.K=K)(hc:X.calm=true)(hh:PGs X es t)
  (hn:(assignEach es X.env).length=n:=by rfl) (hst:(assignEach es X.env).findIdx? (·.1)=none:=by rfl):PG X (.Tuple es k pos) (gTup K n t):=by
 subst h;exact qcs hc hh hn hst
end
def rEqD:R2:=λx y H Q=>∃dx dy,At H x dx/\At H y dy/\dx.canLay0=true/\dy.canLay0=true/\dx.depth<=60/\Q (.bl (PyData.eqv dx dy)) H
def rNeD:R2:=λx y H Q=>∃dx dy,At H x dx/\At H y dy/\dx.canLay0=true/\dy.canLay0=true/\dx.depth<=60/\Q (.bl (!PyData.eqv dx dy)) H
section
variable {X:Cx}
theorem op_eqD{k:Nat}(hr:Room k X.A):OpR X (compareOp .Eq) rEqD:=by
 intro pins s σ H x y v u Q I rx ry h
 obtain ⟨dx,dy,h1,h2,c1,c2,hd,q⟩:=h
 obtain ⟨as,r1⟩:=h1.reads I.hok rx
 obtain ⟨bs,r2⟩:=h2.reads I.hok ry
 have hu:=hr.units
 exact PySem.SeqAt.rcAt_reads r1 r2 c1 c2 (by have:=Nat.min_le_left dx.depth dy.depth;omega) _ _ _ _ ⟨.bl _,H,I,rfl,q⟩
theorem op_neD{k:Nat}(hr:Room k X.A):OpR X (compareOp .NotEq) rNeD:=by
 intro pins s σ H x y v u Q I rx ry h
 obtain ⟨dx,dy,h1,h2,c1,c2,hd,q⟩:=h
 obtain ⟨as,r1⟩:=h1.reads I.hok rx
 obtain ⟨bs,r2⟩:=h2.reads I.hok ry
 have hu:=hr.units
 exact PySem.SeqAt.rcNeAt_reads r1 r2 c1 c2 (by have:=Nat.min_le_left dx.depth dy.depth;omega) _ _ _ _ ⟨.bl _,H,I,rfl,q⟩
end
theorem yct{n:Nat}:∀{xs:List PyData},(∀x∈xs,x.depth<=n)->PyData.depthAll xs<=n
 |[],_=>by simp[PyData.depthAll]
 |x::xs,h=>by
  have h1:=h x mem_cons_self
  have h2:=yct (xs:=xs) λy hy=>h y (mem_cons_of_mem _ hy)
  simp only[PyData.depthAll]
  omega
theorem yef{n:Nat}:∀{xs:List PyData},(∀x∈xs,x.bulk<=n)->PyData.bulkAll xs<=(n+1)*xs.length
 |[],_=>by simp[PyData.bulkAll]
 |x::xs,h=>by
  have h1:=h x mem_cons_self
  have h2:=yef (xs:=xs) λy hy=>h y (mem_cons_of_mem _ hy)
  simp only[PyData.bulkAll,length_cons,Nat.mul_add]
  omega
theorem qd1{B:Nat}:∀{xs:List PyData},(∀x∈xs,x.leavesShort B=true)->PyData.leavesShortAll B xs=true
 |[],_=>by simp[PyData.leavesShortAll]
 |x::xs,h=>by
  simp only[PyData.leavesShortAll,h x mem_cons_self,qd1 (xs:=xs) λy hy=>h y (mem_cons_of_mem _ hy),Bool.and_self]
theorem ymo(ns:List Int)(lo hi:Option Int):cutV (ns.map V.int) lo hi=((ns.drop (HT.sIx ns.length 0 lo)).take (HT.sIx ns.length ns.length hi-HT.sIx ns.length 0 lo)).map V.int:=by
 unfold cutV
 rw[length_map,<-map_drop,<-List.map_take]
end L2
namespace L2
open PySem PySem.Spec PyProof.Rows PySem.W
abbrev bmV:List Value:=[.type "ValueError",.type "Exception",.type "BaseException",.type "object"]
def ye0(K:W.Frag)(C:Addr):Bool:=match K.lookup C with
 |some ⟨.type "type",_,.cls cd,sl⟩=>(match cd.mro,sl.toList with
  |.ref D::bm,[_,_,_,_,some (.builtin n),_]=>D == C&&n == "ValueError.__new__" && !cd.hasDel&&cd.hasDict&&W.tailIn K bmV bm
  |_,_=>false)
 |_=>false
theorem qem{K:W.Frag}{h:Heap}{C:Addr}(X:K.In h)(q:ye0 K C=true):∃nm qn N bs bm sn sub ab col dd k0 k1 k2 k3 k5,
  h.get? C=some (excClassObj nm qn C N bs bm true sn sub ab col dd k0 k1 k2 k3 k5 "ValueError.__new__")/\OwnTail h bmV bm:=by
 unfold ye0 at q
 split at q
 ·rename_i dd cd sl ho
  split at q
  ·rename_i D bm k0 k1 k2 k3 n k5 hm hs
   simp only[Bool.and_eq_true,beq_iff_eq,Bool.not_eq_true']at q
   obtain ⟨⟨⟨⟨rfl,rfl⟩,hdel⟩,hdi⟩,ht⟩:=q
   obtain ⟨nm,bs,mro,ns,qn,hd,sn,sub,ab,col,del⟩:=cd
   dsimp only at hm hdel hdi
   subst hm hdel hdi
   obtain ⟨l⟩:=sl
   simp only at hs
   subst hs
   exact ⟨nm,qn,ns,bs,bm,sn,sub,ab,col,dd,k0,k1,k2,k3,k5,X _ _ ho,tail_of_in X ht⟩
  ·cases q
 ·cases q
section
variable {prog:Program}{w:World}{A:Around}{E:Value->Shared->Prop}{h:Heap}{g:Array GenState}{d:Drawn}{t:Nat}{os:OsState}{K:W.Frag}{C fI:Addr}
theorem yhp{rest:List Value}{Q:Fin->Shared->Prop}(X:K.In h)(cx:ye0 K C=true)(hi:W.findIn K (.ref C) "__init__"=some (some (.ref fI)))(hf:W.isFn K (.ref fI)=true)
  (hq:∀h' e,Heap.MadeExcOf h h' e (.ref C) rest->wpAny (model prog w) A (call (.ref fI) (.ref e::rest)) (λr s'=>r=.none/\Q (.done (.ret (.ref e))) s') E ⟨h',g,d,t,os⟩) (hrest:rest.length<=sizeLine) :
  wpAny (model prog w) A (Builtin.«type.__call__» ⟨.ref C::rest,[]⟩) Q E ⟨h,g,d,t,os⟩:=by
 obtain ⟨nm,qn,N,bs,bm,sn,sub,ab,col,dd,k0,k1,k2,k3,k5,cC,T⟩:=qem X cx
 repeat (first|with_reducible refine wpAny_loadPart_at cC ?_|with_reducible refine wpAny_madeBy_exc cC ?_|wp_step)
 refine codeAny_call_builtin_code (Code.quiet_builtin _ PySem.F.excBase_ValueError.quiet) (wpAny_check_new_subU PySem.F.excBase_ValueError PySem.F.excBase_ValueError.hasB T cC ?_)
 refine codeAny_exc_new_subU PySem.F.excBase_ValueError PySem.F.excBase_ValueError.hasB PySem.F.excBase_ValueError T cC ?_ hrest
 show wpAny _ _ _ _ _ _
 generalize hp1:h.push { cls:=.type "tuple",data:=.seq rest.toArray }=h1
 have kp1:∀b o,h.get? b=some o->h1.get? b=some o:=λb o e=>by rw[<-hp1];exact get?_push_of_some _ e
 have tp1:h1.get? h.objs.size=some { cls:=.type "tuple",data:=.seq rest.toArray }:=by rw[<-hp1];exact Heap.get?_push_at rfl rfl
 have sz1:h1.objs.size=h.objs.size+1:=by rw[<-hp1,size_push]
 generalize hp2:h1.push { cls:=.ref C,data:=.fields #[.ref h.objs.size,.none,.none,.none,.bool false,.none] }=h2
 have kp2:∀b o,h.get? b=some o->h2.get? b=some o:=λb o e=>by rw[<-hp2];exact get?_push_of_some _ (kp1 b o e)
 have tp2:h2.get? h.objs.size=some { cls:=.type "tuple",data:=.seq rest.toArray }:=by rw[<-hp2];exact get?_push_of_some _ tp1
 have ge2:h2.get? (h.objs.size+1)=some { cls:=.ref C,data:=.fields #[.ref h.objs.size,.none,.none,.none,.bool false,.none] }:=by rw[<-hp2,<-sz1];exact get?_push_size _ rfl
 have X2:K.In h2:=X.keeps kp2
 have cC2:=kp2 _ _ cC
 have hcC:(Value.ref C::bm).contains (.ref C)=true:=by simp
 unfold isInstance
 repeat (first|with_reducible refine wpAny_loadPart_at ge2 ?_|(with_reducible refine wpAny_isSubtype_exc cC2 ?_;rw[hcC])|wp_step)
 show wpAny _ _ (typeLookup (.ref C) _) _ _ _
 refine (looks_findIn X2 hi).here ?_
 refine wpAny_holding (wpAny_bind ((bind_fn X2 (.ref (h.objs.size+1)) (beq_iff_eq.mp hf)).here ?_))
 refine wpAny_bind (wpAny_mono (hq h2 (h.objs.size+1) ⟨kp2,Heap.get?_none_of_le (le_succ _),h.objs.size,ge2,Heap.get?_none_of_le (le_refl _),tp2⟩) (λr s' hr=>?_) λ_ _ z=>z)
 obtain ⟨rfl,hQ⟩:=hr
 wp_walk
 exact hQ
theorem xc_call{rest:List Value}{Q:Value->Shared->Prop}(X:K.In h)(cx:ye0 K C=true)(hi:W.findIn K (.ref C) "__init__"=some (some (.ref fI)))(hf:W.isFn K (.ref fI)=true)
  (hq:∀h' e,Heap.MadeExcOf h h' e (.ref C) rest->wpAny (model prog w) (A.under (.builtin "type.__call__" ⟨.ref C::rest,[]⟩)) (call (.ref fI) (.ref e::rest)) (λr s'=>r=.none/\Q (.ref e) s') E ⟨h',g,d,t,os⟩) (hrest:rest.length<=sizeLine) :
  wpAny (model prog w) A (call (.ref C) rest) Q E ⟨h,g,d,t,os⟩:=by
 obtain ⟨nm,qn,N,bs,bm,sn,sub,ab,col,dd,k0,k1,k2,k3,k5,cC,T⟩:=qem X cx
 have g1:=tc_lookup
 have g2:=tc_bind (.ref C)
 have gT:(⟨h,g,d,t,os⟩:Shared).TypeIs (.ref C) "type":=⟨_,cC,rfl⟩
 refine wpAny_call (codeAny_of_tree ?_)
 show wpAny _ _ (callAny (.ref C) _) _ _ _
 repeat (any_goals (first|assumption|with_reducible refine wpAny_loadPart_at cC ?_|wp_step))
 refine ⟨rfl,codeAny_call_builtin_at (Code.quiet_builtin _ (by decide +kernel)) entry_typeCall (wpAny_check_type_call_sub cC (yhp X cx hi hf (λh' e hm=>hq h' e hm) hrest))⟩
theorem xc_call0{rest:List Value}{Q:Value->Shared->Prop}(X:K.In h)(q:W.excIn K C bmV "ValueError.__new__"=true)(hq:∀h' e,Heap.MadeExcOf h h' e (.ref C) rest->Q (.ref e) ⟨h',g,d,t,os⟩)(hrest:rest.length<=sizeLine) :
  wpAny (model prog w) A (call (.ref C) rest) Q E ⟨h,g,d,t,os⟩:=by
 unfold W.excIn at q
 split at q
 ·rename_i dd cd sl ho
  split at q
  ·rename_i C' bm k0 k1 k2 k3 n k5 hm hs
   simp only[Bool.and_eq_true,beq_iff_eq,Bool.not_eq_true']at q
   obtain ⟨⟨⟨⟨⟨rfl,rfl⟩,hdel⟩,ht⟩,hok⟩,hni⟩:=q
   obtain ⟨nm,bs,mro,ns,qn,hd,sn,sub,ab,col,del⟩:=cd
   dsimp only at hm hdel hok hni
   subst hm hdel
   obtain ⟨l⟩:=sl
   simp only at hs
   subst hs
   exact wpAny_call_exc_subU PySem.F.excBase_ValueError PySem.F.excBase_ValueError.hasB PySem.F.excBase_ValueError (tail_of_in X ht) (X _ _ ho) (.of_isNs (isNs_of_in X hok)) (nsMap_none_of_in X hok hni) hq hrest
  ·cases q
 ·cases q
end
theorem qi2{h:Heap}{bm:List Value}(T:OwnTail h bmV bm)(self:Value):refuseLoop self "__setattr__" bm=pure ():=by
 induction T with
 |base=>exact PySem.F.store_ValueError.passes self
 |own _ _ _ _ ih=>rw[refuseLoop_ref];exact ih
section
variable {prog:Program}{w:World}{A:Around}{E:Value->Shared->Prop}{h:Heap}{g:Array GenState}{d:Drawn}{t:Nat}{os:OsState}{K:W.Frag}{C x:Addr}{mA:Str->Option Value}{name:Str}{v:Value}
theorem qi9{M:Model}{o:Obj}{nameV:Value}{Q:Unit->Shared->Prop}(X:K.In h)(cx:ye0 K C=true)(hx:h.get? x=some o)(hc:o.cls=.ref C)(hq:Q () ⟨h,g,d,t,os⟩) :
  wpAny M A (checkBuiltinCall "object.__setattr__" ⟨[.ref x,nameV,v],[]⟩) Q E ⟨h,g,d,t,os⟩:=by
 obtain ⟨nm,qn,N,bs,bm,sn,sub,ab,col,dd,k0,k1,k2,k3,k5,cC,T⟩:=qem X cx
 have SF:=PySem.F.store_ValueError
 have hob:(Value.ref C::bm).contains (.type "object")=true:=by rw[List.contains_cons,T.hasType SF.hasOwner,Bool.or_true]
 have hargs:=SF.args (.ref x) nameV v
 simp only[checkBuiltinCall,SF.kind,SF.split]
 refine wpAny_bind ?_
 unfold isInstance
 repeat (first|(with_reducible refine wpAny_loadPart_at hx ?_;rw[hc])|(with_reducible refine wpAny_isSubtype_exc cC ?_;rw[hob])|wp_step)
 exact hq
theorem yf6{tk:Tok}{Q:Fin->Shared->Prop}{ns:List Str}(X:K.In h)(cx:ye0 K C=true)(hna:W.findIn K (.ref C) name=some none)(I:h.Inst x C mA)
  (hq:∀h' tk',h'.Inst x C (λy=>if y=name then some v else mA y)->
   (∀b o,b≠x->(∀o0 dx,h.get? x=some o0->o0.dict=some dx->b≠dx)->h.get? b=some o->h'.get? b=some o)->
   (∀o0,h.get? x=some o0->∃o1,h'.get? x=some o1/\o1.cls=o0.cls/\o1.data=o0.data/\(∀dx,o0.dict=some dx->o1.dict=some dx)/\(o0.dict=none->o1.dict=some h.objs.size))->Q (.done (.ret .none)) ⟨h',g,d,tk',os⟩)
  (hw:Within mA ns) (hsz:ns.length+1<=sizeLine) :
  wpAny (model prog w) A (Builtin.«object.__setattr__» ⟨[.ref x,.str name tk,v],[]⟩) Q E ⟨h,g,d,t,os⟩:=by
 obtain ⟨nm,qn,N,bs,bm,sn,sub,ab,col,dd,k0,k1,k2,k3,k5,cC,T⟩:=qem X cx
 obtain ⟨o,hx,hc,hnc,hd⟩:=I
 have hpass:=qi2 T (.ref x)
 unfold Builtin.«object.__setattr__»
 repeat (first|rw[refuse_eq]|(rw[refuseLoop_ref,hpass])|(with_reducible refine wpAny_loadPart_at hx ?_;rw[hc])|with_reducible refine wpAny_mroOf_exc cC ?_|with_reducible refine (looks_findIn X hna).here ?_|wp_step)
 have put:∀(dx:Addr) (h1:Heap) (mB:Str->Option Value) (ms:List Str),h1.Ns1 dx mB->Within mB ms->ms.length+1<=sizeLine->
   (∀h' tk',h'.Ns1 dx (λy=>if y=name then some v else mB y)->Heap.SameBut dx h1 h'->Q (.done (.ret .none)) ⟨h',g,d,tk',os⟩)->
   wpAny (model prog w) A (Builtin.ObjectAttr.storeInDict dx (.str name tk) name v) Q E ⟨h1,g,d,t,os⟩:=λdx h1 mB ms n1 wi le fin=>by
  unfold Builtin.ObjectAttr.storeInDict Builtin.ObjectAttr.newKeyGuard
  refine wpAny_bind (wpAny_pure (wpAny_bind (wpAny_nsSet1 n1 λh' n2 sb=>?_)))
  obtain ⟨oD,eD,pD,oE,dE,cE⟩:=n2.count (Within.cons name v wi)
  refine wpAny_bind (wpAny_lookBehind oE (by rw[dE];exact pastItsLine_dict (le_trans cE (by rw[length_cons];omega))) ?_)
  wp_walk
  exact fin h' _ n2 sb
 rcases hd with ⟨hdn,hmA⟩|⟨dx,hdx,hne,hns⟩
 ·rw[hdn]
  have hif:¬ ((!true || !typeHasDict (Value.ref C))=true):=by simp[typeHasDict]
  show wpAny _ _ (if (!true || !typeHasDict (Value.ref C))=true then _ else _) _ _ _
  rw[if_neg hif]
  have hxs:x≠h.objs.size:=ne_of_lt (lt_size hx)
  have px:(h.push { cls:=.type "dict",data:=.dict #[] }).get? x=some o:=get?_push_of_some _ hx
  split
  ·rename_i c hcd
   exact absurd hcd (hnc c)
  ·refine wpAny_bind (wpAny_alloc' (wpAny_bind (wpAny_update' px (wpAny_pure ?_))))
   have dg:((h.push { cls:=.type "dict",data:=.dict #[] }).update x λo=>{ cls:=o.cls,dict:=some h.objs.size,data:=o.data,slots:=o.slots }).get? h.objs.size=some { cls:=.type "dict",data:=.dict #[] }:=
    (Heap.get?_update_ne _ _ _ _ hxs.symm).trans (Heap.get?_push_at rfl rfl)
   have dn:((h.push { cls:=.type "dict",data:=.dict #[] }).update x λo=>{ cls:=o.cls,dict:=some h.objs.size,data:=o.data,slots:=o.slots }).Ns h.objs.size (λ_=>none):=
    ⟨_,#[],_,dg,rfl,(by intro e he;exact absurd he (by simp)),λ_=>rfl⟩
   refine put h.objs.size _ _ [] (Heap.Ns1.of_empty dn) Within.nil (by rw[sizeLine_eq];decide) λh' tk' n2 sb=>?_
   have gx:h'.get? x=some { cls:=o.cls,dict:=some h.objs.size,data:=o.data,slots:=o.slots }:=by
    refine (sb.2 x hxs).trans (get?_update_self _ px ?_)
    have fr:=(Heap.get?_some_iff.mp hx).2
    obtain ⟨oc,od,odt,osl⟩:=o
    cases odt<;>first|rfl|exact fr
   refine hq h' tk' ⟨_,gx,hc,hnc,.inr ⟨h.objs.size,rfl,hxs.symm,?_⟩⟩ (λb ob hbx _ hb=>?_) (λo0 e0=>?_)
   ·have em:(λy=>if y=name then some v else mA y)=(λy=>if y=name then some v else (none:Option Value)):=by
     funext y
     by_cases hy:y=name
     ·simp[hy]
     ·simp[hy,hmA y]
    rw[em];exact n2
   ·exact (sb.2 b (ne_of_lt (lt_size hb))).trans ((Heap.get?_update_ne _ _ _ _ hbx).trans (get?_push_of_some _ hb))
   ·rw[hx]at e0;cases e0
    exact ⟨_,gx,rfl,rfl,(by intro dx e;rw[hdn]at e;cases e),λ_=>rfl⟩
 ·rw[hdx]
  refine wpAny_pure ?_
  refine put dx h mA ns hns hw hsz λh' tk' n2 sb=>?_
  refine hq h' tk' ⟨o,(sb.2 x hne.symm).trans hx,hc,hnc,.inr ⟨dx,hdx,hne,n2⟩⟩ (λb ob _ hbd hb=>(sb.2 b (hbd o dx hx hdx)).trans hb) (λo0 e0=>⟨o0,(sb.2 x hne.symm).trans e0,rfl,rfl,λ_ e=>e,λe=>?_⟩)
  rw[hx]at e0;cases e0
  rw[hdx]at e;cases e
theorem xc_store{Q:Unit->Shared->Prop}{ns:List Str}(X:K.In h)(cx:ye0 K C=true)(hsa:W.findIn K (.ref C) "__setattr__"=some (some (.builtin "object.__setattr__")))(hna:W.findIn K (.ref C) name=some none)(I:h.Inst x C mA)
  (hq:∀h' tk',h'.Inst x C (λy=>if y=name then some v else mA y)->
   (∀b o,b≠x->(∀o0 dx,h.get? x=some o0->o0.dict=some dx->b≠dx)->h.get? b=some o->h'.get? b=some o)->
   (∀o0,h.get? x=some o0->∃o1,h'.get? x=some o1/\o1.cls=o0.cls/\o1.data=o0.data/\(∀dx,o0.dict=some dx->o1.dict=some dx)/\(o0.dict=none->o1.dict=some h.objs.size))->Q () ⟨h',g,d,tk',os⟩)
  (hw:Within mA ns) (hsz:ns.length+1<=sizeLine):wpAny (model prog w) A (setAttr (.ref x) name v) Q E ⟨h,g,d,t,os⟩:=by
 obtain ⟨o,hx,hc,_⟩:=id I
 have SF:=PySem.F.store_ValueError
 have b3:=SF.slot.bind (.ref x)
 unfold setAttr callSpecial? specialOf
 repeat (any_goals (first|assumption|(with_reducible refine wpAny_loadPart_at hx ?_;rw[hc])|with_reducible refine (looks_findIn X hsa).here ?_|wp_step))
 refine codeAny_call_builtin SF.slot.plain SF.entry (qi9 X cx hx hc (yf6 X cx hna I (λh' tk' I' hk hsame=>?_) hw hsz))
 repeat (any_goals (first|assumption|wp_step))
 exact hq h' tk' I' hk hsame
theorem yix{M:Model}{o:Obj}{nameV:Value}{Q:Unit->Shared->Prop}(X:K.In h)(cx:ye0 K C=true)(hx:h.get? x=some o)(hc:o.cls=.ref C)(hq:Q () ⟨h,g,d,t,os⟩) :
  wpAny M A (checkBuiltinCall "BaseException.__getattribute__" ⟨[.ref x,nameV],[]⟩) Q E ⟨h,g,d,t,os⟩:=by
 obtain ⟨nm,qn,N,bs,bm,sn,sub,ab,col,dd,k0,k1,k2,k3,k5,cC,T⟩:=qem X cx
 have kd:builtinKind "BaseException.__getattribute__"=some .slot:=by decide +kernel
 have sp:splitId "BaseException.__getattribute__"=some ("BaseException","__getattribute__"):=by decide +kernel
 have hob:(Value.ref C::bm).contains (.type "BaseException")=true:=by rw[List.contains_cons,T.hasType PySem.F.excBase_ValueError.hasBase];rfl
 have ar:=PySem.F.args_bexc_ga (.ref x) nameV
 simp only[checkBuiltinCall,kd,sp]
 refine wpAny_bind ?_
 unfold isInstance
 repeat (first|(with_reducible refine wpAny_loadPart_at hx ?_;rw[hc])|(with_reducible refine wpAny_isSubtype_exc cC ?_;rw[hob])|wp_step)
 exact hq
end
structure XTy(K:W.Frag)(C:Addr):Prop where
 cx:ye0 K C=true
 ga:W.findIn K (.ref C) "__getattribute__"=some (some (.builtin "BaseException.__getattribute__"))
 gh:W.findIn K (.ref C) "__getattr__"=some none
 hc:(W.clsIn K C).isSome=true
 ha:W.findIn K (.ref C) "__class__"=some (some (.builtin "object.__class__"))
 hn:W.specialIn K (.builtin "object.__class__") "__get__"=some (some (.builtin "getset_descriptor.__get__"))
 tk:W.takesIn K (.builtin "object.__class__")=some true
 hm:W.mroIn K C (.type "object")=some true
section
variable {prog:Program}{w:World}{A:Around}{E:Value->Shared->Prop}{s:Shared}{K:W.Frag}{x C:Addr}{ox:Obj}{od:Option Obj}
theorem XTy.find(T:XTy K C):W.findObj K C od "__class__"=some (.bind (.builtin "getset_descriptor.__get__") (.builtin "object.__class__")):=by
 obtain ⟨cd,hc⟩:=Option.isSome_iff_exists.mp T.hc
 unfold W.findObj
 rw[hc,Option.bind_some,T.ha,Option.bind_some]
 simp[T.hn,T.tk]
theorem xc_class{Q:Option Value->Shared->Prop}(X:K.In s.heap)(T:XTy K C)(I:W.InstAt s.heap x ox C od)(q:Q (some (.ref C)) { s with toks:=s.toks+1 }):wpAny (model prog w) A (getAttr? (.ref x) "__class__") Q E s:=by
 obtain ⟨h,g,d,t,os⟩:=s
 replace X:K.In h:=X
 replace I:W.InstAt h x ox C od:=I
 have FV:=PySem.F.excAttr_ValueError
 have q3:=FV.ga.bind (.ref x)
 have e0:(false&&onTheHeap (Value.builtin "BaseException.__getattribute__"))=false:=rfl
 have hx:=I.at_
 have hc:=I.cls
 have e2:(Value.builtin "BaseException.__getattribute__" == Value.builtin "object.__getattribute__")=false:=by decide +kernel
 have e1:(onTheHeap (Value.ref C)&&Value.builtin "BaseException.__getattribute__" == Value.builtin "object.__getattribute__")=false:=by rw[e2];rfl
 unfold getAttr? getAttrBy? getAttrBy
 repeat (any_goals (first|assumption|(with_reducible refine wpAny_loadPart_at hx ?_;rw[hc])|with_reducible refine (looks_findIn X T.ga).here ?_|with_reducible refine (looks_findIn X T.gh).here ?_|wp_step))
 refine codeAny_call_builtin FV.ga.plain PySem.F.entry_bexc_ga (yix X T.cx hx hc ?_)
 unfold Builtin.«object.__getattribute__»
 repeat (any_goals (first|assumption|(with_reducible refine wpAny_loadPart_at hx ?_;rw[hc])|with_reducible refine (looks_find X I T.find).here ?_|wp_step))
 refine class_get (s:=⟨h,g,d,t+1,os⟩) X I T.hm ?_
 show wpAny _ _ (ret (.ref C)) _ _ _
 refine wpAny_pure ?_
 show wpAny _ _ (handedOut (.ref C)) _ _ _
 exact handed_on rfl (wpAny_pure q)
theorem qlk(T:XTy K C):KitX K (.ref x) (.ref C) (λh=>∃ox od,W.InstAt h x ox C od) where
 ty:=λ_ _ _ ⟨_,_,I⟩=>I.type
 it:=λ_ _ X _=>by
  obtain ⟨cd,hc⟩:=Option.isSome_iff_exists.mp T.hc
  unfold W.clsIn at hc
  split at hc
  ·rename_i c' d' cd' sl' ho
   intro A' Q' E' s' k q
   unfold isType loadHead
   exact wpAny_bind (wpAny_loadPart (k _ _ (X _ _ ho)) (wpAny_pure q))
  ·cases hc
 ne:=λh tp dd its n sl X htp=>by
  obtain ⟨cd,hc⟩:=Option.isSome_iff_exists.mp T.hc
  refine Bool.eq_false_iff.mpr λq=>?_
  have e:C=tp:=Value.ref.inj (beq_iff_eq.mp q)
  subst e
  unfold W.clsIn at hc
  split at hc
  ·rename_i c' d' cd' sl' ho
   have z:=(X _ _ ho).symm.trans htp
   cases z
  ·cases hc
 ca:=λX ⟨_,_,I⟩ k=>xc_class X T I k
end
section
variable {X:Cx}{pins:List (Addr×Obj)}{σ:St}{H:Hp}{s:Shared}{h':Heap}{a d:Addr}{oA oD:HO}
theorem Inv.two{t':Nat}(I:Inv X pins σ H s)(ma:Mut (H a))(md:Mut (H d)\/s.heap.objs.size<=d)(hne:d≠a)(k:∀b u,b≠a->b≠d->s.heap.get? b=some u->h'.get? b=some u)(ta:∃u,h'.get? a=some u)(td:∃u,h'.get? d=some u)
  (na:yay X.prog X.w (upd (upd H d oD) a oA) h' a oA) (nd:yay X.prog X.w (upd (upd H d oD) a oA) h' d oD):Inv X pins σ (upd (upd H d oD) a oA) { s with heap:=h',toks:=t' }:=by
 have up:∀b,b≠a->b≠d->upd (upd H d oD) a oA b=H b:=λb h1 h2=>by rw[qag h1,qag h2]
 have na0:∀b,H b=none->b≠a:=λb n z=>by subst z;rw[n]at ma;exact ma
 have nd0:∀b u,s.heap.get? b=some u->H b=none->b≠d:=λb u e n z=>by
  subst z
  rcases md with md|md
  ·rw[n]at md;exact md
  ·exact absurd (lt_of_lt_of_le (lt_size e) md) (lt_irrefl _)
 have ms:∀b u,H b=some u->¬ Mut (some u)->b≠a/\b≠d:=λb u e nm=>by
  refine ⟨?_,?_⟩
  ·rintro rfl;rw[e]at ma;exact nm ma
  ·rintro rfl
   rcases md with md|md
   ·rw[e]at md;exact nm md
   ·have:=I.hok.fresh md;rw[e]at this;cases this
 refine I.un ⟨λb u e n _ _=>k b u (na0 b n) (nd0 b u e n) e,λb u e n _ _=>⟨u.slots,k b u (na0 b n) (nd0 b u e n) e⟩,λb u e n _=>by rw[up b (na0 b n) (nd0 b u e n)];exact n,λb u e _=>?_,
  λb xs e=>?_,λb u xs e=>?_,λb ps e=>⟨#[],?_⟩⟩ (λb u e=>?_)
 ·by_cases h1:b=a
  ·subst h1;exact ta
  ·by_cases h2:b=d
   ·subst h2;exact td
   ·exact ⟨u,k b u h1 h2 e⟩
 ·obtain ⟨h1,h2⟩:=ms b _ e λz=>z
  rw[up b h1 h2];exact e
 ·obtain ⟨h1,h2⟩:=ms b _ e λz=>z
  rw[up b h1 h2];exact e
 ·obtain ⟨h1,h2⟩:=ms b _ e λz=>z
  rw[up b h1 h2,e];simp
 ·by_cases h1:b=a
  ·subst h1;rw[yaa]at e;cases e;exact na
  ·by_cases h2:b=d
   ·subst h2;rw[qag h1,yaa]at e;cases e;exact nd
   ·rw[up b h1 h2]at e
    refine (I.hok b u e).stay (λc v hc q=>?_) (λc q=>?_) λc xs q=>?_
    ·rcases hc with rfl|hc
     ·exact k _ _ h1 h2 q
     ·obtain ⟨h3,h4⟩:=ms c _ hc λz=>z
      exact k _ _ h3 h4 q
    ·obtain ⟨h3,h4⟩:=ms c _ q λz=>z
     rw[up c h3 h4];exact q
    ·obtain ⟨h3,h4⟩:=ms c _ q λz=>z
     rw[up c h3 h4];exact q
def ycj(a C:Addr)(dx:Option Addr):Heap->Prop:=λh=>∃o vs,h.get? a=some o/\o.cls=.ref C/\o.dict=dx/\o.data=.fields vs
def yb3(a C:Addr)(dx:Option Addr):Heap->Prop:=λh=>∃o vs,h.get? a=some o/\o.cls=.ref C/\o.dict=dx/\o.data=.fields vs/\vs[1]?=some .none
theorem yb3.q{a C:Addr}{dx:Option Addr}{h:Heap}(x:yb3 a C dx h):ycj a C dx h:=by
 obtain ⟨o,vs,e,c,d,dt,_⟩:=x
 exact ⟨o,vs,e,c,d,dt⟩
def qgs(a d:Addr)(fs:List (Str×V)):Heap->Prop:=λh=>d≠a/\fs.length<=100/\∃mA,h.Ns1 d mA/\(∀f,RelO (fs.lookup f) (mA f))/\PySem.Within mA (fs.map (·.1))
def XAt(H:Hp)(a C:Addr)(fs:List (Str×V)):Prop:=(fs=[]/\H a=some (.ext (yb3 a C none)))\/(∃d,H a=some (.ext (yb3 a C (some d)))/\H d=some (.ext (qgs a d fs)))\/
 (fs=[]/\H a=some (.ext (ycj a C none)))\/(∃d,H a=some (.ext (ycj a C (some d)))/\H d=some (.ext (qgs a d fs)))
theorem XAt.obj{P:Program}{w:World}{H:Hp}{h:Heap}{a C:Addr}{fs:List (Str×V)}(ok:HOk P w H h)(x:XAt H a C fs):(fs=[]/\ycj a C none h)\/∃d,ycj a C (some d) h/\qgs a d fs h:=by
 rcases x with ⟨e,h1⟩|⟨d,h1,h2⟩|⟨e,h1⟩|⟨d,h1,h2⟩
 ·exact .inl ⟨e,(ok a _ h1).1.q⟩
 ·exact .inr ⟨d,(ok a _ h1).1.q,(ok d _ h2).1⟩
 ·exact .inl ⟨e,(ok a _ h1).1⟩
 ·exact .inr ⟨d,(ok a _ h1).1,(ok d _ h2).1⟩
theorem qjp{P:Program}{w:World}{H:Hp}{h:Heap}{a C:Addr}{dx:Option Addr}(x:ycj a C dx h):yay P w H h a (.ext (ycj a C dx)):=by
 obtain ⟨o,vs,e,r⟩:=x
 exact ⟨⟨o,vs,e,r⟩,⟨o,e⟩,λh1 h2 ⟨o,vs,e,r⟩ k=>⟨o,vs,k o e,r⟩⟩
theorem qih{P:Program}{w:World}{H:Hp}{h:Heap}{a C:Addr}{dx:Option Addr}(x:yb3 a C dx h):yay P w H h a (.ext (yb3 a C dx)):=by
 obtain ⟨o,vs,e,r⟩:=x
 exact ⟨⟨o,vs,e,r⟩,⟨o,e⟩,λh1 h2 ⟨o,vs,e,r⟩ k=>⟨o,vs,k o e,r⟩⟩
theorem yme{P:Program}{w:World}{H:Hp}{h:Heap}{a d:Addr}{fs:List (Str×V)}(x:qgs a d fs h):yay P w H h d (.ext (qgs a d fs)):=by
 obtain ⟨n,l,mA,⟨o,es,ep,e,r⟩,r2⟩:=id x
 exact ⟨x,⟨o,e⟩,λh1 h2 ⟨n,l,mA,⟨o,es,ep,e,r⟩,r2⟩ k=>⟨n,l,mA,⟨o,es,ep,k o e,r⟩,r2⟩⟩
theorem XAt.inst{C:Addr}{fs:List (Str×V)}(x:XAt H a C fs)(I:Inv X pins σ H s):∃mA,s.heap.Inst a C mA/\(∀f,RelO (fs.lookup f) (mA f))/\PySem.Within mA (fs.map (·.1))/\fs.length<=100:=by
 rcases x.obj I.hok with ⟨rfl,o,vs,e,c,dn,dt⟩|⟨d,⟨o,vs,e,c,dn,dt⟩,n,l,mA,n1,r,wi⟩
 ·exact ⟨λ_=>none,⟨o,e,c,(by intro c z;rw[dt]at z;cases z),.inl ⟨dn,λ_=>rfl⟩⟩,λf=>trivial,PySem.Within.nil,by simp⟩
 ·exact ⟨mA,⟨o,e,c,(by intro c z;rw[dt]at z;cases z),.inr ⟨d,dn,n,n1⟩⟩,r,wi,l⟩
end
theorem XAt.same{H H':Hp}{a C:Addr}{fs:List (Str×V)}(s:∀b o,H b=some o->H' b=some o)(x:XAt H a C fs):XAt H' a C fs:=by
 rcases x with ⟨e,h1⟩|⟨d,h1,h2⟩|⟨e,h1⟩|⟨d,h1,h2⟩
 ·exact .inl ⟨e,s _ _ h1⟩
 ·exact .inr (.inl ⟨d,s _ _ h1,s _ _ h2⟩)
 ·exact .inr (.inr (.inl ⟨e,s _ _ h1⟩))
 ·exact .inr (.inr (.inr ⟨d,s _ _ h1,s _ _ h2⟩))
structure XOk(K:W.Frag)(C:Addr):Prop extends XTy K C where
 sa:W.findIn K (.ref C) "__setattr__"=some (some (.builtin "object.__setattr__"))
def NoF(K:W.Frag)(C:Addr)(f:Str):Prop:=W.findIn K (.ref C) f=some none
def XD(H:Hp)(a C:Addr)(dx:Option Addr)(fs:List (Str×V)):Prop:=(dx=none/\fs=[]/\H a=some (.ext (yb3 a C none)))\/∃d,dx=some d/\H a=some (.ext (yb3 a C (some d)))/\H d=some (.ext (qgs a d fs))
theorem XD.xat{H:Hp}{a C:Addr}{dx:Option Addr}{fs:List (Str×V)}(x:XD H a C dx fs):XAt H a C fs:=by
 rcases x with ⟨_,e,h⟩|⟨d,_,h1,h2⟩
 ·exact .inl ⟨e,h⟩
 ·exact .inr (.inl ⟨d,h1,h2⟩)
structure SetX(a d:Addr)(dx:Option Addr)(H H':Hp):Prop where
 dd:dx=some d\/(dx=none/\H d=none)
 kp:∀b o,H b=some o->b≠a->b≠d->H' b=some o
section
variable {X:Cx}{pins:List (Addr×Obj)}{σ:St}{H:Hp}{s:Shared}{a C:Addr}{dx:Option Addr}{fs:List (Str×V)}{f:Str}{v:V}{u:Value}
theorem qkt{d:Addr}{h':Heap}{mA:Str->Option Value}(hne:d≠a)(hl:fs.length<100)(n1:h'.Ns1 d λy=>if y=f then some u else mA y)(r:∀g,RelO (fs.lookup g) (mA g))(wi:PySem.Within mA (fs.map (·.1)))(rv:RelV v u):qgs a d (putF f v fs) h':=by
 refine ⟨hne,by have:=ydv f v fs;omega,_,n1,λg=>?_,λg hg=>?_⟩
 ·rw[qdx]
  by_cases q:g=f
  ·simp only[q,if_true];exact rv
  ·simp only[q,if_false];exact r g
 ·by_cases q:g=f
  ·subst q;exact (qdc g v fs).1
  ·exact (qdc f v fs).2 g (wi g λz=>hg (by simp only[q,if_false];exact z))
theorem setx_ok{E:Value->Shared->Prop}{Q:Unit->Shared->Prop}(I:Inv X pins σ H s)(x:XD H a C dx fs)(c:XOk X.K C)(n:NoF X.K C f)(hl:fs.length<100)(rv:RelV v u)
  (k:∀d H' s',Inv X pins σ H' s'->XD H' a C (some d) (putF f v fs)->SetX a d dx H H'->Q () s'):wpAny (model X.prog X.w) X.A (setAttr (.ref a) f u) Q E s:=by
 obtain ⟨mA,inst,r,wi,l⟩:=x.xat.inst I
 have kin:=I.kIn
 obtain ⟨hh,g,dr,t,os⟩:=s
 refine xc_store kin c.cx c.sa n inst (λh' tk' inst' keep same=>?_) wi (by rw[length_map,sizeLine_eq];omega)
 rcases x with ⟨rfl,rfl,h1⟩|⟨d,rfl,h1,h2⟩
 ·obtain ⟨⟨o,vs,e,cc,dn,dt,rw1⟩,_⟩:=I.hok a _ h1
  obtain ⟨o1,e1,c1,d1,_,dd1⟩:=same o e
  have dd:=dd1 dn
  obtain ⟨o2,e2,_,_,⟨z,_⟩|⟨d2,z,ne2,n2⟩⟩:=inst'
  ·rw[e1]at e2;cases e2;rw[dd]at z;cases z
  ·rw[e1]at e2;cases e2
   rw[dd]at z;cases z
   have fr:H hh.objs.size=none:=I.hok.fresh (le_refl _)
   have px:=qkt (a:=a) (v:=v) ne2 hl n2 r wi rv
   have po:yb3 a C (some hh.objs.size) h':=⟨o1,vs,e1,c1.trans cc,dd,d1.trans dt,rw1⟩
   refine k hh.objs.size (upd (upd H hh.objs.size (.ext (qgs a hh.objs.size (putF f v [])))) a (.ext (yb3 a C (some hh.objs.size)))) _ (Inv.two I (by rw[h1];exact True.intro) (.inr (le_refl _)) ne2 (λb ob hb hb2 q=>keep b ob hb (λo0 dx q0 q1=>?_) q) ⟨_,e1⟩ (let ⟨o,_,_,q,_⟩:=n2;⟨o,q⟩) (qih po) (yme px)) (.inr ⟨_,rfl,yaa,by rw[qag ne2];exact yaa⟩) ⟨.inr ⟨rfl,fr⟩,λb o hb hba _=>?_⟩
   ·have q0':hh.get? a=some o0:=q0
    have e':hh.get? a=some o:=e
    rw[e']at q0';cases q0'
    rw[dn]at q1;cases q1
   ·rw[qag hba,qag (qae hb fr)];exact hb
 ·obtain ⟨⟨o,vs,e,cc,dn,dt,rw1⟩,_⟩:=I.hok a _ h1
  obtain ⟨o1,e1,c1,d1,dd1,_⟩:=same o e
  have dd:=dd1 d dn
  obtain ⟨⟨ne0,_⟩,_⟩:=I.hok d _ h2
  obtain ⟨o2,e2,_,_,⟨z,_⟩|⟨d2,z,ne2,n2⟩⟩:=inst'
  ·rw[e1]at e2;cases e2;rw[dd]at z;cases z
  ·rw[e1]at e2;cases e2
   rw[dd]at z;cases z
   have px:=qkt (a:=a) (v:=v) ne2 hl n2 r wi rv
   have po:yb3 a C (some d) h':=⟨o1,vs,e1,c1.trans cc,dd,d1.trans dt,rw1⟩
   refine k d (upd (upd H d (.ext (qgs a d (putF f v fs)))) a (.ext (yb3 a C (some d)))) _ (Inv.two I (by rw[h1];exact True.intro) (.inl (by rw[h2];exact True.intro)) ne2 (λb ob hb hb2 q=>keep b ob hb (λo0 dx q0 q1=>?_) q) ⟨_,e1⟩ (let ⟨o,_,_,q,_⟩:=n2;⟨o,q⟩) (qih po) (yme px)) (.inr ⟨_,rfl,yaa,by rw[qag ne2];exact yaa⟩) ⟨.inl rfl,λb o hb hba hbd=>?_⟩
   ·have q0':hh.get? a=some o0:=q0
    have e':hh.get? a=some o:=e
    rw[e']at q0';cases q0'
    rw[dn]at q1;cases q1
    exact hb2
   ·rw[qag hba,qag hbd];exact hb
variable {o e value:Expr}{pos pos' p:Pos}{ta tv:TE}
def sXFld(K:W.Frag)(ta tv:TE)(f:Str):TS:=λD σ H=>tv σ H λy H1=>ta σ H1 λx H2=>∃a C dx fs,x=.ref a/\XD H2 a C dx fs/\XOk K C/\NoF K C f/\fs.length<100/\∀d H3,XD H3 a C (some d) (putF f y fs)->SetX a d dx H2 H3->D.nx σ H3
theorem qi6(ha:PE X o ta)(hv:PE X value tv)(hs:swapsWith value (some (.Attribute o f pos')) pos.line X.env=pure false:=by rfl):PS X (.Assign [.Attribute o f pos'] value pos) (sXFld X.K ta tv f):=by
 intro pins s σ H D I h
 refine plainObj_wpAny_Assign_Attribute (thn (hv pins s σ H _ I h) λu s1 ⟨y,H1,I1,ry,q⟩=>thn (ha pins s1 σ H1 _ I1 q) λov s2 ⟨x,H2,I2,rx,a,C,dx,fs,ex,ea,c,n,l,q2⟩=>?_) hs
 subst ex
 obtain rfl:ov=Value.ref a:=rx
 exact setx_ok I2 ea c n l ry λd H3 s3 I3 x3 sm=>⟨σ,H3,I3,q2 d H3 x3 sm⟩
end
theorem yay.ex{P:Program}{w:World}{H:Hp}{h:Heap}{a:Addr}{o:HO}(x:yay P w H h a o):∃u,h.get? a=some u:=by
 cases o with
 |lst xs=>obtain ⟨_,_,_,_,e⟩:=x;exact ⟨_,e⟩
 |tup xs=>obtain ⟨_,_,_,ob,e,_⟩:=x;exact ⟨_,e⟩
 |dK kvs=>obtain ⟨_,_,_,_,o,_,_,e,_⟩:=x;exact ⟨_,e⟩
 |dT kvs=>obtain ⟨_,_,_,_,o,_,_,e,_⟩:=x;exact ⟨_,e⟩
 |set S n=>obtain ⟨o,_,_,_,e,_⟩:=x;exact ⟨_,e⟩
 |ins C dx fs=>obtain ⟨_,_,_,e,_⟩:=x;exact ⟨_,e⟩
 |own y=>exact x
 |xd fs=>obtain ⟨_,⟨_,_,_,e,_⟩,_⟩:=x;exact ⟨_,e⟩
 |rng lo hi=>obtain ⟨_,_,_,e⟩:=x;exact ⟨_,e⟩
 |frz ob u=>obtain ⟨e,_⟩:=x;exact ⟨_,e⟩
 |tbl ps=>exact ⟨_,show h.get? a=some _ from x⟩
 |met f y=>exact ⟨_,show h.get? a=some _ from x⟩
 |ext φ=>exact x.2.1
section
variable {X:Cx}{pins:List (Addr×Obj)}{σ:St}{H:Hp}{s:Shared}{h':Heap}{a C:Addr}{oA:HO}
theorem Inv.laidN{t':Nat}(I:Inv X pins σ H s)(k:∀b u,s.heap.get? b=some u->h'.get? b=some u)(hn:s.heap.get? a=none)(new:yay X.prog X.w (upd H a oA) h' a oA):H a=none/\Inv X pins σ (upd H a oA) { s with heap:=h',toks:=t' }:=by
 have hH:H a=none:=by
  cases q:H a with
  |none=>rfl
  |some u=>obtain ⟨w,e⟩:=(I.hok a u q).ex;rw[hn]at e;cases e
 have nb:∀b u,s.heap.get? b=some u->b≠a:=λb u e z=>by rw[z,hn]at e;cases e
 refine ⟨hH,I.un ⟨λb u e _ _ _=>k b u e,λb u e _ _ _=>⟨u.slots,k b u e⟩,λb u e n _=>by rw[qag (nb b u e)];exact n,λb u e _=>⟨u,k b u e⟩,λb xs e=>by rw[qag (qae e hH)];exact e,
  λb u xs e=>by rw[qag (qae e hH)];exact e,λb ps e=>⟨#[],by rw[qag (qae e hH),e];simp⟩⟩ λb u e=>?_⟩
 by_cases hb:b=a
 ·subst hb;rw[yaa]at e;cases e;exact new
 ·rw[qag hb]at e
  exact (I.hok b u e).stay (λc v _ q=>k c v q) (λc q=>by rw[qag (qae q hH)];exact q) λc xs q=>by rw[qag (qae q hH)];exact q
theorem Inv.madeX{rest:List Value}{t':Nat}(I:Inv X pins σ H s)(m:Heap.MadeExcOf s.heap h' a (.ref C) rest):H a=none/\Inv X pins σ (upd H a (.ext (yb3 a C none))) { s with heap:=h',toks:=t' }:=by
 obtain ⟨tt,e,_⟩:=m.there
 exact I.laidN m.keeps m.new (qih ⟨_,_,e,rfl,rfl,rfl,rfl⟩)
variable {x:Str}{e:Expr}{es:List Expr}{p pos:Pos}{t:TA}
def ylr(C:Addr)(t:TA):TE:=λσ H Q=>t σ H λvs H1=>vs.length<=sizeLine/\∀a,H1 a=none->Q (.ref a) (upd H1 a (.ext (yb3 a C none)))
theorem ymt(q:W.excIn X.K C bmV "ValueError.__new__"=true)(kp:W.keepIn X.K (.ref C)=true)(hg:Gl X x)(hm:X.mg x=some (.ref C))(ha:PA X (e::es) t)(hdb:(x == ("__debug__" : Str))=false:=by decide)
  (he:starEach (e::es) X.env=(false,eval e X.env)::starEach es X.env:=by rfl) (hpl:(backTo pos (starEach es X.env)).any (·.1)=false:=by rfl):PE X (.Call (.Name x p) (e::es) [] pos) (ylr C t):=by
 intro pins s σ H Q I h
 refine wpAny_Call_Name_kw (ydu I hg hm ?_ hdb)
 refine W.callWith_K (h₀:=X.base) I.ok.mod.kin kp (thn (ha pos pins s σ H _ I h) λus s1 ⟨vs,H1,I1,r,hl,hq⟩=>⟨I1.kIn,?_⟩) he hpl
 have kin:=I1.kIn
 obtain ⟨hh,g,dr,tk,os⟩:=s1
 refine xc_call0 kin q (λh2 a m=>?_) (by rw[nil_append,<-r.length];exact hl)
 obtain ⟨hn,I2⟩:=Inv.madeX (t':=tk) I1 m
 exact ⟨.ref a,_,I2,rfl,hq a hn⟩
variable {k:Nat}{f:Addr}{fd:FuncData}{ps:List Str}{sp:Sp}
def tXMake(C:Addr)(sp:Sp)(t:TA):TE:=λσ H Q=>t σ H λvs H1=>vs.length<=sizeLine/\∀a,H1 a=none->sp (.ref a::vs) (upd H1 a (.ext (yb3 a C none))) (λv H2=>v=.non/\Q (.ref a) H2) E0
theorem pe_xmake(c:XOk X.K C)(hi:W.findIn X.K (.ref C) "__init__"=some (some (.ref f)))(hf:W.isFn X.K (.ref f)=true)(F:FnOk X.prog X.w X.K X.mg X.base CX0 k f fd ps sp)(hr:Room (k+1) X.A)(hb:yc6 X.K fd ps [])(kp:W.keepIn X.K (.ref C)=true)
  (hg:Gl X x) (hm:X.mg x=some (.ref C)) (ha:PA X (e::es) t) (hdb:(x == ("__debug__" : Str))=false:=by decide)
  (he:starEach (e::es) X.env=(false,eval e X.env)::starEach es X.env:=by rfl) (hpl:(backTo pos (starEach es X.env)).any (·.1)=false:=by rfl):PE X (.Call (.Name x p) (e::es) [] pos) (tXMake C sp t):=by
 intro pins s σ H Q I h
 refine wpAny_Call_Name_kw (ydu I hg hm ?_ hdb)
 refine W.callWith_K (h₀:=X.base) I.ok.mod.kin kp (thn (ha pos pins s σ H _ I h) λus s1 ⟨vs,H1,I1,r,hl,hq⟩=>⟨I1.kIn,?_⟩) he hpl
 have kin:=I1.kIn
 obtain ⟨hh,g,dr,tk,os⟩:=s1
 refine xc_call kin c.cx hi hf (λh2 a m=>?_) (by rw[nil_append,<-r.length];exact hl)
 obtain ⟨hn,I2⟩:=Inv.madeX (t':=tk) I1 m
 have hsp:=hq a hn
 have r2:Vals (V.ref a::vs) (Value.ref a::us):=.cons rfl r
 have hlen:(Value.ref a::us).length=ps.length:=by rw[<-r2.length];exact F.len _ _ _ _ hsp
 have hlen2:((Value.ref a::us)++[]).length=ps.length:=by rw[append_nil];exact hlen
 have bb:=hb _ (Value.ref a::us) I2.kIn hlen2
 rw[append_nil]at bb
 refine wpAny_call (codeAny_mono (F.run _ X.stack _ _ ⟨Value.ref a::us,[]⟩ (Value.ref a::us) _ _ E0 (hr.make C us []) (I2.env0.make C us []) bb r2 hsp) λr s' hq'=>?_)
 cases r with
 |error e=>exact hq'.elim
 |ok fl=>
  cases fl with
  |ret u=>
   obtain ⟨v,H',I3,rv,ev,q3⟩:=I2.after hq'
   subst ev
   exact ⟨rv,⟨V.ref a,H',I3,rfl,q3⟩⟩
  |next=>exact False.elim hq'
  |brk=>exact False.elim hq'
  |cont=>exact False.elim hq'
theorem XAt.at{fs:List (Str×V)}(x:XAt H a C fs)(I:Inv X pins σ H s):∃ox od,W.InstAt s.heap a ox C od:=by
 rcases x.obj I.hok with ⟨rfl,o,vs,e,c,dn,dt⟩|⟨d,⟨o,vs,e,c,dn,dt⟩,n,l,mA,⟨od,_,_,ed,_⟩,r,wi⟩
 ·exact ⟨o,none,e,c,by unfold W.notCls;rw[dt],by rw[dn];trivial⟩
 ·exact ⟨o,some od,e,c,by unfold W.notCls;rw[dt],by rw[dn];exact ed⟩
def vcls:V->Value
 |.ref c=>.ref c
 |.ty n=>.type n
 |_=>.none
def rIsiX(K:W.Frag):List V->Hp->VK->Prop:=λxs H Q=>∃a C fs c b,xs=[.ref a,c]/\((∃d,c=.ref d)\/∃n,c=.ty n)/\XAt H a C fs/\XTy K C/\W.kitOne K (.ref C) (vcls c)=some b/\Q (.bl b) H
theorem yd6:ycs X (.builtin "isinstance") (rIsiX X.K):=by
 intro pins s σ H xs us Q I r h
 obtain ⟨a,C,fs,c,b,rfl,hc,hx,T,hk,q⟩:=h
 cases r with
 |cons r rr=>
  cases rr with
  |cons r' rr=>
   cases rr
   cases r
   have hcv:∃cv,vcls c=cv/\RelV c cv:=by
    rcases hc with ⟨d,rfl⟩|⟨n,rfl⟩
    ·exact ⟨_,rfl,rfl⟩
    ·exact ⟨_,rfl,rfl⟩
   obtain ⟨cv,e1,e2⟩:=hcv
   rw[e1]at hk
   rename_i u2
   have e3:u2=cv:=by
    rcases hc with ⟨d,rfl⟩|⟨n,rfl⟩
    ·exact (show u2=Value.ref d from r').trans (show cv=Value.ref d from e2).symm
    ·exact (show u2=Value.type n from r').trans (show cv=Value.type n from e2).symm
   subst e3
   exact W.kia_one (qlk T) I.kIn (hx.at I) hk (λz=>nomatch z) λtk=>⟨.bl b,H,I.tok _,rfl,q⟩
end
end L2
namespace L2
open PySem PySem.Spec PyProof.Rows
theorem Vals.bls:∀{bs:List Bool}{us:List Value},Vals (bs.map V.bl) us->us=bs.map Value.bool
 |[],_,.nil=>rfl
 |b::bs,_,.cons r t=>by
  have e:=Vals.bls t
  cases r
  rw[e]
  rfl
def isB(b:Bool):Value->Bool
 |.bool c=>c == b
 |_=>false
theorem qlv(b:Bool)(bs:List Bool):(bs.map Value.bool).countP (isB b)=bs.count b:=by
 rw[List.countP_map]
 rfl
theorem isB_at{A:Around}{s:Shared}(b:Bool)(bs:List Bool):∀y,y∈(bs.map Value.bool).toArray->SeqAt.EqAt A s y (.bool b) (isB b y):=by
 intro y hy
 obtain ⟨c,_,e⟩:=mem_map.mp (by simpa using hy:y∈bs.map Value.bool)
 subst e
 exact SeqAt.EqAt.bool_bool c b
section
variable {X:Cx}
def rCountB:V->List V->Hp->VK->Prop:=λx vs H Q=>∃(l:Addr) (bs:List Bool) (b:Bool),x=.ref l/\vs=[.bl b]/\H l=some (.lst (bs.map V.bl))/\Q (.int (bs.count b:Nat)) H
theorem ymb:MtM X "list.count" rCountB:=by
 intro pins s σ H x vs v us Q I rx rv h
 obtain ⟨l,bs,b,rfl,rfl,hH,q⟩:=h
 cases rx
 obtain ⟨u,rfl,ru⟩:=rv.one
 cases ru
 obtain ⟨z,its,n,r,hl,e⟩:=I.lstM hH
 have hi:=r.bls
 subst hi
 refine call_meets F.slot_list_count ⟨_,e,rfl⟩ F.entry_list_count (F.args_list_count_2 _ _) (SeqAt.list_countAt l _ n _ _ (.bool b) (isB b)) ⟨e,isB_at b bs,?_⟩
 rw[List.toList_toArray,qlv]
 exact ⟨.int (bs.count b:Nat),_,I.tok _,⟨_,rfl⟩,q⟩
def rIndexB:V->List V->Hp->VK->Prop:=λx vs H Q=>∃(l:Addr) (bs:List Bool) (b:Bool) (j:Nat),x=.ref l/\vs=[.bl b]/\H l=some (.lst (bs.map V.bl))/\bs[j]?=some b/\(∀m,m<j->bs[m]?≠some b)/\Q (.int (j:Nat)) H
theorem yl5:MtM X "list.index" rIndexB:=by
 intro pins s σ H x vs v us Q I rx rv h
 obtain ⟨l,bs,b,j,rfl,rfl,hH,hj,hno,q⟩:=h
 cases rx
 obtain ⟨u,rfl,ru⟩:=rv.one
 cases ru
 obtain ⟨z,its,n,r,hl,e⟩:=I.lstM hH
 have hi:=r.bls
 subst hi
 obtain ⟨hjl,hjb⟩:=List.getElem?_eq_some_iff.mp hj
 rw[length_map]at z
 have hz:(sizeLine:Nat)<2 ^ 63-1:=by decide
 refine call_meets F.slot_list_index ⟨_,e,rfl⟩ F.entry_list_index (F.args_list_index_2 _ _)
  (SeqAt.list_indexAt l _ n _ _ (.bool b) (isB b) j (by rw[size_toArray,length_map];exact hjl) (by omega) ?_ λm hm hlt=>?_) ⟨e,isB_at b bs,⟨.int (j:Nat),_,I.tok _,⟨_,rfl⟩,q⟩⟩
 ·rw[List.getElem_toArray,getElem_map]
  show (bs[j] == b)=true
  rw[hjb]
  exact beq_self_eq_true b
 ·rw[List.getElem_toArray,getElem_map]
  show (bs[m] == b)=false
  refine beq_eq_false_iff_ne.mpr λq=>hno m hlt ?_
  rw[getElem?_eq_getElem (by omega),q]
end
end L2
namespace Mx
open PySem L2 PyProof.Rows
section
variable {X:Cx}{es:List Expr}{te:TE}{t:TA}{pos:Pos}
theorem pa_cs{k:Const}{j}(ha:PE X (.Constant k j pos) te)(hr:PA X es t):PA X (.Constant k j pos::es) (ydm te t):=qab ha hr rfl
theorem yel{x:Str}(ha:PE X (.Name x pos) te)(hr:PA X es t):PA X (.Name x pos::es) (ydm te t):=qab ha hr rfl
theorem pa_cl{f xs ks}(ha:PE X (.Call f xs ks pos) te)(hr:PA X es t):PA X (.Call f xs ks pos::es) (ydm te t):=qab ha hr rfl
theorem len0{α:Type}{P:List α->Prop}(h:P []):∀us,us.length=0->P us
 |[],_=>h
theorem lenS{α:Type}{n:Nat}{P:List α->Prop}(h:∀a l,l.length=n->P (a::l)):∀us,us.length=n+1->P us
 |a::l,e=>h a l (Nat.succ.inj e)
end
structure QS(X:Cx)(st:Stmt)(t:TS):Prop where
 of:PS X st t
structure QSs(X:Cx)(ss:List Stmt)(t:TS):Prop where
 of:PSs X ss t
section
variable {X:Cx}{st:Stmt}{rest a b:List Stmt}{t u:TS}{pos:Pos}{e:Expr}{te:TE}
theorem yal:QSs X [] tNext:=⟨yeo⟩
theorem yac(h:QS X st t):QSs X [st] t:=⟨qax h.of⟩
theorem yab(h:QS X st t)(r:QSs X rest u):QSs X (st::rest) (tSeq t u):=⟨ya5 h.of r.of⟩
theorem qee(h:QS X st t)(r:QSs X rest u):QSs X (st::rest) (tCut t u):=⟨pss_cut h.of r.of⟩
theorem qdm(h:PS X st t):QS X st t:=⟨h⟩
end
end Mx
namespace L2
open PySem PySem.Spec PyProof.Rows PyProof.Rows.KTD
def TabK(K:W.Frag)(a:Addr)(D:List (Str×List V)):Prop:=
 (a == sysModules)=false/\∃o es ep,K.lookup a=some o/\o.ExactDict/\o.data=.dict es ep/\KTD.Rows (λxs v=>∃p,v=.ref p/\∀H,SqT K H p xs) es.toList D
section
variable {prog:Program}{w:World}{A:Around}{E:Value->Shared->Prop}{s:Shared}{a:Addr}{k:Str}{tk:Tok}{o:Obj}{es:Array DictEntry}{ep:Nat}
theorem yfk{Q:Option Value->Shared->Prop}(g:s.heap.get? a=some o)(gd:o.data=.dict es ep)(ge:(es.toList.all λe=>isExactStrKey e.key)=true)
  (q:Q ((es.toList.find? λe=>e.key.isStr k).map (·.val)) { s with toks:=s.toks+1 }):wpAny (model prog w) A (dictGet a (.str k tk)) Q E s:=by
 obtain ⟨l⟩:=es
 have q2:Q (findBy (λk v=>v.isStr k) ⟨l⟩ k) { s with toks:=s.toks+1 }:=by
  rw[show findBy (λk v=>v.isStr k) (⟨l⟩:Array DictEntry) k=(l.find? λe=>e.key.isStr k).map (·.val) by simp[findBy]]
  exact q
 unfold dictGet
 try with_reducible refine wpAny_holding ?_
 refine wpAny_bind (wpAny_pyHash_str ?_)
 refine wpAny_bind ?_
 refine kt_dictFind_strs (s:={ s with toks:=s.toks+1 }) g gd (by simpa using ge) ?_
 rw[findBy_of_findIdx?]at q2
 revert q2
 cases (⟨l⟩:Array DictEntry).findIdx? λe=>e.key.isStr k with
 |none=>intro q2;exact wpAny_pure q2
 |some i=>intro q2;refine wpAny_bind ?_;exact wpAny_dictEntries (s:={ s with toks:=s.toks+1 }) g gd (wpAny_pure q2)
end
section
variable {X:Cx}{pins:List (Addr×Obj)}{σ:St}{H:Hp}{s:Shared}{a:Addr}{D:List (Str×List V)}
theorem TabK.dict(I:Inv X pins σ H s)(T:TabK X.K a D):s.TypeIs (.ref a) "dict"/\∀b,Value.ref a=.ref b->∃ob,s.heap.get? b=some ob/\ob.dict=none:=by
 obtain ⟨_,o,es,ep,hl,hx,hd,hr⟩:=T
 refine ⟨⟨o,I.kIn a o hl,hx.1⟩,λb e=>?_⟩
 cases e
 exact ⟨o,I.kIn a o hl,hx.2.1⟩
theorem TabK.ask{k:Str}{tk:Tok}{E:Value->Shared->Prop}{A:Around}{Q:Option Value->Shared->Prop}(I:Inv X pins σ H s)(T:TabK X.K a D)
  (h1:∀xs p,datumAt k D=some xs->(∀H,SqT X.K H p xs)->Q (some (.ref p)) { s with toks:=s.toks+1 }) (h2:datumAt k D=none->Q none { s with toks:=s.toks+1 }):wpAny (model X.prog X.w) A (dictGet a (.str k tk)) Q E s:=by
 obtain ⟨_,o,es,ep,hl,hx,hd,hr⟩:=T
 refine yfk (I.kIn a o hl) hd hr.exact ?_
 cases hat:datumAt k D with
 |some xs=>
  obtain ⟨v,hv,p,rfl,hp⟩:=hr.find_some hat
  rw[hv]
  exact h1 xs p hat hp
 |none=>rw[hr.find_none hat];exact h2 hat
def rIxTab(K:W.Frag)(D:List (Str×List V)):R2:=λx y H Q=>∃a k xs,x=.ref a/\y=.str k/\TabK K a D/\datumAt k D=some xs/\∀p,(∀H,SqT K H p xs)->Q (.ref p) H
theorem qkr:IxR X (rIxTab X.K D):=by
 intro value slice pins s σ H x y v u Q I rx ry h hs
 obtain ⟨a,k,xs,rfl,rfl,T,hd,q⟩:=h
 cases rx
 obtain ⟨tk,rfl⟩:=ry
 obtain ⟨hsm,o,es,ep,hl,hx,hd2,hr⟩:=id T
 obtain ⟨v,hv,p,rfl,hp⟩:=hr.find_some hd
 have fin:EP X pins σ Q (.ref p) { s with toks:=s.toks+1 }:=⟨.ref p,H,I.tok _,rfl,q p hp⟩
 refine subscriptTail_builtinR (x:=.ref p) (T.dict I).1 slot_dict_getitem.lookup ?_ hs
 unfold getItem
 try with_reducible refine wpAny_holding ?_
 refine wpAny_bind (wpAny_sequenceKey (T.dict I).1 (by decide) ?_)
 refine wpAny_bind (wpAny_callSpecial?_slot (name:=Str.ofString "__getitem__") (T.dict I).1 slot_dict_getitem (wpAny_call_entry slot_dict_getitem (T.dict I).1 entry_dict_getitem ?_ (args_dict_getitem _ _)))
 show wpAny _ _ (dictGet a (.str k tk) >>= _) _ _ _
 refine wpAny_bind (yfk (I.kIn a o hl) hd2 hr.exact ?_)
 rw[hv]
 exact wpAny_pure ⟨_,rfl,wpAny_pure ⟨rfl,fin⟩⟩
def rInTab(K:W.Frag)(D:List (Str×List V)):R2:=λx y H Q=>∃a k,x=.str k/\y=.ref a/\TabK K a D/\Q (.bl (inKeys k D)) H
theorem op_inTab:OpR X (compareOp .In) (rInTab X.K D):=by
 intro pins s σ H x y v u Q I rx ry h
 obtain ⟨a,k,rfl,rfl,T,q⟩:=h
 cases ry
 obtain ⟨tk,rfl⟩:=rx
 show wpAny _ _ (contains (.ref a) (.str k tk) >>= λc=>pure (Value.bool c)) _ _ s
 refine wpAny_bind ?_
 unfold contains
 try with_reducible refine wpAny_holding ?_
 refine wpAny_bind (wpAny_specialOf (T.dict I).1 slot_dict_contains.lookup ?_)
 show wpAny _ _ (if (some (Value.builtin "dict.__contains__") == some Value.none)=true then _ else _) _ _ s
 rw[if_neg (by rw[beq_builtin_none];exact Bool.false_ne_true)]
 refine wpAny_bind (wpAny_callSpecialUnlessNone?_slot (name:=Str.ofString "__contains__") (T.dict I).1 slot_dict_contains (wpAny_call_entry slot_dict_contains (T.dict I).1 entry_dict_contains ?_ (args_dict_contains _ _)))
 show wpAny _ _ (dictGet a (.str k tk) >>= _) _ _ _
 refine wpAny_bind (T.ask I (λxs p hd hp=>?_) λhn=>?_)
 ·have e:inKeys k D=true:=by rw[<-isSome_datumAt,hd];rfl
  rw[e]at q
  show wpAny _ _ (ret (.bool true)) _ _ _
  exact wpAny_pure ⟨_,rfl,wpAny_truthy_bool (wpAny_pure ⟨.bl true,H,I.tok _,rfl,q⟩)⟩
 ·have e:inKeys k D=false:=by rw[<-isSome_datumAt,hn];rfl
  rw[e]at q
  show wpAny _ _ (Builtin.Dict.pendingKey? a (.str k tk) >>= _) _ _ _
  exact wpAny_bind (wpAny_pendingKey_other T.1 (wpAny_pure ⟨_,rfl,wpAny_truthy_bool (wpAny_pure ⟨.bl false,H,I.tok _,rfl,q⟩)⟩))
end
end L2
namespace L2
open PySem PySem.Spec PyProof.Rows
section
variable {X:Cx}
def rNoneOut(K:W.Frag):R2:=λx y H Q=>∃p xs,x=.non/\y=.ref p/\SqL K H p xs/\(∀v∈xs,∃q ys,v=.ref q/\SqT K H q ys)/\Q (.bl true) H
theorem Vals.back:∀{xs:List V}{us:List Value},Vals xs us->∀u∈us,∃v∈xs,RelV v u
 |_,_,.nil,u,h=>nomatch h
 |x::xs,_,.cons r t,u,h=>by
  rcases mem_cons.mp h with rfl|h
  ·exact ⟨x,mem_cons_self ..,r⟩
  ·obtain ⟨v,hv,rv⟩:=Vals.back t u h
   exact ⟨v,mem_cons_of_mem _ hv,rv⟩
theorem qki{k:Nat}(hr:Room k X.A):OpR X (compareOp .NotIn) (rNoneOut X.K):=by
 intro pins s σ H x y v u Q I rx ry h
 obtain ⟨p,xs,rfl,rfl,hq,hx,q⟩:=h
 cases rx
 cases ry
 obtain ⟨its,r,pl,hz⟩:=I.list hq
 have hu:=ym0 hr
 refine SeqAt.notIn_listAt (λ_=>false) pl.isList (λw hw=>?_) ⟨.bl true,H,I,?_,q⟩
 ·obtain ⟨v,hv,rv⟩:=r.back w (by simpa using hw)
  obtain ⟨q,ys,rfl,ht⟩:=hx v hv
  cases rv
  obtain ⟨its2,_,⟨o,ho,hc,n,hd⟩,_⟩:=I.tuple ht
  exact SeqAt.EqAt.tuple_none ⟨o,ho,hc,n,hd⟩ hu
 ·show Value.bool _=Value.bool true
  congr 1
  simp
end
open Builtin.SmallTypes (nextOf)
def SIt(h:Heap)(tp:Bool)(q l:Addr)(i:Nat):Prop:=if tp then IsTupIter h q l i else h.IsListIter q l i
def SOf(h:Heap)(tp:Bool)(l:Addr)(its:Array Value):Prop:=if tp then IsTup h l its else h.IsList l its
section
variable {prog:Program}{w:World}{A:Around}{E:Value->Shared->Prop}{s:Shared}{q l:Addr}{i:Nat}{its:Array Value}
theorem SIt.at{h h':Heap}{tp:Bool}(x:SIt h tp q l i)(k:∀o,h.get? q=some o->h'.get? q=some o):SIt h' tp q l i:=by
 cases tp with
 |true=>obtain ⟨o,g,r⟩:=x;exact ⟨o,k o g,r⟩
 |false=>obtain ⟨o,g,r⟩:=x;exact ⟨o,k o g,r⟩
theorem SIt.obj{h:Heap}{tp:Bool}(x:SIt h tp q l i):∃o,h.get? q=some o/\∀v,o.data≠.cell v:=by
 cases tp with
 |true=>obtain ⟨o,g,c,d⟩:=x;exact ⟨o,g,λv z=>by rw[d]at z;cases z⟩
 |false=>obtain ⟨o,g,c,d⟩:=x;exact ⟨o,g,λv z=>by rw[d]at z;cases z⟩
theorem SOf.at{h h':Heap}{tp:Bool}(x:SOf h tp l its)(k:∀o,h.get? l=some o->h'.get? l=some o):SOf h' tp l its:=by
 cases tp with
 |true=>obtain ⟨o,g,r⟩:=x;exact ⟨o,k o g,r⟩
 |false=>obtain ⟨o,g,r⟩:=x;exact ⟨o,k o g,r⟩
theorem qbt{tp:Bool}{x:Value}{Q:Value->Shared->Prop}(hq:SIt s.heap tp q l i)(hl:SOf s.heap tp l its)(hx:its[i]?=some x)
  (k:∀h',SIt h' tp q l (i+1)->Heap.SameBut q s.heap h'->Q x { s with heap:=h' }):wpAny (model prog w) A (nextOf (.ref q)) Q E s:=by
 cases tp with
 |false=>exact wpAny_nextOf_list_item hq hl hx k
 |true=>
  have hq':IsTupIter s.heap q l i:=hq
  obtain ⟨o,go,gc,gd⟩:=id hq'
  obtain ⟨ol,gl,_,nl,gdl⟩:=(show IsTup s.heap l its from hl)
  unfold Builtin.SmallTypes.nextOf
  refine wpAny_bind (wpAny_callSpecial?_slot (name:=Str.ofString "__next__") hq'.typeIs slot_tupleiter_next (wpAny_call_entry slot_tupleiter_next hq'.typeIs entry_tupleiter_next ?_ (args_tupleiter_next _)))
  show wpAny _ _ (field (.ref q) 0 >>= _) _ _ s
  refine wpAny_bind (wpAny_field go gd (x:=.ref l) rfl ?_)
  show wpAny _ _ (if (Value.ref l == Value.none)=true then _ else _) _ _ s
  rw[if_neg (by exact Bool.false_ne_true:¬ ((Value.ref l == Value.none)=true))]
  show wpAny _ _ (field (.ref q) 1 >>= _) _ _ s
  refine wpAny_bind (wpAny_field go gd (x:=.int i 0) rfl ?_)
  show wpAny _ _ (seqItems? (.ref l) >>= _) _ _ s
  refine wpAny_bind (wpAny_seqItems gl gdl ?_)
  simp only[toNat_natCast,hx]
  refine wpAny_bind (wpAny_setField go gd (by simp) (wpAny_pure ⟨x,rfl,?_⟩))
  refine wpAny_pure (k _ ?_ (Heap.SameBut.update ..))
  exact ⟨_,get?_update_self _ go (Obj.isFreed_of_fields (Obj.data_mapFields gd _)),(Obj.cls_mapFields ..).trans gc,by rw[Obj.data_mapFields gd];simp[rawInt]⟩
theorem ydk{tp:Bool}{Q:Value->Shared->Prop}(hh:A.handled=none)(hq:SIt s.heap tp q l i)(hl:SOf s.heap tp l its)(hx:its[i]?=none)
  (k:∀h' e,Heap.ExtBut q s.heap h'->(∃o,h'.get? e=some o/\o.cls=.type "StopIteration")->E (.ref e) { s with heap:=h' }):wpAny (model prog w) A (nextOf (.ref q)) Q E s:=by
 cases tp with
 |false=>exact wpAny_nextOf_list_end hh hq hl hx k
 |true=>
  have hq':IsTupIter s.heap q l i:=hq
  obtain ⟨o,go,gc,gd⟩:=id hq'
  obtain ⟨ol,gl,_,nl,gdl⟩:=(show IsTup s.heap l its from hl)
  unfold Builtin.SmallTypes.nextOf
  refine wpAny_bind (wpAny_callSpecial?_slot (name:=Str.ofString "__next__") hq'.typeIs slot_tupleiter_next (wpAny_call_entry slot_tupleiter_next hq'.typeIs entry_tupleiter_next ?_ (args_tupleiter_next _)))
  show wpAny _ _ (field (.ref q) 0 >>= _) _ _ s
  refine wpAny_bind (wpAny_field go gd (x:=.ref l) rfl ?_)
  show wpAny _ _ (if (Value.ref l == Value.none)=true then _ else _) _ _ s
  rw[if_neg (by exact Bool.false_ne_true:¬ ((Value.ref l == Value.none)=true))]
  show wpAny _ _ (field (.ref q) 1 >>= _) _ _ s
  refine wpAny_bind (wpAny_field go gd (x:=.int i 0) rfl ?_)
  show wpAny _ _ (seqItems? (.ref l) >>= _) _ _ s
  refine wpAny_bind (wpAny_seqItems gl gdl ?_)
  simp only[toNat_natCast,hx]
  refine wpAny_bind (wpAny_rule ?_)
  refine wpAny_bind (wpAny_setField go gd (by simp) ?_)
  show wpAny _ _ (newExc (.type "StopIteration") [] >>= _) _ _ _
  refine wpAny_bind ?_
  simp only[newExc,newTuple]
  refine wpAny_bind (wpAny_newObj_type ?_ (by size_fits))
  refine wpAny_bind (m:=firstArgMember _ _) ?_
  refine wpAny_of_eq (a:=Value.none) (by first|rfl|(simp only[firstArgMember];rfl)) ?_
  refine wpAny_newObj_type ?_ (by size_fits)
  simp only[raiseNew]
  refine wpAny_bind (wpAny_handled ?_)
  first|rw[show A.in1.handled=none from hh]|rw[hh]
  refine wpAny_bind (wpAny_pure (wpAny_throw ?_))
  exact k _ _ (((Heap.SameBut.update ..).extBut.push _).push _) ⟨_,get?_push_size _ rfl,rfl⟩
theorem neN{a b:Nat}(h:a<b\/b<a):a≠b:=by omega
theorem ql7{n l1 l2 k:Nat}{xs ys:Array Value}{x y a b:Value}{t1 t2:Bool}{Q:Value->Shared->Prop}(b1:l1<n)(b2:l2<n)(gz:IsZip s.heap (n+4) (n+2) (n+3) .none)(gi:IsPair s.heap (n+2) (.ref n) (.ref (n+1)))(go:IsPair s.heap (n+3) a b)
  (q1:SIt s.heap t1 n l1 k) (q2:SIt s.heap t2 (n+1) l2 k) (o1:SOf s.heap t1 l1 xs) (o2:SOf s.heap t2 l2 ys) (hx:xs[k]?=some x) (hy:ys[k]?=some y)
  (kk:∀h',IsZip h' (n+4) (n+2) (n+3) (rawInt s.heap.objs.size)->IsPair h' (n+3) x y->SIt h' t1 n l1 (k+1)->SIt h' t2 (n+1) l2 (k+1)->IsPair h' s.heap.objs.size x y->h'.objs.size=s.heap.objs.size+1->
   (∀c o,c≠n+4->c≠n+3->c≠n->c≠n+1->s.heap.get? c=some o->h'.get? c=some o)->Q (.ref s.heap.objs.size) { s with heap:=h' }) :
  wpAny (model prog w) A (Builtin.«zip.__next__» ⟨[.ref (n+4)],[]⟩) (λfin s'=>∃v,fin=.done (.ret v)/\Q v s') E s:=by
 show wpAny _ _ (field (.ref (n+4)) 2 >>= _) _ _ _
 refine wpAny_bind (wpAny_field gz rfl (x:=.bool false) rfl ?_)
 show wpAny _ _ (field (.ref (n+4)) 3 >>= _) _ _ _
 refine wpAny_bind (wpAny_field gz rfl (x:=.ref (n+2)) rfl ?_)
 refine wpAny_bind (wpAny_seqItems gi rfl ?_)
 show wpAny _ _ (Builtin.SmallTypes.ownedTupleIsFree (.ref (n+4)) >>= _) _ _ _
 refine wpAny_bind ?_
 unfold Builtin.SmallTypes.ownedTupleIsFree
 refine wpAny_bind (wpAny_field gz rfl (x:=.none) rfl ?_)
 refine wpAny_pure ?_
 simp only[if_true]
 refine wpAny_bind (wpAny_rule ?_)
 refine wpAny_bind (wpAny_field gz rfl (x:=.ref (n+3)) rfl ?_)
 refine wpAny_bind (wpAny_setField_rec gz (by simp) λm1 gz1 e1=>?_)
 replace gz1:IsZip m1 (n+4) (n+2) (n+3) .ellipsis:=gz1
 refine wpAny_bind ?_
 simp only[List.zipIdx_cons,List.zipIdx_nil,forIn_cons,forIn_nil]
 refine wpAny_bind (wpAny_bind ?_)
 refine wpAny_onRaise ?_
 show wpAny _ _ (nextOf (.ref n) >>= _) _ _ _
 refine wpAny_bind (qbt (q1.at λo g=>e1.extBut _ _ (neN (by omega)) g) (o1.at λo g=>e1.extBut _ _ (neN (by omega)) g) hx λm2 r1 e2=>?_)
 refine wpAny_pure ?_
 have go2:IsPair m2 (n+3) a b:=e2.extBut _ _ (neN (by omega)) (e1.extBut _ _ (neN (by omega)) go)
 refine wpAny_bind (wpAny_seqItems go2 rfl ?_)
 refine wpAny_bind (wpAny_updateSeq_pair go2 λm3 go3 e3=>?_)
 replace go3:IsPair m3 (n+3) x b:=go3
 refine wpAny_bind (wpAny_letGo ?_)
 refine wpAny_pure ?_
 refine wpAny_bind (wpAny_bind ?_)
 refine wpAny_onRaise ?_
 show wpAny _ _ (nextOf (.ref (n+1)) >>= _) _ _ _
 refine wpAny_bind (qbt (q2.at λo g=>e3.extBut _ _ (neN (by omega)) (e2.extBut _ _ (neN (by omega)) (e1.extBut _ _ (neN (by omega)) g))) (o2.at λo g=>e3.extBut _ _ (neN (by omega)) (e2.extBut _ _ (neN (by omega)) (e1.extBut _ _ (neN (by omega)) g))) hy λm4 r2 e4=>?_)
 refine wpAny_pure ?_
 have go4:IsPair m4 (n+3) x b:=e4.extBut _ _ (neN (by omega)) go3
 refine wpAny_bind (wpAny_seqItems go4 rfl ?_)
 refine wpAny_bind (wpAny_updateSeq_pair go4 λm5 go5 e5=>?_)
 replace go5:IsPair m5 (n+3) x y:=go5
 refine wpAny_bind (wpAny_letGo ?_)
 refine wpAny_pure (wpAny_pure ?_)
 refine wpAny_bind (wpAny_seqItems go5 rfl ?_)
 refine wpAny_bind (wpAny_newTuple ?_)
 have hsz:m5.objs.size=s.heap.objs.size:=by rw[e5.1,e4.1,e3.1,e2.1,e1.1]
 have gz5:IsZip m5 (n+4) (n+2) (n+3) .ellipsis:=e5.extBut _ _ (neN (by omega)) (e4.extBut _ _ (neN (by omega)) (e3.extBut _ _ (neN (by omega)) (e2.extBut _ _ (neN (by omega)) gz1)))
 have keep5:∀c o,c≠n+4->c≠n+3->c≠n->c≠n+1->s.heap.get? c=some o->m5.get? c=some o:=λc o d1 d2 d3 d4 g=>
  e5.extBut _ _ d2 (e4.extBut _ _ d4 (e3.extBut _ _ d2 (e2.extBut _ _ d3 (e1.extBut _ _ d1 g))))
 have r15:SIt m5 t1 n l1 (k+1):=r1.at λo g=>e5.extBut _ _ (neN (by omega)) (e4.extBut _ _ (neN (by omega)) (e3.extBut _ _ (neN (by omega)) g))
 have r25:SIt m5 t2 (n+1) l2 (k+1):=r2.at λo g=>e5.extBut _ _ (neN (by omega)) g
 have lt5:n+4<m5.objs.size:=lt_size gz5
 show wpAny _ _ (Builtin.SmallTypes.ownedTupleHandOut (.ref (n+4)) (.ref m5.objs.size) >>= _) _ _ _
 refine wpAny_bind ?_
 unfold Builtin.SmallTypes.ownedTupleHandOut
 have gz6:IsZip (m5.push { cls:=.type "tuple",data:=.seq #[x,y] }) (n+4) (n+2) (n+3) .ellipsis:=get?_push_of_some _ gz5
 refine wpAny_bind (wpAny_setField_rec gz6 (by simp) λm7 gz7 e7=>?_)
 replace gz7:IsZip m7 (n+4) (n+2) (n+3) (rawInt m5.objs.size):=gz7
 refine wpAny_setField_rec gz7 (by simp) λm8 gz8 e8=>?_
 replace gz8:IsZip m8 (n+4) (n+2) (n+3) (rawInt m5.objs.size):=gz8
 have up:∀c o,c≠n+4->m5.get? c=some o->m8.get? c=some o:=λc o d1 g=>e8.extBut _ _ d1 (e7.extBut _ _ d1 (get?_push_of_some _ g))
 have gt8:IsPair m8 m5.objs.size x y:=e8.extBut _ _ (ne_of_gt lt5) (e7.extBut _ _ (ne_of_gt lt5) (get?_push_size _ rfl))
 have hs8:m8.objs.size=m5.objs.size+1:=by rw[e8.1,e7.1,size_push]
 rw[hsz]at gz8 gt8 hs8
 refine wpAny_pure ⟨_,rfl,?_⟩
 show Q (.ref m5.objs.size) _
 rw[hsz]
 exact kk m8 gz8 (up _ _ (neN (by omega)) go5) (r15.at λo g=>up _ o (neN (by omega)) g) (r25.at λo g=>up _ o (neN (by omega)) g) gt8 hs8 λc o d1 d2 d3 d4 g=>up c o d1 (keep5 c o d1 d2 d3 d4 g)
theorem qlm{n l1 l2 k:Nat}{xs ys:Array Value}{a b:Value}{t1 t2:Bool}{Q:Fin->Shared->Prop}(hh:A.handled=none)(b1:l1<n)(b2:l2<n)(gz:IsZip s.heap (n+4) (n+2) (n+3) .none)(gi:IsPair s.heap (n+2) (.ref n) (.ref (n+1)))(go:IsPair s.heap (n+3) a b)
  (q1:SIt s.heap t1 n l1 k) (q2:SIt s.heap t2 (n+1) l2 k) (o1:SOf s.heap t1 l1 xs) (o2:SOf s.heap t2 l2 ys) (hend:xs[k]?=none\/ys[k]?=none)
  (kk:∀h' e,(∀c o,c≠n+4->c≠n+3->c≠n->c≠n+1->s.heap.get? c=some o->h'.get? c=some o)->(∃o,h'.get? e=some o/\o.cls=.type "StopIteration")->E (.ref e) { s with heap:=h' }) :
  wpAny (model prog w) A (Builtin.«zip.__next__» ⟨[.ref (n+4)],[]⟩) Q E s:=by
 show wpAny _ _ (field (.ref (n+4)) 2 >>= _) _ _ _
 refine wpAny_bind (wpAny_field gz rfl (x:=.bool false) rfl ?_)
 show wpAny _ _ (field (.ref (n+4)) 3 >>= _) _ _ _
 refine wpAny_bind (wpAny_field gz rfl (x:=.ref (n+2)) rfl ?_)
 refine wpAny_bind (wpAny_seqItems gi rfl ?_)
 show wpAny _ _ (Builtin.SmallTypes.ownedTupleIsFree (.ref (n+4)) >>= _) _ _ _
 refine wpAny_bind ?_
 unfold Builtin.SmallTypes.ownedTupleIsFree
 refine wpAny_bind (wpAny_field gz rfl (x:=.none) rfl ?_)
 refine wpAny_pure ?_
 simp only[if_true]
 refine wpAny_bind (wpAny_rule ?_)
 refine wpAny_bind (wpAny_field gz rfl (x:=.ref (n+3)) rfl ?_)
 refine wpAny_bind (wpAny_setField_rec gz (by simp) λm1 gz1 e1=>?_)
 replace gz1:IsZip m1 (n+4) (n+2) (n+3) .ellipsis:=gz1
 refine wpAny_bind ?_
 simp only[List.zipIdx_cons,List.zipIdx_nil,forIn_cons,forIn_nil]
 refine wpAny_bind (wpAny_bind ?_)
 refine wpAny_onRaise ?_
 show wpAny _ _ (nextOf (.ref n) >>= _) _ _ _
 have p1:SIt m1 t1 n l1 k:=q1.at λo g=>e1.extBut _ _ (neN (by omega)) g
 have p2:SOf m1 t1 l1 xs:=o1.at λo g=>e1.extBut _ _ (neN (by omega)) g
 cases hx:xs[k]? with
 |none=>
  refine wpAny_bind (ydk hh p1 p2 hx λm2 e g2 he=>?_)
  obtain ⟨oe,hoe,hce⟩:=he
  have gz2:IsZip m2 (n+4) (n+2) (n+3) .ellipsis:=g2 _ _ (neN (by omega)) gz1
  have ne:e≠n+4:=λz=>by subst z;rw[gz2]at hoe;cases hoe;simp at hce
  refine wpAny_setField_rec gz2 (by simp) λm3 _ e3=>?_
  exact kk m3 e (λc o d1 _ d3 _ g=>e3.extBut _ _ d1 (g2 _ _ d3 (e1.extBut _ _ d1 g))) ⟨oe,e3.extBut _ _ ne hoe,hce⟩
 |some x=>
  have hy:ys[k]?=none:=by
   rcases hend with z|z
   ·rw[hx]at z;cases z
   ·exact z
  refine wpAny_bind (qbt p1 p2 hx λm2 r1 e2=>?_)
  refine wpAny_pure ?_
  have go2:IsPair m2 (n+3) a b:=e2.extBut _ _ (neN (by omega)) (e1.extBut _ _ (neN (by omega)) go)
  refine wpAny_bind (wpAny_seqItems go2 rfl ?_)
  refine wpAny_bind (wpAny_updateSeq_pair go2 λm3 go3 e3=>?_)
  refine wpAny_bind (wpAny_letGo ?_)
  refine wpAny_pure ?_
  refine wpAny_bind (wpAny_bind ?_)
  refine wpAny_onRaise ?_
  show wpAny _ _ (nextOf (.ref (n+1)) >>= _) _ _ _
  refine wpAny_bind (ydk hh (q2.at λo g=>e3.extBut _ _ (neN (by omega)) (e2.extBut _ _ (neN (by omega)) (e1.extBut _ _ (neN (by omega)) g))) (o2.at λo g=>e3.extBut _ _ (neN (by omega)) (e2.extBut _ _ (neN (by omega)) (e1.extBut _ _ (neN (by omega)) g))) hy λm4 e g4 he=>?_)
  obtain ⟨oe,hoe,hce⟩:=he
  have gz4:IsZip m4 (n+4) (n+2) (n+3) .ellipsis:=g4 _ _ (neN (by omega)) (e3.extBut _ _ (neN (by omega)) (e2.extBut _ _ (neN (by omega)) gz1))
  have ne:e≠n+4:=λz=>by subst z;rw[gz4]at hoe;cases hoe;simp at hce
  refine wpAny_setField_rec gz4 (by simp) λm5 _ e5=>?_
  exact kk m5 e (λc o d1 d2 d3 d4 g=>e5.extBut _ _ d1 (g4 _ _ d4 (e3.extBut _ _ d2 (e2.extBut _ _ d3 (e1.extBut _ _ d1 g))))) ⟨oe,e5.extBut _ _ ne hoe,hce⟩
def itN(tp:Bool):String:=if tp then "tuple_iterator" else "list_iterator"
theorem iterS{tp:Bool}{Q:Value->Shared->Prop}(hl:SOf s.heap tp l its)(k:Q (.ref s.heap.objs.size) { s with heap:=s.heap.push { cls:=.type (itN tp),data:=.fields #[.ref l,.int 0 0] } }):wpAny (model prog w) A (pyIter (.ref l)) Q E s:=by
 cases tp with
 |true=>exact iter_tuple hl k
 |false=>exact wpAny_pyIter_list hl k
theorem SIt.new{tp:Bool}{h:Heap}:SIt (h.push { cls:=.type (itN tp),data:=.fields #[.ref l,.int 0 0] }) tp h.objs.size l 0:=by
 cases tp with
 |true=>exact ⟨_,get?_push_size _ rfl,rfl,rfl⟩
 |false=>exact ⟨_,get?_push_size _ rfl,rfl,rfl⟩
abbrev zp1(h:Heap)(t1:Bool)(l1:Addr):Heap:=h.push { cls:=.type (itN t1),data:=.fields #[.ref l1,.int 0 0] }
abbrev zp2(h:Heap)(t1 t2:Bool)(l1 l2:Addr):Heap:=(zp1 h t1 l1).push { cls:=.type (itN t2),data:=.fields #[.ref l2,.int 0 0] }
abbrev zp3(h:Heap)(t1 t2:Bool)(l1 l2:Addr):Heap:=(zp2 h t1 t2 l1 l2).push { cls:=.type "tuple",data:=.seq #[.ref h.objs.size,.ref (zp1 h t1 l1).objs.size] }
abbrev zp4(h:Heap)(t1 t2:Bool)(l1 l2:Addr):Heap:=(zp3 h t1 t2 l1 l2).push { cls:=.type "tuple",data:=.seq #[.none,.none] }
abbrev zp5(h:Heap)(t1 t2:Bool)(l1 l2:Addr):Heap:=(zp4 h t1 t2 l1 l2).push { cls:=.type "zip",data:=.fields #[.none,.bool false,.bool false,.ref (zp2 h t1 t2 l1 l2).objs.size,.ref (zp3 h t1 t2 l1 l2).objs.size] }
theorem zipNew(t1 t2:Bool)(l1 l2:Addr)(xs ys:Array Value) :
  Meets (Builtin.«zip.__new__» ⟨[.type "zip",.ref l1,.ref l2],[]⟩) (λ_ R s=>SOf s.heap t1 l1 xs/\SOf s.heap t2 l2 ys/\R (.ok (.ret (.ref (zp4 s.heap t1 t2 l1 l2).objs.size))) { s with heap:=zp5 s.heap t1 t2 l1 l2 }):=
 .of_wp λprog w A R s h=>by
  obtain ⟨hp,g,d,tk,os⟩:=s
  obtain ⟨y1,y2,h⟩:=h
  have hsub:=sub_zip
  have Y1:SOf (Shared.heap ⟨hp,g,d,tk,os⟩) t1 l1 xs:=y1
  have Y2:SOf (Shared.heap ⟨hp.push { cls:=.type (itN t1),data:=.fields #[.ref l1,.int 0 0] },g,d,tk,os⟩) t2 l2 ys:=y2.at λo z=>get?_push_of_some _ z
  wp_walk using iterS Y1,iterS Y2
  exact ⟨_,rfl,h⟩
end
theorem qhq:bootBuiltins "zip"=some (.type "zip"):=by decide +kernel
section
variable {prog:Program}{w:World}{A:Around}{E:Value->Shared->Prop}{s:Shared}
def ZSt(h:Heap)(n:Nat)(t1 t2:Bool)(l1 l2:Addr)(i:Nat):Prop:=
 ∃a b,IsZip h (n+4) (n+2) (n+3) .none/\IsPair h (n+2) (.ref n) (.ref (n+1))/\IsPair h (n+3) a b/\SIt h t1 n l1 i/\SIt h t2 (n+1) l2 i
theorem yhi{t1 t2:Bool}{l1 l2:Addr}{xs ys:Array Value}{Q:Value->Shared->Prop}(y1:SOf s.heap t1 l1 xs)(y2:SOf s.heap t2 l2 ys)
  (k:∀h',ZSt h' s.heap.objs.size t1 t2 l1 l2 0->(∀c o,s.heap.get? c=some o->h'.get? c=some o)->Q (.ref (s.heap.objs.size+4)) { s with heap:=h' }) :
  wpAny (model prog w) A (call (.type "zip") [.ref l1,.ref l2]) Q E s:=by
 refine callType_new F.called_zip (by decide) (F.typeCall_zip_2 _ _) (F.newCall_zip_2 _ _) (λobj=>F.args_object_init_3 obj _ _) F.entry_zip_new (zipNew t1 t2 l1 l2 xs ys) ⟨y1,y2,?_⟩
 have z1:(zp1 s.heap t1 l1).objs.size=s.heap.objs.size+1:=size_push ..
 have z2:(zp2 s.heap t1 t2 l1 l2).objs.size=s.heap.objs.size+2:=by rw[size_push,z1]
 have z3:(zp3 s.heap t1 t2 l1 l2).objs.size=s.heap.objs.size+3:=by rw[size_push,z2]
 have z4:(zp4 s.heap t1 t2 l1 l2).objs.size=s.heap.objs.size+4:=by rw[size_push,z3]
 have u5:∀c o,(zp4 s.heap t1 t2 l1 l2).get? c=some o->(zp5 s.heap t1 t2 l1 l2).get? c=some o:=λc o g=>get?_push_of_some _ g
 have u4:∀c o,(zp3 s.heap t1 t2 l1 l2).get? c=some o->(zp5 s.heap t1 t2 l1 l2).get? c=some o:=λc o g=>u5 c o (get?_push_of_some _ g)
 have u3:∀c o,(zp2 s.heap t1 t2 l1 l2).get? c=some o->(zp5 s.heap t1 t2 l1 l2).get? c=some o:=λc o g=>u4 c o (get?_push_of_some _ g)
 have u2:∀c o,(zp1 s.heap t1 l1).get? c=some o->(zp5 s.heap t1 t2 l1 l2).get? c=some o:=λc o g=>u3 c o (get?_push_of_some _ g)
 have g5:(zp5 s.heap t1 t2 l1 l2).get? (zp4 s.heap t1 t2 l1 l2).objs.size=some _:=get?_push_size _ rfl
 have g4:(zp5 s.heap t1 t2 l1 l2).get? (zp3 s.heap t1 t2 l1 l2).objs.size=some _:=u5 _ _ (get?_push_size _ rfl)
 have g3:(zp5 s.heap t1 t2 l1 l2).get? (zp2 s.heap t1 t2 l1 l2).objs.size=some _:=u4 _ _ (get?_push_size _ rfl)
 have i2:SIt (zp5 s.heap t1 t2 l1 l2) t2 (zp1 s.heap t1 l1).objs.size l2 0:=SIt.new.at λo g=>u3 _ o g
 have i1:SIt (zp5 s.heap t1 t2 l1 l2) t1 s.heap.objs.size l1 0:=SIt.new.at λo g=>u2 _ o g
 show _/\_
 rw[z2,z3,z4]at g5
 rw[z1,z2]at g3
 rw[z3]at g4
 rw[z1]at i2
 rw[z4]
 exact ⟨⟨_,g5,rfl⟩,k _ ⟨_,_,g5,g3,g4,i1,i2⟩ λc o g=>u2 c o (get?_push_of_some _ g)⟩
end
def Sq(K:W.Frag)(tp:Bool)(H:Hp)(l:Addr)(xs:List V):Prop:=if tp then SqT K H l xs else SqL K H l xs
section
variable {X:Cx}{pins:List (Addr×Obj)}{σ:St}{H:Hp}{s:Shared}
theorem Inv.sq{tp:Bool}{l:Addr}{xs:List V}(I:Inv X pins σ H s)(h:Sq X.K tp H l xs):∃its:List Value,Vals xs its/\SOf s.heap tp l its.toArray/\l<s.heap.objs.size:=by
 cases tp with
 |true=>
  obtain ⟨its,r,pl,z⟩:=I.tuple h
  obtain ⟨o,g,_⟩:=id pl
  exact ⟨its,r,pl,lt_size g⟩
 |false=>
  obtain ⟨its,r,pl,z⟩:=I.list h
  obtain ⟨o,g,_⟩:=id pl.isList
  exact ⟨its,r,pl.isList,lt_size g⟩
theorem Inv.sq_inj{tp:Bool}{l:Addr}{xs ys:List V}(I:Inv X pins σ H s)(h:Sq X.K tp H l xs)(h':Sq X.K tp H l ys):xs=ys:=by
 cases tp with
 |true=>exact I.tuple_inj h h'
 |false=>exact I.list_inj h h'
end
section
variable {X:Cx}{pins:List (Addr×Obj)}{σ:St}{H:Hp}{s:Shared}{h':Heap}
theorem Inv.turnedM{ch:List Addr}{t':Nat}(I:Inv X pins σ H s)(k:∀b u,b∉ch->s.heap.get? b=some u->h'.get? b=some u)(hf:∀b∈ch,FpOk X pins H b):Inv X pins σ H { s with heap:=h',toks:=t' }:=by
 have nit:∀b u,H b=some u->b∉ch:=λb u e z=>by rw[(hf b z).1]at e;cases e
 refine I.step (g':=s.gens) (d':=s.drawn) (ch:=ch) (λb hb=>?_) (λb u _ _ hc e _=>k b u hc e) (λb u _ _ hc e _=>⟨u.slots,k b u hc e⟩) (λb u _ e n=>n)
  (λb u hc e=>⟨u,k b u hc e⟩) (λb xs e=>e) (λb u xs e=>e) (λb ps e=>⟨#[],by rw[e];simp⟩) (λm hm=>?_) (λb u e=>?_) I.bare
 ·obtain ⟨_,f1,_,f3,f4,f5⟩:=hf b hb
  exact ⟨f3,f1,f4,f5⟩
 ·obtain ⟨ob,es,ep,ho,r⟩:=hm
  exact ⟨ob,es,ep,k _ ob (λz=>(hf _ z).2.1 rfl) ho,r⟩
 ·refine (I.hok b u e).stay (λc v hc q=>k c v ?_ q) (λc q=>q) λc xs q=>q
  rcases hc with rfl|hc
  ·exact nit _ u e
  ·exact nit c _ hc
end
def Itz(K:W.Frag)(t1 t2:Bool)(l1 l2:Addr):It:=
  ⟨λi H=>∃xs ys x y,Sq K t1 H l1 xs/\Sq K t2 H l2 ys/\xs[i]?=some x/\ys[i]?=some y,
   λi H x H'=>∃p u v,H p=none/\x=.ref p/\H'=upd H p (.tup [u,v])/\∀xs ys,Sq K t1 H l1 xs->Sq K t2 H l2 ys->xs[i]?=some u/\ys[i]?=some v,
   λi H=>∃xs ys,Sq K t1 H l1 xs/\Sq K t2 H l2 ys/\(xs[i]?=none\/ys[i]?=none)⟩
theorem yhu{xs:List V}{us:List Value}{i:Nat}(r:Vals xs us)(h:xs[i]?=none):us[i]?=none:=by
 rw[List.getElem?_eq_none_iff]at h ⊢
 rw[<-r.length]
 exact h
theorem turn_zip{P:Program}{w:World}{K:W.Frag}{es:List Expr}{k:Nat}{tp:Pos}{t1 t2:Bool}(l1 l2 n:Nat)(b1:l1<n)(b2:l2<n) :
  Turn P w K (.Tuple es k tp) (Itz K t1 t2 l1 l2) [n,n+1,n+2,n+3,n+4] (n+4) (λi h=>ZSt h n t1 t2 l1 l2 i) where
 mem:=by simp
 obj:=λi h st b hb=>by
  obtain ⟨x,y,gz,gi,go,q1,q2⟩:=st
  have hb':b=n\/b=n+1\/b=n+2\/b=n+3\/b=n+4:=by simpa using hb
  rcases hb' with rfl|rfl|rfl|rfl|rfl
  ·exact q1.obj
  ·exact q2.obj
  ·exact ⟨_,gi,λv z=>by
    have z':Data.seq _ _=Data.cell v:=z
    cases z'⟩
  ·exact ⟨_,go,λv z=>by
    have z':Data.seq _ _=Data.cell v:=z
    cases z'⟩
  ·exact ⟨_,gz,λv z=>by
    have z':Data.fields _=Data.cell v:=z
    cases z'⟩
 keep:=λi h h' st kk=>by
  obtain ⟨x,y,gz,gi,go,q1,q2⟩:=st
  exact ⟨x,y,kk _ (by simp) _ gz,kk _ (by simp) _ gi,kk _ (by simp) _ go,q1.at λo z=>kk _ (by simp) o z,q2.at λo z=>kk _ (by simp) o z⟩
 item:=by
  intro X hP hw hK hc i pins s σ H E I hf st hg
  subst hP hw hK
  obtain ⟨xs,ys,x,y,hq1,hq2,hx,hy⟩:=hg
  obtain ⟨its1,rv1,so1,_⟩:=I.sq hq1
  obtain ⟨its2,rv2,so2,_⟩:=I.sq hq2
  obtain ⟨u1,hu1,ru1⟩:=rv1.get hx
  obtain ⟨u2,hu2,ru2⟩:=rv2.get hy
  obtain ⟨x0,y0,gz,gi,go,q1,q2⟩:=st
  have lt4:n+4<s.heap.objs.size:=lt_size gz
  have hT:s.TypeIs (.ref (n+4)) "zip":=⟨_,gz,rfl⟩
  unfold pyNext
  refine wpAny_bind (wpAny_attempt (wpAny_callSpecial?_slot (name:=Str.ofString "__next__") hT F.slot_zip_next (wpAny_call_entry F.slot_zip_next hT F.entry_zip_next ?_ (F.args_zip_next_1 _))))
  refine ql7 b1 b2 gz gi go q1 q2 so1 so2 (x:=u1) (y:=u2) (by simpa using hu1) (by simpa using hu2) λh' gz' go' r1 r2 hT' hsz kp=>?_
  refine wpAny_pure ?_
  refine ⟨_,rfl,wpAny_letOwnedTupleGo_zip gz' λh2 gz2 hs2=>?_⟩
  have kp2:∀b ob,b∉[n,n+1,n+2,n+3,n+4]->s.heap.get? b=some ob->h2.get? b=some ob:=λb ob hb z=>by
   have d4:b≠n+4:=λq=>hb (by simp[q])
   have d3:b≠n+3:=λq=>hb (by simp[q])
   have d0:b≠n:=λq=>hb (by simp[q])
   have d1:b≠n+1:=λq=>hb (by simp[q])
   exact (hs2.2 b d4).trans (kp b ob d4 d3 d0 d1 z)
  have up2:∀b ob,b≠n+4->h'.get? b=some ob->h2.get? b=some ob:=λb ob d z=>(hs2.2 b d).trans z
  have hT2:h2.get? s.heap.objs.size=some { cls:=.type "tuple",data:=.seq #[u1,u2] }:=up2 _ _ (ne_of_gt lt4) hT'
  have fresh:H s.heap.objs.size=none:=I.hok.fresh (le_refl _)
  have new:yay X.prog X.w (upd H s.heap.objs.size (.tup [x,y])) h2 s.heap.objs.size (.tup [x,y]):=⟨by show 2<=sizeLine;decide,[u1,u2],.cons ru1 (.cons ru2 .nil),⟨_,hT2,rfl,_,rfl⟩⟩
  refine ⟨.ref s.heap.objs.size,upd H s.heap.objs.size (.tup [x,y]),I.turnedL kp2 hf (le_refl _) new,rfl,⟨_,x,y,fresh,rfl,rfl,λas bs ha hb=>by rw[I.sq_inj ha hq1,I.sq_inj hb hq2];exact ⟨hx,hy⟩⟩,⟨_,_,gz2,?_,up2 _ _ (neN (by omega)) go',r1.at λo z=>up2 _ o (neN (by omega)) z,r2.at λo z=>up2 _ o (neN (by omega)) z⟩,λb hb=>?_⟩
  ·exact up2 _ _ (neN (by omega)) (kp _ _ (neN (by omega)) (neN (by omega)) (neN (by omega)) (neN (by omega)) gi)
  ·rw[qag]
   ·exact (hf b hb).1
   ·have hb':b=n\/b=n+1\/b=n+2\/b=n+3\/b=n+4:=by simpa using hb
    rcases hb' with rfl|rfl|rfl|rfl|rfl<;>exact neN (by omega)
 done:=by
  intro X hP hw hK hc i pins s σ H E I hf st hg
  subst hP hw hK
  obtain ⟨xs,ys,hq1,hq2,hxy⟩:=hg
  obtain ⟨its1,rv1,so1,_⟩:=I.sq hq1
  obtain ⟨its2,rv2,so2,_⟩:=I.sq hq2
  obtain ⟨x0,y0,gz,gi,go,q1,q2⟩:=st
  have hT:s.TypeIs (.ref (n+4)) "zip":=⟨_,gz,rfl⟩
  have hend:its1.toArray[i]?=none\/its2.toArray[i]?=none:=hxy.imp (λz=>by simpa using yhu rv1 z) λz=>by simpa using yhu rv2 z
  unfold pyNext
  refine wpAny_bind (wpAny_attempt (wpAny_callSpecial?_slot (name:=Str.ofString "__next__") hT F.slot_zip_next (wpAny_call_entry F.slot_zip_next hT F.entry_zip_next (qlm (I.ok.hd hc) b1 b2 gz gi go q1 q2 so1 so2 hend λh' e kp he=>?_) (F.args_zip_next_1 _))))
  obtain ⟨o,ho,hce⟩:=he
  refine wpAny_bind (wpAny_isInstance (T:="StopIteration") (b:=true) ⟨o,ho,hce⟩ isSubtype_stop ?_)
  refine wpAny_pure ⟨rfl,?_⟩
  refine I.turnedM (t':=s.toks) (ch:=[n,n+1,n+2,n+3,n+4]) (λb ob hb z=>?_) hf
  exact kp b ob (λq=>hb (by simp[q])) (λq=>hb (by simp[q])) (λq=>hb (by simp[q])) (λq=>hb (by simp[q])) z
 self:=λ_ _ _ _ _ st h=>by
  obtain ⟨x0,y0,gz,gi,go,q1,q2⟩:=st
  exact wpAny_pyIter_zip gz h
def iZip(K:W.Frag)(ta:TA):TI:=λσ H R=>ta σ H λvs H1=>∃t1 t2 l1 l2 xs ys,vs=[.ref l1,.ref l2]/\Sq K t1 H1 l1 xs/\Sq K t2 H1 l2 ys/\R (Itz K t1 t2 l1 l2) H1
section
variable {X:Cx}
theorem qj1{a b:Expr}{ta:TA}{p pos tp:Pos}{es:List Expr}{k:Nat}(hg:Gl X "zip")(hm:X.mg "zip"=none)(ha:PA X [a,b] ta)(hs:starEach [a,b] X.env=(false,eval a X.env)::starEach [b] X.env:=by rfl)(hp:(backTo pos (starEach [b] X.env)).any (·.1)=false:=by rfl) :
  PI X (.Tuple es k tp) (.Call (.Name "zip" p) [a,b] [] pos) (iZip X.K ta):=by
 intro pins s σ H R I h
 refine Call_ (yc3 I hg hm qhq (PyProof.Rows.callWith_type1 (thn (ha pos pins s σ H _ I h) λus s1 ⟨vs,H1,I1,r1,q1⟩=>?_) hs hp))
 obtain ⟨t1,t2,l1,l2,xs,ys,e,hq1,hq2,q⟩:=q1
 subst e
 cases r1 with
 |cons r rr=>
  cases rr with
  |cons r2 rr=>
   cases rr
   cases r
   cases r2
   obtain ⟨its1,rv1,so1,b1⟩:=I1.sq hq1
   obtain ⟨its2,rv2,so2,b2⟩:=I1.sq hq2
   refine yhi so1 so2 λh' st kp=>?_
   obtain ⟨x0,y0,gz,gi,go,i1,i2⟩:=id st
   refine wpAny_pyIter_zip gz ⟨_,[s1.heap.objs.size,s1.heap.objs.size+1,s1.heap.objs.size+2,s1.heap.objs.size+3,s1.heap.objs.size+4],_,Itz X.K t1 t2 l1 l2,H1,rfl,I1.kept (t':=s1.toks) kp,turn_zip l1 l2 s1.heap.objs.size b1 b2,st,λb hb=>?_,q⟩
   have hb':s1.heap.objs.size<=b:=by
    have hb':b=s1.heap.objs.size\/b=s1.heap.objs.size+1\/b=s1.heap.objs.size+2\/b=s1.heap.objs.size+3\/b=s1.heap.objs.size+4:=by simpa using hb
    rcases hb' with rfl|rfl|rfl|rfl|rfl
    ·exact le_refl _
    ·exact Nat.le_add_right ..
    ·exact Nat.le_add_right ..
    ·exact Nat.le_add_right ..
    ·exact Nat.le_add_right ..
   exact I1.fpOk hb' (I1.hok.fresh hb')
theorem yet:bootBuiltins "sorted"=some (.builtin "sorted"):=by decide +kernel
theorem yhr:∀{us:List Value}{ns:List Int},IntsAre us ns->Vals (ns.map V.int) us
 |_,_,.nil=>.nil
 |_,_,.cons n t r=>.cons ⟨t,rfl⟩ (yhr r)
theorem yff:bootBuiltins "all"=some (.builtin "all"):=by decide +kernel
def rAllB:List V->Hp->VK->Prop:=λxs H Q=>∃(l:Addr) (bs:List Bool),xs=[.ref l]/\H l=some (.lst (bs.map V.bl))/\Q (.bl (bs.all id)) H
theorem ylg(bs:List Bool):(List.range bs.length).all (λi=>bs.getD i false)=bs.all id:=by
 rw[Bool.eq_iff_iff,List.all_eq_true,List.all_eq_true]
 constructor
 ·intro h b hb
  obtain ⟨i,hi,e⟩:=List.getElem_of_mem hb
  have:=h i (mem_range.mpr hi)
  rw[getD_eq_getElem?_getD,getElem?_eq_getElem hi]at this
  rw[<-e];exact this
 ·intro h i hi
  have hi':=mem_range.mp hi
  rw[getD_eq_getElem?_getD,getElem?_eq_getElem hi']
  exact h _ (getElem_mem hi')
theorem truth_bs{P:Program}{w:World}{A:Around}(bs:List Bool):TruthOf P w A (λi v=>(bs.map Value.bool).toArray[i]?=some v) (λi=>bs.getD i false):=by
 intro i v s Q E hP hQ
 have hP':(bs.map Value.bool)[i]?=some v:=by simpa using hP
 rw[getElem?_map]at hP'
 cases e:bs[i]? with
 |none=>rw[e]at hP';cases hP'
 |some b=>
  rw[e]at hP'
  cases hP'
  have hQ':Q (bs.getD i false) s:=hQ
  rw[getD_eq_getElem?_getD,e]at hQ'
  exact wpAny_truthy_bool hQ'
theorem yfc(hc:X.calm=true):ycs X (.builtin "all") rAllB:=by
 intro pins s σ H xs us Q I r h
 obtain ⟨l,bs,rfl,hH,q⟩:=h
 cases r with
 |cons r rr=>
  cases rr
  cases r
  obtain ⟨z,its,n,rv,hl,e⟩:=I.lstM hH
  have hi:=rv.bls
  subst hi
  have hlt:l<s.heap.objs.size:=lt_size e
  refine call_all_walk (wpAny_pyIter_list (items:=(bs.map Value.bool).toArray) ⟨_,e,rfl,n,rfl⟩ ⟨_,_,_,_,_,_,_,rfl,Walks.list (by simpa using I.ok.hd hc) s.heap.objs.size l (ne_of_lt hlt) (bs.map Value.bool).toArray,⟨⟨_,get?_push_size _ rfl,rfl,rfl⟩,⟨_,get?_push_of_some _ e,rfl,n,rfl⟩⟩,truth_bs bs,λh' tk hk=>?_⟩)
  rw[size_toArray,length_map,ylg]
  refine ⟨.bl (bs.all id),H,I.kept λb o g=>hk b o ?_ (get?_push_of_some _ g),rfl,q⟩
  intro hb
  rw[mem_singleton]at hb
  exact absurd (lt_size g) (by rw[hb];exact lt_irrefl _)
end
section
variable {X:Cx}{a b:Expr}{ta tb:TE}{pos:Pos}
def rCatS(K:W.Frag):R2:=λx y H Q=>∃l b xs zs,x=.ref l/\y=.ref b/\SqL K H l xs/\SqL K H b zs/\xs.length+zs.length<=sizeLine/\∀p,H p=none->Q (.ref p) (upd H p (.lst (xs++zs)))
theorem op_catS:OpR X (binaryOp .Add) (rCatS X.K):=by
 intro pins s σ H x y v u Q I rx ry h
 obtain ⟨l,b,xs,zs,rfl,rfl,hH,hB,hz,q⟩:=h
 cases rx
 cases ry
 obtain ⟨vs,r,pl,_⟩:=I.list hH
 obtain ⟨ws,r2,pl2,_⟩:=I.list hB
 obtain ⟨⟨cls,dd,data,sl⟩,ho,hc,n,hd⟩:=pl.isList
 obtain ⟨⟨cls2,dd2,data2,sl2⟩,ho2,hc2,n2,hd2⟩:=pl2.isList
 simp only at hc hd hc2 hd2
 subst hc hd hc2 hd2
 have l1:=r.length
 have l2:=r2.length
 refine concat_meets ⟨_,ho,rfl⟩ ⟨_,ho2,rfl⟩ noFill_list_add seq_list_add PySem.F.slot_list_add PySem.F.entry_list_add (PySem.F.args_list_add_2 _ _) (list_addW l b vs.toArray ws.toArray n n2 dd dd2 sl sl2 (by simp;omega)) ⟨ho,ho2,?_⟩
 have ea:vs.toArray++ws.toArray=(vs++ws).toArray:=by simp
 rw[ea]
 exact ⟨.ref _,_,I.lnew (t':=s.toks) (r.append r2) (by rw[length_append];omega),rfl,q _ I.fresh⟩
end
section
variable {κ:Type} [DecidableEq κ]
def valV(kvs:List (κ×V))(k:κ):Option V:=(kvs.find? λkv=>decide (kv.1=k)).map (·.2)
def putK(kvs:List (κ×V))(k:κ)(v:V):List (κ×V):=
 if (kvs.any λkv=>decide (kv.1=k))=true then kvs.map (λkv=>if kv.1=k then (kv.1,v) else kv) else kvs++[(k,v)]
theorem ye7{p:κ×V}{r:List (κ×V)}{k:κ}(e:p.1=k):valV (p::r) k=some p.2:=by simp[valV,find?_cons,e]
theorem ye5{p:κ×V}{r:List (κ×V)}{k:κ}(e:¬ p.1=k):valV (p::r) k=valV r k:=by simp[valV,find?_cons,e]
theorem yhb(k:κ):∀kvs:List (κ×V),(kvs.any λkv=>decide (kv.1=k))=(valV kvs k).isSome
 |[]=>rfl
 |p::r=>by
  rw[any_cons]
  by_cases e:p.1=k
  ·simp only[ye7 e,decide_eq_true e,Bool.true_or,Option.isSome_some]
  ·rw[ye5 e,decide_eq_false e,Bool.false_or];exact yhb k r
theorem yb9(kvs:List (κ×V))(k:κ)(v:V):(putK kvs k v).length<=kvs.length+1:=by
 unfold putK
 split
 ·rw[length_map];omega
 ·rw[length_append,length_cons,length_nil];omega
theorem RelO.isSome_eq{o:Option V}{u:Option Value}(r:RelO o u):o.isSome=u.isSome:=by
 cases o with
 |none=>cases u with
  |none=>rfl
  |some _=>exact (show False from r).elim
 |some _=>cases u with
  |none=>exact (show False from r).elim
  |some _=>rfl
theorem KV.val{kvs:List (κ×V)}{vs:List (κ×Value)}(r:KV kvs vs)(k:κ):RelO (valV kvs k) (valueAt vs k):=by
 unfold KV at r
 induction r with
 |nil=>exact True.intro
 |@cons p q ps qs h t ih=>
  obtain ⟨h1,h2⟩:=h
  by_cases e:p.1=k
  ·have e':q.1=k:=h1.symm.trans e
   have b:valueAt (q::qs) k=some q.2:=by simp[valueAt,find?_cons,e']
   rw[ye7 e,b];exact h2
  ·have e':¬ q.1=k:=λz=>e (h1.trans z)
   have b:valueAt (q::qs) k=valueAt qs k:=by simp[valueAt,find?_cons,e']
   rw[ye5 e,b];exact ih
theorem KV.any{kvs:List (κ×V)}{vs:List (κ×Value)}(r:KV kvs vs)(k:κ):(kvs.any λkv=>decide (kv.1=k))=vs.any λkv=>decide (kv.1=k):=by
 unfold KV at r
 induction r with
 |nil=>rfl
 |cons h t ih=>rw[any_cons,any_cons,ih,h.1]
theorem KV.repl{kvs:List (κ×V)}{vs:List (κ×Value)}(r:KV kvs vs)(k:κ){y:V}{u:Value}(ry:RelV y u) :
  KV (kvs.map λkv=>if kv.1=k then (kv.1,y) else kv) (vs.map λkv=>if kv.1=k then (kv.1,u) else kv):=by
 unfold KV at r ⊢
 induction r with
 |nil=>exact .nil
 |@cons p q ps qs h t ih=>
  rw[map_cons,map_cons]
  refine .cons ?_ ih
  obtain ⟨h1,h2⟩:=h
  by_cases e:p.1=k
  ·rw[if_pos e,if_pos (h1.symm.trans e)];exact ⟨h1,ry⟩
  ·rw[if_neg e,if_neg (λz=>e (h1.trans z))];exact ⟨h1,h2⟩
theorem KV.put{kvs:List (κ×V)}{vs:List (κ×Value)}(r:KV kvs vs)(k:κ){y:V}{u:Value}(ry:RelV y u):KV (putK kvs k y) (stored vs k u):=by
 unfold putK stored
 rw[r.any k]
 by_cases e:(vs.any λkv=>decide (kv.1=k))=true
 ·rw[if_pos e,if_pos e];exact r.repl k ry
 ·rw[if_neg e,if_neg e];exact Paired.snoc r ⟨rfl,ry⟩
theorem KV.length{kvs:List (κ×V)}{vs:List (κ×Value)}(r:KV kvs vs):kvs.length=vs.length:=Paired.length r
end
theorem yi8{P:Program}{w:World}{k:Key}{u:Value}(r:RelV (kV k) u):(yat P w).is k u=true:=by
 cases k with
 |inl i=>obtain ⟨t,e⟩:=(show ∃t,u=Value.int i t from r);subst e;exact yiw P w i t
 |inr x=>obtain ⟨t,e⟩:=(show ∃t,u=Value.str x t from r);subst e;exact qi1 P w x t
theorem qh2{P:Program}{w:World}:∀{ks:List Key}{us:List Value},Vals (ks.map kV) us->ItemsAre (yat P w) ks us
 |[],_,r=>by rw[map_nil]at r;cases r;exact .nil
 |k::ks,_,r=>by
  rw[map_cons]at r
  cases r with
  |cons h t=>exact .cons (yi8 h) (qh2 t)
abbrev KT(H:Hp):List (List Key×V)->List (List Key×Addr×Value)->Prop:=Paired λp q=>p.1=q.1/\H q.2.1=some (.tup (p.1.map kV))/\RelV p.2 q.2.2
theorem KT.val{H:Hp}{kvs:List (List Key×V)}{xs:List (List Key×Addr×Value)}(r:KT H kvs xs)(k:List Key):RelO (valV kvs k) ((atKey xs k).map (·.2)):=by
 induction r with
 |nil=>exact True.intro
 |@cons p q ps qs h t ih=>
  obtain ⟨h1,_,h2⟩:=h
  by_cases e:p.1=k
  ·have e':q.1=k:=h1.symm.trans e
   have b:atKey (q::qs) k=some q.2:=by simp[atKey,find?_cons,e']
   rw[ye7 e,b];exact h2
  ·have e':¬ q.1=k:=λz=>e (h1.trans z)
   have b:atKey (q::qs) k=atKey qs k:=by simp[atKey,find?_cons,e']
   rw[ye5 e,b];exact ih
theorem KT.repl{H:Hp}{kvs:List (List Key×V)}{xs:List (List Key×Addr×Value)}(r:KT H kvs xs)(k:List Key){y:V}{u:Value}(ry:RelV y u) :
  KT H (kvs.map λkv=>if kv.1=k then (kv.1,y) else kv) (xs.map (putAt k u)):=by
 induction r with
 |nil=>exact .nil
 |@cons p q ps qs h t ih=>
  rw[map_cons,map_cons]
  refine .cons ?_ ih
  obtain ⟨h1,h2,h3⟩:=h
  unfold putAt
  by_cases e:p.1=k
  ·rw[if_pos e,if_pos (h1.symm.trans e)];exact ⟨h1,h2,ry⟩
  ·rw[if_neg e,if_neg (λz=>e (h1.trans z))];exact ⟨h1,h2,h3⟩
theorem KT.put{H:Hp}{kvs:List (List Key×V)}{xs:List (List Key×Addr×Value)}(r:KT H kvs xs)(k:List Key){b:Addr}{y:V}{u:Value}(hb:H b=some (.tup (k.map kV)))(ry:RelV y u) :
  KT H (putK kvs k y) (storedH xs k b u):=by
 have e:(kvs.any λkv=>decide (kv.1=k))=(atKey xs k).isSome:=by
  rw[yhb,(r.val k).isSome_eq,Option.isSome_map]
 unfold putK storedH
 rw[e]
 by_cases q:(atKey xs k).isSome=true
 ·rw[if_pos q,if_pos q];exact r.repl k ry
 ·rw[if_neg q,if_neg q];exact Paired.snoc r ⟨rfl,hb,ry⟩
theorem KT.keeps{H H':Hp}{kvs:List (List Key×V)}{xs:List (List Key×Addr×Value)}(r:KT H kvs xs)(ht:∀b ys,H b=some (.tup ys)->H' b=some (.tup ys)):KT H' kvs xs:=
 Paired.mapP r λ_ _ z=>⟨z.1,ht _ _ z.2.1,z.2.2⟩
section
variable {P:Program}{w:World}{H:Hp}{h:Heap}{a:Addr}
theorem rd_of{u:HO}(ok:HOk P w H h)(e:Rd H a u):yay P w H h a u:=e.ok ok
theorem dk_rd{kvs:List (Key×V)}(ok:HOk P w H h)(e:Rd H a (.dK kvs)):kvs.length<=sizeLine/\(a == sysModules)=false/\∃vs,KV kvs vs/\h.DictOf (yat P w) a vs:=
 show yay P w H h a (.dK kvs) from rd_of ok e
theorem dk_of{kvs:List (Key×V)}(ok:HOk P w H h)(e:H a=some (.dK kvs)):kvs.length<=sizeLine/\(a == sysModules)=false/\∃vs,KV kvs vs/\h.DictOf (yat P w) a vs:=dk_rd ok (.inl e)
theorem yga{ks:List Key}(ok:HOk P w H h)(e:H a=some (.tup (ks.map kV))):(tupleKind (yat P w)).is h ks a:=by
 obtain ⟨_,its,r,o,h1,h2,n,h3⟩:=(show yay P w H h a (.tup (ks.map kV)) from ok a _ e)
 exact ⟨o,its.toArray,n,h1,h2,h3,by simpa using qh2 r⟩
theorem dt_rd{kvs:List (List Key×V)}(ok:HOk P w H h)(e:Rd H a (.dT kvs)):kvs.length<=sizeLine/\(a == sysModules)=false/\
  ∃xs,KT H kvs xs/\h.DictOfH (tupleKind (yat P w)) a xs:=by
 obtain ⟨z,y,xs,r,o,es,ep,h1,h2,h3,h4,h5⟩:=(show yay P w H h a (.dT kvs) from rd_of ok e)
 refine ⟨z,y,xs,r,o,es,ep,h1,h2,h3,h4,λx hx=>?_,h5⟩
 have all:∀{l:List (List Key×V)}{m:List (List Key×Addr×Value)},KT H l m->∀x∈m,(tupleKind (yat P w)).is h x.1 x.2.1:=by
  intro l m q
  induction q with
  |nil=>intro x hx;exact nomatch hx
  |@cons p q ps qs hq t ih=>
   intro x hx
   rcases mem_cons.mp hx with e|hx
   ·subst e
    exact yga ok (by rw[<-hq.1];exact hq.2.1)
   ·exact ih x hx
 exact all r x hx
theorem dt_of{kvs:List (List Key×V)}(ok:HOk P w H h)(e:H a=some (.dT kvs)):kvs.length<=sizeLine/\(a == sysModules)=false/\
  ∃xs,KT H kvs xs/\h.DictOfH (tupleKind (yat P w)) a xs:=dt_rd ok (.inl e)
end
def DGet(H:Hp)(a:Addr)(y:V)(r:Option V):Prop:=
 (∃kvs k,Rd H a (.dK kvs)/\y=kV k/\r=valV kvs k)\/∃kvs k b,Rd H a (.dT kvs)/\y=.ref b/\H b=some (.tup (k.map kV))/\r=valV kvs k
def DPut(H:Hp)(a:Addr)(y v:V)(H':Hp):Prop:=
 (∃kvs k,H a=some (.dK kvs)/\y=kV k/\kvs.length<sizeLine/\H'=upd H a (.dK (putK kvs k v)))\/
 ∃kvs k b,H a=some (.dT kvs)/\y=.ref b/\H b=some (.tup (k.map kV))/\kvs.length<sizeLine/\H'=upd H a (.dT (putK kvs k v))
theorem DGet.k{H:Hp}{a:Addr}{kvs:List (Key×V)}{k:Key}(e:H a=some (.dK kvs)):DGet H a (kV k) (valV kvs k):=.inl ⟨kvs,k,.inl e,rfl,rfl⟩
theorem DGet.t{H:Hp}{a b:Addr}{kvs:List (List Key×V)}{k:List Key}(e:H a=some (.dT kvs))(eb:H b=some (.tup (k.map kV))):DGet H a (.ref b) (valV kvs k):=.inr ⟨kvs,k,b,.inl e,rfl,eb,rfl⟩
theorem DPut.t{H:Hp}{a b:Addr}{kvs:List (List Key×V)}{k:List Key}{v:V}(e:H a=some (.dT kvs))(eb:H b=some (.tup (k.map kV)))(hl:kvs.length<sizeLine) :
  DPut H a (.ref b) v (upd H a (.dT (putK kvs k v))):=.inr ⟨kvs,k,b,e,rfl,eb,hl,rfl⟩
section
variable {X:Cx}{pins:List (Addr×Obj)}{σ:St}{H:Hp}{s:Shared}{a:Addr}{y v:V}{u r:Value}{o:Option V}{A:Around}{E:Value->Shared->Prop}
theorem Inv.big(I:Inv X pins σ H s):sysModules<s.heap.objs.size:=by
 have h:mainGlobals<s.heap.objs.size:=(I.mod.glob.keeps I.bk).lt
 exact Nat.lt_trans (by decide) h
theorem qk5{Q:Value->Shared->Prop}(hu:A.units+1<cLine)(I:Inv X pins σ H s)(g:DGet H a y (some v))(ry:RelV y u)(h:∀w' s',Inv X pins σ H s'->RelV v w'->Q w' s') :
  wpAny (model X.prog X.w) A (getItem (.ref a) u) Q E s:=by
 rcases g with ⟨kvs,k,e,ey,l⟩|⟨kvs,k,b,e,ey,eb,l⟩
 ·subst ey
  obtain ⟨z,hd,vs,rel,dd⟩:=dk_rd I.hok e
  obtain ⟨w',hw,rw'⟩:=RelO.some_of (v:=v) (o:=valueAt vs k) (by rw[l];exact rel.val k)
  exact wpAny_getItem_of (yi8 ry) dd.mapOf hw (h w' _ (I.tok _) rw')
 ·subst ey
  cases (show u=Value.ref b from ry)
  obtain ⟨z,hd,xs,rel,dd⟩:=dt_rd I.hok e
  obtain ⟨w',hw,rw'⟩:=RelO.some_of (v:=v) (o:=(atKey xs k).map (·.2)) (by rw[l];exact rel.val k)
  obtain ⟨p,hp,hp2⟩:=Option.map_eq_some_iff.mp hw
  refine wpAny_getItem_heap (tupleKind_room_in1 hu) (yga I.hok eb) dd hp ?_
  rw[hp2]
  exact h w' _ (I.tok _) rw'
theorem d_notIn{Q:Value->Shared->Prop}(hu:A.units+1<cLine)(I:Inv X pins σ H s)(g:DGet H a y o)(ry:RelV y u)(h:∀s',Inv X pins σ H s'->Q (.bool (!o.isSome)) s') :
  wpAny (model X.prog X.w) A (compareOp .NotIn u (.ref a)) Q E s:=by
 rcases g with ⟨kvs,k,e,ey,l⟩|⟨kvs,k,b,e,ey,eb,l⟩
 ·subst ey
  obtain ⟨z,hd,vs,rel,dd⟩:=dk_rd I.hok e
  refine wpAny_notIn_of (yi8 ry) hd dd.mapOf ?_
  rw[<-(rel.val k).isSome_eq,<-l]
  exact h _ (I.tok _)
 ·subst ey
  cases (show u=Value.ref b from ry)
  obtain ⟨z,hd,xs,rel,dd⟩:=dt_rd I.hok e
  refine wpAny_notIn_heap (tupleKind_room_in1 hu) (yga I.hok eb) hd dd ?_
  have q:=(rel.val k).isSome_eq
  rw[Option.isSome_map]at q
  rw[<-q,<-l]
  exact h _ (I.tok _)
theorem yg8{h':Heap}{t':Nat}{ob:HO}(I:Inv X pins σ H s)(mu:Mut (H a))(hs:Heap.SameBut a s.heap h')(he:∃q,h'.get? a=some q)(new:yay X.prog X.w (upd H a ob) h' a ob) :
  Inv X pins σ (upd H a ob) { s with heap:=h',toks:=t' }:=
 I.write (x:=a) (e:=a) mu (.inl rfl) (λb q hb z=>(hs.2 b hb).trans z) he new
theorem dk_new{P:Program}{w:World}{H':Hp}{h':Heap}{kvs:List (Key×V)}{vs:List (Key×Value)}(z:kvs.length<=sizeLine)(hd:(a == sysModules)=false)(rel:KV kvs vs)(dd:h'.DictOf (yat P w) a vs) :
  yay P w H' h' a (.dK kvs):=⟨z,hd,vs,rel,dd⟩
theorem ymy{H':Hp}{Q:Unit->Shared->Prop}(hu:A.units+1<cLine)(I:Inv X pins σ H s)(g:DPut H a y v H')(ry:RelV y u)(rv:RelV v r)(h:∀s',Inv X pins σ H' s'->Q () s') :
  wpAny (model X.prog X.w) A (setItem (.ref a) u r) Q E s:=by
 rcases g with ⟨kvs,k,e,ey,l,eH⟩|⟨kvs,k,b,e,ey,eb,l,eH⟩
 ·subst ey eH
  obtain ⟨z,hd,vs,rel,dd⟩:=dk_of I.hok e
  have hz:vs.length<=sizeLine:=by rw[<-rel.length];exact z
  have hl:(putK kvs k v).length<=sizeLine:=by have:=yb9 kvs k v;omega
  refine wpAny_setItem_pairs (hsz:=hz) (yi8 ry) dd λh' dd' hs=>h _ ?_
  have he:∃q,h'.get? a=some q:=let ⟨q,_,_,hq,_⟩:=dd';⟨q,hq⟩
  exact yg8 I (by rw[e];exact True.intro) hs he (dk_new hl hd (rel.put k rv) dd')
 ·subst ey eH
  cases (show u=Value.ref b from ry)
  obtain ⟨z,hd,xs,rel,dd⟩:=dt_of I.hok e
  have hz:xs.length<=sizeLine:=by rw[<-Paired.length rel];exact z
  have hl:(putK kvs k v).length<=sizeLine:=by have:=yb9 kvs k v;omega
  refine wpAny_setItem_heap (hsz:=hz) (tupleKind_room_in1 hu) (yga I.hok eb) dd λh' dd' hs=>h _ ?_
  obtain ⟨q,es,ep,hq,h2,h3,h4,_,h5⟩:=dd'
  refine yg8 I (by rw[e];exact True.intro) hs ⟨q,hq⟩ ⟨hl,hd,_,(rel.put k eb rv).keeps λc ys ec=>?_,q,es,ep,hq,h2,h3,h4,h5⟩
  rw[qag (ne_of ec e (λz=>nomatch z))]
  exact ec
end
def NoSl(i:Expr):Prop:=∀ov iv,subscripted i false ov iv=operate [ov,iv] (getItem ov iv)
theorem qk7{prog:Program}{w:World}{A:Around}{E:Value->Shared->Prop}{s:Shared}{env:Env}{value slice:Expr}{pos:Pos}{T id:String}{Q:Value->Shared->Prop}
  (hl:typeLookup (.type T) "__getitem__"=pure (some (.builtin id))) (hs:NoSl slice)
  (h:wpAny (model prog w) A (eval value env) (λo s₁=>wpAny (model prog w) A (eval slice env) (λi s₂=>s₂.TypeIs o T/\wpAny (model prog w) A (getItem o i) Q E s₂) E s₁) E s) :
  wpAny (model prog w) A (eval (.Subscript value slice pos) env) Q E s:=by
 refine Subscript_ (wpAny_mono h (λo s₁ h₁=>wpAny_mono h₁ (λi s₂ h₂=>?_) λ_ _ x=>x) λ_ _ x=>x)
 obtain ⟨hT,h₂⟩:=h₂
 unfold subscriptTail
 refine wpAny_bind ?_
 rw[getitemInPython_of_ne hT.not_modules]
 refine wpAny_bind (wpAny_specialOf hT hl ?_)
 have fin:wpAny (model prog w) A (subscripted slice false o i) (λr s₃=>wpAny (model prog w) A (letTemporaryGo value o r >>= λ_=>pure r) Q E s₃) E s₂:=by
  rw[hs o i]
  exact wpAny_operating (wpAny_mono h₂ (λr s₃ h₃=>wpAny_bind (wpAny_letTemporaryGo (wpAny_pure h₃))) λ_ _ x=>x)
 first
  |exact wpAny_pure (wpAny_bind fin)
  |exact wpAny_bind (wpAny_pure (wpAny_bind fin))
  |exact wpAny_bind fin
theorem qif{X:Cx}{pins:List (Addr×Obj)}{σ:St}{H:Hp}{s:Shared}{a:Addr}{y:V}{o:Option V}(I:Inv X pins σ H s)(g:DGet H a y o):s.TypeIs (.ref a) "dict":=by
 rcases g with ⟨kvs,k,e,_,_⟩|⟨kvs,k,b,e,_,_,_⟩
 ·obtain ⟨_,_,vs,_,dd⟩:=dk_rd I.hok e
  exact dd.typeIs
 ·obtain ⟨_,_,xs,_,dd⟩:=dt_rd I.hok e
  exact dd.typeIs
def tDGet(td ty:TE):TE:=λσ H Q=>td σ H λx H1=>ty σ H1 λy H2=>∃a v,x=.ref a/\DGet H2 a y (some v)/\Q v H2
def tDNotIn(ty td:TE):TE:=λσ H Q=>ty σ H λy H1=>td σ H1 λx H2=>∃a o,x=.ref a/\DGet H2 a y o/\Q (.bl (!o.isSome)) H2
def sDPut(td ty tv:TE):TS:=λD σ H=>tv σ H λv H1=>td σ H1 λx H2=>ty σ H2 λy H3=>∃a H4,x=.ref a/\DPut H3 a y v H4/\D.nx σ H4
section
variable {X:Cx}{o i e value:Expr}{pos pos' tpos:Pos}{td ty tv:TE}
theorem pe_dget(hu:X.A.units+1<cLine)(ho:PE X o td)(hi:PE X i ty)(hs:NoSl i):PE X (.Subscript o i pos) (tDGet td ty):=by
 intro pins s σ H Q I h
 refine qk7 PySem.F.slot_dict_getitem.lookup hs (thn (ho pins s σ H _ I h) λu s1 ⟨x,H1,I1,rx,q1⟩=>thn (hi pins s1 σ H1 _ I1 q1) λiv s2 ⟨y,H2,I2,ry,a,v,ex,g,q2⟩=>?_)
 subst ex
 obtain rfl:u=Value.ref a:=rx
 exact ⟨qif I2 g,qk5 hu I2 g ry λw' s3 I3 rw'=>⟨v,H2,I3,rw',q2⟩⟩
theorem ymn(hu:X.A.units+1<cLine)(hi:PE X i ty)(ho:PE X o td):PC X .NotIn i o (tDNotIn ty td):=by
 intro pins s σ H Q I h
 refine thn (hi pins s σ H _ I h) λiv s1 ⟨y,H1,I1,ry,q1⟩=>thn (ho pins s1 σ H1 _ I1 q1) λu s2 ⟨x,H2,I2,rx,a,ov,ex,g,q2⟩=>?_
 subst ex
 obtain rfl:u=Value.ref a:=rx
 exact d_notIn hu I2 g ry λs3 I3=>⟨.bl (!ov.isSome),H2,I3,rfl,q2⟩
theorem ps_dput(hu:X.A.units+1<cLine)(ho:PE X o td)(hi:PE X i ty)(hv:PE X value tv)(hs:swapsWith value (some (.Subscript o i pos')) pos.line X.env=pure false) :
  PS X (.Assign [.Subscript o i pos'] value pos) (sDPut td ty tv):=by
 intro pins s σ H D I h
 refine wpAny_Assign_Subscript (thn (hv pins s σ H _ I h) λr s1 ⟨v,H1,I1,rv,q1⟩=>thn (ho pins s1 σ H1 _ I1 q1) λu s2 ⟨x,H2,I2,rx,q2⟩=>thn (hi pins s2 σ H2 _ I2 q2) λiv s3 ⟨y,H3,I3,ry,a,H4,ex,g,q3⟩=>?_) hs
 subst ex
 obtain rfl:u=Value.ref a:=rx
 exact ymy hu I3 g ry rv λs4 I4=>⟨σ,H4,I4,q3⟩
end
theorem dk_empty{P:Program}{w:World}{H:Hp}(h:Heap)(hb:sysModules<h.objs.size):yay P w H (h.push { cls:=.type "dict",data:=.dict #[] }) h.objs.size (.dK []):=
 ⟨zero_le _,beq_eq_false_iff_ne.mpr (Ne.symm (ne_of_lt hb)),[],.nil,Heap.DictOf.new h⟩
theorem dt_empty{P:Program}{w:World}{H:Hp}(h:Heap)(hb:sysModules<h.objs.size):yay P w H (h.push { cls:=.type "dict",data:=.dict #[] }) h.objs.size (.dT []):=
 ⟨zero_le _,beq_eq_false_iff_ne.mpr (Ne.symm (ne_of_lt hb)),[],.nil,_,#[],0,get?_push_size _ rfl,⟨rfl,rfl,rfl⟩,rfl,rfl,nodup_nil⟩
def tDNewT:TE:=λ_ H Q=>∀p,H p=none->Q (.ref p) (upd H p (.dT []))
section
variable {X:Cx}{pos:Pos}
theorem pe_dnewT:PE X (.Dict [] [] pos) tDNewT:=λpins s σ H Q I h=>
 wpAny_Dict_empty ⟨.ref s.heap.objs.size,_,I.laid (a:=s.heap.objs.size) (o:=.dT []) (t':=s.toks) (λ_ _ q=>get?_push_of_some _ q) (le_refl _) (dt_empty s.heap I.big),rfl,h _ (I.hok.fresh (le_refl _))⟩
end
def qld:List (TE×TE)->St->Hp->(List (V×V)->Hp->Prop)->Prop
 |[],_,H,Q=>Q [] H
 | (tk,tv)::r,σ,H,Q=>tk σ H λx H1=>tv σ H1 λy H2=>qld r σ H2 λps H3=>Q ((x,y)::ps) H3
abbrev VV:List (V×V)->List (Value×Value)->Prop:=Paired λp q=>RelV p.1 q.1/\RelV p.2 q.2
def PPs(X:Cx)(pos:Pos)(keys:List (Option Expr))(values:List Expr)(trs:List (TE×TE)):Prop:=
 ∀(pins:List (Addr×Obj)) (s:Shared) (σ:St) (H:Hp) (Q:List (V×V)->Hp->Prop),Inv X pins σ H s->qld trs σ H Q->
  wpAny (model X.prog X.w) X.A (evalPairs (pairTrees keys values X.env pos)) (λvs s'=>∃ps H',Inv X pins σ H' s'/\VV ps vs/\Q ps H') X.xe s
theorem pps_nil{X:Cx}{pos:Pos}:PPs X pos [] [] []:=λpins s σ H Q I h=>pairTrees_nil_walk ⟨[],H,I,.nil,h⟩
theorem pps_cons{X:Cx}{pos:Pos}{k v:Expr}{ks:List (Option Expr)}{vs:List Expr}{tk tv:TE}{trs:List (TE×TE)}(hk:PE X k tk)(hv:PE X v tv)(hr:PPs X pos ks vs trs) :
  PPs X pos (some k::ks) (v::vs) ((tk,tv)::trs):=λpins s σ H Q I h=>
 pairTrees_cons_walk (thn (hk pins s σ H _ I h) λu s1 ⟨x,H1,I1,rx,q1⟩=>thn (hv pins s1 σ H1 _ I1 q1) λw2 s2 ⟨y,H2,I2,ry,q2⟩=>
  thn (hr pins s2 σ H2 _ I2 q2) λws s3 ⟨ps,H3,I3,rel,q3⟩=>⟨(x,y)::ps,H3,I3,.cons ⟨rx,ry⟩ rel,q3⟩)
def yfw(kvs more:List (Key×V)):List (Key×V):=more.foldl (λacc kv=>putK acc kv.1 kv.2) kvs
theorem KV.merge:∀{more:List (Key×V)}{rs:List (Key×Value)}{kvs:List (Key×V)}{vs:List (Key×Value)},KV more rs->KV kvs vs->KV (yfw kvs more) (merged vs rs):=by
 intro more rs kvs vs r
 unfold KV at r
 induction r generalizing kvs vs with
 |nil=>intro q;exact q
 |@cons p q ps qs h t ih=>
  intro r0
  have e:KV (putK kvs p.1 p.2) (stored vs q.1 q.2):=by
   have:=r0.put p.1 h.2
   rw[<-h.1];exact this
  exact ih e
theorem yd3:∀(more kvs:List (Key×V)),(yfw kvs more).length<=kvs.length+more.length
 |[],kvs=>by show kvs.length<=kvs.length+0;omega
 |p::r,kvs=>by
  have h1:=yd3 r (putK kvs p.1 p.2)
  have h2:=yb9 kvs p.1 p.2
  show (yfw (putK kvs p.1 p.2) r).length<=_
  rw[length_cons];omega
theorem qgj{P:Program}{w:World}:∀{kvs:List (Key×V)}{ws:List (Value×Value)},VV (kvs.map λkv=>(kV kv.1,kv.2)) ws->∃rs,Carries (yat P w) ws rs/\KV kvs rs
 |[],_,r=>by rw[map_nil]at r;cases r;exact ⟨[],True.intro,.nil⟩
 |p::kvs,_,r=>by
  rw[map_cons]at r
  cases r with
  |@cons a b as bs h t=>
   obtain ⟨rs,c,q⟩:=qgj (P:=P) (w:=w) t
   obtain ⟨b1,b2⟩:=b
   exact ⟨(p.1,b2)::rs,⟨yi8 h.1,rfl,c⟩,.cons ⟨rfl,h.2⟩ q⟩
def tDisp(trs:List (TE×TE)):TE:=λσ H Q=>∀p,H p=none->qld trs σ (upd H p (.dK [])) λps H2=>H2 p=some (.dK [])/\∃kvs:List (Key×V),ps=kvs.map (λkv=>(kV kv.1,kv.2))/\kvs.length<=15/\Q (.ref p) (upd H2 p (.dK (yfw [] kvs)))
theorem pe_disp{X:Cx}{pos:Pos}{keys:List (Option Expr)}{values:List Expr}{trs:List (TE×TE)}(h:PPs X pos keys values trs)(hall:keys.all (·.isSome)=true)(hl:keys.length=values.length)(h0:keys≠[])
  (h15:keys.length<=15):PE X (.Dict keys values pos) (tDisp trs):=by
 intro pins s σ H Q I q
 have hn:=I.hok.fresh (le_refl s.heap.objs.size)
 have I1:=I.laid (a:=s.heap.objs.size) (o:=.dK []) (h':=s.heap.push { cls:=.type "dict",data:=.dict #[] }) (t':=s.toks) (λ_ _ q=>get?_push_of_some _ q) (le_refl _) (dk_empty s.heap I.big)
 refine wpAny_Dict_walk (knd:=yat X.prog X.w) hall hl h0 h15 (thn (h pins _ σ _ _ I1 (q _ hn)) λws s2 ⟨ps,H2,I2,rel,e,kvs,ep,lk,q2⟩=>?_)
 subst ep
 obtain ⟨rs,c,rk⟩:=qgj (P:=X.prog) (w:=X.w) rel
 obtain ⟨z,hd,vs0,r0,dd⟩:=dk_of I2.hok e
 cases r0
 refine ⟨rs,c,dd,λh' dd' hs=>⟨.ref s.heap.objs.size,_,?_,rfl,q2⟩⟩
 have hz:(yfw [] kvs).length<=sizeLine:=by
  have h1:=yd3 kvs []
  rw[length_nil]at h1
  rw[sizeLine_eq];omega
 have he:∃q,h'.get? s.heap.objs.size=some q:=let ⟨q,_,_,hq,_⟩:=dd';⟨q,hq⟩
 exact yg8 I2 (by rw[e];exact True.intro) hs he (dk_new hz hd (rk.merge .nil) dd')
section
variable {κ:Type} [DecidableEq κ]
theorem valV_in{kvs:List (κ×V)}{k:κ}{v:V}(h:valV kvs k=some v):k∈kvs.map (·.1):=by
 have q:(kvs.any λkv=>decide (kv.1=k))=true:=by
  rw[yhb,h]
  all_goals rfl
 obtain ⟨p,hp,e⟩:=List.any_eq_true.mp q
 exact mem_map.mpr ⟨p,hp,of_decide_eq_true e⟩
end
end L2
namespace Mx
open PySem L2 PyProof.Rows
structure QE(X:Cx)(e:Expr)(t:TE):Prop where
 of:PE X e t
structure QPs(X:Cx)(pos:Pos)(keys:List (Option Expr))(values:List Expr)(trs:List (TE×TE)):Prop where
 of:PPs X pos keys values trs
section
variable {X:Cx}{e o i:Expr}{te td ty:TE}{pos:Pos}
theorem qaa(h:PE X e te):QE X e te:=⟨h⟩
theorem qps_nil:QPs X pos [] [] []:=⟨pps_nil⟩
theorem qjr{k v:Expr}{ks:List (Option Expr)}{vs:List Expr}{tk tv:TE}{trs:List (TE×TE)}(hk:QE X k tk)(hv:QE X v tv)(hr:QPs X pos ks vs trs):QPs X pos (some k::ks) (v::vs) ((tk,tv)::trs):=⟨pps_cons hk.of hv.of hr.of⟩
theorem qe_disp{keys:List (Option Expr)}{values:List Expr}{trs:List (TE×TE)}(h:QPs X pos keys values trs)(hall:keys.all (·.isSome)=true)(hl:keys.length=values.length)(h0:keys≠[])(h15:keys.length<=15):QE X (.Dict keys values pos) (tDisp trs):=⟨pe_disp h.of hall hl h0 h15⟩
theorem qlw(hu:X.A.units+1<cLine)(ho:QE X o td)(hi:QE X i ty)(hs:NoSl i):QE X (.Subscript o i pos) (tDGet td ty):=⟨pe_dget hu ho.of hi.of hs⟩
theorem yc7{i:Nat}{x:Str}{pos':Pos}(hN:X.N.Nodup)(hi:X.N[i]?=some x)(hx:Loc X.env.scope x)(he:QE X e te)(hs:swapsWith e (some (.Name x pos')) pos.line X.env=pure false:=by rfl)(hf:X.fn x=true\/X.env.scope.names.lookup x=some .local:=by first|exact .inl rfl|exact .inr rfl|assumption) :
  QS X (.Assign [.Name x pos'] e pos) (tAsg te (yf3 i)):=⟨ql1 hN hi hx he.of hs hf⟩
theorem qsE(i:Nat){x:Str}{pos':Pos}(hN:X.N.Nodup)(he:QE X e te)(hi:X.N[i]?=some x:=by rfl)(hx:Loc X.env.scope x:=by exact Or.inl rfl)(hs:swapsWith e (some (.Name x pos')) pos.line X.env=pure false:=by rfl)(hf:X.fn x=true\/X.env.scope.names.lookup x=some .local:=by first|exact .inl rfl|exact .inr rfl|assumption):QS X (.Assign [.Name x pos'] e pos) (tAsg te (yf3 i)):=yc7 hN hi hx he hs hf
theorem yah(he:QE X e te):QS X (.Return (some e) pos) (tRet te):=⟨yb6 he.of⟩
structure QT(X:Cx)(e:Expr)(t:TT):Prop where
 of:PT X e t
theorem qe2{t:TT}(h:PT X e t):QT X e t:=⟨h⟩
theorem yao{a b:List Stmt}{t u:TS}{c:Expr}{tc:TT}(hc:QT X c tc)(ha:QSs X a t)(hb:QSs X b u):QS X (.If c a b pos) (tIfS tc t u):=⟨yie hc.of ha.of hb.of⟩
theorem qaj{a b:Expr}{ta tb:TE}{op:CmpOp}{r:R2}(ho:OpR X (compareOp op) r)(ha:QE X a ta)(hb:QE X b tb)(hm:behindInMarks op b=false):QT X (.Compare a [op] [b] pos) (tTest (tOp r ta tb)):=⟨qb1 ho ha.of hb.of hm⟩
theorem yap{a b:Expr}{ta tb:TE}{r:R2}(hr:IxR X r)(ha:QE X a ta)(hb:QE X b tb)(hs:qm0 b:=by intro _ _;rfl):QE X (.Subscript a b pos) (tOp r ta tb):=⟨qbe hr ha.of hb.of hs⟩
structure QA(X:Cx)(es:List Expr)(t:TA):Prop where
 of:PA X es t
theorem qad:QA X [] tNil:=⟨yae⟩
theorem qao{es:List Expr}{t:TA}(h:QA X es t):QE X (.List es pos) (tLst t):=⟨qc3 h.of⟩
theorem ybm{es:List Expr}{k}{t:TA}(h:QA X es t):QE X (.Tuple es k pos) (tTup t):=⟨ybu h.of⟩
end
section
variable {X:Cx}{e a b c:Expr}{es:List Expr}{te ta tb:TE}{t:TA}{tA tB':TT}{pos p:Pos}{x:Str}{rest:List Expr}
theorem qau{k:Const}{j}(ha:QE X (.Constant k j pos) te)(hr:QA X es t):QA X (.Constant k j pos::es) (ydm te t):=⟨pa_cs ha.of hr.of⟩
theorem yaf{x:Str}(ha:QE X (.Name x pos) te)(hr:QA X es t):QA X (.Name x pos::es) (ydm te t):=⟨yel ha.of hr.of⟩
theorem qd7{f xs ks}(ha:QE X (.Call f xs ks pos) te)(hr:QA X es t):QA X (.Call f xs ks pos::es) (ydm te t):=⟨pa_cl ha.of hr.of⟩
theorem ydl{o i:Expr}(ha:QE X (.Subscript o i pos) te)(hr:QA X es t):QA X (.Subscript o i pos::es) (ydm te t):=⟨qab ha.of hr.of rfl⟩
theorem yii{o i:Expr}{op}(ha:QE X (.BinOp o op i pos) te)(hr:QA X es t):QA X (.BinOp o op i pos::es) (ydm te t):=⟨qab ha.of hr.of rfl⟩
theorem yd7{xs k}(ha:QE X (.Tuple xs k pos) te)(hr:QA X es t):QA X (.Tuple xs k pos::es) (ydm te t):=⟨qab ha.of hr.of rfl⟩
theorem qfi{xs}(ha:QE X (.List xs pos) te)(hr:QA X es t):QA X (.List xs pos::es) (ydm te t):=⟨qab ha.of hr.of rfl⟩
theorem qa_ie{l o r}(ha:QE X (.IfExp l o r pos) te)(hr:QA X es t):QA X (.IfExp l o r pos::es) (ydm te t):=⟨qab ha.of hr.of rfl⟩
theorem qa_lc{l o r}(ha:QE X (.ListComp l o r pos) te)(hr:QA X es t):QA X (.ListComp l o r pos::es) (ydm te t):=⟨qab ha.of hr.of rfl⟩
theorem ybd{op:Operator}{r:R2}(ho:OpR X (binaryOp op) r)(ha:QE X a ta)(hb:QE X b tb):QE X (.BinOp a op b pos) (tOp r ta tb):=⟨ybb ho ha.of hb.of⟩
theorem qd3(hc:QT X c tA)(ha:QE X a ta)(hb:QE X b tb):QE X (.IfExp c a b pos) (tIf tA ta tb):=⟨yjj hc.of ha.of hb.of⟩
theorem qe_mid(h:QE X e te):QE X e (tMid te):=⟨pe_mid h.of⟩
structure QW(X:Cx)(e:Expr)(t:TT):Prop where
 of:PW X e t
theorem qcj(ha:QT X a tA):QW X (.BoolOp .And [a] pos) tA:=⟨qi4 ha.of⟩
theorem qgn(ha:QT X a tA):QW X (.BoolOp .Or [a] pos) tA:=⟨ymj ha.of⟩
theorem qco(ha:QT X a tA)(hb:QW X (.BoolOp .And (b::rest) pos) tB'):QW X (.BoolOp .And (a::b::rest) pos) (tAnd tA tB'):=⟨ql8 ha.of hb.of⟩
theorem qi5(ha:QT X a tA)(hb:QW X (.BoolOp .Or (b::rest) pos) tB'):QW X (.BoolOp .Or (a::b::rest) pos) (tOr tA tB'):=⟨pw_or ha.of hb.of⟩
theorem QW.pt(h:QW X e tA):QT X e tA:=⟨h.of.pt⟩
theorem ydd(ha:QT X a tA):QT X (.UnaryOp .Not a pos) (tNot tA):=⟨qgg ha.of⟩
theorem qbq{f xs ks}(h:QE X (.Call f xs ks pos) te):QT X (.Call f xs ks pos) (tB te):=⟨yeu h.of⟩
variable {id T:String}{r:List V->Hp->VK->Prop}
theorem qas(hc:ycs X (.builtin id) r)(hg:Gl X x)(hm:X.mg x=none)(hv:bootBuiltins x=some (.builtin id))(ha:QA X (e::es) t)(hn:x≠"__name__":=by decide)(hdb:(x == ("__debug__" : Str))=false:=by decide)
  (he:starEach (e::es) X.env=(false,eval e X.env)::starEach es X.env:=by rfl) (hpl:(backTo pos (starEach es X.env)).any (·.1)=false:=by rfl):QE X (.Call (.Name x p) (e::es) [] pos) (tCB r t):=⟨qan hc hg hm hv ha.of hn hdb he hpl⟩
theorem qa9(hc:ycs X (.type T) r)(hg:Gl X x)(hm:X.mg x=none)(hv:bootBuiltins x=some (.type T))(ha:QA X (e::es) t)(hn:x≠"__name__":=by decide)(hdb:(x == ("__debug__" : Str))=false:=by decide)
  (he:starEach (e::es) X.env=(false,eval e X.env)::starEach es X.env:=by rfl) (hpl:(backTo pos (starEach es X.env)).any (·.1)=false:=by rfl):QE X (.Call (.Name x p) (e::es) [] pos) (tCB r t):=⟨yfy hc hg hm hv ha.of hn hdb he hpl⟩
theorem qah{k m:Nat}{ps:List Str}{sp:Sp}(h:Has X.prog X.w X.K X.mg X.base k x ps sp)(hr:Room m X.A)(ha:QA X (e::es) t)(hk:k<=m:=by decide)(hg:Gl X x:=by rfl)
  (hdb:(x == ("__debug__" : Str))=false:=by decide) (he:starEach (e::es) X.env=(false,eval e X.env)::starEach es X.env:=by rfl) (hpl:(backTo pos (starEach es X.env)).any (·.1)=false:=by rfl):QE X (.Call (.Name x p) (e::es) [] pos) (tCall sp [] E0 t):=⟨qam h hr ha.of hk hg hdb he hpl⟩
structure QI(X:Cx)(tg iter:Expr)(wi:TI):Prop where
 of:PI X tg iter wi
theorem yea{tg iter:Expr}{wi:TI}(h:PI X tg iter wi):QI X tg iter wi:=⟨h⟩
theorem qbi{tg l:Expr}{tl:TE}(h:QE X l tl):QI X tg l (iList X.K tl):=⟨yck h.of⟩
theorem ya1{tg iter:Expr}{body:List Stmt}{wi:TI}{g:TG}{tb:TS}(hp:PassesOwn (model X.prog X.w) X.A X.env X.xe)(hc:X.calm=true)(hi:QI X tg iter wi)(hg:PG X tg g)(hb:QSs X body tb)(hs:∀x,foldedSetIterable iter X.env x=pure x:=by intro _;rfl):QS X (.For tg iter body [] pos) (tFor wi g tb):=⟨ps_for hp hc hi.of hg hb.of hs⟩
theorem qap(he:QE X e te)(hs:swapsWith e none pos.line X.env=pure false:=by rfl):QS X (.Expr e pos) (tDrop te):=⟨yik he.of hs⟩
theorem qjx{tg:Expr}{g:TG}(he:QE X e te)(hg:PG X tg g)(hs:swapsWithSole [tg] e pos.line X.env=pure false:=by rfl)(hw:swappedStores [tg] e X.env=pure none:=by rfl)(h1:(assignEach [tg] X.env).map (·.2)=[assign tg X.env]:=by rfl):QS X (.Assign [tg] e pos) (tAsg te g):=⟨ps_asg he.of hg hs hw h1⟩
end
theorem qaf{X:Cx}{st:Stmt}{rest ss:List Stmt}{t:TS}(h:ss=st::rest)(p:QSs X (st::rest) t):QSs X ss t:=h ▸ p
section
variable {P:Program}{w:World}{K:W.Frag}{mg:Str->Option Value}{base:Heap}
theorem Has.ofQ{x:Str}{st:Stmt}{ps N:List Str}{k:Nat}{sp:Sp}(F:FnAt K mg x st ps)(S:FnScope N ps (qac st))(len:∀vs H Q E,sp vs H Q E->vs.length=ps.length)
  (hbody:∀(f:Addr) (cdv:Value) (A:Around) (outer:List Env) (s:Shared) (H:Hp) (vs:List V) (Q:VK) (E:XK),Room k (A.deeper (envOfC x (qac st) s.heap.objs.size f cdv))->sp vs H Q E->
   ∃t,QSs (cxOf CX0 P w K mg base N x (qac st) f cdv A outer s H E).nox (qar st) t/\t { nx:=λ_ H'=>Q .non H',rt:=Q } (qd9 N vs) H):Has P w K mg base (k+1) x ps sp:=
 Has.of F S len λf cdv A outer s H vs Q E hr h=>by
  obtain ⟨t,h1,h2⟩:=hbody f cdv A outer s H vs Q E hr h
  exact ⟨t,h1.of,h2⟩
theorem Fun.okQ{x qual:Str}{st:Stmt}{f:Addr}{fd:FuncData}{N ps:List Str}{k:Nat}{sp:Sp}(F:Fun K x qual st f fd)(S:FnScope N ps (qac st))(len:∀vs H Q E,sp vs H Q E->vs.length=ps.length)
  (hbody:∀(cdv:Value) (A:Around) (outer:List Env) (s:Shared) (H:Hp) (vs:List V) (Q:VK) (E:XK),Room k (A.deeper (envOfC qual (qac st) s.heap.objs.size f cdv))->sp vs H Q E->
   ∃t,QSs (cxOf CX0 P w K mg base N qual (qac st) f cdv A outer s H E).nox (qar st) t/\t { nx:=λ_ H'=>Q .non H',rt:=Q } (qd9 N vs) H):FnOk P w K mg base CX0 (k+1) f fd ps sp:=
 F.ok S len λcdv A outer s H vs Q E hr h=>by
  obtain ⟨t,h1,h2⟩:=hbody cdv A outer s H vs Q E hr h
  exact ⟨t,h1.of,h2⟩
end
def qbg(K:W.Frag)(C:Addr)(m qual:Str)(st:Stmt)(ps:List Str):Prop:=∃f fd,Meth K C m f/\Fun K m qual st f fd/\yc6 K fd ps []
def HasM(P:Program)(w:World)(K:W.Frag)(mg:Str->Option Value)(base:Heap)(C:Addr)(k:Nat)(m:Str)(ps:List Str)(sp:Sp):Prop:=
 ∃f fd,Meth K C m f/\yc6 K fd ps []/\FnOk P w K mg base CX0 k f fd ps sp
def HasI(P:Program)(w:World)(K:W.Frag)(mg:Str->Option Value)(base:Heap)(C:Addr)(k:Nat)(x:Str)(ps:List Str)(sp:Sp):Prop:=
 ∃f fd,mg x=some (.ref C)/\Mk K C f/\yc6 K fd ps []/\FnOk P w K mg base CX0 k f fd ps sp
section
variable {P:Program}{w:World}{K:W.Frag}{mg:Str->Option Value}{base:Heap}{C:Addr}
theorem HasM.ofQ{m qual:Str}{st:Stmt}{ps N:List Str}{k:Nat}{sp:Sp}(F:qbg K C m qual st ps)(S:FnScope N ps (qac st))(len:∀vs H Q E,sp vs H Q E->vs.length=ps.length)
  (hbody:∀(f:Addr) (cdv:Value) (A:Around) (outer:List Env) (s:Shared) (H:Hp) (vs:List V) (Q:VK) (E:XK),Room k (A.deeper (envOfC qual (qac st) s.heap.objs.size f cdv))->sp vs H Q E->
   ∃t,QSs (cxOf CX0 P w K mg base N qual (qac st) f cdv A outer s H E).nox (qar st) t/\t { nx:=λ_ H'=>Q .non H',rt:=Q } (qd9 N vs) H):HasM P w K mg base C (k+1) m ps sp:=by
 obtain ⟨f,fd,h1,h2,h3⟩:=F
 exact ⟨f,fd,h1,h3,Mx.Fun.okQ h2 S len λcdv A outer s H vs Q E hr h=>hbody f cdv A outer s H vs Q E hr h⟩
theorem HasI.of{x m:Str}{ps:List Str}{k:Nat}{sp:Sp}{f:Addr}(hm:mg x=some (.ref C))(M:Mk K C f)(u:∀g,Meth K C "__init__" g->g=f)(h:HasM P w K mg base C k "__init__" ps sp):HasI P w K mg base C k x ps sp:=by
 obtain ⟨g,fd,h1,h2,h3⟩:=h
 have:=u g h1
 subst this
 exact ⟨g,fd,hm,M,h2,h3⟩
theorem qmw{m:Str}{f g:Addr}(a:W.findIn K (.ref C) m=some (some (.ref f)))(b:Meth K C m g):g=f:=by
 have:=b.at_
 rw[a]at this
 cases this
 rfl
end
section
variable {X:Cx}{e o value:Expr}{es:List Expr}{te ta tv:TE}{t:TA}{pos p apos pos':Pos}{C:Addr}{m x f:Str}
theorem qcy{k n:Nat}{ps:List Str}{sp:Sp}{pl:Sem Bool}(c:Cls X.K C)(h:HasM X.prog X.w X.K X.mg X.base C k m ps sp)(hr:Room n X.A)(he:QE X o ta)(ha:QA X (e::es) t)(hk:k<=n:=by decide)
  (hst:starEach (e::es) X.env=(false,eval e X.env)::starEach es X.env:=by rfl) (hpl:(backTo pos (starEach es X.env)).any (·.1)=false:=by rfl)
  (ht:eval (.Call (.Attribute o m apos) (e::es) [] pos) X.env=(do
   let ov <-eval o X.env
   standAt apos.atName
   let (f,first) <-holding [ov] (getMethod ov m pl)
   callWith pos f first (backTo pos (starEach (e::es) X.env)) (backToKw pos (keywordEach [] X.env))):=by rfl) :
  QE X (.Call (.Attribute o m apos) (e::es) [] pos) (tMeth C m sp [] E0 ta t):=by
 obtain ⟨f,fd,h1,h2,h3⟩:=h
 exact ⟨pe_meth (pl:=pl) he.of c h1 h3 (hr.mono hk) h2 .nil pass0 ha.of hst hpl ht⟩
theorem qhv{k n:Nat}{ps:List Str}{sp:Sp}{pl:Sem Bool}(c:Cls X.K C)(h:HasM X.prog X.w X.K X.mg X.base C k m ps sp)(hr:Room n X.A)(he:QE X o ta)(hk:k<=n:=by decide)
  (ht:eval (.Call (.Attribute o m apos) [] [] pos) X.env=(do
   let ov <-eval o X.env
   standAt apos.atName
   let (f,first) <-holding [ov] (getMethod ov m pl)
   callWith pos f first (backTo pos (starEach [] X.env)) (backToKw pos (keywordEach [] X.env))):=by rfl) :
  QE X (.Call (.Attribute o m apos) [] [] pos) (tMeth C m sp [] E0 ta tNil):=by
 obtain ⟨f,fd,h1,h2,h3⟩:=h
 exact ⟨pe_meth0 (pl:=pl) he.of c h1 h3 (hr.mono hk) h2 .nil pass0 ht⟩
theorem qjl{k n:Nat}{ps:List Str}{sp:Sp}(h:HasI X.prog X.w X.K X.mg X.base C k x ps sp)(hr:Room n X.A)(ha:QA X (e::es) t)(hk:k+1<=n:=by decide)(hg:Gl X x:=by rfl)
  (hdb:(x == ("__debug__" : Str))=false:=by decide) (he:starEach (e::es) X.env=(false,eval e X.env)::starEach es X.env:=by rfl) (hpl:(backTo pos (starEach es X.env)).any (·.1)=false:=by rfl) :
  QE X (.Call (.Name x p) (e::es) [] pos) (tMake C sp [] E0 t):=by
 obtain ⟨f,fd,h0,h1,h2,h3⟩:=h
 exact ⟨pe_make h1 h3 (hr.mono hk) hg h0 h2 .nil pass0 ha.of hdb he hpl⟩
theorem qce(he:QE X e ta)(hb:attributeBase e f X.env (eval e X.env)=eval e X.env):QE X (.Attribute e f pos) (tFld X.K ta f):=⟨pe_fld he.of hb⟩
theorem qhn(ha:QE X o ta)(hv:QE X value tv)(hs:swapsWith value (some (.Attribute o f pos')) pos.line X.env=pure false):QS X (.Assign [.Attribute o f pos'] value pos) (sFld X.K ta tv f):=⟨ps_fld ha.of hv.of hs⟩
theorem qfy{b:Expr}{g:Str}(ha:QE X (.Attribute b g pos) te)(hr:QA X es t):QA X (.Attribute b g pos::es) (ydm te t):=⟨qab ha.of hr.of rfl⟩
end
end Mx
namespace L2
open PySem PySem.Spec PyProof.Rows
def yiq(n:Nat):List V:=(List.range n).map λi:Nat=>V.int i
theorem qj3:∀{n:Nat}{acc:Array Value},ItemsOf (λi v=>∃t,v=Value.int (0+(i:Int)*1) t) acc n->Vals (yiq n) acc.toList:=by
 intro n acc h
 have go:∀(k:Nat) (l:List Value),(∀(j:Nat) v,l[j]?=some v->∃t,v=Value.int ((k+j:Nat):Int) t)->Vals ((List.range' k l.length).map λi:Nat=>V.int i) l:=by
  intro k l
  induction l generalizing k with
  |nil=>intro _;exact .nil
  |cons v l ih=>
   intro hj
   obtain ⟨t,rfl⟩:=hj 0 v rfl
   rw[length_cons,List.range'_succ,map_cons]
   refine .cons ⟨t,by simp⟩ (ih (k+1) λj v hv=>?_)
   obtain ⟨t,e⟩:=hj (j+1) v (by simpa using hv)
   exact ⟨t,by rw[e];congr 1;omega⟩
 have:=go 0 acc.toList λj v hv=>by
  obtain ⟨t,e⟩:=h.2 j v (by simpa using hv)
  exact ⟨t,by rw[e];congr 1;omega⟩
 have hl:acc.toList.length=n:=by rw[length_toList];exact h.1
 rw[hl]at this
 unfold yiq
 rw[List.range_eq_range']
 exact this
section
variable {X:Cx}
def tLR(ta:TA):TE:=λσ H Q=>ta σ H λvs H1=>∃n:Nat,vs=[.int (n:Int)]/\n<=1000/\∀l,H1 l=none->Q (.ref l) (upd H1 l (.lst (yiq n)))
theorem qex{a:Expr}{ta:TA}{p p2 pos pos2:Pos}(hh:X.A.handled=none)(hgl:Gl X "list")(hml:X.mg "list"=none)(hgr:Gl X "range")(hmr:X.mg "range"=none)(ha:PA X [a] ta)
  (hs:starEach [a] X.env=[(false,eval a X.env)]:=by rfl)
  (hs2:starEach [.Call (.Name "range" p2) [a] [] pos2] X.env=[(false,eval (.Call (.Name "range" p2) [a] [] pos2) X.env)]:=by rfl) :
  PE X (.Call (.Name "list" p) [.Call (.Name "range" p2) [a] [] pos2] [] pos) (tLR ta):=by
 intro pins s σ H Q I h
 refine Call_ (yc3 I hgl hml boot_list (PyProof.Rows.callWith_type1 ?_ hs2 rfl))
 rw[hs2]
 show wpAny _ _ (spliced ((false,eval (.Call (.Name "range" p2) [a] [] pos2) X.env)::backTo pos (starEach [] X.env))) _ _ s
 refine Calls.spliced_cons ?_
 refine Call_ (yc3 I hgr hmr boot_range (PyProof.Rows.callWith_type1 (thn (ha pos2 pins s σ H _ I h) λus s1 ⟨vs,H1,I1,r1,q1⟩=>?_) hs rfl))
 obtain ⟨n,e,hn,q⟩:=q1
 subst e
 obtain ⟨u,rfl,r⟩:=yhm r1
 obtain ⟨t,rfl⟩:=r
 refine call_range_1 ?_
 refine Calls.spliced_nil ?_
 have I2:Inv X pins σ H1 { s1 with heap:=s1.heap.push { cls:=.type "range",data:=.fields #[.int 0 s1.toks,.int n t,.int 1 (s1.toks+1)] },toks:=s1.toks+1+1 }:=I1.kept λb o e=>get?_push_of_some _ e
 refine call_list_range (n:=n) hh (IsRange.new ..) (small_one (by omega) (by omega) (by omega) (by omega)) (by rw[rangeSize_one];split<;>omega) (by omega) λh' tk acc' c' kp e hi=>?_
 have r':=qj3 hi
 have hl:(yiq n).length=n:=by simp[yiq]
 exact ⟨.ref _,_,I2.laid (t':=tk) kp (le_refl _) (show yay X.prog X.w _ h' _ (.lst (yiq n)) from ⟨by rw[hl];exact le_trans hn (by decide),acc'.toList,c',r',by simpa using e⟩),rfl,q _ (I2.hok.fresh (le_refl _))⟩
theorem Vals.rev:∀{xs:List V}{us:List Value},Vals xs us->Vals xs.reverse us.reverse
 |[],[],_=>.nil
 |x::xs,u::us,.cons a r=>by
  rw[List.reverse_cons,List.reverse_cons]
  exact Vals.append (Vals.rev r) (.cons a .nil)
end
end L2
namespace L2
open PySem PySem.Spec PyProof.Rows PySem.W
structure Fly(h:Heap)(H:Hp)(a T:Addr):Prop where
 ob:∃o vs,h.get? a=some o/\o.data=.fields vs/\vs[1]?=some (.ref T)
 ne:T≠a
 fr:H T=none
 tb:∃oT ts,h.get? T=some oT/\oT.data=.fields ts/\ts[3]?=some .none
def CX1(P:Program)(w:World):CXT:=λouter H s E e s'=>∃a T C dx H',e=.ref a/\s'.os=s.os/\AllBare s'.gens/\Un (frs outer) [] H H' s.heap s'.heap/\HOk P w H' s'.heap/\
 H' a=some (.ext (ycj a C dx))/\Fly s'.heap H' a T/\E (.ref a) none H'
def Raw(h:Heap)(a:Addr):Prop:=∃o vs,h.get? a=some o/\o.data=.fields vs/\vs[1]?=some .none
theorem setSame{ts:Array Value}{i:Nat}{v:Value}(h:ts[i]?=some v):ts.setIfInBounds i v=ts:=by
 apply Array.ext_getElem?
 intro j
 by_cases e:i=j
 ·subst e
  rw[Array.getElem?_setIfInBounds_self_of_lt (Array.getElem?_eq_some_iff.mp h).1,h]
 ·rw[Array.getElem?_setIfInBounds_ne e]
theorem qmz{o:Obj}{ts:Array Value}{i:Nat}{v:Value}(hd:o.data=.fields ts)(h:ts[i]?=some v):Obj.mapFields (·.setIfInBounds i v) o=o:=by
 obtain ⟨c,d,dt,sl⟩:=o
 simp only at hd
 subst hd
 unfold Obj.mapFields
 simp only[setSame h]
theorem mapDict(f:Array Value->Array Value)(o:Obj):(Obj.mapFields f o).dict=o.dict:=by
 obtain ⟨c,d,dt,sl⟩:=o
 cases dt<;>rfl
section
variable {X:Cx}{pins:List (Addr×Obj)}{σ:St}{H:Hp}{s:Shared}{a C:Addr}{dx:Option Addr}
theorem fly_un{h1 h':Heap}{T':Addr}(I:Inv X pins σ H s)(ha:H a=some (.ext (ycj a C dx)))(h1s:Heap.SlotsOnly (frs X.stack) s.heap h1)(hT:T'=h1.objs.size)
  (keep:∀b o,b≠a->h1.get? b=some o->h'.get? b=some o) (hx:ycj a C dx h'):Un (frs X.stack) [] H H s.heap h'/\HOk X.prog X.w H h'/\H T'=none/\s.heap.get? T'=none:=by
 have na:∀b,H b=none->b≠a:=λb n z=>by subst z;rw[ha]at n;cases n
 have hz:s.heap.objs.size=T':=by rw[hT,h1s.1]
 refine ⟨⟨λb o e n hb _=>keep b o (na b n) ((h1s.2.1 b hb).trans e),λb o e n hb _=>?_,λ_ _ _ n _=>n,λb o e _=>?_,λ_ _ q=>q,λ_ _ _ q=>q,λb ps q=>⟨#[],by rw[q];simp⟩⟩,λb u e=>?_,I.hok.fresh (by omega),Heap.get?_none_of_le (by omega)⟩
 ·obtain ⟨sl,q⟩:=h1s.2.2 b o e
  exact ⟨sl,keep b _ (na b n) q⟩
 ·by_cases hb:b=a
  ·subst hb;obtain ⟨o,_,q,_⟩:=hx;exact ⟨o,q⟩
  ·obtain ⟨sl,q⟩:=h1s.2.2 b o e
   exact ⟨_,keep b _ hb q⟩
 ·by_cases hb:b=a
  ·subst hb
   rw[ha]at e;cases e
   exact qjp hx
  ·refine (I.hok b u e).stay (λc v hc q=>?_) (λ_ q=>q) λ_ _ q=>q
   have hcH:H c≠none:=by
    rcases hc with z|z
    ·rw[z,e];simp
    ·rw[z];simp
   have hca:c≠a:=by
    rcases hc with z|z
    ·rw[z];exact hb
    ·intro z2;rw[z2,ha]at z;cases z
   exact keep c v hca ((h1s.2.1 c λz=>hcH (I.stkFree c z)).trans q)
theorem qja{M:Model}{E:Value->Shared->Prop}{Q:Unit->Shared->Prop}(I:Inv X pins σ H s)(hs:X.stack=X.env::X.outer)(hf:X.env.frame=some X.env.locals)(ha:H a=some (.ext (ycj a C dx)))
  (st:Raw s.heap a\/∃T,Fly s.heap H a T)
  (k:∀h' T',Inv X pins σ H { s with heap:=h' }->Fly h' H a T'->s.heap.get? T'=none->Q () { s with heap:=h' }) :
  wpAny M X.A (noteFrame (.ref a) X.env) (λ_ s1=>wpAny M X.A (setFlight (.ref a) none) Q E s1) E s:=by
 have hfr:X.A.frames=some (X.env::X.outer):=by rw[<-hs];exact I.ok.frames
 have hl:s.heap.FunFrames X.base (X.env::X.outer):=by rw[<-hs];exact I.stack
 obtain ⟨⟨o0,vs0,e0,c0,d0,dt0⟩,_⟩:=I.hok a _ ha
 have main:∀(h:Heap) (head:Value) (vs:Array Value) (o:Obj) (hadNext:Bool),(∀b,h.get? b=s.heap.get? b)->h.objs.size=s.heap.objs.size->s.heap.get? a=some o->o.data=.fields vs->1<vs.size->
   wpAny M X.A (do let x <-frameOf X.env;let pl <-entryPlaceOf X.env.locals hadNext;let b <-EntryCells.newEntry head x .none (rawInt X.env.locals) .none pl;setField (.ref a) 1 b) (λ_ s'=>wpAny M X.A (setFlight (.ref a) none) Q E s') E { s with heap:=h }:=by
  intro h head vs o hadNext hg hsz he hd hvs
  have hl':h.FunFrames X.base (X.env::X.outer):=hl.of_keeps λb o q _=>⟨o,(hg b).trans q,rfl⟩
  have hene:a∉(X.env::X.outer).filterMap (·.frame):=λhm=>by
   have:=I.stkFree a (by rw[hs];exact hm)
   rw[ha]at this;cases this
  refine wpAny_bind (wpAny_frameOf_fun (s:={ s with heap:=h }) hfr hl' hf λh₁ hs₁=>?_)
  have hs₁':Heap.SlotsOnly (frs X.stack) s.heap h₁:=by
   rw[hs]
   exact ⟨hs₁.1.trans hsz,λb hb=>(hs₁.2.1 b hb).trans (hg b),λb o q=>hs₁.2.2 b o ((hg b).trans q)⟩
  refine wpAny_bind (wpAny_entryPlaceOf λpl hpl=>?_)
  unfold EntryCells.newEntry newFields
  refine wpAny_bind (wpAny_newObj_type ?_ (hpl.sizeOk5 _ _ _ _ _))
  have he₁:h₁.get? a=some o:=(hs₁.2.1 a hene).trans ((hg a).trans he)
  have he₂:=get?_push_of_some (h:=h₁) { cls:=.type "traceback",dict:=none,data:=.fields ([head,.ref X.env.locals,.none,rawInt X.env.locals,.none]++(if pl.isEmpty then List.replicate 6 Value.none else pl)).toArray } he₁
  refine wpAny_setField he₂ hd hvs ?_
  have hTe:h₁.objs.size≠a:=ne_of_gt (lt_size he₁)
  have hd₃:=Obj.data_mapFields hd (·.setIfInBounds 1 (Value.ref h₁.objs.size))
  have he₃:=get?_update_self (Obj.mapFields (·.setIfInBounds 1 (Value.ref h₁.objs.size))) he₂ (Obj.isFreed_of_fields hd₃)
  have hT₃:=(get?_update_other (h₁.push { cls:=.type "traceback",dict:=none,data:=.fields ([head,.ref X.env.locals,.none,rawInt X.env.locals,.none]++(if pl.isEmpty then List.replicate 6 Value.none else pl)).toArray })
   (Obj.mapFields (·.setIfInBounds 1 (Value.ref h₁.objs.size))) (Ne.symm hTe)).trans (get?_push_size h₁ rfl)
  unfold setFlight
  refine wpAny_bind (wpAny_field he₃ hd₃ (x:=.ref h₁.objs.size) (by simp[hvs]) ?_)
  rw[if_pos (show (Value.ref h₁.objs.size != Value.none)=true from by simp)]
  refine wpAny_setField hT₃ rfl (by simp only[size_toArray,length_append,length_cons,length_nil]<;>omega) ?_
  have keep:∀b ob,b≠a->h₁.get? b=some ob->
    (((h₁.push { cls:=.type "traceback",dict:=none,data:=.fields ([head,.ref X.env.locals,.none,rawInt X.env.locals,.none]++(if pl.isEmpty then List.replicate 6 Value.none else pl)).toArray }).update a (Obj.mapFields (·.setIfInBounds 1 (Value.ref h₁.objs.size)))).update h₁.objs.size
     (Obj.mapFields (·.setIfInBounds 3 ((none:Option Addr).elim Value.none λf=>rawInt f)))).get? b=some ob:=λb ob hbe hb=>by
   have hbT:h₁.objs.size≠b:=ne_of_gt (lt_size hb)
   rw[get?_update_other _ _ hbT,get?_update_other _ _ (Ne.symm hbe)]
   exact get?_push_of_some _ hb
  have hea:=he₃
  have hT4:=get?_update_self (Obj.mapFields (·.setIfInBounds 3 ((none:Option Addr).elim Value.none λf=>rawInt f))) hT₃ (Obj.isFreed_of_fields (Obj.data_mapFields rfl _))
  rw[<-get?_update_other _ (Obj.mapFields (·.setIfInBounds 3 ((none:Option Addr).elim Value.none λf=>rawInt f))) hTe]at hea
  revert keep hea hT4
  generalize ((h₁.push { cls:=.type "traceback",dict:=none,data:=.fields ([head,.ref X.env.locals,.none,rawInt X.env.locals,.none]++(if pl.isEmpty then List.replicate 6 Value.none else pl)).toArray }).update a (Obj.mapFields (·.setIfInBounds 1 (Value.ref h₁.objs.size)))).update h₁.objs.size
     (Obj.mapFields (·.setIfInBounds 3 ((none:Option Addr).elim Value.none λf=>rawInt f)))=h'
  intro keep hea hT4
  rw[he]at e0;cases e0
  have hx:ycj a C dx h':=⟨_,_,hea,(Obj.cls_mapFields _ _).trans c0,(mapDict _ _).trans d0,hd₃⟩
  obtain ⟨un,ho,fr,nw⟩:=fly_un (T':=h₁.objs.size) I ha hs₁' rfl keep hx
  refine k h' h₁.objs.size (I.call' (s':={ s with heap:=h' }) (ch:=[]) rfl un ho I.bare λb z=>absurd z (by simp)) ⟨⟨_,_,hea,hd₃,by simp[hvs]⟩,hTe,fr,⟨_,_,hT4,Obj.data_mapFields rfl _,?_⟩⟩ nw
  first|(simp;done)|(rcases hpl with rfl|⟨_,_,_,_,_,_,_,rfl⟩<;>simp)
 rcases st with ⟨o,vs,he,hd,h1⟩|⟨T,⟨⟨o,vs,he,hd,h1⟩,hTa,hTn,oT,ts,hT,hdT,h3⟩⟩
 ·unfold noteFrame
  simp only[hf]
  refine wpAny_bind (wpAny_field he hd h1 ?_)
  rw[if_neg (by decide)]
  exact main s.heap _ vs o _ (λ_=>rfl) rfl he hd (Array.getElem?_eq_some_iff.mp h1).1
 ·unfold noteFrame
  simp only[hf]
  refine wpAny_bind (wpAny_field he hd h1 ?_)
  rw[if_pos (show (Value.ref T != Value.none)=true from by simp)]
  refine wpAny_bind (wpAny_field hT hdT h3 ?_)
  rw[if_neg (show ¬ ((Value.none == rawInt X.env.locals)=true) from by simp[rawInt])]
  refine wpAny_bind (wpAny_setField hT hdT (Array.getElem?_eq_some_iff.mp h3).1 ?_)
  refine main (s.heap.update T (Obj.mapFields (·.setIfInBounds 3 Value.none))) _ vs o _ (λb=>?_) (Heap.size_after_update ..) he hd (Array.getElem?_eq_some_iff.mp h1).1
  by_cases hb:b=T
  ·subst hb
   rw[hT]
   have:=get?_update_self (Obj.mapFields (·.setIfInBounds 3 Value.none)) hT (Obj.isFreed_of_fields (Obj.data_mapFields hdT _))
   rw[qmz hdT h3]at this
   exact this
  ·exact get?_update_other _ _ (Ne.symm hb)
theorem Inv.xq(I:Inv X pins σ H s)(ha:H a=some (.ext (yb3 a C dx))):Inv X pins σ (upd H a (.ext (ycj a C dx))) s:=by
 have o:=(I.hok a _ ha)
 have w:=I.write (x:=a) (e:=a) (o:=.ext (ycj a C dx)) (h':=s.heap) (t':=s.toks) (by rw[ha];exact True.intro) (.inl rfl) (λ_ _ _ e=>e) o.2.1 (qjp o.1.q)
 exact w
theorem raw_of{P:Program}{w:World}{h:Heap}(ok:HOk P w H h)(ha:H a=some (.ext (yb3 a C dx))):Raw h a:=by
 obtain ⟨⟨o,vs,e,_,_,dt,r⟩,_⟩:=ok a _ ha
 exact ⟨o,vs,e,dt,r⟩
end
section
variable {P:Program}{w:World}{K:W.Frag}{mg:Str->Option Value}{base:Heap}{N:List Str}{qual:Str}{scope:Scope}{f:Addr}{cd:Value}{A:Around}{outer:List Env}{s0:Shared}{H0:Hp}{E:XK}
abbrev cxX(P:Program)(w:World)(K:W.Frag)(mg:Str->Option Value)(base:Heap)(N:List Str)(qual:Str)(scope:Scope)(f:Addr)(cd:Value)(A:Around)(outer:List Env)(s0:Shared)(H0:Hp)(E:XK):Cx:=
 cxOf (CX1 P w) P w K mg base N qual scope f cd A outer s0 H0 E
theorem qjd{pins:List (Addr×Obj)}{σ:St}{H:Hp}{s:Shared}{a C:Addr}{dx:Option Addr}(I:Inv (cxX P w K mg base N qual scope f cd A outer s0 H0 E) pins σ H s)(ha:H a=some (.ext (ycj a C dx)))(st:Raw s.heap a\/∃T,Fly s.heap H a T)
  (hE:E (.ref a) none H):(cxX P w K mg base N qual scope f cd A outer s0 H0 E).xe (.ref a) s:=by
 show wpAny _ _ (leaving _ _) _ _ _
 unfold leaving
 exact wpAny_bind (qja (X:=cxX P w K mg base N qual scope f cd A outer s0 H0 E) I rfl rfl ha st λh' T' I' fl _=>⟨a,T',C,dx,H,rfl,I'.os,I'.bare,I'.base,I'.hok,ha,fl,hE⟩)
theorem yi9:qd8 (CX1 P w) (cxX P w K mg base N qual scope f cd A outer s0 H0 E) E:=by
 intro pins σ H s e s' I h
 obtain ⟨a,T,C,dx,H',rfl,ho,hb,un,hok,ha,fl,hE⟩:=h
 exact qjd (I.call' (ch:=[]) ho un hok hb λb z=>absurd z (by simp)) ha (.inr ⟨T,fl⟩) hE
theorem qea:PassesOwn (model P w) (cxX P w K mg base N qual scope f cd A outer s0 H0 E).A (cxX P w K mg base N qual scope f cd A outer s0 H0 E).env (cxX P w K mg base N qual scope f cd A outer s0 H0 E).xe:=PassesOwn.leaving
def tRaise(K:W.Frag)(E:XK)(te:TE):TS:=λ_ σ H=>te σ H λv H1=>∃a C dx,v=.ref a/\XTy K C/\H1 a=some (.ext (yb3 a C dx))/\E (.ref a) none (upd H1 a (.ext (ycj a C dx)))
theorem ylh{M:Model}{A:Around}{E:Value->Shared->Prop}{env:Env}{s:Shared}{a C:Addr}{o:Obj}{vs:Array Value}{Q:Flow->Shared->Prop}(X:K.In s.heap)(cx:ye0 K C=true)(hh:A.handled=none)(hx:s.heap.get? a=some o)(hc:o.cls=.ref C)(hd:o.data=.fields vs)(h1:vs[1]?=some .none)
  {x:Sem Value}{s₀:Shared} (hE:E (.ref a) s) (h:∀{R:Value->Shared->Prop},R (.ref a) s->wpAny M A x R E s₀):wpAny M A (raiseStmt env (some x) none) Q E s₀:=by
 obtain ⟨nm,qn,N,bs,bm,sn,sub,ab,col,dd,k0,k1,k2,k3,k5,cC,T⟩:=qem X cx
 have hob:(Value.ref C::bm).contains (.type "BaseException")=true:=by rw[List.contains_cons,T.hasType PySem.F.excBase_ValueError.hasBase];rfl
 unfold raiseStmt
 refine wpAny_bind (h ?_)
 obtain ⟨hp,g,d,tk,os⟩:=s
 have cC:hp.get? C=_:=cC
 have hx:hp.get? a=some o:=hx
 have hnt:(match o.data with|.cls _=>true|_=>false)=false:=by rw[hd]
 unfold excFromValue isExcClass isInstance
 repeat (first|(with_reducible refine wpAny_loadPart_at hx ?_;first|rw[hc]|(dsimp only;rw[hd]))|(with_reducible refine wpAny_loadPart_at cC ?_)|(with_reducible refine wpAny_isSubtype_exc cC ?_;rw[hob])|wp_step)
 rw[hd]
 refine wpAny_pure ?_
 rw[h1]
 refine wpAny_pure ?_
 rw[if_neg (by decide)]
 exact wpAny_pure (wpAny_raiseNew_none hh hE)
theorem ycu{x:Expr}{te:TE}{pos:Pos}(he:PE (cxX P w K mg base N qual scope f cd A outer s0 H0 E) x te):PS (cxX P w K mg base N qual scope f cd A outer s0 H0 E) (.Raise (some x) none pos) (tRaise K E te):=by
 intro pins s σ H D I h
 rw[arm_exec_Raise]
 refine wpAny_bind (wpAny_standAt ?_)
 have hx:=he pins s σ H _ I h
 show wpAny _ _ (raiseStmt _ (some (do let v <-eval x _;standAt pos;pure v)) none) _ _ _
 unfold raiseStmt
 refine wpAny_bind (wpAny_bind (thn hx λv s1 ⟨y,H1,I1,r,a,C,dx,ey,ty,ha,q⟩=>?_))
 subst ey
 obtain rfl:v=Value.ref a:=r
 refine wpAny_bind (wpAny_standAt (wpAny_pure ?_))
 obtain ⟨⟨o,vs,e1,e2,e3,e4,e5⟩,_⟩:=I1.hok a _ ha
 have lv:=qjd (I1.xq ha) yaa (.inl (raw_of I1.hok ha)) q
 have:=ylh (A:=(cxX P w K mg base N qual scope f cd A outer s0 H0 E).A) (env:=(cxX P w K mg base N qual scope f cd A outer s0 H0 E).env) (M:=model P w) (Q:=SP (cxX P w K mg base N qual scope f cd A outer s0 H0 E) pins D) (x:=pure (.ref a)) (s₀:=s1) I1.kIn ty.cx (I1.ok.hd rfl) e1 e2 e4 e5 lv (λ{R} hR=>wpAny_pure hR)
 unfold raiseStmt at this
 exact this
end
def HasX(P:Program)(w:World)(K:W.Frag)(mg:Str->Option Value)(base:Heap)(k:Nat)(x:Str)(ps:List Str)(sp:Sp):Prop:=
 ∃f fd,mg x=some (.ref f)/\W.keepIn K (.ref f)=true/\yc6 K fd ps []/\FnOk P w K mg base (CX1 P w) k f fd ps sp
section
variable {P:Program}{w:World}{K:W.Frag}{mg:Str->Option Value}{base:Heap}
theorem FnOk.ofX{x qual:Str}{st:Stmt}{f:Addr}{fd:FuncData}{N ps:List Str}{k:Nat}{sp:Sp}(F:Fun K x qual st f fd)(S:FnScope N ps (qac st))(len:∀vs H Q E,sp vs H Q E->vs.length=ps.length)
  (hbody:∀(cdv:Value) (A:Around) (outer:List Env) (s:Shared) (H:Hp) (vs:List V) (Q:VK) (E:XK),Room k (A.deeper (envOfC qual (qac st) s.heap.objs.size f cdv))->sp vs H Q E->
   ∃t,Mx.QSs (cxX P w K mg base N qual (qac st) f cdv A outer s H E) (qar st) t/\t { nx:=λ_ H'=>Q .non H',rt:=Q } (qd9 N vs) H):FnOk P w K mg base (CX1 P w) (k+1) f fd ps sp:=by
 obtain ⟨oc,od,kV,doc,pm,an,cdv,ct,osl,rfl,lk,hcd⟩:=F.ex
 refine fn_of lk hcd S len λA outer s H vs Q E hr hsp=>?_
 obtain ⟨t,h,q⟩:=hbody cdv A outer s H vs Q E hr hsp
 exact ⟨t,h.of,q⟩
theorem HasX.of{x:Str}{st:Stmt}{ps N:List Str}{k:Nat}{sp:Sp}(F:FnAt K mg x st ps)(S:FnScope N ps (qac st))(len:∀vs H Q E,sp vs H Q E->vs.length=ps.length)
  (hbody:∀(f:Addr) (cdv:Value) (A:Around) (outer:List Env) (s:Shared) (H:Hp) (vs:List V) (Q:VK) (E:XK),Room k (A.deeper (envOfC x (qac st) s.heap.objs.size f cdv))->sp vs H Q E->
   ∃t,Mx.QSs (cxX P w K mg base N x (qac st) f cdv A outer s H E) (qar st) t/\t { nx:=λ_ H'=>Q .non H',rt:=Q } (qd9 N vs) H):HasX P w K mg base (k+1) x ps sp:=by
 obtain ⟨f,fd,h1,h2,h3⟩:=F
 exact ⟨f,fd,h1,h2.kp,h3,FnOk.ofX h2 S len λcdv A outer s H vs Q E hr h=>hbody f cdv A outer s H vs Q E hr h⟩
end
section
variable {X:Cx}{e o:Expr}{es:List Expr}{ta:TE}{t:TA}{p pos apos:Pos}{x m:Str}{C:Addr}{E:XK}
theorem qcw{k n:Nat}{ps:List Str}{sp:Sp}(h:HasX X.prog X.w X.K X.mg X.base k x ps sp)(hx:qd8 (CX1 X.prog X.w) X E)(hr:Room n X.A)(ha:PA X (e::es) t)(hk:k<=n:=by decide)(hg:Gl X x:=by rfl)
  (hdb:(x == ("__debug__" : Str))=false:=by decide) (he:starEach (e::es) X.env=(false,eval e X.env)::starEach es X.env:=by rfl) (hpl:(backTo pos (starEach es X.env)).any (·.1)=false:=by rfl) :
  PE X (.Call (.Name x p) (e::es) [] pos) (tCall sp [] E t):=by
 obtain ⟨f,fd,h1,h2,h3,h4⟩:=h
 exact ql3 h4 (hr.mono hk) hg h1 h2 h3 .nil hx ha hdb he hpl
end
abbrev Cx.sui(X:Cx)(e:Value):Cx:={ X with A:=X.A.mark (some e),calm:=false }
section
variable {X:Cx}{pins:List (Addr×Obj)}{σ:St}{H:Hp}{s:Shared}{v:Value}
theorem Cx.Ok.sui(ok:X.Ok)(v:Value):(X.sui v).Ok:=
 ⟨ok.mod,ok.kind,ok.glob,ok.blt,ok.above,ok.inj,ok.has,ok.cab,(λh=>nomatch h),ok.frames,ok.stk,ok.exf,ok.bs,ok.bsz,ok.noex,ok.exfs,ok.funs,ok.frf⟩
theorem Inv.sui(I:Inv X pins σ H s)(v:Value):Inv (X.sui v) pins σ H s:=⟨I.ok.sui v,I.os,I.bare,I.base,I.loc,I.cell,I.free,I.freeC,I.pin,I.hok,I.len⟩
theorem Inv.unsui(ok:X.Ok)(I:Inv (X.sui v) pins σ H s):Inv X pins σ H s:=⟨ok,I.os,I.bare,I.base,I.loc,I.cell,I.free,I.freeC,I.pin,I.hok,I.len⟩
theorem goes_ok{M:Model}{A:Around}{E:Value->Shared->Prop}{i:Nat}{x:Str}{pos:Pos}{Q:Unit->Shared->Prop}(I:Inv X pins σ H s)(hN:X.N.Nodup)(hi:X.N[i]?=some x)(hk:X.env.scope.names.lookup x=some .local)
  (h:∀s',Inv X pins (σ.set i none) H s'->Q () s'):wpAny M A (do bindName X.env x .none;unbindBehindTheSuite X.env x pos) Q E s:=by
 obtain ⟨m,hn,hl⟩:=id I.loc
 have hcls:(X.env.scope.kind == .class||(X.env.scope.kind == .module&&X.env.locals != X.env.globals))=false:=by rw[I.ok.kind];rfl
 have cne:=I.cne
 refine wpAny_nameGoes_keeps hk hn hcls λh' v hn' hs=>?_
 obtain ⟨oL,_,_,hoL,_⟩:=id hn
 have tracked:HOk X.prog X.w H h':=λb ob e=>by
  refine (I.hok b ob e).stay (λc w' hc q=>(hs.2 c ?_).trans q) (λ_ q=>q) λ_ _ q=>q
  rintro rfl
  rcases hc with rfl|hc
  ·rw[I.free]at e;cases e
  ·rw[I.free]at hc;cases hc
 refine h _ ⟨I.ok,I.os,I.bare,⟨λb o e n hb hx=>?_,λb o e n hb hx=>?_,I.base.free,λb o e hx=>?_,I.base.tups,I.base.frzs,I.base.tbls⟩,⟨_,hn',λj y v' e1 e2 e3=>?_⟩,λy c e=>?_,I.free,I.freeC,λp hp=>?_,tracked,by simpa using I.len⟩
 ·exact (hs.2 b (ne_of_lt (lt_of_lt_of_le (lt_size e) I.ok.above))).trans (I.base.keep b o e n hb hx)
 ·obtain ⟨sl,e1⟩:=I.base.slot b o e n hb hx
  exact ⟨sl,(hs.2 b (ne_of_lt (lt_of_lt_of_le (lt_size e) I.ok.above))).trans e1⟩
 ·obtain ⟨o',e1⟩:=I.base.there b o e hx
  exact ⟨o',(hs.2 b (ne_of_lt (lt_of_lt_of_le (lt_size e) I.ok.above))).trans e1⟩
 ·by_cases hj:i=j
  ·subst hj
   rw[List.getElem?_set_self (by have:=(List.getElem?_eq_some_iff.mp hi).1;rw[I.len];exact this)]at e2
   cases e2
  ·rw[getElem?_set_ne hj]at e2
   obtain ⟨u',r',q⟩:=hl j y v' e1 e2 e3
   refine ⟨u',r',?_⟩
   rcases q with ⟨k,e⟩|⟨k,c,e,z⟩
   ·refine .inl ⟨k,?_⟩
    have:y≠x:=λe=>hj (qg3 hN hi (e ▸ e1))
    simp[this,e]
   ·exact .inr ⟨k,c,e,z.sameBut hs (cne y c e)⟩
 ·obtain ⟨w',z⟩:=I.cell y c e
  exact ⟨w',z.sameBut hs (cne y c e)⟩
 ·obtain ⟨e,n,ne,nf,d⟩:=I.pin p hp
  exact ⟨(hs.2 p.1 ne).trans e,n,ne,nf,d⟩
theorem qiz{M:Model}{A:Around}{E:Value->Shared->Prop}{a T:Addr}{Q:Unit->Shared->Prop}(I:Inv X pins σ H s)(fl:Fly s.heap H a T)(h:∀s',Inv X pins σ H s'->Fly s'.heap H a T->Q () s'):wpAny M A (setFlight (.ref a) none) Q E s:=by
 obtain ⟨⟨o,vs,he,hd,h1⟩,hTa,hTn,oT,ts,hT,hdT,h3⟩:=fl
 refine wpAny_setFlight_none he hd h1 hT hdT (Array.getElem?_eq_some_iff.mp h3).1 ?_
 have same:∀b u,s.heap.get? b=some u->(s.heap.update T (Obj.mapFields (·.setIfInBounds 3 Value.none))).get? b=some u:=λb u e=>by
  by_cases hb:b=T
  ·subst hb
   have:=get?_update_self (Obj.mapFields (·.setIfInBounds 3 Value.none)) hT (Obj.isFreed_of_fields (Obj.data_mapFields hdT _))
   rw[qmz hdT h3]at this
   rw[hT]at e;cases e
   exact this
  ·exact (get?_update_other _ _ (Ne.symm hb)).trans e
 exact h _ (I.kept (t':=s.toks) same) ⟨⟨o,vs,same _ _ he,hd,h1⟩,hTa,hTn,oT,ts,same _ _ hT,hdT,h3⟩
def XP(X:Cx)(pins:List (Addr×Obj))(R:St->V->Hp->Prop)(e:Value)(s':Shared):Prop:=∃a T C dx σ' H',e=.ref a/\Inv X pins σ' H' s'/\H' a=some (.ext (ycj a C dx))/\Fly s'.heap H' a T/\R σ' (.ref a) H'
def PSx(X:Cx)(sts:List Stmt)(t:(St->V->Hp->Prop)->TS):Prop:=
 ∀(pins:List (Addr×Obj)) (s:Shared) (σ:St) (H:Hp) (D:Ends) (R:St->V->Hp->Prop),Inv X pins σ H s->t R D σ H->wpAny (model X.prog X.w) X.A (execs sts X.env) (SP X pins D) (XP X pins R) s
def PEx(X:Cx)(e:Expr)(t:(V->Hp->Prop)->TE):Prop:=
 ∀(pins:List (Addr×Obj)) (s:Shared) (σ:St) (H:Hp) (Q:VK) (R:V->Hp->Prop),Inv X pins σ H s->t R σ H Q->wpAny (model X.prog X.w) X.A (eval e X.env) (EP X pins σ Q) (XP X pins λσ' v H'=>σ'=σ/\R v H') s
def rxE(R:V->Hp->Prop):XK:=λe _ H'=>∃a,e=.ref a/\R (.ref a) H'
variable {e:Expr}{es:List Expr}{p pos apos:Pos}{x m:Str}{C:Addr}{t:TA}{te ta:TE}
theorem run_fnx{k:Nat}{f:Addr}{fd:FuncData}{ps:List Str}{sp:Sp}{Q:VK}{R:V->Hp->Prop}{us:List Value}{vs:List V}(F:FnOk X.prog X.w X.K X.mg X.base (CX1 X.prog X.w) k f fd ps sp)(hr:Room k X.A)(hb:yc6 X.K fd ps [])
  (I:Inv X pins σ H s) (r:Vals vs us) (h:sp vs H Q (rxE R)):wpAny (model X.prog X.w) X.A (call (.ref f) us) (EP X pins σ Q) (XP X pins λσ' v H'=>σ'=σ/\R v H') s:=by
 have hl:us.length=ps.length:=by rw[<-r.length];exact F.len _ _ _ _ h
 have bb:=hb s us I.kIn (by rw[append_nil];exact hl)
 rw[append_nil]at bb
 refine wpAny_call (codeAny_mono (F.run X.A X.stack s H ⟨us,[]⟩ us vs Q (rxE R) hr I.env0 bb r h) λr s' hq=>?_)
 cases r with
 |error e=>
  obtain ⟨a,T,C,dx,H',rfl,ho,hba,un,hok,ha,fl,a',ea,hR⟩:=hq
  cases ea
  exact ⟨a,T,C,dx,σ,H',rfl,I.call' (ch:=[]) ho un hok hba λb z=>absurd z (by simp),ha,fl,rfl,hR⟩
 |ok fl=>
  cases fl with
  |ret u=>exact I.after hq
  |next=>exact False.elim hq
  |brk=>exact False.elim hq
  |cont=>exact False.elim hq
def tCallx(sp:Sp)(t:TA)(R:V->Hp->Prop):TE:=λσ H Q=>t σ H λvs H1=>sp vs H1 Q (rxE R)
theorem qjs{k n:Nat}{ps:List Str}{sp:Sp}(hx:∀e s,¬ X.xe e s)(h:HasX X.prog X.w X.K X.mg X.base k x ps sp)(hr:Room n X.A)(ha:PA X (e::es) t)(hk:k<=n:=by decide)(hg:Gl X x:=by rfl)
  (hdb:(x == ("__debug__" : Str))=false:=by decide) (he:starEach (e::es) X.env=(false,eval e X.env)::starEach es X.env:=by rfl) (hpl:(backTo pos (starEach es X.env)).any (·.1)=false:=by rfl) :
  PEx X (.Call (.Name x p) (e::es) [] pos) (tCallx sp t):=by
 intro pins s σ H Q R I h'
 obtain ⟨f,fd,h1,h2,h3,h4⟩:=h
 refine wpAny_Call_Name_kw (ydu I hg h1 ?_ hdb)
 refine W.callWith_K (h₀:=X.base) I.ok.mod.kin h2 (wpAny_mono (ha pos pins s σ H _ I h') (λus s1 ⟨vs,H1,I1,r,q⟩=>⟨I1.kIn,?_⟩) λe s z=>(hx e s z).elim) he hpl
 exact run_fnx h4 (hr.mono hk) h3 I1 r q
def sSetx(i:Nat)(te:(V->Hp->Prop)->TE)(R:St->V->Hp->Prop):TS:=λD σ H=>te (R σ) σ H λv H1=>D.nx (σ.set i (some v)) H1
theorem qlr{i:Nat}{pos':Pos}{te:(V->Hp->Prop)->TE}(hN:X.N.Nodup)(hi:X.N[i]?=some x)(hx:Loc X.env.scope x)(he:PEx X e te)(hs:swapsWith e (some (.Name x pos')) pos.line X.env=pure false:=by rfl)
  (hf:X.fn x=true\/X.env.scope.names.lookup x=some .local:=by first|exact .inl rfl|exact .inr rfl|assumption):PSx X [.Assign [.Name x pos'] e pos] (sSetx i te):=by
 intro pins s σ H D R I h
 refine wpAny_execs_cons ?_
 refine wpAny_Assign_Name (wpAny_mono (he pins s σ H _ (R σ) I h) (λu s1 ⟨y,H1,I1,ry,q⟩=>?_) λe s' ⟨a,T,C,dx,σ',H',r1,r2,r3,r4,e1,r5⟩=>⟨a,T,C,dx,σ',H',r1,r2,r3,r4,by rw[e1];exact r5⟩) hs
 exact ye3 I1 hN hi hx ry (λs2 I2=>wpAny_execs_nil ⟨_,_,I2,q⟩) hf
def sIfx(tc:TT)(t u:(St->V->Hp->Prop)->TS)(R:St->V->Hp->Prop):TS:=λD σ H=>tc σ H λb H1=>if b=true then t R D σ H1 else u R D σ H1
theorem psx_if{c:Expr}{a b:List Stmt}{tc:TT}{t u:(St->V->Hp->Prop)->TS}(hx:∀e s,¬ X.xe e s)(hc:PT X c tc)(ha:PSx X a t)(hb:PSx X b u):PSx X [.If c a b pos] (sIfx tc t u):=by
 intro pins s σ H D R I h
 refine wpAny_execs_cons ?_
 refine wpAny_If (wpAny_mono (hc pins s σ H _ I h) (λd s1 ⟨H1,I1,q1⟩=>?_) λe s z=>(hx e s z).elim)
 have fin:∀(f:Flow) (s':Shared),SP X pins D f s'->(match f with|.next=>wpAny (model X.prog X.w) X.A (execs [] X.env) (SP X pins D) (XP X pins R) s'|f=>SP X pins D f s'):=λf s' z=>by
  cases f<;>first|exact z|exact wpAny_execs_nil z
 cases d with
 |true=>exact wpAny_mono (ha pins s1 σ H1 D R I1 q1) (λf s' z=>by cases f<;>first|exact z|exact wpAny_execs_nil z) λ_ _ z=>z
 |false=>exact wpAny_mono (hb pins s1 σ H1 D R I1 q1) (λf s' z=>by cases f<;>first|exact z|exact wpAny_execs_nil z) λ_ _ z=>z
def sTry(K:W.Frag)(M:Addr)(iy jn:Nat)(tb:(St->V->Hp->Prop)->TS):TS:=λD σ H=>tb (λσ' v H'=>∃a C fs,v=.ref a/\XAt H' a C fs/\W.exmOne K (.ref C) (.ref M)=some true/\D.nx (((σ'.set jn (some v)).set iy (some v)).set jn none) H') D σ H
theorem ps_try{body:List Stmt}{cx n y:Str}{M:Addr}{iy jn:Nat}{tb:(St->V->Hp->Prop)->TS}{p1 p2 p3 p4 p5:Pos}(hx:∀e s,¬ X.xe e s)(hst:X.stack=X.env::X.outer)(hfr:X.env.frame=some X.env.locals)(hb:PSx X body tb)
  (hN:X.N.Nodup) (hj:X.N[jn]?=some n) (hn:X.env.scope.names.lookup n=some .local) (hi:X.N[iy]?=some y) (hy:Loc X.env.scope y) (hne:jn≠iy) (hg:Gl X cx) (hm:X.mg cx=some (.ref M)) (hdb:(cx == ("__debug__" : Str))=false:=by decide) (hdn:(n == ("__debug__" : Str))=false:=by decide) (hcn:(n == ("__classdict__" : Str))=false:=by decide)
  (hf:X.fn y=true\/X.env.scope.names.lookup y=some .local:=by first|exact .inl rfl|exact .inr rfl|assumption)
  (hs:swapsWith (.Name n p3) (some (.Name y p2)) p4.line X.env=pure false:=by rfl) :
  PS X (.Try body [.ExceptHandler (some (.Name cx p1)) (some n) [.Assign [.Name y p2] (.Name n p3) p4] p5] [] [] pos) (sTry X.K M iy jn tb):=by
 intro pins s σ H D I h
 refine wpAny_Try_except (wpAny_mono (hb pins s σ H D _ I h) (λf s' z=>by cases f<;>first|exact z|exact wpAny_execs_nil z) ?_)
 rintro e s1 ⟨a,T,C,dx,σ',H',rfl,I1,ha,fl,a',C',fs,ea,xa,em,q⟩
 cases ea
 refine qja I1 hst hfr ha (.inr ⟨T,fl⟩) λh' T' I2 fl2 _=>?_
 have I2m:=I2.sui (.ref a)
 refine wpAny_handleBy_cons (codeAny_handlers_test ?_) (by intro q;cases q)
 refine ydu (X:=X.sui (.ref a)) I2m hg hm ?_ hdb
 obtain ⟨ox,od,ia⟩:=xa.at I2
 refine (exm_one (M:=model X.prog X.w) I2.kIn ia.type em).here ?_
 refine codeAny_handlers_suite_as ?_
 refine qiz I2 fl2 λs3 I3 fl3=>?_
 refine ye3 (i:=jn) (x:=n) (v:=.ref a) I3 hN hj (.inl hn) rfl (λs4 I4=>?_) (.inr hn)
 have hp:=qax (ql1 (X:=(X.sui (.ref a)).nox) (pos:=p4) (i:=iy) (x:=y) (pos':=p2) hN hi hy (pe_var (i:=jn) (pos:=p3) hj (.inl hn) hdn hcn) hs hf)
 refine wpAny_mono (hp pins s4 _ H' { nx:=λσ2 H2=>σ2=((σ'.set jn (some (.ref a))).set iy (some (.ref a)))/\H2=H',rt:=λ_ _=>False } ((I4.sui (.ref a)).wish _) ⟨_,?_,rfl,rfl⟩) (λf s5 z=>?_) λ_ _ z=>z.elim
 ·rw[List.getElem?_set_self]
  have:=(List.getElem?_eq_some_iff.mp hj).1
  rw[I3.len];exact this
 ·cases f with
  |next=>
   obtain ⟨σ5,H5,I5,rfl,rfl⟩:=z
   have I6:Inv X pins _ H5 s5:=Inv.unsui I2.ok I5.unwish
   exact goes_ok I6 hN hj hn λs7 I7=>⟨_,_,I7,q⟩
  |brk=>obtain ⟨_,_,_,z⟩:=z;exact z.elim
  |cont=>obtain ⟨_,_,_,z⟩:=z;exact z.elim
  |ret u=>obtain ⟨_,_,_,_,_,z⟩:=z;exact z.elim
end
def qj7(P:Program)(w:World)(K:W.Frag)(mg:Str->Option Value)(base:Heap)(x:Str)(C:Addr)(ps:List Str)(sp:Sp):Prop:=
 mg x=some (.ref C)/\W.keepIn K (.ref C)=true/\XOk K C/\∃f fd,W.findIn K (.ref C) "__init__"=some (some (.ref f))/\W.isFn K (.ref f)=true/\yc6 K fd ps []/\FnOk P w K mg base CX0 1 f fd ps sp
def XBare(K:W.Frag)(mg:Str->Option Value)(x:Str)(C:Addr):Prop:=
 mg x=some (.ref C)/\W.keepIn K (.ref C)=true/\XTy K C/\W.excIn K C bmV "ValueError.__new__"=true
def sp_x1(C:Addr)(f:Str):Sp:=λvs H Q _=>∃a v,vs=[.ref a,v]/\XD H a C none []/\∀d H',XD H' a C (some d) [(f,v)]->SetX a d none H H'->Q .non H'
def sp_x2(C:Addr)(f g:Str):Sp:=λvs H Q _=>∃a v u,vs=[.ref a,v,u]/\XD H a C none []/\∀d H',XD H' a C (some d) [(f,v),(g,u)]->SetX a d none H H'->Q .non H'
theorem SetX.then2{a d d2:Addr}{H H1 H2:Hp}(x:SetX a d none H H1)(y:SetX a d2 (some d) H1 H2):d2=d/\SetX a d none H H2:=by
 have e:d2=d:=by
  rcases y.dd with e|⟨e,_⟩
  ·exact (Option.some.inj e).symm
  ·cases e
 subst e
 exact ⟨rfl,x.dd,λb o hb h1 h2=>y.kp b o (x.kp b o hb h1 h2) h1 h2⟩
theorem SetX.sm{a d:Addr}{H H1 H':Hp}{o:HO}(hn:H a=none)(e:H1=upd H a o)(x:SetX a d none H1 H'):Same H H':=by
 subst e
 intro b o hb
 refine x.kp b o (by rw[qag (qae hb hn)];exact hb) (qae hb hn) ?_
 rcases x.dd with z|⟨_,z⟩
 ·cases z
 ·intro q
  subst q
  rw[qag (qae hb hn),hb]at z
  cases z
section
variable {X:Cx}{e o:Expr}{es:List Expr}{t:TA}{ta:TE}{p pos apos:Pos}{x m:Str}{C:Addr}
theorem qko{n:Nat}{ps:List Str}{sp:Sp}(h:qj7 X.prog X.w X.K X.mg X.base x C ps sp)(hr:Room n X.A)(ha:PA X (e::es) t)(hk:2<=n:=by decide)(hg:Gl X x:=by rfl)(hdb:(x == ("__debug__" : Str))=false:=by decide)
  (he:starEach (e::es) X.env=(false,eval e X.env)::starEach es X.env:=by rfl) (hpl:(backTo pos (starEach es X.env)).any (·.1)=false:=by rfl):PE X (.Call (.Name x p) (e::es) [] pos) (tXMake C sp t):=by
 obtain ⟨h1,h2,h3,f,fd,h4,h5,h6,h7⟩:=h
 exact pe_xmake h3 h4 h5 h7 (hr.mono hk) h6 h2 hg h1 ha hdb he hpl
theorem pe_x0(h:XBare X.K X.mg x C)(ha:PA X (e::es) t)(hg:Gl X x:=by rfl)(hdb:(x == ("__debug__" : Str))=false:=by decide)
  (he:starEach (e::es) X.env=(false,eval e X.env)::starEach es X.env:=by rfl) (hpl:(backTo pos (starEach es X.env)).any (·.1)=false:=by rfl):PE X (.Call (.Name x p) (e::es) [] pos) (ylr C t):=by
 obtain ⟨h1,h2,h3,h4⟩:=h
 exact ymt h4 h2 hg h1 ha hdb he hpl
end
theorem qgz{H H':Hp}{a d C:Addr}{fs:List (Str×V)}(hn:H a=none)(x:XD H' a C (some d) fs)(sx:SetX a d none (upd H a (.ext (yb3 a C none))) H') :
  H' a=some (.ext (yb3 a C (some d)))/\Same H (upd H' a (.ext (ycj a C (some d))))/\XAt (upd H' a (.ext (ycj a C (some d)))) a C fs:=by
 rcases x with ⟨e,_⟩|⟨d',e,h1,h2⟩
 ·cases e
 cases e
 have nd:d≠a:=by
  rcases sx.dd with z|⟨_,z⟩
  ·cases z
  ·intro q
   subst q
   rw[yaa]at z
   cases z
 refine ⟨h1,(SetX.sm hn rfl sx).at hn,.inr (.inr (.inr ⟨d,yaa,?_⟩))⟩
 rw[qag nd]
 exact h2
section
variable {X:Cx}
theorem pe_bmK{K:W.Frag}{o e:Expr}{es:List Expr}{to:TE}{t:TA}{name:Str}{apos cpos:Pos}{T id:String}{r:V->List V->Hp->VK->Prop}(hK:X.K=K)(pa:PlainAttrs T)(slot:Slot T name id)(hty:typeOf (.builtin id)=pure (.type "method_descriptor"))(hm:MtR X id r)(ho:PE X o to)(ha:PA X (e::es) t)
  (hbase:attributeBase o name X.env (eval o X.env)=eval o X.env:=by rfl)
  (hfew:((backTo cpos (starEach (e::es) X.env)).all (λx=>!x.1)&&(backToKw cpos (keywordEach [] X.env)).all (λx=>x.1.isSome)
   && decide ((e::es).length+([]:List Keyword).length+(if ([]:List Keyword).isEmpty then 0 else 1)<30))=true:=by rfl)
  (hline:(apos.endLine == cpos.line)=true:=by rfl) (hs:starEach (e::es) X.env=(false,eval e X.env)::starEach es X.env:=by rfl) (hplain:(backTo cpos (starEach es X.env)).any (·.1)=false:=by rfl) :
  PE X (.Call (.Attribute o name apos) (e::es) [] cpos) (tBM K T r to t):=by
 subst hK
 exact qdd pa slot hty hm ho ha hbase hfew hline hs hplain
end
end L2
namespace Mx
open PySem L2 PyProof.Rows
section
variable {X:Cx}{o e:Expr}{es:List Expr}{te to:TE}{t:TA}{pos p2:Pos}
theorem qhl{lo hi:Option Expr}{tl th:TO}{r:V->Option Int->Option Int->Hp->VK->Prop}(hr:SlR X r)(he:QE X e te)(hl:PO X lo tl)(hu:PO X hi th):QE X (.Subscript e (.Slice lo hi none p2) pos) (tSl r te tl th):=⟨qdk hr he.of hl hu⟩
end
end Mx
namespace L2
open PySem PySem.Spec PyProof.Rows PySem.W
def AtX(H:Hp)(v:V)(d:PyData):Prop:=At H v d\/(d=.dict []/\∃a,v=.ref a/\H a=some (.dK []))
theorem AtX.same{H H':Hp}{v:V}{d:PyData}(h:AtX H v d)(s:Same H H'):AtX H' v d:=by
 rcases h with h|⟨e,a,ea,h⟩
 ·exact .inl (h.same s)
 ·exact .inr ⟨e,a,ea,s _ _ h⟩
def tyD:PyData->Value
 |.none=>.type "NoneType"
 |.bool _=>.type "bool"
 |.int _=>.type "int"
 |.str _=>.type "str"
 |.list _=>.type "list"
 |.tuple _=>.type "tuple"
 |.dict _=>.type "dict"
theorem AtX.ty{K:W.Frag}{H:Hp}{v:V}{d:PyData}(h:AtX H v d):TyOf K H v (tyD d):=by
 rcases h with h|⟨e,a,ea,h⟩
 ·cases h with
  |non=>exact .non
  |bl b=>exact .bl b
  |int i=>exact .int i
  |str x=>exact .str x
  |lst e _=>exact .lst e
  |tup e _=>exact .tup e
 ·subst e ea
  exact .dK h
def isTup:PyData->Bool|.tuple _=>true|_=>false
def isLst:PyData->Bool|.list _=>true|_=>false
def isStr:PyData->Bool|.str _=>true|_=>false
def isInt:PyData->Bool|.int _=>true|.bool _=>true|_=>false
def isBl:PyData->Bool|.bool _=>true|_=>false
theorem qla{K:W.Frag}(d:PyData):W.kitOne K (tyD d) (.type "tuple")=some (isTup d):=by cases d<;>rfl
theorem yiy{K:W.Frag}(d:PyData):W.kitOne K (tyD d) (.type "list")=some (isLst d):=by cases d<;>rfl
theorem qks{K:W.Frag}(d:PyData):W.kitOne K (tyD d) (.type "str")=some (isStr d):=by cases d<;>rfl
theorem kit_int{K:W.Frag}(d:PyData):W.kitOne K (tyD d) (.type "int")=some (isInt d):=by cases d<;>rfl
theorem kit_bl{K:W.Frag}(d:PyData):W.kitOne K (tyD d) (.type "bool")=some (isBl d):=by cases d<;>rfl
end L2
namespace L2
open PySem PyProof.Rows
def Lay(L:List Addr)(te:TE)(σ:L2.St)(d:PyData)(H:Hp):Prop:=(∀b∈L,H b≠none)->∀H1,Same H H1->∀Q:VK,(∀v H',Same H1 H'->At (ybh H' L) v d->Q v H')->te σ H1 Q
def LayA(L:List Addr)(ta:TA)(σ:L2.St)(ds:List PyData)(H:Hp):Prop:=(∀b∈L,H b≠none)->∀H1,Same H H1->∀Q:List V->Hp->Prop,(∀vs H',Same H1 H'->AtAll (ybh H' L) vs ds->Q vs H')->ta σ H1 Q
theorem qmn{L:List Addr}{H H1:Hp}{p:Addr}(hL:∀b∈L,H b≠none)(s:Same H H1)(hp:H1 p=none):p∉L:=λz=>by
 cases e:H p with
 |none=>exact hL p z e
 |some o=>rw[s _ _ e]at hp;cases hp
section
variable {K:W.Frag}{σ:L2.St}{H:Hp}{te tf:TE}{ta:TA}{d:PyData}{ds es:List PyData}{L:List Addr}
theorem qav:LayA L tNil σ [] H:=λhL H1 s Q k=>k [] H1 (smR H1) .nil
theorem yag(h:Lay L te σ d H)(r:LayA L ta σ ds H):LayA L (ydm te ta) σ (d::ds) H:=λhL H1 s Q k=>
 h hL H1 s _ λv H2 s2 a2=>r hL H2 (s.trans s2) _ λvs H3 s3 a3=>k (v::vs) H3 (s2.trans s3) (.cons (a2.same (qbs s3 L)) a3)
theorem qlq{H0 H2:Hp}{p:Addr}{vs:List V}(hL:∀b∈L,H0 b≠none)(s:Same H0 H2)(hp:H2 p=none)(a:AtAll (ybh H2 L) vs ds):At (ybh (upd H2 p (.tup vs)) L) (.ref p) (.tuple ds):=
 .tup (by rw[yb4 (qmn hL s hp)];exact yaa) (a.same (qbs ((smR H2).upd hp) L))
theorem qe9{H0 H2:Hp}{p:Addr}{vs:List V}(hL:∀b∈L,H0 b≠none)(s:Same H0 H2)(hp:H2 p=none)(a:AtAll (ybh H2 L) vs ds):At (ybh (upd H2 p (.lst vs)) L) (.ref p) (.list ds):=
 .lst (by rw[yb4 (qmn hL s hp)];exact yaa) (a.same (qbs ((smR H2).upd hp) L))
theorem qcb(h:LayA L ta σ ds H)(z:ds.length<=1000:=by exact Nat.le_of_ble_eq_true rfl):Lay L (tTup ta) σ (.tuple ds) H:=λhL H1 s Q k=>
 h hL H1 s _ λvs H2 s2 a2=>⟨by rw[a2.length];exact le_trans z (by decide),λp hp=>k _ _ (s2.upd hp) (qlq hL (s.trans s2) hp a2)⟩
theorem yaz(h:LayA L ta σ ds H)(z:ds.length<=1000:=by exact Nat.le_of_ble_eq_true rfl):Lay L (tLst ta) σ (.list ds) H:=λhL H1 s Q k=>
 h hL H1 s _ λvs H2 s2 a2=>⟨by rw[a2.length];exact le_trans z (by decide),λp hp=>k _ _ (s2.upd hp) (qe9 hL (s.trans s2) hp a2)⟩
theorem qer:Lay L (tC .non) σ .none H:=λhL H1 s Q k=>k _ H1 (smR H1) .non
theorem qkz{b:Bool}:Lay L (tC (.bl b)) σ (.bool b) H:=λhL H1 s Q k=>k _ H1 (smR H1) (.bl b)
theorem qgv{i:Int}:Lay L (tC (.int i)) σ (.int i) H:=λhL H1 s Q k=>k _ H1 (smR H1) (.int i)
theorem yda{x:Str}:Lay L (tC (.str x)) σ (.str x) H:=λhL H1 s Q k=>k _ H1 (smR H1) (.str x)
theorem qaw{i:Nat}{v:V}(hσ:σ[i]?=some (some v))(h:At (ybh H L) v d):Lay L (tVar i) σ d H:=λhL H1 s Q k=>⟨v,hσ,k v H1 (smR H1) (h.same (qbs s L))⟩
theorem ybn(h1:Lay L te σ (.list ds) H)(h2:Lay L tf σ (.list es) H)(z:ds.length+es.length<=1000):Lay L (tOp rCat te tf) σ (.list (ds++es)) H:=λhL H1 s Q k=>
 h1 hL H1 s _ λv H2 s2 a2=>h2 hL H2 (s.trans s2) _ λu H3 s3 a3=>by
  obtain ⟨a,vs,rfl,ha,hw⟩:=(a2.same (qbs s3 L)).lstEq
  obtain ⟨b,us,rfl,hb,hu⟩:=a3.lstEq
  exact ⟨a,b,vs,us,rfl,rfl,qa1 _ _ _ _ ha,qa1 _ _ _ _ hb,by rw[hw.length,hu.length];exact le_trans z (by decide),λp hp=>k _ _ ((s2.trans s3).upd hp) (qe9 hL ((s.trans s2).trans s3) hp (hw.append hu))⟩
theorem qht{H:Hp}{vs:List V}{ds:List PyData}(h:AtAll H vs ds):∀n,AtAll H (List.replicate n vs).flatten (List.replicate n ds).flatten
 |0=>.nil
 |n+1=>by
  rw[replicate_succ,replicate_succ,flatten_cons,flatten_cons]
  exact h.append (qht h n)
theorem qg8{n:Nat}(h1:Lay L te σ (.list ds) H)(hn:n<=1000)(z:ds.length*n<=1000):Lay L (tOp rRep te (tC (.int n))) σ (.list (List.replicate n ds).flatten) H:=λhL H1 s Q k=>
 h1 hL H1 s _ λv H2 s2 a2=>by
  obtain ⟨a,vs,rfl,ha,hw⟩:=a2.lstEq
  refine ⟨a,n,vs,rfl,rfl,qa1 _ _ _ _ ha,by omega,by omega,by rw[hw.length,toNat_natCast];exact le_trans z (by decide),λp hp=>k _ _ (s2.upd hp) ?_⟩
  rw[toNat_natCast]
  exact qe9 hL (s.trans s2) hp (qht hw n)
def LayN(t:TE)(σ:L2.St)(n:Nat):Prop:=∀H1 (Q:VK),Q (.int n) H1->t σ H1 Q
theorem lay_n{n:Nat}:LayN (tC (.int n)) σ n:=λH1 Q k=>k
theorem lay_nv{i n:Nat}(h:σ[i]?=some (some (.int n))):LayN (tVar i) σ n:=λH1 Q k=>⟨_,h,k⟩
theorem lay_ns{i n:Nat}(h:σ[i]?=some (some (.int n))):LayN (tOp (rI0 λi j=>V.int (i+j)) (tVar i) (tC (.int 1))) σ (n+1):=λH1 Q k=>⟨_,h,_,_,rfl,rfl,k⟩
theorem qjm{t:TE}{n:Nat}(h1:Lay L te σ (.list ds) H)(hn:LayN t σ n):Lay L (tSl (rSlL K) te yi2 (tPart t)) σ (.list (ds.take n)) H:=λhL H1 s Q k=>
 h1 hL H1 s _ λv H2 s2 a2=>hn H2 _ ⟨n,rfl,by
  obtain ⟨a,vs,rfl,ha,hw⟩:=a2.lstEq
  refine ⟨a,vs,rfl,sqlO (qa1 _ _ _ _ ha),λp hp=>k _ _ (s2.upd hp) ?_⟩
  rw[qjn]
  exact qe9 hL (s.trans s2) hp (hw.take n)⟩
theorem qg0{t:TE}{n:Nat}(h1:Lay L te σ (.list ds) H)(hn:LayN t σ n):Lay L (tSl (rSlL K) te (tPart t) yi2) σ (.list (ds.drop n)) H:=λhL H1 s Q k=>
 h1 hL H1 s _ λv H2 s2 a2=>hn H2 _ ⟨n,rfl,by
  obtain ⟨a,vs,rfl,ha,hw⟩:=a2.lstEq
  refine ⟨a,vs,rfl,sqlO (qa1 _ _ _ _ ha),λp hp=>k _ _ (s2.upd hp) ?_⟩
  rw[qec]
  exact qe9 hL (s.trans s2) hp (hw.drop n)⟩
def rTupOf(K:W.Frag):List V->Hp->VK->Prop:=λxs H Q=>∃p ys,xs=[.ref p]/\((SqL K H p ys/\∀l,H l=none->Q (.ref l) (upd H l (.tup ys)))\/(SqT K H p ys/\Q (.ref p) H))
theorem yfo(h1:Lay L te σ (.list ds) H):Lay L (tCB (rTupOf K) (ydm te tNil)) σ (.tuple ds) H:=λhL H1 s Q k=>
 h1 hL H1 s _ λv H2 s2 a2=>by
  obtain ⟨a,vs,rfl,ha,hw⟩:=a2.lstEq
  exact ⟨a,vs,rfl,.inl ⟨sqlO (qa1 _ _ _ _ ha),λp hp=>k _ _ (s2.upd hp) (qlq hL (s.trans s2) hp hw)⟩⟩
theorem gn{i:Nat}{v:V}{σ:L2.St}{H:Hp}{Q:L2.St->Hp->Prop}(h:Q (σ.set i (some v)) H):yf3 i v σ H Q:=h
theorem hid0{H:Hp}{v:V}{d:PyData}(h:At H v d):At (ybh H []) v d:=h.same λb o e=>by rw[yb4 (by simp)];exact e
theorem lay_go{Q:VK}(h:Lay L te σ d H)(hL:∀b∈L,H b≠none)(k:∀v H',Same H H'->At (ybh H' L) v d->Q v H'):te σ H Q:=h hL H (smR H) Q k
theorem qg4{i:Nat}{rest:TS}{KK:Ends}(h:Lay [] te σ d H)(k:∀v H',Same H H'->At H' v d->rest KK (σ.set i (some v)) H'):tSeq (tAsg te (yf3 i)) rest KK σ H:=
 h (λb hb=>by cases hb) H (smR H) _ λv H' s a=>k v H' s (a.same (qa1 _ _))
theorem ylx{KK:Ends}(h:Lay [] te σ d H)(k:∀v H',Same H H'->At H' v d->KK.rt v H'):tRet te KK σ H:=
 h (λb hb=>by cases hb) H (smR H) _ λv H' s a=>k v H' s (a.same (qa1 _ _))
theorem AtAll.mem{H:Hp}{vs:List V}{ds:List PyData}{i:Int}(h:AtAll H vs ds)(h0:0<=i)(h1:i<ds.length):∃v d,atI vs i=some v/\ds[i.toNat]?=some d/\At H v d:=by
 obtain ⟨v,hv,ha⟩:=h.getD (getElem?_eq_getElem (l:=ds) (i:=i.toNat) (by omega))
 exact ⟨v,_,ylw h0 hv,getElem?_eq_getElem (by omega),ha⟩
def Sm(D B:Nat)(d:PyData):Prop:=d.showable=true/\d.depth<=D/\d.leavesShort 40=true/\d.bulk<=B
theorem Sm.mono{D B D' B':Nat}{d:PyData}(h:Sm D B d)(h1:D<=D':=by decide)(h2:B<=B':=by decide):Sm D' B' d:=⟨h.1,le_trans h.2.1 h1,h.2.2.1,le_trans h.2.2.2 h2⟩
theorem Sm.list{D B n:Nat}{xs:List PyData}(h:∀x∈xs,Sm D B x)(hl:xs.length<=n):Sm (D+1) ((B+1)*n) (.list xs):=by
 refine ⟨?_,?_,?_,?_⟩
 ·simp only[PyData.showable]
  exact Spec.showableAll_of λx hx=>(h x hx).1
 ·have:=yct (n:=D) (xs:=xs) λx hx=>(h x hx).2.1
  simp only[PyData.depth]
  omega
 ·unfold PyData.leavesShort
  exact qd1 λx hx=>(h x hx).2.2.1
 ·have:=yef (n:=B) (xs:=xs) λx hx=>(h x hx).2.2.2
  simp only[PyData.bulk]
  exact le_trans this (Nat.mul_le_mul_left _ hl)
theorem Sm.tuple{D B n:Nat}{xs:List PyData}(h:∀x∈xs,Sm D B x)(hl:xs.length<=n):Sm (D+1) ((B+1)*n) (.tuple xs):=by
 refine ⟨?_,?_,?_,?_⟩
 ·simp only[PyData.showable]
  exact Spec.showableAll_of λx hx=>(h x hx).1
 ·have:=yct (n:=D) (xs:=xs) λx hx=>(h x hx).2.1
  simp only[PyData.depth]
  omega
 ·unfold PyData.leavesShort
  exact qd1 λx hx=>(h x hx).2.2.1
 ·have:=yef (n:=B) (xs:=xs) λx hx=>(h x hx).2.2.2
  simp only[PyData.bulk]
  exact le_trans this (Nat.mul_le_mul_left _ hl)
theorem Sm.shown{D B:Nat}{d:PyData}(h:Sm D B d)(hD:D<=60:=by decide)(hB:B<=100000:=by decide):d.showable=true/\d.depth<=60/\d.shown.length<=sizeLine:=by
 refine ⟨h.1,le_trans h.2.1 hD,?_⟩
 have h1:=PyData.shown_le_bulk 40 (by decide) d h.2.2.1
 have h2:=h.2.2.2
 have hsl:(sizeLine:Nat)=16777216:=rfl
 omega
end
end L2
namespace L2
open PySem PySem.Spec PyProof.Rows
theorem yh3:entryFor table "zip.__getattribute__"=some Builtin.«object.__getattribute__»:=by kernel_rfl
theorem yid:typeLookup (.type "zip") (Str.ofString "keys")=pure none:=am_miss_of_fast (by decide +kernel)
theorem qim:typeLookup (.type "zip") (Str.ofString "__getattr__")=pure none:=am_miss_of_fast (by decide +kernel)
theorem zip_ga:typeLookup (.type "zip") (Str.ofString "__getattribute__")=pure (some (.builtin "zip.__getattribute__")):=by rw[typeLookup_type,builtinLookup_eq_fast];kernel_rfl
theorem qde:entryFor table "dict.update.loop"=some Builtin.«dict.update.loop»:=by kernel_rfl
theorem ybk:plainId "dict.update.loop"=true:=by decide +kernel
theorem yja:isSubtype (.type "AttributeError") (.type "AttributeError")=pure true:=by rw[isSubtype_type];kernel_rfl
section
variable {P:Program}{w:World}{A:Around}{E:Value->Shared->Prop}{s:Shared}
theorem zipKeys{z i o:Addr}{v:Value}{Q:Option Value->Shared->Prop}(gz:IsZip s.heap z i o v)(hh:A.handled=none)
  (k:∀(h':Heap) (tk:Nat),(∀b o,s.heap.get? b=some o->h'.get? b=some o)->Q none { s with heap:=h',toks:=tk }) :
  wpAny (model P w) A (getAttr? (.ref z) (Str.ofString "keys")) Q E s:=by
 unfold getAttr? getAttrBy? mkText
 refine wpAny_bind (wpAny_bind (wpAny_fresh ?_))
 refine wpAny_pure ?_
 generalize hs:({ s with toks:=s.toks+1 }:Shared)=s0
 have gz0:IsZip s0.heap z i o v:=by rw[<-hs];exact gz
 have hT0:s0.TypeIs (.ref z) "zip":=⟨_,gz0,rfl⟩
 have qjd:∀(h':Heap) (tk:Nat) (e:Addr),s0.heap.NewAttrErr h' e (.ref z) (Str.ofString "keys")->wpAny (model P w) A (do
   let b <-isInstance (.ref e) (.type "AttributeError")
   if b=true then pure none else throw (.ref e)) Q E { s0 with heap:=h',toks:=tk }:=λh' tk e ne=>by
  obtain ⟨t,u,he⟩:=ne.there
  refine wpAny_bind (wpAny_isInstance (T:="AttributeError") (b:=true) ⟨_,he,rfl⟩ yja ?_)
  refine wpAny_pure ?_
  have:=k h' tk (λb o g=>ne.keeps b o (by rw[<-hs];exact g))
  subst hs
  exact this
 refine wpAny_bind (wpAny_attempt ?_)
 unfold getAttrBy
 refine wpAny_holding ?_
 refine wpAny_bind (wpAny_typeOf hT0 ?_)
 refine wpAny_bind (wpAny_of_eq zip_ga ?_)
 show wpAny _ _ (getAttrByItsOwn _ _ _ _ _ _) _ _ _
 unfold getAttrByItsOwn
 refine wpAny_bind (wpAny_of_eq (a:=none) (by rfl) ?_)
 refine wpAny_bind (wpAny_attempt (wpAny_holding ?_))
 show wpAny _ _ (boundAndCalled _ _ _) _ _ _
 unfold boundAndCalled
 refine wpAny_bind (wpAny_of_eq (a:=((Value.builtin "zip.__getattribute__"),[Value.ref z])) (by kernel_rfl) ?_)
 show wpAny _ _ (call (.builtin "zip.__getattribute__") [.ref z,.str _ _]) _ _ _
 refine wpAny_call_entry F.slot_zip_getattribute hT0 yh3 ?_ (F.args_zip_getattribute_2 _ _)
 have h1:=yid
 unfold Builtin.«object.__getattribute__»
 wp_walk
 refine wpAny_raiseAttrError (A:=A.in1) hh (λh' tk e ne=>?_) (by decide +kernel)
 obtain ⟨t,u,he⟩:=id ne.there
 have hT1:Shared.TypeIs { s0 with heap:=h',toks:=tk } (.ref e) "AttributeError":=⟨_,he,rfl⟩
 unfold getattributeRaised
 refine wpAny_bind (wpAny_isInstance (T:="AttributeError") (b:=true) hT1 yja ?_)
 rw[if_pos rfl]
 refine wpAny_bind (m:=hookBehind _ _) (wpAny_of_eq qim ?_)
 unfold hookOrError
 dsimp only
 unfold attributeErrorLeaves
 refine wpAny_bind (m:=throw (Value.ref e)) (wpAny_throw ?_)
 exact qjd h' tk e ne
end
open Builtin.SmallTypes (nextOf)
section
variable {prog:Program}{w:World}{A:Around}{E:Value->Shared->Prop}{s:Shared}
abbrev qft(h:Heap)(z TI TO:Addr)(f0:Value)(fl:Bool):Prop:=h.get? z=some { cls:=.type "zip",data:=.fields #[f0,.bool fl,.bool false,.ref TI,.ref TO] }
theorem qha{M:Model}{a:Addr}{o:Obj}{Q:Option Obj->Shared->Prop}(g:s.heap.get? a=some o)(k:Q (some o) s):wpAny M A (loadIfAlive a) Q E s:=by
 intro Γ p hi
 unfold loadIfAlive
 rw[Sem.wp_loadIfAlive,g]
 exact k
theorem ymh{z TI TO T:Addr}{fl:Bool}{Q:Bool->Shared->Prop}(gz:qft s.heap z TI TO (rawInt T) fl)(gT:∃o,s.heap.get? T=some o)(k:∀h',qft h' z TI TO (rawInt T) true->Heap.SameBut z s.heap h'->Q false { s with heap:=h' }) :
  wpAny (model prog w) A (Builtin.SmallTypes.ownedTupleIsFree (.ref z)) Q E s:=by
 obtain ⟨o,gT⟩:=gT
 unfold Builtin.SmallTypes.ownedTupleIsFree
 refine wpAny_bind (wpAny_field gz rfl (x:=rawInt T) rfl ?_)
 show wpAny _ _ (loadIfAlive (T:Int).toNat >>= _) _ _ _
 refine wpAny_bind (qha (by rw[toNat_natCast];exact gT) ?_)
 show wpAny _ _ (field (.ref z) 1 >>= _) _ _ _
 refine wpAny_bind (wpAny_field gz rfl (x:=.bool fl) rfl ?_)
 cases fl with
 |false=>
  refine wpAny_bind (m:=setField (.ref z) 1 (.bool true)) (wpAny_setField_rec gz (by simp) λm1 gz1 e1=>?_)
  exact wpAny_pure (k m1 gz1 e1)
 |true=>
  exact wpAny_pure (k s.heap gz (Heap.SameBut.refl _ _))
theorem zipNext2{n l1 l2 k T:Nat}{fl:Bool}{xs ys:Array Value}{x y:Value}{t1 t2:Bool}{Q:Value->Shared->Prop}(b1:l1<n)(b2:l2<n)(gz:qft s.heap (n+4) (n+2) (n+3) (rawInt T) fl)(gi:IsPair s.heap (n+2) (.ref n) (.ref (n+1)))(gT:∃o,s.heap.get? T=some o)
  (q1:SIt s.heap t1 n l1 k) (q2:SIt s.heap t2 (n+1) l2 k) (o1:SOf s.heap t1 l1 xs) (o2:SOf s.heap t2 l2 ys) (hx:xs[k]?=some x) (hy:ys[k]?=some y)
  (kk:∀h',qft h' (n+4) (n+2) (n+3) (rawInt T) true->SIt h' t1 n l1 (k+1)->SIt h' t2 (n+1) l2 (k+1)->IsPair h' s.heap.objs.size x y->
   (∀c o,c≠n+4->c≠n->c≠n+1->s.heap.get? c=some o->h'.get? c=some o)->Q (.ref s.heap.objs.size) { s with heap:=h' }) :
  wpAny (model prog w) A (Builtin.«zip.__next__» ⟨[.ref (n+4)],[]⟩) (λfin s'=>∃v,fin=.done (.ret v)/\Q v s') E s:=by
 show wpAny _ _ (field (.ref (n+4)) 2 >>= _) _ _ _
 refine wpAny_bind (wpAny_field gz rfl (x:=.bool false) rfl ?_)
 show wpAny _ _ (field (.ref (n+4)) 3 >>= _) _ _ _
 refine wpAny_bind (wpAny_field gz rfl (x:=.ref (n+2)) rfl ?_)
 refine wpAny_bind (wpAny_seqItems gi rfl ?_)
 show wpAny _ _ (Builtin.SmallTypes.ownedTupleIsFree (.ref (n+4)) >>= _) _ _ _
 refine wpAny_bind (ymh gz gT λm1 gz1 e1=>?_)
 rw[if_neg Bool.false_ne_true]
 simp only[List.forIn_toArray,forIn_cons,forIn_nil]
 refine wpAny_bind (wpAny_bind (wpAny_bind (wpAny_holding ?_)))
 show wpAny _ _ (nextOf (.ref n) >>= _) _ _ _
 refine wpAny_bind (qbt (q1.at λo g=>e1.extBut _ _ (neN (by omega)) g) (o1.at λo g=>e1.extBut _ _ (neN (by omega)) g) hx λm2 r1 e2=>?_)
 refine wpAny_pure (wpAny_pure ?_)
 refine wpAny_bind (wpAny_bind (wpAny_holding ?_))
 show wpAny _ _ (nextOf (.ref (n+1)) >>= _) _ _ _
 refine wpAny_bind (qbt (q2.at λo g=>e2.extBut _ _ (neN (by omega)) (e1.extBut _ _ (neN (by omega)) g)) (o2.at λo g=>e2.extBut _ _ (neN (by omega)) (e1.extBut _ _ (neN (by omega)) g)) hy λm3 r2 e3=>?_)
 refine wpAny_pure (wpAny_pure (wpAny_pure ?_))
 show wpAny _ _ (newTuple [x,y] >>= _) _ _ _
 refine wpAny_bind (wpAny_newTuple ?_)
 have hsz:m3.objs.size=s.heap.objs.size:=by rw[e3.1,e2.1,e1.1]
 have gz3:qft m3 (n+4) (n+2) (n+3) (rawInt T) true:=e3.extBut _ _ (neN (by omega)) (e2.extBut _ _ (neN (by omega)) gz1)
 have r1':SIt m3 t1 n l1 (k+1):=r1.at λo g=>e3.extBut _ _ (neN (by omega)) g
 have up:∀c o,m3.get? c=some o->(m3.push { cls:=.type "tuple",data:=.seq #[x,y] }).get? c=some o:=λc o g=>get?_push_of_some _ g
 refine wpAny_pure ⟨_,rfl,?_⟩
 have gt:IsPair (m3.push { cls:=.type "tuple",data:=.seq #[x,y] }) m3.objs.size x y:=get?_push_size _ rfl
 show Q (.ref m3.objs.size) _
 rw[hsz]at gt ⊢
 exact kk _ (up _ _ gz3) (r1'.at λo g=>up _ o g) (r2.at λo g=>up _ o g) gt λc o d1 d2 d3 g=>up c o (e3.extBut _ _ d3 (e2.extBut _ _ d2 (e1.extBut _ _ d1 g)))
theorem zipDone2{n l1 l2 k T:Nat}{fl:Bool}{xs ys:Array Value}{t1 t2:Bool}{Q:Fin->Shared->Prop}(hh:A.handled=none)(b1:l1<n)(b2:l2<n)(gz:qft s.heap (n+4) (n+2) (n+3) (rawInt T) fl)(gi:IsPair s.heap (n+2) (.ref n) (.ref (n+1)))(gT:∃o,s.heap.get? T=some o)
  (q1:SIt s.heap t1 n l1 k) (q2:SIt s.heap t2 (n+1) l2 k) (o1:SOf s.heap t1 l1 xs) (o2:SOf s.heap t2 l2 ys) (hend:xs[k]?=none\/ys[k]?=none)
  (kk:∀h' e,(∀c o,c≠n+4->c≠n->c≠n+1->s.heap.get? c=some o->h'.get? c=some o)->(∃o,h'.get? e=some o/\o.cls=.type "StopIteration")->E (.ref e) { s with heap:=h' }) :
  wpAny (model prog w) A (Builtin.«zip.__next__» ⟨[.ref (n+4)],[]⟩) Q E s:=by
 show wpAny _ _ (field (.ref (n+4)) 2 >>= _) _ _ _
 refine wpAny_bind (wpAny_field gz rfl (x:=.bool false) rfl ?_)
 show wpAny _ _ (field (.ref (n+4)) 3 >>= _) _ _ _
 refine wpAny_bind (wpAny_field gz rfl (x:=.ref (n+2)) rfl ?_)
 refine wpAny_bind (wpAny_seqItems gi rfl ?_)
 show wpAny _ _ (Builtin.SmallTypes.ownedTupleIsFree (.ref (n+4)) >>= _) _ _ _
 refine wpAny_bind (ymh gz gT λm1 gz1 e1=>?_)
 rw[if_neg Bool.false_ne_true]
 simp only[List.forIn_toArray,forIn_cons,forIn_nil]
 refine wpAny_bind (wpAny_bind (wpAny_bind (wpAny_holding ?_)))
 show wpAny _ _ (nextOf (.ref n) >>= _) _ _ _
 have p1:SIt m1 t1 n l1 k:=q1.at λo g=>e1.extBut _ _ (neN (by omega)) g
 have p2:SOf m1 t1 l1 xs:=o1.at λo g=>e1.extBut _ _ (neN (by omega)) g
 cases hx:xs[k]? with
 |none=>
  refine wpAny_bind (ydk hh p1 p2 hx λm2 e g2 he=>?_)
  exact kk m2 e (λc o d1 d2 _ g=>g2 _ _ d2 (e1.extBut _ _ d1 g)) he
 |some x=>
  have hy:ys[k]?=none:=by
   rcases hend with z|z
   ·rw[hx]at z;cases z
   ·exact z
  refine wpAny_bind (qbt p1 p2 hx λm2 r1 e2=>?_)
  refine wpAny_pure (wpAny_pure ?_)
  refine wpAny_bind (wpAny_bind (wpAny_holding ?_))
  show wpAny _ _ (nextOf (.ref (n+1)) >>= _) _ _ _
  refine wpAny_bind (ydk hh (q2.at λo g=>e2.extBut _ _ (neN (by omega)) (e1.extBut _ _ (neN (by omega)) g)) (o2.at λo g=>e2.extBut _ _ (neN (by omega)) (e1.extBut _ _ (neN (by omega)) g)) hy λm4 e g4 he=>?_)
  exact kk m4 e (λc o d1 d2 d3 g=>g4 _ _ d3 (e2.extBut _ _ d2 (e1.extBut _ _ d1 g))) he
end
section
variable {P:Program}{w:World}{A:Around}{E:Value->Shared->Prop}{s:Shared}
abbrev fpZ(n:Nat):List Nat:=[n,n+1,n+2,n+3,n+4]
def ZS2(h:Heap)(n:Nat)(t1 t2:Bool)(l1 l2:Addr)(i:Nat):Prop:=
 IsPair h (n+2) (.ref n) (.ref (n+1))/\SIt h t1 n l1 i/\SIt h t2 (n+1) l2 i/\
 ((IsZip h (n+4) (n+2) (n+3) .none/\∃a b,IsPair h (n+3) a b)\/∃(T:Nat) (fl:Bool),qft h (n+4) (n+2) (n+3) (rawInt T) fl/\∃o,h.get? T=some o)
theorem ZSt.s2{h:Heap}{n:Nat}{t1 t2:Bool}{l1 l2:Addr}{i:Nat}(z:ZSt h n t1 t2 l1 l2 i):ZS2 h n t1 t2 l1 l2 i:=by
 obtain ⟨a,b,gz,gi,go,q1,q2⟩:=z
 exact ⟨gi,q1,q2,.inl ⟨gz,a,b,go⟩⟩
theorem ZS2.lt{h:Heap}{n:Nat}{t1 t2:Bool}{l1 l2:Addr}{i:Nat}(z:ZS2 h n t1 t2 l1 l2 i):n+4<h.objs.size:=by
 obtain ⟨_,_,_,⟨g,_⟩|⟨_,_,g,_⟩⟩:=z
 ·exact lt_size g
 ·exact lt_size g
theorem ZS2.ty{s:Shared}{n:Nat}{t1 t2:Bool}{l1 l2:Addr}{i:Nat}(z:ZS2 s.heap n t1 t2 l1 l2 i):s.TypeIs (.ref (n+4)) "zip":=by
 obtain ⟨_,_,_,⟨g,_⟩|⟨_,_,g,_⟩⟩:=z
 ·exact ⟨_,g,rfl⟩
 ·exact ⟨_,g,rfl⟩
theorem ZS2.at{h h':Heap}{n:Nat}{t1 t2:Bool}{l1 l2:Addr}{i:Nat}(z:ZS2 h n t1 t2 l1 l2 i)(k:∀b ob,h.get? b=some ob->∃ob',h'.get? b=some ob'/\(b<=n+4->ob'=ob)):ZS2 h' n t1 t2 l1 l2 i:=by
 have k':∀b ob,b<=n+4->h.get? b=some ob->h'.get? b=some ob:=λb ob hb g=>by
  obtain ⟨ob',h1,h2⟩:=k b ob g
  rw[h1,h2 hb]
 obtain ⟨gi,q1,q2,r⟩:=z
 refine ⟨k' _ _ (by omega) gi,q1.at λo g=>k' _ o (by omega) g,q2.at λo g=>k' _ o (by omega) g,?_⟩
 rcases r with ⟨g,a,b,go⟩|⟨T,fl,g,o,gT⟩
 ·exact .inl ⟨k' _ _ (by omega) g,a,b,k' _ _ (by omega) go⟩
 ·obtain ⟨o',h1,_⟩:=k T o gT
  exact .inr ⟨T,fl,k' _ _ (by omega) g,o',h1⟩
theorem pyNextZ{n l1 l2 i:Nat}{xs ys:Array Value}{x y:Value}{t1 t2:Bool}{Q:Option Value->Shared->Prop}(b1:l1<n)(b2:l2<n)(st:ZS2 s.heap n t1 t2 l1 l2 i)(o1:SOf s.heap t1 l1 xs)(o2:SOf s.heap t2 l2 ys)(hx:xs[i]?=some x)(hy:ys[i]?=some y)
  (k:∀h',ZS2 h' n t1 t2 l1 l2 (i+1)->h'.get? s.heap.objs.size=some { cls:=.type "tuple",data:=.seq #[x,y] }->(∀b ob,b∉fpZ n->s.heap.get? b=some ob->h'.get? b=some ob)->Q (some (.ref s.heap.objs.size)) { s with heap:=h' }) :
  wpAny (model P w) A (pyNext (.ref (n+4))) Q E s:=by
 have hT:=st.ty
 obtain ⟨gi,q1,q2,r⟩:=st
 unfold pyNext
 refine wpAny_bind (wpAny_attempt (wpAny_callSpecial?_slot (name:=Str.ofString "__next__") hT F.slot_zip_next (wpAny_call_entry F.slot_zip_next hT F.entry_zip_next ?_ (F.args_zip_next_1 _))))
 rcases r with ⟨gz,a,b,go⟩|⟨T,fl,gz,gT⟩
 ·refine ql7 b1 b2 gz gi go q1 q2 o1 o2 (x:=x) (y:=y) hx hy λh' gz' go' r1 r2 hT' hsz kp=>?_
  refine wpAny_pure (k h' ⟨kp _ _ (neN (by omega)) (neN (by omega)) (neN (by omega)) (neN (by omega)) gi,r1,r2,.inr ⟨_,_,gz',_,hT'⟩⟩ hT' λb ob hb z=>?_)
  exact kp b ob (λq=>hb (by simp[q])) (λq=>hb (by simp[q])) (λq=>hb (by simp[q])) (λq=>hb (by simp[q])) z
 ·obtain ⟨oT,gT⟩:=gT
  refine zipNext2 b1 b2 gz gi ⟨oT,gT⟩ q1 q2 o1 o2 (x:=x) (y:=y) hx hy λh' gz' r1 r2 hT' kp=>?_
  have aT:∃o,h'.get? T=some o:=by
   by_cases h4:T=n+4
   ·exact ⟨_,by rw[h4];exact gz'⟩
   ·by_cases h0:T=n
    ·obtain ⟨o,g,_⟩:=r1.obj;exact ⟨o,by rw[h0];exact g⟩
    ·by_cases h1:T=n+1
     ·obtain ⟨o,g,_⟩:=r2.obj;exact ⟨o,by rw[h1];exact g⟩
     ·exact ⟨_,kp T _ h4 h0 h1 gT⟩
  refine wpAny_pure (k h' ⟨kp _ _ (neN (by omega)) (neN (by omega)) (neN (by omega)) gi,r1,r2,.inr ⟨_,_,gz',aT⟩⟩ hT' λb ob hb z=>?_)
  exact kp b ob (λq=>hb (by simp[q])) (λq=>hb (by simp[q])) (λq=>hb (by simp[q])) z
theorem qkm{n l1 l2 i:Nat}{xs ys:Array Value}{t1 t2:Bool}{Q:Option Value->Shared->Prop}(hh:A.handled=none)(b1:l1<n)(b2:l2<n)(st:ZS2 s.heap n t1 t2 l1 l2 i)(o1:SOf s.heap t1 l1 xs)(o2:SOf s.heap t2 l2 ys)(hend:xs[i]?=none\/ys[i]?=none)
  (k:∀h',(∀b ob,b∉fpZ n->s.heap.get? b=some ob->h'.get? b=some ob)->Q none { s with heap:=h' }) :
  wpAny (model P w) A (pyNext (.ref (n+4))) Q E s:=by
 have hT:=st.ty
 obtain ⟨gi,q1,q2,r⟩:=st
 unfold pyNext
 refine wpAny_bind (wpAny_attempt (wpAny_callSpecial?_slot (name:=Str.ofString "__next__") hT F.slot_zip_next (wpAny_call_entry F.slot_zip_next hT F.entry_zip_next ?_ (F.args_zip_next_1 _))))
 have fin:∀h' e,(∀b ob,b∉fpZ n->s.heap.get? b=some ob->h'.get? b=some ob)->(∃o,h'.get? e=some o/\o.cls=.type "StopIteration")->wpAny (model P w) A (do
   let b <-isInstance (.ref e) (.type "StopIteration")
   if b=true then pure none else throw (.ref e)) Q E { s with heap:=h' }:=λh' e kp he=>by
  obtain ⟨o,ho,hce⟩:=he
  exact wpAny_bind (wpAny_isInstance (T:="StopIteration") (b:=true) ⟨o,ho,hce⟩ isSubtype_stop (wpAny_pure (k h' kp)))
 rcases r with ⟨gz,a,b,go⟩|⟨T,fl,gz,gT⟩
 ·exact qlm hh b1 b2 gz gi go q1 q2 o1 o2 hend λh' e kp he=>fin h' e (λb ob hb z=>kp b ob (λq=>hb (by simp[q])) (λq=>hb (by simp[q])) (λq=>hb (by simp[q])) (λq=>hb (by simp[q])) z) he
 ·exact zipDone2 hh b1 b2 gz gi gT q1 q2 o1 o2 hend λh' e kp he=>fin h' e (λb ob hb z=>kp b ob (λq=>hb (by simp[q])) (λq=>hb (by simp[q])) (λq=>hb (by simp[q])) z) he
def accZ(kf:Nat->Key)(ys:Array Value):Nat->List (Key×Value)
 |0=>[]
 |i+1=>stored (accZ kf ys i) (kf i) (ys[i]?.getD .none)
theorem yjy(kf:Nat->Key)(ys:Array Value):∀i,(accZ kf ys i).length<=i
 |0=>le_refl _
 |i+1=>by
  have:=yjy kf ys i
  unfold accZ stored
  split
  ·rw[length_map];omega
  ·rw[length_append];simp;omega
theorem dictLoop{n l1 l2 d m:Nat}{xs ys:Array Value}{kf:Nat->Key}{t1 t2:Bool}{R:Result->Shared->Prop}(hh:A.handled=none)(b1:l1<n)(b2:l2<n)(hm:m=min xs.size ys.size)(hz:m<=sizeLine)(hk:∀i x,xs[i]?=some x->(yat P w).is (kf i) x=true)(hd:n+4<d) :
  ∀r i (s:Shared),i+r=m->ZS2 s.heap n t1 t2 l1 l2 i->SOf s.heap t1 l1 xs->SOf s.heap t2 l2 ys->s.heap.DictOf (yat P w) d (accZ kf ys i)->
   (∀h' tk,h'.DictOf (yat P w) d (accZ kf ys m)->(∀b ob,b<n->s.heap.get? b=some ob->h'.get? b=some ob)->R (.ok (.ret .none)) { s with heap:=h',toks:=tk })->
   codeAny (model P w) A (.builtin "dict.update.loop" ⟨[.ref d,.ref (n+4),rawInt i,.none],[]⟩) R s:=by
 intro r
 have nfp:∀b,b<n->b∉fpZ n:=λb hb hm=>by simp at hm;omega
 have nfd:d∉fpZ n:=λhm=>by simp at hm;omega
 induction r with
 |zero=>
  intro i s hi st o1 o2 hD k
  refine codeAny_builtin qde ?_
  rw[Around.under_plainId ybk _]
  show wpAny _ A.in1 (pyNext (.ref (n+4)) >>= _) _ _ _
  refine wpAny_bind (qkm (A:=A.in1) hh b1 b2 st o1 o2 ?_ λh' kp=>?_)
  ·simp only[Array.getElem?_eq_none_iff]
   omega
  ·refine wpAny_bind (m:=Builtin.Dict.addKeywords d []) (wpAny_of_eq (a:=()) (by rfl) ?_)
   have e:i=m:=by omega
   subst e
   refine wpAny_pure (k h' s.toks (hD.at λo g=>kp d o nfd g) λb ob hb g=>kp b ob (nfp b hb) g)
 |succ r ih=>
  intro i s hi st o1 o2 hD k
  refine codeAny_builtin qde ?_
  rw[Around.under_plainId ybk _]
  show wpAny _ A.in1 (pyNext (.ref (n+4)) >>= _) _ _ _
  obtain ⟨x,hx⟩:∃x,xs[i]?=some x:=⟨_,Array.getElem?_eq_getElem (by omega)⟩
  obtain ⟨y,hy⟩:∃y,ys[i]?=some y:=⟨_,Array.getElem?_eq_getElem (by omega)⟩
  refine wpAny_bind (pyNextZ (A:=A.in1) b1 b2 st o1 o2 hx hy λh' st' hT kp=>?_)
  dsimp only
  refine wpAny_bind (wpAny_holding (wpAny_bind (wpAny_tryCatch ?_)))
  have hTT:Shared.TypeIs { s with heap:=h' } (.ref s.heap.objs.size) "tuple":=⟨_,hT,rfl⟩
  unfold Builtin.Dict.pairItems
  refine wpAny_bind (wpAny_typeOf hTT ?_)
  rw[if_pos (by decide)]
  refine wpAny_bind (wpAny_seqItems hT rfl (wpAny_pure ?_))
  show wpAny _ A.in1 (holding [x,y] (dictSet d x y)) _ _ _
  refine wpAny_holding (wpAny_dictSet_pairs (k:=kf i) (hk i x hx) (hD.at λo g=>kp d o nfd g) (λh2 hD2 sb=>?_) ?_)
  ·refine wpAny_pure ⟨plainId_quiet ybk _,?_⟩
   have hD3:h2.DictOf (yat P w) d (accZ kf ys (i+1)):=by
    unfold accZ
    rw[hy]
    exact hD2
   have up:∀b ob,b≠d->h'.get? b=some ob->h2.get? b=some ob:=λb ob hb g=>(sb.2 b hb).trans g
   have:=ih (i+1) { s with heap:=h2,toks:=s.toks+1 } (by omega) (st'.at λb ob g=>?_) (o1.at λo g=>up _ o (by omega) (kp _ o (nfp _ b1) g)) (o2.at λo g=>up _ o (by omega) (kp _ o (nfp _ b2) g)) hD3 λh3 tk hD4 kp3=>k h3 tk hD4 λb ob hb g=>kp3 b ob hb (up b ob (by omega) (kp b ob (nfp b hb) g))
   ·rw[show ((i+1:Nat):Int)=(i:Int)+1 from rfl]at this
    exact this
   ·by_cases hb:b=d
    ·subst hb
     obtain ⟨o,_,_,go,_⟩:=hD3
     exact ⟨o,go,λz=>absurd z (Nat.not_le.mpr hd)⟩
    ·exact ⟨ob,up b ob hb g,λ_=>rfl⟩
  ·have:=yjy kf ys i
   omega
theorem ykl:bootBuiltins "dict"=some (.type "dict"):=by decide +kernel
theorem qkl{n l1 l2 m:Nat}{xs ys:Array Value}{kf:Nat->Key}{t1 t2:Bool}{Q:Value->Shared->Prop}(hh:A.handled=none)(b1:l1<n)(b2:l2<n)(hm:m=min xs.size ys.size)(hz:m<=sizeLine)(hk:∀i x,xs[i]?=some x->(yat P w).is (kf i) x=true)
  (st:ZSt s.heap n t1 t2 l1 l2 0) (o1:SOf s.heap t1 l1 xs) (o2:SOf s.heap t2 l2 ys)
  (k:∀h' tk,h'.DictOf (yat P w) s.heap.objs.size (accZ kf ys m)->(∀b ob,b<n->s.heap.get? b=some ob->h'.get? b=some ob)->Q (.ref s.heap.objs.size) { s with heap:=h',toks:=tk }) :
  wpAny (model P w) A (call (.type "dict") [.ref (n+4)]) Q E s:=by
 refine callType_codes F.kt_called_dict (F.kt_typeCall_dict_1 _) F.entry_dict_init (kt_code_dict_new (.ref (n+4)) (Q₁:=λobj s1=>obj=.ref s.heap.objs.size/\s1={ s with heap:=s.heap.push { cls:=.type "dict",data:=.dict #[] } }) ⟨rfl,rfl⟩) ?_
 rintro obj s1 ⟨rfl,rfl⟩
 have lt:n+4<s.heap.objs.size:=st.s2.lt
 have g0:(s.heap.push { cls:=.type "dict",data:=.dict #[] }).get? s.heap.objs.size=some { cls:=.type "dict",data:=.dict #[] }:=get?_push_size _ rfl
 have up:∀b ob,s.heap.get? b=some ob->(s.heap.push { cls:=.type "dict",data:=.dict #[] }).get? b=some ob:=λb ob g=>get?_push_of_some _ g
 have hD0:(s.heap.push { cls:=.type "dict",data:=.dict #[] }).DictOf (yat P w) s.heap.objs.size []:=Heap.DictOf.new _
 revert g0 up hD0
 generalize s.heap.push { cls:=.type "dict",data:=.dict #[] }=h1
 intro g0 up hD0
 have hTd:Shared.TypeIs { s with heap:=h1 } (.ref s.heap.objs.size) "dict":=⟨_,g0,rfl⟩
 refine ⟨hTd,F.args_dict_init_2 _ _,?_⟩
 have st1:ZSt h1 n t1 t2 l1 l2 0:=by
  obtain ⟨a,b,gz,gi,go,q1,q2⟩:=st
  exact ⟨a,b,up _ _ gz,up _ _ gi,up _ _ go,q1.at λo g=>up _ o g,q2.at λo g=>up _ o g⟩
 obtain ⟨a0,b0,gz,_⟩:=id st1
 have hTz:Shared.TypeIs { s with heap:=h1 } (.ref (n+4)) "zip":=⟨_,gz,rfl⟩
 unfold Builtin.«dict.__init__» Builtin.Dict.selfAndRest
 refine wpAny_bind (wpAny_bind ?_)
 unfold Builtin.Dict.notOrdered
 rw[if_pos (by decide +kernel)]
 refine wpAny_bind (wpAny_typeOf hTd ?_)
 rw[if_neg (by decide)]
 refine wpAny_pure ?_
 refine wpAny_bind (m:=Builtin.Dict.addrOf _) (wpAny_of_eq (a:=s.heap.objs.size) (by rfl) (wpAny_pure ?_))
 show wpAny _ _ (Builtin.Dict.updateFrom _ _ _ _ _) _ _ _
 unfold Builtin.Dict.updateFrom
 refine wpAny_bind (wpAny_typeOf hTz ?_)
 rw[if_pos (by decide)]
 refine wpAny_bind (zipKeys (A:=A.in1.in1) gz hh λh2 tk2 kp2=>?_)
 rw[if_pos (show (none:Option Value).isNone=true from rfl)]
 refine wpAny_bind (wpAny_rule ?_)
 have st2:ZSt h2 n t1 t2 l1 l2 0:=by
  obtain ⟨a,b,gz,gi,go,q1,q2⟩:=st1
  exact ⟨a,b,kp2 _ _ gz,kp2 _ _ gi,kp2 _ _ go,q1.at λo g=>kp2 _ o g,q2.at λo g=>kp2 _ o g⟩
 refine wpAny_bind (wpAny_pyIter_zip (kp2 _ _ gz) ?_)
 refine wpAny_pure ⟨plainId_quiet ybk _,?_⟩
 refine dictLoop (A:=A.in1) hh b1 b2 hm hz hk lt m 0 _ (by omega) st2.s2 (o1.at λo g=>kp2 _ o (up _ o g)) (o2.at λo g=>kp2 _ o (up _ o g)) (hD0.at λo g=>kp2 _ o g) λh3 tk3 hD3 kp3=>?_
 exact ⟨rfl,k h3 tk3 hD3 λb ob hb g=>kp3 b ob hb (kp2 b ob (up b ob g))⟩
end
def dzip(ks:List Key)(ys:List V):Nat->List (Key×V)
 |0=>[]
 |i+1=>putK (dzip ks ys i) (ks[i]?.getD (.inl 0)) (ys[i]?.getD .non)
theorem qju(ks:List Key)(ys:List V):∀i,(dzip ks ys i).length<=i
 |0=>le_refl _
 |i+1=>by
  have:=qju ks ys i
  have h2:=yb9 (dzip ks ys i) (ks[i]?.getD (.inl 0)) (ys[i]?.getD .non)
  unfold dzip
  omega
theorem yk3{ks:List Key}{ys:List V}{us:List Value}(r:Vals ys us):∀i,i<=ys.length->KV (dzip ks ys i) (accZ (λj=>ks[j]?.getD (.inl 0)) us.toArray i)
 |0,_=>.nil
 |i+1,h=>by
  unfold dzip accZ
  obtain ⟨u,hu,ru⟩:=r.get (getElem?_eq_getElem (l:=ys) (i:=i) (by omega))
  refine KV.put (yk3 r i (by omega)) _ ?_
  rw[getElem?_eq_getElem (l:=ys) (i:=i) (by omega),List.getElem?_toArray,hu]
  exact ru
def rDZ(K:W.Frag):List V->Hp->VK->Prop:=λvs H Q=>∃t1 t2 l1 l2 ks ys,vs=[.ref l1,.ref l2]/\Sq K t1 H l1 (ks.map kV)/\Sq K t2 H l2 ys/\ys.length<=sizeLine/\∀p,H p=none->Q (.ref p) (upd H p (.dK (dzip ks ys (min ks.length ys.length))))
def tDZ(K:W.Frag)(ta:TA):TE:=λσ H Q=>ta σ H λvs H1=>rDZ K vs H1 Q
section
variable {X:Cx}
theorem ykj{a b:Expr}{ta:TA}{p pos p2 pos2:Pos}(hc:X.calm=true)(hd:Gl X "dict")(hdm:X.mg "dict"=none)(hg:Gl X "zip")(hm:X.mg "zip"=none)(ha:PA X [a,b] ta)(hs:starEach [a,b] X.env=(false,eval a X.env)::starEach [b] X.env:=by rfl)(hp:(backTo pos2 (starEach [b] X.env)).any (·.1)=false:=by rfl)
  (hs2:starEach [Expr.Call (.Name "zip" p2) [a,b] [] pos2] X.env=(false,eval (.Call (.Name "zip" p2) [a,b] [] pos2) X.env)::starEach [] X.env:=by rfl) (hp2:(backTo pos (starEach [] X.env)).any (·.1)=false:=by rfl) :
  PE X (.Call (.Name "dict" p) [.Call (.Name "zip" p2) [a,b] [] pos2] [] pos) (tDZ X.K ta):=by
 intro pins s σ H Q I h
 refine wpAny_Call_Name_kw (yc3 I hd hdm ykl ?_)
 refine PyProof.Rows.callWith_type1 ?_ hs2 hp2
 rw[hs2]
 show wpAny _ _ (spliced ((false,eval _ X.env)::backTo pos (starEach [] X.env))) _ _ s
 refine Calls.spliced_cons ?_
 refine wpAny_Call_Name_kw (yc3 I hg hm qhq (PyProof.Rows.callWith_type1 (thn (ha pos2 pins s σ H _ I h) λus s1 ⟨vs,H1,I1,r1,q1⟩=>?_) hs hp))
 obtain ⟨t1,t2,l1,l2,ks,ys,e,hq1,hq2,hz,q⟩:=q1
 subst e
 cases r1 with
 |cons r rr=>
  cases rr with
  |cons r2 rr=>
   cases rr
   cases r
   cases r2
   obtain ⟨its1,rv1,so1,b1⟩:=I1.sq hq1
   obtain ⟨its2,rv2,so2,b2⟩:=I1.sq hq2
   refine yhi so1 so2 λh' st kp=>?_
   refine Calls.spliced_nil ?_
   have l1':=rv1.length
   have l2':=rv2.length
   rw[length_map]at l1'
   refine qkl (s:={ s1 with heap:=h' }) (m:=min ks.length ys.length) (kf:=λj=>ks[j]?.getD (.inl 0)) (I.ok.hd hc) b1 b2 (by simp[l1',l2']) (by omega) (λi x hx=>?_) st (so1.at λo g=>kp _ o g) (so2.at λo g=>kp _ o g) λh3 tk3 hD3 kp3=>?_
   ·have hx':its1[i]?=some x:=by simpa using hx
    have hi:i<ks.length:=by
     have:=(List.getElem?_eq_some_iff.mp hx').1
     omega
    obtain ⟨u,hu,ru⟩:=rv1.get (x:=kV ks[i]) (by rw[getElem?_map,getElem?_eq_getElem hi];rfl)
    rw[hx']at hu
    cases hu
    show (yat X.prog X.w).is (ks[i]?.getD (.inl 0)) x=true
    rw[getElem?_eq_getElem hi]
    exact yi8 ru
   ·have up:∀b ob,s1.heap.get? b=some ob->h3.get? b=some ob:=λb ob g=>kp3 b ob (lt_size g) (kp b ob g)
    have lt:s1.heap.objs.size<=h'.objs.size:=by
     have:=st.s2.lt
     omega
    have fr:H1 h'.objs.size=none:=I1.hok.fresh lt
    have big:=I1.big
    refine ⟨.ref h'.objs.size,upd H1 h'.objs.size (.dK (dzip ks ys (min ks.length ys.length))),I1.laid (a:=h'.objs.size) (o:=.dK _) (t':=tk3) up lt ⟨?_,?_,_,yk3 rv2 _ (by omega),hD3⟩,rfl,q _ fr⟩
    ·have:=qju ks ys (min ks.length ys.length)
     omega
    ·exact beq_eq_false_iff_ne.mpr (ne_of_gt (lt_of_lt_of_le big lt))
def isI(b:Int):Value->Bool
 |.int c _=>c == b
 |_=>false
theorem isI_at{A:Around}{s:Shared}{b:Int}{t:Tok}{ns:List Int}{us:List Value}(h:IntsAre us ns):∀y,y∈us.toArray->SeqAt.EqAt A s y (.int b t) (isI b y):=by
 intro y hy
 have hy':y∈us:=by simpa using hy
 clear hy
 induction h with
 |nil=>cases hy'
 |cons c u _ ih=>
  rcases mem_cons.mp hy' with rfl|hy'
  ·exact SeqAt.EqAt.int_int c u b t
  ·exact ih hy'
theorem qjy{us:List Value}{ns:List Int}(h:IntsAre us ns):∀{i:Nat} (hi:i<us.length) (hn:i<ns.length),∃t,us[i]=.int ns[i] t:=by
 induction h with
 |nil=>intro i hi;exact absurd hi (not_lt_zero _)
 |cons c u _ ih=>
  intro i hi hn
  cases i with
  |zero=>exact ⟨u,rfl⟩
  |succ i=>exact ih (i:=i) (by simpa using hi) (by simpa using hn)
def rIndexI:V->List V->Hp->VK->Prop:=λx vs H Q=>∃(l:Addr) (ns:List Int) (b:Int) (j:Nat),x=.ref l/\vs=[.int b]/\H l=some (.lst (ns.map V.int))/\ns[j]?=some b/\(∀m,m<j->ns[m]?≠some b)/\Q (.int (j:Nat)) H
theorem yhn:MtM X "list.index" rIndexI:=by
 intro pins s σ H x vs v us Q I rx rv h
 obtain ⟨l,ns,b,j,rfl,rfl,hH,hj,hno,q⟩:=h
 cases rx
 obtain ⟨u,rfl,ru⟩:=rv.one
 obtain ⟨t,rfl⟩:=ru
 obtain ⟨z,its,n,r,hl,e⟩:=I.lstM hH
 have hi:=ydi r
 have hil:its.length=ns.length:=by rw[<-hl,length_map]
 obtain ⟨hjl,hjb⟩:=List.getElem?_eq_some_iff.mp hj
 rw[length_map]at z
 have hz:(sizeLine:Nat)<2 ^ 63-1:=by decide
 refine call_meets F.slot_list_index ⟨_,e,rfl⟩ F.entry_list_index (F.args_list_index_2 _ _)
  (SeqAt.list_indexAt l _ n _ _ (.int b t) (isI b) j (by rw[size_toArray];omega) (by omega) ?_ λm hm hlt=>?_) ⟨e,isI_at hi,⟨.int (j:Nat),_,I.tok _,⟨_,rfl⟩,q⟩⟩
 ·rw[List.getElem_toArray]
  obtain ⟨t',e'⟩:=qjy hi (i:=j) (by omega) hjl
  rw[e',hjb]
  exact beq_self_eq_true b
 ·rw[List.getElem_toArray]
  obtain ⟨t',e'⟩:=qjy hi (i:=m) (by omega) (by omega)
  rw[e']
  exact beq_eq_false_iff_ne.mpr λq=>hno m hlt (by rw[getElem?_eq_getElem (by omega),q])
theorem qj5{x y:Int}(h0:0<y)(h1:y<=18446744073709551616):Builtin.divisionGoesByPylong x y=false:=by
 have hl:y.natAbs.log2<65:=(Nat.log2_lt (by omega)).mpr (by omega)
 unfold Builtin.divisionGoesByPylong
 have e:decide ((if (y == 0)=true then 0 else y.natAbs.log2 / 30+1)>300)=false:=by
  refine decide_eq_false ?_
  rw[if_neg (by simp;omega)]
  omega
 show (decide ((if (y == 0)=true then 0 else y.natAbs.log2 / 30+1)>300)&&_)=false
 rw[e]
 rfl
def CDivB(_ j:Int):Prop:=0<j/\j<=18446744073709551616
theorem op_fdivB:OpR X (binaryOp .FloorDiv) (rI CDivB λi j=>.int (i / j)):=opI λi j _ _ _ _ _ hc q=>by
 have h1:(0:Int)<j:=hc.1
 exact floordiv_int (by omega) (by rw[Int.fdiv_eq_ediv_of_nonneg i (by omega)];exact q) (.inl (qj5 hc.1 hc.2))
end
section
variable {X:Cx}{pins:List (Addr×Obj)}{σ:St}{H:Hp}{s:Shared}{a:Addr}{kvs:List (Key×V)}
theorem KV.at_{kvs:List (Key×V)}{vs:List (Key×Value)}(r:KV kvs vs):∀{i:Nat},i<kvs.length->∃k v u,kvs[i]?=some (k,v)/\vs[i]?=some (k,u)/\RelV v u:=by
 induction r with
 |nil=>intro i h;exact absurd h (not_lt_zero _)
 |@cons p q l1 l2 h _ ih=>
  intro i hi
  cases i with
  |zero=>exact ⟨p.1,p.2,q.2,rfl,by rw[h.1];rfl,h.2⟩
  |succ i=>exact ih (i:=i) (by simpa using hi)
end
end L2
namespace L2
open PySem PySem.Spec PyProof.Rows PySem.W
abbrev TL:=Addr×List Int
def qbu(ts:List TL):List V:=ts.map λt=>V.ref t.1
section
variable {prog:Program}{w:World}{A:Around}{E:Value->Shared->Prop}{s:Shared}
theorem qme{v:Value}{Q:Value->Shared->Prop}
  (h:wpAny (model prog w) A.in1 (collect v) (λvs s1=>vs.length<64/\(∀(s2:Shared),s2={ s1 with heap:=s1.heap.push (seqObj "list" vs.toArray 0) }->
   wpAny (model prog w) A.in1.in1 (Builtin.«list.sort» ⟨[.ref s1.heap.objs.size],[]⟩) (λf s3=>f=.done (.ret .none)/\Q (.ref s1.heap.objs.size) s3) (λ_ _=>False) s2)) E s) :
  wpAny (model prog w) A (call (.builtin "sorted") [v]) Q E s:=by
 refine Calls.call_function_entry kind_sorted plain_sorted entry_sorted (args_sorted1 v) ?_
 unfold Builtin.«sorted»
 refine wpAny_bind (m:=checkCount "sorted" 1 1 _) ?_
 refine wpAny_pure ?_
 refine wpAny_bind (wpAny_mono h (λvs s1 hq=>?_) λ_ _ x=>x)
 obtain ⟨h64,k⟩:=hq
 refine wpAny_bind (wpAny_newList ?_ (qil (by omega)))
 have gL:(s1.heap.push (seqObj "list" vs.toArray 0)).get? s1.heap.objs.size=some (seqObj "list" vs.toArray 0):=get?_push_size _ rfl
 refine wpAny_bind (wpAny_holding (wpAny_call_entry slot_list_sort ⟨_,gL,rfl⟩ entry_list_sort (wpAny_mono (k _ rfl) (λf s3 hf=>?_) λ_ _ x=>x.elim) (args_list_sort _)))
 obtain ⟨rfl,q⟩:=hf
 exact ⟨_,rfl,wpAny_pure ⟨_,rfl,q⟩⟩
end
section
variable {prog:Program}{w:World}{A:Around}{E:Value->Shared->Prop}{s:Shared}{it d:Addr}{es:Array DictEntry}{ep i:Nat}
def qhb(h:Heap)(d:Addr)(es:Array DictEntry)(ep:Nat):Prop:=∃o,h.get? d=some o/\o.ExactDict/\o.data=.dict es ep
theorem qhb.ty(x:qhb s.heap d es ep):s.TypeIs (.ref d) "dict":=let ⟨o,ho,hc,_⟩:=x;⟨o,ho,hc.1⟩
theorem qhb.at_{h h':Heap}(x:qhb h d es ep)(k:∀o,h.get? d=some o->h'.get? d=some o):qhb h' d es ep:=let ⟨o,ho,r⟩:=x;⟨o,k _ ho,r⟩
theorem iterE{Q:Value->Shared->Prop}(hd:(d == sysModules)=false)(hm:qhb s.heap d es ep)
  (hQ:Q (.ref s.heap.objs.size) { s with heap:=s.heap.push { cls:=.type "dict_keyiterator",data:=.fields #[.ref d,.int 0 0,.int es.size 0,.int ep 0] } }):wpAny (model prog w) A (pyIter (.ref d)) Q E s:=by
 obtain ⟨o,ho,hc,hdat⟩:=id hm
 refine wpAny_pyIter_slot hm.ty F.slot_dict_iter (wpAny_call_entry F.slot_dict_iter hm.ty F.entry_dict_iter ?_ (F.args_dict_iter_1 _))
 unfold Builtin.«dict.__iter__»
 refine wpAny_bind ?_
 unfold Builtin.Dict.dictSlotNone
 refine wpAny_bind (wpAny_notOrdered_dict hm.ty ?_)
 show wpAny _ _ (pure (Value.ref d)) _ _ s
 refine wpAny_pure ?_
 show wpAny _ _ (Builtin.Dict.showsAll d >>= _) _ _ s
 unfold Builtin.Dict.showsAll
 rw[if_neg (by rw[hd];exact Bool.false_ne_true)]
 refine wpAny_bind (wpAny_pure (wpAny_bind (wpAny_dictEntries ho hdat (wpAny_bind (wpAny_dictEpoch ho hdat ?_)))))
 exact wpAny_bind (wpAny_newObj_type (wpAny_pure ⟨_,rfl,"dict_keyiterator",_,⟨_,get?_push_size _ rfl,rfl⟩,F.slot_dict_keyiterator_next.lookup,hQ⟩))
theorem nextE{Q:Option Value->Shared->Prop}(hit:s.heap.IsKeyIter it d i es.size ep)(hm:qhb s.heap d es ep)(hi:i<es.size)
  (hQ:∀h',h'.IsKeyIter it d (i+1) es.size ep->Heap.SameBut it s.heap h'->Q (some es[i].key) { s with heap:=h' }):wpAny (model prog w) A (pyNext (.ref it)) Q E s:=by
 obtain ⟨o,ho,hc,hd⟩:=id hit
 obtain ⟨od,hod,hcd,hdd⟩:=id hm
 unfold pyNext
 refine wpAny_bind (wpAny_attempt (wpAny_callSpecial?_slot (name:=Str.ofString "__next__") hit.typeIs F.slot_dict_keyiterator_next
  (wpAny_call_entry F.slot_dict_keyiterator_next hit.typeIs F.entry_dict_keyiterator_next ?_ (F.args_dict_keyiterator_next_1 _))))
 refine wpAny_bind (wpAny_pure (wpAny_bind (wpAny_bind ?_)))
 first|refine wpAny_bind (wpAny_typeNameOfWhole_keyiter hit.typeIs (wpAny_pure ?_))|refine wpAny_bind (wpAny_typeNameOf_keyiter hit.typeIs (wpAny_pure ?_))
 refine wpAny_bind (wpAny_fieldsOf ho hd ?_)
 simp only[show Builtin.Dict_items.ownsTuple "dict_keyiterator"=false by decide,Bool.false_eq_true,if_false]
 show wpAny _ _ (if (Value.ref d == Value.none)=true then _ else _) _ _ s
 rw[if_neg (show ¬ ((Value.ref d == Value.none)=true) from Bool.false_ne_true)]
 refine wpAny_bind (wpAny_pure (wpAny_bind (wpAny_dictEntries hod hdd ?_)))
 rw[if_neg (by simp)]
 refine wpAny_bind (wpAny_pure (wpAny_bind (wpAny_dictEpoch hod hdd ?_)))
 rw[if_neg (by simp)]
 refine wpAny_pure ?_
 simp only[show ¬ ((i:Int)<0) from by omega,if_false,toNat_natCast,Array.getElem?_eq_getElem hi]
 refine wpAny_bind ?_
 first|refine wpAny_bind (wpAny_typeNameOfWhole_keyiter hit.typeIs (wpAny_pure ?_))|refine wpAny_bind (wpAny_typeNameOf_keyiter hit.typeIs (wpAny_pure ?_))
 refine wpAny_bind (wpAny_isOneOf_keyiter hit.typeIs ?_)
 show wpAny _ _ (setField (.ref it) 1 (rawInt ((i:Int)+1)) >>= _) _ _ s
 refine wpAny_bind (wpAny_setField ho hd (by simp) ?_)
 have hit':(s.heap.update it (Obj.mapFields (·.setIfInBounds 1 (rawInt ((i:Int)+1))))).IsKeyIter it d (i+1) es.size ep:=
  ⟨_,get?_update_self _ ho (Obj.isFreed_of_fields (Obj.data_mapFields hd _)),(Obj.cls_mapFields ..).trans hc,by rw[Obj.data_mapFields hd];simp[rawInt]⟩
 refine wpAny_bind (wpAny_holding ?_)
 refine wpAny_bind (wpAny_isOneOf_keyiter (s:={ s with heap:=s.heap.update it (Obj.mapFields (·.setIfInBounds 1 (rawInt ((i:Int)+1)))) }) hit'.typeIs ?_)
 show wpAny _ _ (pure es[i].key) _ _ _
 exact wpAny_pure (wpAny_pure ⟨_,rfl,wpAny_pure (hQ _ hit' (Heap.SameBut.update ..))⟩)
theorem endE{Q:Option Value->Shared->Prop}(hh:A.handled=none)(hit:s.heap.IsKeyIter it d i es.size ep)(hm:qhb s.heap d es ep)(hi:es.size<=i)
  (hQ:∀h',Heap.ExtBut it s.heap h'->Q none { s with heap:=h' }):wpAny (model prog w) A (pyNext (.ref it)) Q E s:=by
 obtain ⟨o,ho,hc,hd⟩:=id hit
 obtain ⟨od,hod,hcd,hdd⟩:=id hm
 unfold pyNext
 refine wpAny_bind (wpAny_attempt (wpAny_callSpecial?_slot (name:=Str.ofString "__next__") hit.typeIs F.slot_dict_keyiterator_next
  (wpAny_call_entry F.slot_dict_keyiterator_next hit.typeIs F.entry_dict_keyiterator_next ?_ (F.args_dict_keyiterator_next_1 _))))
 refine wpAny_bind (wpAny_pure (wpAny_bind (wpAny_bind ?_)))
 first|refine wpAny_bind (wpAny_typeNameOfWhole_keyiter hit.typeIs (wpAny_pure ?_))|refine wpAny_bind (wpAny_typeNameOf_keyiter hit.typeIs (wpAny_pure ?_))
 refine wpAny_bind (wpAny_fieldsOf ho hd ?_)
 simp only[show Builtin.Dict_items.ownsTuple "dict_keyiterator"=false by decide,Bool.false_eq_true,if_false]
 show wpAny _ _ (if (Value.ref d == Value.none)=true then _ else _) _ _ s
 rw[if_neg (show ¬ ((Value.ref d == Value.none)=true) from Bool.false_ne_true)]
 refine wpAny_bind (wpAny_pure (wpAny_bind (wpAny_dictEntries hod hdd ?_)))
 rw[if_neg (by simp)]
 refine wpAny_bind (wpAny_pure (wpAny_bind (wpAny_dictEpoch hod hdd ?_)))
 rw[if_neg (by simp)]
 refine wpAny_pure ?_
 simp only[show ¬ ((i:Int)<0) from by omega,if_false,toNat_natCast,Array.getElem?_eq_none hi]
 refine wpAny_bind ?_
 first|refine wpAny_bind (wpAny_typeNameOfWhole_keyiter hit.typeIs (wpAny_pure ?_))|refine wpAny_bind (wpAny_typeNameOf_keyiter hit.typeIs (wpAny_pure ?_))
 show wpAny _ _ (setField (.ref it) 0 .none >>= _) _ _ s
 refine wpAny_bind (wpAny_setField ho hd (by simp) ?_)
 show wpAny _ _ (newExc (.type "StopIteration") [] >>= _) _ _ _
 refine wpAny_bind ?_
 simp only[newExc,newTuple]
 refine wpAny_bind (wpAny_newObj_type ?_ (by size_fits))
 refine wpAny_bind (m:=firstArgMember _ _) (wpAny_of_eq (a:=Value.none) (by first|rfl|(simp only[firstArgMember];rfl)) ?_)
 refine wpAny_newObj_type ?_ (by size_fits)
 simp only[raiseNew]
 refine wpAny_bind (wpAny_handled ?_)
 rw[show A.in1.handled=none from hh]
 refine wpAny_bind (wpAny_pure (wpAny_throw ?_))
 refine wpAny_bind (wpAny_isInstance (T:="StopIteration") (b:=true) ⟨_,get?_push_size _ rfl,rfl⟩ isSubtype_stop ?_)
 exact wpAny_pure (hQ _ (((Heap.SameBut.update ..).extBut.push _).push _))
end
end L2
namespace L2
open PySem PySem.Spec PyProof.Rows
theorem for_by{J:It}{n:Nat}{g:TG}{tb:TS}{D:Ends}{σ:St}{H:Hp}(Pv:Nat->St->Hp->Prop)(h0:Pv 0 σ H)(hd:∀σ H,Pv n σ H->J.stop n H/\D.nx σ H)
  (hs:∀i σ H,i<n->Pv i σ H->J.go i H/\∀x H',J.yld i H x H'->g x σ H' λσ2 H2=>tb { D with nx:=Pv (i+1),ct:=Pv (i+1),bk:=D.nx } σ2 H2) :
  ∃W:Nat->Nat->St->Hp->Prop,(∃m,W 0 m σ H)/\∀i m σ H,W i m σ H->
   (J.stop i H/\D.nx σ H)\/(J.go i H/\∃N:St->Hp->Prop,(∀σ' H',N σ' H'->∃m',m' < m/\W (i+1) m' σ' H')/\∀x H',J.yld i H x H'->g x σ H' λσ2 H2=>tb { D with nx:=N,ct:=N,bk:=D.nx } σ2 H2):=by
 refine ⟨λi m σ H=>m=n-i/\i<=n/\Pv i σ H,⟨n,by simp,zero_le _,h0⟩,?_⟩
 rintro i m σ H ⟨rfl,hi,p⟩
 by_cases hlt:i<n
 ·obtain ⟨g1,g2⟩:=hs i σ H hlt p
  exact .inr ⟨g1,Pv (i+1),λσ' H' p'=>⟨n-(i+1),by omega,rfl,hlt,p'⟩,g2⟩
 ·have e:i=n:=by omega
  subst e
  exact .inl (hd σ H p)
def Srt(xs:Array Nat):Prop:=∀(i j:Nat) (x y:Nat),i<j->xs[i]?=some x->xs[j]?=some y->x<y
theorem ygz(xs:Array Nat)(j:Nat)(hs:Srt xs):∀(fuel lo hi:Nat),hi-lo<=fuel->lo<=hi->hi<=xs.size->(∀k x,k<lo->xs[k]?=some x->x<j)->(∀k x,hi<=k->xs[k]?=some x->j<=x)->
  (∀k x,k<SetTable.below.go xs j fuel lo hi->xs[k]?=some x->x<j)/\(∀k x,SetTable.below.go xs j fuel lo hi<=k->xs[k]?=some x->j<=x)/\SetTable.below.go xs j fuel lo hi<=xs.size
 |0,lo,hi,hf,h1,h2,ha,hb=>by
  have e:lo=hi:=by omega
  subst e
  exact ⟨ha,hb,h2⟩
 |fuel+1,lo,hi,hf,h1,h2,ha,hb=>by
  unfold SetTable.below.go
  by_cases hlt:lo<hi
  ·rw[if_pos hlt]
   have hm:(lo+hi) / 2<xs.size:=by omega
   have hg:xs[(lo+hi) / 2]?=some (xs.getD ((lo+hi) / 2) j):=by
    rw[Array.getD_eq_getD_getElem?,Array.getElem?_eq_getElem hm];rfl
   dsimp only
   by_cases hc:xs.getD ((lo+hi) / 2) j<j
   ·rw[if_pos hc]
    refine ygz xs j hs fuel _ hi (by omega) (by omega) h2 (λk x hk hx=>?_) hb
    by_cases he:k=(lo+hi) / 2
    ·subst he;rw[hg]at hx;cases hx;exact hc
    ·have:=hs k ((lo+hi) / 2) x _ (by omega) hx hg
     omega
   ·rw[if_neg hc]
    refine ygz xs j hs fuel lo _ (by omega) (by omega) (by omega) ha (λk x hk hx=>?_)
    by_cases he:k=(lo+hi) / 2
    ·subst he;rw[hg]at hx;cases hx;omega
    ·have:=hs ((lo+hi) / 2) k _ x (by omega) hg hx
     omega
  ·rw[if_neg hlt]
   have e:lo=hi:=by omega
   subst e
   exact ⟨ha,hb,h2⟩
theorem yjq{xs:Array Nat}(j:Nat)(hs:Srt xs):(∀k x,k<SetTable.below xs j->xs[k]?=some x->x<j)/\(∀k x,SetTable.below xs j<=k->xs[k]?=some x->j<=x)/\SetTable.below xs j<=xs.size:=by
 unfold SetTable.below
 refine ygz xs j hs xs.size 0 xs.size (by omega) (zero_le _) (le_refl _) (λk x h=>absurd h (not_lt_zero _)) (λk x h hx=>?_)
 rw[Array.getElem?_eq_none h]at hx;cases hx
theorem qjb{xs:Array Nat}{j n:Nat}(hs:Srt xs)(hn:n<=xs.size)(h1:∀k x,k<n->xs[k]?=some x->x<j)(h2:∀k x,n<=k->xs[k]?=some x->j<=x):SetTable.below xs j=n:=by
 obtain ⟨b1,b2,b3⟩:=yjq j hs
 rcases Nat.lt_trichotomy (SetTable.below xs j) n with h|h|h
 ·have hlt:SetTable.below xs j<xs.size:=by omega
  have g:=Array.getElem?_eq_getElem hlt
  have:=h1 _ _ h g
  have:=b2 _ _ (le_refl _) g
  omega
 ·exact h
 ·have hlt:n<xs.size:=by omega
  have g:=Array.getElem?_eq_getElem hlt
  have:=h2 _ _ (le_refl _) g
  have:=b1 _ _ h g
  omega
theorem yia{α:Type}(xs:Array α)(p:Nat)(x:α)(hp:p<=xs.size)(i:Nat):(SetTable.insertAt xs p x)[i]?=if i<p then xs[i]? else if i=p then some x else xs[i-1]?:=by
 unfold SetTable.insertAt
 have e1:((xs.extract 0 p).push x++xs.extract p xs.size).toList=xs.toList.take p++x::xs.toList.drop p:=by
  simp
  exact take_of_length_le (by simp)
 rw[<-getElem?_toList,e1]
 have hl:(xs.toList.take p).length=p:=by rw[length_take,length_toList];omega
 by_cases h1:i<p
 ·rw[if_pos h1,getElem?_append_left (by omega),List.getElem?_take_of_lt h1,getElem?_toList]
 ·rw[if_neg h1,getElem?_append_right (by omega),hl]
  by_cases h2:i=p
  ·rw[if_pos h2,h2,Nat.sub_self];rfl
  ·rw[if_neg h2]
   obtain ⟨d,hd⟩:∃d,i-p=d+1:=⟨i-p-1,by omega⟩
   rw[hd,List.getElem?_cons_succ,List.getElem?_drop,getElem?_toList]
   congr 1
   omega
theorem yj2{xs:Array Nat}{j:Nat}(hs:Srt xs)(hj:xs[SetTable.below xs j]?≠some j):Srt (SetTable.insertAt xs (SetTable.below xs j) j):=by
 obtain ⟨b1,b2,b3⟩:=yjq j hs
 have hgt:∀k x,SetTable.below xs j<=k->xs[k]?=some x->j<x:=λk x hk hx=>by
  have h1:=b2 k x hk hx
  by_cases he:x=j
  ·subst he
   by_cases hk2:k=SetTable.below xs x
   ·subst hk2;exact absurd hx hj
   ·have hlt:SetTable.below xs x<xs.size:=by
     have:=(Array.getElem?_eq_some_iff.mp hx).1
     omega
    have g:=Array.getElem?_eq_getElem hlt
    have h2:=hs _ k _ x (by omega) g hx
    have h3:=b2 _ _ (le_refl _) g
    omega
  ·omega
 intro a b x y hab hx hy
 rw[yia _ _ _ b3]at hx hy
 by_cases ha:a<SetTable.below xs j
 ·rw[if_pos ha]at hx
  by_cases hb:b<SetTable.below xs j
  ·rw[if_pos hb]at hy
   exact hs a b x y hab hx hy
  ·rw[if_neg hb]at hy
   have hxj:=b1 a x ha hx
   by_cases hb2:b=SetTable.below xs j
   ·rw[if_pos hb2]at hy;cases hy;exact hxj
   ·rw[if_neg hb2]at hy
    have:=hgt (b-1) y (by omega) hy
    omega
 ·rw[if_neg ha]at hx
  have hb:¬ b<SetTable.below xs j:=by omega
  rw[if_neg hb]at hy
  by_cases ha2:a=SetTable.below xs j
  ·rw[if_pos ha2]at hx
   cases hx
   rw[if_neg (by omega)]at hy
   exact hgt (b-1) y (by omega) hy
  ·rw[if_neg ha2]at hx
   rw[if_neg (by omega)]at hy
   exact hs (a-1) (b-1) x y (by omega) hx hy
theorem ylm(n:Nat):Srt (Array.range n):=by
 intro i j x y hij hx hy
 have h1:=(Array.getElem?_eq_some_iff.mp hx).2
 have h2:=(Array.getElem?_eq_some_iff.mp hy).2
 simp at h1 h2
 omega
theorem srt_of{l:List Nat}(h:l.Pairwise (· < ·)):Srt l.toArray:=by
 intro i j x y hij hx hy
 have hx':l[i]?=some x:=by simpa using hx
 have hy':l[j]?=some y:=by simpa using hy
 obtain ⟨hi,e1⟩:=List.getElem?_eq_some_iff.mp hx'
 obtain ⟨hj,e2⟩:=List.getElem?_eq_some_iff.mp hy'
 have:=List.pairwise_iff_getElem.mp h i j hi hj hij
 rw[e1,e2]at this
 exact this
def TOk(t:SetTable):Prop:=Srt t.place/\t.dummies=#[]
theorem yji(j:Nat):SetTable.has #[] j=false:=by
 unfold SetTable.has
 simp
theorem slot_no{t:SetTable}(h:TOk t)(j:Nat):t.slot j≠.dummy:=by
 unfold SetTable.slot
 rw[h.2,yji]
 dsimp only
 split
 ·intro z;cases z
 ·simp
theorem yj4{t:SetTable}{j:Nat}(h:t.slot j=.empty):t.place[SetTable.below t.place j]?≠some j:=by
 intro e
 unfold SetTable.slot at h
 dsimp only at h
 rw[if_pos (by rw[e];simp)]at h
 cases h
theorem qgt(t:SetTable)(p:SetTable.Probe):(t.advance p).dummy=p.dummy:=by
 unfold SetTable.advance
 split<;>rfl
theorem qe8{t:SetTable}(ht:TOk t)(f:Nat->Int)(h:Int):∀(fuel:Nat) (p:SetTable.Probe) (j:Nat) (d:Option Nat),p.dummy=none->SetTable.probe.go t f h fuel p=some (.empty j d)->t.slot j=.empty/\d=none
 |0,p,j,d,hp,e=>by
  unfold SetTable.probe.go at e
  cases e
 |fuel+1,p,j,d,hp,e=>by
  unfold SetTable.probe.go at e
  split at e
  ·rename_i hs
   cases e
   exact ⟨hs,hp⟩
  ·rename_i hs
   exact absurd hs (slot_no ht _)
  ·split at e
   ·cases e
   ·exact qe8 ht f h fuel _ j d (by rw[qgt];exact hp) e
theorem yi0{t:SetTable}(ht:TOk t){h:Int}{j:Nat}{b:Bool}(e:t.freeSlot h=some (j,b)):t.slot j=.empty:=by
 unfold SetTable.freeSlot at e
 split at e
 ·rename_i j' d hp
  have hq:SetTable.probe.go t (λ_=>h+1) h (10*SetTable.turns t.mask) (t.probeStart h)=some (.empty j' d):=hp
  obtain ⟨h1,h2⟩:=qe8 ht _ _ _ _ _ _ rfl hq
  subst h2
  cases e
  exact h1
 ·cases e
theorem put_ok{t:SetTable}(ht:TOk t){j:Nat}(h:t.slot j=.empty):TOk (t.put j).1/\(t.put j).1.led=t.led:=by
 refine ⟨⟨yj2 ht.1 (yj4 h),?_⟩,rfl⟩
 show (if SetTable.has t.dummies j then SetTable.eraseAt t.dummies (SetTable.below t.dummies j) else t.dummies)=#[]
 rw[ht.2,yji]
 rfl
theorem qdi(t:SetTable)(n:Nat):TOk (t.standIn n)/\(t.standIn n).led=t.led:=⟨⟨ylm n,rfl⟩,rfl⟩
theorem yh6{t:SetTable}(ht:TOk t)(n:Nat):TOk (t.orStandIn n)/\(t.orStandIn n).led=t.led:=by
 unfold SetTable.orStandIn
 split
 ·exact ⟨ht,rfl⟩
 ·exact qdi t n
theorem yln{t:SetTable}(ht:TOk t)(es:Array (Int×Value))(h:Int)(x:Value):TOk (layNew t es h x).2.1/\(layNew t es h x).2.1.led=t.led:=by
 unfold layNew
 split
 ·rename_i j b e
  have hp:=put_ok ht (yi0 ht e)
  have ho:=yh6 hp.1 (SetTable.insertAt es (t.put j).2 (h,x)).size
  exact ⟨ho.1,ho.2.trans hp.2⟩
 ·exact qdi t _
theorem yd4{α:Type}(f:Nat->Option α):∀(l:List Nat),l.Pairwise (· < ·)->((l.filterMap λj=>(f j).map (j,·)).map (·.1)).Pairwise (· < ·):=by
 intro l hl
 have hsub:((l.filterMap λj=>(f j).map (j,·)).map (·.1)).Sublist l:=by
  induction l with
  |nil=>exact .slnil
  |cons a l ih=>
   rw[List.filterMap_cons]
   have:=ih (List.pairwise_cons.mp hl).2
   cases f a with
   |none=>exact .cons _ this
   |some b=>exact .cons₂ _ this
 exact hl.sublist hsub
theorem qms{t t':SetTable}{hs:Array Int}{n:Nat}{o:Array Nat}(e:t.relaid hs n=some (t',o)):TOk t'/\t'.led=t.led:=by
 unfold SetTable.relaid SetTable.laid at e
 cases ho:SetTable.layClean (SetTable.sizeAbove n-1) hs with
 |none=>rw[ho]at e;cases e
 |some owner=>
  rw[ho]at e
  cases e
  refine ⟨⟨srt_of ?_,rfl⟩,rfl⟩
  exact yd4 (λj=>owner.getD j none) _ List.pairwise_lt_range
theorem qiw{t:SetTable}(es:Array (Int×Value))(n:Nat):TOk (relayAll t es n).2.1/\(relayAll t es n).2.1.led=t.led:=by
 unfold relayAll
 split
 ·rename_i t' o e
  dsimp only
  split
  ·exact qms e
  ·exact qdi t _
 ·exact qdi t _
def byTx(w:World):Bool:=w.params.followText "set-order"
def SetL(P:Program)(w:World)(h:Heap)(a:Addr)(ks:List Int):Prop:=
 ∃o es ep t,h.get? a=some o/\o.ExactSet/\o.data=.set es ep t/\ElemsOf (intKind P w) es.toList/\(∃ns,IntsAre (es.toList.map (·.2)) ns/\ns.Perm ks)/\es.size<scanBound/\t.fits es.size=true/\TOk t/\(byTx w=true\/t.led=true)
theorem qd5{vs' vs:List Value}(p:vs'.Perm vs):∀{ns:List Int},IntsAre vs ns->∃ns',IntsAre vs' ns'/\ns'.Perm ns:=by
 induction p with
 |nil=>intro ns h;exact ⟨ns,h,List.Perm.refl _⟩
 |cons x _ ih=>
  intro ns h
  cases h with
  |cons n t r=>
   obtain ⟨ns',h1,h2⟩:=ih r
   exact ⟨n::ns',.cons n t h1,h2.cons n⟩
 |swap x y l=>
  intro ns h
  cases h with
  |cons n t r=>
   cases r with
   |cons m u r=>exact ⟨m::n::_,.cons m u (.cons n t r),List.Perm.swap ..⟩
 |trans _ _ ih1 ih2=>
  intro ns h
  obtain ⟨n1,a1,b1⟩:=ih2 h
  obtain ⟨n2,a2,b2⟩:=ih1 a1
  exact ⟨n2,a2,b2.trans b1⟩
theorem qg2:∀{vs:List Value}{ns:List Int},IntsAre vs ns->(∀v∈vs,∃n t,v=.int n t/\n∈ns)/\∀n∈ns,∃t,Value.int n t∈vs
 |_,_,.nil=>⟨λv h=>by simp at h,λn h=>by simp at h⟩
 |_,_,.cons n t r=>by
  obtain ⟨h1,h2⟩:=qg2 r
  refine ⟨λv hv=>?_,λm hm=>?_⟩
  ·rcases mem_cons.mp hv with rfl|hv
   ·exact ⟨n,t,rfl,mem_cons_self ..⟩
   ·obtain ⟨m,u,e,hm⟩:=h1 v hv
    exact ⟨m,u,e,mem_cons_of_mem _ hm⟩
  ·rcases mem_cons.mp hm with rfl|hm
   ·exact ⟨t,mem_cons_self ..⟩
   ·obtain ⟨u,hu⟩:=h2 m hm
    exact ⟨u,mem_cons_of_mem _ hu⟩
theorem qhi:∀{vs:List Value}{ns:List Int} (k:Int) (t:Tok),IntsAre vs ns->IntsAre (vs++[.int k t]) (ns++[k])
 |_,_,k,t,.nil=>.cons k t .nil
 |_,_,k,t,.cons n u r=>.cons n u (qhi k t r)
section
variable {P:Program}{w:World}{A:Around}{E:Value->Shared->Prop}{s:Shared}{a:Addr}{ks:List Int}
theorem storeL{o:Obj}{es:Array (Int×Value)}{ep:Nat}{t:SetTable}{es':Array (Int×Value)}{t':SetTable}{ks':List Int}{h:Heap}(g:h.get? a=some o)(gx:o.ExactSet)(gd:o.data=.set es ep t)
  (el:ElemsOf (intKind P w) es'.toList) (hv:∃ns,IntsAre (es'.toList.map (·.2)) ns/\ns.Perm ks') (hb:es'.size<scanBound) (hf:t'.fits es'.size=true) (ht:TOk t') (hl:byTx w=true\/t'.led=true) :
  (h.update a (Obj.putSet es' t')).get? a=some { o with data:=.set es' (ep+1) t' }/\SetL P w (h.update a (Obj.putSet es' t')) a ks':=by
 have hg:(h.update a (Obj.putSet es' t')).get? a=some { o with data:=.set es' (ep+1) t' }:=by
  have z:=get?_update_self (Obj.putSet es' t') g (by rw[putSet_of es' t' gd];rfl)
  rw[putSet_of es' t' gd]at z
  exact z
 exact ⟨hg,_,es',ep+1,t',hg,gx,rfl,el,hv,hb,hf,ht,hl⟩
theorem addL{k:Int}{tk:Tok}{Q:Bool->Shared->Prop}(hS:SetL P w s.heap a ks)(hroom:ks.length+1<scanBound)
  (h:∀b h',Heap.SameBut a s.heap h'->SetL P w h' a (if k∈ks then ks else ks++[k])->Q b { s with heap:=h' }) :
  wpAny (model P w) A (setAddHashed a (.int k tk) ((intKind P w).hash k)) Q E s:=by
 obtain ⟨o,es,ep,t,g,gx,gd,el,⟨ns,hi,hp⟩,hb,hf,ht,hl⟩:=hS
 have hlen:es.size=ks.length:=by
  have h1:=IntsAre.length hi
  rw[length_map,length_toList]at h1
  rw[h1,hp.length_eq]
 have kk:(intKind P w).is k (.int k tk)=true:=intKind_is _ _ _ _
 unfold setAddHashed setAddHashedIn
 refine wpAny_holding (wpAny_bind (wpAny_setState_of g gd hf ?_))
 dsimp only
 rw[byScan_of (knd:=intKind P w) rfl hb el]
 simp only[↓reduceIte]
 unfold setAddByScan
 refine wpAny_bind ?_
 refine wpAny_bind (wpAny_rule ?_)
 refine wpAny_bind (wpAny_setScan_of kk g gd hf el ?_)
 have same:∀m u,(intKind P w).is k (.int m u)=true->m=k:=λm u z=>(intKind P w).inj _ m k (intKind_is _ _ _ _) z
 cases hr:List.findIdx? (λe=>(intKind P w).is k e.2) es.toList with
 |some j=>
  dsimp only
  obtain ⟨hj,hpj,_⟩:=List.findIdx?_eq_some_iff_getElem.mp hr
  have hin:k∈ks:=by
   obtain ⟨m,u,e,hm⟩:=(qg2 hi).1 (es.toList[j]).2 (mem_map.mpr ⟨_,getElem_mem hj,rfl⟩)
   rw[e]at hpj
   have:=same m u hpj
   subst this
   exact hp.mem_iff.mp hm
  refine wpAny_pure (wpAny_pure ?_)
  have e:s={ s with heap:=s.heap }:=by cases s;rfl
  have z:=h false s.heap (Heap.SameBut.refl a s.heap) (by rw[if_pos hin];exact ⟨o,es,ep,t,g,gx,gd,el,⟨ns,hi,hp⟩,hb,hf,ht,hl⟩)
  rw[e]
  exact z
 |none=>
  dsimp only
  have hout:k∉ks:=λhin=>by
   obtain ⟨u,hu⟩:=(qg2 hi).2 k (hp.mem_iff.mpr hin)
   obtain ⟨e,he,e2⟩:=mem_map.mp hu
   have z:=List.findIdx?_eq_none_iff.mp hr e he
   rw[e2]at z
   rw[show (intKind P w).is k (.int k u)=true from intKind_is _ _ _ _]at z
   cases z
  rw[if_neg hout]at h
  have gw:∀(b:Bool) {s1:Shared}{Q':Unit->Shared->Prop},Q' () s1->wpAny (model P w) A (match b with|true=>rule "set.scan.the-table-gave-way"|false=>pure ()) Q' E s1:=λb s1 Q' z=>by cases b<;>first|exact wpAny_pure z|exact wpAny_rule z
  have pm:=layNew_perm t es ((intKind P w).hash k) (.int k tk)
  have fm:=layNew_fits t es ((intKind P w).hash k) (.int k tk)
  have tm:=yln ht es ((intKind P w).hash k) (.int k tk)
  generalize hL:layNew t es ((intKind P w).hash k) (.int k tk)=L at pm fm tm ⊢
  obtain ⟨es1,t1,wasDummy,gave⟩:=L
  dsimp only at pm fm tm ⊢
  rw[Array.toList_push]at pm
  have el1:ElemsOf (intKind P w) es1.toList:=(el.push kk rfl).perm pm
  have hv1:∃ns,IntsAre (es1.toList.map (·.2)) ns/\ns.Perm (ks++[k]):=by
   have q:=pm.map (·.2)
   rw[map_append]at q
   obtain ⟨n1,i1,p1⟩:=qd5 q (qhi k tk hi)
   exact ⟨n1,i1,p1.trans (hp.append_right [k])⟩
  have sz1:es1.size=ks.length+1:=by
   rw[<-length_toList,pm.length_eq,length_append,length_toList,hlen];rfl
  have hb1:es1.size<scanBound:=by rw[sz1];exact hroom
  refine wpAny_bind (gw _ ?_)
  have tail:∀(t2:SetTable),t2.fits es1.size=true->TOk t2->(byTx w=true\/t2.led=true)->wpAny (model P w) A (do
    storeSet a es1 t2
    if (!wasDummy&&t2.tooFull)=true then do
      (match (relayAll t2 es1 (SetTable.grown es1.size)).2.2 with|true=>rule "set.scan.the-table-gave-way"|false=>pure ())
      storeSet a (relayAll t2 es1 (SetTable.grown es1.size)).1 (relayAll t2 es1 (SetTable.grown es1.size)).2.1
      pure (some true)
     else pure (some true)) (λr s1=>wpAny (model P w) A (match r with|some added=>pure added|none=>setAddHashedIn a (.int k tk) ((intKind P w).hash k) 99999) Q E s1) E s:=by
   intro t2 f2 k2 l2
   refine wpAny_bind (wpAny_storeSet_of g gd ?_ (fits_of_scanBound hb1))
   obtain ⟨g1,S1⟩:=storeL (P:=P) (w:=w) g gx gd el1 hv1 hb1 f2 k2 l2
   have sb1:=Heap.SameBut.update s.heap a (Obj.putSet es1 t2)
   split
   ·have pr:=relayAll_perm t2 es1 (SetTable.grown es1.size)
    have fr:=relayAll_fits t2 es1 (SetTable.grown es1.size)
    have tr:=qiw (t:=t2) es1 (SetTable.grown es1.size)
    generalize hR:relayAll t2 es1 (SetTable.grown es1.size)=R at pr fr tr ⊢
    obtain ⟨es2,t3,gave2⟩:=R
    dsimp only at pr fr tr ⊢
    have sz2:es2.size=es1.size:=by rw[<-length_toList,pr.length_eq,length_toList]
    have hb2:es2.size<scanBound:=by rw[sz2];exact hb1
    refine wpAny_bind (gw _ ?_)
    refine wpAny_bind (wpAny_storeSet_of g1 rfl ?_ (fits_of_scanBound hb2))
    have hv2:∃ns,IntsAre (es2.toList.map (·.2)) ns/\ns.Perm (ks++[k]):=by
     obtain ⟨n1,i1,p1⟩:=hv1
     obtain ⟨n2,i2,p2⟩:=qd5 (pr.map (·.2)) i1
     exact ⟨n2,i2,p2.trans p1⟩
    obtain ⟨_,S2⟩:=storeL (P:=P) (w:=w) g1 gx rfl (el1.perm pr) hv2 hb2 fr tr.1 (l2.imp id λz=>tr.2.trans z)
    exact wpAny_pure (wpAny_pure (h true _ (sb1.trans (Heap.SameBut.update _ a _)) S2))
   ·exact wpAny_pure (wpAny_pure (h true _ sb1 S1))
  have l1:byTx w=true\/t1.led=true:=hl.imp id λz=>tm.2.trans z
  split
  ·refine wpAny_bind ?_
   rw[hashByValue_scannable 8 (rfl:(Value.int k tk).scannable=true)]
   refine wpAny_pure ?_
   split
   ·exact tail t1 fm tm.1 l1
   ·exact tail { t1 with plain:=false } (SetTable.fits_plain_off fm) tm.1 l1
  ·refine wpAny_bind (wpAny_pure ?_)
   simp only[↓reduceIte]
   exact tail t1 fm tm.1 l1
end
def ya2(f:Nat->Int):Nat->List Int
 |0=>[]
 |i+1=>if f i∈ya2 f i then ya2 f i else ya2 f i++[f i]
theorem qei(f:Nat->Int):∀i,(ya2 f i).length<=i
 |0=>le_refl _
 |i+1=>by
  have ih:=qei f i
  unfold ya2
  split
  ·omega
  ·rw[length_append];show _+1<=_;omega
theorem SetL.at{P:Program}{w:World}{h h':Heap}{a:Addr}{ks:List Int}(x:SetL P w h a ks)(k:∀o,h.get? a=some o->h'.get? a=some o):SetL P w h' a ks:=by
 obtain ⟨o,es,ep,t,g,r⟩:=x
 exact ⟨o,es,ep,t,k o g,r⟩
section
variable {P:Program}{w:World}{A:Around}{R:Result->Shared->Prop}{I:Addr}{fp wr:List Addr}{G:Array GenState->Array GenState->Prop}{n:Nat}{Pv:Nat->Value->Prop}{St:Nat->Shared->Prop}
theorem loopL(W:WalksS P w A.in1 I fp wr G n Pv St)(d:Addr)(hd:d∉fp)(f:Nat->Int)(hf:∀i v,Pv i v->∃t,v=.int (f i) t)(hb:n+1<scanBound):∀(k i:Nat) (s:Shared),n-i=k->i<=n->St i s->SetL P w s.heap d (ya2 f i)->
   (∀s',Moved (d::wr) G s s'->SetL P w s'.heap d (ya2 f n)->R (.ok (.ret .none)) s')->codeAny (model P w) A (.builtin "set.update.loop" ⟨[.ref d,.ref I],[]⟩) R s:=by
 have hw:d∉wr:=λz=>hd (W.sub _ z)
 have up:∀b∈wr,b∈d::wr:=λb z=>mem_cons_of_mem _ z
 intro k
 induction k with
 |zero=>
  intro i s hk hi st hS hR
  have e:i=n:=by omega
  subst e
  refine codeAny_builtin F.entry_set_update_loop ?_
  rw[Around.under_plainId F.plain_set_update_loop _]
  show wpAny _ A.in1 (pyNext (.ref I) >>= _) _ _ _
  refine wpAny_bind (W.done s _ _ st λs' m=>?_)
  show wpAny _ A.in1 (ret Value.none) _ _ _
  exact wpAny_pure (hR s' (m.mono up) (hS.at λo g=>m.heap d o hw g))
 |succ k ih=>
  intro i s hk hi st hS hR
  have hlt:i<n:=by omega
  refine codeAny_builtin F.entry_set_update_loop ?_
  rw[Around.under_plainId F.plain_set_update_loop _]
  show wpAny _ A.in1 (pyNext (.ref I) >>= _) _ _ _
  refine wpAny_bind (W.item i s _ _ hlt st λv s' hP st' m=>?_)
  obtain ⟨t,rfl⟩:=hf i v hP
  have hS':SetL P w s'.heap d (ya2 f i):=hS.at λo g=>m.heap d o hw g
  show wpAny _ A.in1 (holding [Value.int (f i) t] (setAdd d (.int (f i) t)) >>= _) _ _ _
  refine wpAny_bind (wpAny_holding ?_)
  unfold setAdd
  refine wpAny_holding ?_
  refine wpAny_bind ((intKind P w).pyHash (k:=f i) (intKind_is _ _ _ _) ?_)
  have room:(ya2 f i).length+1<scanBound:=by have:=qei f i;omega
  refine addL (s:={ s' with toks:=s'.toks+1 }) hS' room λb h' sb S2=>?_
  have S3:SetL P w h' d (ya2 f (i+1)):=S2
  refine wpAny_pure ⟨plainId_quiet F.plain_set_update_loop _,?_⟩
  refine ih (i+1) _ (by omega) hlt (W.frame _ s' _ _ st' (le_succ _) λb hb o g=>?_) S3 λs2 m2 S4=>?_
  ·rw[sb.2 b (λz:b=d=>hd (by rw[<-z];exact hb))];exact g
  ·refine hR s2 (Moved.trans W.gtrans ((m.mono up).then_heap (le_succ _) λb o hb g=>?_) m2) S4
   rw[sb.2 b (λz:b=d=>hb (by rw[z];exact mem_cons_self))];exact g
end
section
variable {P:Program}{w:World}{A:Around}{E:Value->Shared->Prop}{s:Shared}
theorem newL(v:Value){Q1:Value->Shared->Prop}(h:Q1 (.ref s.heap.objs.size) { s with heap:=s.heap.push { cls:=.type "set",dict:=none,data:=.set #[] 0 (.fresh 0 0 (!byTx w)) } }) :
  codeAny (model P w) A (.call (.builtin "set.__new__") ⟨[.type "set",v],[]⟩) (wants Q1 E) s:=by
 refine codeAny_of_tree ?_
 show wpAny _ A.in1 (do checkBuiltinCall "set.__new__" ⟨[.type "set",v],[]⟩;again (.builtin "set.__new__" ⟨[.type "set",v],[]⟩)) _ _ s
 refine wpAny_bind (wpAny_of_eq (F.newCall_set_1 v) (wpAny_pure ⟨plainId_quiet F.plain_set_new _,?_⟩))
 refine codeAny_builtin F.entry_set_new ?_
 rw[Around.under_plainId F.plain_set_new _]
 unfold Builtin.«set.__new__» Builtin.Frozenset.newClass
 have hsub:=sub_set_self
 obtain ⟨hp,g,d,tk,os⟩:=s
 dsimp only
 wp_walk
 refine wpAny_askSetting ?_
 refine wpAny_pure ?_
 dsimp only
 simp only[newObj]
 refine wpAny_bind (wpAny_alloc ?_)
 exact wpAny_pure (wpAny_pure h)
theorem SetL.new{h:Heap}{a:Addr}(g:h.get? a=some { cls:=.type "set",dict:=none,data:=.set #[] 0 (.fresh 0 0 (!byTx w)) }):SetL P w h a []:=by
 refine ⟨_,#[],0,_,g,⟨rfl,rfl,rfl⟩,rfl,λe he=>by simp at he,⟨[],.nil,List.Perm.refl _⟩,by decide,rfl,⟨λi j x y _ hx=>by simp[SetTable.fresh]at hx,rfl⟩,?_⟩
 cases byTx w
 ·exact .inr rfl
 ·exact .inl rfl
set_option maxHeartbeats 6400000 in
theorem yl3{l:Addr}{its:Array Value}{ns:List Int}{Q:Value->Shared->Prop}(hh:A.handled=none)(hl:s.heap.IsList l its)(hi:IntsAre its.toList ns)(hb:its.size+1<scanBound)
  (k:∀(h':Heap) (tk:Nat),SetL P w h' s.heap.objs.size (ya2 (λi=>ns.getD i 0) its.size)->(∀b o,b<s.heap.objs.size->s.heap.get? b=some o->h'.get? b=some o)->Q (.ref s.heap.objs.size) { s with heap:=h',toks:=tk }) :
  wpAny (model P w) A (call (.type "set") [.ref l]) Q E s:=by
 obtain ⟨c0,tl0,c1⟩:=F.called_set.mro
 have c2:=F.called_set.made
 have c3:=F.called_set.sub
 refine wpAny_call (codeAny_of_tree ?_)
 show wpAny _ _ (callAny (.type "set") _) _ _ s
 refine wpAny_pure ⟨?_,?_⟩
 ·exact Code.quiet_builtin _ (by decide +kernel)
 refine codeAny_builtin F.entry_type_call ?_
 rw[Around.under_plain (weight_type_call_type "set" [.ref l] []) rfl]
 have c4:=F.called_set.notType
 have c5:=F.called_set.canCreate
 have c6:=F.typeCall_set_1 (.ref l)
 repeat (any_goals first|assumption|wp_step)
 refine codeAny_mono (newL (.ref l) (E:=E) (Q1:=λv s1=>v=.ref s.heap.objs.size/\s1={ s with heap:=s.heap.push { cls:=.type "set",dict:=none,data:=.set #[] 0 (.fresh 0 0 (!byTx w)) } }) ⟨rfl,rfl⟩) λr s1 hr=>?_
 cases r with
 |error e=>exact hr
 |ok fl=>
  cases fl with
  |ret v=>
   obtain ⟨rfl,rfl⟩:=hr
   have g1:(s.heap.push { cls:=.type "set",dict:=none,data:=.set #[] 0 (.fresh 0 0 (!byTx w)) }).get? s.heap.objs.size=some { cls:=.type "set",dict:=none,data:=.set #[] 0 (.fresh 0 0 (!byTx w)) }:=get?_push_size _ rfl
   have c7:Shared.TypeIs { s with heap:=s.heap.push { cls:=.type "set",dict:=none,data:=.set #[] 0 (.fresh 0 0 (!byTx w)) } } (.ref s.heap.objs.size) "set":=⟨_,g1,rfl⟩
   have c8:=F.called_set.init.lookup
   have c9:=F.called_set.init.bind (.ref s.heap.objs.size)
   repeat (any_goals first|assumption|wp_step)
   refine codeAny_mono (codeAny_call_builtin (R:=wants (λr s2=>r=.none/\∃h' tk,s2={ s with heap:=h',toks:=tk }/\SetL P w h' s.heap.objs.size (ya2 (λi=>ns.getD i 0) its.size)/\
     (∀b o,b<s.heap.objs.size->s.heap.get? b=some o->h'.get? b=some o)) E) F.called_set.init.plain F.entry_set_init (check_set_init_1 c7 ?_)) λr2 s2 hr2=>?_
   ·obtain ⟨ol,gl,cl,nl,dl⟩:=hl
    obtain ⟨qc,qd,qa,qs⟩:=ol
    simp only at cl dl
    subst cl
    subst dl
    have gl':(s.heap.push { cls:=.type "set",dict:=none,data:=.set #[] 0 (.fresh 0 0 (!byTx w)) }).get? l=some { cls:=.type "list",dict:=qd,data:=.seq its nl,slots:=qs }:=get?_push_of_some _ gl
    have d1:=F.sub_list_set
    have d2:=F.sub_list_frozenset
    have d3:(Value.type "list" == Value.type "dict")=false:=by decide
    have hl1:(s.heap.push { cls:=.type "set",dict:=none,data:=.set #[] 0 (.fresh 0 0 (!byTx w)) }).IsList l its:=⟨_,gl',rfl,nl,rfl⟩
    unfold Builtin.«set.__init__» noKeywords Builtin.Frozenset.updateFrom
    generalize hPI:pyIter=PI
    wp_walk
    subst hPI
    refine wpAny_pyIter_list hl1 ?_
    refine wpAny_bind (wpAny_runValue ?_)
    have lt:l<s.heap.objs.size:=lt_size gl
    have h3:A.in1.in1.in1.handled=none:=by simp[hh]
    have nI:l≠(s.heap.push { cls:=.type "set",dict:=none,data:=.set #[] 0 (.fresh 0 0 (!byTx w)) }).objs.size:=by
     rw[size_push];exact ne_of_lt (lt_succ_of_lt lt)
    have nf:s.heap.objs.size∉[(s.heap.push { cls:=.type "set",dict:=none,data:=.set #[] 0 (.fresh 0 0 (!byTx w)) }).objs.size,l]:=by
     rw[size_push];simp only[mem_cons,mem_singleton,not_mem_nil,or_false,not_or]
     exact ⟨ne_of_lt (Nat.lt_succ_self _),ne_of_gt lt⟩
    have hv:∀(i:Nat) (v:Value),its[i]?=some v->∃t,v=.int ((λi=>ns.getD i 0) i) t:=λi v z=>PyProof.Rows.IntsAre.int_at hi i v (by rw[getElem?_toList];exact z)
    refine loopL ((Walks.list h3 _ l nI its).toS) s.heap.objs.size nf (λi=>ns.getD i 0) hv hb (its.size-0) 0 _ (by omega) (zero_le _) ⟨⟨_,get?_push_size _ rfl,rfl,rfl⟩,(hl1.push _)⟩ ?S0 ?R0
    case S0=>exact SetL.new (get?_push_of_some _ g1)
    case R0=>
     intro s' m S'
     obtain ⟨h',g',d',tk',os'⟩:=s'
     have eg:g'=s.gens:=m.gens
     have ed:d'=s.drawn:=m.drawn
     have eo:os'=s.os:=m.os
     subst eg
     subst ed
     subst eo
     show wpAny _ _ _ _ _ _
     refine wpAny_pure ?_
     show wpAny _ _ (ret Value.none) _ _ _
     refine wpAny_pure ⟨rfl,h',tk',rfl,S',λb o lb g=>?_⟩
     have b1:b≠s.heap.objs.size:=ne_of_lt lb
     have b2:b≠(s.heap.push { cls:=.type "set",dict:=none,data:=.set #[] 0 (.fresh 0 0 (!byTx w)) }).objs.size:=by
      rw[size_push];exact ne_of_lt (lt_succ_of_lt lb)
     exact m.heap b o (by simp only[mem_cons,mem_singleton,not_mem_nil,or_false,not_or];exact ⟨b1,b2⟩) (get?_push_of_some _ (get?_push_of_some _ g))
   ·cases r2 with
    |error e=>exact hr2
    |ok fl2=>
     cases fl2 with
     |ret r=>
      obtain ⟨rfl,h',tk,rfl,S',kp⟩:=hr2
      repeat (any_goals first|assumption|wp_step)
      exact k _ _ S' kp
     |_=>exact hr2.elim
  |_=>exact hr.elim
end
theorem qaq:Slot "set_iterator" "__next__" "set_iterator.__next__":=
 .of (owner:="set_iterator") (n:="__next__") (by rw[typeLookup_type,builtinLookup_eq_fast];kernel_rfl) (by decide +kernel) (by decide +kernel) (by decide +kernel) (by first|exact .inl (by decide +kernel)|exact .inr (by decide +kernel)) (by rw[isSubtype_type];kernel_rfl)
theorem ybg:entryFor table "set_iterator.__next__"=some Builtin.«set_iterator.__next__»:=entryFor_of_tree (by kernel_rfl)
theorem qbk(v:Value):argsOk "set_iterator.__next__" ⟨[v],[]⟩:=by unfold argsOk;kernel_rfl
theorem yf0:entryFor table "set.__iter__"=some Builtin.«frozenset.__iter__»:=
 entryFor_alias (id':="frozenset.__iter__") (by kernel_rfl) (by first|rfl|decide +kernel|(unfold String.splitOn;simp +decide [String.splitOnAux])) (by decide +kernel) (by kernel_rfl)
theorem qg5{M:Model}{A:Around}{E:Value->Shared->Prop}{s:Shared}{n:Nat}{Q:Nat->Shared->Prop}(hn:n≠0)(h:∀i d,i<n->Q i { s with drawn:=d }):wpAny M A (choose .order n) Q E s:=
 λΓ p hΓ=>⟨hn,h _ _ (Nat.mod_lt _ (Nat.pos_of_ne_zero hn))⟩
theorem yep{α:Type}:∀(xs:List α) (i:Nat) (x:α),xs[i]?=some x->(x::xs.eraseIdx i).Perm xs
 |[],i,x,h=>by simp at h
 |a::xs,0,x,h=>by
  have e:a=x:=by simpa using h
  subst e
  exact List.Perm.refl _
 |a::xs,i+1,x,h=>by
  have ih:=yep xs i x (by simpa using h)
  show (x::a::xs.eraseIdx i).Perm (a::xs)
  exact (List.Perm.swap a x _).trans (ih.cons a)
theorem yew{α:Type}{M:Model}{A:Around}{E:Value->Shared->Prop}:∀(n:Nat) (xs:List α) (s:Shared) (Q:List α->Shared->Prop),xs.length=n->(∀ys d,ys.Perm xs->Q ys { s with drawn:=d })->wpAny M A (drawOrder n xs) Q E s
 |0,xs,s,Q,hl,h=>by
  unfold drawOrder
  have e:xs=[]:=List.length_eq_zero_iff.mp hl
  subst e
  exact wpAny_pure (h [] s.drawn (List.Perm.refl _))
 |n+1,[],s,Q,hl,h=>by simp at hl
 |n+1,x::xs,s,Q,hl,h=>by
  unfold drawOrder
  refine wpAny_bind (qg5 (by simp) λi d hi=>?_)
  have hg:(x::xs)[i]?=some (x::xs)[i]:=getElem?_eq_getElem hi
  rw[hg]
  dsimp only
  refine wpAny_bind (yew n _ _ _ (by rw[List.length_eraseIdx];simp only[if_pos hi];omega) λys d' hp=>?_)
  exact wpAny_pure (h _ d' ((hp.cons _).trans (yep _ i _ hg)))
theorem qlo{α:Type}(f:Nat->Nat):∀(n k:Nat) (xs:List α) (out:Array α),xs.length=n->∃ys:List α,ys.Perm xs/\(pickOrder.go f n k xs out).toList=out.toList++ys
 |0,k,xs,out,hl=>⟨[],by rw[List.length_eq_zero_iff.mp hl],by unfold pickOrder.go;simp⟩
 |n+1,k,xs,out,hl=>by
  have hlt:f k % xs.length<xs.length:=Nat.mod_lt _ (by omega)
  have hg:xs[f k % xs.length]?=some xs[f k % xs.length]:=getElem?_eq_getElem hlt
  unfold pickOrder.go
  rw[hg]
  dsimp only
  obtain ⟨ys,hp,e⟩:=qlo f n (k+1) (xs.eraseIdx (f k % xs.length)) (out.push xs[f k % xs.length]) (by rw[List.length_eraseIdx,if_pos hlt];omega)
  refine ⟨xs[f k % xs.length]::ys,(hp.cons _).trans (yep _ _ _ hg),?_⟩
  rw[e]
  simp
theorem qf9{α:Type}(f:Nat->Nat)(xs:Array α):(pickOrder f xs).toList.Perm xs.toList:=by
 obtain ⟨ys,hp,e⟩:=qlo f xs.size 0 xs.toList #[] (by simp)
 unfold pickOrder
 rw[e]
 simpa using hp
section
variable {P:Program}{w:World}{A:Around}{E:Value->Shared->Prop}{s:Shared}{a:Addr}{o:Obj}{es:Array (Int×Value)}{ep:Nat}{t:SetTable}
theorem qmb{Q:Option (Value×Nat)->Shared->Prop}{slot i:Nat}(hb:byTx w=true)(g:s.heap.get? a=some o)(gd:o.data=.set es ep t)(hf:t.fits es.size=true)
  (h:Q (((pickOrder (w.params.setOrder a ep) es).toList.map (·.2))[i]?.map λv=>(v,slot)) s):wpAny (model P w) A (setNext a slot i ep) Q E s:=by
 unfold setNext
 refine wpAny_bind (wpAny_setState_of g gd hf ?_)
 dsimp only
 unfold setsByText
 refine wpAny_bind (wpAny_bind (wpAny_askSetting (wpAny_pure ?_)))
 have hb':w.params.followText "set-order"=true:=hb
 show wpAny _ _ (if w.params.followText "set-order"=true then _ else _) _ _ _
 rw[if_pos hb',if_neg (by simp)]
 unfold setWalk
 refine wpAny_bind (wpAny_bind (wpAny_setState_of g gd hf ?_))
 dsimp only
 unfold setsByText
 refine wpAny_bind (wpAny_bind (wpAny_askSetting (wpAny_pure ?_)))
 show wpAny _ _ (if w.params.followText "set-order"=true then _ else _) _ _ _
 rw[if_pos hb']
 refine wpAny_bind (wpAny_askSetting (wpAny_pure ?_))
 refine wpAny_pure ?_
 rw[getElem?_map,getElem?_toList,Option.map_map]at h
 exact h
theorem next_led{Q:Option (Value×Nat)->Shared->Prop}{slot i:Nat}(hb:byTx w=false)(g:s.heap.get? a=some o)(gd:o.data=.set es ep t)(hf:t.fits es.size=true)(hl:t.led=true)(hp:t.plain=true\/es.size<=1)
  (h:Q (match es[SetTable.below t.place slot]?,t.place[SetTable.below t.place slot]? with|some (_,x),some j=>some (x,j+1)|_,_=>none) s):wpAny (model P w) A (setNext a slot i ep) Q E s:=by
 unfold setNext
 refine wpAny_bind (wpAny_setState_of g gd hf ?_)
 dsimp only
 unfold setsByText
 refine wpAny_bind (wpAny_bind (wpAny_askSetting (wpAny_pure ?_)))
 have hb':w.params.followText "set-order"=false:=hb
 show wpAny _ _ (if w.params.followText "set-order"=true then _ else _) _ _ _
 rw[if_neg (by rw[hb'];exact Bool.false_ne_true)]
 refine wpAny_ite_split (λhd=>?_) λ_=>?_
 ·exfalso
  have hd':(!t.plain&&decide (es.size>1))=true:=hd
  rw[Bool.and_eq_true,decide_eq_true_eq]at hd'
  rcases hp with hp|hp
  ·rw[hp]at hd';exact absurd hd'.1 (by decide)
  ·omega
 ·refine wpAny_bind ?_
  refine wpAny_ite_split (λhd=>?_) λ_=>?_
  ·exfalso
   have hd':(!t.led && !es.isEmpty)=true:=hd
   rw[hl]at hd'
   exact absurd hd' (by simp)
  ·exact wpAny_pure (wpAny_pure h)
end
theorem yde:Slot "set_iterator" "__iter__" "set_iterator.__iter__":=
 .of (owner:="set_iterator") (n:="__iter__") (by rw[typeLookup_type,builtinLookup_eq_fast];kernel_rfl) (by decide +kernel) (by decide +kernel) (by decide +kernel) (by first|exact .inl (by decide +kernel)|exact .inr (by decide +kernel)) (by rw[isSubtype_type];kernel_rfl)
theorem ye1:entryFor table "set_iterator.__iter__"=some Builtin.«dict_keyiterator.__iter__»:=
 entryFor_alias (id':="dict_keyiterator.__iter__") (by kernel_rfl) (by first|rfl|decide +kernel|(unfold String.splitOn;simp +decide [String.splitOnAux])) (by decide +kernel) (by kernel_rfl)
theorem qf5(v:Value):argsOk "set_iterator.__iter__" ⟨[v],[]⟩:=by unfold argsOk;kernel_rfl
def SI(h:Heap)(I:Addr)(f:Value)(i:Nat)(a:Addr)(n ep:Nat):Prop:=h.get? I=some { cls:=.type "set_iterator",dict:=none,data:=.fields #[f,rawInt i,.ref a,rawInt n,rawInt ep],slots:=#[] }
section
variable {P:Program}{w:World}{A:Around}{E:Value->Shared->Prop}{s:Shared}
theorem qh1{I:Addr}{Q:Value->Shared->Prop}(hT:s.TypeIs (.ref I) "set_iterator")(h:Q (.ref I) s):wpAny (model P w) A (pyIter (.ref I)) Q E s:=by
 refine wpAny_pyIter_slot hT yde (wpAny_call_entry yde hT ye1 ?_ (qf5 _))
 show wpAny _ _ (ret (.ref I)) _ _ s
 exact wpAny_pure ⟨_,rfl,"set_iterator",_,hT,qaq.lookup,h⟩
theorem ygh{Q:Fin->Shared->Prop}(hh:A.handled=none)(h:∀h' e,(∀b o,s.heap.get? b=some o->h'.get? b=some o)->(∃o,h'.get? e=some o/\o.cls=.type "StopIteration")->E (.ref e) { s with heap:=h' }) :
  wpAny (model P w) A (newExc (.type "StopIteration") [] >>= λe=>(raiseNew e:Sem Fin)) Q E s:=by
 refine wpAny_bind ?_
 simp only[newExc,newTuple]
 refine wpAny_bind (wpAny_newObj_type ?_ (by size_fits))
 refine wpAny_bind (m:=firstArgMember _ _) ?_
 refine wpAny_of_eq (a:=Value.none) (by first|rfl|(simp only[firstArgMember];rfl)) ?_
 refine wpAny_newObj_type ?_ (by size_fits)
 simp only[raiseNew]
 refine wpAny_bind (wpAny_handled ?_)
 rw[hh]
 refine wpAny_bind (wpAny_pure (wpAny_throw ?_))
 exact h _ _ (λb o g=>get?_push_of_some _ (get?_push_of_some _ g)) ⟨_,get?_push_size _ rfl,rfl⟩
theorem qe4{h':Heap}{I:Addr}(k:∀b o,b≠I->s.heap.get? b=some o->h'.get? b=some o):Moved [I] (λx y=>y=x) s { s with heap:=h' }:=
 ⟨λb o hb g=>k b o (λz=>hb (by rw[z];exact mem_singleton.mpr rfl)) g,rfl,rfl,rfl,le_refl _⟩
theorem yms(hh:A.handled=none){I a:Addr}{o:Obj}{es:Array (Int×Value)}{ep:Nat}{t:SetTable}(nI:a≠I)(gd:o.data=.set es ep t)(hf:t.fits es.size=true)(F:Nat->Nat)(vs:List Value)(hvs:vs.length=es.size)
  (hn:∀(B:Around) (D:Value->Shared->Prop) (s:Shared) (i:Nat) (Q:Option (Value×Nat)->Shared->Prop),s.heap.get? a=some o->i<=es.size->Q (vs[i]?.map λv=>(v,F (i+1))) s->wpAny (model P w) B (setNext a (F i) i ep) Q D s) :
  WalksS P w A I [I,a] [I] (λx y=>y=x) es.size (λi v=>vs[i]?=some v) (λi s=>SI s.heap I (rawInt (F i)) i a es.size ep/\s.heap.get? a=some o) where
 sub:=λb hb=>by rw[mem_singleton]at hb;rw[hb];exact mem_cons_self ..
 grefl:=λ_=>rfl
 gtrans:=λ_ _ _ h1 h2=>h2.trans h1
 frame:=λi s h' tk st _ k=>⟨k I (by simp) _ st.1,k a (by simp) _ st.2⟩
 item:=λi s Q E hi st hQ=>by
  obtain ⟨gI,ga⟩:=st
  have hT:s.TypeIs (.ref I) "set_iterator":=⟨_,gI,rfl⟩
  have hv:vs[i]?=some vs[i]:=getElem?_eq_getElem (by omega)
  unfold pyNext
  refine wpAny_bind (wpAny_attempt (wpAny_callSpecial?_slot (name:=Str.ofString "__next__") hT qaq (wpAny_call_entry qaq hT ybg ?_ (qbk _))))
  show wpAny _ _ (fieldsOf (.ref I) >>= _) _ _ s
  refine wpAny_bind (wpAny_fieldsOf gI rfl ?_)
  show wpAny _ _ (setEntries a >>= _) _ _ s
  refine wpAny_bind (wpAny_setEntries_of ga gd hf ?_)
  rw[if_neg (by simp)]
  show wpAny _ _ (setNext a (F i) i ep >>= _) _ _ s
  refine wpAny_bind (hn _ _ s i _ ga (by omega) ?_)
  rw[hv]
  show wpAny _ _ (setField (.ref I) 0 (rawInt (F (i+1))) >>= _) _ _ s
  refine wpAny_bind (wpAny_setField_rec gI (by simp) λm1 g1 e1=>?_)
  refine wpAny_bind (wpAny_setField_rec g1 (by simp) λm2 g2 e2=>?_)
  refine wpAny_pure ⟨_,rfl,wpAny_pure (hQ _ _ hv ⟨?_,?_⟩ (qe4 λb ob hb g=>(e2.extBut _ _ hb (e1.extBut _ _ hb g))))⟩
  ·exact g2
  ·exact e2.extBut _ _ nI (e1.extBut _ _ nI ga)
 done:=λs Q E st hQ=>by
  obtain ⟨gI,ga⟩:=st
  have hT:s.TypeIs (.ref I) "set_iterator":=⟨_,gI,rfl⟩
  have hv:vs[es.size]?=none:=List.getElem?_eq_none (by omega)
  unfold pyNext
  refine wpAny_bind (wpAny_attempt (wpAny_callSpecial?_slot (name:=Str.ofString "__next__") hT qaq (wpAny_call_entry qaq hT ybg ?_ (qbk _))))
  show wpAny _ _ (fieldsOf (.ref I) >>= _) _ _ s
  refine wpAny_bind (wpAny_fieldsOf gI rfl ?_)
  show wpAny _ _ (setEntries a >>= _) _ _ s
  refine wpAny_bind (wpAny_setEntries_of ga gd hf ?_)
  rw[if_neg (by simp)]
  show wpAny _ _ (setNext a (F es.size) es.size ep >>= _) _ _ s
  refine wpAny_bind (hn _ _ s es.size _ ga (le_refl _) ?_)
  rw[hv]
  show wpAny _ _ (setField (.ref I) 2 Value.none >>= _) _ _ s
  refine wpAny_bind (wpAny_setField_rec gI (by simp) λm1 g1 e1=>?_)
  refine ygh (by first|exact hh|simpa using hh) λm2 e kp he=>?_
  obtain ⟨ob,go,gc⟩:=he
  refine wpAny_bind (wpAny_isInstance (T:="StopIteration") (b:=true) ⟨ob,go,gc⟩ isSubtype_stop ?_)
  exact wpAny_pure (hQ _ (qe4 λb ob hb g=>kp b ob (e1.extBut _ _ hb g)))
 self:=λi s Q E st hQ=>by
  obtain ⟨gI,ga⟩:=st
  exact qh1 ⟨_,gI,rfl⟩ hQ
theorem qlj(hh:A.handled=none){I a T:Addr}{o:Obj}{es:Array (Int×Value)}{ep:Nat}{t:SetTable}(nI:a≠I)(nT:T≠I)(gd:o.data=.set es ep t)(hf:t.fits es.size=true)(ps:List Nat)(hps:ps.length=es.size)(hlt:∀p∈ps,p<es.size)(vs:List Value)(hvs:vs=ps.map λp=>(es.getD p (0,.none)).2) :
  WalksS P w A I [I,a,T] [I] (λx y=>y=x) es.size (λi v=>vs[i]?=some v) (λi s=>SI s.heap I (.ref T) i a es.size ep/\s.heap.get? a=some o/\s.heap.get? T=some { cls:=.type "tuple",data:=.seq (ps.map λ(p:Nat)=>rawInt p).toArray }) where
 sub:=λb hb=>by rw[mem_singleton]at hb;rw[hb];exact mem_cons_self ..
 grefl:=λ_=>rfl
 gtrans:=λ_ _ _ h1 h2=>h2.trans h1
 frame:=λi s h' tk st _ k=>⟨k I (by simp) _ st.1,k a (by simp) _ st.2.1,k T (by simp) _ st.2.2⟩
 item:=λi s Q E hi st hQ=>by
  obtain ⟨gI,ga,gT⟩:=st
  have hT:s.TypeIs (.ref I) "set_iterator":=⟨_,gI,rfl⟩
  have hp:ps[i]?=some ps[i]:=getElem?_eq_getElem (by omega)
  have hpl:ps[i]<es.size:=hlt _ (getElem_mem _)
  have he:es[ps[i]]?=some es[ps[i]]:=Array.getElem?_eq_getElem hpl
  have hv:vs[i]?=some (es[ps[i]]).2:=by
   rw[hvs,getElem?_map,hp,Option.map_some,Array.getD_eq_getD_getElem?,he]
   rfl
  have hpi:(ps.map λ(p:Nat)=>rawInt p).toArray[i]?=some (rawInt ps[i]):=by
   rw[List.getElem?_toArray,getElem?_map,hp];rfl
  unfold pyNext
  refine wpAny_bind (wpAny_attempt (wpAny_callSpecial?_slot (name:=Str.ofString "__next__") hT qaq (wpAny_call_entry qaq hT ybg ?_ (qbk _))))
  show wpAny _ _ (fieldsOf (.ref I) >>= _) _ _ s
  refine wpAny_bind (wpAny_fieldsOf gI rfl ?_)
  show wpAny _ _ (setEntries a >>= _) _ _ s
  refine wpAny_bind (wpAny_setEntries_of ga gd hf ?_)
  rw[if_neg (by simp)]
  show wpAny _ _ (seqItems? (.ref T) >>= _) _ _ s
  refine wpAny_bind (wpAny_seqItems gT rfl ?_)
  dsimp only
  rw[show ((i:Int)).toNat=i from rfl,hpi]
  show wpAny _ _ (setNextDrawn a ps[i] ep >>= _) _ _ s
  unfold setNextDrawn
  refine wpAny_bind (wpAny_bind (wpAny_setState_of ga gd hf ?_))
  dsimp only
  rw[if_neg (by simp),he]
  refine wpAny_pure ?_
  show wpAny _ _ (setField (.ref I) 1 (rawInt (i+1)) >>= _) _ _ s
  refine wpAny_bind (wpAny_setField_rec gI (by simp) λm1 g1 e1=>?_)
  refine wpAny_pure ⟨_,rfl,wpAny_pure (hQ _ _ hv ⟨?_,?_,?_⟩ (qe4 λb ob hb g=>e1.extBut _ _ hb g))⟩
  ·exact g1
  ·exact e1.extBut _ _ nI ga
  ·exact e1.extBut _ _ nT gT
 done:=λs Q E st hQ=>by
  obtain ⟨gI,ga,gT⟩:=st
  have hT:s.TypeIs (.ref I) "set_iterator":=⟨_,gI,rfl⟩
  have hpi:(ps.map λ(p:Nat)=>rawInt p).toArray[es.size]?=none:=by
   rw[List.getElem?_toArray];exact List.getElem?_eq_none (by rw[length_map];omega)
  unfold pyNext
  refine wpAny_bind (wpAny_attempt (wpAny_callSpecial?_slot (name:=Str.ofString "__next__") hT qaq (wpAny_call_entry qaq hT ybg ?_ (qbk _))))
  show wpAny _ _ (fieldsOf (.ref I) >>= _) _ _ s
  refine wpAny_bind (wpAny_fieldsOf gI rfl ?_)
  show wpAny _ _ (setEntries a >>= _) _ _ s
  refine wpAny_bind (wpAny_setEntries_of ga gd hf ?_)
  rw[if_neg (by simp)]
  show wpAny _ _ (seqItems? (.ref T) >>= _) _ _ s
  refine wpAny_bind (wpAny_seqItems gT rfl ?_)
  dsimp only
  rw[show ((es.size:Int)).toNat=es.size from rfl,hpi]
  show wpAny _ _ (setField (.ref I) 0 (rawInt 0) >>= _) _ _ s
  refine wpAny_bind (wpAny_setField_rec gI (by simp) λm0 g0 e0=>?_)
  refine wpAny_bind (wpAny_setField_rec g0 (by simp) λm1 g1 e1=>?_)
  refine ygh (by first|exact hh|simpa using hh) λm2 e kp he=>?_
  obtain ⟨ob,go,gc⟩:=he
  refine wpAny_bind (wpAny_isInstance (T:="StopIteration") (b:=true) ⟨ob,go,gc⟩ isSubtype_stop ?_)
  exact wpAny_pure (hQ _ (qe4 λb ob hb g=>kp b ob (e1.extBut _ _ hb (e0.extBut _ _ hb g))))
 self:=λi s Q E st hQ=>by
  obtain ⟨gI,ga,gT⟩:=st
  exact qh1 ⟨_,gI,rfl⟩ hQ
end
theorem ylu{t:SetTable}{n:Nat}(h:t.fits n=true):t.place.size=n:=by
 unfold SetTable.fits at h
 rw[Bool.and_eq_true,beq_iff_eq]at h
 exact h.1
def qji(t:SetTable)(i:Nat):Nat:=if i=0 then 0 else t.place.getD (i-1) 0+1
theorem qid{t:SetTable}(hs:Srt t.place){i:Nat}(hi:i<=t.place.size):SetTable.below t.place (qji t i)=i:=by
 by_cases h0:i=0
 ·subst h0
  exact qjb hs (zero_le _) (λk x hk=>absurd hk (not_lt_zero _)) λk x _ _=>zero_le _
 ·have hlt:i-1<t.place.size:=by omega
  have hg:t.place[i-1]?=some (t.place.getD (i-1) 0):=by
   rw[Array.getD_eq_getD_getElem?,Array.getElem?_eq_getElem hlt];rfl
  have e:qji t i=t.place.getD (i-1) 0+1:=by unfold qji;rw[if_neg h0]
  rw[e]
  refine qjb hs hi (λk x hk hx=>?_) λk x hk hx=>?_
  ·by_cases hk2:k=i-1
   ·subst hk2;rw[hg]at hx;cases hx;omega
   ·have:=hs k (i-1) x _ (by omega) hx hg;omega
  ·have:=hs (i-1) k _ x (by omega) hg hx;omega
section
variable {P:Program}{w:World}{A:Around}{E:Value->Shared->Prop}{s:Shared}{a:Addr}{ks:List Int}
def WalkOf(P:Program)(w:World)(s:Shared)(a:Addr)(ks:List Int)(I:Addr)(h':Heap)(d:Drawn):Prop:=
 ∃(n:Nat) (fp:List Addr) (vs:List Value) (ns:List Int) (St:Nat->Shared->Prop),n=ks.length/\(∀B:Around,B.handled=none->WalksS P w B I fp [I] (λx y=>y=x) n (λi v=>vs[i]?=some v) St)/\St 0 { s with heap:=h',drawn:=d }/\
  s.heap.objs.size<=I/\(∀b∈fp,b=a\/s.heap.objs.size<=b)/\(∀b o,s.heap.get? b=some o->h'.get? b=some o)/\IntsAre vs ns/\ns.Perm ks
theorem iterL{Q:Value->Shared->Prop}(hS:SetL P w s.heap a ks)(k:∀I h' d,WalkOf P w s a ks I h' d->Q (.ref I) { s with heap:=h',drawn:=d }):wpAny (model P w) A (pyIter (.ref a)) Q E s:=by
 obtain ⟨o,es,ep,t,g,gx,gd,el,⟨ns,hi,hp⟩,hb,hf,ht,hl⟩:=hS
 have hT:s.TypeIs (.ref a) "set":=⟨o,g,gx.1⟩
 have hlen:es.size=ks.length:=by
  have h1:=IntsAre.length hi
  rw[length_map,length_toList]at h1
  rw[h1,hp.length_eq]
 have hpl:t.place.size=es.size:=ylu hf
 have ha:a<s.heap.objs.size:=lt_size g
 refine wpAny_pyIter_slot hT F.slot_set_iter (wpAny_call_entry F.slot_set_iter hT yf0 ?_ (F.args_set_iter_1 _))
 show wpAny _ _ (Builtin.Frozenset.sizeOf a >>= _) _ _ s
 refine wpAny_bind ?_
 unfold Builtin.Frozenset.sizeOf
 refine wpAny_bind (wpAny_setEntries_of g gd hf ?_)
 refine wpAny_pure ?_
 refine wpAny_bind ?_
 refine wpAny_bind ?_
 refine wpAny_setState_of g gd hf ?_
 dsimp only
 unfold setsByText
 refine wpAny_bind (wpAny_bind (wpAny_askSetting (wpAny_pure ?_)))
 refine wpAny_pure ?_
 dsimp only
 refine wpAny_ite_split (λhd=>?_) λhd=>?_
 ·refine wpAny_bind (yew es.size (List.range es.size) s _ (by simp) λps d pp=>?_)
  have hpsl:ps.length=es.size:=by rw[pp.length_eq,List.length_range]
  refine wpAny_bind (wpAny_newTuple ?_ (by rw[length_map,hpsl];exact fits_of_scanBound hb))
  have gT:(s.heap.push { cls:=.type "tuple",data:=.seq (ps.map λ(p:Nat)=>rawInt p).toArray }).get? s.heap.objs.size=some { cls:=.type "tuple",data:=.seq (ps.map λ(p:Nat)=>rawInt p).toArray }:=get?_push_size _ rfl
  have ga:(s.heap.push { cls:=.type "tuple",data:=.seq (ps.map λ(p:Nat)=>rawInt p).toArray }).get? a=some o:=get?_push_of_some _ g
  refine wpAny_bind (wpAny_setEpoch_of (s:={ s with heap:=s.heap.push { cls:=.type "tuple",data:=.seq (ps.map λ(p:Nat)=>rawInt p).toArray },drawn:=d }) ga gd hf ?_)
  refine wpAny_bind (wpAny_newObj_type ?_ (by size_fits))
  have z1:(s.heap.push { cls:=.type "tuple",data:=.seq (ps.map λ(p:Nat)=>rawInt p).toArray }).objs.size=s.heap.objs.size+1:=size_push ..
  have hvp:(ps.map λp=>(es.getD p (0,.none)).2).Perm (es.toList.map (·.2)):=by
   refine (pp.map _).trans (List.Perm.of_eq ?_)
   refine List.ext_getElem (by simp) λi h1 h2=>?_
   have hi:i<es.size:=by simpa using h2
   rw[getElem_map,getElem_map,List.getElem_range,Array.getElem_toList]
   show (es.getD i (0,.none)).2=(es[i]).2
   rw[Array.getD_eq_getD_getElem?,Array.getElem?_eq_getElem hi]
   rfl
  obtain ⟨n2,i2,p2⟩:=qd5 hvp hi
  have nI:a≠(s.heap.push { cls:=.type "tuple",data:=.seq (ps.map λ(p:Nat)=>rawInt p).toArray }).objs.size:=by rw[z1];exact neN (.inl (lt_succ_of_lt ha))
  have nT:s.heap.objs.size≠(s.heap.push { cls:=.type "tuple",data:=.seq (ps.map λ(p:Nat)=>rawInt p).toArray }).objs.size:=by rw[z1];exact neN (.inl (Nat.lt_succ_self _))
  refine wpAny_pure ⟨_,rfl,"set_iterator",_,⟨_,get?_push_size _ rfl,rfl⟩,qaq.lookup,k _ _ d ?_⟩
  refine ⟨es.size,_,_,n2,_,hlen,λB hB=>qlj hB nI nT gd hf ps hpsl (λp hp=>mem_range.mp (pp.mem_iff.mp hp)) _ rfl,⟨get?_push_size _ rfl,get?_push_of_some _ ga,get?_push_of_some _ gT⟩,by rw[z1];exact le_succ _,λb hb=>?_,λb ob gb=>get?_push_of_some _ (get?_push_of_some _ gb),i2,p2.trans hp⟩
  have hb':b=(s.heap.push { cls:=.type "tuple",data:=.seq (ps.map λ(p:Nat)=>rawInt p).toArray }).objs.size\/b=a\/b=s.heap.objs.size:=by simpa using hb
  rcases hb' with rfl|rfl|rfl
  ·exact .inr (by rw[z1];exact le_succ _)
  ·exact .inl rfl
  ·exact .inr (le_refl _)
 ·refine wpAny_bind (wpAny_pure ?_)
  refine wpAny_bind (wpAny_setEpoch_of g gd hf ?_)
  refine wpAny_bind (wpAny_newObj_type ?_ (by size_fits))
  have nI:a≠s.heap.objs.size:=neN (.inl ha)
  have es0:s={ s with drawn:=s.drawn }:=by cases s;rfl
  have fpk:∀b∈[s.heap.objs.size,a],b=a\/s.heap.objs.size<=b:=λb hb=>by
   have hb':b=s.heap.objs.size\/b=a:=by simpa using hb
   rcases hb' with rfl|rfl
   ·exact .inr (le_refl _)
   ·exact .inl rfl
  refine wpAny_pure ⟨_,rfl,"set_iterator",_,⟨_,get?_push_size _ rfl,rfl⟩,qaq.lookup,?_⟩
  have key:WalkOf P w s a ks s.heap.objs.size (s.heap.push { cls:=.type "set_iterator",data:=.fields #[rawInt 0,rawInt 0,.ref a,rawInt es.size,rawInt ep] }) s.drawn:=by
   by_cases hbt:byTx w=true
   ·have hvp:((pickOrder (w.params.setOrder a ep) es).toList.map (·.2)).Perm (es.toList.map (·.2)):=(qf9 _ es).map _
    obtain ⟨n2,i2,p2⟩:=qd5 hvp hi
    refine ⟨es.size,_,(pickOrder (w.params.setOrder a ep) es).toList.map (·.2),n2,_,hlen,λB hB=>yms hB nI gd hf (λ_=>0) _ (by rw[hvp.length_eq,length_map,length_toList]) λC D s i Q g1 hi1 q=>qmb hbt g1 gd hf q,⟨get?_push_size _ rfl,get?_push_of_some _ g⟩,le_refl _,fpk,λb ob gb=>get?_push_of_some _ gb,i2,p2.trans hp⟩
   ·have hbf:byTx w=false:=eq_false_of_ne_true hbt
    have hled:t.led=true:=hl.resolve_left hbt
    have hpz:t.plain=true\/es.size<=1:=by
     have hd':¬ ((!byTx w&&(!t.plain&&decide (es.size>1)))=true):=hd
     rw[hbf]at hd'
     cases hq:t.plain with
     |true=>exact .inl rfl
     |false=>
      right
      rw[hq]at hd'
      simpa using hd'
    refine ⟨es.size,_,es.toList.map (·.2),ns,_,hlen,λB hB=>yms hB nI gd hf (qji t) _ (by rw[length_map,length_toList]) λC D s i Q g1 hi1 q=>next_led hbf g1 gd hf hled hpz ?_,⟨get?_push_size _ rfl,get?_push_of_some _ g⟩,le_refl _,fpk,λb ob gb=>get?_push_of_some _ gb,hi,hp⟩
    rw[qid ht.1 (by omega)]
    by_cases hlt:i<es.size
    ·have e1:es[i]?=some es[i]:=Array.getElem?_eq_getElem hlt
     have e2:t.place[i]?=some (t.place.getD i 0):=by
      rw[Array.getD_eq_getD_getElem?,Array.getElem?_eq_getElem (by omega)];rfl
     rw[getElem?_map,getElem?_toList,e1]at q
     rw[e1,e2]
     exact q
    ·have e1:es[i]?=none:=Array.getElem?_eq_none (by omega)
     rw[getElem?_map,getElem?_toList,e1]at q
     rw[e1]
     exact q
  have z:=k _ _ _ key
  exact z
theorem len_set:typeLookup (.type "set") "__len__"=pure (some (.builtin "set.__len__")):=by rw[typeLookup_type,builtinLookup_eq_fast];kernel_rfl
theorem collectL{Q:List Value->Shared->Prop}(hh:A.handled=none)(hS:SetL P w s.heap a ks)(hz:ks.length<=4000)
  (k:∀vs ns h' d tk,IntsAre vs ns->ns.Perm ks->s.heap.objs.size<h'.objs.size->(∀b o,s.heap.get? b=some o->h'.get? b=some o)->Q vs { s with heap:=h',drawn:=d,toks:=tk }):wpAny (model P w) A (collect (.ref a)) Q E s:=by
 have hT:s.TypeIs (.ref a) "set":=by
  obtain ⟨o,es,ep,t,g,gx,_⟩:=hS
  exact ⟨o,g,gx.1⟩
 have ha:a<s.heap.objs.size:=by
  obtain ⟨o,es,ep,t,g,gx,_⟩:=hS
  exact lt_size g
 unfold collect
 refine wpAny_bind (wpAny_runValue (codeAny_builtin F.entry_proto_collect ?_))
 rw[Around.under_plainId F.plain_proto_collect _]
 show wpAny _ A.in1 (newList [] >>= λl=>again (.builtin "list.__iadd__" ⟨[l,.ref a],[]⟩)) _ _ s
 refine wpAny_bind (wpAny_newObj_type ?_)
 refine wpAny_pure ⟨plainId_quiet F.plain_list_iadd _,?_⟩
 refine codeAny_builtin F.entry_list_iadd ?_
 rw[Around.under_plainId F.plain_list_iadd _]
 show wpAny _ A.in1 (Builtin.List.listExtendWith (.ref s.heap.objs.size) (.ref a) (.ref s.heap.objs.size)) _ _ _
 generalize hH:s.heap.push { cls:=.type "list",data:=.seq ([]:List Value).toArray }=H1
 have g0:H1.get? s.heap.objs.size=some { cls:=.type "list",data:=.seq ([]:List Value).toArray }:=by rw[<-hH];exact get?_push_size _ rfl
 have z1:H1.objs.size=s.heap.objs.size+1:=by rw[<-hH];exact size_push ..
 have kp1:∀b o,s.heap.get? b=some o->H1.get? b=some o:=λb o g=>by rw[<-hH];exact get?_push_of_some _ g
 have hS1:SetL P w H1 a ks:=hS.at λo g=>kp1 a o g
 have hT1:Shared.TypeIs { s with heap:=H1 } (.ref a) "set":=by
  obtain ⟨o,es,ep,t,g,gx,_⟩:=hS1
  exact ⟨o,g,gx.1⟩
 unfold Builtin.List.listExtendWith
 refine wpAny_bind (wpAny_typeOf hT1 ?_)
 have n1:Builtin.List.listSameRef (.ref s.heap.objs.size) (.ref a)=false:=by
  have:s.heap.objs.size≠a:=neN (.inr ha)
  simp[Builtin.List.listSameRef,this]
 rw[if_neg (by rw[n1];decide)]
 refine wpAny_bind (iterL (s:={ s with heap:=H1 }) hS1 λI h' d W=>?_)
 refine wpAny_bind (wpAny_holding ?_)
 have hT2:Shared.TypeIs { s with heap:=h',drawn:=d } (.ref a) "set":=by
  obtain ⟨n,fp,vs,ns,St,e,W1,st,lI,fpk,kp,i2,p2⟩:=W
  obtain ⟨o,g,c⟩:=hT1
  exact ⟨o,kp _ _ g,c⟩
 unfold Builtin.List.listLengthHint
 refine wpAny_bind (wpAny_specialOf hT2 len_set ?_)
 wp_delta
 refine wpAny_bind (wpAny_isInstance (T:="set") (b:=true) hT2 (by rw[isSubtype_type];kernel_rfl) ?_)
 show wpAny _ A.in1 (typeOf (Value.ref a) >>= _) _ _ _
 refine wpAny_bind (wpAny_typeOf hT2 ?_)
 refine wpAny_pure ?_
 rw[if_pos (by decide)]
 refine wpAny_bind (wpAny_rule ?_)
 obtain ⟨n,fp,vs,ns,St,en,W1,st,lI,fpk,kp,i2,p2⟩:=W
 have lI':s.heap.objs.size+1<=I:=by rw[<-z1];exact lI
 have hd:s.heap.objs.size∉fp:=λhm=>by
  rcases fpk _ hm with z|z
  ·exact absurd ha (by rw[<-z];exact lt_irrefl _)
  ·have z':s.heap.objs.size+1<=s.heap.objs.size:=by rw[<-z1];exact z
   exact absurd z' (Nat.not_succ_le_self _)
 have gS:h'.get? s.heap.objs.size=some { cls:=.type "list",data:=.seq ([]:List Value).toArray }:=kp _ _ g0
 refine wpAny_bind ?_
 show wpAny _ _ (updateSeq s.heap.objs.size (·.push .none) >>= λ_=>updateSeq s.heap.objs.size (·.pop)) _ _ _
 refine wpAny_bind (wpAny_updateSeq gS rfl ?_ (by simp) (by simp))
 have gS1:=get?_update_self (Obj.mapSeq (·.push Value.none)) gS rfl
 refine wpAny_updateSeq gS1 rfl ?_ (by simp;decide) (by simp)
 have gS2:=get?_update_self (Obj.mapSeq (·.pop)) gS1 rfl
 have oth:∀b o,b≠s.heap.objs.size->h'.get? b=some o->((h'.update s.heap.objs.size (Obj.mapSeq (·.push Value.none))).update s.heap.objs.size (Obj.mapSeq (·.pop))).get? b=some o:=λb o hb g=>by
  rw[get?_update_other _ _ (Ne.symm hb),get?_update_other _ _ (Ne.symm hb)]
  exact g
 have st2:=(W1 A.in1 (by simpa using hh)).frame 0 _ ((h'.update s.heap.objs.size (Obj.mapSeq (·.push Value.none))).update s.heap.objs.size (Obj.mapSeq (·.pop))) s.toks st (le_refl _) λb hb o g=>oth b o (λz=>hd (z ▸ hb)) g
 have hvl:n<=sizeLine:=by rw[en];exact qil (by omega)
 refine wpAny_pure ⟨plainId_quiet F.plain_extend_loop _,?_⟩
 refine codeAny_extend_loopS (W1 A.in1 (by simpa using hh)) hvl _ hd _ n 0 _ _ _ rfl (zero_le _) st2 gS2 ⟨rfl,λj v z=>by simp at z⟩ λs2 acc c m g2 it=>?_
 show wpAny _ A (load s.heap.objs.size >>= _) _ _ s2
 refine wpAny_bind (wpAny_load g2 ?_)
 have ev:acc.toList=vs:=by
  have hl:acc.size=n:=it.1
  have hvn:vs.length=n:=by
   have h1:=IntsAre.length i2
   rw[h1,p2.length_eq,en]
  refine List.ext_getElem? λj=>?_
  cases hj:acc.toList[j]? with
  |none=>
   have:=List.getElem?_eq_none_iff.mp hj
   rw[length_toList]at this
   rw[List.getElem?_eq_none (by omega)]
  |some v=>exact (it.2 j v (by rw[<-getElem?_toList];exact hj)).symm
 obtain ⟨h2,g',d2,tk,os⟩:=s2
 have eg:g'=s.gens:=m.gens
 have ed:d2=d:=m.drawn
 have eo:os=s.os:=m.os
 subst eg
 subst ed
 subst eo
 refine wpAny_pure ?_
 show Q acc.toList _
 rw[ev]
 refine k vs ns h2 d2 tk i2 p2 (lt_size g2) λb o g=>?_
 have hb:b<s.heap.objs.size:=lt_size g
 refine m.heap b o (λz=>?_) (oth b o (neN (.inl hb)) (kp b o (kp1 b o g)))
 have z':b=s.heap.objs.size\/b=I:=by simpa using z
 rcases z' with z|z
 ·exact absurd hb (by rw[z];exact lt_irrefl _)
 ·exact absurd (lt_of_lt_of_le hb (Nat.le_of_succ_le lI')) (by rw[z];exact lt_irrefl _)
theorem qgf(f:Nat->Int)(k:Int):∀n,k∈ya2 f n↔∃i,i<n/\f i=k
 |0=>by
  unfold ya2
  constructor
  ·intro h;simp at h
  ·rintro ⟨i,h,_⟩;omega
 |n+1=>by
  have ih:=qgf f k n
  have e:k∈ya2 f (n+1)↔k∈ya2 f n\/k=f n:=by
   show k∈(if f n∈ya2 f n then ya2 f n else ya2 f n++[f n])↔_
   split
   ·rename_i h
    exact ⟨.inl,λz=>z.elim id λz=>z ▸ h⟩
   ·rw[mem_append,mem_singleton]
  rw[e,ih]
  constructor
  ·rintro (⟨i,h,z⟩|z)
   ·exact ⟨i,by omega,z⟩
   ·exact ⟨n,by omega,z.symm⟩
  ·rintro ⟨i,h,z⟩
   by_cases hi:i=n
   ·subst hi;exact .inr z.symm
   ·exact .inl ⟨i,by omega,z⟩
theorem yev(f:Nat->Int):∀n,(ya2 f n).Nodup
 |0=>nodup_nil
 |n+1=>by
  have ih:=yev f n
  show (if f n∈ya2 f n then ya2 f n else ya2 f n++[f n]).Nodup
  split
  ·exact ih
  ·rename_i h
   rw[List.nodup_append]
   exact ⟨ih,by simp,λx hx y hy z=>h (by rw[<-mem_singleton.mp hy,<-z];exact hx)⟩
def uniq(ns:List Int):List Int:=ya2 (λi=>ns.getD i 0) ns.length
theorem yjo(ns:List Int)(k:Int):k∈uniq ns↔k∈ns:=by
 unfold uniq
 rw[qgf]
 constructor
 ·rintro ⟨i,h,z⟩
  rw[getD_eq_getElem?_getD,getElem?_eq_getElem h]at z
  rw[<-z]
  exact getElem_mem h
 ·intro h
  obtain ⟨i,hi,e⟩:=List.getElem_of_mem h
  exact ⟨i,hi,by rw[getD_eq_getElem?_getD,getElem?_eq_getElem hi,e];rfl⟩
theorem qkn(ns:List Int):(uniq ns).Nodup:=yev _ _
theorem yjx(ns:List Int):(uniq ns).length<=ns.length:=qei _ _
def SetO(P:Program)(w:World)(a:Addr)(ks:List Int):HO:=.ext λh=>SetL P w h a ks
theorem sortedL{Q:Value->Shared->Prop}(hh:A.handled=none)(hS:SetL P w s.heap a ks)(h64:ks.length<64)
  (k:∀l h' d tk vs ns e,s.heap.objs.size<=l->h'.get? l=some (seqObj "list" (List.toArray vs) e)->IntsAre vs ns->ns.Perm ks->ns.Pairwise (·<=·)->(∀b o,s.heap.get? b=some o->h'.get? b=some o)->Q (.ref l) { s with heap:=h',drawn:=d,toks:=tk }) :
  wpAny (model P w) A (call (.builtin "sorted") [.ref a]) Q E s:=by
 refine Calls.call_function_entry kind_sorted plain_sorted entry_sorted (args_sorted1 (.ref a)) ?_
 unfold Builtin.«sorted»
 refine wpAny_bind (m:=checkCount "sorted" 1 1 _) ?_
 refine wpAny_pure ?_
 refine wpAny_bind (collectL (by simpa using hh) hS (by omega) λvs ns h1 d tk i1 p1 hz kp=>?_)
 have hvl:vs.length=ks.length:=by
  have h1:=IntsAre.length i1
  rw[h1,p1.length_eq]
 refine wpAny_bind (wpAny_newList ?_ (qil (by omega)))
 have gL:(h1.push (seqObj "list" vs.toArray 0)).get? h1.objs.size=some (seqObj "list" vs.toArray 0):=get?_push_size _ rfl
 refine wpAny_bind (wpAny_holding (wpAny_call_entry slot_list_sort ⟨_,gL,rfl⟩ entry_list_sort (list_sort_tree gL i1 (by omega) λout n2 a1 a2 a3=>⟨_,rfl,?_⟩) (args_list_sort _)))
 obtain ⟨ep,ge⟩:=sortedHeap_at (out:=out) gL
 refine wpAny_pure ⟨_,rfl,k _ _ d tk out.toList n2 ep (le_of_lt hz) (by simpa using ge) a1 (a2.trans p1) a3 λb o g=>?_⟩
 have hb:b<h1.objs.size:=lt_size (kp b o g)
 rw[sortedHeap_old (ne_of_lt hb) (by rw[show (h1.push (seqObj "list" vs.toArray 0)).objs.size=h1.objs.size+1 from size_push ..];exact lt_succ_of_lt hb)]
 exact get?_push_of_some _ (kp b o g)
end
section
variable {X:Cx}{pins:List (Addr×Obj)}{σ:St}{H:Hp}{s:Shared}
theorem Inv.draw(I:Inv X pins σ H s)(d:Drawn):Inv X pins σ H { s with drawn:=d }:=⟨I.ok,I.os,I.bare,I.base,I.loc,I.cell,I.free,I.freeC,I.pin,I.hok,I.len⟩
def rSet(P:Program)(w:World):List V->Hp->VK->Prop:=λxs H Q=>∃(l:Addr) (ns:List Int),xs=[.ref l]/\H l=some (.lst (ns.map V.int))/\ns.length<=4000/\∀p,H p=none->Q (.ref p) (upd H p (SetO P w p (uniq ns)))
theorem yfh(hc:X.calm=true):ycs X (.type "set") (rSet X.prog X.w):=by
 intro pins s σ H xs us Q I r h
 obtain ⟨l,ns,rfl,hH,h4,q⟩:=h
 cases r with
 |cons r rr=>
  cases rr
  cases r
  obtain ⟨z,its,n,rv,hl,e⟩:=I.lstM hH
  have hil:its.length=ns.length:=by rw[<-hl,length_map]
  have hf:H s.heap.objs.size=none:=I.hok.fresh (le_refl _)
  refine yl3 (by simpa using I.ok.hd hc) (its:=its.toArray) (ns:=ns) ⟨_,e,rfl,n,rfl⟩ (by simpa using ydi rv) (by rw[size_toArray,hil];unfold scanBound;omega) λh' tk S kp=>?_
  have ez:its.toArray.size=ns.length:=by rw[size_toArray,hil]
  rw[ez]at S
  refine ⟨.ref s.heap.objs.size,_,I.laid (o:=SetO X.prog X.w s.heap.objs.size (uniq ns)) (t':=tk) (λb o g=>kp b o (lt_size g) g) (le_refl _) ?_,rfl,q _ hf⟩
  refine ⟨S,?_,λh1 h2 x y=>SetL.at x y⟩
  obtain ⟨o,es,ep,t,g,_⟩:=S
  exact ⟨o,g⟩
def rLenSet(P:Program)(w:World):List V->Hp->VK->Prop:=λxs H Q=>∃(p:Addr) (ks:List Int),xs=[.ref p]/\H p=some (SetO P w p ks)/\Q (.int ks.length) H
theorem qfa:ycs X (.builtin "len") (rLenSet X.prog X.w):=by
 intro pins s σ H xs us Q I r h
 obtain ⟨p,ks,rfl,hH,q⟩:=h
 cases r with
 |cons r rr=>
  cases rr
  cases r
  obtain ⟨⟨o,es,ep,t,g,gx,gd,el,⟨ns,hi,hp⟩,hb,hf,ht,hl⟩,_⟩:=I.hok p _ hH
  have hlen:es.size=ks.length:=by
   have h1:=IntsAre.length hi
   rw[length_map,length_toList]at h1
   rw[h1,hp.length_eq]
  refine call_len_set g gx gd hf (by unfold scanBound at hb;omega) ?_
  rw[hlen]
  exact ⟨.int ks.length,H,I.tok _,⟨_,rfl⟩,q⟩
def rSortSet(P:Program)(w:World):List V->Hp->VK->Prop:=λxs H Q=>∃(p:Addr) (ks:List Int),xs=[.ref p]/\H p=some (SetO P w p ks)/\ks.length<64/\∀(l:Addr) (ns:List Int),H l=none->ns.Perm ks->ns.Pairwise (·<=·)->Q (.ref l) (upd H l (.lst (ns.map V.int)))
theorem qh0(hc:X.calm=true):ycs X (.builtin "sorted") (rSortSet X.prog X.w):=by
 intro pins s σ H xs us Q I r h
 obtain ⟨p,ks,rfl,hH,h64,q⟩:=h
 cases r with
 |cons r rr=>
  cases rr
  cases r
  obtain ⟨S,_⟩:=I.hok p _ hH
  refine sortedL (by simpa using I.ok.hd hc) S h64 λl h' d tk vs ns e hz gl i1 p1 w1 kp=>?_
  have hf:H l=none:=I.hok.fresh hz
  refine ⟨.ref l,_,(I.draw d).laid (o:=.lst (ns.map V.int)) (t':=tk) (λb o g=>kp b o g) hz ?_,rfl,q l ns hf p1 w1⟩
  exact ⟨qil (by rw[length_map,p1.length_eq];omega),vs,e,yhr i1,gl⟩
end
theorem qfv:bootBuiltins "set"=some (.type "set"):=by decide +kernel
theorem qe6{K:W.Frag}{t1 t2:Bool}{l1 l2:Addr}{xs ys:List V}{g:TG}{tt:TT}{te:TE}{ix:List (Option Nat)}{σ:St}{H:Hp}{QD:Hp->Prop}{D:Addr}(hlen:xs.length=ys.length)(Pv:Nat->Hp->Prop)(h0:Pv 0 (upd H D (.lst [])))
  (hl:∀i H',Pv i H'->Sq K t1 H' l1 xs/\Sq K t2 H' l2 ys) (stop:∀H',Pv xs.length H'->QD H')
  (step:∀i x y p H',xs[i]?=some x->ys[i]?=some y->Pv i H'->H' p=none->g (.ref p) (capS ix σ) (upd H' p (.tup [x,y])) λσ2 H3=>qa4 (capS ix σ) σ2/\tt σ2 H3 λb H4=>
   if b=true then te σ2 H4 λv H5=>∃zs,H5 D=some (.lst zs)/\zs.length<sizeLine/\Pv (i+1) (upd H5 D (.lst (zs++[v]))) else Pv (i+1) H4) :
  ∃W:Nat->Nat->Hp->Prop,(∃m,W 0 m (upd H D (.lst [])))/\∀i m H,W i m H->
   ((Itz K t1 t2 l1 l2).stop i H/\QD H)\/((Itz K t1 t2 l1 l2).go i H/\∃N:Hp->Prop,(∀H',N H'->∃m',m' < m/\W (i+1) m' H')/\∀x H',(Itz K t1 t2 l1 l2).yld i H x H'->g x (capS ix σ) H' λσ2 H2=>qa4 (capS ix σ) σ2/\tt σ2 H2 λb H3=>
    if b=true then te σ2 H3 λv H4=>∃zs,H4 D=some (.lst zs)/\zs.length<sizeLine/\N (upd H4 D (.lst (zs++[v]))) else N H3):=by
 refine yby (n:=xs.length) Pv h0 (λH' p=>⟨?_,stop H' p⟩) λi H' hi p=>⟨?_,?_⟩
 ·obtain ⟨q1,q2⟩:=hl _ H' p
  exact ⟨xs,ys,q1,q2,.inl (by simp)⟩
 ·obtain ⟨q1,q2⟩:=hl _ H' p
  exact ⟨xs,ys,_,_,q1,q2,getElem?_eq_getElem hi,getElem?_eq_getElem (by omega)⟩
 ·rintro x H2 ⟨pp,u,v,hp,rfl,rfl,hu⟩
  obtain ⟨q1,q2⟩:=hl _ H' p
  obtain ⟨h1,h2⟩:=hu xs ys q1 q2
  exact step i u v pp H' h1 h2 p hp
section
variable {X:Cx}
def rMinL:List V->Hp->VK->Prop:=λxs H Q=>∃(l:Addr) (ns:List Int),xs=[.ref l]/\H l=some (.lst (ns.map V.int))/\0<ns.length/\∀M,M∈ns->(∀a∈ns,M<=a)->Q (.int M) H
def rMaxL:List V->Hp->VK->Prop:=λxs H Q=>∃(l:Addr) (ns:List Int),xs=[.ref l]/\H l=some (.lst (ns.map V.int))/\0<ns.length/\∀M,M∈ns->(∀a∈ns,a<=M)->Q (.int M) H
theorem qk9(hc:X.calm=true):ycs X (.builtin "min") rMinL:=by
 intro pins s σ H xs us Q I r h
 obtain ⟨l,ns,rfl,hH,hne,q⟩:=h
 cases r with
 |cons r rr=>
  cases rr
  cases r
  obtain ⟨z,its,n,rv,hl,e⟩:=I.lstM hH
  have hi:IntsAre its ns:=ydi rv
  obtain ⟨ys,e2⟩:=hi.allInts.items
  have hns:ns=ys.toList.map (·.1):=by rw[<-hi.numsOf,<-nums_intItems,<-e2]
  have hsz:0<ys.size:=by
   have h3:=hne;rw[hns,length_map,length_toList]at h3;exact h3
  have hl':s.heap.IsList l its.toArray:=⟨_,e,rfl,n,rfl⟩
  rw[e2]at hl'
  refine min_intList (I.ok.hd hc) hl' hsz λv h' tk hv hk=>?_
  obtain ⟨t,rfl⟩:=intItems_at hv
  obtain ⟨h1,h2⟩:=argBest_lt (numAt ys) (ys.size-1)
  refine ⟨.int _,H,I.kept hk,⟨_,rfl⟩,q _ ?_ λa ha=>?_⟩
  ·rw[hns,numAt_eq];exact getD_mem (by rw[length_map,length_toList];omega)
  ·rw[hns]at ha
   obtain ⟨j,hj,rfl⟩:=mem_getD ha
   rw[length_map,length_toList]at hj
   rw[<-numAt_eq];exact h2 j (by omega)
theorem ylj(hc:X.calm=true):ycs X (.builtin "max") rMaxL:=by
 intro pins s σ H xs us Q I r h
 obtain ⟨l,ns,rfl,hH,hne,q⟩:=h
 cases r with
 |cons r rr=>
  cases rr
  cases r
  obtain ⟨z,its,n,rv,hl,e⟩:=I.lstM hH
  have hi:IntsAre its ns:=ydi rv
  obtain ⟨ys,e2⟩:=hi.allInts.items
  have hns:ns=ys.toList.map (·.1):=by rw[<-hi.numsOf,<-nums_intItems,<-e2]
  have hsz:0<ys.size:=by
   have h3:=hne;rw[hns,length_map,length_toList]at h3;exact h3
  have hl':s.heap.IsList l its.toArray:=⟨_,e,rfl,n,rfl⟩
  rw[e2]at hl'
  refine max_intList (I.ok.hd hc) hl' hsz λv h' tk hv hk=>?_
  obtain ⟨t,rfl⟩:=intItems_at hv
  obtain ⟨h1,h2⟩:=argBest_gt (numAt ys) (ys.size-1)
  refine ⟨.int _,H,I.kept hk,⟨_,rfl⟩,q _ ?_ λa ha=>?_⟩
  ·rw[hns,numAt_eq];exact getD_mem (by rw[length_map,length_toList];omega)
  ·rw[hns]at ha
   obtain ⟨j,hj,rfl⟩:=mem_getD ha
   rw[length_map,length_toList]at hj
   rw[<-numAt_eq];exact h2 j (by omega)
def dOf:V->PyData
 |.non=>.none
 |.bl b=>.bool b
 |.int i=>.int i
 |.str s=>.str s
 |_=>.none
theorem flat_at{H:Hp}:∀{v:V},qdw v=true->At H v (dOf v)
 |.non,_=>.non
 |.bl b,_=>.bl b
 |.int i,_=>.int i
 |.str s,_=>.str s
theorem ygx{H:Hp}:∀{vs:List V},vs.all qdw=true->AtAll H vs (vs.map dOf)
 |[],_=>.nil
 |v::vs,h=>by
  rw[all_cons,Bool.and_eq_true]at h
  exact .cons (flat_at h.1) (ygx h.2)
theorem yfl:∀{vs:List V},vs.all qdw=true->PyData.depthAll (vs.map dOf)<=1
 |[],_=>by simp[PyData.depthAll]
 |v::vs,h=>by
  rw[all_cons,Bool.and_eq_true]at h
  have ih:=yfl h.2
  have h1:(dOf v).depth<=1:=by
   cases v<;>first|simp[dOf,PyData.depth]|(simp[qdw]at h)
  simp only[map_cons,PyData.depthAll]
  omega
def Fl(xs:List V):Prop:=xs.all qdw=true/\PyData.canLayAll0 (xs.map dOf)=true
def tEq(H:Hp)(xs:List V):V->Bool
 |.ref a=>match H a with|some (.tup ys)=>PyData.eqvAll (ys.map dOf) (xs.map dOf)|_=>false
 |_=>false
def tEqU(H:Hp)(xs:List V):Value->Bool
 |.ref a=>match H a with|some (.tup ys)=>PyData.eqvAll (ys.map dOf) (xs.map dOf)|_=>false
 |_=>false
theorem ql0{H:Hp}{xs:List V}:∀{us:List V}{vs:List Value},Vals us vs->(∀v∈us,∃a,v=.ref a)->vs.any (tEqU H xs)=us.any (tEq H xs)
 |_,_,.nil,_=>rfl
 |u::us,_,.cons r t,h=>by
  obtain ⟨a,rfl⟩:=h u (by simp)
  cases r
  rw[any_cons,any_cons,ql0 t (λv hv=>h v (by simp[hv]))]
  rfl
def rInT:R2:=λx y H Q=>∃q xs p us,x=.ref q/\H q=some (.tup xs)/\Fl xs/\y=.ref p/\H p=some (.lst us)/\(∀v∈us,∃a ys,v=.ref a/\H a=some (.tup ys)/\Fl ys)/\Q (.bl (us.any (tEq H xs))) H
theorem op_inT{k:Nat}(hr:Room k X.A):OpR X (compareOp .In) rInT:=by
 intro pins s σ H x y v u Q I rx ry h
 obtain ⟨q,xs,p,us,rfl,hq,fx,rfl,hp,hus,k⟩:=h
 cases rx
 cases ry
 obtain ⟨its,r,pl,hz⟩:=I.list (sqlO hp)
 have hu:=hr.units
 obtain ⟨as,rx⟩:=(At.tup hq (ygx fx.1)).reads I.hok (u:=.ref q) rfl
 refine SeqAt.in_listAt (tEqU H xs) pl.isList (λw hw=>?_) ⟨.bl _,H,I,rfl,?_⟩
 ·obtain ⟨v,hv,rv⟩:=r.back w (by simpa using hw)
  obtain ⟨a,ys,rfl,ha,fy⟩:=hus v hv
  cases rv
  obtain ⟨bs,ry⟩:=(At.tup ha (ygx fy.1)).reads I.hok (u:=.ref a) rfl
  have e:tEqU H xs (.ref a)=PyData.eqv (.tuple (ys.map dOf)) (.tuple (xs.map dOf)):=by
   unfold tEqU
   dsimp only
   rw[ha]
   simp[PyData.eqv]
  rw[e]
  refine PySem.SeqAt.eqAt_reads _ _ _ _ _ _ _ _ ry rx fy.2 fx.2 ?_
  have h1:=yfl fy.1
  have h2:=Nat.min_le_left (PyData.tuple (ys.map dOf)).depth (PyData.tuple (xs.map dOf)).depth
  have h3:(PyData.tuple (ys.map dOf)).depth<=2:=by
   simp only[PyData.depth]
   omega
  show X.A.units+1+_<_
  omega
 ·rw[show its.toArray.any (tEqU H xs)=its.any (tEqU H xs) by simp,ql0 r (λv hv=>by obtain ⟨a,_,e,_⟩:=hus v hv;exact ⟨a,e⟩)]
  exact k
end
end L2
namespace L2
open PySem PySem.Spec PyProof.Rows PySem.W
theorem qle:∀{ds:List Addr}{us:List Value},Vals (ds.map V.ref) us->us=ds.map Value.ref
 |[],_,.nil=>rfl
 |d::ds,_,.cons r q=>by
  rw[qle q]
  cases r
  rfl
section
variable {X:Cx}
def rIsiXT(K:W.Frag):List V->Hp->VK->Prop:=λxs H Q=>∃(a C:Addr) (fs:List (Str×V)) (tp:Addr) (ds:List Addr) (b:Bool),xs=[.ref a,.ref tp]/\H tp=some (.tup (ds.map V.ref))/\XAt H a C fs/\XTy K C/\W.kitAny K (.ref C) (ds.map Value.ref)=some b/\Q (.bl b) H
theorem yj7:ycs X (.builtin "isinstance") (rIsiXT X.K):=by
 intro pins s σ H xs us Q I r h
 obtain ⟨a,C,fs,tp,ds,b,rfl,ht,hx,T,hk,q⟩:=h
 cases r with
 |cons r rr=>
  cases rr with
  |cons r' rr=>
   cases rr
   cases r
   cases r'
   obtain ⟨_,its,rv,o,h1,h2,n,h3⟩:=(show yay X.prog X.w H s.heap tp (.tup (ds.map V.ref)) from I.hok tp _ ht)
   have ei:=qle rv
   subst ei
   obtain ⟨oc,od,oa,os⟩:=o
   simp only at h2 h3
   subst h2
   subst h3
   exact W.kia_tup (qlk T) I.kIn (hx.at I) h1 hk (λz=>nomatch z) λtk=>⟨.bl b,H,I.tok _,rfl,q⟩
end
end L2
namespace L2
open PySem PySem.Spec PyProof.Rows Mx
def forB(s:Stmt):List Stmt:=match s with
 |.For _ _ b _ _=>b
 |_=>[]
def sub:List Nat->List Stmt->List Stmt
 |[],b=>b
 |[j],b=>b.drop j
 |k::l,b=>match b.drop k with
  |s::_=>sub l (forB s)
  |[]=>[]
theorem cutA(l:List Nat){X:Cx}{body:List Stmt}{G:TS->Prop}(p:{t:TS // QSs X (sub l body) t})(h:let q:=p;∃t,QSs X body t/\G t):∃t,QSs X body t/\G t:=h
end L2
namespace L2
open PySem PySem.Spec PyProof.Rows
section
variable {P:Program}{w:World}{Ky:Type} [DecidableEq Ky] (kd:KeyKind P w Ky)
abbrev NK(Ky:Type):=Ky ⊕ List Ky
def ygj(h:Heap):NK Ky->Value->Prop
 |.inl k,v=>kd.is k v=true
 |.inr ks,v=>∃b,v=.ref b/\(tupleKind kd).is h ks b
inductive PartsAre(h:Heap):List (NK Ky)->List Value->Prop
 |nil:PartsAre h [] []
 |cons {k:NK Ky}{v:Value}{l:List (NK Ky)}{m:List Value}:ygj kd h k v->PartsAre h l m->PartsAre h (k::l) (v::m)
def qcr(h:Heap)(l:List (NK Ky))(a:Addr):Prop:=∃ob its c,h.get? a=some ob/\ob.cls=.type "tuple"/\ob.data=.seq its c/\PartsAre kd h l its.toList
def ycx:NK Ky->Int
 |.inl k=>kd.hash k
 |.inr ks=>(tupleKind kd).hash ks
def yfi:NK Ky->Nat
 |.inl _=>1
 |.inr ks=>ks.length+1
def qgd(l:List (NK Ky)):Nat:=(l.map (yfi (Ky:=Ky))).sum
variable {kd}
theorem part_inj{h:Heap}{x y:NK Ky}{v:Value}(a:ygj kd h x v)(b:ygj kd h y v):x=y:=by
 cases x with
 |inl x=>
  cases y with
  |inl y=>rw[kd.inj _ _ _ a b]
  |inr y=>
   obtain ⟨c,rfl,_⟩:=b
   have:=kd.byValue _ _ a
   simp[carriedByValue]at this
 |inr x=>
  obtain ⟨c,rfl,ha⟩:=a
  cases y with
  |inl y=>
   have:=kd.byValue _ _ b
   simp[carriedByValue]at this
  |inr y=>
   obtain ⟨c',e,hb⟩:=b
   cases e
   rw[(tupleKind kd).inj ha hb]
theorem qkq{h:Heap}{x y:List (NK Ky)}{m:List Value}(a:PartsAre kd h x m)(b:PartsAre kd h y m):x=y:=by
 induction a generalizing y with
 |nil=>cases b;rfl
 |cons p _ ih=>cases b with|cons q r=>rw[part_inj p q,ih r]
theorem qcr.ty{s:Shared}{l:List (NK Ky)}{a:Addr}(x:qcr kd s.heap l a):s.TypeIs (.ref a) "tuple":=by
 obtain ⟨ob,_,_,e,c,_⟩:=x
 exact ⟨ob,e,c⟩
theorem yjh{h:Heap}{a:Addr}{x y:List (NK Ky)}(p:qcr kd h x a)(q:qcr kd h y a):x=y:=by
 obtain ⟨ob,its,c,e,_,d,r⟩:=p
 obtain ⟨ob',its',c',e',_,d',r'⟩:=q
 rw[e]at e'
 cases e'
 rw[d]at d'
 cases d'
 exact qkq r r'
theorem yke{h h':Heap}{l:List (NK Ky)}{a dd:Addr}{ob:Obj}{es ep}(x:qcr kd h l a)(e:h.get? dd=some ob)(ed:ob.data=.dict es ep)(sb:Heap.SameBut dd h h'):qcr kd h' l a:=by
 obtain ⟨o',its,c,e1,e2,e3,r⟩:=x
 refine ⟨o',its,c,(sb.2 a λz=>?_).trans e1,e2,e3,?_⟩
 ·subst z
  rw[e]at e1
  cases e1
  rw[ed]at e3
  cases e3
 ·clear e1 e2 e3
  generalize its.toList=m at r
  induction r with
  |nil=>exact .nil
  |@cons k v l m p _ ih=>
   refine .cons ?_ ih
   cases k with
   |inl k=>exact p
   |inr ks=>
    obtain ⟨b,eb,hb⟩:=p
    exact ⟨b,eb,(tupleKind kd).keeps hb e ed sb⟩
def hashN(kd:KeyKind P w Ky)(l:List (NK Ky)):Int:=reduceHash (Builtin.Tuple.tupleHashOf (l.map (ycx kd)))
variable {A:Around}{E:Value->Shared->Prop}{s:Shared}
theorem yk4{h:Heap}{k:NK Ky}{v:Value}{Q:Int->Shared->Prop}(hu:A.units<cLine)(eh:s.heap=h)(p:ygj kd h k v)(q:Q (ycx kd k) { s with toks:=s.toks+yfi k }):wpAny (model P w) A (pyHash v) Q E s:=by
 cases k with
 |inl k=>exact kd.pyHash p q
 |inr ks=>
  obtain ⟨b,rfl,hb⟩:=p
  exact (tupleKind kd).pyHash (show (tupleKind kd).room A from hu) (by rw[eh];exact hb) q
theorem qmu{l:List (NK Ky)}{a:Addr}{Q:Int->Shared->Prop}(hu:A.units+2<cLine)(x:qcr kd s.heap l a)(q:Q (hashN kd l) { s with toks:=s.toks+(qgd l+1) }):wpAny (model P w) A (pyHash (.ref a)) Q E s:=by
 have ty:=x.ty
 obtain ⟨ob,its,c,eo,_,ed,r⟩:=x
 unfold pyHash
 first|unfold pyHashByItsType|skip
 first|refine wpAny_bind (wpAny_cRoomFor_or (.inr (show A.units<cLine by omega)) ?_)|skip
 refine wpAny_bind (wpAny_specialOf ty PySem.F.slot_tuple_hash.lookup ?_)
 show wpAny _ _ (if (some (Value.builtin "tuple.__hash__") == some Value.none)=true then _ else _) Q E s
 rw[if_neg (by rw[beq_builtin_none];simp)]
 refine wpAny_bind (wpAny_specialOf ty PySem.F.slot_tuple_hash.lookup ?_)
 show wpAny _ _ (callSpecialIfBoundUnlessNone? (.ref a) "__hash__" _ >>= _) Q E s
 refine wpAny_bind (wpAny_callSpecialIfBoundUnlessNone?_slot ty PySem.F.slot_tuple_hash (wpAny_call_entry PySem.F.slot_tuple_hash ty PySem.F.entry_tuple_hash ?_ (PySem.F.args_tuple_hash_1 _)))
 show wpAny _ _ (Builtin.Tuple.tupleItemsOf (.ref a) >>= _) _ _ s
 refine wpAny_bind (wpAny_tupleItemsOf eo ed ?_)
 refine wpAny_bind ?_
 rw[<-Array.forIn_toList]
 have hu1:A.in1.units<cLine:=(show A.units+1<cLine by omega)
 refine wpAny_forIn_list _ (λrest (hs:Array Int) s'=>∃dn lf,l=dn++lf/\PartsAre kd s.heap lf rest/\hs.toList=dn.map (ycx kd)/\s'={ s with toks:=s.toks+qgd dn }) _ ?_ ?_ _ _ ⟨[],l,rfl,r,rfl,rfl⟩
 ·rintro v rest hs s' ⟨dn,lf,rfl,pl,eh,rfl⟩
  cases pl with
  |@cons k _ lf' _ p pl=>
   have fin:∃dn' lf'',dn++k::lf'=dn'++lf''/\PartsAre kd s.heap lf'' rest/\(hs.push (ycx kd k)).toList=dn'.map (ycx kd)/\({ s with toks:=s.toks+qgd dn+yfi k }:Shared)={ s with toks:=s.toks+qgd dn' }:=
    ⟨dn++[k],lf',by simp,pl,by simp[eh],by simp[qgd,Nat.add_assoc]⟩
   refine wpAny_bind (yk4 hu1 rfl p ?_)
   first
    |exact wpAny_pure fin
    |exact wpAny_bind (wpAny_pure (wpAny_pure fin))
 ·rintro hs s' ⟨dn,lf,rfl,pl,eh,rfl⟩
  cases pl
  rw[append_nil]at q
  show wpAny _ _ (retInt (Builtin.Tuple.tupleHashOf hs.toList)) _ _ _
  rw[eh]
  refine wpAny_ret_mkInt ?_
  unfold hashN reduceHash at q
  show wpAny _ _ (if (decide (-(2:Int) ^ 63<=Builtin.Tuple.tupleHashOf (dn.map (ycx kd)))&&decide (Builtin.Tuple.tupleHashOf (dn.map (ycx kd))<2 ^ 63))=true then _ else _) Q E _
  split
  ·rename_i z
   rw[if_pos z]at q
   exact wpAny_pure (by simpa [Nat.add_assoc] using q)
  ·rename_i z
   rw[if_neg z]at q
   exact wpAny_bind (wpAny_rule (wpAny_pure (by simpa [Nat.add_assoc] using q)))
def tagN:NK Ky->Bool
 |.inl _=>true
 |.inr _=>false
theorem part_eq{h:Heap}{x y:NK Ky}{u v:Value}{Q:Bool->Shared->Prop}(hu:A.units<cLine)(eh:s.heap=h)(tg:tagN x=tagN y)(p:ygj kd h x u)(p':ygj kd h y v)(q:Q (decide (x=y)) s):wpAny (model P w) A (eqBool u v) Q E s:=by
 cases x with
 |inl x=>
  cases y with
  |inl y=>exact kd.eqBool p p' (by simpa using q)
  |inr y=>cases tg
 |inr x=>
  cases y with
  |inl y=>cases tg
  |inr y=>
   obtain ⟨b,rfl,hb⟩:=p
   obtain ⟨c,rfl,hc⟩:=p'
   exact (tupleKind kd).eqBool (show (tupleKind kd).room A from hu) (by rw[eh];exact hb) (by rw[eh];exact hc) (by simpa using q)
theorem qia{h:Heap}{x:List (NK Ky)}{m:List Value}(r:PartsAre kd h x m):x.length=m.length:=by
 induction r with
 |nil=>rfl
 |cons _ _ ih=>simp[ih]
theorem yhq{x y:List (NK Ky)}{a b:Addr}{R:Fin->Shared->Prop}(hu:A.units<cLine)(tg:x.map tagN=y.map tagN)(hx:qcr kd s.heap x a)(hy:qcr kd s.heap y b)(q:R (.done (.ret (.bool (decide (x=y))))) s) :
  wpAny (model P w) A (Builtin.«tuple.__eq__» ⟨[.ref a,.ref b],[]⟩) R E s:=by
 have tb:=hy.ty
 obtain ⟨oa,xs,na,ea,_,da,ra⟩:=hx
 obtain ⟨ob,ys,nb,eb,_,db,rb⟩:=hy
 show wpAny _ _ (isInstance (.ref b) (.type "tuple") >>= _) _ _ s
 refine wpAny_bind (wpAny_isInstance tb isSubtype_tuple_tuple ?_)
 simp only[Bool.not_true,Bool.false_eq_true,if_false]
 refine wpAny_bind (wpAny_tupleItemsOf ea da (wpAny_bind (wpAny_tupleItemsOf eb db (wpAny_bind ?_))))
 refine wpAny_forIn_list _ (λrest r s'=>r.1=none/\s'=s/\∃x' y' xs' ys',rest=List.zip xs' ys'/\x'.map tagN=y'.map tagN/\PartsAre kd s.heap x' xs'/\PartsAre kd s.heap y' ys'/\decide (x'=y')=decide (x=y)/\(xs'.length == ys'.length)=(xs.size == ys.size))
  _ ?_ ?_ _ _ ⟨rfl,rfl,x,y,xs.toList,ys.toList,rfl,tg,ra,rb,rfl,by simp⟩
 ·rintro ⟨u,v⟩ rest r s' ⟨hr,rfl,x',y',xs',ys',hz,tg',px,py,hd,hl⟩
  cases px with
  |nil=>simp at hz
  |@cons k u' x2 xs2 p px=>
   cases py with
   |nil=>simp at hz
   |@cons k' v' y2 ys2 p' py=>
    simp only[List.zip_cons_cons,List.cons.injEq,Prod.mk.injEq]at hz
    obtain ⟨⟨rfl,rfl⟩,rfl⟩:=hz
    simp only[map_cons,List.cons.injEq]at tg'
    refine wpAny_bind (part_eq hu rfl tg'.1 p p' ?_)
    by_cases ek:k=k'
    ·subst ek
     rw[decide_eq_true rfl]
     simp only[Bool.not_true,Bool.false_eq_true,if_false]
     refine wpAny_pure ⟨rfl,rfl,x2,y2,xs2,ys2,rfl,tg'.2,px,py,?_,by simpa using hl⟩
     rw[<-hd]
     simp
    ·rw[decide_eq_false ek]
     simp only[Bool.not_false,if_true]
     have hf:decide (x=y)=false:=by rw[<-hd];simp[ek]
     rw[hf]at q
     exact wpAny_bind (wpAny_pure (wpAny_pure (wpAny_pure q)))
 ·rintro ⟨r1,r2⟩ s' ⟨hr,rfl,x',y',xs',ys',hz,tg',px,py,hd,hl⟩
  simp only at hr
  subst hr
  refine wpAny_pure ?_
  have lx:=qia px
  have ly:=qia py
  have e:(xs.size == ys.size)=decide (x=y):=by
   rw[<-hd,<-hl]
   have:=congrArg List.length tg'
   simp only[length_map]at this
   cases px with
   |nil=>
    cases py with
    |nil=>simp
    |cons _ _=>simp at this
   |cons _ _=>
    cases py with
    |nil=>simp at this
    |cons _ _=>simp at hz
  show R (.done (.ret (.bool (xs.size == ys.size)))) s'
  rw[e]
  exact q
theorem nest_eq{x y:List (NK Ky)}{a b:Addr}{Q:Bool->Shared->Prop}(hu:A.units+2<cLine)(tg:x.map tagN=y.map tagN)(hx:qcr kd s.heap x a)(hy:qcr kd s.heap y b)(q:Q (decide (x=y)) s):wpAny (model P w) A (eqBool (.ref a) (.ref b)) Q E s:=by
 unfold eqBool
 try with_reducible refine wpAny_holding ?_
 show wpAny _ _ (if (Value.ref a == Value.ref b)=true then _ else _) Q E s
 split
 ·rename_i z
  have e:a=b:=by have:=eq_of_beq z;injection this
  subst e
  cases yjh hx hy
  exact wpAny_bind (wpAny_rule (wpAny_pure (by simpa using q)))
 ·refine wpAny_bind (wpAny_richCompare_same_room (op:=.Eq) hx.ty hy.ty PySem.F.slot_tuple_eq
   (wpAny_call_entry PySem.F.slot_tuple_eq hx.ty PySem.F.entry_tuple_eq (yhq ?_ tg hx hy ⟨_,rfl,(λe=>nomatch e),wpAny_truthy_bool q⟩) (PySem.F.args_tuple_eq_2 _ _)) (by omega))
  show A.units+1<cLine
  omega
theorem yls{n:Nat}{ks:List Ky}{a:Addr}{Q:Bool->Shared->Prop}(x:(tupleKind kd).is s.heap ks a)(q:Q true s):wpAny (model P w) A (eqIsQuiet (n+1) (.ref a)) Q E s:=by
 have ty:s.TypeIs (.ref a) "tuple":=IsTupleKey.typeIs x
 obtain ⟨ob,its,c,eo,_,ed,r⟩:=x
 unfold eqIsQuiet
 refine wpAny_bind (wpAny_specialOf ty PySem.F.slot_tuple_eq.lookup ?_)
 show wpAny _ _ (isInstance (.ref a) (.type "tuple") >>= _) _ _ s
 refine wpAny_bind (wpAny_isInstance ty isSubtype_tuple_tuple ?_)
 simp only[Bool.not_true,Bool.false_eq_true,if_false]
 refine wpAny_bind (wpAny_seqItems eo ed (wpAny_bind ?_))
 show wpAny _ _ (forIn its _ _) _ _ s
 rw[<-Array.forIn_toList]
 refine wpAny_forIn_list _ (λrest z s'=>z.1=none/\s'=s/\∀v∈rest,carriedByValue v=true) _ ?_ ?_ _ _ ⟨rfl,rfl,r.byValue⟩
 ·rintro v rest z s' ⟨hz,rfl,hall⟩
  rw[eqIsQuiet_byValue _ (hall v (by simp))]
  refine wpAny_bind (wpAny_pure ?_)
  simp only[Bool.not_true,Bool.false_eq_true,if_false]
  exact wpAny_pure ⟨rfl,rfl,λu hu'=>hall u (by simp[hu'])⟩
 ·rintro ⟨z1,z2⟩ s' ⟨hz,rfl,_⟩
  simp only at hz
  subst hz
  exact wpAny_pure q
theorem ykd{l:List (NK Ky)}{a:Addr}{Q:Bool->Shared->Prop}(x:qcr kd s.heap l a)(q:Q true s):wpAny (model P w) A (eqIsQuiet 8 (.ref a)) Q E s:=by
 have ty:=x.ty
 obtain ⟨ob,its,c,eo,_,ed,r⟩:=x
 unfold eqIsQuiet
 refine wpAny_bind (wpAny_specialOf ty PySem.F.slot_tuple_eq.lookup ?_)
 show wpAny _ _ (isInstance (.ref a) (.type "tuple") >>= _) _ _ s
 refine wpAny_bind (wpAny_isInstance ty isSubtype_tuple_tuple ?_)
 simp only[Bool.not_true,Bool.false_eq_true,if_false]
 refine wpAny_bind (wpAny_seqItems eo ed (wpAny_bind ?_))
 show wpAny _ _ (forIn its _ _) _ _ s
 rw[<-Array.forIn_toList]
 refine wpAny_forIn_list _ (λrest z s'=>z.1=none/\s'=s/\∃lf,PartsAre kd s.heap lf rest) _ ?_ ?_ _ _ ⟨rfl,rfl,l,r⟩
 ·rintro v rest z s' ⟨hz,rfl,lf,pl⟩
  cases pl with
  |@cons k _ lf' _ p pl=>
   have go:wpAny (model P w) A (eqIsQuiet 7 v) (λb s2=>b=true/\s2=s') E s':=by
    cases k with
    |inl k=>
     rw[eqIsQuiet_byValue _ (kd.byValue _ _ p)]
     exact wpAny_pure ⟨rfl,rfl⟩
    |inr ks=>
     obtain ⟨b,rfl,hb⟩:=p
     exact yls hb ⟨rfl,rfl⟩
   refine wpAny_bind (wpAny_mono go (λb s2 ⟨e1,e2⟩=>?_) λ_ _ x=>x)
   subst e1 e2
   simp only[Bool.not_true,Bool.false_eq_true,if_false]
   exact wpAny_pure ⟨rfl,rfl,lf',pl⟩
 ·rintro ⟨z1,z2⟩ s' ⟨hz,rfl,_⟩
  simp only at hz
  subst hz
  exact wpAny_pure q
abbrev Ask(Ky:Type):=List Ky×Ky×List Ky
def askN(k:Ask Ky):List (NK Ky):=[.inr k.1,.inl k.2.1,.inr k.2.2]
theorem qjf{x y:Ask Ky}(e:askN x=askN y):x=y:=by
 obtain ⟨a,b,c⟩:=x
 obtain ⟨a',b',c'⟩:=y
 simp only[askN,List.cons.injEq,Sum.inr.injEq,Sum.inl.injEq,and_true]at e
 rw[e.1,e.2.1,e.2.2]
def qfh(kd:KeyKind P w Ky):HeapKind P w (Ask Ky) where
 is:=λh k a=>qcr kd h (askN k) a
 hash:=λk=>hashN kd (askN k)
 draws:=λk=>qgd (askN k)+1
 room:=λA=>A.units+2<cLine
 inj:=λp q=>qjf (yjh p q)
 keeps:=λx e ed sb=>yke x e ed sb
 pyHash:=λhu x q=>qmu hu x q
 eqBool:=λ{A E s x y a b Q} hu hx hy q=>nest_eq (x:=askN x) (y:=askN y) hu (by rfl) hx hy (by
  have:decide (askN x=askN y)=decide (x=y):=by
   rw[Bool.eq_iff_iff,decide_eq_true_iff,decide_eq_true_iff]
   exact ⟨qjf,λe=>by rw[e]⟩
  rw[this]
  exact q)
 quiet:=λx q=>ykd x q
end
abbrev AE:=Ask Key×Addr×V
abbrev KA:List AE->List (Ask Key×Addr×Value)->Prop:=Paired λp q=>p.1=q.1/\p.2.1=q.2.1/\RelV p.2.2 q.2.2
def valA(es:List AE)(k:Ask Key):Option V:=(es.find? λe=>decide (e.1=k)).map (·.2.2)
def DA(P:Program)(w:World)(a:Addr)(es:List AE):HO:=.ext λh=>es.length<=sizeLine/\(a == sysModules)=false/\∃xs,KA es xs/\
 ∃o ds ep,h.get? a=some o/\o.ExactDict/\o.data=.dict ds ep/\ds.toList=xs.map (entryOfKey (qfh (yat P w)))/\(xs.map (·.1)).Nodup
structure AskAt(H:Hp)(k:Ask Key)(b:Addr):Prop where
 ex:∃c e,H b=some (.tup [.ref c,kV k.2.1,.ref e])/\H c=some (.tup (k.1.map kV))/\H e=some (.tup (k.2.2.map kV))
theorem AskAt.keep{H H':Hp}{k:Ask Key}{b:Addr}(x:AskAt H k b)(ht:∀b ys,H b=some (.tup ys)->H' b=some (.tup ys)):AskAt H' k b:=by
 obtain ⟨c,e,h1,h2,h3⟩:=x.ex
 exact ⟨c,e,ht _ _ h1,ht _ _ h2,ht _ _ h3⟩
theorem KA.val{es:List AE}{xs:List (Ask Key×Addr×Value)}(r:KA es xs)(k:Ask Key):RelO (valA es k) ((atKey xs k).map (·.2)):=by
 induction r with
 |nil=>exact True.intro
 |@cons p q ps qs h t ih=>
  obtain ⟨h1,_,h2⟩:=h
  unfold valA atKey at ih ⊢
  rw[find?_cons,find?_cons,<-h1]
  by_cases e:p.1=k
  ·rw[decide_eq_true e]
   exact h2
  ·rw[decide_eq_false e]
   exact ih
section
variable {P:Program}{w:World}{H:Hp}{h:Heap}{a:Addr}
theorem qjv{k:Ask Key}{b:Addr}(ok:HOk P w H h)(x:AskAt H k b):(qfh (yat P w)).is h k b:=by
 obtain ⟨c,e,h1,h2,h3⟩:=x.ex
 obtain ⟨_,its,r,o,g1,g2,n,g3⟩:=(show yay P w H h b (.tup _) from ok b _ h1)
 refine ⟨o,its.toArray,n,g1,g2,g3,?_⟩
 cases r with
 |cons r1 r=>
  cases r with
  |cons r2 r=>
   cases r with
   |cons r3 r=>
    cases r
    cases (show _=Value.ref c from r1)
    cases (show _=Value.ref e from r3)
    exact .cons ⟨c,rfl,yga ok h2⟩ (.cons (yi8 r2) (.cons ⟨e,rfl,yga ok h3⟩ .nil))
theorem da_of{es:List AE}(ok:HOk P w H h)(e:H a=some (DA P w a es))(all:∀x∈es,AskAt H x.1 x.2.1):es.length<=sizeLine/\(a == sysModules)=false/\∃xs,KA es xs/\h.DictOfH (qfh (yat P w)) a xs:=by
 obtain ⟨⟨z,y,xs,r,o,ds,ep,h1,h2,h3,h4,h5⟩,ex⟩:=(show yay P w H h a (DA P w a es) from ok a _ e)
 refine ⟨z,y,xs,r,o,ds,ep,h1,h2,h3,h4,?_,h5⟩
 clear h4 h5 z e ex
 induction r with
 |nil=>intro x hx;cases hx
 |@cons p q ps qs hq t ih=>
  intro x hx
  rcases mem_cons.mp hx with e|hx
  ·subst e
   have:=qjv ok (all p (by simp))
   rw[hq.1,hq.2.1]at this
   exact this
  ·exact ih (λx hx=>all x (by simp[hx])) x hx
theorem da_ok{es:List AE}{H':Hp}(z:es.length<=sizeLine)(y:(a == sysModules)=false){xs:List (Ask Key×Addr×Value)}(r:KA es xs)(d:h.DictOfH (qfh (yat P w)) a xs):yay P w H' h a (DA P w a es):=by
 obtain ⟨o,ds,ep,h1,h2,h3,h4,_,h5⟩:=d
 refine ⟨⟨z,y,xs,r,o,ds,ep,h1,h2,h3,h4,h5⟩,⟨o,h1⟩,λg1 g2 ⟨z,y,xs,r,o,ds,ep,h1,h2,h3,h4,h5⟩ k=>⟨z,y,xs,r,o,ds,ep,k o h1,h2,h3,h4,h5⟩⟩
end
section
variable {X:Cx}{pins:List (Addr×Obj)}{σ:St}{H:Hp}{s:Shared}{a b:Addr}{v:V}{u r:Value}{A:Around}{E:Value->Shared->Prop}{es:List AE}{k:Ask Key}
theorem qgq(hu:A.units+64<cLine):(qfh (yat X.prog X.w)).room A.in1:=show A.units+1+2<cLine by omega
theorem a_notIn{Q:Value->Shared->Prop}(hu:A.units+64<cLine)(I:Inv X pins σ H s)(e:H a=some (DA X.prog X.w a es))(all:∀x∈es,AskAt H x.1 x.2.1)(x:AskAt H k b)(h:∀s',Inv X pins σ H s'->Q (.bool (!(valA es k).isSome)) s') :
  wpAny (model X.prog X.w) A (compareOp .NotIn (.ref b) (.ref a)) Q E s:=by
 obtain ⟨z,hd,xs,rel,dd⟩:=da_of I.hok e all
 refine wpAny_notIn_heap (qgq hu) (qjv I.hok x) hd dd ?_
 have q:=(rel.val k).isSome_eq
 rw[Option.isSome_map]at q
 rw[<-q]
 exact h _ (I.tok _)
theorem a_get{Q:Value->Shared->Prop}(hu:A.units+64<cLine)(I:Inv X pins σ H s)(e:H a=some (DA X.prog X.w a es))(all:∀x∈es,AskAt H x.1 x.2.1)(x:AskAt H k b)(l:valA es k=some v)(h:∀w' s',Inv X pins σ H s'->RelV v w'->Q w' s') :
  wpAny (model X.prog X.w) A (getItem (.ref a) (.ref b)) Q E s:=by
 obtain ⟨z,hd,xs,rel,dd⟩:=da_of I.hok e all
 obtain ⟨w',hw,rw'⟩:=RelO.some_of (v:=v) (o:=(atKey xs k).map (·.2)) (by rw[<-l];exact rel.val k)
 obtain ⟨p,hp,hp2⟩:=Option.map_eq_some_iff.mp hw
 refine wpAny_getItem_heap (qgq hu) (qjv I.hok x) dd hp ?_
 rw[hp2]
 exact h w' _ (I.tok _) rw'
theorem a_put{Q:Unit->Shared->Prop}(hu:A.units+64<cLine)(I:Inv X pins σ H s)(e:H a=some (DA X.prog X.w a es))(all:∀x∈es,AskAt H x.1 x.2.1)(x:AskAt H k b)(no:valA es k=none)(hl:es.length<sizeLine)(rv:RelV v r)(h:∀s',Inv X pins σ (upd H a (DA X.prog X.w a (es++[(k,b,v)]))) s'->Q () s') :
  wpAny (model X.prog X.w) A (setItem (.ref a) (.ref b) r) Q E s:=by
 obtain ⟨z,hd,xs,rel,dd⟩:=da_of I.hok e all
 have hz:xs.length<=sizeLine:=by rw[<-Paired.length rel];exact z
 refine wpAny_setItem_heap (hsz:=hz) (qgq hu) (qjv I.hok x) dd λh' dd' hs=>h _ ?_
 have q:=(rel.val k).isSome_eq
 rw[Option.isSome_map,no]at q
 have st:storedH xs k b r=xs++[(k,b,r)]:=by
  unfold storedH
  rw[if_neg (by rw[<-q];simp)]
 rw[st]at dd'
 refine yg8 I (by rw[e];exact True.intro) hs (let ⟨o,_,_,ho,_⟩:=dd';⟨o,ho⟩) (da_ok (by simp;omega) hd (Paired.snoc rel ⟨rfl,rfl,rv⟩) dd')
end
def tAGet(P:Program)(w:World)(td ty:TE):TE:=λσ H Q=>td σ H λx H1=>ty σ H1 λy H2=>∃a b es k v,x=.ref a/\y=.ref b/\H2 a=some (DA P w a es)/\(∀x∈es,AskAt H2 x.1 x.2.1)/\AskAt H2 k b/\valA es k=some v/\Q v H2
def tANotIn(P:Program)(w:World)(ty td:TE):TE:=λσ H Q=>ty σ H λy H1=>td σ H1 λx H2=>∃a b es k,x=.ref a/\y=.ref b/\H2 a=some (DA P w a es)/\(∀x∈es,AskAt H2 x.1 x.2.1)/\AskAt H2 k b/\Q (.bl (!(valA es k).isSome)) H2
def sAPut(P:Program)(w:World)(td ty tv:TE):TS:=λD σ H=>tv σ H λv H1=>td σ H1 λx H2=>ty σ H2 λy H3=>∃a b es k,x=.ref a/\y=.ref b/\H3 a=some (DA P w a es)/\(∀x∈es,AskAt H3 x.1 x.2.1)/\AskAt H3 k b/\valA es k=none/\es.length<sizeLine/\D.nx σ (upd H3 a (DA P w a (es++[(k,b,v)])))
def tANew(P:Program)(w:World):TE:=λ_ H Q=>∀p,H p=none->Q (.ref p) (upd H p (DA P w p []))
section
variable {X:Cx}{o i e value:Expr}{pos pos':Pos}{td ty tv:TE}
theorem pe_aget(hu:X.A.units+64<cLine)(ho:PE X o td)(hi:PE X i ty)(hs:NoSl i):PE X (.Subscript o i pos) (tAGet X.prog X.w td ty):=by
 intro pins s σ H Q I h
 refine qk7 PySem.F.slot_dict_getitem.lookup hs (thn (ho pins s σ H _ I h) λu s1 ⟨x,H1,I1,rx,q1⟩=>thn (hi pins s1 σ H1 _ I1 q1) λiv s2 ⟨y,H2,I2,ry,a,b,es,k,v,ex,ey,g,all,ak,l,q2⟩=>?_)
 subst ex ey
 obtain rfl:u=Value.ref a:=rx
 obtain rfl:iv=Value.ref b:=ry
 obtain ⟨_,_,xs,_,dd⟩:=da_of I2.hok g all
 exact ⟨dd.typeIs,a_get hu I2 g all ak l λw' s3 I3 rw'=>⟨v,H2,I3,rw',q2⟩⟩
theorem ql4(hu:X.A.units+64<cLine)(hi:PE X i ty)(ho:PE X o td):PC X .NotIn i o (tANotIn X.prog X.w ty td):=by
 intro pins s σ H Q I h
 refine thn (hi pins s σ H _ I h) λiv s1 ⟨y,H1,I1,ry,q1⟩=>thn (ho pins s1 σ H1 _ I1 q1) λu s2 ⟨x,H2,I2,rx,a,b,es,k,ex,ey,g,all,ak,q2⟩=>?_
 subst ex ey
 obtain rfl:u=Value.ref a:=rx
 obtain rfl:iv=Value.ref b:=ry
 exact a_notIn hu I2 g all ak λs3 I3=>⟨.bl (!(valA es k).isSome),H2,I3,rfl,q2⟩
theorem ps_aput(hu:X.A.units+64<cLine)(ho:PE X o td)(hi:PE X i ty)(hv:PE X value tv)(hs:swapsWith value (some (.Subscript o i pos')) pos.line X.env=pure false) :
  PS X (.Assign [.Subscript o i pos'] value pos) (sAPut X.prog X.w td ty tv):=by
 intro pins s σ H D I h
 refine wpAny_Assign_Subscript (thn (hv pins s σ H _ I h) λr s1 ⟨v,H1,I1,rv,q1⟩=>thn (ho pins s1 σ H1 _ I1 q1) λu s2 ⟨x,H2,I2,rx,q2⟩=>thn (hi pins s2 σ H2 _ I2 q2) λiv s3 ⟨y,H3,I3,ry,a,b,es,k,ex,ey,g,all,ak,no,hl,q3⟩=>?_) hs
 subst ex ey
 obtain rfl:u=Value.ref a:=rx
 obtain rfl:iv=Value.ref b:=ry
 exact a_put hu I3 g all ak no hl rv λs4 I4=>⟨σ,_,I4,q3⟩
theorem da_empty{P:Program}{w:World}{H:Hp}(h:Heap)(hb:sysModules<h.objs.size):yay P w H (h.push { cls:=.type "dict",data:=.dict #[] }) h.objs.size (DA P w h.objs.size []):=
 da_ok (zero_le _) (beq_eq_false_iff_ne.mpr (ne_of_gt hb)) .nil (Heap.DictOfH.new h)
theorem pe_dnewA:PE X (.Dict [] [] pos) (tANew X.prog X.w):=λpins s σ H Q I h=>
 wpAny_Dict_empty ⟨.ref s.heap.objs.size,_,I.laid (a:=s.heap.objs.size) (o:=DA X.prog X.w s.heap.objs.size []) (t':=s.toks) (λ_ _ q=>get?_push_of_some _ q) (le_refl _) (da_empty s.heap I.big),rfl,h _ (I.hok.fresh (le_refl _))⟩
end
section
variable {X:Cx}{pins:List (Addr×Obj)}{σ:St}{H:Hp}{s:Shared}{a:Addr}{kvs:List (List Key×V)}
structure FrzT(H:Hp)(a:Addr)(o:Obj)(kvs:List (List Key×V))(H2:Hp):Prop where
 at_:H2 a=some (.frz o (.dT kvs))
 st:∀b,b≠a->H2 b=H b
theorem KT.at_{xs:List (List Key×Addr×Value)}(r:KT H kvs xs):∀{i:Nat},i<kvs.length->∃k v b u,kvs[i]?=some (k,v)/\xs[i]?=some (k,b,u)/\H b=some (.tup (k.map kV)):=by
 induction r with
 |nil=>intro i h;exact absurd h (not_lt_zero _)
 |@cons p q l1 l2 h _ ih=>
  intro i hi
  cases i with
  |zero=>exact ⟨p.1,p.2,q.2.1,q.2.2,rfl,by rw[h.1];rfl,h.2.1⟩
  |succ i=>exact ih (i:=i) (by simpa using hi)
theorem Inv.frzT{o:Obj}(I:Inv X pins σ H s)(e:H a=some (.frz o (.dT kvs))):(a == sysModules)=false/\∃xs es ep,KT H kvs xs/\qhb s.heap a es ep/\o.data=.dict es ep/\es.toList=xs.map (entryOfKey (tupleKind (yat X.prog X.w)))/\es.size=kvs.length:=by
 obtain ⟨ho,z,hd,xs,r,ob,es,ep,ho',hx,hda,he,_⟩:=(show yay X.prog X.w H s.heap a (.frz o (.dT kvs)) from I.hok a _ e)
 rw[ho]at ho'
 cases ho'
 refine ⟨hd,xs,es,ep,r,⟨o,ho,hx,hda⟩,hda,he,?_⟩
 rw[<-length_toList,he,length_map]
 exact (Paired.length r).symm
theorem Inv.frzRT(I:Inv X pins σ H s)(e:Rd H a (.dT kvs)):∃o H2,Inv X pins σ H2 s/\FrzT H a o kvs H2:=by
 rcases e with e|⟨o,e⟩
 ·obtain ⟨z,hd,xs,r,ob,es,ep,ho,hx,hda,rest⟩:=(show yay X.prog X.w H s.heap a (.dT kvs) from I.hok a _ e)
  have r':KT (upd H a (.frz ob (.dT kvs))) kvs xs:=KT.keeps r λb ys hb=>by
   rw[qag (λz=>by rw[z,e]at hb;cases hb)]
   exact hb
  exact ⟨ob,_,I.write (x:=a) (e:=a) (t':=s.toks) (o:=.frz ob (.dT kvs)) (by rw[e];exact True.intro) (.inl rfl) (λb u _ q=>q) ⟨ob,ho⟩ ⟨ho,z,hd,xs,r',ob,es,ep,ho,hx,hda,rest⟩,yaa,λb h=>qag h⟩
 ·exact ⟨o,H,I,e,λb h=>rfl⟩
def ItT(a:Addr)(o:Obj)(kvs:List (List Key×V)):It:=
 ⟨λi H=>H a=some (.frz o (.dT kvs))/\i<kvs.length,λi H x H'=>H'=H/\∃k v b,kvs[i]?=some (k,v)/\x=.ref b/\H b=some (.tup (k.map kV)),λi H=>H a=some (.frz o (.dT kvs))/\kvs.length<=i⟩
theorem turn_dT{P:Program}{w:World}{K:W.Frag}{tg:Expr}(a it:Addr)(o:Obj){es:Array DictEntry}{ep:Nat}(hda:o.data=.dict es ep)(hz:es.size=kvs.length):Turn P w K tg (ItT a o kvs) [it] it (λi h=>h.IsKeyIter it a i es.size ep) where
 mem:=by simp
 obj:=λi h st b hb=>by
  have e:b=it:=by simpa using hb
  subst e
  obtain ⟨ob,ho,hc,hd⟩:=st
  exact ⟨ob,ho,λv z=>by rw[hd]at z;cases z⟩
 keep:=λi h h' st k=>st.at (k it (by simp))
 item:=by
  intro X hP hw hK hc i pins s σ H E I hf st hg
  subst hP hw hK
  obtain ⟨f0,f1,f2,f3,f4,f5⟩:=hf it (by simp)
  obtain ⟨hd,xs,es',ep',r,de,hda',he,hz'⟩:=I.frzT hg.1
  rw[hda]at hda'
  cases hda'
  obtain ⟨k,v,b,u,e1,e2,hb⟩:=KT.at_ r hg.2
  have hi:i<es.size:=by rw[hz];exact hg.2
  have ek:es[i].key=.ref b:=by
   have:es.toList[i]?=some es[i]:=by rw[getElem?_toList];exact Array.getElem?_eq_getElem hi
   rw[he,getElem?_map,e2]at this
   have:=Option.some.inj this
   rw[<-this]
   rfl
  refine nextE st de hi λh' st' sb=>?_
  have I1:Inv X pins σ H { s with heap:=h',toks:=s.toks }:=I.turned (λb o hb e=>(sb.2 b hb).trans e) f0 f1 f3 f4 f5
  obtain ⟨ob,ho,hcl,hdat⟩:=id st'
  exact ⟨es[i].key,rfl,go_of (s:={ s with heap:=h' }) (n:="dict_keyiterator") ho hcl hdat (by decide) ⟨.ref b,H,I1,ek,⟨rfl,k,v,b,e1,rfl,hb⟩,st',λb hb=>(hf b hb).1⟩⟩
 done:=by
  intro X hP hw hK hc i pins s σ H E I hf st hg
  subst hP hw hK
  obtain ⟨f0,f1,f2,f3,f4,f5⟩:=hf it (by simp)
  obtain ⟨hd,xs,es',ep',r,de,hda',he,hz'⟩:=I.frzT hg.1
  rw[hda]at hda'
  cases hda'
  exact endE (I.ok.hd hc) st de (by have:=hg.2;omega) λh' eb=>⟨rfl,I.turned (t':=s.toks) (λb o hb e=>eb b o hb e) f0 f1 f3 f4 f5⟩
 self:=λ_ _ _ _ _ st h=>wpAny_pyIter_keyiter st h
def iDictT(tl:TE):TI:=λσ H R=>tl σ H λx H1=>∃a kvs,x=.ref a/\Rd H1 a (.dT kvs)/\∀o H2,FrzT H1 a o kvs H2->R (ItT a o kvs) H2
theorem pi_dictT{tg l:Expr}{tl:TE}(hl:PE X l tl):PI X tg l (iDictT tl):=by
 intro pins s σ H R I h
 refine thn (hl pins s σ H _ I h) λv s1 ⟨x,H1,I1,r1,q1⟩=>?_
 obtain ⟨a,kvs,e,hq,q⟩:=q1
 subst e
 cases r1
 obtain ⟨o,H2,I2,fz⟩:=I1.frzRT hq
 obtain ⟨hd,xs,es,ep,r,de,hda,he,hz⟩:=I2.frzT fz.at_
 refine iterE hd de ?_
 refine ⟨s1.heap.objs.size,[s1.heap.objs.size],_,_,_,rfl,I2.kept (t':=s1.toks) λb o e=>get?_push_of_some _ e,turn_dT a _ o hda hz,⟨_,get?_push_size _ rfl,rfl,rfl⟩,λb hb=>?_,q o H2 fz⟩
 have e:b=s1.heap.objs.size:=by simpa using hb
 subst e
 exact I2.fpOk (le_refl _) (I2.hok.fresh (le_refl _))
end
end L2
namespace L2
open PySem PySem.Spec PyProof.Rows PySem.W
section
variable {prog:Program}{w:World}{A:Around}{E:Value->Shared->Prop}{s:Shared}
theorem rev_hint{r:Addr}{Q:Bool->Shared->Prop}(hT:s.TypeIs (.ref r) "list_reverseiterator")(h:Q false s):wpAny (model prog w) A (Builtin.List.listLengthHint (.ref r)) Q E s:=by
 unfold Builtin.List.listLengthHint
 refine wpAny_bind (wpAny_specialOf hT (r:=none) (by rw[typeLookup_type,builtinLookup_eq_fast];kernel_rfl) ?_)
 refine wpAny_ite_split (λhab=>absurd hab (by decide)) (λ_=>?_)
 refine wpAny_ite_split (λhab=>absurd hab (by decide)) (λ_=>?_)
 refine wpAny_bind (wpAny_specialOf hT (r:=some (.builtin "list_reverseiterator.__length_hint__")) (by rw[typeLookup_type,builtinLookup_eq_fast];kernel_rfl) ?_)
 generalize hid:("list_reverseiterator.__length_hint__" : String)=id0
 wp_delta
 rw[show splitId id0=some ("list_reverseiterator","__length_hint__") from by subst hid;decide +kernel]
 subst hid
 refine wpAny_bind (wpAny_isInstance (T:="list_reverseiterator") (b:=true) hT (by rw[isSubtype_type];kernel_rfl) ?_)
 refine wpAny_ite_split (λhab=>absurd hab (by decide)) (λ_=>?_)
 refine wpAny_ite_split (λ_=>?_) (λhab=>absurd (by decide +kernel) hab)
 refine wpAny_ite_split (λhab=>absurd hab (by decide +kernel)) (λ_=>?_)
 exact wpAny_pure h
theorem rev_call{r l:Addr}{items:Array Value}{Q:Value->Shared->Prop}(hh:A.handled=none)(hit:s.heap.IsRevIter r l ((items.size:Int)-1))(hl:s.heap.IsList l items)(hne:l≠r)(hn:items.size<=sizeLine)
  (hQ:∀h' tk acc' c',(∀b o,b≠r->s.heap.get? b=some o->h'.get? b=some o)->h'.get? s.heap.objs.size=some { cls:=.type "list",dict:=none,data:=.seq acc' c',slots:=#[] }->ItemsOf (λi v=>items[items.size-1-i]?=some v) acc' items.size->Q (.ref s.heap.objs.size) { s with heap:=h',toks:=tk }) :
  wpAny (model prog w) A (call (.type "list") [.ref r]) Q E s:=by
 refine callType_codes (Q₁:=λobj s₁=>obj=.ref s.heap.objs.size/\s₁={ s with heap:=s.heap.push { cls:=.type "list",data:=.seq #[] } }) PySem.F.called_list (PySem.F.typeCall_list_1 _) PySem.F.entry_list_init
  (code_list_new _ ⟨rfl,rfl⟩) λobj s₁ h₁=>?_
 obtain ⟨rfl,rfl⟩:=h₁
 generalize hS0:s.heap.objs.size=S at *
 have hS:(s.heap.push { cls:=.type "list",data:=.seq #[] }).get? S=some { cls:=.type "list",data:=.seq #[] }:=by rw[<-hS0];exact get?_push_size _ rfl
 have old:∀b o,s.heap.get? b=some o->(s.heap.push { cls:=.type "list",data:=.seq #[] }).get? b=some o:=λb o e=>get?_push_of_some _ e
 obtain ⟨ro,hro,hrc,hrd⟩:=hit
 obtain ⟨lo,hlo,hlc⟩:=hl
 have rS:S≠r:=by rw[<-hS0];exact ne_of_gt (lt_size hro)
 have lS:S≠l:=by rw[<-hS0];exact ne_of_gt (lt_size hlo)
 refine ⟨⟨_,hS,rfl⟩,PySem.F.args_list_init_2 _ _,?_⟩
 show wpAny _ _ (do let old <-Builtin.List.listItems (.ref S);Builtin.List.listUpdate (.ref S) (λ_=>#[]);letGo old.toList.reverse;Builtin.List.listExtendWith (.ref S) (.ref r) .none) _ _ _
 refine wpAny_bind ?_
 unfold Builtin.List.listItems
 refine wpAny_bind (wpAny_seqItems hS rfl (wpAny_pure ?_))
 show wpAny _ _ (updateSeq S (λ_=>#[]) >>= λ_=>letGo (#[]:Array Value).toList.reverse >>= λ_=>Builtin.List.listExtendWith (.ref S) (.ref r) .none) _ _ _
 refine wpAny_bind (wpAny_updateSeq hS rfl ?_)
 have hS₂:=get?_update_self (Obj.mapSeq (λ_=>(#[]:Array Value))) hS rfl
 have oth:∀b o,b≠S->(s.heap.push { cls:=.type "list",data:=.seq #[] }).get? b=some o->((s.heap.push { cls:=.type "list",data:=.seq #[] }).update S (Obj.mapSeq (λ_=>(#[]:Array Value)))).get? b=some o:=
  λb o hb e=>(get?_update_other _ _ (Ne.symm hb)).trans e
 refine wpAny_bind (wpAny_letGo ?_)
 revert hS₂ oth
 generalize (s.heap.push { cls:=.type "list",data:=.seq #[] }).update S (Obj.mapSeq (λ_=>(#[]:Array Value)))=h2
 intro hS₂ oth
 have hr2:=oth r ro rS.symm (old _ _ hro)
 have hl2:=oth l lo lS.symm (old _ _ hlo)
 have hit2:h2.IsRevIter r l ((items.size:Int)-1):=⟨ro,hr2,hrc,hrd⟩
 unfold Builtin.List.listExtendWith
 refine wpAny_bind (wpAny_typeOf (T:="list_reverseiterator") ⟨ro,hr2,hrc⟩ ?_)
 have h1:Builtin.List.listSameRef (.ref S) (.ref r)=false:=by simp[Builtin.List.listSameRef,rS]
 simp only[h1,show (Value.type "list_reverseiterator" == Value.type "list")=false from by decide,show (Value.type "list_reverseiterator" == Value.type "tuple")=false from by decide,Bool.or_false,Bool.false_eq_true,if_false]
 refine wpAny_bind (wpAny_pyIter_revIter (s:={ s with heap:=h2 }) hit2 ?_)
 refine wpAny_bind (wpAny_holding (rev_hint ⟨ro,hr2,hrc⟩ ?_))
 refine wpAny_ite_split (λhab=>absurd hab (by decide +kernel)) (λ_=>wpAny_pure ⟨plainId_quiet PySem.F.plain_extend_loop _,?_⟩)
 have W:=Walks.listRev (prog:=prog) (w:=w) (A:=A.in1.in1) (by simpa using hh) r l hne items
 refine codeAny_extend_loopS W.toS hn S (by simp[rS,lS]) .none items.size 0 _ #[] _ rfl (zero_le _) ⟨zero_le _,by simpa using hit2,lo,hl2,hlc⟩ hS₂ (ItemsOf.nil _) λs' acc' c' hm hS' hacc=>?_
 rw[Moved.eq_with hm]
 refine ⟨rfl,hQ s'.heap s'.toks acc' c' (λb o hb e=>hm.heap b o (λhmem=>?_) (oth b o (by rw[<-hS0];exact ne_of_lt (lt_size e)) (old b o e))) hS' hacc⟩
 rcases mem_cons.mp hmem with e'|hmem
 ·rw[e',<-hS0]at e;exact lt_irrefl _ (lt_size e)
 ·exact hb (mem_singleton.mp hmem)
end
theorem yl1{items acc:Array Value}(h:ItemsOf (λi v=>items[items.size-1-i]?=some v) acc items.size):acc.toList=items.toList.reverse:=by
 apply List.ext_getElem?
 intro i
 by_cases hi:i<items.size
 ·have ha:i<acc.size:=by rw[h.1];exact hi
  have:=h.2 i acc[i] (Array.getElem?_eq_getElem ha)
  rw[List.getElem?_reverse (by simpa using hi),getElem?_toList,getElem?_toList,length_toList,this]
  exact Array.getElem?_eq_getElem ha
 ·rw[List.getElem?_eq_none (by rw[length_toList,h.1];omega),List.getElem?_eq_none (by rw[List.length_reverse,length_toList];omega)]
section
variable {X:Cx}
def tLRev(K:W.Frag)(ta:TA):TE:=λσ H Q=>ta σ H λvs H1=>∃(l:Addr) (xs:List V),vs=[.ref l]/\SqL K H1 l xs/\∀p,H1 p=none->Q (.ref p) (upd H1 p (.lst xs.reverse))
theorem yj3{a:Expr}{ta:TA}{p p2 pos pos2:Pos}(hh:X.A.handled=none)(hgl:Gl X "list")(hml:X.mg "list"=none)(hgr:Gl X "reversed")(hmr:X.mg "reversed"=none)(ha:PA X [a] ta)
  (hs:starEach [a] X.env=[(false,eval a X.env)]:=by rfl)
  (hs2:starEach [.Call (.Name "reversed" p2) [a] [] pos2] X.env=[(false,eval (.Call (.Name "reversed" p2) [a] [] pos2) X.env)]:=by rfl) :
  PE X (.Call (.Name "list" p) [.Call (.Name "reversed" p2) [a] [] pos2] [] pos) (tLRev X.K ta):=by
 intro pins s σ H Q I h
 refine Call_ (yc3 I hgl hml boot_list (PyProof.Rows.callWith_type1 ?_ hs2 rfl))
 rw[hs2]
 show wpAny _ _ (spliced ((false,eval (.Call (.Name "reversed" p2) [a] [] pos2) X.env)::backTo pos (starEach [] X.env))) _ _ s
 refine Calls.spliced_cons ?_
 refine Call_ (yc3 I hgr hmr boot_reversed (PyProof.Rows.callWith_type1 (thn (ha pos2 pins s σ H _ I h) λus s1 ⟨vs,H1,I1,r1,q1⟩=>?_) hs rfl))
 obtain ⟨l,xs,e,hl,q⟩:=q1
 subst e
 obtain ⟨u,rfl,r⟩:=yhm r1
 cases r
 obtain ⟨its,rv,il,hz⟩:=I1.list hl
 refine call_reversed_list il.isList ?_
 refine Calls.spliced_nil ?_
 have I2:Inv X pins σ H1 { s1 with heap:=s1.heap.push (revObj l ((its.toArray.size:Int)-1)) }:=I1.kept (t':=s1.toks) λb o e=>get?_push_of_some _ e
 obtain ⟨lo,hlo,hlr⟩:=id il.isList
 have lt:l<s1.heap.objs.size:=lt_size hlo
 have fr:H1 s1.heap.objs.size=none:=I1.hok.fresh (le_refl _)
 refine rev_call (s:={ s1 with heap:=s1.heap.push (revObj l ((its.toArray.size:Int)-1)) }) (r:=s1.heap.objs.size) (l:=l) (items:=its.toArray) hh ⟨_,get?_push_size _ rfl,rfl,rfl⟩ ⟨lo,get?_push_of_some _ hlo,hlr⟩ (ne_of_lt lt) (by have:=rv.length;simp;omega) λh' tk acc' c' kp e hi=>?_
 have ea:=yl1 hi
 have hzz:(s1.heap.push (revObj l ((its.toArray.size:Int)-1))).objs.size=s1.heap.objs.size+1:=size_push ..
 have I3:=I1.laid (a:=(s1.heap.push (revObj l ((its.toArray.size:Int)-1))).objs.size) (h':=h') (o:=.lst xs.reverse) (t':=tk) (λb o g=>kp b o (ne_of_lt (lt_size g)) (get?_push_of_some _ g)) (by rw[hzz];exact le_succ _)
  (show yay X.prog X.w _ h' _ (.lst xs.reverse) from ⟨by rw[List.length_reverse];have:=rv.length;omega,acc'.toList,c',by rw[ea];simpa using rv.rev,by simpa using e⟩)
 exact ⟨.ref _,_,I3,rfl,q _ (I1.hok.fresh (by rw[hzz];exact le_succ _))⟩
end
end L2
namespace Mh
open PySem L2 PyProof.Rows
def top(i:Nat):Stmt:=PySem.Challenge.pw_marchmend_k36_no_orders_named.main.body.getD i (.Pass ⟨0,0,0,0⟩)
def b2i(b:Bool):Int:=if b then 1 else 0
theorem iteB{b:Bool}{A B:Prop}(hb:b=true)(h:A):if b=true then A else B:=by
 rw[if_pos hb];exact h
theorem iteN{b:Bool}{A B:Prop}(hb:b=false)(h:B):if b=true then A else B:=by
 rw[if_neg (by rw[hb];exact Bool.false_ne_true)];exact h
theorem iteD{c:Prop}[Decidable c]{A B:Prop}(hc:c)(h:A):if decide c=true then A else B:=iteB (decide_eq_true hc) h
theorem qbd{α β:Type}{f:α->β}{l:List α}{i:Nat}{d:β}(h:(l.map f)[i]?=some d):∃x,l[i]?=some x/\d=f x:=by
 rw[getElem?_map]at h
 cases e:l[i]? with
 |none=>rw[e]at h;cases h
 |some x=>rw[e]at h;exact ⟨x,rfl,(Option.some.inj h).symm⟩
structure Hm where
 w:Str
 c:List Int
 r:List V
def tabP:List (Str×List V):=[("stuck",[.str "cell",.str "bit"]),("slow",[.str "cell",.str "bit"]),("forgets",[.str "cell",.str "bit"]),("misreads",[.str "cell",.str "bit"]),("turns",[.str "cell",.str "cell",.str "bit"]),("sets",[.str "cell",.str "cell",.str "bit",.str "bit"]),
 ("keeps",[.str "cell",.str "cell",.str "bit",.str "bit"]),("nowhere",[.str "cell",.str "bit"]),("other",[.str "cell",.str "cell"]),("both",[.str "cell",.str "cell",.str "how"])]
def bitV(v:V):Prop:=∃b,v=.int (b2i b)
def howV(v:V):Prop:=v=.str "and"\/v=.str "or"
inductive Rest:List Str->List V->Prop
 |nil:Rest [] []
 |bit {v:V}{ns:List Str}{vs:List V}:bitV v->Rest ns vs->Rest ("bit" :: ns) (v::vs)
 |how {v:V}{ns:List Str}{vs:List V}:howV v->Rest ns vs->Rest ("how" :: ns) (v::vs)
def qa5(n:Nat)(ns:List Str):List V:=List.replicate n (V.str "cell")++ns.map V.str
def hV(h:Hm):List V:=.str h.w::(h.c.map V.int++h.r)
structure okH(h:Hm)(ns:List Str):Prop where
 tab:KTD.datumAt h.w tabP=some (qa5 h.c.length ns)
 rest:Rest ns h.r
 cl:1<=h.c.length/\h.c.length<=2
 rl:ns.length<=2
 nd:h.c.Nodup
 rg:∀x∈h.c,0<=x/\x<64
theorem Rest.len{ns:List Str}{vs:List V}(h:Rest ns vs):vs.length=ns.length:=by
 induction h with
 |nil=>rfl
 |bit _ _ ih=>simp[ih]
 |how _ _ ih=>simp[ih]
theorem okH.len{h:Hm}{ns:List Str}(o:okH h ns):(h.c.map V.int++h.r).length=(qa5 h.c.length ns).length:=by
 unfold qa5
 simp[o.rest.len]
section
variable {P:Program}{w:World}{K:W.Frag}{mg:Str->Option Value}{base:Heap}
def yc1:Sp:=λvs H Q _=>∃i,vs=[.int i]/\Q (.bl true) H
abbrev ycq:Stmt:=top 18
theorem ycv:FnScope ["thing"] ["thing"] (qac ycq):=fsc
theorem qik(B:Bl mg)(F:FnAt K mg "is_whole" ycq ["thing"]):Has P w K mg base 1 "is_whole" ["thing"] yc1:=by
 refine Has.of F ycv (λvs H Q E h=>?_) (λ_ _ _ _ _ H vs Q E hr h=>?_)
 ·obtain ⟨i,rfl,_⟩:=h
  rfl
 ·obtain ⟨i,rfl,k⟩:=h
  have sc:=ycv
  refine ⟨_,(qax (yb6 (qa8 (qan qbb rfl (B.of rfl) boot_isinstance (qab (pv 0) (qab (qbl (v:=.ty "int") rfl (B.of rfl) boot_int rfl) yae))) (qbx (pe_not (qan qbb rfl (B.of rfl) boot_isinstance (qab (pv 0) (qab (qbl (v:=.ty "bool") rfl (B.of rfl) boot_bool rfl) yae)))))))),?_⟩
  refine ⟨_,rfl,_,_,_,_,rfl,.int i,rfl,_,rfl,iteT ?_⟩
  refine ⟨_,rfl,_,_,_,_,rfl,.int i,rfl,_,rfl,?_⟩
  exact k
def yfg:Sp:=λvs H Q _=>∃b,vs=[.int (b2i b)]/\∀H',Same H H'->Q (.bl true) H'
abbrev yd9:Stmt:=top 19
theorem qeb:FnScope ["thing"] ["thing"] (qac yd9):=fsc
theorem qk2(ybc:Has P w K mg base 1 "is_whole" ["thing"] yc1)(F:FnAt K mg "is_bit" yd9 ["thing"]):Has P w K mg base 2 "is_bit" ["thing"] yfg:=by
 refine Has.of F qeb (λvs H Q E h=>?_) (λ_ _ _ _ _ H vs Q E hr h=>?_)
 ·obtain ⟨i,rfl,_⟩:=h
  rfl
 ·obtain ⟨b,rfl,k⟩:=h
  have sc:=qeb
  refine ⟨_,(qax (yb6 (qa8 (qam ybc hr (qab (pv 0) yae)) (qbx (ya4 ybw (pv 0) (ybu (qab yad (qab yad yae))) (by with_unfolding_all rfl)))))),?_⟩
  refine ⟨_,rfl,_,rfl,_,rfl,iteT ?_⟩
  refine ⟨_,rfl,zl,λp hp=>⟨p,_,rfl,.inr (sqtO yaa),rfl,rfl,?_⟩⟩
  cases b<;>exact k _ (Same.upd (smR _) hp)
abbrev yd0:Stmt:=top 20
theorem qeu:FnScope ["thing","words"] ["thing","words"] (qac yd0):=fsc
abbrev yfj:Stmt:=top 33
theorem ygm:FnScope ["thing"] ["thing"] (qac yfj):=fsc
abbrev yfp:Stmt:=top 34
theorem ygl:FnScope ["name","thing"] ["name","thing"] (qac yfp):=fsc
def HAt(H:Hp)(v:V)(h:Hm):Prop:=∃a,v=.ref a/\H a=some (.tup (hV h))
abbrev yed:Stmt:=top 35
theorem qfb:FnScope ["thing"] ["thing"] (qac yed):=fsc
theorem Rest.get{ns:List Str}{vs:List V}(h:Rest ns vs):∀{i:Nat}{n:Str}{v:V},ns[i]?=some n->vs[i]?=some v->(n="bit"/\bitV v)\/(n="how"/\howV v):=by
 induction h with
 |nil=>intro i n v h;simp at h
 |bit hb _ ih=>
  intro i n v h1 h2
  cases i with
  |zero=>simp at h1 h2;subst h1 h2;exact .inl ⟨rfl,hb⟩
  |succ i=>simp at h1 h2;exact ih h1 h2
 |how hb _ ih=>
  intro i n v h1 h2
  cases i with
  |zero=>simp at h1 h2;subst h1 h2;exact .inr ⟨rfl,hb⟩
  |succ i=>simp at h1 h2;exact ih h1 h2
theorem okH.cellAt{h:Hm}{ns:List Str}(o:okH h ns){i:Nat}{x y:V}(hx:(qa5 h.c.length ns)[i]?=some x)(hy:(h.c.map V.int++h.r)[i]?=some y) :
  (x=.str "cell"/\∃c,h.c[i]?=some c/\y=.int c)\/(h.c.length<=i/\((x=.str "bit"/\bitV y)\/(x=.str "how"/\howV y))):=by
 unfold qa5 at hx
 by_cases hi:i<h.c.length
 ·rw[getElem?_append_left (by simpa using hi),List.getElem?_replicate,if_pos hi]at hx
  rw[getElem?_append_left (by simpa using hi)]at hy
  obtain ⟨c,hc,rfl⟩:=qbd hy
  exact .inl ⟨(Option.some.inj hx).symm,c,hc,rfl⟩
 ·rw[getElem?_append_right (by simpa using le_of_not_lt hi)]at hx
  rw[getElem?_append_right (by simpa using le_of_not_lt hi)]at hy
  simp only[List.length_replicate,length_map]at hx hy
  obtain ⟨n,hn,rfl⟩:=qbd hx
  rcases o.rest.get hn hy with ⟨rfl,hb⟩|⟨rfl,hb⟩
  ·exact .inr ⟨le_of_not_lt hi,.inl ⟨rfl,hb⟩⟩
  ·exact .inr ⟨le_of_not_lt hi,.inr ⟨rfl,hb⟩⟩
theorem yjt(h:Hm):cutV (hV h) (some 1) none=h.c.map V.int++h.r:=by
 unfold hV
 exact qec 1
theorem ykw(h:Hm):¬ (HT.sIx (hV h).length 0 (some 1)=0/\HT.sIx (hV h).length (hV h).length none=(hV h).length):=by
 rintro ⟨h0,_⟩
 unfold hV HT.sIx at h0
 simp at h0
abbrev qdu:Stmt:=top 37
theorem yey:FnScope ["thing","names"] ["thing"] (qac qdu):=fsc
theorem yhz{h:Hm}{i:Nat}(hi:h.c.length<=i):h.c.take (i+1)=h.c.take i:=by
 rw[take_of_length_le hi,take_of_length_le (by omega)]
def qdt:Sp:=λvs H Q _=>∃v h ns,vs=[v]/\HAt H v h/\okH h ns/\∀D H',Same H H'->H D=none->H' D=some (.lst (h.c.map V.int))->Q (.ref D) H'
abbrev qcp:Stmt:=top 36
theorem ycz:FnScope ["harm"] ["harm"] (qac qcp):=fsc
theorem yi5(B:Bl mg)(yds:mg "zip"=none){aP:Addr}(gP:mg "PARTS"=some (.ref aP))(TP:TabK K aP tabP)(F:FnAt K mg "cells_in" qcp ["harm"]):Has P w K mg base 1 "cells_in" ["harm"] qdt:=by
 refine Has.of F ycz (λvs H Q E h=>?_) (λ_ _ _ _ _ H vs Q E hr h=>?_)
 ·obtain ⟨v,h,ns,rfl,_⟩:=h
  rfl
 ·obtain ⟨v,h,ns,rfl,⟨a,rfl,ha⟩,ok,k⟩:=h
  have sc:=ycz
  refine ⟨_,(qax (yb6 (ybr rfl (yax rfl) (M:=["name","part"]) (ix:=[none,none]) (qj1 rfl yds (qab (qbe (qkr (D:=tabP)) (qbm (v:=.ref aP) rfl gP rfl) (qbe yam (pv 0) yad)) (qab (qdk ykt (pv 0) (qbh yad) yb8) yae))) (λ_ _ _ _=>(qel (K:=K) (n:=2) rfl rfl (yaj (qaz (i:=0) (show List.Nodup (["name","part"]:List Str) by decide +kernel) rfl (Or.inl rfl)) (yaj (qaz (i:=1) (show List.Nodup (["name","part"]:List Str) by decide +kernel) rfl (Or.inl rfl)) ya9)))) (λ_ _ _ _=>(qen (qb1 ya6 (pv 0) qak (yai _)))) (λ_ _ _ _=>(pv 1))))),?_⟩
  refine ⟨_,rfl,a,_,_,_,rfl,rfl,sqtO ha,yaq 0 rfl,aP,h.w,_,rfl,rfl,TP,ok.tab,λpn hpn=>?_⟩
  refine ⟨_,rfl,_,rfl,a,_,rfl,sqtO ha,ykw h,λq hq=>?_⟩
  rw[yjt]
  have s1:Same H (upd H q (.tup (h.c.map V.int++h.r))):=(smR H).upd hq
  have e1:=@yaa H q (.tup (h.c.map V.int++h.r))
  revert s1 e1
  generalize upd H q _=H1
  intro s1 e1
  refine ⟨true,true,pn,q,_,_,rfl,hpn _,sqtO e1,λD hD=>?_⟩
  refine qe6 (K:=K) (ok.len.symm) (λi H'=>Same H1 H'/\H' D=some (.lst ((h.c.take i).map V.int))) ⟨(smR H1).upd hD,yaa⟩ ?_ ?_ ?_
  ·rintro i H2 ⟨s2,e2⟩
   exact ⟨hpn _,sqtO (s2 _ _ e1)⟩
  ·rintro H2 ⟨s2,e2⟩
   rw[take_of_length_le (by simp[qa5])]at e2
   exact k D H2 (s1.trans s2) (s1.free hD) e2
  ·rintro i x y p H2 hx hy ⟨s2,e2⟩ hp
   have s3:Same H2 (upd H2 p (.tup [x,y])):=(smR H2).upd hp
   refine ⟨p,_,rfl,sqtO yaa,rfl,?_⟩
   revert s3
   generalize upd H2 p _=H3
   intro s3
   refine ⟨_,_,rfl,_,_,rfl,rfl,qa4.set (qa4.set (qa4.refl _) rfl) rfl,?_⟩
   rcases ok.cellAt hx hy with ⟨rfl,c,hc,rfl⟩|⟨hge,hh⟩
   ·refine ⟨_,rfl,rfl,_,rfl,iteB (by decide +kernel) ?_⟩
    refine ⟨_,rfl,_,s3 _ _ e2,ybe ?_,(s2.trans s3).at hD,?_⟩
    ·have:=ok.cl
     simp
     omega
    ·rw[yaa,take_add_one,hc];simp
   ·have hxn:∃nm,x=.str nm/\nm≠"cell":=by
     rcases hh with ⟨rfl,_⟩|⟨rfl,_⟩
     ·exact ⟨_,rfl,by decide +kernel⟩
     ·exact ⟨_,rfl,by decide +kernel⟩
    obtain ⟨nm,rfl,hnm⟩:=hxn
    refine ⟨_,rfl,rfl,_,rfl,iteN (by simpa using hnm) ?_⟩
    refine ⟨s2.trans s3,?_⟩
    rw[yhz hge]
    exact s3 _ _ e2
theorem not_take{l:List Int}(h:l.Nodup){i:Nat}(hi:i<l.length):l[i]∉l.take i:=by
 intro hm
 obtain ⟨j,hj,e⟩:=List.getElem_of_mem hm
 rw[List.getElem_take]at e
 have hj':j<i:=by simp at hj;omega
 have:=(List.nodup_iff_pairwise_ne.mp h)
 exact (List.pairwise_iff_getElem.mp h j i (by omega) hi hj') e
theorem yho{l:List Int}(h:l.Nodup):∀i,i<=l.length->ya2 (λi=>l.getD i 0) i=l.take i
 |0,_=>rfl
 |i+1,hi=>by
  show (if l.getD i 0∈ya2 (λi=>l.getD i 0) i then ya2 (λi=>l.getD i 0) i else ya2 (λi=>l.getD i 0) i++[l.getD i 0])=_
  rw[yho h i (by omega)]
  have e:l.getD i 0=l[i]:=by rw[getD_eq_getElem?_getD,getElem?_eq_getElem (by omega)];rfl
  rw[e,if_neg (not_take h (by omega)),take_add_one,getElem?_eq_getElem (by omega)]
  rfl
theorem yig{l:List Int}(h:l.Nodup):uniq l=l:=by
 unfold uniq
 rw[yho h _ (le_refl _),take_length]
theorem HAt.same{H H':Hp}{v:V}{h:Hm}(s:Same H H')(x:HAt H v h):HAt H' v h:=by
 obtain ⟨a,rfl,ha⟩:=x
 exact ⟨a,rfl,s _ _ ha⟩
abbrev yfe:Stmt:=top 38
theorem qgp:FnScope ["thing","cells"] ["thing"] (qac yfe):=fsc
theorem nodup_le{l:List Int}(h:l.Nodup):∀{S:List Int},(∀x∈l,x∈S)->l.length<=S.length:=by
 induction l with
 |nil=>intro S _;exact zero_le _
 |cons x l ih=>
  intro S hs
  have hx:=hs x (by simp)
  have hn:=nodup_cons.mp h
  have:=ih hn.2 (S:=S.erase x) (λy hy=>(List.mem_erase_of_ne (λz=>by subst z;exact hn.1 hy)).mpr (hs y (by simp[hy])))
  rw[List.length_erase_of_mem hx]at this
  have:=List.length_pos_of_mem hx
  simp
  omega
def allC(hs:List Hm):List Int:=hs.flatMap Hm.c
structure okHs(hs:List Hm)(S:List Int):Prop where
 len:hs.length<=3
 ok:∀h∈hs,∃ns,okH h ns
 sl:S.length<=3
 mem:∀h∈hs,∀c∈h.c,c∈S
structure HsV(H:Hp)(vs:List V)(hs:List Hm):Prop where
 len:vs.length=hs.length
 at_:∀(i:Nat) (v:V) (h:Hm),vs[i]?=some v->hs[i]?=some h->HAt H v h
theorem HsV.get{H:Hp}{vs:List V}{hs:List Hm}(x:HsV H vs hs){i:Nat}{v:V}(h:vs[i]?=some v):∃g,hs[i]?=some g/\HAt H v g:=by
 have hi:=(List.getElem?_eq_some_iff.mp h).1
 have e:hs[i]?=some (hs[i]'(by rw[<-x.len];exact hi)):=getElem?_eq_getElem _
 exact ⟨_,e,x.at_ i v _ h e⟩
theorem qib{hs:List Hm}{i:Nat}{h:Hm}(e:hs[i]?=some h):allC (hs.take (i+1))=allC (hs.take i)++h.c:=by
 unfold allC
 rw[take_add_one,e]
 simp
theorem okHs.sub{hs:List Hm}{S:List Int}(o:okHs hs S){l:List Hm}(hl:∀h∈l,h∈hs):∀x∈allC l,x∈S:=by
 intro x hx
 unfold allC at hx
 obtain ⟨h,hh,hc⟩:=mem_flatMap.mp hx
 exact o.mem h (hl h hh) x hc
theorem okHs.few{hs:List Hm}{S:List Int}(o:okHs hs S){l:List Hm}(hl:∀h∈l,h∈hs):(uniq (allC l)).length<=3:=
 le_trans (nodup_le (qkn _) (λx hx=>o.sub hl x ((yjo _ x).mp hx))) o.sl
theorem allC_len{l:List Hm}(h:∀x∈l,x.c.length<=2):(allC l).length<=2*l.length:=by
 induction l with
 |nil=>simp[allC]
 |cons a l ih=>
  have h1:=h a (by simp)
  have h2:=ih (λx hx=>h x (by simp[hx]))
  unfold allC at *
  rw[flatMap_cons,length_append,length_cons]
  omega
theorem okHs.clen{hs:List Hm}{S:List Int}(o:okHs hs S){l:List Hm}(hl:∀h∈l,h∈hs):(allC l).length<=2*l.length:=
 allC_len λx hx=>by
  obtain ⟨ns,h⟩:=o.ok x (hl x hx)
  exact h.cl.2
theorem qf2{c:Prop}[Decidable c]{A B:Prop}(hc:¬ c)(h:B):if decide c=true then A else B:=iteN (decide_eq_false hc) h
abbrev qb9:Stmt:=top 39
theorem qc6:FnScope ["thing","cells","number","harm"] ["thing"] (qac qb9):=fsc
abbrev yee:Stmt:=top 40
theorem qfg:FnScope ["harms","cells","harm"] ["harms"] (qac yee):=fsc
abbrev qd0:Stmt:=top 47
theorem qet:FnScope ["harms","cell","harm"] ["harms","cell"] (qac qd0):=fsc
def rd(cs:List Int)(c:Int):Int:=cs.getD c.toNat 0
theorem rd_at{cs:List Int}{c:Int}(h0:0<=c)(h1:c<cs.length):atI (cs.map V.int) c=some (.int (rd cs c)):=by
 refine ylw h0 ?_
 have:c.toNat<cs.length:=by omega
 unfold rd
 rw[getElem?_map,getD_eq_getElem?_getD,getElem?_eq_getElem this]
 rfl
theorem ixN_in{n:Nat}{c:Int}(h0:0<=c)(h1:c<n):ixN n c=some c.toNat:=by
 unfold ixN
 rw[if_pos h0,if_pos h1]
abbrev s_put:Stmt:=top 48
theorem sc_put:FnScope ["harms","cells","cell","bit"] ["harms","cells","cell","bit"] (qac s_put):=fsc
end
end Mh
namespace Mh
open PySem L2 PyProof.Rows Mx
theorem dS{a b:Str}:decide (V.str a=V.str b)=decide (a=b):=by
 by_cases h:a=b
 ·subst h;simp
 ·rw[decide_eq_false h,decide_eq_false (λz=>h (V.str.inj z))]
theorem dI{a b:Int}:decide (V.int a=V.int b)=decide (a=b):=by
 by_cases h:a=b
 ·subst h;simp
 ·rw[decide_eq_false h,decide_eq_false (λz=>h (V.int.inj z))]
section
variable {P:Program}{w:World}{K:W.Frag}{mg:Str->Option Value}{base:Heap}
abbrev qhe:Stmt:=top 49
theorem yh2:FnScope ["harms","cells","cell","bit","harm"] ["harms","cells"] (qac qhe):=fsc
structure UpC(H:Hp)(C:Addr)(ds:List Int)(H':Hp):Prop where
 st:∀b u,b≠C->H b=some u->H' b=some u
 at_:H' C=some (.lst (ds.map V.int))
theorem UpC.trans{H H' H2:Hp}{C:Addr}{ds es:List Int}(u:UpC H C ds H')(v:UpC H' C es H2):UpC H C es H2:=⟨λb o h e=>v.st b o h (u.st b o h e),v.at_⟩
theorem UpC.of{H H':Hp}{C:Addr}{cs:List Int}(s:Same H H')(h:H C=some (.lst (cs.map V.int))):UpC H C cs H':=⟨λb o _ e=>s _ _ e,s _ _ h⟩
theorem eqS{a s:Str}:(eqV (.str a) (.str s)=true)=(s=a):=by
 show ((a == s)=true)=_
 rw[beq_iff_eq]
 exact propext eq_comm
theorem in2{s a b:Str}:inV (.str s) [.str a,.str b]=decide (s=a\/s=b):=by
 unfold inV
 rw[Bool.eq_iff_iff]
 simp[eqS]
abbrev qbr:Stmt:=top 50
theorem yce:FnScope ["harms","address","harm"] ["harms","address"] (qac qbr):=fsc
abbrev qb8:Stmt:=top 51
theorem yc2:FnScope ["harm","address"] ["harm","address"] (qac qb8):=fsc
abbrev ydz:Stmt:=top 52
theorem qev:FnScope ["harms","cells","cell","held","harm"] ["harms","cells","cell"] (qac ydz):=fsc
abbrev qf1:Stmt:=top 53
theorem ygg:FnScope ["harms","cells","address","harm","bits","cell"] ["harms","cells","address"] (qac qf1):=fsc
abbrev qed:Stmt:=top 55
theorem yfa:FnScope ["harms","cells","cell","bit","harm"] ["harms","cells","cell","bit"] (qac qed):=fsc
abbrev yb7:Stmt:=top 56
theorem qc5:FnScope ["harms","cells","cell","harm"] ["harms","cells","cell"] (qac yb7):=fsc
theorem fl_slow(cell bit:Int):Fl [.str "slow",.int cell,.int bit]:=by
 have e:PyData.canLay0 (.str "slow")=true:=by decide +kernel
 exact ⟨rfl,by simp only[map_cons,map_nil,PyData.canLayAll0,dOf,e];rfl⟩
abbrev qfo:Stmt:=top 54
theorem ygd:FnScope ["harms","cells","cell","bit"] ["harms","cells","cell","bit"] (qac qfo):=fsc
abbrev qdf:Stmt:=top 57
theorem qd4:FnScope ["harms","cells","cell","bit","held"] ["harms","cells","cell","bit"] (qac qdf):=fsc
abbrev yec:Stmt:=top 58
theorem yfn:FnScope ["harms","cells","address","bit","cell"] ["harms","cells","address","bit"] (qac yec):=fsc
def bits(cs:List Int):Prop:=∀c∈cs,∃b,c=b2i b
def yge:Sp:=λvs H Q _=>∃n:Int,vs=[.int n]/\1<=n/\n<=64/\Q (.bl true) H
abbrev qf3:Stmt:=top 64
theorem qge:FnScope ["thing"] ["thing"] (qac qf3):=fsc
theorem qj9(qc8:∃t,mg "MOST_CELLS"=some (.int 64 t))(ybc:Has P w K mg base 1 "is_whole" ["thing"] yc1)(F:FnAt K mg "is_size" qf3 ["thing"]):Has P w K mg base 2 "is_size" ["thing"] yge:=by
 refine Has.of F qge (λvs H Q E h=>?_) (λ_ _ _ _ _ H vs Q E hr h=>?_)
 ·obtain ⟨x,rfl,_⟩:=h
  rfl
 ·obtain ⟨x,rfl,h0,h1,k⟩:=h
  have sc:=qge
  refine ⟨_,(qax (yb6 (qa8 (qam ybc hr (qab (pv 0) yae)) (qa8 (ya4 qkb (pv 0) yad (yai _)) (qbx (ya4 op_le (pv 0) (qes qc8) (yai _))))))),?_⟩
  refine ⟨_,rfl,x,rfl,_,rfl,iteT ?_⟩
  refine ⟨_,rfl,_,_,rfl,rfl,_,rfl,iteD (by omega) ?_⟩
  refine ⟨_,rfl,_,_,rfl,rfl,?_⟩
  show Q (.bl (decide (x<=64))) H
  rw[decide_eq_true h1]
  exact k
def yc8:Sp:=λvs H Q _=>∃C cs,vs=[.ref C,.int (cs.length:Nat)]/\H C=some (.lst (cs.map V.int))/\bits cs/\cs.length<=64/\∀H',Same H H'->Q (.bl true) H'
abbrev qck:Stmt:=top 65
theorem ydg:FnScope ["thing","size"] ["thing","size"] (qac qck):=fsc
theorem yfr(B:Bl mg)(qgu:mg "all"=none)(qc0:Has P w K mg base 2 "is_bit" ["thing"] yfg)(F:FnAt K mg "are_contents" qck ["thing","size"]):Has P w K mg base 3 "are_contents" ["thing","size"] yc8:=by
 refine Has.of F ydg (λvs H Q E h=>?_) (λ_ _ _ _ _ H vs Q E hr h=>?_)
 ·obtain ⟨C,cs,rfl,_⟩:=h
  rfl
 ·obtain ⟨C,cs,rfl,hC,hb,hl,k⟩:=h
  have sc:=ydg
  refine ⟨_,(qax (yb6 (qa8 (qan qbb rfl (B.of rfl) boot_isinstance (qab (pv 0) (qab (qbl (v:=.ty "list") rfl (B.of rfl) boot_list rfl) yae))) (qa8 (ya4 ya6 (qan qai rfl (B.of rfl) boot_len (qab (pv 0) yae)) (pv 1) (yai _)) (qbx (qan (yfc rfl) rfl qgu yff (qab (ybr rfl (yax rfl) (M:=["part"]) (ix:=[none]) (yck (pv 0)) (λ_ _ _ _=>(qaz (i:=0) (show List.Nodup (["part"]:List Str) by decide +kernel) rfl (Or.inl rfl))) (λ_ _ _ _=>ych) (λ_ _ _ _=>(qam qc0 hr (qab (pv 0) yae)))) yae))))))),?_⟩
  refine ⟨_,rfl,_,_,_,_,rfl,.lst hC,rfl,_,rfl,iteT ?_⟩
  refine ⟨_,rfl,C,_,rfl,.inl (sqlO hC),_,rfl,rfl,_,rfl,iteD (by rw[length_map]) ?_⟩
  refine ⟨_,rfl,C,rfl,⟨_,sqlO hC⟩,λD hD=>yby (n:=cs.length) (λi H'=>Same H H'/\H' D=some (.lst ((List.replicate i true).map V.bl))) ⟨(smR H).upd hD,yaa⟩ ?_ ?_⟩
  ·rintro H3 ⟨s3,e3⟩
   refine ⟨⟨_,sqlO (s3 _ _ hC),by simp⟩,?_⟩
   refine ⟨D,_,rfl,e3,?_⟩
   rw[show (List.replicate cs.length true).all id=true by simp]
   exact k _ s3
  ·rintro i H3 hi ⟨s3,e3⟩
   refine ⟨⟨_,_,sqlO (s3 _ _ hC),by rw[getElem?_map,getElem?_eq_getElem hi];rfl⟩,?_⟩
   rintro x H4 ⟨rfl,hx⟩
   obtain ⟨c,hc,rfl⟩:=qbd (hx _ (sqlO (s3 _ _ hC)))
   obtain ⟨b,rfl⟩:=hb c (mem_of_getElem? hc)
   refine ⟨qa4.set (qa4.refl _) rfl,yes ?_⟩
   refine ⟨_,rfl,b,rfl,λH5 s5=>?_⟩
   refine ⟨_,s5 _ _ e3,ybe (by rw[length_map,List.length_replicate];omega),(s3.trans s5).at hD,?_⟩
   rw[yaa,List.replicate_succ',map_append];rfl
abbrev yb0:Stmt:=top 66
theorem qcq:FnScope ["size","harms","contents","cells"] ["size","harms","contents"] (qac yb0):=fsc
end
def fsM(L Cc:Addr):List (Str×V):=[("harms",.ref L),("cells",.ref Cc)]
structure CM(K:W.Frag)(C:Addr):Prop where
 c:Cls K C
 nh:yc9 K C "harms"
 nc:yc9 K C "cells"
theorem lk_h{L Cc:Addr}:(fsM L Cc).lookup ("harms" : Str)=some (V.ref L):=by
 unfold fsM
 rw[lookup_cons,show (("harms" : Str) == "harms")=true by decide +kernel]
theorem lk_c{L Cc:Addr}:(fsM L Cc).lookup ("cells" : Str)=some (V.ref Cc):=by
 unfold fsM
 rw[lookup_cons,show (("cells" : Str) == "harms")=false by decide +kernel,lookup_cons,show (("cells" : Str) == "cells")=true by decide +kernel]
theorem lk_n{L Cc:Addr}{f:Str}(h1:(f == ("harms" : Str))=false:=by decide +kernel)(h2:(f == ("cells" : Str))=false:=by decide +kernel):(fsM L Cc).lookup f=none:=by
 unfold fsM
 rw[lookup_cons,h1,lookup_cons,h2]
 rfl
section
variable {P:Program}{w:World}{K:W.Frag}{mg:Str->Option Value}{base:Heap}{C:Addr}
abbrev yak:Stmt:=ybz (top 68) 1
theorem ybf:FnScope ["self","address"] ["self","address"] (qac yak):=fsc
abbrev qa3:Stmt:=ybz (top 68) 2
theorem qdn:FnScope ["self","address"] ["self","address"] (qac qa3):=fsc
def qdp:Sp:=λvs H Q _=>∃b,vs=[.int (b2i b)]/\∀H',Same H H'->Q .non H'
abbrev ycw:Stmt:=top 67
theorem ydr:FnScope ["thing"] ["thing"] (qac ycw):=fsc
theorem yf9(qc0:Has P w K mg base 2 "is_bit" ["thing"] yfg)(F:FnAt K mg "look_at_bit" ycw ["thing"]):Has P w K mg base 3 "look_at_bit" ["thing"] qdp:=by
 refine Has.ofQ F ydr (λvs H Q E h=>?_) (λ_ _ _ _ _ H vs Q E hr h=>?_)
 ·obtain ⟨b,rfl,_⟩:=h
  rfl
 ·obtain ⟨b,rfl,k⟩:=h
  have sc:=ydr
  refine ⟨_,qaf rfl (yac (yao (ydd (qbq (qah qc0 hr (yaf (qaa (pv 0)) qad))))
    (yac (qdm yeb))
    yal)),?_⟩
  exact ⟨_,rfl,b,rfl,λH' s'=>⟨_,rfl,iteN rfl (k H' s')⟩⟩
abbrev qay:Stmt:=ybz (top 68) 3
theorem qda:FnScope ["self","address","bit"] ["self","address","bit"] (qac qay):=fsc
abbrev qa2:Stmt:=ybz (top 68) 5
theorem ydo:FnScope ["self"] ["self"] (qac qa2):=fsc
abbrev qat:Stmt:=ybz (top 68) 0
theorem ycc:FnScope ["self","size","harms","contents"] ["self","size","harms","contents"] (qac qat):=fsc
end
abbrev Stp:=Bool×Bool
abbrev Elm:=Str×List Stp
def qe1(w:Bool):Str:=if w then "w" else "r"
def qb4(s:Stp):PyData:=.tuple [.str (qe1 s.1),.int (b2i s.2)]
def yeh(e:Elm):PyData:=.tuple [.str e.1,.list (e.2.map qb4)]
def qci(T:List Elm):PyData:=.list (T.map yeh)
def okO(o:Str):Prop:=o="up"\/o="down"\/o="any"
def okE(e:Elm):Prop:=okO e.1/\1<=e.2.length/\e.2.length<=6
def okT(T:List Elm):Prop:=1<=T.length/\T.length<=8/\∀e∈T,okE e
theorem ylf{H:Hp}{v:V}{s:Stp}(h:At H v (qb4 s)):∃a,v=.ref a/\H a=some (.tup [.str (qe1 s.1),.int (b2i s.2)]):=by
 obtain ⟨a,vs,rfl,h1,h2⟩:=h.tupEq
 cases h2 with
 |cons x r=>
  cases r with
  |cons y r=>
   cases r
   rw[x.strEq,y.intEq]at h1
   exact ⟨a,rfl,h1⟩
theorem qeq{H:Hp}{v:V}{e:Elm}(h:At H v (yeh e)):∃a l ws,v=.ref a/\H a=some (.tup [.str e.1,.ref l])/\H l=some (.lst ws)/\AtAll H ws (e.2.map qb4):=by
 obtain ⟨a,vs,rfl,h1,h2⟩:=h.tupEq
 cases h2 with
 |cons x r=>
  cases r with
  |cons y r=>
   cases r
   obtain ⟨l,ws,rfl,h3,h4⟩:=y.lstEq
   rw[x.strEq]at h1
   exact ⟨a,l,ws,rfl,h1,h3,h4⟩
theorem qj2{o:Str}(h:okO o):inV (.str o) [.str "up",.str "down",.str "any"]=true:=by
 rcases h with rfl|rfl|rfl<;>decide +kernel
section
variable {P:Program}{w:World}{K:W.Frag}{mg:Str->Option Value}{base:Heap}
abbrev qf4:Stmt:=top 21
theorem qgi:FnScope ["thing"] ["thing"] (qac qf4):=fsc
abbrev ydy:Stmt:=top 22
theorem qez:FnScope ["thing","most"] ["thing","most"] (qac ydy):=fsc
abbrev qff:Stmt:=top 23
theorem qgh:FnScope ["thing"] ["thing"] (qac qff):=fsc
abbrev ydw:Stmt:=top 24
theorem yez:FnScope ["thing"] ["thing"] (qac ydw):=fsc
abbrev ybq:Stmt:=top 25
theorem qcc:FnScope ["number","thing","place","step"] ["number","thing"] (qac ybq):=fsc
def qdg:Sp:=λvs H Q _=>∃v T,vs=[v]/\At H v (qci T)/\okT T/\∀H',Same H H'->Q .non H'
abbrev ycg:Stmt:=top 26
theorem qc7:FnScope ["thing","number","element"] ["thing"] (qac ycg):=fsc
def okU(o:Str):Prop:=o="up"\/o="down"
structure OrdOk(T:List Elm)(os:List Str):Prop where
 len:os.length=T.length
 at_:∀(i:Nat) e o,T[i]?=some e->os[i]?=some o->okU o/\(e.1="any"\/e.1=o)
theorem qlz{o:Str}(h:okU o):inV (.str o) [.str "up",.str "down"]=true:=by
 rcases h with rfl|rfl<;>decide +kernel
theorem in_any{a o:Str}(h:a="any"\/a=o):inV (.str a) [.str "any",.str o]=true:=by
 rw[in2]
 exact decide_eq_true h
abbrev qcg:Stmt:=top 71
theorem qdb:FnScope ["element","thing"] ["element","thing"] (qac qcg):=fsc
abbrev qc9:Stmt:=top 72
theorem yd5:FnScope ["test","thing"] ["test","thing"] (qac qc9):=fsc
def ycn:Sp:=λvs H Q _=>∃t O T os,vs=[.ref t,.ref O]/\At H (.ref t) (qci T)/\okT T/\H O=some (.lst (os.map V.str))/\OrdOk T os/\∀H',Same H H'->Q .non H'
abbrev qbz:Stmt:=top 73
theorem ycp:FnScope ["test","thing"] ["test","thing"] (qac qbz):=fsc
structure FT(H:Hp)(vs:List V)(xs:List (List V)):Prop where
 len:vs.length=xs.length
 at_:∀(i:Nat) v x,vs[i]?=some v->xs[i]?=some x->∃a,v=.ref a/\H a=some (.tup x)
theorem FT.nil{H:Hp}:FT H [] []:=⟨rfl,λi v x h=>by simp at h⟩
theorem FT.same{H H':Hp}{vs:List V}{xs:List (List V)}(s:Same H H')(f:FT H vs xs):FT H' vs xs:=⟨f.len,λi v x a b=>by obtain ⟨c,e,hc⟩:=f.at_ i v x a b;exact ⟨c,e,s _ _ hc⟩⟩
theorem FT.put{H:Hp}{D:Addr}{ys:List V}{o:HO}{vs:List V}{xs:List (List V)}(f:FT H vs xs)(hd:H D=some (.lst ys)):FT (upd H D o) vs xs:=⟨f.len,λi v x a b=>by
 obtain ⟨c,e,hc⟩:=f.at_ i v x a b
 exact ⟨c,e,by rw[qag (λz=>by subst z;rw[hd]at hc;cases hc)];exact hc⟩⟩
theorem FT.snoc{H:Hp}{vs:List V}{xs:List (List V)}{a:Addr}{x:List V}(f:FT H vs xs)(h:H a=some (.tup x)):FT H (vs++[.ref a]) (xs++[x]):=by
 refine ⟨by simp[f.len],λi v y h1 h2=>?_⟩
 by_cases hi:i<vs.length
 ·rw[getElem?_append_left hi]at h1
  rw[getElem?_append_left (by rw[<-f.len];exact hi)]at h2
  exact f.at_ i v y h1 h2
 ·rw[getElem?_append_right (by omega)]at h1
  rw[getElem?_append_right (by rw[<-f.len];omega),<-f.len]at h2
  cases hj:i-vs.length with
  |zero=>rw[hj]at h1 h2;cases h1;cases h2;exact ⟨a,rfl,h⟩
  |succ n=>rw[hj]at h1;simp at h1
theorem FT.get{H:Hp}{vs:List V}{xs:List (List V)}(f:FT H vs xs){i:Nat}{v:V}(h:vs[i]?=some v):∃x a,xs[i]?=some x/\v=.ref a/\H a=some (.tup x):=by
 have hi:=(List.getElem?_eq_some_iff.mp h).1
 have e:xs[i]?=some (xs[i]'(by rw[<-f.len];exact hi)):=getElem?_eq_getElem _
 obtain ⟨a,h1,h2⟩:=f.at_ i v _ h e
 exact ⟨_,a,e,h1,h2⟩
def ydt(up:Bool)(n:Nat):List Int:=(List.range n).map λt:Nat=>if up then (t:Int) else (n:Int)-1-t
def rowD(ws:List V)(a:Int):List (List V):=(List.range ws.length).map λp:Nat=>[.int a,.int p,ws.getD p .non]
def qlb(up:Bool)(ws:List V)(n:Nat):List (List V):=(ydt up n).flatMap (rowD ws)
theorem addrs_at(up:Bool)(n:Nat){i:Nat}(h:i<n):(ydt up n)[i]?=some (if up then (i:Int) else (n:Int)-1-i):=by
 unfold ydt
 rw[getElem?_map,List.getElem?_range h]
 rfl
theorem qkg(up:Bool)(ws:List V)(n:Nat){i:Nat}{a:Int}(h:(ydt up n)[i]?=some a):((ydt up n).take (i+1)).flatMap (rowD ws)=((ydt up n).take i).flatMap (rowD ws)++rowD ws a:=by
 rw[take_add_one,h]
 simp
theorem yma(ws:List V)(a:Int){j:Nat}{w:V}(h:ws[j]?=some w):(rowD ws a).take (j+1)=(rowD ws a).take j++[[.int a,.int j,w]]:=by
 have hj:=(List.getElem?_eq_some_iff.mp h).1
 rw[take_add_one]
 congr 1
 unfold rowD
 rw[getElem?_map,List.getElem?_range hj]
 simp[getD_eq_getElem?_getD,h]
theorem qhd(ws:List V)(a:Int):(rowD ws a).length=ws.length:=by simp[rowD]
theorem yhc(ws:List V):∀(l:List Int),(l.flatMap (rowD ws)).length=l.length*ws.length
 |[]=>by simp
 |a::l=>by
  rw[flatMap_cons,length_append,qhd,yhc ws l,length_cons,Nat.succ_mul]
  omega
def qg9:Sp:=λvs H Q _=>∃(o:Str) (S:Addr) (ws:List V) (n:Nat),vs=[.str o,.ref S,.int n]/\okU o/\H S=some (.lst ws)/\ws.length<=6/\n<=64/\
 ∀(D:Addr) (us:List V) (H':Hp),Same H H'->H D=none->H' D=some (.lst us)->FT H' us (qlb (decide (o="up")) ws n)->Q (.ref D) H'
abbrev yit:Stmt:=top 59
theorem yjk:FnScope ["order","steps","size","found","turn","address","place","step"] ["order","steps","size"] (qac yit):=fsc
theorem ok_deeds(B:Bl mg)(F:FnAt K mg "deeds" yit ["order","steps","size"]):Has P w K mg base 1 "deeds" ["order","steps","size"] qg9:=by
 refine Has.ofQ F yjk (λvs H Q E h=>?_) (λ_ _ _ _ _ H vs Q E hr h=>?_)
 ·obtain ⟨o,S,ws,n,rfl,_⟩:=h
  rfl
 ·obtain ⟨o,S,ws,n,rfl,ho,hS,hw6,hn,k⟩:=h
  have sc:=yjk
  refine ⟨_,(qaf rfl (yab (qsE 3 sc.nd (qao qad))
   (yab (ya1 PassesOwn.never rfl (yea (qby rfl (B.of rfl) (qab (pv 2) yae))) (pgn 4 sc.nd)
    (yab (qsE 5 sc.nd (qe_mid (qd3 (qaj ya6 (qaa (pv 0)) (qaa qak) (yai _)) (qaa (pv 4)) (ybd yjc (ybd yjc (qaa (pv 2)) (qaa yad)) (qaa (pv 4))))))
    (yac (ya1 PassesOwn.never rfl (yea (qct rfl (B.of rfl) (qab (pv 1) yae))) (qcs rfl (yaj (pgn 6 sc.nd) (yaj (pgn 7 sc.nd) ya9)))
     (yac (qap (qaa (qdd PySem.F.plainAttrs_list PySem.F.slot_list_append PySem.F.type_list_append ya7 (pv 3) (qab (ybu (qab (pv 5) (qab (pv 6) (qab (pv 7) yae)))) yae)))))))))
   (yac (yah (qaa (pv 3))))))),?_⟩
  refine ⟨zero_le _,λD hD=>?_⟩
  have s0:=(smR H).upd (o:=.lst []) hD
  refine ⟨_,rfl,_,rfl,by omega,by omega,?_⟩
  rw[toNat_natCast]
  refine ycl (n:=n) (λi σ H2=>∃(us:List V) (o4 o5 o6 o7:Option V),σ=[some (.str o),some (.ref S),some (.int n),some (.ref D),o4,o5,o6,o7]/\Same H H2/\H2 D=some (.lst us)/\FT H2 us (((ydt (decide (o="up")) n).take i).flatMap (rowD ws))) ⟨[],none,none,none,none,rfl,s0,yaa,FT.nil⟩ ?_ ?_
  ·rintro i σ H2 hi ⟨us,o4,o5,o6,o7,rfl,s2,e2,ft⟩
   have hadr:=addrs_at (decide (o="up")) n hi
   obtain ⟨ad,had⟩:∃ad:Int,ad=(if decide (o="up")=true then (i:Int) else (n:Int)-1-i):=⟨_,rfl⟩
   rw[<-had]at hadr
   refine ⟨λv H'=>v=.int ad/\H'=H2,?_,?_⟩
   ·refine ⟨_,rfl,rfl,_,rfl,?_⟩
    rw[dS]
    by_cases hu:o="up"
    ·refine iteD hu ⟨_,rfl,?_,rfl⟩
     rw[had,if_pos (decide_eq_true hu),zero_add]
    ·refine qf2 hu ⟨_,rfl,_,_,rfl,rfl,_,rfl,_,_,rfl,rfl,?_,rfl⟩
     rw[had,if_neg (by simp[hu])]
     show V.int ((n:Int)-1-(0+(i:Int)))=_
     rw[zero_add]
   ·rintro v H3 ⟨rfl,rfl⟩
    have hlen:=ft.len
    rw[yhc]at hlen
    have htl:((ydt (decide (o="up")) n).take i).length<=64:=by rw[length_take];omega
    have hmul:((ydt (decide (o="up")) n).take i).length*ws.length<=64*6:=Nat.mul_le_mul htl hw6
    refine ⟨_,rfl,S,_,rfl,sqlO (s2 _ _ hS),ycd (xs:=ws) (λj σ H4=>∃(us:List V) (o6 o7:Option V),σ=[some (.str o),some (.ref S),some (.int n),some (.ref D),some (.int ((0:Int)+(i:Int))),some (.int ad),o6,o7]/\Same H H4/\H4 D=some (.lst us)/\FT H4 us (((ydt (decide (o="up")) n).take i).flatMap (rowD ws)++(rowD ws ad).take j)) ⟨us,_,_,rfl,s2,e2,by simpa using ft⟩ (λj σ H4 _ ⟨_,_,_,_,s4,_⟩=>sqlO (s4 _ _ hS)) ?_ ?_⟩
    ·rintro j x pp σ H4 hx ⟨us,o6,o7,rfl,s4,e4,ft4⟩ hpp
     have hj:=(List.getElem?_eq_some_iff.mp hx).1
     refine ⟨pp,_,rfl,sqtO yaa,rfl,_,_,rfl,_,_,rfl,rfl,?_⟩
     have s5:=(smR H4).upd (o:=.tup [V.int j,x]) hpp
     revert s5
     generalize upd H4 pp _=H5
     intro s5
     have e5:=s5 _ _ e4
     refine ⟨_,rfl,.inl ⟨rfl,_,sqlO e5⟩,_,rfl,_,rfl,_,rfl,zl,λq hq=>?_⟩
     have s6:=(smR H5).upd (o:=.tup [V.int ad,.int j,x]) hq
     have q6:=@yaa H5 q (.tup [V.int ad,.int j,x])
     revert s6 q6
     generalize upd H5 q _=H6
     intro s6 q6
     have l4:=ft4.len
     rw[length_append,yhc]at l4
     have hr6:((rowD ws ad).take j).length<=6:=by rw[length_take,qhd];omega
     have e6:=s6 _ _ e5
     refine ⟨D,us,_,rfl,rfl,e6,ybe (by omega),?_⟩
     refine ⟨us++[.ref q],_,_,rfl,((s4.trans s5).trans s6).at hD,yaa,?_⟩
     rw[yma ws ad hx,<-append_assoc]
     exact ((ft4.same (s5.trans s6)).snoc q6).put e6
    ·rintro σ H4 ⟨us,o6,o7,rfl,s4,e4,ft4⟩
     refine ⟨us,_,_,_,_,rfl,s4,e4,?_⟩
     rw[qkg _ ws n hadr]
     rw[show (rowD ws ad).take ws.length=rowD ws ad by rw[<-qhd ws ad,take_length]]at ft4
     exact ft4
  ·rintro σ H2 ⟨us,o4,o5,o6,o7,rfl,s2,e2,ft⟩
   refine ⟨_,rfl,k D us H2 s2 hD e2 ?_⟩
   have:(ydt (decide (o="up")) n).take n=ydt (decide (o="up")) n:=by
    rw[take_of_length_le];simp[ydt]
   rw[this]at ft
   exact ft
def yhk:PyData->Bool|.int _=>true|_=>false
def bitD:PyData->Bool|.int i=>decide (i=0\/i=1)|_=>false
def oneD(xs:List V):PyData->Bool|.str x=>inV (.str x) xs|_=>false
def yg2:Sp:=λvs H Q _=>∃v d,vs=[v]/\AtX H v d/\Q (.bl (yhk d)) H
theorem og_whole(B:Bl mg)(F:FnAt K mg "is_whole" ycq ["thing"]):Has P w K mg base 1 "is_whole" ["thing"] yg2:=by
 refine Has.ofQ F ycv (λvs H Q E h=>?_) (λ_ _ _ _ _ H vs Q E hr h=>?_)
 ·obtain ⟨v,d,rfl,_⟩:=h
  rfl
 ·obtain ⟨v,d,rfl,hv,q⟩:=h
  have sc:=ycv
  refine ⟨_,(qaf rfl (yac (yah (qaa (qa8 (qan qbb rfl (B.of rfl) boot_isinstance (qab (pv 0) (qab (qbl (v:=.ty "int") rfl (B.of rfl) boot_int rfl) yae))) (qbx (pe_not (qan qbb rfl (B.of rfl) boot_isinstance (qab (pv 0) (qab (qbl (v:=.ty "bool") rfl (B.of rfl) boot_bool rfl) yae)))))))))),?_⟩
  refine ⟨_,rfl,_,_,_,_,rfl,hv.ty,kit_int d,_,rfl,?_⟩
  cases hi:isInt d with
  |false=>
   have e:yhk d=false:=by cases d<;>first|rfl|cases hi
   rw[e]at q
   exact iteF q
  |true=>
   refine iteT ⟨_,rfl,_,_,_,_,rfl,hv.ty,kit_bl d,_,rfl,?_⟩
   have e:yhk d=!isBl d:=by cases d<;>first|rfl|cases hi
   rw[e]at q
   exact q
def ykx:Sp:=λvs H Q _=>∃v d,vs=[v]/\AtX H v d/\∀H',Same H H'->Q (.bl (bitD d)) H'
theorem og_bit(ybc:Has P w K mg base 1 "is_whole" ["thing"] yg2)(F:FnAt K mg "is_bit" yd9 ["thing"]):Has P w K mg base 2 "is_bit" ["thing"] ykx:=by
 refine Has.ofQ F qeb (λvs H Q E h=>?_) (λ_ _ _ _ _ H vs Q E hr h=>?_)
 ·obtain ⟨v,d,rfl,_⟩:=h
  rfl
 ·obtain ⟨v,d,rfl,hv,q⟩:=h
  have sc:=qeb
  refine ⟨_,(qaf rfl (yac (yah (qaa (qa8 (qam ybc hr (qab (pv 0) yae)) (qbx (ya4 ybw (pv 0) (ybu (qab yad (qab yad yae))) (by with_unfolding_all rfl)))))))),?_⟩
  refine ⟨_,rfl,v,d,rfl,hv,_,rfl,?_⟩
  cases hw:yhk d with
  |false=>
   have e:bitD d=false:=by cases d<;>first|rfl|cases hw
   rw[e]at q
   exact iteF (q H (smR H))
  |true=>
   obtain ⟨i,rfl⟩:∃i,d=.int i:=by cases d<;>first|exact ⟨_,rfl⟩|cases hw
   have ev:v=.int i:=by
    rcases hv with h|⟨e,_⟩
    ·exact h.intEq
    ·cases e
   subst ev
   refine iteT ⟨_,rfl,zl,λt ht=>⟨t,_,rfl,.inr (sqtO yaa),rfl,by decide,?_⟩⟩
   have e:inV (.int i) [.int 0,.int 1]=bitD (.int i):=by
    unfold bitD
    show ((0 == i)||((1 == i)||false))=_
    rw[Bool.eq_iff_iff,decide_eq_true_eq,Bool.or_false,Bool.or_eq_true,beq_iff_eq,beq_iff_eq]
    constructor
    ·rintro (h|h)
     ·exact .inl h.symm
     ·exact .inr h.symm
    ·rintro (h|h)
     ·exact .inl h.symm
     ·exact .inr h.symm
   show Q (.bl (inV (.int i) [.int 0,.int 1])) _
   rw[e]
   exact q _ ((smR H).upd ht)
def qhw(K:W.Frag):Sp:=λvs H Q _=>∃v d a xs,vs=[v,.ref a]/\AtX H v d/\(∀H',SqT K H' a xs)/\xs.all qdw=true/\Q (.bl (oneD xs d)) H
theorem og_one(B:Bl mg)(F:FnAt K mg "is_one_of" yd0 ["thing","words"]):Has P w K mg base 1 "is_one_of" ["thing","words"] (qhw K):=by
 refine Has.ofQ F qeu (λvs H Q E h=>?_) (λ_ _ _ _ _ H vs Q E hr h=>?_)
 ·obtain ⟨v,d,a,xs,rfl,_⟩:=h
  rfl
 ·obtain ⟨v,d,a,xs,rfl,hv,ha,hx,q⟩:=h
  have sc:=qeu
  refine ⟨_,(qaf rfl (yac (yah (qaa (qa8 (qan qbb rfl (B.of rfl) boot_isinstance (qab (pv 0) (qab (qbl (v:=.ty "str") rfl (B.of rfl) boot_str rfl) yae))) (qbx (ya4 ybw (pv 0) (pv 1) (by with_unfolding_all rfl)))))))),?_⟩
  refine ⟨_,rfl,_,_,_,_,rfl,hv.ty,qks d,_,rfl,?_⟩
  cases hs:isStr d with
  |false=>
   have e:oneD xs d=false:=by cases d<;>first|rfl|cases hs
   rw[e]at q
   exact iteF q
  |true=>
   obtain ⟨x,rfl⟩:∃x,d=.str x:=by cases d<;>first|exact ⟨_,rfl⟩|cases hs
   have ev:v=.str x:=by
    rcases hv with h|⟨e,_⟩
    ·exact h.strEq
    ·cases e
   subst ev
   exact iteT ⟨_,rfl,_,rfl,a,xs,rfl,.inr (ha _),rfl,hx,q⟩
def ymk:PyData->Bool|.int i=>decide (0<=i/\i<64)|_=>false
def qlh:Sp:=λvs H Q _=>∃v d,vs=[v]/\AtX H v d/\Q (.bl (ymk d)) H
theorem og_cell(qc8:∃t,mg "MOST_CELLS"=some (.int 64 t))(ybc:Has P w K mg base 1 "is_whole" ["thing"] yg2)(F:FnAt K mg "is_cell" yfj ["thing"]):Has P w K mg base 2 "is_cell" ["thing"] qlh:=by
 refine Has.ofQ F ygm (λvs H Q E h=>?_) (λ_ _ _ _ _ H vs Q E hr h=>?_)
 ·obtain ⟨v,d,rfl,_⟩:=h
  rfl
 ·obtain ⟨v,d,rfl,hv,q⟩:=h
  have sc:=ygm
  refine ⟨_,(qaf rfl (yac (yah (qaa (qa8 (qam ybc hr (qab (pv 0) yae)) (qa8 (ya4 qkb (pv 0) yad (yai _)) (qbx (ya4 op_lt (pv 0) (qes qc8) (yai _))))))))),?_⟩
  refine ⟨_,rfl,v,d,rfl,hv,_,rfl,?_⟩
  cases hw:yhk d with
  |false=>
   have e:ymk d=false:=by cases d<;>first|rfl|cases hw
   rw[e]at q
   exact iteF q
  |true=>
   obtain ⟨i,rfl⟩:∃i,d=.int i:=by cases d<;>first|exact ⟨_,rfl⟩|cases hw
   have ev:v=.int i:=by
    rcases hv with h|⟨e,_⟩
    ·exact h.intEq
    ·cases e
   subst ev
   have e:ymk (.int i)=decide (0<=i/\i<64):=rfl
   rw[e]at q
   refine iteT ⟨_,rfl,_,_,rfl,rfl,_,rfl,?_⟩
   by_cases h0:0<=i
   ·refine iteD h0 ⟨_,rfl,_,_,rfl,rfl,?_⟩
    rw[show decide (0<=i/\i<64)=decide (i<64) by simp[h0]]at q
    exact q
   ·refine qf2 h0 ?_
    rw[decide_eq_false (λz=>h0 z.1)]at q
    exact q
def yf4(nm:Str)(d:PyData):Bool:=if nm="cell" then ymk d else if nm="bit" then bitD d else oneD [.str "and",.str "or"] d
def ymu:Sp:=λvs H Q _=>∃nm v d,vs=[.str nm,v]/\AtX H v d/\∀H',Same H H'->Q (.bl (yf4 nm d)) H'
theorem og_part(yki:GTup K mg "JOININGS" [.str "and",.str "or"])(yl6:Has P w K mg base 2 "is_cell" ["thing"] qlh)(qc0:Has P w K mg base 2 "is_bit" ["thing"] ykx)(ybi:Has P w K mg base 1 "is_one_of" ["thing","words"] (qhw K))(F:FnAt K mg "is_part" yfp ["name","thing"]):Has P w K mg base 3 "is_part" ["name","thing"] ymu:=by
 refine Has.ofQ F ygl (λvs H Q E h=>?_) (λ_ _ _ _ _ H vs Q E hr h=>?_)
 ·obtain ⟨nm,v,d,rfl,_⟩:=h
  rfl
 ·obtain ⟨nm,v,d,rfl,hv,q⟩:=h
  have sc:=ygl
  refine ⟨_,(qaf rfl (yab (yao (qaj ya6 (qaa (pv 0)) (qaa qak) (yai _))
    (yac (yah (qah yl6 hr (yaf (qaa (pv 1)) qad))))
    yal)
   (yab (yao (qaj ya6 (qaa (pv 0)) (qaa qak) (yai _))
    (yac (yah (qah qc0 hr (yaf (qaa (pv 1)) qad))))
    yal)
   (yac (yah (qah ybi hr (yaf (qaa (pv 1)) (yaf (qaa (yg9 yki)) qad)))))))),?_⟩
  unfold yf4 at q
  refine ⟨_,rfl,rfl,_,rfl,?_⟩
  by_cases h1:nm="cell"
  ·rw[if_pos h1]at q
   exact iteB (by rw[h1];decide +kernel) ⟨_,rfl,v,d,rfl,hv,q H (smR H)⟩
  ·rw[if_neg h1]at q
   refine iteN (by simpa using h1) ⟨_,rfl,rfl,_,rfl,?_⟩
   by_cases h2:nm="bit"
   ·rw[if_pos h2]at q
    exact iteB (by rw[h2];decide +kernel) ⟨_,rfl,v,d,rfl,hv,q⟩
   ·rw[if_neg h2]at q
    exact iteN (by simpa using h2) ⟨_,rfl,λg hg=>⟨v,d,g,_,rfl,hv,hg,by decide,q H (smR H)⟩⟩
def yh4:PyData->Bool|.tuple (.str x::_)=>KTD.inKeys x tabP|_=>false
def qll:Sp:=λvs H Q _=>∃v d,vs=[v]/\AtX H v d/\Q (.bl (yh4 d)) H
theorem og_word(B:Bl mg){aP:Addr}(gP:mg "PARTS"=some (.ref aP))(TP:TabK K aP tabP)(F:FnAt K mg "has_word" yed ["thing"]):Has P w K mg base 1 "has_word" ["thing"] qll:=by
 refine Has.ofQ F qfb (λvs H Q E h=>?_) (λ_ _ _ _ _ H vs Q E hr h=>?_)
 ·obtain ⟨v,d,rfl,_⟩:=h
  rfl
 ·obtain ⟨v,d,rfl,hv,q⟩:=h
  have sc:=qfb
  refine ⟨_,(qaf rfl (yac (yah (qaa (qa8 (qan qbb rfl (B.of rfl) boot_isinstance (qab (pv 0) (qab (qbl (v:=.ty "tuple") rfl (B.of rfl) boot_tuple rfl) yae))) (qa8 (ya4 qhp (qan qai rfl (B.of rfl) boot_len (qab (pv 0) yae)) yad (yai _)) (qa8 (qan qbb rfl (B.of rfl) boot_isinstance (qab (qbe yam (pv 0) yad) (qab (qbl (v:=.ty "str") rfl (B.of rfl) boot_str rfl) yae))) (qbx (ya4 (op_inTab (D:=tabP)) (qbe yam (pv 0) yad) (qbm (v:=.ref aP) rfl gP rfl) (by with_unfolding_all rfl)))))))))),?_⟩
  refine ⟨_,rfl,_,_,_,_,rfl,hv.ty,qla d,_,rfl,?_⟩
  cases hs:isTup d with
  |false=>
   have e:yh4 d=false:=by cases d<;>first|rfl|cases hs
   rw[e]at q
   exact iteF q
  |true=>
   obtain ⟨ds,rfl⟩:∃ds,d=.tuple ds:=by cases d<;>first|exact ⟨_,rfl⟩|cases hs
   have hv':At H v (.tuple ds):=by
    rcases hv with h|⟨e,_⟩
    ·exact h
    ·cases e
   obtain ⟨a,vs,rfl,ha,hw⟩:=hv'.tupEq
   refine iteT ⟨_,rfl,a,_,rfl,.inr (sqtO ha),_,_,rfl,rfl,_,rfl,?_⟩
   cases hw with
   |nil=>exact qf2 (by simp) q
   |cons h1 rr=>
    rename_i x d1 xs ds1
    refine iteD (by simp) ?_
    refine ⟨_,rfl,a,_,_,_,rfl,rfl,sqtO ha,yaq 0 rfl,_,_,_,_,rfl,AtX.ty (.inl h1),qks d1,_,rfl,?_⟩
    cases hs1:isStr d1 with
    |false=>
     have e:yh4 (.tuple (d1::ds1))=false:=by cases d1<;>first|rfl|cases hs1
     rw[e]at q
     exact iteF q
    |true=>
     obtain ⟨o,rfl⟩:∃o,d1=.str o:=by cases d1<;>first|exact ⟨_,rfl⟩|cases hs1
     have:=h1.strEq
     subst this
     exact iteT ⟨_,rfl,a,_,_,_,rfl,rfl,sqtO ha,yaq 0 rfl,aP,o,rfl,rfl,TP,q⟩
structure okP(h:Hm)(ns:List Str):Prop where
 tab:KTD.datumAt h.w tabP=some (qa5 h.c.length ns)
 rest:Rest ns h.r
 cl:1<=h.c.length/\h.c.length<=2
 rl:ns.length<=2
 rg:∀x∈h.c,0<=x/\x<64
theorem okP.full{h:Hm}{ns:List Str}(o:okP h ns)(nd:h.c.Nodup):okH h ns:=⟨o.tab,o.rest,o.cl,o.rl,nd,o.rg⟩
theorem okP.len{h:Hm}{ns:List Str}(o:okP h ns):(h.c.map V.int++h.r).length=(qa5 h.c.length ns).length:=by
 unfold qa5
 simp[o.rest.len]
theorem okP.cellAt{h:Hm}{ns:List Str}(o:okP h ns){i:Nat}{x y:V}(hx:(qa5 h.c.length ns)[i]?=some x)(hy:(h.c.map V.int++h.r)[i]?=some y) :
  (x=.str "cell"/\∃c,h.c[i]?=some c/\y=.int c)\/(h.c.length<=i/\((x=.str "bit"/\bitV y)\/(x=.str "how"/\howV y))):=by
 unfold qa5 at hx
 by_cases hi:i<h.c.length
 ·rw[getElem?_append_left (by simpa using hi),List.getElem?_replicate,if_pos hi]at hx
  rw[getElem?_append_left (by simpa using hi)]at hy
  obtain ⟨c,hc,rfl⟩:=qbd hy
  exact .inl ⟨(Option.some.inj hx).symm,c,hc,rfl⟩
 ·rw[getElem?_append_right (by simpa using le_of_not_lt hi)]at hx
  rw[getElem?_append_right (by simpa using le_of_not_lt hi)]at hy
  simp only[List.length_replicate,length_map]at hx hy
  obtain ⟨n,hn,rfl⟩:=qbd hx
  rcases o.rest.get hn hy with ⟨rfl,hb⟩|⟨rfl,hb⟩
  ·exact .inr ⟨le_of_not_lt hi,.inl ⟨rfl,hb⟩⟩
  ·exact .inr ⟨le_of_not_lt hi,.inr ⟨rfl,hb⟩⟩
def qfx:Sp:=λvs H Q _=>∃v h ns,vs=[v]/\HAt H v h/\okP h ns/\∀D H',Same H H'->H D=none->H' D=some (.lst (h.c.map V.int))->Q (.ref D) H'
theorem yi6(B:Bl mg)(yds:mg "zip"=none){aP:Addr}(gP:mg "PARTS"=some (.ref aP))(TP:TabK K aP tabP)(F:FnAt K mg "cells_in" qcp ["harm"]):Has P w K mg base 1 "cells_in" ["harm"] qfx:=by
 refine Has.of F ycz (λvs H Q E h=>?_) (λ_ _ _ _ _ H vs Q E hr h=>?_)
 ·obtain ⟨v,h,ns,rfl,_⟩:=h
  rfl
 ·obtain ⟨v,h,ns,rfl,⟨a,rfl,ha⟩,ok,k⟩:=h
  have sc:=ycz
  refine ⟨_,(qax (yb6 (ybr rfl (yax rfl) (M:=["name","part"]) (ix:=[none,none]) (qj1 rfl yds (qab (qbe (qkr (D:=tabP)) (qbm (v:=.ref aP) rfl gP rfl) (qbe yam (pv 0) yad)) (qab (qdk ykt (pv 0) (qbh yad) yb8) yae))) (λ_ _ _ _=>(qel (K:=K) (n:=2) rfl rfl (yaj (qaz (i:=0) (show List.Nodup (["name","part"]:List Str) by decide +kernel) rfl (Or.inl rfl)) (yaj (qaz (i:=1) (show List.Nodup (["name","part"]:List Str) by decide +kernel) rfl (Or.inl rfl)) ya9)))) (λ_ _ _ _=>(qen (qb1 ya6 (pv 0) qak (yai _)))) (λ_ _ _ _=>(pv 1))))),?_⟩
  refine ⟨_,rfl,a,_,_,_,rfl,rfl,sqtO ha,yaq 0 rfl,aP,h.w,_,rfl,rfl,TP,ok.tab,λpn hpn=>?_⟩
  refine ⟨_,rfl,_,rfl,a,_,rfl,sqtO ha,ykw h,λq hq=>?_⟩
  rw[yjt]
  have s1:Same H (upd H q (.tup (h.c.map V.int++h.r))):=(smR H).upd hq
  have e1:=@yaa H q (.tup (h.c.map V.int++h.r))
  revert s1 e1
  generalize upd H q _=H1
  intro s1 e1
  refine ⟨true,true,pn,q,_,_,rfl,hpn _,sqtO e1,λD hD=>?_⟩
  refine qe6 (K:=K) (ok.len.symm) (λi H'=>Same H1 H'/\H' D=some (.lst ((h.c.take i).map V.int))) ⟨(smR H1).upd hD,yaa⟩ ?_ ?_ ?_
  ·rintro i H2 ⟨s2,e2⟩
   exact ⟨hpn _,sqtO (s2 _ _ e1)⟩
  ·rintro H2 ⟨s2,e2⟩
   rw[take_of_length_le (by simp[qa5])]at e2
   exact k D H2 (s1.trans s2) (s1.free hD) e2
  ·rintro i x y p H2 hx hy ⟨s2,e2⟩ hp
   have s3:Same H2 (upd H2 p (.tup [x,y])):=(smR H2).upd hp
   refine ⟨p,_,rfl,sqtO yaa,rfl,?_⟩
   revert s3
   generalize upd H2 p _=H3
   intro s3
   refine ⟨_,_,rfl,_,_,rfl,rfl,qa4.set (qa4.set (qa4.refl _) rfl) rfl,?_⟩
   rcases ok.cellAt hx hy with ⟨rfl,c,hc,rfl⟩|⟨hge,hh⟩
   ·refine ⟨_,rfl,rfl,_,rfl,iteB (by decide +kernel) ?_⟩
    refine ⟨_,rfl,_,s3 _ _ e2,ybe ?_,(s2.trans s3).at hD,?_⟩
    ·have:=ok.cl
     simp
     omega
    ·rw[yaa,take_add_one,hc];simp
   ·have hxn:∃nm,x=.str nm/\nm≠"cell":=by
     rcases hh with ⟨rfl,_⟩|⟨rfl,_⟩
     ·exact ⟨_,rfl,by decide +kernel⟩
     ·exact ⟨_,rfl,by decide +kernel⟩
    obtain ⟨nm,rfl,hnm⟩:=hxn
    refine ⟨_,rfl,rfl,_,rfl,iteN (by simpa using hnm) ?_⟩
    refine ⟨s2.trans s3,?_⟩
    rw[yhz hge]
    exact s3 _ _ e2
def ybj(x:Str):Nat:=if x∈[("turns" : Str),"sets","keeps","other","both"] then 2 else 1
theorem tab_is{x:Str}(h:KTD.inKeys x tabP=true):∃ns:List Str,KTD.datumAt x tabP=some (qa5 (ybj x) ns)/\ns.length<=2/\∀n∈ns,n="bit"\/n="how":=by
 have:x="stuck"\/x="slow"\/x="forgets"\/x="misreads"\/x="turns"\/x="sets"\/x="keeps"\/x="nowhere"\/x="other"\/x="both":=by
  simpa [tabP,KTD.inKeys] using h
 rcases this with rfl|rfl|rfl|rfl|rfl|rfl|rfl|rfl|rfl|rfl
 ·exact ⟨["bit"],by decide +kernel,by decide,by decide +kernel⟩
 ·exact ⟨["bit"],by decide +kernel,by decide,by decide +kernel⟩
 ·exact ⟨["bit"],by decide +kernel,by decide,by decide +kernel⟩
 ·exact ⟨["bit"],by decide +kernel,by decide,by decide +kernel⟩
 ·exact ⟨["bit"],by decide +kernel,by decide,by decide +kernel⟩
 ·exact ⟨["bit","bit"],by decide +kernel,by decide,by decide +kernel⟩
 ·exact ⟨["bit","bit"],by decide +kernel,by decide,by decide +kernel⟩
 ·exact ⟨["bit"],by decide +kernel,by decide,by decide +kernel⟩
 ·exact ⟨[],by decide +kernel,by decide,by decide +kernel⟩
 ·exact ⟨["how"],by decide +kernel,by decide,by decide +kernel⟩
def qbp:List Str->List PyData->Bool
 |[],[]=>true
 |n::ns,p::ps=>yf4 n p&&qbp ns ps
 |_,_=>false
theorem qgl:∀{nms:List Str}{ps:List PyData},qbp nms ps=true->ps.length=nms.length
 |[],[],_=>rfl
 |n::ns,p::ps,h=>by
  have h':(yf4 n p&&qbp ns ps)=true:=h
  rw[Bool.and_eq_true]at h'
  rw[length_cons,length_cons,qgl h'.2]
 |[],_::_,h=>by cases h
 |_::_,[],h=>by cases h
theorem ygk:∀{nms:List Str}{ps:List PyData},ps.length=nms.length->qbp nms ps=((nms.zip ps).map λx=>yf4 x.1 x.2).all id
 |[],[],_=>rfl
 |n::ns,p::ps,h=>by
  show (yf4 n p&&qbp ns ps)=_
  rw[ygk (nms:=ns) (ps:=ps) (by simpa using h)]
  rfl
 |[],_::_,h=>by cases h
 |_::_,[],h=>by cases h
def nmL(n:Nat)(ns:List Str):List Str:=List.replicate n ("cell" : Str)++ns
theorem qeo(n:Nat)(ns:List Str):qa5 n ns=(nmL n ns).map V.str:=by simp[qa5,nmL]
def intD:PyData->Int|.int i=>i|_=>0
def yb2(n:Nat)(ps:List PyData):List Int:=(ps.take n).map intD
theorem ylv{H:Hp}:∀{ns:List Str}{ps:List PyData}{ws:List V},(∀n∈ns,n="bit"\/n="how")->AtAll H ws ps->qbp ns ps=true->Rest ns ws
 |[],[],_,_,.nil,_=>.nil
 |n::ns,p::ps,_,hn,.cons a r,h=>by
  have h':(yf4 n p&&qbp ns ps)=true:=h
  rw[Bool.and_eq_true]at h'
  have ih:=ylv (λx hx=>hn x (mem_cons_of_mem _ hx)) r h'.2
  have hp:=h'.1
  unfold yf4 at hp
  rcases hn n (mem_cons_self ..) with rfl|rfl
  ·rw[if_neg (by decide +kernel),if_pos rfl]at hp
   obtain ⟨i,rfl⟩:∃i,p=.int i:=by cases p<;>first|exact ⟨_,rfl⟩|exact absurd hp (by simp[bitD])
   have:=a.intEq
   subst this
   have hi:i=0\/i=1:=of_decide_eq_true hp
   refine .bit ?_ ih
   rcases hi with rfl|rfl
   ·exact ⟨false,rfl⟩
   ·exact ⟨true,rfl⟩
  ·rw[if_neg (by decide +kernel),if_neg (by decide +kernel)]at hp
   obtain ⟨x,rfl⟩:∃x,p=.str x:=by cases p<;>first|exact ⟨_,rfl⟩|exact absurd hp (by simp[oneD])
   have:=a.strEq
   subst this
   refine .how ?_ ih
   have h1:inV (.str x) [.str "and",.str "or"]=true:=hp
   have e:∀{a b:Str},¬ b=a->eqV (V.str a) (V.str b)=false:=λ{a b} h=>by simp[eqV];exact λz=>h z.symm
   by_cases h0:x="and"
   ·exact .inl (by rw[h0])
   by_cases h2:x="or"
   ·exact .inr (by rw[h2])
   exfalso
   revert h1
   simp[inV,e h0,e h2]
 |[],_::_,_,_,_,h=>by cases h
 |_::_,[],_,_,_,h=>by cases h
theorem yjm{H:Hp}{ns:List Str}(hn:∀x∈ns,x="bit"\/x="how"):∀(n:Nat) {ps:List PyData}{ws:List V},AtAll H ws ps->qbp (nmL n ns) ps=true->
  ws=(yb2 n ps).map V.int++ws.drop n/\Rest ns (ws.drop n)/\(yb2 n ps).length=n/\∀x∈yb2 n ps,0<=x/\x<64
 |0,ps,ws,a,h=>⟨rfl,ylv hn a h,rfl,λx hx=>by cases hx⟩
 |n+1,[],ws,a,h=>by
  have h':qbp ("cell" :: nmL n ns) []=true:=h
  cases h'
 |n+1,p::ps,_,.cons a r,h=>by
  have h':(yf4 "cell" p&&qbp (nmL n ns) ps)=true:=h
  rw[Bool.and_eq_true]at h'
  obtain ⟨i1,i2,i3,i4⟩:=yjm hn n r h'.2
  have hp:=h'.1
  unfold yf4 at hp
  rw[if_pos rfl]at hp
  obtain ⟨i,rfl⟩:∃i,p=.int i:=by cases p<;>first|exact ⟨_,rfl⟩|exact absurd hp (by simp[ymk])
  have:=a.intEq
  subst this
  have hi:0<=i/\i<64:=of_decide_eq_true hp
  refine ⟨?_,i2,?_,λx hx=>?_⟩
  ·show _=V.int i::((yb2 n ps).map V.int++_)
   rw[List.drop_succ_cons,<-i1]
  ·show (intD (.int i)::yb2 n ps).length=_
   rw[length_cons,i3]
  ·have hx':x∈i::yb2 n ps:=hx
   rcases mem_cons.mp hx' with rfl|hx'
   ·exact hi
   ·exact i4 x hx'
theorem qhk(x:Str):1<=ybj x/\ybj x<=2:=by
 unfold ybj
 split<;>omega
theorem hm_of{H:Hp}{a:Addr}{x:Str}{ps:List PyData}{ws:List V}{ns:List Str}(ha:H a=some (.tup (.str x::ws)))(hw:AtAll H ws ps)(ht:KTD.datumAt x tabP=some (qa5 (ybj x) ns))(hl:ns.length<=2)(hn:∀n∈ns,n="bit"\/n="how")(hp:qbp (nmL (ybj x) ns) ps=true) :
  ∃h,HAt H (.ref a) h/\okP h ns/\h.c=yb2 (ybj x) ps:=by
 obtain ⟨i1,i2,i3,i4⟩:=yjm hn (ybj x) hw hp
 have:=qhk x
 refine ⟨⟨x,yb2 (ybj x) ps,ws.drop (ybj x)⟩,⟨a,rfl,?_⟩,⟨?_,i2,?_,hl,i4⟩,rfl⟩
 ·unfold hV
  rw[ha]
  show some (HO.tup (V.str x::ws))=some (HO.tup (V.str x::((yb2 (ybj x) ps).map V.int++ws.drop (ybj x))))
  rw[<-i1]
 ·show KTD.datumAt x tabP=some (qa5 (yb2 (ybj x) ps).length ns)
  rw[i3]
  exact ht
 ·show 1<=(yb2 (ybj x) ps).length/\(yb2 (ybj x) ps).length<=2
  rw[i3]
  exact this
theorem yjx:∀(c:List Int),c.length<=2->decide ((uniq c).length=c.length)=decide c.Nodup
 |[],_=>by rw[yig nodup_nil];rfl
 |[a],_=>by rw[yig (by simp)];simp
 |[a,b],_=>by
  by_cases h:a=b
  ·subst h
   have e:uniq [a,a]=[a]:=by simp[uniq,ya2]
   rw[e]
   simp
  ·have hn:[a,b].Nodup:=by simp[h]
   rw[yig hn,decide_eq_true hn]
   simp
 |_::_::_::_,h=>by simp at h
theorem qmm(u:V)(ws:List V):cutV (u::ws) (some 1) none=ws:=qec 1
theorem tail_ne1(u:V)(ws:List V):¬ (HT.sIx (u::ws).length 0 (some 1)=0/\HT.sIx (u::ws).length (u::ws).length none=(u::ws).length):=by
 rintro ⟨h0,_⟩
 unfold HT.sIx at h0
 simp at h0
def yjr:Sp:=λvs H Q _=>∃v x ps n ns,vs=[v]/\At H v (.tuple (.str x::ps))/\KTD.datumAt x tabP=some (qa5 n ns)/\n<=2/\ns.length<=2/\∀H',Same H H'->Q (.bl (qbp (nmL n ns) ps)) H'
theorem og_parts(B:Bl mg)(yds:mg "zip"=none)(qgu:mg "all"=none){aP:Addr}(gP:mg "PARTS"=some (.ref aP))(TP:TabK K aP tabP)(qmy:Has P w K mg base 3 "is_part" ["name","thing"] ymu)(F:FnAt K mg "has_parts" qdu ["thing"]):Has P w K mg base 4 "has_parts" ["thing"] yjr:=by
 refine Has.of F yey (λvs H Q E h=>?_) (λ_ _ _ _ _ H vs Q E hr h=>?_)
 ·obtain ⟨v,x,ps,n,ns,rfl,_⟩:=h
  rfl
 ·obtain ⟨v,x,ps,n,ns,rfl,hv,ht,hn2,hl2,k⟩:=h
  obtain ⟨a,vs,rfl,ha,hw⟩:=hv.tupEq
  cases hw with
  |cons h1 hw=>
  rename_i u ws
  have:=h1.strEq
  subst this
  have hwl:=hw.length
  have hnl:(nmL n ns).length=n+ns.length:=by simp[nmL]
  have hnm:(qa5 n ns).length=n+ns.length:=by rw[qeo,length_map,hnl]
  have sc:=yey
  refine ⟨_,(ya5 (pst 1 sc.nd (qbe (qkr (D:=tabP)) (qbm (v:=.ref aP) rfl gP rfl) (qbe yam (pv 0) yad)))
   (qax (yb6 (qa8 (ya4 ya6 (qan qai rfl (B.of rfl) boot_len (qab (pv 0) yae)) (ybb yc4 (qan qai rfl (B.of rfl) boot_len (qab (pv 1) yae)) yad) (yai _)) (qbx (qan (yfc rfl) rfl qgu yff (qab (ybr rfl (yax rfl) (M:=["name","part"]) (ix:=[none,none]) (qj1 rfl yds (qab (pv 1) (qab (qdk ykt (pv 0) (qbh yad) yb8) yae))) (λ_ _ _ _=>(qel (K:=K) (n:=2) rfl rfl (yaj (qaz (i:=0) (show List.Nodup (["name","part"]:List Str) by decide +kernel) rfl (Or.inl rfl)) (yaj (qaz (i:=1) (show List.Nodup (["name","part"]:List Str) by decide +kernel) rfl (Or.inl rfl)) ya9)))) (λ_ _ _ _=>ych) (λ_ _ _ _=>(qam qmy hr (qab (pv 0) (qab (pv 1) yae))))) yae))))))),?_⟩
  refine ⟨_,rfl,a,_,_,_,rfl,rfl,sqtO ha,yaq 0 rfl,aP,x,_,rfl,rfl,TP,ht,λpn hpn=>?_⟩
  refine ⟨_,rfl,a,_,rfl,.inr (sqtO ha),_,rfl,pn,_,rfl,.inr (hpn _),_,_,rfl,rfl,rfl,_,rfl,?_⟩
  by_cases hlen:ps.length=(nmL n ns).length
  rotate_left
  ·refine iteN (decide_eq_false (λz=>?_)) ?_
   ·have:=V.int.inj z
    rw[length_cons,hnm]at this
    omega
   ·have e:qbp (nmL n ns) ps=false:=by
     cases hb:qbp (nmL n ns) ps with
     |false=>rfl
     |true=>exact absurd (qgl hb) hlen
    rw[e]at k
    exact k H (smR H)
  refine iteB (decide_eq_true ?_) ?_
  ·congr 1
   rw[length_cons,hnm]
   omega
  refine ⟨_,rfl,_,rfl,_,rfl,a,_,rfl,sqtO ha,tail_ne1 _ _,λq hq=>?_⟩
  rw[qmm]
  have s1:Same H (upd H q (.tup ws)):=(smR H).upd hq
  have e1:=@yaa H q (.tup ws)
  revert s1 e1
  generalize upd H q _=H1
  intro s1 e1
  refine ⟨true,true,pn,q,_,_,rfl,hpn _,sqtO e1,λD hD=>?_⟩
  refine qe6 (K:=K) (xs:=qa5 n ns) (ys:=ws) (by omega) (λi H'=>Same H1 H'/\H' D=some (.lst (((((nmL n ns).zip ps).take i).map λz=>yf4 z.1 z.2).map V.bl))) ⟨(smR H1).upd hD,yaa⟩ ?_ ?_ ?_
  ·rintro i H2 ⟨s2,e2⟩
   exact ⟨hpn _,sqtO (s2 _ _ e1)⟩
  ·rintro H2 ⟨s2,e2⟩
   rw[take_of_length_le (by rw[length_zip];omega)]at e2
   refine ⟨D,_,rfl,e2,?_⟩
   rw[<-ygk hlen]
   exact k _ (s1.trans s2)
  ·rintro i xx y p H2 hx hy ⟨s2,e2⟩ hp
   rw[qeo]at hx
   obtain ⟨nm,hnm',rfl⟩:=qbd hx
   obtain ⟨dy,hdy,hay⟩:=hw.get hy
   have hi:i<n+ns.length:=by have:=(List.getElem?_eq_some_iff.mp hnm').1;omega
   have s3:Same H2 (upd H2 p (.tup [.str nm,y])):=(smR H2).upd hp
   refine ⟨p,_,rfl,sqtO yaa,rfl,?_⟩
   refine ⟨_,_,rfl,_,_,rfl,rfl,qa4.set (qa4.set (qa4.refl _) rfl) rfl,yes ?_⟩
   refine ⟨_,rfl,_,rfl,nm,y,dy,rfl,.inl (hay.same ((s1.trans s2).trans s3)),λH3 s4=>?_⟩
   have s23:Same H2 H3:=s3.trans s4
   refine ⟨_,s23 _ _ e2,ybe ?_,(s2.trans s23).at hD,?_⟩
   ·rw[length_map,length_map,length_take]
    omega
   ·rw[yaa,take_add_one,List.getElem?_zip_eq_some (z:=(nm,dy)) |>.mpr ⟨hnm',hdy⟩]
    simp
def nmOf(x:Str):List Str:=((KTD.datumAt x tabP).getD []).filterMap λv=>match v with|.str s=>some s|_=>none
theorem qly{x:Str}{n:Nat}{ns:List Str}(h:KTD.datumAt x tabP=some (qa5 n ns)):nmOf x=nmL n ns:=by
 unfold nmOf
 rw[h,qeo]
 show (List.map V.str (nmL n ns)).filterMap _=_
 rw[List.filterMap_map]
 exact List.filterMap_some
def yip:PyData->Bool
 |.tuple (.str x::ps)=>KTD.inKeys x tabP&&(qbp (nmOf x) ps&&decide (yb2 (ybj x) ps).Nodup)
 |_=>false
def yh1:PyData->List Int
 |.tuple (.str x::ps)=>yb2 (ybj x) ps
 |_=>[]
theorem ylo{d:PyData}(h:yh4 d=true):∃x ps,d=.tuple (.str x::ps)/\KTD.inKeys x tabP=true:=by
 match d,h with
 |.tuple (.str x::ps),h=>exact ⟨x,ps,rfl,h⟩
theorem noword{d:PyData}(h:yh4 d=false):yip d=false:=by
 match d with
 |.tuple (.str x::ps)=>
  have h':KTD.inKeys x tabP=false:=h
  show (KTD.inKeys x tabP&&_)=false
  rw[h']
  rfl
 |.tuple []=>rfl
 |.tuple (.none::_)=>rfl
 |.tuple (.bool _::_)=>rfl
 |.tuple (.int _::_)=>rfl
 |.tuple (.list _::_)=>rfl
 |.tuple (.tuple _::_)=>rfl
 |.tuple (.dict _::_)=>rfl
 |.none=>rfl
 |.bool _=>rfl
 |.int _=>rfl
 |.str _=>rfl
 |.list _=>rfl
 |.dict _=>rfl
theorem yk9{H:Hp}{v:V}{d:PyData}(hv:At H v d)(h:yip d=true):∃g ns,HAt H v g/\okH g ns/\g.c=yh1 d:=by
 have hw:yh4 d=true:=by
  cases hq:yh4 d with
  |true=>rfl
  |false=>rw[noword hq]at h;cases h
 obtain ⟨x,ps,rfl,hk⟩:=ylo hw
 have h':(KTD.inKeys x tabP&&(qbp (nmOf x) ps&&decide (yb2 (ybj x) ps).Nodup))=true:=h
 rw[Bool.and_eq_true,Bool.and_eq_true]at h'
 obtain ⟨ns,ht,hl,hn⟩:=tab_is hk
 obtain ⟨a,vs,rfl,ha,hwa⟩:=hv.tupEq
 cases hwa with
 |cons h1 hwa=>
 have:=h1.strEq
 subst this
 have hp:=h'.2.1
 rw[qly ht]at hp
 obtain ⟨g,hg,ok,hc⟩:=hm_of ha hwa ht hl hn hp
 exact ⟨g,ns,hg,ok.full (by rw[hc];exact of_decide_eq_true h'.2.2),hc⟩
def ymq:Sp:=λvs H Q _=>∃v d,vs=[v]/\AtX H v d/\∀H',Same H H'->Q (.bl (yip d)) H'
theorem og_harm(B:Bl mg)(yhf:mg "set"=none)(qj6:Has P w K mg base 1 "has_word" ["thing"] qll)(yim:Has P w K mg base 4 "has_parts" ["thing"] yjr)(qcm:Has P w K mg base 1 "cells_in" ["harm"] qfx)(F:FnAt K mg "is_harm" yfe ["thing"]):Has P w K mg base 5 "is_harm" ["thing"] ymq:=by
 refine Has.of F qgp (λvs H Q E h=>?_) (λ_ _ _ _ _ H vs Q E hr h=>?_)
 ·obtain ⟨v,d,rfl,_⟩:=h
  rfl
 ·obtain ⟨v,d,rfl,hv,k⟩:=h
  have sc:=qgp
  refine ⟨_,(ya5 (yie (PW.pt (pw_or (qgg (yeu (qam qj6 hr (qab (pv 0) yae)))) (ymj (qgg (yeu (qam yim hr (qab (pv 0) yae)))))))
    (qax (yb6 qf8))
    yeo)
   (ya5 (pst 1 sc.nd (qam qcm hr (qab (pv 0) yae)))
   (qax (yb6 (ya4 ya6 (qan qfa rfl (B.of rfl) boot_len (qab (yfy (yfh rfl) rfl yhf qfv (qab (pv 1) yae)) yae)) (qan qai rfl (B.of rfl) boot_len (qab (pv 1) yae)) (yai _)))))),?_⟩
  refine ⟨_,rfl,v,d,rfl,hv,_,rfl,?_⟩
  cases hw:yh4 d with
  |false=>
   rw[noword hw]at k
   exact iteT (iteT (k H (smR H)))
  |true=>
   refine iteF ?_
   obtain ⟨x,ps,rfl,hk⟩:=ylo hw
   have hv':At H v (.tuple (.str x::ps)):=by
    rcases hv with h|⟨e,_⟩
    ·exact h
    ·cases e
   obtain ⟨ns,ht,hl,hn⟩:=tab_is hk
   have eh:yip (.tuple (.str x::ps))=(KTD.inKeys x tabP&&(qbp (nmOf x) ps&&decide (yb2 (ybj x) ps).Nodup)):=rfl
   rw[eh,hk,qly ht,Bool.true_and]at k
   refine ⟨_,rfl,v,x,ps,_,ns,rfl,hv',ht,(qhk x).2,hl,λH1 s1=>⟨_,rfl,?_⟩⟩
   cases hp:qbp (nmL (ybj x) ns) ps with
   |false=>
    rw[hp]at k
    exact iteB rfl (k H1 s1)
   |true=>
    rw[hp,Bool.true_and]at k
    refine iteN rfl ?_
    obtain ⟨a,vs,rfl,ha,hwa⟩:=(hv'.same s1).tupEq
    cases hwa with
    |cons h1 hwa=>
    have:=h1.strEq
    subst this
    obtain ⟨g,hg,ok,hc⟩:=hm_of ha hwa ht hl hn hp
    refine ⟨_,rfl,_,g,ns,rfl,hg,ok,λD H2 s2 hD e2=>?_⟩
    refine ⟨_,rfl,D,g.c,rfl,e2,by have:=ok.cl;omega,λp hp=>?_⟩
    refine ⟨p,_,rfl,yaa,?_⟩
    have s3:Same H2 (upd H2 p (SetO P w p (uniq g.c))):=(smR H2).upd hp
    refine ⟨_,rfl,D,_,rfl,.inl (sqlO (s3 _ _ e2)),rfl,?_⟩
    rw[<-hc,<-yjx g.c ok.cl.2]at k
    have e:decide (V.int ((uniq g.c).length:Int)=V.int ((g.c.map V.int).length:Int))=decide ((uniq g.c).length=g.c.length):=by
     rw[length_map]
     apply decide_eq_decide.mpr
     constructor
     ·intro z;have:=V.int.inj z;omega
     ·intro z;rw[z]
    rw[e]
    exact k _ ((s1.trans s2).trans s3)
def optN:Option Nat->V|none=>.non|some n=>.int n
def accH(ds:List PyData)(i:Nat):List Int:=(ds.take i).flatMap yh1
def qdh(ds:List PyData)(i:Nat):Bool:=!(yip (ds.getD i .none))||decide (3<(uniq (accH ds (i+1))).length)
def yar:PyData->Option (Option Nat)
 |.list ds=>if 3<ds.length then some none else ((List.range ds.length).find? (qdh ds)).map some
 |_=>some none
theorem qfr{ds:List PyData}{i:Nat}(hl:¬ 3<ds.length)(hi:i<ds.length)(hb:qdh ds i=true)(ho:∀j,j<i->qdh ds j=false):yar (.list ds)=some (some i):=by
 show (if 3<ds.length then some none else ((List.range ds.length).find? (qdh ds)).map some)=_
 rw[if_neg hl,List.find?_range_eq_some.mpr ⟨hb,by simpa using hi,λj hj=>by rw[ho j hj];rfl⟩]
 rfl
theorem yi7{ds:List PyData}(hl:¬ 3<ds.length)(ho:∀j,j<ds.length->qdh ds j=false):yar (.list ds)=none:=by
 show (if 3<ds.length then some none else ((List.range ds.length).find? (qdh ds)).map some)=_
 rw[if_neg hl,List.find?_range_eq_none.mpr λj hj=>by rw[ho j hj];rfl]
 rfl
theorem ymc{ds:List PyData}{i:Nat}{d:PyData}(h:ds[i]?=some d):accH ds (i+1)=accH ds i++yh1 d:=by
 unfold accH
 rw[take_add_one,h,flatMap_append]
 simp
def qgx(C:Addr):Sp:=λvs H Q E=>∃v d,vs=[v]/\AtX H v d/\(yar d=none->∀H',Same H H'->Q .non H')/\(∀b,yar d=some b->∀a H',Same H H'->XAt H' a C [("number",optN b)]->E (.ref a) none H')
theorem og_harms{C:Addr}(B:Bl mg)(xH:qj7 P w K mg base "NoHarms" C ["self","number"] (sp_x1 C "number"))(yhf:mg "set"=none)(yib:∃t,mg "MOST_HARMS"=some (.int 3 t))(yha:∃t,mg "MOST_UNLIKE"=some (.int 3 t))(qlc:Has P w K mg base 5 "is_harm" ["thing"] ymq)(qcm:Has P w K mg base 1 "cells_in" ["harm"] qdt)
  (F:FnAt K mg "look_at_harms" qb9 ["thing"]):HasX P w K mg base 6 "look_at_harms" ["thing"] (qgx C):=by
 refine HasX.of F qc6 (λvs H Q E h=>?_) (λ_ _ _ _ _ H vs Q E hr h=>?_)
 ·obtain ⟨v,d,rfl,_⟩:=h
  rfl
 ·obtain ⟨v,d,rfl,hv,q1,q2⟩:=h
  have z1:1<=sizeLine:=by decide
  have sc:=qc6
  refine ⟨_,(qaf rfl (yab (yao (QW.pt (qi5 (ydd (qbq (qas qbb rfl (B.of rfl) boot_isinstance (yaf (qaa (pv 0)) (yaf (qaa (qbl (v:=.ty "list") rfl (B.of rfl) boot_list rfl)) qad))))) (qgn (qaj qhp (qas qai rfl (B.of rfl) boot_len (yaf (qaa (pv 0)) qad)) (qaa (qes yib)) (yai _)))))
    (yac (qdm (ycu (qko xH hr (qab qa6 yae)))))
    yal)
   (yab (qsE 1 sc.nd (qao qad))
   (yac (ya1 qea rfl (yea (qct rfl (B.of rfl) (qab (pv 0) yae))) (qcs rfl (yaj (pgn 2 sc.nd) (yaj (pgn 3 sc.nd) ya9)))
    (yab (yao (ydd (qbq (qah qlc hr (yaf (qaa (pv 3)) qad))))
     (yac (qdm (ycu (qko xH hr (qab (pv 2) yae)))))
     yal)
    (yab (qap (qaa (qdd PySem.F.plainAttrs_list PySem.F.slot_list_extend PySem.F.type_list_extend qfk (pv 1) (qab (qam qcm hr (qab (pv 3) yae)) yae))))
    (yac (yao (qaj qhp (qas qfa rfl (B.of rfl) boot_len (qd7 (qa9 (yfh rfl) rfl yhf qfv (yaf (qaa (pv 1)) qad)) qad)) (qaa (qes yha)) (yai _))
     (yac (qdm (ycu (qko xH hr (qab (pv 2) yae)))))
     yal))))))))),?_⟩
  have hraise:∀{H1:Hp}{a:Addr} (b:Option Nat),yar d=some b->Same H H1->H1 a=none->∀dd H4,XD H4 a C (some dd) [("number",optN b)]->SetX a dd none (upd H1 a (.ext (yb3 a C none))) H4->(∃a' C' dx,V.ref a=V.ref a'/\XTy K C'/\H4 a'=some (.ext (yb3 a' C' dx))/\E (.ref a') none (upd H4 a' (.ext (ycj a' C' dx)))):=λ{H1 a} b hb s1 ha dd H4 x4 s4=>by
   obtain ⟨r1,r2,r3⟩:=qgz ha x4 s4
   exact ⟨a,C,some dd,rfl,xH.2.2.1.toXTy,r1,q2 b hb a _ (s1.trans r2) r3⟩
  refine ⟨_,rfl,_,_,_,_,rfl,hv.ty,yiy d,_,rfl,?_⟩
  cases hs:isLst d with
  |false=>
   have e:yar d=some none:=by cases d<;>first|rfl|cases hs
   refine iteT (iteT ⟨z1,λa ha=>⟨a,_,rfl,.inl ⟨rfl,rfl,yaa⟩,λdd H1 x1 s1=>⟨rfl,?_⟩⟩⟩)
   exact hraise none e (smR H) ha dd H1 x1 s1
  |true=>
   obtain ⟨ds,rfl⟩:∃ds,d=.list ds:=by cases d<;>first|exact ⟨_,rfl⟩|cases hs
   have hv':At H v (.list ds):=by
    rcases hv with h|⟨e,_⟩
    ·exact h
    ·cases e
   obtain ⟨L,us,rfl,hL,hu⟩:=hv'.lstEq
   have hul:=hu.length
   refine iteF ⟨_,rfl,L,us,rfl,.inl (sqlO hL),_,_,rfl,rfl,_,rfl,?_⟩
   by_cases h3:3<ds.length
   ·have e:yar (.list ds)=some none:=by
     show (if 3<ds.length then some none else _)=_
     rw[if_pos h3]
    refine iteD (by omega) ⟨z1,λa ha=>⟨a,_,rfl,.inl ⟨rfl,rfl,yaa⟩,λdd H1 x1 s1=>⟨rfl,?_⟩⟩⟩
    exact hraise none e (smR H) ha dd H1 x1 s1
   refine qf2 (by omega) ?_
   refine ⟨zero_le _,λp hp=>?_⟩
   have npL:L≠p:=qae hL hp
   refine ⟨_,rfl,L,us,rfl,sqlO (by rw[qag npL];exact hL),ycd (xs:=us) (λi σ H2=>∃(o2 o3:Option V),σ=[some (.ref L),some (.ref p),o2,o3]/\Same H H2/\H2 p=some (.lst ((accH ds i).map V.int))/\(accH ds i).length<=2*i/\∀j,j<i->qdh ds j=false)
    ⟨none,none,rfl,(smR H).upd hp,yaa,le_refl _,λj hj=>absurd hj (by omega)⟩ (λi σ H2 _ ⟨_,_,_,h,_⟩=>sqlO (h _ _ hL)) ?_ ?_⟩
   ·rintro i x pp σ H2 hx ⟨o2,o3,rfl,s2,e2,l2,ho⟩ hpp
    obtain ⟨dx,hdx,hat⟩:=hu.get hx
    have hil:i<ds.length:=(List.getElem?_eq_some_iff.mp hdx).1
    have hget:ds.getD i .none=dx:=by rw[getD_eq_getElem?_getD,hdx];rfl
    have sP:Same H2 (upd H2 pp (.tup [.int i,x])):=(smR H2).upd hpp
    refine ⟨pp,_,rfl,sqtO yaa,rfl,_,_,rfl,_,_,rfl,rfl,?_⟩
    refine ⟨_,rfl,x,dx,rfl,.inl (hat.same (s2.trans sP)),λH3 s3=>⟨_,rfl,?_⟩⟩
    have s23:Same H2 H3:=sP.trans s3
    cases hb:yip dx with
    |false=>
     have e:yar (.list ds)=some (some i):=qfr h3 hil (by unfold qdh;rw[hget,hb];rfl) ho
     refine iteT ⟨_,rfl,z1,λa ha=>⟨a,_,rfl,.inl ⟨rfl,rfl,yaa⟩,λdd H1 x1 s1=>⟨rfl,?_⟩⟩⟩
     exact hraise (some i) e (s2.trans s23) ha dd H1 x1 s1
    |true=>
     refine iteF ?_
     obtain ⟨g,ns,hg,ok,hc⟩:=yk9 (hat.same (s2.trans s23)) hb
     refine ⟨_,rfl,.inl ⟨rfl,_,sqlO (s23 _ _ e2)⟩,?_⟩
     refine ⟨_,rfl,x,g,ns,rfl,hg,ok,λD H4 s4 hD eD=>?_⟩
     have s24:=s23.trans s4
     have hcl:=ok.cl.2
     have ea:accH ds (i+1)=accH ds i++g.c:=by rw[ymc hdx,hc]
     have hlt:(accH ds (i+1)).length<=2*(i+1):=by rw[ea,length_append];omega
     refine ⟨p,D,_,_,rfl,rfl,s24 _ _ e2,eD,?_,?_⟩
     ·rw[length_map,length_map]
      exact le_of_lt (ybe (by omega))
     rw[<-map_append,<-ea]
     have s5:Same H (upd H4 p (.lst ((accH ds (i+1)).map V.int))):=(s2.trans s24).at hp
     have e5:=@yaa H4 p (.lst ((accH ds (i+1)).map V.int))
     revert s5 e5
     generalize upd H4 p _=H5
     intro s5 e5
     refine ⟨_,rfl,p,_,rfl,e5,by omega,λq hq=>?_⟩
     have s6:Same H5 (upd H5 q (SetO P w q (uniq (accH ds (i+1))))):=(smR H5).upd hq
     refine ⟨q,_,rfl,yaa,_,_,rfl,rfl,_,rfl,?_⟩
     by_cases hu3:3<(uniq (accH ds (i+1))).length
     ·have e:yar (.list ds)=some (some i):=qfr h3 hil (by unfold qdh;rw[hget,hb,decide_eq_true hu3];rfl) ho
      refine iteD (by omega) ⟨_,rfl,z1,λa ha=>⟨a,_,rfl,.inl ⟨rfl,rfl,yaa⟩,λdd H1 x1 s1=>⟨rfl,?_⟩⟩⟩
      exact hraise (some i) e (s5.trans s6) ha dd H1 x1 s1
     ·refine qf2 (by omega) ⟨_,_,rfl,s5.trans s6,s6 _ _ e5,hlt,λj hj=>?_⟩
      by_cases ej:j=i
      ·subst ej
       unfold qdh
       rw[hget,hb,decide_eq_false hu3]
       rfl
      ·exact ho j (by omega)
   ·rintro σ H2 ⟨o2,o3,rfl,s2,e2,l2,ho⟩
    exact q1 (yi7 h3 λj hj=>ho j (by omega)) _ s2
theorem hs_of{H:Hp}:∀{us:List V}{ds:List PyData},AtAll H us ds->(∀d∈ds,yip d=true)->∃hs,HsV H us hs/\(∀h∈hs,∃ns,okH h ns)/\allC hs=ds.flatMap yh1/\hs.length=ds.length
 |[],[],.nil,_=>⟨[],⟨rfl,λi v h h1=>by simp at h1⟩,λh hh=>(by cases hh),rfl,rfl⟩
 |u::us,d::ds,.cons a r,hd=>by
  obtain ⟨hs,h1,h2,h3,h4⟩:=hs_of r λx hx=>hd x (mem_cons_of_mem _ hx)
  obtain ⟨g,ns,hg,ok,hc⟩:=yk9 a (hd d (mem_cons_self ..))
  refine ⟨g::hs,⟨by simp[h1.len],λi v h e1 e2=>?_⟩,λh hh=>?_,?_,by simp[h4]⟩
  ·cases i with
   |zero=>cases e1;cases e2;exact hg
   |succ i=>exact h1.at_ i v h e1 e2
  ·rcases mem_cons.mp hh with rfl|hh
   ·exact ⟨ns,ok⟩
   ·exact h2 h hh
  ·unfold allC at h3 ⊢
   rw[flatMap_cons,flatMap_cons,h3,hc]
def yj0:PyData->List Int|.list ds=>ds.flatMap yh1|_=>[]
theorem yko{H:Hp}{v:V}{d:PyData}(hv:AtX H v d)(hb:yar d=none):∃L us hs S,v=.ref L/\H L=some (.lst us)/\HsV H us hs/\okHs hs S/\allC hs=yj0 d:=by
 obtain ⟨ds,rfl⟩:∃ds,d=.list ds:=by cases d<;>first|exact ⟨_,rfl⟩|cases hb
 have hv':At H v (.list ds):=by
  rcases hv with h|⟨e,_⟩
  ·exact h
  ·cases e
 obtain ⟨L,us,rfl,hL,hu⟩:=hv'.lstEq
 have hb':(if 3<ds.length then some none else ((List.range ds.length).find? (qdh ds)).map some)=none:=hb
 by_cases h3:3<ds.length
 ·rw[if_pos h3]at hb';cases hb'
 rw[if_neg h3]at hb'
 have hn:(List.range ds.length).find? (qdh ds)=none:=by
  cases hz:(List.range ds.length).find? (qdh ds) with
  |none=>rfl
  |some i=>rw[hz]at hb';cases hb'
 have hall:=List.find?_range_eq_none.mp hn
 have hbad:∀i,i<ds.length->qdh ds i=false:=λi hi=>by
  have:=hall i hi
  cases hz:qdh ds i with
  |false=>rfl
  |true=>rw[hz]at this;cases this
 obtain ⟨hs,h1,h2,h4,h5⟩:=hs_of hu λx hx=>by
  obtain ⟨i,hi⟩:=getElem?_of_mem hx
  have hil:=(List.getElem?_eq_some_iff.mp hi).1
  have:=hbad i hil
  unfold qdh at this
  rw[getD_eq_getElem?_getD,hi]at this
  rw[Bool.or_eq_false_iff]at this
  simpa using this.1
 refine ⟨L,us,hs,uniq (allC hs),rfl,hL,h1,⟨by omega,h2,?_,λh hh c hc=>?_⟩,h4⟩
 ·rw[h4]
  cases hz:ds.length with
  |zero=>
   have:ds=[]:=List.length_eq_zero_iff.mp hz
   rw[this]
   decide
  |succ n=>
   have:=hbad n (by omega)
   unfold qdh at this
   rw[Bool.or_eq_false_iff]at this
   have h6:=of_decide_eq_false this.2
   unfold accH at h6
   rw[take_of_length_le (by omega)]at h6
   omega
 ·exact (yjo _ c).mpr (mem_flatMap.mpr ⟨h,hh,hc⟩)
def qfd(C:Addr):Sp:=λvs H Q E=>∃v d,vs=[v]/\AtX H v d/\(yar d=none->∀(D:Addr) (ns:List Int) (H':Hp),Same H H'->H D=none->H' D=some (.lst (ns.map V.int))->ns.Perm (uniq (yj0 d))->ns.Pairwise (·<=·)->Q (.ref D) H')/\(∀b,yar d=some b->∀a H',Same H H'->XAt H' a C [("number",optN b)]->E (.ref a) none H')
theorem yij{C:Addr}(B:Bl mg)(yhf:mg "set"=none)(yb5:HasX P w K mg base 6 "look_at_harms" ["thing"] (qgx C))(qcm:Has P w K mg base 1 "cells_in" ["harm"] qdt)(F:FnAt K mg "cells_of" yee ["harms"]):HasX P w K mg base 7 "cells_of" ["harms"] (qfd C):=by
 refine HasX.of F qfg (λvs H Q E h=>?_) (λ_ _ _ _ _ H vs Q E hr h=>?_)
 ·obtain ⟨v,d,rfl,_⟩:=h
  rfl
 ·obtain ⟨v,d,rfl,hv0,k,kx⟩:=h
  have sc:=qfg
  refine ⟨_,(qaf rfl (yab (qap (qaa (qcw yb5 yi9 hr (qab (pv 0) yae))))
   (yab (qsE 1 sc.nd (qao qad))
   (yab (ya1 qea rfl (qbi (qaa (pv 0))) (pgn 2 sc.nd)
    (yac (qap (qaa (qdd PySem.F.plainAttrs_list PySem.F.slot_list_extend PySem.F.type_list_extend qfk (pv 1) (qab (qam qcm hr (qab (pv 2) yae)) yae))))))
   (yac (yah (qas (qh0 rfl) rfl (B.of rfl) yet (qd7 (qa9 (yfh rfl) rfl yhf qfv (yaf (qaa (pv 1)) qad)) qad)))))))),?_⟩
  refine ⟨_,rfl,v,d,rfl,hv0,λhb H1 s1=>?_,kx⟩
  obtain ⟨L,us,hs,S,rfl,hL,hv,ok,hA⟩:=yko hv0 hb
  refine ⟨zero_le _,λp hp=>?_⟩
  have hp0:H p=none:=s1.free hp
  have npL:L≠p:=qae hL hp0
  refine ⟨_,rfl,L,rfl,⟨us,sqlO (by rw[qag npL];exact s1 _ _ hL)⟩,qb3 (xs:=us) (λi σ H2=>∃(o2:Option V),σ=[some (.ref L),some (.ref p),o2]/\Same H H2/\H2 p=some (.lst ((allC (hs.take i)).map V.int)))
   ⟨none,rfl,s1.upd hp,yaa⟩ (λi σ H2 _ ⟨_,_,h,_⟩=>sqlO (h _ _ hL)) ?_ ?_⟩
  ·rintro i x σ H2 hx ⟨o2,rfl,s2,e2⟩
   obtain ⟨g,hg,hat⟩:=hv.get hx
   obtain ⟨ns,og⟩:=ok.ok g (mem_of_getElem? hg)
   refine ⟨_,rfl,.inl ⟨rfl,_,sqlO e2⟩,?_⟩
   refine ⟨_,rfl,x,g,ns,rfl,HAt.same s2 hat,og,λD H4 s4 hD eD=>?_⟩
   have hsub:∀h∈hs.take (i+1),h∈hs:=λh hh=>List.mem_of_mem_take hh
   have hlt:(allC (hs.take (i+1))).length<=6:=by
    have h1:=ok.clen hsub
    have h2:=ok.len
    rw[length_take]at h1
    omega
   refine ⟨p,D,_,_,rfl,rfl,s4 _ _ e2,eD,?_,?_⟩
   ·rw[<-length_append,<-map_append,<-qib hg,length_map]
    exact le_of_lt (ybe (by omega))
   rw[<-map_append,<-qib hg]
   exact ⟨_,rfl,(s2.trans s4).at hp0,yaa⟩
  ·rintro σ H2 ⟨o2,rfl,s2,e2⟩
   rw[hv.len,take_length]at e2
   have hc:=ok.clen (l:=hs) (λh hh=>hh)
   have h3:=ok.len
   refine ⟨_,rfl,p,_,rfl,e2,by omega,λq hq=>?_⟩
   have s6:Same H2 (upd H2 q (SetO P w q (uniq (allC hs)))):=(smR H2).upd hq
   refine ⟨q,_,rfl,yaa,by have:=ok.few (l:=hs) (λh hh=>hh);omega,λl ns hl hpm hso=>?_⟩
   exact k hb l ns _ ((s2.trans s6).upd hl) ((s2.trans s6).free hl) yaa (by rw[<-hA];exact hpm) hso
def yg5:PyData->Bool|.tuple [_,_]=>true|_=>false
def yek(n:Int):PyData->Bool|.list ds=>decide (0<ds.length/\(ds.length:Int)<=n)|_=>false
def yhv:PyData->Bool|.tuple [a,b]=>oneD [.str "r",.str "w"] a&&bitD b|_=>false
def qdr:PyData->Bool|.tuple [a,b]=>oneD [.str "up",.str "down",.str "any"] a&&yek 6 b|_=>false
def yih:Sp:=λvs H Q _=>∃v d,vs=[v]/\AtX H v d/\Q (.bl (yg5 d)) H
theorem og_pair(B:Bl mg)(F:FnAt K mg "is_pair" qf4 ["thing"]):Has P w K mg base 1 "is_pair" ["thing"] yih:=by
 refine Has.ofQ F qgi (λvs H Q E h=>?_) (λ_ _ _ _ _ H vs Q E hr h=>?_)
 ·obtain ⟨v,d,rfl,_⟩:=h
  rfl
 ·obtain ⟨v,d,rfl,hv,q⟩:=h
  have sc:=qgi
  refine ⟨_,(qaf rfl (yac (yah (qaa (qa8 (qan qbb rfl (B.of rfl) boot_isinstance (qab (pv 0) (qab (qbl (v:=.ty "tuple") rfl (B.of rfl) boot_tuple rfl) yae))) (qbx (ya4 ya6 (qan qai rfl (B.of rfl) boot_len (qab (pv 0) yae)) yad (yai _)))))))),?_⟩
  refine ⟨_,rfl,_,_,_,_,rfl,hv.ty,qla d,_,rfl,?_⟩
  cases hs:isTup d with
  |false=>
   have e:yg5 d=false:=by cases d<;>first|rfl|cases hs
   rw[e]at q
   exact iteF q
  |true=>
   obtain ⟨ds,rfl⟩:∃ds,d=.tuple ds:=by cases d<;>first|exact ⟨_,rfl⟩|cases hs
   have hv':At H v (.tuple ds):=by
    rcases hv with h|⟨e,_⟩
    ·exact h
    ·cases e
   obtain ⟨a,vs,rfl,ha,hw⟩:=hv'.tupEq
   have hl:=hw.length
   refine iteT ⟨_,rfl,a,_,rfl,.inr (sqtO ha),rfl,?_⟩
   have e:decide (V.int (vs.length:Int)=V.int 2)=yg5 (.tuple ds):=by
    rw[hl]
    match ds with
    |[]=>decide
    |[_]=>rfl
    |[_,_]=>rfl
    |_::_::_::r=>
     show decide _=false
     refine decide_eq_false (λz=>?_)
     have:=V.int.inj z
     simp at this
     omega
   rw[e]
   exact q
def qi7:Sp:=λvs H Q _=>∃v d n,vs=[v,.int n]/\AtX H v d/\Q (.bl (yek n d)) H
theorem og_fill(B:Bl mg)(F:FnAt K mg "is_filled" ydy ["thing","most"]):Has P w K mg base 1 "is_filled" ["thing","most"] qi7:=by
 refine Has.ofQ F qez (λvs H Q E h=>?_) (λ_ _ _ _ _ H vs Q E hr h=>?_)
 ·obtain ⟨v,d,n,rfl,_⟩:=h
  rfl
 ·obtain ⟨v,d,n,rfl,hv,q⟩:=h
  have sc:=qez
  refine ⟨_,(qaf rfl (yac (yah (qaa (qa8 (qan qbb rfl (B.of rfl) boot_isinstance (qab (pv 0) (qab (qbl (v:=.ty "list") rfl (B.of rfl) boot_list rfl) yae))) (qa8 (ya4 qhp (qan qai rfl (B.of rfl) boot_len (qab (pv 0) yae)) yad (yai _)) (qbx (ya4 op_le (qan qai rfl (B.of rfl) boot_len (qab (pv 0) yae)) (pv 1) (yai _))))))))),?_⟩
  refine ⟨_,rfl,_,_,_,_,rfl,hv.ty,yiy d,_,rfl,?_⟩
  cases hs:isLst d with
  |false=>
   have e:yek n d=false:=by cases d<;>first|rfl|cases hs
   rw[e]at q
   exact iteF q
  |true=>
   obtain ⟨ds,rfl⟩:∃ds,d=.list ds:=by cases d<;>first|exact ⟨_,rfl⟩|cases hs
   have hv':At H v (.list ds):=by
    rcases hv with h|⟨e,_⟩
    ·exact h
    ·cases e
   obtain ⟨a,vs,rfl,ha,hw⟩:=hv'.lstEq
   have hl:=hw.length
   have ef:yek n (.list ds)=decide (0<ds.length/\(ds.length:Int)<=n):=rfl
   rw[ef]at q
   refine iteT ⟨_,rfl,a,_,rfl,.inl (sqlO ha),_,_,rfl,rfl,_,rfl,?_⟩
   by_cases h0:0<ds.length
   ·refine iteD (by omega) ?_
    refine ⟨_,rfl,a,_,rfl,.inl (sqlO ha),_,rfl,_,_,rfl,rfl,?_⟩
    have e:decide (0<ds.length/\(ds.length:Int)<=n)=decide ((vs.length:Int)<=n):=by rw[hl];simp[h0]
    rw[e]at q
    exact q
   ·refine qf2 (by omega) ?_
    rw[decide_eq_false (λz=>h0 z.1)]at q
    exact q
theorem qiu{H:Hp}{v:V}{d:PyData}(hv:AtX H v d)(hp:yg5 d=true):∃a x y dx dy,d=.tuple [dx,dy]/\v=.ref a/\H a=some (.tup [x,y])/\At H x dx/\At H y dy:=by
 match d,hp with
 |.tuple [dx,dy],_=>
  have hv':At H v (.tuple [dx,dy]):=by
   rcases hv with h|⟨e,_⟩
   ·exact h
   ·cases e
  obtain ⟨a,vs,rfl,ha,hw⟩:=hv'.tupEq
  cases hw with
  |cons h1 r=>
   cases r with
   |cons h2 r=>
    cases r
    exact ⟨a,_,_,dx,dy,rfl,rfl,ha,h1,h2⟩
theorem yem{d:PyData}(h:yg5 d=false):yhv d=false/\qdr d=false:=by
 match d with
 |.tuple [_,_]=>cases h
 |.tuple []=>exact ⟨rfl,rfl⟩
 |.tuple [_]=>exact ⟨rfl,rfl⟩
 |.tuple (_::_::_::_)=>exact ⟨rfl,rfl⟩
 |.none=>exact ⟨rfl,rfl⟩
 |.bool _=>exact ⟨rfl,rfl⟩
 |.int _=>exact ⟨rfl,rfl⟩
 |.str _=>exact ⟨rfl,rfl⟩
 |.list _=>exact ⟨rfl,rfl⟩
 |.dict _=>exact ⟨rfl,rfl⟩
def yl4:Sp:=λvs H Q _=>∃v d,vs=[v]/\AtX H v d/\∀H',Same H H'->Q (.bl (yhv d)) H'
theorem og_step(yfd:GTup K mg "LETTERS" [.str "r",.str "w"])(qfz:Has P w K mg base 1 "is_pair" ["thing"] yih)(ybi:Has P w K mg base 1 "is_one_of" ["thing","words"] (qhw K))(qc0:Has P w K mg base 2 "is_bit" ["thing"] ykx)
  (F:FnAt K mg "is_step" qff ["thing"]):Has P w K mg base 3 "is_step" ["thing"] yl4:=by
 refine Has.ofQ F qgh (λvs H Q E h=>?_) (λ_ _ _ _ _ H vs Q E hr h=>?_)
 ·obtain ⟨v,d,rfl,_⟩:=h
  rfl
 ·obtain ⟨v,d,rfl,hv,q⟩:=h
  have sc:=qgh
  refine ⟨_,(qaf rfl (yac (yah (qaa (qa8 (qam qfz hr (qab (pv 0) yae)) (qa8 (qam ybi hr (qab (qbe yam (pv 0) yad) (qab (yg9 yfd) yae))) (qbx (qam qc0 hr (qab (qbe yam (pv 0) yad) yae))))))))),?_⟩
  refine ⟨_,rfl,v,d,rfl,hv,_,rfl,?_⟩
  cases hp:yg5 d with
  |false=>
   rw[(yem hp).1]at q
   exact iteF (q H (smR H))
  |true=>
   obtain ⟨a,x,y,dx,dy,rfl,rfl,ha,h1,h2⟩:=qiu hv hp
   refine iteT ⟨_,rfl,a,_,_,_,rfl,rfl,sqtO ha,rfl,λg hg=>⟨_,dx,g,_,rfl,.inl h1,hg,by decide,_,rfl,?_⟩⟩
   have e:yhv (.tuple [dx,dy])=(oneD [.str "r",.str "w"] dx&&bitD dy):=rfl
   rw[e]at q
   cases ho:oneD [.str "r",.str "w"] dx with
   |false=>
    rw[ho]at q
    exact iteF (q H (smR H))
   |true=>
    rw[ho]at q
    exact iteT ⟨_,rfl,a,_,_,_,rfl,rfl,sqtO ha,rfl,_,dy,rfl,.inl h2,q⟩
def yjv:Sp:=λvs H Q _=>∃v d,vs=[v]/\AtX H v d/\Q (.bl (qdr d)) H
theorem og_frame(qhc:GTup K mg "ORDERS" [.str "up",.str "down",.str "any"])(qej:∃t,mg "MOST_IN_ELEMENT"=some (.int 6 t))(qfz:Has P w K mg base 1 "is_pair" ["thing"] yih)(ybi:Has P w K mg base 1 "is_one_of" ["thing","words"] (qhw K))(ydx:Has P w K mg base 1 "is_filled" ["thing","most"] qi7)
  (F:FnAt K mg "is_framed" ydw ["thing"]):Has P w K mg base 2 "is_framed" ["thing"] yjv:=by
 refine Has.ofQ F yez (λvs H Q E h=>?_) (λ_ _ _ _ _ H vs Q E hr h=>?_)
 ·obtain ⟨v,d,rfl,_⟩:=h
  rfl
 ·obtain ⟨v,d,rfl,hv,q⟩:=h
  have sc:=yez
  refine ⟨_,(qaf rfl (yac (yah (qaa (qa8 (qam qfz hr (qab (pv 0) yae)) (qa8 (qam ybi hr (qab (qbe yam (pv 0) yad) (qab (yg9 qhc) yae))) (qbx (qam ydx hr (qab (qbe yam (pv 0) yad) (qab (qes qej) yae)))))))))),?_⟩
  refine ⟨_,rfl,v,d,rfl,hv,_,rfl,?_⟩
  cases hp:yg5 d with
  |false=>
   rw[(yem hp).2]at q
   exact iteF q
  |true=>
   obtain ⟨a,x,y,dx,dy,rfl,rfl,ha,h1,h2⟩:=qiu hv hp
   refine iteT ⟨_,rfl,a,_,_,_,rfl,rfl,sqtO ha,rfl,λg hg=>⟨_,dx,g,_,rfl,.inl h1,hg,by decide,_,rfl,?_⟩⟩
   have e:qdr (.tuple [dx,dy])=(oneD [.str "up",.str "down",.str "any"] dx&&yek 6 dy):=rfl
   rw[e]at q
   cases ho:oneD [.str "up",.str "down",.str "any"] dx with
   |false=>
    rw[ho]at q
    exact iteF q
   |true=>
    rw[ho]at q
    exact iteT ⟨_,rfl,a,_,_,_,rfl,rfl,sqtO ha,rfl,_,dy,6,rfl,.inl h2,q⟩
def qcv(ds:List PyData):Option Nat:=ds.findIdx? (λx=>!yhv x)
def stepsD:PyData->List PyData|.tuple [_,.list ds]=>ds|_=>[]
def ycf(d:PyData):Option (Option Nat):=if qdr d=true then (qcv (stepsD d)).map some else some none
theorem frame_at{H:Hp}{v:V}{d:PyData}(hv:AtX H v d)(hf:qdr d=true):∃a l ws o ds,d=.tuple [.str o,.list ds]/\v=.ref a/\H a=some (.tup [.str o,.ref l])/\H l=some (.lst ws)/\AtAll H ws ds/\okO o/\1<=ds.length/\ds.length<=6:=by
 have hp:yg5 d=true:=by
  cases hq:yg5 d with
  |true=>rfl
  |false=>rw[(yem hq).2]at hf;cases hf
 obtain ⟨a,x,y,dx,dy,rfl,rfl,ha,h1,h2⟩:=qiu hv hp
 have e:qdr (.tuple [dx,dy])=(oneD [.str "up",.str "down",.str "any"] dx&&yek 6 dy):=rfl
 rw[e,Bool.and_eq_true]at hf
 obtain ⟨o,rfl⟩:∃o,dx=.str o:=by
  cases dx<;>first|exact ⟨_,rfl⟩|exact absurd hf.1 (by simp[oneD])
 obtain ⟨ds,rfl⟩:∃ds,dy=.list ds:=by
  cases dy<;>first|exact ⟨_,rfl⟩|exact absurd hf.2 (by simp[yek])
 obtain ⟨l,ws,rfl,hl,hw⟩:=h2.lstEq
 have:=h1.strEq
 subst this
 have h3:0<ds.length/\(ds.length:Int)<=6:=of_decide_eq_true hf.2
 refine ⟨a,l,ws,o,ds,rfl,rfl,ha,hl,hw,?_,by omega,by omega⟩
 have h4:inV (.str o) [.str "up",.str "down",.str "any"]=true:=hf.1
 have e:∀{a b:Str},¬ b=a->eqV (V.str a) (V.str b)=false:=λ{a b} h=>by simp[eqV];exact λz=>h z.symm
 by_cases h0:o="up"
 ·exact .inl h0
 by_cases h1:o="down"
 ·exact .inr (.inl h1)
 by_cases h2:o="any"
 ·exact .inr (.inr h2)
 exfalso
 revert h4
 simp[inV,e h0,e h1,e h2]
def ql6(C:Addr):Sp:=λvs H Q E=>∃n:Nat,∃v d,vs=[.int n,v]/\AtX H v d/\(ycf d=none->∀H',Same H H'->Q .non H')/\(∀s,ycf d=some s->∀a H',Same H H'->XAt H' a C [("element",.int n),("step",optN s)]->E (.ref a) none H')
theorem og_elem{C:Addr}(B:Bl mg)(xT:qj7 P w K mg base "NoTest" C ["self","element","step"] (sp_x2 C "element" "step"))(qig:Has P w K mg base 2 "is_framed" ["thing"] yjv)(qmx:Has P w K mg base 3 "is_step" ["thing"] yl4)(F:FnAt K mg "look_at_element" ybq ["number","thing"]) :
  HasX P w K mg base 4 "look_at_element" ["number","thing"] (ql6 C):=by
 refine HasX.of F qcc (λvs H Q E h=>?_) (λ_ _ _ _ _ H vs Q E hr h=>?_)
 ·obtain ⟨n,v,d,rfl,_⟩:=h
  rfl
 ·obtain ⟨n,v,d,rfl,hv,q1,q2⟩:=h
  have z2:2<=sizeLine:=by decide
  have sc:=qcc
  refine ⟨_,(qaf rfl (yab (yao (ydd (qbq (qah qig hr (yaf (qaa (pv 1)) qad))))
    (yac (qdm (ycu (qko xT hr (qab (pv 0) (qab qa6 yae))))))
    yal)
   (yac (ya1 qea rfl (yea (qct rfl (B.of rfl) (qab (qbe yam (pv 1) yad) yae))) (qcs rfl (yaj (pgn 2 sc.nd) (yaj (pgn 3 sc.nd) ya9)))
    (yac (yao (ydd (qbq (qah qmx hr (yaf (qaa (pv 3)) qad))))
     (yac (qdm (ycu (qko xT hr (qab (pv 0) (qab (pv 2) yae))))))
     yal)))))),?_⟩
  refine ⟨_,rfl,v,d,rfl,hv,_,rfl,?_⟩
  have hraise:∀{H1:Hp}{a:Addr} (s:Option Nat),ycf d=some s->Same H H1->H1 a=none->∀dd H4,XD H4 a C (some dd) [("element",.int n),("step",optN s)]->SetX a dd none (upd H1 a (.ext (yb3 a C none))) H4->(∃a' C' dx,V.ref a=V.ref a'/\XTy K C'/\H4 a'=some (.ext (yb3 a' C' dx))/\E (.ref a') none (upd H4 a' (.ext (ycj a' C' dx)))):=λ{H1 a} s hb s1 ha dd H4 x4 s4=>by
   obtain ⟨r1,r2,r3⟩:=qgz ha x4 s4
   exact ⟨a,C,some dd,rfl,xT.2.2.1.toXTy,r1,q2 s hb a _ (s1.trans r2) r3⟩
  cases hf:qdr d with
  |false=>
   refine iteT ⟨_,rfl,z2,λa ha=>⟨a,_,_,rfl,.inl ⟨rfl,rfl,yaa⟩,λdd H1 x1 s1=>⟨rfl,?_⟩⟩⟩
   exact hraise none (by unfold ycf;rw[hf];rfl) (smR H) ha dd H1 x1 s1
  |true=>
   refine iteF ?_
   obtain ⟨a,l,ws,o,ds,rfl,rfl,ha,hl,hw,oo,l1,l6⟩:=frame_at hv hf
   have hwl:=hw.length
   have he:ycf (.tuple [.str o,.list ds])=(qcv ds).map some:=by unfold ycf;rw[if_pos hf];rfl
   refine ⟨_,rfl,a,_,_,_,rfl,rfl,sqtO ha,rfl,l,ws,rfl,sqlO hl,ycd (xs:=ws) (λi σ H2=>∃p q,σ=[some (.int n),some (.ref a),p,q]/\Same H H2/\∀j,j<i->∀x,ds[j]?=some x->yhv x=true) ⟨none,none,rfl,smR _,λj hj=>absurd hj (by omega)⟩
    (λi σ H2 _ ⟨_,_,_,s2,_⟩=>sqlO (s2 _ _ hl)) ?_ ?_⟩
   ·rintro i x p σ H2 hx ⟨_,_,rfl,s2,hok⟩ hp
    obtain ⟨dd,hd,hat⟩:=hw.get hx
    have s3:Same H (upd H2 p (.tup [.int i,x])):=s2.upd hp
    refine ⟨p,_,rfl,sqtO yaa,rfl,_,_,rfl,_,_,rfl,rfl,?_⟩
    refine ⟨_,rfl,x,dd,rfl,.inl (hat.same s3),λH3 s4=>⟨_,rfl,?_⟩⟩
    cases hs:yhv dd with
    |true=>
     refine iteF ⟨_,_,rfl,s3.trans s4,λj hj y hy=>?_⟩
     by_cases e:j=i
     ·subst e;rw[hd]at hy;cases hy;exact hs
     ·exact hok j (by omega) y hy
    |false=>
     have hb:qcv ds=some i:=by
      unfold qcv
      rw[List.findIdx?_eq_some_iff_getElem]
      obtain ⟨hi,e⟩:=List.getElem?_eq_some_iff.mp hd
      refine ⟨hi,by rw[e,hs];rfl,λj hj=>?_⟩
      have:=hok j hj _ (getElem?_eq_getElem (by omega))
      rw[this];exact λz=>by cases z
     refine iteT ⟨_,rfl,_,rfl,z2,λa' ha'=>⟨a',_,_,rfl,.inl ⟨rfl,rfl,yaa⟩,λd4 H4 x4 s4'=>⟨rfl,?_⟩⟩⟩
     exact hraise (some i) (by rw[he,hb];rfl) (s3.trans s4) ha' d4 H4 x4 s4'
   ·rintro σ H2 ⟨_,_,rfl,s2,hok⟩
    refine q1 ?_ H2 s2
    rw[he]
    have:qcv ds=none:=by
     unfold qcv
     rw[List.findIdx?_eq_none_iff]
     intro x hx
     obtain ⟨j,hj⟩:=getElem?_of_mem hx
     have hjl:=(List.getElem?_eq_some_iff.mp hj).1
     rw[hok j (by omega) x hj];rfl
    rw[this];rfl
abbrev Bad:=Option Nat×Option Nat
def ybl:Nat->List PyData->Option Bad
 |_,[]=>none
 |n,x::xs=>match ycf x with|some s=>some (some n,s)|none=>ybl (n+1) xs
def lstD:PyData->List PyData|.list ds=>ds|_=>[]
def ya0(d:PyData):Option Bad:=if yek 8 d=true then ybl 0 (lstD d) else some (none,none)
theorem yft:∀(ds:List PyData) (n i:Nat) (x:PyData) (s:Option Nat),ds[i]?=some x->(∀j,j<i->∀y,ds[j]?=some y->ycf y=none)->ycf x=some s->ybl n ds=some (some (n+i),s)
 |[],n,i,x,s,h,_,_=>by simp at h
 |y::ys,n,0,x,s,h,_,hb=>by
  cases h
  unfold ybl
  rw[hb]
  rfl
 |y::ys,n,i+1,x,s,h,ho,hb=>by
  unfold ybl
  rw[ho 0 (by omega) y rfl]
  show ybl (n+1) ys=_
  rw[yft ys (n+1) i x s h (λj hj z hz=>ho (j+1) (by omega) z hz) hb]
  rw[show n+1+i=n+(i+1) by omega]
theorem yc0:∀(ds:List PyData) (n:Nat),(∀y∈ds,ycf y=none)->ybl n ds=none
 |[],_,_=>rfl
 |y::ys,n,h=>by
  unfold ybl
  rw[h y (mem_cons_self ..)]
  exact yc0 ys (n+1) λz hz=>h z (mem_cons_of_mem _ hz)
def yhd(C:Addr):Sp:=λvs H Q E=>∃v d,vs=[v]/\AtX H v d/\(ya0 d=none->∀H',Same H H'->Q .non H')/\(∀b,ya0 d=some b->∀a H',Same H H'->XAt H' a C [("element",optN b.1),("step",optN b.2)]->E (.ref a) none H')
theorem og_look{C:Addr}(B:Bl mg)(xT:qj7 P w K mg base "NoTest" C ["self","element","step"] (sp_x2 C "element" "step"))(qga:∃t,mg "MOST_IN_TEST"=some (.int 8 t))(ydx:Has P w K mg base 1 "is_filled" ["thing","most"] qi7)(yej:HasX P w K mg base 4 "look_at_element" ["number","thing"] (ql6 C))
  (F:FnAt K mg "look_at_test" ycg ["thing"]):HasX P w K mg base 5 "look_at_test" ["thing"] (yhd C):=by
 refine HasX.of F qc7 (λvs H Q E h=>?_) (λ_ _ _ _ _ H vs Q E hr h=>?_)
 ·obtain ⟨v,s,rfl,_⟩:=h
  rfl
 ·obtain ⟨v,d,rfl,hv,q1,q2⟩:=h
  have z2:2<=sizeLine:=by decide
  have sc:=qc7
  refine ⟨_,(qaf rfl (yab (yao (ydd (qbq (qah ydx hr (yaf (qaa (pv 0)) (yaf (qaa (qes qga)) qad)))))
    (yac (qdm (ycu (qko xT hr (qab qa6 (qab qa6 yae))))))
    yal)
   (yac (ya1 qea rfl (yea (qct rfl (B.of rfl) (qab (pv 0) yae))) (qcs rfl (yaj (pgn 1 sc.nd) (yaj (pgn 2 sc.nd) ya9)))
    (yac (qap (qaa (qcw yej yi9 hr (qab (pv 1) (qab (pv 2) yae)))))))))),?_⟩
  refine ⟨_,rfl,v,d,8,rfl,hv,_,rfl,?_⟩
  cases hf:yek 8 d with
  |false=>
   refine iteT ⟨z2,λa ha=>⟨a,_,_,rfl,.inl ⟨rfl,rfl,yaa⟩,λdd H1 x1 s1=>⟨rfl,?_⟩⟩⟩
   obtain ⟨r1,r2,r3⟩:=qgz ha x1 s1
   exact ⟨a,C,some dd,rfl,xT.2.2.1.toXTy,r1,q2 (none,none) (by unfold ya0;rw[hf];rfl) a _ r2 r3⟩
  |true=>
   refine iteF ?_
   obtain ⟨ds,rfl⟩:∃ds,d=.list ds:=by
    cases d<;>first|exact ⟨_,rfl⟩|exact absurd hf (by simp[yek])
   have hv':At H v (.list ds):=by
    rcases hv with h|⟨e,_⟩
    ·exact h
    ·cases e
   obtain ⟨l,ws,rfl,hl,hw⟩:=hv'.lstEq
   have he:ya0 (.list ds)=ybl 0 ds:=by unfold ya0;rw[if_pos hf];rfl
   rw[he]at q1 q2
   refine ⟨_,rfl,l,ws,rfl,sqlO hl,ycd (xs:=ws) (λi σ H2=>∃p q,σ=[some (.ref l),p,q]/\Same H H2/\∀j,j<i->∀x,ds[j]?=some x->ycf x=none) ⟨none,none,rfl,smR _,λj hj=>absurd hj (by omega)⟩
    (λi σ H2 _ ⟨_,_,_,s2,_⟩=>sqlO (s2 _ _ hl)) ?_ ?_⟩
   ·rintro i x p σ H2 hx ⟨_,_,rfl,s2,hok⟩ hp
    obtain ⟨dd,hd,hat⟩:=hw.get hx
    have s3:Same H (upd H2 p (.tup [.int i,x])):=s2.upd hp
    refine ⟨p,_,rfl,sqtO yaa,rfl,_,_,rfl,_,_,rfl,rfl,?_⟩
    refine ⟨_,rfl,_,rfl,i,x,dd,rfl,.inl (hat.same s3),λhn H3 s4=>?_,λs hs a' H3 s4 hx'=>?_⟩
    ·refine ⟨_,_,rfl,s3.trans s4,λj hj y hy=>?_⟩
     by_cases e:j=i
     ·subst e;rw[hd]at hy;cases hy;exact hn
     ·exact hok j (by omega) y hy
    ·have:=yft ds 0 i dd s hd hok hs
     rw[Nat.zero_add]at this
     exact q2 _ this a' H3 (s3.trans s4) hx'
   ·rintro σ H2 ⟨_,_,rfl,s2,hok⟩
    refine q1 (yc0 ds 0 λx hx=>?_) H2 s2
    obtain ⟨j,hj⟩:=getElem?_of_mem hx
    have hjl:=(List.getElem?_eq_some_iff.mp hj).1
    exact hok j (by have:=hw.length;omega) x hj
def ybv(e:Elm):PyData->Bool|.str s=>inV (.str s) [.str "up",.str "down"]&&inV (.str e.1) [.str "any",.str s]|_=>false
def ordB(T:List Elm):PyData->Bool|.list ds=>decide (ds.length=T.length)&&(List.zipWith ybv T ds).all id|_=>false
def yjg:Sp:=λvs H Q _=>∃v u e d,vs=[v,u]/\At H v (yeh e)/\AtX H u d/\∀H',Same H H'->Q (.bl (ybv e d)) H'
theorem og_order(yiv:GTup K mg "TAKEN" [.str "up",.str "down"])(ybi:Has P w K mg base 1 "is_one_of" ["thing","words"] (qhw K))(F:FnAt K mg "is_order_for" qcg ["element","thing"]):Has P w K mg base 2 "is_order_for" ["element","thing"] yjg:=by
 refine Has.of F qdb (λvs H Q E h=>?_) (λ_ _ _ _ _ H vs Q E hr h=>?_)
 ·obtain ⟨v,u,e,d,rfl,_⟩:=h
  rfl
 ·obtain ⟨v,u,e,d,rfl,hv,hu,k⟩:=h
  obtain ⟨a,l,ws,rfl,ha,hl,hw⟩:=qeq hv
  have sc:=qdb
  refine ⟨_,(qax (yb6 (qa8 (qam ybi hr (qab (pv 1) (qab (yg9 yiv) yae))) (qbx (ya4 ybw (qbe yam (pv 0) yad) (ybu (qab qak (qab (pv 1) yae))) (by with_unfolding_all rfl)))))),?_⟩
  refine ⟨_,rfl,λaT hT=>⟨u,d,aT,_,rfl,hu,hT,rfl,_,rfl,?_⟩⟩
  cases ho:oneD [.str "up",.str "down"] d with
  |false=>
   have e1:ybv e d=false:=by
    cases d<;>first|rfl|(show (inV _ _&&_)=false;rw[show inV (.str _) [.str "up",.str "down"]=false from ho];rfl)
   rw[e1]at k
   exact iteF (k H (smR H))
  |true=>
   obtain ⟨s',rfl⟩:∃s,d=.str s:=by cases d<;>first|exact ⟨_,rfl⟩|cases ho
   have eu:u=.str s':=by
    rcases hu with h|⟨e,_⟩
    ·exact h.strEq
    ·cases e
   subst eu
   refine iteT ⟨_,rfl,a,_,_,_,rfl,rfl,sqtO ha,yaq 0 rfl,_,rfl,zl,λp hp=>⟨p,_,rfl,.inr (sqtO yaa),rfl,rfl,?_⟩⟩
   show Q (.bl (inV (.str e.1) [.str "any",.str s'])) _
   have e2:ybv e (.str s')=inV (.str e.1) [.str "any",.str s']:=by
    show (inV (.str s') [.str "up",.str "down"]&&_)=_
    rw[show inV (.str s') [.str "up",.str "down"]=true from ho,Bool.true_and]
   rw[e2]at k
   exact k _ ((smR H).upd hp)
def yh8:Sp:=λvs H Q _=>∃t v T d,vs=[.ref t,v]/\At H (.ref t) (qci T)/\okT T/\AtX H v d/\∀H',Same H H'->Q (.bl (ordB T d)) H'
theorem yl8(B:Bl mg)(yds:mg "zip"=none)(qgu:mg "all"=none)(qf7:Has P w K mg base 2 "is_order_for" ["element","thing"] yjg)(F:FnAt K mg "are_orders" qc9 ["test","thing"]):Has P w K mg base 3 "are_orders" ["test","thing"] yh8:=by
 refine Has.of F yd5 (λvs H Q E h=>?_) (λ_ _ _ _ _ H vs Q E hr h=>?_)
 ·obtain ⟨t,v,T,d,rfl,_⟩:=h
  rfl
 ·obtain ⟨t,v,T,d,rfl,ht,okt,hv,k⟩:=h
  obtain ⟨l,ws,hre,hl,hw⟩:=ht.lstEq
  cases hre
  have hwl:ws.length=T.length:=by have:=hw.length;rw[length_map]at this;exact this
  have hT8:=okt.2.1
  have sc:=yd5
  refine ⟨_,(ya5 (yie (PW.pt (pw_or (qgg (yeu (qan qbb rfl (B.of rfl) boot_isinstance (qab (pv 1) (qab (qbl (v:=.ty "list") rfl (B.of rfl) boot_list rfl) yae))))) (ymj (qb1 yhw (qan qai rfl (B.of rfl) boot_len (qab (pv 1) yae)) (qan qai rfl (B.of rfl) boot_len (qab (pv 0) yae)) (yai _)))))
    (qax (yb6 qf8))
    yeo)
   (qax (yb6 (qan (yfc rfl) rfl qgu yff (qab (ybr rfl (yax rfl) (M:=["element","order"]) (ix:=[none,none]) (qj1 rfl yds (qab (pv 0) (qab (pv 1) yae))) (λ_ _ _ _=>(qel (K:=K) (n:=2) rfl rfl (yaj (qaz (i:=0) (show List.Nodup (["element","order"]:List Str) by decide +kernel) rfl (Or.inl rfl)) (yaj (qaz (i:=1) (show List.Nodup (["element","order"]:List Str) by decide +kernel) rfl (Or.inl rfl)) ya9)))) (λ_ _ _ _=>ych) (λ_ _ _ _=>(qam qf7 hr (qab (pv 0) (qab (pv 1) yae))))) yae))))),?_⟩
  refine ⟨_,rfl,_,_,_,_,rfl,hv.ty,yiy d,_,rfl,?_⟩
  cases hs:isLst d with
  |false=>
   have e:ordB T d=false:=by cases d<;>first|rfl|cases hs
   rw[e]at k
   exact iteT (iteT (k H (smR H)))
  |true=>
   obtain ⟨ds,rfl⟩:∃ds,d=.list ds:=by cases d<;>first|exact ⟨_,rfl⟩|cases hs
   have hv':At H v (.list ds):=by
    rcases hv with h|⟨e,_⟩
    ·exact h
    ·cases e
   obtain ⟨O,us,rfl,hO,hu⟩:=hv'.lstEq
   have hul:=hu.length
   have es:ordB T (.list ds)=(decide (ds.length=T.length)&&(List.zipWith ybv T ds).all id):=rfl
   rw[es]at k
   refine iteF ?_
   refine ⟨_,rfl,O,_,rfl,.inl (sqlO hO),_,rfl,t,_,rfl,.inl (sqlO hl),rfl,_,rfl,?_⟩
   by_cases hle:ds.length=T.length
   rotate_left
   ·rw[decide_eq_false hle]at k
    exact iteB (by rw[hul,hwl];simp;omega) (k H (smR H))
   rw[decide_eq_true hle,Bool.true_and]at k
   refine iteN (by rw[hul,hwl,hle];simp) ?_
   refine ⟨_,rfl,_,rfl,false,false,t,O,ws,us,rfl,sqlO hl,sqlO hO,λD hD=>?_⟩
   refine qe6 (K:=K) (xs:=ws) (ys:=us) (by omega) (λi H'=>Same H H'/\H' D=some (.lst (((List.zipWith ybv T ds).take i).map V.bl))) ⟨(smR H).upd hD,yaa⟩ ?_ ?_ ?_
   ·rintro i H2 ⟨s2,e2⟩
    exact ⟨sqlO (s2 _ _ hl),sqlO (s2 _ _ hO)⟩
   ·rintro H2 ⟨s2,e2⟩
    rw[hwl,take_of_length_le (by rw[List.length_zipWith];omega)]at e2
    exact ⟨D,_,rfl,e2,k _ s2⟩
   ·rintro i x y p H2 hx hy ⟨s2,e2⟩ hp
    obtain ⟨d,hd,hat⟩:=hw.get hx
    obtain ⟨e,he,rfl⟩:=qbd hd
    obtain ⟨dy,hdy,hay⟩:=hu.get hy
    refine ⟨p,_,rfl,sqtO yaa,rfl,?_⟩
    refine ⟨_,_,rfl,_,_,rfl,rfl,qa4.set (qa4.set (qa4.refl _) rfl) rfl,yes ?_⟩
    have s3:=s2.upd (o:=.tup [x,y]) hp
    refine ⟨_,rfl,_,rfl,x,y,e,dy,rfl,hat.same s3,.inl (hay.same s3),λH3 s4=>?_⟩
    have s23:Same H2 H3:=((smR H2).upd hp).trans s4
    have hi:=(List.getElem?_eq_some_iff.mp hx).1
    refine ⟨_,s23 _ _ e2,ybe (by rw[length_map,length_take];omega),(s2.trans s23).at hD,?_⟩
    have hz:(List.zipWith ybv T ds)[i]?=some (ybv e dy):=by
     rw[List.getElem?_zipWith,he,hdy]
    rw[yaa,take_add_one,hz,map_append];rfl
def qdj(CO:Addr):Sp:=λvs H Q E=>∃t v T d,vs=[.ref t,v]/\At H (.ref t) (qci T)/\okT T/\AtX H v d/\(ordB T d=true->∀H',Same H H'->Q .non H')/\(ordB T d=false->∀a H',Same H H'->XAt H' a CO []->E (.ref a) none H')
theorem yj6{CO:Addr}(xO:XBare K mg "NoOrders" CO)(yhy:Has P w K mg base 3 "are_orders" ["test","thing"] yh8)(F:FnAt K mg "look_at_orders" qbz ["test","thing"]):HasX P w K mg base 4 "look_at_orders" ["test","thing"] (qdj CO):=by
 refine HasX.of F ycp (λvs H Q E h=>?_) (λ_ _ _ _ _ H vs Q E hr h=>?_)
 ·obtain ⟨t,v,T,d,rfl,_⟩:=h
  rfl
 ·obtain ⟨t,v,T,d,rfl,ht,okt,hv,q1,q2⟩:=h
  have sc:=ycp
  refine ⟨_,(qaf rfl (yac (yao (ydd (qbq (qah yhy hr (yaf (qaa (pv 0)) (yaf (qaa (pv 1)) qad)))))
    (yac (qdm (ycu (pe_x0 xO (qab qak yae)))))
    yal))),?_⟩
  refine ⟨_,rfl,_,rfl,t,v,T,d,rfl,ht,okt,hv,λH1 s1=>⟨_,rfl,?_⟩⟩
  cases hb:ordB T d with
  |true=>exact iteF (q1 hb H1 s1)
  |false=>
   refine iteT ⟨zl,λa ha=>⟨a,CO,none,rfl,xO.2.2.1,yaa,?_⟩⟩
   rw[upd_upd]
   exact q2 hb a _ (s1.upd ha) (.inr (.inr (.inl ⟨rfl,yaa⟩)))
theorem for0{K:W.Frag}{a:Addr}{g:TG}{tb:TS}{D:Ends}{σ:L2.St}{H:Hp}(hL:H a=some (.lst []))(k:D.nx σ H):∃W:Nat->Nat->L2.St->Hp->Prop,(∃m,W 0 m σ H)/\∀i m σ H,W i m σ H->
   ((Itl K a).stop i H/\D.nx σ H)\/((Itl K a).go i H/\∃N:L2.St->Hp->Prop,(∀σ' H',N σ' H'->∃m',m' < m/\W (i+1) m' σ' H')/\∀x H',(Itl K a).yld i H x H'->g x σ H' λσ2 H2=>tb { D with nx:=N,ct:=N,bk:=D.nx } σ2 H2):=
 qb3 (xs:=[]) (λ_ σ' H'=>σ'=σ/\H'=H) ⟨rfl,rfl⟩ (λ_ _ _ _ h=>by rw[h.2];exact sqlO hL) (λi x _ _ hx=>by simp at hx) λ_ _ h=>by rw[h.1,h.2];exact k
structure Em(H:Hp)(L C:Addr)(cs:List Int):Prop where
 ne:L≠C
 hl:H L=some (.lst [])
 hc:H C=some (.lst (cs.map V.int))
theorem Em.same{H H':Hp}{L C:Addr}{cs:List Int}(m:Em H L C cs)(s:Same H H'):Em H' L C cs:=⟨m.ne,s _ _ m.hl,s _ _ m.hc⟩
theorem Em.up{H H':Hp}{L C:Addr}{cs ds:List Int}(m:Em H L C cs)(u:UpC H C ds H'):Em H' L C ds:=⟨m.ne,u.st _ _ m.ne m.hl,u.at_⟩
def qfp:Sp:=λvs H Q _=>∃(L:Addr) (c:Int),vs=[.ref L,.int c]/\H L=some (.lst [])/\Q .non H
theorem qmv(F:FnAt K mg "stuck_bit" qd0 ["harms","cell"]):Has P w K mg base 1 "stuck_bit" ["harms","cell"] qfp:=by
 refine Has.ofQ F qet (λvs H Q E h=>?_) (λ_ _ _ _ _ H vs Q E hr h=>?_)
 ·obtain ⟨L,c,rfl,_⟩:=h
  rfl
 ·obtain ⟨L,c,rfl,hL,k⟩:=h
  have sc:=qet
  refine ⟨_,qaf rfl (yab (ya1 PassesOwn.never rfl (qbi (qaa (pv 0))) (pgn 2 sc.nd)
    (yac (yao (QW.pt (qco (qaj ya6 (yap yam (qaa (pv 2)) (qaa yad)) (qaa qak) (yai _)) (qcj (qaj ya6 (yap yam (qaa (pv 2)) (qaa yad)) (qaa (pv 1)) (yai _)))))
     (yac (yah (yap yam (qaa (pv 2)) (qaa yad))))
     yal)))
   (yac (yah (qaa qa6)))),?_⟩
  exact ⟨_,rfl,L,rfl,⟨_,sqlO hL⟩,for0 hL k⟩
def qfn:Sp:=λvs H Q _=>∃(L C:Addr) (cs:List Int) (c b:Int),vs=[.ref L,.ref C,.int c,.int b]/\Em H L C cs/\0<=c/\c<cs.length/\Q .non (upd H C (.lst ((cs.set c.toNat b).map V.int)))
theorem ok_put0(yd1:Has P w K mg base 1 "stuck_bit" ["harms","cell"] qfp)(F:FnAt K mg "put" s_put ["harms","cells","cell","bit"]):Has P w K mg base 2 "put" ["harms","cells","cell","bit"] qfn:=by
 refine Has.ofQ F sc_put (λvs H Q E h=>?_) (λ_ _ _ _ _ H vs Q E hr h=>?_)
 ·obtain ⟨L,C,cs,c,b,rfl,_⟩:=h
  rfl
 ·obtain ⟨L,C,cs,c,b,rfl,m,h0,h1,k⟩:=h
  have sc:=sc_put
  refine ⟨_,qaf rfl (yac (yao (qe2 (qc2 (qfm (qam yd1 hr (qab (pv 0) (qab (pv 2) yae))))))
    (yac (qjx (qaa (pv 3)) (ylc (pv 1) (pv 2) qgw)))
    yal)),?_⟩
  refine ⟨_,rfl,_,rfl,L,c,rfl,m.hl,_,rfl,iteT ?_⟩
  refine ⟨_,rfl,_,rfl,_,rfl,C,_,c,_,rfl,rfl,m.hc,ixN_in h0 (by rw[length_map];exact h1),?_⟩
  rw[List.map_set]at k
  exact k
def yeg:Sp:=λvs H Q _=>∃(L C:Addr) (cs:List Int),vs=[.ref L,.ref C]/\Em H L C cs/\cs.length<=64/\Q .non H
theorem ykf(B:Bl mg)(yd1:Has P w K mg base 1 "stuck_bit" ["harms","cell"] qfp)(yin:Has P w K mg base 2 "put" ["harms","cells","cell","bit"] qfn)(F:FnAt K mg "settle" qhe ["harms","cells"]):Has P w K mg base 3 "settle" ["harms","cells"] yeg:=by
 refine Has.ofQ F yh2 (λvs H Q E h=>?_) (λ_ _ _ _ _ H vs Q E hr h=>?_)
 ·obtain ⟨L,C,cs,rfl,_⟩:=h
  rfl
 ·obtain ⟨L,C,cs,rfl,m,hcl,k⟩:=h
  have sc:=yh2
  refine ⟨_,qaf rfl (yab (ya1 PassesOwn.never rfl (yea (qby rfl (B.of rfl) (qab (qan qai rfl (B.of rfl) boot_len (qab (pv 1) yae)) yae))) (pgn 2 sc.nd)
    (yab (qsE 3 sc.nd (qah yd1 hr (yaf (qaa (pv 0)) (yaf (qaa (pv 2)) qad))))
    (yac (yao (qe2 (qc2 (qhf (pv 3))))
     (yac (qjx (qaa (pv 3)) (ylc (pv 1) (pv 2) qgw)))
     yal))))
   (yac (ya1 PassesOwn.never rfl (qbi (qaa (pv 0))) (pgn 4 sc.nd)
    (yac (yao (QW.pt (qco (qaj ya6 (yap yam (qaa (pv 4)) (qaa yad)) (qaa qak) (yai _)) (qcj (qaj ya6 (yap qal (qaa (pv 1)) (yap yam (qaa (pv 4)) (qaa yad))) (yap yam (qaa (pv 4)) (qaa yad)) (yai _)))))
     (yac (qap (qah yin hr (yaf (qaa (pv 0)) (yaf (qaa (pv 1)) (ydl (yap yam (qaa (pv 4)) (qaa yad)) (ydl (yap yam (qaa (pv 4)) (qaa yad)) qad)))))))
     yal))))),?_⟩
  refine ⟨_,rfl,C,_,rfl,.inl (sqlO m.hc),cs.length,(by rw[length_map]),(by omega),(by omega),ycl (n:=cs.length) (λi σ H2=>∃(o2 o3:Option V),σ=[some (.ref L),some (.ref C),o2,o3,none]/\H2=H) ⟨none,none,rfl,rfl⟩ ?_ ?_⟩
  ·rintro i σ H2 hlt ⟨o2,o3,rfl,rfl⟩
   refine gn ?_
   refine ⟨_,rfl,_,rfl,L,_,rfl,m.hl,gn ?_⟩
   exact ⟨_,rfl,_,rfl,iteF ⟨_,_,rfl,rfl⟩⟩
  ·rintro σ H2 ⟨o2,o3,rfl,rfl⟩
   exact ⟨_,rfl,L,rfl,⟨_,sqlO m.hl⟩,for0 m.hl k⟩
def qiq:Sp:=λvs H Q _=>∃(L:Addr) (a:Int),vs=[.ref L,.int a]/\H L=some (.lst [])/\Q .non H
theorem ok_hoa0(F:FnAt K mg "harm_of_address" qbr ["harms","address"]):Has P w K mg base 1 "harm_of_address" ["harms","address"] qiq:=by
 refine Has.ofQ F yce (λvs H Q E h=>?_) (λ_ _ _ _ _ H vs Q E hr h=>?_)
 ·obtain ⟨L,a,rfl,_⟩:=h
  rfl
 ·obtain ⟨L,a,rfl,hL,k⟩:=h
  have sc:=yce
  refine ⟨_,qaf rfl (yab (ya1 PassesOwn.never rfl (qbi (qaa (pv 0))) (pgn 2 sc.nd)
    (yac (yao (QW.pt (qco (qaj ybw (yap yam (qaa (pv 2)) (qaa yad)) (ybm (qau (qaa qak) (qau (qaa qak) (qau (qaa qak) qad)))) (by with_unfolding_all rfl)) (qcj (qaj ya6 (yap yam (qaa (pv 2)) (qaa yad)) (qaa (pv 1)) (yai _)))))
     (yac (yah (qaa (pv 2))))
     yal)))
   (yac (yah (qaa qa6)))),?_⟩
  exact ⟨_,rfl,L,rfl,⟨_,sqlO hL⟩,for0 hL k⟩
def yfs:Sp:=λvs H Q _=>∃a:Int,vs=[.non,.int a]/\∀p,H p=none->Q (.ref p) (upd H p (.lst [.int a]))
theorem ykv(F:FnAt K mg "reached_cells" qb8 ["harm","address"]):Has P w K mg base 1 "reached_cells" ["harm","address"] yfs:=by
 refine Has.ofQ F yc2 (λvs H Q E h=>?_) (λ_ _ _ _ _ H vs Q E hr h=>?_)
 ·obtain ⟨a,rfl,_⟩:=h
  rfl
 ·obtain ⟨a,rfl,k⟩:=h
  have sc:=yc2
  refine cutA [2] ⟨_,qaf rfl (yab (yao (qaj ya6 (yap yam (qaa (pv 0)) (qaa yad)) (qaa qak) (yai _))
    (yac (yah (qao (ydl (yap yam (qaa (pv 0)) (qaa yad)) qad))))
    yal) (yac (yah (qao (yaf (qaa (pv 1)) (ydl (yap yam (qaa (pv 0)) (qaa yad)) qad))))))⟩ ?_
  intro c1
  refine ⟨_,qaf rfl (yab (yao (qe2 (qc2 (qfm (pv 0))))
    (yac (yah (qao (yaf (qaa (pv 1)) qad))))
    yal) (yab (yao (qaj ya6 (yap yam (qaa (pv 0)) (qaa yad)) (qaa qak) (yai _))
    (yac (yah (qao qad)))
    yal) c1.2)),?_⟩
  exact ⟨_,rfl,_,rfl,iteT ⟨_,rfl,zl,k⟩⟩
def qh8:Sp:=λvs H Q _=>∃(L C:Addr) (cs:List Int) (c:Int),vs=[.ref L,.ref C,.int c]/\Em H L C cs/\0<=c/\c<cs.length/\Q (.int (rd cs c)) H
theorem qkp(yin:Has P w K mg base 2 "put" ["harms","cells","cell","bit"] qfn)(F:FnAt K mg "read_cell" ydz ["harms","cells","cell"]):Has P w K mg base 3 "read_cell" ["harms","cells","cell"] qh8:=by
 refine Has.ofQ F qev (λvs H Q E h=>?_) (λ_ _ _ _ _ H vs Q E hr h=>?_)
 ·obtain ⟨L,C,cs,c,rfl,_⟩:=h
  rfl
 ·obtain ⟨L,C,cs,c,rfl,m,h0,h1,k⟩:=h
  have sc:=qev
  refine cutA [1] ⟨_,qaf rfl (yab (ya1 PassesOwn.never rfl (qbi (qaa (pv 0))) (pgn 4 sc.nd)
    (yac (yao (QW.pt (qco (qaj ybw (yap yam (qaa (pv 4)) (qaa yad)) (ybm (qau (qaa qak) (qau (qaa qak) qad))) (by with_unfolding_all rfl)) (qco (qaj ya6 (yap yam (qaa (pv 4)) (qaa yad)) (qaa (pv 2)) (yai _)) (qcj (qaj ya6 (yap yam (qaa (pv 4)) (qaa yad)) (qaa (pv 3)) (yai _))))))
     (yab (qap (qah yin hr (yaf (qaa (pv 0)) (yaf (qaa (pv 1)) (yaf (qaa (pv 2)) (yii (ybd yjc (qaa yad) (qaa (pv 3))) qad))))))
     (yac (yah (qd3 (qaj ya6 (yap yam (qaa (pv 4)) (qaa yad)) (qaa qak) (yai _)) (qaa (pv 3)) (yap qal (qaa (pv 1)) (qaa (pv 2)))))))
     yal))) (yac (yah (qaa (pv 3)))))⟩ ?_
  intro c1
  refine ⟨_,qaf rfl (yab (qsE 3 sc.nd (yap qal (qaa (pv 1)) (qaa (pv 2)))) c1.2),?_⟩
  refine ⟨_,rfl,_,rfl,C,_,_,_,rfl,rfl,sqlO m.hc,rd_at h0 h1,gn ?_⟩
  exact ⟨_,rfl,L,rfl,⟨_,sqlO m.hl⟩,for0 m.hl ⟨_,rfl,k⟩⟩
def qij:Sp:=λvs H Q _=>∃(L C:Addr) (cs:List Int) (a:Int),vs=[.ref L,.ref C,.int a]/\Em H L C cs/\0<=a/\a<cs.length/\∀H',Same H H'->Q (.int (rd cs a)) H'
theorem ok_rat0(B:Bl mg)(ybs:Has P w K mg base 1 "harm_of_address" ["harms","address"] qiq)(qca:Has P w K mg base 1 "reached_cells" ["harm","address"] yfs)(yi1:Has P w K mg base 3 "read_cell" ["harms","cells","cell"] qh8)(F:FnAt K mg "read_at" qf1 ["harms","cells","address"]):Has P w K mg base 4 "read_at" ["harms","cells","address"] qij:=by
 refine Has.ofQ F ygg (λvs H Q E h=>?_) (λ_ _ _ _ _ H vs Q E hr h=>?_)
 ·obtain ⟨L,C,cs,a,rfl,_⟩:=h
  rfl
 ·obtain ⟨L,C,cs,a,rfl,m,h0,h1,k⟩:=h
  have sc:=ygg
  refine cutA [4] ⟨_,qaf rfl (yab (yao (qaj ya6 (qas qai rfl (B.of rfl) boot_len (yaf (qaa (pv 4)) qad)) (qaa yad) (yai _))
    (yac (yah (yap qal (qaa (pv 4)) (qaa yad))))
    yal) (yac (yah (qd3 (qaj ya6 (yap yam (qaa (pv 3)) (qaa yad)) (qaa qak) (yai _)) (qas (qk9 rfl) rfl (B.of rfl) boot_min (yaf (qaa (pv 4)) qad)) (qas (ylj rfl) rfl (B.of rfl) boot_max (yaf (qaa (pv 4)) qad))))))⟩ ?_
  intro c1
  refine cutA [2] ⟨_,qaf rfl (yab (ya1 PassesOwn.never rfl (qbi (qah qca hr (yaf (qaa (pv 3)) (yaf (qaa (pv 2)) qad)))) (pgn 5 sc.nd)
    (yac (qap (qaa (qdd PySem.F.plainAttrs_list PySem.F.slot_list_append PySem.F.type_list_append ya7 (pv 4) (qab (qam yi1 hr (qab (pv 0) (qab (pv 1) (qab (pv 5) yae)))) yae)))))) (yab (yao (qaj ya6 (qas qai rfl (B.of rfl) boot_len (yaf (qaa (pv 4)) qad)) (qaa yad) (yai _))
    (yac (yah (yap yam (qaa (pv 3)) (qaa yad))))
    yal) c1.2))⟩ ?_
  intro c2
  refine ⟨_,qaf rfl (yab (qsE 3 sc.nd (qah ybs hr (yaf (qaa (pv 0)) (yaf (qaa (pv 2)) qad)))) (yab (qsE 4 sc.nd (qao qad)) c2.2)),?_⟩
  refine ⟨_,rfl,_,rfl,L,a,rfl,m.hl,gn ?_⟩
  refine ⟨zero_le _,λp np=>gn ?_⟩
  have s1:=(smR H).upd (o:=.lst []) np
  have f1:=@yaa H p (.lst [])
  revert s1 f1
  generalize upd H p _=H1
  intro s1 f1
  refine ⟨_,rfl,_,rfl,a,rfl,λq nq=>?_⟩
  have s2:=(smR H1).upd (o:=.lst [V.int a]) nq
  have f2:=@yaa H1 q (.lst [V.int a])
  revert s2 f2
  generalize upd H1 q _=H2
  intro s2 f2
  have nqp:q≠p:=(qae f1 nq).symm
  refine ⟨q,rfl,⟨_,sqlO f2⟩,qb3 (xs:=[V.int a]) (λi σ H3=>∃(o5:Option V),σ=[some (.ref L),some (.ref C),some (.int a),some .non,some (.ref p),o5]/\(∀b u,b≠p->H2 b=some u->H3 b=some u)/\H3 p=some (.lst (if i=0 then [] else [.int (rd cs a)]))) ⟨none,rfl,λb u _ e=>e,s2 _ _ f1⟩ (λi σ H3 _ ⟨_,_,s3,_⟩=>sqlO (s3 _ _ nqp f2)) ?_ ?_⟩
  ·rintro i x σ H3 hx ⟨o5,rfl,s3,e3⟩
   obtain rfl:i=0:=by cases i with
    |zero=>rfl
    |succ i=>simp at hx
   cases hx
   have m3:Em H3 L C cs:=⟨m.ne,s3 _ _ (qae m.hl np) (s2 _ _ (s1 _ _ m.hl)),s3 _ _ (qae m.hc np) (s2 _ _ (s1 _ _ m.hc))⟩
   refine gn ?_
   refine ⟨_,rfl,.inl ⟨rfl,_,sqlO e3⟩,_,rfl,_,rfl,_,rfl,L,C,cs,a,rfl,m3,h0,h1,p,_,_,rfl,rfl,e3,ybe (by simp),?_⟩
   exact ⟨_,rfl,λb u hb e=>by rw[qag hb];exact s3 b u hb e,yaa⟩
  ·rintro σ H3 ⟨o5,rfl,s3,e3⟩
   have e3:H3 p=some (.lst [.int (rd cs a)]):=e3
   refine ⟨_,rfl,p,_,rfl,.inl (sqlO e3),rfl,_,rfl,iteN (by rw[dI];rfl) ?_⟩
   refine ⟨_,rfl,p,_,rfl,.inl (sqlO e3),rfl,_,rfl,iteB (by rw[dI];rfl) ?_⟩
   exact ⟨_,rfl,p,_,_,_,rfl,rfl,sqlO e3,yaq 0 rfl,k H3 λb u e=>s3 _ _ (qae e np) (s2 _ _ (s1 _ _ e))⟩
def qjz:Sp:=λvs H Q _=>∃(L C:Addr) (cs:List Int) (c b:Int),vs=[.ref L,.ref C,.int c,.int b]/\Em H L C cs/\0<=c/\c<cs.length/\∀H',Same H H'->Q (.bl false) H'
theorem ok_slow0(F:FnAt K mg "is_slow" qfo ["harms","cells","cell","bit"]):Has P w K mg base 1 "is_slow" ["harms","cells","cell","bit"] qjz:=by
 refine Has.of F ygd (λvs H Q E h=>?_) (λ_ _ _ _ _ H vs Q E hr h=>?_)
 ·obtain ⟨L,C,cs,c,b,rfl,_⟩:=h
  rfl
 ·obtain ⟨L,C,cs,c,b,rfl,m,h0,h1,k⟩:=h
  have sc:=ygd
  refine ⟨_,(qax (yb6 (qa8 (ya4 yhw (qbe qal (pv 1) (pv 2)) (pv 3) (yai _)) (qbx (ya4 (op_inT hr) (ybu (qab qak (qab (pv 2) (qab (pv 3) yae)))) (pv 0) (by with_unfolding_all rfl)))))),?_⟩
  refine ⟨_,rfl,_,rfl,C,_,_,_,rfl,rfl,sqlO m.hc,rd_at h0 h1,_,rfl,rfl,_,rfl,?_⟩
  rw[dI]
  by_cases hb:rd cs c=b
  ·exact iteN (by simp[hb]) (k H (smR H))
  ·refine iteB (by simp[hb]) ?_
   refine ⟨_,rfl,_,rfl,zl,λp hp=>⟨_,rfl,?_⟩⟩
   have s2:=(smR H).upd (o:=.tup [.str "slow",.int c,.int b]) hp
   exact ⟨p,_,L,_,rfl,yaa,fl_slow _ _,rfl,s2 _ _ m.hl,(λu hu=>by simp at hu),k _ s2⟩
def yjz:Sp:=λvs H Q _=>∃(L C:Addr) (c b:Int),vs=[.ref L,.ref C,.int c,.int b]/\H L=some (.lst [])/\Q (.int b) H
theorem ok_kept0(F:FnAt K mg "kept_bit" qed ["harms","cells","cell","bit"]):Has P w K mg base 1 "kept_bit" ["harms","cells","cell","bit"] yjz:=by
 refine Has.ofQ F yfa (λvs H Q E h=>?_) (λ_ _ _ _ _ H vs Q E hr h=>?_)
 ·obtain ⟨L,C,c,b,rfl,_⟩:=h
  rfl
 ·obtain ⟨L,C,c,b,rfl,hL,k⟩:=h
  have sc:=yfa
  refine ⟨_,qaf rfl (yab (ya1 PassesOwn.never rfl (qbi (qaa (pv 0))) (pgn 4 sc.nd)
    (yac (yao (QW.pt (qco (qaj ya6 (yap yam (qaa (pv 4)) (qaa yad)) (qaa qak) (yai _)) (qco (qaj ya6 (yap yam (qaa (pv 4)) (qaa yad)) (qaa (pv 2)) (yai _)) (qcj (qaj ya6 (yap qal (qaa (pv 1)) (yap yam (qaa (pv 4)) (qaa yad))) (yap yam (qaa (pv 4)) (qaa yad)) (yai _))))))
     (yac (yah (yap yam (qaa (pv 4)) (qaa yad))))
     yal)))
   (yac (yah (qaa (pv 3))))),?_⟩
  exact ⟨_,rfl,L,rfl,⟨_,sqlO hL⟩,for0 hL ⟨_,rfl,k⟩⟩
def yk7:Sp:=λvs H Q _=>∃(L C:Addr) (c:Int),vs=[.ref L,.ref C,.int c]/\H L=some (.lst [])/\Q .non H
theorem ok_act0(yin:Has P w K mg base 2 "put" ["harms","cells","cell","bit"] qfn)(F:FnAt K mg "act_on_others" yb7 ["harms","cells","cell"]):Has P w K mg base 3 "act_on_others" ["harms","cells","cell"] yk7:=by
 refine Has.ofQ F qc5 (λvs H Q E h=>?_) (λ_ _ _ _ _ H vs Q E hr h=>?_)
 ·obtain ⟨L,C,c,rfl,_⟩:=h
  rfl
 ·obtain ⟨L,C,c,rfl,hL,k⟩:=h
  have sc:=qc5
  refine ⟨_,qaf rfl (yac (ya1 PassesOwn.never rfl (qbi (qaa (pv 0))) (pgn 3 sc.nd)
    (yac (yao (QW.pt (qco (qaj ybw (yap yam (qaa (pv 3)) (qaa yad)) (ybm (qau (qaa qak) (qau (qaa qak) (qau (qaa qak) qad)))) (by with_unfolding_all rfl)) (qco (qaj ya6 (yap yam (qaa (pv 3)) (qaa yad)) (qaa (pv 2)) (yai _)) (qcj (qaj ya6 (yap yam (qaa (pv 3)) (qaa yad)) (yap qal (qaa (pv 1)) (qaa (pv 2))) (yai _))))))
     (yac (qap (qah yin hr (yaf (qaa (pv 0)) (yaf (qaa (pv 1)) (ydl (yap yam (qaa (pv 3)) (qaa yad)) (qa_ie (qd3 (qaj ya6 (yap yam (qaa (pv 3)) (qaa yad)) (qaa qak) (yai _)) (ybd yjc (qaa yad) (yap qal (qaa (pv 1)) (yap yam (qaa (pv 3)) (qaa yad)))) (yap yam (qaa (pv 3)) (qaa yad))) qad)))))))
     yal)))),?_⟩
  exact ⟨_,rfl,L,rfl,⟨_,sqlO hL⟩,for0 hL k⟩
def qh9:Sp:=λvs H Q _=>∃(L C:Addr) (cs:List Int) (c b:Int),vs=[.ref L,.ref C,.int c,.int b]/\Em H L C cs/\0<=c/\c<cs.length/\∀H',UpC H C (cs.set c.toNat b) H'->Q .non H'
theorem ymf(yll:Has P w K mg base 1 "is_slow" ["harms","cells","cell","bit"] qjz)(yin:Has P w K mg base 2 "put" ["harms","cells","cell","bit"] qfn)(yj1:Has P w K mg base 1 "kept_bit" ["harms","cells","cell","bit"] yjz)(yfb:Has P w K mg base 3 "act_on_others" ["harms","cells","cell"] yk7)(F:FnAt K mg "write_cell" qdf ["harms","cells","cell","bit"]):Has P w K mg base 4 "write_cell" ["harms","cells","cell","bit"] qh9:=by
 refine Has.ofQ F qd4 (λvs H Q E h=>?_) (λ_ _ _ _ _ H vs Q E hr h=>?_)
 ·obtain ⟨L,C,cs,c,b,rfl,_⟩:=h
  rfl
 ·obtain ⟨L,C,cs,c,b,rfl,m,h0,h1,k⟩:=h
  have sc:=qd4
  refine cutA [3] ⟨_,qaf rfl (yac (yao (qaj yhw (yap qal (qaa (pv 1)) (qaa (pv 2))) (qaa (pv 4)) (yai _))
    (yac (qap (qah yfb hr (yaf (qaa (pv 0)) (yaf (qaa (pv 1)) (yaf (qaa (pv 2)) qad))))))
    yal))⟩ ?_
  intro c1
  refine cutA [1] ⟨_,qaf rfl (yab (qsE 4 sc.nd (yap qal (qaa (pv 1)) (qaa (pv 2)))) (yab (qap (qah yin hr (yaf (qaa (pv 0)) (yaf (qaa (pv 1)) (yaf (qaa (pv 2)) (qd7 (qah yj1 hr (yaf (qaa (pv 0)) (yaf (qaa (pv 1)) (yaf (qaa (pv 2)) (yaf (qaa (pv 3)) qad))))) qad)))))) c1.2))⟩ ?_
  intro c2
  refine ⟨_,qaf rfl (yab (yao (qbq (qah yll hr (yaf (qaa (pv 0)) (yaf (qaa (pv 1)) (yaf (qaa (pv 2)) (yaf (qaa (pv 3)) qad))))))
    (yac (qdm ps_retN))
    yal) c2.2),?_⟩
  refine ⟨_,rfl,_,rfl,_,rfl,_,rfl,L,C,cs,c,b,rfl,m,h0,h1,λH1 s1=>⟨_,rfl,iteF ?_⟩⟩
  have m1:=m.same s1
  refine ⟨_,rfl,_,rfl,C,_,_,_,rfl,rfl,sqlO m1.hc,rd_at h0 h1,gn ?_⟩
  refine ⟨_,rfl,_,rfl,_,rfl,_,rfl,_,rfl,_,rfl,_,rfl,L,C,c,b,rfl,m1.hl,L,C,cs,c,b,rfl,m1,h0,h1,?_⟩
  have u2:UpC H C (cs.set c.toNat b) (upd H1 C (.lst ((cs.set c.toNat b).map V.int))):=⟨λb u hb e=>by rw[qag hb];exact s1 _ _ e,yaa⟩
  revert u2
  generalize upd H1 C _=H2
  intro u2
  have m2:=m.up u2
  refine ⟨_,rfl,_,rfl,C,_,_,_,rfl,rfl,sqlO m2.hc,rd_at h0 (by rw[length_set];exact h1),_,rfl,rfl,_,rfl,?_⟩
  rw[dI]
  by_cases hq:rd (cs.set c.toNat b) c=rd cs c
  ·exact iteN (by simp[hq]) (k H2 u2)
  ·exact iteB (by simp[hq]) ⟨_,rfl,_,rfl,_,rfl,L,C,c,rfl,m2.hl,k H2 u2⟩
def qi8:Sp:=λvs H Q _=>∃(L C:Addr) (cs:List Int) (a b:Int),vs=[.ref L,.ref C,.int a,.int b]/\Em H L C cs/\0<=a/\a<cs.length/\∀H',UpC H C (cs.set a.toNat b) H'->Q .non H'
theorem ok_wat0(ybs:Has P w K mg base 1 "harm_of_address" ["harms","address"] qiq)(qca:Has P w K mg base 1 "reached_cells" ["harm","address"] yfs)(yht:Has P w K mg base 4 "write_cell" ["harms","cells","cell","bit"] qh9)(F:FnAt K mg "write_at" yec ["harms","cells","address","bit"]):Has P w K mg base 5 "write_at" ["harms","cells","address","bit"] qi8:=by
 refine Has.ofQ F yfn (λvs H Q E h=>?_) (λ_ _ _ _ _ H vs Q E hr h=>?_)
 ·obtain ⟨L,C,cs,a,b,rfl,_⟩:=h
  rfl
 ·obtain ⟨L,C,cs,a,b,rfl,m,h0,h1,k⟩:=h
  have sc:=yfn
  refine ⟨_,qaf rfl (yac (ya1 PassesOwn.never rfl (qbi (qah qca hr (qd7 (qah ybs hr (yaf (qaa (pv 0)) (yaf (qaa (pv 2)) qad))) (yaf (qaa (pv 2)) qad)))) (pgn 4 sc.nd)
    (yac (qap (qah yht hr (yaf (qaa (pv 0)) (yaf (qaa (pv 1)) (yaf (qaa (pv 4)) (yaf (qaa (pv 3)) qad))))))))),?_⟩
  refine ⟨_,rfl,_,rfl,L,a,rfl,m.hl,_,rfl,a,rfl,λq nq=>?_⟩
  have s2:=(smR H).upd (o:=.lst [V.int a]) nq
  have f2:=@yaa H q (.lst [V.int a])
  have nqC:q≠C:=(qae m.hc nq).symm
  revert s2 f2
  generalize upd H q _=H2
  intro s2 f2
  refine ⟨q,rfl,⟨_,sqlO f2⟩,qb3 (xs:=[V.int a]) (λi σ H3=>∃(o4:Option V),σ=[some (.ref L),some (.ref C),some (.int a),some (.int b),o4]/\UpC H2 C (if i=0 then cs else cs.set a.toNat b) H3) ⟨none,rfl,UpC.of (smR H2) (s2 _ _ m.hc)⟩ (λi σ H3 _ ⟨_,_,u3⟩=>sqlO (u3.st _ _ nqC f2)) ?_ ?_⟩
  ·rintro i x σ H3 hx ⟨o4,rfl,u3⟩
   obtain rfl:i=0:=by cases i with
    |zero=>rfl
    |succ i=>simp at hx
   cases hx
   have m3:=(m.same s2).up u3
   refine gn ?_
   refine ⟨_,rfl,_,rfl,_,rfl,_,rfl,L,C,cs,a,b,rfl,m3,h0,h1,λH4 u4=>?_⟩
   exact ⟨_,rfl,u3.trans u4⟩
  ·rintro σ H3 ⟨o4,rfl,u3⟩
   exact k H3 ⟨λb u hb e=>u3.st b u hb (s2 _ _ e),u3.at_⟩
end
theorem yjp{X:Cx}{K:W.Frag}(e:X.K=K):OpR X (binaryOp .Add) (rCatT K):=e ▸ op_catT
def qbv:Nat->List (List Int)
 |0=>[[]]
 |n+1=>(qbv n).map (0 :: ·)++(qbv n).map (1 :: ·)
theorem yf5:∀n,(qbv n).length=2 ^ n
 |0=>rfl
 |n+1=>by unfold qbv;rw[length_append,length_map,length_map,yf5 n];omega
theorem ybo:∀{n:Nat}{c:List Int},c∈qbv n↔c.length=n/\∀x∈c,x=0\/x=1
 |0,c=>by
  unfold qbv
  rw[mem_singleton]
  constructor
  ·rintro rfl;exact ⟨rfl,λx hx=>by simp at hx⟩
  ·intro h;exact List.length_eq_zero_iff.mp h.1
 |n+1,c=>by
  unfold qbv
  rw[mem_append,mem_map,mem_map]
  constructor
  ·rintro (⟨d,hd,rfl⟩|⟨d,hd,rfl⟩)
   ·obtain ⟨a,b⟩:=ybo.mp hd
    exact ⟨by simp[a],λx hx=>(mem_cons.mp hx).elim .inl (b x)⟩
   ·obtain ⟨a,b⟩:=ybo.mp hd
    exact ⟨by simp[a],λx hx=>(mem_cons.mp hx).elim .inr (b x)⟩
  ·rintro ⟨a,b⟩
   cases c with
   |nil=>simp at a
   |cons x d=>
    have hd:d∈qbv n:=ybo.mpr ⟨by simpa using a,λy hy=>b y (by simp[hy])⟩
    rcases b x (by simp) with rfl|rfl
    ·exact .inl ⟨d,hd,rfl⟩
    ·exact .inr ⟨d,hd,rfl⟩
def TsAt(H:Hp)(ts:List TL):Prop:=∀t∈ts,H t.1=some (.tup (t.2.map V.int))
theorem TsAt.same{H H':Hp}{ts:List TL}(x:TsAt H ts)(s:Same H H'):TsAt H' ts:=λt ht=>s _ _ (x t ht)
theorem TsAt.put{H:Hp}{ts:List TL}{D:Addr}{xs:List V}{o:HO}(x:TsAt H ts)(hD:H D=some (.lst xs)):TsAt (upd H D o) ts:=λt ht=>by
 have:=x t ht
 rw[qag (λz=>by rw[z,hD]at this;cases this)]
 exact this
theorem ygu{ts:List TL}{i:Nat}{v:V}(h:(qbu ts)[i]?=some v):∃t,ts[i]?=some t/\v=.ref t.1:=by
 unfold qbu at h
 exact qbd h
section
variable {P:Program}{w:World}{K:W.Frag}{mg:Str->Option Value}{base:Heap}{C:Addr}
def ykz:Sp:=λvs H Q _=>∃n:Nat,vs=[.int (n:Int)]/\n<=3/\∀(p:Addr) (ts:List TL) (H':Hp),Same H H'->H p=none->H' p=some (.lst (qbu ts))->TsAt H' ts->ts.map (·.2)=qbv n->Q (.ref p) H'
abbrev qch:Stmt:=top 60
theorem ydc:FnScope ["count","found","turn"] ["count"] (qac qch):=fsc
theorem ok_allc(B:Bl mg)(F:FnAt K mg "all_contents" qch ["count"]):Has P w K mg base 1 "all_contents" ["count"] ykz:=by
 refine Has.ofQ F ydc (λvs H Q E h=>?_) (λ_ _ _ _ _ H vs Q E hr h=>?_)
 ·obtain ⟨n,rfl,_⟩:=h
  rfl
 ·obtain ⟨n,rfl,h3,k⟩:=h
  have sc:=ydc
  refine cutA [1] ⟨_,qaf rfl (yab (ya1 PassesOwn.never rfl (yea (qby rfl (B.of rfl) (qab (pv 0) yae))) (pgn 2 sc.nd)
    (yac (qsE 1 sc.nd (ybd yca (qaa (ybr rfl (yax rfl) (M:=["contents"]) (ix:=[none]) (yck (pv 1)) (λ_ _ _ _=>(qaz (i:=0) (show List.Nodup (["contents"]:List Str) by decide +kernel) rfl (Or.inl rfl))) (λ_ _ _ _=>ych) (λ_ _ _ _=>(ybb (yjp (K:=K) rfl) (ybu (qab yad yae)) (pv 0))))) (qaa (ybr rfl (yax rfl) (M:=["contents"]) (ix:=[none]) (yck (pv 1)) (λ_ _ _ _=>(qaz (i:=0) (show List.Nodup (["contents"]:List Str) by decide +kernel) rfl (Or.inl rfl))) (λ_ _ _ _=>ych) (λ_ _ _ _=>(ybb (yjp (K:=K) rfl) (ybu (qab yad yae)) (pv 0))))))))) (yac (yah (qaa (pv 1)))))⟩ ?_
  intro c1
  refine ⟨_,qaf rfl (yab (qsE 1 sc.nd (qao (yd7 (ybm qad) qad))) c1.2),?_⟩
  refine ⟨zero_le _,λq0 n0=>⟨zl,λp0 np0=>?_⟩⟩
  have s1:=((smR H).upd (o:=.tup []) n0).upd (o:=.lst [V.ref q0]) np0
  have f1:upd (upd H q0 (.tup [])) p0 (.lst [V.ref q0]) p0=some (.lst (qbu [(q0,[])])):=yaa
  have g1:TsAt (upd (upd H q0 (.tup [])) p0 (.lst [V.ref q0])) [(q0,[])]:=λt ht=>by
   rw[mem_singleton.mp ht,qag (qae yaa np0)]
   exact yaa
  have hp0:H p0=none:=((smR H).upd (o:=.tup []) n0).free np0
  revert s1 f1 g1
  generalize upd (upd H q0 (.tup [])) p0 (.lst [V.ref q0])=H1
  intro s1 f1 g1
  refine ⟨_,rfl,n,rfl,by omega,by omega,ycl (n:=n) (λi σ H2=>∃(p:Addr) (ts:List TL) (o2:Option V),σ=[some (.int n),some (.ref p),o2]/\Same H H2/\H p=none/\H2 p=some (.lst (qbu ts))/\TsAt H2 ts/\ts.map (·.2)=qbv i) ⟨p0,[(q0,[])],_,rfl,s1,hp0,f1,g1,rfl⟩ ?_ ?_⟩
  ·rintro i σ H2 hi ⟨p,ts,o2,rfl,s2,np,ep,tp,ets⟩
   have lt:ts.length=2 ^ i:=by have:=congrArg List.length ets;rw[length_map,yf5]at this;exact this
   have l8:ts.length<=8:=by
    rw[lt]
    have:i<=3:=by omega
    match i,this with
    |0,_=>decide
    |1,_=>decide
    |2,_=>decide
    |3,_=>decide
   have lr:(qbu ts).length=ts.length:=by unfold qbu;rw[length_map]
   refine ⟨_,rfl,p,rfl,⟨_,sqlO ep⟩,λD0 nD0=>yby (n:=ts.length) (λj H'=>Same H2 H'/\∃us,H' D0=some (.lst (qbu us))/\TsAt H' us/\us.map (·.2)=(ts.take j).map λt=>0::t.2) ⟨(smR _).upd nD0,[],yaa,(λt h=>nomatch h),rfl⟩ ?_ ?_⟩
   rotate_left
   ·rintro j H3 hj ⟨s3,us,e3,x3,m3⟩
    have ep3:=s3 _ _ ep
    have tp3:=tp.same s3
    refine ⟨⟨_,_,sqlO ep3,getElem?_eq_getElem (by rw[lr];exact hj)⟩,?_⟩
    rintro y H4 ⟨rfl,hy⟩
    obtain ⟨t,ht,rfl⟩:=ygu (hy _ (sqlO ep3))
    have htm:=mem_of_getElem? ht
    have ul:us.length=j:=by have:=congrArg List.length m3;simp at this;omega
    refine ⟨qa4.set (qa4.refl _) rfl,yes ?_⟩
    refine ⟨zl,λq hq=>⟨_,rfl,q,t.1,_,_,rfl,rfl,sqtO yaa,sqtO (((smR _).upd hq) _ _ (tp3 t htm)),by simp,?_,λe0=>?_,λ_ r hrr=>?_⟩⟩
    ·have:=(ybo.mp (by rw[<-ets];exact mem_map_of_mem (f:=(·.2)) htm)).1
     exact qil (by simp;omega)
    ·have n1:D0≠q:=qae e3 hq
     have e4:upd H4 q (.tup [V.int 0]) D0=some (.lst (qbu us)):=by rw[qag n1];exact e3
     refine ⟨_,e4,ybe (by unfold qbu;rw[length_map];omega),(s3.upd hq).at nD0,us++[(q,0::t.2)],?_,?_,?_⟩
     ·rw[yaa];unfold qbu;rw[map_append];rfl
     ·refine (TsAt.put ?_ e4)
      intro z hz
      rcases mem_append.mp hz with hz|hz
      ·exact ((smR H4).upd hq) _ _ (x3 z hz)
      ·rw[mem_singleton.mp hz,yaa]
       rw[List.map_eq_nil_iff]at e0
       rw[e0]
       rfl
     ·rw[map_append,m3,take_add_one,ht,map_append]
      rfl
    ·have sq:=(smR H4).upd (o:=.tup [V.int 0]) hq
     have sr:=sq.upd (o:=.tup ([V.int 0]++t.2.map V.int)) hrr
     have e4:=sr _ _ e3
     refine ⟨_,e4,ybe (by unfold qbu;rw[length_map];omega),(s3.trans sr).at nD0,us++[(r,0::t.2)],?_,?_,?_⟩
     ·rw[yaa];unfold qbu;rw[map_append];rfl
     ·refine (TsAt.put ?_ e4)
      intro z hz
      rcases mem_append.mp hz with hz|hz
      ·exact sr _ _ (x3 z hz)
      ·rw[mem_singleton.mp hz,yaa]
       rfl
     ·rw[map_append,m3,take_add_one,ht,map_append]
      rfl
   rintro H5 ⟨s5,us0,e0,x0,m0⟩
   refine ⟨⟨_,sqlO (s5 _ _ ep),by rw[lr];exact le_refl _⟩,?_⟩
   rw[take_length]at m0
   refine ⟨_,rfl,p,rfl,⟨_,sqlO (s5 _ _ ep)⟩,λD1 nD1=>yby (n:=ts.length) (λj H'=>Same H5 H'/\∃us,H' D1=some (.lst (qbu us))/\TsAt H' us/\us.map (·.2)=(ts.take j).map λt=>1::t.2) ⟨(smR _).upd nD1,[],yaa,(λt h=>nomatch h),rfl⟩ ?_ ?_⟩
   rotate_left
   ·rintro j H3 hj ⟨s3,us,e3,x3,m3⟩
    have ep3:=s3 _ _ (s5 _ _ ep)
    have tp3:=(tp.same s5).same s3
    refine ⟨⟨_,_,sqlO ep3,getElem?_eq_getElem (by rw[lr];exact hj)⟩,?_⟩
    rintro y H4 ⟨rfl,hy⟩
    obtain ⟨t,ht,rfl⟩:=ygu (hy _ (sqlO ep3))
    have htm:=mem_of_getElem? ht
    have ul:us.length=j:=by have:=congrArg List.length m3;simp at this;omega
    refine ⟨qa4.set (qa4.refl _) rfl,yes ?_⟩
    refine ⟨zl,λq hq=>⟨_,rfl,q,t.1,_,_,rfl,rfl,sqtO yaa,sqtO (((smR _).upd hq) _ _ (tp3 t htm)),by simp,?_,λe0=>?_,λ_ r hrr=>?_⟩⟩
    ·have:=(ybo.mp (by rw[<-ets];exact mem_map_of_mem (f:=(·.2)) htm)).1
     exact qil (by simp;omega)
    ·have n1:D1≠q:=qae e3 hq
     have e4:upd H4 q (.tup [V.int 1]) D1=some (.lst (qbu us)):=by rw[qag n1];exact e3
     refine ⟨_,e4,ybe (by unfold qbu;rw[length_map];omega),(s3.upd hq).at nD1,us++[(q,1::t.2)],?_,?_,?_⟩
     ·rw[yaa];unfold qbu;rw[map_append];rfl
     ·refine (TsAt.put ?_ e4)
      intro z hz
      rcases mem_append.mp hz with hz|hz
      ·exact ((smR H4).upd hq) _ _ (x3 z hz)
      ·rw[mem_singleton.mp hz,yaa]
       rw[List.map_eq_nil_iff]at e0
       rw[e0]
       rfl
     ·rw[map_append,m3,take_add_one,ht,map_append]
      rfl
    ·have sq:=(smR H4).upd (o:=.tup [V.int 1]) hq
     have sr:=sq.upd (o:=.tup ([V.int 1]++t.2.map V.int)) hrr
     have e4:=sr _ _ e3
     refine ⟨_,e4,ybe (by unfold qbu;rw[length_map];omega),(s3.trans sr).at nD1,us++[(r,1::t.2)],?_,?_,?_⟩
     ·rw[yaa];unfold qbu;rw[map_append];rfl
     ·refine (TsAt.put ?_ e4)
      intro z hz
      rcases mem_append.mp hz with hz|hz
      ·exact sr _ _ (x3 z hz)
      ·rw[mem_singleton.mp hz,yaa]
       rfl
     ·rw[map_append,m3,take_add_one,ht,map_append]
      rfl
   rintro H6 ⟨s6,us1,e1,x1,m1⟩
   refine ⟨⟨_,sqlO (s6 _ _ (s5 _ _ ep)),by rw[lr];exact le_refl _⟩,?_⟩
   rw[take_length]at m1
   refine ⟨D0,D1,_,_,rfl,rfl,s6 _ _ e0,e1,?_,λr nr=>?_⟩
   ·have a:=congrArg List.length m0
    have b:=congrArg List.length m1
    simp only[length_map]at a b
    exact qil (by unfold qbu;rw[length_map,length_map];omega)
   have s7:=((s2.trans s5).trans s6).upd (o:=.lst (qbu us0++qbu us1)) nr
   refine ⟨r,us0++us1,_,rfl,s7,((s2.trans s5).trans s6).free nr,by rw[yaa];unfold qbu;rw[map_append],?_,?_⟩
   ·intro z hz
    refine ((smR H6).upd nr) _ _ ?_
    rcases mem_append.mp hz with hz|hz
    ·exact s6 _ _ (x0 z hz)
    ·exact x1 z hz
   ·rw[map_append,m0,m1]
    unfold qbv
    rw[<-ets,map_map,map_map]
    rfl
  ·rintro σ H2 ⟨p,ts,o2,rfl,s2,np,ep,tp,ets⟩
   exact ⟨_,rfl,k p ts H2 s2 np ep tp ets⟩
end
def stp(cs:List Int)(a:Int)(s:Stp):Option (List Int):=if s.1=true then some (cs.set a.toNat (b2i s.2)) else if rd cs a=b2i s.2 then some cs else none
def OptT(H:Hp)(v:V):Option (List Int)->Prop
 |none=>v=.non
 |some ds=>∃d,v=.ref d/\H d=some (.tup (ds.map V.int))
section
variable {P:Program}{w:World}{K:W.Frag}{mg:Str->Option Value}{base:Heap}
def ygf:Sp:=λvs H Q _=>∃(L c sa:Addr) (cs:List Int) (a:Int) (s:Stp),vs=[.ref L,.ref c,.int a,.ref sa]/\H L=some (.lst [])/\H c=some (.tup (cs.map V.int))/\H sa=some (.tup [.str (qe1 s.1),.int (b2i s.2)])/\0<=a/\a<cs.length/\
 ∀v H',Same H H'->OptT H' v (stp cs a s)->Q v H'
abbrev qfq:Stmt:=top 61
theorem qgm:FnScope ["harms","contents","address","step","cells"] ["harms","contents","address","step"] (qac qfq):=fsc
theorem qkk(B:Bl mg)(ye8:Has P w K mg base 4 "read_at" ["harms","cells","address"] qij)(yei:Has P w K mg base 5 "write_at" ["harms","cells","address","bit"] qi8)(F:FnAt K mg "stepped" qfq ["harms","contents","address","step"]):Has P w K mg base 6 "stepped" ["harms","contents","address","step"] ygf:=by
 refine Has.ofQ F qgm (λvs H Q E h=>?_) (λ_ _ _ _ _ H vs Q E hr h=>?_)
 ·obtain ⟨L,c,sa,cs,a,s,rfl,_⟩:=h
  rfl
 ·obtain ⟨L,c,sa,cs,a,st,rfl,hL,hc,hsa,a0,a1,k⟩:=h
  have sc:=qgm
  refine cutA [1] ⟨_,qaf rfl (qee (yao (qaj ya6 (yap yam (qaa (pv 3)) (qaa yad)) (qaa qak) (yai _))
    (yac (qap (qah yei hr (yaf (qaa (pv 0)) (yaf (qaa (pv 4)) (yaf (qaa (pv 2)) (ydl (yap yam (qaa (pv 3)) (qaa yad)) qad)))))))
    (yac (yao (qaj yhw (qah ye8 hr (yaf (qaa (pv 0)) (yaf (qaa (pv 4)) (yaf (qaa (pv 2)) qad)))) (yap yam (qaa (pv 3)) (qaa yad)) (yai _))
     (yac (yah (qaa qa6)))
     yal))) (yac (yah (qa9 qbo rfl (B.of rfl) boot_tuple (yaf (qaa (pv 4)) qad)))))⟩ ?_
  intro c1
  refine ⟨_,qaf rfl (yab (qsE 4 sc.nd (qa9 ybx rfl (B.of rfl) boot_list (yaf (qaa (pv 1)) qad))) c1.2),?_⟩
  refine ⟨_,rfl,c,_,rfl,.inr (sqtO hc),λC nC=>?_⟩
  generalize hG1:upd H C _=H1
  have s1:Same H H1:=by rw[<-hG1];exact (smR H).upd nC
  have f1:H1 C=some (.lst (cs.map V.int)):=by rw[<-hG1];exact yaa
  clear hG1
  have mm:Em H1 L C cs:=⟨qae hL nC,s1 _ _ hL,f1⟩
  have up:∀{ds:List Int}{H2:Hp},UpC H1 C ds H2->Same H H2:=λ{ds H2} u b o e=>u.st b o (qae e nC) (s1 _ _ e)
  refine gn ?_
  refine ⟨λσ' H'=>∃ds,σ'=[some (.ref L),some (.ref c),some (.int a),some (.ref sa),some (.ref C)]/\stp cs a st=some ds/\Same H H'/\H' C=some (.lst (ds.map V.int)),?_,?_⟩
  ·refine ⟨_,rfl,sa,_,_,_,rfl,rfl,sqtO (s1 _ _ hsa),yaq 0 rfl,rfl,_,rfl,?_⟩
   cases hw:st.1 with
   |true=>
    refine iteB (by decide +kernel) ?_
    refine ⟨_,rfl,_,rfl,_,rfl,_,rfl,sa,_,_,_,rfl,rfl,sqtO (s1 _ _ hsa),yaq 1 rfl,L,C,cs,a,b2i st.2,rfl,mm,a0,a1,λH2 u2=>?_⟩
    refine ⟨_,rfl,?_,up u2,u2.at_⟩
    unfold stp
    rw[if_pos hw]
   |false=>
    refine iteN (by decide +kernel) ?_
    refine ⟨_,rfl,_,rfl,_,rfl,L,C,cs,a,rfl,mm,a0,a1,λH2 s2=>?_⟩
    refine ⟨_,rfl,sa,_,_,_,rfl,rfl,sqtO ((s1.trans s2) _ _ hsa),yaq 1 rfl,rfl,_,rfl,?_⟩
    have e:stp cs a st=if rd cs a=b2i st.2 then some cs else none:=by
     unfold stp
     rw[if_neg (by simp[hw])]
    by_cases q:rd cs a=b2i st.2
    ·rw[if_pos q]at e
     exact iteN (by simp[q]) ⟨_,rfl,e,s1.trans s2,s2 _ _ f1⟩
    ·rw[if_neg q]at e
     rw[e]at k
     exact iteB (by simp[q]) (k .non H2 (s1.trans s2) rfl)
  ·rintro σ' H' ⟨ds,rfl,e,s2,f2⟩
   refine ⟨_,rfl,C,_,rfl,.inl ⟨sqlO f2,λp hp=>?_⟩⟩
   rw[e]at k
   exact k _ _ (s2.upd hp) ⟨p,rfl,yaa⟩
end
def fsL(L:Addr)(n:Nat)(F:Addr):List (Str×V):=[("harms",.ref L),("span",.int (n:Int)),("found",.ref F)]
structure CL(K:W.Frag)(C:Addr):Prop where
 c:Cls K C
 nh:yc9 K C "harms"
 ns:yc9 K C "span"
 nf:yc9 K C "found"
theorem lkL_h{L F:Addr}{n:Nat}:(fsL L n F).lookup ("harms" : Str)=some (V.ref L):=by
 unfold fsL
 rw[lookup_cons,show (("harms" : Str) == "harms")=true by decide +kernel]
theorem lkL_s{L F:Addr}{n:Nat}:(fsL L n F).lookup ("span" : Str)=some (V.int (n:Int)):=by
 unfold fsL
 rw[lookup_cons,show (("span" : Str) == "harms")=false by decide +kernel,lookup_cons,show (("span" : Str) == "span")=true by decide +kernel]
theorem lkL_f{L F:Addr}{n:Nat}:(fsL L n F).lookup ("found" : Str)=some (V.ref F):=by
 unfold fsL
 rw[lookup_cons,show (("found" : Str) == "harms")=false by decide +kernel,lookup_cons,show (("found" : Str) == "span")=false by decide +kernel,lookup_cons,show (("found" : Str) == "found")=true by decide +kernel]
theorem lkL_n{L F:Addr}{n:Nat}{f:Str}(h1:(f == ("harms" : Str))=false:=by decide +kernel)(h2:(f == ("span" : Str))=false:=by decide +kernel)(h3:(f == ("found" : Str))=false:=by decide +kernel):(fsL L n F).lookup f=none:=by
 unfold fsL
 rw[lookup_cons,h1,lookup_cons,h2,lookup_cons,h3]
 rfl
theorem ylt:∀a b,qe1 a=qe1 b->a=b:=by decide +kernel
theorem b2i_inj:∀a b,b2i a=b2i b->a=b:=by decide +kernel
def askK(cs:List Int)(a:Int)(s:Stp):Ask Key:=(cs.map Sum.inl,.inl a,[.inr (qe1 s.1),.inl (b2i s.2)])
theorem askK_inj{cs ds:List Int}{a b:Int}{s t:Stp}(e:askK cs a s=askK ds b t):cs=ds/\a=b/\s=t:=by
 unfold askK at e
 simp only[Prod.mk.injEq,List.cons.injEq,Sum.inl.injEq,Sum.inr.injEq,and_true]at e
 obtain ⟨e1,e2,e3,e4⟩:=e
 refine ⟨?_,e2,?_⟩
 ·exact (List.map_inj_right (λx y h=>Sum.inl.inj h)).mp e1
 ·obtain ⟨s1,s2⟩:=s
  obtain ⟨t1,t2⟩:=t
  exact Prod.ext (ylt _ _ e3) (b2i_inj _ _ e4)
def asksN(n:Nat):List (Ask Key):=(qbv n).flatMap λcs=>(List.range n).flatMap λa:Nat=>([(true,true),(true,false),(false,true),(false,false)]:List Stp).map λs=>askK cs (a:Int) s
theorem ylp{n:Nat}{cs:List Int}{a:Int}{s:Stp}(h:cs∈qbv n)(a0:0<=a)(a1:a<n):askK cs a s∈asksN n:=by
 refine mem_flatMap.mpr ⟨cs,h,mem_flatMap.mpr ⟨a.toNat,mem_range.mpr (by omega),mem_map.mpr ⟨s,?_,by rw[show ((a.toNat:Nat):Int)=a by omega]⟩⟩⟩
 obtain ⟨x,y⟩:=s
 cases x<;>cases y<;>simp
theorem yks{n:Nat}(h:n<=3):(asksN n).length<=96:=by
 have:n=0\/n=1\/n=2\/n=3:=by omega
 rcases this with rfl|rfl|rfl|rfl<;>decide +kernel
theorem ykq{α:Type}[DecidableEq α]{l m:List α}(hl:l.Nodup)(h:∀x∈l,x∈m):l.length<=m.length:=by
 induction l generalizing m with
 |nil=>simp
 |cons x l ih=>
  have hn:=nodup_cons.mp hl
  have hx:=h x (by simp)
  have:=ih hn.2 (m:=m.erase x) (λy hy=>(List.mem_erase_of_ne (λz=>by subst z;exact hn.1 hy)).mpr (h y (by simp[hy])))
  rw[List.length_erase_of_mem hx]at this
  have:=List.length_pos_of_mem hx
  simp
  omega
structure EntOk(H:Hp)(n:Nat)(e:AE):Prop where
 k:AskAt H e.1 e.2.1
 v:∃cs a s,e.1=askK cs a s/\cs∈qbv n/\0<=a/\a<n/\OptT H e.2.2 (stp cs a s)
theorem EntOk.keep{H H':Hp}{n:Nat}{e:AE}(x:EntOk H n e)(ht:∀b ys,H b=some (.tup ys)->H' b=some (.tup ys)):EntOk H' n e:=by
 obtain ⟨k,cs,a,s,e1,e2,a0,a1,o⟩:=x
 refine ⟨k.keep ht,cs,a,s,e1,e2,a0,a1,?_⟩
 cases q:stp cs a s with
 |none=>rw[q]at o;exact o
 |some ds=>
  rw[q]at o
  obtain ⟨d,ed,hd⟩:=o
  exact ⟨d,ed,ht _ _ hd⟩
structure LitO(P:Program)(w:World)(H:Hp)(C x L F:Addr)(n:Nat)(es:List AE):Prop where
 o:∃dx,H x=some (.ins C dx (fsL L n F))
 hl:H L=some (.lst [])
 n3:n<=3
 f:H F=some (DA P w F es)
 nd:(es.map (·.1)).Nodup
 all:∀e∈es,EntOk H n e
theorem LitO.len{P:Program}{w:World}{H:Hp}{C x L F:Addr}{n:Nat}{es:List AE}(l:LitO P w H C x L F n es):es.length<=96:=by
 have:=ykq l.nd (m:=asksN n) λk hk=>by
  obtain ⟨e,he,rfl⟩:=mem_map.mp hk
  obtain ⟨cs,a,s,e1,e2,a0,a1,_⟩:=(l.all e he).v
  rw[e1]
  exact ylp e2 a0 a1
 rw[length_map]at this
 exact le_trans this (yks l.n3)
def LKp(H H':Hp)(F:Addr):Prop:=∀b u,b≠F->H b=some u->H' b=some u
theorem LKp.of{H H':Hp}{F:Addr}(s:Same H H'):LKp H H' F:=λb u _ e=>s _ _ e
theorem LKp.trans{H H1 H2:Hp}{F:Addr}(a:LKp H H1 F)(b:LKp H1 H2 F):LKp H H2 F:=λx u h e=>b x u h (a x u h e)
section
variable {P:Program}{w:World}{H H':Hp}{C x L F:Addr}{n:Nat}{es:List AE}
theorem LitO.same(l:LitO P w H C x L F n es)(s:Same H H'):LitO P w H' C x L F n es:=by
 obtain ⟨dx,ho⟩:=l.o
 exact ⟨⟨dx,s _ _ ho⟩,s _ _ l.hl,l.n3,s _ _ l.f,l.nd,λe he=>(l.all e he).keep λb ys h=>s _ _ h⟩
theorem qkw{k:Ask Key}(h:valA es k=none):k∉es.map (·.1):=λhk=>by
 obtain ⟨e,he,rfl⟩:=mem_map.mp hk
 unfold valA at h
 rw[Option.map_eq_none_iff,List.find?_eq_none]at h
 exact h e he (by simp)
theorem ykr{k:Ask Key}{v:V}(h:valA es k=some v):∃e∈es,e.1=k/\e.2.2=v:=by
 unfold valA at h
 obtain ⟨e,he,rfl⟩:=Option.map_eq_some_iff.mp h
 exact ⟨e,List.mem_of_find?_eq_some he,by simpa using List.find?_some he,rfl⟩
theorem qli{k:Ask Key}{b:Addr}{v:V}(h:valA es k=none):valA (es++[(k,b,v)]) k=some v:=by
 unfold valA at h ⊢
 rw[Option.map_eq_none_iff]at h
 rw[List.find?_append,h]
 simp
end
section
variable {P:Program}{w:World}{K:W.Frag}{mg:Str->Option Value}{base:Heap}{C:Addr}
def qh7(P:Program)(w:World)(C:Addr):Sp:=λvs H Q _=>∃(x L F c sa:Addr) (n:Nat) (es:List AE) (cs:List Int) (a:Int) (s:Stp),vs=[.ref x,.ref c,.int a,.ref sa]/\LitO P w H C x L F n es/\H c=some (.tup (cs.map V.int))/\cs∈qbv n/\0<=a/\a<n/\H sa=some (.tup [.str (qe1 s.1),.int (b2i s.2)])/\
 ∀v H' es',LKp H H' F->LitO P w H' C x L F n es'->OptT H' v (stp cs a s)->Q v H'
abbrev ya3:Stmt:=ybz (top 62) 3
theorem ydp:FnScope ["self","contents","address","step","asked"] ["self","contents","address","step"] (qac ya3):=fsc
theorem qml(cl:CL K C)(qkx:Has P w K mg base 6 "stepped" ["harms","contents","address","step"] ygf)(F:qbg K C "done" "Little.done" ya3 ["self","contents","address","step"]):HasM P w K mg base C 7 "done" ["self","contents","address","step"] (qh7 P w C):=by
 refine HasM.ofQ F ydp (λvs H Q E h=>?_) (λ_ _ _ _ _ H vs Q E hr h=>?_)
 ·obtain ⟨x,L,F,c,sa,n,es,cs,a,s,rfl,_⟩:=h
  rfl
 ·obtain ⟨x,L,F,c,sa,n,es,cs,a,st,rfl,lo,hc,hcs,a0,a1,hsa,k⟩:=h
  have sc:=ydp
  refine cutA [1] ⟨_,qaf rfl (qee (yao (qe2 (qc2 (ql4 hr.units (QE.of (qaa (pv 4))) (QE.of (qce (qaa (pv 0)) rfl))) (by with_unfolding_all rfl)))
    (yac (qdm (ps_aput hr.units (QE.of (qce (qaa (pv 0)) rfl)) (QE.of (qaa (pv 4))) (QE.of (qah qkx hr (qfy (qce (qaa (pv 0)) rfl) (yaf (qaa (pv 1)) (yaf (qaa (pv 2)) (yaf (qaa (pv 3)) qad)))))) rfl)))
    yal) (yac (yah (qaa (pe_aget hr.units (QE.of (qce (qaa (pv 0)) rfl)) (QE.of (qaa (pv 4))) (λ_ _=>rfl))))))⟩ ?_
  intro c1
  refine ⟨_,qaf rfl (yab (qsE 4 sc.nd (ybm (yaf (qaa (pv 1)) (yaf (qaa (pv 2)) (yaf (qaa (pv 3)) qad))))) c1.2),?_⟩
  obtain ⟨dx,ho⟩:=lo.o
  refine ⟨_,rfl,_,rfl,_,rfl,zl,λq nq=>?_⟩
  generalize hG1:upd H q _=H1
  have s1:Same H H1:=by rw[<-hG1];exact (smR H).upd nq
  have f1:H1 q=some (.tup [.ref c,.int a,.ref sa]):=by rw[<-hG1];exact yaa
  clear hG1
  have ak1:∀{H2:Hp},(∀b ys,H1 b=some (.tup ys)->H2 b=some (.tup ys))->AskAt H2 (askK cs a st) q:=λ{H2} h=>⟨c,sa,h _ _ f1,by
   have:=h _ _ (s1 _ _ hc)
   rw[this]
   show some (HO.tup _)=some (HO.tup ((cs.map Sum.inl).map kV))
   rw[map_map]
   rfl,h _ _ (s1 _ _ hsa)⟩
  have l1:=lo.same s1
  refine gn ?_
  refine ⟨λσ' H'=>∃es',σ'=[some (.ref x),some (.ref c),some (.int a),some (.ref sa),some (.ref q)]/\LKp H H' F/\LitO P w H' C x L F n es'/\AskAt H' (askK cs a st) q/\∃v,valA es' (askK cs a st)=some v/\OptT H' v (stp cs a st),?_,?_⟩
  ·refine ⟨_,rfl,_,rfl,x,C,dx,_,_,rfl,s1 _ _ ho,cl.c,cl.nf,lkL_f,F,q,es,askK cs a st,rfl,rfl,l1.f,λe he=>(l1.all e he).k,ak1 (λb ys h=>h),_,rfl,?_⟩
   cases hv:valA es (askK cs a st) with
   |some v=>
    obtain ⟨e,he,ek,rfl⟩:=ykr hv
    obtain ⟨cs',a',s',e1,_,_,_,ov⟩:=(l1.all e he).v
    obtain ⟨rfl,rfl,rfl⟩:=askK_inj (e1.symm.trans ek)
    exact iteN rfl ⟨es,rfl,LKp.of s1,l1,ak1 (λb ys h=>h),_,hv,ov⟩
   |none=>
    have ln:cs.length=n:=(ybo.mp hcs).1
    refine iteB rfl ?_
    refine ⟨_,rfl,x,C,dx,_,_,rfl,s1 _ _ ho,cl.c,cl.nh,lkL_h,_,rfl,_,rfl,_,rfl,L,c,sa,cs,a,st,rfl,l1.hl,s1 _ _ hc,s1 _ _ hsa,a0,by omega,λv H2 s2 ov=>?_⟩
    have l2:=l1.same s2
    have s12:=s1.trans s2
    have ak2:=ak1 λb ys h=>s2 _ _ h
    have len:=l2.len
    refine ⟨_,rfl,x,C,dx,_,_,rfl,s12 _ _ ho,cl.c,cl.nf,lkL_f,_,rfl,F,q,es,_,rfl,rfl,l2.f,λe he=>(l2.all e he).k,ak2,hv,ybe (by omega),?_⟩
    have kt:∀b ys,H2 b=some (.tup ys)->upd H2 F (DA P w F (es++[(askK cs a st,q,v)])) b=some (.tup ys):=λb ys h=>by
     have:=l2.f
     rw[qag (λz=>by rw[z,this]at h;cases h)]
     exact h
    have ko:∀{b:Addr}{u:HO},H2 b=some u->(∀φ,u≠.ext φ)->upd H2 F (DA P w F (es++[(askK cs a st,q,v)])) b=some u:=λ{b u} h n=>by
     have:=l2.f
     rw[qag (λz=>by rw[z,this]at h;exact n _ (Option.some.inj h).symm)]
     exact h
    have ov3:OptT (upd H2 F (DA P w F (es++[(askK cs a st,q,v)]))) v (stp cs a st):=by
     cases z:stp cs a st with
     |none=>rw[z]at ov;exact ov
     |some ds=>
      rw[z]at ov
      obtain ⟨d,ed,hd⟩:=ov
      exact ⟨d,ed,kt _ _ hd⟩
    have ak3:AskAt (upd H2 F (DA P w F (es++[(askK cs a st,q,v)]))) (askK cs a st) q:=ak2.keep kt
    obtain ⟨dx2,ho2⟩:=l2.o
    refine ⟨es++[(askK cs a st,q,v)],rfl,λb u h e=>by rw[qag h];exact s12 _ _ e,⟨⟨dx2,ko ho2 (λ_ z=>by cases z)⟩,ko l2.hl (λ_ z=>by cases z),l2.n3,yaa,?_,λe he=>?_⟩,ak3,v,qli hv,ov3⟩
    ·rw[map_append,List.nodup_append]
     refine ⟨l2.nd,by simp,λy hy z hz e=>?_⟩
     rw[mem_singleton.mp hz]at e
     rw[e]at hy
     exact qkw hv hy
    ·rcases mem_append.mp he with he|he
     ·exact (l2.all e he).keep kt
     ·rw[mem_singleton.mp he]
      exact ⟨ak3,cs,a,st,rfl,hcs,a0,a1,ov3⟩
  ·rintro σ' H' ⟨es',rfl,kp,l',ak,v,ev,ov⟩
   obtain ⟨dx',ho'⟩:=l'.o
   refine ⟨_,rfl,x,C,dx',_,_,rfl,ho',cl.c,cl.nf,lkL_f,_,rfl,F,q,es',_,v,rfl,rfl,l'.f,λe he=>(l'.all e he).k,ak,ev,k v H' es' kp l' ov⟩
def isB(b:Int):Prop:=∃x,b=b2i x
theorem isB0:isB 0:=⟨false,rfl⟩
theorem yjf{cs:List Int}(h:bits cs){i:Nat}{b:Int}(hb:∃x,b=b2i x):bits (cs.set i b):=λc hc=>by
 rcases List.mem_or_eq_of_mem_set hc with h1|h1
 ·exact h c h1
 ·rw[h1];exact hb
theorem yhg{n:Nat}{cs:List Int}:cs∈qbv n↔cs.length=n/\bits cs:=by
 rw[ybo]
 refine and_congr_right λ_=>⟨λh c hc=>?_,λh c hc=>?_⟩
 ·rcases h c hc with rfl|rfl
  ·exact ⟨false,rfl⟩
  ·exact ⟨true,rfl⟩
 ·obtain ⟨b,rfl⟩:=h c hc
  cases b
  ·exact .inl rfl
  ·exact .inr rfl
theorem stp_bits{cs ds:List Int}{a:Int}{s:Stp}{n:Nat}(h:cs∈qbv n)(e:stp cs a s=some ds):ds∈qbv n:=by
 obtain ⟨l,b⟩:=yhg.mp h
 unfold stp at e
 split at e
 ·cases e;exact yhg.mpr ⟨by rw[length_set];exact l,yjf b ⟨_,rfl⟩⟩
 ·split at e
  ·cases e;exact h
  ·cases e
abbrev Dg:=Int×Addr×Stp
def gon(cs:List Int):List Dg->Option (List Int)
 |[]=>some cs
 |r::l=>match stp cs r.1 r.2.2 with
  |none=>none
  |some ds=>gon ds l
theorem yjl(r:Dg):∀(l:List Dg) (cs:List Int),gon cs (l++[r])=(gon cs l).bind λds=>stp ds r.1 r.2.2
 |[],cs=>by
  show (match stp cs r.1 r.2.2 with|none=>none|some ds=>some ds)=stp cs r.1 r.2.2
  cases stp cs r.1 r.2.2<;>rfl
 |q::l,cs=>by
  show (match stp cs q.1 q.2.2 with|none=>none|some ds=>gon ds (l++[r]))=(match stp cs q.1 q.2.2 with|none=>none|some ds=>gon ds l).bind _
  cases stp cs q.1 q.2.2 with
  |none=>rfl
  |some ds=>exact yjl r l ds
theorem yjs:∀{l m:List Dg}{cs:List Int},gon cs l=none->gon cs (l++m)=none
 |[],m,cs,h=>by cases h
 |q::l,m,cs,h=>by
  show (match stp cs q.1 q.2.2 with|none=>none|some ds=>gon ds (l++m))=none
  have h':(match stp cs q.1 q.2.2 with|none=>none|some ds=>gon ds l)=none:=h
  cases e:stp cs q.1 q.2.2 with
  |none=>rfl
  |some ds=>rw[e]at h';exact yjs h'
structure DgAt(H:Hp)(D:Addr)(us:List V)(rows:List Dg)(n:Nat):Prop where
 l:H D=some (.lst us)
 ft:FT H us (rows.map λr=>[V.int r.1,.ref r.2.1])
 st:∀r∈rows,H r.2.1=some (.tup [.str (qe1 r.2.2.1),.int (b2i r.2.2.2)])/\0<=r.1/\r.1<n
theorem DgAt.kp{P:Program}{w:World}{H H':Hp}{D F:Addr}{us:List V}{rows:List Dg}{n:Nat}{es:List AE}(x:DgAt H D us rows n)(f:H F=some (DA P w F es))(k:LKp H H' F):DgAt H' D us rows n:=by
 have go:∀{b:Addr}{u:HO},H b=some u->(∀φ,u≠.ext φ)->H' b=some u:=λ{b u} h nn=>k b u (λz=>by rw[z,f]at h;exact nn _ (Option.some.inj h).symm) h
 refine ⟨go x.l (λ_ z=>by cases z),⟨x.ft.len,λi v y a b=>?_⟩,λr hr=>⟨go (x.st r hr).1 (λ_ z=>by cases z),(x.st r hr).2⟩⟩
 obtain ⟨c,e,hc⟩:=x.ft.at_ i v y a b
 exact ⟨c,e,go hc (λ_ z=>by cases z)⟩
def qhj(P:Program)(w:World)(C:Addr):Sp:=λvs H Q _=>∃(x L F c:Addr) (n:Nat) (es:List AE) (cs:List Int),vs=[.ref x,.ref c]/\LitO P w H C x L F n es/\H c=some (.tup (cs.map V.int))/\cs.length=n/\∀p H',Same H H'->H p=none->H' p=some (.tup (cs.map V.int))->Q (.ref p) H'
abbrev yau:Stmt:=ybz (top 62) 1
theorem yco:FnScope ["self","contents","cells"] ["self","contents"] (qac yau):=fsc
theorem yl2(B:Bl mg)(cl:CL K C)(ygt:Has P w K mg base 3 "settle" ["harms","cells"] yeg)(F:qbg K C "made_of" "Little.made_of" yau ["self","contents"]):HasM P w K mg base C 4 "made_of" ["self","contents"] (qhj P w C):=by
 refine HasM.ofQ F yco (λvs H Q E h=>?_) (λ_ _ _ _ _ H vs Q E hr h=>?_)
 ·obtain ⟨x,L,F,c,n,es,cs,rfl,_⟩:=h
  rfl
 ·obtain ⟨x,L,F,c,n,es,cs,rfl,lo,hc,ln,k⟩:=h
  have sc:=yco
  refine ⟨_,qaf rfl (yab (qsE 2 sc.nd (qa9 ybx rfl (B.of rfl) boot_list (yaf (qaa (pv 1)) qad))) (yab (qap (qah ygt hr (qfy (qce (qaa (pv 0)) rfl) (yaf (qaa (pv 2)) qad)))) (yac (yah (qa9 qbo rfl (B.of rfl) boot_tuple (yaf (qaa (pv 2)) qad)))))),?_⟩
  obtain ⟨dx,ho⟩:=lo.o
  have n3:=lo.n3
  refine ⟨_,rfl,c,_,rfl,.inr (sqtO hc),λD nD=>?_⟩
  generalize hG1:upd H D _=H1
  have s1:Same H H1:=by rw[<-hG1];exact (smR H).upd nD
  have f1:H1 D=some (.lst (cs.map V.int)):=by rw[<-hG1];exact yaa
  clear hG1
  have l1:=lo.same s1
  refine gn ?_
  refine ⟨_,rfl,x,C,dx,_,_,rfl,s1 _ _ ho,cl.c,cl.nh,lkL_h,_,rfl,L,D,cs,rfl,⟨qae lo.hl nD,l1.hl,f1⟩,by omega,?_⟩
  exact ⟨_,rfl,D,_,rfl,.inl ⟨sqlO f1,λp hp=>k p _ (s1.upd hp) (s1.free hp) yaa⟩⟩
def yhs(P:Program)(w:World)(C:Addr):Sp:=λvs H Q _=>∃(x L F c D:Addr) (ws:List V) (n:Nat) (es:List AE) (cs:List Int) (rows:List Dg),vs=[.ref x,.ref c,.ref D]/\LitO P w H C x L F n es/\H c=some (.tup (cs.map V.int))/\cs∈qbv n/\DgAt H D ws rows n/\
 ∀v H' es',LKp H H' F->LitO P w H' C x L F n es'->OptT H' v (gon cs rows)->Q v H'
abbrev yan:Stmt:=ybz (top 62) 4
theorem ybp:FnScope ["self","contents","doings","address","step"] ["self","contents","doings"] (qac yan):=fsc
theorem yky(cl:CL K C)(qix:HasM P w K mg base C 7 "done" ["self","contents","address","step"] (qh7 P w C))(F:qbg K C "gone_through" "Little.gone_through" yan ["self","contents","doings"]):HasM P w K mg base C 8 "gone_through" ["self","contents","doings"] (yhs P w C):=by
 refine HasM.ofQ F ybp (λvs H Q E h=>?_) (λ_ _ _ _ _ H vs Q E hr h=>?_)
 ·obtain ⟨x,L,F,c,D,ws,n,es,cs,rows,rfl,_⟩:=h
  rfl
 ·obtain ⟨x,L,F,c,D,ws,n,es,cs,rows,rfl,lo,hc,hcs,dg,k⟩:=h
  have sc:=ybp
  refine ⟨_,qaf rfl (yab (ya1 PassesOwn.never rfl (qbi (qaa (pv 2))) (qcs rfl (yaj (pgn 3 sc.nd) (yaj (pgn 4 sc.nd) ya9)))
    (yab (qsE 1 sc.nd (qcy cl.c qix hr (qaa (pv 0)) (yaf (qaa (pv 1)) (yaf (qaa (pv 3)) (yaf (qaa (pv 4)) qad)))))
    (yac (yao (qe2 (qc2 (qfm (pv 1))))
     (yac (yah (qaa qa6)))
     yal))))
   (yac (yah (qaa (pv 1))))),?_⟩
  have wl:ws.length=rows.length:=by have:=dg.ft.len;rw[length_map]at this;exact this
  refine ⟨_,rfl,D,rfl,⟨_,sqlO dg.l⟩,qb3 (xs:=ws) (λi σ H2=>∃(c2:Addr) (ds:List Int) (es2:List AE) (o3 o4:Option V),σ=[some (.ref x),some (.ref c2),some (.ref D),o3,o4]/\LKp H H2 F/\LitO P w H2 C x L F n es2/\H2 c2=some (.tup (ds.map V.int))/\ds∈qbv n/\gon cs (rows.take i)=some ds) ⟨c,cs,es,_,_,rfl,LKp.of (smR _),lo,hc,hcs,rfl⟩ (λi σ H2 _ ⟨_,_,_,_,_,_,kp,_⟩=>sqlO (dg.kp lo.f kp).l) ?_ ?_⟩
  ·rintro i v σ H2 hv ⟨c2,ds,es2,o3,o4,rfl,kp,l2,h2,hds,eg⟩
   have dg2:=dg.kp lo.f kp
   obtain ⟨row,ra,hrow,rfl,hra⟩:=dg2.ft.get hv
   obtain ⟨r,hr',rfl⟩:=qbd hrow
   obtain ⟨hst,r0,r1⟩:=dg2.st r (mem_of_getElem? hr')
   obtain ⟨dx2,ho2⟩:=l2.o
   refine ⟨ra,_,rfl,sqtO hra,rfl,_,_,rfl,_,_,rfl,rfl,?_⟩
   refine ⟨_,rfl,x,dx2,_,rfl,ho2,lkL_n,_,rfl,_,rfl,_,rfl,x,L,F,c2,r.2.1,n,es2,ds,r.1,r.2.2,rfl,l2,h2,hds,r0,r1,hst,λv H3 es3 kp3 l3 ov=>?_⟩
   have eg2:gon cs (rows.take (i+1))=stp ds r.1 r.2.2:=by
    rw[take_add_one,hr',Option.toList_some,yjl,eg]
    rfl
   cases q:stp ds r.1 r.2.2 with
   |none=>
    rw[q]at ov eg2
    cases ov
    refine ⟨_,rfl,?_⟩
    refine ⟨_,rfl,iteB rfl ?_⟩
    refine k .non H3 es3 (kp.trans kp3) l3 ?_
    have:=yjs (m:=rows.drop (i+1)) eg2
    rw[List.take_append_drop]at this
    rw[this]
    rfl
   |some ds'=>
    rw[q]at ov eg2
    obtain ⟨d,rfl,hd⟩:=ov
    refine ⟨_,rfl,?_⟩
    refine ⟨_,rfl,iteN rfl ?_⟩
    exact ⟨d,ds',es3,_,_,rfl,kp.trans kp3,l3,hd,stp_bits hds q,eg2⟩
  ·rintro σ H2 ⟨c2,ds,es2,o3,o4,rfl,kp,l2,h2,hds,eg⟩
   rw[wl,take_length]at eg
   refine ⟨_,rfl,k _ H2 es2 kp l2 ?_⟩
   rw[eg]
   exact ⟨c2,rfl,h2⟩
def kI(cs:List Int):List Key:=cs.map Sum.inl
theorem kI_inj{a b:List Int}(h:kI a=kI b):a=b:=(List.map_inj_right (λx y h=>Sum.inl.inj h)).mp h
theorem kI_kV(cs:List Int):(kI cs).map kV=cs.map V.int:=by
 unfold kI
 rw[map_map]
 rfl
structure FsOk(H:Hp)(n:Nat)(kvs:List (List Key×V)):Prop where
 nd:(kvs.map (·.1)).Nodup
 en:∀e∈kvs,∃hd c ca,e=(kI hd,.ref ca)/\H ca=some (.tup (c.map V.int))/\c∈qbv n/\c=hd
theorem FsOk.keep{H H':Hp}{n:Nat}{kvs:List (List Key×V)}(x:FsOk H n kvs)(ht:∀b ys,H b=some (.tup ys)->H' b=some (.tup ys)):FsOk H' n kvs:=
 ⟨x.nd,λe he=>by obtain ⟨hd,c,ca,e1,e2,e3⟩:=x.en e he;exact ⟨hd,c,ca,e1,ht _ _ e2,e3⟩⟩
theorem qhs{kvs:List (List Key×V)}{k:List Key}{v:V}(j:List Key):j∈(putK kvs k v).map (·.1)↔j∈kvs.map (·.1)\/j=k:=by
 unfold putK
 split
 ·rename_i h
  rw[List.any_eq_true]at h
  obtain ⟨e,he,ek⟩:=h
  rw[map_map]
  have:((λkv:List Key×V=>kv.1) ∘ λkv=>if kv.1=k then (kv.1,v) else kv)=λkv=>kv.1:=by
   funext kv
   show (if kv.1=k then (kv.1,v) else kv).1=kv.1
   split<;>rfl
  rw[this]
  refine ⟨.inl,λh=>h.elim id λz=>?_⟩
  subst z
  have:=of_decide_eq_true ek
  rw[<-this]
  exact mem_map_of_mem he
 ·rw[map_append,mem_append]
  simp
theorem putK_nd{kvs:List (List Key×V)}{k:List Key}{v:V}(h:(kvs.map (·.1)).Nodup):((putK kvs k v).map (·.1)).Nodup:=by
 unfold putK
 split
 ·rw[map_map]
  have:((λkv:List Key×V=>kv.1) ∘ λkv=>if kv.1=k then (kv.1,v) else kv)=λkv=>kv.1:=by
   funext kv
   show (if kv.1=k then (kv.1,v) else kv).1=kv.1
   split<;>rfl
  rw[this]
  exact h
 ·rename_i z
  rw[map_append,List.nodup_append]
  refine ⟨h,by simp,λa ha b hb e=>?_⟩
  rw[show b=k by simpa using hb]at e
  subst e
  obtain ⟨q,hq,rfl⟩:=mem_map.mp ha
  exact z (List.any_eq_true.mpr ⟨q,hq,by simp⟩)
theorem putK_mem{kvs:List (List Key×V)}{k:List Key}{v:V}{e:List Key×V}(h:e∈putK kvs k v):e∈kvs\/e=(k,v):=by
 unfold putK at h
 split at h
 ·obtain ⟨q,hq,rfl⟩:=mem_map.mp h
  split
  ·rename_i z
   exact .inr (by rw[z])
  ·exact .inl hq
 ·exact (mem_append.mp h).imp id λh=>by simpa using h
theorem qmh{H:Hp}:∀(cs:List Int),AtAll H (cs.map V.int) (cs.map PyData.int)
 |[]=>.nil
 |c::r=>.cons (.int c) (qmh r)
theorem tI_lay:∀(cs:List Int),PyData.canLayAll0 (cs.map PyData.int)=true
 |[]=>rfl
 |c::r=>by show (true&&_)=true;rw[tI_lay r];rfl
theorem ymp(cs:List Int):(PyData.tuple (cs.map PyData.int)).canLay0=true:=tI_lay cs
theorem tI_dep(cs:List Int):(PyData.tuple (cs.map PyData.int)).depth<=60:=by
 have:=yct (n:=0) (xs:=cs.map PyData.int) λx hx=>by
  obtain ⟨c,_,rfl⟩:=mem_map.mp hx
  simp[PyData.depth]
 simp only[PyData.depth]
 omega
def qhu(P:Program)(w:World)(C:Addr):Sp:=λvs H Q _=>∃(x dx L0:Addr) (n:Nat),vs=[.ref x,.ref L0,.int (n:Int)]/\H x=some (.ins C dx [])/\H L0=some (.lst [])/\n<=3/\
 ∀(L F:Addr) (H':Hp),(∀b u,b≠x->H b=some u->H' b=some u)->H L=none->H F=none->LitO P w H' C x L F n []->Q .non H'
abbrev yas:Stmt:=ybz (top 62) 0
theorem ycb:FnScope ["self","harms","span"] ["self","harms","span"] (qac yas):=fsc
theorem ql2(B:Bl mg)(cl:CL K C)(F:qbg K C "__init__" "Little.__init__" yas ["self","harms","span"]):HasM P w K mg base C 1 "__init__" ["self","harms","span"] (qhu P w C):=by
 refine HasM.ofQ F ycb (λvs H Q E h=>?_) (λ_ _ _ _ _ H vs Q E hr h=>?_)
 ·obtain ⟨x,dx,L0,n,rfl,_⟩:=h
  rfl
 ·obtain ⟨x,dx,L0,n,rfl,hx,hL,n3,k⟩:=h
  have sc:=ycb
  refine ⟨_,qaf rfl (yab (qhn (qaa (pv 0)) (qa9 ybx rfl (B.of rfl) boot_list (yaf (qaa (pv 1)) qad)) rfl) (yab (qhn (qaa (pv 0)) (qaa (pv 2)) rfl) (yac (qhn (qaa (pv 0)) (qaa pe_dnewA) rfl)))),?_⟩
  refine ⟨_,rfl,L0,_,rfl,.inl (sqlO hL),λL nL=>?_⟩
  generalize hG1:upd H L _=H1
  have s1:Same H H1:=by rw[<-hG1];exact (smR H).upd nL
  have f1:H1 L=some (.lst []):=by rw[<-hG1];exact yaa
  clear hG1
  refine ⟨_,rfl,x,C,dx,_,rfl,s1 _ _ hx,cl.c,cl.nh,by simp,?_⟩
  generalize hG2:upd H1 x _=H2
  have u2:∀b u,b≠x->H1 b=some u->H2 b=some u:=λb u h e=>by rw[<-hG2,qag h];exact e
  have f2:H2 x=some (.ins C dx [("harms",.ref L)]):=by rw[<-hG2];exact yaa
  clear hG2
  refine ⟨_,rfl,_,rfl,x,C,dx,_,rfl,f2,cl.c,cl.ns,by simp,?_⟩
  generalize hG3:upd H2 x _=H3
  have u3:∀b u,b≠x->H2 b=some u->H3 b=some u:=λb u h e=>by rw[<-hG3,qag h];exact e
  have f3:H3 x=some (.ins C dx [("harms",.ref L),("span",.int (n:Int))]):=by
   rw[<-hG3,yaa]
   rfl
  clear hG3
  intro F nF
  generalize hG4:upd H3 F _=H4
  have s4:Same H3 H4:=by rw[<-hG4];exact (smR H3).upd nF
  have f4:H4 F=some (DA P w F []):=by rw[<-hG4];exact yaa
  clear hG4
  refine ⟨_,rfl,x,C,dx,_,rfl,s4 _ _ f3,cl.c,cl.nf,by simp,?_⟩
  generalize hG5:upd H4 x _=H5
  have u5:∀b u,b≠x->H4 b=some u->H5 b=some u:=λb u h e=>by rw[<-hG5,qag h];exact e
  have f5:H5 x=some (.ins C dx (fsL L n F)):=by
   rw[<-hG5,yaa]
   rfl
  clear hG5
  have nLx:L≠x:=(qae hx nL).symm
  have nFx:F≠x:=(qae f3 nF).symm
  have go:∀b u,b≠x->H1 b=some u->H5 b=some u:=λb u h e=>u5 b u h (s4 _ _ (u3 b u h (u2 b u h e)))
  have nF0:H F=none:=by
   cases e:H F with
   |none=>rfl
   |some u=>have:=u3 _ _ nFx (u2 _ _ nFx (s1 _ _ e));rw[nF]at this;cases this
  exact k L F H5 (λb u h e=>go b u h (s1 _ _ e)) nL nF0 ⟨⟨dx,f5⟩,go _ _ nLx f1,n3,u5 _ _ nFx f4,nodup_nil,(λ_ h=>nomatch h)⟩
def yfu(P:Program)(w:World)(C:Addr):Sp:=λvs H Q _=>∃(x L F:Addr) (n:Nat) (es:List AE),vs=[.ref x]/\LitO P w H C x L F n es/\∀(D:Addr) (kvs:List (List Key×V)) (H':Hp),Same H H'->H D=none->H' D=some (.dT kvs)->FsOk H' n kvs->(∀c∈qbv n,kI c∈kvs.map (·.1))->Q (.ref D) H'
abbrev yaw:Stmt:=ybz (top 62) 2
theorem qc4:FnScope ["self","made","contents","held"] ["self"] (qac yaw):=fsc
theorem yio(cl:CL K C)(qf6:Has P w K mg base 1 "all_contents" ["count"] ykz)(qis:HasM P w K mg base C 4 "made_of" ["self","contents"] (qhj P w C))(F:qbg K C "firsts" "Little.firsts" yaw ["self"]):HasM P w K mg base C 5 "firsts" ["self"] (yfu P w C):=by
 refine HasM.ofQ F qc4 (λvs H Q E h=>?_) (λ_ _ _ _ _ H vs Q E hr h=>?_)
 ·obtain ⟨x,L,F,n,es,rfl,_⟩:=h
  rfl
 ·obtain ⟨x,L,F,n,es,rfl,lo,k⟩:=h
  have sc:=qc4
  refine cutA [1] ⟨_,qaf rfl (yab (ya1 PassesOwn.never rfl (qbi (qah qf6 hr (qfy (qce (qaa (pv 0)) rfl) qad))) (pgn 2 sc.nd)
    (yab (qsE 3 sc.nd (qcy cl.c qis hr (qaa (pv 0)) (yaf (qaa (pv 2)) qad)))
    (yac (yao (QW.pt (qi5 (qe2 (qc2 (ymn (ym0 hr) (QE.of (qaa (pv 3))) (QE.of (qaa (pv 1)))) (by with_unfolding_all rfl))) (qgn (qaj (op_eqD hr) (qaa (pv 3)) (qaa (pv 2)) (yai _)))))
     (yac (qdm (ps_dput (ym0 hr) (QE.of (qaa (pv 1))) (QE.of (qaa (pv 3))) (QE.of (qaa (pv 2))) rfl)))
     yal)))) (yac (yah (qaa (pv 1)))))⟩ ?_
  intro c1
  refine ⟨_,qaf rfl (yab (qsE 1 sc.nd (qaa pe_dnewT)) c1.2),?_⟩
  obtain ⟨dx,ho⟩:=lo.o
  have n3:=lo.n3
  intro M nM
  generalize hG1:upd H M _=H1
  have s1:Same H H1:=by rw[<-hG1];exact (smR H).upd nM
  have f1:H1 M=some (.dT []):=by rw[<-hG1];exact yaa
  clear hG1
  refine gn ?_
  refine ⟨_,rfl,x,C,dx,_,_,rfl,s1 _ _ ho,cl.c,cl.ns,lkL_s,n,rfl,n3,λp ts H2 s2 np ep tp ets=>?_⟩
  have lr:(qbu ts).length=ts.length:=by unfold qbu;rw[length_map]
  have l8:ts.length<=8:=by
   have:=congrArg List.length ets
   rw[length_map,yf5]at this
   rw[this]
   match n,n3 with
   |0,_=>decide
   |1,_=>decide
   |2,_=>decide
   |3,_=>decide
  have npM:p≠M:=(qae f1 np).symm
  refine ⟨p,rfl,⟨_,sqlO ep⟩,qb3 (xs:=qbu ts) (λi σ Hk=>∃(kvs:List (List Key×V)) (o2 o3:Option V),σ=[some (.ref x),some (.ref M),o2,o3]/\(∀b u,b≠M->H2 b=some u->Hk b=some u)/\Hk M=some (.dT kvs)/\FsOk Hk n kvs/\(∀c∈(ts.take i).map (·.2),kI c∈kvs.map (·.1))/\kvs.length<=i)
   ⟨[],_,_,rfl,λb u _ e=>e,s2 _ _ f1,⟨nodup_nil,(λ_ h=>nomatch h)⟩,(λ_ h=>nomatch h),le_refl _⟩ (λi σ Hk _ ⟨_,_,_,_,kp,_⟩=>sqlO (kp _ _ npM ep)) ?_ ?_⟩
  ·rintro i v σ Hk hv ⟨kvs,o2,o3,rfl,kp,eM,fs,cov,kl⟩
   obtain ⟨t,ht,rfl⟩:=ygu hv
   have htm:=mem_of_getElem? ht
   have hi:i<ts.length:=(List.getElem?_eq_some_iff.mp ht).1
   have sk:Same H Hk:=λb u e=>kp b u (qae e nM) (s2 _ _ (s1 _ _ e))
   have lk:=lo.same sk
   obtain ⟨dxk,hok⟩:=lk.o
   have htk:Hk t.1=some (.tup (t.2.map V.int)):=kp _ _ (λz=>by have:=tp t htm;rw[z,s2 _ _ f1]at this;cases this) (tp t htm)
   have tb:t.2∈qbv n:=by rw[<-ets];exact mem_map_of_mem (f:=(·.2)) htm
   have tl:t.2.length=n:=(ybo.mp tb).1
   refine gn ?_
   refine ⟨_,rfl,x,dxk,_,rfl,hok,lkL_n,_,rfl,x,L,F,t.1,n,es,t.2,rfl,lk,htk,tl,λph H3 s3 nph eph=>?_⟩
   have eM3:=s3 _ _ eM
   have kp3:∀b u,b≠M->H2 b=some u->H3 b=some u:=λb u h e=>s3 _ _ (kp b u h e)
   have fs3:=fs.keep λb ys h=>s3 _ _ h
   have ekh:H3 ph=some (.tup ((kI t.2).map kV)):=by rw[kI_kV];exact eph
   have cov2:∀{kvs':List (List Key×V)},(∀j,j∈kvs.map (·.1)->j∈kvs'.map (·.1))->(kI t.2)∈kvs'.map (·.1)->∀c∈(ts.take (i+1)).map (·.2),kI c∈kvs'.map (·.1):=λ{kvs'} h1 h2 c hc=>by
    rw[take_add_one,ht,map_append,mem_append]at hc
    rcases hc with hc|hc
    ·exact h1 _ (cov c hc)
    ·rw[show c=t.2 by simpa using hc]
     exact h2
   have putB:∃(kvs':List (List Key×V)) (o2 o3:Option V),[some (V.ref x),some (.ref M),some (.ref t.1),some (.ref ph)]=[some (.ref x),some (.ref M),o2,o3]/\(∀b u,b≠M->H2 b=some u->upd H3 M (.dT (putK kvs (kI t.2) (.ref t.1))) b=some u)/\upd H3 M (.dT (putK kvs (kI t.2) (.ref t.1))) M=some (.dT kvs')/\FsOk (upd H3 M (.dT (putK kvs (kI t.2) (.ref t.1)))) n kvs'/\(∀c∈(ts.take (i+1)).map (·.2),kI c∈kvs'.map (·.1))/\kvs'.length<=i+1:=by
    have kt:∀b ys,H3 b=some (.tup ys)->upd H3 M (.dT (putK kvs (kI t.2) (.ref t.1))) b=some (.tup ys):=λb ys h=>by
     rw[qag (λz=>by rw[z,eM3]at h;cases h)]
     exact h
    refine ⟨_,_,_,rfl,λb u h e=>by rw[qag h];exact kp3 b u h e,yaa,⟨putK_nd fs.nd,λe he=>?_⟩,cov2 (λj hj=>(qhs j).mpr (.inl hj)) ((qhs _).mpr (.inr rfl)),by have:=yb9 kvs (kI t.2) (.ref t.1);omega⟩
    rcases putK_mem he with he|rfl
    ·exact (fs3.keep kt).en e he
    ·exact ⟨_,t.2,t.1,rfl,kt _ _ (s3 _ _ htk),tb,rfl⟩
   refine ⟨_,rfl,_,rfl,M,_,rfl,DGet.t (k:=(kI t.2)) eM3 ekh,_,rfl,?_⟩
   cases hvv:valV kvs (kI t.2) with
   |none=>
    refine iteB rfl ?_
    refine iteB rfl ?_
    exact ⟨_,rfl,_,rfl,_,rfl,M,_,rfl,DPut.t (k:=(kI t.2)) eM3 ekh (ybe (by omega)),putB⟩
   |some v0=>
    refine iteN rfl ?_
    refine ⟨_,rfl,_,rfl,_,_,.tup eph (qmh _),.tup (s3 _ _ htk) (qmh _),ymp _,ymp _,tI_dep _,_,rfl,?_⟩
    cases hq:PyData.eqv (.tuple (t.2.map PyData.int)) (.tuple (t.2.map PyData.int)) with
    |true=>
     refine iteB rfl ?_
     exact ⟨_,rfl,_,rfl,_,rfl,M,_,rfl,DPut.t (k:=(kI t.2)) eM3 ekh (ybe (by omega)),putB⟩
    |false=>
     refine iteN rfl ?_
     exact ⟨kvs,_,_,rfl,kp3,eM3,fs3,cov2 (λj h=>h) (valV_in hvv),by omega⟩
  ·rintro σ Hk ⟨kvs,o2,o3,rfl,kp,eM,fs,cov,kl⟩
   rw[lr,take_length,ets]at cov
   exact ⟨_,rfl,k M kvs Hk (λb u e=>kp b u (qae e nM) (s2 _ _ (s1 _ _ e))) nM eM fs cov⟩
structure MemE(H:Hp)(C m L Cc:Addr)(cs:List Int):Prop where
 o:∃dx,H m=some (.ins C dx (fsM L Cc))
 m:Em H L Cc cs
theorem MemE.same{H H':Hp}{C m L Cc:Addr}{cs:List Int}(x:MemE H C m L Cc cs)(s:Same H H'):MemE H' C m L Cc cs:=by
 obtain ⟨dx,h⟩:=x.o
 exact ⟨⟨dx,s _ _ h⟩,x.m.same s⟩
theorem MemE.up{H H':Hp}{C m L Cc:Addr}{cs ds:List Int}(x:MemE H C m L Cc cs)(u:UpC H Cc ds H'):MemE H' C m L Cc ds:=by
 obtain ⟨dx,h⟩:=x.o
 exact ⟨⟨dx,u.st _ _ (λz=>by rw[z,x.m.hc]at h;cases h) h⟩,x.m.up u⟩
theorem qir{P:Program}{w:World}{K:W.Frag}{mg:Str->Option Value}{base:Heap}{x:Str}{ps:List Str}{k:Nat}{sp sp':Sp}(h:HasX P w K mg base k x ps sp)(i:∀vs H Q E,sp' vs H Q E->sp vs H Q λ_ _ _=>False):Has P w K mg base k x ps sp':=by
 obtain ⟨f,fd,h1,h2,h3,F⟩:=h
 refine ⟨f,fd,h1,h2,h3,λvs H Q E hs=>F.len vs H Q _ (i vs H Q E hs),λA outer s H args us vs Q E hr he hb hv hs=>codeAny_mono (F.run A outer s H args us vs Q _ hr he hb hv (i vs H Q E hs)) λr s' h=>?_⟩
 cases r with
 |error e=>
  obtain ⟨_,_,_,_,_,_,_,_,_,_,_,_,h⟩:=h
  exact h.elim
 |ok fl=>cases fl<;>exact h
def qcn:Sp:=λvs H Q _=>∃L:Addr,vs=[.ref L]/\H L=some (.lst [])/\∀(D:Addr) (H':Hp),Same H H'->H D=none->H' D=some (.lst [])->Q (.ref D) H'
theorem qmo{C:Addr}(h:HasX P w K mg base 7 "cells_of" ["harms"] (qfd C)):Has P w K mg base 7 "cells_of" ["harms"] qcn:=qir h λvs H Q E ⟨L,e,hL,k⟩=>⟨_,.list [],e,.inl (.lst hL .nil),λ_ D ns H' s n hD pm _=>k D H' s n (by rw[hD,(List.perm_nil.mp pm:ns=[])];rfl),λb hb=>by cases hb⟩
def yjw:Sp:=λvs H Q _=>∃L C cs,vs=[.int (cs.length:Nat),.ref L,.ref C]/\H L=some (.lst [])/\H C=some (.lst (cs.map V.int))/\bits cs/\1<=cs.length/\cs.length<=64/\∀H',Same H H'->Q .non H'
theorem ok_lmem0(B:Bl mg)(qbc:Has P w K mg base 7 "cells_of" ["harms"] qcn)(qk4:Has P w K mg base 2 "is_size" ["thing"] yge)(yf8:Has P w K mg base 3 "are_contents" ["thing","size"] yc8)(F:FnAt K mg "look_at_memory" yb0 ["size","harms","contents"]):Has P w K mg base 8 "look_at_memory" ["size","harms","contents"] yjw:=by
 refine Has.of F qcq (λvs H Q E h=>?_) (λ_ _ _ _ _ H vs Q E hr h=>?_)
 ·obtain ⟨L,C,cs,rfl,_⟩:=h
  rfl
 ·obtain ⟨L,C,cs,rfl,hL,hC,hb,hl1,hl2,k⟩:=h
  have sc:=qcq
  refine ⟨_,(ya5 (pst 3 sc.nd (qam qbc hr (qab (pv 1) yae)))
   (ya5 (yie (qgg (yeu (qam qk4 hr (qab (pv 0) yae))))
    (qax yeb)
    yeo)
   (ya5 (yie (PW.pt (ql8 (qb1 qhp (qan qai rfl (B.of rfl) boot_len (qab (pv 3) yae)) yad (yai _)) (qi4 (qb1 qkb (qbe qal (pv 3) (pe_un un_neg yad)) (pv 0) (yai _)))))
    (qax yeb)
    yeo)
   (qax (yie (qgg (yeu (qam yf8 hr (qab (pv 2) (qab (pv 0) yae)))))
    (qax yeb)
    yeo))))),?_⟩
  refine ⟨_,rfl,L,rfl,hL,λD H1 s1 hD eD=>?_⟩
  refine ⟨_,rfl,_,rfl,by omega,by omega,_,rfl,iteF ?_⟩
  refine ⟨_,rfl,D,_,rfl,.inl (sqlO eD),_,_,rfl,rfl,_,rfl,qf2 (by simp) ?_⟩
  exact ⟨_,rfl,_,rfl,C,cs,rfl,s1 _ _ hC,hb,hl2,λH2 s2=>⟨_,rfl,iteF (k _ (s1.trans s2))⟩⟩
def yfx(C:Addr):Sp:=λvs H Q _=>∃m L Cc cs a,vs=[.ref m,.int a]/\MemE H C m L Cc cs/\0<=a/\a<cs.length/\Q .non H
theorem yk2(B:Bl mg)(cm:CM K C)(ybc:Has P w K mg base 1 "is_whole" ["thing"] yc1)(F:qbg K C "look_at_address" "Memory.look_at_address" yak ["self","address"]):HasM P w K mg base C 2 "look_at_address" ["self","address"] (yfx C):=by
 refine HasM.ofQ F ybf (λvs H Q E h=>?_) (λ_ _ _ _ _ H vs Q E hr h=>?_)
 ·obtain ⟨m,L,Cc,cs,a,rfl,_⟩:=h
  rfl
 ·obtain ⟨m,L,Cc,cs,a,rfl,⟨⟨dx,ho⟩,mm⟩,h0,h1,k⟩:=h
  have sc:=ybf
  refine ⟨_,qaf rfl (yac (yao (QW.pt (qi5 (ydd (qbq (qah ybc hr (yaf (qaa (pv 1)) qad)))) (qi5 (qaj op_lt (qaa (pv 1)) (qaa yad) (yai _)) (qgn (qaj qkb (qaa (pv 1)) (qas qai rfl (B.of rfl) boot_len (qfy (qce (qaa (pv 0)) rfl) qad)) (yai _))))))
    (yac (qdm yeb))
    yal)),?_⟩
  refine ⟨_,rfl,a,rfl,_,rfl,iteN rfl ?_⟩
  refine ⟨_,rfl,_,_,rfl,rfl,_,rfl,qf2 (by omega) ?_⟩
  refine ⟨_,rfl,_,rfl,m,C,dx,_,_,rfl,ho,cm.c,cm.nc,lk_c,Cc,_,rfl,.inl (sqlO mm.hc),_,_,rfl,rfl,_,rfl,qf2 (by rw[length_map];omega) ?_⟩
  exact k
def yh9(C:Addr):Sp:=λvs H Q _=>∃m L Cc cs a,vs=[.ref m,.int a]/\MemE H C m L Cc cs/\0<=a/\a<cs.length/\∀H',Same H H'->Q (.int (rd cs a)) H'
theorem yli(cm:CM K C)(qek:HasM P w K mg base C 2 "look_at_address" ["self","address"] (yfx C))(ye8:Has P w K mg base 4 "read_at" ["harms","cells","address"] qij)(F:qbg K C "read" "Memory.read" qa3 ["self","address"]):HasM P w K mg base C 5 "read" ["self","address"] (yh9 C):=by
 refine HasM.ofQ F qdn (λvs H Q E h=>?_) (λ_ _ _ _ _ H vs Q E hr h=>?_)
 ·obtain ⟨m,L,Cc,cs,a,rfl,_⟩:=h
  rfl
 ·obtain ⟨m,L,Cc,cs,a,rfl,mo,h0,h1,k⟩:=h
  obtain ⟨⟨dx,ho⟩,mm⟩:=id mo
  have sc:=qdn
  refine ⟨_,qaf rfl (yab (qap (qcy cm.c qek hr (qaa (pv 0)) (yaf (qaa (pv 1)) qad)))
   (yac (yah (qah ye8 hr (qfy (qce (qaa (pv 0)) rfl) (qfy (qce (qaa (pv 0)) rfl) (yaf (qaa (pv 1)) qad))))))),?_⟩
  refine ⟨_,rfl,m,dx,_,rfl,ho,lk_n,_,rfl,m,L,Cc,cs,a,rfl,mo,h0,h1,?_⟩
  refine ⟨_,rfl,m,C,dx,_,_,rfl,ho,cm.c,cm.nh,lk_h,_,rfl,m,C,dx,_,_,rfl,ho,cm.c,cm.nc,lk_c,_,rfl,L,Cc,cs,a,rfl,mm,h0,h1,k⟩
def ygi(C:Addr):Sp:=λvs H Q _=>∃m L Cc cs a b,vs=[.ref m,.int a,.int (b2i b)]/\MemE H C m L Cc cs/\0<=a/\a<cs.length/\∀H',UpC H Cc (cs.set a.toNat (b2i b)) H'->Q .non H'
theorem qka(cm:CM K C)(qek:HasM P w K mg base C 2 "look_at_address" ["self","address"] (yfx C))(yg6:Has P w K mg base 3 "look_at_bit" ["thing"] qdp)(yei:Has P w K mg base 5 "write_at" ["harms","cells","address","bit"] qi8)(F:qbg K C "write" "Memory.write" qay ["self","address","bit"]):HasM P w K mg base C 6 "write" ["self","address","bit"] (ygi C):=by
 refine HasM.ofQ F qda (λvs H Q E h=>?_) (λ_ _ _ _ _ H vs Q E hr h=>?_)
 ·obtain ⟨m,L,Cc,cs,a,b,rfl,_⟩:=h
  rfl
 ·obtain ⟨m,L,Cc,cs,a,b,rfl,mo,h0,h1,k⟩:=h
  obtain ⟨⟨dx,ho⟩,mm⟩:=id mo
  have sc:=qda
  refine cutA [1] ⟨_,qaf rfl (yab (qap (qah yg6 hr (yaf (qaa (pv 2)) qad))) (yac (qap (qah yei hr (qfy (qce (qaa (pv 0)) rfl) (qfy (qce (qaa (pv 0)) rfl) (yaf (qaa (pv 1)) (yaf (qaa (pv 2)) qad))))))))⟩ ?_
  intro c1
  refine ⟨_,qaf rfl (yab (qap (qcy cm.c qek hr (qaa (pv 0)) (yaf (qaa (pv 1)) qad))) c1.2),?_⟩
  refine ⟨_,rfl,m,dx,_,rfl,ho,lk_n,_,rfl,m,L,Cc,cs,a,rfl,mo,h0,h1,?_⟩
  refine ⟨_,rfl,b,rfl,λH1 s1=>?_⟩
  have ho1:=s1 _ _ ho
  refine ⟨_,rfl,m,C,dx,_,_,rfl,ho1,cm.c,cm.nh,lk_h,_,rfl,m,C,dx,_,_,rfl,ho1,cm.c,cm.nc,lk_c,_,rfl,_,rfl,L,Cc,cs,a,_,rfl,mm.same s1,h0,h1,λH2 u2=>?_⟩
  exact k H2 ((UpC.of s1 mm.hc).trans u2)
def qhy(C:Addr):Sp:=λvs H Q _=>∃m L Cc cs,vs=[.ref m]/\MemE H C m L Cc cs/\Q (.int (cs.length:Nat)) H
theorem qk0(B:Bl mg)(cm:CM K C)(F:qbg K C "size" "Memory.size" qa2 ["self"]):HasM P w K mg base C 1 "size" ["self"] (qhy C):=by
 refine HasM.ofQ F ydo (λvs H Q E h=>?_) (λ_ _ _ _ _ H vs Q E hr h=>?_)
 ·obtain ⟨m,L,Cc,cs,rfl,_⟩:=h
  rfl
 ·obtain ⟨m,L,Cc,cs,rfl,⟨⟨dx,ho⟩,mm⟩,k⟩:=h
  have sc:=ydo
  refine ⟨_,qaf rfl (yac (yah (qas qai rfl (B.of rfl) boot_len (qfy (qce (qaa (pv 0)) rfl) qad)))),?_⟩
  refine ⟨_,rfl,m,C,dx,_,_,rfl,ho,cm.c,cm.nc,lk_c,Cc,_,rfl,.inl (sqlO mm.hc),?_⟩
  rw[length_map]
  exact k
def qic(C:Addr):Sp:=λvs H Q _=>∃(x dx L0 C0:Addr) (cs:List Int),vs=[.ref x,.int (cs.length:Nat),.ref L0,.ref C0]/\H x=some (.ins C dx [])/\H L0=some (.lst [])/\H C0=some (.lst (cs.map V.int))/\bits cs/\1<=cs.length/\cs.length<=64/\
 ∀(L Cc:Addr) (H':Hp),(∀b u,b≠x->H b=some u->H' b=some u)->H L=none->H Cc=none->MemE H' C x L Cc cs->Q .non H'
theorem ylq(B:Bl mg)(cm:CM K C)(ye2:Has P w K mg base 8 "look_at_memory" ["size","harms","contents"] yjw)(ygt:Has P w K mg base 3 "settle" ["harms","cells"] yeg)(F:qbg K C "__init__" "Memory.__init__" qat ["self","size","harms","contents"]):HasM P w K mg base C 9 "__init__" ["self","size","harms","contents"] (qic C):=by
 refine HasM.ofQ F ycc (λvs H Q E h=>?_) (λ_ _ _ _ _ H vs Q E hr h=>?_)
 ·obtain ⟨x,dx,L0,C0,cs,rfl,_⟩:=h
  rfl
 ·obtain ⟨x,dx,L0,C0,cs,rfl,hx,hL,hC,hb,l1,l64,k⟩:=h
  have sc:=ycc
  refine cutA [1] ⟨_,qaf rfl (yab (qhn (qaa (pv 0)) (qa9 ybx rfl (B.of rfl) boot_list (yaf (qaa (pv 2)) qad)) rfl) (yab (qhn (qaa (pv 0)) (qa9 ybx rfl (B.of rfl) boot_list (yaf (qaa (pv 3)) qad)) rfl) (yac (qap (qah ygt hr (qfy (qce (qaa (pv 0)) rfl) (qfy (qce (qaa (pv 0)) rfl) qad)))))))⟩ ?_
  intro c1
  refine ⟨_,qaf rfl (yab (qap (qah ye2 hr (yaf (qaa (pv 1)) (yaf (qaa (pv 2)) (yaf (qaa (pv 3)) qad))))) c1.2),?_⟩
  refine ⟨_,rfl,_,rfl,_,rfl,L0,C0,cs,rfl,hL,hC,hb,l1,l64,λH1 s1=>?_⟩
  refine ⟨_,rfl,L0,_,rfl,.inl (sqlO (s1 _ _ hL)),λL n1=>?_⟩
  have s2:Same H1 (upd H1 L (.lst [])):=(smR H1).upd n1
  have f2:=@yaa H1 L (.lst [])
  revert s2 f2
  generalize upd H1 L _=H2
  intro s2 f2
  have s12:=s1.trans s2
  refine ⟨_,rfl,x,C,dx,_,rfl,s12 _ _ hx,cm.c,cm.nh,by simp,?_⟩
  have nLx:L≠x:=λz=>by subst z;rw[s1 _ _ hx]at n1;cases n1
  have u3:∀b u,b≠x->H2 b=some u->upd H2 x (.ins C dx (putF "harms" (.ref L) [])) b=some u:=λb u h e=>by rw[qag h];exact e
  have f3:upd H2 x (.ins C dx (putF "harms" (.ref L) [])) x=some (.ins C dx [("harms",.ref L)]):=yaa
  revert u3 f3
  generalize upd H2 x _=H3
  intro u3 f3
  have nx:∀{b:Addr}{xs:List V},H b=some (.lst xs)->b≠x:=λe z=>by subst z;rw[hx]at e;cases e
  refine ⟨_,rfl,C0,_,rfl,.inl (sqlO (u3 _ _ (nx hC) (s12 _ _ hC))),λCc n4=>?_⟩
  have nCx:Cc≠x:=λz=>by subst z;rw[f3]at n4;cases n4
  have nLC:L≠Cc:=λz=>by subst z;rw[u3 _ _ nLx f2]at n4;cases n4
  have s4:Same H3 (upd H3 Cc (.lst (cs.map V.int))):=(smR H3).upd n4
  have f4:=@yaa H3 Cc (.lst (cs.map V.int))
  revert s4 f4
  generalize upd H3 Cc _=H4
  intro s4 f4
  refine ⟨_,rfl,x,C,dx,_,rfl,s4 _ _ f3,cm.c,cm.nc,by simp,?_⟩
  have u5:∀b u,b≠x->H4 b=some u->upd H4 x (.ins C dx (putF "cells" (.ref Cc) [("harms",.ref L)])) b=some u:=λb u h e=>by rw[qag h];exact e
  have f5:upd H4 x (.ins C dx (putF "cells" (.ref Cc) [("harms",.ref L)])) x=some (.ins C dx (fsM L Cc)):=by
   rw[yaa]
   have:putF "cells" (V.ref Cc) [("harms",.ref L)]=fsM L Cc:=by
    unfold fsM putF
    rw[if_neg (by decide +kernel)]
    rfl
   rw[this]
  revert u5 f5
  generalize upd H4 x _=H5
  intro u5 f5
  have hc0:H Cc=none:=by
   cases e:H Cc with
   |none=>rfl
   |some u=>have:=u3 _ _ nCx (s12 _ _ e);rw[n4]at this;cases this
  have hl0:H L=none:=s1.free n1
  have up:∀b u,b≠x->H b=some u->H5 b=some u:=λb u h e=>u5 _ _ h (s4 _ _ (u3 _ _ h (s12 _ _ e)))
  have m5:Em H5 L Cc cs:=⟨nLC,u5 _ _ nLx (s4 _ _ (u3 _ _ nLx f2)),u5 _ _ nCx f4⟩
  exact ⟨_,rfl,x,C,dx,_,_,rfl,f5,cm.c,cm.nh,lk_h,_,rfl,x,C,dx,_,_,rfl,f5,cm.c,cm.nc,lk_c,L,Cc,cs,rfl,m5,l64,k L Cc H5 up hl0 hc0 ⟨⟨dx,f5⟩,m5⟩⟩
def ixP(up:Bool)(k n:Nat):List (Int×Nat):=(ydt up n).flatMap λa=>(List.range k).map λp=>(a,p)
theorem qjq(up:Bool)(ws:List V)(n:Nat):qlb up ws n=(ixP up ws.length n).map λx=>[V.int x.1,.int x.2,ws.getD x.2 .non]:=by
 unfold qlb ixP rowD
 rw[List.map_flatMap]
 simp[Function.comp_def]
theorem qlp{up:Bool}{k n:Nat}{x:Int×Nat}(h:x∈ixP up k n):0<=x.1/\x.1<n/\x.2<k:=by
 obtain ⟨a,ha,hx⟩:=mem_flatMap.mp h
 obtain ⟨p,hp,rfl⟩:=mem_map.mp hx
 obtain ⟨t,ht,rfl⟩:=mem_map.mp ha
 have h1:=mem_range.mp ht
 have h2:=mem_range.mp hp
 refine ⟨?_,?_,h2⟩<;>dsimp only<;>split<;>omega
theorem yiz(up:Bool)(k n:Nat):(ixP up k n).length=n*k:=by
 unfold ixP
 rw[List.length_flatMap]
 simp only[ydt,map_map,Function.comp_def,length_map,List.length_range]
 induction n with
 |zero=>simp
 |succ m ih=>
  rw[List.range_succ,map_append,List.sum_append,ih,Nat.succ_mul]
  simp
abbrev Op:=Int×Stp
def eOps(o:Str)(ss:List Stp):List Op:=(ixP (decide (o="up")) ss.length 2).map λx=>(x.1,ss.getD x.2 (false,false))
def tOps(T:List Elm)(os:List Str):List Op:=(T.zip os).flatMap λz=>eOps z.2 z.1.2
def opC(cs:List Int)(x:Op):List Int:=if x.2.1=true then cs.set x.1.toNat (b2i x.2.2) else cs
def runB:List Int->List Op->List Int
 |_,[]=>[]
 |cs,x::r=>if x.2.1=true then runB (opC cs x) r else rd cs x.1::runB cs r
theorem qb7(cs:List Int)(x:Op)(r:List Op):runB cs (x::r)=if x.2.1=true then runB (opC cs x) r else rd cs x.1::runB cs r:=rfl
theorem qe7:∀(l m:List Op) (cs:List Int),runB cs (l++m)=runB cs l++runB (l.foldl opC cs) m
 |[],m,cs=>rfl
 |x::l,m,cs=>by
  rw[List.cons_append,List.foldl_cons,qb7,qb7,qe7 l m (opC cs x)]
  by_cases h:x.2.1=true
  ·rw[if_pos h,if_pos h]
  ·rw[if_neg h,if_neg h,qe7 l m cs,show opC cs x=cs from if_neg h,List.cons_append]
theorem qd2:∀(l:List Op) (cs:List Int),(runB cs l).length<=l.length
 |[],cs=>le_refl _
 |x::l,cs=>by
  unfold runB
  split
  ·exact Nat.le_succ_of_le (qd2 l _)
  ·exact Nat.succ_le_succ (qd2 l _)
theorem qlg(cs:List Int)(x:Op):(opC cs x).length=cs.length:=by
 unfold opC
 split
 ·exact length_set
 ·rfl
theorem ye4:∀(l:List Op) (cs:List Int),(l.foldl opC cs).length=cs.length
 |[],_=>rfl
 |x::l,cs=>(ye4 l _).trans (qlg cs x)
theorem eOps_len{o:Str}{ss:List Stp}:(eOps o ss).length=2*ss.length:=by unfold eOps;rw[length_map,yiz]
theorem eOps_in{o:Str}{ss:List Stp}{x:Op}(h:x∈eOps o ss):0<=x.1/\x.1<2:=by
 obtain ⟨y,hy,rfl⟩:=mem_map.mp h
 obtain ⟨a,b,_⟩:=qlp hy
 exact ⟨a,b⟩
theorem tOps_in{T:List Elm}{os:List Str}{x:Op}(h:x∈tOps T os):0<=x.1/\x.1<2:=by
 obtain ⟨z,_,h⟩:=mem_flatMap.mp h
 exact eOps_in h
theorem ye6{T:List Elm}{os:List Str}(ok:okT T):(tOps T os).length<=96:=by
 have h:∀(zs:List (Elm×Str)),(∀z∈zs,z.1.2.length<=6)->(zs.flatMap λz=>eOps z.2 z.1.2).length<=12*zs.length:=λzs=>by
  induction zs with
  |nil=>intro _;exact le_refl _
  |cons z zs ih=>
   intro h
   have h1:=ih λy hy=>h y (mem_cons_of_mem _ hy)
   have h2:=h z mem_cons_self
   rw[flatMap_cons,length_append,eOps_len,length_cons]
   omega
 refine le_trans (h (T.zip os) λz hz=>(ok.2.2 z.1 (of_mem_zip hz).1).2.2) ?_
 have:(T.zip os).length<=8:=by rw[length_zip];have:=ok.2.1;omega
 omega
structure RowsB(H:Hp)(us:List V)(bs:List Int):Prop where
 len:us.length=bs.length
 at_:∀(i:Nat) (v:V) (b:Int),us[i]?=some v->bs[i]?=some b->∃a x y z,v=.ref a/\H a=some (.tup [x,y,z,.int b])
theorem RowsB.kt{H H':Hp}{us:List V}{bs:List Int}(h:RowsB H us bs)(s:∀b t,H b=some (.tup t)->H' b=some (.tup t)):RowsB H' us bs:=⟨h.len,λi v b h1 h2=>by
 obtain ⟨a,x,y,z,e,ha⟩:=h.at_ i v b h1 h2
 exact ⟨a,x,y,z,e,s _ _ ha⟩⟩
theorem RowsB.snoc{H:Hp}{us:List V}{bs:List Int}(h:RowsB H us bs){a:Addr}{x y z:V}{b:Int}(ha:H a=some (.tup [x,y,z,.int b])):RowsB H (us++[.ref a]) (bs++[b]):=by
 refine ⟨by rw[length_append,length_append,h.len];rfl,λi v c h1 h2=>?_⟩
 by_cases hi:i<us.length
 ·rw[getElem?_append_left hi]at h1
  rw[getElem?_append_left (by rw[<-h.len];exact hi)]at h2
  exact h.at_ i v c h1 h2
 ·rw[getElem?_append_right (by omega)]at h1
  rw[getElem?_append_right (by rw[<-h.len];omega),<-h.len]at h2
  cases q:i-us.length with
  |zero=>rw[q]at h1 h2;cases h1;cases h2;exact ⟨a,x,y,z,rfl,ha⟩
  |succ n=>rw[q]at h1;simp at h1
def ygp(C:Addr):Sp:=λvs H Q _=>∃(G:Hp) (t m O L Cc:Addr) (T:List Elm) (os:List Str) (cs:List Int),vs=[.ref t,.ref m,.ref O]/\Same G H/\G Cc=none/\At G (.ref t) (qci T)/\okT T/\MemE H C m L Cc cs/\cs.length=2/\G O=some (.lst (os.map V.str))/\OrdOk T os/\
 ∀(D:Addr) (us:List V) (H':Hp),Same G H'->G D=none->H' D=some (.lst us)->RowsB H' us (runB cs (tOps T os))->Q (.ref D) H'
abbrev qdv:Stmt:=top 74
theorem qew:FnScope ["test","memory","orders","told","number","element","address","place","step"] ["test","memory","orders"] (qac qdv):=fsc
theorem ykb(B:Bl mg)(cm:CM K C)(yi3:Has P w K mg base 1 "deeds" ["order","steps","size"] qg9)(yiu:HasM P w K mg base C 5 "read" ["self","address"] (yh9 C))(yg0:HasM P w K mg base C 6 "write" ["self","address","bit"] (ygi C))(qit:HasM P w K mg base C 1 "size" ["self"] (qhy C))(F:FnAt K mg "all_reads" qdv ["test","memory","orders"]):Has P w K mg base 7 "all_reads" ["test","memory","orders"] (ygp C):=by
 refine Has.ofQ F qew (λvs H Q E h=>?_) (λ_ _ _ _ _ H vs Q E hr h=>?_)
 ·obtain ⟨G,t,m,O,L,Cc,T,os,cs,rfl,_⟩:=h
  rfl
 ·obtain ⟨G,t,m,O,L,Cc,T,os,cs,rfl,sG,nC,ht,okt,mo,c2,hO,oo,k⟩:=h
  have sc:=qew
  refine cutA [1] ⟨_,qaf rfl (yab (ya1 PassesOwn.never rfl (yea (qct rfl (B.of rfl) (qab (pv 0) yae))) (qcs rfl (yaj (pgn 4 sc.nd) (yaj (pgn 5 sc.nd) ya9)))
    (yac (ya1 PassesOwn.never rfl (qbi (qah yi3 hr (ydl (yap qal (qaa (pv 2)) (qaa (pv 4))) (ydl (yap yam (qaa (pv 5)) (qaa yad)) (qd7 (qhv cm.c qit hr (qaa (pv 1))) qad))))) (qcs rfl (yaj (pgn 6 sc.nd) (yaj (pgn 7 sc.nd) (yaj (pgn 8 sc.nd) ya9))))
     (yac (yao (qaj ya6 (yap yam (qaa (pv 8)) (qaa yad)) (qaa qak) (yai _))
      (yac (qap (qcy cm.c yg0 hr (qaa (pv 1)) (yaf (qaa (pv 6)) (ydl (yap yam (qaa (pv 8)) (qaa yad)) qad)))))
      (yac (qap (qaa (qdd PySem.F.plainAttrs_list PySem.F.slot_list_append PySem.F.type_list_append ya7 (pv 3) (qab (ybu (yel (pv 4) (yel (pv 6) (yel (pv 7) (pa_cl (QE.of (qcy cm.c yiu hr (qaa (pv 1)) (yaf (qaa (pv 6)) qad))) yae))))) yae)))))))))) (yac (yah (qaa (pv 3)))))⟩ ?_
  intro c1
  refine ⟨_,qaf rfl (yab (qsE 3 sc.nd (qao qad)) c1.2),?_⟩
  obtain ⟨_,ws,hre,hlt,hwt⟩:=ht.lstEq
  cases hre
  have wl:ws.length=T.length:=by have:=hwt.length;rw[length_map]at this;exact this
  have G0:∀{b:Addr}{u:HO},G b=some u->b≠Cc:=λ{b u} e=>qae e nC
  refine ⟨zero_le _,λD nD=>gn ?_⟩
  have s1:=(smR H).upd (o:=.lst []) nD
  have f1:=@yaa H D (.lst [])
  revert s1 f1
  generalize upd H D _=H1
  intro s1 f1
  have nDG:G D=none:=sG.free nD
  have nDC:D≠Cc:=(qae mo.m.hc nD).symm
  have nLD:L≠D:=qae mo.m.hl nD
  have m1:=mo.same s1
  have tl:=ye6 (os:=os) okt
  refine ⟨_,rfl,t,_,rfl,sqlO (s1 _ _ (sG _ _ hlt)),ycd (xs:=ws) (λi σ H2=>∃(o4 o5 o6 o7 o8:Option V) (us:List V),σ=[some (.ref t),some (.ref m),some (.ref O),some (.ref D),o4,o5,o6,o7,o8]/\Same G H2/\MemE H2 C m L Cc (((T.zip os).take i).flatMap (λz=>eOps z.2 z.1.2) |>.foldl opC cs)/\H2 D=some (.lst us)/\RowsB H2 us (runB cs (((T.zip os).take i).flatMap λz=>eOps z.2 z.1.2)))
   ⟨none,none,none,none,none,[],rfl,sG.trans s1,m1,f1,⟨rfl,λi v b h=>by simp at h⟩⟩ (λi σ H2 _ ⟨_,_,_,_,_,_,_,s2,_⟩=>sqlO (s2 _ _ hlt)) ?_ ?_⟩
  ·rintro i x pp σ H2 hx ⟨o4,o5,o6,o7,o8,us,rfl,s2,m2,e2,r2⟩ hpp
   obtain ⟨de,hde,hat⟩:=hwt.get hx
   obtain ⟨e,he,rfl⟩:=qbd hde
   obtain ⟨ea,el,sw,rfl,hea,hel,hsw⟩:=qeq hat
   have hi:i<T.length:=(List.getElem?_eq_some_iff.mp he).1
   have hio:i<os.length:=by rw[oo.len];exact hi
   have ho:=getElem?_eq_getElem hio
   generalize os[i]'hio=o at ho
   have ou:=(oo.at_ i e o he ho).1
   have h6:=(okt.2.2 e (mem_of_getElem? he)).2.2
   have swl:sw.length=e.2.length:=by have:=hsw.length;rw[length_map]at this;exact this
   have hz:(T.zip os)[i]?=some (e,o):=by rw[List.getElem?_zip_eq_some];exact ⟨he,ho⟩
   have htk:((T.zip os).take (i+1)).flatMap (λz=>eOps z.2 z.1.2)=((T.zip os).take i).flatMap (λz=>eOps z.2 z.1.2)++eOps o e.2:=by
    rw[take_add_one,hz,flatMap_append]
    congr 1
    exact append_nil _
   have tlen:(((T.zip os).take i).flatMap (λz=>eOps z.2 z.1.2)).length<=96:=by
    refine le_trans ?_ tl
    unfold tOps
    conv=>rhs;rw[<-List.take_append_drop i (T.zip os),flatMap_append,length_append]
    omega
   rw[htk]
   clear htk
   generalize ((T.zip os).take i).flatMap (λz=>eOps z.2 z.1.2)=done at *
   have c2':(done.foldl opC cs).length=2:=by rw[ye4];exact c2
   rw[qe7]
   simp only[List.foldl_append]
   revert m2 r2 c2'
   have bl:=qd2 done cs
   generalize runB cs done=bs at bl ⊢
   generalize done.foldl opC cs=cs2
   intro m2 r2 c2'
   have sP:=(smR H2).upd (o:=.tup [V.int i,.ref ea]) hpp
   refine ⟨pp,_,rfl,sqtO yaa,rfl,_,_,rfl,_,_,rfl,rfl,?_⟩
   revert sP
   generalize upd H2 pp _=H3
   intro sP
   have m3:=m2.same sP
   have s3:=s2.trans sP
   have e3:=sP _ _ e2
   have r3:=r2.kt λb t h=>sP _ _ h
   obtain ⟨⟨dx3,ho3⟩,_⟩:=id m3
   refine ⟨_,rfl,_,rfl,O,_,_,_,rfl,rfl,sqlO (s3 _ _ hO),qbj (by rw[getElem?_map,ho];rfl),_,rfl,ea,_,_,_,rfl,rfl,sqtO (s3 _ _ hea),yaq 1 rfl,_,rfl,m,dx3,_,rfl,ho3,lk_n,m,L,Cc,cs2,rfl,m3,o,el,sw,2,(by rw[c2'];rfl),ou,s3 _ _ hel,by omega,by omega,λDd uu H4 s4 nDd eDd ft=>?_⟩
   rw[qjq]at ft
   have hops:eOps o e.2=(ixP (decide (o="up")) sw.length 2).map λx=>(x.1,e.2.getD x.2 (false,false)):=by unfold eOps;rw[swl]
   have ixl:(ixP (decide (o="up")) sw.length 2).length<=12:=by rw[yiz];omega
   have ixm:∀x∈ixP (decide (o="up")) sw.length 2,0<=x.1/\x.1<2/\x.2<sw.length:=λx hx=>qlp hx
   rw[hops]
   clear hops
   generalize ixP (decide (o="up")) sw.length 2=ix at *
   have m4:=m3.same s4
   have s04:=s3.trans s4
   have nDdD:Dd≠D:=(qae e3 nDd).symm
   have nDdC:Dd≠Cc:=(qae m3.m.hc nDd).symm
   have fl:uu.length=ix.length:=by have:=ft.len;rw[length_map]at this;exact this
   refine ⟨Dd,rfl,⟨_,sqlO eDd⟩,qb3 (xs:=uu) (λj σ H5=>∃(o6 o7 o8:Option V) (us:List V),σ=[some (.ref t),some (.ref m),some (.ref O),some (.ref D),some (.int i),some (.ref ea),o6,o7,o8]/\(∀b u,b≠D->b≠Cc->H4 b=some u->H5 b=some u)/\MemE H5 C m L Cc (((ix.take j).map λx=>(x.1,e.2.getD x.2 (false,false))).foldl opC cs2)/\H5 D=some (.lst us)/\RowsB H5 us (bs++runB cs2 ((ix.take j).map λx=>(x.1,e.2.getD x.2 (false,false)))))
    ⟨_,_,_,us,rfl,λb u _ _ e=>e,m4,s4 _ _ e3,by rw[List.take_zero,map_nil];show RowsB H4 us (bs++[]);rw[append_nil];exact r3.kt λb t h=>s4 _ _ h⟩ (λj σ H5 _ ⟨_,_,_,_,_,s5,_⟩=>sqlO (s5 _ _ nDdD nDdC eDd)) ?_ ?_⟩
   ·rintro j y σ H5 hy ⟨o6,o7,o8,us,rfl,s5,m5,e5,r5⟩
    obtain ⟨row,ra,hrow,rfl,hra⟩:=ft.get hy
    obtain ⟨x,hxj,rfl⟩:=qbd hrow
    obtain ⟨x0,x1,x2⟩:=ixm x (mem_of_getElem? hxj)
    have hj:j<ix.length:=(List.getElem?_eq_some_iff.mp hxj).1
    have hst:e.2[x.2]?=some (e.2.getD x.2 (false,false)):=by rw[getD_eq_getElem?_getD,getElem?_eq_getElem (by omega)];rfl
    obtain ⟨v,hv,hsv⟩:∃v,sw[x.2]?=some v/\At G v (qb4 (e.2.getD x.2 (false,false))):=by
     have hv:=getElem?_eq_getElem x2
     obtain ⟨d,hd,ha⟩:=hsw.get hv
     rw[getElem?_map,hst]at hd
     cases hd
     exact ⟨_,hv,ha⟩
    obtain ⟨sa,rfl,hsa⟩:=ylf hsv
    rw[getD_eq_getElem?_getD,hv]at hra
    have rtk:(ix.take (j+1)).map (λx=>(x.1,e.2.getD x.2 (false,false)))=(ix.take j).map (λx=>(x.1,e.2.getD x.2 (false,false)))++[(x.1,e.2.getD x.2 (false,false))]:=by rw[take_add_one,hxj,map_append];rfl
    generalize e.2.getD x.2 (false,false)=st at *
    rw[rtk,qe7,List.foldl_append]
    clear rtk
    have bl5:=qd2 ((ix.take j).map λx=>(x.1,e.2.getD x.2 (false,false))) cs2
    have itl:((ix.take j).map λx=>(x.1,e.2.getD x.2 (false,false))).length<=12:=by rw[length_map,length_take];omega
    have cl5:=ye4 ((ix.take j).map λx=>(x.1,e.2.getD x.2 (false,false))) cs2
    revert m5 r5 bl5 cl5
    generalize runB cs2 ((ix.take j).map λx=>(x.1,e.2.getD x.2 (false,false)))=bj
    generalize ((ix.take j).map λx=>(x.1,e.2.getD x.2 (false,false))).foldl opC cs2=cj
    intro m5 r5 bl5 cl5
    have s05:Same G H5:=λb u e=>s5 _ _ (qae e nDG) (G0 e) (s04 _ _ e)
    have hsa5:=s05 _ _ hsa
    have hra5:H5 ra=some (.tup [.int x.1,.int x.2,.ref sa]):=s5 _ _ (λz=>by rw[z,s4 _ _ e3]at hra;cases hra) (λz=>by rw[z,m4.m.hc]at hra;cases hra) hra
    obtain ⟨⟨dx5,ho5⟩,_⟩:=id m5
    refine ⟨ra,_,rfl,sqtO hra5,rfl,_,_,rfl,_,_,rfl,_,_,rfl,rfl,?_⟩
    refine ⟨_,rfl,sa,_,_,_,rfl,rfl,sqtO hsa5,yaq 0 rfl,rfl,_,rfl,?_⟩
    rw[<-append_assoc]
    have xl:x.1<cj.length:=by rw[cl5,c2'];exact x1
    cases hw:st.1 with
    |true=>
     refine iteB (by decide +kernel) ?_
     have e1:runB cj [(x.1,st)]=[]:=by rw[qb7,if_pos hw];rfl
     have e2':[(x.1,st)].foldl opC cj=cj.set x.1.toNat (b2i st.2):=if_pos hw
     rw[e1,e2',append_nil]
     refine ⟨_,rfl,m,dx5,_,rfl,ho5,lk_n,_,rfl,_,rfl,sa,_,_,_,rfl,rfl,sqtO hsa5,yaq 1 rfl,m,L,Cc,cj,x.1,st.2,rfl,m5,x0,xl,λH6 u6=>?_⟩
     exact ⟨_,_,_,us,rfl,λb u h1 h2 e=>u6.st _ _ h2 (s5 b u h1 h2 e),m5.up u6,u6.st _ _ nDC e5,r5.kt λb t h=>u6.st _ _ (λz=>by rw[z,m5.m.hc]at h;cases h) h⟩
    |false=>
     refine iteN (by decide +kernel) ?_
     have hw':¬ st.1=true:=by rw[hw];exact Bool.false_ne_true
     have e1:runB cj [(x.1,st)]=[rd cj x.1]:=by rw[qb7,if_neg hw'];rfl
     have e2':[(x.1,st)].foldl opC cj=cj:=if_neg hw'
     rw[e1,e2']
     refine ⟨_,rfl,.inl ⟨rfl,_,sqlO e5⟩,_,rfl,_,rfl,_,rfl,_,rfl,m,dx5,_,rfl,ho5,lk_n,_,rfl,m,L,Cc,cj,x.1,rfl,m5,x0,xl,λH6 s6=>⟨zl,λq nq=>?_⟩⟩
     have s7:=s6.upd (o:=.tup [.int i,.int x.1,.int x.2,.int (rd cj x.1)]) nq
     have f7:=@yaa H6 q (.tup [.int i,.int x.1,.int x.2,.int (rd cj x.1)])
     revert s7 f7
     generalize upd H6 q _=H7
     intro s7 f7
     have e7:=s7 _ _ e5
     have kt:∀b t,H7 b=some (.tup t)->upd H7 D (.lst (us++[.ref q])) b=some (.tup t):=λb t h=>by rw[qag (λz=>by rw[z,e7]at h;cases h)];exact h
     refine ⟨D,_,_,rfl,rfl,e7,ybe (by rw[r5.len,length_append];omega),?_⟩
     refine ⟨_,_,_,us++[.ref q],rfl,λb u h1 h2 e=>by rw[qag h1];exact s7 _ _ (s5 b u h1 h2 e),?_,yaa,((r5.kt λb t h=>kt _ _ (s7 _ _ h))).snoc (kt _ _ f7)⟩
     obtain ⟨⟨dx7,ho7⟩,m7⟩:=m5.same s7
     exact ⟨⟨dx7,by rw[qag (λz=>by rw[z,e7]at ho7;cases ho7)];exact ho7⟩,⟨m7.ne,by rw[qag nLD];exact m7.hl,by rw[qag nDC.symm];exact m7.hc⟩⟩
   ·rintro σ H5 ⟨o6,o7,o8,us,rfl,s5,m5,e5,r5⟩
    rw[fl,take_length]at m5 r5
    exact ⟨_,_,_,_,_,us,rfl,λb u e=>s5 _ _ (qae e nDG) (G0 e) (s04 _ _ e),m5,e5,r5⟩
  ·rintro σ H2 ⟨o4,o5,o6,o7,o8,us,rfl,s2,m2,e2,r2⟩
   rw[take_of_length_le (by rw[length_zip];omega)]at r2
   exact ⟨_,rfl,k D us H2 s2 nDG e2 r2⟩
theorem yh7{T:List Elm}(h:okT T):ya0 (qci T)=none:=by
 unfold ya0
 have h1:=h.1
 have h8:=h.2.1
 rw[if_pos (show yek 8 (qci T)=true from decide_eq_true (by rw[length_map];omega))]
 refine yc0 _ 0 λx hx=>?_
 obtain ⟨e,he,rfl⟩:=mem_map.mp (show x∈T.map yeh from hx)
 have oe:=h.2.2 e he
 unfold ycf
 have hf:qdr (yeh e)=true:=by
  show (inV (.str e.1) [.str "up",.str "down",.str "any"]&&decide (0<(e.2.map qb4).length/\((e.2.map qb4).length:Int)<=6))=true
  rw[qj2 oe.1,decide_eq_true (by rw[length_map];have:=oe.2.1;have:=oe.2.2;omega)]
  rfl
 rw[if_pos hf]
 have:qcv (e.2.map qb4)=none:=by
  unfold qcv
  rw[List.findIdx?_eq_none_iff]
  intro y hy
  obtain ⟨s,_,rfl⟩:=mem_map.mp hy
  obtain ⟨a,b⟩:=s
  cases a<;>cases b<;>decide +kernel
 show (qcv (e.2.map qb4)).map some=none
 rw[this]
 rfl
theorem ord_ok{T:List Elm}{os:List Str}(oo:OrdOk T os):ordB T (.list (os.map PyData.str))=true:=by
 show (decide ((os.map PyData.str).length=T.length)&&(List.zipWith ybv T (os.map PyData.str)).all id)=true
 rw[Bool.and_eq_true]
 refine ⟨decide_eq_true (by rw[length_map];exact oo.len),?_⟩
 rw[List.all_eq_true]
 intro b hb
 obtain ⟨i,hi,rfl⟩:=List.mem_iff_getElem.mp hb
 have hl:=hi
 rw[List.length_zipWith,length_map]at hl
 rw[List.getElem_zipWith,getElem_map]
 obtain ⟨ou,oa⟩:=oo.at_ i _ _ (getElem?_eq_getElem (by omega)) (getElem?_eq_getElem (by omega:i<os.length))
 show (inV _ _&&inV _ _)=true
 rw[qlz ou,in_any oa]
 rfl
theorem ylk{H:Hp}:∀(os:List Str),AtAll H (os.map V.str) (os.map PyData.str)
 |[]=>.nil
 |o::r=>.cons (.str o) (ylk r)
theorem ok_look0{C:Addr}(h:HasX P w K mg base 5 "look_at_test" ["thing"] (yhd C)):Has P w K mg base 5 "look_at_test" ["thing"] qdg:=qir h λvs H Q E ⟨v,T,e,a,ok,k⟩=>⟨v,_,e,.inl a,λ_=>k,λb hb=>by rw[yh7 ok]at hb;cases hb⟩
theorem ok_lord0{C:Addr}(h:HasX P w K mg base 4 "look_at_orders" ["test","thing"] (qdj C)):Has P w K mg base 4 "look_at_orders" ["test","thing"] ycn:=qir h λvs H Q E ⟨t,O,T,os,e,a,ok,hO,oo,k⟩=>⟨t,_,T,_,e,a,ok,.inl (.lst hO (ylk os)),λ_=>k,λhb=>by rw[ord_ok oo]at hb;cases hb⟩
def qh4:Sp:=λvs H Q _=>∃(t L0 C0 O:Addr) (T:List Elm) (os:List Str) (cs:List Int),vs=[.ref t,.int 2,.ref L0,.ref C0,.ref O]/\At H (.ref t) (qci T)/\okT T/\H L0=some (.lst [])/\H C0=some (.lst (cs.map V.int))/\bits cs/\cs.length=2/\H O=some (.lst (os.map V.str))/\OrdOk T os/\
 ∀(D:Addr) (us:List V) (H':Hp),Same H H'->H D=none->H' D=some (.lst us)->RowsB H' us (runB cs (tOps T os))->Q (.ref D) H'
abbrev yer:Stmt:=top 75
theorem qfl:FnScope ["test","size","harms","contents","orders","memory"] ["test","size","harms","contents","orders"] (qac yer):=fsc
theorem qma(qbf:Has P w K mg base 5 "look_at_test" ["thing"] qdg)(yfm:HasI P w K mg base C 9 "Memory" ["self","size","harms","contents"] (qic C))(ya8:Has P w K mg base 4 "look_at_orders" ["test","thing"] ycn)(qii:Has P w K mg base 7 "all_reads" ["test","memory","orders"] (ygp C))(F:FnAt K mg "reads_of" yer ["test","size","harms","contents","orders"]):Has P w K mg base 11 "reads_of" ["test","size","harms","contents","orders"] qh4:=by
 refine Has.ofQ F qfl (λvs H Q E h=>?_) (λ_ _ _ _ _ H vs Q E hr h=>?_)
 ·obtain ⟨t,L0,C0,O,T,os,cs,rfl,_⟩:=h
  rfl
 ·obtain ⟨t,L0,C0,O,T,os,cs,rfl,ht,okt,hL,hC,hb,c2,hO,oo,k⟩:=h
  have sc:=qfl
  refine cutA [2] ⟨_,qaf rfl (yab (qap (qah ya8 hr (yaf (qaa (pv 0)) (yaf (qaa (pv 4)) qad)))) (yac (yah (qah qii hr (yaf (qaa (pv 0)) (yaf (qaa (pv 5)) (yaf (qaa (pv 4)) qad)))))))⟩ ?_
  intro c1
  refine ⟨_,qaf rfl (yab (qap (qah qbf hr (yaf (qaa (pv 0)) qad))) (yab (qsE 5 sc.nd (qjl yfm hr (yaf (qaa (pv 1)) (yaf (qaa (pv 2)) (yaf (qaa (pv 3)) qad))))) c1.2)),?_⟩
  refine ⟨_,rfl,_,T,rfl,ht,okt,λH1 s1=>?_⟩
  refine ⟨_,rfl,_,rfl,_,rfl,?_⟩
  intro x dx nx ndx nxd
  have sD:=((smR H1).upd (o:=.own x) ndx).upd (o:=.ins C dx []) (p:=x) (by rw[qag (λz=>nxd z.symm)];exact nx)
  have fD:upd (upd H1 dx (.own x)) x (.ins C dx []) x=some (.ins C dx []):=yaa
  revert sD fD
  generalize upd (upd H1 dx (.own x)) x (.ins C dx [])=HD
  intro sD fD
  have s1D:=s1.trans sD
  refine ⟨x,dx,L0,C0,cs,(by rw[c2];rfl),fD,s1D _ _ hL,s1D _ _ hC,hb,by omega,by omega,λL Cc HE stE nL nCc mo=>⟨rfl,gn ?_⟩⟩
  have sE:Same H1 HE:=λb u e=>stE b u (λz=>by subst z;rw[nx]at e;cases e) (sD _ _ e)
  have sHE:=s1.trans sE
  refine ⟨_,rfl,_,rfl,t,O,T,os,rfl,ht.same sHE,okt,sHE _ _ hO,oo,λH3 s3=>?_⟩
  have s03:=sHE.trans s3
  refine ⟨_,rfl,_,rfl,_,rfl,H,t,x,O,L,Cc,T,os,cs,rfl,s03,s1D.free nCc,ht,okt,mo.same s3,c2,hO,oo,λD us H4 s4 nD eD r4=>?_⟩
  exact k D us H4 s4 nD eD r4
def ygn:Sp:=λvs H Q _=>∃(L Cl:Addr),vs=[.ref L,.ref Cl]/\H L=some (.lst [])/\H Cl=some (.lst [])/\∀(D:Addr) (H':Hp),Same H H'->H D=none->H' D=some (.lst [])->Q (.ref D) H'
abbrev qg7:Stmt:=top 42
theorem qhm:FnScope ["harms","cells","names"] ["harms","cells"] (qac qg7):=fsc
theorem ykg(B:Bl mg)(yds:mg "zip"=none)(qbc:Has P w K mg base 7 "cells_of" ["harms"] qcn)(ymr:Has P w K mg base 1 "renamed" ["harm","names"] λ_ _ _ _=>False)(F:FnAt K mg "placed" qg7 ["harms","cells"]):Has P w K mg base 8 "placed" ["harms","cells"] ygn:=by
 refine Has.ofQ F qhm (λvs H Q E h=>?_) (λ_ _ _ _ _ H vs Q E hr h=>?_)
 ·obtain ⟨L,Cl,rfl,_⟩:=h
  rfl
 ·obtain ⟨L,Cl,rfl,hL,hCl,k⟩:=h
  have sc:=qhm
  refine ⟨_,qaf rfl (yab (yc7 (i:=2) sc.nd rfl (Or.inr rfl) (qaa (ykj rfl rfl (B.of rfl) rfl yds (qab (qam qbc hr (qab (pv 0) yae)) (qab (pv 1) yae)))))
   (yac (yah (qaa (ybr rfl (yax rfl) (M:=["harm","names"]) (ix:=[none,some 2]) (yck (pv 0)) (λ_ _ _ _=>(qaz (i:=0) (show List.Nodup (["harm","names"]:List Str) by decide +kernel) rfl (Or.inl rfl))) (λ_ _ _ _=>ych) (λ_ _ _ _=>(qam ymr hr (qab (pv 0) (qab (pv 1) yae))))))))),?_⟩
  refine ⟨_,rfl,L,rfl,hL,λD0 H1 s1 nD0 eD0=>?_⟩
  refine ⟨_,rfl,false,false,D0,Cl,[],[],rfl,sqlO eD0,sqlO (s1 _ _ hCl),zero_le _,λd hd=>?_⟩
  generalize hG2:upd H1 d _=H2
  have s2:Same H1 H2:=by rw[<-hG2];exact (smR H1).upd hd
  clear hG2
  have s12:=s1.trans s2
  refine ⟨_,rfl,L,rfl,⟨_,sqlO (s12 _ _ hL)⟩,λD hD=>yby (n:=0) (λi H'=>Same H2 H'/\H' D=some (.lst [])) ⟨(smR H2).upd hD,yaa⟩ ?_ (λi H3 hi=>absurd hi (not_lt_zero i))⟩
  rintro H3 ⟨s3,e3⟩
  exact ⟨⟨_,sqlO (s3 _ _ (s12 _ _ hL)),le_refl _⟩,k D H3 (s12.trans s3) (s12.free hD) e3⟩
def ygc:Sp:=λvs H Q _=>∃(L:Addr),vs=[.ref L]/\H L=some (.lst [])/\∀(D:Addr) (H':Hp),Same H H'->H D=none->H' D=some (.lst [])->Q (.ref D) H'
abbrev qg6:Stmt:=top 43
theorem qhr:FnScope ["harms"] ["harms"] (qac qg6):=fsc
theorem qkc(B:Bl mg)(qbc:Has P w K mg base 7 "cells_of" ["harms"] qcn)(h_placed:Has P w K mg base 8 "placed" ["harms","cells"] ygn)(F:FnAt K mg "little" qg6 ["harms"]):Has P w K mg base 9 "little" ["harms"] ygc:=by
 refine Has.ofQ F qhr (λvs H Q E h=>?_) (λ_ _ _ _ _ H vs Q E hr h=>?_)
 ·obtain ⟨L,rfl,_⟩:=h
  rfl
 ·obtain ⟨L,rfl,hL,k⟩:=h
  have sc:=qhr
  refine ⟨_,qaf rfl (yac (yah (qah h_placed hr (yaf (qaa (pv 0)) (qd7 (qaa (qex hr.hd rfl (B.of rfl) rfl (B.of rfl) (qab (qan qai rfl (B.of rfl) boot_len (qab (qam qbc hr (qab (pv 0) yae)) yae)) yae))) qad))))),?_⟩
  refine ⟨_,rfl,_,rfl,L,rfl,hL,λD0 H1 s1 nD0 eD0=>?_⟩
  refine ⟨D0,_,rfl,.inl (sqlO eD0),0,rfl,by omega,λl hl=>?_⟩
  have s2:=(smR H1).upd (o:=.lst (yiq 0)) hl
  have s12:=s1.trans s2
  refine ⟨L,l,rfl,s12 _ _ hL,yaa,λD H3 s3 nD eD=>k D H3 (s12.trans s3) (s12.free nD) eD⟩
def heO(cs:List Int)(x:Op):Op:=if x.2.1=true then x else (x.1,false,decide (rd cs x.1=1))
def hO:List Int->List Op->List Op
 |_,[]=>[]
 |cs,x::r=>heO cs x::hO (opC cs x) r
theorem ylb:∀(l m:List Op) (cs:List Int),hO cs (l++m)=hO cs l++hO (l.foldl opC cs) m
 |[],m,cs=>rfl
 |x::l,m,cs=>by
  show heO cs x::hO (opC cs x) (l++m)=(heO cs x::hO (opC cs x) l)++_
  rw[ylb l m (opC cs x)]
  rfl
theorem yle:∀(l:List Op) (cs:List Int),(hO cs l).length=l.length
 |[],_=>rfl
 |x::l,cs=>congrArg (· + 1) (yle l _)
theorem ygv{cs:List Int}(h:bits cs)(x:Op):bits (opC cs x):=by
 unfold opC
 split
 ·exact yjf h ⟨_,rfl⟩
 ·exact h
theorem qfw:∀(l:List Op) {cs:List Int},bits cs->bits (l.foldl opC cs)
 |[],_,h=>h
 |x::l,_,h=>qfw l (ygv h x)
theorem ymi{cs:List Int}(h:bits cs)(c:Int):rd cs c=b2i (decide (rd cs c=1)):=by
 have:isB (rd cs c):=by
  unfold rd
  rw[getD_eq_getElem?_getD]
  cases e:cs[c.toNat]? with
  |none=>exact isB0
  |some v=>exact h v (mem_of_getElem? e)
 obtain ⟨b,hb⟩:=this
 rw[hb]
 cases b<;>rfl
def opR(r:Dg):Op:=(r.1,r.2.2)
theorem DgAt.snoc{H H':Hp}{D q sa:Addr}{us:List V}{rows:List Dg}{n:Nat}{a:Int}{st:Stp}(x:DgAt H D us rows n)(kt:∀b t,H b=some (.tup t)->H' b=some (.tup t))(hD:H' D=some (.lst (us++[.ref q])))(hq:H' q=some (.tup [.int a,.ref sa]))(hs:H' sa=some (.tup [.str (qe1 st.1),.int (b2i st.2)]))(a0:0<=a)(a1:a<n):DgAt H' D (us++[.ref q]) (rows++[(a,sa,st)]) n:=by
 have fl:=x.ft.len
 refine ⟨hD,⟨by rw[length_append,map_append,length_append,fl];rfl,λi v y h1 h2=>?_⟩,λr hr=>?_⟩
 ·rw[map_append]at h2
  by_cases hi:i<us.length
  ·rw[getElem?_append_left hi]at h1
   rw[getElem?_append_left (by rw[<-fl];exact hi)]at h2
   obtain ⟨c,e,hc⟩:=x.ft.at_ i v y h1 h2
   exact ⟨c,e,kt _ _ hc⟩
  ·rw[getElem?_append_right (by omega)]at h1
   rw[getElem?_append_right (by rw[<-fl];omega),<-fl]at h2
   cases z:i-us.length with
   |zero=>rw[z]at h1 h2;cases h1;cases h2;exact ⟨q,rfl,hq⟩
   |succ m=>rw[z]at h1;simp at h1
 ·rcases mem_append.mp hr with hr|hr
  ·exact ⟨kt _ _ (x.st r hr).1,(x.st r hr).2⟩
  ·rw[mem_singleton.mp hr]
   exact ⟨hs,a0,a1⟩
def qfu:Sp:=λvs H Q _=>∃(t O R:Addr) (T:List Elm) (os:List Str) (cs:List Int),vs=[.ref t,.int 2,.ref O,.ref R]/\At H (.ref t) (qci T)/\okT T/\H O=some (.lst (os.map V.str))/\OrdOk T os/\H R=some (.lst ((runB cs (tOps T os)).map V.int))/\bits cs/\cs.length=2/\
 ∀(D:Addr) (us:List V) (rows:List Dg) (H':Hp),Same H H'->H D=none->DgAt H' D us rows 2->rows.map opR=hO cs (tOps T os)->Q (.ref D) H'
abbrev qcx:Stmt:=top 77
theorem qds:FnScope ["test","size","orders","reads","heard","left","number","element","address","place","step"] ["test","size","orders","reads"] (qac qcx):=fsc
theorem ylz(B:Bl mg)(z_rev:mg "reversed"=none)(yi3:Has P w K mg base 1 "deeds" ["order","steps","size"] qg9)(F:FnAt K mg "deeds_heard" qcx ["test","size","orders","reads"]):Has P w K mg base 2 "deeds_heard" ["test","size","orders","reads"] qfu:=by
 refine Has.ofQ F qds (λvs H Q E h=>?_) (λf cdv A0 outer s H vs Q E hr h=>?_)
 ·obtain ⟨t,O,R,T,os,cs,rfl,_⟩:=h
  rfl
 ·obtain ⟨t,O,R,T,os,cs,rfl,ht,okt,hO',oo,hR,hb,c2,k⟩:=h
  have sc:=qds
  refine cutA [2] ⟨_,qaf rfl (yab (ya1 PassesOwn.never rfl (yea (qct rfl (B.of rfl) (qab (pv 0) yae))) (qcs rfl (yaj (pgn 6 sc.nd) (yaj (pgn 7 sc.nd) ya9)))
    (yac (ya1 PassesOwn.never rfl (qbi (qah yi3 hr (ydl (yap qal (qaa (pv 2)) (qaa (pv 6))) (ydl (yap yam (qaa (pv 7)) (qaa yad)) (yaf (qaa (pv 1)) qad))))) (qcs rfl (yaj (pgn 8 sc.nd) (yaj (pgn 9 sc.nd) (yaj (pgn 10 sc.nd) ya9))))
     (yac (yao (qaj ya6 (yap yam (qaa (pv 10)) (qaa yad)) (qaa qak) (yai _))
      (yac (qap (qaa (qdd PySem.F.plainAttrs_list PySem.F.slot_list_append PySem.F.type_list_append ya7 (pv 4) (qab (ybu (qab (pv 8) (qab (pv 10) yae))) yae)))))
      (yac (yao (qaj ya6 (qas qai rfl (B.of rfl) boot_len (yaf (qaa (pv 5)) qad)) (qaa yad) (yai _))
       (yac (yah (qaa qa6)))
       (yac (qap (qaa (qdd PySem.F.plainAttrs_list PySem.F.slot_list_append PySem.F.type_list_append ya7 (pv 4) (qab (ybu (qab (pv 8) (qab (ybu (qab qak (qab (pe_bm0 PySem.F.plainAttrs_list PySem.F.slot_list_pop PySem.F.type_list_pop mt_pop (pv 5)) yae))) yae))) yae)))))))))))) (yac (yah (qd3 (qaj ya6 (qas qai rfl (B.of rfl) boot_len (yaf (qaa (pv 5)) qad)) (qaa yad) (yai _)) (qaa (pv 4)) (qaa qa6)))))⟩ ?_
  intro c1
  refine ⟨_,qaf rfl (yab (qsE 4 sc.nd (qao qad)) (yab (qsE 5 sc.nd (qaa (yj3 hr.hd rfl (B.of rfl) rfl z_rev (qab (pv 3) yae)))) c1.2)),?_⟩
  obtain ⟨_,ws,hre,hlt,hwt⟩:=ht.lstEq
  cases hre
  have wl:ws.length=T.length:=by have:=hwt.length;rw[length_map]at this;exact this
  have z2:2<=sizeLine:=by decide
  have tl:=ye6 (os:=os) okt
  refine ⟨zero_le _,λD nD=>gn ?_⟩
  have s1:=(smR H).upd (o:=.lst []) nD
  have f1:=@yaa H D (.lst [])
  revert s1 f1
  generalize upd H D _=H1
  intro s1 f1
  refine ⟨_,rfl,R,_,rfl,sqlO (s1 _ _ hR),λA nA=>gn ?_⟩
  rw[<-List.map_reverse]
  have s2:=(smR H1).upd (o:=.lst ((runB cs (tOps T os)).reverse.map V.int)) nA
  have f2:=@yaa H1 A (.lst ((runB cs (tOps T os)).reverse.map V.int))
  revert s2 f2
  generalize upd H1 A _=H2
  intro s2 f2
  have nAD:A≠D:=(qae f1 nA).symm
  have nAH:H A=none:=s1.free nA
  have s02:=s1.trans s2
  refine ⟨_,rfl,t,_,rfl,sqlO (s02 _ _ hlt),ycd (xs:=ws) (λi σ H3=>∃(o6 o7 o8 o9 o10:Option V) (us:List V) (rows:List Dg),σ=[some (.ref t),some (.int 2),some (.ref O),some (.ref R),some (.ref D),some (.ref A),o6,o7,o8,o9,o10]/\Same H H3/\DgAt H3 D us rows 2/\rows.map opR=hO cs (((T.zip os).take i).flatMap λz=>eOps z.2 z.1.2)/\H3 A=some (.lst ((runB ((((T.zip os).take i).flatMap λz=>eOps z.2 z.1.2).foldl opC cs) (((T.zip os).drop i).flatMap λz=>eOps z.2 z.1.2)).reverse.map V.int)))
   ⟨none,none,none,none,none,[],[],rfl,s02,⟨s2 _ _ f1,⟨rfl,λi v y h=>by simp at h⟩,λr hr=>by cases hr⟩,rfl,f2⟩ (λi σ H3 _ ⟨_,_,_,_,_,_,_,_,s3,_⟩=>sqlO (s3 _ _ hlt)) ?_ ?_⟩
  ·rintro i x pp σ H3 hx ⟨o6,o7,o8,o9,o10,us,rows,rfl,s3,d3,r3,e3⟩ hpp
   obtain ⟨de,hde,hat⟩:=hwt.get hx
   obtain ⟨e,he,rfl⟩:=qbd hde
   obtain ⟨ea,el,sw,rfl,hea,hel,hsw⟩:=qeq hat
   have hi:i<T.length:=(List.getElem?_eq_some_iff.mp he).1
   have hio:i<os.length:=by rw[oo.len];exact hi
   have ho:=getElem?_eq_getElem hio
   generalize os[i]'hio=o at ho
   have ou:=(oo.at_ i e o he ho).1
   have h6:=(okt.2.2 e (mem_of_getElem? he)).2.2
   have swl:sw.length=e.2.length:=by have:=hsw.length;rw[length_map]at this;exact this
   have hz:(T.zip os)[i]?=some (e,o):=by rw[List.getElem?_zip_eq_some];exact ⟨he,ho⟩
   have htk:((T.zip os).take (i+1)).flatMap (λz=>eOps z.2 z.1.2)=((T.zip os).take i).flatMap (λz=>eOps z.2 z.1.2)++eOps o e.2:=by
    rw[take_add_one,hz,flatMap_append]
    congr 1
    exact append_nil _
   have hdk:((T.zip os).drop i).flatMap (λz=>eOps z.2 z.1.2)=eOps o e.2++((T.zip os).drop (i+1)).flatMap (λz=>eOps z.2 z.1.2):=by
    obtain ⟨hlt',hg⟩:=List.getElem?_eq_some_iff.mp hz
    rw[List.drop_eq_getElem_cons hlt',hg,flatMap_cons]
   have tlen:(((T.zip os).take i).flatMap (λz=>eOps z.2 z.1.2)).length<=96:=by
    refine le_trans ?_ tl
    unfold tOps
    conv=>rhs;rw[<-List.take_append_drop i (T.zip os),flatMap_append,length_append]
    omega
   rw[hdk]at e3
   rw[htk]
   clear htk hdk
   generalize ((T.zip os).take i).flatMap (λz=>eOps z.2 z.1.2)=done at *
   generalize ((T.zip os).drop (i+1)).flatMap (λz=>eOps z.2 z.1.2)=rest at *
   have c2':(done.foldl opC cs).length=2:=by rw[ye4];exact c2
   have b2':=qfw done hb
   have rl:rows.length<=96:=by have:=congrArg List.length r3;rw[length_map,yle]at this;omega
   rw[ylb]
   simp only[List.foldl_append]
   revert e3 c2' b2' r3
   generalize done.foldl opC cs=cs2
   generalize hO cs done=h0
   intro r3 e3 c2' b2'
   have sP:=(smR H3).upd (o:=.tup [V.int i,.ref ea]) hpp
   refine ⟨pp,_,rfl,sqtO yaa,rfl,_,_,rfl,_,_,rfl,rfl,?_⟩
   revert sP
   generalize upd H3 pp _=H4
   intro sP
   have s4:=s3.trans sP
   refine ⟨_,rfl,_,rfl,O,_,_,_,rfl,rfl,sqlO (s4 _ _ hO'),qbj (by rw[getElem?_map,ho];rfl),_,rfl,ea,_,_,_,rfl,rfl,sqtO (s4 _ _ hea),yaq 1 rfl,_,rfl,o,el,sw,2,rfl,ou,s4 _ _ hel,by omega,by omega,λDd uu H5 s5 nDd eDd ft=>?_⟩
   rw[qjq]at ft
   have hops:eOps o e.2=(ixP (decide (o="up")) sw.length 2).map λx=>(x.1,e.2.getD x.2 (false,false)):=by unfold eOps;rw[swl]
   have ixl:(ixP (decide (o="up")) sw.length 2).length<=12:=by rw[yiz];omega
   have ixm:∀x∈ixP (decide (o="up")) sw.length 2,0<=x.1/\x.1<2/\x.2<sw.length:=λx hx=>qlp hx
   rw[hops]at e3 ⊢
   clear hops
   generalize ixP (decide (o="up")) sw.length 2=ix at *
   have s05:=s4.trans s5
   have sP5:=sP.trans s5
   have nDdD:Dd≠D:=(qae (sP _ _ d3.l) nDd).symm
   have nDdA:Dd≠A:=(qae (sP _ _ e3) nDd).symm
   have fl:uu.length=ix.length:=by have:=ft.len;rw[length_map]at this;exact this
   have d5:DgAt H5 D us rows 2:=⟨sP5 _ _ d3.l,d3.ft.same sP5,λr hr=>⟨sP5 _ _ (d3.st r hr).1,(d3.st r hr).2⟩⟩
   refine ⟨Dd,rfl,⟨_,sqlO eDd⟩,qb3 (xs:=uu) (λj σ H6=>∃(o8 o9 o10:Option V) (us:List V) (rows:List Dg),σ=[some (.ref t),some (.int 2),some (.ref O),some (.ref R),some (.ref D),some (.ref A),some (.int i),some (.ref ea),o8,o9,o10]/\(∀b u,b≠D->b≠A->H5 b=some u->H6 b=some u)/\DgAt H6 D us rows 2/\rows.map opR=h0++hO cs2 ((ix.take j).map λx=>(x.1,e.2.getD x.2 (false,false)))/\H6 A=some (.lst ((runB (((ix.take j).map λx=>(x.1,e.2.getD x.2 (false,false))).foldl opC cs2) ((ix.drop j).map (λx=>(x.1,e.2.getD x.2 (false,false)))++rest)).reverse.map V.int))/\rows.length<=96+j)
    ⟨_,_,_,us,rows,rfl,λb u _ _ e=>e,d5,by rw[r3];exact (append_nil _).symm,sP5 _ _ e3,by omega⟩ (λj σ H6 _ ⟨_,_,_,_,_,_,s6,_⟩=>sqlO (s6 _ _ nDdD nDdA eDd)) ?_ ?_⟩
   ·rintro j y σ H6 hy ⟨o8,o9,o10,us,rows,rfl,s6,d6,r6,e6,rl6⟩
    obtain ⟨row,ra,hrow,rfl,hra⟩:=ft.get hy
    obtain ⟨x,hxj,rfl⟩:=qbd hrow
    obtain ⟨x0,x1,x2⟩:=ixm x (mem_of_getElem? hxj)
    have hj:j<ix.length:=(List.getElem?_eq_some_iff.mp hxj).1
    have hst:e.2[x.2]?=some (e.2.getD x.2 (false,false)):=by rw[getD_eq_getElem?_getD,getElem?_eq_getElem (by omega)];rfl
    obtain ⟨v,hv,hsv⟩:∃v,sw[x.2]?=some v/\At H v (qb4 (e.2.getD x.2 (false,false))):=by
     have hv:=getElem?_eq_getElem x2
     obtain ⟨d,hd,ha⟩:=hsw.get hv
     rw[getElem?_map,hst]at hd
     cases hd
     exact ⟨_,hv,ha⟩
    obtain ⟨sa,rfl,hsa⟩:=ylf hsv
    rw[getD_eq_getElem?_getD,hv]at hra
    have rtk:(ix.take (j+1)).map (λx=>(x.1,e.2.getD x.2 (false,false)))=(ix.take j).map (λx=>(x.1,e.2.getD x.2 (false,false)))++[(x.1,e.2.getD x.2 (false,false))]:=by rw[take_add_one,hxj,map_append];rfl
    have rdk:(ix.drop j).map (λx=>(x.1,e.2.getD x.2 (false,false)))=(x.1,e.2.getD x.2 (false,false))::(ix.drop (j+1)).map (λx=>(x.1,e.2.getD x.2 (false,false))):=by
     obtain ⟨hl',hg⟩:=List.getElem?_eq_some_iff.mp hxj
     rw[List.drop_eq_getElem_cons hl',hg,map_cons]
    rw[rtk,ylb,List.foldl_append,<-append_assoc]
    rw[rdk,List.cons_append]at e6
    have bj:=qfw ((ix.take j).map λx=>(x.1,e.2.getD x.2 (false,false))) b2'
    clear rtk rdk
    generalize e.2.getD x.2 (false,false)=st at *
    revert e6
    revert r6
    revert bj
    generalize ((ix.take j).map λx=>(x.1,e.2.getD x.2 (false,false))).foldl opC cs2=cj
    generalize h0++hO cs2 ((ix.take j).map λx=>(x.1,e.2.getD x.2 (false,false)))=hj'
    generalize (ix.drop (j+1)).map (λx=>(x.1,e.2.getD x.2 (false,false)))++rest=ro
    intro bj r6 e6
    have s06:Same H H6:=λb u e=>s6 _ _ (qae e nD) (qae e nAH) (s05 _ _ e)
    have hsa6:=s06 _ _ hsa
    have hra6:H6 ra=some (.tup [.int x.1,.int x.2,.ref sa]):=s6 _ _ (λz=>by rw[z,d5.l]at hra;cases hra) (λz=>by rw[z,sP5 _ _ e3]at hra;cases hra) hra
    refine ⟨ra,_,rfl,sqtO hra6,rfl,_,_,rfl,_,_,rfl,_,_,rfl,rfl,?_⟩
    refine ⟨_,rfl,sa,_,_,_,rfl,rfl,sqtO hsa6,yaq 0 rfl,rfl,_,rfl,?_⟩
    cases hw:st.1 with
    |true=>
     refine iteB (by decide +kernel) ?_
     have e1:runB cj ((x.1,st)::ro)=runB (opC cj (x.1,st)) ro:=by rw[qb7,if_pos hw]
     have e2':heO cj (x.1,st)=(x.1,st):=if_pos hw
     rw[e1]at e6
     refine ⟨_,rfl,.inl ⟨rfl,_,sqlO d6.l⟩,_,rfl,_,rfl,z2,λq nq=>?_⟩
     have s7:=(smR H6).upd (o:=.tup [.int x.1,.ref sa]) nq
     have f7:=@yaa H6 q (.tup [.int x.1,.ref sa])
     revert s7 f7
     generalize upd H6 q _=H7
     intro s7 f7
     have e7:=s7 _ _ d6.l
     have kt:∀b t,H7 b=some (.tup t)->upd H7 D (.lst (us++[.ref q])) b=some (.tup t):=λb t h=>by rw[qag (λz=>by rw[z,e7]at h;cases h)];exact h
     have ul:us.length=rows.length:=by have:=d6.ft.len;rw[length_map]at this;exact this
     refine ⟨D,_,_,rfl,rfl,e7,ybe (by omega),?_⟩
     refine ⟨_,_,_,us++[.ref q],rows++[(x.1,sa,st)],rfl,λb u h1 h2 e=>by rw[qag h1];exact s7 _ _ (s6 b u h1 h2 e),d6.snoc (λb t h=>kt _ _ (s7 _ _ h)) yaa (kt _ _ f7) (kt _ _ (s7 _ _ hsa6)) x0 x1,?_,?_,by rw[length_append,List.length_singleton];omega⟩
     ·rw[map_append,r6]
      show _=_++[heO cj (x.1,st)]
      rw[e2']
      rfl
     ·rw[qag nAD]
      exact s7 _ _ e6
    |false=>
     refine iteN (by decide +kernel) ?_
     have hw':¬ st.1=true:=by rw[hw];exact Bool.false_ne_true
     have e1:runB cj ((x.1,st)::ro)=rd cj x.1::runB cj ro:=by rw[qb7,if_neg hw']
     have e2':heO cj (x.1,st)=(x.1,false,decide (rd cj x.1=1)):=if_neg hw'
     have e3':opC cj (x.1,st)=cj:=if_neg hw'
     rw[e1,List.reverse_cons,map_append,map_cons,map_nil]at e6
     refine ⟨_,rfl,A,_,rfl,.inl (sqlO e6),rfl,_,rfl,iteN (by rw[dI];exact decide_eq_false (by simp;omega)) ?_⟩
     refine ⟨_,rfl,.inl ⟨rfl,_,sqlO d6.l⟩,_,rfl,_,rfl,.inl ⟨rfl,_,sqlO e6⟩,A,_,.int (rd cj x.1),rfl,rfl,e6,by simp,?_⟩
     have kA:∀b u,b≠A->H6 b=some u->upd H6 A (.lst (((runB cj ro).reverse.map V.int++[V.int (rd cj x.1)]).dropLast)) b=some u:=λb u hb e=>by rw[qag hb];exact e
     have fA:upd H6 A (.lst (((runB cj ro).reverse.map V.int++[V.int (rd cj x.1)]).dropLast)) A=some (.lst ((runB cj ro).reverse.map V.int)):=by rw[yaa,List.dropLast_concat]
     revert kA fA
     generalize upd H6 A _=H7
     intro kA fA
     have d7:=kA _ _ nAD.symm d6.l
     refine ⟨z2,λq1 nq1=>?_⟩
     have s8:=(smR H7).upd (o:=.tup [.str "r",.int (rd cj x.1)]) nq1
     have f8:upd H7 q1 (.tup [.str "r",.int (rd cj x.1)]) q1=some (.tup [.str (qe1 false),.int (b2i (decide (rd cj x.1=1)))]):=by rw[yaa,<-ymi bj];rfl
     revert s8 f8
     generalize upd H7 q1 _=H8
     intro s8 f8
     refine ⟨z2,λq nq=>?_⟩
     have s9:=(smR H8).upd (o:=.tup [.int x.1,.ref q1]) nq
     have f9:=@yaa H8 q (.tup [.int x.1,.ref q1])
     revert s9 f9
     generalize upd H8 q _=H9
     intro s9 f9
     have s79:=s8.trans s9
     have e9:=s79 _ _ d7
     have kt:∀b t,H9 b=some (.tup t)->upd H9 D (.lst (us++[.ref q])) b=some (.tup t):=λb t h=>by rw[qag (λz=>by rw[z,e9]at h;cases h)];exact h
     have ul:us.length=rows.length:=by have:=d6.ft.len;rw[length_map]at this;exact this
     refine ⟨D,_,_,rfl,rfl,e9,ybe (by omega),?_⟩
     refine ⟨_,_,_,us++[.ref q],rows++[(x.1,q1,false,decide (rd cj x.1=1))],rfl,λb u h1 h2 e=>by rw[qag h1];exact s79 _ _ (kA b u h2 (s6 b u h1 h2 e)),d6.snoc (λb t h=>kt _ _ (s79 _ _ (kA _ _ (λz=>by rw[z,e6]at h;cases h) h))) yaa (kt _ _ f9) (kt _ _ (s9 _ _ f8)) x0 x1,?_,?_,by rw[length_append,List.length_singleton];omega⟩
     ·rw[map_append,r6]
      show _=_++[heO cj (x.1,st)]
      rw[e2']
      rfl
     ·rw[qag nAD]
      show H9 A=some (.lst ((runB (opC cj (x.1,st)) ro).reverse.map V.int))
      rw[e3']
      exact s79 _ _ fA
   ·rintro σ H6 ⟨o8,o9,o10,us,rows,rfl,s6,d6,r6,e6,_⟩
    rw[fl,take_length]at r6 e6
    rw[List.drop_length,map_nil,nil_append]at e6
    exact ⟨_,_,_,_,_,us,rows,rfl,λb u e=>s6 _ _ (qae e nD) (qae e nAH) (s05 _ _ e),d6,r6,e6⟩
  ·rintro σ H3 ⟨o6,o7,o8,o9,o10,us,rows,rfl,s3,d3,r3,e3⟩
   have lz:(T.zip os).length<=ws.length:=by rw[length_zip];omega
   rw[List.drop_eq_nil_of_le lz,List.flatMap_nil]at e3
   rw[take_of_length_le lz]at r3
   refine ⟨_,rfl,A,_,rfl,.inl (sqlO e3),rfl,_,rfl,iteB rfl ?_⟩
   exact ⟨_,rfl,k D us rows H3 s3 nD d3 r3⟩
def ownR(cl:List Int)(rows:List Dg):List Dg:=(rows.filter λr=>decide (r.1∈cl)).map λr=>(0,r.2.1,r.2.2)
theorem yk0(a:Int):∀cl:List Int,inV (.int a) (cl.map V.int)=decide (a∈cl)
 |[]=>by simp[inV]
 |c::cl=>by
  have ih:=yk0 a cl
  unfold inV at ih ⊢
  rw[map_cons,any_cons,ih,Bool.eq_iff_iff,Bool.or_eq_true,decide_eq_true_iff,decide_eq_true_iff,mem_cons]
  show (c == a)=true\/_↔_
  rw[beq_iff_eq,eq_comm]
theorem qhh:∀cl:List Int,(cl.map V.int).all qdw=true
 |[]=>rfl
 |c::cl=>qhh cl
theorem one_in{cl:List Int}(h1:cl.length<=1){a:Int}(h:a∈cl):cl=[a]:=by
 match cl,h1,h with
 |[c],_,h=>rw[mem_singleton.mp h]
theorem valV_nd{κ:Type}[DecidableEq κ]{kvs:List (κ×V)}{k:κ}{v:V}(nd:(kvs.map (·.1)).Nodup)(h:(k,v)∈kvs):valV kvs k=some v:=by
 induction kvs with
 |nil=>cases h
 |cons e l ih=>
  rw[map_cons,nodup_cons]at nd
  rcases mem_cons.mp h with rfl|h
  ·exact ye7 rfl
  ·rw[ye5 (λz=>nd.1 (by rw[z];exact mem_map_of_mem (f:=Prod.fst) h))]
   exact ih nd.2 h
def yg1:Sp:=λvs H Q _=>∃(D CL L:Addr) (us:List V) (rows:List Dg) (cl:List Int),vs=[.ref D,.ref CL,.ref L]/\DgAt H D us rows 2/\H CL=some (.lst (cl.map V.int))/\cl.length<=1/\H L=some (.lst [])/\rows.length<=200/\(∃h∈qbv cl.length,gon h (ownR cl rows)≠none)/\
 ∀(p:Addr) (b:List Int) (H':Hp),Same H H'->H' p=some (.tup (b.map V.int))->b∈qbv cl.length->Q (.ref p) H'
abbrev qcz:Stmt:=top 78
theorem qdo:FnScope ["heard","cells","harms","memory","own","firsts","held"] ["heard","cells","harms"] (qac qcz):=fsc
theorem ok_cat0(B:Bl mg)(cl':CL K C)(h_little:Has P w K mg base 9 "little" ["harms"] ygc)(qf0:HasI P w K mg base C 1 "Little" ["self","harms","span"] (qhu P w C))(ye9:HasM P w K mg base C 5 "firsts" ["self"] (yfu P w C))(qin:HasM P w K mg base C 8 "gone_through" ["self","contents","doings"] (yhs P w C))(F:FnAt K mg "contents_at" qcz ["heard","cells","harms"]):Has P w K mg base 10 "contents_at" ["heard","cells","harms"] yg1:=by
 refine Has.ofQ F qdo (λvs H Q E h=>?_) (λ_ _ _ _ _ H vs Q E hr h=>?_)
 ·obtain ⟨D,CL,L,us,rows,cl,rfl,_⟩:=h
  rfl
 ·obtain ⟨D,CL,L,us,rows,cl,rfl,dg,hCL,cl1,hL,r200,⟨h0,hh0,hg0⟩,k⟩:=h
  have sc:=qdo
  refine cutA [3] ⟨_,qaf rfl (yab (ya1 PassesOwn.never rfl (yea (pi_dictT (pv 5))) (pgn 6 sc.nd)
    (yac (yao (qe2 (qc2 (qhf (QE.of (qcy cl'.c qin hr (qaa (pv 3)) (yaf (qaa (pv 6)) (yaf (qaa (pv 4)) qad)))))))
     (yac (yah (qlw (ym0 hr) (qaa (pv 5)) (qaa (pv 6)) (λ_ _=>rfl))))
     yal))) (yac (yah (qaa qa6))))⟩ ?_
  intro c1
  refine cutA [1] ⟨_,qaf rfl (yab (qdm (qi3 (i:=4) rfl sc.nd rfl (Or.inl rfl) rfl (yax rfl) (M:=["address","step","cells"]) (ix:=[none,none,some 1]) (yck (pv 0)) (λ_ _ _ _=>(qel (K:=K) (n:=2) rfl rfl (yaj (qaz (i:=0) (show List.Nodup (["address","step","cells"]:List Str) by decide +kernel) rfl (Or.inl rfl)) (yaj (qaz (i:=1) (show List.Nodup (["address","step","cells"]:List Str) by decide +kernel) rfl (Or.inl rfl)) ya9)))) (λ_ _ _ _=>(qen (qb1 (ygb (K:=K) rfl) (pv 0) (pv 2) (by with_unfolding_all rfl)))) (λ_ _ _ _=>(ybu (qab (pe_bmK (K:=K) rfl PySem.F.plainAttrs_list PySem.F.slot_list_index PySem.F.type_list_index yhn (pv 2) (qab (pv 0) yae)) (qab (pv 1) yae)))))) (yab (qsE 5 sc.nd (qhv cl'.c ye9 hr (qaa (pv 3)))) c1.2))⟩ ?_
  intro c2
  refine ⟨_,qaf rfl (yab (qsE 3 sc.nd (qjl qf0 hr (qd7 (qah h_little hr (yaf (qaa (pv 2)) qad)) (qd7 (qas qai rfl (B.of rfl) boot_len (yaf (qaa (pv 1)) qad)) qad)))) c2.2),?_⟩
  have z2:2<=sizeLine:=by decide
  refine ⟨_,rfl,L,rfl,hL,λL0 H1 s1 nL0 eL0=>?_⟩
  refine ⟨_,rfl,CL,_,rfl,.inl (sqlO (s1 _ _ hCL)),?_⟩
  intro x dx nx ndx nxd
  have sD:=((smR H1).upd (o:=.own x) ndx).upd (o:=.ins C dx []) (p:=x) (by rw[qag (λz=>nxd z.symm)];exact nx)
  have fD:upd (upd H1 dx (.own x)) x (.ins C dx []) x=some (.ins C dx []):=yaa
  revert sD fD
  generalize upd (upd H1 dx (.own x)) x (.ins C dx [])=HD
  intro sD fD
  refine ⟨x,dx,L0,cl.length,(by rw[length_map];rfl),fD,sD _ _ eL0,by omega,λLh Fd HE stE nLh nF lo=>⟨rfl,gn ?_⟩⟩
  have sE:Same H1 HE:=λb u e=>stE b u (λz=>by subst z;rw[nx]at e;cases e) (sD _ _ e)
  have s0E:=s1.trans sE
  have nFH:H Fd=none:=(s1.trans sD).free nF
  have dE:DgAt HE D us rows 2:=⟨s0E _ _ dg.l,dg.ft.same s0E,λr hr=>⟨s0E _ _ (dg.st r hr).1,(dg.st r hr).2⟩⟩
  have ul:us.length=rows.length:=by have:=dg.ft.len;rw[length_map]at this;exact this
  have hCE:=s0E _ _ hCL
  refine ⟨_,rfl,D,rfl,⟨_,sqlO dE.l⟩,λOw nOw=>yby (n:=us.length) (λi H'=>Same HE H'/\∃vs,H' Ow=some (.lst vs)/\FT H' vs ((ownR cl (rows.take i)).map λr=>[V.int r.1,.ref r.2.1])) ⟨(smR HE).upd nOw,[],yaa,FT.nil⟩ ?_ ?_⟩
  rotate_left
  ·rintro i H2 hi ⟨s2,vs,e2,ft2⟩
   have l2:=s2 _ _ dE.l
   refine ⟨⟨_,_,sqlO l2,getElem?_eq_getElem hi⟩,?_⟩
   rintro y H3 ⟨rfl,hy⟩
   obtain ⟨row,ra,hrow,rfl,hra⟩:=dE.ft.get (hy _ (sqlO l2))
   obtain ⟨r,hri,rfl⟩:=qbd hrow
   have hra2:=s2 _ _ hra
   refine ⟨ra,_,rfl,sqtO hra2,rfl,_,_,rfl,_,_,rfl,rfl,qa4.set (qa4.set (qa4.refl _) rfl) rfl,?_⟩
   have tk:ownR cl (rows.take (i+1))=ownR cl (rows.take i)++(if r.1∈cl then [(0,r.2.1,r.2.2)] else []):=by
    unfold ownR
    rw[take_add_one,hri,List.filter_append,map_append]
    congr 1
    by_cases hm:r.1∈cl<;>simp[hm]
   have vl:vs.length<=200:=by
    have:=ft2.len
    rw[this,length_map]
    unfold ownR
    rw[length_map]
    refine le_trans (List.length_filter_le _ _) ?_
    rw[length_take]
    omega
   refine ⟨_,rfl,_,rfl,CL,_,rfl,.inl (sqlO (s2 _ _ hCE)),rfl,qhh cl,_,rfl,?_⟩
   show if inV (.int r.1) (cl.map V.int)=true then _ else _
   rw[yk0,tk]
   by_cases hm:r.1∈cl
   ·refine iteD hm ?_
    have e1:=one_in cl1 hm
    rw[if_pos hm]
    refine ⟨_,rfl,.inl ⟨rfl,_,sqlO (s2 _ _ hCE)⟩,_,rfl,CL,cl,r.1,0,rfl,rfl,s2 _ _ hCE,by rw[e1];rfl,λm h=>absurd h (not_lt_zero m),_,rfl,z2,λq nq=>?_⟩
    have s4:=(smR H3).upd (o:=.tup [.int ((0:Nat):Int),.ref r.2.1]) nq
    have e4:=s4 _ _ e2
    refine ⟨_,e4,ybe (by omega),(s2.trans s4).at nOw,vs++[.ref q],yaa,?_⟩
    rw[map_append]
    exact ((ft2.same s4).snoc (x:=[V.int ((0:Nat):Int),.ref r.2.1]) yaa).put e4
   ·refine qf2 hm ?_
    rw[if_neg hm,append_nil]
    exact ⟨s2,vs,e2,ft2⟩
  rintro H2 ⟨s2,vs,e2,ft2⟩
  refine ⟨⟨_,sqlO (s2 _ _ dE.l),le_refl _⟩,gn ?_⟩
  rw[ul,take_length]at ft2
  have lo2:=lo.same s2
  have s02:=s0E.trans s2
  have dO:DgAt H2 Ow vs (ownR cl rows) cl.length:=⟨e2,ft2,λr hr=>by
   obtain ⟨q,hq,rfl⟩:=mem_map.mp hr
   obtain ⟨hq1,hq2⟩:=List.mem_filter.mp hq
   have:=one_in cl1 (of_decide_eq_true hq2)
   exact ⟨s02 _ _ (dg.st q hq1).1,Int.le_refl 0,by rw[this];show (0:Int)<((1:Nat):Int);decide⟩⟩
  revert dO hg0
  generalize ownR cl rows=own
  intro hg0 dO
  generalize cl.length=n at *
  obtain ⟨dx2,ho2⟩:=lo2.o
  refine ⟨_,rfl,x,dx2,_,rfl,ho2,lkL_n,x,Lh,Fd,n,[],rfl,lo2,λM fk H3 s3 nM eM fs cov=>gn ?_⟩
  have lo3:=lo2.same s3
  have s03:=s02.trans s3
  have dO3:DgAt H3 Ow vs own n:=⟨s3 _ _ dO.l,dO.ft.same s3,λr hr=>⟨s3 _ _ (dO.st r hr).1,(dO.st r hr).2⟩⟩
  refine ⟨_,rfl,M,fk,rfl,.inl eM,λo H4 fz=>?_⟩
  have k4:∀{b:Addr}{u:HO},b≠M->H3 b=some u->H4 b=some u:=λ{b u} h e=>by rw[fz.st b h];exact e
  have nM0:∀{b:Addr}{u:HO},(∀kv,u≠.dT kv)->H3 b=some u->H4 b=some u:=λ{b u} h e=>k4 (λz=>by rw[z,eM]at e;exact h _ (Option.some.inj e).symm) e
  refine for_by (n:=fk.length) (λi σ Hk=>∃(o6:Option V) (es:List AE),σ=[some (.ref D),some (.ref CL),some (.ref L),some (.ref x),some (.ref Ow),some (.ref M),o6]/\LKp H4 Hk Fd/\LitO P w Hk C x Lh Fd n es/\∀e∈fk.take i,∀hd,e.1=kI hd->gon hd own=none)
   ⟨_,[],rfl,LKp.of (smR H4),?_,λe he=>by cases he⟩ ?_ ?_
  ·obtain ⟨dx3,ho3⟩:=lo3.o
   refine ⟨⟨dx3,nM0 (λ_ z=>by cases z) ho3⟩,nM0 (λ_ z=>by cases z) lo3.hl,lo3.n3,nM0 (λ_ z=>by cases z) lo3.f,lo3.nd,λe he=>(lo3.all e he).keep λb ys h=>nM0 (λ_ z=>by cases z) h⟩
  ·rintro σ Hk ⟨o6,es,rfl,kp,lk,no⟩
   exfalso
   obtain ⟨e,he,ek⟩:=mem_map.mp (cov h0 hh0)
   exact hg0 (no e (by rw[take_length];exact he) h0 ek)
  ·rintro i σ Hk hi ⟨o6,es,rfl,kp,lk,no⟩
   have nMF:M≠Fd:=λz=>by have:=lo3.f;rw[<-z,eM]at this;cases this
   have eMk:=kp _ _ nMF fz.at_
   refine ⟨⟨eMk,hi⟩,?_⟩
   rintro y H5 ⟨rfl,kk,v,b,e1,rfl,hb⟩
   have he:=mem_of_getElem? e1
   obtain ⟨hd,c,ca,ee,hca,hcb,hset⟩:=fs.en _ he
   cases ee
   subst hset
   have tf:∀{b:Addr}{t:List V},H3 b=some (.tup t)->H5 b=some (.tup t):=λ{b t} h=>kp _ _ (λz=>by have:=lo3.f;rw[<-z,h]at this;cases this) (nM0 (λ_ z=>by cases z) h)
   have dO5:DgAt H5 Ow vs own n:=⟨kp _ _ (λz=>by have:=lo3.f;rw[<-z,dO3.l]at this;cases this) (nM0 (λ_ z=>by cases z) dO3.l),⟨dO3.ft.len,λi v y a b=>by
    obtain ⟨q,eq,hq⟩:=dO3.ft.at_ i v y a b
    exact ⟨q,eq,tf hq⟩⟩,λr hr=>⟨tf (dO3.st r hr).1,(dO3.st r hr).2⟩⟩
   obtain ⟨dx5,ho5⟩:=lk.o
   rw[kI_kV]at hb
   refine gn ?_
   refine ⟨_,rfl,x,dx5,_,rfl,ho5,lkL_n,_,rfl,_,rfl,x,Lh,Fd,b,Ow,vs,n,es,c,own,rfl,lk,hb,hcb,dO5,λv H6 es' kp6 lk6 ov=>?_⟩
   cases q:gon c own with
   |none=>
    rw[q]at ov
    cases ov
    refine ⟨_,rfl,iteF ⟨_,es',rfl,kp.trans kp6,lk6,λe he' hd' ek=>?_⟩⟩
    rw[take_add_one,e1,mem_append]at he'
    rcases he' with he'|he'
    ·exact no e he' hd' ek
    ·rw[mem_singleton.mp he']at ek
     rw[<-kI_inj ek]
     exact q
   |some ds=>
    rw[q]at ov
    obtain ⟨d,rfl,hd'⟩:=ov
    refine ⟨_,rfl,iteT ?_⟩
    have kp46:=kp.trans kp6
    refine ⟨_,rfl,_,rfl,M,_,rfl,.inr ⟨fk,kI c,b,.inr ⟨o,kp46 _ _ nMF fz.at_⟩,rfl,(by rw[kI_kV];exact kp6 _ _ (λz=>by have:=lk.f;rw[<-z,hb]at this;cases this) hb),(valV_nd fs.nd he).symm⟩,?_⟩
    refine k ca c H6 (λb u e=>?_) (kp6 _ _ (λz=>by have:=lk.f;rw[<-z,tf hca]at this;cases this) (tf hca)) hcb
    exact kp46 _ _ (qae e nFH) (k4 (λz=>by have:=s02 _ _ e;rw[z,nM]at this;cases this) (s03 _ _ e))
end
end Mh
namespace L2
open PySem PySem.Spec PyProof.Rows PySem.W
section
variable {prog:Program}{w:World}{A:Around}{E:Value->Shared->Prop}{s:Shared}
theorem sort_one{a:Addr}{vs:List Value}{n:Nat}{P:PySem.Fin->Shared->Prop}(ho:s.heap.get? a=some (seqObj "list" vs.toArray n))(h1:vs.length<2)(h:P (.done (.ret .none)) { s with heap:=sortedHeap s.heap a vs vs.toArray }) :
  wpAny (model prog w) A (Builtin.«list.sort» ⟨[.ref a],[]⟩) P E s:=by
 rw[list_sort_plain]
 have ha:a<s.heap.objs.size:=lt_size ho
 refine wpAny_bind (listItems_at ho rfl ?_)
 refine wpAny_bind (listUpdate_at ho rfl ?_)
 obtain ⟨e1,ho1⟩:∃e1,(s.heap.update a (Obj.mapSeq λ_=>#[])).get? a=some (seqObj "list" #[] e1):=⟨_,get?_update_seq ho (λ_=>#[])⟩
 refine wpAny_bind (seqEpoch_at ho1 rfl ?_)
 refine wpAny_bind (wpAny_newTuple ?_)
 refine wpAny_bind (wpAny_newList ?_)
 refine wpAny_holding ?_
 have ho6:(((s.heap.update a (Obj.mapSeq λ_=>#[])).push (seqObj "tuple" vs.toArray 0)).push (seqObj "list" #[] 0)).get? a=some (seqObj "list" #[] e1):=by
  rw[Heap.get?_push_ne _ _ _ (by rw[size_push',Heap.size_update];exact ne_of_lt (lt_succ_of_lt ha)),Heap.get?_push_ne _ _ _ (by rw[Heap.size_update];exact ne_of_lt ha)]
  exact ho1
 show wpAny (model prog w) A _ P E { s with heap:=((s.heap.update a (Obj.mapSeq λ_=>#[])).push (seqObj "tuple" vs.toArray 0)).push (seqObj "list" #[] 0) }
 dsimp only
 have hsz:vs.toArray.size=vs.length:=by simp
 have h2:vs.toArray.size<2:=by omega
 rw[if_pos h2,if_pos h2]
 refine wpAny_bind (wpAny_pure ?_)
 rw[StateT.run_pure]
 refine wpAny_bind (wpAny_pure ?_)
 dsimp only
 refine wpAny_bind (seqEpoch_at ho6 rfl ?_)
 have eo:(arrOf (SortSt.mk' general' (vs.toArray.zip vs.toArray) #[] 7 none)).map (·.2)=List.toArray ((List.toArray (List.range vs.length)).toList.map λi=>vs.getD i Value.none):=by
  refine kat_snds (ks:=vs) (vs:=vs) rfl (p:=List.toArray (List.range vs.length)) ?_
  have e:=kas_range (vs.toArray.zip vs.toArray)
  rw[show (vs.toArray.zip vs.toArray).size=vs.length by simp]at e
  exact e.symm
 rw[eo]
 refine wpAny_bind (listUpdate_at ho6 rfl ?_ (hsz2:=by rw[size_toArray,length_map,length_toList,size_toArray,List.length_range,sizeLine_eq];omega))
 simp only[bne_self_eq_false,Bool.false_eq_true,if_false]
 refine wpAny_pure ?_
 rw[show (List.toArray (List.range vs.length)).toList.map (λi=>vs.getD i Value.none)=vs from ?_]
 ·exact h
 ·match vs,h1 with
  |[],_=>rfl
  |[v],_=>rfl
end
section
variable {X:Cx}
def rSort1:List V->Hp->VK->Prop:=λxs H Q=>∃(l:Addr) (v:V),xs=[.ref l]/\H l=some (.lst [v])/\∀p,H p=none->Q (.ref p) (upd H p (.lst [v]))
theorem ykc:ycs X (.builtin "sorted") rSort1:=by
 intro pins s σ H xs us Q I r h
 obtain ⟨l,v,rfl,hH,q⟩:=h
 cases r with
 |cons r rr=>
  cases rr
  cases r
  obtain ⟨z,its,n,rv,hl,e⟩:=I.lstM hH
  obtain ⟨u,rfl,ru⟩:=rv.one
  refine qme (collect_list (vs:=[u]) ⟨_,e,rfl,n,rfl⟩ ⟨by show 1<64;decide,λs2 hs=>?_⟩ zl)
  subst hs
  have kp:∀b o,s.heap.get? b=some o->((s.heap.push (seqObj "list" #[] 0)).update s.heap.objs.size (Obj.mapSeq (·++[u].toArray))).get? b=some o:=λb o g=>
   (get?_update_other _ _ (Ne.symm (ne_of_lt (lt_size g)))).trans (get?_push_of_some _ g)
  have hz:s.heap.objs.size<=((s.heap.push (seqObj "list" #[] 0)).update s.heap.objs.size (Obj.mapSeq (·++[u].toArray))).objs.size:=by rw[Heap.size_update,size_push];exact le_succ _
  generalize ((s.heap.push (seqObj "list" #[] 0)).update s.heap.objs.size (Obj.mapSeq (·++[u].toArray)))=h' at kp hz
  have gL:(h'.push (seqObj "list" [u].toArray 0)).get? h'.objs.size=some (seqObj "list" [u].toArray 0):=get?_push_size _ rfl
  refine sort_one (s:={ s with heap:=h'.push (seqObj "list" [u].toArray 0) }) gL (by show 1<2;decide) ⟨rfl,?_⟩
  obtain ⟨ep,ge⟩:=sortedHeap_at (out:=[u].toArray) gL
  have hf:H h'.objs.size=none:=I.hok.fresh hz
  refine ⟨.ref h'.objs.size,_,I.laid (o:=.lst [v]) (t':=s.toks) (λb o g=>?_) hz ?_,rfl,q _ hf⟩
  ·have hb:b<h'.objs.size:=lt_size (kp b o g)
   rw[sortedHeap_old (ne_of_lt hb) (by rw[show (h'.push (seqObj "list" [u].toArray 0)).objs.size=h'.objs.size+1 from size_push ..];exact lt_succ_of_lt hb)]
   exact get?_push_of_some _ (kp b o g)
  ·exact ⟨by show 1<=sizeLine;decide,[u],ep,.cons ru .nil,ge⟩
end
end L2
namespace Mh
open PySem L2 PyProof.Rows Mx
theorem qmi{cs:List Int}{a c b:Int}(a0:0<=a)(c0:0<=c)(h:a≠c):rd (cs.set a.toNat b) c=rd cs c:=by
 unfold rd
 rw[getD_eq_getElem?_getD,getD_eq_getElem?_getD,getElem?_set_ne (by omega)]
theorem ql5{cs:List Int}{c b:Int}(c0:0<=c)(h:c<cs.length):rd (cs.set c.toNat b) c=b:=by
 unfold rd
 rw[getD_eq_getElem?_getD,List.getElem?_set_self (by omega)]
 rfl
theorem heO_fst(cs:List Int)(x:Op):(heO cs x).1=x.1:=by
 unfold heO
 split<;>rfl
theorem qje{c:Int}(c0:0<=c)(c1:c<2):∀(ops:List Op) (rows:List Dg) (cs:List Int),cs.length=2->bits cs->(∀x∈ops,0<=x.1/\x.1<2)->rows.map opR=hO cs ops->gon [rd cs c] (ownR [c] rows)≠none
 |[],rows,cs,_,_,_,e=>by
  rw[List.map_eq_nil_iff.mp e]
  intro z
  cases z
 |x::ops,[],cs,_,_,_,e=>by cases e
 |x::ops,r::rows,cs,l2,hb,hx,e=>by
  obtain ⟨e1,e2⟩:=List.cons.inj (show opR r::rows.map opR=heO cs x::hO (opC cs x) ops from e)
  have r1:r.1=x.1:=by have:=congrArg Prod.fst e1;rw[heO_fst]at this;exact this
  have r2:r.2.2=(heO cs x).2:=congrArg Prod.snd e1
  obtain ⟨x0,x1⟩:=hx x mem_cons_self
  have ih:=qje c0 c1 ops rows (opC cs x) (by rw[qlg];exact l2) (ygv hb x) (λy hy=>hx y (mem_cons_of_mem _ hy)) e2
  by_cases hc:x.1=c
  ·have eo:ownR [c] (r::rows)=(0,r.2.1,r.2.2)::ownR [c] rows:=by
    unfold ownR
    rw[List.filter_cons,if_pos (by rw[r1,hc];simp)]
    rfl
   have es:stp [rd cs c] 0 r.2.2=some [rd (opC cs x) c]:=by
    rw[r2]
    unfold stp heO opC
    by_cases hw:x.2.1=true
    ·rw[if_pos hw,if_pos hw,if_pos hw,hc,ql5 c0 (by omega)]
     rfl
    ·rw[if_neg hw,if_neg hw,if_neg Bool.false_ne_true,if_pos (by rw[hc];exact ymi hb c)]
   rw[eo]
   show (match stp [rd cs c] 0 r.2.2 with|none=>none|some ds=>gon ds (ownR [c] rows))≠none
   rw[es]
   exact ih
  ·have eo:ownR [c] (r::rows)=ownR [c] rows:=by
    unfold ownR
    rw[List.filter_cons,if_neg (by rw[r1];simpa using hc)]
   have er:rd (opC cs x) c=rd cs c:=by
    unfold opC
    split
    ·exact qmi x0 c0 hc
    ·rfl
   rw[eo,<-er]
   exact ih
theorem yju(rows:List Dg):ownR [] rows=[]:=by
 unfold ownR
 rw[List.filter_eq_nil_iff.mpr (by simp)]
 rfl
theorem DgAt.same{H H':Hp}{D:Addr}{us:List V}{rows:List Dg}{n:Nat}(x:DgAt H D us rows n)(s:Same H H'):DgAt H' D us rows n:=⟨s _ _ x.l,x.ft.same s,λr hr=>⟨s _ _ (x.st r hr).1,(x.st r hr).2⟩⟩
structure Hrd(H:Hp)(D:Addr)(us:List V)(rows:List Dg):Prop where
 d:DgAt H D us rows 2
 n:rows.length<=200
 g:∀c:Int,0<=c->c<2->∃h∈qbv 1,gon h (ownR [c] rows)≠none
theorem Hrd.same{H H':Hp}{D:Addr}{us:List V}{rows:List Dg}(x:Hrd H D us rows)(s:Same H H'):Hrd H' D us rows:=⟨x.d.same s,x.n,x.g⟩
def OneT(H:Hp)(ps:List Addr):Prop:=∀p∈ps,∃b:Int,H p=some (.tup [.int b])
theorem OneT.same{H H':Hp}{ps:List Addr}(x:OneT H ps)(s:Same H H'):OneT H' ps:=λp hp=>by
 obtain ⟨b,h⟩:=x p hp
 exact ⟨b,s _ _ h⟩
section
variable {P:Program}{w:World}{K:W.Frag}{mg:Str->Option Value}{base:Heap}{C:Addr}
def qfe:Sp:=λvs H Q _=>∃(D:Addr) (us:List V) (rows:List Dg),vs=[.ref D,.int 2]/\Hrd H D us rows/\∀(S:Addr) (ps:List Addr) (H':Hp),Same H H'->H S=none->H' S=some (.lst (ps.map V.ref))->ps.length=2->OneT H' ps->Q (.ref S) H'
abbrev qb0:Stmt:=top 79
theorem ycr:FnScope ["heard","size"] ["heard","size"] (qac qb0):=fsc
theorem qmr(B:Bl mg)(qbn:Has P w K mg base 10 "contents_at" ["heard","cells","harms"] yg1)(F:FnAt K mg "sound_contents" qb0 ["heard","size"]):Has P w K mg base 11 "sound_contents" ["heard","size"] qfe:=by
 refine Has.ofQ F ycr (λvs H Q E h=>?_) (λ_ _ _ _ _ H vs Q E hr h=>?_)
 ·obtain ⟨D,us,rows,rfl,_⟩:=h
  rfl
 ·obtain ⟨D,us,rows,rfl,hd,k⟩:=h
  have sc:=ycr
  refine ⟨_,qaf rfl (yac (yah (qaa (ybr rfl (yax rfl) (M:=["cell","heard"]) (ix:=[none,some 0]) (qby rfl (B.of rfl) (qab (pv 1) yae)) (λ_ _ _ _=>(qaz (i:=0) (show List.Nodup (["cell","heard"]:List Str) by decide +kernel) rfl (Or.inl rfl))) (λ_ _ _ _=>ych) (λ_ _ _ _=>(qam qbn hr (qab (pv 1) (qab (qc3 (qab (pv 0) yae)) (qab (qc3 yae) yae))))))))),?_⟩
  refine ⟨_,rfl,2,rfl,by omega,by omega,λS nS=>yby (n:=2) (λi H'=>Same H H'/\∃ps:List Addr,H' S=some (.lst (ps.map V.ref))/\ps.length=i/\OneT H' ps) ⟨(smR H).upd nS,[],yaa,rfl,λp hp=>by cases hp⟩ ?_ ?_⟩
  ·rintro H1 ⟨s1,ps,e1,l1,o1⟩
   exact ⟨by show _<=_;simp,k S ps H1 s1 nS e1 l1 o1⟩
  ·rintro i H1 hi ⟨s1,ps,e1,l1,o1⟩
   refine ⟨by show i<_;simpa using hi,?_⟩
   rintro x H2 ⟨rfl,rfl⟩
   refine ⟨qa4.set (qa4.refl _) rfl,yes ?_⟩
   rw[zero_add]
   refine ⟨_,rfl,_,rfl,zl,λq1 n1=>⟨zero_le _,λq2 n2=>?_⟩⟩
   have s3:=((smR H2).upd (o:=.lst [V.int i]) n1)
   have s4:=s3.upd (o:=.lst []) n2
   have hd4:=hd.same (s1.trans s4)
   obtain ⟨h0,hh0,hg0⟩:=hd.g i (by omega) (by omega)
   refine ⟨D,q1,q2,us,rows,[(i:Int)],rfl,hd4.d,by rw[qag (qae yaa n2)];exact yaa,le_refl _,yaa,hd.n,⟨h0,hh0,hg0⟩,λp b H5 s5 e5 hb=>?_⟩
   have s15:=s4.trans s5
   have e15:=s15 _ _ e1
   obtain ⟨v,rfl⟩:∃v,b=[v]:=by
    have:=(ybo.mp hb).1
    match b,this with
    |[v],_=>exact ⟨v,rfl⟩
   have kt:∀b t,H5 b=some (.tup t)->upd H5 S (.lst (ps.map V.ref++[.ref p])) b=some (.tup t):=λb t h=>by rw[qag (λz=>by rw[z,e15]at h;cases h)];exact h
   refine ⟨_,e15,ybe (by rw[length_map];omega),(s1.trans s15).at nS,ps++[p],by rw[yaa,map_append];rfl,by rw[length_append,l1];rfl,λy hy=>?_⟩
   rcases mem_append.mp hy with hy|hy
   ·obtain ⟨b,h⟩:=o1 y hy
    exact ⟨b,kt _ _ (s15 _ _ h)⟩
   ·rw[mem_singleton.mp hy]
    exact ⟨v,kt _ _ e5⟩
def yg4:Sp:=λvs H Q _=>∃(D S L:Addr) (us:List V) (rows:List Dg) (ps:List Addr),vs=[.ref D,.ref S,.ref L]/\Hrd H D us rows/\H S=some (.lst (ps.map V.ref))/\ps.length=2/\OneT H ps/\H L=some (.lst [])/\∀H',Same H H'->Q (.bl true) H'
abbrev qk8:Stmt:=top 80
theorem qky:FnScope ["heard","sound","harms","cells","others"] ["heard","sound","harms"] (qac qk8):=fsc
theorem ok_fits0(B:Bl mg)(qbc:Has P w K mg base 7 "cells_of" ["harms"] qcn)(qbn:Has P w K mg base 10 "contents_at" ["heard","cells","harms"] yg1)(F:FnAt K mg "fits" qk8 ["heard","sound","harms"]):Has P w K mg base 11 "fits" ["heard","sound","harms"] yg4:=by
 refine Has.ofQ F qky (λvs H Q E h=>?_) (λ_ _ _ _ _ H vs Q E hr h=>?_)
 ·obtain ⟨D,S,L,us,rows,ps,rfl,_⟩:=h
  rfl
 ·obtain ⟨D,S,L,us,rows,ps,rfl,hd,hS,l2,o2,hL,k⟩:=h
  have sc:=qky
  refine cutA [2] ⟨_,qaf rfl (yac (yah (qaa (qa8 (ya4 (qki hr) qa6 (pv 4) (by with_unfolding_all rfl)) (qbx (pe_cmp (qhf (qam qbn hr (qab (pv 0) (qab (pv 3) (qab (pv 2) yae)))))))))))⟩ ?_
  intro c1
  refine cutA [1] ⟨_,qaf rfl (yab (qdm (qi3 (i:=4) rfl sc.nd rfl (Or.inl rfl) rfl (yax rfl) (M:=["cell","contents","cells"]) (ix:=[none,none,some 3]) (qct rfl (B.of rfl) (qab (pv 1) yae)) (λ_ _ _ _=>(qel (K:=K) (n:=2) rfl rfl (yaj (qaz (i:=0) (show List.Nodup (["cell","contents","cells"]:List Str) by decide +kernel) rfl (Or.inl rfl)) (yaj (qaz (i:=1) (show List.Nodup (["cell","contents","cells"]:List Str) by decide +kernel) rfl (Or.inl rfl)) ya9)))) (λ_ _ _ _=>(qen (qb1 (yhe (K:=K) rfl) (pv 0) (pv 2) (by with_unfolding_all rfl)))) (λ_ _ _ _=>(pv 1)))) c1.2)⟩ ?_
  intro c2
  refine ⟨_,qaf rfl (yab (yc7 (i:=3) sc.nd rfl (Or.inr rfl) (qah qbc hr (yaf (qaa (pv 2)) qad))) c2.2),?_⟩
  refine ⟨_,rfl,L,rfl,hL,λCL H1 s1 nCL eCL=>gn ?_⟩
  have hS1:=s1 _ _ hS
  refine ⟨_,rfl,S,_,rfl,sqlO hS1,λOt nOt=>yby (n:=2) (λi H'=>Same H1 H'/\∃qs:List Addr,H' Ot=some (.lst (qs.map V.ref))/\qs.length<=i/\∀q∈qs,q∈ps) ⟨(smR H1).upd nOt,[],yaa,le_refl _,λq hq=>by cases hq⟩ ?_ ?_⟩
  rotate_left
  ·rintro i H2 hi ⟨s2,qs,e2,ql,qm⟩
   have hS2:=s2 _ _ hS1
   have hip:(ps.map V.ref)[i]?=some (.ref (ps[i]'(by omega))):=by rw[getElem?_map,getElem?_eq_getElem (by omega)];rfl
   refine ⟨⟨_,_,sqlO hS2,hip⟩,?_⟩
   rintro y H3 ⟨pp,z,hn,rfl,rfl,hz⟩
   have hz:=hz _ (sqlO hS2)
   rw[hip]at hz
   cases hz
   have s3:=(smR H2).upd (o:=.tup [.int i,.ref (ps[i]'(by omega))]) hn
   refine ⟨pp,_,rfl,sqtO yaa,rfl,_,_,rfl,_,_,rfl,rfl,qa4.set (qa4.set (qa4.refl _) rfl) rfl,?_⟩
   revert s3
   generalize upd H2 pp _=H3
   intro s3
   refine ⟨_,rfl,_,rfl,CL,[],rfl,.inl (sqlO (s3 _ _ (s2 _ _ eCL))),rfl,rfl,_,rfl,iteT ⟨_,rfl,_,s3 _ _ e2,ybe (by rw[length_map];omega),(s2.trans s3).at nOt,qs++[ps[i]'(by omega)],by rw[yaa,map_append];rfl,by rw[length_append];exact Nat.succ_le_succ ql,λq hq=>?_⟩⟩
   rcases mem_append.mp hq with hq|hq
   ·exact qm q hq
   ·rw[mem_singleton.mp hq];exact getElem_mem _
  rintro H2 ⟨s2,qs,e2,ql,qm⟩
  refine ⟨⟨_,sqlO (s2 _ _ hS1),by rw[length_map];omega⟩,gn ?_⟩
  have s02:=s1.trans s2
  refine ⟨_,rfl,Ot,_,rfl,rfl,sqlO e2,λv hv=>?_,_,rfl,iteT ?_⟩
  ·obtain ⟨q,hq,rfl⟩:=mem_map.mp hv
   obtain ⟨b,h⟩:=o2 q (qm q hq)
   exact ⟨q,_,rfl,sqtO (s02 _ _ h)⟩
  refine ⟨_,rfl,_,rfl,_,rfl,D,CL,L,us,rows,[],rfl,(hd.same s02).d,s2 _ _ eCL,by decide,s02 _ _ hL,hd.n,⟨[],by decide,by rw[yju];intro z;cases z⟩,λp b H3 s3 e3 hb=>?_⟩
  exact k H3 (s02.trans s3)
end
structure Ask3(H:Hp)(vt vo:V)(R:Addr)(dt dor:PyData)(T:List Elm)(os:List Str)(cs:List Int):Prop where
 t:AtX H vt dt
 tg:ya0 dt=none->dt=qci T/\okT T
 o:AtX H vo dor
 og:ordB T dor=true->∃O,vo=.ref O/\H O=some (.lst (os.map V.str))/\OrdOk T os
 r:H R=some (.lst ((runB cs (tOps T os)).map V.int))
 b:bits cs
 n:cs.length=2
theorem Ask3.same{H H':Hp}{vt vo:V}{R:Addr}{dt dor:PyData}{T:List Elm}{os:List Str}{cs:List Int}(x:Ask3 H vt vo R dt dor T os cs)(s:Same H H'):Ask3 H' vt vo R dt dor T os cs:=
 ⟨x.t.same s,x.tg,x.o.same s,λh=>by obtain ⟨O,e,hO,oo⟩:=x.og h;exact ⟨O,e,s _ _ hO,oo⟩,s _ _ x.r,x.b,x.n⟩
theorem hrd_of{H:Hp}{D:Addr}{us:List V}{rows:List Dg}{T:List Elm}{os:List Str}{cs:List Int}(ok:okT T)(d:DgAt H D us rows 2)(e:rows.map opR=hO cs (tOps T os))(hb:bits cs)(l2:cs.length=2):Hrd H D us rows:=by
 refine ⟨d,?_,λc c0 c1=>⟨[rd cs c],?_,qje c0 c1 (tOps T os) rows cs l2 hb (λx hx=>tOps_in hx) e⟩⟩
 ·have:=congrArg List.length e
  rw[length_map,yle]at this
  have:=ye6 (os:=os) ok
  omega
 ·refine yhg.mpr ⟨rfl,λx hx=>?_⟩
  rw[mem_singleton.mp hx]
  exact ⟨_,ymi hb c⟩
section
variable {P:Program}{w:World}{K:W.Frag}{mg:Str->Option Value}{base:Heap}{C c0 c2 c6:Addr}
theorem qjt{x:Str}{st:Stmt}{ps N:List Str}(F:FnAt K mg x st ps)(S:FnScope N ps (qac st)):Has P w K mg base 1 x ps λ_ _ _ _=>False:=Has.of F S (λ_ _ _ _ h=>h.elim) λ_ _ _ _ _ _ _ _ _ _ h=>h.elim
abbrev qfj:Stmt:=top 41
theorem yj5:FnScope ["harm","names","parts","name","part"] ["harm","names"] (qac qfj):=fsc
abbrev yeq:Stmt:=top 45
theorem yir:FnScope ["word","cells","found","name","longer","harm"] ["word","cells"] (qac yeq):=fsc
def sg_fit(c0 c6:Addr):Sp:=λvs H Q E=>∃(vt vo:V) (R Kl:Addr) (dt dor:PyData) (T:List Elm) (os:List Str) (cs:List Int),vs=[vt,.int 2,vo,.ref R,.ref Kl]/\H Kl=some (.lst [])/\Ask3 H vt vo R dt dor T os cs/\
 (ya0 dt=none->ordB T dor=true->∀D e H',Same H H'->H' D=some (.lst [.ref e])->H' e=some (.lst [])->Q (.ref D) H')/\
 ((ya0 dt).isSome=true->∀a fs H',Same H H'->XAt H' a c0 fs->E (.ref a) none H')/\(ya0 dt=none->ordB T dor=false->∀a fs H',Same H H'->XAt H' a c6 fs->E (.ref a) none H')
abbrev qfs:Stmt:=top 81
theorem qgo:FnScope ["test","size","orders","reads","kinds","heard","asked","kind","sound"] ["test","size","orders","reads","kinds"] (qac qfs):=fsc
theorem og_fit(B:Bl mg)(qbf:HasX P w K mg base 5 "look_at_test" ["thing"] (yhd c0))(ya8:HasX P w K mg base 4 "look_at_orders" ["test","thing"] (qdj c6))(qcu:Has P w K mg base 2 "deeds_heard" ["test","size","orders","reads"] qfu)(ykh:Has P w K mg base 1 "harms_on" ["word","cells"] λ_ _ _ _=>False)(yb1:Has P w K mg base 11 "sound_contents" ["heard","size"] qfe)(qmk:Has P w K mg base 11 "fits" ["heard","sound","harms"] yg4)(F:FnAt K mg "fitting" qfs ["test","size","orders","reads","kinds"]):HasX P w K mg base 12 "fitting" ["test","size","orders","reads","kinds"] (sg_fit c0 c6):=by
 refine HasX.of F qgo (λvs H Q E h=>?_) (λ_ _ _ _ _ H vs Q E hr h=>?_)
 ·obtain ⟨vt,vo,R,Kl,dt,dor,T,os,cs,rfl,_⟩:=h
  rfl
 ·obtain ⟨vt,vo,R,Kl,dt,dor,T,os,cs,rfl,hK,ak,k,kt,ko⟩:=h
  have sc:=qgo
  refine cutA [7] ⟨_,qaf rfl (yac (yah (qas ykc rfl (B.of rfl) yet (qa_lc (qaa (ybr rfl (yax rfl) (M:=["harms","heard","sound"]) (ix:=[none,some 5,some 8]) (yck (pv 6)) (λ_ _ _ _=>(qaz (i:=0) (show List.Nodup (["harms","heard","sound"]:List Str) by decide +kernel) rfl (Or.inl rfl))) (λ_ _ _ _=>(qen (yeu (qam qmk hr (qab (pv 1) (qab (pv 2) (qab (pv 0) yae))))))) (λ_ _ _ _=>(pv 0)))) qad))))⟩ ?_
  intro c1
  refine cutA [5] ⟨_,qaf rfl (yab (ya1 qea rfl (qbi (qaa (pv 4))) (pgn 7 sc.nd)
    (yac (qap (qaa (qdd PySem.F.plainAttrs_list PySem.F.slot_list_extend PySem.F.type_list_extend qfk (pv 6) (qab (ybr rfl (yax rfl) (M:=["harm"]) (ix:=[none]) (yck (qam ykh hr (qab (pv 7) (qab (qex hr.hd rfl (B.of rfl) rfl (B.of rfl) (qab (pv 1) yae)) yae)))) (λ_ _ _ _=>(qaz (i:=0) (show List.Nodup (["harm"]:List Str) by decide +kernel) rfl (Or.inl rfl))) (λ_ _ _ _=>ych) (λ_ _ _ _=>(qc3 (qab (pv 0) yae)))) yae)))))) (yab (yc7 (i:=8) sc.nd rfl (Or.inr rfl) (qah yb1 hr (yaf (qaa (pv 5)) (yaf (qaa (pv 1)) qad)))) c1.2))⟩ ?_
  intro c2
  refine cutA [2] ⟨_,qaf rfl (yab (yc7 (i:=5) sc.nd rfl (Or.inr rfl) (qah qcu hr (yaf (qaa (pv 0)) (yaf (qaa (pv 1)) (yaf (qaa (pv 2)) (yaf (qaa (pv 3)) qad)))))) (yab (yao (qe2 (qc2 (qfm (pv 5))))
    (yac (yah (qao qad)))
    yal) (yab (qsE 6 sc.nd (qao (qfi (qao qad) qad))) c2.2)))⟩ ?_
  intro c3
  refine ⟨_,qaf rfl (yab (qap (qaa (qcw qbf yi9 hr (qab (pv 0) yae)))) (yab (qap (qaa (qcw ya8 yi9 hr (qab (pv 0) (qab (pv 2) yae))))) c3.2)),?_⟩
  refine ⟨_,rfl,vt,dt,rfl,ak.t,λhb H1 s1=>?_,λb hb a H' s' xa=>kt (by rw[hb];rfl) a _ H' s' xa⟩
  obtain ⟨rfl,okt⟩:=ak.tg hb
  have ht:At H vt (qci T):=by
   rcases ak.t with h|⟨e,_⟩
   ·exact h
   ·cases e
  obtain ⟨t,_,rfl,_⟩:=id ht.lstEq
  refine ⟨_,rfl,_,rfl,t,vo,T,dor,rfl,ht.same s1,okt,ak.o.same s1,λho H2 s2=>?_,λho a H' s' xa=>ko hb ho a _ H' (s1.trans s') xa⟩
  obtain ⟨O,rfl,hO,oo⟩:=ak.og ho
  have s02:=s1.trans s2
  refine ⟨_,rfl,_,rfl,_,rfl,_,rfl,t,O,R,T,os,cs,rfl,ht.same s02,okt,s02 _ _ hO,oo,s02 _ _ ak.r,ak.b,ak.n,λD us rows H3 s3 nD dg er=>gn ?_⟩
  have hrd:=hrd_of okt dg er ak.b ak.n
  have s03:=s02.trans s3
  refine ⟨_,rfl,_,rfl,iteF ?_⟩
  refine ⟨zero_le _,λe0 ne0=>⟨zl,λAs nAs=>gn ?_⟩⟩
  have s4:=((smR H3).upd (o:=.lst []) ne0).upd (o:=.lst [.ref e0]) nAs
  have f4:upd (upd H3 e0 (.lst [])) As (.lst [.ref e0]) As=some (.lst [.ref e0]):=yaa
  have g4:upd (upd H3 e0 (.lst [])) As (.lst [.ref e0]) e0=some (.lst []):=by rw[qag (qae yaa nAs)];exact yaa
  revert s4 f4 g4
  generalize upd (upd H3 e0 (.lst [])) As (.lst [.ref e0])=H4
  intro s4 f4 g4
  have s04:=s03.trans s4
  have hK4:=s04 _ _ hK
  refine ⟨_,rfl,Kl,rfl,⟨_,sqlO hK4⟩,for0 hK4 ?_⟩
  refine ⟨_,rfl,_,rfl,D,us,rows,rfl,hrd.same s4,λS ps H5 s5 nS eS pl o5=>gn ?_⟩
  have hrd5:=hrd.same (s4.trans s5)
  refine ⟨_,rfl,As,rfl,⟨_,sqlO (s5 _ _ f4)⟩,λRs nRs=>yby (n:=1) (λi H'=>Same H5 H'/\H' Rs=some (.lst (if i=0 then [] else [.ref e0]))) ⟨(smR H5).upd nRs,yaa⟩ ?_ ?_⟩
  ·rintro H6 ⟨s6,e6⟩
   have e6:H6 Rs=some (.lst [.ref e0]):=e6
   refine ⟨⟨_,sqlO (s6 _ _ (s5 _ _ f4)),le_refl _⟩,Rs,.ref e0,rfl,e6,λp np=>?_⟩
   have s7:=(smR H6).upd (o:=.lst [.ref e0]) np
   exact k hb ho p e0 _ (((s04.trans s5).trans s6).trans s7) yaa (s7 _ _ (s6 _ _ (s5 _ _ g4)))
  ·rintro i H6 hi ⟨s6,e6⟩
   obtain rfl:i=0:=by omega
   have f6:=s6 _ _ (s5 _ _ f4)
   refine ⟨⟨_,_,sqlO f6,rfl⟩,?_⟩
   rintro y H7 ⟨rfl,hy⟩
   have hy:=hy _ (sqlO f6)
   cases hy
   refine ⟨qa4.set (qa4.refl _) rfl,?_⟩
   refine ⟨_,rfl,_,rfl,_,rfl,D,S,e0,us,rows,ps,rfl,hrd5.same s6,s6 _ _ eS,pl,o5.same s6,s6 _ _ (s5 _ _ g4),λH8 s8=>⟨_,rfl,iteT ?_⟩⟩
   exact ⟨_,rfl,_,s8 _ _ e6,ybe (by simp),(s6.trans s8).at nRs,yaa⟩
def yml(c0 c2 c6:Addr):Sp:=λvs H Q E=>∃(vt vo vh:V) (R:Addr) (dt dor dh:PyData) (T:List Elm) (os:List Str) (cs:List Int),vs=[vt,.int 2,vo,.ref R,vh]/\Ask3 H vt vo R dt dor T os cs/\AtX H vh dh/\(yar dh=none->∃L,vh=.ref L/\H L=some (.lst []))/\
 (ya0 dt=none->yar dh=none->ordB T dor=true->∀D xs H',Same H H'->H' D=some (.lst xs)->Q (.ref D) H')/\
 ((ya0 dt).isSome=true->∀a fs H',Same H H'->XAt H' a c0 fs->E (.ref a) none H')/\(ya0 dt=none->(yar dh).isSome=true->∀a fs H',Same H H'->XAt H' a c2 fs->E (.ref a) none H')/\(ya0 dt=none->yar dh=none->ordB T dor=false->∀a fs H',Same H H'->XAt H' a c6 fs->E (.ref a) none H')
abbrev qcf:Stmt:=top 82
theorem ydb:FnScope ["test","size","orders","reads","harms","heard","cells","sound","own"] ["test","size","orders","reads","harms"] (qac qcf):=fsc
theorem og_cfor(B:Bl mg)(qbf:HasX P w K mg base 5 "look_at_test" ["thing"] (yhd c0))(yb5:HasX P w K mg base 6 "look_at_harms" ["thing"] (qgx c2))(ya8:HasX P w K mg base 4 "look_at_orders" ["test","thing"] (qdj c6))(qcu:Has P w K mg base 2 "deeds_heard" ["test","size","orders","reads"] qfu)(qbc:Has P w K mg base 7 "cells_of" ["harms"] qcn)(yb1:Has P w K mg base 11 "sound_contents" ["heard","size"] qfe)(qmk:Has P w K mg base 11 "fits" ["heard","sound","harms"] yg4)(qbn:Has P w K mg base 10 "contents_at" ["heard","cells","harms"] yg1)(F:FnAt K mg "contents_for" qcf ["test","size","orders","reads","harms"]):HasX P w K mg base 12 "contents_for" ["test","size","orders","reads","harms"] (yml c0 c2 c6):=by
 refine HasX.of F ydb (λvs H Q E h=>?_) (λ_ _ _ _ _ H vs Q E hr h=>?_)
 ·obtain ⟨vt,vo,vh,R,dt,dor,dh,T,os,cs,rfl,_⟩:=h
  rfl
 ·obtain ⟨vt,vo,vh,R,dt,dor,dh,T,os,cs,rfl,ak,hh,hhg,k,kt,kh,ko⟩:=h
  have sc:=ydb
  refine cutA [9] ⟨_,qaf rfl (yac (yah (qaa (ybr rfl (yax rfl) (M:=["cell","cells","own","sound"]) (ix:=[none,some 6,some 8,some 7]) (qby rfl (B.of rfl) (qab (pv 1) yae)) (λ_ _ _ _=>(qaz (i:=0) (show List.Nodup (["cell","cells","own","sound"]:List Str) by decide +kernel) rfl (Or.inl rfl))) (λ_ _ _ _=>ych) (λ_ _ _ _=>(yjj (qb1 (ygb (K:=K) rfl) (pv 0) (pv 1) (by with_unfolding_all rfl)) (qbe (qie (K:=K) rfl) (pv 2) (pe_bmK (K:=K) rfl PySem.F.plainAttrs_list PySem.F.slot_list_index PySem.F.type_list_index yhn (pv 1) (qab (pv 0) yae))) (qbe (qie (K:=K) rfl) (qbe (ix_listK (K:=K) rfl) (pv 3) (pv 0)) yad)))))))⟩ ?_
  intro c1
  refine cutA [7] ⟨_,qaf rfl (yab (yao (ydd (qbq (qah qmk hr (yaf (qaa (pv 5)) (yaf (qaa (pv 7)) (yaf (qaa (pv 4)) qad))))))
    (yac (yah (qaa qa6)))
    yal) (yab (yc7 (i:=8) sc.nd rfl (Or.inr rfl) (qah qbn hr (yaf (qaa (pv 5)) (yaf (qaa (pv 6)) (yaf (qaa (pv 4)) qad))))) c1.2))⟩ ?_
  intro c2
  refine cutA [5] ⟨_,qaf rfl (yab (yao (QW.pt (qi5 (qe2 (qc2 (qfm (pv 5)))) (qgn (qaj qhp (qas qai rfl (B.of rfl) boot_len (qa_lc (qaa (ybr rfl (yax rfl) (M:=["cell","size"]) (ix:=[none,some 1]) (yck (pv 6)) (λ_ _ _ _=>(qaz (i:=0) (show List.Nodup (["cell","size"]:List Str) by decide +kernel) rfl (Or.inl rfl))) (λ_ _ _ _=>(qen (qb1 qkb (pv 0) (pv 1) (yai _)))) (λ_ _ _ _=>(pv 0)))) qad)) (qaa yad) (yai _)))))
    (yac (yah (qaa qa6)))
    yal) (yab (yc7 (i:=7) sc.nd rfl (Or.inr rfl) (qah yb1 hr (yaf (qaa (pv 5)) (yaf (qaa (pv 1)) qad)))) c2.2))⟩ ?_
  intro c3
  refine cutA [3] ⟨_,qaf rfl (yab (qsE 5 sc.nd (qah qcu hr (yaf (qaa (pv 0)) (yaf (qaa (pv 1)) (yaf (qaa (pv 2)) (yaf (qaa (pv 3)) qad)))))) (yab (yc7 (i:=6) sc.nd rfl (Or.inr rfl) (qah qbc hr (yaf (qaa (pv 4)) qad))) c3.2))⟩ ?_
  intro c4
  refine ⟨_,qaf rfl (yab (qap (qaa (qcw qbf yi9 hr (qab (pv 0) yae)))) (yab (qap (qaa (qcw yb5 yi9 hr (qab (pv 4) yae)))) (yab (qap (qaa (qcw ya8 yi9 hr (qab (pv 0) (qab (pv 2) yae))))) c4.2))),?_⟩
  refine ⟨_,rfl,vt,dt,rfl,ak.t,λhb H1 s1=>?_,λb hb a H' s' xa=>kt (by rw[hb];rfl) a _ H' s' xa⟩
  obtain ⟨rfl,okt⟩:=ak.tg hb
  have ht:At H vt (qci T):=by
   rcases ak.t with h|⟨e,_⟩
   ·exact h
   ·cases e
  obtain ⟨t,_,rfl,_⟩:=id ht.lstEq
  refine ⟨_,rfl,vh,dh,rfl,hh.same s1,λhhb H1' s1'=>?_,λb hhb a H' s' xa=>kh hb (by rw[hhb];rfl) a _ H' (s1.trans s') xa⟩
  obtain ⟨L,rfl,hL⟩:=hhg hhb
  have s01:=s1.trans s1'
  refine ⟨_,rfl,_,rfl,t,vo,T,dor,rfl,ht.same s01,okt,ak.o.same s01,λho H2 s2=>?_,λho a H' s' xa=>ko hb hhb ho a _ H' (s01.trans s') xa⟩
  obtain ⟨O,rfl,hO,oo⟩:=ak.og ho
  have s02:=s01.trans s2
  refine ⟨_,rfl,_,rfl,_,rfl,_,rfl,t,O,R,T,os,cs,rfl,ht.same s02,okt,s02 _ _ hO,oo,s02 _ _ ak.r,ak.b,ak.n,λD us rows H3 s3 nD dg er=>gn ?_⟩
  have hrd:=hrd_of okt dg er ak.b ak.n
  have s03:=s02.trans s3
  refine ⟨_,rfl,L,rfl,s03 _ _ hL,λCL H4 s4 nCL eCL=>gn ?_⟩
  have s04:=s03.trans s4
  refine ⟨_,rfl,_,rfl,iteF ?_⟩
  refine ⟨_,rfl,CL,rfl,⟨_,sqlO eCL⟩,λZ nZ=>yby (n:=0) (λi H'=>Same H4 H'/\H' Z=some (.lst [])) ⟨(smR H4).upd nZ,yaa⟩ ?_ (λi H5 hi=>absurd hi (not_lt_zero i))⟩
  rintro H5 ⟨s5,e5⟩
  refine ⟨⟨_,sqlO (s5 _ _ eCL),le_refl _⟩,Z,_,rfl,.inl (sqlO e5),_,_,rfl,rfl,_,rfl,qf2 (by simp) ?_⟩
  have s45:=s4.trans s5
  refine ⟨_,rfl,_,rfl,D,us,rows,rfl,hrd.same s45,λS ps H6 s6 nS eS pl o6=>gn ?_⟩
  have s46:=s45.trans s6
  have s06:=s03.trans s46
  refine ⟨_,rfl,_,rfl,_,rfl,D,S,L,us,rows,ps,rfl,hrd.same s46,eS,pl,o6,s06 _ _ hL,λH7 s7=>⟨_,rfl,iteF ?_⟩⟩
  have s47:=s46.trans s7
  have s07:=s06.trans s7
  have eCL7:=(s5.trans (s6.trans s7)) _ _ eCL
  refine ⟨_,rfl,_,rfl,_,rfl,D,CL,L,us,rows,[],rfl,(hrd.same s47).d,eCL7,by decide,s07 _ _ hL,hrd.n,⟨[],by decide,by rw[yju];intro z;cases z⟩,λp b H8 s8 e8 hb8=>gn ?_⟩
  have eS8:=(s7.trans s8) _ _ eS
  have o8:=o6.same (s7.trans s8)
  refine ⟨_,rfl,2,rfl,by omega,by omega,λZ2 nZ2=>yby (n:=2) (λi H'=>Same H8 H'/\∃xs,H' Z2=some (.lst xs)/\xs.length=i) ⟨(smR H8).upd nZ2,[],yaa,rfl⟩ ?_ ?_⟩
  ·rintro H9 ⟨s9,xs,e9,_⟩
   exact ⟨by show _<=_;simp,k hb hhb ho Z2 xs H9 ((s07.trans s8).trans s9) e9⟩
  ·rintro i H9 hi ⟨s9,xs,e9,l9⟩
   refine ⟨by show i<_;simpa using hi,?_⟩
   rintro x HA ⟨rfl,rfl⟩
   refine ⟨qa4.set (qa4.refl _) rfl,yes ?_⟩
   rw[zero_add]
   have hip:(ps.map V.ref)[i]?=some (.ref (ps[i]'(by omega))):=by rw[getElem?_map,getElem?_eq_getElem (by omega)];rfl
   obtain ⟨v,hv⟩:=o8 _ (getElem_mem (show i<ps.length by omega))
   refine ⟨_,rfl,_,rfl,CL,[],rfl,.inl (sqlO (s9 _ _ (s8 _ _ eCL7))),rfl,rfl,_,rfl,iteF ?_⟩
   exact ⟨_,rfl,_,rfl,S,_,_,_,rfl,rfl,sqlO (s9 _ _ eS8),qbj hip,_,_,_,_,rfl,rfl,sqtO (s9 _ _ hv),yaq 0 rfl,_,e9,ybe (by omega),s9.at nZ2,_,yaa,by rw[length_append,l9];rfl⟩
end
def Dig(ds zs:List Int):Prop:=ds.length=zs.length/\∀(i:Nat) d z,ds[i]?=some d->zs[i]?=some z->0<=d/\d<z
theorem Dig.get{ds zs:List Int}(h:Dig ds zs){i:Nat}{z:Int}(hz:zs[i]?=some z):∃d,ds[i]?=some d/\0<=d/\d<z:=by
 have hi:i<ds.length:=by rw[h.1];exact (List.getElem?_eq_some_iff.mp hz).1
 exact ⟨ds[i],by simp[hi],h.2 i _ z (by simp[hi]) hz⟩
theorem yif{ds:List Int}{i:Nat}{v:V}(h:(ds.map V.int)[i]?=some v):∃d,ds[i]?=some d/\v=.int d:=qbd h
theorem qep{ds:List Int}{i:Nat}{d:Int}(h:ds[i]?=some d):(ds.map V.int)[i]?=some (.int d):=by rw[getElem?_map,h];rfl
section
variable {P:Program}{w:World}{K:W.Frag}{mg:Str->Option Value}{base:Heap}
def yhl:Sp:=λvs H Q _=>∃c t a zs,vs=[.int c,.int t,.ref a]/\H a=some (.lst (zs.map V.int))/\zs.length<=130/\(∀z∈zs,0<z/\z<=18446744073709551616)/\0<=t/\t<=1000000/\
 ∀p ds H',Same H H'->H p=none->H' p=some (.lst (ds.map V.int))->Dig ds zs->Q (.ref p) H'
abbrev ycy:Stmt:=top 84
theorem ydn:FnScope ["_law_cell","_law_turn","_law_sizes","_law_number","_law_wide","_law_seed","_law_found","_law_k","_law_size"] ["_law_cell","_law_turn","_law_sizes"] (qac ycy):=fsc
theorem ymw(B:Bl mg)(F:FnAt K mg "_law_digits" ycy ["_law_cell","_law_turn","_law_sizes"]):Has P w K mg base 1 "_law_digits" ["_law_cell","_law_turn","_law_sizes"] yhl:=by
 refine Has.of F ydn (λvs H Q E h=>?_) (λ_ _ _ _ _ H vs Q E hr h=>?_)
 ·obtain ⟨c,t,a,zs,rfl,_⟩:=h
  rfl
 ·obtain ⟨c,t,a,zs,rfl,ha,hl,hz,ht0,ht1,k⟩:=h
  have sc:=ydn
  refine ⟨_,(ya5 (pst 3 sc.nd (qan call_abs rfl (B.of rfl) boot_abs (qab (pv 0) yae)))
   (ya5 (pst 4 sc.nd (ya4 qkb (pv 3) (ybb op_pow yad yad) (yai _)))
   (ya5 (pst 5 sc.nd (ybb yc4 (ybb qb2 (pv 3) yad) (ybb qgb yad (pv 1))))
   (ya5 (pst 6 sc.nd (qc3 yae))
   (ya5 (ps_for PassesOwn.never rfl (qct rfl (B.of rfl) (qab (pv 2) yae)) (qcs rfl (yaj (pgn 7 sc.nd) (yaj (pgn 8 sc.nd) ya9)))
    (qax (yie (PW.pt (ql8 (yeu (pv 4)) (qi4 (qb1 qhp (pv 3) yad (yai _)))))
     (ya5 (yik (qdd PySem.F.plainAttrs_list PySem.F.slot_list_append PySem.F.type_list_append ya7 (pv 6) (qab (ybb qb2 (pv 3) (pv 8)) yae)))
     (qax (pst 3 sc.nd (ybb op_fdivB (pv 3) (pv 8)))))
     (ya5 (pst 5 sc.nd (ybb qb2 (ybb op_pow (ybb yc4 (pv 5) (ybb qgb yad (ybb yc4 (pv 7) yad))) yad) yad))
     (qax (yik (qdd PySem.F.plainAttrs_list PySem.F.slot_list_append PySem.F.type_list_append ya7 (pv 6) (qab (ybb qb2 (ybb yis (pv 5) yad) (pv 8)) yae))))))))
   (qax (yb6 (pv 6)))))))),?_⟩
  refine ⟨_,rfl,c,rfl,?_⟩
  refine ⟨_,rfl,10,18,rfl,rfl,⟨by decide,by decide,by decide⟩,_,_,rfl,rfl,?_⟩
  refine ⟨_,rfl,_,_,rfl,rfl,(by show (0:Int)<2147483647;decide),_,rfl,_,_,rfl,rfl,.inl ⟨by decide,by decide⟩,_,_,rfl,rfl,?_⟩
  refine ⟨zero_le _,λp hp=>?_⟩
  generalize hnum:(if c<0 then -c else c)=num
  generalize hwd:decide ((10:Int) ^ (18:Int).toNat<=num)=wd
  have hs0:0<=num % 2147483647+7919*t:=by have:=emod_nonneg num (show (2147483647:Int)≠0 by decide);omega
  have hs1:num % 2147483647+7919*t<2 ^ 40:=by have:=emod_lt_of_pos num (show (0:Int)<2147483647 by decide);omega
  refine ⟨_,rfl,a,_,rfl,sqlO (by rw[qag (qae ha hp)];exact ha),ycd (xs:=zs.map V.int) (λi σ H2=>∃(nu seed:Int) (ds:List Int) (q1 q2:Option V),σ=[some (.int c),some (.int t),some (.ref a),some (.int nu),some (.bl wd),some (.int seed),some (.ref p),q1,q2]/\
   Same H H2/\H2 p=some (.lst (ds.map V.int))/\ds.length=i/\(∀(j:Nat) d z,ds[j]?=some d->zs[j]?=some z->0<=d/\d<z)/\0<=seed/\seed<2 ^ 40) ?_ (λi σ H2 _ ⟨_,_,_,_,_,_,s2,_⟩=>sqlO (s2 _ _ ha)) ?_ ?_⟩
  ·exact ⟨num,_,[],none,none,by rw[<-hwd];rfl,(smR H).upd hp,yaa,rfl,λj d z h=>by simp at h,hs0,hs1⟩
  ·rintro i x pp σ H2 hx ⟨nu,seed,ds,q1,q2,rfl,s2,hp2,hln,hds,hse0,hse1⟩ hpp
   obtain ⟨z,hzi,rfl⟩:=yif hx
   obtain ⟨hz0,hz1⟩:=hz z (mem_of_getElem? hzi)
   have hil:i<zs.length:=(List.getElem?_eq_some_iff.mp hzi).1
   have s3:Same H (upd H2 pp (.tup [.int i,.int z])):=s2.upd hpp
   have hp3:upd H2 pp (.tup [.int i,.int z]) p=some (.lst (ds.map V.int)):=by rw[qag (qae hp2 hpp)];exact hp2
   have fin:∀(d:Int),0<=d->d<z->∀(j:Nat) d' z',(ds++[d])[j]?=some d'->zs[j]?=some z'->0<=d'/\d' < z':=λd h0 h1 j d' z' hj hj2=>by
    by_cases hlt:j<ds.length
    ·rw[getElem?_append_left hlt]at hj
     exact hds j d' z' hj hj2
    ·rw[getElem?_append_right (by omega)]at hj
     have hj0:j-ds.length=0:=by
      cases q:j-ds.length with
      |zero=>rfl
      |succ n=>rw[q]at hj;simp at hj
     rw[hj0]at hj
     have e1:d=d':=by simpa using hj
     have e2:j=i:=by omega
     subst e1 e2
     rw[hzi]at hj2;cases hj2
     exact ⟨h0,h1⟩
   refine ⟨pp,_,rfl,sqtO yaa,rfl,_,_,rfl,_,_,rfl,rfl,?_⟩
   refine ⟨_,rfl,wd,rfl,?_⟩
   cases wd with
   |true=>
    refine iteT ⟨_,rfl,_,_,rfl,rfl,_,rfl,?_⟩
    by_cases hn:0<nu
    ·refine iteD hn ?_
     refine ⟨_,rfl,.inl ⟨rfl,_,sqlO hp3⟩,_,rfl,_,rfl,_,_,rfl,rfl,hz0,p,_,_,rfl,rfl,hp3,ybe (by rw[length_map];omega),?_⟩
     refine ⟨_,rfl,_,rfl,_,_,rfl,rfl,⟨hz0,hz1⟩,?_⟩
     exact ⟨_,seed,ds++[nu % z],_,_,rfl,s3.at hp,by rw[map_append];exact yaa,by simp[hln],fin _ (emod_nonneg _ (by omega)) (emod_lt_of_pos _ hz0),hse0,hse1⟩
    ·refine iteN (decide_eq_false hn) ?_
     refine ⟨_,rfl,_,rfl,_,_,rfl,rfl,_,_,rfl,rfl,.inl ⟨by decide,by decide⟩,_,_,rfl,rfl,_,_,rfl,rfl,⟨by decide,by decide,by omega⟩,_,_,rfl,rfl,(by show (0:Int)<2147483587;decide),?_⟩
     have g0:=emod_nonneg ((seed+104729*((i:Int)+1)) ^ (2:Int).toNat) (show (2147483587:Int)≠0 by decide)
     have g1:=emod_lt_of_pos ((seed+104729*((i:Int)+1)) ^ (2:Int).toNat) (show (0:Int)<2147483587 by decide)
     generalize hse':(seed+104729*((i:Int)+1)) ^ (2:Int).toNat % 2147483587=seed' at g0 g1
     refine ⟨_,rfl,.inl ⟨rfl,_,sqlO hp3⟩,_,rfl,_,_,rfl,rfl,⟨by decide,by decide⟩,_,rfl,_,_,rfl,rfl,hz0,p,_,_,rfl,rfl,hp3,ybe (by rw[length_map];omega),?_⟩
     exact ⟨nu,seed',ds++[seed' / 16 % z],_,_,by rw[<-hse'];rfl,s3.at hp,by rw[map_append,<-hse'];exact yaa,by simp[hln],fin _ (emod_nonneg _ (by omega)) (emod_lt_of_pos _ hz0),g0,by omega⟩
   |false=>
    refine iteF (iteF ?_)
    refine ⟨_,rfl,_,rfl,_,_,rfl,rfl,_,_,rfl,rfl,.inl ⟨by decide,by decide⟩,_,_,rfl,rfl,_,_,rfl,rfl,⟨by decide,by decide,by omega⟩,_,_,rfl,rfl,(by show (0:Int)<2147483587;decide),?_⟩
    have g0:=emod_nonneg ((seed+104729*((i:Int)+1)) ^ (2:Int).toNat) (show (2147483587:Int)≠0 by decide)
    have g1:=emod_lt_of_pos ((seed+104729*((i:Int)+1)) ^ (2:Int).toNat) (show (0:Int)<2147483587 by decide)
    generalize hse':(seed+104729*((i:Int)+1)) ^ (2:Int).toNat % 2147483587=seed' at g0 g1
    refine ⟨_,rfl,.inl ⟨rfl,_,sqlO hp3⟩,_,rfl,_,_,rfl,rfl,⟨by decide,by decide⟩,_,rfl,_,_,rfl,rfl,hz0,p,_,_,rfl,rfl,hp3,ybe (by rw[length_map];omega),?_⟩
    exact ⟨nu,seed',ds++[seed' / 16 % z],_,_,by rw[<-hse'];rfl,s3.at hp,by rw[map_append,<-hse'];exact yaa,by simp[hln],fin _ (emod_nonneg _ (by omega)) (emod_lt_of_pos _ hz0),g0,by omega⟩
  ·rintro σ H2 ⟨nu,seed,ds,q1,q2,rfl,s2,hp2,hln,hds,_,_⟩
   rw[length_map]at hln
   exact ⟨_,rfl,k p ds H2 s2 hp hp2 ⟨hln,hds⟩⟩
def kv:Option Bool->V
 |none=>.non
 |some b=>.int (b2i b)
theorem yg7(n:Int):n % 2=b2i (decide (n % 2=1)):=by
 by_cases h:n % 2=1
 ·simp[b2i,h]
 ·have h0:=emod_nonneg n (show (2:Int)≠0 by decide)
  have h1:=emod_lt_of_pos n (show (0:Int)<2 by decide)
  simp only[b2i,h,decide_false]
  show n % 2=0
  omega
theorem order_of{d:Int}(h0:0<=d)(h1:d<3):∃o,okO o/\atI [V.str "up",.str "down",.str "any"] d=some (.str o):=by
 have h:d=0\/d=1\/d=2:=by omega
 rcases h with rfl|rfl|rfl
 ·exact ⟨_,.inl rfl,rfl⟩
 ·exact ⟨_,.inr (.inl rfl),rfl⟩
 ·exact ⟨_,.inr (.inr rfl),rfl⟩
structure D7(ds:List Int)(m:Nat):Prop where
 m1:1<=m
 m4:m<=4
 len:7*m+1<=ds.length
 pos:∀d∈ds,0<=d
 ord:∀k,k<m->∃d,ds[7*k+1]?=some d/\d<18
theorem D7.get{ds:List Int}{m:Nat}(h:D7 ds m){i:Nat}(hi:i<7*m+1):∃d,ds[i]?=some d/\0<=d:=by
 have hl:i<ds.length:=lt_of_lt_of_le hi h.len
 exact ⟨ds[i],getElem?_eq_getElem hl,h.pos _ (getElem_mem hl)⟩
theorem D7.cut{ds:List Int}{m:Nat}(h:D7 ds m){k:Nat}(hk:k<m){r:Int}(r0:0<=r)(r3:r<3):∃ps:List Int,cutV (ds.map V.int) (some (7*(k:Int)+2)) (some (7*(k:Int)+3+r))=ps.map V.int/\1<=ps.length/\ps.length<=3/\∀p∈ps,0<=p:=by
 have hl:=h.len
 refine ⟨(ds.drop (7*k+2)).take (1+r.toNat),?_,?_,?_,λp hp=>h.pos p (List.mem_of_mem_drop (List.mem_of_mem_take hp))⟩
 ·unfold cutV
  have e1:HT.sIx (ds.map V.int).length 0 (some (7*(k:Int)+2))=7*k+2:=by
   rw[length_map]
   unfold HT.sIx
   dsimp only
   rw[if_neg (by omega)]
   omega
  have e2:HT.sIx (ds.map V.int).length (ds.map V.int).length (some (7*(k:Int)+3+r))=7*k+3+r.toNat:=by
   rw[length_map]
   unfold HT.sIx
   dsimp only
   rw[if_neg (by omega)]
   omega
  rw[e1,e2,show 7*k+3+r.toNat-(7*k+2)=1+r.toNat by omega,<-map_drop,<-List.map_take]
 ·rw[length_take,length_drop];omega
 ·rw[length_take,length_drop];omega
def ok3(T:List Elm):Prop:=∀e∈T,e.2.length<=3
def qjh:Sp:=λvs H Q _=>∃(a:Addr) (ds:List Int) (m:Nat),vs=[.ref a,.int m]/\H a=some (.lst (ds.map V.int))/\D7 ds m/\
 ∀p T H',Same H H'->H p=none->At H' (.ref p) (qci T)->okT T->ok3 T->T.length<=m->Q (.ref p) H'
abbrev qdy:Stmt:=top 85
theorem qe0:FnScope ["_law_d","_law_most","_law_known","_law_test_here","_law_k","_law_steps","_law_step"] ["_law_d","_law_most"] (qac qdy):=fsc
theorem ok_test7(B:Bl mg)(F:FnAt K mg "_law_test" qdy ["_law_d","_law_most"]):Has P w K mg base 1 "_law_test" ["_law_d","_law_most"] qjh:=by
 refine Has.ofQ F qe0 (λvs H Q E h=>?_) (λ_ _ _ _ _ H vs Q E hr h=>?_)
 ·obtain ⟨a,ds,m,rfl,_⟩:=h
  rfl
 ·obtain ⟨a,ds,m,rfl,ha,d7,k⟩:=h
  have sc:=qe0
  refine ⟨_,(qaf rfl (yab (qsE 2 sc.nd (qaa qa6))
   (yab (qsE 3 sc.nd (qao qad))
   (yab (ya1 PassesOwn.never rfl (yea (qby rfl (B.of rfl) (qab (ybb yc4 yad (ybb qb2 (qbe qal (pv 0) yad) (pv 1))) yae))) (pgn 4 sc.nd)
    (yab (qsE 5 sc.nd (qao qad))
    (yab (ya1 PassesOwn.never rfl (qbi (qaa (qdk yci (pv 0) (qbh (ybb yc4 (ybb qgb yad (pv 4)) yad)) (qbh (ybb yc4 (ybb yc4 (ybb qgb yad (pv 4)) yad) (ybb qb2 (qbe qal (pv 0) (ybb yc4 (ybb qgb yad (pv 4)) yad)) yad)))))) (pgn 6 sc.nd)
     (yac (yao (QW.pt (qco (qe2 (qc2 (qhf (pv 2)))) (qcj (qaj ya6 (ybd qb2 (qaa (pv 6)) (qaa yad)) (qaa yad) (yai _)))))
      (yac (qap (qaa (qdd PySem.F.plainAttrs_list PySem.F.slot_list_append PySem.F.type_list_append ya7 (pv 5) (qab (ybu (qab qak (qab (pv 2) yae))) yae)))))
      (yab (qsE 2 sc.nd (ybd qb2 (ybd yis (qaa (pv 6)) (qaa yad)) (qaa yad)))
      (yac (qap (qaa (qdd PySem.F.plainAttrs_list PySem.F.slot_list_append PySem.F.type_list_append ya7 (pv 5) (qab (ybu (qab qak (qab (pv 2) yae))) yae)))))))))
    (yac (qap (qaa (qdd PySem.F.plainAttrs_list PySem.F.slot_list_append PySem.F.type_list_append ya7 (pv 3) (qab (ybu (qab (qbe qal (qc3 (qab qak (qab qak (qab qak yae)))) (ybb yis (qbe qal (pv 0) (ybb yc4 (ybb qgb yad (pv 4)) yad)) yad)) (qab (pv 5) yae))) yae))))))))
   (yac (yah (qaa (pv 3)))))))),?_⟩
  have m1:=d7.m1
  have m4:=d7.m4
  obtain ⟨d0,g0,p0⟩:=d7.get (i:=0) (by omega)
  refine ⟨zero_le _,λp hp=>?_⟩
  have ha1:upd H p (.lst []) a=some (.lst (ds.map V.int)):=by rw[qag (qae ha hp)];exact ha
  have hn:∃n:Nat,(1:Int)+d0 % (m:Int)=(n:Int)/\n<=m/\1<=n:=⟨1+(d0 % (m:Int)).toNat,by have:=emod_nonneg d0 (b:=(m:Int)) (by omega);omega,by have:=emod_lt_of_pos d0 (b:=(m:Int)) (by omega);omega,by omega⟩
  obtain ⟨n,en,nm,n1⟩:=hn
  refine ⟨_,rfl,a,_,_,_,rfl,rfl,sqlO ha1,yaq 0 (qep g0),_,rfl,_,_,rfl,rfl,(by show (0:Int)<(m:Int);omega),_,_,rfl,rfl,n,(by show [V.int (1+d0 % (m:Int))]=_;rw[en]),by omega,by omega,?_⟩
  refine ycl (n:=n) (λi σ H2=>∃(kn:Option Bool) (T:List Elm) (q4 q5 q6:Option V),σ=[some (.ref a),some (.int m),some (kv kn),some (.ref p),q4,q5,q6]/\Same H H2/\Bld [] H2 p (T.map yeh)/\(∀e∈T,okE e/\e.2.length<=3)/\T.length=i)
   ⟨none,[],none,none,none,rfl,(smR H).upd hp,Bld.new,(by intro e he;cases he),rfl⟩ ?_ ?_
  ·rintro i σ H2 hi ⟨kn,T,q4,q5,q6,rfl,s2,bT,okT',hTl⟩
   rw[zero_add]
   obtain ⟨d1,g1,l18⟩:=d7.ord i (by omega)
   have p1:0<=d1:=d7.pos d1 (mem_of_getElem? g1)
   refine ⟨zero_le _,λl hl=>?_⟩
   have ha2:H2 a=some (.lst (ds.map V.int)):=s2 _ _ ha
   have ha3:upd H2 l (.lst []) a=some (.lst (ds.map V.int)):=by rw[qag (qae ha2 hl)];exact ha2
   obtain ⟨ps,eps,pl0,pl1,hps⟩:=d7.cut (k:=i) (by omega) (r:=d1 % 3) (by omega) (by omega)
   refine ⟨_,rfl,_,rfl,_,_,rfl,rfl,.inl (by omega),_,_,rfl,rfl,_,rfl,_,rfl,_,_,rfl,rfl,.inl (by omega),_,_,rfl,rfl,_,rfl,_,rfl,_,_,rfl,rfl,.inl (by omega),_,_,rfl,rfl,a,_,_,_,rfl,rfl,sqlO ha3,yaq (7*i+1) (qep g1) (by omega),_,_,rfl,rfl,(by show (0:Int)<3;decide),_,_,rfl,rfl,_,rfl,a,_,rfl,sqlO ha3,λsp hsp=>?_⟩
   generalize hE:upd (upd H2 l (.lst [])) sp _=HE
   have sE:Same H2 HE:=by rw[<-hE];exact ((smR H2).upd hl).upd hsp
   have hEsp:HE sp=some (.lst (ps.map V.int)):=by rw[<-hE];exact yaa.trans (congrArg (λz=>some (HO.lst z)) eps)
   have hEl:HE l=some (.lst []):=by rw[<-hE,qag (qae yaa hsp)];exact yaa
   have nlp:l≠p:=(qae bT.choose_spec.1 hl).symm
   have nlsp:l≠sp:=qae (o:=.lst []) yaa hsp
   have nsp:H2 sp=none:=by
    have:=hsp;rw[qag nlsp.symm]at this;exact this
   refine ⟨sp,rfl,⟨_,sqlO hEsp⟩,qb3 (xs:=ps.map V.int) (λj σ H3=>∃(kn:Option Bool) (ss:List Stp) (q6:Option V),σ=[some (.ref a),some (.int m),some (kv kn),some (.ref p),some (.int i),some (.ref l),q6]/\
    Same H2 H3/\H3 sp=some (.lst (ps.map V.int))/\Bld [p] H3 l (ss.map qb4)/\ss.length=j) ⟨kn,[],q6,rfl,sE,hEsp,⟨[],hEl,.nil⟩,rfl⟩ (λj σ H3 _ ⟨_,_,_,_,_,h,_⟩=>sqlO h) ?_ ?_⟩
   ·rintro j x σ H3 hx ⟨kn,ss,q6,rfl,s3,hsp3,bS,hsl⟩
    obtain ⟨pk,hpk,rfl⟩:=yif hx
    have hjl:j<ps.length:=(List.getElem?_eq_some_iff.mp hpk).1
    have put:∀{q:Addr} (sw sb:Bool) (kn':Option Bool) {o:HO}{vk:V},H3 q=none->vk=kv kn'->o=.tup [.str (qe1 sw),.int (b2i sb)]->∃ys,upd H3 q o l=some (.lst ys)/\ys.length<sizeLine/\∃(kn2:Option Bool) (ss2:List Stp) (q6:Option V),[some (V.ref a),some (.int m),some vk,some (.ref p),some (.int i),some (.ref l),some (.int pk)]=[some (.ref a),some (.int m),some (kv kn2),some (.ref p),some (.int i),some (.ref l),q6]/\
     Same H2 (upd (upd H3 q o) l (.lst (ys++[.ref q])))/\upd (upd H3 q o) l (.lst (ys++[.ref q])) sp=some (.lst (ps.map V.int))/\Bld [p] (upd (upd H3 q o) l (.lst (ys++[.ref q]))) l (ss2.map qb4)/\ss2.length=j+1:=λ{q} sw sb kn' {o vk} hq hvk ho=>by
     subst hvk
     have s4:Same H3 (upd H3 q o):=(smR H3).upd hq
     have hq':upd H3 q o q=some (.tup [.str (qe1 sw),.int (b2i sb)]):=by rw[yaa,ho]
     revert s4 hq'
     generalize upd H3 q o=H4
     intro s4 hq'
     have bS4:=bS.grow s4
     obtain ⟨us,hus,_⟩:=id bS4
     have hul:=bS4.len hus
     rw[length_map]at hul
     have nql:q≠l:=ne_of hq' hus (by intro z;cases z)
     have nqp:q≠p:=ne_of hq' ((bT.grow (s3.trans s4)).choose_spec.1) (by intro z;cases z)
     refine ⟨us,hus,ybe (by omega),kn',ss++[(sw,sb)],_,rfl,(s3.trans s4).at hl,?_,?_,by simp[hsl]⟩
     ·rw[qag nlsp.symm]
      exact s4 _ _ hsp3
     ·rw[map_append]
      exact bS4.push hus (.tup (by rw[yb4 (by simp[nql,nqp])];exact hq') (.cons (.str _) (.cons (.int _) .nil)))
    obtain ⟨us0,hus0,_⟩:=id bS
    have z2:(2:Nat)<=sizeLine:=by decide
    have e2:V.int (pk / 2 % 2)=kv (some (decide (pk / 2 % 2=1))):=congrArg V.int (yg7 _)
    refine ⟨_,rfl,_,rfl,?_⟩
    cases kn with
    |none=>
     refine iteN (by simp[kv]) (iteF ?_)
     refine ⟨_,rfl,_,_,rfl,rfl,⟨by decide,by decide⟩,_,_,rfl,rfl,(by show (0:Int)<2;decide),?_⟩
     refine ⟨_,rfl,.inl ⟨rfl,_,sqlO hus0⟩,_,rfl,z2,λq hq=>?_⟩
     obtain ⟨ys,h1,h2,h3⟩:=put true (decide (pk / 2 % 2=1)) _ hq e2 (by rw[<-yg7])
     exact ⟨l,ys,.ref q,rfl,rfl,h1,h2,h3⟩
    |some kb=>
     refine iteB (by simp[kv]) ⟨_,rfl,_,_,rfl,rfl,(by show (0:Int)<2;decide),rfl,_,rfl,?_⟩
     by_cases h0:pk % 2=0
     ·refine iteB (by show decide (V.int (pk % 2)=.int 0)=true;rw[h0];rfl) ?_
      refine ⟨_,rfl,.inl ⟨rfl,_,sqlO hus0⟩,_,rfl,z2,λq hq=>?_⟩
      obtain ⟨ys,h1,h2,h3⟩:=put false kb (some kb) hq rfl rfl
      exact ⟨l,ys,.ref q,rfl,rfl,h1,h2,h3⟩
     ·refine iteN (decide_eq_false (λz=>h0 (V.int.inj z))) ?_
      refine ⟨_,rfl,_,_,rfl,rfl,⟨by decide,by decide⟩,_,_,rfl,rfl,(by show (0:Int)<2;decide),?_⟩
      refine ⟨_,rfl,.inl ⟨rfl,_,sqlO hus0⟩,_,rfl,z2,λq hq=>?_⟩
      obtain ⟨ys,h1,h2,h3⟩:=put true (decide (pk / 2 % 2=1)) _ hq e2 (by rw[<-yg7])
      exact ⟨l,ys,.ref q,rfl,rfl,h1,h2,h3⟩
   ·rintro σ H3 ⟨kn3,ss,q6,rfl,s3,hsp3,bS,hsl⟩
    rw[length_map]at hsl
    have bT3:=bT.grow s3
    obtain ⟨ws,hws,_⟩:=id bT3
    have hwl:=bT3.len hws
    rw[length_map]at hwl
    obtain ⟨o,ho,hat⟩:=order_of (show 0<=d1 / 6 by omega) (show d1 / 6<3 by omega)
    refine ⟨_,rfl,.inl ⟨rfl,_,sqlO hws⟩,zl,λr hr=>?_⟩
    have hd3:upd H3 r (.lst [.str "up",.str "down",.str "any"]) a=some (.lst (ds.map V.int)):=by rw[qag (qae (s3 _ _ ha2) hr)];exact s3 _ _ ha2
    refine ⟨_,rfl,_,rfl,_,_,rfl,rfl,.inl (by omega),_,_,rfl,rfl,a,_,_,_,rfl,rfl,sqlO hd3,yaq (7*i+1) (qep g1) (by omega),_,_,rfl,rfl,⟨by decide,by decide⟩,r,_,_,_,rfl,rfl,sqlO yaa,hat,_,rfl,zl,λe he=>?_⟩
    generalize hF:upd H3 r (.lst [.str "up",.str "down",.str "any"])=HF at he hd3
    have sF:Same H3 HF:=by rw[<-hF];exact (smR H3).upd hr
    have sG:Same H3 (upd HF e (.tup [.str o,.ref l])):=sF.upd he
    have hws2:=sG _ _ hws
    have nep:e≠p:=(qae (sF _ _ hws) he).symm
    refine ⟨p,ws,.ref e,rfl,rfl,hws2,ybe (by omega),?_⟩
    refine ⟨kn3,T++[(o,ss)],_,_,_,rfl,(s2.trans (s3.trans sG)).at hp,?_,?_,by simp[hTl]⟩
    ·rw[map_append]
     refine (bT3.grow sG).push hws2 (.tup (by rw[yb4 (by simp[nep])];exact yaa) (.cons (.str _) (.cons ?_ .nil)))
     exact (bS.at (by simp[nlp])).same (qbs sG _)
    ·intro e2 he2
     rcases mem_append.mp he2 with h|h
     ·exact okT' e2 h
     ·have:e2=(o,ss):=by simpa using h
      subst this
      exact ⟨⟨ho,by show 1<=ss.length;omega,by show ss.length<=6;omega⟩,by show ss.length<=3;omega⟩
  ·rintro σ H2 ⟨kn,T,q4,q5,q6,rfl,s2,bT,okT',hTl⟩
   exact ⟨_,rfl,k p T H2 s2 hp bT.out ⟨by omega,by omega,λe he=>(okT' e he).1⟩ (λe he=>(okT' e he).2) (by omega)⟩
end
theorem up_down(d:Int):∃o:Str,okU o/\atI [V.str "up",.str "down"] (d % 2)=some (.str o):=by
 have h:d % 2=0\/d % 2=1:=by omega
 rcases h with h|h<;>rw[h]
 ·exact ⟨_,.inl rfl,rfl⟩
 ·exact ⟨_,.inr rfl,rfl⟩
theorem boot_VE:bootBuiltins "ValueError"=some (.type "ValueError"):=by decide +kernel
structure K3(K:W.Frag)(c0 c2 c6:Addr)(os:List Addr)(cM C:Addr)(j:Nat):Prop where
 lt:j<3
 ty:XTy K C
 o0:W.kitOne K (.ref C) (.ref c0)=some (decide (0=j))
 o2:W.kitOne K (.ref C) (.ref c2)=some (decide (1=j))
 o6:W.kitOne K (.ref C) (.ref c6)=some (decide (2=j))
 ot:W.kitAny K (.ref C) (os.map Value.ref)=some false
 ve:W.kitOne K (.ref C) (.type "ValueError")=some true
 em:W.exmOne K (.ref C) (.ref cM)=some true
def dueL:List Str:=["test","harms","orders"]
def truL(j:Nat):List Bool:=[decide (0=j),decide (1=j),decide (2=j)]
theorem truL_is:∀j,j<3->(truL j).count true=1/\(truL j)[j]?=some true/\∀m,m<j->(truL j)[m]?≠some true:=by decide +kernel
theorem dueL_at:∀j,j<3->(dueL.map V.str)[j]?=some (.str (dueL.getD j "")):=by decide +kernel
section
variable {P:Program}{w:World}{K:W.Frag}{mg:Str->Option Value}{base:Heap}{r0 r1 r2 r3 r6 r7 r8 rT rM:Addr}
def yje:Sp:=λvs H Q _=>∃(t d:Addr) (T:List Elm) (ds:List Int),vs=[.ref t,.ref d]/\At H (.ref t) (qci T)/\okT T/\T.length<=4/\H d=some (.lst (ds.map V.int))/\4<=ds.length/\
 ∀(O:Addr) (os:List Str) (H':Hp),Same H H'->H O=none->H' O=some (.lst (os.map V.str))->OrdOk T os->Q (.ref O) H'
abbrev qc1:Stmt:=top 86
theorem qdq:FnScope ["_law_test_here","_law_d","_law_found","_law_k"] ["_law_test_here","_law_d"] (qac qc1):=fsc
theorem ok_lords(B:Bl mg)(F:FnAt K mg "_law_orders" qc1 ["_law_test_here","_law_d"]):Has P w K mg base 1 "_law_orders" ["_law_test_here","_law_d"] yje:=by
 refine Has.ofQ F qdq (λvs H Q E h=>?_) (λ_ _ _ _ _ H vs Q E hr h=>?_)
 ·obtain ⟨t,d,T,ds,rfl,_⟩:=h
  rfl
 ·obtain ⟨t,d,T,ds,rfl,ht,okt,t4,hd,d4,k⟩:=h
  have sc:=qdq
  refine cutA [1] ⟨_,qaf rfl (yab (ya1 PassesOwn.never rfl (yea (qby rfl (B.of rfl) (qab (qan qai rfl (B.of rfl) boot_len (qab (pv 0) yae)) yae))) (pgn 3 sc.nd)
    (yac (qap (qaa (qdd PySem.F.plainAttrs_list PySem.F.slot_list_append PySem.F.type_list_append ya7 (pv 2) (qab (qbe qal (qc3 (qab (qbe qal (qc3 (qab qak (qab qak yae))) (ybb qb2 (qbe qal (pv 1) (pv 3)) yad)) (qab (qbe yam (qbe qal (pv 0) (pv 3)) yad) yae))) (yfy ymv rfl (B.of rfl) boot_int (qab (ya4 yhw (qbe yam (qbe qal (pv 0) (pv 3)) yad) qak (yai _)) yae))) yae)))))) (yac (yah (qaa (pv 2)))))⟩ ?_
  intro c1
  refine ⟨_,qaf rfl (yab (qsE 2 sc.nd (qao qad)) c1.2),?_⟩
  obtain ⟨_,ws,hre,hlt,hwt⟩:=ht.lstEq
  cases hre
  have wl:ws.length=T.length:=by have:=hwt.length;rw[length_map]at this;exact this
  have z2:2<=sizeLine:=by decide
  refine ⟨zero_le _,λO nO=>gn ?_⟩
  have s1:=(smR H).upd (o:=.lst []) nO
  have f1:=@yaa H O (.lst [])
  revert s1 f1
  generalize upd H O _=H1
  intro s1 f1
  refine ⟨_,rfl,t,_,rfl,.inl (sqlO (s1 _ _ hlt)),T.length,(by rw[wl]),by omega,by omega,ycl (n:=T.length) (λi σ H2=>∃(o3:Option V) (os:List Str),σ=[some (.ref t),some (.ref d),some (.ref O),o3]/\Same H H2/\H2 O=some (.lst (os.map V.str))/\os.length=i/\∀(x:Nat) e o,T[x]?=some e->os[x]?=some o->okU o/\(e.1="any"\/e.1=o))
   ⟨none,[],rfl,s1,f1,rfl,λx e o _ h=>by simp at h⟩ ?_ ?_⟩
  ·rintro i σ H2 hi ⟨o3,os,rfl,s2,e2,l2,g2⟩
   rw[zero_add]
   have he:=getElem?_eq_getElem hi
   generalize T[i]'hi=e at he
   have hjw:i<ws.length:=by omega
   have hxe:=getElem?_eq_getElem hjw
   obtain ⟨de,hde,hat⟩:=hwt.get hxe
   obtain ⟨e',he',rfl⟩:=qbd hde
   rw[he]at he'
   cases he'
   obtain ⟨ea,l,sw,h1,hea,_⟩:=qeq hat
   rw[h1]at hxe
   have oke:=(okt.2.2 e (mem_of_getElem? he)).1
   have hdi:(ds.map V.int)[i]?=some (.int (ds[i]'(by omega))):=by rw[getElem?_map,getElem?_eq_getElem (by omega)];rfl
   generalize ds[i]'(by omega)=di at hdi
   obtain ⟨o,hou,ho⟩:=up_down di
   refine gn ?_
   refine ⟨_,rfl,.inl ⟨rfl,_,sqlO e2⟩,z2,λq1 n1=>?_⟩
   have s3:=(smR H2).upd (o:=.lst [V.str "up",.str "down"]) n1
   have s03:=s2.trans s3
   refine ⟨_,rfl,_,rfl,d,_,_,_,rfl,rfl,sqlO (s03 _ _ hd),qbj hdi,_,_,rfl,rfl,(by show (0:Int)<2;decide),q1,_,_,_,rfl,rfl,sqlO yaa,ho,?_⟩
   revert s3 s03
   generalize upd H2 q1 _=H3
   intro s3 s03
   refine ⟨_,rfl,_,rfl,t,_,_,_,rfl,rfl,sqlO (s03 _ _ hlt),qbj hxe,ea,_,_,_,rfl,rfl,sqtO (s03 _ _ hea),yaq 0 rfl,z2,λq2 n2=>?_⟩
   have s4:=(smR H3).upd (o:=.lst [V.str o,.str e.1]) n2
   have f4:=@yaa H3 q2 (.lst [V.str o,.str e.1])
   revert s4 f4
   generalize upd H3 q2 _=H4
   intro s4 f4
   have s04:=s03.trans s4
   have e4:=(s3.trans s4) _ _ e2
   refine ⟨_,rfl,_,rfl,t,_,_,_,rfl,rfl,sqlO (s04 _ _ hlt),qbj hxe,ea,_,_,_,rfl,rfl,sqtO (s04 _ _ hea),yaq 0 rfl,rfl,.inr ⟨_,rfl,?_⟩⟩
   rw[dS]
   have fin:∀o',okU o'->(e.1="any"\/e.1=o')->∃(o3:Option V) (os':List Str),[some (V.ref t),some (.ref d),some (.ref O),some (.int (i:Int))]=[some (.ref t),some (.ref d),some (.ref O),o3]/\Same H (upd H4 O (.lst (os.map V.str++[.str o'])))/\upd H4 O (.lst (os.map V.str++[.str o'])) O=some (.lst (os'.map V.str))/\os'.length=i+1/\∀(x:Nat) e o,T[x]?=some e->os'[x]?=some o->okU o/\(e.1="any"\/e.1=o):=λo' u1 u2=>by
    refine ⟨_,os++[o'],rfl,s04.at nO,by rw[yaa,map_append];rfl,by rw[length_append,l2];rfl,λx ex ox h1 h2=>?_⟩
    by_cases hx:x<os.length
    ·rw[getElem?_append_left hx]at h2
     exact g2 x ex ox h1 h2
    ·rw[getElem?_append_right (by omega)]at h2
     cases q:x-os.length with
     |zero=>
      rw[q]at h2
      cases h2
      rw[show x=i by omega,he]at h1
      cases h1
      exact ⟨u1,u2⟩
     |succ n=>rw[q]at h2;simp at h2
   by_cases hany:e.1="any"
   ·rw[decide_eq_true hany]
    exact ⟨q2,_,_,_,rfl,rfl,sqlO f4,yaq 0 rfl,O,_,_,rfl,rfl,e4,ybe (by rw[length_map];omega),fin o hou (.inl hany)⟩
   ·rw[decide_eq_false hany]
    refine ⟨q2,_,_,_,rfl,rfl,sqlO f4,yaq 1 rfl,O,_,_,rfl,rfl,e4,ybe (by rw[length_map];omega),fin e.1 ?_ (.inr rfl)⟩
    rcases oke with h|h|h
    ·exact .inl h
    ·exact .inr h
    ·exact absurd h hany
  ·rintro σ H2 ⟨o3,os,rfl,s2,e2,l2,g2⟩
   exact ⟨_,rfl,k O os H2 s2 nO e2 ⟨l2,g2⟩⟩
def qcl(way:Nat)(T:List Elm)(dt dor dh:PyData):Option Nat:=if (ya0 dt).isSome=true then some 0 else if way=1/\(yar dh).isSome=true then some 1 else if ordB T dor=false then some 2 else none
def yjd:Sp:=λvs H Q _=>∃(way:Nat) (vt vo vh:V) (R:Addr) (dt dor dh:PyData) (T:List Elm) (os:List Str) (cs:List Int),vs=[.int way,vt,vo,.ref R,vh]/\way<2/\Ask3 H vt vo R dt dor T os cs/\AtX H vh dh/\(yar dh=none->∃L,vh=.ref L/\H L=some (.lst []))/\
 (∀j,qcl way T dt dor dh=some j->∀H',Same H H'->Q (.str (dueL.getD j "")) H')/\
 (qcl way T dt dor dh=none->∀D xs H',Same H H'->H' D=some (.lst xs)->(way=0->∃e,xs=[.ref e]/\H' e=some (.lst []))->Q (.ref D) H')
abbrev qdz:Stmt:=top 87
theorem qey:FnScope ["_law_way","_law_test_here","_law_orders_here","_law_reads","_law_harms","_law_kept","_law_found","e","_law_some"] ["_law_way","_law_test_here","_law_orders_here","_law_reads","_law_harms"] (qac qdz):=fsc
theorem ok_ltold(B:Bl mg)(hVE:mg "ValueError"=none)(gm:mg "MarchError"=some (.ref rM))(g0:mg "NoTest"=some (.ref r0))(g1:mg "NoText"=some (.ref r1))(g2:mg "NoHarms"=some (.ref r2))(g3:mg "NoMemory"=some (.ref r3))(g6:mg "NoOrders"=some (.ref r6))(g7:mg "NotSure"=some (.ref r7))(g8:mg "NoKind"=some (.ref r8))(gT:mg "TooMany"=some (.ref rT))
  (k0:K3 K r0 r2 r6 [r8,r3,r1,r7,rT] rM r0 0) (k2:K3 K r0 r2 r6 [r8,r3,r1,r7,rT] rM r2 1) (k6:K3 K r0 r2 r6 [r8,r3,r1,r7,rT] rM r6 2) (qmc:HasX P w K mg base 12 "fitting" ["test","size","orders","reads","kinds"] (sg_fit r0 r6)) (yf7:HasX P w K mg base 12 "contents_for" ["test","size","orders","reads","harms"] (yml r0 r2 r6))
  (F:FnAt K mg "_law_told" qdz ["_law_way","_law_test_here","_law_orders_here","_law_reads","_law_harms"]):Has P w K mg base 13 "_law_told" ["_law_way","_law_test_here","_law_orders_here","_law_reads","_law_harms"] yjd:=by
 refine Has.ofQ F qey (λvs H Q E h=>?_) (λ_ _ _ _ _ H vs Q E hr h=>?_)
 ·obtain ⟨way,vt,vo,vh,R,dt,dor,dh,T,os,cs,rfl,_⟩:=h
  rfl
 ·obtain ⟨way,vt,vo,vh,R,dt,dor,dh,T,os,cs,rfl,hw,ak,hh,hhg,kd,kn⟩:=h
  have sc:=qey
  refine cutA [6] ⟨_,qaf rfl (yab (yao (qaj yhw (qaa (qdd PySem.F.plainAttrs_list PySem.F.slot_list_count PySem.F.type_list_count ymb (pv 8) (qab qf8 yae))) (qaa yad) (yai _))
    (yac (yah (qaa qak)))
    yal) (yac (yah (yap qal (qao (qau (qaa qak) (qau (qaa qak) (qau (qaa qak) qad)))) (qaa (qdd PySem.F.plainAttrs_list PySem.F.slot_list_index PySem.F.type_list_index yl5 (pv 8) (qab qf8 yae)))))))⟩ ?_
  intro c1
  refine cutA [5] ⟨_,qaf rfl (yab (qsE 8 sc.nd (qao (qd7 (qas yd6 rfl (B.of rfl) boot_isinstance (yaf (qaa (pv 5)) (yaf (qaa (qbm (v:=.ref r0) rfl g0 rfl)) qad))) (qd7 (qas yd6 rfl (B.of rfl) boot_isinstance (yaf (qaa (pv 5)) (yaf (qaa (qbm (v:=.ref r2) rfl g2 rfl)) qad))) (qd7 (qas yd6 rfl (B.of rfl) boot_isinstance (yaf (qaa (pv 5)) (yaf (qaa (qbm (v:=.ref r6) rfl g6 rfl)) qad))) qad))))) c1.2)⟩ ?_
  intro c2
  refine cutA [4] ⟨_,qaf rfl (yab (yao (QW.pt (qi5 (qbq (qaa (qan yj7 rfl (B.of rfl) boot_isinstance (qab (pv 5) (qab (ybu (qab (qbm (v:=.ref r8) rfl g8 rfl) (qab (qbm (v:=.ref r3) rfl g3 rfl) (qab (qbm (v:=.ref r1) rfl g1 rfl) (qab (qbm (v:=.ref r7) rfl g7 rfl) (qab (qbm (v:=.ref rT) rfl gT rfl) yae)))))) yae))))) (qgn (ydd (qbq (qas yd6 rfl (B.of rfl) boot_isinstance (yaf (qaa (pv 5)) (yaf (qaa (qbl (v:=.ty "ValueError") rfl hVE boot_VE rfl)) qad))))))))
    (yac (yah (qaa qak)))
    yal) c2.2)⟩ ?_
  intro c3
  refine cutA [2] ⟨_,qaf rfl (yab (qdm (ps_try (iy:=5) (jn:=7) (λ_ _ z=>z) rfl rfl (psx_if (λ_ _ z=>z) (qb1 ya6 (pv 0) yad (yai _)) (qlr (i:=6) sc.nd rfl (Or.inl rfl) (qjs (λ_ _ z=>z) qmc hr (yel (pv 1) (pa_cs yad (yel (pv 2) (yel (pv 3) (qab (qc3 yae) yae))))))) (qlr (i:=6) sc.nd rfl (Or.inl rfl) (qjs (λ_ _ z=>z) yf7 hr (yel (pv 1) (pa_cs yad (yel (pv 2) (yel (pv 3) (yel (pv 4) yae)))))))) sc.nd rfl rfl rfl (Or.inl rfl) (by decide) rfl gm)) (yab (yao (qe2 (qc2 (qfm (pv 5))))
    (yac (yah (qaa (pv 6))))
    yal) c3.2))⟩ ?_
  intro c4
  refine ⟨_,qaf rfl (yab (qsE 5 sc.nd (qaa qa6)) (yab (qsE 6 sc.nd (qaa qa6)) c4.2)),?_⟩
  have fin:∀(C:Addr) (j:Nat),K3 K r0 r2 r6 [r8,r3,r1,r7,rT] rM C j->qcl way T dt dor dh=some j->∀a fs H',Same H H'->XAt H' a C fs->c3.val { nx:=λ_ H'=>Q .non H',rt:=Q } [some (.int way),some vt,some vo,some (.ref R),some vh,some (.ref a),some .non,none,none] H':=λC j kx hj a fs H' s' xa=>by
   have z3:3<=sizeLine:=by decide
   refine ⟨_,rfl,zl,λtp ht=>?_⟩
   have s2:=(smR H').upd (o:=.tup [V.ref r8,.ref r3,.ref r1,.ref r7,.ref rT]) ht
   have f2:upd H' tp (.tup [V.ref r8,.ref r3,.ref r1,.ref r7,.ref rT]) tp=some (.tup ([r8,r3,r1,r7,rT].map V.ref)):=yaa
   have xa2:=XAt.same s2 xa
   refine ⟨a,C,fs,tp,[r8,r3,r1,r7,rT],false,rfl,f2,xa2,kx.ty,kx.ot,_,rfl,iteF ?_⟩
   clear f2
   have s02:=s'.trans s2
   clear s2
   revert s02
   revert xa2
   generalize upd H' tp (.tup [V.ref r8,.ref r3,.ref r1,.ref r7,.ref rT])=H2
   intro xa2 s02
   refine ⟨_,rfl,a,C,fs,.ty "ValueError",_,rfl,.inr ⟨_,rfl⟩,xa2,kx.ty,kx.ve,_,rfl,iteF ?_⟩
   refine ⟨_,rfl,a,C,fs,.ref r0,_,rfl,.inl ⟨_,rfl⟩,xa2,kx.ty,kx.o0,_,rfl,a,C,fs,.ref r2,_,rfl,.inl ⟨_,rfl⟩,xa2,kx.ty,kx.o2,_,rfl,a,C,fs,.ref r6,_,rfl,.inl ⟨_,rfl⟩,xa2,kx.ty,kx.o6,z3,λp np=>gn ?_⟩
   have s3:=(smR H2).upd (o:=.lst [V.bl (decide (0=j)),.bl (decide (1=j)),.bl (decide (2=j))]) np
   have f3:upd H2 p (.lst [V.bl (decide (0=j)),.bl (decide (1=j)),.bl (decide (2=j))]) p=some (.lst ((truL j).map V.bl)):=yaa
   obtain ⟨t1,t2,t3⟩:=truL_is j kx.lt
   refine ⟨_,rfl,.inl ⟨rfl,_,sqlO f3⟩,p,truL j,true,rfl,rfl,f3,?_⟩
   rw[t1]
   refine ⟨rfl,_,rfl,iteF ?_⟩
   have s03:=s02.trans s3
   clear s3
   revert s03
   revert f3
   generalize upd H2 p _=H3
   intro f3 s03
   refine ⟨z3,λp8 f8=>?_⟩
   have s4:=(smR H3).upd (o:=.lst (dueL.map V.str)) f8
   exact ⟨_,rfl,.inl ⟨rfl,_,sqlO (s4 _ _ f3)⟩,p,truL j,true,j,rfl,rfl,s4 _ _ f3,t2,t3,p8,_,_,_,rfl,rfl,sqlO yaa,qbj (dueL_at j kx.lt),kd j hj _ (s03.trans s4)⟩
  refine ⟨_,rfl,rfl,_,rfl,?_⟩
  have hw2:way=0\/way=1:=by omega
  rcases hw2 with rfl|rfl
  ·refine iteB rfl ?_
   refine ⟨_,rfl,_,rfl,_,rfl,zero_le _,λKl nKl=>?_⟩
   have s1:=(smR H).upd (o:=.lst []) nKl
   refine ⟨vt,vo,R,Kl,dt,dor,T,os,cs,rfl,yaa,ak.same s1,λhb ho D e H' s' eD ee=>?_,λhb a fs H' s' xa=>?_,λhb ho a fs H' s' xa=>?_⟩
   ·refine ⟨_,rfl,_,rfl,iteT ⟨_,rfl,kn ?_ D _ H' (s1.trans s') eD λ_=>⟨e,rfl,ee⟩⟩⟩
    unfold qcl
    rw[hb,ho]
    rfl
   ·refine ⟨a,rfl,a,r0,fs,rfl,xa,k0.em,?_⟩
    refine ⟨_,rfl,_,rfl,iteF (fin r0 0 k0 ?_ a fs H' (s1.trans s') xa)⟩
    unfold qcl
    rw[if_pos hb]
   ·refine ⟨a,rfl,a,r6,fs,rfl,xa,k6.em,?_⟩
    refine ⟨_,rfl,_,rfl,iteF (fin r6 2 k6 ?_ a fs H' (s1.trans s') xa)⟩
    unfold qcl
    rw[hb,ho]
    rfl
  ·refine iteN rfl ?_
   refine ⟨_,rfl,_,rfl,_,rfl,_,rfl,vt,vo,vh,R,dt,dor,dh,T,os,cs,rfl,ak,hh,hhg,λhb hhb ho D xs H' s' eD=>?_,λhb a fs H' s' xa=>?_,λhb hhb a fs H' s' xa=>?_,λhb hhb ho a fs H' s' xa=>?_⟩
   ·refine ⟨_,rfl,_,rfl,iteT ⟨_,rfl,kn ?_ D _ H' s' eD λz=>by cases z⟩⟩
    unfold qcl
    rw[hb,hhb,ho]
    rfl
   ·refine ⟨a,rfl,a,r0,fs,rfl,xa,k0.em,?_⟩
    refine ⟨_,rfl,_,rfl,iteF (fin r0 0 k0 ?_ a fs H' s' xa)⟩
    unfold qcl
    rw[if_pos hb]
   ·refine ⟨a,rfl,a,r2,fs,rfl,xa,k2.em,?_⟩
    refine ⟨_,rfl,_,rfl,iteF (fin r2 1 k2 ?_ a fs H' s' xa)⟩
    unfold qcl
    rw[hb,if_neg (by simp),if_pos ⟨rfl,hhb⟩]
   ·refine ⟨a,rfl,a,r6,fs,rfl,xa,k6.em,?_⟩
    refine ⟨_,rfl,_,rfl,iteF (fin r6 2 k6 ?_ a fs H' s' xa)⟩
    unfold qcl
    rw[hb,hhb,ho]
    rfl
end
end Mh
namespace L2
open PySem PyProof.Rows
section
variable {X:Cx}
def rInTD:R2:=λx y H Q=>∃dx ds,At H x dx/\At H y (.tuple ds)/\dx.canLay0=true/\PyData.canLayAll0 ds=true/\dx.depth<=60/\Q (.bl (ds.any λy=>PyData.eqv y dx)) H
theorem op_inTD{k:Nat}(hr:Room k X.A):OpR X (compareOp .In) rInTD:=by
 intro pins s σ H x y v u Q I rx ry h
 obtain ⟨dx,ds,h1,h2,c1,c2,hd,q⟩:=h
 obtain ⟨as,r1⟩:=h1.reads I.hok rx
 obtain ⟨bs,r2⟩:=h2.reads I.hok ry
 have hu:=hr.units
 exact PySem.SeqAt.in_tuple_reads r2 r1 c2 c1 (by have:=Nat.min_le_right (PyData.depthAll ds) dx.depth;omega) ⟨.bl _,H,I,rfl,q⟩
end
section
variable {K:W.Frag}{σ:L2.St}{H:Hp}{te tb:TE}{d:PyData}{ds:List PyData}{L:List Addr}
theorem yjb{i:Int}(h:Lay L te σ (.list ds) H)(hb:∀H1,Same H H1->∀Q:VK,Q (.int i) H1->tb σ H1 Q)(h0:0<=i)(h1:i<ds.length)(hd:ds[i.toNat]?=some d):Lay L (tOp (rIxL K) te tb) σ d H:=λhL H1 s Q k=>
 h hL H1 s _ λv H2 s2 a2=>hb H2 (s.trans s2) _ (by
  obtain ⟨a,vs,rfl,ha,hw⟩:=a2.lstEq
  obtain ⟨v,d',hv,hd',hat⟩:=hw.mem h0 h1
  rw[hd]at hd'
  cases hd'
  exact ⟨a,vs,_,v,rfl,rfl,sqlO (qa1 _ _ _ _ ha),hv,k v H2 s2 hat⟩)
end
end L2
namespace Mh
open PySem L2 PyProof.Rows Mx
def smB(d:PyData):Bool:=d.showable&&(decide (d.depth<=1)&&(d.leavesShort 40&&decide (d.bulk<=20)))
theorem ycm{d:PyData}(h:smB d=true):Sm 1 20 d:=by
 unfold smB at h
 simp only[Bool.and_eq_true]at h
 exact ⟨h.1,of_decide_eq_true h.2.1,h.2.2.1,of_decide_eq_true h.2.2.2⟩
def qbw(os:List Str):List PyData:=os.map PyData.str
theorem ygw{H:Hp}:∀(os:List Str),AtAll H (os.map V.str) (qbw os)
 |[]=>.nil
 |o::r=>.cons (.str o) (ygw r)
def midL(os:List Str)(a:Nat)(x:PyData):PyData:=.list ((qbw os).take a++[x]++(qbw os).drop (a+1))
theorem mid_bad{T:List Elm}{os:List Str}{a:Nat}{e:Elm}{x:PyData}(ha:T[a]?=some e)(hx:ybv e x=false):ordB T (midL os a x)=false:=by
 show (decide (((qbw os).take a++[x]++(qbw os).drop (a+1)).length=T.length)&&(List.zipWith ybv T ((qbw os).take a++[x]++(qbw os).drop (a+1))).all id)=false
 by_cases hl:((qbw os).take a++[x]++(qbw os).drop (a+1)).length=T.length
 rotate_left
 ·rw[decide_eq_false hl];rfl
 rw[decide_eq_true hl,Bool.true_and,List.all_eq_false]
 have hal:=(List.getElem?_eq_some_iff.mp ha).1
 have hta:((qbw os).take a).length=a:=by
  rw[length_append,length_append,length_take,length_drop,List.length_singleton]at hl
  rw[length_take]
  omega
 refine ⟨false,?_,by simp⟩
 refine mem_of_getElem? (i:=a) ?_
 rw[List.getElem?_zipWith,ha,append_assoc,getElem?_append_right (by omega),hta,Nat.sub_self]
 show some (ybv e x)=some false
 rw[hx]
theorem yen{T:List Elm}{os:List Str}(oo:OrdOk T os):∀x∈qbw os,Sm 1 20 x:=by
 intro x hx
 obtain ⟨o,ho,rfl⟩:=mem_map.mp hx
 obtain ⟨i,hi⟩:=getElem?_of_mem ho
 have hil:=(List.getElem?_eq_some_iff.mp hi).1
 have hil2:i<T.length:=by have:=oo.len;omega
 have:=(oo.at_ i T[i] o (getElem?_eq_getElem hil2) hi).1
 rcases this with rfl|rfl<;>exact ycm (by decide +kernel)
theorem mid_sm{T:List Elm}{os:List Str}(oo:OrdOk T os)(h8:T.length<=8){a:Nat}{x:PyData}(hx:Sm 1 20 x):Sm 4 2000 (midL os a x):=by
 have hl:(qbw os).length<=8:=by unfold qbw;rw[length_map,oo.len];exact h8
 refine (Sm.list (n:=17) (D:=1) (B:=20) (λy hy=>?_) ?_).mono
 ·rcases mem_append.mp hy with hy|hy
  ·rcases mem_append.mp hy with hy|hy
   ·exact yen oo y (List.mem_of_mem_take hy)
   ·rw[mem_singleton.mp hy];exact hx
  ·exact yen oo y (List.mem_of_mem_drop hy)
 ·rw[length_append,length_append,length_take,length_drop];simp;omega
def yl0(o:Str):Str:=if o="up" then "down" else "up"
def oddO(o:Str):List PyData:=[.none,.str "any",.bool true,.tuple [.str "up"],.str (yl0 o),.int 0]
def udD:List PyData:=[.str "up",.str "down"]
def yj9(os:List Str):List PyData:=[.tuple (qbw os),.list ((qbw os).drop 1),.list (qbw os++[.str "up"]),.none,.str ""]
def ordN(x:PyData):Bool:=match x with|.str s=>!inV (.str s) [.str "up",.str "down"]|_=>true
theorem qjc{x:PyData}(h:ordN x=true)(e:Elm):ybv e x=false:=by
 cases x with
 |str s=>
  have h3:(!inV (.str s) [.str "up",.str "down"])=true:=h
  show (inV (.str s) [.str "up",.str "down"]&&_)=false
  rw[show inV (.str s) [.str "up",.str "down"]=false by simpa using h3]
  rfl
 |_=>rfl
def oddB(o:Str)(x:PyData):Bool:=(if udD.any λy=>PyData.eqv y x then (match x with|.str s=>decide (s=yl0 o)|_=>false) else ordN x)&&(smB x&&(x.canLay0&&decide (x.depth<=60)))
theorem odd_is{o:Str}(h:okU o):∀x∈oddO o,oddB o x=true:=by
 rcases h with rfl|rfl<;>decide +kernel
theorem odd_get{o:Str}(h:okU o){x:PyData}(hx:x∈oddO o):Sm 1 20 x/\x.canLay0=true/\x.depth<=60/\((udD.any λy=>PyData.eqv y x)=true/\x=.str (yl0 o)\/(udD.any λy=>PyData.eqv y x)=false/\ordN x=true):=by
 have:=odd_is h x hx
 unfold oddB at this
 simp only[Bool.and_eq_true]at this
 obtain ⟨h1,h2,h3,h4⟩:=this
 refine ⟨ycm h2,h3,of_decide_eq_true h4,?_⟩
 by_cases hb:(udD.any λy=>PyData.eqv y x)=true
 ·rw[if_pos hb]at h1
  refine .inl ⟨hb,?_⟩
  cases x with
  |str s=>exact congrArg PyData.str (of_decide_eq_true h1)
  |_=>cases h1
 ·rw[if_neg hb]at h1
  exact .inr ⟨by simpa using hb,h1⟩
theorem flip_bad{e:Elm}{o:Str}(h:okU o)(he:e.1=o):ybv e (.str (yl0 o))=false:=by
 unfold ybv
 rw[he]
 rcases h with rfl|rfl<;>decide +kernel
theorem any_bad(e:Elm):ybv e (.str "any")=false/\Sm 1 20 (.str "any"):=⟨qjc (by decide +kernel) e,ycm (by decide +kernel)⟩
theorem ymd{T:List Elm}{os:List Str}(hl:os.length=T.length)(h1:1<=T.length):∀d∈yj9 os,ordB T d=false:=by
 intro d hd
 have hlen:∀{ds:List PyData},ds.length≠T.length->ordB T (.list ds)=false:=λ{ds} h=>by
  show (decide (ds.length=T.length)&&_)=false
  rw[decide_eq_false h]
  rfl
 simp only[yj9,mem_cons,not_mem_nil,or_false]at hd
 rcases hd with rfl|rfl|rfl|rfl|rfl
 ·rfl
 ·exact hlen (by unfold qbw;rw[length_drop,length_map];omega)
 ·exact hlen (by unfold qbw;rw[length_append,length_map];simp;omega)
 all_goals rfl
theorem endsO_sm{T:List Elm}{os:List Str}(oo:OrdOk T os)(h8:T.length<=8):∀d∈yj9 os,Sm 4 2000 d:=by
 intro d hd
 have hl:(qbw os).length<=8:=by unfold qbw;rw[length_map,oo.len];exact h8
 simp only[yj9,mem_cons,not_mem_nil,or_false]at hd
 rcases hd with rfl|rfl|rfl|rfl|rfl
 ·exact (Sm.tuple (n:=9) (D:=1) (B:=20) (yen oo) (by omega)).mono
 ·exact (Sm.list (n:=9) (D:=1) (B:=20) (λy hy=>yen oo y (List.mem_of_mem_drop hy)) (by rw[length_drop];omega)).mono
 ·exact (Sm.list (n:=9) (D:=1) (B:=20) (λy hy=>by
   rcases mem_append.mp hy with hy|hy
   ·exact yen oo y hy
   ·rw[mem_singleton.mp hy];exact ycm (by decide +kernel)) (by simp;omega)).mono
 all_goals exact (ycm (by decide +kernel)).mono
theorem qef{x:Int}{n:Nat}(h:1<=n):∃k:Nat,x % (n:Int)=(k:Int)/\k<n:=by
 have h1:=emod_nonneg x (b:=(n:Int)) (by omega)
 have h2:=emod_lt_of_pos x (b:=(n:Int)) (by omega)
 exact ⟨(x % (n:Int)).toNat,by omega,by omega⟩
section
variable {P:Program}{w:World}{K:W.Frag}{mg:Str->Option Value}{base:Heap}
def sp_lbo:Sp:=λvs H Q _=>∃(t O dd:Addr) (T:List Elm) (os:List Str) (x y z:Int),vs=[.ref t,.ref O,.ref dd]/\At H (.ref t) (qci T)/\okT T/\H O=some (.lst (os.map V.str))/\OrdOk T os/\H dd=some (.lst [.int x,.int y,.int z])/\
 ∀v d H',Same H H'->At H' v d->ordB T d=false->Sm 4 2000 d->Q v H'
abbrev ybt:Stmt:=top 89
theorem qcd:FnScope ["_law_test_here","_law_orders_here","_law_d","_law_at","_law_some","_law_bad"] ["_law_test_here","_law_orders_here","_law_d"] (qac ybt):=fsc
theorem ok_lbo(B:Bl mg)(F:FnAt K mg "_law_bad_orders" ybt ["_law_test_here","_law_orders_here","_law_d"]):Has P w K mg base 1 "_law_bad_orders" ["_law_test_here","_law_orders_here","_law_d"] sp_lbo:=by
 refine Has.ofQ F qcd (λvs H Q E h=>?_) (λ_ _ _ _ _ H vs Q E hr h=>?_)
 ·obtain ⟨t,O,dd,T,os,x,y,z,rfl,_⟩:=h
  rfl
 ·obtain ⟨t,O,dd,T,os,x,y,z,rfl,ht,okt,hO,oo,hdd,q⟩:=h
  have h1:=okt.1
  have h8:=okt.2.1
  have hol:=oo.len
  have sc:=qcd
  refine ⟨_,(qaf rfl (yab (qsE 3 sc.nd (ybd qb2 (yap qal (qaa (pv 2)) (qaa yad)) (qas qai rfl (B.of rfl) boot_len (yaf (qaa (pv 1)) qad))))
   (yab (qsE 4 sc.nd (qao (qau (qaa qa6) (qau (qaa qak) (qau (qaa qf8) (yd7 (ybm (qau (qaa qak) qad)) (ydl (qlw (ym0 hr) (qe_disp (qjr (qaa qak) (qaa qak) (qjr (qaa qak) (qaa qak) qps_nil)) rfl rfl (List.cons_ne_nil _ _) (Nat.le_of_ble_eq_true rfl)) (yap qal (qaa (pv 1)) (qaa (pv 3))) (λ_ _=>rfl)) (qau (qaa yad) qad))))))))
   (yab (qsE 5 sc.nd (yap qal (qaa (pv 4)) (ybd qb2 (yap qal (qaa (pv 2)) (qaa yad)) (qaa yad))))
   (qee (yao (QW.pt (qco (qaj (op_inTD hr) (qaa (pv 5)) (ybm (qau (qaa qak) (qau (qaa qak) qad))) (by with_unfolding_all rfl)) (qcj (qaj ya6 (yap yam (yap qal (qaa (pv 0)) (qaa (pv 3))) (qaa yad)) (qaa qak) (yai _)))))
    (yac (qsE 5 sc.nd (qaa qak)))
    yal)
   (yac (yah (yap qal (qao (yii (ybd yca (ybd yca (qhl yci (qaa (pv 1)) yb8 (qbh (pv 3))) (qao (yaf (qaa (pv 5)) qad))) (qhl yci (qaa (pv 1)) (qbh (ybb yc4 (pv 3) yad)) yb8)) (qd7 (qa9 qbo rfl (B.of rfl) boot_tuple (yaf (qaa (pv 1)) qad)) (ydl (qhl yci (qaa (pv 1)) (qbh yad) yb8) (yii (ybd yca (qaa (pv 1)) (qao (qau (qaa qak) qad))) (qau (qaa qa6) (qau (qaa qak) qad))))))) (ybd qb2 (yap qal (qaa (pv 2)) (qaa yad)) (qaa yad)))))))))),?_⟩
  have nn:∀{H2:Hp},∀b∈([]:List Addr),H2 b≠none:=λb hb=>by cases hb
  obtain ⟨a,hat',hatl⟩:=qef (x:=y) h1
  refine ⟨_,rfl,dd,_,_,_,rfl,rfl,sqlO hdd,yaq 1 rfl,_,rfl,O,_,rfl,.inl (sqlO hO),_,_,rfl,rfl,(by show (0:Int)<((os.map V.str).length:Int);rw[length_map];omega),?_⟩
  show yf3 3 (V.int (y % ((os.map V.str).length:Int))) _ _ _
  rw[length_map,hol,hat']
  refine gn ?_
  dsimp only
  obtain ⟨e,he⟩:∃e,T[a]?=some e:=⟨T[a],getElem?_eq_getElem _⟩
  obtain ⟨o,ho⟩:∃o,os[a]?=some o:=⟨os[a]'(by omega),getElem?_eq_getElem _⟩
  obtain ⟨ou,oe⟩:=oo.at_ a e o he ho
  refine qg4 (d:=.list (oddO o)) ?_ λv4 H1 s1 a1=>?_
  ·unfold oddO
   refine yaz (yag qer (yag yda (yag qkz (yag (qcb (yag yda qav)) (yag (λhL H2 s2 Q k=>?_) (yag qgv qav))))))
   refine λp hp=>?_
   have s3:=(smR H2).upd (o:=.dK []) hp
   have q3:=@yaa H2 p (.dK [])
   revert s3 q3
   generalize upd H2 p _=H3
   intro s3 q3
   refine ⟨q3,[(.inr "up",.str "down"),(.inr "down",.str "up")],rfl,by simp,?_⟩
   have s4:Same H2 (upd H3 p (.dK (yfw [] [(.inr "up",.str "down"),(.inr "down",.str "up")]))):=λb o hb=>by rw[qag (qae hb hp)];exact s3 _ _ hb
   have q4:=@yaa H3 p (.dK (yfw [] [(.inr "up",.str "down"),(.inr "down",.str "up")]))
   revert s4 q4
   generalize upd H3 p _=H4
   intro s4 q4
   refine ⟨_,rfl,_,rfl,O,_,_,_,rfl,rfl,sqlO ((s2.trans s4) _ _ hO),qbj (by rw[getElem?_map,ho];rfl),?_⟩
   refine ⟨p,.str (yl0 o),rfl,?_,k _ H4 s4 (.str _)⟩
   rcases ou with rfl|rfl
   ·exact DGet.k (k:=Sum.inr "up") q4
   ·exact DGet.k (k:=Sum.inr "down") q4
  obtain ⟨b,hbe,hbl⟩:=qef (x:=x) (n:=6) (by decide)
  obtain ⟨l4,w4,rfl,e4,hw4⟩:=a1.lstEq
  obtain ⟨vx,dx,hvx,hdx,hax⟩:=hw4.mem (i:=(b:Int)) (by omega) (by show (b:Int)<6;omega)
  have hxm:=mem_of_getElem? hdx
  obtain ⟨xs1,xl,xd,xk⟩:=odd_get ou hxm
  refine ⟨_,rfl,_,rfl,dd,_,_,_,rfl,rfl,sqlO (s1 _ _ hdd),yaq 0 rfl,_,_,rfl,rfl,(by show (0:Int)<6;decide),l4,_,_,_,rfl,rfl,sqlO e4,(by show atI w4 (x % (6:Nat))=some vx;rw[hbe];exact hvx),?_⟩
  refine gn ?_
  dsimp only
  refine ⟨λσ' H3=>∃(v:V) (dv:PyData),σ'=[some (.ref t),some (.ref O),some (.ref dd),some (.int a),some (.ref l4),some v]/\Same H H3/\At H3 v dv/\ybv e dv=false/\Sm 1 20 dv,?_,?_⟩
  ·refine ⟨_,rfl,zl,λtp ntp=>?_⟩
   have s2:=(smR H1).upd (o:=.tup [V.str "up",.str "down"]) ntp
   have f2:=@yaa H1 tp (.tup [V.str "up",.str "down"])
   revert s2 f2
   generalize upd H1 tp _=H2
   intro s2 f2
   have s12:=s1.trans s2
   refine ⟨dx,udD,hax.same s2,.tup f2 (.cons (.str _) (.cons (.str _) .nil)),xl,by decide +kernel,xd,_,rfl,?_⟩
   rcases xk with ⟨ht',hfl⟩|⟨hf',hn⟩
   ·rw[ht']
    refine iteB rfl ?_
    obtain ⟨lt,wt,hlt,hwt0,hwt⟩:=(ht.same s12).lstEq
    cases hlt
    have hwl:wt.length=T.length:=by have:=hwt.length;rw[length_map]at this;exact this
    obtain ⟨u,hu⟩:∃u,wt[a]?=some u:=⟨wt[a]'(by omega),getElem?_eq_getElem _⟩
    obtain ⟨du,hdu,hatu⟩:=hwt.get hu
    rw[getElem?_map,he]at hdu
    cases hdu
    obtain ⟨ea,el,ew,rfl,hea,_,_⟩:=qeq hatu
    refine ⟨_,rfl,_,rfl,t,_,_,_,rfl,rfl,sqlO hwt0,qbj hu,ea,_,_,_,rfl,rfl,sqtO hea,yaq 0 rfl,rfl,_,rfl,?_⟩
    by_cases hany:e.1="any"
    ·refine iteB (by simp[hany]) ?_
     exact gn ⟨_,_,rfl,s12,.str _,any_bad e⟩
    ·refine iteN (by simp[hany]) ?_
     exact ⟨_,dx,rfl,s12,hax.same s2,by rw[hfl];exact flip_bad ou (oe.resolve_left hany),xs1⟩
   ·rw[hf']
    refine iteN rfl ?_
    exact ⟨_,dx,rfl,s12,hax.same s2,qjc hn e,xs1⟩
  rintro _ H3 ⟨v,dv,rfl,s3,a3,vb,vs3⟩
  have hO3:At (ybh H3 []) (.ref O) (.list (qbw os)):=hid0 (.lst (s3 _ _ hO) (ygw os))
  have hlen:(qbw os).length<=8:=by unfold qbw;rw[length_map];omega
  obtain ⟨c,hce,hcl⟩:=qef (x:=z) (n:=6) (by decide)
  obtain ⟨dr,hdr⟩:∃dr,(midL os a dv::yj9 os)[((c:Int)).toNat]?=some dr:=⟨_,getElem?_eq_getElem (by show _<6;omega)⟩
  refine ylx (d:=dr) (yjb (i:=(c:Int)) (ds:=midL os a dv::yj9 os) (yaz (yag (ybn (ybn (qjm (qaw rfl hO3) (lay_nv rfl)) (yaz (yag (qaw rfl (hid0 a3)) qav)) ?_) (qg0 (qaw rfl hO3) (lay_ns rfl)) ?_) (yag (yfo (qaw rfl hO3)) (yag (qg0 (qaw rfl hO3) lay_n) (yag (ybn (qaw rfl hO3) (yaz (yag yda qav)) ?_) (yag qer (yag yda qav))))))) (λH6 s6 Q6 k6=>⟨_,rfl,dd,_,_,_,rfl,rfl,sqlO ((s3.trans s6) _ _ hdd),yaq 2 rfl,_,_,rfl,rfl,(by show (0:Int)<6;decide),(by show Q6 (.int (z % (6:Nat))) H6;rw[hce];exact k6)⟩) (by omega) (by show (c:Int)<6;omega) hdr) λv6 H6 s6 a6=>?_
  ·simp only[length_take,length_cons,length_nil];omega
  ·simp only[length_append,length_take,length_drop,length_cons,length_nil];omega
  ·simp only[length_cons,length_nil];omega
  refine q v6 dr H6 (s3.trans s6) a6 ?_ ?_
  ·rcases mem_cons.mp (mem_of_getElem? hdr) with hm|hm
   ·rw[hm];exact mid_bad he vb
   ·exact ymd hol h1 dr hm
  ·rcases mem_cons.mp (mem_of_getElem? hdr) with hm|hm
   ·rw[hm];exact mid_sm oo h8 vs3
   ·exact endsO_sm oo h8 dr hm
def smC(d:PyData):Bool:=d.showable&&(decide (d.depth<=6)&&(d.leavesShort 40&&decide (d.bulk<=8000)))
theorem qku{d:PyData}(h:smC d=true):Sm 6 8000 d:=by
 unfold smC at h
 simp only[Bool.and_eq_true]at h
 exact ⟨h.1,of_decide_eq_true h.2.1,h.2.2.1,of_decide_eq_true h.2.2.2⟩
theorem ql9(s:Stp):Sm 1 20 (qb4 s):=by
 obtain ⟨a,b⟩:=s
 cases a<;>cases b<;>exact ycm (by decide +kernel)
theorem qip{e:Elm}(h:okE e):Sm 3 260 (yeh e):=by
 have h1:Sm 2 126 (.list (e.2.map qb4)):=(Sm.list (n:=6) (D:=1) (B:=20) (λx hx=>by
  obtain ⟨s,_,rfl⟩:=mem_map.mp hx
  exact ql9 s) (by rw[length_map];exact h.2.2))
 have h2:Sm 2 126 (.str e.1):=by rcases h.1 with e'|e'|e'<;>rw[e']<;>exact (ycm (by decide +kernel)).mono
 exact (Sm.tuple (n:=2) (D:=2) (B:=126) (λx hx=>by
  simp only[mem_cons,not_mem_nil,or_false]at hx
  rcases hx with rfl|rfl
  ·exact h2
  ·exact h1) (by simp)).mono
theorem test_sm{T:List Elm}(h:okT T):Sm 6 8000 (qci T):=
 (Sm.list (n:=8) (D:=3) (B:=260) (λx hx=>by
  obtain ⟨e,he,rfl⟩:=mem_map.mp hx
  exact qip (h.2.2 e he)) (by rw[length_map];exact h.2.1)).mono
def badE(o:Str)(ss:List PyData):List PyData:=[.none,.list [.str o,.list ss],.tuple [.str o],.tuple [.str "Up",.list ss],.tuple [.str o,.tuple ss],.tuple [.str o,.list []],.tuple [.str o,.list (ss++[.none])],.tuple [.str o,.list (ss++[.tuple [.str "r",.bool true]])],.tuple [.str o,.list (ss++[.tuple [.str "x",.int 0]])]]
theorem el_fr{d:PyData}(h:qdr d=false):(ycf d).isSome=true:=by
 unfold ycf
 rw[h,if_neg (by simp)]
 rfl
theorem el_some{o:Str}{dl:List PyData}{x:PyData}(hx:x∈dl)(hb:yhv x=false):(ycf (.tuple [.str o,.list dl])).isSome=true:=by
 unfold ycf
 by_cases h:qdr (.tuple [.str o,.list dl])=true
 ·rw[if_pos h,Option.isSome_map]
  show (dl.findIdx? λx=>!yhv x).isSome=true
  rw[List.findIdx?_isSome,List.any_eq_true]
  exact ⟨x,hx,by rw[hb];rfl⟩
 ·rw[if_neg h]
  rfl
theorem badE_bad(o:Str)(ss:List PyData):∀d∈badE o ss,(ycf d).isSome=true:=by
 intro d hd
 simp only[badE,mem_cons,not_mem_nil,or_false]at hd
 rcases hd with rfl|rfl|rfl|rfl|rfl|rfl|rfl|rfl|rfl
 ·rfl
 ·rfl
 ·rfl
 ·refine el_fr ?_
  show (oneD [.str "up",.str "down",.str "any"] (.str "Up")&&yek 6 (.list ss))=false
  rw[show oneD [.str "up",.str "down",.str "any"] (.str "Up")=false by decide +kernel]
  rfl
 ·refine el_fr ?_
  exact Bool.and_false _
 ·refine el_fr ?_
  exact Bool.and_false _
 all_goals exact el_some (mem_append_right _ (mem_singleton.mpr rfl)) (by decide +kernel)
theorem sm2{a b:PyData}(h1:Sm 2 147 a)(h2:Sm 2 147 b):Sm 3 300 (.tuple [a,b]):=
 (Sm.tuple (n:=2) (D:=2) (B:=147) (λx hx=>by
  simp only[mem_cons,not_mem_nil,or_false]at hx
  rcases hx with rfl|rfl
  ·exact h1
  ·exact h2) (by simp)).mono
theorem badE_sm{e:Elm}(h:okE e):∀d∈badE e.1 (e.2.map qb4),Sm 3 300 d:=by
 have hs:∀x∈e.2.map qb4,Sm 1 20 x:=λx hx=>by
  obtain ⟨s,_,rfl⟩:=mem_map.mp hx
  exact ql9 s
 have hl:(e.2.map qb4).length<=6:=by rw[length_map];exact h.2.2
 have ho:Sm 2 147 (.str e.1):=by rcases h.1 with e'|e'|e'<;>rw[e']<;>exact (ycm (by decide +kernel)).mono
 have hL:Sm 2 147 (.list (e.2.map qb4)):=Sm.list (n:=7) hs (by omega)
 have hT:Sm 2 147 (.tuple (e.2.map qb4)):=Sm.tuple (n:=7) hs (by omega)
 have hA:∀{x:PyData},Sm 1 20 x->Sm 2 147 (.list (e.2.map qb4++[x])):=λ{x} hx=>Sm.list (n:=7) (λy hy=>by
  rcases mem_append.mp hy with hy|hy
  ·exact hs y hy
  ·rw[mem_singleton.mp hy];exact hx) (by rw[length_append];simp only[length_cons,length_nil];omega)
 intro d hd
 simp only[badE,mem_cons,not_mem_nil,or_false]at hd
 rcases hd with rfl|rfl|rfl|rfl|rfl|rfl|rfl|rfl|rfl
 ·exact (ycm (by decide +kernel)).mono
 ·exact (Sm.list (n:=2) (D:=2) (B:=147) (λx hx=>by
   simp only[mem_cons,not_mem_nil,or_false]at hx
   rcases hx with rfl|rfl
   ·exact ho
   ·exact hL) (by simp)).mono
 ·exact (Sm.tuple (n:=2) (D:=2) (B:=147) (λx hx=>by
   rw[mem_singleton.mp hx]
   exact ho) (by simp)).mono
 ·exact sm2 (ycm (by decide +kernel)).mono hL
 ·exact sm2 ho hT
 ·exact sm2 ho (ycm (by decide +kernel)).mono
 all_goals exact sm2 ho (hA (ycm (by decide +kernel)))
theorem qd6:∀(ds:List PyData) (n:Nat) {x:PyData},x∈ds->(ycf x).isSome=true->(ybl n ds).isSome=true
 |y::ys,n,x,hx,hb=>by
  unfold ybl
  cases hy:ycf y with
  |some s=>rfl
  |none=>
   rcases mem_cons.mp hx with rfl|hx
   ·rw[hy]at hb;cases hb
   ·exact qd6 ys (n+1) hx hb
theorem yk5{ds:List PyData}{x:PyData}(hx:x∈ds)(hb:(ycf x).isSome=true):(ya0 (.list ds)).isSome=true:=by
 unfold ya0
 by_cases h:yek 8 (.list ds)=true
 ·rw[if_pos h];exact qd6 ds 0 hx hb
 ·rw[if_neg h];rfl
def ygq(T:List Elm)(a:Nat)(x:PyData):PyData:=.list ((T.map yeh).take a++[x]++(T.map yeh).drop (a+1))
theorem qgy{T:List Elm}{a:Nat}{x:PyData}(h:(ycf x).isSome=true):(ya0 (ygq T a x)).isSome=true:=yk5 (List.mem_append_left _ (mem_append_right _ (mem_singleton.mpr rfl))) h
theorem qi0{T:List Elm}(h:okT T){a:Nat}{x:PyData}(hx:Sm 3 300 x):Sm 6 8000 (ygq T a x):=by
 have es:∀x∈T.map yeh,Sm 3 300 x:=λx hx=>by
  obtain ⟨e,he,rfl⟩:=mem_map.mp hx
  exact (qip (h.2.2 e he)).mono
 have hl:=h.2.1
 refine (Sm.list (n:=17) (D:=3) (B:=300) (λy hy=>?_) ?_).mono
 ·rcases mem_append.mp hy with hy|hy
  ·rcases mem_append.mp hy with hy|hy
   ·exact es y (List.mem_of_mem_take hy)
   ·rw[mem_singleton.mp hy];exact hx
  ·exact es y (List.mem_of_mem_drop hy)
 ·rw[length_append,length_append,length_take,length_drop,length_map];simp only[length_cons,length_nil];omega
def sp_lbt:Sp:=λvs H Q _=>∃(t dd:Addr) (T:List Elm) (ds:List Int),vs=[.ref t,.ref dd]/\At H (.ref t) (qci T)/\okT T/\H dd=some (.lst (ds.map V.int))/\3<=ds.length/\
 ∀v d H',Same H H'->At H' v d->(ya0 d).isSome=true->Sm 6 8000 d->Q v H'
abbrev qb5:Stmt:=top 88
theorem yc5:FnScope ["_law_test_here","_law_d","_law_order","_law_steps","_law_some","_law_one","_law_at","_law_bent"] ["_law_test_here","_law_d"] (qac qb5):=fsc
theorem ok_lbt(B:Bl mg)(F:FnAt K mg "_law_bad_test" qb5 ["_law_test_here","_law_d"]):Has P w K mg base 1 "_law_bad_test" ["_law_test_here","_law_d"] sp_lbt:=by
 refine Has.ofQ F yc5 (λvs H Q E h=>?_) (λ_ _ _ _ _ H vs Q E hr h=>?_)
 ·obtain ⟨t,dd,T,ds,rfl,_⟩:=h
  rfl
 ·obtain ⟨t,dd,T,ds,rfl,ht,okt,hdd,d3,q⟩:=h
  have h1:=okt.1
  have h8:=okt.2.1
  have sc:=yc5
  refine ⟨_,(qaf rfl (yab (qjx (yap qal (qaa (pv 0)) (ybd qb2 (yap qal (qaa (pv 1)) (qaa yad)) (qas qai rfl (B.of rfl) boot_len (yaf (qaa (pv 0)) qad)))) (qcs rfl (yaj (pgn 2 sc.nd) (yaj (pgn 3 sc.nd) ya9))))
   (yab (qsE 4 sc.nd (qao (qau (qaa qa6) (qfi (qao (yaf (qaa (pv 2)) (yaf (qaa (pv 3)) qad))) (yd7 (ybm (yaf (qaa (pv 2)) qad)) (yd7 (ybm (qau (qaa qak) (yaf (qaa (pv 3)) qad))) (yd7 (ybm (yaf (qaa (pv 2)) (qd7 (qa9 qbo rfl (B.of rfl) boot_tuple (yaf (qaa (pv 3)) qad)) qad))) (yd7 (ybm (yaf (qaa (pv 2)) (qfi (qao qad) qad))) (yd7 (ybm (yaf (qaa (pv 2)) (yii (ybd yca (qaa (pv 3)) (qao (qau (qaa qa6) qad))) qad))) qad)))))))))
   (yab (qsE 5 sc.nd (yap qal (ybd yca (qaa (pv 4)) (qao (yd7 (ybm (yaf (qaa (pv 2)) (yii (ybd yca (qaa (pv 3)) (qao (yd7 (ybm (qau (qaa qak) (qau (qaa qf8) qad))) qad))) qad))) (yd7 (ybm (yaf (qaa (pv 2)) (yii (ybd yca (qaa (pv 3)) (qao (yd7 (ybm (qau (qaa qak) (qau (qaa yad) qad))) qad))) qad))) qad)))) (ybd qb2 (yap qal (qaa (pv 1)) (qaa yad)) (qaa yad))))
   (yab (qsE 6 sc.nd (ybd qb2 (yap qal (qaa (pv 1)) (qaa yad)) (qas qai rfl (B.of rfl) boot_len (yaf (qaa (pv 0)) qad))))
   (yab (qsE 7 sc.nd (ybd yca (ybd yca (qhl yci (qaa (pv 0)) yb8 (qbh (pv 6))) (qao (yaf (qaa (pv 5)) qad))) (qhl yci (qaa (pv 0)) (qbh (ybb yc4 (pv 6) yad)) yb8)))
   (yac (yah (yap qal (qao (yaf (qaa (pv 7)) (yaf (qaa (pv 7)) (yaf (qaa (pv 7)) (qau (qaa qa6) (qfi (qao qad) (qd7 (qa9 qbo rfl (B.of rfl) boot_tuple (yaf (qaa (pv 0)) qad)) qad))))))) (ybd qb2 (yap qal (qaa (pv 1)) (qaa yad)) (qaa yad))))))))))),?_⟩
  obtain ⟨x,y,z,r,rfl⟩:∃x y z r,ds=x::y::z::r:=by
   match ds,d3 with
   |x::y::z::r,_=>exact ⟨x,y,z,r,rfl⟩
  obtain ⟨_,wt,hlt,hwt0,hwt⟩:=ht.lstEq
  cases hlt
  have hwl:wt.length=T.length:=by have:=hwt.length;rw[length_map]at this;exact this
  obtain ⟨a,hat',hatl⟩:=qef (x:=y) (n:=T.length) h1
  obtain ⟨e,he⟩:∃e,T[a]?=some e:=⟨T[a],getElem?_eq_getElem _⟩
  have oke:=okt.2.2 e (mem_of_getElem? he)
  obtain ⟨u,hu⟩:∃u,wt[a]?=some u:=⟨wt[a]'(by omega),getElem?_eq_getElem _⟩
  obtain ⟨du,hdu,hatu⟩:=hwt.get hu
  rw[getElem?_map,he]at hdu
  cases hdu
  obtain ⟨ea,el,ew,rfl,hea,hel,hew⟩:=qeq hatu
  refine ⟨_,rfl,_,rfl,dd,_,_,_,rfl,rfl,sqlO hdd,yaq 1 rfl,_,rfl,t,_,rfl,.inl (sqlO hwt0),_,_,rfl,rfl,(by show (0:Int)<(wt.length:Int);omega),t,_,_,_,rfl,rfl,sqlO hwt0,(by show atI wt (y % (wt.length:Int))=some (.ref ea);rw[hwl,hat'];exact qbj hu),?_⟩
  refine ⟨ea,_,rfl,sqtO hea,rfl,_,_,rfl,gn ⟨_,_,rfl,gn ⟨rfl,?_⟩⟩⟩
  have hs0:At H (.ref el) (.list (e.2.map qb4)):=.lst hel hew
  have hsl:(e.2.map qb4).length<=6:=by rw[length_map];exact oke.2.2
  have hss:=hid0 hs0
  dsimp only
  refine qg4 (d:=.list ((badE e.1 (e.2.map qb4)).take 7)) ?_ λv4 H1 s1 a1=>?_
  ·refine yaz (yag qer (yag (yaz (yag (qaw rfl (.str _)) (yag (qaw rfl hss) qav))) (yag (qcb (yag (qaw rfl (.str _)) qav)) (yag (qcb (yag yda (yag (qaw rfl hss) qav))) (yag (qcb (yag (qaw rfl (.str _)) (yag (yfo (qaw rfl hss)) qav))) (yag (qcb (yag (qaw rfl (.str _)) (yag (yaz qav) qav))) (yag (qcb (yag (qaw rfl (.str _)) (yag (ybn (qaw rfl hss) (yaz (yag qer qav)) (by simp only[length_cons,length_nil];omega)) qav))) qav)))))))
  have hs1:=hid0 (hs0.same s1)
  obtain ⟨b,hbe,hbl⟩:=qef (x:=x) (n:=9) (by decide)
  obtain ⟨dx,hdx⟩:∃dx,(badE e.1 (e.2.map qb4))[((b:Int)).toNat]?=some dx:=⟨_,getElem?_eq_getElem (by show _<9;omega)⟩
  refine qg4 (d:=dx) (yjb (i:=(b:Int)) (ds:=badE e.1 (e.2.map qb4)) (ybn (qaw rfl (hid0 a1)) (yaz (yag (qcb (yag (qaw rfl (.str _)) (yag (ybn (qaw rfl hs1) (yaz (yag (qcb (yag yda (yag qkz qav))) qav)) (by simp only[length_cons,length_nil];omega)) qav))) (yag (qcb (yag (qaw rfl (.str _)) (yag (ybn (qaw rfl hs1) (yaz (yag (qcb (yag yda (yag qgv qav))) qav)) (by simp only[length_cons,length_nil];omega)) qav))) qav))) (Nat.le_of_ble_eq_true rfl)) (λH6 s6 Q6 k6=>⟨_,rfl,dd,_,_,_,rfl,rfl,sqlO ((s1.trans s6) _ _ hdd),yaq 0 rfl,_,_,rfl,rfl,(by show (0:Int)<9;decide),(by show Q6 (.int (x % (9:Nat))) H6;rw[hbe];exact k6)⟩) (by omega) (by show (b:Int)<9;omega) hdx) λv5 H2 s2 a2=>?_
  have hxm:=mem_of_getElem? hdx
  have xb:=badE_bad _ _ dx hxm
  have xsm:=badE_sm oke dx hxm
  have s12:=s1.trans s2
  refine ⟨_,rfl,dd,_,_,_,rfl,rfl,sqlO (s12 _ _ hdd),yaq 1 rfl,_,rfl,t,_,rfl,.inl (sqlO (s12 _ _ hwt0)),_,_,rfl,rfl,(by show (0:Int)<(wt.length:Int);omega),?_⟩
  show yf3 6 (V.int (y % (wt.length:Int))) _ _ _
  rw[hwl,hat']
  refine gn ?_
  dsimp only
  have ht2:=hid0 (ht.same s12)
  have htl:(T.map yeh).length<=8:=by rw[length_map];exact h8
  refine qg4 (d:=ygq T a dx) ?_ λv7 H3 s3 a3=>?_
  ·refine ybn (ybn (qjm (qaw rfl ht2) (lay_nv rfl)) (yaz (yag (qaw rfl (hid0 a2)) qav)) ?_) (qg0 (qaw rfl ht2) (lay_ns rfl)) ?_
   ·simp only[length_take,length_cons,length_nil];omega
   ·simp only[length_append,length_take,length_drop,length_cons,length_nil];omega
  have s03:=s12.trans s3
  obtain ⟨c,hce,hcl⟩:=qef (x:=z) (n:=6) (by decide)
  obtain ⟨dr,hdr⟩:∃dr,[ygq T a dx,ygq T a dx,ygq T a dx,.none,.list [],.tuple (T.map yeh)][((c:Int)).toNat]?=some dr:=⟨_,getElem?_eq_getElem (by show _<6;omega)⟩
  refine ylx (d:=dr) (yjb (i:=(c:Int)) (ds:=[ygq T a dx,ygq T a dx,ygq T a dx,.none,.list [],.tuple (T.map yeh)]) (yaz (yag (qaw rfl (hid0 a3)) (yag (qaw rfl (hid0 a3)) (yag (qaw rfl (hid0 a3)) (yag qer (yag (yaz qav) (yag (yfo (qaw rfl (hid0 (ht.same s03)))) qav))))))) (λH6 s6 Q6 k6=>⟨_,rfl,dd,_,_,_,rfl,rfl,sqlO ((s03.trans s6) _ _ hdd),yaq 2 rfl,_,_,rfl,rfl,(by show (0:Int)<6;decide),(by show Q6 (.int (z % (6:Nat))) H6;rw[hce];exact k6)⟩) (by omega) (by show (c:Int)<6;omega) hdr) λv6 H6 s6 a6=>?_
  have hm:=mem_of_getElem? hdr
  simp only[mem_cons,not_mem_nil,or_false]at hm
  have h0:(ya0 dr).isSome=true/\Sm 6 8000 dr:=by
   rcases hm with rfl|rfl|rfl|rfl|rfl|rfl
   ·exact ⟨qgy xb,qi0 okt xsm⟩
   ·exact ⟨qgy xb,qi0 okt xsm⟩
   ·exact ⟨qgy xb,qi0 okt xsm⟩
   ·exact ⟨rfl,qku (by decide +kernel)⟩
   ·exact ⟨by decide +kernel,qku (by decide +kernel)⟩
   ·exact ⟨rfl,(Sm.tuple (n:=8) (D:=3) (B:=260) (λx hx=>by
     obtain ⟨e,he,rfl⟩:=mem_map.mp hx
     exact qip (okt.2.2 e he)) htl).mono⟩
  exact q v6 dr H6 (s03.trans s6) a6 h0.1 h0.2
theorem yk8{H:Hp}:∀{us:List V}{zs:List Int},AtAll H us (zs.map PyData.int)->us=zs.map V.int
 |[],[],.nil=>rfl
 |u::us,z::zs,.cons a r=>by rw[yk8 r,a.intEq];rfl
theorem qlf{H:Hp}{v:V}{zs:List Int}(h:At H v (.list (zs.map PyData.int))):∃a,v=.ref a/\H a=some (.lst (zs.map V.int)):=by
 obtain ⟨a,us,rfl,ha,hu⟩:=h.lstEq
 exact ⟨a,rfl,by rw[ha,yk8 hu]⟩
theorem ymg{H:Hp}:∀(zs:List Int),AtAll H (zs.map V.int) (zs.map PyData.int)
 |[]=>.nil
 |z::zs=>.cons (.int z) (ymg zs)
def dg36:List Int:=[4]++(List.replicate 4 ([18]++(List.replicate 6 ([4]:List Int)).flatten)).flatten++(List.replicate 4 ([2]:List Int)).flatten++[3,90,90,90,90,90,90,10]
def dv:Option Nat->V
 |none=>.non
 |some j=>.str (dueL.getD j "")
theorem qls:bits [0,1]:=λb hb=>by
 simp only[mem_cons,not_mem_nil,or_false]at hb
 rcases hb with rfl|rfl
 ·exact ⟨false,rfl⟩
 ·exact ⟨true,rfl⟩
theorem yf2:∀(l:List Op) (cs:List Int),bits cs->bits (runB cs l)
 |[],cs,_=>λb hb=>nomatch hb
 |x::l,cs,h=>by
  rw[qb7]
  split
  ·exact yf2 l _ (ygv h x)
  ·intro b hb
   rcases mem_cons.mp hb with rfl|hb
   ·unfold rd
    rw[getD_eq_getElem?_getD]
    cases q:cs[x.1.toNat]? with
    |none=>exact ⟨false,rfl⟩
    |some b=>exact h b (mem_of_getElem? q)
   ·exact yf2 l cs h b hb
theorem cut3{ds:List Int}(h:ds.length=41):∃x y z:Int,cutV (ds.map V.int) (some 34) (some 37)=[.int x,.int y,.int z]:=by
 rw[ymo,h]
 show ∃x y z:Int,((ds.drop 34).take 3).map V.int=_
 have hl:((ds.drop 34).take 3).length=3:=by rw[length_take,length_drop,h];rfl
 generalize (ds.drop 34).take 3=l at hl
 match l,hl with
 |[x,y,z],_=>exact ⟨x,y,z,rfl⟩
theorem lay_setL{L:List Addr}{te:TE}{σ:L2.St}{d:PyData}{H:Hp}{i:Nat}{rest:TS}{KK:Ends}(h:Lay L te σ d H)(hL:∀b∈L,H b≠none)(k:∀v H',Same H H'->At (ybh H' L) v d->rest KK (σ.set i (some v)) H'):tSeq (tAsg te (yf3 i)) rest KK σ H:=h hL H (smR H) _ k
theorem bits_sm{bs:List Int}(hb:bits bs)(hl:bs.length<=96):Sm 6 8000 (.list (bs.map PyData.int)):=(Sm.list (n:=96) (D:=1) (B:=20) (λy hy=>by
  obtain ⟨b,h,rfl⟩:=mem_map.mp hy
  obtain ⟨b,rfl⟩:=hb b h
  cases b<;>exact ycm (by decide +kernel)) (by rw[length_map];exact hl)).mono
def hm6:List PyData:=[.none,.list [.none],.list [.tuple [.str "stuck",.int 64,.int 0]],.tuple [],.str "stuck",.list [.tuple [.str "turns",.int 1,.int 1,.int 0]]]
def hmL:List PyData:=hm6++(List.replicate 4 [PyData.list []]).flatten
def hmB(d:PyData):Bool:=((!PyData.eqv d (.list [])) == (yar d).isSome)&&((match d with|.list []=>true|_=>(yar d).isSome)&&(smC d&&(d.canLay0&&decide (d.depth<=60))))
theorem hmL_is:∀d∈hmL,hmB d=true:=by decide +kernel
theorem hm_get{d:PyData}(h:d∈hmL):(!PyData.eqv d (.list []))=(yar d).isSome/\(yar d=none->d=.list [])/\Sm 6 8000 d/\d.canLay0=true/\d.depth<=60:=by
 have:=hmL_is d h
 unfold hmB at this
 simp only[Bool.and_eq_true,beq_iff_eq]at this
 obtain ⟨h1,h2,h3,h4,h5⟩:=this
 refine ⟨h1,λhn=>?_,qku h3,h4,of_decide_eq_true h5⟩
 rw[hn]at h2
 split at h2
 ·rfl
 ·cases h2
def qjj(K:W.Frag):Sp:=λvs H Q _=>∃(a:Addr) (ns:List Int),vs=[.ref a]/\SqL K H a (ns.map V.int)/\ns.length<=63/\∀H',Q (.bl true) H'
abbrev qg1:Stmt:=top 90
theorem sc_law:FnScope ["_law_script","_law_turn","_law_cell","_law_d","_law_test_here","_law_orders_here","_law_reads","_law_due","_law_one","_law_other","_law_harms","_law_kept","_law_way","_law_found"] ["_law_script"] (qac qg1):=fsc
theorem ok_law(B:Bl mg)(ygy:Has P w K mg base 1 "_law_digits" ["_law_cell","_law_turn","_law_sizes"] yhl)(qio:Has P w K mg base 1 "_law_test" ["_law_d","_law_most"] qjh)(yg3:Has P w K mg base 1 "_law_orders" ["_law_test_here","_law_d"] yje)(qke:Has P w K mg base 11 "reads_of" ["test","size","harms","contents","orders"] qh4)
  (qeg:Has P w K mg base 1 "_law_bad_orders" ["_law_test_here","_law_orders_here","_law_d"] sp_lbo) (qfc:Has P w K mg base 1 "_law_bad_test" ["_law_test_here","_law_d"] sp_lbt) (yi4:Has P w K mg base 13 "_law_told" ["_law_way","_law_test_here","_law_orders_here","_law_reads","_law_harms"] yjd)
  {f:Addr}{fd:FuncData} (F:Fun K "law" "law" qg1 f fd):FnOk P w K mg base CX0 14 f fd ["_law_script"] (qjj K):=by
 refine Mx.Fun.okQ F sc_law (λvs H Q E h=>?_) (λcdv A outer s H vs Q E hr h=>?_)
 ·obtain ⟨a,ns,rfl,_⟩:=h
  rfl
 ·obtain ⟨a,ns,rfl,hS,hnl,k⟩:=h
  have sc:=sc_law
  refine ⟨_,(qaf rfl (yab (ya1 PassesOwn.never rfl (yea (qct rfl (B.of rfl) (qab (qdk yci (ybb op_catS (pv 0) (qc3 (qab yad yae))) yb8 (qbh yad)) yae))) (qcs rfl (yaj (pgn 1 sc.nd) (yaj (pgn 2 sc.nd) ya9)))
    (yab (qsE 3 sc.nd (qah ygy hr (yaf (qaa (pv 2)) (yaf (qaa (pv 1)) (yii (ybd yca (ybd yca (ybd yca (qao (qau (qaa yad) qad)) (ybd yjn (ybd yca (qao (qau (qaa yad) qad)) (ybd yjn (qao (qau (qaa yad) qad)) (qaa yad))) (qaa yad))) (ybd yjn (qao (qau (qaa yad) qad)) (qaa yad))) (qao (qau (qaa yad) (qau (qaa yad) (qau (qaa yad) (qau (qaa yad) (qau (qaa yad) (qau (qaa yad) (qau (qaa yad) (qau (qaa yad) qad)))))))))) qad)))))
    (yab (qsE 4 sc.nd (qah qio hr (yaf (qaa (pv 3)) (qau (qaa yad) qad))))
    (yab (qsE 5 sc.nd (qah yg3 hr (yaf (qaa (pv 4)) (ydl (qhl yci (qaa (pv 3)) (qbh yad) yb8) qad))))
    (yab (qdm (qi3 (i:=6) rfl sc.nd rfl (Or.inl rfl) rfl (yax rfl) (M:=["_law_row"]) (ix:=[none]) (yck (qam qke hr (yel (pv 4) (pa_cs yad (qab (qc3 yae) (qab (qc3 (qab yad (qab yad yae))) (yel (pv 5) yae))))))) (λ_ _ _ _=>(qaz (i:=0) (show List.Nodup (["_law_row"]:List Str) by decide +kernel) rfl (Or.inl rfl))) (λ_ _ _ _=>ych) (λ_ _ _ _=>(qbe (qie (K:=K) rfl) (pv 0) yad))))
    (yab (qsE 7 sc.nd (qao (qau (qaa qa6) (qau (qaa qa6) qad))))
    (yab (qsE 8 sc.nd (qaa (pv 4)))
    (yab (qsE 9 sc.nd (qaa (pv 5)))
    (qee (yao (qaj qhp (yap qal (qaa (pv 3)) (qaa yad)) (qaa yad) (yai _))
     (yab (qsE 9 sc.nd (qah qeg hr (yaf (qaa (pv 4)) (yaf (qaa (pv 5)) (ydl (qhl yci (qaa (pv 3)) (qbh yad) (qbh yad)) qad)))))
     (yac (qsE 7 sc.nd (qao (qau (qaa qak) (qau (qaa qak) qad))))))
     yal)
    (yab (qsE 10 sc.nd (yap qal (ybd yca (qao (qau (qaa qa6) (qfi (qao (qau (qaa qa6) qad)) (qfi (qao (yd7 (ybm (qau (qaa qak) (qau (qaa yad) (qau (qaa yad) qad)))) qad)) (yd7 (ybm qad) (qau (qaa qak) (qfi (qao (yd7 (ybm (qau (qaa qak) (qau (qaa yad) (qau (qaa yad) (qau (qaa yad) qad))))) qad)) qad))))))) (ybd yjn (qao (qfi (qao qad) qad)) (qaa yad))) (yap qal (qaa (pv 3)) (qaa yad))))
    (qee (yao (qaj (op_neD hr) (qaa (pv 10)) (qao qad) (yai _))
     (yac (qjx (qaa qak) (ylc (pv 7) yad qgw)))
     yal)
    (qee (yao (qaj ya6 (yap qal (qaa (pv 3)) (qaa yad)) (qaa yad) (yai _))
     (yab (qsE 8 sc.nd (qah qfc hr (yaf (qaa (pv 4)) (ydl (qhl yci (qaa (pv 3)) (qbh yad) yb8) qad))))
     (yac (qsE 7 sc.nd (qao (qau (qaa qak) (qau (qaa qak) qad))))))
     yal)
    (yab (qsE 11 sc.nd (qas (qh5 hr) rfl (B.of rfl) boot_repr (qfi (qao (yaf (qaa (pv 8)) (yaf (qaa (pv 9)) (yaf (qaa (pv 6)) (yaf (qaa (pv 10)) qad))))) qad)))
    (yab (ya1 PassesOwn.never rfl (yea (qby rfl (B.of rfl) (qab yad yae))) (pgn 12 sc.nd)
     (yab (qsE 13 sc.nd (qah yi4 hr (yaf (qaa (pv 12)) (yaf (qaa (pv 8)) (yaf (qaa (pv 9)) (yaf (qaa (pv 6)) (yaf (qaa (pv 10)) qad)))))))
     (yac (yao (qe2 (qc2 (qfm (qbe qal (pv 7) (pv 12)))))
      (yac (yao (QW.pt (qi5 (QW.pt (qco (qaj ya6 (qaa (pv 12)) (qaa yad) (yai _)) (qcj (qaj (op_neD hr) (qaa (pv 13)) (qao (qfi (qao qad) qad)) (yai _))))) (qgn (QW.pt (qco (qaj ya6 (qaa (pv 12)) (qaa yad) (yai _)) (qcj (ydd (qbq (qas qbb rfl (B.of rfl) boot_isinstance (yaf (qaa (pv 13)) (yaf (qaa (qbl (v:=.ty "list") rfl (B.of rfl) boot_list rfl)) qad)))))))))))
       (yac (yah (qaa qf8)))
       yal))
      (yac (yao (qaj yhw (qaa (pv 13)) (yap qal (qaa (pv 7)) (qaa (pv 12))) (yai _))
       (yac (yah (qaa qf8)))
       yal))))))
    (yac (yao (qaj yhw (qas (qh5 hr) rfl (B.of rfl) boot_repr (qfi (qao (yaf (qaa (pv 8)) (yaf (qaa (pv 9)) (yaf (qaa (pv 6)) (yaf (qaa (pv 10)) qad))))) qad)) (qaa (pv 11)) (yai _))
     (yac (yah (qaa qf8)))
     yal))))))))))))))))
   (yac (yah (qaa qf8))))),?_⟩
  have z1:1<=sizeLine:=by decide
  refine ⟨_,rfl,z1,λc1 h1=>?_⟩
  generalize hG1:upd H c1 _=H1
  have s1:Same H H1:=by rw[<-hG1];exact (smR H).upd h1
  have f1:H1 c1=some (.lst [.int 6]):=by rw[<-hG1];exact yaa
  have hsl:(sizeLine:Nat)=16777216:=sizeLine_eq
  refine ⟨a,c1,_,_,rfl,rfl,s1.seq hS,sqlO f1,by rw[length_map];simp;omega,λc3 h3=>?_⟩
  generalize hG3:upd H1 c3 _=H3
  have f3:H3 c3=some (.lst ((ns++[6]).map V.int)):=by rw[<-hG3];refine yaa.trans ?_;rw[map_append];rfl
  refine ⟨30,rfl,c3,_,rfl,sqlO f3,λc4 h4=>?_⟩
  generalize hG4:upd H3 c4 _=H4
  have f4:H4 c4=some (.lst (((ns++[6]).take 30).map V.int)):=by rw[<-hG4,yaa,show (30:Int)=((30:Nat):Int) from rfl,qjn,List.map_take]
  clear hG4 hG3 hG1
  generalize hcs:(ns++[6]).take 30=cs at f4
  have c40:cs.length<=30:=by rw[<-hcs,length_take];omega
  refine ⟨c4,_,rfl,sqlO f4,ycd (xs:=cs.map V.int) (λi σ H'=>∃(o1 o2 o3 o4 o5 o6 o7 o8 o9 o10 o11 o12 o13:Option V),σ=[some (.ref a),o1,o2,o3,o4,o5,o6,o7,o8,o9,o10,o11,o12,o13]/\Same H4 H') ⟨_,_,_,_,_,_,_,_,_,_,_,_,_,rfl,smR _⟩ (λi σ H' _ ⟨_,_,_,_,_,_,_,_,_,_,_,_,_,_,s⟩=>sqlO (s _ _ f4)) ?_ (λσ H' _=>k _)⟩
  rintro i x pp σ H5 hx ⟨o1,o2,o3,o4,o5,o6,o7,o8,o9,o10,o11,o12,o13,rfl,s5⟩ hpp
  obtain ⟨c,hc,rfl⟩:=yif hx
  have hi:i<cs.length:=(List.getElem?_eq_some_iff.mp hc).1
  refine ⟨pp,_,rfl,sqtO yaa,rfl,_,_,rfl,_,_,rfl,rfl,?_⟩
  have s6:=s5.upd (o:=.tup [V.int i,.int c]) hpp
  -- the digits
  refine ⟨_,rfl,_,rfl,lay_go (L:=[]) (d:=.list (dg36.map PyData.int)) ?_ (λb hb=>by cases hb) λvz H7 s7 a7=>?_⟩
  ·have:(dg36.map PyData.int)=([4]:List Int).map PyData.int++(List.replicate 4 (([18]:List Int).map PyData.int++(List.replicate 6 (([4]:List Int).map PyData.int)).flatten)).flatten++(List.replicate 4 (([2]:List Int).map PyData.int)).flatten++([3,90,90,90,90,90,90,10]:List Int).map PyData.int:=rfl
   rw[this]
   refine ybn (ybn (ybn (yaz ?_) (qg8 (n:=4) (ybn (yaz ?_) (qg8 (n:=6) (yaz ?_) (by decide) (by decide)) (by decide)) (by decide) (by decide)) (by decide)) (qg8 (n:=4) (yaz ?_) (by decide) (by decide)) (by decide)) (yaz ?_) (by decide)
   all_goals repeat' (first|exact qgv|exact qav|refine yag ?_ ?_)
  obtain ⟨pz,rfl,hz⟩:=qlf (a7.same (qa1 _ _))
  refine ⟨c,i,pz,dg36,rfl,hz,by decide,by decide,by omega,by omega,λdp ds H8 s8 ndp hdp hD=>?_⟩
  have s48:=s6.trans (s7.trans s8)
  clear s7 a7 hz s6 s5
  have dpos:∀d∈ds,0<=d:=λd hd=>by
   obtain ⟨j,hj⟩:=getElem?_of_mem hd
   have hjl:=(List.getElem?_eq_some_iff.mp hj).1
   exact (hD.2 j d _ hj (getElem?_eq_getElem (by rw[<-hD.1];exact hjl))).1
  have dlen:ds.length=41:=hD.1
  obtain ⟨e33,g33,b33,b33'⟩:=hD.get (i:=33) (z:=3) rfl
  obtain ⟨e40,g40,b40,b40'⟩:=hD.get (i:=40) (z:=10) rfl
  have d7:D7 ds 4:=⟨by decide,by decide,by omega,dpos,λk hk=>by
   have:dg36[7*k+1]?=some 18:=by
    have:k=0\/k=1\/k=2\/k=3:=by omega
    rcases this with rfl|rfl|rfl|rfl<;>rfl
   obtain ⟨d,h1,_,h2⟩:=hD.get this
   exact ⟨d,h1,h2⟩⟩
  refine gn ?_
  dsimp only
  refine ⟨_,rfl,dp,ds,4,rfl,hdp,d7,λt T H9 s9 nt ht okt ok3t t4=>gn ?_⟩
  dsimp only
  have s49:=s48.trans s9
  refine ⟨_,rfl,_,rfl,29,rfl,dp,_,rfl,sqlO (s9 _ _ hdp),λq1 w1=>?_⟩
  rw[show (29:Int)=((29:Nat):Int) from rfl,qec,<-map_drop]
  have sA:=(smR H9).upd (o:=.lst ((ds.drop 29).map V.int)) w1
  have fA:=@yaa H9 q1 (.lst ((ds.drop 29).map V.int))
  revert sA fA
  generalize upd H9 q1 _=HA
  intro sA fA
  refine ⟨t,q1,T,_,rfl,ht.same sA,okt,t4,fA,by rw[length_drop];omega,λO os HB sB nO eO oo=>gn ?_⟩
  dsimp only
  have sAB:=sA.trans sB
  refine ⟨_,rfl,zero_le _,λL0 nL0=>?_⟩
  have sC:=(smR HB).upd (o:=.lst []) nL0
  have fC:=@yaa HB L0 (.lst [])
  revert sC fC
  generalize upd HB L0 _=HC
  intro sC fC
  refine ⟨zl,λC0 nC0=>?_⟩
  have sE:=(smR HC).upd (o:=.lst [V.int 0,.int 1]) nC0
  have fE:upd HC C0 (.lst [V.int 0,.int 1]) C0=some (.lst (([0,1]:List Int).map V.int)):=yaa
  revert sE fE
  generalize upd HC C0 _=HE
  intro sE fE
  have sCE:=sC.trans sE
  have s9E:=sAB.trans sCE
  refine ⟨_,rfl,t,L0,C0,O,T,os,[0,1],rfl,ht.same s9E,okt,sE _ _ fC,fE,qls,rfl,sCE _ _ eO,oo,λD us HF sF nD eD rb=>?_⟩
  have sHF:=s9E.trans sF
  have rl:=ye6 (os:=os) okt
  have rl2:=qd2 (tOps T os) [0,1]
  have rbt:bits (runB [0,1] (tOps T os)):=yf2 _ _ qls
  generalize hrs:runB [0,1] (tOps T os)=rs at rb rl2 rbt
  refine ⟨D,rfl,⟨_,sqlO eD⟩,λR nR=>yby (n:=us.length) (λi H'=>Same HF H'/\H' R=some (.lst ((rs.take i).map V.int))) ⟨(smR HF).upd nR,yaa⟩ ?_ ?_⟩
  rotate_left
  ·rintro i2 H2 hi2 ⟨s2,e2⟩
   refine ⟨⟨_,_,sqlO (s2 _ _ eD),getElem?_eq_getElem hi2⟩,?_⟩
   rintro z H6 ⟨rfl,hz⟩
   have hzz:=hz _ (sqlO (s2 _ _ eD))
   have hi3:i2<rs.length:=by rw[<-rb.len];exact hi2
   obtain ⟨ra,rx,ry,rz,rfl,hra⟩:=rb.at_ i2 _ _ hzz (getElem?_eq_getElem hi3)
   refine ⟨qa4.set (qa4.refl _) rfl,yes ?_⟩
   refine ⟨_,rfl,ra,_,_,_,rfl,rfl,sqtO (s2 _ _ hra),yaq 3 rfl,?_⟩
   refine ⟨_,e2,ybe (by rw[length_map,length_take];omega),s2.at nR,?_⟩
   rw[yaa,take_add_one,getElem?_eq_getElem hi3,map_append]
   rfl
  rintro HR ⟨sR,eR⟩
  refine ⟨⟨_,sqlO (sR _ _ eD),le_refl _⟩,?_⟩
  rw[rb.len,take_length]at eR
  refine gn ?_
  dsimp only
  have htR:=ht.same (sHF.trans sR)
  have hdR:=((s9.trans sHF).trans sR) _ _ hdp
  have eOR:=((sCE.trans sF).trans sR) _ _ eO
  have sR4:=s49.trans (sHF.trans sR)
  clear rb eD sF nD sHF sE sC fE fC sCE s9E nL0 nC0 sA fA sB sAB w1 nO eO s9 hdp ht nt s8 ndp
  clear sR
  -- what is due,and the orders
  refine ⟨zl,λp1 np1=>gn ?_⟩
  have sP:=(smR HR).upd (o:=.lst [V.non,.non]) np1
  have fP:=@yaa HR p1 (.lst [V.non,.non])
  revert sP fP
  generalize upd HR p1 _=HP
  intro sP fP
  refine ⟨_,rfl,gn ⟨_,rfl,gn ?_⟩⟩
  dsimp only
  refine ⟨λσ' H'=>∃(du:Addr) (vo:V) (dor:PyData) (G:Hp),σ'=[some (.ref a),some (.int i),some (.int c),some (.ref dp),some (.ref t),some (.ref O),some (.ref R),some (.ref du),some (.ref t),some vo,o10,o11,o12,o13]/\Same HR G/\G du=none/\Same G H'/\At G vo dor/\Sm 6 8000 dor/\(ordB T dor=true->vo=.ref O)/\H' du=some (.lst [dv (if ordB T dor=true then none else some 2),dv (if ordB T dor=true then none else some 2)]),?_,?_⟩
  ·refine ⟨_,rfl,dp,_,_,_,rfl,rfl,sqlO (sP _ _ hdR),yaq 33 (qep g33),_,_,rfl,rfl,_,rfl,?_⟩
   by_cases hpos:0<e33
   ·refine iteB (decide_eq_true hpos) ?_
    obtain ⟨x,y,z,hcut⟩:=cut3 dlen
    refine ⟨_,rfl,_,rfl,_,rfl,34,rfl,37,rfl,dp,_,rfl,sqlO (sP _ _ hdR),λq2 nq2=>?_⟩
    rw[hcut]
    have sQ:=(smR HP).upd (o:=.lst [V.int x,.int y,.int z]) nq2
    have sPQ:=sP.trans sQ
    refine ⟨t,O,q2,T,os,x,y,z,rfl,htR.same sPQ,okt,sPQ _ _ eOR,oo,yaa,λv d G sG aG ob sm=>gn ?_⟩
    refine ⟨zl,λp2 np2=>gn ⟨p2,v,d,G,rfl,sPQ.trans sG,np2,(smR G).upd np2,aG,sm.mono,λh=>(by rw[ob]at h;cases h),?_⟩⟩
    rw[ob]
    exact yaa
   ·refine iteN (decide_eq_false hpos) ?_
    have ob:=ord_ok oo
    refine ⟨p1,.ref O,.list (qbw os),HR,rfl,smR HR,np1,sP,.lst eOR (ygw os),?_,λ_=>rfl,?_⟩
    ·exact (Sm.list (n:=8) (D:=1) (B:=20) (yen oo) (by unfold qbw;rw[length_map,oo.len];exact okt.2.1)).mono
    ·show HP p1=_
     rw[show ordB T (.list (qbw os))=true from ob]
     exact fP
  rintro _ H1' ⟨du,vo,dor,G,rfl,sG,nG,sG1,aG,smO,hvo,fdu⟩
  generalize hxo:(if ordB T dor=true then none else some 2:Option Nat)=xo at fdu
  -- the harms
  obtain ⟨dh,hdh⟩:∃dh,hmL[e40.toNat]?=some dh:=⟨_,getElem?_eq_getElem (by show _<10;omega)⟩
  have nndu:∀b∈[du],H1' b≠none:=λb hb=>by
   rw[mem_singleton.mp hb,fdu]
   intro z
   cases z
  refine lay_setL (L:=[du]) (d:=dh) (yjb (i:=e40) (ds:=hm6++(List.replicate 4 [PyData.list []]).flatten) (ybn (ds:=hm6) (yaz ?_) (qg8 (n:=4) (yaz (yag (yaz qav) qav)) (by decide) (by decide)) (by decide)) (λH6 s6 Q6 k6=>⟨_,rfl,dp,_,_,_,rfl,rfl,sqlO ((sG1.trans s6) _ _ (sG _ _ hdR)),yaq 40 (qep g40),k6⟩) b40 b40' hdh) nndu λvh Hh sh ah=>?_
  ·repeat' (first|exact qer|exact qkz|exact qgv|exact yda|exact qav|refine yag ?_ ?_|refine qcb ?_|refine yaz ?_)
  obtain ⟨hm1,hm2,hm3,hm4,hm5⟩:=hm_get (mem_of_getElem? hdh)
  have sG2:Same G (ybh Hh [du]):=λb u e=>by
   rw[yb4 (λz=>by rw[mem_singleton.mp z,nG]at e;cases e)]
   exact sh _ _ (sG1 _ _ e)
  have nG2:ybh Hh [du] du=none:=if_pos (mem_singleton.mpr rfl)
  have sGh:Same (ybh Hh [du]) Hh:=qa1 _ _
  have fdh:=sh _ _ fdu
  clear sh nndu fdu sG1
  revert ah sG2 nG2 sGh
  generalize ybh Hh [du]=G2
  intro ah sG2 nG2 sGh
  have aG2:=aG.same sG2
  have sRG:=sG.trans sG2
  clear aG sG2 nG sG
  refine ⟨λσ' H'=>σ'=[some (.ref a),some (.int i),some (.int c),some (.ref dp),some (.ref t),some (.ref O),some (.ref R),some (.ref du),some (.ref t),some vo,some vh,o11,o12,o13]/\Same G2 H'/\H' du=some (.lst [dv xo,dv (if (yar dh).isSome=true then some 1 else xo)]),?_,?_⟩
  ·refine ⟨_,rfl,zero_le _,λem nem=>?_⟩
   have sM:=(smR Hh).upd (o:=.lst []) nem
   have sM2:=sGh.trans sM
   refine ⟨dh,.list [],ah.same sM2,.lst yaa .nil,hm4,rfl,hm5,_,rfl,?_⟩
   rw[hm1]
   by_cases hb:(yar dh).isSome=true
   ·refine iteB hb ?_
    refine ⟨_,rfl,du,_,1,1,rfl,rfl,sM _ _ fdh,rfl,rfl,sM2.at nG2,?_⟩
    rw[yaa,if_pos hb]
    rfl
   ·refine iteN (by simpa using hb) ?_
    refine ⟨rfl,sM2,?_⟩
    rw[if_neg hb]
    exact sM _ _ fdh
  rintro _ H2' ⟨rfl,s2',f2'⟩
  clear fdh sGh nG2
  -- the test
  refine ⟨λσ' H'=>∃(du:Addr) (vt:V) (dt:PyData),σ'=[some (.ref a),some (.int i),some (.int c),some (.ref dp),some (.ref t),some (.ref O),some (.ref R),some (.ref du),some vt,some vo,some vh,o11,o12,o13]/\Same G2 H'/\At H' vt dt/\Sm 6 8000 dt/\(ya0 dt=none->dt=qci T)/\H' du=some (.lst [dv (qcl 0 T dt dor dh),dv (qcl 1 T dt dor dh)]),?_,?_⟩
  ·refine ⟨_,rfl,dp,_,_,_,rfl,rfl,sqlO (s2' _ _ (sRG _ _ hdR)),yaq 33 (qep g33),rfl,_,rfl,?_⟩
   by_cases h2:e33=2
   ·refine iteB (by simp[h2]) ?_
    refine ⟨_,rfl,_,rfl,37,rfl,dp,_,rfl,sqlO (s2' _ _ (sRG _ _ hdR)),λq2 nq2=>?_⟩
    rw[show (37:Int)=((37:Nat):Int) from rfl,qec,<-map_drop]
    have sQ:=(smR H2').upd (o:=.lst ((ds.drop 37).map V.int)) nq2
    have sPQ:=s2'.trans sQ
    refine ⟨t,q2,T,_,rfl,htR.same (sRG.trans sPQ),okt,yaa,by rw[length_drop];omega,λv d G sG aG tb sm=>gn ?_⟩
    refine ⟨zl,λp2 np2=>gn ⟨p2,v,d,rfl,(sPQ.trans sG).upd np2,aG.same ((smR G).upd np2),sm,λh=>(by rw[h]at tb;cases tb),?_⟩⟩
    have e:∀w,qcl w T d dor dh=some 0:=λw=>by unfold qcl;rw[if_pos tb]
    rw[e,e]
    exact yaa
   ·refine iteN (by simp[h2]) ?_
    have tn:=yh7 okt
    refine ⟨du,.ref t,qci T,rfl,s2',htR.same (sRG.trans s2'),test_sm okt,λ_=>rfl,?_⟩
    have e0:qcl 0 T (qci T) dor dh=xo:=by
     unfold qcl
     rw[tn,if_neg (by simp),if_neg (by simp),<-hxo]
     cases ordB T dor<;>rfl
    have e1:qcl 1 T (qci T) dor dh=if (yar dh).isSome=true then some 1 else xo:=by
     unfold qcl
     rw[tn,if_neg (by simp)]
     by_cases hb:(yar dh).isSome=true
     ·rw[if_pos ⟨rfl,hb⟩,if_pos hb]
     ·rw[if_neg (λz=>hb z.2),if_neg hb,<-hxo]
      cases ordB T dor<;>rfl
    rw[e0,e1]
    exact f2'
  rintro _ H3' ⟨du,vt,dt,rfl,s3',at3,smT,tg,f3'⟩
  clear f2' s2'
  have ao3:=aG2.same s3'
  have ah3:=ah.same s3'
  have eR3:=s3' _ _ (sRG _ _ eR)
  have eO3:=s3' _ _ (sRG _ _ eOR)
  have sR3:=sR4.trans (sRG.trans s3')
  have hhg:yar dh=none->∃L,vh=.ref L/\H3' L=some (.lst []):=λhn=>by
   rw[hm2 hn]at ah3
   obtain ⟨l,w,rfl,hl,hw⟩:=ah3.lstEq
   cases hw
   exact ⟨l,rfl,hl⟩
  clear htR hdR eOR sR4 eR aG2 ah sRG s3' np1 sP fP
  have ask:Ask3 H3' vt vo R dt dor T os [0,1]:=⟨.inl at3,λh=>⟨tg h,okt⟩,.inl ao3,λh=>⟨O,hvo h,eO3,oo⟩,by rw[hrs];exact eR3,qls,rfl⟩
  obtain ⟨r1,r2,r3⟩:=(Sm.list (n:=4) (D:=6) (B:=8000) (xs:=[dt,dor,.list (rs.map PyData.int),dh]) (λy hy=>by
   simp only[mem_cons,not_mem_nil,or_false]at hy
   rcases hy with rfl|rfl|rfl|rfl
   ·exact smT
   ·exact smO
   ·exact bits_sm rbt (by omega)
   ·exact hm3) (by simp)).shown
  have hrp:∀{H6:Hp}{p:Addr},Same H3' H6->H6 p=some (.lst [vt,vo,.ref R,vh])->At H6 (.ref p) (.list [dt,dor,.list (rs.map PyData.int),dh]):=λs e=>.lst e (.cons (at3.same s) (.cons (ao3.same s) (.cons (.lst (s _ _ eR3) (ymg rs)) (.cons (ah3.same s) .nil))))
  generalize hkp:(PyData.list [dt,dor,.list (rs.map PyData.int),dh]).shown=kp at r3
  have z4:4<=sizeLine:=by decide
  refine ⟨_,rfl,_,rfl,_,rfl,_,rfl,z4,λkl nkl=>?_⟩
  have sK:=(smR H3').upd (o:=.lst [vt,vo,.ref R,vh]) nkl
  have fK:upd H3' kl (.lst [vt,vo,.ref R,vh]) kl=some (.lst [vt,vo,.ref R,vh]):=yaa
  revert sK fK
  generalize upd H3' kl (.lst [vt,vo,.ref R,vh])=HK
  intro sK fK
  refine ⟨_,_,rfl,hrp sK fK,r1,r2,by rw[hkp];exact r3,gn ?_⟩
  rw[hkp]
  dsimp only
  refine ⟨2,rfl,by decide,by decide,ycl (n:=2) (λj σ' H'=>∃(o12 o13:Option V),σ'=[some (.ref a),some (.int i),some (.int c),some (.ref dp),some (.ref t),some (.ref O),some (.ref R),some (.ref du),some vt,some vo,some vh,some (.str kp),o12,o13]/\Same H3' H') ⟨_,_,rfl,sK⟩ ?_ ?_⟩
  ·rintro j σ' H6 hj ⟨o12,o13,rfl,s6⟩
   rw[zero_add]
   refine gn ?_
   dsimp only
   have fdj:(∃v,[dv (qcl 0 T dt dor dh),dv (qcl 1 T dt dor dh)][j]?=some v/\v=dv (qcl j T dt dor dh)):=by
    have:j=0\/j=1:=by omega
    rcases this with rfl|rfl<;>exact ⟨_,rfl,rfl⟩
   obtain ⟨_,fdj,rfl⟩:=fdj
   refine ⟨_,rfl,_,rfl,_,rfl,_,rfl,_,rfl,j,vt,vo,vh,R,dt,dor,dh,T,os,[0,1],rfl,hj,ask.same s6,.inl (ah3.same s6),(λhn=>by
    obtain ⟨l,e,hl⟩:=hhg hn
    exact ⟨l,e,s6 _ _ hl⟩),λm hm H7 s7=>gn ?_,λhm D xs H7 s7 eD hD0=>gn ?_⟩
   ·dsimp only
    rw[hm]at fdj
    have s67:=s6.trans s7
    refine ⟨_,rfl,_,rfl,du,_,_,_,rfl,rfl,sqlO (s67 _ _ f3'),qbj fdj,_,rfl,iteF ?_⟩
    refine ⟨_,rfl,_,rfl,_,rfl,du,_,_,_,rfl,rfl,sqlO (s67 _ _ f3'),qbj fdj,rfl,_,rfl,iteN (by simp[dv]) ⟨_,_,rfl,s67⟩⟩
   ·dsimp only
    rw[hm]at fdj
    have s67:=s6.trans s7
    refine ⟨_,rfl,_,rfl,du,_,_,_,rfl,rfl,sqlO (s67 _ _ f3'),qbj fdj,_,rfl,iteT ?_⟩
    refine ⟨_,rfl,rfl,_,rfl,?_⟩
    have:j=0\/j=1:=by omega
    rcases this with rfl|rfl
    ·obtain ⟨e,rfl,ee⟩:=hD0 rfl
     refine iteB rfl ⟨_,rfl,zero_le _,λm1 nm1=>?_⟩
     have sM:=(smR H7).upd (o:=.lst []) nm1
     have fM:=@yaa H7 m1 (.lst [])
     revert sM fM
     generalize upd H7 m1 _=HM
     intro sM fM
     refine ⟨z1,λm2 nm2=>?_⟩
     have sN:=(smR HM).upd (o:=.lst [V.ref m1]) nm2
     have sMN:=sM.trans sN
     refine ⟨.list [.list []],.list [.list []],.lst (sMN _ _ eD) (.cons (.lst (sMN _ _ ee) .nil) .nil),.lst yaa (.cons (.lst (sN _ _ fM) .nil) .nil),rfl,rfl,by decide,_,rfl,?_⟩
     rw[show (!PyData.eqv (.list [.list []]) (.list [.list []]))=false by decide +kernel]
     refine iteF ⟨_,rfl,rfl,_,rfl,iteN rfl (iteF ⟨_,_,rfl,s67.trans sMN⟩)⟩
    ·refine iteN rfl (iteF ⟨_,rfl,rfl,_,rfl,iteB rfl ⟨_,rfl,?_⟩⟩)
     exact ⟨_,_,_,true,rfl,.lst eD,rfl,_,rfl,iteF ⟨_,_,rfl,s67⟩⟩
  ·rintro σ' H6 ⟨o12,o13,rfl,s6⟩
   dsimp only
   refine ⟨_,rfl,_,rfl,_,rfl,_,rfl,z4,λkl2 nkl2=>?_⟩
   have sK2:=(smR H6).upd (o:=.lst [vt,vo,.ref R,vh]) nkl2
   have s6K:=s6.trans sK2
   refine ⟨_,_,rfl,hrp s6K yaa,r1,r2,by rw[hkp];exact r3,?_⟩
   rw[hkp]
   exact ⟨_,rfl,rfl,_,rfl,iteN (by simp) ⟨_,_,_,_,_,_,_,_,_,_,_,_,_,rfl,sR3.trans s6K⟩⟩
theorem qb6{K:W.Frag}{v x:Value}{xs:List Value}(h:W.kitOne K v x=some false):W.kitAny K v (x::xs)=W.kitAny K v xs:=by
 show (match W.kitOne K v x with|some true=>some true|some false=>W.kitAny K v xs|none=>none)=_
 rw[h]
theorem kit5{K:W.Frag}{C a b c d e:Addr}(h1:W.kitOne K (.ref C) (.ref a)=some false)(h2:W.kitOne K (.ref C) (.ref b)=some false)(h3:W.kitOne K (.ref C) (.ref c)=some false)(h4:W.kitOne K (.ref C) (.ref d)=some false)(h5:W.kitOne K (.ref C) (.ref e)=some false):W.kitAny K (.ref C) ([a,b,c,d,e].map Value.ref)=some false:=
 (qb6 h1).trans ((qb6 h2).trans ((qb6 h3).trans ((qb6 h4).trans (qb6 h5))))
theorem qj4(F:FnAt K mg "renamed" qfj ["harm","names"]):Has P w K mg base 1 "renamed" ["harm","names"] λ_ _ _ _=>False:=qjt F yj5
theorem qiy(F:FnAt K mg "harms_on" yeq ["word","cells"]):Has P w K mg base 1 "harms_on" ["word","cells"] λ_ _ _ _=>False:=qjt F yir
abbrev ydj:Stmt:=ybz (top 5) 0
theorem yic:FnScope ["self","number"] ["self","number"] (qac ydj):=fsc
theorem qk3{f C:Addr}{fd:FuncData}(F:Fun K "__init__" "NoHarms.__init__" ydj f fd)(c:XOk K C)(n1:NoF K C "number"):FnOk P w K mg base CX0 1 f fd ["self","number"] (sp_x1 C "number"):=by
 refine F.ok yic (λvs H Q E h=>?_) (λcdv A outer s H vs Q E hr h=>?_)
 ·obtain ⟨a,v,rfl,_⟩:=h
  rfl
 ·obtain ⟨a,v,rfl,hx,k⟩:=h
  have sc:=yic
  refine ⟨_,(qax (qi6 (pv 0) (pv 1))),?_⟩
  exact ⟨_,rfl,_,rfl,a,C,none,[],rfl,hx,c,n1,by decide,λd H1 x1 s1=>k d H1 x1 s1⟩
abbrev qeh:Stmt:=ybz (top 3) 0
theorem qj0:FnScope ["self","element","step"] ["self","element","step"] (qac qeh):=fsc
theorem ok_iTest{f C:Addr}{fd:FuncData}(F:Fun K "__init__" "NoTest.__init__" qeh f fd)(c:XOk K C)(n1:NoF K C "element")(n2:NoF K C "step"):FnOk P w K mg base CX0 1 f fd ["self","element","step"] (sp_x2 C "element" "step"):=by
 refine F.ok qj0 (λvs H Q E h=>?_) (λcdv A outer s H vs Q E hr h=>?_)
 ·obtain ⟨a,v,u,rfl,_⟩:=h
  rfl
 ·obtain ⟨a,v,u,rfl,hx,k⟩:=h
  have sc:=qj0
  refine ⟨_,(ya5 (qi6 (pv 0) (pv 1)) (qax (qi6 (pv 0) (pv 2)))),?_⟩
  refine ⟨_,rfl,_,rfl,a,C,none,[],rfl,hx,c,n1,by decide,λd H1 x1 s1=>?_⟩
  refine ⟨_,rfl,_,rfl,a,C,some d,_,rfl,x1,c,n2,by show 1<100;decide,λd2 H2 x2 s2=>?_⟩
  obtain ⟨e,s3⟩:=s1.then2 s2
  subst e
  exact k _ H2 x2 s3
end
end Mh
namespace Mh
open PySem L2 PyProof.Rows
open Mx
theorem ydq{K:W.Frag}{a:Addr}{xs:List V}{od:Option Addr}{its:Array Value}{n:Nat}{sl:Array (Option Value)}(h2:K.lookup a=some ⟨.type "tuple",od,.seq its n,sl⟩)(z:its.size<=sizeLine)(r:Vals xs its.toList):∀H,SqT K H a xs:=
 λH=>.inr ⟨_,its,n,h2,rfl,rfl,z,r⟩
def xcO(o:Obj)(C:Addr):Option (List Value):=match o with
 |⟨.type "type",_,.cls cd,sl⟩=>(match cd.mro,sl.toList with
  |.ref D::bm,[_,_,_,_,some (.builtin n),_]=>if (D == C&&n == "ValueError.__new__" && !cd.hasDel&&cd.hasDict)=true then some bm else none
  |_,_=>none)
 |_=>none
theorem yku{o:Obj}{C:Addr}{bm:List Value}(q:xcO o C=some bm):∃od cd sl k0 k1 k2 k3 k5,o=⟨.type "type",od,.cls cd,sl⟩/\cd.mro=.ref C::bm/\sl.toList=[k0,k1,k2,k3,some (.builtin "ValueError.__new__"),k5]/\cd.hasDel=false/\cd.hasDict=true:=by
 unfold xcO at q
 split at q
 ·rename_i od cd sl
  split at q
  ·rename_i D bm' n k0 k1 k2 k3 n' k5 h1 h2
   split at q
   ·rename_i h3
    cases q
    simp only[Bool.and_eq_true,beq_iff_eq,Bool.not_eq_true']at h3
    obtain ⟨⟨⟨rfl,rfl⟩,h5⟩,h6⟩:=h3
    exact ⟨od,cd,sl,_,_,_,_,_,rfl,h1,h2,h5,h6⟩
   ·cases q
  ·cases q
 ·cases q
theorem yil{K:W.Frag}{o:Obj}{C:Addr}{bm:List Value}(l:K.lookup C=some o)(q:xcO o C=some bm)(e:W.excIn K C bmV "ValueError.__new__"=true):W.tailIn K bmV bm=true:=by
 obtain ⟨od,cd,sl,k0,k1,k2,k3,k5,rfl,h1,h2,h5,h6⟩:=yku q
 unfold W.excIn at e
 rw[l]at e
 simp only[h1,h2,Bool.and_eq_true]at e
 exact e.1.1.2
theorem xclsB_of{K:W.Frag}{o:Obj}{C:Addr}{bm:List Value}(l:K.lookup C=some o)(q:xcO o C=some bm)(t:W.tailIn K bmV bm=true):ye0 K C=true:=by
 obtain ⟨od,cd,sl,k0,k1,k2,k3,k5,rfl,h1,h2,h5,h6⟩:=yku q
 unfold ye0
 rw[l]
 simp only[h1,h2,h5,h6,t]
 simp
theorem qlu{K:W.Frag}{o:Obj}{C:Addr}{bm:List Value}(l:K.lookup C=some o)(q:xcO o C=some bm)(t:W.tailIn K bmV bm=true)(ga:W.findIn K (.ref C) "__getattribute__"=some (some (.builtin "BaseException.__getattribute__")))(gh:W.findIn K (.ref C) "__getattr__"=some none)
  (ha:W.findIn K (.ref C) "__class__"=some (some (.builtin "object.__class__"))) (hn:W.specialIn K (.builtin "object.__class__") "__get__"=some (some (.builtin "getset_descriptor.__get__"))) (tk:W.takesIn K (.builtin "object.__class__")=some true) (hm:W.mroIn K C (.type "object")=some true)
  (sa:W.findIn K (.ref C) "__setattr__"=some (some (.builtin "object.__setattr__"))):XOk K C:=by
 refine ⟨⟨xclsB_of l q t,ga,gh,?_,ha,hn,tk,hm⟩,sa⟩
 obtain ⟨od,cd,sl,k0,k1,k2,k3,k5,rfl,h1,h2,h5,h6⟩:=yku q
 unfold W.clsIn
 rw[l]
 rfl
theorem fnAt_mk{K:W.Frag}{h:Heap}{mg:Str->Option Value}{x:Str}{st:Stmt}{ps:List Str}{f:Addr}{oc:Value}{od an:Option Addr}{osl:Array (Option Value)}{kV doc pm cdv ct:Value}(X:K.In h)(G:h.Ns mainGlobals mg)
  (a:W.nsIn K mainGlobals x=some (some (.ref f))) (l:K.lookup f=some ⟨oc,od,.func (W.fnOf x x (yav st) (qar st) (qac st) .none kV doc pm an cdv ct),osl⟩) (c:W.codeIn K cdv x=true) (k:W.keepIn K (.ref f)=true)
  (hb:∀(kV doc pm:Value) (an:Option Addr) (cdv ct:Value) (us:List Value),us.length=ps.length->bindArgs (W.fnOf x x (yav st) (qar st) (qac st) .none kV doc pm an cdv ct) ⟨us,[]⟩=pure (ps.zip us)):FnAt K mg x st ps:=by
 have F:=qba (st:=st) l c k
 exact ⟨f,_,W.mg_of X G a,F,F.binds hb⟩
def FnP(K:W.Frag)(x:Str)(st:Stmt):Prop:=∃(f:Addr) (oc:Value) (od an:Option Addr) (sl:Array (Option Value)) (kV dc pm cd ct:Value),W.nsIn K mainGlobals x=some (some (.ref f))/\K.lookup f=some ⟨oc,od,.func (W.fnOf x x (yav st) (qar st) (qac st) .none kV dc pm an cd ct),sl⟩/\W.codeIn K cd x=true/\W.keepIn K (.ref f)=true
theorem FnP.at{K:W.Frag}{h:Heap}{mg:Str->Option Value}{x:Str}{st:Stmt}{ps:List Str}(p:FnP K x st)(X:K.In h)(G:h.Ns mainGlobals mg)
  (hb:∀(kV doc pm:Value) (an:Option Addr) (cdv ct:Value) (us:List Value),us.length=ps.length->bindArgs (W.fnOf x x (yav st) (qar st) (qac st) .none kV doc pm an cdv ct) ⟨us,[]⟩=pure (ps.zip us)):FnAt K mg x st ps:=by
 obtain ⟨f,oc,od,an,sl,kV,dc,pm,cd,ct,a,l,c,k⟩:=p
 exact fnAt_mk X G a l c k hb
theorem FnP.a1{K:W.Frag}{h:Heap}{mg:Str->Option Value}{x:Str}{st:Stmt}{a0:Str}(p:FnP K x st)(X:K.In h)(G:h.Ns mainGlobals mg)
  (hb:∀(kV doc pm:Value) (an:Option Addr) (cdv ct u0:Value),bindArgs (W.fnOf x x (yav st) (qar st) (qac st) .none kV doc pm an cdv ct) ⟨[u0],[]⟩=pure ([a0].zip [u0]):=by intros;rfl):FnAt K mg x st [a0]:=p.at X G λ_ _ _ _ _ _=>lenS λ_=>len0 (hb ..)
theorem FnP.a2{K:W.Frag}{h:Heap}{mg:Str->Option Value}{x:Str}{st:Stmt}{a0 a1:Str}(p:FnP K x st)(X:K.In h)(G:h.Ns mainGlobals mg)
  (hb:∀(kV doc pm:Value) (an:Option Addr) (cdv ct u0 u1:Value),bindArgs (W.fnOf x x (yav st) (qar st) (qac st) .none kV doc pm an cdv ct) ⟨[u0,u1],[]⟩=pure ([a0,a1].zip [u0,u1]):=by intros;rfl):FnAt K mg x st [a0,a1]:=p.at X G λ_ _ _ _ _ _=>lenS λ_=>lenS λ_=>len0 (hb ..)
theorem FnP.a3{K:W.Frag}{h:Heap}{mg:Str->Option Value}{x:Str}{st:Stmt}{a0 a1 a2:Str}(p:FnP K x st)(X:K.In h)(G:h.Ns mainGlobals mg)
  (hb:∀(kV doc pm:Value) (an:Option Addr) (cdv ct u0 u1 u2:Value),bindArgs (W.fnOf x x (yav st) (qar st) (qac st) .none kV doc pm an cdv ct) ⟨[u0,u1,u2],[]⟩=pure ([a0,a1,a2].zip [u0,u1,u2]):=by intros;rfl):FnAt K mg x st [a0,a1,a2]:=p.at X G λ_ _ _ _ _ _=>lenS λ_=>lenS λ_=>lenS λ_=>len0 (hb ..)
theorem FnP.a4{K:W.Frag}{h:Heap}{mg:Str->Option Value}{x:Str}{st:Stmt}{a0 a1 a2 a3:Str}(p:FnP K x st)(X:K.In h)(G:h.Ns mainGlobals mg)
  (hb:∀(kV doc pm:Value) (an:Option Addr) (cdv ct u0 u1 u2 u3:Value),bindArgs (W.fnOf x x (yav st) (qar st) (qac st) .none kV doc pm an cdv ct) ⟨[u0,u1,u2,u3],[]⟩=pure ([a0,a1,a2,a3].zip [u0,u1,u2,u3]):=by intros;rfl):FnAt K mg x st [a0,a1,a2,a3]:=p.at X G λ_ _ _ _ _ _=>lenS λ_=>lenS λ_=>lenS λ_=>lenS λ_=>len0 (hb ..)
theorem FnP.a5{K:W.Frag}{h:Heap}{mg:Str->Option Value}{x:Str}{st:Stmt}{a0 a1 a2 a3 a4:Str}(p:FnP K x st)(X:K.In h)(G:h.Ns mainGlobals mg)
  (hb:∀(kV doc pm:Value) (an:Option Addr) (cdv ct u0 u1 u2 u3 u4:Value),bindArgs (W.fnOf x x (yav st) (qar st) (qac st) .none kV doc pm an cdv ct) ⟨[u0,u1,u2,u3,u4],[]⟩=pure ([a0,a1,a2,a3,a4].zip [u0,u1,u2,u3,u4]):=by intros;rfl):FnAt K mg x st [a0,a1,a2,a3,a4]:=p.at X G λ_ _ _ _ _ _=>lenS λ_=>lenS λ_=>lenS λ_=>lenS λ_=>lenS λ_=>len0 (hb ..)
set_option maxHeartbeats 0 in
theorem all_mk{l:W.OpenLaw}{w:World}{K:W.Frag}{h:Heap}{mg:Str->Option Value}{fa:Addr}(X:K.In h)(G:h.Ns mainGlobals mg)(hfa:mg "law"=some (.ref fa))
  (p0:FnP K "is_whole" ycq)
  (p1:FnP K "is_bit" yd9)
  (p2:FnP K "is_one_of" yd0)
  (p3:FnP K "is_cell" yfj)
  (p4:FnP K "is_part" yfp)
  (p5:FnP K "has_word" yed)
  (p6:FnP K "cells_in" qcp)
  (p7:FnP K "has_parts" qdu)
  (p8:FnP K "is_harm" yfe)
  (p9:FnP K "look_at_harms" qb9)
  (p10:FnP K "cells_of" yee)
  (p11:FnP K "stuck_bit" qd0)
  (p12:FnP K "put" s_put)
  (p13:FnP K "settle" qhe)
  (p14:FnP K "harm_of_address" qbr)
  (p15:FnP K "reached_cells" qb8)
  (p16:FnP K "read_cell" ydz)
  (p17:FnP K "read_at" qf1)
  (p18:FnP K "is_slow" qfo)
  (p19:FnP K "kept_bit" qed)
  (p20:FnP K "act_on_others" yb7)
  (p21:FnP K "write_cell" qdf)
  (p22:FnP K "write_at" yec)
  (p23:FnP K "is_size" qf3)
  (p24:FnP K "are_contents" qck)
  (p25:FnP K "look_at_memory" yb0)
  (p26:FnP K "look_at_bit" ycw)
  (p27:FnP K "is_pair" qf4)
  (p28:FnP K "is_filled" ydy)
  (p29:FnP K "is_step" qff)
  (p30:FnP K "is_framed" ydw)
  (p31:FnP K "look_at_element" ybq)
  (p32:FnP K "look_at_test" ycg)
  (p33:FnP K "is_order_for" qcg)
  (p34:FnP K "are_orders" qc9)
  (p35:FnP K "look_at_orders" qbz)
  (p36:FnP K "renamed" qfj)
  (p37:FnP K "placed" qg7)
  (p38:FnP K "little" qg6)
  (p39:FnP K "harms_on" yeq)
  (p40:FnP K "deeds" yit)
  (p41:FnP K "all_contents" qch)
  (p42:FnP K "stepped" qfq)
  (p43:FnP K "all_reads" qdv)
  (p44:FnP K "reads_of" yer)
  (p45:FnP K "deeds_heard" qcx)
  (p46:FnP K "contents_at" qcz)
  (p47:FnP K "sound_contents" qb0)
  (p48:FnP K "fits" qk8)
  (p49:FnP K "fitting" qfs)
  (p50:FnP K "contents_for" qcf)
  (p51:FnP K "_law_digits" ycy)
  (p52:FnP K "_law_test" qdy)
  (p53:FnP K "_law_orders" qc1)
  (p54:FnP K "_law_bad_orders" ybt)
  (p55:FnP K "_law_bad_test" qb5)
  (p56:FnP K "_law_told" qdz)
  {f57:Addr}{od57 an57:Option Addr}{sl57:Array (Option Value)}{oc57 kV57 dc57 pm57 cd57 ct57:Value}
  (a57:W.nsIn K mainGlobals "law"=some (some (.ref f57)))
  (l57:K.lookup f57=some ⟨oc57,od57,.func (W.fnOf "law" "law" (yav qg1) (qar qg1) (qac qg1) .none kV57 dc57 pm57 an57 cd57 ct57),sl57⟩)
  (c57:W.codeIn K cd57 "law"=true)
  (k57:W.keepIn K (.ref f57)=true)
  (zz:∀x∈ygr,W.nsIn K mainGlobals x=some none)
  {R0:Addr}
  (RA0:W.nsIn K mainGlobals "NoTest"=some (some (.ref R0)))
  {R1:Addr}
  (RA1:W.nsIn K mainGlobals "NoText"=some (some (.ref R1)))
  {R2:Addr}
  (RA2:W.nsIn K mainGlobals "NoHarms"=some (some (.ref R2)))
  {R3:Addr}
  (RA3:W.nsIn K mainGlobals "NoMemory"=some (some (.ref R3)))
  {R6:Addr}
  (RA6:W.nsIn K mainGlobals "NoOrders"=some (some (.ref R6)))
  {R7:Addr}
  (RA7:W.nsIn K mainGlobals "NotSure"=some (some (.ref R7)))
  {R8:Addr}
  (RA8:W.nsIn K mainGlobals "NoKind"=some (some (.ref R8)))
  {R12:Addr}
  (RA12:W.nsIn K mainGlobals "TooMany"=some (some (.ref R12)))
  {RM:Addr}
  (RM_:W.nsIn K mainGlobals "MarchError"=some (some (.ref RM)))
  {Ro0:Obj}{Rbm:List Value}
  (Rlk0:K.lookup R0=some Ro0)
  (Rq0:xcO Ro0 R0=some Rbm)
  {Ro2:Obj}
  (Rlk2:K.lookup R2=some Ro2)
  (Rq2:xcO Ro2 R2=some Rbm)
  {Ro6:Obj}
  (Rlk6:K.lookup R6=some Ro6)
  (Rq6:xcO Ro6 R6=some Rbm)
  (Rex6:W.excIn K R6 bmV "ValueError.__new__"=true)
  (Rkp0:W.keepIn K (.ref R0)=true)
  (Rga0:W.findIn K (.ref R0) "__getattribute__"=some (some (.builtin "BaseException.__getattribute__")))
  (Rgh0:W.findIn K (.ref R0) "__getattr__"=some none)
  (Rha0:W.findIn K (.ref R0) "__class__"=some (some (.builtin "object.__class__")))
  (Rhm0:W.mroIn K R0 (.type "object")=some true)
  (Rsa0:W.findIn K (.ref R0) "__setattr__"=some (some (.builtin "object.__setattr__")))
  (Ro0_0:W.kitOne K (.ref R0) (.ref R0)=some true)
  (Ro1_0:W.kitOne K (.ref R0) (.ref R1)=some false)
  (Ro2_0:W.kitOne K (.ref R0) (.ref R2)=some false)
  (Ro3_0:W.kitOne K (.ref R0) (.ref R3)=some false)
  (Ro6_0:W.kitOne K (.ref R0) (.ref R6)=some false)
  (Ro7_0:W.kitOne K (.ref R0) (.ref R7)=some false)
  (Ro8_0:W.kitOne K (.ref R0) (.ref R8)=some false)
  (Ro12_0:W.kitOne K (.ref R0) (.ref R12)=some false)
  (Rve0:W.kitOne K (.ref R0) (.type "ValueError")=some true)
  (Rem0:W.exmOne K (.ref R0) (.ref RM)=some true)
  (Rn0_0:W.findIn K (.ref R0) "element"=some none)
  (Rn0_1:W.findIn K (.ref R0) "step"=some none)
  {fI0:Addr}{odI0 anI0:Option Addr}{slI0:Array (Option Value)}{ocI0 kVI0 dcI0 pmI0 cdI0 ctI0:Value}
  (Rhi0:W.findIn K (.ref R0) "__init__"=some (some (.ref fI0)))
  (Rhf0:W.isFn K (.ref fI0)=true)
  (RlI0:K.lookup fI0=some ⟨ocI0,odI0,.func (W.fnOf "__init__" "NoTest.__init__" (yav qeh) (qar qeh) (qac qeh) .none kVI0 dcI0 pmI0 anI0 cdI0 ctI0),slI0⟩)
  (RcI0:W.codeIn K cdI0 "NoTest.__init__"=true)
  (RkI0:W.keepIn K (.ref fI0)=true)
  (Rkp2:W.keepIn K (.ref R2)=true)
  (Rga2:W.findIn K (.ref R2) "__getattribute__"=some (some (.builtin "BaseException.__getattribute__")))
  (Rgh2:W.findIn K (.ref R2) "__getattr__"=some none)
  (Rha2:W.findIn K (.ref R2) "__class__"=some (some (.builtin "object.__class__")))
  (Rhm2:W.mroIn K R2 (.type "object")=some true)
  (Rsa2:W.findIn K (.ref R2) "__setattr__"=some (some (.builtin "object.__setattr__")))
  (Ro0_2:W.kitOne K (.ref R2) (.ref R0)=some false)
  (Ro1_2:W.kitOne K (.ref R2) (.ref R1)=some false)
  (Ro2_2:W.kitOne K (.ref R2) (.ref R2)=some true)
  (Ro3_2:W.kitOne K (.ref R2) (.ref R3)=some false)
  (Ro6_2:W.kitOne K (.ref R2) (.ref R6)=some false)
  (Ro7_2:W.kitOne K (.ref R2) (.ref R7)=some false)
  (Ro8_2:W.kitOne K (.ref R2) (.ref R8)=some false)
  (Ro12_2:W.kitOne K (.ref R2) (.ref R12)=some false)
  (Rve2:W.kitOne K (.ref R2) (.type "ValueError")=some true)
  (Rem2:W.exmOne K (.ref R2) (.ref RM)=some true)
  (Rn2_0:W.findIn K (.ref R2) "number"=some none)
  {fI2:Addr}{odI2 anI2:Option Addr}{slI2:Array (Option Value)}{ocI2 kVI2 dcI2 pmI2 cdI2 ctI2:Value}
  (Rhi2:W.findIn K (.ref R2) "__init__"=some (some (.ref fI2)))
  (Rhf2:W.isFn K (.ref fI2)=true)
  (RlI2:K.lookup fI2=some ⟨ocI2,odI2,.func (W.fnOf "__init__" "NoHarms.__init__" (yav ydj) (qar ydj) (qac ydj) .none kVI2 dcI2 pmI2 anI2 cdI2 ctI2),slI2⟩)
  (RcI2:W.codeIn K cdI2 "NoHarms.__init__"=true)
  (RkI2:W.keepIn K (.ref fI2)=true)
  (Rkp6:W.keepIn K (.ref R6)=true)
  (Rga6:W.findIn K (.ref R6) "__getattribute__"=some (some (.builtin "BaseException.__getattribute__")))
  (Rgh6:W.findIn K (.ref R6) "__getattr__"=some none)
  (Rha6:W.findIn K (.ref R6) "__class__"=some (some (.builtin "object.__class__")))
  (Rhm6:W.mroIn K R6 (.type "object")=some true)
  (Rsa6:W.findIn K (.ref R6) "__setattr__"=some (some (.builtin "object.__setattr__")))
  (Ro0_6:W.kitOne K (.ref R6) (.ref R0)=some false)
  (Ro1_6:W.kitOne K (.ref R6) (.ref R1)=some false)
  (Ro2_6:W.kitOne K (.ref R6) (.ref R2)=some false)
  (Ro3_6:W.kitOne K (.ref R6) (.ref R3)=some false)
  (Ro6_6:W.kitOne K (.ref R6) (.ref R6)=some true)
  (Ro7_6:W.kitOne K (.ref R6) (.ref R7)=some false)
  (Ro8_6:W.kitOne K (.ref R6) (.ref R8)=some false)
  (Ro12_6:W.kitOne K (.ref R6) (.ref R12)=some false)
  (Rve6:W.kitOne K (.ref R6) (.type "ValueError")=some true)
  (Rem6:W.exmOne K (.ref R6) (.ref RM)=some true)
  (Rhn:W.specialIn K (.builtin "object.__class__") "__get__"=some (some (.builtin "getset_descriptor.__get__")))
  (Rtk:W.takesIn K (.builtin "object.__class__")=some true)
  (RzV:W.nsIn K mainGlobals "ValueError"=some none)
  (zset:W.nsIn K mainGlobals "set"=some none)
  (zzip:W.nsIn K mainGlobals "zip"=some none)
  (zall:W.nsIn K mainGlobals "all"=some none)
  {w1 w2 w3:Tok}
  (aMC:W.nsIn K mainGlobals "MOST_CELLS"=some (some (.int 64 w1)))
  (aMH:W.nsIn K mainGlobals "MOST_HARMS"=some (some (.int 3 w2)))
  (aMU:W.nsIn K mainGlobals "MOST_UNLIKE"=some (some (.int 3 w3)))
  {tJ:Addr}{uj1 uj2:Tok}{odJ:Option Addr}{nJ:Nat}{slJ:Array (Option Value)}
  (aJ:W.nsIn K mainGlobals "JOININGS"=some (some (.ref tJ)))
  (lJ:K.lookup tJ=some ⟨.type "tuple",odJ,.seq #[.str "and" uj1,.str "or" uj2] nJ,slJ⟩)
  {tP qp0 qp1 qp2 qp3 qp4 qp5 qp6 qp7 qp8 qp9:Addr}{xp0 xp1 xp2 xp3 xp4 xp5 xp6 xp7 xp8 xp9:Int}{kp0 kp1 kp2 kp3 kp4 kp5 kp6 kp7 kp8 kp9:Tok}{epP:Nat}
  (aP:W.nsIn K mainGlobals "PARTS"=some (some (.ref tP)))
  (lP:K.lookup tP=some ⟨.type "dict",none,.dict #[⟨xp0,.str "stuck" kp0,.ref qp0⟩,⟨xp1,.str "slow" kp1,.ref qp1⟩,⟨xp2,.str "forgets" kp2,.ref qp2⟩,⟨xp3,.str "misreads" kp3,.ref qp3⟩,⟨xp4,.str "turns" kp4,.ref qp4⟩,⟨xp5,.str "sets" kp5,.ref qp5⟩,⟨xp6,.str "keeps" kp6,.ref qp6⟩,⟨xp7,.str "nowhere" kp7,.ref qp7⟩,⟨xp8,.str "other" kp8,.ref qp8⟩,⟨xp9,.str "both" kp9,.ref qp9⟩] epP,#[]⟩)
  (mP:(tP == sysModules)=false)
  {oqp0:Option Addr}{yp0_0 yp0_1:Tok}{mp0:Nat}{sqp0:Array (Option Value)}
  (tp0:K.lookup qp0=some ⟨.type "tuple",oqp0,.seq #[.str "cell" yp0_0,.str "bit" yp0_1] mp0,sqp0⟩)
  {oqp1:Option Addr}{yp1_0 yp1_1:Tok}{mp1:Nat}{sqp1:Array (Option Value)}
  (tp1:K.lookup qp1=some ⟨.type "tuple",oqp1,.seq #[.str "cell" yp1_0,.str "bit" yp1_1] mp1,sqp1⟩)
  {oqp2:Option Addr}{yp2_0 yp2_1:Tok}{mp2:Nat}{sqp2:Array (Option Value)}
  (tp2:K.lookup qp2=some ⟨.type "tuple",oqp2,.seq #[.str "cell" yp2_0,.str "bit" yp2_1] mp2,sqp2⟩)
  {oqp3:Option Addr}{yp3_0 yp3_1:Tok}{mp3:Nat}{sqp3:Array (Option Value)}
  (tp3:K.lookup qp3=some ⟨.type "tuple",oqp3,.seq #[.str "cell" yp3_0,.str "bit" yp3_1] mp3,sqp3⟩)
  {oqp4:Option Addr}{yp4_0 yp4_1 yp4_2:Tok}{mp4:Nat}{sqp4:Array (Option Value)}
  (tp4:K.lookup qp4=some ⟨.type "tuple",oqp4,.seq #[.str "cell" yp4_0,.str "cell" yp4_1,.str "bit" yp4_2] mp4,sqp4⟩)
  {oqp5:Option Addr}{yp5_0 yp5_1 yp5_2 yp5_3:Tok}{mp5:Nat}{sqp5:Array (Option Value)}
  (tp5:K.lookup qp5=some ⟨.type "tuple",oqp5,.seq #[.str "cell" yp5_0,.str "cell" yp5_1,.str "bit" yp5_2,.str "bit" yp5_3] mp5,sqp5⟩)
  {oqp6:Option Addr}{yp6_0 yp6_1 yp6_2 yp6_3:Tok}{mp6:Nat}{sqp6:Array (Option Value)}
  (tp6:K.lookup qp6=some ⟨.type "tuple",oqp6,.seq #[.str "cell" yp6_0,.str "cell" yp6_1,.str "bit" yp6_2,.str "bit" yp6_3] mp6,sqp6⟩)
  {oqp7:Option Addr}{yp7_0 yp7_1:Tok}{mp7:Nat}{sqp7:Array (Option Value)}
  (tp7:K.lookup qp7=some ⟨.type "tuple",oqp7,.seq #[.str "cell" yp7_0,.str "bit" yp7_1] mp7,sqp7⟩)
  {oqp8:Option Addr}{yp8_0 yp8_1:Tok}{mp8:Nat}{sqp8:Array (Option Value)}
  (tp8:K.lookup qp8=some ⟨.type "tuple",oqp8,.seq #[.str "cell" yp8_0,.str "cell" yp8_1] mp8,sqp8⟩)
  {oqp9:Option Addr}{yp9_0 yp9_1 yp9_2:Tok}{mp9:Nat}{sqp9:Array (Option Value)}
  (tp9:K.lookup qp9=some ⟨.type "tuple",oqp9,.seq #[.str "cell" yp9_0,.str "cell" yp9_1,.str "how" yp9_2] mp9,sqp9⟩)
  (zrv:W.nsIn K mainGlobals "reversed"=some none)
  {tO:Addr}{u1 u2 u3:Tok}{odO:Option Addr}{nO:Nat}{slO:Array (Option Value)}
  (aO:W.nsIn K mainGlobals "ORDERS"=some (some (.ref tO)))
  (lO:K.lookup tO=some ⟨.type "tuple",odO,.seq #[.str "up" u1,.str "down" u2,.str "any" u3] nO,slO⟩)
  {tL:Addr}{v1 v2:Tok}{odL:Option Addr}{nL:Nat}{slL:Array (Option Value)}
  (aL:W.nsIn K mainGlobals "LETTERS"=some (some (.ref tL)))
  (lL:K.lookup tL=some ⟨.type "tuple",odL,.seq #[.str "r" v1,.str "w" v2] nL,slL⟩)
  {tK:Addr}{g1 g2:Tok}{odK:Option Addr}{nK:Nat}{slK:Array (Option Value)}
  (aK:W.nsIn K mainGlobals "TAKEN"=some (some (.ref tK)))
  (lK:K.lookup tK=some ⟨.type "tuple",odK,.seq #[.str "up" g1,.str "down" g2] nK,slK⟩)
  {w4 w5:Tok}
  (aT:W.nsIn K mainGlobals "MOST_IN_TEST"=some (some (.int 8 w4)))
  (aE:W.nsIn K mainGlobals "MOST_IN_ELEMENT"=some (some (.int 6 w5)))
  {C0:Addr}
  (ca0:W.nsIn K mainGlobals "Memory"=some (some (.ref C0)))
  (cp0:W.plainGet K C0 Str.empty=true)
  (cd0_:W.hasDictIn K C0=true)
  (co0:W.plainOver K C0=true)
  (cs0:W.findIn K (.ref C0) "__setattr__"=some (some (.builtin "object.__setattr__")))
  (cf0_0:W.findIn K (.ref C0) "harms"=some none)
  (cf0_1:W.findIn K (.ref C0) "cells"=some none)
  (cm0_:W.makesIn K C0=true)
  (ck0:W.keepIn K (.ref C0)=true)
  {fm0_0:Addr}{odm0_0 anm0_0:Option Addr}{slm0_0:Array (Option Value)}{ocm0_0 kVm0_0 dcm0_0 pmm0_0 cdm0_0 ctm0_0:Value}
  (am0_0:W.findIn K (.ref C0) "__init__"=some (some (.ref fm0_0)))
  (lm0_0:K.lookup fm0_0=some ⟨ocm0_0,odm0_0,.func (W.fnOf "__init__" "Memory.__init__" (yav qat) (qar qat) (qac qat) .none kVm0_0 dcm0_0 pmm0_0 anm0_0 cdm0_0 ctm0_0),slm0_0⟩)
  (cm0_0:W.codeIn K cdm0_0 "Memory.__init__"=true)
  (im0_0:W.isFn K (.ref fm0_0)=true)
  (km0_0:W.keepIn K (.ref fm0_0)=true)
  {fm0_1:Addr}{odm0_1 anm0_1:Option Addr}{slm0_1:Array (Option Value)}{ocm0_1 kVm0_1 dcm0_1 pmm0_1 cdm0_1 ctm0_1:Value}
  (am0_1:W.findIn K (.ref C0) "look_at_address"=some (some (.ref fm0_1)))
  (lm0_1:K.lookup fm0_1=some ⟨ocm0_1,odm0_1,.func (W.fnOf "look_at_address" "Memory.look_at_address" (yav yak) (qar yak) (qac yak) .none kVm0_1 dcm0_1 pmm0_1 anm0_1 cdm0_1 ctm0_1),slm0_1⟩)
  (cm0_1:W.codeIn K cdm0_1 "Memory.look_at_address"=true)
  (im0_1:W.isFn K (.ref fm0_1)=true)
  (km0_1:W.keepIn K (.ref fm0_1)=true)
  {fm0_2:Addr}{odm0_2 anm0_2:Option Addr}{slm0_2:Array (Option Value)}{ocm0_2 kVm0_2 dcm0_2 pmm0_2 cdm0_2 ctm0_2:Value}
  (am0_2:W.findIn K (.ref C0) "read"=some (some (.ref fm0_2)))
  (lm0_2:K.lookup fm0_2=some ⟨ocm0_2,odm0_2,.func (W.fnOf "read" "Memory.read" (yav qa3) (qar qa3) (qac qa3) .none kVm0_2 dcm0_2 pmm0_2 anm0_2 cdm0_2 ctm0_2),slm0_2⟩)
  (cm0_2:W.codeIn K cdm0_2 "Memory.read"=true)
  (im0_2:W.isFn K (.ref fm0_2)=true)
  (km0_2:W.keepIn K (.ref fm0_2)=true)
  {fm0_3:Addr}{odm0_3 anm0_3:Option Addr}{slm0_3:Array (Option Value)}{ocm0_3 kVm0_3 dcm0_3 pmm0_3 cdm0_3 ctm0_3:Value}
  (am0_3:W.findIn K (.ref C0) "write"=some (some (.ref fm0_3)))
  (lm0_3:K.lookup fm0_3=some ⟨ocm0_3,odm0_3,.func (W.fnOf "write" "Memory.write" (yav qay) (qar qay) (qac qay) .none kVm0_3 dcm0_3 pmm0_3 anm0_3 cdm0_3 ctm0_3),slm0_3⟩)
  (cm0_3:W.codeIn K cdm0_3 "Memory.write"=true)
  (im0_3:W.isFn K (.ref fm0_3)=true)
  (km0_3:W.keepIn K (.ref fm0_3)=true)
  {fm0_4:Addr}{odm0_4 anm0_4:Option Addr}{slm0_4:Array (Option Value)}{ocm0_4 kVm0_4 dcm0_4 pmm0_4 cdm0_4 ctm0_4:Value}
  (am0_4:W.findIn K (.ref C0) "size"=some (some (.ref fm0_4)))
  (lm0_4:K.lookup fm0_4=some ⟨ocm0_4,odm0_4,.func (W.fnOf "size" "Memory.size" (yav qa2) (qar qa2) (qac qa2) .none kVm0_4 dcm0_4 pmm0_4 anm0_4 cdm0_4 ctm0_4),slm0_4⟩)
  (cm0_4:W.codeIn K cdm0_4 "Memory.size"=true)
  (im0_4:W.isFn K (.ref fm0_4)=true)
  (km0_4:W.keepIn K (.ref fm0_4)=true)
  {C1:Addr}
  (ca1:W.nsIn K mainGlobals "Little"=some (some (.ref C1)))
  (cp1:W.plainGet K C1 Str.empty=true)
  (cd1_:W.hasDictIn K C1=true)
  (co1:W.plainOver K C1=true)
  (cs1:W.findIn K (.ref C1) "__setattr__"=some (some (.builtin "object.__setattr__")))
  (cf1_0:W.findIn K (.ref C1) "harms"=some none)
  (cf1_1:W.findIn K (.ref C1) "span"=some none)
  (cf1_2:W.findIn K (.ref C1) "found"=some none)
  (cm1_:W.makesIn K C1=true)
  (ck1:W.keepIn K (.ref C1)=true)
  {fm1_0:Addr}{odm1_0 anm1_0:Option Addr}{slm1_0:Array (Option Value)}{ocm1_0 kVm1_0 dcm1_0 pmm1_0 cdm1_0 ctm1_0:Value}
  (am1_0:W.findIn K (.ref C1) "__init__"=some (some (.ref fm1_0)))
  (lm1_0:K.lookup fm1_0=some ⟨ocm1_0,odm1_0,.func (W.fnOf "__init__" "Little.__init__" (yav yas) (qar yas) (qac yas) .none kVm1_0 dcm1_0 pmm1_0 anm1_0 cdm1_0 ctm1_0),slm1_0⟩)
  (cm1_0:W.codeIn K cdm1_0 "Little.__init__"=true)
  (im1_0:W.isFn K (.ref fm1_0)=true)
  (km1_0:W.keepIn K (.ref fm1_0)=true)
  {fm1_1:Addr}{odm1_1 anm1_1:Option Addr}{slm1_1:Array (Option Value)}{ocm1_1 kVm1_1 dcm1_1 pmm1_1 cdm1_1 ctm1_1:Value}
  (am1_1:W.findIn K (.ref C1) "made_of"=some (some (.ref fm1_1)))
  (lm1_1:K.lookup fm1_1=some ⟨ocm1_1,odm1_1,.func (W.fnOf "made_of" "Little.made_of" (yav yau) (qar yau) (qac yau) .none kVm1_1 dcm1_1 pmm1_1 anm1_1 cdm1_1 ctm1_1),slm1_1⟩)
  (cm1_1:W.codeIn K cdm1_1 "Little.made_of"=true)
  (im1_1:W.isFn K (.ref fm1_1)=true)
  (km1_1:W.keepIn K (.ref fm1_1)=true)
  {fm1_2:Addr}{odm1_2 anm1_2:Option Addr}{slm1_2:Array (Option Value)}{ocm1_2 kVm1_2 dcm1_2 pmm1_2 cdm1_2 ctm1_2:Value}
  (am1_2:W.findIn K (.ref C1) "firsts"=some (some (.ref fm1_2)))
  (lm1_2:K.lookup fm1_2=some ⟨ocm1_2,odm1_2,.func (W.fnOf "firsts" "Little.firsts" (yav yaw) (qar yaw) (qac yaw) .none kVm1_2 dcm1_2 pmm1_2 anm1_2 cdm1_2 ctm1_2),slm1_2⟩)
  (cm1_2:W.codeIn K cdm1_2 "Little.firsts"=true)
  (im1_2:W.isFn K (.ref fm1_2)=true)
  (km1_2:W.keepIn K (.ref fm1_2)=true)
  {fm1_3:Addr}{odm1_3 anm1_3:Option Addr}{slm1_3:Array (Option Value)}{ocm1_3 kVm1_3 dcm1_3 pmm1_3 cdm1_3 ctm1_3:Value}
  (am1_3:W.findIn K (.ref C1) "done"=some (some (.ref fm1_3)))
  (lm1_3:K.lookup fm1_3=some ⟨ocm1_3,odm1_3,.func (W.fnOf "done" "Little.done" (yav ya3) (qar ya3) (qac ya3) .none kVm1_3 dcm1_3 pmm1_3 anm1_3 cdm1_3 ctm1_3),slm1_3⟩)
  (cm1_3:W.codeIn K cdm1_3 "Little.done"=true)
  (im1_3:W.isFn K (.ref fm1_3)=true)
  (km1_3:W.keepIn K (.ref fm1_3)=true)
  {fm1_4:Addr}{odm1_4 anm1_4:Option Addr}{slm1_4:Array (Option Value)}{ocm1_4 kVm1_4 dcm1_4 pmm1_4 cdm1_4 ctm1_4:Value}
  (am1_4:W.findIn K (.ref C1) "gone_through"=some (some (.ref fm1_4)))
  (lm1_4:K.lookup fm1_4=some ⟨ocm1_4,odm1_4,.func (W.fnOf "gone_through" "Little.gone_through" (yav yan) (qar yan) (qac yan) .none kVm1_4 dcm1_4 pmm1_4 anm1_4 cdm1_4 ctm1_4),slm1_4⟩)
  (cm1_4:W.codeIn K cdm1_4 "Little.gone_through"=true)
  (im1_4:W.isFn K (.ref fm1_4)=true)
  (km1_4:W.keepIn K (.ref fm1_4)=true) :
  ∃fd:FuncData,(∀(s:Shared) (v:Value),BindsTo s fd ⟨[v],[]⟩ [("_law_script",v)])/\∀base:Heap,K.In base->base.Ns mainGlobals mg->FnOk l.prog w K mg base CX0 14 fa fd ["_law_script"] (qjj K):=by
 have e:=hfa.symm.trans (W.mg_of X G a57)
 cases e
 have B:Bl mg:=⟨λx hx=>W.mg_none_of X G (zz x hx)⟩
 have hVE:=W.mg_none_of X G RzV
 have gm:=W.mg_of X G RM_
 have Rtl:=yil Rlk6 Rq6 Rex6
 have RX0:=qlu Rlk0 Rq0 Rtl Rga0 Rgh0 Rha0 Rhn Rtk Rhm0 Rsa0
 have RX2:=qlu Rlk2 Rq2 Rtl Rga2 Rgh2 Rha2 Rhn Rtk Rhm2 Rsa2
 have RX6:=qlu Rlk6 Rq6 Rtl Rga6 Rgh6 Rha6 Rhn Rtk Rhm6 Rsa6
 have xB6:XBare K mg "NoOrders" R6:=⟨W.mg_of X G RA6,Rkp6,RX6.toXTy,Rex6⟩
 have k0:K3 K R0 R2 R6 [R8,R3,R1,R7,R12] RM R0 0:=⟨by decide,RX0.toXTy,Ro0_0,Ro2_0,Ro6_0,kit5 Ro8_0 Ro3_0 Ro1_0 Ro7_0 Ro12_0,Rve0,Rem0⟩
 have k2:K3 K R0 R2 R6 [R8,R3,R1,R7,R12] RM R2 1:=⟨by decide,RX2.toXTy,Ro0_2,Ro2_2,Ro6_2,kit5 Ro8_2 Ro3_2 Ro1_2 Ro7_2 Ro12_2,Rve2,Rem2⟩
 have k6:K3 K R0 R2 R6 [R8,R3,R1,R7,R12] RM R6 2:=⟨by decide,RX6.toXTy,Ro0_6,Ro2_6,Ro6_6,kit5 Ro8_6 Ro3_6 Ro1_6 Ro7_6 Ro12_6,Rve6,Rem6⟩
 have yhf:mg "set"=none:=W.mg_none_of X G zset
 have yds:mg "zip"=none:=W.mg_none_of X G zzip
 have qgu:mg "all"=none:=W.mg_none_of X G zall
 have g_MC:∃t,mg "MOST_CELLS"=some (.int 64 t):=⟨_,W.mg_of X G aMC⟩
 have g_MH:∃t,mg "MOST_HARMS"=some (.int 3 t):=⟨_,W.mg_of X G aMH⟩
 have g_MU:∃t,mg "MOST_UNLIKE"=some (.int 3 t):=⟨_,W.mg_of X G aMU⟩
 have g_J:GTup K mg "JOININGS" [.str "and",.str "or"]:=qhg (W.mg_of X G aJ) lJ zl (.cons ⟨_,rfl⟩ (.cons ⟨_,rfl⟩ .nil))
 have gP:=W.mg_of X G aP
 have sp0:∀H,SqT K H qp0 [.str "cell",.str "bit"]:=ydq tp0 zl (.cons ⟨_,rfl⟩ (.cons ⟨_,rfl⟩ .nil))
 have sp1:∀H,SqT K H qp1 [.str "cell",.str "bit"]:=ydq tp1 zl (.cons ⟨_,rfl⟩ (.cons ⟨_,rfl⟩ .nil))
 have sp2:∀H,SqT K H qp2 [.str "cell",.str "bit"]:=ydq tp2 zl (.cons ⟨_,rfl⟩ (.cons ⟨_,rfl⟩ .nil))
 have sp3:∀H,SqT K H qp3 [.str "cell",.str "bit"]:=ydq tp3 zl (.cons ⟨_,rfl⟩ (.cons ⟨_,rfl⟩ .nil))
 have sp4:∀H,SqT K H qp4 [.str "cell",.str "cell",.str "bit"]:=ydq tp4 zl (.cons ⟨_,rfl⟩ (.cons ⟨_,rfl⟩ (.cons ⟨_,rfl⟩ .nil)))
 have sp5:∀H,SqT K H qp5 [.str "cell",.str "cell",.str "bit",.str "bit"]:=ydq tp5 zl (.cons ⟨_,rfl⟩ (.cons ⟨_,rfl⟩ (.cons ⟨_,rfl⟩ (.cons ⟨_,rfl⟩ .nil))))
 have sp6:∀H,SqT K H qp6 [.str "cell",.str "cell",.str "bit",.str "bit"]:=ydq tp6 zl (.cons ⟨_,rfl⟩ (.cons ⟨_,rfl⟩ (.cons ⟨_,rfl⟩ (.cons ⟨_,rfl⟩ .nil))))
 have sp7:∀H,SqT K H qp7 [.str "cell",.str "bit"]:=ydq tp7 zl (.cons ⟨_,rfl⟩ (.cons ⟨_,rfl⟩ .nil))
 have sp8:∀H,SqT K H qp8 [.str "cell",.str "cell"]:=ydq tp8 zl (.cons ⟨_,rfl⟩ (.cons ⟨_,rfl⟩ .nil))
 have sp9:∀H,SqT K H qp9 [.str "cell",.str "cell",.str "how"]:=ydq tp9 zl (.cons ⟨_,rfl⟩ (.cons ⟨_,rfl⟩ (.cons ⟨_,rfl⟩ .nil)))
 have TP:TabK K tP tabP:=⟨mP,_,_,_,lP,⟨rfl,rfl,rfl⟩,rfl,(.cons rfl ⟨_,rfl,sp0⟩ (.cons rfl ⟨_,rfl,sp1⟩ (.cons rfl ⟨_,rfl,sp2⟩ (.cons rfl ⟨_,rfl,sp3⟩ (.cons rfl ⟨_,rfl,sp4⟩ (.cons rfl ⟨_,rfl,sp5⟩ (.cons rfl ⟨_,rfl,sp6⟩ (.cons rfl ⟨_,rfl,sp7⟩ (.cons rfl ⟨_,rfl,sp8⟩ (.cons rfl ⟨_,rfl,sp9⟩ .nil))))))))))⟩
 have cm:CM K C0:=⟨⟨cp0,cd0_,co0,cs0⟩,cf0_0,cf0_1⟩
 have FI2:=qba (st:=ydj) RlI2 RcI2 RkI2
 have FI0:=qba (st:=qeh) RlI0 RcI0 RkI0
 have z_rev:mg "reversed"=none:=W.mg_none_of X G zrv
 have qhc:GTup K mg "ORDERS" [.str "up",.str "down",.str "any"]:=qhg (W.mg_of X G aO) lO zl (.cons ⟨_,rfl⟩ (.cons ⟨_,rfl⟩ (.cons ⟨_,rfl⟩ .nil)))
 have yfd:GTup K mg "LETTERS" [.str "r",.str "w"]:=qhg (W.mg_of X G aL) lL zl (.cons ⟨_,rfl⟩ (.cons ⟨_,rfl⟩ .nil))
 have yiv:GTup K mg "TAKEN" [.str "up",.str "down"]:=qhg (W.mg_of X G aK) lK zl (.cons ⟨_,rfl⟩ (.cons ⟨_,rfl⟩ .nil))
 have g_T:∃t,mg "MOST_IN_TEST"=some (.int 8 t):=⟨_,W.mg_of X G aT⟩
 have g_E:∃t,mg "MOST_IN_ELEMENT"=some (.int 6 t):=⟨_,W.mg_of X G aE⟩
 have cl:CL K C1:=⟨⟨cp1,cd1_,co1,cs1⟩,cf1_0,cf1_1,cf1_2⟩
 have F0:FnAt K mg "is_whole" ycq ["thing"]:=p0.a1 X G
 have F1:FnAt K mg "is_bit" yd9 ["thing"]:=p1.a1 X G
 have F6:FnAt K mg "cells_in" qcp ["harm"]:=p6.a1 X G
 have FL:=qba (st:=qg1) l57 c57 k57
 refine ⟨W.fnOf "law" "law" (yav qg1) (qar qg1) (qac qg1) .none kV57 dc57 pm57 an57 cd57 ct57,λs v=>.of_eq rfl,λbase _ _=>?_⟩
 have M0___init__:qbg K C0 "__init__" "Memory.__init__" qat ["self","size","harms","contents"]:=⟨fm0_0,_,⟨am0_0,im0_0,km0_0⟩,qba (st:=qat) lm0_0 cm0_0 km0_0,Fun.binds (qba (st:=qat) lm0_0 cm0_0 km0_0) λ_ _ _ _ _ _=>lenS λ_=>lenS λ_=>lenS λ_=>lenS λ_=>len0 rfl⟩
 have M0_look_at_address:qbg K C0 "look_at_address" "Memory.look_at_address" yak ["self","address"]:=⟨fm0_1,_,⟨am0_1,im0_1,km0_1⟩,qba (st:=yak) lm0_1 cm0_1 km0_1,Fun.binds (qba (st:=yak) lm0_1 cm0_1 km0_1) λ_ _ _ _ _ _=>lenS λ_=>lenS λ_=>len0 rfl⟩
 have M0_read:qbg K C0 "read" "Memory.read" qa3 ["self","address"]:=⟨fm0_2,_,⟨am0_2,im0_2,km0_2⟩,qba (st:=qa3) lm0_2 cm0_2 km0_2,Fun.binds (qba (st:=qa3) lm0_2 cm0_2 km0_2) λ_ _ _ _ _ _=>lenS λ_=>lenS λ_=>len0 rfl⟩
 have M0_write:qbg K C0 "write" "Memory.write" qay ["self","address","bit"]:=⟨fm0_3,_,⟨am0_3,im0_3,km0_3⟩,qba (st:=qay) lm0_3 cm0_3 km0_3,Fun.binds (qba (st:=qay) lm0_3 cm0_3 km0_3) λ_ _ _ _ _ _=>lenS λ_=>lenS λ_=>lenS λ_=>len0 rfl⟩
 have M0_size:qbg K C0 "size" "Memory.size" qa2 ["self"]:=⟨fm0_4,_,⟨am0_4,im0_4,km0_4⟩,qba (st:=qa2) lm0_4 cm0_4 km0_4,Fun.binds (qba (st:=qa2) lm0_4 cm0_4 km0_4) λ_ _ _ _ _ _=>lenS λ_=>len0 rfl⟩
 have M1___init__:qbg K C1 "__init__" "Little.__init__" yas ["self","harms","span"]:=⟨fm1_0,_,⟨am1_0,im1_0,km1_0⟩,qba (st:=yas) lm1_0 cm1_0 km1_0,Fun.binds (qba (st:=yas) lm1_0 cm1_0 km1_0) λ_ _ _ _ _ _=>lenS λ_=>lenS λ_=>lenS λ_=>len0 rfl⟩
 have M1_made_of:qbg K C1 "made_of" "Little.made_of" yau ["self","contents"]:=⟨fm1_1,_,⟨am1_1,im1_1,km1_1⟩,qba (st:=yau) lm1_1 cm1_1 km1_1,Fun.binds (qba (st:=yau) lm1_1 cm1_1 km1_1) λ_ _ _ _ _ _=>lenS λ_=>lenS λ_=>len0 rfl⟩
 have M1_firsts:qbg K C1 "firsts" "Little.firsts" yaw ["self"]:=⟨fm1_2,_,⟨am1_2,im1_2,km1_2⟩,qba (st:=yaw) lm1_2 cm1_2 km1_2,Fun.binds (qba (st:=yaw) lm1_2 cm1_2 km1_2) λ_ _ _ _ _ _=>lenS λ_=>len0 rfl⟩
 have M1_done:qbg K C1 "done" "Little.done" ya3 ["self","contents","address","step"]:=⟨fm1_3,_,⟨am1_3,im1_3,km1_3⟩,qba (st:=ya3) lm1_3 cm1_3 km1_3,Fun.binds (qba (st:=ya3) lm1_3 cm1_3 km1_3) λ_ _ _ _ _ _=>lenS λ_=>lenS λ_=>lenS λ_=>lenS λ_=>len0 rfl⟩
 have M1_gone_through:qbg K C1 "gone_through" "Little.gone_through" yan ["self","contents","doings"]:=⟨fm1_4,_,⟨am1_4,im1_4,km1_4⟩,qba (st:=yan) lm1_4 cm1_4 km1_4,Fun.binds (qba (st:=yan) lm1_4 cm1_4 km1_4) λ_ _ _ _ _ _=>lenS λ_=>lenS λ_=>lenS λ_=>len0 rfl⟩
 have xH:=(show qj7 l.prog w K mg base "NoHarms" R2 ["self","number"] (sp_x1 R2 "number") from ⟨W.mg_of X G RA2,Rkp2,RX2,_,_,Rhi2,Rhf2,FI2.binds (λ_ _ _ _ _ _ us hl=>match us,hl with|[_,_],_=>rfl),qk3 FI2 RX2 Rn2_0⟩)
 have xT:=(show qj7 l.prog w K mg base "NoTest" R0 ["self","element","step"] (sp_x2 R0 "element" "step") from ⟨W.mg_of X G RA0,Rkp0,RX0,_,_,Rhi0,Rhf0,FI0.binds (λ_ _ _ _ _ _ us hl=>match us,hl with|[_,_,_],_=>rfl),ok_iTest FI0 RX0 Rn0_0 Rn0_1⟩)
 have h0:=qik (P:=l.prog) (w:=w) (base:=base) B F0
 have h1:=qk2 h0 F1
 have gw:=og_whole (P:=l.prog) (w:=w) (base:=base) B F0
 have gb:=og_bit gw F1
 have h2:=og_one (P:=l.prog) (w:=w) (base:=base) B (p2.a2 X G)
 have h3:=og_cell g_MC gw (p3.a1 X G)
 have h4:=og_part g_J h3 gb h2 (p4.a2 X G)
 have h5:=og_word (P:=l.prog) (w:=w) (base:=base) B gP TP (p5.a1 X G)
 have h6:=yi5 (P:=l.prog) (w:=w) (base:=base) B yds gP TP F6
 have gci:=yi6 (P:=l.prog) (w:=w) (base:=base) B yds gP TP F6
 have h7:=og_parts B yds qgu gP TP h4 (p7.a1 X G)
 have h8:=og_harm B yhf h5 h7 gci (p8.a1 X G)
 have h9:=og_harms B xH yhf g_MH g_MU h8 h6 (p9.a1 X G)
 have h10:=yij B yhf h9 h6 (p10.a1 X G)
 have c0_:=qmo h10
 have h11:=qmv (P:=l.prog) (w:=w) (base:=base) (p11.a2 X G)
 have h12:=ok_put0 h11 (p12.a4 X G)
 have h13:=ykf B h11 h12 (p13.a2 X G)
 have h14:=ok_hoa0 (P:=l.prog) (w:=w) (base:=base) (p14.a2 X G)
 have h15:=ykv (P:=l.prog) (w:=w) (base:=base) (p15.a2 X G)
 have h16:=qkp h12 (p16.a3 X G)
 have h17:=ok_rat0 B h14 h15 h16 (p17.a3 X G)
 have h18:=ok_slow0 (P:=l.prog) (w:=w) (base:=base) (p18.a4 X G)
 have h19:=ok_kept0 (P:=l.prog) (w:=w) (base:=base) (p19.a4 X G)
 have h20:=ok_act0 h12 (p20.a3 X G)
 have h21:=ymf h18 h12 h19 h20 (p21.a4 X G)
 have h22:=ok_wat0 h14 h15 h21 (p22.a4 X G)
 have h23:=qj9 g_MC h0 (p23.a1 X G)
 have h24:=yfr B qgu h1 (p24.a2 X G)
 have h25:=ok_lmem0 B c0_ h23 h24 (p25.a3 X G)
 have h26:=yf9 h1 (p26.a1 X G)
 have qek:=yk2 B cm h0 M0_look_at_address
 have yiu:=yli cm qek h17 M0_read
 have yg0:=qka cm qek h26 h22 M0_write
 have qit:=qk0 (P:=l.prog) (w:=w) (base:=base) B cm M0_size
 have hm_init:=ylq B cm h25 h13 M0___init__
 have yfm:=HasI.of (x:="Memory") (m:="Memory") (W.mg_of X G ca0) ⟨cm0_,am0_0,im0_0,ck0⟩ (λg h=>qmw am0_0 h) hm_init
 have h27:=og_pair (P:=l.prog) (w:=w) (base:=base) B (p27.a1 X G)
 have h28:=og_fill (P:=l.prog) (w:=w) (base:=base) B (p28.a2 X G)
 have h29:=og_step yfd h27 h2 gb (p29.a1 X G)
 have h30:=og_frame qhc g_E h27 h2 h28 (p30.a1 X G)
 have h31:=og_elem B xT h30 h29 (p31.a2 X G)
 have h32:=og_look B xT g_T h28 h31 (p32.a1 X G)
 have lt0:=ok_look0 h32
 have h33:=og_order yiv h2 (p33.a2 X G)
 have h34:=yl8 B yds qgu h33 (p34.a2 X G)
 have h35:=yj6 xB6 h34 (p35.a2 X G)
 have lo0:=ok_lord0 h35
 have h36:=qj4 (P:=l.prog) (w:=w) (base:=base) (p36.a2 X G)
 have h37:=ykg B yds c0_ h36 (p37.a2 X G)
 have h38:=qkc B c0_ h37 (p38.a1 X G)
 have h39:=qiy (P:=l.prog) (w:=w) (base:=base) (p39.a2 X G)
 have h40:=ok_deeds (P:=l.prog) (w:=w) (base:=base) B (p40.a3 X G)
 have h41:=ok_allc (P:=l.prog) (w:=w) (base:=base) B (p41.a1 X G)
 have h42:=qkk B h17 h22 (p42.a4 X G)
 have qix:=qml cl h42 M1_done
 have qis:=yl2 B cl h13 M1_made_of
 have qin:=yky cl qix M1_gone_through
 have hl_init:=ql2 (P:=l.prog) (w:=w) (base:=base) B cl M1___init__
 have ye9:=yio cl h41 qis M1_firsts
 have qf0:=HasI.of (x:="Little") (m:="Little") (W.mg_of X G ca1) ⟨cm1_,am1_0,im1_0,ck1⟩ (λg h=>qmw am1_0 h) hl_init
 have h43:=ykb B cm h40 yiu yg0 qit (p43.a3 X G)
 have h44:=qma lt0 yfm lo0 h43 (p44.a5 X G)
 have h45:=ylz B z_rev h40 (p45.a4 X G)
 have h46:=ok_cat0 B cl h38 qf0 ye9 qin (p46.a3 X G)
 have h47:=qmr B h46 (p47.a2 X G)
 have h48:=ok_fits0 B c0_ h46 (p48.a3 X G)
 have h49:=og_fit B h32 h35 h45 h39 h47 h48 (p49.a5 X G)
 have h50:=og_cfor B h32 h9 h35 h45 c0_ h47 h48 h46 (p50.a5 X G)
 have h51:=ymw (P:=l.prog) (w:=w) (base:=base) B (p51.a3 X G)
 have h52:=ok_test7 (P:=l.prog) (w:=w) (base:=base) B (p52.a2 X G)
 have h53:=ok_lords (P:=l.prog) (w:=w) (base:=base) B (p53.a2 X G)
 have h54:=ok_lbo (P:=l.prog) (w:=w) (base:=base) B (p54.a3 X G)
 have h55:=ok_lbt (P:=l.prog) (w:=w) (base:=base) B (p55.a2 X G)
 have h56:=ok_ltold B hVE gm (W.mg_of X G RA0) (W.mg_of X G RA1) (W.mg_of X G RA2) (W.mg_of X G RA3) (W.mg_of X G RA6) (W.mg_of X G RA7) (W.mg_of X G RA8) (W.mg_of X G RA12) k0 k2 k6 h49 h50 (p56.a5 X G)
 exact ok_law B h51 h52 h53 h44 h54 h55 h56 FL
theorem walk{l:W.OpenLaw}{q:Program}{loose:List Str}{XP:(Str->Option Value)->Heap->Prop}{YP:World->Heap->Prop}{d:DefRec}{K:Params->W.Frag}(hn:l.most=some 63)(hdf:d.params.defaults=[])
  (hY:∀(w:World) (h:Heap),YP w h->(K w.params).In h)
  (F:∀(w:World) (mg:Str->Option Value) (fa:Addr) (h:Heap),(K w.params).In h->h.Ns mainGlobals mg->mg d.name=some (.ref fa)->
   ∃fd:FuncData,(∀(s:Shared) (u:Value),BindsTo s fd ⟨[u],[]⟩ [("_law_script",u)])/\∀base:Heap,(K w.params).In base->base.Ns mainGlobals mg->FnOk l.prog w (K w.params) mg base CX0 14 fa fd ["_law_script"] (qjj (K w.params))) :
  W.WalkO q loose XP YP l.row.toRowW d [] (λf vs=>PySem.call f vs):=
 L2.walk_of (n:=63) (k:=14) (x:="_law_script") (CX:=λ_=>CX0) (sp:=λw=>qjj (K w.params)) hn (by decide) hdf ⟨rfl,by decide,by decide,rfl⟩ hY F (λ_ _ a ns hl _ hS=>⟨a,ns,rfl,hS,hl,λ_=>rfl⟩) λ_ _ _ _ _ z=>z
end Mh
namespace PySem.W.Fast
def tw9769523537681357010:=0
def tw9956909743136517430:=0
def tw4983060711000821680:=0
def tw15920532985540500115:=0
def tw3903861004360680641:=0
def tw2868523201026207705:=0
def tw10090706695133535525:=0
def tw6355631715726173979:=0
def tw1627346798637733630:=PySem.Challenge.pw_marchmend_k36_no_orders_named
theorem te1627346798637733630:PySem.Challenge.pw_marchmend_k36_no_orders_named=tw1627346798637733630:=rfl
def tw15655514251527410067:=0
def tw16372012181866663614:=0
def tw10096183810769861243:=0
def tw14428042351910282370:=0
def tw15119093648980536280:=0
def tw17816850143003767026:=0
def tw14666150991008356048:=0
def tw6179973403143653049:=0
def tw12708213844155675351:=0
def tw14608243107325462800:=0
def tw3732334780276972201:=0
def tw17926580105349478933:=0
def tw14932721619091981670:=0
def tw11027702503433573077:=0
def tw13993926415663059620:=0
def tw12640826956702188236:=0
def tw4783591427045354414:=0
def tw1653531083461681509:=0
def tw9976336038700235366:=0
def tw13943576742323730835:=0
def tw8373747444708292526:=0
def tw7830205559365792106:=0
def tw18238630136765506633:=0
def tw3315177058916855449:=0
def tw11647213339737081266:=0
def tw12001179663607581842:=0
def tw14521977460499987503:=0
def tw14544073300558359175:=0
def tw482981503415841044:=0
def tw10286684263055351361:=0
def tw6188197534617690572:=0
def tw8519252118340628253:=0
def tw6490544257615170428:=0
def tw16135365753232468319:=0
def tw13044261470844108761:=0
def tw14004815916436068941:=0
def tw116630916469447968:=0
def tw17712983490204914359:=0
def tw75021492546455891:=0
def tw6406574527185823962:=0
def tw1492055507601166671:=0
def tw795172598403431825:=0
def tw4883960648936666141:=0
def tw14058102434732072560:=0
def tw6313805470739572804:=0
def tw15457961115641264728:=0
def tw18303872644648437947:=0
def tw12000561620443669659:=0
def tw13255288392173188728:=0
def tw3760509175216980397:=0
def tw1521394326568452787:=0
def tw15227245782426653254:=0
def tw17830946854347125064:=0
def tw4713192355989632662:=0
def tw10841417621891223181:=0
def tw12950932745632078212:=0
def tw5123366193526895547:=0
def tw11964804227432417979:=0
def tw10550565617521529101:=0
def tw7034218969040068763:=0
def tw11130270520040459716:=0
def tw14261284531360906710:=0
def tw8347391284842384892:=0
def tw7303293117645953369:=0
def tw7864868989902492671:=0
def tw16862143820639505750:=0
def tw11053247405473648207:=0
def tw15281026479345025178:=0
def tw6770462734108956857:=0
def tw18184824069180335907:=0
def tw1235435590221218238:=0
def tw8772156898724871606:=0
def tw7604729338676668032:=0
def tw6337183670576113796:=0
def tw13818057898134313219:=0
def tw12213721138904781012:=0
def tw11838179051156645253:=0
def tw7478652478017100401:=0
def tw18264960042827063234:=0
def tw11732799929323561001:=0
def tw9063173462526000836:=0
def tw16100530594290807688:=0
def tw3233185371584145326:=0
def tw5757992528298645093:=0
def tw8862848692685017550:=0
def tw12269485837206423160:=0
def tw2008598399972700444:=0
def tw6616711756175635455:=0
def tw5689379662710533758:=0
def tw17484334780285912973:=0
def tw12909918825476825:=0
def tw15779907344424502018:=0
def tw11515586693973458763:=0
def tw13577411064262994509:=0
def tw118383227872701361:=0
def tw11694793207422546529:=0
def tw9463655930473484920:=0
def tw5492113561051925101:=0
def tw16270724979699472884:=0
def tw2659125008065182254:=0
def tw8032354570499705667:=0
def tw17382903980557112839:=0
def tw13856172704455706630:=0
def tw17825159960429750243:=0
def tw11908583814486457494:=0
def tw14509253169053714816:=0
def tw10264359700801473458:=0
def tw585088469380715794:=0
def tw127074520476112467:=0
def tw15761619979190538066:=0
def tw10961261828091137997:=0
def tw16684255083653810691:=0
def tw10782504691818926658:=0
def tw16485881132982907415:=0
def tw6058164591617841910:=0
def tw12298326559779329406:=0
def tw14224660936483400213:=0
def tw7982827192739180993:=0
def tw3999445532089334634:=0
def tw4830946161182108862:=0
def tw11043047840461133771:=0
def tw942020531720786198:=0
def tw12069509499780732521:=0
def tw1244105765792181108:=0
def tw10768226816400608027:=0
def tw570754770867569978:=0
def tw414786147435596226:=0
def tw9728165122286876649:=0
def tw10264637250262083367:=0
def tw1805681827309025817:=0
def tw17234402948759506475:=0
def tw7255602516189141090:=0
def tw1035365066983284198:=0
def tw2363372555518846937:=0
def tw13080463879815795858:=0
def tw14915109213213651986:=0
def tw3552177492679140673:=0
end PySem.W.Fast
open PySem PySem.W PyProof.Rows
set_option maxRecDepth 100000 in
set_option maxHeartbeats 0 in
theorem PySem.Challenge.cw_marchmend_k36_no_orders_named_holds : PySem.Challenge.rw_marchmend_k36_no_orders_named.Holds := by
  w_on; o_law; k_head; (case hw=>w_witness2)
  k_fill
  refine Mh.walk (l:=PySem.Challenge.rw_marchmend_k36_no_orders_named) rfl rfl (fun w h Y=>PySem.W.kIn_of Y) ?F
  case F=>
    intro w mg fa h KX G hmg
    refine' Mh.all_mk KX G hmg ?p0 ?p1 ?p2 ?p3 ?p4 ?p5 ?p6 ?p7 ?p8 ?p9 ?p10 ?p11 ?p12 ?p13 ?p14 ?p15 ?p16 ?p17 ?p18 ?p19 ?p20 ?p21 ?p22 ?p23 ?p24 ?p25 ?p26 ?p27 ?p28 ?p29 ?p30 ?p31 ?p32 ?p33 ?p34 ?p35 ?p36 ?p37 ?p38 ?p39 ?p40 ?p41 ?p42 ?p43 ?p44 ?p45 ?p46 ?p47 ?p48 ?p49 ?p50 ?p51 ?p52 ?p53 ?p54 ?p55 ?p56 ?a57 ?l57 ?c57 ?k57 ?zz ?RA0 ?RA1 ?RA2 ?RA3 ?RA6 ?RA7 ?RA8 ?RA12 ?RM_ ?Rlk0 ?Rq0 ?Rlk2 ?Rq2 ?Rlk6 ?Rq6 ?Rex6 ?Rkp0 ?Rga0 ?Rgh0 ?Rha0 ?Rhm0 ?Rsa0 ?Ro0_0 ?Ro1_0 ?Ro2_0 ?Ro3_0 ?Ro6_0 ?Ro7_0 ?Ro8_0 ?Ro12_0 ?Rve0 ?Rem0 ?Rn0_0 ?Rn0_1 ?Rhi0 ?Rhf0 ?RlI0 ?RcI0 ?RkI0 ?Rkp2 ?Rga2 ?Rgh2 ?Rha2 ?Rhm2 ?Rsa2 ?Ro0_2 ?Ro1_2 ?Ro2_2 ?Ro3_2 ?Ro6_2 ?Ro7_2 ?Ro8_2 ?Ro12_2 ?Rve2 ?Rem2 ?Rn2_0 ?Rhi2 ?Rhf2 ?RlI2 ?RcI2 ?RkI2 ?Rkp6 ?Rga6 ?Rgh6 ?Rha6 ?Rhm6 ?Rsa6 ?Ro0_6 ?Ro1_6 ?Ro2_6 ?Ro3_6 ?Ro6_6 ?Ro7_6 ?Ro8_6 ?Ro12_6 ?Rve6 ?Rem6 ?Rhn ?Rtk ?RzV ?zset ?zzip ?zall ?aMC ?aMH ?aMU ?aJ ?lJ ?aP ?lP ?mP ?tp0 ?tp1 ?tp2 ?tp3 ?tp4 ?tp5 ?tp6 ?tp7 ?tp8 ?tp9 ?zrv ?aO ?lO ?aL ?lL ?aK ?lK ?aT ?aE ?ca0 ?cp0 ?cd0_ ?co0 ?cs0 ?cf0_0 ?cf0_1 ?cm0_ ?ck0 ?am0_0 ?lm0_0 ?cm0_0 ?im0_0 ?km0_0 ?am0_1 ?lm0_1 ?cm0_1 ?im0_1 ?km0_1 ?am0_2 ?lm0_2 ?cm0_2 ?im0_2 ?km0_2 ?am0_3 ?lm0_3 ?cm0_3 ?im0_3 ?km0_3 ?am0_4 ?lm0_4 ?cm0_4 ?im0_4 ?km0_4 ?ca1 ?cp1 ?cd1_ ?co1 ?cs1 ?cf1_0 ?cf1_1 ?cf1_2 ?cm1_ ?ck1 ?am1_0 ?lm1_0 ?cm1_0 ?im1_0 ?km1_0 ?am1_1 ?lm1_1 ?cm1_1 ?im1_1 ?km1_1 ?am1_2 ?lm1_2 ?cm1_2 ?im1_2 ?km1_2 ?am1_3 ?lm1_3 ?cm1_3 ?im1_3 ?km1_3 ?am1_4 ?lm1_4 ?cm1_4 ?im1_4 ?km1_4
    (case p0|p1|p2|p3|p4|p5|p6|p7|p8|p9|p10|p11|p12|p13|p14|p15|p16|p17|p18|p19|p20|p21|p22|p23|p24|p25|p26|p27|p28|p29|p30|p31|p32|p33|p34|p35|p36|p37|p38|p39|p40|p41|p42|p43|p44|p45|p46|p47|p48|p49|p50|p51|p52|p53|p54|p55|p56=>exact ⟨_,_,_,_,_,_,_,_,_,_,by k_is,by k_is,by k_is,by k_is⟩)
    (case a57|l57|c57|k57=>k_is)
    (case zz=>intro x hx; unfold L2.ygr at hx; simp only [List.mem_cons,List.not_mem_nil,or_false] at hx; rcases hx with rfl | rfl | rfl | rfl | rfl | rfl | rfl | rfl | rfl | rfl | rfl | rfl | rfl | rfl | rfl | rfl <;> k_is)
    (case RA0|RA1|RA2|RA3|RA6|RA7|RA8|RA12|RM_|Rlk0=>k_is)
    (case Rq0=>rfl)
    (case Rlk2=>k_is)
    (case Rq2=>rfl)
    (case Rlk6=>k_is)
    (case Rq6=>rfl)
    (case Rex6=>k_exc)
    (case Rkp0|Rga0|Rgh0|Rha0|Rhm0|Rsa0=>k_is)
    (case Ro0_0|Ro1_0|Ro2_0|Ro3_0|Ro6_0|Ro7_0|Ro8_0|Ro12_0|Rve0=>kit_is)
    (case Rem0=>kts_exm)
    (case Rn0_0|Rn0_1|Rhi0|Rhf0|RlI0|RcI0|RkI0|Rkp2|Rga2|Rgh2|Rha2|Rhm2|Rsa2=>k_is)
    (case Ro0_2|Ro1_2|Ro2_2|Ro3_2|Ro6_2|Ro7_2|Ro8_2|Ro12_2|Rve2=>kit_is)
    (case Rem2=>kts_exm)
    (case Rn2_0|Rhi2|Rhf2|RlI2|RcI2|RkI2|Rkp6|Rga6|Rgh6|Rha6|Rhm6|Rsa6=>k_is)
    (case Ro0_6|Ro1_6|Ro2_6|Ro3_6|Ro6_6|Ro7_6|Ro8_6|Ro12_6|Rve6=>kit_is)
    (case Rem6=>kts_exm)
    (case Rhn|Rtk|RzV|zset|zzip|zall|aMC|aMH|aMU|aJ|lJ|aP|lP=>k_is)
    (case mP=>rfl)
    (case tp0|tp1|tp2|tp3|tp4|tp5|tp6|tp7|tp8|tp9|zrv|aO|lO|aL|lL|aK|lK|aT|aE|ca0|cp0|cd0_|co0|cs0|cf0_0|cf0_1|cm0_|ck0|am0_0|lm0_0|cm0_0|im0_0|km0_0|am0_1|lm0_1|cm0_1|im0_1|km0_1|am0_2|lm0_2|cm0_2|im0_2|km0_2|am0_3|lm0_3|cm0_3|im0_3|km0_3|am0_4|lm0_4|cm0_4|im0_4|km0_4|ca1|cp1|cd1_|co1|cs1|cf1_0|cf1_1|cf1_2|cm1_|ck1|am1_0|lm1_0|cm1_0|im1_0|km1_0|am1_1|lm1_1|cm1_1|im1_1|km1_1|am1_2|lm1_2|cm1_2|im1_2|km1_2|am1_3|lm1_3|cm1_3|im1_3|km1_3|am1_4|lm1_4|cm1_4|im1_4|km1_4=>k_is)
#print axioms PySem.Challenge.cw_marchmend_k36_no_orders_named_holds
